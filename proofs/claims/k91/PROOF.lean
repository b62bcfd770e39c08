import PyProof.Rows.All
import Wide.All
import OpenK.AllK
import Wide.FinOn
import Lean
import PyProof.EqAt
import PyProof.EqKinds
import PyProof.TupleCall
import PyProof.NeKinds
import PyProof.ConsumeWalk
import PyProof.SumAny
import PyProof.Rows.SumGenD
import KE.KIntText
import KE.IntTextLaws
import PyProof.Rows.FStr
import PyProof.Rows.StrNews
import PyProof.StrLawsTight
import PyProof.StrWalks
import PyProof.StrLawsIn
import PyProof.ZipIter
import PyProof.EnumMake
import KE.IntBitsLaws
import PyProof.WalkInts
import PyProof.MinMaxWalk
import PyProof.TupleOfSeq
import PyProof.Rows.SortShell
import PyProof.Rows.StrBin
import PySem.Challenge.RW_lettertoll_k91_books_written_and_read
set_option Elab.async false
set_option linter.all false
set_option maxRecDepth 100000
namespace L2
open PySem PySem.Spec PyProof.Rows
abbrev Key := Sum Int Str
def keyIs : Key → Value → Bool
  | .inl k, v => Value.isInt k v
  | .inr x, v => Value.isStrOf x v
def keyH (w : World) : Key → Int
  | .inl k => hashInt k
  | .inr x => hashStr w x
theorem keyIs_shape : ∀ {k : Key} {v : Value}, keyIs k v = true → (∃ i t, k = Sum.inl i ∧ v = Value.int i t) ∨ (∃ x t, k = Sum.inr x ∧ v = Value.str x t)
  | .inl i, v, h => by
    obtain ⟨t, e⟩ := Value.isInt_shape (k := i) (v := v) h
    exact .inl ⟨i, t, rfl, e⟩
  | .inr x, v, h => by
    obtain ⟨t, e⟩ := Value.isStrOf_shape (x := x) (v := v) h
    exact .inr ⟨x, t, rfl, e⟩
theorem key_ll (a b : Int) : decide ((Sum.inl a : Key) = Sum.inl b) = (a == b) := by
  by_cases e : a = b
  · subst e; simp
  · have h : ¬ (Sum.inl a : Key) = Sum.inl b := fun q => e (Sum.inl.inj q)
    rw [decide_eq_false h]
    exact (beq_eq_false_iff_ne.mpr e).symm
theorem key_rr (a b : Str) : decide ((Sum.inr a : Key) = Sum.inr b) = decide (a = b) := by
  by_cases e : a = b
  · subst e; simp
  · have h : ¬ (Sum.inr a : Key) = Sum.inr b := fun q => e (Sum.inr.inj q)
    rw [decide_eq_false h, decide_eq_false e]
theorem key_lr (a : Int) (b : Str) : decide ((Sum.inl a : Key) = Sum.inr b) = false := decide_eq_false (fun q => nomatch q)
theorem key_rl (a : Str) (b : Int) : decide ((Sum.inr a : Key) = Sum.inl b) = false := decide_eq_false (fun q => nomatch q)
def mixKind (prog : Program) (w : World) : PySem.KeyKind prog w Key where
  is := keyIs
  hash := keyH w
  inj := fun v a b ha hb => by
    rcases keyIs_shape ha with ⟨i, t, rfl, rfl⟩ | ⟨x, t, rfl, rfl⟩
    · rcases keyIs_shape hb with ⟨j, u, rfl, e⟩ | ⟨y, u, rfl, e⟩
      · injection e with e1 _; rw [e1]
      · exact nomatch e
    · rcases keyIs_shape hb with ⟨j, u, rfl, e⟩ | ⟨y, u, rfl, e⟩
      · exact nomatch e
      · injection e with e1 _; rw [e1]
  byValue := fun k v h => by
    rcases keyIs_shape h with ⟨i, t, rfl, rfl⟩ | ⟨x, t, rfl, rfl⟩ <;> rfl
  pyHash := fun hv h => by
    rcases keyIs_shape hv with ⟨i, t, rfl, rfl⟩ | ⟨x, t, rfl, rfl⟩
    · exact wpAny_pyHash_int h
    · exact wpAny_pyHash_str h
  eqBool := fun hu hv h => by
    rcases keyIs_shape hu with ⟨i, t, rfl, rfl⟩ | ⟨x, t, rfl, rfl⟩
    · rcases keyIs_shape hv with ⟨j, u, rfl, rfl⟩ | ⟨y, u, rfl, rfl⟩
      · rw [key_ll] at h; exact wpAny_eqBool_int h
      · rw [key_lr] at h; exact SeqAt.EqAt.int_str i t y u _ _ _ _ h
    · rcases keyIs_shape hv with ⟨j, u, rfl, rfl⟩ | ⟨y, u, rfl, rfl⟩
      · rw [key_rl] at h; exact SeqAt.EqAt.str_int x t j u _ _ _ _ h
      · rw [key_rr] at h; exact wpAny_eqBool_str h
  «strs» := fun k x t v h => by
    rcases keyIs_shape h with ⟨i, u, rfl, e⟩ | ⟨y, u, rfl, e⟩
    · exact nomatch e
    · injection e with e1 _
      subst e1
      cases v <;> rfl
end L2
namespace L2
open PySem PySem.Spec PyProof.Rows
inductive V where
  | non | bl (b : Bool) | int (i : Int) | str (x : Str) | byt (b : Array UInt8) | flt (b : UInt64) | ref (a : Addr) | ty (n : String)
  deriving DecidableEq
def RelV : V → Value → Prop
  | .non, u => u = Value.none
  | .bl b, u => u = Value.bool b
  | .int i, u => ∃ t, u = Value.int i t
  | .str x, u => ∃ t, u = Value.str x t
  | .byt b, u => ∃ t, u = Value.bytes b t
  | .flt b, u => ∃ t, u = Value.float b t
  | .ref a, u => u = Value.ref a
  | .ty n, u => u = Value.type n
abbrev Vals : List V → List Value → Prop := Paired RelV
theorem Vals.length {xs : List V} {us : List Value} (r : Vals xs us) : xs.length = us.length := Paired.length r
theorem Vals.get : ∀ {xs : List V} {us : List Value} {i : Nat} {x : V}, Vals xs us → xs[i]? = some x → ∃ u, us[i]? = some u ∧ RelV x u
  | _, _, _, _, .nil, e => by simp at e
  | _, _, 0, _, .cons r _, e => by simp at e; subst e; exact ⟨_, rfl, r⟩
  | _, _, i + 1, x, .cons _ t, e => by
    obtain ⟨u, h1, h2⟩ := Vals.get (i := i) (x := x) t (by simpa using e)
    exact ⟨u, by simpa using h1, h2⟩
theorem Vals.set {x : V} {u : Value} (r : RelV x u) : ∀ {xs : List V} {us : List Value} (i : Nat), Vals xs us → Vals (xs.set i x) (us.set i u)
  | _, _, _, .nil => .nil
  | _, _, 0, .cons _ t => .cons r t
  | _, _, i + 1, .cons q t => .cons q (Vals.set r i t)
theorem Vals.append : ∀ {xs ys : List V} {us ws : List Value}, Vals xs us → Vals ys ws → Vals (xs ++ ys) (us ++ ws)
  | _, _, _, _, .nil, s => s
  | _, _, _, _, .cons r t, s => .cons r (Vals.append t s)
theorem Vals.take : ∀ {xs : List V} {us : List Value} (n : Nat), Vals xs us → Vals (xs.take n) (us.take n)
  | _, _, 0, _ => .nil
  | _, _, _ + 1, .nil => .nil
  | _, _, n + 1, .cons r t => .cons r (Vals.take n t)
theorem Vals.drop : ∀ {xs : List V} {us : List Value} (n : Nat), Vals xs us → Vals (xs.drop n) (us.drop n)
  | _, _, 0, r => r
  | _, _, _ + 1, .nil => .nil
  | _, _, n + 1, .cons _ t => Vals.drop n t
def RelO : Option V → Option Value → Prop
  | some v, some u => RelV v u
  | none, none => True
  | _, _ => False
def KV {κ : Type} : List (κ × V) → List (κ × Value) → Prop := Paired fun (p : κ × V) (q : κ × Value) => p.1 = q.1 ∧ RelV p.2 q.2
def kV : Key → V
  | .inl i => .int i
  | .inr x => .str x
inductive HO where
  | lst (xs : List V)
  | tup (xs : List V)
  | dK (kvs : List (Key × V)) | dT (kvs : List (List Key × V))
  | set (S : Int → Bool) (n : Nat)
  | ins (C dx : Addr) (fs : List (Str × V))
  | own (x : Addr)
  | xd (fs : List (Str × V))
  | met (f x : Addr)
  | rng (lo hi : Int)
  | frz (o : Obj) (u : HO)
  | tbl (ps : Array Value)
  | ext (φ : Heap → Prop)
abbrev Hp := Addr → Option HO
def upd (H : Hp) (a : Addr) (o : HO) : Hp := fun b => if b = a then some o else H b
theorem upd_same {H : Hp} {a : Addr} {o : HO} : upd H a o a = some o := by unfold upd; rw [if_pos rfl]
theorem upd_ne {H : Hp} {a b : Addr} {o : HO} (h : b ≠ a) : upd H a o b = H b := by unfold upd; rw [if_neg h]
theorem ne_of_none {H : Hp} {a b : Addr} {o : HO} (h : H a = some o) (h' : H b = none) : a ≠ b := by
  intro e; subst e; rw [h] at h'; cases h'
def IsTp (h : Heap) (a : Addr) (items : Array Value) : Prop := ∃ o, h.get? a = some o ∧ ∃ n, o = { cls := .type "tuple", data := .seq items n }
theorem IsTp.is {h : Heap} {a : Addr} {items : Array Value} (x : IsTp h a items) : IsTup h a items := by
  obtain ⟨o, e, n, rfl⟩ := x
  exact ⟨_, e, rfl, n, rfl⟩
instance {h : Heap} {a : Addr} {items : Array Value} : Coe (IsTp h a items) (IsTup h a items) := ⟨IsTp.is⟩
instance {h : Heap} {a : Addr} {items : Array Value} : Coe (IsTp h a items) (Heap.IsTuple h a items) := ⟨fun x => x.is⟩
theorem IsTp.lt {h : Heap} {a : Addr} {items : Array Value} (x : IsTp h a items) : a < h.objs.size := x.is.lt
theorem IsTp.new (h : Heap) (items : Array Value) : IsTp (h.push { cls := .type "tuple", data := .seq items }) h.objs.size items := ⟨_, Heap.get?_push_size _ rfl, _, rfl⟩
section
variable (P : Program) (w : World)
def ObjOk (H : Hp) (h : Heap) (a : Addr) : HO → Prop
  | .lst xs => xs.length ≤ sizeLine ∧ ∃ (its : List Value) (n : Nat), Vals xs its ∧ h.get? a = some { cls := .type "list", data := .seq its.toArray n }
  | .tup xs => xs.length ≤ sizeLine ∧ ∃ its : List Value, Vals xs its ∧ IsTp h a its.toArray
  | .dK kvs => kvs.length ≤ sizeLine ∧ (a == sysModules) = false ∧ ∃ vs, KV kvs vs ∧ h.DictOf (mixKind P w) a vs
  | .dT kvs => kvs.length ≤ sizeLine ∧ (a == sysModules) = false ∧ ∃ xs : List (List Key × Addr × Value),
      Paired (fun (p : List Key × V) (q : List Key × Addr × Value) => p.1 = q.1 ∧ H q.2.1 = some (.tup (p.1.map kV)) ∧ RelV p.2 q.2.2) kvs xs ∧
      ∃ o es ep, h.get? a = some o ∧ o.ExactDict ∧ o.data = .dict es ep ∧ es.toList = xs.map (entryOfKey (tupleKind (mixKind P w))) ∧ (xs.map (·.1)).Nodup
  | .set S n => h.SetOf (intKind P w) a S n
  | .ins C dx fs => H dx = some (.own a) ∧ fs.length ≤ 1000 ∧ dx ≠ a ∧ h.get? a = some (PySem.W.instObj C dx) ∧
      ∃ mA, h.Ns1 dx mA ∧ (∀ f, RelO (fs.lookup f) (mA f)) ∧ PySem.Within mA (fs.map (·.1))
  | .own _ => ∃ o, h.get? a = some o
  | .xd fs => ∃ mA, h.Ns1 a mA ∧ ∀ f, RelO (fs.lookup f) (mA f)
  | .rng lo hi => ∃ t u v, h.get? a = some { cls := .type "range", data := .fields #[.int lo t, .int hi u, .int 1 v] }
  | .frz o u => h.get? a = some o ∧ ObjOk H h a u
  | .tbl ps => h.get? a = some { cls := .none, data := .fields ps }
  | .met f x => h.get? a = some (PySem.W.methodObj (.ref f) (.ref x))
  | .ext φ => φ h ∧ (∃ o, h.get? a = some o) ∧ ∀ h1 h2 : Heap, φ h1 → (∀ o, h1.get? a = some o → h2.get? a = some o) → φ h2
def HOk (H : Hp) (h : Heap) : Prop := ∀ a o, H a = some o → ObjOk P w H h a o
end
section
variable {P : Program} {w : World} {H H' : Hp} {h h' : Heap} {a : Addr} {o : HO}
theorem ObjOk.lt (x : ObjOk P w H h a o) : a < h.objs.size := by
  cases o with
  | lst xs => obtain ⟨_, _, _, _, e⟩ := x; exact Heap.lt_size e
  | tup xs => obtain ⟨_, _, _, p⟩ := x; exact p.lt
  | dK kvs => obtain ⟨_, _, _, _, o, _, _, e, _⟩ := x; exact Heap.lt_size e
  | dT kvs => obtain ⟨_, _, _, _, o, _, _, e, _⟩ := x; exact Heap.lt_size e
  | set S n => obtain ⟨o, _, _, _, e, _⟩ := x; exact Heap.lt_size e
  | ins C dx fs => obtain ⟨_, _, _, e, _⟩ := x; exact Heap.lt_size e
  | own y => obtain ⟨_, e⟩ := x; exact Heap.lt_size e
  | xd fs => obtain ⟨_, ⟨_, _, _, e, _⟩, _⟩ := x; exact Heap.lt_size e
  | rng lo hi => obtain ⟨_, _, _, e⟩ := x; exact Heap.lt_size e
  | frz ob u => obtain ⟨e, _⟩ := x; exact Heap.lt_size e
  | tbl ps => exact Heap.lt_size (show h.get? a = some _ from x)
  | met f y => exact Heap.lt_size (show h.get? a = some _ from x)
  | ext φ => obtain ⟨_, ⟨_, e⟩, _⟩ := x; exact Heap.lt_size e
theorem Paired.mapP {α β : Type} {F G : α → β → Prop} : ∀ {l₁ : List α} {l₂ : List β}, Paired F l₁ l₂ → (∀ a b, F a b → G a b) → Paired G l₁ l₂
  | _, _, .nil, _ => .nil
  | _, _, .cons r t, f => .cons (f _ _ r) (Paired.mapP t f)
theorem ObjOk.stay (x : ObjOk P w H h a o) (k : ∀ b u, (b = a ∨ H b = some (.own a)) → h.get? b = some u → h'.get? b = some u)
    (ho : ∀ b, H b = some (.own a) → H' b = some (.own a)) (ht : ∀ b xs, H b = some (.tup xs) → H' b = some (.tup xs)) : ObjOk P w H' h' a o := by
  induction o with
  | lst xs => obtain ⟨z, its, n, r, e⟩ := x; exact ⟨z, its, n, r, k _ _ (.inl rfl) e⟩
  | tup xs => obtain ⟨z, its, r, ob, e, c⟩ := x; exact ⟨z, its, r, ob, k _ _ (.inl rfl) e, c⟩
  | dK kvs => obtain ⟨z, y, vs, r, ob, es, ep, e, c⟩ := x; exact ⟨z, y, vs, r, ob, es, ep, k _ _ (.inl rfl) e, c⟩
  | dT kvs =>
    obtain ⟨z, y, xs, r, ob, es, ep, e, c⟩ := x
    exact ⟨z, y, xs, Paired.mapP r fun p q z => ⟨z.1, ht _ _ z.2.1, z.2.2⟩, ob, es, ep, k _ _ (.inl rfl) e, c⟩
  | set S n => obtain ⟨ob, es, ep, t, e, c⟩ := x; exact ⟨ob, es, ep, t, k _ _ (.inl rfl) e, c⟩
  | ins C dx fs =>
    obtain ⟨d, z, ne, e, mA, ⟨od, es, ep, e2, c⟩, r⟩ := x
    exact ⟨ho _ d, z, ne, k _ _ (.inl rfl) e, mA, ⟨od, es, ep, k _ _ (.inr d) e2, c⟩, r⟩
  | own y => obtain ⟨ob, e⟩ := x; exact ⟨ob, k _ _ (.inl rfl) e⟩
  | xd fs => obtain ⟨mA, ⟨od, es, ep, e, c⟩, r⟩ := x; exact ⟨mA, ⟨od, es, ep, k _ _ (.inl rfl) e, c⟩, r⟩
  | rng lo hi => obtain ⟨t, u, v, e⟩ := x; exact ⟨t, u, v, k _ _ (.inl rfl) e⟩
  | frz ob u ih => obtain ⟨e, q⟩ := x; exact ⟨k _ _ (.inl rfl) e, ih q⟩
  | tbl ps =>
    have e : h.get? a = some { cls := .none, data := .fields ps } := x
    show h'.get? a = some { cls := .none, data := .fields ps }
    exact k a _ (.inl rfl) e
  | met f y =>
    have e : h.get? a = some (PySem.W.methodObj (.ref f) (.ref y)) := x
    show h'.get? a = some (PySem.W.methodObj (.ref f) (.ref y))
    exact k a _ (.inl rfl) e
  | ext φ => obtain ⟨p, ⟨o, e⟩, st⟩ := x; exact ⟨st _ _ p fun o q => k _ _ (.inl rfl) q, ⟨o, k _ _ (.inl rfl) e⟩, st⟩
theorem HOk.lt (x : HOk P w H h) (e : H a = some o) : a < h.objs.size := (x a o e).lt
theorem HOk.fresh (x : HOk P w H h) (e : h.objs.size ≤ a) : H a = none := by
  cases q : H a with
  | none => rfl
  | some u => exact absurd (Nat.lt_of_lt_of_le (x.lt q) e) (Nat.lt_irrefl _)
theorem HOk.kept (x : HOk P w H h) (k : ∀ b u, h.get? b = some u → h'.get? b = some u) : HOk P w H h' := fun a o e =>
  (x a o e).stay (fun b u _ q => k b u q) (fun _ q => q) fun _ _ q => q
theorem HOk.laid (x : HOk P w H h) (k : ∀ b u, h.get? b = some u → h'.get? b = some u) (hp : h.objs.size ≤ a) (new : ObjOk P w (upd H a o) h' a o) : HOk P w (upd H a o) h' := fun b u e => by
  have hn := x.fresh hp
  by_cases hb : b = a
  · subst hb; rw [upd_same] at e; cases e; exact new
  · rw [upd_ne hb] at e
    exact (x b u e).stay (fun c v _ q => k c v q) (fun c q => by rw [upd_ne (ne_of_none q hn)]; exact q) fun c xs q => by rw [upd_ne (ne_of_none q hn)]; exact q
end
def Rd (H : Hp) (a : Addr) (u : HO) : Prop := H a = some u ∨ ∃ o, H a = some (.frz o u)
theorem Rd.ok {P : Program} {w : World} {H : Hp} {h : Heap} {a : Addr} {u : HO} (r : Rd H a u) (x : HOk P w H h) : ObjOk P w H h a u := by
  rcases r with r | ⟨o, r⟩
  · exact x a u r
  · obtain ⟨_, q⟩ := x a _ r
    exact q
def Mut : Option HO → Prop
  | some (.lst _) => True
  | some (.dK _) => True
  | some (.dT _) => True
  | some (.set _ _) => True
  | some (.ins _ _ _) => True
  | some (.ext _) => True
  | _ => False
section
variable {P : Program} {w : World} {H : Hp} {h h' : Heap} {x e : Addr} {o' : HO}
theorem HOk.write (ok : HOk P w H h) (mu : Mut (H x)) (he : e = x ∨ H e = some (.own x)) (k : ∀ b u, b ≠ e → h.get? b = some u → h'.get? b = some u) (heo : ∃ u, h'.get? e = some u)
    (new : ObjOk P w (upd H x o') h' x o') : HOk P w (upd H x o') h' := fun b u q => by
  have nown : ∀ c y, H c = some (.own y) → c ≠ x := fun c y r z => by subst z; rw [r] at mu; exact mu
  have ntup : ∀ c xs, H c = some (.tup xs) → c ≠ x := fun c xs r z => by subst z; rw [r] at mu; exact mu
  by_cases hb : b = x
  · subst hb; rw [upd_same] at q; cases q; exact new
  · rw [upd_ne hb] at q
    by_cases hbe : b = e
    · have q' : H b = some (.own x) := by
        rcases he with z | z
        · exact absurd (hbe.trans z) hb
        · rw [hbe]; exact z
      rw [q] at q'; cases q'
      obtain ⟨v, hv⟩ := heo
      exact ⟨v, by rw [hbe]; exact hv⟩
    · refine (ok b u q).stay (fun c v hc r => k c v ?_ r) (fun c r => by rw [upd_ne (nown c b r)]; exact r) fun c xs r => by rw [upd_ne (ntup c xs r)]; exact r
      rcases hc with rfl | hc
      · exact hbe
      · rintro rfl
        rcases he with z | z
        · exact nown c b hc z
        · rw [hc] at z; cases z; exact hb rfl
end
structure Un (fs ex : List Addr) (H H' : Hp) (h h' : Heap) : Prop where
  keep : ∀ b o, h.get? b = some o → H b = none → b ∉ fs → b ∉ ex → h'.get? b = some o
  slot : ∀ b o, h.get? b = some o → H b = none → b ∈ fs → b ∉ ex → ∃ sl, h'.get? b = some { o with slots := sl }
  free : ∀ b o, h.get? b = some o → H b = none → b ∉ ex → H' b = none
  there : ∀ b o, h.get? b = some o → b ∉ ex → ∃ o', h'.get? b = some o'
  tups : ∀ b xs, H b = some (.tup xs) → H' b = some (.tup xs)
  frzs : ∀ b o u, H b = some (.frz o u) → H' b = some (.frz o u)
  tbls : ∀ b ps, H b = some (.tbl ps) → ∃ more, H' b = some (.tbl (ps ++ more))
section
variable {fs fs' ex ex' : List Addr} {H H1 H2 : Hp} {h h1 h2 h' : Heap} {a x e : Addr} {o : HO}
theorem Un.any (u : Un fs ex H H1 h h1) {b : Addr} {ob : Obj} (q : h.get? b = some ob) (n : H b = none) (hx : b ∉ ex) : ∃ sl, h1.get? b = some { ob with slots := sl } := by
  by_cases hb : b ∈ fs
  · exact u.slot b ob q n hb hx
  · exact ⟨ob.slots, u.keep b ob q n hb hx⟩
theorem Un.kept (k : ∀ b u, h.get? b = some u → h'.get? b = some u) : Un fs ex H H h h' :=
  ⟨fun b ob q _ _ _ => k b ob q, fun b ob q _ _ _ => ⟨ob.slots, k b ob q⟩, fun _ _ _ n _ => n, fun b ob q _ => ⟨ob, k b ob q⟩, fun _ _ q => q, fun _ _ _ q => q, fun _ ps q => ⟨#[], by rw [q]; simp⟩⟩
theorem Un.refl : Un fs ex H H h h := Un.kept fun _ _ q => q
theorem Un.laid (k : ∀ b u, h.get? b = some u → h'.get? b = some u) (hp : h.objs.size ≤ a) (hn : H a = none) : Un fs ex H (upd H a o) h h' where
  keep := fun b u q _ _ _ => k b u q
  slot := fun b u q _ _ _ => ⟨u.slots, k b u q⟩
  free := fun b u q n _ => by rw [upd_ne (Nat.ne_of_lt (Nat.lt_of_lt_of_le (Heap.lt_size q) hp))]; exact n
  there := fun b u q _ => ⟨u, k b u q⟩
  tups := fun b xs q => by rw [upd_ne (ne_of_none q hn)]; exact q
  frzs := fun b u xs q => by rw [upd_ne (ne_of_none q hn)]; exact q
  tbls := fun b ps q => ⟨#[], by rw [upd_ne (ne_of_none q hn), q]; simp⟩
theorem Un.write (mu : Mut (H x)) (he : e = x ∨ H e = some (.own x)) (k : ∀ b u, b ≠ e → h.get? b = some u → h'.get? b = some u) (heo : ∃ u, h'.get? e = some u) : Un fs ex H (upd H x o) h h' := by
  have hx : ∀ b, H b = none → b ≠ x := fun b n z => by subst z; rw [n] at mu; exact mu
  have hb : ∀ b, H b = none → b ≠ e := fun b n z => by
    subst z
    rcases he with r | r
    · exact hx b n r
    · rw [n] at r; cases r
  have hm : ∀ b u, H b = some u → ¬ Mut (some u) → b ≠ x := fun b u q nm z => by subst z; rw [q] at mu; exact nm mu
  refine ⟨fun b u q n _ _ => k b u (hb b n) q, fun b u q n _ _ => ⟨u.slots, k b u (hb b n) q⟩, fun b u q n _ => by rw [upd_ne (hx b n)]; exact n, fun b u q _ => ?_,
    fun b xs q => by rw [upd_ne (hm b _ q fun z => z)]; exact q, fun b u xs q => by rw [upd_ne (hm b _ q fun z => z)]; exact q, fun b ps q => ⟨#[], by rw [upd_ne (hm b _ q fun z => z), q]; simp⟩⟩
  by_cases hbe : b = e
  · subst hbe; exact heo
  · exact ⟨u, k b u hbe q⟩
end
def trk (h : Heap) (H : Hp) : List Addr := (List.range h.objs.size).filter fun a => (H a).isSome
def hidT (h : Heap) (H : Hp) : Heap := PySem.W.hideAll h (trk h H)
theorem hidT_size (h : Heap) (H : Hp) : (hidT h H).objs.size = h.objs.size := PySem.W.hideAll_size _ _
theorem hidT_get {h : Heap} {H : Hp} {b : Addr} {o : Obj} (e : h.get? b = some o) (n : H b = none) : (hidT h H).get? b = some o :=
  PySem.W.hideAll_get _ e fun hm => by
    have q : (H b).isSome = true := (List.mem_filter.mp hm).2
    rw [n] at q; simp at q
theorem of_hidT {h : Heap} {H : Hp} {b : Addr} {o : Obj} (e : (hidT h H).get? b = some o) : h.get? b = some o ∧ H b = none := by
  have e' : h.get? b = some o := PySem.W.of_hideAll (trk h H) e
  refine ⟨e', ?_⟩
  cases q : H b with
  | none => rfl
  | some x =>
    have hm : b ∈ trk h H := List.mem_filter.mpr ⟨List.mem_range.mpr (Heap.lt_size e'), by simp [q]⟩
    have z : (hidT h H).get? b = none := PySem.W.hideAll_none (trk h H) hm
    rw [z] at e; cases e
def allNews (g h : Heap) (L : Addr) : List (Addr × Obj) := (List.range h.objs.size).filterMap fun a => if a = L ∨ (g.get? a).isSome = true then none else (h.get? a).map fun o => (a, o)
def rest (g h : Heap) (L d : Addr) : List (Addr × Obj) := (allNews g h L).filter fun p => decide (p.1 ≠ d)
end L2
namespace L2
open PySem PySem.Spec PyProof.Rows
structure Mod (K : PySem.W.Frag) (mg : Str → Option Value) (base : Heap) : Prop where
  kin : K.In base
  glob : base.Ns mainGlobals mg
  blt : ∃ mb, base.Ns builtinsNs mb ∧ ∀ x : Str, x ≠ "__name__" → mb x = bootBuiltins x
  nolimit : base.NoLimit
structure Cx where
  prog : Program
  w : World
  K : PySem.W.Frag
  mg : Str → Option Value
  base : Heap
  A : Around
  N : List Str
  s₀ : Shared
  H₀ : Hp
  env : Env
  outer : List Env
  stack : List Env
  ex : List Addr
  fn : Str → Bool
  calm : Bool
  pn : List (Addr × Obj)
  xe : Value → Shared → Prop
def frs (l : List Env) : List Addr := l.filterMap (·.frame)
abbrev Cx.fs (X : Cx) : List Addr := frs X.outer
def Vis (sc : Scope) (x : Str) : Prop := sc.names.lookup x = some .local ∨ sc.names.lookup x = some .cell ∨ sc.names.lookup x = some .free
def Loc (sc : Scope) (x : Str) : Prop := sc.names.lookup x = some .local ∨ sc.names.lookup x = some .cell
def Look (env : Env) (h : Heap) (m : Str → Option Value) (x : Str) (u : Value) : Prop :=
  (env.kindOf x = some .local ∧ m x = some u) ∨ ((env.kindOf x = some .cell ∨ env.kindOf x = some .free) ∧ ∃ c, env.cells.lookup x = some c ∧ h.IsCell c (some u))
structure Cx.Ok (X : Cx) : Prop where
  mod : Mod X.K X.mg X.base
  kind : X.env.scope.kind = .function
  glob : X.env.globals = mainGlobals
  blt : X.env.builtins = builtinsNs
  above : X.s₀.heap.objs.size ≤ X.env.locals
  inj : ∀ x y c, X.env.cells.lookup x = some c → X.env.cells.lookup y = some c → x = y
  has : ∀ x, (X.env.kindOf x = some .cell ∨ X.env.kindOf x = some .free) → ∃ c, X.env.cells.lookup x = some c
  cab : ∀ x c, X.fn x = true → X.env.cells.lookup x = some c → X.s₀.heap.objs.size ≤ c
  hd : X.calm = true → X.A.handled = none
  frames : X.A.frames = some X.stack
  stk : X.stack = X.outer ∨ (X.stack = X.env :: X.outer ∧ X.env.frame = some X.env.locals)
  exf : ∀ b ∈ X.ex, b ≠ X.env.locals ∧ ∀ x c, X.env.cells.lookup x = some c → c ≠ b
  bs : ∀ b o, X.base.get? b = some o → X.s₀.heap.get? b = some o ∧ X.H₀ b = none
  bsz : X.base.objs.size ≤ X.s₀.heap.objs.size
  noex : ∀ b o, X.base.get? b = some o → b ∉ X.ex
  exfs : ∀ b ∈ X.ex, b ∉ X.fs
  funs : X.s₀.heap.FunFrames X.base X.outer
  frf : ∀ b ∈ X.fs, X.H₀ b = none
structure Inv (X : Cx) (pins : List (Addr × Obj)) (σ : List (Option V)) (H : Hp) (s : Shared) : Prop where
  ok : X.Ok
  os : s.os = X.s₀.os
  bare : AllBare s.gens
  base : Un X.fs X.ex X.H₀ H X.s₀.heap s.heap
  loc : ∃ m, s.heap.Ns X.env.locals m ∧ ∀ (i : Nat) (x : Str) (v : V), X.N[i]? = some x → σ[i]? = some (some v) → Vis X.env.scope x → ∃ u, RelV v u ∧ Look X.env s.heap m x u
  cell : ∀ x c, X.env.cells.lookup x = some c → ∃ v, s.heap.IsCell c v
  free : H X.env.locals = none
  freeC : ∀ x c, X.env.cells.lookup x = some c → H c = none
  pin : ∀ p ∈ X.pn ++ pins, s.heap.get? p.1 = some p.2 ∧ H p.1 = none ∧ p.1 ≠ X.env.locals ∧ p.1 ∉ X.fs ∧ ∀ v, p.2.data ≠ .cell v
  hok : HOk X.prog X.w H s.heap
  len : σ.length = X.N.length
section
variable {X : Cx} {pins : List (Addr × Obj)} {σ : List (Option V)} {H H' : Hp} {s : Shared} {h' : Heap}
theorem Cx.Ok.nofr (ok : X.Ok) {b : Addr} {o : Obj} (e : X.base.get? b = some o) : b ∉ X.fs := fun hb => by
  have := (ok.funs.mem hb).1
  rw [e] at this; cases this
theorem Inv.bs (I : Inv X pins σ H s) : ∀ b o, X.base.get? b = some o → s.heap.get? b = some o ∧ H b = none := fun b o e =>
  ⟨I.base.keep b o (I.ok.bs b o e).1 (I.ok.bs b o e).2 (I.ok.nofr e) (I.ok.noex b o e), I.base.free b o (I.ok.bs b o e).1 (I.ok.bs b o e).2 (I.ok.noex b o e)⟩
theorem Inv.bk (I : Inv X pins σ H s) : ∀ b o, X.base.get? b = some o → s.heap.get? b = some o := fun b o e => (I.bs b o e).1
theorem Inv.mod (I : Inv X pins σ H s) : Mod X.K X.mg X.base := I.ok.mod
theorem Inv.kIn (I : Inv X pins σ H s) : X.K.In s.heap := I.ok.mod.kin.keeps I.bk
theorem Inv.lt (I : Inv X pins σ H s) : X.env.locals < s.heap.objs.size := let ⟨_, hn, _⟩ := I.loc; hn.lt
theorem Inv.sz (I : Inv X pins σ H s) : X.s₀.heap.objs.size ≤ s.heap.objs.size := Nat.le_trans I.ok.above (Nat.le_of_lt I.lt)
theorem Inv.nofs (I : Inv X pins σ H s) {a : Addr} (h : s.heap.objs.size ≤ a) : a ∉ X.fs := fun hb => by
  obtain ⟨_, o, ho, _⟩ := I.ok.funs.mem hb
  exact absurd (Nat.lt_of_lt_of_le (Heap.lt_size ho) (Nat.le_trans I.sz h)) (Nat.lt_irrefl _)
theorem Inv.cne (I : Inv X pins σ H s) : ∀ x c, X.env.cells.lookup x = some c → c ≠ X.env.locals := fun x c e z => by
  obtain ⟨v, o, ho, hd⟩ := I.cell x c e
  obtain ⟨m, ⟨o', es, ep, ho', hd', _⟩, _⟩ := I.loc
  rw [z, ho'] at ho; cases ho; rw [hd'] at hd; cases hd
theorem Inv.funs (I : Inv X pins σ H s) : s.heap.FunFrames X.base X.outer := by
  have all : ∀ (l : List Env), (∀ b ∈ frs l, b ∈ X.fs) → X.s₀.heap.FunFrames X.base l → s.heap.FunFrames X.base l := by
    intro l
    induction l with
    | nil => intro _ _; trivial
    | cons env r ih =>
      intro hs hl
      obtain ⟨hk, ⟨L, o, hf, hn, ho, hd⟩, hr⟩ := hl
      have hL : L ∈ X.fs := hs L (by unfold frs; rw [List.filterMap_cons, hf]; exact List.mem_cons_self)
      obtain ⟨sl, e⟩ := I.base.slot L o ho (I.ok.frf L hL) hL fun z => I.ok.exfs L z hL
      exact ⟨hk, ⟨L, _, hf, hn, e, hd⟩, ih (fun b hb => hs b (by unfold frs; rw [List.filterMap_cons, hf]; exact List.mem_cons_of_mem _ hb)) hr⟩
  exact all X.outer (fun _ hb => hb) I.ok.funs
theorem Inv.stack (I : Inv X pins σ H s) : s.heap.FunFrames X.base X.stack := by
  rcases I.ok.stk with e | ⟨e, hf⟩
  · rw [e]; exact I.funs
  · rw [e]
    obtain ⟨m, hn, _⟩ := I.loc
    refine .cons (by rw [I.ok.kind]; decide) hf hn ?_ I.funs
    exact Heap.get?_none_of_le (Nat.le_trans I.ok.bsz I.ok.above)
theorem Inv.stkSub (I : Inv X pins σ H s) : ∀ b ∈ frs X.stack, b ∈ X.env.locals :: X.fs := fun b hb => by
  rcases I.ok.stk with e | ⟨e, hf⟩
  · rw [e] at hb; exact List.mem_cons_of_mem _ hb
  · rw [e] at hb
    unfold frs at hb
    rw [List.filterMap_cons, hf] at hb
    exact hb
theorem Inv.stkFree (I : Inv X pins σ H s) : ∀ b ∈ frs X.stack, H b = none := fun b hb => by
  rcases List.mem_cons.mp (I.stkSub b hb) with e | hb
  · rw [e]; exact I.free
  · obtain ⟨_, o, ho, _⟩ := I.ok.funs.mem hb
    exact I.base.free b o ho (I.ok.frf b hb) fun z => I.ok.exfs b z hb
theorem Inv.step {g' : Array GenState} {t' : Nat} {d' : Drawn} {ch : List Addr} (I : Inv X pins σ H s)
    (hch : ∀ b ∈ ch, (b ∈ X.ex ∨ X.s₀.heap.objs.size ≤ b) ∧ b ≠ X.env.locals ∧ (∀ x c, X.env.cells.lookup x = some c → c ≠ b) ∧ ∀ p ∈ X.pn ++ pins, p.1 ≠ b)
    (keep : ∀ b o, b ≠ X.env.locals → b ∉ X.fs → b ∉ ch → s.heap.get? b = some o → H b = none → h'.get? b = some o)
    (slot : ∀ b o, b ≠ X.env.locals → b ∈ X.fs → b ∉ ch → s.heap.get? b = some o → H b = none → ∃ sl, h'.get? b = some { o with slots := sl }) (free : ∀ b o, b ∉ ch → s.heap.get? b = some o → H b = none → H' b = none)
    (there : ∀ b o, b ∉ ch → s.heap.get? b = some o → ∃ o', h'.get? b = some o')
    (tups : ∀ b xs, H b = some (.tup xs) → H' b = some (.tup xs)) (frzs : ∀ b o u, H b = some (.frz o u) → H' b = some (.frz o u)) (tbls : ∀ b ps, H b = some (.tbl ps) → ∃ more, H' b = some (.tbl (ps ++ more)))
    (ns : ∀ m, s.heap.Ns X.env.locals m → h'.Ns X.env.locals m) (hok : HOk X.prog X.w H' h') (hg : AllBare g') :
    Inv X pins σ H' { s with heap := h', gens := g', drawn := d', toks := t' } := by
  have neL : ∀ b o, X.s₀.heap.get? b = some o → b ≠ X.env.locals := fun b o e => Nat.ne_of_lt (Nat.lt_of_lt_of_le (Heap.lt_size e) I.ok.above)
  have neC : ∀ b o, X.s₀.heap.get? b = some o → b ∉ X.ex → b ∉ ch := fun b o e hx hb => by
    rcases (hch b hb).1 with z | z
    · exact hx z
    · exact absurd (Nat.lt_of_lt_of_le (Heap.lt_size e) z) (Nat.lt_irrefl _)
  have cellK : ∀ x c, X.env.cells.lookup x = some c → ∀ v, s.heap.IsCell c v → h'.IsCell c v := fun x c e v ⟨o, ho, hd⟩ => by
    have nch : c ∉ ch := fun z => (hch c z).2.2.1 x c e rfl
    by_cases hc : c ∈ X.fs
    · obtain ⟨sl, q⟩ := slot c o (I.cne x c e) hc nch ho (I.freeC x c e)
      exact ⟨_, q, hd⟩
    · exact ⟨o, keep c o (I.cne x c e) hc nch ho (I.freeC x c e), hd⟩
  refine ⟨I.ok, I.os, hg, ⟨fun b o e n hb hx => ?_, fun b o e n hb hx => ?_, fun b o e n hx => ?_, fun b o e hx => ?_, fun b xs e => tups b xs (I.base.tups b xs e), fun b o xs e => frzs b o xs (I.base.frzs b o xs e), fun b ps e => ?_⟩, ?_, fun x c e => ?_, ?_, fun x c e => ?_, fun p hp => ?_, hok, I.len⟩
  · exact keep b o (neL b o e) hb (neC b o e hx) (I.base.keep b o e n hb hx) (I.base.free b o e n hx)
  · obtain ⟨sl, e1⟩ := I.base.slot b o e n hb hx
    obtain ⟨sl', e2⟩ := slot b _ (neL b o e) hb (neC b o e hx) e1 (I.base.free b o e n hx)
    exact ⟨sl', e2⟩
  · obtain ⟨o', e1⟩ := I.base.there b o e hx
    exact free b o' (neC b o e hx) e1 (I.base.free b o e n hx)
  · obtain ⟨o', e1⟩ := I.base.there b o e hx
    exact there b o' (neC b o e hx) e1
  · obtain ⟨m1, e1⟩ := I.base.tbls b ps e
    obtain ⟨m2, e2⟩ := tbls b _ e1
    exact ⟨m1 ++ m2, by rw [e2, Array.append_assoc]⟩
  · obtain ⟨m, hn, hl⟩ := I.loc
    refine ⟨m, ns m hn, fun i x v e1 e2 e3 => ?_⟩
    obtain ⟨u, r, l⟩ := hl i x v e1 e2 e3
    refine ⟨u, r, ?_⟩
    rcases l with l | ⟨k, c, e, z⟩
    · exact .inl l
    · exact .inr ⟨k, c, e, cellK x c e _ z⟩
  · obtain ⟨v, z⟩ := I.cell x c e
    exact ⟨v, cellK x c e v z⟩
  · obtain ⟨m, ⟨o, _, _, ho, _⟩, _⟩ := I.loc
    exact free _ o (fun z => (hch _ z).2.1 rfl) ho I.free
  · obtain ⟨v, o, ho, hd⟩ := I.cell x c e
    exact free c o (fun z => (hch c z).2.2.1 x c e rfl) ho (I.freeC x c e)
  · obtain ⟨e, n, ne, nf, d⟩ := I.pin p hp
    have nch : p.1 ∉ ch := fun z => (hch p.1 z).2.2.2 p hp rfl
    exact ⟨keep p.1 p.2 ne nf nch e n, free p.1 p.2 nch e n, ne, nf, d⟩
theorem Inv.un {t' : Nat} (I : Inv X pins σ H s) (u : Un X.fs [] H H' s.heap h') (hok : HOk X.prog X.w H' h') : Inv X pins σ H' { s with heap := h', toks := t' } := by
  obtain ⟨m, ⟨o, es, ep, ho, r⟩, _⟩ := id I.loc
  obtain ⟨sl, hL⟩ := u.any ho I.free (by simp)
  exact I.step (g' := s.gens) (d' := s.drawn) (ch := []) (fun _ z => nomatch z) (fun b o _ hb _ e n => u.keep b o e n hb (by simp)) (fun b o _ hb _ e n => u.slot b o e n hb (by simp)) (fun b o _ e n => u.free b o e n (by simp)) (fun b o _ e => u.there b o e (by simp)) u.tups u.frzs u.tbls (fun m' hm => by
    obtain ⟨o', es', ep', ho', r'⟩ := hm
    rw [ho] at ho'; cases ho'
    exact ⟨_, es', ep', hL, r'⟩) hok I.bare
theorem Inv.call {g' : Array GenState} {t' : Nat} {d' : Drawn} {ch : List Addr} (I : Inv X pins σ H s) (u : Un (frs X.stack) ch H H' s.heap h') (hok : HOk X.prog X.w H' h') (hg : AllBare g')
    (hch : ∀ b ∈ ch, (b ∈ X.ex ∨ X.s₀.heap.objs.size ≤ b) ∧ b ≠ X.env.locals ∧ (∀ x c, X.env.cells.lookup x = some c → c ≠ b) ∧ ∀ p ∈ X.pn ++ pins, p.1 ≠ b) :
    Inv X pins σ H' { s with heap := h', gens := g', drawn := d', toks := t' } := by
  obtain ⟨m, ⟨o, es, ep, ho, r⟩, _⟩ := id I.loc
  obtain ⟨sl, hL⟩ := u.any ho I.free fun z => (hch _ z).2.1 rfl
  exact I.step (ch := ch) hch (fun b o hL hb hc e n => u.keep b o e n (fun z => (List.mem_cons.mp (I.stkSub b z)).elim hL hb) hc) (fun b o _ _ hc e n => u.any e n hc) (fun b o hc e n => u.free b o e n hc) (fun b o hc e => u.there b o e hc) u.tups u.frzs u.tbls (fun m' hm => by
    obtain ⟨o', es', ep', ho', r'⟩ := hm
    rw [ho] at ho'; cases ho'
    exact ⟨_, es', ep', hL, r'⟩) hok hg
theorem Inv.turned {t' : Nat} {it : Addr} (I : Inv X pins σ H s) (k : ∀ b o, b ≠ it → s.heap.get? b = some o → h'.get? b = some o) (hn : H it = none) (hL : it ≠ X.env.locals)
    (h1 : it ∈ X.ex ∨ X.s₀.heap.objs.size ≤ it) (h2 : ∀ x c, X.env.cells.lookup x = some c → c ≠ it) (h3 : ∀ p ∈ X.pn ++ pins, p.1 ≠ it) : Inv X pins σ H { s with heap := h', toks := t' } := by
  have nit : ∀ b u, H b = some u → b ≠ it := fun b u e z => by rw [z, hn] at e; cases e
  refine I.step (g' := s.gens) (d' := s.drawn) (ch := [it]) (fun b hb => ?_) (fun b o _ _ hc e _ => k b o (fun z => hc (by simp [z])) e) (fun b o _ _ hc e _ => ⟨o.slots, k b o (fun z => hc (by simp [z])) e⟩) (fun _ _ _ _ n => n)
    (fun b o hc e => ⟨o, k b o (fun z => hc (by simp [z])) e⟩) (fun _ _ e => e) (fun _ _ _ e => e) (fun b ps e => ⟨#[], by rw [e]; simp⟩) (fun m hm => ?_) (fun b u e => ?_) I.bare
  · have e : b = it := by simpa using hb
    subst e
    exact ⟨h1, hL, h2, h3⟩
  · obtain ⟨o, es, ep, ho, r⟩ := hm
    exact ⟨o, es, ep, k _ o (Ne.symm hL) ho, r⟩
  · refine (I.hok b u e).stay (fun c v hc q => k c v ?_ q) (fun _ q => q) fun _ _ q => q
    rcases hc with z | z
    · rw [z]; exact nit b u e
    · exact nit c _ z
theorem Inv.tok (I : Inv X pins σ H s) (t : Nat) : Inv X pins σ H { s with toks := t } := I.un (h' := s.heap) (t' := t) Un.refl I.hok
theorem Inv.kept {t' : Nat} (I : Inv X pins σ H s) (k : ∀ b u, s.heap.get? b = some u → h'.get? b = some u) : Inv X pins σ H { s with heap := h', toks := t' } := I.un (Un.kept k) (I.hok.kept k)
theorem Inv.laid {a : Addr} {o : HO} {t' : Nat} (I : Inv X pins σ H s) (k : ∀ b u, s.heap.get? b = some u → h'.get? b = some u) (hp : s.heap.objs.size ≤ a) (new : ObjOk X.prog X.w (upd H a o) h' a o) :
    Inv X pins σ (upd H a o) { s with heap := h', toks := t' } := I.un (Un.laid k hp (I.hok.fresh hp)) (I.hok.laid k hp new)
theorem Inv.write {x e : Addr} {o : HO} {t' : Nat} (I : Inv X pins σ H s) (mu : Mut (H x)) (he : e = x ∨ H e = some (.own x)) (k : ∀ b u, b ≠ e → s.heap.get? b = some u → h'.get? b = some u) (heo : ∃ u, h'.get? e = some u)
    (new : ObjOk X.prog X.w (upd H x o) h' x o) : Inv X pins σ (upd H x o) { s with heap := h', toks := t' } := I.un (Un.write mu he k heo) (I.hok.write mu he k heo new)
theorem Inv.weak {σ' : List (Option V)} (I : Inv X pins σ H s) (hl : σ'.length = σ.length) (w : ∀ (i : Nat) v, σ'[i]? = some (some v) → σ[i]? = some (some v)) : Inv X pins σ' H s :=
  ⟨I.ok, I.os, I.bare, I.base, let ⟨m, hn, hl'⟩ := I.loc; ⟨m, hn, fun i x v e1 e2 e3 => hl' i x v e1 (w i v e2) e3⟩, I.cell, I.free, I.freeC, I.pin, I.hok, hl.trans I.len⟩
theorem Inv.pins_of {pins' : List (Addr × Obj)} (I : Inv X pins σ H s) (h : ∀ p ∈ pins', s.heap.get? p.1 = some p.2 ∧ H p.1 = none ∧ p.1 ≠ X.env.locals ∧ p.1 ∉ X.fs ∧ ∀ v, p.2.data ≠ .cell v) : Inv X pins' σ H s :=
  ⟨I.ok, I.os, I.bare, I.base, I.loc, I.cell, I.free, I.freeC, fun p hp => (List.mem_append.mp hp).elim (fun z => I.pin p (List.mem_append_left _ z)) (h p), I.hok, I.len⟩
theorem nodup_ix {N : List Str} (hN : N.Nodup) {i j : Nat} {x : Str} (a : N[i]? = some x) (b : N[j]? = some x) : i = j := by
  obtain ⟨h1, e1⟩ := List.getElem?_eq_some_iff.mp a
  obtain ⟨h2, e2⟩ := List.getElem?_eq_some_iff.mp b
  exact (List.getElem_inj hN).mp (e1.trans e2.symm)
theorem store_ok2 {M : Model} {A : Around} {E : Value → Shared → Prop} {i : Nat} {x : Str} {v : V} {u : Value} {Q : Unit → Shared → Prop} (I : Inv X pins σ H s) (hN : X.N.Nodup) (hi : X.N[i]? = some x) (hx : Loc X.env.scope x) (r : RelV v u)
    (h : ∀ s', Inv X pins (σ.set i (some v)) H s' → (∃ a, Heap.SameBut a s.heap s'.heap ∧ (a = X.env.locals ∨ X.env.cells.lookup x = some a)) → Q () s') (hf : X.fn x = true ∨ X.env.scope.names.lookup x = some .local := by first | exact .inl rfl | exact .inr rfl | assumption) : wpAny M A (storeName X.env x u) Q E s := by
  obtain ⟨m, hn, hl⟩ := id I.loc
  have hcls : (X.env.scope.kind == .class || (X.env.scope.kind == .module && X.env.locals != X.env.globals)) = false := by rw [I.ok.kind]; rfl
  have hiσ : i < σ.length := by rw [I.len]; exact (List.getElem?_eq_some_iff.mp hi).1
  have cne := I.cne
  have tracked : ∀ {a : Addr} {h' : Heap}, (∃ o, s.heap.get? a = some o ∧ H a = none) → Heap.SameBut a s.heap h' → HOk X.prog X.w H h' := fun {a h'} ha hs b ob e => by
    obtain ⟨_, _, hfree⟩ := ha
    refine (I.hok b ob e).stay (fun c w' hc q => (hs.2 c ?_).trans q) (fun _ q => q) fun _ _ q => q
    rintro rfl
    rcases hc with rfl | hc
    · rw [hfree] at e; cases e
    · rw [hfree] at hc; cases hc
  rcases hx with hk | hk
  · refine wpAny_storeName_local hk hn (fun h' hn' hs => ?_) hcls
    obtain ⟨oL, _, _, hoL, _⟩ := id hn
    refine h _ ⟨I.ok, I.os, I.bare, ⟨fun b o e n hb hx => ?_, fun b o e n hb hx => ?_, I.base.free, fun b o e hx => ?_, I.base.tups, I.base.frzs, I.base.tbls⟩, ⟨_, hn', fun j y v' e1 e2 e3 => ?_⟩, fun y c e => ?_, I.free, I.freeC, fun p hp => ?_, tracked ⟨oL, hoL, I.free⟩ hs, by simpa using I.len⟩ ⟨_, hs, .inl rfl⟩
    · exact (hs.2 b (Nat.ne_of_lt (Nat.lt_of_lt_of_le (Heap.lt_size e) I.ok.above))).trans (I.base.keep b o e n hb hx)
    · obtain ⟨sl, e1⟩ := I.base.slot b o e n hb hx
      exact ⟨sl, (hs.2 b (Nat.ne_of_lt (Nat.lt_of_lt_of_le (Heap.lt_size e) I.ok.above))).trans e1⟩
    · obtain ⟨o', e1⟩ := I.base.there b o e hx
      exact ⟨o', (hs.2 b (Nat.ne_of_lt (Nat.lt_of_lt_of_le (Heap.lt_size e) I.ok.above))).trans e1⟩
    · by_cases hj : j = i
      · subst hj
        rw [hi] at e1; cases e1
        rw [List.getElem?_set_self hiσ] at e2
        cases e2
        exact ⟨u, r, .inl ⟨hk, by simp⟩⟩
      · rw [List.getElem?_set_ne (Ne.symm hj)] at e2
        obtain ⟨u', r', q⟩ := hl j y v' e1 e2 e3
        refine ⟨u', r', ?_⟩
        rcases q with ⟨k, e⟩ | ⟨k, c, e, z⟩
        · refine .inl ⟨k, ?_⟩
          have : y ≠ x := fun e => hj (nodup_ix hN e1 (e ▸ hi))
          simp [this, e]
        · exact .inr ⟨k, c, e, z.sameBut hs (cne y c e)⟩
    · obtain ⟨w', z⟩ := I.cell y c e
      exact ⟨w', z.sameBut hs (cne y c e)⟩
    · obtain ⟨e, n, ne, nf, d⟩ := I.pin p hp
      exact ⟨(hs.2 p.1 ne).trans e, n, ne, nf, d⟩
  · have hfn : X.fn x = true := by
      rcases hf with z | z
      · exact z
      · rw [z] at hk; cases hk
    obtain ⟨c, hc⟩ := I.ok.has x (.inl hk)
    obtain ⟨w', z⟩ := I.cell x c hc
    refine wpAny_storeName_cell I.ok.kind hk hc z (fun h' hc' hs => ?_)
    obtain ⟨oc, hoc, hocd⟩ := id z
    refine h { s with heap := h' } ⟨I.ok, I.os, I.bare, ⟨fun b o e n hb hx => ?_, fun b o e n hb hx => ?_, I.base.free, fun b o e hx => ?_, I.base.tups, I.base.frzs, I.base.tbls⟩, ⟨m, hn.sameBut hs (Ne.symm (cne x c hc)), fun j y v' e1 e2 e3 => ?_⟩, fun y c' e => ?_, I.free, I.freeC, fun p hp => ?_, tracked ⟨oc, hoc, I.freeC x c hc⟩ hs, by simpa using I.len⟩ ⟨c, hs, .inr hc⟩
    · exact (hs.2 b (Nat.ne_of_lt (Nat.lt_of_lt_of_le (Heap.lt_size e) (I.ok.cab x c hfn hc)))).trans (I.base.keep b o e n hb hx)
    · obtain ⟨sl, e1⟩ := I.base.slot b o e n hb hx
      exact ⟨sl, (hs.2 b (Nat.ne_of_lt (Nat.lt_of_lt_of_le (Heap.lt_size e) (I.ok.cab x c hfn hc)))).trans e1⟩
    · obtain ⟨o', e1⟩ := I.base.there b o e hx
      exact ⟨o', (hs.2 b (Nat.ne_of_lt (Nat.lt_of_lt_of_le (Heap.lt_size e) (I.ok.cab x c hfn hc)))).trans e1⟩
    · by_cases hj : j = i
      · subst hj
        rw [hi] at e1; cases e1
        rw [List.getElem?_set_self hiσ] at e2
        cases e2
        exact ⟨u, r, .inr ⟨.inl hk, c, hc, hc'⟩⟩
      · rw [List.getElem?_set_ne (Ne.symm hj)] at e2
        obtain ⟨u', r', q⟩ := hl j y v' e1 e2 e3
        refine ⟨u', r', ?_⟩
        rcases q with q | ⟨k, c', e, z'⟩
        · exact .inl q
        · refine .inr ⟨k, c', e, z'.sameBut hs ?_⟩
          rintro rfl
          exact hj (nodup_ix hN e1 (I.ok.inj _ _ _ e hc ▸ hi))
    · by_cases hcc : c' = c
      · subst hcc; exact ⟨_, hc'⟩
      · obtain ⟨w2, z2⟩ := I.cell y c' e
        exact ⟨w2, z2.sameBut hs hcc⟩
    · obtain ⟨e, n, ne, nf, d⟩ := I.pin p hp
      refine ⟨(hs.2 p.1 ?_).trans e, n, ne, nf, d⟩
      intro q
      rw [q, hoc] at e
      have q' : oc = p.2 := Option.some.inj e
      exact d w' (by rw [← q']; exact hocd)
theorem store_ok {M : Model} {A : Around} {E : Value → Shared → Prop} {i : Nat} {x : Str} {v : V} {u : Value} {Q : Unit → Shared → Prop} (I : Inv X pins σ H s) (hN : X.N.Nodup) (hi : X.N[i]? = some x) (hx : Loc X.env.scope x) (r : RelV v u)
    (h : ∀ s', Inv X pins (σ.set i (some v)) H s' → Q () s') (hf : X.fn x = true ∨ X.env.scope.names.lookup x = some .local := by first | exact .inl rfl | exact .inr rfl | assumption) : wpAny M A (storeName X.env x u) Q E s :=
  store_ok2 I hN hi hx r (fun s' I' _ => h s' I') hf
theorem Inv.call' {s' : Shared} {ch : List Addr} (I : Inv X pins σ H s) (ho : s'.os = s.os) (u : Un (frs X.stack) ch H H' s.heap s'.heap) (hok : HOk X.prog X.w H' s'.heap) (hg : AllBare s'.gens)
    (hch : ∀ b ∈ ch, (b ∈ X.ex ∨ X.s₀.heap.objs.size ≤ b) ∧ b ≠ X.env.locals ∧ (∀ x c, X.env.cells.lookup x = some c → c ≠ b) ∧ ∀ p ∈ X.pn ++ pins, p.1 ≠ b) : Inv X pins σ H' s' := by
  obtain ⟨h', g', d', t', o'⟩ := s'
  have e : o' = s.os := ho
  subst e
  exact I.call (g' := g') (t' := t') (d' := d') u hok hg hch
end
abbrev XK := Value → Option Addr → Hp → Prop
abbrev St := List (Option V)
abbrev VK := V → Hp → Prop
abbrev TE := St → Hp → VK → Prop
abbrev TT := St → Hp → (Bool → Hp → Prop) → Prop
abbrev TA := St → Hp → (List V → Hp → Prop) → Prop
structure Ends where
  nx : St → Hp → Prop
  rt : VK
  bk : St → Hp → Prop := fun _ _ => False
  ct : St → Hp → Prop := fun _ _ => False
abbrev TS := Ends → St → Hp → Prop
def EP (X : Cx) (pins : List (Addr × Obj)) (σ : St) (Q : VK) (u : Value) (s' : Shared) : Prop := ∃ v H', Inv X pins σ H' s' ∧ RelV v u ∧ Q v H'
def TP (X : Cx) (pins : List (Addr × Obj)) (σ : St) (Q : Bool → Hp → Prop) (b : Bool) (s' : Shared) : Prop := ∃ H', Inv X pins σ H' s' ∧ Q b H'
def AP (X : Cx) (pins : List (Addr × Obj)) (σ : St) (Q : List V → Hp → Prop) (us : List Value) (s' : Shared) : Prop := ∃ vs H', Inv X pins σ H' s' ∧ Vals vs us ∧ Q vs H'
def SP (X : Cx) (pins : List (Addr × Obj)) (D : Ends) (f : Flow) (s' : Shared) : Prop :=
  match f with
  | .next => ∃ σ' H', Inv X pins σ' H' s' ∧ D.nx σ' H'
  | .brk => ∃ σ' H', Inv X pins σ' H' s' ∧ D.bk σ' H'
  | .cont => ∃ σ' H', Inv X pins σ' H' s' ∧ D.ct σ' H'
  | .ret u => ∃ v σ' H', Inv X pins σ' H' s' ∧ RelV v u ∧ D.rt v H'
def PE (X : Cx) (e : Expr) (t : TE) : Prop :=
  ∀ (pins : List (Addr × Obj)) (s : Shared) (σ : St) (H : Hp) (Q : VK), Inv X pins σ H s → t σ H Q → wpAny (model X.prog X.w) X.A (eval e X.env) (EP X pins σ Q) X.xe s
def PT (X : Cx) (e : Expr) (t : TT) : Prop :=
  ∀ (pins : List (Addr × Obj)) (s : Shared) (σ : St) (H : Hp) (Q : Bool → Hp → Prop), Inv X pins σ H s → t σ H Q → wpAny (model X.prog X.w) X.A (isTrue e X.env (eval e X.env)) (TP X pins σ Q) X.xe s
def PW (X : Cx) (e : Expr) (t : TT) : Prop :=
  ∀ (whole : Sem Value) (pins : List (Addr × Obj)) (s : Shared) (σ : St) (H : Hp) (Q : Bool → Hp → Prop), Inv X pins σ H s → t σ H Q → wpAny (model X.prog X.w) X.A (isTrue e X.env whole) (TP X pins σ Q) X.xe s
theorem PW.pt {X : Cx} {e : Expr} {t : TT} (h : PW X e t) : PT X e t := h _
def PA (X : Cx) (es : List Expr) (t : TA) : Prop :=
  ∀ (pos : Pos) (pins : List (Addr × Obj)) (s : Shared) (σ : St) (H : Hp) (Q : List V → Hp → Prop), Inv X pins σ H s → t σ H Q → wpAny (model X.prog X.w) X.A (spliced (backTo pos (starEach es X.env))) (AP X pins σ Q) X.xe s
def PS (X : Cx) (st : Stmt) (t : TS) : Prop :=
  ∀ (pins : List (Addr × Obj)) (s : Shared) (σ : St) (H : Hp) (D : Ends), Inv X pins σ H s → t D σ H → wpAny (model X.prog X.w) X.A (exec st X.env) (SP X pins D) X.xe s
def PSs (X : Cx) (st : List Stmt) (t : TS) : Prop :=
  ∀ (pins : List (Addr × Obj)) (s : Shared) (σ : St) (H : Hp) (D : Ends), Inv X pins σ H s → t D σ H → wpAny (model X.prog X.w) X.A (execs st X.env) (SP X pins D) X.xe s
theorem thn {α : Type} {t : Sem α} {Q Q' : α → Shared → Prop} {M : Model} {A : Around} {E : Value → Shared → Prop} {s : Shared} (h : wpAny M A t Q E s) (hQ : ∀ a s, Q a s → Q' a s) : wpAny M A t Q' E s := wpAny_mono h hQ fun _ _ x => x
end L2
namespace L2
open PySem PySem.Spec PyProof.Rows
section
variable {X : Cx}
def tVar (i : Nat) : TE := fun σ H Q => ∃ v, σ[i]? = some (some v) ∧ Q v H
def tC (v : V) : TE := fun _ H Q => Q v H
theorem pe_var {i : Nat} {x : Str} {pos : Pos} (hN : X.N[i]? = some x) (hv : Vis X.env.scope x) (hd : (x == ("__debug__" : Str)) = false := by decide) (hcd : (x == ("__classdict__" : Str)) = false := by decide) : PE X (.Name x pos) (tVar i) := by
  intro pins s σ H Q I h
  obtain ⟨v, e, h⟩ := h
  obtain ⟨m, hn, hl⟩ := I.loc
  obtain ⟨u, r, l⟩ := hl i x v hN e hv
  have fin : EP X pins σ Q u s := ⟨v, H, I, r, h⟩
  rcases l with ⟨hk, hm⟩ | ⟨hk, c, hc, hcell⟩
  · exact wpAny_Name (wpAny_loadName_local I.ok.kind hk hn hm fin) hd
  · rcases hk with hk | hk
    · exact wpAny_Name (wpAny_loadName_cell I.ok.kind hk hc hcell fin) hd
    · exact wpAny_Name (wpAny_loadName_free I.ok.kind hk hc hcell fin hcd) hd
theorem pe_int {i j pos} : PE X (.Constant (.int i) j pos) (tC (.int i)) := fun _ _ _ H _ I h => wpAny_Constant_int ⟨.int i, H, I.tok _, ⟨_, rfl⟩, h⟩
theorem pe_bl {b j pos} : PE X (.Constant (.bool b) j pos) (tC (.bl b)) := fun _ _ _ H _ I h => Constant_bool ⟨.bl b, H, I, rfl, h⟩
theorem pe_str {x j pos} : PE X (.Constant (.str x) j pos) (tC (.str x)) := fun _ _ _ H _ I h => Calls.Constant_str ⟨.str x, H, I.tok _, ⟨_, rfl⟩, h⟩
def Gl (X : Cx) (x : Str) : Prop := X.env.kindOf x = some .globalImplicit
theorem ld_glob {E : Value → Shared → Prop} {pins : List (Addr × Obj)} {s : Shared} {σ : St} {H : Hp} {x : Str} {u : Value} {pos : Pos} {Q : Value → Shared → Prop} (I : Inv X pins σ H s) (hg : Gl X x) (hm : X.mg x = some u) (h : Q u s)
    (hd : (x == ("__debug__" : Str)) = false := by decide) : wpAny (model X.prog X.w) X.A (eval (.Name x pos) X.env) Q E s :=
  Calls.Name_function_global I.ok.kind hg (Calls.loadGlobal_global (by rw [I.ok.glob]; exact I.mod.glob.keeps I.bk) hm h) hd
theorem ld_blt {E : Value → Shared → Prop} {pins : List (Addr × Obj)} {s : Shared} {σ : St} {H : Hp} {x : Str} {u : Value} {pos : Pos} {Q : Value → Shared → Prop} (I : Inv X pins σ H s) (hg : Gl X x) (hm : X.mg x = none) (hv : bootBuiltins x = some u) (h : Q u s)
    (hn : x ≠ "__name__" := by decide) (hd : (x == ("__debug__" : Str)) = false := by decide) : wpAny (model X.prog X.w) X.A (eval (.Name x pos) X.env) Q E s := by
  obtain ⟨mb, h1, h2⟩ := I.mod.blt
  exact Calls.Name_function_global I.ok.kind hg (Calls.loadGlobal_builtin (by rw [I.ok.glob]; exact I.mod.glob.keeps I.bk) hm (by rw [I.ok.blt]; exact h1.keeps I.bk) ((h2 x hn).trans hv) h) hd
theorem pe_glob {x : Str} {v : V} {u : Value} {pos : Pos} (hg : Gl X x) (hm : X.mg x = some u) (r : RelV v u) (hd : (x == ("__debug__" : Str)) = false := by decide) : PE X (.Name x pos) (tC v) :=
  fun _ _ _ H _ I h => ld_glob I hg hm ⟨v, H, I, r, h⟩ hd
theorem pe_bltn {x : Str} {v : V} {u : Value} {pos : Pos} (hg : Gl X x) (hm : X.mg x = none) (hv : bootBuiltins x = some u) (r : RelV v u) (hn : x ≠ "__name__" := by decide) (hd : (x == ("__debug__" : Str)) = false := by decide) : PE X (.Name x pos) (tC v) :=
  fun _ _ _ H _ I h => ld_blt I hg hm hv ⟨v, H, I, r, h⟩ hn hd
def t2I (ta tb : TE) (k : Int → Int → Hp → Prop) : St → Hp → Prop := fun σ H => ta σ H fun x H1 => tb σ H1 fun y H2 => ∃ i j, x = .int i ∧ y = .int j ∧ k i j H2
def tMul (ta tb : TE) : TE := fun σ H Q => t2I ta tb (fun i j H2 => (-(2 ^ 64) < i ∧ i < 2 ^ 64) ∧ Q (.int (i * j)) H2) σ H
variable {a b : Expr} {ta tb : TE} {pos : Pos}
def tIsN (ta : TE) : TE := fun σ H Q => ta σ H fun x H1 => Q (.bl (decide (x = .non))) H1
def tB (t : TE) : TT := fun σ H Q => t σ H fun x H1 => ∃ c, x = .bl c ∧ Q c H1
theorem pt_val {e : Expr} {t : TE} (h : PE X e t) (he : ∀ whole, isTrue e X.env whole = (do let v ← whole; standAt e.pos; holding [v] (truthy v)) := by intro _; rfl) : PT X e (tB t) := by
  intro pins s σ H Q I hw
  refine isTrue_plain (thn (h pins s σ H _ I hw) fun v s1 ⟨x, H1, I1, r1, q1⟩ => ?_) (he _)
  obtain ⟨d, rfl, q⟩ := q1
  cases r1
  exact wpAny_truthy_bool ⟨H1, I1, q⟩
variable {tA tB' : TT} {rest : List Expr}
def tAnd (t u : TT) : TT := fun σ H Q => t σ H fun c H1 => if c = true then u σ H1 Q else Q false H1
def tOr (t u : TT) : TT := fun σ H Q => t σ H fun c H1 => if c = true then Q true H1 else u σ H1 Q
def tNot (t : TT) : TT := fun σ H Q => t σ H fun c H1 => Q (!c) H1
theorem pw_and1 (ha : PT X a tA) : PW X (.BoolOp .And [a] pos) tA := by
  intro wh pins s σ H Q I h
  refine isTrue_and (thn (ha pins s σ H Q I h) fun c s1 e => ?_)
  cases c with
  | true => exact isTrue_and_nil e
  | false => exact e
theorem pw_or1 (ha : PT X a tA) : PW X (.BoolOp .Or [a] pos) tA := by
  intro wh pins s σ H Q I h
  refine isTrue_or (thn (ha pins s σ H Q I h) fun c s1 e => ?_)
  cases c with
  | false => exact isTrue_or_nil e
  | true => exact e
theorem pw_and (ha : PT X a tA) (hb : PW X (.BoolOp .And (b :: rest) pos) tB') : PW X (.BoolOp .And (a :: b :: rest) pos) (tAnd tA tB') := by
  intro wh pins s σ H Q I h
  refine isTrue_and (thn (ha pins s σ H _ I h) fun c s1 ⟨H1, I1, q1⟩ => ?_)
  cases c with
  | true => exact hb wh pins s1 σ H1 Q I1 q1
  | false => exact ⟨H1, I1, q1⟩
theorem pw_or (ha : PT X a tA) (hb : PW X (.BoolOp .Or (b :: rest) pos) tB') : PW X (.BoolOp .Or (a :: b :: rest) pos) (tOr tA tB') := by
  intro wh pins s σ H Q I h
  refine isTrue_or (thn (ha pins s σ H _ I h) fun c s1 ⟨H1, I1, q1⟩ => ?_)
  cases c with
  | true => exact ⟨H1, I1, q1⟩
  | false => exact hb wh pins s1 σ H1 Q I1 q1
theorem pt_not (ha : PT X a tA) : PT X (.UnaryOp .Not a pos) (tNot tA) := by
  intro pins s σ H Q I h
  exact isTrue_not (ha pins s σ H (fun c H1 => Q (!c) H1) I h)
def tAndV (ta tb : TE) : TE := fun σ H Q => ta σ H fun x H1 => ∃ c, x = .bl c ∧ if c = true then tb σ H1 Q else Q (.bl false) H1
def tOrV (ta tb : TE) : TE := fun σ H Q => ta σ H fun x H1 => ∃ c, x = .bl c ∧ if c = true then Q (.bl true) H1 else tb σ H1 Q
def tNotV (ta : TE) : TE := fun σ H Q => ta σ H fun x H1 => ∃ c, x = .bl c ∧ Q (.bl (!c)) H1
theorem pe_one {op} {t : TE} (h : PE X a t) : PE X (.BoolOp op [a] pos) t := fun pins s σ H Q I hw => BoolOp_one (h pins s σ H Q I hw)
theorem pe_and (ha : PE X a ta) (hb : PE X (.BoolOp .And (b :: rest) pos) tb) : PE X (.BoolOp .And (a :: b :: rest) pos) (tAndV ta tb) := by
  intro pins s σ H Q I h
  refine BoolOp_and (thn (ha pins s σ H _ I h) fun v s1 ⟨x, H1, I1, r1, q1⟩ => ?_)
  obtain ⟨c, rfl, q1⟩ := q1
  cases r1
  refine wpAny_truthy_bool ?_
  cases c with
  | true => exact hb pins s1 σ H1 Q I1 q1
  | false => exact ⟨.bl false, H1, I1, rfl, q1⟩
theorem pe_or (ha : PE X a ta) (hb : PE X (.BoolOp .Or (b :: rest) pos) tb) : PE X (.BoolOp .Or (a :: b :: rest) pos) (tOrV ta tb) := by
  intro pins s σ H Q I h
  refine BoolOp_or (thn (ha pins s σ H _ I h) fun v s1 ⟨x, H1, I1, r1, q1⟩ => ?_)
  obtain ⟨c, rfl, q1⟩ := q1
  cases r1
  refine wpAny_truthy_bool ?_
  cases c with
  | false => exact hb pins s1 σ H1 Q I1 q1
  | true => exact ⟨.bl true, H1, I1, rfl, q1⟩
theorem pe_not (ha : PE X a ta) : PE X (.UnaryOp .Not a pos) (tNotV ta) := by
  intro pins s σ H Q I h
  refine UnaryOp_ (thn (ha pins s σ H _ I h) fun v s1 ⟨x, H1, I1, r1, q1⟩ => ?_)
  obtain ⟨c, rfl, q1⟩ := q1
  cases r1
  exact not_of (wpAny_truthy_bool ⟨.bl (!c), H1, I1, rfl, q1⟩)
def tIf (t : TT) (ta tb : TE) : TE := fun σ H Q => t σ H fun c H1 => if c = true then ta σ H1 Q else tb σ H1 Q
end
end L2
namespace L2
open PySem PySem.Spec PyProof.Rows
def SqL (K : PySem.W.Frag) (H : Hp) (a : Addr) (xs : List V) : Prop :=
  Rd H a (.lst xs) ∨
    ∃ (o : Obj) (its : Array Value) (n : Nat), K.lookup a = some o ∧ o.cls = .type "list" ∧ o.dict = none ∧ o.data = .seq its n ∧ its.size ≤ sizeLine ∧ Vals xs its.toList
def SqT (K : PySem.W.Frag) (H : Hp) (a : Addr) (xs : List V) : Prop :=
  Rd H a (.tup xs) ∨
    ∃ (o : Obj) (its : Array Value) (n : Nat), K.lookup a = some o ∧ o.cls = .type "tuple" ∧ o.data = .seq its n ∧ its.size ≤ sizeLine ∧ Vals xs its.toList
def absV : Value → Option V
  | .none => some .non
  | .bool b => some (.bl b)
  | .int i _ => some (.int i)
  | .str x _ => some (.str x)
  | .bytes b _ => some (.byt b)
  | .float b _ => some (.flt b)
  | .ref a => some (.ref a)
  | .type n => some (.ty n)
  | _ => none
theorem RelV.abs {x : V} {u : Value} (r : RelV x u) : absV u = some x := by
  cases x with
  | non => cases r; rfl
  | bl _ => cases r; rfl
  | int _ => obtain ⟨t, rfl⟩ := r; rfl
  | str _ => obtain ⟨t, rfl⟩ := r; rfl
  | byt _ => obtain ⟨t, rfl⟩ := r; rfl
  | flt _ => obtain ⟨t, rfl⟩ := r; rfl
  | ref _ => cases r; rfl
  | ty _ => cases r; rfl
theorem RelV.inj {x y : V} {u : Value} (r : RelV x u) (q : RelV y u) : x = y := Option.some.inj (r.abs.symm.trans q.abs)
theorem Vals.inj : ∀ {xs ys : List V} {us : List Value}, Vals xs us → Vals ys us → xs = ys
  | _, _, _, .nil, .nil => rfl
  | _, _, _, .cons r t, .cons r' t' => by rw [r.inj r', Vals.inj t t']
section
variable {X : Cx} {pins : List (Addr × Obj)} {σ : St} {H : Hp} {s : Shared} {a : Addr} {xs ys : List V}
theorem SqL.of {K : PySem.W.Frag} (h : H a = some (.lst xs)) : SqL K H a xs := .inl (.inl h)
theorem SqT.of {K : PySem.W.Frag} (h : H a = some (.tup xs)) : SqT K H a xs := .inl (.inl h)
theorem Inv.list (I : Inv X pins σ H s) (h : SqL X.K H a xs) : ∃ its : List Value, Vals xs its ∧ PlainL s.heap a its.toArray ∧ xs.length ≤ sizeLine := by
  rcases h with h | ⟨o, its, n, hk, hc, hd, hs, hz, r⟩
  · obtain ⟨z, its, n, r, e⟩ := h.ok I.hok
    exact ⟨its, r, ⟨_, n, e, rfl, rfl, rfl⟩, z⟩
  · refine ⟨its.toList, r, ⟨o, n, I.kIn a o hk, hc, hd, by simpa using hs⟩, ?_⟩
    have e := r.length
    simp only [Array.length_toList] at e
    omega
theorem Inv.tuple (I : Inv X pins σ H s) (h : SqT X.K H a xs) : ∃ its : List Value, Vals xs its ∧ IsTup s.heap a its.toArray ∧ xs.length ≤ sizeLine := by
  rcases h with h | ⟨o, its, n, hk, hc, hs, hz, r⟩
  · obtain ⟨z, its, r, p⟩ := h.ok I.hok
    exact ⟨its, r, p.is, z⟩
  · refine ⟨its.toList, r, ⟨o, I.kIn a o hk, hc, n, by simpa using hs⟩, ?_⟩
    have e := r.length
    simp only [Array.length_toList] at e
    omega
theorem Inv.list_inj (I : Inv X pins σ H s) (h : SqL X.K H a xs) (h' : SqL X.K H a ys) : xs = ys := by
  obtain ⟨its, r, ⟨o, n, e, _, _, d⟩, _⟩ := I.list h
  obtain ⟨its', r', ⟨o', n', e', _, _, d'⟩, _⟩ := I.list h'
  rw [e] at e'; cases e'
  rw [d] at d'
  injection d' with d1 _
  have : its = its' := by simpa using congrArg Array.toList d1
  subst this
  exact r.inj r'
theorem Inv.tuple_inj (I : Inv X pins σ H s) (h : SqT X.K H a xs) (h' : SqT X.K H a ys) : xs = ys := by
  obtain ⟨its, r, ⟨o, e, _, n, d⟩, _⟩ := I.tuple h
  obtain ⟨its', r', ⟨o', e', _, n', d'⟩, _⟩ := I.tuple h'
  rw [e] at e'; cases e'
  rw [d] at d'
  injection d' with d1 _
  have : its = its' := by simpa using congrArg Array.toList d1
  subst this
  exact r.inj r'
end
abbrev Cx.wish (X : Cx) (E : Value → Shared → Prop) : Cx := { X with xe := E }
abbrev Cx.nox (X : Cx) : Cx := X.wish fun _ _ => False
theorem Cx.Ok.wish {X : Cx} (ok : X.Ok) (E : Value → Shared → Prop) : (X.wish E).Ok :=
  ⟨ok.mod, ok.kind, ok.glob, ok.blt, ok.above, ok.inj, ok.has, ok.cab, ok.hd, ok.frames, ok.stk, ok.exf, ok.bs, ok.bsz, ok.noex, ok.exfs, ok.funs, ok.frf⟩
theorem Cx.Ok.unwish {X : Cx} {E : Value → Shared → Prop} (ok : (X.wish E).Ok) : X.Ok :=
  ⟨ok.mod, ok.kind, ok.glob, ok.blt, ok.above, ok.inj, ok.has, ok.cab, ok.hd, ok.frames, ok.stk, ok.exf, ok.bs, ok.bsz, ok.noex, ok.exfs, ok.funs, ok.frf⟩
section
variable {X : Cx} {pins : List (Addr × Obj)} {σ : St} {H : Hp} {s : Shared} {E : Value → Shared → Prop}
theorem Inv.wish (I : Inv X pins σ H s) (E : Value → Shared → Prop) : Inv (X.wish E) pins σ H s := ⟨I.ok.wish E, I.os, I.bare, I.base, I.loc, I.cell, I.free, I.freeC, I.pin, I.hok, I.len⟩
theorem Inv.unwish (I : Inv (X.wish E) pins σ H s) : Inv X pins σ H s := ⟨I.ok.unwish, I.os, I.bare, I.base, I.loc, I.cell, I.free, I.freeC, I.pin, I.hok, I.len⟩
theorem SP.unwish {D : Ends} {f : Flow} {s' : Shared} (h : SP (X.wish E) pins D f s') : SP X pins D f s' := by
  cases f with
  | next => obtain ⟨σ', H', I, q⟩ := h; exact ⟨σ', H', I.unwish, q⟩
  | brk => obtain ⟨σ', H', I, q⟩ := h; exact ⟨σ', H', I.unwish, q⟩
  | cont => obtain ⟨σ', H', I, q⟩ := h; exact ⟨σ', H', I.unwish, q⟩
  | ret u => obtain ⟨v, σ', H', I, r, q⟩ := h; exact ⟨v, σ', H', I.unwish, r, q⟩
theorem PSs.nox {st : List Stmt} {t : TS} (h : PSs X.nox st t) : PSs X st t := fun pins s σ H D I hw =>
  wpAny_mono (h pins s σ H D (I.wish _) hw) (fun _ _ q => q.unwish) fun _ _ z => False.elim z
end
section
variable {X : Cx} {st : Stmt} {rest : List Stmt} {t u : TS} {e : Expr} {te : TE} {pos : Pos}
def tNext : TS := fun D σ H => D.nx σ H
def tSeq (t u : TS) : TS := fun D σ H => t { D with nx := u D } σ H
theorem pss_nil : PSs X [] tNext := fun _ _ σ H _ I h => wpAny_execs_nil ⟨σ, H, I, h⟩
theorem pss_cons (h1 : PS X st t) (h2 : PSs X rest u) : PSs X (st :: rest) (tSeq t u) := by
  intro pins s σ H D I h
  refine wpAny_execs_cons (thn (h1 pins s σ H { D with nx := u D } I h) fun f s1 q => ?_)
  cases f with
  | next =>
    obtain ⟨σ', H', I', q⟩ := q
    exact h2 pins s1 σ' H' D I' q
  | ret v => exact q
  | brk => exact q
  | cont => exact q
theorem pss_one (h1 : PS X st t) : PSs X [st] t := by
  intro pins s σ H D I h
  refine wpAny_execs_cons (thn (h1 pins s σ H D I h) fun f s1 q => ?_)
  cases f with
  | next => exact wpAny_execs_nil q
  | ret v => exact q
  | brk => exact q
  | cont => exact q
theorem Inv.quiet {pins : List (Addr × Obj)} {σ : St} {H : Hp} {s : Shared} (I : Inv X pins σ H s) : interactive X.env = false := by simp [interactive, I.ok.kind]
def tDrop (te : TE) : TS := fun D σ H => te σ H fun _ H1 => D.nx σ H1
theorem ps_expr (he : PE X e te) (hs : swapsWith e none pos.line X.env = pure false := by rfl) : PS X (.Expr e pos) (tDrop te) := by
  intro pins s σ H D I h
  exact wpAny_Expr_any (thn (he pins s σ H _ I h) fun v s1 ⟨x, H1, I1, r1, q1⟩ => ⟨σ, H1, I1, q1⟩) I.quiet hs
def tRet (te : TE) : TS := fun D σ H => te σ H D.rt
theorem ps_ret (he : PE X e te) : PS X (.Return (some e) pos) (tRet te) := by
  intro pins s σ H D I h
  exact wpAny_Return_some (thn (he pins s σ H _ I h) fun v s1 ⟨x, H1, I1, r1, q1⟩ => ⟨x, σ, H1, I1, r1, q1⟩)
def tIfS (c : TT) (t u : TS) : TS := fun D σ H => c σ H fun b H1 => if b = true then t D σ H1 else u D σ H1
theorem ps_if {c : Expr} {a b : List Stmt} {tc : TT} (hc : PT X c tc) (ha : PSs X a t) (hb : PSs X b u) : PS X (.If c a b pos) (tIfS tc t u) := by
  intro pins s σ H D I h
  refine wpAny_If (thn (hc pins s σ H _ I h) fun d s1 ⟨H1, I1, q1⟩ => ?_)
  cases d with
  | true => exact ha pins s1 σ H1 D I1 q1
  | false => exact hb pins s1 σ H1 D I1 q1
def tNever : TS := fun _ _ _ => False
end
abbrev TG := V → St → Hp → (St → Hp → Prop) → Prop
abbrev TGs := List V → St → Hp → (St → Hp → Prop) → Prop
def PG (X : Cx) (target : Expr) (t : TG) : Prop :=
  ∀ (pins : List (Addr × Obj)) (s : Shared) (σ : St) (H : Hp) (v : V) (u : Value) (Q : St → Hp → Prop), Inv X pins σ H s → RelV v u → t v σ H Q →
    wpAny (model X.prog X.w) X.A (assign target X.env u) (fun _ s' => ∃ σ' H', Inv X pins σ' H' s' ∧ Q σ' H') X.xe s
def PGs (X : Cx) (ts : List Expr) (t : TGs) : Prop :=
  ∀ (pins : List (Addr × Obj)) (s : Shared) (σ : St) (H : Hp) (vs : List V) (us : List Value) (Q : St → Hp → Prop), Inv X pins σ H s → Vals vs us → t vs σ H Q →
    wpAny (model X.prog X.w) X.A (assignInOrder ((assignEach ts X.env).map (·.2)) us) (fun _ s' => ∃ σ' H', Inv X pins σ' H' s' ∧ Q σ' H') X.xe s
abbrev TSet := V → V → V → Hp → (Hp → Prop) → Prop
def PSet (X : Cx) (t : TSet) : Prop :=
  ∀ (pins : List (Addr × Obj)) (s : Shared) (σ : St) (H : Hp) (o i v : V) (ov iv u : Value) (Q : Hp → Prop), Inv X pins σ H s → RelV o ov → RelV i iv → RelV v u → t o i v H Q →
    wpAny (model X.prog X.w) X.A (setItem ov iv u) (fun _ s' => ∃ H', Inv X pins σ H' s' ∧ Q H') X.xe s
abbrev TIp := V → V → Hp → VK → Prop
section
variable {X : Cx} {pos : Pos}
def gName (i : Nat) : TG := fun v σ H Q => Q (σ.set i (some v)) H
theorem pg_name {i : Nat} {x : Str} (hN : X.N.Nodup) (hi : X.N[i]? = some x) (hx : Loc X.env.scope x) (hf : X.fn x = true ∨ X.env.scope.names.lookup x = some .local := by first | exact .inl rfl | exact .inr rfl | assumption) : PG X (.Name x pos) (gName i) := by
  intro pins s σ H v u Q I r h
  exact wpAny_assign_Name (store_ok I hN hi hx r (fun s' I' => ⟨_, H, I', h⟩) hf)
def gNil : TGs := fun vs σ H Q => vs = [] ∧ Q σ H
def gCons (t : TG) (u : TGs) : TGs := fun vs σ H Q => ∃ v r, vs = v :: r ∧ t v σ H fun σ' H' => u r σ' H' Q
theorem pgs_nil : PGs X [] gNil := by
  intro pins s σ H vs us Q I r h
  obtain ⟨e, h⟩ := h
  subst e
  cases r
  exact assignInOrder_nil ⟨σ, H, I, h⟩
theorem pgs_cons {e : Expr} {es : List Expr} {t : TG} {u : TGs} (h1 : PG X e t) (h2 : PGs X es u)
    (hs : (assignEach (e :: es) X.env).map (·.2) = assign e X.env :: (assignEach es X.env).map (·.2) := by rfl) : PGs X (e :: es) (gCons t u) := by
  intro pins s σ H vs us Q I r h
  obtain ⟨v, vr, e1, h⟩ := h
  subst e1
  cases r with
  | cons r rr =>
    rw [hs]
    refine assignInOrder_cons (thn (h1 pins s σ H _ _ _ I r h) fun _ s1 ⟨σ1, H1, I1, q1⟩ => ?_)
    exact h2 pins s1 σ1 H1 _ _ Q I1 rr q1
def gTup (K : PySem.W.Frag) (n : Nat) (t : TGs) : TG := fun v σ H Q => ∃ a xs, v = .ref a ∧ SqT K H a xs ∧ xs.length = n ∧ t xs σ H Q
theorem pg_tup {es : List Expr} {k : Nat} {t : TGs} {n : Nat} (hc : X.calm = true) (h : PGs X es t)
    (hn : (assignEach es X.env).length = n := by rfl) (hst : (assignEach es X.env).findIdx? (·.1) = none := by rfl) : PG X (.Tuple es k pos) (gTup X.K n t) := by
  intro pins s σ H v u Q I r hw
  obtain ⟨a, xs, e1, hq, hl, hw⟩ := hw
  subst e1
  cases r
  obtain ⟨its, rv, ht, hz⟩ := I.tuple hq
  refine assign_Tuple_tuple (I.ok.hd hc) ht (by simp [hn, ← hl, rv.length]) hst fun h' hx => ?_
  have I1 : Inv X pins σ H { s with heap := h' } := I.kept (t' := s.toks) fun b o e => hx b o (Nat.ne_of_lt (Heap.lt_size e)) e
  exact h pins _ σ H xs _ Q I1 (by simpa using rv) hw
def gSub (to ti : TE) (t : TSet) : TG := fun v σ H Q => to σ H fun o H1 => ti σ H1 fun i H2 => t o i v H2 fun H3 => Q σ H3
theorem pg_sub {o i : Expr} {to ti : TE} {t : TSet} (ho : PE X o to) (hi : PE X i ti) (hs : PSet X t)
    (ha : ∀ v, assign (.Subscript o i pos) X.env v = (do
      let ov ← holding [v] (eval o X.env)
      let iv ← holding [v, ov] (eval i X.env)
      standAt pos
      holding [v, ov, iv] (setItem ov iv v)
      release [v, ov, iv] []) := by intro _; rfl) : PG X (.Subscript o i pos) (gSub to ti t) := by
  intro pins s σ H v u Q I r h
  rw [ha]
  refine wpAny_bind (wpAny_holding (thn (ho pins s σ H _ I h) fun ov s1 ⟨x, H1, I1, r1, q1⟩ => ?_))
  refine wpAny_bind (wpAny_holding (thn (hi pins s1 σ H1 _ I1 q1) fun iv s2 ⟨y, H2, I2, r2, q2⟩ => ?_))
  refine wpAny_bind (wpAny_standAt (wpAny_bind (wpAny_holding (thn (hs pins s2 σ H2 x y v ov iv u _ I2 r1 r2 r q2) fun _ s3 ⟨H3, I3, q3⟩ => ?_))))
  exact wpAny_release ⟨σ, H3, I3, q3⟩
def tAsg (te : TE) (g : TG) : TS := fun D σ H => te σ H fun x H1 => g x σ H1 D.nx
theorem ps_asg {tg e : Expr} {te : TE} {g : TG} (he : PE X e te) (hg : PG X tg g) (hs : swapsWithSole [tg] e pos.line X.env = pure false := by rfl) (hw : swappedStores [tg] e X.env = pure none := by rfl)
    (h1 : (assignEach [tg] X.env).map (·.2) = [assign tg X.env] := by rfl) : PS X (.Assign [tg] e pos) (tAsg te g) := by
  intro pins s σ H D I h
  refine wpAny_Assign_stores (thn (he pins s σ H _ I h) fun v s1 ⟨x, H1, I1, r1, q1⟩ => ?_) hs hw
  rw [h1]
  exact thn (hg pins s1 σ H1 x v _ I1 r1 q1) fun _ s2 q => q
theorem ps_set {i : Nat} {x : Str} {e : Expr} {te : TE} {pos' : Pos} (hN : X.N.Nodup) (hi : X.N[i]? = some x) (hx : Loc X.env.scope x) (he : PE X e te) (hs : swapsWith e (some (.Name x pos')) pos.line X.env = pure false := by rfl) (hf : X.fn x = true ∨ X.env.scope.names.lookup x = some .local := by first | exact .inl rfl | exact .inr rfl | assumption) :
    PS X (.Assign [.Name x pos'] e pos) (tAsg te (gName i)) := by
  intro pins s σ H D I h
  refine wpAny_Assign_Name (thn (he pins s σ H _ I h) fun v s1 ⟨y, H1, I1, r1, q1⟩ => ?_) hs
  exact store_ok I1 hN hi hx r1 (fun s2 I2 => ⟨_, H1, I2, q1⟩) hf
def tPar (i j : Nat) (ta : TA) : TS := fun D σ H => ta σ H fun vs H1 => ∃ v w, vs = [v, w] ∧ D.nx ((σ.set i (some v)).set j (some w)) H1
def tAug (i : Nat) (te : TE) (ti : TIp) : TS := fun D σ H => ∃ x, σ[i]? = some (some x) ∧ te σ H fun y H1 => ti x y H1 fun z H2 => D.nx (σ.set i (some z)) H2
def tAugS (to ti te : TE) (tget : V → V → Hp → VK → Prop) (tip : TIp) (tset : TSet) : TS := fun D σ H => to σ H fun o H1 => ti σ H1 fun i H2 => tget o i H2 fun x H3 => te σ H3 fun y H4 => tip x y H4 fun z H5 => tset o i z H5 fun H6 => D.nx σ H6
def PGet (X : Cx) (t : V → V → Hp → VK → Prop) : Prop :=
  ∀ (pins : List (Addr × Obj)) (s : Shared) (σ : St) (H : Hp) (o i : V) (ov iv : Value) (Q : VK), Inv X pins σ H s → RelV o ov → RelV i iv → t o i H Q →
    wpAny (model X.prog X.w) X.A (getItem ov iv) (EP X pins σ Q) X.xe s
def ipI (f : Int → Int → Int) : TIp := fun x y H Q => ∃ i j, x = .int i ∧ y = .int j ∧ Q (.int (f i j)) H
end
section
variable {X : Cx} {pos : Pos}
def tWhile (c : TT) (tb : TS) : TS := fun D σ H => ∃ W : Nat → St → Hp → Prop, (∃ m, W m σ H) ∧ ∀ m σ H, W m σ H →
  c σ H fun b H1 => if b = true then ∃ N : St → Hp → Prop, (∀ σ' H', N σ' H' → ∃ m', m' < m ∧ W m' σ' H') ∧ tb { D with nx := N, ct := N, bk := D.nx } σ H1 else D.nx σ H1
end
structure It where
  go : Nat → Hp → Prop
  yld : Nat → Hp → V → Hp → Prop
  stop : Nat → Hp → Prop
def FpOk (X : Cx) (pins : List (Addr × Obj)) (H : Hp) (b : Addr) : Prop :=
  H b = none ∧ b ≠ X.env.locals ∧ b ∉ X.fs ∧ (b ∈ X.ex ∨ X.s₀.heap.objs.size ≤ b) ∧ (∀ x c, X.env.cells.lookup x = some c → c ≠ b) ∧ ∀ p ∈ X.pn ++ pins, p.1 ≠ b
theorem Inv.fpOk {X : Cx} {pins : List (Addr × Obj)} {σ : St} {H H' : Hp} {s : Shared} {b : Addr} (I : Inv X pins σ H s) (hb : s.heap.objs.size ≤ b) (hn : H' b = none) : FpOk X pins H' b := by
  refine ⟨hn, Nat.ne_of_gt (Nat.lt_of_lt_of_le I.lt hb), I.nofs hb, .inr (Nat.le_trans I.sz hb), fun x c e z => ?_, fun p hp z => ?_⟩
  · obtain ⟨v, q⟩ := I.cell x c e
    exact absurd (Nat.lt_of_lt_of_le q.lt (by rw [z]; exact hb)) (Nat.lt_irrefl _)
  · exact absurd (Nat.lt_of_lt_of_le (Heap.lt_size (I.pin p hp).1) (by rw [z]; exact hb)) (Nat.lt_irrefl _)
structure Turn (P : Program) (w : World) (K : PySem.W.Frag) (tg : Expr) (J : It) (fp : List Addr) (it : Addr) (tn : Nat → Heap → Prop) : Prop where
  mem : it ∈ fp
  obj : ∀ i h, tn i h → ∀ b ∈ fp, ∃ o, h.get? b = some o ∧ ∀ v, o.data ≠ .cell v
  keep : ∀ i h h', tn i h → (∀ b ∈ fp, ∀ o, h.get? b = some o → h'.get? b = some o) → tn i h'
  item : ∀ (X : Cx), X.prog = P → X.w = w → X.K = K → X.calm = true → ∀ (i : Nat) (pins : List (Addr × Obj)) (s : Shared) (σ : St) (H : Hp) (E : Value → Shared → Prop), Inv X pins σ H s → (∀ b ∈ fp, FpOk X pins H b) → tn i s.heap → J.go i H →
    wpAny (model P w) X.A (pyNext (.ref it)) (fun r s1 => ∃ u, r = some u ∧
      wpAny (model P w) X.A (letOwnedTupleGo tg (.ref it) u) (fun _ s2 => ∃ x H', Inv X pins σ H' s2 ∧ RelV x u ∧ J.yld i H x H' ∧ tn (i + 1) s2.heap ∧ ∀ b ∈ fp, H' b = none) E s1) E s
  done : ∀ (X : Cx), X.prog = P → X.w = w → X.K = K → X.calm = true → ∀ (i : Nat) (pins : List (Addr × Obj)) (s : Shared) (σ : St) (H : Hp) (E : Value → Shared → Prop), Inv X pins σ H s → (∀ b ∈ fp, FpOk X pins H b) → tn i s.heap → J.stop i H →
    wpAny (model P w) X.A (pyNext (.ref it)) (fun r s1 => r = none ∧ Inv X pins σ H s1) E s
  self : ∀ (A : Around) (i : Nat) (s : Shared) (Q : Value → Shared → Prop) (E : Value → Shared → Prop), tn i s.heap → Q (.ref it) s → wpAny (model P w) A (pyIter (.ref it)) Q E s
abbrev TI := St → Hp → (It → Hp → Prop) → Prop
def PIE (X : Cx) (pins : List (Addr × Obj)) (σ : St) (tg : Expr) (R : It → Hp → Prop) (itv : Value) (s2 : Shared) : Prop :=
  ∃ (it : Addr) (fp : List Addr) (tn : Nat → Heap → Prop) (J : It) (H' : Hp), itv = .ref it ∧ Inv X pins σ H' s2 ∧ Turn X.prog X.w X.K tg J fp it tn ∧ tn 0 s2.heap ∧ (∀ b ∈ fp, FpOk X pins H' b) ∧ R J H'
def PI (X : Cx) (tg iter : Expr) (wi : TI) : Prop :=
  ∀ (pins : List (Addr × Obj)) (s : Shared) (σ : St) (H : Hp) (R : It → Hp → Prop), Inv X pins σ H s → wi σ H R →
    wpAny (model X.prog X.w) X.A (eval iter X.env) (fun v s1 => wpAny (model X.prog X.w) X.A (pyIter v) (PIE X pins σ tg R) X.xe s1) X.xe s
theorem go_of {M : Model} {A : Around} {E : Value → Shared → Prop} {s : Shared} {tg : Expr} {it : Addr} {u : Value} {o : Obj} {n : String} {vs : Array Value} {Q : Unit → Shared → Prop} (ho : s.heap.get? it = some o) (hc : o.cls = .type n) (hd : o.data = .fields vs)
    (hn : ["enumerate", "zip", "dict_itemiterator", "dict_reverseitemiterator", "odict_iterator", "itertools.zip_longest", "itertools.pairwise"].contains n = false) (hQ : Q () s) : wpAny M A (letOwnedTupleGo tg (.ref it) u) Q E s := by
  unfold letOwnedTupleGo
  cases tg <;> first
    | exact wpAny_pure hQ
    | (cases u <;> first
        | exact wpAny_pure hQ
        | (refine wpAny_bind (wpAny_load ho ?_)
           rw [hc, hd]
           show wpAny M A (if (["enumerate", "zip", "dict_itemiterator", "dict_reverseitemiterator", "odict_iterator", "itertools.zip_longest", "itertools.pairwise"].contains n && vs[0]? == some (rawInt _)) = true then _ else _) Q E s
           rw [if_neg (by intro h; rw [hn, Bool.false_and] at h; cases h)]
           exact wpAny_pure hQ))
def Itl (K : PySem.W.Frag) (a : Addr) : It :=
  ⟨fun i H => ∃ xs x, SqL K H a xs ∧ xs[i]? = some x, fun i H x H' => H' = H ∧ ∀ xs, SqL K H a xs → xs[i]? = some x, fun i H => ∃ xs, SqL K H a xs ∧ xs.length ≤ i⟩
def Itt (K : PySem.W.Frag) (a : Addr) : It :=
  ⟨fun i H => ∃ xs x, SqT K H a xs ∧ xs[i]? = some x, fun i H x H' => H' = H ∧ ∀ xs, SqT K H a xs → xs[i]? = some x, fun i H => ∃ xs, SqT K H a xs ∧ xs.length ≤ i⟩
def Itr (lo : Int) (n : Nat) : It := ⟨fun i _ => i < n, fun i H x H' => H' = H ∧ x = .int (lo + i), fun i _ => n ≤ i⟩
theorem turn_list {P : Program} {w : World} {K : PySem.W.Frag} {tg : Expr} (a it : Addr) : Turn P w K tg (Itl K a) [it] it (fun i h => h.IsListIter it a i) where
  mem := by simp
  obj := fun i h st b hb => by
    have e : b = it := by simpa using hb
    subst e
    obtain ⟨o, e, c, d⟩ := st
    exact ⟨o, e, fun v z => by rw [d] at z; cases z⟩
  keep := fun i h h' st k => st.at fun o e => k it (by simp) o e
  item := by
    intro X hP hw hK hc i pins s σ H E I hf st hg
    subst hP hw hK
    obtain ⟨xs, x, hq, hx⟩ := hg
    obtain ⟨its, rv, p, hz⟩ := I.list hq
    obtain ⟨u, hu, ru⟩ := rv.get hx
    obtain ⟨f0, f1, f2, f3, f4, f5⟩ := hf it (by simp)
    refine wpAny_pyNext_list_item st p.isList (x := u) (by simpa using hu) fun h' st' sb => ?_
    have I1 : Inv X pins σ H { s with heap := h' } := I.turned (t' := s.toks) (fun b o hb e => (sb.2 b hb).trans e) f0 f1 f3 f4 f5
    obtain ⟨o, e, c, d⟩ := id st'
    exact ⟨u, rfl, go_of (s := { s with heap := h' }) e c d (by decide) ⟨x, H, I1, ru, ⟨rfl, fun ys hy => by rw [I.list_inj hy hq]; exact hx⟩, st', fun b hb => (hf b hb).1⟩⟩
  done := by
    intro X hP hw hK hc i pins s σ H E I hf st hg
    subst hP hw hK
    obtain ⟨xs, hq, hx⟩ := hg
    obtain ⟨its, rv, p, hz⟩ := I.list hq
    obtain ⟨f0, f1, f2, f3, f4, f5⟩ := hf it (by simp)
    have hl := rv.length
    exact wpAny_pyNext_list_end (I.ok.hd hc) st p.isList (by simp; omega) fun h' eb => ⟨rfl, I.turned (t' := s.toks) (fun b o hb e => eb b o hb e) f0 f1 f3 f4 f5⟩
  self := fun _ _ _ _ _ st h => wpAny_pyIter_listiter st h
theorem turn_tuple {P : Program} {w : World} {K : PySem.W.Frag} {tg : Expr} (a it : Addr) : Turn P w K tg (Itt K a) [it] it (fun i h => h.IsTupleIter it a i) where
  mem := by simp
  obj := fun i h st b hb => by
    have e : b = it := by simpa using hb
    subst e
    obtain ⟨o, e, c, d⟩ := st
    exact ⟨o, e, fun v z => by rw [d] at z; cases z⟩
  keep := fun i h h' st k => st.at fun o e => k it (by simp) o e
  item := by
    intro X hP hw hK hc i pins s σ H E I hf st hg
    subst hP hw hK
    obtain ⟨xs, x, hq, hx⟩ := hg
    obtain ⟨its, rv, p, hz⟩ := I.tuple hq
    obtain ⟨u, hu, ru⟩ := rv.get hx
    obtain ⟨f0, f1, f2, f3, f4, f5⟩ := hf it (by simp)
    refine wpAny_pyNext_tuple_item st (show s.heap.IsTuple a its.toArray from p) (x := u) (by simpa using hu) fun h' st' sb => ?_
    have I1 : Inv X pins σ H { s with heap := h' } := I.turned (t' := s.toks) (fun b o hb e => (sb.2 b hb).trans e) f0 f1 f3 f4 f5
    obtain ⟨o, e, c, d⟩ := id st'
    exact ⟨u, rfl, go_of (s := { s with heap := h' }) e c d (by decide) ⟨x, H, I1, ru, ⟨rfl, fun ys hy => by rw [I.tuple_inj hy hq]; exact hx⟩, st', fun b hb => (hf b hb).1⟩⟩
  done := by
    intro X hP hw hK hc i pins s σ H E I hf st hg
    subst hP hw hK
    obtain ⟨xs, hq, hx⟩ := hg
    obtain ⟨its, rv, p, hz⟩ := I.tuple hq
    obtain ⟨f0, f1, f2, f3, f4, f5⟩ := hf it (by simp)
    have hl := rv.length
    exact wpAny_pyNext_tuple_end (I.ok.hd hc) st (show s.heap.IsTuple a its.toArray from p) (by simp; omega) fun h' eb => ⟨rfl, I.turned (t' := s.toks) (fun b o hb e => eb b o hb e) f0 f1 f3 f4 f5⟩
  self := fun _ _ _ _ _ st h => wpAny_pyIter_tupleiter st h
theorem turn_range {P : Program} {w : World} {K : PySem.W.Frag} {tg : Expr} (it : Addr) (lo : Int) (n : Nat) : Turn P w K tg (Itr lo n) [it] it (fun i h => IsRangeIter h it (lo + (i : Nat) * 1) ((n : Int) - (i : Nat)) 1) where
  mem := by simp
  obj := fun i h st b hb => by
    have e : b = it := by simpa using hb
    subst e
    exact ⟨_, st, fun v z => by
      have z' : Data.fields _ = Data.cell v := z
      cases z'⟩
  keep := fun i h h' st k => k it (by simp) _ st
  item := by
    intro X hP hw hK hc i pins s σ H E I hf st hg
    subst hP hw hK
    obtain ⟨f0, f1, f2, f3, f4, f5⟩ := hf it (by simp)
    have W := Walks.range (prog := X.prog) (w := X.w) (I.ok.hd hc) it lo 1 n
    refine W.item i s _ _ hg st fun v h' tk hv st' kk => ?_
    obtain ⟨t, rfl⟩ := hv
    have I1 : Inv X pins σ H { s with heap := h', toks := tk } := I.turned (fun b o hb e => kk b o (by simpa using hb) e) f0 f1 f3 f4 f5
    refine ⟨_, rfl, go_of (s := { s with heap := h', toks := tk }) (n := "range_iterator") st' rfl rfl (by decide) ⟨.int (lo + i), H, I1, ⟨t, ?_⟩, ⟨rfl, rfl⟩, st', fun b hb => (hf b hb).1⟩⟩
    rw [Int.mul_one]
  done := by
    intro X hP hw hK hc i pins s σ H E I hf st hg
    subst hP hw hK
    obtain ⟨f0, f1, f2, f3, f4, f5⟩ := hf it (by simp)
    exact wpAny_pyNext_range_end (I.ok.hd hc) st (by have : n ≤ i := hg; omega) fun h' eb => ⟨rfl, I.turned (t' := s.toks) (fun b o hb e => eb b o hb e) f0 f1 f3 f4 f5⟩
  self := fun _ _ _ _ _ st h => wpAny_pyIter_rangeiter st h
end L2
namespace L2
open PySem PySem.Spec PyProof.Rows
section
variable {X : Cx} {tg : Expr}
def iList (K : PySem.W.Frag) (tl : TE) : TI := fun σ H R => tl σ H fun x H1 => ∃ a, x = .ref a ∧ (∃ xs, SqL K H1 a xs) ∧ R (Itl K a) H1
def iTup (K : PySem.W.Frag) (tl : TE) : TI := fun σ H R => tl σ H fun x H1 => ∃ a, x = .ref a ∧ (∃ xs, SqT K H1 a xs) ∧ R (Itt K a) H1
theorem pi_list {l : Expr} {tl : TE} (hl : PE X l tl) : PI X tg l (iList X.K tl) := by
  intro pins s σ H R I h
  refine thn (hl pins s σ H _ I h) fun v s1 ⟨x, H1, I1, r1, q1⟩ => ?_
  obtain ⟨a, e, ⟨xs, hq⟩, q⟩ := q1
  subst e
  cases r1
  obtain ⟨its, rv, p, hz⟩ := I1.list hq
  refine wpAny_pyIter_list p.isList ?_
  refine ⟨s1.heap.objs.size, [s1.heap.objs.size], _, _, H1, rfl, I1.kept (t' := s1.toks) fun b o e => Heap.get?_push_of_some _ e, turn_list a _, ⟨_, Heap.get?_push_size _ rfl, rfl, rfl⟩, fun b hb => ?_, q⟩
  have e : b = s1.heap.objs.size := by simpa using hb
  subst e
  exact I1.fpOk (Nat.le_refl _) (I1.hok.fresh (Nat.le_refl _))
theorem pi_tup {l : Expr} {tl : TE} (hl : PE X l tl) : PI X tg l (iTup X.K tl) := by
  intro pins s σ H R I h
  refine thn (hl pins s σ H _ I h) fun v s1 ⟨x, H1, I1, r1, q1⟩ => ?_
  obtain ⟨a, e, ⟨xs, hq⟩, q⟩ := q1
  subst e
  cases r1
  obtain ⟨its, rv, p, hz⟩ := I1.tuple hq
  refine wpAny_pyIter_tuple (show s1.heap.IsTuple a its.toArray from p) ?_
  refine ⟨s1.heap.objs.size, [s1.heap.objs.size], _, _, H1, rfl, I1.kept (t' := s1.toks) fun b o e => Heap.get?_push_of_some _ e, turn_tuple a _, ⟨_, Heap.get?_push_size _ rfl, rfl, rfl⟩, fun b hb => ?_, q⟩
  have e : b = s1.heap.objs.size := by simpa using hb
  subst e
  exact I1.fpOk (Nat.le_refl _) (I1.hok.fresh (Nat.le_refl _))
theorem range_it {pins : List (Addr × Obj)} {σ : St} {H : Hp} {s : Shared} {R : It → Hp → Prop} {E : Value → Shared → Prop} {lo hi : Int} {t u v : Tok} {tk : Nat} (I : Inv X pins σ H s) (h1 : -(2 ^ 62) ≤ lo) (h2 : lo < 2 ^ 62) (h3 : -(2 ^ 62) ≤ hi) (h4 : hi < 2 ^ 62)
    (q : R (Itr lo (hi - lo).toNat) H) : wpAny (model X.prog X.w) X.A (pyIter (.ref s.heap.objs.size)) (PIE X pins σ tg R) E { s with heap := s.heap.push { cls := .type "range", data := .fields #[.int lo t, .int hi u, .int 1 v] }, toks := tk } := by
  refine wpAny_pyIter_range (IsRange.new ..) (small_one h1 h2 h3 h4) ?_
  have I1 : Inv X pins σ H { s with heap := s.heap.push { cls := .type "range", data := .fields #[.int lo t, .int hi u, .int 1 v] }, toks := tk } := I.kept fun b o e => Heap.get?_push_of_some _ e
  refine ⟨(s.heap.push { cls := .type "range", data := .fields #[.int lo t, .int hi u, .int 1 v] }).objs.size, [(s.heap.push { cls := .type "range", data := .fields #[.int lo t, .int hi u, .int 1 v] }).objs.size], _, _, H, rfl,
    I1.kept (t' := tk) fun b o e => Heap.get?_push_of_some _ e, turn_range _ lo (hi - lo).toNat, ?_, fun b hb => ?_, q⟩
  · have e1 : lo + ((0 : Nat) : Int) * 1 = lo := by simp
    have e2 : (((hi - lo).toNat : Nat) : Int) - ((0 : Nat) : Int) = Builtin.Range.rangeSize lo hi 1 := by rw [rangeSize_one]; split <;> omega
    show IsRangeIter _ _ (lo + ((0 : Nat) : Int) * 1) ((((hi - lo).toNat : Nat) : Int) - ((0 : Nat) : Int)) 1
    rw [e1, e2]
    exact Heap.get?_push_size _ rfl
  · have e : b = (s.heap.push { cls := .type "range", data := .fields #[.int lo t, .int hi u, .int 1 v] }).objs.size := by simpa using hb
    subst e
    exact I1.fpOk (Nat.le_refl _) (I1.hok.fresh (Nat.le_refl _))
def iRng1 (ta : TA) : TI := fun σ H R => ta σ H fun vs H1 => ∃ j : Int, vs = [.int j] ∧ -(2 ^ 62) ≤ j ∧ j < 2 ^ 62 ∧ R (Itr 0 j.toNat) H1
theorem pi_range1 {a : Expr} {ta : TA} {p pos : Pos} (hg : Gl X "range") (hm : X.mg "range" = none) (ha : PA X [a] ta) (hs : starEach [a] X.env = [(false, eval a X.env)] := by rfl) : PI X tg (.Call (.Name "range" p) [a] [] pos) (iRng1 ta) := by
  intro pins s σ H R I h
  refine Call_ (ld_blt I hg hm boot_range (PyProof.Rows.callWith_type1 (thn (ha pos pins s σ H _ I h) fun us s1 ⟨vs, H1, I1, r1, q1⟩ => ?_) hs rfl))
  obtain ⟨j, e, q1, q2, q⟩ := q1
  subst e
  cases r1 with
  | cons r rr =>
    cases rr
    obtain ⟨t, rfl⟩ := r
    exact call_range_1 (range_it I1 (by omega) (by omega) q1 q2 (by simpa using q))
def tFor (wi : TI) (g : TG) (tb : TS) : TS := fun D σ H => wi σ H fun J H1 => ∃ W : Nat → Nat → St → Hp → Prop, (∃ m, W 0 m σ H1) ∧ ∀ i m σ H, W i m σ H →
  (J.stop i H ∧ D.nx σ H) ∨ (J.go i H ∧ ∃ N : St → Hp → Prop, (∀ σ' H', N σ' H' → ∃ m', m' < m ∧ W (i + 1) m' σ' H') ∧ ∀ x H', J.yld i H x H' → g x σ H' fun σ2 H2 => tb { D with nx := N, ct := N, bk := D.nx } σ2 H2)
def pinsAt (fp : List Addr) (h : Heap) : List (Addr × Obj) := fp.filterMap fun b => (h.get? b).map fun o => (b, o)
theorem mem_pinsAt {fp : List Addr} {h : Heap} {b : Addr} {o : Obj} (hb : b ∈ fp) (e : h.get? b = some o) : (b, o) ∈ pinsAt fp h := List.mem_filterMap.mpr ⟨b, hb, by rw [e]; rfl⟩
theorem of_pinsAt {fp : List Addr} {h : Heap} {p : Addr × Obj} (hp : p ∈ pinsAt fp h) : p.1 ∈ fp ∧ h.get? p.1 = some p.2 := by
  obtain ⟨b, hb, e⟩ := List.mem_filterMap.mp hp
  cases q : h.get? b with
  | none => rw [q] at e; cases e
  | some o =>
    rw [q] at e
    have e' : (b, o) = p := Option.some.inj e
    subst e'
    exact ⟨hb, q⟩
theorem Inv.pinned {pins : List (Addr × Obj)} {σ : St} {H : Hp} {s : Shared} {fp : List Addr} (I : Inv X pins σ H s) (hf : ∀ b ∈ fp, FpOk X pins H b) (ho : ∀ b ∈ fp, ∃ o, s.heap.get? b = some o ∧ ∀ v, o.data ≠ .cell v) : Inv X (pins ++ pinsAt fp s.heap) σ H s :=
  I.pins_of fun p hp => (List.mem_append.mp hp).elim (fun z => I.pin p (List.mem_append_right _ z)) fun z => by
    obtain ⟨hb, e⟩ := of_pinsAt z
    obtain ⟨f0, f1, f2, _⟩ := hf p.1 hb
    obtain ⟨o, e', d⟩ := ho p.1 hb
    rw [e] at e'; cases e'
    exact ⟨e, f0, f1, f2, d⟩
theorem Inv.unpinned {pins pl : List (Addr × Obj)} {σ : St} {H : Hp} {s : Shared} (I : Inv X (pins ++ pl) σ H s) : Inv X pins σ H s := I.pins_of fun p hp => I.pin p (List.mem_append_right _ (List.mem_append_left _ hp))
theorem ps_for {iter : Expr} {body : List Stmt} {wi : TI} {g : TG} {tb : TS} {pos : Pos} (hp : PassesOwn (model X.prog X.w) X.A X.env X.xe) (hc : X.calm = true) (hi : PI X tg iter wi) (hg : PG X tg g) (hb : PSs X body tb)
    (hs : ∀ x, foldedSetIterable iter X.env x = pure x := by intro _; rfl) : PS X (.For tg iter body [] pos) (tFor wi g tb) := by
  intro pins s σ H D I h
  refine wpAny_For (thn (hi pins s σ H _ I h) fun v s1 h1 => thn h1 fun itv s2 h2 => ?_) hs
  obtain ⟨it, fp, tn, J, H2, e, I2, T, st2, f2, W, ⟨m0, w0⟩, turn⟩ := h2
  subst e
  have stat : ∀ {H' : Hp}, (∀ b ∈ fp, H' b = none) → ∀ b ∈ fp, FpOk X pins H' b := fun hn b hb => ⟨hn b hb, (f2 b hb).2⟩
  refine codeAny_forLoop_any (fun n s' => ∃ i σ' H', Inv X pins σ' H' s' ∧ tn i s'.heap ∧ (∀ b ∈ fp, H' b = none) ∧ W i n σ' H') ?_ m0 ⟨0, σ, H2, I2, st2, fun b hb => (f2 b hb).1, w0⟩
  rintro n s3 ⟨i, σ3, H3, I3, st3, fr3, w3⟩
  rcases turn i n σ3 H3 w3 with ⟨stop, qn⟩ | ⟨go, N, hN, step⟩
  · refine wpAny_passesOwn hp (thn (T.done X rfl rfl rfl hc i pins s3 σ3 H3 X.xe I3 (stat fr3) st3 stop) fun r s4 ⟨hr, I4⟩ => ?_)
    subst hr
    exact wpAny_execs_nil ⟨σ3, H3, I4, qn⟩
  · refine wpAny_passesOwn hp (thn (T.item X rfl rfl rfl hc i pins s3 σ3 H3 X.xe I3 (stat fr3) st3 go) fun r s4 ⟨u, hr, h4⟩ => ?_)
    subst hr
    refine wpAny_passesOwn hp (thn h4 fun _ s5 ⟨x, H5, I5, r5, y5, st5, fr5⟩ => ?_)
    have I5' := I5.pinned (stat fr5) (T.obj _ _ st5)
    refine wpAny_passesOwn hp (thn (hg _ s5 σ3 H5 x u _ I5' r5 (step x H5 y5)) fun _ s6 ⟨σ6, H6, I6, q6⟩ => ?_)
    refine wpAny_passesOwn hp (thn (hb _ s6 σ6 H6 _ I6 q6) fun f s7 q7 => ?_)
    have again : ∀ {σ7 : St} {H7 : Hp}, Inv X (pins ++ pinsAt fp s5.heap) σ7 H7 s7 → N σ7 H7 → ∃ m, m < n ∧ ∃ i σ' H', Inv X pins σ' H' s7 ∧ tn i s7.heap ∧ (∀ b ∈ fp, H' b = none) ∧ W i m σ' H' := fun {σ7 H7} I7 n7 => by
      obtain ⟨m', hm, w7⟩ := hN σ7 H7 n7
      refine ⟨m', hm, i + 1, σ7, H7, I7.unpinned, T.keep _ _ _ st5 fun b hb o e => (I7.pin (b, o) (List.mem_append_right _ (List.mem_append_right _ (mem_pinsAt hb e)))).1, fun b hb => ?_, w7⟩
      obtain ⟨o, e, d⟩ := T.obj _ _ st5 b hb
      exact (I7.pin (b, o) (List.mem_append_right _ (List.mem_append_right _ (mem_pinsAt hb e)))).2.1
    cases f with
    | next => obtain ⟨σ7, H7, I7, n7⟩ := q7; exact again I7 n7
    | cont => obtain ⟨σ7, H7, I7, n7⟩ := q7; exact again I7 n7
    | brk => obtain ⟨σ7, H7, I7, q7⟩ := q7; exact ⟨σ7, H7, I7.unpinned, q7⟩
    | ret v => obtain ⟨x7, σ7, H7, I7, r7, q7⟩ := q7; exact ⟨x7, σ7, H7, I7.unpinned, r7, q7⟩
end
theorem for_list {K : PySem.W.Frag} {a : Addr} {xs : List V} {g : TG} {tb : TS} {D : Ends} {σ : St} {H : Hp} (Pv : Nat → St → Hp → Prop) (h0 : Pv 0 σ H) (hl : ∀ i σ H, i ≤ xs.length → Pv i σ H → SqL K H a xs)
    (hs : ∀ i x σ H, xs[i]? = some x → Pv i σ H → g x σ H fun σ2 H2 => tb { D with nx := Pv (i + 1), ct := Pv (i + 1), bk := D.nx } σ2 H2) (hd : ∀ σ H, Pv xs.length σ H → D.nx σ H) :
    ∃ W : Nat → Nat → St → Hp → Prop, (∃ m, W 0 m σ H) ∧ ∀ i m σ H, W i m σ H →
      ((Itl K a).stop i H ∧ D.nx σ H) ∨ ((Itl K a).go i H ∧ ∃ N : St → Hp → Prop, (∀ σ' H', N σ' H' → ∃ m', m' < m ∧ W (i + 1) m' σ' H') ∧ ∀ x H', (Itl K a).yld i H x H' → g x σ H' fun σ2 H2 => tb { D with nx := N, ct := N, bk := D.nx } σ2 H2) := by
  refine ⟨fun i m σ H => m = xs.length - i ∧ i ≤ xs.length ∧ Pv i σ H, ⟨xs.length, by simp, Nat.zero_le _, h0⟩, ?_⟩
  rintro i m σ H ⟨rfl, hi, p⟩
  have q := hl i σ H hi p
  by_cases hlt : i < xs.length
  · refine .inr ⟨⟨xs, xs[i], q, by simp [hlt]⟩, Pv (i + 1), fun σ' H' p' => ⟨xs.length - (i + 1), by omega, rfl, hlt, p'⟩, fun x H' y => ?_⟩
    obtain ⟨e, y⟩ := y
    subst e
    exact hs i x σ _ (y xs q) p
  · have e : i = xs.length := by omega
    subst e
    exact .inl ⟨⟨xs, q, Nat.le_refl _⟩, hd σ H p⟩
theorem for_tup {K : PySem.W.Frag} {a : Addr} {xs : List V} {g : TG} {tb : TS} {D : Ends} {σ : St} {H : Hp} (Pv : Nat → St → Hp → Prop) (h0 : Pv 0 σ H) (hl : ∀ i σ H, i ≤ xs.length → Pv i σ H → SqT K H a xs)
    (hs : ∀ i x σ H, xs[i]? = some x → Pv i σ H → g x σ H fun σ2 H2 => tb { D with nx := Pv (i + 1), ct := Pv (i + 1), bk := D.nx } σ2 H2) (hd : ∀ σ H, Pv xs.length σ H → D.nx σ H) :
    ∃ W : Nat → Nat → St → Hp → Prop, (∃ m, W 0 m σ H) ∧ ∀ i m σ H, W i m σ H →
      ((Itt K a).stop i H ∧ D.nx σ H) ∨ ((Itt K a).go i H ∧ ∃ N : St → Hp → Prop, (∀ σ' H', N σ' H' → ∃ m', m' < m ∧ W (i + 1) m' σ' H') ∧ ∀ x H', (Itt K a).yld i H x H' → g x σ H' fun σ2 H2 => tb { D with nx := N, ct := N, bk := D.nx } σ2 H2) := by
  refine ⟨fun i m σ H => m = xs.length - i ∧ i ≤ xs.length ∧ Pv i σ H, ⟨xs.length, by simp, Nat.zero_le _, h0⟩, ?_⟩
  rintro i m σ H ⟨rfl, hi, p⟩
  have q := hl i σ H hi p
  by_cases hlt : i < xs.length
  · refine .inr ⟨⟨xs, xs[i], q, by simp [hlt]⟩, Pv (i + 1), fun σ' H' p' => ⟨xs.length - (i + 1), by omega, rfl, hlt, p'⟩, fun x H' y => ?_⟩
    obtain ⟨e, y⟩ := y
    subst e
    exact hs i x σ _ (y xs q) p
  · have e : i = xs.length := by omega
    subst e
    exact .inl ⟨⟨xs, q, Nat.le_refl _⟩, hd σ H p⟩
theorem for_range {lo : Int} {n : Nat} {g : TG} {tb : TS} {D : Ends} {σ : St} {H : Hp} (Pv : Nat → St → Hp → Prop) (h0 : Pv 0 σ H)
    (hs : ∀ i σ H, i < n → Pv i σ H → g (.int (lo + i)) σ H fun σ2 H2 => tb { D with nx := Pv (i + 1), ct := Pv (i + 1), bk := D.nx } σ2 H2) (hd : ∀ σ H, Pv n σ H → D.nx σ H) :
    ∃ W : Nat → Nat → St → Hp → Prop, (∃ m, W 0 m σ H) ∧ ∀ i m σ H, W i m σ H →
      ((Itr lo n).stop i H ∧ D.nx σ H) ∨ ((Itr lo n).go i H ∧ ∃ N : St → Hp → Prop, (∀ σ' H', N σ' H' → ∃ m', m' < m ∧ W (i + 1) m' σ' H') ∧ ∀ x H', (Itr lo n).yld i H x H' → g x σ H' fun σ2 H2 => tb { D with nx := N, ct := N, bk := D.nx } σ2 H2) := by
  refine ⟨fun i m σ H => m = n - i ∧ i ≤ n ∧ Pv i σ H, ⟨n, by simp, Nat.zero_le _, h0⟩, ?_⟩
  rintro i m σ H ⟨rfl, hi, p⟩
  by_cases hlt : i < n
  · refine .inr ⟨hlt, Pv (i + 1), fun σ' H' p' => ⟨n - (i + 1), by omega, rfl, hlt, p'⟩, fun x H' y => ?_⟩
    obtain ⟨e, y⟩ := y
    subst e y
    exact hs i σ _ hlt p
  · have e : i = n := by omega
    subst e
    exact .inl ⟨Nat.le_refl _, hd σ H p⟩
end L2
namespace L2
open PySem PySem.Spec PyProof.Rows
abbrev R2 := V → V → Hp → VK → Prop
def OpR (X : Cx) (f : Value → Value → Sem Value) (r : R2) : Prop :=
  ∀ (pins : List (Addr × Obj)) (s : Shared) (σ : St) (H : Hp) (x y : V) (v u : Value) (Q : VK), Inv X pins σ H s → RelV x v → RelV y u → r x y H Q →
    wpAny (model X.prog X.w) X.A (f v u) (EP X pins σ Q) X.xe s
def UnR (X : Cx) (f : Value → Sem Value) (r : V → Hp → VK → Prop) : Prop :=
  ∀ (pins : List (Addr × Obj)) (s : Shared) (σ : St) (H : Hp) (x : V) (v : Value) (Q : VK), Inv X pins σ H s → RelV x v → r x H Q →
    wpAny (model X.prog X.w) X.A (f v) (EP X pins σ Q) X.xe s
def CallR (X : Cx) (f : Value) (r : List V → Hp → VK → Prop) : Prop :=
  ∀ (pins : List (Addr × Obj)) (s : Shared) (σ : St) (H : Hp) (xs : List V) (us : List Value) (Q : VK), Inv X pins σ H s → Vals xs us → r xs H Q →
    wpAny (model X.prog X.w) X.A (call f us) (EP X pins σ Q) X.xe s
def TruR (X : Cx) (r : V → Hp → (Bool → Hp → Prop) → Prop) : Prop :=
  ∀ (pins : List (Addr × Obj)) (s : Shared) (σ : St) (H : Hp) (x : V) (v : Value) (Q : Bool → Hp → Prop), Inv X pins σ H s → RelV x v → r x H Q →
    wpAny (model X.prog X.w) X.A (truthy v) (TP X pins σ Q) X.xe s
def tOp (r : R2) (ta tb : TE) : TE := fun σ H Q => ta σ H fun x H1 => tb σ H1 fun y H2 => r x y H2 Q
def tUn (r : V → Hp → VK → Prop) (ta : TE) : TE := fun σ H Q => ta σ H fun x H1 => r x H1 Q
def rI (C : Int → Int → Prop) (g : Int → Int → V) : R2 := fun x y H Q => ∃ i j, x = .int i ∧ y = .int j ∧ C i j ∧ Q (g i j) H
def rI0 (g : Int → Int → V) : R2 := fun x y H Q => ∃ i j, x = .int i ∧ y = .int j ∧ Q (g i j) H
def rU (g : Int → V) : V → Hp → VK → Prop := fun x H Q => ∃ i, x = .int i ∧ Q (g i) H
section
variable {X : Cx} {a b c : Expr} {ta tb tc : TE} {pos : Pos}
theorem binT (ha : PE X a ta) (hb : PE X b tb) {pins : List (Addr × Obj)} {s : Shared} {σ : St} {H : Hp} {R : V → V → Hp → Prop} (I : Inv X pins σ H s)
    (h : ta σ H fun x H1 => tb σ H1 fun y H2 => R x y H2) {Q : Value → Shared → Prop} {f : Value → Value → Sem Value}
    (hf : ∀ v u s2 x y H2, Inv X pins σ H2 s2 → RelV x v → RelV y u → R x y H2 → wpAny (model X.prog X.w) X.A (f v u) Q X.xe s2) :
    wpAny (model X.prog X.w) X.A (eval a X.env) (fun v s₁ => wpAny (model X.prog X.w) X.A (eval b X.env) (fun u s₂ => wpAny (model X.prog X.w) X.A (f v u) Q X.xe s₂) X.xe s₁) X.xe s := by
  refine thn (ha pins s σ H _ I h) fun v s1 ⟨x, H1, I1, r1, q1⟩ => ?_
  refine thn (hb pins s1 σ H1 _ I1 q1) fun u s2 ⟨y, H2, I2, r2, q2⟩ => ?_
  exact hf v u s2 x y H2 I2 r1 r2 q2
theorem pe_op {op : Operator} {r : R2} (ho : OpR X (binaryOp op) r) (ha : PE X a ta) (hb : PE X b tb) : PE X (.BinOp a op b pos) (tOp r ta tb) := by
  intro pins s σ H Q I h
  exact wpAny_BinOp (binT ha hb I h fun v u s2 x y H2 I2 rx ry q => ho pins s2 σ H2 x y v u Q I2 rx ry q)
theorem pe_un {op : UnaryOp} {r : V → Hp → VK → Prop} (ho : UnR X (unaryOp op) r) (ha : PE X a ta) : PE X (.UnaryOp op a pos) (tUn r ta) := by
  intro pins s σ H Q I h
  exact UnaryOp_ (thn (ha pins s σ H _ I h) fun v s1 ⟨x, H1, I1, r1, q1⟩ => ho pins s1 σ H1 x v Q I1 r1 q1)
theorem opI {f : Value → Value → Sem Value} {C : Int → Int → Prop} {g : Int → Int → Int}
    (rule : ∀ (i j : Int) (t u : Tok) (s : Shared) (Q : Value → Shared → Prop) (E : Value → Shared → Prop), C i j → Q (.int (g i j) s.toks) { s with toks := s.toks + 1 } → wpAny (model X.prog X.w) X.A (f (.int i t) (.int j u)) Q E s) :
    OpR X f (rI C fun i j => .int (g i j)) := by
  intro pins s σ H x y v u Q I rx ry h
  obtain ⟨i, j, rfl, rfl, hc, q⟩ := h
  obtain ⟨t, rfl⟩ := rx
  obtain ⟨t', rfl⟩ := ry
  exact rule i j t t' s _ _ hc ⟨.int (g i j), H, I.tok _, ⟨_, rfl⟩, q⟩
theorem opI0 {f : Value → Value → Sem Value} {g : Int → Int → Int}
    (rule : ∀ (i j : Int) (t u : Tok) (s : Shared) (Q : Value → Shared → Prop) (E : Value → Shared → Prop), Q (.int (g i j) s.toks) { s with toks := s.toks + 1 } → wpAny (model X.prog X.w) X.A (f (.int i t) (.int j u)) Q E s) :
    OpR X f (rI0 fun i j => .int (g i j)) := by
  intro pins s σ H x y v u Q I rx ry h
  obtain ⟨i, j, rfl, rfl, q⟩ := h
  obtain ⟨t, rfl⟩ := rx
  obtain ⟨t', rfl⟩ := ry
  exact rule i j t t' s _ _ ⟨.int (g i j), H, I.tok _, ⟨_, rfl⟩, q⟩
theorem opB0 {f : Value → Value → Sem Value} {g : Int → Int → Bool}
    (rule : ∀ (i j : Int) (t u : Tok) (s : Shared) (Q : Value → Shared → Prop) (E : Value → Shared → Prop), Q (.bool (g i j)) s → wpAny (model X.prog X.w) X.A (f (.int i t) (.int j u)) Q E s) :
    OpR X f (rI0 fun i j => .bl (g i j)) := by
  intro pins s σ H x y v u Q I rx ry h
  obtain ⟨i, j, rfl, rfl, q⟩ := h
  obtain ⟨t, rfl⟩ := rx
  obtain ⟨t', rfl⟩ := ry
  exact rule i j t t' s _ _ ⟨.bl (g i j), H, I, rfl, q⟩
def CDiv (i j : Int) : Prop := 0 < j ∧ j < 1073741824
def CPow (i j : Int) : Prop := 0 ≤ j ∧ j ≤ 1000000 ∧ i.natAbs < 2 ^ 64
def CMul (i j : Int) : Prop := (-(2 ^ 64) < i ∧ i < 2 ^ 64) ∨ (-(2 ^ 64) < j ∧ j < 2 ^ 64)
theorem CMul.ok {i j : Int} (h : CMul i j) : IntMulOk i j := by
  rcases h with ⟨h1, h2⟩ | ⟨h1, h2⟩
  · exact .of_left (intBits_le_64 h1 h2)
  · exact .of_right (intBits_le_64 h1 h2)
theorem op_add : OpR X (binaryOp .Add) (rI0 fun i j => .int (i + j)) := opI0 fun _ _ _ _ _ _ _ q => add_int q
theorem op_sub : OpR X (binaryOp .Sub) (rI0 fun i j => .int (i - j)) := opI0 fun _ _ _ _ _ _ _ q => sub_int q
theorem op_mul : OpR X (binaryOp .Mult) (rI CMul fun i j => .int (i * j)) := opI fun _ _ _ _ _ _ _ hc q => mul_int q hc.ok
theorem op_fdiv : OpR X (binaryOp .FloorDiv) (rI CDiv fun i j => .int (i / j)) := opI fun i j _ _ _ _ _ hc q => by
  have h1 : (0 : Int) < j := hc.1
  have h2 : j < 1073741824 := hc.2
  exact floordiv_int (by omega) (by rw [Int.fdiv_eq_ediv_of_nonneg i (by omega)]; exact q) (.inl (PyProof.noPylong_small (by omega)))
theorem op_mod : OpR X (binaryOp .Mod) (rI (fun _ j => 0 < j) fun i j => .int (i % j)) := opI fun i j _ _ _ _ _ hc q => by
  have h1 : (0 : Int) < j := hc
  exact mod_int' (by omega) (by rw [Int.fmod_eq_emod_of_nonneg i (by omega)]; exact q)
theorem op_pow : OpR X (binaryOp .Pow) (rI CPow fun i j => .int (i ^ j.toNat)) := opI fun _ _ _ _ _ _ _ hc q => pow_int_small hc.1 hc.2.1 hc.2.2 q
theorem unI {f : Value → Sem Value} {g : Int → Int}
    (rule : ∀ (i : Int) (t : Tok) (s : Shared) (Q : Value → Shared → Prop) (E : Value → Shared → Prop), Q (.int (g i) s.toks) { s with toks := s.toks + 1 } → wpAny (model X.prog X.w) X.A (f (.int i t)) Q E s) :
    UnR X f (rU fun i => .int (g i)) := by
  intro pins s σ H x v Q I rx h
  obtain ⟨i, rfl, q⟩ := h
  obtain ⟨t, rfl⟩ := rx
  exact rule i t s _ _ ⟨.int (g i), H, I.tok _, ⟨_, rfl⟩, q⟩
theorem un_neg : UnR X (unaryOp .USub) (rU fun i => .int (-i)) := unI fun _ _ _ _ _ q => neg_int q
end
def scal : V → V → Bool
  | .non, .non => true | .non, .int _ => true | .int _, .non => true | .non, .bl _ => true | .bl _, .non => true | .non, .str _ => true | .str _, .non => true
  | .int _, .int _ => true | .bl _, .bl _ => true | .str _, .str _ => true | .byt _, .byt _ => true
  | .int _, .str _ => true | .str _, .int _ => true | .bl _, .str _ => true | .str _, .bl _ => true
  | _, _ => false
def rEq : R2 := fun x y H Q => scal x y = true ∧ Q (.bl (decide (x = y))) H
def rNe : R2 := fun x y H Q => scal x y = true ∧ Q (.bl (!decide (x = y))) H
theorem dec_int {i j : Int} : decide (V.int i = V.int j) = (i == j) := by
  rw [Bool.eq_iff_iff]
  simp
theorem dec_bl {i j : Bool} : decide (V.bl i = V.bl j) = (i == j) := by
  rw [Bool.eq_iff_iff]
  simp
theorem dec_str {i j : Str} : decide (V.str i = V.str j) = (i == j) := by
  rw [Bool.eq_iff_iff]
  simp
theorem dec_byt {i j : Array UInt8} : decide (V.byt i = V.byt j) = (i.toList == j.toList) := by
  rw [Bool.eq_iff_iff]
  cases i
  cases j
  simp
section
variable {X : Cx} {a b c : Expr} {ta tb tc : TE} {pos : Pos}
theorem fin_bl {pins : List (Addr × Obj)} {σ : St} {H : Hp} {s : Shared} {Q : VK} {k k' : Bool} (I : Inv X pins σ H s) (q : Q (.bl k) H) (e : k = k') : EP X pins σ Q (.bool k') s := by
  subst e
  exact ⟨.bl k, H, I, rfl, q⟩
theorem op_eq : OpR X (compareOp .Eq) rEq := by
  intro pins s σ H x y v u Q I rx ry h
  obtain ⟨hs, q⟩ := h
  cases x with
  | non =>
    cases rx
    cases y with
    | non => cases ry; exact PySem.EqNone.eq_none_none (fin_bl I q (by simp))
    | bl j => cases ry; exact PySem.EqNone.eq_none_bool (fin_bl I q (by simp))
    | int j => obtain ⟨t', rfl⟩ := ry; exact PySem.EqNone.eq_none_int (fin_bl I q (by simp))
    | str j => obtain ⟨t', rfl⟩ := ry; exact PySem.EqNone.eq_none_str (fin_bl I q (by simp))
    | _ => exact absurd (show false = true from hs) Bool.false_ne_true
  | bl i =>
    cases rx
    cases y with
    | non => cases ry; exact PySem.EqNone.eq_bool_none (fin_bl I q (by simp))
    | bl j => cases ry; exact eq_bool (fin_bl I q dec_bl)
    | str j => obtain ⟨t', rfl⟩ := ry; exact PySem.EqMixed.eq_bool_str (fin_bl I q (by simp))
    | _ => exact absurd (show false = true from hs) Bool.false_ne_true
  | int i =>
    obtain ⟨t, rfl⟩ := rx
    cases y with
    | non => cases ry; exact PySem.EqNone.eq_int_none (fin_bl I q (by simp))
    | int j => obtain ⟨t', rfl⟩ := ry; exact eq_int (fin_bl I q dec_int)
    | str j => obtain ⟨t', rfl⟩ := ry; exact PySem.EqMixed.eq_int_str (fin_bl I q (by simp))
    | _ => exact absurd (show false = true from hs) Bool.false_ne_true
  | str i =>
    obtain ⟨t, rfl⟩ := rx
    cases y with
    | non => cases ry; exact PySem.EqNone.eq_str_none (fin_bl I q (by simp))
    | bl j => cases ry; exact PySem.EqMixed.eq_str_bool (fin_bl I q (by simp))
    | int j => obtain ⟨t', rfl⟩ := ry; exact PySem.EqMixed.eq_str_int (fin_bl I q (by simp))
    | str j => obtain ⟨t', rfl⟩ := ry; exact eq_str (fin_bl I q dec_str)
    | _ => exact absurd (show false = true from hs) Bool.false_ne_true
  | byt i =>
    obtain ⟨t, rfl⟩ := rx
    cases y with
    | byt j => obtain ⟨t', rfl⟩ := ry; exact PySem.W.eq_bytes (fin_bl I q dec_byt)
    | _ => exact absurd (show false = true from hs) Bool.false_ne_true
  | _ => cases y <;> exact absurd (show false = true from hs) Bool.false_ne_true
theorem op_ne : OpR X (compareOp .NotEq) rNe := by
  intro pins s σ H x y v u Q I rx ry h
  obtain ⟨hs, q⟩ := h
  cases x with
  | non =>
    cases rx
    cases y with
    | non => cases ry; exact PySem.EqNone.ne_none_none (fin_bl I q (by simp))
    | bl j => cases ry; exact PySem.EqNone.ne_none_bool (fin_bl I q (by simp))
    | int j => obtain ⟨t', rfl⟩ := ry; exact PySem.EqNone.ne_none_int (fin_bl I q (by simp))
    | str j => obtain ⟨t', rfl⟩ := ry; exact PySem.EqNone.ne_none_str (fin_bl I q (by simp))
    | _ => exact absurd (show false = true from hs) Bool.false_ne_true
  | bl i =>
    cases rx
    cases y with
    | non => cases ry; exact PySem.EqNone.ne_bool_none (fin_bl I q (by simp))
    | bl j => cases ry; exact ne_bool (fin_bl I q (congrArg not dec_bl))
    | str j => obtain ⟨t', rfl⟩ := ry; exact PySem.EqMixed.ne_bool_str (fin_bl I q (by simp))
    | _ => exact absurd (show false = true from hs) Bool.false_ne_true
  | int i =>
    obtain ⟨t, rfl⟩ := rx
    cases y with
    | non => cases ry; exact PySem.EqNone.ne_int_none (fin_bl I q (by simp))
    | int j => obtain ⟨t', rfl⟩ := ry; exact ne_int (fin_bl I q (congrArg not dec_int))
    | str j => obtain ⟨t', rfl⟩ := ry; exact PySem.EqMixed.ne_int_str (fin_bl I q (by simp))
    | _ => exact absurd (show false = true from hs) Bool.false_ne_true
  | str i =>
    obtain ⟨t, rfl⟩ := rx
    cases y with
    | non => cases ry; exact PySem.EqNone.ne_str_none (fin_bl I q (by simp))
    | bl j => cases ry; exact PySem.EqMixed.ne_str_bool (fin_bl I q (by simp))
    | int j => obtain ⟨t', rfl⟩ := ry; exact PySem.EqMixed.ne_str_int (fin_bl I q (by simp))
    | str j => obtain ⟨t', rfl⟩ := ry; exact ne_str (fin_bl I q (congrArg not dec_str))
    | _ => exact absurd (show false = true from hs) Bool.false_ne_true
  | byt i =>
    obtain ⟨t, rfl⟩ := rx
    cases y with
    | byt j => obtain ⟨t', rfl⟩ := ry; exact PySem.W.ne_bytes (fin_bl I q (congrArg not dec_byt))
    | _ => exact absurd (show false = true from hs) Bool.false_ne_true
  | _ => cases y <;> exact absurd (show false = true from hs) Bool.false_ne_true
theorem op_lt : OpR X (compareOp .Lt) (rI0 fun i j => .bl (decide (i < j))) := opB0 fun _ _ _ _ _ _ _ q => lt_int q
theorem op_le : OpR X (compareOp .LtE) (rI0 fun i j => .bl (decide (i ≤ j))) := opB0 fun _ _ _ _ _ _ _ q => le_int q
theorem op_gt : OpR X (compareOp .Gt) (rI0 fun i j => .bl (decide (j < i))) := opB0 fun _ _ _ _ _ _ _ q => gt_int q
theorem op_in_str : OpR X (compareOp .In) (fun x y H Q => ∃ i j, x = .str i ∧ y = .str j ∧ Q (.bl (!(Builtin.Str.occurrences j i 0 j.length 1).isEmpty)) H) := by
  intro pins s σ H x y v u Q I rx ry h
  obtain ⟨i, j, rfl, rfl, q⟩ := h
  obtain ⟨t, rfl⟩ := rx
  obtain ⟨t', rfl⟩ := ry
  exact in_str (fin_bl I q rfl)
def isObj : HO → Bool
  | .lst _ => true
  | .ins _ _ _ => true
  | _ => false
theorem nomark (b : Expr) {op : CmpOp} (h : op ≠ .In := by decide) (h2 : op ≠ .NotIn := by decide) : behindInMarks op b = false := by
  have e1 : (op == CmpOp.In) = false := by cases op <;> first | rfl | exact absurd rfl h
  have e2 : (op == CmpOp.NotIn) = false := by cases op <;> first | rfl | exact absurd rfl h2
  cases b <;> simp [behindInMarks, e1, e2]
theorem pe_cmpR {op : CmpOp} {r : R2} (ho : OpR X (compareOp op) r) (ha : PE X a ta) (hb : PE X b tb) (hm : behindInMarks op b = false) : PE X (.Compare a [op] [b] pos) (tOp r ta tb) := by
  intro pins s σ H Q I h
  exact wpAny_Compare1 (binT ha hb I h fun v u s2 x y H2 I2 rx ry q => ho pins s2 σ H2 x y v u Q I2 rx ry q) hm
def tTest (t : TE) : TT := fun σ H Q => t σ H fun x H' => ∃ k, x = .bl k ∧ Q k H'
theorem pt_cmpR {op : CmpOp} {r : R2} (ho : OpR X (compareOp op) r) (ha : PE X a ta) (hb : PE X b tb) (hm : behindInMarks op b = false) : PT X (.Compare a [op] [b] pos) (tTest (tOp r ta tb)) := by
  intro pins s σ H Q I h
  refine wpAny_isTrue_Compare1 (thn (ha pins s σ H _ I h) fun v s1 ⟨x, H1, I1, r1, q1⟩ => thn (hb pins s1 σ H1 _ I1 q1) fun u s2 ⟨y, H2, I2, r2, q2⟩ =>
    thn (ho pins s2 σ H2 x y v u _ I2 r1 r2 q2) fun c s3 ⟨z, H3, I3, r3, k, e, q3⟩ => ?_) hm
  subst e
  cases r3
  exact wpAny_truthy_bool ⟨H3, I3, q3⟩
def tChain (r r' : R2) (ta tb tc : TE) : TE := fun σ H Q => ta σ H fun x H1 => tb σ H1 fun y H2 => r x y H2 fun z H3 => ∃ k, z = .bl k ∧
  (if k = true then tc σ H3 fun w' H4 => r' y w' H4 Q else Q (.bl false) H3)
theorem pe_chain {op op' : CmpOp} {r r' : R2} (ho : OpR X (compareOp op) r) (ho' : OpR X (compareOp op') r') (ha : PE X a ta) (hb : PE X b tb) (hc : PE X c tc)
    (hm : lastMarks [op, op'] [b, c] = false := by with_unfolding_all rfl) : PE X (.Compare a [op, op'] [b, c] pos) (tChain r r' ta tb tc) := by
  intro pins s σ H Q I h
  refine Compare_chain (thn (ha pins s σ H _ I h) fun v s1 ⟨x, H1, I1, r1, q1⟩ => chain_link (thn (hb pins s1 σ H1 _ I1 q1) fun u s2 ⟨y, H2, I2, r2, q2⟩ =>
    thn (ho pins s2 σ H2 x y v u _ I2 r1 r2 q2) fun d s3 ⟨z, H3, I3, r3, k, e, q3⟩ => ?_)) hm
  subst e
  cases r3
  refine wpAny_truthy_bool ?_
  cases k with
  | false => exact ite_ff ⟨.bl false, H3, I3, rfl, q3⟩
  | true => exact ite_tt (chain_last (thn (hc pins s3 σ H3 _ I3 q3) fun w' s4 ⟨z', H4, I4, r4, q4⟩ => ho' pins s4 σ H4 y z' u w' Q I4 r2 r4 q4))
theorem pt_chain {op op' : CmpOp} {r r' : R2} (ho : OpR X (compareOp op) r) (ho' : OpR X (compareOp op') r') (ha : PE X a ta) (hb : PE X b tb) (hc : PE X c tc)
    (hm : lastMarks [op, op'] [b, c] = false := by with_unfolding_all rfl) : PT X (.Compare a [op, op'] [b, c] pos) (tTest (tChain r r' ta tb tc)) := by
  intro pins s σ H Q I h
  refine isTrue_chain (thn (ha pins s σ H _ I h) fun v s1 ⟨x, H1, I1, r1, q1⟩ => test_link (thn (hb pins s1 σ H1 _ I1 q1) fun u s2 ⟨y, H2, I2, r2, q2⟩ =>
    thn (ho pins s2 σ H2 x y v u _ I2 r1 r2 q2) fun d s3 ⟨z, H3, I3, r3, k, e, q3⟩ => ?_)) hm
  subst e
  cases r3
  refine wpAny_truthy_bool ?_
  cases k with
  | false =>
    obtain ⟨k', e', q'⟩ := q3
    cases e'
    exact ite_ff ⟨H3, I3, q'⟩
  | true =>
    refine ite_tt (test_last (thn (hc pins s3 σ H3 _ I3 q3) fun w' s4 ⟨z', H4, I4, r4, q4⟩ => thn (ho' pins s4 σ H4 y z' u w' _ I4 r2 r4 q4) fun d' s5 ⟨z2, H5, I5, r5, k2, e2, q5⟩ => ?_))
    subst e2
    cases r5
    exact wpAny_truthy_bool ⟨H5, I5, q5⟩
def TruV (K : PySem.W.Frag) (x : V) (H : Hp) (k : Bool) : Prop :=
  match x with
  | .non => k = false
  | .bl b => k = b
  | .int i => k = (i != 0)
  | .str y => y.length ≤ sizeLine ∧ k = ((y.length : Int) != 0)
  | .byt y => y.size ≤ sizeLine ∧ k = ((y.size : Int) != 0)
  | .ref p => (∃ xs, SqL K H p xs ∧ k = !xs.isEmpty) ∨ (∃ xs, SqT K H p xs ∧ k = !xs.isEmpty) ∨ ∃ kvs, H p = some (.dK kvs) ∧ k = !kvs.isEmpty
  | _ => False
theorem line63 : (sizeLine : Nat) < 2 ^ 63 := by rw [sizeLine_eq]; decide
theorem op_add_str : OpR X (binaryOp .Add) (fun x y H Q => ∃ i j, x = .str i ∧ y = .str j ∧ i.length + j.length ≤ sizeLine ∧ Q (.str (i ++ j)) H) := by
  intro pins s σ H x y v u Q I rx ry h
  obtain ⟨i, j, rfl, rfl, hz, q⟩ := h
  obtain ⟨t, rfl⟩ := rx
  obtain ⟨t', rfl⟩ := ry
  exact add_str (fun t' tk => ⟨.str (i ++ j), H, I.tok _, ⟨_, rfl⟩, q⟩) hz
theorem vals1 {x : V} {us : List Value} (r : Vals [x] us) : ∃ u, us = [u] ∧ RelV x u := by
  cases r with
  | cons r1 r2 => cases r2; exact ⟨_, rfl, r1⟩
theorem call_str_int : CallR X (.type "str") (fun xs H Q => ∃ i, xs = [.int i] ∧ i.natAbs.log2 < 1920 ∧ Q (.str (toString i)) H) := by
  intro pins s σ H xs us Q I r h
  obtain ⟨i, rfl, hz, q⟩ := h
  obtain ⟨u, rfl, t, rfl⟩ := vals1 r
  exact PySem.P.str_of_int hz ⟨.str _, H, I.tok _, ⟨_, rfl⟩, q⟩
def LenV (K : PySem.W.Frag) (x : V) (H : Hp) (n : Nat) : Prop :=
  match x with
  | .str y => y.length ≤ sizeLine ∧ n = y.length
  | .byt y => y.size ≤ sizeLine ∧ n = y.size
  | .ref p => (∃ xs, SqL K H p xs ∧ n = xs.length) ∨ ∃ xs, SqT K H p xs ∧ n = xs.length
  | _ => False
end
end L2
namespace L2
open PySem PySem.Spec PyProof.Rows
structure ObjM (h : Heap) (x dx C : Addr) (mA : Str → Option Value) : Prop where
  obj : h.get? x = some (PySem.W.instObj C dx)
  ns : h.Ns1 dx mA
  ne : dx ≠ x
theorem lookIn_ns {h : Heap} {dx : Addr} {mA : Str → Option Value} (n : h.Ns1 dx mA) : ∃ od, h.get? dx = some od ∧ ∀ name, PySem.W.lookIn name od = some (mA name) := by
  obtain ⟨o, es, ep, ho, hd, hk, _, hm⟩ := n
  refine ⟨o, ho, fun name => ?_⟩
  have e := hm name
  unfold nsFind findBy at e
  rw [← Array.find?_toList] at e
  unfold PySem.W.lookIn
  rw [hd]
  dsimp only
  split
  · rename_i y q
    rw [q] at e
    exact congrArg some e
  · rename_i q
    rw [q] at e
    have a : es.toList.any (·.refKey) = false := by
      rw [List.any_eq_false]
      intro y hy
      obtain ⟨z, t, hkey⟩ := hk y (Array.mem_toList_iff.mp hy)
      simp [DictEntry.refKey, hkey]
    have a' : ¬ es.toList.any (·.refKey) = true := by rw [a]; exact Bool.false_ne_true
    rw [if_neg a']
    exact congrArg some e
theorem ObjM.look {h : Heap} {x dx C : Addr} {mA : Str → Option Value} (I : ObjM h x dx C mA) : ∃ od, PySem.W.InstAt h x (PySem.W.instObj C dx) C (some od) ∧ ∀ name, PySem.W.lookIn name od = some (mA name) :=
  let ⟨od, ho, hl⟩ := lookIn_ns I.ns
  ⟨od, ⟨I.obj, rfl, rfl, ho⟩, hl⟩
section
variable {prog : Program} {w : World} {A : Around} {E : Value → Shared → Prop} {s : Shared} {K : PySem.W.Frag} {x dx C f : Addr} {mA : Str → Option Value} {name : Str} {v : Value}
end
def putF (f : Str) (v : V) : List (Str × V) → List (Str × V)
  | [] => [(f, v)]
  | (g, x) :: r => if g = f then (g, v) :: r else (g, x) :: putF f v r
section
variable {P : Program} {w : World} {H H' : Hp} {h h' : Heap} {a C dx : Addr} {fs fs' : List (Str × V)}
theorem ins_get (hok : HOk P w H h) (e : H a = some (.ins C dx fs)) : ∃ mA, ObjM h a dx C mA ∧ (∀ f, RelO (fs.lookup f) (mA f)) ∧ PySem.Within mA (fs.map (·.1)) ∧ fs.length ≤ 1000 ∧ H dx = some (.own a) := by
  obtain ⟨d, z, ne, ob, mA, n, r, q⟩ := (show ObjOk P w H h a (.ins C dx fs) from hok a _ e)
  exact ⟨mA, ⟨ob, n, ne⟩, r, q, z, d⟩
end
structure Cls (K : PySem.W.Frag) (C : Addr) : Prop where
  pg : PySem.W.plainGet K C Str.empty = true
  hd : PySem.W.hasDictIn K C = true
  po : PySem.W.plainOver K C = true
  sa : PySem.W.findIn K (.ref C) "__setattr__" = some (some (.builtin "object.__setattr__"))
theorem Cls.get {K : PySem.W.Frag} {C : Addr} (c : Cls K C) (f : Str) : PySem.W.plainGet K C f = true := c.pg
def NoAttr (K : PySem.W.Frag) (C : Addr) (f : Str) : Prop := PySem.W.findIn K (.ref C) f = some none
structure Con (K : PySem.W.Frag) (C : Addr) (f : Str) (v : V) (u : Value) : Prop where
  at_ : PySem.W.findIn K (.ref C) f = some (some u)
  rel : RelV v u
  get : PySem.W.specialIn K u "__get__" = some none
  cp : PySem.W.copiedNames.contains f = false
structure Meth (K : PySem.W.Frag) (C : Addr) (m : Str) (f : Addr) : Prop where
  at_ : PySem.W.findIn K (.ref C) m = some (some (.ref f))
  fn : PySem.W.isFn K (.ref f) = true
  kp : PySem.W.keepIn K (.ref f) = true
section
variable {X : Cx} {pins : List (Addr × Obj)} {σ : St} {H : Hp} {s : Shared} {a C dx : Addr} {fs : List (Str × V)} {f : Str} {v : V} {A : Around} {E : Value → Shared → Prop}
end
def tFld (K : PySem.W.Frag) (ta : TE) (f : Str) : TE := fun σ H Q => ta σ H fun x H1 => ∃ a C dx fs v, x = .ref a ∧ H1 a = some (.ins C dx fs) ∧ Cls K C ∧ NoAttr K C f ∧ fs.lookup f = some v ∧ Q v H1
def tCon (K : PySem.W.Frag) (ta : TE) (f : Str) : TE := fun σ H Q => ta σ H fun x H1 => ∃ a C dx fs v u, x = .ref a ∧ H1 a = some (.ins C dx fs) ∧ Cls K C ∧ Con K C f v u ∧ fs.lookup f = none ∧ Q v H1
def sFld (K : PySem.W.Frag) (ta tv : TE) (f : Str) : TS := fun D σ H => tv σ H fun y H1 => ta σ H1 fun x H2 => ∃ a C dx fs, x = .ref a ∧ H2 a = some (.ins C dx fs) ∧ Cls K C ∧ NoAttr K C f ∧ fs.length < 1000 ∧
  D.nx σ (upd H2 a (.ins C dx (putF f y fs)))
def InOp (X : Cx) (op : Operator) (rd : V → V → Hp → VK → Prop) : Prop :=
  ∀ (pins : List (Addr × Obj)) (s : Shared) (σ : St) (H : Hp) (x y : V) (u v : Value) (Q : VK), Inv X pins σ H s → RelV x u → RelV y v → rd x y H Q → wpAny (model X.prog X.w) X.A (inplaceOp op u v) (EP X pins σ Q) X.xe s
def sFldAug (K : PySem.W.Frag) (ta tv : TE) (rd : V → V → Hp → VK → Prop) (f : Str) : TS := fun D σ H => ta σ H fun x H1 => ∃ a C dx fs v, x = .ref a ∧ H1 a = some (.ins C dx fs) ∧ Cls K C ∧ NoAttr K C f ∧ fs.lookup f = some v ∧
  tv σ H1 fun y H2 => rd v y H2 fun z H3 => ∃ dx' fs', H3 a = some (.ins C dx' fs') ∧ fs'.length < 1000 ∧ D.nx σ (upd H3 a (.ins C dx' (putF f z fs')))
section
variable {X : Cx} {o e value : Expr} {f : Str} {pos pos' tpos : Pos} {ta tv : TE}
end
section
variable {X : Cx} {pins : List (Addr × Obj)} {σ : St} {H : Hp} {s : Shared} {A : Around} {E : Value → Shared → Prop} {Q : Value → Shared → Prop} {c : Value} {b : Bool}
inductive TyOf (K : PySem.W.Frag) (H : Hp) : V → Value → Prop where
  | non : TyOf K H .non (.type "NoneType")
  | bl (x : Bool) : TyOf K H (.bl x) (.type "bool")
  | int (i : Int) : TyOf K H (.int i) (.type "int")
  | str (x : Str) : TyOf K H (.str x) (.type "str")
  | flt (x : UInt64) : TyOf K H (.flt x) (.type "float")
  | lst {a : Addr} {xs : List V} (e : H a = some (.lst xs)) : TyOf K H (.ref a) (.type "list")
  | frz {a : Addr} {o : Obj} {xs : List V} (e : H a = some (.frz o (.lst xs))) : TyOf K H (.ref a) (.type "list")
  | tup {a : Addr} {xs : List V} (e : H a = some (.tup xs)) : TyOf K H (.ref a) (.type "tuple")
  | dK {a : Addr} {kvs : List (Key × V)} (e : H a = some (.dK kvs)) : TyOf K H (.ref a) (.type "dict")
  | dT {a : Addr} {kvs : List (List Key × V)} (e : H a = some (.dT kvs)) : TyOf K H (.ref a) (.type "dict")
  | ins {a C dx : Addr} {fs : List (Str × V)} (e : H a = some (.ins C dx fs)) (cl : Cls K C) (ha : PySem.W.findIn K (.ref C) "__class__" = some (some (.builtin "object.__class__")))
      (hn : PySem.W.specialIn K (.builtin "object.__class__") "__get__" = some (some (.builtin "getset_descriptor.__get__"))) (htk : PySem.W.takesIn K (.builtin "object.__class__") = some true)
      (hm : PySem.W.mroIn K C (.type "object") = some true) : TyOf K H (.ref a) (.ref C)
theorem isinst_ok {x : V} {u t : Value} (I : Inv X pins σ H s) (rx : RelV x u) (ty : TyOf X.K H x t) (e : PySem.W.kitOne X.K t c = some b) (h : ∀ tk, Q (.bool b) { s with toks := tk }) :
    wpAny (model X.prog X.w) A (call (.builtin "isinstance") [u, c]) Q E s := by
  cases ty with
  | non => cases (show u = Value.none from rx); exact PySem.W.kia_one PySem.W.kitx_none I.kIn True.intro e (fun z => nomatch z) h
  | bl y => cases (show u = Value.bool y from rx); exact PySem.W.kia_one PySem.W.kitx_bool I.kIn True.intro e (fun z => nomatch z) h
  | int i => obtain ⟨t, q⟩ := (show ∃ t, u = Value.int i t from rx); cases q; exact PySem.W.kia_one PySem.W.kitx_int I.kIn True.intro e (fun z => nomatch z) h
  | str y => obtain ⟨t, q⟩ := (show ∃ t, u = Value.str y t from rx); cases q; exact PySem.W.kia_one PySem.W.kitx_str I.kIn True.intro e (fun z => nomatch z) h
  | flt y => obtain ⟨t, q⟩ := (show ∃ t, u = Value.float y t from rx); cases q; exact PySem.W.kia_one PySem.W.kitx_float I.kIn True.intro e (fun z => nomatch z) h
  | @lst a xs ea =>
    cases (show u = Value.ref a from rx)
    obtain ⟨_, _, n, _, h1⟩ := (show ObjOk X.prog X.w H s.heap a (.lst xs) from I.hok a _ ea)
    exact PySem.W.kia_one PySem.W.kitx_list I.kIn ⟨_, h1, rfl⟩ e (fun z => nomatch z) h
  | @frz a ob xs ea =>
    cases (show u = Value.ref a from rx)
    obtain ⟨_, _, _, n, _, h1⟩ := (show ObjOk X.prog X.w H s.heap a (.frz ob (.lst xs)) from I.hok a _ ea)
    exact PySem.W.kia_one PySem.W.kitx_list I.kIn ⟨_, h1, rfl⟩ e (fun z => nomatch z) h
  | @tup a xs ea =>
    cases (show u = Value.ref a from rx)
    obtain ⟨_, _, _, p⟩ := (show ObjOk X.prog X.w H s.heap a (.tup xs) from I.hok a _ ea)
    obtain ⟨o, h1, h2, _⟩ := p.is
    exact PySem.W.kia_one PySem.W.kitx_tuple I.kIn ⟨o, h1, h2⟩ e (fun z => nomatch z) h
  | @dK a kvs ea =>
    cases (show u = Value.ref a from rx)
    obtain ⟨_, _, vs, _, p⟩ := (show ObjOk X.prog X.w H s.heap a (.dK kvs) from I.hok a _ ea)
    obtain ⟨o, es, ep, h1, h2, _⟩ := p
    exact PySem.W.kia_one PySem.W.kitx_dict I.kIn ⟨o, h1, h2.1⟩ e (fun z => nomatch z) h
  | @dT a kvs ea =>
    cases (show u = Value.ref a from rx)
    obtain ⟨_, _, xs, _, o, es, ep, h1, h2, _⟩ := (show ObjOk X.prog X.w H s.heap a (.dT kvs) from I.hok a _ ea)
    exact PySem.W.kia_one PySem.W.kitx_dict I.kIn ⟨o, h1, h2.1⟩ e (fun z => nomatch z) h
  | @ins a C dx fs ea cl ha hn htk hm =>
    cases (show u = Value.ref a from rx)
    obtain ⟨mA, O, _⟩ := ins_get I.hok ea
    obtain ⟨od, J, _⟩ := O.look
    exact PySem.W.kia_one (PySem.W.kitx_own (cl.get _) cl.hd ha hn htk hm) I.kIn J e (fun z => nomatch z) h
end
end L2
namespace L2
open PySem PySem.Spec PyProof.Rows
structure Room (k : Nat) (A : Around) : Prop where
  hd : A.handled = none
  dp : A.depth + 3 * k + 5 < recursionLimit
  un : A.units + 16 * k + 200 < cLine
theorem Room.mono {j k : Nat} {A : Around} (r : Room k A) (h : j ≤ k) : Room j A := ⟨r.hd, by have := r.dp; omega, by have := r.un; omega⟩
theorem Room.deeper {k : Nat} {A : Around} (r : Room (k + 1) A) (env : Env) : Room k (A.deeper env) :=
  ⟨r.hd, by have := r.dp; show A.depth + 1 + 3 * k + 5 < _; omega, by have := r.un; show A.units + 3 + 16 * k + 200 < _; omega⟩
theorem Room.depth {k : Nat} {A : Around} (r : Room k A) : A.depth < recursionLimit := by have := r.dp; omega
theorem Room.units {k : Nat} {A : Around} (r : Room k A) : A.units + 64 < cLine := by have := r.un; omega
def tNil : TA := fun _ H Q => Q [] H
def tCons (ta : TE) (tr : TA) : TA := fun σ H Q => ta σ H fun x H1 => tr σ H1 fun xs H2 => Q (x :: xs) H2
section
variable {X : Cx} {e : Expr} {es : List Expr} {te : TE} {t : TA} {pos : Pos}
theorem pa_nil : PA X [] tNil := fun _ _ _ _ H Q I h => Calls.spliced_nil ⟨[], H, I, .nil, h⟩
theorem pa_cons (ha : PE X e te) (hr : PA X es t) (hs : starEach (e :: es) X.env = (false, eval e X.env) :: starEach es X.env := by rfl) : PA X (e :: es) (tCons te t) := by
  intro pos pins s σ H Q I h
  rw [hs]
  show wpAny _ _ (spliced ((false, eval e X.env) :: backTo pos (starEach es X.env))) _ _ s
  refine Calls.spliced_cons (thn (ha pins s σ H _ I h) fun u s1 ⟨x, H1, I1, r1, q1⟩ => ?_)
  exact thn (hr pos pins s1 σ H1 _ I1 q1) fun us s2 ⟨xs, H2, I2, r2, q2⟩ => ⟨x :: xs, H2, I2, .cons r1 r2, q2⟩
def tTup (t : TA) : TE := fun σ H Q => t σ H fun xs H1 => xs.length ≤ sizeLine ∧ ∀ p, H1 p = none → Q (.ref p) (upd H1 p (.tup xs))
def tLst (t : TA) : TE := fun σ H Q => t σ H fun xs H1 => xs.length ≤ sizeLine ∧ ∀ p, H1 p = none → Q (.ref p) (upd H1 p (.lst xs))
theorem pe_tup {x1} (h : PA X es t) : PE X (.Tuple es x1 pos) (tTup t) := by
  intro pins s σ H Q I hq
  refine wpAny_Tuple_spliced (thn (h pos pins s σ H _ I hq) fun us s1 ⟨xs, H1, I1, r, z, q⟩ => ⟨by rw [← r.length]; exact z, ?_⟩)
  have hf : H1 s1.heap.objs.size = none := I1.hok.fresh (Nat.le_refl _)
  refine ⟨.ref s1.heap.objs.size, upd H1 s1.heap.objs.size (.tup xs), I1.laid (t' := s1.toks) (fun b u e => Heap.get?_push_of_some _ e) (Nat.le_refl _) ?_, rfl, q _ hf⟩
  exact ⟨z, us, r, ⟨_, Heap.get?_push_size _ rfl, _, rfl⟩⟩
theorem pe_lst (h : PA X es t) : PE X (.List es pos) (tLst t) := by
  intro pins s σ H Q I hq
  refine wpAny_List_spliced (thn (h pos pins s σ H _ I hq) fun us s1 ⟨xs, H1, I1, r, z, q⟩ => ⟨by rw [← r.length]; exact z, ?_⟩)
  have hf : H1 s1.heap.objs.size = none := I1.hok.fresh (Nat.le_refl _)
  refine ⟨.ref s1.heap.objs.size, upd H1 s1.heap.objs.size (.lst xs), I1.laid (t' := s1.toks) (fun b u e => Heap.get?_push_of_some _ e) (Nat.le_refl _) ?_, rfl, q _ hf⟩
  exact ⟨z, us, 0, r, Heap.get?_push_size _ rfl⟩
end
abbrev Sp := List V → Hp → VK → XK → Prop
abbrev CXT := List Env → Hp → Shared → XK → Value → Shared → Prop
structure Env0 (P : Program) (w : World) (K : PySem.W.Frag) (mg : Str → Option Value) (base : Heap) (A : Around) (outer : List Env) (s : Shared) (H : Hp) : Prop where
  frames : A.frames = some outer
  mod : Mod K mg base
  bs : ∀ b o, base.get? b = some o → s.heap.get? b = some o ∧ H b = none
  bsz : base.objs.size ≤ s.heap.objs.size
  funs : s.heap.FunFrames base outer
  frf : ∀ b ∈ frs outer, H b = none
  hok : HOk P w H s.heap
  bare : AllBare s.gens
def CE (outer : List Env) (P : Program) (w : World) (H : Hp) (s : Shared) (Q : VK) (u : Value) (s' : Shared) : Prop :=
  ∃ v H', s'.os = s.os ∧ AllBare s'.gens ∧ Un (frs outer) [] H H' s.heap s'.heap ∧ HOk P w H' s'.heap ∧ RelV v u ∧ Q v H'
def CR (CX : CXT) (outer : List Env) (P : Program) (w : World) (H : Hp) (s : Shared) (Q : VK) (E : XK) (r : Result) (s' : Shared) : Prop :=
  match r with
  | .ok (.ret u) => CE outer P w H s Q u s'
  | .ok _ => False
  | .error e => CX outer H s E e s'
structure FnOk (P : Program) (w : World) (K : PySem.W.Frag) (mg : Str → Option Value) (base : Heap) (CX : CXT) (k : Nat) (f : Addr) (fd : FuncData) (ps : List Str) (sp : Sp) : Prop where
  len : ∀ vs H Q E, sp vs H Q E → vs.length = ps.length
  run : ∀ (A : Around) (outer : List Env) (s : Shared) (H : Hp) (args : Args) (us : List Value) (vs : List V) (Q : VK) (E : XK), Room k A → Env0 P w K mg base A outer s H → BindsTo s fd args (ps.zip us) → Vals vs us → sp vs H Q E →
    codeAny (model P w) A (.call (.ref f) args) (CR CX outer P w H s Q E) s
theorem FnOk.mono {P : Program} {w : World} {K : PySem.W.Frag} {mg : Str → Option Value} {base : Heap} {CX : CXT} {j k : Nat} {f : Addr} {fd : FuncData} {ps : List Str} {sp : Sp} (F : FnOk P w K mg base CX j f fd ps sp) (h : j ≤ k) :
    FnOk P w K mg base CX k f fd ps sp := ⟨F.len, fun A outer s H args us vs Q E hr => F.run A outer s H args us vs Q E (hr.mono h)⟩
section
variable {X : Cx} {pins : List (Addr × Obj)} {σ : St} {H : Hp} {s s' : Shared}
theorem Inv.env0 (I : Inv X pins σ H s) : Env0 X.prog X.w X.K X.mg X.base X.A X.stack s H :=
  ⟨I.ok.frames, I.ok.mod, I.bs, Nat.le_trans I.ok.bsz I.sz, I.stack, I.stkFree, I.hok, I.bare⟩
theorem Inv.after {Q : VK} {u : Value} (I : Inv X pins σ H s) (h : CE X.stack X.prog X.w H s Q u s') : EP X pins σ Q u s' := by
  obtain ⟨v, H', os, bare, un, hok, r, q⟩ := h
  obtain ⟨hh, g, d, t, os'⟩ := s'
  obtain rfl : os' = s.os := os
  exact ⟨v, H', I.call (h' := hh) (g' := g) (d' := d) (t' := t) (ch := []) un hok bare (fun b z => absurd z (by simp)), r, q⟩
end
def tCall (sp : Sp) (dvs : List V) (E : XK) (t : TA) : TE := fun σ H Q => t σ H fun vs H1 => sp (vs ++ dvs) H1 Q E
def tMeth (C : Addr) (m : Str) (sp : Sp) (dvs : List V) (E : XK) (ta : TE) (t : TA) : TE := fun σ H Q => ta σ H fun x H1 => ∃ a dx fs, x = .ref a ∧ H1 a = some (.ins C dx fs) ∧ fs.lookup m = none ∧
  t σ H1 fun vs H2 => sp (x :: (vs ++ dvs)) H2 Q E
def tMake (C : Addr) (sp : Sp) (dvs : List V) (E : XK) (t : TA) : TE := fun σ H Q => t σ H fun vs H1 => ∀ x dx, H1 x = none → H1 dx = none → dx ≠ x →
  sp (.ref x :: (vs ++ dvs)) (upd (upd H1 dx (.own x)) x (.ins C dx [])) (fun v H2 => v = .non ∧ Q (.ref x) H2) E
def Binds (K : PySem.W.Frag) (fd : FuncData) (ps : List Str) (ds : List Value) : Prop :=
  ∀ (s : Shared) (us : List Value), K.In s.heap → (us ++ ds).length = ps.length → BindsTo s fd ⟨us, []⟩ (ps.zip (us ++ ds))
theorem Binds.all {K : PySem.W.Frag} {fd : FuncData} {ps : List Str} (h : ∀ us : List Value, us.length = ps.length → bindArgs fd ⟨us, []⟩ = pure (ps.zip us)) : Binds K fd ps [] := fun s us _ hl => by
  rw [List.append_nil] at hl ⊢
  exact .of_eq (h us hl)
def Passes (CX : CXT) (X : Cx) (E : XK) : Prop := ∀ (pins : List (Addr × Obj)) (σ : St) (H : Hp) (s : Shared) (e : Value) (s' : Shared), Inv X pins σ H s → CX X.stack H s E e s' → X.xe e s'
section
variable {X : Cx} {CX : CXT} {k : Nat} {f C : Addr} {fd : FuncData} {ps : List Str} {sp : Sp} {dvs : List V} {ds : List Value} {E : XK} {x m : Str} {p pos apos : Pos} {e o : Expr} {es : List Expr} {ta : TE} {t : TA}
theorem run_fn {pins : List (Addr × Obj)} {σ : St} {H : Hp} {s : Shared} {Q : VK} {us : List Value} {vs : List V} (F : FnOk X.prog X.w X.K X.mg X.base CX k f fd ps sp) (hr : Room k X.A) (hb : Binds X.K fd ps ds) (hd : Vals dvs ds) (hx : Passes CX X E)
    (I : Inv X pins σ H s) (r : Vals vs us) (h : sp (vs ++ dvs) H Q E) : wpAny (model X.prog X.w) X.A (call (.ref f) us) (EP X pins σ Q) X.xe s := by
  have r2 : Vals (vs ++ dvs) (us ++ ds) := r.append hd
  have hl : (us ++ ds).length = ps.length := by rw [← r2.length]; exact F.len _ _ _ _ h
  refine wpAny_call (codeAny_mono (F.run X.A X.stack s H ⟨us, []⟩ (us ++ ds) (vs ++ dvs) Q E hr I.env0 (hb s us I.kIn hl) r2 h) fun r s' hq => ?_)
  cases r with
  | error e => exact hx pins σ H s e s' I hq
  | ok fl =>
    cases fl with
    | ret u => exact I.after hq
    | next => exact False.elim hq
    | brk => exact False.elim hq
    | cont => exact False.elim hq
theorem pe_call (F : FnOk X.prog X.w X.K X.mg X.base CX k f fd ps sp) (hr : Room k X.A) (hg : Gl X x) (hm : X.mg x = some (.ref f)) (hk : PySem.W.keepIn X.K (.ref f) = true) (hb : Binds X.K fd ps ds) (hd : Vals dvs ds) (hx : Passes CX X E)
    (ha : PA X (e :: es) t) (hdb : (x == ("__debug__" : Str)) = false := by decide) (he : starEach (e :: es) X.env = (false, eval e X.env) :: starEach es X.env := by rfl) (hpl : (backTo pos (starEach es X.env)).any (·.1) = false := by rfl) :
    PE X (.Call (.Name x p) (e :: es) [] pos) (tCall sp dvs E t) := by
  intro pins s σ H Q I h
  refine wpAny_Call_Name_kw (ld_glob I hg hm ?_ hdb)
  refine PySem.W.callWith_K (h₀ := X.base) I.ok.mod.kin hk (thn (ha pos pins s σ H _ I h) fun us s1 ⟨vs, H1, I1, r, q⟩ => ⟨I1.kIn, ?_⟩) he hpl
  exact run_fn F hr hb hd hx I1 r q
structure Mk (K : PySem.W.Frag) (C f : Addr) : Prop where
  makes : PySem.W.makesIn K C = true
  init : PySem.W.findIn K (.ref C) "__init__" = some (some (.ref f))
  fn : PySem.W.isFn K (.ref f) = true
  kp : PySem.W.keepIn K (.ref C) = true
end
def PK (X : Cx) (kws : List Keyword) (t : TA) : Prop :=
  ∀ (pos : Pos) (pins : List (Addr × Obj)) (s : Shared) (σ : St) (H : Hp) (Q : List V → Hp → Prop), Inv X pins σ H s → t σ H Q → wpAny (model X.prog X.w) X.A (evalAll ((backToKw pos (keywordEach kws X.env)).map (·.2))) (AP X pins σ Q) X.xe s
section
variable {X : Cx} {CX : CXT} {k : Nat} {f C : Addr} {fd : FuncData} {ps ks : List Str} {sp : Sp} {E : XK} {x m : Str} {p pos apos kpos : Pos} {e o : Expr} {es : List Expr} {kws : List Keyword} {te ta : TE} {t tk : TA} {nm : Option Str}
structure KBinds (K : PySem.W.Frag) (fd : FuncData) (ps ks : List Str) (g : List Value → List Value → List Value) (gV : List V → List V → List V) : Prop where
  to : ∀ (s : Shared) (us ws : List Value), K.In s.heap → (g us ws).length = ps.length → BindsTo s fd ⟨us, ks.zip ws⟩ (ps.zip (g us ws))
  rel : ∀ {vs : List V} {us : List Value} {zs : List V} {ws : List Value}, Vals vs us → Vals zs ws → Vals (gV vs zs) (g us ws)
variable {g : List Value → List Value → List Value} {gV : List V → List V → List V}
end
structure FnScope (N P : List Str) (sc : Scope) : Prop where
  kind : sc.kind = .function
  co : sc.isCoroutine = false
  gen : sc.isGenerator = false
  nd : N.Nodup
  pre : N.take P.length = P
  par : ∀ x ∈ P, sc.names.lookup x = some .local ∨ sc.names.lookup x = some .cell
  nofree : ∀ y ∈ sc.names, y.2 ≠ .free
theorem bindL_out {kindOf : Str → Option NameKind} {x : Str} : ∀ {binds : List (Str × Value)} {m : Str → Option Value}, (∀ v, (x, v) ∉ binds) → bindL kindOf binds m x = m x
  | [], _, _ => rfl
  | (n, v) :: r, m, h => by
    unfold bindL
    rw [bindL_out fun w hw => h w (List.mem_cons_of_mem _ hw)]
    split
    · have : x ≠ n := by rintro rfl; exact h v List.mem_cons_self
      simp [this]
    · rfl
theorem bindC_out {kindOf : Str → Option NameKind} {x : Str} : ∀ {binds : List (Str × Value)} {m : Str → Option Value}, (∀ v, (x, v) ∉ binds) → bindC kindOf binds m x = m x
  | [], _, _ => rfl
  | (n, v) :: r, m, h => by
    unfold bindC
    rw [bindC_out fun w hw => h w (List.mem_cons_of_mem _ hw)]
    split
    · rfl
    · have : x ≠ n := by rintro rfl; exact h v List.mem_cons_self
      simp [this]
theorem bindL_get {kindOf : Str → Option NameKind} {x : Str} {v : Value} : ∀ {P : List Str} {vs : List Value} {i : Nat} {m : Str → Option Value}, P.Nodup → P[i]? = some x → vs[i]? = some v → kindOf x = some .local →
    bindL kindOf (P.zip vs) m x = some v
  | [], _, _, _, _, h, _, _ => by simp at h
  | _ :: _, [], _, _, _, _, h, _ => by simp at h
  | p :: P, w :: vs, 0, m, nd, h1, h2, hk => by
    simp at h1 h2; subst h1; subst h2
    show bindL kindOf ((p, w) :: P.zip vs) m p = _
    unfold bindL
    rw [bindL_out fun v hv => (List.nodup_cons.mp nd).1 (List.of_mem_zip hv).1, if_pos hk]
    simp
  | p :: P, w :: vs, i + 1, m, nd, h1, h2, hk => by
    show bindL kindOf ((p, w) :: P.zip vs) m x = _
    unfold bindL
    exact bindL_get (i := i) (List.nodup_cons.mp nd).2 (by simpa using h1) (by simpa using h2) hk
theorem bindC_get {kindOf : Str → Option NameKind} {x : Str} {v : Value} : ∀ {P : List Str} {vs : List Value} {i : Nat} {m : Str → Option Value}, P.Nodup → P[i]? = some x → vs[i]? = some v → kindOf x ≠ some .local →
    bindC kindOf (P.zip vs) m x = some v
  | [], _, _, _, _, h, _, _ => by simp at h
  | _ :: _, [], _, _, _, _, h, _ => by simp at h
  | p :: P, w :: vs, 0, m, nd, h1, h2, hk => by
    simp at h1 h2; subst h1; subst h2
    show bindC kindOf ((p, w) :: P.zip vs) m p = _
    unfold bindC
    rw [bindC_out fun v hv => (List.nodup_cons.mp nd).1 (List.of_mem_zip hv).1, if_neg hk]
    simp
  | p :: P, w :: vs, i + 1, m, nd, h1, h2, hk => by
    show bindC kindOf ((p, w) :: P.zip vs) m x = _
    unfold bindC
    exact bindC_get (i := i) (List.nodup_cons.mp nd).2 (by simpa using h1) (by simpa using h2) hk
def start (N : List Str) (vs : List V) : St := vs.map some ++ List.replicate (N.length - vs.length) none
def cxOf (CX : CXT) (P : Program) (w : World) (K : PySem.W.Frag) (mg : Str → Option Value) (base : Heap) (N : List Str) (qual : Str) (scope : Scope) (f : Addr) (cd : Value) (A : Around) (outer : List Env) (s : Shared) (H : Hp) (E : XK) : Cx where
  prog := P
  w := w
  K := K
  mg := mg
  base := base
  A := A.deeper (envOfC qual scope s.heap.objs.size f cd)
  N := N
  s₀ := s
  H₀ := H
  env := envOfC qual scope s.heap.objs.size f cd
  outer := outer
  stack := envOfC qual scope s.heap.objs.size f cd :: outer
  ex := []
  calm := true
  fn := fun _ => true
  pn := []
  xe := fun e s' => wpAny (model P w) (A.deeper (envOfC qual scope s.heap.objs.size f cd)) (leaving (envOfC qual scope s.heap.objs.size f cd) e) (fun _ s'' => CX outer H s E e s'') (fun e' s'' => CX outer H s E e' s'') s'
theorem cell_has {sc : Scope} {n : Nat} {x : Str} (h : sc.names.lookup x = some .cell) : ∃ c, (cellsFrom n sc.names []).lookup x = some c := by
  have q := PySem.W.cellsFrom_some sc.names n [] (.inl h)
  exact Option.isSome_iff_exists.mp q
theorem inv_start {CX : CXT} {P : Program} {w : World} {K : PySem.W.Frag} {mg : Str → Option Value} {base : Heap} {N ps : List Str} {qual : Str} {scope : Scope} {f : Addr} {cd : Value} {A : Around} {outer : List Env} {s s1 : Shared} {H : Hp} {E : XK} {us : List Value} {vs : List V}
    (S : FnScope N ps scope) (hd : A.handled = none) (e0 : Env0 P w K mg base A outer s H) (hl : vs.length = ps.length) (r : Vals vs us)
    (x : InCallC s s.heap.objs.size (bindL (envOfC qual scope s.heap.objs.size f cd).kindOf (ps.zip us) fun _ => none) (cellsFrom (s.heap.objs.size + 1) scope.names []) (bindC (envOfC qual scope s.heap.objs.size f cd).kindOf (ps.zip us) fun _ => none) s1) :
    Inv (cxOf CX P w K mg base N qual scope f cd A outer s H E) [] (start N vs) H s1 := by
  have hpl : ps.length ≤ N.length := by have := congrArg List.length S.pre; rw [List.length_take] at this; omega
  obtain ⟨h1, tk, rfl, hk⟩ := x.done
  have noA : ∀ b : Addr, b ∉ (cxOf CX P w K mg base N qual scope f cd A outer s H E).ex := fun b z => absurd (show b ∈ ([] : List Addr) from z) (by simp)
  refine ⟨⟨e0.mod, S.kind, rfl, rfl, Nat.le_refl _, fun y z c h1 h2 => ?_, fun y hy => ?_, fun y c _ h => ?_, fun _ => hd, Around.frames_deeper e0.frames, .inr ⟨rfl, rfl⟩, fun b z => absurd z (noA b), e0.bs, e0.bsz, fun b _ _ => noA b, fun b z => absurd z (noA b), e0.funs, e0.frf⟩,
    rfl, e0.bare, Un.kept hk, ⟨_, x.toInCall.ns, fun i y v h1 h2 h3 => ?_⟩, fun y c h => ⟨_, x.cell y c h⟩, e0.hok.fresh (Nat.le_refl _), fun y c h => ?_, fun p hp => absurd (show p ∈ ([] : List (Addr × Obj)) from hp) (by simp), e0.hok.kept hk, ?_⟩
  · exact name_of_addr x.apart (PySem.mem_of_lookup h1) (PySem.mem_of_lookup h2)
  · have hy : scope.names.lookup y = some .cell ∨ scope.names.lookup y = some .free := hy
    rcases hy with hy | hy
    · exact cell_has hy
    · exact absurd rfl (S.nofree _ (PySem.mem_of_lookup hy))
  · exact Nat.le_of_lt (x.above y c (PySem.mem_of_lookup h))
  · have hi : i < vs.length := by
      unfold start at h2
      by_cases hi : i < vs.length
      · exact hi
      · rw [List.getElem?_append_right (by simpa using hi)] at h2
        rw [List.getElem?_replicate] at h2
        split at h2 <;> cases h2
    have ha : vs[i]? = some v := by
      unfold start at h2
      rw [List.getElem?_append_left (by simpa using hi), List.getElem?_map] at h2
      cases e : vs[i]? with
      | none => rw [e] at h2; cases h2
      | some a => rw [e] at h2; cases h2; rfl
    obtain ⟨u, hu, rv⟩ := r.get ha
    have hp : ps[i]? = some y := by
      rw [← S.pre, List.getElem?_take_of_lt (by omega)]; exact h1
    have ndP : ps.Nodup := by rw [← S.pre]; exact S.nd.sublist (List.take_sublist _ _)
    refine ⟨u, rv, ?_⟩
    rcases S.par y (List.mem_of_getElem? hp) with k | k
    · exact .inl ⟨k, bindL_get ndP hp hu k⟩
    · obtain ⟨c, e⟩ := cell_has (n := s.heap.objs.size + 1) k
      refine .inr ⟨.inl k, c, e, ?_⟩
      have q := x.cell y c e
      rw [bindC_get ndP hp hu (by show scope.names.lookup y ≠ _; rw [k]; decide)] at q
      exact q
  · exact e0.hok.fresh (Nat.le_of_lt (x.above y c (PySem.mem_of_lookup h)))
  · unfold start
    show _ = N.length
    rw [List.length_append, List.length_map, List.length_replicate]
    omega
theorem fn_of {CX : CXT} {P : Program} {w : World} {K : PySem.W.Frag} {mg : Str → Option Value} {base : Heap} {k : Nat} {f : Addr} {name qual : Str} {params : Arguments} {body : List Stmt} {scope : Scope} {dV kV doc pm cdv ct oc : Value} {an od : Option Addr}
    {osl : Array (Option Value)} {N ps : List Str} {sp : Sp} (lk : K.lookup f = some ⟨oc, od, .func (PySem.W.fnOf name qual params body scope dV kV doc pm an cdv ct), osl⟩) (hcd : PySem.W.codeIn K cdv qual = true) (S : FnScope N ps scope)
    (len : ∀ vs H Q E, sp vs H Q E → vs.length = ps.length)
    (hbody : ∀ (A : Around) (outer : List Env) (s : Shared) (H : Hp) (vs : List V) (Q : VK) (E : XK), Room k (A.deeper (envOfC qual scope s.heap.objs.size f cdv)) → sp vs H Q E →
      ∃ t, PSs (cxOf CX P w K mg base N qual scope f cdv A outer s H E) body t ∧ t { nx := fun _ H' => Q .non H', rt := Q } (start N vs) H) :
    FnOk P w K mg base CX (k + 1) f (PySem.W.fnOf name qual params body scope dV kV doc pm an cdv ct) ps sp := by
  refine ⟨len, fun A outer s H args us vs Q E hr e0 hb r hsp => ?_⟩
  have hl := len _ _ _ _ hsp
  have KX : K.In s.heap := e0.mod.kin.keeps fun b o e => (e0.bs b o e).1
  have lim : s.heap.NoLimit := e0.mod.nolimit.keeps fun b o e => (e0.bs b o e).1
  have hkind : ∀ y ∈ ps.zip us, scope.names.lookup y.1 = some .local ∨ (scope.names.lookup y.1 = some .cell ∧ ((cellsFrom (s.heap.objs.size + 1) scope.names []).lookup y.1).isSome = true) := fun ⟨n, v⟩ hy => by
    rcases S.par n (List.of_mem_zip hy).1 with q | q
    · exact .inl q
    · exact .inr ⟨q, PySem.W.cellsFrom_some _ _ _ (.inl q)⟩
  refine codeAny_call_function hr.depth (KX _ _ lk) rfl S.co S.gen rfl (PySem.W.codeRec_of KX hcd) (hb _ _ _ _ ?_)
  refine wpAny_newFunctionEnv_cells S.kind hkind fun env he s1 x => ?_
  subst he
  refine ⟨lim.keeps x.toInCall.keep, codeAny_func ?_⟩
  obtain ⟨t, ht, hq⟩ := hbody A outer s H vs Q E (hr.deeper _) hsp
  have I : Inv (cxOf CX P w K mg base N qual scope f cdv A outer s H E) [] (start N vs) H s1 := inv_start S hr.hd e0 hl r x
  refine wpAny_mono (ht [] s1 (start N vs) H _ I hq) (fun fl s' hs => ?_) fun e s' hs => hs
  have fin : ∀ {σ' : St} {H' : Hp} {v : V} {u : Value}, Inv (cxOf CX P w K mg base N qual scope f cdv A outer s H E) [] σ' H' s' → RelV v u → Q v H' → CE outer P w H s Q u s' :=
    fun {σ' H' v u} J rv q => ⟨v, H', J.os, J.bare, J.base, J.hok, rv, q⟩
  cases fl with
  | ret u =>
    obtain ⟨v, σ', H', J, rv, q⟩ := hs
    exact fin J rv q
  | next =>
    obtain ⟨σ', H', J, q⟩ := hs
    exact fin (v := V.non) (u := Value.none) J rfl q
  | brk =>
    obtain ⟨_, _, _, q⟩ := hs
    exact False.elim q
  | cont =>
    obtain ⟨_, _, _, q⟩ := hs
    exact False.elim q
end L2
namespace L2
open PySem PySem.Spec PyProof.Rows
section
variable {X : Cx} {x : Str} {p pos : Pos} {e : Expr} {es : List Expr} {t : TA} {id T : String} {r : List V → Hp → VK → Prop}
def tCB (r : List V → Hp → VK → Prop) (t : TA) : TE := fun σ H Q => t σ H fun vs H1 => r vs H1 Q
theorem pe_callB (hc : CallR X (.builtin id) r) (hg : Gl X x) (hm : X.mg x = none) (hv : bootBuiltins x = some (.builtin id)) (ha : PA X (e :: es) t) (hn : x ≠ "__name__" := by decide) (hdb : (x == ("__debug__" : Str)) = false := by decide)
    (he : starEach (e :: es) X.env = (false, eval e X.env) :: starEach es X.env := by rfl) (hpl : (backTo pos (starEach es X.env)).any (·.1) = false := by rfl) : PE X (.Call (.Name x p) (e :: es) [] pos) (tCB r t) := by
  intro pins s σ H Q I h
  refine wpAny_Call_Name_kw (ld_blt I hg hm hv ?_ hn hdb)
  exact PyProof.Rows.callWith_builtin1 (thn (ha pos pins s σ H _ I h) fun us s1 ⟨vs, H1, I1, r1, q1⟩ => hc pins s1 σ H1 vs us Q I1 r1 q1) he hpl
theorem pe_callTy (hc : CallR X (.type T) r) (hg : Gl X x) (hm : X.mg x = none) (hv : bootBuiltins x = some (.type T)) (ha : PA X (e :: es) t) (hn : x ≠ "__name__" := by decide) (hdb : (x == ("__debug__" : Str)) = false := by decide)
    (he : starEach (e :: es) X.env = (false, eval e X.env) :: starEach es X.env := by rfl) (hpl : (backTo pos (starEach es X.env)).any (·.1) = false := by rfl) : PE X (.Call (.Name x p) (e :: es) [] pos) (tCB r t) := by
  intro pins s σ H Q I h
  refine wpAny_Call_Name_kw (ld_blt I hg hm hv ?_ hn hdb)
  exact PyProof.Rows.callWith_type1 (thn (ha pos pins s σ H _ I h) fun us s1 ⟨vs, H1, I1, r1, q1⟩ => hc pins s1 σ H1 vs us Q I1 r1 q1) he hpl
end
end L2
namespace HT
open PySem PyProof.Rows
def lexLt : List Int → List Int → Bool
  | [], [] => false
  | [], _ :: _ => true
  | _ :: _, [] => false
  | x :: xs, y :: ys => if x = y then lexLt xs ys else decide (x < y)
section
open PySem.SeqAt
open PySem.AutoSeq1 (wpAny_loadPart')
open PySem.MeetsSeq PySem.MeetsSeq2 PySem.MeetsSeq3
end
section
variable {prog : Program} {w : World} {A : Around} {E : Value → Shared → Prop} {s : Shared}
theorem cat_tup {t b : Addr} {vs ws : List Value} {Q : Value → Shared → Prop} (ht : IsTup s.heap t vs.toArray) (hb : IsTup s.heap b ws.toArray) (hv : vs ≠ [])
    (h1 : ws = [] → Q (.ref t) s) (h2 : ws ≠ [] → Q (.ref s.heap.objs.size) { s with heap := s.heap.push { cls := .type "tuple", data := .seq (vs ++ ws).toArray } })
    (hsz : vs.length + ws.length ≤ sizeLine) : wpAny (model prog w) A (binaryOp .Add (.ref t) (.ref b)) Q E s := by
  obtain ⟨⟨cls, dd, data, sl⟩, ho, hc, n, hd⟩ := id ht
  obtain ⟨⟨cls2, dd2, data2, sl2⟩, ho2, hc2, n2, hd2⟩ := id hb
  simp only at hc hd hc2 hd2
  subst hc hd hc2 hd2
  have e : vs.toArray ++ ws.toArray = (vs ++ ws).toArray := by simp
  by_cases hw : ws = []
  · exact concat_meets ⟨_, ho, rfl⟩ ⟨_, ho2, rfl⟩ noFill_tuple_add seq_tuple_add PySem.F.slot_tuple_add PySem.F.entry_tuple_add (PySem.F.args_tuple_add_2 _ _)
      (tuple_addW1 t b vs.toArray ws.toArray n n2 dd dd2 sl sl2 (by simpa using hv) (by simp [hw])) ⟨ho, ho2, h1 hw⟩
  · refine concat_meets ⟨_, ho, rfl⟩ ⟨_, ho2, rfl⟩ noFill_tuple_add seq_tuple_add PySem.F.slot_tuple_add PySem.F.entry_tuple_add (PySem.F.args_tuple_add_2 _ _)
      (tuple_addW2 t b vs.toArray ws.toArray n n2 dd dd2 sl sl2 (by simpa using hv) (by simpa using hw) (by rw [List.size_toArray, List.size_toArray]; exact hsz)) ⟨ho, ho2, ?_⟩
    rw [e]
    exact h2 hw
def sIx (n d : Nat) : Option Int → Nat
  | none => d
  | some v => if v < 0 then (v + (n : Int)).toNat else min v.toNat n
end
end HT
namespace L2
open PySem PySem.Spec PyProof.Rows
abbrev TO := St → Hp → (Option Int → Hp → Prop) → Prop
def PO (X : Cx) (e : Option Expr) (t : TO) : Prop :=
  ∀ (pins : List (Addr × Obj)) (s : Shared) (σ : St) (H : Hp) (Q : Option Int → Hp → Prop), Inv X pins σ H s → t σ H Q →
    wpAny (model X.prog X.w) X.A (evalPart e X.env) (fun u s' => ∃ o H', Inv X pins σ H' s' ∧ IsPart u o ∧ Q o H') X.xe s
def tNoPart : TO := fun _ H Q => Q none H
def tPart (t : TE) : TO := fun σ H Q => t σ H fun x H1 => ∃ i, x = .int i ∧ Q (some i) H1
section
variable {X : Cx} {e : Expr} {te : TE} {lo hi : Option Expr} {tl th : TO} {pos p2 : Pos}
theorem po_none : PO X none tNoPart := by
  intro pins s σ H Q I h
  rw [evalPart_none]
  exact wpAny_pure ⟨none, H, I, .none, h⟩
theorem po_some (h : PE X e te) : PO X (some e) (tPart te) := by
  intro pins s σ H Q I hw
  rw [evalPart_some]
  refine thn (h pins s σ H _ I hw) fun u s1 ⟨x, H1, I1, r1, q1⟩ => ?_
  obtain ⟨i, rfl, q⟩ := q1
  obtain ⟨t, rfl⟩ := r1
  exact ⟨some i, H1, I1, .int i t, q⟩
def SlR (X : Cx) (r : V → Option Int → Option Int → Hp → VK → Prop) : Prop :=
  ∀ (pins : List (Addr × Obj)) (s : Shared) (σ : St) (H : Hp) (x : V) (v vl vu : Value) (lo hi : Option Int) (sl : Addr) (Q : VK), Inv X pins σ H s → RelV x v → s.heap.IsSliceOf sl vl vu .none → IsPart vl lo → IsPart vu hi → r x lo hi H Q →
    ∃ T id, typeLookup (.type T) "__getitem__" = pure (some (.builtin id)) ∧ s.TypeIs v T ∧ wpAny (model X.prog X.w) X.A (getItem v (.ref sl)) (EP X pins σ Q) X.xe s
def tSl (r : V → Option Int → Option Int → Hp → VK → Prop) (te : TE) (tl th : TO) : TE := fun σ H Q => te σ H fun x H1 => tl σ H1 fun l H2 => th σ H2 fun u H3 => r x l u H3 Q
theorem pe_slice {r : V → Option Int → Option Int → Hp → VK → Prop} (hr : SlR X r) (he : PE X e te) (hl : PO X lo tl) (hu : PO X hi th) : PE X (.Subscript e (.Slice lo hi none p2) pos) (tSl r te tl th) := by
  intro pins s σ H Q I h
  refine Subscript_ (thn (he pins s σ H _ I h) fun v s1 ⟨x, H1, I1, r1, q1⟩ => ?_)
  refine wpAny_Slice (thn (hl pins s1 σ H1 _ I1 q1) fun vl s2 ⟨l, H2, I2, pl, q2⟩ => thn (hu pins s2 σ H2 _ I2 q2) fun vu s3 ⟨u, H3, I3, pu, q3⟩ => ?_)
  rw [evalPart_none]
  refine wpAny_pure ?_
  have I4 : Inv X pins σ H3 { s3 with heap := s3.heap.push { cls := .type "slice", data := .fields #[vl, vu, .none] } } := I3.kept (t' := s3.toks) fun b ob q => Heap.get?_push_of_some _ q
  obtain ⟨T, id, hT, ht, hg⟩ := hr pins { s3 with heap := s3.heap.push { cls := .type "slice", data := .fields #[vl, vu, .none] } } σ H3 x v vl vu l u s3.heap.objs.size Q I4 r1 (Heap.IsSliceOf.new ..) pl pu q3
  show wpAny (model X.prog X.w) X.A (subscriptTail e (.Slice lo hi none p2) v (.ref s3.heap.objs.size)) (EP X pins σ Q) X.xe { s3 with heap := s3.heap.push { cls := .type "slice", data := .fields #[vl, vu, .none] } }
  exact tail_any (ops := [.ref s3.heap.objs.size, v]) ht hT hg (by with_unfolding_all rfl)
def cutV (xs : List V) (lo hi : Option Int) : List V := (xs.drop (HT.sIx xs.length 0 lo)).take (HT.sIx xs.length xs.length hi - HT.sIx xs.length 0 lo)
theorem cutV_length (xs : List V) (lo hi : Option Int) : (cutV xs lo hi).length ≤ xs.length := by
  unfold cutV
  rw [List.length_take, List.length_drop]
  omega
def rSlT (K : PySem.W.Frag) : V → Option Int → Option Int → Hp → VK → Prop := fun x lo hi H Q => ∃ a xs, x = .ref a ∧ SqT K H a xs ∧
  ¬ (HT.sIx xs.length 0 lo = 0 ∧ HT.sIx xs.length xs.length hi = xs.length) ∧ ∀ p, H p = none → Q (.ref p) (upd H p (.tup (cutV xs lo hi)))
def rCatT (K : PySem.W.Frag) : R2 := fun x y H Q => ∃ a b xs ys, x = .ref a ∧ y = .ref b ∧ SqT K H a xs ∧ SqT K H b ys ∧ xs ≠ [] ∧ xs.length + ys.length ≤ sizeLine ∧
  (ys = [] → Q (.ref a) H) ∧ (ys ≠ [] → ∀ p, H p = none → Q (.ref p) (upd H p (.tup (xs ++ ys))))
theorem Vals.nil_iff {xs : List V} {us : List Value} (r : Vals xs us) : us = [] ↔ xs = [] := by
  cases r with
  | nil => simp
  | cons _ _ => simp
theorem op_catT : OpR X (binaryOp .Add) (rCatT X.K) := by
  intro pins s σ H x y v u Q I rx ry h
  obtain ⟨a, b, xs, ys, rfl, rfl, ha, hb, hx, hz, q1, q2⟩ := h
  cases rx
  cases ry
  obtain ⟨its, r1, p1, _⟩ := I.tuple ha
  obtain ⟨its2, r2, p2, _⟩ := I.tuple hb
  refine HT.cat_tup p1 p2 (fun z => hx (r1.nil_iff.mp z)) (fun z => ⟨.ref a, H, I, rfl, q1 (r2.nil_iff.mp z)⟩) (fun z => ?_) (by rw [← r1.length, ← r2.length]; exact hz)
  refine ⟨.ref s.heap.objs.size, _, I.laid (t' := s.toks) (o := .tup (xs ++ ys)) (fun b ob q => Heap.get?_push_of_some _ q) (Nat.le_refl _) ?_, rfl, q2 (fun w => z (r2.nil_iff.mpr w)) _ (I.hok.fresh (Nat.le_refl _))⟩
  exact ⟨by rw [List.length_append]; exact hz, _, r1.append r2, IsTp.new _ _⟩
end
end L2
namespace L2
open PySem PySem.Spec PyProof.Rows
def ixN (n : Nat) (i : Int) : Option Nat := if 0 ≤ i then (if i < n then some i.toNat else none) else if -(n : Int) ≤ i then some (i + n).toNat else none
def atI {α : Type} (xs : List α) (i : Int) : Option α := (ixN xs.length i).bind fun j => xs[j]?
theorem ixN_seq {n : Nat} {i : Int} {j : Nat} (h : ixN n i = some j) : seqIndex? i n = some j ∧ j < n ∧ -(n : Int) ≤ i ∧ i < n := by
  unfold ixN at h
  by_cases h0 : 0 ≤ i
  · rw [if_pos h0] at h
    by_cases h1 : i < n
    · rw [if_pos h1] at h
      have e : i.toNat = j := Option.some.inj h
      exact ⟨by rw [seqIndex_of h0 h1, e], by omega, by omega, h1⟩
    · rw [if_neg h1] at h; cases h
  · rw [if_neg h0] at h
    by_cases h1 : -(n : Int) ≤ i
    · rw [if_pos h1] at h
      have e : (i + n).toNat = j := Option.some.inj h
      exact ⟨by rw [seqIndex_neg (by omega) h1, e], by omega, h1, by omega⟩
    · rw [if_neg h1] at h; cases h
theorem atI_get {α : Type} {xs : List α} {i : Int} {v : α} (h : atI xs i = some v) : ∃ j, seqIndex? i xs.length = some j ∧ xs[j]? = some v ∧ j < xs.length ∧ -(xs.length : Int) ≤ i ∧ i < xs.length := by
  unfold atI at h
  cases e : ixN xs.length i with
  | none => rw [e] at h; cases h
  | some j =>
    rw [e] at h
    obtain ⟨h1, h2, h3, h4⟩ := ixN_seq e
    exact ⟨j, h1, h, h2, h3, h4⟩
theorem atI_nat {α : Type} {xs : List α} {j : Nat} {v : α} (h : xs[j]? = some v) : atI xs (j : Int) = some v := by
  have hj : j < xs.length := (List.getElem?_eq_some_iff.mp h).1
  have e : ixN xs.length (j : Int) = some j := by
    unfold ixN
    rw [if_pos (by omega), if_pos (by omega)]; simp
  unfold atI; rw [e]; exact h
def PlainIx (b : Expr) : Prop := ∀ o i, subscripted b false o i = operate [o, i] (getItem o i)
def IxR (X : Cx) (r : R2) : Prop :=
  ∀ (value slice : Expr) (pins : List (Addr × Obj)) (s : Shared) (σ : St) (H : Hp) (x y : V) (v u : Value) (Q : VK), Inv X pins σ H s → RelV x v → RelV y u → r x y H Q →
    subscripted slice false v u = operate [v, u] (getItem v u) → wpAny (model X.prog X.w) X.A (subscriptTail value slice v u) (EP X pins σ Q) X.xe s
def MtR (X : Cx) (id : String) (r : V → List V → Hp → VK → Prop) : Prop :=
  ∀ (pins : List (Addr × Obj)) (s : Shared) (σ : St) (H : Hp) (x : V) (xs : List V) (v : Value) (us : List Value) (Q : VK), Inv X pins σ H s → RelV x v → Vals xs us → r x xs H Q →
    wpAny (model X.prog X.w) X.A (call (.builtin id) (v :: us)) (EP X pins σ Q) X.xe s
section
variable {X : Cx} {a b : Expr} {ta tb : TE} {pos : Pos}
theorem pe_ix {r : R2} (hr : IxR X r) (ha : PE X a ta) (hb : PE X b tb) (hs : PlainIx b) : PE X (.Subscript a b pos) (tOp r ta tb) := by
  intro pins s σ H Q I h
  exact Subscript_ (binT ha hb I h fun v u s2 x y H2 I2 rx ry q => hr a b pins s2 σ H2 x y v u Q I2 rx ry q (hs _ _))
def rIxL (K : PySem.W.Frag) : R2 := fun x y H Q => ∃ p xs i v, x = .ref p ∧ y = .int i ∧ SqL K H p xs ∧ atI xs i = some v ∧ Q v H
def rIxT (K : PySem.W.Frag) : R2 := fun x y H Q => ∃ p xs i v, x = .ref p ∧ y = .int i ∧ SqT K H p xs ∧ atI xs i = some v ∧ Q v H
def rIxS : R2 := fun x y H Q => ∃ z i c, x = .str z ∧ y = .int i ∧ z.length ≤ sizeLine ∧ atI z.cps.toList i = some c ∧ Q (.str ⟨#[c]⟩) H
theorem ix_list : IxR X (rIxL X.K) := by
  intro value slice pins s σ H x y v u Q I rx ry h hs
  obtain ⟨p, xs, i, z, rfl, rfl, hq, he, q⟩ := h
  cases rx
  obtain ⟨t, rfl⟩ := ry
  obtain ⟨its, r, pl, hz⟩ := I.list hq
  obtain ⟨j, h1, h2, h3, h4, h5⟩ := atI_get he
  obtain ⟨w, ew, rw'⟩ := r.get h2
  have hl := r.length
  have hn := line63
  have fin : EP X pins σ Q w s := ⟨z, H, I, rw', q⟩
  by_cases h0 : 0 ≤ i
  · have hj : i.toNat = j := by
      rw [seqIndex_of h0 h5] at h1
      exact Option.some.inj h1
    exact item_listR pl.isList h0 (by omega) (by rw [hj]; simpa using ew) fin hs
  · have hj : (i + (its.toArray.size : Int)).toNat = j := by
      rw [seqIndex_neg (by omega) h4] at h1
      rw [List.size_toArray, ← hl]
      exact Option.some.inj h1
    exact subscriptTail_builtinR (x := w) pl.isList.typeIs slot_list_getitem.lookup
      (wpAny_getItem_list_neg (Q := fun r s' => r = w ∧ EP X pins σ Q r s') pl.isList (by omega) (by rw [List.size_toArray] <;> omega) (by omega) (by rw [hj]; simpa using ew) ⟨rfl, fin⟩) hs
theorem ix_tup : IxR X (rIxT X.K) := by
  intro value slice pins s σ H x y v u Q I rx ry h hs
  obtain ⟨p, xs, i, z, rfl, rfl, hq, he, q⟩ := h
  cases rx
  obtain ⟨t, rfl⟩ := ry
  obtain ⟨its, r, pl, hz⟩ := I.tuple hq
  obtain ⟨j, h1, h2, h3, h4, h5⟩ := atI_get he
  obtain ⟨w, ew, rw'⟩ := r.get h2
  have hl := r.length
  have hn := line63
  have fin : EP X pins σ Q w s := ⟨z, H, I, rw', q⟩
  exact subscriptTail_builtinR (x := w) pl.typeIs slot_tuple_getitem.lookup
    (getItem_tuple (j := j) (Q := fun r s' => r = w ∧ EP X pins σ Q r s') pl (by omega) (by omega) (by rw [List.size_toArray, ← hl]; exact h1) (by simpa using ew) ⟨rfl, fin⟩) hs
theorem ix_str : IxR X rIxS := by
  intro value slice pins s σ H x y v u Q I rx ry h hs
  obtain ⟨z, i, c, rfl, rfl, hz, he, q⟩ := h
  obtain ⟨t, rfl⟩ := rx
  obtain ⟨t', rfl⟩ := ry
  obtain ⟨j, h1, h2, h3, h4, h5⟩ := atI_get he
  have hl : z.cps.toList.length = z.length := by simp [Str.length]
  rw [hl] at h1 h4 h5
  have hn := line63
  exact tail_any (typeIs_str s z t) slot_str_getitem.lookup (getItem_str (c := c) (by
    have e1 : decide (i < -(2 ^ 63 : Int)) = false := decide_eq_false (by omega)
    have e2 : decide (i ≥ 2 ^ 63) = false := decide_eq_false (by omega)
    rw [e1, e2, Bool.or_false]) (by rw [h1]; simpa using h2) ⟨.str ⟨#[c]⟩, H, I.tok _, ⟨_, rfl⟩, q⟩) hs
def rIx (K : PySem.W.Frag) : R2 := fun x y H Q => rIxL K x y H Q ∨ rIxT K x y H Q ∨ rIxS x y H Q
theorem mapSeq_set (its : List Value) (n j : Nat) (u : Value) : Obj.mapSeq (·.setIfInBounds j u) { cls := .type "list", data := .seq its.toArray n } = { cls := .type "list", data := .seq (its.set j u).toArray n } := by
  simp [Obj.mapSeq]
theorem Inv.lst {pins : List (Addr × Obj)} {σ : St} {H : Hp} {s : Shared} {p : Addr} {xs : List V} (I : Inv X pins σ H s) (h : H p = some (.lst xs)) :
    ∃ (its : List Value) (n : Nat), Vals xs its ∧ s.heap.get? p = some { cls := .type "list", data := .seq its.toArray n } ∧ xs.length ≤ sizeLine := by
  obtain ⟨z, its, n, r, e⟩ := I.hok p _ h
  exact ⟨its, n, r, e, z⟩
theorem Inv.lstUpd {pins : List (Addr × Obj)} {σ : St} {H : Hp} {s : Shared} {p : Addr} {xs ys : List V} {its its' : List Value} {n n' : Nat} {f : Obj → Obj} (I : Inv X pins σ H s) (h : H p = some (.lst xs))
    (ho : s.heap.get? p = some { cls := .type "list", data := .seq its.toArray n }) (hf : f { cls := .type "list", data := .seq its.toArray n } = { cls := .type "list", data := .seq its'.toArray n' }) (r : Vals ys its') (hz : ys.length ≤ sizeLine) (t : Nat) :
    Inv X pins σ (upd H p (.lst ys)) { s with heap := s.heap.update p f, toks := t } := by
  have e : (s.heap.update p f).get? p = some { cls := .type "list", data := .seq its'.toArray n' } := by
    rw [Heap.get?_update_self f ho (by rw [hf] <;> rfl), hf]
  refine I.write (x := p) (e := p) (by rw [h]; trivial) (.inl rfl) (fun b u hb q => (Heap.get?_update_other _ _ (Ne.symm hb)).trans q) ⟨_, e⟩ ?_
  exact ⟨hz, its', n', r, e⟩
def rSetL : V → V → V → Hp → (Hp → Prop) → Prop := fun o i v H Q => ∃ p xs k j, o = .ref p ∧ i = .int k ∧ H p = some (.lst xs) ∧ ixN xs.length k = some j ∧ Q (upd H p (.lst (xs.set j v)))
theorem set_list : PSet X rSetL := by
  intro pins s σ H o i v ov iv u Q I ro ri rv h
  obtain ⟨p, xs, k, j, rfl, rfl, hp, hj, q⟩ := h
  cases ro
  obtain ⟨t, rfl⟩ := ri
  obtain ⟨its, n, r, ho, hz⟩ := I.lst hp
  obtain ⟨h1, h2, h3, h4⟩ := ixN_seq hj
  have hl := r.length
  have hn := line63
  have I' : Inv X pins σ (upd H p (.lst (xs.set j v))) { s with heap := s.heap.update p (Obj.mapSeq (·.setIfInBounds j u)) } :=
    I.lstUpd hp ho (mapSeq_set its n j u) (r.set rv j) (by rw [List.length_set]; exact hz) s.toks
  by_cases h0 : 0 ≤ k
  · have hk : k.toNat = j := by
      rw [seqIndex_of h0 h4] at h1
      exact Option.some.inj h1
    exact PySem.W.ki_setAt ho h0 (by omega) (by rw [List.size_toArray, ← hl]; exact h4) (by rw [hk]; exact ⟨_, I', q⟩)
  · have hk : (k + (its.toArray.size : Int)).toNat = j := by
      rw [seqIndex_neg (by omega) h3] at h1
      rw [List.size_toArray, ← hl]
      exact Option.some.inj h1
    exact PySem.W.ki_setBack ho (by omega) (by rw [List.size_toArray, ← hl]; exact h3) (by omega) (by rw [hk]; exact ⟨_, I', q⟩)
theorem slice_bounds (lo hi : Option Int) (n : Nat) : (sliceBounds lo hi none n).1 = ((HT.sIx n 0 lo : Nat) : Int) ∧ (sliceBounds lo hi none n).2.1 = ((HT.sIx n n hi : Nat) : Int) ∧ (sliceBounds lo hi none n).2.2 = 1 := by
  refine ⟨?_, ?_, rfl⟩
  · cases lo with
    | none => simp [sliceBounds, HT.sIx]
    | some i =>
      simp only [sliceBounds, HT.sIx, Option.getD_none, show (1 : Int) > 0 by decide, if_true]
      by_cases h : i < 0
      · simp only [h, if_true] <;> omega
      · simp only [h, if_false] <;> omega
  · cases hi with
    | none => simp [sliceBounds, HT.sIx]
    | some i =>
      simp only [sliceBounds, HT.sIx, Option.getD_none, show (1 : Int) > 0 by decide, if_true]
      by_cases h : i < 0
      · simp only [h, if_true] <;> omega
      · simp only [h, if_false] <;> omega
theorem slicePick_cut (its : List Value) (lo hi : Option Int) : slicePick its.toArray lo hi none = ((its.drop (HT.sIx its.length 0 lo)).take (HT.sIx its.length its.length hi - HT.sIx its.length 0 lo)).toArray := by
  obtain ⟨h1, h2, h3⟩ := slice_bounds lo hi its.toArray.size
  unfold slicePick
  rw [h1, h2, h3]
  simp only [sliceRange_one, pick_run, List.size_toArray] <;> rfl
def rSlL (K : PySem.W.Frag) : V → Option Int → Option Int → Hp → VK → Prop := fun x lo hi H Q => ∃ a xs, x = .ref a ∧ SqL K H a xs ∧ ∀ p, H p = none → Q (.ref p) (upd H p (.lst (cutV xs lo hi)))
theorem sl_list : SlR X (rSlL X.K) := by
  intro pins s σ H x v vl vu lo hi sl Q I rx hs pl pu h
  obtain ⟨a, xs, rfl, hx, q⟩ := h
  cases rx
  obtain ⟨its, r, ht, hz⟩ := I.list hx
  have hlen := r.length
  refine ⟨"list", _, slot_list_getitem.lookup, ht.isList.typeIs, ?_⟩
  refine wpAny_getItem_list_slice ht.isList hs pl pu .none (by simp) ?_ (by rw [List.size_toArray] <;> omega)
  rw [slicePick_cut, ← hlen]
  refine ⟨.ref s.heap.objs.size, _, I.laid (t' := s.toks) (o := .lst (cutV xs lo hi)) (fun b ob q => Heap.get?_push_of_some _ q) (Nat.le_refl _) ?_, rfl, q _ (I.hok.fresh (Nat.le_refl _))⟩
  exact ⟨Nat.le_trans (cutV_length xs lo hi) hz, _, 0, (r.drop (HT.sIx xs.length 0 lo)).take (HT.sIx xs.length xs.length hi - HT.sIx xs.length 0 lo), Heap.get?_push_size _ rfl⟩
def flatV : V → Bool
  | .non => true
  | .bl _ => true
  | .int _ => true
  | .str _ => true
  | _ => false
def eqV : V → V → Bool
  | .non, .non => true
  | .bl a, .bl b => a == b
  | .bl a, .int b => (if a then 1 else 0) == b
  | .int a, .bl b => a == (if b then 1 else 0)
  | .int a, .int b => a == b
  | .str a, .str b => a == b
  | _, _ => false
theorem eqAt_V {A : Around} {s : Shared} {y x : V} {u v : Value} (ry : RelV y u) (rx : RelV x v) (fy : flatV y = true) (fx : flatV x = true) : SeqAt.EqAt A s u v (eqV y x) := by
  cases y with
  | non =>
    cases ry
    cases x with
    | non => cases rx; exact SeqAt.EqAt.same _
    | bl b => cases rx; exact SeqAt.EqAt.none_bool b
    | int b => obtain ⟨t, rfl⟩ := rx; exact SeqAt.EqAt.none_int b t
    | str b => obtain ⟨t, rfl⟩ := rx; exact SeqAt.EqAt.none_str b t
    | _ => exact absurd (show false = true from fx) Bool.false_ne_true
  | bl a =>
    cases ry
    cases x with
    | non => cases rx; exact SeqAt.EqAt.bool_none a
    | bl b => cases rx; exact SeqAt.EqAt.bool_bool a b
    | int b => obtain ⟨t, rfl⟩ := rx; exact SeqAt.EqAt.bool_int a b t
    | str b => obtain ⟨t, rfl⟩ := rx; exact SeqAt.EqAt.bool_str a b t
    | _ => exact absurd (show false = true from fx) Bool.false_ne_true
  | int a =>
    obtain ⟨t', rfl⟩ := ry
    cases x with
    | non => cases rx; exact SeqAt.EqAt.int_none a t'
    | bl b => cases rx; exact SeqAt.EqAt.int_bool a t' b
    | int b => obtain ⟨t, rfl⟩ := rx; exact SeqAt.EqAt.int_int a t' b t
    | str b => obtain ⟨t, rfl⟩ := rx; exact SeqAt.EqAt.int_str a t' b t
    | _ => exact absurd (show false = true from fx) Bool.false_ne_true
  | str a =>
    obtain ⟨t', rfl⟩ := ry
    cases x with
    | non => cases rx; exact SeqAt.EqAt.str_none a t'
    | bl b => cases rx; exact SeqAt.EqAt.str_bool a t' b
    | int b => obtain ⟨t, rfl⟩ := rx; exact SeqAt.EqAt.str_int a t' b t
    | str b => obtain ⟨t, rfl⟩ := rx; exact SeqAt.EqAt.str_str a t' b t
    | _ => exact absurd (show false = true from fx) Bool.false_ne_true
  | _ => exact absurd (show false = true from fy) Bool.false_ne_true
def eqU (x : V) (u : Value) : Bool := match u with
  | .none => eqV .non x
  | .bool b => eqV (.bl b) x
  | .int i _ => eqV (.int i) x
  | .str z _ => eqV (.str z) x
  | _ => false
theorem eqU_of {x y : V} {u : Value} (r : RelV y u) (f : flatV y = true) : eqU x u = eqV y x := by
  cases y with
  | non => cases r; rfl
  | bl b => cases r; rfl
  | int i => obtain ⟨t, rfl⟩ := r; rfl
  | str z => obtain ⟨t, rfl⟩ := r; rfl
  | _ => exact absurd (show false = true from f) Bool.false_ne_true
theorem any_eqU {x : V} : ∀ {xs : List V} {us : List Value}, Vals xs us → xs.all flatV = true → us.any (eqU x) = xs.any fun y => eqV y x
  | _, _, .nil, _ => rfl
  | y :: xs, u :: us, .cons r t, f => by
    rw [List.all_cons, Bool.and_eq_true] at f
    rw [List.any_cons, List.any_cons, eqU_of r f.1, any_eqU t f.2]
theorem mem_eqAt {A : Around} {s : Shared} {x : V} {v : Value} (rx : RelV x v) (fx : flatV x = true) : ∀ {xs : List V} {us : List Value}, Vals xs us → xs.all flatV = true → ∀ u ∈ us, SeqAt.EqAt A s u v (eqU x u)
  | _, _, .nil, _ => fun u hu => by cases hu
  | y :: xs, u :: us, .cons r t, f => fun u' hu => by
    rw [List.all_cons, Bool.and_eq_true] at f
    rcases List.mem_cons.mp hu with rfl | hu
    · rw [eqU_of r f.1]; exact eqAt_V r rx f.1 fx
    · exact mem_eqAt rx fx t f.2 u' hu
def inV (x : V) (xs : List V) : Bool := xs.any fun y => eqV y x
def rIn (K : PySem.W.Frag) (neg : Bool) : R2 := fun x y H Q => ∃ p xs, y = .ref p ∧ (SqL K H p xs ∨ SqT K H p xs) ∧ flatV x = true ∧ xs.all flatV = true ∧ Q (.bl (if neg then !inV x xs else inV x xs)) H
theorem op_in_seq : OpR X (compareOp .In) (rIn X.K false) := by
  intro pins s σ H x y v u Q I rx ry h
  obtain ⟨p, xs, rfl, hq, fx, fs, q⟩ := h
  cases ry
  rcases hq with hq | hq
  · obtain ⟨its, r, pl, hz⟩ := I.list hq
    refine SeqAt.in_listAt (eqU x) pl.isList (fun w hw => mem_eqAt rx fx r fs w (by simpa using hw)) ⟨.bl _, H, I, rfl, ?_⟩
    rw [show its.toArray.any (eqU x) = its.any (eqU x) by simp, any_eqU r fs]
    exact q
  · obtain ⟨its, r, pl, hz⟩ := I.tuple hq
    refine SeqAt.in_tupleAt (eqU x) pl (fun w hw => mem_eqAt rx fx r fs w (by simpa using hw)) ⟨.bl _, H, I, rfl, ?_⟩
    rw [show its.toArray.any (eqU x) = its.any (eqU x) by simp, any_eqU r fs]
    exact q
theorem op_notIn_seq : OpR X (compareOp .NotIn) (rIn X.K true) := by
  intro pins s σ H x y v u Q I rx ry h
  obtain ⟨p, xs, rfl, hq, fx, fs, q⟩ := h
  cases ry
  rcases hq with hq | hq
  · obtain ⟨its, r, pl, hz⟩ := I.list hq
    refine SeqAt.notIn_listAt (eqU x) pl.isList (fun w hw => mem_eqAt rx fx r fs w (by simpa using hw)) ⟨.bl _, H, I, rfl, ?_⟩
    rw [show its.toArray.any (eqU x) = its.any (eqU x) by simp, any_eqU r fs]
    exact q
  · obtain ⟨its, r, pl, hz⟩ := I.tuple hq
    refine SeqAt.notIn_tupleAt (eqU x) pl (fun w hw => mem_eqAt rx fx r fs w (by simpa using hw)) ⟨.bl _, H, I, rfl, ?_⟩
    rw [show its.toArray.any (eqU x) = its.any (eqU x) by simp, any_eqU r fs]
    exact q
theorem call_len_seq : CallR X (.builtin "len") (fun xs H Q => ∃ p ys, xs = [.ref p] ∧ (SqL X.K H p ys ∨ SqT X.K H p ys) ∧ Q (.int ys.length) H) := by
  intro pins s σ H xs us Q I r h
  obtain ⟨p, ys, rfl, hq, q⟩ := h
  obtain ⟨u, rfl, rx⟩ := vals1 r
  cases rx
  have hn := line63
  rcases hq with hq | hq
  · obtain ⟨its, r', pl, hz⟩ := I.list hq
    have hlen := r'.length
    exact Calls.call_len_list pl.isList (by simp only [List.size_toArray] <;> omega) ⟨.int ys.length, H, I.tok _, ⟨s.toks + 1, by rw [List.size_toArray, hlen]⟩, q⟩
  · obtain ⟨its, r', pl, hz⟩ := I.tuple hq
    have hlen := r'.length
    exact len_tuple pl (by simp only [List.size_toArray] <;> omega) ⟨.int ys.length, H, I.tok _, ⟨s.toks + 1, by rw [List.size_toArray, hlen]⟩, q⟩
theorem call_len_str : CallR X (.builtin "len") (fun xs H Q => ∃ z, xs = [.str z] ∧ z.length ≤ sizeLine ∧ Q (.int z.length) H) := by
  intro pins s σ H xs us Q I r h
  obtain ⟨z, rfl, hz, q⟩ := h
  obtain ⟨u, rfl, t, rfl⟩ := vals1 r
  have hn := line63
  exact len_str (by omega) ⟨.int z.length, H, I.tok _, ⟨_, rfl⟩, q⟩
theorem call_list_of : CallR X (.type "list") (fun xs H Q => ∃ p ys, xs = [.ref p] ∧ (SqL X.K H p ys ∨ SqT X.K H p ys) ∧ ∀ l, H l = none → Q (.ref l) (upd H l (.lst ys))) := by
  intro pins s σ H xs us Q I r h
  obtain ⟨p, ys, rfl, hq, q⟩ := h
  obtain ⟨u, rfl, rx⟩ := vals1 r
  cases rx
  have fin : ∀ (its : List Value), Vals ys its → ys.length ≤ sizeLine → ∀ (h' : Heap) (c' : Nat), (∀ b o', s.heap.get? b = some o' → h'.get? b = some o') →
      h'.get? s.heap.objs.size = some { cls := .type "list", dict := none, data := .seq its.toArray c', slots := #[] } → EP X pins σ Q (.ref s.heap.objs.size) { s with heap := h' } := fun its r' hz h' c' kp e =>
    ⟨.ref s.heap.objs.size, _, I.laid (t' := s.toks) kp (Nat.le_refl _) (show ObjOk X.prog X.w _ h' _ (.lst ys) from ⟨hz, its, c', r', e⟩), rfl, q _ (I.hok.fresh (Nat.le_refl _))⟩
  rcases hq with hq | hq
  · obtain ⟨its, r', pl, hz⟩ := I.list hq
    have hlen := r'.length
    obtain ⟨o, ho, hc, n, hd⟩ := pl.isList
    exact call_list_seq p (.inl rfl) ho hc hd (fun h' c' kp e => fin its r' hz h' c' kp e) (by simp only [List.size_toArray] <;> omega)
  · obtain ⟨its, r', pl, hz⟩ := I.tuple hq
    have hlen := r'.length
    obtain ⟨o, ho, hc, n, hd⟩ := pl
    exact call_list_seq p (.inr rfl) ho hc hd (fun h' c' kp e => fin its r' hz h' c' kp e) (by simp only [List.size_toArray] <;> omega)
theorem call_tuple_of : CallR X (.type "tuple") (fun xs H Q => ∃ p ys, xs = [.ref p] ∧ ((SqL X.K H p ys ∧ ∀ l, H l = none → Q (.ref l) (upd H l (.tup ys))) ∨ (SqT X.K H p ys ∧ Q (.ref p) H))) := by
  intro pins s σ H xs us Q I r h
  obtain ⟨p, ys, rfl, h⟩ := h
  obtain ⟨u, rfl, rx⟩ := vals1 r
  cases rx
  rcases h with ⟨hq, q⟩ | ⟨hq, q⟩
  · obtain ⟨its, r', pl, hz⟩ := I.list hq
    have hlen := r'.length
    refine call_tuple_list pl.isList (fun h' kp => ?_) (by simp only [List.size_toArray] <;> omega)
    have I1 : Inv X pins σ H { s with heap := h' } := I.kept (t' := s.toks) kp
    have I2 : Inv X pins σ (upd H h'.objs.size (.tup ys)) { s with heap := h'.push { cls := .type "tuple", data := .seq its.toArray } } :=
      I1.laid (t' := s.toks) (fun b o e => Heap.get?_push_of_some _ e) (Nat.le_refl _) (show ObjOk X.prog X.w _ _ _ (.tup ys) from ⟨hz, its, r', IsTp.new _ _⟩)
    exact ⟨.ref h'.objs.size, _, I2, rfl, q _ (I1.hok.fresh (Nat.le_refl _))⟩
  · obtain ⟨its, r', pl, hz⟩ := I.tuple hq
    exact call_tuple_same pl ⟨.ref p, H, I, rfl, q⟩
def tyV (K : PySem.W.Frag) (T : String) (x : V) (H : Hp) : Prop := match x with
  | .str _ => T = "str"
  | .int _ => T = "int"
  | .ref p => (T = "list" ∧ ∃ xs, SqL K H p xs) ∨ (T = "tuple" ∧ ∃ o, K.lookup p = some o ∧ o.cls = .type "tuple" ∧ o.dict = none) ∨
      (T = "dict" ∧ ((∃ kvs, H p = some (.dK kvs)) ∨ ∃ kvs, H p = some (.dT kvs))) ∨ (T = "set" ∧ ∃ S n, H p = some (.set S n))
  | _ => False
theorem tyV_is {pins : List (Addr × Obj)} {σ : St} {H : Hp} {s : Shared} {T : String} {x : V} {v : Value} (I : Inv X pins σ H s) (r : RelV x v) (ty : tyV X.K T x H) :
    s.TypeIs v T ∧ ∀ a, v = .ref a → ∃ ob, s.heap.get? a = some ob ∧ ob.dict = none := by
  cases x with
  | str z =>
    obtain ⟨t, rfl⟩ := r
    cases (show T = "str" from ty)
    exact ⟨typeIs_str s z t, fun _ e => nomatch e⟩
  | int i =>
    obtain ⟨t, rfl⟩ := r
    cases (show T = "int" from ty)
    exact ⟨typeIs_int s i t, fun _ e => nomatch e⟩
  | ref p =>
    cases r
    rcases ty with ⟨rfl, xs, hq⟩ | ⟨rfl, o, hk, hc, hd⟩ | ⟨rfl, hk⟩ | ⟨rfl, S, n, hk⟩
    · obtain ⟨its, _, pl, _⟩ := I.list hq
      refine ⟨pl.isList.typeIs, fun a e => ?_⟩
      cases e
      obtain ⟨o, n, e, c, hd, _⟩ := pl
      exact ⟨o, e, hd⟩
    · refine ⟨⟨o, I.kIn p o hk, hc⟩, fun a e => ?_⟩
      cases e
      exact ⟨o, I.kIn _ o hk, hd⟩
    · have z : ∃ o, s.heap.get? p = some o ∧ o.ExactDict := by
        rcases hk with ⟨kvs, hk⟩ | ⟨kvs, hk⟩
        · obtain ⟨_, _, _, _, o, _, _, e, ex, _⟩ := I.hok p _ hk
          exact ⟨o, e, ex⟩
        · obtain ⟨_, _, _, _, o, _, _, e, ex, _⟩ := I.hok p _ hk
          exact ⟨o, e, ex⟩
      obtain ⟨o, e, ex⟩ := z
      refine ⟨⟨o, e, ex.1⟩, fun a e2 => ?_⟩
      cases e2
      exact ⟨o, e, ex.2.1⟩
    · obtain ⟨o, _, _, _, e, ex, _⟩ := I.hok p _ hk
      refine ⟨⟨o, e, ex.1⟩, fun a e2 => ?_⟩
      cases e2
      exact ⟨o, e, ex.2.1⟩
  | _ => exact False.elim ty
def tBM0 (K : PySem.W.Frag) (T : String) (r : V → List V → Hp → VK → Prop) (to : TE) : TE := fun σ H Q => to σ H fun x H1 => tyV K T x H1 ∧ r x [] H1 Q
def tBM (K : PySem.W.Frag) (T : String) (r : V → List V → Hp → VK → Prop) (to : TE) (t : TA) : TE := fun σ H Q => to σ H fun x H1 => tyV K T x H1 ∧ t σ H1 fun xs H2 => r x xs H2 Q
variable {o e : Expr} {es : List Expr} {to : TE} {t : TA} {name : Str} {apos cpos : Pos} {T id : String} {r : V → List V → Hp → VK → Prop}
theorem pe_bm0 (pa : PlainAttrs T) (slot : Slot T name id) (hty : typeOf (.builtin id) = pure (.type "method_descriptor")) (hm : MtR X id r) (ho : PE X o to)
    (hbase : attributeBase o name X.env (eval o X.env) = eval o X.env := by rfl) (hline : (apos.endLine == cpos.line) = true := by rfl) : PE X (.Call (.Attribute o name apos) [] [] cpos) (tBM0 X.K T r to) := by
  intro pins s σ H Q I h
  refine wpAny_Call_method0_late hbase hline (thn (ho pins s σ H _ I h) fun v s1 ⟨x, H1, I1, r1, ty, q1⟩ => ?_)
  obtain ⟨h1, h2⟩ := tyV_is I1 r1 ty
  exact ⟨T, id, pa, slot, hty, h1, h2, Calls.callWith_builtin rfl (PySem.evalArgs_none (hm pins s1 σ H1 x [] v [] Q I1 r1 .nil q1))⟩
theorem pe_bm (pa : PlainAttrs T) (slot : Slot T name id) (hty : typeOf (.builtin id) = pure (.type "method_descriptor")) (hm : MtR X id r) (ho : PE X o to) (ha : PA X (e :: es) t)
    (hbase : attributeBase o name X.env (eval o X.env) = eval o X.env := by rfl)
    (hfew : ((backTo cpos (starEach (e :: es) X.env)).all (fun x => !x.1) && (backToKw cpos (keywordEach [] X.env)).all (fun x => x.1.isSome)
      && decide ((e :: es).length + ([] : List Keyword).length + (if ([] : List Keyword).isEmpty then 0 else 1) < 30)) = true := by rfl)
    (hline : (apos.endLine == cpos.line) = true := by rfl) (hs : starEach (e :: es) X.env = (false, eval e X.env) :: starEach es X.env := by rfl) (hplain : (backTo cpos (starEach es X.env)).any (·.1) = false := by rfl) :
    PE X (.Call (.Attribute o name apos) (e :: es) [] cpos) (tBM X.K T r to t) := by
  intro pins s σ H Q I h
  refine wpAny_Call_method_late hbase hfew hline rfl (thn (ho pins s σ H _ I h) fun v s1 ⟨x, H1, I1, r1, ty, q1⟩ => ?_)
  obtain ⟨h1, h2⟩ := tyV_is I1 r1 ty
  refine ⟨T, id, pa, slot, hty, h1, h2, ?_⟩
  have hA := ha cpos pins s1 σ H1 _ I1 q1
  rw [hs] at hA ⊢
  refine Calls.callWith_builtin (by show (false || (backTo cpos (starEach es X.env)).any (·.1)) = false; rw [hplain] <;> rfl) (Calls.evalArgs_plain ?_)
  exact thn hA fun us s2 ⟨vs, H2, I2, r2, q2⟩ => hm pins s2 σ H2 x vs v us Q I2 r1 r2 q2
end
end L2
namespace L2
open PySem PySem.Spec PyProof.Rows
def MtM (X : Cx) (id : String) (r : V → List V → Hp → VK → Prop) : Prop :=
  ∀ (pins : List (Addr × Obj)) (s : Shared) (σ : St) (H : Hp) (x : V) (xs : List V) (v : Value) (us : List Value) (Q : VK), Inv X pins σ H s → RelV x v → Vals xs us → r x xs H Q →
    wpAny (model X.prog X.w) X.A (call (.builtin id) (v :: us)) (EP X pins σ Q) X.xe s
theorem Vals.one : ∀ {x : V} {us : List Value}, Vals [x] us → ∃ u, us = [u] ∧ RelV x u
  | _, _, .cons r .nil => ⟨_, rfl, r⟩
theorem Vals.two : ∀ {x y : V} {us : List Value}, Vals [x, y] us → ∃ u v, us = [u, v] ∧ RelV x u ∧ RelV y v
  | _, _, _, .cons r (.cons q .nil) => ⟨_, _, rfl, r, q⟩
theorem Vals.zero : ∀ {us : List Value}, Vals [] us → us = []
  | _, .nil => rfl
theorem Vals.dropLast {xs : List V} {us : List Value} (h : Vals xs us) : Vals xs.dropLast us.dropLast := by
  induction h with
  | nil => exact .nil
  | cons r t ih =>
    cases t with
    | nil => exact .nil
    | cons q t' => exact .cons r ih
theorem erase_last {α : Type} (l : List α) : l.eraseIdx (l.length - 1) = l.dropLast := by
  induction l with
  | nil => rfl
  | cons a r ih =>
    cases r with
    | nil => rfl
    | cons b r =>
      have e : (a :: b :: r).length - 1 = ((b :: r).length - 1) + 1 := by
        have h1 : (a :: b :: r).length = r.length + 2 := rfl
        have h2 : (b :: r).length = r.length + 1 := rfl
        omega
      rw [e, List.eraseIdx_cons_succ, ih]
      all_goals rfl
section
variable {X : Cx} {pins : List (Addr × Obj)} {σ : St} {H : Hp} {s : Shared} {l b : Addr} {xs ys zs : List V}
theorem Inv.lset {its its' : List Value} {n : Nat} {f : Array Value → Array Value} {t' : Nat} (I : Inv X pins σ H s) (hH : H l = some (.lst xs))
    (e : s.heap.get? l = some { cls := .type "list", data := .seq its.toArray n }) (hf : f its.toArray = its'.toArray) (hv : Vals ys its') (hz : ys.length ≤ sizeLine) :
    Inv X pins σ (upd H l (.lst ys)) { s with heap := s.heap.update l (Obj.mapSeq f), toks := t' } := by
  have q := PySem.IsL.update e f
  rw [hf] at q
  refine I.write (x := l) (e := l) (by rw [hH]; exact trivial) (.inl rfl) (fun b' u hb hu => (Heap.get?_update_other s.heap (Obj.mapSeq f) (Ne.symm hb)).trans hu) ⟨_, q⟩ ?_
  exact ⟨hz, its', _, hv, q⟩
theorem Inv.lnew {its : List Value} {t' : Nat} (I : Inv X pins σ H s) (hv : Vals ys its) (hz : ys.length ≤ sizeLine) :
    Inv X pins σ (upd H s.heap.objs.size (.lst ys)) { s with heap := s.heap.push { cls := .type "list", data := .seq its.toArray }, toks := t' } :=
  I.laid (fun _ _ q => Heap.get?_push_of_some _ q) (Nat.le_refl _) ⟨hz, its, 0, hv, Heap.get?_push_size _ rfl⟩
theorem Inv.fresh (I : Inv X pins σ H s) : H s.heap.objs.size = none := I.hok.fresh (Nat.le_refl _)
theorem Inv.lstM (I : Inv X pins σ H s) (hH : H l = some (.lst xs)) : xs.length ≤ sizeLine ∧ ∃ (its : List Value) (n : Nat), Vals xs its ∧ xs.length = its.length ∧ s.heap.get? l = some { cls := .type "list", data := .seq its.toArray n } := by
  obtain ⟨z, its, n, r, e⟩ := I.hok l _ hH
  exact ⟨z, its, n, r, r.length, e⟩
theorem notLongL {n : Nat} (h : n ≤ sizeLine) : Builtin.List.listTooLong n = false := by
  unfold Builtin.List.listTooLong
  exact decide_eq_false (by omega)
end
section
variable {X : Cx}
def rAppend : V → List V → Hp → VK → Prop := fun x vs H Q => ∃ l xs y, x = .ref l ∧ vs = [y] ∧ H l = some (.lst xs) ∧ xs.length < sizeLine ∧ Q .non (upd H l (.lst (xs ++ [y])))
theorem mt_append : MtM X "list.append" rAppend := by
  intro pins s σ H x vs v us Q I rx rv h
  obtain ⟨l, xs, y, rfl, rfl, hH, hz, q⟩ := h
  cases rx
  obtain ⟨u, rfl, ru⟩ := rv.one
  obtain ⟨z, its, n, r, hl, e⟩ := I.lstM hH
  refine call_meets F.slot_list_append ⟨_, e, rfl⟩ F.entry_list_append (F.args_list_append_2 _ _) (PySem.list_append l its.toArray n u (by rw [List.size_toArray]; omega)) ⟨e, ?_⟩
  refine ⟨.non, _, I.lset (its' := its ++ [u]) hH e (by simp) (r.append (.cons ru .nil)) ?_, rfl, q⟩
  rw [List.length_append, List.length_singleton]
  omega
def rExtend : V → List V → Hp → VK → Prop := fun x vs H Q => ∃ l b xs zs, x = .ref l ∧ vs = [.ref b] ∧ H l = some (.lst xs) ∧ H b = some (.lst zs) ∧ xs.length + zs.length ≤ sizeLine ∧ Q .non (upd H l (.lst (xs ++ zs)))
theorem mt_extend : MtM X "list.extend" rExtend := by
  intro pins s σ H x vs v us Q I rx rv h
  obtain ⟨l, b, xs, zs, rfl, rfl, hH, hB, hz, q⟩ := h
  cases rx
  obtain ⟨u, rfl, ru⟩ := rv.one
  cases ru
  obtain ⟨z, its, n, r, hl, e⟩ := I.lstM hH
  obtain ⟨z2, its2, n2, r2, hl2, e2⟩ := I.lstM hB
  have hsz : its.toArray.size + its2.toArray.size ≤ sizeLine := by rw [List.size_toArray, List.size_toArray]; omega
  have hlong : ¬ (!its.toArray.isEmpty && Builtin.List.listTooLong (its.toArray.size + its2.toArray.size)) = true := by
    rw [notLongL hsz, Bool.and_false]
    exact Bool.false_ne_true
  refine call_meets F.slot_list_extend ⟨_, e, rfl⟩ F.entry_list_extend (F.args_list_extend_2 _ _)
    (AutoSeq1.list_extend_list_list_0 l its.toArray n b its2.toArray n2 hlong (by rw [List.size_toArray]; omega) (by omega)) ⟨e, e2, ?_⟩
  refine ⟨.non, _, I.lset (its' := its ++ its2) hH e (by simp) (r.append r2) ?_, rfl, q⟩
  rw [List.length_append]
  omega
def rPop : V → List V → Hp → VK → Prop := fun x vs H Q => ∃ l xs y, x = .ref l ∧ vs = [] ∧ H l = some (.lst xs) ∧ xs[xs.length - 1]? = some y ∧ Q y (upd H l (.lst xs.dropLast))
theorem mt_pop : MtM X "list.pop" rPop := by
  intro pins s σ H x vs v us Q I rx rv h
  obtain ⟨l, xs, y, rfl, rfl, hH, hy, q⟩ := h
  cases rx
  have hus := rv.zero
  subst hus
  obtain ⟨z, its, n, r, hl, e⟩ := I.lstM hH
  obtain ⟨u, hu, ru⟩ := r.get hy
  have hy' : its.toArray[its.toArray.size - 1]? = some u := by
    show its.toArray[its.length - 1]? = some u
    rw [← Array.getElem?_toList, ← hl]
    exact hu
  refine call_meets F.slot_list_pop ⟨_, e, rfl⟩ F.entry_list_pop (F.args_list_pop_1 _) (MeetsSeq.list_pop_last l its.toArray n u hy' (by rw [List.size_toArray]; omega)) ⟨e, ?_⟩
  refine ⟨y, _, I.lset (its' := its.dropLast) hH e ?_ r.dropLast ?_, ru, q⟩
  · show its.toArray.eraseIdxIfInBounds (its.toArray.size - 1) = its.dropLast.toArray
    rw [List.size_toArray, List.eraseIdxIfInBounds_toArray, erase_last]
  · rw [List.length_dropLast]
    omega
def rCat : R2 := fun x y H Q => ∃ l b xs zs, x = .ref l ∧ y = .ref b ∧ H l = some (.lst xs) ∧ H b = some (.lst zs) ∧ xs.length + zs.length ≤ sizeLine ∧ ∀ p, H p = none → Q (.ref p) (upd H p (.lst (xs ++ zs)))
theorem op_cat : OpR X (binaryOp .Add) rCat := by
  intro pins s σ H x y v u Q I rx ry h
  obtain ⟨l, b, xs, zs, rfl, rfl, hH, hB, hz, q⟩ := h
  cases rx
  cases ry
  obtain ⟨z, its, n, r, hl, e⟩ := I.lstM hH
  obtain ⟨z2, its2, n2, r2, hl2, e2⟩ := I.lstM hB
  refine PySem.P.add_list e e2 ?_ (by rw [List.size_toArray, List.size_toArray]; omega)
  have ea : its.toArray ++ its2.toArray = (its ++ its2).toArray := by simp
  rw [ea]
  exact ⟨.ref _, _, I.lnew (t' := s.toks) (r.append r2) (by rw [List.length_append]; omega), rfl, q _ I.fresh⟩
def rRep : R2 := fun x y H Q => ∃ l k xs, x = .ref l ∧ y = .int k ∧ H l = some (.lst xs) ∧ -(2 ^ 63) ≤ k ∧ k < 2 ^ 63 ∧ xs.length * k.toNat ≤ sizeLine ∧
  ∀ p, H p = none → Q (.ref p) (upd H p (.lst (List.replicate k.toNat xs).flatten))
end
section
variable {prog : Program} {w : World} {A : Around} {E : Value → Shared → Prop} {s : Shared}
end
section
variable {X : Cx}
end
end L2
namespace Att
open PySem PySem.W PySem.Calls PyProof.Rows
theorem ints_of_wellAll {P : Params} {h : Heap} : ∀ (ns : List Int) (vs : List Value), WellAll P h vs (ns.map WData.int) → IntsAre vs ns := by
  intro ns
  induction ns with
  | nil =>
    intro vs w
    rw [List.map_nil] at w
    cases w
    exact .nil
  | cons n ns ih =>
    intro vs w
    rw [List.map_cons] at w
    cases w with
    | cons a b =>
      cases a
      exact .cons _ _ (ih _ b)
theorem script_of {l : OpenLaw} {n : Nat} (hn : l.most = some n) {P : Params} {h : Heap} {args : List WData} {vals : List Value}
    (hpre : l.row.toRowW.claim.pre args = true) (hwl : WellAll P h vals args) :
    ∃ a vs ns, vals = [Value.ref a] ∧ args = [WData.list (ns.map WData.int)] ∧ h.get? a = some { cls := .type "list", data := .seq vs.toArray } ∧ IntsAre vs ns ∧ ns.length ≤ n := by
  have hsh : WShape.hasAll [] args [.list .int] = true := (pre_splitW hpre).1
  have hc : l.pre.holds [] { args := args } = true := (pre_splitW hpre).2
  obtain ⟨d, r, rfl, h1, h2⟩ := hasAllW_cons hsh
  obtain rfl := hasAllW_nil h2
  obtain ⟨xs, rfl, h3⟩ := hasW_list h1
  obtain ⟨ns, rfl⟩ := items_int h3
  have hlen : ns.length ≤ n := by
    unfold OpenLaw.pre at hc
    have h4 : (WTm.not (.lt (.lit (.int (n : Int))) (.len (.arg 0)))).holds [] { args := [.list (ns.map .int)] } = true := by
      have h4 := (holds_andW hc).1
      rw [hn] at h4
      exact h4
    have h5 := condW_of h4 (w_not (w_lt w_lit (w_len_list (w_arg rfl))))
    rw [List.length_map] at h5
    refine Nat.le_of_not_lt fun q => ?_
    have q' : (n : Int) < ((ns.length : Nat) : Int) := by omega
    first
      | (rw [decide_eq_true q'] at h5; exact absurd h5 (by decide))
      | (simp at h5; omega)
  cases hwl with
  | cons w1 w2 =>
    cases w2
    cases w1 with
    | list ho hall => exact ⟨_, _, ns, rfl, rfl, ho, ints_of_wellAll ns _ hall, hlen⟩
theorem post_true (l : OpenLaw) (args : List WData) : l.row.toRowW.claim.post args (.bool true) args = true :=
  postW_of (r := l.row.toRowW) (X := (true == true))
    (show WShape.has [] (.bool true) .bool = true by first | rfl | decide | simp [WShape.has, WShape.arms, WShape.armsAll])
    (show (WTm.eq .res (.lit (.bool true))).value [] { args := args, res := some (.bool true), after := args } = some (.bool (true == true)) from w_eq_bool (w_res rfl) w_lit) rfl
theorem attach_call {l : OpenLaw} {n : Nat} {q : Program} {loose : List Str} {XP : (Str → Option Value) → Heap → Prop} {YP : World → Heap → Prop} {d : DefRec}
    (hn : l.most = some n) (hdf : d.params.defaults = [])
    (call : ∀ (w : World) (s₀ s₁ : Shared) (mg mb : Str → Option Value) (fa : Addr) (o : Obj) (pm cd doc : Value) (a : Addr) (vs : List Value) (ns : List Int),
      Ground q loose [] XP w s₀ mg mb s₁.heap → YP w s₁.heap →
      s₁.heap.get? fa = some o → o.data = .func (docDef d.name d.params d.body d.scope pm cd doc) → s₁.heap.CodeRec cd d.name → mg d.name = some (.ref fa) →
      s₁.heap.get? a = some { cls := .type "list", data := .seq vs.toArray } → IntsAre vs ns → ns.length ≤ n → s₁.gens = #[] →
      codeAny (model l.prog w) callerA (.call (.ref fa) ⟨[.ref a], []⟩) (fun r s' => r = .ok (.ret (.bool true)) ∧ OldK s₁.heap s'.heap ∧ s'.os = s₁.os ∧ AllBare s'.gens) s₁) :
    WalkO q loose XP YP l.row.toRowW d [] (fun f vs => PySem.call f vs) := by
  intro w s₀ s₁ mg mb G Y fa o pm cd doc dV kV ho hd hcd hD hmg hg args vals as hpre hlay hrd hwl hlo
  obtain rfl : dV = .none := Dflts.none hD hdf
  obtain rfl : kV = .none := Dflts.noKw hD
  obtain ⟨a, vs, ns, rfl, rfl, hobj, hints, hlen⟩ := script_of hn hpre hwl
  refine enter_call (codeAny_mono (call w s₀ s₁ mg mb fa o pm cd doc a vs ns G Y ho (fd_plain hd) hcd hmg hobj hints hlen hg) fun r s' hq => ?_)
  obtain ⟨rfl, h2, h3, h4⟩ := hq
  exact ⟨.inl ⟨.bool true, .bool true, [], rfl, fun _ => rfl, .bool true, post_true l _, fun _ => ⟨List.Pairwise.nil, fun _ hm => (nomatch hm)⟩⟩, h2, h3, h4⟩
section
variable {prog : Program} {w : World} {A : Around} {E : Value → Shared → Prop} {s : Shared} {K : Frag}
def ledger (h : Heap) (L d : Addr) : List (Addr × Obj) := (List.range h.objs.size).filterMap fun a => if a = L ∨ a = d then none else (h.get? a).map fun o => (a, o)
end
end Att
namespace L2
open PySem PySem.Spec PyProof.Rows
theorem vals_ints : ∀ {vs : List Value} {ns : List Int}, IntsAre vs ns → Vals (ns.map V.int) vs
  | _, _, .nil => .nil
  | _, _, .cons n t h => .cons ⟨t, rfl⟩ (vals_ints h)
def Only (H : Hp) : Prop := ∀ b, H b = none ∨ ∃ o xs, H b = some (.frz o (.lst xs))
theorem law_call {P : Program} {w : World} {K : PySem.W.Frag} {mg mb : Str → Option Value} {CX : CXT} {k : Nat} {fa a : Addr} {fd : FuncData} {x : Str} {sp : Sp} {s₁ : Shared} {vs : List Value} {ns : List Int}
    (KX : K.In s₁.heap) (hns : s₁.heap.Ns mainGlobals mg) (hb : s₁.heap.Ns builtinsNs mb) (hbb : ∀ x : Str, x ≠ "__name__" → mb x = bootBuiltins x) (hlim : s₁.heap.NoLimit) (hg : s₁.gens = #[])
    (ha : s₁.heap.get? a = some { cls := .type "list", data := .seq vs.toArray }) (hi : IntsAre vs ns) (hl : ns.length ≤ sizeLine) (hr : Room k callerA)
    (F : ∀ base : Heap, K.In base → base.Ns mainGlobals mg → FnOk P w K mg base CX k fa fd [x] sp) (hbind : ∀ (s : Shared) (u : Value), BindsTo s fd ⟨[u], []⟩ [(x, u)])
    (hsp : ∀ H : Hp, Only H → SqL K H a (ns.map V.int) → sp [.ref a] H (fun v _ => v = .bl true) fun _ _ _ => False)
    (hCX : ∀ H e s', CX [] H s₁ (fun _ _ _ => False) e s' → False) :
    codeAny (model P w) callerA (.call (.ref fa) ⟨[.ref a], []⟩) (fun r s' => r = .ok (.ret (.bool true)) ∧ OldK s₁.heap s'.heap ∧ s'.os = s₁.os ∧ AllBare s'.gens) s₁ := by
  have rv := vals_ints hi
  have lenV := hi.length
  have core : ∀ H : Hp, Only H → SqL K H a (ns.map V.int) → HOk P w H s₁.heap → (∀ b, H b ≠ none → b = a) → (H a ≠ none → K.lookup a = none) →
      codeAny (model P w) callerA (.call (.ref fa) ⟨[.ref a], []⟩) (fun r s' => r = .ok (.ret (.bool true)) ∧ OldK s₁.heap s'.heap ∧ s'.os = s₁.os ∧ AllBare s'.gens) s₁ := by
    intro H hO hS hok hA hK
    have base_of : ∀ {b : Addr} {o : Obj}, s₁.heap.get? b = some o → H b = none → (hidT s₁.heap H).get? b = some o := fun e n => hidT_get e n
    have noA : ∀ {b : Addr} {o : Obj} {es : Array DictEntry} {ep : Nat}, s₁.heap.get? b = some o → o.data = .dict es ep → H b = none := fun {b o es ep} e d => by
      cases q : H b with
      | none => rfl
      | some u =>
        have e' : b = a := hA b (by rw [q]; simp)
        subst e'
        rw [ha] at e; cases e
        have d' : Data.seq vs.toArray _ = Data.dict es ep := d
        cases d'
    have nsK : ∀ {b : Addr} {m : Str → Option Value}, s₁.heap.Ns b m → (hidT s₁.heap H).Ns b m := fun {b m} ⟨o, es, ep, e, d, r⟩ => ⟨o, es, ep, base_of e (noA e d), d, r⟩
    have hKb : K.In (hidT s₁.heap H) := fun b o e => base_of (KX b o e) (by
      cases q : H b with
      | none => rfl
      | some u =>
        have e' : b = a := hA b (by rw [q]; simp)
        subst e'
        rw [hK (by rw [q]; simp)] at e; cases e)
    have hM : Mod K mg (hidT s₁.heap H) := ⟨hKb, nsK hns, ⟨mb, nsK hb, hbb⟩, let ⟨mc, h1, h2⟩ := hlim; ⟨mc, nsK h1, h2⟩⟩
    have e0 : Env0 P w K mg (hidT s₁.heap H) callerA [] s₁ H := ⟨rfl, hM, fun b o e => of_hidT e, Nat.le_of_eq (hidT_size _ _), trivial, fun b hb => absurd (show b ∈ ([] : List Addr) from hb) (by simp), hok, .of_eq hg⟩
    refine codeAny_mono ((F _ hKb (nsK hns)).run callerA [] s₁ H ⟨[.ref a], []⟩ [.ref a] [.ref a] _ _ hr e0 (hbind s₁ (.ref a)) (.cons rfl .nil) (hsp H hO hS)) fun r s' h => ?_
    cases r with
    | error e => exact (hCX H e s' h).elim
    | ok fl =>
      cases fl with
      | next => exact False.elim h
      | brk => exact False.elim h
      | cont => exact False.elim h
      | ret u =>
        obtain ⟨v, H', os, bare, un, hok', r', q⟩ := h
        have q' : v = .bl true := q
        subst q'
        obtain rfl : u = Value.bool true := r'
        refine ⟨rfl, OldK.of_keep fun b o e => ?_, os, bare⟩
        cases q : H b with
        | none => exact un.keep b o e q (by intro z; exact absurd (show b ∈ ([] : List Addr) from z) (by simp)) (by simp)
        | some u =>
          rcases hO b with z | ⟨ob, xs, z⟩
          · rw [q] at z; cases z
          · have z2 := un.frzs b ob _ z
            obtain ⟨e1, _⟩ := hok b _ z
            obtain ⟨e2, _⟩ := hok' b _ z2
            rw [e] at e1; cases e1
            exact e2
  cases hk : K.lookup a with
  | some o =>
    have e := KX a o hk
    rw [ha] at e
    cases e
    refine core (fun _ => none) (fun _ => .inl rfl) (.inr ⟨_, vs.toArray, _, hk, rfl, rfl, rfl, by rw [List.size_toArray, lenV]; exact hl, by simpa using rv⟩) (fun b u z => by have z' : (none : Option HO) = some u := z; cases z') (fun b z => absurd rfl z) fun z => absurd rfl z
  | none =>
    refine core (fun b => if b = a then some (.frz { cls := .type "list", data := .seq vs.toArray } (.lst (ns.map V.int))) else none) (fun b => ?_) (.inl (.inr ⟨{ cls := .type "list", data := .seq vs.toArray }, if_pos rfl⟩)) (fun b u z => ?_) (fun b z => ?_) fun _ => hk
    · by_cases hb : b = a
      · exact .inr ⟨_, _, if_pos hb⟩
      · exact .inl (if_neg hb)
    · by_cases hb : b = a
      · have z' := (if_pos hb).symm.trans z
        cases z'
        subst hb
        exact ⟨ha, by rw [List.length_map]; exact hl, vs, _, rv, ha⟩
      · have z' := (if_neg hb).symm.trans z
        cases z'
    · by_cases hb : b = a
      · exact hb
      · exact absurd (if_neg hb) z
end L2
namespace L2
open PySem PySem.Spec PyProof.Rows
abbrev KOf {K : PySem.W.Frag} {h : Heap} (_ : K.In h) : PySem.W.Frag := K
theorem walk_of {l : PySem.W.OpenLaw} {n k : Nat} {q : Program} {loose : List Str} {XP : (Str → Option Value) → Heap → Prop} {YP : World → Heap → Prop} {d : DefRec} {K : Params → PySem.W.Frag} {CX : World → CXT} {sp : World → Sp} {x : Str}
    (hn : l.most = some n) (hn2 : n ≤ sizeLine) (hdf : d.params.defaults = []) (hr : Room k callerA)
    (hY : ∀ (w : World) (h : Heap), YP w h → (K w.params).In h)
    (F : ∀ (w : World) (mg : Str → Option Value) (fa : Addr) (h : Heap), (K w.params).In h → h.Ns mainGlobals mg → mg d.name = some (.ref fa) →
      ∃ fd : FuncData, (∀ (s : Shared) (u : Value), BindsTo s fd ⟨[u], []⟩ [(x, u)]) ∧
        ∀ base : Heap, (K w.params).In base → base.Ns mainGlobals mg → FnOk l.prog w (K w.params) mg base (CX w) k fa fd [x] (sp w))
    (hsp : ∀ (w : World) (H : Hp) (a : Addr) (ns : List Int), ns.length ≤ n → Only H → SqL (K w.params) H a (ns.map V.int) → sp w [.ref a] H (fun v _ => v = .bl true) fun _ _ _ => False)
    (hCX : ∀ (w : World) (H : Hp) (s : Shared) (e : Value) (s' : Shared), CX w [] H s (fun _ _ _ => False) e s' → False) :
    PySem.W.WalkO q loose XP YP l.row.toRowW d [] (fun f vs => PySem.call f vs) := by
  refine Att.attach_call hn hdf fun w s₀ s₁ mg mb fa o pm cd doc a vs ns G Y ho hd hcd hmg hobj hints hlen hg => ?_
  have KX := hY w _ Y
  obtain ⟨fd, hb, hF⟩ := F w mg fa _ KX G.T.g hmg
  exact law_call KX G.T.g G.T.b G.T.builtins G.T.nolimit hg hobj hints (Nat.le_trans hlen hn2) hr hF hb (fun H hO hS => hsp w H a ns hlen hO hS) fun H e s' => hCX w H s₁ e s'
end L2
namespace L2
open PySem PySem.Spec PyProof.Rows
def inClass (s : Stmt) (j : Nat) : Stmt := match s with
  | .ClassDef _ _ _ body _ _ _ _ _ _ _ => body.getD j (.Pass ⟨0, 0, 0, 0⟩)
  | _ => .Pass ⟨0, 0, 0, 0⟩
def defArgs (s : Stmt) : Arguments := match s with
  | .FunctionDef _ a _ _ _ _ _ _ _ _ => a
  | _ => { posonlyargs := [], args := [], vararg := none, kwonlyargs := [], kw_defaults := [], kwarg := none, defaults := [] }
def defBody (s : Stmt) : List Stmt := match s with
  | .FunctionDef _ _ b _ _ _ _ _ _ _ => b
  | _ => []
def defScope (s : Stmt) : Scope := match s with
  | .FunctionDef _ _ _ _ _ _ sc _ _ _ => sc
  | _ => { kind := .function, names := [], isGenerator := false, isCoroutine := false }
abbrev CX0 : CXT := fun _ _ _ _ _ _ => False
abbrev E0 : XK := fun _ _ _ => False
theorem pass0 {X : Cx} : Passes CX0 X E0 := fun _ _ _ _ _ _ _ h => h.elim
structure Fun (K : PySem.W.Frag) (x qual : Str) (st : Stmt) (f : Addr) (fd : FuncData) : Prop where
  ex : ∃ (oc : Value) (od : Option Addr) (kV doc pm : Value) (an : Option Addr) (cdv ct : Value) (osl : Array (Option Value)),
    fd = PySem.W.fnOf x qual (defArgs st) (defBody st) (defScope st) .none kV doc pm an cdv ct ∧ K.lookup f = some ⟨oc, od, .func fd, osl⟩ ∧ PySem.W.codeIn K cdv qual = true
  kp : PySem.W.keepIn K (.ref f) = true
section
variable {P : Program} {w : World} {K : PySem.W.Frag} {mg : Str → Option Value} {base : Heap}
theorem Fun.ok {x qual : Str} {st : Stmt} {f : Addr} {fd : FuncData} {N ps : List Str} {k : Nat} {sp : Sp} (F : Fun K x qual st f fd) (S : FnScope N ps (defScope st)) (len : ∀ vs H Q E, sp vs H Q E → vs.length = ps.length)
    (hbody : ∀ (cdv : Value) (A : Around) (outer : List Env) (s : Shared) (H : Hp) (vs : List V) (Q : VK) (E : XK), Room k (A.deeper (envOfC qual (defScope st) s.heap.objs.size f cdv)) → sp vs H Q E →
      ∃ t, PSs (cxOf CX0 P w K mg base N qual (defScope st) f cdv A outer s H E).nox (defBody st) t ∧ t { nx := fun _ H' => Q .non H', rt := Q } (start N vs) H) : FnOk P w K mg base CX0 (k + 1) f fd ps sp := by
  obtain ⟨oc, od, kV, doc, pm, an, cdv, ct, osl, rfl, lk, hcd⟩ := F.ex
  refine fn_of lk hcd S len fun A outer s H vs Q E hr hsp => ?_
  obtain ⟨t, h, q⟩ := hbody cdv A outer s H vs Q E hr hsp
  exact ⟨t, h.nox, q⟩
theorem Fun.binds {x qual : Str} {st : Stmt} {f : Addr} {fd : FuncData} {ps : List Str} (F : Fun K x qual st f fd)
    (h : ∀ (kV doc pm : Value) (an : Option Addr) (cdv ct : Value) (us : List Value), us.length = ps.length → bindArgs (PySem.W.fnOf x qual (defArgs st) (defBody st) (defScope st) .none kV doc pm an cdv ct) ⟨us, []⟩ = pure (ps.zip us)) : Binds K fd ps [] := by
  obtain ⟨oc, od, kV, doc, pm, an, cdv, ct, osl, rfl, lk, hcd⟩ := F.ex
  exact .all (h kV doc pm an cdv ct)
theorem fun_mk {x qual : Str} {st : Stmt} {f : Addr} {oc : Value} {od an : Option Addr} {osl : Array (Option Value)} {kV doc pm cdv ct : Value} (l : K.lookup f = some ⟨oc, od, .func (PySem.W.fnOf x qual (defArgs st) (defBody st) (defScope st) .none kV doc pm an cdv ct), osl⟩)
    (c : PySem.W.codeIn K cdv qual = true) (k : PySem.W.keepIn K (.ref f) = true) : Fun K x qual st f (PySem.W.fnOf x qual (defArgs st) (defBody st) (defScope st) .none kV doc pm an cdv ct) := ⟨⟨oc, od, kV, doc, pm, an, cdv, ct, osl, rfl, l, c⟩, k⟩
end
theorem small1000 {n : Nat} (h : n ≤ 1000) : n < sizeLine := Nat.lt_of_le_of_lt h (by decide)
section
variable {X : Cx}
theorem pv (i : Nat) {x : Str} {pos : Pos} (hN : X.N[i]? = some x := by rfl) (hv : Vis X.env.scope x := by first | exact Or.inl rfl | exact Or.inr (Or.inl rfl) | exact Or.inr (Or.inr rfl)) (hd : (x == ("__debug__" : Str)) = false := by decide)
    (hcd : (x == ("__classdict__" : Str)) = false := by decide) : PE X (.Name x pos) (tVar i) := pe_var hN hv hd hcd
end
theorem iteF {A B : Prop} (h : B) : if false = true then A else B := by
  rw [if_neg Bool.false_ne_true]
  exact h
theorem iteT {A B : Prop} (h : A) : if true = true then A else B := by
  rw [if_pos rfl]
  exact h
theorem ite2 {c A B : Prop} [Decidable c] (h1 : c → A) (h2 : ¬ c → B) : if c then A else B := by
  by_cases h : c
  · rw [if_pos h]
    exact h1 h
  · rw [if_neg h]
    exact h2 h
theorem iteNS {c A B : Prop} [Decidable c] (hc : c) (h : B) : if (!decide c) = true then A else B := by
  rw [decide_eq_true hc]
  exact iteF h
def Same (H H' : Hp) : Prop := ∀ b o, H b = some o → H' b = some o
theorem Same.refl (H : Hp) : Same H H := fun _ _ h => h
theorem Same.trans {H H1 H2 : Hp} (a : Same H H1) (b : Same H1 H2) : Same H H2 := fun c o h => b c o (a c o h)
theorem Same.seq {K : PySem.W.Frag} {H H' : Hp} {a : Addr} {xs : List V} (e : Same H H') (h : SqL K H a xs) : SqL K H' a xs := by
  rcases h with (h | ⟨o, h⟩) | h
  · exact .inl (.inl (e _ _ h))
  · exact .inl (.inr ⟨o, e _ _ h⟩)
  · exact .inr h
end L2
set_option Elab.async false
set_option linter.all false
set_option maxRecDepth 100000
namespace L2
open PySem PySem.Spec PyProof.Rows
section
variable {prog : Program} {w : World} {A : Around} {R : Result → Shared → Prop} {s : Shared}
abbrev testsOf (cs : List Expr) (en : Env) : Sem Bool :=
  forIn cs true fun c r => if r = true then do let ok ← isTrue c en (eval c en); pure (ForInStep.yield ok) else pure (ForInStep.yield r)
theorem comp_turns {elt tg iter : Expr} {cs : List Expr} {scope : Scope} {pos : Pos} {it acc : Value} {en : Env} {EE : Value → Shared → Prop} (hE : EE = notedBy (model prog w) A en fun e s' => R (.error e) s') (J : Nat → Shared → Prop)
    (turn : ∀ n s, J n s → wpAny (model prog w) A (pyNext it) (fun r s1 => match r with
      | none => R (.ok .next) s1
      | some v => wpAny (model prog w) A (letOwnedTupleGo tg it v) (fun _ sg => wpAny (model prog w) A (assign tg en v) (fun _ s2 => wpAny (model prog w) A (testsOf cs en) (fun ok s3 =>
          if ok = true then wpAny (model prog w) A (eval elt en) (fun y s4 => wpAny (model prog w) A (call (.builtin "list.append") [acc, y]) (fun _ s5 => ∃ m, m < n ∧ J m s5) EE s4) EE s3
          else ∃ m, m < n ∧ J m s3) EE s2) EE sg) EE s1) EE s)
    (n : Nat) (h : J n s) : codeAny (model prog w) A (.compLoop (.ListComp elt [⟨tg, iter, cs, 0⟩] scope pos) 0 it acc en) R s := by
  subst hE
  refine codeAny_loop rfl J (fun n s hJ => ?_) n h
  show wpAny _ A (Sem.onRaise (compTurn (.ListComp elt [⟨tg, iter, cs, 0⟩] scope pos) 0 it acc en) (fun x => do noteFrame x en; theTreesLotGoes x)) _ _ s
  refine wpAny_noted ?_
  rw [compTurn_list]
  refine wpAny_bind (wpAny_standAt (wpAny_bind (thn (turn n s hJ) fun r s1 q1 => ?_)))
  cases r with
  | none => exact wpAny_pure q1
  | some v =>
    refine wpAny_bind (thn q1 fun _ sg qg => wpAny_bind (thn qg fun _ s2 q2 => wpAny_bind (thn q2 fun ok s3 q3 => ?_)))
    cases ok with
    | false => exact wpAny_pure ⟨rfl, q3⟩
    | true => exact wpAny_bind (wpAny_bind (thn q3 fun y s4 q4 => wpAny_bind (thn q4 fun _ s5 q5 => wpAny_pure (wpAny_pure ⟨rfl, q5⟩))))
end
def PTs (X : Cx) (cs : List Expr) (t : TT) : Prop :=
  ∀ (pins : List (Addr × Obj)) (s : Shared) (σ : St) (H : Hp) (Q : Bool → Hp → Prop), Inv X pins σ H s → t σ H Q → wpAny (model X.prog X.w) X.A (testsOf cs X.env) (TP X pins σ Q) X.xe s
def tTrue : TT := fun _ H Q => Q true H
theorem pts_nil {X : Cx} : PTs X [] tTrue := fun _ _ _ H _ I h => wpAny_tests_nil ⟨H, I, h⟩
theorem pts_one {X : Cx} {c : Expr} {t : TT} (h : PT X c t) : PTs X [c] t := fun pins s σ H Q I q => wpAny_tests_one (h pins s σ H Q I q)
theorem closure_list {en : Env} : ∀ (names : List (Str × NameKind)) (acc : List (Str × Addr)), (∀ y, (y, NameKind.free) ∈ names → ∃ c, en.cells.lookup y = some c) →
    (∀ y c, acc.lookup y = some c → en.cells.lookup y = some c) →
    ∃ cl, (forIn (m := Sem) names acc fun p cs => if (p.2 == .free) = true then (do let a ← cellOf en p.1; pure (ForInStep.yield ((p.1, a) :: cs))) else pure (ForInStep.yield cs)) = pure cl ∧
      (∀ y c, cl.lookup y = some c → en.cells.lookup y = some c) ∧ (∀ y, ((y, NameKind.free) ∈ names ∨ ∃ c, acc.lookup y = some c) → ∃ c, cl.lookup y = some c)
  | [], acc, _, h2 => ⟨acc, rfl, h2, fun y h => h.elim (fun z => by simp at z) id⟩
  | (n, k) :: r, acc, h1, h2 => by
    by_cases hk : k = .free
    · subst hk
      obtain ⟨c, hc⟩ := h1 n (by simp)
      obtain ⟨cl, e, a, b⟩ := closure_list r ((n, c) :: acc) (fun y hy => h1 y (List.mem_cons_of_mem _ hy)) (fun y d hd => by
        rw [List.lookup_cons] at hd
        by_cases hy : y = n
        · subst hy; simp at hd; subst hd; exact hc
        · have : (y == n) = false := by simpa using hy
          rw [this] at hd; exact h2 y d hd)
      refine ⟨cl, ?_, a, fun y hy => b y ?_⟩
      · rw [List.forIn_cons]
        have e1 : cellOf en n = pure c := by unfold cellOf; rw [hc]
        simp only [beq_self_eq_true, if_true, e1, pure_bind]
        exact e
      · rcases hy with hy | ⟨d, hd⟩
        · rcases List.mem_cons.mp hy with z | z
          · cases z; exact .inr ⟨c, by simp⟩
          · exact .inl z
        · by_cases hy : y = n
          · subst hy; exact .inr ⟨c, by simp⟩
          · have : (y == n) = false := by simpa using hy
            exact .inr ⟨d, by rw [List.lookup_cons, this]; exact hd⟩
    · have hb : (k == NameKind.free) = false := by simpa using hk
      obtain ⟨cl, e, a, b⟩ := closure_list r acc (fun y hy => h1 y (List.mem_cons_of_mem _ hy)) h2
      refine ⟨cl, ?_, a, fun y hy => b y ?_⟩
      · rw [List.forIn_cons]
        simp only [hb, Bool.false_eq_true, if_false, pure_bind]
        exact e
      · rcases hy with hy | hy
        · rcases List.mem_cons.mp hy with z | z
          · cases z; exact absurd rfl hk
          · exact .inl z
        · exact .inr hy
theorem closure_of {scope : Scope} {en : Env} (h1 : ∀ y, (y, NameKind.free) ∈ scope.names → ∃ c, en.cells.lookup y = some c) :
    ∃ cl, closureFor scope en = pure cl ∧ (∀ y c, cl.lookup y = some c → en.cells.lookup y = some c) ∧ (∀ y, (y, NameKind.free) ∈ scope.names → ∃ c, cl.lookup y = some c) := by
  obtain ⟨cl, e, a, b⟩ := closure_list (en := en) scope.names [] h1 (fun y c h => by simp at h)
  refine ⟨cl, ?_, a, fun y hy => b y (.inl hy)⟩
  have q := congrArg (fun t : Sem (List (Str × Addr)) => t >>= fun c => pure c) e
  exact q
end L2
set_option Elab.async false
set_option linter.all false
set_option maxRecDepth 100000
namespace L2
open PySem PySem.Spec PyProof.Rows
def xeC (X : Cx) (en : Env) (C : Addr) : Value → Shared → Prop :=
  notedBy (model X.prog X.w) X.A en fun e s' => compPost (model X.prog X.w) X.A X.xe none (fun _ _ => False) Value.none C (.error e) s'
def cxC (X : Cx) (scope : Scope) (cl : List (Str × Addr)) (C : Addr) (s0 : Shared) (H0 : Hp) (fp : List Addr) (N : List Str) : Cx where
  prog := X.prog
  w := X.w
  K := X.K
  mg := X.mg
  base := X.base
  A := X.A
  N := N
  s₀ := s0
  H₀ := H0
  env := compEnvC scope cl C X.env
  outer := X.stack
  stack := X.stack
  ex := fp
  fn := fun _ => false
  calm := X.calm
  pn := []
  xe := xeC X (compEnvC scope cl C X.env) C
structure CompScope (scope : Scope) (en : Env) (N M : List Str) : Prop where
  kind : scope.kind = .function
  nocell : ∀ y ∈ scope.names, y.2 ≠ .cell
  locs : ∀ y ∈ scope.names, y.2 = .local → scope.names.lookup y.1 = some .local
  free : ∀ y, (y, NameKind.free) ∈ scope.names → en.kindOf y = some .cell ∨ en.kindOf y = some .free
  len : M.length = N.length
  same : ∀ (j : Nat) (y : Str), M[j]? = some y → Vis (relabel scope en) y → N[j]? = some y ∧ (y, NameKind.free) ∈ scope.names ∧ (relabel scope en).names.lookup y ≠ some .local
  relab : ∀ y, ((relabel scope en).names.lookup y = some .cell ∨ (relabel scope en).names.lookup y = some .free) → (y, NameKind.free) ∈ scope.names
def tComp (k : Nat) (wi : TI) (g : TG) (tc : TT) (te : TE) : TE := fun σ H Q => wi σ H fun J H1 => ∀ d, H1 d = none → ∃ W : Nat → Nat → Hp → Prop, (∃ m, W 0 m (upd H1 d (.lst []))) ∧ ∀ i m H, W i m H →
  (J.stop i H ∧ Q (.ref d) H) ∨ (J.go i H ∧ ∃ N : Hp → Prop, (∀ H', N H' → ∃ m', m' < m ∧ W (i + 1) m' H') ∧ ∀ x H', J.yld i H x H' → g x (List.replicate k none ++ σ) H' fun σ2 H2 =>
    tc σ2 H2 fun b H3 => if b = true then te σ2 H3 fun y H4 => ∃ ys, H4 d = some (.lst ys) ∧ ys.length < sizeLine ∧ N (upd H4 d (.lst (ys ++ [y]))) else N H3)
structure Gone (X : Cx) (pins : List (Addr × Obj)) (H : Hp) (C : Addr) : Prop where
  no : H C = none
  ne : C ≠ X.env.locals
  yg : X.s₀.heap.objs.size ≤ C
  cl : ∀ x c, X.env.cells.lookup x = some c → c ≠ C
  pn : ∀ p ∈ X.pn ++ pins, p.1 ≠ C
theorem Inv.gone {X : Cx} {pins : List (Addr × Obj)} {σ : St} {H : Hp} {s : Shared} {C : Addr} {h' : Heap} (I : Inv X pins σ H s) (g : Gone X pins H C) (hs : Heap.SameBut C s.heap h') : Inv X pins σ H { s with heap := h' } :=
  I.turned (t' := s.toks) (it := C) (fun b o hb e => hs.extBut b o hb e) g.no g.ne (.inr g.yg) g.cl g.pn
structure Back (X Y : Cx) (pins : List (Addr × Obj)) (σ : St) (fp : List Addr) (C : Addr) (s3 : Shared) (H3 : Hp) : Prop where
  i0 : Inv X pins σ H3 s3
  fp : ∀ b ∈ fp, (b ∈ X.ex ∨ X.s₀.heap.objs.size ≤ b) ∧ b ≠ X.env.locals ∧ (∀ x c, X.env.cells.lookup x = some c → c ≠ b) ∧ ∀ p ∈ X.pn ++ pins, p.1 ≠ b
  inv : ∀ (pins' : List (Addr × Obj)) (σ' : St) (H' : Hp) (s' : Shared), Inv Y pins' σ' H' s' → Inv X pins σ H' s' ∧ Gone X pins H' C
theorem comp_run {X : Cx} {elt tg iter : Expr} {cs : List Expr} {scope : Scope} {pos : Pos} {wi : TI} {g : TG} {tc : TT} {te : TE} {xs M : List Str} {use : Option (Value → Sem Unit)} {RR : Value → Shared → Prop} (hc : X.calm = true) (S : CompScope scope X.env X.N M) (hi : PI X tg iter wi)
    (hin : ∀ (cl : List (Str × Addr)) (C : Addr) (s0 : Shared) (H0 : Hp) (fp : List Addr) (pins : List (Addr × Obj)) (σ : St), Back X (cxC X scope cl C s0 H0 fp (xs ++ M)) pins σ fp C s0 H0 → PG (cxC X scope cl C s0 H0 fp (xs ++ M)) tg g ∧ PTs (cxC X scope cl C s0 H0 fp (xs ++ M)) cs tc ∧ PE (cxC X scope cl C s0 H0 fp (xs ++ M)) elt te)
    (hg : ∀ v σ H Q, g v (List.replicate xs.length none ++ σ) H Q → g v (List.replicate xs.length none ++ σ) H fun σ2 H2 => (∃ l : St, l.length = xs.length ∧ σ2 = l ++ σ) ∧ Q σ2 H2)
    (hs : ∀ x, foldedSetIterable iter X.env x = pure x) (pins : List (Addr × Obj)) (s : Shared) (σ : St) (H : Hp) (Q : VK) (I : Inv X pins σ H s) (h : tComp xs.length wi g tc te σ H Q)
    (fin : ∀ (d C : Addr) (s6 : Shared) (H6 : Hp) (m : Str → Option Value), Q (.ref d) H6 → Inv X pins σ H6 s6 → s6.heap.Ns C m → Gone X pins H6 C → compPost (model X.prog X.w) X.A X.xe use RR (.ref d) C (.ok .next) s6) :
    wpAny (model X.prog X.w) X.A (comprehension (.ListComp elt [⟨tg, iter, cs, 0⟩] scope pos) scope X.env (firstIterPos [⟨tg, iter, cs, 0⟩] pos) (newList []) false (eval iter X.env) use) RR X.xe s := by
  obtain ⟨cl, hcl, cl1, cl2⟩ := closure_of (scope := scope) (en := X.env) fun y hy => I.ok.has y (S.free y hy)
  refine wpAny_comprehension_free (use := use) rfl hs hcl S.kind S.locs (thn (hi pins s σ H _ I h) fun v s1 h1 => thn h1 fun itv s2 h2 => ?_)
  obtain ⟨it, fp, tn, J, H2, e, I2, T, st2, f2, h3⟩ := h2
  subst e
  have hf : H2 s2.heap.objs.size = none := I2.fresh
  obtain ⟨W, ⟨m0, w0⟩, turn⟩ := h3 _ hf
  refine wpAny_newObj_type (wpAny_newFunctionEnv S.nocell (by intro y hy; simp at hy) (fun h4 hns hsb => ?_) S.kind)
  have I3 : Inv X pins σ (upd H2 s2.heap.objs.size (.lst [])) { s2 with heap := s2.heap.push { cls := .type "list", data := .seq ([] : List Value).toArray } } := I2.lnew (ys := []) (its := []) (t' := s2.toks) .nil (Nat.zero_le _)
  generalize hs3 : ({ s2 with heap := s2.heap.push { cls := .type "list", data := .seq ([] : List Value).toArray } } : Shared) = s3 at I3
  generalize hH3 : upd H2 s2.heap.objs.size (.lst []) = H3 at I3 w0
  have e3 : s2.heap.push { cls := .type "list", dict := none, data := .seq ([] : List Value).toArray } = s3.heap := by rw [← hs3]
  dsimp only at hns hsb ⊢
  rw [e3] at hns hsb
  have old : ∀ b o, s3.heap.get? b = some o → h4.get? b = some o := fun b o e => hsb.extBut b o (Nat.ne_of_lt (Heap.lt_size e)) (Heap.get?_push_of_some _ e)
  have keep2 : ∀ b o, s2.heap.get? b = some o → s3.heap.get? b = some o := fun b o e => by rw [← e3]; exact Heap.get?_push_of_some _ e
  have lt3 : ∀ b ∈ fp, b < s3.heap.objs.size := fun b hb => by
    obtain ⟨o, e, _⟩ := T.obj _ _ st2 b hb
    exact Heap.lt_size (keep2 b o e)
  have n3 : ∀ b ∈ fp, H3 b = none := fun b hb => by
    obtain ⟨o, e, _⟩ := T.obj _ _ st2 b hb
    rw [← hH3, upd_ne (Nat.ne_of_lt (Heap.lt_size e))]
    exact (f2 b hb).1
  have st4 : tn 0 h4 := T.keep _ _ _ st2 fun b _ o e => old b o (keep2 b o e)
  let Y : Cx := cxC X scope cl s3.heap.objs.size s3 H3 fp (xs ++ M)
  have relab : ∀ y, ((relabel scope X.env).names.lookup y = some .cell ∨ (relabel scope X.env).names.lookup y = some .free) → ∃ c, cl.lookup y = some c := fun y hy => cl2 y (S.relab y hy)
  have Yok : Y.Ok := by
    refine ⟨I3.ok.mod, S.kind, I3.ok.glob, I3.ok.blt, Nat.le_refl _, fun y z c h1 h2 => I3.ok.inj y z c (cl1 y c h1) (cl1 z c h2), fun y hy => relab y hy, fun _ _ h _ => absurd (show false = true from h) (by decide), I3.ok.hd, I3.ok.frames, .inl rfl,
      fun b hb => ⟨Nat.ne_of_lt (lt3 b hb), fun y c e => (f2 b hb).2.2.2.2.1 y c (cl1 y c e)⟩, I3.bs, Nat.le_trans I3.ok.bsz I3.sz, fun b o e hb => ?_, fun b hb z => ?_, I3.stack, I3.stkFree⟩
    · rcases (f2 b hb).2.2.2.1 with z | z
      · exact I3.ok.noex b o e z
      · exact absurd (Nat.lt_of_lt_of_le (Heap.lt_size e) (Nat.le_trans I3.ok.bsz z)) (Nat.lt_irrefl _)
    · rcases List.mem_cons.mp (I3.stkSub b z) with z | z
      · exact (f2 b hb).2.1 z
      · exact (f2 b hb).2.2.1 z
  have cells4 : ∀ y c, cl.lookup y = some c → ∀ v, s3.heap.IsCell c v → h4.IsCell c v := fun y c _ v ⟨o, ho, hd⟩ => ⟨o, old c o ho, hd⟩
  have IY : ∀ t', Inv Y [] (List.replicate xs.length none ++ σ) H3 { s3 with heap := h4, toks := t' } := fun t' => by
    refine ⟨Yok, rfl, I3.bare, Un.kept old, ⟨_, hns, fun i y v e1 e2 e3 => ?_⟩, fun y c e => ?_, I3.hok.fresh (Nat.le_refl _), fun y c e => I3.freeC y c (cl1 y c e), fun p hp => absurd (show p ∈ ([] : List (Addr × Obj)) from hp) (by simp), I3.hok.kept old, ?_⟩
    · by_cases hi : i < xs.length
      · rw [List.getElem?_append_left (by simpa using hi), List.getElem?_replicate] at e2
        split at e2 <;> cases e2
      · obtain ⟨j, rfl⟩ : ∃ j, i = xs.length + j := ⟨i - xs.length, by omega⟩
        have e1' : M[j]? = some y := by
          have q : (xs ++ M)[xs.length + j]? = some y := e1
          rw [List.getElem?_append_right (Nat.le_add_right _ _)] at q
          simpa using q
        have e2' : σ[j]? = some (some v) := by
          rw [List.getElem?_append_right (by simp)] at e2
          simpa using e2
        obtain ⟨a1, a2, a3⟩ := S.same j y e1' e3
        have vis : Vis X.env.scope y := by
          rcases S.free y a2 with z | z
          · exact .inr (.inl z)
          · exact .inr (.inr z)
        obtain ⟨m, _, hl⟩ := I3.loc
        obtain ⟨u, r, l⟩ := hl j y v a1 e2' vis
        refine ⟨u, r, ?_⟩
        have kk : Y.env.kindOf y = some .cell ∨ Y.env.kindOf y = some .free := by
          rcases e3 with z | z | z
          · exact absurd z a3
          · exact .inl z
          · exact .inr z
        rcases l with ⟨k1, _⟩ | ⟨_, c, ec, ic⟩
        · rcases S.free y a2 with z | z
          · rw [z] at k1; cases k1
          · rw [z] at k1; cases k1
        · obtain ⟨c', ec'⟩ := cl2 y a2
          have := cl1 y c' ec'
          rw [ec] at this
          cases this
          exact .inr ⟨kk, c, ec', cells4 y c ec' _ ic⟩
    · obtain ⟨v, z⟩ := I3.cell y c (cl1 y c e)
      exact ⟨v, cells4 y c e v z⟩
    · show (List.replicate xs.length none ++ σ).length = (xs ++ M).length
      rw [List.length_append, List.length_append, List.length_replicate, S.len, I3.len]
  have stat : ∀ {pl : List (Addr × Obj)} {H' : Hp}, (∀ p ∈ pl, p.1 ∉ fp) → (∀ b ∈ fp, H' b = none) → ∀ b ∈ fp, FpOk Y pl H' b := fun hp hn b hb =>
    ⟨hn b hb, Nat.ne_of_lt (lt3 b hb), Yok.exfs b hb, .inl hb, fun y c e => (f2 b hb).2.2.2.2.1 y c (cl1 y c e), fun p hp' z => hp p (by simpa [Y, cxC] using hp') (z ▸ hb)⟩
  have bk : Back X Y pins σ fp s3.heap.objs.size s3 H3 := by
    refine ⟨I3, fun b hb => ⟨(f2 b hb).2.2.2.1, (f2 b hb).2.1, (f2 b hb).2.2.2.2.1, (f2 b hb).2.2.2.2.2⟩, fun pins' σ' H' s' J => ⟨?_, ?_⟩⟩
    · exact I3.call' (ch := fp) J.os J.base J.hok J.bare fun b hb => ⟨(f2 b hb).2.2.2.1, (f2 b hb).2.1, (f2 b hb).2.2.2.2.1, (f2 b hb).2.2.2.2.2⟩
    · refine ⟨J.free, Nat.ne_of_gt I3.lt, I3.sz, fun y c e z => ?_, fun p hp z => ?_⟩
      · obtain ⟨v, q⟩ := I3.cell y c e
        have := q.lt
        rw [z] at this
        exact Nat.lt_irrefl _ this
      · have := Heap.lt_size (I3.pin p hp).1
        rw [z] at this
        exact Nat.lt_irrefl _ this
  obtain ⟨hG, hT, hE⟩ := hin cl s3.heap.objs.size s3 H3 fp pins σ bk
  have loop : ∀ t', codeAny (model X.prog X.w) X.A (.compLoop (.ListComp elt [⟨tg, iter, cs, 0⟩] scope pos) 0 (.ref it) (.ref s2.heap.objs.size) Y.env) (compPost (model X.prog X.w) X.A X.xe use RR (.ref s2.heap.objs.size) s3.heap.objs.size) { s3 with heap := h4, toks := t' } := by
    intro t'
    refine comp_turns (EE := Y.xe) (by cases use <;> rfl) (fun n s' => ∃ i H', Inv Y [] (List.replicate xs.length none ++ σ) H' s' ∧ tn i s'.heap ∧ (∀ b ∈ fp, H' b = none) ∧ W i n H') ?_ m0 ⟨0, H3, IY t', st4, n3, w0⟩
    rintro n s5 ⟨i, H5, I5, st5, fr5, w5⟩
    rcases turn i n H5 w5 with ⟨stop, qn⟩ | ⟨go, N, hN, step⟩
    · refine thn (T.done Y rfl rfl rfl hc i [] s5 (List.replicate xs.length none ++ σ) H5 _ I5 (stat (by simp) fr5) st5 stop) fun r s6 ⟨hr, I6⟩ => ?_
      subst hr
      obtain ⟨m6, hn6, _⟩ := I6.loc
      have I8 : Inv X pins σ H5 s6 := I3.call' (ch := fp) I6.os I6.base I6.hok I6.bare fun b hb => ⟨(f2 b hb).2.2.2.1, (f2 b hb).2.1, (f2 b hb).2.2.2.2.1, (f2 b hb).2.2.2.2.2⟩
      have lt8 : X.env.locals < s3.heap.objs.size := I3.lt
      refine fin _ _ s6 H5 m6 qn I8 hn6 ⟨I6.free, Nat.ne_of_gt lt8, I3.sz, fun y c e z => ?_, fun p hp z => ?_⟩
      · obtain ⟨v, q⟩ := I3.cell y c e
        have := q.lt
        rw [z] at this
        exact Nat.lt_irrefl _ this
      · have := Heap.lt_size (I3.pin p hp).1
        rw [z] at this
        exact Nat.lt_irrefl _ this
    · refine thn (T.item Y rfl rfl rfl hc i [] s5 (List.replicate xs.length none ++ σ) H5 _ I5 (stat (by simp) fr5) st5 go) fun r s6 ⟨u, hr, h6⟩ => ?_
      subst hr
      refine thn h6 fun _ s7 ⟨x7, H7, I7, r7, y7, st7, fr7⟩ => ?_
      have I7' := I7.pinned (stat (by simp) fr7) (T.obj _ _ st7)
      have again : ∀ {σ8 : St} {H8 : Hp} {s8 : Shared}, (∃ l : St, l.length = xs.length ∧ σ8 = l ++ σ) → Inv Y ([] ++ pinsAt fp s7.heap) σ8 H8 s8 → N H8 → ∃ m, m < n ∧ ∃ i H', Inv Y [] (List.replicate xs.length none ++ σ) H' s8 ∧ tn i s8.heap ∧ (∀ b ∈ fp, H' b = none) ∧ W i m H' := fun {σ8 H8 s8} l8 I8 n8 => by
        obtain ⟨m', hm, w8⟩ := hN H8 n8
        obtain ⟨l, ll, rfl⟩ := l8
        have pin8 : ∀ b ∈ fp, ∀ o, s7.heap.get? b = some o → s8.heap.get? b = some o ∧ H8 b = none := fun b hb o e => by
          have z := I8.pin (b, o) (List.mem_append_right _ (List.mem_append_right _ (mem_pinsAt hb e)))
          exact ⟨z.1, z.2.1⟩
        refine ⟨m', hm, i + 1, H8, I8.unpinned.weak (by simp [ll]) (fun j v e => ?_), T.keep _ _ _ st7 fun b hb o e => (pin8 b hb o e).1, fun b hb => ?_, w8⟩
        · by_cases hj : j < xs.length
          · rw [List.getElem?_append_left (by simpa using hj), List.getElem?_replicate] at e
            split at e <;> cases e
          · rw [List.getElem?_append_right (by simpa using hj)] at e
            rw [List.getElem?_append_right (by omega), ll]
            simpa using e
        · obtain ⟨o, e, _⟩ := T.obj _ _ st7 b hb
          exact (pin8 b hb o e).2
      refine thn (hG _ s7 (List.replicate xs.length none ++ σ) H7 x7 u _ I7' r7 (hg _ _ _ _ (step x7 H7 y7))) fun _ s8 ⟨σ8, H8, I8, l8, q8⟩ => ?_
      refine thn (hT _ s8 σ8 H8 _ I8 q8) fun ok s9 ⟨H9, I9, q9⟩ => ?_
      cases ok with
      | false => exact again l8 I9 q9
      | true =>
        refine thn (hE _ s9 σ8 H9 _ I9 q9) fun y s10 ⟨y10, H10, I10, r10, ys, hd, hl, n10⟩ => ?_
        refine thn (mt_append _ s10 σ8 H10 (.ref s2.heap.objs.size) [y10] (.ref s2.heap.objs.size) [y] (fun _ H' => N H') I10 rfl (.cons r10 .nil) ⟨_, ys, y10, rfl, rfl, hd, hl, n10⟩) fun _ s11 ⟨_, H11, I11, _, n11⟩ => ?_
        exact again l8 I11 n11
  refine codeAny_compStart_list (loop _) (T.self _ 0 _ _ _ st4 (loop _))
theorem pe_comp {X : Cx} {elt tg iter : Expr} {cs : List Expr} {scope : Scope} {pos : Pos} {wi : TI} {g : TG} {tc : TT} {te : TE} {xs M : List Str} (hc : X.calm = true) (S : CompScope scope X.env X.N M) (hi : PI X tg iter wi)
    (hin : ∀ (cl : List (Str × Addr)) (C : Addr) (s0 : Shared) (H0 : Hp) (fp : List Addr), PG (cxC X scope cl C s0 H0 fp (xs ++ M)) tg g ∧ PTs (cxC X scope cl C s0 H0 fp (xs ++ M)) cs tc ∧ PE (cxC X scope cl C s0 H0 fp (xs ++ M)) elt te)
    (hg : ∀ v σ H Q, g v (List.replicate xs.length none ++ σ) H Q → g v (List.replicate xs.length none ++ σ) H fun σ2 H2 => (∃ l : St, l.length = xs.length ∧ σ2 = l ++ σ) ∧ Q σ2 H2)
    (hs : ∀ x, foldedSetIterable iter X.env x = pure x := by intro _; rfl) : PE X (.ListComp elt [⟨tg, iter, cs, 0⟩] scope pos) (tComp xs.length wi g tc te) := by
  intro pins s σ H Q I h
  rw [eval_ListComp]
  exact comp_run (use := none) hc S hi (fun cl C s0 H0 fp _ _ _ => hin cl C s0 H0 fp) hg hs pins s σ H Q I h fun d C s6 H6 m q I6 hn gn => ⟨m, hn, fun h' hs' => ⟨.ref d, H6, I6.gone gn hs', rfl, q⟩⟩
theorem ps_comp {X : Cx} {elt tg iter : Expr} {cs : List Expr} {scope : Scope} {pos pos' spos : Pos} {wi : TI} {g : TG} {tc : TT} {te : TE} {xs M : List Str} {i : Nat} {x : Str} (hc : X.calm = true) (S : CompScope scope X.env X.N M) (hi : PI X tg iter wi)
    (hin : ∀ (cl : List (Str × Addr)) (C : Addr) (s0 : Shared) (H0 : Hp) (fp : List Addr), PG (cxC X scope cl C s0 H0 fp (xs ++ M)) tg g ∧ PTs (cxC X scope cl C s0 H0 fp (xs ++ M)) cs tc ∧ PE (cxC X scope cl C s0 H0 fp (xs ++ M)) elt te)
    (hg : ∀ v σ H Q, g v (List.replicate xs.length none ++ σ) H Q → g v (List.replicate xs.length none ++ σ) H fun σ2 H2 => (∃ l : St, l.length = xs.length ∧ σ2 = l ++ σ) ∧ Q σ2 H2)
    (hN : X.N.Nodup) (hix : X.N[i]? = some x) (hx : X.env.scope.names.lookup x = some .local) (hw : swapsWith (.ListComp elt [⟨tg, iter, cs, 0⟩] scope pos) (some (.Name x pos')) spos.line X.env = pure true)
    (hs : ∀ x, foldedSetIterable iter X.env x = pure x := by intro _; rfl) : PS X (.Assign [.Name x pos'] (.ListComp elt [⟨tg, iter, cs, 0⟩] scope pos) spos) (tAsg (tComp xs.length wi g tc te) (gName i)) := by
  intro pins s σ H D I h
  rw [exec_Assign_Name_used _ _ _ _ hw]
  refine wpAny_bind (wpAny_standAt (wpAny_bind ?_))
  show wpAny _ X.A (comprehension (.ListComp elt [⟨tg, iter, cs, 0⟩] scope pos) scope X.env _ (newList []) false (eval iter X.env) (some (assign (.Name x pos') X.env)) >>= fun _ => pure ()) _ _ s
  refine wpAny_bind (thn (comp_run (use := some (assign (.Name x pos') X.env)) (RR := fun _ s' => SP X pins D .next s') hc S hi (fun cl C s0 H0 fp _ _ _ => hin cl C s0 H0 fp) hg hs pins s σ H _ I h fun d C s6 H6 m q I6 hn gn => ?_) fun _ s' hq => wpAny_pure (wpAny_pure hq))
  show wpAny _ X.A (assign (.Name x pos') X.env (.ref d)) _ _ s6
  refine wpAny_assign_Name (store_ok2 I6 hN hix (.inl hx) (v := .ref d) rfl (fun s7 I7 ch => ?_) (.inr hx))
  obtain ⟨a, hsb, ha⟩ := ch
  have ne : C ≠ a := by
    rcases ha with z | z
    · rw [z]; exact gn.ne
    · exact fun z' => gn.cl x a z z'.symm
  exact ⟨m, hn.sameBut hsb ne, fun h' hs' => ⟨_, H6, I7.gone gn hs', q⟩⟩
theorem pe_compB {X : Cx} {elt tg iter : Expr} {cs : List Expr} {scope : Scope} {pos : Pos} {wi : TI} {g : TG} {tc : TT} {te : TE} {xs M : List Str} (hc : X.calm = true) (S : CompScope scope X.env X.N M) (hi : PI X tg iter wi)
    (hin : ∀ (cl : List (Str × Addr)) (C : Addr) (s0 : Shared) (H0 : Hp) (fp : List Addr) (pins : List (Addr × Obj)) (σ : St), Back X (cxC X scope cl C s0 H0 fp (xs ++ M)) pins σ fp C s0 H0 → PG (cxC X scope cl C s0 H0 fp (xs ++ M)) tg g ∧ PTs (cxC X scope cl C s0 H0 fp (xs ++ M)) cs tc ∧ PE (cxC X scope cl C s0 H0 fp (xs ++ M)) elt te)
    (hg : ∀ v σ H Q, g v (List.replicate xs.length none ++ σ) H Q → g v (List.replicate xs.length none ++ σ) H fun σ2 H2 => (∃ l : St, l.length = xs.length ∧ σ2 = l ++ σ) ∧ Q σ2 H2)
    (hs : ∀ x, foldedSetIterable iter X.env x = pure x := by intro _; rfl) : PE X (.ListComp elt [⟨tg, iter, cs, 0⟩] scope pos) (tComp xs.length wi g tc te) := by
  intro pins s σ H Q I h
  rw [eval_ListComp]
  exact comp_run (use := none) hc S hi hin hg hs pins s σ H Q I h fun d C s6 H6 m q I6 hn gn => ⟨m, hn, fun h' hs' => ⟨.ref d, H6, I6.gone gn hs', rfl, q⟩⟩
end L2
set_option Elab.async false
set_option linter.all false
set_option maxRecDepth 100000
namespace L2
open PySem PySem.Spec PyProof.Rows
structure EqK {α : Type} [DecidableEq α] (H : Hp) (s : Shared) (n : Nat) (R : V → α → Prop) : Prop where
  inj : ∀ x a b, R x a → R x b → a = b
  eq : ∀ (A : Around) (x y : V) (a b : α) (u v : Value), A.units + n < cLine → R x a → R y b → RelV x u → RelV y v → SeqAt.EqAt A s u v (decide (a = b))
def RInt (x : V) (i : Int) : Prop := x = .int i
def RTup {α : Type} (H : Hp) (R : V → α → Prop) (x : V) (ds : List α) : Prop := ∃ a xs, x = .ref a ∧ H a = some (.tup xs) ∧ Paired R xs ds
theorem all_eq {α : Type} [DecidableEq α] : ∀ (as bs : List α) (e : Nat → Bool), (∀ j x y, as[j]? = some x → bs[j]? = some y → e j = decide (x = y)) →
    ((List.range (min as.length bs.length)).all e && as.length == bs.length) = decide (as = bs) := by
  intro as bs e h
  rw [Bool.eq_iff_iff]
  simp only [Bool.and_eq_true, List.all_eq_true, List.mem_range, beq_iff_eq, decide_eq_true_eq]
  constructor
  · rintro ⟨h1, h2⟩
    refine List.ext_getElem? fun j => ?_
    by_cases hj : j < as.length
    · have e1 : as[j]? = some as[j] := List.getElem?_eq_getElem hj
      have e2 : bs[j]? = some (bs[j]'(by omega)) := List.getElem?_eq_getElem (by omega)
      have q := h1 j (by omega)
      rw [h j _ _ e1 e2] at q
      rw [e1, e2, of_decide_eq_true q]
    · rw [List.getElem?_eq_none (by omega), List.getElem?_eq_none (by omega)]
  · rintro rfl
    refine ⟨fun j hj => ?_, rfl⟩
    have hj : j < as.length := by omega
    have e1 : as[j]? = some as[j] := List.getElem?_eq_getElem hj
    rw [h j _ _ e1 e1]
    simp
theorem Paired.right_of {α β : Type} {R : α → β → Prop} : ∀ {xs : List α} {ds : List β}, Paired R xs ds → ∀ (j : Nat) (x : α), xs[j]? = some x → ∃ d, ds[j]? = some d ∧ R x d
  | _, _, .nil, j, x, e => by simp at e
  | _, _, .cons r t, 0, x, e => by simp at e; subst e; exact ⟨_, rfl, r⟩
  | _, _, .cons r t, j + 1, x, e => by
    obtain ⟨d, e1, e2⟩ := Paired.right_of t j x (by simpa using e)
    exact ⟨d, by simpa using e1, e2⟩
theorem Paired.inj {α β : Type} {R : α → β → Prop} (h : ∀ x a b, R x a → R x b → a = b) : ∀ {xs : List α} {ds es : List β}, Paired R xs ds → Paired R xs es → ds = es
  | _, _, _, .nil, .nil => rfl
  | _, _, _, .cons r t, .cons r' t' => by rw [h _ _ _ r r', Paired.inj h t t']
theorem Paired.ints : ∀ ns : List Int, Paired RInt (ns.map V.int) ns
  | [] => .nil
  | n :: ns => .cons rfl (Paired.ints ns)
theorem rtup_ints {H : Hp} {a : Addr} {ns : List Int} (h : H a = some (.tup (ns.map V.int))) : RTup H RInt (.ref a) ns := ⟨a, _, rfl, h, Paired.ints ns⟩
section
variable {α : Type} [DecidableEq α] {P : Program} {w : World} {H : Hp} {s : Shared} {n : Nat} {R : V → α → Prop} {A : Around}
theorem EqK.int : EqK H s n RInt := ⟨fun x a b h1 h2 => by unfold RInt at *; rw [h1] at h2; cases h2; rfl, fun A x y a b u v _ h1 h2 r1 r2 => by
  unfold RInt at *
  subst h1 h2
  obtain ⟨t, rfl⟩ := r1
  obtain ⟨t', rfl⟩ := r2
  have q := SeqAt.EqAt.int_int (A := A) (s := s) a t b t'
  rw [Bool.beq_eq_decide_eq] at q
  exact q⟩
theorem items_eq (K : EqK H s n R) {xs ys : List V} {ds es : List α} {its its2 : List Value} (p1 : Paired R xs ds) (p2 : Paired R ys es) (v1 : Vals xs its) (v2 : Vals ys its2) (hA : A.units + n < cLine) :
    ∃ e : Nat → Bool, (∀ j (h1 : j < its.toArray.size) (h2 : j < its2.toArray.size), SeqAt.EqAt A s its.toArray[j] its2.toArray[j] (e j)) ∧ ((List.range (min its.toArray.size its2.toArray.size)).all e && its.toArray.size == its2.toArray.size) = decide (ds = es) := by
  have l1 : its.toArray.size = ds.length := by rw [List.size_toArray, ← v1.length]; exact p1.length
  have l2 : its2.toArray.size = es.length := by rw [List.size_toArray, ← v2.length]; exact p2.length
  refine ⟨fun j => match ds[j]?, es[j]? with | some d, some e => decide (d = e) | _, _ => true, fun j h1 h2 => ?_, ?_⟩
  · have hx : xs[j]? = some (xs[j]'(by rw [v1.length]; simpa using h1)) := List.getElem?_eq_getElem _
    have hy : ys[j]? = some (ys[j]'(by rw [v2.length]; simpa using h2)) := List.getElem?_eq_getElem _
    obtain ⟨d, e1, r1⟩ := Paired.right_of p1 j _ hx
    obtain ⟨e, e2, r2⟩ := Paired.right_of p2 j _ hy
    obtain ⟨u, e3, r3⟩ := v1.get hx
    obtain ⟨v, e4, r4⟩ := v2.get hy
    have q3 : its.toArray[j] = u := by
      have := (List.getElem?_eq_some_iff.mp e3).2
      simpa using this
    have q4 : its2.toArray[j] = v := by
      have := (List.getElem?_eq_some_iff.mp e4).2
      simpa using this
    simp only [e1, e2, q3, q4]
    exact K.eq A _ _ d e u v hA r1 r2 r3 r4
  · rw [l1, l2]
    exact all_eq ds es _ fun j x y h1 h2 => by simp only [h1, h2]
theorem rc_tups (K : EqK H s n R) (ok : HOk P w H s.heap) {a b : Addr} {xs ys : List V} {ds es : List α} (ha : H a = some (.tup xs)) (hb : H b = some (.tup ys)) (p1 : Paired R xs ds) (p2 : Paired R ys es) (hA : A.units + (n + 1) < cLine) :
    SeqAt.RcAt A s (.ref a) (.ref b) (decide (ds = es)) := by
  obtain ⟨_, its, v1, t1⟩ := ok a _ ha
  obtain ⟨_, its2, v2, t2⟩ := ok b _ hb
  obtain ⟨e, h1, h2⟩ := items_eq (A := A.in1) K p1 p2 v1 v2 (by show A.units + 1 + n < cLine; omega)
  rw [← h2]
  exact SeqAt.RcAt.tuples t1 t2 (by omega) h1
theorem rn_tups (K : EqK H s n R) (ok : HOk P w H s.heap) {a b : Addr} {xs ys : List V} {ds es : List α} (ha : H a = some (.tup xs)) (hb : H b = some (.tup ys)) (p1 : Paired R xs ds) (p2 : Paired R ys es) (hA : A.units + (n + 1) < cLine) :
    SeqAt.RcNeAt A s (.ref a) (.ref b) (!decide (ds = es)) := by
  obtain ⟨_, its, v1, t1⟩ := ok a _ ha
  obtain ⟨_, its2, v2, t2⟩ := ok b _ hb
  obtain ⟨e, h1, h2⟩ := items_eq (A := A.in1) K p1 p2 v1 v2 (by show A.units + 1 + n < cLine; omega)
  rw [← h2]
  exact SeqAt.RcNeAt.tuples t1 t2 (by omega) h1
theorem isL_of {h : Heap} {a : Addr} {its : List Value} {k : Nat} (e : h.get? a = some { cls := .type "list", data := .seq its.toArray k }) : h.IsList a its.toArray := ⟨_, e, rfl, _, rfl⟩
theorem EqK.tup (K : EqK H s n R) (ok : HOk P w H s.heap) : EqK H s (n + 1) (RTup H R) := by
  refine ⟨fun x a b h1 h2 => ?_, fun A x y a b u v hA h1 h2 r1 r2 => ?_⟩
  · obtain ⟨c, xs, rfl, e1, p1⟩ := h1
    obtain ⟨c', xs', z, e2, p2⟩ := h2
    cases z
    rw [e1] at e2; cases e2
    exact Paired.inj K.inj p1 p2
  · obtain ⟨c, xs, rfl, e1, p1⟩ := h1
    obtain ⟨c', xs', rfl, e2, p2⟩ := h2
    cases r1; cases r2
    by_cases hc : c = c'
    · subst hc
      rw [e1] at e2; cases e2
      have := Paired.inj K.inj p1 p2
      subst this
      rw [decide_eq_true rfl]
      exact SeqAt.EqAt.same _
    · exact SeqAt.EqAt.of_refs hc (rc_tups K ok e1 e2 p1 p2 hA)
end
section
variable {X : Cx} {α : Type} [DecidableEq α]
def rNeTI : R2 := fun x y H Q => ∃ ns ms, RTup H RInt x ns ∧ RTup H RInt y ms ∧ Q (.bl (!decide (ns = ms))) H
theorem op_neTI (hu : X.A.units + 4 < cLine) : OpR X (compareOp .NotEq) rNeTI := by
  intro pins s σ H x y v u Q I rx ry h
  obtain ⟨ns, ms, ⟨a, xs, rfl, e1, p1⟩, ⟨b, ys, rfl, e2, p2⟩, q⟩ := h
  cases rx; cases ry
  exact rn_tups (A := X.A) (n := 0) EqK.int I.hok e1 e2 p1 p2 (by omega) _ _ _ _ ⟨.bl _, H, I, rfl, q⟩
end
def rIsi (K : PySem.W.Frag) : List V → Hp → VK → Prop := fun xs H Q => ∃ x t T b, xs = [x, .ty T] ∧ TyOf K H x t ∧ PySem.W.kitOne K t (.type T) = some b ∧ Q (.bl b) H
theorem call_isi {X : Cx} : CallR X (.builtin "isinstance") (rIsi X.K) := by
  intro pins s σ H xs us Q I r h
  obtain ⟨x, t, T, b, rfl, ty, e, q⟩ := h
  obtain ⟨u, v, rfl, r1, r2⟩ := r.two
  cases r2
  exact isinst_ok I r1 ty e fun tk => ⟨.bl b, H, I.tok tk, rfl, q⟩
theorem same_newO {H : Hp} {p : Addr} (h : H p = none) (o : HO) : Same H (upd H p o) := fun b u q => by rw [upd_ne (ne_of_none q h)]; exact q
def rCatG : R2 := fun x y H Q => ∃ a b xs ys, x = .ref a ∧ y = .ref b ∧ H a = some (.tup xs) ∧ H b = some (.tup ys) ∧ xs.length + ys.length ≤ sizeLine ∧ ∀ p H', Same H H' → H' p = some (.tup (xs ++ ys)) → Q (.ref p) H'
theorem op_catG {X : Cx} : OpR X (binaryOp .Add) rCatG := by
  intro pins s σ H x y v u Q I rx ry h
  obtain ⟨a, b, xs, ys, rfl, rfl, ha, hb, hz, q⟩ := h
  by_cases hx : xs = []
  · subst hx
    cases rx; cases ry
    obtain ⟨_, its, r1, p1⟩ := I.hok a _ ha
    obtain ⟨_, its2, r2, p2⟩ := I.hok b _ hb
    have e0 : its = [] := r1.nil_iff.mpr rfl
    subst e0
    obtain ⟨⟨cls, dd, data, sl⟩, ho, hc, n, hd⟩ := id (IsTp.is p1)
    obtain ⟨⟨cls2, dd2, data2, sl2⟩, ho2, hc2, n2, hd2⟩ := id (IsTp.is p2)
    simp only at hc hd hc2 hd2
    subst hc hd hc2 hd2
    exact concat_meets ⟨_, ho, rfl⟩ ⟨_, ho2, rfl⟩ noFill_tuple_add seq_tuple_add PySem.F.slot_tuple_add PySem.F.entry_tuple_add (PySem.F.args_tuple_add_2 _ _)
      (tuple_addW0 a b ([] : List Value).toArray its2.toArray n n2 dd dd2 sl sl2 (by simp)) ⟨ho, ho2, ⟨.ref b, H, I, rfl, q b H (Same.refl H) (by simpa using hb)⟩⟩
  · exact op_catT pins s σ H (.ref a) (.ref b) v u Q I rx ry ⟨a, b, xs, ys, rfl, rfl, .inl (.inl ha), .inl (.inl hb), hx, hz, fun z => q a H (Same.refl H) (by rw [z, List.append_nil]; exact ha), fun _ p hp => q p _ (same_newO hp _) upd_same⟩
def rAll : List V → Hp → VK → Prop := fun xs H Q => ∃ (a : Addr) (bs : List Bool), xs = [.ref a] ∧ H a = some (.lst (bs.map V.bl)) ∧ Q (.bl (bs.all id)) H
theorem vals_bls : ∀ {bs : List Bool} {us : List Value}, Vals (bs.map V.bl) us → us = bs.map Value.bool := by
  intro bs
  induction bs with
  | nil => intro us r; rw [List.map_nil] at r; cases r; rfl
  | cons b bs ih =>
    intro us r
    rw [List.map_cons] at r
    cases r with
    | cons r1 r2 => rw [ih r2, show _ = Value.bool b from r1]; rfl
theorem all_range (bs : List Bool) : (List.range bs.length).all (fun i => bs.getD i true) = bs.all id := by
  rw [Bool.eq_iff_iff]
  simp only [List.all_eq_true, List.mem_range, id]
  constructor
  · intro h b hb
    obtain ⟨i, hi, rfl⟩ := List.mem_iff_getElem.mp hb
    have q := h i hi
    rwa [List.getD_eq_getElem?_getD, List.getElem?_eq_getElem hi] at q
  · intro h i hi
    rw [List.getD_eq_getElem?_getD, List.getElem?_eq_getElem hi]
    exact h _ (List.getElem_mem hi)
theorem call_all {X : Cx} (hc : X.calm = true) : CallR X (.builtin "all") rAll := by
  intro pins s σ H xs us Q I r h
  obtain ⟨a, bs, rfl, ha, q⟩ := h
  obtain ⟨u, rfl, ru⟩ := vals1 r
  cases ru
  obtain ⟨hz, its, n, v, e⟩ := I.hok a _ ha
  have ei := vals_bls v
  subst ei
  refine call_all_walk (wpAny_pyIter_list (isL_of e) ?_)
  have hlt := Heap.lt_size e
  refine ⟨s.heap.objs.size, _, _, _, _, _, fun i => bs.getD i true, rfl, Walks.list (A := X.A.in1) (by show X.A.handled = none; exact I.ok.hd hc) s.heap.objs.size a (Nat.ne_of_lt hlt) (bs.map Value.bool).toArray, ⟨⟨_, Heap.get?_push_size _ rfl, rfl, rfl⟩, isL_of (Heap.get?_push_of_some _ e)⟩, ?_, fun h' tk hk => ?_⟩
  · intro i v s' Q' E' hv hq
    simp only [List.getElem?_toArray, List.getElem?_map] at hv
    cases hb : bs[i]? with
    | none => rw [hb] at hv; cases hv
    | some b =>
      rw [hb] at hv; cases hv
      have hq' : Q' (bs.getD i true) s' := hq
      rw [List.getD_eq_getElem?_getD, hb] at hq'
      exact wpAny_truthy_bool hq'
  · have e1 : (bs.map Value.bool).toArray.size = bs.length := by simp
    rw [e1, all_range]
    exact ⟨.bl _, H, I.kept (h' := h') (t' := tk) (fun b o eo => hk b o (by simp; exact Nat.ne_of_lt (Heap.lt_size eo)) (Heap.get?_push_of_some _ eo)), rfl, q⟩
end L2
set_option Elab.async false
set_option linter.all false
set_option maxRecDepth 100000
namespace L2
open PySem PySem.Spec PyProof.Rows
theorem lookup_relabel (scope : Scope) (en : Env) (y : Str) : (relabel scope en).names.lookup y = (scope.names.lookup y).map fun k => if (k == NameKind.free && en.scope.kind == .function && en.kindOf y == some .cell) = true then .cell else k := by
  show List.lookup y (scope.names.map fun (n, k) => if (k == NameKind.free && en.scope.kind == .function && en.kindOf n == some .cell) = true then (n, NameKind.cell) else (n, k)) = _
  generalize scope.names = l
  induction l with
  | nil => rfl
  | cons p r ih =>
    obtain ⟨n, k⟩ := p
    rw [List.map_cons]
    by_cases hy : y = n
    · subst hy
      show List.lookup y ((if (k == NameKind.free && en.scope.kind == .function && en.kindOf y == some .cell) = true then (y, NameKind.cell) else (y, k)) :: _) = _
      by_cases hc : (k == NameKind.free && en.scope.kind == .function && en.kindOf y == some .cell) = true
      · rw [if_pos hc, List.lookup_cons, List.lookup_cons, beq_self_eq_true]
        show some NameKind.cell = some (if _ then _ else _)
        rw [if_pos hc]
      · rw [if_neg hc, List.lookup_cons, List.lookup_cons, beq_self_eq_true]
        show some k = some (if _ then _ else _)
        rw [if_neg hc]
    · have hb : (y == n) = false := by simpa using hy
      show List.lookup y ((if (k == NameKind.free && en.scope.kind == .function && en.kindOf n == some .cell) = true then (n, NameKind.cell) else (n, k)) :: _) = _
      by_cases hc : (k == NameKind.free && en.scope.kind == .function && en.kindOf n == some .cell) = true
      · rw [if_pos hc, List.lookup_cons, List.lookup_cons, hb]; exact ih
      · rw [if_neg hc, List.lookup_cons, List.lookup_cons, hb]; exact ih
def okPair (scope : Scope) (p : Str × Str) : Bool := match scope.names.lookup p.1 with
  | none => true
  | some .free => p.1 == p.2
  | some .local => false
  | some .cell => false
  | some _ => true
theorem CompScope.of' {scope : Scope} {en : Env} {N M : List Str} (sc : Scope) (N₀ : List Str) (hsc : en.scope = sc) (hN : N = N₀) (kind : scope.kind = .function) (nocell : ∀ y ∈ scope.names, y.2 ≠ .cell) (locs : ∀ y ∈ scope.names, y.2 = .local → scope.names.lookup y.1 = some .local)
    (free : ∀ y ∈ scope.names, y.2 = .free → sc.names.lookup y.1 = some .cell ∨ sc.names.lookup y.1 = some .free) (len : M.length = N₀.length) (same : ((M.zip N₀).all (okPair scope)) = true) : CompScope scope en N M := by
  subst hsc hN
  refine ⟨kind, nocell, locs, fun y hy => free _ hy rfl, len, fun j y e v => ?_, fun y h => ?_⟩
  · have hj : j < N.length := by rw [← len]; exact (List.getElem?_eq_some_iff.mp e).1
    have e2 : N[j]? = some N[j] := List.getElem?_eq_getElem hj
    have hm : (y, N[j]) ∈ M.zip N := by
      refine List.mem_iff_getElem?.mpr ⟨j, ?_⟩
      rw [List.getElem?_zip_eq_some]
      exact ⟨e, e2⟩
    have q := List.all_eq_true.mp same _ hm
    unfold okPair at q
    unfold Vis at v
    rw [lookup_relabel] at v ⊢
    cases hl : scope.names.lookup y with
    | none => rw [hl] at v; simp at v
    | some k =>
      rw [hl] at v q
      simp only [Option.map_some] at v ⊢
      cases k with
      | free =>
        have z : y = N[j] := by simpa using q
        refine ⟨by rw [e2, ← z], PySem.mem_of_lookup hl, ?_⟩
        split <;> simp
      | «local» => simp at q
      | cell => simp at q
      | _ => simp at v
  · rw [lookup_relabel] at h
    cases hl : scope.names.lookup y with
    | none => rw [hl] at h; simp at h
    | some k =>
      rw [hl] at h
      have hm := PySem.mem_of_lookup hl
      simp only [Option.map_some] at h
      cases k with
      | free => exact hm
      | cell => exact absurd rfl (nocell _ hm)
      | _ => simp at h
theorem CompScope.of {scope : Scope} {en : Env} {N M : List Str} (sc : Scope) (N₀ : List Str) (hsc : en.scope = sc) (hN : N = N₀) (kind : scope.kind = .function) (nocell : ∀ y ∈ scope.names, y.2 ≠ .cell) (locs : ∀ y ∈ scope.names, y.2 = .local → scope.names.lookup y.1 = some .local)
    (free : ∀ y ∈ scope.names, y.2 = .free → sc.names.lookup y.1 = some .cell ∨ sc.names.lookup y.1 = some .free) (len : M.length = N₀.length) (same : ((M.zip N₀).all (okPair scope)) = true) : CompScope scope en N M := CompScope.of' sc N₀ hsc hN kind nocell locs free len same
theorem hg_one {v : V} {σ : St} {H : Hp} {Q : St → Hp → Prop} (h : gName 0 v (List.replicate 1 none ++ σ) H Q) : gName 0 v (List.replicate 1 none ++ σ) H fun σ2 H2 => (∃ l : St, l.length = 1 ∧ σ2 = l ++ σ) ∧ Q σ2 H2 :=
  ⟨⟨[some v], rfl, rfl⟩, h⟩
theorem comp_range {lo : Int} {n : Nat} {k : Nat} {g : TG} {tc : TT} {te : TE} {σ : St} {H : Hp} {Q : VK} {d : Addr} (Pv : Nat → Hp → Prop) (h0 : Pv 0 (upd H d (.lst [])))
    (hs : ∀ i H, i < n → Pv i H → g (.int (lo + i)) (List.replicate k none ++ σ) H fun σ2 H2 => tc σ2 H2 fun b H3 => if b = true then te σ2 H3 fun y H4 => ∃ ys, H4 d = some (.lst ys) ∧ ys.length < sizeLine ∧ Pv (i + 1) (upd H4 d (.lst (ys ++ [y]))) else Pv (i + 1) H3)
    (hd : ∀ H, Pv n H → Q (.ref d) H) :
    ∃ W : Nat → Nat → Hp → Prop, (∃ m, W 0 m (upd H d (.lst []))) ∧ ∀ i m H, W i m H →
      ((Itr lo n).stop i H ∧ Q (.ref d) H) ∨ ((Itr lo n).go i H ∧ ∃ N : Hp → Prop, (∀ H', N H' → ∃ m', m' < m ∧ W (i + 1) m' H') ∧ ∀ x H', (Itr lo n).yld i H x H' → g x (List.replicate k none ++ σ) H' fun σ2 H2 =>
        tc σ2 H2 fun b H3 => if b = true then te σ2 H3 fun y H4 => ∃ ys, H4 d = some (.lst ys) ∧ ys.length < sizeLine ∧ N (upd H4 d (.lst (ys ++ [y]))) else N H3) := by
  refine ⟨fun i m H => m = n - i ∧ i ≤ n ∧ Pv i H, ⟨n, by simp, Nat.zero_le _, h0⟩, ?_⟩
  rintro i m H ⟨rfl, hi, p⟩
  by_cases hlt : i < n
  · refine .inr ⟨hlt, Pv (i + 1), fun H' p' => ⟨n - (i + 1), by omega, rfl, hlt, p'⟩, fun x H' y => ?_⟩
    obtain ⟨e, y⟩ := y
    subst e y
    exact hs i _ hlt p
  · have e : i = n := by omega
    subst e
    exact .inl ⟨Nat.le_refl _, hd H p⟩
theorem comp_tup {K : PySem.W.Frag} {a : Addr} {xs : List V} {k : Nat} {g : TG} {tc : TT} {te : TE} {σ : St} {H : Hp} {Q : VK} {d : Addr} (Pv : Nat → Hp → Prop) (h0 : Pv 0 (upd H d (.lst []))) (hl : ∀ i H, i ≤ xs.length → Pv i H → SqT K H a xs)
    (hs : ∀ i x H, xs[i]? = some x → Pv i H → g x (List.replicate k none ++ σ) H fun σ2 H2 => tc σ2 H2 fun b H3 => if b = true then te σ2 H3 fun y H4 => ∃ ys, H4 d = some (.lst ys) ∧ ys.length < sizeLine ∧ Pv (i + 1) (upd H4 d (.lst (ys ++ [y]))) else Pv (i + 1) H3)
    (hd : ∀ H, Pv xs.length H → Q (.ref d) H) :
    ∃ W : Nat → Nat → Hp → Prop, (∃ m, W 0 m (upd H d (.lst []))) ∧ ∀ i m H, W i m H →
      ((Itt K a).stop i H ∧ Q (.ref d) H) ∨ ((Itt K a).go i H ∧ ∃ N : Hp → Prop, (∀ H', N H' → ∃ m', m' < m ∧ W (i + 1) m' H') ∧ ∀ x H', (Itt K a).yld i H x H' → g x (List.replicate k none ++ σ) H' fun σ2 H2 =>
        tc σ2 H2 fun b H3 => if b = true then te σ2 H3 fun y H4 => ∃ ys, H4 d = some (.lst ys) ∧ ys.length < sizeLine ∧ N (upd H4 d (.lst (ys ++ [y]))) else N H3) := by
  refine ⟨fun i m H => m = xs.length - i ∧ i ≤ xs.length ∧ Pv i H, ⟨xs.length, by simp, Nat.zero_le _, h0⟩, ?_⟩
  rintro i m H ⟨rfl, hi, p⟩
  have q := hl i H hi p
  by_cases hlt : i < xs.length
  · refine .inr ⟨⟨xs, xs[i], q, by simp [hlt]⟩, Pv (i + 1), fun H' p' => ⟨xs.length - (i + 1), by omega, rfl, hlt, p'⟩, fun x H' y => ?_⟩
    obtain ⟨e, y⟩ := y
    subst e
    exact hs i x _ (y xs q) p
  · have e : i = xs.length := by omega
    subst e
    exact .inl ⟨⟨xs, q, Nat.le_refl _⟩, hd H p⟩
theorem comp_list {K : PySem.W.Frag} {a : Addr} {xs : List V} {k : Nat} {g : TG} {tc : TT} {te : TE} {σ : St} {H : Hp} {Q : VK} {d : Addr} (Pv : Nat → Hp → Prop) (h0 : Pv 0 (upd H d (.lst []))) (hl : ∀ i H, i ≤ xs.length → Pv i H → SqL K H a xs)
    (hs : ∀ i x H, xs[i]? = some x → Pv i H → g x (List.replicate k none ++ σ) H fun σ2 H2 => tc σ2 H2 fun b H3 => if b = true then te σ2 H3 fun y H4 => ∃ ys, H4 d = some (.lst ys) ∧ ys.length < sizeLine ∧ Pv (i + 1) (upd H4 d (.lst (ys ++ [y]))) else Pv (i + 1) H3)
    (hd : ∀ H, Pv xs.length H → Q (.ref d) H) :
    ∃ W : Nat → Nat → Hp → Prop, (∃ m, W 0 m (upd H d (.lst []))) ∧ ∀ i m H, W i m H →
      ((Itl K a).stop i H ∧ Q (.ref d) H) ∨ ((Itl K a).go i H ∧ ∃ N : Hp → Prop, (∀ H', N H' → ∃ m', m' < m ∧ W (i + 1) m' H') ∧ ∀ x H', (Itl K a).yld i H x H' → g x (List.replicate k none ++ σ) H' fun σ2 H2 =>
        tc σ2 H2 fun b H3 => if b = true then te σ2 H3 fun y H4 => ∃ ys, H4 d = some (.lst ys) ∧ ys.length < sizeLine ∧ N (upd H4 d (.lst (ys ++ [y]))) else N H3) := by
  refine ⟨fun i m H => m = xs.length - i ∧ i ≤ xs.length ∧ Pv i H, ⟨xs.length, by simp, Nat.zero_le _, h0⟩, ?_⟩
  rintro i m H ⟨rfl, hi, p⟩
  have q := hl i H hi p
  by_cases hlt : i < xs.length
  · refine .inr ⟨⟨xs, xs[i], q, by simp [hlt]⟩, Pv (i + 1), fun H' p' => ⟨xs.length - (i + 1), by omega, rfl, hlt, p'⟩, fun x H' y => ?_⟩
    obtain ⟨e, y⟩ := y
    subst e
    exact hs i x _ (y xs q) p
  · have e : i = xs.length := by omega
    subst e
    exact .inl ⟨⟨xs, q, Nat.le_refl _⟩, hd H p⟩
theorem b_isi : bootBuiltins "isinstance" = some (.builtin "isinstance") := by decide +kernel
theorem b_all : bootBuiltins "all" = some (.builtin "all") := by decide +kernel
theorem b_int : bootBuiltins "int" = some (.type "int") := by decide +kernel
theorem b_bool : bootBuiltins "bool" = some (.type "bool") := by decide +kernel
theorem b_list : bootBuiltins "list" = some (.type "list") := by decide +kernel
theorem b_tuple : bootBuiltins "tuple" = some (.type "tuple") := by decide +kernel
theorem kit_int_int (K : PySem.W.Frag) : PySem.W.kitOne K (.type "int") (.type "int") = some true := by rfl
theorem kit_int_bool (K : PySem.W.Frag) : PySem.W.kitOne K (.type "int") (.type "bool") = some false := by rfl
theorem kit_tuple_tuple (K : PySem.W.Frag) : PySem.W.kitOne K (.type "tuple") (.type "tuple") = some true := by rfl
theorem PE.imp {X : Cx} {e : Expr} {t t' : TE} (h : PE X e t) (hi : ∀ σ H Q, t' σ H Q → t σ H Q) : PE X e t' := fun pins s σ H Q I q => h pins s σ H Q I (hi σ H Q q)
def turnC (tc : TT) (te : TE) (σ : St) (d : Addr) (x : V) (H : Hp) (Z : Hp → Prop) : Prop :=
  tc (some x :: σ) H fun b H3 => if b = true then te (some x :: σ) H3 fun y H4 => ∃ ys, H4 d = some (.lst ys) ∧ ys.length < sizeLine ∧ Z (upd H4 d (.lst (ys ++ [y]))) else Z H3
def tCompR1 (ta : TA) (tc : TT) (te : TE) : TE := fun σ H Q => ta σ H fun vs H1 => ∃ j : Int, vs = [.int j] ∧ -(2 ^ 62) ≤ j ∧ j < 2 ^ 62 ∧ ∀ d, H1 d = none →
  ∃ Pv : Nat → Hp → Prop, Pv 0 (upd H1 d (.lst [])) ∧ (∀ i H, i < j.toNat → Pv i H → turnC tc te σ d (.int (0 + i)) H (Pv (i + 1))) ∧ ∀ H, Pv j.toNat H → Q (.ref d) H
def tCompL (K : PySem.W.Frag) (tl : TE) (tc : TT) (te : TE) : TE := fun σ H Q => tl σ H fun v H1 => ∃ a xs, v = .ref a ∧ SqL K H1 a xs ∧ ∀ d, H1 d = none →
  ∃ Pv : Nat → Hp → Prop, Pv 0 (upd H1 d (.lst [])) ∧ (∀ i H, i ≤ xs.length → Pv i H → SqL K H a xs) ∧ (∀ i x H, xs[i]? = some x → Pv i H → turnC tc te σ d x H (Pv (i + 1))) ∧ ∀ H, Pv xs.length H → Q (.ref d) H
def tCompT (K : PySem.W.Frag) (tl : TE) (tc : TT) (te : TE) : TE := fun σ H Q => tl σ H fun v H1 => ∃ a xs, v = .ref a ∧ SqT K H1 a xs ∧ ∀ d, H1 d = none →
  ∃ Pv : Nat → Hp → Prop, Pv 0 (upd H1 d (.lst [])) ∧ (∀ i H, i ≤ xs.length → Pv i H → SqT K H a xs) ∧ (∀ i x H, xs[i]? = some x → Pv i H → turnC tc te σ d x H (Pv (i + 1))) ∧ ∀ H, Pv xs.length H → Q (.ref d) H
def MonoE (t : TE) : Prop := ∀ σ H (Q Q' : VK), (∀ v H1, Q v H1 → Q' v H1) → t σ H Q → t σ H Q'
def MonoA (t : TA) : Prop := ∀ σ H (Q Q' : List V → Hp → Prop), (∀ v H1, Q v H1 → Q' v H1) → t σ H Q → t σ H Q'
section
variable {X : Cx} {elt iter : Expr} {tg : Str} {tp : Pos} {cs : List Expr} {scope : Scope} {pos : Pos} {tc : TT} {te : TE} {M : List Str}
abbrev Inner (X : Cx) (scope : Scope) (tg : Str) (M : List Str) (cs : List Expr) (elt : Expr) (tc : TT) (te : TE) : Prop :=
  ∀ (cl : List (Str × Addr)) (C : Addr) (s0 : Shared) (H0 : Hp) (fp : List Addr), PTs (cxC X scope cl C s0 H0 fp (tg :: M)) cs tc ∧ PE (cxC X scope cl C s0 H0 fp (tg :: M)) elt te
theorem pe_compG {wi : TI} {t : TE} (hc : X.calm = true) (S : CompScope scope X.env X.N M) (nd : (tg :: M).Nodup) (hl : scope.names.lookup tg = some .local) (hi : PI X (.Name tg tp) iter wi) (hin : Inner X scope tg M cs elt tc te)
    (ht : ∀ σ H Q, t σ H Q → tComp 1 wi (gName 0) tc te σ H Q) (hs : ∀ x, foldedSetIterable iter X.env x = pure x) : PE X (.ListComp elt [⟨.Name tg tp, iter, cs, 0⟩] scope pos) t := by
  have hx : (relabel scope X.env).names.lookup tg = some .local := by
    rw [lookup_relabel, hl]
    rfl
  exact PE.imp (pe_comp (xs := [tg]) (M := M) hc S hi (fun cl C s0 H0 fp => ⟨pg_name (i := 0) nd rfl (Or.inl hx) (Or.inr hx), hin cl C s0 H0 fp⟩) (fun v σ H Q h => hg_one h) hs) ht
theorem pe_compR1 {a : Expr} {ta : TA} {p pos' : Pos} (hc : X.calm = true) (S : CompScope scope X.env X.N M) (nd : (tg :: M).Nodup) (hl : scope.names.lookup tg = some .local) (hg : Gl X "range") (hm : X.mg "range" = none) (ha : PA X [a] ta) (mo : MonoA ta)
    (hin : Inner X scope tg M cs elt tc te) (hs : starEach [a] X.env = [(false, eval a X.env)] := by rfl) (hf : ∀ x, foldedSetIterable (.Call (.Name "range" p) [a] [] pos') X.env x = pure x := by intro _; rfl) :
    PE X (.ListComp elt [⟨.Name tg tp, .Call (.Name "range" p) [a] [] pos', cs, 0⟩] scope pos) (tCompR1 ta tc te) := by
  refine pe_compG hc S nd hl (pi_range1 hg hm ha hs) hin (fun σ H Q h => ?_) hf
  refine mo σ H _ _ (fun vs H1 q => ?_) h
  obtain ⟨j, e, j1, j2, q⟩ := q
  refine ⟨j, e, j1, j2, fun d hd => ?_⟩
  obtain ⟨Pv, h0, hs, hd⟩ := q d hd
  exact comp_range (k := 1) (g := gName 0) Pv h0 hs hd
theorem pe_compL {tl : TE} (hc : X.calm = true) (S : CompScope scope X.env X.N M) (nd : (tg :: M).Nodup) (hl : scope.names.lookup tg = some .local) (hi : PE X iter tl) (mo : MonoE tl)
    (hin : Inner X scope tg M cs elt tc te) (hf : ∀ x, foldedSetIterable iter X.env x = pure x := by intro _; rfl) : PE X (.ListComp elt [⟨.Name tg tp, iter, cs, 0⟩] scope pos) (tCompL X.K tl tc te) := by
  refine pe_compG hc S nd hl (pi_list hi) hin (fun σ H Q h => ?_) hf
  refine mo σ H _ _ (fun v H1 q => ?_) h
  obtain ⟨a, xs, e, j1, q⟩ := q
  refine ⟨a, e, ⟨xs, j1⟩, fun d hd => ?_⟩
  obtain ⟨Pv, h0, hl, hs, hd⟩ := q d hd
  exact comp_list (k := 1) (g := gName 0) Pv h0 hl hs hd
theorem pe_compT {tl : TE} (hc : X.calm = true) (S : CompScope scope X.env X.N M) (nd : (tg :: M).Nodup) (hl : scope.names.lookup tg = some .local) (hi : PE X iter tl) (mo : MonoE tl)
    (hin : Inner X scope tg M cs elt tc te) (hf : ∀ x, foldedSetIterable iter X.env x = pure x := by intro _; rfl) : PE X (.ListComp elt [⟨.Name tg tp, iter, cs, 0⟩] scope pos) (tCompT X.K tl tc te) := by
  refine pe_compG hc S nd hl (pi_tup hi) hin (fun σ H Q h => ?_) hf
  refine mo σ H _ _ (fun v H1 q => ?_) h
  obtain ⟨a, xs, e, j1, q⟩ := q
  refine ⟨a, e, ⟨xs, j1⟩, fun d hd => ?_⟩
  obtain ⟨Pv, h0, hl, hs, hd⟩ := q d hd
  exact comp_tup (k := 1) (g := gName 0) Pv h0 hl hs hd
theorem ps_compG {wi : TI} {t : TE} {i : Nat} {x : Str} {pos1 spos : Pos} (hc : X.calm = true) (S : CompScope scope X.env X.N M) (nd : (tg :: M).Nodup) (hl : scope.names.lookup tg = some .local) (hi : PI X (.Name tg tp) iter wi) (hin : Inner X scope tg M cs elt tc te)
    (ht : ∀ σ H Q, t σ H Q → tComp 1 wi (gName 0) tc te σ H Q) (hN : X.N.Nodup) (hix : X.N[i]? = some x) (hx : X.env.scope.names.lookup x = some .local) (hw : swapsWith (.ListComp elt [⟨.Name tg tp, iter, cs, 0⟩] scope pos) (some (.Name x pos1)) spos.line X.env = pure true) (hs : ∀ x, foldedSetIterable iter X.env x = pure x) :
    PS X (.Assign [.Name x pos1] (.ListComp elt [⟨.Name tg tp, iter, cs, 0⟩] scope pos) spos) (tAsg t (gName i)) := by
  have hx' : (relabel scope X.env).names.lookup tg = some .local := by
    rw [lookup_relabel, hl]
    rfl
  intro pins s σ H D I h
  exact ps_comp (xs := [tg]) (M := M) hc S hi (fun cl C s0 H0 fp => ⟨pg_name (i := 0) nd rfl (Or.inl hx') (Or.inr hx'), hin cl C s0 H0 fp⟩) (fun v σ H Q h => hg_one h) hN hix hx hw hs pins s σ H D I (ht _ _ _ h)
theorem ps_compR1 {a : Expr} {ta : TA} {p pos' pos1 spos : Pos} {i : Nat} {x : Str} (hN : X.N.Nodup) (hix : X.N[i]? = some x) (hx : X.env.scope.names.lookup x = some .local) (hc : X.calm = true) (S : CompScope scope X.env X.N M) (nd : (tg :: M).Nodup) (hl : scope.names.lookup tg = some .local) (hg : Gl X "range") (hm : X.mg "range" = none) (ha : PA X [a] ta) (mo : MonoA ta)
    (hin : Inner X scope tg M cs elt tc te) (hw : swapsWith (.ListComp elt [⟨.Name tg tp, .Call (.Name "range" p) [a] [] pos', cs, 0⟩] scope pos) (some (.Name x pos1)) spos.line X.env = pure true := by rfl)
    (hs : starEach [a] X.env = [(false, eval a X.env)] := by rfl) (hf : ∀ x, foldedSetIterable (.Call (.Name "range" p) [a] [] pos') X.env x = pure x := by intro _; rfl) :
    PS X (.Assign [.Name x pos1] (.ListComp elt [⟨.Name tg tp, .Call (.Name "range" p) [a] [] pos', cs, 0⟩] scope pos) spos) (tAsg (tCompR1 ta tc te) (gName i)) := by
  refine ps_compG hc S nd hl (pi_range1 hg hm ha hs) hin (fun σ H Q h => ?_) hN hix hx hw hf
  refine mo σ H _ _ (fun vs H1 q => ?_) h
  obtain ⟨j, e, j1, j2, q⟩ := q
  refine ⟨j, e, j1, j2, fun d hd => ?_⟩
  obtain ⟨Pv, h0, hs, hd⟩ := q d hd
  exact comp_range (k := 1) (g := gName 0) Pv h0 hs hd
end
theorem turn_all {te : TE} {σ : St} {d : Addr} {x : V} {H : Hp} {Z : Hp → Prop} (h : te (some x :: σ) H fun y H4 => ∃ ys, H4 d = some (.lst ys) ∧ ys.length < sizeLine ∧ Z (upd H4 d (.lst (ys ++ [y])))) : turnC tTrue te σ d x H Z := by
  unfold turnC tTrue
  exact iteT h
theorem mo_var {i : Nat} : MonoE (tVar i) := fun _ _ _ _ h ⟨v, e, q⟩ => ⟨v, e, h _ _ q⟩
theorem mo_nil : MonoA tNil := fun _ _ _ _ h q => h _ _ q
theorem mo_cons {te : TE} {ta : TA} (h1 : MonoE te) (h2 : MonoA ta) : MonoA (tCons te ta) := fun σ H Q Q' h q => h1 σ H _ _ (fun v H1 q1 => h2 σ H1 _ _ (fun vs H2 q2 => h _ _ q2) q1) q
end L2
set_option Elab.async false
set_option linter.all false
set_option maxRecDepth 100000
namespace L2
open PySem PySem.Spec PyProof.Rows
section
variable {α β : Type} {R : α → β → Prop}
theorem Paired.appendP : ∀ {xs ys : List α} {ds es : List β}, Paired R xs ds → Paired R ys es → Paired R (xs ++ ys) (ds ++ es)
  | _, _, _, _, .nil, s => s
  | _, _, _, _, .cons r t, s => .cons r (Paired.appendP t s)
theorem Paired.oneP {a : α} {b : β} (r : R a b) : Paired R [a] [b] := .cons r .nil
end
theorem at_int {ns : List Int} {k : Nat} {x : Int} (h : ns[k]? = some x) : atI (ns.map V.int) (k : Int) = some (.int x) := atI_nat (by rw [List.getElem?_map, h]; rfl)
theorem hu4 {A : Around} {k : Nat} (hr : Room k A) : A.units + 4 < cLine := by have := hr.units; omega
theorem cut_sub (xs : List V) (lo hi : Option Int) : ∃ a b, cutV xs lo hi = (xs.drop a).take b := ⟨_, _, rfl⟩
theorem same_upd {H H1 : Hp} {d : Addr} {o : HO} (h : H d = none) (sm : Same H H1) : Same H (upd H1 d o) := fun b u q => by rw [upd_ne (ne_of_none q h)]; exact sm b u q
theorem cuts_ints (ns : List Int) (lo hi : Option Int) : ∃ ms : List Int, cutV (ns.map V.int) lo hi = ms.map V.int ∧ ms.length ≤ ns.length := by
  obtain ⟨a, b, e⟩ := cut_sub (ns.map V.int) lo hi
  exact ⟨(ns.drop a).take b, by rw [e, List.map_take, List.map_drop], by rw [List.length_take, List.length_drop]; omega⟩
structure Fns (P : Program) (w : World) (K : PySem.W.Frag) (mg : Str → Option Value) (base : Heap) (ps : List Str) (name : Str) (sp : Sp) (k : Nat) where
  g : Addr
  gd : FuncData
  ok : FnOk P w K mg base CX0 k g gd ps sp
  b : Binds K gd ps []
  kp : PySem.W.keepIn K (.ref g) = true
  m : mg name = some (.ref g)
def Fns.up {P : Program} {w : World} {K : PySem.W.Frag} {mg : Str → Option Value} {base : Heap} {ps : List Str} {name : Str} {sp : Sp} {j k : Nat} (f : Fns P w K mg base ps name sp j) (h : j ≤ k) : Fns P w K mg base ps name sp k := ⟨f.g, f.gd, f.ok.mono h, f.b, f.kp, f.m⟩
end L2
set_option Elab.async false
set_option linter.all false
set_option maxRecDepth 100000
namespace L2
open PySem PySem.Spec PyProof.Rows
def tMid (t : TS) : TS := fun D σ H => ∃ Mid : St → Hp → Prop, t { D with nx := Mid } σ H ∧ ∀ σ' H', Mid σ' H' → D.nx σ' H'
theorem ps_mid {X : Cx} {st : Stmt} {t : TS} (h : PS X st t) : PS X st (tMid t) := by
  intro pins s σ H D I ⟨Mid, h1, h2⟩
  refine thn (h pins s σ H _ I h1) fun fl s' q => ?_
  cases fl with
  | next => obtain ⟨σ', H', I', m⟩ := q; exact ⟨σ', H', I', h2 _ _ m⟩
  | brk => exact q
  | cont => exact q
  | ret u => exact q
def eMid (t : TE) : TE := fun σ H Q => ∃ Mid : V → Hp → Prop, t σ H Mid ∧ ∀ v H', Mid v H' → Q v H'
theorem pe_mid {X : Cx} {e : Expr} {t : TE} (h : PE X e t) : PE X e (eMid t) := by
  intro pins s σ H Q I ⟨Mid, h1, h2⟩
  exact thn (h pins s σ H _ I h1) fun u s' ⟨v, H', I', r, m⟩ => ⟨v, H', I', r, h2 _ _ m⟩
theorem ixL {X : Cx} (K : PySem.W.Frag) (h : X.K = K := by rfl) : IxR X (rIxL K) := by subst h; exact ix_list
theorem ixT {X : Cx} (K : PySem.W.Frag) (h : X.K = K := by rfl) : IxR X (rIxT K) := by subst h; exact ix_tup
section
variable {X : Cx} {elt iter : Expr} {tg : Str} {tp : Pos} {cs : List Expr} {scope : Scope} {pos : Pos} {tc : TT} {te : TE} {M : List Str}
end
end L2
set_option Elab.async false
set_option linter.all false
set_option maxRecDepth 100000
namespace L2
open PySem PySem.Spec PyProof.Rows
def ExcAt (h : Heap) (e : Addr) (cls : Value) (od : Option Addr) (hd : Value) : Prop := ∃ oe vs, h.get? e = some oe ∧ oe.cls = cls ∧ oe.dict = od ∧ oe.data = .fields vs ∧ vs[1]? = some hd
def TbAt (h : Heap) (T : Addr) (fl : Value) : Prop := ∃ oT ts, h.get? T = some oT ∧ oT.data = .fields ts ∧ ts[3]? = some fl
section
variable {S S' fs : List Addr} {h h1 h2 : Heap}
end
section
variable {M : Model} {A : Around} {E : Value → Shared → Prop} {s : Shared} {env : Env} {outer : List Env} {base : Heap} {L e T : Addr} {cls hd fl head : Value} {od : Option Addr} {S : List Addr} {Q : Unit → Shared → Prop}
def Loose (h : Heap) (e : Addr) (cls : Value) (od : Option Addr) (S : List Addr) : Prop :=
  e ∈ S ∧ (∀ b ∈ S, ∀ o, h.get? b = some o → ∃ vs, o.data = .fields vs) ∧ ∃ hd, ExcAt h e cls od hd ∧ (hd = .none ∨ ∃ T, T ∈ S ∧ hd = .ref T ∧ T ≠ e ∧ TbAt h T .none)
end
section
variable {X : Cx} {pins : List (Addr × Obj)} {σ : St} {H H' : Hp} {s : Shared} {h' : Heap} {b : Addr} {S : List Addr}
end
def CXF (P : Program) (w : World) : CXT := fun outer H s E e s' => ∃ (ea : Addr) (cls : Value) (od : Option Addr) (S : List Addr) (H' : Hp), e = .ref ea ∧ s'.os = s.os ∧ AllBare s'.gens ∧
  Un (frs outer) [] H H' s.heap s'.heap ∧ HOk P w H' s'.heap ∧ Loose s'.heap ea cls od S ∧ (∀ b ∈ S, s.heap.get? b = none ∧ H' b = none) ∧ E cls od H'
section
variable {P : Program} {w : World} {K : PySem.W.Frag} {mg : Str → Option Value} {base : Heap} {N : List Str} {qual : Str} {scope : Scope} {f : Addr} {cd : Value} {A : Around} {outer : List Env} {s₀ : Shared} {H₀ : Hp} {E : XK}
end
abbrev Cx.hand (X : Cx) (ea : Addr) : Cx := { X with A := X.A.mark (some (.ref ea)), calm := false, xe := fun _ _ => False }
section
variable {X : Cx} {pins pins' : List (Addr × Obj)} {σ : St} {H : Hp} {s : Shared} {h' : Heap} {ea : Addr} {xe : Value → Shared → Prop}
end
end L2
set_option Elab.async false
set_option linter.all false
set_option maxRecDepth 100000
namespace L2
open PySem PySem.Spec PyProof.Rows
section
variable {K : PySem.W.Frag} {prog : Program} {w : World} {A : Around} {E : Value → Shared → Prop} {s : Shared} {x C : Addr} {ox : Obj} {od : Option Obj} {name : Str} {tk : Tok}
end
section
variable {K : PySem.W.Frag} {C D : Addr}
end
structure Fns' (P : Program) (w : World) (K : PySem.W.Frag) (mg : Str → Option Value) (base : Heap) (ps : List Str) (name : Str) (sp : Sp) (k : Nat) where
  g : Addr
  gd : FuncData
  ok : FnOk P w K mg base (CXF P w) k g gd ps sp
  b : Binds K gd ps []
  kp : PySem.W.keepIn K (.ref g) = true
  m : mg name = some (.ref g)
def Fns'.up {P : Program} {w : World} {K : PySem.W.Frag} {mg : Str → Option Value} {base : Heap} {ps : List Str} {name : Str} {sp : Sp} {j k : Nat} (f : Fns' P w K mg base ps name sp j) (h : j ≤ k) : Fns' P w K mg base ps name sp k := ⟨f.g, f.gd, f.ok.mono h, f.b, f.kp, f.m⟩
end L2
set_option Elab.async false
set_option linter.all false
set_option maxRecDepth 100000
namespace L2
open PySem PySem.Spec PyProof.Rows
theorem old_tup {P : Program} {w : World} {H : Hp} {h : Heap} {a : Addr} {xs : List V} (x : ObjOk P w H h a (.tup xs)) : xs.length ≤ sizeLine ∧ ∃ its : List Value, Vals xs its ∧ PyProof.Rows.IsTup h a its.toArray := by
  obtain ⟨z, its, r, p⟩ := x
  exact ⟨z, its, r, IsTp.is p⟩
end L2
set_option Elab.async false
set_option linter.all false
set_option maxRecDepth 100000
set_option maxHeartbeats 1000000
namespace L2
open PySem PySem.Spec PyProof.Rows
section
variable {X : Cx}
def tFmt (tv : TE) : TE := fun σ H Q => tv σ H fun v H1 => (∃ z, v = .str z ∧ z.length ≤ sizeLine ∧ Q (.str z) H1) ∨ ∃ i, v = .int i ∧ i.natAbs.log2 < 1920 ∧ Q (.str (toString i)) H1
theorem pe_fmt {value : Expr} {pos : Pos} {tv : TE} (hv : PE X value tv) : PE X (.FormattedValue value (-1) none pos) (tFmt tv) := by
  intro pins s σ H Q I h
  refine FormattedValue_plain (thn (hv pins s σ H _ I h) fun v s1 ⟨x, H1, I1, r1, q1⟩ => ?_)
  rcases q1 with ⟨z, rfl, hz, q⟩ | ⟨i, rfl, hi, q⟩
  · obtain ⟨t, rfl⟩ := r1
    exact formatField_str (fun t' tk => ⟨.str z, H1, I1.tok _, ⟨_, rfl⟩, q⟩) hz
  · obtain ⟨t, rfl⟩ := r1
    exact formatField_int_small hi ⟨.str _, H1, I1.tok _, ⟨_, rfl⟩, q⟩
abbrev TJ := Str → TE
def PJ (X : Cx) (es : List Expr) (t : TJ) : Prop := ∀ (out : Str) (pins : List (Addr × Obj)) (s : Shared) (σ : St) (H : Hp) (Q : VK), Inv X pins σ H s → t out σ H Q → wpAny (model X.prog X.w) X.A (joinParts out (evalEach es X.env)) (EP X pins σ Q) X.xe s
def tJ0 : TJ := fun out σ H Q => out.length ≤ sizeLine ∧ Q (.str out) H
def tJ1 (te : TE) (tj : TJ) : TJ := fun out σ H Q => te σ H fun v H1 => ∃ z, v = .str z ∧ (out ++ z).length ≤ sizeLine ∧ tj (out ++ z) σ H1 Q
theorem pj_nil : PJ X [] tJ0 := fun out pins s σ H Q I h => joinParts_nil ⟨.str out, H, I.tok _, ⟨_, rfl⟩, h.2⟩ h.1
theorem pj_cons {e : Expr} {es : List Expr} {te : TE} {tj : TJ} (he : PE X e te) (hj : PJ X es tj) : PJ X (e :: es) (tJ1 te tj) := by
  intro out pins s σ H Q I h
  show wpAny _ _ (joinParts out (eval e X.env :: evalEach es X.env)) _ _ _
  refine joinParts_cons (thn (he pins s σ H _ I h) fun v s1 ⟨x, H1, I1, r1, q1⟩ => ?_)
  obtain ⟨z, rfl, hz, q⟩ := q1
  obtain ⟨t, rfl⟩ := r1
  exact ⟨hz, hj _ pins s1 σ H1 Q I1 q⟩
theorem pe_joined {v1 v2 : Expr} {rest : List Expr} {pos : Pos} {t : TJ} (h : PJ X (v1 :: v2 :: rest) t) : PE X (.JoinedStr (v1 :: v2 :: rest) pos) (t Str.empty) := by
  intro pins s σ H Q I hq
  exact JoinedStr_many (h Str.empty pins s σ H Q I hq)
theorem vals_strs : ∀ {zs : List Str} {its : List Value}, Vals (zs.map V.str) its → ∃ l : List (Str × Tok), its = strValues l ∧ l.map (·.1) = zs
  | [], _, .nil => ⟨[], rfl, rfl⟩
  | z :: zs, _, .cons ⟨t, e⟩ r => by
    obtain ⟨l, e1, e2⟩ := vals_strs r
    exact ⟨(z, t) :: l, by rw [e, e1]; rfl, by rw [List.map_cons, e2]⟩
theorem strs_vals : ∀ l : List (Str × Tok), Vals ((l.map (·.1)).map V.str) (strValues l)
  | [] => .nil
  | (z, t) :: l => .cons ⟨t, rfl⟩ (strs_vals l)
def rJoin : V → List V → Hp → VK → Prop := fun x vs H Q => ∃ (sep : Str) (l : Addr) (zs : List Str) (B : Nat), x = .str sep ∧ vs = [.ref l] ∧ H l = some (.lst (zs.map V.str)) ∧ (∀ z ∈ zs, z.length ≤ B) ∧ zs.length * B + zs.length * sep.length ≤ 16777216 ∧ Q (.str (Str.join sep zs)) H
theorem mt_join : MtM X "str.join" rJoin := by
  intro pins s σ H x vs v us Q I rx rv h
  obtain ⟨sep, l, zs, B, rfl, rfl, hH, hB, hz, q⟩ := h
  obtain ⟨t, rfl⟩ := rx
  obtain ⟨u, rfl, ru⟩ := rv.one
  cases ru
  obtain ⟨z, its, n, r, hl, e⟩ := I.lstM hH
  obtain ⟨ps, rfl, hp⟩ := vals_strs r
  have fit := StrLaws.joinFits hB hz
  have fl := joinFit_length fit
  rw [← hp] at fit fl
  refine call_meets F.slot_str_join (typeIs_str _ _ _) F.entry_str_join (F.args_str_join_2 _ _) (meets_str_join_list sep t l ps fit) ⟨⟨_, e, rfl, n, rfl⟩, ?_⟩
  rw [← hp, ← StrLaws.glued_eq_join] at q
  match ps, q with
  | [], q => exact ⟨fl, .str _, H, I.tok _, ⟨_, rfl⟩, q⟩
  | [p], q =>
    have e1 : Builtin.Str.glued sep ([p].map (·.1)) = p.1 := by rw [StrLaws.glued_eq_join]; rfl
    rw [e1] at q
    exact ⟨.str p.1, H, I, ⟨_, rfl⟩, q⟩
  | p :: p2 :: r, q => exact ⟨fl, .str _, H, I.tok _, ⟨_, rfl⟩, q⟩
def rSplit : V → List V → Hp → VK → Prop := fun x vs H Q => ∃ z y : Str, x = .str z ∧ vs = [.str y] ∧ (y.length == 0) = false ∧ z.length + 2 ≤ sizeLine ∧ ∀ p, H p = none → Q (.ref p) (upd H p (.lst ((Txt.split z y).map V.str)))
theorem mt_split : MtM X "str.split" rSplit := by
  intro pins s σ H x vs v us Q I rx rv h
  obtain ⟨z, y, rfl, rfl, hy, hz, q⟩ := h
  obtain ⟨t, rfl⟩ := rx
  obtain ⟨w', rfl, ru⟩ := rv.one
  obtain ⟨u, rfl⟩ := ru
  have fin : ∀ (l : List (Str × Tok)) (k : Nat), l.map (·.1) = Txt.split z y → EP X pins σ Q (.ref s.heap.objs.size) { s with toks := k, heap := s.heap.push { cls := .type "list", data := .seq (strValues l).toArray } } := fun l k e => by
    have r := strs_vals l
    rw [e] at r
    exact ⟨.ref _, _, I.lnew (t' := k) r (by
      rw [List.length_map]
      have := split_le z y
      omega), rfl, q _ I.fresh⟩
  have hn : (Builtin.Str.partsBetween z (Builtin.Str.occurrences z y 0 z.length (z.length + 1)) y.length).length ≤ sizeLine := by
    have e1 := StrLaws.occ_length_le z y 0 z.length (z.length + 1)
    rw [length_partsBetween]; omega
  cases h1 : (decide (z.length < y.length) || decide (Builtin.Str.strKind z < Builtin.Str.strKind y))
  · cases hf : (Builtin.Str.occurrences z y 0 z.length (z.length + 1)).isEmpty
    · refine call_meets F.slot_str_split (typeIs_str _ _ _) F.entry_str_split (F.args_str_split_2 _ _) (meets_str_split_sep z y t u h1 hy hf (by omega) hn) ?_
      show wants _ _ _ { s with toks := _, heap := s.heap.push { cls := .type "list", data := .seq (strsFrom s.toks (Builtin.Str.partsBetween z (Builtin.Str.occurrences z y 0 z.length (z.length + 1)) y.length)).toArray } }
      rw [strsFrom_eq]
      exact fin (numbered s.toks _) _ ((numbered_texts _ _).trans ((if_neg (ne_true_of_eq_false h1)).trans (if_neg (ne_true_of_eq_false hf))).symm)
    · exact call_meets F.slot_str_split (typeIs_str _ _ _) F.entry_str_split (F.args_str_split_2 _ _) (meets_str_split_not_found z y t u h1 hy hf) (fin [(z, t)] s.toks ((if_neg (ne_true_of_eq_false h1)).trans (if_pos hf)).symm)
  · exact call_meets F.slot_str_split (typeIs_str _ _ _) F.entry_str_split (F.args_str_split_2 _ _) (meets_str_split_cannot_occur z y t u h1) (fin [(z, t)] s.toks (if_pos h1).symm)
def rIntS : List V → Hp → VK → Prop := fun xs H Q => ∃ (z : Str) (n : Int), xs = [.str z] ∧ PySem.intText? z = some n ∧ z.length ≤ 640 ∧ Q (.int n) H
theorem call_int_str : CallR X (.type "int") rIntS := by
  intro pins s σ H xs us Q I r h
  obtain ⟨z, n, rfl, hn, hl, q⟩ := h
  obtain ⟨u, rfl, t, rfl⟩ := vals1 r
  exact PySem.W.KIN.call_text hn hl ⟨.int n, H, I.tok _, ⟨_, rfl⟩, q⟩
end
end L2
set_option Elab.async false
set_option linter.all false
set_option maxRecDepth 100000
set_option maxHeartbeats 1000000
namespace L2
open PySem PySem.Spec PyProof.Rows
def Asc (z : Str) : Prop := z.cps.all (· < 128) = true
def Its (z : Str) : It := ⟨fun i _ => i < z.cps.size, fun i H x H' => H' = H ∧ ∃ c, z.cps[i]? = some c ∧ x = .str ⟨#[c]⟩, fun i _ => z.cps.size ≤ i⟩
theorem turn_str {P : Program} {w : World} {K : PySem.W.Frag} {tg : Expr} (z : Str) (t : Tok) (it : Addr) : Turn P w K tg (Its z) [it] it (fun i h => h.IsStrIter it "str_ascii_iterator" z t i) where
  mem := by simp
  obj := fun i h st b hb => by
    have e : b = it := by simpa using hb
    subst e
    obtain ⟨o, e, c, d⟩ := st
    exact ⟨o, e, fun v z => by rw [d] at z; cases z⟩
  keep := fun i h h' st k => let ⟨o, ho, r⟩ := st; ⟨o, k it (by simp) o ho, r⟩
  item := by
    intro X hP hw hK hc i pins s σ H E I hf st hg
    subst hP hw hK
    obtain ⟨f0, f1, f2, f3, f4, f5⟩ := hf it (by simp)
    have hg : i < z.cps.size := hg
    refine wpAny_pyNext_ascii_item st (c := z.cps[i]) (by simp [hg]) fun h' st' sb => ?_
    have I1 : Inv X pins σ H { s with heap := h', toks := s.toks + 1 } := I.turned (t' := s.toks + 1) (fun b o hb e => (sb.2 b hb).trans e) f0 f1 f3 f4 f5
    obtain ⟨o, e, c, d⟩ := id st'
    exact ⟨_, rfl, go_of (s := { s with heap := h', toks := s.toks + 1 }) e c d (by decide) ⟨.str ⟨#[z.cps[i]]⟩, H, I1, ⟨_, rfl⟩, ⟨rfl, _, by simp [hg], rfl⟩, st', fun b hb => (hf b hb).1⟩⟩
  done := by
    intro X hP hw hK hc i pins s σ H E I hf st hg
    subst hP hw hK
    obtain ⟨f0, f1, f2, f3, f4, f5⟩ := hf it (by simp)
    have hg : z.cps.size ≤ i := hg
    exact wpAny_pyNext_ascii_end (I.ok.hd hc) st (by simp [hg]) fun h' eb => ⟨rfl, I.turned (t' := s.toks) (fun b o hb e => eb b o hb e) f0 f1 f3 f4 f5⟩
  self := fun _ _ _ _ _ st h => wpAny_pyIter_striter_ascii st h
section
variable {X : Cx} {tg : Expr}
def iStr (tl : TE) : TI := fun σ H R => tl σ H fun x H1 => ∃ z, x = .str z ∧ Asc z ∧ R (Its z) H1
theorem pi_str {l : Expr} {tl : TE} (hl : PE X l tl) : PI X tg l (iStr tl) := by
  intro pins s σ H R I h
  refine thn (hl pins s σ H _ I h) fun v s1 ⟨x, H1, I1, r1, q1⟩ => ?_
  obtain ⟨z, e, ha, q⟩ := q1
  subst e
  obtain ⟨t, rfl⟩ := r1
  refine wpAny_pyIter_ascii ha ?_
  refine ⟨s1.heap.objs.size, [s1.heap.objs.size], _, _, H1, rfl, I1.kept (t' := s1.toks) fun b o e => Heap.get?_push_of_some _ e, turn_str z t _, ⟨_, Heap.get?_push_size _ rfl, rfl, rfl⟩, fun b hb => ?_, q⟩
  have e : b = s1.heap.objs.size := by simpa using hb
  subst e
  exact I1.fpOk (Nat.le_refl _) (I1.hok.fresh (Nat.le_refl _))
end
theorem comp_str {z : Str} {k : Nat} {g : TG} {tc : TT} {te : TE} {σ : St} {H : Hp} {Q : VK} {d : Addr} (Pv : Nat → Hp → Prop) (h0 : Pv 0 (upd H d (.lst [])))
    (hs : ∀ i c H, z.cps.toList[i]? = some c → Pv i H → g (.str ⟨#[c]⟩) (List.replicate k none ++ σ) H fun σ2 H2 => tc σ2 H2 fun b H3 => if b = true then te σ2 H3 fun y H4 => ∃ ys, H4 d = some (.lst ys) ∧ ys.length < sizeLine ∧ Pv (i + 1) (upd H4 d (.lst (ys ++ [y]))) else Pv (i + 1) H3)
    (hd : ∀ H, Pv z.cps.size H → Q (.ref d) H) :
    ∃ W : Nat → Nat → Hp → Prop, (∃ m, W 0 m (upd H d (.lst []))) ∧ ∀ i m H, W i m H →
      ((Its z).stop i H ∧ Q (.ref d) H) ∨ ((Its z).go i H ∧ ∃ N : Hp → Prop, (∀ H', N H' → ∃ m', m' < m ∧ W (i + 1) m' H') ∧ ∀ x H', (Its z).yld i H x H' → g x (List.replicate k none ++ σ) H' fun σ2 H2 =>
        tc σ2 H2 fun b H3 => if b = true then te σ2 H3 fun y H4 => ∃ ys, H4 d = some (.lst ys) ∧ ys.length < sizeLine ∧ N (upd H4 d (.lst (ys ++ [y]))) else N H3) := by
  refine ⟨fun i m H => m = z.cps.size - i ∧ i ≤ z.cps.size ∧ Pv i H, ⟨z.cps.size, by simp, Nat.zero_le _, h0⟩, ?_⟩
  rintro i m H ⟨rfl, hi, p⟩
  by_cases hlt : i < z.cps.size
  · refine .inr ⟨hlt, Pv (i + 1), fun H' p' => ⟨z.cps.size - (i + 1), by omega, rfl, hlt, p'⟩, fun x H' y => ?_⟩
    obtain ⟨e, c, hc, y⟩ := y
    subst e y
    exact hs i c _ (by rw [Array.getElem?_toList]; exact hc) p
  · have e : i = z.cps.size := by omega
    subst e
    exact .inl ⟨Nat.le_refl _, hd H p⟩
def tCompStr (tl : TE) (tc : TT) (te : TE) : TE := fun σ H Q => tl σ H fun v H1 => ∃ z, v = .str z ∧ Asc z ∧ ∀ d, H1 d = none →
  ∃ Pv : Nat → Hp → Prop, Pv 0 (upd H1 d (.lst [])) ∧ (∀ i c H, z.cps.toList[i]? = some c → Pv i H → turnC tc te σ d (.str ⟨#[c]⟩) H (Pv (i + 1))) ∧ ∀ H, Pv z.cps.size H → Q (.ref d) H
section
variable {X : Cx} {elt iter : Expr} {tg : Str} {tp : Pos} {cs : List Expr} {scope : Scope} {pos : Pos} {tc : TT} {te : TE} {M : List Str}
theorem pe_compStr {tl : TE} (hc : X.calm = true) (S : CompScope scope X.env X.N M) (nd : (tg :: M).Nodup) (hl : scope.names.lookup tg = some .local) (hi : PE X iter tl) (mo : MonoE tl)
    (hin : Inner X scope tg M cs elt tc te) (hf : ∀ x, foldedSetIterable iter X.env x = pure x := by intro _; rfl) : PE X (.ListComp elt [⟨.Name tg tp, iter, cs, 0⟩] scope pos) (tCompStr tl tc te) := by
  refine pe_compG hc S nd hl (pi_str hi) hin (fun σ H Q h => ?_) hf
  refine mo σ H _ _ (fun v H1 q => ?_) h
  obtain ⟨z, e, ha, q⟩ := q
  refine ⟨z, e, ha, fun d hd => ?_⟩
  obtain ⟨Pv, h0, hs, hd⟩ := q d hd
  exact comp_str (k := 1) (g := gName 0) Pv h0 hs hd
end
end L2
set_option Elab.async false
set_option linter.all false
set_option maxRecDepth 100000
namespace L2
open PySem PySem.Spec PyProof.Rows
def SIt : Bool → Heap → Addr → Addr → Nat → Prop
  | true, h, i, l, n => h.IsTupleIter i l n
  | false, h, i, l, n => h.IsListIter i l n
def SAt : Bool → Heap → Addr → Array Value → Prop
  | true, h, l, xs => h.IsTuple l xs
  | false, h, l, xs => h.IsList l xs
theorem SIt.at {k : Bool} {h h' : Heap} {i l : Addr} {n : Nat} (x : SIt k h i l n) (e : ∀ o, h.get? i = some o → h'.get? i = some o) : SIt k h' i l n := by
  cases k with
  | true => obtain ⟨o, ho, r⟩ := x; exact ⟨o, e o ho, r⟩
  | false => obtain ⟨o, ho, r⟩ := x; exact ⟨o, e o ho, r⟩
theorem SIt.obj {k : Bool} {h : Heap} {i l : Addr} {n : Nat} (x : SIt k h i l n) : ∃ o, h.get? i = some o ∧ ∀ v, o.data ≠ .cell v := by
  cases k with
  | true => obtain ⟨o, ho, _, d⟩ := x; exact ⟨o, ho, fun v z => by rw [d] at z; cases z⟩
  | false => obtain ⟨o, ho, _, d⟩ := x; exact ⟨o, ho, fun v z => by rw [d] at z; cases z⟩
theorem SAt.at {k : Bool} {h h' : Heap} {l : Addr} {xs : Array Value} (x : SAt k h l xs) (e : ∀ o, h.get? l = some o → h'.get? l = some o) : SAt k h' l xs := by
  cases k with
  | true => obtain ⟨o, ho, r⟩ := x; exact ⟨o, e o ho, r⟩
  | false => obtain ⟨o, ho, r⟩ := x; exact ⟨o, e o ho, r⟩
section
variable {prog : Program} {w : World} {A : Around} {E : Value → Shared → Prop} {s : Shared} {k : Bool} {it l : Addr} {i : Nat} {xs : Array Value} {x : Value} {Q : Value → Shared → Prop}
theorem nextS (hit : SIt k s.heap it l i) (hl : SAt k s.heap l xs) (hx : xs[i]? = some x) (hQ : ∀ h', SIt k h' it l (i + 1) → Heap.SameBut it s.heap h' → Q x { s with heap := h' }) :
    wpAny (model prog w) A (Builtin.SmallTypes.nextOf (.ref it)) Q E s := by
  cases k with
  | false => exact wpAny_nextOf_list_item hit hl hx hQ
  | true =>
    have hit' : s.heap.IsTupleIter it l i := hit
    obtain ⟨o, ho, hc, hd⟩ := id hit'
    obtain ⟨ol, hol, _, nl, hdl⟩ := hl
    unfold Builtin.SmallTypes.nextOf
    refine wpAny_bind (wpAny_callSpecial?_slot (name := Str.ofString "__next__") hit'.typeIs F.slot_tuple_iterator_next (wpAny_call_entry F.slot_tuple_iterator_next hit'.typeIs F.entry_tuple_iterator_next ?_ (F.args_tuple_iterator_next_1 _)))
    show wpAny _ _ (field (.ref it) 0 >>= _) _ _ s
    refine wpAny_bind (wpAny_field ho hd (x := .ref l) rfl ?_)
    show wpAny _ _ (if (Value.ref l == Value.none) = true then _ else _) _ _ s
    rw [if_neg (show ¬ ((Value.ref l == Value.none) = true) from Bool.false_ne_true)]
    show wpAny _ _ (field (.ref it) 1 >>= _) _ _ s
    refine wpAny_bind (wpAny_field ho hd (x := .int i 0) rfl (show wpAny _ _ (seqItems? (.ref l) >>= _) _ _ s from wpAny_bind (wpAny_seqItems hol hdl ?_)))
    simp only [Int.toNat_natCast, hx]
    refine wpAny_bind (wpAny_setField ho hd (by simp) (wpAny_pure ⟨x, rfl, wpAny_pure (hQ _ ?_ (Heap.SameBut.update ..))⟩))
    exact ⟨_, Heap.get?_update_self _ ho (Obj.isFreed_of_fields (Obj.data_mapFields hd _)), (Obj.cls_mapFields ..).trans hc, by rw [Obj.data_mapFields hd]; simp [rawInt]⟩
theorem endS (hh : A.handled = none) (hit : SIt k s.heap it l i) (hl : SAt k s.heap l xs) (hx : xs[i]? = none) (hE : ∀ h' e, Heap.ExtBut it s.heap h' → (∃ o, h'.get? e = some o ∧ o.cls = .type "StopIteration") → E (.ref e) { s with heap := h' }) :
    wpAny (model prog w) A (Builtin.SmallTypes.nextOf (.ref it)) Q E s := by
  cases k with
  | false => exact wpAny_nextOf_list_end hh hit hl hx hE
  | true =>
    have hit' : s.heap.IsTupleIter it l i := hit
    obtain ⟨o, ho, hc, hd⟩ := id hit'
    obtain ⟨ol, hol, _, nl, hdl⟩ := hl
    unfold Builtin.SmallTypes.nextOf
    refine wpAny_bind (wpAny_callSpecial?_slot (name := Str.ofString "__next__") hit'.typeIs F.slot_tuple_iterator_next (wpAny_call_entry F.slot_tuple_iterator_next hit'.typeIs F.entry_tuple_iterator_next ?_ (F.args_tuple_iterator_next_1 _)))
    show wpAny _ _ (field (.ref it) 0 >>= _) _ _ s
    refine wpAny_bind (wpAny_field ho hd (x := .ref l) rfl ?_)
    show wpAny _ _ (if (Value.ref l == Value.none) = true then _ else _) _ _ s
    rw [if_neg (show ¬ ((Value.ref l == Value.none) = true) from Bool.false_ne_true)]
    show wpAny _ _ (field (.ref it) 1 >>= _) _ _ s
    refine wpAny_bind (wpAny_field ho hd (x := .int i 0) rfl (show wpAny _ _ (seqItems? (.ref l) >>= _) _ _ s from wpAny_bind (wpAny_seqItems hol hdl ?_)))
    simp only [Int.toNat_natCast, hx]
    refine wpAny_bind (wpAny_rule (wpAny_bind (wpAny_setField ho hd (by simp) ?_)))
    show wpAny _ _ (newExc (.type "StopIteration") [] >>= _) _ _ _
    refine wpAny_bind ?_
    simp only [newExc, newTuple]
    refine wpAny_bind (wpAny_newObj_type ?_ (by size_fits))
    refine wpAny_bind (m := firstArgMember _ _) (wpAny_of_eq (a := Value.none) (by first | rfl | (simp only [firstArgMember]; rfl)) ?_)
    refine wpAny_newObj_type ?_ (by size_fits)
    simp only [raiseNew]
    refine wpAny_bind (wpAny_handled ?_)
    rw [show A.in1.handled = none from hh]
    refine wpAny_bind (wpAny_pure (wpAny_throw ?_))
    exact hE _ _ (((Heap.SameBut.update ..).extBut.push _).push _) ⟨_, Heap.get?_push_size _ rfl, rfl⟩
end
structure ZAt (ka kb : Bool) (z TI TO i1 i2 l1 l2 : Addr) (n : Nat) (h : Heap) : Prop where
  zp : IsZip h z TI TO .none
  ti : IsPair h TI (.ref i1) (.ref i2)
  to_ : ∃ a b, IsPair h TO a b
  a1 : SIt ka h i1 l1 n
  a2 : SIt kb h i2 l2 n
section
variable {prog : Program} {w : World} {A : Around} {E : Value → Shared → Prop} {s : Shared} {ka kb : Bool} {z TI TO i1 i2 l1 l2 : Addr} {n : Nat} {xs ys : Array Value} {x y : Value}
theorem zipS_item {Q : Value → Shared → Prop} (D : ZipApart z TI TO i1 i2 l1 l2) (Z : ZAt ka kb z TI TO i1 i2 l1 l2 n s.heap) (hl1 : SAt ka s.heap l1 xs) (hl2 : SAt kb s.heap l2 ys) (hx : xs[n]? = some x) (hy : ys[n]? = some y)
    (hQ : ∀ h', IsZip h' z TI TO (rawInt s.heap.objs.size) → IsPair h' TO x y → SIt ka h' i1 l1 (n + 1) → SIt kb h' i2 l2 (n + 1) → IsPair h' s.heap.objs.size x y →
      (∀ c o, c ≠ z → c ≠ TO → c ≠ i1 → c ≠ i2 → s.heap.get? c = some o → h'.get? c = some o) → Q (.ref s.heap.objs.size) { s with heap := h' }) :
    wpAny (model prog w) A (Builtin.«zip.__next__» ⟨[.ref z], []⟩) (fun fin s' => ∃ v, fin = .done (.ret v) ∧ Q v s') E s := by
  obtain ⟨hz, hTI, ⟨a, b, hTO⟩, h1, h2⟩ := Z
  show wpAny _ _ (field (.ref z) 2 >>= _) _ _ _
  refine wpAny_bind (wpAny_field hz rfl (x := .bool false) rfl ?_)
  show wpAny _ _ (field (.ref z) 3 >>= _) _ _ _
  refine wpAny_bind (wpAny_field hz rfl (x := .ref TI) rfl (wpAny_bind (wpAny_seqItems hTI rfl ?_)))
  show wpAny _ _ (Builtin.SmallTypes.ownedTupleIsFree (.ref z) >>= _) _ _ _
  refine wpAny_bind ?_
  unfold Builtin.SmallTypes.ownedTupleIsFree
  refine wpAny_bind (wpAny_field hz rfl (x := .none) rfl (wpAny_pure ?_))
  simp only [if_true]
  refine wpAny_bind (wpAny_rule (wpAny_bind (wpAny_field hz rfl (x := .ref TO) rfl (wpAny_bind (wpAny_setField_rec hz (by simp) fun g1 z1 b1 => ?_)))))
  have z1' : IsZip g1 z TI TO .ellipsis := z1
  have k1 : ∀ c o, c ≠ z → s.heap.get? c = some o → g1.get? c = some o := fun c o hc e => b1.extBut _ _ hc e
  refine wpAny_bind ?_
  simp only [List.zipIdx_cons, List.zipIdx_nil, List.forIn_cons, List.forIn_nil]
  refine wpAny_bind (wpAny_bind (wpAny_onRaise ?_))
  show wpAny _ _ (Builtin.SmallTypes.nextOf (.ref i1) >>= _) _ _ _
  refine wpAny_bind (nextS (s := { s with heap := g1 }) (h1.at fun o e => k1 _ o D.i1z e) (hl1.at fun o e => k1 _ o D.l1z e) hx fun g2 h12 b2 => wpAny_pure ?_)
  have k2 : ∀ c o, c ≠ z → c ≠ i1 → s.heap.get? c = some o → g2.get? c = some o := fun c o hc hd e => b2.extBut _ _ hd (k1 c o hc e)
  have o2 : IsPair g2 TO a b := k2 _ _ D.TOz D.TOi1 hTO
  refine wpAny_bind (wpAny_seqItems o2 rfl (wpAny_bind (wpAny_updateSeq_pair (s := { s with heap := g2 }) o2 fun g3 o3 b3 => ?_)))
  have o3' : IsPair g3 TO x b := o3
  refine wpAny_bind (wpAny_letGo (wpAny_pure ?_))
  refine wpAny_bind (wpAny_bind (wpAny_onRaise ?_))
  show wpAny _ _ (Builtin.SmallTypes.nextOf (.ref i2) >>= _) _ _ _
  have k3 : ∀ c o, c ≠ z → c ≠ i1 → c ≠ TO → s.heap.get? c = some o → g3.get? c = some o := fun c o hc hd he e => b3.extBut _ _ he (k2 c o hc hd e)
  refine wpAny_bind (nextS (s := { s with heap := g3 }) (h2.at fun o e => k3 _ o D.i2z D.i12.symm D.TOi2.symm e) (hl2.at fun o e => k3 _ o D.l2z D.l2i1 D.l2TO e) hy fun g4 h24 b4 => wpAny_pure ?_)
  have o4 : IsPair g4 TO x b := b4.extBut _ _ D.TOi2 o3'
  refine wpAny_bind (wpAny_seqItems o4 rfl (wpAny_bind (wpAny_updateSeq_pair (s := { s with heap := g4 }) o4 fun g5 o5 b5 => ?_)))
  have o5' : IsPair g5 TO x y := o5
  refine wpAny_bind (wpAny_letGo (wpAny_pure (wpAny_pure ?_)))
  refine wpAny_bind (wpAny_seqItems o5' rfl (wpAny_bind (wpAny_newTuple ?_)))
  have sz : g5.objs.size = s.heap.objs.size := by rw [b5.1, b4.1, b3.1, b2.1, b1.1]
  have z5 : IsZip g5 z TI TO .ellipsis := b5.extBut _ _ D.TOz.symm (b4.extBut _ _ D.i2z.symm (b3.extBut _ _ D.TOz.symm (b2.extBut _ _ D.i1z.symm z1')))
  have k5 : ∀ c o, c ≠ z → c ≠ TO → c ≠ i1 → c ≠ i2 → s.heap.get? c = some o → g5.get? c = some o := fun c o c1 c2 c3 c4 e => b5.extBut _ _ c2 (b4.extBut _ _ c4 (k3 c o c1 c3 c2 e))
  have h15 : SIt ka g5 i1 l1 (n + 1) := h12.at fun o e => b5.extBut _ _ D.TOi1.symm (b4.extBut _ _ D.i12 (b3.extBut _ _ D.TOi1.symm e))
  have h25 : SIt kb g5 i2 l2 (n + 1) := h24.at fun o e => b5.extBut _ _ D.TOi2.symm e
  have zl : z < g5.objs.size := Heap.lt_size z5
  show wpAny _ _ (Builtin.SmallTypes.ownedTupleHandOut (.ref z) (.ref g5.objs.size) >>= _) _ _ _
  refine wpAny_bind ?_
  unfold Builtin.SmallTypes.ownedTupleHandOut
  have z6 : IsZip (g5.push { cls := .type "tuple", data := .seq #[x, y] }) z TI TO .ellipsis := Heap.get?_push_of_some _ z5
  refine wpAny_bind (wpAny_setField_rec z6 (by simp) fun g7 z7 b7 => ?_)
  replace z7 : IsZip g7 z TI TO (rawInt g5.objs.size) := z7
  refine wpAny_setField_rec z7 (by simp) fun g8 z8 b8 => ?_
  replace z8 : IsZip g8 z TI TO (rawInt g5.objs.size) := z8
  have up : ∀ c o, c ≠ z → g5.get? c = some o → g8.get? c = some o := fun c o c1 e => b8.extBut _ _ c1 (b7.extBut _ _ c1 (Heap.get?_push_of_some _ e))
  have p8 : IsPair g8 g5.objs.size x y := b8.extBut _ _ (Nat.ne_of_gt zl) (b7.extBut _ _ (Nat.ne_of_gt zl) (Heap.get?_push_size _ rfl))
  rw [sz] at z8 p8
  refine wpAny_pure ⟨_, rfl, ?_⟩
  show Q (.ref g5.objs.size) _
  rw [sz]
  exact hQ g8 z8 (up _ _ D.TOz o5') (h15.at fun o e => up _ o D.i1z e) (h25.at fun o e => up _ o D.i2z e) p8 fun c o c1 c2 c3 c4 e => up c o c1 (k5 c o c1 c2 c3 c4 e)
theorem zipS_end {Q : Fin → Shared → Prop} (hh : A.handled = none) (D : ZipApart z TI TO i1 i2 l1 l2) (Z : ZAt ka kb z TI TO i1 i2 l1 l2 n s.heap) (hl1 : SAt ka s.heap l1 xs) (hl2 : SAt kb s.heap l2 ys) (hend : xs[n]? = none ∨ ys[n]? = none)
    (hE : ∀ h' e, (∀ c o, c ≠ z → c ≠ TO → c ≠ i1 → c ≠ i2 → s.heap.get? c = some o → h'.get? c = some o) → (∃ o, h'.get? e = some o ∧ o.cls = .type "StopIteration") → E (.ref e) { s with heap := h' }) :
    wpAny (model prog w) A (Builtin.«zip.__next__» ⟨[.ref z], []⟩) Q E s := by
  obtain ⟨hz, hTI, ⟨a, b, hTO⟩, h1, h2⟩ := Z
  show wpAny _ _ (field (.ref z) 2 >>= _) _ _ _
  refine wpAny_bind (wpAny_field hz rfl (x := .bool false) rfl ?_)
  show wpAny _ _ (field (.ref z) 3 >>= _) _ _ _
  refine wpAny_bind (wpAny_field hz rfl (x := .ref TI) rfl (wpAny_bind (wpAny_seqItems hTI rfl ?_)))
  show wpAny _ _ (Builtin.SmallTypes.ownedTupleIsFree (.ref z) >>= _) _ _ _
  refine wpAny_bind ?_
  unfold Builtin.SmallTypes.ownedTupleIsFree
  refine wpAny_bind (wpAny_field hz rfl (x := .none) rfl (wpAny_pure ?_))
  simp only [if_true]
  refine wpAny_bind (wpAny_rule (wpAny_bind (wpAny_field hz rfl (x := .ref TO) rfl (wpAny_bind (wpAny_setField_rec hz (by simp) fun g1 z1 b1 => ?_)))))
  have z1' : IsZip g1 z TI TO .ellipsis := z1
  have k1 : ∀ c o, c ≠ z → s.heap.get? c = some o → g1.get? c = some o := fun c o hc e => b1.extBut _ _ hc e
  refine wpAny_bind ?_
  simp only [List.zipIdx_cons, List.zipIdx_nil, List.forIn_cons, List.forIn_nil]
  refine wpAny_bind (wpAny_bind (wpAny_onRaise ?_))
  show wpAny _ _ (Builtin.SmallTypes.nextOf (.ref i1) >>= _) _ _ _
  cases hx : xs[n]? with
  | none =>
    refine wpAny_bind (endS (s := { s with heap := g1 }) hh (h1.at fun o e => k1 _ o D.i1z e) (hl1.at fun o e => k1 _ o D.l1z e) hx fun g2 e b2 ⟨oe, he, ce⟩ => ?_)
    have z2 : IsZip g2 z TI TO .ellipsis := b2 _ _ D.i1z.symm z1'
    have ez : e ≠ z := fun q => by subst q; rw [z2] at he; cases he; simp at ce
    exact wpAny_setField_rec z2 (by simp) fun g3 _ b3 => hE g3 e (fun c o c1 _ c3 _ q => b3.extBut _ _ c1 (b2 _ _ c3 (k1 c o c1 q))) ⟨oe, b3.extBut _ _ ez he, ce⟩
  | some x =>
    have hy : ys[n]? = none := hend.resolve_left fun q => by rw [hx] at q; cases q
    refine wpAny_bind (nextS (s := { s with heap := g1 }) (h1.at fun o e => k1 _ o D.i1z e) (hl1.at fun o e => k1 _ o D.l1z e) hx fun g2 h12 b2 => wpAny_pure ?_)
    have k2 : ∀ c o, c ≠ z → c ≠ i1 → s.heap.get? c = some o → g2.get? c = some o := fun c o hc hd e => b2.extBut _ _ hd (k1 c o hc e)
    have o2 : IsPair g2 TO a b := k2 _ _ D.TOz D.TOi1 hTO
    refine wpAny_bind (wpAny_seqItems o2 rfl (wpAny_bind (wpAny_updateSeq_pair (s := { s with heap := g2 }) o2 fun g3 o3 b3 => ?_)))
    refine wpAny_bind (wpAny_letGo (wpAny_pure ?_))
    refine wpAny_bind (wpAny_bind (wpAny_onRaise ?_))
    show wpAny _ _ (Builtin.SmallTypes.nextOf (.ref i2) >>= _) _ _ _
    have k3 : ∀ c o, c ≠ z → c ≠ i1 → c ≠ TO → s.heap.get? c = some o → g3.get? c = some o := fun c o hc hd he e => b3.extBut _ _ he (k2 c o hc hd e)
    refine wpAny_bind (endS (s := { s with heap := g3 }) hh (h2.at fun o e => k3 _ o D.i2z D.i12.symm D.TOi2.symm e) (hl2.at fun o e => k3 _ o D.l2z D.l2i1 D.l2TO e) hy fun g4 e b4 ⟨oe, he, ce⟩ => ?_)
    have z4 : IsZip g4 z TI TO .ellipsis := b4 _ _ D.i2z.symm (b3.extBut _ _ D.TOz.symm (b2.extBut _ _ D.i1z.symm z1'))
    have ez : e ≠ z := fun q => by subst q; rw [z4] at he; cases he; simp at ce
    exact wpAny_setField_rec z4 (by simp) fun g5 _ b5 => hE g5 e (fun c o c1 c2 c3 c4 q => b5.extBut _ _ c1 (b4 _ _ c4 (k3 c o c1 c3 c2 q))) ⟨oe, b5.extBut _ _ ez he, ce⟩
theorem zipS_next {Q : Option Value → Shared → Prop} (D : ZipApart z TI TO i1 i2 l1 l2) (Z : ZAt ka kb z TI TO i1 i2 l1 l2 n s.heap) (hl1 : SAt ka s.heap l1 xs) (hl2 : SAt kb s.heap l2 ys) (hx : xs[n]? = some x) (hy : ys[n]? = some y)
    (hQ : ∀ h', IsZip h' z TI TO (rawInt s.heap.objs.size) → IsPair h' TO x y → SIt ka h' i1 l1 (n + 1) → SIt kb h' i2 l2 (n + 1) → IsPair h' s.heap.objs.size x y →
      (∀ c o, c ≠ z → c ≠ TO → c ≠ i1 → c ≠ i2 → s.heap.get? c = some o → h'.get? c = some o) → Q (some (.ref s.heap.objs.size)) { s with heap := h' }) : wpAny (model prog w) A (pyNext (.ref z)) Q E s := by
  have hT : s.TypeIs (.ref z) "zip" := ⟨_, Z.zp, rfl⟩
  unfold pyNext
  exact wpAny_bind (wpAny_attempt (wpAny_callSpecial?_slot (name := Str.ofString "__next__") hT F.slot_zip_next (wpAny_call_entry F.slot_zip_next hT F.entry_zip_next
    (zipS_item D Z hl1 hl2 hx hy fun h' a1 a2 a3 a4 a5 a7 => wpAny_pure (hQ h' a1 a2 a3 a4 a5 a7)) (F.args_zip_next_1 _))))
theorem zipS_stop {Q : Option Value → Shared → Prop} (hh : A.handled = none) (D : ZipApart z TI TO i1 i2 l1 l2) (Z : ZAt ka kb z TI TO i1 i2 l1 l2 n s.heap) (hl1 : SAt ka s.heap l1 xs) (hl2 : SAt kb s.heap l2 ys) (hend : xs[n]? = none ∨ ys[n]? = none)
    (hQ : ∀ h', (∀ c o, c ≠ z → c ≠ TO → c ≠ i1 → c ≠ i2 → s.heap.get? c = some o → h'.get? c = some o) → Q none { s with heap := h' }) : wpAny (model prog w) A (pyNext (.ref z)) Q E s := by
  have hT : s.TypeIs (.ref z) "zip" := ⟨_, Z.zp, rfl⟩
  unfold pyNext
  refine wpAny_bind (wpAny_attempt (wpAny_callSpecial?_slot (name := Str.ofString "__next__") hT F.slot_zip_next (wpAny_call_entry F.slot_zip_next hT F.entry_zip_next (zipS_end hh D Z hl1 hl2 hend fun h' e hk he => ?_) (F.args_zip_next_1 _))))
  obtain ⟨o, ho, hc⟩ := he
  exact wpAny_bind (wpAny_isInstance (T := "StopIteration") (b := true) ⟨o, ho, hc⟩ isSubtype_stop (wpAny_pure (hQ _ hk)))
end
end L2
set_option Elab.async false
set_option linter.all false
set_option maxRecDepth 100000
namespace L2
open PySem PySem.Spec PyProof.Rows
def SqK (K : PySem.W.Frag) : Bool → Hp → Addr → List V → Prop
  | true, H, a, xs => SqT K H a xs
  | false, H, a, xs => SqL K H a xs
theorem seqK {X : Cx} {pins : List (Addr × Obj)} {σ : St} {H : Hp} {s : Shared} {k : Bool} {a : Addr} {xs : List V} (I : Inv X pins σ H s) (h : SqK X.K k H a xs) : ∃ us, Vals xs us ∧ SAt k s.heap a us.toArray := by
  cases k with
  | true =>
    obtain ⟨its, rv, p, hz⟩ := I.tuple h
    exact ⟨its, rv, p⟩
  | false =>
    obtain ⟨its, rv, p, hz⟩ := I.list h
    exact ⟨its, rv, p.isList⟩
theorem seqK_inj {X : Cx} {pins : List (Addr × Obj)} {σ : St} {H : Hp} {s : Shared} {k : Bool} {a : Addr} {xs ys : List V} (I : Inv X pins σ H s) (h : SqK X.K k H a xs) (h2 : SqK X.K k H a ys) : xs = ys := by
  cases k with
  | true => exact I.tuple_inj h h2
  | false => exact I.list_inj h h2
theorem Inv.turnedL {X : Cx} {pins : List (Addr × Obj)} {σ : St} {H : Hp} {s : Shared} {h' : Heap} {t' : Nat} {L : List Addr} (I : Inv X pins σ H s) (k : ∀ b o, b ∉ L → s.heap.get? b = some o → h'.get? b = some o) (hf : ∀ b ∈ L, FpOk X pins H b) : Inv X pins σ H { s with heap := h', toks := t' } := by
  have nit : ∀ b u, H b = some u → b ∉ L := fun b u e z => by rw [(hf b z).1] at e; cases e
  have nl : X.env.locals ∉ L := fun z => (hf _ z).2.1 rfl
  refine I.step (g' := s.gens) (d' := s.drawn) (ch := L) (fun b hb => ?_) (fun b o _ _ hc e _ => k b o hc e) (fun b o _ _ hc e _ => ⟨o.slots, k b o hc e⟩) (fun _ _ _ _ n => n)
    (fun b o hc e => ⟨o, k b o hc e⟩) (fun _ _ e => e) (fun _ _ _ e => e) (fun b ps e => ⟨#[], by rw [e]; simp⟩) (fun m hm => ?_) (fun b u e => ?_) I.bare
  · obtain ⟨f0, f1, f2, f3, f4, f5⟩ := hf b hb
    exact ⟨f3, f1, f4, f5⟩
  · obtain ⟨o, es, ep, ho, r⟩ := hm
    exact ⟨o, es, ep, k _ o nl ho, r⟩
  · refine (I.hok b u e).stay (fun c v hc q => k c v ?_ q) (fun _ q => q) fun _ _ q => q
    rcases hc with z | z
    · rw [z]; exact nit b u e
    · exact nit c _ z
def Itz (K : PySem.W.Frag) (ka kb : Bool) (a b : Addr) : It :=
  ⟨fun i H => ∃ xs ys x y, SqK K ka H a xs ∧ SqK K kb H b ys ∧ xs[i]? = some x ∧ ys[i]? = some y,
   fun i H v H' => ∃ p x y, v = .ref p ∧ H p = none ∧ (∀ xs, SqK K ka H a xs → xs[i]? = some x) ∧ (∀ ys, SqK K kb H b ys → ys[i]? = some y) ∧ H' = upd H p (.tup [x, y]),
   fun i H => ∃ xs ys, SqK K ka H a xs ∧ SqK K kb H b ys ∧ (xs.length ≤ i ∨ ys.length ≤ i)⟩
theorem ZAt.obj {ka kb : Bool} {z TI TO i1 i2 l1 l2 : Addr} {n : Nat} {h : Heap} (Z : ZAt ka kb z TI TO i1 i2 l1 l2 n h) : ∀ b ∈ [z, TI, TO, i1, i2], ∃ o, h.get? b = some o ∧ ∀ v, o.data ≠ .cell v := fun b hb => by
  obtain ⟨hz, hTI, ⟨x, y, hTO⟩, h1, h2⟩ := Z
  simp only [List.mem_cons, List.not_mem_nil, or_false] at hb
  rcases hb with rfl | rfl | rfl | rfl | rfl
  · exact ⟨_, hz, fun v z => by cases z⟩
  · exact ⟨_, hTI, fun v z => by cases z⟩
  · exact ⟨_, hTO, fun v z => by cases z⟩
  · exact h1.obj
  · exact h2.obj
theorem turn_zip {P : Program} {w : World} {K : PySem.W.Frag} {elts : List Expr} {x1} {pos : Pos} {ka kb : Bool} {z TI TO i1 i2 a b : Addr} (D : ZipApart z TI TO i1 i2 a b) : Turn P w K (.Tuple elts x1 pos) (Itz K ka kb a b) [z, TI, TO, i1, i2] z (fun n h => ZAt ka kb z TI TO i1 i2 a b n h) where
  mem := by simp
  obj := fun i h st => st.obj
  keep := fun i h h' ⟨hz, hTI, ⟨x, y, hTO⟩, h1, h2⟩ k => ⟨k z (by simp) _ hz, k TI (by simp) _ hTI, ⟨x, y, k TO (by simp) _ hTO⟩, h1.at fun o e => k i1 (by simp) o e, h2.at fun o e => k i2 (by simp) o e⟩
  item := by
    intro X hP hw hK hc i pins s σ H E I hf st hg
    subst hP hw hK
    obtain ⟨xs, ys, x, y, q1, q2, hx, hy⟩ := hg
    obtain ⟨us, r1, p1⟩ := seqK I q1
    obtain ⟨vs, r2, p2⟩ := seqK I q2
    obtain ⟨u, hu, ru⟩ := r1.get hx
    obtain ⟨v, hv, rv⟩ := r2.get hy
    have lt : ∀ b ∈ [z, TI, TO, i1, i2], b < s.heap.objs.size := fun b hb => by
      obtain ⟨o, ho, _⟩ := st.obj b hb
      exact Heap.lt_size ho
    refine zipS_next D st p1 p2 (x := u) (y := v) (by simpa using hu) (by simpa using hv) fun h' z1 o1 a1 a2 pr kk => ?_
    refine ⟨_, rfl, wpAny_letOwnedTupleGo_zip (s := { s with heap := h' }) z1 fun h2 z2 b2 => ?_⟩
    have hT : H s.heap.objs.size = none := I.hok.fresh (Nat.le_refl _)
    have I1 : Inv X pins σ (upd H s.heap.objs.size (.tup [x, y])) { s with heap := s.heap.push { cls := .type "tuple", data := .seq #[u, v] } } := I.laid (t' := s.toks) (fun b u e => Heap.get?_push_of_some _ e) (Nat.le_refl _) ⟨by show 2 ≤ sizeLine; decide, [u, v], .cons ru (.cons rv .nil), ⟨_, Heap.get?_push_size _ rfl, _, rfl⟩⟩
    have Tz : s.heap.objs.size ≠ z := Nat.ne_of_gt (lt z (by simp))
    have fp : ∀ b ∈ [z, TI, TO, i1, i2], FpOk X pins (upd H s.heap.objs.size (.tup [x, y])) b := fun b hb => by
      obtain ⟨f0, f1, f2, f3, f4, f5⟩ := hf b hb
      exact ⟨by rw [upd_ne (Nat.ne_of_lt (lt b hb))]; exact f0, f1, f2, f3, f4, f5⟩
    have I2 := I1.turnedL (h' := h2) (t' := s.toks) (fun c o hc e => by
      simp only [List.mem_cons, List.not_mem_nil, or_false, not_or] at hc
      by_cases zc : c = s.heap.objs.size
      · subst zc
        rw [Heap.get?_push_size _ rfl] at e
        cases e
        exact b2.extBut _ _ Tz pr
      · have e' : s.heap.get? c = some o := by rw [← e]; exact (Heap.get?_push_ne _ _ _ zc).symm
        exact b2.extBut _ _ hc.1 (kk c o hc.1 hc.2.2.1 hc.2.2.2.1 hc.2.2.2.2 e')) fp
    refine ⟨.ref s.heap.objs.size, _, I2, rfl, ⟨_, x, y, rfl, hT, fun zs hz => ?_, fun zs hz => ?_, rfl⟩, ⟨z2, b2.extBut _ _ D.TIz (kk _ _ D.TIz D.TITO D.TIi1 D.TIi2 st.ti), ⟨u, v, b2.extBut _ _ D.TOz o1⟩, a1.at fun o e => b2.extBut _ _ D.i1z e, a2.at fun o e => b2.extBut _ _ D.i2z e⟩, fun b hb => (fp b hb).1⟩
    · rw [seqK_inj I hz q1]; exact hx
    · rw [seqK_inj I hz q2]; exact hy
  done := by
    intro X hP hw hK hc i pins s σ H E I hf st hg
    subst hP hw hK
    obtain ⟨xs, ys, q1, q2, hl⟩ := hg
    obtain ⟨us, r1, p1⟩ := seqK I q1
    obtain ⟨vs, r2, p2⟩ := seqK I q2
    have e1 := r1.length
    have e2 := r2.length
    refine zipS_stop (I.ok.hd hc) D st p1 p2 (hl.elim (fun q => .inl (by simp; omega)) fun q => .inr (by simp; omega)) fun h' kk => ⟨rfl, I.turnedL (t' := s.toks) (fun c o hc e => ?_) hf⟩
    simp only [List.mem_cons, List.not_mem_nil, or_false, not_or] at hc
    exact kk c o hc.1 hc.2.2.1 hc.2.2.2.1 hc.2.2.2.2 e
  self := fun _ _ _ _ _ st h => wpAny_pyIter_zip st.zp h
end L2
set_option Elab.async false
set_option linter.all false
set_option maxRecDepth 100000
namespace L2
open PySem PySem.Spec PyProof.Rows
def itO (k : Bool) (l : Addr) : Obj := match k with
  | true => { cls := .type "tuple_iterator", data := .fields #[.ref l, .int 0 0] }
  | false => { cls := .type "list_iterator", data := .fields #[.ref l, .int 0 0] }
theorem pyIterS {prog : Program} {w : World} {A : Around} {E : Value → Shared → Prop} {s : Shared} {k : Bool} {l : Addr} {xs : Array Value} {Q : Value → Shared → Prop} (h : SAt k s.heap l xs) (hQ : Q (.ref s.heap.objs.size) { s with heap := s.heap.push (itO k l) }) :
    wpAny (model prog w) A (pyIter (.ref l)) Q E s := by
  cases k with
  | true => exact wpAny_pyIter_tuple h hQ
  | false => exact wpAny_pyIter_list h hQ
theorem itO_free {k : Bool} {l : Addr} : (itO k l).isFreed = false := by cases k <;> rfl
theorem SIt.new {k : Bool} {l i : Addr} {h : Heap} (e : h.get? i = some (itO k l)) : SIt k h i l 0 := by
  cases k with
  | true => exact ⟨_, e, rfl, rfl⟩
  | false => exact ⟨_, e, rfl, rfl⟩
def zip5 (h : Heap) (ka kb : Bool) (l1 l2 : Addr) : Heap := ((((h.push (itO ka l1)).push (itO kb l2)).push { cls := .type "tuple", data := .seq #[.ref h.objs.size, .ref (h.push (itO ka l1)).objs.size] }).push { cls := .type "tuple", data := .seq #[.none, .none] }).push
  { cls := .type "zip", data := .fields #[.none, .bool false, .bool false, .ref ((h.push (itO ka l1)).push (itO kb l2)).objs.size, .ref (((h.push (itO ka l1)).push (itO kb l2)).push { cls := .type "tuple", data := .seq #[.ref h.objs.size, .ref (h.push (itO ka l1)).objs.size] }).objs.size] }
theorem meetsS (ka kb : Bool) (l1 l2 : Addr) (xs ys : Array Value) :
    Meets (Builtin.«zip.__new__» ⟨[.type "zip", .ref l1, .ref l2], []⟩) (fun _ R s => SAt ka s.heap l1 xs ∧ SAt kb s.heap l2 ys ∧ R (.ok (.ret (.ref (s.heap.objs.size + 4)))) { s with heap := zip5 s.heap ka kb l1 l2 }) :=
  .of_wp fun prog w A R s h => by
    obtain ⟨hp, g, d, tk, os⟩ := s
    obtain ⟨hl1, hl2, h⟩ := h
    have hsub := sub_zip
    have hL1 : SAt ka (Shared.heap ⟨hp, g, d, tk, os⟩) l1 xs := hl1
    have hL2 : SAt kb (Shared.heap ⟨hp.push (itO ka l1), g, d, tk, os⟩) l2 ys := hl2.at fun o e => Heap.get?_push_of_some _ e
    wp_walk using pyIterS hL1, pyIterS hL2
    refine ⟨_, rfl, ?_⟩
    have z : ((((hp.push (itO ka l1)).push (itO kb l2)).push { cls := .type "tuple", data := .seq #[.ref hp.objs.size, .ref (hp.push (itO ka l1)).objs.size] }).push { cls := .type "tuple", data := .seq #[.none, .none] }).objs.size = hp.objs.size + 4 := by
      rw [Heap.size_push, Heap.size_push, Heap.size_push, Heap.size_push]
    rw [← z] at h
    exact h
theorem callS {prog : Program} {w : World} {A : Around} {E : Value → Shared → Prop} {s : Shared} {ka kb : Bool} {l1 l2 : Addr} {xs ys : Array Value} {Q : Value → Shared → Prop} (h1 : SAt ka s.heap l1 xs) (h2 : SAt kb s.heap l2 ys)
    (h : ∀ h', ZAt ka kb (s.heap.objs.size + 4) (s.heap.objs.size + 2) (s.heap.objs.size + 3) s.heap.objs.size (s.heap.objs.size + 1) l1 l2 0 h' → (∀ c o, s.heap.get? c = some o → h'.get? c = some o) → Q (.ref (s.heap.objs.size + 4)) { s with heap := h' }) :
    wpAny (model prog w) A (call (.type "zip") [.ref l1, .ref l2]) Q E s := by
  refine callType_new F.called_zip (by decide) (F.typeCall_zip_2 _ _) (F.newCall_zip_2 _ _) (fun obj => F.args_object_init_3 obj _ _) F.entry_zip_new (meetsS ka kb l1 l2 xs ys) ⟨h1, h2, ?_⟩
  have kp : ∀ c o, s.heap.get? c = some o → (zip5 s.heap ka kb l1 l2).get? c = some o := fun c o x => Heap.get?_push_of_some _ (Heap.get?_push_of_some _ (Heap.get?_push_of_some _ (Heap.get?_push_of_some _ (Heap.get?_push_of_some _ x))))
  have z1 : (s.heap.push (itO ka l1)).objs.size = s.heap.objs.size + 1 := Heap.size_push ..
  have z2 : ((s.heap.push (itO ka l1)).push (itO kb l2)).objs.size = s.heap.objs.size + 2 := by rw [Heap.size_push, z1]
  have z3 : (((s.heap.push (itO ka l1)).push (itO kb l2)).push { cls := .type "tuple", data := .seq #[.ref s.heap.objs.size, .ref (s.heap.push (itO ka l1)).objs.size] }).objs.size = s.heap.objs.size + 3 := by rw [Heap.size_push, z2]
  have z4 : ((((s.heap.push (itO ka l1)).push (itO kb l2)).push { cls := .type "tuple", data := .seq #[.ref s.heap.objs.size, .ref (s.heap.push (itO ka l1)).objs.size] }).push { cls := .type "tuple", data := .seq #[.none, .none] }).objs.size = s.heap.objs.size + 4 := by rw [Heap.size_push, z3]
  have g1 : (zip5 s.heap ka kb l1 l2).get? s.heap.objs.size = some (itO ka l1) := Heap.get?_push_of_some _ (Heap.get?_push_of_some _ (Heap.get?_push_of_some _ (Heap.get?_push_of_some _ (Heap.get?_push_size _ itO_free))))
  have g2 : (zip5 s.heap ka kb l1 l2).get? (s.heap.objs.size + 1) = some (itO kb l2) := by rw [← z1]; exact Heap.get?_push_of_some _ (Heap.get?_push_of_some _ (Heap.get?_push_of_some _ (Heap.get?_push_size _ itO_free)))
  have g3 : (zip5 s.heap ka kb l1 l2).get? (s.heap.objs.size + 2) = some { cls := .type "tuple", data := .seq #[.ref s.heap.objs.size, .ref (s.heap.objs.size + 1)] } := by
    rw [← z2]
    have q : (zip5 s.heap ka kb l1 l2).get? ((s.heap.push (itO ka l1)).push (itO kb l2)).objs.size = some { cls := .type "tuple", data := .seq #[.ref s.heap.objs.size, .ref (s.heap.push (itO ka l1)).objs.size] } := Heap.get?_push_of_some _ (Heap.get?_push_of_some _ (Heap.get?_push_size _ rfl))
    rw [z1] at q
    exact q
  have g4 : (zip5 s.heap ka kb l1 l2).get? (s.heap.objs.size + 3) = some { cls := .type "tuple", data := .seq #[.none, .none] } := by rw [← z3]; exact Heap.get?_push_of_some _ (Heap.get?_push_size _ rfl)
  have g5 : (zip5 s.heap ka kb l1 l2).get? (s.heap.objs.size + 4) = some { cls := .type "zip", data := .fields #[.none, .bool false, .bool false, .ref (s.heap.objs.size + 2), .ref (s.heap.objs.size + 3)] } := by
    rw [← z4]
    have q : (zip5 s.heap ka kb l1 l2).get? ((((s.heap.push (itO ka l1)).push (itO kb l2)).push { cls := .type "tuple", data := .seq #[.ref s.heap.objs.size, .ref (s.heap.push (itO ka l1)).objs.size] }).push { cls := .type "tuple", data := .seq #[.none, .none] }).objs.size = some { cls := .type "zip", data := .fields #[.none, .bool false, .bool false, .ref ((s.heap.push (itO ka l1)).push (itO kb l2)).objs.size, .ref (((s.heap.push (itO ka l1)).push (itO kb l2)).push { cls := .type "tuple", data := .seq #[.ref s.heap.objs.size, .ref (s.heap.push (itO ka l1)).objs.size] }).objs.size] } := Heap.get?_push_size _ rfl
    rw [z2, z3] at q
    exact q
  show _ ∧ _
  exact ⟨⟨_, g5, rfl⟩, h _ ⟨g5, g3, ⟨_, _, g4⟩, .new g1, .new g2⟩ kp⟩
theorem b_zip : bootBuiltins "zip" = some (.type "zip") := by decide +kernel
def iZip (K : PySem.W.Frag) (ka kb : Bool) (ta : TA) : TI := fun σ H R => ta σ H fun vs H1 => ∃ a b xs ys, vs = [.ref a, .ref b] ∧ SqK K ka H1 a xs ∧ SqK K kb H1 b ys ∧ R (Itz K ka kb a b) H1
theorem pi_zip {X : Cx} {elts : List Expr} {x1} {tp : Pos} {a b : Expr} {ta : TA} {p pos : Pos} (ka kb : Bool) (hg : Gl X "zip") (hm : X.mg "zip" = none) (ha : PA X [a, b] ta) (hs : starEach [a, b] X.env = [(false, eval a X.env), (false, eval b X.env)] := by rfl) (hs2 : starEach [b] X.env = [(false, eval b X.env)] := by rfl) :
    PI X (.Tuple elts x1 tp) (.Call (.Name "zip" p) [a, b] [] pos) (iZip X.K ka kb ta) := by
  intro pins s σ H R I h
  refine Call_ (ld_blt I hg hm b_zip (PyProof.Rows.callWith_type1 (thn (ha pos pins s σ H _ I h) fun us s1 ⟨vs, H1, I1, r1, q1⟩ => ?_) (by rw [hs, hs2]) (by rw [hs2]; rfl)))
  obtain ⟨a', b', xs, ys, e, q1, q2, q⟩ := q1
  subst e
  obtain ⟨u, v, rfl, r1, r2⟩ := r1.two
  cases r1
  cases r2
  obtain ⟨us, e1, p1⟩ := seqK I1 q1
  obtain ⟨vs, e2, p2⟩ := seqK I1 q2
  have lt : ∀ {k : Bool} {l : Addr} {zs : Array Value}, SAt k s1.heap l zs → l < s1.heap.objs.size := fun {k l zs} x => by
    cases k with
    | true => obtain ⟨o, ho, _⟩ := x; exact Heap.lt_size ho
    | false => obtain ⟨o, ho, _⟩ := x; exact Heap.lt_size ho
  have t1 := lt p1
  have t2 := lt p2
  refine callS p1 p2 fun h' Z kp => wpAny_pyIter_zip (s := { s1 with heap := h' }) Z.zp ?_
  have D : ZipApart (s1.heap.objs.size + 4) (s1.heap.objs.size + 2) (s1.heap.objs.size + 3) s1.heap.objs.size (s1.heap.objs.size + 1) a' b' := by
    have t1' : @LT.lt Nat _ a' s1.heap.objs.size := t1
    have t2' : @LT.lt Nat _ b' s1.heap.objs.size := t2
    constructor <;> (show ¬ (@Eq Nat _ _); omega)
  refine ⟨_, [s1.heap.objs.size + 4, s1.heap.objs.size + 2, s1.heap.objs.size + 3, s1.heap.objs.size, s1.heap.objs.size + 1], _, _, H1, rfl, I1.kept (t' := s1.toks) kp, turn_zip D, Z, fun c hc => ?_, q⟩
  have ge : s1.heap.objs.size ≤ c := by
    simp only [List.mem_cons, List.not_mem_nil, or_false] at hc
    rcases hc with rfl | rfl | rfl | rfl | rfl <;> omega
  exact I1.fpOk ge (I1.hok.fresh ge)
end L2
set_option Elab.async false
set_option linter.all false
set_option maxRecDepth 100000
namespace L2
open PySem PySem.Spec PyProof.Rows
def turnZ (tc : TT) (te : TE) (σ : St) (d : Addr) (x y : V) (H : Hp) (Z : Hp → Prop) : Prop :=
  tc (some x :: some y :: σ) H fun b H3 => if b = true then te (some x :: some y :: σ) H3 fun v H4 => ∃ ys, H4 d = some (.lst ys) ∧ ys.length < sizeLine ∧ Z (upd H4 d (.lst (ys ++ [v]))) else Z H3
def tCompZ (K : PySem.W.Frag) (ka kb : Bool) (ta : TA) (tc : TT) (te : TE) : TE := fun σ H Q => ta σ H fun vs H1 => ∃ a b xs ys, vs = [.ref a, .ref b] ∧ SqK K ka H1 a xs ∧ SqK K kb H1 b ys ∧ xs.length = ys.length ∧ ∀ d, H1 d = none →
  ∃ Pv : Nat → Hp → Prop, Pv 0 (upd H1 d (.lst [])) ∧ (∀ i H, i ≤ xs.length → Pv i H → SqK K ka H a xs ∧ SqK K kb H b ys) ∧ (∀ i x y p H, xs[i]? = some x → ys[i]? = some y → Pv i H → H p = none → turnZ tc te σ d x y (upd H p (.tup [x, y])) (Pv (i + 1))) ∧ ∀ H, Pv xs.length H → Q (.ref d) H
def gPair (K : PySem.W.Frag) : TG := gTup K 2 (gCons (gName 0) (gCons (gName 1) gNil))
theorem gPair_two {K : PySem.W.Frag} {v : V} {σ : St} {H : Hp} {Q : St → Hp → Prop} (h : gPair K v (List.replicate 2 none ++ σ) H Q) : gPair K v (List.replicate 2 none ++ σ) H fun σ2 H2 => (∃ l : St, l.length = 2 ∧ σ2 = l ++ σ) ∧ Q σ2 H2 := by
  obtain ⟨a, xs, e, hq, hl, v1, r1, e1, v2, r2, e2, e3, q⟩ := h
  exact ⟨a, xs, e, hq, hl, v1, r1, e1, v2, r2, e2, e3, ⟨[some v1, some v2], rfl, rfl⟩, q⟩
theorem comp_zip {K : PySem.W.Frag} {ka kb : Bool} {a b : Addr} {xs ys : List V} {tc : TT} {te : TE} {σ : St} {H : Hp} {Q : VK} {d : Addr} (hlen : xs.length = ys.length) (Pv : Nat → Hp → Prop) (h0 : Pv 0 (upd H d (.lst []))) (hl : ∀ i H, i ≤ xs.length → Pv i H → SqK K ka H a xs ∧ SqK K kb H b ys)
    (hs : ∀ i x y p H, xs[i]? = some x → ys[i]? = some y → Pv i H → H p = none → turnZ tc te σ d x y (upd H p (.tup [x, y])) (Pv (i + 1)))
    (hd : ∀ H, Pv xs.length H → Q (.ref d) H) :
    ∃ W : Nat → Nat → Hp → Prop, (∃ m, W 0 m (upd H d (.lst []))) ∧ ∀ i m H, W i m H →
      ((Itz K ka kb a b).stop i H ∧ Q (.ref d) H) ∨ ((Itz K ka kb a b).go i H ∧ ∃ N : Hp → Prop, (∀ H', N H' → ∃ m', m' < m ∧ W (i + 1) m' H') ∧ ∀ x H', (Itz K ka kb a b).yld i H x H' → gPair K x (List.replicate 2 none ++ σ) H' fun σ2 H2 =>
        tc σ2 H2 fun b H3 => if b = true then te σ2 H3 fun y H4 => ∃ ys, H4 d = some (.lst ys) ∧ ys.length < sizeLine ∧ N (upd H4 d (.lst (ys ++ [y]))) else N H3) := by
  refine ⟨fun i m H => m = xs.length - i ∧ i ≤ xs.length ∧ Pv i H, ⟨xs.length, by simp, Nat.zero_le _, h0⟩, ?_⟩
  rintro i m H ⟨rfl, hi, p⟩
  obtain ⟨q1, q2⟩ := hl i H hi p
  by_cases hlt : i < xs.length
  · refine .inr ⟨⟨xs, ys, _, _, q1, q2, List.getElem?_eq_getElem hlt, List.getElem?_eq_getElem (by omega)⟩, Pv (i + 1), fun H' n => ⟨xs.length - (i + 1), by omega, rfl, by omega, n⟩, ?_⟩
    rintro v H' ⟨p', x, y, rfl, hn, e1, e2, rfl⟩
    exact ⟨p', [x, y], rfl, SqT.of upd_same, rfl, x, [y], rfl, y, [], rfl, rfl, hs i x y p' H (e1 _ q1) (e2 _ q2) p hn⟩
  · have e : i = xs.length := by omega
    subst e
    exact .inl ⟨⟨xs, ys, q1, q2, .inl (Nat.le_refl _)⟩, hd H p⟩
theorem pe_compZ {X : Cx} (K : PySem.W.Frag) (ka kb : Bool) {elt a b : Expr} {t1 t2 : Str} {p1 p2 tp p pos pos' : Pos} {k : Nat} {cs : List Expr} {scope : Scope} {tc : TT} {te : TE} {ta : TA} {M : List Str} (hc : X.calm = true) (S : CompScope scope X.env X.N M) (nd : (t1 :: t2 :: M).Nodup) (hl1 : scope.names.lookup t1 = some .local) (hl2 : scope.names.lookup t2 = some .local)
    (hg : Gl X "zip") (hm : X.mg "zip" = none) (ha : PA X [a, b] ta) (mo : MonoA ta)
    (hin : ∀ (cl : List (Str × Addr)) (C : Addr) (s0 : Shared) (H0 : Hp) (fp : List Addr) (pins : List (Addr × Obj)) (σ : St), Back X (cxC X scope cl C s0 H0 fp (t1 :: t2 :: M)) pins σ fp C s0 H0 → PTs (cxC X scope cl C s0 H0 fp (t1 :: t2 :: M)) cs tc ∧ PE (cxC X scope cl C s0 H0 fp (t1 :: t2 :: M)) elt te)
    (hs : starEach [a, b] X.env = [(false, eval a X.env), (false, eval b X.env)] := by rfl) (hs2 : starEach [b] X.env = [(false, eval b X.env)] := by rfl) (hf : ∀ x, foldedSetIterable (.Call (.Name "zip" p) [a, b] [] pos') X.env x = pure x := by intro _; rfl) (hK : X.K = K := by rfl) :
    PE X (.ListComp elt [⟨.Tuple [.Name t1 p1, .Name t2 p2] k tp, .Call (.Name "zip" p) [a, b] [] pos', cs, 0⟩] scope pos) (tCompZ K ka kb ta tc te) := by
  subst hK
  have hx1 : (relabel scope X.env).names.lookup t1 = some .local := by rw [lookup_relabel, hl1]; rfl
  have hx2 : (relabel scope X.env).names.lookup t2 = some .local := by rw [lookup_relabel, hl2]; rfl
  refine PE.imp (pe_compB (xs := [t1, t2]) (M := M) (g := gPair X.K) hc S (pi_zip ka kb hg hm ha hs hs2) (fun cl C s0 H0 fp pins σ bk => ⟨pg_tup hc (pgs_cons (pg_name (i := 0) nd rfl (Or.inl hx1) (Or.inr hx1)) (pgs_cons (pg_name (i := 1) nd rfl (Or.inl hx2) (Or.inr hx2)) pgs_nil)), hin cl C s0 H0 fp pins σ bk⟩) (fun v σ H Q h => gPair_two h) hf) (fun σ H Q h => ?_)
  refine mo σ H _ _ (fun vs H1 q => ?_) h
  obtain ⟨a', b', xs, ys, e, q1, q2, hlen, q⟩ := q
  refine ⟨a', b', xs, ys, e, q1, q2, fun d hd => ?_⟩
  obtain ⟨Pv, h0, hl, hs, hd⟩ := q d hd
  exact comp_zip hlen Pv h0 hl hs hd
end L2
set_option Elab.async false
set_option linter.all false
set_option maxRecDepth 100000
namespace L2
open PySem PySem.Spec PyProof.Rows
section
variable {κ : Type} [DecidableEq κ]
def valV (kvs : List (κ × V)) (k : κ) : Option V := (kvs.find? fun kv => decide (kv.1 = k)).map (·.2)
def putK (kvs : List (κ × V)) (k : κ) (v : V) : List (κ × V) :=
  if (kvs.any fun kv => decide (kv.1 = k)) = true then kvs.map (fun kv => if kv.1 = k then (kv.1, v) else kv) else kvs ++ [(k, v)]
def dropK (kvs : List (κ × V)) (k : κ) : List (κ × V) := kvs.filter fun kv => decide (kv.1 ≠ k)
end
abbrev KT (H : Hp) : List (List Key × V) → List (List Key × Addr × Value) → Prop := Paired fun p q => p.1 = q.1 ∧ H q.2.1 = some (.tup (p.1.map kV)) ∧ RelV p.2 q.2.2
section
variable {P : Program} {w : World} {H : Hp} {h : Heap} {a : Addr}
end
def DGet (H : Hp) (a : Addr) (y : V) (r : Option V) : Prop :=
  (∃ kvs k, Rd H a (.dK kvs) ∧ y = kV k ∧ r = valV kvs k) ∨ ∃ kvs k b, Rd H a (.dT kvs) ∧ y = .ref b ∧ H b = some (.tup (k.map kV)) ∧ r = valV kvs k
def DPut (H : Hp) (a : Addr) (y v : V) (H' : Hp) : Prop :=
  (∃ kvs k, H a = some (.dK kvs) ∧ y = kV k ∧ kvs.length < sizeLine ∧ H' = upd H a (.dK (putK kvs k v))) ∨
  ∃ kvs k b, H a = some (.dT kvs) ∧ y = .ref b ∧ H b = some (.tup (k.map kV)) ∧ kvs.length < sizeLine ∧ H' = upd H a (.dT (putK kvs k v))
section
variable {X : Cx} {pins : List (Addr × Obj)} {σ : St} {H : Hp} {s : Shared} {a : Addr} {y v : V} {u r : Value} {o : Option V} {A : Around} {E : Value → Shared → Prop}
end
section
variable {X : Cx} {pins : List (Addr × Obj)} {σ : St} {H : Hp} {s : Shared} {a : Addr} {kvs : List (Key × V)} {k : Key} {u : Value} {A : Around} {E : Value → Shared → Prop}
end
def NoSl (i : Expr) : Prop := ∀ ov iv, subscripted i false ov iv = operate [ov, iv] (getItem ov iv)
def tDGet (td ty : TE) : TE := fun σ H Q => td σ H fun x H1 => ty σ H1 fun y H2 => ∃ a v, x = .ref a ∧ DGet H2 a y (some v) ∧ Q v H2
def tDIn (ty td : TE) : TE := fun σ H Q => ty σ H fun y H1 => td σ H1 fun x H2 => ∃ a o, x = .ref a ∧ DGet H2 a y o ∧ Q (.bl o.isSome) H2
def sDPut (td ty tv : TE) : TS := fun D σ H => tv σ H fun v H1 => td σ H1 fun x H2 => ty σ H2 fun y H3 => ∃ a H4, x = .ref a ∧ DPut H3 a y v H4 ∧ D.nx σ H4
def sDAug (td ty tv : TE) (rd : V → V → Hp → VK → Prop) : TS := fun D σ H => td σ H fun x H1 => ty σ H1 fun y H2 => ∃ a v, x = .ref a ∧ DGet H2 a y (some v) ∧
  tv σ H2 fun y2 H3 => rd v y2 H3 fun z H4 => ∃ H5, DPut H4 a y z H5 ∧ D.nx σ H5
def sDDel (td ty : TE) : TS := fun D σ H => td σ H fun x H1 => ty σ H1 fun y H2 => ∃ a kvs k, x = .ref a ∧ H2 a = some (.dK kvs) ∧ y = kV k ∧ (valV kvs k).isSome = true ∧ D.nx σ (upd H2 a (.dK (dropK kvs k)))
section
variable {X : Cx} {o i e value : Expr} {pos pos' tpos : Pos} {td ty tv : TE}
end
def tDNewK : TE := fun _ H Q => ∀ p, H p = none → Q (.ref p) (upd H p (.dK []))
section
variable {X : Cx} {pos : Pos}
end
def tPairs : List (TE × TE) → St → Hp → (List (V × V) → Hp → Prop) → Prop
  | [], _, H, Q => Q [] H
  | (tk, tv) :: r, σ, H, Q => tk σ H fun x H1 => tv σ H1 fun y H2 => tPairs r σ H2 fun ps H3 => Q ((x, y) :: ps) H3
def mergeK (kvs more : List (Key × V)) : List (Key × V) := more.foldl (fun acc kv => putK acc kv.1 kv.2) kvs
def tDisp (trs : List (TE × TE)) : TE := fun σ H Q => ∀ p, H p = none → tPairs trs σ (upd H p (.dK [])) fun ps H2 => H2 p = some (.dK []) ∧ ∃ kvs : List (Key × V), ps = kvs.map (fun kv => (kV kv.1, kv.2)) ∧ kvs.length ≤ 15 ∧ Q (.ref p) (upd H2 p (.dK (mergeK [] kvs)))
structure M1 (X : Cx) (o : Expr) (m : Str) (apos : Pos) (e : Expr) (cpos : Pos) : Prop where
  base : attributeBase o m X.env (eval o X.env) = eval o X.env
  few : ((backTo cpos (starEach [e] X.env)).all (fun x => !x.1) && (backToKw cpos (keywordEach [] X.env)).all (fun x => x.1.isSome)
    && decide (([e] : List Expr).length + ([] : List Keyword).length + (if ([] : List Keyword).isEmpty then 0 else 1) < 30)) = true
  line : (apos.endLine == cpos.line) = true
  trees : backTo cpos (starEach [e] X.env) = [(false, eval e X.env)]
def IsD (H : Hp) (a : Addr) : Prop := (∃ kvs, Rd H a (.dK kvs)) ∨ ∃ kvs, Rd H a (.dT kvs)
section
variable {X : Cx} {pins : List (Addr × Obj)} {σ : St} {H : Hp} {s : Shared} {a : Addr} {y d : V} {u r : Value} {o : Option V} {A : Around} {E : Value → Shared → Prop}
end
def tDPop1 (td ty : TE) : TE := fun σ H Q => td σ H fun x H1 => ∃ a, x = .ref a ∧ IsD H1 a ∧ ty σ H1 fun y H2 => ∃ kvs k v, H2 a = some (.dK kvs) ∧ y = kV k ∧ valV kvs k = some v ∧ Q v (upd H2 a (.dK (dropK kvs k)))
section
variable {X : Cx} {o e f : Expr} {apos cpos : Pos} {td ty tx : TE}
end
section
variable {X : Cx} {pins : List (Addr × Obj)} {σ : St} {H : Hp} {s : Shared} {a : Addr} {kvs : List (Key × V)} {A : Around} {E : Value → Shared → Prop}
end
section
variable {X : Cx} {pins : List (Addr × Obj)} {σ : St} {H : Hp} {s : Shared} {a : Addr} {y : V} {u : Value} {A : Around} {E : Value → Shared → Prop}
end
end L2
set_option Elab.async false
set_option linter.all false
set_option maxRecDepth 100000
namespace L2
open PySem PySem.Spec PyProof.Rows
section
variable {prog : Program} {w : World} {A : Around} {E : Value → Shared → Prop} {s : Shared} {k : Bool} {ee it l : Addr} {n : Nat} {xs : Array Value} {x old : Value}
theorem enumS_item {Q : Value → Shared → Prop} (he : IsEnum s.heap ee it n old) (hi : SIt k s.heap it l n) (hl : SAt k s.heap l xs) (hx : xs[n]? = some x) (hne : ee ≠ it)
    (hQ : ∀ h', IsEnumOut h' ee it ((n : Int) + 1) x s.heap.objs.size → SIt k h' it l (n + 1) → h'.get? s.heap.objs.size = some { cls := .type "tuple", data := .seq #[.int n s.toks, x] } →
      (∀ b o, b ≠ ee → b ≠ it → s.heap.get? b = some o → h'.get? b = some o) → Q (.ref s.heap.objs.size) { s with heap := h', toks := s.toks + 1 }) :
    wpAny (model prog w) A (Builtin.«enumerate.__next__» ⟨[.ref ee], []⟩) (fun fin s' => ∃ v, fin = .done (.ret v) ∧ Q v s') E s := by
  obtain ⟨hp, g, d, tk, os⟩ := s
  show wpAny _ _ (field (.ref ee) 2 >>= _) _ _ _
  refine wpAny_bind (wpAny_field he rfl (x := .ref it) rfl (wpAny_bind (nextS hi hl hx fun g1 i1 b1 => ?_)))
  replace b1 : Heap.SameBut it hp g1 := b1
  have e1 : IsEnum g1 ee it n old := (b1.2 ee hne).trans he
  show wpAny _ _ (field (.ref ee) 3 >>= _) _ _ ⟨g1, g, d, tk, os⟩
  refine wpAny_bind (wpAny_field e1 rfl (x := rawInt n) rfl ?_)
  show wpAny _ _ (field (.ref ee) 4 >>= _) _ _ ⟨g1, g, d, tk, os⟩
  refine wpAny_bind (wpAny_field e1 rfl (x := .none) rfl ?_)
  show wpAny _ _ (mkInt n >>= _) _ _ ⟨g1, g, d, tk, os⟩
  refine wpAny_bind (wpAny_mkInt ?_)
  show wpAny _ _ (setField (.ref ee) 3 (rawInt ((n : Int) + 1)) >>= _) _ _ ⟨g1, g, d, tk + 1, os⟩
  refine wpAny_bind (wpAny_setField_rec e1 (by simp) fun g2 e2 b2 => ?_)
  replace b2 : Heap.SameBut ee g1 g2 := b2
  replace e2 : IsEnum g2 ee it ((n : Int) + 1) old := e2
  show wpAny _ _ (setField (.ref ee) 4 .none >>= _) _ _ ⟨g2, g, d, tk + 1, os⟩
  refine wpAny_bind (wpAny_setField_rec e2 (by simp) fun g3 e3 b3 => ?_)
  replace b3 : Heap.SameBut ee g2 g3 := b3
  replace e3 : IsEnum g3 ee it ((n : Int) + 1) old := e3
  show wpAny _ _ (newTuple [.int n tk, x] >>= _) _ _ ⟨g3, g, d, tk + 1, os⟩
  refine wpAny_bind (wpAny_newTuple ?_)
  have e4 : IsEnum (g3.push { cls := .type "tuple", data := .seq #[.int n tk, x] }) ee it ((n : Int) + 1) old := Heap.get?_push_of_some _ e3
  generalize q4 : g3.push { cls := .type "tuple", data := .seq #[.int n tk, x] } = g4 at e4
  have sz : g3.objs.size = hp.objs.size := by rw [b3.1, b2.1, b1.1]
  have lt : ee < hp.objs.size := Heap.lt_size he
  have t4 : g4.get? hp.objs.size = some { cls := .type "tuple", data := .seq #[.int n tk, x] } := by rw [← q4, ← sz]; exact Heap.get?_push_size _ rfl
  have k4 : ∀ b o, b ≠ ee → b ≠ it → hp.get? b = some o → g4.get? b = some o := fun b o c1 c2 hb => by
    rw [← q4]; exact Heap.get?_push_of_some _ (b3.extBut b o c1 (b2.extBut b o c1 (b1.extBut b o c2 hb)))
  have i4 : SIt k g4 it l (n + 1) := i1.at fun o e => by
    rw [← q4]; exact Heap.get?_push_of_some _ (b3.extBut _ _ (Ne.symm hne) (b2.extBut _ _ (Ne.symm hne) e))
  show wpAny _ _ (Builtin.SmallTypes.ownedTupleIsFree (.ref ee) >>= _) _ _ ⟨g4, g, d, tk + 1, os⟩
  rw [sz]
  clear q4 e3 b3 e2 b2 e1 b1 i1 sz g3 g2 g1
  refine wpAny_bind ?_
  unfold Builtin.SmallTypes.ownedTupleIsFree
  refine wpAny_bind (wpAny_field e4 rfl (x := .none) rfl (wpAny_pure ?_))
  simp only [if_true]
  refine wpAny_bind (wpAny_rule (wpAny_bind (wpAny_field e4 rfl (x := old) rfl (wpAny_bind (wpAny_setField_rec e4 (by simp) fun g5 e5 b5 => ?_)))))
  replace b5 : Heap.SameBut ee g4 g5 := b5
  replace e5 : IsEnum g5 ee it ((n : Int) + 1) x := e5
  show wpAny _ _ (Builtin.SmallTypes.ownedTupleHandOut (.ref ee) (.ref hp.objs.size) >>= _) _ _ ⟨g5, g, d, tk + 1, os⟩
  refine wpAny_bind ?_
  unfold Builtin.SmallTypes.ownedTupleHandOut
  refine wpAny_bind (wpAny_setField_rec e5 (by simp) fun g6 e6 b6 => ?_)
  replace b6 : Heap.SameBut ee g5 g6 := b6
  replace e6 : IsEnumOut g6 ee it ((n : Int) + 1) x hp.objs.size := e6
  refine wpAny_setField_rec e6 (by simp) fun g7 e7 b7 => ?_
  replace b7 : Heap.SameBut ee g6 g7 := b7
  replace e7 : IsEnumOut g7 ee it ((n : Int) + 1) x hp.objs.size := e7
  have up : ∀ b o, b ≠ ee → g4.get? b = some o → g7.get? b = some o := fun b o c1 e => b7.extBut b o c1 (b6.extBut b o c1 (b5.extBut b o c1 e))
  exact wpAny_bind (wpAny_letGo (wpAny_pure ⟨_, rfl, hQ g7 e7 (i4.at fun o e => up _ o (Ne.symm hne) e) (up _ _ (Nat.ne_of_gt lt) t4) fun b o c1 c2 e => up b o c1 (k4 b o c1 c2 e)⟩))
theorem enumS_next {Q : Option Value → Shared → Prop} (he : IsEnum s.heap ee it n old) (hi : SIt k s.heap it l n) (hl : SAt k s.heap l xs) (hx : xs[n]? = some x) (hne : ee ≠ it)
    (hQ : ∀ h', IsEnumOut h' ee it ((n : Int) + 1) x s.heap.objs.size → SIt k h' it l (n + 1) → h'.get? s.heap.objs.size = some { cls := .type "tuple", data := .seq #[.int n s.toks, x] } →
      (∀ b o, b ≠ ee → b ≠ it → s.heap.get? b = some o → h'.get? b = some o) → Q (some (.ref s.heap.objs.size)) { s with heap := h', toks := s.toks + 1 }) : wpAny (model prog w) A (pyNext (.ref ee)) Q E s := by
  have hT : s.TypeIs (.ref ee) "enumerate" := ⟨_, he, rfl⟩
  unfold pyNext
  exact wpAny_bind (wpAny_attempt (wpAny_callSpecial?_slot (name := Str.ofString "__next__") hT F.slot_enumerate_next (wpAny_call_entry F.slot_enumerate_next hT F.entry_enumerate_next
    (enumS_item he hi hl hx hne fun h' a b c d => wpAny_pure (hQ h' a b c d)) (F.args_enumerate_next_1 _))))
theorem enumS_stop {Q : Option Value → Shared → Prop} (hh : A.handled = none) (he : IsEnum s.heap ee it n old) (hi : SIt k s.heap it l n) (hl : SAt k s.heap l xs) (hx : xs[n]? = none)
    (hQ : ∀ h', Heap.ExtBut it s.heap h' → Q none { s with heap := h' }) : wpAny (model prog w) A (pyNext (.ref ee)) Q E s := by
  have hT : s.TypeIs (.ref ee) "enumerate" := ⟨_, he, rfl⟩
  unfold pyNext
  refine wpAny_bind (wpAny_attempt (wpAny_callSpecial?_slot (name := Str.ofString "__next__") hT F.slot_enumerate_next (wpAny_call_entry F.slot_enumerate_next hT F.entry_enumerate_next ?_ (F.args_enumerate_next_1 _))))
  show wpAny _ _ (field (.ref ee) 2 >>= _) _ _ _
  refine wpAny_bind (wpAny_field he rfl (x := .ref it) rfl (wpAny_bind (endS hh hi hl hx fun h' e b he' => ?_)))
  obtain ⟨o, ho, hc⟩ := he'
  exact wpAny_bind (wpAny_isInstance (T := "StopIteration") (b := true) ⟨o, ho, hc⟩ isSubtype_stop (wpAny_pure (hQ _ b)))
theorem meetsE (l : Addr) (xs : Array Value) (n : Nat) (dct : Option Addr) (sl : Array (Option Value)) :
    Meets (Builtin.«enumerate.__new__» ⟨[.type "enumerate", .ref l], []⟩) (fun _ R s => s.heap.get? l = some { cls := .type "tuple", dict := dct, data := .seq xs n, slots := sl } ∧
      R (.ok (.ret (.ref (s.heap.push (itO true l)).objs.size))) { s with heap := (s.heap.push (itO true l)).push { cls := .type "enumerate", data := .fields #[.none, .bool false, .ref s.heap.objs.size, rawInt 0, .none, .none] } }) :=
  .of_wp fun prog w A R s h => by
    obtain ⟨hp, g, d, tk, os⟩ := s
    obtain ⟨hl, h⟩ := h
    have hsub := sub_enumerate
    have hL : Heap.IsTuple (Shared.heap ⟨hp, g, d, tk, os⟩) l xs := ⟨_, hl, rfl, n, rfl⟩
    wp_walk using AutoSeq1.wpAny_loadPart' hl
    refine wpAny_stack_any fun st => wpAny_pure ?_
    split
    · rename_i c _ _ _ _ _
      cases (c == Value.type "enumerate") <;> (wp_walk using AutoSeq1.wpAny_loadPart' hl, wpAny_pyIter_tuple hL) <;> exact ⟨_, rfl, h⟩
    · wp_walk using AutoSeq1.wpAny_loadPart' hl, wpAny_pyIter_tuple hL
      exact ⟨_, rfl, h⟩
structure EAt (k : Bool) (ee it l : Addr) (n : Nat) (h : Heap) : Prop where
  en : ∃ old, IsEnum h ee it n old
  a1 : SIt k h it l n
theorem callE {Q : Value → Shared → Prop} (h1 : SAt k s.heap l xs) (h : ∀ h', EAt k (s.heap.objs.size + 1) s.heap.objs.size l 0 h' → (∀ c o, s.heap.get? c = some o → h'.get? c = some o) → Q (.ref (s.heap.objs.size + 1)) { s with heap := h' }) :
    wpAny (model prog w) A (call (.type "enumerate") [.ref l]) Q E s := by
  cases k with
  | false => exact call_enumerate_list h1 fun h' he hi _ kp => h h' ⟨⟨_, he⟩, hi⟩ kp
  | true =>
    obtain ⟨⟨c, dct, dt, sl⟩, hl, hc, n, hd⟩ := h1
    replace hc : c = .type "tuple" := hc
    replace hd : dt = .seq xs n := hd
    subst hc hd
    refine callType_new F.called_enumerate (by decide) (F.typeCall_enumerate_1 _) (F.newCall_enumerate_1 _) (fun obj => F.args_object_init_2 obj _) F.entry_enumerate_new (meetsE l xs n dct sl) ⟨hl, ?_⟩
    have z1 : (s.heap.push (itO true l)).objs.size = s.heap.objs.size + 1 := Heap.size_push ..
    show _ ∧ _
    rw [z1]
    have g1 : IsEnum ((s.heap.push (itO true l)).push { cls := .type "enumerate", data := .fields #[.none, .bool false, .ref s.heap.objs.size, rawInt 0, .none, .none] }) (s.heap.objs.size + 1) s.heap.objs.size 0 .none := by
      have q := Heap.get?_push_size (s.heap.push (itO true l)) (o := { cls := .type "enumerate", data := .fields #[.none, .bool false, .ref s.heap.objs.size, rawInt 0, .none, .none] }) rfl
      rw [z1] at q
      exact q
    exact ⟨⟨_, g1, rfl⟩, h _ ⟨⟨_, g1⟩, .new (Heap.get?_push_of_some _ (Heap.get?_push_size _ itO_free))⟩ fun c o e => Heap.get?_push_of_some _ (Heap.get?_push_of_some _ e)⟩
end
def Ite (K : PySem.W.Frag) (k : Bool) (a : Addr) : It :=
  ⟨fun i H => ∃ xs x, SqK K k H a xs ∧ xs[i]? = some x,
   fun i H v H' => ∃ p x, v = .ref p ∧ H p = none ∧ (∀ xs, SqK K k H a xs → xs[i]? = some x) ∧ H' = upd H p (.tup [.int i, x]),
   fun i H => ∃ xs, SqK K k H a xs ∧ xs.length ≤ i⟩
theorem EAt.obj {k : Bool} {ee it l : Addr} {n : Nat} {h : Heap} (Z : EAt k ee it l n h) : ∀ b ∈ [ee, it], ∃ o, h.get? b = some o ∧ ∀ v, o.data ≠ .cell v := fun b hb => by
  obtain ⟨⟨old, he⟩, h1⟩ := Z
  simp only [List.mem_cons, List.not_mem_nil, or_false] at hb
  rcases hb with rfl | rfl
  · exact ⟨_, he, fun v z => by cases z⟩
  · exact h1.obj
theorem turn_enum {P : Program} {w : World} {K : PySem.W.Frag} {elts : List Expr} {x1} {pos : Pos} {k : Bool} {ee it a : Addr} (hne : ee ≠ it) : Turn P w K (.Tuple elts x1 pos) (Ite K k a) [ee, it] ee (fun n h => EAt k ee it a n h) where
  mem := by simp
  obj := fun i h st => st.obj
  keep := fun i h h' ⟨⟨old, he⟩, h1⟩ kp => ⟨⟨old, kp ee (by simp) _ he⟩, h1.at fun o e => kp it (by simp) o e⟩
  item := by
    intro X hP hw hK hc i pins s σ H E I hf st hg
    subst hP hw hK
    obtain ⟨xs, x, q1, hx⟩ := hg
    obtain ⟨us, r1, p1⟩ := seqK I q1
    obtain ⟨u, hu, ru⟩ := r1.get hx
    have lt : ∀ b ∈ [ee, it], b < s.heap.objs.size := fun b hb => by
      obtain ⟨o, ho, _⟩ := st.obj b hb
      exact Heap.lt_size ho
    obtain ⟨⟨old, he⟩, h1⟩ := st
    refine enumS_next he h1 p1 (x := u) (by simpa using hu) hne fun h' z1 a1 pr kk => ?_
    refine ⟨_, rfl, wpAny_letOwnedTupleGo_enum (s := { s with heap := h', toks := s.toks + 1 }) z1 fun h2 z2 b2 => ?_⟩
    replace b2 : Heap.SameBut ee h' h2 := b2
    have hT : H s.heap.objs.size = none := I.hok.fresh (Nat.le_refl _)
    have I1 : Inv X pins σ (upd H s.heap.objs.size (.tup [.int i, x])) { s with heap := s.heap.push { cls := .type "tuple", data := .seq #[.int i s.toks, u] }, toks := s.toks + 1 } := I.laid (t' := s.toks + 1) (fun b u e => Heap.get?_push_of_some _ e) (Nat.le_refl _) ⟨by show 2 ≤ sizeLine; decide, [.int i s.toks, u], .cons ⟨_, rfl⟩ (.cons ru .nil), ⟨_, Heap.get?_push_size _ rfl, _, rfl⟩⟩
    have Tz : s.heap.objs.size ≠ ee := Nat.ne_of_gt (lt ee (by simp))
    have fp : ∀ b ∈ [ee, it], FpOk X pins (upd H s.heap.objs.size (.tup [.int i, x])) b := fun b hb => by
      obtain ⟨f0, f1, f2, f3, f4, f5⟩ := hf b hb
      exact ⟨by rw [upd_ne (Nat.ne_of_lt (lt b hb))]; exact f0, f1, f2, f3, f4, f5⟩
    have I2 := I1.turnedL (h' := h2) (t' := s.toks + 1) (fun c o hc e => by
      simp only [List.mem_cons, List.not_mem_nil, or_false, not_or] at hc
      by_cases zc : c = s.heap.objs.size
      · subst zc
        rw [Heap.get?_push_size _ rfl] at e
        cases e
        exact b2.extBut _ _ Tz pr
      · have e' : s.heap.get? c = some o := by rw [← e]; exact (Heap.get?_push_ne _ _ _ zc).symm
        exact b2.extBut _ _ hc.1 (kk c o hc.1 hc.2 e')) fp
    refine ⟨.ref s.heap.objs.size, _, I2, rfl, ⟨_, x, rfl, hT, fun zs hz => ?_, rfl⟩, ⟨⟨_, z2⟩, a1.at fun o e => b2.extBut _ _ (Ne.symm hne) e⟩, fun b hb => (fp b hb).1⟩
    rw [seqK_inj I hz q1]; exact hx
  done := by
    intro X hP hw hK hc i pins s σ H E I hf st hg
    subst hP hw hK
    obtain ⟨xs, q1, hl⟩ := hg
    obtain ⟨us, r1, p1⟩ := seqK I q1
    have e1 := r1.length
    obtain ⟨⟨old, he⟩, h1⟩ := st
    refine enumS_stop (I.ok.hd hc) he h1 p1 (by simp; omega) fun h' kk => ⟨rfl, I.turnedL (t' := s.toks) (fun c o hc e => ?_) hf⟩
    simp only [List.mem_cons, List.not_mem_nil, or_false, not_or] at hc
    exact kk c o hc.2 e
  self := fun _ _ _ _ _ ⟨⟨_, he⟩, _⟩ h => wpAny_pyIter_enum he h
theorem b_enum : bootBuiltins "enumerate" = some (.type "enumerate") := by decide +kernel
def iEnum (K : PySem.W.Frag) (k : Bool) (ta : TA) : TI := fun σ H R => ta σ H fun vs H1 => ∃ a xs, vs = [.ref a] ∧ SqK K k H1 a xs ∧ R (Ite K k a) H1
theorem pi_enum {X : Cx} {elts : List Expr} {x1} {tp : Pos} {a : Expr} {ta : TA} {p pos : Pos} (k : Bool) (hg : Gl X "enumerate") (hm : X.mg "enumerate" = none) (ha : PA X [a] ta) (hs : starEach [a] X.env = [(false, eval a X.env)] := by rfl) :
    PI X (.Tuple elts x1 tp) (.Call (.Name "enumerate" p) [a] [] pos) (iEnum X.K k ta) := by
  intro pins s σ H R I h
  refine Call_ (ld_blt I hg hm b_enum (PyProof.Rows.callWith_type1 (thn (ha pos pins s σ H _ I h) fun us s1 ⟨vs, H1, I1, r1, q1⟩ => ?_) (by rw [hs]; rfl) rfl))
  obtain ⟨a', xs, e, q1, q⟩ := q1
  subst e
  obtain ⟨u, rfl, ru⟩ := r1.one
  cases ru
  obtain ⟨us, e1, p1⟩ := seqK I1 q1
  refine callE p1 fun h' Z kp => ?_
  obtain ⟨old, he⟩ := Z.en
  refine wpAny_pyIter_enum (s := { s1 with heap := h' }) he ?_
  refine ⟨_, [s1.heap.objs.size + 1, s1.heap.objs.size], _, _, H1, rfl, I1.kept (t' := s1.toks) kp, turn_enum (Nat.succ_ne_self _), Z, fun c hc => ?_, q⟩
  have ge : s1.heap.objs.size ≤ c := by
    simp only [List.mem_cons, List.not_mem_nil, or_false] at hc
    rcases hc with rfl | rfl <;> omega
  exact I1.fpOk ge (I1.hok.fresh ge)
theorem for_enum {K : PySem.W.Frag} {k : Bool} {a : Addr} {xs : List V} {g : TG} {tb : TS} {D : Ends} {σ : St} {H : Hp} (Pv : Nat → St → Hp → Prop) (h0 : Pv 0 σ H) (hl : ∀ i σ H, i ≤ xs.length → Pv i σ H → SqK K k H a xs)
    (hs : ∀ i x p σ H, xs[i]? = some x → Pv i σ H → H p = none → g (.ref p) σ (upd H p (.tup [.int i, x])) fun σ2 H2 => tb { D with nx := Pv (i + 1), ct := Pv (i + 1), bk := D.nx } σ2 H2) (hd : ∀ σ H, Pv xs.length σ H → D.nx σ H) :
    ∃ W : Nat → Nat → St → Hp → Prop, (∃ m, W 0 m σ H) ∧ ∀ i m σ H, W i m σ H →
      ((Ite K k a).stop i H ∧ D.nx σ H) ∨ ((Ite K k a).go i H ∧ ∃ N : St → Hp → Prop, (∀ σ' H', N σ' H' → ∃ m', m' < m ∧ W (i + 1) m' σ' H') ∧ ∀ x H', (Ite K k a).yld i H x H' → g x σ H' fun σ2 H2 => tb { D with nx := N, ct := N, bk := D.nx } σ2 H2) := by
  refine ⟨fun i m σ H => m = xs.length - i ∧ i ≤ xs.length ∧ Pv i σ H, ⟨xs.length, by simp, Nat.zero_le _, h0⟩, ?_⟩
  rintro i m σ H ⟨rfl, hi, p⟩
  have q1 := hl i σ H hi p
  by_cases hlt : i < xs.length
  · refine .inr ⟨⟨xs, _, q1, List.getElem?_eq_getElem hlt⟩, Pv (i + 1), fun σ' H' n => ⟨xs.length - (i + 1), by omega, rfl, by omega, n⟩, ?_⟩
    rintro v H' ⟨p', x, rfl, hn, e1, rfl⟩
    exact hs i x p' σ H (e1 _ q1) p hn
  · have e : i = xs.length := by omega
    subst e
    exact .inl ⟨⟨xs, q1, Nat.le_refl _⟩, hd σ H p⟩
end L2
set_option Elab.async false
set_option linter.all false
set_option maxRecDepth 100000
namespace L2
open PySem PySem.Spec PyProof.Rows
abbrev B30 : Int := 1000000000000000000000000000000
end L2
set_option Elab.async false
set_option linter.all false
set_option maxRecDepth 100000
namespace L2
open PySem PySem.Spec PyProof.Rows
section
variable {X : Cx} {elt iter : Expr} {tg : Str} {tp : Pos} {cs : List Expr} {scope : Scope} {pos : Pos} {tc : TT} {te : TE} {M : List Str}
theorem ps_compL {tl : TE} {pos1 spos : Pos} {i : Nat} {x : Str} (hN : X.N.Nodup) (hix : X.N[i]? = some x) (hx : X.env.scope.names.lookup x = some .local) (hc : X.calm = true) (S : CompScope scope X.env X.N M) (nd : (tg :: M).Nodup) (hl : scope.names.lookup tg = some .local) (hi : PE X iter tl) (mo : MonoE tl)
    (hin : Inner X scope tg M cs elt tc te) (hw : swapsWith (.ListComp elt [⟨.Name tg tp, iter, cs, 0⟩] scope pos) (some (.Name x pos1)) spos.line X.env = pure true := by rfl) (hf : ∀ x, foldedSetIterable iter X.env x = pure x := by intro _; rfl) :
    PS X (.Assign [.Name x pos1] (.ListComp elt [⟨.Name tg tp, iter, cs, 0⟩] scope pos) spos) (tAsg (tCompL X.K tl tc te) (gName i)) := by
  refine ps_compG hc S nd hl (pi_list hi) hin (fun σ H Q h => ?_) hN hix hx hw hf
  refine mo σ H _ _ (fun v H1 q => ?_) h
  obtain ⟨a, xs, e, j1, q⟩ := q
  refine ⟨a, e, ⟨xs, j1⟩, fun d hd => ?_⟩
  obtain ⟨Pv, h0, hl, hs, hd⟩ := q d hd
  exact comp_list (k := 1) (g := gName 0) Pv h0 hl hs hd
end
end L2
set_option Elab.async false
set_option linter.all false
set_option maxRecDepth 100000
set_option maxHeartbeats 1000000
namespace L2
open PySem PySem.Spec PyProof.Rows
section
variable {P : Program} {w : World} {A : Around} {H : Hp} {s : Shared} {n : Nat} {α β γ : Type} [DecidableEq α] [DecidableEq β] [DecidableEq γ]
theorem Vals.three {x y z : V} {us : List Value} (h : Vals [x, y, z] us) : ∃ u v t, us = [u, v, t] ∧ RelV x u ∧ RelV y v ∧ RelV z t := by
  cases h with
  | cons a h => cases h with
    | cons b h => cases h with
      | cons c h => cases h; exact ⟨_, _, _, rfl, a, b, c⟩
variable {R1 : V → α → Prop} {R2 : V → β → Prop} {R3 : V → γ → Prop}
end
def SqI (H : Hp) (a : Addr) (ns : List Int) : Prop := H a = some (.lst (ns.map V.int)) ∨ H a = some (.tup (ns.map V.int))
end L2
set_option Elab.async false
set_option linter.all false
set_option maxRecDepth 100000
set_option maxHeartbeats 1000000
namespace L2
open PySem PySem.Spec PyProof.Rows
section
variable {X : Cx} {pins : List (Addr × Obj)} {σ : St} {H : Hp} {s : Shared}
theorem Inv.tup0 {a : Addr} {xs : List V} (I : Inv X pins σ H s) (e : H a = some (.tup xs)) : xs.length ≤ sizeLine ∧ ∃ (its : List Value) (n : Nat), Vals xs its ∧ s.heap.get? a = some { cls := .type "tuple", data := .seq its.toArray n } := by
  obtain ⟨z, its, r, o, e1, n, rfl⟩ := (show ObjOk X.prog X.w H s.heap a (.tup xs) from I.hok a _ e)
  exact ⟨z, its, n, r, e1⟩
end
def tBMT (r : V → List V → Hp → VK → Prop) (to : TE) (t : TA) : TE := fun σ H Q => to σ H fun x H1 => (∃ a xs, x = .ref a ∧ H1 a = some (.tup xs)) ∧ t σ H1 fun xs H2 => r x xs H2 Q
theorem pe_bmT {X : Cx} {id : String} {name : Str} {o e : Expr} {es : List Expr} {apos cpos : Pos} {to : TE} {t : TA} {r : V → List V → Hp → VK → Prop} (slot : Slot "tuple" name id) (hty : typeOf (.builtin id) = pure (.type "method_descriptor")) (hm : MtR X id r) (ho : PE X o to) (ha : PA X (e :: es) t)
    (hbase : attributeBase o name X.env (eval o X.env) = eval o X.env := by rfl)
    (hfew : ((backTo cpos (starEach (e :: es) X.env)).all (fun x => !x.1) && (backToKw cpos (keywordEach [] X.env)).all (fun x => x.1.isSome) && decide ((e :: es).length + ([] : List Keyword).length + (if ([] : List Keyword).isEmpty then 0 else 1) < 30)) = true := by rfl)
    (hline : (apos.endLine == cpos.line) = true := by rfl) (hs : starEach (e :: es) X.env = (false, eval e X.env) :: starEach es X.env := by rfl) (hplain : (backTo cpos (starEach es X.env)).any (·.1) = false := by rfl) :
    PE X (.Call (.Attribute o name apos) (e :: es) [] cpos) (tBMT r to t) := by
  intro pins s σ H Q I h
  refine wpAny_Call_method_late hbase hfew hline rfl (thn (ho pins s σ H _ I h) fun v s1 ⟨x, H1, I1, r1, ty, q1⟩ => ?_)
  obtain ⟨a, xs, rfl, ea⟩ := ty
  cases r1
  obtain ⟨_, its, n, _, e1⟩ := I1.tup0 ea
  refine ⟨"tuple", id, PySem.F.plainAttrs_tuple, slot, hty, ⟨_, e1, rfl⟩, fun b eb => ?_, ?_⟩
  · cases eb
    exact ⟨_, e1, rfl⟩
  have hA := ha cpos pins s1 σ H1 _ I1 q1
  rw [hs] at hA ⊢
  refine Calls.callWith_builtin (by show (false || (backTo cpos (starEach es X.env)).any (·.1)) = false; rw [hplain] <;> rfl) (Calls.evalArgs_plain ?_)
  exact thn hA fun us s2 ⟨vs, H2, I2, r2, q2⟩ => hm pins s2 σ H2 (.ref a) vs _ us Q I2 rfl r2 q2
end L2
set_option Elab.async false
set_option linter.all false
set_option maxRecDepth 100000
set_option maxHeartbeats 3200000
namespace L2
open PySem PySem.Spec PyProof.Rows PySem.W
section
variable {prog : Program} {w : World} {A : Around} {E : Value → Shared → Prop} {s : Shared} {b : Bool}
def newS (w : World) : Obj := { cls := .type "set", dict := none, data := .set #[] 0 (.fresh 0 0 (!w.params.followText "set-order")) }
theorem new_sm (a : Value) {Q1 : Value → Shared → Prop} (h : Q1 (.ref s.heap.objs.size) { s with heap := s.heap.push (newS w) }) :
    codeAny (model prog w) A (.call (.builtin "set.__new__") ⟨[.type "set", a], []⟩) (wants Q1 E) s := by
  refine codeAny_of_tree (A := A) ?_
  show wpAny _ A.in1 (checkBuiltinCall "set.__new__" ⟨[.type "set", a], []⟩ >>= fun _ => again (.builtin "set.__new__" ⟨[.type "set", a], []⟩)) _ _ s
  refine wpAny_bind (wpAny_of_eq (PySem.F.newCall_set_1 a) (wpAny_pure ⟨plainId_quiet PySem.F.plain_set_new _, codeAny_builtin PySem.F.entry_set_new ?_⟩))
  rw [Around.under_plainId PySem.F.plain_set_new _]
  unfold Builtin.«set.__new__» Builtin.Frozenset.newClass
  have sbs := PySem.sub_set_self
  obtain ⟨hp, g, d, tk, os⟩ := s
  dsimp only; wp_walk
  refine wpAny_askSetting (wpAny_pure ?_)
  dsimp only; simp only [newObj]
  exact wpAny_bind (wpAny_alloc (wpAny_pure (wpAny_pure h)))
end
end L2
set_option Elab.async false
set_option linter.all false
set_option maxRecDepth 100000
set_option maxHeartbeats 3200000
namespace L2
open PySem PySem.Spec PyProof.Rows PySem.W
section
variable {prog : Program} {w : World} {A : Around} {E : Value → Shared → Prop} {s : Shared}
def StS (prog : Program) (w : World) (zs : List Str) (h : Heap) (a : Addr) : Prop := h.SetOf (PySem.strKind prog w) a (fun k => decide (k ∈ zs)) zs.length
theorem StS.at {zs : List Str} {h h' : Heap} {a : Addr} (x : StS prog w zs h a) (e : ∀ o, h.get? a = some o → h'.get? a = some o) : StS prog w zs h' a := by
  obtain ⟨o, es, ep, t, ho, r⟩ := x
  exact ⟨o, es, ep, t, e o ho, r⟩
theorem str_is (z : Str) (t : Tok) : (PySem.strKind prog w).is z (.str z t) = true := by
  show Value.isStrOf z (.str z t) = true
  simp [Value.isStrOf]
theorem loop_st {R : Result → Shared → Prop} {I S : Addr} {fp wr : List Addr} {n : Nat} {P : Nat → Value → Prop} {St : Nat → Heap → Prop} (W : Walks prog w A.in1 I fp wr n P St) (hSf : S ∉ fp) (zs : List Str) (nd : zs.Nodup) (hn : n = zs.length) (h4 : n < 4000)
    (hval : ∀ i v, i < n → P i v → ∃ z tk, zs[i]? = some z ∧ v = .str z tk) : ∀ (k i : Nat) (s : Shared), n - i = k → i ≤ n → St i s.heap → StS prog w (zs.take i) s.heap S →
      (∀ h' tk, (∀ c o, c ∉ S :: wr → s.heap.get? c = some o → h'.get? c = some o) → StS prog w zs h' S → R (.ok (.ret .none)) { s with heap := h', toks := tk }) →
      codeAny (model prog w) A (.builtin "set.update.loop" ⟨[.ref S, .ref I], []⟩) R s := by
  have hSw : S ∉ wr := fun z => hSf (W.sub _ z)
  intro k
  induction k with
  | zero =>
    intro i s hk hi st hS hR
    obtain rfl : i = n := by omega
    refine codeAny_builtin F.entry_set_update_loop ?_
    rw [Around.under_plainId F.plain_set_update_loop _]
    show wpAny _ A.in1 (pyNext (.ref I) >>= fun _ => _) _ _ s
    refine wpAny_bind (W.done s _ _ st fun h' tk kp => ?_)
    show wpAny _ A.in1 (ret Value.none) _ _ _
    rw [hn, List.take_length] at hS
    exact wpAny_pure (hR h' tk (fun c o hc e => kp c o (fun z => hc (List.mem_cons_of_mem _ z)) e) (hS.at fun o e => kp S o hSw e))
  | succ k ih =>
    intro i s hk hi st hS hR
    have hlt : i < n := by omega
    refine codeAny_builtin F.entry_set_update_loop ?_
    rw [Around.under_plainId F.plain_set_update_loop _]
    show wpAny _ A.in1 (pyNext (.ref I) >>= fun _ => _) _ _ s
    refine wpAny_bind (W.item i s _ _ hlt st fun v h1 tk1 hP st1 kp => ?_)
    obtain ⟨z, tk, hz, rfl⟩ := hval i v hlt hP
    have hS1 : StS prog w (zs.take i) h1 S := hS.at fun o e => kp S o hSw e
    have li : i < zs.length := by omega
    have nin : z ∉ zs.take i := fun hm => by
      obtain ⟨j, hj, e⟩ := List.mem_iff_getElem.mp hm
      rw [List.length_take] at hj
      rw [List.getElem_take] at e
      have e2 : zs[i] = z := by rw [List.getElem?_eq_getElem li] at hz; exact Option.some.inj hz
      have := (List.getElem_inj nd (h₀ := by omega) (h₁ := li)).mp (e.trans e2.symm)
      omega
    show wpAny _ A.in1 (holding [Value.str z tk] (setAdd S (.str z tk)) >>= fun _ => _) _ _ _
    unfold setAdd
    refine wpAny_bind (wpAny_holding (wpAny_holding (wpAny_bind ((PySem.strKind prog w).pyHash (k := z) (str_is z tk) ?_))))
    refine wpAny_setAddHashed_of (knd := PySem.strKind prog w) (s := { s with heap := h1, toks := tk1 + 1 }) (str_is z tk) rfl hS1 (by rw [List.length_take]; unfold scanBound; omega) fun h2 sb hS2 => ?_
    have hS3 : StS prog w (zs.take (i + 1)) h2 S := by
      refine SetOf_congr hS2 (fun k' => ?_) ?_
      · rw [List.take_add_one, hz]
        simp [List.mem_append, Bool.decide_or]
      · rw [if_neg (by simp [nin]), List.length_take, List.length_take]
        omega
    refine wpAny_pure ⟨plainId_quiet F.plain_set_update_loop _, ih (i + 1) _ (by omega) hlt (W.frame _ _ _ st1 fun c hc o e => ?_) hS3 fun h' tk' kp' hS' => ?_⟩
    · rw [sb.2 c (fun z => hSf (z ▸ hc))]
      exact e
    · refine hR h' tk' (fun c o hc e => kp' c o hc ?_) hS'
      show h2.get? c = some o
      rw [sb.2 c (fun z => hc (by rw [z]; exact List.mem_cons_self))]
      exact kp c o (fun z => hc (List.mem_cons_of_mem _ z)) e
theorem newS_st {h : Heap} {a : Addr} (e : h.get? a = some (newS w)) : StS prog w [] h a :=
  ⟨_, #[], 0, _, e, ⟨rfl, rfl, rfl⟩, rfl, fun e he => by simp at he, fun k => by simp, by unfold scanBound; decide, rfl, rfl⟩
theorem sub_tuple_set : isSubtype (.type "tuple") (.type "set") = pure false := by rw [isSubtype_type]; kernel_rfl
theorem sub_tuple_frozenset : isSubtype (.type "tuple") (.type "frozenset") = pure false := by rw [isSubtype_type]; kernel_rfl
theorem call_setT {l : Addr} {items : Array Value} {zs : List Str} {Q : Value → Shared → Prop} (hh : A.handled = none) (hl : s.heap.IsTuple l items) (hi : Vals (zs.map V.str) items.toList) (nd : zs.Nodup) (h4 : zs.length < 4000)
    (h : ∀ h' tk, StS prog w zs h' s.heap.objs.size → (∀ c o, s.heap.get? c = some o → h'.get? c = some o) → Q (.ref s.heap.objs.size) { s with heap := h', toks := tk }) :
    wpAny (model prog w) A (call (.type "set") [.ref l]) Q E s := by
  obtain ⟨c, tl, hmro⟩ := PySem.F.called_set.mro
  have hmade := PySem.F.called_set.made
  have hsub := PySem.F.called_set.sub
  refine wpAny_call (codeAny_of_tree (A := A) ?_)
  show wpAny _ _ (callAny (.type "set") _) _ _ _
  refine wpAny_pure ⟨Code.quiet_builtin _ (by decide +kernel), codeAny_builtin PySem.F.entry_type_call ?_⟩
  rw [Around.under_plain (weight_type_call_type "set" [.ref l] []) rfl]
  have h1 := PySem.F.called_set.notType
  have h2 := PySem.F.called_set.canCreate
  have hct := PySem.F.typeCall_set_1 (.ref l)
  repeat (any_goals (first | assumption | wp_step))
  refine codeAny_mono (new_sm (.ref l) (E := E) (Q1 := fun obj s1 => obj = .ref s.heap.objs.size ∧ s1 = { s with heap := s.heap.push (newS w) }) ⟨rfl, rfl⟩) fun r s1 hr => ?_
  cases r with
  | error e => exact hr
  | ok fl =>
    cases fl with
    | ret obj =>
      obtain ⟨rfl, rfl⟩ := hr
      have hS : (s.heap.push (newS w)).get? s.heap.objs.size = some (newS w) := Heap.get?_push_size _ rfl
      have hT : Shared.TypeIs { s with heap := s.heap.push (newS w) } (.ref s.heap.objs.size) "set" := ⟨_, hS, rfl⟩
      have hli := PySem.F.called_set.init.lookup
      have hbi := PySem.F.called_set.init.bind (.ref s.heap.objs.size)
      repeat (any_goals (first | assumption | wp_step))
      refine codeAny_mono (codeAny_call_builtin (R := wants (fun r s2 => r = .none ∧ ∃ h' tk, s2 = { s with heap := h', toks := tk } ∧ StS prog w zs h' s.heap.objs.size ∧ (∀ c o, s.heap.get? c = some o → h'.get? c = some o)) E) PySem.F.called_set.init.plain PySem.F.entry_set_init (check_set_init_1 hT ?_)) fun r2 s2 hr2 => ?_
      · obtain ⟨ol, hol, hcl, nl, hdl⟩ := hl
        obtain ⟨ocls, odict, odata, oslots⟩ := ol
        simp only at hcl hdl
        subst hcl hdl
        have hol1 : (s.heap.push (newS w)).get? l = some { cls := .type "tuple", dict := odict, data := .seq items nl, slots := oslots } := Heap.get?_push_of_some _ hol
        have q1 := sub_tuple_set
        have q2 := sub_tuple_frozenset
        have q3 : (Value.type "tuple" == Value.type "dict") = false := by decide
        have hl1 : (s.heap.push (newS w)).IsTuple l items := ⟨_, hol1, rfl, nl, rfl⟩
        unfold Builtin.«set.__init__» noKeywords Builtin.Frozenset.updateFrom
        generalize hPI : pyIter = PI
        wp_walk
        subst hPI
        refine wpAny_pyIter_tuple hl1 (wpAny_bind (wpAny_runValue ?_))
        have lS : l < s.heap.objs.size := Heap.lt_size hol
        have ne : l ≠ (s.heap.push (newS w)).objs.size := by rw [Heap.size_push]; exact Nat.ne_of_lt (Nat.lt_succ_of_lt lS)
        have nf : s.heap.objs.size ∉ [(s.heap.push (newS w)).objs.size, l] := by
          rw [Heap.size_push]
          intro z
          rcases List.mem_cons.mp z with z | z
          · exact absurd z (Nat.ne_of_lt (Nat.lt_succ_self _))
          · exact absurd (List.mem_singleton.mp z) (Nat.ne_of_gt lS)
        have len : items.size = zs.length := by
          have := hi.length
          simpa using this.symm
        refine loop_st (Walks.tuple (by simp [hh]) _ l ne items) nf zs nd len (by omega) (fun i v hlt hv => ?_) (items.size - 0) 0 _ rfl (Nat.zero_le _) ⟨⟨_, Heap.get?_push_size _ rfl, rfl, rfl⟩, hl1.at fun o e => Heap.get?_push_of_some _ e⟩ (newS_st (Heap.get?_push_of_some _ hS)) fun h' tk kp hS' => ?_
        · have hl : i < zs.length := by rw [← len]; exact hlt
          obtain ⟨u, hu, ru⟩ := hi.get (show (zs.map V.str)[i]? = some (.str zs[i]) by rw [List.getElem?_map, List.getElem?_eq_getElem hl]; rfl)
          rw [Array.getElem?_toList] at hu
          have hv : items[i]? = some v := hv
          rw [hu] at hv
          obtain ⟨tk, e⟩ := ru
          exact ⟨zs[i], tk, List.getElem?_eq_getElem hl, by rw [← Option.some.inj hv, e]⟩
        · show wpAny _ _ _ _ _ _
          refine wpAny_pure (show wpAny _ _ (ret Value.none) _ _ _ from wpAny_pure ⟨rfl, h', tk, rfl, hS', fun c o e => kp c o (fun z => ?_) (Heap.get?_push_of_some _ (Heap.get?_push_of_some _ e))⟩)
          have lc := Heap.lt_size e
          rcases List.mem_cons.mp z with z | z
          · exact absurd z (Nat.ne_of_lt lc)
          · have := List.mem_singleton.mp z
            rw [Heap.size_push] at this
            exact absurd this (Nat.ne_of_lt (Nat.lt_succ_of_lt lc))
      · cases r2 with
        | error e => exact hr2
        | ok fl2 =>
          cases fl2 with
          | ret r =>
            obtain ⟨rfl, h', tk, rfl, hS', hk'⟩ := hr2
            repeat (any_goals (first | assumption | wp_step))
            exact h _ _ hS' hk'
          | _ => exact hr2.elim
    | _ => exact hr.elim
end
def SetT (P : Program) (w : World) (a : Addr) (zs : List Str) : HO := .ext fun h => StS P w zs h a
def rSetT (P : Program) (w : World) (K : PySem.W.Frag) : List V → Hp → VK → Prop := fun xs H Q => ∃ (l : Addr) (zs : List Str), xs = [.ref l] ∧ SqT K H l (zs.map V.str) ∧ zs.Nodup ∧ zs.length < 4000 ∧
  ∀ p H', Same H H' → H p = none → H' p = some (SetT P w p zs) → Q (.ref p) H'
theorem call_setTs {X : Cx} (hc : X.calm = true) : CallR X (.type "set") (rSetT X.prog X.w X.K) := by
  intro pins s σ H xs us Q I r h
  obtain ⟨l, zs, rfl, e, nd, h4, q⟩ := h
  obtain ⟨u, rfl, rx⟩ := vals1 r
  cases rx
  obtain ⟨its, rv, ht, hz⟩ := I.tuple e
  have hLn : H s.heap.objs.size = none := I.hok.fresh (Nat.le_refl _)
  refine call_setT (I.ok.hd hc) (show s.heap.IsTuple l its.toArray from ht) (by rw [List.toList_toArray]; exact rv) nd h4 fun h' tk hS kp => ?_
  have I2 : Inv X pins σ (upd H s.heap.objs.size (SetT X.prog X.w s.heap.objs.size zs)) { s with heap := h', toks := tk } := I.laid (t' := tk) kp (Nat.le_refl _) ⟨hS, by obtain ⟨o, _, _, _, ho, _⟩ := hS; exact ⟨o, ho⟩, fun h1 h2 z k => z.at k⟩
  exact ⟨.ref s.heap.objs.size, _, I2, rfl, q _ _ (same_newO hLn _) hLn upd_same⟩
def rLenS (P : Program) (w : World) : List V → Hp → VK → Prop := fun xs H Q => ∃ d zs, xs = [.ref d] ∧ H d = some (SetT P w d zs) ∧ zs.length < 4000 ∧ Q (.int zs.length) H
theorem call_lenS {X : Cx} : CallR X (.builtin "len") (rLenS X.prog X.w) := by
  intro pins s σ H xs us Q I r h
  obtain ⟨d, zs, rfl, e, h4, q⟩ := h
  obtain ⟨u, rfl, rx⟩ := vals1 r
  cases rx
  obtain ⟨⟨o, es, ep, t, ho, hex, hd, _, _, _, hf, hn⟩, _⟩ := (show ObjOk X.prog X.w H s.heap d (SetT X.prog X.w d zs) from I.hok d _ e)
  refine call_len_set ho hex hd hf (by rw [hn]; omega) ?_
  rw [hn]
  exact ⟨.int _, H, I.tok _, ⟨_, rfl⟩, q⟩
end L2
set_option Elab.async false
set_option linter.all false
set_option maxRecDepth 100000
set_option maxHeartbeats 1000000
namespace L2
open PySem PySem.Spec PyProof.Rows
def RStr (x : V) (z : Str) : Prop := x = .str z
section
variable {H : Hp} {s : Shared} {n : Nat}
theorem EqK.str : EqK H s n RStr := ⟨fun x a b h1 h2 => by unfold RStr at *; rw [h1] at h2; cases h2; rfl, fun A x y a b u v _ h1 h2 r1 r2 => by
  unfold RStr at *
  subst h1 h2
  obtain ⟨t, rfl⟩ := r1
  obtain ⟨t', rfl⟩ := r2
  have q := SeqAt.EqAt.str_str (A := A) (s := s) a t b t'
  rw [Bool.beq_eq_decide_eq] at q
  exact q⟩
theorem Paired.strs : ∀ zs : List Str, Paired RStr (zs.map V.str) zs
  | [] => .nil
  | z :: zs => .cons rfl (Paired.strs zs)
end
theorem vals4 {a b c d : V} {us : List Value} (h : Vals [a, b, c, d] us) : ∃ p q r t, us = [p, q, r, t] ∧ RelV a p ∧ RelV b q ∧ RelV c r ∧ RelV d t := by
  cases h with
  | cons r1 h =>
    obtain ⟨q, r, t, rfl, r2, r3, r4⟩ := Vals.three h
    exact ⟨_, q, r, t, rfl, r1, r2, r3, r4⟩
def BkAt (H : Hp) (a : Addr) (sg : List Str) (ps : List Int) (nm : List Str) (ws : List Int) : Prop := ∃ b1 b2 b3 b4, H a = some (.tup [.ref b1, .ref b2, .ref b3, .ref b4]) ∧ H b1 = some (.tup (sg.map V.str)) ∧ H b2 = some (.tup (ps.map V.int)) ∧ H b3 = some (.tup (nm.map V.str)) ∧ H b4 = some (.tup (ws.map V.int))
def rEqBk : R2 := fun x y H Q => ∃ a b sg ps nm ws, x = .ref a ∧ y = .ref b ∧ BkAt H a sg ps nm ws ∧ BkAt H b sg ps nm ws ∧ Q (.bl true) H
theorem op_eqBk {X : Cx} (hu : X.A.units + 4 < cLine) : OpR X (compareOp .Eq) rEqBk := by
  intro pins s σ H x y v w' Q I rx ry h
  obtain ⟨a, b, sg, ps, nm, ws, rfl, rfl, ⟨b1, b2, b3, b4, ha, h1, h2, h3, h4⟩, ⟨c1, c2, c3, c4, hb, k1, k2, k3, k4⟩, q⟩ := h
  cases rx; cases ry
  obtain ⟨_, its, vv1, p1⟩ := old_tup (I.hok a _ ha)
  obtain ⟨_, its2, vv2, p2⟩ := old_tup (I.hok b _ hb)
  obtain ⟨u1, u2, u3, u4, rfl, r1, r2, r3, r4⟩ := vals4 vv1
  obtain ⟨t1, t2, t3, t4, rfl, q1, q2, q3, q4⟩ := vals4 vv2
  have ES := EqK.tup (H := H) (s := s) (n := 0) EqK.str I.hok
  have EI := EqK.tup (H := H) (s := s) (n := 0) EqK.int I.hok
  have z1 : SeqAt.EqAt X.A.in1 s u1 t1 (decide (sg = sg)) := ES.eq X.A.in1 _ _ sg sg u1 t1 (by show X.A.units + 1 + (0 + 1) < cLine; omega) ⟨b1, _, rfl, h1, Paired.strs sg⟩ ⟨c1, _, rfl, k1, Paired.strs sg⟩ r1 q1
  have z2 : SeqAt.EqAt X.A.in1 s u2 t2 (decide (ps = ps)) := EI.eq X.A.in1 _ _ ps ps u2 t2 (by show X.A.units + 1 + (0 + 1) < cLine; omega) ⟨b2, _, rfl, h2, Paired.ints ps⟩ ⟨c2, _, rfl, k2, Paired.ints ps⟩ r2 q2
  have z3 : SeqAt.EqAt X.A.in1 s u3 t3 (decide (nm = nm)) := ES.eq X.A.in1 _ _ nm nm u3 t3 (by show X.A.units + 1 + (0 + 1) < cLine; omega) ⟨b3, _, rfl, h3, Paired.strs nm⟩ ⟨c3, _, rfl, k3, Paired.strs nm⟩ r3 q3
  have z4 : SeqAt.EqAt X.A.in1 s u4 t4 (decide (ws = ws)) := EI.eq X.A.in1 _ _ ws ws u4 t4 (by show X.A.units + 1 + (0 + 1) < cLine; omega) ⟨b4, _, rfl, h4, Paired.ints ws⟩ ⟨c4, _, rfl, k4, Paired.ints ws⟩ r4 q4
  rw [decide_eq_true rfl] at z1 z2 z3 z4
  have z := SeqAt.RcAt.tuples (A := X.A) (e := fun _ => true) p1 p2 (by omega) (fun k h1 h2 => by
    match k, h1, h2 with
    | 0, _, _ => exact z1
    | 1, _, _ => exact z2
    | 2, _, _ => exact z3
    | 3, _, _ => exact z4
    | k + 4, h1, _ => exact absurd (show k + 4 < 4 from h1) (by omega))
  refine z _ _ _ _ ⟨.bl _, H, I, rfl, ?_⟩
  have ez : ((List.range (min [u1, u2, u3, u4].toArray.size [t1, t2, t3, t4].toArray.size)).all (fun _ => true) && [u1, u2, u3, u4].toArray.size == [t1, t2, t3, t4].toArray.size) = true := by
    show ((List.range 4).all _ && true) = _
    simp
  rw [ez]
  exact q
def rSlLast : V → Option Int → Option Int → Hp → VK → Prop := fun x lo hi H Q => ∃ z : Str, x = .str z ∧ lo = none ∧ hi = some (-1) ∧ 1 ≤ z.length ∧ z.length ≤ sizeLine ∧ Q (.str ⟨z.cps.toList.dropLast.toArray⟩) H
theorem picked_last {n : Nat} (h : 1 ≤ n) : Builtin.Str.strSliceIndices none (some (-1)) 1 n = List.range (n - 1) := by
  have e : (max 0 (min ((if (-1 : Int) < 0 then -1 + (n : Int) else -1)) (n : Int))) = ((n - 1 : Nat) : Int) := by
    rw [if_pos (by decide)]
    omega
  show sliceRange 0 (max 0 (min ((if (-1 : Int) < 0 then -1 + (n : Int) else -1)) (n : Int))) 1 = _
  rw [e]
  have := sliceRange_one 0 (n - 1)
  simpa using this
theorem fm_congr {α β : Type} {f g : α → Option β} : ∀ {l : List α}, (∀ x ∈ l, f x = g x) → l.filterMap f = l.filterMap g
  | [], _ => rfl
  | x :: l, h => by
    rw [List.filterMap_cons, List.filterMap_cons, h x (.head _), fm_congr fun y hy => h y (.tail _ hy)]
theorem sl_last {X : Cx} : SlR X rSlLast := by
  intro pins s σ H x v vl vu lo hi sl Q I rx hs pl pu h
  obtain ⟨z, rfl, rfl, rfl, h1, hz, q⟩ := h
  obtain ⟨t, rfl⟩ := rx
  cases pl
  cases pu with
  | int i tk =>
  refine ⟨"str", _, F.slot_str_getitem.lookup, typeIs_str _ _ _, ?_⟩
  refine wpAny_getItem_str_slice (l := none) (u := some (-1, tk)) (st := none) hs rfl ?_
  have e1 : slicePicked z none (some (-1, tk)) none = List.range (z.length - 1) := picked_last h1
  have e2 : (z.length - 1 == z.length) = false := by simp; omega
  unfold sliceMade
  rw [e1, List.length_range, e2, Bool.and_false, if_neg Bool.false_ne_true]
  have e3 : (List.range (z.length - 1)).filterMap (z.cps[·]?) = z.cps.toList.dropLast := by
    have hl : z.length - 1 = z.cps.toList.dropLast.length := by rw [List.length_dropLast]; rfl
    have hc : ∀ i ∈ List.range (z.length - 1), z.cps[i]? = z.cps.toList.dropLast[i]? := fun i hi => by
      have := List.mem_range.mp hi
      rw [List.getElem?_dropLast, if_pos (by rw [Array.length_toList]; exact this), Array.getElem?_toList]
    rw [fm_congr hc, hl]
    exact List.filterMap_getElem?_range_length _
  rw [e3]
  refine ⟨?_, .str _, H, I.tok _, ⟨_, rfl⟩, q⟩
  show z.cps.toList.dropLast.toArray.size ≤ _
  rw [List.size_toArray, List.length_dropLast, Array.length_toList]
  exact Nat.le_trans (Nat.sub_le _ _) hz
theorem tindex (l : Addr) (items : Array Value) (x : Value) (e : Value → Bool) (j : Nat) (hj : j < items.size) (hit : e items[j] = true) (hno : ∀ m (hm : m < items.size), m < j → e items[m] = false) :
    Meets (Builtin.«tuple.index» ⟨[.ref l, x], []⟩) (fun A R s => s.heap.IsTuple l items ∧ (∀ y, y ∈ items → SeqAt.EqAt A.in1 s y x (e y)) ∧ R (.ok (.ret (.int j s.toks))) { s with toks := s.toks + 1 }) := by
  intro prog w A R s h
  obtain ⟨hl, he, h⟩ := h
  obtain ⟨⟨cls, dd, data, sl⟩, ho, hc, n, hd⟩ := id hl
  simp only at hc hd
  subst hc hd
  unfold Builtin.«tuple.index»
  refine wpAny_bind (m := selfAndSome "tuple.index" "index" 1 3 { pos := [Value.ref l, x] }) (wpAny_pure ?_)
  have ti : ∀ {Q : Array Value → Shared → Prop}, Q items s → wpAny (model prog w) A.in1 (Builtin.Tuple.tupleItemsOf (.ref l)) Q (fun e s' => R (.error e) s') s := fun q => by
    unfold Builtin.Tuple.tupleItemsOf seqItems?
    exact wpAny_bind (wpAny_bind (wpAny_load ho (wpAny_pure (wpAny_pure q))))
  refine wpAny_bind (ti ?_)
  refine wpAny_bind (m := pure 0) (wpAny_pure (wpAny_bind (m := pure items.size) (wpAny_pure ?_)))
  refine wpAny_bind ?_
  rw [Nat.min_self, Std.Legacy.Range.forIn_eq_forIn_range']
  simp only [Std.Legacy.Range.size, Nat.sub_zero, Nat.add_sub_cancel, Nat.div_one]
  refine wpAny_forIn_list _ (fun rest b s' => s' = s ∧ b = (none, ()) ∧ ∃ i, i ≤ j ∧ rest = List.range' i (items.size - i)) _ ?_ ?_ _ _ ⟨rfl, rfl, 0, Nat.zero_le _, by simp⟩
  · rintro i rest b s' ⟨rfl, rfl, i', hi', hr⟩
    obtain ⟨rfl, hrest⟩ : i = i' ∧ rest = List.range' (i' + 1) (items.size - (i' + 1)) := by
      have e : items.size - i' = (items.size - (i' + 1)) + 1 := by omega
      rw [e, List.range'_succ] at hr
      injection hr with h1 h2
      exact ⟨h1, h2⟩
    have hi : i < items.size := by omega
    rw [Array.getElem?_eq_getElem hi]
    refine wpAny_bind (he items[i] (Array.getElem_mem hi) _ _ _ _ ?_)
    by_cases c : i = j
    · subst c
      rw [hit, if_pos rfl]
      unfold retInt
      refine wpAny_bind (wpAny_bind (wpAny_mkInt ?_))
      exact wpAny_pure (wpAny_pure (wpAny_pure h))
    · rw [hno i hi (by omega), if_neg Bool.false_ne_true]
      exact wpAny_pure ⟨rfl, rfl, i + 1, by omega, hrest⟩
  · rintro b s' ⟨_, _, i, hi, hr⟩
    have := congrArg List.length hr
    rw [List.length_range'] at this
    exact absurd this (by show ¬ (0 = items.size - i); omega)
def rIdxT (K : PySem.W.Frag) : V → List V → Hp → VK → Prop := fun x vs H Q => ∃ (l : Addr) (zs : List Str) (u : Str), x = .ref l ∧ vs = [.str u] ∧ SqT K H l (zs.map V.str) ∧ u ∈ zs ∧ Q (.int (zs.idxOf u : Nat)) H
theorem mt_tindex {X : Cx} (K : PySem.W.Frag) (hK : X.K = K := by rfl) : MtM X "tuple.index" (rIdxT K) := by
  subst hK
  intro pins s σ H x vs v us Q I rx rv h
  obtain ⟨l, zs, u, rfl, rfl, hH, hm, q⟩ := h
  cases rx
  obtain ⟨y', rfl, ry⟩ := rv.one
  obtain ⟨its, r, ht, hz⟩ := I.tuple hH
  obtain ⟨tu, rfl⟩ := ry
  have li : (zs.map V.str).length = its.length := r.length
  rw [List.length_map] at li
  have ev : ∀ (i : Nat) (z : Value), its[i]? = some z → ∃ k t, zs[i]? = some k ∧ z = .str k t := fun i z hi => by
    have il : i < its.length := (List.getElem?_eq_some_iff.mp hi).1
    have hxi : (zs.map V.str)[i]? = some (.str (zs[i]'(by omega))) := by rw [List.getElem?_map, List.getElem?_eq_getElem (by omega)]; rfl
    obtain ⟨z', hz', rz⟩ := r.get hxi
    rw [hi] at hz'
    cases hz'
    obtain ⟨t, e⟩ := rz
    exact ⟨_, t, List.getElem?_eq_getElem (by omega), e⟩
  have hj : zs.idxOf u < zs.length := List.idxOf_lt_length_iff.mpr hm
  refine call_meets PySem.F.slot_tuple_index ht.typeIs PySem.F.entry_tuple_index (PySem.F.args_tuple_index_2 _ _)
    (tindex l its.toArray _ (fun z => match z with | .str k _ => decide (k = u) | _ => false) (zs.idxOf u) (by rw [List.size_toArray]; omega) ?_ ?_) ⟨ht, fun z hz => ?_, ⟨.int _, H, I.tok _, ⟨_, rfl⟩, q⟩⟩
  · obtain ⟨k, t, hk, e⟩ := ev (zs.idxOf u) (its[zs.idxOf u]'(by omega)) (List.getElem?_eq_getElem _)
    show (match its[zs.idxOf u]'(by omega) with | .str k _ => decide (k = u) | _ => false) = true
    rw [e]
    refine decide_eq_true ?_
    rw [List.getElem?_eq_getElem hj, List.getElem_idxOf hj] at hk
    cases hk
    rfl
  · intro m hm' hlt
    have hm2 : m < its.length := by simpa using hm'
    obtain ⟨k, t, hk, e⟩ := ev m (its[m]'hm2) (List.getElem?_eq_getElem _)
    show (match its[m]'hm2 with | .str k _ => decide (k = u) | _ => false) = false
    rw [e]
    refine decide_eq_false fun hz => ?_
    have hlt' : m < zs.findIdx (· == u) := hlt
    obtain ⟨ml, em⟩ := List.getElem?_eq_some_iff.mp hk
    have := List.not_of_lt_findIdx hlt'
    rw [em, hz] at this
    simp at this
  · have hz' : z ∈ its := by simpa using hz
    obtain ⟨i, hi⟩ := List.mem_iff_getElem?.mp hz'
    obtain ⟨k, t, hk, rfl⟩ := ev i z hi
    have q := SeqAt.EqAt.str_str (A := X.A.in1) (s := s) k t u tu
    rw [Bool.beq_eq_decide_eq] at q
    exact q
end L2
set_option Elab.async false
set_option linter.all false
set_option maxRecDepth 100000
namespace K91
open PySem PySem.NumText L2 PyProof.Rows
def S (l : List Nat) : Str := ⟨l.toArray⟩
theorem S_cps (l : List Nat) : (S l).cps.toList = l := List.toList_toArray
theorem S_len (l : List Nat) : (S l).length = l.length := List.size_toArray
theorem S_of (z : Str) : S z.cps.toList = z := rfl
theorem S_app (a b : List Nat) : S a ++ S b = S (a ++ b) := by
  show (⟨a.toArray ++ b.toArray⟩ : Str) = ⟨(a ++ b).toArray⟩
  rw [List.append_toArray]
theorem S_inj {a b : List Nat} (h : S a = S b) : a = b := by
  have := congrArg (fun z : Str => z.cps.toList) h
  simpa [S] using this
def jn (c : Nat) : List (List Nat) → List Nat
  | [] => []
  | [a] => a
  | a :: b :: r => a ++ c :: jn c (b :: r)
theorem jn_is (c : Nat) : ∀ zs : List Str, (Str.join ⟨#[c]⟩ zs).cps.toList = jn c (zs.map fun z => z.cps.toList)
  | [] => rfl
  | [a] => rfl
  | a :: b :: r => by
    have ih := jn_is c (b :: r)
    show (a ++ (⟨#[c]⟩ : Str) ++ Str.join ⟨#[c]⟩ (b :: r)).cps.toList = _
    show ((a.cps ++ #[c]) ++ (Str.join ⟨#[c]⟩ (b :: r)).cps).toList = _
    rw [Array.toList_append, Array.toList_append, ih]
    simp [jn]
theorem cut_one {c : Nat} : ∀ {a b r t : List Nat}, c ∉ a → c ∉ b → a ++ c :: r = b ++ c :: t → a = b ∧ r = t
  | [], [], _, _, _, _, h => ⟨rfl, (List.cons.inj h).2⟩
  | [], y :: b, _, _, _, hb, h => absurd ((List.cons.inj h).1 ▸ List.mem_cons_self) hb
  | x :: a, [], _, _, ha, _, h => absurd ((List.cons.inj h).1 ▸ List.mem_cons_self) ha
  | x :: a, y :: b, r, t, ha, hb, h => by
    obtain ⟨h1, h2⟩ := List.cons.inj h
    obtain ⟨e1, e2⟩ := cut_one (fun z => ha (.tail _ z)) (fun z => hb (.tail _ z)) h2
    exact ⟨by rw [h1, e1], e2⟩
theorem jn_uniq {c : Nat} : ∀ {A B : List (List Nat)}, A ≠ [] → B ≠ [] → (∀ a ∈ A, c ∉ a) → (∀ b ∈ B, c ∉ b) → jn c A = jn c B → A = B
  | [], _, h, _, _, _, _ => absurd rfl h
  | _, [], _, h, _, _, _ => absurd rfl h
  | [a], [b], _, _, _, _, h => by rw [show a = b from h]
  | [a], b :: b2 :: r, _, _, fa, _, h => by
    have h : a = b ++ c :: jn c (b2 :: r) := h
    exact absurd (by rw [h]; simp) (fa a (.head _))
  | a :: a2 :: r, [b], _, _, _, fb, h => by
    have h : a ++ c :: jn c (a2 :: r) = b := h
    exact absurd (by rw [← h]; simp) (fb b (.head _))
  | a :: a2 :: r, b :: b2 :: t, _, _, fa, fb, h => by
    obtain ⟨e1, e2⟩ := cut_one (fa a (.head _)) (fb b (.head _)) (show a ++ c :: jn c (a2 :: r) = b ++ c :: jn c (b2 :: t) from h)
    rw [e1, jn_uniq (by simp) (by simp) (fun x hx => fa x (.tail _ hx)) (fun x hx => fb x (.tail _ hx)) e2]
theorem split_is {c : Nat} {x : Str} {B : List (List Nat)} (hB : B ≠ []) (fb : ∀ b ∈ B, c ∉ b) (h : x.cps.toList = jn c B) : Txt.split x ⟨#[c]⟩ = B.map S := by
  have e1 := jn_is c (Txt.split x ⟨#[c]⟩)
  rw [StrLaws.join_split, h] at e1
  have ne : (Txt.split x ⟨#[c]⟩).map (fun z => z.cps.toList) ≠ [] := fun z => by
    have := split_pos x ⟨#[c]⟩
    rw [List.map_eq_nil_iff.mp z] at this
    exact absurd this (by decide)
  have := jn_uniq hB ne fb (fun a ha => by
    obtain ⟨p, hp, rfl⟩ := List.mem_map.mp ha
    exact StrLaws.split_free x c p hp) e1
  rw [this, List.map_map]
  exact (List.map_id' _).symm.trans (List.map_congr_left fun z _ => rfl)
def dg (n : Int) : List Nat := (Nat.toDigits 10 n.toNat).map Char.toNat
def nS (n : Int) : Str := S (dg n)
theorem nS_is {n : Int} (h : 0 ≤ n) : (Str.ofString (toString n)) = nS n := by
  obtain ⟨m, rfl⟩ : ∃ m : Nat, n = m := ⟨n.toNat, by omega⟩
  have := PySem.W.KIN.signs_num m
  show _ = S (dg m)
  rw [← S_of (Str.ofString (toString (m : Int))), this]
  rfl
theorem dg_len {n : Int} (h1 : n ≤ B30) : (dg n).length ≤ 31 := by
  unfold dg
  rw [List.length_map]
  refine toDigits_len_pow (by decide) (by decide) ?_
  have : B30 < 10 ^ 31 := by unfold B30; decide
  omega
theorem dg_pos (n : Int) : 1 ≤ (dg n).length := by
  unfold dg
  rw [List.length_map]
  exact toDigits_len_ge 10 _
theorem digit_ch : ∀ d : Nat, d < 10 → 48 ≤ (Nat.digitChar d).toNat ∧ (Nat.digitChar d).toNat ≤ 57 ∧ (d ≠ 0 → (Nat.digitChar d).toNat ≠ 48) := by decide
theorem dg_all (n : Int) : ∀ c ∈ dg n, 48 ≤ c ∧ c ≤ 57 := fun c hc => by
  obtain ⟨ch, hch, rfl⟩ := List.mem_map.mp hc
  exact digit_range (Nat.isDigit_of_mem_toDigits (by decide) (by decide) hch)
theorem dg_nat (m : Nat) (h : 1 ≤ m) : ((Nat.toDigits 10 m).map Char.toNat).getD 0 0 ≠ 48 := by
  induction m using Nat.strongRecOn with
  | _ m ih =>
    by_cases c : m < 10
    · rw [Nat.toDigits_of_lt_base c]
      exact (digit_ch m c).2.2 (by omega)
    · have hm : m % 10 < 10 := Nat.mod_lt m (by decide)
      have t : Nat.toDigits 10 (m / 10) ++ Nat.toDigits 10 (m % 10) = Nat.toDigits 10 (10 * (m / 10) + m % 10) := Nat.toDigits_append_toDigits (by decide) (by omega) hm
      rw [Nat.div_add_mod] at t
      have ih := ih (m / 10) (by omega) (by omega)
      have l := toDigits_len_ge 10 (m / 10)
      rw [← t, List.map_append]
      rw [List.getD_eq_getElem?_getD] at ih ⊢
      rw [List.getElem?_append_left (by rw [List.length_map]; omega)]
      exact ih
theorem dg_first {n : Int} (h : 1 ≤ n) : (dg n).getD 0 0 ≠ 48 := dg_nat n.toNat (by omega)
theorem dg_reads {n : Int} (h0 : 1 ≤ n) (h1 : n ≤ B30) : PySem.intText? (nS n) = some n := by
  have l := dg_len h1
  have p := dg_pos n
  have e0 : (nS n).cps.toList = dg n := S_cps _
  have e := intText_digits (x := nS n) (by rw [e0]; exact dg_all n) (by rw [e0]; intro z; rw [z] at p; exact absurd p (by decide)) (by show (S (dg n)).length ≤ _; rw [S_len]; omega)
  rw [e0] at e
  have vb := PySem.W.KIN.val_back n.toNat
  rw [e]
  show some ((NumText.digitsVal (dg n) : Nat) : Int) = some n
  rw [show NumText.digitsVal (dg n) = n.toNat from vb]
  congr 1
  omega
def top (i : Nat) : Stmt := PySem.Challenge.pw_lettertoll_k91_books_written_and_read.main.body.getD i (.Pass ⟨0, 0, 0, 0⟩)
abbrev sIsAm : Stmt := top 8
abbrev sAre : Stmt := top 9
abbrev sMP : Stmt := top 10
abbrev sMW : Stmt := top 11
abbrev sAlone : Stmt := top 12
abbrev sBT : Stmt := top 17
abbrev sRB : Stmt := top 18
abbrev sRO : Stmt := top 19
abbrev sILR : Stmt := top 20
abbrev sITR : Stmt := top 21
abbrev sIN : Stmt := top 22
abbrev sINu : Stmt := top 23
abbrev sWT : Stmt := top 24
abbrev sRW : Stmt := top 25
abbrev sCell : Stmt := top 27
abbrev sWhole : Stmt := top 28
abbrev sAmount : Stmt := top 29
abbrev sSigns : Stmt := top 30
abbrev sNames : Stmt := top 31
abbrev sText : Stmt := top 32
abbrev sWord : Stmt := top 33
abbrev sSame : Stmt := top 34
abbrev sLaw : Stmt := top 35
theorem ps_dead {X : Cx} {st : Stmt} : PS X st (fun _ _ _ => False) := fun _ _ _ _ _ _ h => h.elim
end K91
set_option Elab.async false
set_option linter.all false
set_option maxRecDepth 100000
namespace K91
open PySem L2
theorem e30 : (10 : Int) ^ (30 : Int).toNat = B30 := by unfold B30; decide
def alpha : Str := Str.ofString "abcdefghijklmnopqrstuvwxyz"
theorem alpha_l : alpha.cps.toList = (List.range 26).map (97 + ·) := by decide +kernel
theorem alpha_at {i : Int} (h0 : 0 ≤ i) (h1 : i < 26) : atI alpha.cps.toList i = some (97 + i.toNat) := by
  obtain ⟨k, rfl⟩ : ∃ k : Nat, i = k := ⟨i.toNat, by omega⟩
  refine atI_nat ?_
  rw [alpha_l, List.getElem?_map, List.getElem?_range (by omega)]
  rfl
theorem alpha_len : alpha.length ≤ sizeLine := by decide +kernel
section
variable {P : Program} {w : World} {K : PySem.W.Frag} {mg : Str → Option Value} {base : Heap} {f : Addr} {fd : FuncData}
def spCell (K : PySem.W.Frag) : Sp := fun vs H Q _ => ∃ (a : Addr) (ns : List Int) (k : Int), vs = [.ref a, .int k] ∧ SqL K H a (ns.map V.int) ∧ 0 ≤ k ∧ ∀ i, Q (.int i) H
theorem scCell : FnScope ["script", "k"] ["script", "k"] (defScope sCell) := ⟨rfl, rfl, rfl, by decide +kernel, rfl, by decide +kernel, by decide +kernel⟩
theorem ok_cell (F : Fun K "_law_cell_at" "_law_cell_at" sCell f fd) (ml : mg "len" = none) : FnOk P w K mg base CX0 1 f fd ["script", "k"] (spCell K) := by
  refine F.ok (k := 0) scCell (fun vs H Q E h => ?_) (fun cdv A outer s H vs Q E hr h => ?_)
  · obtain ⟨a, ns, k, rfl, _⟩ := h
    rfl
  obtain ⟨a, ns, k, rfl, hS, h0, q⟩ := h
  refine ⟨_, pss_cons (ps_if (pt_cmpR op_lt (pv 1) (pe_callB call_len_seq (by rfl) ml PySem.boot_len (pa_cons (pv 0) pa_nil)) (nomark _)) (pss_one (ps_ret (pe_ix ix_list (pv 0) (pv 1) (fun _ _ => rfl)))) pss_nil) (pss_one (ps_ret pe_int)), ?_⟩
  refine ⟨_, rfl, _, rfl, a, _, rfl, .inl hS, _, _, rfl, rfl, _, rfl, ?_⟩
  refine ite2 (fun c => ?_) (fun c => q 0)
  have c1 : k < ((ns.map V.int).length : Int) := of_decide_eq_true c
  obtain ⟨n, rfl⟩ : ∃ n : Nat, k = n := ⟨k.toNat, by omega⟩
  have hn : n < ns.length := by rw [List.length_map] at c1; omega
  exact ⟨_, rfl, _, rfl, a, _, _, _, rfl, rfl, hS, at_int (List.getElem?_eq_getElem hn), q _⟩
def spWhole : Sp := fun vs H Q _ => ∃ i, vs = [.int i] ∧ Q (.bl true) H
theorem scWhole : FnScope ["found"] ["found"] (defScope sWhole) := ⟨rfl, rfl, rfl, by decide +kernel, rfl, by decide +kernel, by decide +kernel⟩
theorem ok_whole (F : Fun K "_law_whole" "_law_whole" sWhole f fd) (mi : mg "isinstance" = none) (m1 : mg "int" = none) (m2 : mg "bool" = none) : FnOk P w K mg base CX0 1 f fd ["found"] spWhole := by
  refine F.ok (k := 0) scWhole (fun vs H Q E h => ?_) (fun cdv A outer s H vs Q E hr h => ?_)
  · obtain ⟨i, rfl, _⟩ := h
    rfl
  obtain ⟨i, rfl, q⟩ := h
  refine ⟨_, pss_one (ps_ret (pe_and (pe_callB call_isi (by rfl) mi b_isi (pa_cons (pv 0) (pa_cons (pe_bltn (v := .ty "int") (by rfl) m1 b_int rfl) pa_nil)))
    (pe_one (pe_not (pe_callB call_isi (by rfl) mi b_isi (pa_cons (pv 0) (pa_cons (pe_bltn (v := .ty "bool") (by rfl) m2 b_bool rfl) pa_nil))))))), ?_⟩
  exact ⟨_, rfl, _, _, _, _, rfl, .int i, kit_int_int _, _, rfl, iteT ⟨_, rfl, _, _, _, _, rfl, .int i, kit_int_bool _, _, rfl, q⟩⟩
def spAmount : Sp := fun vs H Q _ => ∃ c : Int, vs = [.int c] ∧ ∀ i, 1 ≤ i → i ≤ B30 → Q (.int i) H
theorem scAmount : FnScope ["cell", "rest"] ["cell"] (defScope sAmount) := ⟨rfl, rfl, rfl, by decide +kernel, rfl, by decide +kernel, by decide +kernel⟩
theorem ok_amount (F : Fun K "_law_amount" "_law_amount" sAmount f fd) : FnOk P w K mg base CX0 1 f fd ["cell"] spAmount := by
  refine F.ok (k := 0) scAmount (fun vs H Q E h => ?_) (fun cdv A outer s H vs Q E hr h => ?_)
  · obtain ⟨c, rfl, _⟩ := h
    rfl
  obtain ⟨c, rfl, q⟩ := h
  refine ⟨_, pss_cons (ps_set (i := 1) scAmount.nd rfl (Or.inl rfl) (pe_op op_fdiv (pv 0) pe_int))
    (pss_cons (ps_if (pt_cmpR op_eq (pe_op op_mod (pv 0) pe_int) pe_int (nomark _)) (pss_one (ps_ret (pe_op op_add pe_int (pe_op op_mod (pv 1) (pe_op op_pow pe_int pe_int))))) pss_nil)
    (pss_cons (ps_if (pt_cmpR op_eq (pe_op op_mod (pv 0) pe_int) pe_int (nomark _)) (pss_one (ps_ret (pe_op op_sub (pe_op op_pow pe_int pe_int) (pe_op op_mod (pv 1) pe_int)))) pss_nil)
    (pss_cons (ps_if (pt_cmpR op_eq (pe_op op_mod (pv 0) pe_int) pe_int (nomark _)) (pss_one (ps_ret (pe_op op_add pe_int (pe_op op_mod (pv 1) pe_int)))) pss_nil)
    (pss_one (ps_ret (pe_op op_add pe_int (pe_op op_mod (pv 1) pe_int))))))), ?_⟩
  refine ⟨_, rfl, _, _, rfl, rfl, ⟨by decide, by decide⟩, ?_⟩
  refine ⟨_, rfl, _, _, rfl, rfl, (by show (0 : Int) < _; decide), rfl, _, rfl, ?_⟩
  refine ite2 (fun _ => ⟨_, rfl, _, _, rfl, rfl, ⟨by decide, by decide, by decide⟩, _, _, rfl, rfl, (by show (0 : Int) < _; decide), _, _, rfl, rfl, q _ (by rw [e30]; unfold B30; omega) (by rw [e30]; unfold B30; omega)⟩) (fun _ => ?_)
  refine ⟨_, rfl, _, _, rfl, rfl, (by show (0 : Int) < _; decide), rfl, _, rfl, ?_⟩
  refine ite2 (fun _ => ⟨_, _, rfl, rfl, ⟨by decide, by decide, by decide⟩, _, rfl, _, _, rfl, rfl, (by show (0 : Int) < _; decide), _, _, rfl, rfl, q _ (by rw [e30]; unfold B30; omega) (by rw [e30]; unfold B30; omega)⟩) (fun _ => ?_)
  refine ⟨_, rfl, _, _, rfl, rfl, (by show (0 : Int) < _; decide), rfl, _, rfl, ?_⟩
  refine ite2 (fun _ => ⟨_, rfl, _, _, rfl, rfl, (by show (0 : Int) < _; decide), _, _, rfl, rfl, q _ (by omega) (by unfold B30; omega)⟩) (fun _ => ?_)
  exact ⟨_, rfl, _, _, rfl, rfl, (by show (0 : Int) < _; decide), _, _, rfl, rfl, q _ (by omega) (by unfold B30; omega)⟩
def sgL (c : Int) (n : Nat) : List Str := (List.range n).map fun k : Nat => S [97 + ((c + 5 * (k : Int)) % 26).toNat]
abbrev NSg : List Str := ["cell", "many", "letters"]
abbrev PSg : List Str := ["cell", "many"]
def spSg : Sp := fun vs H Q _ => ∃ (c : Int) (n : Nat), vs = [.int c, .int n] ∧ n ≤ 30 ∧ ∀ d H', Same H H' → H d = none → H' d = some (.lst ((sgL c n).map V.str)) → Q (.ref d) H'
theorem scSg : FnScope NSg PSg (defScope sSigns) := ⟨rfl, rfl, rfl, by decide +kernel, rfl, by decide +kernel, by decide +kernel⟩
theorem ndSg : (("k" : Str) :: NSg).Nodup := by decide +kernel
theorem ok_sg (F : Fun K "_law_signs" "_law_signs" sSigns f fd) (mr : mg "range" = none) : FnOk P w K mg base CX0 1 f fd PSg spSg := by
  refine F.ok (k := 0) scSg (fun vs H Q E h => ?_) (fun cdv A outer s H vs Q E hr h => ?_)
  · obtain ⟨c, n, rfl, _⟩ := h
    rfl
  obtain ⟨c, n, rfl, n30, q⟩ := h
  refine ⟨_, pss_cons (ps_set (i := 2) scSg.nd rfl (Or.inr rfl) pe_str)
    (pss_one (ps_ret (pe_compR1 (M := NSg) rfl (CompScope.of (defScope sSigns) NSg rfl rfl rfl (by decide +kernel) (by decide +kernel) (by decide +kernel) rfl (by decide +kernel)) ndSg rfl (by rfl) mr (pa_cons (pv 1) pa_nil) (mo_cons mo_var mo_nil)
      (fun cl C s0 H0 fp => ⟨pts_nil, pe_ix ix_str (pv 3) (pe_op op_mod (pe_op op_add (pv 1) (pe_op op_mul pe_int (pv 0))) pe_int) (fun _ _ => rfl)⟩)))), ?_⟩
  refine ⟨_, rfl, _, rfl, by omega, by omega, fun d hd => ?_⟩
  have en : ((n : Int)).toNat = n := Int.toNat_natCast n
  rw [en]
  refine ⟨fun i H' => Same H H' ∧ H' d = some (.lst ((sgL c i).map V.str)), ⟨same_newO hd _, upd_same⟩, fun i H' hi hP => ?_, fun H' hP => q d H' hP.1 hd hP.2⟩
  obtain ⟨s1, hz⟩ := hP
  have ei : (0 : Int) + (i : Int) = (i : Int) := by omega
  rw [ei]
  have h0 := Int.emod_nonneg (c + 5 * (i : Int)) (show (26 : Int) ≠ 0 by decide)
  have h1 := Int.emod_lt_of_pos (c + 5 * (i : Int)) (show (0 : Int) < 26 by decide)
  refine turn_all ⟨_, rfl, _, rfl, _, rfl, _, _, rfl, rfl, .inl ⟨by decide, by decide⟩, _, _, rfl, rfl, _, _, rfl, rfl, (by show (0 : Int) < _; decide), alpha, _, _, rfl, rfl, alpha_len, alpha_at h0 h1, _, hz, ?_, same_upd hd s1, ?_⟩
  · rw [List.length_map]; unfold sgL; rw [List.length_map, List.length_range]; exact small1000 (by omega)
  · rw [upd_same]; unfold sgL; rw [List.range_succ, List.map_append, List.map_append]; rfl
end
end K91
set_option Elab.async false
set_option linter.all false
set_option maxRecDepth 100000
namespace L2
open PySem PySem.Spec PyProof.Rows
section
variable {X : Cx}
def strsOf : List Expr → Option (List Str)
  | [] => some []
  | .Constant (.str i) _ _ :: es => (strsOf es).map fun qs => i :: qs
  | _ :: _ => none
def tSs : List Str → TA
  | [] => tNil
  | q :: qs => tCons (tC (.str q)) (tSs qs)
theorem strs_cons {e : Expr} {es : List Expr} {qs : List Str} (h : strsOf (e :: es) = some qs) : ∃ i k p qs', e = .Constant (.str i) k p ∧ strsOf es = some qs' ∧ qs = i :: qs' := by
  unfold strsOf at h
  split at h
  · rename_i heq
    cases heq
  · rename_i heq
    cases heq
    cases hq : strsOf es with
    | none => rw [hq] at h; cases h
    | some qs' => rw [hq] at h; cases h; exact ⟨_, _, _, qs', rfl, rfl, rfl⟩
  · cases h
theorem pa_strs : ∀ {es : List Expr} {qs : List Str}, strsOf es = some qs → PA X es (tSs qs)
  | [], qs, h => by cases h; exact pa_nil
  | e :: es, qs, h => by
    obtain ⟨i, k, p, qs', rfl, h2, rfl⟩ := strs_cons h
    exact pa_cons pe_str (pa_strs h2) (by rfl)
theorem tSs_of : ∀ (qs : List Str) {σ : St} {H : Hp} {Q : List V → Hp → Prop}, Q (qs.map V.str) H → tSs qs σ H Q
  | [], σ, H, Q, h => h
  | q :: qs, σ, H, Q, h => tSs_of qs h
def tStrs (qs : List Str) : TE := fun _ H Q => qs.length ≤ 1000 ∧ ∀ d H', Same H H' → H d = none → H' d = some (.lst (qs.map V.str)) → Q (.ref d) H'
theorem pe_strs {es : List Expr} {pos : Pos} {qs : List Str} (h : strsOf es = some qs := by rfl) : PE X (.List es pos) (tStrs qs) := by
  refine (pe_lst (pa_strs h)).imp fun σ H Q q => ?_
  obtain ⟨l, q⟩ := q
  refine tSs_of qs ⟨Nat.le_of_lt (small1000 (by rw [List.length_map]; exact l)), fun d hd => ?_⟩
  exact q d _ (same_newO hd _) hd upd_same
theorem ps_strs (i : Nat) {x : Str} {pos' lp pos : Pos} {es : List Expr} (qs : List Str) (h : strsOf es = some qs) (hN : X.N.Nodup) (hi : X.N[i]? = some x) (hx : Loc X.env.scope x) (hf : X.fn x = true ∨ X.env.scope.names.lookup x = some .local) :
    PS X (.Assign [.Name x pos'] (.List es lp) pos) (tAsg (tStrs qs) (gName i)) := ps_set hN hi hx (pe_strs h) (by rfl) hf
def strsAsg : Stmt → Option (Str × List Str)
  | .Assign [.Name x _] (.List es _) _ => (strsOf es).map fun q => (x, q)
  | _ => none
theorem ps_sts (i : Nat) (st : Stmt) {x : Str} (qs : List Str) (h : strsAsg st = some (x, qs)) (hN : X.N.Nodup) (hi : X.N[i]? = some x) (hx : Loc X.env.scope x) (hf : X.fn x = true ∨ X.env.scope.names.lookup x = some .local) : PS X st (tAsg (tStrs qs) (gName i)) := by
  unfold strsAsg at h
  split at h
  · rename_i y p0 es lp pos
    cases hq : strsOf es with
    | none => rw [hq] at h; cases h
    | some q => rw [hq] at h; cases h; exact ps_strs i qs hq hN hi hx hf
  · cases h
end
end L2
set_option Elab.async false
set_option linter.all false
set_option maxRecDepth 100000
namespace K91
open PySem L2
def Lo (l : List Nat) : Prop := ∀ c ∈ l, 97 ≤ c ∧ c ≤ 122
structure Nm (m : Nat) (z : Str) : Prop where
  l1 : 1 ≤ z.cps.toList.length
  l8 : z.cps.toList.length ≤ m
  lo : Lo z.cps.toList
theorem nd_set {α : Type} {w : α} : ∀ {zs : List α} {i : Nat}, zs.Nodup → w ∉ zs → (zs.set i w).Nodup
  | [], _, h, _ => h
  | z :: zs, 0, h, hw => List.nodup_cons.mpr ⟨fun x => hw (.tail _ x), (List.nodup_cons.mp h).2⟩
  | z :: zs, i + 1, h, hw => by
    refine List.nodup_cons.mpr ⟨fun x => ?_, nd_set (List.nodup_cons.mp h).2 (fun x => hw (.tail _ x))⟩
    rcases List.mem_or_eq_of_mem_set x with y | y
    · exact (List.nodup_cons.mp h).1 y
    · exact hw (y ▸ .head _)
theorem in_strs {w : Str} {zs : List Str} : inV (.str w) (zs.map V.str) = decide (w ∈ zs) := by
  unfold inV
  rw [List.any_map]
  induction zs with
  | nil => rfl
  | cons z zs ih =>
    rw [List.any_cons, ih]
    show (z == w || _) = _
    by_cases e : z = w
    · subst e; simp
    · have : ¬ w = z := fun x => e x.symm
      simp [e, this]
theorem flat_strs (zs : List Str) : (zs.map V.str).all flatV = true := by
  rw [List.all_map, List.all_eq_true]
  intro z _
  rfl
theorem none_bk {H H' : Hp} {d : Addr} (s : Same H H') (h : H' d = none) : H d = none := by
  cases e : H d with
  | none => rfl
  | some o => rw [s _ _ e] at h; cases h
def hd (r : Int) (k : Nat) : Nat := 97 + ((r + 7 * (k : Int)) % 26).toNat
theorem hd_lo (r : Int) (k : Nat) : 97 ≤ hd r k ∧ hd r k ≤ 122 := by unfold hd; omega
theorem hd_inj {r : Int} {i j : Nat} (hi : i < 24) (hj : j < 24) (h : hd r i = hd r j) : i = j := by unfold hd at h; omega
def nm1 (b : Bool) (t : List Nat) (h : Nat) : List Nat := if b then t ++ [h] else h :: t
def nms (b : Bool) (t : List Nat) (r : Int) (n : Nat) : List Str := (List.range n).map fun k => S (nm1 b t (hd r k))
theorem nm1_inj {b : Bool} {t : List Nat} {h h' : Nat} (e : nm1 b t h = nm1 b t h') : h = h' := by
  unfold nm1 at e
  split at e
  · exact List.head_eq_of_cons_eq (List.append_cancel_left e)
  · exact (List.cons.inj e).1
theorem nms_nd {b : Bool} {t : List Nat} {r : Int} {n : Nat} (h : n ≤ 24) : (nms b t r n).Nodup := by
  unfold nms List.Nodup
  rw [List.pairwise_map]
  refine List.Pairwise.imp_of_mem ?_ (List.nodup_range (n := n))
  intro i j hi hj ne e
  exact ne (hd_inj (by have := List.mem_range.mp hi; omega) (by have := List.mem_range.mp hj; omega) (nm1_inj (S_inj e)))
theorem nms_ok {b : Bool} {t : List Nat} {r : Int} {n : Nat} (h : t.length ≤ 7) (lo : Lo t) : ∀ z ∈ nms b t r n, Nm 8 z := fun z hz => by
  obtain ⟨k, _, rfl⟩ := List.mem_map.mp hz
  have := hd_lo r k
  refine ⟨?_, ?_, ?_⟩ <;> rw [S_cps] <;> unfold nm1 <;> split
  · simp
  · simp
  · rw [List.length_append]; exact Nat.succ_le_succ h
  · exact Nat.succ_le_succ h
  · intro c hc
    rcases List.mem_append.mp hc with x | x
    · exact lo c x
    · rw [List.mem_singleton.mp x]; exact this
  · intro c hc
    rcases List.mem_cons.mp hc with x | x
    · rw [x]; exact this
    · exact lo c x
def wds : List Str := [Str.ofString "cost", Str.ofString "many", Str.ofString "free", Str.ofString "code", Str.ofString "sure", Str.ofString "bounded", Str.ofString "price", Str.ofString "weight", Str.ofString "write", Str.ofString "read", Str.ofString "none", Str.ofString "thing"]
theorem wds_ok : ∀ z ∈ wds, Nm 8 z := by
  have h : ∀ z ∈ wds, 1 ≤ z.cps.toList.length ∧ z.cps.toList.length ≤ 8 ∧ ∀ c ∈ z.cps.toList, 97 ≤ c ∧ c ≤ 122 := by decide +kernel
  exact fun z hz => ⟨(h z hz).1, (h z hz).2.1, (h z hz).2.2⟩
section
variable {P : Program} {w : World} {K : PySem.W.Frag} {mg : Str → Option Value} {base : Heap} {f : Addr} {fd : FuncData}
abbrev NNm : List Str := ["cell", "many", "letters", "rest", "tail", "k", "heads", "names", "words", "word"]
abbrev MNm : List Str := ["cell", "many", "letters", "rest", "tail", "-", "heads", "names", "words", "word"]
abbrev PNm : List Str := ["cell", "many"]
def spNm : Sp := fun vs H Q _ => ∃ (c : Int) (n : Nat), vs = [.int c, .int n] ∧ 1 ≤ n ∧ n ≤ 24 ∧ ∀ (d : Addr) (zs : List Str) H', Same H H' → H d = none → H' d = some (.lst (zs.map V.str)) → zs.length = n → zs.Nodup → (∀ z ∈ zs, Nm 8 z) → Q (.ref d) H'
theorem scNm : FnScope NNm PNm (defScope sNames) := ⟨rfl, rfl, rfl, by decide +kernel, rfl, by decide +kernel, by decide +kernel⟩
theorem ndNm1 : (("k" : Str) :: MNm).Nodup := by decide +kernel
theorem ndNm2 : (("head" : Str) :: MNm).Nodup := by decide +kernel
abbrev stW : Stmt := (defBody sNames).getD 6 (.Pass ⟨0, 0, 0, 0⟩)
set_option maxHeartbeats 16000000 in
theorem ok_nm (F : Fun K "_law_names" "_law_names" sNames f fd) (mr : mg "range" = none) : FnOk P w K mg base CX0 1 f fd PNm spNm := by
  refine F.ok (k := 0) scNm (fun vs H Q E h => ?_) (fun cdv A outer s H vs Q E hr h => ?_)
  · obtain ⟨c, n, rfl, _⟩ := h
    rfl
  obtain ⟨c, n, rfl, n1, n24, qq⟩ := h
  have key : ∀ st2 : Stmt, strsAsg st2 = some (("words" : Str), wds) → ∃ t, PSs (cxOf CX0 P w K mg base NNm (Str.ofString "_law_names") (defScope sNames) f cdv A outer s H E).nox ((defBody sNames).getD 0 (.Pass ⟨0, 0, 0, 0⟩) :: (defBody sNames).getD 1 (.Pass ⟨0, 0, 0, 0⟩) :: (defBody sNames).getD 2 (.Pass ⟨0, 0, 0, 0⟩) :: (defBody sNames).getD 3 (.Pass ⟨0, 0, 0, 0⟩) :: (defBody sNames).getD 4 (.Pass ⟨0, 0, 0, 0⟩) :: (defBody sNames).getD 5 (.Pass ⟨0, 0, 0, 0⟩) :: st2 :: (defBody sNames).drop 7) t ∧ t { nx := fun x H' => Q V.non H', rt := Q } (L2.start NNm [V.int c, V.int n]) H := by
   intro st2 hst2
   refine ⟨_, pss_cons (ps_set (i := 2) scNm.nd rfl (Or.inr rfl) (pe_str))
      (pss_cons (ps_set (i := 3) scNm.nd rfl (Or.inr rfl) (pe_op op_fdiv (pv 0) (pe_int)))
      (pss_cons (ps_set (i := 4) scNm.nd rfl (Or.inr rfl) (pe_str))
      (pss_cons (ps_for PassesOwn.never rfl (pi_range1 (by rfl) mr (pa_cons (pe_op op_mod (pe_op op_fdiv (pv 0) (pe_int)) (pe_int)) (pa_nil))) (pg_name (i := 5) scNm.nd rfl (Or.inl rfl)) (pss_cons (ps_set (i := 4) scNm.nd rfl (Or.inr rfl) (pe_op op_add_str (pv 4) (pe_ix ix_str (pv 2) (pe_op op_mod (pv 3) (pe_int)) (fun _ _ => rfl))))
      (pss_one (ps_set (i := 3) scNm.nd rfl (Or.inr rfl) (pe_op op_fdiv (pv 3) (pe_int))))))
      (pss_cons (ps_compR1 (i := 6) (M := MNm) scNm.nd rfl rfl rfl (CompScope.of (defScope sNames) NNm rfl rfl rfl (by decide +kernel) (by decide +kernel) (by decide +kernel) rfl (by decide +kernel)) ndNm1 rfl (by rfl) mr (pa_cons (pv 1) pa_nil) (mo_cons mo_var mo_nil)
      (fun cl C s0 H0 fp => ⟨pts_nil, pe_ix ix_str (pv 3) (pe_op op_mod (pe_op op_add (pv 4) (pe_op op_mul (pe_int) (pv 0))) (pe_int)) (fun _ _ => rfl)⟩))
      (pss_cons (ps_compL (i := 7) (M := MNm) scNm.nd rfl rfl rfl (CompScope.of (defScope sNames) NNm rfl rfl rfl (by decide +kernel) (by decide +kernel) (by decide +kernel) rfl (by decide +kernel)) ndNm2 rfl (pv 6) mo_var
      (fun cl C s0 H0 fp => ⟨pts_nil, pe_ix (ixL K) (pe_lst (pa_cons (pe_op op_add_str (pv 0) (pv 5)) (pa_cons (pe_op op_add_str (pv 5) (pv 0)) (pa_nil)))) (pe_op op_mod (pv 1) (pe_int)) (fun _ _ => rfl)⟩))
      (pss_cons (ps_sts 8 _ wds hst2 scNm.nd rfl (Or.inl rfl) (Or.inl rfl))
      (pss_cons (ps_set (i := 9) scNm.nd rfl (Or.inl rfl) (pe_ix ix_list (pv 8) (pe_op op_mod (pe_op op_fdiv (pv 0) (pe_int)) (pe_int)) (fun _ _ => rfl)))
      (pss_cons (ps_mid (ps_if (PW.pt (pw_and (pt_cmpR op_eq (pe_op op_mod (pv 0) (pe_int)) (pe_int) (nomark _)) (pw_and1 (pt_cmpR op_notIn_seq (pv 9) (pv 7) rfl)))) (pss_one (ps_asg (pv 9) (pg_sub (pv 7) (pe_int) set_list))) (pss_nil)))
      (pss_cons (ps_mid (ps_if (PW.pt (pw_and (pt_cmpR op_gt (pv 1) (pe_int) (nomark _)) (pw_and (pt_cmpR op_eq (pe_op op_mod (pv 0) (pe_int)) (pe_int) (nomark _)) (pw_and1 (pt_cmpR op_notIn_seq (pe_slice sl_last (pe_ix ix_list (pv 7) (pe_int) (fun _ _ => rfl)) po_none (po_some (pe_un un_neg pe_int))) (pe_op op_cat (pv 7) (pe_lst (pa_cons (pe_str) (pa_nil)))) rfl))))) (pss_one (ps_asg (pe_slice sl_last (pe_ix ix_list (pv 7) (pe_int) (fun _ _ => rfl)) po_none (po_some (pe_un un_neg pe_int))) (pg_sub (pv 7) (pe_int) set_list))) (pss_nil)))
      (pss_one (ps_ret (pv 7)))))))))))), ?_⟩
   refine ⟨_, rfl, _, _, rfl, rfl, ⟨by decide, by decide⟩, ?_⟩
   have m0 := Int.emod_nonneg (c / 6) (show (8 : Int) ≠ 0 by decide)
   have m8 := Int.emod_lt_of_pos (c / 6) (show (0 : Int) < 8 by decide)
   refine ⟨_, rfl, _, _, rfl, rfl, ⟨by decide, by decide⟩, _, _, rfl, rfl, (by show (0 : Int) < _; decide), _, rfl, by omega, by omega, ?_⟩
   refine for_range (fun i σ H' => H = H' ∧ ∃ (t : List Nat) (r : Int) (x5 : Option V), σ = [some (.int c), some (.int n), some (.str alpha), some (.int r), some (.str (S t)), x5, none, none, none, none] ∧ t.length = i ∧ Lo t) ⟨rfl, [], _, _, rfl, rfl, fun c hc => by cases hc⟩ (fun i σ H1 hi hP => ?_) (fun σ H1 hP => ?_)
   · obtain ⟨rfl, t, r, x5, rfl, lt, lo⟩ := hP
     have h0 := Int.emod_nonneg r (show (26 : Int) ≠ 0 by decide)
     have h1 := Int.emod_lt_of_pos r (show (0 : Int) < 26 by decide)
     refine ⟨_, rfl, _, rfl, _, rfl, _, _, rfl, rfl, (by show (0 : Int) < _; decide), alpha, _, _, rfl, rfl, alpha_len, alpha_at h0 h1, _, _, rfl, rfl, ?_, ?_⟩
     · show (S t).length + 1 ≤ sizeLine
       rw [S_len]
       exact Nat.le_of_lt (small1000 (by omega))
     refine ⟨_, rfl, _, _, rfl, rfl, ⟨by decide, by decide⟩, rfl, t ++ [97 + (r % 26).toNat], r / 26, some (.int (0 + (i : Int))), ?_, by simp [lt], fun c hc => ?_⟩
     · rw [← S_app]
       rfl
     · rcases List.mem_append.mp hc with x | x
       · exact lo c x
       · rw [List.mem_singleton.mp x]; omega
   obtain ⟨rfl, t, r, x5, rfl, lt, lo⟩ := hP
   have t7 : t.length ≤ 7 := by omega
   refine ⟨_, rfl, _, rfl, by omega, by omega, fun d1 hd1 => ?_⟩
   have en : ((n : Int)).toNat = n := Int.toNat_natCast n
   rw [en]
   refine ⟨fun i H' => Same H H' ∧ H' d1 = some (.lst (((List.range i).map fun k => S [hd r k]).map V.str)), ⟨same_newO hd1 _, upd_same⟩, fun i H' hi hP => ?_, fun H1 hP => ?_⟩
   · obtain ⟨s1, hz⟩ := hP
     have ei : (0 : Int) + (i : Int) = (i : Int) := by omega
     rw [ei]
     have h0 := Int.emod_nonneg (r + 7 * (i : Int)) (show (26 : Int) ≠ 0 by decide)
     have h1 := Int.emod_lt_of_pos (r + 7 * (i : Int)) (show (0 : Int) < 26 by decide)
     refine turn_all ⟨_, rfl, _, rfl, _, rfl, _, _, rfl, rfl, .inl ⟨by decide, by decide⟩, _, _, rfl, rfl, _, _, rfl, rfl, (by show (0 : Int) < _; decide), alpha, _, _, rfl, rfl, alpha_len, alpha_at h0 h1, _, hz, ?_, same_upd hd1 s1, ?_⟩
     · rw [List.length_map, List.length_map, List.length_range]; exact small1000 (by omega)
     · rw [upd_same, List.range_succ, List.map_append, List.map_append]; rfl
   obtain ⟨s1, g1⟩ := hP
   obtain ⟨b, hb⟩ : ∃ b : Bool, b = decide (c % 2 = 1) := ⟨_, rfl⟩
   refine ⟨_, rfl, d1, _, rfl, SqL.of g1, fun d hd' => ?_⟩
   refine ⟨fun i H' => Same H1 H' ∧ H' d = some (.lst ((nms b t r i).map V.str)), ⟨same_newO hd' _, upd_same⟩, fun i H' _ hP => SqL.of (hP.1 _ _ g1), fun i x H' hx hP => ?_, fun H2 hP => ?_⟩
   · obtain ⟨s2, hz⟩ := hP
     rw [List.map_map] at hx
     have il : i < n := by have := (List.getElem?_eq_some_iff.mp hx).1; rw [List.length_map, List.length_range] at this; exact this
     rw [List.getElem?_map, List.getElem?_range il] at hx
     have ex : x = .str (S [hd r i]) := (Option.some.inj hx).symm
     subst ex
     have hl : ∀ a b : List Nat, a.length + b.length ≤ 8 → (S a).length + (S b).length ≤ sizeLine := fun a b h => by rw [S_len, S_len]; exact Nat.le_of_lt (small1000 (by omega))
     have l1 : [hd r i].length = 1 := rfl
     refine turn_all ⟨_, rfl, _, rfl, _, _, rfl, rfl, hl _ _ (by omega), _, rfl, _, rfl, _, _, rfl, rfl, hl _ _ (by omega), (by show 2 ≤ sizeLine; decide), fun o ho => ?_⟩
     have hat : atI [V.str (S [hd r i] ++ S t), .str (S t ++ S [hd r i])] (c % 2) = some (.str (S (nm1 b t (hd r i)))) := by
       have h : c % 2 = 0 ∨ c % 2 = 1 := by omega
       rw [hb]
       unfold nm1
       rcases h with h | h
       · rw [h, decide_eq_false (by decide), if_neg Bool.false_ne_true, S_app]
         rfl
       · rw [h, decide_eq_true rfl, if_pos rfl, S_app, S_app]
         rfl
     have s3 := s2.trans (same_newO ho (.lst [V.str (S [hd r i] ++ S t), .str (S t ++ S [hd r i])]))
     refine ⟨_, rfl, _, _, rfl, rfl, (by show (0 : Int) < _; decide), o, _, _, _, rfl, rfl, SqL.of upd_same, hat, _, same_newO ho _ _ _ hz, ?_, same_upd hd' s3, ?_⟩
     · rw [List.length_map]; unfold nms; rw [List.length_map, List.length_range]; exact small1000 (by omega)
     · rw [upd_same]; unfold nms; rw [List.range_succ, List.map_append, List.map_append]; rfl
   obtain ⟨s2, g2⟩ := hP
   rw [List.length_map, List.length_map, List.length_range] at g2
   have s02 := s1.trans s2
   have hdn : H d = none := none_bk s1 hd'
   refine ⟨by show 12 ≤ 1000; decide, fun o H3 s3 ho g3 => ?_⟩
   have w0 := Int.emod_nonneg (c / 35) (show (12 : Int) ≠ 0 by decide)
   have w12 := Int.emod_lt_of_pos (c / 35) (show (0 : Int) < 12 by decide)
   obtain ⟨wd, hwd, hat⟩ : ∃ wd, wd ∈ wds ∧ atI (wds.map V.str) (c / 35 % 12) = some (.str wd) := by
     obtain ⟨k, hk⟩ : ∃ k : Nat, c / 35 % 12 = k := ⟨(c / 35 % 12).toNat, by omega⟩
     have lk : k < wds.length := by show k < 12; omega
     refine ⟨wds[k], List.getElem_mem lk, ?_⟩
     rw [hk]
     exact atI_nat (by rw [List.getElem?_map, List.getElem?_eq_getElem lk]; rfl)
   generalize hz0 : nms b t r n = zs0 at g2
   have nd0 : zs0.Nodup := hz0 ▸ nms_nd n24
   have ok0 : ∀ z ∈ zs0, Nm 8 z := hz0 ▸ nms_ok t7 lo
   have ln0 : zs0.length = n := by rw [← hz0]; unfold nms; rw [List.length_map, List.length_range]
   have s03 := s02.trans s3
   have g4 := s3 _ _ g2
   refine ⟨_, rfl, _, rfl, _, _, rfl, rfl, ⟨by decide, by decide⟩, _, _, rfl, rfl, (by show (0 : Int) < _; decide), o, _, _, _, rfl, rfl, SqL.of g3, hat, ?_⟩
   have len0 : ∀ {zs : List Str}, zs.length = n → ixN (zs.map V.str).length 0 = some 0 := fun h => by
     unfold ixN
     rw [if_pos (by decide), if_pos (by rw [List.length_map, h]; omega)]
     rfl
   refine ⟨fun σ' H' => ∃ zs : List Str, σ' = [some (.int c), some (.int n), some (.str alpha), some (.int r), some (.str (S t)), x5, some (.ref d1), some (.ref d), some (.ref o), some (.str wd)] ∧ Same H H' ∧ H' d = some (.lst (zs.map V.str)) ∧ zs.length = n ∧ zs.Nodup ∧ ∀ z ∈ zs, Nm 8 z, ?_, ?_⟩
   · refine ⟨_, rfl, _, _, rfl, rfl, (by show (0 : Int) < _; decide), rfl, _, rfl, ite2 (fun _ => ?_) (fun _ => ⟨zs0, rfl, s03, g4, ln0, nd0, ok0⟩)⟩
     refine ⟨_, rfl, _, rfl, d, _, rfl, .inl (SqL.of g4), rfl, flat_strs _, _, rfl, ite2 (fun hc => ?_) (fun _ => ⟨zs0, rfl, s03, g4, ln0, nd0, ok0⟩)⟩
     rw [in_strs] at hc
     have ni : wd ∉ zs0 := fun x => by rw [decide_eq_true x] at hc; cases hc
     refine ⟨_, rfl, _, rfl, d, _, _, 0, rfl, rfl, g4, len0 ln0, zs0.set 0 wd, rfl, same_upd hdn s03, ?_, by rw [List.length_set]; exact ln0, nd_set nd0 ni, fun z hz => ?_⟩
     · rw [upd_same, List.map_set]
     · rcases List.mem_or_eq_of_mem_set hz with x | x
       · exact ok0 z x
       · rw [x]; exact wds_ok wd hwd
   rintro σ' H4 ⟨zs, rfl, s4, g5, ln, nd, ok⟩
   refine ⟨fun σ' H' => ∃ zs : List Str, σ' = [some (.int c), some (.int n), some (.str alpha), some (.int r), some (.str (S t)), x5, some (.ref d1), some (.ref d), some (.ref o), some (.str wd)] ∧ Same H H' ∧ H' d = some (.lst (zs.map V.str)) ∧ zs.length = n ∧ zs.Nodup ∧ ∀ z ∈ zs, Nm 8 z, ?_, ?_⟩
   · obtain ⟨z0, hz0⟩ : ∃ z0, zs[0]? = some z0 := ⟨zs[0]'(by omega), List.getElem?_eq_getElem (by omega)⟩
     have N0 := ok z0 (List.mem_of_getElem? hz0)
     have a0 : atI (zs.map V.str) 0 = some (.str z0) := atI_nat (j := 0) (by rw [List.getElem?_map, hz0]; rfl)
     have zl1 : 1 ≤ z0.length := by have := N0.l1; rw [Array.length_toList] at this; exact this
     have zl2 : z0.length ≤ sizeLine := Nat.le_of_lt (small1000 (by have := N0.l8; rw [Array.length_toList] at this; show z0.cps.size ≤ 1000; omega))
     refine ⟨_, rfl, _, _, rfl, rfl, _, rfl, ite2 (fun n1' => ?_) (fun _ => ⟨zs, rfl, s4, g5, ln, nd, ok⟩)⟩
     refine ⟨_, rfl, _, _, rfl, rfl, (by show (0 : Int) < _; decide), rfl, _, rfl, ite2 (fun _ => ?_) (fun _ => ⟨zs, rfl, s4, g5, ln, nd, ok⟩)⟩
     refine ⟨_, rfl, d, _, _, _, rfl, rfl, SqL.of g5, a0, _, rfl, _, rfl, z0, rfl, rfl, rfl, zl1, zl2, ?_⟩
     refine ⟨_, rfl, (by show 1 ≤ sizeLine; decide), fun p hp => ?_⟩
     have s5 := same_newO hp (.lst [V.str (Str.ofString "")])
     refine ⟨d, p, _, _, rfl, rfl, s5 _ _ g5, upd_same, Nat.le_of_lt (small1000 (by rw [List.length_map]; show zs.length + 1 ≤ 1000; omega)), fun p2 hp2 => ?_⟩
     have s6 := s5.trans (same_newO hp2 (.lst (zs.map V.str ++ [V.str (Str.ofString "")])))
     have ec : zs.map V.str ++ [V.str (Str.ofString "")] = (zs ++ [Str.ofString ""]).map V.str := by rw [List.map_append]; rfl
     have s46 := s4.trans s6
     have g6 := s6 _ _ g5
     refine ⟨p2, _, rfl, .inl (SqL.of upd_same), rfl, by rw [ec]; exact flat_strs _, _, rfl, ite2 (fun hc => ?_) (fun _ => ⟨zs, rfl, s46, g6, ln, nd, ok⟩)⟩
     rw [ec, in_strs] at hc
     have ni : (⟨z0.cps.toList.dropLast.toArray⟩ : Str) ∉ zs ++ [Str.ofString ""] := fun x => by rw [decide_eq_true x] at hc; cases hc
     have n2 : 1 < n := by have := of_decide_eq_true n1'; omega
     have i1 : ixN (zs.map V.str).length 1 = some 1 := by
       unfold ixN
       rw [if_pos (by decide), if_pos (by rw [List.length_map, ln]; omega)]
       rfl
     refine ⟨_, rfl, d, _, _, _, rfl, rfl, SqL.of g6, a0, _, rfl, _, rfl, z0, rfl, rfl, rfl, zl1, zl2, _, rfl, d, _, _, 1, rfl, rfl, g6, i1, zs.set 1 ⟨z0.cps.toList.dropLast.toArray⟩, rfl, same_upd hdn s46, ?_, by rw [List.length_set]; exact ln, nd_set nd (fun x => ni (List.mem_append_left _ x)), fun z hz => ?_⟩
     · rw [upd_same, List.map_set]
     · rcases List.mem_or_eq_of_mem_set hz with x | x
       · exact ok z x
       · rw [x]
         have e : (⟨z0.cps.toList.dropLast.toArray⟩ : Str).cps.toList = z0.cps.toList.dropLast := List.toList_toArray
         refine ⟨?_, ?_, ?_⟩ <;> rw [e]
         · rcases Nat.eq_zero_or_pos z0.cps.toList.dropLast.length with y | y
           · exfalso
             refine ni (List.mem_append_right _ (List.mem_singleton.mpr ?_))
             rw [List.length_eq_zero_iff.mp y]
             rfl
           · exact y
         · rw [List.length_dropLast]; exact Nat.le_trans (Nat.sub_le _ _) N0.l8
         · exact fun c hc => N0.lo c (List.dropLast_subset _ hc)
   rintro σ' H5 ⟨zs, rfl, s5, g6, ln, nd, ok⟩
   exact ⟨_, rfl, qq d zs H5 s5 hdn g6 ln nd ok⟩
  exact key stW rfl
end
end K91
set_option Elab.async false
set_option linter.all false
set_option maxRecDepth 100000
namespace L2
open PySem PySem.Spec PyProof.Rows
theorem ps_compZ {X : Cx} (K : PySem.W.Frag) (ka kb : Bool) {elt a b : Expr} {t1 t2 x : Str} {p1 p2 tp p pos pos' pos1 spos : Pos} {k i : Nat} {cs : List Expr} {scope : Scope} {tc : TT} {te : TE} {ta : TA} {M : List Str} (hN : X.N.Nodup) (hix : X.N[i]? = some x) (hx : X.env.scope.names.lookup x = some .local) (hc : X.calm = true) (S : CompScope scope X.env X.N M) (nd : (t1 :: t2 :: M).Nodup) (hl1 : scope.names.lookup t1 = some .local) (hl2 : scope.names.lookup t2 = some .local)
    (hg : Gl X "zip") (hm : X.mg "zip" = none) (ha : PA X [a, b] ta) (mo : MonoA ta)
    (hin : ∀ (cl : List (Str × Addr)) (C : Addr) (s0 : Shared) (H0 : Hp) (fp : List Addr), PTs (cxC X scope cl C s0 H0 fp (t1 :: t2 :: M)) cs tc ∧ PE (cxC X scope cl C s0 H0 fp (t1 :: t2 :: M)) elt te)
    (hw : swapsWith (.ListComp elt [⟨.Tuple [.Name t1 p1, .Name t2 p2] k tp, .Call (.Name "zip" p) [a, b] [] pos', cs, 0⟩] scope pos) (some (.Name x pos1)) spos.line X.env = pure true := by rfl)
    (hs : starEach [a, b] X.env = [(false, eval a X.env), (false, eval b X.env)] := by rfl) (hs2 : starEach [b] X.env = [(false, eval b X.env)] := by rfl) (hf : ∀ x, foldedSetIterable (.Call (.Name "zip" p) [a, b] [] pos') X.env x = pure x := by intro _; rfl) (hK : X.K = K := by rfl) :
    PS X (.Assign [.Name x pos1] (.ListComp elt [⟨.Tuple [.Name t1 p1, .Name t2 p2] k tp, .Call (.Name "zip" p) [a, b] [] pos', cs, 0⟩] scope pos) spos) (tAsg (tCompZ K ka kb ta tc te) (gName i)) := by
  subst hK
  have hx1 : (relabel scope X.env).names.lookup t1 = some .local := by rw [lookup_relabel, hl1]; rfl
  have hx2 : (relabel scope X.env).names.lookup t2 = some .local := by rw [lookup_relabel, hl2]; rfl
  intro pins s σ H D I h
  refine ps_comp (xs := [t1, t2]) (M := M) (g := gPair X.K) hc S (pi_zip ka kb hg hm ha hs hs2) (fun cl C s0 H0 fp => ⟨pg_tup hc (pgs_cons (pg_name (i := 0) nd rfl (Or.inl hx1) (Or.inr hx1)) (pgs_cons (pg_name (i := 1) nd rfl (Or.inl hx2) (Or.inr hx2)) pgs_nil)), hin cl C s0 H0 fp⟩) (fun v σ H Q h => gPair_two h) hN hix hx hw hf pins s σ H D I ?_
  refine mo σ H _ _ (fun vs H1 q => ?_) h
  obtain ⟨a', b', xs, ys, e, q1, q2, hlen, q⟩ := q
  refine ⟨a', b', xs, ys, e, q1, q2, fun d hd => ?_⟩
  obtain ⟨Pv, h0, hl, hs, hd⟩ := q d hd
  exact comp_zip (Q := fun x H1 => gName i x σ H1 D.nx) hlen Pv h0 hl hs hd
section
variable {X : Cx} {o e : Expr} {es : List Expr} {to : TE} {t : TA} {name : Str} {apos cpos : Pos} {id : String} {r : V → List V → Hp → VK → Prop}
def tBMS (r : V → List V → Hp → VK → Prop) (to : TE) (t : TA) : TE := fun σ H Q => to σ H fun x H1 => (∃ z, x = .str z) ∧ t σ H1 fun xs H2 => r x xs H2 Q
theorem pe_bmS (slot : Slot "str" name id) (hty : typeOf (.builtin id) = pure (.type "method_descriptor")) (hm : MtR X id r) (ho : PE X o to) (ha : PA X (e :: es) t)
    (hbase : attributeBase o name X.env (eval o X.env) = eval o X.env := by rfl)
    (hfew : ((backTo cpos (starEach (e :: es) X.env)).all (fun x => !x.1) && (backToKw cpos (keywordEach [] X.env)).all (fun x => x.1.isSome)
      && decide ((e :: es).length + ([] : List Keyword).length + (if ([] : List Keyword).isEmpty then 0 else 1) < 30)) = true := by rfl)
    (hline : (apos.endLine == cpos.line) = true := by rfl) (hs : starEach (e :: es) X.env = (false, eval e X.env) :: starEach es X.env := by rfl) (hplain : (backTo cpos (starEach es X.env)).any (·.1) = false := by rfl) :
    PE X (.Call (.Attribute o name apos) (e :: es) [] cpos) (tBMS r to t) := by
  intro pins s σ H Q I h
  refine wpAny_Call_method_late hbase hfew hline rfl (thn (ho pins s σ H _ I h) fun v s1 ⟨x, H1, I1, r1, ty, q1⟩ => ?_)
  obtain ⟨z, rfl⟩ := ty
  obtain ⟨h1, h2⟩ := tyV_is I1 r1 (show tyV X.K "str" (.str z) H1 from rfl)
  refine ⟨"str", id, PySem.F.plainAttrs_str, slot, hty, h1, h2, ?_⟩
  have hA := ha cpos pins s1 σ H1 _ I1 q1
  rw [hs] at hA ⊢
  refine Calls.callWith_builtin (by show (false || (backTo cpos (starEach es X.env)).any (·.1)) = false; rw [hplain] <;> rfl) (Calls.evalArgs_plain ?_)
  exact thn hA fun us s2 ⟨vs, H2, I2, r2, q2⟩ => hm pins s2 σ H2 _ vs v us Q I2 r1 r2 q2
end
end L2
set_option Elab.async false
set_option linter.all false
set_option maxRecDepth 100000
namespace K91
open PySem L2
def Bo (ns : List Int) : Prop := ∀ x ∈ ns, 1 ≤ x ∧ x ≤ B30
structure Bk (sg : List Str) (ps : List Int) (nm : List Str) (ws : List Int) : Prop where
  ls : sg.length = ps.length
  ln : nm.length = ws.length
  l2 : 2 ≤ ps.length
  l6 : ps.length ≤ 6
  n1 : 1 ≤ ws.length
  n24 : ws.length ≤ 24
  os : ∀ z ∈ sg, Nm 1 z
  on : ∀ z ∈ nm, Nm 8 z
  ds : sg.Nodup
  dn : nm.Nodup
  bp : Bo ps
  bw : Bo ws
theorem Nm.le {m : Nat} {z : Str} (h : Nm 1 z) (hm : 1 ≤ m) : Nm m z := ⟨h.l1, Nat.le_trans h.l8 hm, h.lo⟩
theorem Nm.len {m : Nat} {z : Str} (h : Nm m z) : z.length ≤ m := by have := h.l8; rw [Array.length_toList] at this; exact this
def kL : Str := Str.ofString "letter "
def kT : Str := Str.ofString "thing "
def sp : Str := Str.ofString " "
def nl : Str := Str.ofString "\n"
theorem l_kL : kL.length = 7 := by decide +kernel
theorem l_kT : kT.length = 6 := by decide +kernel
theorem l_sp : sp.length = 1 := by decide +kernel
theorem l_nl : nl.length = 1 := by decide +kernel
def r0 (k z : Str) (n : Int) : Str := k ++ z ++ sp ++ nS n
def rwS (k z : Str) (n : Int) : Str := r0 k z n ++ nl
def rowsS (sg : List Str) (ps : List Int) (nm : List Str) (ws : List Int) : List Str := List.zipWith (rwS kL) sg ps ++ List.zipWith (rwS kT) nm ws
def bookS (sg : List Str) (ps : List Int) (nm : List Str) (ws : List Int) : Str := Str.join Str.empty (rowsS sg ps nm ws)
theorem S_emp (z : Str) : Str.empty ++ z = z := by
  show (⟨#[] ++ z.cps⟩ : Str) = z
  rw [Array.empty_append]
theorem nS_len {n : Int} (h : n ≤ B30) : (nS n).length ≤ 31 := by
  show (S (dg n)).length ≤ _
  rw [S_len]
  exact dg_len h
theorem lg {n : Int} (h0 : 1 ≤ n) (h1 : n ≤ B30) : n.natAbs.log2 < 1920 := by
  rw [Nat.log2_lt (by omega)]
  have : B30 < 2 ^ 100 := by unfold B30; decide
  have h2 : n.natAbs < 2 ^ 100 := by omega
  exact Nat.lt_trans h2 (Nat.pow_lt_pow_right (by decide) (by decide))
theorem ok200 {z : Str} (h : z.length ≤ 200) : z.length ≤ sizeLine := Nat.le_of_lt (small1000 (by omega))
theorem zip_at {α β γ : Type} {f : α → β → γ} {xs : List α} {ys : List β} {i : Nat} {x : α} {y : β} (hx : xs[i]? = some x) (hy : ys[i]? = some y) : (List.zipWith f xs ys)[i]? = some (f x y) := by rw [List.getElem?_zipWith, hx, hy]
theorem row_len {k z : Str} {n : Int} (hk : k.length ≤ 7) (hz : z.length ≤ 8) (hn : n ≤ B30) : (rwS k z n).length ≤ 60 := by
  have := nS_len hn
  unfold rwS r0
  simp only [Str.length_append, l_sp, l_nl]
  omega
theorem zip_len {k : Str} {zs : List Str} {ns : List Int} (hk : k.length ≤ 7) (hz : ∀ z ∈ zs, Nm 8 z) (hn : Bo ns) : ∀ r ∈ List.zipWith (rwS k) zs ns, r.length ≤ 60 := fun r hr => by
  obtain ⟨i, hi⟩ := List.mem_iff_getElem?.mp hr
  rw [List.getElem?_zipWith] at hi
  cases hx : zs[i]? with
  | none => rw [hx] at hi; cases hi
  | some z =>
    cases hy : ns[i]? with
    | none => rw [hx, hy] at hi; cases hi
    | some n =>
      rw [hx, hy] at hi
      have e : rwS k z n = r := Option.some.inj hi
      rw [← e]
      exact row_len hk (hz z (List.mem_of_getElem? hx)).len (hn n (List.mem_of_getElem? hy)).2
theorem Bk.rows_le {sg nm : List Str} {ps ws : List Int} (B : Bk sg ps nm ws) : (∀ r ∈ rowsS sg ps nm ws, r.length ≤ 60) ∧ (rowsS sg ps nm ws).length ≤ 30 := by
  constructor
  · intro r hr
    rcases List.mem_append.mp hr with h | h
    · exact zip_len (by rw [l_kL]; decide) (fun z hz => (B.os z hz).le (by decide)) B.bp r h
    · exact zip_len (by rw [l_kT]; decide) B.on B.bw r h
  · unfold rowsS
    rw [List.length_append, List.length_zipWith, List.length_zipWith]
    have := B.l6
    have := B.n24
    omega
theorem turnZ_all {te : TE} {σ : St} {d : Addr} {x y : V} {H : Hp} {Z : Hp → Prop} (h : te (some x :: some y :: σ) H fun v H4 => ∃ ys, H4 d = some (.lst ys) ∧ ys.length < sizeLine ∧ Z (upd H4 d (.lst (ys ++ [v])))) : turnZ tTrue te σ d x y H Z := by
  show (if true = true then (te (some x :: some y :: σ) H fun v H4 => ∃ ys, H4 d = some (.lst ys) ∧ ys.length < sizeLine ∧ Z (upd H4 d (.lst (ys ++ [v])))) else Z H)
  rw [if_pos rfl]
  exact h
section
variable {P : Program} {w : World} {K : PySem.W.Frag} {mg : Str → Option Value} {base : Heap} {f : Addr} {fd : FuncData}
theorem b_str : bootBuiltins "str" = some (.type "str") := by decide +kernel
abbrev NBT : List Str := ["signs", "prices", "names", "weights", "rows"]
abbrev PBT : List Str := ["signs", "prices", "names", "weights"]
def spBT : Sp := fun vs H Q _ => ∃ (a b c d : Addr) (sg : List Str) (ps : List Int) (nm : List Str) (ws : List Int), vs = [.ref a, .ref b, .ref c, .ref d] ∧ H a = some (.tup (sg.map V.str)) ∧ H b = some (.tup (ps.map V.int)) ∧ H c = some (.tup (nm.map V.str)) ∧ H d = some (.tup (ws.map V.int)) ∧ Bk sg ps nm ws ∧ ∀ H', Same H H' → Q (.str (bookS sg ps nm ws)) H'
theorem scBT : FnScope NBT PBT (defScope sBT) := ⟨rfl, rfl, rfl, by decide +kernel, rfl, by decide +kernel, by decide +kernel⟩
theorem ndBT1 : (("sign" : Str) :: ("price" : Str) :: NBT).Nodup := by decide +kernel
theorem ndBT2 : (("name" : Str) :: ("weight" : Str) :: NBT).Nodup := by decide +kernel
theorem one_row {k z : Str} {n : Int} (hk : k.length ≤ 7) (hz : z.length ≤ 8) (h1 : 1 ≤ n) (hn : n ≤ B30) : (Str.empty ++ k).length ≤ sizeLine ∧ (Str.empty ++ k ++ z).length ≤ sizeLine ∧ (Str.empty ++ k ++ z ++ sp).length ≤ sizeLine ∧ (Str.empty ++ k ++ z ++ sp ++ Str.ofString (toString n)).length ≤ sizeLine ∧ (Str.empty ++ k ++ z ++ sp ++ Str.ofString (toString n) ++ nl).length ≤ sizeLine ∧ Str.empty ++ k ++ z ++ sp ++ Str.ofString (toString n) ++ nl = rwS k z n := by
  have := nS_len hn
  rw [S_emp, nS_is (show 0 ≤ n by omega)]
  refine ⟨ok200 (by omega), ok200 ?_, ok200 ?_, ok200 ?_, ok200 ?_, rfl⟩ <;> simp only [Str.length_append, l_sp, l_nl] <;> omega
set_option maxHeartbeats 16000000 in
theorem ok_bt (F : Fun K "book_text" "book_text" sBT f fd) (mz : mg "zip" = none) : FnOk P w K mg base CX0 1 f fd PBT spBT := by
  refine F.ok (k := 0) scBT (fun vs H Q E h => ?_) (fun cdv A outer s H vs Q E hr h => ?_)
  · obtain ⟨a, b, c, d, sg, ps, nm, ws, rfl, _⟩ := h
    rfl
  obtain ⟨a, b, c, d, sg, ps, nm, ws, rfl, ha, hb, hc, hd, B, qq⟩ := h
  refine ⟨_, pss_cons (ps_compZ (i := 4) K true true (M := NBT) scBT.nd rfl rfl rfl (CompScope.of (defScope sBT) NBT rfl rfl rfl (by decide +kernel) (by decide +kernel) (by decide +kernel) rfl (by decide +kernel)) ndBT1 rfl rfl (by rfl) mz (pa_cons (pv 0) (pa_cons (pv 1) (pa_nil))) (mo_cons mo_var (mo_cons mo_var mo_nil)) (fun cl C s0 H0 fp => ⟨pts_nil, pe_joined (pj_cons pe_str (pj_cons (pe_fmt (pv 0)) (pj_cons pe_str (pj_cons (pe_fmt (pv 1)) (pj_cons pe_str pj_nil)))))⟩))
      (pss_cons (ps_expr (pe_bm PySem.F.plainAttrs_list PySem.F.slot_list_extend PySem.F.type_list_extend mt_extend (pv 4) (pa_cons (pe_compZ K true true (M := NBT) rfl (CompScope.of (defScope sBT) NBT rfl rfl rfl (by decide +kernel) (by decide +kernel) (by decide +kernel) rfl (by decide +kernel)) ndBT2 rfl rfl (by rfl) mz (pa_cons (pv 2) (pa_cons (pv 3) (pa_nil))) (mo_cons mo_var (mo_cons mo_var mo_nil)) (fun cl C s0 H0 fp pins σ bk => ⟨pts_nil, pe_joined (pj_cons pe_str (pj_cons (pe_fmt (pv 0)) (pj_cons pe_str (pj_cons (pe_fmt (pv 1)) (pj_cons pe_str pj_nil)))))⟩)) (pa_nil))))
      (pss_one (ps_ret (pe_bm PySem.F.plainAttrs_str PySem.F.slot_str_join PySem.F.type_str_join mt_join (pe_str) (pa_cons (pv 4) (pa_nil)))))), ?_⟩
  refine ⟨_, rfl, _, rfl, a, b, _, _, rfl, SqT.of ha, SqT.of hb, by rw [List.length_map, List.length_map]; exact B.ls, fun l hl => ?_⟩
  refine ⟨fun i H' => Same H H' ∧ H' l = some (.lst (((List.zipWith (rwS kL) sg ps).take i).map V.str)), ⟨same_newO hl _, upd_same⟩, fun i H' _ hP => ⟨SqT.of (hP.1 _ _ ha), SqT.of (hP.1 _ _ hb)⟩, fun i x y p H' hx hy hP hp => ?_, fun H1 hP => ?_⟩
  · obtain ⟨s1, hz⟩ := hP
    rw [List.getElem?_map] at hx hy
    obtain ⟨z, hz1, rfl⟩ := Option.map_eq_some_iff.mp hx
    obtain ⟨n, hn1, rfl⟩ := Option.map_eq_some_iff.mp hy
    have Z := B.os z (List.mem_of_getElem? hz1)
    have N := B.bp n (List.mem_of_getElem? hn1)
    obtain ⟨l1, l2, l3, l4, l5, e5⟩ := one_row (k := kL) (z := z) (n := n) (by rw [l_kL]; decide) (Nat.le_trans Z.len (by decide)) N.1 N.2
    have il : i < 6 := by have := (List.getElem?_eq_some_iff.mp hn1).1; have := B.l6; omega
    refine turnZ_all ⟨_, rfl, l1, _, rfl, .inl ⟨_, rfl, ok200 (by have := Z.len; omega), _, rfl, l2, _, rfl, l3, _, rfl, .inr ⟨_, rfl, lg N.1 N.2, _, rfl, l4, _, rfl, l5, l5, ?_⟩⟩⟩
    refine ⟨_, same_newO hp _ _ _ hz, ?_, same_upd hl (s1.trans (same_newO hp _)), ?_⟩
    · rw [List.length_map, List.length_take]; exact small1000 (by omega)
    · rw [upd_same, List.take_add_one, zip_at hz1 hn1, List.map_append, ← e5]; rfl
  obtain ⟨s1, g1⟩ := hP
  have eT : (List.zipWith (rwS kL) sg ps).take (sg.map V.str).length = List.zipWith (rwS kL) sg ps := List.take_of_length_le (by rw [List.length_zipWith, List.length_map]; omega)
  rw [eT] at g1
  have ha1 := s1 _ _ ha
  have hc1 := s1 _ _ hc
  have hd1 := s1 _ _ hd
  refine ⟨_, rfl, .inl ⟨rfl, _, SqL.of g1⟩, _, rfl, _, rfl, c, d, _, _, rfl, SqT.of hc1, SqT.of hd1, by rw [List.length_map, List.length_map]; exact B.ln, fun l2 hl2 => ?_⟩
  refine ⟨fun i H' => Same H1 H' ∧ H' l2 = some (.lst (((List.zipWith (rwS kT) nm ws).take i).map V.str)), ⟨same_newO hl2 _, upd_same⟩, fun i H' _ hP => ⟨SqT.of (hP.1 _ _ hc1), SqT.of (hP.1 _ _ hd1)⟩, fun i x y p H' hx hy hP hp => ?_, fun H2 hP => ?_⟩
  · obtain ⟨s2, hz⟩ := hP
    rw [List.getElem?_map] at hx hy
    obtain ⟨z, hz1, rfl⟩ := Option.map_eq_some_iff.mp hx
    obtain ⟨n, hn1, rfl⟩ := Option.map_eq_some_iff.mp hy
    have Z := B.on z (List.mem_of_getElem? hz1)
    have N := B.bw n (List.mem_of_getElem? hn1)
    obtain ⟨l1, l2, l3, l4, l5, e5⟩ := one_row (k := kT) (z := z) (n := n) (by rw [l_kT]; decide) Z.len N.1 N.2
    have il : i < 24 := by have := (List.getElem?_eq_some_iff.mp hn1).1; have := B.n24; omega
    refine turnZ_all ⟨_, rfl, l1, _, rfl, .inl ⟨_, rfl, ok200 (by have := Z.len; omega), _, rfl, l2, _, rfl, l3, _, rfl, .inr ⟨_, rfl, lg N.1 N.2, _, rfl, l4, _, rfl, l5, l5, ?_⟩⟩⟩
    refine ⟨_, same_newO hp _ _ _ hz, ?_, same_upd hl2 (s2.trans (same_newO hp _)), ?_⟩
    · rw [List.length_map, List.length_take]; exact small1000 (by omega)
    · rw [upd_same, List.take_add_one, zip_at hz1 hn1, List.map_append, ← e5]; rfl
  obtain ⟨s2, g2⟩ := hP
  have eT2 : (List.zipWith (rwS kT) nm ws).take (nm.map V.str).length = List.zipWith (rwS kT) nm ws := List.take_of_length_le (by rw [List.length_zipWith, List.length_map]; omega)
  rw [eT2] at g2
  have R := B.rows_le
  have el : (List.zipWith (rwS kL) sg ps).map V.str ++ (List.zipWith (rwS kT) nm ws).map V.str = (rowsS sg ps nm ws).map V.str := by unfold rowsS; rw [List.map_append]
  refine ⟨l, l2, _, _, rfl, rfl, s2 _ _ g1, g2, ?_, ?_⟩
  · have e2 := congrArg List.length el
    rw [List.length_append] at e2
    rw [e2, List.length_map]
    exact Nat.le_of_lt (small1000 (by omega))
  rw [el]
  refine ⟨rfl, _, rfl, Str.empty, l, rowsS sg ps nm ws, 60, rfl, rfl, upd_same, R.1, ?_, qq _ (same_upd hl (s1.trans s2))⟩
  have : Str.empty.length = 0 := rfl
  rw [this]
  omega
abbrev NTx : List Str := ["book", "rows", "k"]
def spTx : Sp := fun vs H Q _ => ∃ (a : Addr) (sg : List Str) (ps : List Int) (nm : List Str) (ws : List Int), vs = [.ref a] ∧ BkAt H a sg ps nm ws ∧ Bk sg ps nm ws ∧ ∀ H', Same H H' → Q (.str (bookS sg ps nm ws)) H'
theorem scTx : FnScope NTx ["book"] (defScope sText) := ⟨rfl, rfl, rfl, by decide +kernel, rfl, by decide +kernel, by decide +kernel⟩
theorem ndTx : (("row" : Str) :: NTx).Nodup := by decide +kernel
theorem two_row {k z : Str} {n : Int} (hk : k.length ≤ 7) (hz : z.length ≤ 8) (h1 : 1 ≤ n) (hn : n ≤ B30) : k.length + z.length ≤ sizeLine ∧ (k ++ z).length + sp.length ≤ sizeLine ∧ (k ++ z ++ sp).length + (Str.ofString (toString n)).length ≤ sizeLine ∧ k ++ z ++ sp ++ Str.ofString (toString n) = r0 k z n ∧ (r0 k z n).length ≤ 55 := by
  have := nS_len hn
  have ok : ∀ {m : Nat}, m ≤ 200 → m ≤ sizeLine := fun h => Nat.le_of_lt (small1000 (by omega))
  rw [nS_is (show 0 ≤ n by omega)]
  unfold r0
  refine ⟨ok (by omega), ok ?_, ok ?_, rfl, ?_⟩ <;> simp only [Str.length_append, l_sp] <;> omega
theorem rows_nl (sg : List Str) (ps : List Int) (nm : List Str) (ws : List Int) : (List.zipWith (r0 kL) sg ps ++ List.zipWith (r0 kT) nm ws).map (· ++ nl) = rowsS sg ps nm ws := by
  unfold rowsS
  rw [List.map_append, List.map_zipWith, List.map_zipWith]
  rfl
set_option maxHeartbeats 16000000 in
theorem ok_tx (F : Fun K "_law_text" "_law_text" sText f fd) (ml : mg "len" = none) (mr : mg "range" = none) (ms : mg "str" = none) : FnOk P w K mg base CX0 1 f fd ["book"] spTx := by
  refine F.ok (k := 0) scTx (fun vs H Q E h => ?_) (fun cdv A outer s H vs Q E hr h => ?_)
  · obtain ⟨a, sg, ps, nm, ws, rfl, _⟩ := h
    rfl
  obtain ⟨a, sg, ps, nm, ws, rfl, ⟨b1, b2, b3, b4, ha, h1, h2, h3, h4⟩, B, qq⟩ := h
  refine ⟨_, pss_cons (ps_set (i := 1) scTx.nd rfl (Or.inl rfl) (pe_lst (pa_nil)))
      (pss_cons (ps_for PassesOwn.never rfl (pi_range1 (by rfl) mr (pa_cons (pe_callB call_len_seq (by rfl) ml PySem.boot_len (pa_cons (pe_ix ix_tup (pv 0) (pe_int) (fun _ _ => rfl)) (pa_nil))) (pa_nil))) (pg_name (i := 2) scTx.nd rfl (Or.inl rfl)) (pss_one (ps_expr (pe_bm PySem.F.plainAttrs_list PySem.F.slot_list_append PySem.F.type_list_append mt_append (pv 1) (pa_cons (pe_op op_add_str (pe_op op_add_str (pe_op op_add_str (pe_str) (pe_ix ix_tup (pe_ix ix_tup (pv 0) (pe_int) (fun _ _ => rfl)) (pv 2) (fun _ _ => rfl))) (pe_str)) (pe_callTy call_str_int (by rfl) ms b_str (pa_cons (pe_ix ix_tup (pe_ix ix_tup (pv 0) (pe_int) (fun _ _ => rfl)) (pv 2) (fun _ _ => rfl)) (pa_nil)))) (pa_nil))))))
      (pss_cons (ps_for PassesOwn.never rfl (pi_range1 (by rfl) mr (pa_cons (pe_callB call_len_seq (by rfl) ml PySem.boot_len (pa_cons (pe_ix ix_tup (pv 0) (pe_int) (fun _ _ => rfl)) (pa_nil))) (pa_nil))) (pg_name (i := 2) scTx.nd rfl (Or.inl rfl)) (pss_one (ps_expr (pe_bm PySem.F.plainAttrs_list PySem.F.slot_list_append PySem.F.type_list_append mt_append (pv 1) (pa_cons (pe_op op_add_str (pe_op op_add_str (pe_op op_add_str (pe_str) (pe_ix ix_tup (pe_ix ix_tup (pv 0) (pe_int) (fun _ _ => rfl)) (pv 2) (fun _ _ => rfl))) (pe_str)) (pe_callTy call_str_int (by rfl) ms b_str (pa_cons (pe_ix ix_tup (pe_ix ix_tup (pv 0) (pe_int) (fun _ _ => rfl)) (pv 2) (fun _ _ => rfl)) (pa_nil)))) (pa_nil))))))
      (pss_one (ps_ret (pe_bm PySem.F.plainAttrs_str PySem.F.slot_str_join PySem.F.type_str_join mt_join (pe_str) (pa_cons (pe_compL (M := NTx) rfl (CompScope.of (defScope sText) NTx rfl rfl rfl (by decide +kernel) (by decide +kernel) (by decide +kernel) rfl (by decide +kernel)) ndTx rfl (pv 1) mo_var (fun cl C s0 H0 fp => ⟨pts_nil, pe_op op_add_str (pv 0) (pe_str)⟩)) (pa_nil))))))), ?_⟩
  refine ⟨(by show 0 ≤ sizeLine; decide), fun l hl => ?_⟩
  have s1 := same_newO hl (.lst [])
  have g1 : upd H l (.lst []) l = some (.lst []) := upd_same
  generalize upd H l (.lst []) = H1 at s1 g1 ⊢
  have i0 : atI [V.ref b1, .ref b2, .ref b3, .ref b4] 0 = some (.ref b1) := rfl
  have i1 : atI [V.ref b1, .ref b2, .ref b3, .ref b4] 1 = some (.ref b2) := rfl
  have i2 : atI [V.ref b1, .ref b2, .ref b3, .ref b4] 2 = some (.ref b3) := rfl
  have i3 : atI [V.ref b1, .ref b2, .ref b3, .ref b4] 3 = some (.ref b4) := rfl
  have at_s : ∀ {zs : List Str} {k : Nat} {z : Str}, zs[k]? = some z → atI (zs.map V.str) (k : Int) = some (.str z) := fun h => atI_nat (by rw [List.getElem?_map, h]; rfl)
  have l6 := B.l6
  have n24 := B.n24
  refine ⟨_, rfl, a, _, _, _, rfl, rfl, SqT.of (s1 _ _ ha), i0, b1, _, rfl, .inr (SqT.of (s1 _ _ h1)), _, rfl, by rw [List.length_map, B.ls]; omega, by rw [List.length_map, B.ls]; omega, ?_⟩
  have e6 : (((sg.map V.str).length : Nat) : Int).toNat = sg.length := by rw [List.length_map]; omega
  rw [e6]
  refine for_range (fun i σ H' => Same H H' ∧ H' l = some (.lst (((List.zipWith (r0 kL) sg ps).take i).map V.str)) ∧ ∃ x2 : Option V, σ = [some (.ref a), some (.ref l), x2]) ⟨s1, g1, _, rfl⟩ (fun i σ H2 hi hP => ?_) (fun σ H2 hP => ?_)
  · obtain ⟨s2, hz, x2, rfl⟩ := hP
    have ei : (0 : Int) + (i : Int) = (i : Int) := by omega
    rw [ei]
    have hz1 : sg[i]? = some sg[i] := List.getElem?_eq_getElem hi
    have hn1 : ps[i]? = some (ps[i]'(by rw [← B.ls]; exact hi)) := List.getElem?_eq_getElem _
    have Z := B.os _ (List.mem_of_getElem? hz1)
    have N := B.bp _ (List.mem_of_getElem? hn1)
    obtain ⟨l1, l2, l3, e4, _⟩ := two_row (k := kL) (by rw [l_kL]; decide) (Nat.le_trans Z.len (by decide)) N.1 N.2
    refine ⟨_, rfl, .inl ⟨rfl, _, SqL.of hz⟩, _, rfl, a, _, _, _, rfl, rfl, SqT.of (s2 _ _ ha), i0, _, rfl, b1, _, _, _, rfl, rfl, SqT.of (s2 _ _ h1), at_s hz1, _, _, rfl, rfl, l1, _, _, rfl, rfl, l2, _, rfl, a, _, _, _, rfl, rfl, SqT.of (s2 _ _ ha), i1, _, rfl, b2, _, _, _, rfl, rfl, SqT.of (s2 _ _ h2), at_int hn1, _, rfl, lg N.1 N.2, _, _, rfl, rfl, l3, l, _, _, rfl, rfl, hz, ?_, same_upd hl s2, ?_, _, rfl⟩
    · rw [List.length_map, List.length_take]; exact small1000 (by have := B.ls; omega)
    · rw [upd_same, List.take_add_one, zip_at hz1 hn1, List.map_append, ← e4]; rfl
  obtain ⟨s2, g2, x2, rfl⟩ := hP
  rw [List.take_of_length_le (show (List.zipWith (r0 kL) sg ps).length ≤ sg.length by rw [List.length_zipWith]; omega)] at g2
  refine ⟨_, rfl, a, _, _, _, rfl, rfl, SqT.of (s2 _ _ ha), i2, b3, _, rfl, .inr (SqT.of (s2 _ _ h3)), _, rfl, by rw [List.length_map, B.ln]; omega, by rw [List.length_map, B.ln]; omega, ?_⟩
  have e7 : (((nm.map V.str).length : Nat) : Int).toNat = nm.length := by rw [List.length_map]; omega
  rw [e7]
  have ln1 : (List.zipWith (r0 kL) sg ps).length ≤ 6 := by rw [List.length_zipWith]; omega
  refine for_range (fun i σ H' => Same H H' ∧ H' l = some (.lst ((List.zipWith (r0 kL) sg ps ++ (List.zipWith (r0 kT) nm ws).take i).map V.str)) ∧ ∃ x2 : Option V, σ = [some (.ref a), some (.ref l), x2]) ⟨s2, by rw [List.take_zero, List.append_nil]; exact g2, _, rfl⟩ (fun i σ H3 hi hP => ?_) (fun σ H3 hP => ?_)
  · obtain ⟨s3, hz, x2, rfl⟩ := hP
    have ei : (0 : Int) + (i : Int) = (i : Int) := by omega
    rw [ei]
    have hz1 : nm[i]? = some nm[i] := List.getElem?_eq_getElem hi
    have hn1 : ws[i]? = some (ws[i]'(by rw [← B.ln]; exact hi)) := List.getElem?_eq_getElem _
    have Z := B.on _ (List.mem_of_getElem? hz1)
    have N := B.bw _ (List.mem_of_getElem? hn1)
    obtain ⟨l1, l2, l3, e4, _⟩ := two_row (k := kT) (by rw [l_kT]; decide) Z.len N.1 N.2
    refine ⟨_, rfl, .inl ⟨rfl, _, SqL.of hz⟩, _, rfl, a, _, _, _, rfl, rfl, SqT.of (s3 _ _ ha), i2, _, rfl, b3, _, _, _, rfl, rfl, SqT.of (s3 _ _ h3), at_s hz1, _, _, rfl, rfl, l1, _, _, rfl, rfl, l2, _, rfl, a, _, _, _, rfl, rfl, SqT.of (s3 _ _ ha), i3, _, rfl, b4, _, _, _, rfl, rfl, SqT.of (s3 _ _ h4), at_int hn1, _, rfl, lg N.1 N.2, _, _, rfl, rfl, l3, l, _, _, rfl, rfl, hz, ?_, same_upd hl s3, ?_, _, rfl⟩
    · rw [List.length_map, List.length_append, List.length_take]; exact small1000 (by have := B.ln; omega)
    · rw [upd_same, List.take_add_one, zip_at hz1 hn1, ← List.append_assoc, List.map_append (l₂ := (some (r0 kT nm[i] _)).toList), ← e4]; rfl
  obtain ⟨s3, g3, x2, rfl⟩ := hP
  rw [List.take_of_length_le (show (List.zipWith (r0 kT) nm ws).length ≤ nm.length by rw [List.length_zipWith]; omega)] at g3
  have ln2 : (List.zipWith (r0 kL) sg ps ++ List.zipWith (r0 kT) nm ws).length ≤ 30 := by rw [List.length_append, List.length_zipWith, List.length_zipWith]; omega
  have R := B.rows_le
  have er := rows_nl sg ps nm ws
  generalize List.zipWith (r0 kL) sg ps ++ List.zipWith (r0 kT) nm ws = rs at g3 ln2 er
  have rl : ∀ r ∈ rs, (r ++ nl).length ≤ 60 := fun r hr => R.1 _ (by rw [← er]; exact List.mem_map.mpr ⟨r, hr, rfl⟩)
  refine ⟨rfl, _, rfl, l, _, rfl, SqL.of g3, fun d hd => ?_⟩
  refine ⟨fun i H' => Same H3 H' ∧ H' d = some (.lst (((rs.take i).map (· ++ nl)).map V.str)), ⟨same_newO hd _, upd_same⟩, fun i H' _ hP => SqL.of (hP.1 _ _ g3), fun i x H' hx hP => ?_, fun H4 hP => ?_⟩
  · obtain ⟨s4, hz⟩ := hP
    rw [List.getElem?_map] at hx
    obtain ⟨r, hr1, rfl⟩ := Option.map_eq_some_iff.mp hx
    have il := (List.getElem?_eq_some_iff.mp hr1).1
    have lr := rl r (List.mem_of_getElem? hr1)
    rw [Str.length_append] at lr
    refine turn_all ⟨_, rfl, _, _, rfl, rfl, Nat.le_of_lt (small1000 (by show r.length + nl.length ≤ 1000; omega)), _, hz, ?_, same_upd hd s4, ?_⟩
    · rw [List.length_map, List.length_map, List.length_take]; exact small1000 (by omega)
    · rw [upd_same, List.take_add_one, hr1, List.map_append, List.map_append]; rfl
  obtain ⟨s4, g4⟩ := hP
  rw [List.length_map, List.take_length, er] at g4
  refine ⟨Str.empty, d, rowsS sg ps nm ws, 60, rfl, rfl, g4, R.1, ?_, qq _ (s3.trans s4)⟩
  have : Str.empty.length = 0 := rfl
  rw [this]
  omega
end
end K91
set_option Elab.async false
set_option linter.all false
set_option maxRecDepth 100000
namespace K91
open PySem L2
def figs : Str := Str.ofString "0123456789"
theorem figs_l : figs.cps.toList = (List.range 10).map (48 + ·) := by decide +kernel
theorem in_alpha {c : Nat} (h : 97 ≤ c ∧ c ≤ 122) : (!(Builtin.Str.occurrences alpha ⟨#[c]⟩ 0 alpha.length 1).isEmpty) = true := by
  rw [StrLaws.found_one, alpha_l]
  exact decide_eq_true (List.mem_map.mpr ⟨c - 97, List.mem_range.mpr (by omega), by omega⟩)
theorem in_figs {c : Nat} (h : 48 ≤ c ∧ c ≤ 57) : (!(Builtin.Str.occurrences figs ⟨#[c]⟩ 0 figs.length 1).isEmpty) = true := by
  rw [StrLaws.found_one, figs_l]
  exact decide_eq_true (List.mem_map.mpr ⟨c - 48, List.mem_range.mpr (by omega), by omega⟩)
theorem asc_is {z : Str} (h : ∀ c ∈ z.cps.toList, c < 128) : Asc z := by
  unfold Asc
  rw [Array.all_eq_true']
  intro c hc
  exact decide_eq_true (h c (by simpa using hc))
theorem all_true (n : Nat) : (List.replicate n true).all id = true := by rw [List.all_eq_true]; intro z hz; rw [List.eq_of_mem_replicate hz]; rfl
section
variable {P : Program} {w : World} {K : PySem.W.Frag} {mg : Str → Option Value} {base : Heap} {f : Addr} {fd : FuncData}
abbrev NIn : List Str := ["text", "most"]
def spIn : Sp := fun vs H Q _ => ∃ (z : Str) (m : Nat), vs = [.str z, .int m] ∧ m ≤ 8 ∧ Nm m z ∧ ∀ H', Same H H' → Q (.bl true) H'
theorem scIn : FnScope NIn NIn (defScope sIN) := ⟨rfl, rfl, rfl, by decide +kernel, rfl, by decide +kernel, by decide +kernel⟩
theorem ndIn : (("sign" : Str) :: NIn).Nodup := by decide +kernel
theorem ok_in {tS : Tok} (F : Fun K "is_name" "is_name" sIN f fd) (gS : mg "SIGNS" = some (.str alpha tS)) (ml : mg "len" = none) (ma : mg "all" = none) : FnOk P w K mg base CX0 1 f fd NIn spIn := by
  refine F.ok (k := 0) scIn (fun vs H Q E h => ?_) (fun cdv A outer s H vs Q E hr h => ?_)
  · obtain ⟨z, m, rfl, _⟩ := h
    rfl
  obtain ⟨z, m, rfl, m8, N, qq⟩ := h
  refine ⟨_, pss_one (ps_ret (pe_and (pe_chain op_le op_le pe_int (pe_callB call_len_str (by rfl) ml PySem.boot_len (pa_cons (pv 0) (pa_nil))) (pv 1)) (pe_one (pe_callB (call_all rfl) (by rfl) ma b_all (pa_cons (pe_compStr (M := NIn) rfl (CompScope.of (defScope sIN) NIn rfl rfl rfl (by decide +kernel) (by decide +kernel) (by decide +kernel) rfl (by decide +kernel)) ndIn rfl (pv 0) mo_var (fun cl C s0 H0 fp => ⟨pts_nil, pe_cmpR op_in_str (pv 0) (pe_glob (v := .str alpha) (by rfl) gS ⟨_, rfl⟩) rfl⟩)) (pa_nil)))))), ?_⟩
  have e : z.cps.toList.length = z.length := Array.length_toList
  have l1 := N.l1
  have l8 := N.l8
  rw [e] at l1 l8
  refine ⟨_, rfl, z, rfl, ok200 (by omega), _, _, rfl, rfl, _, rfl, ?_⟩
  rw [if_pos (decide_eq_true (by omega))]
  refine ⟨_, rfl, _, _, rfl, rfl, _, rfl, ?_⟩
  rw [if_pos (decide_eq_true (by omega))]
  refine ⟨_, rfl, z, rfl, asc_is (fun c hc => by have := N.lo c hc; omega), fun d hd => ?_⟩
  refine ⟨fun i H' => Same H H' ∧ H' d = some (.lst ((List.replicate i true).map V.bl)), ⟨same_newO hd _, upd_same⟩, fun i c H' hc hP => ?_, fun H' hP => ?_⟩
  · obtain ⟨s5, hz⟩ := hP
    have il := (List.getElem?_eq_some_iff.mp hc).1
    refine turn_all ⟨_, rfl, _, _, rfl, rfl, _, hz, ?_, same_upd hd s5, ?_⟩
    · rw [List.length_map, List.length_replicate]; exact small1000 (by omega)
    · rw [upd_same, in_alpha (N.lo c (List.mem_of_getElem? hc)), List.replicate_succ', List.map_append]; rfl
  · obtain ⟨s5, hz⟩ := hP
    refine ⟨d, _, rfl, hz, ?_⟩
    rw [all_true]
    exact qq H' s5
abbrev NNu : List Str := ["text"]
def spNu : Sp := fun vs H Q _ => ∃ n : Int, vs = [.str (nS n)] ∧ 1 ≤ n ∧ n ≤ B30 ∧ ∀ H', Same H H' → Q (.bl true) H'
theorem scNu : FnScope NNu NNu (defScope sINu) := ⟨rfl, rfl, rfl, by decide +kernel, rfl, by decide +kernel, by decide +kernel⟩
theorem ndNu : (("figure" : Str) :: NNu).Nodup := by decide +kernel
theorem ok_nu {tF : Tok} (F : Fun K "is_number" "is_number" sINu f fd) (gF : mg "FIGURES" = some (.str figs tF)) (ml : mg "len" = none) (ma : mg "all" = none) : FnOk P w K mg base CX0 1 f fd NNu spNu := by
  refine F.ok (k := 0) scNu (fun vs H Q E h => ?_) (fun cdv A outer s H vs Q E hr h => ?_)
  · obtain ⟨n, rfl, _⟩ := h
    rfl
  obtain ⟨n, rfl, n1, n30, qq⟩ := h
  refine ⟨_, pss_cons (ps_if (PW.pt (pw_or (pt_not (pt_chain op_le op_le pe_int (pe_callB call_len_str (by rfl) ml PySem.boot_len (pa_cons (pv 0) (pa_nil))) pe_int)) (pw_or1 (pt_not (pt_val (pe_callB (call_all rfl) (by rfl) ma b_all (pa_cons (pe_compStr (M := NNu) rfl (CompScope.of (defScope sINu) NNu rfl rfl rfl (by decide +kernel) (by decide +kernel) (by decide +kernel) rfl (by decide +kernel)) ndNu rfl (pv 0) mo_var (fun cl C s0 H0 fp => ⟨pts_nil, pe_cmpR op_in_str (pv 0) (pe_glob (v := .str figs) (by rfl) gF ⟨_, rfl⟩) rfl⟩)) (pa_nil)))))))) (pss_one (ps_ret pe_bl)) (pss_nil))
      (pss_one (ps_ret (pe_or (pe_cmpR op_eq (pv 0) pe_str (nomark _)) (pe_one (pe_cmpR op_ne (pe_ix ix_str (pv 0) (pe_int) (fun _ _ => rfl)) pe_str (nomark _)))))), ?_⟩
  have e : (nS n).length = (dg n).length := S_len _
  have l1 := dg_pos n
  have l31 := dg_len n30
  have ec : (nS n).cps.toList = dg n := S_cps _
  refine ⟨_, rfl, nS n, rfl, ok200 (by omega), _, _, rfl, rfl, _, rfl, ?_⟩
  rw [if_pos (decide_eq_true (by omega))]
  refine ⟨_, _, rfl, rfl, _, rfl, ?_⟩
  rw [decide_eq_true (by omega)]
  refine iteF ?_
  refine ⟨_, rfl, nS n, rfl, asc_is (fun c hc => by rw [ec] at hc; have := dg_all n c hc; omega), fun d hd => ?_⟩
  refine ⟨fun i H' => Same H H' ∧ H' d = some (.lst ((List.replicate i true).map V.bl)), ⟨same_newO hd _, upd_same⟩, fun i c H' hc hP => ?_, fun H' hP => ?_⟩
  · obtain ⟨s5, hz⟩ := hP
    rw [ec] at hc
    have il := (List.getElem?_eq_some_iff.mp hc).1
    refine turn_all ⟨_, rfl, _, _, rfl, rfl, _, hz, ?_, same_upd hd s5, ?_⟩
    · rw [List.length_map, List.length_replicate]; exact small1000 (by omega)
    · rw [upd_same, in_figs (dg_all n c (List.mem_of_getElem? hc)), List.replicate_succ', List.map_append]; rfl
  · obtain ⟨s5, hz⟩ := hP
    refine ⟨d, _, rfl, hz, _, rfl, ?_⟩
    rw [all_true]
    refine iteF ?_
    obtain ⟨c0, h0⟩ : ∃ c0, (dg n)[0]? = some c0 := ⟨(dg n)[0]'(by omega), List.getElem?_eq_getElem _⟩
    have f0 := dg_first n1
    rw [List.getD_eq_getElem?_getD, h0] at f0
    have f0 : c0 ≠ 48 := f0
    have a0 : atI (nS n).cps.toList 0 = some c0 := by rw [ec]; exact atI_nat (j := 0) h0
    have ne : nS n ≠ Str.ofString "0" := fun z => by
      have : (nS n).cps.toList = (Str.ofString "0").cps.toList := congrArg (fun z : Str => z.cps.toList) z
      rw [ec] at this
      rw [this] at h0
      exact f0 (Option.some.inj h0).symm
    refine ⟨_, rfl, rfl, _, rfl, ?_⟩
    rw [decide_eq_false (fun z => ne (V.str.inj z))]
    rw [if_neg Bool.false_ne_true]
    refine ⟨_, rfl, nS n, _, c0, rfl, rfl, ok200 (by omega), a0, rfl, ?_⟩
    have ne2 : ¬ V.str ⟨#[c0]⟩ = V.str (Str.ofString "0") := fun z => by
      have := congrArg (fun z : Str => z.cps.toList) (V.str.inj z)
      exact f0 (List.cons.inj this).1
    rw [decide_eq_false ne2]
    exact qq H' s5
abbrev NRr : List Str := ["row"]
def tL : Str := Str.ofString "letter"
def tT : Str := Str.ofString "thing"
def spRr (k : Str) (m : Nat) : Sp := fun vs H Q _ => ∃ (l : Addr) (k' z : Str) (n : Int), vs = [.ref l] ∧ H l = some (.lst [.str k', .str z, .str (nS n)]) ∧ (k' = k → Nm m z) ∧ 1 ≤ n ∧ n ≤ B30 ∧ ∀ H', Same H H' → Q (.bl (decide (k' = k))) H'
theorem scLr : FnScope NRr NRr (defScope sILR) := ⟨rfl, rfl, rfl, by decide +kernel, rfl, by decide +kernel, by decide +kernel⟩
theorem scTr : FnScope NRr NRr (defScope sITR) := ⟨rfl, rfl, rfl, by decide +kernel, rfl, by decide +kernel, by decide +kernel⟩
theorem ok_lr (F : Fun K "is_letter_row" "is_letter_row" sILR f fd) (GN : Fns P w K mg base NIn "is_name" spIn 1) (GU : Fns P w K mg base NNu "is_number" spNu 1) (ml : mg "len" = none) : FnOk P w K mg base CX0 2 f fd NRr (spRr tL 1) := by
  refine F.ok (k := 1) scLr (fun vs H Q E h => ?_) (fun cdv A outer s H vs Q E hr h => ?_)
  · obtain ⟨l, k', z, n, rfl, _⟩ := h
    rfl
  obtain ⟨l, k', z, n, rfl, hl, N, n1, n30, qq⟩ := h
  refine ⟨_, pss_one (ps_ret (pe_and (pe_cmpR op_eq (pe_callB call_len_seq (by rfl) ml PySem.boot_len (pa_cons (pv 0) (pa_nil))) pe_int (nomark _)) (pe_and (pe_cmpR op_eq (pe_ix ix_list (pv 0) (pe_int) (fun _ _ => rfl)) pe_str (nomark _)) (pe_and (pe_call GN.ok hr (by rfl) GN.m GN.kp GN.b .nil pass0 (pa_cons (pe_ix ix_list (pv 0) (pe_int) (fun _ _ => rfl)) (pa_cons (pe_int) (pa_nil)))) (pe_one (pe_call GU.ok hr (by rfl) GU.m GU.kp GU.b .nil pass0 (pa_cons (pe_ix ix_list (pv 0) (pe_int) (fun _ _ => rfl)) (pa_nil)))))))), ?_⟩
  have i0 : atI [V.str k', .str z, .str (nS n)] 0 = some (.str k') := rfl
  have i1 : atI [V.str k', .str z, .str (nS n)] 1 = some (.str z) := rfl
  have i2 : atI [V.str k', .str z, .str (nS n)] 2 = some (.str (nS n)) := rfl
  refine ⟨_, rfl, l, _, rfl, .inl (SqL.of hl), rfl, _, rfl, ?_⟩
  rw [if_pos (decide_eq_true (show V.int (([V.str k', V.str z, V.str (nS n)].length : Nat) : Int) = V.int 3 from rfl))]
  refine ⟨_, rfl, l, _, _, _, rfl, rfl, SqL.of hl, i0, rfl, _, rfl, ite2 (fun c => ?_) (fun c => ?_)⟩
  · have e : k' = tL := V.str.inj (of_decide_eq_true c)
    rw [decide_eq_true e] at qq
    refine ⟨_, rfl, l, _, _, _, rfl, rfl, SqL.of hl, i1, z, 1, rfl, by decide, N e, fun H1 s1 => ?_⟩
    refine ⟨_, rfl, iteT ⟨_, rfl, l, _, _, _, rfl, rfl, SqL.of (s1 _ _ hl), i2, n, rfl, n1, n30, fun H2 s2 => qq H2 (s1.trans s2)⟩⟩
  · have e0 : ¬ k' = tL := fun z => c (decide_eq_true (congrArg V.str z))
    rw [decide_eq_false e0] at qq
    exact qq H (Same.refl _)
theorem ok_tr (F : Fun K "is_thing_row" "is_thing_row" sITR f fd) (GN : Fns P w K mg base NIn "is_name" spIn 1) (GU : Fns P w K mg base NNu "is_number" spNu 1) (ml : mg "len" = none) : FnOk P w K mg base CX0 2 f fd NRr (spRr tT 8) := by
  refine F.ok (k := 1) scTr (fun vs H Q E h => ?_) (fun cdv A outer s H vs Q E hr h => ?_)
  · obtain ⟨l, k', z, n, rfl, _⟩ := h
    rfl
  obtain ⟨l, k', z, n, rfl, hl, N, n1, n30, qq⟩ := h
  refine ⟨_, pss_one (ps_ret (pe_and (pe_cmpR op_eq (pe_callB call_len_seq (by rfl) ml PySem.boot_len (pa_cons (pv 0) (pa_nil))) pe_int (nomark _)) (pe_and (pe_cmpR op_eq (pe_ix ix_list (pv 0) (pe_int) (fun _ _ => rfl)) pe_str (nomark _)) (pe_and (pe_call GN.ok hr (by rfl) GN.m GN.kp GN.b .nil pass0 (pa_cons (pe_ix ix_list (pv 0) (pe_int) (fun _ _ => rfl)) (pa_cons (pe_int) (pa_nil)))) (pe_one (pe_call GU.ok hr (by rfl) GU.m GU.kp GU.b .nil pass0 (pa_cons (pe_ix ix_list (pv 0) (pe_int) (fun _ _ => rfl)) (pa_nil)))))))), ?_⟩
  have i0 : atI [V.str k', .str z, .str (nS n)] 0 = some (.str k') := rfl
  have i1 : atI [V.str k', .str z, .str (nS n)] 1 = some (.str z) := rfl
  have i2 : atI [V.str k', .str z, .str (nS n)] 2 = some (.str (nS n)) := rfl
  refine ⟨_, rfl, l, _, rfl, .inl (SqL.of hl), rfl, _, rfl, ?_⟩
  rw [if_pos (decide_eq_true (show V.int (([V.str k', V.str z, V.str (nS n)].length : Nat) : Int) = V.int 3 from rfl))]
  refine ⟨_, rfl, l, _, _, _, rfl, rfl, SqL.of hl, i0, rfl, _, rfl, ite2 (fun c => ?_) (fun c => ?_)⟩
  · have e : k' = tT := V.str.inj (of_decide_eq_true c)
    rw [decide_eq_true e] at qq
    refine ⟨_, rfl, l, _, _, _, rfl, rfl, SqL.of hl, i1, z, 8, rfl, by decide, N e, fun H1 s1 => ?_⟩
    refine ⟨_, rfl, iteT ⟨_, rfl, l, _, _, _, rfl, rfl, SqL.of (s1 _ _ hl), i2, n, rfl, n1, n30, fun H2 s2 => qq H2 (s1.trans s2)⟩⟩
  · have e0 : ¬ k' = tT := fun z => c (decide_eq_true (congrArg V.str z))
    rw [decide_eq_false e0] at qq
    exact qq H (Same.refl _)
end
end K91
set_option Elab.async false
set_option linter.all false
set_option maxRecDepth 100000
namespace K91
open PySem L2
abbrev Tr := Str × Str × Int
def lnS (t : Tr) : Str := r0 (t.1 ++ sp) t.2.1 t.2.2
def trs (sg : List Str) (ps : List Int) (nm : List Str) (ws : List Int) : List Tr := List.zipWith (fun z n => (tL, z, n)) sg ps ++ List.zipWith (fun z n => (tT, z, n)) nm ws
structure GT (t : Tr) : Prop where
  k : (t.1 = tL ∧ Nm 1 t.2.1) ∨ (t.1 = tT ∧ Nm 8 t.2.1)
  n1 : 1 ≤ t.2.2
  n30 : t.2.2 ≤ B30
theorem kL_is : kL = tL ++ sp := by decide +kernel
theorem kT_is : kT = tT ++ sp := by decide +kernel
theorem tLT : tL ≠ tT := by decide +kernel
theorem trs_good {sg nm : List Str} {ps ws : List Int} (B : Bk sg ps nm ws) : ∀ t ∈ trs sg ps nm ws, GT t := fun t ht => by
  rcases List.mem_append.mp ht with h | h
  · obtain ⟨i, hi⟩ := List.mem_iff_getElem?.mp h
    rw [List.getElem?_zipWith] at hi
    cases hx : sg[i]? with
    | none => rw [hx] at hi; cases hi
    | some z =>
      cases hy : ps[i]? with
      | none => rw [hx, hy] at hi; cases hi
      | some n =>
        rw [hx, hy] at hi
        rw [← Option.some.inj hi]
        exact ⟨.inl ⟨rfl, B.os z (List.mem_of_getElem? hx)⟩, (B.bp n (List.mem_of_getElem? hy)).1, (B.bp n (List.mem_of_getElem? hy)).2⟩
  · obtain ⟨i, hi⟩ := List.mem_iff_getElem?.mp h
    rw [List.getElem?_zipWith] at hi
    cases hx : nm[i]? with
    | none => rw [hx] at hi; cases hi
    | some z =>
      cases hy : ws[i]? with
      | none => rw [hx, hy] at hi; cases hi
      | some n =>
        rw [hx, hy] at hi
        rw [← Option.some.inj hi]
        exact ⟨.inr ⟨rfl, B.on z (List.mem_of_getElem? hx)⟩, (B.bw n (List.mem_of_getElem? hy)).1, (B.bw n (List.mem_of_getElem? hy)).2⟩
theorem rows_trs (sg : List Str) (ps : List Int) (nm : List Str) (ws : List Int) : rowsS sg ps nm ws = (trs sg ps nm ws).map fun t => lnS t ++ nl := by
  unfold rowsS trs
  rw [List.map_append, List.map_zipWith, List.map_zipWith]
  unfold lnS
  dsimp only
  rw [← kL_is, ← kT_is]
  rfl
theorem cps_app (a b : Str) : (a ++ b).cps.toList = a.cps.toList ++ b.cps.toList := by
  show (a.cps ++ b.cps).toList = _
  rw [Array.toList_append]
theorem sp_c : sp.cps.toList = [32] := by decide +kernel
theorem nl_c : nl.cps.toList = [10] := by decide +kernel
theorem nl_is : nl = ⟨#[10]⟩ := by decide +kernel
theorem sp_is : sp = ⟨#[32]⟩ := by decide +kernel
theorem ln_cps (t : Tr) : (lnS t).cps.toList = jn 32 [t.1.cps.toList, t.2.1.cps.toList, dg t.2.2] := by
  unfold lnS r0
  rw [cps_app, cps_app, cps_app, cps_app, sp_c, show (nS t.2.2).cps.toList = dg t.2.2 from S_cps _]
  simp [jn]
theorem tL_lo : ∀ c ∈ tL.cps.toList, 97 ≤ c ∧ c ≤ 122 := by decide +kernel
theorem tT_lo : ∀ c ∈ tT.cps.toList, 97 ≤ c ∧ c ≤ 122 := by decide +kernel
theorem GT.lo {t : Tr} (h : GT t) : (∀ c ∈ t.1.cps.toList, 97 ≤ c ∧ c ≤ 122) ∧ (∀ c ∈ t.2.1.cps.toList, 97 ≤ c ∧ c ≤ 122) ∧ ∀ c ∈ dg t.2.2, 48 ≤ c ∧ c ≤ 57 := by
  refine ⟨?_, ?_, dg_all _⟩
  · rcases h.k with ⟨e, _⟩ | ⟨e, _⟩ <;> rw [e]
    · exact tL_lo
    · exact tT_lo
  · rcases h.k with ⟨_, e⟩ | ⟨_, e⟩ <;> exact e.lo
theorem ln_split {t : Tr} (h : GT t) : Txt.split (lnS t) sp = [t.1, t.2.1, nS t.2.2] := by
  obtain ⟨h1, h2, h3⟩ := h.lo
  rw [sp_is]
  refine split_is (B := [t.1.cps.toList, t.2.1.cps.toList, dg t.2.2]) (by simp) (fun b hb => ?_) (ln_cps t)
  simp only [List.mem_cons, List.not_mem_nil, or_false] at hb
  rcases hb with rfl | rfl | rfl
  · exact fun z => by have := h1 _ z; omega
  · exact fun z => by have := h2 _ z; omega
  · exact fun z => by have := h3 _ z; omega
theorem ln_free {t : Tr} (h : GT t) : 10 ∉ (lnS t).cps.toList := by
  obtain ⟨h1, h2, h3⟩ := h.lo
  rw [ln_cps]
  intro z
  simp only [jn, List.mem_append, List.mem_cons] at z
  rcases z with z | z | z | z | z
  · have := h1 _ z; omega
  · omega
  · have := h2 _ z; omega
  · omega
  · have := h3 _ z; omega
theorem ln_len {t : Tr} (h : GT t) : (lnS t).length ≤ 60 := by
  have e : (lnS t).length = (lnS t).cps.toList.length := Array.length_toList.symm
  have l1 : t.1.length ≤ 6 := by rcases h.k with ⟨e, _⟩ | ⟨e, _⟩ <;> rw [e] <;> decide +kernel
  have l2 : t.2.1.length ≤ 8 := by
    rcases h.k with ⟨_, e⟩ | ⟨_, e⟩
    · exact Nat.le_trans e.len (by decide)
    · exact e.len
  have := nS_len h.n30
  unfold lnS r0
  simp only [Str.length_append, l_sp]
  omega
theorem join_e : ∀ zs : List Str, (Str.join Str.empty zs).cps.toList = (zs.map fun z => z.cps.toList).flatten
  | [] => rfl
  | [a] => by show a.cps.toList = a.cps.toList ++ []; rw [List.append_nil]
  | a :: b :: r => by
    have ih := join_e (b :: r)
    show (a ++ Str.empty ++ Str.join Str.empty (b :: r)).cps.toList = a.cps.toList ++ ((b :: r).map fun z => z.cps.toList).flatten
    rw [cps_app, cps_app, ih]
    show a.cps.toList ++ [] ++ _ = _
    rw [List.append_nil]
theorem flat_nl (c : Nat) : ∀ ls : List (List Nat), (ls.map (· ++ [c])).flatten = jn c (ls ++ [[]])
  | [] => rfl
  | [a] => by simp [jn]
  | a :: b :: r => by
    have ih := flat_nl c (b :: r)
    show a ++ [c] ++ ((b :: r).map (· ++ [c])).flatten = a ++ c :: jn c (b :: r ++ [[]])
    rw [ih]
    simp
theorem book_split {sg nm : List Str} {ps ws : List Int} (B : Bk sg ps nm ws) : Txt.split (bookS sg ps nm ws) nl = (trs sg ps nm ws).map lnS ++ [Str.empty] := by
  rw [nl_is]
  have e := split_is (c := 10) (x := bookS sg ps nm ws) (B := (trs sg ps nm ws).map (fun t => (lnS t).cps.toList) ++ [[]]) (by simp) (fun b hb => ?_) ?_
  · rw [e, List.map_append, List.map_map]
    rfl
  · rcases List.mem_append.mp hb with h | h
    · obtain ⟨t, ht, rfl⟩ := List.mem_map.mp h
      exact ln_free (trs_good B t ht)
    · rw [List.mem_singleton.mp h]; simp
  · unfold bookS
    rw [join_e, rows_trs, ← flat_nl, List.map_map, List.map_map]
    congr 1
    refine List.map_congr_left fun t _ => ?_
    show (lnS t ++ nl).cps.toList = (lnS t).cps.toList ++ [10]
    rw [cps_app, nl_c]
theorem book_len {sg nm : List Str} {ps ws : List Int} (B : Bk sg ps nm ws) : (bookS sg ps nm ws).length ≤ 1800 := by
  have R := B.rows_le
  unfold bookS
  have h1 := StrLaws.join_length_le Str.empty (rowsS sg ps nm ws)
  have h2 := StrLaws.sumLen_le (rowsS sg ps nm ws) R.1
  have : Str.empty.length = 0 := rfl
  rw [this] at h1
  omega
theorem trs_len {sg nm : List Str} {ps ws : List Int} (B : Bk sg ps nm ws) : (trs sg ps nm ws).length ≤ 30 := by
  unfold trs
  rw [List.length_append, List.length_zipWith, List.length_zipWith]
  have := B.l6
  have := B.n24
  omega
theorem trs_before {sg nm : List Str} {ps ws : List Int} (B : Bk sg ps nm ws) {i : Nat} {t u : Tr} (h : (trs sg ps nm ws)[i + 1]? = some t) (hu : (trs sg ps nm ws)[i]? = some u) (e : t.1 = tL) : u.1 = tL := by
  unfold trs at h hu
  have key : ∀ j v, (List.zipWith (fun z n => (tL, z, n)) sg ps ++ List.zipWith (fun z n => (tT, z, n)) nm ws)[j]? = some v → (v : Tr).1 = tL → j < (List.zipWith (fun z n => ((tL, z, n) : Tr)) sg ps).length := fun j v hv ev => by
    rcases Nat.lt_or_ge j (List.zipWith (fun z n => ((tL, z, n) : Tr)) sg ps).length with c | c
    · exact c
    · exfalso
      rw [List.getElem?_append_right c] at hv
      have hm := List.mem_of_getElem? hv
      obtain ⟨k, hk⟩ := List.mem_iff_getElem?.mp hm
      rw [List.getElem?_zipWith] at hk
      cases hx : nm[k]? with
      | none => rw [hx] at hk; cases hk
      | some z =>
        cases hy : ws[k]? with
        | none => rw [hx, hy] at hk; cases hk
        | some n =>
          rw [hx, hy] at hk
          have := Option.some.inj hk
          rw [← this] at ev
          exact tLT ev.symm
  have li := key _ _ h e
  rw [List.getElem?_append_left (by omega), List.getElem?_zipWith] at hu
  cases hx : sg[i]? with
  | none => rw [hx] at hu; cases hu
  | some z =>
    cases hy : ps[i]? with
    | none => rw [hx, hy] at hu; cases hu
    | some n =>
      rw [hx, hy] at hu
      rw [← Option.some.inj hu]
theorem big5 {n : Nat} (h : n ≤ 5000) : n ≤ sizeLine := Nat.le_trans h (by decide)
def RowT (H : Hp) (x : V) (t : Tr) : Prop := ∃ l, x = .ref l ∧ H l = some (.lst [.str t.1, .str t.2.1, .str (nS t.2.2)])
theorem RowT.same {H H' : Hp} {xs : List V} {ts : List Tr} (s : Same H H') (h : Paired (RowT H) xs ts) : Paired (RowT H') xs ts := Paired.mapP h fun _ _ ⟨l, e, hl⟩ => ⟨l, e, s _ _ hl⟩
section
variable {P : Program} {w : World} {K : PySem.W.Frag} {mg : Str → Option Value} {base : Heap} {f : Addr} {fd : FuncData}
abbrev NRo : List Str := ["text", "pieces", "last", "rows", "at", "row", "behind_a_thing"]
def spRo : Sp := fun vs H Q _ => ∃ (sg : List Str) (ps : List Int) (nm : List Str) (ws : List Int), vs = [.str (bookS sg ps nm ws)] ∧ Bk sg ps nm ws ∧ ∀ (d : Addr) xs H', Same H H' → H' d = some (.lst xs) → Paired (RowT H') xs (trs sg ps nm ws) → Q (.ref d) H'
theorem scRo : FnScope NRo ["text"] (defScope sRO) := ⟨rfl, rfl, rfl, by decide +kernel, rfl, by decide +kernel, by decide +kernel⟩
theorem ndRo : (("piece" : Str) :: NRo).Nodup := by decide +kernel
set_option maxHeartbeats 16000000 in
theorem ok_ro (F : Fun K "rows_of" "rows_of" sRO f fd) (GT : Fns P w K mg base NRr "is_thing_row" (spRr tT 8) 2) (GL : Fns P w K mg base NRr "is_letter_row" (spRr tL 1) 2) (ml : mg "len" = none) (me : mg "enumerate" = none) : FnOk P w K mg base CX0 3 f fd ["text"] spRo := by
  refine F.ok (k := 2) scRo (fun vs H Q E h => ?_) (fun cdv A outer s H vs Q E hr h => ?_)
  · obtain ⟨sg, ps, nm, ws, rfl, _⟩ := h
    rfl
  obtain ⟨sg, ps, nm, ws, rfl, B, qq⟩ := h
  refine ⟨_, pss_cons (ps_set (i := 1) scRo.nd rfl (Or.inl rfl) (pe_bmS PySem.F.slot_str_split PySem.F.type_str_split mt_split (pv 0) (pa_cons (pe_str) (pa_nil))))
      (pss_cons (ps_set (i := 2) scRo.nd rfl (Or.inl rfl) (pe_bm0 PySem.F.plainAttrs_list PySem.F.slot_list_pop PySem.F.type_list_pop mt_pop (pv 1)))
      (pss_cons (ps_compL (i := 3) (M := NRo) scRo.nd rfl rfl rfl (CompScope.of (defScope sRO) NRo rfl rfl rfl (by decide +kernel) (by decide +kernel) (by decide +kernel) rfl (by decide +kernel)) ndRo rfl (pv 1) mo_var (fun cl C s0 H0 fp => ⟨pts_nil, pe_bmS PySem.F.slot_str_split PySem.F.type_str_split mt_split (pv 0) (pa_cons (pe_str) (pa_nil))⟩))
      (pss_cons (ps_for PassesOwn.never rfl (pi_enum false (by rfl) me (pa_cons (pv 3) (pa_nil))) (pg_tup rfl (pgs_cons (pg_name (i := 4) scRo.nd rfl (Or.inl rfl)) (pgs_cons (pg_name (i := 5) scRo.nd rfl (Or.inl rfl)) (pgs_nil)))) (pss_cons (ps_set (i := 6) scRo.nd rfl (Or.inl rfl) (pe_mid (pe_and (pe_cmpR op_gt (pv 4) pe_int (nomark _)) (pe_one (pe_cmpR op_eq (pe_ix ix_list (pe_ix ix_list (pv 3) (pe_op op_sub (pv 4) (pe_int)) (fun _ _ => rfl)) (pe_int) (fun _ _ => rfl)) pe_str (nomark _))))))
      (pss_one (ps_mid (ps_if (PW.pt (pw_and (pt_not (pt_val (pe_call GT.ok hr (by rfl) GT.m GT.kp GT.b .nil pass0 (pa_cons (pv 5) (pa_nil))))) (pw_and1 (PW.pt (pw_or (pt_val (pv 6)) (pw_or1 (pt_not (pt_val (pe_call GL.ok hr (by rfl) GL.m GL.kp GL.b .nil pass0 (pa_cons (pv 5) (pa_nil))))))))))) (pss_one (ps_dead)) (pss_nil))))))
      (pss_cons (ps_if (pt_cmpR op_gt (pe_callB call_len_str (by rfl) ml PySem.boot_len (pa_cons (pv 2) (pa_nil))) (pe_int) (nomark _)) (pss_one (ps_dead)) (pss_nil))
      (pss_one (ps_ret (pv 3))))))), ?_⟩
  have tg := trs_good B
  have tl := trs_len B
  have bl := book_len B
  have bs := book_split B
  have tb : ∀ {i : Nat} {t u : Tr}, (trs sg ps nm ws)[i + 1]? = some t → (trs sg ps nm ws)[i]? = some u → t.1 = tL → u.1 = tL := fun h1 h2 => trs_before B h1 h2
  generalize bookS sg ps nm ws = z at bl bs ⊢
  generalize trs sg ps nm ws = ts at tg tl bs tb qq
  refine ⟨_, rfl, ⟨_, rfl⟩, z, nl, rfl, rfl, (by decide +kernel), big5 (by omega), fun p hp => ?_⟩
  rw [bs]
  have s1 := same_newO hp (.lst ((ts.map lnS ++ [Str.empty]).map V.str))
  have g1 : upd H p (.lst ((ts.map lnS ++ [Str.empty]).map V.str)) p = some (.lst ((ts.map lnS).map V.str ++ [.str Str.empty])) := by rw [upd_same, List.map_append]; rfl
  generalize upd H p (.lst ((ts.map lnS ++ [Str.empty]).map V.str)) = H1 at s1 g1 ⊢
  refine ⟨_, rfl, .inl ⟨rfl, _, SqL.of g1⟩, p, _, .str Str.empty, rfl, rfl, g1, ?_, ?_⟩
  · rw [List.length_append, List.getElem?_append_right (by simp)]
    simp
  rw [List.dropLast_concat]
  have s2 := same_upd (o := .lst ((ts.map lnS).map V.str)) hp s1
  have g2 : upd H1 p (.lst ((ts.map lnS).map V.str)) p = some (.lst ((ts.map lnS).map V.str)) := upd_same
  generalize upd H1 p (.lst ((ts.map lnS).map V.str)) = H2 at s2 g2 ⊢
  refine ⟨_, rfl, p, _, rfl, SqL.of g2, fun d hd => ?_⟩
  refine ⟨fun i H' => Same H2 H' ∧ ∃ xs, H' d = some (.lst xs) ∧ Paired (fun x t => RowT H' x t ∧ x ≠ .ref d) xs (ts.take i), ⟨same_newO hd _, [], upd_same, .nil⟩, fun i H' _ hP => SqL.of (hP.1 _ _ g2), fun i x H' hx hP => ?_, fun H3 hP => ?_⟩
  · obtain ⟨s3, xs, hz, px⟩ := hP
    rw [List.map_map, List.getElem?_map] at hx
    obtain ⟨t, ht, rfl⟩ := Option.map_eq_some_iff.mp hx
    have G := tg t (List.mem_of_getElem? ht)
    have il := (List.getElem?_eq_some_iff.mp ht).1
    have lx : xs.length = (ts.take i).length := px.length
    rw [List.length_take] at lx
    refine turn_all ⟨_, rfl, ⟨_, rfl⟩, lnS t, sp, rfl, rfl, (by decide +kernel), big5 (by have := ln_len G; omega), fun q hq => ?_⟩
    rw [ln_split G]
    have nq : q ≠ d := fun e => by rw [e, hz] at hq; cases hq
    have s4 := same_newO hq (.lst ([t.1, t.2.1, nS t.2.2].map V.str))
    refine ⟨_, s4 _ _ hz, small1000 (by omega), same_upd hd (s3.trans s4), xs ++ [.ref q], upd_same, ?_⟩
    rw [List.take_add_one, ht]
    refine Paired.appendP (Paired.mapP px fun v t' ⟨⟨l, e, hl⟩, nd⟩ => ⟨⟨l, e, ?_⟩, nd⟩) (Paired.oneP ⟨⟨q, rfl, ?_⟩, fun e => nq (V.ref.inj e)⟩)
    · have nl : l ≠ d := fun e2 => nd (by rw [e, e2])
      rw [upd_ne nl]
      exact s4 _ _ hl
    · rw [upd_ne nq, upd_same]
      rfl
  obtain ⟨s3, xs, g3, px⟩ := hP
  rw [List.length_map, List.length_map, List.take_length] at px
  have px : Paired (RowT H3) xs ts := Paired.mapP px fun _ _ h => h.1
  have s03 := s2.trans s3
  have lx : xs.length = ts.length := px.length
  refine ⟨_, rfl, d, xs, rfl, SqL.of g3, ?_⟩
  refine for_enum (k := false) (xs := xs) (fun i σ H' => Same H3 H' ∧ ∃ x4 x5 x6 : Option V, σ = [some (.str z), some (.ref p), some (.str Str.empty), some (.ref d), x4, x5, x6]) ⟨Same.refl _, _, _, _, rfl⟩ (fun i σ H' _ hP => SqL.of (hP.1 _ _ g3)) (fun i x q σ H4 hx hP hq => ?_) (fun σ H4 hP => ?_)
  · obtain ⟨s4, x4, x5, x6, rfl⟩ := hP
    obtain ⟨t, ht, l, rfl, hl⟩ := Paired.right_of px i x hx
    have G := tg t (List.mem_of_getElem? ht)
    have s5 := s4.trans (same_newO hq (.tup [.int i, .ref l]))
    have gq : upd H4 q (.tup [.int i, .ref l]) q = some (.tup [.int i, .ref l]) := upd_same
    generalize upd H4 q (.tup [.int i, .ref l]) = H5 at s5 gq ⊢
    refine ⟨q, _, rfl, SqT.of gq, rfl, _, _, rfl, _, _, rfl, rfl, ?_⟩
    refine ⟨fun v H' => H5 = H' ∧ ∃ b, v = .bl b ∧ (t.1 = tL → b = false), ?_, fun v H' hv => ?_⟩
    · refine ⟨_, rfl, _, _, rfl, rfl, _, rfl, ite2 (fun c => ?_) (fun c => ⟨rfl, false, rfl, fun _ => rfl⟩)⟩
      have i0 : 0 < (i : Int) := of_decide_eq_true c
      obtain ⟨j, rfl⟩ : ∃ j, i = j + 1 := ⟨i - 1, by omega⟩
      have lj : j < xs.length := by have := (List.getElem?_eq_some_iff.mp hx).1; omega
      have hj : xs[j]? = some (xs[j]'lj) := List.getElem?_eq_getElem lj
      obtain ⟨u, hu, l', e', hl'⟩ := Paired.right_of px j _ hj
      have aj : atI xs (((j + 1 : Nat) : Int) - 1) = some (.ref l') := by
        rw [show ((j + 1 : Nat) : Int) - 1 = (j : Int) by omega]
        exact atI_nat (by rw [hj, e'])
      refine ⟨_, rfl, _, rfl, _, _, rfl, rfl, d, _, _, _, rfl, rfl, SqL.of (s5 _ _ g3), aj, l', _, _, _, rfl, rfl, SqL.of (s5 _ _ hl'), (rfl : atI [V.str u.1, .str u.2.1, .str (nS u.2.2)] 0 = _), rfl, rfl, _, rfl, fun e => ?_⟩
      have eu := tb ht hu e
      refine decide_eq_false fun h => ?_
      rw [eu] at h
      exact tLT (V.str.inj h)
    obtain ⟨rfl, b, rfl, hb⟩ := hv
    refine ⟨fun σ' H' => Same H3 H' ∧ ∃ x4 x5 x6 : Option V, σ' = [some (.str z), some (.ref p), some (.str Str.empty), some (.ref d), x4, x5, x6], ?_, fun _ _ h => h⟩
    refine ⟨_, rfl, l, t.1, t.2.1, t.2.2, rfl, s5 _ _ hl, (fun e => ?_), G.n1, G.n30, fun H6 s6 => ?_⟩
    · rcases G.k with ⟨e2, _⟩ | ⟨_, e2⟩
      · rw [e2] at e; exact absurd e tLT
      · exact e2
    have s36 := s5.trans s6
    refine ⟨_, rfl, ?_⟩
    rcases G.k with ⟨e2, N⟩ | ⟨e2, N⟩
    · rw [decide_eq_false (show ¬ t.1 = tT by rw [e2]; exact tLT)]
      refine iteT ?_
      rw [hb e2]
      refine ⟨_, rfl, _, rfl, iteF ?_⟩
      refine ⟨_, rfl, l, t.1, t.2.1, t.2.2, rfl, s36 _ _ hl, fun _ => N, G.n1, G.n30, fun H7 s7 => ?_⟩
      refine ⟨_, rfl, ?_⟩
      rw [decide_eq_true e2]
      exact iteF ⟨s36.trans s7, _, _, _, rfl⟩
    · rw [decide_eq_true e2]
      exact iteF ⟨s36, _, _, _, rfl⟩
  obtain ⟨s4, x4, x5, x6, rfl⟩ := hP
  refine ⟨_, rfl, Str.empty, rfl, (by show 0 ≤ sizeLine; decide), _, _, rfl, rfl, _, rfl, iteF ?_⟩
  exact ⟨_, rfl, qq d xs H4 (s03.trans s4) (s4 _ _ g3) (RowT.same s4 px)⟩
end
end K91
set_option Elab.async false
set_option linter.all false
set_option maxRecDepth 100000
namespace K91
open PySem L2
theorem b_setT : bootBuiltins "set" = some (.type "set") := by decide +kernel
theorem zw1 {k : Str} : ∀ {zs : List Str} {ns : List Int}, zs.length = ns.length → (List.zipWith (fun z n => ((k, z, n) : Tr)) zs ns).map (·.2.1) = zs
  | [], [], _ => rfl
  | z :: zs, n :: ns, h => by
    show z :: _ = _
    rw [zw1 (Nat.succ.inj h)]
theorem zw2 {k : Str} : ∀ {zs : List Str} {ns : List Int}, zs.length = ns.length → (List.zipWith (fun z n => ((k, z, n) : Tr)) zs ns).map (·.2.2) = ns
  | [], [], _ => rfl
  | z :: zs, n :: ns, h => by
    show n :: _ = _
    rw [zw2 (Nat.succ.inj h)]
theorem zw_k {k : Str} {zs : List Str} {ns : List Int} : ∀ t ∈ List.zipWith (fun z n => ((k, z, n) : Tr)) zs ns, t.1 = k := fun t ht => by
  obtain ⟨i, hi⟩ := List.mem_iff_getElem?.mp ht
  rw [List.getElem?_zipWith] at hi
  cases hx : zs[i]? with
  | none => rw [hx] at hi; cases hi
  | some z =>
    cases hy : ns[i]? with
    | none => rw [hx, hy] at hi; cases hi
    | some n =>
      rw [hx, hy] at hi
      rw [← Option.some.inj hi]
theorem flt_y {k : Str} {t : Tr} (c : decide (V.str t.1 = V.str k) = true) : List.filter (fun t : Tr => decide (V.str t.1 = V.str k)) [t] = [t] := List.filter_cons_of_pos c
theorem flt_n {k : Str} {t : Tr} (c : ¬ decide (V.str t.1 = V.str k) = true) : List.filter (fun t : Tr => decide (V.str t.1 = V.str k)) [t] = [] := List.filter_cons_of_neg c
theorem flt_L (sg : List Str) (ps : List Int) (nm : List Str) (ws : List Int) : (trs sg ps nm ws).filter (fun t => decide (V.str t.1 = V.str tL)) = List.zipWith (fun z n => ((tL, z, n) : Tr)) sg ps := by
  unfold trs
  rw [List.filter_append, List.filter_eq_self.mpr fun t ht => decide_eq_true (congrArg V.str (zw_k t ht)), List.filter_eq_nil_iff.mpr (fun t ht => ?_), List.append_nil]
  rw [zw_k t ht]
  exact fun h => tLT (V.str.inj (of_decide_eq_true h)).symm
theorem flt_T (sg : List Str) (ps : List Int) (nm : List Str) (ws : List Int) : (trs sg ps nm ws).filter (fun t => decide (V.str t.1 = V.str tT)) = List.zipWith (fun z n => ((tT, z, n) : Tr)) nm ws := by
  unfold trs
  rw [List.filter_append, List.filter_eq_nil_iff.mpr (fun t ht => ?_), List.filter_eq_self.mpr fun t ht => decide_eq_true (congrArg V.str (zw_k t ht)), List.nil_append]
  rw [zw_k t ht]
  exact fun h => tLT (V.str.inj (of_decide_eq_true h))
section
variable {P : Program} {w : World} {K : PySem.W.Frag} {mg : Str → Option Value} {base : Heap} {f : Addr} {fd : FuncData}
def spIs : Sp := fun vs H Q _ => ∃ n : Int, vs = [.int n] ∧ 1 ≤ n ∧ n ≤ B30 ∧ Q (.bl true) H
theorem scIs : FnScope ["number"] ["number"] (defScope sIsAm) := ⟨rfl, rfl, rfl, by decide +kernel, rfl, by decide +kernel, by decide +kernel⟩
theorem ok_is (F : Fun K "is_amount" "is_amount" sIsAm f fd) : FnOk P w K mg base CX0 1 f fd ["number"] spIs := by
  refine F.ok (k := 0) scIs (fun vs H Q E h => ?_) (fun cdv A outer s H vs Q E hr h => ?_)
  · obtain ⟨n, rfl, _⟩ := h
    rfl
  obtain ⟨n, rfl, n1, n30, q⟩ := h
  refine ⟨_, pss_one (ps_ret (pe_chain op_le op_le pe_int (pv 0) (pe_op op_pow pe_int pe_int))), ?_⟩
  refine ⟨_, rfl, _, _, rfl, rfl, _, rfl, ?_⟩
  rw [if_pos (decide_eq_true n1)]
  refine ⟨_, _, rfl, rfl, ⟨by decide, by decide, by decide⟩, _, _, rfl, rfl, ?_⟩
  show Q (.bl (decide (n ≤ 10 ^ (30 : Int).toNat))) H
  rw [decide_eq_true (by rw [e30]; exact n30)]
  exact q
abbrev NAr : List Str := ["numbers", "fewest", "most"]
def spAr : Sp := fun vs H Q _ => ∃ (l : Addr) (ns : List Int) (lo hi : Nat), vs = [.ref l, .int lo, .int hi] ∧ H l = some (.lst (ns.map V.int)) ∧ lo ≤ ns.length ∧ ns.length ≤ hi ∧ hi ≤ 30 ∧ Bo ns ∧ ∀ H', Same H H' → Q (.bl true) H'
theorem scAr : FnScope NAr NAr (defScope sAre) := ⟨rfl, rfl, rfl, by decide +kernel, rfl, by decide +kernel, by decide +kernel⟩
theorem ndAr : (("number" : Str) :: NAr).Nodup := by decide +kernel
theorem ok_ar (F : Fun K "are_amounts" "are_amounts" sAre f fd) (GA : Fns P w K mg base ["number"] "is_amount" spIs 1) (ml : mg "len" = none) (ma : mg "all" = none) : FnOk P w K mg base CX0 2 f fd NAr spAr := by
  refine F.ok (k := 1) scAr (fun vs H Q E h => ?_) (fun cdv A outer s H vs Q E hr h => ?_)
  · obtain ⟨l, ns, lo, hi, rfl, _⟩ := h
    rfl
  obtain ⟨l, ns, lo, hi, rfl, hl, h1, h2, h3, bo, qq⟩ := h
  refine ⟨_, pss_one (ps_ret (pe_and (pe_chain op_le op_le (pv 1) (pe_callB call_len_seq (by rfl) ml PySem.boot_len (pa_cons (pv 0) (pa_nil))) (pv 2)) (pe_one (pe_callB (call_all rfl) (by rfl) ma b_all (pa_cons (pe_compL (M := NAr) rfl (CompScope.of (defScope sAre) NAr rfl rfl rfl (by decide +kernel) (by decide +kernel) (by decide +kernel) rfl (by decide +kernel)) ndAr rfl (pv 0) mo_var (fun cl C s0 H0 fp => ⟨pts_nil, pe_call GA.ok hr (by rfl) GA.m GA.kp GA.b .nil pass0 (pa_cons (pv 0) (pa_nil))⟩)) (pa_nil)))))), ?_⟩
  refine ⟨_, rfl, _, rfl, l, _, rfl, .inl (SqL.of hl), _, _, rfl, rfl, _, rfl, ?_⟩
  rw [List.length_map, if_pos (decide_eq_true (by omega))]
  refine ⟨_, rfl, _, _, rfl, rfl, _, rfl, ?_⟩
  rw [if_pos (decide_eq_true (by omega))]
  refine ⟨_, rfl, l, _, rfl, SqL.of hl, fun d hd => ?_⟩
  refine ⟨fun i H' => Same H H' ∧ H' d = some (.lst ((List.replicate i true).map V.bl)), ⟨same_newO hd _, upd_same⟩, fun i H' _ hP => SqL.of (hP.1 _ _ hl), fun i x H' hx hP => ?_, fun H' hP => ?_⟩
  · obtain ⟨s5, hz⟩ := hP
    rw [List.getElem?_map] at hx
    obtain ⟨n, hn, rfl⟩ := Option.map_eq_some_iff.mp hx
    have il := (List.getElem?_eq_some_iff.mp hn).1
    have N := bo n (List.mem_of_getElem? hn)
    refine turn_all ⟨_, rfl, n, rfl, N.1, N.2, _, hz, ?_, same_upd hd s5, ?_⟩
    · rw [List.length_map, List.length_replicate]; exact small1000 (by omega)
    · rw [upd_same, List.replicate_succ', List.map_append]; rfl
  · obtain ⟨s5, hz⟩ := hP
    refine ⟨d, _, rfl, hz, ?_⟩
    rw [all_true]
    exact qq H' s5
def spMk (lo hi : Nat) : Sp := fun vs H Q _ => ∃ (l : Addr) (ns : List Int), vs = [.ref l] ∧ H l = some (.lst (ns.map V.int)) ∧ lo ≤ ns.length ∧ ns.length ≤ hi ∧ Bo ns ∧ ∀ p H', Same H H' → H' p = some (.tup (ns.map V.int)) → Q (.ref p) H'
theorem scMP : FnScope ["prices"] ["prices"] (defScope sMP) := ⟨rfl, rfl, rfl, by decide +kernel, rfl, by decide +kernel, by decide +kernel⟩
theorem scMW : FnScope ["weights"] ["weights"] (defScope sMW) := ⟨rfl, rfl, rfl, by decide +kernel, rfl, by decide +kernel, by decide +kernel⟩
theorem ok_mp (F : Fun K "made_prices" "made_prices" sMP f fd) (GA : Fns P w K mg base NAr "are_amounts" spAr 2) (mt : mg "tuple" = none) : FnOk P w K mg base CX0 3 f fd ["prices"] (spMk 2 6) := by
  refine F.ok (k := 2) scMP (fun vs H Q E h => ?_) (fun cdv A outer s H vs Q E hr h => ?_)
  · obtain ⟨l, ns, rfl, _⟩ := h
    rfl
  obtain ⟨l, ns, rfl, hl, h1, h2, bo, qq⟩ := h
  refine ⟨_, pss_cons (ps_if (pt_not (pt_val (pe_call GA.ok hr (by rfl) GA.m GA.kp GA.b .nil pass0 (pa_cons (pv 0) (pa_cons (pe_int) (pa_cons (pe_int) (pa_nil))))))) (pss_one (ps_dead)) (pss_nil))
      (pss_one (ps_ret (pe_callTy call_tuple_of (by rfl) mt b_tuple (pa_cons (pv 0) (pa_nil))))), ?_⟩
  refine ⟨_, rfl, l, ns, 2, 6, rfl, hl, h1, h2, by decide, bo, fun H1 s1 => ⟨_, rfl, iteF ?_⟩⟩
  exact ⟨_, rfl, l, _, rfl, .inl ⟨SqL.of (s1 _ _ hl), fun p hp => qq p _ (s1.trans (same_newO hp _)) upd_same⟩⟩
theorem ok_mw (F : Fun K "made_weights" "made_weights" sMW f fd) (GA : Fns P w K mg base NAr "are_amounts" spAr 2) (mt : mg "tuple" = none) : FnOk P w K mg base CX0 3 f fd ["weights"] (spMk 1 24) := by
  refine F.ok (k := 2) scMW (fun vs H Q E h => ?_) (fun cdv A outer s H vs Q E hr h => ?_)
  · obtain ⟨l, ns, rfl, _⟩ := h
    rfl
  obtain ⟨l, ns, rfl, hl, h1, h2, bo, qq⟩ := h
  refine ⟨_, pss_cons (ps_if (pt_not (pt_val (pe_call GA.ok hr (by rfl) GA.m GA.kp GA.b .nil pass0 (pa_cons (pv 0) (pa_cons (pe_int) (pa_cons (pe_int) (pa_nil))))))) (pss_one (ps_dead)) (pss_nil))
      (pss_one (ps_ret (pe_callTy call_tuple_of (by rfl) mt b_tuple (pa_cons (pv 0) (pa_nil))))), ?_⟩
  refine ⟨_, rfl, l, ns, 1, 24, rfl, hl, h1, h2, by decide, bo, fun H1 s1 => ⟨_, rfl, iteF ?_⟩⟩
  exact ⟨_, rfl, l, _, rfl, .inl ⟨SqL.of (s1 _ _ hl), fun p hp => qq p _ (s1.trans (same_newO hp _)) upd_same⟩⟩
abbrev NRb : List Str := ["text", "rows", "letters", "things", "signs", "names", "prices", "weights"]
def spRb : Sp := fun vs H Q _ => ∃ (sg : List Str) (ps : List Int) (nm : List Str) (ws : List Int), vs = [.str (bookS sg ps nm ws)] ∧ Bk sg ps nm ws ∧ ∀ (p : Addr) H', Same H H' → BkAt H' p sg ps nm ws → Q (.ref p) H'
theorem scRb : FnScope NRb ["text"] (defScope sRB) := ⟨rfl, rfl, rfl, by decide +kernel, rfl, by decide +kernel, by decide +kernel⟩
theorem ndRb : (("row" : Str) :: NRb).Nodup := by decide +kernel
set_option maxHeartbeats 16000000 in
theorem ok_rb (F : Fun K "read_book" "read_book" sRB f fd) (GR : Fns P w K mg base ["text"] "rows_of" spRo 3) (GP : Fns P w K mg base ["prices"] "made_prices" (spMk 2 6) 3) (GW : Fns P w K mg base ["weights"] "made_weights" (spMk 1 24) 3) (ml : mg "len" = none) (mt : mg "tuple" = none) (mse : mg "set" = none) (mI : mg "int" = none) : FnOk P w K mg base CX0 4 f fd ["text"] spRb := by
  refine F.ok (k := 3) scRb (fun vs H Q E h => ?_) (fun cdv A outer s H vs Q E hr h => ?_)
  · obtain ⟨sg, ps, nm, ws, rfl, _⟩ := h
    rfl
  obtain ⟨sg, ps, nm, ws, rfl, B, qq⟩ := h
  refine ⟨_, pss_cons (ps_set (i := 1) scRb.nd rfl (Or.inl rfl) (pe_call GR.ok hr (by rfl) GR.m GR.kp GR.b .nil pass0 (pa_cons (pv 0) (pa_nil))))
      (pss_cons (ps_compL (i := 2) (M := NRb) scRb.nd rfl rfl rfl (CompScope.of (defScope sRB) NRb rfl rfl rfl (by decide +kernel) (by decide +kernel) (by decide +kernel) rfl (by decide +kernel)) ndRb rfl (pv 1) mo_var (fun cl C s0 H0 fp => ⟨pts_one (pt_cmpR op_eq (pe_ix (ixL K) (pv 0) (pe_int) (fun _ _ => rfl)) pe_str (nomark _)), pv 0⟩))
      (pss_cons (ps_compL (i := 3) (M := NRb) scRb.nd rfl rfl rfl (CompScope.of (defScope sRB) NRb rfl rfl rfl (by decide +kernel) (by decide +kernel) (by decide +kernel) rfl (by decide +kernel)) ndRb rfl (pv 1) mo_var (fun cl C s0 H0 fp => ⟨pts_one (pt_cmpR op_eq (pe_ix (ixL K) (pv 0) (pe_int) (fun _ _ => rfl)) pe_str (nomark _)), pv 0⟩))
      (pss_cons (ps_set (i := 4) scRb.nd rfl (Or.inl rfl) (pe_callTy call_tuple_of (by rfl) mt b_tuple (pa_cons (pe_compL (M := NRb) rfl (CompScope.of (defScope sRB) NRb rfl rfl rfl (by decide +kernel) (by decide +kernel) (by decide +kernel) rfl (by decide +kernel)) ndRb rfl (pv 2) mo_var (fun cl C s0 H0 fp => ⟨pts_nil, pe_ix (ixL K) (pv 0) (pe_int) (fun _ _ => rfl)⟩)) (pa_nil))))
      (pss_cons (ps_set (i := 5) scRb.nd rfl (Or.inl rfl) (pe_callTy call_tuple_of (by rfl) mt b_tuple (pa_cons (pe_compL (M := NRb) rfl (CompScope.of (defScope sRB) NRb rfl rfl rfl (by decide +kernel) (by decide +kernel) (by decide +kernel) rfl (by decide +kernel)) ndRb rfl (pv 3) mo_var (fun cl C s0 H0 fp => ⟨pts_nil, pe_ix (ixL K) (pv 0) (pe_int) (fun _ _ => rfl)⟩)) (pa_nil))))
      (pss_cons (ps_if (PW.pt (pw_or (pt_cmpR op_lt (pe_callB call_lenS (by rfl) ml PySem.boot_len (pa_cons (pe_callTy (call_setTs rfl) (by rfl) mse b_setT (pa_cons (pv 4) (pa_nil))) (pa_nil))) (pe_callB call_len_seq (by rfl) ml PySem.boot_len (pa_cons (pv 4) (pa_nil))) (nomark _)) (pw_or1 (pt_cmpR op_lt (pe_callB call_lenS (by rfl) ml PySem.boot_len (pa_cons (pe_callTy (call_setTs rfl) (by rfl) mse b_setT (pa_cons (pv 5) (pa_nil))) (pa_nil))) (pe_callB call_len_seq (by rfl) ml PySem.boot_len (pa_cons (pv 5) (pa_nil))) (nomark _))))) (pss_one (ps_dead)) (pss_nil))
      (pss_cons (ps_set (i := 6) scRb.nd rfl (Or.inl rfl) (pe_call GP.ok hr (by rfl) GP.m GP.kp GP.b .nil pass0 (pa_cons (pe_compL (M := NRb) rfl (CompScope.of (defScope sRB) NRb rfl rfl rfl (by decide +kernel) (by decide +kernel) (by decide +kernel) rfl (by decide +kernel)) ndRb rfl (pv 2) mo_var (fun cl C s0 H0 fp => ⟨pts_nil, pe_callTy call_int_str (by rfl) mI b_int (pa_cons (pe_ix (ixL K) (pv 0) (pe_int) (fun _ _ => rfl)) (pa_nil))⟩)) (pa_nil))))
      (pss_cons (ps_set (i := 7) scRb.nd rfl (Or.inl rfl) (pe_call GW.ok hr (by rfl) GW.m GW.kp GW.b .nil pass0 (pa_cons (pe_compL (M := NRb) rfl (CompScope.of (defScope sRB) NRb rfl rfl rfl (by decide +kernel) (by decide +kernel) (by decide +kernel) rfl (by decide +kernel)) ndRb rfl (pv 3) mo_var (fun cl C s0 H0 fp => ⟨pts_nil, pe_callTy call_int_str (by rfl) mI b_int (pa_cons (pe_ix (ixL K) (pv 0) (pe_int) (fun _ _ => rfl)) (pa_nil))⟩)) (pa_nil))))
      (pss_one (ps_ret (pe_tup (pa_cons (pv 4) (pa_cons (pv 6) (pa_cons (pv 5) (pa_cons (pv 7) (pa_nil))))))))))))))), ?_⟩
  have tg := trs_good B
  have tl := trs_len B
  have fL := flt_L sg ps nm ws
  have fT := flt_T sg ps nm ws
  have l6 := B.l6
  have n24 := B.n24
  refine ⟨_, rfl, sg, ps, nm, ws, rfl, B, fun r xs H1 s1 hr1 px => ?_⟩
  have lx : xs.length = (trs sg ps nm ws).length := px.length
  refine ⟨_, rfl, r, xs, rfl, SqL.of ((Same.refl H1) _ _ hr1), fun d1 hd1 => ?_⟩
  refine ⟨fun i H' => Same H1 H' ∧ ∃ ys, H' d1 = some (.lst ys) ∧ Paired (RowT H1) ys (((trs sg ps nm ws).take i).filter fun t => decide (V.str t.1 = V.str tL)), ⟨same_newO hd1 _, [], upd_same, .nil⟩, fun i H' _ hP => SqL.of (hP.1 _ _ ((Same.refl H1) _ _ hr1)), fun i x H' hx hP => ?_, fun H2 hP => ?_⟩
  · obtain ⟨s2, ys, hz, py⟩ := hP
    obtain ⟨t, ht, l, rfl, hl⟩ := Paired.right_of px i x hx
    have il := (List.getElem?_eq_some_iff.mp ht).1
    have ly : ys.length = _ := py.length
    have ly2 := List.length_filter_le (fun t : Tr => decide (V.str t.1 = V.str tL)) ((trs sg ps nm ws).take i)
    rw [List.length_take] at ly2
    refine ⟨_, rfl, l, _, _, _, rfl, rfl, SqL.of (s2 _ _ ((Same.refl H1) _ _ hl)), (rfl : atI [V.str t.1, .str t.2.1, .str (nS t.2.2)] 0 = _), rfl, _, rfl, ite2 (fun c => ?_) (fun c => ?_)⟩
    · refine ⟨_, rfl, ys, hz, small1000 (by omega), same_upd hd1 s2, ys ++ [.ref l], upd_same, ?_⟩
      rw [List.take_add_one, ht, List.filter_append]
      refine Paired.appendP py ?_
      show Paired _ _ (List.filter _ [t])
      rw [flt_y (k := tL) c]
      exact Paired.oneP ⟨l, rfl, hl⟩
    · refine ⟨s2, ys, hz, ?_⟩
      rw [List.take_add_one, ht, List.filter_append]
      show Paired _ _ (_ ++ List.filter _ [t])
      rw [flt_n (k := tL) c, List.append_nil]
      exact py
  obtain ⟨sya, ya, gya, pya⟩ := hP
  rw [lx, List.take_length] at pya
  have s12 : Same H1 H2 := sya
  refine ⟨_, rfl, r, xs, rfl, SqL.of (s12 _ _ hr1), fun d2 hd2 => ?_⟩
  refine ⟨fun i H' => Same H2 H' ∧ ∃ ys, H' d2 = some (.lst ys) ∧ Paired (RowT H1) ys (((trs sg ps nm ws).take i).filter fun t => decide (V.str t.1 = V.str tT)), ⟨same_newO hd2 _, [], upd_same, .nil⟩, fun i H' _ hP => SqL.of (hP.1 _ _ (s12 _ _ hr1)), fun i x H' hx hP => ?_, fun H3 hP => ?_⟩
  · obtain ⟨s2, ys, hz, py⟩ := hP
    obtain ⟨t, ht, l, rfl, hl⟩ := Paired.right_of px i x hx
    have il := (List.getElem?_eq_some_iff.mp ht).1
    have ly : ys.length = _ := py.length
    have ly2 := List.length_filter_le (fun t : Tr => decide (V.str t.1 = V.str tT)) ((trs sg ps nm ws).take i)
    rw [List.length_take] at ly2
    refine ⟨_, rfl, l, _, _, _, rfl, rfl, SqL.of (s2 _ _ (s12 _ _ hl)), (rfl : atI [V.str t.1, .str t.2.1, .str (nS t.2.2)] 0 = _), rfl, _, rfl, ite2 (fun c => ?_) (fun c => ?_)⟩
    · refine ⟨_, rfl, ys, hz, small1000 (by omega), same_upd hd2 s2, ys ++ [.ref l], upd_same, ?_⟩
      rw [List.take_add_one, ht, List.filter_append]
      refine Paired.appendP py ?_
      show Paired _ _ (List.filter _ [t])
      rw [flt_y (k := tT) c]
      exact Paired.oneP ⟨l, rfl, hl⟩
    · refine ⟨s2, ys, hz, ?_⟩
      rw [List.take_add_one, ht, List.filter_append]
      show Paired _ _ (_ ++ List.filter _ [t])
      rw [flt_n (k := tT) c, List.append_nil]
      exact py
  obtain ⟨syb, yb, gyb, pyb⟩ := hP
  rw [lx, List.take_length] at pyb
  have s13 := s12.trans syb
  rw [fL] at pya
  rw [fT] at pyb
  have inL : ∀ t ∈ List.zipWith (fun z n => ((tL, z, n) : Tr)) sg ps, t ∈ trs sg ps nm ws := fun t ht => List.mem_append_left _ ht
  have inT : ∀ t ∈ List.zipWith (fun z n => ((tT, z, n) : Tr)) nm ws, t ∈ trs sg ps nm ws := fun t ht => List.mem_append_right _ ht
  have eL1 := zw1 (k := tL) B.ls
  have eL2 := zw2 (k := tL) B.ls
  have eT1 := zw1 (k := tT) B.ln
  have eT2 := zw2 (k := tT) B.ln
  have lL : (List.zipWith (fun z n => ((tL, z, n) : Tr)) sg ps).length ≤ 6 := by rw [List.length_zipWith]; omega
  have lT : (List.zipWith (fun z n => ((tT, z, n) : Tr)) nm ws).length ≤ 24 := by rw [List.length_zipWith]; omega
  generalize List.zipWith (fun z n => ((tL, z, n) : Tr)) sg ps = tsL at pya inL eL1 eL2 lL
  generalize List.zipWith (fun z n => ((tT, z, n) : Tr)) nm ws = tsT at pyb inT eT1 eT2 lT
  have gya3 := syb _ _ gya
  refine ⟨_, rfl, d1, ya, rfl, SqL.of gya3, fun d3 hd3 => ?_⟩
  refine ⟨fun i H' => Same H3 H' ∧ H' d3 = some (.lst (((tsL.take i).map (·.2.1)).map V.str)), ⟨same_newO hd3 _, upd_same⟩, fun i H' _ hP => SqL.of (hP.1 _ _ gya3), fun i x H' hx hP => ?_, fun H4 hP => ?_⟩
  · obtain ⟨s2, hz⟩ := hP
    obtain ⟨t, ht, l, rfl, hl⟩ := Paired.right_of pya i x hx
    have il := (List.getElem?_eq_some_iff.mp ht).1
    have G := tg t (inL t (List.mem_of_getElem? ht))
    refine turn_all ⟨_, rfl, l, _, _, _, rfl, rfl, SqL.of (s2 _ _ (s13 _ _ hl)), (rfl : atI [V.str t.1, .str t.2.1, .str (nS t.2.2)] 1 = _), _, hz, ?_, same_upd hd3 s2, ?_⟩
    · rw [List.length_map, List.length_map, List.length_take]; exact small1000 (by omega)
    · rw [upd_same, List.take_add_one, ht, List.map_append, List.map_append]; rfl
  obtain ⟨sd3, gd3⟩ := hP
  rw [pya.length, List.take_length] at gd3
  rw [eL1] at gd3
  refine ⟨d3, _, rfl, .inl ⟨SqL.of gd3, fun p1 hp1 => ?_⟩⟩
  have sp1 := same_newO hp1 (.tup (sg.map V.str))
  have gp1 : upd H4 p1 (.tup (sg.map V.str)) p1 = some (.tup (sg.map V.str)) := upd_same
  generalize upd H4 p1 (.tup (sg.map V.str)) = H5 at sp1 gp1 ⊢
  have s35 := sd3.trans sp1
  have s15 := s13.trans s35
  have gyb5 := s35 _ _ gyb
  refine ⟨_, rfl, d2, yb, rfl, SqL.of gyb5, fun d4 hd4 => ?_⟩
  refine ⟨fun i H' => Same H5 H' ∧ H' d4 = some (.lst (((tsT.take i).map (·.2.1)).map V.str)), ⟨same_newO hd4 _, upd_same⟩, fun i H' _ hP => SqL.of (hP.1 _ _ gyb5), fun i x H' hx hP => ?_, fun H6 hP => ?_⟩
  · obtain ⟨s2, hz⟩ := hP
    obtain ⟨t, ht, l, rfl, hl⟩ := Paired.right_of pyb i x hx
    have il := (List.getElem?_eq_some_iff.mp ht).1
    have G := tg t (inT t (List.mem_of_getElem? ht))
    refine turn_all ⟨_, rfl, l, _, _, _, rfl, rfl, SqL.of (s2 _ _ (s15 _ _ hl)), (rfl : atI [V.str t.1, .str t.2.1, .str (nS t.2.2)] 1 = _), _, hz, ?_, same_upd hd4 s2, ?_⟩
    · rw [List.length_map, List.length_map, List.length_take]; exact small1000 (by omega)
    · rw [upd_same, List.take_add_one, ht, List.map_append, List.map_append]; rfl
  obtain ⟨sd4, gd4⟩ := hP
  rw [pyb.length, List.take_length] at gd4
  rw [eT1] at gd4
  refine ⟨d4, _, rfl, .inl ⟨SqL.of gd4, fun p2 hp2 => ?_⟩⟩
  have sp2 := same_newO hp2 (.tup (nm.map V.str))
  have gp2 : upd H6 p2 (.tup (nm.map V.str)) p2 = some (.tup (nm.map V.str)) := upd_same
  generalize upd H6 p2 (.tup (nm.map V.str)) = H7 at sp2 gp2 ⊢
  have s57 := sd4.trans sp2
  have s17 := s15.trans s57
  have gp1' := s57 _ _ gp1
  refine ⟨_, rfl, p1, sg, rfl, SqT.of gp1', B.ds, by rw [B.ls]; omega, fun e1 H8 s8 he1 ge1 => ?_⟩
  refine ⟨e1, sg, rfl, ge1, by rw [B.ls]; omega, _, rfl, p1, _, rfl, .inr (SqT.of (s8 _ _ gp1')), _, _, rfl, rfl, _, rfl, ?_⟩
  rw [List.length_map, decide_eq_false (Int.lt_irrefl _)]
  refine iteF ?_
  refine ⟨_, rfl, p2, nm, rfl, SqT.of (s8 _ _ gp2), B.dn, by rw [B.ln]; omega, fun e2 H9 s9 he2 ge2 => ?_⟩
  refine ⟨e2, nm, rfl, ge2, by rw [B.ln]; omega, _, rfl, p2, _, rfl, .inr (SqT.of (s9 _ _ (s8 _ _ gp2))), _, _, rfl, rfl, _, rfl, ?_⟩
  rw [List.length_map, decide_eq_false (Int.lt_irrefl _)]
  refine iteF ?_
  have s79 := s8.trans s9
  have s19 := s17.trans s79
  have gya9 := s79 _ _ (s57 _ _ (s35 _ _ gya3))
  refine ⟨_, rfl, d1, ya, rfl, SqL.of gya9, fun d5 hd5 => ?_⟩
  refine ⟨fun i H' => Same H9 H' ∧ H' d5 = some (.lst (((tsL.take i).map (·.2.2)).map V.int)), ⟨same_newO hd5 _, upd_same⟩, fun i H' _ hP => SqL.of (hP.1 _ _ gya9), fun i x H' hx hP => ?_, fun H10 hP => ?_⟩
  · obtain ⟨s2, hz⟩ := hP
    obtain ⟨t, ht, l, rfl, hl⟩ := Paired.right_of pya i x hx
    have il := (List.getElem?_eq_some_iff.mp ht).1
    have G := tg t (inL t (List.mem_of_getElem? ht))
    refine turn_all ⟨_, rfl, l, _, _, _, rfl, rfl, SqL.of (s2 _ _ (s19 _ _ hl)), (rfl : atI [V.str t.1, .str t.2.1, .str (nS t.2.2)] 2 = _), _, _, rfl, dg_reads G.n1 G.n30, by have := nS_len G.n30; omega, _, hz, ?_, same_upd hd5 s2, ?_⟩
    · rw [List.length_map, List.length_map, List.length_take]; exact small1000 (by omega)
    · rw [upd_same, List.take_add_one, ht, List.map_append, List.map_append]; rfl
  obtain ⟨sd5, gd5⟩ := hP
  rw [pya.length, List.take_length] at gd5
  rw [eL2] at gd5
  refine ⟨d5, ps, rfl, gd5, B.l2, B.l6, B.bp, fun p3 H11 s11 gp3 => ?_⟩
  have s911 := sd5.trans s11
  have s1b := s19.trans s911
  have gybb := s911 _ _ (s79 _ _ (s57 _ _ gyb5))
  refine ⟨_, rfl, d2, yb, rfl, SqL.of gybb, fun d6 hd6 => ?_⟩
  refine ⟨fun i H' => Same H11 H' ∧ H' d6 = some (.lst (((tsT.take i).map (·.2.2)).map V.int)), ⟨same_newO hd6 _, upd_same⟩, fun i H' _ hP => SqL.of (hP.1 _ _ gybb), fun i x H' hx hP => ?_, fun H12 hP => ?_⟩
  · obtain ⟨s2, hz⟩ := hP
    obtain ⟨t, ht, l, rfl, hl⟩ := Paired.right_of pyb i x hx
    have il := (List.getElem?_eq_some_iff.mp ht).1
    have G := tg t (inT t (List.mem_of_getElem? ht))
    refine turn_all ⟨_, rfl, l, _, _, _, rfl, rfl, SqL.of (s2 _ _ (s1b _ _ hl)), (rfl : atI [V.str t.1, .str t.2.1, .str (nS t.2.2)] 2 = _), _, _, rfl, dg_reads G.n1 G.n30, by have := nS_len G.n30; omega, _, hz, ?_, same_upd hd6 s2, ?_⟩
    · rw [List.length_map, List.length_map, List.length_take]; exact small1000 (by omega)
    · rw [upd_same, List.take_add_one, ht, List.map_append, List.map_append]; rfl
  obtain ⟨sd6, gd6⟩ := hP
  rw [pyb.length, List.take_length] at gd6
  rw [eT2] at gd6
  refine ⟨d6, ws, rfl, gd6, B.n1, B.n24, B.bw, fun p4 H13 s13' gp4 => ?_⟩
  have sE := sd6.trans s13'
  refine ⟨_, rfl, _, rfl, _, rfl, _, rfl, (by show 4 ≤ sizeLine; decide), fun q hq => ?_⟩
  have sq := same_newO hq (.tup [.ref p1, .ref p3, .ref p2, .ref p4])
  have k1 := sq _ _ (sE _ _ (s911 _ _ (s79 _ _ gp1')))
  have k2 := sq _ _ (sE _ _ gp3)
  have k3 := sq _ _ (sE _ _ (s911 _ _ (s79 _ _ gp2)))
  have k4 := sq _ _ gp4
  exact qq q _ ((s1.trans s1b).trans (sE.trans sq)) ⟨p1, p3, p2, p4, upd_same, k1, k2, k3, k4⟩
end
end K91
set_option Elab.async false
set_option linter.all false
set_option maxRecDepth 100000
namespace K91
open PySem L2
theorem op_inK {X : Cx} (K : PySem.W.Frag) (hK : X.K = K := by rfl) : OpR X (compareOp .In) (rIn K false) := by subst hK; exact op_in_seq
def dotS : Str := Str.ofString "."
def sgn (sg : List Str) (x : Int) : Str := sg.getD x.toNat Str.empty
def wtS (sg : List Str) (ns : List Int) : Str := if ns = [] then dotS else Str.join Str.empty (ns.map (sgn sg))
structure Wr (sg : List Str) (ns : List Int) : Prop where
  l41 : ns.length ≤ 41
  ok : ∀ x ∈ ns, 0 ≤ x ∧ x < (sg.length : Int)
theorem sgn_at {sg : List Str} {x : Int} (h : 0 ≤ x ∧ x < (sg.length : Int)) : sg[x.toNat]? = some (sgn sg x) ∧ sgn sg x ∈ sg ∧ atI (sg.map V.str) x = some (.str (sgn sg x)) := by
  obtain ⟨k, rfl⟩ : ∃ k : Nat, x = k := ⟨x.toNat, by omega⟩
  have lk : k < sg.length := by omega
  have e : sg[k]? = some (sgn sg k) := by
    unfold sgn
    rw [List.getD_eq_getElem?_getD]
    show sg[k]? = some (sg[k]?.getD _)
    rw [List.getElem?_eq_getElem lk]
    rfl
  exact ⟨e, List.mem_of_getElem? e, atI_nat (by rw [List.getElem?_map, e]; rfl)⟩
theorem one_c {z : Str} (h : Nm 1 z) : ∃ c, z = ⟨#[c]⟩ ∧ 97 ≤ c ∧ c ≤ 122 := by
  have h1 := h.l1
  have h2 := h.l8
  match hz : z.cps.toList, h1, h2 with
  | [c], _, _ =>
    refine ⟨c, ?_, h.lo c (by rw [hz]; exact .head _)⟩
    rw [← S_of z, hz]
    rfl
  | [], h1, _ => exact absurd h1 (by decide)
  | _ :: _ :: _, _, h2 => exact absurd h2 (by simp)
theorem wt_cps {sg : List Str} {ns : List Int} (os : ∀ z ∈ sg, Nm 1 z) (hk : ∀ x ∈ ns, 0 ≤ x ∧ x < (sg.length : Int)) : ∃ cs : List Nat, (Str.join Str.empty (ns.map (sgn sg))).cps.toList = cs ∧ cs.length = ns.length ∧ ∀ (i : Nat) (c : Nat), cs[i]? = some c → ∃ x, ns[i]? = some x ∧ sgn sg x = ⟨#[c]⟩ ∧ 97 ≤ c ∧ c ≤ 122 := by
  rw [join_e, List.map_map]
  induction ns with
  | nil => exact ⟨[], rfl, rfl, fun i c h => by cases h⟩
  | cons x ns ih =>
    obtain ⟨cs, e1, e2, e3⟩ := ih (fun y hy => hk y (.tail _ hy))
    obtain ⟨c, ec, hc⟩ := one_c (os _ (sgn_at (hk x (.head _))).2.1)
    refine ⟨c :: cs, ?_, by rw [List.length_cons, List.length_cons, e2], fun i d hd => ?_⟩
    · show (sgn sg x).cps.toList ++ _ = _
      rw [e1, ec]
      rfl
    · cases i with
      | zero =>
        cases hd
        exact ⟨x, rfl, ec, hc⟩
      | succ i => exact e3 i d hd
section
variable {P : Program} {w : World} {K : PySem.W.Frag} {mg : Str → Option Value} {base : Heap} {f : Addr} {fd : FuncData}
abbrev NAl : List Str := ["word", "letters"]
def spAl : Sp := fun vs H Q _ => ∃ (a : Addr) (ns : List Int) (L : Int), vs = [.ref a, .int L] ∧ H a = some (.tup (ns.map V.int)) ∧ ns.length ≤ 900 ∧ (∀ x ∈ ns, 0 ≤ x ∧ x < L) ∧ ∀ H', Same H H' → Q (.bl true) H'
theorem scAl : FnScope NAl NAl (defScope sAlone) := ⟨rfl, rfl, rfl, by decide +kernel, rfl, by decide +kernel, by decide +kernel⟩
theorem ndAl : (("letter" : Str) :: NAl).Nodup := by decide +kernel
theorem ok_al (F : Fun K "has_letters_alone" "has_letters_alone" sAlone f fd) (ma : mg "all" = none) : FnOk P w K mg base CX0 1 f fd NAl spAl := by
  refine F.ok (k := 0) scAl (fun vs H Q E h => ?_) (fun cdv A outer s H vs Q E hr h => ?_)
  · obtain ⟨a, ns, L, rfl, _⟩ := h
    rfl
  obtain ⟨a, ns, L, rfl, ha, l9, hk, qq⟩ := h
  refine ⟨_, pss_one (ps_ret (pe_callB (call_all rfl) (by rfl) ma b_all (pa_cons (pe_compT (M := NAl) rfl (CompScope.of (defScope sAlone) NAl rfl rfl rfl (by decide +kernel) (by decide +kernel) (by decide +kernel) rfl (by decide +kernel)) ndAl rfl (pv 0) mo_var (fun cl C s0 H0 fp => ⟨pts_nil, pe_chain op_le op_lt pe_int (pv 0) (pv 2)⟩)) (pa_nil)))), ?_⟩
  refine ⟨_, rfl, a, _, rfl, SqT.of ha, fun d hd => ?_⟩
  refine ⟨fun i H' => Same H H' ∧ H' d = some (.lst ((List.replicate i true).map V.bl)), ⟨same_newO hd _, upd_same⟩, fun i H' _ hP => SqT.of (hP.1 _ _ ha), fun i x H' hx hP => ?_, fun H' hP => ?_⟩
  · obtain ⟨s5, hz⟩ := hP
    rw [List.getElem?_map] at hx
    obtain ⟨n, hn, rfl⟩ := Option.map_eq_some_iff.mp hx
    have il := (List.getElem?_eq_some_iff.mp hn).1
    have N := hk n (List.mem_of_getElem? hn)
    refine turn_all ⟨_, rfl, _, _, rfl, rfl, _, rfl, ?_⟩
    rw [if_pos (decide_eq_true N.1)]
    refine ⟨_, rfl, _, _, rfl, rfl, _, hz, ?_, same_upd hd s5, ?_⟩
    · rw [List.length_map, List.length_replicate]; exact small1000 (by omega)
    · rw [upd_same, List.replicate_succ', List.map_append]
      show some (HO.lst (_ ++ [V.bl (decide (n < L))])) = _
      rw [decide_eq_true N.2]
      rfl
  · obtain ⟨s5, hz⟩ := hP
    refine ⟨d, _, rfl, hz, ?_⟩
    rw [all_true]
    exact qq H' s5
abbrev NWt : List Str := ["signs", "word"]
def spWt : Sp := fun vs H Q _ => ∃ (a b : Addr) (sg : List Str) (ns : List Int), vs = [.ref a, .ref b] ∧ H a = some (.tup (sg.map V.str)) ∧ H b = some (.tup (ns.map V.int)) ∧ sg.length ≤ 30 ∧ (∀ z ∈ sg, Nm 1 z) ∧ Wr sg ns ∧ ∀ H', Same H H' → Q (.str (wtS sg ns)) H'
theorem scWt : FnScope NWt NWt (defScope sWT) := ⟨rfl, rfl, rfl, by decide +kernel, rfl, by decide +kernel, by decide +kernel⟩
theorem ndWt : (("letter" : Str) :: NWt).Nodup := by decide +kernel
theorem ok_wt {tE : Tok} (F : Fun K "word_text" "word_text" sWT f fd) (GA : Fns P w K mg base NAl "has_letters_alone" spAl 1) (gE : mg "EMPTY_WORD" = some (.str dotS tE)) (ml : mg "len" = none) : FnOk P w K mg base CX0 2 f fd NWt spWt := by
  refine F.ok (k := 1) scWt (fun vs H Q E h => ?_) (fun cdv A outer s H vs Q E hr h => ?_)
  · obtain ⟨a, b, sg, ns, rfl, _⟩ := h
    rfl
  obtain ⟨a, b, sg, ns, rfl, ha, hb, l30, os, W, qq⟩ := h
  have l41 := W.l41
  refine ⟨_, pss_cons (ps_if (pt_not (pt_val (pe_call GA.ok hr (by rfl) GA.m GA.kp GA.b .nil pass0 (pa_cons (pv 1) (pa_cons (pe_callB call_len_seq (by rfl) ml PySem.boot_len (pa_cons (pv 0) (pa_nil))) (pa_nil)))))) (pss_one (ps_dead)) (pss_nil))
      (pss_cons (ps_if (pt_cmpR op_eq (pe_callB call_len_seq (by rfl) ml PySem.boot_len (pa_cons (pv 1) (pa_nil))) (pe_int) (nomark _)) (pss_one (ps_ret (pe_glob (v := .str dotS) (by rfl) gE ⟨_, rfl⟩))) (pss_nil))
      (pss_one (ps_ret (pe_bmS PySem.F.slot_str_join PySem.F.type_str_join mt_join pe_str (pa_cons (pe_compT (M := NWt) rfl (CompScope.of (defScope sWT) NWt rfl rfl rfl (by decide +kernel) (by decide +kernel) (by decide +kernel) rfl (by decide +kernel)) ndWt rfl (pv 1) mo_var (fun cl C s0 H0 fp => ⟨pts_nil, pe_ix (ixT K) (pv 1) (pv 0) (fun _ _ => rfl)⟩)) (pa_nil)))))), ?_⟩
  refine ⟨_, rfl, _, rfl, a, _, rfl, .inr (SqT.of ha), b, ns, _, rfl, hb, by omega, (by rw [List.length_map]; exact W.ok), fun H1 s1 => ⟨_, rfl, iteF ?_⟩⟩
  refine ⟨_, rfl, b, _, rfl, .inr (SqT.of (s1 _ _ hb)), rfl, _, rfl, ?_⟩
  rw [List.length_map]
  refine ite2 (fun c => ?_) (fun c => ?_)
  · have e : ns = [] := List.length_eq_zero_iff.mp (by have := V.int.inj (of_decide_eq_true c); omega)
    unfold wtS at qq
    rw [if_pos e] at qq
    exact qq H1 s1
  have ne : ns ≠ [] := fun e => c (decide_eq_true (by rw [e]; rfl))
  unfold wtS at qq
  rw [if_neg ne] at qq
  refine ⟨⟨_, rfl⟩, _, rfl, b, _, rfl, SqT.of (s1 _ _ hb), fun d hd => ?_⟩
  refine ⟨fun i H' => Same H1 H' ∧ H' d = some (.lst (((ns.take i).map (sgn sg)).map V.str)), ⟨same_newO hd _, upd_same⟩, fun i H' _ hP => SqT.of (hP.1 _ _ (s1 _ _ hb)), fun i x H' hx hP => ?_, fun H2 hP => ?_⟩
  · obtain ⟨s5, hz⟩ := hP
    rw [List.getElem?_map] at hx
    obtain ⟨n, hn, rfl⟩ := Option.map_eq_some_iff.mp hx
    have il := (List.getElem?_eq_some_iff.mp hn).1
    refine turn_all ⟨_, rfl, _, rfl, a, _, _, _, rfl, rfl, SqT.of (s5 _ _ (s1 _ _ ha)), (sgn_at (W.ok n (List.mem_of_getElem? hn))).2.2, _, hz, ?_, same_upd hd s5, ?_⟩
    · rw [List.length_map, List.length_map, List.length_take]; exact small1000 (by omega)
    · rw [upd_same, List.take_add_one, hn, List.map_append, List.map_append]; rfl
  obtain ⟨s5, hz⟩ := hP
  rw [List.length_map, List.take_length] at hz
  refine ⟨Str.empty, d, ns.map (sgn sg), 1, rfl, rfl, hz, fun z hm => ?_, ?_, qq H2 (s1.trans s5)⟩
  · obtain ⟨x, hx, rfl⟩ := List.mem_map.mp hm
    exact (os _ (sgn_at (W.ok x hx)).2.1).len
  · have : Str.empty.length = 0 := rfl
    rw [this, List.length_map]
    omega
abbrev NRw : List Str := ["signs", "text"]
def spRw : Sp := fun vs H Q _ => ∃ (a : Addr) (sg : List Str) (ns : List Int), vs = [.ref a, .str (wtS sg ns)] ∧ H a = some (.tup (sg.map V.str)) ∧ sg.Nodup ∧ (∀ z ∈ sg, Nm 1 z) ∧ Wr sg ns ∧ ∀ p H', Same H H' → H' p = some (.tup (ns.map V.int)) → Q (.ref p) H'
theorem scRw : FnScope NRw NRw (defScope sRW) := ⟨rfl, rfl, rfl, by decide +kernel, rfl, by decide +kernel, by decide +kernel⟩
theorem ndRw : (("sign" : Str) :: NRw).Nodup := by decide +kernel
theorem ok_rw {tE : Tok} (F : Fun K "read_word" "read_word" sRW f fd) (gE : mg "EMPTY_WORD" = some (.str dotS tE)) (ml : mg "len" = none) (ma : mg "all" = none) (mt : mg "tuple" = none) : FnOk P w K mg base CX0 1 f fd NRw spRw := by
  refine F.ok (k := 0) scRw (fun vs H Q E h => ?_) (fun cdv A outer s H vs Q E hr h => ?_)
  · obtain ⟨a, sg, ns, rfl, _⟩ := h
    rfl
  obtain ⟨a, sg, ns, rfl, ha, nd, os, W, qq⟩ := h
  have l41 := W.l41
  refine ⟨_, pss_cons (ps_if (pt_cmpR op_eq (pv 1) (pe_glob (v := .str dotS) (by rfl) gE ⟨_, rfl⟩) (nomark _)) (pss_one (ps_ret (pe_tup pa_nil))) (pss_nil))
      (pss_cons (ps_if (PW.pt (pw_or (pt_cmpR op_eq (pe_callB call_len_str (by rfl) ml PySem.boot_len (pa_cons (pv 1) (pa_nil))) (pe_int) (nomark _)) (pw_or1 (pt_not (pt_val (pe_callB (call_all rfl) (by rfl) ma b_all (pa_cons (pe_compStr (M := NRw) rfl (CompScope.of (defScope sRW) NRw rfl rfl rfl (by decide +kernel) (by decide +kernel) (by decide +kernel) rfl (by decide +kernel)) ndRw rfl (pv 1) mo_var (fun cl C s0 H0 fp => ⟨pts_nil, pe_cmpR (op_inK K) (pv 0) (pv 1) rfl⟩)) (pa_nil)))))))) (pss_one (ps_dead)) (pss_nil))
      (pss_one (ps_ret (pe_callTy call_tuple_of (by rfl) mt b_tuple (pa_cons (pe_compStr (M := NRw) rfl (CompScope.of (defScope sRW) NRw rfl rfl rfl (by decide +kernel) (by decide +kernel) (by decide +kernel) rfl (by decide +kernel)) ndRw rfl (pv 1) mo_var (fun cl C s0 H0 fp => ⟨pts_nil, pe_bmT PySem.F.slot_tuple_index PySem.F.type_tuple_index (mt_tindex K) (pv 1) (pa_cons (pv 0) (pa_nil))⟩)) (pa_nil)))))), ?_⟩
  obtain ⟨cs, e1, e2, e3⟩ := wt_cps os W.ok
  refine ⟨_, rfl, rfl, _, rfl, ite2 (fun c => ?_) (fun c => ?_)⟩
  · have ez : wtS sg ns = dotS := V.str.inj (of_decide_eq_true c)
    have e : ns = [] := by
      by_cases ne : ns = []
      · exact ne
      · exfalso
        unfold wtS at ez
        rw [if_neg ne] at ez
        rw [ez] at e1
        have h0 : cs[0]? = some 46 := by rw [← e1]; decide +kernel
        obtain ⟨x, _, _, h1, h2⟩ := e3 0 46 h0
        omega
    subst e
    exact ⟨(by show 0 ≤ sizeLine; decide), fun p hp => qq p _ (same_newO hp _) upd_same⟩
  have ne : ns ≠ [] := fun e => c (decide_eq_true (by unfold wtS; rw [if_pos e]))
  have ew : wtS sg ns = Str.join Str.empty (ns.map (sgn sg)) := by unfold wtS; rw [if_neg ne]
  rw [← ew] at e1
  generalize wtS sg ns = z at e1 ⊢
  have lz : z.length = ns.length := by
    have : z.cps.toList.length = z.length := Array.length_toList
    rw [← this, e1, e2]
  have sz : z.cps.size = ns.length := lz
  have np : 0 < ns.length := List.length_pos_iff.mpr ne
  have az : Asc z := asc_is fun c hc => by
    rw [e1] at hc
    obtain ⟨i, hi⟩ := List.mem_iff_getElem?.mp hc
    obtain ⟨x, _, _, h1, h2⟩ := e3 i c hi
    omega
  refine ⟨_, rfl, z, rfl, ok200 (by omega), rfl, _, rfl, ?_⟩
  rw [decide_eq_false (fun h => by have := V.int.inj h; omega)]
  refine iteF ?_
  refine ⟨_, rfl, z, rfl, az, fun d hd => ?_⟩
  refine ⟨fun i H' => Same H H' ∧ H' d = some (.lst ((List.replicate i true).map V.bl)), ⟨same_newO hd _, upd_same⟩, fun i c H' hc hP => ?_, fun H1 hP => ?_⟩
  · obtain ⟨s5, hz⟩ := hP
    rw [e1] at hc
    have il := (List.getElem?_eq_some_iff.mp hc).1
    obtain ⟨x, hx, ex, _⟩ := e3 i c hc
    have hin := (sgn_at (W.ok x (List.mem_of_getElem? hx))).2.1
    rw [ex] at hin
    refine turn_all ⟨_, rfl, _, rfl, a, _, rfl, .inr (SqT.of (s5 _ _ ha)), rfl, flat_strs _, _, hz, ?_, same_upd hd s5, ?_⟩
    · rw [List.length_map, List.length_replicate]; exact small1000 (by omega)
    · rw [upd_same, List.replicate_succ', List.map_append]
      show some (HO.lst (_ ++ [V.bl (inV _ _)])) = _
      rw [in_strs, decide_eq_true hin]
      rfl
  obtain ⟨s5, hz⟩ := hP
  refine ⟨d, _, rfl, hz, _, rfl, ?_⟩
  rw [all_true]
  refine iteF ?_
  refine ⟨_, rfl, z, rfl, az, fun d2 hd2 => ?_⟩
  refine ⟨fun i H' => Same H1 H' ∧ H' d2 = some (.lst ((ns.take i).map V.int)), ⟨same_newO hd2 _, upd_same⟩, fun i c H' hc hP => ?_, fun H2 hP => ?_⟩
  · obtain ⟨s6, hz⟩ := hP
    rw [e1] at hc
    have il := (List.getElem?_eq_some_iff.mp hc).1
    obtain ⟨x, hx, ex, _⟩ := e3 i c hc
    have hx0 := W.ok x (List.mem_of_getElem? hx)
    obtain ⟨h1, h2, _⟩ := sgn_at hx0
    have ei : ((sg.idxOf (⟨#[c]⟩ : Str) : Nat) : Int) = x := by
      rw [← ex]
      have : sg.idxOf (sgn sg x) = x.toNat := by
        obtain ⟨hl, he⟩ := List.getElem?_eq_some_iff.mp h1
        rw [← he]
        exact nd.idxOf_getElem _ hl
      omega
    have ha2 := s6 _ _ (s5 _ _ ha)
    refine turn_all ⟨_, rfl, ⟨a, _, rfl, ha2⟩, _, rfl, a, sg, ⟨#[c]⟩, rfl, rfl, SqT.of ha2, by rw [← ex]; exact h2, _, hz, ?_, same_upd hd2 s6, ?_⟩
    · rw [List.length_map, List.length_take]; exact small1000 (by omega)
    · rw [upd_same, List.take_add_one, hx, List.map_append, ei]; rfl
  obtain ⟨s6, hz⟩ := hP
  rw [sz, List.take_length] at hz
  exact ⟨d2, _, rfl, .inl ⟨SqL.of hz, fun p hp => qq p _ ((s5.trans s6).trans (same_newO hp _)) upd_same⟩⟩
abbrev NLd : List Str := ["cell", "letters", "word", "rest", "k"]
abbrev PLd : List Str := ["cell", "letters"]
def spLd : Sp := fun vs H Q _ => ∃ c L : Int, vs = [.int c, .int L] ∧ 2 ≤ L ∧ L ≤ 6 ∧ ∀ (p : Addr) (ns : List Int) H', Same H H' → H' p = some (.tup (ns.map V.int)) → ns.length ≤ 40 → (∀ x ∈ ns, 0 ≤ x ∧ x < L) → Q (.ref p) H'
theorem scLd : FnScope NLd PLd (defScope sWord) := ⟨rfl, rfl, rfl, by decide +kernel, rfl, by decide +kernel, by decide +kernel⟩
theorem ok_ld (F : Fun K "_law_word" "_law_word" sWord f fd) (mr : mg "range" = none) (mt : mg "tuple" = none) : FnOk P w K mg base CX0 1 f fd PLd spLd := by
  refine F.ok (k := 0) scLd (fun vs H Q E h => ?_) (fun cdv A outer s H vs Q E hr h => ?_)
  · obtain ⟨c, L, rfl, _⟩ := h
    rfl
  obtain ⟨c, L, rfl, L2, L6, qq⟩ := h
  refine ⟨_, pss_cons (ps_set (i := 2) scLd.nd rfl (Or.inl rfl) (pe_lst (pa_nil)))
      (pss_cons (ps_set (i := 3) scLd.nd rfl (Or.inl rfl) (pe_op op_mod (pe_op op_fdiv (pv 0) (pe_int)) (pe_op op_pow pe_int pe_int)))
      (pss_cons (ps_for PassesOwn.never rfl (pi_range1 (by rfl) mr (pa_cons (pe_op op_mod (pv 0) (pe_int)) (pa_nil))) (pg_name (i := 4) scLd.nd rfl (Or.inl rfl)) (pss_cons (ps_expr (pe_bm PySem.F.plainAttrs_list PySem.F.slot_list_append PySem.F.type_list_append mt_append (pv 2) (pa_cons (pe_op op_mod (pv 3) (pv 1)) (pa_nil))))
      (pss_one (ps_set (i := 3) scLd.nd rfl (Or.inl rfl) (pe_op op_fdiv (pv 3) (pv 1))))))
      (pss_one (ps_ret (pe_callTy call_tuple_of (by rfl) mt b_tuple (pa_cons (pv 2) (pa_nil))))))), ?_⟩
  refine ⟨(by show 0 ≤ sizeLine; decide), fun l hl => ?_⟩
  have s1 := same_newO hl (.lst [])
  have g1 : upd H l (.lst []) l = some (.lst (([] : List Int).map V.int)) := upd_same
  generalize upd H l (.lst []) = H1 at s1 g1 ⊢
  refine ⟨_, rfl, _, _, rfl, rfl, ⟨by decide, by decide⟩, _, _, rfl, rfl, ⟨by decide, by decide, by decide⟩, _, _, rfl, rfl, (by show (0 : Int) < _; decide), ?_⟩
  have m0 := Int.emod_nonneg c (show (41 : Int) ≠ 0 by decide)
  have m41 := Int.emod_lt_of_pos c (show (0 : Int) < 41 by decide)
  refine ⟨_, rfl, _, _, rfl, rfl, (by show (0 : Int) < _; decide), _, rfl, by omega, by omega, ?_⟩
  refine for_range (fun i σ H' => Same H H' ∧ ∃ (ns : List Int) (r : Int) (x4 : Option V), σ = [some (.int c), some (.int L), some (.ref l), some (.int r), x4] ∧ H' l = some (.lst (ns.map V.int)) ∧ ns.length = i ∧ ∀ x ∈ ns, 0 ≤ x ∧ x < L) ⟨s1, [], _, _, rfl, g1, rfl, fun x hx => by cases hx⟩ (fun i σ H2 hi hP => ?_) (fun σ H2 hP => ?_)
  · obtain ⟨s2, ns, r, x4, rfl, hz, ln, ok⟩ := hP
    have r0 := Int.emod_nonneg r (show L ≠ 0 by omega)
    have rL := Int.emod_lt_of_pos r (show 0 < L by omega)
    refine ⟨_, rfl, .inl ⟨rfl, _, SqL.of hz⟩, _, rfl, _, rfl, _, _, rfl, rfl, (by show (0 : Int) < L; omega), l, _, _, rfl, rfl, hz, by rw [List.length_map]; exact small1000 (by omega), ?_⟩
    refine ⟨_, rfl, _, rfl, _, _, rfl, rfl, (by show (0 : Int) < L ∧ L < _; omega), same_upd hl s2, ns ++ [r % L], _, _, rfl, by rw [upd_same, List.map_append]; rfl, by rw [List.length_append, ln]; rfl, fun x hx => ?_⟩
    rcases List.mem_append.mp hx with h | h
    · exact ok x h
    · rw [List.mem_singleton.mp h]; exact ⟨r0, rL⟩
  obtain ⟨s2, ns, r, x4, rfl, hz, ln, ok⟩ := hP
  exact ⟨_, rfl, l, _, rfl, .inl ⟨SqL.of hz, fun p hp => qq p ns _ (s2.trans (same_newO hp _)) upd_same (by omega) ok⟩⟩
end
end K91
set_option Elab.async false
set_option linter.all false
set_option maxRecDepth 100000
namespace K91
open PySem L2
def rIsiQ (K : PySem.W.Frag) : List V → Hp → VK → Prop := fun xs H Q => ∃ a ys, xs = [.ref a, .ty "tuple"] ∧ SqT K H a ys ∧ Q (.bl true) H
theorem isiQ {X : Cx} (K : PySem.W.Frag) (hK : X.K = K := by rfl) : CallR X (.builtin "isinstance") (rIsiQ K) := by
  subst hK
  intro pins s σ H xs us Q I r h
  obtain ⟨a, ys, rfl, e, q⟩ := h
  obtain ⟨u, v, rfl, r1, r2⟩ := r.two
  cases r2; cases r1
  obtain ⟨its, _, ⟨o, h1, h2, _⟩, _⟩ := I.tuple e
  exact PySem.W.kia_one PySem.W.kitx_tuple I.kIn ⟨o, h1, h2⟩ (kit_tuple_tuple _) (fun z => nomatch z) fun tk => ⟨.bl true, H, I.tok tk, rfl, q⟩
theorem kit_str (K : PySem.W.Frag) : PySem.W.kitOne K (.type "str") (.type "str") = some true := by rfl
theorem sg_ok (c : Int) (n : Nat) : ∀ z ∈ sgL c n, Nm 1 z := fun z hz => by
  obtain ⟨k, _, rfl⟩ := List.mem_map.mp hz
  refine ⟨?_, ?_, ?_⟩ <;> rw [S_cps]
  · simp
  · simp
  · intro x hx
    rw [List.mem_singleton.mp hx]
    omega
theorem sg_nd (c : Int) {n : Nat} (h : n ≤ 6) : (sgL c n).Nodup := by
  unfold sgL List.Nodup
  rw [List.pairwise_map]
  refine List.Pairwise.imp_of_mem ?_ (List.nodup_range (n := n))
  intro i j hi hj ne e
  have := (List.cons.inj (S_inj e)).1
  have := List.mem_range.mp hi
  have := List.mem_range.mp hj
  omega
theorem bk_same {H H' : Hp} {a : Addr} {sg nm : List Str} {ps ws : List Int} (s : Same H H') (h : BkAt H a sg ps nm ws) : BkAt H' a sg ps nm ws := by
  obtain ⟨b1, b2, b3, b4, h0, h1, h2, h3, h4⟩ := h
  exact ⟨b1, b2, b3, b4, s _ _ h0, s _ _ h1, s _ _ h2, s _ _ h3, s _ _ h4⟩
section
variable {P : Program} {w : World} {K : PySem.W.Frag} {mg : Str → Option Value} {base : Heap} {f : Addr} {fd : FuncData}
abbrev NSm : List Str := ["found", "book", "number"]
abbrev PSm : List Str := ["found", "book"]
def spSm : Sp := fun vs H Q _ => ∃ (a b : Addr) (sg : List Str) (ps : List Int) (nm : List Str) (ws : List Int), vs = [.ref a, .ref b] ∧ BkAt H a sg ps nm ws ∧ BkAt H b sg ps nm ws ∧ Bk sg ps nm ws ∧ ∀ H', Same H H' → Q (.bl true) H'
theorem scSm : FnScope NSm PSm (defScope sSame) := ⟨rfl, rfl, rfl, by decide +kernel, rfl, by decide +kernel, by decide +kernel⟩
theorem ndSm : (("part" : Str) :: NSm).Nodup := by decide +kernel
set_option maxHeartbeats 8000000 in
theorem ok_sm (F : Fun K "_law_same" "_law_same" sSame f fd) (GH : Fns P w K mg base ["found"] "_law_whole" spWhole 1) (ml : mg "len" = none) (mi : mg "isinstance" = none) (mt : mg "tuple" = none) (ma : mg "all" = none) : FnOk P w K mg base CX0 2 f fd PSm spSm := by
  refine F.ok (k := 1) scSm (fun vs H Q E h => ?_) (fun cdv A outer s H vs Q E hr h => ?_)
  · obtain ⟨a, b, sg, ps, nm, ws, rfl, _⟩ := h
    rfl
  obtain ⟨a, b, sg, ps, nm, ws, rfl, ha, hb, B, qq⟩ := h
  refine ⟨_, pss_cons (ps_if (PW.pt (pw_or (pt_not (pt_val (pe_callB (isiQ K) (by rfl) mi b_isi (pa_cons (pv 0) (pa_cons (pe_bltn (v := .ty "tuple") (by rfl) mt b_tuple rfl) (pa_nil)))))) (pw_or (pt_cmpR op_ne (pe_callB call_len_seq (by rfl) ml PySem.boot_len (pa_cons (pv 0) (pa_nil))) (pe_int) (nomark _)) (pw_or1 (pt_not (pt_val (pe_callB (call_all rfl) (by rfl) ma b_all (pa_cons (pe_compT (M := NSm) rfl (CompScope.of (defScope sSame) NSm rfl rfl rfl (by decide +kernel) (by decide +kernel) (by decide +kernel) rfl (by decide +kernel)) ndSm rfl (pv 0) mo_var (fun cl C s0 H0 fp => ⟨pts_nil, pe_callB (isiQ K) (by rfl) mi b_isi (pa_cons (pv 0) (pa_cons (pe_bltn (v := .ty "tuple") (by rfl) mt b_tuple rfl) (pa_nil)))⟩)) (pa_nil))))))))) (pss_one (ps_ret pe_bl)) (pss_nil))
      (pss_cons (ps_for PassesOwn.never rfl (pi_tup (pe_op op_catG (pe_ix ix_tup (pv 0) (pe_int) (fun _ _ => rfl)) (pe_ix ix_tup (pv 0) (pe_int) (fun _ _ => rfl)))) (pg_name (i := 2) scSm.nd rfl (Or.inl rfl)) (pss_one (ps_if (pt_not (pt_val (pe_call GH.ok hr (by rfl) GH.m GH.kp GH.b .nil pass0 (pa_cons (pv 2) (pa_nil))))) (pss_one (ps_ret pe_bl)) (pss_nil))))
      (pss_one (ps_ret (pe_cmpR (op_eqBk (hu4 hr)) (pv 0) (pv 1) (nomark _))))), ?_⟩
  obtain ⟨b1, b2, b3, b4, h0, h1, h2, h3, h4⟩ := id ha
  have l6 := B.l6
  have n24 := B.n24
  refine ⟨_, rfl, a, _, rfl, SqT.of h0, _, rfl, iteF ?_⟩
  refine ⟨_, rfl, a, _, rfl, .inr (SqT.of h0), rfl, _, rfl, iteNS rfl ?_⟩
  refine ⟨_, rfl, a, _, rfl, SqT.of h0, fun d hd => ?_⟩
  have each : ∀ (i : Nat) x, [V.ref b1, .ref b2, .ref b3, .ref b4][i]? = some x → ∃ p ys, x = .ref p ∧ H p = some (.tup ys) := fun i x hx => by
    match i, hx with
    | 0, hx => exact ⟨b1, _, (Option.some.inj hx).symm, h1⟩
    | 1, hx => exact ⟨b2, _, (Option.some.inj hx).symm, h2⟩
    | 2, hx => exact ⟨b3, _, (Option.some.inj hx).symm, h3⟩
    | 3, hx => exact ⟨b4, _, (Option.some.inj hx).symm, h4⟩
    | i + 4, hx => cases hx
  refine ⟨fun i H' => Same H H' ∧ H' d = some (.lst ((List.replicate i true).map V.bl)), ⟨same_newO hd _, upd_same⟩, fun i H' _ hP => SqT.of (hP.1 _ _ h0), fun i x H' hx hP => ?_, fun H1 hP => ?_⟩
  · obtain ⟨s5, hz⟩ := hP
    obtain ⟨p, ys, rfl, hp⟩ := each i x hx
    have il : i < 4 := (List.getElem?_eq_some_iff.mp hx).1
    refine turn_all ⟨_, rfl, p, _, rfl, SqT.of (s5 _ _ hp), _, hz, ?_, same_upd hd s5, ?_⟩
    · rw [List.length_map, List.length_replicate]; exact small1000 (by omega)
    · rw [upd_same, List.replicate_succ', List.map_append]; rfl
  obtain ⟨s5, hz⟩ := hP
  refine ⟨d, _, rfl, hz, _, rfl, ?_⟩
  rw [all_true]
  refine iteF ?_
  refine ⟨_, rfl, a, _, _, _, rfl, rfl, SqT.of (s5 _ _ h0), (rfl : atI [V.ref b1, .ref b2, .ref b3, .ref b4] 1 = _), _, rfl, a, _, _, _, rfl, rfl, SqT.of (s5 _ _ h0), (rfl : atI [V.ref b1, .ref b2, .ref b3, .ref b4] 3 = _), b2, b4, _, _, rfl, rfl, s5 _ _ h2, s5 _ _ h4, Nat.le_of_lt (small1000 (by rw [List.length_map, List.length_map]; omega)), fun p H2 s6 hp => ?_⟩
  rw [← List.map_append] at hp
  refine ⟨p, rfl, ⟨_, SqT.of hp⟩, ?_⟩
  refine for_tup (xs := (ps ++ ws).map V.int) (fun i σ H' => H2 = H' ∧ ∃ x2 : Option V, σ = [some (.ref a), some (.ref b), x2]) ⟨rfl, _, rfl⟩ (fun i σ H' _ hP => by rw [← hP.1]; exact SqT.of hp) (fun i x σ H' hx hP => ?_) (fun σ H' hP => ?_)
  · obtain ⟨rfl, x2, rfl⟩ := hP
    rw [List.getElem?_map] at hx
    obtain ⟨n, _, rfl⟩ := Option.map_eq_some_iff.mp hx
    exact ⟨_, rfl, n, rfl, _, rfl, iteF ⟨rfl, _, rfl⟩⟩
  obtain ⟨rfl, x2, rfl⟩ := hP
  have s06 := s5.trans s6
  exact ⟨_, rfl, _, rfl, a, b, sg, ps, nm, ws, rfl, rfl, bk_same s06 ha, bk_same s06 hb, qq H2 s06⟩
abbrev NLw : List Str := ["script", "first", "letters", "many", "signs", "names", "prices", "weights", "book", "text", "turn", "found", "cell", "word", "told", "due"]
def spLaw (K : PySem.W.Frag) : Sp := fun vs H Q _ => ∃ (a : Addr) (ns : List Int), vs = [.ref a] ∧ SqL K H a (ns.map V.int) ∧ ns.length ≤ 63 ∧ ∀ H', Q (.bl true) H'
theorem scLaw : FnScope NLw ["script"] (defScope sLaw) := ⟨rfl, rfl, rfl, by decide +kernel, rfl, by decide +kernel, by decide +kernel⟩
theorem ndLw : (("k" : Str) :: NLw).Nodup := by decide +kernel
theorem ndLl : (("letter" : Str) :: NLw).Nodup := by decide +kernel
set_option maxHeartbeats 16000000 in
theorem ok_law {e : Addr} {ed : FuncData} (F : Fun K "law" "law" sLaw e ed) (GC : Fns P w K mg base ["script", "k"] "_law_cell_at" (spCell K) 4) (GA : Fns P w K mg base ["cell"] "_law_amount" spAmount 4) (GS : Fns P w K mg base PSg "_law_signs" spSg 4) (GN : Fns P w K mg base PNm "_law_names" spNm 4)
    (GB : Fns P w K mg base PBT "book_text" spBT 4) (GX : Fns P w K mg base ["book"] "_law_text" spTx 4) (GR : Fns P w K mg base ["text"] "read_book" spRb 4) (GM : Fns P w K mg base PSm "_law_same" spSm 4) (GD : Fns P w K mg base PLd "_law_word" spLd 4) (GT : Fns P w K mg base NWt "word_text" spWt 4) (GE : Fns P w K mg base NRw "read_word" spRw 4)
    (mr : mg "range" = none) (mt : mg "tuple" = none) (mi : mg "isinstance" = none) (ms : mg "str" = none) (mL : mg "list" = none) : FnOk P w K mg base CX0 5 e ed ["script"] (spLaw K) := by
  refine F.ok (k := 4) scLaw (fun vs H Q E h => ?_) (fun cdv A outer s H vs Q E hr h => ?_)
  · obtain ⟨a, ns, rfl, _⟩ := h
    rfl
  obtain ⟨a, ns, rfl, hS, h63, q⟩ := h
  refine ⟨_, pss_cons (ps_set (i := 1) scLaw.nd rfl (Or.inl rfl) (pe_call GC.ok hr (by rfl) GC.m GC.kp GC.b .nil pass0 (pa_cons (pv 0) (pa_cons (pe_int) (pa_nil)))))
      (pss_cons (ps_set (i := 2) scLaw.nd rfl (Or.inl rfl) (pe_op op_add (pe_int) (pe_op op_mod (pv 1) (pe_int))))
      (pss_cons (ps_set (i := 3) scLaw.nd rfl (Or.inl rfl) (pe_op op_add (pe_int) (pe_op op_mod (pe_op op_fdiv (pv 1) (pe_int)) (pe_int))))
      (pss_cons (ps_set (i := 4) scLaw.nd rfl (Or.inr rfl) (pe_callTy call_tuple_of (by rfl) mt b_tuple (pa_cons (pe_call GS.ok hr (by rfl) GS.m GS.kp GS.b .nil pass0 (pa_cons (pe_call GC.ok hr (by rfl) GC.m GC.kp GC.b .nil pass0 (pa_cons (pv 0) (pa_cons (pe_int) (pa_nil)))) (pa_cons (pv 2) (pa_nil)))) (pa_nil))))
      (pss_cons (ps_set (i := 5) scLaw.nd rfl (Or.inl rfl) (pe_callTy call_tuple_of (by rfl) mt b_tuple (pa_cons (pe_call GN.ok hr (by rfl) GN.m GN.kp GN.b .nil pass0 (pa_cons (pe_call GC.ok hr (by rfl) GC.m GC.kp GC.b .nil pass0 (pa_cons (pv 0) (pa_cons (pe_int) (pa_nil)))) (pa_cons (pv 3) (pa_nil)))) (pa_nil))))
      (pss_cons (ps_set (i := 6) scLaw.nd rfl (Or.inl rfl) (pe_callTy call_tuple_of (by rfl) mt b_tuple (pa_cons (pe_compR1 (M := NLw) rfl (CompScope.of (defScope sLaw) NLw rfl rfl rfl (by decide +kernel) (by decide +kernel) (by decide +kernel) rfl (by decide +kernel)) ndLw rfl (by rfl) mr (pa_cons (pv 2) pa_nil) (mo_cons mo_var mo_nil) (fun cl C s0 H0 fp => ⟨pts_nil, pe_call GA.ok hr (by rfl) GA.m GA.kp GA.b .nil pass0 (pa_cons (pe_call GC.ok hr (by rfl) GC.m GC.kp GC.b .nil pass0 (pa_cons (pv 1) (pa_cons (pe_op op_add (pe_int) (pv 0)) (pa_nil)))) (pa_nil))⟩)) (pa_nil))))
      (pss_cons (ps_set (i := 7) scLaw.nd rfl (Or.inl rfl) (pe_callTy call_tuple_of (by rfl) mt b_tuple (pa_cons (pe_compR1 (M := NLw) rfl (CompScope.of (defScope sLaw) NLw rfl rfl rfl (by decide +kernel) (by decide +kernel) (by decide +kernel) rfl (by decide +kernel)) ndLw rfl (by rfl) mr (pa_cons (pv 3) pa_nil) (mo_cons mo_var mo_nil) (fun cl C s0 H0 fp => ⟨pts_nil, pe_call GA.ok hr (by rfl) GA.m GA.kp GA.b .nil pass0 (pa_cons (pe_call GC.ok hr (by rfl) GC.m GC.kp GC.b .nil pass0 (pa_cons (pv 1) (pa_cons (pe_op op_add (pe_int) (pv 0)) (pa_nil)))) (pa_nil))⟩)) (pa_nil))))
      (pss_cons (ps_set (i := 8) scLaw.nd rfl (Or.inl rfl) (pe_tup (pa_cons (pv 4) (pa_cons (pv 6) (pa_cons (pv 5) (pa_cons (pv 7) (pa_nil)))))))
      (pss_cons (ps_set (i := 9) scLaw.nd rfl (Or.inl rfl) (pe_call GB.ok hr (by rfl) GB.m GB.kp GB.b .nil pass0 (pa_cons (pv 4) (pa_cons (pv 6) (pa_cons (pv 5) (pa_cons (pv 7) (pa_nil)))))))
      (pss_cons (ps_if (PW.pt (pw_or (pt_not (pt_val (pe_callB call_isi (by rfl) mi b_isi (pa_cons (pv 9) (pa_cons (pe_bltn (v := .ty "str") (by rfl) ms b_str rfl) (pa_nil)))))) (pw_or1 (pt_cmpR op_ne (pv 9) (pe_call GX.ok hr (by rfl) GX.m GX.kp GX.b .nil pass0 (pa_cons (pv 8) (pa_nil))) (nomark _))))) (pss_one (ps_ret pe_bl)) (pss_nil))
      (pss_cons (ps_for PassesOwn.never rfl (pi_range1 (by rfl) mr (pa_cons (pe_int) (pa_nil))) (pg_name (i := 10) scLaw.nd rfl (Or.inl rfl)) (pss_cons (ps_set (i := 11) scLaw.nd rfl (Or.inl rfl) (pe_call GR.ok hr (by rfl) GR.m GR.kp GR.b .nil pass0 (pa_cons (pv 9) (pa_nil))))
      (pss_one (ps_if (PW.pt (pw_or (pt_not (pt_val (pe_call GM.ok hr (by rfl) GM.m GM.kp GM.b .nil pass0 (pa_cons (pv 11) (pa_cons (pv 8) (pa_nil)))))) (pw_or1 (pt_cmpR op_ne (pe_call GB.ok hr (by rfl) GB.m GB.kp GB.b .nil pass0 (pa_cons (pe_ix ix_tup (pv 11) (pe_int) (fun _ _ => rfl)) (pa_cons (pe_ix ix_tup (pv 11) (pe_int) (fun _ _ => rfl)) (pa_cons (pe_ix ix_tup (pv 11) (pe_int) (fun _ _ => rfl)) (pa_cons (pe_ix ix_tup (pv 11) (pe_int) (fun _ _ => rfl)) (pa_nil)))))) (pv 9) (nomark _))))) (pss_one (ps_ret pe_bl)) (pss_nil)))))
      (pss_cons (ps_for PassesOwn.never rfl (pi_list (pe_op op_cat (pe_lst (pa_cons (pe_int) (pa_nil))) (pe_callTy call_list_of (by rfl) mL b_list (pa_cons (pe_slice sl_list (pv 0) (po_some pe_int) po_none) (pa_nil))))) (pg_name (i := 12) scLaw.nd rfl (Or.inl rfl)) (pss_cons (ps_set (i := 13) scLaw.nd rfl (Or.inl rfl) (pe_call GD.ok hr (by rfl) GD.m GD.kp GD.b .nil pass0 (pa_cons (pv 12) (pa_cons (pv 2) (pa_nil)))))
      (pss_cons (ps_set (i := 14) scLaw.nd rfl (Or.inl rfl) (pe_call GT.ok hr (by rfl) GT.m GT.kp GT.b .nil pass0 (pa_cons (pv 4) (pa_cons (pv 13) (pa_nil)))))
      (pss_cons (ps_set (i := 15) scLaw.nd rfl (Or.inl rfl) (pe_bmS PySem.F.slot_str_join PySem.F.type_str_join mt_join pe_str (pa_cons (pe_compT (M := NLw) rfl (CompScope.of (defScope sLaw) NLw rfl rfl rfl (by decide +kernel) (by decide +kernel) (by decide +kernel) rfl (by decide +kernel)) ndLl rfl (pv 13) mo_var (fun cl C s0 H0 fp => ⟨pts_nil, pe_ix (ixT K) (pv 5) (pv 0) (fun _ _ => rfl)⟩)) (pa_nil))))
      (pss_cons (ps_mid (ps_if (pt_cmpR op_eq (pv 15) (pe_str) (nomark _)) (pss_one (ps_set (i := 15) scLaw.nd rfl (Or.inl rfl) (pe_str))) (pss_nil)))
      (pss_one (ps_if (PW.pt (pw_or (pt_not (pt_val (pe_callB call_isi (by rfl) mi b_isi (pa_cons (pv 14) (pa_cons (pe_bltn (v := .ty "str") (by rfl) ms b_str rfl) (pa_nil)))))) (pw_or (pt_cmpR op_ne (pv 14) (pv 15) (nomark _)) (pw_or1 (pt_cmpR (op_neTI (hu4 hr)) (pe_call GE.ok hr (by rfl) GE.m GE.kp GE.b .nil pass0 (pa_cons (pv 4) (pa_cons (pv 14) (pa_nil)))) (pv 13) (nomark _)))))) (pss_one (ps_ret pe_bl)) (pss_nil))))))))
      (pss_one (ps_ret (pe_bl)))))))))))))), ?_⟩
  refine ⟨_, rfl, a, ns, 0, rfl, hS, by decide, fun first => ?_⟩
  refine ⟨_, rfl, _, _, rfl, rfl, (by show (0 : Int) < _; decide), _, _, rfl, rfl, ?_⟩
  refine ⟨_, rfl, _, _, rfl, rfl, ⟨by decide, by decide⟩, _, _, rfl, rfl, (by show (0 : Int) < _; decide), _, _, rfl, rfl, ?_⟩
  dsimp only
  obtain ⟨L, eL, L2, L6⟩ : ∃ L : Nat, 2 + first % 5 = (L : Int) ∧ 2 ≤ L ∧ L ≤ 6 := ⟨(2 + first % 5).toNat, by omega, by omega, by omega⟩
  obtain ⟨M, eM, M1, M24⟩ : ∃ M : Nat, 1 + first / 5 % 24 = (M : Int) ∧ 1 ≤ M ∧ M ≤ 24 := ⟨(1 + first / 5 % 24).toNat, by omega, by omega, by omega⟩
  rw [eL, eM]
  refine ⟨_, rfl, a, ns, 1, rfl, hS, by decide, fun c1 => ?_⟩
  refine ⟨_, rfl, c1, L, rfl, by omega, fun d1 H1 s1 _ g1 => ?_⟩
  refine ⟨d1, _, rfl, .inl ⟨SqL.of g1, fun pS hpS => ?_⟩⟩
  have s2 := s1.trans (same_newO hpS (.tup ((sgL c1 L).map V.str)))
  have gS : upd H1 pS (.tup ((sgL c1 L).map V.str)) pS = some (.tup ((sgL c1 L).map V.str)) := upd_same
  have lS : (sgL c1 L).length = L := by unfold sgL; rw [List.length_map, List.length_range]
  have oS := sg_ok c1 L
  have dS := sg_nd c1 L6
  generalize upd H1 pS (.tup ((sgL c1 L).map V.str)) = H2 at s2 gS ⊢
  generalize sgL c1 L = sg at gS lS oS dS
  refine ⟨_, rfl, a, ns, 2, rfl, s2.seq hS, by decide, fun c2 => ?_⟩
  refine ⟨_, rfl, c2, M, rfl, M1, M24, fun d2 nm H3 s3 _ g3 lN dN oN => ?_⟩
  refine ⟨d2, _, rfl, .inl ⟨SqL.of g3, fun pN hpN => ?_⟩⟩
  have s4 := s3.trans (same_newO hpN (.tup (nm.map V.str)))
  have gN : upd H3 pN (.tup (nm.map V.str)) pN = some (.tup (nm.map V.str)) := upd_same
  generalize upd H3 pN (.tup (nm.map V.str)) = H4 at s4 gN ⊢
  have s04 := s2.trans s4
  have gS4 := s4 _ _ gS
  refine ⟨_, rfl, L, rfl, by omega, by omega, fun d3 hd3 => ?_⟩
  rw [Int.toNat_natCast]
  refine ⟨fun i H' => Same H4 H' ∧ ∃ ps : List Int, ps.length = i ∧ Bo ps ∧ H' d3 = some (.lst (ps.map V.int)), ⟨same_newO hd3 _, [], rfl, (fun x hx => by cases hx), upd_same⟩, fun i H' hi hP => ?_, fun H5 hP => ?_⟩
  · obtain ⟨sm, ps, ln, bo, hz⟩ := hP
    refine turn_all ⟨_, rfl, _, rfl, _, _, rfl, rfl, a, ns, _, rfl, (s04.trans sm).seq hS, by omega, fun c => ?_⟩
    refine ⟨c, rfl, fun v v1 v30 => ⟨_, hz, by rw [List.length_map]; exact small1000 (by omega), same_upd hd3 sm, ps ++ [v], by rw [List.length_append, ln]; rfl, fun x hx => ?_, by rw [upd_same, List.map_append]; rfl⟩⟩
    rcases List.mem_append.mp hx with h | h
    · exact bo x h
    · rw [List.mem_singleton.mp h]; exact ⟨v1, v30⟩
  obtain ⟨s5, ps, lps, bps, gd3⟩ := hP
  refine ⟨d3, _, rfl, .inl ⟨SqL.of gd3, fun pP hpP => ?_⟩⟩
  have s6 := s5.trans (same_newO hpP (.tup (ps.map V.int)))
  have gP : upd H5 pP (.tup (ps.map V.int)) pP = some (.tup (ps.map V.int)) := upd_same
  generalize upd H5 pP (.tup (ps.map V.int)) = H6 at s6 gP ⊢
  have s06 := s04.trans s6
  refine ⟨_, rfl, M, rfl, by omega, by omega, fun d4 hd4 => ?_⟩
  rw [Int.toNat_natCast]
  refine ⟨fun i H' => Same H6 H' ∧ ∃ ws : List Int, ws.length = i ∧ Bo ws ∧ H' d4 = some (.lst (ws.map V.int)), ⟨same_newO hd4 _, [], rfl, (fun x hx => by cases hx), upd_same⟩, fun i H' hi hP => ?_, fun H7 hP => ?_⟩
  · obtain ⟨sm, ws, ln, bo, hz⟩ := hP
    refine turn_all ⟨_, rfl, _, rfl, _, _, rfl, rfl, a, ns, _, rfl, (s06.trans sm).seq hS, by omega, fun c => ?_⟩
    refine ⟨c, rfl, fun v v1 v30 => ⟨_, hz, by rw [List.length_map]; exact small1000 (by omega), same_upd hd4 sm, ws ++ [v], by rw [List.length_append, ln]; rfl, fun x hx => ?_, by rw [upd_same, List.map_append]; rfl⟩⟩
    rcases List.mem_append.mp hx with h | h
    · exact bo x h
    · rw [List.mem_singleton.mp h]; exact ⟨v1, v30⟩
  obtain ⟨s7, ws, lws, bws, gd4⟩ := hP
  refine ⟨d4, _, rfl, .inl ⟨SqL.of gd4, fun pW hpW => ?_⟩⟩
  have s8 := s7.trans (same_newO hpW (.tup (ws.map V.int)))
  have gW : upd H7 pW (.tup (ws.map V.int)) pW = some (.tup (ws.map V.int)) := upd_same
  generalize upd H7 pW (.tup (ws.map V.int)) = H8 at s8 gW ⊢
  have s08 := s06.trans s8
  have gS8 := s8 _ _ (s6 _ _ gS4)
  have gN8 := s8 _ _ (s6 _ _ gN)
  have gP8 := s8 _ _ gP
  have B : Bk sg ps nm ws := ⟨by omega, by omega, by omega, by omega, by omega, by omega, oS, oN, dS, dN, bps, bws⟩
  refine ⟨_, rfl, _, rfl, _, rfl, _, rfl, (by show 4 ≤ sizeLine; decide), fun bk hbk => ?_⟩
  have s9 := same_newO hbk (.tup [.ref pS, .ref pP, .ref pN, .ref pW])
  have gB : BkAt (upd H8 bk (.tup [.ref pS, .ref pP, .ref pN, .ref pW])) bk sg ps nm ws := ⟨pS, pP, pN, pW, upd_same, s9 _ _ gS8, s9 _ _ gP8, s9 _ _ gN8, s9 _ _ gW⟩
  generalize upd H8 bk (.tup [.ref pS, .ref pP, .ref pN, .ref pW]) = H9 at s9 gB ⊢
  have s09 := s08.trans s9
  refine ⟨_, rfl, _, rfl, _, rfl, _, rfl, pS, pP, pN, pW, sg, ps, nm, ws, rfl, s9 _ _ gS8, s9 _ _ gP8, s9 _ _ gN8, s9 _ _ gW, B, fun HA sA => ?_⟩
  refine ⟨_, rfl, _, _, _, _, rfl, .str _, kit_str _, _, rfl, iteF ?_⟩
  refine ⟨_, rfl, _, rfl, bk, sg, ps, nm, ws, rfl, bk_same sA gB, B, fun HB sB => ?_⟩
  refine ⟨rfl, _, rfl, iteNS rfl ?_⟩
  have s9B := sA.trans sB
  have s0B := s09.trans s9B
  have gBB := bk_same s9B gB
  have gSB := s9B _ _ (s9 _ _ gS8)
  refine ⟨2, rfl, by decide, by decide, ?_⟩
  refine for_range (n := 2) (fun i σ H' => Same HB H' ∧ ∃ x10 x11 : Option V, σ = [some (.ref a), some (.int first), some (.int L), some (.int M), some (.ref pS), some (.ref pN), some (.ref pP), some (.ref pW), some (.ref bk), some (.str (bookS sg ps nm ws)), x10, x11, none, none, none, none]) ⟨Same.refl _, _, _, rfl⟩ (fun i σ HC hi hP => ?_) (fun σ HC hP => ?_)
  · obtain ⟨sC, x10, x11, rfl⟩ := hP
    refine ⟨_, rfl, sg, ps, nm, ws, rfl, B, fun p HD sD bD => ?_⟩
    have sBD := sC.trans sD
    refine ⟨_, rfl, _, rfl, p, bk, sg, ps, nm, ws, rfl, bD, bk_same sBD gBB, B, fun HE sE => ⟨_, rfl, iteF ?_⟩⟩
    obtain ⟨b1, b2, b3, b4, h0, h1, h2, h3, h4⟩ := bk_same sE bD
    refine ⟨_, rfl, p, _, _, _, rfl, rfl, SqT.of h0, (rfl : atI [V.ref b1, .ref b2, .ref b3, .ref b4] 0 = _), _, rfl, p, _, _, _, rfl, rfl, SqT.of h0, (rfl : atI [V.ref b1, .ref b2, .ref b3, .ref b4] 1 = _), _, rfl, p, _, _, _, rfl, rfl, SqT.of h0, (rfl : atI [V.ref b1, .ref b2, .ref b3, .ref b4] 2 = _), _, rfl, p, _, _, _, rfl, rfl, SqT.of h0, (rfl : atI [V.ref b1, .ref b2, .ref b3, .ref b4] 3 = _), b1, b2, b3, b4, sg, ps, nm, ws, rfl, h1, h2, h3, h4, B, fun HF sF => ?_⟩
    exact ⟨_, rfl, rfl, _, rfl, iteNS rfl ⟨(sBD.trans sE).trans sF, _, _, rfl⟩⟩
  obtain ⟨sC, x10, x11, rfl⟩ := hP
  have s0C := s0B.trans sC
  have gSC := sC _ _ gSB
  refine ⟨(by show 1 ≤ sizeLine; decide), fun p3 hp3 => ?_⟩
  have t3 := same_newO hp3 (.lst [.int 0])
  have g3' : upd HC p3 (.lst [.int 0]) p3 = some (.lst [.int 0]) := upd_same
  generalize upd HC p3 (.lst [.int 0]) = J3 at t3 g3' ⊢
  refine ⟨_, rfl, _, rfl, a, _, rfl, (s0C.trans t3).seq hS, fun p4 hp4 => ?_⟩
  obtain ⟨ms, em, lm⟩ := cuts_ints ns (some 33) none
  rw [em]
  have t4 := same_newO hp4 (.lst (ms.map V.int))
  have g4' : upd J3 p4 (.lst (ms.map V.int)) p4 = some (.lst (ms.map V.int)) := upd_same
  generalize upd J3 p4 (.lst (ms.map V.int)) = J4 at t4 g4' ⊢
  refine ⟨p4, _, rfl, .inl (SqL.of g4'), fun p5 hp5 => ?_⟩
  have t5 := same_newO hp5 (.lst (ms.map V.int))
  have g5' : upd J4 p5 (.lst (ms.map V.int)) p5 = some (.lst (ms.map V.int)) := upd_same
  generalize upd J4 p5 (.lst (ms.map V.int)) = J5 at t5 g5' ⊢
  refine ⟨p3, p5, _, _, rfl, rfl, t5 _ _ (t4 _ _ g3'), g5', Nat.le_of_lt (small1000 (by rw [List.length_map]; show 1 + ms.length ≤ 1000; omega)), fun p6 hp6 => ?_⟩
  have t6 := same_newO hp6 (.lst ([.int 0] ++ ms.map V.int))
  have g6' : upd J5 p6 (.lst ([.int 0] ++ ms.map V.int)) p6 = some (.lst ((0 :: ms).map V.int)) := upd_same
  generalize upd J5 p6 (.lst ([.int 0] ++ ms.map V.int)) = J6 at t6 g6' ⊢
  have gSJ := t6 _ _ (t5 _ _ (t4 _ _ (t3 _ _ gSC)))
  generalize (0 :: ms) = cs at g6'
  refine ⟨p6, rfl, ⟨_, SqL.of g6'⟩, ?_⟩
  refine for_list (xs := cs.map V.int) (fun i σ H' => Same J6 H' ∧ ∃ y12 y13 y14 y15 : Option V, σ = [some (.ref a), some (.int first), some (.int L), some (.int M), some (.ref pS), some (.ref pN), some (.ref pP), some (.ref pW), some (.ref bk), some (.str (bookS sg ps nm ws)), x10, x11, y12, y13, y14, y15]) ⟨Same.refl _, _, _, _, _, rfl⟩ (fun i σ H' _ hP => SqL.of (hP.1 _ _ g6')) (fun i x σ J7 hx hP => ?_) (fun σ J7 hP => ?_)
  · obtain ⟨t7, y12, y13, y14, y15, rfl⟩ := hP
    rw [List.getElem?_map] at hx
    obtain ⟨cell, _, rfl⟩ := Option.map_eq_some_iff.mp hx
    refine ⟨_, rfl, _, rfl, cell, L, rfl, by omega, by omega, fun pw wn J8 t8 hw l40 ok => ?_⟩
    have t68 := t7.trans t8
    have W : Wr sg wn := ⟨by omega, fun x hx => by have := ok x hx; rw [lS]; exact this⟩
    refine ⟨_, rfl, _, rfl, pS, pw, sg, wn, rfl, t68 _ _ gSJ, hw, by omega, oS, W, fun J9 t9 => ?_⟩
    have t69 := t68.trans t9
    have hw9 := t9 _ _ hw
    refine ⟨⟨_, rfl⟩, _, rfl, pw, _, rfl, SqT.of hw9, fun d hd => ?_⟩
    refine ⟨fun i H' => Same J9 H' ∧ H' d = some (.lst (((wn.take i).map (sgn sg)).map V.str)), ⟨same_newO hd _, upd_same⟩, fun i H' _ hP => SqT.of (hP.1 _ _ hw9), fun i x H' hx hP => ?_, fun JA hP => ?_⟩
    · obtain ⟨s5, hz⟩ := hP
      rw [List.getElem?_map] at hx
      obtain ⟨n, hn, rfl⟩ := Option.map_eq_some_iff.mp hx
      have il := (List.getElem?_eq_some_iff.mp hn).1
      refine turn_all ⟨_, rfl, _, rfl, pS, _, _, _, rfl, rfl, SqT.of (s5 _ _ (t69 _ _ gSJ)), (sgn_at (W.ok n (List.mem_of_getElem? hn))).2.2, _, hz, ?_, same_upd hd s5, ?_⟩
      · rw [List.length_map, List.length_map, List.length_take]; exact small1000 (by omega)
      · rw [upd_same, List.take_add_one, hn, List.map_append, List.map_append]; rfl
    obtain ⟨tA, hz⟩ := hP
    rw [List.length_map, List.take_length] at hz
    have t6A := t69.trans tA
    refine ⟨Str.empty, d, wn.map (sgn sg), 1, rfl, rfl, hz, fun z hm => ?_, ?_, ?_⟩
    · obtain ⟨x, hx, rfl⟩ := List.mem_map.mp hm
      exact (oS _ (sgn_at (W.ok x hx)).2.1).len
    · have : Str.empty.length = 0 := rfl
      rw [this, List.length_map]
      omega
    refine ⟨fun σ' H' => JA = H' ∧ σ' = [some (.ref a), some (.int first), some (.int L), some (.int M), some (.ref pS), some (.ref pN), some (.ref pP), some (.ref pW), some (.ref bk), some (.str (bookS sg ps nm ws)), x10, x11, some (.int cell), some (.ref pw), some (.str (wtS sg wn)), some (.str (wtS sg wn))], ?_, ?_⟩
    · refine ⟨_, rfl, rfl, _, rfl, ite2 (fun c => ?_) (fun c => ?_)⟩
      · have ez : Str.join Str.empty (wn.map (sgn sg)) = Str.ofString "" := V.str.inj (of_decide_eq_true c)
        have e : wn = [] := by
          obtain ⟨cs', e1, e2, _⟩ := wt_cps oS W.ok
          rw [ez] at e1
          refine List.length_eq_zero_iff.mp ?_
          rw [← e2, ← e1]
          rfl
        refine ⟨rfl, ?_⟩
        have : wtS sg wn = dotS := by unfold wtS; rw [if_pos e]
        rw [this]
        rfl
      · have ne : wn ≠ [] := fun e => c (decide_eq_true (by rw [e]; rfl))
        refine ⟨rfl, ?_⟩
        have : wtS sg wn = Str.join Str.empty (wn.map (sgn sg)) := by unfold wtS; rw [if_neg ne]
        rw [this]
        rfl
    rintro σ' H' ⟨rfl, rfl⟩
    refine ⟨_, rfl, _, _, _, _, rfl, .str _, kit_str _, _, rfl, iteF ?_⟩
    refine ⟨_, rfl, _, rfl, rfl, _, rfl, iteNS rfl ?_⟩
    refine ⟨_, rfl, _, rfl, pS, sg, wn, rfl, t6A _ _ gSJ, dS, oS, W, fun pr JB tB hr' => ?_⟩
    refine ⟨_, rfl, wn, wn, rtup_ints hr', rtup_ints (tB _ _ (tA _ _ hw9)), _, rfl, ?_⟩
    rw [decide_eq_true rfl]
    exact iteF ⟨t6A.trans tB, _, _, _, _, rfl⟩
  · obtain ⟨t7, y12, y13, y14, y15, rfl⟩ := hP
    exact q J7
end
end K91
set_option Elab.async false
set_option linter.all false
set_option maxRecDepth 100000
namespace K91
open PySem L2
theorem al1 {α : Type} {P : List α → Prop} (h : ∀ a0 : α, P [a0]) : ∀ us : List α, us.length = 1 → P us
  | [a0], _ => h a0
theorem al2 {α : Type} {P : List α → Prop} (h : ∀ a0 a1 : α, P [a0, a1]) : ∀ us : List α, us.length = 2 → P us
  | [a0, a1], _ => h a0 a1
theorem al3 {α : Type} {P : List α → Prop} (h : ∀ a0 a1 a2 : α, P [a0, a1, a2]) : ∀ us : List α, us.length = 3 → P us
  | [a0, a1, a2], _ => h a0 a1 a2
theorem al4 {α : Type} {P : List α → Prop} (h : ∀ a0 a1 a2 a3 : α, P [a0, a1, a2, a3]) : ∀ us : List α, us.length = 4 → P us
  | [a0, a1, a2, a3], _ => h a0 a1 a2 a3
theorem all_mk {l : PySem.W.OpenLaw} {w : World} {K : PySem.W.Frag} {h : Heap} {mg : Str → Option Value} {fa f1 f2 f3 f4 f5 f6 f7 f8 f9 f10 f11 f12 f13 f14 f15 f16 f17 f18 f19 f20 f21 f22 f23 : Addr} (X : K.In h) (G : h.Ns mainGlobals mg) (hfa : mg "law" = some (.ref fa))
    {od1 an1 od2 an2 od3 an3 od4 an4 od5 an5 od6 an6 od7 an7 od8 an8 od9 an9 od10 an10 od11 an11 od12 an12 od13 an13 od14 an14 od15 an15 od16 an16 od17 an17 od18 an18 od19 an19 od20 an20 od21 an21 od22 an22 od23 an23 : Option Addr} {sl1 sl2 sl3 sl4 sl5 sl6 sl7 sl8 sl9 sl10 sl11 sl12 sl13 sl14 sl15 sl16 sl17 sl18 sl19 sl20 sl21 sl22 sl23 : Array (Option Value)}
    {oc1 kV1 dc1 pm1 cd1 ct1 oc2 kV2 dc2 pm2 cd2 ct2 oc3 kV3 dc3 pm3 cd3 ct3 oc4 kV4 dc4 pm4 cd4 ct4 oc5 kV5 dc5 pm5 cd5 ct5 oc6 kV6 dc6 pm6 cd6 ct6 oc7 kV7 dc7 pm7 cd7 ct7 oc8 kV8 dc8 pm8 cd8 ct8 oc9 kV9 dc9 pm9 cd9 ct9 oc10 kV10 dc10 pm10 cd10 ct10 oc11 kV11 dc11 pm11 cd11 ct11 oc12 kV12 dc12 pm12 cd12 ct12 oc13 kV13 dc13 pm13 cd13 ct13 oc14 kV14 dc14 pm14 cd14 ct14 oc15 kV15 dc15 pm15 cd15 ct15 oc16 kV16 dc16 pm16 cd16 ct16 oc17 kV17 dc17 pm17 cd17 ct17 oc18 kV18 dc18 pm18 cd18 ct18 oc19 kV19 dc19 pm19 cd19 ct19 oc20 kV20 dc20 pm20 cd20 ct20 oc21 kV21 dc21 pm21 cd21 ct21 oc22 kV22 dc22 pm22 cd22 ct22 oc23 kV23 dc23 pm23 cd23 ct23 : Value}
    (a1 : PySem.W.nsIn K mainGlobals "is_amount" = some (some (.ref f1))) (l1 : K.lookup f1 = some ⟨oc1, od1, .func (PySem.W.fnOf "is_amount" "is_amount" (defArgs sIsAm) (defBody sIsAm) (defScope sIsAm) .none kV1 dc1 pm1 an1 cd1 ct1), sl1⟩) (c1 : PySem.W.codeIn K cd1 "is_amount" = true) (k1 : PySem.W.keepIn K (.ref f1) = true)
    (a2 : PySem.W.nsIn K mainGlobals "are_amounts" = some (some (.ref f2))) (l2 : K.lookup f2 = some ⟨oc2, od2, .func (PySem.W.fnOf "are_amounts" "are_amounts" (defArgs sAre) (defBody sAre) (defScope sAre) .none kV2 dc2 pm2 an2 cd2 ct2), sl2⟩) (c2 : PySem.W.codeIn K cd2 "are_amounts" = true) (k2 : PySem.W.keepIn K (.ref f2) = true)
    (a3 : PySem.W.nsIn K mainGlobals "made_prices" = some (some (.ref f3))) (l3 : K.lookup f3 = some ⟨oc3, od3, .func (PySem.W.fnOf "made_prices" "made_prices" (defArgs sMP) (defBody sMP) (defScope sMP) .none kV3 dc3 pm3 an3 cd3 ct3), sl3⟩) (c3 : PySem.W.codeIn K cd3 "made_prices" = true) (k3 : PySem.W.keepIn K (.ref f3) = true)
    (a4 : PySem.W.nsIn K mainGlobals "made_weights" = some (some (.ref f4))) (l4 : K.lookup f4 = some ⟨oc4, od4, .func (PySem.W.fnOf "made_weights" "made_weights" (defArgs sMW) (defBody sMW) (defScope sMW) .none kV4 dc4 pm4 an4 cd4 ct4), sl4⟩) (c4 : PySem.W.codeIn K cd4 "made_weights" = true) (k4 : PySem.W.keepIn K (.ref f4) = true)
    (a5 : PySem.W.nsIn K mainGlobals "has_letters_alone" = some (some (.ref f5))) (l5 : K.lookup f5 = some ⟨oc5, od5, .func (PySem.W.fnOf "has_letters_alone" "has_letters_alone" (defArgs sAlone) (defBody sAlone) (defScope sAlone) .none kV5 dc5 pm5 an5 cd5 ct5), sl5⟩) (c5 : PySem.W.codeIn K cd5 "has_letters_alone" = true) (k5 : PySem.W.keepIn K (.ref f5) = true)
    (a6 : PySem.W.nsIn K mainGlobals "book_text" = some (some (.ref f6))) (l6 : K.lookup f6 = some ⟨oc6, od6, .func (PySem.W.fnOf "book_text" "book_text" (defArgs sBT) (defBody sBT) (defScope sBT) .none kV6 dc6 pm6 an6 cd6 ct6), sl6⟩) (c6 : PySem.W.codeIn K cd6 "book_text" = true) (k6 : PySem.W.keepIn K (.ref f6) = true)
    (a7 : PySem.W.nsIn K mainGlobals "read_book" = some (some (.ref f7))) (l7 : K.lookup f7 = some ⟨oc7, od7, .func (PySem.W.fnOf "read_book" "read_book" (defArgs sRB) (defBody sRB) (defScope sRB) .none kV7 dc7 pm7 an7 cd7 ct7), sl7⟩) (c7 : PySem.W.codeIn K cd7 "read_book" = true) (k7 : PySem.W.keepIn K (.ref f7) = true)
    (a8 : PySem.W.nsIn K mainGlobals "rows_of" = some (some (.ref f8))) (l8 : K.lookup f8 = some ⟨oc8, od8, .func (PySem.W.fnOf "rows_of" "rows_of" (defArgs sRO) (defBody sRO) (defScope sRO) .none kV8 dc8 pm8 an8 cd8 ct8), sl8⟩) (c8 : PySem.W.codeIn K cd8 "rows_of" = true) (k8 : PySem.W.keepIn K (.ref f8) = true)
    (a9 : PySem.W.nsIn K mainGlobals "is_letter_row" = some (some (.ref f9))) (l9 : K.lookup f9 = some ⟨oc9, od9, .func (PySem.W.fnOf "is_letter_row" "is_letter_row" (defArgs sILR) (defBody sILR) (defScope sILR) .none kV9 dc9 pm9 an9 cd9 ct9), sl9⟩) (c9 : PySem.W.codeIn K cd9 "is_letter_row" = true) (k9 : PySem.W.keepIn K (.ref f9) = true)
    (a10 : PySem.W.nsIn K mainGlobals "is_thing_row" = some (some (.ref f10))) (l10 : K.lookup f10 = some ⟨oc10, od10, .func (PySem.W.fnOf "is_thing_row" "is_thing_row" (defArgs sITR) (defBody sITR) (defScope sITR) .none kV10 dc10 pm10 an10 cd10 ct10), sl10⟩) (c10 : PySem.W.codeIn K cd10 "is_thing_row" = true) (k10 : PySem.W.keepIn K (.ref f10) = true)
    (a11 : PySem.W.nsIn K mainGlobals "is_name" = some (some (.ref f11))) (l11 : K.lookup f11 = some ⟨oc11, od11, .func (PySem.W.fnOf "is_name" "is_name" (defArgs sIN) (defBody sIN) (defScope sIN) .none kV11 dc11 pm11 an11 cd11 ct11), sl11⟩) (c11 : PySem.W.codeIn K cd11 "is_name" = true) (k11 : PySem.W.keepIn K (.ref f11) = true)
    (a12 : PySem.W.nsIn K mainGlobals "is_number" = some (some (.ref f12))) (l12 : K.lookup f12 = some ⟨oc12, od12, .func (PySem.W.fnOf "is_number" "is_number" (defArgs sINu) (defBody sINu) (defScope sINu) .none kV12 dc12 pm12 an12 cd12 ct12), sl12⟩) (c12 : PySem.W.codeIn K cd12 "is_number" = true) (k12 : PySem.W.keepIn K (.ref f12) = true)
    (a13 : PySem.W.nsIn K mainGlobals "word_text" = some (some (.ref f13))) (l13 : K.lookup f13 = some ⟨oc13, od13, .func (PySem.W.fnOf "word_text" "word_text" (defArgs sWT) (defBody sWT) (defScope sWT) .none kV13 dc13 pm13 an13 cd13 ct13), sl13⟩) (c13 : PySem.W.codeIn K cd13 "word_text" = true) (k13 : PySem.W.keepIn K (.ref f13) = true)
    (a14 : PySem.W.nsIn K mainGlobals "read_word" = some (some (.ref f14))) (l14 : K.lookup f14 = some ⟨oc14, od14, .func (PySem.W.fnOf "read_word" "read_word" (defArgs sRW) (defBody sRW) (defScope sRW) .none kV14 dc14 pm14 an14 cd14 ct14), sl14⟩) (c14 : PySem.W.codeIn K cd14 "read_word" = true) (k14 : PySem.W.keepIn K (.ref f14) = true)
    (a15 : PySem.W.nsIn K mainGlobals "_law_cell_at" = some (some (.ref f15))) (l15 : K.lookup f15 = some ⟨oc15, od15, .func (PySem.W.fnOf "_law_cell_at" "_law_cell_at" (defArgs sCell) (defBody sCell) (defScope sCell) .none kV15 dc15 pm15 an15 cd15 ct15), sl15⟩) (c15 : PySem.W.codeIn K cd15 "_law_cell_at" = true) (k15 : PySem.W.keepIn K (.ref f15) = true)
    (a16 : PySem.W.nsIn K mainGlobals "_law_whole" = some (some (.ref f16))) (l16 : K.lookup f16 = some ⟨oc16, od16, .func (PySem.W.fnOf "_law_whole" "_law_whole" (defArgs sWhole) (defBody sWhole) (defScope sWhole) .none kV16 dc16 pm16 an16 cd16 ct16), sl16⟩) (c16 : PySem.W.codeIn K cd16 "_law_whole" = true) (k16 : PySem.W.keepIn K (.ref f16) = true)
    (a17 : PySem.W.nsIn K mainGlobals "_law_amount" = some (some (.ref f17))) (l17 : K.lookup f17 = some ⟨oc17, od17, .func (PySem.W.fnOf "_law_amount" "_law_amount" (defArgs sAmount) (defBody sAmount) (defScope sAmount) .none kV17 dc17 pm17 an17 cd17 ct17), sl17⟩) (c17 : PySem.W.codeIn K cd17 "_law_amount" = true) (k17 : PySem.W.keepIn K (.ref f17) = true)
    (a18 : PySem.W.nsIn K mainGlobals "_law_signs" = some (some (.ref f18))) (l18 : K.lookup f18 = some ⟨oc18, od18, .func (PySem.W.fnOf "_law_signs" "_law_signs" (defArgs sSigns) (defBody sSigns) (defScope sSigns) .none kV18 dc18 pm18 an18 cd18 ct18), sl18⟩) (c18 : PySem.W.codeIn K cd18 "_law_signs" = true) (k18 : PySem.W.keepIn K (.ref f18) = true)
    (a19 : PySem.W.nsIn K mainGlobals "_law_names" = some (some (.ref f19))) (l19 : K.lookup f19 = some ⟨oc19, od19, .func (PySem.W.fnOf "_law_names" "_law_names" (defArgs sNames) (defBody sNames) (defScope sNames) .none kV19 dc19 pm19 an19 cd19 ct19), sl19⟩) (c19 : PySem.W.codeIn K cd19 "_law_names" = true) (k19 : PySem.W.keepIn K (.ref f19) = true)
    (a20 : PySem.W.nsIn K mainGlobals "_law_text" = some (some (.ref f20))) (l20 : K.lookup f20 = some ⟨oc20, od20, .func (PySem.W.fnOf "_law_text" "_law_text" (defArgs sText) (defBody sText) (defScope sText) .none kV20 dc20 pm20 an20 cd20 ct20), sl20⟩) (c20 : PySem.W.codeIn K cd20 "_law_text" = true) (k20 : PySem.W.keepIn K (.ref f20) = true)
    (a21 : PySem.W.nsIn K mainGlobals "_law_word" = some (some (.ref f21))) (l21 : K.lookup f21 = some ⟨oc21, od21, .func (PySem.W.fnOf "_law_word" "_law_word" (defArgs sWord) (defBody sWord) (defScope sWord) .none kV21 dc21 pm21 an21 cd21 ct21), sl21⟩) (c21 : PySem.W.codeIn K cd21 "_law_word" = true) (k21 : PySem.W.keepIn K (.ref f21) = true)
    (a22 : PySem.W.nsIn K mainGlobals "_law_same" = some (some (.ref f22))) (l22 : K.lookup f22 = some ⟨oc22, od22, .func (PySem.W.fnOf "_law_same" "_law_same" (defArgs sSame) (defBody sSame) (defScope sSame) .none kV22 dc22 pm22 an22 cd22 ct22), sl22⟩) (c22 : PySem.W.codeIn K cd22 "_law_same" = true) (k22 : PySem.W.keepIn K (.ref f22) = true)
    (a23 : PySem.W.nsIn K mainGlobals "law" = some (some (.ref f23))) (l23 : K.lookup f23 = some ⟨oc23, od23, .func (PySem.W.fnOf "law" "law" (defArgs sLaw) (defBody sLaw) (defScope sLaw) .none kV23 dc23 pm23 an23 cd23 ct23), sl23⟩) (c23 : PySem.W.codeIn K cd23 "law" = true) (k23 : PySem.W.keepIn K (.ref f23) = true)
    {tk1 : Tok} (y1 : PySem.W.nsIn K mainGlobals "SIGNS" = some (some (.str alpha tk1)))
    {tk2 : Tok} (y2 : PySem.W.nsIn K mainGlobals "FIGURES" = some (some (.str figs tk2)))
    {tk3 : Tok} (y3 : PySem.W.nsIn K mainGlobals "EMPTY_WORD" = some (some (.str dotS tk3)))
    (z1 : PySem.W.nsIn K mainGlobals "len" = some none)
    (z2 : PySem.W.nsIn K mainGlobals "range" = some none)
    (z3 : PySem.W.nsIn K mainGlobals "tuple" = some none)
    (z4 : PySem.W.nsIn K mainGlobals "list" = some none)
    (z5 : PySem.W.nsIn K mainGlobals "isinstance" = some none)
    (z6 : PySem.W.nsIn K mainGlobals "int" = some none)
    (z7 : PySem.W.nsIn K mainGlobals "bool" = some none)
    (z8 : PySem.W.nsIn K mainGlobals "all" = some none)
    (z9 : PySem.W.nsIn K mainGlobals "str" = some none)
    (z10 : PySem.W.nsIn K mainGlobals "set" = some none)
    (z11 : PySem.W.nsIn K mainGlobals "zip" = some none)
    (z12 : PySem.W.nsIn K mainGlobals "enumerate" = some none) :
    ∃ fd : FuncData, (∀ (s : Shared) (v : Value), BindsTo s fd ⟨[v], []⟩ [("script", v)]) ∧ ∀ base : Heap, K.In base → base.Ns mainGlobals mg → FnOk l.prog w K mg base CX0 5 fa fd ["script"] (spLaw K) := by
  have e := hfa.symm.trans (PySem.W.mg_of X G a23)
  cases e
  have F1 := fun_mk (st := sIsAm) l1 c1 k1
  have m1 := PySem.W.mg_of X G a1
  have b1 := F1.binds (ps := ["number"]) fun _ _ _ _ _ _ => al1 fun _ => rfl
  have F2 := fun_mk (st := sAre) l2 c2 k2
  have m2 := PySem.W.mg_of X G a2
  have b2 := F2.binds (ps := ["numbers", "fewest", "most"]) fun _ _ _ _ _ _ => al3 fun _ _ _ => rfl
  have F3 := fun_mk (st := sMP) l3 c3 k3
  have m3 := PySem.W.mg_of X G a3
  have b3 := F3.binds (ps := ["prices"]) fun _ _ _ _ _ _ => al1 fun _ => rfl
  have F4 := fun_mk (st := sMW) l4 c4 k4
  have m4 := PySem.W.mg_of X G a4
  have b4 := F4.binds (ps := ["weights"]) fun _ _ _ _ _ _ => al1 fun _ => rfl
  have F5 := fun_mk (st := sAlone) l5 c5 k5
  have m5 := PySem.W.mg_of X G a5
  have b5 := F5.binds (ps := ["word", "letters"]) fun _ _ _ _ _ _ => al2 fun _ _ => rfl
  have F6 := fun_mk (st := sBT) l6 c6 k6
  have m6 := PySem.W.mg_of X G a6
  have b6 := F6.binds (ps := ["signs", "prices", "names", "weights"]) fun _ _ _ _ _ _ => al4 fun _ _ _ _ => rfl
  have F7 := fun_mk (st := sRB) l7 c7 k7
  have m7 := PySem.W.mg_of X G a7
  have b7 := F7.binds (ps := ["text"]) fun _ _ _ _ _ _ => al1 fun _ => rfl
  have F8 := fun_mk (st := sRO) l8 c8 k8
  have m8 := PySem.W.mg_of X G a8
  have b8 := F8.binds (ps := ["text"]) fun _ _ _ _ _ _ => al1 fun _ => rfl
  have F9 := fun_mk (st := sILR) l9 c9 k9
  have m9 := PySem.W.mg_of X G a9
  have b9 := F9.binds (ps := ["row"]) fun _ _ _ _ _ _ => al1 fun _ => rfl
  have F10 := fun_mk (st := sITR) l10 c10 k10
  have m10 := PySem.W.mg_of X G a10
  have b10 := F10.binds (ps := ["row"]) fun _ _ _ _ _ _ => al1 fun _ => rfl
  have F11 := fun_mk (st := sIN) l11 c11 k11
  have m11 := PySem.W.mg_of X G a11
  have b11 := F11.binds (ps := ["text", "most"]) fun _ _ _ _ _ _ => al2 fun _ _ => rfl
  have F12 := fun_mk (st := sINu) l12 c12 k12
  have m12 := PySem.W.mg_of X G a12
  have b12 := F12.binds (ps := ["text"]) fun _ _ _ _ _ _ => al1 fun _ => rfl
  have F13 := fun_mk (st := sWT) l13 c13 k13
  have m13 := PySem.W.mg_of X G a13
  have b13 := F13.binds (ps := ["signs", "word"]) fun _ _ _ _ _ _ => al2 fun _ _ => rfl
  have F14 := fun_mk (st := sRW) l14 c14 k14
  have m14 := PySem.W.mg_of X G a14
  have b14 := F14.binds (ps := ["signs", "text"]) fun _ _ _ _ _ _ => al2 fun _ _ => rfl
  have F15 := fun_mk (st := sCell) l15 c15 k15
  have m15 := PySem.W.mg_of X G a15
  have b15 := F15.binds (ps := ["script", "k"]) fun _ _ _ _ _ _ => al2 fun _ _ => rfl
  have F16 := fun_mk (st := sWhole) l16 c16 k16
  have m16 := PySem.W.mg_of X G a16
  have b16 := F16.binds (ps := ["found"]) fun _ _ _ _ _ _ => al1 fun _ => rfl
  have F17 := fun_mk (st := sAmount) l17 c17 k17
  have m17 := PySem.W.mg_of X G a17
  have b17 := F17.binds (ps := ["cell"]) fun _ _ _ _ _ _ => al1 fun _ => rfl
  have F18 := fun_mk (st := sSigns) l18 c18 k18
  have m18 := PySem.W.mg_of X G a18
  have b18 := F18.binds (ps := ["cell", "many"]) fun _ _ _ _ _ _ => al2 fun _ _ => rfl
  have F19 := fun_mk (st := sNames) l19 c19 k19
  have m19 := PySem.W.mg_of X G a19
  have b19 := F19.binds (ps := ["cell", "many"]) fun _ _ _ _ _ _ => al2 fun _ _ => rfl
  have F20 := fun_mk (st := sText) l20 c20 k20
  have m20 := PySem.W.mg_of X G a20
  have b20 := F20.binds (ps := ["book"]) fun _ _ _ _ _ _ => al1 fun _ => rfl
  have F21 := fun_mk (st := sWord) l21 c21 k21
  have m21 := PySem.W.mg_of X G a21
  have b21 := F21.binds (ps := ["cell", "letters"]) fun _ _ _ _ _ _ => al2 fun _ _ => rfl
  have F22 := fun_mk (st := sSame) l22 c22 k22
  have m22 := PySem.W.mg_of X G a22
  have b22 := F22.binds (ps := ["found", "book"]) fun _ _ _ _ _ _ => al2 fun _ _ => rfl
  have F23 := fun_mk (st := sLaw) l23 c23 k23
  have m23 := PySem.W.mg_of X G a23
  have C_SIGNS := PySem.W.mg_of X G y1
  have C_FIGURES := PySem.W.mg_of X G y2
  have C_EMPTY_WORD := PySem.W.mg_of X G y3
  have B_len := PySem.W.mg_none_of X G z1
  have B_range := PySem.W.mg_none_of X G z2
  have B_tuple := PySem.W.mg_none_of X G z3
  have B_list := PySem.W.mg_none_of X G z4
  have B_isinstance := PySem.W.mg_none_of X G z5
  have B_int := PySem.W.mg_none_of X G z6
  have B_bool := PySem.W.mg_none_of X G z7
  have B_all := PySem.W.mg_none_of X G z8
  have B_str := PySem.W.mg_none_of X G z9
  have B_set := PySem.W.mg_none_of X G z10
  have B_zip := PySem.W.mg_none_of X G z11
  have B_enumerate := PySem.W.mg_none_of X G z12
  refine ⟨PySem.W.fnOf "law" "law" (defArgs sLaw) (defBody sLaw) (defScope sLaw) .none kV23 dc23 pm23 an23 cd23 ct23, fun s v => .of_eq rfl, fun base _ _ => ?_⟩
  have B1 : Fns l.prog w K mg base ["number"] "is_amount" spIs 1 := ⟨_, _, (ok_is F1).mono (by decide), b1, k1, m1⟩
  have B2 : Fns l.prog w K mg base NAr "are_amounts" spAr 2 := ⟨_, _, (ok_ar F2 B1 B_len B_all).mono (by decide), b2, k2, m2⟩
  have B3 : Fns l.prog w K mg base ["prices"] "made_prices" (spMk 2 6) 3 := ⟨_, _, (ok_mp F3 B2 B_tuple).mono (by decide), b3, k3, m3⟩
  have B4 : Fns l.prog w K mg base ["weights"] "made_weights" (spMk 1 24) 3 := ⟨_, _, (ok_mw F4 B2 B_tuple).mono (by decide), b4, k4, m4⟩
  have B5 : Fns l.prog w K mg base NAl "has_letters_alone" spAl 1 := ⟨_, _, (ok_al F5 B_all).mono (by decide), b5, k5, m5⟩
  have B6 : Fns l.prog w K mg base PBT "book_text" spBT 4 := ⟨_, _, (ok_bt F6 B_zip).mono (by decide), b6, k6, m6⟩
  have B11 : Fns l.prog w K mg base NIn "is_name" spIn 1 := ⟨_, _, (ok_in F11 C_SIGNS B_len B_all).mono (by decide), b11, k11, m11⟩
  have B12 : Fns l.prog w K mg base NNu "is_number" spNu 1 := ⟨_, _, (ok_nu F12 C_FIGURES B_len B_all).mono (by decide), b12, k12, m12⟩
  have B9 : Fns l.prog w K mg base NRr "is_letter_row" (spRr tL 1) 2 := ⟨_, _, (ok_lr F9 B11 B12 B_len).mono (by decide), b9, k9, m9⟩
  have B10 : Fns l.prog w K mg base NRr "is_thing_row" (spRr tT 8) 2 := ⟨_, _, (ok_tr F10 B11 B12 B_len).mono (by decide), b10, k10, m10⟩
  have B8 : Fns l.prog w K mg base ["text"] "rows_of" spRo 3 := ⟨_, _, (ok_ro F8 B10 B9 B_len B_enumerate).mono (by decide), b8, k8, m8⟩
  have B7 : Fns l.prog w K mg base ["text"] "read_book" spRb 4 := ⟨_, _, (ok_rb F7 B8 B3 B4 B_len B_tuple B_set B_int).mono (by decide), b7, k7, m7⟩
  have B13 : Fns l.prog w K mg base NWt "word_text" spWt 4 := ⟨_, _, (ok_wt F13 B5 C_EMPTY_WORD B_len).mono (by decide), b13, k13, m13⟩
  have B14 : Fns l.prog w K mg base NRw "read_word" spRw 4 := ⟨_, _, (ok_rw F14 C_EMPTY_WORD B_len B_all B_tuple).mono (by decide), b14, k14, m14⟩
  have B15 : Fns l.prog w K mg base ["script", "k"] "_law_cell_at" (spCell K) 4 := ⟨_, _, (ok_cell F15 B_len).mono (by decide), b15, k15, m15⟩
  have B16 : Fns l.prog w K mg base ["found"] "_law_whole" spWhole 1 := ⟨_, _, (ok_whole F16 B_isinstance B_int B_bool).mono (by decide), b16, k16, m16⟩
  have B17 : Fns l.prog w K mg base ["cell"] "_law_amount" spAmount 4 := ⟨_, _, (ok_amount F17).mono (by decide), b17, k17, m17⟩
  have B18 : Fns l.prog w K mg base PSg "_law_signs" spSg 4 := ⟨_, _, (ok_sg F18 B_range).mono (by decide), b18, k18, m18⟩
  have B19 : Fns l.prog w K mg base PNm "_law_names" spNm 4 := ⟨_, _, (ok_nm F19 B_range).mono (by decide), b19, k19, m19⟩
  have B20 : Fns l.prog w K mg base ["book"] "_law_text" spTx 4 := ⟨_, _, (ok_tx F20 B_len B_range B_str).mono (by decide), b20, k20, m20⟩
  have B21 : Fns l.prog w K mg base PLd "_law_word" spLd 4 := ⟨_, _, (ok_ld F21 B_range B_tuple).mono (by decide), b21, k21, m21⟩
  have B22 : Fns l.prog w K mg base PSm "_law_same" spSm 4 := ⟨_, _, (ok_sm F22 B16 B_len B_isinstance B_tuple B_all).mono (by decide), b22, k22, m22⟩
  exact ok_law F23 B15 B17 B18 B19 B6 B20 B7 B22 B21 B13 B14 B_range B_tuple B_isinstance B_str B_list
theorem walk {l : PySem.W.OpenLaw} {q : Program} {loose : List Str} {XP : (Str → Option Value) → Heap → Prop} {YP : World → Heap → Prop} {d : DefRec} {K : Params → PySem.W.Frag} (hn : l.most = some 63) (hdf : d.params.defaults = [])
    (hY : ∀ (w : World) (h : Heap), YP w h → (K w.params).In h)
    (F : ∀ (w : World) (mg : Str → Option Value) (fa : Addr) (h : Heap), (K w.params).In h → h.Ns mainGlobals mg → mg d.name = some (.ref fa) →
      ∃ fd : FuncData, (∀ (s : Shared) (u : Value), BindsTo s fd ⟨[u], []⟩ [("script", u)]) ∧ ∀ base : Heap, (K w.params).In base → base.Ns mainGlobals mg → FnOk l.prog w (K w.params) mg base CX0 5 fa fd ["script"] (spLaw (K w.params))) :
    PySem.W.WalkO q loose XP YP l.row.toRowW d [] (fun f vs => PySem.call f vs) :=
  L2.walk_of (n := 63) (k := 5) (x := "script") (CX := fun _ => CX0) (sp := fun w => spLaw (K w.params)) hn (by decide) hdf ⟨rfl, by decide, by decide⟩ hY F (fun _ _ a ns hl _ hS => ⟨a, ns, rfl, hS, hl, fun _ => rfl⟩) fun _ _ _ _ _ z => z
end K91
namespace PySem.W.Fast
def tw1001991720362249708:=0
def tw10124995514478734380:=0
def tw10129790241644932456:=0
def tw10138187248697361888:=0
def tw10227489402520284392:=0
def tw10240237450489443174:=0
def tw10311447903168312426:=0
def tw10316447487029973446:=0
def tw1040884665571870380:=0
def tw10465056428117053578:=0
def tw10521513783011625318:=0
def tw10602732951888306218:=0
def tw10712659006339467884:=0
def tw1087869589057173687:=0
def tw10878960065024689711:=0
def tw1098168469283711108:=0
def tw10989195106851511537:=0
def tw11065716251707423631:=0
def tw11068483826028092631:=0
def tw11094228003544095838:=0
def tw11158457850817808706:=0
def tw11337256224005146517:=0
def tw11393091423890252553:=0
def tw11421228969032808607:=0
def tw11561434154575532380:=0
def tw11600493271233811721:=0
def tw11608305662398286045:=0
def tw11649297626580936995:=0
def tw11666329001209799332:=0
def tw11682598052815144231:=0
def tw11698468234692970525:=0
def tw11858205175703302137:=0
def tw11906023167611581063:=0
def tw11947902270779749804:=0
def tw11975705681896960897:=0
def tw12006032998101158197:=0
def tw12027141541307395955:=0
def tw12096566496626585289:=0
def tw12106054817930132558:=0
def tw12151567140927608582:=0
def tw12468518560315398379:=0
def tw12538637495617927707:=0
def tw12549789775292685419:=0
def tw12568414459570283464:=0
def tw12620909783441377225:=0
def tw12627940479964175802:=0
def tw12641007142395617143:=0
def tw12690190419743835271:=0
def tw1289065971850422173:=0
def tw13277443960033950093:=0
def tw13280993601135591732:=0
def tw1337402818599695571:=0
def tw13454713692720848626:=0
def tw13481651215242389360:=0
def tw1357438279900345711:=0
def tw13629447323909257441:=0
def tw13662339720022918759:=0
def tw13684906736317482590:=0
def tw13837617267357849946:=0
def tw1407957750980825435:=0
def tw14269968391243325058:=0
def tw14364872912956229814:=0
def tw1437255853522704470:=0
def tw14391361243007613317:=0
def tw14475355372852515305:=0
def tw14699212396364645965:=0
def tw14700291083841861941:=0
def tw14716865801103456930:=0
def tw14770843438626648027:=0
def tw14965632923653418241:=0
def tw15082789161619295850:=0
def tw15220097654229061231:=0
def tw15303582510543859919:=0
def tw15361925815575865442:=0
def tw15591375796445213816:=0
def tw15718804531369144451:=0
def tw15839690072675611591:=0
def tw15847461422767390608:=0
def tw15913052468949701696:=0
def tw15960168565976129405:=0
def tw16049020303492286756:=0
def tw16086446868081344170:=0
def tw16111622998013246948:=0
def tw16250222445249038138:=0
def tw16252792156351301123:=0
def tw16291409890724786518:=0
def tw16400520223377240282:=0
def tw16445273173844464633:=0
def tw16463218441672658500:=0
def tw16528042413284669216:=0
def tw1657773837206801763:=0
def tw16577852647204647936:=0
def tw16606849759666613545:=0
def tw16735851206167383189:=0
def tw16847927009882653980:=0
def tw16882157844060586903:=0
def tw16978082830124575215:=0
def tw1698255569352532194:=0
def tw16990209133189252979:=0
def tw17005906999762380514:=0
def tw17139526325377941375:=0
def tw17248656020671973090:=0
def tw17333969370699237199:=0
def tw17354992062459984632:=0
def tw17513990731609166874:=0
def tw17517867403186190442:=0
def tw17626939201414301802:=0
def tw17765444027678456950:=0
def tw17852198925704891488:=0
def tw1789511258003291194:=0
def tw17918114424110425548:=0
def tw17982380704362763609:=0
def tw18040407782291791275:=0
def tw18256913613561134030:=0
def tw1841340643854321573:=0
def tw1938530824398224255:=0
def tw2038450812979229565:=0
def tw2050093327188111753:=0
def tw2114306771841480494:=0
def tw2153073543508330173:=0
def tw21767348035257358:=0
def tw2191984894595201117:=0
def tw2202444347435295254:=0
def tw2321241273126282854:=0
def tw2361068201434877962:=0
def tw2377859523308361904:=0
def tw2470104305237980806:=0
def tw2792012116612094782:=0
def tw2833222939011919374:=0
def tw3292509084065350896:=0
def tw3393867452315584101:=0
def tw3421422937190351896:=0
def tw3457350456399623681:=0
def tw3493167111728373526:=0
def tw3547240577414058783:=0
def tw3573872999103212281:=0
def tw3639784050928719224:=0
def tw3907975006397519282:=0
def tw3919887848059104051:=0
def tw4000724616405340890:=0
def tw427024263793583229:=0
def tw4290803451215350095:=0
def tw4474914834360591579:=0
def tw4588198237665256887:=0
def tw4683836602273717091:=0
def tw4751158938340417714:=0
def tw490617986755038704:=0
def tw4974061960297172055:=0
def tw4987192261360918976:=0
def tw5207804651540211286:=0
def tw5234228791577424182:=0
def tw5399767612915057526:=0
def tw5424175367279020125:=0
def tw5549004902789326743:=0
def tw5554340170410548353:=0
def tw5709568931429076495:=0
def tw5824219129347925303:=0
def tw5827209096294947156:=0
def tw5839516964080474393:=0
def tw5927531694438773582:=0
def tw5930810205391242228:=0
def tw5989230772032244452:=0
def tw610886163078555377:=0
def tw6211461406543420484:=0
def tw6287651948297804658:=0
def tw6293513318601465414:=0
def tw6314976993068972455:=0
def tw631651897940715688:=0
def tw6330799885339539903:=0
def tw6351975361605075314:=0
def tw6358245284678697764:=0
def tw640323031831860880:=0
def tw6459801343692396551:=0
def tw6506159591600616853:=0
def tw6585840847778308698:=0
def tw6879074977401088757:=0
def tw6907578223208897679:=0
def tw7122360690633374880:=0
def tw7143328246194387641:=0
def tw7248163473642486700:=0
def tw7293626673833123596:=0
def tw731478661334293591:=0
def tw7459640591571364278:=0
def tw751868484352093032:=0
def tw7627857587816391748:=0
def tw7736621863512017551:=0
def tw7779415918331966584:=0
def tw7828962727654151989:=0
def tw7850654863518324207:=0
def tw7855454228356627140:=0
def tw792164111230643693:=0
def tw794459433494470248:=0
def tw7959946741697684611:=0
def tw8100113461198692251:=0
def tw8175571657065346681:=0
def tw8257468562032047974:=0
def tw829884946458813777:=0
def tw8300268684641439624:=0
def tw8397278175812521292:=0
def tw8416679081828325712:=0
def tw8449111502994211337:=0
def tw880432982381323460:=0
def tw8919813848544238147:=0
def tw8975956422116422343:=0
def tw9055536489246980716:=0
def tw9057542777636612118:=0
def tw9063520914392705923:=0
def tw907333478715658670:=0
def tw9256144560948509124:=0
def tw9256462618385655432:=0
def tw9316000812422044393:=0
def tw9332704417461996483:=0
def tw9483309275285954317:=0
def tw9508104472169904906:=0
def tw9569788979464195266:=0
def tw9646537124733744359:=0
def tw9659233845024916564:=0
def tw9668370956929168335:=0
def tw9727035866126566515:=0
def tw9776119040840669940:=0
def tw985140320639958593:=0
def tw990513076196452965:=0
def tw9943119127351260041:=0
end PySem.W.Fast
open PySem PySem.W PyProof.Rows
set_option maxRecDepth 100000 in
set_option maxHeartbeats 0 in
theorem PySem.Challenge.cw_lettertoll_k91_books_written_and_read_holds : PySem.Challenge.rw_lettertoll_k91_books_written_and_read.Holds := by
  w_on; o_law; k_head; (case hw => w_witness2)
  k_fill
  refine K91.walk (l := PySem.Challenge.rw_lettertoll_k91_books_written_and_read) rfl rfl (fun w h Y => PySem.W.kIn_of Y) ?F
  case F =>
    intro w mg fa h KX G hmg
    refine' K91.all_mk KX G hmg ?a1 ?l1 ?c1 ?k1 ?a2 ?l2 ?c2 ?k2 ?a3 ?l3 ?c3 ?k3 ?a4 ?l4 ?c4 ?k4 ?a5 ?l5 ?c5 ?k5 ?a6 ?l6 ?c6 ?k6 ?a7 ?l7 ?c7 ?k7 ?a8 ?l8 ?c8 ?k8 ?a9 ?l9 ?c9 ?k9 ?a10 ?l10 ?c10 ?k10 ?a11 ?l11 ?c11 ?k11 ?a12 ?l12 ?c12 ?k12 ?a13 ?l13 ?c13 ?k13 ?a14 ?l14 ?c14 ?k14 ?a15 ?l15 ?c15 ?k15 ?a16 ?l16 ?c16 ?k16 ?a17 ?l17 ?c17 ?k17 ?a18 ?l18 ?c18 ?k18 ?a19 ?l19 ?c19 ?k19 ?a20 ?l20 ?c20 ?k20 ?a21 ?l21 ?c21 ?k21 ?a22 ?l22 ?c22 ?k22 ?a23 ?l23 ?c23 ?k23 ?y1 ?y2 ?y3 ?z1 ?z2 ?z3 ?z4 ?z5 ?z6 ?z7 ?z8 ?z9 ?z10 ?z11 ?z12
    (case a1 => k_is); (case l1 => k_is); (case c1 => k_is); (case k1 => k_is)
    (case a2 => k_is); (case l2 => k_is); (case c2 => k_is); (case k2 => k_is)
    (case a3 => k_is); (case l3 => k_is); (case c3 => k_is); (case k3 => k_is)
    (case a4 => k_is); (case l4 => k_is); (case c4 => k_is); (case k4 => k_is)
    (case a5 => k_is); (case l5 => k_is); (case c5 => k_is); (case k5 => k_is)
    (case a6 => k_is); (case l6 => k_is); (case c6 => k_is); (case k6 => k_is)
    (case a7 => k_is); (case l7 => k_is); (case c7 => k_is); (case k7 => k_is)
    (case a8 => k_is); (case l8 => k_is); (case c8 => k_is); (case k8 => k_is)
    (case a9 => k_is); (case l9 => k_is); (case c9 => k_is); (case k9 => k_is)
    (case a10 => k_is); (case l10 => k_is); (case c10 => k_is); (case k10 => k_is)
    (case a11 => k_is); (case l11 => k_is); (case c11 => k_is); (case k11 => k_is)
    (case a12 => k_is); (case l12 => k_is); (case c12 => k_is); (case k12 => k_is)
    (case a13 => k_is); (case l13 => k_is); (case c13 => k_is); (case k13 => k_is)
    (case a14 => k_is); (case l14 => k_is); (case c14 => k_is); (case k14 => k_is)
    (case a15 => k_is); (case l15 => k_is); (case c15 => k_is); (case k15 => k_is)
    (case a16 => k_is); (case l16 => k_is); (case c16 => k_is); (case k16 => k_is)
    (case a17 => k_is); (case l17 => k_is); (case c17 => k_is); (case k17 => k_is)
    (case a18 => k_is); (case l18 => k_is); (case c18 => k_is); (case k18 => k_is)
    (case a19 => k_is); (case l19 => k_is); (case c19 => k_is); (case k19 => k_is)
    (case a20 => k_is); (case l20 => k_is); (case c20 => k_is); (case k20 => k_is)
    (case a21 => k_is); (case l21 => k_is); (case c21 => k_is); (case k21 => k_is)
    (case a22 => k_is); (case l22 => k_is); (case c22 => k_is); (case k22 => k_is)
    (case a23 => k_is); (case l23 => k_is); (case c23 => k_is); (case k23 => k_is)
    (case y1 => k_is)
    (case y2 => k_is)
    (case y3 => k_is)
    (case z1 => k_is)
    (case z2 => k_is)
    (case z3 => k_is)
    (case z4 => k_is)
    (case z5 => k_is)
    (case z6 => k_is)
    (case z7 => k_is)
    (case z8 => k_is)
    (case z9 => k_is)
    (case z10 => k_is)
    (case z11 => k_is)
    (case z12 => k_is)
