import PyProof.Rows.All
import Wide.All
import OpenK.AllK
import Wide.FinOn
import Lean
import PyProof.EqAt
import PyProof.EqKinds
import PyProof.TupleCall
import PyProof.NeKinds
import PyProof.ConsumeWalk
import PyProof.SumAny
import PyProof.Rows.SumGenD
import PyProof.DictWalks
import KE.KSortTup
import KE.KDictList
import KE.IntBitsLaws
import PyProof.Rows.SortLt
import PyProof.Rows.SortRuns
import PyProof.WalkInts
import PyProof.MinMaxWalk
import PyProof.TupleOfSeq
import PyProof.Rows.SortShell
import PyProof.WalksS
import PyProof.SeqWrite
import KE.KLam
import KE.KNestM
import PyProof.SliceSyntax
import PyProof.Rows.SetFrom
import KE.KSortKey
import PyProof.TupleKey
import PyProof.DictKinds
import PyProof.DictItems
import KE.KItemsList
import PyProof.AttrMissHeap
import PyProof.ListNew
import PySem.Challenge.RW_lettertoll_k75_floors_judged
set_option Elab.async false
set_option linter.all false
set_option maxRecDepth 100000
set_option maxHeartbeats 16000000
namespace L2
open PySem PySem.Spec PyProof.Rows
abbrev Key:=Sum Int Str
def keyIs:Key→Value→Bool
 | .inl k,v=>Value.isInt k v
 | .inr x,v=>Value.isStrOf x v
def keyH (w:World):Key→Int
 | .inl k=>hashInt k
 | .inr x=>hashStr w x
theorem a0O:∀ {k:Key} {v:Value},keyIs k v=true→(∃ i t,k=Sum.inl i∧v=Value.int i t)∨(∃ x t,k=Sum.inr x∧v=Value.str x t)
 | .inl i,v,h=>by
  obtain ⟨t,e⟩:=Value.isInt_shape (k:=i) (v:=v) h
  exact .inl ⟨i,t,rfl,e⟩
 | .inr x,v,h=>by
  obtain ⟨t,e⟩:=Value.isStrOf_shape (x:=x) (v:=v) h
  exact .inr ⟨x,t,rfl,e⟩
theorem key_ll (a b:Int):decide ((Sum.inl a:Key)=Sum.inl b)=(a == b):=by
 by_cases e:a=b
 ·subst e;simp
 ·have h:¬ (Sum.inl a:Key)=Sum.inl b:=fun q=>e (Sum.inl.inj q)
  rw [decide_eq_false h]
  exact (beq_eq_false_iff_ne.mpr e).symm
theorem key_rr (a b:Str):decide ((Sum.inr a:Key)=Sum.inr b)=decide (a=b):=by
 by_cases e:a=b
 ·subst e;simp
 ·have h:¬ (Sum.inr a:Key)=Sum.inr b:=fun q=>e (Sum.inr.inj q)
  rw [decide_eq_false h,decide_eq_false e]
theorem key_lr (a:Int) (b:Str):decide ((Sum.inl a:Key)=Sum.inr b)=false:=decide_eq_false (fun q=>nomatch q)
theorem key_rl (a:Str) (b:Int):decide ((Sum.inr a:Key)=Sum.inl b)=false:=decide_eq_false (fun q=>nomatch q)
def a3W (prog:Program) (w:World):PySem.KeyKind prog w Key where
 is:=keyIs
 hash:=keyH w
 inj:=fun v a b ha hb=>by
  rcases a0O ha with ⟨i,t,rfl,rfl⟩ | ⟨x,t,rfl,rfl⟩
  ·rcases a0O hb with ⟨j,u,rfl,e⟩ | ⟨y,u,rfl,e⟩
   ·injection e with e1 _;rw [e1]
   ·exact nomatch e
  ·rcases a0O hb with ⟨j,u,rfl,e⟩ | ⟨y,u,rfl,e⟩
   ·exact nomatch e
   ·injection e with e1 _;rw [e1]
 byValue:=fun k v h=>by
  rcases a0O h with ⟨i,t,rfl,rfl⟩ | ⟨x,t,rfl,rfl⟩ <;> rfl
 pyHash:=fun hv h=>by
  rcases a0O hv with ⟨i,t,rfl,rfl⟩ | ⟨x,t,rfl,rfl⟩
  ·exact wpAny_pyHash_int h
  ·exact wpAny_pyHash_str h
 eqBool:=fun hu hv h=>by
  rcases a0O hu with ⟨i,t,rfl,rfl⟩ | ⟨x,t,rfl,rfl⟩
  ·rcases a0O hv with ⟨j,u,rfl,rfl⟩ | ⟨y,u,rfl,rfl⟩
   ·rw [key_ll] at h;exact wpAny_eqBool_int h
   ·rw [key_lr] at h;exact SeqAt.EqAt.int_str i t y u _ _ _ _ h
  ·rcases a0O hv with ⟨j,u,rfl,rfl⟩ | ⟨y,u,rfl,rfl⟩
   ·rw [key_rl] at h;exact SeqAt.EqAt.str_int x t j u _ _ _ _ h
   ·rw [key_rr] at h;exact wpAny_eqBool_str h
 «strs»:=fun k x t v h=>by
  rcases a0O h with ⟨i,u,rfl,e⟩ | ⟨y,u,rfl,e⟩
  ·exact nomatch e
  ·injection e with e1 _
   subst e1
   cases v <;> rfl
inductive V where
 | non | bl (b:Bool) | int (i:Int) | str (x:Str) | byt (b:Array UInt8) | flt (b:UInt64) | ref (a:Addr) | ty (n:String)
 deriving DecidableEq
def a0U:V→Value→Prop
 | .non,u=>u=Value.none
 | .bl b,u=>u=Value.bool b
 | .int i,u=>∃ t,u=Value.int i t
 | .str x,u=>∃ t,u=Value.str x t
 | .byt b,u=>∃ t,u=Value.bytes b t
 | .flt b,u=>∃ t,u=Value.float b t
 | .ref a,u=>u=Value.ref a
 | .ty n,u=>u=Value.type n
abbrev a0A:List V→List Value→Prop:=Paired a0U
theorem a0A.length {xs:List V} {us:List Value} (r:a0A xs us):xs.length=us.length:=Paired.length r
theorem a0A.get:∀ {xs:List V} {us:List Value} {i:Nat} {x:V},a0A xs us→xs[i]?=some x→∃ u,us[i]?=some u∧a0U x u
 | _,_,_,_,.nil,e=>by simp at e
 | _,_,0,_,.cons r _,e=>by simp at e;subst e;exact ⟨_,rfl,r⟩
 | _,_,i+1,x,.cons _ t,e=>by
  obtain ⟨u,h1,h2⟩:=a0A.get (i:=i) (x:=x) t (by simpa using e)
  exact ⟨u,by simpa using h1,h2⟩
theorem a0A.set {x:V} {u:Value} (r:a0U x u):∀ {xs:List V} {us:List Value} (i:Nat),a0A xs us→a0A (xs.set i x) (us.set i u)
 | _,_,_,.nil=>.nil
 | _,_,0,.cons _ t=>.cons r t
 | _,_,i+1,.cons q t=>.cons q (a0A.set r i t)
theorem a0A.append:∀ {xs ys:List V} {us ws:List Value},a0A xs us→a0A ys ws→a0A (xs++ys) (us++ws)
 | _,_,_,_,.nil,s=>s
 | _,_,_,_,.cons r t,s=>.cons r (a0A.append t s)
theorem a0A.take:∀ {xs:List V} {us:List Value} (n:Nat),a0A xs us→a0A (xs.take n) (us.take n)
 | _,_,0,_=>.nil
 | _,_,_+1,.nil=>.nil
 | _,_,n+1,.cons r t=>.cons r (a0A.take n t)
theorem a0A.drop:∀ {xs:List V} {us:List Value} (n:Nat),a0A xs us→a0A (xs.drop n) (us.drop n)
 | _,_,0,r=>r
 | _,_,_+1,.nil=>.nil
 | _,_,n+1,.cons _ t=>a0A.drop n t
def a8S:Option V→Option Value→Prop
 | some v,some u=>a0U v u
 | none,none=>True
 | _,_=>False
def KV {κ:Type}:List (κ × V)→List (κ × Value)→Prop:=Paired fun (p:κ × V) (q:κ × Value)=>p.1=q.1∧a0U p.2 q.2
def kV:Key→V
 | .inl i=>.int i
 | .inr x=>.str x
inductive HO where
 | lst (xs:List V)
 | tup (xs:List V)
 | dK (kvs:List (Key × V)) | dT (kvs:List (List Key × V))
 | set (S:Int→Bool) (n:Nat)
 | ins (C dx:Addr) (fs:List (Str × V))
 | own (x:Addr)
 | xd (fs:List (Str × V))
 | met (f x:Addr)
 | rng (lo hi:Int)
 | frz (o:Obj) (u:HO)
 | tbl (ps:Array Value)
 | ext (φ:Heap→Prop)
abbrev Hp:=Addr→Option HO
def upd (H:Hp) (a:Addr) (o:HO):Hp:=fun b=>if b=a then some o else H b
theorem a0b {H:Hp} {a:Addr} {o:HO}:upd H a o a=some o:=by unfold upd;rw [if_pos rfl]
theorem a0r {H:Hp} {a b:Addr} {o:HO} (h:b≠a):upd H a o b=H b:=by unfold upd;rw [if_neg h]
theorem a7i {H:Hp} {a:Addr} {o u:HO}:upd (upd H a o) a u=upd H a u:=by
 funext b;unfold upd;split <;> rfl
theorem a2k {H:Hp} {a b:Addr} {o u:HO} (h:H a=some o) (h':H b=some u) (d:o≠u):a≠b:=by
 intro e;subst e;rw [h] at h';exact d (Option.some.inj h')
theorem a0H {H:Hp} {a b:Addr} {o:HO} (h:H a=some o) (h':H b=none):a≠b:=by
 intro e;subst e;rw [h] at h';cases h'
def a3X (h:Heap) (a:Addr) (items:Array Value):Prop:=∃ o,h.get? a=some o∧∃ n,o={ cls:=.type "tuple",data:=.seq items n }
theorem a3X.is {h:Heap} {a:Addr} {items:Array Value} (x:a3X h a items):IsTup h a items:=by
 obtain ⟨o,e,n,rfl⟩:=x
 exact ⟨_,e,rfl,n,rfl⟩
instance {h:Heap} {a:Addr} {items:Array Value}:Coe (a3X h a items) (IsTup h a items):=⟨a3X.is⟩
instance {h:Heap} {a:Addr} {items:Array Value}:Coe (a3X h a items) (Heap.IsTuple h a items):=⟨fun x=>x.is⟩
theorem a3X.lt {h:Heap} {a:Addr} {items:Array Value} (x:a3X h a items):a < h.objs.size:=x.is.lt
theorem a3X.new (h:Heap) (items:Array Value):a3X (h.push { cls:=.type "tuple",data:=.seq items }) h.objs.size items:=⟨_,Heap.get?_push_size _ rfl,_,rfl⟩
section
variable (P:Program) (w:World)
def a0w (H:Hp) (h:Heap) (a:Addr):HO→Prop
 | .lst xs=>xs.length≤sizeLine∧∃ (its:List Value) (n:Nat),a0A xs its∧h.get? a=some { cls:=.type "list",data:=.seq its.toArray n }
 | .tup xs=>xs.length≤sizeLine∧∃ its:List Value,a0A xs its∧a3X h a its.toArray
 | .dK kvs=>kvs.length≤sizeLine∧(a == sysModules)=false∧∃ vs,KV kvs vs∧h.DictOf (a3W P w) a vs
 | .dT kvs=>kvs.length≤sizeLine∧(a == sysModules)=false∧∃ xs:List (List Key × Addr × Value),
   Paired (fun (p:List Key × V) (q:List Key × Addr × Value)=>p.1=q.1∧H q.2.1=some (.tup (p.1.map kV))∧a0U p.2 q.2.2) kvs xs ∧
   ∃ o es ep,h.get? a=some o∧o.ExactDict∧o.data=.dict es ep∧es.toList=xs.map (entryOfKey (tupleKind (a3W P w)))∧(xs.map (·.1)).Nodup
 | .set S n=>h.SetOf (intKind P w) a S n
 | .ins C dx fs=>H dx=some (.own a)∧fs.length≤1000∧dx≠a∧h.get? a=some (PySem.W.instObj C dx) ∧
   ∃ mA,h.Ns1 dx mA∧(∀ f,a8S (fs.lookup f) (mA f))∧PySem.Within mA (fs.map (·.1))
 | .own _=>∃ o,h.get? a=some o
 | .xd fs=>∃ mA,h.Ns1 a mA∧∀ f,a8S (fs.lookup f) (mA f)
 | .rng lo hi=>∃ t u v,h.get? a=some { cls:=.type "range",data:=.fields #[.int lo t,.int hi u,.int 1 v] }
 | .frz o u=>h.get? a=some o∧a0w H h a u
 | .tbl ps=>h.get? a=some { cls:=.none,data:=.fields ps }
 | .met f x=>h.get? a=some (PySem.W.methodObj (.ref f) (.ref x))
 | .ext φ=>φ h∧(∃ o,h.get? a=some o)∧∀ h1 h2:Heap,φ h1→(∀ o,h1.get? a=some o→h2.get? a=some o)→φ h2
def HOk (H:Hp) (h:Heap):Prop:=∀ a o,H a=some o→a0w P w H h a o
end
section
variable {P:Program} {w:World} {H H':Hp} {h h':Heap} {a:Addr} {o:HO}
theorem a0w.lt (x:a0w P w H h a o):a < h.objs.size:=by
 cases o with
 | lst xs=>obtain ⟨_,_,_,_,e⟩:=x;exact Heap.lt_size e
 | tup xs=>obtain ⟨_,_,_,p⟩:=x;exact p.lt
 | dK kvs=>obtain ⟨_,_,_,_,o,_,_,e,_⟩:=x;exact Heap.lt_size e
 | dT kvs=>obtain ⟨_,_,_,_,o,_,_,e,_⟩:=x;exact Heap.lt_size e
 | set S n=>obtain ⟨o,_,_,_,e,_⟩:=x;exact Heap.lt_size e
 | ins C dx fs=>obtain ⟨_,_,_,e,_⟩:=x;exact Heap.lt_size e
 | own y=>obtain ⟨_,e⟩:=x;exact Heap.lt_size e
 | xd fs=>obtain ⟨_,⟨_,_,_,e,_⟩,_⟩:=x;exact Heap.lt_size e
 | rng lo hi=>obtain ⟨_,_,_,e⟩:=x;exact Heap.lt_size e
 | frz ob u=>obtain ⟨e,_⟩:=x;exact Heap.lt_size e
 | tbl ps=>exact Heap.lt_size (show h.get? a=some _ from x)
 | met f y=>exact Heap.lt_size (show h.get? a=some _ from x)
 | ext φ=>obtain ⟨_,⟨_,e⟩,_⟩:=x;exact Heap.lt_size e
theorem Paired.mapP {α β:Type} {F G:α→β→Prop}:∀ {l₁:List α} {l₂:List β},Paired F l₁ l₂→(∀ a b,F a b→G a b)→Paired G l₁ l₂
 | _,_,.nil,_=>.nil
 | _,_,.cons r t,f=>.cons (f _ _ r) (Paired.mapP t f)
theorem a0w.stay (x:a0w P w H h a o) (k:∀ b u,(b=a∨H b=some (.own a))→h.get? b=some u→h'.get? b=some u)
  (ho:∀ b,H b=some (.own a)→H' b=some (.own a)) (ht:∀ b xs,H b=some (.tup xs)→H' b=some (.tup xs)):a0w P w H' h' a o:=by
 induction o with
 | lst xs=>obtain ⟨z,its,n,r,e⟩:=x;exact ⟨z,its,n,r,k _ _ (.inl rfl) e⟩
 | tup xs=>obtain ⟨z,its,r,ob,e,c⟩:=x;exact ⟨z,its,r,ob,k _ _ (.inl rfl) e,c⟩
 | dK kvs=>obtain ⟨z,y,vs,r,ob,es,ep,e,c⟩:=x;exact ⟨z,y,vs,r,ob,es,ep,k _ _ (.inl rfl) e,c⟩
 | dT kvs =>
  obtain ⟨z,y,xs,r,ob,es,ep,e,c⟩:=x
  exact ⟨z,y,xs,Paired.mapP r fun p q z=>⟨z.1,ht _ _ z.2.1,z.2.2⟩,ob,es,ep,k _ _ (.inl rfl) e,c⟩
 | set S n=>obtain ⟨ob,es,ep,t,e,c⟩:=x;exact ⟨ob,es,ep,t,k _ _ (.inl rfl) e,c⟩
 | ins C dx fs =>
  obtain ⟨d,z,ne,e,mA,⟨od,es,ep,e2,c⟩,r⟩:=x
  exact ⟨ho _ d,z,ne,k _ _ (.inl rfl) e,mA,⟨od,es,ep,k _ _ (.inr d) e2,c⟩,r⟩
 | own y=>obtain ⟨ob,e⟩:=x;exact ⟨ob,k _ _ (.inl rfl) e⟩
 | xd fs=>obtain ⟨mA,⟨od,es,ep,e,c⟩,r⟩:=x;exact ⟨mA,⟨od,es,ep,k _ _ (.inl rfl) e,c⟩,r⟩
 | rng lo hi=>obtain ⟨t,u,v,e⟩:=x;exact ⟨t,u,v,k _ _ (.inl rfl) e⟩
 | frz ob u ih=>obtain ⟨e,q⟩:=x;exact ⟨k _ _ (.inl rfl) e,ih q⟩
 | tbl ps =>
  have e:h.get? a=some { cls:=.none,data:=.fields ps }:=x
  show h'.get? a=some { cls:=.none,data:=.fields ps }
  exact k a _ (.inl rfl) e
 | met f y =>
  have e:h.get? a=some (PySem.W.methodObj (.ref f) (.ref y)):=x
  show h'.get? a=some (PySem.W.methodObj (.ref f) (.ref y))
  exact k a _ (.inl rfl) e
 | ext φ=>obtain ⟨p,⟨o,e⟩,st⟩:=x;exact ⟨st _ _ p fun o q=>k _ _ (.inl rfl) q,⟨o,k _ _ (.inl rfl) e⟩,st⟩
theorem HOk.lt (x:HOk P w H h) (e:H a=some o):a < h.objs.size:=(x a o e).lt
theorem HOk.fresh (x:HOk P w H h) (e:h.objs.size≤a):H a=none:=by
 cases q:H a with
 | none=>rfl
 | some u=>exact absurd (Nat.lt_of_lt_of_le (x.lt q) e) (Nat.lt_irrefl _)
theorem HOk.kept (x:HOk P w H h) (k:∀ b u,h.get? b=some u→h'.get? b=some u):HOk P w H h':=fun a o e =>
 (x a o e).stay (fun b u _ q=>k b u q) (fun _ q=>q) fun _ _ q=>q
theorem HOk.laid (x:HOk P w H h) (k:∀ b u,h.get? b=some u→h'.get? b=some u) (hp:h.objs.size≤a) (new:a0w P w (upd H a o) h' a o):HOk P w (upd H a o) h':=fun b u e=>by
 have hn:=x.fresh hp
 by_cases hb:b=a
 ·subst hb;rw [a0b] at e;cases e;exact new
 ·rw [a0r hb] at e
  exact (x b u e).stay (fun c v _ q=>k c v q) (fun c q=>by rw [a0r (a0H q hn)];exact q) fun c xs q=>by rw [a0r (a0H q hn)];exact q
end
def Rd (H:Hp) (a:Addr) (u:HO):Prop:=H a=some u∨∃ o,H a=some (.frz o u)
theorem Rd.ok {P:Program} {w:World} {H:Hp} {h:Heap} {a:Addr} {u:HO} (r:Rd H a u) (x:HOk P w H h):a0w P w H h a u:=by
 rcases r with r | ⟨o,r⟩
 ·exact x a u r
 ·obtain ⟨_,q⟩:=x a _ r
  exact q
def Mut:Option HO→Prop
 | some (.lst _)=>True
 | some (.dK _)=>True
 | some (.dT _)=>True
 | some (.set _ _)=>True
 | some (.ins _ _ _)=>True
 | some (.ext _)=>True
 | _=>False
section
variable {P:Program} {w:World} {H:Hp} {h h':Heap} {x e:Addr} {o':HO}
theorem HOk.write (ok:HOk P w H h) (mu:Mut (H x)) (he:e=x∨H e=some (.own x)) (k:∀ b u,b≠e→h.get? b=some u→h'.get? b=some u) (heo:∃ u,h'.get? e=some u)
  (new:a0w P w (upd H x o') h' x o'):HOk P w (upd H x o') h':=fun b u q=>by
 have nown:∀ c y,H c=some (.own y)→c≠x:=fun c y r z=>by subst z;rw [r] at mu;exact mu
 have ntup:∀ c xs,H c=some (.tup xs)→c≠x:=fun c xs r z=>by subst z;rw [r] at mu;exact mu
 by_cases hb:b=x
 ·subst hb;rw [a0b] at q;cases q;exact new
 ·rw [a0r hb] at q
  by_cases hbe:b=e
  ·have q':H b=some (.own x):=by
    rcases he with z | z
    ·exact absurd (hbe.trans z) hb
    ·rw [hbe];exact z
   rw [q] at q';cases q'
   obtain ⟨v,hv⟩:=heo
   exact ⟨v,by rw [hbe];exact hv⟩
  ·refine (ok b u q).stay (fun c v hc r=>k c v ?_ r) (fun c r=>by rw [a0r (nown c b r)];exact r) fun c xs r=>by rw [a0r (ntup c xs r)];exact r
   rcases hc with rfl | hc
   ·exact hbe
   ·rintro rfl
    rcases he with z | z
    ·exact nown c b hc z
    ·rw [hc] at z;cases z;exact hb rfl
end
structure Un (fs ex:List Addr) (H H':Hp) (h h':Heap):Prop where
 keep:∀ b o,h.get? b=some o→H b=none→b∉fs→b∉ex→h'.get? b=some o
 slot:∀ b o,h.get? b=some o→H b=none→b∈fs→b∉ex→∃ sl,h'.get? b=some { o with slots:=sl }
 free:∀ b o,h.get? b=some o→H b=none→b∉ex→H' b=none
 there:∀ b o,h.get? b=some o→b∉ex→∃ o',h'.get? b=some o'
 tups:∀ b xs,H b=some (.tup xs)→H' b=some (.tup xs)
 frzs:∀ b o u,H b=some (.frz o u)→H' b=some (.frz o u)
 tbls:∀ b ps,H b=some (.tbl ps)→∃ more,H' b=some (.tbl (ps++more))
section
variable {fs fs' ex ex':List Addr} {H H1 H2:Hp} {h h1 h2 h':Heap} {a x e:Addr} {o:HO}
theorem Un.any (u:Un fs ex H H1 h h1) {b:Addr} {ob:Obj} (q:h.get? b=some ob) (n:H b=none) (hx:b∉ex):∃ sl,h1.get? b=some { ob with slots:=sl }:=by
 by_cases hb:b∈fs
 ·exact u.slot b ob q n hb hx
 ·exact ⟨ob.slots,u.keep b ob q n hb hx⟩
theorem Un.kept (k:∀ b u,h.get? b=some u→h'.get? b=some u):Un fs ex H H h h' :=
 ⟨fun b ob q _ _ _=>k b ob q,fun b ob q _ _ _=>⟨ob.slots,k b ob q⟩,fun _ _ _ n _=>n,fun b ob q _=>⟨ob,k b ob q⟩,fun _ _ q=>q,fun _ _ _ q=>q,fun _ ps q=>⟨#[],by rw [q];simp⟩⟩
theorem Un.refl:Un fs ex H H h h:=Un.kept fun _ _ q=>q
theorem Un.laid (k:∀ b u,h.get? b=some u→h'.get? b=some u) (hp:h.objs.size≤a) (hn:H a=none):Un fs ex H (upd H a o) h h' where
 keep:=fun b u q _ _ _=>k b u q
 slot:=fun b u q _ _ _=>⟨u.slots,k b u q⟩
 free:=fun b u q n _=>by rw [a0r (Nat.ne_of_lt (Nat.lt_of_lt_of_le (Heap.lt_size q) hp))];exact n
 there:=fun b u q _=>⟨u,k b u q⟩
 tups:=fun b xs q=>by rw [a0r (a0H q hn)];exact q
 frzs:=fun b u xs q=>by rw [a0r (a0H q hn)];exact q
 tbls:=fun b ps q=>⟨#[],by rw [a0r (a0H q hn),q];simp⟩
theorem Un.write (mu:Mut (H x)) (he:e=x∨H e=some (.own x)) (k:∀ b u,b≠e→h.get? b=some u→h'.get? b=some u) (heo:∃ u,h'.get? e=some u):Un fs ex H (upd H x o) h h':=by
 have hx:∀ b,H b=none→b≠x:=fun b n z=>by subst z;rw [n] at mu;exact mu
 have hb:∀ b,H b=none→b≠e:=fun b n z=>by
  subst z
  rcases he with r | r
  ·exact hx b n r
  ·rw [n] at r;cases r
 have hm:∀ b u,H b=some u→¬ Mut (some u)→b≠x:=fun b u q nm z=>by subst z;rw [q] at mu;exact nm mu
 refine ⟨fun b u q n _ _=>k b u (hb b n) q,fun b u q n _ _=>⟨u.slots,k b u (hb b n) q⟩,fun b u q n _=>by rw [a0r (hx b n)];exact n,fun b u q _=>?_,
  fun b xs q=>by rw [a0r (hm b _ q fun z=>z)];exact q,fun b u xs q=>by rw [a0r (hm b _ q fun z=>z)];exact q,fun b ps q=>⟨#[],by rw [a0r (hm b _ q fun z=>z),q];simp⟩⟩
 by_cases hbe:b=e
 ·subst hbe;exact heo
 ·exact ⟨u,k b u hbe q⟩
end
def trk (h:Heap) (H:Hp):List Addr:=(List.range h.objs.size).filter fun a=>(H a).isSome
def a8T (h:Heap) (H:Hp):Heap:=PySem.W.hideAll h (trk h H)
theorem a7j (h:Heap) (H:Hp):(a8T h H).objs.size=h.objs.size:=PySem.W.hideAll_size _ _
theorem a8V {h:Heap} {H:Hp} {b:Addr} {o:Obj} (e:h.get? b=some o) (n:H b=none):(a8T h H).get? b=some o :=
 PySem.W.hideAll_get _ e fun hm=>by
  have q:(H b).isSome=true:=(List.mem_filter.mp hm).2
  rw [n] at q;simp at q
theorem b0B {h:Heap} {H:Hp} {b:Addr} {o:Obj} (e:(a8T h H).get? b=some o):h.get? b=some o∧H b=none:=by
 have e':h.get? b=some o:=PySem.W.of_hideAll (trk h H) e
 refine ⟨e',?_⟩
 cases q:H b with
 | none=>rfl
 | some x =>
  have hm:b∈trk h H:=List.mem_filter.mpr ⟨List.mem_range.mpr (Heap.lt_size e'),by simp [q]⟩
  have z:(a8T h H).get? b=none:=PySem.W.hideAll_none (trk h H) hm
  rw [z] at e;cases e
def b0C (g h:Heap) (L:Addr):List (Addr × Obj):=(List.range h.objs.size).filterMap fun a=>if a=L∨(g.get? a).isSome=true then none else (h.get? a).map fun o=>(a,o)
def rest (g h:Heap) (L d:Addr):List (Addr × Obj):=(b0C g h L).filter fun p=>decide (p.1≠d)
structure Mod (K:PySem.W.Frag) (mg:Str→Option Value) (base:Heap):Prop where
 kin:K.In base
 glob:base.Ns mainGlobals mg
 blt:∃ mb,base.Ns builtinsNs mb∧∀ x:Str,x≠"__name__"→mb x=bootBuiltins x
 nolimit:base.NoLimit
structure Cx where
 prog:Program
 w:World
 K:PySem.W.Frag
 mg:Str→Option Value
 base:Heap
 A:Around
 N:List Str
 s₀:Shared
 H₀:Hp
 env:Env
 outer:List Env
 stack:List Env
 ex:List Addr
 fn:Str→Bool
 calm:Bool
 pn:List (Addr × Obj)
 xe:Value→Shared→Prop
def frs (l:List Env):List Addr:=l.filterMap (·.frame)
abbrev Cx.fs (X:Cx):List Addr:=frs X.outer
def Vis (sc:Scope) (x:Str):Prop:=sc.names.lookup x=some .local∨sc.names.lookup x=some .cell∨sc.names.lookup x=some .free
def Loc (sc:Scope) (x:Str):Prop:=sc.names.lookup x=some .local∨sc.names.lookup x=some .cell
def Look (env:Env) (h:Heap) (m:Str→Option Value) (x:Str) (u:Value):Prop :=
 (env.kindOf x=some .local∧m x=some u)∨((env.kindOf x=some .cell∨env.kindOf x=some .free)∧∃ c,env.cells.lookup x=some c∧h.IsCell c (some u))
structure Cx.Ok (X:Cx):Prop where
 mod:Mod X.K X.mg X.base
 kind:X.env.scope.kind=.function
 glob:X.env.globals=mainGlobals
 blt:X.env.builtins=builtinsNs
 above:X.s₀.heap.objs.size≤X.env.locals
 inj:∀ x y c,X.env.cells.lookup x=some c→X.env.cells.lookup y=some c→x=y
 has:∀ x,(X.env.kindOf x=some .cell∨X.env.kindOf x=some .free)→∃ c,X.env.cells.lookup x=some c
 cab:∀ x c,X.fn x=true→X.env.cells.lookup x=some c→X.s₀.heap.objs.size≤c
 hd:X.calm=true→X.A.handled=none
 frames:X.A.frames=some X.stack
 stk:X.stack=X.outer∨(X.stack=X.env :: X.outer∧X.env.frame=some X.env.locals)
 exf:∀ b∈X.ex,b≠X.env.locals∧∀ x c,X.env.cells.lookup x=some c→c≠b
 bs:∀ b o,X.base.get? b=some o→X.s₀.heap.get? b=some o∧X.H₀ b=none
 bsz:X.base.objs.size≤X.s₀.heap.objs.size
 noex:∀ b o,X.base.get? b=some o→b∉X.ex
 exfs:∀ b∈X.ex,b∉X.fs
 funs:X.s₀.heap.FunFrames X.base X.outer
 frf:∀ b∈X.fs,X.H₀ b=none
structure Inv (X:Cx) (pins:List (Addr × Obj)) (σ:List (Option V)) (H:Hp) (s:Shared):Prop where
 ok:X.Ok
 os:s.os=X.s₀.os
 bare:AllBare s.gens
 base:Un X.fs X.ex X.H₀ H X.s₀.heap s.heap
 loc:∃ m,s.heap.Ns X.env.locals m∧∀ (i:Nat) (x:Str) (v:V),X.N[i]?=some x→σ[i]?=some (some v)→Vis X.env.scope x→∃ u,a0U v u∧Look X.env s.heap m x u
 cell:∀ x c,X.env.cells.lookup x=some c→∃ v,s.heap.IsCell c v
 free:H X.env.locals=none
 freeC:∀ x c,X.env.cells.lookup x=some c→H c=none
 pin:∀ p∈X.pn++pins,s.heap.get? p.1=some p.2∧H p.1=none∧p.1≠X.env.locals∧p.1∉X.fs∧∀ v,p.2.data≠.cell v
 hok:HOk X.prog X.w H s.heap
 len:σ.length=X.N.length
section
variable {X:Cx} {pins:List (Addr × Obj)} {σ:List (Option V)} {H H':Hp} {s:Shared} {h':Heap}
theorem Cx.Ok.nofr (ok:X.Ok) {b:Addr} {o:Obj} (e:X.base.get? b=some o):b∉X.fs:=fun hb=>by
 have:=(ok.funs.mem hb).1
 rw [e] at this;cases this
theorem Inv.bs (I:Inv X pins σ H s):∀ b o,X.base.get? b=some o→s.heap.get? b=some o∧H b=none:=fun b o e =>
 ⟨I.base.keep b o (I.ok.bs b o e).1 (I.ok.bs b o e).2 (I.ok.nofr e) (I.ok.noex b o e),I.base.free b o (I.ok.bs b o e).1 (I.ok.bs b o e).2 (I.ok.noex b o e)⟩
theorem Inv.bk (I:Inv X pins σ H s):∀ b o,X.base.get? b=some o→s.heap.get? b=some o:=fun b o e=>(I.bs b o e).1
theorem Inv.mod (I:Inv X pins σ H s):Mod X.K X.mg X.base:=I.ok.mod
theorem Inv.kIn (I:Inv X pins σ H s):X.K.In s.heap:=I.ok.mod.kin.keeps I.bk
theorem Inv.lt (I:Inv X pins σ H s):X.env.locals < s.heap.objs.size:=let ⟨_,hn,_⟩:=I.loc;hn.lt
theorem Inv.sz (I:Inv X pins σ H s):X.s₀.heap.objs.size≤s.heap.objs.size:=Nat.le_trans I.ok.above (Nat.le_of_lt I.lt)
theorem Inv.nofs (I:Inv X pins σ H s) {a:Addr} (h:s.heap.objs.size≤a):a∉X.fs:=fun hb=>by
 obtain ⟨_,o,ho,_⟩:=I.ok.funs.mem hb
 exact absurd (Nat.lt_of_lt_of_le (Heap.lt_size ho) (Nat.le_trans I.sz h)) (Nat.lt_irrefl _)
theorem Inv.cne (I:Inv X pins σ H s):∀ x c,X.env.cells.lookup x=some c→c≠X.env.locals:=fun x c e z=>by
 obtain ⟨v,o,ho,hd⟩:=I.cell x c e
 obtain ⟨m,⟨o',es,ep,ho',hd',_⟩,_⟩:=I.loc
 rw [z,ho'] at ho;cases ho;rw [hd'] at hd;cases hd
theorem Inv.funs (I:Inv X pins σ H s):s.heap.FunFrames X.base X.outer:=by
 have all:∀ (l:List Env),(∀ b∈frs l,b∈X.fs)→X.s₀.heap.FunFrames X.base l→s.heap.FunFrames X.base l:=by
  intro l
  induction l with
  | nil=>intro _ _;trivial
  | cons env r ih =>
   intro hs hl
   obtain ⟨hk,⟨L,o,hf,hn,ho,hd⟩,hr⟩:=hl
   have hL:L∈X.fs:=hs L (by unfold frs;rw [List.filterMap_cons,hf];exact List.mem_cons_self)
   obtain ⟨sl,e⟩:=I.base.slot L o ho (I.ok.frf L hL) hL fun z=>I.ok.exfs L z hL
   exact ⟨hk,⟨L,_,hf,hn,e,hd⟩,ih (fun b hb=>hs b (by unfold frs;rw [List.filterMap_cons,hf];exact List.mem_cons_of_mem _ hb)) hr⟩
 exact all X.outer (fun _ hb=>hb) I.ok.funs
theorem Inv.stack (I:Inv X pins σ H s):s.heap.FunFrames X.base X.stack:=by
 rcases I.ok.stk with e | ⟨e,hf⟩
 ·rw [e];exact I.funs
 ·rw [e]
  obtain ⟨m,hn,_⟩:=I.loc
  refine .cons (by rw [I.ok.kind];decide) hf hn ?_ I.funs
  exact Heap.get?_none_of_le (Nat.le_trans I.ok.bsz I.ok.above)
theorem Inv.stkSub (I:Inv X pins σ H s):∀ b∈frs X.stack,b∈X.env.locals :: X.fs:=fun b hb=>by
 rcases I.ok.stk with e | ⟨e,hf⟩
 ·rw [e] at hb;exact List.mem_cons_of_mem _ hb
 ·rw [e] at hb
  unfold frs at hb
  rw [List.filterMap_cons,hf] at hb
  exact hb
theorem Inv.stkFree (I:Inv X pins σ H s):∀ b∈frs X.stack,H b=none:=fun b hb=>by
 rcases List.mem_cons.mp (I.stkSub b hb) with e | hb
 ·rw [e];exact I.free
 ·obtain ⟨_,o,ho,_⟩:=I.ok.funs.mem hb
  exact I.base.free b o ho (I.ok.frf b hb) fun z=>I.ok.exfs b z hb
theorem Inv.step {g':Array GenState} {t':Nat} {d':Drawn} {ch:List Addr} (I:Inv X pins σ H s)
  (hch:∀ b∈ch,(b∈X.ex∨X.s₀.heap.objs.size≤b)∧b≠X.env.locals∧(∀ x c,X.env.cells.lookup x=some c→c≠b)∧∀ p∈X.pn++pins,p.1≠b)
  (keep:∀ b o,b≠X.env.locals→b∉X.fs→b∉ch→s.heap.get? b=some o→H b=none→h'.get? b=some o)
  (slot:∀ b o,b≠X.env.locals→b∈X.fs→b∉ch→s.heap.get? b=some o→H b=none→∃ sl,h'.get? b=some { o with slots:=sl }) (free:∀ b o,b∉ch→s.heap.get? b=some o→H b=none→H' b=none)
  (there:∀ b o,b∉ch→s.heap.get? b=some o→∃ o',h'.get? b=some o')
  (tups:∀ b xs,H b=some (.tup xs)→H' b=some (.tup xs)) (frzs:∀ b o u,H b=some (.frz o u)→H' b=some (.frz o u)) (tbls:∀ b ps,H b=some (.tbl ps)→∃ more,H' b=some (.tbl (ps++more)))
  (ns:∀ m,s.heap.Ns X.env.locals m→h'.Ns X.env.locals m) (hok:HOk X.prog X.w H' h') (hg:AllBare g') :
  Inv X pins σ H' { s with heap:=h',gens:=g',drawn:=d',toks:=t' }:=by
 have neL:∀ b o,X.s₀.heap.get? b=some o→b≠X.env.locals:=fun b o e=>Nat.ne_of_lt (Nat.lt_of_lt_of_le (Heap.lt_size e) I.ok.above)
 have neC:∀ b o,X.s₀.heap.get? b=some o→b∉X.ex→b∉ch:=fun b o e hx hb=>by
  rcases (hch b hb).1 with z | z
  ·exact hx z
  ·exact absurd (Nat.lt_of_lt_of_le (Heap.lt_size e) z) (Nat.lt_irrefl _)
 have cellK:∀ x c,X.env.cells.lookup x=some c→∀ v,s.heap.IsCell c v→h'.IsCell c v:=fun x c e v ⟨o,ho,hd⟩=>by
  have nch:c∉ch:=fun z=>(hch c z).2.2.1 x c e rfl
  by_cases hc:c∈X.fs
  ·obtain ⟨sl,q⟩:=slot c o (I.cne x c e) hc nch ho (I.freeC x c e)
   exact ⟨_,q,hd⟩
  ·exact ⟨o,keep c o (I.cne x c e) hc nch ho (I.freeC x c e),hd⟩
 refine ⟨I.ok,I.os,hg,⟨fun b o e n hb hx=>?_,fun b o e n hb hx=>?_,fun b o e n hx=>?_,fun b o e hx=>?_,fun b xs e=>tups b xs (I.base.tups b xs e),fun b o xs e=>frzs b o xs (I.base.frzs b o xs e),fun b ps e=>?_⟩,?_,fun x c e=>?_,?_,fun x c e=>?_,fun p hp=>?_,hok,I.len⟩
 ·exact keep b o (neL b o e) hb (neC b o e hx) (I.base.keep b o e n hb hx) (I.base.free b o e n hx)
 ·obtain ⟨sl,e1⟩:=I.base.slot b o e n hb hx
  obtain ⟨sl',e2⟩:=slot b _ (neL b o e) hb (neC b o e hx) e1 (I.base.free b o e n hx)
  exact ⟨sl',e2⟩
 ·obtain ⟨o',e1⟩:=I.base.there b o e hx
  exact free b o' (neC b o e hx) e1 (I.base.free b o e n hx)
 ·obtain ⟨o',e1⟩:=I.base.there b o e hx
  exact there b o' (neC b o e hx) e1
 ·obtain ⟨m1,e1⟩:=I.base.tbls b ps e
  obtain ⟨m2,e2⟩:=tbls b _ e1
  exact ⟨m1++m2,by rw [e2,Array.append_assoc]⟩
 ·obtain ⟨m,hn,hl⟩:=I.loc
  refine ⟨m,ns m hn,fun i x v e1 e2 e3=>?_⟩
  obtain ⟨u,r,l⟩:=hl i x v e1 e2 e3
  refine ⟨u,r,?_⟩
  rcases l with l | ⟨k,c,e,z⟩
  ·exact .inl l
  ·exact .inr ⟨k,c,e,cellK x c e _ z⟩
 ·obtain ⟨v,z⟩:=I.cell x c e
  exact ⟨v,cellK x c e v z⟩
 ·obtain ⟨m,⟨o,_,_,ho,_⟩,_⟩:=I.loc
  exact free _ o (fun z=>(hch _ z).2.1 rfl) ho I.free
 ·obtain ⟨v,o,ho,hd⟩:=I.cell x c e
  exact free c o (fun z=>(hch c z).2.2.1 x c e rfl) ho (I.freeC x c e)
 ·obtain ⟨e,n,ne,nf,d⟩:=I.pin p hp
  have nch:p.1∉ch:=fun z=>(hch p.1 z).2.2.2 p hp rfl
  exact ⟨keep p.1 p.2 ne nf nch e n,free p.1 p.2 nch e n,ne,nf,d⟩
theorem Inv.un {t':Nat} (I:Inv X pins σ H s) (u:Un X.fs [] H H' s.heap h') (hok:HOk X.prog X.w H' h'):Inv X pins σ H' { s with heap:=h',toks:=t' }:=by
 obtain ⟨m,⟨o,es,ep,ho,r⟩,_⟩:=id I.loc
 obtain ⟨sl,hL⟩:=u.any ho I.free (by simp)
 exact I.step (g':=s.gens) (d':=s.drawn) (ch:=[]) (fun _ z=>nomatch z) (fun b o _ hb _ e n=>u.keep b o e n hb (by simp)) (fun b o _ hb _ e n=>u.slot b o e n hb (by simp)) (fun b o _ e n=>u.free b o e n (by simp)) (fun b o _ e=>u.there b o e (by simp)) u.tups u.frzs u.tbls (fun m' hm=>by
  obtain ⟨o',es',ep',ho',r'⟩:=hm
  rw [ho] at ho';cases ho'
  exact ⟨_,es',ep',hL,r'⟩) hok I.bare
theorem Inv.call {g':Array GenState} {t':Nat} {d':Drawn} {ch:List Addr} (I:Inv X pins σ H s) (u:Un (frs X.stack) ch H H' s.heap h') (hok:HOk X.prog X.w H' h') (hg:AllBare g')
  (hch:∀ b∈ch,(b∈X.ex∨X.s₀.heap.objs.size≤b)∧b≠X.env.locals∧(∀ x c,X.env.cells.lookup x=some c→c≠b)∧∀ p∈X.pn++pins,p.1≠b) :
  Inv X pins σ H' { s with heap:=h',gens:=g',drawn:=d',toks:=t' }:=by
 obtain ⟨m,⟨o,es,ep,ho,r⟩,_⟩:=id I.loc
 obtain ⟨sl,hL⟩:=u.any ho I.free fun z=>(hch _ z).2.1 rfl
 exact I.step (ch:=ch) hch (fun b o hL hb hc e n=>u.keep b o e n (fun z=>(List.mem_cons.mp (I.stkSub b z)).elim hL hb) hc) (fun b o _ _ hc e n=>u.any e n hc) (fun b o hc e n=>u.free b o e n hc) (fun b o hc e=>u.there b o e hc) u.tups u.frzs u.tbls (fun m' hm=>by
  obtain ⟨o',es',ep',ho',r'⟩:=hm
  rw [ho] at ho';cases ho'
  exact ⟨_,es',ep',hL,r'⟩) hok hg
theorem Inv.turned {t':Nat} {it:Addr} (I:Inv X pins σ H s) (k:∀ b o,b≠it→s.heap.get? b=some o→h'.get? b=some o) (hn:H it=none) (hL:it≠X.env.locals)
  (h1:it∈X.ex∨X.s₀.heap.objs.size≤it) (h2:∀ x c,X.env.cells.lookup x=some c→c≠it) (h3:∀ p∈X.pn++pins,p.1≠it):Inv X pins σ H { s with heap:=h',toks:=t' }:=by
 have nit:∀ b u,H b=some u→b≠it:=fun b u e z=>by rw [z,hn] at e;cases e
 refine I.step (g':=s.gens) (d':=s.drawn) (ch:=[it]) (fun b hb=>?_) (fun b o _ _ hc e _=>k b o (fun z=>hc (by simp [z])) e) (fun b o _ _ hc e _=>⟨o.slots,k b o (fun z=>hc (by simp [z])) e⟩) (fun _ _ _ _ n=>n)
  (fun b o hc e=>⟨o,k b o (fun z=>hc (by simp [z])) e⟩) (fun _ _ e=>e) (fun _ _ _ e=>e) (fun b ps e=>⟨#[],by rw [e];simp⟩) (fun m hm=>?_) (fun b u e=>?_) I.bare
 ·have e:b=it:=by simpa using hb
  subst e
  exact ⟨h1,hL,h2,h3⟩
 ·obtain ⟨o,es,ep,ho,r⟩:=hm
  exact ⟨o,es,ep,k _ o (Ne.symm hL) ho,r⟩
 ·refine (I.hok b u e).stay (fun c v hc q=>k c v ?_ q) (fun _ q=>q) fun _ _ q=>q
  rcases hc with z | z
  ·rw [z];exact nit b u e
  ·exact nit c _ z
theorem Inv.tok (I:Inv X pins σ H s) (t:Nat):Inv X pins σ H { s with toks:=t }:=I.un (h':=s.heap) (t':=t) Un.refl I.hok
theorem Inv.kept {t':Nat} (I:Inv X pins σ H s) (k:∀ b u,s.heap.get? b=some u→h'.get? b=some u):Inv X pins σ H { s with heap:=h',toks:=t' }:=I.un (Un.kept k) (I.hok.kept k)
theorem Inv.laid {a:Addr} {o:HO} {t':Nat} (I:Inv X pins σ H s) (k:∀ b u,s.heap.get? b=some u→h'.get? b=some u) (hp:s.heap.objs.size≤a) (new:a0w X.prog X.w (upd H a o) h' a o) :
  Inv X pins σ (upd H a o) { s with heap:=h',toks:=t' }:=I.un (Un.laid k hp (I.hok.fresh hp)) (I.hok.laid k hp new)
theorem Inv.write {x e:Addr} {o:HO} {t':Nat} (I:Inv X pins σ H s) (mu:Mut (H x)) (he:e=x∨H e=some (.own x)) (k:∀ b u,b≠e→s.heap.get? b=some u→h'.get? b=some u) (heo:∃ u,h'.get? e=some u)
  (new:a0w X.prog X.w (upd H x o) h' x o):Inv X pins σ (upd H x o) { s with heap:=h',toks:=t' }:=I.un (Un.write mu he k heo) (I.hok.write mu he k heo new)
theorem Inv.weak {σ':List (Option V)} (I:Inv X pins σ H s) (hl:σ'.length=σ.length) (w:∀ (i:Nat) v,σ'[i]?=some (some v)→σ[i]?=some (some v)):Inv X pins σ' H s :=
 ⟨I.ok,I.os,I.bare,I.base,let ⟨m,hn,hl'⟩:=I.loc;⟨m,hn,fun i x v e1 e2 e3=>hl' i x v e1 (w i v e2) e3⟩,I.cell,I.free,I.freeC,I.pin,I.hok,hl.trans I.len⟩
theorem Inv.pins_of {pins':List (Addr × Obj)} (I:Inv X pins σ H s) (h:∀ p∈pins',s.heap.get? p.1=some p.2∧H p.1=none∧p.1≠X.env.locals∧p.1∉X.fs∧∀ v,p.2.data≠.cell v):Inv X pins' σ H s :=
 ⟨I.ok,I.os,I.bare,I.base,I.loc,I.cell,I.free,I.freeC,fun p hp=>(List.mem_append.mp hp).elim (fun z=>I.pin p (List.mem_append_left _ z)) (h p),I.hok,I.len⟩
theorem a5H {N:List Str} (hN:N.Nodup) {i j:Nat} {x:Str} (a:N[i]?=some x) (b:N[j]?=some x):i=j:=by
 obtain ⟨h1,e1⟩:=List.getElem?_eq_some_iff.mp a
 obtain ⟨h2,e2⟩:=List.getElem?_eq_some_iff.mp b
 exact (List.getElem_inj hN).mp (e1.trans e2.symm)
theorem a4B {M:Model} {A:Around} {E:Value→Shared→Prop} {i:Nat} {x:Str} {v:V} {u:Value} {Q:Unit→Shared→Prop} (I:Inv X pins σ H s) (hN:X.N.Nodup) (hi:X.N[i]?=some x) (hx:Loc X.env.scope x) (r:a0U v u)
  (h:∀ s',Inv X pins (σ.set i (some v)) H s'→(∃ a,Heap.SameBut a s.heap s'.heap∧(a=X.env.locals∨X.env.cells.lookup x=some a))→Q () s') (hf:X.fn x=true∨X.env.scope.names.lookup x=some .local:=by first | exact .inl rfl | exact .inr rfl | assumption):wpAny M A (storeName X.env x u) Q E s:=by
 obtain ⟨m,hn,hl⟩:=id I.loc
 have hcls:(X.env.scope.kind == .class || (X.env.scope.kind == .module && X.env.locals != X.env.globals))=false:=by rw [I.ok.kind];rfl
 have hiσ:i < σ.length:=by rw [I.len];exact (List.getElem?_eq_some_iff.mp hi).1
 have cne:=I.cne
 have tracked:∀ {a:Addr} {h':Heap},(∃ o,s.heap.get? a=some o∧H a=none)→Heap.SameBut a s.heap h'→HOk X.prog X.w H h':=fun {a h'} ha hs b ob e=>by
  obtain ⟨_,_,hfree⟩:=ha
  refine (I.hok b ob e).stay (fun c w' hc q=>(hs.2 c ?_).trans q) (fun _ q=>q) fun _ _ q=>q
  rintro rfl
  rcases hc with rfl | hc
  ·rw [hfree] at e;cases e
  ·rw [hfree] at hc;cases hc
 rcases hx with hk | hk
 ·refine wpAny_storeName_local hk hn (fun h' hn' hs=>?_) hcls
  obtain ⟨oL,_,_,hoL,_⟩:=id hn
  refine h _ ⟨I.ok,I.os,I.bare,⟨fun b o e n hb hx=>?_,fun b o e n hb hx=>?_,I.base.free,fun b o e hx=>?_,I.base.tups,I.base.frzs,I.base.tbls⟩,⟨_,hn',fun j y v' e1 e2 e3=>?_⟩,fun y c e=>?_,I.free,I.freeC,fun p hp=>?_,tracked ⟨oL,hoL,I.free⟩ hs,by simpa using I.len⟩ ⟨_,hs,.inl rfl⟩
  ·exact (hs.2 b (Nat.ne_of_lt (Nat.lt_of_lt_of_le (Heap.lt_size e) I.ok.above))).trans (I.base.keep b o e n hb hx)
  ·obtain ⟨sl,e1⟩:=I.base.slot b o e n hb hx
   exact ⟨sl,(hs.2 b (Nat.ne_of_lt (Nat.lt_of_lt_of_le (Heap.lt_size e) I.ok.above))).trans e1⟩
  ·obtain ⟨o',e1⟩:=I.base.there b o e hx
   exact ⟨o',(hs.2 b (Nat.ne_of_lt (Nat.lt_of_lt_of_le (Heap.lt_size e) I.ok.above))).trans e1⟩
  ·by_cases hj:j=i
   ·subst hj
    rw [hi] at e1;cases e1
    rw [List.getElem?_set_self hiσ] at e2
    cases e2
    exact ⟨u,r,.inl ⟨hk,by simp⟩⟩
   ·rw [List.getElem?_set_ne (Ne.symm hj)] at e2
    obtain ⟨u',r',q⟩:=hl j y v' e1 e2 e3
    refine ⟨u',r',?_⟩
    rcases q with ⟨k,e⟩ | ⟨k,c,e,z⟩
    ·refine .inl ⟨k,?_⟩
     have:y≠x:=fun e=>hj (a5H hN e1 (e▸hi))
     simp [this,e]
    ·exact .inr ⟨k,c,e,z.sameBut hs (cne y c e)⟩
  ·obtain ⟨w',z⟩:=I.cell y c e
   exact ⟨w',z.sameBut hs (cne y c e)⟩
  ·obtain ⟨e,n,ne,nf,d⟩:=I.pin p hp
   exact ⟨(hs.2 p.1 ne).trans e,n,ne,nf,d⟩
 ·have hfn:X.fn x=true:=by
   rcases hf with z | z
   ·exact z
   ·rw [z] at hk;cases hk
  obtain ⟨c,hc⟩:=I.ok.has x (.inl hk)
  obtain ⟨w',z⟩:=I.cell x c hc
  refine wpAny_storeName_cell I.ok.kind hk hc z (fun h' hc' hs=>?_)
  obtain ⟨oc,hoc,hocd⟩:=id z
  refine h { s with heap:=h' } ⟨I.ok,I.os,I.bare,⟨fun b o e n hb hx=>?_,fun b o e n hb hx=>?_,I.base.free,fun b o e hx=>?_,I.base.tups,I.base.frzs,I.base.tbls⟩,⟨m,hn.sameBut hs (Ne.symm (cne x c hc)),fun j y v' e1 e2 e3=>?_⟩,fun y c' e=>?_,I.free,I.freeC,fun p hp=>?_,tracked ⟨oc,hoc,I.freeC x c hc⟩ hs,by simpa using I.len⟩ ⟨c,hs,.inr hc⟩
  ·exact (hs.2 b (Nat.ne_of_lt (Nat.lt_of_lt_of_le (Heap.lt_size e) (I.ok.cab x c hfn hc)))).trans (I.base.keep b o e n hb hx)
  ·obtain ⟨sl,e1⟩:=I.base.slot b o e n hb hx
   exact ⟨sl,(hs.2 b (Nat.ne_of_lt (Nat.lt_of_lt_of_le (Heap.lt_size e) (I.ok.cab x c hfn hc)))).trans e1⟩
  ·obtain ⟨o',e1⟩:=I.base.there b o e hx
   exact ⟨o',(hs.2 b (Nat.ne_of_lt (Nat.lt_of_lt_of_le (Heap.lt_size e) (I.ok.cab x c hfn hc)))).trans e1⟩
  ·by_cases hj:j=i
   ·subst hj
    rw [hi] at e1;cases e1
    rw [List.getElem?_set_self hiσ] at e2
    cases e2
    exact ⟨u,r,.inr ⟨.inl hk,c,hc,hc'⟩⟩
   ·rw [List.getElem?_set_ne (Ne.symm hj)] at e2
    obtain ⟨u',r',q⟩:=hl j y v' e1 e2 e3
    refine ⟨u',r',?_⟩
    rcases q with q | ⟨k,c',e,z'⟩
    ·exact .inl q
    ·refine .inr ⟨k,c',e,z'.sameBut hs ?_⟩
     rintro rfl
     exact hj (a5H hN e1 (I.ok.inj _ _ _ e hc▸hi))
  ·by_cases hcc:c'=c
   ·subst hcc;exact ⟨_,hc'⟩
   ·obtain ⟨w2,z2⟩:=I.cell y c' e
    exact ⟨w2,z2.sameBut hs hcc⟩
  ·obtain ⟨e,n,ne,nf,d⟩:=I.pin p hp
   refine ⟨(hs.2 p.1 ?_).trans e,n,ne,nf,d⟩
   intro q
   rw [q,hoc] at e
   have q':oc=p.2:=Option.some.inj e
   exact d w' (by rw [←q'];exact hocd)
theorem a5I {M:Model} {A:Around} {E:Value→Shared→Prop} {i:Nat} {x:Str} {v:V} {u:Value} {Q:Unit→Shared→Prop} (I:Inv X pins σ H s) (hN:X.N.Nodup) (hi:X.N[i]?=some x) (hx:Loc X.env.scope x) (r:a0U v u)
  (h:∀ s',Inv X pins (σ.set i (some v)) H s'→Q () s') (hf:X.fn x=true∨X.env.scope.names.lookup x=some .local:=by first | exact .inl rfl | exact .inr rfl | assumption):wpAny M A (storeName X.env x u) Q E s :=
 a4B I hN hi hx r (fun s' I' _=>h s' I') hf
theorem Inv.call' {s':Shared} {ch:List Addr} (I:Inv X pins σ H s) (ho:s'.os=s.os) (u:Un (frs X.stack) ch H H' s.heap s'.heap) (hok:HOk X.prog X.w H' s'.heap) (hg:AllBare s'.gens)
  (hch:∀ b∈ch,(b∈X.ex∨X.s₀.heap.objs.size≤b)∧b≠X.env.locals∧(∀ x c,X.env.cells.lookup x=some c→c≠b)∧∀ p∈X.pn++pins,p.1≠b):Inv X pins σ H' s':=by
 obtain ⟨h',g',d',t',o'⟩:=s'
 have e:o'=s.os:=ho
 subst e
 exact I.call (g':=g') (t':=t') (d':=d') u hok hg hch
end
abbrev XK:=Value→Option Addr→Hp→Prop
abbrev St:=List (Option V)
abbrev VK:=V→Hp→Prop
abbrev TE:=St→Hp→VK→Prop
abbrev TT:=St→Hp→(Bool→Hp→Prop)→Prop
abbrev TA:=St→Hp→(List V→Hp→Prop)→Prop
structure a9U where
 nx:St→Hp→Prop
 rt:VK
 bk:St→Hp→Prop:=fun _ _=>False
 ct:St→Hp→Prop:=fun _ _=>False
abbrev TS:=a9U→St→Hp→Prop
def EP (X:Cx) (pins:List (Addr × Obj)) (σ:St) (Q:VK) (u:Value) (s':Shared):Prop:=∃ v H',Inv X pins σ H' s'∧a0U v u∧Q v H'
def TP (X:Cx) (pins:List (Addr × Obj)) (σ:St) (Q:Bool→Hp→Prop) (b:Bool) (s':Shared):Prop:=∃ H',Inv X pins σ H' s'∧Q b H'
def AP (X:Cx) (pins:List (Addr × Obj)) (σ:St) (Q:List V→Hp→Prop) (us:List Value) (s':Shared):Prop:=∃ vs H',Inv X pins σ H' s'∧a0A vs us∧Q vs H'
def SP (X:Cx) (pins:List (Addr × Obj)) (D:a9U) (f:Flow) (s':Shared):Prop :=
 match f with
 | .next=>∃ σ' H',Inv X pins σ' H' s'∧D.nx σ' H'
 | .brk=>∃ σ' H',Inv X pins σ' H' s'∧D.bk σ' H'
 | .cont=>∃ σ' H',Inv X pins σ' H' s'∧D.ct σ' H'
 | .ret u=>∃ v σ' H',Inv X pins σ' H' s'∧a0U v u∧D.rt v H'
def PE (X:Cx) (e:Expr) (t:TE):Prop :=
 ∀ (pins:List (Addr × Obj)) (s:Shared) (σ:St) (H:Hp) (Q:VK),Inv X pins σ H s→t σ H Q→wpAny (model X.prog X.w) X.A (eval e X.env) (EP X pins σ Q) X.xe s
def PT (X:Cx) (e:Expr) (t:TT):Prop :=
 ∀ (pins:List (Addr × Obj)) (s:Shared) (σ:St) (H:Hp) (Q:Bool→Hp→Prop),Inv X pins σ H s→t σ H Q→wpAny (model X.prog X.w) X.A (isTrue e X.env (eval e X.env)) (TP X pins σ Q) X.xe s
def PW (X:Cx) (e:Expr) (t:TT):Prop :=
 ∀ (whole:Sem Value) (pins:List (Addr × Obj)) (s:Shared) (σ:St) (H:Hp) (Q:Bool→Hp→Prop),Inv X pins σ H s→t σ H Q→wpAny (model X.prog X.w) X.A (isTrue e X.env whole) (TP X pins σ Q) X.xe s
theorem PW.pt {X:Cx} {e:Expr} {t:TT} (h:PW X e t):PT X e t:=h _
def PA (X:Cx) (es:List Expr) (t:TA):Prop :=
 ∀ (pos:Pos) (pins:List (Addr × Obj)) (s:Shared) (σ:St) (H:Hp) (Q:List V→Hp→Prop),Inv X pins σ H s→t σ H Q→wpAny (model X.prog X.w) X.A (spliced (backTo pos (starEach es X.env))) (AP X pins σ Q) X.xe s
def PS (X:Cx) (st:Stmt) (t:TS):Prop :=
 ∀ (pins:List (Addr × Obj)) (s:Shared) (σ:St) (H:Hp) (D:a9U),Inv X pins σ H s→t D σ H→wpAny (model X.prog X.w) X.A (exec st X.env) (SP X pins D) X.xe s
def PSs (X:Cx) (st:List Stmt) (t:TS):Prop :=
 ∀ (pins:List (Addr × Obj)) (s:Shared) (σ:St) (H:Hp) (D:a9U),Inv X pins σ H s→t D σ H→wpAny (model X.prog X.w) X.A (execs st X.env) (SP X pins D) X.xe s
theorem thn {α:Type} {t:Sem α} {Q Q':α→Shared→Prop} {M:Model} {A:Around} {E:Value→Shared→Prop} {s:Shared} (h:wpAny M A t Q E s) (hQ:∀ a s,Q a s→Q' a s):wpAny M A t Q' E s:=wpAny_mono h hQ fun _ _ x=>x
section
variable {X:Cx}
def tVar (i:Nat):TE:=fun σ H Q=>∃ v,σ[i]?=some (some v)∧Q v H
def tC (v:V):TE:=fun _ H Q=>Q v H
theorem pe_var {i:Nat} {x:Str} {pos:Pos} (hN:X.N[i]?=some x) (hv:Vis X.env.scope x) (hd:(x == ("__debug__":Str))=false:=by decide) (hcd:(x == ("__classdict__":Str))=false:=by decide):PE X (.Name x pos) (tVar i):=by
 intro pins s σ H Q I h
 obtain ⟨v,e,h⟩:=h
 obtain ⟨m,hn,hl⟩:=I.loc
 obtain ⟨u,r,l⟩:=hl i x v hN e hv
 have fin:EP X pins σ Q u s:=⟨v,H,I,r,h⟩
 rcases l with ⟨hk,hm⟩ | ⟨hk,c,hc,hcell⟩
 ·exact wpAny_Name (wpAny_loadName_local I.ok.kind hk hn hm fin) hd
 ·rcases hk with hk | hk
  ·exact wpAny_Name (wpAny_loadName_cell I.ok.kind hk hc hcell fin) hd
  ·exact wpAny_Name (wpAny_loadName_free I.ok.kind hk hc hcell fin hcd) hd
theorem a0d {i j pos}:PE X (.Constant (.int i) j pos) (tC (.int i)):=fun _ _ _ H _ I h=>wpAny_Constant_int ⟨.int i,H,I.tok _,⟨_,rfl⟩,h⟩
theorem a2l {b j pos}:PE X (.Constant (.bool b) j pos) (tC (.bl b)):=fun _ _ _ H _ I h=>Constant_bool ⟨.bl b,H,I,rfl,h⟩
def Gl (X:Cx) (x:Str):Prop:=X.env.kindOf x=some .globalImplicit
theorem a7k {E:Value→Shared→Prop} {pins:List (Addr × Obj)} {s:Shared} {σ:St} {H:Hp} {x:Str} {u:Value} {pos:Pos} {Q:Value→Shared→Prop} (I:Inv X pins σ H s) (hg:Gl X x) (hm:X.mg x=some u) (h:Q u s)
  (hd:(x == ("__debug__":Str))=false:=by decide):wpAny (model X.prog X.w) X.A (eval (.Name x pos) X.env) Q E s :=
 Calls.Name_function_global I.ok.kind hg (Calls.loadGlobal_global (by rw [I.ok.glob];exact I.mod.glob.keeps I.bk) hm h) hd
theorem a2S {E:Value→Shared→Prop} {pins:List (Addr × Obj)} {s:Shared} {σ:St} {H:Hp} {x:Str} {u:Value} {pos:Pos} {Q:Value→Shared→Prop} (I:Inv X pins σ H s) (hg:Gl X x) (hm:X.mg x=none) (hv:bootBuiltins x=some u) (h:Q u s)
  (hn:x≠"__name__":=by decide) (hd:(x == ("__debug__":Str))=false:=by decide):wpAny (model X.prog X.w) X.A (eval (.Name x pos) X.env) Q E s:=by
 obtain ⟨mb,h1,h2⟩:=I.mod.blt
 exact Calls.Name_function_global I.ok.kind hg (Calls.loadGlobal_builtin (by rw [I.ok.glob];exact I.mod.glob.keeps I.bk) hm (by rw [I.ok.blt];exact h1.keeps I.bk) ((h2 x hn).trans hv) h) hd
theorem a7l {x:Str} {v:V} {u:Value} {pos:Pos} (hg:Gl X x) (hm:X.mg x=some u) (r:a0U v u) (hd:(x == ("__debug__":Str))=false:=by decide):PE X (.Name x pos) (tC v) :=
 fun _ _ _ H _ I h=>a7k I hg hm ⟨v,H,I,r,h⟩ hd
theorem b0D {x:Str} {v:V} {u:Value} {pos:Pos} (hg:Gl X x) (hm:X.mg x=none) (hv:bootBuiltins x=some u) (r:a0U v u) (hn:x≠"__name__":=by decide) (hd:(x == ("__debug__":Str))=false:=by decide):PE X (.Name x pos) (tC v) :=
 fun _ _ _ H _ I h=>a2S I hg hm hv ⟨v,H,I,r,h⟩ hn hd
def t2I (ta tb:TE) (k:Int→Int→Hp→Prop):St→Hp→Prop:=fun σ H=>ta σ H fun x H1=>tb σ H1 fun y H2=>∃ i j,x=.int i∧y=.int j∧k i j H2
def tMul (ta tb:TE):TE:=fun σ H Q=>t2I ta tb (fun i j H2=>(-(2 ^ 64) < i∧i < 2 ^ 64)∧Q (.int (i * j)) H2) σ H
variable {a b:Expr} {ta tb:TE} {pos:Pos}
def tIsN (ta:TE):TE:=fun σ H Q=>ta σ H fun x H1=>Q (.bl (decide (x=.non))) H1
def tB (t:TE):TT:=fun σ H Q=>t σ H fun x H1=>∃ c,x=.bl c∧Q c H1
theorem a4C {e:Expr} {t:TE} (h:PE X e t) (he:∀ whole,isTrue e X.env whole=(do let v ←whole;standAt e.pos;holding [v] (truthy v)):=by intro _;rfl):PT X e (tB t):=by
 intro pins s σ H Q I hw
 refine isTrue_plain (thn (h pins s σ H _ I hw) fun v s1 ⟨x,H1,I1,r1,q1⟩=>?_) (he _)
 obtain ⟨d,rfl,q⟩:=q1
 cases r1
 exact wpAny_truthy_bool ⟨H1,I1,q⟩
variable {tA tB':TT} {rest:List Expr}
def tAnd (t u:TT):TT:=fun σ H Q=>t σ H fun c H1=>if c=true then u σ H1 Q else Q false H1
def tOr (t u:TT):TT:=fun σ H Q=>t σ H fun c H1=>if c=true then Q true H1 else u σ H1 Q
def tNot (t:TT):TT:=fun σ H Q=>t σ H fun c H1=>Q (!c) H1
theorem a3g (ha:PT X a tA):PW X (.BoolOp .And [a] pos) tA:=by
 intro wh pins s σ H Q I h
 refine isTrue_and (thn (ha pins s σ H Q I h) fun c s1 e=>?_)
 cases c with
 | true=>exact isTrue_and_nil e
 | false=>exact e
theorem a3h (ha:PT X a tA):PW X (.BoolOp .Or [a] pos) tA:=by
 intro wh pins s σ H Q I h
 refine isTrue_or (thn (ha pins s σ H Q I h) fun c s1 e=>?_)
 cases c with
 | false=>exact isTrue_or_nil e
 | true=>exact e
theorem a4D (ha:PT X a tA) (hb:PW X (.BoolOp .And (b :: rest) pos) tB'):PW X (.BoolOp .And (a :: b :: rest) pos) (tAnd tA tB'):=by
 intro wh pins s σ H Q I h
 refine isTrue_and (thn (ha pins s σ H _ I h) fun c s1 ⟨H1,I1,q1⟩=>?_)
 cases c with
 | true=>exact hb wh pins s1 σ H1 Q I1 q1
 | false=>exact ⟨H1,I1,q1⟩
theorem a5g (ha:PT X a tA) (hb:PW X (.BoolOp .Or (b :: rest) pos) tB'):PW X (.BoolOp .Or (a :: b :: rest) pos) (tOr tA tB'):=by
 intro wh pins s σ H Q I h
 refine isTrue_or (thn (ha pins s σ H _ I h) fun c s1 ⟨H1,I1,q1⟩=>?_)
 cases c with
 | true=>exact ⟨H1,I1,q1⟩
 | false=>exact hb wh pins s1 σ H1 Q I1 q1
theorem a3L (ha:PT X a tA):PT X (.UnaryOp .Not a pos) (tNot tA):=by
 intro pins s σ H Q I h
 exact isTrue_not (ha pins s σ H (fun c H1=>Q (!c) H1) I h)
def tAndV (ta tb:TE):TE:=fun σ H Q=>ta σ H fun x H1=>∃ c,x=.bl c∧if c=true then tb σ H1 Q else Q (.bl false) H1
theorem a5J {op} {t:TE} (h:PE X a t):PE X (.BoolOp op [a] pos) t:=fun pins s σ H Q I hw=>BoolOp_one (h pins s σ H Q I hw)
theorem a4E (ha:PE X a ta) (hb:PE X (.BoolOp .And (b :: rest) pos) tb):PE X (.BoolOp .And (a :: b :: rest) pos) (tAndV ta tb):=by
 intro pins s σ H Q I h
 refine BoolOp_and (thn (ha pins s σ H _ I h) fun v s1 ⟨x,H1,I1,r1,q1⟩=>?_)
 obtain ⟨c,rfl,q1⟩:=q1
 cases r1
 refine wpAny_truthy_bool ?_
 cases c with
 | true=>exact hb pins s1 σ H1 Q I1 q1
 | false=>exact ⟨.bl false,H1,I1,rfl,q1⟩
def tIf (t:TT) (ta tb:TE):TE:=fun σ H Q=>t σ H fun c H1=>if c=true then ta σ H1 Q else tb σ H1 Q
theorem a5K {c:Expr} (hc:PT X c tA) (ha:PE X a ta) (hb:PE X b tb):PE X (.IfExp c a b pos) (tIf tA ta tb):=by
 intro pins s σ H Q I h
 refine wpAny_IfExp (thn (hc pins s σ H _ I h) fun d s1 ⟨H1,I1,q1⟩=>?_)
 cases d with
 | true=>exact ha pins s1 σ H1 Q I1 q1
 | false=>exact hb pins s1 σ H1 Q I1 q1
end
def SqL (K:PySem.W.Frag) (H:Hp) (a:Addr) (xs:List V):Prop :=
 Rd H a (.lst xs) ∨
  ∃ (o:Obj) (its:Array Value) (n:Nat),K.lookup a=some o∧o.cls=.type "list"∧o.dict=none∧o.data=.seq its n∧its.size≤sizeLine∧a0A xs its.toList
def SqT (K:PySem.W.Frag) (H:Hp) (a:Addr) (xs:List V):Prop :=
 Rd H a (.tup xs) ∨
  ∃ (o:Obj) (its:Array Value) (n:Nat),K.lookup a=some o∧o.cls=.type "tuple"∧o.data=.seq its n∧its.size≤sizeLine∧a0A xs its.toList
def absV:Value→Option V
 | .none=>some .non
 | .bool b=>some (.bl b)
 | .int i _=>some (.int i)
 | .str x _=>some (.str x)
 | .bytes b _=>some (.byt b)
 | .float b _=>some (.flt b)
 | .ref a=>some (.ref a)
 | .type n=>some (.ty n)
 | _=>none
theorem a0U.abs {x:V} {u:Value} (r:a0U x u):absV u=some x:=by
 cases x with
 | non=>cases r;rfl
 | bl _=>cases r;rfl
 | int _=>obtain ⟨t,rfl⟩:=r;rfl
 | str _=>obtain ⟨t,rfl⟩:=r;rfl
 | byt _=>obtain ⟨t,rfl⟩:=r;rfl
 | flt _=>obtain ⟨t,rfl⟩:=r;rfl
 | ref _=>cases r;rfl
 | ty _=>cases r;rfl
theorem a0U.inj {x y:V} {u:Value} (r:a0U x u) (q:a0U y u):x=y:=Option.some.inj (r.abs.symm.trans q.abs)
theorem a0A.inj:∀ {xs ys:List V} {us:List Value},a0A xs us→a0A ys us→xs=ys
 | _,_,_,.nil,.nil=>rfl
 | _,_,_,.cons r t,.cons r' t'=>by rw [r.inj r',a0A.inj t t']
section
variable {X:Cx} {pins:List (Addr × Obj)} {σ:St} {H:Hp} {s:Shared} {a:Addr} {xs ys:List V}
theorem SqL.of {K:PySem.W.Frag} (h:H a=some (.lst xs)):SqL K H a xs:=.inl (.inl h)
theorem SqT.of {K:PySem.W.Frag} (h:H a=some (.tup xs)):SqT K H a xs:=.inl (.inl h)
theorem Inv.list (I:Inv X pins σ H s) (h:SqL X.K H a xs):∃ its:List Value,a0A xs its∧PlainL s.heap a its.toArray∧xs.length≤sizeLine:=by
 rcases h with h | ⟨o,its,n,hk,hc,hd,hs,hz,r⟩
 ·obtain ⟨z,its,n,r,e⟩:=h.ok I.hok
  exact ⟨its,r,⟨_,n,e,rfl,rfl,rfl⟩,z⟩
 ·refine ⟨its.toList,r,⟨o,n,I.kIn a o hk,hc,hd,by simpa using hs⟩,?_⟩
  have e:=r.length
  simp only [Array.length_toList] at e
  omega
theorem Inv.tuple (I:Inv X pins σ H s) (h:SqT X.K H a xs):∃ its:List Value,a0A xs its∧IsTup s.heap a its.toArray∧xs.length≤sizeLine:=by
 rcases h with h | ⟨o,its,n,hk,hc,hs,hz,r⟩
 ·obtain ⟨z,its,r,p⟩:=h.ok I.hok
  exact ⟨its,r,p.is,z⟩
 ·refine ⟨its.toList,r,⟨o,I.kIn a o hk,hc,n,by simpa using hs⟩,?_⟩
  have e:=r.length
  simp only [Array.length_toList] at e
  omega
theorem Inv.list_inj (I:Inv X pins σ H s) (h:SqL X.K H a xs) (h':SqL X.K H a ys):xs=ys:=by
 obtain ⟨its,r,⟨o,n,e,_,_,d⟩,_⟩:=I.list h
 obtain ⟨its',r',⟨o',n',e',_,_,d'⟩,_⟩:=I.list h'
 rw [e] at e';cases e'
 rw [d] at d'
 injection d' with d1 _
 have:its=its':=by simpa using congrArg Array.toList d1
 subst this
 exact r.inj r'
theorem Inv.tuple_inj (I:Inv X pins σ H s) (h:SqT X.K H a xs) (h':SqT X.K H a ys):xs=ys:=by
 obtain ⟨its,r,⟨o,e,_,n,d⟩,_⟩:=I.tuple h
 obtain ⟨its',r',⟨o',e',_,n',d'⟩,_⟩:=I.tuple h'
 rw [e] at e';cases e'
 rw [d] at d'
 injection d' with d1 _
 have:its=its':=by simpa using congrArg Array.toList d1
 subst this
 exact r.inj r'
end
abbrev Cx.wish (X:Cx) (E:Value→Shared→Prop):Cx:={ X with xe:=E }
abbrev Cx.nox (X:Cx):Cx:=X.wish fun _ _=>False
theorem Cx.Ok.wish {X:Cx} (ok:X.Ok) (E:Value→Shared→Prop):(X.wish E).Ok :=
 ⟨ok.mod,ok.kind,ok.glob,ok.blt,ok.above,ok.inj,ok.has,ok.cab,ok.hd,ok.frames,ok.stk,ok.exf,ok.bs,ok.bsz,ok.noex,ok.exfs,ok.funs,ok.frf⟩
theorem Cx.Ok.unwish {X:Cx} {E:Value→Shared→Prop} (ok:(X.wish E).Ok):X.Ok :=
 ⟨ok.mod,ok.kind,ok.glob,ok.blt,ok.above,ok.inj,ok.has,ok.cab,ok.hd,ok.frames,ok.stk,ok.exf,ok.bs,ok.bsz,ok.noex,ok.exfs,ok.funs,ok.frf⟩
section
variable {X:Cx} {pins:List (Addr × Obj)} {σ:St} {H:Hp} {s:Shared} {E:Value→Shared→Prop}
theorem Inv.wish (I:Inv X pins σ H s) (E:Value→Shared→Prop):Inv (X.wish E) pins σ H s:=⟨I.ok.wish E,I.os,I.bare,I.base,I.loc,I.cell,I.free,I.freeC,I.pin,I.hok,I.len⟩
theorem Inv.unwish (I:Inv (X.wish E) pins σ H s):Inv X pins σ H s:=⟨I.ok.unwish,I.os,I.bare,I.base,I.loc,I.cell,I.free,I.freeC,I.pin,I.hok,I.len⟩
theorem SP.unwish {D:a9U} {f:Flow} {s':Shared} (h:SP (X.wish E) pins D f s'):SP X pins D f s':=by
 cases f with
 | next=>obtain ⟨σ',H',I,q⟩:=h;exact ⟨σ',H',I.unwish,q⟩
 | brk=>obtain ⟨σ',H',I,q⟩:=h;exact ⟨σ',H',I.unwish,q⟩
 | cont=>obtain ⟨σ',H',I,q⟩:=h;exact ⟨σ',H',I.unwish,q⟩
 | ret u=>obtain ⟨v,σ',H',I,r,q⟩:=h;exact ⟨v,σ',H',I.unwish,r,q⟩
theorem PSs.nox {st:List Stmt} {t:TS} (h:PSs X.nox st t):PSs X st t:=fun pins s σ H D I hw =>
 wpAny_mono (h pins s σ H D (I.wish _) hw) (fun _ _ q=>q.unwish) fun _ _ z=>False.elim z
end
section
variable {X:Cx} {st:Stmt} {rest:List Stmt} {t u:TS} {e:Expr} {te:TE} {pos:Pos}
def tNext:TS:=fun D σ H=>D.nx σ H
def tSeq (t u:TS):TS:=fun D σ H=>t { D with nx:=u D } σ H
theorem a0s:PSs X [] tNext:=fun _ _ σ H _ I h=>wpAny_execs_nil ⟨σ,H,I,h⟩
theorem a0f (h1:PS X st t) (h2:PSs X rest u):PSs X (st :: rest) (tSeq t u):=by
 intro pins s σ H D I h
 refine wpAny_execs_cons (thn (h1 pins s σ H { D with nx:=u D } I h) fun f s1 q=>?_)
 cases f with
 | next =>
  obtain ⟨σ',H',I',q⟩:=q
  exact h2 pins s1 σ' H' D I' q
 | ret v=>exact q
 | brk=>exact q
 | cont=>exact q
theorem a0i (h1:PS X st t):PSs X [st] t:=by
 intro pins s σ H D I h
 refine wpAny_execs_cons (thn (h1 pins s σ H D I h) fun f s1 q=>?_)
 cases f with
 | next=>exact wpAny_execs_nil q
 | ret v=>exact q
 | brk=>exact q
 | cont=>exact q
theorem Inv.quiet {pins:List (Addr × Obj)} {σ:St} {H:Hp} {s:Shared} (I:Inv X pins σ H s):interactive X.env=false:=by simp [interactive,I.ok.kind]
def tDrop (te:TE):TS:=fun D σ H=>te σ H fun _ H1=>D.nx σ H1
theorem a1y (he:PE X e te) (hs:swapsWith e none pos.line X.env=pure false:=by rfl):PS X (.Expr e pos) (tDrop te):=by
 intro pins s σ H D I h
 exact wpAny_Expr_any (thn (he pins s σ H _ I h) fun v s1 ⟨x,H1,I1,r1,q1⟩=>⟨σ,H1,I1,q1⟩) I.quiet hs
def tRet (te:TE):TS:=fun D σ H=>te σ H D.rt
theorem a0t (he:PE X e te):PS X (.Return (some e) pos) (tRet te):=by
 intro pins s σ H D I h
 exact wpAny_Return_some (thn (he pins s σ H _ I h) fun v s1 ⟨x,H1,I1,r1,q1⟩=>⟨x,σ,H1,I1,r1,q1⟩)
def tIfS (c:TT) (t u:TS):TS:=fun D σ H=>c σ H fun b H1=>if b=true then t D σ H1 else u D σ H1
theorem a0J {c:Expr} {a b:List Stmt} {tc:TT} (hc:PT X c tc) (ha:PSs X a t) (hb:PSs X b u):PS X (.If c a b pos) (tIfS tc t u):=by
 intro pins s σ H D I h
 refine wpAny_If (thn (hc pins s σ H _ I h) fun d s1 ⟨H1,I1,q1⟩=>?_)
 cases d with
 | true=>exact ha pins s1 σ H1 D I1 q1
 | false=>exact hb pins s1 σ H1 D I1 q1
def tNever:TS:=fun _ _ _=>False
end
abbrev TG:=V→St→Hp→(St→Hp→Prop)→Prop
abbrev TGs:=List V→St→Hp→(St→Hp→Prop)→Prop
def PG (X:Cx) (target:Expr) (t:TG):Prop :=
 ∀ (pins:List (Addr × Obj)) (s:Shared) (σ:St) (H:Hp) (v:V) (u:Value) (Q:St→Hp→Prop),Inv X pins σ H s→a0U v u→t v σ H Q →
  wpAny (model X.prog X.w) X.A (assign target X.env u) (fun _ s'=>∃ σ' H',Inv X pins σ' H' s'∧Q σ' H') X.xe s
def PGs (X:Cx) (ts:List Expr) (t:TGs):Prop :=
 ∀ (pins:List (Addr × Obj)) (s:Shared) (σ:St) (H:Hp) (vs:List V) (us:List Value) (Q:St→Hp→Prop),Inv X pins σ H s→a0A vs us→t vs σ H Q →
  wpAny (model X.prog X.w) X.A (assignInOrder ((assignEach ts X.env).map (·.2)) us) (fun _ s'=>∃ σ' H',Inv X pins σ' H' s'∧Q σ' H') X.xe s
abbrev TSet:=V→V→V→Hp→(Hp→Prop)→Prop
def PSet (X:Cx) (t:TSet):Prop :=
 ∀ (pins:List (Addr × Obj)) (s:Shared) (σ:St) (H:Hp) (o i v:V) (ov iv u:Value) (Q:Hp→Prop),Inv X pins σ H s→a0U o ov→a0U i iv→a0U v u→t o i v H Q →
  wpAny (model X.prog X.w) X.A (setItem ov iv u) (fun _ s'=>∃ H',Inv X pins σ H' s'∧Q H') X.xe s
abbrev TIp:=V→V→Hp→VK→Prop
section
variable {X:Cx} {pos:Pos}
def a2C (i:Nat):TG:=fun v σ H Q=>Q (σ.set i (some v)) H
theorem a0E {i:Nat} {x:Str} (hN:X.N.Nodup) (hi:X.N[i]?=some x) (hx:Loc X.env.scope x) (hf:X.fn x=true∨X.env.scope.names.lookup x=some .local:=by first | exact .inl rfl | exact .inr rfl | assumption):PG X (.Name x pos) (a2C i):=by
 intro pins s σ H v u Q I r h
 exact wpAny_assign_Name (a5I I hN hi hx r (fun s' I'=>⟨_,H,I',h⟩) hf)
def gNil:TGs:=fun vs σ H Q=>vs=[]∧Q σ H
def gCons (t:TG) (u:TGs):TGs:=fun vs σ H Q=>∃ v r,vs=v :: r∧t v σ H fun σ' H'=>u r σ' H' Q
theorem a2m:PGs X [] gNil:=by
 intro pins s σ H vs us Q I r h
 obtain ⟨e,h⟩:=h
 subst e
 cases r
 exact assignInOrder_nil ⟨σ,H,I,h⟩
theorem a0L {e:Expr} {es:List Expr} {t:TG} {u:TGs} (h1:PG X e t) (h2:PGs X es u)
  (hs:(assignEach (e :: es) X.env).map (·.2)=assign e X.env :: (assignEach es X.env).map (·.2):=by rfl):PGs X (e :: es) (gCons t u):=by
 intro pins s σ H vs us Q I r h
 obtain ⟨v,vr,e1,h⟩:=h
 subst e1
 cases r with
 | cons r rr =>
  rw [hs]
  refine assignInOrder_cons (thn (h1 pins s σ H _ _ _ I r h) fun _ s1 ⟨σ1,H1,I1,q1⟩=>?_)
  exact h2 pins s1 σ1 H1 _ _ Q I1 rr q1
def gTup (K:PySem.W.Frag) (n:Nat) (t:TGs):TG:=fun v σ H Q=>∃ a xs,v=.ref a∧SqT K H a xs∧xs.length=n∧t xs σ H Q
theorem a3i {es:List Expr} {k:Nat} {t:TGs} {n:Nat} (hc:X.calm=true) (h:PGs X es t)
  (hn:(assignEach es X.env).length=n:=by rfl) (hst:(assignEach es X.env).findIdx? (·.1)=none:=by rfl):PG X (.Tuple es k pos) (gTup X.K n t):=by
 intro pins s σ H v u Q I r hw
 obtain ⟨a,xs,e1,hq,hl,hw⟩:=hw
 subst e1
 cases r
 obtain ⟨its,rv,ht,hz⟩:=I.tuple hq
 refine assign_Tuple_tuple (I.ok.hd hc) ht (by simp [hn,←hl,rv.length]) hst fun h' hx=>?_
 have I1:Inv X pins σ H { s with heap:=h' }:=I.kept (t':=s.toks) fun b o e=>hx b o (Nat.ne_of_lt (Heap.lt_size e)) e
 exact h pins _ σ H xs _ Q I1 (by simpa using rv) hw
def gSub (to ti:TE) (t:TSet):TG:=fun v σ H Q=>to σ H fun o H1=>ti σ H1 fun i H2=>t o i v H2 fun H3=>Q σ H3
theorem a5L {o i:Expr} {to ti:TE} {t:TSet} (ho:PE X o to) (hi:PE X i ti) (hs:PSet X t)
  (ha:∀ v,assign (.Subscript o i pos) X.env v=(do
   let ov ←holding [v] (eval o X.env)
   let iv ←holding [v,ov] (eval i X.env)
   standAt pos
   holding [v,ov,iv] (setItem ov iv v)
   release [v,ov,iv] []):=by intro _;rfl):PG X (.Subscript o i pos) (gSub to ti t):=by
 intro pins s σ H v u Q I r h
 rw [ha]
 refine wpAny_bind (wpAny_holding (thn (ho pins s σ H _ I h) fun ov s1 ⟨x,H1,I1,r1,q1⟩=>?_))
 refine wpAny_bind (wpAny_holding (thn (hi pins s1 σ H1 _ I1 q1) fun iv s2 ⟨y,H2,I2,r2,q2⟩=>?_))
 refine wpAny_bind (wpAny_standAt (wpAny_bind (wpAny_holding (thn (hs pins s2 σ H2 x y v ov iv u _ I2 r1 r2 r q2) fun _ s3 ⟨H3,I3,q3⟩=>?_))))
 exact wpAny_release ⟨σ,H3,I3,q3⟩
def tAsg (te:TE) (g:TG):TS:=fun D σ H=>te σ H fun x H1=>g x σ H1 D.nx
theorem a3j {tg e:Expr} {te:TE} {g:TG} (he:PE X e te) (hg:PG X tg g) (hs:swapsWithSole [tg] e pos.line X.env=pure false:=by rfl) (hw:swappedStores [tg] e X.env=pure none:=by rfl)
  (h1:(assignEach [tg] X.env).map (·.2)=[assign tg X.env]:=by rfl):PS X (.Assign [tg] e pos) (tAsg te g):=by
 intro pins s σ H D I h
 refine wpAny_Assign_stores (thn (he pins s σ H _ I h) fun v s1 ⟨x,H1,I1,r1,q1⟩=>?_) hs hw
 rw [h1]
 exact thn (hg pins s1 σ H1 x v _ I1 r1 q1) fun _ s2 q=>q
theorem a0u {i:Nat} {x:Str} {e:Expr} {te:TE} {pos':Pos} (hN:X.N.Nodup) (hi:X.N[i]?=some x) (hx:Loc X.env.scope x) (he:PE X e te) (hs:swapsWith e (some (.Name x pos')) pos.line X.env=pure false:=by rfl) (hf:X.fn x=true∨X.env.scope.names.lookup x=some .local:=by first | exact .inl rfl | exact .inr rfl | assumption) :
  PS X (.Assign [.Name x pos'] e pos) (tAsg te (a2C i)):=by
 intro pins s σ H D I h
 refine wpAny_Assign_Name (thn (he pins s σ H _ I h) fun v s1 ⟨y,H1,I1,r1,q1⟩=>?_) hs
 exact a5I I1 hN hi hx r1 (fun s2 I2=>⟨_,H1,I2,q1⟩) hf
def tPar (i j:Nat) (ta:TA):TS:=fun D σ H=>ta σ H fun vs H1=>∃ v w,vs=[v,w]∧D.nx ((σ.set i (some v)).set j (some w)) H1
def tAug (i:Nat) (te:TE) (ti:TIp):TS:=fun D σ H=>∃ x,σ[i]?=some (some x)∧te σ H fun y H1=>ti x y H1 fun z H2=>D.nx (σ.set i (some z)) H2
def tAugS (to ti te:TE) (tget:V→V→Hp→VK→Prop) (tip:TIp) (tset:TSet):TS:=fun D σ H=>to σ H fun o H1=>ti σ H1 fun i H2=>tget o i H2 fun x H3=>te σ H3 fun y H4=>tip x y H4 fun z H5=>tset o i z H5 fun H6=>D.nx σ H6
def PGet (X:Cx) (t:V→V→Hp→VK→Prop):Prop :=
 ∀ (pins:List (Addr × Obj)) (s:Shared) (σ:St) (H:Hp) (o i:V) (ov iv:Value) (Q:VK),Inv X pins σ H s→a0U o ov→a0U i iv→t o i H Q →
  wpAny (model X.prog X.w) X.A (getItem ov iv) (EP X pins σ Q) X.xe s
def ipI (f:Int→Int→Int):TIp:=fun x y H Q=>∃ i j,x=.int i∧y=.int j∧Q (.int (f i j)) H
def tWhile (c:TT) (tb:TS):TS:=fun D σ H=>∃ W:Nat→St→Hp→Prop,(∃ m,W m σ H)∧∀ m σ H,W m σ H →
 c σ H fun b H1=>if b=true then ∃ N:St→Hp→Prop,(∀ σ' H',N σ' H'→∃ m',m' < m∧W m' σ' H')∧tb { D with nx:=N,ct:=N,bk:=D.nx } σ H1 else D.nx σ H1
theorem a8W {c:Expr} {body:List Stmt} {tc:TT} {tb:TS} (hp:PassesOwn (model X.prog X.w) X.A X.env X.xe) (hc:PT X c tc) (hb:PSs X body tb):PS X (.While c body [] pos) (tWhile tc tb):=by
 intro pins s σ H D I h
 obtain ⟨W,⟨m0,w0⟩,turn⟩:=h
 refine wpAny_While (codeAny_whileLoop (fun n s'=>∃ σ' H',Inv X pins σ' H' s'∧W n σ' H') ?_ m0 ⟨σ,H,I,w0⟩)
 rintro n s1 ⟨σ1,H1,I1,w1⟩
 refine wpAny_passesOwn hp (thn (hc pins s1 σ1 H1 _ I1 (turn n σ1 H1 w1)) fun b s2 ⟨H2,I2,q2⟩=>?_)
 cases b with
 | true =>
  obtain ⟨N,hN,q2⟩:=q2
  rw [if_pos rfl]
  refine wpAny_passesOwn hp (thn (hb pins s2 σ1 H2 _ I2 q2) fun f s3 q3=>?_)
  cases f with
  | next =>
   obtain ⟨σ3,H3,I3,n3⟩:=q3
   obtain ⟨m',hm,w3⟩:=hN σ3 H3 n3
   exact ⟨m',hm,σ3,H3,I3,w3⟩
  | cont =>
   obtain ⟨σ3,H3,I3,n3⟩:=q3
   obtain ⟨m',hm,w3⟩:=hN σ3 H3 n3
   exact ⟨m',hm,σ3,H3,I3,w3⟩
  | brk=>exact q3
  | ret v=>exact q3
 | false =>
  rw [if_neg Bool.false_ne_true]
  exact wpAny_execs_nil ⟨σ1,H2,I2,q2⟩
end
structure It where
 go:Nat→Hp→Prop
 yld:Nat→Hp→V→Hp→Prop
 stop:Nat→Hp→Prop
def a5h (X:Cx) (pins:List (Addr × Obj)) (H:Hp) (b:Addr):Prop :=
 H b=none∧b≠X.env.locals∧b∉X.fs∧(b∈X.ex∨X.s₀.heap.objs.size≤b)∧(∀ x c,X.env.cells.lookup x=some c→c≠b)∧∀ p∈X.pn++pins,p.1≠b
theorem Inv.fpOk {X:Cx} {pins:List (Addr × Obj)} {σ:St} {H H':Hp} {s:Shared} {b:Addr} (I:Inv X pins σ H s) (hb:s.heap.objs.size≤b) (hn:H' b=none):a5h X pins H' b:=by
 refine ⟨hn,Nat.ne_of_gt (Nat.lt_of_lt_of_le I.lt hb),I.nofs hb,.inr (Nat.le_trans I.sz hb),fun x c e z=>?_,fun p hp z=>?_⟩
 ·obtain ⟨v,q⟩:=I.cell x c e
  exact absurd (Nat.lt_of_lt_of_le q.lt (by rw [z];exact hb)) (Nat.lt_irrefl _)
 ·exact absurd (Nat.lt_of_lt_of_le (Heap.lt_size (I.pin p hp).1) (by rw [z];exact hb)) (Nat.lt_irrefl _)
structure Turn (P:Program) (w:World) (K:PySem.W.Frag) (tg:Expr) (J:It) (fp:List Addr) (it:Addr) (tn:Nat→Heap→Prop):Prop where
 mem:it∈fp
 obj:∀ i h,tn i h→∀ b∈fp,∃ o,h.get? b=some o∧∀ v,o.data≠.cell v
 keep:∀ i h h',tn i h→(∀ b∈fp,∀ o,h.get? b=some o→h'.get? b=some o)→tn i h'
 item:∀ (X:Cx),X.prog=P→X.w=w→X.K=K→X.calm=true→∀ (i:Nat) (pins:List (Addr × Obj)) (s:Shared) (σ:St) (H:Hp) (E:Value→Shared→Prop),Inv X pins σ H s→(∀ b∈fp,a5h X pins H b)→tn i s.heap→J.go i H →
  wpAny (model P w) X.A (pyNext (.ref it)) (fun r s1=>∃ u,r=some u ∧
   wpAny (model P w) X.A (letOwnedTupleGo tg (.ref it) u) (fun _ s2=>∃ x H',Inv X pins σ H' s2∧a0U x u∧J.yld i H x H'∧tn (i+1) s2.heap∧∀ b∈fp,H' b=none) E s1) E s
 done:∀ (X:Cx),X.prog=P→X.w=w→X.K=K→X.calm=true→∀ (i:Nat) (pins:List (Addr × Obj)) (s:Shared) (σ:St) (H:Hp) (E:Value→Shared→Prop),Inv X pins σ H s→(∀ b∈fp,a5h X pins H b)→tn i s.heap→J.stop i H →
  wpAny (model P w) X.A (pyNext (.ref it)) (fun r s1=>r=none∧Inv X pins σ H s1) E s
 self:∀ (A:Around) (i:Nat) (s:Shared) (Q:Value→Shared→Prop) (E:Value→Shared→Prop),tn i s.heap→Q (.ref it) s→wpAny (model P w) A (pyIter (.ref it)) Q E s
abbrev TI:=St→Hp→(It→Hp→Prop)→Prop
def PIE (X:Cx) (pins:List (Addr × Obj)) (σ:St) (tg:Expr) (R:It→Hp→Prop) (itv:Value) (s2:Shared):Prop :=
 ∃ (it:Addr) (fp:List Addr) (tn:Nat→Heap→Prop) (J:It) (H':Hp),itv=.ref it∧Inv X pins σ H' s2∧Turn X.prog X.w X.K tg J fp it tn∧tn 0 s2.heap∧(∀ b∈fp,a5h X pins H' b)∧R J H'
def PI (X:Cx) (tg iter:Expr) (wi:TI):Prop :=
 ∀ (pins:List (Addr × Obj)) (s:Shared) (σ:St) (H:Hp) (R:It→Hp→Prop),Inv X pins σ H s→wi σ H R →
  wpAny (model X.prog X.w) X.A (eval iter X.env) (fun v s1=>wpAny (model X.prog X.w) X.A (pyIter v) (PIE X pins σ tg R) X.xe s1) X.xe s
theorem a8X {M:Model} {A:Around} {E:Value→Shared→Prop} {s:Shared} {tg:Expr} {it:Addr} {u:Value} {o:Obj} {n:String} {vs:Array Value} {Q:Unit→Shared→Prop} (ho:s.heap.get? it=some o) (hc:o.cls=.type n) (hd:o.data=.fields vs)
  (hn:["enumerate","zip","dict_itemiterator","dict_reverseitemiterator","odict_iterator","itertools.zip_longest","itertools.pairwise"].contains n=false) (hQ:Q () s):wpAny M A (letOwnedTupleGo tg (.ref it) u) Q E s:=by
 unfold letOwnedTupleGo
 cases tg <;> first
  | exact wpAny_pure hQ
  | (cases u <;> first
    | exact wpAny_pure hQ
    | (refine wpAny_bind (wpAny_load ho ?_)
       rw [hc,hd]
       show wpAny M A (if (["enumerate","zip","dict_itemiterator","dict_reverseitemiterator","odict_iterator","itertools.zip_longest","itertools.pairwise"].contains n && vs[0]? == some (rawInt _))=true then _ else _) Q E s
       rw [if_neg (by intro h;rw [hn,Bool.false_and] at h;cases h)]
       exact wpAny_pure hQ))
def Itl (K:PySem.W.Frag) (a:Addr):It :=
 ⟨fun i H=>∃ xs x,SqL K H a xs∧xs[i]?=some x,fun i H x H'=>H'=H∧∀ xs,SqL K H a xs→xs[i]?=some x,fun i H=>∃ xs,SqL K H a xs∧xs.length≤i⟩
def Itt (K:PySem.W.Frag) (a:Addr):It :=
 ⟨fun i H=>∃ xs x,SqT K H a xs∧xs[i]?=some x,fun i H x H'=>H'=H∧∀ xs,SqT K H a xs→xs[i]?=some x,fun i H=>∃ xs,SqT K H a xs∧xs.length≤i⟩
def Itr (lo:Int) (n:Nat):It:=⟨fun i _=>i < n,fun i H x H'=>H'=H∧x=.int (lo+i),fun i _=>n≤i⟩
theorem a7m {P:Program} {w:World} {K:PySem.W.Frag} {tg:Expr} (a it:Addr):Turn P w K tg (Itl K a) [it] it (fun i h=>h.IsListIter it a i) where
 mem:=by simp
 obj:=fun i h st b hb=>by
  have e:b=it:=by simpa using hb
  subst e
  obtain ⟨o,e,c,d⟩:=st
  exact ⟨o,e,fun v z=>by rw [d] at z;cases z⟩
 keep:=fun i h h' st k=>st.at fun o e=>k it (by simp) o e
 item:=by
  intro X hP hw hK hc i pins s σ H E I hf st hg
  subst hP hw hK
  obtain ⟨xs,x,hq,hx⟩:=hg
  obtain ⟨its,rv,p,hz⟩:=I.list hq
  obtain ⟨u,hu,ru⟩:=rv.get hx
  obtain ⟨f0,f1,f2,f3,f4,f5⟩:=hf it (by simp)
  refine wpAny_pyNext_list_item st p.isList (x:=u) (by simpa using hu) fun h' st' sb=>?_
  have I1:Inv X pins σ H { s with heap:=h' }:=I.turned (t':=s.toks) (fun b o hb e=>(sb.2 b hb).trans e) f0 f1 f3 f4 f5
  obtain ⟨o,e,c,d⟩:=id st'
  exact ⟨u,rfl,a8X (s:={ s with heap:=h' }) e c d (by decide) ⟨x,H,I1,ru,⟨rfl,fun ys hy=>by rw [I.list_inj hy hq];exact hx⟩,st',fun b hb=>(hf b hb).1⟩⟩
 done:=by
  intro X hP hw hK hc i pins s σ H E I hf st hg
  subst hP hw hK
  obtain ⟨xs,hq,hx⟩:=hg
  obtain ⟨its,rv,p,hz⟩:=I.list hq
  obtain ⟨f0,f1,f2,f3,f4,f5⟩:=hf it (by simp)
  have hl:=rv.length
  exact wpAny_pyNext_list_end (I.ok.hd hc) st p.isList (by simp;omega) fun h' eb=>⟨rfl,I.turned (t':=s.toks) (fun b o hb e=>eb b o hb e) f0 f1 f3 f4 f5⟩
 self:=fun _ _ _ _ _ st h=>wpAny_pyIter_listiter st h
theorem a6t {P:Program} {w:World} {K:PySem.W.Frag} {tg:Expr} (a it:Addr):Turn P w K tg (Itt K a) [it] it (fun i h=>h.IsTupleIter it a i) where
 mem:=by simp
 obj:=fun i h st b hb=>by
  have e:b=it:=by simpa using hb
  subst e
  obtain ⟨o,e,c,d⟩:=st
  exact ⟨o,e,fun v z=>by rw [d] at z;cases z⟩
 keep:=fun i h h' st k=>st.at fun o e=>k it (by simp) o e
 item:=by
  intro X hP hw hK hc i pins s σ H E I hf st hg
  subst hP hw hK
  obtain ⟨xs,x,hq,hx⟩:=hg
  obtain ⟨its,rv,p,hz⟩:=I.tuple hq
  obtain ⟨u,hu,ru⟩:=rv.get hx
  obtain ⟨f0,f1,f2,f3,f4,f5⟩:=hf it (by simp)
  refine wpAny_pyNext_tuple_item st (show s.heap.IsTuple a its.toArray from p) (x:=u) (by simpa using hu) fun h' st' sb=>?_
  have I1:Inv X pins σ H { s with heap:=h' }:=I.turned (t':=s.toks) (fun b o hb e=>(sb.2 b hb).trans e) f0 f1 f3 f4 f5
  obtain ⟨o,e,c,d⟩:=id st'
  exact ⟨u,rfl,a8X (s:={ s with heap:=h' }) e c d (by decide) ⟨x,H,I1,ru,⟨rfl,fun ys hy=>by rw [I.tuple_inj hy hq];exact hx⟩,st',fun b hb=>(hf b hb).1⟩⟩
 done:=by
  intro X hP hw hK hc i pins s σ H E I hf st hg
  subst hP hw hK
  obtain ⟨xs,hq,hx⟩:=hg
  obtain ⟨its,rv,p,hz⟩:=I.tuple hq
  obtain ⟨f0,f1,f2,f3,f4,f5⟩:=hf it (by simp)
  have hl:=rv.length
  exact wpAny_pyNext_tuple_end (I.ok.hd hc) st (show s.heap.IsTuple a its.toArray from p) (by simp;omega) fun h' eb=>⟨rfl,I.turned (t':=s.toks) (fun b o hb e=>eb b o hb e) f0 f1 f3 f4 f5⟩
 self:=fun _ _ _ _ _ st h=>wpAny_pyIter_tupleiter st h
theorem a6u {P:Program} {w:World} {K:PySem.W.Frag} {tg:Expr} (it:Addr) (lo:Int) (n:Nat):Turn P w K tg (Itr lo n) [it] it (fun i h=>IsRangeIter h it (lo+(i:Nat) * 1) ((n:Int) - (i:Nat)) 1) where
 mem:=by simp
 obj:=fun i h st b hb=>by
  have e:b=it:=by simpa using hb
  subst e
  exact ⟨_,st,fun v z=>by
   have z':Data.fields _=Data.cell v:=z
   cases z'⟩
 keep:=fun i h h' st k=>k it (by simp) _ st
 item:=by
  intro X hP hw hK hc i pins s σ H E I hf st hg
  subst hP hw hK
  obtain ⟨f0,f1,f2,f3,f4,f5⟩:=hf it (by simp)
  have W:=Walks.range (prog:=X.prog) (w:=X.w) (I.ok.hd hc) it lo 1 n
  refine W.item i s _ _ hg st fun v h' tk hv st' kk=>?_
  obtain ⟨t,rfl⟩:=hv
  have I1:Inv X pins σ H { s with heap:=h',toks:=tk }:=I.turned (fun b o hb e=>kk b o (by simpa using hb) e) f0 f1 f3 f4 f5
  refine ⟨_,rfl,a8X (s:={ s with heap:=h',toks:=tk }) (n:="range_iterator") st' rfl rfl (by decide) ⟨.int (lo+i),H,I1,⟨t,?_⟩,⟨rfl,rfl⟩,st',fun b hb=>(hf b hb).1⟩⟩
  rw [Int.mul_one]
 done:=by
  intro X hP hw hK hc i pins s σ H E I hf st hg
  subst hP hw hK
  obtain ⟨f0,f1,f2,f3,f4,f5⟩:=hf it (by simp)
  exact wpAny_pyNext_range_end (I.ok.hd hc) st (by have:n≤i:=hg;omega) fun h' eb=>⟨rfl,I.turned (t':=s.toks) (fun b o hb e=>eb b o hb e) f0 f1 f3 f4 f5⟩
 self:=fun _ _ _ _ _ st h=>wpAny_pyIter_rangeiter st h
section
variable {X:Cx} {tg:Expr}
def iList (K:PySem.W.Frag) (tl:TE):TI:=fun σ H R=>tl σ H fun x H1=>∃ a,x=.ref a∧(∃ xs,SqL K H1 a xs)∧R (Itl K a) H1
def iTup (K:PySem.W.Frag) (tl:TE):TI:=fun σ H R=>tl σ H fun x H1=>∃ a,x=.ref a∧(∃ xs,SqT K H1 a xs)∧R (Itt K a) H1
theorem a2D {l:Expr} {tl:TE} (hl:PE X l tl):PI X tg l (iList X.K tl):=by
 intro pins s σ H R I h
 refine thn (hl pins s σ H _ I h) fun v s1 ⟨x,H1,I1,r1,q1⟩=>?_
 obtain ⟨a,e,⟨xs,hq⟩,q⟩:=q1
 subst e
 cases r1
 obtain ⟨its,rv,p,hz⟩:=I1.list hq
 refine wpAny_pyIter_list p.isList ?_
 refine ⟨s1.heap.objs.size,[s1.heap.objs.size],_,_,H1,rfl,I1.kept (t':=s1.toks) fun b o e=>Heap.get?_push_of_some _ e,a7m a _,⟨_,Heap.get?_push_size _ rfl,rfl,rfl⟩,fun b hb=>?_,q⟩
 have e:b=s1.heap.objs.size:=by simpa using hb
 subst e
 exact I1.fpOk (Nat.le_refl _) (I1.hok.fresh (Nat.le_refl _))
theorem pi_tup {l:Expr} {tl:TE} (hl:PE X l tl):PI X tg l (iTup X.K tl):=by
 intro pins s σ H R I h
 refine thn (hl pins s σ H _ I h) fun v s1 ⟨x,H1,I1,r1,q1⟩=>?_
 obtain ⟨a,e,⟨xs,hq⟩,q⟩:=q1
 subst e
 cases r1
 obtain ⟨its,rv,p,hz⟩:=I1.tuple hq
 refine wpAny_pyIter_tuple (show s1.heap.IsTuple a its.toArray from p) ?_
 refine ⟨s1.heap.objs.size,[s1.heap.objs.size],_,_,H1,rfl,I1.kept (t':=s1.toks) fun b o e=>Heap.get?_push_of_some _ e,a6t a _,⟨_,Heap.get?_push_size _ rfl,rfl,rfl⟩,fun b hb=>?_,q⟩
 have e:b=s1.heap.objs.size:=by simpa using hb
 subst e
 exact I1.fpOk (Nat.le_refl _) (I1.hok.fresh (Nat.le_refl _))
theorem a5M {pins:List (Addr × Obj)} {σ:St} {H:Hp} {s:Shared} {R:It→Hp→Prop} {E:Value→Shared→Prop} {lo hi:Int} {t u v:Tok} {tk:Nat} (I:Inv X pins σ H s) (h1:-(2 ^ 62)≤lo) (h2:lo < 2 ^ 62) (h3:-(2 ^ 62)≤hi) (h4:hi < 2 ^ 62)
  (q:R (Itr lo (hi - lo).toNat) H):wpAny (model X.prog X.w) X.A (pyIter (.ref s.heap.objs.size)) (PIE X pins σ tg R) E { s with heap:=s.heap.push { cls:=.type "range",data:=.fields #[.int lo t,.int hi u,.int 1 v] },toks:=tk }:=by
 refine wpAny_pyIter_range (IsRange.new ..) (small_one h1 h2 h3 h4) ?_
 have I1:Inv X pins σ H { s with heap:=s.heap.push { cls:=.type "range",data:=.fields #[.int lo t,.int hi u,.int 1 v] },toks:=tk }:=I.kept fun b o e=>Heap.get?_push_of_some _ e
 refine ⟨(s.heap.push { cls:=.type "range",data:=.fields #[.int lo t,.int hi u,.int 1 v] }).objs.size,[(s.heap.push { cls:=.type "range",data:=.fields #[.int lo t,.int hi u,.int 1 v] }).objs.size],_,_,H,rfl,
  I1.kept (t':=tk) fun b o e=>Heap.get?_push_of_some _ e,a6u _ lo (hi - lo).toNat,?_,fun b hb=>?_,q⟩
 ·have e1:lo+((0:Nat):Int) * 1=lo:=by simp
  have e2:(((hi - lo).toNat:Nat):Int) - ((0:Nat):Int)=Builtin.Range.rangeSize lo hi 1:=by rw [rangeSize_one];split <;> omega
  show IsRangeIter _ _ (lo+((0:Nat):Int) * 1) ((((hi - lo).toNat:Nat):Int) - ((0:Nat):Int)) 1
  rw [e1,e2]
  exact Heap.get?_push_size _ rfl
 ·have e:b=(s.heap.push { cls:=.type "range",data:=.fields #[.int lo t,.int hi u,.int 1 v] }).objs.size:=by simpa using hb
  subst e
  exact I1.fpOk (Nat.le_refl _) (I1.hok.fresh (Nat.le_refl _))
def iRng1 (ta:TA):TI:=fun σ H R=>ta σ H fun vs H1=>∃ j:Int,vs=[.int j]∧-(2 ^ 62)≤j∧j < 2 ^ 62∧R (Itr 0 j.toNat) H1
def iRng2 (ta:TA):TI:=fun σ H R=>ta σ H fun vs H1=>∃ i j:Int,vs=[.int i,.int j]∧(-(2 ^ 62)≤i∧i < 2 ^ 62∧-(2 ^ 62)≤j∧j < 2 ^ 62)∧R (Itr i (j - i).toNat) H1
theorem a3k {a:Expr} {ta:TA} {p pos:Pos} (hg:Gl X "range") (hm:X.mg "range"=none) (ha:PA X [a] ta) (hs:starEach [a] X.env=[(false,eval a X.env)]:=by rfl):PI X tg (.Call (.Name "range" p) [a] [] pos) (iRng1 ta):=by
 intro pins s σ H R I h
 refine Call_ (a2S I hg hm boot_range (PyProof.Rows.callWith_type1 (thn (ha pos pins s σ H _ I h) fun us s1 ⟨vs,H1,I1,r1,q1⟩=>?_) hs rfl))
 obtain ⟨j,e,q1,q2,q⟩:=q1
 subst e
 cases r1 with
 | cons r rr =>
  cases rr
  obtain ⟨t,rfl⟩:=r
  exact call_range_1 (a5M I1 (by omega) (by omega) q1 q2 (by simpa using q))
theorem a3l {a b:Expr} {ta:TA} {p pos:Pos} (hg:Gl X "range") (hm:X.mg "range"=none) (ha:PA X [a,b] ta) (hs:starEach [a,b] X.env=[(false,eval a X.env),(false,eval b X.env)]:=by rfl) (hs2:starEach [b] X.env=[(false,eval b X.env)]:=by rfl) :
  PI X tg (.Call (.Name "range" p) [a,b] [] pos) (iRng2 ta):=by
 intro pins s σ H R I h
 refine Call_ (a2S I hg hm boot_range (PyProof.Rows.callWith_type1 (thn (ha pos pins s σ H _ I h) fun us s1 ⟨vs,H1,I1,r1,q1⟩=>?_) (by rw [hs,hs2]) (by rw [hs2];rfl)))
 obtain ⟨i,j,e,⟨q1,q2,q3,q4⟩,q⟩:=q1
 subst e
 cases r1 with
 | cons r rr =>
  cases rr with
  | cons r' rr =>
   cases rr
   obtain ⟨t,rfl⟩:=r
   obtain ⟨t',rfl⟩:=r'
   exact call_range_2 (a5M I1 q1 q2 q3 q4 q)
def tFor (wi:TI) (g:TG) (tb:TS):TS:=fun D σ H=>wi σ H fun J H1=>∃ W:Nat→Nat→St→Hp→Prop,(∃ m,W 0 m σ H1)∧∀ i m σ H,W i m σ H →
 (J.stop i H∧D.nx σ H)∨(J.go i H∧∃ N:St→Hp→Prop,(∀ σ' H',N σ' H'→∃ m',m' < m∧W (i+1) m' σ' H')∧∀ x H',J.yld i H x H'→g x σ H' fun σ2 H2=>tb { D with nx:=N,ct:=N,bk:=D.nx } σ2 H2)
def a4F (fp:List Addr) (h:Heap):List (Addr × Obj):=fp.filterMap fun b=>(h.get? b).map fun o=>(b,o)
theorem a1I {fp:List Addr} {h:Heap} {b:Addr} {o:Obj} (hb:b∈fp) (e:h.get? b=some o):(b,o)∈a4F fp h:=List.mem_filterMap.mpr ⟨b,hb,by rw [e];rfl⟩
theorem a7n {fp:List Addr} {h:Heap} {p:Addr × Obj} (hp:p∈a4F fp h):p.1∈fp∧h.get? p.1=some p.2:=by
 obtain ⟨b,hb,e⟩:=List.mem_filterMap.mp hp
 cases q:h.get? b with
 | none=>rw [q] at e;cases e
 | some o =>
  rw [q] at e
  have e':(b,o)=p:=Option.some.inj e
  subst e'
  exact ⟨hb,q⟩
theorem Inv.pinned {pins:List (Addr × Obj)} {σ:St} {H:Hp} {s:Shared} {fp:List Addr} (I:Inv X pins σ H s) (hf:∀ b∈fp,a5h X pins H b) (ho:∀ b∈fp,∃ o,s.heap.get? b=some o∧∀ v,o.data≠.cell v):Inv X (pins++a4F fp s.heap) σ H s :=
 I.pins_of fun p hp=>(List.mem_append.mp hp).elim (fun z=>I.pin p (List.mem_append_right _ z)) fun z=>by
  obtain ⟨hb,e⟩:=a7n z
  obtain ⟨f0,f1,f2,_⟩:=hf p.1 hb
  obtain ⟨o,e',d⟩:=ho p.1 hb
  rw [e] at e';cases e'
  exact ⟨e,f0,f1,f2,d⟩
theorem Inv.unpinned {pins pl:List (Addr × Obj)} {σ:St} {H:Hp} {s:Shared} (I:Inv X (pins++pl) σ H s):Inv X pins σ H s:=I.pins_of fun p hp=>I.pin p (List.mem_append_right _ (List.mem_append_left _ hp))
theorem a2h {iter:Expr} {body:List Stmt} {wi:TI} {g:TG} {tb:TS} {pos:Pos} (hp:PassesOwn (model X.prog X.w) X.A X.env X.xe) (hc:X.calm=true) (hi:PI X tg iter wi) (hg:PG X tg g) (hb:PSs X body tb)
  (hs:∀ x,foldedSetIterable iter X.env x=pure x:=by intro _;rfl):PS X (.For tg iter body [] pos) (tFor wi g tb):=by
 intro pins s σ H D I h
 refine wpAny_For (thn (hi pins s σ H _ I h) fun v s1 h1=>thn h1 fun itv s2 h2=>?_) hs
 obtain ⟨it,fp,tn,J,H2,e,I2,T,st2,f2,W,⟨m0,w0⟩,turn⟩:=h2
 subst e
 have stat:∀ {H':Hp},(∀ b∈fp,H' b=none)→∀ b∈fp,a5h X pins H' b:=fun hn b hb=>⟨hn b hb,(f2 b hb).2⟩
 refine codeAny_forLoop_any (fun n s'=>∃ i σ' H',Inv X pins σ' H' s'∧tn i s'.heap∧(∀ b∈fp,H' b=none)∧W i n σ' H') ?_ m0 ⟨0,σ,H2,I2,st2,fun b hb=>(f2 b hb).1,w0⟩
 rintro n s3 ⟨i,σ3,H3,I3,st3,fr3,w3⟩
 rcases turn i n σ3 H3 w3 with ⟨stop,qn⟩ | ⟨go,N,hN,step⟩
 ·refine wpAny_passesOwn hp (thn (T.done X rfl rfl rfl hc i pins s3 σ3 H3 X.xe I3 (stat fr3) st3 stop) fun r s4 ⟨hr,I4⟩=>?_)
  subst hr
  exact wpAny_execs_nil ⟨σ3,H3,I4,qn⟩
 ·refine wpAny_passesOwn hp (thn (T.item X rfl rfl rfl hc i pins s3 σ3 H3 X.xe I3 (stat fr3) st3 go) fun r s4 ⟨u,hr,h4⟩=>?_)
  subst hr
  refine wpAny_passesOwn hp (thn h4 fun _ s5 ⟨x,H5,I5,r5,y5,st5,fr5⟩=>?_)
  have I5':=I5.pinned (stat fr5) (T.obj _ _ st5)
  refine wpAny_passesOwn hp (thn (hg _ s5 σ3 H5 x u _ I5' r5 (step x H5 y5)) fun _ s6 ⟨σ6,H6,I6,q6⟩=>?_)
  refine wpAny_passesOwn hp (thn (hb _ s6 σ6 H6 _ I6 q6) fun f s7 q7=>?_)
  have again:∀ {σ7:St} {H7:Hp},Inv X (pins++a4F fp s5.heap) σ7 H7 s7→N σ7 H7→∃ m,m < n∧∃ i σ' H',Inv X pins σ' H' s7∧tn i s7.heap∧(∀ b∈fp,H' b=none)∧W i m σ' H':=fun {σ7 H7} I7 n7=>by
   obtain ⟨m',hm,w7⟩:=hN σ7 H7 n7
   refine ⟨m',hm,i+1,σ7,H7,I7.unpinned,T.keep _ _ _ st5 fun b hb o e=>(I7.pin (b,o) (List.mem_append_right _ (List.mem_append_right _ (a1I hb e)))).1,fun b hb=>?_,w7⟩
   obtain ⟨o,e,d⟩:=T.obj _ _ st5 b hb
   exact (I7.pin (b,o) (List.mem_append_right _ (List.mem_append_right _ (a1I hb e)))).2.1
  cases f with
  | next=>obtain ⟨σ7,H7,I7,n7⟩:=q7;exact again I7 n7
  | cont=>obtain ⟨σ7,H7,I7,n7⟩:=q7;exact again I7 n7
  | brk=>obtain ⟨σ7,H7,I7,q7⟩:=q7;exact ⟨σ7,H7,I7.unpinned,q7⟩
  | ret v=>obtain ⟨x7,σ7,H7,I7,r7,q7⟩:=q7;exact ⟨x7,σ7,H7,I7.unpinned,r7,q7⟩
end
theorem a2X {K:PySem.W.Frag} {a:Addr} {xs:List V} {g:TG} {tb:TS} {D:a9U} {σ:St} {H:Hp} (Pv:Nat→St→Hp→Prop) (h0:Pv 0 σ H) (hl:∀ i σ H,i≤xs.length→Pv i σ H→SqL K H a xs)
  (hs:∀ i x σ H,xs[i]?=some x→Pv i σ H→g x σ H fun σ2 H2=>tb { D with nx:=Pv (i+1),ct:=Pv (i+1),bk:=D.nx } σ2 H2) (hd:∀ σ H,Pv xs.length σ H→D.nx σ H) :
  ∃ W:Nat→Nat→St→Hp→Prop,(∃ m,W 0 m σ H)∧∀ i m σ H,W i m σ H →
   ((Itl K a).stop i H∧D.nx σ H)∨((Itl K a).go i H∧∃ N:St→Hp→Prop,(∀ σ' H',N σ' H'→∃ m',m' < m∧W (i+1) m' σ' H')∧∀ x H',(Itl K a).yld i H x H'→g x σ H' fun σ2 H2=>tb { D with nx:=N,ct:=N,bk:=D.nx } σ2 H2):=by
 refine ⟨fun i m σ H=>m=xs.length - i∧i≤xs.length∧Pv i σ H,⟨xs.length,by simp,Nat.zero_le _,h0⟩,?_⟩
 rintro i m σ H ⟨rfl,hi,p⟩
 have q:=hl i σ H hi p
 by_cases hlt:i < xs.length
 ·refine .inr ⟨⟨xs,xs[i],q,by simp [hlt]⟩,Pv (i+1),fun σ' H' p'=>⟨xs.length - (i+1),by omega,rfl,hlt,p'⟩,fun x H' y=>?_⟩
  obtain ⟨e,y⟩:=y
  subst e
  exact hs i x σ _ (y xs q) p
 ·have e:i=xs.length:=by omega
  subst e
  exact .inl ⟨⟨xs,q,Nat.le_refl _⟩,hd σ H p⟩
theorem a1W {lo:Int} {n:Nat} {g:TG} {tb:TS} {D:a9U} {σ:St} {H:Hp} (Pv:Nat→St→Hp→Prop) (h0:Pv 0 σ H)
  (hs:∀ i σ H,i < n→Pv i σ H→g (.int (lo+i)) σ H fun σ2 H2=>tb { D with nx:=Pv (i+1),ct:=Pv (i+1),bk:=D.nx } σ2 H2) (hd:∀ σ H,Pv n σ H→D.nx σ H) :
  ∃ W:Nat→Nat→St→Hp→Prop,(∃ m,W 0 m σ H)∧∀ i m σ H,W i m σ H →
   ((Itr lo n).stop i H∧D.nx σ H)∨((Itr lo n).go i H∧∃ N:St→Hp→Prop,(∀ σ' H',N σ' H'→∃ m',m' < m∧W (i+1) m' σ' H')∧∀ x H',(Itr lo n).yld i H x H'→g x σ H' fun σ2 H2=>tb { D with nx:=N,ct:=N,bk:=D.nx } σ2 H2):=by
 refine ⟨fun i m σ H=>m=n - i∧i≤n∧Pv i σ H,⟨n,by simp,Nat.zero_le _,h0⟩,?_⟩
 rintro i m σ H ⟨rfl,hi,p⟩
 by_cases hlt:i < n
 ·refine .inr ⟨hlt,Pv (i+1),fun σ' H' p'=>⟨n - (i+1),by omega,rfl,hlt,p'⟩,fun x H' y=>?_⟩
  obtain ⟨e,y⟩:=y
  subst e y
  exact hs i σ _ hlt p
 ·have e:i=n:=by omega
  subst e
  exact .inl ⟨Nat.le_refl _,hd σ H p⟩
abbrev R2:=V→V→Hp→VK→Prop
def OpR (X:Cx) (f:Value→Value→Sem Value) (r:R2):Prop :=
 ∀ (pins:List (Addr × Obj)) (s:Shared) (σ:St) (H:Hp) (x y:V) (v u:Value) (Q:VK),Inv X pins σ H s→a0U x v→a0U y u→r x y H Q →
  wpAny (model X.prog X.w) X.A (f v u) (EP X pins σ Q) X.xe s
def UnR (X:Cx) (f:Value→Sem Value) (r:V→Hp→VK→Prop):Prop :=
 ∀ (pins:List (Addr × Obj)) (s:Shared) (σ:St) (H:Hp) (x:V) (v:Value) (Q:VK),Inv X pins σ H s→a0U x v→r x H Q →
  wpAny (model X.prog X.w) X.A (f v) (EP X pins σ Q) X.xe s
def a2g (X:Cx) (f:Value) (r:List V→Hp→VK→Prop):Prop :=
 ∀ (pins:List (Addr × Obj)) (s:Shared) (σ:St) (H:Hp) (xs:List V) (us:List Value) (Q:VK),Inv X pins σ H s→a0A xs us→r xs H Q →
  wpAny (model X.prog X.w) X.A (call f us) (EP X pins σ Q) X.xe s
def TruR (X:Cx) (r:V→Hp→(Bool→Hp→Prop)→Prop):Prop :=
 ∀ (pins:List (Addr × Obj)) (s:Shared) (σ:St) (H:Hp) (x:V) (v:Value) (Q:Bool→Hp→Prop),Inv X pins σ H s→a0U x v→r x H Q →
  wpAny (model X.prog X.w) X.A (truthy v) (TP X pins σ Q) X.xe s
def tOp (r:R2) (ta tb:TE):TE:=fun σ H Q=>ta σ H fun x H1=>tb σ H1 fun y H2=>r x y H2 Q
def tUn (r:V→Hp→VK→Prop) (ta:TE):TE:=fun σ H Q=>ta σ H fun x H1=>r x H1 Q
def rI (C:Int→Int→Prop) (g:Int→Int→V):R2:=fun x y H Q=>∃ i j,x=.int i∧y=.int j∧C i j∧Q (g i j) H
def rI0 (g:Int→Int→V):R2:=fun x y H Q=>∃ i j,x=.int i∧y=.int j∧Q (g i j) H
def rU (g:Int→V):V→Hp→VK→Prop:=fun x H Q=>∃ i,x=.int i∧Q (g i) H
section
variable {X:Cx} {a b c:Expr} {ta tb tc:TE} {pos:Pos}
theorem binT (ha:PE X a ta) (hb:PE X b tb) {pins:List (Addr × Obj)} {s:Shared} {σ:St} {H:Hp} {R:V→V→Hp→Prop} (I:Inv X pins σ H s)
  (h:ta σ H fun x H1=>tb σ H1 fun y H2=>R x y H2) {Q:Value→Shared→Prop} {f:Value→Value→Sem Value}
  (hf:∀ v u s2 x y H2,Inv X pins σ H2 s2→a0U x v→a0U y u→R x y H2→wpAny (model X.prog X.w) X.A (f v u) Q X.xe s2) :
  wpAny (model X.prog X.w) X.A (eval a X.env) (fun v s₁=>wpAny (model X.prog X.w) X.A (eval b X.env) (fun u s₂=>wpAny (model X.prog X.w) X.A (f v u) Q X.xe s₂) X.xe s₁) X.xe s:=by
 refine thn (ha pins s σ H _ I h) fun v s1 ⟨x,H1,I1,r1,q1⟩=>?_
 refine thn (hb pins s1 σ H1 _ I1 q1) fun u s2 ⟨y,H2,I2,r2,q2⟩=>?_
 exact hf v u s2 x y H2 I2 r1 r2 q2
theorem a0m {op:Operator} {r:R2} (ho:OpR X (binaryOp op) r) (ha:PE X a ta) (hb:PE X b tb):PE X (.BinOp a op b pos) (tOp r ta tb):=by
 intro pins s σ H Q I h
 exact wpAny_BinOp (binT ha hb I h fun v u s2 x y H2 I2 rx ry q=>ho pins s2 σ H2 x y v u Q I2 rx ry q)
theorem a7o {op:UnaryOp} {r:V→Hp→VK→Prop} (ho:UnR X (unaryOp op) r) (ha:PE X a ta):PE X (.UnaryOp op a pos) (tUn r ta):=by
 intro pins s σ H Q I h
 exact UnaryOp_ (thn (ha pins s σ H _ I h) fun v s1 ⟨x,H1,I1,r1,q1⟩=>ho pins s1 σ H1 x v Q I1 r1 q1)
theorem opI {f:Value→Value→Sem Value} {C:Int→Int→Prop} {g:Int→Int→Int}
  (rule:∀ (i j:Int) (t u:Tok) (s:Shared) (Q:Value→Shared→Prop) (E:Value→Shared→Prop),C i j→Q (.int (g i j) s.toks) { s with toks:=s.toks+1 }→wpAny (model X.prog X.w) X.A (f (.int i t) (.int j u)) Q E s) :
  OpR X f (rI C fun i j=>.int (g i j)):=by
 intro pins s σ H x y v u Q I rx ry h
 obtain ⟨i,j,rfl,rfl,hc,q⟩:=h
 obtain ⟨t,rfl⟩:=rx
 obtain ⟨t',rfl⟩:=ry
 exact rule i j t t' s _ _ hc ⟨.int (g i j),H,I.tok _,⟨_,rfl⟩,q⟩
theorem opI0 {f:Value→Value→Sem Value} {g:Int→Int→Int}
  (rule:∀ (i j:Int) (t u:Tok) (s:Shared) (Q:Value→Shared→Prop) (E:Value→Shared→Prop),Q (.int (g i j) s.toks) { s with toks:=s.toks+1 }→wpAny (model X.prog X.w) X.A (f (.int i t) (.int j u)) Q E s) :
  OpR X f (rI0 fun i j=>.int (g i j)):=by
 intro pins s σ H x y v u Q I rx ry h
 obtain ⟨i,j,rfl,rfl,q⟩:=h
 obtain ⟨t,rfl⟩:=rx
 obtain ⟨t',rfl⟩:=ry
 exact rule i j t t' s _ _ ⟨.int (g i j),H,I.tok _,⟨_,rfl⟩,q⟩
theorem opB0 {f:Value→Value→Sem Value} {g:Int→Int→Bool}
  (rule:∀ (i j:Int) (t u:Tok) (s:Shared) (Q:Value→Shared→Prop) (E:Value→Shared→Prop),Q (.bool (g i j)) s→wpAny (model X.prog X.w) X.A (f (.int i t) (.int j u)) Q E s) :
  OpR X f (rI0 fun i j=>.bl (g i j)):=by
 intro pins s σ H x y v u Q I rx ry h
 obtain ⟨i,j,rfl,rfl,q⟩:=h
 obtain ⟨t,rfl⟩:=rx
 obtain ⟨t',rfl⟩:=ry
 exact rule i j t t' s _ _ ⟨.bl (g i j),H,I,rfl,q⟩
def CDiv (i j:Int):Prop:=0 < j∧j < 1073741824
def CPow (i j:Int):Prop:=0≤j∧j≤1000000∧i.natAbs < 2 ^ 64
def CMul (i j:Int):Prop:=(-(2 ^ 64) < i∧i < 2 ^ 64)∨(-(2 ^ 64) < j∧j < 2 ^ 64)
theorem CMul.ok {i j:Int} (h:CMul i j):IntMulOk i j:=by
 rcases h with ⟨h1,h2⟩ | ⟨h1,h2⟩
 ·exact .of_left (intBits_le_64 h1 h2)
 ·exact .of_right (intBits_le_64 h1 h2)
theorem a0G:OpR X (binaryOp .Add) (rI0 fun i j=>.int (i+j)):=opI0 fun _ _ _ _ _ _ _ q=>add_int q
theorem a0W:OpR X (binaryOp .Sub) (rI0 fun i j=>.int (i - j)):=opI0 fun _ _ _ _ _ _ _ q=>sub_int q
theorem op_mul:OpR X (binaryOp .Mult) (rI CMul fun i j=>.int (i * j)):=opI fun _ _ _ _ _ _ _ hc q=>mul_int q hc.ok
theorem a1z:OpR X (binaryOp .FloorDiv) (rI CDiv fun i j=>.int (i / j)):=opI fun i j _ _ _ _ _ hc q=>by
 have h1:(0:Int) < j:=hc.1
 have h2:j < 1073741824:=hc.2
 exact floordiv_int (by omega) (by rw [Int.fdiv_eq_ediv_of_nonneg i (by omega)];exact q) (.inl (PyProof.noPylong_small (by omega)))
theorem a0N:OpR X (binaryOp .Mod) (rI (fun _ j=>0 < j) fun i j=>.int (i % j)):=opI fun i j _ _ _ _ _ hc q=>by
 have h1:(0:Int) < j:=hc
 exact mod_int' (by omega) (by rw [Int.fmod_eq_emod_of_nonneg i (by omega)];exact q)
theorem a2T:OpR X (binaryOp .Pow) (rI CPow fun i j=>.int (i ^ j.toNat)):=opI fun _ _ _ _ _ _ _ hc q=>pow_int_small hc.1 hc.2.1 hc.2.2 q
theorem unI {f:Value→Sem Value} {g:Int→Int}
  (rule:∀ (i:Int) (t:Tok) (s:Shared) (Q:Value→Shared→Prop) (E:Value→Shared→Prop),Q (.int (g i) s.toks) { s with toks:=s.toks+1 }→wpAny (model X.prog X.w) X.A (f (.int i t)) Q E s) :
  UnR X f (rU fun i=>.int (g i)):=by
 intro pins s σ H x v Q I rx h
 obtain ⟨i,rfl,q⟩:=h
 obtain ⟨t,rfl⟩:=rx
 exact rule i t s _ _ ⟨.int (g i),H,I.tok _,⟨_,rfl⟩,q⟩
theorem a4G:UnR X (unaryOp .USub) (rU fun i=>.int (-i)):=unI fun _ _ _ _ _ q=>neg_int q
end
def scal:V→V→Bool
 | .non,.non=>true | .non,.int _=>true | .int _,.non=>true | .non,.bl _=>true | .bl _,.non=>true | .non,.str _=>true | .str _,.non=>true
 | .int _,.int _=>true | .bl _,.bl _=>true | .str _,.str _=>true | .byt _,.byt _=>true
 | .int _,.str _=>true | .str _,.int _=>true | .bl _,.str _=>true | .str _,.bl _=>true
 | _,_=>false
def rEq:R2:=fun x y H Q=>scal x y=true∧Q (.bl (decide (x=y))) H
theorem b0E {i j:Int}:decide (V.int i=V.int j)=(i == j):=by
 rw [Bool.eq_iff_iff]
 simp
theorem dec_bl {i j:Bool}:decide (V.bl i=V.bl j)=(i == j):=by
 rw [Bool.eq_iff_iff]
 simp
theorem b0F {i j:Str}:decide (V.str i=V.str j)=(i == j):=by
 rw [Bool.eq_iff_iff]
 simp
theorem b0G {i j:Array UInt8}:decide (V.byt i=V.byt j)=(i.toList == j.toList):=by
 rw [Bool.eq_iff_iff]
 cases i
 cases j
 simp
section
variable {X:Cx} {a b c:Expr} {ta tb tc:TE} {pos:Pos}
theorem a1u {pins:List (Addr × Obj)} {σ:St} {H:Hp} {s:Shared} {Q:VK} {k k':Bool} (I:Inv X pins σ H s) (q:Q (.bl k) H) (e:k=k'):EP X pins σ Q (.bool k') s:=by
 subst e
 exact ⟨.bl k,H,I,rfl,q⟩
theorem a0V:OpR X (compareOp .Eq) rEq:=by
 intro pins s σ H x y v u Q I rx ry h
 obtain ⟨hs,q⟩:=h
 cases x with
 | non =>
  cases rx
  cases y with
  | non=>cases ry;exact PySem.EqNone.eq_none_none (a1u I q (by simp))
  | bl j=>cases ry;exact PySem.EqNone.eq_none_bool (a1u I q (by simp))
  | int j=>obtain ⟨t',rfl⟩:=ry;exact PySem.EqNone.eq_none_int (a1u I q (by simp))
  | str j=>obtain ⟨t',rfl⟩:=ry;exact PySem.EqNone.eq_none_str (a1u I q (by simp))
  | _=>exact absurd (show false=true from hs) Bool.false_ne_true
 | bl i =>
  cases rx
  cases y with
  | non=>cases ry;exact PySem.EqNone.eq_bool_none (a1u I q (by simp))
  | bl j=>cases ry;exact eq_bool (a1u I q dec_bl)
  | str j=>obtain ⟨t',rfl⟩:=ry;exact PySem.EqMixed.eq_bool_str (a1u I q (by simp))
  | _=>exact absurd (show false=true from hs) Bool.false_ne_true
 | int i =>
  obtain ⟨t,rfl⟩:=rx
  cases y with
  | non=>cases ry;exact PySem.EqNone.eq_int_none (a1u I q (by simp))
  | int j=>obtain ⟨t',rfl⟩:=ry;exact eq_int (a1u I q b0E)
  | str j=>obtain ⟨t',rfl⟩:=ry;exact PySem.EqMixed.eq_int_str (a1u I q (by simp))
  | _=>exact absurd (show false=true from hs) Bool.false_ne_true
 | str i =>
  obtain ⟨t,rfl⟩:=rx
  cases y with
  | non=>cases ry;exact PySem.EqNone.eq_str_none (a1u I q (by simp))
  | bl j=>cases ry;exact PySem.EqMixed.eq_str_bool (a1u I q (by simp))
  | int j=>obtain ⟨t',rfl⟩:=ry;exact PySem.EqMixed.eq_str_int (a1u I q (by simp))
  | str j=>obtain ⟨t',rfl⟩:=ry;exact eq_str (a1u I q b0F)
  | _=>exact absurd (show false=true from hs) Bool.false_ne_true
 | byt i =>
  obtain ⟨t,rfl⟩:=rx
  cases y with
  | byt j=>obtain ⟨t',rfl⟩:=ry;exact PySem.W.eq_bytes (a1u I q b0G)
  | _=>exact absurd (show false=true from hs) Bool.false_ne_true
 | _=>cases y <;> exact absurd (show false=true from hs) Bool.false_ne_true
theorem a8Y:OpR X (compareOp .Lt) (rI0 fun i j=>.bl (decide (i < j))):=opB0 fun _ _ _ _ _ _ _ q=>lt_int q
theorem a5i:OpR X (compareOp .LtE) (rI0 fun i j=>.bl (decide (i≤j))):=opB0 fun _ _ _ _ _ _ _ q=>le_int q
theorem a2V:OpR X (compareOp .Gt) (rI0 fun i j=>.bl (decide (j < i))):=opB0 fun _ _ _ _ _ _ _ q=>gt_int q
def isObj:HO→Bool
 | .lst _=>true
 | .ins _ _ _=>true
 | _=>false
theorem nomark (b:Expr) {op:CmpOp} (h:op≠.In:=by decide) (h2:op≠.NotIn:=by decide):behindInMarks op b=false:=by
 have e1:(op == CmpOp.In)=false:=by cases op <;> first | rfl | exact absurd rfl h
 have e2:(op == CmpOp.NotIn)=false:=by cases op <;> first | rfl | exact absurd rfl h2
 cases b <;> simp [behindInMarks,e1,e2]
theorem a1p {op:CmpOp} {r:R2} (ho:OpR X (compareOp op) r) (ha:PE X a ta) (hb:PE X b tb) (hm:behindInMarks op b=false):PE X (.Compare a [op] [b] pos) (tOp r ta tb):=by
 intro pins s σ H Q I h
 exact wpAny_Compare1 (binT ha hb I h fun v u s2 x y H2 I2 rx ry q=>ho pins s2 σ H2 x y v u Q I2 rx ry q) hm
def tTest (t:TE):TT:=fun σ H Q=>t σ H fun x H'=>∃ k,x=.bl k∧Q k H'
theorem a0n {op:CmpOp} {r:R2} (ho:OpR X (compareOp op) r) (ha:PE X a ta) (hb:PE X b tb) (hm:behindInMarks op b=false):PT X (.Compare a [op] [b] pos) (tTest (tOp r ta tb)):=by
 intro pins s σ H Q I h
 refine wpAny_isTrue_Compare1 (thn (ha pins s σ H _ I h) fun v s1 ⟨x,H1,I1,r1,q1⟩=>thn (hb pins s1 σ H1 _ I1 q1) fun u s2 ⟨y,H2,I2,r2,q2⟩ =>
  thn (ho pins s2 σ H2 x y v u _ I2 r1 r2 q2) fun c s3 ⟨z,H3,I3,r3,k,e,q3⟩=>?_) hm
 subst e
 cases r3
 exact wpAny_truthy_bool ⟨H3,I3,q3⟩
def tChain (r r':R2) (ta tb tc:TE):TE:=fun σ H Q=>ta σ H fun x H1=>tb σ H1 fun y H2=>r x y H2 fun z H3=>∃ k,z=.bl k ∧
 (if k=true then tc σ H3 fun w' H4=>r' y w' H4 Q else Q (.bl false) H3)
theorem a8Z {op op':CmpOp} {r r':R2} (ho:OpR X (compareOp op) r) (ho':OpR X (compareOp op') r') (ha:PE X a ta) (hb:PE X b tb) (hc:PE X c tc)
  (hm:lastMarks [op,op'] [b,c]=false:=by with_unfolding_all rfl):PT X (.Compare a [op,op'] [b,c] pos) (tTest (tChain r r' ta tb tc)):=by
 intro pins s σ H Q I h
 refine isTrue_chain (thn (ha pins s σ H _ I h) fun v s1 ⟨x,H1,I1,r1,q1⟩=>test_link (thn (hb pins s1 σ H1 _ I1 q1) fun u s2 ⟨y,H2,I2,r2,q2⟩ =>
  thn (ho pins s2 σ H2 x y v u _ I2 r1 r2 q2) fun d s3 ⟨z,H3,I3,r3,k,e,q3⟩=>?_)) hm
 subst e
 cases r3
 refine wpAny_truthy_bool ?_
 cases k with
 | false =>
  obtain ⟨k',e',q'⟩:=q3
  cases e'
  exact ite_ff ⟨H3,I3,q'⟩
 | true =>
  refine ite_tt (test_last (thn (hc pins s3 σ H3 _ I3 q3) fun w' s4 ⟨z',H4,I4,r4,q4⟩=>thn (ho' pins s4 σ H4 y z' u w' _ I4 r2 r4 q4) fun d' s5 ⟨z2,H5,I5,r5,k2,e2,q5⟩=>?_))
  subst e2
  cases r5
  exact wpAny_truthy_bool ⟨H5,I5,q5⟩
def TruV (K:PySem.W.Frag) (x:V) (H:Hp) (k:Bool):Prop :=
 match x with
 | .non=>k=false
 | .bl b=>k=b
 | .int i=>k=(i != 0)
 | .str y=>y.length≤sizeLine∧k=((y.length:Int) != 0)
 | .byt y=>y.size≤sizeLine∧k=((y.size:Int) != 0)
 | .ref p=>(∃ xs,SqL K H p xs∧k=!xs.isEmpty)∨(∃ xs,SqT K H p xs∧k=!xs.isEmpty)∨∃ kvs,H p=some (.dK kvs)∧k=!kvs.isEmpty
 | _=>False
theorem a5N:(sizeLine:Nat) < 2 ^ 63:=by rw [sizeLine_eq];decide
theorem a3m {x:V} {us:List Value} (r:a0A [x] us):∃ u,us=[u]∧a0U x u:=by
 cases r with
 | cons r1 r2=>cases r2;exact ⟨_,rfl,r1⟩
theorem vals2 {x y:V} {us:List Value} (r:a0A [x,y] us):∃ u w',us=[u,w']∧a0U x u∧a0U y w':=by
 cases r with
 | cons r1 r2 =>
  cases r2 with
  | cons r3 r4=>cases r4;exact ⟨_,_,rfl,r1,r3⟩
theorem a7p (hc:X.calm=true):a2g X (.builtin "min") (fun xs H Q=>∃ i j,xs=[.int i,.int j]∧Q (.int (if j < i then j else i)) H):=by
 intro pins s σ H xs us Q I r h
 obtain ⟨i,j,rfl,q⟩:=h
 obtain ⟨u,w',rfl,⟨t,rfl⟩,⟨t',rfl⟩⟩:=vals2 r
 refine min_two_ints (I.ok.hd hc) fun h' tk k=>⟨_,H,I.kept k,?_,q⟩
 by_cases hj:j < i
 ·rw [if_pos hj,if_pos hj];exact ⟨_,rfl⟩
 ·rw [if_neg hj,if_neg hj];exact ⟨_,rfl⟩
def LenV (K:PySem.W.Frag) (x:V) (H:Hp) (n:Nat):Prop :=
 match x with
 | .str y=>y.length≤sizeLine∧n=y.length
 | .byt y=>y.size≤sizeLine∧n=y.size
 | .ref p=>(∃ xs,SqL K H p xs∧n=xs.length)∨∃ xs,SqT K H p xs∧n=xs.length
 | _=>False
end
structure ObjM (h:Heap) (x dx C:Addr) (mA:Str→Option Value):Prop where
 obj:h.get? x=some (PySem.W.instObj C dx)
 ns:h.Ns1 dx mA
 ne:dx≠x
theorem a7q {h:Heap} {dx:Addr} {mA:Str→Option Value} (n:h.Ns1 dx mA):∃ od,h.get? dx=some od∧∀ name,PySem.W.lookIn name od=some (mA name):=by
 obtain ⟨o,es,ep,ho,hd,hk,_,hm⟩:=n
 refine ⟨o,ho,fun name=>?_⟩
 have e:=hm name
 unfold nsFind findBy at e
 rw [←Array.find?_toList] at e
 unfold PySem.W.lookIn
 rw [hd]
 dsimp only
 split
 ·rename_i y q
  rw [q] at e
  exact congrArg some e
 ·rename_i q
  rw [q] at e
  have a:es.toList.any (·.refKey)=false:=by
   rw [List.any_eq_false]
   intro y hy
   obtain ⟨z,t,hkey⟩:=hk y (Array.mem_toList_iff.mp hy)
   simp [DictEntry.refKey,hkey]
  have a':¬ es.toList.any (·.refKey)=true:=by rw [a];exact Bool.false_ne_true
  rw [if_neg a']
  exact congrArg some e
theorem ObjM.look {h:Heap} {x dx C:Addr} {mA:Str→Option Value} (I:ObjM h x dx C mA):∃ od,PySem.W.InstAt h x (PySem.W.instObj C dx) C (some od)∧∀ name,PySem.W.lookIn name od=some (mA name) :=
 let ⟨od,ho,hl⟩:=a7q I.ns
 ⟨od,⟨I.obj,rfl,rfl,ho⟩,hl⟩
section
variable {prog:Program} {w:World} {A:Around} {E:Value→Shared→Prop} {s:Shared} {K:PySem.W.Frag} {x dx C f:Addr} {mA:Str→Option Value} {name:Str} {v:Value}
end
def putF (f:Str) (v:V):List (Str × V)→List (Str × V)
 | []=>[(f,v)]
 | (g,x) :: r=>if g=f then (g,v) :: r else (g,x) :: putF f v r
theorem a8S.some_of {v:V} {o:Option Value} (r:a8S (some v) o):∃ u,o=some u∧a0U v u:=by
 cases o with
 | none=>exact (show False from r).elim
 | some u=>exact ⟨u,rfl,r⟩
section
variable {P:Program} {w:World} {H H':Hp} {h h':Heap} {a C dx:Addr} {fs fs':List (Str × V)}
theorem b0H (hok:HOk P w H h) (e:H a=some (.ins C dx fs)):∃ mA,ObjM h a dx C mA∧(∀ f,a8S (fs.lookup f) (mA f))∧PySem.Within mA (fs.map (·.1))∧fs.length≤1000∧H dx=some (.own a):=by
 obtain ⟨d,z,ne,ob,mA,n,r,q⟩:=(show a0w P w H h a (.ins C dx fs) from hok a _ e)
 exact ⟨mA,⟨ob,n,ne⟩,r,q,z,d⟩
end
structure Cls (K:PySem.W.Frag) (C:Addr):Prop where
 pg:PySem.W.plainGet K C Str.empty=true
 hd:PySem.W.hasDictIn K C=true
 po:PySem.W.plainOver K C=true
 sa:PySem.W.findIn K (.ref C) "__setattr__"=some (some (.builtin "object.__setattr__"))
theorem Cls.get {K:PySem.W.Frag} {C:Addr} (c:Cls K C) (f:Str):PySem.W.plainGet K C f=true:=c.pg
def a7r (K:PySem.W.Frag) (C:Addr) (f:Str):Prop:=PySem.W.findIn K (.ref C) f=some none
structure Con (K:PySem.W.Frag) (C:Addr) (f:Str) (v:V) (u:Value):Prop where
 at_:PySem.W.findIn K (.ref C) f=some (some u)
 rel:a0U v u
 get:PySem.W.specialIn K u "__get__"=some none
 cp:PySem.W.copiedNames.contains f=false
structure Meth (K:PySem.W.Frag) (C:Addr) (m:Str) (f:Addr):Prop where
 at_:PySem.W.findIn K (.ref C) m=some (some (.ref f))
 fn:PySem.W.isFn K (.ref f)=true
 kp:PySem.W.keepIn K (.ref f)=true
section
variable {X:Cx} {pins:List (Addr × Obj)} {σ:St} {H:Hp} {s:Shared} {a C dx:Addr} {fs:List (Str × V)} {f:Str} {v:V} {A:Around} {E:Value→Shared→Prop}
end
def tFld (K:PySem.W.Frag) (ta:TE) (f:Str):TE:=fun σ H Q=>ta σ H fun x H1=>∃ a C dx fs v,x=.ref a∧H1 a=some (.ins C dx fs)∧Cls K C∧a7r K C f∧fs.lookup f=some v∧Q v H1
def tCon (K:PySem.W.Frag) (ta:TE) (f:Str):TE:=fun σ H Q=>ta σ H fun x H1=>∃ a C dx fs v u,x=.ref a∧H1 a=some (.ins C dx fs)∧Cls K C∧Con K C f v u∧fs.lookup f=none∧Q v H1
def sFld (K:PySem.W.Frag) (ta tv:TE) (f:Str):TS:=fun D σ H=>tv σ H fun y H1=>ta σ H1 fun x H2=>∃ a C dx fs,x=.ref a∧H2 a=some (.ins C dx fs)∧Cls K C∧a7r K C f∧fs.length < 1000 ∧
 D.nx σ (upd H2 a (.ins C dx (putF f y fs)))
def InOp (X:Cx) (op:Operator) (rd:V→V→Hp→VK→Prop):Prop :=
 ∀ (pins:List (Addr × Obj)) (s:Shared) (σ:St) (H:Hp) (x y:V) (u v:Value) (Q:VK),Inv X pins σ H s→a0U x u→a0U y v→rd x y H Q→wpAny (model X.prog X.w) X.A (inplaceOp op u v) (EP X pins σ Q) X.xe s
def sFldAug (K:PySem.W.Frag) (ta tv:TE) (rd:V→V→Hp→VK→Prop) (f:Str):TS:=fun D σ H=>ta σ H fun x H1=>∃ a C dx fs v,x=.ref a∧H1 a=some (.ins C dx fs)∧Cls K C∧a7r K C f∧fs.lookup f=some v ∧
 tv σ H1 fun y H2=>rd v y H2 fun z H3=>∃ dx' fs',H3 a=some (.ins C dx' fs')∧fs'.length < 1000∧D.nx σ (upd H3 a (.ins C dx' (putF f z fs')))
section
variable {X:Cx} {o e value:Expr} {f:Str} {pos pos' tpos:Pos} {ta tv:TE}
end
section
variable {X:Cx} {pins:List (Addr × Obj)} {σ:St} {H:Hp} {s:Shared} {A:Around} {E:Value→Shared→Prop} {Q:Value→Shared→Prop} {c:Value} {b:Bool}
inductive a6v (K:PySem.W.Frag) (H:Hp):V→Value→Prop where
 | non:a6v K H .non (.type "NoneType")
 | bl (x:Bool):a6v K H (.bl x) (.type "bool")
 | int (i:Int):a6v K H (.int i) (.type "int")
 | str (x:Str):a6v K H (.str x) (.type "str")
 | flt (x:UInt64):a6v K H (.flt x) (.type "float")
 | lst {a:Addr} {xs:List V} (e:H a=some (.lst xs)):a6v K H (.ref a) (.type "list")
 | frz {a:Addr} {o:Obj} {xs:List V} (e:H a=some (.frz o (.lst xs))):a6v K H (.ref a) (.type "list")
 | tup {a:Addr} {xs:List V} (e:H a=some (.tup xs)):a6v K H (.ref a) (.type "tuple")
 | dK {a:Addr} {kvs:List (Key × V)} (e:H a=some (.dK kvs)):a6v K H (.ref a) (.type "dict")
 | dT {a:Addr} {kvs:List (List Key × V)} (e:H a=some (.dT kvs)):a6v K H (.ref a) (.type "dict")
 | ins {a C dx:Addr} {fs:List (Str × V)} (e:H a=some (.ins C dx fs)) (cl:Cls K C) (ha:PySem.W.findIn K (.ref C) "__class__"=some (some (.builtin "object.__class__")))
   (hn:PySem.W.specialIn K (.builtin "object.__class__") "__get__"=some (some (.builtin "getset_descriptor.__get__"))) (htk:PySem.W.takesIn K (.builtin "object.__class__")=some true)
   (hm:PySem.W.mroIn K C (.type "object")=some true):a6v K H (.ref a) (.ref C)
theorem a7s {x:V} {u t:Value} (I:Inv X pins σ H s) (rx:a0U x u) (ty:a6v X.K H x t) (e:PySem.W.kitOne X.K t c=some b) (h:∀ tk,Q (.bool b) { s with toks:=tk }) :
  wpAny (model X.prog X.w) A (call (.builtin "isinstance") [u,c]) Q E s:=by
 cases ty with
 | non=>cases (show u=Value.none from rx);exact PySem.W.kia_one PySem.W.kitx_none I.kIn True.intro e (fun z=>nomatch z) h
 | bl y=>cases (show u=Value.bool y from rx);exact PySem.W.kia_one PySem.W.kitx_bool I.kIn True.intro e (fun z=>nomatch z) h
 | int i=>obtain ⟨t,q⟩:=(show ∃ t,u=Value.int i t from rx);cases q;exact PySem.W.kia_one PySem.W.kitx_int I.kIn True.intro e (fun z=>nomatch z) h
 | str y=>obtain ⟨t,q⟩:=(show ∃ t,u=Value.str y t from rx);cases q;exact PySem.W.kia_one PySem.W.kitx_str I.kIn True.intro e (fun z=>nomatch z) h
 | flt y=>obtain ⟨t,q⟩:=(show ∃ t,u=Value.float y t from rx);cases q;exact PySem.W.kia_one PySem.W.kitx_float I.kIn True.intro e (fun z=>nomatch z) h
 | @lst a xs ea =>
  cases (show u=Value.ref a from rx)
  obtain ⟨_,_,n,_,h1⟩:=(show a0w X.prog X.w H s.heap a (.lst xs) from I.hok a _ ea)
  exact PySem.W.kia_one PySem.W.kitx_list I.kIn ⟨_,h1,rfl⟩ e (fun z=>nomatch z) h
 | @frz a ob xs ea =>
  cases (show u=Value.ref a from rx)
  obtain ⟨_,_,_,n,_,h1⟩:=(show a0w X.prog X.w H s.heap a (.frz ob (.lst xs)) from I.hok a _ ea)
  exact PySem.W.kia_one PySem.W.kitx_list I.kIn ⟨_,h1,rfl⟩ e (fun z=>nomatch z) h
 | @tup a xs ea =>
  cases (show u=Value.ref a from rx)
  obtain ⟨_,_,_,p⟩:=(show a0w X.prog X.w H s.heap a (.tup xs) from I.hok a _ ea)
  obtain ⟨o,h1,h2,_⟩:=p.is
  exact PySem.W.kia_one PySem.W.kitx_tuple I.kIn ⟨o,h1,h2⟩ e (fun z=>nomatch z) h
 | @dK a kvs ea =>
  cases (show u=Value.ref a from rx)
  obtain ⟨_,_,vs,_,p⟩:=(show a0w X.prog X.w H s.heap a (.dK kvs) from I.hok a _ ea)
  obtain ⟨o,es,ep,h1,h2,_⟩:=p
  exact PySem.W.kia_one PySem.W.kitx_dict I.kIn ⟨o,h1,h2.1⟩ e (fun z=>nomatch z) h
 | @dT a kvs ea =>
  cases (show u=Value.ref a from rx)
  obtain ⟨_,_,xs,_,o,es,ep,h1,h2,_⟩:=(show a0w X.prog X.w H s.heap a (.dT kvs) from I.hok a _ ea)
  exact PySem.W.kia_one PySem.W.kitx_dict I.kIn ⟨o,h1,h2.1⟩ e (fun z=>nomatch z) h
 | @ins a C dx fs ea cl ha hn htk hm =>
  cases (show u=Value.ref a from rx)
  obtain ⟨mA,O,_⟩:=b0H I.hok ea
  obtain ⟨od,J,_⟩:=O.look
  exact PySem.W.kia_one (PySem.W.kitx_own (cl.get _) cl.hd ha hn htk hm) I.kIn J e (fun z=>nomatch z) h
end
structure a2E (k:Nat) (A:Around):Prop where
 hd:A.handled=none
 dp:A.depth+3 * k+5 < recursionLimit
 un:A.units+16 * k+200 < cLine
theorem a2E.mono {j k:Nat} {A:Around} (r:a2E k A) (h:j≤k):a2E j A:=⟨r.hd,by have:=r.dp;omega,by have:=r.un;omega⟩
theorem a2E.deeper {k:Nat} {A:Around} (r:a2E (k+1) A) (env:Env):a2E k (A.deeper env) :=
 ⟨r.hd,by have:=r.dp;show A.depth+1+3 * k+5 < _;omega,by have:=r.un;show A.units+3+16 * k+200 < _;omega⟩
theorem a2E.in1 {k:Nat} {A:Around} (r:a2E (k+1) A):a2E k A.in1 :=
 ⟨r.hd,by have:=r.dp;show A.depth+3 * k+5 < _;omega,by have:=r.un;show A.units+1+16 * k+200 < _;omega⟩
theorem a2E.depth {k:Nat} {A:Around} (r:a2E k A):A.depth < recursionLimit:=by have:=r.dp;omega
theorem a2E.units {k:Nat} {A:Around} (r:a2E k A):A.units+64 < cLine:=by have:=r.un;omega
def tNil:TA:=fun _ H Q=>Q [] H
def b0I (ta:TE) (tr:TA):TA:=fun σ H Q=>ta σ H fun x H1=>tr σ H1 fun xs H2=>Q (x :: xs) H2
section
variable {X:Cx} {e:Expr} {es:List Expr} {te:TE} {t:TA} {pos:Pos}
theorem a0e:PA X [] tNil:=fun _ _ _ _ H Q I h=>Calls.spliced_nil ⟨[],H,I,.nil,h⟩
theorem a0a (ha:PE X e te) (hr:PA X es t) (hs:starEach (e :: es) X.env=(false,eval e X.env) :: starEach es X.env:=by rfl):PA X (e :: es) (b0I te t):=by
 intro pos pins s σ H Q I h
 rw [hs]
 show wpAny _ _ (spliced ((false,eval e X.env) :: backTo pos (starEach es X.env))) _ _ s
 refine Calls.spliced_cons (thn (ha pins s σ H _ I h) fun u s1 ⟨x,H1,I1,r1,q1⟩=>?_)
 exact thn (hr pos pins s1 σ H1 _ I1 q1) fun us s2 ⟨xs,H2,I2,r2,q2⟩=>⟨x :: xs,H2,I2,.cons r1 r2,q2⟩
def tTup (t:TA):TE:=fun σ H Q=>t σ H fun xs H1=>xs.length≤sizeLine∧∀ p,H1 p=none→Q (.ref p) (upd H1 p (.tup xs))
def tLst (t:TA):TE:=fun σ H Q=>t σ H fun xs H1=>xs.length≤sizeLine∧∀ p,H1 p=none→Q (.ref p) (upd H1 p (.lst xs))
theorem a0K {x1} (h:PA X es t):PE X (.Tuple es x1 pos) (tTup t):=by
 intro pins s σ H Q I hq
 refine wpAny_Tuple_spliced (thn (h pos pins s σ H _ I hq) fun us s1 ⟨xs,H1,I1,r,z,q⟩=>⟨by rw [←r.length];exact z,?_⟩)
 have hf:H1 s1.heap.objs.size=none:=I1.hok.fresh (Nat.le_refl _)
 refine ⟨.ref s1.heap.objs.size,upd H1 s1.heap.objs.size (.tup xs),I1.laid (t':=s1.toks) (fun b u e=>Heap.get?_push_of_some _ e) (Nat.le_refl _) ?_,rfl,q _ hf⟩
 exact ⟨z,us,r,⟨_,Heap.get?_push_size _ rfl,_,rfl⟩⟩
theorem a1T (h:PA X es t):PE X (.List es pos) (tLst t):=by
 intro pins s σ H Q I hq
 refine wpAny_List_spliced (thn (h pos pins s σ H _ I hq) fun us s1 ⟨xs,H1,I1,r,z,q⟩=>⟨by rw [←r.length];exact z,?_⟩)
 have hf:H1 s1.heap.objs.size=none:=I1.hok.fresh (Nat.le_refl _)
 refine ⟨.ref s1.heap.objs.size,upd H1 s1.heap.objs.size (.lst xs),I1.laid (t':=s1.toks) (fun b u e=>Heap.get?_push_of_some _ e) (Nat.le_refl _) ?_,rfl,q _ hf⟩
 exact ⟨z,us,0,r,Heap.get?_push_size _ rfl⟩
end
abbrev Sp:=List V→Hp→VK→XK→Prop
abbrev CXT:=List Env→Hp→Shared→XK→Value→Shared→Prop
structure a9a (P:Program) (w:World) (K:PySem.W.Frag) (mg:Str→Option Value) (base:Heap) (A:Around) (outer:List Env) (s:Shared) (H:Hp):Prop where
 frames:A.frames=some outer
 mod:Mod K mg base
 bs:∀ b o,base.get? b=some o→s.heap.get? b=some o∧H b=none
 bsz:base.objs.size≤s.heap.objs.size
 funs:s.heap.FunFrames base outer
 frf:∀ b∈frs outer,H b=none
 hok:HOk P w H s.heap
 bare:AllBare s.gens
def CE (outer:List Env) (P:Program) (w:World) (H:Hp) (s:Shared) (Q:VK) (u:Value) (s':Shared):Prop :=
 ∃ v H',s'.os=s.os∧AllBare s'.gens∧Un (frs outer) [] H H' s.heap s'.heap∧HOk P w H' s'.heap∧a0U v u∧Q v H'
def CR (CX:CXT) (outer:List Env) (P:Program) (w:World) (H:Hp) (s:Shared) (Q:VK) (E:XK) (r:Result) (s':Shared):Prop :=
 match r with
 | .ok (.ret u)=>CE outer P w H s Q u s'
 | .ok _=>False
 | .error e=>CX outer H s E e s'
structure a1X (P:Program) (w:World) (K:PySem.W.Frag) (mg:Str→Option Value) (base:Heap) (CX:CXT) (k:Nat) (f:Addr) (fd:FuncData) (ps:List Str) (sp:Sp):Prop where
 len:∀ vs H Q E,sp vs H Q E→vs.length=ps.length
 run:∀ (A:Around) (outer:List Env) (s:Shared) (H:Hp) (args:Args) (us:List Value) (vs:List V) (Q:VK) (E:XK),a2E k A→a9a P w K mg base A outer s H→BindsTo s fd args (ps.zip us)→a0A vs us→sp vs H Q E →
  codeAny (model P w) A (.call (.ref f) args) (CR CX outer P w H s Q E) s
theorem a1X.mono {P:Program} {w:World} {K:PySem.W.Frag} {mg:Str→Option Value} {base:Heap} {CX:CXT} {j k:Nat} {f:Addr} {fd:FuncData} {ps:List Str} {sp:Sp} (F:a1X P w K mg base CX j f fd ps sp) (h:j≤k) :
  a1X P w K mg base CX k f fd ps sp:=⟨F.len,fun A outer s H args us vs Q E hr=>F.run A outer s H args us vs Q E (hr.mono h)⟩
theorem a9a.in1 {P:Program} {w:World} {K:PySem.W.Frag} {mg:Str→Option Value} {base:Heap} {A:Around} {outer:List Env} {s:Shared} {H:Hp} (e:a9a P w K mg base A outer s H) :
  a9a P w K mg base A.in1 outer s H:=⟨e.frames,e.mod,e.bs,e.bsz,e.funs,e.frf,e.hok,e.bare⟩
section
variable {X:Cx} {pins:List (Addr × Obj)} {σ:St} {H:Hp} {s s':Shared}
theorem Inv.env0 (I:Inv X pins σ H s):a9a X.prog X.w X.K X.mg X.base X.A X.stack s H :=
 ⟨I.ok.frames,I.ok.mod,I.bs,Nat.le_trans I.ok.bsz I.sz,I.stack,I.stkFree,I.hok,I.bare⟩
theorem Inv.after {Q:VK} {u:Value} (I:Inv X pins σ H s) (h:CE X.stack X.prog X.w H s Q u s'):EP X pins σ Q u s':=by
 obtain ⟨v,H',os,bare,un,hok,r,q⟩:=h
 obtain ⟨hh,g,d,t,os'⟩:=s'
 obtain rfl:os'=s.os:=os
 exact ⟨v,H',I.call (h':=hh) (g':=g) (d':=d) (t':=t) (ch:=[]) un hok bare (fun b z=>absurd z (by simp)),r,q⟩
end
def tCall (sp:Sp) (dvs:List V) (E:XK) (t:TA):TE:=fun σ H Q=>t σ H fun vs H1=>sp (vs++dvs) H1 Q E
def tMeth (C:Addr) (m:Str) (sp:Sp) (dvs:List V) (E:XK) (ta:TE) (t:TA):TE:=fun σ H Q=>ta σ H fun x H1=>∃ a dx fs,x=.ref a∧H1 a=some (.ins C dx fs)∧fs.lookup m=none ∧
 t σ H1 fun vs H2=>sp (x :: (vs++dvs)) H2 Q E
def tMake (C:Addr) (sp:Sp) (dvs:List V) (E:XK) (t:TA):TE:=fun σ H Q=>t σ H fun vs H1=>∀ x dx,H1 x=none→H1 dx=none→dx≠x →
 sp (.ref x :: (vs++dvs)) (upd (upd H1 dx (.own x)) x (.ins C dx [])) (fun v H2=>v=.non∧Q (.ref x) H2) E
def a5j (K:PySem.W.Frag) (fd:FuncData) (ps:List Str) (ds:List Value):Prop :=
 ∀ (s:Shared) (us:List Value),K.In s.heap→(us++ds).length=ps.length→BindsTo s fd ⟨us,[]⟩ (ps.zip (us++ds))
theorem a5j.all {K:PySem.W.Frag} {fd:FuncData} {ps:List Str} (h:∀ us:List Value,us.length=ps.length→bindArgs fd ⟨us,[]⟩=pure (ps.zip us)):a5j K fd ps []:=fun s us _ hl=>by
 rw [List.append_nil] at hl ⊢
 exact .of_eq (h us hl)
def a7t (CX:CXT) (X:Cx) (E:XK):Prop:=∀ (pins:List (Addr × Obj)) (σ:St) (H:Hp) (s:Shared) (e:Value) (s':Shared),Inv X pins σ H s→CX X.stack H s E e s'→X.xe e s'
section
variable {X:Cx} {CX:CXT} {k:Nat} {f C:Addr} {fd:FuncData} {ps:List Str} {sp:Sp} {dvs:List V} {ds:List Value} {E:XK} {x m:Str} {p pos apos:Pos} {e o:Expr} {es:List Expr} {ta:TE} {t:TA}
theorem run_fn {pins:List (Addr × Obj)} {σ:St} {H:Hp} {s:Shared} {Q:VK} {us:List Value} {vs:List V} (F:a1X X.prog X.w X.K X.mg X.base CX k f fd ps sp) (hr:a2E k X.A) (hb:a5j X.K fd ps ds) (hd:a0A dvs ds) (hx:a7t CX X E)
  (I:Inv X pins σ H s) (r:a0A vs us) (h:sp (vs++dvs) H Q E):wpAny (model X.prog X.w) X.A (call (.ref f) us) (EP X pins σ Q) X.xe s:=by
 have r2:a0A (vs++dvs) (us++ds):=r.append hd
 have hl:(us++ds).length=ps.length:=by rw [←r2.length];exact F.len _ _ _ _ h
 refine wpAny_call (codeAny_mono (F.run X.A X.stack s H ⟨us,[]⟩ (us++ds) (vs++dvs) Q E hr I.env0 (hb s us I.kIn hl) r2 h) fun r s' hq=>?_)
 cases r with
 | error e=>exact hx pins σ H s e s' I hq
 | ok fl =>
  cases fl with
  | ret u=>exact I.after hq
  | next=>exact False.elim hq
  | brk=>exact False.elim hq
  | cont=>exact False.elim hq
theorem a0v (F:a1X X.prog X.w X.K X.mg X.base CX k f fd ps sp) (hr:a2E k X.A) (hg:Gl X x) (hm:X.mg x=some (.ref f)) (hk:PySem.W.keepIn X.K (.ref f)=true) (hb:a5j X.K fd ps ds) (hd:a0A dvs ds) (hx:a7t CX X E)
  (ha:PA X (e :: es) t) (hdb:(x == ("__debug__":Str))=false:=by decide) (he:starEach (e :: es) X.env=(false,eval e X.env) :: starEach es X.env:=by rfl) (hpl:(backTo pos (starEach es X.env)).any (·.1)=false:=by rfl) :
  PE X (.Call (.Name x p) (e :: es) [] pos) (tCall sp dvs E t):=by
 intro pins s σ H Q I h
 refine wpAny_Call_Name_kw (a7k I hg hm ?_ hdb)
 refine PySem.W.callWith_K (h₀:=X.base) I.ok.mod.kin hk (thn (ha pos pins s σ H _ I h) fun us s1 ⟨vs,H1,I1,r,q⟩=>⟨I1.kIn,?_⟩) he hpl
 exact run_fn F hr hb hd hx I1 r q
structure Mk (K:PySem.W.Frag) (C f:Addr):Prop where
 makes:PySem.W.makesIn K C=true
 init:PySem.W.findIn K (.ref C) "__init__"=some (some (.ref f))
 fn:PySem.W.isFn K (.ref f)=true
 kp:PySem.W.keepIn K (.ref C)=true
end
def PK (X:Cx) (kws:List Keyword) (t:TA):Prop :=
 ∀ (pos:Pos) (pins:List (Addr × Obj)) (s:Shared) (σ:St) (H:Hp) (Q:List V→Hp→Prop),Inv X pins σ H s→t σ H Q→wpAny (model X.prog X.w) X.A (evalAll ((backToKw pos (keywordEach kws X.env)).map (·.2))) (AP X pins σ Q) X.xe s
section
variable {X:Cx} {CX:CXT} {k:Nat} {f C:Addr} {fd:FuncData} {ps ks:List Str} {sp:Sp} {E:XK} {x m:Str} {p pos apos kpos:Pos} {e o:Expr} {es:List Expr} {kws:List Keyword} {te ta:TE} {t tk:TA} {nm:Option Str}
theorem a9V:PK X [] tNil:=fun _ _ _ _ H Q I h=>wpAny_evalAll_nil ⟨[],H,I,.nil,h⟩
theorem a5k (ha:PE X e te) (hr:PK X kws t):PK X (⟨nm,e,kpos⟩ :: kws) (b0I te t):=by
 intro pos pins s σ H Q I h
 show wpAny _ _ (evalAll ((do let v ←eval e X.env;standAt pos;pure v) :: (backToKw pos (keywordEach kws X.env)).map (·.2))) _ _ s
 refine wpAny_evalAll_cons (wpAny_bind (thn (ha pins s σ H _ I h) fun u s1 ⟨x,H1,I1,r1,q1⟩=>wpAny_bind (wpAny_standAt (wpAny_pure ?_))))
 exact thn (hr pos pins s1 σ H1 _ I1 q1) fun us s2 ⟨xs,H2,I2,r2,q2⟩=>⟨x :: xs,H2,I2,.cons r1 r2,q2⟩
structure KBinds (K:PySem.W.Frag) (fd:FuncData) (ps ks:List Str) (g:List Value→List Value→List Value) (gV:List V→List V→List V):Prop where
 to:∀ (s:Shared) (us ws:List Value),K.In s.heap→(g us ws).length=ps.length→BindsTo s fd ⟨us,ks.zip ws⟩ (ps.zip (g us ws))
 rel:∀ {vs:List V} {us:List Value} {zs:List V} {ws:List Value},a0A vs us→a0A zs ws→a0A (gV vs zs) (g us ws)
variable {g:List Value→List Value→List Value} {gV:List V→List V→List V}
end
structure a0C (N P:List Str) (sc:Scope):Prop where
 kind:sc.kind=.function
 co:sc.isCoroutine=false
 gen:sc.isGenerator=false
 nd:N.Nodup
 pre:N.take P.length=P
 par:∀ x∈P,sc.names.lookup x=some .local∨sc.names.lookup x=some .cell
 nofree:∀ y∈sc.names,y.2≠.free
theorem a4H {kindOf:Str→Option NameKind} {x:Str}:∀ {binds:List (Str × Value)} {m:Str→Option Value},(∀ v,(x,v)∉binds)→bindL kindOf binds m x=m x
 | [],_,_=>rfl
 | (n,v) :: r,m,h=>by
  unfold bindL
  rw [a4H fun w hw=>h w (List.mem_cons_of_mem _ hw)]
  split
  ·have:x≠n:=by rintro rfl;exact h v List.mem_cons_self
   simp [this]
  ·rfl
theorem a4I {kindOf:Str→Option NameKind} {x:Str}:∀ {binds:List (Str × Value)} {m:Str→Option Value},(∀ v,(x,v)∉binds)→bindC kindOf binds m x=m x
 | [],_,_=>rfl
 | (n,v) :: r,m,h=>by
  unfold bindC
  rw [a4I fun w hw=>h w (List.mem_cons_of_mem _ hw)]
  split
  ·rfl
  ·have:x≠n:=by rintro rfl;exact h v List.mem_cons_self
   simp [this]
theorem a4J {kindOf:Str→Option NameKind} {x:Str} {v:Value}:∀ {P:List Str} {vs:List Value} {i:Nat} {m:Str→Option Value},P.Nodup→P[i]?=some x→vs[i]?=some v→kindOf x=some .local →
  bindL kindOf (P.zip vs) m x=some v
 | [],_,_,_,_,h,_,_=>by simp at h
 | _ :: _,[],_,_,_,_,h,_=>by simp at h
 | p :: P,w :: vs,0,m,nd,h1,h2,hk=>by
  simp at h1 h2;subst h1;subst h2
  show bindL kindOf ((p,w) :: P.zip vs) m p=_
  unfold bindL
  rw [a4H fun v hv=>(List.nodup_cons.mp nd).1 (List.of_mem_zip hv).1,if_pos hk]
  simp
 | p :: P,w :: vs,i+1,m,nd,h1,h2,hk=>by
  show bindL kindOf ((p,w) :: P.zip vs) m x=_
  unfold bindL
  exact a4J (i:=i) (List.nodup_cons.mp nd).2 (by simpa using h1) (by simpa using h2) hk
theorem a4K {kindOf:Str→Option NameKind} {x:Str} {v:Value}:∀ {P:List Str} {vs:List Value} {i:Nat} {m:Str→Option Value},P.Nodup→P[i]?=some x→vs[i]?=some v→kindOf x≠some .local →
  bindC kindOf (P.zip vs) m x=some v
 | [],_,_,_,_,h,_,_=>by simp at h
 | _ :: _,[],_,_,_,_,h,_=>by simp at h
 | p :: P,w :: vs,0,m,nd,h1,h2,hk=>by
  simp at h1 h2;subst h1;subst h2
  show bindC kindOf ((p,w) :: P.zip vs) m p=_
  unfold bindC
  rw [a4I fun v hv=>(List.nodup_cons.mp nd).1 (List.of_mem_zip hv).1,if_neg hk]
  simp
 | p :: P,w :: vs,i+1,m,nd,h1,h2,hk=>by
  show bindC kindOf ((p,w) :: P.zip vs) m x=_
  unfold bindC
  exact a4K (i:=i) (List.nodup_cons.mp nd).2 (by simpa using h1) (by simpa using h2) hk
def start (N:List Str) (vs:List V):St:=vs.map some++List.replicate (N.length - vs.length) none
def a5O (CX:CXT) (P:Program) (w:World) (K:PySem.W.Frag) (mg:Str→Option Value) (base:Heap) (N:List Str) (qual:Str) (scope:Scope) (f:Addr) (cd:Value) (A:Around) (outer:List Env) (s:Shared) (H:Hp) (E:XK):Cx where
 prog:=P
 w:=w
 K:=K
 mg:=mg
 base:=base
 A:=A.deeper (envOfC qual scope s.heap.objs.size f cd)
 N:=N
 s₀:=s
 H₀:=H
 env:=envOfC qual scope s.heap.objs.size f cd
 outer:=outer
 stack:=envOfC qual scope s.heap.objs.size f cd :: outer
 ex:=[]
 calm:=true
 fn:=fun _=>true
 pn:=[]
 xe:=fun e s'=>wpAny (model P w) (A.deeper (envOfC qual scope s.heap.objs.size f cd)) (leaving (envOfC qual scope s.heap.objs.size f cd) e) (fun _ s''=>CX outer H s E e s'') (fun e' s''=>CX outer H s E e' s'') s'
theorem a5P {sc:Scope} {n:Nat} {x:Str} (h:sc.names.lookup x=some .cell):∃ c,(cellsFrom n sc.names []).lookup x=some c:=by
 have q:=PySem.W.cellsFrom_some sc.names n [] (.inl h)
 exact Option.isSome_iff_exists.mp q
theorem a7u {CX:CXT} {P:Program} {w:World} {K:PySem.W.Frag} {mg:Str→Option Value} {base:Heap} {N ps:List Str} {qual:Str} {scope:Scope} {f:Addr} {cd:Value} {A:Around} {outer:List Env} {s s1:Shared} {H:Hp} {E:XK} {us:List Value} {vs:List V}
  (S:a0C N ps scope) (hd:A.handled=none) (e0:a9a P w K mg base A outer s H) (hl:vs.length=ps.length) (r:a0A vs us)
  (x:InCallC s s.heap.objs.size (bindL (envOfC qual scope s.heap.objs.size f cd).kindOf (ps.zip us) fun _=>none) (cellsFrom (s.heap.objs.size+1) scope.names []) (bindC (envOfC qual scope s.heap.objs.size f cd).kindOf (ps.zip us) fun _=>none) s1) :
  Inv (a5O CX P w K mg base N qual scope f cd A outer s H E) [] (start N vs) H s1:=by
 have hpl:ps.length≤N.length:=by have:=congrArg List.length S.pre;rw [List.length_take] at this;omega
 obtain ⟨h1,tk,rfl,hk⟩:=x.done
 have noA:∀ b:Addr,b∉(a5O CX P w K mg base N qual scope f cd A outer s H E).ex:=fun b z=>absurd (show b∈([]:List Addr) from z) (by simp)
 refine ⟨⟨e0.mod,S.kind,rfl,rfl,Nat.le_refl _,fun y z c h1 h2=>?_,fun y hy=>?_,fun y c _ h=>?_,fun _=>hd,Around.frames_deeper e0.frames,.inr ⟨rfl,rfl⟩,fun b z=>absurd z (noA b),e0.bs,e0.bsz,fun b _ _=>noA b,fun b z=>absurd z (noA b),e0.funs,e0.frf⟩,
  rfl,e0.bare,Un.kept hk,⟨_,x.toInCall.ns,fun i y v h1 h2 h3=>?_⟩,fun y c h=>⟨_,x.cell y c h⟩,e0.hok.fresh (Nat.le_refl _),fun y c h=>?_,fun p hp=>absurd (show p∈([]:List (Addr × Obj)) from hp) (by simp),e0.hok.kept hk,?_⟩
 ·exact name_of_addr x.apart (PySem.mem_of_lookup h1) (PySem.mem_of_lookup h2)
 ·have hy:scope.names.lookup y=some .cell∨scope.names.lookup y=some .free:=hy
  rcases hy with hy | hy
  ·exact a5P hy
  ·exact absurd rfl (S.nofree _ (PySem.mem_of_lookup hy))
 ·exact Nat.le_of_lt (x.above y c (PySem.mem_of_lookup h))
 ·have hi:i < vs.length:=by
   unfold start at h2
   by_cases hi:i < vs.length
   ·exact hi
   ·rw [List.getElem?_append_right (by simpa using hi)] at h2
    rw [List.getElem?_replicate] at h2
    split at h2 <;> cases h2
  have ha:vs[i]?=some v:=by
   unfold start at h2
   rw [List.getElem?_append_left (by simpa using hi),List.getElem?_map] at h2
   cases e:vs[i]? with
   | none=>rw [e] at h2;cases h2
   | some a=>rw [e] at h2;cases h2;rfl
  obtain ⟨u,hu,rv⟩:=r.get ha
  have hp:ps[i]?=some y:=by
   rw [←S.pre,List.getElem?_take_of_lt (by omega)];exact h1
  have ndP:ps.Nodup:=by rw [←S.pre];exact S.nd.sublist (List.take_sublist _ _)
  refine ⟨u,rv,?_⟩
  rcases S.par y (List.mem_of_getElem? hp) with k | k
  ·exact .inl ⟨k,a4J ndP hp hu k⟩
  ·obtain ⟨c,e⟩:=a5P (n:=s.heap.objs.size+1) k
   refine .inr ⟨.inl k,c,e,?_⟩
   have q:=x.cell y c e
   rw [a4K ndP hp hu (by show scope.names.lookup y≠_;rw [k];decide)] at q
   exact q
 ·exact e0.hok.fresh (Nat.le_of_lt (x.above y c (PySem.mem_of_lookup h)))
 ·unfold start
  show _=N.length
  rw [List.length_append,List.length_map,List.length_replicate]
  omega
theorem fn_of {CX:CXT} {P:Program} {w:World} {K:PySem.W.Frag} {mg:Str→Option Value} {base:Heap} {k:Nat} {f:Addr} {name qual:Str} {params:Arguments} {body:List Stmt} {scope:Scope} {dV kV doc pm cdv ct oc:Value} {an od:Option Addr}
  {osl:Array (Option Value)} {N ps:List Str} {sp:Sp} (lk:K.lookup f=some ⟨oc,od,.func (PySem.W.fnOf name qual params body scope dV kV doc pm an cdv ct),osl⟩) (hcd:PySem.W.codeIn K cdv qual=true) (S:a0C N ps scope)
  (len:∀ vs H Q E,sp vs H Q E→vs.length=ps.length)
  (hbody:∀ (A:Around) (outer:List Env) (s:Shared) (H:Hp) (vs:List V) (Q:VK) (E:XK),a2E k (A.deeper (envOfC qual scope s.heap.objs.size f cdv))→sp vs H Q E →
   ∃ t,PSs (a5O CX P w K mg base N qual scope f cdv A outer s H E) body t∧t { nx:=fun _ H'=>Q .non H',rt:=Q } (start N vs) H) :
  a1X P w K mg base CX (k+1) f (PySem.W.fnOf name qual params body scope dV kV doc pm an cdv ct) ps sp:=by
 refine ⟨len,fun A outer s H args us vs Q E hr e0 hb r hsp=>?_⟩
 have hl:=len _ _ _ _ hsp
 have KX:K.In s.heap:=e0.mod.kin.keeps fun b o e=>(e0.bs b o e).1
 have lim:s.heap.NoLimit:=e0.mod.nolimit.keeps fun b o e=>(e0.bs b o e).1
 have hkind:∀ y∈ps.zip us,scope.names.lookup y.1=some .local∨(scope.names.lookup y.1=some .cell∧((cellsFrom (s.heap.objs.size+1) scope.names []).lookup y.1).isSome=true):=fun ⟨n,v⟩ hy=>by
  rcases S.par n (List.of_mem_zip hy).1 with q | q
  ·exact .inl q
  ·exact .inr ⟨q,PySem.W.cellsFrom_some _ _ _ (.inl q)⟩
 refine codeAny_call_function hr.depth (KX _ _ lk) rfl S.co S.gen rfl (PySem.W.codeRec_of KX hcd) (hb _ _ _ _ ?_)
 refine wpAny_newFunctionEnv_cells S.kind hkind fun env he s1 x=>?_
 subst he
 refine ⟨lim.keeps x.toInCall.keep,codeAny_func ?_⟩
 obtain ⟨t,ht,hq⟩:=hbody A outer s H vs Q E (hr.deeper _) hsp
 have I:Inv (a5O CX P w K mg base N qual scope f cdv A outer s H E) [] (start N vs) H s1:=a7u S hr.hd e0 hl r x
 refine wpAny_mono (ht [] s1 (start N vs) H _ I hq) (fun fl s' hs=>?_) fun e s' hs=>hs
 have fin:∀ {σ':St} {H':Hp} {v:V} {u:Value},Inv (a5O CX P w K mg base N qual scope f cdv A outer s H E) [] σ' H' s'→a0U v u→Q v H'→CE outer P w H s Q u s' :=
  fun {σ' H' v u} J rv q=>⟨v,H',J.os,J.bare,J.base,J.hok,rv,q⟩
 cases fl with
 | ret u =>
  obtain ⟨v,σ',H',J,rv,q⟩:=hs
  exact fin J rv q
 | next =>
  obtain ⟨σ',H',J,q⟩:=hs
  exact fin (v:=V.non) (u:=Value.none) J rfl q
 | brk =>
  obtain ⟨_,_,_,q⟩:=hs
  exact False.elim q
 | cont =>
  obtain ⟨_,_,_,q⟩:=hs
  exact False.elim q
section
variable {X:Cx} {x:Str} {p pos:Pos} {e:Expr} {es:List Expr} {t:TA} {id T:String} {r:List V→Hp→VK→Prop}
def tCB (r:List V→Hp→VK→Prop) (t:TA):TE:=fun σ H Q=>t σ H fun vs H1=>r vs H1 Q
theorem a0j (hc:a2g X (.builtin id) r) (hg:Gl X x) (hm:X.mg x=none) (hv:bootBuiltins x=some (.builtin id)) (ha:PA X (e :: es) t) (hn:x≠"__name__":=by decide) (hdb:(x == ("__debug__":Str))=false:=by decide)
  (he:starEach (e :: es) X.env=(false,eval e X.env) :: starEach es X.env:=by rfl) (hpl:(backTo pos (starEach es X.env)).any (·.1)=false:=by rfl):PE X (.Call (.Name x p) (e :: es) [] pos) (tCB r t):=by
 intro pins s σ H Q I h
 refine wpAny_Call_Name_kw (a2S I hg hm hv ?_ hn hdb)
 exact PyProof.Rows.callWith_builtin1 (thn (ha pos pins s σ H _ I h) fun us s1 ⟨vs,H1,I1,r1,q1⟩=>hc pins s1 σ H1 vs us Q I1 r1 q1) he hpl
theorem a0Q (hc:a2g X (.type T) r) (hg:Gl X x) (hm:X.mg x=none) (hv:bootBuiltins x=some (.type T)) (ha:PA X (e :: es) t) (hn:x≠"__name__":=by decide) (hdb:(x == ("__debug__":Str))=false:=by decide)
  (he:starEach (e :: es) X.env=(false,eval e X.env) :: starEach es X.env:=by rfl) (hpl:(backTo pos (starEach es X.env)).any (·.1)=false:=by rfl):PE X (.Call (.Name x p) (e :: es) [] pos) (tCB r t):=by
 intro pins s σ H Q I h
 refine wpAny_Call_Name_kw (a2S I hg hm hv ?_ hn hdb)
 exact PyProof.Rows.callWith_type1 (thn (ha pos pins s σ H _ I h) fun us s1 ⟨vs,H1,I1,r1,q1⟩=>hc pins s1 σ H1 vs us Q I1 r1 q1) he hpl
end
end L2
namespace HT
open PySem PyProof.Rows
def a0F:List Int→List Int→Bool
 | [],[]=>false
 | [],_ :: _=>true
 | _ :: _,[]=>false
 | x :: xs,y :: ys=>if x=y then a0F xs ys else decide (x < y)
theorem a1w (x y:Int) (xs ys:List Int):a0F (x :: xs) (y :: ys)=if x=y then a0F xs ys else decide (x < y):=rfl
theorem a2r:a0F [] []=false:=rfl
theorem a2i (y:Int) (ys:List Int):a0F [] (y :: ys)=true:=rfl
theorem a2j (x:Int) (xs:List Int):a0F (x :: xs) []=false:=rfl
theorem a2Y (A:Around) (s:Shared) (a:Int) (t:Tok) (c:Int) (u:Tok):∃ e,SeqAt.EqAt A s (.int a t) (.int c u) e∧(e=true↔a=c) :=
 ⟨(a == c),SeqAt.EqAt.int_int a t c u,by simp⟩
theorem a5Q (A:Around) (s:Shared) (a:Int) (t:Tok) (c:Int) (u:Tok) (prog:Program) (w:World) (E:Value→Shared→Prop) (Q:Value→Shared→Prop) (h:Q (.bool (decide (a < c))) s) :
  wpAny (model prog w) A (richCompare .Lt (.int a t) (.int c u)) Q E s :=
 (PyProof.Rows.lt_int h:wpAny (model prog w) A (compareOp .Lt (.int a t) (.int c u)) Q E s)
section
open PySem.SeqAt
open PySem.AutoSeq1 (wpAny_loadPart')
open PySem.MeetsSeq PySem.MeetsSeq2 PySem.MeetsSeq3
theorem a3Y (l b:Addr) (items items2:Array Value) (n n2:Nat) (dd dd2:Option Addr) (sl sl2:Array (Option Value)) (ns ms:List Int) (hi:IntsAre items.toList ns) (hj:IntsAre items2.toList ms) :
  Meets (Builtin.«tuple.__lt__» ⟨[.ref l,.ref b],[]⟩)
   (fun _ R s=>s.heap.get? l=some { cls:=.type "tuple",dict:=dd,data:=.seq items n,slots:=sl }∧s.heap.get? b=some { cls:=.type "tuple",dict:=dd2,data:=.seq items2 n2,slots:=sl2 } ∧
    R (.ok (.ret (.bool (a0F ns ms)))) s) :=
 .of_wp fun prog w A R s h=>by
  obtain ⟨hp,g,d,tk,os⟩:=s;obtain ⟨hl,hb,h⟩:=h
  have f2:=AutoSeq1.sub_tuple_tuple
  have z1:items.size=ns.length:=by rw [←hi.length];simp
  have z2:items2.size=ms.length:=by rw [←hj.length];simp
  wp_walk using wpAny_loadPart' hl,wpAny_loadPart' hb,wpAny_forIn_list _ (fun rest b s'=>b.1=none∧s'=⟨hp,g,d,tk,os⟩∧∃ (vs ws:List Value) (ns' ms':List Int),rest=vs.zip ws ∧
   IntsAre vs ns'∧IntsAre ws ms'∧ns'.length+items2.size=ms'.length+items.size∧R (.ok (.ret (.bool (a0F ns' ms')))) ⟨hp,g,d,tk,os⟩) _
  case turn =>
   rintro ⟨y,x⟩ rest b s' ⟨hb',rfl,vs,ws,ns',ms',hz,hvi,hwi,hlen,hR⟩
   cases hvi with
   | nil=>rw [List.zip_nil_left] at hz;cases hz
   | cons a t hvi' =>
    cases hwi with
    | nil=>rw [List.zip_nil_right] at hz;cases hz
    | cons c u hwi' =>
     rw [List.zip_cons_cons] at hz
     injection hz with hyx hrest
     injection hyx with hy hx
     subst hy hx
     rw [a1w] at hR
     simp only [List.length_cons] at hlen
     obtain ⟨e,he,hiff⟩:=a2Y A.in1 ⟨hp,g,d,tk,os⟩ a t c u
     refine wpAny_bind (he prog w _ _ ?_)
     cases e with
     | true =>
      rw [if_pos (hiff.mp rfl)] at hR
      wp_walk
      exact ⟨rfl,rfl,_,_,_,_,hrest,hvi',hwi',by omega,hR⟩
     | false =>
      rw [if_neg (fun q=>absurd (hiff.mpr q) Bool.false_ne_true)] at hR
      have hri:=a5Q A.in1 ⟨hp,g,d,tk,os⟩ a t c u prog w
      wp_walk using hri
      exact ⟨_,rfl,by simpa using hR⟩
  case fin =>
   rintro ⟨b1,b2⟩ s' ⟨hb',rfl,vs,ws,ns',ms',hz,hvi,hwi,hlen,hR⟩
   simp only at hb'
   subst hb'
   have hv:a0F ns' ms'=decide (items.size < items2.size):=by
    cases hvi with
    | nil =>
     cases hwi with
     | nil =>
      simp only [List.length_nil] at hlen
      rw [a2r]
      exact (decide_eq_false (by omega)).symm
     | cons c u hw =>
      simp only [List.length_nil,List.length_cons] at hlen
      rw [a2i]
      exact (decide_eq_true (by omega)).symm
    | cons a t hv =>
     cases hwi with
     | nil =>
      simp only [List.length_nil,List.length_cons] at hlen
      rw [a2j]
      exact (decide_eq_false (by omega)).symm
     | cons c u hw =>
      rw [List.zip_cons_cons] at hz
      cases hz
   rw [hv] at hR
   wp_walk
   exact ⟨_,rfl,by simpa [Builtin.Tuple.tupleCompareSizes] using hR⟩
  case h =>
   exact ⟨rfl,rfl,items.toList,items2.toList,ns,ms,rfl,hi,hj,by omega,h⟩
end
section
variable {prog:Program} {w:World} {A:Around} {E:Value→Shared→Prop} {s:Shared}
theorem a6w {l b:Addr} {items items2:Array Value} {ns ms:List Int} {Q:Value→Shared→Prop} (hl:IsTup s.heap l items) (hb:IsTup s.heap b items2) (hi:IntsAre items.toList ns) (hj:IntsAre items2.toList ms)
  (hu:A.units < cLine) (h:Q (.bool (a0F ns ms)) s):wpAny (model prog w) A (compareOp .Lt (.ref l) (.ref b)) Q E s:=by
 obtain ⟨⟨cls,dd,data,sl⟩,ho,hc,n,hd⟩:=id hl
 obtain ⟨⟨cls2,dd2,data2,sl2⟩,ho2,hc2,n2,hd2⟩:=id hb
 simp only at hc hd hc2 hd2
 subst hc hd hc2 hd2
 exact richCompare_meets_room (op:=.Lt) ⟨_,ho,rfl⟩ ⟨_,ho2,rfl⟩ PySem.F.slot_tuple_lt PySem.F.entry_tuple_lt (PySem.F.args_tuple_lt_2 _ _) (a3Y l b items items2 n n2 dd dd2 sl sl2 ns ms hi hj)
  ⟨ho,ho2,show Value.bool (a0F ns ms)≠Value.notImplemented∧Q (.bool (a0F ns ms)) s from ⟨(fun x=>nomatch x),h⟩⟩ hu
theorem b0J {t b:Addr} {vs ws:List Value} {Q:Value→Shared→Prop} (ht:IsTup s.heap t vs.toArray) (hb:IsTup s.heap b ws.toArray) (hv:vs≠[])
  (h1:ws=[]→Q (.ref t) s) (h2:ws≠[]→Q (.ref s.heap.objs.size) { s with heap:=s.heap.push { cls:=.type "tuple",data:=.seq (vs++ws).toArray } })
  (hsz:vs.length+ws.length≤sizeLine):wpAny (model prog w) A (binaryOp .Add (.ref t) (.ref b)) Q E s:=by
 obtain ⟨⟨cls,dd,data,sl⟩,ho,hc,n,hd⟩:=id ht
 obtain ⟨⟨cls2,dd2,data2,sl2⟩,ho2,hc2,n2,hd2⟩:=id hb
 simp only at hc hd hc2 hd2
 subst hc hd hc2 hd2
 have e:vs.toArray++ws.toArray=(vs++ws).toArray:=by simp
 by_cases hw:ws=[]
 ·exact concat_meets ⟨_,ho,rfl⟩ ⟨_,ho2,rfl⟩ noFill_tuple_add seq_tuple_add PySem.F.slot_tuple_add PySem.F.entry_tuple_add (PySem.F.args_tuple_add_2 _ _)
   (tuple_addW1 t b vs.toArray ws.toArray n n2 dd dd2 sl sl2 (by simpa using hv) (by simp [hw])) ⟨ho,ho2,h1 hw⟩
 ·refine concat_meets ⟨_,ho,rfl⟩ ⟨_,ho2,rfl⟩ noFill_tuple_add seq_tuple_add PySem.F.slot_tuple_add PySem.F.entry_tuple_add (PySem.F.args_tuple_add_2 _ _)
   (tuple_addW2 t b vs.toArray ws.toArray n n2 dd dd2 sl sl2 (by simpa using hv) (by simpa using hw) (by rw [List.size_toArray,List.size_toArray];exact hsz)) ⟨ho,ho2,?_⟩
  rw [e]
  exact h2 hw
def sIx (n d:Nat):Option Int→Nat
 | none=>d
 | some v=>if v < 0 then (v+(n:Int)).toNat else min v.toNat n
theorem a3Z (n d:Nat):sIx n d none=d:=rfl
theorem a5l (n d k:Nat):sIx n d (some (k:Int))=min k n:=by
 show (if (k:Int) < 0 then ((k:Int)+(n:Int)).toNat else min (k:Int).toNat n)=min k n
 rw [if_neg (by omega),Int.toNat_natCast]
theorem sIx_le (n d:Nat) (hd:d≤n) (o:Option Int):sIx n d o≤n:=by
 cases o with
 | none=>exact hd
 | some v =>
  show (if v < 0 then (v+(n:Int)).toNat else min v.toNat n)≤n
  by_cases hv:v < 0
  ·rw [if_pos hv];omega
  ·rw [if_neg hv];exact Nat.min_le_right _ _
theorem a7v (v:Int) (n d:Nat):(if v < 0 then max (v+(n:Int)) 0 else min v (n:Int))=((sIx n d (some v):Nat):Int):=by
 show (if v < 0 then max (v+(n:Int)) 0 else min v (n:Int))=(((if v < 0 then (v+(n:Int)).toNat else min v.toNat n):Nat):Int)
 by_cases hv:v < 0
 ·simp only [if_pos hv];omega
 ·simp only [if_neg hv];omega
theorem a6x (lo hi:Option Int) (n:Nat):Builtin.Slice.sliceAdjust lo hi 1 (n:Int)=(((sIx n 0 lo:Nat):Int),((sIx n n hi:Nat):Int)):=by
 have h1:¬ ((1:Int) < 0):=by omega
 unfold Builtin.Slice.sliceAdjust
 simp only [h1,if_false]
 refine Prod.ext ?_ ?_
 ·cases lo with
  | none=>rfl
  | some v=>exact a7v v n 0
 ·cases hi with
  | none=>rfl
  | some v=>exact a7v v n n
theorem a6y (i j:Nat):Builtin.Slice.slicePlaces (i:Int) (j:Int) 1=j - i:=by
 unfold Builtin.Slice.slicePlaces
 have h1:(1:Int) > 0:=by omega
 simp only [h1,if_true,Int.ediv_one]
 split <;> omega
theorem a1J {v:Value} {o:Option Int} {Q:Option Int→Shared→Prop} (p:IsPart v o) (h:Q o s):wpAny (model prog w) A (Builtin.Slice.slicePartIndex v) Q E s:=by
 cases p with
 | none=>exact slicePart_none h
 | int i t=>exact slicePart_int h
theorem a1U {sl:Addr} {vl vu:Value} {lo hi:Option Int} {n:Nat} {Q:Int × Int × Nat→Shared→Prop} (hs:s.heap.IsSliceOf sl vl vu .none) (pl:IsPart vl lo) (pu:IsPart vu hi)
  (h:Q (((sIx n 0 lo:Nat):Int),1,sIx n n hi - sIx n 0 lo) s):wpAny (model prog w) A (Builtin.Slice.sliceApplied (.ref sl) (pure (n:Int))) Q E s:=by
 obtain ⟨os,hos,hcs,hds⟩:=id hs
 unfold Builtin.Slice.sliceApplied Builtin.Slice.sliceFields
 refine wpAny_bind (wpAny_bind (wpAny_field hos hds (x:=vl) rfl (wpAny_bind (wpAny_field hos hds (x:=vu) rfl (wpAny_bind (wpAny_field hos hds (x:=.none) rfl (wpAny_pure ?_)))))))
 refine wpAny_bind (slicePart_none ?_)
 show wpAny _ _ (if ((1:Int) == 0)=true then _ else _) _ _ s
 rw [if_neg (by decide)]
 refine wpAny_bind (a1J pl (wpAny_bind (a1J pu (wpAny_bind (wpAny_pure ?_)))))
 show wpAny _ _ (match Builtin.Slice.sliceAdjust lo hi 1 (n:Int) with | (lo,hi)=>pure (lo,(1:Int),Builtin.Slice.slicePlaces lo hi 1)) _ _ s
 rw [a6x lo hi n]
 show wpAny _ _ (pure (((sIx n 0 lo:Nat):Int),(1:Int),Builtin.Slice.slicePlaces ((sIx n 0 lo:Nat):Int) ((sIx n n hi:Nat):Int) 1)) _ _ s
 rw [a6y]
 exact wpAny_pure h
theorem a9b (xs:Array Value) (i k:Nat):((List.range k).filterMap fun (m:Nat)=>xs[((i:Int)+(m:Int) * 1).toNat]?).toArray=((xs.toList.drop i).take k).toArray:=by
 have e:(fun (m:Nat)=>xs[((i:Int)+(m:Int) * 1).toNat]?)=fun m=>xs[i+m]?:=by
  funext m
  have:((i:Int)+(m:Int) * 1).toNat=i+m:=by omega
  rw [this]
 rw [e]
 have:=pick_run xs i k
 rw [List.filterMap_map] at this
 have e2:((fun x=>xs[x]?) ∘ fun x=>i+x)=fun m=>xs[i+m]?:=rfl
 rw [e2] at this
 rw [this]
theorem a2F {t sl:Addr} {items:Array Value} {vl vu:Value} {lo hi:Option Int} {Q:Value→Shared→Prop} (ht:IsTup s.heap t items) (hs:s.heap.IsSliceOf sl vl vu .none) (pl:IsPart vl lo) (pu:IsPart vu hi)
  (hw:¬ (sIx items.size 0 lo=0∧sIx items.size items.size hi=items.size))
  (h:Q (.ref s.heap.objs.size) { s with heap:=s.heap.push { cls:=.type "tuple",data:=.seq ((items.toList.drop (sIx items.size 0 lo)).take (sIx items.size items.size hi - sIx items.size 0 lo)).toArray } })
  (hsz:items.size≤sizeLine):wpAny (model prog w) A (getItem (.ref t) (.ref sl)) Q E s:=by
 have htake:sizeOk (.seq ((items.toList.drop (sIx items.size 0 lo)).take (sIx items.size items.size hi - sIx items.size 0 lo)).toArray):=by
  show ((items.toList.drop (sIx items.size 0 lo)).take (sIx items.size items.size hi - sIx items.size 0 lo)).toArray.size≤sizeLine
  rw [List.size_toArray,List.length_take,List.length_drop,Array.length_toList]
  omega
 have hj:sIx items.size items.size hi≤items.size:=sIx_le _ _ (Nat.le_refl _) hi
 obtain ⟨os,hos,hcs,hds⟩:=id hs
 have hTs:s.TypeIs (.ref sl) "slice":=⟨os,hos,hcs⟩
 unfold getItem
 try with_reducible refine wpAny_holding ?_
 first | refine wpAny_bind (wpAny_pure ?_) | skip
 refine wpAny_bind (wpAny_sequenceKey ht.typeIs (by decide) ?_)
 refine wpAny_bind (wpAny_callSpecial?_slot (name:=Str.ofString "__getitem__") ht.typeIs PyProof.Rows.slot_tuple_getitem
  (wpAny_call_entry PyProof.Rows.slot_tuple_getitem ht.typeIs entry_tuple_getitem ?_ (args_tuple_getitem _ _)))
 show wpAny _ _ (Builtin.Tuple.tupleItemsOf (.ref t) >>= _) _ _ s
 refine wpAny_bind (tupleItemsOf_ ht ?_)
 refine wpAny_bind (wpAny_typeOf hTs ?_)
 rw [if_pos (by decide)]
 refine wpAny_bind (a1U hs pl pu ?_)
 have hno:¬ ((((sIx items.size 0 lo:Nat):Int) == 0 && (1:Int) == 1 && (sIx items.size items.size hi - sIx items.size 0 lo) == items.size)=true):=by
  intro q
  rw [Bool.and_eq_true,Bool.and_eq_true] at q
  have q1:((sIx items.size 0 lo:Nat):Int)=0:=eq_of_beq q.1.1
  have q2:sIx items.size items.size hi - sIx items.size 0 lo=items.size:=eq_of_beq q.2
  exact hw ⟨by omega,by omega⟩
 show wpAny _ _ (if (((sIx items.size 0 lo:Nat):Int) == 0 && (1:Int) == 1 && (sIx items.size items.size hi - sIx items.size 0 lo) == items.size)=true then _ else _) _ _ s
 rw [if_neg hno,a9b]
 first
  | exact wpAny_bind (m:=Builtin.Tuple.tupleExact _) (wpAny_newObj_type (wpAny_pure ⟨_,rfl,wpAny_pure h⟩) htake)
  | exact wpAny_bind (m:=Builtin.Tuple.tupleExact _) (wpAny_newObj_type (wpAny_bind (wpAny_pure (wpAny_pure ⟨_,rfl,wpAny_pure h⟩))) htake)
  | exact wpAny_bind (wpAny_bind (m:=Builtin.Tuple.tupleExact _) (wpAny_newObj_type (wpAny_pure (wpAny_pure ⟨_,rfl,wpAny_pure h⟩)) htake))
  | exact wpAny_bind (wpAny_bind (m:=Builtin.Tuple.tupleExact _) (wpAny_newObj_type (wpAny_pure ⟨_,rfl,wpAny_pure h⟩) htake))
end
end HT
namespace L2
open PySem PySem.Spec PyProof.Rows
abbrev TO:=St→Hp→(Option Int→Hp→Prop)→Prop
def PO (X:Cx) (e:Option Expr) (t:TO):Prop :=
 ∀ (pins:List (Addr × Obj)) (s:Shared) (σ:St) (H:Hp) (Q:Option Int→Hp→Prop),Inv X pins σ H s→t σ H Q →
  wpAny (model X.prog X.w) X.A (evalPart e X.env) (fun u s'=>∃ o H',Inv X pins σ H' s'∧IsPart u o∧Q o H') X.xe s
def b0K:TO:=fun _ H Q=>Q none H
def tPart (t:TE):TO:=fun σ H Q=>t σ H fun x H1=>∃ i,x=.int i∧Q (some i) H1
section
variable {X:Cx} {e:Expr} {te:TE} {lo hi:Option Expr} {tl th:TO} {pos p2:Pos}
theorem a1H:PO X none b0K:=by
 intro pins s σ H Q I h
 rw [evalPart_none]
 exact wpAny_pure ⟨none,H,I,.none,h⟩
theorem a1q (h:PE X e te):PO X (some e) (tPart te):=by
 intro pins s σ H Q I hw
 rw [evalPart_some]
 refine thn (h pins s σ H _ I hw) fun u s1 ⟨x,H1,I1,r1,q1⟩=>?_
 obtain ⟨i,rfl,q⟩:=q1
 obtain ⟨t,rfl⟩:=r1
 exact ⟨some i,H1,I1,.int i t,q⟩
def SlR (X:Cx) (r:V→Option Int→Option Int→Hp→VK→Prop):Prop :=
 ∀ (pins:List (Addr × Obj)) (s:Shared) (σ:St) (H:Hp) (x:V) (v vl vu:Value) (lo hi:Option Int) (sl:Addr) (Q:VK),Inv X pins σ H s→a0U x v→s.heap.IsSliceOf sl vl vu .none→IsPart vl lo→IsPart vu hi→r x lo hi H Q →
  ∃ T id,typeLookup (.type T) "__getitem__"=pure (some (.builtin id))∧s.TypeIs v T∧wpAny (model X.prog X.w) X.A (getItem v (.ref sl)) (EP X pins σ Q) X.xe s
def tSl (r:V→Option Int→Option Int→Hp→VK→Prop) (te:TE) (tl th:TO):TE:=fun σ H Q=>te σ H fun x H1=>tl σ H1 fun l H2=>th σ H2 fun u H3=>r x l u H3 Q
theorem a1d {r:V→Option Int→Option Int→Hp→VK→Prop} (hr:SlR X r) (he:PE X e te) (hl:PO X lo tl) (hu:PO X hi th):PE X (.Subscript e (.Slice lo hi none p2) pos) (tSl r te tl th):=by
 intro pins s σ H Q I h
 refine Subscript_ (thn (he pins s σ H _ I h) fun v s1 ⟨x,H1,I1,r1,q1⟩=>?_)
 refine wpAny_Slice (thn (hl pins s1 σ H1 _ I1 q1) fun vl s2 ⟨l,H2,I2,pl,q2⟩=>thn (hu pins s2 σ H2 _ I2 q2) fun vu s3 ⟨u,H3,I3,pu,q3⟩=>?_)
 rw [evalPart_none]
 refine wpAny_pure ?_
 have I4:Inv X pins σ H3 { s3 with heap:=s3.heap.push { cls:=.type "slice",data:=.fields #[vl,vu,.none] } }:=I3.kept (t':=s3.toks) fun b ob q=>Heap.get?_push_of_some _ q
 obtain ⟨T,id,hT,ht,hg⟩:=hr pins { s3 with heap:=s3.heap.push { cls:=.type "slice",data:=.fields #[vl,vu,.none] } } σ H3 x v vl vu l u s3.heap.objs.size Q I4 r1 (Heap.IsSliceOf.new ..) pl pu q3
 show wpAny (model X.prog X.w) X.A (subscriptTail e (.Slice lo hi none p2) v (.ref s3.heap.objs.size)) (EP X pins σ Q) X.xe { s3 with heap:=s3.heap.push { cls:=.type "slice",data:=.fields #[vl,vu,.none] } }
 exact tail_any (ops:=[.ref s3.heap.objs.size,v]) ht hT hg (by with_unfolding_all rfl)
def a2G (xs:List V) (lo hi:Option Int):List V:=(xs.drop (HT.sIx xs.length 0 lo)).take (HT.sIx xs.length xs.length hi - HT.sIx xs.length 0 lo)
theorem a3n (xs:List V) (lo hi:Option Int):(a2G xs lo hi).length≤xs.length:=by
 unfold a2G
 rw [List.length_take,List.length_drop]
 omega
def rSlT (K:PySem.W.Frag):V→Option Int→Option Int→Hp→VK→Prop:=fun x lo hi H Q=>∃ a xs,x=.ref a∧SqT K H a xs ∧
 ¬ (HT.sIx xs.length 0 lo=0∧HT.sIx xs.length xs.length hi=xs.length)∧∀ p,H p=none→Q (.ref p) (upd H p (.tup (a2G xs lo hi)))
theorem a7w:SlR X (rSlT X.K):=by
 intro pins s σ H x v vl vu lo hi sl Q I rx hs pl pu h
 obtain ⟨a,xs,rfl,hx,hw,q⟩:=h
 cases rx
 obtain ⟨its,r,ht,hz⟩:=I.tuple hx
 have hlen:its.toArray.size=xs.length:=by rw [List.size_toArray];exact r.length.symm
 refine ⟨"tuple",_,PyProof.Rows.slot_tuple_getitem.lookup,ht.typeIs,?_⟩
 refine HT.a2F ht hs pl pu (by rw [hlen];exact hw) ?_ (by rw [hlen];exact hz)
 rw [hlen]
 refine ⟨.ref s.heap.objs.size,_,I.laid (t':=s.toks) (o:=.tup (a2G xs lo hi)) (fun b ob q=>Heap.get?_push_of_some _ q) (Nat.le_refl _) ?_,rfl,q _ (I.hok.fresh (Nat.le_refl _))⟩
 exact ⟨Nat.le_trans (a3n xs lo hi) hz,_,(r.drop (HT.sIx xs.length 0 lo)).take (HT.sIx xs.length xs.length hi - HT.sIx xs.length 0 lo),a3X.new _ _⟩
def rCatT (K:PySem.W.Frag):R2:=fun x y H Q=>∃ a b xs ys,x=.ref a∧y=.ref b∧SqT K H a xs∧SqT K H b ys∧xs≠[]∧xs.length+ys.length≤sizeLine ∧
 (ys=[]→Q (.ref a) H)∧(ys≠[]→∀ p,H p=none→Q (.ref p) (upd H p (.tup (xs++ys))))
theorem a0A.nil_iff {xs:List V} {us:List Value} (r:a0A xs us):us=[]↔xs=[]:=by
 cases r with
 | nil=>simp
 | cons _ _=>simp
theorem a7x:OpR X (binaryOp .Add) (rCatT X.K):=by
 intro pins s σ H x y v u Q I rx ry h
 obtain ⟨a,b,xs,ys,rfl,rfl,ha,hb,hx,hz,q1,q2⟩:=h
 cases rx
 cases ry
 obtain ⟨its,r1,p1,_⟩:=I.tuple ha
 obtain ⟨its2,r2,p2,_⟩:=I.tuple hb
 refine HT.b0J p1 p2 (fun z=>hx (r1.nil_iff.mp z)) (fun z=>⟨.ref a,H,I,rfl,q1 (r2.nil_iff.mp z)⟩) (fun z=>?_) (by rw [←r1.length,←r2.length];exact hz)
 refine ⟨.ref s.heap.objs.size,_,I.laid (t':=s.toks) (o:=.tup (xs++ys)) (fun b ob q=>Heap.get?_push_of_some _ q) (Nat.le_refl _) ?_,rfl,q2 (fun w=>z (r2.nil_iff.mpr w)) _ (I.hok.fresh (Nat.le_refl _))⟩
 exact ⟨by rw [List.length_append];exact hz,_,r1.append r2,a3X.new _ _⟩
end
def ixN (n:Nat) (i:Int):Option Nat:=if 0≤i then (if i < n then some i.toNat else none) else if -(n:Int)≤i then some (i+n).toNat else none
def atI {α:Type} (xs:List α) (i:Int):Option α:=(ixN xs.length i).bind fun j=>xs[j]?
theorem a5m {n:Nat} {i:Int} {j:Nat} (h:ixN n i=some j):seqIndex? i n=some j∧j < n∧-(n:Int)≤i∧i < n:=by
 unfold ixN at h
 by_cases h0:0≤i
 ·rw [if_pos h0] at h
  by_cases h1:i < n
  ·rw [if_pos h1] at h
   have e:i.toNat=j:=Option.some.inj h
   exact ⟨by rw [seqIndex_of h0 h1,e],by omega,by omega,h1⟩
  ·rw [if_neg h1] at h;cases h
 ·rw [if_neg h0] at h
  by_cases h1:-(n:Int)≤i
  ·rw [if_pos h1] at h
   have e:(i+n).toNat=j:=Option.some.inj h
   exact ⟨by rw [seqIndex_neg (by omega) h1,e],by omega,h1,by omega⟩
  ·rw [if_neg h1] at h;cases h
theorem a7y {α:Type} {xs:List α} {i:Int} {v:α} (h:atI xs i=some v):∃ j,seqIndex? i xs.length=some j∧xs[j]?=some v∧j < xs.length∧-(xs.length:Int)≤i∧i < xs.length:=by
 unfold atI at h
 cases e:ixN xs.length i with
 | none=>rw [e] at h;cases h
 | some j =>
  rw [e] at h
  obtain ⟨h1,h2,h3,h4⟩:=a5m e
  exact ⟨j,h1,h,h2,h3,h4⟩
theorem a2H {α:Type} {xs:List α} {j:Nat} {v:α} (h:xs[j]?=some v):atI xs (j:Int)=some v:=by
 have hj:j < xs.length:=(List.getElem?_eq_some_iff.mp h).1
 have e:ixN xs.length (j:Int)=some j:=by
  unfold ixN
  rw [if_pos (by omega),if_pos (by omega)];simp
 unfold atI;rw [e];exact h
theorem a9c {α:Type} (xs:List α) (v:α):atI (xs++[v]) (-1)=some v:=by
 have hl:(xs++[v]).length=xs.length+1:=by simp
 have e:ixN (xs++[v]).length (-1)=some xs.length:=by
  unfold ixN
  rw [hl,if_neg (by decide),if_pos (by omega)]
  congr 1
  omega
 unfold atI
 rw [e]
 show (xs++[v])[xs.length]?=some v
 simp
def b0L (b:Expr):Prop:=∀ o i,subscripted b false o i=operate [o,i] (getItem o i)
def IxR (X:Cx) (r:R2):Prop :=
 ∀ (value slice:Expr) (pins:List (Addr × Obj)) (s:Shared) (σ:St) (H:Hp) (x y:V) (v u:Value) (Q:VK),Inv X pins σ H s→a0U x v→a0U y u→r x y H Q →
  subscripted slice false v u=operate [v,u] (getItem v u)→wpAny (model X.prog X.w) X.A (subscriptTail value slice v u) (EP X pins σ Q) X.xe s
def MtR (X:Cx) (id:String) (r:V→List V→Hp→VK→Prop):Prop :=
 ∀ (pins:List (Addr × Obj)) (s:Shared) (σ:St) (H:Hp) (x:V) (xs:List V) (v:Value) (us:List Value) (Q:VK),Inv X pins σ H s→a0U x v→a0A xs us→r x xs H Q →
  wpAny (model X.prog X.w) X.A (call (.builtin id) (v :: us)) (EP X pins σ Q) X.xe s
section
variable {X:Cx} {a b:Expr} {ta tb:TE} {pos:Pos}
theorem a0D {r:R2} (hr:IxR X r) (ha:PE X a ta) (hb:PE X b tb) (hs:b0L b):PE X (.Subscript a b pos) (tOp r ta tb):=by
 intro pins s σ H Q I h
 exact Subscript_ (binT ha hb I h fun v u s2 x y H2 I2 rx ry q=>hr a b pins s2 σ H2 x y v u Q I2 rx ry q (hs _ _))
def rIxL (K:PySem.W.Frag):R2:=fun x y H Q=>∃ p xs i v,x=.ref p∧y=.int i∧SqL K H p xs∧atI xs i=some v∧Q v H
def rIxT (K:PySem.W.Frag):R2:=fun x y H Q=>∃ p xs i v,x=.ref p∧y=.int i∧SqT K H p xs∧atI xs i=some v∧Q v H
def rIxS:R2:=fun x y H Q=>∃ z i c,x=.str z∧y=.int i∧z.length≤sizeLine∧atI z.cps.toList i=some c∧Q (.str ⟨#[c]⟩) H
theorem a1a:IxR X (rIxL X.K):=by
 intro value slice pins s σ H x y v u Q I rx ry h hs
 obtain ⟨p,xs,i,z,rfl,rfl,hq,he,q⟩:=h
 cases rx
 obtain ⟨t,rfl⟩:=ry
 obtain ⟨its,r,pl,hz⟩:=I.list hq
 obtain ⟨j,h1,h2,h3,h4,h5⟩:=a7y he
 obtain ⟨w,ew,rw'⟩:=r.get h2
 have hl:=r.length
 have hn:=a5N
 have fin:EP X pins σ Q w s:=⟨z,H,I,rw',q⟩
 by_cases h0:0≤i
 ·have hj:i.toNat=j:=by
   rw [seqIndex_of h0 h5] at h1
   exact Option.some.inj h1
  exact item_listR pl.isList h0 (by omega) (by rw [hj];simpa using ew) fin hs
 ·have hj:(i+(its.toArray.size:Int)).toNat=j:=by
   rw [seqIndex_neg (by omega) h4] at h1
   rw [List.size_toArray,←hl]
   exact Option.some.inj h1
  exact subscriptTail_builtinR (x:=w) pl.isList.typeIs slot_list_getitem.lookup
   (wpAny_getItem_list_neg (Q:=fun r s'=>r=w∧EP X pins σ Q r s') pl.isList (by omega) (by rw [List.size_toArray] <;> omega) (by omega) (by rw [hj];simpa using ew) ⟨rfl,fin⟩) hs
theorem a1l:IxR X (rIxT X.K):=by
 intro value slice pins s σ H x y v u Q I rx ry h hs
 obtain ⟨p,xs,i,z,rfl,rfl,hq,he,q⟩:=h
 cases rx
 obtain ⟨t,rfl⟩:=ry
 obtain ⟨its,r,pl,hz⟩:=I.tuple hq
 obtain ⟨j,h1,h2,h3,h4,h5⟩:=a7y he
 obtain ⟨w,ew,rw'⟩:=r.get h2
 have hl:=r.length
 have hn:=a5N
 have fin:EP X pins σ Q w s:=⟨z,H,I,rw',q⟩
 exact subscriptTail_builtinR (x:=w) pl.typeIs slot_tuple_getitem.lookup
  (getItem_tuple (j:=j) (Q:=fun r s'=>r=w∧EP X pins σ Q r s') pl (by omega) (by omega) (by rw [List.size_toArray,←hl];exact h1) (by simpa using ew) ⟨rfl,fin⟩) hs
def rIx (K:PySem.W.Frag):R2:=fun x y H Q=>rIxL K x y H Q∨rIxT K x y H Q∨rIxS x y H Q
theorem a6z (its:List Value) (n j:Nat) (u:Value):Obj.mapSeq (·.setIfInBounds j u) { cls:=.type "list",data:=.seq its.toArray n }={ cls:=.type "list",data:=.seq (its.set j u).toArray n }:=by
 simp [Obj.mapSeq]
theorem Inv.lst {pins:List (Addr × Obj)} {σ:St} {H:Hp} {s:Shared} {p:Addr} {xs:List V} (I:Inv X pins σ H s) (h:H p=some (.lst xs)) :
  ∃ (its:List Value) (n:Nat),a0A xs its∧s.heap.get? p=some { cls:=.type "list",data:=.seq its.toArray n }∧xs.length≤sizeLine:=by
 obtain ⟨z,its,n,r,e⟩:=I.hok p _ h
 exact ⟨its,n,r,e,z⟩
theorem Inv.lstUpd {pins:List (Addr × Obj)} {σ:St} {H:Hp} {s:Shared} {p:Addr} {xs ys:List V} {its its':List Value} {n n':Nat} {f:Obj→Obj} (I:Inv X pins σ H s) (h:H p=some (.lst xs))
  (ho:s.heap.get? p=some { cls:=.type "list",data:=.seq its.toArray n }) (hf:f { cls:=.type "list",data:=.seq its.toArray n }={ cls:=.type "list",data:=.seq its'.toArray n' }) (r:a0A ys its') (hz:ys.length≤sizeLine) (t:Nat) :
  Inv X pins σ (upd H p (.lst ys)) { s with heap:=s.heap.update p f,toks:=t }:=by
 have e:(s.heap.update p f).get? p=some { cls:=.type "list",data:=.seq its'.toArray n' }:=by
  rw [Heap.get?_update_self f ho (by rw [hf] <;> rfl),hf]
 refine I.write (x:=p) (e:=p) (by rw [h];trivial) (.inl rfl) (fun b u hb q=>(Heap.get?_update_other _ _ (Ne.symm hb)).trans q) ⟨_,e⟩ ?_
 exact ⟨hz,its',n',r,e⟩
def rSetL:V→V→V→Hp→(Hp→Prop)→Prop:=fun o i v H Q=>∃ p xs k j,o=.ref p∧i=.int k∧H p=some (.lst xs)∧ixN xs.length k=some j∧Q (upd H p (.lst (xs.set j v)))
theorem a2Z:PSet X rSetL:=by
 intro pins s σ H o i v ov iv u Q I ro ri rv h
 obtain ⟨p,xs,k,j,rfl,rfl,hp,hj,q⟩:=h
 cases ro
 obtain ⟨t,rfl⟩:=ri
 obtain ⟨its,n,r,ho,hz⟩:=I.lst hp
 obtain ⟨h1,h2,h3,h4⟩:=a5m hj
 have hl:=r.length
 have hn:=a5N
 have I':Inv X pins σ (upd H p (.lst (xs.set j v))) { s with heap:=s.heap.update p (Obj.mapSeq (·.setIfInBounds j u)) } :=
  I.lstUpd hp ho (a6z its n j u) (r.set rv j) (by rw [List.length_set];exact hz) s.toks
 by_cases h0:0≤k
 ·have hk:k.toNat=j:=by
   rw [seqIndex_of h0 h4] at h1
   exact Option.some.inj h1
  exact PySem.W.ki_setAt ho h0 (by omega) (by rw [List.size_toArray,←hl];exact h4) (by rw [hk];exact ⟨_,I',q⟩)
 ·have hk:(k+(its.toArray.size:Int)).toNat=j:=by
   rw [seqIndex_neg (by omega) h3] at h1
   rw [List.size_toArray,←hl]
   exact Option.some.inj h1
  exact PySem.W.ki_setBack ho (by omega) (by rw [List.size_toArray,←hl];exact h3) (by omega) (by rw [hk];exact ⟨_,I',q⟩)
theorem a4L (lo hi:Option Int) (n:Nat):(sliceBounds lo hi none n).1=((HT.sIx n 0 lo:Nat):Int)∧(sliceBounds lo hi none n).2.1=((HT.sIx n n hi:Nat):Int)∧(sliceBounds lo hi none n).2.2=1:=by
 refine ⟨?_,?_,rfl⟩
 ·cases lo with
  | none=>simp [sliceBounds,HT.sIx]
  | some i =>
   simp only [sliceBounds,HT.sIx,Option.getD_none,show (1:Int) > 0 by decide,if_true]
   by_cases h:i < 0
   ·simp only [h,if_true] <;> omega
   ·simp only [h,if_false] <;> omega
 ·cases hi with
  | none=>simp [sliceBounds,HT.sIx]
  | some i =>
   simp only [sliceBounds,HT.sIx,Option.getD_none,show (1:Int) > 0 by decide,if_true]
   by_cases h:i < 0
   ·simp only [h,if_true] <;> omega
   ·simp only [h,if_false] <;> omega
theorem a4a (its:List Value) (lo hi:Option Int):slicePick its.toArray lo hi none=((its.drop (HT.sIx its.length 0 lo)).take (HT.sIx its.length its.length hi - HT.sIx its.length 0 lo)).toArray:=by
 obtain ⟨h1,h2,h3⟩:=a4L lo hi its.toArray.size
 unfold slicePick
 rw [h1,h2,h3]
 simp only [sliceRange_one,pick_run,List.size_toArray] <;> rfl
def rSlL (K:PySem.W.Frag):V→Option Int→Option Int→Hp→VK→Prop:=fun x lo hi H Q=>∃ a xs,x=.ref a∧SqL K H a xs∧∀ p,H p=none→Q (.ref p) (upd H p (.lst (a2G xs lo hi)))
theorem a3o:SlR X (rSlL X.K):=by
 intro pins s σ H x v vl vu lo hi sl Q I rx hs pl pu h
 obtain ⟨a,xs,rfl,hx,q⟩:=h
 cases rx
 obtain ⟨its,r,ht,hz⟩:=I.list hx
 have hlen:=r.length
 refine ⟨"list",_,slot_list_getitem.lookup,ht.isList.typeIs,?_⟩
 refine wpAny_getItem_list_slice ht.isList hs pl pu .none (by simp) ?_ (by rw [List.size_toArray] <;> omega)
 rw [a4a,←hlen]
 refine ⟨.ref s.heap.objs.size,_,I.laid (t':=s.toks) (o:=.lst (a2G xs lo hi)) (fun b ob q=>Heap.get?_push_of_some _ q) (Nat.le_refl _) ?_,rfl,q _ (I.hok.fresh (Nat.le_refl _))⟩
 exact ⟨Nat.le_trans (a3n xs lo hi) hz,_,0,(r.drop (HT.sIx xs.length 0 lo)).take (HT.sIx xs.length xs.length hi - HT.sIx xs.length 0 lo),Heap.get?_push_size _ rfl⟩
def flatV:V→Bool
 | .non=>true
 | .bl _=>true
 | .int _=>true
 | .str _=>true
 | _=>false
def eqV:V→V→Bool
 | .non,.non=>true
 | .bl a,.bl b=>a == b
 | .bl a,.int b=>(if a then 1 else 0) == b
 | .int a,.bl b=>a == (if b then 1 else 0)
 | .int a,.int b=>a == b
 | .str a,.str b=>a == b
 | _,_=>false
def eqU (x:V) (u:Value):Bool:=match u with
 | .none=>eqV .non x
 | .bool b=>eqV (.bl b) x
 | .int i _=>eqV (.int i) x
 | .str z _=>eqV (.str z) x
 | _=>false
def inV (x:V) (xs:List V):Bool:=xs.any fun y=>eqV y x
def rIn (K:PySem.W.Frag) (neg:Bool):R2:=fun x y H Q=>∃ p xs,y=.ref p∧(SqL K H p xs∨SqT K H p xs)∧flatV x=true∧xs.all flatV=true∧Q (.bl (if neg then !inV x xs else inV x xs)) H
theorem a0h:a2g X (.builtin "len") (fun xs H Q=>∃ p ys,xs=[.ref p]∧(SqL X.K H p ys∨SqT X.K H p ys)∧Q (.int ys.length) H):=by
 intro pins s σ H xs us Q I r h
 obtain ⟨p,ys,rfl,hq,q⟩:=h
 obtain ⟨u,rfl,rx⟩:=a3m r
 cases rx
 have hn:=a5N
 rcases hq with hq | hq
 ·obtain ⟨its,r',pl,hz⟩:=I.list hq
  have hlen:=r'.length
  exact Calls.call_len_list pl.isList (by simp only [List.size_toArray] <;> omega) ⟨.int ys.length,H,I.tok _,⟨s.toks+1,by rw [List.size_toArray,hlen]⟩,q⟩
 ·obtain ⟨its,r',pl,hz⟩:=I.tuple hq
  have hlen:=r'.length
  exact len_tuple pl (by simp only [List.size_toArray] <;> omega) ⟨.int ys.length,H,I.tok _,⟨s.toks+1,by rw [List.size_toArray,hlen]⟩,q⟩
theorem a1m:a2g X (.type "list") (fun xs H Q=>∃ p ys,xs=[.ref p]∧(SqL X.K H p ys∨SqT X.K H p ys)∧∀ l,H l=none→Q (.ref l) (upd H l (.lst ys))):=by
 intro pins s σ H xs us Q I r h
 obtain ⟨p,ys,rfl,hq,q⟩:=h
 obtain ⟨u,rfl,rx⟩:=a3m r
 cases rx
 have fin:∀ (its:List Value),a0A ys its→ys.length≤sizeLine→∀ (h':Heap) (c':Nat),(∀ b o',s.heap.get? b=some o'→h'.get? b=some o') →
   h'.get? s.heap.objs.size=some { cls:=.type "list",dict:=none,data:=.seq its.toArray c',slots:=#[] }→EP X pins σ Q (.ref s.heap.objs.size) { s with heap:=h' }:=fun its r' hz h' c' kp e =>
  ⟨.ref s.heap.objs.size,_,I.laid (t':=s.toks) kp (Nat.le_refl _) (show a0w X.prog X.w _ h' _ (.lst ys) from ⟨hz,its,c',r',e⟩),rfl,q _ (I.hok.fresh (Nat.le_refl _))⟩
 rcases hq with hq | hq
 ·obtain ⟨its,r',pl,hz⟩:=I.list hq
  have hlen:=r'.length
  obtain ⟨o,ho,hc,n,hd⟩:=pl.isList
  exact call_list_seq p (.inl rfl) ho hc hd (fun h' c' kp e=>fin its r' hz h' c' kp e) (by simp only [List.size_toArray] <;> omega)
 ·obtain ⟨its,r',pl,hz⟩:=I.tuple hq
  have hlen:=r'.length
  obtain ⟨o,ho,hc,n,hd⟩:=pl
  exact call_list_seq p (.inr rfl) ho hc hd (fun h' c' kp e=>fin its r' hz h' c' kp e) (by simp only [List.size_toArray] <;> omega)
theorem a0T:a2g X (.type "tuple") (fun xs H Q=>∃ p ys,xs=[.ref p]∧((SqL X.K H p ys∧∀ l,H l=none→Q (.ref l) (upd H l (.tup ys)))∨(SqT X.K H p ys∧Q (.ref p) H))):=by
 intro pins s σ H xs us Q I r h
 obtain ⟨p,ys,rfl,h⟩:=h
 obtain ⟨u,rfl,rx⟩:=a3m r
 cases rx
 rcases h with ⟨hq,q⟩ | ⟨hq,q⟩
 ·obtain ⟨its,r',pl,hz⟩:=I.list hq
  have hlen:=r'.length
  refine call_tuple_list pl.isList (fun h' kp=>?_) (by simp only [List.size_toArray] <;> omega)
  have I1:Inv X pins σ H { s with heap:=h' }:=I.kept (t':=s.toks) kp
  have I2:Inv X pins σ (upd H h'.objs.size (.tup ys)) { s with heap:=h'.push { cls:=.type "tuple",data:=.seq its.toArray } } :=
   I1.laid (t':=s.toks) (fun b o e=>Heap.get?_push_of_some _ e) (Nat.le_refl _) (show a0w X.prog X.w _ _ _ (.tup ys) from ⟨hz,its,r',a3X.new _ _⟩)
  exact ⟨.ref h'.objs.size,_,I2,rfl,q _ (I1.hok.fresh (Nat.le_refl _))⟩
 ·obtain ⟨its,r',pl,hz⟩:=I.tuple hq
  exact call_tuple_same pl ⟨.ref p,H,I,rfl,q⟩
def tyV (K:PySem.W.Frag) (T:String) (x:V) (H:Hp):Prop:=match x with
 | .str _=>T="str"
 | .int _=>T="int"
 | .ref p=>(T="list"∧∃ xs,SqL K H p xs)∨(T="tuple"∧∃ o,K.lookup p=some o∧o.cls=.type "tuple"∧o.dict=none) ∨
   (T="dict"∧((∃ kvs,H p=some (.dK kvs))∨∃ kvs,H p=some (.dT kvs)))∨(T="set"∧∃ S n,H p=some (.set S n))
 | _=>False
theorem a9W {pins:List (Addr × Obj)} {σ:St} {H:Hp} {s:Shared} {T:String} {x:V} {v:Value} (I:Inv X pins σ H s) (r:a0U x v) (ty:tyV X.K T x H) :
  s.TypeIs v T∧∀ a,v=.ref a→∃ ob,s.heap.get? a=some ob∧ob.dict=none:=by
 cases x with
 | str z =>
  obtain ⟨t,rfl⟩:=r
  cases (show T="str" from ty)
  exact ⟨typeIs_str s z t,fun _ e=>nomatch e⟩
 | int i =>
  obtain ⟨t,rfl⟩:=r
  cases (show T="int" from ty)
  exact ⟨typeIs_int s i t,fun _ e=>nomatch e⟩
 | ref p =>
  cases r
  rcases ty with ⟨rfl,xs,hq⟩ | ⟨rfl,o,hk,hc,hd⟩ | ⟨rfl,hk⟩ | ⟨rfl,S,n,hk⟩
  ·obtain ⟨its,_,pl,_⟩:=I.list hq
   refine ⟨pl.isList.typeIs,fun a e=>?_⟩
   cases e
   obtain ⟨o,n,e,c,hd,_⟩:=pl
   exact ⟨o,e,hd⟩
  ·refine ⟨⟨o,I.kIn p o hk,hc⟩,fun a e=>?_⟩
   cases e
   exact ⟨o,I.kIn _ o hk,hd⟩
  ·have z:∃ o,s.heap.get? p=some o∧o.ExactDict:=by
    rcases hk with ⟨kvs,hk⟩ | ⟨kvs,hk⟩
    ·obtain ⟨_,_,_,_,o,_,_,e,ex,_⟩:=I.hok p _ hk
     exact ⟨o,e,ex⟩
    ·obtain ⟨_,_,_,_,o,_,_,e,ex,_⟩:=I.hok p _ hk
     exact ⟨o,e,ex⟩
   obtain ⟨o,e,ex⟩:=z
   refine ⟨⟨o,e,ex.1⟩,fun a e2=>?_⟩
   cases e2
   exact ⟨o,e,ex.2.1⟩
  ·obtain ⟨o,_,_,_,e,ex,_⟩:=I.hok p _ hk
   refine ⟨⟨o,e,ex.1⟩,fun a e2=>?_⟩
   cases e2
   exact ⟨o,e,ex.2.1⟩
 | _=>exact False.elim ty
def tBM0 (K:PySem.W.Frag) (T:String) (r:V→List V→Hp→VK→Prop) (to:TE):TE:=fun σ H Q=>to σ H fun x H1=>tyV K T x H1∧r x [] H1 Q
def tBM (K:PySem.W.Frag) (T:String) (r:V→List V→Hp→VK→Prop) (to:TE) (t:TA):TE:=fun σ H Q=>to σ H fun x H1=>tyV K T x H1∧t σ H1 fun xs H2=>r x xs H2 Q
variable {o e:Expr} {es:List Expr} {to:TE} {t:TA} {name:Str} {apos cpos:Pos} {T id:String} {r:V→List V→Hp→VK→Prop}
theorem pe_bm0 (pa:PlainAttrs T) (slot:Slot T name id) (hty:typeOf (.builtin id)=pure (.type "method_descriptor")) (hm:MtR X id r) (ho:PE X o to)
  (hbase:attributeBase o name X.env (eval o X.env)=eval o X.env:=by rfl) (hline:(apos.endLine == cpos.line)=true:=by rfl):PE X (.Call (.Attribute o name apos) [] [] cpos) (tBM0 X.K T r to):=by
 intro pins s σ H Q I h
 refine wpAny_Call_method0_late hbase hline (thn (ho pins s σ H _ I h) fun v s1 ⟨x,H1,I1,r1,ty,q1⟩=>?_)
 obtain ⟨h1,h2⟩:=a9W I1 r1 ty
 exact ⟨T,id,pa,slot,hty,h1,h2,Calls.callWith_builtin rfl (PySem.evalArgs_none (hm pins s1 σ H1 x [] v [] Q I1 r1 .nil q1))⟩
theorem a4b (pa:PlainAttrs T) (slot:Slot T name id) (hty:typeOf (.builtin id)=pure (.type "method_descriptor")) (hm:MtR X id r) (ho:PE X o to) (ha:PA X (e :: es) t)
  (hbase:attributeBase o name X.env (eval o X.env)=eval o X.env:=by rfl)
  (hfew:((backTo cpos (starEach (e :: es) X.env)).all (fun x=>!x.1) && (backToKw cpos (keywordEach [] X.env)).all (fun x=>x.1.isSome)
   && decide ((e :: es).length+([]:List Keyword).length+(if ([]:List Keyword).isEmpty then 0 else 1) < 30))=true:=by rfl)
  (hline:(apos.endLine == cpos.line)=true:=by rfl) (hs:starEach (e :: es) X.env=(false,eval e X.env) :: starEach es X.env:=by rfl) (hplain:(backTo cpos (starEach es X.env)).any (·.1)=false:=by rfl) :
  PE X (.Call (.Attribute o name apos) (e :: es) [] cpos) (tBM X.K T r to t):=by
 intro pins s σ H Q I h
 refine wpAny_Call_method_late hbase hfew hline rfl (thn (ho pins s σ H _ I h) fun v s1 ⟨x,H1,I1,r1,ty,q1⟩=>?_)
 obtain ⟨h1,h2⟩:=a9W I1 r1 ty
 refine ⟨T,id,pa,slot,hty,h1,h2,?_⟩
 have hA:=ha cpos pins s1 σ H1 _ I1 q1
 rw [hs] at hA ⊢
 refine Calls.callWith_builtin (by show (false || (backTo cpos (starEach es X.env)).any (·.1))=false;rw [hplain] <;> rfl) (Calls.evalArgs_plain ?_)
 exact thn hA fun us s2 ⟨vs,H2,I2,r2,q2⟩=>hm pins s2 σ H2 x vs v us Q I2 r1 r2 q2
end
def MtM (X:Cx) (id:String) (r:V→List V→Hp→VK→Prop):Prop :=
 ∀ (pins:List (Addr × Obj)) (s:Shared) (σ:St) (H:Hp) (x:V) (xs:List V) (v:Value) (us:List Value) (Q:VK),Inv X pins σ H s→a0U x v→a0A xs us→r x xs H Q →
  wpAny (model X.prog X.w) X.A (call (.builtin id) (v :: us)) (EP X pins σ Q) X.xe s
theorem a0A.one:∀ {x:V} {us:List Value},a0A [x] us→∃ u,us=[u]∧a0U x u
 | _,_,.cons r .nil=>⟨_,rfl,r⟩
theorem a0A.two:∀ {x y:V} {us:List Value},a0A [x,y] us→∃ u v,us=[u,v]∧a0U x u∧a0U y v
 | _,_,_,.cons r (.cons q .nil)=>⟨_,_,rfl,r,q⟩
theorem a0A.zero:∀ {us:List Value},a0A [] us→us=[]
 | _,.nil=>rfl
theorem a0A.dropLast {xs:List V} {us:List Value} (h:a0A xs us):a0A xs.dropLast us.dropLast:=by
 induction h with
 | nil=>exact .nil
 | cons r t ih =>
  cases t with
  | nil=>exact .nil
  | cons q t'=>exact .cons r ih
theorem a0A.eraseIdx:∀ {xs:List V} {us:List Value} (i:Nat),a0A xs us→a0A (xs.eraseIdx i) (us.eraseIdx i)
 | _,_,_,.nil=>.nil
 | _,_,0,.cons _ t=>t
 | _,_,i+1,.cons r t=>.cons r (a0A.eraseIdx i t)
theorem a0A.rep {xs:List V} {us:List Value} (h:a0A xs us):∀ k:Nat,a0A (List.replicate k xs).flatten (List.replicate k us).flatten
 | 0=>.nil
 | k+1=>by
  rw [List.replicate_succ,List.replicate_succ,List.flatten_cons,List.flatten_cons]
  exact a0A.append h (a0A.rep h k)
theorem a6A {α:Type} (l:List α):l.eraseIdx (l.length - 1)=l.dropLast:=by
 induction l with
 | nil=>rfl
 | cons a r ih =>
  cases r with
  | nil=>rfl
  | cons b r =>
   have e:(a :: b :: r).length - 1=((b :: r).length - 1)+1:=by
    have h1:(a :: b :: r).length=r.length+2:=rfl
    have h2:(b :: r).length=r.length+1:=rfl
    omega
   rw [e,List.eraseIdx_cons_succ,ih]
   all_goals rfl
theorem a4M {α:Type}:∀ (l:List α) (i:Nat),(l.eraseIdx i).length≤l.length
 | [],_=>Nat.le_refl _
 | _ :: _,0=>Nat.le_succ _
 | _ :: r,i+1=>Nat.succ_le_succ (a4M r i)
theorem a4N (its:List Value):∀ (k:Nat) (acc:List Value),
  List.foldl (fun x1 x2=>x1++x2) acc.toArray (List.replicate k its.toArray)=(acc++(List.replicate k its).flatten).toArray
 | 0,acc=>by simp
 | k+1,acc=>by
  have e:acc.toArray++its.toArray=(acc++its).toArray:=by simp
  have e2:(acc++its)++(List.replicate k its).flatten=acc++(List.replicate (k+1) its).flatten:=by
   rw [List.replicate_succ,List.flatten_cons,List.append_assoc]
  rw [←e2,←a4N its k (acc++its),←e,List.replicate_succ,List.foldl_cons]
section
variable {X:Cx} {pins:List (Addr × Obj)} {σ:St} {H:Hp} {s:Shared} {l b:Addr} {xs ys zs:List V}
theorem Inv.lset {its its':List Value} {n:Nat} {f:Array Value→Array Value} {t':Nat} (I:Inv X pins σ H s) (hH:H l=some (.lst xs))
  (e:s.heap.get? l=some { cls:=.type "list",data:=.seq its.toArray n }) (hf:f its.toArray=its'.toArray) (hv:a0A ys its') (hz:ys.length≤sizeLine) :
  Inv X pins σ (upd H l (.lst ys)) { s with heap:=s.heap.update l (Obj.mapSeq f),toks:=t' }:=by
 have q:=PySem.IsL.update e f
 rw [hf] at q
 refine I.write (x:=l) (e:=l) (by rw [hH];exact trivial) (.inl rfl) (fun b' u hb hu=>(Heap.get?_update_other s.heap (Obj.mapSeq f) (Ne.symm hb)).trans hu) ⟨_,q⟩ ?_
 exact ⟨hz,its',_,hv,q⟩
theorem Inv.lnew {its:List Value} {t':Nat} (I:Inv X pins σ H s) (hv:a0A ys its) (hz:ys.length≤sizeLine) :
  Inv X pins σ (upd H s.heap.objs.size (.lst ys)) { s with heap:=s.heap.push { cls:=.type "list",data:=.seq its.toArray },toks:=t' } :=
 I.laid (fun _ _ q=>Heap.get?_push_of_some _ q) (Nat.le_refl _) ⟨hz,its,0,hv,Heap.get?_push_size _ rfl⟩
theorem Inv.fresh (I:Inv X pins σ H s):H s.heap.objs.size=none:=I.hok.fresh (Nat.le_refl _)
theorem Inv.lstM (I:Inv X pins σ H s) (hH:H l=some (.lst xs)):xs.length≤sizeLine∧∃ (its:List Value) (n:Nat),a0A xs its∧xs.length=its.length∧s.heap.get? l=some { cls:=.type "list",data:=.seq its.toArray n }:=by
 obtain ⟨z,its,n,r,e⟩:=I.hok l _ hH
 exact ⟨z,its,n,r,r.length,e⟩
theorem a5R {n:Nat} (h:n≤sizeLine):Builtin.List.listTooLong n=false:=by
 unfold Builtin.List.listTooLong
 exact decide_eq_false (by omega)
end
section
variable {X:Cx}
def b0M:V→List V→Hp→VK→Prop:=fun x vs H Q=>∃ l xs y,x=.ref l∧vs=[y]∧H l=some (.lst xs)∧xs.length < sizeLine∧Q .non (upd H l (.lst (xs++[y])))
theorem a1A:MtM X "list.append" b0M:=by
 intro pins s σ H x vs v us Q I rx rv h
 obtain ⟨l,xs,y,rfl,rfl,hH,hz,q⟩:=h
 cases rx
 obtain ⟨u,rfl,ru⟩:=rv.one
 obtain ⟨z,its,n,r,hl,e⟩:=I.lstM hH
 refine call_meets F.slot_list_append ⟨_,e,rfl⟩ F.entry_list_append (F.args_list_append_2 _ _) (PySem.list_append l its.toArray n u (by rw [List.size_toArray];omega)) ⟨e,?_⟩
 refine ⟨.non,_,I.lset (its':=its++[u]) hH e (by simp) (r.append (.cons ru .nil)) ?_,rfl,q⟩
 rw [List.length_append,List.length_singleton]
 omega
def b0N:V→List V→Hp→VK→Prop:=fun x vs H Q=>∃ l b xs zs,x=.ref l∧vs=[.ref b]∧H l=some (.lst xs)∧H b=some (.lst zs)∧xs.length+zs.length≤sizeLine∧Q .non (upd H l (.lst (xs++zs)))
theorem a7z:MtM X "list.extend" b0N:=by
 intro pins s σ H x vs v us Q I rx rv h
 obtain ⟨l,b,xs,zs,rfl,rfl,hH,hB,hz,q⟩:=h
 cases rx
 obtain ⟨u,rfl,ru⟩:=rv.one
 cases ru
 obtain ⟨z,its,n,r,hl,e⟩:=I.lstM hH
 obtain ⟨z2,its2,n2,r2,hl2,e2⟩:=I.lstM hB
 have hsz:its.toArray.size+its2.toArray.size≤sizeLine:=by rw [List.size_toArray,List.size_toArray];omega
 have hlong:¬ (!its.toArray.isEmpty && Builtin.List.listTooLong (its.toArray.size+its2.toArray.size))=true:=by
  rw [a5R hsz,Bool.and_false]
  exact Bool.false_ne_true
 refine call_meets F.slot_list_extend ⟨_,e,rfl⟩ F.entry_list_extend (F.args_list_extend_2 _ _)
  (AutoSeq1.list_extend_list_list_0 l its.toArray n b its2.toArray n2 hlong (by rw [List.size_toArray];omega) (by omega)) ⟨e,e2,?_⟩
 refine ⟨.non,_,I.lset (its':=its++its2) hH e (by simp) (r.append r2) ?_,rfl,q⟩
 rw [List.length_append]
 omega
def rPop:V→List V→Hp→VK→Prop:=fun x vs H Q=>∃ l xs y,x=.ref l∧vs=[]∧H l=some (.lst xs)∧xs[xs.length - 1]?=some y∧Q y (upd H l (.lst xs.dropLast))
theorem mt_pop:MtM X "list.pop" rPop:=by
 intro pins s σ H x vs v us Q I rx rv h
 obtain ⟨l,xs,y,rfl,rfl,hH,hy,q⟩:=h
 cases rx
 have hus:=rv.zero
 subst hus
 obtain ⟨z,its,n,r,hl,e⟩:=I.lstM hH
 obtain ⟨u,hu,ru⟩:=r.get hy
 have hy':its.toArray[its.toArray.size - 1]?=some u:=by
  show its.toArray[its.length - 1]?=some u
  rw [←Array.getElem?_toList,←hl]
  exact hu
 refine call_meets F.slot_list_pop ⟨_,e,rfl⟩ F.entry_list_pop (F.args_list_pop_1 _) (MeetsSeq.list_pop_last l its.toArray n u hy' (by rw [List.size_toArray];omega)) ⟨e,?_⟩
 refine ⟨y,_,I.lset (its':=its.dropLast) hH e ?_ r.dropLast ?_,ru,q⟩
 ·show its.toArray.eraseIdxIfInBounds (its.toArray.size - 1)=its.dropLast.toArray
  rw [List.size_toArray,List.eraseIdxIfInBounds_toArray,a6A]
 ·rw [List.length_dropLast]
  omega
def rPopAt:V→List V→Hp→VK→Prop:=fun x vs H Q=>∃ l xs i k y,x=.ref l∧vs=[.int i]∧H l=some (.lst xs)∧-(2 ^ 63)≤i∧i < 2 ^ 63∧seqIndex? i xs.length=some k∧xs[k]?=some y∧Q y (upd H l (.lst (xs.eraseIdx k)))
theorem a9d:MtM X "list.pop" rPopAt:=by
 intro pins s σ H x vs v us Q I rx rv h
 obtain ⟨l,xs,i,k,y,rfl,rfl,hH,h1,h2,hk,hy,q⟩:=h
 cases rx
 obtain ⟨u,rfl,ru⟩:=rv.one
 obtain ⟨t,rfl⟩:=ru
 obtain ⟨z,its,n,r,hl,e⟩:=I.lstM hH
 obtain ⟨w,hw,rw'⟩:=r.get hy
 refine call_meets F.slot_list_pop ⟨_,e,rfl⟩ F.entry_list_pop (F.args_list_pop_2 _ _)
  (MeetsSeq.list_pop_at l its.toArray n i t k w (fitsIndex_both h1 h2) (by rw [List.size_toArray,←hl];exact hk) (by rw [←Array.getElem?_toList];exact hw) (by rw [List.size_toArray];omega)) ⟨e,?_⟩
 refine ⟨y,_,I.lset (its':=its.eraseIdx k) hH e ?_ (r.eraseIdx k) ?_,rw',q⟩
 ·show its.toArray.eraseIdxIfInBounds k=(its.eraseIdx k).toArray
  rw [List.eraseIdxIfInBounds_toArray]
 ·have:=a4M xs k
  omega
def rCat:R2:=fun x y H Q=>∃ l b xs zs,x=.ref l∧y=.ref b∧H l=some (.lst xs)∧H b=some (.lst zs)∧xs.length+zs.length≤sizeLine∧∀ p,H p=none→Q (.ref p) (upd H p (.lst (xs++zs)))
theorem a7A:OpR X (binaryOp .Add) rCat:=by
 intro pins s σ H x y v u Q I rx ry h
 obtain ⟨l,b,xs,zs,rfl,rfl,hH,hB,hz,q⟩:=h
 cases rx
 cases ry
 obtain ⟨z,its,n,r,hl,e⟩:=I.lstM hH
 obtain ⟨z2,its2,n2,r2,hl2,e2⟩:=I.lstM hB
 refine PySem.P.add_list e e2 ?_ (by rw [List.size_toArray,List.size_toArray];omega)
 have ea:its.toArray++its2.toArray=(its++its2).toArray:=by simp
 rw [ea]
 exact ⟨.ref _,_,I.lnew (t':=s.toks) (r.append r2) (by rw [List.length_append];omega),rfl,q _ I.fresh⟩
def rRep:R2:=fun x y H Q=>∃ l k xs,x=.ref l∧y=.int k∧H l=some (.lst xs)∧-(2 ^ 63)≤k∧k < 2 ^ 63∧xs.length * k.toNat≤sizeLine ∧
 ∀ p,H p=none→Q (.ref p) (upd H p (.lst (List.replicate k.toNat xs).flatten))
theorem b0O {α:Type} (xs:List α) (k:Nat):(List.replicate k xs).flatten.length=k * xs.length:=by
 induction k with
 | zero=>simp
 | succ k ih=>rw [List.replicate_succ,List.flatten_cons,List.length_append,ih,Nat.succ_mul,Nat.add_comm]
theorem op_rep:OpR X (binaryOp .Mult) rRep:=by
 intro pins s σ H x y v u Q I rx ry h
 obtain ⟨l,k,xs,rfl,rfl,hH,h1,h2,hz,q⟩:=h
 cases rx
 obtain ⟨t,rfl⟩:=ry
 obtain ⟨z,its,n,r,hl,e⟩:=I.lstM hH
 have hlen:its.toArray.size * k.toNat≤sizeLine:=by rw [List.size_toArray,←hl];exact hz
 have hcap:¬ its.toArray.size * k.toNat > (2 ^ 63 - 1) / 8:=by
  have:(sizeLine:Nat)≤(2 ^ 63 - 1) / 8:=by decide
  omega
 have hfit:¬ (!Builtin.List.listFitsIndex k)=true:=by
  rw [fitsIndex_both h1 h2]
  exact Bool.false_ne_true
 have hlong:¬ Builtin.List.listTooLong (its.toArray.size * k.toNat)=true:=by
  rw [a5R hlen]
  exact Bool.false_ne_true
 have hnew:List.foldl (fun x1 x2=>x1++x2) #[] (List.replicate (if its.toArray.isEmpty=true then 0 else k.toNat) its.toArray)=(List.replicate k.toNat its).flatten.toArray:=by
  have f0:∀ m:Nat,List.foldl (fun x1 x2=>x1++x2) #[] (List.replicate m its.toArray)=(List.replicate m its).flatten.toArray:=fun m=>by
   have:=a4N its m []
   rw [List.nil_append] at this
   exact this
  rw [f0]
  cases its with
  | nil=>simp
  | cons a r'=>rw [if_neg (by simp)]
 refine wpAny_binaryOp_repeat_ref (T:="list") (U:="int") (by decide) ⟨_,e,rfl⟩ (fun s'=>typeIs_int s' k t) noFill_list_mul F.fills_int_mul F.slot_int_rmul repeat_list F.slot_int_index.lookup
  (call_meets F.slot_int_rmul (typeIs_int s k t) F.entry_int_rmul (F.args_int_rmul_2 _ _) (int___rmul___int_list k t l its.toArray n)
   ⟨e,rfl,⟨_,e,rfl⟩,call_meets F.slot_list_mul ⟨_,e,rfl⟩ F.entry_list_mul (F.args_list_mul_2 _ _) (AutoListH.list___mul___list_int_3 l its.toArray n k t hfit hcap hlong) ⟨e,?_⟩⟩)
 rw [hnew]
 exact ⟨.ref _,_,I.lnew (t':=s.toks) (r.rep k.toNat) (by rw [b0O,Nat.mul_comm];exact hz),rfl,q _ I.fresh⟩
end
section
variable {prog:Program} {w:World} {A:Around} {E:Value→Shared→Prop} {s:Shared}
end
section
variable {X:Cx}
end
end L2
namespace Att
open PySem PySem.W PySem.Calls PyProof.Rows
theorem a3p {P:Params} {h:Heap}:∀ (ns:List Int) (vs:List Value),WellAll P h vs (ns.map WData.int)→IntsAre vs ns:=by
 intro ns
 induction ns with
 | nil =>
  intro vs w
  rw [List.map_nil] at w
  cases w
  exact .nil
 | cons n ns ih =>
  intro vs w
  rw [List.map_cons] at w
  cases w with
  | cons a b =>
   cases a
   exact .cons _ _ (ih _ b)
theorem a7B {l:OpenLaw} {n:Nat} (hn:l.most=some n) {P:Params} {h:Heap} {args:List WData} {vals:List Value}
  (hpre:l.row.toRowW.claim.pre args=true) (hwl:WellAll P h vals args) :
  ∃ a vs ns,vals=[Value.ref a]∧args=[WData.list (ns.map WData.int)]∧h.get? a=some { cls:=.type "list",data:=.seq vs.toArray }∧IntsAre vs ns∧ns.length≤n:=by
 have hsh:WShape.hasAll [] args [.list .int]=true:=(pre_splitW hpre).1
 have hc:l.pre.holds [] { args:=args }=true:=(pre_splitW hpre).2
 obtain ⟨d,r,rfl,h1,h2⟩:=hasAllW_cons hsh
 obtain rfl:=hasAllW_nil h2
 obtain ⟨xs,rfl,h3⟩:=hasW_list h1
 obtain ⟨ns,rfl⟩:=items_int h3
 have hlen:ns.length≤n:=by
  unfold OpenLaw.pre at hc
  have h4:(WTm.not (.lt (.lit (.int (n:Int))) (.len (.arg 0)))).holds [] { args:=[.list (ns.map .int)] }=true:=by
   have h4:=(holds_andW hc).1
   rw [hn] at h4
   exact h4
  have h5:=condW_of h4 (w_not (w_lt w_lit (w_len_list (w_arg rfl))))
  rw [List.length_map] at h5
  refine Nat.le_of_not_lt fun q=>?_
  have q':(n:Int) < ((ns.length:Nat):Int):=by omega
  first
   | (rw [decide_eq_true q'] at h5;exact absurd h5 (by decide))
   | (simp at h5;omega)
 cases hwl with
 | cons w1 w2 =>
  cases w2
  cases w1 with
  | list ho hall=>exact ⟨_,_,ns,rfl,rfl,ho,a3p ns _ hall,hlen⟩
theorem a7C (l:OpenLaw) (args:List WData):l.row.toRowW.claim.post args (.bool true) args=true :=
 postW_of (r:=l.row.toRowW) (X:=(true == true))
  (show WShape.has [] (.bool true) .bool=true by first | rfl | decide | simp [WShape.has,WShape.arms,WShape.armsAll])
  (show (WTm.eq .res (.lit (.bool true))).value [] { args:=args,res:=some (.bool true),after:=args }=some (.bool (true == true)) from w_eq_bool (w_res rfl) w_lit) rfl
theorem a5n {l:OpenLaw} {n:Nat} {q:Program} {loose:List Str} {XP:(Str→Option Value)→Heap→Prop} {YP:World→Heap→Prop} {d:DefRec}
  (hn:l.most=some n) (hdf:d.params.defaults=[])
  (call:∀ (w:World) (s₀ s₁:Shared) (mg mb:Str→Option Value) (fa:Addr) (o:Obj) (pm cd doc:Value) (a:Addr) (vs:List Value) (ns:List Int),
   Ground q loose [] XP w s₀ mg mb s₁.heap→YP w s₁.heap →
   s₁.heap.get? fa=some o→o.data=.func (docDef d.name d.params d.body d.scope pm cd doc)→s₁.heap.CodeRec cd d.name→mg d.name=some (.ref fa) →
   s₁.heap.get? a=some { cls:=.type "list",data:=.seq vs.toArray }→IntsAre vs ns→ns.length≤n→s₁.gens=#[] →
   codeAny (model l.prog w) callerA (.call (.ref fa) ⟨[.ref a],[]⟩) (fun r s'=>r=.ok (.ret (.bool true))∧OldK s₁.heap s'.heap∧s'.os=s₁.os∧AllBare s'.gens) s₁) :
  WalkO q loose XP YP l.row.toRowW d [] (fun f vs=>PySem.call f vs):=by
 intro w s₀ s₁ mg mb G Y fa o pm cd doc dV kV ho hd hcd hD hmg hg args vals as hpre hlay hrd hwl hlo
 obtain rfl:dV=.none:=Dflts.none hD hdf
 obtain rfl:kV=.none:=Dflts.noKw hD
 obtain ⟨a,vs,ns,rfl,rfl,hobj,hints,hlen⟩:=a7B hn hpre hwl
 refine enter_call (codeAny_mono (call w s₀ s₁ mg mb fa o pm cd doc a vs ns G Y ho (fd_plain hd) hcd hmg hobj hints hlen hg) fun r s' hq=>?_)
 obtain ⟨rfl,h2,h3,h4⟩:=hq
 exact ⟨.inl ⟨.bool true,.bool true,[],rfl,fun _=>rfl,.bool true,a7C l _,fun _=>⟨List.Pairwise.nil,fun _ hm=>(nomatch hm)⟩⟩,h2,h3,h4⟩
section
variable {prog:Program} {w:World} {A:Around} {E:Value→Shared→Prop} {s:Shared} {K:Frag}
def ledger (h:Heap) (L d:Addr):List (Addr × Obj):=(List.range h.objs.size).filterMap fun a=>if a=L∨a=d then none else (h.get? a).map fun o=>(a,o)
end
end Att
namespace L2
open PySem PySem.Spec PyProof.Rows
theorem a4O:∀ {vs:List Value} {ns:List Int},IntsAre vs ns→a0A (ns.map V.int) vs
 | _,_,.nil=>.nil
 | _,_,.cons n t h=>.cons ⟨t,rfl⟩ (a4O h)
def Only (H:Hp):Prop:=∀ b,H b=none∨∃ o xs,H b=some (.frz o (.lst xs))
abbrev KOf {K:PySem.W.Frag} {h:Heap} (_:K.In h):PySem.W.Frag:=K
def inClass (s:Stmt) (j:Nat):Stmt:=match s with
 | .ClassDef _ _ _ body _ _ _ _ _ _ _=>body.getD j (.Pass ⟨0,0,0,0⟩)
 | _=>.Pass ⟨0,0,0,0⟩
def a0z (s:Stmt):Arguments:=match s with
 | .FunctionDef _ a _ _ _ _ _ _ _ _=>a
 | _=>{ posonlyargs:=[],args:=[],vararg:=none,kwonlyargs:=[],kw_defaults:=[],kwarg:=none,defaults:=[] }
def a0x (s:Stmt):List Stmt:=match s with
 | .FunctionDef _ _ b _ _ _ _ _ _ _=>b
 | _=>[]
def a0g (s:Stmt):Scope:=match s with
 | .FunctionDef _ _ _ _ _ _ sc _ _ _=>sc
 | _=>{ kind:=.function,names:=[],isGenerator:=false,isCoroutine:=false }
abbrev CX0:CXT:=fun _ _ _ _ _ _=>False
abbrev E0:XK:=fun _ _ _=>False
theorem a1b {X:Cx}:a7t CX0 X E0:=fun _ _ _ _ _ _ _ h=>h.elim
structure Fun (K:PySem.W.Frag) (x qual:Str) (st:Stmt) (f:Addr) (fd:FuncData):Prop where
 ex:∃ (oc:Value) (od:Option Addr) (kV doc pm:Value) (an:Option Addr) (cdv ct:Value) (osl:Array (Option Value)),
  fd=PySem.W.fnOf x qual (a0z st) (a0x st) (a0g st) .none kV doc pm an cdv ct∧K.lookup f=some ⟨oc,od,.func fd,osl⟩∧PySem.W.codeIn K cdv qual=true
 kp:PySem.W.keepIn K (.ref f)=true
section
variable {P:Program} {w:World} {K:PySem.W.Frag} {mg:Str→Option Value} {base:Heap}
theorem Fun.ok {x qual:Str} {st:Stmt} {f:Addr} {fd:FuncData} {N ps:List Str} {k:Nat} {sp:Sp} (F:Fun K x qual st f fd) (S:a0C N ps (a0g st)) (len:∀ vs H Q E,sp vs H Q E→vs.length=ps.length)
  (hbody:∀ (cdv:Value) (A:Around) (outer:List Env) (s:Shared) (H:Hp) (vs:List V) (Q:VK) (E:XK),a2E k (A.deeper (envOfC qual (a0g st) s.heap.objs.size f cdv))→sp vs H Q E →
   ∃ t,PSs (a5O CX0 P w K mg base N qual (a0g st) f cdv A outer s H E).nox (a0x st) t∧t { nx:=fun _ H'=>Q .non H',rt:=Q } (start N vs) H):a1X P w K mg base CX0 (k+1) f fd ps sp:=by
 obtain ⟨oc,od,kV,doc,pm,an,cdv,ct,osl,rfl,lk,hcd⟩:=F.ex
 refine fn_of lk hcd S len fun A outer s H vs Q E hr hsp=>?_
 obtain ⟨t,h,q⟩:=hbody cdv A outer s H vs Q E hr hsp
 exact ⟨t,h.nox,q⟩
theorem Fun.binds {x qual:Str} {st:Stmt} {f:Addr} {fd:FuncData} {ps:List Str} (F:Fun K x qual st f fd)
  (h:∀ (kV doc pm:Value) (an:Option Addr) (cdv ct:Value) (us:List Value),us.length=ps.length→bindArgs (PySem.W.fnOf x qual (a0z st) (a0x st) (a0g st) .none kV doc pm an cdv ct) ⟨us,[]⟩=pure (ps.zip us)):a5j K fd ps []:=by
 obtain ⟨oc,od,kV,doc,pm,an,cdv,ct,osl,rfl,lk,hcd⟩:=F.ex
 exact .all (h kV doc pm an cdv ct)
theorem a0X {x qual:Str} {st:Stmt} {f:Addr} {oc:Value} {od an:Option Addr} {osl:Array (Option Value)} {kV doc pm cdv ct:Value} (l:K.lookup f=some ⟨oc,od,.func (PySem.W.fnOf x qual (a0z st) (a0x st) (a0g st) .none kV doc pm an cdv ct),osl⟩)
  (c:PySem.W.codeIn K cdv qual=true) (k:PySem.W.keepIn K (.ref f)=true):Fun K x qual st f (PySem.W.fnOf x qual (a0z st) (a0x st) (a0g st) .none kV doc pm an cdv ct):=⟨⟨oc,od,kV,doc,pm,an,cdv,ct,osl,rfl,l,c⟩,k⟩
end
theorem a0q {n:Nat} (h:n≤1000):n < sizeLine:=Nat.lt_of_le_of_lt h (by decide)
section
variable {X:Cx}
theorem pv (i:Nat) {x:Str} {pos:Pos} (hN:X.N[i]?=some x:=by rfl) (hv:Vis X.env.scope x:=by first | exact Or.inl rfl | exact Or.inr (Or.inl rfl) | exact Or.inr (Or.inr rfl)) (hd:(x == ("__debug__":Str))=false:=by decide)
  (hcd:(x == ("__classdict__":Str))=false:=by decide):PE X (.Name x pos) (tVar i):=pe_var hN hv hd hcd
end
theorem b0P {A B:Prop} (h:B):if false=true then A else B:=by
 rw [if_neg Bool.false_ne_true]
 exact h
theorem b1G {A B:Prop} (h:A):if true=true then A else B:=by
 rw [if_pos rfl]
 exact h
theorem a1g {c A B:Prop} [Decidable c] (h1:c→A) (h2:¬ c→B):if c then A else B:=by
 by_cases h:c
 ·rw [if_pos h]
  exact h1 h
 ·rw [if_neg h]
  exact h2 h
def a0y (H H':Hp):Prop:=∀ b o,H b=some o→H' b=some o
theorem a0y.refl (H:Hp):a0y H H:=fun _ _ h=>h
theorem a0y.trans {H H1 H2:Hp} (a:a0y H H1) (b:a0y H1 H2):a0y H H2:=fun c o h=>b c o (a c o h)
theorem a0y.free {H H':Hp} (e:a0y H H') {l:Addr} (h:H' l=Option.none):H l=Option.none:=by
 cases q:H l with
 | none=>rfl
 | some o =>
  rw [e l o q] at h
  cases h
theorem a0y.seq {K:PySem.W.Frag} {H H':Hp} {a:Addr} {xs:List V} (e:a0y H H') (h:SqL K H a xs):SqL K H' a xs:=by
 rcases h with (h | ⟨o,h⟩) | h
 ·exact .inl (.inl (e _ _ h))
 ·exact .inl (.inr ⟨o,e _ _ h⟩)
 ·exact .inr h
section
variable {prog:Program} {w:World} {A:Around} {R:Result→Shared→Prop} {s:Shared}
abbrev a7D (cs:List Expr) (en:Env):Sem Bool :=
 forIn cs true fun c r=>if r=true then do let ok ←isTrue c en (eval c en);pure (ForInStep.yield ok) else pure (ForInStep.yield r)
theorem a6B {elt tg iter:Expr} {cs:List Expr} {scope:Scope} {pos:Pos} {it acc:Value} {en:Env} {EE:Value→Shared→Prop} (hE:EE=notedBy (model prog w) A en fun e s'=>R (.error e) s') (J:Nat→Shared→Prop)
  (turn:∀ n s,J n s→wpAny (model prog w) A (pyNext it) (fun r s1=>match r with
   | none=>R (.ok .next) s1
   | some v=>wpAny (model prog w) A (letOwnedTupleGo tg it v) (fun _ sg=>wpAny (model prog w) A (assign tg en v) (fun _ s2=>wpAny (model prog w) A (a7D cs en) (fun ok s3 =>
     if ok=true then wpAny (model prog w) A (eval elt en) (fun y s4=>wpAny (model prog w) A (call (.builtin "list.append") [acc,y]) (fun _ s5=>∃ m,m < n∧J m s5) EE s4) EE s3
     else ∃ m,m < n∧J m s3) EE s2) EE sg) EE s1) EE s)
  (n:Nat) (h:J n s):codeAny (model prog w) A (.compLoop (.ListComp elt [⟨tg,iter,cs,0⟩] scope pos) 0 it acc en) R s:=by
 subst hE
 refine codeAny_loop rfl J (fun n s hJ=>?_) n h
 show wpAny _ A (Sem.onRaise (compTurn (.ListComp elt [⟨tg,iter,cs,0⟩] scope pos) 0 it acc en) (fun x=>do noteFrame x en;theTreesLotGoes x)) _ _ s
 refine wpAny_noted ?_
 rw [compTurn_list]
 refine wpAny_bind (wpAny_standAt (wpAny_bind (thn (turn n s hJ) fun r s1 q1=>?_)))
 cases r with
 | none=>exact wpAny_pure q1
 | some v =>
  refine wpAny_bind (thn q1 fun _ sg qg=>wpAny_bind (thn qg fun _ s2 q2=>wpAny_bind (thn q2 fun ok s3 q3=>?_)))
  cases ok with
  | false=>exact wpAny_pure ⟨rfl,q3⟩
  | true=>exact wpAny_bind (wpAny_bind (thn q3 fun y s4 q4=>wpAny_bind (thn q4 fun _ s5 q5=>wpAny_pure (wpAny_pure ⟨rfl,q5⟩))))
end
def PTs (X:Cx) (cs:List Expr) (t:TT):Prop :=
 ∀ (pins:List (Addr × Obj)) (s:Shared) (σ:St) (H:Hp) (Q:Bool→Hp→Prop),Inv X pins σ H s→t σ H Q→wpAny (model X.prog X.w) X.A (a7D cs X.env) (TP X pins σ Q) X.xe s
def b0Q:TT:=fun _ H Q=>Q true H
theorem a1c {X:Cx}:PTs X [] b0Q:=fun _ _ _ H _ I h=>wpAny_tests_nil ⟨H,I,h⟩
theorem a1Y {en:Env}:∀ (names:List (Str × NameKind)) (acc:List (Str × Addr)),(∀ y,(y,NameKind.free)∈names→∃ c,en.cells.lookup y=some c) →
  (∀ y c,acc.lookup y=some c→en.cells.lookup y=some c) →
  ∃ cl,(forIn (m:=Sem) names acc fun p cs=>if (p.2 == .free)=true then (do let a ←cellOf en p.1;pure (ForInStep.yield ((p.1,a) :: cs))) else pure (ForInStep.yield cs))=pure cl ∧
   (∀ y c,cl.lookup y=some c→en.cells.lookup y=some c)∧(∀ y,((y,NameKind.free)∈names∨∃ c,acc.lookup y=some c)→∃ c,cl.lookup y=some c)
 | [],acc,_,h2=>⟨acc,rfl,h2,fun y h=>h.elim (fun z=>by simp at z) id⟩
 | (n,k) :: r,acc,h1,h2=>by
  by_cases hk:k=.free
  ·subst hk
   obtain ⟨c,hc⟩:=h1 n (by simp)
   obtain ⟨cl,e,a,b⟩:=a1Y r ((n,c) :: acc) (fun y hy=>h1 y (List.mem_cons_of_mem _ hy)) (fun y d hd=>by
    rw [List.lookup_cons] at hd
    by_cases hy:y=n
    ·subst hy;simp at hd;subst hd;exact hc
    ·have:(y == n)=false:=by simpa using hy
     rw [this] at hd;exact h2 y d hd)
   refine ⟨cl,?_,a,fun y hy=>b y ?_⟩
   ·rw [List.forIn_cons]
    have e1:cellOf en n=pure c:=by unfold cellOf;rw [hc]
    simp only [beq_self_eq_true,if_true,e1,pure_bind]
    exact e
   ·rcases hy with hy | ⟨d,hd⟩
    ·rcases List.mem_cons.mp hy with z | z
     ·cases z;exact .inr ⟨c,by simp⟩
     ·exact .inl z
    ·by_cases hy:y=n
     ·subst hy;exact .inr ⟨c,by simp⟩
     ·have:(y == n)=false:=by simpa using hy
      exact .inr ⟨d,by rw [List.lookup_cons,this];exact hd⟩
  ·have hb:(k == NameKind.free)=false:=by simpa using hk
   obtain ⟨cl,e,a,b⟩:=a1Y r acc (fun y hy=>h1 y (List.mem_cons_of_mem _ hy)) h2
   refine ⟨cl,?_,a,fun y hy=>b y ?_⟩
   ·rw [List.forIn_cons]
    simp only [hb,Bool.false_eq_true,if_false,pure_bind]
    exact e
   ·rcases hy with hy | hy
    ·rcases List.mem_cons.mp hy with z | z
     ·cases z;exact absurd rfl hk
     ·exact .inl z
    ·exact .inr hy
theorem a6C {scope:Scope} {en:Env} (h1:∀ y,(y,NameKind.free)∈scope.names→∃ c,en.cells.lookup y=some c) :
  ∃ cl,closureFor scope en=pure cl∧(∀ y c,cl.lookup y=some c→en.cells.lookup y=some c)∧(∀ y,(y,NameKind.free)∈scope.names→∃ c,cl.lookup y=some c):=by
 obtain ⟨cl,e,a,b⟩:=a1Y (en:=en) scope.names [] h1 (fun y c h=>by simp at h)
 refine ⟨cl,?_,a,fun y hy=>b y (.inl hy)⟩
 have q:=congrArg (fun t:Sem (List (Str × Addr))=>t >>= fun c=>pure c) e
 exact q
def xeC (X:Cx) (en:Env) (C:Addr):Value→Shared→Prop :=
 notedBy (model X.prog X.w) X.A en fun e s'=>compPost (model X.prog X.w) X.A X.xe none (fun _ _=>False) Value.none C (.error e) s'
def cxC (X:Cx) (scope:Scope) (cl:List (Str × Addr)) (C:Addr) (s0:Shared) (H0:Hp) (fp:List Addr) (N:List Str):Cx where
 prog:=X.prog
 w:=X.w
 K:=X.K
 mg:=X.mg
 base:=X.base
 A:=X.A
 N:=N
 s₀:=s0
 H₀:=H0
 env:=compEnvC scope cl C X.env
 outer:=X.stack
 stack:=X.stack
 ex:=fp
 fn:=fun _=>false
 calm:=X.calm
 pn:=[]
 xe:=xeC X (compEnvC scope cl C X.env) C
structure a0o (scope:Scope) (en:Env) (N M:List Str):Prop where
 kind:scope.kind=.function
 nocell:∀ y∈scope.names,y.2≠.cell
 locs:∀ y∈scope.names,y.2=.local→scope.names.lookup y.1=some .local
 free:∀ y,(y,NameKind.free)∈scope.names→en.kindOf y=some .cell∨en.kindOf y=some .free
 len:M.length=N.length
 same:∀ (j:Nat) (y:Str),M[j]?=some y→Vis (relabel scope en) y→N[j]?=some y∧(y,NameKind.free)∈scope.names∧(relabel scope en).names.lookup y≠some .local
 relab:∀ y,((relabel scope en).names.lookup y=some .cell∨(relabel scope en).names.lookup y=some .free)→(y,NameKind.free)∈scope.names
def a7E (k:Nat) (wi:TI) (g:TG) (tc:TT) (te:TE):TE:=fun σ H Q=>wi σ H fun J H1=>∀ d,H1 d=none→∃ W:Nat→Nat→Hp→Prop,(∃ m,W 0 m (upd H1 d (.lst [])))∧∀ i m H,W i m H →
 (J.stop i H∧Q (.ref d) H)∨(J.go i H∧∃ N:Hp→Prop,(∀ H',N H'→∃ m',m' < m∧W (i+1) m' H')∧∀ x H',J.yld i H x H'→g x (List.replicate k none++σ) H' fun σ2 H2 =>
  tc σ2 H2 fun b H3=>if b=true then te σ2 H3 fun y H4=>∃ ys,H4 d=some (.lst ys)∧ys.length < sizeLine∧N (upd H4 d (.lst (ys++[y]))) else N H3)
structure Gone (X:Cx) (pins:List (Addr × Obj)) (H:Hp) (C:Addr):Prop where
 no:H C=none
 ne:C≠X.env.locals
 yg:X.s₀.heap.objs.size≤C
 cl:∀ x c,X.env.cells.lookup x=some c→c≠C
 pn:∀ p∈X.pn++pins,p.1≠C
theorem Inv.gone {X:Cx} {pins:List (Addr × Obj)} {σ:St} {H:Hp} {s:Shared} {C:Addr} {h':Heap} (I:Inv X pins σ H s) (g:Gone X pins H C) (hs:Heap.SameBut C s.heap h'):Inv X pins σ H { s with heap:=h' } :=
 I.turned (t':=s.toks) (it:=C) (fun b o hb e=>hs.extBut b o hb e) g.no g.ne (.inr g.yg) g.cl g.pn
structure Back (X Y:Cx) (pins:List (Addr × Obj)) (σ:St) (fp:List Addr) (C:Addr) (s3:Shared) (H3:Hp):Prop where
 i0:Inv X pins σ H3 s3
 fp:∀ b∈fp,(b∈X.ex∨X.s₀.heap.objs.size≤b)∧b≠X.env.locals∧(∀ x c,X.env.cells.lookup x=some c→c≠b)∧∀ p∈X.pn++pins,p.1≠b
 inv:∀ (pins':List (Addr × Obj)) (σ':St) (H':Hp) (s':Shared),Inv Y pins' σ' H' s'→Inv X pins σ H' s'∧Gone X pins H' C
theorem a5S {X:Cx} {elt tg iter:Expr} {cs:List Expr} {scope:Scope} {pos:Pos} {wi:TI} {g:TG} {tc:TT} {te:TE} {xs M:List Str} {use:Option (Value→Sem Unit)} {RR:Value→Shared→Prop} (hc:X.calm=true) (S:a0o scope X.env X.N M) (hi:PI X tg iter wi)
  (hin:∀ (cl:List (Str × Addr)) (C:Addr) (s0:Shared) (H0:Hp) (fp:List Addr) (pins:List (Addr × Obj)) (σ:St),Back X (cxC X scope cl C s0 H0 fp (xs++M)) pins σ fp C s0 H0→PG (cxC X scope cl C s0 H0 fp (xs++M)) tg g∧PTs (cxC X scope cl C s0 H0 fp (xs++M)) cs tc∧PE (cxC X scope cl C s0 H0 fp (xs++M)) elt te)
  (hg:∀ v σ H Q,g v (List.replicate xs.length none++σ) H Q→g v (List.replicate xs.length none++σ) H fun σ2 H2=>(∃ l:St,l.length=xs.length∧σ2=l++σ)∧Q σ2 H2)
  (hs:∀ x,foldedSetIterable iter X.env x=pure x) (pins:List (Addr × Obj)) (s:Shared) (σ:St) (H:Hp) (Q:VK) (I:Inv X pins σ H s) (h:a7E xs.length wi g tc te σ H Q)
  (fin:∀ (d C:Addr) (s6:Shared) (H6:Hp) (m:Str→Option Value),Q (.ref d) H6→Inv X pins σ H6 s6→s6.heap.Ns C m→Gone X pins H6 C→compPost (model X.prog X.w) X.A X.xe use RR (.ref d) C (.ok .next) s6) :
  wpAny (model X.prog X.w) X.A (comprehension (.ListComp elt [⟨tg,iter,cs,0⟩] scope pos) scope X.env (firstIterPos [⟨tg,iter,cs,0⟩] pos) (newList []) false (eval iter X.env) use) RR X.xe s:=by
 obtain ⟨cl,hcl,cl1,cl2⟩:=a6C (scope:=scope) (en:=X.env) fun y hy=>I.ok.has y (S.free y hy)
 refine wpAny_comprehension_free (use:=use) rfl hs hcl S.kind S.locs (thn (hi pins s σ H _ I h) fun v s1 h1=>thn h1 fun itv s2 h2=>?_)
 obtain ⟨it,fp,tn,J,H2,e,I2,T,st2,f2,h3⟩:=h2
 subst e
 have hf:H2 s2.heap.objs.size=none:=I2.fresh
 obtain ⟨W,⟨m0,w0⟩,turn⟩:=h3 _ hf
 refine wpAny_newObj_type (wpAny_newFunctionEnv S.nocell (by intro y hy;simp at hy) (fun h4 hns hsb=>?_) S.kind)
 have I3:Inv X pins σ (upd H2 s2.heap.objs.size (.lst [])) { s2 with heap:=s2.heap.push { cls:=.type "list",data:=.seq ([]:List Value).toArray } }:=I2.lnew (ys:=[]) (its:=[]) (t':=s2.toks) .nil (Nat.zero_le _)
 generalize hs3:({ s2 with heap:=s2.heap.push { cls:=.type "list",data:=.seq ([]:List Value).toArray } }:Shared)=s3 at I3
 generalize hH3:upd H2 s2.heap.objs.size (.lst [])=H3 at I3 w0
 have e3:s2.heap.push { cls:=.type "list",dict:=none,data:=.seq ([]:List Value).toArray }=s3.heap:=by rw [←hs3]
 dsimp only at hns hsb ⊢
 rw [e3] at hns hsb
 have old:∀ b o,s3.heap.get? b=some o→h4.get? b=some o:=fun b o e=>hsb.extBut b o (Nat.ne_of_lt (Heap.lt_size e)) (Heap.get?_push_of_some _ e)
 have keep2:∀ b o,s2.heap.get? b=some o→s3.heap.get? b=some o:=fun b o e=>by rw [←e3];exact Heap.get?_push_of_some _ e
 have lt3:∀ b∈fp,b < s3.heap.objs.size:=fun b hb=>by
  obtain ⟨o,e,_⟩:=T.obj _ _ st2 b hb
  exact Heap.lt_size (keep2 b o e)
 have n3:∀ b∈fp,H3 b=none:=fun b hb=>by
  obtain ⟨o,e,_⟩:=T.obj _ _ st2 b hb
  rw [←hH3,a0r (Nat.ne_of_lt (Heap.lt_size e))]
  exact (f2 b hb).1
 have st4:tn 0 h4:=T.keep _ _ _ st2 fun b _ o e=>old b o (keep2 b o e)
 let Y:Cx:=cxC X scope cl s3.heap.objs.size s3 H3 fp (xs++M)
 have relab:∀ y,((relabel scope X.env).names.lookup y=some .cell∨(relabel scope X.env).names.lookup y=some .free)→∃ c,cl.lookup y=some c:=fun y hy=>cl2 y (S.relab y hy)
 have Yok:Y.Ok:=by
  refine ⟨I3.ok.mod,S.kind,I3.ok.glob,I3.ok.blt,Nat.le_refl _,fun y z c h1 h2=>I3.ok.inj y z c (cl1 y c h1) (cl1 z c h2),fun y hy=>relab y hy,fun _ _ h _=>absurd (show false=true from h) (by decide),I3.ok.hd,I3.ok.frames,.inl rfl,
   fun b hb=>⟨Nat.ne_of_lt (lt3 b hb),fun y c e=>(f2 b hb).2.2.2.2.1 y c (cl1 y c e)⟩,I3.bs,Nat.le_trans I3.ok.bsz I3.sz,fun b o e hb=>?_,fun b hb z=>?_,I3.stack,I3.stkFree⟩
  ·rcases (f2 b hb).2.2.2.1 with z | z
   ·exact I3.ok.noex b o e z
   ·exact absurd (Nat.lt_of_lt_of_le (Heap.lt_size e) (Nat.le_trans I3.ok.bsz z)) (Nat.lt_irrefl _)
  ·rcases List.mem_cons.mp (I3.stkSub b z) with z | z
   ·exact (f2 b hb).2.1 z
   ·exact (f2 b hb).2.2.1 z
 have cells4:∀ y c,cl.lookup y=some c→∀ v,s3.heap.IsCell c v→h4.IsCell c v:=fun y c _ v ⟨o,ho,hd⟩=>⟨o,old c o ho,hd⟩
 have IY:∀ t',Inv Y [] (List.replicate xs.length none++σ) H3 { s3 with heap:=h4,toks:=t' }:=fun t'=>by
  refine ⟨Yok,rfl,I3.bare,Un.kept old,⟨_,hns,fun i y v e1 e2 e3=>?_⟩,fun y c e=>?_,I3.hok.fresh (Nat.le_refl _),fun y c e=>I3.freeC y c (cl1 y c e),fun p hp=>absurd (show p∈([]:List (Addr × Obj)) from hp) (by simp),I3.hok.kept old,?_⟩
  ·by_cases hi:i < xs.length
   ·rw [List.getElem?_append_left (by simpa using hi),List.getElem?_replicate] at e2
    split at e2 <;> cases e2
   ·obtain ⟨j,rfl⟩:∃ j,i=xs.length+j:=⟨i - xs.length,by omega⟩
    have e1':M[j]?=some y:=by
     have q:(xs++M)[xs.length+j]?=some y:=e1
     rw [List.getElem?_append_right (Nat.le_add_right _ _)] at q
     simpa using q
    have e2':σ[j]?=some (some v):=by
     rw [List.getElem?_append_right (by simp)] at e2
     simpa using e2
    obtain ⟨a1,a2,a3⟩:=S.same j y e1' e3
    have vis:Vis X.env.scope y:=by
     rcases S.free y a2 with z | z
     ·exact .inr (.inl z)
     ·exact .inr (.inr z)
    obtain ⟨m,_,hl⟩:=I3.loc
    obtain ⟨u,r,l⟩:=hl j y v a1 e2' vis
    refine ⟨u,r,?_⟩
    have kk:Y.env.kindOf y=some .cell∨Y.env.kindOf y=some .free:=by
     rcases e3 with z | z | z
     ·exact absurd z a3
     ·exact .inl z
     ·exact .inr z
    rcases l with ⟨k1,_⟩ | ⟨_,c,ec,ic⟩
    ·rcases S.free y a2 with z | z
     ·rw [z] at k1;cases k1
     ·rw [z] at k1;cases k1
    ·obtain ⟨c',ec'⟩:=cl2 y a2
     have:=cl1 y c' ec'
     rw [ec] at this
     cases this
     exact .inr ⟨kk,c,ec',cells4 y c ec' _ ic⟩
  ·obtain ⟨v,z⟩:=I3.cell y c (cl1 y c e)
   exact ⟨v,cells4 y c e v z⟩
  ·show (List.replicate xs.length none++σ).length=(xs++M).length
   rw [List.length_append,List.length_append,List.length_replicate,S.len,I3.len]
 have stat:∀ {pl:List (Addr × Obj)} {H':Hp},(∀ p∈pl,p.1∉fp)→(∀ b∈fp,H' b=none)→∀ b∈fp,a5h Y pl H' b:=fun hp hn b hb =>
  ⟨hn b hb,Nat.ne_of_lt (lt3 b hb),Yok.exfs b hb,.inl hb,fun y c e=>(f2 b hb).2.2.2.2.1 y c (cl1 y c e),fun p hp' z=>hp p (by simpa [Y,cxC] using hp') (z▸hb)⟩
 have bk:Back X Y pins σ fp s3.heap.objs.size s3 H3:=by
  refine ⟨I3,fun b hb=>⟨(f2 b hb).2.2.2.1,(f2 b hb).2.1,(f2 b hb).2.2.2.2.1,(f2 b hb).2.2.2.2.2⟩,fun pins' σ' H' s' J=>⟨?_,?_⟩⟩
  ·exact I3.call' (ch:=fp) J.os J.base J.hok J.bare fun b hb=>⟨(f2 b hb).2.2.2.1,(f2 b hb).2.1,(f2 b hb).2.2.2.2.1,(f2 b hb).2.2.2.2.2⟩
  ·refine ⟨J.free,Nat.ne_of_gt I3.lt,I3.sz,fun y c e z=>?_,fun p hp z=>?_⟩
   ·obtain ⟨v,q⟩:=I3.cell y c e
    have:=q.lt
    rw [z] at this
    exact Nat.lt_irrefl _ this
   ·have:=Heap.lt_size (I3.pin p hp).1
    rw [z] at this
    exact Nat.lt_irrefl _ this
 obtain ⟨hG,hT,hE⟩:=hin cl s3.heap.objs.size s3 H3 fp pins σ bk
 have loop:∀ t',codeAny (model X.prog X.w) X.A (.compLoop (.ListComp elt [⟨tg,iter,cs,0⟩] scope pos) 0 (.ref it) (.ref s2.heap.objs.size) Y.env) (compPost (model X.prog X.w) X.A X.xe use RR (.ref s2.heap.objs.size) s3.heap.objs.size) { s3 with heap:=h4,toks:=t' }:=by
  intro t'
  refine a6B (EE:=Y.xe) (by cases use <;> rfl) (fun n s'=>∃ i H',Inv Y [] (List.replicate xs.length none++σ) H' s'∧tn i s'.heap∧(∀ b∈fp,H' b=none)∧W i n H') ?_ m0 ⟨0,H3,IY t',st4,n3,w0⟩
  rintro n s5 ⟨i,H5,I5,st5,fr5,w5⟩
  rcases turn i n H5 w5 with ⟨stop,qn⟩ | ⟨go,N,hN,step⟩
  ·refine thn (T.done Y rfl rfl rfl hc i [] s5 (List.replicate xs.length none++σ) H5 _ I5 (stat (by simp) fr5) st5 stop) fun r s6 ⟨hr,I6⟩=>?_
   subst hr
   obtain ⟨m6,hn6,_⟩:=I6.loc
   have I8:Inv X pins σ H5 s6:=I3.call' (ch:=fp) I6.os I6.base I6.hok I6.bare fun b hb=>⟨(f2 b hb).2.2.2.1,(f2 b hb).2.1,(f2 b hb).2.2.2.2.1,(f2 b hb).2.2.2.2.2⟩
   have lt8:X.env.locals < s3.heap.objs.size:=I3.lt
   refine fin _ _ s6 H5 m6 qn I8 hn6 ⟨I6.free,Nat.ne_of_gt lt8,I3.sz,fun y c e z=>?_,fun p hp z=>?_⟩
   ·obtain ⟨v,q⟩:=I3.cell y c e
    have:=q.lt
    rw [z] at this
    exact Nat.lt_irrefl _ this
   ·have:=Heap.lt_size (I3.pin p hp).1
    rw [z] at this
    exact Nat.lt_irrefl _ this
  ·refine thn (T.item Y rfl rfl rfl hc i [] s5 (List.replicate xs.length none++σ) H5 _ I5 (stat (by simp) fr5) st5 go) fun r s6 ⟨u,hr,h6⟩=>?_
   subst hr
   refine thn h6 fun _ s7 ⟨x7,H7,I7,r7,y7,st7,fr7⟩=>?_
   have I7':=I7.pinned (stat (by simp) fr7) (T.obj _ _ st7)
   have again:∀ {σ8:St} {H8:Hp} {s8:Shared},(∃ l:St,l.length=xs.length∧σ8=l++σ)→Inv Y ([]++a4F fp s7.heap) σ8 H8 s8→N H8→∃ m,m < n∧∃ i H',Inv Y [] (List.replicate xs.length none++σ) H' s8∧tn i s8.heap∧(∀ b∈fp,H' b=none)∧W i m H':=fun {σ8 H8 s8} l8 I8 n8=>by
    obtain ⟨m',hm,w8⟩:=hN H8 n8
    obtain ⟨l,ll,rfl⟩:=l8
    have pin8:∀ b∈fp,∀ o,s7.heap.get? b=some o→s8.heap.get? b=some o∧H8 b=none:=fun b hb o e=>by
     have z:=I8.pin (b,o) (List.mem_append_right _ (List.mem_append_right _ (a1I hb e)))
     exact ⟨z.1,z.2.1⟩
    refine ⟨m',hm,i+1,H8,I8.unpinned.weak (by simp [ll]) (fun j v e=>?_),T.keep _ _ _ st7 fun b hb o e=>(pin8 b hb o e).1,fun b hb=>?_,w8⟩
    ·by_cases hj:j < xs.length
     ·rw [List.getElem?_append_left (by simpa using hj),List.getElem?_replicate] at e
      split at e <;> cases e
     ·rw [List.getElem?_append_right (by simpa using hj)] at e
      rw [List.getElem?_append_right (by omega),ll]
      simpa using e
    ·obtain ⟨o,e,_⟩:=T.obj _ _ st7 b hb
     exact (pin8 b hb o e).2
   refine thn (hG _ s7 (List.replicate xs.length none++σ) H7 x7 u _ I7' r7 (hg _ _ _ _ (step x7 H7 y7))) fun _ s8 ⟨σ8,H8,I8,l8,q8⟩=>?_
   refine thn (hT _ s8 σ8 H8 _ I8 q8) fun ok s9 ⟨H9,I9,q9⟩=>?_
   cases ok with
   | false=>exact again l8 I9 q9
   | true =>
    refine thn (hE _ s9 σ8 H9 _ I9 q9) fun y s10 ⟨y10,H10,I10,r10,ys,hd,hl,n10⟩=>?_
    refine thn (a1A _ s10 σ8 H10 (.ref s2.heap.objs.size) [y10] (.ref s2.heap.objs.size) [y] (fun _ H'=>N H') I10 rfl (.cons r10 .nil) ⟨_,ys,y10,rfl,rfl,hd,hl,n10⟩) fun _ s11 ⟨_,H11,I11,_,n11⟩=>?_
    exact again l8 I11 n11
 refine codeAny_compStart_list (loop _) (T.self _ 0 _ _ _ st4 (loop _))
theorem b0R {X:Cx} {elt tg iter:Expr} {cs:List Expr} {scope:Scope} {pos:Pos} {wi:TI} {g:TG} {tc:TT} {te:TE} {xs M:List Str} (hc:X.calm=true) (S:a0o scope X.env X.N M) (hi:PI X tg iter wi)
  (hin:∀ (cl:List (Str × Addr)) (C:Addr) (s0:Shared) (H0:Hp) (fp:List Addr),PG (cxC X scope cl C s0 H0 fp (xs++M)) tg g∧PTs (cxC X scope cl C s0 H0 fp (xs++M)) cs tc∧PE (cxC X scope cl C s0 H0 fp (xs++M)) elt te)
  (hg:∀ v σ H Q,g v (List.replicate xs.length none++σ) H Q→g v (List.replicate xs.length none++σ) H fun σ2 H2=>(∃ l:St,l.length=xs.length∧σ2=l++σ)∧Q σ2 H2)
  (hs:∀ x,foldedSetIterable iter X.env x=pure x:=by intro _;rfl):PE X (.ListComp elt [⟨tg,iter,cs,0⟩] scope pos) (a7E xs.length wi g tc te):=by
 intro pins s σ H Q I h
 rw [eval_ListComp]
 exact a5S (use:=none) hc S hi (fun cl C s0 H0 fp _ _ _=>hin cl C s0 H0 fp) hg hs pins s σ H Q I h fun d C s6 H6 m q I6 hn gn=>⟨m,hn,fun h' hs'=>⟨.ref d,H6,I6.gone gn hs',rfl,q⟩⟩
theorem b0S {X:Cx} {elt tg iter:Expr} {cs:List Expr} {scope:Scope} {pos pos' spos:Pos} {wi:TI} {g:TG} {tc:TT} {te:TE} {xs M:List Str} {i:Nat} {x:Str} (hc:X.calm=true) (S:a0o scope X.env X.N M) (hi:PI X tg iter wi)
  (hin:∀ (cl:List (Str × Addr)) (C:Addr) (s0:Shared) (H0:Hp) (fp:List Addr),PG (cxC X scope cl C s0 H0 fp (xs++M)) tg g∧PTs (cxC X scope cl C s0 H0 fp (xs++M)) cs tc∧PE (cxC X scope cl C s0 H0 fp (xs++M)) elt te)
  (hg:∀ v σ H Q,g v (List.replicate xs.length none++σ) H Q→g v (List.replicate xs.length none++σ) H fun σ2 H2=>(∃ l:St,l.length=xs.length∧σ2=l++σ)∧Q σ2 H2)
  (hN:X.N.Nodup) (hix:X.N[i]?=some x) (hx:X.env.scope.names.lookup x=some .local) (hw:swapsWith (.ListComp elt [⟨tg,iter,cs,0⟩] scope pos) (some (.Name x pos')) spos.line X.env=pure true)
  (hs:∀ x,foldedSetIterable iter X.env x=pure x:=by intro _;rfl):PS X (.Assign [.Name x pos'] (.ListComp elt [⟨tg,iter,cs,0⟩] scope pos) spos) (tAsg (a7E xs.length wi g tc te) (a2C i)):=by
 intro pins s σ H D I h
 rw [exec_Assign_Name_used _ _ _ _ hw]
 refine wpAny_bind (wpAny_standAt (wpAny_bind ?_))
 show wpAny _ X.A (comprehension (.ListComp elt [⟨tg,iter,cs,0⟩] scope pos) scope X.env _ (newList []) false (eval iter X.env) (some (assign (.Name x pos') X.env)) >>= fun _=>pure ()) _ _ s
 refine wpAny_bind (thn (a5S (use:=some (assign (.Name x pos') X.env)) (RR:=fun _ s'=>SP X pins D .next s') hc S hi (fun cl C s0 H0 fp _ _ _=>hin cl C s0 H0 fp) hg hs pins s σ H _ I h fun d C s6 H6 m q I6 hn gn=>?_) fun _ s' hq=>wpAny_pure (wpAny_pure hq))
 show wpAny _ X.A (assign (.Name x pos') X.env (.ref d)) _ _ s6
 refine wpAny_assign_Name (a4B I6 hN hix (.inl hx) (v:=.ref d) rfl (fun s7 I7 ch=>?_) (.inr hx))
 obtain ⟨a,hsb,ha⟩:=ch
 have ne:C≠a:=by
  rcases ha with z | z
  ·rw [z];exact gn.ne
  ·exact fun z'=>gn.cl x a z z'.symm
 exact ⟨m,hn.sameBut hsb ne,fun h' hs'=>⟨_,H6,I7.gone gn hs',q⟩⟩
structure EqK {α:Type} [DecidableEq α] (H:Hp) (s:Shared) (n:Nat) (R:V→α→Prop):Prop where
 inj:∀ x a b,R x a→R x b→a=b
 eq:∀ (A:Around) (x y:V) (a b:α) (u v:Value),A.units+n < cLine→R x a→R y b→a0U x u→a0U y v→SeqAt.EqAt A s u v (decide (a=b))
def a6D (x:V) (i:Int):Prop:=x=.int i
def b0T {α:Type} (H:Hp) (R:V→α→Prop) (x:V) (ds:List α):Prop:=∃ a xs,x=.ref a∧H a=some (.tup xs)∧Paired R xs ds
theorem a9X {α:Type} [DecidableEq α]:∀ (as bs:List α) (e:Nat→Bool),(∀ j x y,as[j]?=some x→bs[j]?=some y→e j=decide (x=y)) →
  ((List.range (min as.length bs.length)).all e && as.length == bs.length)=decide (as=bs):=by
 intro as bs e h
 rw [Bool.eq_iff_iff]
 simp only [Bool.and_eq_true,List.all_eq_true,List.mem_range,beq_iff_eq,decide_eq_true_eq]
 constructor
 ·rintro ⟨h1,h2⟩
  refine List.ext_getElem? fun j=>?_
  by_cases hj:j < as.length
  ·have e1:as[j]?=some as[j]:=List.getElem?_eq_getElem hj
   have e2:bs[j]?=some (bs[j]'(by omega)):=List.getElem?_eq_getElem (by omega)
   have q:=h1 j (by omega)
   rw [h j _ _ e1 e2] at q
   rw [e1,e2,of_decide_eq_true q]
  ·rw [List.getElem?_eq_none (by omega),List.getElem?_eq_none (by omega)]
 ·rintro rfl
  refine ⟨fun j hj=>?_,rfl⟩
  have hj:j < as.length:=by omega
  have e1:as[j]?=some as[j]:=List.getElem?_eq_getElem hj
  rw [h j _ _ e1 e1]
  simp
theorem Paired.right_of {α β:Type} {R:α→β→Prop}:∀ {xs:List α} {ds:List β},Paired R xs ds→∀ (j:Nat) (x:α),xs[j]?=some x→∃ d,ds[j]?=some d∧R x d
 | _,_,.nil,j,x,e=>by simp at e
 | _,_,.cons r t,0,x,e=>by simp at e;subst e;exact ⟨_,rfl,r⟩
 | _,_,.cons r t,j+1,x,e=>by
  obtain ⟨d,e1,e2⟩:=Paired.right_of t j x (by simpa using e)
  exact ⟨d,by simpa using e1,e2⟩
theorem Paired.ints:∀ ns:List Int,Paired a6D (ns.map V.int) ns
 | []=>.nil
 | n :: ns=>.cons rfl (Paired.ints ns)
theorem a2s {H:Hp} {a:Addr} {ns:List Int} (h:H a=some (.tup (ns.map V.int))):b0T H a6D (.ref a) ns:=⟨a,_,rfl,h,Paired.ints ns⟩
section
variable {α:Type} [DecidableEq α] {P:Program} {w:World} {H:Hp} {s:Shared} {n:Nat} {R:V→α→Prop} {A:Around}
theorem EqK.int:EqK H s n a6D:=⟨fun x a b h1 h2=>by unfold a6D at *;rw [h1] at h2;cases h2;rfl,fun A x y a b u v _ h1 h2 r1 r2=>by
 unfold a6D at *
 subst h1 h2
 obtain ⟨t,rfl⟩:=r1
 obtain ⟨t',rfl⟩:=r2
 have q:=SeqAt.EqAt.int_int (A:=A) (s:=s) a t b t'
 rw [Bool.beq_eq_decide_eq] at q
 exact q⟩
theorem a9e (K:EqK H s n R) {xs ys:List V} {ds es:List α} {its its2:List Value} (p1:Paired R xs ds) (p2:Paired R ys es) (v1:a0A xs its) (v2:a0A ys its2) (hA:A.units+n < cLine) :
  ∃ e:Nat→Bool,(∀ j (h1:j < its.toArray.size) (h2:j < its2.toArray.size),SeqAt.EqAt A s its.toArray[j] its2.toArray[j] (e j))∧((List.range (min its.toArray.size its2.toArray.size)).all e && its.toArray.size == its2.toArray.size)=decide (ds=es):=by
 have l1:its.toArray.size=ds.length:=by rw [List.size_toArray,←v1.length];exact p1.length
 have l2:its2.toArray.size=es.length:=by rw [List.size_toArray,←v2.length];exact p2.length
 refine ⟨fun j=>match ds[j]?,es[j]? with | some d,some e=>decide (d=e) | _,_=>true,fun j h1 h2=>?_,?_⟩
 ·have hx:xs[j]?=some (xs[j]'(by rw [v1.length];simpa using h1)):=List.getElem?_eq_getElem _
  have hy:ys[j]?=some (ys[j]'(by rw [v2.length];simpa using h2)):=List.getElem?_eq_getElem _
  obtain ⟨d,e1,r1⟩:=Paired.right_of p1 j _ hx
  obtain ⟨e,e2,r2⟩:=Paired.right_of p2 j _ hy
  obtain ⟨u,e3,r3⟩:=v1.get hx
  obtain ⟨v,e4,r4⟩:=v2.get hy
  have q3:its.toArray[j]=u:=by
   have:=(List.getElem?_eq_some_iff.mp e3).2
   simpa using this
  have q4:its2.toArray[j]=v:=by
   have:=(List.getElem?_eq_some_iff.mp e4).2
   simpa using this
  simp only [e1,e2,q3,q4]
  exact K.eq A _ _ d e u v hA r1 r2 r3 r4
 ·rw [l1,l2]
  exact a9X ds es _ fun j x y h1 h2=>by simp only [h1,h2]
theorem a1E {h:Heap} {a:Addr} {its:List Value} {k:Nat} (e:h.get? a=some { cls:=.type "list",data:=.seq its.toArray k }):h.IsList a its.toArray:=⟨_,e,rfl,_,rfl⟩
theorem a7F (K:EqK H s n R) (ok:HOk P w H s.heap) {a b:Addr} {xs ys:List V} {ds es:List α} (ha:H a=some (.lst xs)) (hb:H b=some (.lst ys)) (p1:Paired R xs ds) (p2:Paired R ys es) (hA:A.units+(n+1) < cLine) :
  SeqAt.RcAt A s (.ref a) (.ref b) (decide (ds=es)):=by
 obtain ⟨_,its,k1,v1,t1⟩:=ok a _ ha
 obtain ⟨_,its2,k2,v2,t2⟩:=ok b _ hb
 obtain ⟨e,h1,h2⟩:=a9e (A:=A.in1) K p1 p2 v1 v2 (by show A.units+1+n < cLine;omega)
 by_cases hz:its.toArray.size=its2.toArray.size
 ·have q:=SeqAt.RcAt.lists (a1E t1) (a1E t2) hz (show A.units < cLine by omega) h1
  have z:(List.range its.toArray.size).all e=decide (ds=es):=by
   rw [←h2,←hz]
   simp
  rw [z] at q
  exact q
 ·have q:=SeqAt.RcAt.lists_lengths (A:=A) (a1E t1) (a1E t2) (by simpa using hz) (show A.units < cLine by omega)
  have z:false=decide (ds=es):=by
   rw [←h2]
   have:(its.toArray.size == its2.toArray.size)=false:=by simpa using hz
   rw [this,Bool.and_false]
  rw [z] at q
  exact q
end
section
variable {X:Cx} {α:Type} [DecidableEq α]
end
def rIsi (K:PySem.W.Frag):List V→Hp→VK→Prop:=fun xs H Q=>∃ x t T b,xs=[x,.ty T]∧a6v K H x t∧PySem.W.kitOne K t (.type T)=some b∧Q (.bl b) H
theorem a9f {X:Cx}:a2g X (.builtin "isinstance") (rIsi X.K):=by
 intro pins s σ H xs us Q I r h
 obtain ⟨x,t,T,b,rfl,ty,e,q⟩:=h
 obtain ⟨u,v,rfl,r1,r2⟩:=r.two
 cases r2
 exact a7s I r1 ty e fun tk=>⟨.bl b,H,I.tok tk,rfl,q⟩
def rSlG:V→Option Int→Option Int→Hp→VK→Prop:=fun x lo hi H Q=>∃ a xs,x=.ref a∧H a=some (.tup xs)∧∀ p H',a0y H H'→H' p=some (.tup (a2G xs lo hi))→Q (.ref p) H'
theorem a9Y {n:Nat} {α:Type} (xs:List α) (lo hi:Option Int) (h1:HT.sIx xs.length 0 lo=0) (h2:HT.sIx xs.length xs.length hi=xs.length):(xs.drop (HT.sIx xs.length 0 lo)).take (HT.sIx xs.length xs.length hi - HT.sIx xs.length 0 lo)=xs:=by
 rw [h1,h2];simp
theorem a0c {H:Hp} {p:Addr} (h:H p=none) (o:HO):a0y H (upd H p o):=fun b u q=>by rw [a0r (a0H q h)];exact q
theorem a3q {prog:Program} {w:World} {A:Around} {E:Value→Shared→Prop} {s:Shared} {t sl:Addr} {items:Array Value} {vl vu:Value} {lo hi:Option Int} {Q:Value→Shared→Prop} (ht:IsTup s.heap t items) (hs:s.heap.IsSliceOf sl vl vu .none) (pl:IsPart vl lo) (pu:IsPart vu hi)
  (h1:HT.sIx items.size 0 lo=0) (h2:HT.sIx items.size items.size hi=items.size) (h:Q (.ref t) s):wpAny (model prog w) A (getItem (.ref t) (.ref sl)) Q E s:=by
 obtain ⟨os,hos,hcs,hds⟩:=id hs
 have hTs:s.TypeIs (.ref sl) "slice":=⟨os,hos,hcs⟩
 unfold getItem
 try with_reducible refine wpAny_holding ?_
 first | refine wpAny_bind (wpAny_pure ?_) | skip
 refine wpAny_bind (wpAny_sequenceKey ht.typeIs (by decide) ?_)
 refine wpAny_bind (wpAny_callSpecial?_slot (name:=Str.ofString "__getitem__") ht.typeIs PyProof.Rows.slot_tuple_getitem
  (wpAny_call_entry PyProof.Rows.slot_tuple_getitem ht.typeIs entry_tuple_getitem ?_ (args_tuple_getitem _ _)))
 show wpAny _ _ (Builtin.Tuple.tupleItemsOf (.ref t) >>= _) _ _ s
 refine wpAny_bind (tupleItemsOf_ ht ?_)
 refine wpAny_bind (wpAny_typeOf hTs ?_)
 rw [if_pos (by decide)]
 refine wpAny_bind (HT.a1U hs pl pu ?_)
 rw [h1,h2]
 show wpAny _ _ (if (((0:Nat):Int) == 0 && (1:Int) == 1 && (items.size - 0) == items.size)=true then _ else _) _ _ s
 rw [if_pos (by simp)]
 unfold Builtin.Tuple.tupleIsExact
 refine wpAny_bind (wpAny_bind (wpAny_typeOf ht.typeIs (wpAny_pure ?_)))
 rw [if_pos (by decide)]
 first
  | exact wpAny_bind (wpAny_rule (wpAny_bind (wpAny_pure (wpAny_pure ⟨_,rfl,wpAny_pure h⟩))))
  | exact wpAny_bind (wpAny_rule (wpAny_pure ⟨_,rfl,wpAny_pure h⟩))
  | exact wpAny_bind (wpAny_bind (wpAny_rule (wpAny_pure ⟨_,rfl,wpAny_pure h⟩)))
theorem b0U {X:Cx}:SlR X rSlG:=by
 intro pins s σ H x v vl vu lo hi sl Q I rx hs pl pu h
 obtain ⟨a,xs,rfl,hx,q⟩:=h
 by_cases hw:HT.sIx xs.length 0 lo=0∧HT.sIx xs.length xs.length hi=xs.length
 ·cases rx
  obtain ⟨hz,its,r,ht⟩:=I.hok a _ hx
  have hlen:its.toArray.size=xs.length:=by rw [List.size_toArray];exact r.length.symm
  refine ⟨"tuple",_,PyProof.Rows.slot_tuple_getitem.lookup,(a3X.is ht).typeIs,?_⟩
  refine a3q (a3X.is ht) hs pl pu (by rw [hlen];exact hw.1) (by rw [hlen];exact hw.2) ⟨.ref a,H,I,rfl,q a H (a0y.refl H) ?_⟩
  unfold a2G
  rw [a9Y (n:=0) xs lo hi hw.1 hw.2]
  exact hx
 ·exact a7w pins s σ H (.ref a) v vl vu lo hi sl Q I rx hs pl pu ⟨a,xs,rfl,.inl (.inl hx),hw,fun p hp=>q p _ (a0c hp _) a0b⟩
def rCatG:R2:=fun x y H Q=>∃ a b xs ys,x=.ref a∧y=.ref b∧H a=some (.tup xs)∧H b=some (.tup ys)∧xs.length+ys.length≤sizeLine∧∀ p H',a0y H H'→H' p=some (.tup (xs++ys))→Q (.ref p) H'
theorem b0V {X:Cx}:OpR X (binaryOp .Add) rCatG:=by
 intro pins s σ H x y v u Q I rx ry h
 obtain ⟨a,b,xs,ys,rfl,rfl,ha,hb,hz,q⟩:=h
 by_cases hx:xs=[]
 ·subst hx
  cases rx;cases ry
  obtain ⟨_,its,r1,p1⟩:=I.hok a _ ha
  obtain ⟨_,its2,r2,p2⟩:=I.hok b _ hb
  have e0:its=[]:=r1.nil_iff.mpr rfl
  subst e0
  obtain ⟨⟨cls,dd,data,sl⟩,ho,hc,n,hd⟩:=id (a3X.is p1)
  obtain ⟨⟨cls2,dd2,data2,sl2⟩,ho2,hc2,n2,hd2⟩:=id (a3X.is p2)
  simp only at hc hd hc2 hd2
  subst hc hd hc2 hd2
  exact concat_meets ⟨_,ho,rfl⟩ ⟨_,ho2,rfl⟩ noFill_tuple_add seq_tuple_add PySem.F.slot_tuple_add PySem.F.entry_tuple_add (PySem.F.args_tuple_add_2 _ _)
   (tuple_addW0 a b ([]:List Value).toArray its2.toArray n n2 dd dd2 sl sl2 (by simp)) ⟨ho,ho2,⟨.ref b,H,I,rfl,q b H (a0y.refl H) (by simpa using hb)⟩⟩
 ·exact a7x pins s σ H (.ref a) (.ref b) v u Q I rx ry ⟨a,b,xs,ys,rfl,rfl,.inl (.inl ha),.inl (.inl hb),hx,hz,fun z=>q a H (a0y.refl H) (by rw [z,List.append_nil];exact ha),fun _ p hp=>q p _ (a0c hp _) a0b⟩
def rAll:List V→Hp→VK→Prop:=fun xs H Q=>∃ (a:Addr) (bs:List Bool),xs=[.ref a]∧H a=some (.lst (bs.map V.bl))∧Q (.bl (bs.all id)) H
theorem a9g:∀ {bs:List Bool} {us:List Value},a0A (bs.map V.bl) us→us=bs.map Value.bool:=by
 intro bs
 induction bs with
 | nil=>intro us r;rw [List.map_nil] at r;cases r;rfl
 | cons b bs ih =>
  intro us r
  rw [List.map_cons] at r
  cases r with
  | cons r1 r2=>rw [ih r2,show _=Value.bool b from r1];rfl
theorem a7G (bs:List Bool):(List.range bs.length).all (fun i=>bs.getD i true)=bs.all id:=by
 rw [Bool.eq_iff_iff]
 simp only [List.all_eq_true,List.mem_range,id]
 constructor
 ·intro h b hb
  obtain ⟨i,hi,rfl⟩:=List.mem_iff_getElem.mp hb
  have q:=h i hi
  rwa [List.getD_eq_getElem?_getD,List.getElem?_eq_getElem hi] at q
 ·intro h i hi
  rw [List.getD_eq_getElem?_getD,List.getElem?_eq_getElem hi]
  exact h _ (List.getElem_mem hi)
theorem a2t {X:Cx} (hc:X.calm=true):a2g X (.builtin "all") rAll:=by
 intro pins s σ H xs us Q I r h
 obtain ⟨a,bs,rfl,ha,q⟩:=h
 obtain ⟨u,rfl,ru⟩:=a3m r
 cases ru
 obtain ⟨hz,its,n,v,e⟩:=I.hok a _ ha
 have ei:=a9g v
 subst ei
 refine call_all_walk (wpAny_pyIter_list (a1E e) ?_)
 have hlt:=Heap.lt_size e
 refine ⟨s.heap.objs.size,_,_,_,_,_,fun i=>bs.getD i true,rfl,Walks.list (A:=X.A.in1) (by show X.A.handled=none;exact I.ok.hd hc) s.heap.objs.size a (Nat.ne_of_lt hlt) (bs.map Value.bool).toArray,⟨⟨_,Heap.get?_push_size _ rfl,rfl,rfl⟩,a1E (Heap.get?_push_of_some _ e)⟩,?_,fun h' tk hk=>?_⟩
 ·intro i v s' Q' E' hv hq
  simp only [List.getElem?_toArray,List.getElem?_map] at hv
  cases hb:bs[i]? with
  | none=>rw [hb] at hv;cases hv
  | some b =>
   rw [hb] at hv;cases hv
   have hq':Q' (bs.getD i true) s':=hq
   rw [List.getD_eq_getElem?_getD,hb] at hq'
   exact wpAny_truthy_bool hq'
 ·have e1:(bs.map Value.bool).toArray.size=bs.length:=by simp
  rw [e1,a7G]
  exact ⟨.bl _,H,I.kept (h':=h') (t':=tk) (fun b o eo=>hk b o (by simp;exact Nat.ne_of_lt (Heap.lt_size eo)) (Heap.get?_push_of_some _ eo)),rfl,q⟩
def rSum:List V→Hp→VK→Prop:=fun xs H Q=>∃ (a:Addr) (ns:List Int),xs=[.ref a]∧H a=some (.lst (ns.map V.int))∧Q (.int ns.sum) H
theorem a6E:∀ {ns:List Int} {us:List Value},a0A (ns.map V.int) us→∀ (i:Nat) (v:Value),us[i]?=some v→∃ t,v=.int (ns.getD i 0) t:=by
 intro ns
 induction ns with
 | nil=>intro us r i v e;rw [List.map_nil] at r;cases r;simp at e
 | cons n ns ih =>
  intro us r i v e
  rw [List.map_cons] at r
  cases r with
  | cons r1 r2 =>
   cases i with
   | zero =>
    simp at e;subst e
    obtain ⟨t,z⟩:=r1
    exact ⟨t,by rw [z];simp⟩
   | succ i =>
    obtain ⟨t,z⟩:=ih r2 i v (by simpa using e)
    exact ⟨t,by rw [z];simp⟩
theorem a5T {X:Cx} (hc:X.calm=true):a2g X (.builtin "sum") rSum:=by
 intro pins s σ H xs us Q I r h
 obtain ⟨a,ns,rfl,ha,q⟩:=h
 obtain ⟨u,rfl,ru⟩:=a3m r
 cases ru
 obtain ⟨hz,its,n,v,e⟩:=I.hok a _ ha
 refine call_sum_walkAnyS (wpAny_pyIter_list (a1E e) ?_)
 have hlt:=Heap.lt_size e
 refine ⟨s.heap.objs.size,_,_,_,_,_,_,fun i=>ns.getD i 0,rfl,(Walks.list (A:=X.A.in1) (by show X.A.handled=none;exact I.ok.hd hc) s.heap.objs.size a (Nat.ne_of_lt hlt) its.toArray).toS,⟨⟨_,Heap.get?_push_size _ rfl,rfl,rfl⟩,a1E (Heap.get?_push_of_some _ e)⟩,?_,?_,fun s' t' mv=>?_⟩
 ·intro b hb
  have hp:(s.heap.push { cls:=.type "list_iterator",data:=.fields #[.ref a,rawInt 0] }).objs.size=s.heap.objs.size+1:=Heap.size_push _ _
  rcases List.mem_cons.mp hb with z | z
  ·subst z
   exact Heap.lt_size (Heap.get?_push_size _ rfl)
  ·have z':b=a:=by simpa using z
   subst z'
   exact Heap.lt_size (Heap.get?_push_of_some _ e)
 ·intro i v' hv
  exact a6E v i v' (by simpa using hv)
 ·have e1:its.toArray.size=ns.length:=by
   have:=v.length
   rw [List.length_map] at this
   simpa using this.symm
  rw [e1,preSum_getD]
  have e2:ns.take ns.length=ns:=List.take_length
  rw [e2]
  have k:∀ b o,s.heap.get? b=some o→s'.heap.get? b=some o:=fun b o eo=>mv.heap b o (by simp;exact Nat.ne_of_lt (Heap.lt_size eo)) (Heap.get?_push_of_some _ eo)
  obtain ⟨h',g',d',tk',os'⟩:=s'
  have z1:g'=s.gens:=mv.gens
  have z2:d'=s.drawn:=mv.drawn
  have z3:os'=s.os:=mv.os
  subst z1 z2 z3
  exact ⟨.int _,H,I.kept (h':=h') (t':=tk') k,⟨t',rfl⟩,q⟩
theorem a1j (scope:Scope) (en:Env) (y:Str):(relabel scope en).names.lookup y=(scope.names.lookup y).map fun k=>if (k == NameKind.free && en.scope.kind == .function && en.kindOf y == some .cell)=true then .cell else k:=by
 show List.lookup y (scope.names.map fun (n,k)=>if (k == NameKind.free && en.scope.kind == .function && en.kindOf n == some .cell)=true then (n,NameKind.cell) else (n,k))=_
 generalize scope.names=l
 induction l with
 | nil=>rfl
 | cons p r ih =>
  obtain ⟨n,k⟩:=p
  rw [List.map_cons]
  by_cases hy:y=n
  ·subst hy
   show List.lookup y ((if (k == NameKind.free && en.scope.kind == .function && en.kindOf y == some .cell)=true then (y,NameKind.cell) else (y,k)) :: _)=_
   by_cases hc:(k == NameKind.free && en.scope.kind == .function && en.kindOf y == some .cell)=true
   ·rw [if_pos hc,List.lookup_cons,List.lookup_cons,beq_self_eq_true]
    show some NameKind.cell=some (if _ then _ else _)
    rw [if_pos hc]
   ·rw [if_neg hc,List.lookup_cons,List.lookup_cons,beq_self_eq_true]
    show some k=some (if _ then _ else _)
    rw [if_neg hc]
  ·have hb:(y == n)=false:=by simpa using hy
   show List.lookup y ((if (k == NameKind.free && en.scope.kind == .function && en.kindOf n == some .cell)=true then (n,NameKind.cell) else (n,k)) :: _)=_
   by_cases hc:(k == NameKind.free && en.scope.kind == .function && en.kindOf n == some .cell)=true
   ·rw [if_pos hc,List.lookup_cons,List.lookup_cons,hb];exact ih
   ·rw [if_neg hc,List.lookup_cons,List.lookup_cons,hb];exact ih
def a7H (scope:Scope) (p:Str × Str):Bool:=match scope.names.lookup p.1 with
 | none=>true
 | some .free=>p.1 == p.2
 | some .local=>false
 | some .cell=>false
 | some _=>true
theorem a0o.of' {scope:Scope} {en:Env} {N M:List Str} (sc:Scope) (N₀:List Str) (hsc:en.scope=sc) (hN:N=N₀) (kind:scope.kind=.function) (nocell:∀ y∈scope.names,y.2≠.cell) (locs:∀ y∈scope.names,y.2=.local→scope.names.lookup y.1=some .local)
  (free:∀ y∈scope.names,y.2=.free→sc.names.lookup y.1=some .cell∨sc.names.lookup y.1=some .free) (len:M.length=N₀.length) (same:((M.zip N₀).all (a7H scope))=true):a0o scope en N M:=by
 subst hsc hN
 refine ⟨kind,nocell,locs,fun y hy=>free _ hy rfl,len,fun j y e v=>?_,fun y h=>?_⟩
 ·have hj:j < N.length:=by rw [←len];exact (List.getElem?_eq_some_iff.mp e).1
  have e2:N[j]?=some N[j]:=List.getElem?_eq_getElem hj
  have hm:(y,N[j])∈M.zip N:=by
   refine List.mem_iff_getElem?.mpr ⟨j,?_⟩
   rw [List.getElem?_zip_eq_some]
   exact ⟨e,e2⟩
  have q:=List.all_eq_true.mp same _ hm
  unfold a7H at q
  unfold Vis at v
  rw [a1j] at v ⊢
  cases hl:scope.names.lookup y with
  | none=>rw [hl] at v;simp at v
  | some k =>
   rw [hl] at v q
   simp only [Option.map_some] at v ⊢
   cases k with
   | free =>
    have z:y=N[j]:=by simpa using q
    refine ⟨by rw [e2,←z],PySem.mem_of_lookup hl,?_⟩
    split <;> simp
   | «local»=>simp at q
   | cell=>simp at q
   | _=>simp at v
 ·rw [a1j] at h
  cases hl:scope.names.lookup y with
  | none=>rw [hl] at h;simp at h
  | some k =>
   rw [hl] at h
   have hm:=PySem.mem_of_lookup hl
   simp only [Option.map_some] at h
   cases k with
   | free=>exact hm
   | cell=>exact absurd rfl (nocell _ hm)
   | _=>simp at h
theorem a0o.of {scope:Scope} {en:Env} {N M:List Str} (sc:Scope) (N₀:List Str) (hsc:en.scope=sc) (hN:N=N₀) (kind:scope.kind=.function) (nocell:∀ y∈scope.names,y.2≠.cell) (locs:∀ y∈scope.names,y.2=.local→scope.names.lookup y.1=some .local)
  (free:∀ y∈scope.names,y.2=.free→sc.names.lookup y.1=some .cell∨sc.names.lookup y.1=some .free) (len:M.length=N₀.length) (same:((M.zip N₀).all (a7H scope))=true):a0o scope en N M:=a0o.of' sc N₀ hsc hN kind nocell locs free len same
theorem a9Z {v:V} {σ:St} {H:Hp} {Q:St→Hp→Prop} (h:a2C 0 v (List.replicate 1 none++σ) H Q):a2C 0 v (List.replicate 1 none++σ) H fun σ2 H2=>(∃ l:St,l.length=1∧σ2=l++σ)∧Q σ2 H2 :=
 ⟨⟨[some v],rfl,rfl⟩,h⟩
theorem a6F {lo:Int} {n:Nat} {k:Nat} {g:TG} {tc:TT} {te:TE} {σ:St} {H:Hp} {Q:VK} {d:Addr} (Pv:Nat→Hp→Prop) (h0:Pv 0 (upd H d (.lst [])))
  (hs:∀ i H,i < n→Pv i H→g (.int (lo+i)) (List.replicate k none++σ) H fun σ2 H2=>tc σ2 H2 fun b H3=>if b=true then te σ2 H3 fun y H4=>∃ ys,H4 d=some (.lst ys)∧ys.length < sizeLine∧Pv (i+1) (upd H4 d (.lst (ys++[y]))) else Pv (i+1) H3)
  (hd:∀ H,Pv n H→Q (.ref d) H) :
  ∃ W:Nat→Nat→Hp→Prop,(∃ m,W 0 m (upd H d (.lst [])))∧∀ i m H,W i m H →
   ((Itr lo n).stop i H∧Q (.ref d) H)∨((Itr lo n).go i H∧∃ N:Hp→Prop,(∀ H',N H'→∃ m',m' < m∧W (i+1) m' H')∧∀ x H',(Itr lo n).yld i H x H'→g x (List.replicate k none++σ) H' fun σ2 H2 =>
    tc σ2 H2 fun b H3=>if b=true then te σ2 H3 fun y H4=>∃ ys,H4 d=some (.lst ys)∧ys.length < sizeLine∧N (upd H4 d (.lst (ys++[y]))) else N H3):=by
 refine ⟨fun i m H=>m=n - i∧i≤n∧Pv i H,⟨n,by simp,Nat.zero_le _,h0⟩,?_⟩
 rintro i m H ⟨rfl,hi,p⟩
 by_cases hlt:i < n
 ·refine .inr ⟨hlt,Pv (i+1),fun H' p'=>⟨n - (i+1),by omega,rfl,hlt,p'⟩,fun x H' y=>?_⟩
  obtain ⟨e,y⟩:=y
  subst e y
  exact hs i _ hlt p
 ·have e:i=n:=by omega
  subst e
  exact .inl ⟨Nat.le_refl _,hd H p⟩
theorem a9h {K:PySem.W.Frag} {a:Addr} {xs:List V} {k:Nat} {g:TG} {tc:TT} {te:TE} {σ:St} {H:Hp} {Q:VK} {d:Addr} (Pv:Nat→Hp→Prop) (h0:Pv 0 (upd H d (.lst []))) (hl:∀ i H,i≤xs.length→Pv i H→SqT K H a xs)
  (hs:∀ i x H,xs[i]?=some x→Pv i H→g x (List.replicate k none++σ) H fun σ2 H2=>tc σ2 H2 fun b H3=>if b=true then te σ2 H3 fun y H4=>∃ ys,H4 d=some (.lst ys)∧ys.length < sizeLine∧Pv (i+1) (upd H4 d (.lst (ys++[y]))) else Pv (i+1) H3)
  (hd:∀ H,Pv xs.length H→Q (.ref d) H) :
  ∃ W:Nat→Nat→Hp→Prop,(∃ m,W 0 m (upd H d (.lst [])))∧∀ i m H,W i m H →
   ((Itt K a).stop i H∧Q (.ref d) H)∨((Itt K a).go i H∧∃ N:Hp→Prop,(∀ H',N H'→∃ m',m' < m∧W (i+1) m' H')∧∀ x H',(Itt K a).yld i H x H'→g x (List.replicate k none++σ) H' fun σ2 H2 =>
    tc σ2 H2 fun b H3=>if b=true then te σ2 H3 fun y H4=>∃ ys,H4 d=some (.lst ys)∧ys.length < sizeLine∧N (upd H4 d (.lst (ys++[y]))) else N H3):=by
 refine ⟨fun i m H=>m=xs.length - i∧i≤xs.length∧Pv i H,⟨xs.length,by simp,Nat.zero_le _,h0⟩,?_⟩
 rintro i m H ⟨rfl,hi,p⟩
 have q:=hl i H hi p
 by_cases hlt:i < xs.length
 ·refine .inr ⟨⟨xs,xs[i],q,by simp [hlt]⟩,Pv (i+1),fun H' p'=>⟨xs.length - (i+1),by omega,rfl,hlt,p'⟩,fun x H' y=>?_⟩
  obtain ⟨e,y⟩:=y
  subst e
  exact hs i x _ (y xs q) p
 ·have e:i=xs.length:=by omega
  subst e
  exact .inl ⟨⟨xs,q,Nat.le_refl _⟩,hd H p⟩
theorem a4P {K:PySem.W.Frag} {a:Addr} {xs:List V} {k:Nat} {g:TG} {tc:TT} {te:TE} {σ:St} {H:Hp} {Q:VK} {d:Addr} (Pv:Nat→Hp→Prop) (h0:Pv 0 (upd H d (.lst []))) (hl:∀ i H,i≤xs.length→Pv i H→SqL K H a xs)
  (hs:∀ i x H,xs[i]?=some x→Pv i H→g x (List.replicate k none++σ) H fun σ2 H2=>tc σ2 H2 fun b H3=>if b=true then te σ2 H3 fun y H4=>∃ ys,H4 d=some (.lst ys)∧ys.length < sizeLine∧Pv (i+1) (upd H4 d (.lst (ys++[y]))) else Pv (i+1) H3)
  (hd:∀ H,Pv xs.length H→Q (.ref d) H) :
  ∃ W:Nat→Nat→Hp→Prop,(∃ m,W 0 m (upd H d (.lst [])))∧∀ i m H,W i m H →
   ((Itl K a).stop i H∧Q (.ref d) H)∨((Itl K a).go i H∧∃ N:Hp→Prop,(∀ H',N H'→∃ m',m' < m∧W (i+1) m' H')∧∀ x H',(Itl K a).yld i H x H'→g x (List.replicate k none++σ) H' fun σ2 H2 =>
    tc σ2 H2 fun b H3=>if b=true then te σ2 H3 fun y H4=>∃ ys,H4 d=some (.lst ys)∧ys.length < sizeLine∧N (upd H4 d (.lst (ys++[y]))) else N H3):=by
 refine ⟨fun i m H=>m=xs.length - i∧i≤xs.length∧Pv i H,⟨xs.length,by simp,Nat.zero_le _,h0⟩,?_⟩
 rintro i m H ⟨rfl,hi,p⟩
 have q:=hl i H hi p
 by_cases hlt:i < xs.length
 ·refine .inr ⟨⟨xs,xs[i],q,by simp [hlt]⟩,Pv (i+1),fun H' p'=>⟨xs.length - (i+1),by omega,rfl,hlt,p'⟩,fun x H' y=>?_⟩
  obtain ⟨e,y⟩:=y
  subst e
  exact hs i x _ (y xs q) p
 ·have e:i=xs.length:=by omega
  subst e
  exact .inl ⟨⟨xs,q,Nat.le_refl _⟩,hd H p⟩
theorem b_isi:bootBuiltins "isinstance"=some (.builtin "isinstance"):=by decide +kernel
theorem a7I:bootBuiltins "all"=some (.builtin "all"):=by decide +kernel
theorem b_sum:bootBuiltins "sum"=some (.builtin "sum"):=by decide +kernel
theorem b_bool:bootBuiltins "bool"=some (.type "bool"):=by decide +kernel
theorem a4Q:bootBuiltins "list"=some (.type "list"):=by decide +kernel
theorem a2I:bootBuiltins "tuple"=some (.type "tuple"):=by decide +kernel
theorem a4c (K:PySem.W.Frag):PySem.W.kitOne K (.type "bool") (.type "bool")=some true:=by rfl
theorem PE.imp {X:Cx} {e:Expr} {t t':TE} (h:PE X e t) (hi:∀ σ H Q,t' σ H Q→t σ H Q):PE X e t':=fun pins s σ H Q I q=>h pins s σ H Q I (hi σ H Q q)
def a7J (tc:TT) (te:TE) (σ:St) (d:Addr) (x:V) (H:Hp) (Z:Hp→Prop):Prop :=
 tc (some x :: σ) H fun b H3=>if b=true then te (some x :: σ) H3 fun y H4=>∃ ys,H4 d=some (.lst ys)∧ys.length < sizeLine∧Z (upd H4 d (.lst (ys++[y]))) else Z H3
def b0W (ta:TA) (tc:TT) (te:TE):TE:=fun σ H Q=>ta σ H fun vs H1=>∃ j:Int,vs=[.int j]∧-(2 ^ 62)≤j∧j < 2 ^ 62∧∀ d,H1 d=none →
 ∃ Pv:Nat→Hp→Prop,Pv 0 (upd H1 d (.lst []))∧(∀ i H,i < j.toNat→Pv i H→a7J tc te σ d (.int (0+i)) H (Pv (i+1)))∧∀ H,Pv j.toNat H→Q (.ref d) H
def b0a (K:PySem.W.Frag) (tl:TE) (tc:TT) (te:TE):TE:=fun σ H Q=>tl σ H fun v H1=>∃ a xs,v=.ref a∧SqL K H1 a xs∧∀ d,H1 d=none →
 ∃ Pv:Nat→Hp→Prop,Pv 0 (upd H1 d (.lst []))∧(∀ i H,i≤xs.length→Pv i H→SqL K H a xs)∧(∀ i x H,xs[i]?=some x→Pv i H→a7J tc te σ d x H (Pv (i+1)))∧∀ H,Pv xs.length H→Q (.ref d) H
def tCompT (K:PySem.W.Frag) (tl:TE) (tc:TT) (te:TE):TE:=fun σ H Q=>tl σ H fun v H1=>∃ a xs,v=.ref a∧SqT K H1 a xs∧∀ d,H1 d=none →
 ∃ Pv:Nat→Hp→Prop,Pv 0 (upd H1 d (.lst []))∧(∀ i H,i≤xs.length→Pv i H→SqT K H a xs)∧(∀ i x H,xs[i]?=some x→Pv i H→a7J tc te σ d x H (Pv (i+1)))∧∀ H,Pv xs.length H→Q (.ref d) H
def a2W (t:TE):Prop:=∀ σ H (Q Q':VK),(∀ v H1,Q v H1→Q' v H1)→t σ H Q→t σ H Q'
def a7K (t:TA):Prop:=∀ σ H (Q Q':List V→Hp→Prop),(∀ v H1,Q v H1→Q' v H1)→t σ H Q→t σ H Q'
section
variable {X:Cx} {elt iter:Expr} {tg:Str} {tp:Pos} {cs:List Expr} {scope:Scope} {pos:Pos} {tc:TT} {te:TE} {M:List Str}
abbrev a6G (X:Cx) (scope:Scope) (tg:Str) (M:List Str) (cs:List Expr) (elt:Expr) (tc:TT) (te:TE):Prop :=
 ∀ (cl:List (Str × Addr)) (C:Addr) (s0:Shared) (H0:Hp) (fp:List Addr),PTs (cxC X scope cl C s0 H0 fp (tg :: M)) cs tc∧PE (cxC X scope cl C s0 H0 fp (tg :: M)) elt te
theorem a4d {wi:TI} {t:TE} (hc:X.calm=true) (S:a0o scope X.env X.N M) (nd:(tg :: M).Nodup) (hl:scope.names.lookup tg=some .local) (hi:PI X (.Name tg tp) iter wi) (hin:a6G X scope tg M cs elt tc te)
  (ht:∀ σ H Q,t σ H Q→a7E 1 wi (a2C 0) tc te σ H Q) (hs:∀ x,foldedSetIterable iter X.env x=pure x):PE X (.ListComp elt [⟨.Name tg tp,iter,cs,0⟩] scope pos) t:=by
 have hx:(relabel scope X.env).names.lookup tg=some .local:=by
  rw [a1j,hl]
  rfl
 exact PE.imp (b0R (xs:=[tg]) (M:=M) hc S hi (fun cl C s0 H0 fp=>⟨a0E (i:=0) nd rfl (Or.inl hx) (Or.inr hx),hin cl C s0 H0 fp⟩) (fun v σ H Q h=>a9Z h) hs) ht
theorem a1Z {a:Expr} {ta:TA} {p pos':Pos} (hc:X.calm=true) (S:a0o scope X.env X.N M) (nd:(tg :: M).Nodup) (hl:scope.names.lookup tg=some .local) (hg:Gl X "range") (hm:X.mg "range"=none) (ha:PA X [a] ta) (mo:a7K ta)
  (hin:a6G X scope tg M cs elt tc te) (hs:starEach [a] X.env=[(false,eval a X.env)]:=by rfl) (hf:∀ x,foldedSetIterable (.Call (.Name "range" p) [a] [] pos') X.env x=pure x:=by intro _;rfl) :
  PE X (.ListComp elt [⟨.Name tg tp,.Call (.Name "range" p) [a] [] pos',cs,0⟩] scope pos) (b0W ta tc te):=by
 refine a4d hc S nd hl (a3k hg hm ha hs) hin (fun σ H Q h=>?_) hf
 refine mo σ H _ _ (fun vs H1 q=>?_) h
 obtain ⟨j,e,j1,j2,q⟩:=q
 refine ⟨j,e,j1,j2,fun d hd=>?_⟩
 obtain ⟨Pv,h0,hs,hd⟩:=q d hd
 exact a6F (k:=1) (g:=a2C 0) Pv h0 hs hd
theorem a1M {tl:TE} (hc:X.calm=true) (S:a0o scope X.env X.N M) (nd:(tg :: M).Nodup) (hl:scope.names.lookup tg=some .local) (hi:PE X iter tl) (mo:a2W tl)
  (hin:a6G X scope tg M cs elt tc te) (hf:∀ x,foldedSetIterable iter X.env x=pure x:=by intro _;rfl):PE X (.ListComp elt [⟨.Name tg tp,iter,cs,0⟩] scope pos) (b0a X.K tl tc te):=by
 refine a4d hc S nd hl (a2D hi) hin (fun σ H Q h=>?_) hf
 refine mo σ H _ _ (fun v H1 q=>?_) h
 obtain ⟨a,xs,e,j1,q⟩:=q
 refine ⟨a,e,⟨xs,j1⟩,fun d hd=>?_⟩
 obtain ⟨Pv,h0,hl,hs,hd⟩:=q d hd
 exact a4P (k:=1) (g:=a2C 0) Pv h0 hl hs hd
theorem a9i {tl:TE} (hc:X.calm=true) (S:a0o scope X.env X.N M) (nd:(tg :: M).Nodup) (hl:scope.names.lookup tg=some .local) (hi:PE X iter tl) (mo:a2W tl)
  (hin:a6G X scope tg M cs elt tc te) (hf:∀ x,foldedSetIterable iter X.env x=pure x:=by intro _;rfl):PE X (.ListComp elt [⟨.Name tg tp,iter,cs,0⟩] scope pos) (tCompT X.K tl tc te):=by
 refine a4d hc S nd hl (pi_tup hi) hin (fun σ H Q h=>?_) hf
 refine mo σ H _ _ (fun v H1 q=>?_) h
 obtain ⟨a,xs,e,j1,q⟩:=q
 refine ⟨a,e,⟨xs,j1⟩,fun d hd=>?_⟩
 obtain ⟨Pv,h0,hl,hs,hd⟩:=q d hd
 exact a9h (k:=1) (g:=a2C 0) Pv h0 hl hs hd
theorem a9j {wi:TI} {t:TE} {i:Nat} {x:Str} {pos1 spos:Pos} (hc:X.calm=true) (S:a0o scope X.env X.N M) (nd:(tg :: M).Nodup) (hl:scope.names.lookup tg=some .local) (hi:PI X (.Name tg tp) iter wi) (hin:a6G X scope tg M cs elt tc te)
  (ht:∀ σ H Q,t σ H Q→a7E 1 wi (a2C 0) tc te σ H Q) (hN:X.N.Nodup) (hix:X.N[i]?=some x) (hx:X.env.scope.names.lookup x=some .local) (hw:swapsWith (.ListComp elt [⟨.Name tg tp,iter,cs,0⟩] scope pos) (some (.Name x pos1)) spos.line X.env=pure true) (hs:∀ x,foldedSetIterable iter X.env x=pure x) :
  PS X (.Assign [.Name x pos1] (.ListComp elt [⟨.Name tg tp,iter,cs,0⟩] scope pos) spos) (tAsg t (a2C i)):=by
 have hx':(relabel scope X.env).names.lookup tg=some .local:=by
  rw [a1j,hl]
  rfl
 intro pins s σ H D I h
 exact b0S (xs:=[tg]) (M:=M) hc S hi (fun cl C s0 H0 fp=>⟨a0E (i:=0) nd rfl (Or.inl hx') (Or.inr hx'),hin cl C s0 H0 fp⟩) (fun v σ H Q h=>a9Z h) hN hix hx hw hs pins s σ H D I (ht _ _ _ h)
end
theorem a0P {te:TE} {σ:St} {d:Addr} {x:V} {H:Hp} {Z:Hp→Prop} (h:te (some x :: σ) H fun y H4=>∃ ys,H4 d=some (.lst ys)∧ys.length < sizeLine∧Z (upd H4 d (.lst (ys++[y])))):a7J b0Q te σ d x H Z:=by
 unfold a7J b0Q
 exact b1G h
theorem a0S {i:Nat}:a2W (tVar i):=fun _ _ _ _ h ⟨v,e,q⟩=>⟨v,e,h _ _ q⟩
theorem a3M:a7K tNil:=fun _ _ _ _ h q=>h _ _ q
theorem a2J {te:TE} {ta:TA} (h1:a2W te) (h2:a7K ta):a7K (b0I te ta):=fun σ H Q Q' h q=>h1 σ H _ _ (fun v H1 q1=>h2 σ H1 _ _ (fun vs H2 q2=>h _ _ q2) q1) q
abbrev TW (H:Hp) (a:Addr) (ns:List Int):Prop:=H a=some (.tup (ns.map V.int))
abbrev Wd (H:Hp) (x:V) (w:List Int):Prop:=b0T H a6D x w
section
variable {α β:Type} {R:α→β→Prop}
theorem Paired.takeP:∀ {xs:List α} {ds:List β} (n:Nat),Paired R xs ds→Paired R (xs.take n) (ds.take n)
 | _,_,0,_=>by rw [List.take_zero,List.take_zero];exact .nil
 | _,_,_+1,.nil=>.nil
 | _,_,n+1,.cons r t=>.cons r (Paired.takeP n t)
theorem Paired.dropP:∀ {xs:List α} {ds:List β} (n:Nat),Paired R xs ds→Paired R (xs.drop n) (ds.drop n)
 | _,_,0,r=>r
 | _,_,_+1,.nil=>.nil
 | _,_,n+1,.cons _ t=>Paired.dropP n t
theorem Paired.appendP:∀ {xs ys:List α} {ds es:List β},Paired R xs ds→Paired R ys es→Paired R (xs++ys) (ds++es)
 | _,_,_,_,.nil,s=>s
 | _,_,_,_,.cons r t,s=>.cons r (Paired.appendP t s)
theorem Paired.eraseP:∀ {xs:List α} {ds:List β} (n:Nat),Paired R xs ds→Paired R (xs.eraseIdx n) (ds.eraseIdx n)
 | _,_,_,.nil=>.nil
 | _,_,0,.cons _ t=>t
 | _,_,n+1,.cons r t=>.cons r (Paired.eraseP n t)
theorem Paired.oneP {a:α} {b:β} (r:R a b):Paired R [a] [b]:=.cons r .nil
end
theorem a3N {ns:List Int} {k:Nat} {x:Int} (h:ns[k]?=some x):atI (ns.map V.int) (k:Int)=some (.int x):=a2H (by rw [List.getElem?_map,h];rfl)
theorem hu4 {A:Around} {k:Nat} (hr:a2E k A):A.units+4 < cLine:=by have:=hr.units;omega
theorem a4R (xs:List V) (n:Nat):a2G xs none (some (n:Int))=xs.take n:=by
 unfold a2G
 rw [HT.a5l,HT.a3Z]
 simp [List.take_eq_take_iff]
theorem a9k (xs:List V) (n:Nat):a2G xs (some (n:Int)) none=xs.drop n:=by
 unfold a2G
 rw [HT.a5l,HT.a3Z]
 by_cases h:n≤xs.length
 ·rw [Nat.min_eq_left h]
  exact List.take_of_length_le (by rw [List.length_drop];omega)
 ·rw [Nat.min_eq_right (by omega),List.drop_eq_nil_of_le (Nat.le_refl _),List.drop_eq_nil_of_le (by omega)]
  simp
theorem b0X (xs:List V) (lo hi:Option Int):∃ a b,a2G xs lo hi=(xs.drop a).take b:=⟨_,_,rfl⟩
theorem a0p {H H1:Hp} {d:Addr} {o:HO} (h:H d=none) (sm:a0y H H1):a0y H (upd H1 d o):=fun b u q=>by rw [a0r (a0H q h)];exact sm b u q
theorem a7L (ns:List Int) (lo hi:Option Int):∃ ms:List Int,a2G (ns.map V.int) lo hi=ms.map V.int∧ms.length≤ns.length:=by
 obtain ⟨a,b,e⟩:=b0X (ns.map V.int) lo hi
 exact ⟨(ns.drop a).take b,by rw [e,List.map_take,List.map_drop],by rw [List.length_take,List.length_drop];omega⟩
structure Fns (P:Program) (w:World) (K:PySem.W.Frag) (mg:Str→Option Value) (base:Heap) (ps:List Str) (name:Str) (sp:Sp) (k:Nat) where
 g:Addr
 gd:FuncData
 ok:a1X P w K mg base CX0 k g gd ps sp
 b:a5j K gd ps []
 kp:PySem.W.keepIn K (.ref g)=true
 m:mg name=some (.ref g)
def Fns.up {P:Program} {w:World} {K:PySem.W.Frag} {mg:Str→Option Value} {base:Heap} {ps:List Str} {name:Str} {sp:Sp} {j k:Nat} (f:Fns P w K mg base ps name sp j) (h:j≤k):Fns P w K mg base ps name sp k:=⟨f.g,f.gd,f.ok.mono h,f.b,f.kp,f.m⟩
def tMid (t:TS):TS:=fun D σ H=>∃ Mid:St→Hp→Prop,t { D with nx:=Mid } σ H∧∀ σ' H',Mid σ' H'→D.nx σ' H'
theorem a2U {X:Cx} {st:Stmt} {t:TS} (h:PS X st t):PS X st (tMid t):=by
 intro pins s σ H D I ⟨Mid,h1,h2⟩
 refine thn (h pins s σ H _ I h1) fun fl s' q=>?_
 cases fl with
 | next=>obtain ⟨σ',H',I',m⟩:=q;exact ⟨σ',H',I',h2 _ _ m⟩
 | brk=>exact q
 | cont=>exact q
 | ret u=>exact q
def eMid (t:TE):TE:=fun σ H Q=>∃ Mid:V→Hp→Prop,t σ H Mid∧∀ v H',Mid v H'→Q v H'
theorem a1V {X:Cx} {e:Expr} {t:TE} (h:PE X e t):PE X e (eMid t):=by
 intro pins s σ H Q I ⟨Mid,h1,h2⟩
 exact thn (h pins s σ H _ I h1) fun u s' ⟨v,H',I',r,m⟩=>⟨v,H',I',r,h2 _ _ m⟩
theorem a2a {t:TE}:a2W (eMid t):=fun σ H Q Q' h ⟨Mid,h1,h2⟩=>⟨Mid,h1,fun v H' m=>h _ _ (h2 v H' m)⟩
theorem ixL {X:Cx} (K:PySem.W.Frag) (h:X.K=K:=by rfl):IxR X (rIxL K):=by subst h;exact a1a
theorem ixT {X:Cx} (K:PySem.W.Frag) (h:X.K=K:=by rfl):IxR X (rIxT K):=by subst h;exact a1l
def rLen (K:PySem.W.Frag):List V→Hp→VK→Prop:=fun xs H Q=>∃ p ys,xs=[.ref p]∧(SqL K H p ys∨SqT K H p ys)∧Q (.int ys.length) H
theorem lenS {X:Cx} (K:PySem.W.Frag) (h:X.K=K:=by rfl):a2g X (.builtin "len") (rLen K):=by subst h;exact a0h
section
variable {X:Cx} {elt iter:Expr} {tg:Str} {tp:Pos} {cs:List Expr} {scope:Scope} {pos:Pos} {tc:TT} {te:TE} {M:List Str}
end
def ExcAt (h:Heap) (e:Addr) (cls:Value) (od:Option Addr) (hd:Value):Prop:=∃ oe vs,h.get? e=some oe∧oe.cls=cls∧oe.dict=od∧oe.data=.fields vs∧vs[1]?=some hd
def TbAt (h:Heap) (T:Addr) (fl:Value):Prop:=∃ oT ts,h.get? T=some oT∧oT.data=.fields ts∧ts[3]?=some fl
def Mv (S fs:List Addr) (h h':Heap):Prop:=∀ b o,h.get? b=some o→b∉S→(b∉fs→h'.get? b=some o)∧∃ sl,h'.get? b=some { o with slots:=sl }
section
variable {S S' fs:List Addr} {h h1 h2:Heap}
end
section
variable {M:Model} {A:Around} {E:Value→Shared→Prop} {s:Shared} {env:Env} {outer:List Env} {base:Heap} {L e T:Addr} {cls hd fl head:Value} {od:Option Addr} {S:List Addr} {Q:Unit→Shared→Prop}
def Loose (h:Heap) (e:Addr) (cls:Value) (od:Option Addr) (S:List Addr):Prop :=
 e∈S∧(∀ b∈S,∀ o,h.get? b=some o→∃ vs,o.data=.fields vs)∧∃ hd,ExcAt h e cls od hd∧(hd=.none∨∃ T,T∈S∧hd=.ref T∧T≠e∧TbAt h T .none)
end
section
variable {X:Cx} {pins:List (Addr × Obj)} {σ:St} {H H':Hp} {s:Shared} {h':Heap} {b:Addr} {S:List Addr}
end
def CXF (P:Program) (w:World):CXT:=fun outer H s E e s'=>∃ (ea:Addr) (cls:Value) (od:Option Addr) (S:List Addr) (H':Hp),e=.ref ea∧s'.os=s.os∧AllBare s'.gens ∧
 Un (frs outer) [] H H' s.heap s'.heap∧HOk P w H' s'.heap∧Loose s'.heap ea cls od S∧(∀ b∈S,s.heap.get? b=none∧H' b=none)∧E cls od H'
section
variable {P:Program} {w:World} {K:PySem.W.Frag} {mg:Str→Option Value} {base:Heap} {N:List Str} {qual:Str} {scope:Scope} {f:Addr} {cd:Value} {A:Around} {outer:List Env} {s₀:Shared} {H₀:Hp} {E:XK}
end
abbrev Cx.hand (X:Cx) (ea:Addr):Cx:={ X with A:=X.A.mark (some (.ref ea)),calm:=false,xe:=fun _ _=>False }
section
variable {X:Cx} {pins pins':List (Addr × Obj)} {σ:St} {H:Hp} {s:Shared} {h':Heap} {ea:Addr} {xe:Value→Shared→Prop}
end
section
variable {K:PySem.W.Frag} {prog:Program} {w:World} {A:Around} {E:Value→Shared→Prop} {s:Shared} {x C:Addr} {ox:Obj} {od:Option Obj} {name:Str} {tk:Tok}
end
section
variable {K:PySem.W.Frag} {C D:Addr}
end
structure Fns' (P:Program) (w:World) (K:PySem.W.Frag) (mg:Str→Option Value) (base:Heap) (ps:List Str) (name:Str) (sp:Sp) (k:Nat) where
 g:Addr
 gd:FuncData
 ok:a1X P w K mg base (CXF P w) k g gd ps sp
 b:a5j K gd ps []
 kp:PySem.W.keepIn K (.ref g)=true
 m:mg name=some (.ref g)
def Fns'.up {P:Program} {w:World} {K:PySem.W.Frag} {mg:Str→Option Value} {base:Heap} {ps:List Str} {name:Str} {sp:Sp} {j k:Nat} (f:Fns' P w K mg base ps name sp j) (h:j≤k):Fns' P w K mg base ps name sp k:=⟨f.g,f.gd,f.ok.mono h,f.b,f.kp,f.m⟩
theorem a1N {P:Program} {w:World} {H:Hp} {h:Heap} {a:Addr} {xs:List V} (x:a0w P w H h a (.tup xs)):xs.length≤sizeLine∧∃ its:List Value,a0A xs its∧PyProof.Rows.IsTup h a its.toArray:=by
 obtain ⟨z,its,r,p⟩:=x
 exact ⟨z,its,r,a3X.is p⟩
theorem a0y.seqT {K:PySem.W.Frag} {H H':Hp} {a:Addr} {xs:List V} (e:a0y H H') (h:SqT K H a xs):SqT K H' a xs:=by
 rcases h with (h | ⟨o,h⟩) | h
 ·exact .inl (.inl (e _ _ h))
 ·exact .inl (.inr ⟨o,e _ _ h⟩)
 ·exact .inr h
def rEqLI:R2:=fun x y H Q=>∃ (a b:Addr) (ns ms:List Int),x=.ref a∧y=.ref b∧H a=some (.lst (ns.map V.int))∧H b=some (.lst (ms.map V.int))∧Q (.bl (decide (ns=ms))) H
theorem b0Y {X:Cx} (hu:X.A.units+4 < cLine):OpR X (compareOp .Eq) rEqLI:=by
 intro pins s σ H x y v u Q I rx ry h
 obtain ⟨a,b,ns,ms,rfl,rfl,e1,e2,q⟩:=h
 cases rx;cases ry
 exact a7F (A:=X.A) (n:=0) EqK.int I.hok e1 e2 (Paired.ints ns) (Paired.ints ms) (by omega) _ _ _ _ ⟨.bl _,H,I,rfl,q⟩
theorem Inv.turnedL {X:Cx} {pins:List (Addr × Obj)} {σ:St} {H:Hp} {s:Shared} {h':Heap} {t':Nat} {L:List Addr} (I:Inv X pins σ H s) (k:∀ b o,b∉L→s.heap.get? b=some o→h'.get? b=some o) (hf:∀ b∈L,a5h X pins H b):Inv X pins σ H { s with heap:=h',toks:=t' }:=by
 have nit:∀ b u,H b=some u→b∉L:=fun b u e z=>by rw [(hf b z).1] at e;cases e
 have nl:X.env.locals∉L:=fun z=>(hf _ z).2.1 rfl
 refine I.step (g':=s.gens) (d':=s.drawn) (ch:=L) (fun b hb=>?_) (fun b o _ _ hc e _=>k b o hc e) (fun b o _ _ hc e _=>⟨o.slots,k b o hc e⟩) (fun _ _ _ _ n=>n)
  (fun b o hc e=>⟨o,k b o hc e⟩) (fun _ _ e=>e) (fun _ _ _ e=>e) (fun b ps e=>⟨#[],by rw [e];simp⟩) (fun m hm=>?_) (fun b u e=>?_) I.bare
 ·obtain ⟨f0,f1,f2,f3,f4,f5⟩:=hf b hb
  exact ⟨f3,f1,f4,f5⟩
 ·obtain ⟨o,es,ep,ho,r⟩:=hm
  exact ⟨o,es,ep,k _ o nl ho,r⟩
 ·refine (I.hok b u e).stay (fun c v hc q=>k c v ?_ q) (fun _ q=>q) fun _ _ q=>q
  rcases hc with z | z
  ·rw [z];exact nit b u e
  ·exact nit c _ z
section
variable {κ:Type} [DecidableEq κ]
def valV (kvs:List (κ × V)) (k:κ):Option V:=(kvs.find? fun kv=>decide (kv.1=k)).map (·.2)
def putK (kvs:List (κ × V)) (k:κ) (v:V):List (κ × V) :=
 if (kvs.any fun kv=>decide (kv.1=k))=true then kvs.map (fun kv=>if kv.1=k then (kv.1,v) else kv) else kvs++[(k,v)]
def dropK (kvs:List (κ × V)) (k:κ):List (κ × V):=kvs.filter fun kv=>decide (kv.1≠k)
theorem a8S.isSome_eq {o:Option V} {u:Option Value} (r:a8S o u):o.isSome=u.isSome:=by
 cases o with
 | none=>cases u with
  | none=>rfl
  | some _=>exact (show False from r).elim
 | some _=>cases u with
  | none=>exact (show False from r).elim
  | some _=>rfl
end
abbrev KT (H:Hp):List (List Key × V)→List (List Key × Addr × Value)→Prop:=Paired fun p q=>p.1=q.1∧H q.2.1=some (.tup (p.1.map kV))∧a0U p.2 q.2.2
section
variable {P:Program} {w:World} {H:Hp} {h:Heap} {a:Addr}
theorem rd_of {u:HO} (ok:HOk P w H h) (e:Rd H a u):a0w P w H h a u:=e.ok ok
theorem dk_rd {kvs:List (Key × V)} (ok:HOk P w H h) (e:Rd H a (.dK kvs)):kvs.length≤sizeLine∧(a == sysModules)=false∧∃ vs,KV kvs vs∧h.DictOf (a3W P w) a vs :=
 show a0w P w H h a (.dK kvs) from rd_of ok e
theorem dk_of {kvs:List (Key × V)} (ok:HOk P w H h) (e:H a=some (.dK kvs)):kvs.length≤sizeLine∧(a == sysModules)=false∧∃ vs,KV kvs vs∧h.DictOf (a3W P w) a vs:=dk_rd ok (.inl e)
end
def DGet (H:Hp) (a:Addr) (y:V) (r:Option V):Prop :=
 (∃ kvs k,Rd H a (.dK kvs)∧y=kV k∧r=valV kvs k)∨∃ kvs k b,Rd H a (.dT kvs)∧y=.ref b∧H b=some (.tup (k.map kV))∧r=valV kvs k
def DPut (H:Hp) (a:Addr) (y v:V) (H':Hp):Prop :=
 (∃ kvs k,H a=some (.dK kvs)∧y=kV k∧kvs.length < sizeLine∧H'=upd H a (.dK (putK kvs k v))) ∨
 ∃ kvs k b,H a=some (.dT kvs)∧y=.ref b∧H b=some (.tup (k.map kV))∧kvs.length < sizeLine∧H'=upd H a (.dT (putK kvs k v))
section
variable {X:Cx} {pins:List (Addr × Obj)} {σ:St} {H:Hp} {s:Shared} {a:Addr} {y v:V} {u r:Value} {o:Option V} {A:Around} {E:Value→Shared→Prop}
theorem Inv.big (I:Inv X pins σ H s):sysModules < s.heap.objs.size:=by
 have h:mainGlobals < s.heap.objs.size:=(I.mod.glob.keeps I.bk).lt
 exact Nat.lt_trans (by decide) h
theorem b0Z {h':Heap} {t':Nat} {ob:HO} (I:Inv X pins σ H s) (mu:Mut (H a)) (hs:Heap.SameBut a s.heap h') (he:∃ q,h'.get? a=some q) (new:a0w X.prog X.w (upd H a ob) h' a ob) :
  Inv X pins σ (upd H a ob) { s with heap:=h',toks:=t' } :=
 I.write (x:=a) (e:=a) mu (.inl rfl) (fun b q hb z=>(hs.2 b hb).trans z) he new
end
section
variable {X:Cx} {pins:List (Addr × Obj)} {σ:St} {H:Hp} {s:Shared} {a:Addr} {kvs:List (Key × V)} {k:Key} {u:Value} {A:Around} {E:Value→Shared→Prop}
end
def NoSl (i:Expr):Prop:=∀ ov iv,subscripted i false ov iv=operate [ov,iv] (getItem ov iv)
theorem a7M {prog:Program} {w:World} {A:Around} {E:Value→Shared→Prop} {s:Shared} {env:Env} {value slice:Expr} {pos:Pos} {T id:String} {Q:Value→Shared→Prop}
  (hl:typeLookup (.type T) "__getitem__"=pure (some (.builtin id))) (hs:NoSl slice)
  (h:wpAny (model prog w) A (eval value env) (fun o s₁=>wpAny (model prog w) A (eval slice env) (fun i s₂=>s₂.TypeIs o T∧wpAny (model prog w) A (getItem o i) Q E s₂) E s₁) E s) :
  wpAny (model prog w) A (eval (.Subscript value slice pos) env) Q E s:=by
 refine Subscript_ (wpAny_mono h (fun o s₁ h₁=>wpAny_mono h₁ (fun i s₂ h₂=>?_) fun _ _ x=>x) fun _ _ x=>x)
 obtain ⟨hT,h₂⟩:=h₂
 unfold subscriptTail
 refine wpAny_bind ?_
 rw [getitemInPython_of_ne hT.not_modules]
 refine wpAny_bind (wpAny_specialOf hT hl ?_)
 have fin:wpAny (model prog w) A (subscripted slice false o i) (fun r s₃=>wpAny (model prog w) A (letTemporaryGo value o r >>= fun _=>pure r) Q E s₃) E s₂:=by
  rw [hs o i]
  exact wpAny_operating (wpAny_mono h₂ (fun r s₃ h₃=>wpAny_bind (wpAny_letTemporaryGo (wpAny_pure h₃))) fun _ _ x=>x)
 first
  | exact wpAny_pure (wpAny_bind fin)
  | exact wpAny_bind (wpAny_pure (wpAny_bind fin))
  | exact wpAny_bind fin
def tDGet (td ty:TE):TE:=fun σ H Q=>td σ H fun x H1=>ty σ H1 fun y H2=>∃ a v,x=.ref a∧DGet H2 a y (some v)∧Q v H2
def tDIn (ty td:TE):TE:=fun σ H Q=>ty σ H fun y H1=>td σ H1 fun x H2=>∃ a o,x=.ref a∧DGet H2 a y o∧Q (.bl o.isSome) H2
def sDPut (td ty tv:TE):TS:=fun D σ H=>tv σ H fun v H1=>td σ H1 fun x H2=>ty σ H2 fun y H3=>∃ a H4,x=.ref a∧DPut H3 a y v H4∧D.nx σ H4
def sDAug (td ty tv:TE) (rd:V→V→Hp→VK→Prop):TS:=fun D σ H=>td σ H fun x H1=>ty σ H1 fun y H2=>∃ a v,x=.ref a∧DGet H2 a y (some v) ∧
 tv σ H2 fun y2 H3=>rd v y2 H3 fun z H4=>∃ H5,DPut H4 a y z H5∧D.nx σ H5
def sDDel (td ty:TE):TS:=fun D σ H=>td σ H fun x H1=>ty σ H1 fun y H2=>∃ a kvs k,x=.ref a∧H2 a=some (.dK kvs)∧y=kV k∧(valV kvs k).isSome=true∧D.nx σ (upd H2 a (.dK (dropK kvs k)))
section
variable {X:Cx} {o i e value:Expr} {pos pos' tpos:Pos} {td ty tv:TE}
end
theorem a9l {P:Program} {w:World} {H:Hp} (h:Heap) (hb:sysModules < h.objs.size):a0w P w H (h.push { cls:=.type "dict",data:=.dict #[] }) h.objs.size (.dK []) :=
 ⟨Nat.zero_le _,beq_eq_false_iff_ne.mpr (Ne.symm (Nat.ne_of_lt hb)),[],.nil,Heap.DictOf.new h⟩
def tDNewK:TE:=fun _ H Q=>∀ p,H p=none→Q (.ref p) (upd H p (.dK []))
section
variable {X:Cx} {pos:Pos}
theorem a4e:PE X (.Dict [] [] pos) tDNewK:=fun pins s σ H Q I h =>
 wpAny_Dict_empty ⟨.ref s.heap.objs.size,_,I.laid (a:=s.heap.objs.size) (o:=.dK []) (t':=s.toks) (fun _ _ q=>Heap.get?_push_of_some _ q) (Nat.le_refl _) (a9l s.heap I.big),rfl,h _ (I.hok.fresh (Nat.le_refl _))⟩
end
def b0b:List (TE × TE)→St→Hp→(List (V × V)→Hp→Prop)→Prop
 | [],_,H,Q=>Q [] H
 | (tk,tv) :: r,σ,H,Q=>tk σ H fun x H1=>tv σ H1 fun y H2=>b0b r σ H2 fun ps H3=>Q ((x,y) :: ps) H3
def mergeK (kvs more:List (Key × V)):List (Key × V):=more.foldl (fun acc kv=>putK acc kv.1 kv.2) kvs
def tDisp (trs:List (TE × TE)):TE:=fun σ H Q=>∀ p,H p=none→b0b trs σ (upd H p (.dK [])) fun ps H2=>H2 p=some (.dK [])∧∃ kvs:List (Key × V),ps=kvs.map (fun kv=>(kV kv.1,kv.2))∧kvs.length≤15∧Q (.ref p) (upd H2 p (.dK (mergeK [] kvs)))
structure M1 (X:Cx) (o:Expr) (m:Str) (apos:Pos) (e:Expr) (cpos:Pos):Prop where
 base:attributeBase o m X.env (eval o X.env)=eval o X.env
 few:((backTo cpos (starEach [e] X.env)).all (fun x=>!x.1) && (backToKw cpos (keywordEach [] X.env)).all (fun x=>x.1.isSome)
  && decide (([e]:List Expr).length+([]:List Keyword).length+(if ([]:List Keyword).isEmpty then 0 else 1) < 30))=true
 line:(apos.endLine == cpos.line)=true
 trees:backTo cpos (starEach [e] X.env)=[(false,eval e X.env)]
def IsD (H:Hp) (a:Addr):Prop:=(∃ kvs,Rd H a (.dK kvs))∨∃ kvs,Rd H a (.dT kvs)
section
variable {X:Cx} {pins:List (Addr × Obj)} {σ:St} {H:Hp} {s:Shared} {a:Addr} {y d:V} {u r:Value} {o:Option V} {A:Around} {E:Value→Shared→Prop}
end
def tDPop1 (td ty:TE):TE:=fun σ H Q=>td σ H fun x H1=>∃ a,x=.ref a∧IsD H1 a∧ty σ H1 fun y H2=>∃ kvs k v,H2 a=some (.dK kvs)∧y=kV k∧valV kvs k=some v∧Q v (upd H2 a (.dK (dropK kvs k)))
section
variable {X:Cx} {o e f:Expr} {apos cpos:Pos} {td ty tx:TE}
end
section
variable {X:Cx} {pins:List (Addr × Obj)} {σ:St} {H:Hp} {s:Shared} {a:Addr} {kvs:List (Key × V)} {A:Around} {E:Value→Shared→Prop}
end
section
variable {X:Cx} {pins:List (Addr × Obj)} {σ:St} {H:Hp} {s:Shared} {a:Addr} {y:V} {u:Value} {A:Around} {E:Value→Shared→Prop}
end
def a2n (h:Heap) (d:Addr) (es:Array DictEntry) (ep:Nat):Prop:=∃ o,h.get? d=some o∧o.ExactDict∧o.data=.dict es ep
section
variable {prog:Program} {w:World} {A:Around} {E:Value→Shared→Prop} {s:Shared} {it d:Addr} {i ep:Nat} {es:Array DictEntry}
theorem a7N {e:DictEntry} {Q:Option Value→Shared→Prop} (hit:s.heap.IsKeyIter it d i es.size ep) (hm:a2n s.heap d es ep) (hx:es[i]?=some e)
  (hQ:∀ h',h'.IsKeyIter it d (i+1) es.size ep→Heap.SameBut it s.heap h'→Q (some e.key) { s with heap:=h' }):wpAny (model prog w) A (pyNext (.ref it)) Q E s:=by
 obtain ⟨o,ho,hc,hd⟩:=id hit
 obtain ⟨od,hod,hcd,hdd⟩:=hm
 have hT:=hit.typeIs
 unfold pyNext
 refine wpAny_bind (wpAny_attempt (wpAny_callSpecial?_slot (name:=Str.ofString "__next__") hT F.slot_dict_keyiterator_next (wpAny_call_entry F.slot_dict_keyiterator_next hT F.entry_dict_keyiterator_next ?_ (F.args_dict_keyiterator_next_1 _))))
 unfold Builtin.«dict_keyiterator.__next__»
 repeat (first | with_reducible refine wpAny_typeNameOfWhole_keyiter hT ?_ | with_reducible refine wpAny_fieldsOf ho hd ?_ | with_reducible refine wpAny_dictEntries hod hdd ?_ | with_reducible refine wpAny_dictEpoch hod hdd ?_ | with_reducible refine wpAny_isOneOf_keyiter hT ?_ | wp_step)
 have em:(if (i:Int) < 0 then none else es[(i:Int).toNat]?)=some e:=by rw [if_neg (by omega),Int.toNat_natCast,hx]
 rw [em]
 refine wpAny_bind (wpAny_bind (wpAny_typeNameOfWhole_keyiter hT (wpAny_pure ?_)))
 refine wpAny_bind (wpAny_isOneOf_keyiter hT ?_)
 show wpAny _ _ (setField (.ref it) 1 (rawInt ((i:Int)+1)) >>= _) _ _ s
 refine wpAny_bind (wpAny_setField ho hd (by simp) ?_)
 have hit':(s.heap.update it (Obj.mapFields (·.setIfInBounds 1 (rawInt ((i:Int)+1))))).IsKeyIter it d (i+1) es.size ep :=
  ⟨_,Heap.get?_update_self _ ho (Obj.isFreed_of_fields (Obj.data_mapFields hd _)),(Obj.cls_mapFields ..).trans hc,by rw [Obj.data_mapFields hd];simp [rawInt]⟩
 refine wpAny_bind (wpAny_holding (wpAny_bind (wpAny_isOneOf_keyiter (s:={ s with heap:=s.heap.update it (Obj.mapFields (·.setIfInBounds 1 (rawInt ((i:Int)+1)))) }) hit'.typeIs ?_)))
 show wpAny _ _ (pure e.key) _ _ _
 exact wpAny_pure (wpAny_pure ⟨_,rfl,wpAny_pure (hQ _ hit' (Heap.SameBut.update ..))⟩)
theorem a7O {Q:Option Value→Shared→Prop} (hh:A.handled=none) (hit:s.heap.IsKeyIter it d i es.size ep) (hm:a2n s.heap d es ep) (hx:es[i]?=none) (hQ:∀ h',Heap.ExtBut it s.heap h'→Q none { s with heap:=h' }) :
  wpAny (model prog w) A (pyNext (.ref it)) Q E s:=by
 obtain ⟨o,ho,hc,hd⟩:=id hit
 obtain ⟨od,hod,hcd,hdd⟩:=hm
 have hT:=hit.typeIs
 unfold pyNext
 refine wpAny_bind (wpAny_attempt (wpAny_callSpecial?_slot (name:=Str.ofString "__next__") hT F.slot_dict_keyiterator_next (wpAny_call_entry F.slot_dict_keyiterator_next hT F.entry_dict_keyiterator_next ?_ (F.args_dict_keyiterator_next_1 _))))
 unfold Builtin.«dict_keyiterator.__next__»
 repeat (first | with_reducible refine wpAny_typeNameOfWhole_keyiter hT ?_ | with_reducible refine wpAny_fieldsOf ho hd ?_ | with_reducible refine wpAny_dictEntries hod hdd ?_ | with_reducible refine wpAny_dictEpoch hod hdd ?_ | with_reducible refine wpAny_isOneOf_keyiter hT ?_ | wp_step)
 have em:(if (i:Int) < 0 then none else es[(i:Int).toNat]?)=none:=by rw [if_neg (by omega),Int.toNat_natCast,hx]
 rw [em]
 refine wpAny_bind (wpAny_bind (wpAny_typeNameOfWhole_keyiter hT (wpAny_pure ?_)))
 show wpAny _ _ (setField (.ref it) 0 .none >>= _) _ _ s
 refine wpAny_bind (wpAny_setField ho hd (by simp) ?_)
 show wpAny _ _ (newExc (.type "StopIteration") [] >>= _) _ _ _
 refine wpAny_bind ?_
 simp only [newExc,newTuple]
 refine wpAny_bind (wpAny_newObj_type ?_ (by size_fits))
 refine wpAny_bind (m:=firstArgMember _ _) (wpAny_of_eq (a:=Value.none) (by first | rfl | (simp only [firstArgMember];rfl)) ?_)
 refine wpAny_newObj_type ?_ (by size_fits)
 simp only [raiseNew]
 refine wpAny_bind (wpAny_handled ?_)
 rw [show A.in1.handled=none from hh]
 refine wpAny_bind (wpAny_pure (wpAny_throw ?_))
 refine wpAny_bind (wpAny_isInstance (T:="StopIteration") (b:=true) ⟨_,Heap.get?_push_size _ rfl,rfl⟩ isSubtype_stop ?_)
 exact wpAny_pure (hQ _ (((Heap.SameBut.update ..).extBut.push _).push _))
theorem a7P {Q:Value→Shared→Prop} (hd:(d == sysModules)=false) (hm:a2n s.heap d es ep) (hQ:Q (.ref s.heap.objs.size) { s with heap:=s.heap.push { cls:=.type "dict_keyiterator",data:=.fields #[.ref d,.int 0 0,.int es.size 0,.int ep 0] } }) :
  wpAny (model prog w) A (pyIter (.ref d)) Q E s:=by
 obtain ⟨o,ho,hc,hdat⟩:=hm
 have hT:s.TypeIs (.ref d) "dict":=⟨o,ho,hc.1⟩
 refine wpAny_pyIter_slot hT F.slot_dict_iter (wpAny_call_entry F.slot_dict_iter hT F.entry_dict_iter ?_ (F.args_dict_iter_1 _))
 unfold Builtin.«dict.__iter__»
 refine wpAny_bind ?_
 unfold Builtin.Dict.dictSlotNone
 refine wpAny_bind (wpAny_notOrdered_dict hT ?_)
 show wpAny _ _ (pure (Value.ref d)) _ _ s
 refine wpAny_pure ?_
 show wpAny _ _ (Builtin.Dict.showsAll d >>= _) _ _ s
 unfold Builtin.Dict.showsAll
 rw [if_neg (by rw [hd];exact Bool.false_ne_true)]
 refine wpAny_bind (wpAny_pure (wpAny_bind (wpAny_dictEntries ho hdat (wpAny_bind (wpAny_dictEpoch ho hdat ?_)))))
 refine wpAny_bind (wpAny_newObj_type (wpAny_pure ⟨_,rfl,"dict_keyiterator",_,⟨_,Heap.get?_push_size _ rfl,rfl⟩,F.slot_dict_keyiterator_next.lookup,?_⟩))
 simpa [rawInt] using hQ
end
end L2
namespace L2
open PySem PySem.Spec PyProof.Rows PySem.W
def Pm (n:Nat) (p:Array Nat):Prop:=p.Perm (List.range n).toArray
section
variable {prog:Program} {w:World} {A:Around} {E:Value→Shared→Prop} {s:Shared}
def TupI (h:Heap) (v:Value):Prop:=∃ (b:Addr) (items:Array Value) (ns:List Int),v=.ref b∧IsTup h b items∧IntsAre items.toList ns
theorem TupI.ty {M:Model} {h:Heap} {v:Value} (t:TupI h v):Looks M h (typeOf v) (.type "tuple"):=by
 obtain ⟨b,items,ns,rfl,⟨o,ho,hc,_⟩,_⟩:=t
 exact hc▸(Looks.ld ho).andThen .now
theorem a7Q {α β:Type} {M:Model} {f:α→Sem β} {g:α→β}:∀ (l:List α) {Q:List β→Shared→Prop},(∀ v∈l,∀ (Q':β→Shared→Prop),Q' (g v) s→wpAny M A (f v) Q' E s)→Q (l.map g) s→wpAny M A (l.mapM f) Q E s
 | [],_,_,h=>by rw [List.mapM_nil];exact wpAny_pure h
 | x :: l,Q,hf,h=>by
  rw [List.mapM_cons]
  exact wpAny_bind (hf x (.head _) _ (wpAny_bind (a7Q l (Q:=fun bs s'=>wpAny M A (pure (g x :: bs)) Q E s') (fun v hv=>hf v (.tail _ hv)) (wpAny_pure h))))
def fst? (h:Heap):Value→Option Value
 | .ref b=>match h.get? b with
  | some o=>match o.data with
   | .seq xs _=>xs[0]?
   | _=>none
  | none=>none
 | _=>none
end
section
variable {prog:Program} {w:World} {A:Around} {E:Value→Shared→Prop} {s:Shared} {d:Addr} {es:Array DictEntry} {ep:Nat}
theorem a2n.at {h h':Heap} (x:a2n h d es ep) (e:∀ o,h.get? d=some o→h'.get? d=some o):a2n h' d es ep:=by
 obtain ⟨o,ho,r⟩:=x
 exact ⟨o,e o ho,r⟩
theorem a7R (hh:A.handled=none) (I:Addr) (hne:d≠I):Walks prog w A I [I,d] [I] es.size (fun i v=>∃ e,es[i]?=some e∧v=e.key) (fun i h=>h.IsKeyIter I d i es.size ep∧a2n h d es ep) where
 sub:=fun b hb=>by simp at hb;simp [hb]
 frame:=fun _ _ _ st hk=>⟨st.1.at fun o e=>hk I (by simp) o e,st.2.at fun o e=>hk d (by simp) o e⟩
 item:=fun i s Q E hi st hQ=>by
  have he:es[i]?=some es[i]:=Array.getElem?_eq_getElem hi
  refine a7N st.1 st.2 he fun h' hit' hs'=>?_
  exact hQ _ h' s.toks ⟨_,he,rfl⟩ ⟨hit',st.2.at fun o e=>(hs'.2 d hne).trans e⟩ fun b o hb e=>hs'.extBut b o (fun h=>hb (by simp [h])) e
 done:=fun s Q E st hQ=>a7O hh st.1 st.2 (by simp) fun h' he'=>hQ h' s.toks fun b o hb e=>he' b o (fun h=>hb (by simp [h])) e
 self:=fun _ _ _ _ st hQ=>wpAny_pyIter_keyiter st.1 hQ
theorem a9m (hd:(d == sysModules)=false):KdlSrc prog w "dict" d d es.size (fun i v=>∃ e,es[i]?=some e∧v=e.key) (fun h=>a2n h d es ep) where
 type:=fun s ⟨o,ho,hx,_⟩=>⟨o,ho,hx.1⟩
 there:=fun h ⟨o,ho,_⟩=>⟨Heap.lt_size ho,Heap.lt_size ho⟩
 keep:=fun h h' x k=>x.at fun o e=>k d (.inl rfl) o e
 notList:=by decide
 notTuple:=by decide
 hint:=fun A E s Q ⟨o,ho,hx,_⟩ h=>kdl_hint_dict ⟨o,ho,hx.1⟩ h
 iter:=fun A s hh hok=>by
  have lt:d < s.heap.objs.size:=by obtain ⟨o,ho,_⟩:=hok;exact Heap.lt_size ho
  exact ⟨_,_,fun E Q hQ=>a7P hd hok hQ,a7R hh _ (Nat.ne_of_lt lt),⟨_,Heap.get?_push_size _ rfl,rfl,rfl⟩,hok.at fun o e=>Heap.get?_push_of_some _ e⟩
theorem a4S {Q:List Value→Shared→Prop} (hh:A.handled=none) (hd:(d == sysModules)=false) (hok:a2n s.heap d es ep) (hn:es.size≤sizeLine)
  (h:∀ h' tk,(∀ b o,s.heap.get? b=some o→h'.get? b=some o)→Q (es.toList.map (·.key)) { s with heap:=h',toks:=tk }):wpAny (model prog w) A (collect (.ref d)) Q E s:=by
 have lt:d < s.heap.objs.size:=by obtain ⟨o,ho,_⟩:=hok;exact Heap.lt_size ho
 have ne:s.heap.objs.size≠d:=Nat.ne_of_gt lt
 unfold collect
 refine wpAny_bind (wpAny_runValue (codeAny_builtin F.entry_proto_collect ?_))
 rw [Around.under_plainId F.plain_proto_collect _]
 show wpAny _ A.in1 (newList [] >>= fun l=>again (.builtin "list.__iadd__" ⟨[l,.ref d],[]⟩)) _ _ s
 refine wpAny_bind (wpAny_newObj_type ?_)
 refine wpAny_pure ⟨plainId_quiet F.plain_list_iadd _,codeAny_builtin F.entry_list_iadd ?_⟩
 rw [Around.under_plainId F.plain_list_iadd _]
 show wpAny _ A.in1 (Builtin.List.listExtendWith (.ref s.heap.objs.size) (.ref d) (.ref s.heap.objs.size)) _ _ _
 have hS0:(s.heap.push { cls:=.type "list",data:=.seq #[] }).get? s.heap.objs.size=some { cls:=.type "list",data:=.seq #[] }:=Heap.get?_push_size _ rfl
 have fin:∀ s':Shared,(∃ acc c,s'.heap.get? s.heap.objs.size=some { cls:=.type "list",dict:=none,data:=.seq acc c,slots:=#[] }∧acc.toList=es.toList.map (·.key)∧Q (es.toList.map (·.key)) s') →
   wpAny (model prog w) A (match Value.ref s.heap.objs.size with
    | .ref a=>do
     let o ←load a
     match o.data with
     | .seq xs _=>pure xs.toList
     | _=>unsupported "internal:collect"
    | _=>unsupported "internal:collect") Q E s':=fun s' ⟨acc,c,hS,ea,q⟩=>by
  show wpAny _ A (load s.heap.objs.size >>= _) _ _ _
  refine wpAny_bind (wpAny_load hS (wpAny_pure ?_))
  show Q acc.toList _
  rw [ea]
  exact q
 refine wpAny_mono (kdl_extend (s:={ s with heap:=s.heap.push { cls:=.type "list",data:=.seq #[] } }) (A:=A)
  (R:=fun r s'=>r=.ok (.ret (.ref s.heap.objs.size))∧∃ acc c,s'.heap.get? s.heap.objs.size=some { cls:=.type "list",dict:=none,data:=.seq acc c,slots:=#[] }∧acc.toList=es.toList.map (·.key)∧Q (es.toList.map (·.key)) s')
  (a9m (es:=es) (ep:=ep) hd) hh (hok.at fun o e=>Heap.get?_push_of_some _ e) s.heap.objs.size ne ne (.ref s.heap.objs.size) 0 hS0 (fun h' tk acc c kp hS hacc=>⟨rfl,acc,c,hS,?_,?_⟩) hn) (fun fn s' hz=>?_) (fun e s' hz=>?_)
 ·refine List.ext_getElem? fun i=>?_
  rw [Array.getElem?_toList,List.getElem?_map,Array.getElem?_toList]
  cases hi:acc[i]? with
  | none =>
   have:acc.size≤i:=Array.getElem?_eq_none_iff.mp hi
   rw [Array.getElem?_eq_none (by rw [←hacc.1];exact this)]
   rfl
  | some v =>
   obtain ⟨e,he,rfl⟩:=hacc.2 i v hi
   rw [he]
   rfl
 ·exact h h' tk fun b o e=>kp b o (Nat.ne_of_lt (Heap.lt_size e)) (Heap.get?_push_of_some _ e)
 ·rcases fn with f | c'
  ·obtain ⟨e,z⟩:=hz
   cases e
   exact fin s' z
  ·refine ⟨hz.1,codeAny_mono hz.2 fun r s'' z=>?_⟩
   obtain ⟨e,z⟩:=z
   subst e
   exact fin s'' z
 ·obtain ⟨z,_⟩:=hz
  cases z
end
end L2
namespace L2
open PySem PySem.Spec PyProof.Rows
abbrev B30:Int:=1000000000000000000000000000000
theorem e30:(10:Int) ^ (30:Int).toNat=B30:=by decide
def b1a (i j:Int):Prop:=(0≤i∧i≤10000000000 * B30)∧(0≤j∧j≤10000000000 * B30)
theorem b1a.ok {i j:Int} (h:b1a i j):IntMulOk i j:=by
 have q:∀ k:Int,0≤k∧k≤10000000000 * B30→PySem.Builtin.Int.intBits k≤140:=fun k hk=>intBits_le_iff.mpr (by
  have e:(2:Nat) ^ 140=1393796574908163946345982392040522594123776:=by decide
  rw [e]
  unfold B30 at hk
  omega)
 exact IntMulOk.of_le (q i h.1) (q j h.2) (by decide)
theorem a7S {X:Cx}:OpR X (binaryOp .Mult) (rI b1a fun i j=>.int (i * j)):=opI fun _ _ _ _ _ _ _ hc q=>PyProof.Rows.mul_int q hc.ok
end L2
namespace L2
open PySem PySem.Spec PyProof.Rows PySem.W
def ev {α:Type} (lt:Nat→Nat→Bool):KasT α→α
 | .ret a=>a
 | .ask i j k=>ev lt (k (lt i j))
structure Ord (n:Nat) (lt:Nat→Nat→Bool):Prop where
 tr:∀ i j k,lt i j=true→lt j k=true→lt i k=true
 tot:∀ i j,i < n→j < n→i≠j→lt i j=false→lt j i=true
def Asc (lt:Nat→Nat→Bool) (p:Array Nat) (m:Nat):Prop:=∀ i,i+1 < m→lt (p.getD i 0) (p.getD (i+1) 0)=true
variable {n:Nat} {lt:Nat→Nat→Bool} {p:Array Nat} {m:Nat}
theorem Pm.size (h:Pm n p):p.size=n:=by
 have e:=h.size_eq
 simpa using e
theorem a7T (p:Array Nat) (i:Nat):p.getD i 0=(p[i]?).getD 0:=by simp [Array.getD];split <;> simp [*]
theorem Pm.inj (h:Pm n p) {i j:Nat} (hi:i < n) (hj:j < n) (ne:i≠j):p.getD i 0≠p.getD j 0:=by
 have sz:=h.size
 have nd:p.toList.Nodup:=by
  have q:p.toList.Perm (List.range n):=by
   have:=Array.perm_iff_toList_perm.mp h
   simpa using this
  exact q.nodup_iff.mpr List.nodup_range
 have e1:p.getD i 0=p.toList[i]'(by simpa [sz] using hi):=by simp [Array.getD,sz,hi]
 have e2:p.getD j 0=p.toList[j]'(by simpa [sz] using hj):=by simp [Array.getD,sz,hj]
 rw [e1,e2]
 intro z
 exact ne ((List.getElem_inj nd).mp z)
theorem Asc.all (o:Ord n lt) (h:Asc lt p m):∀ j i,i < j→j < m→lt (p.getD i 0) (p.getD j 0)=true
 | 0,i,hi,_=>absurd hi (Nat.not_lt_zero _)
 | j+1,i,hi,hj=>by
  by_cases e:i=j
  ·subst e;exact h i hj
  ·exact o.tr _ _ _ (Asc.all o h j i (by omega) (by omega)) (h j hj)
section
variable {prog:Program} {w:World} {A:Around} {E:Value→Shared→Prop} {s:Shared}
def a3I (h:Heap) (v:Value) (ns:List Int):Prop:=∃ (b:Addr) (items:Array Value),v=.ref b∧IsTup h b items∧IntsAre items.toList ns
theorem a3I.i {h:Heap} {v:Value} {ns:List Int} (t:a3I h v ns):TupI h v:=by
 obtain ⟨b,items,e,ht,hi⟩:=t
 exact ⟨b,items,ns,e,ht,hi⟩
theorem a3I.keep {h h':Heap} {v:Value} {ns:List Int} {a:Addr} {o:Obj} (t:a3I h v ns) (ho:h.get? a=some o) (hc:o.cls=.type "list") (k:∀ b o,b≠a→h.get? b=some o→h'.get? b=some o):a3I h' v ns:=by
 obtain ⟨b,items,rfl,⟨ob,hb,hcb,n,hd⟩,hi⟩:=t
 have ne:b≠a:=fun z=>by rw [z,ho] at hb;cases hb;rw [hc] at hcb;exact absurd (Value.type.inj hcb) (by decide)
 exact ⟨b,items,rfl,⟨ob,k b ob ne hb,hcb,n,hd⟩,hi⟩
theorem a5U {fin:Bool} {Q:Bool→Shared→Prop}:∀ (xs ys:List Value) (ns ms:List Int) (i:Nat),IntsAre xs ns→IntsAre ys ms→fin=decide (ns.length < ms.length)→Q (HT.a0F ns ms) s→KatLex prog w A true fin Q (xs.zip ys) i s
 | [],ys,ns,ms,i,h1,h2,e,q=>by
  cases h1
  have z:HT.a0F [] ms=fin:=by
   subst e
   cases ms with
   | nil=>rfl
   | cons m ms=>exact (decide_eq_true (by simp)).symm
  rw [z] at q
  exact q
 | x :: xs,[],ns,ms,i,h1,h2,e,q=>by
  cases h2
  cases h1 with
  | cons n t h1 =>
   rename_i nt
   have z:HT.a0F (n :: nt) []=fin:=by
    subst e
    exact (decide_eq_false (by simp)).symm
   rw [z] at q
   exact q
 | x :: xs,y :: ys,ns,ms,i,h1,h2,e,q=>by
  cases h1 with
  | cons n t h1 =>
  cases h2 with
  | cons m u h2 =>
  rw [HT.a1w] at q
  refine kat_cons (wpAny_eqBool_int ?_)
  by_cases z:n=m
  ·subst z
   rw [if_pos rfl] at q
   have e0:(n == n)=true:=by simp
   rw [e0]
   exact kat_yes (a5U xs ys _ _ (i+1) h1 h2 (by rw [e];simp) q)
  ·rw [if_neg z] at q
   have e0:(n == m)=false:=by simpa using z
   rw [e0]
   refine kat_no ?_
   cases hb:(true && i == 0) with
   | true=>exact oneLt_int q
   | false=>exact kat_one _ _ (PyProof.Rows.lt_int q)
end
def nokey:Keyed:=(Value.none,Value.none)
def el (xs:Array Keyed) (i:Nat):Keyed:=xs.getD i nokey
structure SO (less:Keyed→Keyed→Bool) (S:Keyed→Prop):Prop where
 asym:∀ x y,less x y=true→less y x=false
 tr:∀ x y z,less y x=false→less z y=false→less z x=false
theorem a4f {xs:Array Keyed} {i:Nat} (h:i < xs.size):xs[i]?=some (el xs i):=by
 unfold el
 rw [Array.getElem?_eq_getElem h]
 simp [Array.getD,h]
section
variable {prog:Program} {w:World} {A:Around} {E:Value→Shared→Prop} {s:Shared}
def Cmp (prog:Program) (w:World) (A:Around) (E:Value→Shared→Prop) (s:Shared) (κ:SortKind) (less:Keyed→Keyed→Bool) (S:Keyed→Prop):Prop :=
 ∀ (x y:Keyed) (st:SortSt) (Q:Option Bool→SortSt→Prop),S x→S y→kindOf st=κ→Q (some (less x y)) st→wpS (model prog w) A E s (lt' x y) Q st
variable {κ:SortKind} {less:Keyed→Keyed→Bool} {S:Keyed→Prop}
theorem a0k {arr:Array Keyed} {i:Nat} {st:SortSt} {Q:Keyed→SortSt→Prop} (hi:i < arr.size) (h:Q (el arr i) st):wpS (model prog w) A E s (elem' arr i) Q st:=by
 rw [elem'_eq,a4f hi]
 exact wpS_pure h
def gallop':Bool→Keyed→Array Keyed→Nat→Nat→Nat→StateT SortSt Sem (Option Nat):=sortPriv% PySem.Builtin.gallop
def beyond' (left:Bool) (key:Keyed) (arr:Array Keyed) (base i:Nat):StateT SortSt Sem (Option Bool):=do
  let x ←elem' arr (base+i)
  if left then lt' x key else return (←lt' key x).map (!·)
theorem a6H (left:Bool) (key:Keyed) (arr:Array Keyed) (base n hint:Nat):gallop' left key arr base n hint=(do
 let mut lastofs:=0
 let mut ofs:=1
 let mut lo:=0
 let mut hi:=0
 let some right ←beyond' left key arr base hint | return none
 if right then
  let maxofs:=n - hint
  for _ in [0:n] do
   if ofs ≥ maxofs then break
   let some more ←beyond' left key arr base (hint+ofs) | return none
   if !more then break
   lastofs:=ofs
   ofs:=2 * ofs+1
  lo:=hint+lastofs+1
  hi:=hint+min ofs maxofs
 else
  let maxofs:=hint+1
  for _ in [0:n] do
   if ofs ≥ maxofs then break
   let some found ←beyond' left key arr base (hint - ofs) | return none
   if found then break
   lastofs:=ofs
   ofs:=2 * ofs+1
  lo:=hint+1 - min ofs maxofs
  hi:=hint - lastofs
 for _ in [0:n] do
  if lo ≥ hi then break
  let m:=lo+(hi - lo) / 2
  let some more ←beyond' left key arr base m | return none
  if more then lo:=m+1 else hi:=m
 return some hi):=rfl
def Bey (less:Keyed→Keyed→Bool) (left:Bool) (key:Keyed) (arr:Array Keyed) (base i:Nat):Bool:=if left then less (el arr (base+i)) key else !less key (el arr (base+i))
theorem a6I (C:Cmp prog w A E s κ less S) {left:Bool} {key:Keyed} {arr:Array Keyed} {base i:Nat} {st:SortSt} {Q:Option Bool→SortSt→Prop} (hi:base+i < arr.size) (hk:S key) (hs:S (el arr (base+i))) (hκ:kindOf st=κ) (h:Q (some (Bey less left key arr base i)) st) :
  wpS (model prog w) A E s (beyond' left key arr base i) Q st:=by
 unfold beyond'
 refine wpS_bind (a0k hi ?_)
 cases left with
 | true=>exact C _ _ _ _ hs hk hκ h
 | false=>exact wpS_bind (C _ _ _ _ hk hs hκ (wpS_pure h))
theorem a0B (C:Cmp prog w A E s κ less S) {left:Bool} {key:Keyed} {arr:Array Keyed} {base n hint:Nat} {st:SortSt} {Q:Option Nat→SortSt→Prop} (hh:hint < n) (hn:base+n≤arr.size) (hk:S key) (hs:∀ i,i < n→S (el arr (base+i))) (hκ:kindOf st=κ)
  (mo:∀ i j,i < j→j < n→Bey less left key arr base j=true→Bey less left key arr base i=true)
  (h:∀ k,k≤n→(∀ i,i < k→Bey less left key arr base i=true)→(∀ i,k≤i→i < n→Bey less left key arr base i=false)→Q (some k) st) :
  wpS (model prog w) A E s (gallop' left key arr base n hint) Q st:=by
 rw [a6H]
 have bey:∀ {i:Nat} {Q:Option Bool→SortSt→Prop},i < n→Q (some (Bey less left key arr base i)) st→wpS (model prog w) A E s (beyond' left key arr base i) Q st:=fun {i Q} hi q=>a6I C (by omega) hk (hs i hi) hκ q
 generalize Bey less left key arr base=P at mo h bey
 refine wpS_bind (bey hh ?_)
 dsimp only
 cases e0:P hint with
 | true =>
  rw [if_pos rfl]
  refine wpS_bind (wpS_mono (wpS_forRange (I:=fun x c st'=>st'=st∧∃ la ofs,c=(none,la,ofs)∧la < ofs∧x+1≤ofs∧hint+la < n∧P (hint+la)=true)
   (Q:=fun c st'=>st'=st∧∃ la ofs,c=(none,la,ofs)∧la < ofs∧hint+la < n∧P (hint+la)=true∧(n - hint≤ofs∨(hint+ofs < n∧P (hint+ofs)=false))) ?_ ?_ ⟨rfl,0,1,rfl,by omega,by omega,by omega,e0⟩) ?_)
  ·rintro x c st' _ hx ⟨rfl,la,ofs,rfl,h1,h2,h3,h4⟩
   dsimp only
   by_cases g:ofs ≥ n - hint
   ·rw [if_pos g]
    exact wpS_pure ⟨rfl,la,ofs,rfl,h1,h3,h4,.inl g⟩
   ·rw [if_neg g]
    refine wpS_bind (bey (by omega) ?_)
    dsimp only
    cases e:P (hint+ofs) with
    | true =>
     rw [if_neg (by decide)]
     exact wpS_pure ⟨rfl,ofs,_,rfl,by omega,by omega,by omega,e⟩
    | false =>
     rw [if_pos (by decide)]
     exact wpS_pure ⟨rfl,la,ofs,rfl,h1,h3,h4,.inr ⟨by omega,e⟩⟩
  ·rintro c st' ⟨rfl,la,ofs,rfl,h1,h2,h3,h4⟩
   exact ⟨rfl,la,ofs,rfl,h1,h3,h4,.inl (by omega)⟩
  rintro c st' ⟨hst,la,ofs,rfl,h1,h3,h4,h5⟩
  have hst:=hst.symm
  subst hst
  dsimp only
  have L1:hint+la+1≤hint+min ofs (n - hint):=by omega
  have L2':hint+min ofs (n - hint)≤n:=by omega
  have L3:∀ i,i < hint+la+1→P i=true:=fun i hi=>by
   by_cases z:i=hint+la
   ·rw [z];exact h4
   ·exact mo i _ (by omega) h3 h4
  have L4:∀ i,hint+min ofs (n - hint)≤i→i < n→P i=false:=fun i hi hn'=>by
   rcases h5 with g | ⟨g,e⟩
   ·omega
   ·cases ei:P i with
    | false=>rfl
    | true =>
     by_cases z:i=hint+ofs
     ·rw [z] at ei;rw [ei] at e;exact e
     ·rw [mo (hint+ofs) i (by omega) hn' ei] at e;exact e
  refine wpS_bind (wpS_mono (wpS_forRange (I:=fun x c st'=>st'=st∧∃ lo hi,c=(none,lo,hi)∧lo≤hi∧hi≤n∧hi - lo≤n - x∧(∀ i,i < lo→P i=true)∧∀ i,hi≤i→i < n→P i=false)
   (Q:=fun c st'=>st'=st∧∃ hi,c=(none,hi,hi)∧hi≤n∧(∀ i,i < hi→P i=true)∧∀ i,hi≤i→i < n→P i=false) ?_ ?_ ⟨rfl,_,_,rfl,L1,L2',by omega,L3,L4⟩) ?_)
  ·rintro x c st' _ hx ⟨rfl,lo,hi,rfl,h1,h2,h3,h4,h5⟩
   dsimp only
   by_cases g:lo ≥ hi
   ·rw [if_pos g]
    have:lo=hi:=by omega
    subst this
    exact wpS_pure ⟨rfl,lo,rfl,h2,h4,h5⟩
   ·rw [if_neg g]
    refine wpS_bind (bey (by omega) ?_)
    dsimp only
    cases e:P (lo+(hi - lo) / 2) with
    | true =>
     rw [if_pos rfl]
     refine wpS_pure ⟨rfl,_,_,rfl,by omega,h2,by omega,fun i hi'=>?_,h5⟩
     by_cases z:i=lo+(hi - lo) / 2
     ·rw [z];exact e
     ·exact mo i _ (by omega) (by omega) e
    | false =>
     rw [if_neg (by decide)]
     refine wpS_pure ⟨rfl,_,_,rfl,by omega,by omega,by omega,h4,fun i hi' hn'=>?_⟩
     cases ei:P i with
     | false=>rfl
     | true =>
      by_cases z:i=lo+(hi - lo) / 2
      ·rw [z] at ei;rw [ei] at e;exact e
      ·rw [mo (lo+(hi - lo) / 2) i (by omega) hn' ei] at e;exact e
  ·rintro c st' ⟨rfl,lo,hi,rfl,h1,h2,h3,h4,h5⟩
   have:lo=hi:=by omega
   subst this
   exact ⟨rfl,lo,rfl,h2,h4,h5⟩
  ·rintro c st' ⟨rfl,hi,rfl,h2,h4,h5⟩
   exact wpS_pure (h hi h2 h4 h5)
 | false =>
  rw [if_neg (by decide)]
  refine wpS_bind (wpS_mono (wpS_forRange (I:=fun x c st'=>st'=st∧∃ la ofs,c=(none,la,ofs)∧la < ofs∧x+1≤ofs∧la≤hint∧P (hint - la)=false)
   (Q:=fun c st'=>st'=st∧∃ la ofs,c=(none,la,ofs)∧la < ofs∧la≤hint∧P (hint - la)=false∧(hint+1≤ofs∨(ofs≤hint∧P (hint - ofs)=true))) ?_ ?_ ⟨rfl,0,1,rfl,by omega,by omega,by omega,e0⟩) ?_)
  ·rintro x c st' _ hx ⟨rfl,la,ofs,rfl,h1,h2,h3,h4⟩
   dsimp only
   by_cases g:ofs ≥ hint+1
   ·rw [if_pos g]
    exact wpS_pure ⟨rfl,la,ofs,rfl,h1,h3,h4,.inl g⟩
   ·rw [if_neg g]
    refine wpS_bind (bey (by omega) ?_)
    dsimp only
    cases e:P (hint - ofs) with
    | false =>
     rw [if_neg (by decide)]
     exact wpS_pure ⟨rfl,ofs,_,rfl,by omega,by omega,by omega,e⟩
    | true =>
     rw [if_pos rfl]
     exact wpS_pure ⟨rfl,la,ofs,rfl,h1,h3,h4,.inr ⟨by omega,e⟩⟩
  ·rintro c st' ⟨rfl,la,ofs,rfl,h1,h2,h3,h4⟩
   exact ⟨rfl,la,ofs,rfl,h1,h3,h4,.inl (by omega)⟩
  rintro c st' ⟨hst,la,ofs,rfl,h1,h3,h4,h5⟩
  have hst:=hst.symm
  subst hst
  dsimp only
  have L1:hint+1 - min ofs (hint+1)≤hint - la:=by omega
  have L2':hint - la≤n:=by omega
  have L3:∀ i,i < hint+1 - min ofs (hint+1)→P i=true:=fun i hi=>by
   rcases h5 with g | ⟨g,e⟩
   ·omega
   ·by_cases z:i=hint - ofs
    ·rw [z];exact e
    ·exact mo i _ (by omega) (by omega) e
  have L4:∀ i,hint - la≤i→i < n→P i=false:=fun i hi hn'=>by
   cases ei:P i with
   | false=>rfl
   | true =>
    by_cases z:i=hint - la
    ·rw [z] at ei;rw [ei] at h4;exact h4
    ·rw [mo (hint - la) i (by omega) hn' ei] at h4;exact h4
  refine wpS_bind (wpS_mono (wpS_forRange (I:=fun x c st'=>st'=st∧∃ lo hi,c=(none,lo,hi)∧lo≤hi∧hi≤n∧hi - lo≤n - x∧(∀ i,i < lo→P i=true)∧∀ i,hi≤i→i < n→P i=false)
   (Q:=fun c st'=>st'=st∧∃ hi,c=(none,hi,hi)∧hi≤n∧(∀ i,i < hi→P i=true)∧∀ i,hi≤i→i < n→P i=false) ?_ ?_ ⟨rfl,_,_,rfl,L1,L2',by omega,L3,L4⟩) ?_)
  ·rintro x c st' _ hx ⟨rfl,lo,hi,rfl,h1,h2,h3,h4,h5⟩
   dsimp only
   by_cases g:lo ≥ hi
   ·rw [if_pos g]
    have:lo=hi:=by omega
    subst this
    exact wpS_pure ⟨rfl,lo,rfl,h2,h4,h5⟩
   ·rw [if_neg g]
    refine wpS_bind (bey (by omega) ?_)
    dsimp only
    cases e:P (lo+(hi - lo) / 2) with
    | true =>
     rw [if_pos rfl]
     refine wpS_pure ⟨rfl,_,_,rfl,by omega,h2,by omega,fun i hi'=>?_,h5⟩
     by_cases z:i=lo+(hi - lo) / 2
     ·rw [z];exact e
     ·exact mo i _ (by omega) (by omega) e
    | false =>
     rw [if_neg (by decide)]
     refine wpS_pure ⟨rfl,_,_,rfl,by omega,by omega,by omega,h4,fun i hi' hn'=>?_⟩
     cases ei:P i with
     | false=>rfl
     | true =>
      by_cases z:i=lo+(hi - lo) / 2
      ·rw [z] at ei;rw [ei] at e;exact e
      ·rw [mo (lo+(hi - lo) / 2) i (by omega) hn' ei] at e;exact e
  ·rintro c st' ⟨rfl,lo,hi,rfl,h1,h2,h3,h4,h5⟩
   have:lo=hi:=by omega
   subst this
   exact ⟨rfl,lo,rfl,h2,h4,h5⟩
  ·rintro c st' ⟨rfl,hi,rfl,h2,h4,h5⟩
   exact wpS_pure (h hi h2 h4 h5)
end
def a4g:Array Keyed→Array Keyed→StateT SortSt Sem (Array Keyed):=sortPriv% PySem.Builtin.mergeLo
def a1e:Nat→StateT SortSt Sem Unit:=sortPriv% PySem.Builtin.setMinGallop
abbrev b1H (st:SortSt) (g:Nat):SortSt:=SortSt.mk' (kindOf st) (arrOf st) (pendingOf st) g (failedOf st)
theorem a0I (g:Nat):a1e g=modify fun s=>b1H s g:=rfl
theorem a5o (a b:Array Keyed):a4g a b=(do
 rule "list.sort.merge-lo"
 let total:=a.size+b.size
 let done (out:Array Keyed) (ia ib:Nat):=out++a.extract ia a.size++b.extract ib b.size
 let lastOfA (out:Array Keyed) (ia ib:Nat):=out++b.extract ib b.size++a.extract ia a.size
 let mut out:Array Keyed:=#[←elem' b 0]
 let mut ia:=0
 let mut ib:=1
 if ib == b.size then return done out ia ib
 if ia+1 == a.size then return lastOfA out ia ib
 let mut minGallop:=gallopOf (←get)
 for _ in [0:total] do
  let mut acount:=0
  let mut bcount:=0
  for _ in [0:total] do
   let some bWins ←lt' (←elem' b ib) (←elem' a ia) | return done out ia ib
   if bWins then
    out:=out.push (←elem' b ib);ib:=ib+1;bcount:=bcount+1;acount:=0
    if ib == b.size then return done out ia ib
    if bcount ≥ minGallop then break
   else
    out:=out.push (←elem' a ia);ia:=ia+1;acount:=acount+1;bcount:=0
    if ia+1 == a.size then return lastOfA out ia ib
    if acount ≥ minGallop then break
  rule "list.sort.gallop"
  minGallop:=minGallop+1
  for _ in [0:total] do
   if minGallop > 1 then minGallop:=minGallop - 1
   a1e minGallop
   let some k ←gallop' false (←elem' b ib) a ia (a.size - ia) 0 | return done out ia ib
   acount:=k
   if k > 0 then
    out:=out++a.extract ia (ia+k);ia:=ia+k
    if ia+1 == a.size then return lastOfA out ia ib
    if ia == a.size then return done out ia ib
   out:=out.push (←elem' b ib);ib:=ib+1
   if ib == b.size then return done out ia ib
   let some k ←gallop' true (←elem' a ia) b ib (b.size - ib) 0 | return done out ia ib
   bcount:=k
   if k > 0 then
    out:=out++b.extract ib (ib+k);ib:=ib+k
    if ib == b.size then return done out ia ib
   out:=out.push (←elem' a ia);ia:=ia+1
   if ia+1 == a.size then return lastOfA out ia ib
   if acount < 7 && bcount < 7 then break
  minGallop:=minGallop+1
  a1e minGallop
 unsupported "internal:list.sort.merge-bound"):=rfl
abbrev Lt (less:Keyed→Keyed→Bool) (x y:Keyed):Prop:=less y x=false
structure MI (less:Keyed→Keyed→Bool) (a b out:Array Keyed) (ia ib:Nat):Prop where
 pm:out.toList.Perm (a.toList.take ia++b.toList.take ib)
 so:out.toList.Pairwise (Lt less)
 ba:∀ x∈out.toList,∀ j,ia≤j→j < a.size→Lt less x (el a j)
 bb:∀ x∈out.toList,∀ j,ib≤j→j < b.size→Lt less x (el b j)
structure MC (less:Keyed→Keyed→Bool) (S:Keyed→Prop) (a b:Array Keyed):Prop where
 so:SO less S
 sa:∀ i j,i < j→j < a.size→Lt less (el a i) (el a j)
 sb:∀ i j,i < j→j < b.size→Lt less (el b i) (el b j)
 xa:∀ i,i < a.size→S (el a i)
 xb:∀ i,i < b.size→S (el b i)
 fst:less (el b 0) (el a 0)=true
 lst:∀ j,j < b.size→less (el b j) (el a (a.size - 1))=true
 na:1≤a.size
 nb:1≤b.size
theorem a4h {a:Array Keyed} {i:Nat} (h:i < a.size):a.toList.take (i+1)=a.toList.take i++[el a i]:=by
 rw [List.take_add_one]
 have:a.toList[i]?=some (el a i):=by
  rw [Array.getElem?_toList]
  exact a4f h
 rw [this]
 rfl
variable {less:Keyed→Keyed→Bool} {S:Keyed→Prop} {a b out:Array Keyed} {ia ib:Nat}
theorem MI.pushB (m:MI less a b out ia ib) (c:MC less S a b) (h:ib < b.size) (hl:∀ j,ia≤j→j < a.size→Lt less (el b ib) (el a j)):MI less a b (out.push (el b ib)) ia (ib+1):=by
 refine ⟨?_,?_,fun x hx j h1 h2=>?_,fun x hx j h1 h2=>?_⟩
 ·rw [Array.toList_push,a4h h,←List.append_assoc]
  exact m.pm.append_right _
 ·rw [Array.toList_push,List.pairwise_append]
  exact ⟨m.so,List.pairwise_singleton ..,fun x hx y hy=>by rw [List.mem_singleton.mp hy];exact m.bb x hx ib (Nat.le_refl _) h⟩
 ·rw [Array.toList_push] at hx
  rcases List.mem_append.mp hx with z | z
  ·exact m.ba x z j h1 h2
  ·rw [List.mem_singleton.mp z];exact hl j h1 h2
 ·rw [Array.toList_push] at hx
  rcases List.mem_append.mp hx with z | z
  ·exact m.bb x z j (by omega) h2
  ·rw [List.mem_singleton.mp z];exact c.sb ib j (by omega) h2
theorem MI.pushA (m:MI less a b out ia ib) (c:MC less S a b) (h:ia < a.size) (hl:∀ j,ib≤j→j < b.size→Lt less (el a ia) (el b j)):MI less a b (out.push (el a ia)) (ia+1) ib:=by
 refine ⟨?_,?_,fun x hx j h1 h2=>?_,fun x hx j h1 h2=>?_⟩
 ·rw [Array.toList_push,a4h h]
  refine (m.pm.append_right _).trans ?_
  rw [List.append_assoc,List.append_assoc]
  exact List.Perm.append_left _ List.perm_append_comm
 ·rw [Array.toList_push,List.pairwise_append]
  exact ⟨m.so,List.pairwise_singleton ..,fun x hx y hy=>by rw [List.mem_singleton.mp hy];exact m.ba x hx ia (Nat.le_refl _) h⟩
 ·rw [Array.toList_push] at hx
  rcases List.mem_append.mp hx with z | z
  ·exact m.ba x z j (by omega) h2
  ·rw [List.mem_singleton.mp z];exact c.sa ia j (by omega) h2
 ·rw [Array.toList_push] at hx
  rcases List.mem_append.mp hx with z | z
  ·exact m.bb x z j h1 h2
  ·rw [List.mem_singleton.mp z];exact hl j h1 h2
theorem a5V {a:Array Keyed} {i k:Nat} (h:i+k < a.size):a.extract i (i+(k+1))=(a.extract i (i+k)).push (el a (i+k)):=by
 apply Array.toList_inj.mp
 rw [Array.toList_push,Array.toList_extract,Array.toList_extract,List.extract_eq_take_drop,List.extract_eq_take_drop]
 have e1:i+(k+1) - i=k+1:=by omega
 have e2:i+k - i=k:=by omega
 rw [e1,e2,List.take_add_one,List.getElem?_drop]
 have:a.toList[i+k]?=some (el a (i+k)):=by
  rw [Array.getElem?_toList]
  exact a4f h
 rw [this]
 rfl
theorem MI.moreA (c:MC less S a b) (m:MI less a b out ia ib):∀ k,ia+k≤a.size→(∀ i,i < k→∀ j,ib≤j→j < b.size→Lt less (el a (ia+i)) (el b j))→MI less a b (out++a.extract ia (ia+k)) (ia+k) ib
 | 0,_,_=>by
  have e:a.extract ia (ia+0)=#[]:=by simp;omega
  rw [e,Array.append_empty]
  exact m
 | k+1,h,hl=>by
  have ih:=MI.moreA c m k (by omega) fun i hi=>hl i (by omega)
  rw [a5V (by omega),Array.append_push]
  exact ih.pushA c (by omega) (hl k (by omega))
theorem MI.moreB (c:MC less S a b) (m:MI less a b out ia ib):∀ k,ib+k≤b.size→(∀ i,i < k→∀ j,ia≤j→j < a.size→Lt less (el b (ib+i)) (el a j))→MI less a b (out++b.extract ib (ib+k)) ia (ib+k)
 | 0,_,_=>by
  have e:b.extract ib (ib+0)=#[]:=by simp;omega
  rw [e,Array.append_empty]
  exact m
 | k+1,h,hl=>by
  have ih:=MI.moreB c m k (by omega) fun i hi=>hl i (by omega)
  rw [a5V (by omega),Array.append_push]
  exact ih.pushB c (by omega) (hl k (by omega))
theorem MI.doneB (c:MC less S a b) (m:MI less a b out ia b.size) (h:ia≤a.size):MI less a b (out++a.extract ia++b.extract b.size) a.size b.size:=by
 have e:b.extract b.size=#[]:=by simp
 have m2:=m.moreA c (a.size - ia) (by omega) (fun i hi j h1 h2=>absurd h1 (by omega))
 have e2:ia+(a.size - ia)=a.size:=by omega
 rw [e2] at m2
 rw [e,Array.append_empty]
 exact m2
theorem MI.lastA (c:MC less S a b) (m:MI less a b out ia ib) (h1:ia+1=a.size) (h2:ib≤b.size):MI less a b (out++b.extract ib++a.extract ia) a.size b.size:=by
 have m2:=m.moreB c (b.size - ib) (by omega) (fun i hi j g1 g2=>by
  have:j=a.size - 1:=by omega
  rw [this]
  exact c.so.asym _ _ (c.lst _ (by omega)))
 have e2:ib+(b.size - ib)=b.size:=by omega
 rw [e2] at m2
 have m3:=m2.moreA c 1 (by omega) (fun i hi j g1 g2=>absurd g1 (by omega))
 rw [h1] at m3
 exact m3
structure a1v (st st':SortSt):Prop where
 k:kindOf st'=kindOf st
 a:arrOf st'=arrOf st
 p:pendingOf st'=pendingOf st
 f:failedOf st'=failedOf st
theorem a1v.refl (st:SortSt):a1v st st:=⟨rfl,rfl,rfl,rfl⟩
theorem a1v.set {st st':SortSt} (h:a1v st st') (g:Nat):a1v st (b1H st' g):=⟨h.k,h.a,h.p,h.f⟩
section
variable {prog:Program} {w:World} {A:Around} {E:Value→Shared→Prop} {s:Shared} {κ:SortKind}
theorem a5p (C:Cmp prog w A E s κ less S) (c:MC less S a b) {st:SortSt} {Q:Array Keyed→SortSt→Prop} (hκ:kindOf st=κ)
  (h:∀ m st',a1v st st'→m.toList.Perm (a.toList++b.toList)→m.toList.Pairwise (Lt less)→Q m st'):wpS (model prog w) A E s (a4g a b) Q st:=by
 subst hκ
 have na:=c.na
 have nb:=c.nb
 have fin:∀ {m:Array Keyed} {st':SortSt},a1v st st'→MI less a b m a.size b.size→Q m st':=fun {m st'} k mi=>by
  refine h m st' k ?_ mi.so
  have e:=mi.pm
  rw [←Array.length_toList,List.take_length,←Array.length_toList,List.take_length] at e
  exact e
 rw [a5o]
 refine wpS_bind (wpS_lift (wpAny_rule ⟨rfl,?_⟩))
 dsimp only
 refine wpS_bind (a0k nb ?_)
 have fa:∀ j,j < a.size→Lt less (el b 0) (el a j):=fun j hj=>by
  by_cases z:j=0
  ·rw [z];exact c.so.asym _ _ c.fst
  ·exact c.so.tr _ _ _ (c.so.asym _ _ c.fst) (c.sa 0 j (by omega) hj)
 have m0:MI less a b #[el b 0] 0 1:=by
  refine ⟨?_,List.pairwise_singleton ..,fun x hx j _ h2=>?_,fun x hx j h1 h2=>?_⟩
  ·rw [a4h nb]
   exact List.Perm.refl _
  ·rw [List.mem_singleton.mp hx];exact fa j h2
  ·rw [List.mem_singleton.mp hx];exact c.sb 0 j (by omega) h2
 by_cases g1:(1 == b.size)=true
 ·rw [if_pos g1]
  have g1:1=b.size:=by simpa using g1
  exact wpS_pure (fin (a1v.refl _) (by rw [g1] at m0 ⊢;exact MI.doneB c m0 (by omega)))
 rw [if_neg g1]
 have g1:¬ 1=b.size:=by simpa using g1
 by_cases g2:(0+1 == a.size)=true
 ·rw [if_pos g2]
  have g2:0+1=a.size:=by simpa using g2
  exact wpS_pure (fin (a1v.refl _) (MI.lastA c m0 g2 (by omega)))
 rw [if_neg g2]
 have g2:¬ 0+1=a.size:=by simpa using g2
 have LST:∀ j,j < b.size→less (el b j) (el a (a.size - 1))=true:=c.lst
 refine wpS_bind (wpS_get ?_)
 refine wpS_bind (wpS_mono (wpS_forRange (I:=fun x cc st'=>a1v st st'∧∃ out ia ib mg,cc=(none,out,ia,ib,mg)∧MI less a b out ia ib∧ia+1 < a.size∧ib < b.size∧x+1≤ia+ib)
  (Q:=fun cc st'=>a1v st st'∧∃ m o i j g,cc=(some m,o,i,j,g)∧MI less a b m a.size b.size) ?step ?ende ⟨a1v.refl _,_,0,1,_,rfl,m0,by omega,by omega,by omega⟩) ?post)
 case post =>
  rintro cc st' ⟨k,m,o,i,j,g,rfl,mi⟩
  exact wpS_pure (fin k mi)
 case ende =>
  rintro cc st' ⟨k,out,ia,ib,mg,rfl,m,h1,h2,h3⟩
  exfalso
  omega
 case step =>
  rintro x cc st1 _ hx ⟨k1,out,ia,ib,mg,rfl,m1,h1,h2,h3⟩
  dsimp only
  refine wpS_bind (wpS_mono (wpS_forRange (I:=fun y cc st'=>st'=st1∧∃ out2 ia2 ib2 ac bc,cc=(none,out2,ia2,ib2,ac,bc)∧MI less a b out2 ia2 ib2∧ia2+1 < a.size∧ib2 < b.size∧ia+ib+y≤ia2+ib2)
   (Q:=fun cc st'=>st'=st1∧((∃ m o i j ac bc,cc=(some m,o,i,j,ac,bc)∧MI less a b m a.size b.size)∨∃ out2 ia2 ib2 ac bc,cc=(none,out2,ia2,ib2,ac,bc)∧MI less a b out2 ia2 ib2∧ia2+1 < a.size∧ib2 < b.size∧ia+ib+1≤ia2+ib2)) ?istep ?iende ⟨rfl,_,_,_,_,_,rfl,m1,h1,h2,by omega⟩) ?ipost)
  case iende =>
   rintro cc st' ⟨rfl,out2,ia2,ib2,ac,bc,rfl,m2,i1,i2,i3⟩
   exfalso
   omega
  case istep =>
   rintro y cc st' _ hy ⟨rfl,out2,ia2,ib2,ac,bc,rfl,m2,i1,i2,i3⟩
   dsimp only
   refine wpS_bind (a0k i2 (wpS_bind (a0k (show ia2 < a.size by omega) ?_)))
   refine wpS_bind (C _ _ _ _ (c.xb _ i2) (c.xa _ (by omega)) k1.k ?_)
   dsimp only
   cases e:less (el b ib2) (el a ia2) with
   | true =>
    rw [if_pos rfl]
    refine wpS_bind (a0k i2 ?_)
    have m3:=m2.pushB c i2 (fun j q1 q2=>by
     by_cases z:j=ia2
     ·rw [z];exact c.so.asym _ _ e
     ·exact c.so.tr _ _ _ (c.so.asym _ _ e) (c.sa _ _ (by omega) q2))
    by_cases g3:(ib2+1 == b.size)=true
    ·rw [if_pos g3]
     have g3:ib2+1=b.size:=by simpa using g3
     exact wpS_pure ⟨rfl,.inl ⟨_,_,_,_,_,_,rfl,by rw [g3] at m3 ⊢;exact MI.doneB c m3 (by omega)⟩⟩
    ·rw [if_neg g3]
     have g3:¬ ib2+1=b.size:=by simpa using g3
     split
     ·exact wpS_pure ⟨rfl,.inr ⟨_,_,_,_,_,rfl,m3,by omega,by omega,by omega⟩⟩
     ·exact wpS_pure ⟨rfl,_,_,_,_,_,rfl,m3,by omega,by omega,by omega⟩
   | false =>
    rw [if_neg (by decide)]
    refine wpS_bind (a0k (show ia2 < a.size by omega) ?_)
    have e2:=e
    have m3:=m2.pushA c (show ia2 < a.size by omega) (fun j q1 q2=>by
     by_cases z:j=ib2
     ·rw [z];exact e2
     ·exact c.so.tr _ _ _ e2 (c.sb _ _ (by omega) q2))
    by_cases g3:(ia2+1+1 == a.size)=true
    ·rw [if_pos g3]
     have g3:ia2+1+1=a.size:=by simpa using g3
     exact wpS_pure ⟨rfl,.inl ⟨_,_,_,_,_,_,rfl,MI.lastA c m3 g3 (by omega)⟩⟩
    ·rw [if_neg g3]
     have g3:¬ ia2+1+1=a.size:=by simpa using g3
     split
     ·exact wpS_pure ⟨rfl,.inr ⟨_,_,_,_,_,rfl,m3,by omega,by omega,by omega⟩⟩
     ·exact wpS_pure ⟨rfl,_,_,_,_,_,rfl,m3,by omega,by omega,by omega⟩
  case ipost =>
   rintro cc st' ⟨est,⟨m,o,i,j,ac,bc,rfl,mi⟩ | ⟨out2,ia2,ib2,ac,bc,rfl,m2,i1,i2,i3⟩⟩
   ·subst est
    exact wpS_pure ⟨k1,_,_,_,_,_,rfl,mi⟩
   subst est
   dsimp only
   refine wpS_bind (wpS_lift (wpAny_rule ⟨rfl,?_⟩))
   refine wpS_bind (wpS_mono (wpS_forRange (I:=fun y cc st'=>a1v st st'∧∃ out3 ia3 ib3 mg3 ac bc,cc=(none,out3,ia3,ib3,mg3,ac,bc)∧MI less a b out3 ia3 ib3∧ia3+1 < a.size∧ib3 < b.size∧ia+ib+1≤ia3+ib3)
    (Q:=fun cc st'=>a1v st st'∧((∃ m o i j g ac bc,cc=(some m,o,i,j,g,ac,bc)∧MI less a b m a.size b.size)∨∃ out3 ia3 ib3 mg3 ac bc,cc=(none,out3,ia3,ib3,mg3,ac,bc)∧MI less a b out3 ia3 ib3∧ia3+1 < a.size∧ib3 < b.size∧ia+ib+1≤ia3+ib3)) ?gstep ?gende ⟨k1,_,_,_,_,_,_,rfl,m2,i1,i2,i3⟩) ?gpost)
   case gende =>
    rintro cc st' ⟨k,out3,ia3,ib3,mg3,ac,bc,rfl,m3,j1,j2,j3⟩
    exact ⟨k,.inr ⟨_,_,_,_,_,_,rfl,m3,j1,j2,j3⟩⟩
   case gpost =>
    rintro cc st' ⟨k,⟨m,o,i,j,g,ac,bc,rfl,mi⟩ | ⟨out3,ia3,ib3,mg3,ac,bc,rfl,m3,j1,j2,j3⟩⟩
    ·exact wpS_pure ⟨k,_,_,_,_,_,rfl,mi⟩
    dsimp only
    rw [a0I]
    exact wpS_bind (wpS_modify (wpS_pure ⟨k.set _,_,_,_,_,rfl,m3,j1,j2,by omega⟩))
   case gstep =>
    rintro y cc st3 _ hy ⟨ks0,out3,ia3,ib3,mg3,ac,bc,rfl,m3,j1,j2,j3⟩
    dsimp only
    have LST:=LST ib3 j2
    by_cases gg:mg3 > 1
    ·rw [if_pos gg]
     rw [a0I]
     refine wpS_bind (wpS_modify ?_)
     have ks:=ks0.set (mg3 - 1)
     generalize b1H st3 (mg3 - 1)=st4 at ks ⊢
     refine wpS_bind (a0k (show ib3 < b.size by omega) ?_)
     refine wpS_bind (a0B C (show 0 < a.size - ia3 by omega) (by omega) (c.xb _ (by omega)) (fun i hi=>c.xa _ (by omega)) ks.k (fun i j hij hj hb=>?_) (fun k1 hk1 hk2 hk3=>?_))
     ·show (!less (el b ib3) (el a (ia3+i)))=true
      have hb:(!less (el b ib3) (el a (ia3+j)))=true:=hb
      rw [c.so.tr _ _ _ (c.sa (ia3+i) (ia3+j) (by omega) (by omega)) (show less (el b ib3) (el a (ia3+j))=false by simpa using hb)]
      rfl
     dsimp only
     have hk4:∀ i,i < k1→Lt less (el a (ia3+i)) (el b ib3):=fun i hi=>by
      have q:(!less (el b ib3) (el a (ia3+i)))=true:=hk2 i hi
      show less (el b ib3) (el a (ia3+i))=false
      simpa using q
     have hk5:∀ i,k1≤i→i < a.size - ia3→less (el b ib3) (el a (ia3+i))=true:=fun i hi hi2=>by
      have q:(!less (el b ib3) (el a (ia3+i)))=false:=hk3 i hi hi2
      simpa using q
     have HB:∀ j,ia3+k1≤j→j < a.size→Lt less (el b ib3) (el a j):=fun j h1 h2=>by
      have q:=hk5 (j - ia3) (by omega) (by omega)
      have e:ia3+(j - ia3)=j:=by omega
      rw [e] at q
      exact c.so.asym _ _ q
     by_cases g6:k1 > 0
     ·rw [if_pos g6]
      have m35:=MI.moreA c m3 k1 (by omega) (fun i hi j h1 h2=>by
       by_cases z:j=ib3
       ·rw [z];exact hk4 i hi
       ·exact c.so.tr _ _ _ (hk4 i hi) (c.sb _ _ (by omega) h2))
      have lk:ia3+k1≤a.size - 1:=by
       rcases Nat.lt_or_ge (ia3+k1) a.size with z | z
       ·omega
       ·have q1:=hk4 (a.size - 1 - ia3) (by omega)
        have e:ia3+(a.size - 1 - ia3)=a.size - 1:=by omega
        rw [e] at q1
        rw [show less (el b ib3) (el a (a.size - 1))=false from q1] at LST
        cases LST
      by_cases g7:(ia3+k1+1 == a.size)=true
      ·rw [if_pos g7]
       have g7:ia3+k1+1=a.size:=by simpa using g7
       exact wpS_pure ⟨ks,.inl ⟨_,_,_,_,_,_,_,rfl,MI.lastA c m35 g7 (by omega)⟩⟩
      ·rw [if_neg g7]
       have g7:¬ ia3+k1+1=a.size:=by simpa using g7
       by_cases g8:(ia3+k1 == a.size)=true
       ·exact absurd (by simpa using g8:ia3+k1=a.size) (by omega)
       ·rw [if_neg g8]
        have M3:=m35
        have HB3:=HB
        obtain ⟨ia4,e4⟩:∃ ia4,ia4=ia3+k1:=⟨_,rfl⟩
        rw [←e4] at M3 HB3 g7 lk ⊢
        refine wpS_bind (a0k (show ib3 < b.size by omega) ?_)
        try dsimp only
        have m4:=MI.pushB M3 c (show ib3 < b.size by omega) HB3
        by_cases g2:(ib3+1 == b.size)=true
        ·rw [if_pos g2]
         have g2:ib3+1=b.size:=by simpa using g2
         exact wpS_pure ⟨ks,.inl ⟨_,_,_,_,_,_,_,rfl,by rw [g2] at m4 ⊢;exact MI.doneB c m4 (by omega)⟩⟩
        ·rw [if_neg g2]
         have g2:¬ ib3+1=b.size:=by simpa using g2
         refine wpS_bind (a0k (show ia4 < a.size by omega) ?_)
         refine wpS_bind (a0B C (show 0 < b.size - (ib3+1) by omega) (by omega) (c.xa _ (by omega)) (fun i hi=>c.xb _ (by omega)) ks.k (fun i j hij hj hb=>?_) (fun k2 hk2 hk3 hk4=>?_))
         ·show less (el b (ib3+1+i)) (el a ia4)=true
          have hb:less (el b (ib3+1+j)) (el a ia4)=true:=hb
          cases e:less (el b (ib3+1+i)) (el a ia4) with
          | true=>rfl
          | false=>rw [c.so.tr _ _ _ e (c.sb (ib3+1+i) (ib3+1+j) (by omega) (by omega))] at hb;exact hb
         dsimp only
         have hk5:∀ i,i < k2→less (el b (ib3+1+i)) (el a ia4)=true:=fun i hi=>hk3 i hi
         have hk6:∀ i,k2≤i→i < b.size - (ib3+1)→less (el b (ib3+1+i)) (el a ia4)=false:=fun i hi hi2=>hk4 i hi hi2
         have HA:∀ j,ib3+1+k2≤j→j < b.size→Lt less (el a ia4) (el b j):=fun j h1 h2=>by
          have q:=hk6 (j - (ib3+1)) (by omega) (by omega)
          have e:ib3+1+(j - (ib3+1))=j:=by omega
          rw [e] at q
          exact q
         by_cases g3:k2 > 0
         ·rw [if_pos g3]
          have m45:=MI.moreB c m4 k2 (by omega) (fun i hi j h1 h2=>by
           by_cases z:j=ia4
           ·rw [z];exact c.so.asym _ _ (hk5 i hi)
           ·exact c.so.tr _ _ _ (c.so.asym _ _ (hk5 i hi)) (c.sa _ _ (by omega) h2))
          by_cases g5:(ib3+1+k2 == b.size)=true
          ·rw [if_pos g5]
           have g5:ib3+1+k2=b.size:=by simpa using g5
           exact wpS_pure ⟨ks,.inl ⟨_,_,_,_,_,_,_,rfl,by rw [g5] at m45 ⊢;exact MI.doneB c m45 (by omega)⟩⟩
          ·rw [if_neg g5]
           have g5:¬ ib3+1+k2=b.size:=by simpa using g5
           have M4:=m45
           have HA4:=HA
           refine wpS_bind (a0k (show ia4 < a.size by omega) ?_)
           try dsimp only
           have m5:=MI.pushA M4 c (show ia4 < a.size by omega) HA4
           by_cases g4:(ia4+1+1 == a.size)=true
           ·rw [if_pos g4]
            have g4:ia4+1+1=a.size:=by simpa using g4
            exact wpS_pure ⟨ks,.inl ⟨_,_,_,_,_,_,_,rfl,MI.lastA c m5 g4 (by omega)⟩⟩
           ·rw [if_neg g4]
            have g4:¬ ia4+1+1=a.size:=by simpa using g4
            split
            ·exact wpS_pure ⟨ks,.inr ⟨_,_,_,_,_,_,rfl,m5,by omega,by omega,by omega⟩⟩
            ·exact wpS_pure ⟨ks,_,_,_,_,_,_,rfl,m5,by omega,by omega,by omega⟩
         ·rw [if_neg g3]
          have z2:k2=0:=by omega
          subst z2
          have M4:=m4
          have HA4:∀ j,ib3+1≤j→j < b.size→Lt less (el a ia4) (el b j):=fun j h1 h2=>HA j (by omega) h2
          refine wpS_bind (a0k (show ia4 < a.size by omega) ?_)
          try dsimp only
          have m5:=MI.pushA M4 c (show ia4 < a.size by omega) HA4
          by_cases g4:(ia4+1+1 == a.size)=true
          ·rw [if_pos g4]
           have g4:ia4+1+1=a.size:=by simpa using g4
           exact wpS_pure ⟨ks,.inl ⟨_,_,_,_,_,_,_,rfl,MI.lastA c m5 g4 (by omega)⟩⟩
          ·rw [if_neg g4]
           have g4:¬ ia4+1+1=a.size:=by simpa using g4
           split
           ·exact wpS_pure ⟨ks,.inr ⟨_,_,_,_,_,_,rfl,m5,by omega,by omega,by omega⟩⟩
           ·exact wpS_pure ⟨ks,_,_,_,_,_,_,rfl,m5,by omega,by omega,by omega⟩
     ·rw [if_neg g6]
      have z1:k1=0:=by omega
      subst z1
      have M3:=m3
      have HB3:∀ j,ia3≤j→j < a.size→Lt less (el b ib3) (el a j):=fun j h1 h2=>HB j (by omega) h2
      refine wpS_bind (a0k (show ib3 < b.size by omega) ?_)
      try dsimp only
      have m4:=MI.pushB M3 c (show ib3 < b.size by omega) HB3
      by_cases g2:(ib3+1 == b.size)=true
      ·rw [if_pos g2]
       have g2:ib3+1=b.size:=by simpa using g2
       exact wpS_pure ⟨ks,.inl ⟨_,_,_,_,_,_,_,rfl,by rw [g2] at m4 ⊢;exact MI.doneB c m4 (by omega)⟩⟩
      ·rw [if_neg g2]
       have g2:¬ ib3+1=b.size:=by simpa using g2
       refine wpS_bind (a0k (show ia3 < a.size by omega) ?_)
       refine wpS_bind (a0B C (show 0 < b.size - (ib3+1) by omega) (by omega) (c.xa _ (by omega)) (fun i hi=>c.xb _ (by omega)) ks.k (fun i j hij hj hb=>?_) (fun k2 hk2 hk3 hk4=>?_))
       ·show less (el b (ib3+1+i)) (el a ia3)=true
        have hb:less (el b (ib3+1+j)) (el a ia3)=true:=hb
        cases e:less (el b (ib3+1+i)) (el a ia3) with
        | true=>rfl
        | false=>rw [c.so.tr _ _ _ e (c.sb (ib3+1+i) (ib3+1+j) (by omega) (by omega))] at hb;exact hb
       dsimp only
       have hk5:∀ i,i < k2→less (el b (ib3+1+i)) (el a ia3)=true:=fun i hi=>hk3 i hi
       have hk6:∀ i,k2≤i→i < b.size - (ib3+1)→less (el b (ib3+1+i)) (el a ia3)=false:=fun i hi hi2=>hk4 i hi hi2
       have HA:∀ j,ib3+1+k2≤j→j < b.size→Lt less (el a ia3) (el b j):=fun j h1 h2=>by
        have q:=hk6 (j - (ib3+1)) (by omega) (by omega)
        have e:ib3+1+(j - (ib3+1))=j:=by omega
        rw [e] at q
        exact q
       by_cases g3:k2 > 0
       ·rw [if_pos g3]
        have m45:=MI.moreB c m4 k2 (by omega) (fun i hi j h1 h2=>by
         by_cases z:j=ia3
         ·rw [z];exact c.so.asym _ _ (hk5 i hi)
         ·exact c.so.tr _ _ _ (c.so.asym _ _ (hk5 i hi)) (c.sa _ _ (by omega) h2))
        by_cases g5:(ib3+1+k2 == b.size)=true
        ·rw [if_pos g5]
         have g5:ib3+1+k2=b.size:=by simpa using g5
         exact wpS_pure ⟨ks,.inl ⟨_,_,_,_,_,_,_,rfl,by rw [g5] at m45 ⊢;exact MI.doneB c m45 (by omega)⟩⟩
        ·rw [if_neg g5]
         have g5:¬ ib3+1+k2=b.size:=by simpa using g5
         have M4:=m45
         have HA4:=HA
         refine wpS_bind (a0k (show ia3 < a.size by omega) ?_)
         try dsimp only
         have m5:=MI.pushA M4 c (show ia3 < a.size by omega) HA4
         by_cases g4:(ia3+1+1 == a.size)=true
         ·rw [if_pos g4]
          have g4:ia3+1+1=a.size:=by simpa using g4
          exact wpS_pure ⟨ks,.inl ⟨_,_,_,_,_,_,_,rfl,MI.lastA c m5 g4 (by omega)⟩⟩
         ·rw [if_neg g4]
          have g4:¬ ia3+1+1=a.size:=by simpa using g4
          split
          ·exact wpS_pure ⟨ks,.inr ⟨_,_,_,_,_,_,rfl,m5,by omega,by omega,by omega⟩⟩
          ·exact wpS_pure ⟨ks,_,_,_,_,_,_,rfl,m5,by omega,by omega,by omega⟩
       ·rw [if_neg g3]
        have z2:k2=0:=by omega
        subst z2
        have M4:=m4
        have HA4:∀ j,ib3+1≤j→j < b.size→Lt less (el a ia3) (el b j):=fun j h1 h2=>HA j (by omega) h2
        refine wpS_bind (a0k (show ia3 < a.size by omega) ?_)
        try dsimp only
        have m5:=MI.pushA M4 c (show ia3 < a.size by omega) HA4
        by_cases g4:(ia3+1+1 == a.size)=true
        ·rw [if_pos g4]
         have g4:ia3+1+1=a.size:=by simpa using g4
         exact wpS_pure ⟨ks,.inl ⟨_,_,_,_,_,_,_,rfl,MI.lastA c m5 g4 (by omega)⟩⟩
        ·rw [if_neg g4]
         have g4:¬ ia3+1+1=a.size:=by simpa using g4
         split
         ·exact wpS_pure ⟨ks,.inr ⟨_,_,_,_,_,_,rfl,m5,by omega,by omega,by omega⟩⟩
         ·exact wpS_pure ⟨ks,_,_,_,_,_,_,rfl,m5,by omega,by omega,by omega⟩
    ·rw [if_neg gg]
     rw [a0I]
     refine wpS_bind (wpS_modify ?_)
     have ks:=ks0.set mg3
     generalize b1H st3 mg3=st4 at ks ⊢
     refine wpS_bind (a0k (show ib3 < b.size by omega) ?_)
     refine wpS_bind (a0B C (show 0 < a.size - ia3 by omega) (by omega) (c.xb _ (by omega)) (fun i hi=>c.xa _ (by omega)) ks.k (fun i j hij hj hb=>?_) (fun k1 hk1 hk2 hk3=>?_))
     ·show (!less (el b ib3) (el a (ia3+i)))=true
      have hb:(!less (el b ib3) (el a (ia3+j)))=true:=hb
      rw [c.so.tr _ _ _ (c.sa (ia3+i) (ia3+j) (by omega) (by omega)) (show less (el b ib3) (el a (ia3+j))=false by simpa using hb)]
      rfl
     dsimp only
     have hk4:∀ i,i < k1→Lt less (el a (ia3+i)) (el b ib3):=fun i hi=>by
      have q:(!less (el b ib3) (el a (ia3+i)))=true:=hk2 i hi
      show less (el b ib3) (el a (ia3+i))=false
      simpa using q
     have hk5:∀ i,k1≤i→i < a.size - ia3→less (el b ib3) (el a (ia3+i))=true:=fun i hi hi2=>by
      have q:(!less (el b ib3) (el a (ia3+i)))=false:=hk3 i hi hi2
      simpa using q
     have HB:∀ j,ia3+k1≤j→j < a.size→Lt less (el b ib3) (el a j):=fun j h1 h2=>by
      have q:=hk5 (j - ia3) (by omega) (by omega)
      have e:ia3+(j - ia3)=j:=by omega
      rw [e] at q
      exact c.so.asym _ _ q
     by_cases g6:k1 > 0
     ·rw [if_pos g6]
      have m35:=MI.moreA c m3 k1 (by omega) (fun i hi j h1 h2=>by
       by_cases z:j=ib3
       ·rw [z];exact hk4 i hi
       ·exact c.so.tr _ _ _ (hk4 i hi) (c.sb _ _ (by omega) h2))
      have lk:ia3+k1≤a.size - 1:=by
       rcases Nat.lt_or_ge (ia3+k1) a.size with z | z
       ·omega
       ·have q1:=hk4 (a.size - 1 - ia3) (by omega)
        have e:ia3+(a.size - 1 - ia3)=a.size - 1:=by omega
        rw [e] at q1
        rw [show less (el b ib3) (el a (a.size - 1))=false from q1] at LST
        cases LST
      by_cases g7:(ia3+k1+1 == a.size)=true
      ·rw [if_pos g7]
       have g7:ia3+k1+1=a.size:=by simpa using g7
       exact wpS_pure ⟨ks,.inl ⟨_,_,_,_,_,_,_,rfl,MI.lastA c m35 g7 (by omega)⟩⟩
      ·rw [if_neg g7]
       have g7:¬ ia3+k1+1=a.size:=by simpa using g7
       by_cases g8:(ia3+k1 == a.size)=true
       ·exact absurd (by simpa using g8:ia3+k1=a.size) (by omega)
       ·rw [if_neg g8]
        have M3:=m35
        have HB3:=HB
        obtain ⟨ia4,e4⟩:∃ ia4,ia4=ia3+k1:=⟨_,rfl⟩
        rw [←e4] at M3 HB3 g7 lk ⊢
        refine wpS_bind (a0k (show ib3 < b.size by omega) ?_)
        try dsimp only
        have m4:=MI.pushB M3 c (show ib3 < b.size by omega) HB3
        by_cases g2:(ib3+1 == b.size)=true
        ·rw [if_pos g2]
         have g2:ib3+1=b.size:=by simpa using g2
         exact wpS_pure ⟨ks,.inl ⟨_,_,_,_,_,_,_,rfl,by rw [g2] at m4 ⊢;exact MI.doneB c m4 (by omega)⟩⟩
        ·rw [if_neg g2]
         have g2:¬ ib3+1=b.size:=by simpa using g2
         refine wpS_bind (a0k (show ia4 < a.size by omega) ?_)
         refine wpS_bind (a0B C (show 0 < b.size - (ib3+1) by omega) (by omega) (c.xa _ (by omega)) (fun i hi=>c.xb _ (by omega)) ks.k (fun i j hij hj hb=>?_) (fun k2 hk2 hk3 hk4=>?_))
         ·show less (el b (ib3+1+i)) (el a ia4)=true
          have hb:less (el b (ib3+1+j)) (el a ia4)=true:=hb
          cases e:less (el b (ib3+1+i)) (el a ia4) with
          | true=>rfl
          | false=>rw [c.so.tr _ _ _ e (c.sb (ib3+1+i) (ib3+1+j) (by omega) (by omega))] at hb;exact hb
         dsimp only
         have hk5:∀ i,i < k2→less (el b (ib3+1+i)) (el a ia4)=true:=fun i hi=>hk3 i hi
         have hk6:∀ i,k2≤i→i < b.size - (ib3+1)→less (el b (ib3+1+i)) (el a ia4)=false:=fun i hi hi2=>hk4 i hi hi2
         have HA:∀ j,ib3+1+k2≤j→j < b.size→Lt less (el a ia4) (el b j):=fun j h1 h2=>by
          have q:=hk6 (j - (ib3+1)) (by omega) (by omega)
          have e:ib3+1+(j - (ib3+1))=j:=by omega
          rw [e] at q
          exact q
         by_cases g3:k2 > 0
         ·rw [if_pos g3]
          have m45:=MI.moreB c m4 k2 (by omega) (fun i hi j h1 h2=>by
           by_cases z:j=ia4
           ·rw [z];exact c.so.asym _ _ (hk5 i hi)
           ·exact c.so.tr _ _ _ (c.so.asym _ _ (hk5 i hi)) (c.sa _ _ (by omega) h2))
          by_cases g5:(ib3+1+k2 == b.size)=true
          ·rw [if_pos g5]
           have g5:ib3+1+k2=b.size:=by simpa using g5
           exact wpS_pure ⟨ks,.inl ⟨_,_,_,_,_,_,_,rfl,by rw [g5] at m45 ⊢;exact MI.doneB c m45 (by omega)⟩⟩
          ·rw [if_neg g5]
           have g5:¬ ib3+1+k2=b.size:=by simpa using g5
           have M4:=m45
           have HA4:=HA
           refine wpS_bind (a0k (show ia4 < a.size by omega) ?_)
           try dsimp only
           have m5:=MI.pushA M4 c (show ia4 < a.size by omega) HA4
           by_cases g4:(ia4+1+1 == a.size)=true
           ·rw [if_pos g4]
            have g4:ia4+1+1=a.size:=by simpa using g4
            exact wpS_pure ⟨ks,.inl ⟨_,_,_,_,_,_,_,rfl,MI.lastA c m5 g4 (by omega)⟩⟩
           ·rw [if_neg g4]
            have g4:¬ ia4+1+1=a.size:=by simpa using g4
            split
            ·exact wpS_pure ⟨ks,.inr ⟨_,_,_,_,_,_,rfl,m5,by omega,by omega,by omega⟩⟩
            ·exact wpS_pure ⟨ks,_,_,_,_,_,_,rfl,m5,by omega,by omega,by omega⟩
         ·rw [if_neg g3]
          have z2:k2=0:=by omega
          subst z2
          have M4:=m4
          have HA4:∀ j,ib3+1≤j→j < b.size→Lt less (el a ia4) (el b j):=fun j h1 h2=>HA j (by omega) h2
          refine wpS_bind (a0k (show ia4 < a.size by omega) ?_)
          try dsimp only
          have m5:=MI.pushA M4 c (show ia4 < a.size by omega) HA4
          by_cases g4:(ia4+1+1 == a.size)=true
          ·rw [if_pos g4]
           have g4:ia4+1+1=a.size:=by simpa using g4
           exact wpS_pure ⟨ks,.inl ⟨_,_,_,_,_,_,_,rfl,MI.lastA c m5 g4 (by omega)⟩⟩
          ·rw [if_neg g4]
           have g4:¬ ia4+1+1=a.size:=by simpa using g4
           split
           ·exact wpS_pure ⟨ks,.inr ⟨_,_,_,_,_,_,rfl,m5,by omega,by omega,by omega⟩⟩
           ·exact wpS_pure ⟨ks,_,_,_,_,_,_,rfl,m5,by omega,by omega,by omega⟩
     ·rw [if_neg g6]
      have z1:k1=0:=by omega
      subst z1
      have M3:=m3
      have HB3:∀ j,ia3≤j→j < a.size→Lt less (el b ib3) (el a j):=fun j h1 h2=>HB j (by omega) h2
      refine wpS_bind (a0k (show ib3 < b.size by omega) ?_)
      try dsimp only
      have m4:=MI.pushB M3 c (show ib3 < b.size by omega) HB3
      by_cases g2:(ib3+1 == b.size)=true
      ·rw [if_pos g2]
       have g2:ib3+1=b.size:=by simpa using g2
       exact wpS_pure ⟨ks,.inl ⟨_,_,_,_,_,_,_,rfl,by rw [g2] at m4 ⊢;exact MI.doneB c m4 (by omega)⟩⟩
      ·rw [if_neg g2]
       have g2:¬ ib3+1=b.size:=by simpa using g2
       refine wpS_bind (a0k (show ia3 < a.size by omega) ?_)
       refine wpS_bind (a0B C (show 0 < b.size - (ib3+1) by omega) (by omega) (c.xa _ (by omega)) (fun i hi=>c.xb _ (by omega)) ks.k (fun i j hij hj hb=>?_) (fun k2 hk2 hk3 hk4=>?_))
       ·show less (el b (ib3+1+i)) (el a ia3)=true
        have hb:less (el b (ib3+1+j)) (el a ia3)=true:=hb
        cases e:less (el b (ib3+1+i)) (el a ia3) with
        | true=>rfl
        | false=>rw [c.so.tr _ _ _ e (c.sb (ib3+1+i) (ib3+1+j) (by omega) (by omega))] at hb;exact hb
       dsimp only
       have hk5:∀ i,i < k2→less (el b (ib3+1+i)) (el a ia3)=true:=fun i hi=>hk3 i hi
       have hk6:∀ i,k2≤i→i < b.size - (ib3+1)→less (el b (ib3+1+i)) (el a ia3)=false:=fun i hi hi2=>hk4 i hi hi2
       have HA:∀ j,ib3+1+k2≤j→j < b.size→Lt less (el a ia3) (el b j):=fun j h1 h2=>by
        have q:=hk6 (j - (ib3+1)) (by omega) (by omega)
        have e:ib3+1+(j - (ib3+1))=j:=by omega
        rw [e] at q
        exact q
       by_cases g3:k2 > 0
       ·rw [if_pos g3]
        have m45:=MI.moreB c m4 k2 (by omega) (fun i hi j h1 h2=>by
         by_cases z:j=ia3
         ·rw [z];exact c.so.asym _ _ (hk5 i hi)
         ·exact c.so.tr _ _ _ (c.so.asym _ _ (hk5 i hi)) (c.sa _ _ (by omega) h2))
        by_cases g5:(ib3+1+k2 == b.size)=true
        ·rw [if_pos g5]
         have g5:ib3+1+k2=b.size:=by simpa using g5
         exact wpS_pure ⟨ks,.inl ⟨_,_,_,_,_,_,_,rfl,by rw [g5] at m45 ⊢;exact MI.doneB c m45 (by omega)⟩⟩
        ·rw [if_neg g5]
         have g5:¬ ib3+1+k2=b.size:=by simpa using g5
         have M4:=m45
         have HA4:=HA
         refine wpS_bind (a0k (show ia3 < a.size by omega) ?_)
         try dsimp only
         have m5:=MI.pushA M4 c (show ia3 < a.size by omega) HA4
         by_cases g4:(ia3+1+1 == a.size)=true
         ·rw [if_pos g4]
          have g4:ia3+1+1=a.size:=by simpa using g4
          exact wpS_pure ⟨ks,.inl ⟨_,_,_,_,_,_,_,rfl,MI.lastA c m5 g4 (by omega)⟩⟩
         ·rw [if_neg g4]
          have g4:¬ ia3+1+1=a.size:=by simpa using g4
          split
          ·exact wpS_pure ⟨ks,.inr ⟨_,_,_,_,_,_,rfl,m5,by omega,by omega,by omega⟩⟩
          ·exact wpS_pure ⟨ks,_,_,_,_,_,_,rfl,m5,by omega,by omega,by omega⟩
       ·rw [if_neg g3]
        have z2:k2=0:=by omega
        subst z2
        have M4:=m4
        have HA4:∀ j,ib3+1≤j→j < b.size→Lt less (el a ia3) (el b j):=fun j h1 h2=>HA j (by omega) h2
        refine wpS_bind (a0k (show ia3 < a.size by omega) ?_)
        try dsimp only
        have m5:=MI.pushA M4 c (show ia3 < a.size by omega) HA4
        by_cases g4:(ia3+1+1 == a.size)=true
        ·rw [if_pos g4]
         have g4:ia3+1+1=a.size:=by simpa using g4
         exact wpS_pure ⟨ks,.inl ⟨_,_,_,_,_,_,_,rfl,MI.lastA c m5 g4 (by omega)⟩⟩
        ·rw [if_neg g4]
         have g4:¬ ia3+1+1=a.size:=by simpa using g4
         split
         ·exact wpS_pure ⟨ks,.inr ⟨_,_,_,_,_,_,rfl,m5,by omega,by omega,by omega⟩⟩
         ·exact wpS_pure ⟨ks,_,_,_,_,_,_,rfl,m5,by omega,by omega,by omega⟩
end
def a4i:Array Keyed→Array Keyed→StateT SortSt Sem (Array Keyed):=sortPriv% PySem.Builtin.mergeHi
theorem a5q (a b:Array Keyed):a4i a b=(do
 rule "list.sort.merge-hi"
 let total:=a.size+b.size
 let done (out:Array Keyed) (na nb:Nat):=a.extract 0 na++b.extract 0 nb++out.reverse
 let firstOfB (out:Array Keyed) (na nb:Nat):=b.extract 0 nb++a.extract 0 na++out.reverse
 let mut na:=a.size - 1
 let mut nb:=b.size
 let mut out:Array Keyed:=#[←elem' a na]
 if na == 0 then return done out na nb
 if nb == 1 then return firstOfB out na nb
 let mut minGallop:=gallopOf (←get)
 for _ in [0:total] do
  let mut acount:=0
  let mut bcount:=0
  for _ in [0:total] do
   let some aWins ←lt' (←elem' b (nb - 1)) (←elem' a (na - 1)) | return done out na nb
   if aWins then
    na:=na - 1;out:=out.push (←elem' a na);acount:=acount+1;bcount:=0
    if na == 0 then return done out na nb
    if acount ≥ minGallop then break
   else
    nb:=nb - 1;out:=out.push (←elem' b nb);bcount:=bcount+1;acount:=0
    if nb == 1 then return firstOfB out na nb
    if bcount ≥ minGallop then break
  rule "list.sort.gallop"
  minGallop:=minGallop+1
  for _ in [0:total] do
   if minGallop > 1 then minGallop:=minGallop - 1
   a1e minGallop
   let some at_ ←gallop' false (←elem' b (nb - 1)) a 0 na (na - 1) | return done out na nb
   let k:=na - at_
   acount:=k
   if k > 0 then
    out:=out++(a.extract at_ na).reverse;na:=at_
    if na == 0 then return done out na nb
   nb:=nb - 1;out:=out.push (←elem' b nb)
   if nb == 1 then return firstOfB out na nb
   let some at_ ←gallop' true (←elem' a (na - 1)) b 0 nb (nb - 1) | return done out na nb
   let k:=nb - at_
   bcount:=k
   if k > 0 then
    out:=out++(b.extract at_ nb).reverse;nb:=at_
    if nb == 1 then return firstOfB out na nb
    if nb == 0 then return done out na nb
   na:=na - 1;out:=out.push (←elem' a na)
   if na == 0 then return done out na nb
   if acount < 7 && bcount < 7 then break
  minGallop:=minGallop+1
  a1e minGallop
 unsupported "internal:list.sort.merge-bound"):=rfl
structure HI (less:Keyed→Keyed→Bool) (a b out:Array Keyed) (na nb:Nat):Prop where
 pm:out.toList.Perm (a.toList.drop na++b.toList.drop nb)
 so:out.toList.Pairwise (fun x y=>Lt less y x)
 aa:∀ x∈out.toList,∀ j,j < na→Lt less (el a j) x
 ab:∀ x∈out.toList,∀ j,j < nb→Lt less (el b j) x
variable {less:Keyed→Keyed→Bool} {S:Keyed→Prop} {a b out:Array Keyed} {na nb:Nat}
theorem a4j {a:Array Keyed} {i:Nat} (h:i < a.size):a.toList.drop i=el a i :: a.toList.drop (i+1):=by
 have:a.toList[i]?=some (el a i):=by
  rw [Array.getElem?_toList]
  exact a4f h
 have hl:i < a.toList.length:=by rw [Array.length_toList];exact h
 rw [List.drop_eq_getElem_cons hl]
 rw [List.getElem?_eq_getElem hl] at this
 rw [Option.some.inj this]
theorem HI.pushA (m:HI less a b out (na+1) nb) (c:MC less S a b) (h:na < a.size) (hl:∀ j,j < nb→Lt less (el b j) (el a na)):HI less a b (out.push (el a na)) na nb:=by
 refine ⟨?_,?_,fun x hx j h1=>?_,fun x hx j h1=>?_⟩
 ·rw [Array.toList_push,a4j h]
  exact List.perm_append_comm.trans ((m.pm.cons _).trans (List.Perm.refl _))
 ·rw [Array.toList_push,List.pairwise_append]
  exact ⟨m.so,List.pairwise_singleton ..,fun x hx y hy=>by rw [List.mem_singleton.mp hy];exact m.aa x hx na (Nat.lt_succ_self _)⟩
 ·rw [Array.toList_push] at hx
  rcases List.mem_append.mp hx with z | z
  ·exact m.aa x z j (by omega)
  ·rw [List.mem_singleton.mp z];exact c.sa j na h1 h
 ·rw [Array.toList_push] at hx
  rcases List.mem_append.mp hx with z | z
  ·exact m.ab x z j h1
  ·rw [List.mem_singleton.mp z];exact hl j h1
theorem HI.pushB (m:HI less a b out na (nb+1)) (c:MC less S a b) (h:nb < b.size) (hl:∀ j,j < na→Lt less (el a j) (el b nb)):HI less a b (out.push (el b nb)) na nb:=by
 refine ⟨?_,?_,fun x hx j h1=>?_,fun x hx j h1=>?_⟩
 ·rw [Array.toList_push,a4j h]
  refine List.perm_append_comm.trans ((m.pm.cons _).trans ?_)
  exact List.perm_middle.symm
 ·rw [Array.toList_push,List.pairwise_append]
  exact ⟨m.so,List.pairwise_singleton ..,fun x hx y hy=>by rw [List.mem_singleton.mp hy];exact m.ab x hx nb (Nat.lt_succ_self _)⟩
 ·rw [Array.toList_push] at hx
  rcases List.mem_append.mp hx with z | z
  ·exact m.aa x z j h1
  ·rw [List.mem_singleton.mp z];exact hl j h1
 ·rw [Array.toList_push] at hx
  rcases List.mem_append.mp hx with z | z
  ·exact m.ab x z j (by omega)
  ·rw [List.mem_singleton.mp z];exact c.sb j nb h1 h
theorem a5W {a:Array Keyed} {i n:Nat} (h:i < n) (hn:n≤a.size):(a.extract i n).reverse=((a.extract (i+1) n).reverse).push (el a i):=by
 apply Array.toList_inj.mp
 rw [Array.toList_push,Array.toList_reverse,Array.toList_reverse,Array.toList_extract,Array.toList_extract,List.extract_eq_take_drop,List.extract_eq_take_drop,a4j (show i < a.size by omega)]
 have e:n - i=(n - (i+1))+1:=by omega
 rw [e,List.take_succ_cons,List.reverse_cons]
theorem HI.moreA (c:MC less S a b) (hn:na≤a.size) (m:HI less a b out na nb):∀ k,k≤na→(∀ i,na - k≤i→i < na→∀ j,j < nb→Lt less (el b j) (el a i))→HI less a b (out++(a.extract (na - k) na).reverse) (na - k) nb
 | 0,_,_=>by
  have e:(a.extract (na - 0) na).reverse=#[]:=by simp;omega
  rw [e,Array.append_empty]
  exact m
 | k+1,h,hl=>by
  have ih:=HI.moreA c hn m k (by omega) fun i hi=>hl i (by omega)
  have e:na - k=na - (k+1)+1:=by omega
  rw [a5W (show na - (k+1) < na by omega) hn,Array.append_push,←e]
  rw [e] at ih
  have:=ih.pushA c (by omega) (hl (na - (k+1)) (by omega) (by omega))
  rw [←e] at this
  exact this
theorem HI.moreB (c:MC less S a b) (hn:nb≤b.size) (m:HI less a b out na nb):∀ k,k≤nb→(∀ i,nb - k≤i→i < nb→∀ j,j < na→Lt less (el a j) (el b i))→HI less a b (out++(b.extract (nb - k) nb).reverse) na (nb - k)
 | 0,_,_=>by
  have e:(b.extract (nb - 0) nb).reverse=#[]:=by simp;omega
  rw [e,Array.append_empty]
  exact m
 | k+1,h,hl=>by
  have ih:=HI.moreB c hn m k (by omega) fun i hi=>hl i (by omega)
  have e:nb - k=nb - (k+1)+1:=by omega
  rw [a5W (show nb - (k+1) < nb by omega) hn,Array.append_push,←e]
  rw [e] at ih
  have:=ih.pushB c (by omega) (hl (nb - (k+1)) (by omega) (by omega))
  rw [←e] at this
  exact this
structure HF (less:Keyed→Keyed→Bool) (a b m:Array Keyed):Prop where
 pm:m.toList.Perm (a.toList++b.toList)
 so:m.toList.Pairwise (Lt less)
theorem HI.fin {x:Array Keyed} (m:HI less a b out na nb) (px:x.toList.Perm (a.toList.take na++b.toList.take nb)) (sx:x.toList.Pairwise (Lt less)) (ha:na≤a.size) (hb:nb≤b.size):HF less a b (x++out.reverse):=by
 have a3r:∀ {a:Array Keyed} {n:Nat} {y:Keyed},n≤a.size→y∈a.toList.take n→∃ j,j < n∧el a j=y:=fun {a n y} hn hy=>by
  obtain ⟨j,hj⟩:=List.getElem?_of_mem hy
  have lj:=(List.getElem?_eq_some_iff.mp hj).1
  rw [List.length_take] at lj
  rw [List.getElem?_take_of_lt (by omega),Array.getElem?_toList,a4f (by omega)] at hj
  exact ⟨j,by omega,Option.some.inj hj⟩
 refine ⟨?_,?_⟩
 ·rw [Array.toList_append,Array.toList_reverse]
  have p1:out.toList.reverse.Perm (a.toList.drop na++b.toList.drop nb):=(List.reverse_perm _).trans m.pm
  refine (px.append p1).trans ?_
  have:(a.toList.take na++b.toList.take nb++(a.toList.drop na++b.toList.drop nb)).Perm (a.toList.take na++a.toList.drop na++(b.toList.take nb++b.toList.drop nb)):=by
   rw [List.append_assoc,List.append_assoc]
   refine List.Perm.append_left _ ?_
   rw [←List.append_assoc,←List.append_assoc]
   exact List.Perm.append_right _ List.perm_append_comm
  rw [List.take_append_drop,List.take_append_drop] at this
  exact this
 ·rw [Array.toList_append,Array.toList_reverse,List.pairwise_append]
  refine ⟨sx,List.pairwise_reverse.mpr m.so,fun y hy z hz=>?_⟩
  rw [List.mem_reverse] at hz
  rcases List.mem_append.mp (px.mem_iff.mp hy) with q | q
  ·obtain ⟨j,hj,rfl⟩:=a3r ha q
   exact m.aa z hz j hj
  ·obtain ⟨j,hj,rfl⟩:=a3r hb q
   exact m.ab z hz j hj
theorem a4k {a:Array Keyed} (sa:∀ i j,i < j→j < a.size→Lt less (el a i) (el a j)) {n:Nat} (hn:n≤a.size):(a.toList.take n).Pairwise (Lt less):=by
 rw [List.pairwise_iff_getElem]
 intro i j hi hj hij
 rw [List.length_take,Array.length_toList] at hi hj
 have g:∀ {i:Nat} (h:i < (a.toList.take n).length),(a.toList.take n)[i]=el a i:=fun {i} h=>by
  have h':=h
  rw [List.length_take,Array.length_toList] at h'
  have e:(a.toList.take n)[i]?=some (el a i):=by rw [List.getElem?_take_of_lt (by omega),Array.getElem?_toList,a4f (by omega)]
  rw [List.getElem?_eq_getElem h] at e
  exact Option.some.inj e
 rw [g,g]
 exact sa i j hij (by omega)
theorem a1F (a:Array Keyed) (n:Nat):(a.extract 0 n).toList=a.toList.take n:=by
 rw [Array.toList_extract,List.extract_eq_take_drop]
 simp
theorem HI.doneA (c:MC less S a b) (m:HI less a b out 0 nb) (hb:nb≤b.size):HF less a b (a.extract 0 0++b.extract 0 nb++out.reverse):=by
 refine m.fin ?_ ?_ (Nat.zero_le _) hb
 ·rw [Array.toList_append,a1F,a1F]
 ·rw [Array.toList_append,a1F,a1F,List.take_zero,List.nil_append]
  exact a4k c.sb hb
theorem MC.fst2 (c:MC less S a b) {j:Nat} (h:j < a.size):less (el b 0) (el a j)=true:=by
 by_cases z:j=0
 ·rw [z];exact c.fst
 ·cases e:less (el b 0) (el a j) with
  | true=>rfl
  | false =>
   have:=c.fst
   rw [c.so.tr _ _ _ (c.sa 0 j (by omega) h) e] at this
   exact this
theorem HI.firstB (c:MC less S a b) (m:HI less a b out na 1) (ha:na≤a.size):HF less a b (b.extract 0 1++a.extract 0 na++out.reverse):=by
 refine m.fin ?_ ?_ ha c.nb
 ·rw [Array.toList_append,a1F,a1F]
  exact List.perm_append_comm
 ·rw [Array.toList_append,a1F,a1F,List.pairwise_append]
  refine ⟨a4k c.sb c.nb,a4k c.sa ha,fun x hx y hy=>?_⟩
  rw [a4h c.nb] at hx
  have ex:x=el b 0:=List.mem_singleton.mp hx
  obtain ⟨j,hj⟩:=List.getElem?_of_mem hy
  have lj:=(List.getElem?_eq_some_iff.mp hj).1
  rw [List.length_take] at lj
  rw [List.getElem?_take_of_lt (by omega),Array.getElem?_toList,a4f (by omega)] at hj
  rw [ex,←Option.some.inj hj]
  exact c.so.asym _ _ (c.fst2 (by omega))
section
variable {prog:Program} {w:World} {A:Around} {E:Value→Shared→Prop} {s:Shared} {κ:SortKind}
theorem a5r (C:Cmp prog w A E s κ less S) (c:MC less S a b) {st:SortSt} {Q:Array Keyed→SortSt→Prop} (hκ:kindOf st=κ)
  (h:∀ m st',a1v st st'→m.toList.Perm (a.toList++b.toList)→m.toList.Pairwise (Lt less)→Q m st'):wpS (model prog w) A E s (a4i a b) Q st:=by
 subst hκ
 have na1:=c.na
 have nb1:=c.nb
 have fin:∀ {m:Array Keyed} {st':SortSt},a1v st st'→HF less a b m→Q m st':=fun {m st'} k mi=>h m st' k mi.pm mi.so
 rw [a5q]
 refine wpS_bind (wpS_lift (wpAny_rule ⟨rfl,?_⟩))
 dsimp only
 refine wpS_bind (a0k (show a.size - 1 < a.size by omega) ?_)
 have m0:HI less a b #[el a (a.size - 1)] (a.size - 1) b.size:=by
  refine ⟨?_,List.pairwise_singleton ..,fun x hx j h2=>?_,fun x hx j h2=>?_⟩
  ·rw [a4j (show a.size - 1 < a.size by omega),show a.size - 1+1=a.size by omega,←Array.length_toList,List.drop_length,←Array.length_toList,List.drop_length]
   exact List.Perm.refl _
  ·rw [List.mem_singleton.mp hx];exact c.sa j _ h2 (by omega)
  ·rw [List.mem_singleton.mp hx];exact c.so.asym _ _ (c.lst j h2)
 by_cases g1:(a.size - 1 == 0)=true
 ·rw [if_pos g1]
  have g1:a.size - 1=0:=by simpa using g1
  exact wpS_pure (fin (a1v.refl _) (by rw [g1] at m0 ⊢;exact HI.doneA c m0 (by omega)))
 rw [if_neg g1]
 have g1:¬ a.size - 1=0:=by simpa using g1
 by_cases g2:(b.size == 1)=true
 ·rw [if_pos g2]
  have g2:b.size=1:=by simpa using g2
  exact wpS_pure (fin (a1v.refl _) (by rw [g2] at m0 ⊢;exact HI.firstB c m0 (by omega)))
 rw [if_neg g2]
 have g2:¬ b.size=1:=by simpa using g2
 refine wpS_bind (wpS_get ?_)
 refine wpS_bind (wpS_mono (wpS_forRange (I:=fun x cc st'=>a1v st st'∧∃ na nb out mg,cc=(none,na,nb,out,mg)∧HI less a b out na nb∧1≤na∧2≤nb∧na≤a.size∧nb≤b.size∧x+1+na+nb≤a.size+b.size)
  (Q:=fun cc st'=>a1v st st'∧∃ m i j o g,cc=(some m,i,j,o,g)∧HF less a b m) ?step ?ende ⟨a1v.refl _,_,_,_,_,rfl,m0,by omega,by omega,by omega,by omega,by omega⟩) ?post)
 case post =>
  rintro cc st' ⟨k,m,i,j,o,g,rfl,mi⟩
  exact wpS_pure (fin k mi)
 case ende =>
  rintro cc st' ⟨k,na,nb,out,mg,rfl,m,h1,h2,h4,h5,h3⟩
  exfalso
  omega
 case step =>
  rintro x cc st1 _ hx ⟨k1,na,nb,out,mg,rfl,m1,h1,h2,h4,h5,h3⟩
  dsimp only
  refine wpS_bind (wpS_mono (wpS_forRange (I:=fun y cc st'=>st'=st1∧∃ na2 nb2 out2 ac bc,cc=(none,na2,nb2,out2,ac,bc)∧HI less a b out2 na2 nb2∧1≤na2∧2≤nb2∧na2≤a.size∧nb2≤b.size∧na2+nb2+y≤na+nb)
   (Q:=fun cc st'=>st'=st1∧((∃ m i j o ac bc,cc=(some m,i,j,o,ac,bc)∧HF less a b m)∨∃ na2 nb2 out2 ac bc,cc=(none,na2,nb2,out2,ac,bc)∧HI less a b out2 na2 nb2∧1≤na2∧2≤nb2∧na2≤a.size∧nb2≤b.size∧na2+nb2+1≤na+nb)) ?istep ?iende ⟨rfl,_,_,_,_,_,rfl,m1,h1,h2,h4,h5,by omega⟩) ?ipost)
  case iende =>
   rintro cc st' ⟨rfl,na2,nb2,out2,ac,bc,rfl,m2,i1,i2,i4,i5,i3⟩
   exfalso
   omega
  case istep =>
   rintro y cc st' _ hy ⟨rfl,na2,nb2,out2,ac,bc,rfl,m2,i1,i2,i4,i5,i3⟩
   dsimp only
   refine wpS_bind (a0k (show nb2 - 1 < b.size by omega) (wpS_bind (a0k (show na2 - 1 < a.size by omega) ?_)))
   refine wpS_bind (C _ _ _ _ (c.xb _ (by omega)) (c.xa _ (by omega)) k1.k ?_)
   dsimp only
   cases e:less (el b (nb2 - 1)) (el a (na2 - 1)) with
   | true =>
    rw [if_pos rfl]
    refine wpS_bind (a0k (show na2 - 1 < a.size by omega) ?_)
    have m3:HI less a b _ (na2 - 1) nb2:=HI.pushA (na:=na2 - 1) (by rw [show na2 - 1+1=na2 by omega];exact m2) c (show na2 - 1 < a.size by omega) (fun j q1=>by
     by_cases z:j=nb2 - 1
     ·rw [z];exact c.so.asym _ _ e
     ·exact c.so.tr _ _ _ (c.sb _ _ (by omega) (by omega)) (c.so.asym _ _ e))
    by_cases g3:(na2 - 1 == 0)=true
    ·rw [if_pos g3]
     have g3:na2 - 1=0:=by simpa using g3
     exact wpS_pure ⟨rfl,.inl ⟨_,_,_,_,_,_,rfl,by rw [g3] at m3 ⊢;exact HI.doneA c m3 (by omega)⟩⟩
    ·rw [if_neg g3]
     have g3:¬ na2 - 1=0:=by simpa using g3
     split
     ·exact wpS_pure ⟨rfl,.inr ⟨_,_,_,_,_,rfl,m3,by omega,by omega,by omega,by omega,by omega⟩⟩
     ·exact wpS_pure ⟨rfl,_,_,_,_,_,rfl,m3,by omega,by omega,by omega,by omega,by omega⟩
   | false =>
    rw [if_neg (by decide)]
    refine wpS_bind (a0k (show nb2 - 1 < b.size by omega) ?_)
    have e2:=e
    have m3:HI less a b _ na2 (nb2 - 1):=HI.pushB (nb:=nb2 - 1) (by rw [show nb2 - 1+1=nb2 by omega];exact m2) c (show nb2 - 1 < b.size by omega) (fun j q1=>by
     by_cases z:j=na2 - 1
     ·rw [z];exact e2
     ·exact c.so.tr _ _ _ (c.sa _ _ (by omega) (by omega)) e2)
    by_cases g3:(nb2 - 1 == 1)=true
    ·rw [if_pos g3]
     have g3:nb2 - 1=1:=by simpa using g3
     exact wpS_pure ⟨rfl,.inl ⟨_,_,_,_,_,_,rfl,by rw [g3] at m3 ⊢;exact HI.firstB c m3 (by omega)⟩⟩
    ·rw [if_neg g3]
     have g3:¬ nb2 - 1=1:=by simpa using g3
     split
     ·exact wpS_pure ⟨rfl,.inr ⟨_,_,_,_,_,rfl,m3,by omega,by omega,by omega,by omega,by omega⟩⟩
     ·exact wpS_pure ⟨rfl,_,_,_,_,_,rfl,m3,by omega,by omega,by omega,by omega,by omega⟩
  case ipost =>
   rintro cc st' ⟨est,⟨m,i,j,o,ac,bc,rfl,mi⟩ | ⟨na2,nb2,out2,ac,bc,rfl,m2,i1,i2,i4,i5,i3⟩⟩
   ·subst est
    exact wpS_pure ⟨k1,_,_,_,_,_,rfl,mi⟩
   subst est
   dsimp only
   refine wpS_bind (wpS_lift (wpAny_rule ⟨rfl,?_⟩))
   refine wpS_bind (wpS_mono (wpS_forRange (I:=fun y cc st'=>a1v st st'∧∃ na3 nb3 out3 mg3 ac bc,cc=(none,na3,nb3,out3,mg3,ac,bc)∧HI less a b out3 na3 nb3∧1≤na3∧2≤nb3∧na3≤a.size∧nb3≤b.size∧na3+nb3+1≤na+nb)
    (Q:=fun cc st'=>a1v st st'∧((∃ m i j o g ac bc,cc=(some m,i,j,o,g,ac,bc)∧HF less a b m)∨∃ na3 nb3 out3 mg3 ac bc,cc=(none,na3,nb3,out3,mg3,ac,bc)∧HI less a b out3 na3 nb3∧1≤na3∧2≤nb3∧na3≤a.size∧nb3≤b.size∧na3+nb3+1≤na+nb)) ?gstep ?gende ⟨k1,_,_,_,_,_,_,rfl,m2,i1,i2,i4,i5,i3⟩) ?gpost)
   case gende =>
    rintro cc st' ⟨k,na3,nb3,out3,mg3,ac,bc,rfl,m3,j1,j2,j4,j5,j3⟩
    exact ⟨k,.inr ⟨_,_,_,_,_,_,rfl,m3,j1,j2,j4,j5,j3⟩⟩
   case gpost =>
    rintro cc st' ⟨k,⟨m,i,j,o,g,ac,bc,rfl,mi⟩ | ⟨na3,nb3,out3,mg3,ac,bc,rfl,m3,j1,j2,j4,j5,j3⟩⟩
    ·exact wpS_pure ⟨k,_,_,_,_,_,rfl,mi⟩
    dsimp only
    rw [a0I]
    exact wpS_bind (wpS_modify (wpS_pure ⟨k.set _,_,_,_,_,rfl,m3,j1,j2,j4,j5,by omega⟩))
   case gstep =>
    rintro y cc st3 _ hy ⟨ks0,na3,nb3,out3,mg3,ac,bc,rfl,m3,j1,j2,j4,j5,j3⟩
    dsimp only
    by_cases gg:mg3 > 1
    ·rw [if_pos gg]
     rw [a0I]
     refine wpS_bind (wpS_modify ?_)
     have ks:=ks0.set (mg3 - 1)
     generalize b1H st3 (mg3 - 1)=st4 at ks ⊢
     refine wpS_bind (a0k (show nb3 - 1 < b.size by omega) ?_)
     refine wpS_bind (a0B C (show na3 - 1 < na3 by omega) (by omega) (c.xb _ (by omega)) (fun i hi=>c.xa _ (by omega)) ks.k (fun i j hij hj hb=>?_) (fun k1 hk1 hk2 hk3=>?_))
     ·show (!less (el b (nb3 - 1)) (el a (0+i)))=true
      have hb:(!less (el b (nb3 - 1)) (el a (0+j)))=true:=hb
      rw [c.so.tr _ _ _ (c.sa (0+i) (0+j) (by omega) (by omega)) (show less (el b (nb3 - 1)) (el a (0+j))=false by simpa using hb)]
      rfl
     dsimp only
     have hk4:∀ i,i < k1→Lt less (el a i) (el b (nb3 - 1)):=fun i hi=>by
      have q:(!less (el b (nb3 - 1)) (el a (0+i)))=true:=hk2 i hi
      rw [Nat.zero_add] at q
      show less (el b (nb3 - 1)) (el a i)=false
      simpa using q
     have hk5:∀ i,k1≤i→i < na3→less (el b (nb3 - 1)) (el a i)=true:=fun i hi hi2=>by
      have q:(!less (el b (nb3 - 1)) (el a (0+i)))=false:=hk3 i hi hi2
      rw [Nat.zero_add] at q
      simpa using q
     by_cases g6:na3 - k1 > 0
     ·rw [if_pos g6]
      have m35:=HI.moreA c (show na3≤a.size by omega) m3 (na3 - k1) (by omega) (fun i hi hi2 j h1=>by
       have q:=c.so.asym _ _ (hk5 i (by omega) hi2)
       by_cases z:j=nb3 - 1
       ·rw [z];exact q
       ·exact c.so.tr _ _ _ (c.sb j (nb3 - 1) (by omega) (by omega)) q)
      rw [show na3 - (na3 - k1)=k1 by omega] at m35
      by_cases g7:(k1 == 0)=true
      ·rw [if_pos g7]
       have g7:k1=0:=by simpa using g7
       exact wpS_pure ⟨ks,.inl ⟨_,_,_,_,_,_,_,rfl,by rw [g7] at m35 ⊢;exact HI.doneA c m35 (by omega)⟩⟩
      ·rw [if_neg g7]
       have g7:¬ k1=0:=by simpa using g7
       have M3:=m35
       have HB3:∀ j,j < k1→Lt less (el a j) (el b (nb3 - 1)):=hk4
       clear hk2 hk3 hk4 hk5 m35
       refine wpS_bind (a0k (show nb3 - 1 < b.size by omega) ?_)
       try dsimp only
       have m4:HI less a b (_:Array Keyed) k1 (nb3 - 1):=HI.pushB (nb:=nb3 - 1) (by rw [show nb3 - 1+1=nb3 by omega];exact M3) c (show nb3 - 1 < b.size by omega) HB3
       by_cases g2:(nb3 - 1 == 1)=true
       ·rw [if_pos g2]
        have g2:nb3 - 1=1:=by simpa using g2
        exact wpS_pure ⟨ks,.inl ⟨_,_,_,_,_,_,_,rfl,by rw [g2] at m4 ⊢;exact HI.firstB c m4 (by omega)⟩⟩
       ·rw [if_neg g2]
        have g2:¬ nb3 - 1=1:=by simpa using g2
        refine wpS_bind (a0k (show k1 - 1 < a.size by omega) ?_)
        refine wpS_bind (a0B C (show nb3 - 1 - 1 < nb3 - 1 by omega) (by omega) (c.xa _ (by omega)) (fun i hi=>c.xb _ (by omega)) ks.k (fun i j hij hj hb=>?_) (fun k2 hk2 hk3 hk4=>?_))
        ·show less (el b (0+i)) (el a (k1 - 1))=true
         have hb:less (el b (0+j)) (el a (k1 - 1))=true:=hb
         cases e:less (el b (0+i)) (el a (k1 - 1)) with
         | true=>rfl
         | false=>rw [c.so.tr _ _ _ e (c.sb (0+i) (0+j) (by omega) (by omega))] at hb;exact hb
        dsimp only
        have hk5:∀ i,i < k2→less (el b i) (el a (k1 - 1))=true:=fun i hi=>by
         have q:less (el b (0+i)) (el a (k1 - 1))=true:=hk3 i hi
         rw [Nat.zero_add] at q
         exact q
        have hk6:∀ i,k2≤i→i < nb3 - 1→less (el b i) (el a (k1 - 1))=false:=fun i hi hi2=>by
         have q:less (el b (0+i)) (el a (k1 - 1))=false:=hk4 i hi hi2
         rw [Nat.zero_add] at q
         exact q
        have k21:1≤k2:=by
         rcases Nat.eq_zero_or_pos k2 with z | z
         ·have q:=hk6 0 (by omega) (by omega)
          have q2:less (el b 0) (el a (k1 - 1))=true:=by
           exact c.fst2 (by omega)
          rw [q2] at q
          cases q
         ·exact z
        by_cases g3:nb3 - 1 - k2 > 0
        ·rw [if_pos g3]
         have m45:=HI.moreB c (show nb3 - 1≤b.size by omega) m4 (nb3 - 1 - k2) (by omega) (fun i hi hi2 j h1=>by
          have q:=hk6 i (by omega) hi2
          by_cases z:j=k1 - 1
          ·rw [z];exact q
          ·exact c.so.tr _ _ _ (c.sa j (k1 - 1) (by omega) (by omega)) q)
         rw [show nb3 - 1 - (nb3 - 1 - k2)=k2 by omega] at m45
         by_cases g5:(k2 == 1)=true
         ·rw [if_pos g5]
          have g5:k2=1:=by simpa using g5
          exact wpS_pure ⟨ks,.inl ⟨_,_,_,_,_,_,_,rfl,by rw [g5] at m45 ⊢;exact HI.firstB c m45 (by omega)⟩⟩
         ·rw [if_neg g5]
          have g5:¬ k2=1:=by simpa using g5
          by_cases g9:(k2 == 0)=true
          ·exact absurd (by simpa using g9:k2=0) (by omega)
          ·rw [if_neg g9]
           have M4:=m45
           have HA4:=fun i hi=>c.so.asym _ _ (hk5 i hi)
           refine wpS_bind (a0k (show k1 - 1 < a.size by omega) ?_)
           try dsimp only
           have m5:HI less a b (_:Array Keyed) (k1 - 1) _:=HI.pushA (na:=k1 - 1) (by rw [show k1 - 1+1=k1 by omega];exact M4) c (show k1 - 1 < a.size by omega) HA4
           by_cases g4:(k1 - 1 == 0)=true
           ·rw [if_pos g4]
            have g4:k1 - 1=0:=by simpa using g4
            exact wpS_pure ⟨ks,.inl ⟨_,_,_,_,_,_,_,rfl,by rw [g4] at m5 ⊢;exact HI.doneA c m5 (by omega)⟩⟩
           ·rw [if_neg g4]
            have g4:¬ k1 - 1=0:=by simpa using g4
            split
            ·exact wpS_pure ⟨ks,.inr ⟨_,_,_,_,_,_,rfl,m5,by omega,by omega,by omega,by omega,by omega⟩⟩
            ·exact wpS_pure ⟨ks,_,_,_,_,_,_,rfl,m5,by omega,by omega,by omega,by omega,by omega⟩
        ·rw [if_neg g3]
         have z2:k2=nb3 - 1:=by omega
         have M4:=m4
         have HA4:∀ j,j < nb3 - 1→Lt less (el b j) (el a (k1 - 1)):=fun j h1=>c.so.asym _ _ (hk5 j (by omega))
         refine wpS_bind (a0k (show k1 - 1 < a.size by omega) ?_)
         try dsimp only
         have m5:HI less a b (_:Array Keyed) (k1 - 1) _:=HI.pushA (na:=k1 - 1) (by rw [show k1 - 1+1=k1 by omega];exact M4) c (show k1 - 1 < a.size by omega) HA4
         by_cases g4:(k1 - 1 == 0)=true
         ·rw [if_pos g4]
          have g4:k1 - 1=0:=by simpa using g4
          exact wpS_pure ⟨ks,.inl ⟨_,_,_,_,_,_,_,rfl,by rw [g4] at m5 ⊢;exact HI.doneA c m5 (by omega)⟩⟩
         ·rw [if_neg g4]
          have g4:¬ k1 - 1=0:=by simpa using g4
          split
          ·exact wpS_pure ⟨ks,.inr ⟨_,_,_,_,_,_,rfl,m5,by omega,by omega,by omega,by omega,by omega⟩⟩
          ·exact wpS_pure ⟨ks,_,_,_,_,_,_,rfl,m5,by omega,by omega,by omega,by omega,by omega⟩
     ·rw [if_neg g6]
      have z1:k1=na3:=by omega
      have M3:=m3
      have HB3:∀ j,j < na3→Lt less (el a j) (el b (nb3 - 1)):=fun j h1=>hk4 j (by omega)
      refine wpS_bind (a0k (show nb3 - 1 < b.size by omega) ?_)
      try dsimp only
      have m4:HI less a b (_:Array Keyed) na3 (nb3 - 1):=HI.pushB (nb:=nb3 - 1) (by rw [show nb3 - 1+1=nb3 by omega];exact M3) c (show nb3 - 1 < b.size by omega) HB3
      by_cases g2:(nb3 - 1 == 1)=true
      ·rw [if_pos g2]
       have g2:nb3 - 1=1:=by simpa using g2
       exact wpS_pure ⟨ks,.inl ⟨_,_,_,_,_,_,_,rfl,by rw [g2] at m4 ⊢;exact HI.firstB c m4 (by omega)⟩⟩
      ·rw [if_neg g2]
       have g2:¬ nb3 - 1=1:=by simpa using g2
       refine wpS_bind (a0k (show na3 - 1 < a.size by omega) ?_)
       refine wpS_bind (a0B C (show nb3 - 1 - 1 < nb3 - 1 by omega) (by omega) (c.xa _ (by omega)) (fun i hi=>c.xb _ (by omega)) ks.k (fun i j hij hj hb=>?_) (fun k2 hk2 hk3 hk4=>?_))
       ·show less (el b (0+i)) (el a (na3 - 1))=true
        have hb:less (el b (0+j)) (el a (na3 - 1))=true:=hb
        cases e:less (el b (0+i)) (el a (na3 - 1)) with
        | true=>rfl
        | false=>rw [c.so.tr _ _ _ e (c.sb (0+i) (0+j) (by omega) (by omega))] at hb;exact hb
       dsimp only
       have hk5:∀ i,i < k2→less (el b i) (el a (na3 - 1))=true:=fun i hi=>by
        have q:less (el b (0+i)) (el a (na3 - 1))=true:=hk3 i hi
        rw [Nat.zero_add] at q
        exact q
       have hk6:∀ i,k2≤i→i < nb3 - 1→less (el b i) (el a (na3 - 1))=false:=fun i hi hi2=>by
        have q:less (el b (0+i)) (el a (na3 - 1))=false:=hk4 i hi hi2
        rw [Nat.zero_add] at q
        exact q
       have k21:1≤k2:=by
        rcases Nat.eq_zero_or_pos k2 with z | z
        ·have q:=hk6 0 (by omega) (by omega)
         have q2:less (el b 0) (el a (na3 - 1))=true:=by
          exact c.fst2 (by omega)
         rw [q2] at q
         cases q
        ·exact z
       by_cases g3:nb3 - 1 - k2 > 0
       ·rw [if_pos g3]
        have m45:=HI.moreB c (show nb3 - 1≤b.size by omega) m4 (nb3 - 1 - k2) (by omega) (fun i hi hi2 j h1=>by
         have q:=hk6 i (by omega) hi2
         by_cases z:j=na3 - 1
         ·rw [z];exact q
         ·exact c.so.tr _ _ _ (c.sa j (na3 - 1) (by omega) (by omega)) q)
        rw [show nb3 - 1 - (nb3 - 1 - k2)=k2 by omega] at m45
        by_cases g5:(k2 == 1)=true
        ·rw [if_pos g5]
         have g5:k2=1:=by simpa using g5
         exact wpS_pure ⟨ks,.inl ⟨_,_,_,_,_,_,_,rfl,by rw [g5] at m45 ⊢;exact HI.firstB c m45 (by omega)⟩⟩
        ·rw [if_neg g5]
         have g5:¬ k2=1:=by simpa using g5
         by_cases g9:(k2 == 0)=true
         ·exact absurd (by simpa using g9:k2=0) (by omega)
         ·rw [if_neg g9]
          have M4:=m45
          have HA4:=fun i hi=>c.so.asym _ _ (hk5 i hi)
          refine wpS_bind (a0k (show na3 - 1 < a.size by omega) ?_)
          try dsimp only
          have m5:HI less a b (_:Array Keyed) (na3 - 1) _:=HI.pushA (na:=na3 - 1) (by rw [show na3 - 1+1=na3 by omega];exact M4) c (show na3 - 1 < a.size by omega) HA4
          by_cases g4:(na3 - 1 == 0)=true
          ·rw [if_pos g4]
           have g4:na3 - 1=0:=by simpa using g4
           exact wpS_pure ⟨ks,.inl ⟨_,_,_,_,_,_,_,rfl,by rw [g4] at m5 ⊢;exact HI.doneA c m5 (by omega)⟩⟩
          ·rw [if_neg g4]
           have g4:¬ na3 - 1=0:=by simpa using g4
           split
           ·exact wpS_pure ⟨ks,.inr ⟨_,_,_,_,_,_,rfl,m5,by omega,by omega,by omega,by omega,by omega⟩⟩
           ·exact wpS_pure ⟨ks,_,_,_,_,_,_,rfl,m5,by omega,by omega,by omega,by omega,by omega⟩
       ·rw [if_neg g3]
        have z2:k2=nb3 - 1:=by omega
        have M4:=m4
        have HA4:∀ j,j < nb3 - 1→Lt less (el b j) (el a (na3 - 1)):=fun j h1=>c.so.asym _ _ (hk5 j (by omega))
        refine wpS_bind (a0k (show na3 - 1 < a.size by omega) ?_)
        try dsimp only
        have m5:HI less a b (_:Array Keyed) (na3 - 1) _:=HI.pushA (na:=na3 - 1) (by rw [show na3 - 1+1=na3 by omega];exact M4) c (show na3 - 1 < a.size by omega) HA4
        by_cases g4:(na3 - 1 == 0)=true
        ·rw [if_pos g4]
         have g4:na3 - 1=0:=by simpa using g4
         exact wpS_pure ⟨ks,.inl ⟨_,_,_,_,_,_,_,rfl,by rw [g4] at m5 ⊢;exact HI.doneA c m5 (by omega)⟩⟩
        ·rw [if_neg g4]
         have g4:¬ na3 - 1=0:=by simpa using g4
         split
         ·exact wpS_pure ⟨ks,.inr ⟨_,_,_,_,_,_,rfl,m5,by omega,by omega,by omega,by omega,by omega⟩⟩
         ·exact wpS_pure ⟨ks,_,_,_,_,_,_,rfl,m5,by omega,by omega,by omega,by omega,by omega⟩
    ·rw [if_neg gg]
     rw [a0I]
     refine wpS_bind (wpS_modify ?_)
     have ks:=ks0.set mg3
     generalize b1H st3 mg3=st4 at ks ⊢
     refine wpS_bind (a0k (show nb3 - 1 < b.size by omega) ?_)
     refine wpS_bind (a0B C (show na3 - 1 < na3 by omega) (by omega) (c.xb _ (by omega)) (fun i hi=>c.xa _ (by omega)) ks.k (fun i j hij hj hb=>?_) (fun k1 hk1 hk2 hk3=>?_))
     ·show (!less (el b (nb3 - 1)) (el a (0+i)))=true
      have hb:(!less (el b (nb3 - 1)) (el a (0+j)))=true:=hb
      rw [c.so.tr _ _ _ (c.sa (0+i) (0+j) (by omega) (by omega)) (show less (el b (nb3 - 1)) (el a (0+j))=false by simpa using hb)]
      rfl
     dsimp only
     have hk4:∀ i,i < k1→Lt less (el a i) (el b (nb3 - 1)):=fun i hi=>by
      have q:(!less (el b (nb3 - 1)) (el a (0+i)))=true:=hk2 i hi
      rw [Nat.zero_add] at q
      show less (el b (nb3 - 1)) (el a i)=false
      simpa using q
     have hk5:∀ i,k1≤i→i < na3→less (el b (nb3 - 1)) (el a i)=true:=fun i hi hi2=>by
      have q:(!less (el b (nb3 - 1)) (el a (0+i)))=false:=hk3 i hi hi2
      rw [Nat.zero_add] at q
      simpa using q
     by_cases g6:na3 - k1 > 0
     ·rw [if_pos g6]
      have m35:=HI.moreA c (show na3≤a.size by omega) m3 (na3 - k1) (by omega) (fun i hi hi2 j h1=>by
       have q:=c.so.asym _ _ (hk5 i (by omega) hi2)
       by_cases z:j=nb3 - 1
       ·rw [z];exact q
       ·exact c.so.tr _ _ _ (c.sb j (nb3 - 1) (by omega) (by omega)) q)
      rw [show na3 - (na3 - k1)=k1 by omega] at m35
      by_cases g7:(k1 == 0)=true
      ·rw [if_pos g7]
       have g7:k1=0:=by simpa using g7
       exact wpS_pure ⟨ks,.inl ⟨_,_,_,_,_,_,_,rfl,by rw [g7] at m35 ⊢;exact HI.doneA c m35 (by omega)⟩⟩
      ·rw [if_neg g7]
       have g7:¬ k1=0:=by simpa using g7
       have M3:=m35
       have HB3:∀ j,j < k1→Lt less (el a j) (el b (nb3 - 1)):=hk4
       clear hk2 hk3 hk4 hk5 m35
       refine wpS_bind (a0k (show nb3 - 1 < b.size by omega) ?_)
       try dsimp only
       have m4:HI less a b (_:Array Keyed) k1 (nb3 - 1):=HI.pushB (nb:=nb3 - 1) (by rw [show nb3 - 1+1=nb3 by omega];exact M3) c (show nb3 - 1 < b.size by omega) HB3
       by_cases g2:(nb3 - 1 == 1)=true
       ·rw [if_pos g2]
        have g2:nb3 - 1=1:=by simpa using g2
        exact wpS_pure ⟨ks,.inl ⟨_,_,_,_,_,_,_,rfl,by rw [g2] at m4 ⊢;exact HI.firstB c m4 (by omega)⟩⟩
       ·rw [if_neg g2]
        have g2:¬ nb3 - 1=1:=by simpa using g2
        refine wpS_bind (a0k (show k1 - 1 < a.size by omega) ?_)
        refine wpS_bind (a0B C (show nb3 - 1 - 1 < nb3 - 1 by omega) (by omega) (c.xa _ (by omega)) (fun i hi=>c.xb _ (by omega)) ks.k (fun i j hij hj hb=>?_) (fun k2 hk2 hk3 hk4=>?_))
        ·show less (el b (0+i)) (el a (k1 - 1))=true
         have hb:less (el b (0+j)) (el a (k1 - 1))=true:=hb
         cases e:less (el b (0+i)) (el a (k1 - 1)) with
         | true=>rfl
         | false=>rw [c.so.tr _ _ _ e (c.sb (0+i) (0+j) (by omega) (by omega))] at hb;exact hb
        dsimp only
        have hk5:∀ i,i < k2→less (el b i) (el a (k1 - 1))=true:=fun i hi=>by
         have q:less (el b (0+i)) (el a (k1 - 1))=true:=hk3 i hi
         rw [Nat.zero_add] at q
         exact q
        have hk6:∀ i,k2≤i→i < nb3 - 1→less (el b i) (el a (k1 - 1))=false:=fun i hi hi2=>by
         have q:less (el b (0+i)) (el a (k1 - 1))=false:=hk4 i hi hi2
         rw [Nat.zero_add] at q
         exact q
        have k21:1≤k2:=by
         rcases Nat.eq_zero_or_pos k2 with z | z
         ·have q:=hk6 0 (by omega) (by omega)
          have q2:less (el b 0) (el a (k1 - 1))=true:=by
           exact c.fst2 (by omega)
          rw [q2] at q
          cases q
         ·exact z
        by_cases g3:nb3 - 1 - k2 > 0
        ·rw [if_pos g3]
         have m45:=HI.moreB c (show nb3 - 1≤b.size by omega) m4 (nb3 - 1 - k2) (by omega) (fun i hi hi2 j h1=>by
          have q:=hk6 i (by omega) hi2
          by_cases z:j=k1 - 1
          ·rw [z];exact q
          ·exact c.so.tr _ _ _ (c.sa j (k1 - 1) (by omega) (by omega)) q)
         rw [show nb3 - 1 - (nb3 - 1 - k2)=k2 by omega] at m45
         by_cases g5:(k2 == 1)=true
         ·rw [if_pos g5]
          have g5:k2=1:=by simpa using g5
          exact wpS_pure ⟨ks,.inl ⟨_,_,_,_,_,_,_,rfl,by rw [g5] at m45 ⊢;exact HI.firstB c m45 (by omega)⟩⟩
         ·rw [if_neg g5]
          have g5:¬ k2=1:=by simpa using g5
          by_cases g9:(k2 == 0)=true
          ·exact absurd (by simpa using g9:k2=0) (by omega)
          ·rw [if_neg g9]
           have M4:=m45
           have HA4:=fun i hi=>c.so.asym _ _ (hk5 i hi)
           refine wpS_bind (a0k (show k1 - 1 < a.size by omega) ?_)
           try dsimp only
           have m5:HI less a b (_:Array Keyed) (k1 - 1) _:=HI.pushA (na:=k1 - 1) (by rw [show k1 - 1+1=k1 by omega];exact M4) c (show k1 - 1 < a.size by omega) HA4
           by_cases g4:(k1 - 1 == 0)=true
           ·rw [if_pos g4]
            have g4:k1 - 1=0:=by simpa using g4
            exact wpS_pure ⟨ks,.inl ⟨_,_,_,_,_,_,_,rfl,by rw [g4] at m5 ⊢;exact HI.doneA c m5 (by omega)⟩⟩
           ·rw [if_neg g4]
            have g4:¬ k1 - 1=0:=by simpa using g4
            split
            ·exact wpS_pure ⟨ks,.inr ⟨_,_,_,_,_,_,rfl,m5,by omega,by omega,by omega,by omega,by omega⟩⟩
            ·exact wpS_pure ⟨ks,_,_,_,_,_,_,rfl,m5,by omega,by omega,by omega,by omega,by omega⟩
        ·rw [if_neg g3]
         have z2:k2=nb3 - 1:=by omega
         have M4:=m4
         have HA4:∀ j,j < nb3 - 1→Lt less (el b j) (el a (k1 - 1)):=fun j h1=>c.so.asym _ _ (hk5 j (by omega))
         refine wpS_bind (a0k (show k1 - 1 < a.size by omega) ?_)
         try dsimp only
         have m5:HI less a b (_:Array Keyed) (k1 - 1) _:=HI.pushA (na:=k1 - 1) (by rw [show k1 - 1+1=k1 by omega];exact M4) c (show k1 - 1 < a.size by omega) HA4
         by_cases g4:(k1 - 1 == 0)=true
         ·rw [if_pos g4]
          have g4:k1 - 1=0:=by simpa using g4
          exact wpS_pure ⟨ks,.inl ⟨_,_,_,_,_,_,_,rfl,by rw [g4] at m5 ⊢;exact HI.doneA c m5 (by omega)⟩⟩
         ·rw [if_neg g4]
          have g4:¬ k1 - 1=0:=by simpa using g4
          split
          ·exact wpS_pure ⟨ks,.inr ⟨_,_,_,_,_,_,rfl,m5,by omega,by omega,by omega,by omega,by omega⟩⟩
          ·exact wpS_pure ⟨ks,_,_,_,_,_,_,rfl,m5,by omega,by omega,by omega,by omega,by omega⟩
     ·rw [if_neg g6]
      have z1:k1=na3:=by omega
      have M3:=m3
      have HB3:∀ j,j < na3→Lt less (el a j) (el b (nb3 - 1)):=fun j h1=>hk4 j (by omega)
      refine wpS_bind (a0k (show nb3 - 1 < b.size by omega) ?_)
      try dsimp only
      have m4:HI less a b (_:Array Keyed) na3 (nb3 - 1):=HI.pushB (nb:=nb3 - 1) (by rw [show nb3 - 1+1=nb3 by omega];exact M3) c (show nb3 - 1 < b.size by omega) HB3
      by_cases g2:(nb3 - 1 == 1)=true
      ·rw [if_pos g2]
       have g2:nb3 - 1=1:=by simpa using g2
       exact wpS_pure ⟨ks,.inl ⟨_,_,_,_,_,_,_,rfl,by rw [g2] at m4 ⊢;exact HI.firstB c m4 (by omega)⟩⟩
      ·rw [if_neg g2]
       have g2:¬ nb3 - 1=1:=by simpa using g2
       refine wpS_bind (a0k (show na3 - 1 < a.size by omega) ?_)
       refine wpS_bind (a0B C (show nb3 - 1 - 1 < nb3 - 1 by omega) (by omega) (c.xa _ (by omega)) (fun i hi=>c.xb _ (by omega)) ks.k (fun i j hij hj hb=>?_) (fun k2 hk2 hk3 hk4=>?_))
       ·show less (el b (0+i)) (el a (na3 - 1))=true
        have hb:less (el b (0+j)) (el a (na3 - 1))=true:=hb
        cases e:less (el b (0+i)) (el a (na3 - 1)) with
        | true=>rfl
        | false=>rw [c.so.tr _ _ _ e (c.sb (0+i) (0+j) (by omega) (by omega))] at hb;exact hb
       dsimp only
       have hk5:∀ i,i < k2→less (el b i) (el a (na3 - 1))=true:=fun i hi=>by
        have q:less (el b (0+i)) (el a (na3 - 1))=true:=hk3 i hi
        rw [Nat.zero_add] at q
        exact q
       have hk6:∀ i,k2≤i→i < nb3 - 1→less (el b i) (el a (na3 - 1))=false:=fun i hi hi2=>by
        have q:less (el b (0+i)) (el a (na3 - 1))=false:=hk4 i hi hi2
        rw [Nat.zero_add] at q
        exact q
       have k21:1≤k2:=by
        rcases Nat.eq_zero_or_pos k2 with z | z
        ·have q:=hk6 0 (by omega) (by omega)
         have q2:less (el b 0) (el a (na3 - 1))=true:=by
          exact c.fst2 (by omega)
         rw [q2] at q
         cases q
        ·exact z
       by_cases g3:nb3 - 1 - k2 > 0
       ·rw [if_pos g3]
        have m45:=HI.moreB c (show nb3 - 1≤b.size by omega) m4 (nb3 - 1 - k2) (by omega) (fun i hi hi2 j h1=>by
         have q:=hk6 i (by omega) hi2
         by_cases z:j=na3 - 1
         ·rw [z];exact q
         ·exact c.so.tr _ _ _ (c.sa j (na3 - 1) (by omega) (by omega)) q)
        rw [show nb3 - 1 - (nb3 - 1 - k2)=k2 by omega] at m45
        by_cases g5:(k2 == 1)=true
        ·rw [if_pos g5]
         have g5:k2=1:=by simpa using g5
         exact wpS_pure ⟨ks,.inl ⟨_,_,_,_,_,_,_,rfl,by rw [g5] at m45 ⊢;exact HI.firstB c m45 (by omega)⟩⟩
        ·rw [if_neg g5]
         have g5:¬ k2=1:=by simpa using g5
         by_cases g9:(k2 == 0)=true
         ·exact absurd (by simpa using g9:k2=0) (by omega)
         ·rw [if_neg g9]
          have M4:=m45
          have HA4:=fun i hi=>c.so.asym _ _ (hk5 i hi)
          refine wpS_bind (a0k (show na3 - 1 < a.size by omega) ?_)
          try dsimp only
          have m5:HI less a b (_:Array Keyed) (na3 - 1) _:=HI.pushA (na:=na3 - 1) (by rw [show na3 - 1+1=na3 by omega];exact M4) c (show na3 - 1 < a.size by omega) HA4
          by_cases g4:(na3 - 1 == 0)=true
          ·rw [if_pos g4]
           have g4:na3 - 1=0:=by simpa using g4
           exact wpS_pure ⟨ks,.inl ⟨_,_,_,_,_,_,_,rfl,by rw [g4] at m5 ⊢;exact HI.doneA c m5 (by omega)⟩⟩
          ·rw [if_neg g4]
           have g4:¬ na3 - 1=0:=by simpa using g4
           split
           ·exact wpS_pure ⟨ks,.inr ⟨_,_,_,_,_,_,rfl,m5,by omega,by omega,by omega,by omega,by omega⟩⟩
           ·exact wpS_pure ⟨ks,_,_,_,_,_,_,rfl,m5,by omega,by omega,by omega,by omega,by omega⟩
       ·rw [if_neg g3]
        have z2:k2=nb3 - 1:=by omega
        have M4:=m4
        have HA4:∀ j,j < nb3 - 1→Lt less (el b j) (el a (na3 - 1)):=fun j h1=>c.so.asym _ _ (hk5 j (by omega))
        refine wpS_bind (a0k (show na3 - 1 < a.size by omega) ?_)
        try dsimp only
        have m5:HI less a b (_:Array Keyed) (na3 - 1) _:=HI.pushA (na:=na3 - 1) (by rw [show na3 - 1+1=na3 by omega];exact M4) c (show na3 - 1 < a.size by omega) HA4
        by_cases g4:(na3 - 1 == 0)=true
        ·rw [if_pos g4]
         have g4:na3 - 1=0:=by simpa using g4
         exact wpS_pure ⟨ks,.inl ⟨_,_,_,_,_,_,_,rfl,by rw [g4] at m5 ⊢;exact HI.doneA c m5 (by omega)⟩⟩
        ·rw [if_neg g4]
         have g4:¬ na3 - 1=0:=by simpa using g4
         split
         ·exact wpS_pure ⟨ks,.inr ⟨_,_,_,_,_,_,rfl,m5,by omega,by omega,by omega,by omega,by omega⟩⟩
         ·exact wpS_pure ⟨ks,_,_,_,_,_,_,rfl,m5,by omega,by omega,by omega,by omega,by omega⟩
end
theorem a5s (i:Nat):mergeAt' i=(do
 let s ←get
 let (some (sa,na,power),some (sb,nb,_)):=((pendingOf s)[i]?,(pendingOf s)[i+1]?) | unsupported "internal:list.sort.pending"
 set (setPending s (((pendingOf s).setIfInBounds i (sa,na+nb,power)).eraseIdxIfInBounds (i+1)))
 let some k ←gallop' false (←elem' (arrOf s) sb) (arrOf s) sa na 0 | return false
 let (sa,na):=(sa+k,na - k)
 if na == 0 then return true
 let some nb ←gallop' true (←elem' (arrOf s) (sa+na - 1)) (arrOf s) sb nb (nb - 1) | return false
 if nb == 0 then return true
 let x:=(arrOf s).extract sa sb
 let y:=(arrOf s).extract sb (sb+nb)
 let merged ←if na≤nb then a4g x y else a4i x y
 modify fun s=>setArr s (merged.toList.zipIdx.foldl (fun a (p,j)=>a.setIfInBounds (sa+j) p) (arrOf s))
 return (failedOf (←get)).isNone):=rfl
def Srt (less:Keyed→Keyed→Bool) (xs:Array Keyed) (lo hi:Nat):Prop:=∀ i j,lo≤i→i < j→j < hi→Lt less (el xs i) (el xs j)
theorem a7U (base:Nat):∀ (ms:List Keyed) (n:Nat) (arr:Array Keyed),base+n+ms.length≤arr.size→((ms.zipIdx n).foldl (fun a (q:Keyed × Nat)=>a.setIfInBounds (base+q.2) q.1) arr).toList=arr.toList.take (base+n)++ms++arr.toList.drop (base+n+ms.length)
 | [],n,arr,h=>by
  simp
 | p :: ms,n,arr,h=>by
  rw [List.length_cons] at h
  rw [List.zipIdx_cons,List.foldl_cons]
  show (List.foldl _ (arr.setIfInBounds (base+n) p) (ms.zipIdx (n+1))).toList=_
  have sz:(arr.setIfInBounds (base+n) p).size=arr.size:=by simp
  rw [a7U base ms (n+1) (arr.setIfInBounds (base+n) p) (by rw [sz];omega)]
  have e:(arr.setIfInBounds (base+n) p).toList=arr.toList.set (base+n) p:=by simp
  have hl:base+n < arr.toList.length:=by rw [Array.length_toList];omega
  rw [e,List.length_cons]
  have e1:(arr.toList.set (base+n) p).take (base+(n+1))=arr.toList.take (base+n)++[p]:=by
   rw [show base+(n+1)=base+n+1 by omega,List.take_add_one,List.getElem?_set_self hl,List.take_set_of_le (Nat.le_refl _)]
   rfl
  have e2:(arr.toList.set (base+n) p).drop (base+(n+1)+ms.length)=arr.toList.drop (base+n+(ms.length+1)):=by
   rw [List.drop_set_of_lt (by omega)]
   congr 1
   omega
  rw [e1,e2,List.append_assoc,List.append_assoc,List.append_assoc]
  rfl
theorem a1f {xs:Array Keyed} {i:Nat} (h:i < xs.size):xs.toList[i]?=some (el xs i):=by
 rw [Array.getElem?_toList]
 exact a4f h
structure Laid (arr arr' m:Array Keyed) (base:Nat):Prop where
 sz:arr'.size=arr.size
 lo:∀ j,j < base→el arr' j=el arr j
 mid:∀ j,j < m.size→el arr' (base+j)=el m j
 hi:∀ j,base+m.size≤j→j < arr.size→el arr' j=el arr j
theorem b1b {arr m:Array Keyed} {base:Nat} (h:base+m.size≤arr.size):Laid arr (m.toList.zipIdx.foldl (fun a (q:Keyed × Nat)=>a.setIfInBounds (base+q.2) q.1) arr) m base ∧
  (m.toList.zipIdx.foldl (fun a (q:Keyed × Nat)=>a.setIfInBounds (base+q.2) q.1) arr).toList=arr.toList.take base++m.toList++arr.toList.drop (base+m.size):=by
 have e:=a7U base m.toList 0 arr (by rw [Array.length_toList];omega)
 rw [Nat.add_zero,Array.length_toList] at e
 generalize (m.toList.zipIdx.foldl (fun a (q:Keyed × Nat)=>a.setIfInBounds (base+q.2) q.1) arr)=arr' at e ⊢
 have ll:(arr.toList.take base).length=base:=by rw [List.length_take,Array.length_toList];omega
 have sz:arr'.size=arr.size:=by
  rw [←Array.length_toList,e,List.length_append,List.length_append,ll,Array.length_toList,List.length_drop,Array.length_toList]
  omega
 refine ⟨⟨sz,fun j hj=>?_,fun j hj=>?_,fun j hj hj2=>?_⟩,e⟩
 ·have q:=a1f (xs:=arr') (i:=j) (by omega)
  rw [e,List.append_assoc,List.getElem?_append_left (by omega),List.getElem?_take_of_lt hj,a1f (by omega)] at q
  exact (Option.some.inj q).symm
 ·have q:=a1f (xs:=arr') (i:=base+j) (by omega)
  rw [e,List.append_assoc,List.getElem?_append_right (by omega),ll,show base+j - base=j by omega,List.getElem?_append_left (by rw [Array.length_toList];exact hj),a1f hj] at q
  exact (Option.some.inj q).symm
 ·have q:=a1f (xs:=arr') (i:=j) (by omega)
  rw [e,List.append_assoc,List.getElem?_append_right (by omega),ll,List.getElem?_append_right (by rw [Array.length_toList];omega),Array.length_toList,List.getElem?_drop,show base+m.size+(j - base - m.size)=j by omega,a1f hj2] at q
  exact (Option.some.inj q).symm
theorem b0c {arr:Array Keyed} {i n j:Nat} (hn:n≤arr.size) (h:i+j < n):el (arr.extract i n) j=el arr (i+j):=by
 have q:=a1f (xs:=arr.extract i n) (i:=j) (by rw [Array.size_extract];omega)
 rw [Array.toList_extract,List.extract_eq_take_drop,List.getElem?_take_of_lt (by omega),List.getElem?_drop,a1f (by omega)] at q
 exact (Option.some.inj q).symm
theorem b0d {m:Array Keyed} {z:Keyed} (h:z∈m.toList):∃ j,j < m.size∧el m j=z:=by
 obtain ⟨j,hj⟩:=List.getElem?_of_mem h
 have lj:=(List.getElem?_eq_some_iff.mp hj).1
 rw [Array.length_toList] at lj
 rw [a1f lj] at hj
 exact ⟨j,lj,Option.some.inj hj⟩
theorem a3r {m:Array Keyed} {j:Nat} (h:j < m.size):el m j∈m.toList:=List.mem_of_getElem? (a1f h)
theorem a9n {less:Keyed→Keyed→Bool} {m:Array Keyed} (h:m.toList.Pairwise (Lt less)) {i j:Nat} (hij:i < j) (hj:j < m.size):Lt less (el m i) (el m j):=by
 rw [List.pairwise_iff_getElem] at h
 have q:=h i j (by rw [Array.length_toList];omega) (by rw [Array.length_toList];omega) hij
 have e1:=a1f (xs:=m) (i:=i) (by omega)
 have e2:=a1f (xs:=m) (i:=j) hj
 rw [List.getElem?_eq_getElem (by rw [Array.length_toList];omega)] at e1 e2
 rw [Option.some.inj e1,Option.some.inj e2] at q
 exact q
structure SB (κ:SortKind) (a₀:Array Keyed) (st:SortSt):Prop where
 perm:(arrOf st).Perm a₀
 kind:kindOf st=κ
 failed:failedOf st=none
theorem SB.size {κ:SortKind} {a₀:Array Keyed} {st:SortSt} (h:SB κ a₀ st):(arrOf st).size=a₀.size:=h.perm.size_eq
section
variable {prog:Program} {w:World} {A:Around} {E:Value→Shared→Prop} {s:Shared} {κ:SortKind} {less:Keyed→Keyed→Bool} {S:Keyed→Prop} {a₀:Array Keyed}
structure SA (less:Keyed→Keyed→Bool) (S:Keyed→Prop) (a₀:Array Keyed):Prop where
 so:SO less S
 xs:∀ x∈a₀.toList,S x
theorem SB.x {st:SortSt} (h:SB κ a₀ st) (sa:SA less S a₀) {i:Nat} (hi:i < a₀.size):S (el (arrOf st) i):=by
 have hm:el (arrOf st) i∈(arrOf st).toList:=a3r (by rw [h.size];exact hi)
 exact sa.xs _ ((Array.perm_iff_toList_perm.mp h.perm).mem_iff.mp hm)
theorem b1c {σ:Type} {M:Model} {x:σ} {Q:PUnit→σ→Prop} {st:σ} (h:Q ⟨⟩ x):wpS M A E s (set x:StateT σ Sem PUnit) Q st:=by
 unfold wpS;rw [StateT.run_set];exact wpAny_pure ⟨rfl,h⟩
theorem a5t (C:Cmp prog w A E s κ less S) (sa':SA less S a₀) {st:SortSt} {i sa na pw nb pw2:Nat} {Q:Bool→SortSt→Prop} (hB:SB κ a₀ st) (p1:(pendingOf st)[i]?=some (sa,na,pw)) (p2:(pendingOf st)[i+1]?=some (sa+na,nb,pw2)) (n1:1≤na) (n2:1≤nb) (hz:sa+na+nb≤a₀.size)
  (s1:Srt less (arrOf st) sa (sa+na)) (s2:Srt less (arrOf st) (sa+na) (sa+na+nb))
  (h:∀ st',SB κ a₀ st'→pendingOf st'=((pendingOf st).setIfInBounds i (sa,na+nb,pw)).eraseIdxIfInBounds (i+1)→(∀ j,j < sa∨sa+na+nb≤j→j < a₀.size→el (arrOf st') j=el (arrOf st) j)→Srt less (arrOf st') sa (sa+na+nb)→Q true st') :
  wpS (model prog w) A E s (mergeAt' i) Q st:=by
 have so:=sa'.so
 have sz:=hB.size
 rw [a5s]
 refine wpS_bind (wpS_get ?_)
 rw [p1,p2]
 dsimp only
 refine wpS_bind (b1c ?_)
 generalize ep:((pendingOf st).setIfInBounds i (sa,na+nb,pw)).eraseIdxIfInBounds (i+1)=p' at h ⊢
 have hB1:SB κ a₀ (setPending st p'):=⟨hB.perm,hB.kind,hB.failed⟩
 have arr1:arrOf (setPending st p')=arrOf st:=rfl
 have pe1:pendingOf (setPending st p')=p':=rfl
 generalize setPending st p'=st1 at hB1 arr1 pe1 ⊢
 have X:∀ j,j < a₀.size→S (el (arrOf st) j):=fun j hj=>hB.x sa' hj
 have PM:=Array.perm_iff_toList_perm.mp hB.perm
 clear p1 p2 ep hB
 generalize arrOf st=arr at *
 refine wpS_bind (a0k (by omega) ?_)
 refine wpS_bind (a0B C (show 0 < na by omega) (by omega) (X _ (by omega)) (fun i hi=>X _ (by omega)) hB1.kind (fun i j hij hj hb=>?_) (fun k hk1 hk2 hk3=>?_))
 ·show (!less (el arr (sa+na)) (el arr (sa+i)))=true
  have hb:(!less (el arr (sa+na)) (el arr (sa+j)))=true:=hb
  rw [so.tr _ _ _ (s1 (sa+i) (sa+j) (by omega) (by omega) (by omega)) (show less (el arr (sa+na)) (el arr (sa+j))=false by simpa using hb)]
  rfl
 dsimp only
 have A1:∀ i,sa≤i→i < sa+k→Lt less (el arr i) (el arr (sa+na)):=fun i h1 h2=>by
  have q:(!less (el arr (sa+na)) (el arr (sa+(i - sa))))=true:=hk2 (i - sa) (by omega)
  rw [show sa+(i - sa)=i by omega] at q
  show less (el arr (sa+na)) (el arr i)=false
  simpa using q
 have A2:∀ i,sa+k≤i→i < sa+na→less (el arr (sa+na)) (el arr i)=true:=fun i h1 h2=>by
  have q:(!less (el arr (sa+na)) (el arr (sa+(i - sa))))=false:=hk3 (i - sa) (by omega) (by omega)
  rw [show sa+(i - sa)=i by omega] at q
  simpa using q
 have A3:∀ i j,sa≤i→i < sa+k→sa+na≤j→j < sa+na+nb→Lt less (el arr i) (el arr j):=fun i j h1 h2 h3 h4=>by
  by_cases z:j=sa+na
  ·rw [z];exact A1 i h1 h2
  ·exact so.tr _ _ _ (A1 i h1 h2) (s2 _ _ (by omega) (by omega) h4)
 by_cases g1:(na - k == 0)=true
 ·rw [if_pos g1]
  have g1:na - k=0:=by simpa using g1
  refine wpS_pure (h st1 hB1 pe1 (fun j _ _=>by rw [arr1]) ?_)
  rw [arr1]
  intro i j h1 h2 h3
  by_cases z1:j < sa+na
  ·exact s1 i j h1 h2 z1
  ·by_cases z2:sa+na≤i
   ·exact s2 i j z2 h2 h3
   ·exact A3 i j h1 (by omega) (by omega) h3
 rw [if_neg g1]
 have g1:¬ na - k=0:=by simpa using g1
 rw [show sa+k+(na - k) - 1=sa+na - 1 by omega]
 refine wpS_bind (a0k (by omega) ?_)
 refine wpS_bind (a0B C (show nb - 1 < nb by omega) (by omega) (X _ (by omega)) (fun i hi=>X _ (by omega)) hB1.kind (fun i j hij hj hb=>?_) (fun k2 hk4 hk5 hk6=>?_))
 ·show less (el arr (sa+na+i)) (el arr (sa+na - 1))=true
  have hb:less (el arr (sa+na+j)) (el arr (sa+na - 1))=true:=hb
  cases e:less (el arr (sa+na+i)) (el arr (sa+na - 1)) with
  | true=>rfl
  | false=>rw [so.tr _ _ _ e (s2 (sa+na+i) (sa+na+j) (by omega) (by omega) (by omega))] at hb;exact hb
 dsimp only
 have B1:∀ j,sa+na≤j→j < sa+na+k2→less (el arr j) (el arr (sa+na - 1))=true:=fun j h1 h2=>by
  have q:less (el arr (sa+na+(j - (sa+na)))) (el arr (sa+na - 1))=true:=hk5 (j - (sa+na)) (by omega)
  rw [show sa+na+(j - (sa+na))=j by omega] at q
  exact q
 have B2:∀ j,sa+na+k2≤j→j < sa+na+nb→Lt less (el arr (sa+na - 1)) (el arr j):=fun j h1 h2=>by
  have q:less (el arr (sa+na+(j - (sa+na)))) (el arr (sa+na - 1))=false:=hk6 (j - (sa+na)) (by omega) (by omega)
  rw [show sa+na+(j - (sa+na))=j by omega] at q
  exact q
 have k21:1≤k2:=by
  rcases Nat.eq_zero_or_pos k2 with z | z
  ·have q:=B2 (sa+na) (by omega) (by omega)
   have q:less (el arr (sa+na)) (el arr (sa+na - 1))=false:=q
   rw [A2 (sa+na - 1) (by omega) (by omega)] at q
   cases q
  ·exact z
 by_cases g2:(k2 == 0)=true
 ·exact absurd (by simpa using g2:k2=0) (by omega)
 rw [if_neg g2]
 have xsz:(arr.extract (sa+k) (sa+na)).size=na - k:=by rw [Array.size_extract];omega
 have ysz:(arr.extract (sa+na) (sa+na+k2)).size=k2:=by rw [Array.size_extract];omega
 have xe:∀ j,j < na - k→el (arr.extract (sa+k) (sa+na)) j=el arr (sa+k+j):=fun j hj=>b0c (by omega) (by omega)
 have ye:∀ j,j < k2→el (arr.extract (sa+na) (sa+na+k2)) j=el arr (sa+na+j):=fun j hj=>b0c (by omega) (by omega)
 have B3:∀ j,sa+na≤j→j < sa+na+k2→less (el arr j) (el arr (sa+na - 1))=true:=B1
 have mc:MC less S (arr.extract (sa+k) (sa+na)) (arr.extract (sa+na) (sa+na+k2)):=by
  refine ⟨so,fun i j hij hj=>?_,fun i j hij hj=>?_,fun i hi=>?_,fun i hi=>?_,?_,fun j hj=>?_,by omega,by omega⟩
  ·rw [xsz] at hj
   rw [xe i (by omega),xe j hj]
   exact s1 _ _ (by omega) (by omega) (by omega)
  ·rw [ysz] at hj
   rw [ye i (by omega),ye j hj]
   exact s2 _ _ (by omega) (by omega) (by omega)
  ·rw [xsz] at hi
   rw [xe i hi]
   exact X _ (by omega)
  ·rw [ysz] at hi
   rw [ye i hi]
   exact X _ (by omega)
  ·rw [xe 0 (by omega),ye 0 (by omega)]
   exact A2 _ (by omega) (by omega)
  ·rw [ysz] at hj
   rw [xsz,xe _ (by omega),ye j hj,show sa+k+(na - k - 1)=sa+na - 1 by omega]
   exact B1 _ (by omega) (by omega)
 have whole:arr.toList.drop (sa+k)=(arr.extract (sa+k) (sa+na)).toList++(arr.extract (sa+na) (sa+na+k2)).toList++arr.toList.drop (sa+na+k2):=by
  rw [Array.toList_extract,Array.toList_extract,List.extract_eq_take_drop,List.extract_eq_take_drop]
  rw [show sa+na - (sa+k)=na - k by omega,show sa+na+k2 - (sa+na)=k2 by omega]
  have e1:arr.toList.drop (sa+na)=List.take k2 (arr.toList.drop (sa+na))++arr.toList.drop (sa+na+k2):=by
   conv=>lhs;rw [←List.take_append_drop k2 (arr.toList.drop (sa+na))]
   rw [List.drop_drop]
  have e2:arr.toList.drop (sa+k)=List.take (na - k) (arr.toList.drop (sa+k))++arr.toList.drop (sa+na):=by
   conv=>lhs;rw [←List.take_append_drop (na - k) (arr.toList.drop (sa+k))]
   rw [List.drop_drop,show sa+k+(na - k)=sa+na by omega]
  rw [List.append_assoc,←e1]
  exact e2
 have fin:∀ (m:Array Keyed) (st2:SortSt),a1v st1 st2→m.toList.Perm ((arr.extract (sa+k) (sa+na)).toList++(arr.extract (sa+na) (sa+na+k2)).toList)→m.toList.Pairwise (Lt less) →
   wpS (model prog w) A E s (do
    modify fun s=>setArr s (m.toList.zipIdx.foldl (fun a (q:Keyed × Nat)=>a.setIfInBounds (sa+k+q.2) q.1) (arrOf s))
    let __do_lift ←get
    pure (failedOf __do_lift).isNone) Q st2:=by
  intro m st2 kp pm pw'
  have msz:m.size=na - k+k2:=by
   have q:=pm.length_eq
   rw [List.length_append,Array.length_toList,Array.length_toList,Array.length_toList,xsz,ysz] at q
   exact q
  refine wpS_bind (wpS_modify (wpS_bind (wpS_get ?_)))
  have a2:arrOf st2=arr:=kp.a.trans arr1
  obtain ⟨ld,le⟩:=b1b (arr:=arr) (m:=m) (base:=sa+k) (by omega)
  rw [a2]
  generalize (m.toList.zipIdx.foldl (fun a (q:Keyed × Nat)=>a.setIfInBounds (sa+k+q.2) q.1) arr)=arr' at ld le ⊢
  have hf:failedOf (setArr st2 arr')=none:=kp.f.trans hB1.failed
  have mm:∀ z∈m.toList,(∃ j,sa+k≤j∧j < sa+na∧el arr j=z)∨∃ j,sa+na≤j∧j < sa+na+k2∧el arr j=z:=fun z hz=>by
   rcases List.mem_append.mp (pm.mem_iff.mp hz) with q | q
   ·obtain ⟨j,hj,e⟩:=b0d q
    rw [xsz] at hj
    rw [xe j hj] at e
    exact .inl ⟨_,by omega,by omega,e⟩
   ·obtain ⟨j,hj,e⟩:=b0d q
    rw [ysz] at hj
    rw [ye j hj] at e
    exact .inr ⟨_,by omega,by omega,e⟩
  have F1:∀ i z,sa≤i→i < sa+k→z∈m.toList→Lt less (el arr i) z:=fun i z h1 h2 hz=>by
   rcases mm z hz with ⟨j,q1,q2,rfl⟩ | ⟨j,q1,q2,rfl⟩
   ·exact s1 _ _ h1 (by omega) q2
   ·exact A3 i j h1 h2 q1 (by omega)
  have F2:∀ z j,z∈m.toList→sa+na+k2≤j→j < sa+na+nb→Lt less z (el arr j):=fun z j hz h1 h2=>by
   rcases mm z hz with ⟨i,q1,q2,rfl⟩ | ⟨i,q1,q2,rfl⟩
   ·by_cases y:i=sa+na - 1
    ·rw [y];exact B2 j h1 h2
    ·exact so.tr _ _ _ (s1 i (sa+na - 1) (by omega) (by omega) (by omega)) (B2 j h1 h2)
   ·exact s2 _ _ q1 (by omega) h2
  show wpS _ _ _ _ (pure (failedOf (setArr st2 arr')).isNone) _ _
  rw [hf]
  refine wpS_pure (h (setArr st2 arr') ⟨?_,kp.k.trans hB1.kind,hf⟩ (kp.p.trans pe1) (fun j hj hj2=>?_) ?_)
  ·show arr'.Perm a₀
   rw [Array.perm_iff_toList_perm,le,show sa+k+m.size=sa+na+k2 by omega]
   refine List.Perm.trans ?_ PM
   have:arr.toList=arr.toList.take (sa+k)++((arr.extract (sa+k) (sa+na)).toList++(arr.extract (sa+na) (sa+na+k2)).toList)++arr.toList.drop (sa+na+k2):=by
    rw [List.append_assoc,←whole,List.take_append_drop]
   conv=>rhs;rw [this]
   exact List.Perm.append_right _ (List.Perm.append_left _ pm)
  ·show el arr' j=el arr j
   rcases hj with z | z
   ·exact ld.lo j (by omega)
   ·exact ld.hi j (by omega) (by omega)
  ·show Srt less arr' sa (sa+na+nb)
   intro i j h1 h2 h3
   have m1:∀ x,sa+k≤x→x < sa+na+k2→el arr' x=el m (x - (sa+k)):=fun x q1 q2=>by
    have q:=ld.mid (x - (sa+k)) (by omega)
    rw [show sa+k+(x - (sa+k))=x by omega] at q
    exact q
   have l1:∀ x,x < sa+k→el arr' x=el arr x:=fun x q=>ld.lo x q
   have r1:∀ x,sa+na+k2≤x→x < sa+na+nb→el arr' x=el arr x:=fun x q1 q2=>ld.hi x (by omega) (by omega)
   by_cases zi:i < sa+k
   ·rw [l1 i zi]
    by_cases zj:j < sa+k
    ·rw [l1 j zj];exact s1 i j h1 h2 (by omega)
    ·by_cases zj2:j < sa+na+k2
     ·rw [m1 j (by omega) zj2];exact F1 i _ h1 zi (a3r (by omega))
     ·rw [r1 j (by omega) h3];exact A3 i j h1 zi (by omega) h3
   ·by_cases zi2:i < sa+na+k2
    ·rw [m1 i (by omega) zi2]
     by_cases zj2:j < sa+na+k2
     ·rw [m1 j (by omega) zj2];exact a9n pw' (by omega) (by omega)
     ·rw [r1 j (by omega) h3];exact F2 _ j (a3r (by omega)) (by omega) h3
    ·rw [r1 i (by omega) (by omega),r1 j (by omega) h3]
     exact s2 i j (by omega) h2 h3
 by_cases g3:na - k≤k2
 ·rw [if_pos g3]
  exact wpS_bind (a5p C mc hB1.kind fun m st2 kp pm pw'=>fin m st2 kp pm pw')
 ·rw [if_neg g3]
  exact wpS_bind (a5r C mc hB1.kind fun m st2 kp pm pw'=>fin m st2 kp pm pw')
end
theorem a2u {xs ys:Array Keyed} {i j:Nat} (h:xs[i]?=ys[j]?):el xs i=el ys j:=by
 have g:∀ (zs:Array Keyed) (k:Nat),el zs k=(zs[k]?).getD nokey:=fun zs k=>by
  unfold el
  simp [Array.getD]
  split <;> simp [*]
 rw [g,g,h]
theorem a1B {xs:Array Keyed} {i j:Nat} (hj:j≤xs.size) (k:Nat):el (mirror xs i j ((j - i) / 2)) k=if i≤k∧k < j then el xs (i+j - 1 - k) else el xs k:=by
 have e:=getElem?_mirror_all (i:=i) hj k
 by_cases h1:i≤k∧k < j
 ·rw [if_pos h1] at e ⊢;exact a2u e
 ·rw [if_neg h1] at e ⊢;exact a2u e
theorem a7V {xs:Array Keyed} {src d:Nat} (hs:src < xs.size) (hd:d≤src) (k:Nat):el (bubble xs src d) k=if k=src - d then el xs src else if src - d < k∧k≤src then el xs (k - 1) else el xs k:=by
 have e:=getElem?_bubble hs d hd k
 by_cases h1:k=src - d
 ·rw [if_pos h1] at e ⊢;exact a2u e
 ·rw [if_neg h1] at e ⊢
  by_cases h2:src - d < k∧k≤src
  ·rw [if_pos h2] at e ⊢;exact a2u e
  ·rw [if_neg h2] at e ⊢;exact a2u e
theorem SB.setArr {κ:SortKind} {a₀:Array Keyed} {st:SortSt} (h:SB κ a₀ st) {xs:Array Keyed} (hp:xs.Perm (arrOf st)):SB κ a₀ (PyProof.Rows.setArr st xs):=⟨hp.trans h.perm,h.kind,h.failed⟩
section
variable {prog:Program} {w:World} {A:Around} {E:Value→Shared→Prop} {s:Shared} {κ:SortKind} {less:Keyed→Keyed→Bool} {S:Keyed→Prop} {a₀:Array Keyed}
theorem a2K (C:Cmp prog w A E s κ less S) (sa:SA less S a₀) {st:SortSt} {i j:Nat} {Q:Option Bool→SortSt→Prop} (hB:SB κ a₀ st) (hi:i < a₀.size) (hj:j < a₀.size) (h:Q (some (less (el (arrOf st) i) (el (arrOf st) j))) st):wpS (model prog w) A E s (ltAt' i j) Q st:=by
 rw [ltAt'_eq]
 refine wpS_bind (wpS_get ?_)
 show wpS _ _ _ _ (do let x ←elem' (arrOf st) i;let y ←elem' (arrOf st) j;lt' x y) Q st
 refine wpS_bind (a0k (by rw [hB.size];exact hi) (wpS_bind (a0k (by rw [hB.size];exact hj) ?_)))
 exact C _ _ _ _ (hB.x sa hi) (hB.x sa hj) hB.kind h
structure a4l (a₀:Array Keyed) (lo:Nat) (st st':SortSt):Prop where
 lo:∀ j,j < lo→el (arrOf st') j=el (arrOf st) j
 p:pendingOf st'=pendingOf st
theorem a4l.refl (lo:Nat) (st:SortSt):a4l a₀ lo st st:=⟨fun _ _=>rfl,rfl⟩
def Fal (less:Keyed→Keyed→Bool) (xs:Array Keyed) (lo hi:Nat):Prop:=∀ i j,lo≤i→i < j→j < hi→Lt less (el xs j) (el xs i)
def Tie (less:Keyed→Keyed→Bool) (xs:Array Keyed) (a b:Nat):Prop:=∀ i j,a≤i→i < b→a≤j→j < b→Lt less (el xs i) (el xs j)
theorem Fal.mir {xs:Array Keyed} {lo hi a b:Nat} (d:Fal less xs lo hi) (t:Tie less xs a b) (ha:lo≤a) (hb:b≤hi) (hs:hi≤xs.size):Fal less (mirror xs a b ((b - a) / 2)) lo hi:=fun i j h1 h2 h3=>by
 rw [a1B (by omega),a1B (by omega)]
 by_cases zi:a≤i∧i < b
 ·rw [if_pos zi]
  by_cases zj:a≤j∧j < b
  ·rw [if_pos zj]
   exact t _ _ (by omega) (by omega) (by omega) (by omega)
  ·rw [if_neg zj]
   exact d _ _ (by omega) (by omega) h3
 ·rw [if_neg zi]
  by_cases zj:a≤j∧j < b
  ·rw [if_pos zj]
   exact d _ _ h1 (by omega) (by omega)
  ·rw [if_neg zj]
   exact d _ _ h1 h2 h3
theorem SB.mir {st:SortSt} {a b:Nat} (h:SB κ a₀ st):SB κ a₀ (PyProof.Rows.setArr st (mirror (arrOf st) a b ((b - a) / 2))):=h.setArr (mirror_perm _ _ _ _)
theorem a4l.mir {st st1:SortSt} {lo a b:Nat} (h:a4l a₀ lo st st1) (hB:SB κ a₀ st1) (ha:lo≤a) (hb:b≤a₀.size):a4l a₀ lo st (PyProof.Rows.setArr st1 (mirror (arrOf st1) a b ((b - a) / 2))):=⟨fun j hj=>by
  show el (mirror (arrOf st1) a b ((b - a) / 2)) j=_
  rw [a1B (by rw [hB.size];exact hb),if_neg (by omega)]
  exact h.lo j hj,h.p⟩
theorem a5X (C:Cmp prog w A E s κ less S) (sa:SA less S a₀) {st st1:SortSt} {lo nrem n0:Nat} {Q:Option Nat→SortSt→Prop} (hB:SB κ a₀ st1) (fr:a4l a₀ lo st st1) (h1:1≤n0) (h2:n0+1≤nrem) (hz:lo+nrem≤a₀.size) (ds:Fal less (arrOf st1) lo (lo+n0+1))
  (h:∀ m st',SB κ a₀ st'→a4l a₀ lo st st'→1≤m→m≤nrem→Srt less (arrOf st') lo (lo+m)→Q (some m) st'):wpS (model prog w) A E s (do
 rule "list.sort.descending-run"
 let mut n:=n0+1
 let mut neq:=0
 for _ in [n:nrem] do
  let some smaller ←ltAt' (lo+n) (lo+n - 1) | return none
  if smaller then
   if neq > 0 then reverseSlice' (lo+n - (neq+1)) (lo+n)
   neq:=0
  else
   let some larger ←ltAt' (lo+n - 1) (lo+n) | return none
   if larger then break
   neq:=neq+1
  n:=n+1
 if neq > 0 then reverseSlice' (lo+n - (neq+1)) (lo+n)
 reverseSlice' lo (lo+n)
 for _ in [n:nrem] do
  let some smaller ←ltAt' (lo+n) (lo+n - 1) | return none
  if smaller then break
  n:=n+1
 return some n) Q st1:=by
 have so:=sa.so
 refine wpS_bind (wpS_lift (wpAny_rule ⟨rfl,?_⟩))
 dsimp only
 refine wpS_bind (wpS_mono (wpS_forRange (I:=fun x c st'=>SB κ a₀ st'∧a4l a₀ lo st st'∧∃ q,c=(none,x,q)∧q+1≤x∧Fal less (arrOf st') lo (lo+x)∧Tie less (arrOf st') (lo+x - (q+1)) (lo+x))
  (Q:=fun c st'=>SB κ a₀ st'∧a4l a₀ lo st st'∧∃ x q,c=(none,x,q)∧2≤x∧x≤nrem∧q+1≤x∧Fal less (arrOf st') lo (lo+x)∧Tie less (arrOf st') (lo+x - (q+1)) (lo+x)) ?_ ?_ ⟨hB,fr,0,rfl,by omega,ds,fun i j q1 q2 q3 q4=>?_⟩) ?_)
 ·rintro x c st' hx1 hx2 ⟨hB',fr',q,rfl,hq,dx,tx⟩
  have sz:=hB'.size
  dsimp only
  refine wpS_bind (a2K C sa hB' (by omega) (by omega) ?_)
  dsimp only
  cases e:less (el (arrOf st') (lo+x)) (el (arrOf st') (lo+x - 1)) with
  | true =>
   rw [if_pos rfl]
   have ext:∀ {st2:SortSt},Fal less (arrOf st2) lo (lo+x)→Lt less (el (arrOf st2) (lo+x)) (el (arrOf st2) (lo+x - 1))→Fal less (arrOf st2) lo (lo+(x+1)):=fun {st2} d2 l2 i j p1 p2 p3=>by
    by_cases z:j=lo+x
    ·rw [z] at p2 ⊢
     by_cases z2:i=lo+x - 1
     ·rw [z2];exact l2
     ·exact so.tr _ _ _ l2 (d2 i (lo+x - 1) p1 (by omega) (by omega))
    ·exact d2 i j p1 p2 (by omega)
   have one:∀ {st2:SortSt},Tie less (arrOf st2) (lo+(x+1) - (0+1)) (lo+(x+1)):=fun {st2} i j q1 q2 q3 q4=>by
    have:i=j:=by omega
    rw [this]
    cases e9:less (el (arrOf st2) j) (el (arrOf st2) j) with
    | false=>exact e9
    | true=>exact absurd (so.asym _ _ e9) (by rw [e9];decide)
   by_cases gq:q > 0
   ·rw [if_pos gq]
    rw [reverseSlice'_eq]
    refine wpS_bind (wpS_modify (wpS_pure ⟨hB'.mir,fr'.mir hB' (by omega) (by omega),0,rfl,by omega,?_,one⟩))
    refine ext (dx.mir tx (by omega) (Nat.le_refl _) (by omega)) ?_
    show Lt less (el (mirror (arrOf st') (lo+x - (q+1)) (lo+x) ((lo+x - (lo+x - (q+1))) / 2)) (lo+x)) (el (mirror (arrOf st') (lo+x - (q+1)) (lo+x) ((lo+x - (lo+x - (q+1))) / 2)) (lo+x - 1))
    rw [a1B (by omega),a1B (by omega),if_neg (by omega),if_pos (by omega)]
    exact so.tr _ _ _ (so.asym _ _ e) (tx _ _ (by omega) (by omega) (by omega) (by omega))
   ·rw [if_neg gq]
    exact wpS_pure ⟨hB',fr',0,rfl,by omega,ext dx (so.asym _ _ e),one⟩
  | false =>
   rw [if_neg (by decide)]
   refine wpS_bind (a2K C sa hB' (by omega) (by omega) ?_)
   dsimp only
   cases e2:less (el (arrOf st') (lo+x - 1)) (el (arrOf st') (lo+x)) with
   | true =>
    rw [if_pos rfl]
    exact wpS_pure ⟨hB',fr',x,q,rfl,by omega,by omega,hq,dx,tx⟩
   | false =>
    rw [if_neg (by decide)]
    refine wpS_pure ⟨hB',fr',q+1,rfl,by omega,fun i j p1 p2 p3=>?_,fun i j q1 q2 q3 q4=>?_⟩
    ·by_cases z:j=lo+x
     ·rw [z] at p2 ⊢
      by_cases z2:i=lo+x - 1
      ·rw [z2];exact e2
      ·exact so.tr _ _ _ e2 (dx i (lo+x - 1) p1 (by omega) (by omega))
     ·exact dx i j p1 p2 (by omega)
    ·by_cases zi:i=lo+x
     ·by_cases zj:j=lo+x
      ·rw [zi,zj]
       exact so.tr _ _ _ e2 e
      ·rw [zi]
       exact so.tr _ _ _ e2 (tx _ _ (by omega) (by omega) (by omega) (by omega))
     ·by_cases zj:j=lo+x
      ·rw [zj]
       exact so.tr _ (el (arrOf st') (lo+x - 1)) _ (tx _ _ (by omega) (by omega) (by omega) (by omega)) e
      ·exact tx _ _ (by omega) (by omega) (by omega) (by omega)
 ·rintro c st' ⟨hB',fr',q,rfl,hq,dx,tx⟩
  rw [show max (n0+1) nrem=nrem by omega] at *
  exact ⟨hB',fr',nrem,q,rfl,by omega,Nat.le_refl _,hq,dx,tx⟩
 ·have:i=j:=by omega
  rw [this]
  cases e9:less (el (arrOf st1) j) (el (arrOf st1) j) with
  | false=>exact e9
  | true=>exact absurd (so.asym _ _ e9) (by rw [e9];decide)
 rintro c st2 ⟨hB2,fr2,n,q,rfl,n1,n2,hq,dx,tx⟩
 dsimp only
 have fin:∀ {st3:SortSt},SB κ a₀ st3→a4l a₀ lo st st3→Fal less (arrOf st3) lo (lo+n)→wpS (model prog w) A E s (do
   reverseSlice' lo (lo+n)
   let mut n:=n
   for _ in [n:nrem] do
    let some smaller ←ltAt' (lo+n) (lo+n - 1) | return none
    if smaller then break
    n:=n+1
   return some n) Q st3:=fun {st3} hB3 fr3 d3=>by
  rw [reverseSlice'_eq]
  have sz:=hB3.size
  refine wpS_bind (wpS_modify ?_)
  have hM:=hB3.mir (a:=lo) (b:=lo+n)
  have fM:=fr3.mir hB3 (a:=lo) (b:=lo+n) (Nat.le_refl _) (by omega)
  have sM:Srt less (arrOf (PyProof.Rows.setArr st3 (mirror (arrOf st3) lo (lo+n) ((lo+n - lo) / 2)))) lo (lo+n):=fun i j q1 q2 q3=>by
   show Lt less (el (mirror (arrOf st3) lo (lo+n) ((lo+n - lo) / 2)) i) (el (mirror (arrOf st3) lo (lo+n) ((lo+n - lo) / 2)) j)
   rw [a1B (by omega),a1B (by omega),if_pos (by omega),if_pos (by omega)]
   exact d3 _ _ (by omega) (by omega) (by omega)
  generalize PyProof.Rows.setArr st3 (mirror (arrOf st3) lo (lo+n) ((lo+n - lo) / 2))=st4 at hM fM sM ⊢
  refine wpS_bind (wpS_mono (wpS_forRange (I:=fun x c st'=>st'=st4∧c=(none,x)∧Srt less (arrOf st4) lo (lo+x))
   (Q:=fun c st'=>st'=st4∧∃ n1,c=(none,n1)∧n≤n1∧n1≤nrem∧Srt less (arrOf st4) lo (lo+n1)) ?_ ?_ ⟨rfl,rfl,sM⟩) ?_)
  ·rintro x c st' hx1 hx2 ⟨est,rfl,sx⟩
   subst est
   dsimp only
   refine wpS_bind (a2K C sa hM (by omega) (by omega) ?_)
   dsimp only
   cases e:less (el (arrOf st') (lo+x)) (el (arrOf st') (lo+x - 1)) with
   | true =>
    rw [if_pos rfl]
    exact wpS_pure ⟨rfl,x,rfl,by omega,by omega,sx⟩
   | false =>
    rw [if_neg (by decide)]
    refine wpS_pure ⟨rfl,rfl,fun i j q1 q2 q3=>?_⟩
    by_cases z:j=lo+x
    ·rw [z] at q2 ⊢
     by_cases z2:i=lo+x - 1
     ·rw [z2];exact e
     ·exact so.tr _ _ _ (sx i (lo+x - 1) q1 (by omega) (by omega)) e
    ·exact sx i j q1 q2 (by omega)
  ·rintro c st' ⟨est,rfl,sx⟩
   refine ⟨est,max n nrem,rfl,Nat.le_max_left _ _,Nat.max_le.mpr ⟨by omega,Nat.le_refl _⟩,?_⟩
   exact sx
  rintro c st' ⟨est,n',rfl,n3,n4,sn'⟩
  have est:=est.symm
  subst est
  exact wpS_pure (h n' st4 hM fM (by omega) n4 sn')
 by_cases gq:q > 0
 ·rw [if_pos gq]
  rw [reverseSlice'_eq]
  refine wpS_bind (wpS_modify ?_)
  exact fin hB2.mir (fr2.mir hB2 (by omega) (by omega)) (dx.mir tx (by omega) (Nat.le_refl _) (by rw [hB2.size];omega))
 ·rw [if_neg gq]
  exact fin hB2 fr2 dx
theorem a7W (C:Cmp prog w A E s κ less S) (sa:SA less S a₀) {st:SortSt} {lo nrem:Nat} {Q:Option Nat→SortSt→Prop} (hB:SB κ a₀ st) (h1:1≤nrem) (hz:lo+nrem≤a₀.size)
  (h:∀ m st',SB κ a₀ st'→a4l a₀ lo st st'→1≤m→m≤nrem→Srt less (arrOf st') lo (lo+m)→Q (some m) st'):wpS (model prog w) A E s (countRun' lo nrem) Q st:=by
 have so:=sa.so
 have sz:=hB.size
 rw [countRun'_eq]
 dsimp only
 refine wpS_bind (wpS_mono (wpS_forRange (I:=fun x c st'=>st'=st∧c=(none,x)∧Srt less (arrOf st) lo (lo+x))
  (Q:=fun c st'=>st'=st∧∃ n1,c=(none,n1)∧1≤n1∧n1≤nrem∧Srt less (arrOf st) lo (lo+n1)∧(n1 < nrem→less (el (arrOf st) (lo+n1)) (el (arrOf st) (lo+n1 - 1))=true)) ?_ ?_ ⟨rfl,rfl,fun i j q1 q2 q3=>by omega⟩) ?_)
 ·rintro x c st' hx1 hx2 ⟨est,rfl,sx⟩
  subst est
  dsimp only
  refine wpS_bind (a2K C sa hB (by omega) (by omega) ?_)
  dsimp only
  cases e:less (el (arrOf st') (lo+x)) (el (arrOf st') (lo+x - 1)) with
  | true =>
   rw [if_pos rfl]
   exact wpS_pure ⟨rfl,x,rfl,by omega,by omega,sx,fun _=>e⟩
  | false =>
   rw [if_neg (by decide)]
   have e2:=e
   refine wpS_pure ⟨rfl,rfl,fun i j q1 q2 q3=>?_⟩
   by_cases z:j=lo+x
   ·rw [z] at q2 ⊢
    by_cases z2:i=lo+x - 1
    ·rw [z2];exact e2
    ·exact so.tr _ _ _ (sx i (lo+x - 1) q1 (by omega) (by omega)) e2
   ·exact sx i j q1 q2 (by omega)
 ·rintro c st' ⟨est,rfl,sx⟩
  refine ⟨est,max 1 nrem,rfl,Nat.le_max_left _ _,Nat.max_le.mpr ⟨by omega,Nat.le_refl _⟩,?_,fun q=>absurd q (by omega)⟩
  exact sx
 rintro c st' ⟨est,n,rfl,n1,n2,sn,brk⟩
 have est:=est.symm
 subst est
 dsimp only
 by_cases g1:(n == nrem)=true
 ·rw [if_pos g1]
  exact wpS_pure (h n st hB (a4l.refl _ _) n1 n2 sn)
 rw [if_neg g1]
 have g1:¬ n=nrem:=by simpa using g1
 have b0:=brk (by omega)
 by_cases g2:n > 1
 ·rw [if_pos g2]
  refine wpS_bind (a2K C sa hB (by omega) (by omega) ?_)
  dsimp only
  cases e:less (el (arrOf st) lo) (el (arrOf st) (lo+n - 1)) with
  | true =>
   rw [if_pos rfl]
   exact wpS_pure (h n st hB (a4l.refl _ _) n1 n2 sn)
  | false =>
   rw [if_neg (by decide)]
   have tie:Tie less (arrOf st) lo (lo+n):=fun i j q1 q2 q3 q4=>by
    have a1:Lt less (el (arrOf st) i) (el (arrOf st) (lo+n - 1)):=by
     by_cases z:i=lo+n - 1
     ·rw [z]
      cases e9:less (el (arrOf st) (lo+n - 1)) (el (arrOf st) (lo+n - 1)) with
      | false=>exact e9
      | true=>exact absurd (so.asym _ _ e9) (by rw [e9];decide)
     ·exact sn _ _ q1 (by omega) (by omega)
    have a2:Lt less (el (arrOf st) lo) (el (arrOf st) j):=by
     by_cases z:j=lo
     ·rw [z]
      cases e9:less (el (arrOf st) lo) (el (arrOf st) lo) with
      | false=>exact e9
      | true=>exact absurd (so.asym _ _ e9) (by rw [e9];decide)
     ·exact sn _ _ (Nat.le_refl _) (by omega) q4
    exact so.tr _ _ _ a1 (so.tr _ (el (arrOf st) lo) _ e a2)
   have d0:Fal less (arrOf st) lo (lo+n+1):=fun i j q1 q2 q3=>by
    by_cases z:j=lo+n
    ·rw [z]
     exact so.tr _ _ _ (so.asym _ _ b0) (tie _ _ (by omega) (by omega) q1 (by omega))
    ·exact tie _ _ (by omega) (by omega) q1 (by omega)
   rw [reverseSlice'_eq]
   refine wpS_bind (wpS_modify ?_)
   exact a5X C sa hB.mir ((a4l.refl lo st).mir hB (Nat.le_refl _) (by omega)) n1 (by omega) hz (d0.mir tie (Nat.le_refl _) (by omega) (by omega)) h
 rw [if_neg g2]
 have en:n=1:=by omega
 subst en
 refine a5X C sa hB (a4l.refl lo st) (Nat.le_refl _) (by omega) hz (fun i j q1 q2 q3=>?_) h
 have:i=lo:=by omega
 have:j=lo+1:=by omega
 subst i j
 exact so.asym _ _ b0
theorem a6J (C:Cmp prog w A E s κ less S) (sa:SA less S a₀) {st:SortSt} {lo n ok:Nat} {Q:Bool→SortSt→Prop} (hB:SB κ a₀ st) (hok:ok≤n) (hz:lo+n≤a₀.size) (hs:Srt less (arrOf st) lo (lo+ok))
  (h:∀ st',SB κ a₀ st'→a4l a₀ lo st st'→Srt less (arrOf st') lo (lo+n)→Q true st'):wpS (model prog w) A E s (binarySort' lo n ok) Q st:=by
 have so:=sa.so
 rw [binarySort'_eq]
 refine wpS_bind (wpS_mono (wpS_forRange (I:=fun k c st'=>c=(none,())∧SB κ a₀ st'∧a4l a₀ lo st st'∧Srt less (arrOf st') lo (lo+min k n))
  (Q:=fun c st'=>c=(none,())∧SB κ a₀ st'∧a4l a₀ lo st st'∧Srt less (arrOf st') lo (lo+n)) ?step ?fin ?init) ?post)
 case post =>
  rintro c st' ⟨rfl,hB',fr,hs'⟩
  exact wpS_pure (h st' hB' fr hs')
 case init =>
  refine ⟨rfl,hB,a4l.refl _ _,fun i j h1 h2 h3=>?_⟩
  exact hs i j h1 h2 (by omega)
 case fin =>
  rintro c st' ⟨hc,hB',fr,hs'⟩
  refine ⟨hc,hB',fr,?_⟩
  rwa [show min (max (max ok 1) n) n=n by omega] at hs'
 case step =>
  rintro k c st' hak hkn ⟨rfl,hB',fr,hs'⟩
  rw [show min k n=k by omega] at hs'
  have hk:lo+k < a₀.size:=by omega
  have sz:=hB'.size
  refine wpS_bind (wpS_mono (wpS_forRange (I:=fun x c st''=>st''=st'∧∃ l r,c=(none,l,r)∧l≤r∧r≤k∧r - l≤k - x ∧
    (∀ i,i < l→Lt less (el (arrOf st') (lo+i)) (el (arrOf st') (lo+k)))∧(∀ i,r≤i→i < k→Lt less (el (arrOf st') (lo+k)) (el (arrOf st') (lo+i))))
   (Q:=fun c st''=>st''=st'∧∃ l r,c=(none,l,r)∧l≤k ∧
    (∀ i,i < l→Lt less (el (arrOf st') (lo+i)) (el (arrOf st') (lo+k)))∧(∀ i,l≤i→i < k→Lt less (el (arrOf st') (lo+k)) (el (arrOf st') (lo+i)))) ?istep ?ifin ?iinit) ?ipost)
  case iinit=>exact ⟨rfl,0,k,rfl,by omega,by omega,by omega,fun i hi=>by omega,fun i h1 h2=>by omega⟩
  case ifin =>
   rintro c st'' ⟨rfl,l,r,rfl,hlr,hrk,hm,hlo,hhi⟩
   have:l=r:=by omega
   subst this
   exact ⟨rfl,l,l,rfl,hrk,hlo,hhi⟩
  case istep =>
   rintro x c st'' _ hxk ⟨rfl,l,r,rfl,hlr,hrk,hm,hlo,hhi⟩
   dsimp only
   by_cases hge:l ≥ r
   ·rw [if_pos hge]
    have:l=r:=by omega
    subst this
    exact wpS_pure ⟨rfl,l,l,rfl,hrk,hlo,hhi⟩
   ·rw [if_neg hge]
    refine wpS_bind (a2K C sa hB' hk (by omega) ?_)
    dsimp only
    cases e:less (el (arrOf st'') (lo+k)) (el (arrOf st'') (lo+(l+r) / 2)) with
    | true =>
     rw [if_pos rfl]
     refine wpS_pure ⟨rfl,l,(l+r) / 2,rfl,by omega,by omega,by omega,hlo,fun i h1 h2=>?_⟩
     by_cases z:i=(l+r) / 2
     ·rw [z];exact so.asym _ _ e
     ·exact so.tr _ _ _ (so.asym _ _ e) (hs' _ _ (by omega) (by omega) (by omega))
    | false =>
     rw [if_neg (by decide)]
     have e2:=e
     refine wpS_pure ⟨rfl,(l+r) / 2+1,r,rfl,by omega,by omega,by omega,fun i h1=>?_,hhi⟩
     by_cases z:i=(l+r) / 2
     ·rw [z];exact e2
     ·exact so.tr _ _ _ (hs' (lo+i) (lo+(l+r) / 2) (by omega) (by omega) (by omega)) e2
  case ipost =>
   rintro c st'' ⟨rfl,l,r,rfl,hlk,hlo,hhi⟩
   show wpS _ _ _ _ (do moveDown' (lo+k) (lo+l);pure (ForInStep.yield (none,()))) _ _
   rw [moveDown'_eq]
   have B:∀ x,el (bubble (arrOf st'') (lo+k) (lo+k - (lo+l))) x=if x=lo+l then el (arrOf st'') (lo+k) else if lo+l < x∧x≤lo+k then el (arrOf st'') (x - 1) else el (arrOf st'') x:=fun x=>by
    rw [a7V (by rw [sz];exact hk) (by omega),show lo+k - (lo+k - (lo+l))=lo+l by omega]
   refine wpS_bind (wpS_modify (wpS_pure ⟨rfl,hB'.setArr (bubble_perm _ _ _),⟨fun j hj=>?_,fr.p⟩,?_⟩))
   ·show el (bubble (arrOf st'') (lo+k) (lo+k - (lo+l))) j=_
    rw [B,if_neg (by omega),if_neg (by omega)]
    exact fr.lo j hj
   rw [show min (k+1) n=k+1 by omega]
   intro i j h1 h2 h3
   show Lt less (el (bubble (arrOf st'') (lo+k) (lo+k - (lo+l))) i) (el (bubble (arrOf st'') (lo+k) (lo+k - (lo+l))) j)
   rw [B,B]
   have hl2:∀ x,lo≤x→x < lo+l→Lt less (el (arrOf st'') x) (el (arrOf st'') (lo+k)):=fun x q1 q2=>by
    have q:=hlo (x - lo) (by omega)
    rw [show lo+(x - lo)=x by omega] at q
    exact q
   have hh2:∀ x,lo+l≤x→x < lo+k→Lt less (el (arrOf st'') (lo+k)) (el (arrOf st'') x):=fun x q1 q2=>by
    have q:=hhi (x - lo) (by omega) (by omega)
    rw [show lo+(x - lo)=x by omega] at q
    exact q
   repeat' split
   all_goals first
    | (exfalso;omega)
    | exact hl2 _ (by omega) (by omega)
    | exact hh2 _ (by omega) (by omega)
    | exact hs' _ _ (by omega) (by omega) (by omega)
end
def a1k (less:Keyed→Keyed→Bool) (arr:Array Keyed):List (Nat × Nat × Nat)→Nat→Nat→Prop
 | [],b,e=>b=e
 | q :: r,b,e=>q.1=b∧1≤q.2.1∧Srt less arr b (b+q.2.1)∧a1k less arr r (b+q.2.1) e
variable {less:Keyed→Keyed→Bool} {arr arr':Array Keyed}
theorem a1k.le:∀ {p:List (Nat × Nat × Nat)} {b e:Nat},a1k less arr p b e→b+p.length≤e
 | [],b,e,h=>by cases h;simp
 | q :: r,b,e,h=>by
  have:=a1k.le h.2.2.2
  have:=h.2.1
  rw [List.length_cons]
  omega
theorem a1k.congr:∀ {p:List (Nat × Nat × Nat)} {b e:Nat},(∀ j,b≤j→j < e→el arr' j=el arr j)→a1k less arr p b e→a1k less arr' p b e
 | [],b,e,_,h=>h
 | q :: r,b,e,hc,h=>by
  have l:=a1k.le h.2.2.2
  refine ⟨h.1,h.2.1,fun i j h1 h2 h3=>?_,a1k.congr (fun j h1 h2=>hc j (by omega) h2) h.2.2.2⟩
  rw [hc i h1 (by omega),hc j (by omega) (by omega)]
  exact h.2.2.1 i j h1 h2 h3
theorem a1k.app:∀ {p q:List (Nat × Nat × Nat)} {b e:Nat},a1k less arr (p++q) b e↔∃ m,a1k less arr p b m∧a1k less arr q m e
 | [],q,b,e=>⟨fun h=>⟨b,rfl,h⟩,fun ⟨m,h1,h2⟩=>by cases h1;exact h2⟩
 | x :: p,q,b,e=>by
  constructor
  ·rintro ⟨h1,h2,h3,h4⟩
   obtain ⟨m,g1,g2⟩:=a1k.app.mp h4
   exact ⟨m,⟨h1,h2,h3,g1⟩,g2⟩
  ·rintro ⟨m,⟨h1,h2,h3,h4⟩,g2⟩
   exact ⟨h1,h2,h3,a1k.app.mpr ⟨m,h4,g2⟩⟩
theorem a1k.at2 {p:List (Nat × Nat × Nat)} {b e i:Nat} (h:a1k less arr p b e) (hi:i+1 < p.length):∃ pre post sa na pw nb pw2,p=pre++(sa,na,pw) :: (sa+na,nb,pw2) :: post∧pre.length=i∧1≤na∧1≤nb∧Srt less arr sa (sa+na)∧Srt less arr (sa+na) (sa+na+nb)∧a1k less arr pre b sa∧a1k less arr post (sa+na+nb) e:=by
 have e1:p=p.take i++p.drop i:=(List.take_append_drop i p).symm
 have hd:p.drop i=p[i] :: p[i+1] :: p.drop (i+2):=by
  rw [List.drop_eq_getElem_cons (by omega),List.drop_eq_getElem_cons hi]
 rw [e1,hd] at h
 obtain ⟨m,h1,h2⟩:=a1k.app.mp h
 obtain ⟨a1,a2,a3,b1,b2,b3,b4⟩:=h2
 generalize p[i]=x at *
 generalize p[i+1]=y at *
 obtain ⟨x1,x2,x3⟩:=x
 obtain ⟨y1,y2,y3⟩:=y
 subst a1 b1
 refine ⟨p.take i,p.drop (i+2),x1,x2,x3,y2,y3,?_,by rw [List.length_take];omega,a2,b2,a3,b3,h1,b4⟩
 rw [←hd]
 exact e1
theorem a1k.same:∀ {p p':List (Nat × Nat × Nat)} {b e:Nat},p.map (fun q=>(q.1,q.2.1))=p'.map (fun q=>(q.1,q.2.1))→(a1k less arr p b e↔a1k less arr p' b e)
 | [],[],b,e,_=>Iff.rfl
 | [],_ :: _,b,e,h=>by cases h
 | _ :: _,[],b,e,h=>by cases h
 | q :: r,q' :: r',b,e,h=>by
  rw [List.map_cons,List.map_cons] at h
  obtain ⟨h1,h2⟩:=List.cons.inj h
  have e1:q.1=q'.1:=(Prod.mk.inj h1).1
  have e2:q.2.1=q'.2.1:=(Prod.mk.inj h1).2
  show (q.1=b∧1≤q.2.1∧Srt less arr b (b+q.2.1)∧a1k less arr r (b+q.2.1) e)↔(q'.1=b∧1≤q'.2.1∧Srt less arr b (b+q'.2.1)∧a1k less arr r' (b+q'.2.1) e)
  rw [e1,e2,a1k.same h2]
theorem lt_ite {c:Prop} [Decidable c] {a b n:Nat} (h1:a+1 < n) (h2:b+1 < n):(if c then a else b)+1 < n:=by split <;> assumption
theorem a2L {α β:Type} (g:α→β) (f:α→α) (h:∀ x,g (f x)=g x):∀ (l:List α) (i:Nat),(l.modify i f).map g=l.map g
 | [],i=>by simp
 | x :: l,0=>by simp [h]
 | x :: l,i+1=>by simp [a2L g f h l i]
section
variable {prog:Program} {w:World} {A:Around} {E:Value→Shared→Prop} {s:Shared} {κ:SortKind} {S:Keyed→Prop} {a₀:Array Keyed}
theorem a2M (C:Cmp prog w A E s κ less S) (sa':SA less S a₀) {st:SortSt} {i e:Nat} {Q:Bool→SortSt→Prop} (hB:SB κ a₀ st) (hR:a1k less (arrOf st) (pendingOf st).toList 0 e) (he:e≤a₀.size) (hi:i+1 < (pendingOf st).size)
  (h:∀ st',SB κ a₀ st'→(pendingOf st').size+1=(pendingOf st).size→a1k less (arrOf st') (pendingOf st').toList 0 e→(∀ j,e≤j→j < a₀.size→el (arrOf st') j=el (arrOf st) j)→Q true st') :
  wpS (model prog w) A E s (mergeAt' i) Q st:=by
 obtain ⟨pre,post,sa,na,pw,nb,pw2,ep,lp,n1,n2,s1,s2,r1,r2⟩:=hR.at2 (i:=i) (by rw [Array.length_toList];exact hi)
 have l2:=r2.le
 have g1:(pendingOf st)[i]?=some (sa,na,pw):=by
  rw [←Array.getElem?_toList,ep,List.getElem?_append_right (by omega),lp,Nat.sub_self]
  rfl
 have g2:(pendingOf st)[i+1]?=some (sa+na,nb,pw2):=by
  rw [←Array.getElem?_toList,ep,List.getElem?_append_right (by omega),lp,show i+1 - i=1 by omega]
  rfl
 refine a5t C sa' hB g1 g2 n1 n2 (by omega) s1 s2 fun st' hB' hp' hk hs=>?_
 have el1:(pendingOf st').toList=pre++(sa,na+nb,pw) :: post:=by
  rw [hp',Array.toList_eraseIdxIfInBounds,Array.toList_setIfInBounds,ep]
  rw [List.set_append_right _ _ (by omega),lp,Nat.sub_self,List.set_cons_zero,List.eraseIdx_append_of_length_le (by omega),lp,show i+1 - i=1 by omega]
  rfl
 have lr:=r1.le
 refine h st' hB' ?_ ?_ (fun j h1 h2=>hk j (by omega) h2)
 ·rw [←Array.length_toList,←Array.length_toList,el1,ep]
  simp
  omega
 ·rw [el1]
  refine a1k.app.mpr ⟨sa,a1k.congr (fun j q1 q2=>hk j (by omega) (by omega)) r1,rfl,by show 1≤na+nb;omega,?_,?_⟩
  ·show Srt less (arrOf st') sa (sa+(na+nb))
   rw [←Nat.add_assoc]
   exact hs
  ·show a1k less (arrOf st') post (sa+(na+nb)) e
   rw [←Nat.add_assoc]
   exact a1k.congr (fun j q1 q2=>hk j (by omega) (by omega)) r2
theorem a4m (C:Cmp prog w A E s κ less S) (sa':SA less S a₀) {st:SortSt} {Q:Unit→SortSt→Prop} (hB:SB κ a₀ st) (hp:pendingOf st=#[])
  (h:∀ st',SB κ a₀ st'→Srt less (arrOf st') 0 a₀.size→Q () st'):wpS (model prog w) A E s sortRuns' Q st:=by
 rw [sortRuns'_eq]
 refine wpS_bind (wpS_get ?_)
 dsimp only
 rw [hB.size]
 generalize minRun' a₀.size a₀.size 0=minrun
 refine wpS_bind (wpS_mono (wpS_forRange (I:=fun x c st'=>∃ lo,c=(none,lo)∧SB κ a₀ st'∧lo≤a₀.size∧x≤lo∧a1k less (arrOf st') (pendingOf st').toList 0 lo)
  (Q:=fun c st'=>c=(none,a₀.size)∧SB κ a₀ st'∧a1k less (arrOf st') (pendingOf st').toList 0 a₀.size) ?step ?fin ⟨0,rfl,hB,Nat.zero_le _,Nat.zero_le _,by rw [hp];rfl⟩) ?post)
 case fin =>
  rintro c st' ⟨lo,rfl,hB',h1,h2,hR⟩
  have:lo=a₀.size:=by omega
  subst this
  exact ⟨rfl,hB',hR⟩
 case step =>
  rintro x c st1 _ hx ⟨lo,rfl,hB1,h1,h2,hR1⟩
  dsimp only
  by_cases g:lo ≥ a₀.size
  ·rw [if_pos g]
   have:lo=a₀.size:=by omega
   subst this
   exact wpS_pure ⟨rfl,hB1,hR1⟩
  rw [if_neg g]
  refine wpS_bind (a7W C sa' hB1 (by omega) (by omega) fun m st2 hB2 fr2 m1 m2 sm=>?_)
  have hR2:a1k less (arrOf st2) (pendingOf st2).toList 0 lo:=by
   rw [fr2.p]
   exact a1k.congr (fun j _ q2=>fr2.lo j q2) hR1
  dsimp only
  by_cases g2:m < minrun
  ·rw [if_pos g2]
   refine wpS_bind (wpS_lift (wpAny_rule ⟨rfl,?_⟩))
   refine wpS_bind (a6J C sa' hB2 (by omega) (by omega) sm fun st3 hBc fr3 hSc=>?_)
   have hRc:a1k less (arrOf st3) (pendingOf st3).toList 0 lo:=by
    rw [fr3.p]
    exact a1k.congr (fun j _ q2=>fr3.lo j q2) hR2
   rw [if_neg (by decide)]
   refine wpS_bind (wpS_get ?_)
   cases hb:(pendingOf st3).back? with
   | none =>
    dsimp only
    refine wpS_bind (wpS_modify (wpS_pure ⟨lo+min (a₀.size - lo) minrun,rfl,⟨hBc.perm,hBc.kind,hBc.failed⟩,by omega,by omega,?_⟩))
    show a1k less (arrOf st3) ((pendingOf st3).push (lo,min (a₀.size - lo) minrun,0)).toList 0 (lo+min (a₀.size - lo) minrun)
    rw [Array.toList_push]
    exact a1k.app.mpr ⟨lo,hRc,rfl,by show 1≤min (a₀.size - lo) minrun;omega,hSc,rfl⟩
   | some q0 =>
    obtain ⟨t1,u1,pw0⟩:=q0
    dsimp only
    refine wpS_bind (wpS_mono (wpS_forRange (I:=fun y c st'=>c=(none,())∧SB κ a₀ st'∧a1k less (arrOf st') (pendingOf st').toList 0 lo∧Srt less (arrOf st') lo (lo+min (a₀.size - lo) minrun))
     (Q:=fun c st'=>c=(none,())∧SB κ a₀ st'∧a1k less (arrOf st') (pendingOf st').toList 0 lo∧Srt less (arrOf st') lo (lo+min (a₀.size - lo) minrun)) ?_ (fun c st' hh=>hh) ⟨rfl,hBc,hRc,hSc⟩) ?_)
    ·rintro y c st5 _ hy ⟨rfl,hB5,hR5,hS5⟩
     refine wpS_bind (wpS_get ?_)
     cases hm:(if (pendingOf st5).size > 1 then (pendingOf st5)[(pendingOf st5).size - 2]? else none) with
     | none=>exact wpS_pure ⟨rfl,hB5,hR5,hS5⟩
     | some q5 =>
      obtain ⟨x1,x2,older⟩:=q5
      dsimp only
      have gt1:(pendingOf st5).size > 1:=by
       by_cases z:(pendingOf st5).size > 1
       ·exact z
       ·rw [if_neg z] at hm;cases hm
      split
      ·exact wpS_pure ⟨rfl,hB5,hR5,hS5⟩
      ·refine wpS_bind (a2M C sa' hB5 hR5 (by omega) (by omega) fun st6 hB6 _ hR6 hk6=>?_)
       refine wpS_pure ⟨rfl,hB6,hR6,fun i j h1 h2 h3=>?_⟩
       rw [hk6 i h1 (by omega),hk6 j (by omega) (by omega)]
       exact hS5 i j h1 h2 h3
    ·rintro c st5 ⟨rfl,hB5,hR5,hS5⟩
     dsimp only
     refine wpS_bind (wpS_modify (wpS_bind (wpS_modify (wpS_pure ⟨lo+min (a₀.size - lo) minrun,rfl,⟨hB5.perm,hB5.kind,hB5.failed⟩,by omega,by omega,?_⟩))))
     show a1k less (arrOf st5) ((((pendingOf st5).modify ((pendingOf st5).size - 1) _)).push (lo,min (a₀.size - lo) minrun,0)).toList 0 (lo+min (a₀.size - lo) minrun)
     rw [Array.toList_push]
     refine a1k.app.mpr ⟨lo,?_,rfl,by show 1≤min (a₀.size - lo) minrun;omega,hS5,rfl⟩
     refine (a1k.same ?_).mp hR5
     rw [Array.toList_modify]
     refine (a2L _ _ ?_ _ _).symm
     intro x
     rfl
  ·rw [if_neg g2]
   have hBc:=hB2
   have hRc:=hR2
   have hSc:=sm
   refine wpS_bind (wpS_get ?_)
   cases hb:(pendingOf st2).back? with
   | none =>
    dsimp only
    refine wpS_bind (wpS_modify (wpS_pure ⟨lo+m,rfl,⟨hBc.perm,hBc.kind,hBc.failed⟩,by omega,by omega,?_⟩))
    show a1k less (arrOf st2) ((pendingOf st2).push (lo,m,0)).toList 0 (lo+m)
    rw [Array.toList_push]
    exact a1k.app.mpr ⟨lo,hRc,rfl,by show 1≤m;omega,hSc,rfl⟩
   | some q0 =>
    obtain ⟨t1,u1,pw0⟩:=q0
    dsimp only
    refine wpS_bind (wpS_mono (wpS_forRange (I:=fun y c st'=>c=(none,())∧SB κ a₀ st'∧a1k less (arrOf st') (pendingOf st').toList 0 lo∧Srt less (arrOf st') lo (lo+m))
     (Q:=fun c st'=>c=(none,())∧SB κ a₀ st'∧a1k less (arrOf st') (pendingOf st').toList 0 lo∧Srt less (arrOf st') lo (lo+m)) ?_ (fun c st' hh=>hh) ⟨rfl,hBc,hRc,hSc⟩) ?_)
    ·rintro y c st5 _ hy ⟨rfl,hB5,hR5,hS5⟩
     refine wpS_bind (wpS_get ?_)
     cases hm:(if (pendingOf st5).size > 1 then (pendingOf st5)[(pendingOf st5).size - 2]? else none) with
     | none=>exact wpS_pure ⟨rfl,hB5,hR5,hS5⟩
     | some q5 =>
      obtain ⟨x1,x2,older⟩:=q5
      dsimp only
      have gt1:(pendingOf st5).size > 1:=by
       by_cases z:(pendingOf st5).size > 1
       ·exact z
       ·rw [if_neg z] at hm;cases hm
      split
      ·exact wpS_pure ⟨rfl,hB5,hR5,hS5⟩
      ·refine wpS_bind (a2M C sa' hB5 hR5 (by omega) (by omega) fun st6 hB6 _ hR6 hk6=>?_)
       refine wpS_pure ⟨rfl,hB6,hR6,fun i j h1 h2 h3=>?_⟩
       rw [hk6 i h1 (by omega),hk6 j (by omega) (by omega)]
       exact hS5 i j h1 h2 h3
    ·rintro c st5 ⟨rfl,hB5,hR5,hS5⟩
     dsimp only
     refine wpS_bind (wpS_modify (wpS_bind (wpS_modify (wpS_pure ⟨lo+m,rfl,⟨hB5.perm,hB5.kind,hB5.failed⟩,by omega,by omega,?_⟩))))
     show a1k less (arrOf st5) ((((pendingOf st5).modify ((pendingOf st5).size - 1) _)).push (lo,m,0)).toList 0 (lo+m)
     rw [Array.toList_push]
     refine a1k.app.mpr ⟨lo,?_,rfl,by show 1≤m;omega,hS5,rfl⟩
     refine (a1k.same ?_).mp hR5
     rw [Array.toList_modify]
     refine (a2L _ _ ?_ _ _).symm
     intro x
     rfl
 case post =>
  rintro c st1 ⟨rfl,hB1,hR1⟩
  dsimp only
  have l1:=hR1.le
  rw [Array.length_toList] at l1
  refine wpS_bind (wpS_mono (wpS_forRange (I:=fun x c st'=>c=(none,())∧SB κ a₀ st'∧a1k less (arrOf st') (pendingOf st').toList 0 a₀.size∧(pendingOf st').size+x≤a₀.size)
   (Q:=fun c st'=>c=(none,())∧SB κ a₀ st'∧a1k less (arrOf st') (pendingOf st').toList 0 a₀.size∧(pendingOf st').size≤1) ?_ ?_ ⟨rfl,hB1,hR1,by omega⟩) ?_)
  ·rintro x c st2 _ hx ⟨rfl,hB2,hR2,l2⟩
   refine wpS_bind (wpS_get ?_)
   by_cases g:(pendingOf st2).size≤1
   ·rw [if_pos g]
    exact wpS_pure ⟨rfl,hB2,hR2,g⟩
   rw [if_neg g]
   refine wpS_bind (a2M C sa' hB2 hR2 (Nat.le_refl _) (lt_ite (by omega) (by omega)) fun st3 hB3 l3 hR3 _=>?_)
   exact wpS_pure ⟨rfl,hB3,hR3,by omega⟩
  ·rintro c st2 ⟨rfl,hB2,hR2,l2⟩
   exact ⟨rfl,hB2,hR2,by omega⟩
  ·rintro c st2 ⟨rfl,hB2,hR2,l2⟩
   refine wpS_pure (h st2 hB2 ?_)
   rw [←Array.length_toList] at l2
   match hq:(pendingOf st2).toList,l2,hR2 with
   | [],_,hR2 =>
    have:(0:Nat)=a₀.size:=hR2
    intro i j q1 q2 q3
    omega
   | [q],_,hR2 =>
    obtain ⟨r1,r2,r3,r4⟩:=hR2
    have r4:0+q.2.1=a₀.size:=r4
    rw [r4] at r3
    exact r3
   | q1 :: q2 :: r,l2,_=>simp at l2
end
theorem a3s:∀ u:List Int,HT.a0F u u=false
 | []=>rfl
 | x :: u=>by rw [HT.a1w,if_pos rfl];exact a3s u
theorem a3a:∀ u v w:List Int,HT.a0F u v=true→HT.a0F v w=true→HT.a0F u w=true
 | [],[],w,h,_=>by cases h
 | [],_ :: _,[],_,h=>by cases h
 | [],_ :: _,_ :: _,_,_=>rfl
 | _ :: _,[],w,h,_=>by cases h
 | _ :: _,_ :: _,[],_,h=>by cases h
 | x :: u,y :: v,z :: w,h1,h2=>by
  rw [HT.a1w] at h1 h2 ⊢
  by_cases e1:x=y
  ·subst e1
   rw [if_pos rfl] at h1
   by_cases e2:x=z
   ·subst e2
    rw [if_pos rfl] at h2 ⊢
    exact a3a u v w h1 h2
   ·rw [if_neg e2] at h2 ⊢;exact h2
  ·rw [if_neg e1] at h1
   have l1:=of_decide_eq_true h1
   by_cases e2:y=z
   ·subst e2
    rw [if_neg e1];exact h1
   ·rw [if_neg e2] at h2
    have l2:=of_decide_eq_true h2
    rw [if_neg (by omega)]
    exact decide_eq_true (by omega)
theorem a2v:∀ u v:List Int,u≠v→HT.a0F u v=false→HT.a0F v u=true
 | [],[],h,_=>absurd rfl h
 | [],_ :: _,_,h=>by cases h
 | _ :: _,[],_,_=>rfl
 | x :: u,y :: v,h,h1=>by
  rw [HT.a1w] at h1 ⊢
  by_cases e:x=y
  ·subst e
   rw [if_pos rfl] at h1 ⊢
   exact a2v u v (fun z=>h (by rw [z])) h1
  ·rw [if_neg e] at h1
   rw [if_neg (Ne.symm e)]
   have:=of_decide_eq_false h1
   exact decide_eq_true (by omega)
section
variable {prog:Program} {w:World} {A:Around} {E:Value→Shared→Prop} {s:Shared}
theorem a4T {n:Nat} {lt:Nat→Nat→Bool} {p:Array Nat} {α:Type} {f:Nat→α} {R:α→α→Prop} (o:Ord n lt) (pm:Pm n p) (a:Asc lt p n) (hR:∀ i j,lt i j=true→R (f i) (f j)):(p.toList.map f).Pairwise R:=by
 rw [List.pairwise_map,List.pairwise_iff_getElem]
 intro i j hi hj hij
 have sz:=pm.size
 simp only [Array.length_toList] at hi hj
 have z:=a.all o j i hij (by omega)
 have e1:p.getD i 0=p[i]:=by simp [Array.getD,hi]
 have e2:p.getD j 0=p[j]:=by simp [Array.getD,hj]
 rw [e1,e2] at z
 simpa using hR _ _ z
theorem a7X {M:Model} {vs:List Value} {Q:SortKind→Shared→Prop} (h1:1≤vs.length) (t:∀ v∈vs,∃ n ns,a3I s.heap v (n :: ns)) (h:Q (tuples' true) s):wpAny M A (keyKind' vs.toArray) Q E s:=by
 have ft:∀ v∈vs,∃ n tk,fst? s.heap v=some (.int n tk):=fun v hv=>by
  obtain ⟨n,ns,b,items,rfl,⟨o,ho,hc,k,hd⟩,hi⟩:=t v hv
  have e:fst? s.heap (.ref b)=items[0]?:=by unfold fst?;simp only [ho,hd]
  obtain ⟨l⟩:=items
  cases hi with
  | cons _ tk _=>exact ⟨n,tk,e⟩
 rw [kat_kind_eq,List.mapM_toArray,map_eq_pure_bind]
 refine wpAny_bind (wpAny_bind (a7Q (g:=fst? s.heap) _ (fun v hv Q' hq=>?_) (wpAny_pure ?_)))
 ·obtain ⟨n,ns,tn⟩:=t v hv
  have ty:=tn.i.ty (M:=M)
  obtain ⟨b,items,rfl,⟨o,ho,hc,k,hd⟩,_⟩:=tn
  rw [kas_first_eq]
  refine wpAny_bind (ty.here ?_)
  rw [if_neg (by simp)]
  refine wpAny_bind (listItems_at ho hd (wpAny_pure ?_))
  have e:fst? s.heap (.ref b)=items[0]?:=by unfold fst?;simp only [ho,hd]
  rw [←e]
  exact hq
 ·have na:((List.map (fst? s.heap) vs).toArray.all fun x=>x.isSome)=true:=by
   simp only [List.all_toArray,List.all_map,List.all_eq_true]
   intro v hv
   obtain ⟨n,tk,e⟩:=ft v hv
   simp [e]
  rw [if_pos na]
  refine wpAny_bind (wpAny_rule ?_)
  rw [oneTypeOnly'_eq]
  have fm:Array.filterMap id (List.map (fst? s.heap) vs).toArray=(List.filterMap id (List.map (fst? s.heap) vs)).toArray:=by simp
  rw [fm,List.mapM_toArray,map_eq_pure_bind]
  have int_s:∀ v∈List.filterMap id (List.map (fst? s.heap) vs),∃ n tk,v=.int n tk:=fun v hv=>by
   obtain ⟨x,hx,e⟩:=List.mem_filterMap.mp hv
   obtain ⟨y,hy,rfl⟩:=List.mem_map.mp hx
   obtain ⟨n,tk,e2⟩:=ft y hy
   exact ⟨n,tk,by simp only [id] at e;rw [e2] at e;exact (Option.some.inj e).symm⟩
  have ne:1≤(List.filterMap id (List.map (fst? s.heap) vs)).length:=by
   cases vs with
   | nil=>simp at h1
   | cons v vr =>
    obtain ⟨n,tk,e⟩:=ft v List.mem_cons_self
    simp [e]
  refine wpAny_bind (wpAny_bind (wpAny_bind (kas_mapM (r:=Value.type "int") _ (fun v hv Q' hq=>?_) (wpAny_pure ?_))))
  ·obtain ⟨n,tk,rfl⟩:=int_s v hv
   exact wpAny_of_eq (a:=Value.type "int") rfl hq
  ·generalize List.filterMap id (List.map (fst? s.heap) vs)=fs at ne
   have e0:(List.map (fun _=>Value.type "int") fs).toArray[0]?=some (Value.type "int"):=by
    cases fs with
    | nil=>simp at ne
    | cons f fr=>simp
   have hall:((List.map (fun _=>Value.type "int") fs).toArray.all fun x=>x == Value.type "int")=true:=by simp
   rw [e0]
   simp only [hall,if_true]
   refine wpAny_pure (wpAny_pure ?_)
   exact h
end
theorem Paired.pick {α β:Type} {R:α→β→Prop} {xs:List α} {ys:List β} (h:Paired R xs ys) (d:α) (e:β):∀ is:List Nat,(∀ i∈is,i < xs.length)→Paired R (is.map fun i=>xs.getD i d) (is.map fun i=>ys.getD i e)
 | [],_=>.nil
 | i :: is,hi=>by
  have h1:=hi i (.head _)
  have hx:xs[i]?=some xs[i]:=List.getElem?_eq_getElem h1
  obtain ⟨y,hy,r⟩:=Paired.right_of h i _ hx
  have e1:xs.getD i d=xs[i]:=by rw [List.getD_eq_getElem?_getD,hx];rfl
  have e2:ys.getD i e=y:=by rw [List.getD_eq_getElem?_getD,hy];rfl
  refine .cons ?_ (Paired.pick h d e is fun j hj=>hi j (.tail _ hj))
  show R (xs.getD i d) (ys.getD i e)
  rw [e1,e2];exact r
theorem Pm.mem {n:Nat} {p:Array Nat} (h:Pm n p):∀ i∈p.toList,i < n:=fun i hi=>by
 have q:p.toList.Perm (List.range n):=by
  have:=Array.perm_iff_toList_perm.mp h
  simpa using this
 simpa using q.mem_iff.mp hi
theorem a7Y {α:Type} {n:Nat} {p:Array Nat} {xs:List α} (d:α) (h:Pm n p) (hn:xs.length=n):(p.toList.map fun i=>xs.getD i d).Perm xs:=by
 have e:(List.range n).map (fun i=>xs.getD i d)=xs:=by
  subst hn
  refine List.ext_getElem (by simp) fun i h1 h2=>?_
  simp [List.getD_eq_getElem?_getD,List.getElem?_eq_getElem h2]
 have q:p.toList.Perm (List.range n):=by
  have:=Array.perm_iff_toList_perm.mp h
  simpa using this
 have q2:=q.map fun i=>xs.getD i d
 rw [e] at q2
 exact q2
end L2
namespace L2
open PySem PySem.Spec PyProof.Rows PySem.W
open Classical in
noncomputable def ixv (vs:List Value) (v:Value):Nat:=if h:∃ i,vs[i]?=some v then Classical.choose h else 0
theorem b0e {vs:List Value} (nd:vs.Nodup) {v:Value} {i:Nat} (h:vs[i]?=some v):ixv vs v=i:=by
 have ex:∃ i,vs[i]?=some v:=⟨i,h⟩
 unfold ixv
 rw [dif_pos ex]
 have e:=Classical.choose_spec ex
 exact (List.getElem?_inj ((List.getElem?_eq_some_iff.mp e).1) nd).mp (e.trans h.symm)
theorem a7Z {vs:List Value} (nd:vs.Nodup) {v:Value} (h:v∈vs):vs[ixv vs v]?=some v:=by
 obtain ⟨i,hi⟩:=List.getElem?_of_mem h
 rw [b0e nd hi]
 exact hi
theorem b1d {vs:List Value} (nd:vs.Nodup):vs.map (ixv vs)=List.range vs.length:=by
 refine List.ext_getElem? fun i=>?_
 rw [List.getElem?_map]
 by_cases hi:i < vs.length
 ·rw [List.getElem?_eq_getElem hi,List.getElem?_range hi]
  show some (ixv vs vs[i])=some i
  rw [b0e nd (List.getElem?_eq_getElem hi)]
 ·rw [List.getElem?_eq_none (by omega),List.getElem?_eq_none (by simp;omega)]
  rfl
structure WOrd (n:Nat) (lt:Nat→Nat→Bool):Prop where
 asym:∀ i j,i < n→j < n→lt i j=true→lt j i=false
 ntr:∀ i j k,i < n→j < n→k < n→lt j i=false→lt k j=false→lt k i=false
def ltA (n:Nat) (lt:Nat→Nat→Bool) (i j:Nat):Bool:=if i < n then (if j < n then lt i j else true) else false
theorem b0f {n:Nat} {lt:Nat→Nat→Bool} {i j:Nat} (hi:i < n) (hj:j < n):ltA n lt i j=lt i j:=by unfold ltA;rw [if_pos hi,if_pos hj]
theorem WOrd.all {n:Nat} {lt:Nat→Nat→Bool} (o:WOrd n lt):(∀ i j,ltA n lt i j=true→ltA n lt j i=false)∧∀ i j k,ltA n lt j i=false→ltA n lt k j=false→ltA n lt k i=false:=by
 refine ⟨fun i j h=>?_,fun i j k h1 h2=>?_⟩
 ·unfold ltA at h ⊢
  by_cases hi:i < n
  ·by_cases hj:j < n
   ·rw [if_pos hi,if_pos hj] at h
    rw [if_pos hi,if_pos hj]
    exact o.asym i j hi hj h
   ·rw [if_neg hj]
  ·rw [if_neg hi] at h;cases h
 ·unfold ltA at h1 h2 ⊢
  by_cases hk:k < n
  ·rw [if_pos hk] at h2 ⊢
   by_cases hj:j < n
   ·rw [if_pos hj] at h1 h2
    by_cases hi:i < n
    ·rw [if_pos hi] at h1 ⊢
     exact o.ntr i j k hi hj hk h1 h2
    ·rw [if_neg hi] at h1;cases h1
   ·rw [if_neg hj] at h2;cases h2
  ·rw [if_neg hk]
theorem Ord.weak {n:Nat} {lt:Nat→Nat→Bool} (o:Ord n lt) (irr:∀ i,lt i i=false):WOrd n lt where
 asym:=fun i j _ _ h=>by
  cases e:lt j i with
  | false=>rfl
  | true=>have z:=o.tr _ _ _ h e;rw [irr] at z;cases z
 ntr:=fun i j k hi hj hk h1 h2=>by
  by_cases z1:i=j
  ·rw [z1];exact h2
  ·by_cases z2:j=k
   ·rw [←z2];exact h1
   ·have a:=o.tr _ _ _ (o.tot j i hj hi (Ne.symm z1) h1) (o.tot k j hk hj (Ne.symm z2) h2)
    cases e:lt k i with
    | false=>rfl
    | true=>have z:=o.tr _ _ _ a e;rw [irr] at z;cases z
def WAsc (lt:Nat→Nat→Bool) (p:Array Nat) (m:Nat):Prop:=∀ i j,i < j→j < m→lt (p.getD j 0) (p.getD i 0)=false
section
variable {prog:Program} {w:World} {A:Around} {E:Value→Shared→Prop} {s:Shared}
theorem a9o {a:Addr} {vs:List Value} {n:Nat} {P:PySem.Fin→Shared→Prop} {κ:SortKind} {lt:Nat→Nat→Bool} (o:WOrd vs.length lt) (nd:vs.Nodup) (ho:s.heap.get? a=some (seqObj "list" vs.toArray n)) (hz:vs.length≤100000)
  (hk:2≤vs.length→∀ h1:Heap,(∀ b o,b≠a→s.heap.get? b=some o→h1.get? b=some o)→∀ Q:SortKind→Shared→Prop,Q κ { s with heap:=h1 }→wpAny (model prog w) A (keyKind' vs.toArray) Q E { s with heap:=h1 })
  (hlt:∀ h1:Heap,(∀ b o,b≠a→s.heap.get? b=some o→h1.get? b=some o)→∀ i j,i < vs.length→j < vs.length→∀ (C:Bool→Shared→Prop) (E':Value→Shared→Prop),C (lt i j) { s with heap:=h1 }→wpAny (model prog w) A (keyLt' κ (vs.getD i Value.none) (vs.getD j Value.none)) C E' { s with heap:=h1 })
  (h:∀ (h':Heap) (p:Array Nat) (c:Nat),Pm vs.length p→WAsc lt p vs.length→h'.get? a=some (seqObj "list" (p.toList.map fun i=>vs.getD i Value.none).toArray c)→(∀ b o,b≠a→s.heap.get? b=some o→h'.get? b=some o)→P (.done (.ret .none)) { s with heap:=h' }) :
  wpAny (model prog w) A (Builtin.«list.sort» ⟨[.ref a],[]⟩) P E s:=by
 have ha:a < s.heap.objs.size:=Heap.lt_size ho
 obtain ⟨e1,ho1⟩:∃ e1,(s.heap.update a (Obj.mapSeq fun _=>(#[]:Array Value))).get? a=some (seqObj "list" #[] e1):=⟨_,get?_update_seq ho fun _=>#[]⟩
 rw [list_sort_plain]
 refine wpAny_bind (listItems_at ho rfl (wpAny_bind (listUpdate_at ho rfl ?_ (by rw [List.size_toArray,sizeLine_eq];omega) (Nat.zero_le _))))
 refine wpAny_bind (seqEpoch_at ho1 rfl (wpAny_bind (wpAny_newTuple ?_ (by show vs.length≤_;rw [sizeLine_eq];omega))))
 refine wpAny_bind (wpAny_newList ?_ (Nat.zero_le _))
 refine wpAny_holding ?_
 have k1:∀ b o,b≠a→s.heap.get? b=some o→(((s.heap.update a (Obj.mapSeq fun _=>(#[]:Array Value))).push (seqObj "tuple" vs.toArray 0)).push (seqObj "list" #[] 0)).get? b=some o:=fun b o hb e =>
  Heap.get?_push_of_some _ (Heap.get?_push_of_some _ ((Heap.get?_update_ne _ _ _ _ hb).trans e))
 have ho6:(((s.heap.update a (Obj.mapSeq fun _=>(#[]:Array Value))).push (seqObj "tuple" vs.toArray 0)).push (seqObj "list" #[] 0)).get? a=some (seqObj "list" #[] e1):=Heap.get?_push_of_some _ (Heap.get?_push_of_some _ ho1)
 show wpAny (model prog w) A _ P E { s with heap:=((s.heap.update a (Obj.mapSeq fun _=>(#[]:Array Value))).push (seqObj "tuple" vs.toArray 0)).push (seqObj "list" #[] 0) }
 generalize (((s.heap.update a (Obj.mapSeq fun _=>(#[]:Array Value))).push (seqObj "tuple" vs.toArray 0)).push (seqObj "list" #[] 0))=h1 at k1 ho6 ⊢
 dsimp only
 have last:∀ (out:List Value),∃ c,(h1.update a (Obj.mapSeq fun _=>out.toArray)).get? a=some (seqObj "list" out.toArray c)∧(∀ b o,b≠a→s.heap.get? b=some o→(h1.update a (Obj.mapSeq fun _=>out.toArray)).get? b=some o):=fun out =>
  ⟨_,get?_update_seq ho6 fun _=>out.toArray,fun b o hb e=>(Heap.get?_update_ne _ _ _ _ hb).trans (k1 b o hb e)⟩
 by_cases h2:vs.toArray.size < 2
 ·rw [if_pos h2,if_pos h2]
  refine wpAny_bind (wpAny_pure ?_)
  rw [StateT.run_pure]
  refine wpAny_bind (wpAny_pure ?_)
  dsimp only
  refine wpAny_bind (seqEpoch_at ho6 rfl ?_)
  have e2:Array.map (fun x=>x.snd) (arrOf (SortSt.mk' general' (vs.toArray.zip vs.toArray) #[] 7 none))=vs.toArray:=by
   show Array.map (fun x=>x.snd) (vs.toArray.zip vs.toArray)=vs.toArray
   apply Array.toList_inj.mp
   simp [List.map_snd_zip]
  rw [e2]
  rw [List.size_toArray] at h2
  have er:((List.range vs.length).toArray.toList.map fun i=>vs.getD i Value.none)=vs:=by
   refine List.ext_getElem (by simp) fun i h1 h2=>?_
   simp [List.getD_eq_getElem?_getD,List.getElem?_eq_getElem h2]
  obtain ⟨c,hc,kk⟩:=last vs
  refine wpAny_bind (listUpdate_at ho6 rfl ?_ (Nat.zero_le _) (by rw [List.size_toArray,sizeLine_eq];omega))
  simp only [bne_self_eq_false,Bool.false_eq_true,if_false]
  exact wpAny_pure (h _ (List.range vs.length).toArray c (Array.Perm.refl _) (fun i j hi hj=>absurd hj (by omega)) (by rw [er];exact hc) kk)
 ·rw [if_neg h2,if_neg h2]
  rw [List.size_toArray] at h2
  refine wpAny_bind (hk (by omega) h1 k1 _ ?_)
  have za:(vs.toArray.zip vs.toArray).toList=vs.map fun v=>(v,v):=by
   rw [Array.toList_zip]
   induction vs with
   | nil=>rfl
   | cons v r ih=>simp [List.zip]
  have zs:(vs.toArray.zip vs.toArray).size=vs.length:=by simp
  have gv:∀ v∈vs,vs.getD (ixv vs v) Value.none=v:=fun v hv=>by rw [List.getD_eq_getElem?_getD,a7Z nd hv];rfl
  have lv:∀ v∈vs,ixv vs v < vs.length:=fun v hv=>(List.getElem?_eq_some_iff.mp (a7Z nd hv)).1
  have C:Cmp prog w A E { s with heap:=h1 } κ (fun x y=>ltA vs.length lt (ixv vs x.2) (ixv vs y.2)) (fun x=>x.1=x.2∧x.2∈vs):=by
   intro x y st Q hx hy hκ q
   rw [lt'_eq]
   refine wpS_bind (wpS_get ?_)
   rw [hκ]
   have e1:x.1=vs.getD (ixv vs x.2) Value.none:=by rw [gv _ hx.2];exact hx.1
   have e2:y.1=vs.getD (ixv vs y.2) Value.none:=by rw [gv _ hy.2];exact hy.1
   rw [e1,e2]
   refine wpS_bind (wpS_lift (wpAny_attempt (hlt h1 k1 _ _ (lv _ hx.2) (lv _ hy.2) _ _ ⟨rfl,?_⟩)))
   have q:Q (some (ltA vs.length lt (ixv vs x.2) (ixv vs y.2))) st:=q
   rw [b0f (lv _ hx.2) (lv _ hy.2)] at q
   exact wpS_pure q
  have sa:SA (fun x y=>ltA vs.length lt (ixv vs x.2) (ixv vs y.2)) (fun x=>x.1=x.2∧x.2∈vs) (vs.toArray.zip vs.toArray):=by
   refine ⟨⟨fun x y q=>o.all.1 _ _ q,fun x y z q1 q2=>o.all.2 _ _ _ q1 q2⟩,fun x hx=>?_⟩
   ·rw [za] at hx
    obtain ⟨v,hv,rfl⟩:=List.mem_map.mp hx
    exact ⟨rfl,hv⟩
  refine wpAny_bind (wpAny_mono (a4m C sa (st:=SortSt.mk' κ (vs.toArray.zip vs.toArray) #[] 7 none) (Q:=fun _ st'=>SB κ (vs.toArray.zip vs.toArray) st'∧Srt (fun x y=>ltA vs.length lt (ixv vs x.2) (ixv vs y.2)) (arrOf st') 0 (vs.toArray.zip vs.toArray).size) ⟨Array.Perm.refl _,rfl,rfl⟩ rfl fun st' a1 a2=>⟨a1,a2⟩) ?_ fun _ _ e=>e)
  rintro ⟨⟨⟩,st'⟩ s' ⟨rfl,hB,hS⟩
  dsimp only
  rw [zs] at hS
  have pm0:=Array.perm_iff_toList_perm.mp hB.perm
  rw [za] at pm0
  have sz:(arrOf st').size=vs.length:=by rw [hB.size,zs]
  have inv:∀ x∈(arrOf st').toList,x.2∈vs:=fun x hx=>by
   obtain ⟨v,hv,rfl⟩:=List.mem_map.mp (pm0.mem_iff.mp hx)
   exact hv
  have pl:((arrOf st').map fun x=>ixv vs x.2).toList=(arrOf st').toList.map fun x=>ixv vs x.2:=by simp
  have pm:Pm vs.length ((arrOf st').map fun x=>ixv vs x.2):=by
   show Array.Perm _ _
   rw [Array.perm_iff_toList_perm,pl]
   have q:=pm0.map fun x=>ixv vs x.2
   rw [List.map_map] at q
   have e:(vs.map ((fun x:Keyed=>ixv vs x.2) ∘ fun v=>(v,v)))=List.range vs.length:=b1d nd
   rw [e] at q
   exact q
  have pg:∀ i,i < vs.length→((arrOf st').map fun x=>ixv vs x.2).getD i 0=ixv vs (el (arrOf st') i).2:=fun i hi=>by
   rw [a7T]
   have:((arrOf st').map fun x=>ixv vs x.2)[i]?=some (ixv vs (el (arrOf st') i).2):=by
    rw [Array.getElem?_map,a4f (by rw [sz];exact hi)]
    rfl
   rw [this]
   rfl
  have ie:∀ i,i < vs.length→ixv vs (el (arrOf st') i).2 < vs.length:=fun i hi=>lv _ (inv _ (a3r (by rw [sz];exact hi)))
  have as:WAsc lt ((arrOf st').map fun x=>ixv vs x.2) vs.length:=fun i j hi hj=>by
   rw [pg i (by omega),pg j hj,←b0f (n:=vs.length) (lt:=lt) (ie j hj) (ie i (by omega))]
   exact hS i j (Nat.zero_le _) hi hj
  have hout:Array.map (fun x=>x.snd) (arrOf st')=(((arrOf st').map fun x=>ixv vs x.2).toList.map fun i=>vs.getD i Value.none).toArray:=by
   apply Array.toList_inj.mp
   rw [pl,List.map_map]
   show (Array.map (fun x=>x.snd) (arrOf st')).toList=List.map ((fun i=>vs.getD i Value.none) ∘ fun x:Keyed=>ixv vs x.snd) (arrOf st').toList
   rw [Array.toList_map]
   exact List.map_congr_left fun x hx=>(gv _ (inv x hx)).symm
  obtain ⟨c,hc,kk⟩:=last (((arrOf st').map fun x=>ixv vs x.2).toList.map fun i=>vs.getD i Value.none)
  refine wpAny_bind (seqEpoch_at ho6 rfl ?_)
  rw [hout]
  refine wpAny_bind (listUpdate_at ho6 rfl ?_ (Nat.zero_le _) (by rw [List.size_toArray,List.length_map,pl,List.length_map,Array.length_toList,sz,sizeLine_eq];omega))
  rw [hB.failed]
  simp only [bne_self_eq_false,Bool.false_eq_true,if_false]
  exact wpAny_pure (h _ _ c pm as hc kk)
theorem a9p {a:Addr} {vs:List Value} {n:Nat} {P:PySem.Fin→Shared→Prop} {κ:SortKind} {lt:Nat→Nat→Bool} (o:Ord vs.length lt) (irr:∀ i,lt i i=false) (nd:vs.Nodup) (ho:s.heap.get? a=some (seqObj "list" vs.toArray n)) (hz:vs.length≤100000)
  (hk:2≤vs.length→∀ h1:Heap,(∀ b o,b≠a→s.heap.get? b=some o→h1.get? b=some o)→∀ Q:SortKind→Shared→Prop,Q κ { s with heap:=h1 }→wpAny (model prog w) A (keyKind' vs.toArray) Q E { s with heap:=h1 })
  (hlt:∀ h1:Heap,(∀ b o,b≠a→s.heap.get? b=some o→h1.get? b=some o)→∀ i j,i < vs.length→j < vs.length→∀ (C:Bool→Shared→Prop) (E':Value→Shared→Prop),C (lt i j) { s with heap:=h1 }→wpAny (model prog w) A (keyLt' κ (vs.getD i Value.none) (vs.getD j Value.none)) C E' { s with heap:=h1 })
  (h:∀ (h':Heap) (p:Array Nat) (c:Nat),Pm vs.length p→Asc lt p vs.length→h'.get? a=some (seqObj "list" (p.toList.map fun i=>vs.getD i Value.none).toArray c)→(∀ b o,b≠a→s.heap.get? b=some o→h'.get? b=some o)→P (.done (.ret .none)) { s with heap:=h' }) :
  wpAny (model prog w) A (Builtin.«list.sort» ⟨[.ref a],[]⟩) P E s:=by
 refine a9o (o.weak irr) nd ho hz hk hlt fun h' p c pm as hc kk=>h h' p c pm (fun i hi=>?_) hc kk
 have l:∀ i,i < vs.length→p.getD i 0 < vs.length:=fun i hi=>by
  refine pm.mem _ ?_
  have sz:=pm.size
  rw [a7T,Array.getElem?_eq_getElem (by omega)]
  exact Array.getElem_mem_toList (by omega)
 exact o.tot _ _ (l _ hi) (l i (by omega)) (pm.inj hi (by omega) (by omega)) (as i (i+1) (by omega) hi)
end
end L2
namespace L2
open PySem PySem.Spec PyProof.Rows PySem.W
theorem a5Y:∀ {l:List Value} {ns ms:List Int},IntsAre l ns→IntsAre l ms→ns=ms
 | _,_,_,.nil,.nil=>rfl
 | _,_,_,.cons _ _ h,.cons _ _ h2=>by rw [a5Y h h2]
theorem a4n:∀ {l:List Value} {ns:List Int} {j:Nat} {n:Int},IntsAre l ns→ns[j]?=some n→∃ t,l[j]?=some (.int n t)
 | _,_,j,n,.nil,h=>by simp at h
 | _,_,0,n,.cons m t _,h=>by simp at h;subst h;exact ⟨t,rfl⟩
 | _,_,j+1,n,.cons m t r,h=>by
  obtain ⟨t',e⟩:=a4n r (by simpa using h)
  exact ⟨t',by simpa using e⟩
theorem a3I.inj {h:Heap} {v:Value} {ns ms:List Int} (t1:a3I h v ns) (t2:a3I h v ms):ns=ms:=by
 obtain ⟨b,items,rfl,⟨o,ho,hc,n,hd⟩,hi⟩:=t1
 obtain ⟨b2,items2,e,⟨o2,ho2,hc2,n2,hd2⟩,hi2⟩:=t2
 cases e
 rw [ho] at ho2
 cases ho2
 rw [hd] at hd2
 cases hd2
 exact a5Y hi hi2
section
variable {prog:Program} {w:World} {A:Around} {E:Value→Shared→Prop} {s:Shared}
end
def PrN (h:Heap) (v:Value) (q:Int × List Int):Prop:=∃ (b:Addr) (items:Array Value) (t:Tok) (u:Value),v=.ref b∧IsTup h b items∧items.toList=[.int q.1 t,u]∧a3I h u q.2
theorem PrN.inj {h:Heap} {v:Value} {p q:Int × List Int} (t1:PrN h v p) (t2:PrN h v q):p=q:=by
 obtain ⟨b,items,t,u,rfl,⟨o,ho,hc,n,hd⟩,hi,hu⟩:=t1
 obtain ⟨b2,items2,t',u',e,⟨o2,ho2,hc2,n2,hd2⟩,hi2,hu2⟩:=t2
 cases e
 rw [ho] at ho2
 cases ho2
 rw [hd] at hd2
 cases hd2
 rw [hi] at hi2
 obtain ⟨z1,z2⟩:=List.cons.inj hi2
 obtain ⟨z3,_⟩:=List.cons.inj z2
 subst z3
 exact Prod.ext (Value.int.inj z1).1 (hu.inj hu2)
theorem PrN.keep {h h':Heap} {v:Value} {q:Int × List Int} {a:Addr} {o:Obj} (t:PrN h v q) (ho:h.get? a=some o) (hc:o.cls=.type "list") (k:∀ b o,b≠a→h.get? b=some o→h'.get? b=some o):PrN h' v q:=by
 obtain ⟨b,items,t,u,rfl,⟨ob,hb,hcb,n,hd⟩,hi,hu⟩:=t
 have ne:b≠a:=fun z=>by rw [z,ho] at hb;cases hb;rw [hc] at hcb;exact absurd (Value.type.inj hcb) (by decide)
 exact ⟨b,items,t,u,rfl,⟨ob,k b ob ne hb,hcb,n,hd⟩,hi,hu.keep ho hc k⟩
theorem PrN.keep2 {h h':Heap} {v:Value} {q:Int × List Int} (t:PrN h v q) (k:∀ b o,h.get? b=some o→h'.get? b=some o):PrN h' v q:=by
 obtain ⟨b,items,t,u,rfl,⟨ob,hb,hcb,n,hd⟩,hi,b2,it2,rfl,⟨ob2,hb2,hcb2,n2,hd2⟩,hi2⟩:=t
 exact ⟨b,items,t,_,rfl,⟨ob,k b ob hb,hcb,n,hd⟩,hi,b2,it2,rfl,⟨ob2,k b2 ob2 hb2,hcb2,n2,hd2⟩,hi2⟩
def a1D (p q:Int × List Int):Bool:=if p.1=q.1 then HT.a0F p.2 q.2 else decide (p.1 < q.1)
theorem a1O (p:Int × List Int):a1D p p=false:=by unfold a1D;rw [if_pos rfl];exact a3s _
theorem a4o (p q r:Int × List Int) (h1:a1D p q=true) (h2:a1D q r=true):a1D p r=true:=by
 unfold a1D at *
 by_cases a:p.1=q.1
 ·rw [if_pos a] at h1
  by_cases b:q.1=r.1
  ·rw [if_pos b] at h2
   rw [if_pos (a.trans b)]
   exact a3a _ _ _ h1 h2
  ·rw [if_neg b] at h2
   rw [if_neg (by rw [a];exact b),a]
   exact h2
 ·rw [if_neg a] at h1
  have h1:=of_decide_eq_true h1
  by_cases b:q.1=r.1
  ·rw [←b,if_neg a]
   exact decide_eq_true h1
  ·rw [if_neg b] at h2
   have h2:=of_decide_eq_true h2
   rw [if_neg (by omega)]
   exact decide_eq_true (by omega)
theorem a5Z (p q:Int × List Int) (ne:p≠q) (h:a1D p q=false):a1D q p=true:=by
 unfold a1D at *
 by_cases a:p.1=q.1
 ·rw [if_pos a] at h
  rw [if_pos a.symm]
  exact a2v _ _ (fun z=>ne (Prod.ext a z)) h
 ·rw [if_neg a] at h
  rw [if_neg (fun z=>a z.symm)]
  have h:=of_decide_eq_false h
  exact decide_eq_true (by omega)
abbrev LxP (p q:Int × List Int):Prop:=a1D p q=true
def ltKP (ks:List (Int × List Int)) (i j:Nat):Bool:=a1D (ks.getD i (0,[])) (ks.getD j (0,[]))
theorem ordKP {ks:List (Int × List Int)} (nd:ks.Nodup):Ord ks.length (ltKP ks) where
 tr:=fun i j k=>a4o _ _ _
 tot:=fun i j hi hj ne h=>by
  refine a5Z _ _ (fun z=>ne ?_) h
  rw [List.getD_eq_getElem?_getD,List.getD_eq_getElem?_getD,List.getElem?_eq_getElem hi,List.getElem?_eq_getElem hj] at z
  exact (List.getElem_inj nd).mp z
section
variable {prog:Program} {w:World} {A:Around} {E:Value→Shared→Prop} {s:Shared}
theorem a8a {x y:Value} {ns ms:List Int} (hx:a3I s.heap x ns) (hy:a3I s.heap y ms) (hu:A.units+1 < cLine):SeqAt.EqAt A s x y (decide (ns=ms)):=by
 have hx0:=hx
 have hy0:=hy
 obtain ⟨a,items,rfl,ht,hi⟩:=hx
 obtain ⟨b,items2,rfl,ht2,hj⟩:=hy
 by_cases z:a=b
 ·subst z
  rw [decide_eq_true (hx0.inj hy0)]
  exact SeqAt.EqAt.same _
 ·have l1:=hi.length
  have l2:=hj.length
  rw [Array.length_toList] at l1 l2
  refine SeqAt.EqAt.of_refs z ?_
  have q:=SeqAt.RcAt.tuples (A:=A) (s:=s) (e:=fun j=>match ns[j]?,ms[j]? with | some d,some e=>decide (d=e) | _,_=>true) ht ht2 (by omega) (fun j h1 h2=>by
   obtain ⟨t1,e1⟩:=a4n hi (List.getElem?_eq_getElem (show j < ns.length by omega))
   obtain ⟨t2,e2⟩:=a4n hj (List.getElem?_eq_getElem (show j < ms.length by omega))
   have f1:items[j]=.int ns[j] t1:=by
    have:=(List.getElem?_eq_some_iff.mp e1).2
    simpa using this
   have f2:items2[j]=.int ms[j] t2:=by
    have:=(List.getElem?_eq_some_iff.mp e2).2
    simpa using this
   rw [f1,f2]
   have g:=SeqAt.EqAt.int_int (A:=A.in1) (s:=s) ns[j] t1 ms[j] t2
   rw [Bool.beq_eq_decide_eq] at g
   simp only [List.getElem?_eq_getElem (show j < ns.length by omega),List.getElem?_eq_getElem (show j < ms.length by omega)]
   exact g)
  have e:((List.range (min items.size items2.size)).all (fun j=>match ns[j]?,ms[j]? with | some d,some e=>decide (d=e) | _,_=>true) && items.size == items2.size)=decide (ns=ms):=by
   rw [l1,l2]
   exact a9X ns ms _ fun j x y h1 h2=>by simp only [h1,h2]
  rw [e] at q
  exact q
end
def RPw (H:Hp) (x:V) (q:Int × List Int):Prop:=∃ t u,x=.ref t∧H t=some (.tup [.int q.1,u])∧Wd H u q.2
end L2
namespace L2
open PySem PySem.Spec PyProof.Rows
section
variable {X:Cx} {elt iter:Expr} {tg:Str} {tp:Pos} {cs:List Expr} {scope:Scope} {pos:Pos} {tc:TT} {te:TE} {M:List Str}
theorem a6a {tl:TE} {pos1 spos:Pos} {i:Nat} {x:Str} (hN:X.N.Nodup) (hix:X.N[i]?=some x) (hx:X.env.scope.names.lookup x=some .local) (hc:X.calm=true) (S:a0o scope X.env X.N M) (nd:(tg :: M).Nodup) (hl:scope.names.lookup tg=some .local) (hi:PE X iter tl) (mo:a2W tl)
  (hin:a6G X scope tg M cs elt tc te) (hw:swapsWith (.ListComp elt [⟨.Name tg tp,iter,cs,0⟩] scope pos) (some (.Name x pos1)) spos.line X.env=pure true:=by rfl) (hf:∀ x,foldedSetIterable iter X.env x=pure x:=by intro _;rfl) :
  PS X (.Assign [.Name x pos1] (.ListComp elt [⟨.Name tg tp,iter,cs,0⟩] scope pos) spos) (tAsg (b0a X.K tl tc te) (a2C i)):=by
 refine a9j hc S nd hl (a2D hi) hin (fun σ H Q h=>?_) hN hix hx hw hf
 refine mo σ H _ _ (fun v H1 q=>?_) h
 obtain ⟨a,xs,e,j1,q⟩:=q
 refine ⟨a,e,⟨xs,j1⟩,fun d hd=>?_⟩
 obtain ⟨Pv,h0,hl,hs,hd⟩:=q d hd
 exact a4P (k:=1) (g:=a2C 0) Pv h0 hl hs hd
end
section
variable {P:Program} {w:World} {A:Around} {H:Hp} {s:Shared} {n:Nat} {α β γ:Type} [DecidableEq α] [DecidableEq β] [DecidableEq γ]
def RTwo {α β:Type} (H:Hp) (R1:V→α→Prop) (R2:V→β→Prop) (x:V) (p:α × β):Prop:=∃ a y z,x=.ref a∧H a=some (.tup [y,z])∧R1 y p.1∧R2 z p.2
def RThr {α β γ:Type} (H:Hp) (R1:V→α→Prop) (R2:V→β→Prop) (R3:V→γ→Prop) (x:V) (p:α × β × γ):Prop:=∃ a y z t,x=.ref a∧H a=some (.tup [y,z,t])∧R1 y p.1∧R2 z p.2.1∧R3 t p.2.2
variable {R1:V→α→Prop} {R2:V→β→Prop} {R3:V→γ→Prop}
end
def srt (ns:List Int):List Int:=ns.mergeSort fun a b=>decide (a≤b)
theorem a0Z (ns:List Int):(srt ns).Perm ns:=List.mergeSort_perm ns _
theorem a2b (ns:List Int):(srt ns).Pairwise (·≤·):=by
 have h:=List.pairwise_mergeSort (le:=fun a b:Int=>decide (a≤b)) (fun a b c h1 h2=>by simp at *;omega) (fun a b=>by simp;omega) ns
 exact h.imp fun h=>by simpa using h
theorem a1r (ns:List Int):(srt ns).length=ns.length:=(a0Z ns).length_eq
theorem a8b {a b:List Int} (h:a.Perm b) (h1:a.Pairwise (·≤·)) (h2:b.Pairwise (·≤·)):a=b:=h.eq_of_pairwise (fun x y _ _ h3 h4=>by omega) h1 h2
theorem srt_of {ns ms:List Int} (h:ms.Perm ns) (h1:ms.Pairwise (·≤·)):ms=srt ns:=a8b (h.trans (a0Z ns).symm) h1 (a2b ns)
def SqI (H:Hp) (a:Addr) (ns:List Int):Prop:=H a=some (.lst (ns.map V.int))∨H a=some (.tup (ns.map V.int))
def b0g:List V→Hp→VK→Prop:=fun xs H Q=>∃ (a:Addr) (ns:List Int),xs=[.ref a]∧SqI H a ns∧ns.length < 64∧∀ p H',a0y H H'→H p=none→H' p=some (.lst ((srt ns).map V.int))→Q (.ref p) H'
theorem a1x {ns:List Int} {us:List Value} (r:a0A (ns.map V.int) us):IntsAre us ns:=by
 induction ns generalizing us with
 | nil=>cases r;exact .nil
 | cons n ns ih =>
  cases r with
  | cons r rr =>
   obtain ⟨t,rfl⟩:=r
   exact .cons _ _ (ih rr)
theorem a6K {ns:List Int} {us:List Value} (r:IntsAre us ns):a0A (ns.map V.int) us:=by
 induction r with
 | nil=>exact .nil
 | cons n t _ ih=>exact .cons ⟨t,rfl⟩ ih
theorem seq_at {X:Cx} {pins:List (Addr × Obj)} {σ:St} {H:Hp} {s:Shared} (I:Inv X pins σ H s) {a:Addr} {ns:List Int} (h:SqI H a ns):∃ (T:String) (o:Obj) (its:List Value) (n:Nat),(T="list"∨T="tuple")∧s.heap.get? a=some o∧o.cls=.type T∧o.data=.seq its.toArray n∧IntsAre its ns:=by
 rcases h with h | h
 ·obtain ⟨_,its,n,rv,he⟩:=(show a0w X.prog X.w H s.heap a (.lst (ns.map V.int)) from I.hok a _ h)
  exact ⟨"list",_,its,n,.inl rfl,he,rfl,rfl,a1x rv⟩
 ·obtain ⟨_,its,rv,⟨o,ho,hcl,n,hd⟩⟩:=a1N ((show a0w X.prog X.w H s.heap a (.tup (ns.map V.int)) from I.hok a _ h))
  exact ⟨"tuple",o,its,n,.inr rfl,ho,hcl,hd,a1x rv⟩
theorem a1i {vs:List Value} {ns:List Int} (h:IntsAre vs ns):vs.length=ns.length:=by
 induction h with
 | nil=>rfl
 | cons n t _ ih=>simp [ih]
theorem a1P {X:Cx}:a2g X (.builtin "sorted") b0g:=by
 intro pins s σ H xs us Q I r h
 obtain ⟨a,ns,rfl,e,h64,q⟩:=h
 obtain ⟨u,rfl,rx⟩:=a3m r
 cases rx
 obtain ⟨T,o,its,n,hT,ho,hcl,hdat,hI⟩:=seq_at I e
 have li:=a1i hI
 refine Calls.call_function_entry kind_sorted plain_sorted entry_sorted (args_sorted1 _) ?_
 unfold Builtin.«sorted»
 refine wpAny_bind (m:=checkCount "sorted" 1 1 _) (wpAny_pure ?_)
 refine wpAny_bind (wpAny_collect_seq a hT ho hcl hdat (fun h1 k1=>?_) (by rw [List.size_toArray,sizeLine_eq];omega))
 show wpAny _ _ _ _ _ { s with heap:=h1 }
 refine wpAny_bind (wpAny_newList ?_ (by show its.length≤sizeLine;rw [sizeLine_eq];omega))
 show wpAny _ _ _ _ _ { s with heap:=h1.push (seqObj "list" its.toArray 0) }
 have hoL:(h1.push (seqObj "list" its.toArray 0)).get? h1.objs.size=some (seqObj "list" its.toArray 0):=Heap.get?_push_size _ rfl
 have nL:∀ b o,h1.get? b=some o→b≠h1.objs.size:=fun b o e=>Nat.ne_of_lt (Heap.lt_size e)
 have I1:Inv X pins σ H { s with heap:=h1,toks:=s.toks }:=I.kept k1
 have hLn:H h1.objs.size=none:=I1.hok.fresh (Nat.le_refl _)
 refine wpAny_bind (wpAny_holding (wpAny_call_entry slot_list_sort ⟨_,hoL,rfl⟩ entry_list_sort (list_sort_tree (s:={ s with heap:=h1.push (seqObj "list" its.toArray 0) }) hoL hI (by omega) fun out ns' ho' pm srt'=>⟨_,rfl,?_⟩) (args_list_sort _)))
 have es:ns'=srt ns:=srt_of pm srt'
 subst es
 have lo:out.toList.length=ns.length:=by rw [a1i ho',a1r]
 have hp:∃ c,(sortedHeap (h1.push (seqObj "list" its.toArray 0)) h1.objs.size its out).get? h1.objs.size=some { cls:=.type "list",data:=.seq out.toList.toArray c }:=by
  unfold sortedHeap
  have z1:=get?_update_seq hoL (fun _=>#[])
  have z2:=Heap.get?_push_of_some (seqObj "tuple" its.toArray 0) z1
  have z3:=Heap.get?_push_of_some (seqObj "list" #[] 0) z2
  have z4:=get?_update_seq z3 (fun _=>out)
  exact ⟨_,z4⟩
 obtain ⟨c,hp⟩:=hp
 have kh:∀ b o,h1.get? b=some o→(sortedHeap (h1.push (seqObj "list" its.toArray 0)) h1.objs.size its out).get? b=some o:=fun b o e=>by
  have ne:=nL b o e
  unfold sortedHeap
  rw [Heap.get?_update_ne _ _ _ _ ne]
  refine Heap.get?_push_of_some _ (Heap.get?_push_of_some _ ?_)
  rw [Heap.get?_update_ne _ _ _ _ ne]
  exact Heap.get?_push_of_some _ e
 have I2:Inv X pins σ (upd H h1.objs.size (.lst ((srt ns).map V.int))) { s with heap:=sortedHeap (h1.push (seqObj "list" its.toArray 0)) h1.objs.size its out,toks:=s.toks }:=I1.laid (t':=s.toks) kh (Nat.le_refl _) ⟨by rw [List.length_map,a1r,sizeLine_eq];omega,_,c,a6K ho',hp⟩
 have sm:=a0c hLn (.lst ((srt ns).map V.int))
 exact wpAny_pure ⟨_,rfl,.ref h1.objs.size,_,I2,rfl,q _ _ sm hLn a0b⟩
theorem a9q {ns:List Int} {m:Int} (h:m∈ns) (h1:∀ x∈ns,m≤x):(srt ns).headD 0=m:=by
 have p:=a0Z ns
 have r:=a2b ns
 cases e:srt ns with
 | nil =>
  rw [e] at p
  have:=p.symm.mem_iff.mp h
  cases this
 | cons a t =>
  rw [e] at p r
  have ha:m≤a:=h1 a (p.mem_iff.mp (.head _))
  have hm:m∈a :: t:=p.symm.mem_iff.mp h
  show a=m
  cases hm with
  | head=>rfl
  | tail _ hm =>
   have:=(List.pairwise_cons.mp r).1 m hm
   omega
def rMinI:List V→Hp→VK→Prop:=fun xs H Q=>∃ (a:Addr) (ns:List Int),xs=[.ref a]∧SqI H a ns∧ns≠[]∧Q (.int ((srt ns).headD 0)) H
theorem a5u {its:List Value} {ns:List Int} (hI:IntsAre its ns) (ne:ns≠[]) {v:Value} (h:its.toArray[argBest (fun i j=>decide (ns.getD i 0 < ns.getD j 0)) (its.toArray.size - 1)]?=some v):∃ t,v=.int ((srt ns).headD 0) t:=by
 have li:=a1i hI
 have hb:=argBest_lt (fun i=>ns.getD i 0) (its.toArray.size - 1)
 have ez:its.toArray.size=its.length:=List.size_toArray
 have n0:0 < ns.length:=List.length_pos_iff.mpr ne
 have hv:its[argBest (fun i j=>decide (ns.getD i 0 < ns.getD j 0)) (its.toArray.size - 1)]?=some v:=by simpa using h
 obtain ⟨t,e⟩:=hI.int_at _ v hv
 refine ⟨t,?_⟩
 rw [e]
 congr 1
 refine (a9q ?_ fun x hx=>?_).symm
 ·rw [List.getD_eq_getElem?_getD,List.getElem?_eq_getElem (by have:=hb.1;omega)]
  exact List.getElem_mem _
 ·obtain ⟨j,hj⟩:=List.mem_iff_getElem?.mp hx
  have jl:=(List.getElem?_eq_some_iff.mp hj).1
  have:=hb.2 j (by omega)
  rw [show ns.getD j 0=x by rw [List.getD_eq_getElem?_getD,hj];rfl] at this
  exact this
theorem a8c {X:Cx} (hc:X.calm=true):a2g X (.builtin "min") rMinI:=by
 intro pins s σ H xs us Q I r h
 obtain ⟨a,ns,rfl,e,ne,q⟩:=h
 obtain ⟨u,rfl,ru⟩:=a3m r
 cases ru
 have n0:0 < ns.length:=List.length_pos_iff.mpr ne
 rcases e with e | e
 ·obtain ⟨_,its,n,rv,he⟩:=(show a0w X.prog X.w H s.heap a (.lst (ns.map V.int)) from I.hok a _ e)
  have hI:=a1x rv
  have li:=a1i hI
  have hlt:=Heap.lt_size he
  refine call_min_walk (wpAny_pyIter_list (a1E he) ?_)
  refine ⟨s.heap.objs.size,_,_,_,_,_,fun i j=>decide (ns.getD i 0 < ns.getD j 0),rfl,Walks.list (A:=X.A.in1) (by show X.A.handled=none;exact I.ok.hd hc) s.heap.objs.size a (Nat.ne_of_lt hlt) its.toArray,⟨⟨_,Heap.get?_push_size _ rfl,rfl,rfl⟩,a1E (Heap.get?_push_of_some _ he)⟩,?_,by rw [List.size_toArray];omega,CmpOf.ints_lt _ (fun i v hv=>hI.int_at i v (by simpa using hv)),fun v h' tk hv hk=>?_⟩
  ·intro b hb
   have hp:(s.heap.push { cls:=.type "list_iterator",data:=.fields #[.ref a,rawInt 0] }).objs.size=s.heap.objs.size+1:=Heap.size_push _ _
   simp only [List.mem_cons,List.not_mem_nil,or_false] at hb
   show b < (s.heap.push _).objs.size
   rw [Heap.size_push]
   rcases hb with rfl | rfl
   ·exact Nat.lt_succ_self _
   ·exact Nat.lt_succ_of_lt hlt
  ·obtain ⟨t,rfl⟩:=a5u hI ne hv
   exact ⟨.int _,H,I.kept (h':=h') (t':=tk) (fun b o eo=>hk b o (by simp;exact Nat.ne_of_lt (Heap.lt_size eo)) (Heap.get?_push_of_some _ eo)),⟨t,rfl⟩,q⟩
 ·obtain ⟨_,its,rv,ht⟩:=a1N ((show a0w X.prog X.w H s.heap a (.tup (ns.map V.int)) from I.hok a _ e))
  have hI:=a1x rv
  have li:=a1i hI
  have hlt:a < s.heap.objs.size:=by obtain ⟨o,ho,_⟩:=ht;exact Heap.lt_size ho
  refine call_min_walk (wpAny_pyIter_tuple ht ?_)
  refine ⟨s.heap.objs.size,_,_,_,_,_,fun i j=>decide (ns.getD i 0 < ns.getD j 0),rfl,Walks.tuple (A:=X.A.in1) (by show X.A.handled=none;exact I.ok.hd hc) s.heap.objs.size a (Nat.ne_of_lt hlt) its.toArray,⟨⟨_,Heap.get?_push_size _ rfl,rfl,rfl⟩,by obtain ⟨o,ho,r⟩:=ht;exact ⟨o,Heap.get?_push_of_some _ ho,r⟩⟩,?_,by rw [List.size_toArray];omega,CmpOf.ints_lt _ (fun i v hv=>hI.int_at i v (by simpa using hv)),fun v h' tk hv hk=>?_⟩
  ·intro b hb
   simp only [List.mem_cons,List.not_mem_nil,or_false] at hb
   show b < (s.heap.push _).objs.size
   rw [Heap.size_push]
   rcases hb with rfl | rfl
   ·exact Nat.lt_succ_self _
   ·exact Nat.lt_succ_of_lt hlt
  ·obtain ⟨t,rfl⟩:=a5u hI ne hv
   exact ⟨.int _,H,I.kept (h':=h') (t':=tk) (fun b o eo=>hk b o (by simp;exact Nat.ne_of_lt (Heap.lt_size eo)) (Heap.get?_push_of_some _ eo)),⟨t,rfl⟩,q⟩
theorem a8d:bootBuiltins "min"=some (.builtin "min"):=by decide +kernel
theorem a0Y:bootBuiltins "sorted"=some (.builtin "sorted"):=by decide +kernel
theorem mo_srt {ta:TA} (h1:a7K ta):a2W (tCB b0g ta):=fun σ H Q Q' h q=>h1 σ H _ _ (fun vs H1 ⟨a,ns,e,s,l,q1⟩=>⟨a,ns,e,s,l,fun p H' sm hn hp=>h _ _ (q1 p H' sm hn hp)⟩) q
def TK (H H':Hp):Prop:=∀ a xs,H a=some (.tup xs)→H' a=some (.tup xs)
theorem TK.of {H H':Hp} (s:a0y H H'):TK H H':=fun a xs e=>s _ _ e
theorem TK.upd {H:Hp} {l:Addr} {ys:List V} {o:HO} (h:H l=some (.lst ys)):TK H (L2.upd H l o):=fun a xs e=>by
 rw [a0r (fun z=>by rw [z,h] at e;cases e)]
 exact e
theorem TK.trans {H H1 H2:Hp} (h:TK H H1) (h2:TK H1 H2):TK H H2:=fun a xs e=>h2 a xs (h a xs e)
theorem b0T.tk {H H':Hp} {x:V} {ns:List Int} (k:TK H H') (h:b0T H a6D x ns):b0T H' a6D x ns:=by
 obtain ⟨a,xs,rfl,e,p⟩:=h
 exact ⟨a,xs,rfl,k _ _ e,p⟩
abbrev a6b (H:Hp):V→Int × List Int→Prop:=RTwo H a6D (b0T H a6D)
abbrev a3H (H:Hp):V→Int × Int × (Int × List Int)→Prop:=RThr H a6D a6D (a6b H)
theorem a6b.tk {H H':Hp} {x:V} {p:Int × List Int} (k:TK H H') (h:a6b H x p):a6b H' x p:=by
 obtain ⟨a,y,z,rfl,e,h1,h2⟩:=h
 exact ⟨a,y,z,rfl,k _ _ e,h1,b0T.tk k h2⟩
theorem a3H.tk {H H':Hp} {x:V} {p:Int × Int × (Int × List Int)} (k:TK H H') (h:a3H H x p):a3H H' x p:=by
 obtain ⟨a,y,z,t,rfl,e,h1,h2,h3⟩:=h
 exact ⟨a,y,z,t,rfl,k _ _ e,h1,h2,a6b.tk k h3⟩
abbrev Mvs (H:Hp) (xs:List V) (ms:List (Int × Int × (Int × List Int))):Prop:=Paired (a3H H) xs ms
theorem Mvs.tk {H H':Hp} {xs:List V} {ms:List (Int × Int × (Int × List Int))} (k:TK H H') (h:Mvs H xs ms):Mvs H' xs ms:=Paired.mapP h fun _ _ q=>a3H.tk k q
section
variable {prog:Program} {w:World} {A:Around} {R:Result→Shared→Prop} {I:Addr} {fp wr:List Addr} {n:Nat} {P:Nat→Value→Prop} {St:Nat→Heap→Prop}
abbrev kwD (d:Value):List (Str × Value):=[(Str.ofString "default",d)]
theorem b1e (W:Walks prog w A.in1 I fp wr n P St) (bt:Nat→Nat→Bool) (C:CmpOf prog w A.in1 .Lt P bt) (S:Addr) (hS:S∉fp) (d:Value) :
  ∀ (k j:Nat) (s:Shared) (vb:Value) (c:Nat),n - (j+1)=k→j+1≤n→St (j+1) s.heap→P (argBest bt j) vb→s.heap.get? S=some { cls:=.type "list",data:=.seq #[vb,vb] c } →
   (∀ (v:Value) (h':Heap) (tk:Nat),P (argBest bt (n - 1)) v→(∀ (b:Addr) (o:Obj),b∉wr→b≠S→s.heap.get? b=some o→h'.get? b=some o)→R (.ok (.ret v)) { s with heap:=h',toks:=tk }) →
   codeAny (model prog w) A (.builtin "min.loop" ⟨[.ref I,.none,.ref S],kwD d⟩) R s:=by
 intro k
 induction k with
 | zero =>
  intro j s vb c hk hj st pv hs q
  have ej:j+1=n:=by omega
  refine codeAny_builtin F.entry_min_loop ?_
  rw [Around.under_plainId F.plain_min_loop _]
  show wpAny _ A.in1 (seqItems? (.ref S) >>= _) _ _ s
  refine wpAny_bind (wpAny_seqItems hs rfl ?_)
  refine wpAny_bind (wpAny_tryCatch ?_)
  subst ej
  refine W.done s _ _ st fun h' tk hk'=>?_
  have hs':=hk' S _ (fun z=>hS (W.sub _ z)) hs
  show wpAny _ A.in1 (updateSeq S _ >>= _) _ _ _
  refine wpAny_bind (wpAny_updateSeq hs' rfl ?_)
  refine wpAny_bind (wpAny_letGo ?_)
  refine wpAny_pure ?_
  refine q vb _ tk pv fun b o hb hne e=>?_
  rw [Heap.get?_update_ne _ _ _ _ hne]
  exact hk' b o hb e
 | succ k ih =>
  intro j s vb c hk hj st pv hs q
  have hlt:j+1 < n:=by omega
  refine codeAny_builtin F.entry_min_loop ?_
  rw [Around.under_plainId F.plain_min_loop _]
  show wpAny _ A.in1 (seqItems? (.ref S) >>= _) _ _ s
  refine wpAny_bind (wpAny_seqItems hs rfl ?_)
  refine wpAny_bind (wpAny_tryCatch ?_)
  refine W.item (j+1) s _ _ hlt st fun v h' tk hv st' hk'=>?_
  have hs':=hk' S _ (fun z=>hS (W.sub _ z)) hs
  show wpAny _ A.in1 (tryCatch (holding [v,v] (richCompare .Lt v vb >>= _)) _ >>= _) _ _ _
  refine wpAny_bind (wpAny_tryCatch (wpAny_holding (wpAny_bind ?_)))
  refine C (j+1) (argBest bt j) v vb _ _ _ hv pv ?_
  refine wpAny_bind (wpAny_holding (wpAny_truthy_bool ?_))
  refine wpAny_bind (wpAny_letGo (wpAny_pure ?_))
  have eb:argBest bt (j+1)=if bt (j+1) (argBest bt j)=true then j+1 else argBest bt j:=rfl
  cases hb:bt (j+1) (argBest bt j) with
  | true =>
   rw [hb,if_pos rfl] at eb
   show wpAny _ A.in1 (updateSeq S _ >>= _) _ _ _
   refine wpAny_bind (wpAny_updateSeq hs' rfl ?_)
   refine wpAny_bind (wpAny_letGo ?_)
   refine wpAny_pure ⟨plainId_quiet F.plain_min_loop _,?_⟩
   have hs2:=get?_update_seq (c:="list") hs' (fun _=>#[v,v])
   refine ih (j+1) _ v _ (by omega) (by omega) ?_ (by rw [eb];exact hv) hs2 fun v2 h2 tk2 hv2 hk2=>?_
   ·refine W.frame (j+2) h' _ st' fun b hb2 o e=>?_
    rw [Heap.get?_update_ne _ _ _ _ (fun z=>hS (by rw [←z];exact hb2))]
    exact e
   ·refine q v2 h2 tk2 hv2 fun b o hb2 hne e=>hk2 b o hb2 hne ?_
    rw [Heap.get?_update_ne _ _ _ _ hne]
    exact hk' b o hb2 e
  | false =>
   rw [hb,if_neg (by decide)] at eb
   show wpAny _ A.in1 (letGo _ _ >>= _) _ _ _
   refine wpAny_bind (wpAny_letGo ?_)
   refine wpAny_pure ⟨plainId_quiet F.plain_min_loop _,?_⟩
   exact ih (j+1) _ vb c (by omega) (by omega) st' (by rw [eb];exact pv) hs' fun v2 h2 tk2 hv2 hk2=>q v2 h2 tk2 hv2 fun b o hb2 hne e=>hk2 b o hb2 hne (hk' b o hb2 e)
theorem a6L (W:Walks prog w A.in1 I fp wr n P St) (bt:Nat→Nat→Bool) (C:CmpOf prog w A.in1 .Lt P bt) (S:Addr) (hS:S∉fp) (d:Value) {s:Shared} {c:Nat} (st:St 0 s.heap) (hs:s.heap.get? S=some { cls:=.type "list",data:=.seq #[] c })
  (q0:n=0→∀ (h':Heap) (tk:Nat),(∀ (b:Addr) (o:Obj),b∉wr→b≠S→s.heap.get? b=some o→h'.get? b=some o)→R (.ok (.ret d)) { s with heap:=h',toks:=tk })
  (q:0 < n→∀ (v:Value) (h':Heap) (tk:Nat),P (argBest bt (n - 1)) v→(∀ (b:Addr) (o:Obj),b∉wr→b≠S→s.heap.get? b=some o→h'.get? b=some o)→R (.ok (.ret v)) { s with heap:=h',toks:=tk }) :
  codeAny (model prog w) A (.builtin "min.loop" ⟨[.ref I,.none,.ref S],kwD d⟩) R s:=by
 refine codeAny_builtin F.entry_min_loop ?_
 rw [Around.under_plainId F.plain_min_loop _]
 show wpAny _ A.in1 (seqItems? (.ref S) >>= _) _ _ s
 refine wpAny_bind (wpAny_seqItems hs rfl ?_)
 refine wpAny_bind (wpAny_tryCatch ?_)
 by_cases n0:n=0
 ·subst n0
  refine W.done s _ _ st fun h' tk hk'=>?_
  show wpAny _ A.in1 (rule _ >>= _) _ _ _
  refine wpAny_bind (wpAny_rule (wpAny_pure ?_))
  exact q0 rfl h' tk fun b o hb _ e=>hk' b o hb e
 ·have hlt:0 < n:=by omega
  refine W.item 0 s _ _ hlt st fun v h' tk hv st' hk'=>?_
  have hs':=hk' S _ (fun z=>hS (W.sub _ z)) hs
  show wpAny _ A.in1 (updateSeq S _ >>= _) _ _ _
  refine wpAny_bind (wpAny_updateSeq hs' rfl ?_)
  refine wpAny_pure ⟨plainId_quiet F.plain_min_loop _,?_⟩
  have hs2:=get?_update_seq (c:="list") hs' (fun _=>#[v,v])
  refine b1e W bt C S hS d (n - 1) 0 _ v _ rfl hlt ?_ hv hs2 fun v2 h2 tk2 hv2 hk2=>?_
  ·refine W.frame 1 h' _ st' fun b hb2 o e=>?_
   rw [Heap.get?_update_ne _ _ _ _ (fun z=>hS (by rw [←z];exact hb2))]
   exact e
  ·refine q hlt v2 h2 tk2 hv2 fun b o hb2 hne e=>hk2 b o hb2 hne ?_
   rw [Heap.get?_update_ne _ _ _ _ hne]
   exact hk' b o hb2 e
end
def rMinD (xs zs:List V) (H:Hp) (Q:VK):Prop:=∃ (a:Addr) (ns:List Int),xs=[.ref a]∧zs=[.non]∧H a=some (.lst (ns.map V.int))∧Q (if ns=[] then .non else .int ((srt ns).headD 0)) H
theorem a8e (a d:Value):argsOk "min" { pos:=[a],kw:=kwD d }:=rfl
def tMinD (t tk:TA):TE:=fun σ H Q=>t σ H fun vs H1=>tk σ H1 fun zs H2=>rMinD vs zs H2 Q
theorem b1f (its:List Value) (y:Value) (k:Nat) (h:k≤its.length):(its.toArray.extract 0 k).push y++its.toArray.extract k=(its.take k++y :: its.drop k).toArray:=by
 simp [List.extract_toArray,List.extract_eq_drop_take]
 exact List.take_of_length_le (by rw [List.length_drop];omega)
abbrev exA (a:Addr) (o:Obj):HO:=.ext fun h=>h.get? a=some o
abbrev cdA (c:Addr) (q:Str):HO:=.ext fun h=>h.CodeRec (.ref c) q
def unt (as:List Addr) (H:Hp):Hp:=fun b=>if b∈as then none else H b
def rtk (as:List Addr) (H H':Hp):Hp:=fun b=>if b∈as then H b else H' b
theorem a3O {as:List Addr} {H:Hp} {b:Addr} (h:b∈as):unt as H b=none:=if_pos h
theorem a1s {as:List Addr} {H:Hp} {b:Addr} (h:b∉as):unt as H b=H b:=if_neg h
theorem b0h {as:List Addr} {H H':Hp} {b:Addr} (h:b∈as):rtk as H H' b=H b:=if_pos h
theorem a1Q {as:List Addr} {H H':Hp} {b:Addr} (h:b∉as):rtk as H H' b=H' b:=if_neg h
def Exs (H:Hp) (as:List Addr):Prop:=∀ a∈as,∃ o,H a=some (exA a o)
section
variable {P:Program} {w:World} {H H':Hp} {h h':Heap} {as:List Addr} {fs ex:List Addr}
theorem Exs.out (x:Exs H as) {b:Addr} {u:HO} (e:H b=some u) (hn:∀ o,u≠exA b o):b∉as:=fun z=>by
 obtain ⟨o,e'⟩:=x b z
 rw [e] at e'
 exact hn o (Option.some.inj e')
theorem HOk.unt (x:HOk P w H h) (e:Exs H as):HOk P w (L2.unt as H) h:=fun a o q=>by
 have ne:a∉as:=fun z=>by rw [a3O z] at q;cases q
 rw [a1s ne] at q
 exact (x a o q).stay (fun b u _ r=>r) (fun b r=>by rw [a1s (e.out r fun o=>by intro z;cases z)];exact r) fun b xs r=>by rw [a1s (e.out r fun o=>by intro z;cases z)];exact r
theorem a8f {a:Addr} {o:Obj} (e:h.get? a=some o):a0w P w H h a (exA a o):=⟨e,⟨o,e⟩,fun h1 h2 e1 k=>k o e1⟩
theorem cdA_ok {c:Addr} {q:Str} (e:h.CodeRec (.ref c) q):a0w P w H h c (cdA c q):=by
 obtain ⟨c2,o,vs,t,e1,g,r⟩:=e
 cases e1
 refine ⟨⟨c,o,vs,t,rfl,g,r⟩,⟨o,g⟩,fun h1 h2 x k=>?_⟩
 obtain ⟨c3,o',vs',t',e2,g',r'⟩:=x
 cases e2
 exact ⟨c,o',vs',t',rfl,k _ g',r'⟩
theorem Un.rtk (u:Un fs ex (L2.unt as H) H' h h') (e:Exs H as):Un fs ex H (L2.rtk as H H') h h':=by
 have no:∀ {b:Addr},H b=none→b∉as:=fun {b} n z=>by obtain ⟨o,q⟩:=e b z;rw [n] at q;cases q
 refine ⟨fun b o q n hb hx=>u.keep b o q (by rw [a1s (no n)];exact n) hb hx,fun b o q n hb hx=>u.slot b o q (by rw [a1s (no n)];exact n) hb hx,fun b o q n hx=>?_,u.there,fun b xs q=>?_,fun b o u' q=>?_,fun b ps q=>?_⟩
 ·rw [a1Q (no n)];exact u.free b o q (by rw [a1s (no n)];exact n) hx
 ·have ne:=e.out q fun o=>by intro z;cases z
  rw [a1Q ne];exact u.tups b xs (by rw [a1s ne];exact q)
 ·have ne:=e.out q fun o=>by intro z;cases z
  rw [a1Q ne];exact u.frzs b o u' (by rw [a1s ne];exact q)
 ·have ne:=e.out q fun o=>by intro z;cases z
  rw [a1Q ne];exact u.tbls b ps (by rw [a1s ne];exact q)
theorem HOk.rtk (x:HOk P w H' h') (u:Un fs ex (L2.unt as H) H' h h') (x0:HOk P w H h) (e:Exs H as) (nf:∀ a∈as,a∉fs∧a∉ex):HOk P w (L2.rtk as H H') h':=fun a o q=>by
 have no:∀ {b:Addr},b∈as→H' b=none∧∀ o,H b=some (exA b o)→h'.get? b=some o:=fun {b} z=>by
  obtain ⟨o1,q1⟩:=e b z
  have g1:h.get? b=some o1:=(x0 b _ q1).1
  refine ⟨u.free b o1 g1 (a3O z) (nf b z).2,fun o2 q2=>?_⟩
  have g2:h.get? b=some o2:=(x0 b _ q2).1
  exact u.keep b o2 g2 (a3O z) (nf b z).1 (nf b z).2
 by_cases z:a∈as
 ·rw [b0h z] at q
  obtain ⟨o1,q1⟩:=e a z
  rw [q1] at q;cases q
  exact a8f ((no z).2 o1 q1)
 ·rw [a1Q z] at q
  have st:∀ {b:Addr} {y:HO},H' b=some y→b∉as:=fun {b y} r k=>by rw [(no k).1] at r;cases r
  exact (x a o q).stay (fun b u _ r=>r) (fun b r=>by rw [a1Q (st r)];exact r) fun b xs r=>by rw [a1Q (st r)];exact r
end
def cxL (P:Program) (w:World) (K:PySem.W.Frag) (mg:Str→Option Value) (base:Heap) (N:List Str) (qual:Str) (scope:Scope) (g:Addr) (cd:Value) (cl:List (Str × Addr)) (A:Around) (outer:List Env) (s:Shared) (H:Hp) (xe:Value→Shared→Prop):Cx where
 prog:=P
 w:=w
 K:=K
 mg:=mg
 base:=base
 A:=A.deeper (PySem.W.envX qual scope s.heap.objs.size g cd cl)
 N:=N
 s₀:=s
 H₀:=H
 env:=PySem.W.envX qual scope s.heap.objs.size g cd cl
 outer:=outer
 stack:=PySem.W.envX qual scope s.heap.objs.size g cd cl :: outer
 ex:=[]
 calm:=true
 fn:=fun _=>false
 pn:=[]
 xe:=xe
structure a6c (scope:Scope) (ps:List Str) (cl:List (Str × Addr)):Prop where
 kind:scope.kind=.function
 co:scope.isCoroutine=false
 gen:scope.isGenerator=false
 nd:(ps++cl.map (·.1)).Nodup
 par:∀ x∈ps,scope.names.lookup x=some .local
 nocell:∀ y∈scope.names,y.2≠.cell
 fr:∀ y∈scope.names,y.2=.free→y.1∈cl.map (·.1)
 cap:∀ x∈cl.map (·.1),scope.names.lookup x=some .free
theorem a3t:∀ {cl:List (Str × Addr)} {i:Nat} {x:Str} {c:Addr},(cl.map (·.1)).Nodup→cl[i]?=some (x,c)→cl.lookup x=some c
 | [],_,_,_,_,h=>by simp at h
 | (y,d) :: cl,0,x,c,_,h=>by
  have h:y=x∧d=c:=by simpa using h
  obtain ⟨rfl,rfl⟩:=h
  simp [List.lookup]
 | (y,d) :: cl,i+1,x,c,nd,h=>by
  have h:cl[i]?=some (x,c):=by simpa using h
  have ne:x≠y:=fun z=>(List.nodup_cons.mp nd).1 (by rw [←z];exact List.mem_map.mpr ⟨_,List.mem_of_getElem? h,rfl⟩)
  have e:(x == y)=false:=by simpa using ne
  rw [List.lookup,e]
  exact a3t (List.nodup_cons.mp nd).2 h
theorem a2c:∀ {cl:List (Str × Addr)} {x:Str} {c:Addr},cl.lookup x=some c→∃ i:Nat,cl[i]?=some (x,c)
 | [],_,_,h=>by cases h
 | (y,d) :: cl,x,c,h=>by
  rw [List.lookup] at h
  cases e:(x == y) with
  | true =>
   rw [e] at h
   have:d=c:=by simpa using h
   have xy:x=y:=by simpa using e
   exact ⟨0,by rw [xy,this];rfl⟩
  | false =>
   rw [e] at h
   obtain ⟨i,hi⟩:=a2c h
   exact ⟨i+1,by simpa using hi⟩
theorem a6M {us:List Value}:∀ {ps:List Str},ps.Nodup→∀ {i:Nat} {x:Str} {u:Value},ps[i]?=some x→us[i]?=some u→(ps.zip us).reverse.lookup x=some u:=by
 induction us with
 | nil=>intro ps _ i x u _ h;simp at h
 | cons v us ih =>
  intro ps nd i x u h1 h2
  cases ps with
  | nil=>simp at h1
  | cons p ps =>
   rw [List.zip_cons_cons,List.reverse_cons,List.lookup_append]
   cases i with
   | zero =>
    have e1:p=x:=by simpa using h1
    have e2:v=u:=by simpa using h2
    subst e1 e2
    have:(ps.zip us).reverse.lookup p=none:=by
     cases e:(ps.zip us).reverse.lookup p with
     | none=>rfl
     | some y =>
      have:=PySem.mem_of_lookup e
      rw [List.mem_reverse] at this
      exact absurd (List.of_mem_zip this).1 (List.nodup_cons.mp nd).1
    rw [this]
    simp [List.lookup]
   | succ i =>
    rw [ih (List.nodup_cons.mp nd).2 (by simpa using h1) (by simpa using h2)]
    rfl
theorem a9r {P:Program} {w:World} {K:PySem.W.Frag} {mg:Str→Option Value} {base:Heap} {k:Nat} {name qual:Str} {params:Arguments} {body:Expr} {scope:Scope} {cl:List (Str × Addr)} {pm ctv:Value} {c' g:Addr} {ps:List Str} {A:Around} {outer:List Env} {s:Shared} {H:Hp} {us:List Value} {vs cvs:List V} {Q:VK} {E:XK}
  (S:a6c scope ps cl) (hr:a2E (k+1) A) (e0:a9a P w K mg base A outer s H) (ho:H g=some (exA g (PySem.W.kla_obj name qual params body scope cl pm c' ctv))) (hc:H c'=some (cdA c' qual)) (nda:(cl.map (·.2)).Nodup)
  (hcl:∀ (i:Nat) (x:Str) (c:Addr),cl[i]?=some (x,c)→∃ o u v,H c=some (exA c o)∧o.data=.cell (some u)∧cvs[i]?=some v∧a0U v u) (lcv:cvs.length=cl.length) (r:a0A vs us) (hl:vs.length=ps.length)
  (hb:bindArgs (PySem.W.kla_fn name qual params body scope cl pm (.ref c') ctv) ⟨us,[]⟩=pure (ps.zip us))
  (hbody:∀ xe,a2E k (A.deeper (PySem.W.envX qual scope s.heap.objs.size g (.ref c') cl))→∃ t,PE (cxL P w K mg base (ps++cl.map (·.1)) qual scope g (.ref c') cl A outer s (unt (cl.map (·.2)) H) xe) body t∧t ((vs++cvs).map some) (unt (cl.map (·.2)) H) fun v H'=>(∀ a∈cl.map (·.2),H' a=none)→Q v (rtk (cl.map (·.2)) H H')) :
  codeAny (model P w) A (.call (.ref g) ⟨us,[]⟩) (CR CX0 outer P w H s Q E) s:=by
 have lim:s.heap.NoLimit:=e0.mod.nolimit.keeps fun b o e=>(e0.bs b o e).1
 have eg:s.heap.get? g=some (PySem.W.kla_obj name qual params body scope cl pm c' ctv):=(e0.hok g _ ho).1
 have ec:s.heap.CodeRec (.ref c') qual:=(e0.hok c' _ hc).1
 have exs:Exs H (cl.map (·.2)):=fun a ha=>by
  obtain ⟨⟨x,c⟩,hm,rfl⟩:=List.mem_map.mp ha
  obtain ⟨i,hi⟩:=List.mem_iff_getElem?.mp hm
  obtain ⟨o,u,v,e1,_⟩:=hcl i x c hi
  exact ⟨o,e1⟩
 have ndp:ps.Nodup:=(List.nodup_append.mp S.nd).1
 have ndc:(cl.map (·.1)).Nodup:=(List.nodup_append.mp S.nd).2.1
 have lus:us.length=ps.length:=by rw [←r.length,hl]
 refine PySem.W.kla_callFunE hr.depth eg rfl S.co S.gen rfl ec ?_
 rw [hb]
 refine wpAny_pure (wpAny_newFunctionEnv S.nocell (fun y hy=>S.par y.1 (List.of_mem_zip hy).1) (fun h₁ hns hsb=>?_) S.kind)
 have hk₁:∀ b o,s.heap.get? b=some o→h₁.get? b=some o:=fun b o e=>hsb.extBut b o (Nat.ne_of_lt (Heap.lt_size e)) (Heap.get?_push_of_some _ e)
 refine ⟨lim.keeps hk₁,?_⟩
 show codeAny _ _ (.expr body (PySem.W.envX qual scope s.heap.objs.size g (.ref c') cl)) _ _
 refine PySem.W.kla_codeExpr ?_
 obtain ⟨t,ht,hq⟩:=hbody (fun e' s'=>wpAny (model P w) (A.deeper (PySem.W.envX qual scope s.heap.objs.size g (.ref c') cl)) (leaving (PySem.W.envX qual scope s.heap.objs.size g (.ref c') cl) e') (fun _ s''=>CR CX0 outer P w H s Q E (.error e') s'') (fun e'' s''=>CR CX0 outer P w H s Q E (.error e'') s'') s') (hr.deeper _)
 have cellAt:∀ x c,cl.lookup x=some c→∃ (i:Nat) (o:Obj) (u:Value) (v:V),cl[i]?=some (x,c)∧H c=some (exA c o)∧h₁.get? c=some o∧o.data=.cell (some u)∧cvs[i]?=some v∧a0U v u:=fun x c e=>by
  obtain ⟨i,hi⟩:=a2c e
  obtain ⟨o,u,v,e1,e2,e3,e4⟩:=hcl i x c hi
  exact ⟨i,o,u,v,hi,e1,hk₁ _ _ (e0.hok c _ e1).1,e2,e3,e4⟩
 have memA:∀ x c,cl.lookup x=some c→c∈cl.map (·.2):=fun x c e=>by
  obtain ⟨i,hi⟩:=a2c e
  exact List.mem_map.mpr ⟨_,List.mem_of_getElem? hi,rfl⟩
 have noA:∀ b:Addr,b∉([]:List Addr):=fun b z=>by cases z
 have utn:∀ {b:Addr},H b=none→unt (cl.map (·.2)) H b=none:=fun {b} n=>by
  by_cases z:b∈cl.map (·.2)
  ·exact a3O z
  ·rw [a1s z];exact n
 have I:Inv (cxL P w K mg base (ps++cl.map (·.1)) qual scope g (.ref c') cl A outer s (unt (cl.map (·.2)) H) (fun e' s'=>wpAny (model P w) (A.deeper (PySem.W.envX qual scope s.heap.objs.size g (.ref c') cl)) (leaving (PySem.W.envX qual scope s.heap.objs.size g (.ref c') cl) e') (fun _ s''=>CR CX0 outer P w H s Q E (.error e') s'') (fun e'' s''=>CR CX0 outer P w H s Q E (.error e'') s'') s')) [] ((vs++cvs).map some) (unt (cl.map (·.2)) H) { s with heap:=h₁,toks:=s.toks+(ps.zip us).length }:=by
  refine ⟨⟨e0.mod,S.kind,rfl,rfl,Nat.le_refl _,fun y z c h1 h2=>?_,fun y hy=>?_,fun y c z h=>(by cases z),fun _=>hr.hd,Around.frames_deeper e0.frames,.inr ⟨rfl,rfl⟩,fun b z=>absurd z (noA b),fun b o e=>⟨(e0.bs b o e).1,utn (e0.bs b o e).2⟩,e0.bsz,fun b _ _=>noA b,fun b z=>absurd z (noA b),e0.funs,fun b hb=>utn (e0.frf b hb)⟩,
   rfl,e0.bare,Un.kept hk₁,⟨_,hns,fun i y v h1 h2 h3=>?_⟩,fun y c h=>?_,utn (e0.hok.fresh (Nat.le_refl _)),fun y c h=>a3O (memA y c h),fun p hp=>absurd (show p∈([]:List (Addr × Obj)) from hp) (by simp),(e0.hok.unt exs).kept hk₁,?_⟩
  ·obtain ⟨i,hi⟩:=a2c (show cl.lookup y=some c from h1)
   obtain ⟨j,hj⟩:=a2c (show cl.lookup z=some c from h2)
   have e1:(cl.map (·.2))[i]?=some c:=by rw [List.getElem?_map,hi];rfl
   have e2:(cl.map (·.2))[j]?=some c:=by rw [List.getElem?_map,hj];rfl
   have il:=(List.getElem?_eq_some_iff.mp e1).1
   have ij:i=j:=(List.getElem?_inj il nda).mp (e1.trans e2.symm)
   subst ij
   rw [hi] at hj
   exact congrArg Prod.fst (Option.some.inj hj)
  ·have hy:scope.names.lookup y=some .cell∨scope.names.lookup y=some .free:=hy
   rcases hy with hy | hy
   ·exact absurd rfl (S.nocell _ (PySem.mem_of_lookup hy))
   ·have hm:=S.fr _ (PySem.mem_of_lookup hy) rfl
    obtain ⟨⟨x,c⟩,hx,e⟩:=List.mem_map.mp hm
    have e:x=y:=e
    subst e
    obtain ⟨i,hi⟩:=List.mem_iff_getElem?.mp hx
    exact ⟨c,a3t ndc hi⟩
  ·have h1:(ps++cl.map (·.1))[i]?=some y:=h1
   rw [List.getElem?_map] at h2
   by_cases hi:i < ps.length
   ·rw [List.getElem?_append_left hi] at h1
    rw [List.getElem?_append_left (by omega)] at h2
    cases ev:vs[i]? with
    | none=>rw [ev] at h2;cases h2
    | some v' =>
     rw [ev] at h2
     have:v'=v:=by simpa using h2
     subst this
     obtain ⟨u,hu,rv⟩:=r.get ev
     exact ⟨u,rv,.inl ⟨S.par y (List.mem_of_getElem? h1),a6M ndp h1 hu⟩⟩
   ·rw [List.getElem?_append_right (by omega),List.getElem?_map] at h1
    rw [List.getElem?_append_right (by omega)] at h2
    cases ec':cl[i - ps.length]? with
    | none=>rw [ec'] at h1;cases h1
    | some q =>
     obtain ⟨x,c⟩:=q
     rw [ec'] at h1
     have:x=y:=by simpa using h1
     subst this
     obtain ⟨o,u,v',e1,e2,e3,e4⟩:=hcl _ x c ec'
     rw [hl,e3] at h2
     have:v'=v:=by simpa using h2
     subst this
     exact ⟨u,e4,.inr ⟨.inr (S.cap x (List.mem_map.mpr ⟨_,List.mem_of_getElem? ec',rfl⟩)),c,a3t ndc ec',o,hk₁ _ _ (e0.hok c _ e1).1,e2⟩⟩
  ·obtain ⟨i,o,u,v,_,_,e3,e4,_⟩:=cellAt y c h
   exact ⟨_,o,e3,e4⟩
  ·show ((vs++cvs).map some).length=(ps++cl.map (·.1)).length
   rw [List.length_map,List.length_append,List.length_append,List.length_map,hl,lcv]
 refine wpAny_mono (ht [] _ _ _ _ I hq) (fun u s' hs=>?_) fun e s' hs=>hs
 obtain ⟨v,H',J,rv,q⟩:=hs
 have nf:∀ a∈cl.map (·.2),a∉frs outer∧a∉([]:List Addr):=fun a ha=>⟨fun z=>(by
  obtain ⟨o,e⟩:=exs a ha
  rw [e0.frf a z] at e
  cases e),noA a⟩
 have un:Un (frs outer) [] (unt (cl.map (·.2)) H) H' s.heap s'.heap:=J.base
 exact ⟨v,rtk (cl.map (·.2)) H H',J.os,J.bare,un.rtk exs,HOk.rtk J.hok un e0.hok exs nf,rv,q fun a ha=>(by
  obtain ⟨o,e⟩:=exs a ha
  exact un.free a o (e0.hok a _ e).1 (a3O ha) (noA a))⟩
structure LamOk (P:Program) (w:World) (K:PySem.W.Frag) (mg:Str→Option Value) (base:Heap) (k:Nat) (R:Addr→List V→Hp→VK→Prop):Prop where
 at':∀ {g:Addr} {vs:List V} {H:Hp} {Q:VK},R g vs H Q→∃ oc od fd sl,H g=some (exA g ⟨oc,od,.func fd,sl⟩)
 run:∀ (A:Around) (outer:List Env) (s:Shared) (H:Hp) (g:Addr) (us:List Value) (vs:List V) (Q:VK),a2E k A→a9a P w K mg base A outer s H→a0A vs us→R g vs H Q→codeAny (model P w) A (.call (.ref g) ⟨us,[]⟩) (CR CX0 outer P w H s Q E0) s
abbrev a3J (lpos:Pos) (c':Addr):Array Value:=#[rawInt lpos.line,rawInt lpos.col,.ref c']
def a3K (H:Hp) (T:Addr) (lpos:Pos) (q:Str):Prop:=H T=some (.tbl #[])∨∃ c',H T=some (.tbl (a3J lpos c'))∧H c'=some (cdA c' q)
structure LamH (H H2:Hp) (T:Addr) (lpos:Pos) (q:Str) (c' g:Addr) (o:Obj):Prop where
 tb:H2 T=some (.tbl (a3J lpos c'))
 cd:H2 c'=some (cdA c' q)
 ob:H2 g=some (exA g o)
 ot:∀ b u,b≠T→H b=some u→H2 b=some u
 ng:H g=none
 sm:∀ c2,H T=some (.tbl (a3J lpos c2))→c2=c'
theorem b1g {lpos:Pos} {c c':Addr} (e:a3J lpos c=a3J lpos c'):c=c':=by
 have h2:=congrArg (fun z:Array Value=>z[2]?) e
 have h3:some (Value.ref c)=some (Value.ref c'):=h2
 cases h3
 rfl
theorem Un.lam {fs:List Addr} {P:Program} {w:World} {H H3:Hp} {h h3:Heap} {T:Addr} {ps more:Array Value} (hok:HOk P w H h) (k:∀ b u,b≠T→h.get? b=some u→h3.get? b=some u) (eT:∃ u,h3.get? T=some u) (e:H T=some (.tbl ps)) (e3:H3 T=some (.tbl (ps++more))) (ot:∀ b,b < h.objs.size→b≠T→H3 b=H b):Un fs [] H H3 h h3:=by
 have nT:∀ {b:Addr},H b=none→b≠T:=fun {b} n z=>by rw [z,e] at n;cases n
 refine ⟨fun b o q n _ _=>k b o (nT n) q,fun b o q n _ _=>⟨o.slots,k b o (nT n) q⟩,fun b o q n _=>?_,fun b o q _=>?_,fun b xs q=>?_,fun b o u q=>?_,fun b qs q=>?_⟩
 ·rw [ot b (Heap.lt_size q) (nT n)];exact n
 ·by_cases z:b=T
  ·subst z;exact eT
  ·exact ⟨o,k b o z q⟩
 ·rw [ot b (hok.lt q) (a2k q e (by intro z;cases z))];exact q
 ·rw [ot b (hok.lt q) (a2k q e (by intro z;cases z))];exact q
 ·by_cases z:b=T
  ·subst z
   rw [e] at q;cases q
   exact ⟨more,e3⟩
  ·exact ⟨#[],by rw [ot b (hok.lt q) z,q];simp⟩
theorem HOk.lam {P:Program} {w:World} {H H3:Hp} {h h3:Heap} {T:Addr} {ps:Array Value} (hok:HOk P w H h) (k:∀ b u,b≠T→h.get? b=some u→h3.get? b=some u) (e:H T=some (.tbl ps)) (ot:∀ b,b < h.objs.size→b≠T→H3 b=H b) (new:∀ a o,H3 a=some o→(a=T∨h.objs.size≤a)→a0w P w H3 h3 a o):HOk P w H3 h3:=fun a o q=>by
 by_cases z:a=T
 ·exact new a o q (.inl z)
 by_cases y:h.objs.size≤a
 ·exact new a o q (.inr y)
 have q':H a=some o:=by rw [←ot a (by omega) z];exact q
 refine (hok a o q').stay (fun b u hb r=>k b u ?_ r) (fun b r=>?_) fun b xs r=>?_
 ·rcases hb with rfl | hb
  ·exact z
  ·exact a2k hb e (by intro z;cases z)
 ·rw [ot b (hok.lt r) (a2k r e (by intro z;cases z))];exact r
 ·rw [ot b (hok.lt r) (a2k r e (by intro z;cases z))];exact r
structure LamMk (X:Cx) (c T bm:Addr):Prop where
 code:X.env.code=.ref c
 hd:PySem.W.codeHdIn X.K c T=true
 hbm:X.mg "__builtins__"=some (.ref bm)
 bo:∃ o,X.base.get? bm=some o∧o.cls=.type "module"∧o.dict=some builtinsNs∧o.data=.plain
 b1:bm≠builtinsNs
 b2:bm≠mainGlobals
 b3:bm≠T
 b4:mainGlobals≠T
def tLam (T:Addr) (lpos:Pos) (q:Str) (mk:Addr→Value→Value→Obj):TE:=fun _ H Q=>a3K H T lpos q∧∀ c' pm ctv g H2,LamH H H2 T lpos q c' g (mk c' pm ctv)→Q (.ref g) H2
theorem pe_lam {X:Cx} {params:Arguments} {body:Expr} {lscope:Scope} {lpos:Pos} {c T bm:Addr} {clos:List (Str × Addr)} (M:LamMk X c T bm) (hcl:closureFor lscope X.env=pure clos) (hdef:defaultsOf params X.env=([],[]):=by rfl) :
  PE X (.Lambda params body lscope lpos) (tLam T lpos (X.env.qual++"<lambda>") fun c' pm ctv=>PySem.W.kla_obj "<lambda>" (X.env.qual++"<lambda>") params body lscope clos pm c' ctv):=by
 intro pins s σ H Q I h
 obtain ⟨tab,h⟩:=h
 refine PySem.W.kla_eval hdef ?_
 have hg:s.heap.Ns mainGlobals X.mg:=I.mod.glob.keeps I.bk
 have C:=PySem.W.codeHd_of_K I.kIn M.hd
 obtain ⟨ob,lo,l1,l2,l3⟩:=M.bo
 have hB:s.heap.BuiltinsAt X.mg T:=⟨bm,ob,M.hbm,M.b1,M.b2,M.b3,I.bk _ _ lo,l1,l2,l3⟩
 rcases tab with e | ⟨c',e,ec⟩
 ·have hP:s.heap.get? T=some (PySem.W.tabObj #[]):=I.hok T _ e
  refine PySem.W.kla_makeFunction hcl I.ok.glob hg M.code C hP trivial rfl M.b4 hB fun c' ctv h' tk hx hge hlt hrec htb=>?_
  have ltT:T < s.heap.objs.size:=I.hok.lt e
  have gs:s.heap.objs.size≤h'.objs.size:=Nat.le_trans hge (Nat.le_of_lt hlt)
  have cg:c'≠h'.objs.size:=Nat.ne_of_lt hlt
  have cT:c'≠T:=fun z=>Nat.lt_irrefl _ (Nat.lt_of_lt_of_le ltT (z▸hge))
  have gT:h'.objs.size≠T:=fun z=>Nat.lt_irrefl _ (Nat.lt_of_lt_of_le ltT (z▸gs))
  generalize eo:PySem.W.kla_obj "<lambda>" (X.env.qual++"<lambda>") params body lscope clos ((X.mg "__name__").getD .none) c' ctv=o
  have hfr:o.isFreed=false:=by rw [←eo];rfl
  let H3:Hp:=upd (upd (upd H T (.tbl (a3J lpos c'))) c' (cdA c' (X.env.qual++"<lambda>"))) h'.objs.size (exA h'.objs.size o)
  have t3:H3 T=some (.tbl (a3J lpos c')):=by
   show upd _ _ _ T=_
   rw [a0r (Ne.symm gT),a0r (Ne.symm cT),a0b]
  have c3:H3 c'=some (cdA c' (X.env.qual++"<lambda>")):=by
   show upd _ _ _ c'=_
   rw [a0r cg,a0b]
  have g3:H3 h'.objs.size=some (exA h'.objs.size o):=a0b
  have ot:∀ b,b < s.heap.objs.size→b≠T→H3 b=H b:=fun b hb hT=>by
   show upd _ _ _ b=_
   rw [a0r (Nat.ne_of_lt (Nat.lt_of_lt_of_le hb gs)),a0r (Nat.ne_of_lt (Nat.lt_of_lt_of_le hb hge)),a0r hT]
  have k3:∀ b u,b≠T→s.heap.get? b=some u→(h'.push o).get? b=some u:=fun b u hb q=>Heap.get?_push_of_some _ (hx b u hb q)
  have un:Un X.fs [] H H3 s.heap (h'.push o):=Un.lam (more:=a3J lpos c') I.hok k3 ⟨_,Heap.get?_push_of_some _ htb⟩ e (by rw [t3];simp) ot
  have hk3:HOk X.prog X.w H3 (h'.push o):=HOk.lam I.hok k3 e ot fun a u q hq=>by
   by_cases z1:a=T
   ·subst z1
    rw [t3] at q;cases q
    have:(h'.push o).get? a=some (PySem.W.tabObj (#[]++#[rawInt lpos.line,rawInt lpos.col,.ref c'])):=Heap.get?_push_of_some _ htb
    show (h'.push o).get? a=some _
    simpa using this
   by_cases z2:a=c'
   ·subst z2
    rw [c3] at q;cases q
    exact cdA_ok (hrec.push _)
   by_cases z3:a=h'.objs.size
   ·subst z3
    rw [g3] at q;cases q
    exact a8f (Heap.get?_push_size _ hfr)
   ·exfalso
    rcases hq with y | y
    ·exact z1 y
    ·have:H3 a=H a:=by
      show upd _ _ _ a=_
      rw [a0r z3,a0r z2,a0r z1]
     rw [this,I.hok.fresh y] at q
     cases q
  refine ⟨.ref h'.objs.size,H3,I.un (t':=tk) un hk3,rfl,h c' _ ctv h'.objs.size H3 ⟨t3,c3,by rw [g3,←eo],fun b u hb q=>by rw [ot b (I.hok.lt q) hb];exact q,I.hok.fresh gs,fun c2 e2=>by
   rw [e] at e2
   have h1:=HO.tbl.inj (Option.some.inj e2)
   have h2:=congrArg Array.size h1
   cases h2⟩⟩
 ·have hP:s.heap.get? T=some (PySem.W.tabObj (a3J lpos c')):=I.hok T _ e
  refine PySem.W.kla_makeFunctionHit (cv:=.ref c') hcl I.ok.glob hg M.code C hP (by exact trivial) (by simp [a3J,codeAmong,rawInt]) hB fun ctv h' tk hk hsz=>?_
  generalize eo:({ cls:=.type "function",data:=.func (PySem.W.kla_fn "<lambda>" (X.env.qual++"<lambda>") params body lscope clos ((X.mg "__name__").getD .none) (.ref c') ctv) }:Obj)=o
  have hfr:o.isFreed=false:=by rw [←eo];rfl
  have ltc:c' < s.heap.objs.size:=I.hok.lt ec
  have ltT:T < s.heap.objs.size:=I.hok.lt e
  refine ⟨.ref h'.objs.size,upd H h'.objs.size (exA h'.objs.size o),I.laid (t':=tk) (fun b u q=>Heap.get?_push_of_some _ (hk b u q)) hsz (a8f (Heap.get?_push_size _ hfr)),rfl,h c' _ ctv h'.objs.size _ ⟨?_,?_,by rw [a0b,←eo],fun b u hb q=>?_,I.hok.fresh hsz,fun c2 e2=>?_⟩⟩
  ·rw [a0r (Nat.ne_of_lt (Nat.lt_of_lt_of_le ltT hsz))];exact e
  ·rw [a0r (Nat.ne_of_lt (Nat.lt_of_lt_of_le ltc hsz))];exact ec
  ·rw [a0r (Nat.ne_of_lt (Nat.lt_of_lt_of_le (I.hok.lt q) hsz))];exact q
  ·rw [e] at e2
   exact (b1g (HO.tbl.inj (Option.some.inj e2))).symm
def trk' (as:List Addr) (os:Addr→Obj) (H:Hp):Hp:=fun b=>if b∈as then some (exA b (os b)) else H b
section
variable {P:Program} {w:World} {H H3:Hp} {h h':Heap} {as:List Addr} {os:Addr→Obj} {fs ex:List Addr}
end
structure CellsOf (X:Cx) (cl:List (Str × Addr)):Prop where
 at':∀ q∈cl,X.env.cells.lookup q.1=some q.2
 fn:∀ q∈cl,X.fn q.1=true
 ki:∀ q∈cl,X.env.scope.names.lookup q.1=some .cell
theorem Fun.okC {P:Program} {w:World} {K:PySem.W.Frag} {mg:Str→Option Value} {base:Heap} {x qual:Str} {st:Stmt} {f:Addr} {fd:FuncData} {N ps:List Str} {k:Nat} {sp:Sp} (F:Fun K x qual st f fd) (S:a0C N ps (a0g st)) (len:∀ vs H Q E,sp vs H Q E→vs.length=ps.length)
  (hbody:∀ (A:Around) (outer:List Env) (s:Shared) (H:Hp) (vs:List V) (Q:VK) (E:XK),a2E k (A.deeper (envOfC qual (a0g st) s.heap.objs.size f fd.code))→sp vs H Q E →
   ∃ t,PSs (a5O CX0 P w K mg base N qual (a0g st) f fd.code A outer s H E).nox (a0x st) t∧t { nx:=fun _ H'=>Q .non H',rt:=Q } (start N vs) H):a1X P w K mg base CX0 (k+1) f fd ps sp:=by
 obtain ⟨oc,od,kV,doc,pm,an,cdv,ct,osl,rfl,lk,hcd⟩:=F.ex
 refine fn_of lk hcd S len fun A outer s H vs Q E hr hsp=>?_
 obtain ⟨t,h,q⟩:=hbody A outer s H vs Q E hr hsp
 exact ⟨t,h.nox,q⟩
structure BMod (mg:Str→Option Value) (base:Heap) (ts:List Addr) (bm:Addr):Prop where
 hbm:mg "__builtins__"=some (.ref bm)
 bo:∃ o,base.get? bm=some o∧o.cls=.type "module"∧o.dict=some builtinsNs∧o.data=.plain
 b1:bm≠builtinsNs
 b2:bm≠mainGlobals
 b3:∀ T∈ts,bm≠T
 b4:∀ T∈ts,mainGlobals≠T
theorem a8g {P:Program} {w:World} {K:PySem.W.Frag} {mg mb:Str→Option Value} {CX:CXT} {k:Nat} {fa a:Addr} {fd:FuncData} {x:Str} {sp:Sp} {s₁:Shared} {vs:List Value} {ns:List Int} {ts:List Addr}
  (KX:K.In s₁.heap) (hns:s₁.heap.Ns mainGlobals mg) (hb:s₁.heap.Ns builtinsNs mb) (hbb:∀ x:Str,x≠"__name__"→mb x=bootBuiltins x) (hlim:s₁.heap.NoLimit) (hg:s₁.gens=#[])
  (ha:s₁.heap.get? a=some { cls:=.type "list",data:=.seq vs.toArray }) (hi:IntsAre vs ns) (hl:ns.length≤sizeLine) (hr:a2E k callerA)
  (ht:∀ T∈ts,s₁.heap.get? T=some (PySem.W.tabObj #[])∧(∃ c,PySem.W.CodeHd s₁.heap c T)∧K.lookup T=none)
  (hbm:∃ bm ob,mg "__builtins__"=some (.ref bm)∧bm≠builtinsNs∧s₁.heap.get? bm=some ob∧ob.cls=.type "module"∧ob.dict=some builtinsNs∧ob.data=.plain)
  (F:∀ base:Heap,K.In base→base.Ns mainGlobals mg→(∃ bm,BMod mg base ts bm)→a1X P w K mg base CX k fa fd [x] sp) (hbind:∀ (s:Shared) (u:Value),BindsTo s fd ⟨[u],[]⟩ [(x,u)])
  (hsp:∀ H:Hp,(∀ T∈ts,H T=some (.tbl #[]))→SqL K H a (ns.map V.int)→sp [.ref a] H (fun v _=>v=.bl true) fun _ _ _=>False)
  (hCX:∀ H e s',CX [] H s₁ (fun _ _ _=>False) e s'→False) :
  codeAny (model P w) callerA (.call (.ref fa) ⟨[.ref a],[]⟩) (fun r s'=>r=.ok (.ret (.bool true))∧OldK s₁.heap s'.heap∧s'.os=s₁.os∧AllBare s'.gens) s₁:=by
 have rv:=a4O hi
 have lenV:=hi.length
 have core:∀ H:Hp,(∀ b,H b=none∨(∃ o xs,H b=some (.frz o (.lst xs))∧b=a)∨(H b=some (.tbl #[])∧b∈ts))→(∀ T∈ts,H T=some (.tbl #[]))→SqL K H a (ns.map V.int)→HOk P w H s₁.heap→(∀ b,H b≠none→K.lookup b=none) →
   codeAny (model P w) callerA (.call (.ref fa) ⟨[.ref a],[]⟩) (fun r s'=>r=.ok (.ret (.bool true))∧OldK s₁.heap s'.heap∧s'.os=s₁.os∧AllBare s'.gens) s₁:=by
  intro H hO hT hS hok hK
  have base_of:∀ {b:Addr} {o:Obj},s₁.heap.get? b=some o→H b=none→(a8T s₁.heap H).get? b=some o:=fun e n=>a8V e n
  have noA:∀ {b:Addr} {o:Obj} {es:Array DictEntry} {ep:Nat},s₁.heap.get? b=some o→o.data=.dict es ep→H b=none:=fun {b o es ep} e d=>by
   rcases hO b with z | ⟨_,_,_,rfl⟩ | ⟨_,hb'⟩
   ·exact z
   ·rw [ha] at e;cases e
    have d':Data.seq vs.toArray _=Data.dict es ep:=d
    cases d'
   ·rw [(ht b hb').1] at e;cases e
    have d':Data.fields #[]=Data.dict es ep:=d
    cases d'
  have nsK:∀ {b:Addr} {m:Str→Option Value},s₁.heap.Ns b m→(a8T s₁.heap H).Ns b m:=fun {b m} ⟨o,es,ep,e,d,r⟩=>⟨o,es,ep,base_of e (noA e d),d,r⟩
  have hKb:K.In (a8T s₁.heap H):=fun b o e=>base_of (KX b o e) (by
   cases q:H b with
   | none=>rfl
   | some u =>
    rw [hK b (by rw [q];simp)] at e;cases e)
  have hM:Mod K mg (a8T s₁.heap H):=⟨hKb,nsK hns,⟨mb,nsK hb,hbb⟩,let ⟨mc,h1,h2⟩:=hlim;⟨mc,nsK h1,h2⟩⟩
  have e0:a9a P w K mg (a8T s₁.heap H) callerA [] s₁ H:=⟨rfl,hM,fun b o e=>b0B e,Nat.le_of_eq (a7j _ _),trivial,fun b hb=>absurd (show b∈([]:List Addr) from hb) (by simp),hok,.of_eq hg⟩
  have hBM:∃ bm,BMod mg (a8T s₁.heap H) ts bm:=by
   obtain ⟨bm,ob,h1,h2,h3,h4,h5,h6⟩:=hbm
   have n1:bm≠a:=fun z=>by
    rw [z,ha] at h3
    cases h3
    have h4:Value.type "list"=Value.type "module":=h4
    injection h4 with e
    exact absurd e (by decide)
   have n2:∀ T∈ts,bm≠T:=fun T hT' z=>by
    rw [z,(ht T hT').1] at h3
    cases h3
    cases h6
   have ng:∀ {o:Obj},s₁.heap.get? mainGlobals=some o→∃ es ep,o.data=.dict es ep:=fun {o} e=>by
    obtain ⟨o',es,ep,e',d,_⟩:=hns
    rw [e'] at e
    cases e
    exact ⟨es,ep,d⟩
   refine ⟨bm,h1,⟨ob,base_of h3 ?_,h4,h5,h6⟩,h2,fun z=>?_,n2,fun T hT' z=>?_⟩
   ·rcases hO bm with z | ⟨_,_,_,z⟩ | ⟨_,z⟩
    ·exact z
    ·exact absurd z n1
    ·exact absurd rfl (n2 bm z)
   ·rw [z] at h3
    obtain ⟨es,ep,d⟩:=ng h3
    rw [d] at h6
    cases h6
   ·have:=(ht T hT').1
    rw [←z] at this
    obtain ⟨es,ep,d⟩:=ng this
    cases d
  refine codeAny_mono ((F _ hKb (nsK hns) hBM).run callerA [] s₁ H ⟨[.ref a],[]⟩ [.ref a] [.ref a] _ _ hr e0 (hbind s₁ (.ref a)) (.cons rfl .nil) (hsp H hT hS)) fun r s' h=>?_
  cases r with
  | error e=>exact (hCX H e s' h).elim
  | ok fl =>
   cases fl with
   | next=>exact False.elim h
   | brk=>exact False.elim h
   | cont=>exact False.elim h
   | ret u =>
    obtain ⟨v,H',os,bare,un,hok',r',q⟩:=h
    have q':v=.bl true:=q
    subst q'
    obtain rfl:u=Value.bool true:=r'
    refine ⟨rfl,⟨fun b o e=>?_,fun b o e=>un.there b o e (by simp)⟩,os,bare⟩
    rcases hO b with z | ⟨ob,xs,z,_⟩ | ⟨z,hb'⟩
    ·exact .inl (un.keep b o e z (by intro z;exact absurd (show b∈([]:List Addr) from z) (by simp)) (by simp))
    ·have z2:=un.frzs b ob _ z
     obtain ⟨e1,_⟩:=hok b _ z
     obtain ⟨e2,_⟩:=hok' b _ z2
     rw [e] at e1;cases e1
     exact .inl e2
    ·obtain ⟨more,z2⟩:=un.tbls b _ z
     have e1:s₁.heap.get? b=some (PySem.W.tabObj #[]):=(ht b hb').1
     have e2:s'.heap.get? b=some { cls:=.none,data:=.fields (#[]++more) }:=hok' b _ z2
     rw [e1] at e;cases e
     obtain ⟨c,C⟩:=(ht b hb').2.1
     exact .inr (.inl ⟨(C.tab e1).isCodeTable,rfl,#[],more,rfl,e2⟩)
 have neA:∀ T∈ts,T≠a:=fun T hT z=>by
  have e:=(ht T hT).1
  rw [z,ha] at e
  cases e
 have tOk:∀ {H:Hp} {T:Addr},T∈ts→a0w P w H s₁.heap T (.tbl #[]):=fun {H T} hT=>(ht T hT).1
 cases hk:K.lookup a with
 | some o =>
  have e:=KX a o hk
  rw [ha] at e
  cases e
  refine core (fun b=>if b∈ts then some (.tbl #[]) else none) (fun b=>?_) (fun T hT=>if_pos hT) (.inr ⟨_,vs.toArray,_,hk,rfl,rfl,rfl,by rw [List.size_toArray,lenV];exact hl,by simpa using rv⟩) (fun b u z=>?_) fun b z=>?_
  ·by_cases y:b∈ts
   ·exact .inr (.inr ⟨if_pos y,y⟩)
   ·exact .inl (if_neg y)
  ·by_cases y:b∈ts
   ·have z':=(if_pos y).symm.trans z
    cases z'
    exact tOk y
   ·have z':=(if_neg y).symm.trans z
    cases z'
  ·by_cases y:b∈ts
   ·exact (ht b y).2.2
   ·exact absurd (if_neg y) z
 | none =>
  refine core (fun b=>if b∈ts then some (.tbl #[]) else if b=a then some (.frz { cls:=.type "list",data:=.seq vs.toArray } (.lst (ns.map V.int))) else none) (fun b=>?_) (fun T hT=>if_pos hT) (.inl (.inr ⟨{ cls:=.type "list",data:=.seq vs.toArray },?_⟩)) (fun b u z=>?_) fun b z=>?_
  ·by_cases y:b∈ts
   ·exact .inr (.inr ⟨if_pos y,y⟩)
   ·by_cases hb':b=a
    ·exact .inr (.inl ⟨_,_,(if_neg y).trans (if_pos hb'),hb'⟩)
    ·exact .inl ((if_neg y).trans (if_neg hb'))
  ·exact (if_neg fun y=>neA a y rfl).trans (if_pos rfl)
  ·by_cases y:b∈ts
   ·have z':=(if_pos y).symm.trans z
    cases z'
    exact tOk y
   ·by_cases hb':b=a
    ·have z':=((if_neg y).trans (if_pos hb')).symm.trans z
     cases z'
     subst hb'
     exact ⟨ha,by rw [List.length_map];exact hl,vs,_,rv,ha⟩
    ·have z':=((if_neg y).trans (if_neg hb')).symm.trans z
     cases z'
  ·by_cases y:b∈ts
   ·exact (ht b y).2.2
   ·by_cases hb':b=a
    ·rw [hb'];exact hk
    ·exact absurd ((if_neg y).trans (if_neg hb')) z
theorem a9s {l:PySem.W.OpenLaw} {n k:Nat} {q:Program} {loose:List Str} {XP:(Str→Option Value)→Heap→Prop} {YP:World→Heap→Prop} {d:DefRec} {K:Params→PySem.W.Frag} {CX:World→CXT} {sp:World→Sp} {x:Str} {ts:List Addr}
  (hn:l.most=some n) (hn2:n≤sizeLine) (hdf:d.params.defaults=[]) (hr:a2E k callerA)
  (hY:∀ (w:World) (h:Heap),YP w h→(K w.params).In h∧∀ T∈ts,h.get? T=some (PySem.W.tabObj #[]))
  (hT:∀ (w:World),∀ T∈ts,(∃ c,PySem.W.codeHdIn (K w.params) c T=true)∧(K w.params).lookup T=none)
  (F:∀ (w:World) (mg:Str→Option Value) (fa:Addr) (h:Heap),(K w.params).In h→h.Ns mainGlobals mg→mg d.name=some (.ref fa) →
   ∃ fd:FuncData,(∀ (s:Shared) (u:Value),BindsTo s fd ⟨[u],[]⟩ [(x,u)]) ∧
    ∀ base:Heap,(K w.params).In base→base.Ns mainGlobals mg→(∃ bm,BMod mg base ts bm)→a1X l.prog w (K w.params) mg base (CX w) k fa fd [x] (sp w))
  (hsp:∀ (w:World) (H:Hp) (a:Addr) (ns:List Int),ns.length≤n→(∀ T∈ts,H T=some (.tbl #[]))→SqL (K w.params) H a (ns.map V.int)→sp w [.ref a] H (fun v _=>v=.bl true) fun _ _ _=>False)
  (hCX:∀ (w:World) (H:Hp) (s:Shared) (e:Value) (s':Shared),CX w [] H s (fun _ _ _=>False) e s'→False) :
  PySem.W.WalkO q loose XP YP l.row.toRowW d [] (fun f vs=>PySem.call f vs):=by
 refine Att.a5n hn hdf fun w s₀ s₁ mg mb fa o pm cd doc a vs ns G Y ho hd hcd hmg hobj hints hlen hg=>?_
 obtain ⟨KX,KT⟩:=hY w _ Y
 obtain ⟨fd,hb,hF⟩:=F w mg fa _ KX G.T.g hmg
 exact a8g KX G.T.g G.T.b G.T.builtins G.T.nolimit hg hobj hints (Nat.le_trans hlen hn2) hr (fun T hT'=>⟨KT T hT',(let ⟨c,e⟩:=(hT w T hT').1;⟨c,PySem.W.codeHd_of_K KX e⟩),(hT w T hT').2⟩) G.T.bmain hF hb (fun H hO hS=>hsp w H a ns hlen hO hS) fun H e s'=>hCX w H s₁ e s'
section
variable {prog:Program} {w:World} {A:Around} {E:Value→Shared→Prop} {s:Shared}
theorem b0i {α β:Type} {f:α→Option β} {g:α→β}:∀ (l:List α),(∀ m∈l,f m=some (g m))→l.filterMap f=l.map g
 | [],_=>rfl
 | a :: l,h=>by
  rw [List.filterMap_cons,h a (.head _),List.map_cons,b0i l fun m hm=>h m (.tail _ hm)]
end
theorem a0A.rev:∀ {xs:List V} {us:List Value},a0A xs us→a0A xs.reverse us.reverse
 | _,_,.nil=>.nil
 | _,_,.cons a b=>by
  rw [List.reverse_cons,List.reverse_cons]
  exact Paired.appendP (a0A.rev b) (.cons a .nil)
abbrev B90:Int:=1000000000000000000000000000000000000000000000000000000000000000000000000000000000000000000
end L2
namespace HT
open PySem PyProof.Rows
theorem a6d (A:Around) (s:Shared) (a:Int) (t:Tok) (c:Int) (u:Tok) (prog:Program) (w:World) (E:Value→Shared→Prop) (Q:Value→Shared→Prop) (h:Q (.bool (decide (c≤a))) s) :
  wpAny (model prog w) A (richCompare .GtE (.int a t) (.int c u)) Q E s :=
 (PyProof.Rows.ge_int h:wpAny (model prog w) A (compareOp .GtE (.int a t) (.int c u)) Q E s)
section
open PySem.SeqAt
open PySem.AutoSeq1 (wpAny_loadPart')
open PySem.MeetsSeq PySem.MeetsSeq2 PySem.MeetsSeq3
theorem a4p (l b:Addr) (items items2:Array Value) (n n2:Nat) (dd dd2:Option Addr) (sl sl2:Array (Option Value)) (ns ms:List Int) (hi:IntsAre items.toList ns) (hj:IntsAre items2.toList ms) :
  Meets (Builtin.«tuple.__ge__» ⟨[.ref l,.ref b],[]⟩)
   (fun _ R s=>s.heap.get? l=some { cls:=.type "tuple",dict:=dd,data:=.seq items n,slots:=sl }∧s.heap.get? b=some { cls:=.type "tuple",dict:=dd2,data:=.seq items2 n2,slots:=sl2 } ∧
    R (.ok (.ret (.bool (!a0F ns ms)))) s) :=
 .of_wp fun prog w A R s h=>by
  obtain ⟨hp,g,d,tk,os⟩:=s;obtain ⟨hl,hb,h⟩:=h
  have f2:=AutoSeq1.sub_tuple_tuple
  have z1:items.size=ns.length:=by rw [←hi.length];simp
  have z2:items2.size=ms.length:=by rw [←hj.length];simp
  wp_walk using wpAny_loadPart' hl,wpAny_loadPart' hb,wpAny_forIn_list _ (fun rest b s'=>b.1=none∧s'=⟨hp,g,d,tk,os⟩∧∃ (vs ws:List Value) (ns' ms':List Int),rest=vs.zip ws ∧
   IntsAre vs ns'∧IntsAre ws ms'∧ns'.length+items2.size=ms'.length+items.size∧R (.ok (.ret (.bool (!a0F ns' ms')))) ⟨hp,g,d,tk,os⟩) _
  case turn =>
   rintro ⟨y,x⟩ rest b s' ⟨hb',rfl,vs,ws,ns',ms',hz,hvi,hwi,hlen,hR⟩
   cases hvi with
   | nil=>rw [List.zip_nil_left] at hz;cases hz
   | cons a t hvi' =>
    cases hwi with
    | nil=>rw [List.zip_nil_right] at hz;cases hz
    | cons c u hwi' =>
     rw [List.zip_cons_cons] at hz
     injection hz with hyx hrest
     injection hyx with hy hx
     subst hy hx
     rw [a1w] at hR
     simp only [List.length_cons] at hlen
     obtain ⟨e,he,hiff⟩:=a2Y A.in1 ⟨hp,g,d,tk,os⟩ a t c u
     refine wpAny_bind (he prog w _ _ ?_)
     cases e with
     | true =>
      rw [if_pos (hiff.mp rfl)] at hR
      wp_walk
      exact ⟨rfl,rfl,_,_,_,_,hrest,hvi',hwi',by omega,hR⟩
     | false =>
      rw [if_neg (fun q=>absurd (hiff.mpr q) Bool.false_ne_true)] at hR
      have hri:=a6d A.in1 ⟨hp,g,d,tk,os⟩ a t c u prog w
      have hno:(!decide (a < c))=decide (c≤a):=by
       by_cases y:a < c
       ·rw [decide_eq_true y,decide_eq_false (by omega)];rfl
       ·rw [decide_eq_false y,decide_eq_true (by omega)];rfl
      rw [hno] at hR
      wp_walk using hri
      exact ⟨_,rfl,by simpa using hR⟩
  case fin =>
   rintro ⟨b1,b2⟩ s' ⟨hb',rfl,vs,ws,ns',ms',hz,hvi,hwi,hlen,hR⟩
   simp only at hb'
   subst hb'
   have hv:a0F ns' ms'=decide (items.size < items2.size):=by
    cases hvi with
    | nil =>
     cases hwi with
     | nil =>
      simp only [List.length_nil] at hlen
      rw [a2r]
      exact (decide_eq_false (by omega)).symm
     | cons c u hw =>
      simp only [List.length_nil,List.length_cons] at hlen
      rw [a2i]
      exact (decide_eq_true (by omega)).symm
    | cons a t hv =>
     cases hwi with
     | nil =>
      simp only [List.length_nil,List.length_cons] at hlen
      rw [a2j]
      exact (decide_eq_false (by omega)).symm
     | cons c u hw =>
      rw [List.zip_cons_cons] at hz
      cases hz
   have hno:(!decide (items.size < items2.size))=decide (items.size ≥ items2.size):=by
    by_cases y:items.size < items2.size
    ·rw [decide_eq_true y,decide_eq_false (by omega)];rfl
    ·rw [decide_eq_false y,decide_eq_true (by omega)];rfl
   rw [hv,hno] at hR
   wp_walk
   exact ⟨_,rfl,by simpa [Builtin.Tuple.tupleCompareSizes] using hR⟩
  case h =>
   exact ⟨rfl,rfl,items.toList,items2.toList,ns,ms,rfl,hi,hj,by omega,h⟩
end
section
variable {prog:Program} {w:World} {A:Around} {E:Value→Shared→Prop} {s:Shared}
theorem a6N {l b:Addr} {items items2:Array Value} {ns ms:List Int} {Q:Value→Shared→Prop} (hl:IsTup s.heap l items) (hb:IsTup s.heap b items2) (hi:IntsAre items.toList ns) (hj:IntsAre items2.toList ms)
  (hu:A.units < cLine) (h:Q (.bool (!a0F ns ms)) s):wpAny (model prog w) A (compareOp .GtE (.ref l) (.ref b)) Q E s:=by
 obtain ⟨⟨cls,dd,data,sl⟩,ho,hc,n,hd⟩:=id hl
 obtain ⟨⟨cls2,dd2,data2,sl2⟩,ho2,hc2,n2,hd2⟩:=id hb
 simp only at hc hd hc2 hd2
 subst hc hd hc2 hd2
 exact richCompare_meets_room (op:=.GtE) ⟨_,ho,rfl⟩ ⟨_,ho2,rfl⟩ PySem.F.slot_tuple_ge PySem.F.entry_tuple_ge (PySem.F.args_tuple_ge_2 _ _) (a4p l b items items2 n n2 dd dd2 sl sl2 ns ms hi hj)
  ⟨ho,ho2,show Value.bool (!a0F ns ms)≠Value.notImplemented∧Q (.bool (!a0F ns ms)) s from ⟨(fun x=>nomatch x),h⟩⟩ hu
end
end HT
namespace L2
open PySem PySem.Spec PyProof.Rows
end L2
namespace L2
open PySem PySem.Spec PyProof.Rows PySem.W
def b1h (m:Nat):List Nat:=(List.range 8).filter fun i=>m.testBit i
structure SmT (b:Bool) (m:Nat) (t:SetTable):Prop where
 lt:m < 256
 place:t.place=(b1h m).toArray
 dum:t.dummies=#[]
 plain:t.plain=true
 led:t.led=!b
 mask:t.mask=7∧(b1h m).length < 5∨t.mask=31
structure SmE (m:Nat) (es:Array (Int × Value)):Prop where
 vals:es.toList.map (·.1)=(b1h m).map Int.ofNat
 int:∀ e∈es.toList,∃ tk,e.2=.int e.1 tk
section
variable {prog:Program} {w:World} {A:Around} {E:Value→Shared→Prop} {s:Shared} {b:Bool}
def SmAt (b:Bool) (m:Nat) (h:Heap) (a:Addr):Prop:=∃ o es ep t,h.get? a=some o∧o.ExactSet∧o.data=.set es ep t∧SmT b m t∧SmE m es
end
section
variable {prog:Program} {w:World} {A:Around} {E:Value→Shared→Prop} {s:Shared} {b:Bool} {m ep:Nat} {es:Array (Int × Value)} {t:SetTable} {a it:Addr}
end
def SetO (w:World) (a:Addr) (m:Nat):HO:=.ext fun h=>SmAt (w.params.followText "set-order") m h a
end L2
namespace L2
open PySem PySem.Spec PyProof.Rows
theorem a8h {p q:Int × List Int} (h:a1D p q=true):a1D q p=false:=by
 cases e:a1D q p with
 | false=>rfl
 | true=>have:=a4o _ _ _ h e;rw [a1O] at this;cases this
def onK (ps:List Int) (q:Int × List Int):List (Int × List Int):=(List.range ps.length).map fun i=>(q.1+ps.getD i 0,q.2++[(i:Int)])
end L2
namespace HT
open PySem PySem.Spec PyProof.Rows
section
open PySem.SeqAt
open PySem.AutoSeq1 (wpAny_loadPart')
open PySem.MeetsSeq PySem.MeetsSeq2 PySem.MeetsSeq3
theorem nlt_ge (a b:Int):(!decide (a < b))=decide (b≤a):=by
 by_cases z:a < b
 ·rw [decide_eq_true z,decide_eq_false (by omega)];rfl
 ·rw [decide_eq_false z,decide_eq_true (by omega)];rfl
theorem a4q (l b:Addr) (items items2:Array Value) (n n2:Nat) (dd dd2:Option Addr) (sl sl2:Array (Option Value)) (p q:Int × List Int) (t t2:Tok) (u u2:Value) (hi:items.toList=[.int p.1 t,u]) (hj:items2.toList=[.int q.1 t2,u2]) :
  Meets (Builtin.«tuple.__lt__» ⟨[.ref l,.ref b],[]⟩)
   (fun A R s=>s.heap.get? l=some { cls:=.type "tuple",dict:=dd,data:=.seq items n,slots:=sl }∧s.heap.get? b=some { cls:=.type "tuple",dict:=dd2,data:=.seq items2 n2,slots:=sl2 }∧L2.a3I s.heap u p.2∧L2.a3I s.heap u2 q.2∧A.units+2 < cLine ∧
    R (.ok (.ret (.bool (L2.a1D p q)))) s) :=
 .of_wp fun prog w A R s h=>by
  obtain ⟨hp,g,d,tk,os⟩:=s;obtain ⟨hl,hb,tu,tu2,hA,h⟩:=h
  have f2:=AutoSeq1.sub_tuple_tuple
  have z1:items.size=2:=by rw [←Array.length_toList,hi];rfl
  have z2:items2.size=2:=by rw [←Array.length_toList,hj];rfl
  wp_walk using wpAny_loadPart' hl,wpAny_loadPart' hb,wpAny_forIn_list _ (fun rest b s'=>b.1=none∧s'=⟨hp,g,d,tk,os⟩∧(rest=[(.int p.1 t,.int q.1 t2),(u,u2)]∨(rest=[(u,u2)]∧p.1=q.1)∨(rest=[]∧p.1=q.1∧p.2=q.2))) _
  case turn =>
   rintro ⟨y,x⟩ rest b s' ⟨hb',rfl,hz | ⟨hz,e1⟩ | ⟨hz,_⟩⟩
   ·injection hz with hyx hrest
    injection hyx with hy hx
    subst hy hx
    obtain ⟨e,he,hiff⟩:=a2Y A.in1 ⟨hp,g,d,tk,os⟩ p.1 t q.1 t2
    refine wpAny_bind (he prog w _ _ ?_)
    cases e with
    | true =>
     wp_walk
     exact ⟨rfl,rfl,.inr (.inl ⟨hrest,hiff.mp rfl⟩)⟩
    | false =>
     have ne:¬ p.1=q.1:=fun z=>absurd (hiff.mpr z) Bool.false_ne_true
     have hri:=a5Q A.in1 ⟨hp,g,d,tk,os⟩ p.1 t q.1 t2 prog w
     unfold L2.a1D at h
     rw [if_neg ne] at h
     wp_walk using hri
     exact ⟨_,rfl,by simpa using h⟩
   ·injection hz with hyx hrest
    injection hyx with hy hx
    subst hy hx
    have he:=L2.a8a (A:=A.in1) (s:=⟨hp,g,d,tk,os⟩) tu tu2 (by show A.units+1+1 < cLine;omega)
    refine wpAny_bind (he prog w _ _ ?_)
    by_cases e2:p.2=q.2
    ·rw [decide_eq_true e2]
     wp_walk
     exact ⟨rfl,rfl,.inr (.inr ⟨hrest,e1,e2⟩)⟩
    ·rw [decide_eq_false e2]
     unfold L2.a1D at h
     rw [if_pos e1] at h
     have hri:∀ (E:Value→Shared→Prop) (Q:Value→Shared→Prop),Q (.bool (HT.a0F p.2 q.2)) ⟨hp,g,d,tk,os⟩→wpAny (model prog w) A.in1 (richCompare .Lt y x) Q E ⟨hp,g,d,tk,os⟩:=fun E Q hq=>by
      obtain ⟨c,its,rfl,ht,hh⟩:=tu
      obtain ⟨c2,its2,rfl,ht2,hh2⟩:=tu2
      exact HT.a6w ht ht2 hh hh2 (by show A.units+1 < cLine;omega) hq
     wp_walk using hri
     exact ⟨_,rfl,by simpa using h⟩
   ·cases hz
  case fin =>
   rintro ⟨b1,b2⟩ s' ⟨hb',rfl,hz | ⟨hz,e1⟩ | ⟨hz,e1,e2⟩⟩
   ·cases hz
   ·cases hz
   ·simp only at hb'
    subst hb'
    have e:p=q:=Prod.ext e1 e2
    subst e
    rw [L2.a1O] at h
    wp_walk
    refine ⟨_,rfl,?_⟩
    have:Builtin.Tuple.tupleCompareSizes .Lt items.size items2.size=.bool (false):=by rw [z1,z2];rfl
    rw [this]
    exact h
  case h =>
   refine ⟨rfl,rfl,.inl ?_⟩
   rw [hi,hj]
   rfl
theorem a4r (l b:Addr) (items items2:Array Value) (n n2:Nat) (dd dd2:Option Addr) (sl sl2:Array (Option Value)) (p q:Int × List Int) (t t2:Tok) (u u2:Value) (hi:items.toList=[.int p.1 t,u]) (hj:items2.toList=[.int q.1 t2,u2]) :
  Meets (Builtin.«tuple.__ge__» ⟨[.ref l,.ref b],[]⟩)
   (fun A R s=>s.heap.get? l=some { cls:=.type "tuple",dict:=dd,data:=.seq items n,slots:=sl }∧s.heap.get? b=some { cls:=.type "tuple",dict:=dd2,data:=.seq items2 n2,slots:=sl2 }∧L2.a3I s.heap u p.2∧L2.a3I s.heap u2 q.2∧A.units+2 < cLine ∧
    R (.ok (.ret (.bool (!L2.a1D p q)))) s) :=
 .of_wp fun prog w A R s h=>by
  obtain ⟨hp,g,d,tk,os⟩:=s;obtain ⟨hl,hb,tu,tu2,hA,h⟩:=h
  have f2:=AutoSeq1.sub_tuple_tuple
  have z1:items.size=2:=by rw [←Array.length_toList,hi];rfl
  have z2:items2.size=2:=by rw [←Array.length_toList,hj];rfl
  wp_walk using wpAny_loadPart' hl,wpAny_loadPart' hb,wpAny_forIn_list _ (fun rest b s'=>b.1=none∧s'=⟨hp,g,d,tk,os⟩∧(rest=[(.int p.1 t,.int q.1 t2),(u,u2)]∨(rest=[(u,u2)]∧p.1=q.1)∨(rest=[]∧p.1=q.1∧p.2=q.2))) _
  case turn =>
   rintro ⟨y,x⟩ rest b s' ⟨hb',rfl,hz | ⟨hz,e1⟩ | ⟨hz,_⟩⟩
   ·injection hz with hyx hrest
    injection hyx with hy hx
    subst hy hx
    obtain ⟨e,he,hiff⟩:=a2Y A.in1 ⟨hp,g,d,tk,os⟩ p.1 t q.1 t2
    refine wpAny_bind (he prog w _ _ ?_)
    cases e with
    | true =>
     wp_walk
     exact ⟨rfl,rfl,.inr (.inl ⟨hrest,hiff.mp rfl⟩)⟩
    | false =>
     have ne:¬ p.1=q.1:=fun z=>absurd (hiff.mpr z) Bool.false_ne_true
     have hri:=a6d A.in1 ⟨hp,g,d,tk,os⟩ p.1 t q.1 t2 prog w
     unfold L2.a1D at h
     rw [if_neg ne] at h
     wp_walk using hri
     exact ⟨_,rfl,by (rw [nlt_ge] at h;exact h)⟩
   ·injection hz with hyx hrest
    injection hyx with hy hx
    subst hy hx
    have he:=L2.a8a (A:=A.in1) (s:=⟨hp,g,d,tk,os⟩) tu tu2 (by show A.units+1+1 < cLine;omega)
    refine wpAny_bind (he prog w _ _ ?_)
    by_cases e2:p.2=q.2
    ·rw [decide_eq_true e2]
     wp_walk
     exact ⟨rfl,rfl,.inr (.inr ⟨hrest,e1,e2⟩)⟩
    ·rw [decide_eq_false e2]
     unfold L2.a1D at h
     rw [if_pos e1] at h
     have hri:∀ (E:Value→Shared→Prop) (Q:Value→Shared→Prop),Q (.bool (!HT.a0F p.2 q.2)) ⟨hp,g,d,tk,os⟩→wpAny (model prog w) A.in1 (richCompare .GtE y x) Q E ⟨hp,g,d,tk,os⟩:=fun E Q hq=>by
      obtain ⟨c,its,rfl,ht,hh⟩:=tu
      obtain ⟨c2,its2,rfl,ht2,hh2⟩:=tu2
      exact HT.a6N ht ht2 hh hh2 (by show A.units+1 < cLine;omega) hq
     wp_walk using hri
     exact ⟨_,rfl,by simpa using h⟩
   ·cases hz
  case fin =>
   rintro ⟨b1,b2⟩ s' ⟨hb',rfl,hz | ⟨hz,e1⟩ | ⟨hz,e1,e2⟩⟩
   ·cases hz
   ·cases hz
   ·simp only at hb'
    subst hb'
    have e:p=q:=Prod.ext e1 e2
    subst e
    rw [L2.a1O] at h
    wp_walk
    refine ⟨_,rfl,?_⟩
    have:Builtin.Tuple.tupleCompareSizes .GtE items.size items2.size=.bool (!false):=by rw [z1,z2];rfl
    rw [this]
    exact h
  case h =>
   refine ⟨rfl,rfl,.inl ?_⟩
   rw [hi,hj]
   rfl
end
end HT
namespace L2
open PySem PySem.Spec PyProof.Rows
section
variable {prog:Program} {w:World} {A:Around} {E:Value→Shared→Prop} {s:Shared}
theorem a4s {x y:Value} {p q:Int × List Int} {Q:Value→Shared→Prop} (hx:PrN s.heap x p) (hy:PrN s.heap y q) (hu:A.units+4 < cLine) (h:Q (.bool (a1D p q)) s):wpAny (model prog w) A (compareOp .Lt x y) Q E s:=by
 obtain ⟨l,items,t,u,rfl,hl,hi,tu⟩:=hx
 obtain ⟨b,items2,t2,u2,rfl,hb,hj,tu2⟩:=hy
 obtain ⟨⟨cls,dd,data,sl⟩,ho,hc,n,hd⟩:=id hl
 obtain ⟨⟨cls2,dd2,data2,sl2⟩,ho2,hc2,n2,hd2⟩:=id hb
 simp only at hc hd hc2 hd2
 subst hc hd hc2 hd2
 exact richCompare_meets_room (op:=.Lt) ⟨_,ho,rfl⟩ ⟨_,ho2,rfl⟩ PySem.F.slot_tuple_lt PySem.F.entry_tuple_lt (PySem.F.args_tuple_lt_2 _ _) (HT.a4q l b items items2 n n2 dd dd2 sl sl2 p q t t2 u u2 hi hj)
  ⟨ho,ho2,tu,tu2,(by show A.units+2 < cLine;omega),show Value.bool (a1D p q)≠Value.notImplemented∧Q (.bool (a1D p q)) s from ⟨(fun x=>nomatch x),h⟩⟩ (by omega)
theorem a9t {x y:Value} {p q:Int × List Int} {Q:Value→Shared→Prop} (hx:PrN s.heap x p) (hy:PrN s.heap y q) (hu:A.units+4 < cLine) (h:Q (.bool (!a1D p q)) s):wpAny (model prog w) A (compareOp .GtE x y) Q E s:=by
 obtain ⟨l,items,t,u,rfl,hl,hi,tu⟩:=hx
 obtain ⟨b,items2,t2,u2,rfl,hb,hj,tu2⟩:=hy
 obtain ⟨⟨cls,dd,data,sl⟩,ho,hc,n,hd⟩:=id hl
 obtain ⟨⟨cls2,dd2,data2,sl2⟩,ho2,hc2,n2,hd2⟩:=id hb
 simp only at hc hd hc2 hd2
 subst hc hd hc2 hd2
 exact richCompare_meets_room (op:=.GtE) ⟨_,ho,rfl⟩ ⟨_,ho2,rfl⟩ PySem.F.slot_tuple_ge PySem.F.entry_tuple_ge (PySem.F.args_tuple_ge_2 _ _) (HT.a4r l b items items2 n n2 dd dd2 sl sl2 p q t t2 u u2 hi hj)
  ⟨ho,ho2,tu,tu2,(by show A.units+2 < cLine;omega),show Value.bool (!a1D p q)≠Value.notImplemented∧Q (.bool (!a1D p q)) s from ⟨(fun x=>nomatch x),h⟩⟩ (by omega)
end
def rNePw:R2:=fun x y H Q=>∃ p q,RPw H x p∧RPw H y q∧Q (.bl (!decide (p=q))) H
end L2
namespace L2
open PySem PySem.Spec PyProof.Rows PySem.W
theorem a3P (u v:List Int) (h:HT.a0F u v=true):HT.a0F v u=false:=by
 cases e:HT.a0F v u with
 | false=>rfl
 | true=>have z:=a3a _ _ _ h e;rw [a3s] at z;cases z
theorem a8i (u v w:List Int) (h1:HT.a0F v u=false) (h2:HT.a0F w v=false):HT.a0F w u=false:=by
 by_cases z1:v=u
 ·rw [←z1];exact h2
 ·by_cases z2:w=v
  ·rw [z2];exact h1
  ·exact a3P _ _ (a3a _ _ _ (a2v _ _ z1 h1) (a2v _ _ z2 h2))
section
variable {prog:Program} {w:World} {A:Around} {E:Value→Shared→Prop} {s:Shared}
end
structure b1I (X:Cx) (σ:St) (Rg:Addr→List V→Hp→VK→Prop):Prop where
 run:∀ (pins:List (Addr × Obj)) (H:Hp) (s:Shared) (g:Addr) (us:List Value) (vs:List V) (Q:VK),Inv X pins σ H s→a0A vs us→Rg g vs H Q→codeAny (model X.prog X.w) X.A.in1.in1 (.call (.ref g) ⟨us,[]⟩) (CR CX0 X.stack X.prog X.w H s Q E0) s
theorem b1I.of {X:Cx} {σ:St} {k:Nat} {R:Addr→List V→Hp→VK→Prop} (L:LamOk X.prog X.w X.K X.mg X.base k R) (hr:a2E (k+2) X.A):b1I X σ R :=
 ⟨fun _ H s g us vs Q I r q=>L.run X.A.in1.in1 X.stack s H g us vs Q hr.in1.in1 I.env0.in1.in1 r q⟩
def RgC (X:Cx) (cl:List (Str × Addr)) (R:Addr→List V→Hp→VK→Prop) (σ:St):Addr→List V→Hp→VK→Prop:=fun g vs H1 Q=>∀ os:Addr→Obj,(∀ (j i:Nat) (n:Str) (c:Addr) (v:V),cl[j]?=some (n,c)→X.N[i]?=some n→σ[i]?=some (some v)→∃ u,(os c).data=.cell (some u)∧a0U v u)→(∀ c∈cl.map (·.2),H1 c=none) →
 R g vs (trk' (cl.map (·.2)) os H1) (fun v H3=>(∀ c∈cl.map (·.2),H3 c=some (exA c (os c)))∧Q v (unt (cl.map (·.2)) H3))
section
variable {X:Cx} {k:Nat} {Rg:Addr→List V→Hp→VK→Prop} {pins:List (Addr × Obj)} {σ:St} {H:Hp} {a g kS:Addr} {xs:List V} {ks:Nat→List Int} {s:Shared} {P:PySem.Fin→Shared→Prop} {E:Value→Shared→Prop}
theorem a8j {ks:Nat→List Int} {n i:Nat} (h:i < n):((List.range n).map ks).getD i []=ks i:=by
 rw [List.getD_eq_getElem?_getD,List.getElem?_map,List.getElem?_range h]
 rfl
end
theorem Inv.adopt {X:Cx} {pins:List (Addr × Obj)} {σ:St} {H:Hp} {s:Shared} {l:Addr} {o:HO} (I:Inv X pins σ H s) (f:a5h X pins H l) (new:a0w X.prog X.w (upd H l o) s.heap l o):Inv X pins σ (upd H l o) s:=by
 have hok:HOk X.prog X.w (upd H l o) s.heap:=fun b u e=>by
  by_cases hb:b=l
  ·subst hb;rw [a0b] at e;cases e;exact new
  ·rw [a0r hb] at e
   exact (I.hok b u e).stay (fun c v _ q=>q) (fun c q=>by rw [a0r (a0H q f.1)];exact q) fun c xs q=>by rw [a0r (a0H q f.1)];exact q
 exact I.step (g':=s.gens) (t':=s.toks) (d':=s.drawn) (h':=s.heap) (ch:=[l]) (fun b hb=>by rw [List.mem_singleton.mp hb];exact ⟨f.2.2.2.1,f.2.1,f.2.2.2.2.1,f.2.2.2.2.2⟩)
  (fun b o _ _ _ e _=>e) (fun b o _ _ _ e _=>⟨o.slots,e⟩) (fun b u hb e n=>by rw [a0r (fun z=>hb (by simp [z]))];exact n) (fun b u _ e=>⟨u,e⟩)
  (fun b xs e=>by rw [a0r (a0H e f.1)];exact e) (fun b u xs e=>by rw [a0r (a0H e f.1)];exact e) (fun b ps e=>⟨#[],by rw [a0r (a0H e f.1),e];simp⟩) (fun m h=>h) hok I.bare
section
variable {prog:Program} {w:World} {A:Around} {E:Value→Shared→Prop} {s:Shared}
end
section
variable {X:Cx} {k:Nat} {Rg:Addr→List V→Hp→VK→Prop} {pins:List (Addr × Obj)} {σ:St} {H:Hp} {g:Addr} {ks:Nat→List Int} {s:Shared} {Q:VK}
end
end L2
namespace L2
open PySem PySem.Spec PyProof.Rows
inductive Cell where
 | i (n:Int)
 | t (ks:List Int)
deriving DecidableEq
section
variable {prog:Program} {w:World}
def a1K (prog:Program) (w:World) (h:Heap):Value→Cell→Prop
 | v,.i n=>(intKind prog w).is n v=true
 | v,.t ks=>∃ b,v=.ref b∧IsTupleKey (intKind prog w) h ks b
def a1R (prog:Program) (w:World):Cell→Int
 | .i n=>(intKind prog w).hash n
 | .t ks=>tupleKeyHash (intKind prog w) ks
def a3u:Cell→Nat
 | .i _=>1
 | .t ks=>ks.length+1
def a1h (prog:Program) (w:World) (h:Heap) (cs:List Cell) (a:Addr):Prop:=∃ o items n,h.get? a=some o∧o.cls=.type "tuple"∧o.data=.seq items n∧Paired (a1K prog w h) items.toList cs
theorem a1K.inj {h:Heap} {v:Value} {x y:Cell} (hx:a1K prog w h v x) (hy:a1K prog w h v y):x=y:=by
 cases x with
 | i n =>
  cases y with
  | i m=>rw [(intKind prog w).inj v n m hx hy]
  | t ks =>
   obtain ⟨b,rfl,_⟩:=hy
   have:=(intKind prog w).byValue n _ hx
   simp [carriedByValue] at this
 | t ks =>
  obtain ⟨b,rfl,hb⟩:=hx
  cases y with
  | i m =>
   have:=(intKind prog w).byValue m _ hy
   simp [carriedByValue] at this
  | t ls =>
   obtain ⟨c,e,hc⟩:=hy
   cases e
   rw [hb.inj hc]
theorem a8k {h:Heap} {vs:List Value} {x y:List Cell} (hx:Paired (a1K prog w h) vs x):Paired (a1K prog w h) vs y→x=y:=by
 induction hx generalizing y with
 | nil=>intro hy;cases hy;rfl
 | cons h1 _ ih =>
  intro hy
  cases hy with
  | cons h2 t2=>rw [h1.inj h2,ih t2]
theorem a1h.typeIs {s:Shared} {cs:List Cell} {a:Addr} (x:a1h prog w s.heap cs a):s.TypeIs (.ref a) "tuple":=let ⟨o,_,_,ho,hc,_⟩:=x;⟨o,ho,hc⟩
theorem a1h.inj {h:Heap} {a:Addr} {x y:List Cell} (hx:a1h prog w h x a) (hy:a1h prog w h y a):x=y:=by
 obtain ⟨o,items,n,ho,_,hd,hi⟩:=hx
 obtain ⟨o',items',n',ho',_,hd',hi'⟩:=hy
 have e:o=o':=Option.some.inj (ho.symm.trans ho')
 subst e
 rw [hd] at hd'
 injection hd' with h1 _
 subst h1
 exact a8k hi hi'
theorem a1h.keeps {h h':Heap} {cs:List Cell} {a d:Addr} {o:Obj} {es ep} (x:a1h prog w h cs a) (ho:h.get? d=some o) (hd:o.data=.dict es ep) (hs:Heap.SameBut d h h'):a1h prog w h' cs a:=by
 obtain ⟨o',items,n,ho',hc,hd',hi⟩:=x
 have hne:a≠d:=fun z=>by
  rw [z,ho] at ho'
  cases ho'
  rw [hd] at hd'
  cases hd'
 refine ⟨o',items,n,(hs.2 a hne).trans ho',hc,hd',Paired.mapP hi fun v c hv=>?_⟩
 cases c with
 | i m=>exact hv
 | t ks =>
  obtain ⟨b,e,hb⟩:=hv
  exact ⟨b,e,hb.keeps ho hd hs⟩
def a3b (prog:Program) (w:World) (cs:List Cell):Int:=reduceHash (Builtin.Tuple.tupleHashOf (cs.map (a1R prog w)))
def a2w (cs:List Cell):Nat:=(cs.map a3u).sum+1
variable {A:Around} {E:Value→Shared→Prop} {s:Shared}
theorem a8l {v:Value} {c:Cell} {Q:Int→Shared→Prop} (hu:A.units < cLine) (hv:a1K prog w s.heap v c) (h:Q (a1R prog w c) { s with toks:=s.toks+a3u c }):wpAny (model prog w) A (pyHash v) Q E s:=by
 cases c with
 | i n=>exact (intKind prog w).pyHash hv h
 | t ks =>
  obtain ⟨b,rfl,hb⟩:=hv
  exact wpAny_pyHash_tuple hu hb h
theorem b1i {u v:Value} {c d:Cell} {Q:Bool→Shared→Prop} (hu:A.units < cLine) (h1:a1K prog w s.heap u c) (h2:a1K prog w s.heap v d) (hk:(∃ n m,c=.i n∧d=.i m)∨∃ k l,c=.t k∧d=.t l) (h:Q (decide (c=d)) s):wpAny (model prog w) A (eqBool u v) Q E s:=by
 rcases hk with ⟨n,m,rfl,rfl⟩ | ⟨k,l,rfl,rfl⟩
 ·refine (intKind prog w).eqBool (a:=n) (b:=m) h1 h2 ?_
  rw [show decide (n=m)=decide (Cell.i n=Cell.i m) from decide_eq_decide.mpr ⟨fun z=>by rw [z],fun z=>by cases z;rfl⟩]
  exact h
 ·obtain ⟨a,rfl,ha⟩:=h1
  obtain ⟨b,rfl,hb⟩:=h2
  refine wpAny_eqBool_tuple hu ha hb ?_
  rw [show decide (k=l)=decide (Cell.t k=Cell.t l) from decide_eq_decide.mpr ⟨fun z=>by rw [z],fun z=>by cases z;rfl⟩]
  exact h
theorem a4U {cs:List Cell} {a:Addr} {Q:Int→Shared→Prop} (hu:A.units+1 < cLine) (hk:a1h prog w s.heap cs a) (h:Q (a3b prog w cs) { s with toks:=s.toks+a2w cs }) :
  wpAny (model prog w) A (pyHash (.ref a)) Q E s:=by
 have hT:=hk.typeIs
 obtain ⟨o,items,n,ho,_,hd,hi⟩:=hk
 unfold pyHash
 first | unfold pyHashByItsType | skip
 first | refine wpAny_bind (wpAny_cRoomFor_or (.inr (show A.units < cLine by omega)) ?_) | skip
 refine wpAny_bind (wpAny_specialOf hT PySem.F.slot_tuple_hash.lookup ?_)
 show wpAny _ _ (if (some (Value.builtin "tuple.__hash__") == some Value.none)=true then _ else _) Q E s
 rw [if_neg (by rw [beq_builtin_none];exact Bool.false_ne_true)]
 refine wpAny_bind (wpAny_specialOf hT PySem.F.slot_tuple_hash.lookup ?_)
 show wpAny _ _ (callSpecialIfBoundUnlessNone? (.ref a) "__hash__" _ >>= _) Q E s
 refine wpAny_bind (wpAny_callSpecialIfBoundUnlessNone?_slot hT PySem.F.slot_tuple_hash (wpAny_call_entry PySem.F.slot_tuple_hash hT PySem.F.entry_tuple_hash ?_ (PySem.F.args_tuple_hash_1 _)))
 show wpAny _ _ (Builtin.Tuple.tupleItemsOf (.ref a) >>= _) _ _ s
 refine wpAny_bind (wpAny_tupleItemsOf ho hd ?_)
 refine wpAny_bind ?_
 rw [←Array.forIn_toList]
 refine wpAny_forIn_list _
  (fun rest (b:Array Int) s'=>∃ done left,cs=done++left∧Paired (a1K prog w s.heap) rest left∧b.toList=done.map (a1R prog w)∧s'={ s with toks:=s.toks+(done.map a3u).sum })
  _ ?_ ?_ _ _ ⟨[],cs,rfl,hi,rfl,rfl⟩
 ·rintro x rest b s' ⟨done,left,rfl,hl,hb,rfl⟩
  cases hl with
  | @cons _ k _ ks' h1 hl' =>
   refine wpAny_bind (a8l (A:=_) ?_ h1 ?_)
   ·show A.units+1 < cLine
    exact hu
   first
    | exact wpAny_pure ⟨done++[k],ks',by simp,hl',by simp [hb],by simp [Nat.add_assoc]⟩
    | exact wpAny_bind (wpAny_pure (wpAny_pure ⟨done++[k],ks',by simp,hl',by simp [hb],by simp [Nat.add_assoc]⟩))
 ·rintro b s' ⟨done,left,rfl,hl,hb,rfl⟩
  cases hl
  rw [List.append_nil] at h
  show wpAny _ _ (retInt (Builtin.Tuple.tupleHashOf b.toList)) _ _ _
  rw [hb]
  refine wpAny_ret_mkInt ?_
  show wpAny _ _ (if (decide (-(2:Int) ^ 63≤Builtin.Tuple.tupleHashOf (done.map (a1R prog w))) && decide (Builtin.Tuple.tupleHashOf (done.map (a1R prog w)) < 2 ^ 63))=true then _ else _) Q E _
  unfold a3b reduceHash a2w at h
  by_cases hr:(decide (-(2:Int) ^ 63≤Builtin.Tuple.tupleHashOf (done.map (a1R prog w))) && decide (Builtin.Tuple.tupleHashOf (done.map (a1R prog w)) < 2 ^ 63))=true
  ·rw [if_pos hr]
   rw [if_pos hr] at h
   exact wpAny_pure (by simpa [Nat.add_assoc] using h)
  ·rw [if_neg hr]
   rw [if_neg hr] at h
   exact wpAny_bind (wpAny_rule (wpAny_pure (by simpa [Nat.add_assoc] using h)))
def Like (c d:Cell):Prop:=(∃ n m,c=.i n∧d=.i m)∨∃ k l,c=.t k∧d=.t l
theorem a4V {x y:List Cell} {a b:Addr} {P:Fin→Shared→Prop} (hu:A.units < cLine) (lk:Paired Like x y) (hx:a1h prog w s.heap x a) (hy:a1h prog w s.heap y b) (h:P (.done (.ret (.bool (decide (x=y))))) s) :
  wpAny (model prog w) A (Builtin.«tuple.__eq__» ⟨[.ref a,.ref b],[]⟩) P E s:=by
 have hTb:=hy.typeIs
 obtain ⟨oa,xs,na,hoa,_,hda,hia⟩:=hx
 obtain ⟨ob,ys,nb,hob,_,hdb,hib⟩:=hy
 show wpAny _ _ (isInstance (.ref b) (.type "tuple") >>= _) _ _ s
 refine wpAny_bind (wpAny_isInstance hTb isSubtype_tuple_tuple ?_)
 simp only [Bool.not_true,Bool.false_eq_true,if_false]
 refine wpAny_bind (wpAny_tupleItemsOf hoa hda ?_)
 refine wpAny_bind (wpAny_tupleItemsOf hob hdb ?_)
 refine wpAny_bind ?_
 refine wpAny_forIn_list _
  (fun rest r s'=>r.1=none∧s'=s∧∃ x' y' xs' ys',rest=List.zip xs' ys'∧Paired Like x' y'∧Paired (a1K prog w s.heap) xs' x'∧Paired (a1K prog w s.heap) ys' y'∧decide (x'=y')=decide (x=y)∧(xs'.length == ys'.length)=(xs.size == ys.size))
  _ ?_ ?_ _ _ ⟨rfl,rfl,x,y,xs.toList,ys.toList,rfl,lk,hia,hib,rfl,by simp⟩
 ·rintro ⟨u,v⟩ rest r s' ⟨hr,rfl,x',y',xs',ys',hz,lk',hx',hy',hdec,hlen⟩
  cases hx' with
  | nil=>simp at hz
  | @cons u' k1 xs'' x'' h1 hx'' =>
   cases hy' with
   | nil=>simp at hz
   | @cons v' k2 ys'' y'' h2 hy'' =>
    simp only [List.zip_cons_cons,List.cons.injEq,Prod.mk.injEq] at hz
    obtain ⟨⟨rfl,rfl⟩,rfl⟩:=hz
    cases lk' with
    | cons l1 l2 =>
    refine wpAny_bind (b1i (c:=k1) (d:=k2) hu h1 h2 l1 ?_)
    by_cases hk:k1=k2
    ·subst hk
     rw [decide_eq_true rfl]
     simp only [Bool.not_true,Bool.false_eq_true,if_false]
     refine wpAny_pure ⟨rfl,rfl,x'',y'',xs'',ys'',rfl,l2,hx'',hy'',?_,by simpa using hlen⟩
     rw [←hdec]
     by_cases hxy:x''=y''
     ·simp [hxy]
     ·simp [hxy]
    ·rw [decide_eq_false hk]
     simp only [Bool.not_false,if_true]
     have hf:decide (x=y)=false:=by rw [←hdec];simp [hk]
     rw [hf] at h
     exact wpAny_bind (wpAny_pure (wpAny_pure (wpAny_pure h)))
 ·rintro ⟨r1,r2⟩ s' ⟨hr,rfl,x',y',xs',ys',hz,lk',hx',hy',hdec,hlen⟩
  simp only at hr
  subst hr
  refine wpAny_pure ?_
  have hfin:(xs.size == ys.size)=decide (x=y):=by
   rw [←hdec,←hlen]
   cases hx' with
   | nil =>
    cases hy' with
    | nil=>simp
    | cons _ _=>simp
   | cons _ _ =>
    cases hy' with
    | nil=>simp
    | cons _ _=>simp at hz
  show P (.done (.ret (.bool (xs.size == ys.size)))) s'
  rw [hfin];exact h
theorem a1C {x y:List Cell} {a b:Addr} {Q:Bool→Shared→Prop} (hu:A.units+1 < cLine) (lk:Paired Like x y) (hx:a1h prog w s.heap x a) (hy:a1h prog w s.heap y b) (h:Q (decide (x=y)) s) :
  wpAny (model prog w) A (eqBool (.ref a) (.ref b)) Q E s:=by
 unfold eqBool
 try with_reducible refine wpAny_holding ?_
 show wpAny _ _ (if (Value.ref a == Value.ref b)=true then _ else _) Q E s
 by_cases hab:(Value.ref a == Value.ref b)=true
 ·rw [if_pos hab]
  have e:a=b:=by have:=eq_of_beq hab;injection this
  subst e
  have e2:=hx.inj hy
  subst e2
  exact wpAny_bind (wpAny_rule (wpAny_pure (by simpa using h)))
 ·rw [if_neg hab]
  exact wpAny_bind (wpAny_richCompare_same_room (op:=.Eq) hx.typeIs hy.typeIs PySem.F.slot_tuple_eq
   (wpAny_call_entry PySem.F.slot_tuple_eq hx.typeIs PySem.F.entry_tuple_eq (a4V (by first | exact hu | (show A.units+1 < cLine;exact hu)) lk hx hy ⟨_,rfl,(fun e=>nomatch e),wpAny_truthy_bool h⟩) (PySem.F.args_tuple_eq_2 _ _)) (by omega))
theorem a5v {m:Nat} {ks:List Int} {a:Addr} {Q:Bool→Shared→Prop} (hk:IsTupleKey (intKind prog w) s.heap ks a) (h:Q true s):wpAny (model prog w) A (eqIsQuiet (m+1) (.ref a)) Q E s:=by
 have hT:=hk.typeIs
 obtain ⟨o,items,n,ho,_,hd,hi⟩:=hk
 unfold eqIsQuiet
 refine wpAny_bind (wpAny_specialOf hT PySem.F.slot_tuple_eq.lookup ?_)
 show wpAny _ _ (isInstance (.ref a) (.type "tuple") >>= _) _ _ s
 refine wpAny_bind (wpAny_isInstance hT isSubtype_tuple_tuple ?_)
 simp only [Bool.not_true,Bool.false_eq_true,if_false]
 refine wpAny_bind (wpAny_seqItems ho hd ?_)
 refine wpAny_bind ?_
 show wpAny _ _ (forIn items _ _) _ _ s
 rw [←Array.forIn_toList]
 refine wpAny_forIn_list _ (fun rest r s'=>r.1=none∧s'=s∧∀ v∈rest,carriedByValue v=true) _ ?_ ?_ _ _ ⟨rfl,rfl,hi.byValue⟩
 ·rintro v rest r s' ⟨hr,rfl,hall⟩
  rw [eqIsQuiet_byValue _ (hall v List.mem_cons_self)]
  refine wpAny_bind (wpAny_pure ?_)
  simp only [Bool.not_true,Bool.false_eq_true,if_false]
  exact wpAny_pure ⟨rfl,rfl,fun u hu'=>hall u (List.mem_cons_of_mem _ hu')⟩
 ·rintro ⟨r1,r2⟩ s' ⟨hr,rfl,_⟩
  simp only at hr
  subst hr
  exact wpAny_pure h
theorem a3Q {cs:List Cell} {a:Addr} {Q:Bool→Shared→Prop} (hk:a1h prog w s.heap cs a) (h:Q true s):wpAny (model prog w) A (eqIsQuiet 8 (.ref a)) Q E s:=by
 have hT:=hk.typeIs
 obtain ⟨o,items,n,ho,_,hd,hi⟩:=hk
 unfold eqIsQuiet
 refine wpAny_bind (wpAny_specialOf hT PySem.F.slot_tuple_eq.lookup ?_)
 show wpAny _ _ (isInstance (.ref a) (.type "tuple") >>= _) _ _ s
 refine wpAny_bind (wpAny_isInstance hT isSubtype_tuple_tuple ?_)
 simp only [Bool.not_true,Bool.false_eq_true,if_false]
 refine wpAny_bind (wpAny_seqItems ho hd ?_)
 refine wpAny_bind ?_
 show wpAny _ _ (forIn items _ _) _ _ s
 rw [←Array.forIn_toList]
 refine wpAny_forIn_list _ (fun rest r s'=>r.1=none∧s'=s∧∃ left,Paired (a1K prog w s.heap) rest left) _ ?_ ?_ _ _ ⟨rfl,rfl,cs,hi⟩
 ·rintro v rest r s' ⟨hr,rfl,left,hall⟩
  cases hall with
  | @cons _ c _ left' h1 h2 =>
  refine wpAny_bind ?_
  have go:wpAny (model prog w) A (eqIsQuiet 7 v) (fun b s''=>b=true∧s''=s') E s':=by
   cases c with
   | i n =>
    rw [eqIsQuiet_byValue _ ((intKind prog w).byValue _ _ h1)]
    exact wpAny_pure ⟨rfl,rfl⟩
   | t ks =>
    obtain ⟨b,rfl,hb⟩:=h1
    exact a5v (m:=6) hb ⟨rfl,rfl⟩
  refine wpAny_mono go ?_ (fun _ _ z=>z)
  rintro b s'' ⟨rfl,rfl⟩
  simp only [Bool.not_true,Bool.false_eq_true,if_false]
  exact wpAny_pure ⟨rfl,rfl,left',h2⟩
 ·rintro ⟨r1,r2⟩ s' ⟨hr,rfl,_⟩
  simp only at hr
  subst hr
  exact wpAny_pure h
def a0l (prog:Program) (w:World):HeapKind prog w (Int × List Int) where
 is:=fun h k a=>a1h prog w h [.i k.1,.t k.2] a
 hash:=fun k=>a3b prog w [.i k.1,.t k.2]
 draws:=fun k=>a2w [.i k.1,.t k.2]
 room:=fun A=>A.units+1 < cLine
 inj:=fun {h a x y} hx hy=>by
  have:=hx.inj hy
  injection this with h1 h2
  injection h1 with h1
  injection h2 with h2 _
  injection h2 with h2
  exact Prod.ext h1 h2
 keeps:=fun x ho hd hs=>x.keeps ho hd hs
 pyHash:=fun hu hk h=>a4U hu hk h
 eqBool:=fun {A E s x y a b Q} hu hx hy h=>by
  refine a1C hu (.cons (.inl ⟨_,_,rfl,rfl⟩) (.cons (.inr ⟨_,_,rfl,rfl⟩) .nil)) hx hy ?_
  rw [show decide ([Cell.i x.1,.t x.2]=[Cell.i y.1,.t y.2])=decide (x=y) from decide_eq_decide.mpr ⟨fun z=>by
   injection z with h1 h2
   injection h1 with h1
   injection h2 with h2 _
   injection h2 with h2
   exact Prod.ext h1 h2,fun z=>by rw [z]⟩]
  exact h
 quiet:=fun hk h=>a3Q hk h
def a9u (prog:Program) (w:World):HeapKind prog w (List Int × Int) where
 is:=fun h k a=>a1h prog w h [.t k.1,.i k.2] a
 hash:=fun k=>a3b prog w [.t k.1,.i k.2]
 draws:=fun k=>a2w [.t k.1,.i k.2]
 room:=fun A=>A.units+1 < cLine
 inj:=fun {h a x y} hx hy=>by
  have:=hx.inj hy
  injection this with h1 h2
  injection h1 with h1
  injection h2 with h2 _
  injection h2 with h2
  exact Prod.ext h1 h2
 keeps:=fun x ho hd hs=>x.keeps ho hd hs
 pyHash:=fun hu hk h=>a4U hu hk h
 eqBool:=fun {A E s x y a b Q} hu hx hy h=>by
  refine a1C hu (.cons (.inr ⟨_,_,rfl,rfl⟩) (.cons (.inl ⟨_,_,rfl,rfl⟩) .nil)) hx hy ?_
  rw [show decide ([Cell.t x.1,.i x.2]=[Cell.t y.1,.i y.2])=decide (x=y) from decide_eq_decide.mpr ⟨fun z=>by
   injection z with h1 h2
   injection h1 with h1
   injection h2 with h2 _
   injection h2 with h2
   exact Prod.ext h1 h2,fun z=>by rw [z]⟩]
  exact h
 quiet:=fun hk h=>a3Q hk h
end
section
variable {P:Program} {w:World} {H:Hp} {h:Heap} {a b d:Addr}
theorem a6e {n:Int} {v:Value} (r:a0U (.int n) v):(intKind P w).is n v=true:=by
 obtain ⟨t,rfl⟩:=(show ∃ t,v=Value.int n t from r)
 show Value.isInt n (.int n t)=true
 simp [Value.isInt]
theorem a4t:∀ {ks:List Int} {vs:List Value},a0A (ks.map V.int) vs→ItemsAre (intKind P w) ks vs
 | [],_,r=>by cases r;exact .nil
 | k :: ks,_,r=>by
  cases r with
  | cons h1 h2=>exact .cons (a6e h1) (a4t h2)
theorem b0j {ks:List Int} (ok:HOk P w H h) (e:H a=some (.tup (ks.map V.int))):IsTupleKey (intKind P w) h ks a:=by
 obtain ⟨_,its,r,o,h1,h2,n,h3⟩:=a1N (show a0w P w H h a (.tup (ks.map V.int)) from ok a _ e)
 exact ⟨o,its.toArray,n,h1,h2,h3,by simpa using a4t r⟩
def NAt (H:Hp) (k:Int × List Int) (a:Addr):Prop:=∃ b,H a=some (.tup [.int k.1,.ref b])∧H b=some (.tup (k.2.map V.int))
def WAt (H:Hp) (k:List Int × Int) (a:Addr):Prop:=∃ b,H a=some (.tup [.ref b,.int k.2])∧H b=some (.tup (k.1.map V.int))
theorem NAt.is {k:Int × List Int} (ok:HOk P w H h) (x:NAt H k a):(a0l P w).is h k a:=by
 obtain ⟨b,e,eb⟩:=x
 obtain ⟨_,its,r,o,h1,h2,n,h3⟩:=a1N (show a0w P w H h a (.tup [.int k.1,.ref b]) from ok a _ e)
 refine ⟨o,its.toArray,n,h1,h2,h3,?_⟩
 cases r with
 | cons r1 r2 =>
  cases r2 with
  | cons r2 r3 =>
   cases r3
   exact .cons (a6e r1) (.cons ⟨b,r2,b0j ok eb⟩ .nil)
theorem WAt.is {k:List Int × Int} (ok:HOk P w H h) (x:WAt H k a):(a9u P w).is h k a:=by
 obtain ⟨b,e,eb⟩:=x
 obtain ⟨_,its,r,o,h1,h2,n,h3⟩:=a1N (show a0w P w H h a (.tup [.ref b,.int k.2]) from ok a _ e)
 refine ⟨o,its.toArray,n,h1,h2,h3,?_⟩
 cases r with
 | cons r1 r2 =>
  cases r2 with
  | cons r2 r3 =>
   cases r3
   exact .cons ⟨b,r1,b0j ok eb⟩ (.cons (a6e r2) .nil)
end
section
variable {P:Program} {w:World} {KK:Type} [DecidableEq KK] (knd:HeapKind P w KK)
def a5e (kvs:List (KK × Addr × V)) (xs:List (KK × Addr × Value)):Prop:=Paired (fun p q=>p.1=q.1∧p.2.1=q.2.1∧a0U p.2.2 q.2.2) kvs xs
def NDx (d:Addr) (kvs:List (KK × Addr × V)) (h:Heap):Prop:=(d == sysModules)=false∧kvs.length≤sizeLine∧∃ xs:List (KK × Addr × Value),a5e kvs xs∧∃ o es ep,h.get? d=some o∧o.ExactDict∧o.data=.dict es ep∧es.toList=xs.map (entryOfKey knd)∧(xs.map (·.1)).Nodup
def NDO (d:Addr) (kvs:List (KK × Addr × V)):HO:=.ext (NDx knd d kvs)
variable {knd}
theorem NDx.keep {d:Addr} {kvs:List (KK × Addr × V)} {h1 h2:Heap} (x:NDx knd d kvs h1) (k:∀ o,h1.get? d=some o→h2.get? d=some o):NDx knd d kvs h2:=by
 obtain ⟨h0,hl,xs,r,o,es,ep,e1,e2⟩:=x
 exact ⟨h0,hl,xs,r,o,es,ep,k _ e1,e2⟩
theorem NDx.ok {H:Hp} {h:Heap} {d:Addr} {kvs:List (KK × Addr × V)} (x:NDx knd d kvs h):a0w P w H h d (NDO knd d kvs):=⟨x,(let ⟨_,_,_,_,o,_,_,e,_⟩:=x;⟨o,e⟩),fun h1 h2 y k=>y.keep k⟩
theorem a3v {H:Hp} {h:Heap} {d:Addr} {kvs:List (KK × Addr × V)} (ok:HOk P w H h) (e:H d=some (NDO knd d kvs)) (ka:∀ p∈kvs,knd.is h p.1 p.2.1):(d == sysModules)=false∧kvs.length≤sizeLine∧∃ xs,a5e kvs xs∧h.DictOfH knd d xs:=by
 have z0:=(show a0w P w H h d (NDO knd d kvs) from ok d _ e).1
 obtain ⟨h0,hl,xs,r,o,es,ep,e1,e2,e3,e4,e5⟩:=(show NDx knd d kvs h from z0)
 refine ⟨h0,hl,xs,r,o,es,ep,e1,e2,e3,e4,fun x hx=>?_,e5⟩
 clear e4 e5 e hl z0
 unfold a5e at r
 induction r with
 | nil=>cases hx
 | cons h1 _ ih =>
  rcases List.mem_cons.mp hx with z | z
  ·subst z
   have:=ka _ (.head _)
   rw [h1.1,h1.2.1] at this
   exact this
  ·exact ih (fun p hp=>ka p (.tail _ hp)) z
def nval (kvs:List (KK × Addr × V)) (k:KK):Option V:=(kvs.find? fun x=>decide (x.1=k)).map (·.2.2)
theorem a5e.val {kvs:List (KK × Addr × V)} {xs:List (KK × Addr × Value)} (r:a5e kvs xs) (k:KK):a8S (nval kvs k) ((atKey xs k).map (·.2)):=by
 unfold a5e at r
 induction r with
 | nil=>exact True.intro
 | cons h1 _ ih =>
  unfold nval atKey at ih ⊢
  rw [List.find?_cons,List.find?_cons,h1.1]
  split
  ·exact h1.2.2
  ·exact ih
end
section
variable {X:Cx} {KK:Type} [DecidableEq KK] {knd:HeapKind X.prog X.w KK} {pins:List (Addr × Obj)} {σ:St} {H:Hp} {s:Shared} {a d:Addr} {v:V} {r:Value} {A:Around} {E:Value→Shared→Prop} {kvs:List (KK × Addr × V)} {k:KK}
theorem nd_get {Q:Value→Shared→Prop} (hu:knd.room A.in1) (I:Inv X pins σ H s) (e:H d=some (NDO knd d kvs)) (ka:∀ p∈kvs,knd.is s.heap p.1 p.2.1) (kk:knd.is s.heap k a) (l:nval kvs k=some v) (h:∀ w' s',Inv X pins σ H s'→a0U v w'→Q w' s'):wpAny (model X.prog X.w) A (getItem (.ref d) (.ref a)) Q E s:=by
 obtain ⟨hd,_,xs,rel,dd⟩:=a3v I.hok e ka
 obtain ⟨w',hw,rw'⟩:=a8S.some_of (v:=v) (o:=(atKey xs k).map (·.2)) (by rw [←l];exact rel.val k)
 obtain ⟨p,hp,hp2⟩:=Option.map_eq_some_iff.mp hw
 refine wpAny_getItem_heap hu kk dd hp ?_
 rw [hp2]
 exact h w' _ (I.tok _) rw'
theorem nd_in {Q:Value→Shared→Prop} (hu:knd.room A.in1) (I:Inv X pins σ H s) (e:H d=some (NDO knd d kvs)) (ka:∀ p∈kvs,knd.is s.heap p.1 p.2.1) (kk:knd.is s.heap k a) (h:∀ s',Inv X pins σ H s'→Q (.bool (nval kvs k).isSome) s'):wpAny (model X.prog X.w) A (compareOp .In (.ref a) (.ref d)) Q E s:=by
 obtain ⟨hd,_,xs,rel,dd⟩:=a3v I.hok e ka
 refine wpAny_in_heap hu kk hd dd ?_
 have q:=(rel.val k).isSome_eq
 rw [Option.isSome_map] at q
 rw [←q]
 exact h _ (I.tok _)
theorem a9v {Q:Value→Shared→Prop} (hu:knd.room A.in1) (I:Inv X pins σ H s) (e:H d=some (NDO knd d kvs)) (ka:∀ p∈kvs,knd.is s.heap p.1 p.2.1) (kk:knd.is s.heap k a) (h:∀ s',Inv X pins σ H s'→Q (.bool (!(nval kvs k).isSome)) s'):wpAny (model X.prog X.w) A (compareOp .NotIn (.ref a) (.ref d)) Q E s:=by
 obtain ⟨hd,_,xs,rel,dd⟩:=a3v I.hok e ka
 refine wpAny_notIn_heap hu kk hd dd ?_
 have q:=(rel.val k).isSome_eq
 rw [Option.isSome_map] at q
 rw [←q]
 exact h _ (I.tok _)
def nput (kvs:List (KK × Addr × V)) (k:KK) (a:Addr) (v:V):List (KK × Addr × V):=if (nval kvs k).isSome then kvs.map fun x=>if x.1=k then (x.1,x.2.1,v) else x else kvs++[(k,a,v)]
theorem a5e.putm {xs:List (KK × Addr × Value)} {u:Value} (rel:a5e kvs xs) (rv:a0U v u):a5e (kvs.map fun x=>if x.1=k then (x.1,x.2.1,v) else x) (xs.map (putAt k u)):=by
 unfold a5e at rel ⊢
 induction rel with
 | nil=>exact .nil
 | @cons x y _ _ h1 _ ih =>
  refine .cons ?_ ih
  unfold putAt
  dsimp only
  by_cases z:x.1=k
  ·rw [if_pos z,if_pos (h1.1.symm.trans z)]
   exact ⟨h1.1,h1.2.1,rv⟩
  ·rw [if_neg z,if_neg (fun y=>z (h1.1.trans y))]
   exact h1
theorem a5e.put {xs:List (KK × Addr × Value)} {u:Value} (rel:a5e kvs xs) (rv:a0U v u):a5e (nput kvs k a v) (storedH xs k a u):=by
 have q:=(rel.val k).isSome_eq
 rw [Option.isSome_map] at q
 unfold nput
 cases e:atKey xs k with
 | none =>
  rw [e] at q
  rw [storedH_new e,if_neg (by rw [q];decide)]
  exact Paired.appendP rel (.cons ⟨rfl,rfl,rv⟩ .nil)
 | some p =>
  rw [e] at q
  rw [storedH_old e,if_pos (show (nval kvs k).isSome=true from q)]
  exact rel.putm rv
theorem a9w:(nput kvs k a v).length≤kvs.length+1:=by
 unfold nput
 split
 ·rw [List.length_map];omega
 ·rw [List.length_append];exact Nat.le_refl _
theorem nd_put {Q:Unit→Shared→Prop} (hu:knd.room A.in1) (I:Inv X pins σ H s) (e:H d=some (NDO knd d kvs)) (ka:∀ p∈kvs,knd.is s.heap p.1 p.2.1) (kk:knd.is s.heap k a) (hl:kvs.length < sizeLine) (rv:a0U v r) (h:∀ s',Inv X pins σ (upd H d (NDO knd d (nput kvs k a v))) s'→Q () s'):wpAny (model X.prog X.w) A (setItem (.ref d) (.ref a) r) Q E s:=by
 obtain ⟨hd,_,xs,rel,dd⟩:=a3v I.hok e ka
 have hz:xs.length≤sizeLine:=by rw [←Paired.length rel];omega
 refine wpAny_setItem_heap (hsz:=hz) hu kk dd fun h' dd' hs=>h _ ?_
 obtain ⟨q,es,ep,hq,h2,h3,h4,_,h5⟩:=dd'
 have hn:(nput kvs k a v).length≤sizeLine:=by have:=a9w (kvs:=kvs) (k:=k) (a:=a) (v:=v);omega
 exact b0Z I (by rw [e];exact True.intro) hs ⟨q,hq⟩ (NDx.ok ⟨hd,hn,_,rel.put rv,q,es,ep,hq,h2,h3,h4,h5⟩)
theorem b0k (I:Inv X pins σ H s) (e:H d=some (.dK [])):Inv X pins σ (upd H d (NDO knd d [])) s:=by
 obtain ⟨_,hd,vs,rel,dd⟩:=dk_of I.hok e
 cases rel
 obtain ⟨o,es,ep,e1,e2,e3,_,e5,_⟩:=dd
 have em:es.toList=[]:=by cases hh:es.toList with
  | nil=>rfl
  | cons x l=>rw [hh] at e5;cases e5
 exact I.write (t':=s.toks) (x:=d) (e:=d) (by rw [e];exact True.intro) (.inl rfl) (fun b q hb z=>z) ⟨o,e1⟩ (NDx.ok ⟨hd,Nat.zero_le _,[],.nil,o,es,ep,e1,e2,e3,em,List.nodup_nil⟩)
end
structure NKd (X:Cx) (KK:Type) [DecidableEq KK] where
 knd:HeapKind X.prog X.w KK
 At:Hp→KK→Addr→Prop
 is:∀ {pins:List (Addr × Obj)} {σ:St} {H:Hp} {s:Shared} {k:KK} {a:Addr},Inv X pins σ H s→At H k a→knd.is s.heap k a
 rm:∀ {A:Around},A.units+2 < cLine→knd.room A.in1
def FAt (K:PySem.W.Frag) (H:Hp) (k:Int × List Int) (a:Addr):Prop:=∃ b,SqT K H a [.int k.1,.ref b]∧SqT K H b (k.2.map V.int)
theorem FAt.is {X:Cx} {pins:List (Addr × Obj)} {σ:St} {H:Hp} {s:Shared} {k:Int × List Int} {a:Addr} (I:Inv X pins σ H s) (x:FAt X.K H k a):(a0l X.prog X.w).is s.heap k a:=by
 obtain ⟨b,e,eb⟩:=x
 obtain ⟨its,r,⟨o,h1,h2,n,h3⟩,_⟩:=I.tuple e
 obtain ⟨its2,r2',⟨o2,g1,g2,n2,g3⟩,_⟩:=I.tuple eb
 refine ⟨o,its.toArray,n,h1,h2,h3,?_⟩
 cases r with
 | cons r1 r2 =>
  cases r2 with
  | cons r2 r3 =>
   cases r3
   exact .cons (a6e r1) (.cons ⟨b,r2,o2,its2.toArray,n2,g1,g2,g3,by simpa using a4t r2'⟩ .nil)
def nkN (X:Cx):NKd X (Int × List Int):=⟨a0l X.prog X.w,FAt X.K,fun I x=>FAt.is I x,fun {A} h=>(show A.units+1+1 < cLine from h)⟩
section
variable {X:Cx} {KK:Type} [DecidableEq KK] (N:NKd X KK)
def NIs (H:Hp) (d:Addr) (kvs:List (KK × Addr × V)):Prop:=(H d=some (NDO N.knd d kvs)∨(H d=some (.dK [])∧kvs=[]))∧∀ p∈kvs,N.At H p.1 p.2.1
def sNPut (td ty tv:TE):TS:=fun D σ H=>tv σ H fun v H1=>td σ H1 fun x H2=>ty σ H2 fun y H3=>∃ d a k kvs,x=.ref d∧y=.ref a∧NIs N H3 d kvs∧N.At H3 k a∧kvs.length < sizeLine∧D.nx σ (upd H3 d (NDO N.knd d (nput kvs k a v)))
def tNGet (td ty:TE):TE:=fun σ H Q=>td σ H fun x H1=>ty σ H1 fun y H2=>∃ d a k kvs v,x=.ref d∧y=.ref a∧NIs N H2 d kvs∧N.At H2 k a∧nval kvs k=some v∧Q v H2
def rNNot:R2:=fun x y H Q=>∃ a d k kvs,x=.ref a∧y=.ref d∧NIs N H d kvs∧N.At H k a∧Q (.bl (!(nval kvs k).isSome)) (upd H d (NDO N.knd d kvs))
variable {N}
theorem a6f {H:Hp} {d:Addr} {o:HO} (h:H d=some o):upd H d o=H:=by
 funext b
 unfold upd
 split
 ·rename_i e;rw [e,h]
 ·rfl
theorem NIs.cast {pins:List (Addr × Obj)} {σ:St} {H:Hp} {s:Shared} {d:Addr} {kvs:List (KK × Addr × V)} (x:NIs N H d kvs) (I:Inv X pins σ H s):Inv X pins σ (upd H d (NDO N.knd d kvs)) s:=by
 rcases x.1 with e | ⟨e,rfl⟩
 ·rw [a6f e];exact I
 ·exact b0k I e
theorem b1j {o i value:Expr} {pos pos':Pos} {td ty tv:TE} (hu:X.A.units+2 < cLine) (ho:PE X o td) (hi:PE X i ty) (hv:PE X value tv) (hs:swapsWith value (some (.Subscript o i pos')) pos.line X.env=pure false) :
  PS X (.Assign [.Subscript o i pos'] value pos) (sNPut N td ty tv):=by
 intro pins s σ H D I h
 refine wpAny_Assign_Subscript (thn (hv pins s σ H _ I h) fun r s1 ⟨v,H1,I1,rv,q1⟩=>thn (ho pins s1 σ H1 _ I1 q1) fun u s2 ⟨x,H2,I2,rx,q2⟩=>thn (hi pins s2 σ H2 _ I2 q2) fun iv s3 ⟨y,H3,I3,ry,d,a,k,kvs,ex,ey,ni,ka,hl,q3⟩=>?_) hs
 subst ex
 subst ey
 have eu:u=Value.ref d:=rx
 have ei:iv=Value.ref a:=ry
 subst eu
 subst ei
 have I4:=ni.cast I3
 refine nd_put (N.rm hu) I4 a0b (fun p hp=>N.is I3 (ni.2 p hp)) (N.is I3 ka) hl rv fun s4 I5=>⟨σ,_,I5,?_⟩
 rw [a7i]
 exact q3
theorem b1k (hu:X.A.units+2 < cLine):OpR X (compareOp .NotIn) (rNNot N):=by
 intro pins s σ H x y v u Q I rx ry h
 obtain ⟨a,d,k,kvs,rfl,rfl,ni,ka,q⟩:=h
 have ev:v=Value.ref a:=rx
 have eu:u=Value.ref d:=ry
 subst ev
 subst eu
 exact a9v (N.rm hu) (ni.cast I) a0b (fun p hp=>N.is I (ni.2 p hp)) (N.is I ka) fun s' I'=>⟨.bl _,_,I',rfl,q⟩
theorem b1l {o i:Expr} {pos:Pos} {td ty:TE} (hu:X.A.units+2 < cLine) (ho:PE X o td) (hi:PE X i ty) (hs:NoSl i):PE X (.Subscript o i pos) (tNGet N td ty):=by
 intro pins s σ H Q I h
 refine a7M PySem.F.slot_dict_getitem.lookup hs (thn (ho pins s σ H _ I h) fun u s1 ⟨x,H1,I1,rx,q1⟩=>thn (hi pins s1 σ H1 _ I1 q1) fun iv s2 ⟨y,H2,I2,ry,d,a,k,kvs,v,ex,ey,ni,ka,hv,q2⟩=>?_)
 subst ex
 subst ey
 have eu:u=Value.ref d:=rx
 have ei:iv=Value.ref a:=ry
 subst eu
 subst ei
 have e:H2 d=some (NDO N.knd d kvs):=by
  rcases ni.1 with e | ⟨_,rfl⟩
  ·exact e
  ·cases hv
 have ks:=fun p hp=>N.is I2 (ni.2 p hp)
 obtain ⟨_,_,xs,_,dd⟩:=a3v I2.hok e ks
 exact ⟨dd.typeIs,nd_get (N.rm hu) I2 e ks (N.is I2 ka) hv fun w' s3 I3 rw'=>⟨v,H2,I3,rw',q2⟩⟩
end
section
variable {P:Program} {w:World} {KK:Type} [DecidableEq KK]
def Itn (knd:HeapKind P w KK) (d:Addr) (ob:Obj) (kvs:List (KK × Addr × V)):It :=
 ⟨fun i H=>H d=some (.frz ob (NDO knd d kvs))∧i < kvs.length,fun i H x H'=>H'=H∧∃ p,kvs[i]?=some p∧x=.ref p.2.1,fun i H=>H d=some (.frz ob (NDO knd d kvs))∧kvs.length≤i⟩
def NW1 (knd:HeapKind P w KK) (H:Hp) (d:Addr) (kvs:List (KK × Addr × V)):Prop:=H d=some (NDO knd d kvs)∨∃ ob,H d=some (.frz ob (NDO knd d kvs))
def NW (knd:HeapKind P w KK) (H:Hp) (d:Addr) (kvs:List (KK × Addr × V)):Prop:=NW1 knd H d kvs∨(H d=some (.dK [])∧kvs=[])
end
theorem Inv.freezeN1 {X:Cx} {KK:Type} [DecidableEq KK] {knd:HeapKind X.prog X.w KK} {pins:List (Addr × Obj)} {σ:St} {H:Hp} {s:Shared} {d:Addr} {kvs:List (KK × Addr × V)} (I:Inv X pins σ H s) (e:NW1 knd H d kvs):∃ ob es ep,s.heap.get? d=some ob∧ob.ExactDict∧ob.data=.dict es ep∧es.size=kvs.length∧(d == sysModules)=false∧Inv X pins σ (upd H d (.frz ob (NDO knd d kvs))) s:=by
 rcases e with e | ⟨ob,e⟩
 ·have z0:=(show a0w X.prog X.w H s.heap d (NDO knd d kvs) from I.hok d _ e).1
  obtain ⟨hd,hl,xs,rel,ob,es,ep,ho,hx,hdat,he,hn⟩:=id (show NDx knd d kvs s.heap from z0)
  refine ⟨ob,es,ep,ho,hx,hdat,by rw [size_of_entries he];exact (Paired.length rel).symm,hd,?_⟩
  exact I.write (h':=s.heap) (t':=s.toks) (x:=d) (e:=d) (o:=.frz ob (NDO knd d kvs)) (by rw [e];exact True.intro) (.inl rfl) (fun b u _ q=>q) ⟨ob,ho⟩ ⟨ho,NDx.ok z0⟩
 ·obtain ⟨ho,z1⟩:=(show a0w X.prog X.w H s.heap d (.frz ob (NDO knd d kvs)) from I.hok d _ e)
  have z0:=(show a0w X.prog X.w H s.heap d (NDO knd d kvs) from z1).1
  obtain ⟨hd,hl,xs,rel,ob',es,ep,ho',hx,hdat,he,hn⟩:=id (show NDx knd d kvs s.heap from z0)
  rw [ho] at ho'
  cases ho'
  exact ⟨ob,es,ep,ho,hx,hdat,by rw [size_of_entries he];exact (Paired.length rel).symm,hd,by rw [a6f e];exact I⟩
theorem Inv.freezeN {X:Cx} {KK:Type} [DecidableEq KK] {knd:HeapKind X.prog X.w KK} {pins:List (Addr × Obj)} {σ:St} {H:Hp} {s:Shared} {d:Addr} {kvs:List (KK × Addr × V)} (I:Inv X pins σ H s) (e:NW knd H d kvs):∃ ob es ep,s.heap.get? d=some ob∧ob.ExactDict∧ob.data=.dict es ep∧es.size=kvs.length∧(d == sysModules)=false∧Inv X pins σ (upd H d (.frz ob (NDO knd d kvs))) s:=by
 rcases e with e | ⟨e,rfl⟩
 ·exact I.freezeN1 e
 ·obtain ⟨ob,es,ep,h1,h2,h3,h4,h5,h6⟩:=(b0k (knd:=knd) I e).freezeN1 (.inl a0b)
  rw [a7i] at h6
  exact ⟨ob,es,ep,h1,h2,h3,h4,h5,h6⟩
theorem b1m {P:Program} {w:World} {KK:Type} [DecidableEq KK] {knd:HeapKind P w KK} {K:PySem.W.Frag} {tg:Expr} (d it:Addr) {ob:Obj} {es:Array DictEntry} {ep:Nat} {kvs:List (KK × Addr × V)} (hx:ob.ExactDict) (hdat:ob.data=.dict es ep) (hsz:es.size=kvs.length) :
  Turn P w K tg (Itn knd d ob kvs) [it] it (fun i h=>h.IsKeyIter it d i es.size ep) where
 mem:=by simp
 obj:=fun i h st b hb=>by
  have e:b=it:=by simpa using hb
  subst e
  obtain ⟨o,e,c,dd⟩:=st
  exact ⟨o,e,fun v z=>by rw [dd] at z;cases z⟩
 keep:=fun i h h' st k=>st.at fun o e=>k it (by simp) o e
 item:=by
  intro X hP hw hK hc i pins s σ H E I hf st hg
  subst hP hw hK
  obtain ⟨e,hi⟩:=hg
  obtain ⟨ho,z1⟩:=(show a0w X.prog X.w H s.heap d (.frz ob (NDO knd d kvs)) from I.hok d _ e)
  have z0:=(show a0w X.prog X.w H s.heap d (NDO knd d kvs) from z1).1
  obtain ⟨hd,hl,xs,rel,ob',es',ep',ho',hx',hdat',he,hn⟩:=id (show NDx knd d kvs s.heap from z0)
  rw [ho] at ho'
  cases ho'
  rw [hdat] at hdat'
  cases hdat'
  obtain ⟨f0,f1,f2,f3,f4,f5⟩:=hf it (by simp)
  have hkv:kvs[i]?=some kvs[i]:=List.getElem?_eq_getElem hi
  obtain ⟨x,hx1,r1,r2,r3⟩:=Paired.right_of rel i _ hkv
  have hen:es[i]?=some (entryOfKey knd x):=by rw [entry_at he i,hx1];rfl
  refine a7N st ⟨ob,ho,hx,hdat⟩ hen fun h' st' sb=>?_
  have I1:Inv X pins σ H { s with heap:=h' }:=I.turned (t':=s.toks) (fun b o hb e=>(sb.2 b hb).trans e) f0 f1 f3 f4 f5
  obtain ⟨o,e',c,dd⟩:=id st'
  exact ⟨_,rfl,a8X (s:={ s with heap:=h' }) e' c dd (by decide) ⟨.ref x.2.1,H,I1,rfl,⟨rfl,kvs[i],hkv,by rw [r2]⟩,st',fun b hb=>(hf b hb).1⟩⟩
 done:=by
  intro X hP hw hK hc i pins s σ H E I hf st hg
  subst hP hw hK
  obtain ⟨e,hi⟩:=hg
  obtain ⟨ho,_⟩:=(show a0w X.prog X.w H s.heap d (.frz ob (NDO knd d kvs)) from I.hok d _ e)
  obtain ⟨f0,f1,f2,f3,f4,f5⟩:=hf it (by simp)
  exact a7O (I.ok.hd hc) st ⟨ob,ho,hx,hdat⟩ (Array.getElem?_eq_none (by omega)) fun h' eb=>⟨rfl,I.turned (t':=s.toks) (fun b o hb e=>eb b o hb e) f0 f1 f3 f4 f5⟩
 self:=fun _ _ _ _ _ st h=>wpAny_pyIter_keyiter st h
section
variable {X:Cx} {KK:Type} [DecidableEq KK] {knd:HeapKind X.prog X.w KK}
def iNDict (knd:HeapKind X.prog X.w KK) (td:TE):TI:=fun σ H R=>td σ H fun x H1=>∃ d kvs,x=.ref d∧NW knd H1 d kvs∧∀ ob,R (Itn knd d ob kvs) (upd H1 d (.frz ob (NDO knd d kvs)))
theorem pi_nd {tg l:Expr} {tl:TE} (hl:PE X l tl):PI X tg l (iNDict knd tl):=by
 intro pins s σ H R I h
 refine thn (hl pins s σ H _ I h) fun v s1 ⟨x,H1,I1,r1,q1⟩=>?_
 obtain ⟨d,kvs,e,hd,q⟩:=q1
 subst e
 cases r1
 obtain ⟨ob,es,ep,ho,hx,hdat,hsz,hsy,I2⟩:=I1.freezeN hd
 refine a7P hsy ⟨ob,ho,hx,hdat⟩ ?_
 refine ⟨s1.heap.objs.size,[s1.heap.objs.size],_,_,_,rfl,I2.kept (t':=s1.toks) fun b o e=>Heap.get?_push_of_some _ e,b1m d _ hx hdat hsz,⟨_,Heap.get?_push_size _ rfl,rfl,rfl⟩,fun b hb=>?_,q ob⟩
 have e:b=s1.heap.objs.size:=by simpa using hb
 subst e
 exact I2.fpOk (Nat.le_refl _) (I2.hok.fresh (Nat.le_refl _))
theorem for_nd {d:Addr} {ob:Obj} {kvs:List (KK × Addr × V)} {g:TG} {tb:TS} {D:a9U} {σ:St} {H:Hp} (Pv:Nat→St→Hp→Prop) (h0:Pv 0 σ H) (hl:∀ i σ H,i≤kvs.length→Pv i σ H→H d=some (.frz ob (NDO knd d kvs)))
  (hs:∀ i p σ H,kvs[i]?=some p→Pv i σ H→g (.ref p.2.1) σ H fun σ2 H2=>tb { D with nx:=Pv (i+1),ct:=Pv (i+1),bk:=D.nx } σ2 H2) (hd:∀ σ H,Pv kvs.length σ H→D.nx σ H) :
  ∃ W:Nat→Nat→St→Hp→Prop,(∃ m,W 0 m σ H)∧∀ i m σ H,W i m σ H →
   ((Itn knd d ob kvs).stop i H∧D.nx σ H)∨((Itn knd d ob kvs).go i H∧∃ N:St→Hp→Prop,(∀ σ' H',N σ' H'→∃ m',m' < m∧W (i+1) m' σ' H')∧∀ x H',(Itn knd d ob kvs).yld i H x H'→g x σ H' fun σ2 H2=>tb { D with nx:=N,ct:=N,bk:=D.nx } σ2 H2):=by
 refine ⟨fun i m σ H=>m=kvs.length - i∧i≤kvs.length∧Pv i σ H,⟨kvs.length,by simp,Nat.zero_le _,h0⟩,?_⟩
 rintro i m σ H ⟨rfl,hi,p⟩
 have g:=hl i σ H hi p
 by_cases hlt:i < kvs.length
 ·refine .inr ⟨⟨g,hlt⟩,Pv (i+1),fun σ' H' p'=>⟨kvs.length - (i+1),by omega,rfl,hlt,p'⟩,?_⟩
  rintro x H' ⟨rfl,k,hkv,rfl⟩
  exact hs i k σ _ hkv p
 ·have e:i=kvs.length:=by omega
  subst e
  exact .inl ⟨⟨g,Nat.le_refl _⟩,hd σ H p⟩
end
end L2
namespace L2
open PySem PySem.Spec PyProof.Rows PySem.W
open Classical in
noncomputable def kOf (h:Heap) (v:Value):List Int:=if e:∃ k,a3I h v k then Classical.choose e else []
theorem a8m {h:Heap} {v:Value} {k:List Int} (t:a3I h v k):kOf h v=k:=by
 have e:∃ k,a3I h v k:=⟨k,t⟩
 unfold kOf
 rw [dif_pos e]
 exact (Classical.choose_spec e).inj t
abbrev PsK:=List (List Int × Value)
def KOrd (b:Bool) (p q:List Int × Value):Prop:=if b=true then HT.a0F p.1 q.1=false else HT.a0F q.1 p.1=false
section
variable {prog:Program} {w:World} {A:Around} {E:Value→Shared→Prop} {s:Shared}
theorem a6O {a kS:Addr} {vs kv:List Value} {ks:List (List Int)} {e1 e:Nat} {b:Bool} {P:PySem.Fin→Shared→Prop} (ho:s.heap.get? a=some (seqObj "list" #[] e1)) (hS:s.heap.get? kS=some (seqObj "list" kv.toArray e)) (hne:kS≠a) (hz:vs.length≤100000) (hl:kv.length=vs.length) (hk:ks.length=vs.length) (t:∀ i,i < vs.length→a3I s.heap (kv.getD i Value.none) (ks.getD i [])) (nn:∀ k∈ks,k≠[])
  (h:∀ (h':Heap) (ps:PsK) (c:Nat),ps.Perm (ks.zip vs)→ps.Pairwise (KOrd b)→h'.get? a=some (seqObj "list" (ps.map Prod.snd).toArray c)→(∀ b o,b≠a→b≠kS→s.heap.get? b=some o→h'.get? b=some o)→P (.done (.ret .none)) { s with heap:=h' }) :
  wpAny (model prog w) A (ksk_end a b vs.toArray e1 (.ref kS) kv.toArray) P E s:=by
 obtain ⟨e2,hS2⟩:∃ e2,(s.heap.update kS (Obj.mapSeq fun _=>(#[]:Array Value))).get? kS=some (seqObj "list" #[] e2):=⟨_,get?_update_seq hS fun _=>#[]⟩
 have ho2:(s.heap.update kS (Obj.mapSeq fun _=>(#[]:Array Value))).get? a=some (seqObj "list" #[] e1):=by rw [Heap.get?_update_ne _ _ _ _ hne.symm];exact ho
 have kp:∀ b o,b≠kS→s.heap.get? b=some o→(s.heap.update kS (Obj.mapSeq fun _=>(#[]:Array Value))).get? b=some o:=fun b o hb e=>by rw [Heap.get?_update_ne _ _ _ _ hb];exact e
 have last:∀ (out:List Value),∃ c,((s.heap.update kS (Obj.mapSeq fun _=>(#[]:Array Value))).update a (Obj.mapSeq fun _=>out.toArray)).get? a=some (seqObj "list" out.toArray c)∧(∀ b o,b≠a→b≠kS→s.heap.get? b=some o→((s.heap.update kS (Obj.mapSeq fun _=>(#[]:Array Value))).update a (Obj.mapSeq fun _=>out.toArray)).get? b=some o):=fun out =>
  ⟨_,get?_update_seq ho2 fun _=>out.toArray,fun b o hb hb2 e=>(Heap.get?_update_ne _ _ _ _ hb).trans (kp b o hb2 e)⟩
 have za:(kv.toArray.zip vs.toArray).toList=kv.zip vs:=by rw [Array.toList_zip]
 have zs:(kv.toArray.zip vs.toArray).size=vs.length:=by simp [hl]
 have kvt:∀ v∈kv,∃ k,k≠[]∧a3I s.heap v k:=fun v hv=>by
  obtain ⟨i,hi⟩:=List.mem_iff_getElem?.mp hv
  have il:=(List.getElem?_eq_some_iff.mp hi).1
  have z:=t i (by omega)
  rw [List.getD_eq_getElem?_getD,hi] at z
  have hki:ks[i]?=some (ks[i]'(by omega)):=List.getElem?_eq_getElem _
  have e:ks.getD i []=ks[i]'(by omega):=by rw [List.getD_eq_getElem?_getD,hki];rfl
  rw [e] at z
  exact ⟨_,nn _ (List.getElem_mem (by omega:i < ks.length)),z⟩
 have kmap:(kv.zip vs).map (fun x=>(kOf s.heap x.1,x.2))=ks.zip vs:=by
  refine List.ext_getElem (by simp [hl,hk]) fun i h1 h2=>?_
  have il:i < vs.length:=by simp at h1;omega
  rw [List.getElem_map,List.getElem_zip,List.getElem_zip]
  have z:=t i il
  rw [List.getD_eq_getElem?_getD,List.getElem?_eq_getElem (by omega),List.getD_eq_getElem?_getD,List.getElem?_eq_getElem (by omega)] at z
  exact Prod.ext (a8m z) rfl
 have hstart:(if b=true then (kv.toArray.zip vs.toArray).reverse else kv.toArray.zip vs.toArray).Perm (kv.toArray.zip vs.toArray):=by
  cases b with
  | false=>exact Array.Perm.refl _
  | true=>exact Array.perm_iff_toList_perm.mpr (by rw [if_pos rfl,Array.toList_reverse];exact List.reverse_perm _)
 have step:∀ t:Sem PySem.Fin,wpAny (model prog w) A t P E s→wpAny (model prog w) A (if b=true then (do let _ ←rule "list.sort.reverse";t) else t) P E s:=by
  intro t ht
  split
  ·exact wpAny_bind (wpAny_rule ht)
  ·exact ht
 have tail:∀ st:SortSt,(arrOf st).Perm (kv.toArray.zip vs.toArray)→failedOf st=none→(arrOf st).toList.Pairwise (fun x y=>HT.a0F (kOf s.heap y.1) (kOf s.heap x.1)=false)→wpAny (model prog w) A (ksk_tail a b e1 (.ref kS) st) P E s:=fun st pm hf pw=>by
  have pm0:=Array.perm_iff_toList_perm.mp pm
  rw [za] at pm0
  have sz:(arrOf st).size=vs.length:=by rw [pm.size_eq,zs]
  have eo:(if b=true then ((arrOf st).map (·.2)).reverse else (arrOf st).map (·.2))=((((if b=true then (arrOf st).toList.reverse else (arrOf st).toList).map fun x=>(kOf s.heap x.1,x.2)).map Prod.snd)).toArray:=by
   apply Array.toList_inj.mp
   cases b with
   | false=>simp [List.map_map]
   | true=>simp [List.map_map]
  obtain ⟨c,hc,kk⟩:=last (((if b=true then (arrOf st).toList.reverse else (arrOf st).toList).map fun x=>(kOf s.heap x.1,x.2)).map Prod.snd)
  unfold ksk_tail
  dsimp only
  refine wpAny_bind (listUpdate_at hS rfl ?_ (by rw [List.size_toArray,sizeLine_eq];omega) (Nat.zero_le _))
  refine wpAny_bind (wpAny_letGo ?_)
  refine wpAny_bind (seqEpoch_at ho2 rfl ?_)
  rw [eo]
  refine wpAny_bind (listUpdate_at ho2 rfl ?_ (Nat.zero_le _) ?_)
  ·rw [hf]
   simp only [bne_self_eq_false,Bool.false_eq_true,if_false]
   refine wpAny_pure (h _ _ c ?_ ?_ hc kk)
   ·rw [←kmap]
    refine List.Perm.map _ (List.Perm.trans ?_ pm0)
    cases b with
    | false=>exact List.Perm.refl _
    | true=>exact List.reverse_perm _
   ·rw [List.pairwise_map]
    cases b with
    | false=>exact pw
    | true=>exact List.pairwise_reverse.mpr pw
  ·rw [List.size_toArray,List.length_map,List.length_map,sizeLine_eq]
   have:(if b=true then (arrOf st).toList.reverse else (arrOf st).toList).length=vs.length:=by
    cases b with
    | false=>rw [if_neg (by decide),Array.length_toList,sz]
    | true=>rw [if_pos rfl,List.length_reverse,Array.length_toList,sz]
   omega
 unfold ksk_end
 dsimp only
 refine step _ ?_
 by_cases h2:vs.toArray.size < 2
 ·rw [if_pos h2,if_pos h2]
  refine wpAny_bind (wpAny_pure ?_)
  rw [StateT.run_pure]
  refine wpAny_bind (wpAny_pure ?_)
  dsimp only
  refine tail (SortSt.mk' general' (if b=true then (kv.toArray.zip vs.toArray).reverse else kv.toArray.zip vs.toArray) #[] 7 none) hstart rfl ?_
  rw [List.size_toArray] at h2
  have:(arrOf (SortSt.mk' general' (if b=true then (kv.toArray.zip vs.toArray).reverse else kv.toArray.zip vs.toArray) #[] 7 none)).toList.length≤1:=by
   show (if b=true then (kv.toArray.zip vs.toArray).reverse else kv.toArray.zip vs.toArray).toList.length≤1
   rw [Array.length_toList,hstart.size_eq,zs]
   omega
  match (arrOf (SortSt.mk' general' (if b=true then (kv.toArray.zip vs.toArray).reverse else kv.toArray.zip vs.toArray) #[] 7 none)).toList,this with
  | [],_=>exact .nil
  | [x],_=>exact List.pairwise_singleton _ _
  | x :: y :: r,z=>simp at z
 ·rw [if_neg h2,if_neg h2]
  rw [List.size_toArray] at h2
  refine wpAny_bind (a7X (s:=s) (by omega) (fun v hv=>?_) ?_)
  ·obtain ⟨k,hk0,z⟩:=kvt v hv
   cases k with
   | nil=>exact absurd rfl hk0
   | cons n ns=>exact ⟨n,ns,z⟩
  let S:Keyed→Prop:=fun x=>x.1∈kv
  have C:Cmp prog w A E s (tuples' true) (fun x y=>HT.a0F (kOf s.heap x.1) (kOf s.heap y.1)) S:=by
   intro x y st Q hx hy hκ q
   rw [lt'_eq]
   refine wpS_bind (wpS_get ?_)
   rw [hκ]
   obtain ⟨k1,_,z1⟩:=kvt _ hx
   obtain ⟨k2,_,z2⟩:=kvt _ hy
   have q:Q (some (HT.a0F (kOf s.heap x.1) (kOf s.heap y.1))) st:=q
   rw [a8m z1,a8m z2] at q
   obtain ⟨b1,items,e,⟨ob,hb,hc,k,hd⟩,hi1⟩:=z1
   obtain ⟨b2,items2,e2,⟨ob2,hb2,hc2,k2,hd2⟩,hi2⟩:=z2
   rw [e,e2]
   refine wpS_bind (wpS_lift (wpAny_attempt (kat_lt hb hd hb2 hd2 (a5U _ _ _ _ 0 hi1 hi2 ?_ ⟨rfl,?_⟩))))
   ·have l1:=hi1.length
    have l2:=hi2.length
    simp only [Array.length_toList] at l1 l2
    rw [l1,l2]
   ·exact wpS_pure q
  have sa:SA (fun x y=>HT.a0F (kOf s.heap x.1) (kOf s.heap y.1)) S (kv.toArray.zip vs.toArray):=by
   refine ⟨⟨fun x y q=>a3P _ _ q,fun x y z q1 q2=>a8i _ _ _ q1 q2⟩,fun x hx=>?_⟩
   rw [za] at hx
   obtain ⟨i,hi⟩:=List.mem_iff_getElem?.mp hx
   rw [List.getElem?_zip_eq_some] at hi
   exact List.mem_of_getElem? hi.1
  refine wpAny_bind (wpAny_mono (a4m C sa (st:=SortSt.mk' (tuples' true) (if b=true then (kv.toArray.zip vs.toArray).reverse else kv.toArray.zip vs.toArray) #[] 7 none) (Q:=fun _ st'=>SB (tuples' true) (kv.toArray.zip vs.toArray) st'∧Srt (fun x y=>HT.a0F (kOf s.heap x.1) (kOf s.heap y.1)) (arrOf st') 0 (kv.toArray.zip vs.toArray).size) ⟨hstart,rfl,rfl⟩ rfl fun st' a1 a2=>⟨a1,a2⟩) ?_ fun _ _ e=>e)
  rintro ⟨⟨⟩,st'⟩ s' ⟨rfl,hB,hS'⟩
  dsimp only
  refine tail st' hB.perm hB.failed ?_
  rw [List.pairwise_iff_getElem]
  intro i j hi hj hij
  rw [Array.length_toList] at hi hj
  have g:∀ {i:Nat} (h:i < (arrOf st').toList.length),(arrOf st').toList[i]=el (arrOf st') i:=fun {i} h=>by
   have e:=a1f (xs:=arrOf st') (i:=i) (by rw [Array.length_toList] at h;exact h)
   rw [List.getElem?_eq_getElem h] at e
   exact Option.some.inj e
  rw [g,g]
  exact hS' i j (Nat.zero_le _) hij (by rw [←hB.size];exact hj)
end
section
variable {X:Cx} {k:Nat} {Rg:Addr→List V→Hp→VK→Prop} {pins:List (Addr × Obj)} {σ:St} {H:Hp} {a g kS:Addr} {xs:List V} {ks:Nat→List Int} {s:Shared} {P:PySem.Fin→Shared→Prop} {E:Value→Shared→Prop}
theorem a5w {b:Bool} (L:b1I X σ Rg) {vs:List Value} {e1:Nat} (J:Inv X pins σ H s) (ho:s.heap.get? a=some (seqObj "list" #[] e1)) (hS:s.heap.get? kS=some (seqObj "list" #[] 0)) (hne:kS≠a) (fa:∀ H',H' a=none→a5h X pins H' a) (fS:∀ H',H' kS=none→a5h X pins H' kS) (na:H a=none) (nS:H kS=none) (rv:a0A xs vs) (hz:vs.length≤100000)
  (hk:∀ i x H1 Q1,xs[i]?=some x→a0y H H1→(∀ t H2,a0y H1 H2→H2 t=some (.tup ((ks i).map V.int))→Q1 (.ref t) H2)→Rg g [x] H1 Q1) (nn:∀ i,i < vs.length→ks i≠[])
  (h:∀ (s':Shared) (H':Hp) (ps:PsK) (c:Nat),Inv X pins σ H' s'→a0y H H'→H' a=none→ps.Perm (((List.range vs.length).map ks).zip vs)→ps.Pairwise (KOrd b)→s'.heap.get? a=some (seqObj "list" (ps.map Prod.snd).toArray c)→P (.done (.ret .none)) s') :
  wpAny (model X.prog X.w) X.A.in1.in1 (ksk_rest a (.ref g) b vs.toArray e1 (.ref kS)) P E s:=by
 have hl:=rv.length
 unfold ksk_rest
 refine wpAny_bind (wpAny_rule ?_)
 first
  | rw [List.forIn_toArray]
  | (rw [←Array.forIn_toList];simp only [List.toList_toArray])
  | rw [←Array.forIn_toList]
 refine wpAny_bind (ksk_fold (fun i s'=>∃ (Hi:Hp) (ts:List Addr) (e:Nat),Inv X pins σ Hi s'∧a0y H Hi∧Hi a=none∧Hi kS=none∧s'.heap.get? a=some (seqObj "list" #[] e1)∧s'.heap.get? kS=some (seqObj "list" (ts.map Value.ref).toArray e)∧ts.length=i∧∀ j t,ts[j]?=some t→Hi t=some (.tup ((ks j).map V.int))) vs 0 s
  ⟨H,[],0,J,a0y.refl _,na,nS,ho,hS,rfl,fun j t z=>by simp at z⟩ ?step ?done)
 case step =>
  rintro j u s' hu ⟨Hi,ts,e,Ji,sm,nai,nSi,hoi,hSi,lt,hts⟩
  simp only [Nat.zero_add] at lt ⊢
  have hj:j < vs.length:=(List.getElem?_eq_some_iff.mp hu).1
  have hx:xs[j]?=some (xs[j]'(by omega)):=List.getElem?_eq_getElem _
  obtain ⟨u',hu',ru⟩:=rv.get hx
  rw [hu] at hu'
  cases hu'
  have J2:=Ji.pinned (fp:=[a,kS]) (fun b hb=>by
   rcases List.mem_cons.mp hb with rfl | hb
   ·exact fa Hi nai
   ·rw [List.mem_singleton.mp hb];exact fS Hi nSi) (fun b hb=>by
   rcases List.mem_cons.mp hb with rfl | hb
   ·exact ⟨_,hoi,fun v z=>by cases z⟩
   ·rw [List.mem_singleton.mp hb]
    exact ⟨_,hSi,fun v z=>by cases z⟩)
  refine wpAny_bind (wpAny_attempt (wpAny_call (codeAny_mono (L.run _ Hi _ g [u] [xs[j]'(by omega)] (fun v H2=>∃ t,v=.ref t∧a0y Hi H2∧H2 t=some (.tup ((ks j).map V.int))) J2 (.cons ru .nil) (hk _ _ _ _ hx sm fun t H2 s2 h2=>⟨t,rfl,s2,h2⟩)) fun r s3 hq=>?_)))
  cases r with
  | error e=>exact False.elim hq
  | ok fl =>
  cases fl with
  | next=>exact False.elim hq
  | brk=>exact False.elim hq
  | cont=>exact False.elim hq
  | ret uv =>
  obtain ⟨v,H2,J3,rv3,t,rfl,s2,h2⟩:=J2.after hq
  cases rv3
  have pa:=J3.pin (a,_) (List.mem_append_right _ (List.mem_append_right _ (a1I (by simp) hoi)))
  have pS:=J3.pin (kS,_) (List.mem_append_right _ (List.mem_append_right _ (a1I (by simp) hSi)))
  have J4:=J3.unpinned
  obtain ⟨g0,g1,g2,g3,g4,g5⟩:=fS H2 pS.2.1
  obtain ⟨c2,hc2⟩:∃ c2,(s3.heap.update kS (Obj.mapSeq (·.push (.ref t)))).get? kS=some (seqObj "list" ((ts.map Value.ref).toArray.push (.ref t)) c2):=⟨_,get?_update_seq pS.1 (·.push (.ref t))⟩
  try dsimp only
  refine wpAny_bind (listUpdate_at pS.1 rfl ?_ (by simp [sizeLine_eq];omega) (by simp [sizeLine_eq];omega))
  refine wpAny_pure ⟨rfl,H2,ts++[t],c2,J4.turned (t':=s3.toks) (fun b o hb e=>by rw [Heap.get?_update_ne _ _ _ _ hb];exact e) g0 g1 g3 g4 g5,sm.trans s2,pa.2.1,pS.2.1,?_,?_,by simp [lt],fun i t' hi=>?_⟩
  ·rw [Heap.get?_update_ne _ _ _ _ hne.symm];exact pa.1
  ·rw [hc2]
   congr 2
   simp
  ·by_cases z:i < ts.length
   ·rw [List.getElem?_append_left z] at hi
    exact s2 _ _ (hts i t' hi)
   ·have zi:i=j:=by
     have:=(List.getElem?_eq_some_iff.mp hi).1
     rw [List.length_append] at this
     have:i < ts.length+1:=this
     omega
    subst zi
    rw [List.getElem?_append_right (by omega),lt,Nat.sub_self] at hi
    cases hi
    exact h2
 case done =>
  rintro s' ⟨Hi,ts,e,Ji,sm,nai,nSi,hoi,hSi,lt,hts⟩
  rw [Nat.zero_add] at lt
  try dsimp only
  refine wpAny_bind (listItems_at hSi rfl ?_)
  refine a6O (b:=b) (ks:=(List.range vs.length).map ks) hoi hSi hne hz (by rw [List.length_map,lt]) (by simp) (fun i hi=>?_) (fun q hq=>?_) (fun h' p c pm pw hh kp=>?_)
  ·have ht:ts[i]?=some (ts[i]'(by omega)):=List.getElem?_eq_getElem _
   obtain ⟨_,i1,v1,t1⟩:=a1N (show a0w X.prog X.w Hi s'.heap (ts[i]'(by omega)) (.tup ((ks i).map V.int)) from Ji.hok _ _ (hts i _ ht))
   rw [a8j hi,List.getD_eq_getElem?_getD,List.getElem?_map,ht]
   exact ⟨_,_,rfl,t1,by simpa using a1x v1⟩
  ·obtain ⟨i,hi,rfl⟩:=List.mem_map.mp hq
   exact nn i (List.mem_range.mp hi)
  ·have Jf:Inv X pins σ Hi { s' with heap:=h' }:=Ji.turnedL (t':=s'.toks) (L:=[a,kS]) (fun b o hb e=>kp b o (fun z=>hb (by simp [z])) (fun z=>hb (by simp [z])) e) (fun b hb=>by
    rcases List.mem_cons.mp hb with rfl | hb
    ·exact fa Hi nai
    ·rw [List.mem_singleton.mp hb];exact fS Hi nSi)
   exact h _ Hi p c Jf sm nai pm pw hh
end
theorem a3w {α β:Type} {f:α→β}:∀ {l:List β} {m:List α},l.Perm (m.map f)→∃ o:List α,o.Perm m∧l=o.map f
 | [],m,h=>by
  have:=(List.nil_perm.mp h)
  rw [List.map_eq_nil_iff] at this
  exact ⟨[],by rw [this],rfl⟩
 | x :: l,m,h=>by
  obtain ⟨a,ha,e⟩:=List.mem_map.mp (h.mem_iff.mp (.head _))
  obtain ⟨s,t,rfl⟩:=List.append_of_mem ha
  have p1:((s++a :: t).map f).Perm (x :: (s++t).map f):=by
   rw [←e]
   exact (List.perm_middle (a:=a) (l₁:=s) (l₂:=t)).map f
  obtain ⟨o,po,eo⟩:=a3w (List.Perm.cons_inv (h.trans p1))
  exact ⟨a :: o,(po.cons a).trans List.perm_middle.symm,by rw [List.map_cons,←eo,e]⟩
abbrev kwKR (g:Value) (b:Bool):List (Str × Value):=[(Str.ofString "key",g),(Str.ofString "reverse",.bool b)]
def NOrd {α:Type} (b:Bool) (kf:α→List Int) (p q:α):Prop:=if b=true then HT.a0F (kf p) (kf q)=false else HT.a0F (kf q) (kf p)=false
section
variable {X:Cx} {Rg:Addr→List V→Hp→VK→Prop} {pins:List (Addr × Obj)} {σ:St} {H:Hp} {g:Addr} {s:Shared} {Q:VK} {KK:Type} [DecidableEq KK] {knd:HeapKind X.prog X.w KK}
theorem a6P {b:Bool} {d:Addr} {kvs:List (KK × Addr × V)} {kf:KK × Addr × V→List Int} (L:b1I X σ Rg) (hc:X.calm=true) (J:Inv X pins σ H s) (hd:H d=some (NDO knd d kvs)) (hn:kvs.length≤100000)
  (hk:∀ p∈kvs,∀ H1 Q1,a0y H H1→(∀ t H2,a0y H1 H2→H2 t=some (.tup ((kf p).map V.int))→Q1 (.ref t) H2)→Rg g [.ref p.2.1] H1 Q1) (nn:∀ p∈kvs,kf p≠[])
  (q:∀ (d2:Addr) (out:List (KK × Addr × V)) H',a0y H H'→H d2=none→H' d2=some (.lst (out.map fun p=>V.ref p.2.1))→out.Perm kvs→out.Pairwise (NOrd b kf)→Q (.ref d2) H') :
  wpAny (model X.prog X.w) X.A (call (.builtin "sorted") [.ref d] (kwKR (.ref g) b)) (EP X pins σ Q) X.xe s:=by
 have z0:=(show a0w X.prog X.w H s.heap d (NDO knd d kvs) from J.hok d _ hd).1
 obtain ⟨hsy,hl,xs,rel,ob,es,ep,ho,hx,hdat,he,hnd⟩:=id (show NDx knd d kvs s.heap from z0)
 have lx:kvs.length=xs.length:=Paired.length rel
 have sz:es.size=xs.length:=size_of_entries he
 have hkk:es.toList.map (·.key)=kvs.map fun p=>Value.ref p.2.1:=by
  rw [he,List.map_map]
  refine List.ext_getElem (by simp [lx]) fun i h1 h2=>?_
  rw [List.getElem_map,List.getElem_map]
  have hi:i < kvs.length:=by simpa using h2
  obtain ⟨x,hx1,r1,r2,r3⟩:=Paired.right_of rel i _ (List.getElem?_eq_getElem hi)
  rw [List.getElem?_eq_getElem (by omega)] at hx1
  cases hx1
  show Value.ref (xs[i]).2.1=Value.ref (kvs[i]).2.1
  rw [r2]
 refine call_function_entry_kw kind_sorted plain_sorted entry_sorted (ksk_s2 _ _ _) ?_
 unfold Builtin.«sorted»
 refine wpAny_bind (m:=checkCount "sorted" 1 1 _) (wpAny_pure ?_)
 refine wpAny_bind (a4S (J.ok.hd hc) hsy ⟨ob,ho,hx,hdat⟩ (by rw [sz,←lx,sizeLine_eq];omega) fun h1 tk1 k1=>?_)
 rw [hkk]
 generalize eits:(kvs.map fun p=>Value.ref p.2.1)=its
 have er:a0A (kvs.map fun p=>V.ref p.2.1) its:=by
  rw [←eits]
  clear hkk rel hk nn q z0 hd lx hl hn eits
  induction kvs with
  | nil=>exact .nil
  | cons p r ih=>exact .cons rfl ih
 have li:its.length=kvs.length:=by rw [←eits,List.length_map]
 have J1:Inv X pins σ H { s with heap:=h1,toks:=tk1 }:=J.kept k1
 refine wpAny_bind (wpAny_newList ?_ (by show its.length≤sizeLine;rw [sizeLine_eq];omega))
 show wpAny _ _ _ _ _ { s with heap:=h1.push (seqObj "list" its.toArray 0),toks:=tk1 }
 have hoL:(h1.push (seqObj "list" its.toArray 0)).get? h1.objs.size=some (seqObj "list" its.toArray 0):=Heap.get?_push_size _ rfl
 have fl:∀ H',H' h1.objs.size=none→a5h X pins H' h1.objs.size:=fun H' hn'=>J1.fpOk (Nat.le_refl _) hn'
 have nl:H h1.objs.size=none:=J1.hok.fresh (Nat.le_refl _)
 have J2:Inv X pins σ H { s with heap:=h1.push (seqObj "list" its.toArray 0),toks:=tk1 }:=J1.kept fun b o e=>Heap.get?_push_of_some _ e
 refine wpAny_bind (wpAny_holding (wpAny_call_entry_kw slot_list_sort ⟨_,hoL,rfl⟩ entry_list_sort ?_ (ksk_l2 _ _ _)))
 show wpAny (model X.prog X.w) X.A.in1.in1 (Builtin.«list.sort» ⟨[.ref h1.objs.size],[(Str.ofString "key",.ref g),(Str.ofString "reverse",.bool b)]⟩) _ _ _
 rw [ksk_t2]
 unfold ksk_tree
 generalize eh2:h1.push (seqObj "list" its.toArray 0)=h2 at hoL J2 ⊢
 have sz2:h2.objs.size=h1.objs.size+1:=by rw [←eh2];exact Heap.size_push _ _
 obtain ⟨e1,ho1⟩:∃ e1,(h2.update h1.objs.size (Obj.mapSeq fun _=>(#[]:Array Value))).get? h1.objs.size=some (seqObj "list" #[] e1):=⟨_,get?_update_seq hoL fun _=>#[]⟩
 refine wpAny_bind (listItems_at hoL rfl (wpAny_bind (listUpdate_at hoL rfl ?_ (by rw [List.size_toArray,sizeLine_eq];omega) (Nat.zero_le _))))
 refine wpAny_bind (seqEpoch_at ho1 rfl (wpAny_bind (wpAny_newTuple ?_ (by show its.length≤_;rw [sizeLine_eq];omega))))
 refine wpAny_bind (wpAny_newList ?_ (Nat.zero_le _))
 refine wpAny_holding ?_
 obtain ⟨g0,g1,g2,g3,g4,g5⟩:=fl H nl
 have J3:Inv X pins σ H { s with heap:=h2.update h1.objs.size (Obj.mapSeq fun _=>(#[]:Array Value)),toks:=tk1 }:=J2.turned (t':=tk1) (fun b o hb e=>by rw [Heap.get?_update_ne _ _ _ _ hb];exact e) g0 g1 g3 g4 g5
 generalize eh3:h2.update h1.objs.size (Obj.mapSeq fun _=>(#[]:Array Value))=h3 at ho1 J3 ⊢
 have sz3:h3.objs.size=h1.objs.size+1:=by rw [←eh3,Heap.size_update,sz2]
 have J4:Inv X pins σ H { s with heap:=(h3.push (seqObj "tuple" its.toArray 0)).push (seqObj "list" #[] 0),toks:=tk1 }:=J3.kept fun b o e=>Heap.get?_push_of_some _ (Heap.get?_push_of_some _ e)
 have szS:(h3.push (seqObj "tuple" its.toArray 0)).objs.size=h1.objs.size+2:=by rw [show (h3.push (seqObj "tuple" its.toArray 0)).objs.size=h3.objs.size+1 from Heap.size_push _ _,sz3]
 have fS:∀ H',H' (h3.push (seqObj "tuple" its.toArray 0)).objs.size=none→a5h X pins H' (h3.push (seqObj "tuple" its.toArray 0)).objs.size:=fun H' hn'=>J1.fpOk (by show h1.objs.size≤_;rw [szS];omega) hn'
 have kat:∀ {i:Nat} (hi:i < kvs.length),(kvs.map kf).getD i []=kf kvs[i]:=fun {i} hi=>by rw [List.getD_eq_getElem?_getD,List.getElem?_map,List.getElem?_eq_getElem hi];rfl
 refine a5w (b:=b) L (ks:=fun i=>(kvs.map kf).getD i []) (g:=g) (xs:=kvs.map fun p=>V.ref p.2.1) J4 (Heap.get?_push_of_some _ (Heap.get?_push_of_some _ ho1)) (Heap.get?_push_size _ rfl) (by rw [szS];exact Nat.ne_of_gt (Nat.lt_add_of_pos_right (by decide))) fl fS nl (J1.hok.fresh (by show h1.objs.size≤_;rw [szS];omega)) er (by omega) (fun i x H1 Q1 hx sm hq=>?_) (fun i hi=>?_) (fun s' H' ps c J5 sm na pm pw ho=>⟨_,rfl,?_⟩)
 ·have hi:i < kvs.length:=by
   have:=(List.getElem?_eq_some_iff.mp hx).1
   rw [List.length_map] at this
   exact this
  rw [List.getElem?_map,List.getElem?_eq_getElem hi] at hx
  cases hx
  refine hk _ (List.getElem_mem hi) H1 Q1 sm fun t H2 s2 h2=>hq t H2 s2 ?_
  show H2 t=some (.tup (((kvs.map kf).getD i []).map V.int))
  rw [kat hi]
  exact h2
 ·show (kvs.map kf).getD i []≠[]
  rw [kat (by omega)]
  exact nn _ (List.getElem_mem _)
 ·have ez:((List.range its.length).map fun i=>(kvs.map kf).getD i []).zip its=kvs.map fun p=>(kf p,Value.ref p.2.1):=by
   rw [←eits]
   refine List.ext_getElem (by simp) fun i h1 h2=>?_
   have hi:i < kvs.length:=by simpa using h2
   rw [List.getElem_zip,List.getElem_map,List.getElem_map,List.getElem_map,List.getElem_range,kat hi]
  rw [ez] at pm
  obtain ⟨out,po,rfl⟩:=a3w pm
  rw [List.map_map] at ho
  have hv:a0A (out.map fun p=>V.ref p.2.1) (out.map (Prod.snd ∘ fun p:KK × Addr × V=>(kf p,Value.ref p.2.1))):=by
   clear pm ho po pw
   induction out with
   | nil=>exact .nil
   | cons p r ih=>exact .cons rfl ih
  have ok:a0w X.prog X.w (upd H' h1.objs.size (.lst (out.map fun p=>V.ref p.2.1))) s'.heap h1.objs.size (.lst (out.map fun p=>V.ref p.2.1)):=⟨by rw [List.length_map,po.length_eq,sizeLine_eq];omega,_,c,hv,ho⟩
  rw [List.pairwise_map] at pw
  exact wpAny_pure ⟨_,rfl,.ref h1.objs.size,_,J5.adopt (fl H' na) ok,rfl,q _ out _ (sm.trans (a0c na _)) nl a0b po pw⟩
def b1n (knd:HeapKind X.prog X.w KK) (Rg:St→Addr→List V→Hp→VK→Prop) (td:TE) (tk:TA):TE:=fun σ H Q=>td σ H fun x H1=>tk σ H1 fun zs H2=>∃ (d g:Addr) (b:Bool) (kvs:List (KK × Addr × V)) (kf:KK × Addr × V→List Int),x=.ref d∧zs=[.ref g,.bl b]∧H2 d=some (NDO knd d kvs)∧kvs.length≤100000 ∧
 (∀ p∈kvs,∀ H3 Q1,a0y H2 H3→(∀ t H4,a0y H3 H4→H4 t=some (.tup ((kf p).map V.int))→Q1 (.ref t) H4)→Rg σ g [.ref p.2.1] H3 Q1)∧(∀ p∈kvs,kf p≠[]) ∧
 ∀ (d2:Addr) (out:List (KK × Addr × V)) H',a0y H2 H'→H2 d2=none→H' d2=some (.lst (out.map fun p=>V.ref p.2.1))→out.Perm kvs→out.Pairwise (NOrd b kf)→Q (.ref d2) H'
theorem a8n {a e2 e3:Expr} {p pos kpos kpos2:Pos} {td:TE} {tk:TA} {Rg:St→Addr→List V→Hp→VK→Prop} (L:∀ σ,b1I X σ (Rg σ)) (hc:X.calm=true) (hg:Gl X "sorted") (hm:X.mg "sorted"=none) (ha:PE X a td) (hk:PK X [⟨some "key",e2,kpos⟩,⟨some "reverse",e3,kpos2⟩] tk)
  (h1:backTo pos (starEach [a] X.env)=(false,eval a X.env) :: backTo pos (starEach [] X.env):=by rfl)
  (h2:((backTo pos (starEach [a] X.env)).any (·.1))=false:=by rfl) (h3:(backToKw pos (keywordEach [⟨some "key",e2,kpos⟩,⟨some "reverse",e3,kpos2⟩] X.env)).all (·.1.isSome)=true:=by rfl) (h4:(backToKw pos (keywordEach [⟨some "key",e2,kpos⟩,⟨some "reverse",e3,kpos2⟩] X.env)).any (·.1.isNone)=false:=by rfl) (h5:(backToKw pos (keywordEach [⟨some "key",e2,kpos⟩,⟨some "reverse",e3,kpos2⟩] X.env)).filterMap (·.1)=[Str.ofString "key",Str.ofString "reverse"]:=by rfl) :
  PE X (.Call (.Name "sorted" p) [a] [⟨some "key",e2,kpos⟩,⟨some "reverse",e3,kpos2⟩] pos) (b1n knd Rg td tk):=by
 intro pins s σ H Q I h
 refine wpAny_Call_Name_kw (a2S I hg hm a0Y ?_ (by decide) (by decide))
 refine callWith_kw ?_ h1 h2 h3 h4
 rw [h1]
 refine Calls.spliced_cons ?_
 refine thn (ha pins s σ H _ I h) fun u s1 ⟨x,H1,I1,rx,q1⟩=>?_
 refine Calls.spliced_nil ?_
 refine thn (hk pos pins s1 σ H1 _ I1 q1) fun ws s2 ⟨zs,H2,I3,rz,q2⟩=>?_
 rw [h5]
 obtain ⟨d,g,b,kvs,kf,rfl,rfl,hd,hn,hkk,nn,q3⟩:=q2
 cases rx
 cases rz with
 | cons r1 rr =>
  cases rr with
  | cons r2 rr =>
   cases rr
   cases r1
   have r2:=r2
   obtain rfl:=(show _=Value.bool b from r2)
   exact a6P (L σ) hc I3 hd hn hkk nn q3
end
end L2
namespace L2
open PySem PySem.Spec PyProof.Rows PySem.W
abbrev wkO (own:Value) (f:Bool) (d:Addr) (i n ep:Nat) (ok ov:Value):Obj:={ cls:=.type "dict_itemiterator",dict:=none,data:=.fields #[own,.bool f,.ref d,.int i 0,.int n 0,.int ep 0,ok,ov],slots:=#[] }
abbrev p2O (k v:Value):Obj:={ cls:=.type "tuple",data:=.seq #[k,v] }
def ItS (h:Heap) (it d S:Addr) (i n ep:Nat):Prop:=∃ own f ok ov,h.get? it=some (wkO own f d i n ep ok ov)∧(own=.none∨∃ (a:Addr) (oa:Obj),own=rawInt a∧h.get? a=some oa∧a≠it∧a≠S)
theorem ItS.keep {h h':Heap} {it d S:Addr} {i n ep:Nat} (x:ItS h it d S i n ep) (hk:∀ b o,b≠S→h.get? b=some o→h'.get? b=some o) (hI:it≠S):ItS h' it d S i n ep:=by
 obtain ⟨own,f,ok,ov,e,r⟩:=x
 exact ⟨own,f,ok,ov,hk _ _ hI e,r.imp id fun ⟨a,oa,e1,e2,e3,e4⟩=>⟨a,oa,e1,hk _ _ e4 e2,e3,e4⟩⟩
section
variable {prog:Program} {w:World} {A:Around} {E:Value→Shared→Prop} {s:Shared} {it d S:Addr} {i n ep:Nat} {es:Array DictEntry}
theorem a9x {k v:Value} {Q:Value→Shared→Prop} (st:ItS s.heap it d S i n ep) (hS:S < s.heap.objs.size)
  (hQ:∀ h',ItS h' it d S i n ep→h'.get? s.heap.objs.size=some (p2O k v)→h'.objs.size=s.heap.objs.size+1→(∀ b o,b≠it→s.heap.get? b=some o→h'.get? b=some o)→Q (.ref s.heap.objs.size) { s with heap:=h' }) :
  wpAny (model prog w) A (Builtin.Dict_items.pairFromOwner (.ref it) 6 k v) Q E s:=by
 obtain ⟨own,f,ok,ov,hit,r⟩:=st
 have il:=Heap.lt_size hit
 unfold Builtin.Dict_items.pairFromOwner
 refine wpAny_bind (wpAny_newTuple ?_)
 have e2:(s.heap.push (p2O k v)).get? it=some (wkO own f d i n ep ok ov):=Heap.get?_push_of_some _ hit
 have t2:(s.heap.push (p2O k v)).get? s.heap.objs.size=some (p2O k v):=Heap.get?_push_size _ rfl
 have z2:(s.heap.push (p2O k v)).objs.size=s.heap.objs.size+1:=Heap.size_push _ _
 have k2:∀ b o,s.heap.get? b=some o→(s.heap.push (p2O k v)).get? b=some o:=fun b o e=>Heap.get?_push_of_some _ e
 show wpAny _ _ (Builtin.Dict_items.ownedTupleIsFree (.ref it) >>= _) _ _ { s with heap:=s.heap.push (p2O k v) }
 generalize s.heap.push (p2O k v)=h2 at e2 t2 z2 k2 ⊢
 have nt:s.heap.objs.size≠it:=Nat.ne_of_gt il
 refine wpAny_bind ?_
 unfold Builtin.Dict_items.ownedTupleIsFree
 rcases r with rfl | ⟨a,oa,rfl,ha,hai,haS⟩
 ·refine wpAny_bind (wpAny_field e2 rfl (x:=.none) rfl (wpAny_pure ?_))
  simp only [if_true]
  refine wpAny_bind (wpAny_field e2 rfl (x:=ok) rfl (wpAny_bind (wpAny_field e2 rfl (x:=ov) rfl ?_)))
  refine wpAny_bind (wpAny_setField_rec e2 (by simp) fun h3 (e3:h3.get? it=some (wkO .none f d i n ep k ov)) (s3:Heap.SameBut it h2 h3)=>?_)
  refine wpAny_bind (wpAny_setField_rec e3 (by simp) fun h4 (e4:h4.get? it=some (wkO .none f d i n ep k v)) (s4:Heap.SameBut it h3 h4)=>?_)
  refine wpAny_bind (wpAny_setField_rec e4 (by simp) fun h5 (e5:h5.get? it=some (wkO (rawInt s.heap.objs.size) f d i n ep k v)) (s5:Heap.SameBut it h4 h5)=>?_)
  refine wpAny_bind (wpAny_setField_rec e5 (by simp) fun h6 (e6:h6.get? it=some (wkO (rawInt s.heap.objs.size) false d i n ep k v)) (s6:Heap.SameBut it h5 h6)=>?_)
  have up:∀ b o,b≠it→h2.get? b=some o→h6.get? b=some o:=fun b o nb e=>s6.extBut b o nb (s5.extBut b o nb (s4.extBut b o nb (s3.extBut b o nb e)))
  exact wpAny_bind (wpAny_letGo (wpAny_pure (hQ h6 ⟨_,_,_,_,e6,.inr ⟨_,_,rfl,up _ _ nt t2,nt,Nat.ne_of_gt hS⟩⟩ (up _ _ nt t2) (by rw [s6.1,s5.1,s4.1,s3.1,z2]) fun b o nb e=>up b o nb (k2 b o e))))
 ·refine wpAny_bind (wpAny_field e2 rfl (x:=rawInt a) rfl ?_)
  show wpAny _ _ (loadIfAlive ((a:Int).toNat) >>= _) _ _ _
  rw [Int.toNat_natCast]
  refine wpAny_bind (kdx_alive (k2 _ _ ha) ?_)
  simp only [Option.isNone_some,Bool.false_eq_true,if_false]
  refine wpAny_bind (wpAny_field e2 rfl (x:=.bool f) rfl ?_)
  cases f with
  | true =>
   rw [if_neg (show ¬ ((Value.bool true != Value.bool true)=true) by decide)]
   refine wpAny_pure ?_
   simp only [Bool.false_eq_true,if_false]
   exact wpAny_pure (hQ h2 ⟨_,_,_,_,e2,.inr ⟨a,oa,rfl,k2 _ _ ha,hai,haS⟩⟩ t2 z2 fun b o _ e=>k2 b o e)
  | false =>
   rw [if_pos (show (Value.bool false != Value.bool true)=true by decide)]
   refine wpAny_bind (wpAny_setField_rec e2 (by simp) fun h3 (e3:h3.get? it=some (wkO (rawInt a) true d i n ep ok ov)) (s3:Heap.SameBut it h2 h3)=>?_)
   refine wpAny_pure ?_
   simp only [Bool.false_eq_true,if_false]
   exact wpAny_pure (hQ h3 ⟨_,_,_,_,e3,.inr ⟨a,oa,rfl,s3.extBut _ _ hai (k2 _ _ ha),hai,haS⟩⟩ (s3.extBut _ _ nt t2) (by rw [s3.1,z2]) fun b o nb e=>s3.extBut b o nb (k2 b o e))
theorem a8o {e:DictEntry} {Q:Option Value→Shared→Prop} (st:ItS s.heap it d S i es.size ep) (hS:S < s.heap.objs.size) (hSi:it≠S) (hm:a2n s.heap d es ep) (hx:es[i]?=some e)
  (hQ:∀ h',ItS h' it d S (i+1) es.size ep→h'.get? s.heap.objs.size=some (p2O e.key e.val)→h'.objs.size=s.heap.objs.size+1→(∀ b o,b≠it→s.heap.get? b=some o→h'.get? b=some o)→Q (some (.ref s.heap.objs.size)) { s with heap:=h' }) :
  wpAny (model prog w) A (pyNext (.ref it)) Q E s:=by
 obtain ⟨own,f,ok,ov,hit,r⟩:=st
 obtain ⟨od,hod,hcd,hdd⟩:=hm
 have T0:s.TypeIs (.ref it) "dict_itemiterator":=⟨_,hit,rfl⟩
 have il:i < es.size:=(Array.getElem?_eq_some_iff.mp hx).1
 unfold pyNext
 refine wpAny_bind (wpAny_attempt (wpAny_callSpecial?_slot (name:=Str.ofString "__next__") T0 F.slot_dict_itemiterator_next (wpAny_call_entry F.slot_dict_itemiterator_next T0 F.entry_dict_itemiterator_next ?_ (F.args_dict_itemiterator_next_1 _))))
 refine wpAny_bind (wpAny_pure (wpAny_bind (wpAny_bind ?_)))
 first
  | refine wpAny_bind (wpAny_typeNameOfWhole_itemiter T0 (wpAny_pure ?_))
  | refine wpAny_bind (wpAny_typeNameOf_itemiter T0 (wpAny_pure ?_))
 refine wpAny_bind (wpAny_fieldsOf hit rfl ?_)
 simp only [show Builtin.Dict_items.ownsTuple "dict_itemiterator"=true by decide,if_true]
 show wpAny _ _ (if (Value.ref d == Value.none)=true then _ else _) _ _ _
 rw [if_neg (show ¬ ((Value.ref d == Value.none)=true) by intro z;cases z)]
 refine wpAny_bind (wpAny_pure (wpAny_bind (wpAny_dictEntries hod hdd ?_)))
 rw [if_neg (by simp)]
 refine wpAny_bind (wpAny_pure (wpAny_bind (wpAny_dictEpoch hod hdd ?_)))
 rw [if_neg (by simp)]
 refine wpAny_pure ?_
 have ee:es[i]=e:=by rw [Array.getElem?_eq_getElem il] at hx;exact Option.some.inj hx
 simp only [show ¬ ((i:Int) < 0) by omega,if_false,Int.toNat_natCast,hx]
 refine wpAny_bind ?_
 first
  | refine wpAny_bind (wpAny_typeNameOfWhole_itemiter T0 (wpAny_pure ?_))
  | refine wpAny_bind (wpAny_typeNameOf_itemiter T0 (wpAny_pure ?_))
 refine wpAny_bind (wpAny_isOneOf_itemiter T0 ?_)
 show wpAny _ _ (setField (.ref it) 3 (rawInt ((i:Int)+1)) >>= _) _ _ _
 refine wpAny_bind (wpAny_setField_rec hit (by simp) fun h1 e1 (s1:Heap.SameBut it s.heap h1)=>?_)
 have e1:h1.get? it=some (wkO own f d (i+1) es.size ep ok ov):=by
  have q:((i+1:Nat):Int)=(i:Int)+1:=by omega
  show h1.get? it=some { cls:=.type "dict_itemiterator",dict:=none,data:=.fields #[own,.bool f,.ref d,.int ((i+1:Nat):Int) 0,.int es.size 0,.int ep 0,ok,ov],slots:=#[] }
  rw [q]
  simpa [rawInt] using e1
 have T1:Shared.TypeIs { s with heap:=h1 } (.ref it) "dict_itemiterator":=⟨_,e1,rfl⟩
 refine wpAny_bind (wpAny_holding (wpAny_bind (wpAny_isOneOf_itemiter T1 ?_)))
 refine wpAny_bind (wpAny_isOneOf_itemiter T1 ?_)
 show wpAny _ _ (Builtin.Dict_items.pairFromOwner (.ref it) 6 e.key e.val) _ _ { s with heap:=h1 }
 have z1:h1.objs.size=s.heap.objs.size:=s1.1
 have st1:ItS h1 it d S (i+1) es.size ep:=⟨own,f,ok,ov,e1,r.imp id fun ⟨a,oa,q1,q2,q3,q4⟩=>⟨a,oa,q1,s1.extBut _ _ q3 q2,q3,q4⟩⟩
 refine a9x (s:={ s with heap:=h1 }) st1 (by show S < h1.objs.size;rw [z1];exact hS) fun h' st' t' z' k'=>?_
 have t':h'.get? h1.objs.size=some (p2O e.key e.val):=t'
 have z':h'.objs.size=h1.objs.size+1:=z'
 rw [z1] at t' z'
 show wpAny _ _ _ _ _ _
 rw [show (({ s with heap:=h1 }:Shared).heap.objs.size)=s.heap.objs.size from z1]
 exact wpAny_pure ⟨_,rfl,wpAny_pure (hQ h' st' t' z' fun b o nb q=>k' b o nb (s1.extBut b o nb q))⟩
theorem a8p {Q:Option Value→Shared→Prop} (hh:A.handled=none) (st:ItS s.heap it d S i es.size ep) (hm:a2n s.heap d es ep) (hx:es.size≤i) (hQ:∀ h',Heap.ExtBut it s.heap h'→Q none { s with heap:=h' }):wpAny (model prog w) A (pyNext (.ref it)) Q E s:=by
 obtain ⟨own,f,ok,ov,hit,r⟩:=st
 obtain ⟨od,hod,hcd,hdd⟩:=hm
 have T0:s.TypeIs (.ref it) "dict_itemiterator":=⟨_,hit,rfl⟩
 unfold pyNext
 refine wpAny_bind (wpAny_attempt (wpAny_callSpecial?_slot (name:=Str.ofString "__next__") T0 F.slot_dict_itemiterator_next (wpAny_call_entry F.slot_dict_itemiterator_next T0 F.entry_dict_itemiterator_next ?_ (F.args_dict_itemiterator_next_1 _))))
 refine wpAny_bind (wpAny_pure (wpAny_bind (wpAny_bind ?_)))
 first
  | refine wpAny_bind (wpAny_typeNameOfWhole_itemiter T0 (wpAny_pure ?_))
  | refine wpAny_bind (wpAny_typeNameOf_itemiter T0 (wpAny_pure ?_))
 refine wpAny_bind (wpAny_fieldsOf hit rfl ?_)
 simp only [show Builtin.Dict_items.ownsTuple "dict_itemiterator"=true by decide,if_true]
 show wpAny _ _ (if (Value.ref d == Value.none)=true then _ else _) _ _ _
 rw [if_neg (show ¬ ((Value.ref d == Value.none)=true) by intro z;cases z)]
 refine wpAny_bind (wpAny_pure (wpAny_bind (wpAny_dictEntries hod hdd ?_)))
 rw [if_neg (by simp)]
 refine wpAny_bind (wpAny_pure (wpAny_bind (wpAny_dictEpoch hod hdd ?_)))
 rw [if_neg (by simp)]
 refine wpAny_pure ?_
 simp only [show ¬ ((i:Int) < 0) by omega,if_false,Int.toNat_natCast,Array.getElem?_eq_none hx]
 refine wpAny_bind ?_
 first
  | refine wpAny_bind (wpAny_typeNameOfWhole_itemiter T0 (wpAny_pure ?_))
  | refine wpAny_bind (wpAny_typeNameOf_itemiter T0 (wpAny_pure ?_))
 show wpAny _ _ (setField (.ref it) 2 .none >>= _) _ _ s
 refine wpAny_bind (wpAny_setField hit rfl (by simp) ?_)
 show wpAny _ _ (newExc (.type "StopIteration") [] >>= _) _ _ _
 refine wpAny_bind ?_
 simp only [newExc,newTuple]
 refine wpAny_bind (wpAny_newObj_type ?_ (by size_fits))
 refine wpAny_bind (m:=firstArgMember _ _) (wpAny_of_eq (a:=Value.none) (by first | rfl | (simp only [firstArgMember];rfl)) ?_)
 refine wpAny_newObj_type ?_ (by size_fits)
 simp only [raiseNew]
 refine wpAny_bind (wpAny_handled ?_)
 rw [show A.in1.handled=none from hh]
 refine wpAny_bind (wpAny_pure (wpAny_throw ?_))
 refine wpAny_bind (wpAny_isInstance (T:="StopIteration") (b:=true) ⟨_,Heap.get?_push_size _ rfl,rfl⟩ isSubtype_stop ?_)
 exact wpAny_pure (hQ _ (((Heap.SameBut.update ..).extBut.push _).push _))
structure a5x (es:Array DictEntry) (lo:Addr) (h:Heap) (as:List Addr):Prop where
 nd:as.Pairwise (· < ·)
 ab:∀ a∈as,lo < a
 at_:∀ (j:Nat) (a:Addr),as[j]?=some a→∃ e,es[j]?=some e∧h.get? a=some (p2O e.key e.val)
theorem a5x.lt {lo:Addr} {h:Heap} {as:List Addr} (g:a5x es lo h as) {a:Addr} (ha:a∈as):a < h.objs.size:=by
 obtain ⟨j,hj⟩:=List.getElem?_of_mem ha
 obtain ⟨_,_,e⟩:=g.at_ j a hj
 exact Heap.lt_size e
end
section
variable {prog:Program} {w:World} {A:Around} {s:Shared} {R:Result→Shared→Prop} {ep:Nat} {es:Array DictEntry}
theorem a3R {S I d:Addr} (hh:A.handled=none) (hSI:S < I) (hSd:d≠S) (hId:d≠I) (hn:es.size≤sizeLine) (res:Value) {h1:Heap}
  (hR:∀ h' tk acc c as,(∀ b o,b≠S→b≠I→h1.get? b=some o→h'.get? b=some o)→h'.get? S=some { cls:=.type "list",dict:=none,data:=.seq acc c,slots:=#[] }→as.length=es.size→a5x es I h' as→acc.toList=as.map Value.ref→R (.ok (.ret res)) { s with heap:=h',toks:=tk }) :
  ∀ (k i:Nat) (h:Heap) (tk c:Nat) (acc:Array Value) (as:List Addr),es.size - i=k→i≤es.size→ItS h I d S i es.size ep→a2n h d es ep→(∀ b o,b≠S→b≠I→h1.get? b=some o→h.get? b=some o) →
   h.get? S=some { cls:=.type "list",dict:=none,data:=.seq acc c,slots:=#[] }→acc.toList=as.map Value.ref→as.length=i→a5x es I h as →
   codeAny (model prog w) A (.builtin "list.extend.loop" ⟨[.ref S,.ref I,res],[]⟩) R { s with heap:=h,toks:=tk }
 | 0,i,h,tk,c,acc,as,hk,hi,st,hm,kp,hS,ha,hl,g=>by
  refine codeAny_builtin F.entry_extend_loop ?_
  rw [Around.under_plainId F.plain_extend_loop _]
  show wpAny _ A.in1 (pyNext (.ref I) >>= _) _ _ _
  refine wpAny_bind (a8p (s:={ s with heap:=h,toks:=tk }) (A:=A.in1) hh st hm (by omega) fun h' ke=>?_)
  refine wpAny_pure (hR h' tk acc c as (fun b o n1 n2 e=>ke b o n2 (kp b o n1 n2 e)) (ke S _ (Nat.ne_of_lt hSI) hS) (by omega) ⟨g.nd,g.ab,fun j a hj=>?_⟩ ha)
  obtain ⟨e,q1,q2⟩:=g.at_ j a hj
  exact ⟨e,q1,ke a _ (Nat.ne_of_gt (g.ab a (List.mem_of_getElem? hj))) q2⟩
 | k+1,i,h,tk,c,acc,as,hk,hi,st,hm,kp,hS,ha,hl,g=>by
  have il:i < es.size:=by omega
  have hsz:acc.size=i:=by rw [←Array.length_toList,ha,List.length_map,hl]
  have Sl:S < h.objs.size:=Heap.lt_size hS
  have Il:I < h.objs.size:=by obtain ⟨_,_,_,_,q,_⟩:=st;exact Heap.lt_size q
  refine codeAny_builtin F.entry_extend_loop ?_
  rw [Around.under_plainId F.plain_extend_loop _]
  show wpAny _ A.in1 (pyNext (.ref I) >>= _) _ _ _
  refine wpAny_bind (a8o (s:={ s with heap:=h,toks:=tk }) (S:=S) st Sl (Nat.ne_of_gt hSI) hm (Array.getElem?_eq_getElem il) fun h' st' ht hz kn=>?_)
  dsimp only at ht hz kn ⊢
  have hS':=kn S _ (Nat.ne_of_lt hSI) hS
  have up:∀ b o,b≠S→h'.get? b=some o→(h'.update S (Obj.mapSeq (·.push (Value.ref h.objs.size)))).get? b=some o:=fun b o nb e=>(Heap.get?_update_other _ _ (Ne.symm nb)).trans e
  have hm':a2n (h'.update S (Obj.mapSeq (·.push (Value.ref h.objs.size)))) d es ep:=hm.at fun o e=>up d o hSd (kn d o hId e)
  show wpAny _ A.in1 (updateSeq S (·.push (Value.ref h.objs.size)) >>= _) _ _ _
  refine wpAny_bind (wpAny_updateSeq hS' rfl (wpAny_pure ⟨plainId_quiet F.plain_extend_loop _,a3R hh hSI hSd hId hn res hR k (i+1) _ tk _ (acc.push (Value.ref h.objs.size)) (as++[h.objs.size]) (by omega) il (st'.keep up (Nat.ne_of_gt hSI)) hm' (fun b o n1 n2 e=>up b o n1 (kn b o n2 (kp b o n1 n2 e))) (Heap.get?_update_self _ hS' rfl) (by rw [Array.toList_push,ha,List.map_append];rfl) (by rw [List.length_append,hl];rfl) ⟨?_,fun a hx=>?_,fun j a hj=>?_⟩⟩) (by rw [hsz];omega) (by rw [Array.size_push,hsz];omega))
  ·refine List.pairwise_append.mpr ⟨g.nd,List.pairwise_singleton _ _,fun a hx b hb=>?_⟩
   rw [List.mem_singleton.mp hb]
   exact g.lt hx
  ·rcases List.mem_append.mp hx with hx | hx
   ·exact g.ab a hx
   ·rw [List.mem_singleton.mp hx];exact Il
  ·by_cases z:j < as.length
   ·rw [List.getElem?_append_left z] at hj
    obtain ⟨e,q1,q2⟩:=g.at_ j a hj
    have gt:=g.ab a (List.mem_of_getElem? hj)
    exact ⟨e,q1,up a _ (Nat.ne_of_gt (Nat.lt_trans hSI gt)) (kn a _ (Nat.ne_of_gt gt) q2)⟩
   ·have zj:j=i:=by
     have:=(List.getElem?_eq_some_iff.mp hj).1
     rw [List.length_append] at this
     have:j < as.length+1:=this
     omega
    rw [List.getElem?_append_right (by omega),zj,hl,Nat.sub_self] at hj
    cases hj
    exact ⟨es[i],by rw [zj];exact Array.getElem?_eq_getElem il,up _ _ (Nat.ne_of_gt Sl) ht⟩
end
section
variable {prog:Program} {w:World} {A:Around} {E:Value→Shared→Prop} {s:Shared} {R:Result→Shared→Prop} {ep:Nat} {es:Array DictEntry} {r d:Addr}
theorem a4W (hh:A.handled=none) (hv:s.heap.IsItemsView r d) (hm:a2n s.heap d es ep) (S:Addr) (hSr:S≠r) (hSd:d≠S) (res:Value) (c0:Nat) (hS:s.heap.get? S=some { cls:=.type "list",data:=.seq #[] c0 }) (hn:es.size≤sizeLine)
  (hR:∀ h' tk acc c as,(∀ b o,b≠S→s.heap.get? b=some o→h'.get? b=some o)→h'.get? S=some { cls:=.type "list",dict:=none,data:=.seq acc c,slots:=#[] }→as.length=es.size→a5x es s.heap.objs.size h' as→acc.toList=as.map Value.ref→R (.ok (.ret res)) { s with heap:=h',toks:=tk }) :
  wpAny (model prog w) A.in1 (Builtin.List.listExtendWith (.ref S) (.ref r) res)
   (fun fin s'=>match fin with | .done f=>R (.ok f) s' | .again c'=>c'.quiet=true∧codeAny (model prog w) A c' R s') (fun e s'=>R (.error e) s') s:=by
 have Sl:S < s.heap.objs.size:=Heap.lt_size hS
 have dl:d < s.heap.objs.size:=by obtain ⟨o,ho,_⟩:=hm;exact Heap.lt_size ho
 obtain ⟨vo,hvo,hvc,hvd⟩:=id hv
 have go:∀ (h:Heap) (c1 tk:Nat),(∀ b o,b≠S→(s.heap.push (wkO .none false d 0 es.size ep .none .none)).get? b=some o→h.get? b=some o)→h.get? S=some { cls:=.type "list",data:=.seq #[] c1 }→codeAny (model prog w) A (.builtin "list.extend.loop" ⟨[.ref S,.ref s.heap.objs.size,res],[]⟩) R { s with heap:=h,toks:=tk }:=fun h c1 tk kp hS1=>by
  have hI:=kp s.heap.objs.size _ (Nat.ne_of_gt Sl) (Heap.get?_push_size _ rfl)
  exact a3R (s:=s) (h1:=s.heap) hh Sl hSd (Nat.ne_of_lt dl) hn res (fun h' tk' acc c as k' hS' hl g ha=>hR h' tk' acc c as (fun b o nb e=>k' b o nb (Nat.ne_of_lt (Heap.lt_size e)) e) hS' hl g ha)
   es.size 0 h tk c1 #[] [] (Nat.sub_zero _) (Nat.zero_le _) ⟨_,_,_,_,hI,.inl rfl⟩ (hm.at fun o e=>kp d o hSd (Heap.get?_push_of_some _ e)) (fun b o nb _ e=>kp b o nb (Heap.get?_push_of_some _ e)) hS1 rfl rfl ⟨.nil,fun a ha=>(by cases ha),fun j a hj=>(by simp at hj)⟩
 unfold Builtin.List.listExtendWith
 refine wpAny_bind (wpAny_typeOf (T:="dict_items") hv.typeIs ?_)
 simp only [show Builtin.List.listSameRef (.ref S) (.ref r)=false by simp [Builtin.List.listSameRef,hSr],show (Value.type "dict_items" == Value.type "list")=false by decide,show (Value.type "dict_items" == Value.type "tuple")=false by decide,Bool.or_false,Bool.false_eq_true,if_false]
 obtain ⟨od,hod,hcd,hdd⟩:=id hm
 refine wpAny_bind (wpAny_pyIter_slot hv.typeIs F.slot_dict_items_iter (wpAny_call_entry F.slot_dict_items_iter hv.typeIs F.entry_dict_items_iter ?_ (F.args_dict_items_iter_1 _)))
 unfold Builtin.«dict_items.__iter__»
 refine wpAny_bind (wpAny_pure (wpAny_bind ?_))
 unfold Builtin.Dict_items.dictOf
 refine wpAny_bind (wpAny_field hvo hvd (x:=.ref d) rfl (wpAny_pure (wpAny_bind ?_)))
 unfold Builtin.Dict_items.newIterator
 refine wpAny_bind (wpAny_dictEntries hod hdd (wpAny_bind (wpAny_dictEpoch hod hdd ?_)))
 simp only [show Builtin.Dict_items.ownsTuple "dict_itemiterator"=true by decide,if_true]
 refine wpAny_newObj_type (wpAny_pure ⟨_,rfl,"dict_itemiterator",_,⟨_,Heap.get?_push_size _ rfl,rfl⟩,F.slot_dict_itemiterator_next.lookup,?_⟩) (by simp only [sizeOk,Builtin.Dict_items.ownedTupleFields,List.size_toArray,List.length_append,List.length_cons,List.length_nil,sizeLine_eq];omega)
 show wpAny _ _ _ _ _ { s with heap:=s.heap.push (wkO .none false d 0 es.size ep .none .none) }
 have hS1:(s.heap.push (wkO .none false d 0 es.size ep .none .none)).get? S=some { cls:=.type "list",data:=.seq #[] c0 }:=Heap.get?_push_of_some _ hS
 refine wpAny_bind (wpAny_holding (kdx_hint ⟨vo,Heap.get?_push_of_some _ hvo,hvc⟩ ?_))
 refine wpAny_ite_split (fun _=>?_) (fun _=>wpAny_pure ⟨plainId_quiet F.plain_extend_loop _,go _ c0 _ (fun b o _ e=>e) hS1⟩)
 refine wpAny_bind (wpAny_rule (wpAny_bind ?_))
 show wpAny _ _ (updateSeq S (·.push .none) >>= fun _=>updateSeq S (·.pop)) _ _ _
 refine wpAny_bind (wpAny_updateSeq hS1 rfl ?_)
 have hS2:=Heap.get?_update_self (Obj.mapSeq (·.push Value.none)) hS1 rfl
 refine wpAny_updateSeq (hz:=by seq_fits) hS2 rfl ?_
 have hS3:=Heap.get?_update_self (Obj.mapSeq (·.pop)) hS2 rfl
 exact wpAny_pure ⟨plainId_quiet F.plain_extend_loop _,go _ _ _ (fun b o nb e=>(Heap.get?_update_other _ _ (Ne.symm nb)).trans ((Heap.get?_update_other _ _ (Ne.symm nb)).trans e)) hS3⟩
theorem a4u {Q:List Value→Shared→Prop} (hh:A.handled=none) (hv:s.heap.IsItemsView r d) (hm:a2n s.heap d es ep) (hn:es.size≤sizeLine)
  (h:∀ h' tk as,(∀ b o,s.heap.get? b=some o→h'.get? b=some o)→as.length=es.size→a5x es s.heap.objs.size h' as→Q (as.map Value.ref) { s with heap:=h',toks:=tk }):wpAny (model prog w) A (collect (.ref r)) Q E s:=by
 have rl:r < s.heap.objs.size:=by obtain ⟨_,ho,_⟩:=hv;exact Heap.lt_size ho
 have dl:d < s.heap.objs.size:=by obtain ⟨o,ho,_⟩:=hm;exact Heap.lt_size ho
 unfold collect
 refine wpAny_bind (wpAny_runValue (codeAny_builtin F.entry_proto_collect ?_))
 rw [Around.under_plainId F.plain_proto_collect _]
 show wpAny _ A.in1 (newList [] >>= fun l=>again (.builtin "list.__iadd__" ⟨[l,.ref r],[]⟩)) _ _ s
 refine wpAny_bind (wpAny_newObj_type ?_)
 refine wpAny_pure ⟨plainId_quiet F.plain_list_iadd _,codeAny_builtin F.entry_list_iadd ?_⟩
 rw [Around.under_plainId F.plain_list_iadd _]
 show wpAny _ A.in1 (Builtin.List.listExtendWith (.ref s.heap.objs.size) (.ref r) (.ref s.heap.objs.size)) _ _ _
 have hS0:(s.heap.push { cls:=.type "list",data:=.seq #[] }).get? s.heap.objs.size=some { cls:=.type "list",data:=.seq #[] }:=Heap.get?_push_size _ rfl
 have fin:∀ s':Shared,(∃ acc c as,s'.heap.get? s.heap.objs.size=some { cls:=.type "list",dict:=none,data:=.seq acc c,slots:=#[] }∧acc.toList=List.map Value.ref as∧Q (as.map Value.ref) s') →
   wpAny (model prog w) A (match Value.ref s.heap.objs.size with
    | .ref a=>do
     let o ←load a
     match o.data with
     | .seq xs _=>pure xs.toList
     | _=>unsupported "internal:collect"
    | _=>unsupported "internal:collect") Q E s':=fun s' ⟨acc,c,as,hS,ea,q⟩=>by
  show wpAny _ A (load s.heap.objs.size >>= _) _ _ _
  refine wpAny_bind (wpAny_load hS (wpAny_pure ?_))
  show Q acc.toList _
  rw [ea]
  exact q
 refine wpAny_mono (a4W (s:={ s with heap:=s.heap.push { cls:=.type "list",data:=.seq #[] } }) (A:=A)
  (R:=fun r s'=>r=.ok (.ret (.ref s.heap.objs.size))∧∃ acc c as,s'.heap.get? s.heap.objs.size=some { cls:=.type "list",dict:=none,data:=.seq acc c,slots:=#[] }∧acc.toList=List.map Value.ref as∧Q (as.map Value.ref) s')
  hh (let ⟨o,ho,x⟩:=hv;⟨o,Heap.get?_push_of_some _ ho,x⟩) (hm.at fun o e=>Heap.get?_push_of_some _ e) s.heap.objs.size (Nat.ne_of_gt rl) (Nat.ne_of_lt dl) (.ref s.heap.objs.size) 0 hS0 hn (fun h' tk acc c as kp hS hl g ha=>⟨rfl,acc,c,as,hS,ha,?_⟩)) (fun fn s' hz=>?_) (fun e s' hz=>?_)
 ·refine h h' tk as (fun b o e=>kp b o (Nat.ne_of_lt (Heap.lt_size e)) (Heap.get?_push_of_some _ e)) hl ⟨g.nd,fun a ha=>?_,g.at_⟩
  have:=g.ab a ha
  have z:(s.heap.push { cls:=.type "list",data:=.seq #[] }).objs.size=s.heap.objs.size+1:=Heap.size_push _ _
  show s.heap.objs.size < a
  exact Nat.lt_of_le_of_lt (Nat.le_succ _) (show s.heap.objs.size+1 < a by rw [←z];exact this)
 ·rcases fn with f | c'
  ·obtain ⟨e,z⟩:=hz
   cases e
   exact fin s' z
  ·refine ⟨hz.1,codeAny_mono hz.2 fun q s2 y=>?_⟩
   obtain ⟨rfl,z⟩:=y
   exact fin s2 z
 ·obtain ⟨e',_⟩:=hz
  cases e'
end
def PiN (h:Heap) (v:Value) (q:(Int × List Int) × Int):Prop:=∃ (b:Addr) (items:Array Value) (a:Addr) (t:Tok),v=.ref b∧IsTup h b items∧items.toList=[.ref a,.int q.2 t]∧PrN h (.ref a) q.1
theorem PiN.inj {h:Heap} {v:Value} {p q:(Int × List Int) × Int} (t1:PiN h v p) (t2:PiN h v q):p=q:=by
 obtain ⟨b,items,a,t,rfl,⟨o,ho,hc,n,hd⟩,hi,hu⟩:=t1
 obtain ⟨b2,items2,a2,t',e,⟨o2,ho2,hc2,n2,hd2⟩,hi2,hu2⟩:=t2
 cases e
 rw [ho] at ho2
 cases ho2
 rw [hd] at hd2
 cases hd2
 rw [hi] at hi2
 obtain ⟨h1,h2⟩:=List.cons.inj hi2
 obtain ⟨h2,_⟩:=List.cons.inj h2
 have ea:a=a2:=Value.ref.inj h1
 have e2:p.2=q.2:=(Value.int.inj h2).1
 subst ea
 exact Prod.ext (hu.inj hu2) e2
theorem PiN.keep {h h':Heap} {v:Value} {q:(Int × List Int) × Int} {a:Addr} {o:Obj} (t:PiN h v q) (ho:h.get? a=some o) (hc:o.cls=.type "list") (k:∀ b o,b≠a→h.get? b=some o→h'.get? b=some o):PiN h' v q:=by
 obtain ⟨b,items,c,tk,rfl,⟨ob,hb,hcb,n,hd⟩,hi,hu⟩:=t
 have ne:b≠a:=fun z=>by rw [z,ho] at hb;cases hb;rw [hc] at hcb;exact absurd (Value.type.inj hcb) (by decide)
 exact ⟨b,items,c,tk,rfl,⟨ob,k b ob ne hb,hcb,n,hd⟩,hi,hu.keep ho hc k⟩
theorem PiN.keep2 {h h':Heap} {v:Value} {q:(Int × List Int) × Int} (t:PiN h v q) (k:∀ b o,h.get? b=some o→h'.get? b=some o):PiN h' v q:=by
 obtain ⟨b,items,c,tk,rfl,⟨ob,hb,hcb,n,hd⟩,hi,hu⟩:=t
 exact ⟨b,items,c,tk,rfl,⟨ob,k b ob hb,hcb,n,hd⟩,hi,hu.keep2 k⟩
theorem a3S {prog:Program} {w:World}:∀ {vs:List Value} {ns:List Int},IntsAre vs ns→ItemsAre (intKind prog w) ns vs
 | [],_,h=>by cases h;exact .nil
 | v :: vs,_,h=>by
  cases h with
  | cons _ _ h2=>exact .cons (by simp [intKind,Value.isInt]) (a3S h2)
theorem PrN.nest {prog:Program} {w:World} {h:Heap} {a:Addr} {q:Int × List Int} (t:PrN h (.ref a) q):a1h prog w h [.i q.1,.t q.2] a:=by
 obtain ⟨b,items,tk,u,e,⟨o,ho,hc,n,hd⟩,hi,b2,it2,rfl,⟨o2,ho2,hc2,n2,hd2⟩,hi2⟩:=t
 cases e
 refine ⟨o,items,n,ho,hc,hd,?_⟩
 rw [hi]
 exact .cons (show (intKind prog w).is q.1 (.int q.1 tk)=true by simp [intKind,Value.isInt]) (.cons ⟨b2,rfl,o2,it2,n2,ho2,hc2,hd2,a3S hi2⟩ .nil)
theorem a2d {prog:Program} {w:World} {h:Heap} {a:Addr} {q:Int × List Int} (t:a1h prog w h [.i q.1,.t q.2] a):PrN h (.ref a) q:=by
 obtain ⟨o,items,n,ho,hc,hd,r⟩:=t
 generalize hl:items.toList=its at r
 cases r with
 | cons r1 r2 =>
  cases r2 with
  | cons r2 r3 =>
   cases r3
   rename_i v1 v2
   obtain ⟨tk,rfl⟩:=Value.isInt_shape (k:=q.1) (v:=v1) r1
   obtain ⟨b,rfl,o2,it2,n2,ho2,hc2,hd2,hi2⟩:=r2
   refine ⟨a,items,tk,.ref b,rfl,⟨o,ho,hc,n,hd⟩,hl,b,it2,rfl,⟨o2,ho2,hc2,n2,hd2⟩,?_⟩
   have key:∀ {ns:List Int} {vs:List Value},ItemsAre (intKind prog w) ns vs→IntsAre vs ns:=fun {ns vs} x=>by
    induction x with
    | nil=>exact .nil
    | cons h1 _ ih =>
     obtain ⟨t,rfl⟩:=Value.isInt_shape h1
     exact .cons _ _ ih
   exact key hi2
section
variable {prog:Program} {w:World} {A:Around} {E:Value→Shared→Prop} {s:Shared}
theorem a6Q {x y:Value} {p q:(Int × List Int) × Int} {C:Bool→Shared→Prop} (hx:PiN s.heap x p) (hy:PiN s.heap y q) (hu:A.units+4 < cLine) (one:p.1=q.1→p=q) (h:C (a1D p.1 q.1) s):wpAny (model prog w) A (keyLt' (tuples' false) x y) C E s:=by
 obtain ⟨b,items,a,t,rfl,⟨o,ho,hc,n,hd⟩,hi,pa⟩:=hx
 obtain ⟨b2,items2,a2,t2,rfl,⟨o2,ho2,hc2,n2,hd2⟩,hi2,pa2⟩:=hy
 refine kat_lt ho hd ho2 hd2 ?_
 have z1:items.size=2:=by rw [←Array.length_toList,hi];rfl
 have z2:items2.size=2:=by rw [←Array.length_toList,hi2];rfl
 rw [hi,hi2,z1,z2]
 show KatLex prog w A false (decide (2 < 2)) C [(.ref a,.ref a2),(.int p.2 t,.int q.2 t2)] 0 s
 refine kat_cons (a1C (by omega) (.cons (.inl ⟨_,_,rfl,rfl⟩) (.cons (.inr ⟨_,_,rfl,rfl⟩) .nil)) pa.nest pa2.nest ?_)
 by_cases e:p.1=q.1
 ·have e2:=one e
  rw [show decide ([Cell.i p.1.1,Cell.t p.1.2]=[Cell.i q.1.1,Cell.t q.1.2])=true from decide_eq_true (by rw [e])]
  refine kat_yes (kat_cons (wpAny_eqBool_int ?_))
  rw [e2,show (q.2 == q.2)=true by simp]
  refine kat_yes (kat_nil ?_)
  rw [e,a1O] at h
  exact h
 ·rw [show decide ([Cell.i p.1.1,Cell.t p.1.2]=[Cell.i q.1.1,Cell.t q.1.2])=false from decide_eq_false (fun z=>e (by
   have z1:=(List.cons.inj z).1
   have z2:=(List.cons.inj (List.cons.inj z).2).1
   exact Prod.ext (Cell.i.inj z1) (Cell.t.inj z2)))]
  exact kat_no (kat_one _ _ (a4s pa pa2 hu h))
theorem a3T {M:Model} {vs:List Value} {Q:SortKind→Shared→Prop} (h1:1≤vs.length) (t:∀ v∈vs,∃ q,PiN s.heap v q) (h:Q (tuples' false) s):wpAny M A (keyKind' vs.toArray) Q E s:=by
 obtain ⟨fs,kt,fl,fi⟩:∃ fs,KatTups s.heap vs fs∧fs.length=vs.length∧∀ v∈fs,∃ (a:Addr) (o:Obj),v=Value.ref a∧s.heap.get? a=some o∧o.cls=.type "tuple":=by
  clear h1 h
  induction vs with
  | nil=>exact ⟨[],trivial,rfl,fun v hv=>by cases hv⟩
  | cons v r ih =>
   obtain ⟨fs,k1,k2,k3⟩:=ih fun v hv=>t v (.tail _ hv)
   obtain ⟨q,b,items,a,tk,rfl,⟨o,ho,hc,n,hd⟩,hi,pa⟩:=t v (.head _)
   refine ⟨.ref a :: fs,KatTups.cons ho hc hd ?_ k1,by rw [List.length_cons,List.length_cons,k2],fun v hv=>?_⟩
   ·rw [←Array.getElem?_toList,hi]
    rfl
   ·rcases List.mem_cons.mp hv with rfl | hv
    ·obtain ⟨b',it',tk',u',e',⟨o',ho',hc',_⟩,_⟩:=pa
     cases e'
     exact ⟨_,o',rfl,ho',hc'⟩
    ·exact k3 v hv
 refine kat_kind (T:=Value.type "tuple") kt (by omega) (fun v hv=>?_) rfl h
 obtain ⟨a,o,rfl,ho,hc⟩:=fi v hv
 rw [←hc]
 exact (Looks.ld ho).andThen .now
theorem a6R {a:Addr} {vs:List Value} {ks:List ((Int × List Int) × Int)} {n:Nat} {P:PySem.Fin→Shared→Prop} (ho:s.heap.get? a=some (seqObj "list" vs.toArray n)) (hz:vs.length≤100000) (hl:ks.length=vs.length) (t:∀ i,i < vs.length→PiN s.heap (vs.getD i Value.none) (ks.getD i ((0,[]),0)))
  (nd:(ks.map Prod.fst).Nodup) (hu:A.units+4 < cLine)
  (h:∀ (h':Heap) (p:Array Nat) (c:Nat),Pm vs.length p→(p.toList.map fun i=>(ks.getD i ((0,[]),0)).1).Pairwise LxP→h'.get? a=some (seqObj "list" (p.toList.map fun i=>vs.getD i Value.none).toArray c)→(∀ b o,b≠a→s.heap.get? b=some o→h'.get? b=some o)→P (.done (.ret .none)) { s with heap:=h' }) :
  wpAny (model prog w) A (Builtin.«list.sort» ⟨[.ref a],[]⟩) P E s:=by
 have gk:∀ i,(ks.map Prod.fst).getD i (0,[])=(ks.getD i ((0,[]),0)).1:=fun i=>by
  rw [List.getD_eq_getElem?_getD,List.getElem?_map,List.getD_eq_getElem?_getD]
  cases ks[i]? <;> rfl
 have o:Ord vs.length (ltKP (ks.map Prod.fst)):=by rw [←hl,←List.length_map (f:=Prod.fst)];exact ordKP nd
 have same:∀ i j,i < vs.length→j < vs.length→(ks.getD i ((0,[]),0)).1=(ks.getD j ((0,[]),0)).1→i=j:=fun i j hi hj z=>by
  rw [←gk,←gk,List.getD_eq_getElem?_getD,List.getD_eq_getElem?_getD,List.getElem?_eq_getElem (by rw [List.length_map];omega),List.getElem?_eq_getElem (by rw [List.length_map];omega)] at z
  exact (List.getElem_inj nd).mp z
 have ndv:vs.Nodup:=by
  unfold List.Nodup
  rw [List.pairwise_iff_getElem]
  intro i j hi hj hij z
  have e1:vs.getD i Value.none=vs[i]:=by rw [List.getD_eq_getElem?_getD,List.getElem?_eq_getElem hi];rfl
  have e2:vs.getD j Value.none=vs[j]:=by rw [List.getD_eq_getElem?_getD,List.getElem?_eq_getElem hj];rfl
  have t1:=t i hi
  have t2:=t j hj
  rw [e1,z] at t1
  rw [e2] at t2
  have:=same i j hi hj (by rw [t1.inj t2])
  omega
 have at_:∀ v∈vs,∃ i,i < vs.length∧v=vs.getD i Value.none:=fun v hv=>by
  obtain ⟨i,hi⟩:=List.mem_iff_getElem?.mp hv
  exact ⟨i,(List.getElem?_eq_some_iff.mp hi).1,by rw [List.getD_eq_getElem?_getD,hi];rfl⟩
 refine a9p (κ:=tuples' false) o (fun i=>a1O _) ndv ho hz (fun h2 h1 k1 Q q=>?_) (fun h1 k1 i j hi hj C E' q=>?_) fun h' p c pm as e k=>h h' p c pm ?_ e k
 ·refine a3T (s:={ s with heap:=h1 }) (by omega) (fun v hv=>?_) q
  obtain ⟨i,hi,rfl⟩:=at_ v hv
  exact ⟨_,(t i hi).keep ho rfl k1⟩
 ·unfold ltKP at q
  rw [gk,gk] at q
  exact a6Q (s:={ s with heap:=h1 }) ((t i hi).keep ho rfl k1) ((t j hj).keep ho rfl k1) hu (fun z=>by rw [same i j hi hj z]) q
 ·have:=a4T (f:=fun i=>(ks.map Prod.fst).getD i (0,[])) (R:=LxP) o pm as fun i j z=>z
  have e:(fun i=>(ks.map Prod.fst).getD i (0,[]))=fun i=>(ks.getD i ((0,[]),0)).1:=funext gk
  rw [e] at this
  exact this
end
abbrev FKy:=Int × List Int
abbrev FKv:=FKy × Addr × V
def iOf:V→Int
 | .int n=>n
 | _=>0
def IPr (H:Hp) (x:V) (p:FKv):Prop:=∃ t,x=.ref t∧H t=some (.tup [.ref p.2.1,p.2.2])
theorem IPr.same {H H':Hp} {x:V} {p:FKv} (s:a0y H H') (h:IPr H x p):IPr H' x p:=by
 obtain ⟨t,e,g⟩:=h
 exact ⟨t,e,s _ _ g⟩
theorem a4X {X:Cx} {pins:List (Addr × Obj)} {σ:St} {s:Shared}:∀ {as:List Addr} {kvs:List FKv} {H:Hp},Inv X pins σ H s→as.Pairwise (· < ·)→as.length=kvs.length→(∀ a∈as,H a=none∧∀ H',H' a=none→a5h X pins H' a) →
  (∀ (j:Nat) a p,as[j]?=some a→kvs[j]?=some p→∃ v,a0U p.2.2 v∧s.heap.get? a=some (p2O (.ref p.2.1) v))→∃ H',Inv X pins σ H' s∧a0y H H'∧Paired (IPr H') (as.map V.ref) kvs∧∀ b,b∉as→H' b=H b
 | [],[],H,I,_,_,_,_=>⟨H,I,a0y.refl _,.nil,fun b _=>rfl⟩
 | [],_ :: _,H,I,_,l,_,_=>by cases l
 | _ :: _,[],H,I,_,l,_,_=>by cases l
 | a :: as,p :: kvs,H,I,pw,l,f,g=>by
  obtain ⟨pa,pw⟩:=List.pairwise_cons.mp pw
  obtain ⟨v,rv,ga⟩:=g 0 a p rfl rfl
  have na:=(f a (.head _)).1
  have I2:Inv X pins σ (upd H a (.tup [.ref p.2.1,p.2.2])) s:=I.adopt ((f a (.head _)).2 H na) ⟨by show 2≤sizeLine;decide,[.ref p.2.1,v],.cons rfl (.cons rv .nil),_,ga,_,rfl⟩
  obtain ⟨H',I3,s3,pr,oth⟩:=a4X I2 pw (by simpa using l) (fun b hb=>⟨by rw [a0r (Nat.ne_of_gt (pa b hb))];exact (f b (.tail _ hb)).1,(f b (.tail _ hb)).2⟩) (fun j b q hj hq=>g (j+1) b q (by simpa using hj) (by simpa using hq))
  have s0:=a0c na (.tup [.ref p.2.1,p.2.2])
  refine ⟨H',I3,s0.trans s3,.cons ⟨a,rfl,s3 _ _ a0b⟩ pr,fun b hb=>?_⟩
  rw [oth b (fun z=>hb (.tail _ z)),a0r (fun z=>hb (by rw [z];exact .head _))]
theorem a6g:∀ as:List Addr,a0A (as.map V.ref) (as.map Value.ref)
 | []=>.nil
 | a :: as=>.cons rfl (a6g as)
def tSortI (X:Cx) (td:TE):TE:=fun σ H Q=>td σ H fun x H1=>∃ (d:Addr) (kvs:List FKv),x=.ref d∧H1 d=some (NDO (a0l X.prog X.w) d kvs)∧kvs.length≤100000∧(∀ p∈kvs,FAt X.K H1 p.1 p.2.1∧∃ n,p.2.2=.int n) ∧
 ∀ (d2:Addr) (out:List V) (us:List FKv) H',a0y H1 H'→H1 d2=none→H' d2=some (.lst out)→us.Perm kvs→(us.map (·.1)).Pairwise LxP→Paired (IPr H') out us→Q (.ref d2) H'
theorem a9y {X:Cx} {o:Expr} {p apos cpos pos:Pos} {td:TE} (hc:X.calm=true) (hu:X.A.units+10 < cLine) (hg:Gl X "sorted") (hm:X.mg "sorted"=none) (ho:PE X o td)
  (hbase:attributeBase o "items" X.env (eval o X.env)=eval o X.env:=by rfl) (hline:(apos.endLine == cpos.line)=true:=by rfl)
  (hs:starEach [.Call (.Attribute o "items" apos) [] [] cpos] X.env=(false,eval (.Call (.Attribute o "items" apos) [] [] cpos) X.env) :: starEach [] X.env:=by rfl) :
  PE X (.Call (.Name "sorted" p) [.Call (.Attribute o "items" apos) [] [] cpos] [] pos) (tSortI X td):=by
 intro pins s σ H Q I h
 refine wpAny_Call_Name_kw (a2S I hg hm a0Y ?_ (by decide) (by decide))
 refine PyProof.Rows.callWith_builtin1 ?_ hs rfl
 rw [hs]
 refine Calls.spliced_cons ?_
 refine wpAny_Call_method0_late hbase hline (thn (ho pins s σ H _ I h) fun u s1 ⟨x,H1,I1,rx,d,kvs,ex,hd,hn,hk,q⟩=>?_)
 subst ex
 cases rx
 have z0:=(show a0w X.prog X.w H1 s1.heap d (NDO (a0l X.prog X.w) d kvs) from I1.hok d _ hd).1
 obtain ⟨hsy,hl,xs,rel,ob,es,ep,hob,hx,hdat,he,hnd⟩:=id (show NDx (a0l X.prog X.w) d kvs s1.heap from z0)
 have lx:kvs.length=xs.length:=Paired.length rel
 have sz:es.size=xs.length:=size_of_entries he
 have T0:s1.TypeIs (.ref d) "dict":=⟨ob,hob,hx.1⟩
 have hde:d < s1.heap.objs.size:=Heap.lt_size hob
 refine ⟨"dict","dict.items",F.plainAttrs_dict,F.slot_dict_items,F.type_dict_items,T0,?_,Calls.callWith_builtin rfl (PySem.evalArgs_none ?_)⟩
 ·intro a z
  cases z
  exact ⟨ob,hob,hx.2.1⟩
 refine wpAny_call_entry F.slot_dict_items T0 F.entry_dict_items ?_ (F.args_dict_items_1 _)
 unfold Builtin.«dict.items»
 refine wpAny_bind ?_
 unfold Builtin.Dict.noArgs
 refine wpAny_bind (wpAny_notOrdered_dict T0 ?_)
 show wpAny _ _ (pure d) _ _ s1
 refine wpAny_pure ?_
 show wpAny _ _ (Builtin.Dict.showsAll d >>= _) _ _ s1
 unfold Builtin.Dict.showsAll
 rw [if_neg (by rw [hsy];decide)]
 refine wpAny_bind (wpAny_pure (wpAny_bind (wpAny_newObj_type (wpAny_pure ⟨_,rfl,?_⟩))))
 refine Calls.spliced_nil ?_
 have hv:(s1.heap.push { cls:=.type "dict_items",data:=.fields #[.ref d] }).IsItemsView s1.heap.objs.size d:=⟨_,Heap.get?_push_size _ rfl,rfl,rfl⟩
 have kv:∀ b o,s1.heap.get? b=some o→(s1.heap.push { cls:=.type "dict_items",data:=.fields #[.ref d] }).get? b=some o:=fun b o e=>Heap.get?_push_of_some _ e
 have zv:(s1.heap.push { cls:=.type "dict_items",data:=.fields #[.ref d] }).objs.size=s1.heap.objs.size+1:=Heap.size_push _ _
 show wpAny _ _ _ _ _ { s1 with heap:=s1.heap.push { cls:=.type "dict_items",data:=.fields #[.ref d] } }
 generalize s1.heap.push { cls:=.type "dict_items",data:=.fields #[.ref d] }=hV at hv kv zv ⊢
 refine Calls.call_function_entry kind_sorted plain_sorted entry_sorted (args_sorted1 _) ?_
 unfold Builtin.«sorted»
 refine wpAny_bind (m:=checkCount "sorted" 1 1 _) (wpAny_pure ?_)
 refine wpAny_bind (a4u (s:={ s1 with heap:=hV }) (es:=es) (ep:=ep) (show X.A.in1.handled=none from I.ok.hd hc) hv ⟨ob,kv _ _ hob,hx,hdat⟩ (by rw [sz,←lx,sizeLine_eq];omega) fun h2 tk2 as k2 las g=>?_)
 have k2:∀ b o,hV.get? b=some o→h2.get? b=some o:=k2
 have g:a5x es hV.objs.size h2 as:=g
 have la:as.length=kvs.length:=by rw [las,sz,lx]
 have k12:∀ b o,s1.heap.get? b=some o→h2.get? b=some o:=fun b o e=>k2 b o (kv b o e)
 have ab:∀ a∈as,s1.heap.objs.size≤a:=fun a ha=>by
  have h9:=g.ab a ha
  rw [zv] at h9
  exact Nat.le_of_lt (Nat.lt_of_succ_lt h9)
 have pairs:∀ (j:Nat) a p,as[j]?=some a→kvs[j]?=some p→∃ v,a0U p.2.2 v∧h2.get? a=some (p2O (.ref p.2.1) v):=fun j a p hj hp=>by
  obtain ⟨e,he1,he2⟩:=g.at_ j a hj
  obtain ⟨x,hx1,r1,r2,r3⟩:=Paired.right_of rel j p hp
  rw [entry_at he j,hx1] at he1
  cases he1
  exact ⟨x.2.2,r3,by rw [r2];exact he2⟩
 have tup:∀ i,i < (as.map Value.ref).length→PiN h2 ((as.map Value.ref).getD i Value.none) ((kvs.map fun p=>(p.1,iOf p.2.2)).getD i ((0,[]),0)):=fun i hi=>by
  rw [List.length_map] at hi
  have ha:as[i]?=some as[i]:=List.getElem?_eq_getElem hi
  have hp:kvs[i]?=some (kvs[i]'(by omega)):=List.getElem?_eq_getElem _
  obtain ⟨v,rv,gv⟩:=pairs i _ _ ha hp
  obtain ⟨fa,n,en⟩:=hk _ (List.getElem_mem (show i < kvs.length by omega))
  have pr:=(a2d (FAt.is I1 fa)).keep2 k12
  generalize kvs[i]'(by omega)=p at hp rv gv fa en pr
  rw [en] at rv
  obtain ⟨tk,rfl⟩:=(show ∃ t,v=Value.int n t from rv)
  rw [List.getD_eq_getElem?_getD,List.getElem?_map,ha,List.getD_eq_getElem?_getD,List.getElem?_map,hp]
  show PiN h2 (.ref as[i]) (p.1,iOf p.2.2)
  rw [en]
  exact ⟨_,_,p.2.1,tk,rfl,⟨_,gv,rfl,_,rfl⟩,rfl,pr⟩
 have ndk:((kvs.map fun p=>(p.1,iOf p.2.2)).map Prod.fst).Nodup:=by
  rw [List.map_map]
  have:kvs.map (Prod.fst ∘ fun p:FKv=>(p.1,iOf p.2.2))=xs.map (·.1):=by
   refine List.ext_getElem (by simp [lx]) fun i h1 h2=>?_
   have hi:i < kvs.length:=by simpa using h1
   obtain ⟨x,hx1,r1,_,_⟩:=Paired.right_of rel i _ (List.getElem?_eq_getElem hi)
   rw [List.getElem?_eq_getElem (by omega)] at hx1
   cases hx1
   rw [List.getElem_map,List.getElem_map]
   exact r1
  rw [this]
  exact hnd
 refine wpAny_bind (wpAny_newList ?_ (by show (as.map Value.ref).length≤sizeLine;rw [List.length_map,sizeLine_eq];omega))
 show wpAny _ _ _ _ _ { s1 with heap:=h2.push (seqObj "list" (as.map Value.ref).toArray 0),toks:=tk2 }
 have hoL:(h2.push (seqObj "list" (as.map Value.ref).toArray 0)).get? h2.objs.size=some (seqObj "list" (as.map Value.ref).toArray 0):=Heap.get?_push_size _ rfl
 have kL:∀ b o,h2.get? b=some o→(h2.push (seqObj "list" (as.map Value.ref).toArray 0)).get? b=some o:=fun b o e=>Heap.get?_push_of_some _ e
 have nL:∀ b o,h2.get? b=some o→b≠h2.objs.size:=fun b o e=>Nat.ne_of_lt (Heap.lt_size e)
 refine wpAny_bind (wpAny_holding (wpAny_call_entry slot_list_sort ⟨_,hoL,rfl⟩ entry_list_sort (a6R (s:={ s1 with heap:=h2.push (seqObj "list" (as.map Value.ref).toArray 0),toks:=tk2 }) (ks:=kvs.map fun p=>(p.1,iOf p.2.2)) hoL (by rw [List.length_map];omega) (by rw [List.length_map,List.length_map,la]) (fun i hi=>(tup i hi).keep2 kL) ndk (by show X.A.units+1+1+4 < cLine;omega) fun h3 p c pm srt hL kp3=>⟨_,rfl,?_⟩) (args_list_sort _)))
 rw [List.length_map] at pm
 have k23:∀ b o,h2.get? b=some o→h3.get? b=some o:=fun b o e=>kp3 b o (nL b o e) (Heap.get?_push_of_some _ e)
 have J3:Inv X pins σ H1 { s1 with heap:=h3,toks:=tk2 }:=I1.kept fun b o e=>k23 b o (k12 b o e)
 have fp:∀ a,s1.heap.objs.size≤a→∀ H',H' a=none→a5h X pins H' a:=fun a ha H' hn'=>I1.fpOk ha hn'
 obtain ⟨H2,J4,s4,pr4,oth⟩:=a4X (as:=as) (kvs:=kvs) J3 g.nd la (fun a ha=>⟨I1.hok.fresh (ab a ha),fp a (ab a ha)⟩) (fun j a p hj hp=>by
  obtain ⟨v,rv,gv⟩:=pairs j a p hj hp
  exact ⟨v,rv,k23 _ _ gv⟩)
 have Lsz:s1.heap.objs.size≤h2.objs.size:=by
  obtain ⟨vo,hvo,_⟩:=hv
  exact Nat.le_of_lt (Heap.lt_size (k2 _ _ hvo))
 have Ln:H2 h2.objs.size=none:=by
  rw [oth _ (fun z=>absurd (g.lt z) (Nat.lt_irrefl _))]
  exact I1.hok.fresh Lsz
 have lt:∀ i∈p.toList,i < (as.map V.ref).length:=fun i hi=>by rw [List.length_map];exact pm.mem i hi
 have hv4:=a6g as
 have pk:=a7Y (xs:=kvs) ((0,[]),0,.non) (p:=p) (by rw [←la];exact pm) rfl
 have lp:p.toList.length=kvs.length:=by rw [←List.length_map (f:=fun i=>kvs.getD i ((0,[]),0,.non)),pk.length_eq]
 have J5:Inv X pins σ (upd H2 h2.objs.size (.lst (p.toList.map fun i=>(as.map V.ref).getD i .non))) { s1 with heap:=h3,toks:=tk2 }:=J4.adopt (fp _ Lsz H2 Ln) ⟨by rw [List.length_map,lp,sizeLine_eq];omega,_,c,Paired.pick hv4 .non Value.none p.toList lt,hL⟩
 have s5:=a0c Ln (.lst (p.toList.map fun i=>(as.map V.ref).getD i .non))
 refine wpAny_pure ⟨_,rfl,.ref h2.objs.size,_,J5,rfl,q _ _ (p.toList.map fun i=>kvs.getD i ((0,[]),0,.non)) _ (s4.trans s5) (I1.hok.fresh Lsz) a0b pk ?_ (Paired.pick (Paired.mapP pr4 fun _ _ z=>IPr.same s5 z) .non ((0,[]),0,.non) p.toList lt)⟩
 rw [List.map_map]
 have e:(p.toList.map fun i=>((kvs.map fun p=>(p.1,iOf p.2.2)).getD i ((0,[]),0)).1)=p.toList.map ((·.1) ∘ fun i=>kvs.getD i ((0,[]),0,.non)):=List.map_congr_left fun i hi=>by
  have il:i < kvs.length:=by rw [←la];exact pm.mem i hi
  show ((kvs.map fun p=>(p.1,iOf p.2.2)).getD i ((0,[]),0)).1=(kvs.getD i ((0,[]),0,.non)).1
  rw [List.getD_eq_getElem?_getD,List.getElem?_map,List.getD_eq_getElem?_getD,List.getElem?_eq_getElem il]
  rfl
 rw [e] at srt
 exact srt
theorem a5y:mroOf (.type "dict")=pure [.type "dict",.type "object"]:=by rw [mroOf_type];kernel_rfl
theorem a9z:typeLookup (.type "dict") "__new__"=pure (some (.builtin "dict.__new__")):=by rw [typeLookup_type,builtinLookup_eq_fast];kernel_rfl
theorem a6S:TypeCalled "dict" "dict.__new__" "dict.__init__" :=
 ⟨by decide +kernel,by decide +kernel,⟨_,_,a5y⟩,madeBy_type a5y a9z (by decide +kernel),by decide +kernel,by rw [isSubtype_type];kernel_rfl,F.slot_dict_init⟩
theorem a8q (a:Value):checkTypeCall "dict" ⟨[a],[]⟩=pure ():=by kernel_rfl
theorem a9A (a:Value):checkBuiltinCall "dict.__new__" ⟨[.type "dict",a],[]⟩=pure ():=by kernel_rfl
theorem a8r:entryFor table "dict.__new__"=some Builtin.«dict.__new__»:=entryFor_of_tree (by kernel_rfl)
theorem a4Y:plainId "dict.__new__"=true:=by decide +kernel
theorem b1o:isSubtype (.type "dict") (.type "dict")=pure true:=by rw [isSubtype_type];kernel_rfl
theorem a9B:typeLookup (.type "list") "keys"=pure none:=by rw [typeLookup_type,builtinLookup_eq_fast];kernel_rfl
section
variable {prog:Program} {w:World} {A:Around} {E:Value→Shared→Prop} {s:Shared}
theorem a9C (a:Value) {Q1:Value→Shared→Prop} (h:Q1 (.ref s.heap.objs.size) { s with heap:=s.heap.push { cls:=.type "dict",data:=.dict #[] } }) :
  codeAny (model prog w) A (.call (.builtin "dict.__new__") ⟨[.type "dict",a],[]⟩) (wants Q1 E) s:=by
 refine codeAny_of_tree ?_
 show wpAny _ A.in1 (do checkBuiltinCall "dict.__new__" ⟨[.type "dict",a],[]⟩;again (.builtin "dict.__new__" ⟨[.type "dict",a],[]⟩)) _ _ s
 refine wpAny_bind (wpAny_of_eq (a9A a) (wpAny_pure ⟨plainId_quiet a4Y _,codeAny_builtin a8r ?_⟩))
 rw [Around.under_plainId a4Y _]
 have f1:=b1o
 have f2:=a5y
 obtain ⟨hp,g,d,tk,os⟩:=s
 wp_walk
 exact h
theorem b1p {a:Addr} {xs:Array Value} {k:Nat} {Q:Option Value→Shared→Prop} (hx:s.heap.get? a=some (seqObj "list" xs k)) (hA:A.handled=none) (h:∀ h' tk,(∀ b o,s.heap.get? b=some o→h'.get? b=some o)→Q none { s with heap:=h',toks:=tk }):wpAny (model prog w) A (getAttr? (.ref a) "keys") Q E s:=by
 obtain ⟨hp,g,d,tk,os⟩:=s
 have hT:∀ tk',(⟨hp,g,d,tk',os⟩:Shared).TypeIs (.ref a) "list":=fun _=>⟨_,hx,rfl⟩
 have f1:=sub_AttributeError
 have f3:=F.slot_list_getattribute.lookup
 have f4:=F.slot_list_getattribute.bind (.ref a)
 have f5:=am_list_getattr_none
 unfold getAttr? getAttrBy? getAttrBy
 repeat (any_goals (first | assumption | exact hT _ | ((with_reducible show wpAny _ _ (call (Value.builtin "list.__getattribute__") _ _) _ _ _);refine call_meets F.slot_list_getattribute (hT _) am_entry_list_getattribute (F.args_list_getattribute_2 _ _) (meets_getattribute_miss_list a xs k #[] "keys" _ a9B (by decide +kernel) (by size_fits)) ⟨hx,hA,fun h' tk' e hx'=>?_⟩) | wp_step))
 obtain ⟨t',u',he⟩:=hx'.there
 show wpAny _ _ (getattributeRaised _ _ _ _ _ _ _) _ _ _
 unfold getattributeRaised
 repeat (any_goals (first | assumption | wp_step))
 exact h h' tk' hx'.keeps
theorem a4Z:entryFor table "dict.update.loop"=some Builtin.«dict.update.loop»:=entryFor_of_tree (by kernel_rfl)
theorem a2x:plainId "dict.update.loop"=true:=by decide +kernel
abbrev KvH:=(Int × List Int) × Addr × Value
theorem a6T {xs:List KvH} {k:Int × List Int} {a:Addr} {v:Value} (h:k∉xs.map (·.1)):storedH xs k a v=xs++[(k,a,v)]:=by
 unfold storedH
 rw [if_neg]
 intro z
 unfold atKey at z
 rw [Option.isSome_map,List.find?_isSome] at z
 obtain ⟨x,hx,e⟩:=z
 exact h (List.mem_map.mpr ⟨x,hx,by simpa using e⟩)
theorem a6h {R:Result→Shared→Prop} {d I l:Addr} {kvs:List KvH} {ts:List Addr} {St:Nat→Heap→Prop} {h0:Heap} (W:Walks prog w A.in1 I [I,l] [I] kvs.length (fun i v=>∃ t,ts[i]?=some t∧v=Value.ref t) St) (hu:A.units+4 < cLine) (hz:kvs.length < sizeLine) (nd:(kvs.map (·.1)).Nodup) (dI:d≠I) (dl:d≠l)
  (old:∀ b o,h0.get? b=some o→b≠d∧b≠I) (lt:ts.length=kvs.length) (prs:∀ (j:Nat) t p,ts[j]?=some t→kvs[j]?=some p→(∃ n,h0.get? t=some { cls:=.type "tuple",data:=.seq #[.ref p.2.1,p.2.2] n })∧PrN h0 (.ref p.2.1) p.1)
  (hR:∀ h' tk,(∀ b o,h0.get? b=some o→h'.get? b=some o)→h'.DictOfH (a0l prog w) d kvs→R (.ok (.ret .none)) { s with heap:=h',toks:=tk }) :
  ∀ (k i:Nat) (h:Heap) (tk:Nat),kvs.length - i=k→i≤kvs.length→St i h→h.DictOfH (a0l prog w) d (kvs.take i)→(∀ b o,h0.get? b=some o→h.get? b=some o) →
   codeAny (model prog w) A (.builtin "dict.update.loop" ⟨[.ref d,.ref I,rawInt i,.none],[]⟩) R { s with heap:=h,toks:=tk }
 | 0,i,h,tk,hk,hi,st,dd,kp=>by
  have ei:i=kvs.length:=by omega
  have isAt:∀ {h':Heap},(∀ b o,h0.get? b=some o→h'.get? b=some o)→∀ x∈kvs,(a0l prog w).is h' x.1 x.2.1:=fun {h'} kq x hx=>by
   obtain ⟨j,hj⟩:=List.getElem?_of_mem hx
   have jl:=(List.getElem?_eq_some_iff.mp hj).1
   exact ((prs j _ x (List.getElem?_eq_getElem (by omega)) hj).2.keep2 kq).nest
  refine codeAny_builtin a4Z ?_
  rw [Around.under_plainId a2x _]
  show wpAny _ A.in1 (pyNext (.ref I) >>= _) _ _ _
  refine wpAny_bind (W.done { s with heap:=h,toks:=tk } _ _ (by rw [←ei];exact st) fun h' tk' kn=>?_)
  show wpAny _ A.in1 (Builtin.Dict.addKeywords d [] >>= _) _ _ _
  refine wpAny_bind (wpAny_pure (wpAny_pure ?_))
  refine hR h' tk' (fun b o e=>kn b o (fun z=>(old b o e).2 (List.mem_singleton.mp z)) (kp b o e)) ?_
  rw [ei,List.take_length] at dd
  obtain ⟨o,es,ep,q1,q2,q3,q4,q5,q6⟩:=dd
  refine ⟨o,es,ep,kn d o (fun z=>dI (List.mem_singleton.mp z)) q1,q2,q3,q4,fun x hx=>?_,q6⟩
  exact isAt (fun b o e=>kn b o (fun z=>(old b o e).2 (List.mem_singleton.mp z)) (kp b o e)) x hx
 | k+1,i,h,tk,hk,hi,st,dd,kp=>by
  have il:i < kvs.length:=by omega
  have isAt:∀ {h':Heap},(∀ b o,h0.get? b=some o→h'.get? b=some o)→∀ x∈kvs,(a0l prog w).is h' x.1 x.2.1:=fun {h'} kq x hx=>by
   obtain ⟨j,hj⟩:=List.getElem?_of_mem hx
   have jl:=(List.getElem?_eq_some_iff.mp hj).1
   exact ((prs j _ x (List.getElem?_eq_getElem (by omega)) hj).2.keep2 kq).nest
  refine codeAny_builtin a4Z ?_
  rw [Around.under_plainId a2x _]
  show wpAny _ A.in1 (pyNext (.ref I) >>= _) _ _ _
  refine wpAny_bind (W.item i { s with heap:=h,toks:=tk } _ _ il st fun v h1 tk1 hv st1 kn=>?_)
  obtain ⟨t,ht,rfl⟩:=hv
  have hp:kvs[i]?=some kvs[i]:=List.getElem?_eq_getElem il
  obtain ⟨⟨nt,gt⟩,pr⟩:=prs i t _ ht hp
  have kp1:∀ b o,h0.get? b=some o→h1.get? b=some o:=fun b o e=>kn b o (fun z=>(old b o e).2 (List.mem_singleton.mp z)) (kp b o e)
  have gt1:=kp1 _ _ gt
  have dd1:h1.DictOfH (a0l prog w) d (kvs.take i):=by
   obtain ⟨o,es,ep,q1,q2,q3,q4,q5,q6⟩:=dd
   exact ⟨o,es,ep,kn d o (fun z=>dI (List.mem_singleton.mp z)) q1,q2,q3,q4,fun x hx=>isAt kp1 x (List.mem_of_mem_take hx),q6⟩
  have T1:Shared.TypeIs { s with heap:=h1,toks:=tk1 } (.ref t) "tuple":=⟨_,gt1,rfl⟩
  show wpAny _ A.in1 (holding [.ref t] _ >>= _) _ _ { s with heap:=h1,toks:=tk1 }
  refine wpAny_bind (wpAny_holding (wpAny_bind (wpAny_tryCatch ?_)))
  unfold Builtin.Dict.pairItems
  refine wpAny_bind (wpAny_typeOf (T:="tuple") T1 ?_)
  rw [if_pos (by decide)]
  refine wpAny_bind (wpAny_seqItems gt1 rfl (wpAny_pure ?_))
  show wpAny _ A.in1 (holding [.ref kvs[i].2.1,kvs[i].2.2] (dictSet d (.ref kvs[i].2.1) kvs[i].2.2)) _ _ _
  refine wpAny_holding ?_
  have lz:(kvs.take i).length≤sizeLine:=by rw [List.length_take];omega
  have nk:kvs[i].1∉(kvs.take i).map (·.1):=fun z=>by
   obtain ⟨x,hx,e⟩:=List.mem_map.mp z
   obtain ⟨j,hj⟩:=List.getElem?_of_mem hx
   have jl:=(List.getElem?_eq_some_iff.mp hj).1
   rw [List.length_take] at jl
   rw [List.getElem?_take_of_lt (by omega)] at hj
   have e1:(kvs.map (·.1))[j]?=(kvs.map (·.1))[i]?:=by rw [List.getElem?_map,List.getElem?_map,hj,hp];exact congrArg some e
   have:=(List.getElem?_inj (by rw [List.length_map];omega) nd).mp e1
   omega
  refine wpAny_dictSet_heap (s:={ s with heap:=h1,toks:=tk1 }) (k:=kvs[i].1) (hsz:=lz) (show A.in1.units+1 < cLine by show A.units+1+1 < cLine;omega) (isAt kp1 _ (List.getElem_mem il)) dd1 fun h2 dd2 (s2:Heap.SameBut d h1 h2)=>?_
  rw [a6T nk] at dd2
  have kp2:∀ b o,h0.get? b=some o→h2.get? b=some o:=fun b o e=>s2.extBut b o (old b o e).1 (kp1 b o e)
  refine wpAny_pure ⟨plainId_quiet a2x _,?_⟩
  have ei:(rawInt ((i:Int)+1))=rawInt ((i+1:Nat):Int):=by congr 1
  show codeAny _ _ (.builtin "dict.update.loop" ⟨[.ref d,.ref I,rawInt ((i:Int)+1),.none],[]⟩) _ _
  rw [ei]
  refine a6h W hu hz nd dI dl old lt prs hR k (i+1) h2 _ (by omega) il (W.frame _ h1 h2 st1 fun b hb o e=>s2.extBut b o (fun z=>?_) e) ?_ kp2
  ·rw [z] at hb
   rcases List.mem_cons.mp hb with q | q
   ·exact dI q
   ·exact dl (List.mem_singleton.mp q)
  ·rw [List.take_add_one,hp]
   exact dd2
end
def rDictI (X:Cx):List V→Hp→VK→Prop:=fun xs H Q=>∃ (l:Addr) (out:List V) (us:List FKv),xs=[.ref l]∧H l=some (.lst out)∧Paired (IPr H) out us∧(∀ p∈us,FAt X.K H p.1 p.2.1)∧(us.map (·.1)).Nodup∧us.length≤100000∧∀ d,H d=none→Q (.ref d) (upd H d (NDO (a0l X.prog X.w) d us))
theorem a3x:∀ {out:List V} {us:List FKv} {H:Hp} {its:List Value},Paired (IPr H) out us→a0A out its→∃ ts:List Addr,its=ts.map Value.ref∧ts.length=us.length∧∀ (j:Nat) t p,ts[j]?=some t→us[j]?=some p→H t=some (.tup [.ref p.2.1,p.2.2])
 | [],_,H,its,pr,rv=>by
  cases pr
  cases rv
  exact ⟨[],rfl,rfl,fun j t p hj=>by simp at hj⟩
 | x :: out,_,H,its,pr,rv=>by
  cases pr with
  | cons h1 pr =>
   cases rv with
   | cons r1 rv =>
    obtain ⟨t,rfl,ht⟩:=h1
    cases r1
    obtain ⟨ts,e,l,g⟩:=a3x pr rv
    refine ⟨t :: ts,by rw [e];rfl,by rw [List.length_cons,List.length_cons,l],fun j t' p hj hp=>?_⟩
    cases j with
    | zero=>cases hj;cases hp;exact ht
    | succ j=>exact g j t' p (by simpa using hj) (by simpa using hp)
theorem b1q {prog:Program} {w:World} {A:Around} (hh:A.handled=none) (I l:Addr) (ne:l≠I) (ts:List Addr) {n:Nat} (hn:ts.length=n) :
  Walks prog w A I [I,l] [I] n (fun i v=>∃ t,ts[i]?=some t∧v=Value.ref t) (fun i h=>h.IsListIter I l i∧h.IsList l (ts.map Value.ref).toArray):=by
 have W:=Walks.list (prog:=prog) (w:=w) (A:=A) hh I l ne (ts.map Value.ref).toArray
 have sz:(ts.map Value.ref).toArray.size=n:=by rw [List.size_toArray,List.length_map,hn]
 rw [sz] at W
 refine ⟨W.sub,W.frame,fun i s Q E hi st hQ=>W.item i s Q E hi st fun v h' tk hv=>hQ v h' tk ?_,W.done,W.self⟩
 have hv:(ts.map Value.ref).toArray[i]?=some v:=hv
 rw [List.getElem?_toArray,List.getElem?_map] at hv
 obtain ⟨t,ht,e⟩:=Option.map_eq_some_iff.mp hv
 exact ⟨t,ht,e.symm⟩
theorem a6U {X:Cx} (hc:X.calm=true) (hu:X.A.units+10 < cLine):a2g X (.type "dict") (rDictI X):=by
 intro pins s σ H xs us0 Q I r h
 obtain ⟨l,out,us,rfl,hl,pr,hk,nd,hz,q⟩:=h
 obtain ⟨u,rfl,rx⟩:=a3m r
 cases rx
 obtain ⟨_,its,n,rv,he⟩:=(show a0w X.prog X.w H s.heap l (.lst out) from I.hok l _ hl)
 obtain ⟨ts,rfl,lts,gts⟩:=a3x pr rv
 have ll:=Heap.lt_size he
 have raw:∀ (j:Nat) t p,ts[j]?=some t→us[j]?=some p→∃ v n,a0U p.2.2 v∧s.heap.get? t=some { cls:=.type "tuple",data:=.seq #[.ref p.2.1,v] n }∧PrN s.heap (.ref p.2.1) p.1:=fun j t p hj hp=>by
  have g:=gts j t p hj hp
  obtain ⟨_,it2,rv2,o2,ho2,n2,rfl⟩:=(show a0w X.prog X.w H s.heap t (.tup [.ref p.2.1,p.2.2]) from I.hok _ _ g)
  obtain ⟨v1,v2,rfl,r1,r2⟩:=rv2.two
  cases r1
  exact ⟨v2,n2,r2,ho2,a2d (FAt.is I (hk p (List.mem_of_getElem? hp)))⟩
 obtain ⟨kvs,rel,prs⟩:∃ kvs:List KvH,a5e us kvs∧∀ (j:Nat) t p,ts[j]?=some t→kvs[j]?=some p→(∃ n,s.heap.get? t=some { cls:=.type "tuple",data:=.seq #[.ref p.2.1,p.2.2] n })∧PrN s.heap (.ref p.2.1) p.1:=by
  clear gts rv he nd hz q hk pr hl
  induction us generalizing ts with
  | nil=>exact ⟨[],.nil,fun j t p _ hp=>by simp at hp⟩
  | cons p0 us ih =>
   cases ts with
   | nil=>cases lts
   | cons t0 ts =>
    obtain ⟨v,n,rv,g,pn⟩:=raw 0 t0 p0 rfl rfl
    obtain ⟨kvs,rel,prs⟩:=ih (ts:=ts) (by simpa using lts) (fun j t p hj hp=>raw (j+1) t p (by simpa using hj) (by simpa using hp))
    refine ⟨(p0.1,p0.2.1,v) :: kvs,.cons ⟨rfl,rfl,rv⟩ rel,fun j t p hj hp=>?_⟩
    cases j with
    | zero=>cases hj;cases hp;exact ⟨⟨n,g⟩,pn⟩
    | succ j=>exact prs j t p (by simpa using hj) (by simpa using hp)
 have lk:us.length=kvs.length:=Paired.length rel
 have ndk:(kvs.map (·.1)).Nodup:=by
  have:us.map (·.1)=kvs.map (·.1):=by
   refine List.ext_getElem (by simp [lk]) fun i h1 h2=>?_
   have hi:i < us.length:=by simpa using h1
   obtain ⟨x,hx1,r1,_,_⟩:=Paired.right_of rel i _ (List.getElem?_eq_getElem hi)
   rw [List.getElem?_eq_getElem (by omega)] at hx1
   cases hx1
   rw [List.getElem_map,List.getElem_map]
   exact r1
  rw [←this]
  exact nd
 refine callType_codes (Q₁:=fun obj s1=>obj=.ref s.heap.objs.size∧s1={ s with heap:=s.heap.push { cls:=.type "dict",data:=.dict #[] } }) a6S (a8q _) F.entry_dict_init (a9C _ ⟨rfl,rfl⟩) fun obj s1 h1=>?_
 obtain ⟨rfl,rfl⟩:=h1
 have gd:(s.heap.push { cls:=.type "dict",data:=.dict #[] }).get? s.heap.objs.size=some { cls:=.type "dict",data:=.dict #[] }:=Heap.get?_push_size _ rfl
 have T0:Shared.TypeIs { s with heap:=s.heap.push { cls:=.type "dict",data:=.dict #[] } } (.ref s.heap.objs.size) "dict":=⟨_,gd,rfl⟩
 have he1:(s.heap.push { cls:=.type "dict",data:=.dict #[] }).get? l=some (seqObj "list" (ts.map Value.ref).toArray n):=Heap.get?_push_of_some _ he
 have ko:∀ b o,s.heap.get? b=some o→(s.heap.push { cls:=.type "dict",data:=.dict #[] }).get? b=some o:=fun b o e=>Heap.get?_push_of_some _ e
 refine ⟨T0,F.args_dict_init_2 _ _,?_⟩
 unfold Builtin.«dict.__init__»
 refine wpAny_bind ?_
 unfold Builtin.Dict.selfAndRest
 refine wpAny_bind (wpAny_notOrdered_dict T0 ?_)
 show wpAny _ _ (pure (s.heap.objs.size,[Value.ref l])) _ _ _
 refine wpAny_pure ?_
 show wpAny _ _ (Builtin.Dict.updateFrom "dict.__init__" s.heap.objs.size (.ref l) [] .none) _ _ _
 unfold Builtin.Dict.updateFrom
 generalize hP:s.heap.push { cls:=.type "dict",data:=.dict #[] }=hD at gd T0 he1 ko ⊢
 refine wpAny_bind (wpAny_typeOf (T:="list") ⟨_,he1,rfl⟩ ?_)
 rw [if_pos (by decide)]
 refine wpAny_bind (b1p (s:={ s with heap:=hD }) he1 (by show X.A.handled=none;exact I.ok.hd hc) fun h2 tk2 k2=>?_)
 have k2:∀ b o,hD.get? b=some o→h2.get? b=some o:=k2
 rw [if_pos (by rfl)]
 refine wpAny_bind (wpAny_rule (wpAny_bind (wpAny_pyIter_list (a1E (k2 _ _ he1)) ?_)))
 have hD1:s.heap.objs.size < hD.objs.size:=Heap.lt_size gd
 have hD2:s.heap.objs.size < h2.objs.size:=Heap.lt_size (k2 _ _ gd)
 refine wpAny_pure ⟨plainId_quiet a2x _,?_⟩
 have old:∀ b o,s.heap.get? b=some o→b≠s.heap.objs.size∧b≠h2.objs.size:=fun b o e=>⟨Nat.ne_of_lt (Heap.lt_size e),Nat.ne_of_lt (Nat.lt_trans (Heap.lt_size e) hD2)⟩
 have kz:∀ b o,s.heap.get? b=some o→(h2.push { cls:=.type "list_iterator",data:=.fields #[.ref l,rawInt 0] }).get? b=some o:=fun b o e=>Heap.get?_push_of_some _ (k2 b o (ko b o e))
 refine a6h (s:=s) (A:=X.A.in1) (d:=s.heap.objs.size) (I:=h2.objs.size) (l:=l) (kvs:=kvs) (ts:=ts) (h0:=s.heap) (b1q (by show X.A.handled=none;exact I.ok.hd hc) h2.objs.size l (Nat.ne_of_lt (Nat.lt_trans ll hD2)) ts (lts.trans lk)) (by show X.A.units+1+4 < cLine;omega) (by rw [sizeLine_eq];omega) ndk (Nat.ne_of_lt hD2) (Nat.ne_of_gt ll) old (lts.trans lk) prs (fun h' tk' k' dd=>?_)
  kvs.length 0 _ tk2 (Nat.sub_zero _) (Nat.zero_le _) ⟨⟨_,Heap.get?_push_size _ rfl,rfl,rfl⟩,a1E (kz _ _ he)⟩ ⟨_,#[],0,Heap.get?_push_of_some _ (k2 _ _ gd),⟨rfl,rfl,rfl⟩,rfl,by simp,fun x hx=>by simp at hx,by simp⟩ kz
 have J:Inv X pins σ H { s with heap:=h',toks:=tk' }:=I.kept k'
 have nd0:H s.heap.objs.size=none:=I.hok.fresh (Nat.le_refl _)
 obtain ⟨o,es,ep,q1,q2,q3,q4,q5,q6⟩:=dd
 refine ⟨rfl,.ref s.heap.objs.size,_,J.adopt (I.fpOk (Nat.le_refl _) nd0) (NDx.ok ⟨?_,by rw [sizeLine_eq];omega,kvs,rel,o,es,ep,q1,q2,q3,q4,q6⟩),rfl,q _ nd0⟩
 exact beq_eq_false_iff_ne.mpr (Ne.symm (Nat.ne_of_lt I.big))
def rMinE (xs zs:List V) (H:Hp) (Q:VK):Prop:=∃ (a:Addr) (ns:List Int) (z:Int),xs=[.ref a]∧zs=[.int z]∧H a=some (.lst (ns.map V.int))∧Q (.int (if ns=[] then z else (srt ns).headD 0)) H
theorem a8s {X:Cx} (hc:X.calm=true) {pins:List (Addr × Obj)} {s:Shared} {σ:St} {H:Hp} {vs zs:List V} {us ws:List Value} {Q:VK} (I:Inv X pins σ H s) (r:a0A vs us) (rz:a0A zs ws) (h:rMinE vs zs H Q) :
  wpAny (model X.prog X.w) X.A (call (.builtin "min") us (([Str.ofString "default"]:List Str).zip ws)) (EP X pins σ Q) X.xe s:=by
 obtain ⟨a,ns,z0,rfl,rfl,e,q⟩:=h
 obtain ⟨u,rfl,ru⟩:=a3m r
 obtain ⟨d,rfl,rd⟩:=a3m rz
 cases ru
 obtain ⟨tz,rfl⟩:=(show ∃ t,d=Value.int z0 t from rd)
 obtain ⟨_,its,n,rv,he⟩:=(show a0w X.prog X.w H s.heap a (.lst (ns.map V.int)) from I.hok a _ e)
 have hI:=a1x rv
 have li:=a1i hI
 have hlt:=Heap.lt_size he
 show wpAny _ _ (call (.builtin "min") [.ref a] (kwD (.int z0 tz))) _ _ _
 refine kmb_tree F.kind_min F.plain_min F.entry_min (a8e _ _) ?_
 have eB:Builtin.Builtins.bindParams "min" ["key","default"] 0 { kw:=kwD (.int z0 tz) }=pure [none,some (.int z0 tz)]:=rfl
 show wpAny _ X.A.in1 (Builtin.Builtins.bindParams "min" ["key","default"] 0 { kw:=kwD (.int z0 tz) } >>= _) _ _ s
 rw [eB]
 show wpAny _ X.A.in1 (pyIter (.ref a) >>= _) _ _ s
 refine wpAny_bind (wpAny_pyIter_list (a1E he) ?_)
 refine wpAny_bind (wpAny_newList ?_ (Nat.zero_le _))
 refine wpAny_pure ⟨plainId_quiet F.plain_min_loop _,?_⟩
 have sz:(s.heap.push { cls:=.type "list_iterator",data:=.fields #[.ref a,rawInt 0] }).objs.size=s.heap.objs.size+1:=Heap.size_push _ _
 have hS:(s.heap.push { cls:=.type "list_iterator",data:=.fields #[.ref a,rawInt 0] }).objs.size∉[s.heap.objs.size,a]:=fun z=>by
  rw [sz] at z
  simp only [List.mem_cons,List.not_mem_nil,or_false] at z
  rcases z with z | z
  ·exact absurd z (Nat.ne_of_gt (Nat.lt_succ_self _))
  ·rw [←z] at hlt
   exact absurd hlt (Nat.not_lt.mpr (Nat.le_succ _))
 have up:∀ b o,s.heap.get? b=some o→((s.heap.push { cls:=.type "list_iterator",data:=.fields #[.ref a,rawInt 0] }).push { cls:=.type "list",data:=.seq (([]:List Value).toArray) }).get? b=some o:=fun b o eo=>Heap.get?_push_of_some _ (Heap.get?_push_of_some _ eo)
 have ne1:∀ b o,s.heap.get? b=some o→b∉[s.heap.objs.size]:=fun b o eo z=>by
  rw [List.mem_singleton.mp z] at eo
  exact absurd (Heap.lt_size eo) (Nat.lt_irrefl _)
 have ne2:∀ b o,s.heap.get? b=some o→b≠(s.heap.push { cls:=.type "list_iterator",data:=.fields #[.ref a,rawInt 0] }).objs.size:=fun b o eo z=>by
  rw [sz] at z
  rw [z] at eo
  exact absurd (Heap.lt_size eo) (Nat.not_lt.mpr (Nat.le_succ _))
 refine a6L (A:=X.A) (c:=0) (Walks.list (A:=X.A.in1) (by show X.A.handled=none;exact I.ok.hd hc) s.heap.objs.size a (Nat.ne_of_lt hlt) its.toArray) (fun i j=>decide (ns.getD i 0 < ns.getD j 0)) (CmpOf.ints_lt _ (fun i v hv=>hI.int_at i v (by simpa using hv))) _ hS (.int z0 tz)
  ⟨⟨_,Heap.get?_push_of_some _ (Heap.get?_push_size _ rfl),rfl,rfl⟩,a1E (up _ _ he)⟩ (Heap.get?_push_size _ rfl) (fun n0 h' tk hk=>?_) (fun n0 v h' tk hv hk=>?_)
 ·have e0:ns=[]:=List.length_eq_zero_iff.mp (by rw [←li];rw [List.size_toArray] at n0;exact n0)
  rw [if_pos e0] at q
  exact ⟨.int z0,H,I.kept (h':=h') (t':=tk) (fun b o eo=>hk b o (ne1 b o eo) (ne2 b o eo) (up b o eo)),⟨tz,rfl⟩,q⟩
 ·have e0:ns≠[]:=fun z=>by
   rw [z] at li
   rw [List.size_toArray] at n0
   simp at li
   rw [li] at n0
   simp at n0
  rw [if_neg e0] at q
  obtain ⟨t,rfl⟩:=a5u hI e0 hv
  exact ⟨.int _,H,I.kept (h':=h') (t':=tk) (fun b o eo=>hk b o (ne1 b o eo) (ne2 b o eo) (up b o eo)),⟨t,rfl⟩,q⟩
def tMinE (t tk:TA):TE:=fun σ H Q=>t σ H fun vs H1=>tk σ H1 fun zs H2=>rMinE vs zs H2 Q
theorem b1r {X:Cx} {e e2:Expr} {p pos kpos:Pos} {t tk:TA} (hc:X.calm=true) (hg:Gl X "min") (hm:X.mg "min"=none) (ha:PA X [e] t) (hk:PK X [⟨some "default",e2,kpos⟩] tk) (h1:backTo pos (starEach [e] X.env)=(false,eval e X.env) :: backTo pos (starEach [] X.env):=by rfl)
  (h2:((backTo pos (starEach [e] X.env)).any (·.1))=false:=by rfl) (h3:(backToKw pos (keywordEach [⟨some "default",e2,kpos⟩] X.env)).all (·.1.isSome)=true:=by rfl) (h4:(backToKw pos (keywordEach [⟨some "default",e2,kpos⟩] X.env)).any (·.1.isNone)=false:=by rfl) (h5:(backToKw pos (keywordEach [⟨some "default",e2,kpos⟩] X.env)).filterMap (·.1)=[Str.ofString "default"]:=by rfl) :
  PE X (.Call (.Name "min" p) [e] [⟨some "default",e2,kpos⟩] pos) (tMinE t tk):=by
 intro pins s σ H Q I h
 refine wpAny_Call_Name_kw (a2S I hg hm a8d ?_)
 refine callWith_kw (thn (ha pos pins s σ H _ I h) fun us s1 ⟨vs,H1,I1,r,q⟩=>?_) h1 h2 h3 h4
 refine thn (hk pos pins s1 σ H1 _ I1 q) fun ws s2 ⟨zs,H2,I2,rz,q2⟩=>?_
 rw [h5]
 exact a8s hc I2 r rz q2
def RFr (K:PySem.W.Frag) (H:Hp) (x:V) (k:Int × List Int):Prop:=∃ a,x=.ref a∧FAt K H k a
section
variable {prog:Program} {w:World} {A:Around} {E:Value→Shared→Prop} {s:Shared}
theorem eq_prN {x y:Value} {p q:Int × List Int} (hx:PrN s.heap x p) (hy:PrN s.heap y q) (hu:A.units+1 < cLine):SeqAt.EqAt A s x y (decide (p=q)):=by
 intro prog w E Q h
 obtain ⟨a,items,t,u,rfl,_⟩:=id hx
 obtain ⟨b,items2,t2,u2,rfl,_⟩:=id hy
 refine a1C hu (.cons (.inl ⟨_,_,rfl,rfl⟩) (.cons (.inr ⟨_,_,rfl,rfl⟩) .nil)) hx.nest hy.nest ?_
 have e:decide ([Cell.i p.1,Cell.t p.2]=[Cell.i q.1,Cell.t q.2])=decide (p=q):=decide_eq_decide.mpr ⟨fun z=>Prod.ext (Cell.i.inj (List.cons.inj z).1) (Cell.t.inj (List.cons.inj (List.cons.inj z).2).1),fun z=>by rw [z]⟩
 rw [e]
 exact h
end
section
variable {X:Cx} {pins:List (Addr × Obj)} {σ:St} {H:Hp} {s:Shared}
def RIt (K:PySem.W.Frag) (H:Hp) (x:V) (q:(Int × List Int) × Int):Prop:=∃ t a,x=.ref t∧H t=some (.tup [.ref a,.int q.2])∧FAt K H q.1 a
theorem EqK.it (I:Inv X pins σ H s):EqK H s 3 (RIt X.K H):=by
 refine ⟨fun x p q h1 h2=>?_,fun A x y p q u v hA h1 h2 r1 r2=>?_⟩
 ·obtain ⟨t,a,rfl,e1,f1⟩:=h1
  obtain ⟨t',a',e,e2,f2⟩:=h2
  cases e
  rw [e1] at e2
  have e3:=HO.tup.inj (Option.some.inj e2)
  obtain ⟨g1,g2⟩:=List.cons.inj e3
  obtain ⟨g3,_⟩:=List.cons.inj g2
  cases V.ref.inj g1
  exact Prod.ext ((a2d (FAt.is I f1)).inj (a2d (FAt.is I f2))) (V.int.inj g3)
 ·obtain ⟨t,a,rfl,e1,f1⟩:=h1
  obtain ⟨t',a',rfl,e2,f2⟩:=h2
  cases r1;cases r2
  have n1:=a2d (FAt.is I f1)
  have n2:=a2d (FAt.is I f2)
  by_cases hc:t=t'
  ·subst hc
   rw [e1] at e2
   have e3:=HO.tup.inj (Option.some.inj e2)
   obtain ⟨g1,g2⟩:=List.cons.inj e3
   obtain ⟨g3,_⟩:=List.cons.inj g2
   cases V.ref.inj g1
   have:p=q:=Prod.ext (n1.inj n2) (V.int.inj g3)
   rw [decide_eq_true this]
   exact SeqAt.EqAt.same _
  ·refine SeqAt.EqAt.of_refs hc ?_
   obtain ⟨_,its,v1,t1⟩:=a1N (show a0w X.prog X.w H s.heap t (.tup [.ref a,.int p.2]) from I.hok t _ e1)
   obtain ⟨_,its2,v2,t2⟩:=a1N (show a0w X.prog X.w H s.heap t' (.tup [.ref a',.int q.2]) from I.hok t' _ e2)
   obtain ⟨i1,i2,rfl,q1,q2⟩:=v1.two
   obtain ⟨j1,j2,rfl,q3,q4⟩:=v2.two
   obtain ⟨k1,rfl⟩:=q2
   obtain ⟨k2,rfl⟩:=q4
   cases q1
   cases q3
   have qq:=SeqAt.RcAt.tuples (A:=A) (s:=s) (e:=fun j=>if j=0 then decide (p.1=q.1) else decide (p.2=q.2)) t1 t2 (by omega) (fun j h1 h2=>by
    match j,h1,h2 with
    | 0,_,_=>exact eq_prN n1 n2 (by show A.units+1+1 < cLine;omega)
    | 1,_,_ =>
     have g:=SeqAt.EqAt.int_int (A:=A.in1) (s:=s) p.2 k1 q.2 k2
     rw [Bool.beq_eq_decide_eq] at g
     exact g
    | j+2,h,_=>exact absurd h (by show ¬ j+2 < 2;omega))
   have e:((List.range (min [Value.ref a,Value.int p.2 k1].toArray.size [Value.ref a',Value.int q.2 k2].toArray.size)).all (fun j=>if j=0 then decide (p.1=q.1) else decide (p.2=q.2)) && [Value.ref a,Value.int p.2 k1].toArray.size == [Value.ref a',Value.int q.2 k2].toArray.size)=decide (p=q):=by
    show ((List.range 2).all (fun j=>if j=0 then decide (p.1=q.1) else decide (p.2=q.2)) && true)=decide (p=q)
    obtain ⟨a1,a2⟩:=p
    obtain ⟨b1,b2⟩:=q
    by_cases z1:a1=b1 <;> by_cases z2:a2=b2 <;> simp [List.range,List.range.loop,z1,z2]
   rw [e] at qq
   exact qq
end
def b0l (K:PySem.W.Frag):R2:=fun x y H Q=>∃ a b xs ys ms ns,x=.ref a∧y=.ref b∧H a=some (.lst xs)∧H b=some (.lst ys)∧Paired (RIt K H) xs ms∧Paired (RIt K H) ys ns∧Q (.bl (decide (ms=ns))) H
theorem a9D {X:Cx} (hu:X.A.units+6 < cLine):OpR X (compareOp .Eq) (b0l X.K):=by
 intro pins s σ H x y v u Q I rx ry h
 obtain ⟨a,b,xs,ys,ws,vs,rfl,rfl,e1,e2,p1,p2,q⟩:=h
 cases rx;cases ry
 exact a7F (A:=X.A) (n:=3) (EqK.it I) I.hok e1 e2 p1 p2 (by omega) _ _ _ _ ⟨.bl _,H,I,rfl,q⟩
section
variable {prog:Program} {w:World} {A:Around} {E:Value→Shared→Prop} {s:Shared}
theorem a8t {a:Addr} {vs:List Value} {n:Nat} {P:PySem.Fin→Shared→Prop} {κ:SortKind} {lv:Value→Value→Bool} (asy:∀ x y,lv x y=true→lv y x=false) (ntr:∀ x y z,lv y x=false→lv z y=false→lv z x=false) (ho:s.heap.get? a=some (seqObj "list" vs.toArray n)) (hz:vs.length≤100000)
  (hk:2≤vs.length→∀ h1:Heap,(∀ b o,b≠a→s.heap.get? b=some o→h1.get? b=some o)→∀ Q:SortKind→Shared→Prop,Q κ { s with heap:=h1 }→wpAny (model prog w) A (keyKind' vs.toArray) Q E { s with heap:=h1 })
  (hlt:∀ h1:Heap,(∀ b o,b≠a→s.heap.get? b=some o→h1.get? b=some o)→∀ x y,x∈vs→y∈vs→∀ (C:Bool→Shared→Prop) (E':Value→Shared→Prop),C (lv x y) { s with heap:=h1 }→wpAny (model prog w) A (keyLt' κ x y) C E' { s with heap:=h1 })
  (h:∀ (h':Heap) (out:List Value) (c:Nat),out.Perm vs→out.Pairwise (fun x y=>lv y x=false)→h'.get? a=some (seqObj "list" out.toArray c)→(∀ b o,b≠a→s.heap.get? b=some o→h'.get? b=some o)→P (.done (.ret .none)) { s with heap:=h' }) :
  wpAny (model prog w) A (Builtin.«list.sort» ⟨[.ref a],[]⟩) P E s:=by
 have ha:a < s.heap.objs.size:=Heap.lt_size ho
 obtain ⟨e1,ho1⟩:∃ e1,(s.heap.update a (Obj.mapSeq fun _=>(#[]:Array Value))).get? a=some (seqObj "list" #[] e1):=⟨_,get?_update_seq ho fun _=>#[]⟩
 rw [list_sort_plain]
 refine wpAny_bind (listItems_at ho rfl (wpAny_bind (listUpdate_at ho rfl ?_ (by rw [List.size_toArray,sizeLine_eq];omega) (Nat.zero_le _))))
 refine wpAny_bind (seqEpoch_at ho1 rfl (wpAny_bind (wpAny_newTuple ?_ (by show vs.length≤_;rw [sizeLine_eq];omega))))
 refine wpAny_bind (wpAny_newList ?_ (Nat.zero_le _))
 refine wpAny_holding ?_
 have k1:∀ b o,b≠a→s.heap.get? b=some o→(((s.heap.update a (Obj.mapSeq fun _=>(#[]:Array Value))).push (seqObj "tuple" vs.toArray 0)).push (seqObj "list" #[] 0)).get? b=some o:=fun b o hb e =>
  Heap.get?_push_of_some _ (Heap.get?_push_of_some _ ((Heap.get?_update_ne _ _ _ _ hb).trans e))
 have ho6:(((s.heap.update a (Obj.mapSeq fun _=>(#[]:Array Value))).push (seqObj "tuple" vs.toArray 0)).push (seqObj "list" #[] 0)).get? a=some (seqObj "list" #[] e1):=Heap.get?_push_of_some _ (Heap.get?_push_of_some _ ho1)
 show wpAny (model prog w) A _ P E { s with heap:=((s.heap.update a (Obj.mapSeq fun _=>(#[]:Array Value))).push (seqObj "tuple" vs.toArray 0)).push (seqObj "list" #[] 0) }
 generalize (((s.heap.update a (Obj.mapSeq fun _=>(#[]:Array Value))).push (seqObj "tuple" vs.toArray 0)).push (seqObj "list" #[] 0))=h1 at k1 ho6 ⊢
 dsimp only
 have last:∀ (out:List Value),∃ c,(h1.update a (Obj.mapSeq fun _=>out.toArray)).get? a=some (seqObj "list" out.toArray c)∧(∀ b o,b≠a→s.heap.get? b=some o→(h1.update a (Obj.mapSeq fun _=>out.toArray)).get? b=some o):=fun out =>
  ⟨_,get?_update_seq ho6 fun _=>out.toArray,fun b o hb e=>(Heap.get?_update_ne _ _ _ _ hb).trans (k1 b o hb e)⟩
 by_cases h2:vs.toArray.size < 2
 ·rw [if_pos h2,if_pos h2]
  refine wpAny_bind (wpAny_pure ?_)
  rw [StateT.run_pure]
  refine wpAny_bind (wpAny_pure ?_)
  dsimp only
  refine wpAny_bind (seqEpoch_at ho6 rfl ?_)
  have e2:Array.map (fun x=>x.snd) (arrOf (SortSt.mk' general' (vs.toArray.zip vs.toArray) #[] 7 none))=vs.toArray:=by
   show Array.map (fun x=>x.snd) (vs.toArray.zip vs.toArray)=vs.toArray
   apply Array.toList_inj.mp
   simp [List.map_snd_zip]
  rw [e2]
  rw [List.size_toArray] at h2
  obtain ⟨c,hc,kk⟩:=last vs
  refine wpAny_bind (listUpdate_at ho6 rfl ?_ (Nat.zero_le _) (by rw [List.size_toArray,sizeLine_eq];omega))
  simp only [bne_self_eq_false,Bool.false_eq_true,if_false]
  refine wpAny_pure (h _ vs c (List.Perm.refl _) ?_ hc kk)
  match vs,h2 with
  | [],_=>exact .nil
  | [x],_=>exact List.pairwise_singleton _ _
  | x :: y :: r,z=>simp at z;omega
 ·rw [if_neg h2,if_neg h2]
  rw [List.size_toArray] at h2
  refine wpAny_bind (hk (by omega) h1 k1 _ ?_)
  have za:(vs.toArray.zip vs.toArray).toList=vs.map fun v=>(v,v):=by
   rw [Array.toList_zip]
   clear hlt hk h hz ho last k1 ho6 h2 ho1
   induction vs with
   | nil=>rfl
   | cons v r ih=>simp [List.zip]
  have zs:(vs.toArray.zip vs.toArray).size=vs.length:=by simp
  have C:Cmp prog w A E { s with heap:=h1 } κ (fun x y=>lv x.1 y.1) (fun x=>x.1=x.2∧x.2∈vs):=by
   intro x y st Q hx hy hκ q
   rw [lt'_eq]
   refine wpS_bind (wpS_get ?_)
   rw [hκ]
   refine wpS_bind (wpS_lift (wpAny_attempt (hlt h1 k1 _ _ (by rw [hx.1];exact hx.2) (by rw [hy.1];exact hy.2) _ _ ⟨rfl,?_⟩)))
   exact wpS_pure q
  have sa:SA (fun x y=>lv x.1 y.1) (fun x=>x.1=x.2∧x.2∈vs) (vs.toArray.zip vs.toArray):=by
   refine ⟨⟨fun x y q=>asy _ _ q,fun x y z q1 q2=>ntr _ _ _ q1 q2⟩,fun x hx=>?_⟩
   ·rw [za] at hx
    obtain ⟨v,hv,rfl⟩:=List.mem_map.mp hx
    exact ⟨rfl,hv⟩
  refine wpAny_bind (wpAny_mono (a4m C sa (st:=SortSt.mk' κ (vs.toArray.zip vs.toArray) #[] 7 none) (Q:=fun _ st'=>SB κ (vs.toArray.zip vs.toArray) st'∧Srt (fun x y=>lv x.1 y.1) (arrOf st') 0 (vs.toArray.zip vs.toArray).size) ⟨Array.Perm.refl _,rfl,rfl⟩ rfl fun st' a1 a2=>⟨a1,a2⟩) ?_ fun _ _ e=>e)
  rintro ⟨⟨⟩,st'⟩ s' ⟨rfl,hB,hS⟩
  dsimp only
  rw [zs] at hS
  have pm0:=Array.perm_iff_toList_perm.mp hB.perm
  rw [za] at pm0
  have sz:(arrOf st').size=vs.length:=by rw [hB.size,zs]
  have inv:∀ x∈(arrOf st').toList,x.1=x.2:=fun x hx=>by
   obtain ⟨v,hv,rfl⟩:=List.mem_map.mp (pm0.mem_iff.mp hx)
   rfl
  have hout:Array.map (fun x=>x.snd) (arrOf st')=((arrOf st').toList.map Prod.snd).toArray:=by
   apply Array.toList_inj.mp
   simp
  have pm:((arrOf st').toList.map Prod.snd).Perm vs:=by
   have q:=pm0.map Prod.snd
   rw [List.map_map] at q
   have e:vs.map (Prod.snd ∘ fun v:Value=>(v,v))=vs:=by
    show vs.map (fun v=>v)=vs
    exact List.map_id' vs
   rw [e] at q
   exact q
  have pw:((arrOf st').toList.map Prod.snd).Pairwise (fun x y=>lv y x=false):=by
   rw [List.pairwise_map,List.pairwise_iff_getElem]
   intro i j hi hj hij
   have g:∀ {i:Nat} (h:i < (arrOf st').toList.length),(arrOf st').toList[i]=el (arrOf st') i:=fun {i} h=>by
    have e:=a1f (xs:=arrOf st') (i:=i) (by rw [Array.length_toList] at h;exact h)
    rw [List.getElem?_eq_getElem h] at e
    exact Option.some.inj e
   have q:=hS i j (Nat.zero_le _) hij (by rw [Array.length_toList] at hj;omega)
   rw [←g hi,←g hj] at q
   have q:lv ((arrOf st').toList[j]).1 ((arrOf st').toList[i]).1=false:=q
   rw [inv _ (List.getElem_mem hj),inv _ (List.getElem_mem hi)] at q
   exact q
  obtain ⟨c,hc,kk⟩:=last ((arrOf st').toList.map Prod.snd)
  refine wpAny_bind (seqEpoch_at ho6 rfl ?_)
  rw [hout]
  refine wpAny_bind (listUpdate_at ho6 rfl ?_ (Nat.zero_le _) (by rw [List.size_toArray,List.length_map,Array.length_toList,sz,sizeLine_eq];omega))
  rw [hB.failed]
  simp only [bne_self_eq_false,Bool.false_eq_true,if_false]
  exact wpAny_pure (h _ _ c pm pw hc kk)
end
abbrev Qi:=(Int × List Int) × Int
def a5f (p q:Qi):Bool:=if p.1=q.1 then decide (p.2 < q.2) else a1D p.1 q.1
theorem a5a {p q:Qi} (h:a5f p q=true):a5f q p=false:=by
 unfold a5f at *
 by_cases e:p.1=q.1
 ·rw [if_pos e] at h
  rw [if_pos e.symm]
  have:=of_decide_eq_true h
  exact decide_eq_false (by omega)
 ·rw [if_neg e] at h
  rw [if_neg (Ne.symm e)]
  exact a8h h
theorem a6i {p q:Qi} (ne:p≠q) (h:a5f p q=false):a5f q p=true:=by
 unfold a5f at *
 by_cases e:p.1=q.1
 ·rw [if_pos e] at h
  rw [if_pos e.symm]
  have h1:=of_decide_eq_false h
  have h2:p.2≠q.2:=fun z=>ne (Prod.ext e z)
  exact decide_eq_true (by omega)
 ·rw [if_neg e] at h
  rw [if_neg (Ne.symm e)]
  exact a5Z _ _ e h
theorem b1s {p q r:Qi} (h1:a5f p q=true) (h2:a5f q r=true):a5f p r=true:=by
 unfold a5f at *
 by_cases e1:p.1=q.1
 ·rw [if_pos e1] at h1
  by_cases e2:q.1=r.1
  ·rw [if_pos e2] at h2
   rw [if_pos (e1.trans e2)]
   have:=of_decide_eq_true h1
   have:=of_decide_eq_true h2
   exact decide_eq_true (by omega)
  ·rw [if_neg e2] at h2
   rw [if_neg (fun z=>e2 (e1.symm.trans z)),e1]
   exact h2
 ·rw [if_neg e1] at h1
  by_cases e2:q.1=r.1
  ·rw [if_neg (fun z=>e1 (z.trans e2.symm)),←e2]
   exact h1
  ·rw [if_neg e2] at h2
   have t:=a4o _ _ _ h1 h2
   by_cases e3:p.1=r.1
   ·rw [e3,a1O] at t
    cases t
   ·rw [if_neg e3]
    exact t
theorem a9E {p q r:Qi} (h1:a5f q p=false) (h2:a5f r q=false):a5f r p=false:=by
 by_cases e1:q=p
 ·rw [←e1];exact h2
 by_cases e2:r=q
 ·rw [e2];exact h1
 exact a5a (b1s (a6i e1 h1) (a6i e2 h2))
open Classical in
noncomputable def qOf (h:Heap) (v:Value):Qi:=if e:∃ q,PiN h v q then Classical.choose e else ((0,[]),0)
theorem qOf_eq {h:Heap} {v:Value} {q:Qi} (t:PiN h v q):qOf h v=q:=by
 have e:∃ q,PiN h v q:=⟨q,t⟩
 unfold qOf
 rw [dif_pos e]
 exact (Classical.choose_spec e).inj t
section
variable {prog:Program} {w:World} {A:Around} {E:Value→Shared→Prop} {s:Shared}
theorem a5z {x y:Value} {p q:Qi} {C:Bool→Shared→Prop} (hx:PiN s.heap x p) (hy:PiN s.heap y q) (hu:A.units+4 < cLine) (h:C (a5f p q) s):wpAny (model prog w) A (keyLt' (tuples' false) x y) C E s:=by
 obtain ⟨b,items,a,t,rfl,⟨o,ho,hc,n,hd⟩,hi,pa⟩:=hx
 obtain ⟨b2,items2,a2,t2,rfl,⟨o2,ho2,hc2,n2,hd2⟩,hi2,pa2⟩:=hy
 refine kat_lt ho hd ho2 hd2 ?_
 have z1:items.size=2:=by rw [←Array.length_toList,hi];rfl
 have z2:items2.size=2:=by rw [←Array.length_toList,hi2];rfl
 rw [hi,hi2,z1,z2]
 show KatLex prog w A false (decide (2 < 2)) C [(.ref a,.ref a2),(.int p.2 t,.int q.2 t2)] 0 s
 refine kat_cons (a1C (by omega) (.cons (.inl ⟨_,_,rfl,rfl⟩) (.cons (.inr ⟨_,_,rfl,rfl⟩) .nil)) pa.nest pa2.nest ?_)
 unfold a5f at h
 by_cases e:p.1=q.1
 ·rw [if_pos e] at h
  rw [show decide ([Cell.i p.1.1,Cell.t p.1.2]=[Cell.i q.1.1,Cell.t q.1.2])=true from decide_eq_true (by rw [e])]
  refine kat_yes (kat_cons (wpAny_eqBool_int ?_))
  by_cases e2:p.2=q.2
  ·rw [show (p.2 == q.2)=true by simp [e2]]
   refine kat_yes (kat_nil ?_)
   rw [e2,decide_eq_false (by omega)] at h
   exact h
  ·rw [show (p.2 == q.2)=false by simp [e2]]
   exact kat_no (kat_one _ _ (lt_int h))
 ·rw [if_neg e] at h
  rw [show decide ([Cell.i p.1.1,Cell.t p.1.2]=[Cell.i q.1.1,Cell.t q.1.2])=false from decide_eq_false (fun z=>e (by
   have z1:=(List.cons.inj z).1
   have z2:=(List.cons.inj (List.cons.inj z).2).1
   exact Prod.ext (Cell.i.inj z1) (Cell.t.inj z2)))]
  exact kat_no (kat_one _ _ (a4s pa pa2 hu h))
end
def rLtF (K:PySem.W.Frag):R2:=fun x y H Q=>∃ p q,RFr K H x p∧RFr K H y q∧Q (.bl (a1D p q)) H
theorem a6j {X:Cx} {pins:List (Addr × Obj)} {σ:St} {H:Hp} {s:Shared} (I:Inv X pins σ H s) {x:V} {v:Value} {q:Int × List Int} (r:a0U x v) (h:RFr X.K H x q):PrN s.heap v q:=by
 obtain ⟨a,rfl,fa⟩:=h
 cases r
 exact a2d (FAt.is I fa)
theorem op_ltF {X:Cx} (hu:X.A.units+4 < cLine):OpR X (compareOp .Lt) (rLtF X.K):=by
 intro pins s σ H x y v u Q I rx ry h
 obtain ⟨p,q,h1,h2,qq⟩:=h
 exact a4s (a6j I rx h1) (a6j I ry h2) hu ⟨.bl _,H,I,rfl,qq⟩
def rGeF (K:PySem.W.Frag):R2:=fun x y H Q=>∃ p q,RFr K H x p∧RFr K H y q∧Q (.bl (!a1D p q)) H
theorem op_geF {X:Cx} (hu:X.A.units+4 < cLine):OpR X (compareOp .GtE) (rGeF X.K):=by
 intro pins s σ H x y v u Q I rx ry h
 obtain ⟨p,q,h1,h2,qq⟩:=h
 exact a9t (a6j I rx h1) (a6j I ry h2) hu ⟨.bl _,H,I,rfl,qq⟩
theorem rit_pi {X:Cx} {pins:List (Addr × Obj)} {σ:St} {H:Hp} {s:Shared} (I:Inv X pins σ H s) {x:V} {v:Value} {q:Qi} (r:a0U x v) (h:RIt X.K H x q):PiN s.heap v q:=by
 obtain ⟨t,a,rfl,e,fa⟩:=h
 cases r
 obtain ⟨_,its,v1,t1⟩:=a1N (show a0w X.prog X.w H s.heap t (.tup [.ref a,.int q.2]) from I.hok t _ e)
 obtain ⟨i1,i2,rfl,q1,q2⟩:=v1.two
 obtain ⟨k1,rfl⟩:=q2
 cases q1
 exact ⟨t,_,a,k1,rfl,t1,rfl,a2d (FAt.is I fa)⟩
def b0m:Value→Addr
 | .ref a=>a
 | _=>0
theorem a8u {X:Cx} {pins:List (Addr × Obj)} {σ:St} {H:Hp} {s:Shared} (I:Inv X pins σ H s):∀ {ys:List V} {its:List Value} {ws:List Qi},a0A ys its→Paired (RIt X.K H) ys ws →
  its=(its.map b0m).map Value.ref∧ys=(its.map b0m).map V.ref∧ws=its.map (qOf s.heap)∧∀ v∈its,PiN s.heap v (qOf s.heap v)∧RIt X.K H (.ref (b0m v)) (qOf s.heap v)
 | [],its,ws,rv,pr=>by
  cases rv;cases pr
  exact ⟨rfl,rfl,rfl,fun v hv=>by cases hv⟩
 | y :: ys,_,_,rv,pr=>by
  cases rv with
  | cons r1 rv =>
   cases pr with
   | cons p1 pr =>
    obtain ⟨h1,h2,h3,h4⟩:=a8u I rv pr
    have pi:=rit_pi I r1 p1
    have eq:=qOf_eq pi
    obtain ⟨t,a,rfl,e,fa⟩:=p1
    cases r1
    refine ⟨?_,?_,?_,fun v hv=>?_⟩
    ·show _ :: _=_ :: _
     rw [←h1]
     rfl
    ·show _ :: _=_ :: _
     rw [←h2]
     rfl
    ·show _ :: _=_ :: _
     rw [←h3,eq]
    ·rcases List.mem_cons.mp hv with rfl | hv
     ·rw [eq]
      exact ⟨pi,t,a,rfl,e,fa⟩
     ·exact h4 v hv
def a8v (K:PySem.W.Frag):List V→Hp→VK→Prop:=fun xs H Q=>∃ l ys ws,xs=[.ref l]∧H l=some (.lst ys)∧Paired (RIt K H) ys ws∧ws.length≤100000 ∧
 ∀ p H' out,a0y H H'→H p=none→H' p=some (.lst out)→out.Perm ys→Q (.ref p) H'
theorem a9F {X:Cx} (hc:X.calm=true) (hu:X.A.units+10 < cLine):a2g X (.builtin "sorted") (a8v X.K):=by
 intro pins s σ H xs us Q I r h
 obtain ⟨l,ys,ws,rfl,e,hw,h64,q⟩:=h
 obtain ⟨u,rfl,rx⟩:=a3m r
 cases rx
 obtain ⟨z,its,n,rv,he⟩:=(show a0w X.prog X.w H s.heap l (.lst ys) from I.hok l _ e)
 have ly:ys.length=ws.length:=hw.length
 have li:ys.length=its.length:=rv.length
 obtain ⟨i1,i2,i3,i4⟩:=a8u I rv hw
 refine Calls.call_function_entry kind_sorted plain_sorted entry_sorted (args_sorted1 _) ?_
 unfold Builtin.«sorted»
 refine wpAny_bind (m:=checkCount "sorted" 1 1 _) (wpAny_pure ?_)
 refine wpAny_bind (collect_list ⟨_,he,rfl,n,rfl⟩ ?_ (by rw [sizeLine_eq];omega))
 have k1:∀ b o,s.heap.get? b=some o→((s.heap.push (seqObj "list" #[] 0)).update s.heap.objs.size (Obj.mapSeq (·++its.toArray))).get? b=some o:=fun b o q=>by
  have lt:b < s.heap.objs.size:=Heap.lt_size q
  rw [Heap.get?_update_ne _ _ _ _ (Nat.ne_of_lt lt),Heap.get?_push_ne _ _ _ (Nat.ne_of_lt lt)]
  exact q
 refine wpAny_bind (wpAny_newList ?_ (by rw [sizeLine_eq];omega))
 show wpAny _ _ _ _ _ { s with heap:=((s.heap.push (seqObj "list" #[] 0)).update s.heap.objs.size (Obj.mapSeq (·++its.toArray))).push (seqObj "list" its.toArray 0) }
 generalize (s.heap.push (seqObj "list" #[] 0)).update s.heap.objs.size (Obj.mapSeq (·++its.toArray))=h1 at k1 ⊢
 have hoL:(h1.push (seqObj "list" its.toArray 0)).get? h1.objs.size=some (seqObj "list" its.toArray 0):=Heap.get?_push_size _ rfl
 have k2:∀ b o,s.heap.get? b=some o→(h1.push (seqObj "list" its.toArray 0)).get? b=some o:=fun b o e=>Heap.get?_push_of_some _ (k1 b o e)
 have nL:∀ b o,h1.get? b=some o→b≠h1.objs.size:=fun b o e=>Nat.ne_of_lt (Heap.lt_size e)
 have I1:Inv X pins σ H { s with heap:=h1,toks:=s.toks }:=I.kept k1
 have hLn:H h1.objs.size=none:=I1.hok.fresh (Nat.le_refl _)
 have at1:∀ v∈its,PiN (h1.push (seqObj "list" its.toArray 0)) v (qOf s.heap v):=fun v hv=>(i4 v hv).1.keep2 k2
 refine wpAny_bind (wpAny_holding (wpAny_call_entry slot_list_sort ⟨_,hoL,rfl⟩ entry_list_sort (a8t (s:={ s with heap:=h1.push (seqObj "list" its.toArray 0) }) (κ:=tuples' false) (lv:=fun x y=>a5f (qOf s.heap x) (qOf s.heap y)) (fun _ _ z=>a5a z) (fun _ _ _ z1 z2=>a9E z1 z2) hoL (by omega) (fun h2 h3 k3 Q3 q3=>?_) (fun h3 k3 x y hx hy C E' q3=>?_) fun h' out c pm srt hL kp=>⟨_,rfl,?_⟩) (args_list_sort _)))
 ·exact a3T (s:={ s with heap:=h3 }) (by omega) (fun v hv=>⟨_,(at1 v hv).keep hoL rfl k3⟩) q3
 ·exact a5z (s:={ s with heap:=h3 }) ((at1 x hx).keep hoL rfl k3) ((at1 y hy).keep hoL rfl k3) (by show X.A.units+1+1+4 < cLine;omega) q3
 ·have kh:∀ b o,h1.get? b=some o→h'.get? b=some o:=fun b o e=>kp b o (nL b o e) (Heap.get?_push_of_some _ e)
  have io:∀ v∈out,v∈its:=fun v hv=>pm.mem_iff.mp hv
  have eo:a0A (out.map fun v=>V.ref (b0m v)) out:=by
   have key:∀ v∈out,Value.ref (b0m v)=v:=fun v hv=>by
    have hv:=io v hv
    rw [i1] at hv
    obtain ⟨a,_,rfl⟩:=List.mem_map.mp hv
    rfl
   clear srt hL pm io
   induction out with
   | nil=>exact .nil
   | cons v r ih=>exact .cons (show v=_ from (key v (.head _)).symm) (ih fun v hv=>key v (.tail _ hv))
  have I2:Inv X pins σ (upd H h1.objs.size (.lst (out.map fun v=>V.ref (b0m v)))) { s with heap:=h',toks:=s.toks }:=I1.laid (t':=s.toks) kh (Nat.le_refl _) ⟨by rw [List.length_map,pm.length_eq,sizeLine_eq];omega,_,c,eo,hL⟩
  have sm:=a0c hLn (.lst (out.map fun v=>V.ref (b0m v)))
  have pp:(out.map fun v=>V.ref (b0m v)).Perm ys:=by rw [i2,List.map_map];exact pm.map _
  exact wpAny_pure ⟨_,rfl,.ref h1.objs.size,_,I2,rfl,q _ _ _ sm hLn a0b pp⟩
end L2
namespace K75
open PySem L2
def top (i:Nat):Stmt:=PySem.Challenge.pw_lettertoll_k75_floors_judged.main.body.getD i (.Pass ⟨0,0,0,0⟩)
abbrev a2N:Stmt:=top 5
abbrev a3U:Stmt:=top 6
abbrev a5A:Stmt:=top 7
abbrev a6V:Stmt:=top 8
abbrev a1t:Stmt:=top 9
abbrev a1S:Stmt:=top 10
abbrev sFH:Stmt:=top 11
abbrev sIF:Stmt:=top 12
abbrev sHo:Stmt:=top 13
abbrev a6W:Stmt:=top 15
abbrev a2O:Stmt:=top 16
abbrev a2o:Stmt:=top 17
abbrev a1G:Stmt:=top 18
abbrev a6X:Stmt:=top 19
abbrev sMv:Stmt:=top 20
abbrev b1J:Stmt:=top 21
abbrev sLH:Stmt:=top 22
abbrev sLO:Stmt:=top 23
abbrev sLC:Stmt:=top 24
abbrev a3y:Stmt:=top 25
abbrev a9G:Stmt:=top 26
section
variable {P:Program} {w:World} {K:PySem.W.Frag} {mg:Str→Option Value} {base:Heap} {f:Addr} {fd:FuncData}
def a5b (K:PySem.W.Frag):Sp:=fun vs H Q _=>∃ (a:Addr) (ns:List Int) (k:Int),vs=[.ref a,.int k]∧SqL K H a (ns.map V.int)∧0≤k∧∀ i,Q (.int i) H
theorem scCell:a0C ["script","k"] ["script","k"] (a0g a6W):=⟨rfl,rfl,rfl,by decide +kernel,rfl,by decide +kernel,by decide +kernel⟩
theorem b1t (F:Fun K "_law_cell_at" "_law_cell_at" a6W f fd) (ml:mg "len"=none):a1X P w K mg base CX0 1 f fd ["script","k"] (a5b K):=by
 refine F.ok (k:=0) scCell (fun vs H Q E h=>?_) (fun cdv A outer s H vs Q E hr h=>?_)
 ·obtain ⟨a,ns,k,rfl,_⟩:=h
  rfl
 obtain ⟨a,ns,k,rfl,hS,h0,q⟩:=h
 refine ⟨_,a0f (a0J (a0n a8Y (pv 1) (a0j a0h (by rfl) ml PySem.boot_len (a0a (pv 0) a0e)) (nomark _)) (a0i (a0t (a0D a1a (pv 0) (pv 1) (fun _ _=>rfl)))) a0s) (a0i (a0t a0d)),?_⟩
 refine ⟨_,rfl,_,rfl,a,_,rfl,.inl hS,_,_,rfl,rfl,_,rfl,?_⟩
 refine a1g (fun c=>?_) (fun c=>q 0)
 have c1:k < ((ns.map V.int).length:Int):=of_decide_eq_true c
 obtain ⟨n,rfl⟩:∃ n:Nat,k=n:=⟨k.toNat,by omega⟩
 have hn:n < ns.length:=by rw [List.length_map] at c1;omega
 exact ⟨_,rfl,_,rfl,a,_,_,_,rfl,rfl,hS,a3N (List.getElem?_eq_getElem hn),q _⟩
def a3c:Sp:=fun vs H Q _=>∃ c:Int,vs=[.int c]∧∀ i,1≤i→i≤B30→Q (.int i) H
theorem a6k:a0C ["cell","rest"] ["cell"] (a0g a2O):=⟨rfl,rfl,rfl,by decide +kernel,rfl,by decide +kernel,by decide +kernel⟩
theorem a8w (F:Fun K "_law_amount" "_law_amount" a2O f fd):a1X P w K mg base CX0 1 f fd ["cell"] a3c:=by
 refine F.ok (k:=0) a6k (fun vs H Q E h=>?_) (fun cdv A outer s H vs Q E hr h=>?_)
 ·obtain ⟨c,rfl,_⟩:=h
  rfl
 obtain ⟨c,rfl,q⟩:=h
 refine ⟨_,a0f (a0u (i:=1) a6k.nd rfl (Or.inl rfl) (a0m a1z (pv 0) a0d))
  (a0f (a0J (a0n a0V (a0m a0N (pv 0) a0d) a0d (nomark _)) (a0i (a0t (a0m a0G a0d (a0m a0N (pv 1) (a0m a2T a0d a0d))))) a0s)
  (a0f (a0J (a0n a0V (a0m a0N (pv 0) a0d) a0d (nomark _)) (a0i (a0t (a0m a0W (a0m a2T a0d a0d) (a0m a0N (pv 1) a0d)))) a0s)
  (a0f (a0J (a0n a0V (a0m a0N (pv 0) a0d) a0d (nomark _)) (a0i (a0t (a0m a0G a0d (a0m a0N (pv 1) a0d)))) a0s)
  (a0i (a0t (a0m a0G a0d (a0m a0N (pv 1) a0d))))))),?_⟩
 refine ⟨_,rfl,_,_,rfl,rfl,⟨by decide,by decide⟩,?_⟩
 refine ⟨_,rfl,_,_,rfl,rfl,(by show (0:Int) < _;decide),rfl,_,rfl,?_⟩
 refine a1g (fun _=>⟨_,rfl,_,_,rfl,rfl,⟨by decide,by decide,by decide⟩,_,_,rfl,rfl,(by show (0:Int) < _;decide),_,_,rfl,rfl,q _ (by rw [e30];unfold B30;omega) (by rw [e30];unfold B30;omega)⟩) (fun _=>?_)
 refine ⟨_,rfl,_,_,rfl,rfl,(by show (0:Int) < _;decide),rfl,_,rfl,?_⟩
 refine a1g (fun _=>⟨_,_,rfl,rfl,⟨by decide,by decide,by decide⟩,_,rfl,_,_,rfl,rfl,(by show (0:Int) < _;decide),_,_,rfl,rfl,q _ (by rw [e30];unfold B30;omega) (by rw [e30];unfold B30;omega)⟩) (fun _=>?_)
 refine ⟨_,rfl,_,_,rfl,rfl,(by show (0:Int) < _;decide),rfl,_,rfl,?_⟩
 refine a1g (fun _=>⟨_,rfl,_,_,rfl,rfl,(by show (0:Int) < _;decide),_,_,rfl,rfl,q _ (by omega) (by unfold B30;omega)⟩) (fun _=>?_)
 exact ⟨_,rfl,_,_,rfl,rfl,(by show (0:Int) < _;decide),_,_,rfl,rfl,q _ (by omega) (by unfold B30;omega)⟩
end
abbrev Mv:=Int × Int × (Int × List Int)
abbrev Rw:=Int × Int × List Int
def wl (ws:List Int) (st:Int):Int:=((srt ws).take (ws.length - st.toNat)).sum
def fin (ws:List Int) (r:Rw):Mv:=if r.2.2=[] then (r.1,0,(r.2.1,[])) else (r.1,r.2.2.headD 0 * wl ws r.2.1,(r.2.1,r.2.2.map (· - r.2.2.headD 0)))
def rw1 (ws:List Int) (st:Int) (gs:List Int):List Rw:=if 1 < gs.length∨st=(ws.length:Int) - 1 then [(0,st+1,srt gs.tail)] else []
def rw2 (ps ws:List Int) (st:Int) (gs:List Int) (m:Nat):List Rw:=if st+(gs.length:Int) - 1+(m:Int)≤(ws.length:Int) then [((m:Int),st,srt (gs.tail++(srt ps).take m))] else []
def rws (ps ws:List Int) (st:Int) (gs:List Int):Nat→List Rw
 | 0=>rw1 ws st gs
 | n+1=>rws ps ws st gs n++rw2 ps ws st gs (n+2)
def mvs (ps ws:List Int) (st:Int) (gs:List Int):List Mv:=(rws ps ws st gs (ps.length - 1)).map (fin ws)
theorem a2p (ps ws:List Int) (st:Int) (gs:List Int):∀ n,(rws ps ws st gs n).length≤n+1
 | 0=>by unfold rws rw1;split <;> simp
 | n+1=>by
  unfold rws
  rw [List.length_append]
  have:=a2p ps ws st gs n
  unfold rw2
  split <;> simp <;> omega
def Bw (ns:List Int):Prop:=∀ x∈ns,0≤x∧x≤B30
def Bg (ns:List Int):Prop:=∀ x∈ns,0≤x∧x≤1000 * B30
theorem sum_bd {ns:List Int} (h:Bw ns):0≤ns.sum∧ns.sum≤ns.length * B30:=by
 induction ns with
 | nil=>simp
 | cons a t ih =>
  have h1:=h a (.head _)
  have h2:=ih fun x hx=>h x (.tail _ hx)
  rw [List.sum_cons,List.length_cons]
  have e:(((t.length+1:Nat):Int)) * B30=t.length * B30+B30:=by push_cast;rw [Int.add_mul];omega
  rw [e]
  omega
theorem wl_bd {ws:List Int} (h:Bw ws) (l:ws.length≤10) (st:Int):0≤wl ws st∧wl ws st≤10 * B30:=by
 have b:Bw ((srt ws).take (ws.length - st.toNat)):=fun x hx=>h x ((a0Z ws).mem_iff.mp (List.mem_of_mem_take hx))
 have:=sum_bd b
 unfold wl
 have l2:((srt ws).take (ws.length - st.toNat)).length≤10:=by rw [List.length_take,a1r];omega
 refine ⟨this.1,Int.le_trans this.2 ?_⟩
 have:(((srt ws).take (ws.length - st.toNat)).length:Int)≤10:=by omega
 exact Int.mul_le_mul_of_nonneg_right this (by decide)
theorem a8x {ns:List Int}:srt ns=[]↔ns=[]:=by
 constructor
 ·intro h
  have:=a1r ns
  rw [h] at this
  exact List.length_eq_zero_iff.mp this.symm
 ·intro h;subst h;exact List.length_eq_zero_iff.mp (by rw [a1r];rfl)
theorem b1u {ns:List Int} (h:Bg ns):0≤(srt ns).headD 0∧(srt ns).headD 0≤1000 * B30:=by
 cases e:srt ns with
 | nil=>exact ⟨by show (0:Int)≤0;omega,by show (0:Int)≤1000 * B30;unfold B30;omega⟩
 | cons a t=>exact h a ((a0Z ns).mem_iff.mp (by rw [e];exact .head _))
section
variable {P:Program} {w:World} {K:PySem.W.Frag} {mg:Str→Option Value} {base:Heap} {f:Addr} {fd:FuncData}
theorem ps_nev {X:Cx} {st:Stmt}:PS X st (fun _ _ _=>False):=fun _ _ _ _ _ _ h=>h.elim
def a3d:Sp:=fun vs H Q _=>∃ (p q:Addr) (ps ws:List Int),vs=[.ref p,.ref q]∧TW H p ps∧TW H q ws∧(ws.length:Int)≤(if ps.length=2 then 7 else 6)∧Q .non H
theorem a9H:a0C ["prices","weights"] ["prices","weights"] (a0g a2N):=⟨rfl,rfl,rfl,by decide +kernel,rfl,by decide +kernel,by decide +kernel⟩
theorem a8y (F:Fun K "refuse_many" "refuse_many" a2N f fd) (ml:mg "len"=none):a1X P w K mg base CX0 1 f fd ["prices","weights"] a3d:=by
 refine F.ok (k:=0) a9H (fun vs H Q E h=>?_) (fun cdv A outer s H vs Q E hr h=>?_)
 ·obtain ⟨p,q,ps,ws,rfl,_⟩:=h
  rfl
 obtain ⟨p,q,ps,ws,rfl,hp,hq,hl,qq⟩:=h
 refine ⟨_,a0i (a0J (a0n a2V (a0j a0h (by rfl) ml PySem.boot_len (a0a (pv 1) a0e)) (a5K (a0n a0V (a0j a0h (by rfl) ml PySem.boot_len (a0a (pv 0) a0e)) a0d (nomark _)) a0d a0d) (nomark _)) (a0i ps_nev) a0s),?_⟩
 refine ⟨_,rfl,q,_,rfl,.inr (SqT.of hq),_,rfl,p,_,rfl,.inr (SqT.of hp),rfl,_,rfl,?_⟩
 rw [List.length_map,List.length_map]
 refine a1g (fun z=>?_) (fun z=>?_)
 ·have z1:=V.int.inj (of_decide_eq_true z)
  rw [if_pos (by omega)] at hl
  refine ⟨_,_,rfl,rfl,_,rfl,?_⟩
  rw [decide_eq_false (by omega)]
  exact b0P qq
 ·have z1:ps.length≠2:=fun y=>z (decide_eq_true (by rw [y];rfl))
  rw [if_neg z1] at hl
  refine ⟨_,_,rfl,rfl,_,rfl,?_⟩
  rw [decide_eq_false (by omega)]
  exact b0P qq
def a8z:Sp:=fun vs H Q _=>∃ (q:Addr) (ws:List Int) (st:Int),vs=[.ref q,.int st]∧TW H q ws∧ws.length≤10∧0≤st∧st≤(ws.length:Int)∧∀ H',a0y H H'→Q (.int (wl ws st)) H'
theorem scLeft:a0C ["weights","settled"] ["weights","settled"] (a0g a6V):=⟨rfl,rfl,rfl,by decide +kernel,rfl,by decide +kernel,by decide +kernel⟩
theorem b1v (F:Fun K "weight_left" "weight_left" a6V f fd) (ml:mg "len"=none) (mS:mg "sorted"=none) (ms:mg "sum"=none):a1X P w K mg base CX0 1 f fd ["weights","settled"] a8z:=by
 refine F.ok (k:=0) scLeft (fun vs H Q E h=>?_) (fun cdv A outer s H vs Q E hr h=>?_)
 ·obtain ⟨q,ws,st,rfl,_⟩:=h
  rfl
 obtain ⟨q,ws,st,rfl,hq,l10,s0,s1,qq⟩:=h
 refine ⟨_,a0i (a0t (a0j (a5T rfl) (by rfl) ms b_sum (a0a (a1d a3o (a0j a1P (by rfl) mS a0Y (a0a (pv 0) a0e)) a1H (a1q (a0m a0W (a0j a0h (by rfl) ml PySem.boot_len (a0a (pv 0) a0e)) (pv 1)))) a0e))),?_⟩
 refine ⟨_,rfl,q,ws,rfl,.inr hq,by omega,fun p1 H1 sm1 hn1 hp1=>?_⟩
 refine ⟨_,rfl,q,_,rfl,.inr (SqT.of (sm1 _ _ hq)),_,rfl,_,_,rfl,rfl,_,rfl,p1,_,rfl,SqL.of hp1,fun p2 hp2=>?_⟩
 have sm2:=a0c hp2 (.lst (((srt ws).take (ws.length - st.toNat)).map V.int))
 have e:a2G ((srt ws).map V.int) none (some (((ws.map V.int).length:Int) - st))=((srt ws).take (ws.length - st.toNat)).map V.int:=by
  rw [List.length_map,show ((ws.length:Int) - st)=((ws.length - st.toNat:Nat):Int) by omega,a4R,List.map_take]
 dsimp only
 rw [e]
 exact ⟨p2,_,rfl,a0b,qq _ (sm1.trans sm2)⟩
abbrev NM:List Str:=["weights","number","settled","gaps","least","counted_anew"]
def a8A:Sp:=fun vs H Q _=>∃ (q g:Addr) (ws gs:List Int) (nb st:Int),vs=[.ref q,.int nb,.int st,.ref g]∧TW H q ws∧TW H g gs∧ws.length≤10∧gs.length≤30∧0≤st∧st≤(ws.length:Int)∧Bw ws∧Bg gs ∧
 ∀ (t:Addr) H',a0y H H'→a3H H' (.ref t) (fin ws (nb,st,srt gs))→Q (.ref t) H'
theorem a8B:a0C NM ["weights","number","settled","gaps"] (a0g a5A):=⟨rfl,rfl,rfl,by decide +kernel,rfl,by decide +kernel,by decide +kernel⟩
theorem ndM:(("gap":Str) :: NM).Nodup:=by decide +kernel
theorem b1w (F:Fun K "move_to" "move_to" a5A f fd) (GL:Fns P w K mg base ["weights","settled"] "weight_left" a8z 1) (ml:mg "len"=none) (mS:mg "sorted"=none) (mn:mg "min"=none) (mt:mg "tuple"=none):a1X P w K mg base CX0 2 f fd ["weights","number","settled","gaps"] a8A:=by
 refine F.ok (k:=1) a8B (fun vs H Q E h=>?_) (fun cdv A outer s H vs Q E hr h=>?_)
 ·obtain ⟨q,g,ws,gs,nb,st,rfl,_⟩:=h
  rfl
 obtain ⟨q,g,ws,gs,nb,st,rfl,hq,hg,l10,l30,s0,s1,bw,bg,qq⟩:=h
 refine ⟨_,a0f (a0J (a0n a0V (a0j a0h (by rfl) ml PySem.boot_len (a0a (pv 3) a0e)) a0d (nomark _)) (a0i (a0t (a0K (a0a (pv 1) (a0a a0d (a0a (a0K (a0a (pv 2) (a0a (a0K a0e) a0e))) a0e)))))) a0s)
  (a0f (a0u (i:=4) a8B.nd rfl (Or.inr rfl) (a0j (a8c rfl) (by rfl) mn a8d (a0a (pv 3) a0e)))
  (a0f (a0u (i:=5) a8B.nd rfl (Or.inl rfl) (a0Q a0T (by rfl) mt a2I (a0a (a1M (M:=NM) rfl (a0o.of (a0g a5A) NM rfl rfl rfl (by decide +kernel) (by decide +kernel) (by decide +kernel) rfl (by decide +kernel)) ndM rfl (a0j a1P (by rfl) mS a0Y (a0a (pv 3) a0e)) (mo_srt (a2J a0S a3M))
   (fun cl C s0 H0 fp=>⟨a1c,a0m a0W (pv 0) (pv 5)⟩)) a0e)))
  (a0i (a0t (a0K (a0a (pv 1) (a0a (a0m a7S (pv 4) (a0v GL.ok hr (by rfl) GL.m GL.kp GL.b .nil a1b (a0a (pv 0) (a0a (pv 2) a0e)))) (a0a (a0K (a0a (pv 2) (a0a (pv 5) a0e))) a0e)))))))),?_⟩
 refine ⟨_,rfl,g,_,rfl,.inr (SqT.of hg),rfl,_,rfl,?_⟩
 rw [List.length_map]
 refine a1g (fun z=>?_) (fun z=>?_)
 ·have z1:gs=[]:=List.length_eq_zero_iff.mp (by have:=V.int.inj (of_decide_eq_true z);omega)
  subst z1
  have ef:fin ws (nb,st,srt [])=(nb,0,(st,[])):=by unfold fin;rw [if_pos (a8x.mpr rfl)]
  rw [ef] at qq
  refine ⟨_,rfl,_,rfl,(by show 0≤sizeLine;decide),fun a1 ha1=>?_⟩
  have sA:=a0c ha1 (.tup [])
  have gA:TW (upd H a1 (.tup [])) a1 []:=a0b
  generalize upd H a1 (.tup [])=HA at sA gA ⊢
  refine ⟨(by show 2≤sizeLine;decide),fun a2 ha2=>?_⟩
  have sB:=a0c ha2 (.tup [.int st,.ref a1])
  have gB:upd HA a2 (.tup [.int st,.ref a1]) a2=some (.tup [.int st,.ref a1]):=a0b
  generalize upd HA a2 (.tup [.int st,.ref a1])=HB at sB gB ⊢
  refine ⟨(by show 3≤sizeLine;decide),fun a3 ha3=>?_⟩
  have sC:=a0c ha3 (.tup [.int nb,.int 0,.ref a2])
  refine qq a3 _ ((sA.trans sB).trans sC) ⟨a3,_,_,_,rfl,a0b,rfl,rfl,a2,_,_,rfl,sC _ _ gB,rfl,a2s (sC _ _ (sB _ _ gA))⟩
 ·have ne:gs≠[]:=fun y=>z (by rw [y];rfl)
  have sn:srt gs≠[]:=fun y=>ne (a8x.mp y)
  have hb:=b1u bg
  have wb:=wl_bd bw l10 st
  refine ⟨_,rfl,g,gs,rfl,.inr hg,ne,?_⟩
  have ef:fin ws (nb,st,srt gs)=(nb,(srt gs).headD 0 * wl ws st,(st,(srt gs).map (· - (srt gs).headD 0))):=by unfold fin;rw [if_neg sn]
  rw [ef] at qq
  have lgs:=a1r gs
  generalize hle:(srt gs).headD 0=least at hb qq ⊢
  refine ⟨_,rfl,g,gs,rfl,.inr hg,by omega,fun p1 H1 sm1 hn1 hp1=>?_⟩
  refine ⟨p1,_,rfl,SqL.of hp1,fun d hd=>?_⟩
  refine ⟨fun i H'=>a0y H1 H'∧H' d=some (.lst ((((srt gs).take i).map (· - least)).map V.int)),⟨a0c hd _,a0b⟩,fun i H' _ hP=>SqL.of (hP.1 _ _ hp1),fun i x H' hx hP=>?_,fun H' hP=>?_⟩
  ·obtain ⟨s5,hd'⟩:=hP
   have il:=(List.getElem?_eq_some_iff.mp hx).1
   rw [List.length_map] at il
   rw [List.getElem?_map] at hx
   obtain ⟨z,hz,rfl⟩:=Option.map_eq_some_iff.mp hx
   refine a0P ⟨_,rfl,_,rfl,_,_,rfl,rfl,_,hd',?_,a0p hd s5,?_⟩
   ·rw [List.length_map,List.length_map,List.length_take];exact a0q (by omega)
   ·rw [a0b,List.take_add_one,hz,List.map_append,List.map_append];rfl
  ·obtain ⟨s5,hd'⟩:=hP
   rw [List.length_map,List.take_length] at hd'
   refine ⟨d,_,rfl,.inl ⟨SqL.of hd',fun c hc=>?_⟩⟩
   have s6:=a0c hc (.tup (((srt gs).map (· - least)).map V.int))
   have g6:TW (upd H' c (.tup (((srt gs).map (· - least)).map V.int))) c ((srt gs).map (· - least)):=a0b
   generalize upd H' c (.tup (((srt gs).map (· - least)).map V.int))=H6 at s6 g6 ⊢
   have t6:=(sm1.trans s5).trans s6
   refine ⟨_,rfl,_,rfl,_,rfl,_,rfl,q,ws,st,rfl,t6 _ _ hq,l10,s0,s1,fun H7 s7=>?_⟩
   refine ⟨_,_,rfl,rfl,⟨⟨hb.1,by unfold B30 at *;omega⟩,⟨wb.1,by unfold B30 at *;omega⟩⟩,?_⟩
   refine ⟨_,rfl,_,rfl,(by show 2≤sizeLine;decide),fun a2 ha2=>?_⟩
   have sB:=a0c ha2 (.tup [.int st,.ref c])
   have gB:upd H7 a2 (.tup [.int st,.ref c]) a2=some (.tup [.int st,.ref c]):=a0b
   generalize upd H7 a2 (.tup [.int st,.ref c])=HB at sB gB ⊢
   refine ⟨(by show 3≤sizeLine;decide),fun a3 ha3=>?_⟩
   have sC:=a0c ha3 (.tup [.int nb,.int (least * wl ws st),.ref a2])
   exact qq a3 _ (((t6.trans s7).trans sB).trans sC) ⟨a3,_,_,_,rfl,a0b,rfl,rfl,a2,_,_,rfl,sC _ _ gB,rfl,a2s (sC _ _ (sB _ _ (s7 _ _ g6)))⟩
theorem Bg.tail {gs:List Int} (h:Bg gs):Bg gs.tail:=fun x hx=>h x (List.mem_of_mem_tail hx)
theorem Bg.cat {gs ps:List Int} (h:Bg gs) (b:Bw ps) (m:Nat):Bg (gs.tail++(srt ps).take m):=fun x hx=>by
 rcases List.mem_append.mp hx with z | z
 ·exact h.tail x z
 ·have:=b x ((a0Z ps).mem_iff.mp (List.mem_of_mem_take z))
  unfold B30 at *
  omega
theorem a2f (gs:List Int):a2G (gs.map V.int) (some 1) none=gs.tail.map V.int:=by
 have:=a9k (gs.map V.int) 1
 rw [←List.map_drop,List.drop_one] at this
 exact this
abbrev NMv:List Str:=["prices","weights","frontier","settled","gaps","found","many","opened"]
def Gp (K:PySem.W.Frag) (H:Hp) (g:Addr) (gs:List Int):Prop:=TW H g gs∨(SqT K H g (gs.map V.int)∧gs≠[])
theorem Gp.same {H H':Hp} {g:Addr} {gs:List Int} (s:a0y H H') (h:Gp K H g gs):Gp K H' g gs:=h.elim (fun e=>.inl (s _ _ e)) fun e=>.inr ⟨s.seqT e.1,e.2⟩
theorem Gp.sq {H:Hp} {g:Addr} {gs:List Int} (h:Gp K H g gs):SqT K H g (gs.map V.int):=h.elim (fun e=>SqT.of e) fun e=>e.1
def rSl1 (K:PySem.W.Frag):V→Option Int→Option Int→Hp→VK→Prop:=fun x lo hi H Q=>∃ (a:Addr) (gs:List Int),x=.ref a∧Gp K H a gs∧lo=some 1∧hi=none∧∀ p H',a0y H H'→H' p=some (.tup (a2G (gs.map V.int) lo hi))→Q (.ref p) H'
theorem a4v {X:Cx} (K:PySem.W.Frag) (hK:X.K=K:=by rfl):SlR X (rSl1 K):=by
 subst hK
 intro pins s σ H x v vl vu lo hi sl Q I rx hs pl pu h
 obtain ⟨a,gs,rfl,hg,rfl,rfl,q⟩:=h
 rcases hg with e | ⟨e,ne⟩
 ·exact b0U pins s σ H (.ref a) v vl vu (some 1) none sl Q I rx hs pl pu ⟨a,_,rfl,e,q⟩
 ·refine a7w pins s σ H (.ref a) v vl vu (some 1) none sl Q I rx hs pl pu ⟨a,_,rfl,e,fun hw=>?_,fun p hp=>q p _ (a0c hp _) a0b⟩
  have l1:0 < gs.length:=List.length_pos_iff.mpr ne
  have h1:=hw.1
  rw [List.length_map] at h1
  have h2:HT.sIx gs.length 0 (some 1)=min 1 gs.length:=HT.a5l gs.length 0 1
  rw [h2] at h1
  omega
structure Ask (K:PySem.W.Frag) (H:Hp) (p q fr g:Addr) (ps ws gs:List Int) (st:Int):Prop where
 hp:TW H p ps
 hq:TW H q ws
 hf:SqT K H fr [.int st,.ref g]
 hg:Gp K H g gs
 p2:2≤ps.length
 p6:ps.length≤6
 w7:(ws.length:Int)≤(if ps.length=2 then 7 else 6)
 s0:0≤st
 s1:st≤(ws.length:Int)
 s2:1 < gs.length→st < (ws.length:Int)
 g10:gs.length≤10
 bw:Bw ws
 bp:Bw ps
 bg:Bg gs
theorem Ask.w10 {H:Hp} {p q fr g:Addr} {ps ws gs:List Int} {st:Int} (a:Ask K H p q fr g ps ws gs st):ws.length≤7:=by
 have:=a.w7
 split at this <;> omega
def a4w (K:PySem.W.Frag):Sp:=fun vs H Q _=>∃ (p q fr g:Addr) (ps ws gs:List Int) (st:Int),vs=[.ref p,.ref q,.ref fr]∧Ask K H p q fr g ps ws gs st ∧
 ∀ (l:Addr) H' xs,a0y H H'→H l=none→H' l=some (.lst xs)→Mvs H' xs (mvs ps ws st gs)→Q (.ref l) H'
theorem a2P:a0C NMv ["prices","weights","frontier"] (a0g a3U):=⟨rfl,rfl,rfl,by decide +kernel,rfl,by decide +kernel,by decide +kernel⟩
theorem a9I (F:Fun K "moves" "moves" a3U f fd) (GR:Fns P w K mg base ["prices","weights"] "refuse_many" a3d 2) (GM:Fns P w K mg base ["weights","number","settled","gaps"] "move_to" a8A 2) (ml:mg "len"=none) (mr:mg "range"=none) (mS:mg "sorted"=none) (mt:mg "tuple"=none):a1X P w K mg base CX0 3 f fd ["prices","weights","frontier"] (a4w K):=by
 refine F.ok (k:=2) a2P (fun vs H Q E h=>?_) (fun cdv A outer s H vs Q E hr h=>?_)
 ·obtain ⟨p,q,fr,g,ps,ws,gs,st,rfl,_⟩:=h
  rfl
 obtain ⟨p,q,fr,g,ps,ws,gs,st,rfl,ak,qq⟩:=h
 have w10:=ak.w10
 obtain ⟨hp,hq,hf,hg,p2,p6,w7,s0,s1,s2,g10,bw,bp,bg⟩:=ak
 refine ⟨_,a0f (a1y (a0v GR.ok hr (by rfl) GR.m GR.kp GR.b .nil a1b (a0a (pv 0) (a0a (pv 1) a0e))))
  (a0f (a0u (i:=3) a2P.nd rfl (Or.inl rfl) (a0D a1l (pv 2) a0d (fun _ _=>rfl)))
  (a0f (a0u (i:=4) a2P.nd rfl (Or.inl rfl) (a0D a1l (pv 2) a0d (fun _ _=>rfl)))
  (a0f (a0u (i:=5) a2P.nd rfl (Or.inl rfl) (a1T a0e))
  (a0f (a2U (a0J (PW.pt (a5g (a0n a2V (a0j a0h (by rfl) ml PySem.boot_len (a0a (pv 4) a0e)) a0d (nomark _)) (a3h (a0n a0V (pv 3) (a0m a0W (a0j a0h (by rfl) ml PySem.boot_len (a0a (pv 1) a0e)) a0d) (nomark _)))))
   (a0i (a1y (a4b PySem.F.plainAttrs_list PySem.F.slot_list_append PySem.F.type_list_append a1A (pv 5) (a0a (a0v GM.ok hr (by rfl) GM.m GM.kp GM.b .nil a1b (a0a (pv 1) (a0a a0d (a0a (a0m a0G (pv 3) a0d) (a0a (a1d (a4v K) (pv 4) (a1q a0d) a1H) a0e))))) a0e)))) a0s))
  (a0f (a2h PassesOwn.never rfl (a3l (by rfl) mr (a0a a0d (a0a (a0m a0G (a0j a0h (by rfl) ml PySem.boot_len (a0a (pv 0) a0e)) a0d) a0e))) (a0E (i:=6) a2P.nd rfl (Or.inl rfl))
   (a0i (a0J (a0n a5i (a0m a0G (a0m a0W (a0m a0G (pv 3) (a0j a0h (by rfl) ml PySem.boot_len (a0a (pv 4) a0e))) a0d) (pv 6)) (a0j a0h (by rfl) ml PySem.boot_len (a0a (pv 1) a0e)) (nomark _))
    (a0f (a0u (i:=7) a2P.nd rfl (Or.inl rfl) (a0Q a0T (by rfl) mt a2I (a0a (a1d a3o (a0j a1P (by rfl) mS a0Y (a0a (pv 0) a0e)) a1H (a1q (pv 6))) a0e)))
    (a0i (a1y (a4b PySem.F.plainAttrs_list PySem.F.slot_list_append PySem.F.type_list_append a1A (pv 5) (a0a (a0v GM.ok hr (by rfl) GM.m GM.kp GM.b .nil a1b (a0a (pv 1) (a0a (pv 6) (a0a (pv 3) (a0a (a0m b0V (a1d (a4v K) (pv 4) (a1q a0d) a1H) (pv 7)) a0e))))) a0e))))) a0s)))
  (a0i (a0t (pv 5)))))))),?_⟩
 refine ⟨_,rfl,_,rfl,p,q,ps,ws,rfl,hp,hq,w7,?_⟩
 refine ⟨_,rfl,fr,_,_,_,rfl,rfl,hf,(rfl:atI [V.int st,.ref g] 0=_),?_⟩
 refine ⟨_,rfl,fr,_,_,_,rfl,rfl,hf,(rfl:atI [V.int st,.ref g] 1=_),?_⟩
 refine ⟨(by show 0≤sizeLine;decide),fun lf hlf=>?_⟩
 have s3:=a0c hlf (.lst [])
 have g3:upd H lf (.lst []) lf=some (.lst []):=a0b
 generalize upd H lf (.lst [])=H3 at s3 g3 ⊢
 refine ⟨fun σ' H'=>∃ xs,σ'=[some (.ref p),some (.ref q),some (.ref fr),some (.int st),some (.ref g),some (.ref lf),none,none]∧a0y H H'∧H' lf=some (.lst xs)∧Mvs H' xs ((rws ps ws st gs 0).map (fin ws)),?_,?_⟩
 ·refine ⟨_,rfl,g,_,rfl,.inr (hg.same s3).sq,_,_,rfl,rfl,_,rfl,?_⟩
  rw [List.length_map]
  refine a1g (fun c=>?_) (fun c=>?_)
  ·have c1:1 < gs.length:=by have:=of_decide_eq_true c;omega
   have ec:rws ps ws st gs 0=[(0,st+1,srt gs.tail)]:=if_pos (.inl c1)
   rw [ec]
   refine ⟨_,rfl,.inl ⟨rfl,_,SqL.of g3⟩,_,rfl,_,rfl,_,_,rfl,rfl,_,rfl,_,rfl,g,gs,rfl,hg.same s3,rfl,rfl,fun p4 H4 s4 hp4=>?_⟩
   have hp4':TW H4 p4 gs.tail:=by show H4 p4=_;rw [hp4];exact congrArg (fun z=>some (HO.tup z)) (a2f gs)
   refine ⟨q,p4,ws,gs.tail,0,st+1,rfl,(s3.trans s4) _ _ hq,hp4',by omega,by rw [List.length_tail];omega,by omega,by have:=s2 c1;omega,bw,bg.tail,fun t H5 s5 mv=>?_⟩
   have hl5:=(s4.trans s5) _ _ g3
   exact ⟨lf,_,_,rfl,rfl,hl5,a0q (by show 0≤1000;decide),_,rfl,a0p hlf ((s3.trans s4).trans s5),a0b,.cons (a3H.tk (TK.upd hl5) mv) .nil⟩
  ·have c1:¬ 1 < gs.length:=fun y=>c (decide_eq_true (by omega))
   refine ⟨_,rfl,_,rfl,q,_,rfl,.inr (SqT.of (s3 _ _ hq)),_,_,rfl,rfl,rfl,_,rfl,?_⟩
   rw [List.length_map]
   refine a1g (fun c2=>?_) (fun c2=>?_)
   ·have c3:st=(ws.length:Int) - 1:=V.int.inj (of_decide_eq_true c2)
    have ec:rws ps ws st gs 0=[(0,st+1,srt gs.tail)]:=if_pos (.inr c3)
    rw [ec]
    refine ⟨_,rfl,.inl ⟨rfl,_,SqL.of g3⟩,_,rfl,_,rfl,_,_,rfl,rfl,_,rfl,_,rfl,g,gs,rfl,hg.same s3,rfl,rfl,fun p4 H4 s4 hp4=>?_⟩
    have hp4':TW H4 p4 gs.tail:=by show H4 p4=_;rw [hp4];exact congrArg (fun z=>some (HO.tup z)) (a2f gs)
    refine ⟨q,p4,ws,gs.tail,0,st+1,rfl,(s3.trans s4) _ _ hq,hp4',by omega,by rw [List.length_tail];omega,by omega,by omega,bw,bg.tail,fun t H5 s5 mv=>?_⟩
    have hl5:=(s4.trans s5) _ _ g3
    exact ⟨lf,_,_,rfl,rfl,hl5,a0q (by show 0≤1000;decide),_,rfl,a0p hlf ((s3.trans s4).trans s5),a0b,.cons (a3H.tk (TK.upd hl5) mv) .nil⟩
   ·have c3:¬ st=(ws.length:Int) - 1:=fun y=>c2 (decide_eq_true (by rw [y]))
    have ec:rws ps ws st gs 0=[]:=if_neg (fun z=>z.elim c1 c3)
    rw [ec]
    exact ⟨[],rfl,s3,g3,.nil⟩
 rintro σ' H4 ⟨xs0,rfl,t4,hl4,hm4⟩
 refine ⟨_,rfl,p,_,rfl,.inr (SqT.of (t4 _ _ hp)),_,_,rfl,rfl,_,_,rfl,⟨by decide,by decide,by rw [List.length_map];omega,by rw [List.length_map];omega⟩,?_⟩
 refine a1W (fun i σ H'=>∃ (xs:List V) (x6 x7:Option V),σ=[some (.ref p),some (.ref q),some (.ref fr),some (.int st),some (.ref g),some (.ref lf),x6,x7]∧a0y H H'∧H' lf=some (.lst xs)∧Mvs H' xs ((rws ps ws st gs i).map (fin ws)))
  ⟨xs0,_,_,rfl,t4,hl4,hm4⟩ (fun i σ H5 hi hP=>?_) (fun σ H5 hP=>?_)
 ·obtain ⟨xs,x6,x7,rfl,t5,hl5,hm5⟩:=hP
  have i5:i < 5:=by
   have:(ps.map V.int).length=ps.length:=List.length_map ..
   omega
  have lx:xs.length≤i+1:=by
   have:=hm5.length
   rw [this,List.length_map]
   exact a2p ps ws st gs i
  have e2:(2:Int)+(i:Int)=((i+2:Nat):Int):=by push_cast;omega
  rw [e2]
  refine ⟨_,rfl,_,rfl,g,_,rfl,.inr (hg.same t5).sq,_,_,rfl,rfl,_,_,rfl,rfl,_,rfl,_,_,rfl,rfl,_,rfl,q,_,rfl,.inr (SqT.of (t5 _ _ hq)),_,_,rfl,rfl,_,rfl,?_⟩
  rw [List.length_map,List.length_map]
  have es:rws ps ws st gs (i+1)=rws ps ws st gs i++rw2 ps ws st gs (i+2):=rfl
  refine a1g (fun c=>?_) (fun c=>?_)
  ·have c1:=of_decide_eq_true c
   have e3:rw2 ps ws st gs (i+2)=[(((i+2:Nat):Int),st,srt (gs.tail++(srt ps).take (i+2)))]:=if_pos c1
   refine ⟨_,rfl,p,ps,rfl,.inr (t5 _ _ hp),by omega,fun p6 H6 s6 hn6 hp6=>?_⟩
   refine ⟨_,rfl,_,rfl,p6,_,rfl,SqL.of hp6,fun p7 hp7=>?_⟩
   rw [show a2G ((srt ps).map V.int) none (some ((i+2:Nat):Int))=((srt ps).take (i+2)).map V.int by rw [a4R,List.map_take]]
   have s7:=a0c hp7 (.lst (((srt ps).take (i+2)).map V.int))
   have g7:upd H6 p7 (.lst (((srt ps).take (i+2)).map V.int)) p7=some (.lst (((srt ps).take (i+2)).map V.int)):=a0b
   generalize upd H6 p7 (.lst (((srt ps).take (i+2)).map V.int))=H7 at s7 g7 ⊢
   refine ⟨p7,_,rfl,.inl ⟨SqL.of g7,fun p8 hp8=>?_⟩⟩
   have s8:=a0c hp8 (.tup (((srt ps).take (i+2)).map V.int))
   have g8:TW (upd H7 p8 (.tup (((srt ps).take (i+2)).map V.int))) p8 ((srt ps).take (i+2)):=a0b
   generalize upd H7 p8 (.tup (((srt ps).take (i+2)).map V.int))=H8 at s8 g8 ⊢
   have s58:=(s6.trans s7).trans s8
   have t8:=t5.trans s58
   refine ⟨_,rfl,.inl ⟨rfl,_,SqL.of (s58 _ _ hl5)⟩,_,rfl,_,rfl,_,rfl,_,rfl,_,rfl,g,gs,rfl,hg.same t8,rfl,rfl,fun p9 H9 s9 hp9=>?_⟩
   have hp9':TW H9 p9 gs.tail:=by show H9 p9=_;rw [hp9];exact congrArg (fun z=>some (HO.tup z)) (a2f gs)
   refine ⟨_,rfl,p9,p8,_,_,rfl,rfl,hp9',s9 _ _ g8,?_,fun pA HA sA hpA=>?_⟩
   ·rw [List.length_map,List.length_map,List.length_tail,List.length_take]
    exact Nat.le_of_lt (a0q (by omega))
   have hpA':TW HA pA (gs.tail++(srt ps).take (i+2)):=by show HA pA=_;rw [hpA,List.map_append]
   have t8A:=t8.trans (s9.trans sA)
   refine ⟨q,pA,ws,_,((i+2:Nat):Int),st,rfl,t8A _ _ hq,hpA',by omega,by rw [List.length_append,List.length_tail,List.length_take];omega,s0,s1,bw,bg.cat bp _,fun t HB sB mv=>?_⟩
   have s5B:=(s58.trans (s9.trans sA)).trans sB
   have hlB:=s5B _ _ hl5
   refine ⟨lf,_,_,rfl,rfl,hlB,a0q (by omega),_,_,_,rfl,a0p hlf (t5.trans s5B),a0b,?_⟩
   rw [es,e3,List.map_append]
   exact L2.Paired.appendP (Mvs.tk ((TK.of s5B).trans (TK.upd hlB)) hm5) (.cons (a3H.tk (TK.upd hlB) mv) .nil)
  ·have e3:rw2 ps ws st gs (i+2)=[]:=if_neg fun y=>c (decide_eq_true y)
   exact ⟨xs,_,_,rfl,t5,hl5,by rw [es,e3,List.append_nil];exact hm5⟩
 ·obtain ⟨xs,x6,x7,rfl,t5,hl5,hm5⟩:=hP
  have en:((((ps.map V.int).length:Nat):Int)+1 - 2).toNat=ps.length - 1:=by rw [List.length_map];omega
  rw [en] at hm5
  exact ⟨_,rfl,qq lf H5 xs t5 hlf hl5 hm5⟩
def Bo (ns:List Int):Prop:=∀ x∈ns,1≤x∧x≤B30
theorem Bo.bw {ns:List Int} (h:Bo ns):Bw ns:=fun x hx=>⟨by have:=h x hx;omega,(h x hx).2⟩
theorem Bo.add {ns:List Int} (h:Bo ns) {i:Int} (h1:1≤i) (h2:i≤B30):Bo (ns++[i]):=fun x hx=>by
 rcases List.mem_append.mp hx with z | z
 ·exact h x z
 ·rw [List.mem_singleton.mp z];exact ⟨h1,h2⟩
abbrev NP:List Str:=["script","letters"]
def a4x (K:PySem.W.Frag):Sp:=fun vs H Q _=>∃ (a:Addr) (ns:List Int),vs=[.ref a]∧SqL K H a (ns.map V.int)∧∀ (p:Addr) ps H',a0y H H'→TW H' p ps→2≤ps.length→ps.length≤6→Bo ps→Q (.ref p) H'
theorem a6l:a0C NP ["script"] (a0g a2o):=⟨rfl,rfl,rfl,by decide +kernel,rfl,by decide +kernel,by decide +kernel⟩
theorem ndP:(("k":Str) :: NP).Nodup:=by decide +kernel
theorem a8C (F:Fun K "_law_prices" "_law_prices" a2o f fd) (GC:Fns P w K mg base ["script","k"] "_law_cell_at" (a5b K) 1) (GA:Fns P w K mg base ["cell"] "_law_amount" a3c 1) (mr:mg "range"=none) (mt:mg "tuple"=none):a1X P w K mg base CX0 2 f fd ["script"] (a4x K):=by
 refine F.ok (k:=1) a6l (fun vs H Q E h=>?_) (fun cdv A outer s H vs Q E hr h=>?_)
 ·obtain ⟨a,ns,rfl,_⟩:=h
  rfl
 obtain ⟨a,ns,rfl,hS,q⟩:=h
 refine ⟨_,a0f (a0u (i:=1) a6l.nd rfl (Or.inl rfl) (a0m a0G a0d (a0m a0N (a0v GC.ok hr (by rfl) GC.m GC.kp GC.b .nil a1b (a0a (pv 0) (a0a a0d a0e))) a0d)))
  (a0i (a0t (a0Q a0T (by rfl) mt a2I (a0a (a1Z (M:=NP) rfl (a0o.of (a0g a2o) NP rfl rfl rfl (by decide +kernel) (by decide +kernel) (by decide +kernel) rfl (by decide +kernel)) ndP rfl (by rfl) mr (a0a (pv 1) a0e) (a2J a0S a3M)
   (fun cl C s0 H0 fp=>⟨a1c,a0v GA.ok hr (by rfl) GA.m GA.kp GA.b .nil a1b (a0a (a0v GC.ok hr (by rfl) GC.m GC.kp GC.b .nil a1b (a0a (pv 1) (a0a (a0m a0G a0d (pv 0)) a0e))) a0e)⟩)) a0e)))),?_⟩
 refine ⟨_,rfl,a,ns,0,rfl,hS,by decide,fun c0=>?_⟩
 refine ⟨_,_,rfl,rfl,(by show (0:Int) < _;decide),_,_,rfl,rfl,?_⟩
 have b2:2≤2+c0 % 5:=by omega
 have b6:2+c0 % 5≤6:=by omega
 dsimp only
 generalize 2+c0 % 5=b at b2 b6 ⊢
 refine ⟨_,rfl,b,rfl,by omega,by omega,fun d hd=>?_⟩
 refine ⟨fun i H'=>a0y H H'∧∃ ps,H' d=some (.lst (ps.map V.int))∧ps.length=i∧Bo ps,⟨a0c hd _,[],a0b,rfl,fun x hx=>by cases hx⟩,fun i H' hi hP=>?_,fun H' hP=>?_⟩
 ·obtain ⟨s1,ps,hd',lp,bo⟩:=hP
  refine a0P ⟨_,rfl,_,rfl,_,_,rfl,rfl,a,ns,_,rfl,s1.seq hS,by omega,fun c=>⟨c,rfl,fun v v1 v2=>⟨_,hd',?_,a0p hd s1,ps++[v],?_,by rw [List.length_append,lp];rfl,bo.add v1 v2⟩⟩⟩
  ·rw [List.length_map];exact a0q (by omega)
  ·rw [a0b,List.map_append];rfl
 ·obtain ⟨s1,ps,hd',lp,bo⟩:=hP
  refine ⟨d,_,rfl,.inl ⟨SqL.of hd',fun c hc=>?_⟩⟩
  exact q c ps _ (s1.trans (a0c hc _)) a0b (by omega) (by omega) bo
abbrev NW:List Str:=["script","most","cell","things","weights"]
def a3z (K:PySem.W.Frag):Sp:=fun vs H Q _=>∃ (a:Addr) (ns:List Int) (m:Int),vs=[.ref a,.int m]∧SqL K H a (ns.map V.int)∧1≤m∧m≤7∧∀ (p:Addr) ws H',a0y H H'→TW H' p ws→1≤ws.length→(ws.length:Int)≤m→Bo ws→Q (.ref p) H'
theorem a1L:a0C NW ["script","most"] (a0g a1G):=⟨rfl,rfl,rfl,by decide +kernel,rfl,by decide +kernel,by decide +kernel⟩
theorem ndW:(("k":Str) :: NW).Nodup:=by decide +kernel
theorem reps (n:Nat) (x:Int):(List.replicate n [V.int x]).flatten=(List.replicate n x).map V.int:=by
 induction n with
 | zero=>rfl
 | succ n ih=>rw [List.replicate_succ,List.flatten_cons,ih,List.replicate_succ];rfl
theorem a6Y (F:Fun K "_law_weights" "_law_weights" a1G f fd) (GC:Fns P w K mg base ["script","k"] "_law_cell_at" (a5b K) 1) (GA:Fns P w K mg base ["cell"] "_law_amount" a3c 1) (mr:mg "range"=none) (mt:mg "tuple"=none) (mn:mg "min"=none):a1X P w K mg base CX0 2 f fd ["script","most"] (a3z K):=by
 refine F.ok (k:=1) a1L (fun vs H Q E h=>?_) (fun cdv A outer s H vs Q E hr h=>?_)
 ·obtain ⟨a,ns,m,rfl,_⟩:=h
  rfl
 obtain ⟨a,ns,m,rfl,hS,m1,m7,q⟩:=h
 refine ⟨_,a0f (a0u (i:=2) a1L.nd rfl (Or.inl rfl) (a0v GC.ok hr (by rfl) GC.m GC.kp GC.b .nil a1b (a0a (pv 0) (a0a a0d a0e))))
  (a0f (a0u (i:=3) a1L.nd rfl (Or.inl rfl) (a0m a0G a0d (a0m a0N (pv 2) (pv 1))))
  (a0f (a0u (i:=4) a1L.nd rfl (Or.inr rfl) (a1Z (M:=NW) rfl (a0o.of (a0g a1G) NW rfl rfl rfl (by decide +kernel) (by decide +kernel) (by decide +kernel) rfl (by decide +kernel)) ndW rfl (by rfl) mr (a0a (pv 3) a0e) (a2J a0S a3M)
   (fun cl C s0 H0 fp=>⟨a1c,a0v GA.ok hr (by rfl) GA.m GA.kp GA.b .nil a1b (a0a (a0v GC.ok hr (by rfl) GC.m GC.kp GC.b .nil a1b (a0a (pv 1) (a0a (a0m a0G a0d (pv 0)) a0e))) a0e)⟩)))
  (a0f (a2U (a0J (a0n a0V (a0m a0N (a0m a1z (pv 2) (pv 1)) a0d) a0d (nomark _)) (a0i (a0u (i:=4) a1L.nd rfl (Or.inr rfl) (a0m op_rep (a1T (a0a (a0D a1a (pv 4) a0d (fun _ _=>rfl)) a0e)) (pv 3)))) a0s))
  (a0f (a2U (a0J (a0n a0V (a0m a0N (a0m a1z (pv 2) (pv 1)) a0d) a0d (nomark _)) (a0i (a0u (i:=4) a1L.nd rfl (Or.inr rfl) (a1Z (M:=NW) rfl (a0o.of (a0g a1G) NW rfl rfl rfl (by decide +kernel) (by decide +kernel) (by decide +kernel) rfl (by decide +kernel)) ndW rfl (by rfl) mr (a0a (pv 3) a0e) (a2J a0S a3M)
   (fun cl C s0 H0 fp=>⟨a1c,a0j (a7p rfl) (by rfl) mn a8d (a0a (a0m a2T a0d a0d) (a0a (a0m a0G (a0D (ixL K) (pv 5) a0d (fun _ _=>rfl)) (a0m a0N (pv 0) a0d)) a0e))⟩)))) a0s))
  (a0i (a0t (a0Q a0T (by rfl) mt a2I (a0a (pv 4) a0e)))))))),?_⟩
 refine ⟨_,rfl,a,ns,1,rfl,hS,by decide,fun c0=>?_⟩
 refine ⟨_,rfl,_,rfl,_,_,rfl,rfl,(by show (0:Int) < _;omega),_,_,rfl,rfl,?_⟩
 have t1:1≤1+c0 % m:=by have:=Int.emod_nonneg c0 (show m≠0 by omega);omega
 have t2:1+c0 % m≤m:=by have:=Int.emod_lt_of_pos c0 (show 0 < m by omega);omega
 dsimp only
 generalize 1+c0 % m=b at t1 t2 ⊢
 refine ⟨_,rfl,b,rfl,by omega,by omega,fun d hd=>?_⟩
 refine ⟨fun i H'=>a0y H H'∧∃ ps,H' d=some (.lst (ps.map V.int))∧ps.length=i∧Bo ps,⟨a0c hd _,[],a0b,rfl,fun x hx=>by cases hx⟩,fun i H' hi hP=>?_,fun H1 hP=>?_⟩
 ·obtain ⟨s1,ps,hd',lp,bo⟩:=hP
  refine a0P ⟨_,rfl,_,rfl,_,_,rfl,rfl,a,ns,_,rfl,s1.seq hS,by omega,fun c=>⟨c,rfl,fun v v1 v2=>⟨_,hd',?_,a0p hd s1,ps++[v],?_,by rw [List.length_append,lp];rfl,bo.add v1 v2⟩⟩⟩
  ·rw [List.length_map];exact a0q (by omega)
  ·rw [a0b,List.map_append];rfl
 obtain ⟨s1,ps,hd',lp,bo⟩:=hP
 refine ⟨fun σ' H'=>∃ (d:Addr) (ps:List Int),σ'=[some (.ref a),some (.int m),some (.int c0),some (.int b),some (.ref d)]∧a0y H H'∧H' d=some (.lst (ps.map V.int))∧ps.length=b.toNat∧Bo ps,?_,?_⟩
 ·refine ⟨_,rfl,_,rfl,_,_,rfl,rfl,⟨by omega,by omega⟩,_,_,rfl,rfl,(by show (0:Int) < _;decide),rfl,_,rfl,?_⟩
  refine a1g (fun _=>?_) (fun _=>⟨d,ps,rfl,s1,hd',lp,bo⟩)
  have h0:ps[0]?=some (ps[0]'(by omega)):=List.getElem?_eq_getElem _
  have m0:ps[0]'(by omega)∈ps:=List.getElem_mem _
  generalize ps[0]'(by omega)=x0 at h0 m0
  refine ⟨_,rfl,d,_,_,_,rfl,rfl,SqL.of hd',a3N (k:=0) h0,(by show 1≤sizeLine;decide),fun e1 he1=>?_⟩
  have s2:=a0c he1 (.lst [.int x0])
  have g2:upd H1 e1 (.lst [.int x0]) e1=some (.lst [.int x0]):=a0b
  generalize upd H1 e1 (.lst [.int x0])=H2 at s2 g2 ⊢
  refine ⟨_,rfl,e1,b,_,rfl,rfl,g2,by omega,by omega,by show 1 * _≤_;exact Nat.le_of_lt (a0q (by omega)),fun e2 he2=>?_⟩
  rw [reps]
  exact ⟨e2,List.replicate b.toNat x0,rfl,(s1.trans s2).trans (a0c he2 _),a0b,List.length_replicate,fun x hx=>by rw [List.eq_of_mem_replicate hx];exact bo _ m0⟩
 rintro σ' H2 ⟨d,ps,rfl,s2,hd2,lp,bo⟩
 refine ⟨fun σ' H'=>∃ (d:Addr) (ps:List Int),σ'=[some (.ref a),some (.int m),some (.int c0),some (.int b),some (.ref d)]∧a0y H H'∧H' d=some (.lst (ps.map V.int))∧ps.length=b.toNat∧Bo ps,?_,?_⟩
 ·refine ⟨_,rfl,_,rfl,_,_,rfl,rfl,⟨by omega,by omega⟩,_,_,rfl,rfl,(by show (0:Int) < _;decide),rfl,_,rfl,?_⟩
  refine a1g (fun _=>?_) (fun _=>⟨d,ps,rfl,s2,hd2,lp,bo⟩)
  have h0:ps[0]?=some (ps[0]'(by omega)):=List.getElem?_eq_getElem _
  have m0:ps[0]'(by omega)∈ps:=List.getElem_mem _
  generalize ps[0]'(by omega)=x0 at h0 m0
  refine ⟨_,rfl,b,rfl,by omega,by omega,fun d4 hd4=>?_⟩
  refine ⟨fun i H'=>a0y H2 H'∧∃ qs,H' d4=some (.lst (qs.map V.int))∧qs.length=i∧Bo qs,⟨a0c hd4 _,[],a0b,rfl,fun x hx=>by cases hx⟩,fun i H' hi hP=>?_,fun H3 hP=>?_⟩
  ·obtain ⟨s4,qs,hd',lq,bq⟩:=hP
   have bx:=bo _ m0
   have hv:∃ v:Int,v=(if x0+(0+(i:Int)) % 2 < (10:Int) ^ (30:Int).toNat then x0+(0+(i:Int)) % 2 else (10:Int) ^ (30:Int).toNat)∧1≤v∧v≤B30:=⟨_,rfl,by rw [e30];split <;> (unfold B30 at *;omega),by rw [e30];split <;> (unfold B30 at *;omega)⟩
   obtain ⟨v,ev,v1,v2⟩:=hv
   refine a0P ⟨_,_,rfl,rfl,⟨by decide,by decide,by decide⟩,_,rfl,d,_,_,_,rfl,rfl,SqL.of (s4 _ _ hd2),a3N (k:=0) h0,_,rfl,_,_,rfl,rfl,(by show (0:Int) < _;decide),_,_,rfl,rfl,_,_,rfl,_,hd',?_,a0p hd4 s4,qs++[v],?_,by rw [List.length_append,lq];rfl,bq.add v1 v2⟩
   ·rw [List.length_map];exact a0q (by omega)
   ·rw [a0b,List.map_append,ev];rfl
  ·obtain ⟨s4,qs,hd',lq,bq⟩:=hP
   exact ⟨d4,qs,rfl,s2.trans s4,hd',lq,bq⟩
 rintro σ' H3 ⟨d,ps,rfl,s3,hd3,lp,bo⟩
 refine ⟨_,rfl,d,_,rfl,.inl ⟨SqL.of hd3,fun c hc=>?_⟩⟩
 exact q c ps _ (s3.trans (a0c hc _)) a0b (by omega) (by omega) bo
end
def b1K (n st kn:Int):Bool:=decide (kn > 1) || (decide (kn=1) && decide (st=n - 1))
def b1x (n st kn m:Int):Bool:=decide (kn > 0) && decide (st+kn - 1+m≤n)
def lawf (L:Nat) (n st kn:Int):List Int:=(if b1K n st kn=true then [0] else [])++((List.range (L - 1)).map fun i:Nat=>(2:Int)+(i:Int)).filter (b1x n st kn)
def nx (st r:Int):Int:=st+(if r=0 then 1 else 0)
theorem a9J (ws:List Int) (r:Rw):(fin ws r).1=r.1:=by unfold fin;split <;> rfl
theorem b0n (ws:List Int) (r:Rw):(fin ws r).2.2.1=r.2.1:=by unfold fin;split <;> rfl
theorem a8D (ws:List Int) (r:Rw):(fin ws r).2.2.2.length=r.2.2.length:=by
 unfold fin
 split
 ·rename_i h;rw [h]
 ·show (r.2.2.map _).length=_
  rw [List.length_map]
theorem fin_bd {ws:List Int} {r:Rw} {xs:List Int} (e:r.2.2=srt xs) (b:Bw xs):Bw (fin ws r).2.2.2:=by
 unfold fin
 split
 ·intro x hx;cases hx
 ·intro x hx
  have hx:x∈r.2.2.map (· - r.2.2.headD 0):=hx
  obtain ⟨y,hy,rfl⟩:=List.mem_map.mp hx
  have by1:0≤y∧y≤B30:=b y ((a0Z xs).mem_iff.mp (by rw [←e];exact hy))
  have rise:=a2b xs
  rw [←e] at rise
  cases hr:r.2.2 with
  | nil=>rw [hr] at hy;cases hy
  | cons a t =>
   rw [hr] at hy rise
   have ba:0≤a:=(b a ((a0Z xs).mem_iff.mp (by rw [←e,hr];exact .head _))).1
   have ay:a≤y:=by
    rcases List.mem_cons.mp hy with rfl | hy
    ·exact Int.le_refl _
    ·exact (List.pairwise_cons.mp rise).1 y hy
   show 0≤y - a∧y - a≤B30
   omega
theorem a8E {ps ws:List Int} {st:Int} {gs:List Int} {r:Rw}:∀ {n:Nat},r∈rws ps ws st gs n↔r∈rw1 ws st gs∨∃ i,i < n∧r∈rw2 ps ws st gs (i+2)
 | 0=>by
  show r∈rw1 ws st gs↔_
  exact ⟨.inl,fun h=>h.elim id fun ⟨i,hi,_⟩=>absurd hi (by omega)⟩
 | n+1=>by
  show r∈rws ps ws st gs n++rw2 ps ws st gs (n+2)↔_
  rw [List.mem_append,a8E]
  constructor
  ·rintro ((h | ⟨i,hi,h⟩) | h)
   ·exact .inl h
   ·exact .inr ⟨i,by omega,h⟩
   ·exact .inr ⟨n,by omega,h⟩
  ·rintro (h | ⟨i,hi,h⟩)
   ·exact .inl (.inl h)
   ·by_cases e:i=n
    ·subst e;exact .inr h
    ·exact .inl (.inr ⟨i,by omega,h⟩)
theorem a2y {L:Nat} {n st kn nb:Int}:nb∈lawf L n st kn↔(nb=0∧(1 < kn∨(kn=1∧st=n - 1)))∨∃ i:Nat,i < L - 1∧nb=2+(i:Int)∧0 < kn∧st+kn - 1+nb≤n:=by
 unfold lawf
 rw [List.mem_append,List.mem_filter,List.mem_map]
 constructor
 ·rintro (h | ⟨⟨i,hi,rfl⟩,h⟩)
  ·split at h
   ·rename_i c
    unfold b1K at c
    simp only [Bool.or_eq_true,Bool.and_eq_true,decide_eq_true_eq] at c
    exact .inl ⟨List.mem_singleton.mp h,c⟩
   ·cases h
  ·unfold b1x at h
   simp only [Bool.and_eq_true,decide_eq_true_eq] at h
   exact .inr ⟨i,List.mem_range.mp hi,rfl,h⟩
 ·rintro (⟨rfl,h⟩ | ⟨i,hi,rfl,h⟩)
  ·left
   have c:b1K n st kn=true:=by
    unfold b1K
    simp only [Bool.or_eq_true,Bool.and_eq_true,decide_eq_true_eq]
    exact h
   rw [if_pos c]
   exact .head _
  ·right
   refine ⟨⟨i,List.mem_range.mpr hi,rfl⟩,?_⟩
   unfold b1x
   simp only [Bool.and_eq_true,decide_eq_true_eq]
   exact h
structure Iv (n:Nat) (st kn:Int):Prop where
 s0:0≤st
 k0:0≤kn
 sk:st+kn≤n
 e0:kn=0→st=n
theorem Iv.step {L n:Nat} {st kn nb:Int} (h:Iv n st kn) (hm:nb∈lawf L n st kn):Iv n (nx st nb) (kn - 1+nb)∧1≤kn∧0≤nb∧nb≤L:=by
 obtain ⟨s0,k0,sk,e0⟩:=h
 rcases a2y.mp hm with ⟨rfl,c⟩ | ⟨i,hi,rfl,c1,c2⟩
 ·have e:nx st 0=st+1:=by unfold nx;rw [if_pos rfl]
  rw [e]
  exact ⟨⟨by omega,by omega,by omega,fun z=>by omega⟩,by omega,by omega,by omega⟩
 ·have e:nx st (2+(i:Int))=st:=by unfold nx;rw [if_neg (by omega)];omega
  rw [e]
  exact ⟨⟨by omega,by omega,by omega,fun z=>by omega⟩,by omega,by omega,by omega⟩
theorem mv_of {ps ws:List Int} {st:Int} {gs:List Int} {r:Rw} (l2:2≤ps.length) (h:Iv ws.length st gs.length) (bg:Bw gs) (bp:Bw ps) (hr:r∈rws ps ws st gs (ps.length - 1)) :
  r.1∈lawf ps.length ws.length st gs.length∧r.2.1=nx st r.1∧(r.2.2.length:Int)=(gs.length:Int) - 1+r.1∧∃ xs,r.2.2=srt xs∧Bw xs:=by
 obtain ⟨s0,k0,sk,e0⟩:=h
 have bt:Bw gs.tail:=fun x hx=>bg x (List.mem_of_mem_tail hx)
 rcases a8E.mp hr with hr | ⟨i,hi,hr⟩
 ·unfold rw1 at hr
  split at hr
  ·rename_i c
   rw [List.mem_singleton.mp hr]
   have k1:1≤gs.length:=by omega
   refine ⟨a2y.mpr (.inl ⟨rfl,by omega⟩),(by show st+1=nx st 0;unfold nx;rw [if_pos rfl]),?_,gs.tail,rfl,bt⟩
   show ((srt gs.tail).length:Int)=_
   rw [a1r,List.length_tail]
   show ((gs.length - 1:Nat):Int)=(gs.length:Int) - 1+0
   omega
  ·cases hr
 ·unfold rw2 at hr
  split at hr
  ·rename_i c
   rw [List.mem_singleton.mp hr]
   have k1:1≤gs.length:=by
    rcases Nat.eq_zero_or_pos gs.length with z | z
    ·have:=e0 (by omega)
     omega
    ·exact z
   refine ⟨a2y.mpr (.inr ⟨i,hi,by show ((i+2:Nat):Int)=_;omega,by omega,c⟩),?_,?_,_,rfl,fun x hx=>?_⟩
   ·show st=nx st ((i+2:Nat):Int)
    unfold nx
    rw [if_neg (by omega)]
    omega
   ·show ((srt (gs.tail++(srt ps).take (i+2))).length:Int)=(gs.length:Int) - 1+((i+2:Nat):Int)
    rw [a1r,List.length_append,List.length_tail,List.length_take,a1r]
    omega
   ·rcases List.mem_append.mp hx with z | z
    ·exact bt x z
    ·exact bp x ((a0Z ps).mem_iff.mp (List.mem_of_mem_take z))
  ·cases hr
abbrev Fr:=Int × List Int
def nxt (ps ws:List Int) (k:Fr):List Mv:=mvs ps ws k.1 k.2
structure Wide (ps ws:List Int):Prop where
 p2:2≤ps.length
 p6:ps.length≤6
 w1:1≤ws.length
 w7:(ws.length:Int)≤(if ps.length=2 then 7 else 6)
 bp:Bw ps
 bw:Bw ws
structure a7h (ws:List Int) (k:Fr):Prop where
 iv:Iv ws.length k.1 k.2.length
 bd:Bw k.2
inductive Rch (ps ws:List Int):Fr→Prop
 | one:Rch ps ws (0,[0])
 | step {k:Fr} {m:Mv}:Rch ps ws k→m∈nxt ps ws k→Rch ps ws m.2.2
theorem a3V {ps ws:List Int} (W:Wide ps ws) {k:Fr} (h:a7h ws k) {m:Mv} (hm:m∈nxt ps ws k) :
  a7h ws m.2.2∧m.1∈lawf ps.length ws.length k.1 k.2.length∧m.2.2.1=nx k.1 m.1∧(m.2.2.2.length:Int)=(k.2.length:Int) - 1+m.1:=by
 obtain ⟨r,hr,rfl⟩:=List.mem_map.mp hm
 obtain ⟨h1,h2,h3,xs,h4,h5⟩:=mv_of W.p2 h.iv h.bd W.bp hr
 have st:=(h.iv.step h1).1
 refine ⟨⟨?_,fin_bd h4 h5⟩,by rw [a9J];exact h1,by rw [b0n,a9J];exact h2,by rw [a8D,a9J];exact h3⟩
 rw [b0n,a8D,h2,h3]
 exact st
theorem a9K {ws:List Int} (h:1≤ws.length):a7h ws (0,[0]):=⟨⟨by decide,by decide,by show (0:Int)+1≤_;omega,fun z=>by exact absurd z (by decide)⟩,fun x hx=>by
 rw [List.mem_singleton.mp hx]
 exact ⟨by decide,by unfold B30;decide⟩⟩
theorem Rch.ok {ps ws:List Int} (W:Wide ps ws) {k:Fr} (h:Rch ps ws k):a7h ws k:=by
 induction h with
 | one=>exact a9K W.w1
 | step _ hm ih=>exact (a3V W ih hm).1
def rk (k:Fr):Int:=2 * k.1+(k.2.length:Int)
theorem a5c {ps ws:List Int} (W:Wide ps ws) {k:Fr} (h:a7h ws k) {m:Mv} (hm:m∈nxt ps ws k):rk k < rk m.2.2∧(k.1 < m.2.2.1∨(k.1=m.2.2.1∧k.2.length < m.2.2.2.length)):=by
 obtain ⟨_,h1,h2,h3⟩:=a3V W h hm
 unfold rk
 rcases a2y.mp h1 with ⟨e,c⟩ | ⟨i,hi,e,c1,c2⟩
 ·rw [e] at h2 h3
  have:nx k.1 0=k.1+1:=by unfold nx;rw [if_pos rfl]
  rw [this] at h2
  omega
 ·rw [e] at h2 h3
  have:nx k.1 (2+(i:Int))=k.1:=by unfold nx;rw [if_neg (by omega)];omega
  rw [this] at h2
  omega
theorem a7h.rk {ws:List Int} {k:Fr} (h:a7h ws k):0≤rk k∧rk k≤2 * (ws.length:Int):=by
 obtain ⟨⟨a,b,c,d⟩,_⟩:=h
 unfold K75.rk
 omega
theorem b0o {ps ws:List Int} {st:Int} {gs:List Int} (h:Iv ws.length st gs.length):∀ n,(rws ps ws st gs n).map (·.1)=lawf (n+1) ws.length st gs.length
 | 0=>by
  obtain ⟨s0,k0,sk,e0⟩:=h
  show (rw1 ws st gs).map _=_++[]
  rw [List.append_nil]
  unfold rw1
  by_cases c:1 < gs.length∨st=(ws.length:Int) - 1
  ·rw [if_pos c,if_pos]
   ·rfl
   ·unfold b1K
    simp only [Bool.or_eq_true,Bool.and_eq_true,decide_eq_true_eq]
    omega
  ·rw [if_neg c,if_neg]
   ·rfl
   ·unfold b1K
    simp only [Bool.or_eq_true,Bool.and_eq_true,decide_eq_true_eq]
    omega
 | n+1=>by
  have ih:=b0o (ps:=ps) h n
  obtain ⟨s0,k0,sk,e0⟩:=h
  show (rws ps ws st gs n++rw2 ps ws st gs (n+2)).map _=_
  rw [List.map_append,ih]
  unfold lawf
  rw [show n+1+1 - 1=n+1 from rfl,show n+1 - 1=n from rfl,List.range_succ,List.map_append,List.filter_append,List.append_assoc]
  congr 2
  show (rw2 ps ws st gs (n+2)).map _=List.filter _ [(2:Int)+(n:Int)]
  unfold rw2
  by_cases c:st+(gs.length:Int) - 1+((n+2:Nat):Int)≤(ws.length:Int)
  ·have:b1x ws.length st gs.length (2+(n:Int))=true:=by
    unfold b1x
    simp only [Bool.and_eq_true,decide_eq_true_eq]
    omega
   rw [if_pos c,List.filter_cons_of_pos this]
   show [((n+2:Nat):Int)]=[2+(n:Int)]
   congr 1
   omega
  ·have:¬ b1x ws.length st gs.length (2+(n:Int))=true:=by
    unfold b1x
    simp only [Bool.and_eq_true,decide_eq_true_eq]
    omega
   rw [if_neg c,List.filter_cons_of_neg this]
   rfl
theorem b0p {ps ws:List Int} (W:Wide ps ws) {k:Fr} (h:a7h ws k):(nxt ps ws k).map (·.1)=lawf ps.length ws.length k.1 k.2.length:=by
 have e:=b0o (ps:=ps) h.iv (ps.length - 1)
 rw [show ps.length - 1+1=ps.length by have:=W.p2;omega] at e
 rw [←e]
 show (List.map (fin ws) _).map _=_
 rw [List.map_map]
 exact List.map_congr_left fun r _=>a9J ws r
def cnt (L n:Nat):Nat→Int→Int→Nat
 | 0,_,_=>1
 | f+1,st,kn=>1+((lawf L n st kn).map fun nb=>cnt L n f (nx st nb) (kn - 1+nb)).sum
theorem a8F {α:Type} {f g:α→Nat}:∀ {l:List α},(∀ x∈l,f x≤g x)→(l.map f).sum≤(l.map g).sum
 | [],_=>Nat.le_refl _
 | x :: l,h=>by
  show f x+_≤g x+_
  exact Nat.add_le_add (h x (.head _)) (a8F fun y hy=>h y (.tail _ hy))
theorem a6m {L n:Nat}:∀ {f:Nat} {st kn:Int},cnt L n f st kn≤cnt L n (f+1) st kn
 | 0,st,kn=>by show 1≤1+_;omega
 | f+1,st,kn=>Nat.add_le_add_left (a8F fun nb _=>a6m) 1
theorem b0q {L n:Nat} {st kn:Int} {f:Nat}:∀ {f':Nat},f≤f'→cnt L n f st kn≤cnt L n f' st kn
 | 0,h=>by rw [Nat.le_zero.mp h];exact Nat.le_refl _
 | f'+1,h=>by
  rcases Nat.lt_or_ge f' f with c | c
  ·rw [show f=f'+1 by omega];exact Nat.le_refl _
  ·exact Nat.le_trans (b0q c) a6m
def pot (ps ws:List Int) (k:Fr):Nat:=cnt ps.length ws.length (2 * (ws.length:Int) - rk k).toNat k.1 k.2.length
def pots (ps ws:List Int) (ks:List Fr):Nat:=(ks.map (pot ps ws)).sum
theorem a5B {ps ws:List Int} {k:Fr}:1≤pot ps ws k:=by
 unfold pot
 cases (2 * (ws.length:Int) - rk k).toNat with
 | zero=>exact Nat.le_refl _
 | succ f=>show 1≤1+_;omega
theorem a9L {ps ws:List Int} (W:Wide ps ws) {k:Fr} (h:a7h ws k):1+pots ps ws ((nxt ps ws k).map (·.2.2))≤pot ps ws k:=by
 cases hn:nxt ps ws k with
 | nil=>exact a5B
 | cons m0 ms0 =>
 rw [←hn]
 have m0m:m0∈nxt ps ws k:=by rw [hn];exact .head _
 have up0:=(a5c W h m0m).1
 have ok0:=(a3V W h m0m).1.rk
 obtain ⟨f,hf⟩:∃ f,(2 * (ws.length:Int) - rk k).toNat=f+1:=⟨(2 * (ws.length:Int) - rk k).toNat - 1,by omega⟩
 unfold pot
 rw [hf]
 show _≤1+_
 refine Nat.add_le_add_left ?_ 1
 rw [←b0p W h,List.map_map]
 unfold pots
 rw [List.map_map]
 refine a8F fun m hm=>?_
 obtain ⟨o,_,h2,h3⟩:=a3V W h hm
 have up:=(a5c W h hm).1
 show cnt _ _ _ m.2.2.1 (m.2.2.2.length:Int)≤cnt _ _ f (nx k.1 m.1) ((k.2.length:Int) - 1+m.1)
 rw [h2,h3]
 refine b0q ?_
 show (2 * (ws.length:Int) - rk m.2.2).toNat≤f
 omega
theorem a3A {ps ws:List Int} {k:Fr} {ks:List Fr}:pots ps ws (k :: ks)=pot ps ws k+pots ps ws ks:=rfl
theorem a4y {ps ws:List Int} {xs ys:List Fr}:pots ps ws (xs++ys)=pots ps ws xs+pots ps ws ys:=by
 unfold pots
 rw [List.map_append,List.sum_append]
theorem a6n {ps ws:List Int}:∀ {ks:List Fr},ks.length≤pots ps ws ks
 | []=>Nat.zero_le _
 | k :: ks=>by
  rw [a3A,List.length_cons]
  have:=a5B (ps:=ps) (ws:=ws) (k:=k)
  have:=a6n (ps:=ps) (ws:=ws) (ks:=ks)
  omega
theorem cnt_bd:∀ L∈([2,3,4,5,6]:List Nat),∀ n∈([1,2,3,4,5,6,7]:List Nat),(n≤6∨L=2)→cnt L n (2 * n - 1) 0 1≤1100:=by decide +kernel
theorem a8G {ps ws:List Int} (W:Wide ps ws):pot ps ws (0,[0])≤1100:=by
 obtain ⟨p2,p6,w1,w7,_,_⟩:=W
 unfold pot
 have e:(2 * (ws.length:Int) - rk (0,[0])).toNat=2 * ws.length - 1:=by
  have:rk (0,[0])=1:=rfl
  rw [this]
  omega
 rw [e]
 refine cnt_bd ps.length ?_ ws.length ?_ ?_
 ·simp only [List.mem_cons,List.not_mem_nil,or_false];omega
 ·simp only [List.mem_cons,List.not_mem_nil,or_false];split at w7 <;> omega
 ·split at w7 <;> omega
def b0r (ns:List Int):Int:=if ns=[] then 0 else (srt ns).headD 0
def flF (ps ws:List Int):Nat→Fr→Int
 | 0,_=>0
 | f+1,k=>b0r ((nxt ps ws k).map fun m=>m.2.1+flF ps ws f m.2.2)
theorem b0s {ps ws:List Int} (W:Wide ps ws):∀ {f f':Nat} {k:Fr},a7h ws k→2 * (ws.length:Int) - rk k < f→2 * (ws.length:Int) - rk k < f'→flF ps ws f k=flF ps ws f' k
 | 0,_,k,h,h1,_=>by have:=h.rk;omega
 | _,0,k,h,_,h2=>by have:=h.rk;omega
 | f+1,f'+1,k,h,h1,h2=>by
  show b0r _=b0r _
  congr 1
  refine List.map_congr_left fun m hm=>?_
  have up:=(a5c W h hm).1
  rw [b0s W (a3V W h hm).1 (f:=f) (f':=f') (by omega) (by omega)]
def flo (ps ws:List Int) (k:Fr):Int:=flF ps ws (2 * ws.length+1) k
theorem b0t {ps ws:List Int} (W:Wide ps ws) {k:Fr} (h:a7h ws k):flo ps ws k=b0r ((nxt ps ws k).map fun m=>m.2.1+flo ps ws m.2.2):=by
 show b0r _=b0r _
 congr 1
 refine List.map_congr_left fun m hm=>?_
 have up:=(a5c W h hm).1
 have:=h.rk
 unfold flo
 rw [b0s W (a3V W h hm).1 (f:=2 * ws.length) (f':=2 * ws.length+1) (by omega) (by omega)]
theorem a6Z {ps ws:List Int} {S:List Fr} (h1:(0,[0])∈S) (h2:∀ k∈S,∀ m∈nxt ps ws k,m.2.2∈S) {k:Fr} (h:Rch ps ws k):k∈S:=by
 induction h with
 | one=>exact h1
 | step _ hm ih=>exact h2 _ ih _ hm
def a2Q (lr:Addr) (H:Hp) (x:V) (r:Rw):Prop:=∃ t l,x=.ref t∧H t=some (.tup [.int r.1,.int r.2.1,.ref l])∧l≠lr∧H l=some (.lst (r.2.2.map V.int))
theorem a2Q.same {lr:Addr} {H H':Hp} {x:V} {r:Rw} (s:a0y H H') (h:a2Q lr H x r):a2Q lr H' x r:=by
 obtain ⟨t,l,rfl,e1,n,e2⟩:=h
 exact ⟨t,l,rfl,s _ _ e1,n,s _ _ e2⟩
theorem a2Q.upd {lr:Addr} {H:Hp} {x:V} {r:Rw} {ys zs:List V} (hl:H lr=some (.lst ys)) (h:a2Q lr H x r):a2Q lr (L2.upd H lr (.lst zs)) x r:=by
 obtain ⟨t,l,rfl,e1,n,e2⟩:=h
 exact ⟨t,l,rfl,by rw [a0r (a2k e1 hl (by intro z;cases z))];exact e1,n,by rw [a0r n];exact e2⟩
abbrev Rows (lr:Addr) (H:Hp) (xs:List V) (rs:List Rw):Prop:=Paired (a2Q lr H) xs rs
theorem b0u {ps ws gs:List Int} {st:Int} (s0:0≤st) (s1:st≤(ws.length:Int)) (s2:1 < gs.length→st < (ws.length:Int)) (g10:gs.length≤10) (p6:ps.length≤6) (bp:Bw ps) (bg:Bg gs):∀ n,∀ r∈rws ps ws st gs n,0≤r.2.1∧r.2.1≤(ws.length:Int)∧Bg r.2.2∧r.2.2.length≤30
 | 0=>fun r hr=>by
  unfold rws rw1 at hr
  split at hr
  ·rename_i c
   rw [List.mem_singleton.mp hr]
   refine ⟨by show 0≤st+1;omega,by show st+1≤_;rcases c with c | c;(have:=s2 c;omega);omega,fun x hx=>bg.tail x ((a0Z _).mem_iff.mp hx),?_⟩
   show (srt gs.tail).length≤30
   rw [a1r,List.length_tail];omega
  ·cases hr
 | n+1=>fun r hr=>by
  unfold rws at hr
  rcases List.mem_append.mp hr with h | h
  ·exact b0u s0 s1 s2 g10 p6 bp bg n r h
  ·unfold rw2 at h
   split at h
   ·rw [List.mem_singleton.mp h]
    refine ⟨s0,by show st≤_;omega,fun x hx=>bg.cat bp _ x ((a0Z _).mem_iff.mp hx),?_⟩
    show (srt (gs.tail++_)).length≤30
    rw [a1r,List.length_append,List.length_tail,List.length_take,a1r];omega
   ·cases h
section
variable {P:Program} {w:World} {K:PySem.W.Frag} {mg:Str→Option Value} {base:Heap} {f:Addr} {fd:FuncData}
abbrev NV:List Str:=["prices","weights","frontier","settled","gaps","rows","many","told","number","done","later","left"]
def spMv (K:PySem.W.Frag):Sp:=fun vs H Q _=>∃ (p q fr g:Addr) (ps ws gs:List Int) (st:Int),vs=[.ref p,.ref q,.ref fr]∧Ask K H p q fr g ps ws gs st∧(gs=[]→st=(ws.length:Int)) ∧
 ∀ (l:Addr) H' xs,a0y H H'→H l=none→H' l=some (.lst xs)→Mvs H' xs (mvs ps ws st gs)→Q (.ref l) H'
theorem a8U:a0C NV ["prices","weights","frontier"] (a0g sMv):=⟨rfl,rfl,rfl,by decide +kernel,rfl,by decide +kernel,by decide +kernel⟩
theorem ndV:(("gap":Str) :: NV).Nodup:=by decide +kernel
theorem ok_mv (F:Fun K "_law_moves" "_law_moves" sMv f fd) (ml:mg "len"=none) (mr:mg "range"=none) (mS:mg "sorted"=none) (ms:mg "sum"=none) (mt:mg "tuple"=none) (mL:mg "list"=none):a1X P w K mg base CX0 3 f fd ["prices","weights","frontier"] (spMv K):=by
 refine F.ok (k:=2) a8U (fun vs H Q E h=>?_) (fun cdv A outer s H vs Q E hr h=>?_)
 ·obtain ⟨p,q,fr,g,ps,ws,gs,st,rfl,_⟩:=h
  rfl
 obtain ⟨p,q,fr,g,ps,ws,gs,st,rfl,ak,g1,qq⟩:=h
 have w10:=ak.w10
 obtain ⟨hp,hq,hf,hg,p2,p6,w7,s0,s1,s2,g10,bw,bp,bg⟩:=ak
 refine ⟨_,a0f (a3j (pv 2) (a3i rfl (a0L (a0E (i:=3) a8U.nd rfl (Or.inl rfl)) (a0L (a0E (i:=4) a8U.nd rfl (Or.inl rfl)) a2m))))
  (a0f (a0u (i:=5) a8U.nd rfl (Or.inl rfl) (a1T a0e))
  (a0f (a2U (a0J (PW.pt (a5g (a0n a2V (a0j a0h (by rfl) ml PySem.boot_len (a0a (pv 4) a0e)) a0d (nomark _)) (a3h (PW.pt (a4D (a0n a0V (a0j a0h (by rfl) ml PySem.boot_len (a0a (pv 4) a0e)) a0d (nomark _)) (a3g (a0n a0V (pv 3) (a0m a0W (a0j a0h (by rfl) ml PySem.boot_len (a0a (pv 1) a0e)) a0d) (nomark _))))))))
   (a0i (a1y (a4b PySem.F.plainAttrs_list PySem.F.slot_list_append PySem.F.type_list_append a1A (pv 5) (a0a (a0K (a0a a0d (a0a (a0m a0G (pv 3) a0d) (a0a (a0j a1P (by rfl) mS a0Y (a0a (a1d (a4v K) (pv 4) (a1q a0d) a1H) a0e)) a0e)))) a0e)))) a0s))
  (a0f (a2U (a2h PassesOwn.never rfl (a3l (by rfl) mr (a0a a0d (a0a (a0m a0G (a0j a0h (by rfl) ml PySem.boot_len (a0a (pv 0) a0e)) a0d) a0e))) (a0E (i:=6) a8U.nd rfl (Or.inl rfl))
   (a0i (a0J (PW.pt (a4D (a0n a2V (a0j a0h (by rfl) ml PySem.boot_len (a0a (pv 4) a0e)) a0d (nomark _)) (a3g (a0n a5i (a0m a0G (a0m a0W (a0m a0G (pv 3) (a0j a0h (by rfl) ml PySem.boot_len (a0a (pv 4) a0e))) a0d) (pv 6)) (a0j a0h (by rfl) ml PySem.boot_len (a0a (pv 1) a0e)) (nomark _)))))
    (a0i (a1y (a4b PySem.F.plainAttrs_list PySem.F.slot_list_append PySem.F.type_list_append a1A (pv 5) (a0a (a0K (a0a (pv 6) (a0a (pv 3) (a0a (a0j a1P (by rfl) mS a0Y (a0a (a0m a7A (a0Q a1m (by rfl) mL a4Q (a0a (a1d (a4v K) (pv 4) (a1q a0d) a1H) a0e)) (a1d a3o (a0j a1P (by rfl) mS a0Y (a0a (pv 0) a0e)) a1H (a1q (pv 6)))) a0e)) a0e)))) a0e)))) a0s))))
  (a0f (a0u (i:=7) a8U.nd rfl (Or.inl rfl) (a1T a0e))
  (a0f (a2h PassesOwn.never rfl (a2D (pv 5)) (a3i rfl (a0L (a0E (i:=8) a8U.nd rfl (Or.inl rfl)) (a0L (a0E (i:=9) a8U.nd rfl (Or.inl rfl)) (a0L (a0E (i:=10) a8U.nd rfl (Or.inr rfl)) a2m))))
   (a0i (a0J (a0n (b0Y (hu4 hr)) (pv 10) (a1T a0e) (nomark _))
    (a0i (a1y (a4b PySem.F.plainAttrs_list PySem.F.slot_list_append PySem.F.type_list_append a1A (pv 7) (a0a (a0K (a0a (pv 8) (a0a a0d (a0a (a0K (a0a (pv 9) (a0a (a0K a0e) a0e))) a0e)))) a0e))))
    (a0f (a0u (i:=11) a8U.nd rfl (Or.inl rfl) (a0j (a5T rfl) (by rfl) ms b_sum (a0a (a1d a3o (a0j a1P (by rfl) mS a0Y (a0a (pv 1) a0e)) a1H (a1q (a0m a0W (a0j a0h (by rfl) ml PySem.boot_len (a0a (pv 1) a0e)) (pv 9)))) a0e)))
    (a0i (a1y (a4b PySem.F.plainAttrs_list PySem.F.slot_list_append PySem.F.type_list_append a1A (pv 7) (a0a (a0K (a0a (pv 8) (a0a (a0m a7S (a0D a1a (pv 10) a0d (fun _ _=>rfl)) (pv 11)) (a0a (a0K (a0a (pv 9) (a0a (a0Q a0T (by rfl) mt a2I (a0a (a1M (M:=NV) rfl (a0o.of (a0g sMv) NV rfl rfl rfl (by decide +kernel) (by decide +kernel) (by decide +kernel) rfl (by decide +kernel)) ndV rfl (pv 10) a0S
     (fun cl C s0 H0 fp=>⟨a1c,a0m a0W (pv 0) (a0D (ixL K) (pv 11) a0d (fun _ _=>rfl))⟩)) a0e)) a0e))) a0e)))) a0e))))))))
  (a0i (a0t (pv 7)))))))),?_⟩
 refine ⟨_,rfl,fr,_,rfl,hf,rfl,_,_,rfl,_,_,rfl,rfl,?_⟩
 refine ⟨(by show 0≤sizeLine;decide),fun lr hlr=>?_⟩
 have s3:=a0c hlr (.lst [])
 have g3:upd H lr (.lst []) lr=some (.lst []):=a0b
 generalize upd H lr (.lst [])=H3 at s3 g3 ⊢
 refine ⟨fun σ' H'=>∃ xs,σ'=[some (.ref p),some (.ref q),some (.ref fr),some (.int st),some (.ref g),some (.ref lr),none,none,none,none,none,none]∧a0y H H'∧H' lr=some (.lst xs)∧Rows lr H' xs (rws ps ws st gs 0),?_,?_⟩
 ·refine ⟨_,rfl,g,_,rfl,.inr ((hg.same s3).sq),_,_,rfl,rfl,_,rfl,?_⟩
  rw [List.length_map]
  refine a1g (fun c=>?_) (fun c=>?_)
  ·have c1:1 < gs.length:=by have:=of_decide_eq_true c;omega
   have ec:rws ps ws st gs 0=[(0,st+1,srt gs.tail)]:=if_pos (.inl c1)
   rw [ec]
   refine ⟨_,rfl,.inl ⟨rfl,_,SqL.of g3⟩,_,rfl,_,_,rfl,rfl,_,rfl,_,rfl,g,gs,rfl,hg.same s3,rfl,rfl,fun p4 H4 s4 hp4=>?_⟩
   have hp4':TW H4 p4 gs.tail:=by show H4 p4=_;rw [hp4];exact congrArg (fun z=>some (HO.tup z)) (a2f gs)
   refine ⟨p4,gs.tail,rfl,.inr hp4',by rw [List.length_tail];omega,fun p5 H5 s5 hn5 hp5=>?_⟩
   have hl5:=(s4.trans s5) _ _ g3
   have ne5:p5≠lr:=fun y=>by
    have:=s4 _ _ g3
    rw [←y,hn5] at this
    cases this
   refine ⟨(by show 3≤sizeLine;decide),fun t6 ht6=>?_⟩
   have s6:=a0c ht6 (.tup [.int 0,.int (st+1),.ref p5])
   have g6:upd H5 t6 (.tup [.int 0,.int (st+1),.ref p5]) t6=some (.tup [.int 0,.int (st+1),.ref p5]):=a0b
   generalize upd H5 t6 (.tup [.int 0,.int (st+1),.ref p5])=H6 at s6 g6 ⊢
   have hl6:=s6 _ _ hl5
   exact ⟨lr,_,_,rfl,rfl,hl6,a0q (by show 0≤1000;decide),_,rfl,a0p hlr (((s3.trans s4).trans s5).trans s6),a0b,.cons (a2Q.upd hl6 ⟨t6,p5,rfl,g6,ne5,s6 _ _ hp5⟩) .nil⟩
  ·have c1:¬ 1 < gs.length:=fun y=>c (decide_eq_true (by omega))
   refine ⟨_,rfl,g,_,rfl,.inr ((hg.same s3).sq),rfl,_,rfl,?_⟩
   rw [List.length_map]
   refine a1g (fun _=>?_) (fun c0=>⟨[],rfl,s3,g3,by
    have z:gs=[]:=by
     cases gs with
     | nil=>rfl
     | cons y ys=>exact absurd (decide_eq_true (by congr 1;simp only [List.length_cons] at c1 ⊢;omega)) c0
    have ec:rws ps ws st gs 0=[]:=if_neg fun y=>y.elim c1 fun y=>by have:=g1 z;omega
    rw [ec]
    exact .nil⟩)
   refine ⟨_,rfl,_,rfl,q,_,rfl,.inr (SqT.of (s3 _ _ hq)),_,_,rfl,rfl,rfl,_,rfl,?_⟩
   rw [List.length_map]
   refine a1g (fun c2=>?_) (fun c2=>?_)
   ·have c3:st=(ws.length:Int) - 1:=V.int.inj (of_decide_eq_true c2)
    have ec:rws ps ws st gs 0=[(0,st+1,srt gs.tail)]:=if_pos (.inr c3)
    rw [ec]
    refine ⟨_,rfl,.inl ⟨rfl,_,SqL.of g3⟩,_,rfl,_,_,rfl,rfl,_,rfl,_,rfl,g,gs,rfl,hg.same s3,rfl,rfl,fun p4 H4 s4 hp4=>?_⟩
    have hp4':TW H4 p4 gs.tail:=by show H4 p4=_;rw [hp4];exact congrArg (fun z=>some (HO.tup z)) (a2f gs)
    refine ⟨p4,gs.tail,rfl,.inr hp4',by rw [List.length_tail];omega,fun p5 H5 s5 hn5 hp5=>?_⟩
    have hl5:=(s4.trans s5) _ _ g3
    have ne5:p5≠lr:=fun y=>by
     have:=s4 _ _ g3
     rw [←y,hn5] at this
     cases this
    refine ⟨(by show 3≤sizeLine;decide),fun t6 ht6=>?_⟩
    have s6:=a0c ht6 (.tup [.int 0,.int (st+1),.ref p5])
    have g6:upd H5 t6 (.tup [.int 0,.int (st+1),.ref p5]) t6=some (.tup [.int 0,.int (st+1),.ref p5]):=a0b
    generalize upd H5 t6 (.tup [.int 0,.int (st+1),.ref p5])=H6 at s6 g6 ⊢
    have hl6:=s6 _ _ hl5
    exact ⟨lr,_,_,rfl,rfl,hl6,a0q (by show 0≤1000;decide),_,rfl,a0p hlr (((s3.trans s4).trans s5).trans s6),a0b,.cons (a2Q.upd hl6 ⟨t6,p5,rfl,g6,ne5,s6 _ _ hp5⟩) .nil⟩
   ·have c3:¬ st=(ws.length:Int) - 1:=fun y=>c2 (decide_eq_true (by rw [y]))
    have ec:rws ps ws st gs 0=[]:=if_neg (fun z=>z.elim c1 c3)
    rw [ec]
    exact ⟨[],rfl,s3,g3,.nil⟩
 rintro σ' H4 ⟨xs0,rfl,t4,hl4,hm4⟩
 refine ⟨fun σ' H'=>∃ (xs:List V) (x6:Option V),σ'=[some (.ref p),some (.ref q),some (.ref fr),some (.int st),some (.ref g),some (.ref lr),x6,none,none,none,none,none]∧a0y H H'∧H' lr=some (.lst xs)∧Rows lr H' xs (rws ps ws st gs (ps.length - 1)),?_,?_⟩
 ·refine ⟨_,rfl,p,_,rfl,.inr (SqT.of (t4 _ _ hp)),_,_,rfl,rfl,_,_,rfl,⟨by decide,by decide,by rw [List.length_map];omega,by rw [List.length_map];omega⟩,?_⟩
  refine a1W (fun i σ H'=>∃ (xs:List V) (x6:Option V),σ=[some (.ref p),some (.ref q),some (.ref fr),some (.int st),some (.ref g),some (.ref lr),x6,none,none,none,none,none]∧a0y H H'∧H' lr=some (.lst xs)∧Rows lr H' xs (rws ps ws st gs i))
   ⟨xs0,_,rfl,t4,hl4,hm4⟩ (fun i σ H5 hi hP=>?_) (fun σ H5 hP=>?_)
  ·obtain ⟨xs,x6,rfl,t5,hl5,hm5⟩:=hP
   have i5:i < 5:=by
    have:(ps.map V.int).length=ps.length:=List.length_map ..
    omega
   have lx:xs.length≤i+1:=by
    have:=hm5.length
    rw [this]
    exact a2p ps ws st gs i
   have e2:(2:Int)+(i:Int)=((i+2:Nat):Int):=by push_cast;omega
   rw [e2]
   have es:rws ps ws st gs (i+1)=rws ps ws st gs i++rw2 ps ws st gs (i+2):=rfl
   refine ⟨_,rfl,g,_,rfl,.inr ((hg.same t5).sq),_,_,rfl,rfl,_,rfl,?_⟩
   rw [List.length_map]
   refine a1g (fun _=>?_) (fun c0=>⟨xs,_,rfl,t5,hl5,by
    have z:gs=[]:=List.length_eq_zero_iff.mp (by
     rcases Nat.eq_zero_or_pos gs.length with y | y
     ·exact y
     ·exact absurd (decide_eq_true (by omega)) c0)
    have e3:rw2 ps ws st gs (i+2)=[]:=if_neg fun y=>by
     have:=g1 z
     rw [z] at y
     simp only [List.length_nil] at y
     omega
    rw [es,e3,List.append_nil]
    exact hm5⟩)
   refine ⟨_,rfl,_,rfl,g,_,rfl,.inr ((hg.same t5).sq),_,_,rfl,rfl,_,_,rfl,rfl,_,rfl,_,_,rfl,rfl,_,rfl,q,_,rfl,.inr (SqT.of (t5 _ _ hq)),_,_,rfl,rfl,_,rfl,?_⟩
   rw [List.length_map,List.length_map]
   refine a1g (fun c=>?_) (fun c=>?_)
   ·have c1:=of_decide_eq_true c
    have e3:rw2 ps ws st gs (i+2)=[(((i+2:Nat):Int),st,srt (gs.tail++(srt ps).take (i+2)))]:=if_pos c1
    refine ⟨_,rfl,.inl ⟨rfl,_,SqL.of hl5⟩,_,rfl,_,rfl,_,rfl,_,rfl,g,gs,rfl,hg.same t5,rfl,rfl,fun p6 H6 s6 hp6=>?_⟩
    have hp6':TW H6 p6 gs.tail:=by show H6 p6=_;rw [hp6];exact congrArg (fun z=>some (HO.tup z)) (a2f gs)
    refine ⟨p6,_,rfl,.inr (SqT.of hp6'),fun l7 hl7=>?_⟩
    have s7:=a0c hl7 (.lst (gs.tail.map V.int))
    have g7:upd H6 l7 (.lst (gs.tail.map V.int)) l7=some (.lst (gs.tail.map V.int)):=a0b
    generalize upd H6 l7 (.lst (gs.tail.map V.int))=H7 at s7 g7 ⊢
    have s57:=s6.trans s7
    refine ⟨_,rfl,p,ps,rfl,.inr ((t5.trans s57) _ _ hp),by omega,fun p8 H8 s8 hn8 hp8=>?_⟩
    refine ⟨_,rfl,_,rfl,p8,_,rfl,SqL.of hp8,fun p9 hp9=>?_⟩
    rw [show a2G ((srt ps).map V.int) none (some ((i+2:Nat):Int))=((srt ps).take (i+2)).map V.int by rw [a4R,List.map_take]]
    have s9:=a0c hp9 (.lst (((srt ps).take (i+2)).map V.int))
    have g9:upd H8 p9 (.lst (((srt ps).take (i+2)).map V.int)) p9=some (.lst (((srt ps).take (i+2)).map V.int)):=a0b
    generalize upd H8 p9 (.lst (((srt ps).take (i+2)).map V.int))=H9 at s9 g9 ⊢
    refine ⟨l7,p9,_,_,rfl,rfl,(s8.trans s9) _ _ g7,g9,?_,fun pA hpA=>?_⟩
    ·rw [List.length_map,List.length_map,List.length_tail,List.length_take]
     exact Nat.le_of_lt (a0q (by omega))
    rw [←List.map_append]
    have sA:=a0c hpA (.lst ((gs.tail++(srt ps).take (i+2)).map V.int))
    have gA:upd H9 pA (.lst ((gs.tail++(srt ps).take (i+2)).map V.int)) pA=some (.lst ((gs.tail++(srt ps).take (i+2)).map V.int)):=a0b
    generalize upd H9 pA (.lst ((gs.tail++(srt ps).take (i+2)).map V.int))=HA at sA gA ⊢
    have s5A:=((s57.trans s8).trans s9).trans sA
    refine ⟨pA,_,rfl,.inl gA,by rw [List.length_append,List.length_tail,List.length_take];omega,fun pB HB sB hnB hpB=>?_⟩
    have neB:pB≠lr:=fun y=>by
     have:=s5A _ _ hl5
     rw [←y,hnB] at this
     cases this
    refine ⟨(by show 3≤sizeLine;decide),fun t6 ht6=>?_⟩
    have sC:=a0c ht6 (.tup [.int ((i+2:Nat):Int),.int st,.ref pB])
    have gC:upd HB t6 (.tup [.int ((i+2:Nat):Int),.int st,.ref pB]) t6=some (.tup [.int ((i+2:Nat):Int),.int st,.ref pB]):=a0b
    generalize upd HB t6 (.tup [.int ((i+2:Nat):Int),.int st,.ref pB])=HC at sC gC ⊢
    have s5C:=(s5A.trans sB).trans sC
    have hlC:=s5C _ _ hl5
    refine ⟨lr,_,_,rfl,rfl,hlC,a0q (by omega),_,_,rfl,a0p hlr (t5.trans s5C),a0b,?_⟩
    rw [es,e3]
    exact L2.Paired.appendP (Paired.mapP hm5 fun _ _ r=>a2Q.upd hlC (a2Q.same s5C r)) (.cons (a2Q.upd hlC ⟨t6,pB,rfl,gC,neB,sC _ _ hpB⟩) .nil)
   ·have e3:rw2 ps ws st gs (i+2)=[]:=if_neg fun y=>c (decide_eq_true y)
    exact ⟨xs,_,rfl,t5,hl5,by rw [es,e3,List.append_nil];exact hm5⟩
  ·obtain ⟨xs,x6,rfl,t5,hl5,hm5⟩:=hP
   have en:((((ps.map V.int).length:Nat):Int)+1 - 2).toNat=ps.length - 1:=by rw [List.length_map];omega
   rw [en] at hm5
   exact ⟨xs,x6,rfl,t5,hl5,hm5⟩
 clear hm4 hl4 t4
 rintro σ' H5 ⟨xs,x6,rfl,t5,hl5,hm5⟩
 have rok:=b0u s0 s1 s2 g10 p6 bp bg (ps.length - 1)
 have rl:=a2p ps ws st gs (ps.length - 1)
 have em:mvs ps ws st gs=(rws ps ws st gs (ps.length - 1)).map (fin ws):=rfl
 rw [em] at qq
 generalize rws ps ws st gs (ps.length - 1)=rs at hm5 rok rl qq
 have lx:xs.length=rs.length:=hm5.length
 refine ⟨(by show 0≤sizeLine;decide),fun lt hlt=>?_⟩
 have s6:=a0c hlt (.lst [])
 have g6:upd H5 lt (.lst []) lt=some (.lst []):=a0b
 generalize upd H5 lt (.lst [])=H6 at s6 g6 ⊢
 refine ⟨_,rfl,lr,rfl,⟨_,SqL.of (s6 _ _ hl5)⟩,?_⟩
 refine a2X (xs:=xs) (fun i σ H'=>a0y H5 H'∧(∃ ys,H' lt=some (.lst ys)∧Mvs H' ys ((rs.take i).map (fin ws)))∧∃ x8 x9 x10 x11:Option V,σ=[some (.ref p),some (.ref q),some (.ref fr),some (.int st),some (.ref g),some (.ref lr),x6,some (.ref lt),x8,x9,x10,x11])
  ⟨s6,⟨[],g6,.nil⟩,_,_,_,_,rfl⟩ (fun i σ H' _ hP=>SqL.of (hP.1 _ _ hl5)) (fun i x σ H7 hx hP=>?_) (fun σ H7 hP=>?_)
 ·obtain ⟨s7,⟨ys,hl7,hm7⟩,x8,x9,x10,x11,rfl⟩:=hP
  obtain ⟨r,hr',rx⟩:=Paired.right_of hm5 i x hx
  obtain ⟨r1,r2,r3,r4⟩:=rok r (List.mem_of_getElem? hr')
  have il:=(List.getElem?_eq_some_iff.mp hr').1
  have ly:ys.length≤100:=by
   have:=hm7.length
   rw [this,List.length_map,List.length_take]
   omega
  have tk:(rs.take (i+1)).map (fin ws)=(rs.take i).map (fin ws)++[fin ws r]:=by rw [List.take_add_one,hr',List.map_append];rfl
  obtain ⟨t,l,rfl,ht,ne,hl⟩:=a2Q.same s7 rx
  have t7:=t5.trans s7
  refine ⟨t,_,rfl,SqT.of ht,rfl,_,_,rfl,_,_,rfl,_,_,rfl,rfl,?_⟩
  refine ⟨_,rfl,(by show 0≤sizeLine;decide),fun e1 he1=>?_⟩
  have s8:=a0c he1 (.lst [])
  have g8:upd H7 e1 (.lst []) e1=some (.lst (([]:List Int).map V.int)):=a0b
  generalize upd H7 e1 (.lst [])=H8 at s8 g8 ⊢
  refine ⟨l,e1,r.2.2,[],rfl,rfl,s8 _ _ hl,g8,_,rfl,?_⟩
  refine a1g (fun c=>?_) (fun c=>?_)
  ·have c1:=of_decide_eq_true c
   have ef:fin ws r=(r.1,0,(r.2.1,[])):=by unfold fin;rw [if_pos c1]
   refine ⟨_,rfl,.inl ⟨rfl,_,SqL.of (s8 _ _ hl7)⟩,_,rfl,_,rfl,(by show 0≤sizeLine;decide),fun a1 ha1=>?_⟩
   have sA:=a0c ha1 (.tup [])
   have gA:TW (upd H8 a1 (.tup [])) a1 []:=a0b
   generalize upd H8 a1 (.tup [])=HA at sA gA ⊢
   refine ⟨(by show 2≤sizeLine;decide),fun a2 ha2=>?_⟩
   have sB:=a0c ha2 (.tup [.int r.2.1,.ref a1])
   have gB:upd HA a2 (.tup [.int r.2.1,.ref a1]) a2=some (.tup [.int r.2.1,.ref a1]):=a0b
   generalize upd HA a2 (.tup [.int r.2.1,.ref a1])=HB at sB gB ⊢
   refine ⟨(by show 3≤sizeLine;decide),fun a3 ha3=>?_⟩
   have sC:=a0c ha3 (.tup [.int r.1,.int 0,.ref a2])
   have gC:upd HB a3 (.tup [.int r.1,.int 0,.ref a2]) a3=some (.tup [.int r.1,.int 0,.ref a2]):=a0b
   generalize upd HB a3 (.tup [.int r.1,.int 0,.ref a2])=HC at sC gC ⊢
   have s7C:=((s8.trans sA).trans sB).trans sC
   have hlC:=s7C _ _ hl7
   have mv:a3H HC (.ref a3) (fin ws r):=by
    rw [ef]
    exact ⟨a3,_,_,_,rfl,gC,rfl,rfl,a2,_,_,rfl,sC _ _ gB,rfl,a2s (sC _ _ (sB _ _ gA))⟩
   refine ⟨lt,_,_,rfl,rfl,hlC,a0q (by omega),a0p hlt (s7.trans s7C),⟨_,a0b,?_⟩,_,_,_,_,rfl⟩
   rw [tk]
   exact L2.Paired.appendP (Mvs.tk ((TK.of s7C).trans (TK.upd hlC)) hm7) (.cons (a3H.tk (TK.upd hlC) mv) .nil)
  ·have c1:r.2.2≠[]:=fun y=>c (decide_eq_true y)
   have ef:fin ws r=(r.1,r.2.2.headD 0 * wl ws r.2.1,(r.2.1,r.2.2.map (· - r.2.2.headD 0))):=by unfold fin;rw [if_neg c1]
   have wb:=wl_bd bw (by omega) r.2.1
   obtain ⟨h0,hm0⟩:r.2.2[0]?=some (r.2.2.headD 0)∧r.2.2.headD 0∈r.2.2:=by
    cases hz:r.2.2 with
    | nil=>exact absurd hz c1
    | cons y ys=>exact ⟨rfl,.head _⟩
   have hb:=r3 _ hm0
   generalize r.2.2.headD 0=hd0 at ef h0 hb hm0
   have t8:=t7.trans s8
   refine ⟨_,rfl,q,ws,rfl,.inr (t8 _ _ hq),by omega,fun p1 H9 s9 hn9 hp9=>?_⟩
   refine ⟨_,rfl,q,_,rfl,.inr (SqT.of ((t8.trans s9) _ _ hq)),_,rfl,_,_,rfl,rfl,_,rfl,p1,_,rfl,SqL.of hp9,fun p2' hp2'=>?_⟩
   have e:a2G ((srt ws).map V.int) none (some (((ws.map V.int).length:Int) - r.2.1))=((srt ws).take (ws.length - r.2.1.toNat)).map V.int:=by
    rw [List.length_map,show ((ws.length:Int) - r.2.1)=((ws.length - r.2.1.toNat:Nat):Int) by omega,a4R,List.map_take]
   dsimp only
   rw [e]
   have sA:=a0c hp2' (.lst (((srt ws).take (ws.length - r.2.1.toNat)).map V.int))
   refine ⟨p2',_,rfl,a0b,?_⟩
   generalize upd H9 p2' (.lst (((srt ws).take (ws.length - r.2.1.toNat)).map V.int))=HA at sA ⊢
   have s7A:=(s8.trans s9).trans sA
   have hlA:=s7A _ _ hl
   refine ⟨_,rfl,.inl ⟨rfl,_,SqL.of (s7A _ _ hl7)⟩,_,rfl,_,rfl,l,_,_,_,rfl,rfl,SqL.of hlA,a3N (k:=0) h0,_,rfl,_,_,rfl,rfl,⟨⟨hb.1,by unfold B30 at *;omega⟩,⟨wb.1,by unfold B30 at *;exact Int.le_trans wb.2 (by omega)⟩⟩,_,rfl,_,rfl,l,_,rfl,SqL.of hlA,fun d hd=>?_⟩
   refine ⟨fun j H'=>a0y HA H'∧H' d=some (.lst (((r.2.2.take j).map (· - hd0)).map V.int)),⟨a0c hd _,a0b⟩,fun j H' _ hP=>SqL.of (hP.1 _ _ hlA),fun j x H' hx hP=>?_,fun H' hP=>?_⟩
   ·obtain ⟨s5',hd'⟩:=hP
    have jl:=(List.getElem?_eq_some_iff.mp hx).1
    rw [List.length_map] at jl
    rw [List.getElem?_map] at hx
    obtain ⟨z,hz,rfl⟩:=Option.map_eq_some_iff.mp hx
    refine a0P ⟨_,rfl,_,rfl,l,_,_,_,rfl,rfl,SqL.of (s5' _ _ hlA),a3N (k:=0) h0,_,_,rfl,rfl,_,hd',?_,a0p hd s5',?_⟩
    ·rw [List.length_map,List.length_map,List.length_take];exact a0q (by omega)
    ·rw [a0b,List.take_add_one,hz,List.map_append,List.map_append];rfl
   ·obtain ⟨s5',hd'⟩:=hP
    rw [List.length_map,List.take_length] at hd'
    refine ⟨d,_,rfl,.inl ⟨SqL.of hd',fun c2 hc2=>?_⟩⟩
    have sB:=a0c hc2 (.tup ((r.2.2.map (· - hd0)).map V.int))
    have gB:TW (upd H' c2 (.tup ((r.2.2.map (· - hd0)).map V.int))) c2 (r.2.2.map (· - hd0)):=a0b
    generalize upd H' c2 (.tup ((r.2.2.map (· - hd0)).map V.int))=HB at sB gB ⊢
    refine ⟨(by show 2≤sizeLine;decide),fun a2 ha2=>?_⟩
    have sC:=a0c ha2 (.tup [.int r.2.1,.ref c2])
    have gC:upd HB a2 (.tup [.int r.2.1,.ref c2]) a2=some (.tup [.int r.2.1,.ref c2]):=a0b
    generalize upd HB a2 (.tup [.int r.2.1,.ref c2])=HC at sC gC ⊢
    refine ⟨(by show 3≤sizeLine;decide),fun a3 ha3=>?_⟩
    have sD:=a0c ha3 (.tup [.int r.1,.int (hd0 * wl ws r.2.1),.ref a2])
    have gD:upd HC a3 (.tup [.int r.1,.int (hd0 * wl ws r.2.1),.ref a2]) a3=some (.tup [.int r.1,.int (hd0 * wl ws r.2.1),.ref a2]):=a0b
    generalize hHD:upd HC a3 (.tup [.int r.1,.int (hd0 * wl ws r.2.1),.ref a2])=HD at sD gD
    have s7D:=(((s7A.trans s5').trans sB).trans sC).trans sD
    have hlD:=s7D _ _ hl7
    have mv:a3H HD (.ref a3) (fin ws r):=by
     rw [ef]
     exact ⟨a3,_,_,_,rfl,gD,rfl,rfl,a2,_,_,rfl,sD _ _ gC,rfl,a2s (sD _ _ (sC _ _ gB))⟩
    have hHD':upd HC a3 (.tup [.int r.1,.int (hd0 * ((srt ws).take (ws.length - r.2.1.toNat)).sum),.ref a2])=HD:=hHD
    dsimp only
    rw [hHD']
    refine ⟨lt,_,_,rfl,rfl,hlD,a0q (by omega),a0p hlt (s7.trans s7D),⟨_,a0b,?_⟩,_,_,_,_,rfl⟩
    rw [tk]
    exact L2.Paired.appendP (Mvs.tk ((TK.of s7D).trans (TK.upd hlD)) hm7) (.cons (a3H.tk (TK.upd hlD) mv) .nil)
 ·obtain ⟨s7,⟨ys,hl7,hm7⟩,x8,x9,x10,x11,rfl⟩:=hP
  rw [lx,List.take_length] at hm7
  exact ⟨_,rfl,qq lt H7 ys (t5.trans s7) (t5.free hlt) hl7 hm7⟩
end
section
variable {KK:Type} [DecidableEq KK]
theorem a2e {kvs:List (KK × Addr × V)} {k:KK}:(nval kvs k).isSome=true↔k∈kvs.map (·.1):=by
 unfold nval
 rw [Option.isSome_map,List.find?_isSome,List.mem_map]
 exact ⟨fun ⟨x,h,e⟩=>⟨x,h,of_decide_eq_true e⟩,fun ⟨x,h,e⟩=>⟨x,h,decide_eq_true e⟩⟩
end
theorem a7a {xs:List V} {ns:List Int} (h:Paired a6D xs ns):xs=ns.map V.int:=by
 induction h with
 | nil=>rfl
 | cons r _ ih=>rw [List.map_cons,ih];cases r;rfl
theorem a6b.open {H:Hp} {x:V} {p:Int × List Int} (h:a6b H x p):∃ a g,x=.ref a∧H a=some (.tup [.int p.1,.ref g])∧TW H g p.2:=by
 obtain ⟨a,y,z,rfl,e,h1,g,xs,rfl,e2,h2⟩:=h
 cases h1
 rw [a7a h2] at e2
 exact ⟨a,g,rfl,e,e2⟩
theorem a3H.open {H:Hp} {x:V} {m:Mv} (h:a3H H x m):∃ a f,x=.ref a∧H a=some (.tup [.int m.1,.int m.2.1,f])∧a6b H f m.2.2:=by
 obtain ⟨a,y,z,t,rfl,e,h1,h2,h3⟩:=h
 cases h1;cases h2
 exact ⟨a,t,rfl,e,h3⟩
theorem a3B {α β:Type} {R:α→β→Prop}:∀ {vs:List α} {es:List β},Paired R vs es→vs≠[]→∃ vs0 v es0 e,vs=vs0++[v]∧es=es0++[e]∧Paired R vs0 es0∧R v e
 | [],_,_,h=>absurd rfl h
 | [v],[e],.cons r .nil,_=>⟨[],v,[],e,rfl,rfl,.nil,r⟩
 | v :: v2 :: vs,e :: es,.cons r t,_=>by
  obtain ⟨a,b,c,d,h1,h2,h3,h4⟩:=a3B t (by simp)
  exact ⟨v :: a,b,e :: c,d,by rw [h1];rfl,by rw [h2];rfl,.cons r h3,h4⟩
structure Fst (K:PySem.W.Frag) (mg:Str→Option Value) (aF bF:Addr):Prop where
 m:mg "FIRST"=some (.ref aF)
 a:∀ H,SqT K H aF [.int 0,.ref bF]
 b:∀ H,SqT K H bF [.int 0]
def FrA (aF bF:Addr) (H:Hp) (k:Fr) (a:Addr):Prop:=(∃ b,H a=some (.tup [.int k.1,.ref b])∧(H b=some (.tup (k.2.map V.int))∨(k.2=[0]∧b=bF)))∨(k=(0,[0])∧a=aF)
theorem FrA.tk {aF bF:Addr} {H H':Hp} {k:Fr} {a:Addr} (t:TK H H') (h:FrA aF bF H k a):FrA aF bF H' k a:=h.elim (fun ⟨b,h1,h2⟩=>.inl ⟨b,t _ _ h1,h2.elim (fun z=>.inl (t _ _ z)) .inr⟩) .inr
theorem FrA.fat {K:PySem.W.Frag} {mg:Str→Option Value} {aF bF:Addr} (FS:Fst K mg aF bF) {H:Hp} {k:Fr} {a:Addr} (h:FrA aF bF H k a):FAt K H k a:=by
 rcases h with ⟨b,h1,h2 | ⟨e,rfl⟩⟩ | ⟨rfl,rfl⟩
 ·exact ⟨b,SqT.of h1,SqT.of h2⟩
 ·exact ⟨b,SqT.of h1,by rw [e];exact FS.b H⟩
 ·exact ⟨bF,FS.a H,FS.b H⟩
theorem FrA.of {aF bF:Addr} {H:Hp} {x:V} {k:Fr} (h:a6b H x k):∃ a,x=.ref a∧FrA aF bF H k a:=by
 obtain ⟨a,g,e,h1,h2⟩:=a6b.open h
 exact ⟨a,e,.inl ⟨g,h1,.inl h2⟩⟩
theorem FrA.ask {K:PySem.W.Frag} {mg:Str→Option Value} {aF bF:Addr} (FS:Fst K mg aF bF) {H:Hp} {k:Fr} {a p q:Addr} {ps ws:List Int} (W:Wide ps ws) (ok:a7h ws k) (hp:TW H p ps) (hq:TW H q ws) (h:FrA aF bF H k a):∃ g,Ask K H p q a g ps ws k.2 k.1:=by
 obtain ⟨p2,p6,w1,w7,bp,bw⟩:=W
 obtain ⟨⟨s0,k0,sk,e0⟩,bd⟩:=ok
 have w10:ws.length≤7:=by split at w7 <;> omega
 have bg:Bg k.2:=fun x hx=>⟨(bd x hx).1,by have:=(bd x hx).2;unfold B30 at *;omega⟩
 have key:∃ g,SqT K H a [.int k.1,.ref g]∧Gp K H g k.2:=by
  rcases h with ⟨b,h1,h2 | ⟨e,rfl⟩⟩ | ⟨rfl,rfl⟩
  ·exact ⟨b,SqT.of h1,.inl h2⟩
  ·exact ⟨b,SqT.of h1,.inr ⟨by rw [e];exact FS.b H,by rw [e];simp⟩⟩
  ·exact ⟨bF,FS.a H,.inr ⟨FS.b H,by simp⟩⟩
 obtain ⟨g,h1,h2⟩:=key
 exact ⟨g,hp,hq,h1,h2,p2,p6,w7,s0,by omega,fun _=>by omega,by omega,bw,bp,bg⟩
structure LK (lw:Addr) (H H':Hp):Prop where
 t:TK H H'
 l:∀ a xs,a≠lw→H a=some (.lst xs)→H' a=some (.lst xs)
theorem LK.of {lw:Addr} {H H':Hp} (s:a0y H H'):LK lw H H':=⟨TK.of s,fun _ _ _ h=>s _ _ h⟩
theorem LK.updL {lw:Addr} {H:Hp} {ys:List V} {o:HO} (h:H lw=some (.lst ys)):LK lw H (L2.upd H lw o):=⟨TK.upd h,fun x xs n e=>by rw [a0r n];exact e⟩
theorem LK.updD {lw d:Addr} {H:Hp} {u o:HO} (h:H d=some u) (n1:∀ xs,HO.tup xs≠u) (n2:∀ xs,HO.lst xs≠u):LK lw H (L2.upd H d o):=⟨fun a xs e=>by rw [a0r (a2k e h (n1 _))];exact e,fun x xs _ e=>by rw [a0r (a2k e h (n2 _))];exact e⟩
abbrev FE:=Fr × Addr × V
def Ent (aF bF lw:Addr) (ps ws:List Int) (H:Hp) (p:FE):Prop:=FrA aF bF H p.1 p.2.1∧Rch ps ws p.1∧∃ l xs,p.2.2=.ref l∧l≠lw∧H l=some (.lst xs)∧Mvs H xs (nxt ps ws p.1)
theorem Ent.lk {aF bF lw:Addr} {ps ws:List Int} {H H':Hp} {p:FE} (k:LK lw H H') (h:Ent aF bF lw ps ws H p):Ent aF bF lw ps ws H' p:=by
 obtain ⟨h1,h2,l,xs,e,n,hl,hm⟩:=h
 exact ⟨h1.tk k.t,h2,l,xs,e,n,k.l _ _ n hl,Mvs.tk k.t hm⟩
def DN (P:Program) (w:World) (H:Hp) (d:Addr) (kvs:List FE):Prop:=H d=some (NDO (a0l P w) d kvs)∨(H d=some (.dK [])∧kvs=[])
theorem DN.ob {P:Program} {w:World} {H:Hp} {d:Addr} {kvs:List FE} (h:DN P w H d kvs):∃ o,H d=some o∧(∀ xs,HO.tup xs≠o)∧∀ xs,HO.lst xs≠o:=by
 rcases h with e | ⟨e,_⟩
 ·exact ⟨_,e,fun xs z=>(by cases z),fun xs z=>(by cases z)⟩
 ·exact ⟨_,e,fun xs z=>(by cases z),fun xs z=>(by cases z)⟩
theorem DN.keep {P:Program} {w:World} {H H':Hp} {d:Addr} {kvs:List FE} (k:∀ o,H d=some o→H' d=some o) (h:DN P w H d kvs):DN P w H' d kvs:=h.elim (fun e=>.inl (k _ e)) fun e=>.inr ⟨k _ e.1,e.2⟩
theorem a4z {kvs:List FE} {k:Fr} {v:V} (h:nval kvs k=some v):∃ p∈kvs,p.1=k∧p.2.2=v:=by
 unfold nval at h
 obtain ⟨p,hp,e⟩:=Option.map_eq_some_iff.mp h
 exact ⟨p,List.mem_of_find?_eq_some hp,by have:=List.find?_some hp;exact of_decide_eq_true this,e⟩
theorem a3C {kvs:List FE} {k:Fr} (h:k∈kvs.map (·.1)):∃ p∈kvs,p.1=k∧nval kvs k=some p.2.2:=by
 obtain ⟨v,hv⟩:=Option.isSome_iff_exists.mp (a2e.mpr h)
 obtain ⟨p,h1,h2,h3⟩:=a4z hv
 exact ⟨p,h1,h2,by rw [h3];exact hv⟩
theorem a4A {kvs:List FE} {k:Fr} {a:Addr} {v:V} (h:k∉kvs.map (·.1)):nput kvs k a v=kvs++[(k,a,v)]:=by
 unfold nput
 rw [if_neg fun z=>h (a2e.mp z)]
def rNotF (P:Program) (w:World) (K:PySem.W.Frag):R2:=fun x y H Q=>∃ a d k kvs,x=.ref a∧y=.ref d∧DN P w H d kvs∧(∀ p∈kvs,FAt K H p.1 p.2.1)∧FAt K H k a∧∀ H',H'=upd H d (NDO (a0l P w) d kvs)→Q (.bl (!(nval kvs k).isSome)) H'
theorem a8H {X:Cx} {P:Program} {w:World} {K:PySem.W.Frag} (hu:X.A.units+2 < cLine) (hP:X.prog=P:=by rfl) (hw:X.w=w:=by rfl) (hK:X.K=K:=by rfl):OpR X (compareOp .NotIn) (rNotF P w K):=by
 subst hP;subst hw;subst hK
 intro pins s σ H x y v u Q I rx ry h
 obtain ⟨a,d,k,kvs,e1,e2,h1,h2,h3,q⟩:=h
 exact b1k (N:=nkN X) hu pins s σ H x y v u Q I rx ry ⟨a,d,k,kvs,e1,e2,⟨h1,h2⟩,h3,q _ rfl⟩
def sPutF (P:Program) (w:World) (K:PySem.W.Frag) (td ty tv:TE):TS:=fun D σ H=>tv σ H fun v H1=>td σ H1 fun x H2=>ty σ H2 fun y H3=>∃ d a k kvs,x=.ref d∧y=.ref a∧DN P w H3 d kvs∧(∀ p∈kvs,FAt K H3 p.1 p.2.1)∧FAt K H3 k a∧kvs.length < sizeLine∧∀ H',H'=upd H3 d (NDO (a0l P w) d (nput kvs k a v))→D.nx σ H'
theorem a5C {X:Cx} {P:Program} {w:World} {K:PySem.W.Frag} {o i value:Expr} {pos pos':Pos} {td ty tv:TE} (hu:X.A.units+2 < cLine) (ho:PE X o td) (hi:PE X i ty) (hv:PE X value tv) (hs:swapsWith value (some (.Subscript o i pos')) pos.line X.env=pure false) (m1:a2W td) (m2:a2W ty) (m3:a2W tv) (hP:X.prog=P:=by rfl) (hw:X.w=w:=by rfl) (hK:X.K=K:=by rfl) :
  PS X (.Assign [.Subscript o i pos'] value pos) (sPutF P w K td ty tv):=by
 subst hP;subst hw;subst hK
 intro pins s σ H D I h
 refine b1j (N:=nkN X) hu ho hi hv hs pins s σ H D I ?_
 refine m3 _ _ _ _ (fun v H1 h=>m1 _ _ _ _ (fun x H2 h=>m2 _ _ _ _ (fun y H3 h=>?_) h) h) h
 obtain ⟨d,a,k,kvs,e1,e2,h1,h2,h3,h4,q⟩:=h
 exact ⟨d,a,k,kvs,e1,e2,⟨h1,h2⟩,h3,h4,q _ rfl⟩
def tGetF (P:Program) (w:World) (K:PySem.W.Frag) (td ty:TE):TE:=fun σ H Q=>td σ H fun x H1=>ty σ H1 fun y H2=>∃ d a k kvs v,x=.ref d∧y=.ref a∧DN P w H2 d kvs∧(∀ p∈kvs,FAt K H2 p.1 p.2.1)∧FAt K H2 k a∧nval kvs k=some v∧Q v H2
theorem a3D {X:Cx} {P:Program} {w:World} {K:PySem.W.Frag} {o i:Expr} {pos:Pos} {td ty:TE} (hu:X.A.units+2 < cLine) (ho:PE X o td) (hi:PE X i ty) (hs:NoSl i) (m1:a2W td) (m2:a2W ty) (hP:X.prog=P:=by rfl) (hw:X.w=w:=by rfl) (hK:X.K=K:=by rfl):PE X (.Subscript o i pos) (tGetF P w K td ty):=by
 subst hP;subst hw;subst hK
 intro pins s σ H Q I h
 refine b1l (N:=nkN X) hu ho hi hs pins s σ H Q I ?_
 refine m1 _ _ _ _ (fun x H2 h=>m2 _ _ _ _ (fun y H3 h=>?_) h) h
 obtain ⟨d,a,k,kvs,v,e1,e2,h1,h2,h3,h4,q⟩:=h
 exact ⟨d,a,k,kvs,v,e1,e2,⟨h1,h2⟩,h3,h4,q⟩
section
variable {P:Program} {w:World} {K:PySem.W.Frag} {mg:Str→Option Value} {base:Heap} {f:Addr} {fd:FuncData}
theorem hu2 {A:Around} {k:Nat} (hr:a2E k A):A.units+2 < cLine:=by have:=hu4 hr;omega
theorem a3E {n:Nat} (h:n≤2000):n < sizeLine:=Nat.lt_of_le_of_lt h (by decide)
abbrev NRe:List Str:=["prices","weights","reached","waiting","frontier"]
def Wt (aF bF:Addr) (ps ws:List Int) (H:Hp) (x:V) (k:Fr):Prop:=∃ a,x=.ref a∧FrA aF bF H k a∧Rch ps ws k
theorem Wt.tk {aF bF:Addr} {ps ws:List Int} {H H':Hp} {x:V} {k:Fr} (t:TK H H') (h:Wt aF bF ps ws H x k):Wt aF bF ps ws H' x k:=by
 obtain ⟨a,e,h1,h2⟩:=h
 exact ⟨a,e,h1.tk t,h2⟩
theorem pwt {α β:Type} {R S:α→β→Prop}:∀ {xs:List α} {ys:List β},(∀ x y,y∈ys→R x y→S x y)→Paired R xs ys→Paired S xs ys
 | _,_,_,.nil=>.nil
 | _,_,h,.cons r t=>.cons (h _ _ (.head _) r) (pwt (fun x y hy=>h x y (.tail _ hy)) t)
structure Rd (P:Program) (w:World) (aF bF lw:Addr) (ps ws:List Int) (H:Hp) (d:Addr) (kvs:List FE):Prop where
 dd:H d=some (NDO (a0l P w) d kvs)
 en:∀ p∈kvs,Ent aF bF lw ps ws H p
 nd:(kvs.map (·.1)).Nodup
 all:∀ k,k∈kvs.map (·.1)↔Rch ps ws k
 le:kvs.length≤1100
def spRe (P:Program) (w:World) (aF bF:Addr):Sp:=fun vs H Q _=>∃ (p q:Addr) (ps ws:List Int),vs=[.ref p,.ref q]∧TW H p ps∧TW H q ws∧Wide ps ws ∧
 ∀ (d lw:Addr) kvs H',a0y H H'→H d=none→Rd P w aF bF lw ps ws H' d kvs→Q (.ref d) H'
theorem scRe:a0C NRe ["prices","weights"] (a0g a1S):=⟨rfl,rfl,rfl,by decide +kernel,rfl,by decide +kernel,by decide +kernel⟩
theorem ndRe:(("move":Str) :: NRe).Nodup:=by decide +kernel
theorem a7b {aF bF:Addr} (F:Fun K "moves_reached" "moves_reached" a1S f fd) (FS:Fst K mg aF bF) (GM:Fns P w K mg base ["prices","weights","frontier"] "moves" (a4w K) 3) (ml:mg "len"=none):a1X P w K mg base CX0 4 f fd ["prices","weights"] (spRe P w aF bF):=by
 refine F.ok (k:=3) scRe (fun vs H Q E h=>?_) (fun cdv A outer s H vs Q E hr h=>?_)
 ·obtain ⟨p,q,ps,ws,rfl,_⟩:=h
  rfl
 obtain ⟨p,q,ps,ws,rfl,hp,hq,W,qq⟩:=h
 refine ⟨_,a0f (a0u (i:=2) scRe.nd rfl (Or.inl rfl) a4e)
  (a0f (a0u (i:=3) scRe.nd rfl (Or.inl rfl) (a1T (a0a (a7l (v:=.ref aF) (by rfl) FS.m rfl) a0e)))
  (a0f (a8W PassesOwn.never (a0n a2V (a0j a0h (by rfl) ml PySem.boot_len (a0a (pv 3) a0e)) a0d (nomark _))
   (a0f (a0u (i:=4) scRe.nd rfl (Or.inl rfl) (pe_bm0 PySem.F.plainAttrs_list PySem.F.slot_list_pop PySem.F.type_list_pop mt_pop (pv 3)))
   (a0i (a0J (a0n (a8H (P:=P) (w:=w) (K:=K) (hu2 hr)) (pv 4) (pv 2) rfl)
    (a0f (a5C (P:=P) (w:=w) (K:=K) (hu2 hr) (pv 2) (pv 4) (a1V (a0v GM.ok hr (by rfl) GM.m GM.kp GM.b .nil a1b (a0a (pv 0) (a0a (pv 1) (a0a (pv 4) a0e))))) rfl a0S a0S a2a)
    (a0i (a1y (a4b PySem.F.plainAttrs_list PySem.F.slot_list_extend PySem.F.type_list_extend a7z (pv 3) (a0a (a1M (M:=NRe) rfl (a0o.of (a0g a1S) NRe rfl rfl rfl (by decide +kernel) (by decide +kernel) (by decide +kernel) rfl (by decide +kernel)) ndRe rfl (a1V (a3D (P:=P) (w:=w) (K:=K) (hu2 hr) (pv 2) (pv 4) (fun _ _=>rfl) a0S a0S)) a2a (fun cl C s0 H0 fp=>⟨a1c,a0D (ixT K) (pv 0) a0d (fun _ _=>rfl)⟩)) a0e))))) a0s))))
  (a0i (a0t (pv 2))))),?_⟩
 refine fun d hd=>?_
 have s1:=a0c hd (.dK [])
 have g1:upd H d (.dK []) d=some (.dK []):=a0b
 generalize upd H d (.dK [])=H1 at s1 g1 ⊢
 refine ⟨(by show 1≤sizeLine;decide),fun lw hlw=>?_⟩
 have s2:=a0c hlw (.lst [.ref aF])
 have g2:upd H1 lw (.lst [.ref aF]) lw=some (.lst [.ref aF]):=a0b
 have hlw0:H lw=none:=s1.free hlw
 have ndl:d≠lw:=fun z=>by rw [←z,g1] at hlw;cases hlw
 generalize upd H1 lw (.lst [.ref aF])=H2 at s2 g2 ⊢
 refine ⟨fun m σ H'=>a0y H H'∧∃ (kvs:List FE) (ys:List V) (ks:List Fr) (x4:Option V),σ=[some (.ref p),some (.ref q),some (.ref d),some (.ref lw),x4]∧DN P w H' d kvs∧(∀ e∈kvs,Ent aF bF lw ps ws H' e)∧(kvs.map (·.1)).Nodup∧H' lw=some (.lst ys)∧Paired (Wt aF bF ps ws H') ys ks ∧
   ((0,[0])∈kvs.map (·.1)∨(0,[0])∈ks)∧(∀ k∈kvs.map (·.1),∀ m∈nxt ps ws k,m.2.2∈kvs.map (·.1)∨m.2.2∈ks)∧kvs.length+pots ps ws ks≤1100∧m=pots ps ws ks,
  ⟨_,s1.trans s2,[],[.ref aF],[(0,[0])],_,rfl,.inr ⟨s2 _ _ g1,rfl⟩,fun e he=>(by cases he),.nil,g2,.cons ⟨aF,rfl,.inr ⟨rfl,rfl⟩,.one⟩ .nil,.inr (.head _),fun k hk=>(by cases hk),?_,rfl⟩,fun m σ H3 hP=>?_⟩
 ·have:=a8G W
  rw [a3A]
  show 0+(_+0)≤1100
  omega
 obtain ⟨s3,kvs,ys,ks,x4,rfl,hdn,hen,hnd,hlw3,hys,hf0,hcl,hle,rfl⟩:=hP
 have ly:ys.length=ks.length:=hys.length
 refine ⟨_,rfl,lw,_,rfl,.inl (SqL.of hlw3),_,_,rfl,rfl,_,rfl,a1g (fun c=>?_) (fun c=>?_)⟩
 ·have nv:ys≠[]:=fun z=>by rw [z] at c;exact absurd (of_decide_eq_true c) (by decide)
  refine ⟨_,fun σ' H' z=>z,?_⟩
  obtain ⟨vs0,v,ks0,k,rfl,rfl,pe0,a,rfl,ha,hR⟩:=a3B hys nv
  refine ⟨_,rfl,.inl ⟨rfl,_,SqL.of hlw3⟩,lw,vs0++[.ref a],.ref a,rfl,rfl,hlw3,by simp,?_⟩
  rw [List.dropLast_concat]
  have lk4:LK lw H3 (upd H3 lw (.lst vs0)):=LK.updL hlw3
  have g4:upd H3 lw (.lst vs0) lw=some (.lst vs0):=a0b
  have s4:a0y H (upd H3 lw (.lst vs0)):=a0p hlw0 s3
  have dn4:DN P w (upd H3 lw (.lst vs0)) d kvs:=hdn.keep fun o e=>by rw [a0r ndl];exact e
  generalize upd H3 lw (.lst vs0)=H4 at lk4 g4 s4 dn4 ⊢
  have en4:=fun e he=>(hen e he).lk lk4
  have fr4:=ha.tk lk4.t
  have pe4:=Paired.mapP pe0 fun _ _ z=>Wt.tk lk4.t z
  have ep:pots ps ws (ks0++[k])=pots ps ws ks0+pot ps ws k:=by rw [a4y,a3A];rfl
  have kpos:=a5B (ps:=ps) (ws:=ws) (k:=k)
  refine ⟨_,rfl,_,rfl,a,d,k,kvs,rfl,rfl,dn4,fun e he=>(en4 e he).1.fat FS,fr4.fat FS,fun H5 e5=>?_⟩
  obtain ⟨od,hod,no1,no2⟩:=dn4.ob
  have lk5:LK lw H4 (upd H4 d (NDO (a0l P w) d kvs)):=LK.updD hod no1 no2
  have s5:a0y H (upd H4 d (NDO (a0l P w) d kvs)):=a0p hd s4
  have g5:upd H4 d (NDO (a0l P w) d kvs) lw=some (.lst vs0):=by rw [a0r (Ne.symm ndl)];exact g4
  have d5:upd H4 d (NDO (a0l P w) d kvs) d=some (NDO (a0l P w) d kvs):=a0b
  rw [←e5] at lk5 s5 g5 d5
  clear e5
  have en5:=fun e he=>(en4 e he).lk lk5
  have fr5:=fr4.tk lk5.t
  have pe5:=Paired.mapP pe4 fun _ _ z=>Wt.tk lk5.t z
  have okk:=hR.ok W
  refine ⟨_,rfl,a1g (fun c1=>?_) (fun c1=>?_)⟩
  ·have nk:k∉kvs.map (·.1):=fun z=>by rw [a2e.mpr z] at c1;cases c1
   obtain ⟨g,ak⟩:=fr5.ask FS W okk (s5 _ _ hp) (s5 _ _ hq)
   refine ⟨fun v H6=>∃ l xs,v=.ref l∧a0y H5 H6∧H5 l=none∧H6 l=some (.lst xs)∧Mvs H6 xs (nxt ps ws k),⟨_,rfl,_,rfl,_,rfl,p,q,a,g,ps,ws,k.2,k.1,rfl,ak,fun l H6 xs s6 hn6 hl6 hm6=>⟨l,xs,rfl,s6,hn6,hl6,hm6⟩⟩,fun v H6 hv=>?_⟩
   obtain ⟨l,xs,rfl,s6,hn6,hl6,hm6⟩:=hv
   have nl:l≠lw:=fun z=>by rw [z,g5] at hn6;cases hn6
   have d6:=s6 _ _ d5
   have g6:=s6 _ _ g5
   have en6:=fun e he=>(en5 e he).lk (LK.of s6)
   have fr6:=fr5.tk (TK.of s6)
   have pe6:=Paired.mapP pe5 fun _ _ z=>Wt.tk (TK.of s6) z
   have sl:kvs.length < sizeLine:=a3E (by omega)
   refine ⟨_,rfl,_,rfl,d,a,k,kvs,rfl,rfl,.inl d6,fun e he=>(en6 e he).1.fat FS,fr6.fat FS,sl,fun H7 e7=>?_⟩
   rw [a4A nk] at e7
   have lk7:LK lw H6 (upd H6 d (NDO (a0l P w) d (kvs++[(k,a,.ref l)]))):=LK.updD d6 (fun xs z=>by cases z) (fun xs z=>by cases z)
   have s7:a0y H (upd H6 d (NDO (a0l P w) d (kvs++[(k,a,.ref l)]))):=a0p hd (s5.trans s6)
   have g7:upd H6 d (NDO (a0l P w) d (kvs++[(k,a,.ref l)])) lw=some (.lst vs0):=by rw [a0r (Ne.symm ndl)];exact g6
   have d7:upd H6 d (NDO (a0l P w) d (kvs++[(k,a,.ref l)])) d=some (NDO (a0l P w) d (kvs++[(k,a,.ref l)])):=a0b
   have en7:∀ e∈kvs++[(k,a,.ref l)],Ent aF bF lw ps ws (upd H6 d (NDO (a0l P w) d (kvs++[(k,a,.ref l)]))) e:=fun e he=>by
    rcases List.mem_append.mp he with he | he
    ·exact (en6 e he).lk lk7
    ·rw [List.mem_singleton.mp he]
     exact Ent.lk lk7 ⟨fr6,hR,l,xs,rfl,nl,hl6,hm6⟩
   have pe7:=Paired.mapP pe6 fun _ _ z=>Wt.tk lk7.t z
   rw [←e7] at lk7 s7 g7 d7 en7 pe7
   clear e7
   have ke:(kvs++[(k,a,V.ref l)]).map (·.1)=kvs.map (·.1)++[k]:=by rw [List.map_append];rfl
   have nd7:((kvs++[(k,a,V.ref l)]).map (·.1)).Nodup:=by
    rw [ke]
    exact List.nodup_append.mpr ⟨hnd,List.pairwise_singleton _ _,fun x hx y hy e=>nk (by rw [←List.mem_singleton.mp hy,←e];exact hx)⟩
   obtain ⟨e7,he7,ek,nv7⟩:=a3C (kvs:=kvs++[(k,a,V.ref l)]) (k:=k) (by rw [ke];simp)
   obtain ⟨_,_,l7,xs7,ev,_,hl7,hm7⟩:=en7 e7 he7
   rw [ek] at hm7
   rw [ev] at nv7
   refine ⟨_,rfl,.inl ⟨rfl,_,SqL.of g7⟩,fun v H'=>v=.ref l7∧H7=H',⟨_,rfl,_,rfl,d,a,k,_,_,rfl,rfl,.inl d7,fun e he=>(en7 e he).1.fat FS,(fr6.tk lk7.t).fat FS,nv7,rfl,rfl⟩,fun v H' hv=>?_⟩
   obtain ⟨rfl,rfl⟩:=hv
   have lx:xs7.length=(nxt ps ws k).length:=hm7.length
   have lxx:(nxt ps ws k).length≤100:=by
    have:=a2p ps ws k.1 k.2 (ps.length - 1)
    have e:(nxt ps ws k).length=(rws ps ws k.1 k.2 (ps.length - 1)).length:=List.length_map ..
    have:=W.p6
    omega
   refine ⟨l7,xs7,rfl,SqL.of hl7,fun d2 hd2=>?_⟩
   refine ⟨fun i H'=>a0y H7 H'∧∃ zs,H' d2=some (.lst zs)∧Paired (a6b H') zs (((nxt ps ws k).take i).map (·.2.2)),⟨a0c hd2 _,[],a0b,.nil⟩,fun i H' _ hP=>SqL.of (hP.1 _ _ hl7),fun i x H' hx hP=>?_,fun H8 hP=>?_⟩
   ·obtain ⟨s8,zs,hz,pz⟩:=hP
    obtain ⟨m,hm,mx⟩:=Paired.right_of hm7 i x hx
    obtain ⟨t,fx,rfl,ht,hfx⟩:=a3H.open (a3H.tk (TK.of s8) mx)
    have lz:zs.length≤100:=by
     have:=pz.length
     rw [this,List.length_map,List.length_take]
     omega
    refine a0P ⟨_,rfl,t,_,_,_,rfl,rfl,SqT.of ht,rfl,zs,hz,a0q (by omega),a0p hd2 s8,_,a0b,?_⟩
    have tk:((nxt ps ws k).take (i+1)).map (·.2.2)=((nxt ps ws k).take i).map (·.2.2)++[m.2.2]:=by rw [List.take_add_one,hm,List.map_append];rfl
    rw [tk]
    exact L2.Paired.appendP (Paired.mapP pz fun _ _ z=>a6b.tk (TK.upd hz) z) (.cons (a6b.tk (TK.upd hz) hfx) .nil)
   ·obtain ⟨s8,zs,hz,pz⟩:=hP
    rw [lx,List.take_length] at pz
    have lz:zs.length≤100:=by
     have:=pz.length
     rw [this,List.length_map]
     omega
    have g8:=s8 _ _ g7
    have st:=a9L W okk
    have lp:=a6n (ps:=ps) (ws:=ws) (ks:=ks0)
    have lv:vs0.length=ks0.length:=pe0.length
    rw [ep] at hle
    refine ⟨lw,d2,vs0,zs,rfl,rfl,g8,hz,Nat.le_of_lt (a3E (by omega)),?_⟩
    refine ⟨_,?_,a0p hlw0 (s7.trans s8),kvs++[(k,a,.ref l)],vs0++zs,ks0++(nxt ps ws k).map (·.2.2),_,rfl,.inl ?_,?_,nd7,a0b,?_,?_,?_,?_,rfl⟩
    ·rw [a4y,ep]
     omega
    ·rw [a0r ndl]
     exact s8 _ _ d7
    ·exact fun e he=>((en7 e he).lk (LK.of s8)).lk (LK.updL g8)
    ·refine L2.Paired.appendP (Paired.mapP pe7 fun _ _ z=>(z.tk (TK.of s8)).tk (TK.upd g8)) ?_
     refine pwt (fun x m hm hx=>?_) pz
     obtain ⟨m',hm',rfl⟩:=List.mem_map.mp hm
     obtain ⟨b,rfl,hb⟩:=FrA.of (aF:=aF) (bF:=bF) (a6b.tk (TK.upd (o:=.lst (vs0++zs)) g8) hx)
     exact ⟨b,rfl,hb,.step hR hm'⟩
    ·rcases hf0 with z | z
     ·exact .inl (by rw [ke];exact List.mem_append_left _ z)
     ·rcases List.mem_append.mp z with z | z
      ·exact .inr (List.mem_append_left _ z)
      ·exact .inl (by rw [ke,List.mem_singleton.mp z];simp)
    ·intro k' hk' m' hm'
     rw [ke] at hk' ⊢
     rcases List.mem_append.mp hk' with z | z
     ·rcases hcl k' z m' hm' with y | y
      ·exact .inl (List.mem_append_left _ y)
      ·rcases List.mem_append.mp y with y | y
       ·exact .inr (List.mem_append_left _ y)
       ·exact .inl (by rw [List.mem_singleton.mp y];simp)
     ·rw [List.mem_singleton.mp z] at hm'
      exact .inr (List.mem_append_right _ (List.mem_map.mpr ⟨m',hm',rfl⟩))
    ·rw [a4y,List.length_append]
     show kvs.length+1+_≤_
     omega
  ·have ik:k∈kvs.map (·.1):=by
    refine a2e.mp ?_
    cases hz:(nval kvs k).isSome with
    | true=>rfl
    | false=>rw [hz] at c1;exact absurd rfl c1
   refine ⟨_,?_,s5,kvs,vs0,ks0,_,rfl,.inl d5,en5,hnd,g5,pe5,?_,?_,?_,rfl⟩
   ·omega
   ·rcases hf0 with z | z
    ·exact .inl z
    ·rcases List.mem_append.mp z with z | z
     ·exact .inr z
     ·exact .inl (by rw [List.mem_singleton.mp z];exact ik)
   ·intro k' hk' m' hm'
    rcases hcl k' hk' m' hm' with y | y
    ·exact .inl y
    ·rcases List.mem_append.mp y with y | y
     ·exact .inr y
     ·exact .inl (by rw [List.mem_singleton.mp y];exact ik)
   ·omega
 ·have nv:ys=[]:=by
   cases ys with
   | nil=>rfl
   | cons y t=>exact absurd (decide_eq_true (by simp only [List.length_cons];omega)) c
  rw [nv] at ly
  have zk:ks=[]:=List.length_eq_zero_iff.mp ly.symm
  subst zk
  have f0:(0,[0])∈kvs.map (·.1):=hf0.elim id fun z=>by cases z
  have d3:H3 d=some (NDO (a0l P w) d kvs):=hdn.elim id fun ⟨_,z⟩=>by rw [z] at f0;cases f0
  refine ⟨_,rfl,qq d lw kvs H3 s3 hd ⟨d3,hen,hnd,fun k=>⟨fun hk=>?_,fun hk=>a6Z f0 (fun k hk m hm=>(hcl k hk m hm).elim id fun z=>by cases z) hk⟩,by omega⟩⟩
  obtain ⟨e,he,rfl⟩:=List.mem_map.mp hk
  exact (hen e he).2.1
end
theorem a3e {H H':Hp} {T:Addr} {lpos:Pos} {q:Str} (s:a0y H H') (x:a3K H T lpos q):a3K H' T lpos q:=by
 rcases x with e | ⟨c,e,ec⟩
 ·exact .inl (s _ _ e)
 ·exact .inr ⟨c,s _ _ e,s _ _ ec⟩
theorem tab_tb {H:Hp} {T:Addr} {lpos:Pos} {q:Str} (x:a3K H T lpos q):∃ ps,H T=some (.tbl ps):=by
 rcases x with e | ⟨c,e,_⟩
 ·exact ⟨_,e⟩
 ·exact ⟨_,e⟩
theorem a9M {as:List Addr} {H H':Hp} (s:a0y (unt as H) H'):a0y H (rtk as H H'):=fun b o e=>by
 by_cases z:b∈as
 ·rw [b0h z];exact e
 ·rw [a1Q z];exact s b o (by rw [a1s z];exact e)
theorem a9N {as:List Addr} {H H':Hp} {b:Addr} {o:HO} (n:∀ c∈as,H' c=none) (e:H' b=some o):rtk as H H' b=some o:=by
 rw [a1Q (fun z=>by rw [n b z] at e;cases e)]
 exact e
def lamE:Expr:=match a0x a1t with
 | [_,_,.For _ (.Call _ _ [⟨_,e,_⟩,_] _) _ _ _,_]=>e
 | _=>.Constant .none 0 ⟨0,0,0,0⟩
def lamP:Arguments:=match lamE with | .Lambda p _ _ _=>p | _=>a0z a1t
def lamB:Expr:=match lamE with | .Lambda _ b _ _=>b | e=>e
def lamS:Scope:=match lamE with | .Lambda _ _ s _=>s | _=>a0g a1t
def b1y:Pos:=match lamE with | .Lambda _ _ _ p=>p | _=>⟨0,0,0,0⟩
abbrev b0v:Str:=(("frontier_floors":Str)++".<locals>.")++"<lambda>"
abbrev lamK (c':Addr) (pm ctv:Value):Obj:=PySem.W.kla_obj "<lambda>" b0v lamP lamB lamS [] pm c' ctv
example:lamE=.Lambda lamP lamB lamS b1y:=rfl
theorem scLam:a6c lamS ["one"] []:=⟨rfl,rfl,rfl,(by show (["one"]:List Str).Nodup;decide +kernel),by decide +kernel,by decide +kernel,(by show ∀ y∈lamS.names,y.2=.free→y.1∈([]:List Str);decide +kernel),(by show ∀ x∈([]:List Str),lamS.names.lookup x=some .free;decide +kernel)⟩
def lamR (K:PySem.W.Frag):Addr→List V→Hp→VK→Prop:=fun g vs H Q=>∃ (c':Addr) (pm ctv:Value) (a:Addr) (k:Fr),H g=some (exA g (lamK c' pm ctv))∧H c'=some (cdA c' b0v)∧vs=[.ref a]∧FAt K H k a ∧
 ∀ t H',a0y H H'→H' t=some (.tup [.int k.1,.int (k.2.length:Int)])→Q (.ref t) H'
theorem a8I {H:Hp}:unt [] H=H:=funext fun b=>a1s (by simp)
section
variable {P:Program} {w:World} {K:PySem.W.Frag} {mg:Str→Option Value} {base:Heap} {f:Addr} {fd:FuncData}
theorem lam_ok (ml:mg "len"=none):LamOk P w K mg base 1 (lamR K) where
 at':=fun ⟨c',pm,ctv,a,k,e,_⟩=>⟨_,_,_,_,e⟩
 run:=fun A outer s H g us vs Q hr e0 r' h=>by
  obtain ⟨c',pm,ctv,a,k,eg,ec',rfl,hk,q⟩:=h
  have lu:us.length=1:=by rw [←r'.length];rfl
  refine a9r (k:=0) (cvs:=[]) scLam hr e0 eg ec' (by simp) (fun j x c0 hj=>by simp at hj) rfl r' rfl ?_ fun xe hr'=>⟨_,a0K (a0a (a0D (ixT K) (pv 0) a0d (fun _ _=>rfl)) (a0a (a0j a0h (by rfl) ml PySem.boot_len (a0a (a0D (ixT K) (pv 0) a0d (fun _ _=>rfl)) a0e)) a0e)),?_⟩
  ·match us,lu with
   | [u1],_=>rfl
  ·obtain ⟨b,h1,h2⟩:=hk
   have e1:SqT K (unt [] H) a [.int k.1,.ref b]:=by rw [a8I];exact h1
   have e2:SqT K (unt [] H) b (k.2.map V.int):=by rw [a8I];exact h2
   refine ⟨_,rfl,a,_,_,_,rfl,rfl,e1,(rfl:atI [V.int k.1,.ref b] 0=_),_,rfl,a,_,_,_,rfl,rfl,e1,(rfl:atI [V.int k.1,.ref b] 1=_),b,_,rfl,.inr e2,(by show 2≤sizeLine;decide),fun t2 ht2 hn=>?_⟩
   refine q t2 _ (a9M (a0c ht2 _)) (a9N hn ?_)
   rw [a0b,List.length_map]
end
def SameU (H H':Hp):Prop:=∀ a o,(∀ ps,o≠.tbl ps)→H a=some o→H' a=some o
structure Kp (T:Addr) (H H':Hp):Prop where
 sm:SameU H H'
 tb:a3K H' T b1y b0v
theorem Kp.of {T:Addr} {H H':Hp} (t:a3K H T b1y b0v) (s:a0y H H'):Kp T H H':=⟨fun a o _ e=>s a o e,a3e s t⟩
theorem Kp.trans {T:Addr} {H H1 H2:Hp} (a:Kp T H H1) (b:Kp T H1 H2):Kp T H H2:=⟨fun x o n e=>b.sm x o n (a.sm x o n e),b.tb⟩
theorem Kp.then {T:Addr} {H H1 H2:Hp} (a:Kp T H H1) (b:a0y H1 H2):Kp T H H2:=a.trans (.of a.tb b)
theorem Kp.tup {T:Addr} {H H':Hp} {a:Addr} {xs:List V} (k:Kp T H H') (e:H a=some (.tup xs)):H' a=some (.tup xs):=k.sm _ _ (by intro _ z;cases z) e
theorem Kp.lst {T:Addr} {H H':Hp} {a:Addr} {xs:List V} (k:Kp T H H') (e:H a=some (.lst xs)):H' a=some (.lst xs):=k.sm _ _ (by intro _ z;cases z) e
theorem Kp.tk {T:Addr} {H H':Hp} (k:Kp T H H'):TK H H':=fun _ _ e=>k.tup e
theorem Kp.lk {T lw:Addr} {H H':Hp} (k:Kp T H H'):LK lw H H':=⟨k.tk,fun _ _ _ e=>k.lst e⟩
theorem a8J {H H2:Hp} {T:Addr} {lpos:Pos} {q:Str} {c' g:Addr} {o:Obj} (x:a3K H T lpos q) (L:LamH H H2 T lpos q c' g o):SameU H H2:=fun a u n e=>by
 obtain ⟨qs,hT⟩:=tab_tb x
 exact L.ot a u (a2k e hT (n qs)) e
theorem Kp.lam {T:Addr} {H H2:Hp} {c' g:Addr} {o:Obj} (t:a3K H T b1y b0v) (L:LamH H H2 T b1y b0v c' g o):Kp T H H2:=⟨a8J t L,.inr ⟨c',L.tb,L.cd⟩⟩
structure LamC (K:PySem.W.Frag) (mg:Str→Option Value) (base:Heap) (c0 T bm:Addr):Prop where
 hd:PySem.W.codeHdIn K c0 T=true
 hbm:mg "__builtins__"=some (.ref bm)
 bo:∃ o,base.get? bm=some o∧o.cls=.type "module"∧o.dict=some builtinsNs∧o.data=.plain
 b1:bm≠builtinsNs
 b2:bm≠mainGlobals
 b3:bm≠T
 b4:mainGlobals≠T
section
variable {P:Program} {w:World} {K:PySem.W.Frag} {mg:Str→Option Value} {base:Heap} {f:Addr} {fd:FuncData}
abbrev NFl:List Str:=["prices","weights","reached","floors","frontier"]
structure Told (aF bF:Addr) (ps ws:List Int) (H:Hp) (us:List FE):Prop where
 en:∀ p∈us,FrA aF bF H p.1 p.2.1∧p.2.2=.int (flo ps ws p.1)
 up:(us.map (·.1)).Pairwise LxP
 nd:(us.map (·.1)).Nodup
 all:∀ k,k∈us.map (·.1)↔Rch ps ws k
 le:us.length≤1100
def spFl (aF bF T:Addr):Sp:=fun vs H Q _=>∃ (p q:Addr) (ps ws:List Int),vs=[.ref p,.ref q]∧TW H p ps∧TW H q ws∧Wide ps ws∧a3K H T b1y b0v ∧
 ∀ (d:Addr) out us H',Kp T H H'→(∀ o,(∀ zs,o≠.tbl zs)→H d≠some o)→H' d=some (.lst out)→Paired (IPr H') out us→Told aF bF ps ws H' us→Q (.ref d) H'
theorem scFl:a0C NFl ["prices","weights"] (a0g a1t):=⟨rfl,rfl,rfl,by decide +kernel,rfl,by decide +kernel,by decide +kernel⟩
theorem ndFl:(("move":Str) :: NFl).Nodup:=by decide +kernel
def kf (p:FE):List Int:=[p.1.1,(p.1.2.length:Int)]
theorem lex2 {a b c d:Int} (h:a < c∨(a=c∧b < d)):HT.a0F [a,b] [c,d]=true:=by
 simp only [HT.a0F]
 rcases h with h | ⟨h1,h2⟩
 ·simp [h,Int.ne_of_lt h]
 ·simp [h1,h2,Int.ne_of_lt h2]
def flE (ps ws:List Int) (l:List FE):List FE:=l.map fun p=>(p.1,p.2.1,V.int (flo ps ws p.1))
theorem a3f {ps ws:List Int} {l:List FE}:(flE ps ws l).map (·.1)=l.map (·.1):=by
 unfold flE
 rw [List.map_map]
 rfl
theorem a3F {ps ws:List Int} {l:List FE} {e:FE} (h:e∈flE ps ws l):∃ p∈l,e=(p.1,p.2.1,V.int (flo ps ws p.1)):=by
 obtain ⟨p,hp,rfl⟩:=List.mem_map.mp h
 exact ⟨p,hp,rfl⟩
def SX (d:Addr) (H H':Hp):Prop:=∀ b o,b≠d→H b=some o→H' b=some o
theorem SX.upd {d:Addr} {H H':Hp} {o:HO} (h:SX d H H'):SX d H (L2.upd H' d o):=fun b u n e=>by rw [a0r n];exact h b u n e
theorem SX.then {d:Addr} {H H1 H2:Hp} (h:SX d H H1) (s:a0y H1 H2):SX d H H2:=fun b u n e=>s _ _ (h b u n e)
theorem SX.lk {d lw:Addr} {H H':Hp} {u:HO} (h:SX d H H') (hd:H d=some u) (n1:∀ xs,HO.tup xs≠u) (n2:∀ xs,HO.lst xs≠u):LK lw H H':=⟨fun a xs e=>h a _ (a2k e hd (n1 _)) e,fun a xs _ e=>h a _ (a2k e hd (n2 _)) e⟩
theorem before {ps ws:List Int} (W:Wide ps ws) {out:List FE} {i:Nat} {e:FE} (hi:out[i]?=some e) (pw:out.Pairwise (NOrd true kf)) (all:∀ k,k∈out.map (·.1)↔Rch ps ws k) {m:Mv} (hm:m∈nxt ps ws e.1):m.2.2∈(out.take i).map (·.1):=by
 have he:Rch ps ws e.1:=(all _).mp (List.mem_map.mpr ⟨e,List.mem_of_getElem? hi,rfl⟩)
 have up:=(a5c W (he.ok W) hm).2
 obtain ⟨e2,h2,ek⟩:=List.mem_map.mp ((all _).mpr (he.step hm))
 obtain ⟨j,hj,ej⟩:=List.mem_iff_getElem.mp h2
 obtain ⟨hil,ei⟩:=List.getElem?_eq_some_iff.mp hi
 rw [←ek] at up ⊢
 rcases Nat.lt_trichotomy j i with c | c | c
 ·refine List.mem_map.mpr ⟨e2,?_,rfl⟩
  rw [←ej]
  exact List.mem_iff_getElem.mpr ⟨j,by rw [List.length_take];omega,by rw [List.getElem_take]⟩
 ·subst c
  rw [←ej,ei] at up
  omega
 ·have:=List.pairwise_iff_getElem.mp pw i j hil hj c
  rw [ei,ej] at this
  unfold NOrd at this
  rw [if_pos rfl] at this
  have y:HT.a0F (kf e) (kf e2)=true:=lex2 (by rcases up with z | z;(exact .inl z);exact .inr ⟨z.1,by omega⟩)
  rw [y] at this
  cases this
theorem a8K {aF bF T c0 bm:Addr} (F:Fun K "frontier_floors" "frontier_floors" a1t f fd) (hcd:fd.code=.ref c0) (LC:LamC K mg base c0 T bm) (FS:Fst K mg aF bF) (GR:Fns P w K mg base ["prices","weights"] "moves_reached" (spRe P w aF bF) 4) (ml:mg "len"=none) (mS:mg "sorted"=none) (mn:mg "min"=none):a1X P w K mg base CX0 5 f fd ["prices","weights"] (spFl aF bF T):=by
 refine F.okC (k:=4) scFl (fun vs H Q E h=>?_) (fun A outer s H vs Q E hr h=>?_)
 ·obtain ⟨p,q,ps,ws,rfl,_⟩:=h
  rfl
 obtain ⟨p,q,ps,ws,rfl,hp,hq,W,tab,qq⟩:=h
 have LM:LamMk (a5O CX0 P w K mg base NFl "frontier_floors" (a0g a1t) f fd.code A outer s H E).nox c0 T bm:=⟨hcd,LC.hd,LC.hbm,LC.bo,LC.b1,LC.b2,LC.b3,LC.b4⟩
 have hu10:(a5O CX0 P w K mg base NFl "frontier_floors" (a0g a1t) f fd.code A outer s H E).nox.A.units+10 < cLine:=by
  have:=hr.un
  exact Nat.lt_of_le_of_lt (Nat.add_le_add_left (show 10≤16 * 4+200 by decide) _) this
 refine ⟨_,a0f (a0u (i:=2) scFl.nd rfl (Or.inl rfl) (a0v GR.ok hr (by rfl) GR.m GR.kp GR.b .nil a1b (a0a (pv 0) (a0a (pv 1) a0e))))
  (a0f (a0u (i:=3) scFl.nd rfl (Or.inr rfl) a4e)
  (a0f (a2h PassesOwn.never rfl (a2D (a8n (knd:=a0l P w) (Rg:=fun _=>lamR K) (fun σ=>b1I.of (lam_ok ml) (hr.mono (by omega))) rfl (by rfl) mS (pv 2) (a5k (pe_lam LM (clos:=[]) rfl) (a5k a2l a9V)))) (a0E (i:=4) scFl.nd rfl (Or.inl rfl))
   (a0i (a5C (P:=P) (w:=w) (K:=K) (hu2 hr) (pv 3) (pv 4) (a1V (b1r rfl (by rfl) mn (a0a (a1M (M:=NFl) rfl (a0o.of (a0g a1t) NFl rfl rfl rfl (by decide +kernel) (by decide +kernel) (by decide +kernel) rfl (by decide +kernel)) ndFl rfl (a1V (a3D (P:=P) (w:=w) (K:=K) (hu2 hr) (pv 2) (pv 4) (fun _ _=>rfl) a0S a0S)) a2a
     (fun cl C s0 H0 fp=>⟨a1c,a0m a0G (a0D (ixT K) (pv 0) a0d (fun _ _=>rfl)) (a3D (P:=P) (w:=w) (K:=K) (hu2 hr) (pv 4) (a1V (a0D (ixT K) (pv 0) a0d (fun _ _=>rfl))) (fun _ _=>rfl) a0S a2a)⟩)) a0e) (a5k a0d a9V))) rfl a0S a0S a2a)))
  (a0i (a0t (a9y rfl hu10 (by rfl) mS (pv 3)))))),?_⟩
 refine ⟨_,rfl,_,rfl,p,q,ps,ws,rfl,hp,hq,W,fun dR lw kvs H1 s1 hnR rd=>?_⟩
 refine fun dF hdF=>?_
 have s2:=a0c hdF (.dK [])
 have g2:upd H1 dF (.dK []) dF=some (.dK []):=a0b
 have hdF0:H dF=none:=s1.free hdF
 generalize upd H1 dF (.dK [])=H2 at s2 g2 ⊢
 have s02:=s1.trans s2
 refine ⟨_,rfl,a3e s02 tab,fun c' pm ctv g H3 LH=>?_⟩
 have k3:Kp T H2 H3:=Kp.lam (a3e s02 tab) LH
 have k03:Kp T H H3:=(Kp.of tab s02).trans k3
 have en3:∀ e∈kvs,Ent aF bF lw ps ws H3 e:=fun e he=>((rd.en e he).lk (LK.of s2)).lk k3.lk
 have dR3:H3 dR=some (NDO (a0l P w) dR kvs):=k3.sm _ _ (by intro _ z;cases z) (s2 _ _ rd.dd)
 have dF3:H3 dF=some (.dK []):=k3.sm _ _ (by intro _ z;cases z) g2
 refine ⟨dR,g,true,kvs,kf,rfl,rfl,dR3,by have:=rd.le;omega,fun e he H5 Q1 s5 q1=>⟨c',pm,ctv,e.2.1,e.1,s5 _ _ LH.ob,s5 _ _ LH.cd,rfl,((en3 e he).1.tk (TK.of s5)).fat FS,q1⟩,fun e he z=>(by cases z),fun d2 out H4 s4 hn4 hl4 perm pw=>?_⟩
 have en4:∀ e∈kvs,Ent aF bF lw ps ws H4 e:=fun e he=>(en3 e he).lk (LK.of s4)
 have k04:Kp T H H4:=k03.then s4
 have dR4:=s4 _ _ dR3
 have dF4:=s4 _ _ dF3
 have nRF:dR≠dF:=fun z=>by rw [z,dF4] at dR4;cases dR4
 have n2F:d2≠dF:=fun z=>by rw [z,dF4] at hl4;cases hl4
 have mo:∀ e,e∈out↔e∈kvs:=fun e=>perm.mem_iff
 have pk:(out.map (·.1)).Perm (kvs.map (·.1)):=perm.map _
 have ndo:(out.map (·.1)).Nodup:=pk.nodup_iff.mpr rd.nd
 have allo:∀ k,k∈out.map (·.1)↔Rch ps ws k:=fun k=>pk.mem_iff.trans (rd.all k)
 have lo:out.length=kvs.length:=perm.length_eq
 have le:=rd.le
 have t1:∀ xs,HO.tup xs≠HO.dK []:=fun xs z=>by cases z
 have t2:∀ xs,HO.lst xs≠HO.dK []:=fun xs z=>by cases z
 refine ⟨d2,rfl,⟨_,SqL.of hl4⟩,?_⟩
 refine a2X (xs:=out.map fun p=>V.ref p.2.1) (fun i σ H'=>SX dF H4 H'∧DN P w H' dF (flE ps ws (out.take i))∧∃ x4:Option V,σ=[some (.ref p),some (.ref q),some (.ref dR),some (.ref dF),x4])
  ⟨fun b o _ e=>e,.inr ⟨dF4,rfl⟩,_,rfl⟩ (fun i σ H' _ hP=>SqL.of (hP.1 _ _ n2F hl4)) (fun i x σ H5 hx hP=>?_) (fun σ H5 hP=>?_)
 ·obtain ⟨x5,dn5,x4,rfl⟩:=hP
  rw [List.getElem?_map] at hx
  obtain ⟨e,he,rfl⟩:=Option.map_eq_some_iff.mp hx
  have il:=(List.getElem?_eq_some_iff.mp he).1
  have em:e∈kvs:=(mo e).mp (List.mem_of_getElem? he)
  have lk5:LK lw H4 H5:=x5.lk dF4 t1 t2
  have en5:∀ e∈kvs,Ent aF bF lw ps ws H5 e:=fun e he=>(en4 e he).lk lk5
  have dR5:=x5 _ _ nRF dR4
  obtain ⟨fr5,hR,_⟩:=en5 e em
  obtain ⟨e',he',ek,nv⟩:=a3C (List.mem_map.mpr ⟨e,em,rfl⟩:e.1∈kvs.map (·.1))
  obtain ⟨_,_,l,xs,ev,nl,hl,hm⟩:=en5 e' he'
  rw [ek] at hm
  rw [ev] at nv
  have lx:xs.length=(nxt ps ws e.1).length:=hm.length
  have lxx:(nxt ps ws e.1).length≤100:=by
   have:=a2p ps ws e.1.1 e.1.2 (ps.length - 1)
   have e:(nxt ps ws e.1).length=(rws ps ws e.1.1 e.1.2 (ps.length - 1)).length:=List.length_map ..
   have:=W.p6
   omega
  have lF:l≠dF:=by
   obtain ⟨o,ho,_,n2⟩:=dn5.ob
   exact a2k hl ho (n2 _)
  have fat5:∀ e'∈flE ps ws (out.take i),FrA aF bF H5 e'.1 e'.2.1:=fun e' he'=>by
   obtain ⟨p',hp',rfl⟩:=a3F he'
   exact (en5 p' ((mo p').mp (List.mem_of_mem_take hp'))).1
  refine ⟨fun v H'=>v=.int (flo ps ws e.1)∧a0y H5 H',?_,fun v H6 hv=>?_⟩
  ·refine ⟨fun v H'=>v=.ref l∧H5=H',⟨_,rfl,_,rfl,dR,e.2.1,e.1,kvs,_,rfl,rfl,.inl dR5,fun e' he'=>(en5 e' he').1.fat FS,fr5.fat FS,nv,rfl,rfl⟩,fun v H' hv=>?_⟩
   obtain ⟨rfl,rfl⟩:=hv
   refine ⟨l,xs,rfl,SqL.of hl,fun d3 hd3=>?_⟩
   refine ⟨fun j H'=>a0y H5 H'∧H' d3=some (.lst ((((nxt ps ws e.1).take j).map fun m=>m.2.1+flo ps ws m.2.2).map V.int)),⟨a0c hd3 _,a0b⟩,fun j H' _ hP=>SqL.of (hP.1 _ _ hl),fun j x H' hx hP=>?_,fun H' hP=>?_⟩
   ·obtain ⟨s6,hz⟩:=hP
    obtain ⟨m,hmm,mx⟩:=Paired.right_of hm j x hx
    obtain ⟨t,fx,rfl,ht,hfx⟩:=a3H.open (a3H.tk (TK.of s6) mx)
    obtain ⟨b,rfl,hb⟩:=FrA.of (aF:=aF) (bF:=bF) hfx
    have bf:=before W he pw allo (List.mem_of_getElem? hmm)
    obtain ⟨e2,he2,ek2,nv2⟩:=a3C (kvs:=flE ps ws (out.take i)) (k:=m.2.2) (by rw [a3f];exact bf)
    obtain ⟨p2,hp2,rfl⟩:=a3F he2
    have ek2:p2.1=m.2.2:=ek2
    rw [show ((p2.1,p2.2.1,V.int (flo ps ws p2.1)):FE).2.2=V.int (flo ps ws p2.1) from rfl,ek2] at nv2
    refine a0P ⟨_,rfl,t,_,_,_,rfl,rfl,SqT.of ht,(rfl:atI [V.int m.1,.int m.2.1,.ref b] 1=_),_,rfl,fun v H7=>v=.ref b∧H'=H7,⟨_,rfl,t,_,_,_,rfl,rfl,SqT.of ht,(rfl:atI [V.int m.1,.int m.2.1,.ref b] 2=_),rfl,rfl⟩,fun v H7 hv=>?_⟩
    obtain ⟨rfl,rfl⟩:=hv
    refine ⟨dF,b,m.2.2,flE ps ws (out.take i),_,rfl,rfl,dn5.keep fun o z=>s6 _ _ z,fun e' he'=>((fat5 e' he').tk (TK.of s6)).fat FS,hb.fat FS,nv2,_,_,rfl,rfl,_,hz,?_,a0p hd3 s6,?_⟩
    ·rw [List.length_map,List.length_map,List.length_take];exact a0q (by omega)
    ·rw [a0b,List.take_add_one,hmm,List.map_append,List.map_append];rfl
   ·obtain ⟨s6,hz⟩:=hP
    rw [lx,List.take_length] at hz
    refine ⟨d3,_,0,rfl,rfl,hz,?_,s6⟩
    rw [b0t W (hR.ok W)]
    rfl
  ·obtain ⟨rfl,s6⟩:=hv
   have dn6:DN P w H6 dF (flE ps ws (out.take i)):=dn5.keep fun o z=>s6 _ _ z
   have fat6:=fun e' he'=>((fat5 e' he').tk (TK.of s6))
   have len:(flE ps ws (out.take i)).length≤1100:=by unfold flE;rw [List.length_map,List.length_take];omega
   have nk:e.1∉(flE ps ws (out.take i)).map (·.1):=fun z=>by
    rw [a3f] at z
    obtain ⟨e2,he2,ek2⟩:=List.mem_map.mp z
    obtain ⟨j,hj,ej⟩:=List.mem_iff_getElem.mp he2
    rw [List.length_take] at hj
    rw [List.getElem_take] at ej
    have ei:out[i]=e:=(List.getElem?_eq_some_iff.mp he).2
    have:=List.pairwise_iff_getElem.mp ndo j i (by rw [List.length_map];omega) (by rw [List.length_map];omega) (by omega)
    rw [List.getElem_map,List.getElem_map,ej,ei] at this
    exact this ek2
   refine ⟨_,rfl,_,rfl,dF,e.2.1,e.1,flE ps ws (out.take i),rfl,rfl,dn6,fun e' he'=>(fat6 e' he').fat FS,(fr5.tk (TK.of s6)).fat FS,a3E (by omega),fun H7 e7=>?_⟩
   rw [a4A nk] at e7
   subst e7
   refine ⟨(x5.then s6).upd,.inl ?_,_,rfl⟩
   rw [a0b,List.take_add_one,he]
   unfold flE
   rw [List.map_append]
   rfl
 ·obtain ⟨x5,dn5,x4,rfl⟩:=hP
  rw [List.length_map,List.take_length] at dn5
  have f0:(0,[0])∈out.map (·.1):=(allo _).mpr .one
  have dF5:H5 dF=some (NDO (a0l P w) dF (flE ps ws out)):=dn5.elim id fun ⟨_,z⟩=>by
   rw [←a3f (ps:=ps) (ws:=ws),z] at f0
   cases f0
  have lk5:LK lw H4 H5:=x5.lk dF4 t1 t2
  have fat5:∀ e'∈flE ps ws out,FrA aF bF H5 e'.1 e'.2.1:=fun e' he'=>by
   obtain ⟨p',hp',rfl⟩:=a3F he'
   exact ((en4 p' ((mo p').mp hp')).lk lk5).1
  have ll:(flE ps ws out).length≤1100:=by unfold flE;rw [List.length_map];omega
  have k05:Kp T H H5:=by
   refine ⟨fun a o n z=>x5 _ _ (fun y=>by rw [y,hdF0] at z;cases z) (k04.sm _ _ n z),?_⟩
   rcases k04.tb with z | ⟨c2,z1,z2⟩
   ·exact .inl (x5 _ _ (a2k z dF4 (by intro y;cases y)) z)
   ·exact .inr ⟨c2,x5 _ _ (a2k z1 dF4 (by intro y;cases y)) z1,x5 _ _ (a2k z2 dF4 (by intro y;cases y)) z2⟩
  refine ⟨_,rfl,dF,flE ps ws out,rfl,dF5,by omega,fun e' he'=>⟨(fat5 e' he').fat FS,?_⟩,fun d3 out' us H6 s6 hn6 hl6 perm6 up6 pr6=>?_⟩
  ·obtain ⟨p',hp',rfl⟩:=a3F he'
   exact ⟨_,rfl⟩
  ·have pk6:(us.map (·.1)).Perm (out.map (·.1)):=by
    have:=perm6.map (fun x:FE=>x.1)
    rw [a3f] at this
    exact this
   have n6:∀ o,(∀ zs,o≠.tbl zs)→H d3≠some o:=fun o n z=>by
    have:=k05.sm _ _ n z
    rw [hn6] at this
    cases this
   refine qq d3 out' us H6 (k05.then s6) n6 hl6 pr6 ⟨fun e' he'=>?_,up6,pk6.nodup_iff.mpr ndo,fun k=>pk6.mem_iff.trans (allo k),by rw [perm6.length_eq];exact ll⟩
   have he2:=perm6.mem_iff.mp he'
   refine ⟨(fat5 e' he2).tk (TK.of s6),?_⟩
   obtain ⟨p',hp',rfl⟩:=a3F he2
   rfl
end
def a6o (gs:List Int):Bool:=(List.range (gs.length - 1)).all fun i=>decide (gs.getD i 0≤gs.getD (i+1) 0)
def isF (n:Int) (k:Fr):Bool:=decide (0≤k.1) && decide (k.1+(k.2.length:Int)≤n) && (if k.2=[] then decide (k.1=n) else decide (k.2.getD 0 0=0) && a6o k.2)
theorem a7c {gs:List Int} {i:Nat} (h:i < gs.length):atI (gs.map V.int) (i:Int)=some (.int (gs.getD i 0)):=a3N (by rw [List.getD_eq_getElem?_getD,List.getElem?_eq_getElem h];rfl)
section
variable {P:Program} {w:World} {K:PySem.W.Frag} {mg:Str→Option Value} {base:Heap} {f:Addr} {fd:FuncData}
abbrev NIf:List Str:=["frontier","things","settled","gaps"]
abbrev PIf:List Str:=["frontier","things"]
def spIf (K:PySem.W.Frag):Sp:=fun vs H Q _=>∃ (a:Addr) (k:Fr) (n:Int),vs=[.ref a,.int n]∧FAt K H k a∧k.2.length≤900∧∀ H',a0y H H'→Q (.bl (isF n k)) H'
theorem scIf:a0C NIf PIf (a0g sIF):=⟨rfl,rfl,rfl,by decide +kernel,rfl,by decide +kernel,by decide +kernel⟩
theorem ndIf:(("at":Str) :: NIf).Nodup:=by decide +kernel
theorem ok_if (F:Fun K "is_frontier" "is_frontier" sIF f fd) (ml:mg "len"=none) (ma:mg "all"=none) (mr:mg "range"=none):a1X P w K mg base CX0 1 f fd PIf (spIf K):=by
 refine F.ok (k:=0) scIf (fun vs H Q E h=>?_) (fun cdv A outer s H vs Q E hr h=>?_)
 ·obtain ⟨a,k,n,rfl,_⟩:=h
  rfl
 obtain ⟨a,k,n,rfl,⟨b,ha,hb⟩,l9,q⟩:=h
 refine ⟨_,a0f (a0u (i:=2) scIf.nd rfl (Or.inl rfl) (a0D a1l (pv 0) a0d (fun _ _=>rfl)))
  (a0f (a0u (i:=3) scIf.nd rfl (Or.inr rfl) (a0D a1l (pv 0) a0d (fun _ _=>rfl)))
  (a0f (a0J (PW.pt (a5g (a3L (a8Z a5i a5i a0d (pv 2) (pv 1))) (a3h (a0n a2V (a0m a0G (pv 2) (a0j a0h (by rfl) ml PySem.boot_len (a0a (pv 3) a0e))) (pv 1) (nomark _))))) (a0i (a0t a2l)) a0s)
  (a0f (a0J (a0n a0V (a0j a0h (by rfl) ml PySem.boot_len (a0a (pv 3) a0e)) a0d (nomark _)) (a0i (a0t (a1p a0V (pv 2) (pv 1) (nomark _)))) a0s)
  (a0i (a0t (a4E (a1p a0V (a0D a1l (pv 3) a0d (fun _ _=>rfl)) a0d (nomark _)) (a5J (a0j (a2t rfl) (by rfl) ma a7I (a0a (a1Z (M:=NIf) rfl (a0o.of (a0g sIF) NIf rfl rfl rfl (by decide +kernel) (by decide +kernel) (by decide +kernel) rfl (by decide +kernel)) ndIf rfl (by rfl) mr (a0a (a1V (a0m a0W (a0j a0h (by rfl) ml PySem.boot_len (a0a (pv 3) a0e)) a0d)) a0e) (a2J a2a a3M)
   (fun cl C s0 H0 fp=>⟨a1c,a1p a5i (a0D (ixT K) (pv 4) (pv 0) (fun _ _=>rfl)) (a0D (ixT K) (pv 4) (a0m a0G (pv 0) a0d) (fun _ _=>rfl)) (nomark _)⟩)) a0e))))))))),?_⟩
 have a0:atI [V.int k.1,.ref b] 0=some (.int k.1):=rfl
 have a1:atI [V.int k.1,.ref b] 1=some (.ref b):=rfl
 refine ⟨_,rfl,a,_,_,_,rfl,rfl,ha,a0,?_⟩
 refine ⟨_,rfl,a,_,_,_,rfl,rfl,ha,a1,?_⟩
 refine ⟨_,rfl,_,_,rfl,rfl,_,rfl,a1g (fun c1=>?_) (fun c1=>?_)⟩
 ·refine ⟨_,rfl,_,_,rfl,rfl,_,rfl,a1g (fun c2=>?_) (fun c2=>?_)⟩
  ·have e:isF n k=false:=by
    unfold isF
    have:¬ k.1≤n:=fun z=>by rw [decide_eq_true z] at c2;cases c2
    rw [show decide (k.1+(k.2.length:Int)≤n)=false from decide_eq_false (by omega)]
    simp
   rw [e] at q
   exact b1G (q H fun _ _ z=>z)
  ·refine ⟨_,rfl,_,rfl,b,_,rfl,.inr hb,_,_,rfl,rfl,_,rfl,_,_,rfl,rfl,_,rfl,?_⟩
   rw [List.length_map]
   refine a1g (fun c3=>?_) (fun c3=>?_)
   ·have e:isF n k=false:=by
     unfold isF
     have:=of_decide_eq_true c3
     rw [show decide (k.1+(k.2.length:Int)≤n)=false from decide_eq_false (by omega)]
     simp
    rw [e] at q
    exact q H fun _ _ z=>z
   have d1:0≤k.1:=of_decide_eq_true c1
   have d3:k.1+(k.2.length:Int)≤n:=by
    by_cases z:n < k.1+(k.2.length:Int)
    ·exact absurd (decide_eq_true z) c3
    ·omega
   have e0:isF n k=(if k.2=[] then decide (k.1=n) else decide (k.2.getD 0 0=0) && a6o k.2):=by
    unfold isF
    rw [decide_eq_true d1,decide_eq_true d3]
    rfl
   rw [e0] at q
   refine ⟨_,rfl,b,_,rfl,.inr hb,rfl,_,rfl,?_⟩
   rw [List.length_map]
   refine a1g (fun c4=>?_) (fun c4=>?_)
   ·have z:k.2=[]:=by
     have:=V.int.inj (of_decide_eq_true c4)
     exact List.length_eq_zero_iff.mp (by omega)
    rw [if_pos z] at q
    refine ⟨_,rfl,_,rfl,rfl,?_⟩
    have e5:decide (V.int k.1=V.int n)=decide (k.1=n):=decide_eq_decide.mpr ⟨V.int.inj,congrArg _⟩
    dsimp only
    rw [e5]
    exact q H fun _ _ z=>z
   ·have z:k.2≠[]:=fun z=>c4 (decide_eq_true (by rw [z];rfl))
    rw [if_neg z] at q
    have l0:0 < k.2.length:=List.length_pos_iff.mpr z
    refine ⟨_,rfl,b,_,_,_,rfl,rfl,hb,a7c (i:=0) l0,rfl,_,rfl,a1g (fun c5=>?_) (fun c5=>?_)⟩
    ·have c6:k.2.getD 0 0=0:=V.int.inj (of_decide_eq_true c5)
     rw [decide_eq_true c6] at q
     refine ⟨fun v H'=>v=.int ((k.2.length:Int) - 1)∧H=H',⟨_,rfl,b,_,rfl,.inr hb,_,_,rfl,rfl,(by rw [List.length_map]),rfl⟩,fun v H' hv=>?_⟩
     obtain ⟨rfl,rfl⟩:=hv
     refine ⟨_,rfl,by omega,by omega,fun d hd=>?_⟩
     have ej:((k.2.length:Int) - 1).toNat=k.2.length - 1:=by omega
     rw [ej]
     refine ⟨fun i H'=>a0y H H'∧H' d=some (.lst (((List.range i).map fun i=>decide (k.2.getD i 0≤k.2.getD (i+1) 0)).map V.bl)),⟨a0c hd _,a0b⟩,fun i H' hi hP=>?_,fun H' hP=>?_⟩
     ·obtain ⟨s5,hd'⟩:=hP
      have ei:(0:Int)+(i:Int)=((i:Nat):Int):=by omega
      rw [ei]
      refine a0P ⟨_,rfl,_,rfl,b,_,_,_,rfl,rfl,s5.seqT hb,a7c (i:=i) (by omega),_,rfl,_,rfl,_,_,rfl,rfl,b,_,_,_,rfl,rfl,s5.seqT hb,(a7c (i:=i+1) (by omega)),_,_,rfl,rfl,_,hd',?_,a0p hd s5,?_⟩
      ·rw [List.length_map,List.length_map,List.length_range]
       exact a0q (by omega)
      ·rw [a0b,List.range_succ,List.map_append,List.map_append];rfl
     ·obtain ⟨s5,hd'⟩:=hP
      refine ⟨d,_,rfl,hd',?_⟩
      have e7:((List.range (k.2.length - 1)).map fun i=>decide (k.2.getD i 0≤k.2.getD (i+1) 0)).all id=a6o k.2:=by
       unfold a6o
       rw [List.all_map]
       rfl
      rw [e7]
      exact q H' s5
    ·have c6:¬ k.2.getD 0 0=0:=fun y=>c5 (decide_eq_true (congrArg _ y))
     rw [decide_eq_false c6] at q
     exact q H fun _ _ z=>z
 ·have e:isF n k=false:=by
   unfold isF
   have:¬ 0≤k.1:=fun z=>c1 (decide_eq_true z)
   rw [decide_eq_false this]
   rfl
  rw [e] at q
  exact ⟨_,rfl,b1G (q H fun _ _ z=>z)⟩
abbrev NLi:List Str:=["things","frontier","settled","gaps","k"]
abbrev PLi:List Str:=["things","frontier"]
def spLi (K:PySem.W.Frag):Sp:=fun vs H Q _=>∃ (a:Addr) (k:Fr) (n:Int),vs=[.int n,.ref a]∧FAt K H k a∧k.2.length≤900∧Q (.bl (isF n k)) H
theorem scLi:a0C NLi PLi (a0g b1J):=⟨rfl,rfl,rfl,by decide +kernel,rfl,by decide +kernel,by decide +kernel⟩
theorem a8L {gs:List Int} {i:Nat} (hi:i+1 < gs.length) (h:gs.getD (i+1) 0 < gs.getD i 0):a6o gs=false:=by
 unfold a6o
 rw [List.all_eq_false]
 exact ⟨i,List.mem_range.mpr (by omega),by rw [decide_eq_true_eq];omega⟩
theorem a9O {gs:List Int} (h:∀ i,i+1 < gs.length→¬ gs.getD (i+1) 0 < gs.getD i 0):a6o gs=true:=by
 unfold a6o
 rw [List.all_eq_true]
 intro i hi
 have:=List.mem_range.mp hi
 exact decide_eq_true (by have:=h i (by omega);omega)
theorem ok_li (F:Fun K "_law_is_frontier" "_law_is_frontier" b1J f fd) (ml:mg "len"=none) (mr:mg "range"=none):a1X P w K mg base CX0 1 f fd PLi (spLi K):=by
 refine F.ok (k:=0) scLi (fun vs H Q E h=>?_) (fun cdv A outer s H vs Q E hr h=>?_)
 ·obtain ⟨a,k,n,rfl,_⟩:=h
  rfl
 obtain ⟨a,k,n,rfl,⟨b,ha,hb⟩,l9,q⟩:=h
 refine ⟨_,a0f (a3j (pv 1) (a3i rfl (a0L (a0E (i:=2) scLi.nd rfl (Or.inl rfl)) (a0L (a0E (i:=3) scLi.nd rfl (Or.inl rfl)) a2m))))
  (a0f (a0J (PW.pt (a5g (a0n a8Y (pv 2) a0d (nomark _)) (a3h (a0n a2V (a0m a0G (pv 2) (a0j a0h (by rfl) ml PySem.boot_len (a0a (pv 3) a0e))) (pv 0) (nomark _))))) (a0i (a0t a2l)) a0s)
  (a0f (a0J (a0n a0V (a0j a0h (by rfl) ml PySem.boot_len (a0a (pv 3) a0e)) a0d (nomark _)) (a0i (a0t (a1p a0V (pv 2) (pv 0) (nomark _)))) a0s)
  (a0f (a2h PassesOwn.never rfl (a3l (by rfl) mr (a0a a0d (a0a (a0j a0h (by rfl) ml PySem.boot_len (a0a (pv 3) a0e)) a0e))) (a0E (i:=4) scLi.nd rfl (Or.inl rfl))
   (a0i (a0J (a0n a8Y (a0D a1l (pv 3) (pv 4) (fun _ _=>rfl)) (a0D a1l (pv 3) (a0m a0W (pv 4) a0d) (fun _ _=>rfl)) (nomark _)) (a0i (a0t a2l)) a0s)))
  (a0i (a0t (a1p a0V (a0D a1l (pv 3) a0d (fun _ _=>rfl)) a0d (nomark _))))))),?_⟩
 refine ⟨_,rfl,a,_,rfl,ha,rfl,_,_,rfl,_,_,rfl,rfl,?_⟩
 refine ⟨_,rfl,_,_,rfl,rfl,_,rfl,a1g (fun c1=>?_) (fun c1=>?_)⟩
 ·have e:isF n k=false:=by
   unfold isF
   have:=of_decide_eq_true c1
   rw [show decide (0≤k.1)=false from decide_eq_false (by omega)]
   rfl
  rw [e] at q
  exact q
 have d1:0≤k.1:=by
  by_cases z:k.1 < 0
  ·exact absurd (decide_eq_true z) c1
  ·omega
 refine ⟨_,rfl,_,rfl,b,_,rfl,.inr hb,_,_,rfl,rfl,_,rfl,_,_,rfl,rfl,_,rfl,?_⟩
 rw [List.length_map]
 refine a1g (fun c3=>?_) (fun c3=>?_)
 ·have e:isF n k=false:=by
   unfold isF
   have:=of_decide_eq_true c3
   rw [show decide (k.1+(k.2.length:Int)≤n)=false from decide_eq_false (by omega)]
   simp
  rw [e] at q
  exact q
 have d3:k.1+(k.2.length:Int)≤n:=by
  by_cases z:n < k.1+(k.2.length:Int)
  ·exact absurd (decide_eq_true z) c3
  ·omega
 have e0:isF n k=(if k.2=[] then decide (k.1=n) else decide (k.2.getD 0 0=0) && a6o k.2):=by
  unfold isF
  rw [decide_eq_true d1,decide_eq_true d3]
  rfl
 rw [e0] at q
 refine ⟨_,rfl,b,_,rfl,.inr hb,rfl,_,rfl,?_⟩
 rw [List.length_map]
 refine a1g (fun c4=>?_) (fun c4=>?_)
 ·have z:k.2=[]:=by
   have:=V.int.inj (of_decide_eq_true c4)
   exact List.length_eq_zero_iff.mp (by omega)
  rw [if_pos z] at q
  refine ⟨_,rfl,_,rfl,rfl,?_⟩
  have e5:decide (V.int k.1=V.int n)=decide (k.1=n):=decide_eq_decide.mpr ⟨V.int.inj,congrArg _⟩
  dsimp only
  rw [e5]
  exact q
 have z:k.2≠[]:=fun z=>c4 (decide_eq_true (by rw [z];rfl))
 rw [if_neg z] at q
 have l0:0 < k.2.length:=List.length_pos_iff.mpr z
 refine ⟨_,rfl,b,_,rfl,.inr hb,_,_,rfl,⟨by decide,by decide,by rw [List.length_map];omega,by rw [List.length_map];omega⟩,?_⟩
 refine a1W (fun i σ H'=>H'=H∧(∀ j,j < i→¬ k.2.getD (j+1) 0 < k.2.getD j 0)∧∃ x4:Option V,σ=[some (.int n),some (.ref a),some (.int k.1),some (.ref b),x4])
  ⟨rfl,fun j hj=>absurd hj (by omega),_,rfl⟩ (fun i σ H5 hi hP=>?_) (fun σ H5 hP=>?_)
 ·obtain ⟨rfl,hj,x4,rfl⟩:=hP
  have il:i+1 < k.2.length:=by
   have:(k.2.map V.int).length=k.2.length:=List.length_map ..
   omega
  have e2:(1:Int)+(i:Int)=((i+1:Nat):Int):=by push_cast;omega
  rw [e2]
  have e3:((i+1:Nat):Int) - 1=(i:Int):=by push_cast;omega
  refine ⟨_,rfl,_,rfl,b,_,_,_,rfl,rfl,hb,a7c il,_,rfl,_,rfl,_,_,rfl,rfl,b,_,_,_,rfl,rfl,hb,(by rw [e3];exact a7c (by omega)),_,_,rfl,rfl,_,rfl,a1g (fun c=>?_) (fun c=>?_)⟩
  ·have:=of_decide_eq_true c
   rw [a8L il this,Bool.and_false] at q
   exact q
  ·refine ⟨rfl,fun j hj'=>?_,_,rfl⟩
   by_cases y:j=i
   ·rw [y]
    exact fun z=>c (decide_eq_true z)
   ·exact hj j (by omega)
 ·obtain ⟨rfl,hj,x4,rfl⟩:=hP
  have en:((((k.2.map V.int).length:Nat):Int) - 1).toNat=k.2.length - 1:=by rw [List.length_map];omega
  rw [en] at hj
  rw [a9O (fun i hi=>hj i (by omega)),Bool.and_true] at q
  refine ⟨_,rfl,b,_,_,_,rfl,rfl,hb,a7c (i:=0) l0,rfl,?_⟩
  have e5:decide (V.int (k.2.getD 0 0)=V.int 0)=decide (k.2.getD 0 0=0):=decide_eq_decide.mpr ⟨V.int.inj,congrArg _⟩
  dsimp only
  rw [e5]
  exact q
end
def rInF (P:Program) (w:World) (K:PySem.W.Frag):R2:=fun x y H Q=>∃ a d k kvs,x=.ref a∧y=.ref d∧H d=some (NDO (a0l P w) d kvs)∧(∀ p∈kvs,FAt K H p.1 p.2.1)∧FAt K H k a∧Q (.bl (nval kvs k).isSome) H
theorem b0w {X:Cx} {P:Program} {w:World} {K:PySem.W.Frag} (hu:X.A.units+2 < cLine) (hP:X.prog=P:=by rfl) (hw:X.w=w:=by rfl) (hK:X.K=K:=by rfl):OpR X (compareOp .In) (rInF P w K):=by
 subst hP;subst hw;subst hK
 intro pins s σ H x y v u Q I rx ry h
 obtain ⟨a,d,k,kvs,rfl,rfl,e,h2,h3,q⟩:=h
 have ev:v=Value.ref a:=rx
 have eu:u=Value.ref d:=ry
 subst ev
 subst eu
 exact nd_in ((nkN X).rm hu) I e (fun p hp=>FAt.is I (h2 p hp)) (FAt.is I h3) fun s' I'=>⟨.bl _,_,I',rfl,q⟩
def okM (us:List FE) (v:Int) (m:Mv):Bool:=match nval us m.2.2 with
 | some (.int x)=>decide (v≤m.2.1+x)
 | _=>false
def a2q (ps ws:List Int) (us:List FE) (k:Fr) (v:Int):Bool:=if k.1=(ws.length:Int) then decide (v≤0) else (nxt ps ws k).all (okM us v)
structure Any (aF bF:Addr) (H:Hp) (us:List FE):Prop where
 en:∀ p∈us,FrA aF bF H p.1 p.2.1∧(∃ n,p.2.2=.int n)∧p.1.2.length≤100∧∀ x∈p.1.2,x≤1000 * B30
theorem Any.tk {aF bF:Addr} {H H':Hp} {us:List FE} (t:TK H H') (h:Any aF bF H us):Any aF bF H' us:=⟨fun p hp=>⟨(h.en p hp).1.tk t,(h.en p hp).2⟩⟩
theorem asc_at {gs:List Int} (h:a6o gs=true) {i:Nat} (hi:i+1 < gs.length):gs.getD i 0≤gs.getD (i+1) 0:=by
 unfold a6o at h
 exact of_decide_eq_true (List.all_eq_true.mp h i (List.mem_range.mpr (by omega)))
theorem b0x {gs:List Int} (h:a6o gs=true) (h0:0≤gs.getD 0 0):∀ {i:Nat},i < gs.length→0≤gs.getD i 0
 | 0,_=>h0
 | i+1,hi=>Int.le_trans (b0x h h0 (by omega)) (asc_at h hi)
structure IsFr (n:Int) (k:Fr):Prop where
 s0:0≤k.1
 sk:k.1+(k.2.length:Int)≤n
 e0:k.2=[]→k.1=n
 p0:∀ x∈k.2,0≤x
theorem b0y {n:Int} {k:Fr} (h:isF n k=true):IsFr n k:=by
 unfold isF at h
 rw [Bool.and_eq_true,Bool.and_eq_true] at h
 obtain ⟨⟨h1,h2⟩,h3⟩:=h
 refine ⟨of_decide_eq_true h1,of_decide_eq_true h2,fun z=>?_,fun x hx=>?_⟩
 ·rw [if_pos z] at h3
  exact of_decide_eq_true h3
 ·have ne:k.2≠[]:=fun z=>by rw [z] at hx;cases hx
  rw [if_neg ne,Bool.and_eq_true] at h3
  obtain ⟨i,hi,e⟩:=List.mem_iff_getElem.mp hx
  have:=b0x h3.2 (by rw [of_decide_eq_true h3.1];exact Int.le_refl 0) hi
  rw [List.getD_eq_getElem?_getD,List.getElem?_eq_getElem hi] at this
  rw [←e]
  exact this
theorem FrA.askG {K:PySem.W.Frag} {mg:Str→Option Value} {aF bF:Addr} (FS:Fst K mg aF bF) {H:Hp} {k:Fr} {a p q:Addr} {ps ws:List Int} (W:Wide ps ws) (ok:IsFr ws.length k) (bd:∀ x∈k.2,x≤1000 * B30) (hp:TW H p ps) (hq:TW H q ws) (h:FrA aF bF H k a):∃ g,Ask K H p q a g ps ws k.2 k.1:=by
 obtain ⟨p2,p6,w1,w7,bp,bw⟩:=W
 obtain ⟨s0,sk,e0,p0⟩:=ok
 have w10:ws.length≤7:=by split at w7 <;> omega
 have key:∃ g,SqT K H a [.int k.1,.ref g]∧Gp K H g k.2:=by
  rcases h with ⟨b,h1,h2 | ⟨e,rfl⟩⟩ | ⟨rfl,rfl⟩
  ·exact ⟨b,SqT.of h1,.inl h2⟩
  ·exact ⟨b,SqT.of h1,.inr ⟨by rw [e];exact FS.b H,by rw [e];simp⟩⟩
  ·exact ⟨bF,FS.a H,.inr ⟨FS.b H,by simp⟩⟩
 obtain ⟨g,h1,h2⟩:=key
 exact ⟨g,hp,hq,h1,h2,p2,p6,w7,s0,by omega,fun _=>by omega,by omega,bw,bp,fun x hx=>⟨p0 x hx,bd x hx⟩⟩
section
variable {P:Program} {w:World} {K:PySem.W.Frag} {mg:Str→Option Value} {base:Heap} {f:Addr} {fd:FuncData}
abbrev NHo:List Str:=["prices","weights","floors","frontier","floor"]
abbrev PHo:List Str:=["prices","weights","floors","frontier"]
def spHo (P:Program) (w:World) (aF bF:Addr):Sp:=fun vs H Q _=>∃ (p q d a:Addr) (ps ws:List Int) (us:List FE) (k:Fr) (v:Int),vs=[.ref p,.ref q,.ref d,.ref a]∧TW H p ps∧TW H q ws∧Wide ps ws∧H d=some (NDO (a0l P w) d us)∧Any aF bF H us∧FrA aF bF H k a∧nval us k=some (.int v)∧isF ws.length k=true∧(∀ x∈k.2,x≤1000 * B30) ∧
 ∀ H',a0y H H'→Q (.bl (a2q ps ws us k v)) H'
theorem scHo:a0C NHo PHo (a0g sHo):=⟨rfl,rfl,rfl,by decide +kernel,rfl,by decide +kernel,by decide +kernel⟩
theorem ndHo:(("move":Str) :: NHo).Nodup:=by decide +kernel
theorem ok_ho {aF bF:Addr} (F:Fun K "holds" "holds" sHo f fd) (FS:Fst K mg aF bF) (GM:Fns P w K mg base ["prices","weights","frontier"] "moves" (a4w K) 3) (ml:mg "len"=none) (ma:mg "all"=none):a1X P w K mg base CX0 4 f fd PHo (spHo P w aF bF):=by
 refine F.ok (k:=3) scHo (fun vs H Q E h=>?_) (fun cdv A outer s H vs Q E hr h=>?_)
 ·obtain ⟨p,q,d,a,ps,ws,us,k,v,rfl,_⟩:=h
  rfl
 obtain ⟨p,q,d,a,ps,ws,us,k,v,rfl,hp,hq,W,hd,an,fr,nv,isf,bd,qq⟩:=h
 refine ⟨_,a0f (a0u (i:=4) scHo.nd rfl (Or.inr rfl) (a3D (P:=P) (w:=w) (K:=K) (hu2 hr) (pv 2) (pv 3) (fun _ _=>rfl) a0S a0S))
  (a0f (a0J (a0n a0V (a0D a1l (pv 3) a0d (fun _ _=>rfl)) (a0j a0h (by rfl) ml PySem.boot_len (a0a (pv 1) a0e)) (nomark _)) (a0i (a0t (a1p a5i (pv 4) a0d (nomark _)))) a0s)
  (a0i (a0t (a0j (a2t rfl) (by rfl) ma a7I (a0a (a1M (M:=NHo) rfl (a0o.of (a0g sHo) NHo rfl rfl rfl (by decide +kernel) (by decide +kernel) (by decide +kernel) rfl (by decide +kernel)) ndHo rfl (a1V (a0v GM.ok hr (by rfl) GM.m GM.kp GM.b .nil a1b (a0a (pv 0) (a0a (pv 1) (a0a (pv 3) a0e))))) a2a
   (fun cl C s0 H0 fp=>⟨a1c,a4E (a1p (b0w (P:=P) (w:=w) (K:=K) (hu2 hr)) (a0D (ixT K) (pv 0) a0d (fun _ _=>rfl)) (pv 3) rfl) (a5J (a1p a5i (pv 5) (a0m a0G (a0D (ixT K) (pv 0) a0d (fun _ _=>rfl)) (a3D (P:=P) (w:=w) (K:=K) (hu2 hr) (pv 3) (a1V (a0D (ixT K) (pv 0) a0d (fun _ _=>rfl))) (fun _ _=>rfl) a0S a2a)) (nomark _)))⟩)) a0e))))),?_⟩
 have fat:∀ {H':Hp},TK H H'→∀ e∈us,FAt K H' e.1 e.2.1:=fun t e he=>((an.en e he).1.tk t).fat FS
 have t0:TK H H:=fun _ _ z=>z
 refine ⟨_,rfl,_,rfl,d,a,k,us,_,rfl,rfl,.inl hd,fat t0,fr.fat FS,nv,?_⟩
 obtain ⟨g,ak⟩:=fr.askG FS W (b0y isf) bd hp hq
 refine ⟨_,rfl,a,_,_,_,rfl,rfl,ak.hf,(rfl:atI [V.int k.1,.ref g] 0=_),_,rfl,q,_,rfl,.inr (SqT.of hq),rfl,_,rfl,?_⟩
 rw [List.length_map]
 unfold a2q at qq
 refine a1g (fun c=>?_) (fun c=>?_)
 ·rw [if_pos (V.int.inj (of_decide_eq_true c))] at qq
  exact ⟨_,rfl,_,_,rfl,rfl,qq H fun _ _ z=>z⟩
 rw [if_neg (fun z=>c (decide_eq_true (congrArg _ z)))] at qq
 refine ⟨fun vv H6=>∃ l xs,vv=.ref l∧a0y H H6∧H l=none∧H6 l=some (.lst xs)∧Mvs H6 xs (nxt ps ws k),⟨_,rfl,_,rfl,_,rfl,p,q,a,g,ps,ws,k.2,k.1,rfl,ak,fun l H6 xs s6 hn6 hl6 hm6=>⟨l,xs,rfl,s6,hn6,hl6,hm6⟩⟩,fun vv H6 hv=>?_⟩
 obtain ⟨l,xs,rfl,s6,hn6,hl6,hm6⟩:=hv
 have lx:xs.length=(nxt ps ws k).length:=hm6.length
 have lxx:(nxt ps ws k).length≤100:=by
  have:=a2p ps ws k.1 k.2 (ps.length - 1)
  have e:(nxt ps ws k).length=(rws ps ws k.1 k.2 (ps.length - 1)).length:=List.length_map ..
  have:=W.p6
  omega
 refine ⟨l,xs,rfl,SqL.of hl6,fun d2 hd2=>?_⟩
 refine ⟨fun i H'=>a0y H6 H'∧H' d2=some (.lst ((((nxt ps ws k).take i).map (okM us v)).map V.bl)),⟨a0c hd2 _,a0b⟩,fun i H' _ hP=>SqL.of (hP.1 _ _ hl6),fun i x H' hx hP=>?_,fun H' hP=>?_⟩
 ·obtain ⟨s7,hz⟩:=hP
  obtain ⟨m,hmm,mx⟩:=Paired.right_of hm6 i x hx
  obtain ⟨t,fx,rfl,ht,hfx⟩:=a3H.open (a3H.tk (TK.of s7) mx)
  obtain ⟨b,rfl,hb⟩:=FrA.of (aF:=aF) (bF:=bF) hfx
  have s07:=s6.trans s7
  have il:=(List.getElem?_eq_some_iff.mp hmm).1
  have fin:∀ bb,okM us v m=bb→∃ ys,H' d2=some (.lst ys)∧ys.length < sizeLine∧a0y H6 (upd H' d2 (.lst (ys++[.bl bb])))∧upd H' d2 (.lst (ys++[.bl bb])) d2=some (.lst ((((nxt ps ws k).take (i+1)).map (okM us v)).map V.bl)):=fun bb eb=>by
   refine ⟨_,hz,?_,a0p hd2 s7,?_⟩
   ·rw [List.length_map,List.length_map,List.length_take];exact a0q (by omega)
   ·rw [a0b,List.take_add_one,hmm,List.map_append,List.map_append,←eb];rfl
  have a2:atI [V.int m.1,.int m.2.1,.ref b] 2=some (.ref b):=rfl
  have a1:atI [V.int m.1,.int m.2.1,.ref b] 1=some (.int m.2.1):=rfl
  refine a0P ⟨_,rfl,t,_,_,_,rfl,rfl,SqT.of ht,a2,_,rfl,b,d,m.2.2,us,rfl,rfl,s07 _ _ hd,fat (TK.of s07),hb.fat FS,_,rfl,a1g (fun c=>?_) (fun c=>?_)⟩
  ·obtain ⟨x,hx'⟩:=Option.isSome_iff_exists.mp c
   obtain ⟨e,he,ek,ev⟩:=a4z hx'
   obtain ⟨_,⟨n,en⟩,_⟩:=an.en e he
   rw [en] at ev
   rw [←ev] at hx'
   refine ⟨_,rfl,_,rfl,t,_,_,_,rfl,rfl,SqT.of ht,a1,_,rfl,fun vv H7=>vv=.ref b∧H'=H7,⟨_,rfl,t,_,_,_,rfl,rfl,SqT.of ht,a2,rfl,rfl⟩,fun vv H7 hv=>?_⟩
   obtain ⟨rfl,rfl⟩:=hv
   refine ⟨d,b,m.2.2,us,_,rfl,rfl,.inl (s07 _ _ hd),fat (TK.of s07),hb.fat FS,hx',_,_,rfl,rfl,_,_,rfl,rfl,?_⟩
   exact fin _ (by unfold okM;rw [hx'])
  ·exact fin false (by
    unfold okM
    cases hh:nval us m.2.2 with
    | none=>rfl
    | some y=>rw [hh] at c;exact absurd rfl c)
 ·obtain ⟨s7,hz⟩:=hP
  rw [lx,List.take_length] at hz
  refine ⟨d2,_,rfl,hz,?_⟩
  have e7:((nxt ps ws k).map (okM us v)).all id=(nxt ps ws k).all (okM us v):=by rw [List.all_map];rfl
  rw [e7]
  exact qq H' (s6.trans s7)
end
def a0R (us:List FE) (i:Nat):Fr:=(us.map (·.1)).getD i (0,[])
theorem a2z {us:List FE} {i:Nat} {e:FE} (h:us[i]?=some e):a0R us i=e.1:=by
 unfold a0R
 rw [List.getD_eq_getElem?_getD,List.getElem?_map,h]
 rfl
def a7d (us:List FE):Bool:=(List.range (us.length - 1)).all fun i=>a1D (a0R us i) (a0R us (i+1))
def a1n (e:FE):Int:=match e.2.2 with
 | .int n=>n
 | _=>0
def a2A (ps ws:List Int) (us:List FE):Bool:=us.all (fun e=>isF ws.length e.1) && (a7d us && ((nval us (0,[0])).isSome && us.all fun e=>a2q ps ws us e.1 (a1n e)))
theorem a8M {us:List FE} (h:a7d us=true):∀ {i j:Nat},i < j→j < us.length→a1D (a0R us i) (a0R us j)=true
 | i,0,hij,_=>by omega
 | i,j+1,hij,hj=>by
  unfold a7d at h
  have st:=List.all_eq_true.mp h j (List.mem_range.mpr (by omega))
  rcases Nat.lt_or_ge i j with c | c
  ·exact a4o _ _ _ (a8M (us:=us) (by unfold a7d;exact h) c (by omega)) st
  ·rw [show i=j by omega]
   exact st
theorem a5D {us:List FE} (h:a7d us=true):(us.map (·.1)).Nodup:=by
 unfold List.Nodup
 rw [List.pairwise_iff_getElem]
 intro i j hi hj hij e
 rw [List.length_map] at hi hj
 have t:=a8M h hij hj
 have e1:a0R us i=(us.map (·.1))[i]'(by rw [List.length_map];exact hi):=by unfold a0R;rw [List.getD_eq_getElem?_getD,List.getElem?_eq_getElem];rfl
 have e2:a0R us j=(us.map (·.1))[j]'(by rw [List.length_map];exact hj):=by unfold a0R;rw [List.getD_eq_getElem?_getD,List.getElem?_eq_getElem];rfl
 rw [e1,e2,e,a1O] at t
 cases t
theorem a8N {us:List FE} (nd:(us.map (·.1)).Nodup) {e:FE} (he:e∈us):nval us e.1=some e.2.2:=by
 obtain ⟨p,hp,ek,nv⟩:=a3C (List.mem_map.mpr ⟨e,he,rfl⟩:e.1∈us.map (·.1))
 have:p=e:=by
  obtain ⟨i,hi,e1⟩:=List.mem_iff_getElem.mp hp
  obtain ⟨j,hj,e2⟩:=List.mem_iff_getElem.mp he
  have:i=j:=by
   refine (List.getElem_inj (h₀:=by rw [List.length_map];exact hi) (h₁:=by rw [List.length_map];exact hj) nd).mp ?_
   rw [List.getElem_map,List.getElem_map,e1,e2,ek]
  subst this
  rw [←e1,←e2]
 rw [←this]
 rw [this] at nv ⊢
 exact nv
section
variable {P:Program} {w:World} {K:PySem.W.Frag} {mg:Str→Option Value} {base:Heap} {f:Addr} {fd:FuncData}
theorem b1z {X:Cx} {K:PySem.W.Frag} (hu:X.A.units+4 < cLine) (hK:X.K=K:=by rfl):OpR X (compareOp .Lt) (rLtF K):=by subst hK;exact op_ltF hu
theorem b_dict:bootBuiltins "dict"=some (.type "dict"):=by decide +kernel
def rDictF (P:Program) (w:World) (K:PySem.W.Frag):List V→Hp→VK→Prop:=fun xs H Q=>∃ (l:Addr) (out:List V) (us:List FE),xs=[.ref l]∧H l=some (.lst out)∧Paired (IPr H) out us∧(∀ p∈us,FAt K H p.1 p.2.1)∧(us.map (·.1)).Nodup∧us.length≤100000∧∀ d H',H d=none→H'=upd H d (NDO (a0l P w) d us)→Q (.ref d) H'
theorem a7e {X:Cx} {P:Program} {w:World} {K:PySem.W.Frag} (hc:X.calm=true) (hu:X.A.units+10 < cLine) (hP:X.prog=P:=by rfl) (hw:X.w=w:=by rfl) (hK:X.K=K:=by rfl):a2g X (.type "dict") (rDictF P w K):=by
 subst hP;subst hw;subst hK
 intro pins s σ H xs us Q I r h
 obtain ⟨l,out,us',e,h1,h2,h3,h4,h5,q⟩:=h
 exact a6U hc hu pins s σ H xs us Q I r ⟨l,out,us',e,h1,h2,h3,h4,h5,fun d hd=>q d _ hd rfl⟩
abbrev NFh:List Str:=["prices","weights","told","floors"]
abbrev PFh:List Str:=["prices","weights","told"]
def b0z (aF bF:Addr):Sp:=fun vs H Q _=>∃ (p q l:Addr) (ps ws:List Int) (out:List V) (us:List FE),vs=[.ref p,.ref q,.ref l]∧TW H p ps∧TW H q ws∧Wide ps ws∧H l=some (.lst out)∧Paired (IPr H) out us∧Any aF bF H us∧us.length≤5000 ∧
 ∀ H',a0y H H'→Q (.bl (a2A ps ws us)) H'
theorem scFh:a0C NFh PFh (a0g sFH):=⟨rfl,rfl,rfl,by decide +kernel,rfl,by decide +kernel,by decide +kernel⟩
theorem ndFh1:(("pair":Str) :: NFh).Nodup:=by decide +kernel
theorem ndFh2:(("at":Str) :: NFh).Nodup:=by decide +kernel
theorem a1o {n:Nat} (h:n≤5000):n < sizeLine:=Nat.lt_of_le_of_lt h (by decide)
theorem ok_fh {aF bF:Addr} (F:Fun K "frontiers_hold" "frontiers_hold" sFH f fd) (FS:Fst K mg aF bF) (GR:Fns P w K mg base ["prices","weights"] "refuse_many" a3d 4) (GI:Fns P w K mg base PIf "is_frontier" (spIf K) 4) (GH:Fns P w K mg base PHo "holds" (spHo P w aF bF) 4) (ml:mg "len"=none) (ma:mg "all"=none) (mr:mg "range"=none) (mD:mg "dict"=none):a1X P w K mg base CX0 5 f fd PFh (b0z aF bF):=by
 refine F.ok (k:=4) scFh (fun vs H Q E h=>?_) (fun cdv A outer s H vs Q E hr h=>?_)
 ·obtain ⟨p,q,l,ps,ws,out,us,rfl,_⟩:=h
  rfl
 obtain ⟨p,q,l,ps,ws,out,us,rfl,hp,hq,W,hl,pr,an,le,qq⟩:=h
 have hu10:(a5O CX0 P w K mg base NFh "frontiers_hold" (a0g sFH) f cdv A outer s H E).nox.A.units+10 < cLine:=by
  have:=hr.un
  exact Nat.lt_of_le_of_lt (Nat.add_le_add_left (show 10≤16 * 4+200 by decide) _) this
 refine ⟨_,a0f (a1y (a0v GR.ok hr (by rfl) GR.m GR.kp GR.b .nil a1b (a0a (pv 0) (a0a (pv 1) a0e))))
  (a0f (a0J (a3L (a4C (a0j (a2t rfl) (by rfl) ma a7I (a0a (a1M (M:=NFh) rfl (a0o.of (a0g sFH) NFh rfl rfl rfl (by decide +kernel) (by decide +kernel) (by decide +kernel) rfl (by decide +kernel)) ndFh1 rfl (pv 2) a0S
    (fun cl C s0 H0 fp=>⟨a1c,a0v GI.ok hr (by rfl) GI.m GI.kp GI.b .nil a1b (a0a (a0D (ixT K) (pv 0) a0d (fun _ _=>rfl)) (a0a (a0j (lenS K) (by rfl) ml PySem.boot_len (a0a (pv 2) a0e)) a0e))⟩)) a0e)))) (a0i (a0t a2l)) a0s)
  (a0f (a0J (a3L (a4C (a0j (a2t rfl) (by rfl) ma a7I (a0a (a1Z (M:=NFh) rfl (a0o.of (a0g sFH) NFh rfl rfl rfl (by decide +kernel) (by decide +kernel) (by decide +kernel) rfl (by decide +kernel)) ndFh2 rfl (by rfl) mr (a0a (a1V (a0m a0W (a0j a0h (by rfl) ml PySem.boot_len (a0a (pv 2) a0e)) a0d)) a0e) (a2J a2a a3M)
    (fun cl C s0 H0 fp=>⟨a1c,a1p (b1z (K:=K) (hu4 hr)) (a0D (ixT K) (a0D (ixL K) (pv 3) (pv 0) (fun _ _=>rfl)) a0d (fun _ _=>rfl)) (a0D (ixT K) (a0D (ixL K) (pv 3) (a0m a0G (pv 0) a0d) (fun _ _=>rfl)) a0d (fun _ _=>rfl)) (nomark _)⟩)) a0e)))) (a0i (a0t a2l)) a0s)
  (a0f (a0u (i:=3) scFh.nd rfl (Or.inr rfl) (a0Q (a7e (P:=P) (w:=w) (K:=K) rfl hu10) (by rfl) mD b_dict (a0a (pv 2) a0e)))
  (a0i (a0t (a4E (a1p (b0w (P:=P) (w:=w) (K:=K) (hu2 hr)) (a7l (v:=.ref aF) (by rfl) FS.m rfl) (pv 3) rfl) (a5J (a0j (a2t rfl) (by rfl) ma a7I (a0a (a1M (M:=NFh) rfl (a0o.of (a0g sFH) NFh rfl rfl rfl (by decide +kernel) (by decide +kernel) (by decide +kernel) rfl (by decide +kernel)) ndFh1 rfl (pv 2) a0S
    (fun cl C s0 H0 fp=>⟨a1c,a0v GH.ok hr (by rfl) GH.m GH.kp GH.b .nil a1b (a0a (pv 1) (a0a (pv 2) (a0a (pv 4) (a0a (a0D (ixT K) (pv 0) a0d (fun _ _=>rfl)) a0e))))⟩)) a0e))))))))),?_⟩
 have lo:out.length=us.length:=pr.length
 have fat:∀ {H':Hp},TK H H'→∀ e∈us,FAt K H' e.1 e.2.1:=fun t e he=>((an.en e he).1.tk t).fat FS
 refine ⟨_,rfl,_,rfl,p,q,ps,ws,rfl,hp,hq,W.w7,?_⟩
 refine ⟨_,rfl,l,out,rfl,SqL.of hl,fun d hd=>?_⟩
 refine ⟨fun i H'=>a0y H H'∧H' d=some (.lst (((us.take i).map fun e=>isF ws.length e.1).map V.bl)),⟨a0c hd _,a0b⟩,fun i H' _ hP=>SqL.of (hP.1 _ _ hl),fun i x H' hx hP=>?_,fun H1 hP=>?_⟩
 ·obtain ⟨s1,hz⟩:=hP
  obtain ⟨e,he,t,rfl,ht⟩:=Paired.right_of pr i x hx
  have em:e∈us:=List.mem_of_getElem? he
  have il:=(List.getElem?_eq_some_iff.mp he).1
  refine a0P ⟨_,rfl,t,_,_,_,rfl,rfl,SqT.of (s1 _ _ ht),(rfl:atI [V.ref e.2.1,e.2.2] 0=_),_,rfl,q,_,rfl,.inr (SqT.of (s1 _ _ hq)),e.2.1,e.1,_,rfl,fat (TK.of s1) e em,by have:=(an.en e em).2.2.1;omega,fun H2 s2=>⟨_,s2 _ _ hz,?_,a0p hd (s1.trans s2),?_⟩⟩
  ·rw [List.length_map,List.length_map,List.length_take];exact a1o (by omega)
  ·rw [a0b,List.take_add_one,he,List.map_append,List.map_append,List.length_map];rfl
 obtain ⟨s1,hz⟩:=hP
 rw [lo,List.take_length] at hz
 refine ⟨d,_,rfl,hz,_,rfl,?_⟩
 have e1:(us.map fun e=>isF ws.length e.1).all id=us.all (fun e=>isF ws.length e.1):=by rw [List.all_map];rfl
 rw [e1]
 unfold a2A at qq
 cases hA:us.all (fun e=>isF ws.length e.1) with
 | false =>
  rw [hA] at qq
  exact b1G (qq H1 s1)
 | true =>
 rw [hA] at qq
 refine b0P ?_
 refine ⟨fun v H'=>v=.int ((us.length:Int) - 1)∧H1=H',⟨_,rfl,l,out,rfl,.inl (SqL.of (s1 _ _ hl)),_,_,rfl,rfl,(by rw [lo]),rfl⟩,fun v H' hv=>?_⟩
 obtain ⟨rfl,rfl⟩:=hv
 refine ⟨_,rfl,by omega,by omega,fun d2 hd2=>?_⟩
 have ej:((us.length:Int) - 1).toNat=us.length - 1:=by omega
 rw [ej]
 refine ⟨fun i H'=>a0y H1 H'∧H' d2=some (.lst (((List.range i).map fun i=>a1D (a0R us i) (a0R us (i+1))).map V.bl)),⟨a0c hd2 _,a0b⟩,fun i H' hi hP=>?_,fun H2 hP=>?_⟩
 ·obtain ⟨s2,hz2⟩:=hP
  have ei:(0:Int)+(i:Int)=((i:Nat):Int):=by omega
  rw [ei]
  have s02:=s1.trans s2
  have ge:∀ j,j < us.length→∃ (e:FE) (t:Addr),us[j]?=some e∧out[j]?=some (.ref t)∧H' t=some (.tup [.ref e.2.1,e.2.2])∧FAt K H' e.1 e.2.1:=fun j hj=>by
   have hx:out[j]?=some (out[j]'(by omega)):=List.getElem?_eq_getElem _
   obtain ⟨e,he,t,et,ht⟩:=Paired.right_of pr j _ hx
   exact ⟨e,t,he,by rw [hx,et],s02 _ _ ht,fat (TK.of s02) e (List.mem_of_getElem? he)⟩
  obtain ⟨e,t,he,ho,ht,hf⟩:=ge i (by omega)
  obtain ⟨e',t',he',ho',ht',hf'⟩:=ge (i+1) (by omega)
  have at1:atI out (i:Int)=some (.ref t):=by rw [a2H];exact ho
  have at2:atI out ((i:Int)+1)=some (.ref t'):=by rw [show (i:Int)+1=((i+1:Nat):Int) by push_cast;rfl,a2H];exact ho'
  refine a0P ⟨_,rfl,_,rfl,l,_,_,_,rfl,rfl,SqL.of (s02 _ _ hl),at1,t,_,_,_,rfl,rfl,SqT.of ht,(rfl:atI [V.ref e.2.1,e.2.2] 0=_),_,rfl,_,rfl,_,_,rfl,rfl,l,_,_,_,rfl,rfl,SqL.of (s02 _ _ hl),at2,t',_,_,_,rfl,rfl,SqT.of ht',(rfl:atI [V.ref e'.2.1,e'.2.2] 0=_),e.1,e'.1,⟨_,rfl,hf⟩,⟨_,rfl,hf'⟩,_,hz2,?_,a0p hd2 s2,?_⟩
  ·rw [List.length_map,List.length_map,List.length_range];exact a1o (by omega)
  ·rw [a0b,List.range_succ,List.map_append,List.map_append,←a2z he,←a2z he'];rfl
 obtain ⟨s2,hz2⟩:=hP
 have s02:=s1.trans s2
 refine ⟨d2,_,rfl,hz2,_,rfl,?_⟩
 have e2:((List.range (us.length - 1)).map fun i=>a1D (a0R us i) (a0R us (i+1))).all id=a7d us:=by rw [List.all_map];rfl
 rw [e2]
 cases hB:a7d us with
 | false =>
  rw [hB] at qq
  exact b1G (qq H2 s02)
 | true =>
 rw [hB] at qq
 refine b0P ?_
 have nd:=a5D hB
 have pr2:Paired (IPr H2) out us:=Paired.mapP pr fun _ _ ⟨t,e,ht⟩=>⟨t,e,s02 _ _ ht⟩
 refine ⟨_,rfl,l,out,us,rfl,s02 _ _ hl,pr2,fat (TK.of s02),nd,by omega,fun dF H3 hdF e3=>?_⟩
 have s3:a0y H2 H3:=by rw [e3];exact a0c hdF _
 have dF3:H3 dF=some (NDO (a0l P w) dF us):=by rw [e3];exact a0b
 clear e3
 have s03:=s02.trans s3
 have f0:FrA aF bF H3 (0,[0]) aF:=.inr ⟨rfl,rfl⟩
 refine ⟨_,rfl,aF,dF,(0,[0]),us,rfl,rfl,dF3,fat (TK.of s03),f0.fat FS,_,rfl,a1g (fun c=>?_) (fun c=>?_)⟩
 ·rw [c] at qq
  refine ⟨_,rfl,l,out,rfl,SqL.of (s03 _ _ hl),fun d4 hd4=>?_⟩
  refine ⟨fun i H'=>a0y H3 H'∧H' d4=some (.lst (((us.take i).map fun e=>a2q ps ws us e.1 (a1n e)).map V.bl)),⟨a0c hd4 _,a0b⟩,fun i H' _ hP=>SqL.of (hP.1 _ _ (s03 _ _ hl)),fun i x H' hx hP=>?_,fun H4 hP=>?_⟩
  ·obtain ⟨s4,hz4⟩:=hP
   obtain ⟨e,he,t,rfl,ht⟩:=Paired.right_of pr i x hx
   have em:e∈us:=List.mem_of_getElem? he
   have il:=(List.getElem?_eq_some_iff.mp he).1
   have s04:=s03.trans s4
   obtain ⟨fr,⟨n,en⟩,_,bd⟩:=an.en e em
   have nv:nval us e.1=some (.int (a1n e)):=by
    rw [a8N nd em,en]
    unfold a1n
    rw [en]
   refine a0P ⟨_,rfl,_,rfl,_,rfl,_,rfl,t,_,_,_,rfl,rfl,SqT.of (s04 _ _ ht),(rfl:atI [V.ref e.2.1,e.2.2] 0=_),p,q,dF,e.2.1,ps,ws,us,e.1,a1n e,rfl,s04 _ _ hp,s04 _ _ hq,W,s4 _ _ dF3,an.tk (TK.of s04),fr.tk (TK.of s04),nv,List.all_eq_true.mp hA e em,bd,fun H5 s5=>⟨_,s5 _ _ hz4,?_,a0p hd4 (s4.trans s5),?_⟩⟩
   ·rw [List.length_map,List.length_map,List.length_take];exact a1o (by omega)
   ·rw [a0b,List.take_add_one,he,List.map_append,List.map_append];rfl
  ·obtain ⟨s4,hz4⟩:=hP
   rw [lo,List.take_length] at hz4
   refine ⟨d4,_,rfl,hz4,?_⟩
   have e4:(us.map fun e=>a2q ps ws us e.1 (a1n e)).all id=us.all (fun e=>a2q ps ws us e.1 (a1n e)):=by rw [List.all_map];rfl
   rw [e4]
   exact qq H4 (s03.trans s4)
 ·have c':(nval us (0,[0])).isSome=false:=by
   cases hh:(nval us (0,[0])).isSome with
   | false=>rfl
   | true=>exact absurd hh c
  rw [c'] at qq
  exact qq H3 s03
end
end K75
namespace L2
open PySem PySem.Spec PyProof.Rows PySem.W
theorem a6p {P:Program} {w:World} {KK:Type} [DecidableEq KK] {knd:HeapKind P w KK} {H:Hp} {h:Heap} {d:Addr} {kvs:List (KK × Addr × V)} (ok:HOk P w H h) (e:NW1 knd H d kvs) (ka:∀ p∈kvs,knd.is h p.1 p.2.1):(d == sysModules)=false∧kvs.length≤sizeLine∧∃ xs,a5e kvs xs∧h.DictOfH knd d xs:=by
 have z0:NDx knd d kvs h:=by
  rcases e with e | ⟨ob,e⟩
  ·exact (show a0w P w H h d (NDO knd d kvs) from ok d _ e).1
  ·exact (show a0w P w H h d (NDO knd d kvs) from (show a0w P w H h d (.frz ob (NDO knd d kvs)) from ok d _ e).2).1
 obtain ⟨h0,hl,xs,r,o,es,ep,e1,e2,e3,e4,e5⟩:=z0
 refine ⟨h0,hl,xs,r,o,es,ep,e1,e2,e3,e4,fun x hx=>?_,e5⟩
 clear e4 e5 e hl
 unfold a5e at r
 induction r with
 | nil=>cases hx
 | cons h1 _ ih =>
  rcases List.mem_cons.mp hx with z | z
  ·subst z
   have:=ka _ (.head _)
   rw [h1.1,h1.2.1] at this
   exact this
  ·exact ih (fun p hp=>ka p (.tail _ hp)) z
def rNotZ (P:Program) (w:World) (K:PySem.W.Frag):R2:=fun x y H Q=>∃ a d k kvs,x=.ref a∧y=.ref d∧NW1 (a0l P w) H d kvs∧(∀ p∈kvs,FAt K H p.1 p.2.1)∧FAt K H k a∧Q (.bl (!(nval kvs k).isSome)) H
theorem b1A {X:Cx} {P:Program} {w:World} {K:PySem.W.Frag} (hu:X.A.units+2 < cLine) (hP:X.prog=P:=by rfl) (hw:X.w=w:=by rfl) (hK:X.K=K:=by rfl):OpR X (compareOp .NotIn) (rNotZ P w K):=by
 subst hP;subst hw;subst hK
 intro pins s σ H x y v u Q I rx ry h
 obtain ⟨a,d,k,kvs,rfl,rfl,e,h2,h3,q⟩:=h
 have ev:v=Value.ref a:=rx
 have eu:u=Value.ref d:=ry
 subst ev
 subst eu
 obtain ⟨hd,_,xs,rel,dd⟩:=a6p I.hok e (fun p hp=>FAt.is I (h2 p hp))
 refine wpAny_notIn_heap ((nkN X).rm hu) (FAt.is I h3) hd dd ?_
 have qq:=(rel.val k).isSome_eq
 rw [Option.isSome_map] at qq
 rw [←qq]
 exact ⟨.bl _,H,I.tok _,rfl,q⟩
def tGetZ (P:Program) (w:World) (K:PySem.W.Frag) (td ty:TE):TE:=fun σ H Q=>td σ H fun x H1=>ty σ H1 fun y H2=>∃ d a k kvs v,x=.ref d∧y=.ref a∧NW1 (a0l P w) H2 d kvs∧(∀ p∈kvs,FAt K H2 p.1 p.2.1)∧FAt K H2 k a∧nval kvs k=some v∧Q v H2
theorem a5E {X:Cx} {P:Program} {w:World} {K:PySem.W.Frag} {o i:Expr} {pos:Pos} {td ty:TE} (hu:X.A.units+2 < cLine) (ho:PE X o td) (hi:PE X i ty) (hs:NoSl i) (hP:X.prog=P:=by rfl) (hw:X.w=w:=by rfl) (hK:X.K=K:=by rfl):PE X (.Subscript o i pos) (tGetZ P w K td ty):=by
 subst hP;subst hw;subst hK
 intro pins s σ H Q I h
 refine a7M PySem.F.slot_dict_getitem.lookup hs (thn (ho pins s σ H _ I h) fun u s1 ⟨x,H1,I1,rx,q1⟩=>thn (hi pins s1 σ H1 _ I1 q1) fun iv s2 ⟨y,H2,I2,ry,d,a,k,kvs,v,ex,ey,e,h2,h3,hv,q2⟩=>?_)
 subst ex
 subst ey
 have eu:u=Value.ref d:=rx
 have ei:iv=Value.ref a:=ry
 subst eu
 subst ei
 obtain ⟨_,_,xs,rel,dd⟩:=a6p I2.hok e (fun p hp=>FAt.is I2 (h2 p hp))
 obtain ⟨w',hw,rw'⟩:=a8S.some_of (v:=v) (o:=(atKey xs k).map (·.2)) (by rw [←hv];exact rel.val k)
 obtain ⟨p,hp,hp2⟩:=Option.map_eq_some_iff.mp hw
 refine ⟨dd.typeIs,wpAny_getItem_heap ((nkN X).rm hu) (FAt.is I2 h3) dd hp ?_⟩
 rw [hp2]
 exact ⟨v,H2,I2.tok _,rw',q2⟩
end L2
namespace K75
open PySem L2
theorem a9P {ps ws:List Int}:mvs ps ws (ws.length:Int) []=[]:=by
 have h:∀ n,rws ps ws (ws.length:Int) [] n=[]:=by
  intro n
  induction n with
  | zero =>
   show rw1 _ _ _=[]
   unfold rw1
   rw [if_neg]
   rintro (z | z)
   ·simp at z
   ·omega
  | succ n ih =>
   show rws _ _ _ _ n++rw2 _ _ _ _ _=[]
   rw [ih]
   unfold rw2
   rw [if_neg]
   ·rfl
   ·simp only [List.length_nil]
    push_cast
    omega
 unfold mvs
 rw [h]
 rfl
theorem a6q {us:List FE} {i:Nat} (h:∀ j,j+1 < i→a1D (a0R us j) (a0R us (j+1))=true) (hi:i≤us.length):a7d (us.take i)=true:=by
 unfold a7d
 rw [List.all_eq_true]
 intro j hj
 have hj:=List.mem_range.mp hj
 rw [List.length_take] at hj
 have g:∀ m,m < i→a0R (us.take i) m=a0R us m:=fun m hm=>by
  unfold a0R
  rw [List.getD_eq_getElem?_getD,List.getD_eq_getElem?_getD,List.map_take,List.getElem?_take,if_pos hm]
 rw [g j (by omega),g (j+1) (by omega)]
 exact h j (by omega)
theorem b1B {us:List FE} {i:Nat} (hi:i+1 < us.length) (h:a1D (a0R us i) (a0R us (i+1))=false):a7d us=false:=by
 unfold a7d
 rw [List.all_eq_false]
 exact ⟨i,List.mem_range.mpr (by omega),by rw [h];decide⟩
section
variable {P:Program} {w:World} {K:PySem.W.Frag} {mg:Str→Option Value} {base:Heap} {f:Addr} {fd:FuncData}
abbrev NLh:List Str:=["prices","weights","told","floors","k","frontier","number","spent","behind"]
abbrev PLh:List Str:=["prices","weights","told"]
theorem b1C:a0C NLh PLh (a0g sLH):=⟨rfl,rfl,rfl,by decide +kernel,rfl,by decide +kernel,by decide +kernel⟩
theorem ok_lh {aF bF:Addr} (F:Fun K "_law_holds" "_law_holds" sLH f fd) (FS:Fst K mg aF bF) (GL:Fns P w K mg base PLi "_law_is_frontier" (spLi K) 3) (GV:Fns P w K mg base ["prices","weights","frontier"] "_law_moves" (spMv K) 3) (ml:mg "len"=none) (mr:mg "range"=none):a1X P w K mg base CX0 4 f fd PLh (b0z aF bF):=by
 refine F.ok (k:=3) b1C (fun vs H Q E h=>?_) (fun cdv A outer s H vs Q E hr h=>?_)
 ·obtain ⟨p,q,l,ps,ws,out,us,rfl,_⟩:=h
  rfl
 obtain ⟨p,q,l,ps,ws,out,us,rfl,hp,hq,W,hl,pr,an,le,qq⟩:=h
 refine ⟨_,a0f (a0u (i:=3) b1C.nd rfl (Or.inl rfl) a4e)
  (a0f (a2h PassesOwn.never rfl (a3k (by rfl) mr (a0a (a0j a0h (by rfl) ml PySem.boot_len (a0a (pv 2) a0e)) a0e)) (a0E (i:=4) b1C.nd rfl (Or.inl rfl))
   (a0f (a0J (PW.pt (a5g (a3L (a4C (a0v GL.ok hr (by rfl) GL.m GL.kp GL.b .nil a1b (a0a (a0j a0h (by rfl) ml PySem.boot_len (a0a (pv 1) a0e)) (a0a (a0D a1l (a0D a1a (pv 2) (pv 4) (fun _ _=>rfl)) a0d (fun _ _=>rfl)) a0e))))) (a3h (PW.pt (a4D (a0n a2V (pv 4) a0d (nomark _)) (a3g (a0n (op_geF (hu4 hr)) (a0D a1l (a0D a1a (pv 2) (a0m a0W (pv 4) a0d) (fun _ _=>rfl)) a0d (fun _ _=>rfl)) (a0D a1l (a0D a1a (pv 2) (pv 4) (fun _ _=>rfl)) a0d (fun _ _=>rfl)) (nomark _))))))))
    (a0i (a0t a2l)) a0s)
   (a0i (a5C (P:=P) (w:=w) (K:=K) (hu2 hr) (pv 3) (a1V (a0D a1l (a0D a1a (pv 2) (pv 4) (fun _ _=>rfl)) a0d (fun _ _=>rfl))) (a1V (a0D a1l (a0D a1a (pv 2) (pv 4) (fun _ _=>rfl)) a0d (fun _ _=>rfl))) rfl a0S a2a a2a))))
  (a0f (a0J (a0n (a8H (P:=P) (w:=w) (K:=K) (hu2 hr)) (a0K (a0a a0d (a0a (a0K (a0a a0d a0e)) a0e))) (pv 3) rfl) (a0i (a0t a2l)) a0s)
  (a0f (a2h PassesOwn.never rfl (pi_nd (knd:=a0l P w) (pv 3)) (a0E (i:=5) b1C.nd rfl (Or.inl rfl))
   (a0f (a2U (a0J (PW.pt (a4D (a0n a0V (a0j a0h (by rfl) ml PySem.boot_len (a0a (a0D a1l (pv 5) a0d (fun _ _=>rfl)) a0e)) a0d (nomark _)) (a3g (a0n a2V (a5E (P:=P) (w:=w) (K:=K) (hu2 hr) (pv 3) (pv 5) (fun _ _=>rfl)) a0d (nomark _))))) (a0i (a0t a2l)) a0s))
   (a0i (a2h PassesOwn.never rfl (a2D (a0v GV.ok hr (by rfl) GV.m GV.kp GV.b .nil a1b (a0a (pv 0) (a0a (pv 1) (a0a (pv 5) a0e))))) (a3i rfl (a0L (a0E (i:=6) b1C.nd rfl (Or.inl rfl)) (a0L (a0E (i:=7) b1C.nd rfl (Or.inl rfl)) (a0L (a0E (i:=8) b1C.nd rfl (Or.inl rfl)) a2m))))
    (a0i (a0J (PW.pt (a5g (a0n (b1A (P:=P) (w:=w) (K:=K) (hu2 hr)) (pv 8) (pv 3) rfl) (a3h (a0n a2V (a5E (P:=P) (w:=w) (K:=K) (hu2 hr) (pv 3) (pv 5) (fun _ _=>rfl)) (a0m a0G (pv 7) (a5E (P:=P) (w:=w) (K:=K) (hu2 hr) (pv 3) (pv 8) (fun _ _=>rfl))) (nomark _))))) (a0i (a0t a2l)) a0s))))))
  (a0i (a0t a2l))))),?_⟩
 have lo:out.length=us.length:=pr.length
 have fat:∀ {H':Hp},TK H H'→∀ e∈us,FAt K H' e.1 e.2.1:=fun t e he=>((an.en e he).1.tk t).fat FS
 refine fun dF hdF=>?_
 have s1:=a0c hdF (.dK [])
 have g1:upd H dF (.dK []) dF=some (.dK []):=a0b
 generalize upd H dF (.dK [])=H1 at s1 g1 ⊢
 have ge:∀ {H':Hp},a0y H H'→∀ j,j < us.length→∃ (e:FE) (t:Addr),us[j]?=some e∧atI out (j:Int)=some (.ref t)∧H' t=some (.tup [.ref e.2.1,e.2.2])∧FAt K H' e.1 e.2.1:=fun {H'} sx j hj=>by
  have hx:out[j]?=some (out[j]'(by omega)):=List.getElem?_eq_getElem _
  obtain ⟨e,he,t,et,ht⟩:=Paired.right_of pr j _ hx
  exact ⟨e,t,he,a2H (by rw [hx,et]),sx _ _ ht,fat (TK.of sx) e (List.mem_of_getElem? he)⟩
 refine ⟨_,rfl,l,out,rfl,.inl (SqL.of (s1 _ _ hl)),_,rfl,by omega,by omega,?_⟩
 refine a1W (fun i σ H'=>a0y H H'∧DN P w H' dF (us.take i)∧(∀ j,j < i→isF ws.length (a0R us j)=true)∧(∀ j,j+1 < i→a1D (a0R us j) (a0R us (j+1))=true)∧∃ x4:Option V,σ=[some (.ref p),some (.ref q),some (.ref l),some (.ref dF),x4,none,none,none,none])
  ⟨s1,.inr ⟨g1,rfl⟩,fun j hj=>absurd hj (by omega),fun j hj=>absurd hj (by omega),_,rfl⟩ (fun i σ H2 hi hP=>?_) (fun σ H2 hP=>?_)
 ·obtain ⟨s2,dn,hF,hA,x4,rfl⟩:=hP
  have hi:i < us.length:=by omega
  have ei:(0:Int)+(i:Int)=((i:Nat):Int):=by omega
  rw [ei]
  obtain ⟨e,t,he,ho,ht,hf⟩:=ge s2 i hi
  have em:e∈us:=List.mem_of_getElem? he
  have ke:=a2z he
  have a0:atI [V.ref e.2.1,e.2.2] 0=some (.ref e.2.1):=rfl
  have a1:atI [V.ref e.2.1,e.2.2] 1=some e.2.2:=rfl
  refine ⟨_,rfl,q,_,rfl,.inr (SqT.of (s2 _ _ hq)),_,rfl,_,rfl,l,_,_,_,rfl,rfl,SqL.of (s2 _ _ hl),ho,t,_,_,_,rfl,rfl,SqT.of ht,a0,e.2.1,e.1,_,rfl,hf,by have:=(an.en e em).2.2.1;omega,_,rfl,?_⟩
  rw [List.length_map]
  refine a1g (fun c=>?_) (fun c=>?_)
  ·have e1:isF ws.length e.1=false:=by
    cases hh:isF ws.length e.1 with
    | false=>rfl
    | true=>rw [hh] at c;cases c
   have e2:a2A ps ws us=false:=by
    unfold a2A
    rw [show us.all (fun e=>isF ws.length e.1)=false from List.all_eq_false.mpr ⟨e,em,by rw [e1];decide⟩]
    rfl
   rw [e2] at qq
   exact qq H2 s2
  have e1:isF ws.length e.1=true:=by
   cases hh:isF ws.length e.1 with
   | true=>rfl
   | false=>rw [hh] at c;exact absurd rfl c
  have put:(∀ j,j+1 < i+1→a1D (a0R us j) (a0R us (j+1))=true)→e.1∉(us.take i).map (·.1):=fun hA2 z=>by
   have nd:=a5D (a6q hA2 (by omega))
   rw [List.take_add_one,he,List.map_append] at nd
   exact (List.nodup_append.mp nd).2.2 _ z _ (.head _) rfl
  have kvl:(us.take i).length≤5000:=by rw [List.length_take];omega
  have fin:(∀ j,j+1 < i+1→a1D (a0R us j) (a0R us (j+1))=true)→∀ H',H'=upd H2 dF (NDO (a0l P w) dF (nput (us.take i) e.1 e.2.1 e.2.2))→a0y H H'∧DN P w H' dF (us.take (i+1))∧(∀ j,j < i+1→isF ws.length (a0R us j)=true):=fun hA2 H' eH=>by
   rw [a4A (put hA2)] at eH
   subst eH
   refine ⟨a0p hdF s2,.inl ?_,fun j hj=>?_⟩
   ·rw [a0b,List.take_add_one,he]
    rfl
   ·by_cases z:j=i
    ·rw [z,ke];exact e1
    ·exact hF j (by omega)
  refine ⟨_,rfl,_,_,rfl,rfl,_,rfl,a1g (fun c2=>?_) (fun c2=>?_)⟩
  ·have i0:0 < i:=by have:=of_decide_eq_true c2;omega
   obtain ⟨e',t',he',ho',ht',hf'⟩:=ge s2 (i - 1) (by omega)
   have ho2:atI out ((i:Int) - 1)=some (.ref t'):=by rw [show (i:Int) - 1=((i - 1:Nat):Int) by omega];exact ho'
   have ke':=a2z he'
   refine ⟨_,rfl,_,rfl,_,_,rfl,rfl,l,_,_,_,rfl,rfl,SqL.of (s2 _ _ hl),ho2,t',_,_,_,rfl,rfl,SqT.of ht',(rfl:atI [V.ref e'.2.1,e'.2.2] 0=_),_,rfl,_,rfl,l,_,_,_,rfl,rfl,SqL.of (s2 _ _ hl),ho,t,_,_,_,rfl,rfl,SqT.of ht,a0,e'.1,e.1,⟨_,rfl,hf'⟩,⟨_,rfl,hf⟩,_,rfl,a1g (fun c3=>?_) (fun c3=>?_)⟩
   ·have l1:a1D (a0R us (i - 1)) (a0R us (i - 1+1))=false:=by
     rw [show i - 1+1=i by omega,ke,ke']
     cases hh:a1D e'.1 e.1 with
     | false=>rfl
     | true=>rw [hh] at c3;cases c3
    have e2:a2A ps ws us=false:=by
     unfold a2A
     rw [b1B (i:=i - 1) (by omega) l1]
     simp
    rw [e2] at qq
    exact qq H2 s2
   ·have l1:a1D (a0R us (i - 1)) (a0R us (i - 1+1))=true:=by
     rw [show i - 1+1=i by omega,ke,ke']
     cases hh:a1D e'.1 e.1 with
     | true=>rfl
     | false=>rw [hh] at c3;exact absurd rfl c3
    have hA2:∀ j,j+1 < i+1→a1D (a0R us j) (a0R us (j+1))=true:=fun j hj=>by
     by_cases z:j=i - 1
     ·rw [z];exact l1
     ·exact hA j (by omega)
    refine ⟨fun v H'=>v=e.2.2∧H2=H',⟨_,rfl,_,rfl,l,_,_,_,rfl,rfl,SqL.of (s2 _ _ hl),ho,t,_,_,_,rfl,rfl,SqT.of ht,a1,rfl,rfl⟩,fun v H' hv=>?_⟩
    obtain ⟨rfl,rfl⟩:=hv
    refine ⟨_,rfl,fun v H'=>v=.ref e.2.1∧H2=H',⟨_,rfl,_,rfl,l,_,_,_,rfl,rfl,SqL.of (s2 _ _ hl),ho,t,_,_,_,rfl,rfl,SqT.of ht,a0,rfl,rfl⟩,fun v H' hv=>?_⟩
    obtain ⟨rfl,rfl⟩:=hv
    refine ⟨dF,e.2.1,e.1,us.take i,rfl,rfl,dn,fun e' he'=>fat (TK.of s2) e' (List.mem_of_mem_take he'),hf,a1o kvl,fun H' eH=>?_⟩
    obtain ⟨f1,f2,f3⟩:=fin hA2 H' eH
    exact ⟨f1,f2,f3,hA2,_,rfl⟩
  ·have i0:i=0:=by
    rcases Nat.eq_zero_or_pos i with z | z
    ·exact z
    ·exact absurd (decide_eq_true (by omega)) c2
   have hA2:∀ j,j+1 < i+1→a1D (a0R us j) (a0R us (j+1))=true:=fun j hj=>absurd hj (by omega)
   refine ⟨fun v H'=>v=e.2.2∧H2=H',⟨_,rfl,_,rfl,l,_,_,_,rfl,rfl,SqL.of (s2 _ _ hl),ho,t,_,_,_,rfl,rfl,SqT.of ht,a1,rfl,rfl⟩,fun v H' hv=>?_⟩
   obtain ⟨rfl,rfl⟩:=hv
   refine ⟨_,rfl,fun v H'=>v=.ref e.2.1∧H2=H',⟨_,rfl,_,rfl,l,_,_,_,rfl,rfl,SqL.of (s2 _ _ hl),ho,t,_,_,_,rfl,rfl,SqT.of ht,a0,rfl,rfl⟩,fun v H' hv=>?_⟩
   obtain ⟨rfl,rfl⟩:=hv
   refine ⟨dF,e.2.1,e.1,us.take i,rfl,rfl,dn,fun e' he'=>fat (TK.of s2) e' (List.mem_of_mem_take he'),hf,a1o kvl,fun H' eH=>?_⟩
   obtain ⟨f1,f2,f3⟩:=fin hA2 H' eH
   exact ⟨f1,f2,f3,hA2,_,rfl⟩
 ·obtain ⟨s2,dn,hF,hA,x4,rfl⟩:=hP
  have en:((out.length:Int)).toNat=us.length:=by omega
  rw [en] at hF hA dn
  rw [List.take_length] at dn
  have allF:us.all (fun e=>isF ws.length e.1)=true:=by
   rw [List.all_eq_true]
   intro e he
   obtain ⟨j,hj,ej⟩:=List.mem_iff_getElem.mp he
   have:=hF j hj
   rw [a2z (e:=e) (by rw [List.getElem?_eq_getElem hj,ej])] at this
   exact this
  have ascA:a7d us=true:=by
   have:=a6q hA (Nat.le_refl _)
   rw [List.take_length] at this
   exact this
  have nd:=a5D ascA
  unfold a2A at qq
  rw [allF,ascA] at qq
  refine ⟨(by show 1≤sizeLine;decide),fun a1 ha1=>?_⟩
  have s3:=a0c ha1 (.tup [.int 0])
  have g3:upd H2 a1 (.tup [.int 0]) a1=some (.tup [.int 0]):=a0b
  generalize upd H2 a1 (.tup [.int 0])=H3 at s3 g3 ⊢
  refine ⟨(by show 2≤sizeLine;decide),fun a2 ha2=>?_⟩
  have s4:=a0c ha2 (.tup [.int 0,.ref a1])
  have g4:upd H3 a2 (.tup [.int 0,.ref a1]) a2=some (.tup [.int 0,.ref a1]):=a0b
  generalize upd H3 a2 (.tup [.int 0,.ref a1])=H4 at s4 g4 ⊢
  have s04:=(s2.trans s3).trans s4
  have f4:FrA aF bF H4 (0,[0]) a2:=.inl ⟨a1,g4,.inl (s4 _ _ g3)⟩
  have dn4:DN P w H4 dF us:=dn.keep fun o z=>s4 _ _ (s3 _ _ z)
  refine ⟨_,rfl,a2,dF,(0,[0]),us,rfl,rfl,dn4,fat (TK.of s04),f4.fat FS,fun H5 e5=>?_⟩
  have s5:a0y H H5:=by rw [e5];exact a0p hdF s04
  have d5:H5 dF=some (NDO (a0l P w) dF us):=by rw [e5];exact a0b
  clear e5
  refine ⟨_,rfl,a1g (fun c=>?_) (fun c=>?_)⟩
  ·have c1:(nval us (0,[0])).isSome=false:=by
    cases hh:(nval us (0,[0])).isSome with
    | false=>rfl
    | true=>rw [hh] at c;cases c
   rw [c1] at qq
   exact qq H5 s5
  have c1:(nval us (0,[0])).isSome=true:=by
   cases hh:(nval us (0,[0])).isSome with
   | true=>rfl
   | false=>rw [hh] at c;exact absurd rfl c
  rw [c1] at qq
  have qq:∀ H',a0y H H'→Q (.bl (us.all fun e=>a2q ps ws us e.1 (a1n e))) H':=qq
  refine ⟨_,rfl,dF,us,rfl,.inl (.inl d5),fun ob=>?_⟩
  have s6:a0y H (upd H5 dF (.frz ob (NDO (a0l P w) dF us))):=a0p hdF s5
  have d6:upd H5 dF (.frz ob (NDO (a0l P w) dF us)) dF=some (.frz ob (NDO (a0l P w) dF us)):=a0b
  refine for_nd (X:=(a5O CX0 P w K mg base NLh "_law_holds" (a0g sLH) f cdv A outer s H E).nox) (knd:=a0l P w) (d:=dF) (ob:=ob) (kvs:=us) (fun i σ H'=>a0y H H'∧H' dF=some (.frz ob (NDO (a0l P w) dF us))∧(∀ e∈us.take i,a2q ps ws us e.1 (a1n e)=true)∧∃ x4 x5 x6 x7 x8:Option V,σ=[some (.ref p),some (.ref q),some (.ref l),some (.ref dF),x4,x5,x6,x7,x8])
   ⟨s6,d6,fun e he=>(by rw [List.take_zero] at he;cases he),_,_,_,_,_,rfl⟩ (fun i σ H' _ hP=>hP.2.1) (fun i e σ H7 he hP=>?_) (fun σ H7 hP=>?_)
  ·obtain ⟨s7,d7,hB,x4,x5,x6,x7,x8,rfl⟩:=hP
   have em:e∈us:=List.mem_of_getElem? he
   have il:=(List.getElem?_eq_some_iff.mp he).1
   obtain ⟨fr,⟨n,env⟩,_,bd⟩:=an.en e em
   have isf:=List.all_eq_true.mp allF e em
   have isr:=b0y isf
   have nv:nval us e.1=some (.int (a1n e)):=by
    rw [a8N nd em,env]
    unfold a1n
    rw [env]
   have bad:a2q ps ws us e.1 (a1n e)=false→∀ H',a0y H H'→Q (.bl false) H':=fun z H' sx=>by
    have e2:(us.all fun e=>a2q ps ws us e.1 (a1n e))=false:=List.all_eq_false.mpr ⟨e,em,by rw [z];decide⟩
    rw [e2] at qq
    exact qq H' sx
   have nw7:NW1 (a0l P w) H7 dF us:=.inr ⟨ob,d7⟩
   obtain ⟨g,ak⟩:=(fr.tk (TK.of s7)).askG FS W isr bd (s7 _ _ hp) (s7 _ _ hq)
   refine ⟨fun σ' H'=>(e.1.2=[]→a1n e≤0)∧H7=H'∧σ'=[some (.ref p),some (.ref q),some (.ref l),some (.ref dF),x4,some (.ref e.2.1),x6,x7,x8],?_,?_⟩
   ·refine ⟨_,rfl,e.2.1,_,_,_,rfl,rfl,ak.hf,(rfl:atI [V.int e.1.1,.ref g] 1=_),g,_,rfl,.inr ak.hg.sq,rfl,_,rfl,?_⟩
    rw [List.length_map]
    refine a1g (fun c=>?_) (fun c=>?_)
    ·have z:e.1.2=[]:=by
      have:=V.int.inj (of_decide_eq_true c)
      exact List.length_eq_zero_iff.mp (by omega)
     refine ⟨_,rfl,_,rfl,dF,e.2.1,e.1,us,_,rfl,rfl,nw7,fat (TK.of s7),(fr.tk (TK.of s7)).fat FS,nv,_,_,rfl,rfl,_,rfl,a1g (fun c2=>?_) (fun c2=>?_)⟩
     ·refine bad ?_ H7 s7
      unfold a2q
      rw [if_pos (isr.e0 z)]
      have:=of_decide_eq_true c2
      exact decide_eq_false (by omega)
     ·refine ⟨fun _=>?_,rfl,rfl⟩
      by_cases y:0 < a1n e
      ·exact absurd (decide_eq_true y) c2
      ·omega
    ·exact ⟨fun z=>absurd (decide_eq_true (by rw [z];rfl)) c,rfl,rfl⟩
   rintro σ' H' ⟨hz,rfl,rfl⟩
   refine ⟨_,rfl,_,rfl,_,rfl,p,q,e.2.1,g,ps,ws,e.1.2,e.1.1,rfl,ak,isr.e0,fun lm H8 xs s8 hn8 hl8 hm8=>?_⟩
   have hm8:Mvs H8 xs (nxt ps ws e.1):=hm8
   have lx:xs.length=(nxt ps ws e.1).length:=hm8.length
   have s08:=s7.trans s8
   refine ⟨lm,rfl,⟨_,SqL.of hl8⟩,?_⟩
   refine a2X (xs:=xs) (fun j σ H'=>H'=H8∧(∀ m∈(nxt ps ws e.1).take j,okM us (a1n e) m=true)∧∃ x6 x7 x8:Option V,σ=[some (.ref p),some (.ref q),some (.ref l),some (.ref dF),x4,some (.ref e.2.1),x6,x7,x8])
    ⟨rfl,fun m hm=>(by rw [List.take_zero] at hm;cases hm),_,_,_,rfl⟩ (fun j σ H' _ hP=>by rw [hP.1];exact SqL.of hl8) (fun j x σ H9 hx hP=>?_) (fun σ H9 hP=>?_)
   ·obtain ⟨rfl,hM,x6,x7,x8,rfl⟩:=hP
    obtain ⟨m,hmm,mx⟩:=Paired.right_of hm8 j x hx
    obtain ⟨t2,fx,rfl,ht2,hfx⟩:=a3H.open mx
    obtain ⟨b,rfl,hb⟩:=FrA.of (aF:=aF) (bF:=bF) hfx
    have mm:m∈nxt ps ws e.1:=List.mem_of_getElem? hmm
    have nw8:NW1 (a0l P w) H9 dF us:=.inr ⟨ob,s8 _ _ d7⟩
    have nn:¬ e.1.1=(ws.length:Int):=fun y=>by
     have z:e.1.2=[]:=by
      have:=isr.sk
      exact List.length_eq_zero_iff.mp (by omega)
     have:nxt ps ws e.1=[]:=by
      have e3:e.1=((ws.length:Int),[]):=Prod.ext y z
      rw [e3]
      exact a9P
     rw [this] at mm
     cases mm
    have badM:okM us (a1n e) m=false→Q (.bl false) H9:=fun z=>bad (by
     unfold a2q
     rw [if_neg nn]
     exact List.all_eq_false.mpr ⟨m,mm,by rw [z];decide⟩) H9 s08
    refine ⟨t2,_,rfl,SqT.of ht2,rfl,_,_,rfl,_,_,rfl,_,_,rfl,rfl,?_⟩
    refine ⟨_,rfl,_,rfl,b,dF,m.2.2,us,rfl,rfl,nw8,fat (TK.of s08),hb.fat FS,_,rfl,a1g (fun c=>?_) (fun c=>?_)⟩
    ·refine badM ?_
     unfold okM
     cases hh:nval us m.2.2 with
     | none=>rfl
     | some y=>rw [hh] at c;cases c
    ·obtain ⟨y,hy⟩:∃ y,nval us m.2.2=some y:=by
      cases hh:nval us m.2.2 with
      | none=>rw [hh] at c;exact absurd rfl c
      | some y=>exact ⟨y,rfl⟩
     obtain ⟨e2,he2,ek2,ev2⟩:=a4z hy
     obtain ⟨_,⟨n2,en2⟩,_⟩:=an.en e2 he2
     rw [en2] at ev2
     rw [←ev2] at hy
     have okE:okM us (a1n e) m=decide (a1n e≤m.2.1+n2):=by unfold okM;rw [hy]
     refine ⟨_,rfl,_,rfl,dF,e.2.1,e.1,us,_,rfl,rfl,nw8,fat (TK.of s08),(fr.tk (TK.of s08)).fat FS,nv,_,rfl,_,rfl,_,rfl,dF,b,m.2.2,us,_,rfl,rfl,nw8,fat (TK.of s08),hb.fat FS,hy,_,_,rfl,rfl,_,_,rfl,rfl,_,rfl,a1g (fun c2=>?_) (fun c2=>?_)⟩
     ·refine badM ?_
      rw [okE]
      have:=of_decide_eq_true c2
      exact decide_eq_false (by omega)
     ·refine ⟨rfl,fun m' hm'=>?_,_,_,_,rfl⟩
      rw [List.take_add_one,hmm] at hm'
      rcases List.mem_append.mp hm' with h | h
      ·exact hM m' h
      ·rw [List.mem_singleton.mp (show m'∈[m] from h),okE]
       by_cases y:m.2.1+n2 < a1n e
       ·exact absurd (decide_eq_true y) c2
       ·exact decide_eq_true (by omega)
   ·obtain ⟨rfl,hM,x6,x7,x8,rfl⟩:=hP
    rw [lx,List.take_length] at hM
    refine ⟨s08,s8 _ _ d7,fun e' he'=>?_,_,_,_,_,_,rfl⟩
    rw [List.take_add_one,he] at he'
    rcases List.mem_append.mp he' with h | h
    ·exact hB e' h
    ·rw [List.mem_singleton.mp (show e'∈[e] from h)]
     unfold a2q
     by_cases y:e.1.1=(ws.length:Int)
     ·rw [if_pos y]
      have z:e.1.2=[]:=by
       have:=isr.sk
       exact List.length_eq_zero_iff.mp (by omega)
      exact decide_eq_true (hz z)
     ·rw [if_neg y]
      exact List.all_eq_true.mpr hM
  ·obtain ⟨s7,d7,hB,x4,x5,x6,x7,x8,rfl⟩:=hP
   rw [List.take_length] at hB
   have e2:(us.all fun e=>a2q ps ws us e.1 (a1n e))=true:=List.all_eq_true.mpr hB
   rw [e2] at qq
   exact qq H7 s7
end
end K75
namespace L2
open PySem PySem.Spec PyProof.Rows PySem.W
section
variable {prog:Program} {w:World} {A:Around} {E:Value→Shared→Prop} {s:Shared}
theorem a2R {sl:Addr} {u u0:Tok} {n:Nat} {Q:Int × Int × Nat→Shared→Prop} (hs:s.heap.IsSliceOf sl .none (.int 0 u0) (.int (-1) u)) (h:Q ((n:Int) - 1,-1,n - 1) s):wpAny (model prog w) A (Builtin.Slice.sliceApplied (.ref sl) (pure (n:Int))) Q E s:=by
 obtain ⟨os,hos,hcs,hds⟩:=id hs
 unfold Builtin.Slice.sliceApplied Builtin.Slice.sliceFields
 refine wpAny_bind (wpAny_bind (wpAny_field hos hds (x:=.none) rfl (wpAny_bind (wpAny_field hos hds (x:=.int 0 u0) rfl (wpAny_bind (wpAny_field hos hds (x:=.int (-1) u) rfl (wpAny_pure ?_)))))))
 refine wpAny_bind (HT.a1J (.int (-1) u) ?_)
 show wpAny _ _ (if ((-1:Int) == 0)=true then _ else _) _ _ s
 rw [if_neg (by decide)]
 refine wpAny_bind (HT.a1J .none (wpAny_bind (HT.a1J (.int 0 u0) (wpAny_bind (wpAny_pure ?_)))))
 show wpAny _ _ (match Builtin.Slice.sliceAdjust none (some 0) (-1) (n:Int) with | (lo,hi)=>pure (lo,(-1:Int),Builtin.Slice.slicePlaces lo hi (-1))) _ _ s
 have e1:Builtin.Slice.sliceAdjust none (some 0) (-1) (n:Int)=((n:Int) - 1,min 0 ((n:Int) - 1)):=rfl
 have e2:Builtin.Slice.slicePlaces ((n:Int) - 1) (min 0 ((n:Int) - 1)) (-1)=n - 1:=by
  unfold Builtin.Slice.slicePlaces
  rw [if_neg (by decide)]
  split
  ·rw [show (-(-1:Int))=1 by decide,Int.ediv_one];omega
  ·omega
 rw [e1]
 show wpAny _ _ (pure ((n:Int) - 1,(-1:Int),Builtin.Slice.slicePlaces ((n:Int) - 1) (min 0 ((n:Int) - 1)) (-1))) _ _ s
 rw [e2]
 exact wpAny_pure h
theorem a8O (xs:Array Value):((List.range (xs.size - 1)).filterMap fun (m:Nat)=>xs[(((xs.size:Nat):Int) - 1+(m:Int) * (-1)).toNat]?).toArray=(xs.toList.drop 1).reverse.toArray:=by
 congr 1
 have e:∀ m∈List.range (xs.size - 1),xs[(((xs.size:Nat):Int) - 1+(m:Int) * (-1)).toNat]?=some (xs.getD (xs.size - 1 - m) .none):=fun m hm=>by
  have:=List.mem_range.mp hm
  rw [show (((xs.size:Nat):Int) - 1+(m:Int) * (-1)).toNat=xs.size - 1 - m by omega,Array.getD_eq_getD_getElem?,Array.getElem?_eq_getElem (by omega)]
  rfl
 rw [b0i _ e]
 refine List.ext_getElem? fun k=>?_
 rw [List.getElem?_map]
 by_cases hk:k < xs.size - 1
 ·rw [List.getElem?_range hk,List.getElem?_reverse (by rw [List.length_drop,Array.length_toList];exact hk),List.length_drop,Array.length_toList,List.getElem?_drop,Array.getElem?_toList]
  show some (xs.getD (xs.size - 1 - k) .none)=_
  rw [Array.getD_eq_getD_getElem?,Array.getElem?_eq_getElem (by omega),show 1+(xs.size - 1 - 1 - k)=xs.size - 1 - k by omega,Array.getElem?_eq_getElem (by omega)]
  rfl
 ·rw [List.getElem?_eq_none (by rw [List.length_range];omega),List.getElem?_eq_none (by rw [List.length_reverse,List.length_drop,Array.length_toList];omega)]
  rfl
theorem a2B {t sl:Addr} {items:Array Value} {u u0:Tok} {Q:Value→Shared→Prop} (ht:IsTup s.heap t items) (hs:s.heap.IsSliceOf sl .none (.int 0 u0) (.int (-1) u))
  (h:Q (.ref s.heap.objs.size) { s with heap:=s.heap.push { cls:=.type "tuple",data:=.seq (items.toList.drop 1).reverse.toArray } })
  (hsz:items.size≤sizeLine):wpAny (model prog w) A (getItem (.ref t) (.ref sl)) Q E s:=by
 have htake:sizeOk (.seq (items.toList.drop 1).reverse.toArray):=by
  show (items.toList.drop 1).reverse.toArray.size≤sizeLine
  rw [List.size_toArray,List.length_reverse,List.length_drop,Array.length_toList]
  omega
 obtain ⟨os,hos,hcs,hds⟩:=id hs
 have hTs:s.TypeIs (.ref sl) "slice":=⟨os,hos,hcs⟩
 unfold getItem
 try with_reducible refine wpAny_holding ?_
 first | refine wpAny_bind (wpAny_pure ?_) | skip
 refine wpAny_bind (wpAny_sequenceKey ht.typeIs (by decide) ?_)
 refine wpAny_bind (wpAny_callSpecial?_slot (name:=Str.ofString "__getitem__") ht.typeIs PyProof.Rows.slot_tuple_getitem
  (wpAny_call_entry PyProof.Rows.slot_tuple_getitem ht.typeIs entry_tuple_getitem ?_ (args_tuple_getitem _ _)))
 show wpAny _ _ (Builtin.Tuple.tupleItemsOf (.ref t) >>= _) _ _ s
 refine wpAny_bind (tupleItemsOf_ ht ?_)
 refine wpAny_bind (wpAny_typeOf hTs ?_)
 rw [if_pos (by decide)]
 refine wpAny_bind (a2R hs ?_)
 show wpAny _ _ (if ((((items.size:Nat):Int) - 1) == 0 && (-1:Int) == 1 && (items.size - 1) == items.size)=true then _ else _) _ _ s
 rw [if_neg (by simp),a8O]
 first
  | exact wpAny_bind (m:=Builtin.Tuple.tupleExact _) (wpAny_newObj_type (wpAny_pure ⟨_,rfl,wpAny_pure h⟩) htake)
  | exact wpAny_bind (m:=Builtin.Tuple.tupleExact _) (wpAny_newObj_type (wpAny_bind (wpAny_pure (wpAny_pure ⟨_,rfl,wpAny_pure h⟩))) htake)
  | exact wpAny_bind (wpAny_bind (m:=Builtin.Tuple.tupleExact _) (wpAny_newObj_type (wpAny_pure (wpAny_pure ⟨_,rfl,wpAny_pure h⟩)) htake))
  | exact wpAny_bind (wpAny_bind (m:=Builtin.Tuple.tupleExact _) (wpAny_newObj_type (wpAny_pure ⟨_,rfl,wpAny_pure h⟩) htake))
end
theorem a0A.drop1:∀ {xs:List V} {us:List Value},a0A xs us→a0A (xs.drop 1) (us.drop 1)
 | _,_,.nil=>.nil
 | _,_,.cons _ b=>b
def tRev0 (K:PySem.W.Frag) (te th ts:TE):TE:=fun σ H Q=>te σ H fun x H1=>th σ H1 fun z H2=>ts σ H2 fun y H3=>∃ a xs,x=.ref a∧z=.int 0∧y=.int (-1)∧SqT K H3 a xs∧∀ p H',a0y H3 H'→H' p=some (.tup (xs.drop 1).reverse)→Q (.ref p) H'
theorem b1D {X:Cx} {e hi st:Expr} {p2 pos:Pos} {te th ts:TE} (he:PE X e te) (hh:PE X hi th) (hs:PE X st ts):PE X (.Subscript e (.Slice none (some hi) (some st) p2) pos) (tRev0 X.K te th ts):=by
 intro pins s σ H Q I h
 refine Subscript_ (thn (he pins s σ H _ I h) fun v s1 ⟨x,H1,I1,r1,q1⟩=>?_)
 refine wpAny_Slice ?_
 rw [evalPart_none]
 refine wpAny_pure ?_
 rw [evalPart_some]
 refine thn (hh pins s1 σ H1 _ I1 q1) fun vh s2 ⟨z,H2,I2,r2,q2⟩=>?_
 rw [evalPart_some]
 refine thn (hs pins s2 σ H2 _ I2 q2) fun vs s3 ⟨y,H3,I3,r3,q3⟩=>?_
 obtain ⟨a,xs,rfl,rfl,rfl,hx,q⟩:=q3
 cases r1
 obtain ⟨u0,rfl⟩:=r2
 obtain ⟨u,rfl⟩:=r3
 have I4:Inv X pins σ H3 { s3 with heap:=s3.heap.push { cls:=.type "slice",data:=.fields #[.none,.int 0 u0,.int (-1) u] } }:=I3.kept (t':=s3.toks) fun b ob q=>Heap.get?_push_of_some _ q
 obtain ⟨its,r,ht,hz⟩:=I4.tuple hx
 have hlen:its.toArray.size=xs.length:=by rw [List.size_toArray];exact r.length.symm
 show wpAny (model X.prog X.w) X.A (subscriptTail e (.Slice none (some hi) (some st) p2) (.ref a) (.ref s3.heap.objs.size)) (EP X pins σ Q) X.xe { s3 with heap:=s3.heap.push { cls:=.type "slice",data:=.fields #[.none,.int 0 u0,.int (-1) u] } }
 refine tail_any (ops:=[.ref a,.ref s3.heap.objs.size]) ht.typeIs PyProof.Rows.slot_tuple_getitem.lookup (a2B ht (Heap.IsSliceOf.new ..) ?_ (by rw [hlen];exact hz)) (by with_unfolding_all rfl)
 refine ⟨.ref _,_,I4.laid (t':=s3.toks) (o:=.tup (xs.drop 1).reverse) (fun b ob q=>Heap.get?_push_of_some _ q) (Nat.le_refl _) ?_,rfl,q _ _ (a0c (I4.hok.fresh (Nat.le_refl _)) _) a0b⟩
 exact ⟨by rw [List.length_reverse,List.length_drop];omega,_,a0A.rev (a0A.drop1 r),a3X.new _ _⟩
def rSlQ (K:PySem.W.Frag):V→Option Int→Option Int→Hp→VK→Prop:=fun x lo hi H Q=>∃ a xs,x=.ref a∧SqT K H a xs ∧
 (∀ p H',a0y H H'→H' p=some (.tup (a2G xs lo hi))→Q (.ref p) H')∧(a2G xs lo hi=xs→Q (.ref a) H)
theorem a8P {X:Cx} (K:PySem.W.Frag) (hK:X.K=K:=by rfl):SlR X (rSlQ K):=by
 subst hK
 intro pins s σ H x v vl vu lo hi sl Q I rx hs pl pu h
 obtain ⟨a,xs,rfl,hx,q1,q2⟩:=h
 by_cases hw:HT.sIx xs.length 0 lo=0∧HT.sIx xs.length xs.length hi=xs.length
 ·cases rx
  obtain ⟨its,r,ht,hz⟩:=I.tuple hx
  have hlen:its.toArray.size=xs.length:=by rw [List.size_toArray];exact r.length.symm
  refine ⟨"tuple",_,PyProof.Rows.slot_tuple_getitem.lookup,ht.typeIs,?_⟩
  refine a3q ht hs pl pu (by rw [hlen];exact hw.1) (by rw [hlen];exact hw.2) ⟨.ref a,H,I,rfl,q2 ?_⟩
  unfold a2G
  exact a9Y (n:=0) xs lo hi hw.1 hw.2
 ·exact a7w pins s σ H (.ref a) v vl vu lo hi sl Q I rx hs pl pu ⟨a,xs,rfl,hx,hw,fun p hp=>q1 p _ (a0c hp _) a0b⟩
def rCatQ (K:PySem.W.Frag):R2:=fun x y H Q=>∃ a b xs ys,x=.ref a∧y=.ref b∧SqT K H a xs∧SqT K H b ys∧xs.length+ys.length≤sizeLine ∧
 (∀ p H',a0y H H'→H' p=some (.tup (xs++ys))→Q (.ref p) H')∧(xs=[]→Q (.ref b) H)∧(ys=[]→Q (.ref a) H)
theorem a5F {X:Cx} (K:PySem.W.Frag) (hK:X.K=K:=by rfl):OpR X (binaryOp .Add) (rCatQ K):=by
 subst hK
 intro pins s σ H x y v u Q I rx ry h
 obtain ⟨a,b,xs,ys,rfl,rfl,ha,hb,hz,q,qb,qa⟩:=h
 by_cases hx:xs=[]
 ·subst hx
  cases rx;cases ry
  obtain ⟨its,r1,p1,_⟩:=I.tuple ha
  obtain ⟨its2,r2,p2,_⟩:=I.tuple hb
  have e0:its=[]:=r1.nil_iff.mpr rfl
  subst e0
  obtain ⟨⟨cls,dd,data,sl⟩,ho,hc,n,hd⟩:=id p1
  obtain ⟨⟨cls2,dd2,data2,sl2⟩,ho2,hc2,n2,hd2⟩:=id p2
  simp only at hc hd hc2 hd2
  subst hc hd hc2 hd2
  exact concat_meets ⟨_,ho,rfl⟩ ⟨_,ho2,rfl⟩ noFill_tuple_add seq_tuple_add PySem.F.slot_tuple_add PySem.F.entry_tuple_add (PySem.F.args_tuple_add_2 _ _)
   (tuple_addW0 a b ([]:List Value).toArray its2.toArray n n2 dd dd2 sl sl2 (by simp)) ⟨ho,ho2,⟨.ref b,H,I,rfl,qb rfl⟩⟩
 ·exact a7x pins s σ H (.ref a) (.ref b) v u Q I rx ry ⟨a,b,xs,ys,rfl,rfl,ha,hb,hx,hz,fun z=>qa z,fun _ p hp=>q p _ (a0c hp _) a0b⟩
end L2
namespace K75
open PySem L2
theorem a9Q (xs:List V) (h:xs≠[]):a2G xs none (some (-1))=xs.take (xs.length - 1):=by
 have hl:0 < xs.length:=List.length_pos_iff.mpr h
 have e:HT.sIx xs.length xs.length (some (-1))=xs.length - 1:=by
  show (if (-1:Int) < 0 then ((-1:Int)+(xs.length:Int)).toNat else min (-1:Int).toNat xs.length)=_
  rw [if_pos (by decide)]
  omega
 unfold a2G
 rw [e,HT.a3Z]
 simp
def GsA (bF:Addr) (H:Hp) (gs:List Int) (g:Addr):Prop:=H g=some (.tup (gs.map V.int))∨(gs=[0]∧g=bF)
theorem GsA.same {bF:Addr} {H H':Hp} {gs:List Int} {g:Addr} (s:a0y H H') (h:GsA bF H gs g):GsA bF H' gs g:=h.elim (fun z=>.inl (s _ _ z)) .inr
theorem GsA.sq {K:PySem.W.Frag} {mg:Str→Option Value} {aF bF:Addr} (FS:Fst K mg aF bF) {H:Hp} {gs:List Int} {g:Addr} (h:GsA bF H gs g):SqT K H g (gs.map V.int):=by
 rcases h with z | ⟨rfl,rfl⟩
 ·exact SqT.of z
 ·exact FS.b H
theorem FrA.gs {K:PySem.W.Frag} {mg:Str→Option Value} {aF bF:Addr} (FS:Fst K mg aF bF) {H:Hp} {k:Fr} {a:Addr} (h:FrA aF bF H k a):∃ g,SqT K H a [.int k.1,.ref g]∧GsA bF H k.2 g:=by
 rcases h with ⟨b,h1,h2⟩ | ⟨rfl,rfl⟩
 ·exact ⟨b,SqT.of h1,h2⟩
 ·exact ⟨bF,FS.a H,.inr ⟨rfl,rfl⟩⟩
theorem FrA.mk {aF bF:Addr} {H:Hp} {st:Int} {gs:List Int} {a g:Addr} (h:H a=some (.tup [.int st,.ref g])) (hg:GsA bF H gs g):FrA aF bF H (st,gs) a:=.inl ⟨g,h,hg⟩
section
variable {P:Program} {w:World} {K:PySem.W.Frag} {mg:Str→Option Value} {base:Heap} {f:Addr} {fd:FuncData}
abbrev NOt:List Str:=["frontier","way","cell","settled","gaps"]
abbrev POt:List Str:=["frontier","way","cell"]
def spOt (aF bF:Addr):Sp:=fun vs H Q _=>∃ (a:Addr) (k:Fr) (way c mx:Int),vs=[.ref a,.int way,.int c]∧FrA aF bF H k a∧k.2.length≤90∧0≤mx∧(∀ x∈k.2,x≤mx) ∧
 ∀ (b:Addr) (k':Fr) H',a0y H H'→FrA aF bF H' k' b→k'.2.length≤k.2.length+1→(∀ x∈k'.2,x≤mx+11 * B30)→Q (.ref b) H'
theorem scOt:a0C NOt POt (a0g sLO):=⟨rfl,rfl,rfl,by decide +kernel,rfl,by decide +kernel,by decide +kernel⟩
theorem ndOt:(("gap":Str) :: NOt).Nodup:=by decide +kernel
theorem ok_ot {aF bF:Addr} (F:Fun K "_law_other" "_law_other" sLO f fd) (FS:Fst K mg aF bF) (ml:mg "len"=none) (mt:mg "tuple"=none):a1X P w K mg base CX0 1 f fd POt (spOt aF bF):=by
 refine F.ok (k:=0) scOt (fun vs H Q E h=>?_) (fun cdv A outer s H vs Q E hr h=>?_)
 ·obtain ⟨a,k,way,c,mx,rfl,_⟩:=h
  rfl
 obtain ⟨a,k,way,c,mx,rfl,fr,l90,mx0,bd,qq⟩:=h
 refine ⟨_,a0f (a3j (pv 0) (a3i rfl (a0L (a0E (i:=3) scOt.nd rfl (Or.inl rfl)) (a0L (a0E (i:=4) scOt.nd rfl (Or.inl rfl)) a2m))))
  (a0f (a0J (a0n a0V (pv 1) a0d (nomark _)) (a0i (a0t (a0K (a0a (a0m a0G (pv 3) a0d) (a0a (pv 4) a0e))))) a0s)
  (a0f (a2U (a0J (PW.pt (a4D (a0n a0V (pv 1) a0d (nomark _)) (a3g (a0n a2V (a0j a0h (by rfl) ml PySem.boot_len (a0a (pv 4) a0e)) a0d (nomark _))))) (a0i (a0t (a0K (a0a (pv 3) (a0a (a0m (a5F K) (a1d (a8P K) (pv 4) a1H (a1q (a7o a4G a0d))) (a0K (a0a (a0m a0G (a0m a0G (a0D a1l (pv 4) (a7o a4G a0d) (fun _ _=>rfl)) a0d) (a0m a0N (pv 2) a0d)) a0e))) a0e))))) a0s))
  (a0f (a0J (a0n a0V (pv 1) a0d (nomark _)) (a0i (a0t (a0K (a0a (pv 3) (a0a (a0m (a5F K) (pv 4) (a0K (a0a (a0m a0G (a0m a2T a0d a0d) (a0m a0N (pv 2) a0d)) a0e))) a0e))))) a0s)
  (a0f (a0J (a0n a0V (pv 1) a0d (nomark _)) (a0i (a0t (a0K (a0a (pv 3) (a0a (a0Q a0T (by rfl) mt a2I (a0a (a9i (M:=NOt) rfl (a0o.of (a0g sLO) NOt rfl rfl rfl (by decide +kernel) (by decide +kernel) (by decide +kernel) rfl (by decide +kernel)) ndOt rfl (pv 4) a0S (fun cl C s0 H0 fp=>⟨a1c,a0m a0G (pv 0) a0d⟩)) a0e)) a0e))))) a0s)
  (a0f (a0J (a0n a0V (pv 1) a0d (nomark _)) (a0i (a0t (a0K (a0a (pv 3) (a0a (a0m (a5F K) (a1d (a8P K) (pv 4) a1H (a1q a0d)) (b1D (pv 4) a0d (a7o a4G a0d))) a0e))))) a0s)
  (a0i (a0t (a0K (a0a (a0m a0W (a7o a4G a0d) (pv 3)) (a0a (pv 4) a0e)))))))))),?_⟩
 obtain ⟨g,hf,hg⟩:=fr.gs FS
 have hsq:=hg.sq FS
 have b0:(0:Int)≤B30:=by unfold B30;decide
 have keep:∀ x∈k.2,x≤mx+11 * B30:=fun x hx=>by have:=bd x hx;omega
 have fin:∀ (g':Addr) (gs':List Int) H',a0y H H'→GsA bF H' gs' g'→gs'.length≤k.2.length+1→(∀ x∈gs',x≤mx+11 * B30)→2≤sizeLine∧∀ p,H' p=none→Q (.ref p) (upd H' p (.tup [.int k.1,.ref g'])):=fun g' gs' H' s' hg' l b=>⟨by decide,fun p hp=>qq p (k.1,gs') _ (s'.trans (a0c hp _)) (.mk a0b (hg'.same (a0c hp _))) l b⟩
 refine ⟨_,rfl,a,_,rfl,hf,rfl,_,_,rfl,_,_,rfl,rfl,?_⟩
 refine ⟨_,rfl,rfl,_,rfl,a1g (fun _=>?_) (fun _=>?_)⟩
 ·refine ⟨_,rfl,_,_,rfl,rfl,_,rfl,(by show 2≤sizeLine;decide),fun p hp=>?_⟩
  have s1:=a0c hp (.tup [.int (k.1+1),.ref g])
  exact qq p (k.1+1,k.2) _ s1 (.mk a0b (hg.same s1)) (Nat.le_succ _) keep
 refine ⟨fun σ' H'=>H=H'∧σ'=[some (.ref a),some (.int way),some (.int c),some (.int k.1),some (.ref g)],?_,?_⟩
 ·refine ⟨_,rfl,rfl,_,rfl,a1g (fun _=>?_) (fun _=>⟨rfl,rfl⟩)⟩
  refine ⟨_,rfl,g,_,rfl,.inr hsq,_,_,rfl,rfl,_,rfl,a1g (fun c2=>?_) (fun _=>⟨rfl,rfl⟩)⟩
  have l0:0 < k.2.length:=by
   have:=of_decide_eq_true c2
   rw [List.length_map] at this
   omega
  obtain ⟨gs0,v0,eg⟩:∃ gs0 v0,k.2=gs0++[v0]:=⟨k.2.dropLast,k.2.getLast (List.length_pos_iff.mp l0),(List.dropLast_concat_getLast _).symm⟩
  have e1:a2G (k.2.map V.int) none (some (-1))=gs0.map V.int:=by
   rw [a9Q _ (by rw [eg];simp),eg]
   simp
  have al:atI (k.2.map V.int) (-1)=some (.int v0):=by
   rw [eg,List.map_append]
   exact a9c _ _
  refine ⟨_,rfl,_,rfl,_,rfl,_,rfl,g,_,rfl,hsq,fun p1 H1 s1 hp1=>?_,fun z=>?_⟩
  ·rw [e1] at hp1
   refine ⟨_,rfl,_,rfl,g,_,_,_,rfl,rfl,s1.seqT hsq,al,_,_,rfl,rfl,_,rfl,_,_,rfl,rfl,(by show (0:Int) < _;decide),_,_,rfl,rfl,(by show 1≤sizeLine;decide),fun q hq=>?_⟩
   have vb:v0+1+c % 9≤mx+11 * B30:=by
    have:=bd v0 (by rw [eg];simp)
    have:=Int.emod_lt_of_pos c (show (0:Int) < 9 by decide)
    have:(10:Int)≤B30:=by unfold B30;decide
    omega
   dsimp only
   generalize v0+1+c % 9=v at vb ⊢
   have s2:=a0c hq (.tup [.int v])
   have g2:upd H1 q (.tup [.int v]) q=some (.tup [.int v]):=a0b
   generalize upd H1 q (.tup [.int v])=H2 at s2 g2 ⊢
   have lg:k.2.length=gs0.length+1:=by rw [eg,List.length_append];rfl
   refine ⟨p1,q,_,_,rfl,rfl,SqT.of (s2 _ _ hp1),SqT.of g2,Nat.le_of_lt (a0q (by rw [List.length_map];show gs0.length+1≤1000;omega)),fun p H' s' hp'=>fin p (gs0++[v]) H' ((s1.trans s2).trans s') (.inl (by rw [hp',List.map_append];rfl)) (by rw [List.length_append];show gs0.length+1≤_;omega) (fun x hx=>?_),fun z=>fin q [v] H2 (s1.trans s2) (.inl g2) (by show 1≤_;omega) (fun x hx=>?_),fun z=>by cases z⟩
   ·rcases List.mem_append.mp hx with h | h
    ·exact keep x (by rw [eg];exact List.mem_append_left _ h)
    ·rw [List.mem_singleton.mp h];exact vb
   ·rw [List.mem_singleton.mp hx];exact vb
  ·rw [e1] at z
   have:=congrArg List.length z
   rw [List.length_map,List.length_map,eg,List.length_append] at this
   simp at this
 rintro σ' H' ⟨rfl,rfl⟩
 refine ⟨_,rfl,rfl,_,rfl,a1g (fun _=>?_) (fun _=>?_)⟩
 ·refine ⟨_,rfl,_,rfl,_,_,rfl,rfl,⟨by decide,by decide,by decide⟩,_,rfl,_,_,rfl,rfl,(by show (0:Int) < _;decide),_,_,rfl,rfl,(by show 1≤sizeLine;decide),fun q hq=>?_⟩
  have vb:(10:Int) ^ (31:Int).toNat+c % 9≤mx+11 * B30:=by
   have e1:(10:Int) ^ (31:Int).toNat=10 * B30:=by unfold B30;decide
   have:=Int.emod_lt_of_pos c (show (0:Int) < 9 by decide)
   have:(9:Int)≤B30:=by unfold B30;decide
   rw [e1]
   omega
  dsimp only
  generalize (10:Int) ^ (31:Int).toNat+c % 9=v at vb ⊢
  have s1:=a0c hq (.tup [.int v])
  have g1:upd H q (.tup [.int v]) q=some (.tup [.int v]):=a0b
  generalize upd H q (.tup [.int v])=H1 at s1 g1 ⊢
  refine ⟨g,q,_,_,rfl,rfl,s1.seqT hsq,SqT.of g1,Nat.le_of_lt (a0q (by rw [List.length_map];show k.2.length+1≤1000;omega)),fun p H' s' hp'=>fin p (k.2++[v]) H' (s1.trans s') (.inl (by rw [hp',List.map_append];rfl)) (by rw [List.length_append];exact Nat.le_refl _) (fun x hx=>?_),fun z=>fin q [v] H1 s1 (.inl g1) (by show 1≤_;omega) (fun x hx=>?_),fun z=>by cases z⟩
  ·rcases List.mem_append.mp hx with h | h
   ·exact keep x h
   ·rw [List.mem_singleton.mp h];exact vb
  ·rw [List.mem_singleton.mp hx];exact vb
 refine ⟨_,rfl,rfl,_,rfl,a1g (fun _=>?_) (fun _=>?_)⟩
 ·refine ⟨_,rfl,_,rfl,g,_,rfl,hsq,fun d hd=>?_⟩
  refine ⟨fun i H'=>a0y H H'∧H' d=some (.lst (((k.2.take i).map (·+1)).map V.int)),⟨a0c hd _,a0b⟩,fun i H' _ hP=>hP.1.seqT hsq,fun i x H' hx hP=>?_,fun H' hP=>?_⟩
  ·obtain ⟨s5,hd'⟩:=hP
   have il:=(List.getElem?_eq_some_iff.mp hx).1
   rw [List.length_map] at il
   rw [List.getElem?_map] at hx
   obtain ⟨z,hz,rfl⟩:=Option.map_eq_some_iff.mp hx
   refine a0P ⟨_,rfl,_,_,rfl,rfl,_,hd',?_,a0p hd s5,?_⟩
   ·rw [List.length_map,List.length_map,List.length_take];exact a0q (by omega)
   ·rw [a0b,List.take_add_one,hz,List.map_append,List.map_append];rfl
  ·obtain ⟨s5,hd'⟩:=hP
   rw [List.length_map,List.take_length] at hd'
   refine ⟨d,_,rfl,.inl ⟨SqL.of hd',fun c2 hc2=>?_⟩⟩
   have sB:=a0c hc2 (.tup ((k.2.map (·+1)).map V.int))
   refine fin c2 (k.2.map (·+1)) _ (s5.trans sB) (.inl a0b) (by rw [List.length_map];omega) (fun x hx=>?_)
   obtain ⟨y,hy,rfl⟩:=List.mem_map.mp hx
   have:=bd y hy
   have:(9:Int)≤B30:=by unfold B30;decide
   omega
 refine ⟨_,rfl,rfl,_,rfl,a1g (fun _=>?_) (fun _=>?_)⟩
 ·have e1:a2G (k.2.map V.int) none (some 1)=(k.2.take 1).map V.int:=by
   have:=a4R (k.2.map V.int) 1
   rw [←List.map_take] at this
   exact this
  refine ⟨_,rfl,_,rfl,_,rfl,g,_,rfl,hsq,fun p1 H1 s1 hp1=>?_,fun z=>?_⟩
  ·rw [e1] at hp1
   refine ⟨_,rfl,_,rfl,g,_,rfl,rfl,rfl,s1.seqT hsq,fun p2 H2 s2 hp2=>?_⟩
   have hp2:H2 p2=some (.tup ((k.2.drop 1).reverse.map V.int)):=by rw [hp2,List.map_reverse,List.map_drop]
   have rb:∀ x∈(k.2.drop 1).reverse,x≤mx+11 * B30:=fun x hx=>keep x (List.mem_of_mem_drop (List.mem_reverse.mp hx))
   have tb:∀ x∈k.2.take 1,x≤mx+11 * B30:=fun x hx=>keep x (List.mem_of_mem_take hx)
   have l1:(k.2.take 1).length+(k.2.drop 1).reverse.length=k.2.length:=by rw [List.length_take,List.length_reverse,List.length_drop];omega
   have gA:GsA bF H2 (k.2.take 1) p1:=.inl (s2 _ _ hp1)
   refine ⟨p1,p2,(k.2.take 1).map V.int,(k.2.drop 1).reverse.map V.int,rfl,rfl,gA.sq FS,SqT.of hp2,Nat.le_of_lt (a0q (by rw [List.length_map,List.length_map];omega)),fun p3 H3 s3 hp3=>fin p3 (k.2.take 1++(k.2.drop 1).reverse) H3 ((s1.trans s2).trans s3) (.inl (by rw [hp3,List.map_append])) (by rw [List.length_append];omega) (fun x hx=>(List.mem_append.mp hx).elim (tb x) (rb x)),fun z=>fin p2 _ H2 (s1.trans s2) (.inl hp2) (by omega) rb,fun z=>fin p1 _ H2 (s1.trans s2) gA (by omega) tb⟩
  ·rw [e1] at z
   have z:k.2.take 1=k.2:=by
    have:=congrArg List.length z
    rw [List.length_map,List.length_map] at this
    rw [List.length_take] at this
    exact List.take_of_length_le (by omega)
   refine ⟨_,rfl,_,rfl,g,_,rfl,rfl,rfl,hsq,fun p2 H2 s2 hp2=>?_⟩
   have hp2:H2 p2=some (.tup ((k.2.drop 1).reverse.map V.int)):=by rw [hp2,List.map_reverse,List.map_drop]
   have rb:∀ x∈(k.2.drop 1).reverse,x≤mx+11 * B30:=fun x hx=>keep x (List.mem_of_mem_drop (List.mem_reverse.mp hx))
   have tb:∀ x∈k.2.take 1,x≤mx+11 * B30:=fun x hx=>keep x (List.mem_of_mem_take hx)
   have l1:(k.2.take 1).length+(k.2.drop 1).reverse.length=k.2.length:=by rw [List.length_take,List.length_reverse,List.length_drop];omega
   have gA:GsA bF H2 (k.2.take 1) g:=(by rw [z];exact hg.same s2)
   refine ⟨g,p2,(k.2.take 1).map V.int,(k.2.drop 1).reverse.map V.int,rfl,rfl,gA.sq FS,SqT.of hp2,Nat.le_of_lt (a0q (by rw [List.length_map,List.length_map];omega)),fun p3 H3 s3 hp3=>fin p3 (k.2.take 1++(k.2.drop 1).reverse) H3 (s2.trans s3) (.inl (by rw [hp3,List.map_append])) (by rw [List.length_append];omega) (fun x hx=>(List.mem_append.mp hx).elim (tb x) (rb x)),fun z=>fin p2 _ H2 s2 (.inl hp2) (by omega) rb,fun z=>fin g _ H2 s2 gA (by omega) tb⟩
 ·refine ⟨_,rfl,_,rfl,_,_,rfl,rfl,_,rfl,(by show 2≤sizeLine;decide),fun p hp=>?_⟩
  have s1:=a0c hp (.tup [.int (-1 - k.1),.ref g])
  exact qq p (-1 - k.1,k.2) _ s1 (.mk a0b (hg.same s1)) (Nat.le_succ _) keep
end
end K75
namespace L2
open PySem PySem.Spec PyProof.Rows
def rInsL:V→List V→Hp→VK→Prop:=fun x vs H Q=>∃ (l:Addr) (xs:List V) (k:Nat) (y:V),x=.ref l∧vs=[.int k,y]∧H l=some (.lst xs)∧k≤xs.length∧xs.length < 5000∧Q .non (upd H l (.lst (xs.take k++y :: xs.drop k)))
theorem a7f {X:Cx}:MtM X "list.insert" rInsL:=by
 intro pins s σ H x vs v us Q I rx rv h
 obtain ⟨l,xs,k,y,rfl,rfl,hH,hk,hz,q⟩:=h
 cases rx
 obtain ⟨u,u2,rfl,ru,ru2⟩:=rv.two
 obtain ⟨t,rfl⟩:=ru
 obtain ⟨z,its,n,r,hl,e⟩:=I.lstM hH
 have li:xs.length=its.length:=r.length
 have hs:xs.length+1 < sizeLine:=Nat.lt_of_lt_of_le (show xs.length+1 < 5001 by omega) (by decide)
 obtain ⟨i,hi⟩:∃ i:Int,i=(k:Int):=⟨_,rfl⟩
 rw [←hi]
 have fe:Builtin.List.listFitsIndex i=true:=by
  unfold Builtin.List.listFitsIndex
  rw [Bool.and_eq_true]
  exact ⟨decide_eq_true (by omega),decide_eq_true (by omega)⟩
 have fe':¬ (!Builtin.List.listFitsIndex i)=true:=by rw [fe];exact Bool.false_ne_true
 have sz:its.toArray.size≤sizeLine:=by rw [List.size_toArray];omega
 have M:=AutoSeq1.list_insert_list_int_val_1 l its.toArray n i t u2 fe' sz
 refine call_meets F.slot_list_insert ⟨_,e,rfl⟩ F.entry_list_insert (F.args_list_insert_3 _ _ _) M ⟨e,?_⟩
 refine ⟨.non,_,I.lset (its':=its.take k++u2 :: its.drop k) hH e ?_ ((r.take k).append (.cons ru2 (r.drop k))) ?_,rfl,q⟩
 ·show (its.toArray.extract 0 (if i < 0 then (i+(its.toArray.size:Int)).toNat else min i.toNat its.toArray.size)).push u2++its.toArray.extract (if i < 0 then (i+(its.toArray.size:Int)).toNat else min i.toNat its.toArray.size)=_
  have ei:i.toNat=k:=by omega
  have en:¬ i < 0:=by omega
  rw [if_neg en,ei,List.size_toArray,Nat.min_eq_left (by omega)]
  exact b1f its u2 k (by omega)
 ·rw [List.length_append,List.length_cons,List.length_take,List.length_drop];omega
theorem a9R {X:Cx} (K:PySem.W.Frag) (hc:X.calm=true) (hu:X.A.units+10 < cLine) (hK:X.K=K:=by rfl):a2g X (.builtin "sorted") (a8v K):=by subst hK;exact a9F hc hu
theorem a6r {X:Cx} (K:PySem.W.Frag) (hu:X.A.units+6 < cLine) (hK:X.K=K:=by rfl):OpR X (compareOp .Eq) (b0l K):=by subst hK;exact a9D hu
theorem a5G {α β:Type} {R:α→β→Prop} {xs ys:List α} (h:xs.Perm ys):∀ {us:List β},Paired R ys us→∃ vs,Paired R xs vs∧vs.Perm us:=by
 induction h with
 | nil=>exact fun p=>⟨_,p,.refl _⟩
 | cons x h ih =>
  intro us p
  cases p with
  | cons r p =>
   obtain ⟨vs,p',e⟩:=ih p
   exact ⟨_ :: vs,.cons r p',.cons _ e⟩
 | swap x y l =>
  intro us p
  cases p with
  | cons r p =>
   cases p with
   | cons r2 p=>exact ⟨_,.cons r2 (.cons r p),.swap _ _ _⟩
 | trans h1 h2 ih1 ih2 =>
  intro us p
  obtain ⟨vs,p1,e1⟩:=ih2 p
  obtain ⟨zs,p2,e2⟩:=ih1 p1
  exact ⟨zs,p2,e2.trans e1⟩
end L2
namespace K75
open PySem L2
theorem setP {α β:Type} {R:α→β→Prop} {x:α} {u:β} (r:R x u):∀ {xs:List α} {us:List β} (j:Nat),Paired R xs us→Paired R (xs.set j x) (us.set j u)
 | _,_,_,.nil=>.nil
 | _,_,0,.cons _ p=>.cons r p
 | _,_,j+1,.cons q p=>.cons q (setP r j p)
theorem a0M {H H':Hp} {xs:List V} {us:List FE} (t:TK H H') (h:Paired (IPr H) xs us):Paired (IPr H') xs us:=Paired.mapP h fun _ _ ⟨a,e,ha⟩=>⟨a,e,t _ _ ha⟩
def OkE (aF bF:Addr) (H:Hp) (mx:Int) (L:Nat) (p:FE):Prop:=FrA aF bF H p.1 p.2.1∧(∃ n,p.2.2=.int n)∧p.1.2.length≤L∧∀ x∈p.1.2,x≤mx
def AnB (aF bF:Addr) (H:Hp) (us:List FE) (mx:Int) (L:Nat):Prop:=∀ p∈us,OkE aF bF H mx L p
theorem OkE.tk {aF bF:Addr} {H H':Hp} {p:FE} {mx:Int} {L:Nat} (t:TK H H') (h:OkE aF bF H mx L p):OkE aF bF H' mx L p:=⟨h.1.tk t,h.2⟩
theorem AnB.tk {aF bF:Addr} {H H':Hp} {us:List FE} {mx:Int} {L:Nat} (t:TK H H') (h:AnB aF bF H us mx L):AnB aF bF H' us mx L:=fun p hp=>(h p hp).tk t
theorem AnB.up {aF bF:Addr} {H:Hp} {us:List FE} {mx:Int} {L:Nat} (h:AnB aF bF H us mx L):AnB aF bF H us (mx+11 * B30) (L+1):=fun p hp=>⟨(h p hp).1,(h p hp).2.1,Nat.le_succ_of_le (h p hp).2.2.1,fun x hx=>by
 have:=(h p hp).2.2.2 x hx
 have:(0:Int)≤B30:=by unfold B30;decide
 omega⟩
theorem a5d {K:PySem.W.Frag} {mg:Str→Option Value} {aF bF:Addr} (FS:Fst K mg aF bF) {mx:Int} {L:Nat} {H:Hp}:∀ {xs:List V} {us:List FE},Paired (IPr H) xs us→AnB aF bF H us mx L→Paired (RIt K H) xs (us.map fun e=>(e.1,a1n e))
 | _,_,.nil,_=>.nil
 | _,_,.cons (b:=e) ⟨t,et,ht⟩ r,h=>.cons ⟨t,_,et,by
   obtain ⟨n,en⟩:=(h _ (.head _)).2.1
   show _=some (HO.tup [.ref e.2.1,.int (a1n e)])
   unfold a1n
   rw [en] at ht ⊢
   exact ht,((h _ (.head _)).1).fat FS⟩ (a5d FS r fun p hp=>h p (.tail _ hp))
theorem grow {aF bF:Addr} {H:Hp} {d q a:Addr} {zs:List V} {us:List FE} {mx:Int} {L:Nat} {k:Fr} {n:Int} (hd:H d=some (.lst zs)) (hq:H q=none) (pr:Paired (IPr H) zs us) (an:AnB aF bF H us mx L) (ok:OkE aF bF H mx L (k,a,.int n)) :
  ∃ us',Paired (IPr (upd (upd H q (.tup [.ref a,.int n])) d (.lst (zs++[.ref q])))) (zs++[.ref q]) us'∧us'.length=us.length+1∧AnB aF bF (upd (upd H q (.tup [.ref a,.int n])) d (.lst (zs++[.ref q]))) us' mx L:=by
 have nd:q≠d:=fun z=>by rw [z,hd] at hq;cases hq
 have t1:TK H (upd H q (.tup [.ref a,.int n])):=TK.of (a0c hq _)
 have t2:TK H (upd (upd H q (.tup [.ref a,.int n])) d (.lst (zs++[.ref q]))):=t1.trans (TK.upd (a0c hq (.tup [.ref a,.int n]) _ _ hd))
 refine ⟨us++[(k,a,.int n)],Paired.appendP (a0M t2 pr) (Paired.oneP ⟨q,rfl,by rw [a0r nd];exact a0b⟩),by simp,fun p hp=>?_⟩
 rcases List.mem_append.mp hp with h | h
 ·exact (an p h).tk t2
 ·rw [List.mem_singleton.mp h]
  exact ok.tk t2
theorem AnB.setE {aF bF:Addr} {H:Hp} {us:List FE} {mx:Int} {L j:Nat} {u:FE} (h:AnB aF bF H us mx L) (ok:OkE aF bF H mx L u):AnB aF bF H (us.set j u) mx L:=fun p hp=>by
 rcases List.mem_or_eq_of_mem_set hp with z | z
 ·exact h p z
 ·rw [z];exact ok
theorem a6s {H H':Hp} {d:Addr} (s:a0y H H') (h:H' d=none):H d=none:=by
 cases e:H d with
 | none=>rfl
 | some o=>rw [s _ _ e] at h;cases h
theorem at_j {α:Type} {xs:List α} {j:Nat} (h:j < xs.length):ixN xs.length (j:Int)=some j:=by
 unfold ixN
 rw [if_pos (by omega),if_pos (by omega)]
 rfl
section
variable {P:Program} {w:World} {K:PySem.W.Frag} {mg:Str→Option Value} {base:Heap} {f:Addr} {fd:FuncData}
abbrev NCh:List Str:=["told","cell","made","way","at","rest","frontier","floor"]
abbrev PCh:List Str:=["told","cell"]
def spCh (aF bF:Addr):Sp:=fun vs H Q _=>∃ (l:Addr) (c mx:Int) (L:Nat) (out:List V) (us:List FE),vs=[.ref l,.int c]∧H l=some (.lst out)∧Paired (IPr H) out us∧AnB aF bF H us mx L∧L≤90∧0≤mx∧us.length≤4900 ∧
 ∀ (b:Addr) out' us' H',a0y H H'→H b=none→H' b=some (.lst out')→Paired (IPr H') out' us'→AnB aF bF H' us' (mx+11 * B30) (L+1)→us'.length≤us.length+1→Q (.ref b) H'
theorem a8Q:a0C NCh PCh (a0g sLC):=⟨rfl,rfl,rfl,by decide +kernel,rfl,by decide +kernel,by decide +kernel⟩
theorem ndCh:(("pair":Str) :: NCh).Nodup:=by decide +kernel
theorem ok_ch {aF bF:Addr} (F:Fun K "_law_changed" "_law_changed" sLC f fd) (FS:Fst K mg aF bF) (GO:Fns P w K mg base POt "_law_other" (spOt aF bF) 1) (ml:mg "len"=none) (mL:mg "list"=none) (mS:mg "sorted"=none):a1X P w K mg base CX0 2 f fd PCh (spCh aF bF):=by
 refine F.ok (k:=1) a8Q (fun vs H Q E h=>?_) (fun cdv A outer s H vs Q E hr h=>?_)
 ·obtain ⟨l,c,mx,L,out,us,rfl,_⟩:=h
  rfl
 obtain ⟨l,c,mx,L,out,us,rfl,hl,pr,an,l90,mx0,le,qq⟩:=h
 have hu10:(a5O CX0 P w K mg base NCh "_law_changed" (a0g sLC) f cdv A outer s H E).nox.A.units+10 < cLine:=by
  have:=hr.un
  exact Nat.lt_of_le_of_lt (Nat.add_le_add_left (show 10≤16 * 1+200 by decide) _) this
 have hu6:(a5O CX0 P w K mg base NCh "_law_changed" (a0g sLC) f cdv A outer s H E).nox.A.units+6 < cLine:=Nat.lt_of_le_of_lt (Nat.add_le_add_left (by decide) _) hu10
 refine ⟨_,a0f (a0u (i:=2) a8Q.nd rfl (Or.inl rfl) (a0Q a1m (by rfl) mL a4Q (a0a (pv 0) (a0e))))
   (a0f (a0J (a0n (a6r K hu6) (pv 2) (a1T (a0e)) (nomark _)) (a0i (a0t (pv 2))) (a0s))
   (a0f (a0u (i:=3) a8Q.nd rfl (Or.inl rfl) (a0m a0N (pv 1) (a0d)))
   (a0f (a0u (i:=4) a8Q.nd rfl (Or.inl rfl) (a0m a0N (a0m a1z (pv 1) (a0d)) (a0j a0h (by rfl) ml PySem.boot_len (a0a (pv 2) (a0e)))))
   (a0f (a0u (i:=5) a8Q.nd rfl (Or.inr rfl) (a0m a1z (a0m a1z (pv 1) (a0d)) (a0j a0h (by rfl) ml PySem.boot_len (a0a (pv 2) (a0e)))))
   (a0f (a3j (a0D a1a (pv 2) (pv 4) (fun _ _=>rfl)) (a3i rfl (a0L (a0E (i:=6) a8Q.nd rfl (Or.inl rfl)) (a0L (a0E (i:=7) a8Q.nd rfl (Or.inl rfl)) (a2m)))))
   (a0f (a2U (a0J (a0n a8Y (pv 3) (a0d) (nomark _)) (a0i (a3j (a0K (a0a (pv 6) (a0a (a0m a0G (pv 7) (a0D a1a (a1T (a0a (a0d) (a0a (a7o a4G a0d) (a0a (a0m a0W (a0m a0N (pv 5) (a0m a2T a0d a0d)) (a0m op_mul (a0d) (a0m a2T a0d a0d))) (a0e))))) (pv 3) (fun _ _=>rfl))) (a0e)))) (a5L (pv 2) (pv 4) a2Z))) (a0i (a0J (a0n a0V (pv 3) (a0d) (nomark _)) (a0i (a6a (i:=2) (M:=NCh) a8Q.nd rfl rfl rfl (a0o.of (a0g sLC) NCh rfl rfl rfl (by decide +kernel) (by decide +kernel) (by decide +kernel) rfl (by decide +kernel)) ndCh rfl (pv 2) a0S
   (fun cl C s0 H0 fp=>⟨a1c,a0K (a0a (a0D (ixT K) (pv 0) (a0d) (fun _ _=>rfl)) (a0a (a0m a0W (a0D (ixT K) (pv 0) (a0d) (fun _ _=>rfl)) (a0m a0N (pv 6) (a0d))) (a0e)))⟩))) (a0i (a0J (a0n a0V (pv 3) (a0d) (nomark _)) (a0i (a6a (i:=2) (M:=NCh) a8Q.nd rfl rfl rfl (a0o.of (a0g sLC) NCh rfl rfl rfl (by decide +kernel) (by decide +kernel) (by decide +kernel) rfl (by decide +kernel)) ndCh rfl (pv 2) a0S
   (fun cl C s0 H0 fp=>⟨a1c,a0K (a0a (a0D (ixT K) (pv 0) (a0d) (fun _ _=>rfl)) (a0a (a0d) (a0e)))⟩))) (a0i (a0J (a0n a0V (pv 3) (a0d) (nomark _)) (a0i (a1y (a4b PySem.F.plainAttrs_list PySem.F.slot_list_pop PySem.F.type_list_pop a9d (pv 2) (a0a (pv 4) (a0e))))) (a0i (a0J (a0n a0V (pv 3) (a0d) (nomark _)) (a0i (a1y (a4b PySem.F.plainAttrs_list PySem.F.slot_list_insert PySem.F.type_list_insert a7f (pv 2) (a0a (pv 4) (a0a (a0D a1a (pv 2) (a0m a0N (pv 5) (a0j a0h (by rfl) ml PySem.boot_len (a0a (pv 2) (a0e)))) (fun _ _=>rfl)) (a0e)))))) (a0i (a0J (a0n a0V (pv 3) (a0d) (nomark _)) (a0i (a3j (a0K (a0a (a0D a1a (pv 2) (a0m a0W (pv 4) (a0d)) (fun _ _=>rfl)) (a0a (a0D a1a (pv 2) (pv 4) (fun _ _=>rfl)) (a0e)))) (a3i rfl (a0L (a5L (pv 2) (pv 4) a2Z) (a0L (a5L (pv 2) (a0m a0W (pv 4) (a0d)) a2Z) a2m))))) (a0i (a0J (a0n a0V (pv 3) (a0d) (nomark _)) (a0i (a3j (a0K (a0a (a0v GO.ok hr (by rfl) GO.m GO.kp GO.b .nil a1b (a0a (pv 6) (a0a (a0m a0N (pv 5) (a0d)) (a0a (a0m a1z (pv 5) (a0d)) (a0e))))) (a0a (pv 7) (a0e)))) (a5L (pv 2) (pv 4) a2Z))) (a0i (a0J (a0n a0V (pv 3) (a0d) (nomark _)) (a0i (a0u (i:=2) a8Q.nd rfl (Or.inl rfl) (a0j (a9R K rfl hu10) (by rfl) mS a0Y (a0a (a0m a7A (pv 2) (a1T (a0a (a0K (a0a (a0v GO.ok hr (by rfl) GO.m GO.kp GO.b .nil a1b (a0a (pv 6) (a0a (a0m a0N (pv 5) (a0d)) (a0a (a0m a1z (pv 5) (a0d)) (a0e))))) (a0a (a0m a0W (a0m a0W (pv 7) (a0d)) (a0m a0N (pv 5) (a0m a2T a0d a0d))) (a0e)))) (a0e)))) (a0e))))) (a0i (a0J (a0n a0V (a0m a0N (pv 5) (a0d)) (a0d) (nomark _)) (a0i (a0u (i:=2) a8Q.nd rfl (Or.inl rfl) (a1T (a0e)))) (a0s)))))))))))))))))))
   (a0i (a0t (pv 2))))))))),?_⟩
 have lo:out.length=us.length:=pr.length
 refine ⟨_,rfl,l,out,rfl,.inl (SqL.of hl),fun b hb=>?_⟩
 have s1:=a0c hb (.lst out)
 have g1:upd H b (.lst out) b=some (.lst out):=a0b
 generalize upd H b (.lst out)=H0 at s1 g1 ⊢
 refine ⟨_,rfl,(by show 0≤sizeLine;decide),fun e0 he0=>?_⟩
 have s2:=a0c he0 (.lst [])
 have g2:upd H0 e0 (.lst []) e0=some (.lst []):=a0b
 generalize upd H0 e0 (.lst [])=H1 at s2 g2 ⊢
 have sA:=s1.trans s2
 have gA:=s2 _ _ g1
 have prA:Paired (IPr H1) out us:=a0M (TK.of sA) pr
 have anA:AnB aF bF H1 us mx L:=an.tk (TK.of sA)
 clear s1 s2 g1
 refine ⟨b,e0,_,_,_,[],rfl,rfl,gA,g2,a5d FS prA anA,.nil,_,rfl,a1g (fun z=>?_) (fun z=>?_)⟩
 ·exact ⟨_,rfl,qq b out us H1 sA hb gA prA anA.up (by omega)⟩
 have ne:0 < out.length:=by
  rcases Nat.eq_zero_or_pos out.length with y | y
  ·exfalso
   refine z (decide_eq_true ?_)
   rw [List.length_eq_zero_iff.mp (show us.length=0 by omega)]
   rfl
  ·exact y
 clear z g2
 refine ⟨_,rfl,_,_,rfl,rfl,(by show (0:Int) < _;decide),?_⟩
 refine ⟨_,rfl,_,_,rfl,rfl,⟨by decide,by decide⟩,_,rfl,b,_,rfl,.inl (SqL.of gA),_,_,rfl,rfl,(by show (0:Int) < _;omega),?_⟩
 refine ⟨_,rfl,_,_,rfl,rfl,⟨by decide,by decide⟩,_,rfl,b,_,rfl,.inl (SqL.of gA),_,_,rfl,rfl,(by show (0:Int) < _∧_ < _;omega),?_⟩
 dsimp only
 obtain ⟨j,ej,hj⟩:∃ j:Nat,c / 11 % (out.length:Int)=j∧j < out.length:=by
  have h1:=Int.emod_nonneg (c / 11) (show (out.length:Int)≠0 by omega)
  have h2:=Int.emod_lt_of_pos (c / 11) (show 0 < (out.length:Int) by omega)
  exact ⟨(c / 11 % (out.length:Int)).toNat,by omega,by omega⟩
 rw [ej]
 have w0:=Int.emod_nonneg c (show (11:Int)≠0 by decide)
 generalize c % 11=way at w0 ⊢
 generalize c / 11 / (out.length:Int)=rest
 clear ej
 obtain ⟨e,he,t,et,ht⟩:=Paired.right_of prA j _ (List.getElem?_eq_getElem hj)
 have em:e∈us:=List.mem_of_getElem? he
 obtain ⟨fr,⟨n,en⟩,el,eb⟩:=anA e em
 rw [en] at ht
 have aj:atI out (j:Int)=some (.ref t):=a2H (by rw [List.getElem?_eq_getElem hj,et])
 refine ⟨_,rfl,_,rfl,b,_,_,_,rfl,rfl,SqL.of gA,aj,t,_,rfl,SqT.of ht,rfl,_,_,rfl,_,_,rfl,rfl,?_⟩
 refine ⟨fun σ' H'=>∃ b' out' us',σ'=[some (.ref l),some (.int c),some (.ref b'),some (.int way),some (.int j),some (.int rest),some (.ref e.2.1),some (.int n)]∧a0y H H'∧H b'=none∧H' b'=some (.lst out')∧Paired (IPr H') out' us'∧AnB aF bF H' us' (mx+11 * B30) (L+1)∧us'.length≤us.length+1,?_,?_⟩
 case' refine_2 =>
  rintro σ' H' ⟨b',out',us',rfl,h1,h2,h3,h4,h5,h6⟩
  exact ⟨_,rfl,qq b' out' us' H' h1 h2 h3 h4 h5 h6⟩
 have put:∀ (Hc:Hp) (out':List V) (us':List FE),a0y H1 Hc→Paired (IPr Hc) out' us'→AnB aF bF Hc us' (mx+11 * B30) (L+1)→us'.length≤us.length+1→∃ b' out'' us'',[some (V.ref l),some (.int c),some (.ref b),some (.int way),some (.int j),some (.int rest),some (.ref e.2.1),some (.int n)]=[some (V.ref l),some (.int c),some (.ref b'),some (.int way),some (.int j),some (.int rest),some (.ref e.2.1),some (.int n)]∧a0y H (upd Hc b (.lst out'))∧H b'=none∧upd Hc b (.lst out') b'=some (.lst out'')∧Paired (IPr (upd Hc b (.lst out'))) out'' us''∧AnB aF bF (upd Hc b (.lst out')) us'' (mx+11 * B30) (L+1)∧us''.length≤us.length+1:=fun Hc out' us' s5 h4 h5 h6 =>
  ⟨b,out',us',rfl,a0p hb (sA.trans s5),hb,a0b,a0M (TK.upd (s5 _ _ gA)) h4,h5.tk (TK.upd (s5 _ _ gA)),h6⟩
 refine ⟨_,rfl,_,_,rfl,rfl,_,rfl,a1g (fun c3=>?_) (fun _=>?_)⟩
 ·obtain ⟨y,hy⟩:∃ y,atI [V.int 1,.int (-1),.int (rest % 10 ^ (40:Int).toNat - 5 * 10 ^ (39:Int).toNat)] way=some (.int y):=by
   have:way < 3:=of_decide_eq_true c3
   have h:way=0∨way=1∨way=2:=by omega
   rcases h with h | h | h <;> rw [h] <;> exact ⟨_,rfl⟩
  refine ⟨_,rfl,_,rfl,_,rfl,_,rfl,_,_,rfl,rfl,⟨by decide,by decide,by decide⟩,_,_,rfl,rfl,(by show (0:Int) < _;decide),_,_,rfl,rfl,⟨by decide,by decide,by decide⟩,_,_,rfl,rfl,.inl ⟨by decide,by decide⟩,_,_,rfl,rfl,(by show 3≤sizeLine;decide),fun o1 ho1=>?_⟩
  have s3:=a0c ho1 (.lst [V.int 1,.int (-1),.int (rest % 10 ^ (40:Int).toNat - 5 * 10 ^ (39:Int).toNat)])
  have g3:upd H1 o1 (.lst [V.int 1,.int (-1),.int (rest % 10 ^ (40:Int).toNat - 5 * 10 ^ (39:Int).toNat)]) o1=some (.lst [V.int 1,.int (-1),.int (rest % 10 ^ (40:Int).toNat - 5 * 10 ^ (39:Int).toNat)]):=a0b
  refine ⟨_,rfl,o1,_,_,_,rfl,rfl,SqL.of g3,hy,_,_,rfl,rfl,(by show 2≤sizeLine;decide),fun q hq=>?_⟩
  have s4:=s3.trans (a0c hq (.tup [.ref e.2.1,.int (n+y)]))
  exact ⟨_,rfl,_,rfl,b,_,_,_,rfl,rfl,s4 _ _ gA,at_j hj,put _ (out.set j (.ref q)) (us.set j (e.1,e.2.1,.int (n+y))) s4 (setP ⟨q,rfl,a0b⟩ j (a0M (TK.of s4) prA)) (AnB.setE (anA.up.tk (TK.of s4)) ((show OkE aF bF _ (mx+11 * B30) (L+1) (e.1,e.2.1,.int (n+y)) from ⟨(anA.up e em).1,⟨_,rfl⟩,(anA.up e em).2.2⟩).tk (TK.of s4))) (by rw [List.length_set];omega)⟩
 refine ⟨_,rfl,rfl,_,rfl,a1g (fun _=>?_) (fun _=>?_)⟩
 ·refine ⟨_,rfl,b,out,rfl,SqL.of gA,fun d hd=>?_⟩
  refine ⟨fun i H'=>a0y H1 H'∧∃ zs us',H' d=some (.lst zs)∧Paired (IPr H') zs us'∧us'.length=i∧AnB aF bF H' us' mx L,⟨a0c hd _,[],[],a0b,.nil,rfl,fun p hp=>by cases hp⟩,fun i H' _ hP=>SqL.of (hP.1 _ _ gA),fun i x H' hx hP=>?_,fun H' hP=>?_⟩
  ·obtain ⟨s3,zs,us',hz,pz,lz,az⟩:=hP
   obtain ⟨e',he',t',rfl,ht'⟩:=Paired.right_of prA i x hx
   obtain ⟨fr',⟨n',en'⟩,el',eb'⟩:=anA e' (List.mem_of_getElem? he')
   have il:=(List.getElem?_eq_some_iff.mp he').1
   rw [en'] at ht'
   refine a0P ⟨_,rfl,t',_,_,_,rfl,rfl,SqT.of (s3 _ _ ht'),(rfl:atI [V.ref e'.2.1,.int n'] 0=_),_,rfl,t',_,_,_,rfl,rfl,SqT.of (s3 _ _ ht'),(rfl:atI [V.ref e'.2.1,.int n'] 1=_),_,rfl,_,_,rfl,rfl,(by show (0:Int) < _;decide),_,_,rfl,rfl,(by show 2≤sizeLine;decide),fun q hq=>?_⟩
   obtain ⟨us2,p2,l2,a2⟩:=grow (k:=e'.1) (n:=n' - rest % 3) hz hq pz az ⟨fr'.tk (TK.of s3),⟨_,rfl⟩,el',eb'⟩
   have lq:zs.length=us'.length:=pz.length
   exact ⟨_,a0c hq _ _ _ hz,a1o (by omega),a0p hd (s3.trans (a0c hq _)),_,us2,a0b,p2,by omega,a2⟩
  ·obtain ⟨s3,zs,us',hz,pz,lz,az⟩:=hP
   exact ⟨d,zs,us',rfl,sA.trans s3,a6s sA hd,hz,pz,az.up,by omega⟩
 refine ⟨_,rfl,rfl,_,rfl,a1g (fun _=>?_) (fun _=>?_)⟩
 ·refine ⟨_,rfl,b,out,rfl,SqL.of gA,fun d hd=>?_⟩
  refine ⟨fun i H'=>a0y H1 H'∧∃ zs us',H' d=some (.lst zs)∧Paired (IPr H') zs us'∧us'.length=i∧AnB aF bF H' us' mx L,⟨a0c hd _,[],[],a0b,.nil,rfl,fun p hp=>by cases hp⟩,fun i H' _ hP=>SqL.of (hP.1 _ _ gA),fun i x H' hx hP=>?_,fun H' hP=>?_⟩
  ·obtain ⟨s3,zs,us',hz,pz,lz,az⟩:=hP
   obtain ⟨e',he',t',rfl,ht'⟩:=Paired.right_of prA i x hx
   obtain ⟨fr',⟨n',en'⟩,el',eb'⟩:=anA e' (List.mem_of_getElem? he')
   have il:=(List.getElem?_eq_some_iff.mp he').1
   rw [en'] at ht'
   refine a0P ⟨_,rfl,t',_,_,_,rfl,rfl,SqT.of (s3 _ _ ht'),(rfl:atI [V.ref e'.2.1,.int n'] 0=_),(by show 2≤sizeLine;decide),fun q hq=>?_⟩
   obtain ⟨us2,p2,l2,a2⟩:=grow (k:=e'.1) (n:=0) hz hq pz az ⟨fr'.tk (TK.of s3),⟨_,rfl⟩,el',eb'⟩
   have lq:zs.length=us'.length:=pz.length
   exact ⟨_,a0c hq _ _ _ hz,a1o (by omega),a0p hd (s3.trans (a0c hq _)),_,us2,a0b,p2,by omega,a2⟩
  ·obtain ⟨s3,zs,us',hz,pz,lz,az⟩:=hP
   exact ⟨d,zs,us',rfl,sA.trans s3,a6s sA hd,hz,pz,az.up,by omega⟩
 refine ⟨_,rfl,rfl,_,rfl,a1g (fun _=>?_) (fun _=>?_)⟩
 ·refine ⟨_,rfl,.inl ⟨rfl,_,SqL.of gA⟩,_,rfl,b,out,j,j,_,rfl,rfl,gA,by omega,by omega,(a5m (at_j hj)).1,List.getElem?_eq_getElem hj,?_⟩
  exact put H1 (out.eraseIdx j) (us.eraseIdx j) (fun _ _ z=>z) (Paired.eraseP j prA) (fun p hp=>anA.up p (List.mem_of_mem_eraseIdx hp)) (by rw [List.length_eraseIdx];split <;> omega)
 refine ⟨_,rfl,rfl,_,rfl,a1g (fun _=>?_) (fun _=>?_)⟩
 ·obtain ⟨i,ei,hi⟩:∃ i:Nat,rest % (out.length:Int)=i∧i < out.length:=by
   have h1:=Int.emod_nonneg rest (show (out.length:Int)≠0 by omega)
   have h2:=Int.emod_lt_of_pos rest (show 0 < (out.length:Int) by omega)
   exact ⟨(rest % (out.length:Int)).toNat,by omega,by omega⟩
  have ai:atI out (rest % (out.length:Int))=some out[i]:=by rw [ei];exact a2H (List.getElem?_eq_getElem hi)
  obtain ⟨u,hu,ru⟩:=Paired.right_of prA i _ (List.getElem?_eq_getElem hi)
  refine ⟨_,rfl,.inl ⟨rfl,_,SqL.of gA⟩,_,rfl,_,rfl,_,rfl,_,rfl,b,_,rfl,.inl (SqL.of gA),_,_,rfl,rfl,(by show (0:Int) < _;omega),b,_,_,_,rfl,rfl,SqL.of gA,ai,b,out,j,_,rfl,rfl,gA,by omega,by omega,?_⟩
  refine put H1 (out.take j++out[i] :: out.drop j) (us.take j++u :: us.drop j) (fun _ _ z=>z) (Paired.appendP (Paired.takeP j prA) (.cons ru (Paired.dropP j prA))) (fun p hp=>anA.up p ?_) ?_
  ·rcases List.mem_append.mp hp with z | z
   ·exact List.mem_of_mem_take z
   ·rcases List.mem_cons.mp z with z | z
    ·rw [z];exact List.mem_of_getElem? hu
    ·exact List.mem_of_mem_drop z
  ·rw [List.length_append,List.length_cons,List.length_take,List.length_drop];omega
 refine ⟨_,rfl,rfl,_,rfl,a1g (fun _=>?_) (fun _=>?_)⟩
 ·obtain ⟨i,ei,hi⟩:∃ i:Nat,ixN out.length ((j:Int) - 1)=some i∧i < out.length:=by
   by_cases z:j=0
   ·refine ⟨out.length - 1,?_,by omega⟩
    unfold ixN
    rw [if_neg (by omega),if_pos (by omega)]
    exact congrArg some (by omega)
   ·refine ⟨j - 1,?_,by omega⟩
    unfold ixN
    rw [if_pos (by omega),if_pos (by omega)]
    exact congrArg some (by omega)
  have ai:atI out ((j:Int) - 1)=some out[i]:=by
   unfold atI
   rw [ei]
   exact List.getElem?_eq_getElem hi
  obtain ⟨u,hu,ru⟩:=Paired.right_of prA i _ (List.getElem?_eq_getElem hi)
  refine ⟨_,rfl,_,rfl,_,_,rfl,rfl,b,_,_,_,rfl,rfl,SqL.of gA,ai,_,rfl,_,rfl,b,_,_,_,rfl,rfl,SqL.of gA,aj,(by show 2≤sizeLine;decide),fun q hq=>?_⟩
  have s3:=a0c hq (.tup [out[i],.ref t])
  have g3:upd H1 q (.tup [out[i],.ref t]) q=some (.tup [out[i],.ref t]):=a0b
  generalize upd H1 q (.tup [out[i],.ref t])=H2 at s3 g3 ⊢
  have gB:=s3 _ _ gA
  refine ⟨q,_,rfl,SqT.of g3,rfl,_,_,rfl,_,rfl,_,rfl,b,_,_,_,rfl,rfl,gB,at_j hj,_,_,rfl,_,rfl,_,rfl,_,_,rfl,rfl,b,_,_,i,rfl,rfl,a0b,(by rw [List.length_set];exact ei),rfl,?_⟩
  have t3:TK H1 (upd (upd H2 b (.lst (out.set j out[i]))) b (.lst ((out.set j out[i]).set i (.ref t)))):=((TK.of s3).trans (TK.upd gB)).trans (TK.upd a0b)
  refine ⟨b,_,(us.set j u).set i e,rfl,a0p hb (a0p hb (sA.trans s3)),hb,a0b,a0M t3 (setP ⟨t,rfl,by rw [en];exact ht⟩ i (setP ru j prA)),AnB.tk t3 (AnB.setE (AnB.setE anA.up (anA.up u (List.mem_of_getElem? hu))) (anA.up e em)),by rw [List.length_set,List.length_set];omega⟩
 refine ⟨_,rfl,rfl,_,rfl,a1g (fun _=>?_) (fun _=>?_)⟩
 ·refine ⟨_,rfl,_,rfl,_,_,rfl,rfl,(by show (0:Int) < _;decide),_,rfl,_,_,rfl,rfl,⟨by decide,by decide⟩,e.2.1,e.1,_,_,mx,rfl,fr,Nat.le_trans el l90,mx0,eb,fun b2 k' H2 s3 f3 l3 b3=>?_⟩
  refine ⟨_,rfl,(by show 2≤sizeLine;decide),fun q hq=>?_⟩
  have s4:=s3.trans (a0c hq (.tup [.ref b2,.int n]))
  exact ⟨_,rfl,_,rfl,b,_,_,_,rfl,rfl,s4 _ _ gA,at_j hj,put _ (out.set j (.ref q)) (us.set j (k',b2,.int n)) s4 (setP ⟨q,rfl,a0b⟩ j (a0M (TK.of s4) prA)) (AnB.setE (anA.up.tk (TK.of s4)) ((show OkE aF bF _ (mx+11 * B30) (L+1) (k',b2,.int n) from ⟨f3,⟨_,rfl⟩,by show k'.2.length≤_;omega,b3⟩).tk (TK.of (a0c hq _)))) (by rw [List.length_set];omega)⟩
 refine ⟨_,rfl,rfl,_,rfl,a1g (fun _=>?_) (fun _=>?_)⟩
 ·refine ⟨_,rfl,_,rfl,_,rfl,_,_,rfl,rfl,(by show (0:Int) < _;decide),_,rfl,_,_,rfl,rfl,⟨by decide,by decide⟩,e.2.1,e.1,_,_,mx,rfl,fr,Nat.le_trans el l90,mx0,eb,fun b2 k' H2 s3 f3 l3 b3=>?_⟩
  refine ⟨_,rfl,_,_,rfl,rfl,_,rfl,_,_,rfl,rfl,⟨by decide,by decide,by decide⟩,_,_,rfl,rfl,(by show (0:Int) < _;decide),_,_,rfl,rfl,(by show 2≤sizeLine;decide),fun q hq=>?_⟩
  dsimp only
  generalize n - 1 - rest % 10 ^ (40:Int).toNat=n'
  have ok:OkE aF bF H2 (mx+11 * B30) (L+1) (k',b2,.int n'):=⟨f3,⟨_,rfl⟩,by show k'.2.length≤_;omega,b3⟩
  have s4:=a0c hq (.tup [.ref b2,.int n'])
  have g4:upd H2 q (.tup [.ref b2,.int n']) q=some (.tup [.ref b2,.int n']):=a0b
  generalize upd H2 q (.tup [.ref b2,.int n'])=H3 at s4 g4 ⊢
  refine ⟨(by show 1≤sizeLine;decide),fun o1 ho1=>?_⟩
  have s5:=a0c ho1 (.lst [.ref q])
  have g5:upd H3 o1 (.lst [.ref q]) o1=some (.lst [.ref q]):=a0b
  generalize upd H3 o1 (.lst [.ref q])=H4 at s5 g5 ⊢
  refine ⟨b,o1,_,_,rfl,rfl,s5 _ _ (s4 _ _ (s3 _ _ gA)),g5,Nat.le_of_lt (a1o (by show out.length+1≤5000;omega)),fun p hp=>?_⟩
  have s6:=a0c hp (.lst (out++[.ref q]))
  have g6:upd H4 p (.lst (out++[.ref q])) p=some (.lst (out++[.ref q])):=a0b
  generalize upd H4 p (.lst (out++[.ref q]))=H5 at s6 g6 ⊢
  have s15:=((s3.trans s4).trans s5).trans s6
  have p5:Paired (IPr H5) (out++[.ref q]) (us++[(k',b2,.int n')]):=Paired.appendP (a0M (TK.of s15) prA) (Paired.oneP ⟨q,rfl,s6 _ _ (s5 _ _ g4)⟩)
  have a5:AnB aF bF H5 (us++[(k',b2,.int n')]) (mx+11 * B30) (L+1):=fun x hx=>by
   rcases List.mem_append.mp hx with z | z
   ·exact (anA.up x z).tk (TK.of s15)
   ·rw [List.mem_singleton.mp z]
    exact ok.tk (TK.of ((s4.trans s5).trans s6))
  refine ⟨p,_,_,rfl,g6,a5d FS p5 a5,(by rw [List.length_map,List.length_append];show us.length+1≤_;omega),fun p2 H6 out' s7 hn7 hl7 pm=>?_⟩
  obtain ⟨vs,p7,e7⟩:=a5G pm (a0M (TK.of s7) p5)
  exact ⟨p2,out',vs,rfl,sA.trans (s15.trans s7),a6s (sA.trans s15) hn7,hl7,p7,fun x hx=>(a5 x (e7.mem_iff.mp hx)).tk (TK.of s7),by rw [e7.length_eq,List.length_append];exact Nat.le_refl _⟩
 refine ⟨_,rfl,_,_,rfl,rfl,(by show (0:Int) < _;decide),rfl,_,rfl,a1g (fun _=>?_) (fun _=>?_)⟩
 ·refine ⟨(by show 0≤sizeLine;decide),fun d hd=>?_⟩
  exact ⟨d,[],[],rfl,sA.trans (a0c hd _),a6s sA hd,a0b,.nil,(fun p hp=>by cases hp),Nat.zero_le _⟩
 ·exact ⟨b,out,us,rfl,sA,hb,gA,prA,anA.up,by omega⟩
end
theorem asc_of {gs:List Int} (h:gs.Pairwise (·≤·)):a6o gs=true:=by
 unfold a6o
 rw [List.all_eq_true]
 intro i hi
 have hi:=List.mem_range.mp hi
 refine decide_eq_true ?_
 have:=List.pairwise_iff_getElem.mp h i (i+1) (by omega) (by omega) (by omega)
 rw [List.getD_eq_getElem?_getD,List.getD_eq_getElem?_getD,List.getElem?_eq_getElem (by omega),List.getElem?_eq_getElem (by omega)]
 exact this
theorem Rch.asc {ps ws:List Int} (W:Wide ps ws) {k:Fr} (h:Rch ps ws k):k.2.Pairwise (·≤·)∧(k.2≠[]→k.2.getD 0 0=0):=by
 cases h with
 | one=>exact ⟨by simp,fun _=>rfl⟩
 | step hk hm =>
  rename_i k m
  obtain ⟨r,hr,rfl⟩:=List.mem_map.mp hm
  obtain ⟨_,_,_,xs,e,_⟩:=mv_of W.p2 (hk.ok W).iv (hk.ok W).bd W.bp hr
  have rise:=a2b xs
  rw [←e] at rise
  unfold fin
  split
  ·exact ⟨.nil,fun z=>absurd rfl z⟩
  ·refine ⟨?_,fun _=>?_⟩
   ·show (r.2.2.map _).Pairwise _
    rw [List.pairwise_map]
    exact rise.imp fun h=>Int.sub_le_sub_right h _
   ·show (r.2.2.map _).getD 0 0=0
    cases hx:r.2.2 with
    | nil=>rfl
    | cons a l=>exact Int.sub_self a
theorem Rch.isF {ps ws:List Int} (W:Wide ps ws) {k:Fr} (h:Rch ps ws k):isF ws.length k=true:=by
 obtain ⟨⟨s0,k0,sk,e0⟩,_⟩:=h.ok W
 obtain ⟨up,z0⟩:=h.asc W
 unfold K75.isF
 rw [Bool.and_eq_true,Bool.and_eq_true]
 refine ⟨⟨decide_eq_true s0,decide_eq_true sk⟩,?_⟩
 split
 ·rename_i z
  exact decide_eq_true (e0 (by rw [z];rfl))
 ·rename_i z
  rw [Bool.and_eq_true]
  exact ⟨decide_eq_true (z0 z),asc_of up⟩
theorem b1E {ns:List Int} {x:Int} (h:x∈ns):b0r ns≤x:=by
 unfold b0r
 rw [if_neg (fun z=>by rw [z] at h;cases h)]
 have hx:=(a0Z ns).mem_iff.mpr h
 have rise:=a2b ns
 cases hs:srt ns with
 | nil=>rw [hs] at hx;cases hx
 | cons a l =>
  rw [hs] at hx rise
  rcases List.mem_cons.mp hx with rfl | hx
  ·exact Int.le_refl _
  ·exact (List.pairwise_cons.mp rise).1 x hx
theorem a7g {aF bF:Addr} {ps ws:List Int} {H:Hp} {us:List FE} (W:Wide ps ws) (td:Told aF bF ps ws H us):a2A ps ws us=true:=by
 have rc:∀ e∈us,Rch ps ws e.1:=fun e he=>(td.all _).mp (List.mem_map.mpr ⟨e,he,rfl⟩)
 unfold a2A
 rw [Bool.and_eq_true,Bool.and_eq_true,Bool.and_eq_true]
 refine ⟨List.all_eq_true.mpr fun e he=>(rc e he).isF W,?_,a2e.mpr ((td.all _).mpr .one),List.all_eq_true.mpr fun e he=>?_⟩
 ·unfold a7d
  rw [List.all_eq_true]
  intro i hi
  have hi:=List.mem_range.mp hi
  have:=List.pairwise_iff_getElem.mp td.up i (i+1) (by rw [List.length_map];omega) (by rw [List.length_map];omega) (by omega)
  unfold a0R
  rw [List.getD_eq_getElem?_getD,List.getD_eq_getElem?_getD,List.getElem?_eq_getElem (by rw [List.length_map];omega),List.getElem?_eq_getElem (by rw [List.length_map];omega)]
  exact this
 ·have ok:=(rc e he).ok W
  have fe:=b0t W ok
  have ev:a1n e=flo ps ws e.1:=by unfold a1n;rw [(td.en e he).2]
  rw [ev]
  unfold a2q
  split
  ·rename_i z
   have e1:nxt ps ws e.1=[]:=by
    have nb:=b0p W ok
    obtain ⟨⟨s0,k0,sk,_⟩,_⟩:=ok
    cases hn:nxt ps ws e.1 with
    | nil=>rfl
    | cons m ms =>
     exfalso
     have:m.1∈lawf ps.length ws.length e.1.1 e.1.2.length:=by rw [←nb,hn];exact .head _
     rcases a2y.mp this with ⟨_,c⟩ | ⟨i,_,_,c1,c2⟩ <;> omega
   rw [fe,e1]
   rfl
  ·refine List.all_eq_true.mpr fun m hm=>?_
   obtain ⟨p,hp,ek,nv⟩:=a3C ((td.all _).mpr ((rc e he).step hm))
   rw [(td.en p hp).2,ek] at nv
   unfold okM
   rw [nv]
   refine decide_eq_true ?_
   rw [fe]
   exact b1E (List.mem_map.mpr ⟨m,hm,rfl⟩)
theorem Told.anb {aF bF:Addr} {ps ws:List Int} {H:Hp} {us:List FE} (W:Wide ps ws) (td:Told aF bF ps ws H us):AnB aF bF H us B30 10:=fun e he=>by
 have ok:=((td.all _).mp (List.mem_map.mpr ⟨e,he,rfl⟩)).ok W
 refine ⟨(td.en e he).1,⟨_,(td.en e he).2⟩,?_,fun x hx=>(ok.bd x hx).2⟩
 have:=ok.iv.sk
 have:=ok.iv.s0
 have:=W.w7
 split at this <;> omega
theorem AnB.any {aF bF:Addr} {H:Hp} {us:List FE} {mx:Int} {L:Nat} (h:AnB aF bF H us mx L) (h1:mx≤1000 * B30) (h2:L≤100):Any aF bF H us:=⟨fun p hp=>⟨(h p hp).1,(h p hp).2.1,Nat.le_trans (h p hp).2.2.1 h2,fun x hx=>Int.le_trans ((h p hp).2.2.2 x hx) h1⟩⟩
theorem Kp.seq {K:PySem.W.Frag} {T:Addr} {H H':Hp} {a:Addr} {xs:List V} (k:Kp T H H') (h:SqL K H a xs):SqL K H' a xs:=by
 rcases h with (h | ⟨o,h⟩) | h
 ·exact .inl (.inl (k.lst h))
 ·exact .inl (.inr ⟨o,k.sm _ _ (by intro _ z;cases z) h⟩)
 ·exact .inr h
def mxI:Nat→Int
 | 0=>B30
 | i+1=>mxI i+11 * B30
theorem b0A {i:Nat} (h:i≤3):0≤mxI i∧mxI i≤1000 * B30:=by
 have:i=0∨i=1∨i=2∨i=3:=by omega
 rcases this with z | z | z | z <;> rw [z] <;> decide
theorem five {i:Int} (h0:0≤i) (h1:i < 5):atI [V.int 7,.int 6,.int 6,.int 6,.int 6] i=some (.int (if i=0 then 7 else 6)):=by
 have h:i=0∨i=1∨i=2∨i=3∨i=4:=by omega
 rcases h with h | h | h | h | h <;> subst h <;> rfl
theorem a9S {X:Cx}:OpR X (compareOp .IsNot) (fun x y H Q=>∃ b c:Bool,x=.bl b∧y=.bl c∧Q (.bl (b != c)) H):=by
 intro pins s σ H x y v u Q I rx ry h
 obtain ⟨b,c,rfl,rfl,q⟩:=h
 cases rx
 cases ry
 exact PyProof.Rows.isnot_bool (a1u I q rfl)
section
variable {P:Program} {w:World} {K:PySem.W.Frag} {mg:Str→Option Value} {base:Heap} {f:Addr} {fd:FuncData}
def a8R:Sp:=fun vs H Q _=>∃ l c:Int,vs=[.int l,.int c]∧2≤l∧l≤6∧∀ m H',a0y H H'→1≤m→m≤(if l=2 then 7 else 6)→Q (.int m) H'
theorem scMost:a0C ["letters","cell"] ["letters","cell"] (a0g a6X):=⟨rfl,rfl,rfl,by decide +kernel,rfl,by decide +kernel,by decide +kernel⟩
theorem b1F (F:Fun K "_law_most" "_law_most" a6X f fd):a1X P w K mg base CX0 1 f fd ["letters","cell"] a8R:=by
 refine F.ok (k:=0) scMost (fun vs H Q E h=>?_) (fun cdv A outer s H vs Q E hr h=>?_)
 ·obtain ⟨l,c,rfl,_⟩:=h
  rfl
 obtain ⟨l,c,rfl,l2,l6,q⟩:=h
 refine ⟨_,a0f (a0J (a0n a0V (a0m a0N (a0m a1z (pv 1) a0d) a0d) a0d (nomark _)) (a0i (a0t (a0D a1a (a1T (a0a a0d (a0a a0d (a0a a0d (a0a a0d (a0a a0d a0e)))))) (a0m a0W (pv 0) a0d) (fun _ _=>rfl)))) a0s)
  (a0i (a0t a0d)),?_⟩
 refine ⟨_,rfl,_,_,rfl,rfl,⟨by decide,by decide⟩,_,_,rfl,rfl,(by show (0:Int) < _;decide),rfl,_,rfl,?_⟩
 refine a1g (fun _=>?_) (fun _=>?_)
 ·refine ⟨(by show 5≤sizeLine;decide),fun o1 ho1=>?_⟩
  have s2:=a0c ho1 (.lst [V.int 7,.int 6,.int 6,.int 6,.int 6])
  refine ⟨_,rfl,_,_,rfl,rfl,o1,_,_,_,rfl,rfl,SqL.of a0b,five (by omega) (by omega),q _ _ s2 ?_ ?_⟩
  ·split <;> omega
  ·split <;> split <;> omega
 ·exact q 5 H (fun b o e=>e) (by omega) (by split <;> omega)
abbrev NRi:List Str:=["prices","weights","told","handed","found"]
abbrev PRi:List Str:=["prices","weights","told"]
def spRi (aF bF:Addr):Sp:=fun vs H Q _=>∃ (p q l:Addr) (ps ws:List Int) (out:List V) (us:List FE),vs=[.ref p,.ref q,.ref l]∧TW H p ps∧TW H q ws∧Wide ps ws∧H l=some (.lst out)∧Paired (IPr H) out us∧Any aF bF H us∧us.length≤5000 ∧
 ∀ H',a0y H H'→Q (.bl true) H'
theorem scRi:a0C NRi PRi (a0g a3y):=⟨rfl,rfl,rfl,by decide +kernel,rfl,by decide +kernel,by decide +kernel⟩
theorem ok_ri {aF bF:Addr} (F:Fun K "_law_right" "_law_right" a3y f fd) (FS:Fst K mg aF bF) (GF:Fns P w K mg base PFh "frontiers_hold" (b0z aF bF) 5) (GH:Fns P w K mg base PLh "_law_holds" (b0z aF bF) 5) (mL:mg "list"=none) (mi:mg "isinstance"=none) (mb:mg "bool"=none):a1X P w K mg base CX0 6 f fd PRi (spRi aF bF):=by
 refine F.ok (k:=5) scRi (fun vs H Q E h=>?_) (fun cdv A outer s H vs Q E hr h=>?_)
 ·obtain ⟨p,q,l,ps,ws,out,us,rfl,_⟩:=h
  rfl
 obtain ⟨p,q,l,ps,ws,out,us,rfl,hp,hq,W,hl,pr,an,le,qq⟩:=h
 have hu6:(a5O CX0 P w K mg base NRi "_law_right" (a0g a3y) f cdv A outer s H E).nox.A.units+6 < cLine:=by
  have:=hr.un
  exact Nat.lt_of_le_of_lt (Nat.add_le_add_left (show 6≤16 * 5+200 by decide) _) this
 refine ⟨_,a0f (a0u (i:=3) scRi.nd rfl (Or.inl rfl) (a0Q a1m (by rfl) mL a4Q (a0a (pv 2) (a0e))))
   (a0f (a0u (i:=4) scRi.nd rfl (Or.inl rfl) (a0v GF.ok hr (by rfl) GF.m GF.kp GF.b .nil a1b (a0a (pv 0) (a0a (pv 1) (a0a (pv 3) (a0e))))))
   (a0i (a0t (a4E (a0j a9f (by rfl) mi b_isi (a0a (pv 4) (a0a (b0D (v:=.ty "bool") (by rfl) mb b_bool rfl) (a0e)))) (a4E (a1p a0V (pv 4) (a0v GH.ok hr (by rfl) GH.m GH.kp GH.b .nil a1b (a0a (pv 0) (a0a (pv 1) (a0a (pv 2) (a0e))))) (nomark _)) (a5J (a1p (a6r K hu6) (pv 3) (pv 2) (nomark _)))))))),?_⟩
 refine ⟨_,rfl,l,out,rfl,.inl (SqL.of hl),fun b hb=>?_⟩
 have s1:=a0c hb (.lst out)
 have g1:upd H b (.lst out) b=some (.lst out):=a0b
 generalize upd H b (.lst out)=H1 at s1 g1 ⊢
 refine ⟨_,rfl,_,rfl,_,rfl,p,q,b,ps,ws,out,us,rfl,s1 _ _ hp,s1 _ _ hq,W,g1,a0M (TK.of s1) pr,an.tk (TK.of s1),le,fun H2 s2=>?_⟩
 have s02:=s1.trans s2
 refine ⟨_,rfl,_,_,_,_,rfl,.bl _,a4c _,_,rfl,b1G ?_⟩
 refine ⟨_,rfl,_,rfl,_,rfl,_,rfl,p,q,l,ps,ws,out,us,rfl,s02 _ _ hp,s02 _ _ hq,W,s02 _ _ hl,a0M (TK.of s02) pr,an.tk (TK.of s02),le,fun H3 s3=>?_⟩
 have s03:=s02.trans s3
 refine ⟨rfl,_,rfl,a1g (fun _=>?_) (fun z=>absurd (decide_eq_true rfl) z)⟩
 refine ⟨_,rfl,_,rfl,b,l,_,_,_,_,rfl,rfl,s3 _ _ (s2 _ _ g1),s03 _ _ hl,a5d FS (mx:=1000 * B30) (L:=100) (a0M (TK.of s03) pr) (an.tk (TK.of s03)).en,a5d FS (mx:=1000 * B30) (L:=100) (a0M (TK.of s03) pr) (an.tk (TK.of s03)).en,?_⟩
 rw [decide_eq_true rfl]
 exact qq H3 s03
abbrev NLw:List Str:=["script","prices","weights","first","few","cell","told","rest","turn"]
def a9T (K:PySem.W.Frag) (T:Addr):Sp:=fun vs H Q _=>∃ (a:Addr) (ns:List Int),vs=[.ref a]∧SqL K H a (ns.map V.int)∧ns.length≤63∧a3K H T b1y b0v∧∀ H',Q (.bl true) H'
theorem a3G:a0C NLw ["script"] (a0g a9G):=⟨rfl,rfl,rfl,by decide +kernel,rfl,by decide +kernel,by decide +kernel⟩
theorem ok_law {e T aF bF:Addr} {ed:FuncData} (F:Fun K "law" "law" a9G e ed) (FS:Fst K mg aF bF) (GP:Fns P w K mg base ["script"] "_law_prices" (a4x K) 6) (GW:Fns P w K mg base ["script","most"] "_law_weights" (a3z K) 6) (GO:Fns P w K mg base ["letters","cell"] "_law_most" a8R 6) (GC:Fns P w K mg base ["script","k"] "_law_cell_at" (a5b K) 6)
  (GF:Fns P w K mg base ["prices","weights"] "frontier_floors" (spFl aF bF T) 6) (GH:Fns P w K mg base PFh "frontiers_hold" (b0z aF bF) 6) (GL:Fns P w K mg base PLh "_law_holds" (b0z aF bF) 6) (GG:Fns P w K mg base PCh "_law_changed" (spCh aF bF) 6) (GR:Fns P w K mg base PRi "_law_right" (spRi aF bF) 6) (ml:mg "len"=none) (mL:mg "list"=none) (mr:mg "range"=none):a1X P w K mg base CX0 7 e ed ["script"] (a9T K T):=by
 refine F.ok (k:=6) a3G (fun vs H Q E h=>?_) (fun cdv A outer s H vs Q E hr h=>?_)
 ·obtain ⟨a,ns,rfl,_⟩:=h
  rfl
 obtain ⟨a,ns,rfl,hS,h63,tab,q⟩:=h
 refine ⟨_,a0f (a0u (i:=1) a3G.nd rfl (Or.inl rfl) (a0v GP.ok hr (by rfl) GP.m GP.kp GP.b .nil a1b (a0a (pv 0) (a0e))))
   (a0f (a0u (i:=2) a3G.nd rfl (Or.inl rfl) (a0v GW.ok hr (by rfl) GW.m GW.kp GW.b .nil a1b (a0a (pv 0) (a0a (a0v GO.ok hr (by rfl) GO.m GO.kp GO.b .nil a1b (a0a (a0j a0h (by rfl) ml PySem.boot_len (a0a (pv 1) (a0e))) (a0a (a0v GC.ok hr (by rfl) GC.m GC.kp GC.b .nil a1b (a0a (pv 0) (a0a (a0d) (a0e)))) (a0e)))) (a0e)))))
   (a0f (a0u (i:=3) a3G.nd rfl (Or.inl rfl) (a0v GF.ok hr (by rfl) GF.m GF.kp GF.b .nil a1b (a0a (pv 1) (a0a (pv 2) (a0e)))))
   (a0f (a0J (PW.pt (a5g (a0n a9S (a0v GH.ok hr (by rfl) GH.m GH.kp GH.b .nil a1b (a0a (pv 1) (a0a (pv 2) (a0a (a0Q a1m (by rfl) mL a4Q (a0a (pv 3) (a0e))) (a0e))))) a2l (nomark _)) (a3h (a3L (a4C (a0v GL.ok hr (by rfl) GL.m GL.kp GL.b .nil a1b (a0a (pv 1) (a0a (pv 2) (a0a (pv 3) (a0e)))))))))) (a0i (a0t a2l)) (a0s))
   (a0f (a0u (i:=4) a3G.nd rfl (Or.inl rfl) (a1V (a5K (a0n a2V (a0j a0h (by rfl) ml PySem.boot_len (a0a (pv 2) (a0e))) (a0d) (nomark _)) a0d a0d)))
   (a0f (a2h PassesOwn.never rfl (a2D (a0m a7A (a1d a3o (pv 0) (a1q a0d) (a1q (pv 4))) (a1T (a0a (a0d) (a0e))))) (a0E (i:=5) a3G.nd rfl (Or.inl rfl)) (a0f (a0u (i:=6) a3G.nd rfl (Or.inl rfl) (a0Q a1m (by rfl) mL a4Q (a0a (pv 3) (a0e))))
   (a0f (a0u (i:=7) a3G.nd rfl (Or.inl rfl) (a0m a1z (pv 5) (a0d)))
   (a0f (a2h PassesOwn.never rfl (a3k (by rfl) mr (a0a (a0m a0G (a0d) (a0m a0N (pv 5) (a0d))) (a0e))) (a0E (i:=8) a3G.nd rfl (Or.inl rfl)) (a0f (a0u (i:=6) a3G.nd rfl (Or.inl rfl) (a0v GG.ok hr (by rfl) GG.m GG.kp GG.b .nil a1b (a0a (pv 6) (a0a (a0m a0N (pv 7) (a0m a2T a0d a0d)) (a0e)))))
   (a0i (a0u (i:=7) a3G.nd rfl (Or.inl rfl) (a0m a1z (pv 7) (a0d))))))
   (a0i (a0J (a3L (a4C (a0v GR.ok hr (by rfl) GR.m GR.kp GR.b .nil a1b (a0a (pv 1) (a0a (pv 2) (a0a (pv 6) (a0e))))))) (a0i (a0t a2l)) (a0s)))))))
   (a0i (a0t (a2l)))))))),?_⟩
 refine ⟨_,rfl,a,ns,rfl,hS,fun p ps H1 s1 hp p2 p6 bp=>?_⟩
 refine ⟨_,rfl,_,rfl,p,_,rfl,.inr (SqT.of hp),_,rfl,a,ns,1,rfl,s1.seq hS,by decide,fun c=>?_⟩
 refine ⟨_,c,rfl,(by rw [List.length_map];omega),(by rw [List.length_map];omega),fun m H2 s2 m1 m7=>?_⟩
 rw [List.length_map] at m7
 refine ⟨a,ns,m,rfl,(s1.trans s2).seq hS,m1,by split at m7 <;> omega,fun r ws H3 s3 hr' w1 wm bw=>?_⟩
 have W:Wide ps ws:=⟨p2,p6,w1,by (split at m7 <;> split <;> omega),bp.bw,bw.bw⟩
 have s03:=(s1.trans s2).trans s3
 have hp3:TW H3 p ps:=s3 _ _ (s2 _ _ hp)
 refine ⟨_,rfl,_,rfl,p,r,ps,ws,rfl,hp3,hr',W,a3e s03 tab,fun lt out us H4 k4 n4 hl4 pr4 td4=>?_⟩
 have an4:=td4.anb W
 have any4:=an4.any (by unfold B30;decide) (by decide)
 have hd4:=a7g W td4
 have le4:=td4.le
 have hp4:TW H4 p ps:=k4.tup hp3
 have hr4:TW H4 r ws:=k4.tup hr'
 have hS4:SqL K H4 a (ns.map V.int):=k4.seq (s03.seq hS)
 clear td4 n4
 refine ⟨_,rfl,_,rfl,_,rfl,lt,out,rfl,.inl (SqL.of hl4),fun b hb=>?_⟩
 have s5:=a0c hb (.lst out)
 have g5:upd H4 b (.lst out) b=some (.lst out):=a0b
 generalize upd H4 b (.lst out)=H5 at s5 g5 ⊢
 refine ⟨p,r,b,ps,ws,out,us,rfl,s5 _ _ hp4,s5 _ _ hr4,W,g5,a0M (TK.of s5) pr4,any4.tk (TK.of s5),by omega,fun H6 s6=>?_⟩
 rw [hd4]
 have s46:=s5.trans s6
 refine ⟨_,_,rfl,rfl,_,rfl,b0P ?_⟩
 refine ⟨_,rfl,_,rfl,_,rfl,p,r,lt,ps,ws,out,us,rfl,s46 _ _ hp4,s46 _ _ hr4,W,s46 _ _ hl4,a0M (TK.of s46) pr4,any4.tk (TK.of s46),by omega,fun H7 s7=>?_⟩
 rw [hd4]
 refine ⟨_,rfl,b0P ?_⟩
 have s47:=s46.trans s7
 have hp7:=s47 _ _ hp4
 have hr7:=s47 _ _ hr4
 have hl7:=s47 _ _ hl4
 have hS7:=s47.seq hS4
 have pr7:Paired (IPr H7) out us:=a0M (TK.of s47) pr4
 have an7:AnB aF bF H7 us B30 10:=an4.tk (TK.of s47)
 clear s47 s46 s5 s6 s7 g5 any4 an4 hd4 hp4 hr4 hl4 hS4 pr4 k4
 refine ⟨fun v H'=>(∃ n:Int,v=.int n)∧H7=H',⟨_,rfl,r,_,rfl,.inr (SqT.of hr7),_,_,rfl,rfl,_,rfl,a1g (fun _=>⟨⟨_,rfl⟩,rfl⟩) (fun _=>⟨⟨_,rfl⟩,rfl⟩)⟩,fun v H' hv=>?_⟩
 obtain ⟨⟨few,rfl⟩,rfl⟩:=hv
 refine ⟨_,rfl,_,rfl,_,rfl,_,rfl,a,_,rfl,hS7,fun p8 hp8=>?_⟩
 obtain ⟨ms,em,lm⟩:=a7L ns (some 15) (some few)
 have s8:=a0c hp8 (.lst (ms.map V.int))
 have g8:upd H7 p8 (.lst (ms.map V.int)) p8=some (.lst (ms.map V.int)):=a0b
 rw [em]
 generalize upd H7 p8 (.lst (ms.map V.int))=H8 at s8 g8 ⊢
 refine ⟨(by show 1≤sizeLine;decide),fun p9 hp9=>?_⟩
 have s9:=a0c hp9 (.lst [.int 4])
 have g9:upd H8 p9 (.lst [.int 4]) p9=some (.lst [.int 4]):=a0b
 generalize upd H8 p9 (.lst [.int 4])=H9 at s9 g9 ⊢
 refine ⟨p8,p9,_,_,rfl,rfl,s9 _ _ g8,g9,Nat.le_of_lt (a0q (by rw [List.length_map];show ms.length+1≤1000;omega)),fun p10 hp10=>?_⟩
 have s10:=a0c hp10 (.lst (ms.map V.int++[.int 4]))
 have g10:upd H9 p10 (.lst (ms.map V.int++[.int 4])) p10=some (.lst ((ms++[4]).map V.int)):=by rw [a0b,List.map_append];rfl
 generalize upd H9 p10 (.lst (ms.map V.int++[.int 4]))=H10 at s10 g10 ⊢
 have sX:=(s8.trans s9).trans s10
 generalize ms++[4]=cs at g10
 refine ⟨p10,rfl,⟨_,SqL.of g10⟩,?_⟩
 refine a2X (xs:=cs.map V.int) (fun i σ H'=>a0y H10 H'∧∃ x5 x6 x7 x8:Option V,σ=[some (.ref a),some (.ref p),some (.ref r),some (.ref lt),some (.int few),x5,x6,x7,x8]) ⟨a0y.refl _,_,_,_,_,rfl⟩ (fun i σ H' _ hP=>SqL.of (hP.1 _ _ g10)) (fun i x σ H11 hx hP=>?_) (fun σ H11 hP=>?_)
 ·obtain ⟨s11,x5,x6,x7,x8,rfl⟩:=hP
  rw [List.getElem?_map] at hx
  obtain ⟨cell,_,rfl⟩:=Option.map_eq_some_iff.mp hx
  have sY:=sX.trans s11
  refine ⟨_,rfl,lt,out,rfl,.inl (SqL.of (sY _ _ hl7)),fun b1 hb1=>?_⟩
  have s12:=a0c hb1 (.lst out)
  have g12:upd H11 b1 (.lst out) b1=some (.lst out):=a0b
  generalize upd H11 b1 (.lst out)=H12 at s12 g12 ⊢
  have sZ:=sY.trans s12
  refine ⟨_,rfl,_,_,rfl,rfl,⟨by decide,by decide⟩,?_⟩
  have c0:=Int.emod_nonneg cell (show (3:Int)≠0 by decide)
  have c3:=Int.emod_lt_of_pos cell (show (0:Int) < 3 by decide)
  refine ⟨_,rfl,_,_,rfl,rfl,(by show (0:Int) < _;decide),_,_,rfl,rfl,_,rfl,by omega,by omega,?_⟩
  refine a1W (fun i σ H'=>a0y H12 H'∧∃ (b:Addr) (out':List V) (us':List FE) (rest:Int) (x8:Option V),σ=[some (.ref a),some (.ref p),some (.ref r),some (.ref lt),some (.int few),some (.int cell),some (.ref b),some (.int rest),x8]∧H' b=some (.lst out')∧Paired (IPr H') out' us'∧AnB aF bF H' us' (mxI i) (10+i)∧us'.length≤1100+i)
   ⟨a0y.refl _,b1,out,us,_,_,rfl,g12,a0M (TK.of sZ) pr7,an7.tk (TK.of sZ),by omega⟩ (fun j σ H13 hj hP=>?_) (fun σ H13 hP=>?_)
  ·obtain ⟨s13,b,out',us',rest,x8,rfl,hb,pr,an,le⟩:=hP
   have j3:j < 3:=by omega
   refine ⟨_,rfl,_,rfl,_,_,rfl,rfl,⟨by decide,by decide,by decide⟩,_,_,rfl,rfl,(by show (0:Int) < _;decide),b,_,mxI j,10+j,out',us',rfl,hb,pr,an,by omega,(b0A (by omega)).1,by omega,fun b' out2 us2 H14 s14 hn14 hl14 pr14 an14 le14=>?_⟩
   refine ⟨_,rfl,_,_,rfl,rfl,⟨by decide,by decide⟩,?_⟩
   exact ⟨s13.trans s14,b',out2,us2,_,_,rfl,hl14,pr14,an14,by omega⟩
  ·obtain ⟨s13,b,out',us',rest,x8,rfl,hb,pr,an,le⟩:=hP
   have sW:=sZ.trans s13
   have n3:(1+cell % 3).toNat≤3:=by omega
   refine ⟨_,rfl,_,rfl,_,rfl,p,r,b,ps,ws,out',us',rfl,sW _ _ hp7,sW _ _ hr7,W,hb,pr,an.any (b0A n3).2 (by omega),by omega,fun H14 s14=>?_⟩
   refine ⟨_,rfl,b0P ?_⟩
   exact ⟨((s11.trans s12).trans s13).trans s14,_,_,_,_,rfl⟩
 ·obtain ⟨s11,x5,x6,x7,x8,rfl⟩:=hP
  exact q H11
end
theorem al1 {α:Type} {P:List α→Prop} (h:∀ a0:α,P [a0]):∀ us:List α,us.length=1→P us
 | [a0],_=>h a0
theorem al2 {α:Type} {P:List α→Prop} (h:∀ a0 a1:α,P [a0,a1]):∀ us:List α,us.length=2→P us
 | [a0,a1],_=>h a0 a1
theorem al3 {α:Type} {P:List α→Prop} (h:∀ a0 a1 a2:α,P [a0,a1,a2]):∀ us:List α,us.length=3→P us
 | [a0,a1,a2],_=>h a0 a1 a2
theorem al4 {α:Type} {P:List α→Prop} (h:∀ a0 a1 a2 a3:α,P [a0,a1,a2,a3]):∀ us:List α,us.length=4→P us
 | [a0,a1,a2,a3],_=>h a0 a1 a2 a3
theorem all_mk {T:Addr} {ts:List Addr} (hT:T∈ts) {l:PySem.W.OpenLaw} {w:World} {K:PySem.W.Frag} {h:Heap} {mg:Str→Option Value} {fa f1 f2 f3 f4 f5 f6 f7 f8 f9 f10 f11 f12 f13 f14 f15 f16 f17 f18 f19 f20 f21:Addr} (X:K.In h) (G:h.Ns mainGlobals mg) (hfa:mg "law"=some (.ref fa))
  {od1 an1 od2 an2 od3 an3 od4 an4 od5 an5 od6 an6 od7 an7 od8 an8 od9 an9 od10 an10 od11 an11 od12 an12 od13 an13 od14 an14 od15 an15 od16 an16 od17 an17 od18 an18 od19 an19 od20 an20 od21 an21:Option Addr} {sl1 sl2 sl3 sl4 sl5 sl6 sl7 sl8 sl9 sl10 sl11 sl12 sl13 sl14 sl15 sl16 sl17 sl18 sl19 sl20 sl21:Array (Option Value)}
  {oc1 kV1 dc1 pm1 cd1 ct1 oc2 kV2 dc2 pm2 cd2 ct2 oc3 kV3 dc3 pm3 cd3 ct3 oc4 kV4 dc4 pm4 cd4 ct4 oc5 kV5 dc5 pm5 cd5 ct5 oc6 kV6 dc6 pm6 cd6 ct6 oc7 kV7 dc7 pm7 cd7 ct7 oc8 kV8 dc8 pm8 cd8 ct8 oc9 kV9 dc9 pm9 cd9 ct9 oc10 kV10 dc10 pm10 cd10 ct10 oc11 kV11 dc11 pm11 cd11 ct11 oc12 kV12 dc12 pm12 cd12 ct12 oc13 kV13 dc13 pm13 cd13 ct13 oc14 kV14 dc14 pm14 cd14 ct14 oc15 kV15 dc15 pm15 cd15 ct15 oc16 kV16 dc16 pm16 cd16 ct16 oc17 kV17 dc17 pm17 cd17 ct17 oc18 kV18 dc18 pm18 cd18 ct18 oc19 kV19 dc19 pm19 cd19 ct19 oc20 kV20 dc20 pm20 cd20 ct20 oc21 kV21 dc21 pm21 cd21 ct21:Value}
  (a1:PySem.W.nsIn K mainGlobals "refuse_many"=some (some (.ref f1))) (l1:K.lookup f1=some ⟨oc1,od1,.func (PySem.W.fnOf "refuse_many" "refuse_many" (a0z a2N) (a0x a2N) (a0g a2N) .none kV1 dc1 pm1 an1 cd1 ct1),sl1⟩) (c1:PySem.W.codeIn K cd1 "refuse_many"=true) (k1:PySem.W.keepIn K (.ref f1)=true)
  (a2:PySem.W.nsIn K mainGlobals "moves"=some (some (.ref f2))) (l2:K.lookup f2=some ⟨oc2,od2,.func (PySem.W.fnOf "moves" "moves" (a0z a3U) (a0x a3U) (a0g a3U) .none kV2 dc2 pm2 an2 cd2 ct2),sl2⟩) (c2:PySem.W.codeIn K cd2 "moves"=true) (k2:PySem.W.keepIn K (.ref f2)=true)
  (a3:PySem.W.nsIn K mainGlobals "move_to"=some (some (.ref f3))) (l3:K.lookup f3=some ⟨oc3,od3,.func (PySem.W.fnOf "move_to" "move_to" (a0z a5A) (a0x a5A) (a0g a5A) .none kV3 dc3 pm3 an3 cd3 ct3),sl3⟩) (c3:PySem.W.codeIn K cd3 "move_to"=true) (k3:PySem.W.keepIn K (.ref f3)=true)
  (a4:PySem.W.nsIn K mainGlobals "weight_left"=some (some (.ref f4))) (l4:K.lookup f4=some ⟨oc4,od4,.func (PySem.W.fnOf "weight_left" "weight_left" (a0z a6V) (a0x a6V) (a0g a6V) .none kV4 dc4 pm4 an4 cd4 ct4),sl4⟩) (c4:PySem.W.codeIn K cd4 "weight_left"=true) (k4:PySem.W.keepIn K (.ref f4)=true)
  (a5:PySem.W.nsIn K mainGlobals "frontier_floors"=some (some (.ref f5))) (l5:K.lookup f5=some ⟨oc5,od5,.func (PySem.W.fnOf "frontier_floors" "frontier_floors" (a0z a1t) (a0x a1t) (a0g a1t) .none kV5 dc5 pm5 an5 cd5 ct5),sl5⟩) (c5:PySem.W.codeIn K cd5 "frontier_floors"=true) (k5:PySem.W.keepIn K (.ref f5)=true)
  (a6:PySem.W.nsIn K mainGlobals "moves_reached"=some (some (.ref f6))) (l6:K.lookup f6=some ⟨oc6,od6,.func (PySem.W.fnOf "moves_reached" "moves_reached" (a0z a1S) (a0x a1S) (a0g a1S) .none kV6 dc6 pm6 an6 cd6 ct6),sl6⟩) (c6:PySem.W.codeIn K cd6 "moves_reached"=true) (k6:PySem.W.keepIn K (.ref f6)=true)
  (a7:PySem.W.nsIn K mainGlobals "frontiers_hold"=some (some (.ref f7))) (l7:K.lookup f7=some ⟨oc7,od7,.func (PySem.W.fnOf "frontiers_hold" "frontiers_hold" (a0z sFH) (a0x sFH) (a0g sFH) .none kV7 dc7 pm7 an7 cd7 ct7),sl7⟩) (c7:PySem.W.codeIn K cd7 "frontiers_hold"=true) (k7:PySem.W.keepIn K (.ref f7)=true)
  (a8:PySem.W.nsIn K mainGlobals "is_frontier"=some (some (.ref f8))) (l8:K.lookup f8=some ⟨oc8,od8,.func (PySem.W.fnOf "is_frontier" "is_frontier" (a0z sIF) (a0x sIF) (a0g sIF) .none kV8 dc8 pm8 an8 cd8 ct8),sl8⟩) (c8:PySem.W.codeIn K cd8 "is_frontier"=true) (k8:PySem.W.keepIn K (.ref f8)=true)
  (a9:PySem.W.nsIn K mainGlobals "holds"=some (some (.ref f9))) (l9:K.lookup f9=some ⟨oc9,od9,.func (PySem.W.fnOf "holds" "holds" (a0z sHo) (a0x sHo) (a0g sHo) .none kV9 dc9 pm9 an9 cd9 ct9),sl9⟩) (c9:PySem.W.codeIn K cd9 "holds"=true) (k9:PySem.W.keepIn K (.ref f9)=true)
  (a10:PySem.W.nsIn K mainGlobals "_law_cell_at"=some (some (.ref f10))) (l10:K.lookup f10=some ⟨oc10,od10,.func (PySem.W.fnOf "_law_cell_at" "_law_cell_at" (a0z a6W) (a0x a6W) (a0g a6W) .none kV10 dc10 pm10 an10 cd10 ct10),sl10⟩) (c10:PySem.W.codeIn K cd10 "_law_cell_at"=true) (k10:PySem.W.keepIn K (.ref f10)=true)
  (a11:PySem.W.nsIn K mainGlobals "_law_amount"=some (some (.ref f11))) (l11:K.lookup f11=some ⟨oc11,od11,.func (PySem.W.fnOf "_law_amount" "_law_amount" (a0z a2O) (a0x a2O) (a0g a2O) .none kV11 dc11 pm11 an11 cd11 ct11),sl11⟩) (c11:PySem.W.codeIn K cd11 "_law_amount"=true) (k11:PySem.W.keepIn K (.ref f11)=true)
  (a12:PySem.W.nsIn K mainGlobals "_law_prices"=some (some (.ref f12))) (l12:K.lookup f12=some ⟨oc12,od12,.func (PySem.W.fnOf "_law_prices" "_law_prices" (a0z a2o) (a0x a2o) (a0g a2o) .none kV12 dc12 pm12 an12 cd12 ct12),sl12⟩) (c12:PySem.W.codeIn K cd12 "_law_prices"=true) (k12:PySem.W.keepIn K (.ref f12)=true)
  (a13:PySem.W.nsIn K mainGlobals "_law_weights"=some (some (.ref f13))) (l13:K.lookup f13=some ⟨oc13,od13,.func (PySem.W.fnOf "_law_weights" "_law_weights" (a0z a1G) (a0x a1G) (a0g a1G) .none kV13 dc13 pm13 an13 cd13 ct13),sl13⟩) (c13:PySem.W.codeIn K cd13 "_law_weights"=true) (k13:PySem.W.keepIn K (.ref f13)=true)
  (a14:PySem.W.nsIn K mainGlobals "_law_most"=some (some (.ref f14))) (l14:K.lookup f14=some ⟨oc14,od14,.func (PySem.W.fnOf "_law_most" "_law_most" (a0z a6X) (a0x a6X) (a0g a6X) .none kV14 dc14 pm14 an14 cd14 ct14),sl14⟩) (c14:PySem.W.codeIn K cd14 "_law_most"=true) (k14:PySem.W.keepIn K (.ref f14)=true)
  (a15:PySem.W.nsIn K mainGlobals "_law_moves"=some (some (.ref f15))) (l15:K.lookup f15=some ⟨oc15,od15,.func (PySem.W.fnOf "_law_moves" "_law_moves" (a0z sMv) (a0x sMv) (a0g sMv) .none kV15 dc15 pm15 an15 cd15 ct15),sl15⟩) (c15:PySem.W.codeIn K cd15 "_law_moves"=true) (k15:PySem.W.keepIn K (.ref f15)=true)
  (a16:PySem.W.nsIn K mainGlobals "_law_is_frontier"=some (some (.ref f16))) (l16:K.lookup f16=some ⟨oc16,od16,.func (PySem.W.fnOf "_law_is_frontier" "_law_is_frontier" (a0z b1J) (a0x b1J) (a0g b1J) .none kV16 dc16 pm16 an16 cd16 ct16),sl16⟩) (c16:PySem.W.codeIn K cd16 "_law_is_frontier"=true) (k16:PySem.W.keepIn K (.ref f16)=true)
  (a17:PySem.W.nsIn K mainGlobals "_law_holds"=some (some (.ref f17))) (l17:K.lookup f17=some ⟨oc17,od17,.func (PySem.W.fnOf "_law_holds" "_law_holds" (a0z sLH) (a0x sLH) (a0g sLH) .none kV17 dc17 pm17 an17 cd17 ct17),sl17⟩) (c17:PySem.W.codeIn K cd17 "_law_holds"=true) (k17:PySem.W.keepIn K (.ref f17)=true)
  (a18:PySem.W.nsIn K mainGlobals "_law_other"=some (some (.ref f18))) (l18:K.lookup f18=some ⟨oc18,od18,.func (PySem.W.fnOf "_law_other" "_law_other" (a0z sLO) (a0x sLO) (a0g sLO) .none kV18 dc18 pm18 an18 cd18 ct18),sl18⟩) (c18:PySem.W.codeIn K cd18 "_law_other"=true) (k18:PySem.W.keepIn K (.ref f18)=true)
  (a19:PySem.W.nsIn K mainGlobals "_law_changed"=some (some (.ref f19))) (l19:K.lookup f19=some ⟨oc19,od19,.func (PySem.W.fnOf "_law_changed" "_law_changed" (a0z sLC) (a0x sLC) (a0g sLC) .none kV19 dc19 pm19 an19 cd19 ct19),sl19⟩) (c19:PySem.W.codeIn K cd19 "_law_changed"=true) (k19:PySem.W.keepIn K (.ref f19)=true)
  (a20:PySem.W.nsIn K mainGlobals "_law_right"=some (some (.ref f20))) (l20:K.lookup f20=some ⟨oc20,od20,.func (PySem.W.fnOf "_law_right" "_law_right" (a0z a3y) (a0x a3y) (a0g a3y) .none kV20 dc20 pm20 an20 cd20 ct20),sl20⟩) (c20:PySem.W.codeIn K cd20 "_law_right"=true) (k20:PySem.W.keepIn K (.ref f20)=true)
  (a21:PySem.W.nsIn K mainGlobals "law"=some (some (.ref f21))) (l21:K.lookup f21=some ⟨oc21,od21,.func (PySem.W.fnOf "law" "law" (a0z a9G) (a0x a9G) (a0g a9G) .none kV21 dc21 pm21 an21 cd21 ct21),sl21⟩) (c21:PySem.W.codeIn K cd21 "law"=true) (k21:PySem.W.keepIn K (.ref f21)=true)
  (z1:PySem.W.nsIn K mainGlobals "len"=some none)
  (z2:PySem.W.nsIn K mainGlobals "range"=some none)
  (z3:PySem.W.nsIn K mainGlobals "sorted"=some none)
  (z4:PySem.W.nsIn K mainGlobals "sum"=some none)
  (z5:PySem.W.nsIn K mainGlobals "min"=some none)
  (z6:PySem.W.nsIn K mainGlobals "tuple"=some none)
  (z7:PySem.W.nsIn K mainGlobals "list"=some none)
  (z8:PySem.W.nsIn K mainGlobals "isinstance"=some none)
  (z9:PySem.W.nsIn K mainGlobals "bool"=some none)
  (z10:PySem.W.nsIn K mainGlobals "all"=some none)
  (z11:PySem.W.nsIn K mainGlobals "dict"=some none)
  {c0:Addr} (hcd:cd5=.ref c0)
  (lhd:PySem.W.codeHdIn K c0 T=true)
  {aF bF:Addr} (gF:PySem.W.nsIn K mainGlobals "FIRST"=some (some (.ref aF)))
  {dF:Option Addr} {tF:Tok} {nF:Nat} {eF:Array (Option Value)} (lF:K.lookup aF=some ⟨.type "tuple",dF,.seq #[.int 0 tF,.ref bF] nF,eF⟩)
  {dG:Option Addr} {tG:Tok} {nG:Nat} {eG:Array (Option Value)} (lG:K.lookup bF=some ⟨.type "tuple",dG,.seq #[.int 0 tG] nG,eG⟩) :
  ∃ fd:FuncData,(∀ (s:Shared) (v:Value),BindsTo s fd ⟨[v],[]⟩ [("script",v)])∧∀ base:Heap,K.In base→base.Ns mainGlobals mg→(∃ bm,L2.BMod mg base ts bm)→a1X l.prog w K mg base CX0 7 fa fd ["script"] (a9T K T):=by
 have e:=hfa.symm.trans (PySem.W.mg_of X G a21)
 cases e
 have F1:=a0X (st:=a2N) l1 c1 k1
 have m1:=PySem.W.mg_of X G a1
 have b1:=F1.binds (ps:=["prices","weights"]) fun _ _ _ _ _ _=>al2 fun _ _=>rfl
 have F2:=a0X (st:=a3U) l2 c2 k2
 have m2:=PySem.W.mg_of X G a2
 have b2:=F2.binds (ps:=["prices","weights","frontier"]) fun _ _ _ _ _ _=>al3 fun _ _ _=>rfl
 have F3:=a0X (st:=a5A) l3 c3 k3
 have m3:=PySem.W.mg_of X G a3
 have b3:=F3.binds (ps:=["weights","number","settled","gaps"]) fun _ _ _ _ _ _=>al4 fun _ _ _ _=>rfl
 have F4:=a0X (st:=a6V) l4 c4 k4
 have m4:=PySem.W.mg_of X G a4
 have b4:=F4.binds (ps:=["weights","settled"]) fun _ _ _ _ _ _=>al2 fun _ _=>rfl
 have F5:=a0X (st:=a1t) l5 c5 k5
 have m5:=PySem.W.mg_of X G a5
 have b5:=F5.binds (ps:=["prices","weights"]) fun _ _ _ _ _ _=>al2 fun _ _=>rfl
 have F6:=a0X (st:=a1S) l6 c6 k6
 have m6:=PySem.W.mg_of X G a6
 have b6:=F6.binds (ps:=["prices","weights"]) fun _ _ _ _ _ _=>al2 fun _ _=>rfl
 have F7:=a0X (st:=sFH) l7 c7 k7
 have m7:=PySem.W.mg_of X G a7
 have b7:=F7.binds (ps:=["prices","weights","told"]) fun _ _ _ _ _ _=>al3 fun _ _ _=>rfl
 have F8:=a0X (st:=sIF) l8 c8 k8
 have m8:=PySem.W.mg_of X G a8
 have b8:=F8.binds (ps:=["frontier","things"]) fun _ _ _ _ _ _=>al2 fun _ _=>rfl
 have F9:=a0X (st:=sHo) l9 c9 k9
 have m9:=PySem.W.mg_of X G a9
 have b9:=F9.binds (ps:=["prices","weights","floors","frontier"]) fun _ _ _ _ _ _=>al4 fun _ _ _ _=>rfl
 have F10:=a0X (st:=a6W) l10 c10 k10
 have m10:=PySem.W.mg_of X G a10
 have b10:=F10.binds (ps:=["script","k"]) fun _ _ _ _ _ _=>al2 fun _ _=>rfl
 have F11:=a0X (st:=a2O) l11 c11 k11
 have m11:=PySem.W.mg_of X G a11
 have b11:=F11.binds (ps:=["cell"]) fun _ _ _ _ _ _=>al1 fun _=>rfl
 have F12:=a0X (st:=a2o) l12 c12 k12
 have m12:=PySem.W.mg_of X G a12
 have b12:=F12.binds (ps:=["script"]) fun _ _ _ _ _ _=>al1 fun _=>rfl
 have F13:=a0X (st:=a1G) l13 c13 k13
 have m13:=PySem.W.mg_of X G a13
 have b13:=F13.binds (ps:=["script","most"]) fun _ _ _ _ _ _=>al2 fun _ _=>rfl
 have F14:=a0X (st:=a6X) l14 c14 k14
 have m14:=PySem.W.mg_of X G a14
 have b14:=F14.binds (ps:=["letters","cell"]) fun _ _ _ _ _ _=>al2 fun _ _=>rfl
 have F15:=a0X (st:=sMv) l15 c15 k15
 have m15:=PySem.W.mg_of X G a15
 have b15:=F15.binds (ps:=["prices","weights","frontier"]) fun _ _ _ _ _ _=>al3 fun _ _ _=>rfl
 have F16:=a0X (st:=b1J) l16 c16 k16
 have m16:=PySem.W.mg_of X G a16
 have b16:=F16.binds (ps:=["things","frontier"]) fun _ _ _ _ _ _=>al2 fun _ _=>rfl
 have F17:=a0X (st:=sLH) l17 c17 k17
 have m17:=PySem.W.mg_of X G a17
 have b17:=F17.binds (ps:=["prices","weights","told"]) fun _ _ _ _ _ _=>al3 fun _ _ _=>rfl
 have F18:=a0X (st:=sLO) l18 c18 k18
 have m18:=PySem.W.mg_of X G a18
 have b18:=F18.binds (ps:=["frontier","way","cell"]) fun _ _ _ _ _ _=>al3 fun _ _ _=>rfl
 have F19:=a0X (st:=sLC) l19 c19 k19
 have m19:=PySem.W.mg_of X G a19
 have b19:=F19.binds (ps:=["told","cell"]) fun _ _ _ _ _ _=>al2 fun _ _=>rfl
 have F20:=a0X (st:=a3y) l20 c20 k20
 have m20:=PySem.W.mg_of X G a20
 have b20:=F20.binds (ps:=["prices","weights","told"]) fun _ _ _ _ _ _=>al3 fun _ _ _=>rfl
 have F21:=a0X (st:=a9G) l21 c21 k21
 have m21:=PySem.W.mg_of X G a21
 have B_len:=PySem.W.mg_none_of X G z1
 have B_range:=PySem.W.mg_none_of X G z2
 have B_sorted:=PySem.W.mg_none_of X G z3
 have B_sum:=PySem.W.mg_none_of X G z4
 have B_min:=PySem.W.mg_none_of X G z5
 have B_tuple:=PySem.W.mg_none_of X G z6
 have B_list:=PySem.W.mg_none_of X G z7
 have B_isinstance:=PySem.W.mg_none_of X G z8
 have B_bool:=PySem.W.mg_none_of X G z9
 have B_all:=PySem.W.mg_none_of X G z10
 have B_dict:=PySem.W.mg_none_of X G z11
 refine ⟨PySem.W.fnOf "law" "law" (a0z a9G) (a0x a9G) (a0g a9G) .none kV21 dc21 pm21 an21 cd21 ct21,fun s v=>.of_eq rfl,fun base _ _ hBM=>?_⟩
 have FS:Fst K mg aF bF:=⟨PySem.W.mg_of X G gF,fun H=>.inr ⟨_,_,_,lF,rfl,rfl,(by show 2≤sizeLine;decide),.cons ⟨_,rfl⟩ (.cons rfl .nil)⟩,fun H=>.inr ⟨_,_,_,lG,rfl,rfl,(by show 1≤sizeLine;decide),.cons ⟨_,rfl⟩ .nil⟩⟩
 have B1:Fns l.prog w K mg base ["prices","weights"] "refuse_many" a3d 1:=⟨_,_,a8y F1 B_len,b1,k1,m1⟩
 have B4:Fns l.prog w K mg base ["weights","settled"] "weight_left" a8z 1:=⟨_,_,b1v F4 B_len B_sorted B_sum,b4,k4,m4⟩
 have B3:Fns l.prog w K mg base ["weights","number","settled","gaps"] "move_to" a8A 2:=⟨_,_,b1w F3 B4 B_len B_sorted B_min B_tuple,b3,k3,m3⟩
 have B2:Fns l.prog w K mg base ["prices","weights","frontier"] "moves" (a4w K) 3:=⟨_,_,a9I F2 (B1.up (by decide)) B3 B_len B_range B_sorted B_tuple,b2,k2,m2⟩
 have B6:Fns l.prog w K mg base ["prices","weights"] "moves_reached" (spRe l.prog w aF bF) 4:=⟨_,_,a7b F6 FS B2 B_len,b6,k6,m6⟩
 obtain ⟨bm,BM⟩:=hBM
 have LC:LamC K mg base c0 T bm:=⟨lhd,BM.hbm,BM.bo,BM.b1,BM.b2,BM.b3 T hT,BM.b4 T hT⟩
 have B5:Fns l.prog w K mg base ["prices","weights"] "frontier_floors" (spFl aF bF T) 5:=⟨_,_,a8K F5 hcd LC FS B6 B_len B_sorted B_min,b5,k5,m5⟩
 have B8:Fns l.prog w K mg base PIf "is_frontier" (spIf K) 1:=⟨_,_,ok_if F8 B_len B_all B_range,b8,k8,m8⟩
 have B9:Fns l.prog w K mg base PHo "holds" (spHo l.prog w aF bF) 4:=⟨_,_,ok_ho F9 FS B2 B_len B_all,b9,k9,m9⟩
 have B7:Fns l.prog w K mg base PFh "frontiers_hold" (b0z aF bF) 5:=⟨_,_,ok_fh F7 FS (B1.up (by decide)) (B8.up (by decide)) B9 B_len B_all B_range B_dict,b7,k7,m7⟩
 have B10:Fns l.prog w K mg base ["script","k"] "_law_cell_at" (a5b K) 1:=⟨_,_,b1t F10 B_len,b10,k10,m10⟩
 have B11:Fns l.prog w K mg base ["cell"] "_law_amount" a3c 1:=⟨_,_,a8w F11,b11,k11,m11⟩
 have B12:Fns l.prog w K mg base ["script"] "_law_prices" (a4x K) 6:=⟨_,_,(a8C F12 B10 B11 B_range B_tuple).mono (by decide),b12,k12,m12⟩
 have B13:Fns l.prog w K mg base ["script","most"] "_law_weights" (a3z K) 6:=⟨_,_,(a6Y F13 B10 B11 B_range B_tuple B_min).mono (by decide),b13,k13,m13⟩
 have B14:Fns l.prog w K mg base ["letters","cell"] "_law_most" a8R 6:=⟨_,_,(b1F F14).mono (by decide),b14,k14,m14⟩
 have B15:Fns l.prog w K mg base ["prices","weights","frontier"] "_law_moves" (spMv K) 3:=⟨_,_,ok_mv F15 B_len B_range B_sorted B_sum B_tuple B_list,b15,k15,m15⟩
 have B16:Fns l.prog w K mg base PLi "_law_is_frontier" (spLi K) 1:=⟨_,_,ok_li F16 B_len B_range,b16,k16,m16⟩
 have B17:Fns l.prog w K mg base PLh "_law_holds" (b0z aF bF) 4:=⟨_,_,ok_lh F17 FS (B16.up (by decide)) B15 B_len B_range,b17,k17,m17⟩
 have B18:Fns l.prog w K mg base POt "_law_other" (spOt aF bF) 1:=⟨_,_,ok_ot F18 FS B_len B_tuple,b18,k18,m18⟩
 have B19:Fns l.prog w K mg base PCh "_law_changed" (spCh aF bF) 2:=⟨_,_,ok_ch F19 FS B18 B_len B_list B_sorted,b19,k19,m19⟩
 have B20:Fns l.prog w K mg base PRi "_law_right" (spRi aF bF) 6:=⟨_,_,ok_ri F20 FS B7 (B17.up (by decide)) B_list B_isinstance B_bool,b20,k20,m20⟩
 exact ok_law F21 FS B12 B13 B14 (B10.up (by decide)) (B5.up (by decide)) (B7.up (by decide)) (B17.up (by decide)) (B19.up (by decide)) B20 B_len B_list B_range
theorem walk {l:PySem.W.OpenLaw} {q:Program} {loose:List Str} {XP:(Str→Option Value)→Heap→Prop} {YP:World→Heap→Prop} {d:DefRec} {K:Params→PySem.W.Frag} {ts:List Addr} {T:Addr} (hT:T∈ts) (hn:l.most=some 63) (hdf:d.params.defaults=[])
  (hY:∀ (w:World) (h:Heap),YP w h→(K w.params).In h∧∀ T∈ts,h.get? T=some (PySem.W.tabObj #[]))
  (hC:∀ (w:World),∀ T∈ts,(∃ c,PySem.W.codeHdIn (K w.params) c T=true)∧(K w.params).lookup T=none)
  (F:∀ (w:World) (mg:Str→Option Value) (fa:Addr) (h:Heap),(K w.params).In h→h.Ns mainGlobals mg→mg d.name=some (.ref fa) →
   ∃ fd:FuncData,(∀ (s:Shared) (u:Value),BindsTo s fd ⟨[u],[]⟩ [("script",u)])∧∀ base:Heap,(K w.params).In base→base.Ns mainGlobals mg→(∃ bm,L2.BMod mg base ts bm)→a1X l.prog w (K w.params) mg base CX0 7 fa fd ["script"] (a9T (K w.params) T)) :
  PySem.W.WalkO q loose XP YP l.row.toRowW d [] (fun f vs=>PySem.call f vs) :=
 L2.a9s (n:=63) (k:=7) (x:="script") (ts:=ts) (CX:=fun _=>CX0) (sp:=fun w=>a9T (K w.params) T) hn (by decide) hdf ⟨rfl,by decide,by decide⟩ hY hC F (fun _ _ a ns hl hO hS=>⟨a,ns,rfl,hS,hl,.inl (hO T hT),fun _=>rfl⟩) fun _ _ _ _ _ z=>z
end K75
namespace PySem.W.Fast
def tw10038557878905940606:=0
def tw10204738410706649495:=0
def tw10215989862164377503:=0
def tw10396360370701525316:=0
def tw10437939894277117515:=0
def tw10474260756162532077:=0
def tw10614456439956291588:=0
def tw10656233142506298144:=0
def tw10769591568124441526:=0
def tw10777985426792444167:=0
def tw10780903311057251121:=0
def tw10820376218468734350:=0
def tw11028972321014819418:=0
def tw11182578028555160616:=0
def tw11250181437257103225:=0
def tw11298262510880578821:=0
def tw11378036732455796312:=0
def tw11448016012411307611:=0
def tw11585071317517045187:=0
def tw11654399124741858257:=0
def tw11914489012052807263:=0
def tw1223969120038927901:=0
def tw12257481398778179840:=0
def tw12309332008862140152:=0
def tw12440772429647984391:=0
def tw124412228358754940:=0
def tw12476952045232465573:=0
def tw12806696325102908342:=0
def tw12847086483098624244:=0
def tw12959739424965413121:=0
def tw13026171276819725488:=0
def tw13072043409460301194:=0
def tw13160767749071467280:=0
def tw13219561451820790679:=0
def tw1333300946375363461:=0
def tw13398600058257412383:=0
def tw13588092155790590367:=0
def tw13716173979807622886:=0
def tw13828592460782424386:=0
def tw13835430958072107702:=0
def tw14021597755297747730:=0
def tw14100166135032673257:=0
def tw14172254146499788172:=0
def tw14193021620844182807:=0
def tw14291125976751809501:=0
def tw14424468659032742936:=0
def tw14602542066103988731:=0
def tw14903517121160901103:=0
def tw14916707716758336557:=0
def tw1519641079335478747:=0
def tw1521625659461181201:=0
def tw15510718683371136044:=0
def tw15556029750264540048:=0
def tw15575560305391892458:=0
def tw15608239158826969751:=0
def tw15611007047784371012:=0
def tw15692178451509510018:=0
def tw15726225421957362257:=0
def tw15857653775767051273:=0
def tw16042155150189483852:=0
def tw16070185829933347777:=0
def tw16159569052682044581:=0
def tw16368829412157131740:=0
def tw16436331100799490959:=0
def tw16519573080690258464:=0
def tw16626391064550052012:=0
def tw16704774452461726778:=0
def tw16956063075052572922:=0
def tw16968453010116274067:=0
def tw17123631754906870506:=0
def tw17191874571031167944:=0
def tw17449506963276162113:=0
def tw17610712899583829775:=0
def tw17761663475309273036:=0
def tw17782512362601452433:=0
def tw17792674520721088962:=0
def tw18319290433454443081:=0
def tw18345054846699717239:=0
def tw1854476885831856799:=0
def tw1915585371050664807:=0
def tw2081626115259312357:=0
def tw2109118842009129584:=0
def tw2129015665524892894:=0
def tw2206905563276576706:=0
def tw2238631110527430036:=0
def tw233368282783331013:=0
def tw2414515664302354804:=0
def tw2418070169496365617:=0
def tw2761622263502706297:=0
def tw2812396263467998517:=0
def tw286631178696025530:=0
def tw3010272586735954658:=0
def tw3079772480323531204:=0
def tw3265784262927233077:=0
def tw3337538087289534600:=0
def tw3357332604762004339:=0
def tw3672252537042624376:=0
def tw3854325320849637450:=0
def tw3945236616286762418:=0
def tw4084000087975673089:=0
def tw4257639754064926543:=0
def tw441553715025133402:=0
def tw458240450553985112:=0
def tw4612439932511905574:=0
def tw4721581873494119898:=0
def tw4957402935971653383:=0
def tw5041788347859760684:=0
def tw5125679950423285033:=0
def tw51615193593570431:=0
def tw5175397691814881595:=0
def tw53891643519944177:=0
def tw5395799192964367106:=0
def tw5420483770658745211:=0
def tw5553672265084774307:=0
def tw5565160928505912229:=0
def tw557728508044584251:=0
def tw5687143031942262574:=0
def tw5918781189268381080:=0
def tw5967965359965411676:=0
def tw5982306051878663512:=0
def tw599919060184949832:=0
def tw6114632249873125353:=0
def tw6139681666668066982:=0
def tw615329925306737033:=0
def tw6186182073181794960:=0
def tw6240867780467759012:=0
def tw6439728745406193945:=0
def tw6556492622935529814:=0
def tw6888631492002480460:=0
def tw697422126337139147:=0
def tw7028807516701821478:=0
def tw7081693116141317089:=0
def tw7117805295435119514:=0
def tw7141749986275132372:=0
def tw7142678150556158996:=0
def tw7359581446819908019:=0
def tw7448955630356848084:=0
def tw7492439674516890142:=0
def tw75192880783684673:=0
def tw770077624532371825:=0
def tw7734654087335486859:=0
def tw7895474360552372932:=0
def tw8206180576026264079:=0
def tw8342889070354921845:=0
def tw8540606783422608378:=0
def tw8776826494803654406:=0
def tw9053724335789941535:=0
def tw9179628528323957409:=0
def tw9293687326503753183:=0
def tw9689701869911584313:=0
def tw9715069532278966933:=0
def tw9760866666947971539:=0
def tw9878247428588472610:=0
end PySem.W.Fast
open PySem PySem.W PyProof.Rows
set_option maxRecDepth 100000 in
set_option maxHeartbeats 0 in
theorem PySem.Challenge.cw_lettertoll_k75_floors_judged_holds : PySem.Challenge.rw_lettertoll_k75_floors_judged.Holds := by
 w_on;o_law;k_head;(case hw=>w_witness2)
 k_fill
 refine K75.walk (T:=69) (l:=PySem.Challenge.rw_lettertoll_k75_floors_judged) ?hT rfl rfl (fun w h Y=>⟨PySem.W.km_in_of Y,PySem.W.km_tabs_of Y⟩) ?hC ?F
 (case hT=>exact List.mem_singleton.mpr rfl)
 (case hC=>intro w T hT;cases List.mem_singleton.mp hT;exact ⟨⟨71,by kernel_rfl⟩,by kernel_rfl⟩)
 case F =>
  intro w mg fa h KX G hmg
  refine' K75.all_mk (List.mem_singleton.mpr rfl) KX G hmg ?a1 ?l1 ?c1 ?k1 ?a2 ?l2 ?c2 ?k2 ?a3 ?l3 ?c3 ?k3 ?a4 ?l4 ?c4 ?k4 ?a5 ?l5 ?c5 ?k5 ?a6 ?l6 ?c6 ?k6 ?a7 ?l7 ?c7 ?k7 ?a8 ?l8 ?c8 ?k8 ?a9 ?l9 ?c9 ?k9 ?a10 ?l10 ?c10 ?k10 ?a11 ?l11 ?c11 ?k11 ?a12 ?l12 ?c12 ?k12 ?a13 ?l13 ?c13 ?k13 ?a14 ?l14 ?c14 ?k14 ?a15 ?l15 ?c15 ?k15 ?a16 ?l16 ?c16 ?k16 ?a17 ?l17 ?c17 ?k17 ?a18 ?l18 ?c18 ?k18 ?a19 ?l19 ?c19 ?k19 ?a20 ?l20 ?c20 ?k20 ?a21 ?l21 ?c21 ?k21 ?z1 ?z2 ?z3 ?z4 ?z5 ?z6 ?z7 ?z8 ?z9 ?z10 ?z11 ?hcd ?lhd ?gF ?lF ?lG
  (case a1=>k_is);(case l1=>k_is);(case c1=>k_is);(case k1=>k_is)
  (case a2=>k_is);(case l2=>k_is);(case c2=>k_is);(case k2=>k_is)
  (case a3=>k_is);(case l3=>k_is);(case c3=>k_is);(case k3=>k_is)
  (case a4=>k_is);(case l4=>k_is);(case c4=>k_is);(case k4=>k_is)
  (case a5=>k_is);(case l5=>k_is);(case c5=>k_is);(case k5=>k_is)
  (case a6=>k_is);(case l6=>k_is);(case c6=>k_is);(case k6=>k_is)
  (case a7=>k_is);(case l7=>k_is);(case c7=>k_is);(case k7=>k_is)
  (case a8=>k_is);(case l8=>k_is);(case c8=>k_is);(case k8=>k_is)
  (case a9=>k_is);(case l9=>k_is);(case c9=>k_is);(case k9=>k_is)
  (case a10=>k_is);(case l10=>k_is);(case c10=>k_is);(case k10=>k_is)
  (case a11=>k_is);(case l11=>k_is);(case c11=>k_is);(case k11=>k_is)
  (case a12=>k_is);(case l12=>k_is);(case c12=>k_is);(case k12=>k_is)
  (case a13=>k_is);(case l13=>k_is);(case c13=>k_is);(case k13=>k_is)
  (case a14=>k_is);(case l14=>k_is);(case c14=>k_is);(case k14=>k_is)
  (case a15=>k_is);(case l15=>k_is);(case c15=>k_is);(case k15=>k_is)
  (case a16=>k_is);(case l16=>k_is);(case c16=>k_is);(case k16=>k_is)
  (case a17=>k_is);(case l17=>k_is);(case c17=>k_is);(case k17=>k_is)
  (case a18=>k_is);(case l18=>k_is);(case c18=>k_is);(case k18=>k_is)
  (case a19=>k_is);(case l19=>k_is);(case c19=>k_is);(case k19=>k_is)
  (case a20=>k_is);(case l20=>k_is);(case c20=>k_is);(case k20=>k_is)
  (case a21=>k_is);(case l21=>k_is);(case c21=>k_is);(case k21=>k_is)
  (case z1=>k_is)
  (case z2=>k_is)
  (case z3=>k_is)
  (case z4=>k_is)
  (case z5=>k_is)
  (case z6=>k_is)
  (case z7=>k_is)
  (case z8=>k_is)
  (case z9=>k_is)
  (case z10=>k_is)
  (case z11=>k_is)
  (case hcd=>rfl)
  (case lhd=>kernel_rfl)
  (case gF=>k_is)
  (case lF=>k_is)
  (case lG=>k_is)
