import PyProof.Rows.All
import Wide.All
import OpenK.AllK
import Wide.FinOn
import Lean
import PyProof.EqAt
import PyProof.EqKinds
import PyProof.TupleCall
import PyProof.NeKinds
import PyProof.ConsumeWalk
import PyProof.SumAny
import PyProof.Rows.SumGenD
import PyProof.ZipIter
import KE.IntBitsLaws
import PyProof.WalkInts
import PyProof.MinMaxWalk
import PyProof.TupleOfSeq
import PyProof.Rows.SortShell
import PyProof.WalksS
import PyProof.SeqWrite
import PyProof.Rows.Range3
import PyProof.ListRange
import KE.KLam
import KE.KNestM
import PyProof.SliceSyntax
import PyProof.Rows.SetFrom
import PySem.Challenge.RW_lettertoll_k47_whole_top_by_top
set_option Elab.async false
set_option linter.all false
set_option maxRecDepth 100000
set_option maxHeartbeats 16000000
namespace L2
open PySem PySem.Spec PyProof.Rows
abbrev Key:=Sum Int Str
def keyIs:Key→Value→Bool
 | .inl k,v=>Value.isInt k v
 | .inr x,v=>Value.isStrOf x v
def keyH (w:World):Key→Int
 | .inl k=>hashInt k
 | .inr x=>hashStr w x
theorem a0R:∀ {k:Key} {v:Value},keyIs k v=true→(∃ i t,k=Sum.inl i∧v=Value.int i t)∨(∃ x t,k=Sum.inr x∧v=Value.str x t)
 | .inl i,v,h=>by
  obtain ⟨t,e⟩:=Value.isInt_shape (k:=i) (v:=v) h
  exact .inl ⟨i,t,rfl,e⟩
 | .inr x,v,h=>by
  obtain ⟨t,e⟩:=Value.isStrOf_shape (x:=x) (v:=v) h
  exact .inr ⟨x,t,rfl,e⟩
theorem key_ll (a b:Int):decide ((Sum.inl a:Key)=Sum.inl b)=(a == b):=by
 by_cases e:a=b
 ·subst e;simp
 ·have h:¬ (Sum.inl a:Key)=Sum.inl b:=fun q=>e (Sum.inl.inj q)
  rw [decide_eq_false h]
  exact (beq_eq_false_iff_ne.mpr e).symm
theorem key_rr (a b:Str):decide ((Sum.inr a:Key)=Sum.inr b)=decide (a=b):=by
 by_cases e:a=b
 ·subst e;simp
 ·have h:¬ (Sum.inr a:Key)=Sum.inr b:=fun q=>e (Sum.inr.inj q)
  rw [decide_eq_false h,decide_eq_false e]
theorem key_lr (a:Int) (b:Str):decide ((Sum.inl a:Key)=Sum.inr b)=false:=decide_eq_false (fun q=>nomatch q)
theorem key_rl (a:Str) (b:Int):decide ((Sum.inr a:Key)=Sum.inl b)=false:=decide_eq_false (fun q=>nomatch q)
def a6V (prog:Program) (w:World):PySem.KeyKind prog w Key where
 is:=keyIs
 hash:=keyH w
 inj:=fun v a b ha hb=>by
  rcases a0R ha with ⟨i,t,rfl,rfl⟩ | ⟨x,t,rfl,rfl⟩
  ·rcases a0R hb with ⟨j,u,rfl,e⟩ | ⟨y,u,rfl,e⟩
   ·injection e with e1 _;rw [e1]
   ·exact nomatch e
  ·rcases a0R hb with ⟨j,u,rfl,e⟩ | ⟨y,u,rfl,e⟩
   ·exact nomatch e
   ·injection e with e1 _;rw [e1]
 byValue:=fun k v h=>by
  rcases a0R h with ⟨i,t,rfl,rfl⟩ | ⟨x,t,rfl,rfl⟩ <;> rfl
 pyHash:=fun hv h=>by
  rcases a0R hv with ⟨i,t,rfl,rfl⟩ | ⟨x,t,rfl,rfl⟩
  ·exact wpAny_pyHash_int h
  ·exact wpAny_pyHash_str h
 eqBool:=fun hu hv h=>by
  rcases a0R hu with ⟨i,t,rfl,rfl⟩ | ⟨x,t,rfl,rfl⟩
  ·rcases a0R hv with ⟨j,u,rfl,rfl⟩ | ⟨y,u,rfl,rfl⟩
   ·rw [key_ll] at h;exact wpAny_eqBool_int h
   ·rw [key_lr] at h;exact SeqAt.EqAt.int_str i t y u _ _ _ _ h
  ·rcases a0R hv with ⟨j,u,rfl,rfl⟩ | ⟨y,u,rfl,rfl⟩
   ·rw [key_rl] at h;exact SeqAt.EqAt.str_int x t j u _ _ _ _ h
   ·rw [key_rr] at h;exact wpAny_eqBool_str h
 «strs»:=fun k x t v h=>by
  rcases a0R h with ⟨i,u,rfl,e⟩ | ⟨y,u,rfl,e⟩
  ·exact nomatch e
  ·injection e with e1 _
   subst e1
   cases v <;> rfl
inductive V where
 | non | bl (b:Bool) | int (i:Int) | str (x:Str) | byt (b:Array UInt8) | flt (b:UInt64) | ref (a:Addr) | ty (n:String)
 deriving DecidableEq
def a1a:V→Value→Prop
 | .non,u=>u=Value.none
 | .bl b,u=>u=Value.bool b
 | .int i,u=>∃ t,u=Value.int i t
 | .str x,u=>∃ t,u=Value.str x t
 | .byt b,u=>∃ t,u=Value.bytes b t
 | .flt b,u=>∃ t,u=Value.float b t
 | .ref a,u=>u=Value.ref a
 | .ty n,u=>u=Value.type n
abbrev a0O:List V→List Value→Prop:=Paired a1a
theorem a0O.length {xs:List V} {us:List Value} (r:a0O xs us):xs.length=us.length:=Paired.length r
theorem a0O.get:∀ {xs:List V} {us:List Value} {i:Nat} {x:V},a0O xs us→xs[i]?=some x→∃ u,us[i]?=some u∧a1a x u
 | _,_,_,_,.nil,e=>by simp at e
 | _,_,0,_,.cons r _,e=>by simp at e;subst e;exact ⟨_,rfl,r⟩
 | _,_,i+1,x,.cons _ t,e=>by
  obtain ⟨u,h1,h2⟩:=a0O.get (i:=i) (x:=x) t (by simpa using e)
  exact ⟨u,by simpa using h1,h2⟩
theorem a0O.set {x:V} {u:Value} (r:a1a x u):∀ {xs:List V} {us:List Value} (i:Nat),a0O xs us→a0O (xs.set i x) (us.set i u)
 | _,_,_,.nil=>.nil
 | _,_,0,.cons _ t=>.cons r t
 | _,_,i+1,.cons q t=>.cons q (a0O.set r i t)
theorem a0O.append:∀ {xs ys:List V} {us ws:List Value},a0O xs us→a0O ys ws→a0O (xs++ys) (us++ws)
 | _,_,_,_,.nil,s=>s
 | _,_,_,_,.cons r t,s=>.cons r (a0O.append t s)
theorem a0O.take:∀ {xs:List V} {us:List Value} (n:Nat),a0O xs us→a0O (xs.take n) (us.take n)
 | _,_,0,_=>.nil
 | _,_,_+1,.nil=>.nil
 | _,_,n+1,.cons r t=>.cons r (a0O.take n t)
theorem a0O.drop:∀ {xs:List V} {us:List Value} (n:Nat),a0O xs us→a0O (xs.drop n) (us.drop n)
 | _,_,0,r=>r
 | _,_,_+1,.nil=>.nil
 | _,_,n+1,.cons _ t=>a0O.drop n t
def a8S:Option V→Option Value→Prop
 | some v,some u=>a1a v u
 | none,none=>True
 | _,_=>False
def KV {κ:Type}:List (κ × V)→List (κ × Value)→Prop:=Paired fun (p:κ × V) (q:κ × Value)=>p.1=q.1∧a1a p.2 q.2
def kV:Key→V
 | .inl i=>.int i
 | .inr x=>.str x
inductive HO where
 | lst (xs:List V)
 | tup (xs:List V)
 | dK (kvs:List (Key × V)) | dT (kvs:List (List Key × V))
 | set (S:Int→Bool) (n:Nat)
 | ins (C dx:Addr) (fs:List (Str × V))
 | own (x:Addr)
 | xd (fs:List (Str × V))
 | met (f x:Addr)
 | rng (lo hi:Int)
 | frz (o:Obj) (u:HO)
 | tbl (ps:Array Value)
 | ext (φ:Heap→Prop)
abbrev Hp:=Addr→Option HO
def upd (H:Hp) (a:Addr) (o:HO):Hp:=fun b=>if b=a then some o else H b
theorem a0d {H:Hp} {a:Addr} {o:HO}:upd H a o a=some o:=by unfold upd;rw [if_pos rfl]
theorem a0i {H:Hp} {a b:Addr} {o:HO} (h:b≠a):upd H a o b=H b:=by unfold upd;rw [if_neg h]
theorem a0E {H:Hp} {a b:Addr} {o u:HO} (h:H a=some o) (h':H b=some u) (d:o≠u):a≠b:=by
 intro e;subst e;rw [h] at h';exact d (Option.some.inj h')
theorem a1b {H:Hp} {a b:Addr} {o:HO} (h:H a=some o) (h':H b=none):a≠b:=by
 intro e;subst e;rw [h] at h';cases h'
def a4B (h:Heap) (a:Addr) (items:Array Value):Prop:=∃ o,h.get? a=some o∧∃ n,o={ cls:=.type "tuple",data:=.seq items n }
theorem a4B.is {h:Heap} {a:Addr} {items:Array Value} (x:a4B h a items):IsTup h a items:=by
 obtain ⟨o,e,n,rfl⟩:=x
 exact ⟨_,e,rfl,n,rfl⟩
instance {h:Heap} {a:Addr} {items:Array Value}:Coe (a4B h a items) (IsTup h a items):=⟨a4B.is⟩
instance {h:Heap} {a:Addr} {items:Array Value}:Coe (a4B h a items) (Heap.IsTuple h a items):=⟨fun x=>x.is⟩
theorem a4B.lt {h:Heap} {a:Addr} {items:Array Value} (x:a4B h a items):a < h.objs.size:=x.is.lt
theorem a4B.new (h:Heap) (items:Array Value):a4B (h.push { cls:=.type "tuple",data:=.seq items }) h.objs.size items:=⟨_,Heap.get?_push_size _ rfl,_,rfl⟩
section
variable (P:Program) (w:World)
def a1n (H:Hp) (h:Heap) (a:Addr):HO→Prop
 | .lst xs=>xs.length≤sizeLine∧∃ (its:List Value) (n:Nat),a0O xs its∧h.get? a=some { cls:=.type "list",data:=.seq its.toArray n }
 | .tup xs=>xs.length≤sizeLine∧∃ its:List Value,a0O xs its∧a4B h a its.toArray
 | .dK kvs=>kvs.length≤sizeLine∧(a == sysModules)=false∧∃ vs,KV kvs vs∧h.DictOf (a6V P w) a vs
 | .dT kvs=>kvs.length≤sizeLine∧(a == sysModules)=false∧∃ xs:List (List Key × Addr × Value),
   Paired (fun (p:List Key × V) (q:List Key × Addr × Value)=>p.1=q.1∧H q.2.1=some (.tup (p.1.map kV))∧a1a p.2 q.2.2) kvs xs ∧
   ∃ o es ep,h.get? a=some o∧o.ExactDict∧o.data=.dict es ep∧es.toList=xs.map (entryOfKey (tupleKind (a6V P w)))∧(xs.map (·.1)).Nodup
 | .set S n=>h.SetOf (intKind P w) a S n
 | .ins C dx fs=>H dx=some (.own a)∧fs.length≤1000∧dx≠a∧h.get? a=some (PySem.W.instObj C dx) ∧
   ∃ mA,h.Ns1 dx mA∧(∀ f,a8S (fs.lookup f) (mA f))∧PySem.Within mA (fs.map (·.1))
 | .own _=>∃ o,h.get? a=some o
 | .xd fs=>∃ mA,h.Ns1 a mA∧∀ f,a8S (fs.lookup f) (mA f)
 | .rng lo hi=>∃ t u v,h.get? a=some { cls:=.type "range",data:=.fields #[.int lo t,.int hi u,.int 1 v] }
 | .frz o u=>h.get? a=some o∧a1n H h a u
 | .tbl ps=>h.get? a=some { cls:=.none,data:=.fields ps }
 | .met f x=>h.get? a=some (PySem.W.methodObj (.ref f) (.ref x))
 | .ext φ=>φ h∧(∃ o,h.get? a=some o)∧∀ h1 h2:Heap,φ h1→(∀ o,h1.get? a=some o→h2.get? a=some o)→φ h2
def HOk (H:Hp) (h:Heap):Prop:=∀ a o,H a=some o→a1n P w H h a o
end
section
variable {P:Program} {w:World} {H H':Hp} {h h':Heap} {a:Addr} {o:HO}
theorem a1n.lt (x:a1n P w H h a o):a < h.objs.size:=by
 cases o with
 | lst xs=>obtain ⟨_,_,_,_,e⟩:=x;exact Heap.lt_size e
 | tup xs=>obtain ⟨_,_,_,p⟩:=x;exact p.lt
 | dK kvs=>obtain ⟨_,_,_,_,o,_,_,e,_⟩:=x;exact Heap.lt_size e
 | dT kvs=>obtain ⟨_,_,_,_,o,_,_,e,_⟩:=x;exact Heap.lt_size e
 | set S n=>obtain ⟨o,_,_,_,e,_⟩:=x;exact Heap.lt_size e
 | ins C dx fs=>obtain ⟨_,_,_,e,_⟩:=x;exact Heap.lt_size e
 | own y=>obtain ⟨_,e⟩:=x;exact Heap.lt_size e
 | xd fs=>obtain ⟨_,⟨_,_,_,e,_⟩,_⟩:=x;exact Heap.lt_size e
 | rng lo hi=>obtain ⟨_,_,_,e⟩:=x;exact Heap.lt_size e
 | frz ob u=>obtain ⟨e,_⟩:=x;exact Heap.lt_size e
 | tbl ps=>exact Heap.lt_size (show h.get? a=some _ from x)
 | met f y=>exact Heap.lt_size (show h.get? a=some _ from x)
 | ext φ=>obtain ⟨_,⟨_,e⟩,_⟩:=x;exact Heap.lt_size e
theorem Paired.mapP {α β:Type} {F G:α→β→Prop}:∀ {l₁:List α} {l₂:List β},Paired F l₁ l₂→(∀ a b,F a b→G a b)→Paired G l₁ l₂
 | _,_,.nil,_=>.nil
 | _,_,.cons r t,f=>.cons (f _ _ r) (Paired.mapP t f)
theorem a1n.stay (x:a1n P w H h a o) (k:∀ b u,(b=a∨H b=some (.own a))→h.get? b=some u→h'.get? b=some u)
  (ho:∀ b,H b=some (.own a)→H' b=some (.own a)) (ht:∀ b xs,H b=some (.tup xs)→H' b=some (.tup xs)):a1n P w H' h' a o:=by
 induction o with
 | lst xs=>obtain ⟨z,its,n,r,e⟩:=x;exact ⟨z,its,n,r,k _ _ (.inl rfl) e⟩
 | tup xs=>obtain ⟨z,its,r,ob,e,c⟩:=x;exact ⟨z,its,r,ob,k _ _ (.inl rfl) e,c⟩
 | dK kvs=>obtain ⟨z,y,vs,r,ob,es,ep,e,c⟩:=x;exact ⟨z,y,vs,r,ob,es,ep,k _ _ (.inl rfl) e,c⟩
 | dT kvs =>
  obtain ⟨z,y,xs,r,ob,es,ep,e,c⟩:=x
  exact ⟨z,y,xs,Paired.mapP r fun p q z=>⟨z.1,ht _ _ z.2.1,z.2.2⟩,ob,es,ep,k _ _ (.inl rfl) e,c⟩
 | set S n=>obtain ⟨ob,es,ep,t,e,c⟩:=x;exact ⟨ob,es,ep,t,k _ _ (.inl rfl) e,c⟩
 | ins C dx fs =>
  obtain ⟨d,z,ne,e,mA,⟨od,es,ep,e2,c⟩,r⟩:=x
  exact ⟨ho _ d,z,ne,k _ _ (.inl rfl) e,mA,⟨od,es,ep,k _ _ (.inr d) e2,c⟩,r⟩
 | own y=>obtain ⟨ob,e⟩:=x;exact ⟨ob,k _ _ (.inl rfl) e⟩
 | xd fs=>obtain ⟨mA,⟨od,es,ep,e,c⟩,r⟩:=x;exact ⟨mA,⟨od,es,ep,k _ _ (.inl rfl) e,c⟩,r⟩
 | rng lo hi=>obtain ⟨t,u,v,e⟩:=x;exact ⟨t,u,v,k _ _ (.inl rfl) e⟩
 | frz ob u ih=>obtain ⟨e,q⟩:=x;exact ⟨k _ _ (.inl rfl) e,ih q⟩
 | tbl ps =>
  have e:h.get? a=some { cls:=.none,data:=.fields ps }:=x
  show h'.get? a=some { cls:=.none,data:=.fields ps }
  exact k a _ (.inl rfl) e
 | met f y =>
  have e:h.get? a=some (PySem.W.methodObj (.ref f) (.ref y)):=x
  show h'.get? a=some (PySem.W.methodObj (.ref f) (.ref y))
  exact k a _ (.inl rfl) e
 | ext φ=>obtain ⟨p,⟨o,e⟩,st⟩:=x;exact ⟨st _ _ p fun o q=>k _ _ (.inl rfl) q,⟨o,k _ _ (.inl rfl) e⟩,st⟩
theorem HOk.lt (x:HOk P w H h) (e:H a=some o):a < h.objs.size:=(x a o e).lt
theorem HOk.fresh (x:HOk P w H h) (e:h.objs.size≤a):H a=none:=by
 cases q:H a with
 | none=>rfl
 | some u=>exact absurd (Nat.lt_of_lt_of_le (x.lt q) e) (Nat.lt_irrefl _)
theorem HOk.kept (x:HOk P w H h) (k:∀ b u,h.get? b=some u→h'.get? b=some u):HOk P w H h':=fun a o e =>
 (x a o e).stay (fun b u _ q=>k b u q) (fun _ q=>q) fun _ _ q=>q
theorem HOk.laid (x:HOk P w H h) (k:∀ b u,h.get? b=some u→h'.get? b=some u) (hp:h.objs.size≤a) (new:a1n P w (upd H a o) h' a o):HOk P w (upd H a o) h':=fun b u e=>by
 have hn:=x.fresh hp
 by_cases hb:b=a
 ·subst hb;rw [a0d] at e;cases e;exact new
 ·rw [a0i hb] at e
  exact (x b u e).stay (fun c v _ q=>k c v q) (fun c q=>by rw [a0i (a1b q hn)];exact q) fun c xs q=>by rw [a0i (a1b q hn)];exact q
end
def Rd (H:Hp) (a:Addr) (u:HO):Prop:=H a=some u∨∃ o,H a=some (.frz o u)
theorem Rd.ok {P:Program} {w:World} {H:Hp} {h:Heap} {a:Addr} {u:HO} (r:Rd H a u) (x:HOk P w H h):a1n P w H h a u:=by
 rcases r with r | ⟨o,r⟩
 ·exact x a u r
 ·obtain ⟨_,q⟩:=x a _ r
  exact q
def Mut:Option HO→Prop
 | some (.lst _)=>True
 | some (.dK _)=>True
 | some (.dT _)=>True
 | some (.set _ _)=>True
 | some (.ins _ _ _)=>True
 | some (.ext _)=>True
 | _=>False
section
variable {P:Program} {w:World} {H:Hp} {h h':Heap} {x e:Addr} {o':HO}
theorem HOk.write (ok:HOk P w H h) (mu:Mut (H x)) (he:e=x∨H e=some (.own x)) (k:∀ b u,b≠e→h.get? b=some u→h'.get? b=some u) (heo:∃ u,h'.get? e=some u)
  (new:a1n P w (upd H x o') h' x o'):HOk P w (upd H x o') h':=fun b u q=>by
 have nown:∀ c y,H c=some (.own y)→c≠x:=fun c y r z=>by subst z;rw [r] at mu;exact mu
 have ntup:∀ c xs,H c=some (.tup xs)→c≠x:=fun c xs r z=>by subst z;rw [r] at mu;exact mu
 by_cases hb:b=x
 ·subst hb;rw [a0d] at q;cases q;exact new
 ·rw [a0i hb] at q
  by_cases hbe:b=e
  ·have q':H b=some (.own x):=by
    rcases he with z | z
    ·exact absurd (hbe.trans z) hb
    ·rw [hbe];exact z
   rw [q] at q';cases q'
   obtain ⟨v,hv⟩:=heo
   exact ⟨v,by rw [hbe];exact hv⟩
  ·refine (ok b u q).stay (fun c v hc r=>k c v ?_ r) (fun c r=>by rw [a0i (nown c b r)];exact r) fun c xs r=>by rw [a0i (ntup c xs r)];exact r
   rcases hc with rfl | hc
   ·exact hbe
   ·rintro rfl
    rcases he with z | z
    ·exact nown c b hc z
    ·rw [hc] at z;cases z;exact hb rfl
end
structure Un (fs ex:List Addr) (H H':Hp) (h h':Heap):Prop where
 keep:∀ b o,h.get? b=some o→H b=none→b∉fs→b∉ex→h'.get? b=some o
 slot:∀ b o,h.get? b=some o→H b=none→b∈fs→b∉ex→∃ sl,h'.get? b=some { o with slots:=sl }
 free:∀ b o,h.get? b=some o→H b=none→b∉ex→H' b=none
 there:∀ b o,h.get? b=some o→b∉ex→∃ o',h'.get? b=some o'
 tups:∀ b xs,H b=some (.tup xs)→H' b=some (.tup xs)
 frzs:∀ b o u,H b=some (.frz o u)→H' b=some (.frz o u)
 tbls:∀ b ps,H b=some (.tbl ps)→∃ more,H' b=some (.tbl (ps++more))
section
variable {fs fs' ex ex':List Addr} {H H1 H2:Hp} {h h1 h2 h':Heap} {a x e:Addr} {o:HO}
theorem Un.any (u:Un fs ex H H1 h h1) {b:Addr} {ob:Obj} (q:h.get? b=some ob) (n:H b=none) (hx:b∉ex):∃ sl,h1.get? b=some { ob with slots:=sl }:=by
 by_cases hb:b∈fs
 ·exact u.slot b ob q n hb hx
 ·exact ⟨ob.slots,u.keep b ob q n hb hx⟩
theorem Un.kept (k:∀ b u,h.get? b=some u→h'.get? b=some u):Un fs ex H H h h' :=
 ⟨fun b ob q _ _ _=>k b ob q,fun b ob q _ _ _=>⟨ob.slots,k b ob q⟩,fun _ _ _ n _=>n,fun b ob q _=>⟨ob,k b ob q⟩,fun _ _ q=>q,fun _ _ _ q=>q,fun _ ps q=>⟨#[],by rw [q];simp⟩⟩
theorem Un.refl:Un fs ex H H h h:=Un.kept fun _ _ q=>q
theorem Un.laid (k:∀ b u,h.get? b=some u→h'.get? b=some u) (hp:h.objs.size≤a) (hn:H a=none):Un fs ex H (upd H a o) h h' where
 keep:=fun b u q _ _ _=>k b u q
 slot:=fun b u q _ _ _=>⟨u.slots,k b u q⟩
 free:=fun b u q n _=>by rw [a0i (Nat.ne_of_lt (Nat.lt_of_lt_of_le (Heap.lt_size q) hp))];exact n
 there:=fun b u q _=>⟨u,k b u q⟩
 tups:=fun b xs q=>by rw [a0i (a1b q hn)];exact q
 frzs:=fun b u xs q=>by rw [a0i (a1b q hn)];exact q
 tbls:=fun b ps q=>⟨#[],by rw [a0i (a1b q hn),q];simp⟩
theorem Un.write (mu:Mut (H x)) (he:e=x∨H e=some (.own x)) (k:∀ b u,b≠e→h.get? b=some u→h'.get? b=some u) (heo:∃ u,h'.get? e=some u):Un fs ex H (upd H x o) h h':=by
 have hx:∀ b,H b=none→b≠x:=fun b n z=>by subst z;rw [n] at mu;exact mu
 have hb:∀ b,H b=none→b≠e:=fun b n z=>by
  subst z
  rcases he with r | r
  ·exact hx b n r
  ·rw [n] at r;cases r
 have hm:∀ b u,H b=some u→¬ Mut (some u)→b≠x:=fun b u q nm z=>by subst z;rw [q] at mu;exact nm mu
 refine ⟨fun b u q n _ _=>k b u (hb b n) q,fun b u q n _ _=>⟨u.slots,k b u (hb b n) q⟩,fun b u q n _=>by rw [a0i (hx b n)];exact n,fun b u q _=>?_,
  fun b xs q=>by rw [a0i (hm b _ q fun z=>z)];exact q,fun b u xs q=>by rw [a0i (hm b _ q fun z=>z)];exact q,fun b ps q=>⟨#[],by rw [a0i (hm b _ q fun z=>z),q];simp⟩⟩
 by_cases hbe:b=e
 ·subst hbe;exact heo
 ·exact ⟨u,k b u hbe q⟩
end
def trk (h:Heap) (H:Hp):List Addr:=(List.range h.objs.size).filter fun a=>(H a).isSome
def a8T (h:Heap) (H:Hp):Heap:=PySem.W.hideAll h (trk h H)
theorem a6W (h:Heap) (H:Hp):(a8T h H).objs.size=h.objs.size:=PySem.W.hideAll_size _ _
theorem a8X {h:Heap} {H:Hp} {b:Addr} {o:Obj} (e:h.get? b=some o) (n:H b=none):(a8T h H).get? b=some o :=
 PySem.W.hideAll_get _ e fun hm=>by
  have q:(H b).isSome=true:=(List.mem_filter.mp hm).2
  rw [n] at q;simp at q
theorem b1b {h:Heap} {H:Hp} {b:Addr} {o:Obj} (e:(a8T h H).get? b=some o):h.get? b=some o∧H b=none:=by
 have e':h.get? b=some o:=PySem.W.of_hideAll (trk h H) e
 refine ⟨e',?_⟩
 cases q:H b with
 | none=>rfl
 | some x =>
  have hm:b∈trk h H:=List.mem_filter.mpr ⟨List.mem_range.mpr (Heap.lt_size e'),by simp [q]⟩
  have z:(a8T h H).get? b=none:=PySem.W.hideAll_none (trk h H) hm
  rw [z] at e;cases e
def b1c (g h:Heap) (L:Addr):List (Addr × Obj):=(List.range h.objs.size).filterMap fun a=>if a=L∨(g.get? a).isSome=true then none else (h.get? a).map fun o=>(a,o)
def rest (g h:Heap) (L d:Addr):List (Addr × Obj):=(b1c g h L).filter fun p=>decide (p.1≠d)
structure Mod (K:PySem.W.Frag) (mg:Str→Option Value) (base:Heap):Prop where
 kin:K.In base
 glob:base.Ns mainGlobals mg
 blt:∃ mb,base.Ns builtinsNs mb∧∀ x:Str,x≠"__name__"→mb x=bootBuiltins x
 nolimit:base.NoLimit
structure Cx where
 prog:Program
 w:World
 K:PySem.W.Frag
 mg:Str→Option Value
 base:Heap
 A:Around
 N:List Str
 s₀:Shared
 H₀:Hp
 env:Env
 outer:List Env
 stack:List Env
 ex:List Addr
 fn:Str→Bool
 calm:Bool
 pn:List (Addr × Obj)
 xe:Value→Shared→Prop
def frs (l:List Env):List Addr:=l.filterMap (·.frame)
abbrev Cx.fs (X:Cx):List Addr:=frs X.outer
def Vis (sc:Scope) (x:Str):Prop:=sc.names.lookup x=some .local∨sc.names.lookup x=some .cell∨sc.names.lookup x=some .free
def Loc (sc:Scope) (x:Str):Prop:=sc.names.lookup x=some .local∨sc.names.lookup x=some .cell
def Look (env:Env) (h:Heap) (m:Str→Option Value) (x:Str) (u:Value):Prop :=
 (env.kindOf x=some .local∧m x=some u)∨((env.kindOf x=some .cell∨env.kindOf x=some .free)∧∃ c,env.cells.lookup x=some c∧h.IsCell c (some u))
structure Cx.Ok (X:Cx):Prop where
 mod:Mod X.K X.mg X.base
 kind:X.env.scope.kind=.function
 glob:X.env.globals=mainGlobals
 blt:X.env.builtins=builtinsNs
 above:X.s₀.heap.objs.size≤X.env.locals
 inj:∀ x y c,X.env.cells.lookup x=some c→X.env.cells.lookup y=some c→x=y
 has:∀ x,(X.env.kindOf x=some .cell∨X.env.kindOf x=some .free)→∃ c,X.env.cells.lookup x=some c
 cab:∀ x c,X.fn x=true→X.env.cells.lookup x=some c→X.s₀.heap.objs.size≤c
 hd:X.calm=true→X.A.handled=none
 frames:X.A.frames=some X.stack
 stk:X.stack=X.outer∨(X.stack=X.env :: X.outer∧X.env.frame=some X.env.locals)
 exf:∀ b∈X.ex,b≠X.env.locals∧∀ x c,X.env.cells.lookup x=some c→c≠b
 bs:∀ b o,X.base.get? b=some o→X.s₀.heap.get? b=some o∧X.H₀ b=none
 bsz:X.base.objs.size≤X.s₀.heap.objs.size
 noex:∀ b o,X.base.get? b=some o→b∉X.ex
 exfs:∀ b∈X.ex,b∉X.fs
 funs:X.s₀.heap.FunFrames X.base X.outer
 frf:∀ b∈X.fs,X.H₀ b=none
structure Inv (X:Cx) (pins:List (Addr × Obj)) (σ:List (Option V)) (H:Hp) (s:Shared):Prop where
 ok:X.Ok
 os:s.os=X.s₀.os
 bare:AllBare s.gens
 base:Un X.fs X.ex X.H₀ H X.s₀.heap s.heap
 loc:∃ m,s.heap.Ns X.env.locals m∧∀ (i:Nat) (x:Str) (v:V),X.N[i]?=some x→σ[i]?=some (some v)→Vis X.env.scope x→∃ u,a1a v u∧Look X.env s.heap m x u
 cell:∀ x c,X.env.cells.lookup x=some c→∃ v,s.heap.IsCell c v
 free:H X.env.locals=none
 freeC:∀ x c,X.env.cells.lookup x=some c→H c=none
 pin:∀ p∈X.pn++pins,s.heap.get? p.1=some p.2∧H p.1=none∧p.1≠X.env.locals∧p.1∉X.fs∧∀ v,p.2.data≠.cell v
 hok:HOk X.prog X.w H s.heap
 len:σ.length=X.N.length
section
variable {X:Cx} {pins:List (Addr × Obj)} {σ:List (Option V)} {H H':Hp} {s:Shared} {h':Heap}
theorem Cx.Ok.nofr (ok:X.Ok) {b:Addr} {o:Obj} (e:X.base.get? b=some o):b∉X.fs:=fun hb=>by
 have:=(ok.funs.mem hb).1
 rw [e] at this;cases this
theorem Inv.bs (I:Inv X pins σ H s):∀ b o,X.base.get? b=some o→s.heap.get? b=some o∧H b=none:=fun b o e =>
 ⟨I.base.keep b o (I.ok.bs b o e).1 (I.ok.bs b o e).2 (I.ok.nofr e) (I.ok.noex b o e),I.base.free b o (I.ok.bs b o e).1 (I.ok.bs b o e).2 (I.ok.noex b o e)⟩
theorem Inv.bk (I:Inv X pins σ H s):∀ b o,X.base.get? b=some o→s.heap.get? b=some o:=fun b o e=>(I.bs b o e).1
theorem Inv.mod (I:Inv X pins σ H s):Mod X.K X.mg X.base:=I.ok.mod
theorem Inv.kIn (I:Inv X pins σ H s):X.K.In s.heap:=I.ok.mod.kin.keeps I.bk
theorem Inv.lt (I:Inv X pins σ H s):X.env.locals < s.heap.objs.size:=let ⟨_,hn,_⟩:=I.loc;hn.lt
theorem Inv.sz (I:Inv X pins σ H s):X.s₀.heap.objs.size≤s.heap.objs.size:=Nat.le_trans I.ok.above (Nat.le_of_lt I.lt)
theorem Inv.nofs (I:Inv X pins σ H s) {a:Addr} (h:s.heap.objs.size≤a):a∉X.fs:=fun hb=>by
 obtain ⟨_,o,ho,_⟩:=I.ok.funs.mem hb
 exact absurd (Nat.lt_of_lt_of_le (Heap.lt_size ho) (Nat.le_trans I.sz h)) (Nat.lt_irrefl _)
theorem Inv.cne (I:Inv X pins σ H s):∀ x c,X.env.cells.lookup x=some c→c≠X.env.locals:=fun x c e z=>by
 obtain ⟨v,o,ho,hd⟩:=I.cell x c e
 obtain ⟨m,⟨o',es,ep,ho',hd',_⟩,_⟩:=I.loc
 rw [z,ho'] at ho;cases ho;rw [hd'] at hd;cases hd
theorem Inv.funs (I:Inv X pins σ H s):s.heap.FunFrames X.base X.outer:=by
 have all:∀ (l:List Env),(∀ b∈frs l,b∈X.fs)→X.s₀.heap.FunFrames X.base l→s.heap.FunFrames X.base l:=by
  intro l
  induction l with
  | nil=>intro _ _;trivial
  | cons env r ih =>
   intro hs hl
   obtain ⟨hk,⟨L,o,hf,hn,ho,hd⟩,hr⟩:=hl
   have hL:L∈X.fs:=hs L (by unfold frs;rw [List.filterMap_cons,hf];exact List.mem_cons_self)
   obtain ⟨sl,e⟩:=I.base.slot L o ho (I.ok.frf L hL) hL fun z=>I.ok.exfs L z hL
   exact ⟨hk,⟨L,_,hf,hn,e,hd⟩,ih (fun b hb=>hs b (by unfold frs;rw [List.filterMap_cons,hf];exact List.mem_cons_of_mem _ hb)) hr⟩
 exact all X.outer (fun _ hb=>hb) I.ok.funs
theorem Inv.stack (I:Inv X pins σ H s):s.heap.FunFrames X.base X.stack:=by
 rcases I.ok.stk with e | ⟨e,hf⟩
 ·rw [e];exact I.funs
 ·rw [e]
  obtain ⟨m,hn,_⟩:=I.loc
  refine .cons (by rw [I.ok.kind];decide) hf hn ?_ I.funs
  exact Heap.get?_none_of_le (Nat.le_trans I.ok.bsz I.ok.above)
theorem Inv.stkSub (I:Inv X pins σ H s):∀ b∈frs X.stack,b∈X.env.locals :: X.fs:=fun b hb=>by
 rcases I.ok.stk with e | ⟨e,hf⟩
 ·rw [e] at hb;exact List.mem_cons_of_mem _ hb
 ·rw [e] at hb
  unfold frs at hb
  rw [List.filterMap_cons,hf] at hb
  exact hb
theorem Inv.stkFree (I:Inv X pins σ H s):∀ b∈frs X.stack,H b=none:=fun b hb=>by
 rcases List.mem_cons.mp (I.stkSub b hb) with e | hb
 ·rw [e];exact I.free
 ·obtain ⟨_,o,ho,_⟩:=I.ok.funs.mem hb
  exact I.base.free b o ho (I.ok.frf b hb) fun z=>I.ok.exfs b z hb
theorem Inv.step {g':Array GenState} {t':Nat} {d':Drawn} {ch:List Addr} (I:Inv X pins σ H s)
  (hch:∀ b∈ch,(b∈X.ex∨X.s₀.heap.objs.size≤b)∧b≠X.env.locals∧(∀ x c,X.env.cells.lookup x=some c→c≠b)∧∀ p∈X.pn++pins,p.1≠b)
  (keep:∀ b o,b≠X.env.locals→b∉X.fs→b∉ch→s.heap.get? b=some o→H b=none→h'.get? b=some o)
  (slot:∀ b o,b≠X.env.locals→b∈X.fs→b∉ch→s.heap.get? b=some o→H b=none→∃ sl,h'.get? b=some { o with slots:=sl }) (free:∀ b o,b∉ch→s.heap.get? b=some o→H b=none→H' b=none)
  (there:∀ b o,b∉ch→s.heap.get? b=some o→∃ o',h'.get? b=some o')
  (tups:∀ b xs,H b=some (.tup xs)→H' b=some (.tup xs)) (frzs:∀ b o u,H b=some (.frz o u)→H' b=some (.frz o u)) (tbls:∀ b ps,H b=some (.tbl ps)→∃ more,H' b=some (.tbl (ps++more)))
  (ns:∀ m,s.heap.Ns X.env.locals m→h'.Ns X.env.locals m) (hok:HOk X.prog X.w H' h') (hg:AllBare g') :
  Inv X pins σ H' { s with heap:=h',gens:=g',drawn:=d',toks:=t' }:=by
 have neL:∀ b o,X.s₀.heap.get? b=some o→b≠X.env.locals:=fun b o e=>Nat.ne_of_lt (Nat.lt_of_lt_of_le (Heap.lt_size e) I.ok.above)
 have neC:∀ b o,X.s₀.heap.get? b=some o→b∉X.ex→b∉ch:=fun b o e hx hb=>by
  rcases (hch b hb).1 with z | z
  ·exact hx z
  ·exact absurd (Nat.lt_of_lt_of_le (Heap.lt_size e) z) (Nat.lt_irrefl _)
 have cellK:∀ x c,X.env.cells.lookup x=some c→∀ v,s.heap.IsCell c v→h'.IsCell c v:=fun x c e v ⟨o,ho,hd⟩=>by
  have nch:c∉ch:=fun z=>(hch c z).2.2.1 x c e rfl
  by_cases hc:c∈X.fs
  ·obtain ⟨sl,q⟩:=slot c o (I.cne x c e) hc nch ho (I.freeC x c e)
   exact ⟨_,q,hd⟩
  ·exact ⟨o,keep c o (I.cne x c e) hc nch ho (I.freeC x c e),hd⟩
 refine ⟨I.ok,I.os,hg,⟨fun b o e n hb hx=>?_,fun b o e n hb hx=>?_,fun b o e n hx=>?_,fun b o e hx=>?_,fun b xs e=>tups b xs (I.base.tups b xs e),fun b o xs e=>frzs b o xs (I.base.frzs b o xs e),fun b ps e=>?_⟩,?_,fun x c e=>?_,?_,fun x c e=>?_,fun p hp=>?_,hok,I.len⟩
 ·exact keep b o (neL b o e) hb (neC b o e hx) (I.base.keep b o e n hb hx) (I.base.free b o e n hx)
 ·obtain ⟨sl,e1⟩:=I.base.slot b o e n hb hx
  obtain ⟨sl',e2⟩:=slot b _ (neL b o e) hb (neC b o e hx) e1 (I.base.free b o e n hx)
  exact ⟨sl',e2⟩
 ·obtain ⟨o',e1⟩:=I.base.there b o e hx
  exact free b o' (neC b o e hx) e1 (I.base.free b o e n hx)
 ·obtain ⟨o',e1⟩:=I.base.there b o e hx
  exact there b o' (neC b o e hx) e1
 ·obtain ⟨m1,e1⟩:=I.base.tbls b ps e
  obtain ⟨m2,e2⟩:=tbls b _ e1
  exact ⟨m1++m2,by rw [e2,Array.append_assoc]⟩
 ·obtain ⟨m,hn,hl⟩:=I.loc
  refine ⟨m,ns m hn,fun i x v e1 e2 e3=>?_⟩
  obtain ⟨u,r,l⟩:=hl i x v e1 e2 e3
  refine ⟨u,r,?_⟩
  rcases l with l | ⟨k,c,e,z⟩
  ·exact .inl l
  ·exact .inr ⟨k,c,e,cellK x c e _ z⟩
 ·obtain ⟨v,z⟩:=I.cell x c e
  exact ⟨v,cellK x c e v z⟩
 ·obtain ⟨m,⟨o,_,_,ho,_⟩,_⟩:=I.loc
  exact free _ o (fun z=>(hch _ z).2.1 rfl) ho I.free
 ·obtain ⟨v,o,ho,hd⟩:=I.cell x c e
  exact free c o (fun z=>(hch c z).2.2.1 x c e rfl) ho (I.freeC x c e)
 ·obtain ⟨e,n,ne,nf,d⟩:=I.pin p hp
  have nch:p.1∉ch:=fun z=>(hch p.1 z).2.2.2 p hp rfl
  exact ⟨keep p.1 p.2 ne nf nch e n,free p.1 p.2 nch e n,ne,nf,d⟩
theorem Inv.un {t':Nat} (I:Inv X pins σ H s) (u:Un X.fs [] H H' s.heap h') (hok:HOk X.prog X.w H' h'):Inv X pins σ H' { s with heap:=h',toks:=t' }:=by
 obtain ⟨m,⟨o,es,ep,ho,r⟩,_⟩:=id I.loc
 obtain ⟨sl,hL⟩:=u.any ho I.free (by simp)
 exact I.step (g':=s.gens) (d':=s.drawn) (ch:=[]) (fun _ z=>nomatch z) (fun b o _ hb _ e n=>u.keep b o e n hb (by simp)) (fun b o _ hb _ e n=>u.slot b o e n hb (by simp)) (fun b o _ e n=>u.free b o e n (by simp)) (fun b o _ e=>u.there b o e (by simp)) u.tups u.frzs u.tbls (fun m' hm=>by
  obtain ⟨o',es',ep',ho',r'⟩:=hm
  rw [ho] at ho';cases ho'
  exact ⟨_,es',ep',hL,r'⟩) hok I.bare
theorem Inv.call {g':Array GenState} {t':Nat} {d':Drawn} {ch:List Addr} (I:Inv X pins σ H s) (u:Un (frs X.stack) ch H H' s.heap h') (hok:HOk X.prog X.w H' h') (hg:AllBare g')
  (hch:∀ b∈ch,(b∈X.ex∨X.s₀.heap.objs.size≤b)∧b≠X.env.locals∧(∀ x c,X.env.cells.lookup x=some c→c≠b)∧∀ p∈X.pn++pins,p.1≠b) :
  Inv X pins σ H' { s with heap:=h',gens:=g',drawn:=d',toks:=t' }:=by
 obtain ⟨m,⟨o,es,ep,ho,r⟩,_⟩:=id I.loc
 obtain ⟨sl,hL⟩:=u.any ho I.free fun z=>(hch _ z).2.1 rfl
 exact I.step (ch:=ch) hch (fun b o hL hb hc e n=>u.keep b o e n (fun z=>(List.mem_cons.mp (I.stkSub b z)).elim hL hb) hc) (fun b o _ _ hc e n=>u.any e n hc) (fun b o hc e n=>u.free b o e n hc) (fun b o hc e=>u.there b o e hc) u.tups u.frzs u.tbls (fun m' hm=>by
  obtain ⟨o',es',ep',ho',r'⟩:=hm
  rw [ho] at ho';cases ho'
  exact ⟨_,es',ep',hL,r'⟩) hok hg
theorem Inv.turned {t':Nat} {it:Addr} (I:Inv X pins σ H s) (k:∀ b o,b≠it→s.heap.get? b=some o→h'.get? b=some o) (hn:H it=none) (hL:it≠X.env.locals)
  (h1:it∈X.ex∨X.s₀.heap.objs.size≤it) (h2:∀ x c,X.env.cells.lookup x=some c→c≠it) (h3:∀ p∈X.pn++pins,p.1≠it):Inv X pins σ H { s with heap:=h',toks:=t' }:=by
 have nit:∀ b u,H b=some u→b≠it:=fun b u e z=>by rw [z,hn] at e;cases e
 refine I.step (g':=s.gens) (d':=s.drawn) (ch:=[it]) (fun b hb=>?_) (fun b o _ _ hc e _=>k b o (fun z=>hc (by simp [z])) e) (fun b o _ _ hc e _=>⟨o.slots,k b o (fun z=>hc (by simp [z])) e⟩) (fun _ _ _ _ n=>n)
  (fun b o hc e=>⟨o,k b o (fun z=>hc (by simp [z])) e⟩) (fun _ _ e=>e) (fun _ _ _ e=>e) (fun b ps e=>⟨#[],by rw [e];simp⟩) (fun m hm=>?_) (fun b u e=>?_) I.bare
 ·have e:b=it:=by simpa using hb
  subst e
  exact ⟨h1,hL,h2,h3⟩
 ·obtain ⟨o,es,ep,ho,r⟩:=hm
  exact ⟨o,es,ep,k _ o (Ne.symm hL) ho,r⟩
 ·refine (I.hok b u e).stay (fun c v hc q=>k c v ?_ q) (fun _ q=>q) fun _ _ q=>q
  rcases hc with z | z
  ·rw [z];exact nit b u e
  ·exact nit c _ z
theorem Inv.tok (I:Inv X pins σ H s) (t:Nat):Inv X pins σ H { s with toks:=t }:=I.un (h':=s.heap) (t':=t) Un.refl I.hok
theorem Inv.kept {t':Nat} (I:Inv X pins σ H s) (k:∀ b u,s.heap.get? b=some u→h'.get? b=some u):Inv X pins σ H { s with heap:=h',toks:=t' }:=I.un (Un.kept k) (I.hok.kept k)
theorem Inv.laid {a:Addr} {o:HO} {t':Nat} (I:Inv X pins σ H s) (k:∀ b u,s.heap.get? b=some u→h'.get? b=some u) (hp:s.heap.objs.size≤a) (new:a1n X.prog X.w (upd H a o) h' a o) :
  Inv X pins σ (upd H a o) { s with heap:=h',toks:=t' }:=I.un (Un.laid k hp (I.hok.fresh hp)) (I.hok.laid k hp new)
theorem Inv.write {x e:Addr} {o:HO} {t':Nat} (I:Inv X pins σ H s) (mu:Mut (H x)) (he:e=x∨H e=some (.own x)) (k:∀ b u,b≠e→s.heap.get? b=some u→h'.get? b=some u) (heo:∃ u,h'.get? e=some u)
  (new:a1n X.prog X.w (upd H x o) h' x o):Inv X pins σ (upd H x o) { s with heap:=h',toks:=t' }:=I.un (Un.write mu he k heo) (I.hok.write mu he k heo new)
theorem Inv.weak {σ':List (Option V)} (I:Inv X pins σ H s) (hl:σ'.length=σ.length) (w:∀ (i:Nat) v,σ'[i]?=some (some v)→σ[i]?=some (some v)):Inv X pins σ' H s :=
 ⟨I.ok,I.os,I.bare,I.base,let ⟨m,hn,hl'⟩:=I.loc;⟨m,hn,fun i x v e1 e2 e3=>hl' i x v e1 (w i v e2) e3⟩,I.cell,I.free,I.freeC,I.pin,I.hok,hl.trans I.len⟩
theorem Inv.pins_of {pins':List (Addr × Obj)} (I:Inv X pins σ H s) (h:∀ p∈pins',s.heap.get? p.1=some p.2∧H p.1=none∧p.1≠X.env.locals∧p.1∉X.fs∧∀ v,p.2.data≠.cell v):Inv X pins' σ H s :=
 ⟨I.ok,I.os,I.bare,I.base,I.loc,I.cell,I.free,I.freeC,fun p hp=>(List.mem_append.mp hp).elim (fun z=>I.pin p (List.mem_append_left _ z)) (h p),I.hok,I.len⟩
theorem a5G {N:List Str} (hN:N.Nodup) {i j:Nat} {x:Str} (a:N[i]?=some x) (b:N[j]?=some x):i=j:=by
 obtain ⟨h1,e1⟩:=List.getElem?_eq_some_iff.mp a
 obtain ⟨h2,e2⟩:=List.getElem?_eq_some_iff.mp b
 exact (List.getElem_inj hN).mp (e1.trans e2.symm)
theorem a4D {M:Model} {A:Around} {E:Value→Shared→Prop} {i:Nat} {x:Str} {v:V} {u:Value} {Q:Unit→Shared→Prop} (I:Inv X pins σ H s) (hN:X.N.Nodup) (hi:X.N[i]?=some x) (hx:Loc X.env.scope x) (r:a1a v u)
  (h:∀ s',Inv X pins (σ.set i (some v)) H s'→(∃ a,Heap.SameBut a s.heap s'.heap∧(a=X.env.locals∨X.env.cells.lookup x=some a))→Q () s') (hf:X.fn x=true∨X.env.scope.names.lookup x=some .local:=by first | exact .inl rfl | exact .inr rfl | assumption):wpAny M A (storeName X.env x u) Q E s:=by
 obtain ⟨m,hn,hl⟩:=id I.loc
 have hcls:(X.env.scope.kind == .class || (X.env.scope.kind == .module && X.env.locals != X.env.globals))=false:=by rw [I.ok.kind];rfl
 have hiσ:i < σ.length:=by rw [I.len];exact (List.getElem?_eq_some_iff.mp hi).1
 have cne:=I.cne
 have tracked:∀ {a:Addr} {h':Heap},(∃ o,s.heap.get? a=some o∧H a=none)→Heap.SameBut a s.heap h'→HOk X.prog X.w H h':=fun {a h'} ha hs b ob e=>by
  obtain ⟨_,_,hfree⟩:=ha
  refine (I.hok b ob e).stay (fun c w' hc q=>(hs.2 c ?_).trans q) (fun _ q=>q) fun _ _ q=>q
  rintro rfl
  rcases hc with rfl | hc
  ·rw [hfree] at e;cases e
  ·rw [hfree] at hc;cases hc
 rcases hx with hk | hk
 ·refine wpAny_storeName_local hk hn (fun h' hn' hs=>?_) hcls
  obtain ⟨oL,_,_,hoL,_⟩:=id hn
  refine h _ ⟨I.ok,I.os,I.bare,⟨fun b o e n hb hx=>?_,fun b o e n hb hx=>?_,I.base.free,fun b o e hx=>?_,I.base.tups,I.base.frzs,I.base.tbls⟩,⟨_,hn',fun j y v' e1 e2 e3=>?_⟩,fun y c e=>?_,I.free,I.freeC,fun p hp=>?_,tracked ⟨oL,hoL,I.free⟩ hs,by simpa using I.len⟩ ⟨_,hs,.inl rfl⟩
  ·exact (hs.2 b (Nat.ne_of_lt (Nat.lt_of_lt_of_le (Heap.lt_size e) I.ok.above))).trans (I.base.keep b o e n hb hx)
  ·obtain ⟨sl,e1⟩:=I.base.slot b o e n hb hx
   exact ⟨sl,(hs.2 b (Nat.ne_of_lt (Nat.lt_of_lt_of_le (Heap.lt_size e) I.ok.above))).trans e1⟩
  ·obtain ⟨o',e1⟩:=I.base.there b o e hx
   exact ⟨o',(hs.2 b (Nat.ne_of_lt (Nat.lt_of_lt_of_le (Heap.lt_size e) I.ok.above))).trans e1⟩
  ·by_cases hj:j=i
   ·subst hj
    rw [hi] at e1;cases e1
    rw [List.getElem?_set_self hiσ] at e2
    cases e2
    exact ⟨u,r,.inl ⟨hk,by simp⟩⟩
   ·rw [List.getElem?_set_ne (Ne.symm hj)] at e2
    obtain ⟨u',r',q⟩:=hl j y v' e1 e2 e3
    refine ⟨u',r',?_⟩
    rcases q with ⟨k,e⟩ | ⟨k,c,e,z⟩
    ·refine .inl ⟨k,?_⟩
     have:y≠x:=fun e=>hj (a5G hN e1 (e▸hi))
     simp [this,e]
    ·exact .inr ⟨k,c,e,z.sameBut hs (cne y c e)⟩
  ·obtain ⟨w',z⟩:=I.cell y c e
   exact ⟨w',z.sameBut hs (cne y c e)⟩
  ·obtain ⟨e,n,ne,nf,d⟩:=I.pin p hp
   exact ⟨(hs.2 p.1 ne).trans e,n,ne,nf,d⟩
 ·have hfn:X.fn x=true:=by
   rcases hf with z | z
   ·exact z
   ·rw [z] at hk;cases hk
  obtain ⟨c,hc⟩:=I.ok.has x (.inl hk)
  obtain ⟨w',z⟩:=I.cell x c hc
  refine wpAny_storeName_cell I.ok.kind hk hc z (fun h' hc' hs=>?_)
  obtain ⟨oc,hoc,hocd⟩:=id z
  refine h { s with heap:=h' } ⟨I.ok,I.os,I.bare,⟨fun b o e n hb hx=>?_,fun b o e n hb hx=>?_,I.base.free,fun b o e hx=>?_,I.base.tups,I.base.frzs,I.base.tbls⟩,⟨m,hn.sameBut hs (Ne.symm (cne x c hc)),fun j y v' e1 e2 e3=>?_⟩,fun y c' e=>?_,I.free,I.freeC,fun p hp=>?_,tracked ⟨oc,hoc,I.freeC x c hc⟩ hs,by simpa using I.len⟩ ⟨c,hs,.inr hc⟩
  ·exact (hs.2 b (Nat.ne_of_lt (Nat.lt_of_lt_of_le (Heap.lt_size e) (I.ok.cab x c hfn hc)))).trans (I.base.keep b o e n hb hx)
  ·obtain ⟨sl,e1⟩:=I.base.slot b o e n hb hx
   exact ⟨sl,(hs.2 b (Nat.ne_of_lt (Nat.lt_of_lt_of_le (Heap.lt_size e) (I.ok.cab x c hfn hc)))).trans e1⟩
  ·obtain ⟨o',e1⟩:=I.base.there b o e hx
   exact ⟨o',(hs.2 b (Nat.ne_of_lt (Nat.lt_of_lt_of_le (Heap.lt_size e) (I.ok.cab x c hfn hc)))).trans e1⟩
  ·by_cases hj:j=i
   ·subst hj
    rw [hi] at e1;cases e1
    rw [List.getElem?_set_self hiσ] at e2
    cases e2
    exact ⟨u,r,.inr ⟨.inl hk,c,hc,hc'⟩⟩
   ·rw [List.getElem?_set_ne (Ne.symm hj)] at e2
    obtain ⟨u',r',q⟩:=hl j y v' e1 e2 e3
    refine ⟨u',r',?_⟩
    rcases q with q | ⟨k,c',e,z'⟩
    ·exact .inl q
    ·refine .inr ⟨k,c',e,z'.sameBut hs ?_⟩
     rintro rfl
     exact hj (a5G hN e1 (I.ok.inj _ _ _ e hc▸hi))
  ·by_cases hcc:c'=c
   ·subst hcc;exact ⟨_,hc'⟩
   ·obtain ⟨w2,z2⟩:=I.cell y c' e
    exact ⟨w2,z2.sameBut hs hcc⟩
  ·obtain ⟨e,n,ne,nf,d⟩:=I.pin p hp
   refine ⟨(hs.2 p.1 ?_).trans e,n,ne,nf,d⟩
   intro q
   rw [q,hoc] at e
   have q':oc=p.2:=Option.some.inj e
   exact d w' (by rw [←q'];exact hocd)
theorem a3W {M:Model} {A:Around} {E:Value→Shared→Prop} {i:Nat} {x:Str} {v:V} {u:Value} {Q:Unit→Shared→Prop} (I:Inv X pins σ H s) (hN:X.N.Nodup) (hi:X.N[i]?=some x) (hx:Loc X.env.scope x) (r:a1a v u)
  (h:∀ s',Inv X pins (σ.set i (some v)) H s'→Q () s') (hf:X.fn x=true∨X.env.scope.names.lookup x=some .local:=by first | exact .inl rfl | exact .inr rfl | assumption):wpAny M A (storeName X.env x u) Q E s :=
 a4D I hN hi hx r (fun s' I' _=>h s' I') hf
theorem Inv.call' {s':Shared} {ch:List Addr} (I:Inv X pins σ H s) (ho:s'.os=s.os) (u:Un (frs X.stack) ch H H' s.heap s'.heap) (hok:HOk X.prog X.w H' s'.heap) (hg:AllBare s'.gens)
  (hch:∀ b∈ch,(b∈X.ex∨X.s₀.heap.objs.size≤b)∧b≠X.env.locals∧(∀ x c,X.env.cells.lookup x=some c→c≠b)∧∀ p∈X.pn++pins,p.1≠b):Inv X pins σ H' s':=by
 obtain ⟨h',g',d',t',o'⟩:=s'
 have e:o'=s.os:=ho
 subst e
 exact I.call (g':=g') (t':=t') (d':=d') u hok hg hch
end
abbrev XK:=Value→Option Addr→Hp→Prop
abbrev St:=List (Option V)
abbrev VK:=V→Hp→Prop
abbrev TE:=St→Hp→VK→Prop
abbrev TT:=St→Hp→(Bool→Hp→Prop)→Prop
abbrev TA:=St→Hp→(List V→Hp→Prop)→Prop
structure a8Y where
 nx:St→Hp→Prop
 rt:VK
 bk:St→Hp→Prop:=fun _ _=>False
 ct:St→Hp→Prop:=fun _ _=>False
abbrev TS:=a8Y→St→Hp→Prop
def EP (X:Cx) (pins:List (Addr × Obj)) (σ:St) (Q:VK) (u:Value) (s':Shared):Prop:=∃ v H',Inv X pins σ H' s'∧a1a v u∧Q v H'
def TP (X:Cx) (pins:List (Addr × Obj)) (σ:St) (Q:Bool→Hp→Prop) (b:Bool) (s':Shared):Prop:=∃ H',Inv X pins σ H' s'∧Q b H'
def AP (X:Cx) (pins:List (Addr × Obj)) (σ:St) (Q:List V→Hp→Prop) (us:List Value) (s':Shared):Prop:=∃ vs H',Inv X pins σ H' s'∧a0O vs us∧Q vs H'
def SP (X:Cx) (pins:List (Addr × Obj)) (D:a8Y) (f:Flow) (s':Shared):Prop :=
 match f with
 | .next=>∃ σ' H',Inv X pins σ' H' s'∧D.nx σ' H'
 | .brk=>∃ σ' H',Inv X pins σ' H' s'∧D.bk σ' H'
 | .cont=>∃ σ' H',Inv X pins σ' H' s'∧D.ct σ' H'
 | .ret u=>∃ v σ' H',Inv X pins σ' H' s'∧a1a v u∧D.rt v H'
def PE (X:Cx) (e:Expr) (t:TE):Prop :=
 ∀ (pins:List (Addr × Obj)) (s:Shared) (σ:St) (H:Hp) (Q:VK),Inv X pins σ H s→t σ H Q→wpAny (model X.prog X.w) X.A (eval e X.env) (EP X pins σ Q) X.xe s
def PT (X:Cx) (e:Expr) (t:TT):Prop :=
 ∀ (pins:List (Addr × Obj)) (s:Shared) (σ:St) (H:Hp) (Q:Bool→Hp→Prop),Inv X pins σ H s→t σ H Q→wpAny (model X.prog X.w) X.A (isTrue e X.env (eval e X.env)) (TP X pins σ Q) X.xe s
def PW (X:Cx) (e:Expr) (t:TT):Prop :=
 ∀ (whole:Sem Value) (pins:List (Addr × Obj)) (s:Shared) (σ:St) (H:Hp) (Q:Bool→Hp→Prop),Inv X pins σ H s→t σ H Q→wpAny (model X.prog X.w) X.A (isTrue e X.env whole) (TP X pins σ Q) X.xe s
theorem PW.pt {X:Cx} {e:Expr} {t:TT} (h:PW X e t):PT X e t:=h _
def PA (X:Cx) (es:List Expr) (t:TA):Prop :=
 ∀ (pos:Pos) (pins:List (Addr × Obj)) (s:Shared) (σ:St) (H:Hp) (Q:List V→Hp→Prop),Inv X pins σ H s→t σ H Q→wpAny (model X.prog X.w) X.A (spliced (backTo pos (starEach es X.env))) (AP X pins σ Q) X.xe s
def PS (X:Cx) (st:Stmt) (t:TS):Prop :=
 ∀ (pins:List (Addr × Obj)) (s:Shared) (σ:St) (H:Hp) (D:a8Y),Inv X pins σ H s→t D σ H→wpAny (model X.prog X.w) X.A (exec st X.env) (SP X pins D) X.xe s
def PSs (X:Cx) (st:List Stmt) (t:TS):Prop :=
 ∀ (pins:List (Addr × Obj)) (s:Shared) (σ:St) (H:Hp) (D:a8Y),Inv X pins σ H s→t D σ H→wpAny (model X.prog X.w) X.A (execs st X.env) (SP X pins D) X.xe s
theorem thn {α:Type} {t:Sem α} {Q Q':α→Shared→Prop} {M:Model} {A:Around} {E:Value→Shared→Prop} {s:Shared} (h:wpAny M A t Q E s) (hQ:∀ a s,Q a s→Q' a s):wpAny M A t Q' E s:=wpAny_mono h hQ fun _ _ x=>x
section
variable {X:Cx}
def tVar (i:Nat):TE:=fun σ H Q=>∃ v,σ[i]?=some (some v)∧Q v H
def tC (v:V):TE:=fun _ H Q=>Q v H
theorem b0u {i:Nat} {x:Str} {pos:Pos} (hN:X.N[i]?=some x) (hv:Vis X.env.scope x) (hd:(x == ("__debug__":Str))=false:=by decide) (hcd:(x == ("__classdict__":Str))=false:=by decide):PE X (.Name x pos) (tVar i):=by
 intro pins s σ H Q I h
 obtain ⟨v,e,h⟩:=h
 obtain ⟨m,hn,hl⟩:=I.loc
 obtain ⟨u,r,l⟩:=hl i x v hN e hv
 have fin:EP X pins σ Q u s:=⟨v,H,I,r,h⟩
 rcases l with ⟨hk,hm⟩ | ⟨hk,c,hc,hcell⟩
 ·exact wpAny_Name (wpAny_loadName_local I.ok.kind hk hn hm fin) hd
 ·rcases hk with hk | hk
  ·exact wpAny_Name (wpAny_loadName_cell I.ok.kind hk hc hcell fin) hd
  ·exact wpAny_Name (wpAny_loadName_free I.ok.kind hk hc hcell fin hcd) hd
theorem a0f {i j pos}:PE X (.Constant (.int i) j pos) (tC (.int i)):=fun _ _ _ H _ I h=>wpAny_Constant_int ⟨.int i,H,I.tok _,⟨_,rfl⟩,h⟩
theorem a1C {b j pos}:PE X (.Constant (.bool b) j pos) (tC (.bl b)):=fun _ _ _ H _ I h=>Constant_bool ⟨.bl b,H,I,rfl,h⟩
theorem a1m {j pos}:PE X (.Constant .none j pos) (tC .non):=fun _ _ _ H _ I h=>Constant_none ⟨.non,H,I,rfl,h⟩
theorem b0v {x j pos}:PE X (.Constant (.str x) j pos) (tC (.str x)):=fun _ _ _ H _ I h=>Calls.Constant_str ⟨.str x,H,I.tok _,⟨_,rfl⟩,h⟩
def Gl (X:Cx) (x:Str):Prop:=X.env.kindOf x=some .globalImplicit
theorem a3X {E:Value→Shared→Prop} {pins:List (Addr × Obj)} {s:Shared} {σ:St} {H:Hp} {x:Str} {u:Value} {pos:Pos} {Q:Value→Shared→Prop} (I:Inv X pins σ H s) (hg:Gl X x) (hm:X.mg x=some u) (h:Q u s)
  (hd:(x == ("__debug__":Str))=false:=by decide):wpAny (model X.prog X.w) X.A (eval (.Name x pos) X.env) Q E s :=
 Calls.Name_function_global I.ok.kind hg (Calls.loadGlobal_global (by rw [I.ok.glob];exact I.mod.glob.keeps I.bk) hm h) hd
theorem a2k {E:Value→Shared→Prop} {pins:List (Addr × Obj)} {s:Shared} {σ:St} {H:Hp} {x:Str} {u:Value} {pos:Pos} {Q:Value→Shared→Prop} (I:Inv X pins σ H s) (hg:Gl X x) (hm:X.mg x=none) (hv:bootBuiltins x=some u) (h:Q u s)
  (hn:x≠"__name__":=by decide) (hd:(x == ("__debug__":Str))=false:=by decide):wpAny (model X.prog X.w) X.A (eval (.Name x pos) X.env) Q E s:=by
 obtain ⟨mb,h1,h2⟩:=I.mod.blt
 exact Calls.Name_function_global I.ok.kind hg (Calls.loadGlobal_builtin (by rw [I.ok.glob];exact I.mod.glob.keeps I.bk) hm (by rw [I.ok.blt];exact h1.keeps I.bk) ((h2 x hn).trans hv) h) hd
def t2I (ta tb:TE) (k:Int→Int→Hp→Prop):St→Hp→Prop:=fun σ H=>ta σ H fun x H1=>tb σ H1 fun y H2=>∃ i j,x=.int i∧y=.int j∧k i j H2
def tMul (ta tb:TE):TE:=fun σ H Q=>t2I ta tb (fun i j H2=>(-(2 ^ 64) < i∧i < 2 ^ 64)∧Q (.int (i * j)) H2) σ H
variable {a b:Expr} {ta tb:TE} {pos:Pos}
def PC (X:Cx) (op:CmpOp) (a b:Expr) (t:TE):Prop :=
 ∀ (pins:List (Addr × Obj)) (s:Shared) (σ:St) (H:Hp) (Q:VK),Inv X pins σ H s→t σ H Q →
  wpAny (model X.prog X.w) X.A (eval a X.env) (fun v s₁=>wpAny (model X.prog X.w) X.A (eval b X.env) (fun u s₂=>wpAny (model X.prog X.w) X.A (compareOp op v u) (EP X pins σ Q) X.xe s₂) X.xe s₁) X.xe s
theorem nobehind (b:Expr) {op:CmpOp} (h:op≠.In) (h2:op≠.NotIn):behindInMarks op b=false:=by
 have e1:(op == CmpOp.In)=false:=by cases op <;> first | rfl | exact absurd rfl h
 have e2:(op == CmpOp.NotIn)=false:=by cases op <;> first | rfl | exact absurd rfl h2
 cases b <;> simp [behindInMarks,e1,e2]
def tIsN (ta:TE):TE:=fun σ H Q=>ta σ H fun x H1=>Q (.bl (decide (x=.non))) H1
def tNotN (ta:TE):TE:=fun σ H Q=>ta σ H fun x H1=>Q (.bl (!decide (x=.non))) H1
theorem a1a.none_iff {x:V} {v:Value} (r:a1a x v):(v == Value.none)=decide (x=.non):=by
 cases x with
 | non=>cases r;rfl
 | bl _=>cases r;rfl
 | int _=>obtain ⟨t,rfl⟩:=r;rfl
 | str _=>obtain ⟨t,rfl⟩:=r;rfl
 | byt _=>obtain ⟨t,rfl⟩:=r;rfl
 | flt _=>obtain ⟨t,rfl⟩:=r;rfl
 | ref _=>cases r;rfl
 | ty _=>cases r;rfl
theorem a3a {j pos'} (ha:PE X a ta):PC X .Is a (.Constant .none j pos') (tIsN ta):=by
 intro pins s σ H Q I h
 refine thn (ha pins s σ H _ I h) fun v s1 ⟨x,H1,I1,r1,q1⟩=>?_
 exact Constant_none (is_none_gen ⟨.bl _,H1,I1,by rw [r1.none_iff];rfl,q1⟩)
theorem a6X {j pos'} (ha:PE X a ta):PC X .IsNot a (.Constant .none j pos') (tNotN ta):=by
 intro pins s σ H Q I h
 refine thn (ha pins s σ H _ I h) fun v s1 ⟨x,H1,I1,r1,q1⟩=>?_
 exact Constant_none (isnot_none_gen ⟨.bl _,H1,I1,by rw [r1.none_iff];rfl,q1⟩)
def tB (t:TE):TT:=fun σ H Q=>t σ H fun x H1=>∃ c,x=.bl c∧Q c H1
theorem a5H {op:CmpOp} {t:TE} (h:PC X op a b t) (h1:behindInMarks op b=false:=by first | exact nobehind _ (by decide) (by decide) | rfl):PE X (.Compare a [op] [b] pos) t:=fun pins s σ H Q I hw=>wpAny_Compare1 (h pins s σ H Q I hw) h1
theorem a4E {op:CmpOp} {t:TE} (h:PC X op a b t) (h1:behindInMarks op b=false:=by first | exact nobehind _ (by decide) (by decide) | rfl):PT X (.Compare a [op] [b] pos) (tB t):=by
 intro pins s σ H Q I hw
 refine wpAny_isTrue_Compare1 (thn (h pins s σ H _ I hw) fun v s1 h1=>thn h1 fun u s2 h2=>thn h2 fun c s3 ⟨x,H1,I1,r1,q1⟩=>?_) h1
 obtain ⟨d,rfl,q⟩:=q1
 cases r1
 exact wpAny_truthy_bool ⟨H1,I1,q⟩
theorem a1O {e:Expr} {t:TE} (h:PE X e t) (he:∀ whole,isTrue e X.env whole=(do let v ←whole;standAt e.pos;holding [v] (truthy v)):=by intro _;rfl):PT X e (tB t):=by
 intro pins s σ H Q I hw
 refine isTrue_plain (thn (h pins s σ H _ I hw) fun v s1 ⟨x,H1,I1,r1,q1⟩=>?_) (he _)
 obtain ⟨d,rfl,q⟩:=q1
 cases r1
 exact wpAny_truthy_bool ⟨H1,I1,q⟩
variable {tA tB':TT} {rest:List Expr}
def tAnd (t u:TT):TT:=fun σ H Q=>t σ H fun c H1=>if c=true then u σ H1 Q else Q false H1
def tOr (t u:TT):TT:=fun σ H Q=>t σ H fun c H1=>if c=true then Q true H1 else u σ H1 Q
def tNot (t:TT):TT:=fun σ H Q=>t σ H fun c H1=>Q (!c) H1
theorem a6Y (ha:PT X a tA):PW X (.BoolOp .And [a] pos) tA:=by
 intro wh pins s σ H Q I h
 refine isTrue_and (thn (ha pins s σ H Q I h) fun c s1 e=>?_)
 cases c with
 | true=>exact isTrue_and_nil e
 | false=>exact e
theorem a3I (ha:PT X a tA):PW X (.BoolOp .Or [a] pos) tA:=by
 intro wh pins s σ H Q I h
 refine isTrue_or (thn (ha pins s σ H Q I h) fun c s1 e=>?_)
 cases c with
 | false=>exact isTrue_or_nil e
 | true=>exact e
theorem b0w (ha:PT X a tA) (hb:PW X (.BoolOp .And (b :: rest) pos) tB'):PW X (.BoolOp .And (a :: b :: rest) pos) (tAnd tA tB'):=by
 intro wh pins s σ H Q I h
 refine isTrue_and (thn (ha pins s σ H _ I h) fun c s1 ⟨H1,I1,q1⟩=>?_)
 cases c with
 | true=>exact hb wh pins s1 σ H1 Q I1 q1
 | false=>exact ⟨H1,I1,q1⟩
theorem a6n (ha:PT X a tA) (hb:PW X (.BoolOp .Or (b :: rest) pos) tB'):PW X (.BoolOp .Or (a :: b :: rest) pos) (tOr tA tB'):=by
 intro wh pins s σ H Q I h
 refine isTrue_or (thn (ha pins s σ H _ I h) fun c s1 ⟨H1,I1,q1⟩=>?_)
 cases c with
 | true=>exact ⟨H1,I1,q1⟩
 | false=>exact hb wh pins s1 σ H1 Q I1 q1
theorem a2l (ha:PT X a tA):PT X (.UnaryOp .Not a pos) (tNot tA):=by
 intro pins s σ H Q I h
 exact isTrue_not (ha pins s σ H (fun c H1=>Q (!c) H1) I h)
def tAndV (ta tb:TE):TE:=fun σ H Q=>ta σ H fun x H1=>∃ c,x=.bl c∧if c=true then tb σ H1 Q else Q (.bl false) H1
def tOrV (ta tb:TE):TE:=fun σ H Q=>ta σ H fun x H1=>∃ c,x=.bl c∧if c=true then Q (.bl true) H1 else tb σ H1 Q
def tNotV (ta:TE):TE:=fun σ H Q=>ta σ H fun x H1=>∃ c,x=.bl c∧Q (.bl (!c)) H1
theorem a4F {op} {t:TE} (h:PE X a t):PE X (.BoolOp op [a] pos) t:=fun pins s σ H Q I hw=>BoolOp_one (h pins s σ H Q I hw)
theorem a5I (ha:PE X a ta) (hb:PE X (.BoolOp .And (b :: rest) pos) tb):PE X (.BoolOp .And (a :: b :: rest) pos) (tAndV ta tb):=by
 intro pins s σ H Q I h
 refine BoolOp_and (thn (ha pins s σ H _ I h) fun v s1 ⟨x,H1,I1,r1,q1⟩=>?_)
 obtain ⟨c,rfl,q1⟩:=q1
 cases r1
 refine wpAny_truthy_bool ?_
 cases c with
 | true=>exact hb pins s1 σ H1 Q I1 q1
 | false=>exact ⟨.bl false,H1,I1,rfl,q1⟩
theorem pe_or (ha:PE X a ta) (hb:PE X (.BoolOp .Or (b :: rest) pos) tb):PE X (.BoolOp .Or (a :: b :: rest) pos) (tOrV ta tb):=by
 intro pins s σ H Q I h
 refine BoolOp_or (thn (ha pins s σ H _ I h) fun v s1 ⟨x,H1,I1,r1,q1⟩=>?_)
 obtain ⟨c,rfl,q1⟩:=q1
 cases r1
 refine wpAny_truthy_bool ?_
 cases c with
 | false=>exact hb pins s1 σ H1 Q I1 q1
 | true=>exact ⟨.bl true,H1,I1,rfl,q1⟩
theorem pe_not (ha:PE X a ta):PE X (.UnaryOp .Not a pos) (tNotV ta):=by
 intro pins s σ H Q I h
 refine UnaryOp_ (thn (ha pins s σ H _ I h) fun v s1 ⟨x,H1,I1,r1,q1⟩=>?_)
 obtain ⟨c,rfl,q1⟩:=q1
 cases r1
 exact not_of (wpAny_truthy_bool ⟨.bl (!c),H1,I1,rfl,q1⟩)
def tIf (t:TT) (ta tb:TE):TE:=fun σ H Q=>t σ H fun c H1=>if c=true then ta σ H1 Q else tb σ H1 Q
end
def SqL (K:PySem.W.Frag) (H:Hp) (a:Addr) (xs:List V):Prop :=
 Rd H a (.lst xs) ∨
  ∃ (o:Obj) (its:Array Value) (n:Nat),K.lookup a=some o∧o.cls=.type "list"∧o.dict=none∧o.data=.seq its n∧its.size≤sizeLine∧a0O xs its.toList
def SqT (K:PySem.W.Frag) (H:Hp) (a:Addr) (xs:List V):Prop :=
 Rd H a (.tup xs) ∨
  ∃ (o:Obj) (its:Array Value) (n:Nat),K.lookup a=some o∧o.cls=.type "tuple"∧o.data=.seq its n∧its.size≤sizeLine∧a0O xs its.toList
def absV:Value→Option V
 | .none=>some .non
 | .bool b=>some (.bl b)
 | .int i _=>some (.int i)
 | .str x _=>some (.str x)
 | .bytes b _=>some (.byt b)
 | .float b _=>some (.flt b)
 | .ref a=>some (.ref a)
 | .type n=>some (.ty n)
 | _=>none
theorem a1a.abs {x:V} {u:Value} (r:a1a x u):absV u=some x:=by
 cases x with
 | non=>cases r;rfl
 | bl _=>cases r;rfl
 | int _=>obtain ⟨t,rfl⟩:=r;rfl
 | str _=>obtain ⟨t,rfl⟩:=r;rfl
 | byt _=>obtain ⟨t,rfl⟩:=r;rfl
 | flt _=>obtain ⟨t,rfl⟩:=r;rfl
 | ref _=>cases r;rfl
 | ty _=>cases r;rfl
theorem a1a.inj {x y:V} {u:Value} (r:a1a x u) (q:a1a y u):x=y:=Option.some.inj (r.abs.symm.trans q.abs)
theorem a0O.inj:∀ {xs ys:List V} {us:List Value},a0O xs us→a0O ys us→xs=ys
 | _,_,_,.nil,.nil=>rfl
 | _,_,_,.cons r t,.cons r' t'=>by rw [r.inj r',a0O.inj t t']
section
variable {X:Cx} {pins:List (Addr × Obj)} {σ:St} {H:Hp} {s:Shared} {a:Addr} {xs ys:List V}
theorem SqL.of {K:PySem.W.Frag} (h:H a=some (.lst xs)):SqL K H a xs:=.inl (.inl h)
theorem SqT.of {K:PySem.W.Frag} (h:H a=some (.tup xs)):SqT K H a xs:=.inl (.inl h)
theorem Inv.list (I:Inv X pins σ H s) (h:SqL X.K H a xs):∃ its:List Value,a0O xs its∧PlainL s.heap a its.toArray∧xs.length≤sizeLine:=by
 rcases h with h | ⟨o,its,n,hk,hc,hd,hs,hz,r⟩
 ·obtain ⟨z,its,n,r,e⟩:=h.ok I.hok
  exact ⟨its,r,⟨_,n,e,rfl,rfl,rfl⟩,z⟩
 ·refine ⟨its.toList,r,⟨o,n,I.kIn a o hk,hc,hd,by simpa using hs⟩,?_⟩
  have e:=r.length
  simp only [Array.length_toList] at e
  omega
theorem Inv.tuple (I:Inv X pins σ H s) (h:SqT X.K H a xs):∃ its:List Value,a0O xs its∧IsTup s.heap a its.toArray∧xs.length≤sizeLine:=by
 rcases h with h | ⟨o,its,n,hk,hc,hs,hz,r⟩
 ·obtain ⟨z,its,r,p⟩:=h.ok I.hok
  exact ⟨its,r,p.is,z⟩
 ·refine ⟨its.toList,r,⟨o,I.kIn a o hk,hc,n,by simpa using hs⟩,?_⟩
  have e:=r.length
  simp only [Array.length_toList] at e
  omega
theorem Inv.list_inj (I:Inv X pins σ H s) (h:SqL X.K H a xs) (h':SqL X.K H a ys):xs=ys:=by
 obtain ⟨its,r,⟨o,n,e,_,_,d⟩,_⟩:=I.list h
 obtain ⟨its',r',⟨o',n',e',_,_,d'⟩,_⟩:=I.list h'
 rw [e] at e';cases e'
 rw [d] at d'
 injection d' with d1 _
 have:its=its':=by simpa using congrArg Array.toList d1
 subst this
 exact r.inj r'
theorem Inv.tuple_inj (I:Inv X pins σ H s) (h:SqT X.K H a xs) (h':SqT X.K H a ys):xs=ys:=by
 obtain ⟨its,r,⟨o,e,_,n,d⟩,_⟩:=I.tuple h
 obtain ⟨its',r',⟨o',e',_,n',d'⟩,_⟩:=I.tuple h'
 rw [e] at e';cases e'
 rw [d] at d'
 injection d' with d1 _
 have:its=its':=by simpa using congrArg Array.toList d1
 subst this
 exact r.inj r'
end
abbrev Cx.wish (X:Cx) (E:Value→Shared→Prop):Cx:={ X with xe:=E }
abbrev Cx.nox (X:Cx):Cx:=X.wish fun _ _=>False
theorem Cx.Ok.wish {X:Cx} (ok:X.Ok) (E:Value→Shared→Prop):(X.wish E).Ok :=
 ⟨ok.mod,ok.kind,ok.glob,ok.blt,ok.above,ok.inj,ok.has,ok.cab,ok.hd,ok.frames,ok.stk,ok.exf,ok.bs,ok.bsz,ok.noex,ok.exfs,ok.funs,ok.frf⟩
theorem Cx.Ok.unwish {X:Cx} {E:Value→Shared→Prop} (ok:(X.wish E).Ok):X.Ok :=
 ⟨ok.mod,ok.kind,ok.glob,ok.blt,ok.above,ok.inj,ok.has,ok.cab,ok.hd,ok.frames,ok.stk,ok.exf,ok.bs,ok.bsz,ok.noex,ok.exfs,ok.funs,ok.frf⟩
section
variable {X:Cx} {pins:List (Addr × Obj)} {σ:St} {H:Hp} {s:Shared} {E:Value→Shared→Prop}
theorem Inv.wish (I:Inv X pins σ H s) (E:Value→Shared→Prop):Inv (X.wish E) pins σ H s:=⟨I.ok.wish E,I.os,I.bare,I.base,I.loc,I.cell,I.free,I.freeC,I.pin,I.hok,I.len⟩
theorem Inv.unwish (I:Inv (X.wish E) pins σ H s):Inv X pins σ H s:=⟨I.ok.unwish,I.os,I.bare,I.base,I.loc,I.cell,I.free,I.freeC,I.pin,I.hok,I.len⟩
theorem SP.unwish {D:a8Y} {f:Flow} {s':Shared} (h:SP (X.wish E) pins D f s'):SP X pins D f s':=by
 cases f with
 | next=>obtain ⟨σ',H',I,q⟩:=h;exact ⟨σ',H',I.unwish,q⟩
 | brk=>obtain ⟨σ',H',I,q⟩:=h;exact ⟨σ',H',I.unwish,q⟩
 | cont=>obtain ⟨σ',H',I,q⟩:=h;exact ⟨σ',H',I.unwish,q⟩
 | ret u=>obtain ⟨v,σ',H',I,r,q⟩:=h;exact ⟨v,σ',H',I.unwish,r,q⟩
theorem PSs.nox {st:List Stmt} {t:TS} (h:PSs X.nox st t):PSs X st t:=fun pins s σ H D I hw =>
 wpAny_mono (h pins s σ H D (I.wish _) hw) (fun _ _ q=>q.unwish) fun _ _ z=>False.elim z
end
section
variable {X:Cx} {st:Stmt} {rest:List Stmt} {t u:TS} {e:Expr} {te:TE} {pos:Pos}
def tNext:TS:=fun D σ H=>D.nx σ H
def tSeq (t u:TS):TS:=fun D σ H=>t { D with nx:=u D } σ H
theorem a0B:PSs X [] tNext:=fun _ _ σ H _ I h=>wpAny_execs_nil ⟨σ,H,I,h⟩
theorem a0e (h1:PS X st t) (h2:PSs X rest u):PSs X (st :: rest) (tSeq t u):=by
 intro pins s σ H D I h
 refine wpAny_execs_cons (thn (h1 pins s σ H { D with nx:=u D } I h) fun f s1 q=>?_)
 cases f with
 | next =>
  obtain ⟨σ',H',I',q⟩:=q
  exact h2 pins s1 σ' H' D I' q
 | ret v=>exact q
 | brk=>exact q
 | cont=>exact q
theorem a0g (h1:PS X st t):PSs X [st] t:=by
 intro pins s σ H D I h
 refine wpAny_execs_cons (thn (h1 pins s σ H D I h) fun f s1 q=>?_)
 cases f with
 | next=>exact wpAny_execs_nil q
 | ret v=>exact q
 | brk=>exact q
 | cont=>exact q
theorem Inv.quiet {pins:List (Addr × Obj)} {σ:St} {H:Hp} {s:Shared} (I:Inv X pins σ H s):interactive X.env=false:=by simp [interactive,I.ok.kind]
def tDrop (te:TE):TS:=fun D σ H=>te σ H fun _ H1=>D.nx σ H1
theorem a1w (he:PE X e te) (hs:swapsWith e none pos.line X.env=pure false:=by rfl):PS X (.Expr e pos) (tDrop te):=by
 intro pins s σ H D I h
 exact wpAny_Expr_any (thn (he pins s σ H _ I h) fun v s1 ⟨x,H1,I1,r1,q1⟩=>⟨σ,H1,I1,q1⟩) I.quiet hs
def tRet (te:TE):TS:=fun D σ H=>te σ H D.rt
theorem a0q (he:PE X e te):PS X (.Return (some e) pos) (tRet te):=by
 intro pins s σ H D I h
 exact wpAny_Return_some (thn (he pins s σ H _ I h) fun v s1 ⟨x,H1,I1,r1,q1⟩=>⟨x,σ,H1,I1,r1,q1⟩)
def tIfS (c:TT) (t u:TS):TS:=fun D σ H=>c σ H fun b H1=>if b=true then t D σ H1 else u D σ H1
theorem a0Y {c:Expr} {a b:List Stmt} {tc:TT} (hc:PT X c tc) (ha:PSs X a t) (hb:PSs X b u):PS X (.If c a b pos) (tIfS tc t u):=by
 intro pins s σ H D I h
 refine wpAny_If (thn (hc pins s σ H _ I h) fun d s1 ⟨H1,I1,q1⟩=>?_)
 cases d with
 | true=>exact ha pins s1 σ H1 D I1 q1
 | false=>exact hb pins s1 σ H1 D I1 q1
def tNever:TS:=fun _ _ _=>False
end
abbrev TG:=V→St→Hp→(St→Hp→Prop)→Prop
abbrev TGs:=List V→St→Hp→(St→Hp→Prop)→Prop
def PG (X:Cx) (target:Expr) (t:TG):Prop :=
 ∀ (pins:List (Addr × Obj)) (s:Shared) (σ:St) (H:Hp) (v:V) (u:Value) (Q:St→Hp→Prop),Inv X pins σ H s→a1a v u→t v σ H Q →
  wpAny (model X.prog X.w) X.A (assign target X.env u) (fun _ s'=>∃ σ' H',Inv X pins σ' H' s'∧Q σ' H') X.xe s
def PGs (X:Cx) (ts:List Expr) (t:TGs):Prop :=
 ∀ (pins:List (Addr × Obj)) (s:Shared) (σ:St) (H:Hp) (vs:List V) (us:List Value) (Q:St→Hp→Prop),Inv X pins σ H s→a0O vs us→t vs σ H Q →
  wpAny (model X.prog X.w) X.A (assignInOrder ((assignEach ts X.env).map (·.2)) us) (fun _ s'=>∃ σ' H',Inv X pins σ' H' s'∧Q σ' H') X.xe s
abbrev TSet:=V→V→V→Hp→(Hp→Prop)→Prop
def PSet (X:Cx) (t:TSet):Prop :=
 ∀ (pins:List (Addr × Obj)) (s:Shared) (σ:St) (H:Hp) (o i v:V) (ov iv u:Value) (Q:Hp→Prop),Inv X pins σ H s→a1a o ov→a1a i iv→a1a v u→t o i v H Q →
  wpAny (model X.prog X.w) X.A (setItem ov iv u) (fun _ s'=>∃ H',Inv X pins σ H' s'∧Q H') X.xe s
abbrev TIp:=V→V→Hp→VK→Prop
def PIp (X:Cx) (op:Operator) (t:TIp):Prop :=
 ∀ (pins:List (Addr × Obj)) (s:Shared) (σ:St) (H:Hp) (x y:V) (v u:Value) (Q:VK),Inv X pins σ H s→a1a x v→a1a y u→t x y H Q →
  wpAny (model X.prog X.w) X.A (inplaceOp op v u) (EP X pins σ Q) X.xe s
section
variable {X:Cx} {pos:Pos}
def a1Z (i:Nat):TG:=fun v σ H Q=>Q (σ.set i (some v)) H
theorem a0H {i:Nat} {x:Str} (hN:X.N.Nodup) (hi:X.N[i]?=some x) (hx:Loc X.env.scope x) (hf:X.fn x=true∨X.env.scope.names.lookup x=some .local:=by first | exact .inl rfl | exact .inr rfl | assumption):PG X (.Name x pos) (a1Z i):=by
 intro pins s σ H v u Q I r h
 exact wpAny_assign_Name (a3W I hN hi hx r (fun s' I'=>⟨_,H,I',h⟩) hf)
def gNil:TGs:=fun vs σ H Q=>vs=[]∧Q σ H
def b1d (t:TG) (u:TGs):TGs:=fun vs σ H Q=>∃ v r,vs=v :: r∧t v σ H fun σ' H'=>u r σ' H' Q
theorem a5j:PGs X [] gNil:=by
 intro pins s σ H vs us Q I r h
 obtain ⟨e,h⟩:=h
 subst e
 cases r
 exact assignInOrder_nil ⟨σ,H,I,h⟩
theorem a1u {e:Expr} {es:List Expr} {t:TG} {u:TGs} (h1:PG X e t) (h2:PGs X es u)
  (hs:(assignEach (e :: es) X.env).map (·.2)=assign e X.env :: (assignEach es X.env).map (·.2):=by rfl):PGs X (e :: es) (b1d t u):=by
 intro pins s σ H vs us Q I r h
 obtain ⟨v,vr,e1,h⟩:=h
 subst e1
 cases r with
 | cons r rr =>
  rw [hs]
  refine assignInOrder_cons (thn (h1 pins s σ H _ _ _ I r h) fun _ s1 ⟨σ1,H1,I1,q1⟩=>?_)
  exact h2 pins s1 σ1 H1 _ _ Q I1 rr q1
def gTup (K:PySem.W.Frag) (n:Nat) (t:TGs):TG:=fun v σ H Q=>∃ a xs,v=.ref a∧SqT K H a xs∧xs.length=n∧t xs σ H Q
theorem a6Z {es:List Expr} {k:Nat} {t:TGs} {n:Nat} (hc:X.calm=true) (h:PGs X es t)
  (hn:(assignEach es X.env).length=n:=by rfl) (hst:(assignEach es X.env).findIdx? (·.1)=none:=by rfl):PG X (.Tuple es k pos) (gTup X.K n t):=by
 intro pins s σ H v u Q I r hw
 obtain ⟨a,xs,e1,hq,hl,hw⟩:=hw
 subst e1
 cases r
 obtain ⟨its,rv,ht,hz⟩:=I.tuple hq
 refine assign_Tuple_tuple (I.ok.hd hc) ht (by simp [hn,←hl,rv.length]) hst fun h' hx=>?_
 have I1:Inv X pins σ H { s with heap:=h' }:=I.kept (t':=s.toks) fun b o e=>hx b o (Nat.ne_of_lt (Heap.lt_size e)) e
 exact h pins _ σ H xs _ Q I1 (by simpa using rv) hw
def gSub (to ti:TE) (t:TSet):TG:=fun v σ H Q=>to σ H fun o H1=>ti σ H1 fun i H2=>t o i v H2 fun H3=>Q σ H3
theorem a4G {o i:Expr} {to ti:TE} {t:TSet} (ho:PE X o to) (hi:PE X i ti) (hs:PSet X t)
  (ha:∀ v,assign (.Subscript o i pos) X.env v=(do
   let ov ←holding [v] (eval o X.env)
   let iv ←holding [v,ov] (eval i X.env)
   standAt pos
   holding [v,ov,iv] (setItem ov iv v)
   release [v,ov,iv] []):=by intro _;rfl):PG X (.Subscript o i pos) (gSub to ti t):=by
 intro pins s σ H v u Q I r h
 rw [ha]
 refine wpAny_bind (wpAny_holding (thn (ho pins s σ H _ I h) fun ov s1 ⟨x,H1,I1,r1,q1⟩=>?_))
 refine wpAny_bind (wpAny_holding (thn (hi pins s1 σ H1 _ I1 q1) fun iv s2 ⟨y,H2,I2,r2,q2⟩=>?_))
 refine wpAny_bind (wpAny_standAt (wpAny_bind (wpAny_holding (thn (hs pins s2 σ H2 x y v ov iv u _ I2 r1 r2 r q2) fun _ s3 ⟨H3,I3,q3⟩=>?_))))
 exact wpAny_release ⟨σ,H3,I3,q3⟩
def tAsg (te:TE) (g:TG):TS:=fun D σ H=>te σ H fun x H1=>g x σ H1 D.nx
theorem a3b {tg e:Expr} {te:TE} {g:TG} (he:PE X e te) (hg:PG X tg g) (hs:swapsWithSole [tg] e pos.line X.env=pure false:=by rfl) (hw:swappedStores [tg] e X.env=pure none:=by rfl)
  (h1:(assignEach [tg] X.env).map (·.2)=[assign tg X.env]:=by rfl):PS X (.Assign [tg] e pos) (tAsg te g):=by
 intro pins s σ H D I h
 refine wpAny_Assign_stores (thn (he pins s σ H _ I h) fun v s1 ⟨x,H1,I1,r1,q1⟩=>?_) hs hw
 rw [h1]
 exact thn (hg pins s1 σ H1 x v _ I1 r1 q1) fun _ s2 q=>q
theorem a0x {i:Nat} {x:Str} {e:Expr} {te:TE} {pos':Pos} (hN:X.N.Nodup) (hi:X.N[i]?=some x) (hx:Loc X.env.scope x) (he:PE X e te) (hs:swapsWith e (some (.Name x pos')) pos.line X.env=pure false:=by rfl) (hf:X.fn x=true∨X.env.scope.names.lookup x=some .local:=by first | exact .inl rfl | exact .inr rfl | assumption) :
  PS X (.Assign [.Name x pos'] e pos) (tAsg te (a1Z i)):=by
 intro pins s σ H D I h
 refine wpAny_Assign_Name (thn (he pins s σ H _ I h) fun v s1 ⟨y,H1,I1,r1,q1⟩=>?_) hs
 exact a3W I1 hN hi hx r1 (fun s2 I2=>⟨_,H1,I2,q1⟩) hf
def tPar (i j:Nat) (ta:TA):TS:=fun D σ H=>ta σ H fun vs H1=>∃ v w,vs=[v,w]∧D.nx ((σ.set i (some v)).set j (some w)) H1
def tAug (i:Nat) (te:TE) (ti:TIp):TS:=fun D σ H=>∃ x,σ[i]?=some (some x)∧te σ H fun y H1=>ti x y H1 fun z H2=>D.nx (σ.set i (some z)) H2
theorem ps_aug {i:Nat} {x:Str} {e:Expr} {te:TE} {op:Operator} {ti:TIp} {pos':Pos} (hN:X.N.Nodup) (hi:X.N[i]?=some x) (hx:Loc X.env.scope x) (he:PE X e te) (ho:PIp X op ti) (hf:X.fn x=true∨X.env.scope.names.lookup x=some .local:=by first | exact .inl rfl | exact .inr rfl | assumption) :
  PS X (.AugAssign (.Name x pos') op e pos) (tAug i te ti):=by
 intro pins s σ H D I h
 obtain ⟨v,e1,h⟩:=h
 obtain ⟨m,hn,hl⟩:=I.loc
 have vis:Vis X.env.scope x:=by rcases hx with k | k;exact .inl k;exact .inr (.inl k)
 obtain ⟨u,r,l⟩:=hl i x v hi e1 vis
 refine wpAny_AugAssign_Name ?_
 have go:wpAny (model X.prog X.w) X.A (eval e X.env) (fun w s₂=>wpAny (model X.prog X.w) X.A (inplaceOp op u w) (fun r s₃=>wpAny (model X.prog X.w) X.A (storeName X.env x r) (fun _=>SP X pins D .next) X.xe s₃) X.xe s₂) X.xe s:=by
  refine thn (he pins s σ H _ I h) fun w s1 ⟨y,H1,I1,r1,q1⟩=>?_
  refine thn (ho pins s1 σ H1 v y u w _ I1 r r1 q1) fun z s2 ⟨zv,H2,I2,r2,q2⟩=>?_
  exact a3W I2 hN hi hx r2 (fun s3 I3=>⟨_,H2,I3,q2⟩) hf
 rcases l with ⟨hk,hm⟩ | ⟨hk,c,hc,hcell⟩
 ·exact wpAny_loadName_local I.ok.kind hk hn hm go
 ·rcases hk with hk | hk
  ·exact wpAny_loadName_cell I.ok.kind hk hc hcell go
  ·rcases hx with k | k
   ·have:X.env.scope.names.lookup x=some .free:=hk
    rw [k] at this;cases this
   ·have:X.env.scope.names.lookup x=some .free:=hk
    rw [k] at this;cases this
def tAugS (to ti te:TE) (tget:V→V→Hp→VK→Prop) (tip:TIp) (tset:TSet):TS:=fun D σ H=>to σ H fun o H1=>ti σ H1 fun i H2=>tget o i H2 fun x H3=>te σ H3 fun y H4=>tip x y H4 fun z H5=>tset o i z H5 fun H6=>D.nx σ H6
def PGet (X:Cx) (t:V→V→Hp→VK→Prop):Prop :=
 ∀ (pins:List (Addr × Obj)) (s:Shared) (σ:St) (H:Hp) (o i:V) (ov iv:Value) (Q:VK),Inv X pins σ H s→a1a o ov→a1a i iv→t o i H Q →
  wpAny (model X.prog X.w) X.A (getItem ov iv) (EP X pins σ Q) X.xe s
def ipI (f:Int→Int→Int):TIp:=fun x y H Q=>∃ i j,x=.int i∧y=.int j∧Q (.int (f i j)) H
theorem ip_add:PIp X .Add (ipI fun i j=>i+j):=by
 intro pins s σ H x y v u Q I r1 r2 h
 obtain ⟨i,j,e1,e2,q⟩:=h
 subst e1;subst e2
 obtain ⟨t,rfl⟩:=r1
 obtain ⟨t',rfl⟩:=r2
 exact iadd_int ⟨.int _,H,I.tok _,⟨_,rfl⟩,q⟩
def tWhile (c:TT) (tb:TS):TS:=fun D σ H=>∃ W:Nat→St→Hp→Prop,(∃ m,W m σ H)∧∀ m σ H,W m σ H →
 c σ H fun b H1=>if b=true then ∃ N:St→Hp→Prop,(∀ σ' H',N σ' H'→∃ m',m' < m∧W m' σ' H')∧tb { D with nx:=N,ct:=N,bk:=D.nx } σ H1 else D.nx σ H1
theorem a3Y {c:Expr} {body:List Stmt} {tc:TT} {tb:TS} (hp:PassesOwn (model X.prog X.w) X.A X.env X.xe) (hc:PT X c tc) (hb:PSs X body tb):PS X (.While c body [] pos) (tWhile tc tb):=by
 intro pins s σ H D I h
 obtain ⟨W,⟨m0,w0⟩,turn⟩:=h
 refine wpAny_While (codeAny_whileLoop (fun n s'=>∃ σ' H',Inv X pins σ' H' s'∧W n σ' H') ?_ m0 ⟨σ,H,I,w0⟩)
 rintro n s1 ⟨σ1,H1,I1,w1⟩
 refine wpAny_passesOwn hp (thn (hc pins s1 σ1 H1 _ I1 (turn n σ1 H1 w1)) fun b s2 ⟨H2,I2,q2⟩=>?_)
 cases b with
 | true =>
  obtain ⟨N,hN,q2⟩:=q2
  rw [if_pos rfl]
  refine wpAny_passesOwn hp (thn (hb pins s2 σ1 H2 _ I2 q2) fun f s3 q3=>?_)
  cases f with
  | next =>
   obtain ⟨σ3,H3,I3,n3⟩:=q3
   obtain ⟨m',hm,w3⟩:=hN σ3 H3 n3
   exact ⟨m',hm,σ3,H3,I3,w3⟩
  | cont =>
   obtain ⟨σ3,H3,I3,n3⟩:=q3
   obtain ⟨m',hm,w3⟩:=hN σ3 H3 n3
   exact ⟨m',hm,σ3,H3,I3,w3⟩
  | brk=>exact q3
  | ret v=>exact q3
 | false =>
  rw [if_neg Bool.false_ne_true]
  exact wpAny_execs_nil ⟨σ1,H2,I2,q2⟩
end
structure It where
 go:Nat→Hp→Prop
 yld:Nat→Hp→V→Hp→Prop
 stop:Nat→Hp→Prop
def a8Z (X:Cx) (pins:List (Addr × Obj)) (H:Hp) (b:Addr):Prop :=
 H b=none∧b≠X.env.locals∧b∉X.fs∧(b∈X.ex∨X.s₀.heap.objs.size≤b)∧(∀ x c,X.env.cells.lookup x=some c→c≠b)∧∀ p∈X.pn++pins,p.1≠b
theorem Inv.fpOk {X:Cx} {pins:List (Addr × Obj)} {σ:St} {H H':Hp} {s:Shared} {b:Addr} (I:Inv X pins σ H s) (hb:s.heap.objs.size≤b) (hn:H' b=none):a8Z X pins H' b:=by
 refine ⟨hn,Nat.ne_of_gt (Nat.lt_of_lt_of_le I.lt hb),I.nofs hb,.inr (Nat.le_trans I.sz hb),fun x c e z=>?_,fun p hp z=>?_⟩
 ·obtain ⟨v,q⟩:=I.cell x c e
  exact absurd (Nat.lt_of_lt_of_le q.lt (by rw [z];exact hb)) (Nat.lt_irrefl _)
 ·exact absurd (Nat.lt_of_lt_of_le (Heap.lt_size (I.pin p hp).1) (by rw [z];exact hb)) (Nat.lt_irrefl _)
structure b2N (P:Program) (w:World) (K:PySem.W.Frag) (tg:Expr) (J:It) (fp:List Addr) (it:Addr) (tn:Nat→Heap→Prop):Prop where
 mem:it∈fp
 obj:∀ i h,tn i h→∀ b∈fp,∃ o,h.get? b=some o∧∀ v,o.data≠.cell v
 keep:∀ i h h',tn i h→(∀ b∈fp,∀ o,h.get? b=some o→h'.get? b=some o)→tn i h'
 item:∀ (X:Cx),X.prog=P→X.w=w→X.K=K→X.calm=true→∀ (i:Nat) (pins:List (Addr × Obj)) (s:Shared) (σ:St) (H:Hp) (E:Value→Shared→Prop),Inv X pins σ H s→(∀ b∈fp,a8Z X pins H b)→tn i s.heap→J.go i H →
  wpAny (model P w) X.A (pyNext (.ref it)) (fun r s1=>∃ u,r=some u ∧
   wpAny (model P w) X.A (letOwnedTupleGo tg (.ref it) u) (fun _ s2=>∃ x H',Inv X pins σ H' s2∧a1a x u∧J.yld i H x H'∧tn (i+1) s2.heap∧∀ b∈fp,H' b=none) E s1) E s
 done:∀ (X:Cx),X.prog=P→X.w=w→X.K=K→X.calm=true→∀ (i:Nat) (pins:List (Addr × Obj)) (s:Shared) (σ:St) (H:Hp) (E:Value→Shared→Prop),Inv X pins σ H s→(∀ b∈fp,a8Z X pins H b)→tn i s.heap→J.stop i H →
  wpAny (model P w) X.A (pyNext (.ref it)) (fun r s1=>r=none∧Inv X pins σ H s1) E s
 self:∀ (A:Around) (i:Nat) (s:Shared) (Q:Value→Shared→Prop) (E:Value→Shared→Prop),tn i s.heap→Q (.ref it) s→wpAny (model P w) A (pyIter (.ref it)) Q E s
abbrev TI:=St→Hp→(It→Hp→Prop)→Prop
def PIE (X:Cx) (pins:List (Addr × Obj)) (σ:St) (tg:Expr) (R:It→Hp→Prop) (itv:Value) (s2:Shared):Prop :=
 ∃ (it:Addr) (fp:List Addr) (tn:Nat→Heap→Prop) (J:It) (H':Hp),itv=.ref it∧Inv X pins σ H' s2∧b2N X.prog X.w X.K tg J fp it tn∧tn 0 s2.heap∧(∀ b∈fp,a8Z X pins H' b)∧R J H'
def PI (X:Cx) (tg iter:Expr) (wi:TI):Prop :=
 ∀ (pins:List (Addr × Obj)) (s:Shared) (σ:St) (H:Hp) (R:It→Hp→Prop),Inv X pins σ H s→wi σ H R →
  wpAny (model X.prog X.w) X.A (eval iter X.env) (fun v s1=>wpAny (model X.prog X.w) X.A (pyIter v) (PIE X pins σ tg R) X.xe s1) X.xe s
theorem a9a {M:Model} {A:Around} {E:Value→Shared→Prop} {s:Shared} {tg:Expr} {it:Addr} {u:Value} {o:Obj} {n:String} {vs:Array Value} {Q:Unit→Shared→Prop} (ho:s.heap.get? it=some o) (hc:o.cls=.type n) (hd:o.data=.fields vs)
  (hn:["enumerate","zip","dict_itemiterator","dict_reverseitemiterator","odict_iterator","itertools.zip_longest","itertools.pairwise"].contains n=false) (hQ:Q () s):wpAny M A (letOwnedTupleGo tg (.ref it) u) Q E s:=by
 unfold letOwnedTupleGo
 cases tg <;> first
  | exact wpAny_pure hQ
  | (cases u <;> first
    | exact wpAny_pure hQ
    | (refine wpAny_bind (wpAny_load ho ?_)
       rw [hc,hd]
       show wpAny M A (if (["enumerate","zip","dict_itemiterator","dict_reverseitemiterator","odict_iterator","itertools.zip_longest","itertools.pairwise"].contains n && vs[0]? == some (rawInt _))=true then _ else _) Q E s
       rw [if_neg (by intro h;rw [hn,Bool.false_and] at h;cases h)]
       exact wpAny_pure hQ))
def Itl (K:PySem.W.Frag) (a:Addr):It :=
 ⟨fun i H=>∃ xs x,SqL K H a xs∧xs[i]?=some x,fun i H x H'=>H'=H∧∀ xs,SqL K H a xs→xs[i]?=some x,fun i H=>∃ xs,SqL K H a xs∧xs.length≤i⟩
def Itt (K:PySem.W.Frag) (a:Addr):It :=
 ⟨fun i H=>∃ xs x,SqT K H a xs∧xs[i]?=some x,fun i H x H'=>H'=H∧∀ xs,SqT K H a xs→xs[i]?=some x,fun i H=>∃ xs,SqT K H a xs∧xs.length≤i⟩
def Itr (lo:Int) (n:Nat):It:=⟨fun i _=>i < n,fun i H x H'=>H'=H∧x=.int (lo+i),fun i _=>n≤i⟩
theorem a7a {P:Program} {w:World} {K:PySem.W.Frag} {tg:Expr} (a it:Addr):b2N P w K tg (Itl K a) [it] it (fun i h=>h.IsListIter it a i) where
 mem:=by simp
 obj:=fun i h st b hb=>by
  have e:b=it:=by simpa using hb
  subst e
  obtain ⟨o,e,c,d⟩:=st
  exact ⟨o,e,fun v z=>by rw [d] at z;cases z⟩
 keep:=fun i h h' st k=>st.at fun o e=>k it (by simp) o e
 item:=by
  intro X hP hw hK hc i pins s σ H E I hf st hg
  subst hP hw hK
  obtain ⟨xs,x,hq,hx⟩:=hg
  obtain ⟨its,rv,p,hz⟩:=I.list hq
  obtain ⟨u,hu,ru⟩:=rv.get hx
  obtain ⟨f0,f1,f2,f3,f4,f5⟩:=hf it (by simp)
  refine wpAny_pyNext_list_item st p.isList (x:=u) (by simpa using hu) fun h' st' sb=>?_
  have I1:Inv X pins σ H { s with heap:=h' }:=I.turned (t':=s.toks) (fun b o hb e=>(sb.2 b hb).trans e) f0 f1 f3 f4 f5
  obtain ⟨o,e,c,d⟩:=id st'
  exact ⟨u,rfl,a9a (s:={ s with heap:=h' }) e c d (by decide) ⟨x,H,I1,ru,⟨rfl,fun ys hy=>by rw [I.list_inj hy hq];exact hx⟩,st',fun b hb=>(hf b hb).1⟩⟩
 done:=by
  intro X hP hw hK hc i pins s σ H E I hf st hg
  subst hP hw hK
  obtain ⟨xs,hq,hx⟩:=hg
  obtain ⟨its,rv,p,hz⟩:=I.list hq
  obtain ⟨f0,f1,f2,f3,f4,f5⟩:=hf it (by simp)
  have hl:=rv.length
  exact wpAny_pyNext_list_end (I.ok.hd hc) st p.isList (by simp;omega) fun h' eb=>⟨rfl,I.turned (t':=s.toks) (fun b o hb e=>eb b o hb e) f0 f1 f3 f4 f5⟩
 self:=fun _ _ _ _ _ st h=>wpAny_pyIter_listiter st h
theorem a6o {P:Program} {w:World} {K:PySem.W.Frag} {tg:Expr} (a it:Addr):b2N P w K tg (Itt K a) [it] it (fun i h=>h.IsTupleIter it a i) where
 mem:=by simp
 obj:=fun i h st b hb=>by
  have e:b=it:=by simpa using hb
  subst e
  obtain ⟨o,e,c,d⟩:=st
  exact ⟨o,e,fun v z=>by rw [d] at z;cases z⟩
 keep:=fun i h h' st k=>st.at fun o e=>k it (by simp) o e
 item:=by
  intro X hP hw hK hc i pins s σ H E I hf st hg
  subst hP hw hK
  obtain ⟨xs,x,hq,hx⟩:=hg
  obtain ⟨its,rv,p,hz⟩:=I.tuple hq
  obtain ⟨u,hu,ru⟩:=rv.get hx
  obtain ⟨f0,f1,f2,f3,f4,f5⟩:=hf it (by simp)
  refine wpAny_pyNext_tuple_item st (show s.heap.IsTuple a its.toArray from p) (x:=u) (by simpa using hu) fun h' st' sb=>?_
  have I1:Inv X pins σ H { s with heap:=h' }:=I.turned (t':=s.toks) (fun b o hb e=>(sb.2 b hb).trans e) f0 f1 f3 f4 f5
  obtain ⟨o,e,c,d⟩:=id st'
  exact ⟨u,rfl,a9a (s:={ s with heap:=h' }) e c d (by decide) ⟨x,H,I1,ru,⟨rfl,fun ys hy=>by rw [I.tuple_inj hy hq];exact hx⟩,st',fun b hb=>(hf b hb).1⟩⟩
 done:=by
  intro X hP hw hK hc i pins s σ H E I hf st hg
  subst hP hw hK
  obtain ⟨xs,hq,hx⟩:=hg
  obtain ⟨its,rv,p,hz⟩:=I.tuple hq
  obtain ⟨f0,f1,f2,f3,f4,f5⟩:=hf it (by simp)
  have hl:=rv.length
  exact wpAny_pyNext_tuple_end (I.ok.hd hc) st (show s.heap.IsTuple a its.toArray from p) (by simp;omega) fun h' eb=>⟨rfl,I.turned (t':=s.toks) (fun b o hb e=>eb b o hb e) f0 f1 f3 f4 f5⟩
 self:=fun _ _ _ _ _ st h=>wpAny_pyIter_tupleiter st h
theorem a6p {P:Program} {w:World} {K:PySem.W.Frag} {tg:Expr} (it:Addr) (lo:Int) (n:Nat):b2N P w K tg (Itr lo n) [it] it (fun i h=>IsRangeIter h it (lo+(i:Nat) * 1) ((n:Int) - (i:Nat)) 1) where
 mem:=by simp
 obj:=fun i h st b hb=>by
  have e:b=it:=by simpa using hb
  subst e
  exact ⟨_,st,fun v z=>by
   have z':Data.fields _=Data.cell v:=z
   cases z'⟩
 keep:=fun i h h' st k=>k it (by simp) _ st
 item:=by
  intro X hP hw hK hc i pins s σ H E I hf st hg
  subst hP hw hK
  obtain ⟨f0,f1,f2,f3,f4,f5⟩:=hf it (by simp)
  have W:=Walks.range (prog:=X.prog) (w:=X.w) (I.ok.hd hc) it lo 1 n
  refine W.item i s _ _ hg st fun v h' tk hv st' kk=>?_
  obtain ⟨t,rfl⟩:=hv
  have I1:Inv X pins σ H { s with heap:=h',toks:=tk }:=I.turned (fun b o hb e=>kk b o (by simpa using hb) e) f0 f1 f3 f4 f5
  refine ⟨_,rfl,a9a (s:={ s with heap:=h',toks:=tk }) (n:="range_iterator") st' rfl rfl (by decide) ⟨.int (lo+i),H,I1,⟨t,?_⟩,⟨rfl,rfl⟩,st',fun b hb=>(hf b hb).1⟩⟩
  rw [Int.mul_one]
 done:=by
  intro X hP hw hK hc i pins s σ H E I hf st hg
  subst hP hw hK
  obtain ⟨f0,f1,f2,f3,f4,f5⟩:=hf it (by simp)
  exact wpAny_pyNext_range_end (I.ok.hd hc) st (by have:n≤i:=hg;omega) fun h' eb=>⟨rfl,I.turned (t':=s.toks) (fun b o hb e=>eb b o hb e) f0 f1 f3 f4 f5⟩
 self:=fun _ _ _ _ _ st h=>wpAny_pyIter_rangeiter st h
section
variable {X:Cx} {tg:Expr}
def iList (K:PySem.W.Frag) (tl:TE):TI:=fun σ H R=>tl σ H fun x H1=>∃ a,x=.ref a∧(∃ xs,SqL K H1 a xs)∧R (Itl K a) H1
def iTup (K:PySem.W.Frag) (tl:TE):TI:=fun σ H R=>tl σ H fun x H1=>∃ a,x=.ref a∧(∃ xs,SqT K H1 a xs)∧R (Itt K a) H1
theorem a5k {l:Expr} {tl:TE} (hl:PE X l tl):PI X tg l (iList X.K tl):=by
 intro pins s σ H R I h
 refine thn (hl pins s σ H _ I h) fun v s1 ⟨x,H1,I1,r1,q1⟩=>?_
 obtain ⟨a,e,⟨xs,hq⟩,q⟩:=q1
 subst e
 cases r1
 obtain ⟨its,rv,p,hz⟩:=I1.list hq
 refine wpAny_pyIter_list p.isList ?_
 refine ⟨s1.heap.objs.size,[s1.heap.objs.size],_,_,H1,rfl,I1.kept (t':=s1.toks) fun b o e=>Heap.get?_push_of_some _ e,a7a a _,⟨_,Heap.get?_push_size _ rfl,rfl,rfl⟩,fun b hb=>?_,q⟩
 have e:b=s1.heap.objs.size:=by simpa using hb
 subst e
 exact I1.fpOk (Nat.le_refl _) (I1.hok.fresh (Nat.le_refl _))
theorem b0x {l:Expr} {tl:TE} (hl:PE X l tl):PI X tg l (iTup X.K tl):=by
 intro pins s σ H R I h
 refine thn (hl pins s σ H _ I h) fun v s1 ⟨x,H1,I1,r1,q1⟩=>?_
 obtain ⟨a,e,⟨xs,hq⟩,q⟩:=q1
 subst e
 cases r1
 obtain ⟨its,rv,p,hz⟩:=I1.tuple hq
 refine wpAny_pyIter_tuple (show s1.heap.IsTuple a its.toArray from p) ?_
 refine ⟨s1.heap.objs.size,[s1.heap.objs.size],_,_,H1,rfl,I1.kept (t':=s1.toks) fun b o e=>Heap.get?_push_of_some _ e,a6o a _,⟨_,Heap.get?_push_size _ rfl,rfl,rfl⟩,fun b hb=>?_,q⟩
 have e:b=s1.heap.objs.size:=by simpa using hb
 subst e
 exact I1.fpOk (Nat.le_refl _) (I1.hok.fresh (Nat.le_refl _))
theorem a5J {pins:List (Addr × Obj)} {σ:St} {H:Hp} {s:Shared} {R:It→Hp→Prop} {E:Value→Shared→Prop} {lo hi:Int} {t u v:Tok} {tk:Nat} (I:Inv X pins σ H s) (h1:-(2 ^ 62)≤lo) (h2:lo < 2 ^ 62) (h3:-(2 ^ 62)≤hi) (h4:hi < 2 ^ 62)
  (q:R (Itr lo (hi - lo).toNat) H):wpAny (model X.prog X.w) X.A (pyIter (.ref s.heap.objs.size)) (PIE X pins σ tg R) E { s with heap:=s.heap.push { cls:=.type "range",data:=.fields #[.int lo t,.int hi u,.int 1 v] },toks:=tk }:=by
 refine wpAny_pyIter_range (IsRange.new ..) (small_one h1 h2 h3 h4) ?_
 have I1:Inv X pins σ H { s with heap:=s.heap.push { cls:=.type "range",data:=.fields #[.int lo t,.int hi u,.int 1 v] },toks:=tk }:=I.kept fun b o e=>Heap.get?_push_of_some _ e
 refine ⟨(s.heap.push { cls:=.type "range",data:=.fields #[.int lo t,.int hi u,.int 1 v] }).objs.size,[(s.heap.push { cls:=.type "range",data:=.fields #[.int lo t,.int hi u,.int 1 v] }).objs.size],_,_,H,rfl,
  I1.kept (t':=tk) fun b o e=>Heap.get?_push_of_some _ e,a6p _ lo (hi - lo).toNat,?_,fun b hb=>?_,q⟩
 ·have e1:lo+((0:Nat):Int) * 1=lo:=by simp
  have e2:(((hi - lo).toNat:Nat):Int) - ((0:Nat):Int)=Builtin.Range.rangeSize lo hi 1:=by rw [rangeSize_one];split <;> omega
  show IsRangeIter _ _ (lo+((0:Nat):Int) * 1) ((((hi - lo).toNat:Nat):Int) - ((0:Nat):Int)) 1
  rw [e1,e2]
  exact Heap.get?_push_size _ rfl
 ·have e:b=(s.heap.push { cls:=.type "range",data:=.fields #[.int lo t,.int hi u,.int 1 v] }).objs.size:=by simpa using hb
  subst e
  exact I1.fpOk (Nat.le_refl _) (I1.hok.fresh (Nat.le_refl _))
def iRng1 (ta:TA):TI:=fun σ H R=>ta σ H fun vs H1=>∃ j:Int,vs=[.int j]∧-(2 ^ 62)≤j∧j < 2 ^ 62∧R (Itr 0 j.toNat) H1
def iRng2 (ta:TA):TI:=fun σ H R=>ta σ H fun vs H1=>∃ i j:Int,vs=[.int i,.int j]∧(-(2 ^ 62)≤i∧i < 2 ^ 62∧-(2 ^ 62)≤j∧j < 2 ^ 62)∧R (Itr i (j - i).toNat) H1
theorem a1j {a:Expr} {ta:TA} {p pos:Pos} (hg:Gl X "range") (hm:X.mg "range"=none) (ha:PA X [a] ta) (hs:starEach [a] X.env=[(false,eval a X.env)]:=by rfl):PI X tg (.Call (.Name "range" p) [a] [] pos) (iRng1 ta):=by
 intro pins s σ H R I h
 refine Call_ (a2k I hg hm boot_range (PyProof.Rows.callWith_type1 (thn (ha pos pins s σ H _ I h) fun us s1 ⟨vs,H1,I1,r1,q1⟩=>?_) hs rfl))
 obtain ⟨j,e,q1,q2,q⟩:=q1
 subst e
 cases r1 with
 | cons r rr =>
  cases rr
  obtain ⟨t,rfl⟩:=r
  exact call_range_1 (a5J I1 (by omega) (by omega) q1 q2 (by simpa using q))
theorem a1y {a b:Expr} {ta:TA} {p pos:Pos} (hg:Gl X "range") (hm:X.mg "range"=none) (ha:PA X [a,b] ta) (hs:starEach [a,b] X.env=[(false,eval a X.env),(false,eval b X.env)]:=by rfl) (hs2:starEach [b] X.env=[(false,eval b X.env)]:=by rfl) :
  PI X tg (.Call (.Name "range" p) [a,b] [] pos) (iRng2 ta):=by
 intro pins s σ H R I h
 refine Call_ (a2k I hg hm boot_range (PyProof.Rows.callWith_type1 (thn (ha pos pins s σ H _ I h) fun us s1 ⟨vs,H1,I1,r1,q1⟩=>?_) (by rw [hs,hs2]) (by rw [hs2];rfl)))
 obtain ⟨i,j,e,⟨q1,q2,q3,q4⟩,q⟩:=q1
 subst e
 cases r1 with
 | cons r rr =>
  cases rr with
  | cons r' rr =>
   cases rr
   obtain ⟨t,rfl⟩:=r
   obtain ⟨t',rfl⟩:=r'
   exact call_range_2 (a5J I1 q1 q2 q3 q4 q)
def tFor (wi:TI) (g:TG) (tb:TS):TS:=fun D σ H=>wi σ H fun J H1=>∃ W:Nat→Nat→St→Hp→Prop,(∃ m,W 0 m σ H1)∧∀ i m σ H,W i m σ H →
 (J.stop i H∧D.nx σ H)∨(J.go i H∧∃ N:St→Hp→Prop,(∀ σ' H',N σ' H'→∃ m',m' < m∧W (i+1) m' σ' H')∧∀ x H',J.yld i H x H'→g x σ H' fun σ2 H2=>tb { D with nx:=N,ct:=N,bk:=D.nx } σ2 H2)
def a4H (fp:List Addr) (h:Heap):List (Addr × Obj):=fp.filterMap fun b=>(h.get? b).map fun o=>(b,o)
theorem a2z {fp:List Addr} {h:Heap} {b:Addr} {o:Obj} (hb:b∈fp) (e:h.get? b=some o):(b,o)∈a4H fp h:=List.mem_filterMap.mpr ⟨b,hb,by rw [e];rfl⟩
theorem a7b {fp:List Addr} {h:Heap} {p:Addr × Obj} (hp:p∈a4H fp h):p.1∈fp∧h.get? p.1=some p.2:=by
 obtain ⟨b,hb,e⟩:=List.mem_filterMap.mp hp
 cases q:h.get? b with
 | none=>rw [q] at e;cases e
 | some o =>
  rw [q] at e
  have e':(b,o)=p:=Option.some.inj e
  subst e'
  exact ⟨hb,q⟩
theorem Inv.pinned {pins:List (Addr × Obj)} {σ:St} {H:Hp} {s:Shared} {fp:List Addr} (I:Inv X pins σ H s) (hf:∀ b∈fp,a8Z X pins H b) (ho:∀ b∈fp,∃ o,s.heap.get? b=some o∧∀ v,o.data≠.cell v):Inv X (pins++a4H fp s.heap) σ H s :=
 I.pins_of fun p hp=>(List.mem_append.mp hp).elim (fun z=>I.pin p (List.mem_append_right _ z)) fun z=>by
  obtain ⟨hb,e⟩:=a7b z
  obtain ⟨f0,f1,f2,_⟩:=hf p.1 hb
  obtain ⟨o,e',d⟩:=ho p.1 hb
  rw [e] at e';cases e'
  exact ⟨e,f0,f1,f2,d⟩
theorem Inv.unpinned {pins pl:List (Addr × Obj)} {σ:St} {H:Hp} {s:Shared} (I:Inv X (pins++pl) σ H s):Inv X pins σ H s:=I.pins_of fun p hp=>I.pin p (List.mem_append_right _ (List.mem_append_left _ hp))
theorem a1k {iter:Expr} {body:List Stmt} {wi:TI} {g:TG} {tb:TS} {pos:Pos} (hp:PassesOwn (model X.prog X.w) X.A X.env X.xe) (hc:X.calm=true) (hi:PI X tg iter wi) (hg:PG X tg g) (hb:PSs X body tb)
  (hs:∀ x,foldedSetIterable iter X.env x=pure x:=by intro _;rfl):PS X (.For tg iter body [] pos) (tFor wi g tb):=by
 intro pins s σ H D I h
 refine wpAny_For (thn (hi pins s σ H _ I h) fun v s1 h1=>thn h1 fun itv s2 h2=>?_) hs
 obtain ⟨it,fp,tn,J,H2,e,I2,T,st2,f2,W,⟨m0,w0⟩,turn⟩:=h2
 subst e
 have stat:∀ {H':Hp},(∀ b∈fp,H' b=none)→∀ b∈fp,a8Z X pins H' b:=fun hn b hb=>⟨hn b hb,(f2 b hb).2⟩
 refine codeAny_forLoop_any (fun n s'=>∃ i σ' H',Inv X pins σ' H' s'∧tn i s'.heap∧(∀ b∈fp,H' b=none)∧W i n σ' H') ?_ m0 ⟨0,σ,H2,I2,st2,fun b hb=>(f2 b hb).1,w0⟩
 rintro n s3 ⟨i,σ3,H3,I3,st3,fr3,w3⟩
 rcases turn i n σ3 H3 w3 with ⟨stop,qn⟩ | ⟨go,N,hN,step⟩
 ·refine wpAny_passesOwn hp (thn (T.done X rfl rfl rfl hc i pins s3 σ3 H3 X.xe I3 (stat fr3) st3 stop) fun r s4 ⟨hr,I4⟩=>?_)
  subst hr
  exact wpAny_execs_nil ⟨σ3,H3,I4,qn⟩
 ·refine wpAny_passesOwn hp (thn (T.item X rfl rfl rfl hc i pins s3 σ3 H3 X.xe I3 (stat fr3) st3 go) fun r s4 ⟨u,hr,h4⟩=>?_)
  subst hr
  refine wpAny_passesOwn hp (thn h4 fun _ s5 ⟨x,H5,I5,r5,y5,st5,fr5⟩=>?_)
  have I5':=I5.pinned (stat fr5) (T.obj _ _ st5)
  refine wpAny_passesOwn hp (thn (hg _ s5 σ3 H5 x u _ I5' r5 (step x H5 y5)) fun _ s6 ⟨σ6,H6,I6,q6⟩=>?_)
  refine wpAny_passesOwn hp (thn (hb _ s6 σ6 H6 _ I6 q6) fun f s7 q7=>?_)
  have again:∀ {σ7:St} {H7:Hp},Inv X (pins++a4H fp s5.heap) σ7 H7 s7→N σ7 H7→∃ m,m < n∧∃ i σ' H',Inv X pins σ' H' s7∧tn i s7.heap∧(∀ b∈fp,H' b=none)∧W i m σ' H':=fun {σ7 H7} I7 n7=>by
   obtain ⟨m',hm,w7⟩:=hN σ7 H7 n7
   refine ⟨m',hm,i+1,σ7,H7,I7.unpinned,T.keep _ _ _ st5 fun b hb o e=>(I7.pin (b,o) (List.mem_append_right _ (List.mem_append_right _ (a2z hb e)))).1,fun b hb=>?_,w7⟩
   obtain ⟨o,e,d⟩:=T.obj _ _ st5 b hb
   exact (I7.pin (b,o) (List.mem_append_right _ (List.mem_append_right _ (a2z hb e)))).2.1
  cases f with
  | next=>obtain ⟨σ7,H7,I7,n7⟩:=q7;exact again I7 n7
  | cont=>obtain ⟨σ7,H7,I7,n7⟩:=q7;exact again I7 n7
  | brk=>obtain ⟨σ7,H7,I7,q7⟩:=q7;exact ⟨σ7,H7,I7.unpinned,q7⟩
  | ret v=>obtain ⟨x7,σ7,H7,I7,r7,q7⟩:=q7;exact ⟨x7,σ7,H7,I7.unpinned,r7,q7⟩
end
theorem a9b {K:PySem.W.Frag} {a:Addr} {xs:List V} {g:TG} {tb:TS} {D:a8Y} {σ:St} {H:Hp} (Pv:Nat→St→Hp→Prop) (h0:Pv 0 σ H) (hl:∀ i σ H,i≤xs.length→Pv i σ H→SqL K H a xs)
  (hs:∀ i x σ H,xs[i]?=some x→Pv i σ H→g x σ H fun σ2 H2=>tb { D with nx:=Pv (i+1),ct:=Pv (i+1),bk:=D.nx } σ2 H2) (hd:∀ σ H,Pv xs.length σ H→D.nx σ H) :
  ∃ W:Nat→Nat→St→Hp→Prop,(∃ m,W 0 m σ H)∧∀ i m σ H,W i m σ H →
   ((Itl K a).stop i H∧D.nx σ H)∨((Itl K a).go i H∧∃ N:St→Hp→Prop,(∀ σ' H',N σ' H'→∃ m',m' < m∧W (i+1) m' σ' H')∧∀ x H',(Itl K a).yld i H x H'→g x σ H' fun σ2 H2=>tb { D with nx:=N,ct:=N,bk:=D.nx } σ2 H2):=by
 refine ⟨fun i m σ H=>m=xs.length - i∧i≤xs.length∧Pv i σ H,⟨xs.length,by simp,Nat.zero_le _,h0⟩,?_⟩
 rintro i m σ H ⟨rfl,hi,p⟩
 have q:=hl i σ H hi p
 by_cases hlt:i < xs.length
 ·refine .inr ⟨⟨xs,xs[i],q,by simp [hlt]⟩,Pv (i+1),fun σ' H' p'=>⟨xs.length - (i+1),by omega,rfl,hlt,p'⟩,fun x H' y=>?_⟩
  obtain ⟨e,y⟩:=y
  subst e
  exact hs i x σ _ (y xs q) p
 ·have e:i=xs.length:=by omega
  subst e
  exact .inl ⟨⟨xs,q,Nat.le_refl _⟩,hd σ H p⟩
theorem b1e {K:PySem.W.Frag} {a:Addr} {xs:List V} {g:TG} {tb:TS} {D:a8Y} {σ:St} {H:Hp} (Pv:Nat→St→Hp→Prop) (h0:Pv 0 σ H) (hl:∀ i σ H,i≤xs.length→Pv i σ H→SqT K H a xs)
  (hs:∀ i x σ H,xs[i]?=some x→Pv i σ H→g x σ H fun σ2 H2=>tb { D with nx:=Pv (i+1),ct:=Pv (i+1),bk:=D.nx } σ2 H2) (hd:∀ σ H,Pv xs.length σ H→D.nx σ H) :
  ∃ W:Nat→Nat→St→Hp→Prop,(∃ m,W 0 m σ H)∧∀ i m σ H,W i m σ H →
   ((Itt K a).stop i H∧D.nx σ H)∨((Itt K a).go i H∧∃ N:St→Hp→Prop,(∀ σ' H',N σ' H'→∃ m',m' < m∧W (i+1) m' σ' H')∧∀ x H',(Itt K a).yld i H x H'→g x σ H' fun σ2 H2=>tb { D with nx:=N,ct:=N,bk:=D.nx } σ2 H2):=by
 refine ⟨fun i m σ H=>m=xs.length - i∧i≤xs.length∧Pv i σ H,⟨xs.length,by simp,Nat.zero_le _,h0⟩,?_⟩
 rintro i m σ H ⟨rfl,hi,p⟩
 have q:=hl i σ H hi p
 by_cases hlt:i < xs.length
 ·refine .inr ⟨⟨xs,xs[i],q,by simp [hlt]⟩,Pv (i+1),fun σ' H' p'=>⟨xs.length - (i+1),by omega,rfl,hlt,p'⟩,fun x H' y=>?_⟩
  obtain ⟨e,y⟩:=y
  subst e
  exact hs i x σ _ (y xs q) p
 ·have e:i=xs.length:=by omega
  subst e
  exact .inl ⟨⟨xs,q,Nat.le_refl _⟩,hd σ H p⟩
theorem a0T {lo:Int} {n:Nat} {g:TG} {tb:TS} {D:a8Y} {σ:St} {H:Hp} (Pv:Nat→St→Hp→Prop) (h0:Pv 0 σ H)
  (hs:∀ i σ H,i < n→Pv i σ H→g (.int (lo+i)) σ H fun σ2 H2=>tb { D with nx:=Pv (i+1),ct:=Pv (i+1),bk:=D.nx } σ2 H2) (hd:∀ σ H,Pv n σ H→D.nx σ H) :
  ∃ W:Nat→Nat→St→Hp→Prop,(∃ m,W 0 m σ H)∧∀ i m σ H,W i m σ H →
   ((Itr lo n).stop i H∧D.nx σ H)∨((Itr lo n).go i H∧∃ N:St→Hp→Prop,(∀ σ' H',N σ' H'→∃ m',m' < m∧W (i+1) m' σ' H')∧∀ x H',(Itr lo n).yld i H x H'→g x σ H' fun σ2 H2=>tb { D with nx:=N,ct:=N,bk:=D.nx } σ2 H2):=by
 refine ⟨fun i m σ H=>m=n - i∧i≤n∧Pv i σ H,⟨n,by simp,Nat.zero_le _,h0⟩,?_⟩
 rintro i m σ H ⟨rfl,hi,p⟩
 by_cases hlt:i < n
 ·refine .inr ⟨hlt,Pv (i+1),fun σ' H' p'=>⟨n - (i+1),by omega,rfl,hlt,p'⟩,fun x H' y=>?_⟩
  obtain ⟨e,y⟩:=y
  subst e y
  exact hs i σ _ hlt p
 ·have e:i=n:=by omega
  subst e
  exact .inl ⟨Nat.le_refl _,hd σ H p⟩
abbrev R2:=V→V→Hp→VK→Prop
def OpR (X:Cx) (f:Value→Value→Sem Value) (r:R2):Prop :=
 ∀ (pins:List (Addr × Obj)) (s:Shared) (σ:St) (H:Hp) (x y:V) (v u:Value) (Q:VK),Inv X pins σ H s→a1a x v→a1a y u→r x y H Q →
  wpAny (model X.prog X.w) X.A (f v u) (EP X pins σ Q) X.xe s
def UnR (X:Cx) (f:Value→Sem Value) (r:V→Hp→VK→Prop):Prop :=
 ∀ (pins:List (Addr × Obj)) (s:Shared) (σ:St) (H:Hp) (x:V) (v:Value) (Q:VK),Inv X pins σ H s→a1a x v→r x H Q →
  wpAny (model X.prog X.w) X.A (f v) (EP X pins σ Q) X.xe s
def a3D (X:Cx) (f:Value) (r:List V→Hp→VK→Prop):Prop :=
 ∀ (pins:List (Addr × Obj)) (s:Shared) (σ:St) (H:Hp) (xs:List V) (us:List Value) (Q:VK),Inv X pins σ H s→a0O xs us→r xs H Q →
  wpAny (model X.prog X.w) X.A (call f us) (EP X pins σ Q) X.xe s
def TruR (X:Cx) (r:V→Hp→(Bool→Hp→Prop)→Prop):Prop :=
 ∀ (pins:List (Addr × Obj)) (s:Shared) (σ:St) (H:Hp) (x:V) (v:Value) (Q:Bool→Hp→Prop),Inv X pins σ H s→a1a x v→r x H Q →
  wpAny (model X.prog X.w) X.A (truthy v) (TP X pins σ Q) X.xe s
def tOp (r:R2) (ta tb:TE):TE:=fun σ H Q=>ta σ H fun x H1=>tb σ H1 fun y H2=>r x y H2 Q
def tUn (r:V→Hp→VK→Prop) (ta:TE):TE:=fun σ H Q=>ta σ H fun x H1=>r x H1 Q
def rI (C:Int→Int→Prop) (g:Int→Int→V):R2:=fun x y H Q=>∃ i j,x=.int i∧y=.int j∧C i j∧Q (g i j) H
def rI0 (g:Int→Int→V):R2:=fun x y H Q=>∃ i j,x=.int i∧y=.int j∧Q (g i j) H
def rU (g:Int→V):V→Hp→VK→Prop:=fun x H Q=>∃ i,x=.int i∧Q (g i) H
section
variable {X:Cx} {a b c:Expr} {ta tb tc:TE} {pos:Pos}
theorem binT (ha:PE X a ta) (hb:PE X b tb) {pins:List (Addr × Obj)} {s:Shared} {σ:St} {H:Hp} {R:V→V→Hp→Prop} (I:Inv X pins σ H s)
  (h:ta σ H fun x H1=>tb σ H1 fun y H2=>R x y H2) {Q:Value→Shared→Prop} {f:Value→Value→Sem Value}
  (hf:∀ v u s2 x y H2,Inv X pins σ H2 s2→a1a x v→a1a y u→R x y H2→wpAny (model X.prog X.w) X.A (f v u) Q X.xe s2) :
  wpAny (model X.prog X.w) X.A (eval a X.env) (fun v s₁=>wpAny (model X.prog X.w) X.A (eval b X.env) (fun u s₂=>wpAny (model X.prog X.w) X.A (f v u) Q X.xe s₂) X.xe s₁) X.xe s:=by
 refine thn (ha pins s σ H _ I h) fun v s1 ⟨x,H1,I1,r1,q1⟩=>?_
 refine thn (hb pins s1 σ H1 _ I1 q1) fun u s2 ⟨y,H2,I2,r2,q2⟩=>?_
 exact hf v u s2 x y H2 I2 r1 r2 q2
theorem a0t {op:Operator} {r:R2} (ho:OpR X (binaryOp op) r) (ha:PE X a ta) (hb:PE X b tb):PE X (.BinOp a op b pos) (tOp r ta tb):=by
 intro pins s σ H Q I h
 exact wpAny_BinOp (binT ha hb I h fun v u s2 x y H2 I2 rx ry q=>ho pins s2 σ H2 x y v u Q I2 rx ry q)
theorem a2m {op:UnaryOp} {r:V→Hp→VK→Prop} (ho:UnR X (unaryOp op) r) (ha:PE X a ta):PE X (.UnaryOp op a pos) (tUn r ta):=by
 intro pins s σ H Q I h
 exact UnaryOp_ (thn (ha pins s σ H _ I h) fun v s1 ⟨x,H1,I1,r1,q1⟩=>ho pins s1 σ H1 x v Q I1 r1 q1)
theorem opI {f:Value→Value→Sem Value} {C:Int→Int→Prop} {g:Int→Int→Int}
  (rule:∀ (i j:Int) (t u:Tok) (s:Shared) (Q:Value→Shared→Prop) (E:Value→Shared→Prop),C i j→Q (.int (g i j) s.toks) { s with toks:=s.toks+1 }→wpAny (model X.prog X.w) X.A (f (.int i t) (.int j u)) Q E s) :
  OpR X f (rI C fun i j=>.int (g i j)):=by
 intro pins s σ H x y v u Q I rx ry h
 obtain ⟨i,j,rfl,rfl,hc,q⟩:=h
 obtain ⟨t,rfl⟩:=rx
 obtain ⟨t',rfl⟩:=ry
 exact rule i j t t' s _ _ hc ⟨.int (g i j),H,I.tok _,⟨_,rfl⟩,q⟩
theorem opI0 {f:Value→Value→Sem Value} {g:Int→Int→Int}
  (rule:∀ (i j:Int) (t u:Tok) (s:Shared) (Q:Value→Shared→Prop) (E:Value→Shared→Prop),Q (.int (g i j) s.toks) { s with toks:=s.toks+1 }→wpAny (model X.prog X.w) X.A (f (.int i t) (.int j u)) Q E s) :
  OpR X f (rI0 fun i j=>.int (g i j)):=by
 intro pins s σ H x y v u Q I rx ry h
 obtain ⟨i,j,rfl,rfl,q⟩:=h
 obtain ⟨t,rfl⟩:=rx
 obtain ⟨t',rfl⟩:=ry
 exact rule i j t t' s _ _ ⟨.int (g i j),H,I.tok _,⟨_,rfl⟩,q⟩
theorem opB0 {f:Value→Value→Sem Value} {g:Int→Int→Bool}
  (rule:∀ (i j:Int) (t u:Tok) (s:Shared) (Q:Value→Shared→Prop) (E:Value→Shared→Prop),Q (.bool (g i j)) s→wpAny (model X.prog X.w) X.A (f (.int i t) (.int j u)) Q E s) :
  OpR X f (rI0 fun i j=>.bl (g i j)):=by
 intro pins s σ H x y v u Q I rx ry h
 obtain ⟨i,j,rfl,rfl,q⟩:=h
 obtain ⟨t,rfl⟩:=rx
 obtain ⟨t',rfl⟩:=ry
 exact rule i j t t' s _ _ ⟨.bl (g i j),H,I,rfl,q⟩
def CDiv (i j:Int):Prop:=0 < j∧j < 1073741824
def CPow (i j:Int):Prop:=0≤j∧j≤1000000∧i.natAbs < 2 ^ 64
def CMul (i j:Int):Prop:=(-(2 ^ 64) < i∧i < 2 ^ 64)∨(-(2 ^ 64) < j∧j < 2 ^ 64)
theorem CMul.ok {i j:Int} (h:CMul i j):IntMulOk i j:=by
 rcases h with ⟨h1,h2⟩ | ⟨h1,h2⟩
 ·exact .of_left (intBits_le_64 h1 h2)
 ·exact .of_right (intBits_le_64 h1 h2)
theorem a0F:OpR X (binaryOp .Add) (rI0 fun i j=>.int (i+j)):=opI0 fun _ _ _ _ _ _ _ q=>add_int q
theorem a1c:OpR X (binaryOp .Sub) (rI0 fun i j=>.int (i - j)):=opI0 fun _ _ _ _ _ _ _ q=>sub_int q
theorem a3J:OpR X (binaryOp .Mult) (rI CMul fun i j=>.int (i * j)):=opI fun _ _ _ _ _ _ _ hc q=>mul_int q hc.ok
theorem a3Z:OpR X (binaryOp .FloorDiv) (rI CDiv fun i j=>.int (i / j)):=opI fun i j _ _ _ _ _ hc q=>by
 have h1:(0:Int) < j:=hc.1
 have h2:j < 1073741824:=hc.2
 exact floordiv_int (by omega) (by rw [Int.fdiv_eq_ediv_of_nonneg i (by omega)];exact q) (.inl (PyProof.noPylong_small (by omega)))
theorem a1p:OpR X (binaryOp .Mod) (rI (fun _ j=>0 < j) fun i j=>.int (i % j)):=opI fun i j _ _ _ _ _ hc q=>by
 have h1:(0:Int) < j:=hc
 exact mod_int' (by omega) (by rw [Int.fmod_eq_emod_of_nonneg i (by omega)];exact q)
theorem a5K:OpR X (binaryOp .Pow) (rI CPow fun i j=>.int (i ^ j.toNat)):=opI fun _ _ _ _ _ _ _ hc q=>pow_int_small hc.1 hc.2.1 hc.2.2 q
theorem unI {f:Value→Sem Value} {g:Int→Int}
  (rule:∀ (i:Int) (t:Tok) (s:Shared) (Q:Value→Shared→Prop) (E:Value→Shared→Prop),Q (.int (g i) s.toks) { s with toks:=s.toks+1 }→wpAny (model X.prog X.w) X.A (f (.int i t)) Q E s) :
  UnR X f (rU fun i=>.int (g i)):=by
 intro pins s σ H x v Q I rx h
 obtain ⟨i,rfl,q⟩:=h
 obtain ⟨t,rfl⟩:=rx
 exact rule i t s _ _ ⟨.int (g i),H,I.tok _,⟨_,rfl⟩,q⟩
theorem a1v:UnR X (unaryOp .USub) (rU fun i=>.int (-i)):=unI fun _ _ _ _ _ q=>neg_int q
end
def scal:V→V→Bool
 | .non,.non=>true | .non,.int _=>true | .int _,.non=>true | .non,.bl _=>true | .bl _,.non=>true | .non,.str _=>true | .str _,.non=>true
 | .int _,.int _=>true | .bl _,.bl _=>true | .str _,.str _=>true | .byt _,.byt _=>true
 | .int _,.str _=>true | .str _,.int _=>true | .bl _,.str _=>true | .str _,.bl _=>true
 | _,_=>false
def rEq:R2:=fun x y H Q=>scal x y=true∧Q (.bl (decide (x=y))) H
def rNe:R2:=fun x y H Q=>scal x y=true∧Q (.bl (!decide (x=y))) H
theorem a7c {i j:Int}:decide (V.int i=V.int j)=(i == j):=by
 rw [Bool.eq_iff_iff]
 simp
theorem b0y {i j:Bool}:decide (V.bl i=V.bl j)=(i == j):=by
 rw [Bool.eq_iff_iff]
 simp
theorem a7d {i j:Str}:decide (V.str i=V.str j)=(i == j):=by
 rw [Bool.eq_iff_iff]
 simp
theorem a7e {i j:Array UInt8}:decide (V.byt i=V.byt j)=(i.toList == j.toList):=by
 rw [Bool.eq_iff_iff]
 cases i
 cases j
 simp
section
variable {X:Cx} {a b c:Expr} {ta tb tc:TE} {pos:Pos}
theorem a0J {pins:List (Addr × Obj)} {σ:St} {H:Hp} {s:Shared} {Q:VK} {k k':Bool} (I:Inv X pins σ H s) (q:Q (.bl k) H) (e:k=k'):EP X pins σ Q (.bool k') s:=by
 subst e
 exact ⟨.bl k,H,I,rfl,q⟩
theorem a3E:OpR X (compareOp .Eq) rEq:=by
 intro pins s σ H x y v u Q I rx ry h
 obtain ⟨hs,q⟩:=h
 cases x with
 | non =>
  cases rx
  cases y with
  | non=>cases ry;exact PySem.EqNone.eq_none_none (a0J I q (by simp))
  | bl j=>cases ry;exact PySem.EqNone.eq_none_bool (a0J I q (by simp))
  | int j=>obtain ⟨t',rfl⟩:=ry;exact PySem.EqNone.eq_none_int (a0J I q (by simp))
  | str j=>obtain ⟨t',rfl⟩:=ry;exact PySem.EqNone.eq_none_str (a0J I q (by simp))
  | _=>exact absurd (show false=true from hs) Bool.false_ne_true
 | bl i =>
  cases rx
  cases y with
  | non=>cases ry;exact PySem.EqNone.eq_bool_none (a0J I q (by simp))
  | bl j=>cases ry;exact eq_bool (a0J I q b0y)
  | str j=>obtain ⟨t',rfl⟩:=ry;exact PySem.EqMixed.eq_bool_str (a0J I q (by simp))
  | _=>exact absurd (show false=true from hs) Bool.false_ne_true
 | int i =>
  obtain ⟨t,rfl⟩:=rx
  cases y with
  | non=>cases ry;exact PySem.EqNone.eq_int_none (a0J I q (by simp))
  | int j=>obtain ⟨t',rfl⟩:=ry;exact eq_int (a0J I q a7c)
  | str j=>obtain ⟨t',rfl⟩:=ry;exact PySem.EqMixed.eq_int_str (a0J I q (by simp))
  | _=>exact absurd (show false=true from hs) Bool.false_ne_true
 | str i =>
  obtain ⟨t,rfl⟩:=rx
  cases y with
  | non=>cases ry;exact PySem.EqNone.eq_str_none (a0J I q (by simp))
  | bl j=>cases ry;exact PySem.EqMixed.eq_str_bool (a0J I q (by simp))
  | int j=>obtain ⟨t',rfl⟩:=ry;exact PySem.EqMixed.eq_str_int (a0J I q (by simp))
  | str j=>obtain ⟨t',rfl⟩:=ry;exact eq_str (a0J I q a7d)
  | _=>exact absurd (show false=true from hs) Bool.false_ne_true
 | byt i =>
  obtain ⟨t,rfl⟩:=rx
  cases y with
  | byt j=>obtain ⟨t',rfl⟩:=ry;exact PySem.W.eq_bytes (a0J I q a7e)
  | _=>exact absurd (show false=true from hs) Bool.false_ne_true
 | _=>cases y <;> exact absurd (show false=true from hs) Bool.false_ne_true
theorem a9c:OpR X (compareOp .NotEq) rNe:=by
 intro pins s σ H x y v u Q I rx ry h
 obtain ⟨hs,q⟩:=h
 cases x with
 | non =>
  cases rx
  cases y with
  | non=>cases ry;exact PySem.EqNone.ne_none_none (a0J I q (by simp))
  | bl j=>cases ry;exact PySem.EqNone.ne_none_bool (a0J I q (by simp))
  | int j=>obtain ⟨t',rfl⟩:=ry;exact PySem.EqNone.ne_none_int (a0J I q (by simp))
  | str j=>obtain ⟨t',rfl⟩:=ry;exact PySem.EqNone.ne_none_str (a0J I q (by simp))
  | _=>exact absurd (show false=true from hs) Bool.false_ne_true
 | bl i =>
  cases rx
  cases y with
  | non=>cases ry;exact PySem.EqNone.ne_bool_none (a0J I q (by simp))
  | bl j=>cases ry;exact ne_bool (a0J I q (congrArg not b0y))
  | str j=>obtain ⟨t',rfl⟩:=ry;exact PySem.EqMixed.ne_bool_str (a0J I q (by simp))
  | _=>exact absurd (show false=true from hs) Bool.false_ne_true
 | int i =>
  obtain ⟨t,rfl⟩:=rx
  cases y with
  | non=>cases ry;exact PySem.EqNone.ne_int_none (a0J I q (by simp))
  | int j=>obtain ⟨t',rfl⟩:=ry;exact ne_int (a0J I q (congrArg not a7c))
  | str j=>obtain ⟨t',rfl⟩:=ry;exact PySem.EqMixed.ne_int_str (a0J I q (by simp))
  | _=>exact absurd (show false=true from hs) Bool.false_ne_true
 | str i =>
  obtain ⟨t,rfl⟩:=rx
  cases y with
  | non=>cases ry;exact PySem.EqNone.ne_str_none (a0J I q (by simp))
  | bl j=>cases ry;exact PySem.EqMixed.ne_str_bool (a0J I q (by simp))
  | int j=>obtain ⟨t',rfl⟩:=ry;exact PySem.EqMixed.ne_str_int (a0J I q (by simp))
  | str j=>obtain ⟨t',rfl⟩:=ry;exact ne_str (a0J I q (congrArg not a7d))
  | _=>exact absurd (show false=true from hs) Bool.false_ne_true
 | byt i =>
  obtain ⟨t,rfl⟩:=rx
  cases y with
  | byt j=>obtain ⟨t',rfl⟩:=ry;exact PySem.W.ne_bytes (a0J I q (congrArg not a7e))
  | _=>exact absurd (show false=true from hs) Bool.false_ne_true
 | _=>cases y <;> exact absurd (show false=true from hs) Bool.false_ne_true
theorem a7f:OpR X (compareOp .Lt) (rI0 fun i j=>.bl (decide (i < j))):=opB0 fun _ _ _ _ _ _ _ q=>lt_int q
theorem a9d:OpR X (compareOp .LtE) (rI0 fun i j=>.bl (decide (i≤j))):=opB0 fun _ _ _ _ _ _ _ q=>le_int q
theorem b1f:OpR X (compareOp .Gt) (rI0 fun i j=>.bl (decide (j < i))):=opB0 fun _ _ _ _ _ _ _ q=>gt_int q
theorem op_ge:OpR X (compareOp .GtE) (rI0 fun i j=>.bl (decide (j≤i))):=opB0 fun _ _ _ _ _ _ _ q=>ge_int q
theorem b0z:OpR X (compareOp .Is) (fun x y H Q=>y=.non∧Q (.bl (decide (x=.non))) H):=by
 intro pins s σ H x y v u Q I rx ry h
 obtain ⟨rfl,q⟩:=h
 cases ry
 refine is_none_gen (a0J I q ?_)
 cases x <;> first
  | (cases rx;rfl)
  | (obtain ⟨t,rfl⟩:=rx;rfl)
theorem a5l:OpR X (compareOp .IsNot) (fun x y H Q=>y=.non∧Q (.bl (!decide (x=.non))) H):=by
 intro pins s σ H x y v u Q I rx ry h
 obtain ⟨rfl,q⟩:=h
 cases ry
 refine isnot_none_gen (a0J I q ?_)
 cases x <;> first
  | (cases rx;rfl)
  | (obtain ⟨t,rfl⟩:=rx;rfl)
def isObj:HO→Bool
 | .lst _=>true
 | .ins _ _ _=>true
 | _=>false
theorem nomark (b:Expr) {op:CmpOp} (h:op≠.In:=by decide) (h2:op≠.NotIn:=by decide):behindInMarks op b=false:=by
 have e1:(op == CmpOp.In)=false:=by cases op <;> first | rfl | exact absurd rfl h
 have e2:(op == CmpOp.NotIn)=false:=by cases op <;> first | rfl | exact absurd rfl h2
 cases b <;> simp [behindInMarks,e1,e2]
theorem a1P {op:CmpOp} {r:R2} (ho:OpR X (compareOp op) r) (ha:PE X a ta) (hb:PE X b tb) (hm:behindInMarks op b=false):PE X (.Compare a [op] [b] pos) (tOp r ta tb):=by
 intro pins s σ H Q I h
 exact wpAny_Compare1 (binT ha hb I h fun v u s2 x y H2 I2 rx ry q=>ho pins s2 σ H2 x y v u Q I2 rx ry q) hm
def tTest (t:TE):TT:=fun σ H Q=>t σ H fun x H'=>∃ k,x=.bl k∧Q k H'
theorem a0G {op:CmpOp} {r:R2} (ho:OpR X (compareOp op) r) (ha:PE X a ta) (hb:PE X b tb) (hm:behindInMarks op b=false):PT X (.Compare a [op] [b] pos) (tTest (tOp r ta tb)):=by
 intro pins s σ H Q I h
 refine wpAny_isTrue_Compare1 (thn (ha pins s σ H _ I h) fun v s1 ⟨x,H1,I1,r1,q1⟩=>thn (hb pins s1 σ H1 _ I1 q1) fun u s2 ⟨y,H2,I2,r2,q2⟩ =>
  thn (ho pins s2 σ H2 x y v u _ I2 r1 r2 q2) fun c s3 ⟨z,H3,I3,r3,k,e,q3⟩=>?_) hm
 subst e
 cases r3
 exact wpAny_truthy_bool ⟨H3,I3,q3⟩
def b0A (r r':R2) (ta tb tc:TE):TE:=fun σ H Q=>ta σ H fun x H1=>tb σ H1 fun y H2=>r x y H2 fun z H3=>∃ k,z=.bl k ∧
 (if k=true then tc σ H3 fun w' H4=>r' y w' H4 Q else Q (.bl false) H3)
theorem a9e {op op':CmpOp} {r r':R2} (ho:OpR X (compareOp op) r) (ho':OpR X (compareOp op') r') (ha:PE X a ta) (hb:PE X b tb) (hc:PE X c tc)
  (hm:lastMarks [op,op'] [b,c]=false:=by with_unfolding_all rfl):PE X (.Compare a [op,op'] [b,c] pos) (b0A r r' ta tb tc):=by
 intro pins s σ H Q I h
 refine Compare_chain (thn (ha pins s σ H _ I h) fun v s1 ⟨x,H1,I1,r1,q1⟩=>chain_link (thn (hb pins s1 σ H1 _ I1 q1) fun u s2 ⟨y,H2,I2,r2,q2⟩ =>
  thn (ho pins s2 σ H2 x y v u _ I2 r1 r2 q2) fun d s3 ⟨z,H3,I3,r3,k,e,q3⟩=>?_)) hm
 subst e
 cases r3
 refine wpAny_truthy_bool ?_
 cases k with
 | false=>exact ite_ff ⟨.bl false,H3,I3,rfl,q3⟩
 | true=>exact ite_tt (chain_last (thn (hc pins s3 σ H3 _ I3 q3) fun w' s4 ⟨z',H4,I4,r4,q4⟩=>ho' pins s4 σ H4 y z' u w' Q I4 r2 r4 q4))
theorem a9f {op op':CmpOp} {r r':R2} (ho:OpR X (compareOp op) r) (ho':OpR X (compareOp op') r') (ha:PE X a ta) (hb:PE X b tb) (hc:PE X c tc)
  (hm:lastMarks [op,op'] [b,c]=false:=by with_unfolding_all rfl):PT X (.Compare a [op,op'] [b,c] pos) (tTest (b0A r r' ta tb tc)):=by
 intro pins s σ H Q I h
 refine isTrue_chain (thn (ha pins s σ H _ I h) fun v s1 ⟨x,H1,I1,r1,q1⟩=>test_link (thn (hb pins s1 σ H1 _ I1 q1) fun u s2 ⟨y,H2,I2,r2,q2⟩ =>
  thn (ho pins s2 σ H2 x y v u _ I2 r1 r2 q2) fun d s3 ⟨z,H3,I3,r3,k,e,q3⟩=>?_)) hm
 subst e
 cases r3
 refine wpAny_truthy_bool ?_
 cases k with
 | false =>
  obtain ⟨k',e',q'⟩:=q3
  cases e'
  exact ite_ff ⟨H3,I3,q'⟩
 | true =>
  refine ite_tt (test_last (thn (hc pins s3 σ H3 _ I3 q3) fun w' s4 ⟨z',H4,I4,r4,q4⟩=>thn (ho' pins s4 σ H4 y z' u w' _ I4 r2 r4 q4) fun d' s5 ⟨z2,H5,I5,r5,k2,e2,q5⟩=>?_))
  subst e2
  cases r5
  exact wpAny_truthy_bool ⟨H5,I5,q5⟩
def TruV (K:PySem.W.Frag) (x:V) (H:Hp) (k:Bool):Prop :=
 match x with
 | .non=>k=false
 | .bl b=>k=b
 | .int i=>k=(i != 0)
 | .str y=>y.length≤sizeLine∧k=((y.length:Int) != 0)
 | .byt y=>y.size≤sizeLine∧k=((y.size:Int) != 0)
 | .ref p=>(∃ xs,SqL K H p xs∧k=!xs.isEmpty)∨(∃ xs,SqT K H p xs∧k=!xs.isEmpty)∨∃ kvs,H p=some (.dK kvs)∧k=!kvs.isEmpty
 | _=>False
theorem a5L:(sizeLine:Nat) < 2 ^ 63:=by rw [sizeLine_eq];decide
theorem a4I {x:V} {us:List Value} (r:a0O [x] us):∃ u,us=[u]∧a1a x u:=by
 cases r with
 | cons r1 r2=>cases r2;exact ⟨_,rfl,r1⟩
theorem vals2 {x y:V} {us:List Value} (r:a0O [x,y] us):∃ u w',us=[u,w']∧a1a x u∧a1a y w':=by
 cases r with
 | cons r1 r2 =>
  cases r2 with
  | cons r3 r4=>cases r4;exact ⟨_,_,rfl,r1,r3⟩
theorem a7g (hc:X.calm=true):a3D X (.builtin "max") (fun xs H Q=>∃ i j,xs=[.int i,.int j]∧Q (.int (if j > i then j else i)) H):=by
 intro pins s σ H xs us Q I r h
 obtain ⟨i,j,rfl,q⟩:=h
 obtain ⟨u,w',rfl,⟨t,rfl⟩,⟨t',rfl⟩⟩:=vals2 r
 refine max_two_ints (I.ok.hd hc) fun h' tk k=>⟨_,H,I.kept k,?_,q⟩
 by_cases hj:j > i
 ·rw [if_pos hj,if_pos hj];exact ⟨_,rfl⟩
 ·rw [if_neg hj,if_neg hj];exact ⟨_,rfl⟩
def LenV (K:PySem.W.Frag) (x:V) (H:Hp) (n:Nat):Prop :=
 match x with
 | .str y=>y.length≤sizeLine∧n=y.length
 | .byt y=>y.size≤sizeLine∧n=y.size
 | .ref p=>(∃ xs,SqL K H p xs∧n=xs.length)∨∃ xs,SqT K H p xs∧n=xs.length
 | _=>False
end
structure b1g (h:Heap) (x dx C:Addr) (mA:Str→Option Value):Prop where
 obj:h.get? x=some (PySem.W.instObj C dx)
 ns:h.Ns1 dx mA
 ne:dx≠x
theorem a7h {h:Heap} {dx:Addr} {mA:Str→Option Value} (n:h.Ns1 dx mA):∃ od,h.get? dx=some od∧∀ name,PySem.W.lookIn name od=some (mA name):=by
 obtain ⟨o,es,ep,ho,hd,hk,_,hm⟩:=n
 refine ⟨o,ho,fun name=>?_⟩
 have e:=hm name
 unfold nsFind findBy at e
 rw [←Array.find?_toList] at e
 unfold PySem.W.lookIn
 rw [hd]
 dsimp only
 split
 ·rename_i y q
  rw [q] at e
  exact congrArg some e
 ·rename_i q
  rw [q] at e
  have a:es.toList.any (·.refKey)=false:=by
   rw [List.any_eq_false]
   intro y hy
   obtain ⟨z,t,hkey⟩:=hk y (Array.mem_toList_iff.mp hy)
   simp [DictEntry.refKey,hkey]
  have a':¬ es.toList.any (·.refKey)=true:=by rw [a];exact Bool.false_ne_true
  rw [if_neg a']
  exact congrArg some e
theorem b1g.look {h:Heap} {x dx C:Addr} {mA:Str→Option Value} (I:b1g h x dx C mA):∃ od,PySem.W.InstAt h x (PySem.W.instObj C dx) C (some od)∧∀ name,PySem.W.lookIn name od=some (mA name) :=
 let ⟨od,ho,hl⟩:=a7h I.ns
 ⟨od,⟨I.obj,rfl,rfl,ho⟩,hl⟩
section
variable {prog:Program} {w:World} {A:Around} {E:Value→Shared→Prop} {s:Shared} {K:PySem.W.Frag} {x dx C f:Addr} {mA:Str→Option Value} {name:Str} {v:Value}
theorem b1h {expr:Bool} {Q:Value→Shared→Prop} (X:K.In s.heap) (I:b1g s.heap x dx C mA) (hg:PySem.W.plainGet K C name=true) (hh:PySem.W.hasDictIn K C=true)
  (ha:PySem.W.findIn K (.ref C) name=some none) (hv:mA name=some v) (hv':PySem.W.handedIn v=true) (h:Q v { s with toks:=s.toks+1 }) :
  wpAny (model prog w) A (getAttr (.ref x) name expr) Q E s:=by
 obtain ⟨od,J,hl⟩:=I.look
 exact PySem.W.get_value X J (PySem.W.plainGet_of hg).1 (PySem.W.findObj_own hh ha rfl (by rw [hl,hv])) hv' h
theorem a9g {pl:Sem Bool} {Q:Value × List Value→Shared→Prop} (X:K.In s.heap) (I:b1g s.heap x dx C mA) (hg:PySem.W.plainGet K C name=true)
  (hf:PySem.W.findIn K (.ref C) name=some (some (.ref f))) (ht:PySem.W.isFn K (.ref f)=true) (hv:mA name=none) (h:Q (.ref f,[.ref x]) s) :
  wpAny (model prog w) A (getMethod (.ref x) name pl) Q E s:=by
 obtain ⟨od,J,hl⟩:=I.look
 exact PySem.W.method_fn X J (PySem.W.plainGet_of hg).1 (PySem.W.plainGet_of hg).2 hf (beq_iff_eq.mp ht) (by show (PySem.W.lookIn name od).map (·.isSome)=some false;rw [hl,hv];rfl) h
theorem b1i {ns:List Str} {Q:Unit→Shared→Prop} (X:K.In s.heap) (I:b1g s.heap x dx C mA)
  (hs:PySem.W.findIn K (.ref C) "__setattr__"=some (some (.builtin "object.__setattr__"))) (hp:PySem.W.plainOver K C=true) (ht:PySem.W.takerIn K C name=some none) (hh:PySem.W.hasDictIn K C=true)
  (hw:PySem.Within mA ns) (hsz:ns.length≤sizeLine)
  (h:∀ h',b1g h' x dx C (fun y=>if y=name then some v else mA y)→Heap.SameBut dx s.heap h'→Q () { s with heap:=h',toks:=s.toks+2 }) :
  wpAny (model prog w) A (setAttr (.ref x) name v) Q E s:=by
 obtain ⟨od,J,hl⟩:=I.look
 refine PySem.W.set_plain X J hs (PySem.W.osa_open (s:={ s with toks:=s.toks+1 }) (r:=none) X J hp ht fun b=>?_)
 obtain ⟨cd,hc,hd'⟩:=PySem.W.any_some hh
 have hx:s.heap.get? x=some ⟨.ref C,some dx,.plain,#[]⟩:=I.obj
 refine wpAny_bind (wpAny_pure (wpAny_bind (wpAny_bind (wpAny_loadPart hx (wpAny_bind (PySem.W.Looks.here (s:={ s with toks:=s.toks+1 }) (PySem.W.looks_clsIn X hc) ?_))))))
 rw [hd']
 refine wpAny_pure (a:=some dx) (wpAny_bind (wpAny_pure (wpAny_bind ?_)))
 refine wpAny_nsSet1 (s:={ s with toks:=s.toks+1 }) I.ns fun h' hn2 hs2=>?_
 obtain ⟨oD,esD,epD,hoD,hdD,hcD⟩:=hn2.count (PySem.Within.cons name v hw)
 refine wpAny_bind (wpAny_lookBehind hoD (by rw [hdD];exact pastItsLine_dict (Nat.le_trans hcD (by rw [List.length_cons];omega))) ?_)
 exact wpAny_pure (h _ ⟨(hs2.2 _ (Ne.symm I.ne)).trans I.obj,hn2,I.ne⟩ hs2)
theorem a9h {R:Result→Shared→Prop} {vs:List Value} {kw:List (Str × Value)} (X:K.In s.heap) (hm:PySem.W.makesIn K C=true)
  (hi:PySem.W.findIn K (.ref C) "__init__"=some (some (.ref f))) (hf:PySem.W.typeIn K (.ref f)=some (.type "function"))
  (h:codeAny (model prog w) (A.under (.builtin "type.__call__" ⟨.ref C :: vs,kw⟩)) (.call (.ref f) ⟨.ref (s.heap.objs.size+1) :: vs,kw⟩) (PySem.W.InitBack (s.heap.objs.size+1) R)
   { s with heap:=(s.heap.push PySem.W.emptyDict).push (PySem.W.instObj C s.heap.objs.size) }) :
  codeAny (model prog w) A (.call (.ref C) ⟨vs,kw⟩) R s:=by
 obtain ⟨hh,g,d,t,os⟩:=s
 exact PySem.W.make_core (PySem.W.makes_of X hm) (PySem.W.looks_findIn X hi) (fun self=>PySem.W.bind_fn X self hf) (.inl rfl) h
end
def a3C (f:Str) (v:V):List (Str × V)→List (Str × V)
 | []=>[(f,v)]
 | (g,x) :: r=>if g=f then (g,v) :: r else (g,x) :: a3C f v r
theorem a3c (f g:Str) (v:V):∀ fs:List (Str × V),(a3C f v fs).lookup g=if g=f then some v else fs.lookup g
 | []=>by
  show List.lookup g [(f,v)]=_
  by_cases h:g=f
  ·have hb:(g == f)=true:=beq_iff_eq.mpr h
   simp only [List.lookup,hb,if_pos h]
  ·have hb:(g == f)=false:=beq_eq_false_iff_ne.mpr h
   simp only [List.lookup,hb,if_neg h]
 | (k,x) :: r=>by
  have ih:=a3c f g v r
  rw [show a3C f v ((k,x) :: r)=(if k=f then (k,v) :: r else (k,x) :: a3C f v r) from rfl]
  by_cases hk:k=f
  ·rw [if_pos hk]
   by_cases h:g=k
   ·have hb:(g == k)=true:=beq_iff_eq.mpr h
    simp only [List.lookup,hb,if_pos (h.trans hk)]
   ·have hb:(g == k)=false:=beq_eq_false_iff_ne.mpr h
    simp only [List.lookup,hb,if_neg (fun e:g=f=>h (e.trans hk.symm))]
  ·rw [if_neg hk]
   by_cases h:g=k
   ·have hb:(g == k)=true:=beq_iff_eq.mpr h
    simp only [List.lookup,hb,if_neg (fun e:g=f=>hk (h.symm.trans e))]
   ·have hb:(g == k)=false:=beq_eq_false_iff_ne.mpr h
    simp only [List.lookup,hb]
    exact ih
theorem a3d (f:Str) (v:V):∀ fs:List (Str × V),f∈(a3C f v fs).map (·.1)∧∀ g,g∈fs.map (·.1)→g∈(a3C f v fs).map (·.1)
 | []=>⟨by simp [a3C],fun g h=>by simp at h⟩
 | (k,x) :: r=>by
  obtain ⟨i1,i2⟩:=a3d f v r
  rw [show a3C f v ((k,x) :: r)=(if k=f then (k,v) :: r else (k,x) :: a3C f v r) from rfl]
  by_cases hk:k=f
  ·rw [if_pos hk]
   subst hk
   exact ⟨by simp,fun g h=>by simpa using h⟩
  ·rw [if_neg hk]
   refine ⟨?_,fun g h=>?_⟩
   ·rw [List.map_cons]
    exact List.mem_cons_of_mem _ i1
   ·rw [List.map_cons] at h ⊢
    rcases List.mem_cons.mp h with e | e
    ·exact List.mem_cons.mpr (.inl e)
    ·exact List.mem_cons_of_mem _ (i2 g e)
theorem a3e (f:Str) (v:V):∀ fs:List (Str × V),(a3C f v fs).length≤fs.length+1
 | []=>by simp [a3C]
 | (k,x) :: r=>by
  have ih:=a3e f v r
  rw [show a3C f v ((k,x) :: r)=(if k=f then (k,v) :: r else (k,x) :: a3C f v r) from rfl]
  by_cases hk:k=f
  ·rw [if_pos hk,List.length_cons,List.length_cons];omega
  ·rw [if_neg hk,List.length_cons,List.length_cons];omega
theorem a8S.some_of {v:V} {o:Option Value} (r:a8S (some v) o):∃ u,o=some u∧a1a v u:=by
 cases o with
 | none=>exact (show False from r).elim
 | some u=>exact ⟨u,rfl,r⟩
theorem a8S.none_of {o:Option Value} (r:a8S none o):o=none:=by
 cases o with
 | none=>rfl
 | some u=>exact (show False from r).elim
theorem a7i {v:V} {u:Value} (r:a1a v u):PySem.W.handedIn u=true:=by
 cases v with
 | non=>cases (show u=Value.none from r);rfl
 | bl b=>cases (show u=Value.bool b from r);rfl
 | int i=>obtain ⟨t,e⟩:=(show ∃ t,u=Value.int i t from r);cases e;rfl
 | str x=>obtain ⟨t,e⟩:=(show ∃ t,u=Value.str x t from r);cases e;rfl
 | byt b=>obtain ⟨t,e⟩:=(show ∃ t,u=Value.bytes b t from r);cases e;rfl
 | flt b=>obtain ⟨t,e⟩:=(show ∃ t,u=Value.float b t from r);cases e;rfl
 | ref a=>cases (show u=Value.ref a from r);rfl
 | ty n=>cases (show u=Value.type n from r);rfl
section
variable {P:Program} {w:World} {H H':Hp} {h h':Heap} {a C dx:Addr} {fs fs':List (Str × V)}
theorem a5m (hok:HOk P w H h) (e:H a=some (.ins C dx fs)):∃ mA,b1g h a dx C mA∧(∀ f,a8S (fs.lookup f) (mA f))∧PySem.Within mA (fs.map (·.1))∧fs.length≤1000∧H dx=some (.own a):=by
 obtain ⟨d,z,ne,ob,mA,n,r,q⟩:=(show a1n P w H h a (.ins C dx fs) from hok a _ e)
 exact ⟨mA,⟨ob,n,ne⟩,r,q,z,d⟩
end
structure Cls (K:PySem.W.Frag) (C:Addr):Prop where
 pg:PySem.W.plainGet K C Str.empty=true
 hd:PySem.W.hasDictIn K C=true
 po:PySem.W.plainOver K C=true
 sa:PySem.W.findIn K (.ref C) "__setattr__"=some (some (.builtin "object.__setattr__"))
theorem Cls.get {K:PySem.W.Frag} {C:Addr} (c:Cls K C) (f:Str):PySem.W.plainGet K C f=true:=c.pg
def a1J (K:PySem.W.Frag) (C:Addr) (f:Str):Prop:=PySem.W.findIn K (.ref C) f=some none
theorem a1J.taker {K:PySem.W.Frag} {C:Addr} {f:Str} (n:a1J K C f):PySem.W.takerIn K C f=some none:=by
 unfold PySem.W.takerIn
 rw [show PySem.W.findIn K (.ref C) f=some none from n]
 rfl
structure Con (K:PySem.W.Frag) (C:Addr) (f:Str) (v:V) (u:Value):Prop where
 at_:PySem.W.findIn K (.ref C) f=some (some u)
 rel:a1a v u
 get:PySem.W.specialIn K u "__get__"=some none
 cp:PySem.W.copiedNames.contains f=false
structure Meth (K:PySem.W.Frag) (C:Addr) (m:Str) (f:Addr):Prop where
 at_:PySem.W.findIn K (.ref C) m=some (some (.ref f))
 fn:PySem.W.isFn K (.ref f)=true
 kp:PySem.W.keepIn K (.ref f)=true
section
variable {X:Cx} {pins:List (Addr × Obj)} {σ:St} {H:Hp} {s:Shared} {a C dx:Addr} {fs:List (Str × V)} {f:Str} {v:V} {A:Around} {E:Value→Shared→Prop}
theorem a6q {b:Bool} {Q:Value→Shared→Prop} (I:Inv X pins σ H s) (e:H a=some (.ins C dx fs)) (c:Cls X.K C) (n:a1J X.K C f) (l:fs.lookup f=some v)
  (h:∀ u s',Inv X pins σ H s'→a1a v u→Q u s'):wpAny (model X.prog X.w) A (getAttr (.ref a) f b) Q E s:=by
 obtain ⟨mA,O,r,_,_,_⟩:=a5m I.hok e
 obtain ⟨u,hu,ru⟩:=a8S.some_of (v:=v) (o:=mA f) (by rw [←l];exact r f)
 exact b1h I.kIn O (c.get f) c.hd n hu (a7i ru) (h u _ (I.tok _) ru)
theorem a3K {m:Str} {g:Addr} {pl:Sem Bool} {Q:Value × List Value→Shared→Prop} (I:Inv X pins σ H s) (e:H a=some (.ins C dx fs)) (c:Cls X.K C) (k:Meth X.K C m g) (l:fs.lookup m=none)
  (h:Q (.ref g,[.ref a]) s):wpAny (model X.prog X.w) A (getMethod (.ref a) m pl) Q E s:=by
 obtain ⟨mA,O,r,_,_,_⟩:=a5m I.hok e
 have hn:mA m=none:=a8S.none_of (by rw [←l];exact r m)
 exact a9g I.kIn O (c.get m) k.at_ k.fn hn h
theorem a6r {y:V} {u:Value} {Q:Unit→Shared→Prop} (I:Inv X pins σ H s) (e:H a=some (.ins C dx fs)) (c:Cls X.K C) (n:a1J X.K C f) (hl:fs.length < 1000) (ry:a1a y u)
  (h:∀ s',Inv X pins σ (upd H a (.ins C dx (a3C f y fs))) s'→Q () s'):wpAny (model X.prog X.w) A (setAttr (.ref a) f u) Q E s:=by
 obtain ⟨mA,O,r,wi,_,ho⟩:=a5m I.hok e
 have hz:(fs.map (·.1)).length≤sizeLine:=by rw [List.length_map,sizeLine_eq];omega
 refine b1i I.kIn O c.sa c.po n.taker c.hd wi hz fun h' O' sb=>h _ ?_
 have hd:∃ o,h'.get? dx=some o:=let ⟨o,_,_,e',_⟩:=O'.ns;⟨o,e'⟩
 refine I.write (x:=a) (e:=dx) (by rw [e];exact True.intro) (.inr ho) (fun b q hb z=>(sb.2 b hb).trans z) hd ?_
 refine ⟨by rw [a0i O.ne];exact ho,?_,O.ne,O'.obj,_,O'.ns,fun g=>?_,fun g hg=>?_⟩
 ·have:=a3e f y fs;omega
 ·show a8S ((a3C f y fs).lookup g) (if g=f then some u else mA g)
  rw [a3c]
  by_cases q:g=f
  ·rw [if_pos q,if_pos q];exact ry
  ·rw [if_neg q,if_neg q];exact r g
 ·by_cases q:g=f
  ·rw [q];exact (a3d f y fs).1
  ·refine (a3d f y fs).2 g (wi g fun z=>hg ?_)
   show (if g=f then some u else mA g)=none
   rw [if_neg q];exact z
theorem Inv.made (I:Inv X pins σ H s):Inv X pins σ (upd (upd H s.heap.objs.size (.own (s.heap.objs.size+1))) (s.heap.objs.size+1) (.ins C s.heap.objs.size []))
  { s with heap:=(s.heap.push PySem.W.emptyDict).push (PySem.W.instObj C s.heap.objs.size) }:=by
 have e1:(s.heap.push PySem.W.emptyDict).get? s.heap.objs.size=some PySem.W.emptyDict:=Heap.get?_push_size s.heap rfl
 have e2:((s.heap.push PySem.W.emptyDict).push (PySem.W.instObj C s.heap.objs.size)).get? (s.heap.objs.size+1)=some (PySem.W.instObj C s.heap.objs.size):=by
  have:=Heap.get?_push_size (s.heap.push PySem.W.emptyDict) (o:=PySem.W.instObj C s.heap.objs.size) rfl
  rwa [Heap.size_push] at this
 have e3:(s.heap.push PySem.W.emptyDict).Ns s.heap.objs.size (fun _=>none):=⟨PySem.W.emptyDict,#[],_,e1,rfl,(fun e he=>absurd he (by simp)),fun _=>rfl⟩
 have I1:=I.laid (a:=s.heap.objs.size) (o:=.own (s.heap.objs.size+1)) (h':=s.heap.push PySem.W.emptyDict) (t':=s.toks) (fun b u q=>Heap.get?_push_of_some _ q) (Nat.le_refl _) ⟨_,e1⟩
 refine I1.laid (a:=s.heap.objs.size+1) (o:=.ins C s.heap.objs.size []) (t':=s.toks) (fun b u q=>Heap.get?_push_of_some _ q) (Nat.le_of_eq (Heap.size_push _ _)) ?_
 have ne:s.heap.objs.size≠s.heap.objs.size+1:=Nat.ne_of_lt (Nat.lt_succ_self _)
 refine ⟨by rw [a0i ne,a0d],Nat.zero_le _,ne,e2,fun _=>none,(Heap.Ns1.of_empty e3).at fun o q=>Heap.get?_push_of_some _ q,fun _=>True.intro,fun y hy=>absurd rfl hy⟩
theorem b1j {prog:Program} {w:World} {env:Env} {e:Expr} {f:Str} {pos:Pos} {s:Shared} {Q:Value→Shared→Prop} (hb:attributeBase e f env (eval e env)=eval e env)
  (h:wpAny (model prog w) A (eval e env) (fun o s₁=>wpAny (model prog w) A (getAttr o f true) Q E s₁) E s):wpAny (model prog w) A (eval (.Attribute e f pos) env) Q E s :=
 Attribute_any_ h (by rw [arm_eval_Attribute,hb])
end
def tFld (K:PySem.W.Frag) (ta:TE) (f:Str):TE:=fun σ H Q=>ta σ H fun x H1=>∃ a C dx fs v,x=.ref a∧H1 a=some (.ins C dx fs)∧Cls K C∧a1J K C f∧fs.lookup f=some v∧Q v H1
def tCon (K:PySem.W.Frag) (ta:TE) (f:Str):TE:=fun σ H Q=>ta σ H fun x H1=>∃ a C dx fs v u,x=.ref a∧H1 a=some (.ins C dx fs)∧Cls K C∧Con K C f v u∧fs.lookup f=none∧Q v H1
def sFld (K:PySem.W.Frag) (ta tv:TE) (f:Str):TS:=fun D σ H=>tv σ H fun y H1=>ta σ H1 fun x H2=>∃ a C dx fs,x=.ref a∧H2 a=some (.ins C dx fs)∧Cls K C∧a1J K C f∧fs.length < 1000 ∧
 D.nx σ (upd H2 a (.ins C dx (a3C f y fs)))
def InOp (X:Cx) (op:Operator) (rd:V→V→Hp→VK→Prop):Prop :=
 ∀ (pins:List (Addr × Obj)) (s:Shared) (σ:St) (H:Hp) (x y:V) (u v:Value) (Q:VK),Inv X pins σ H s→a1a x u→a1a y v→rd x y H Q→wpAny (model X.prog X.w) X.A (inplaceOp op u v) (EP X pins σ Q) X.xe s
def sFldAug (K:PySem.W.Frag) (ta tv:TE) (rd:V→V→Hp→VK→Prop) (f:Str):TS:=fun D σ H=>ta σ H fun x H1=>∃ a C dx fs v,x=.ref a∧H1 a=some (.ins C dx fs)∧Cls K C∧a1J K C f∧fs.lookup f=some v ∧
 tv σ H1 fun y H2=>rd v y H2 fun z H3=>∃ dx' fs',H3 a=some (.ins C dx' fs')∧fs'.length < 1000∧D.nx σ (upd H3 a (.ins C dx' (a3C f z fs')))
section
variable {X:Cx} {o e value:Expr} {f:Str} {pos pos' tpos:Pos} {ta tv:TE}
theorem a1l (he:PE X e ta) (hb:attributeBase e f X.env (eval e X.env)=eval e X.env):PE X (.Attribute e f pos) (tFld X.K ta f):=by
 intro pins s σ H Q I h
 refine b1j hb (thn (he pins s σ H _ I h) fun u s1 ⟨x,H1,I1,rx,a,C,dx,fs,v,ex,ea,c,n,l,q⟩=>?_)
 subst ex
 obtain rfl:u=Value.ref a:=rx
 exact a6q I1 ea c n l fun u' s2 I2 ru=>⟨v,H1,I2,ru,q⟩
theorem a4J (ha:PE X o ta) (hv:PE X value tv) (hs:swapsWith value (some (.Attribute o f pos')) pos.line X.env=pure false):PS X (.Assign [.Attribute o f pos'] value pos) (sFld X.K ta tv f):=by
 intro pins s σ H D I h
 refine plainObj_wpAny_Assign_Attribute (thn (hv pins s σ H _ I h) fun u s1 ⟨y,H1,I1,ry,q⟩=>thn (ha pins s1 σ H1 _ I1 q) fun ov s2 ⟨x,H2,I2,rx,a,C,dx,fs,ex,ea,c,n,l,q2⟩=>?_) hs
 subst ex
 obtain rfl:ov=Value.ref a:=rx
 exact a6r I2 ea c n l ry fun s3 I3=>⟨σ,_,I3,q2⟩
end
section
variable {X:Cx} {pins:List (Addr × Obj)} {σ:St} {H:Hp} {s:Shared} {A:Around} {E:Value→Shared→Prop} {Q:Value→Shared→Prop} {c:Value} {b:Bool}
inductive a7j (K:PySem.W.Frag) (H:Hp):V→Value→Prop where
 | non:a7j K H .non (.type "NoneType")
 | bl (x:Bool):a7j K H (.bl x) (.type "bool")
 | int (i:Int):a7j K H (.int i) (.type "int")
 | str (x:Str):a7j K H (.str x) (.type "str")
 | flt (x:UInt64):a7j K H (.flt x) (.type "float")
 | lst {a:Addr} {xs:List V} (e:H a=some (.lst xs)):a7j K H (.ref a) (.type "list")
 | frz {a:Addr} {o:Obj} {xs:List V} (e:H a=some (.frz o (.lst xs))):a7j K H (.ref a) (.type "list")
 | tup {a:Addr} {xs:List V} (e:H a=some (.tup xs)):a7j K H (.ref a) (.type "tuple")
 | dK {a:Addr} {kvs:List (Key × V)} (e:H a=some (.dK kvs)):a7j K H (.ref a) (.type "dict")
 | dT {a:Addr} {kvs:List (List Key × V)} (e:H a=some (.dT kvs)):a7j K H (.ref a) (.type "dict")
 | ins {a C dx:Addr} {fs:List (Str × V)} (e:H a=some (.ins C dx fs)) (cl:Cls K C) (ha:PySem.W.findIn K (.ref C) "__class__"=some (some (.builtin "object.__class__")))
   (hn:PySem.W.specialIn K (.builtin "object.__class__") "__get__"=some (some (.builtin "getset_descriptor.__get__"))) (htk:PySem.W.takesIn K (.builtin "object.__class__")=some true)
   (hm:PySem.W.mroIn K C (.type "object")=some true):a7j K H (.ref a) (.ref C)
end
structure a2a (k:Nat) (A:Around):Prop where
 hd:A.handled=none
 dp:A.depth+3 * k+5 < recursionLimit
 un:A.units+16 * k+200 < cLine
theorem a2a.mono {j k:Nat} {A:Around} (r:a2a k A) (h:j≤k):a2a j A:=⟨r.hd,by have:=r.dp;omega,by have:=r.un;omega⟩
theorem a2a.deeper {k:Nat} {A:Around} (r:a2a (k+1) A) (env:Env):a2a k (A.deeper env) :=
 ⟨r.hd,by have:=r.dp;show A.depth+1+3 * k+5 < _;omega,by have:=r.un;show A.units+3+16 * k+200 < _;omega⟩
theorem a6s {A:Around} {C:Addr} {us:List Value} {kw:List (Str × Value)}:(A.under (.builtin "type.__call__" ⟨.ref C :: us,kw⟩)).depth=A.depth+1:=by
 first | rfl | simp [Around.under,Code.weight,Code.isCreation,Code.isGuard,Code.isCaller,Code.frames,Code.isFrame,guardIds]
theorem a6t {A:Around} {C:Addr} {us:List Value} {kw:List (Str × Value)}:(A.under (.builtin "type.__call__" ⟨.ref C :: us,kw⟩)).units=A.units+1:=by
 first | rfl | simp [Around.under,Code.cUnits,Code.frames,Code.isFrame]
theorem a2a.make {k:Nat} {A:Around} (r:a2a (k+1) A) (C:Addr) (us:List Value) (kw:List (Str × Value)):a2a k (A.under (.builtin "type.__call__" ⟨.ref C :: us,kw⟩)) :=
 ⟨r.hd,by have:=r.dp;rw [a6s];omega,by have:=r.un;rw [a6t];omega⟩
theorem a2a.depth {k:Nat} {A:Around} (r:a2a k A):A.depth < recursionLimit:=by have:=r.dp;omega
theorem a2a.units {k:Nat} {A:Around} (r:a2a k A):A.units+64 < cLine:=by have:=r.un;omega
def tNil:TA:=fun _ H Q=>Q [] H
def a9i (ta:TE) (tr:TA):TA:=fun σ H Q=>ta σ H fun x H1=>tr σ H1 fun xs H2=>Q (x :: xs) H2
section
variable {X:Cx} {e:Expr} {es:List Expr} {te:TE} {t:TA} {pos:Pos}
theorem a0c:PA X [] tNil:=fun _ _ _ _ H Q I h=>Calls.spliced_nil ⟨[],H,I,.nil,h⟩
theorem a0a (ha:PE X e te) (hr:PA X es t) (hs:starEach (e :: es) X.env=(false,eval e X.env) :: starEach es X.env:=by rfl):PA X (e :: es) (a9i te t):=by
 intro pos pins s σ H Q I h
 rw [hs]
 show wpAny _ _ (spliced ((false,eval e X.env) :: backTo pos (starEach es X.env))) _ _ s
 refine Calls.spliced_cons (thn (ha pins s σ H _ I h) fun u s1 ⟨x,H1,I1,r1,q1⟩=>?_)
 exact thn (hr pos pins s1 σ H1 _ I1 q1) fun us s2 ⟨xs,H2,I2,r2,q2⟩=>⟨x :: xs,H2,I2,.cons r1 r2,q2⟩
def tTup (t:TA):TE:=fun σ H Q=>t σ H fun xs H1=>xs.length≤sizeLine∧∀ p,H1 p=none→Q (.ref p) (upd H1 p (.tup xs))
def tLst (t:TA):TE:=fun σ H Q=>t σ H fun xs H1=>xs.length≤sizeLine∧∀ p,H1 p=none→Q (.ref p) (upd H1 p (.lst xs))
theorem a1K {x1} (h:PA X es t):PE X (.Tuple es x1 pos) (tTup t):=by
 intro pins s σ H Q I hq
 refine wpAny_Tuple_spliced (thn (h pos pins s σ H _ I hq) fun us s1 ⟨xs,H1,I1,r,z,q⟩=>⟨by rw [←r.length];exact z,?_⟩)
 have hf:H1 s1.heap.objs.size=none:=I1.hok.fresh (Nat.le_refl _)
 refine ⟨.ref s1.heap.objs.size,upd H1 s1.heap.objs.size (.tup xs),I1.laid (t':=s1.toks) (fun b u e=>Heap.get?_push_of_some _ e) (Nat.le_refl _) ?_,rfl,q _ hf⟩
 exact ⟨z,us,r,⟨_,Heap.get?_push_size _ rfl,_,rfl⟩⟩
theorem a1q (h:PA X es t):PE X (.List es pos) (tLst t):=by
 intro pins s σ H Q I hq
 refine wpAny_List_spliced (thn (h pos pins s σ H _ I hq) fun us s1 ⟨xs,H1,I1,r,z,q⟩=>⟨by rw [←r.length];exact z,?_⟩)
 have hf:H1 s1.heap.objs.size=none:=I1.hok.fresh (Nat.le_refl _)
 refine ⟨.ref s1.heap.objs.size,upd H1 s1.heap.objs.size (.lst xs),I1.laid (t':=s1.toks) (fun b u e=>Heap.get?_push_of_some _ e) (Nat.le_refl _) ?_,rfl,q _ hf⟩
 exact ⟨z,us,0,r,Heap.get?_push_size _ rfl⟩
end
abbrev Sp:=List V→Hp→VK→XK→Prop
abbrev CXT:=List Env→Hp→Shared→XK→Value→Shared→Prop
structure a8U (P:Program) (w:World) (K:PySem.W.Frag) (mg:Str→Option Value) (base:Heap) (A:Around) (outer:List Env) (s:Shared) (H:Hp):Prop where
 frames:A.frames=some outer
 mod:Mod K mg base
 bs:∀ b o,base.get? b=some o→s.heap.get? b=some o∧H b=none
 bsz:base.objs.size≤s.heap.objs.size
 funs:s.heap.FunFrames base outer
 frf:∀ b∈frs outer,H b=none
 hok:HOk P w H s.heap
 bare:AllBare s.gens
def CE (outer:List Env) (P:Program) (w:World) (H:Hp) (s:Shared) (Q:VK) (u:Value) (s':Shared):Prop :=
 ∃ v H',s'.os=s.os∧AllBare s'.gens∧Un (frs outer) [] H H' s.heap s'.heap∧HOk P w H' s'.heap∧a1a v u∧Q v H'
def CR (CX:CXT) (outer:List Env) (P:Program) (w:World) (H:Hp) (s:Shared) (Q:VK) (E:XK) (r:Result) (s':Shared):Prop :=
 match r with
 | .ok (.ret u)=>CE outer P w H s Q u s'
 | .ok _=>False
 | .error e=>CX outer H s E e s'
structure a0W (P:Program) (w:World) (K:PySem.W.Frag) (mg:Str→Option Value) (base:Heap) (CX:CXT) (k:Nat) (f:Addr) (fd:FuncData) (ps:List Str) (sp:Sp):Prop where
 len:∀ vs H Q E,sp vs H Q E→vs.length=ps.length
 run:∀ (A:Around) (outer:List Env) (s:Shared) (H:Hp) (args:Args) (us:List Value) (vs:List V) (Q:VK) (E:XK),a2a k A→a8U P w K mg base A outer s H→BindsTo s fd args (ps.zip us)→a0O vs us→sp vs H Q E →
  codeAny (model P w) A (.call (.ref f) args) (CR CX outer P w H s Q E) s
theorem a0W.mono {P:Program} {w:World} {K:PySem.W.Frag} {mg:Str→Option Value} {base:Heap} {CX:CXT} {j k:Nat} {f:Addr} {fd:FuncData} {ps:List Str} {sp:Sp} (F:a0W P w K mg base CX j f fd ps sp) (h:j≤k) :
  a0W P w K mg base CX k f fd ps sp:=⟨F.len,fun A outer s H args us vs Q E hr=>F.run A outer s H args us vs Q E (hr.mono h)⟩
theorem a8U.make {P:Program} {w:World} {K:PySem.W.Frag} {mg:Str→Option Value} {base:Heap} {A:Around} {outer:List Env} {s:Shared} {H:Hp} (e:a8U P w K mg base A outer s H) (C:Addr) (us:List Value) (kw:List (Str × Value)) :
  a8U P w K mg base (A.under (.builtin "type.__call__" ⟨.ref C :: us,kw⟩)) outer s H:=⟨by first | exact e.frames | (simpa [Around.under,Code.envs,Code.isFrame,pushEnvs] using e.frames),e.mod,e.bs,e.bsz,e.funs,e.frf,e.hok,e.bare⟩
section
variable {X:Cx} {pins:List (Addr × Obj)} {σ:St} {H:Hp} {s s':Shared}
theorem Inv.env0 (I:Inv X pins σ H s):a8U X.prog X.w X.K X.mg X.base X.A X.stack s H :=
 ⟨I.ok.frames,I.ok.mod,I.bs,Nat.le_trans I.ok.bsz I.sz,I.stack,I.stkFree,I.hok,I.bare⟩
theorem Inv.after {Q:VK} {u:Value} (I:Inv X pins σ H s) (h:CE X.stack X.prog X.w H s Q u s'):EP X pins σ Q u s':=by
 obtain ⟨v,H',os,bare,un,hok,r,q⟩:=h
 obtain ⟨hh,g,d,t,os'⟩:=s'
 obtain rfl:os'=s.os:=os
 exact ⟨v,H',I.call (h':=hh) (g':=g) (d':=d) (t':=t) (ch:=[]) un hok bare (fun b z=>absurd z (by simp)),r,q⟩
end
def tCall (sp:Sp) (dvs:List V) (E:XK) (t:TA):TE:=fun σ H Q=>t σ H fun vs H1=>sp (vs++dvs) H1 Q E
def tMeth (C:Addr) (m:Str) (sp:Sp) (dvs:List V) (E:XK) (ta:TE) (t:TA):TE:=fun σ H Q=>ta σ H fun x H1=>∃ a dx fs,x=.ref a∧H1 a=some (.ins C dx fs)∧fs.lookup m=none ∧
 t σ H1 fun vs H2=>sp (x :: (vs++dvs)) H2 Q E
def tMake (C:Addr) (sp:Sp) (dvs:List V) (E:XK) (t:TA):TE:=fun σ H Q=>t σ H fun vs H1=>∀ x dx,H1 x=none→H1 dx=none→dx≠x →
 sp (.ref x :: (vs++dvs)) (upd (upd H1 dx (.own x)) x (.ins C dx [])) (fun v H2=>v=.non∧Q (.ref x) H2) E
def a1z (K:PySem.W.Frag) (fd:FuncData) (ps:List Str) (ds:List Value):Prop :=
 ∀ (s:Shared) (us:List Value),K.In s.heap→(us++ds).length=ps.length→BindsTo s fd ⟨us,[]⟩ (ps.zip (us++ds))
theorem a1z.all {K:PySem.W.Frag} {fd:FuncData} {ps:List Str} (h:∀ us:List Value,us.length=ps.length→bindArgs fd ⟨us,[]⟩=pure (ps.zip us)):a1z K fd ps []:=fun s us _ hl=>by
 rw [List.append_nil] at hl ⊢
 exact .of_eq (h us hl)
def a2b (CX:CXT) (X:Cx) (E:XK):Prop:=∀ (pins:List (Addr × Obj)) (σ:St) (H:Hp) (s:Shared) (e:Value) (s':Shared),Inv X pins σ H s→CX X.stack H s E e s'→X.xe e s'
section
variable {X:Cx} {CX:CXT} {k:Nat} {f C:Addr} {fd:FuncData} {ps:List Str} {sp:Sp} {dvs:List V} {ds:List Value} {E:XK} {x m:Str} {p pos apos:Pos} {e o:Expr} {es:List Expr} {ta:TE} {t:TA}
theorem a7k {pins:List (Addr × Obj)} {σ:St} {H:Hp} {s:Shared} {Q:VK} {us:List Value} {vs:List V} (F:a0W X.prog X.w X.K X.mg X.base CX k f fd ps sp) (hr:a2a k X.A) (hb:a1z X.K fd ps ds) (hd:a0O dvs ds) (hx:a2b CX X E)
  (I:Inv X pins σ H s) (r:a0O vs us) (h:sp (vs++dvs) H Q E):wpAny (model X.prog X.w) X.A (call (.ref f) us) (EP X pins σ Q) X.xe s:=by
 have r2:a0O (vs++dvs) (us++ds):=r.append hd
 have hl:(us++ds).length=ps.length:=by rw [←r2.length];exact F.len _ _ _ _ h
 refine wpAny_call (codeAny_mono (F.run X.A X.stack s H ⟨us,[]⟩ (us++ds) (vs++dvs) Q E hr I.env0 (hb s us I.kIn hl) r2 h) fun r s' hq=>?_)
 cases r with
 | error e=>exact hx pins σ H s e s' I hq
 | ok fl =>
  cases fl with
  | ret u=>exact I.after hq
  | next=>exact False.elim hq
  | brk=>exact False.elim hq
  | cont=>exact False.elim hq
theorem a0k (F:a0W X.prog X.w X.K X.mg X.base CX k f fd ps sp) (hr:a2a k X.A) (hg:Gl X x) (hm:X.mg x=some (.ref f)) (hk:PySem.W.keepIn X.K (.ref f)=true) (hb:a1z X.K fd ps ds) (hd:a0O dvs ds) (hx:a2b CX X E)
  (ha:PA X (e :: es) t) (hdb:(x == ("__debug__":Str))=false:=by decide) (he:starEach (e :: es) X.env=(false,eval e X.env) :: starEach es X.env:=by rfl) (hpl:(backTo pos (starEach es X.env)).any (·.1)=false:=by rfl) :
  PE X (.Call (.Name x p) (e :: es) [] pos) (tCall sp dvs E t):=by
 intro pins s σ H Q I h
 refine wpAny_Call_Name_kw (a3X I hg hm ?_ hdb)
 refine PySem.W.callWith_K (h₀:=X.base) I.ok.mod.kin hk (thn (ha pos pins s σ H _ I h) fun us s1 ⟨vs,H1,I1,r,q⟩=>⟨I1.kIn,?_⟩) he hpl
 exact a7k F hr hb hd hx I1 r q
theorem a1D {pl:Sem Bool} (he:PE X o ta) (c:Cls X.K C) (hm:Meth X.K C m f) (F:a0W X.prog X.w X.K X.mg X.base CX k f fd ps sp) (hr:a2a k X.A) (hb:a1z X.K fd ps ds) (hd:a0O dvs ds) (hx:a2b CX X E) (ha:PA X (e :: es) t)
  (hst:starEach (e :: es) X.env=(false,eval e X.env) :: starEach es X.env:=by rfl) (hpl:(backTo pos (starEach es X.env)).any (·.1)=false:=by rfl)
  (ht:eval (.Call (.Attribute o m apos) (e :: es) [] pos) X.env=(do
   let ov ←eval o X.env
   standAt apos.atName
   let (f,first) ←holding [ov] (getMethod ov m pl)
   callWith pos f first (backTo pos (starEach (e :: es) X.env)) (backToKw pos (keywordEach [] X.env))):=by rfl) :
  PE X (.Call (.Attribute o m apos) (e :: es) [] pos) (tMeth C m sp dvs E ta t):=by
 intro pins s σ H Q I h
 refine PySem.W.methodCall_KW (pl:=pl) (thn (he pins s σ H _ I h) fun u s1 ⟨x,H1,I1,rx,a,dx,fs,ex,ea,l,q⟩=>?_) ht
 subst ex
 obtain rfl:u=Value.ref a:=rx
 refine a3K I1 ea c hm l ?_
 refine PySem.W.callWith_K (first:=[.ref a]) (h₀:=X.base) I.ok.mod.kin hm.kp (thn (ha pos pins s1 σ H1 _ I1 q) fun us s2 ⟨vs,H2,I2,r,q2⟩=>⟨I2.kIn,?_⟩) hst hpl
 exact a7k (us:=.ref a :: us) (vs:=.ref a :: vs) F hr hb hd hx I2 (.cons rfl r) q2
theorem a4a {pl:Sem Bool} (he:PE X o ta) (c:Cls X.K C) (hm:Meth X.K C m f) (F:a0W X.prog X.w X.K X.mg X.base CX k f fd ps sp) (hr:a2a k X.A) (hb:a1z X.K fd ps ds) (hd:a0O dvs ds) (hx:a2b CX X E)
  (ht:eval (.Call (.Attribute o m apos) [] [] pos) X.env=(do
   let ov ←eval o X.env
   standAt apos.atName
   let (f,first) ←holding [ov] (getMethod ov m pl)
   callWith pos f first (backTo pos (starEach [] X.env)) (backToKw pos (keywordEach [] X.env))):=by rfl) :
  PE X (.Call (.Attribute o m apos) [] [] pos) (tMeth C m sp dvs E ta tNil):=by
 intro pins s σ H Q I h
 refine PySem.W.methodCall_KW (pl:=pl) (thn (he pins s σ H _ I h) fun u s1 ⟨x,H1,I1,rx,a,dx,fs,ex,ea,l,q⟩=>?_) ht
 subst ex
 obtain rfl:u=Value.ref a:=rx
 refine a3K I1 ea c hm l ?_
 exact PySem.W.callWith_K0 (first:=[.ref a]) I1.kIn hm.kp (a7k (us:=[.ref a]) (vs:=[.ref a]) F hr hb hd hx I1 (.cons rfl .nil) q)
structure Mk (K:PySem.W.Frag) (C f:Addr):Prop where
 makes:PySem.W.makesIn K C=true
 init:PySem.W.findIn K (.ref C) "__init__"=some (some (.ref f))
 fn:PySem.W.isFn K (.ref f)=true
 kp:PySem.W.keepIn K (.ref C)=true
theorem a9j {pins:List (Addr × Obj)} {σ:St} {H:Hp} {s:Shared} {Q:VK} {us:List Value} {vs:List V} (M:Mk X.K C f) (F:a0W X.prog X.w X.K X.mg X.base CX k f fd ps sp) (hr:a2a (k+1) X.A) (hb:a1z X.K fd ps ds) (hd:a0O dvs ds)
  (hx:a2b CX X E) (I:Inv X pins σ H s) (r:a0O vs us)
  (h:∀ x dx,H x=none→H dx=none→dx≠x→sp (.ref x :: (vs++dvs)) (upd (upd H dx (.own x)) x (.ins C dx [])) (fun v H2=>v=.non∧Q (.ref x) H2) E) :
  wpAny (model X.prog X.w) X.A (call (.ref C) us) (EP X pins σ Q) X.xe s:=by
 have hq:=h (s.heap.objs.size+1) s.heap.objs.size (I.hok.fresh (Nat.le_succ _)) (I.hok.fresh (Nat.le_refl _)) (Nat.ne_of_lt (Nat.lt_succ_self _))
 have I2:=Inv.made (C:=C) I
 have r2:a0O (V.ref (s.heap.objs.size+1) :: (vs++dvs)) (Value.ref (s.heap.objs.size+1) :: (us++ds)):=.cons rfl (r.append hd)
 have hl:(Value.ref (s.heap.objs.size+1) :: us++ds).length=ps.length:=by
  have e:=r2.length
  rw [F.len _ _ _ _ hq] at e
  exact e.symm
 refine wpAny_call (a9h (f:=f) I.kIn M.makes M.init (beq_iff_eq.mp M.fn) (codeAny_mono (F.run _ X.stack _ _ ⟨Value.ref (s.heap.objs.size+1) :: us,[]⟩ (Value.ref (s.heap.objs.size+1) :: (us++ds)) _ _ E (hr.make C us [])
  (I2.env0.make C us []) (hb _ (Value.ref (s.heap.objs.size+1) :: us) I2.kIn hl) r2 hq) fun r s' hq'=>?_))
 cases r with
 | error e=>exact hx pins σ _ _ e s' I2 hq'
 | ok fl =>
  cases fl with
  | ret u =>
   obtain ⟨v,H',I3,rv,ev,q3⟩:=I2.after hq'
   subst ev
   exact ⟨rv,⟨V.ref (s.heap.objs.size+1),H',I3,rfl,q3⟩⟩
  | next=>exact False.elim hq'
  | brk=>exact False.elim hq'
  | cont=>exact False.elim hq'
theorem a7l (M:Mk X.K C f) (F:a0W X.prog X.w X.K X.mg X.base CX k f fd ps sp) (hr:a2a (k+1) X.A) (hg:Gl X x) (hm:X.mg x=some (.ref C)) (hb:a1z X.K fd ps ds) (hd:a0O dvs ds) (hx:a2b CX X E)
  (ha:PA X (e :: es) t) (hdb:(x == ("__debug__":Str))=false:=by decide) (he:starEach (e :: es) X.env=(false,eval e X.env) :: starEach es X.env:=by rfl) (hpl:(backTo pos (starEach es X.env)).any (·.1)=false:=by rfl) :
  PE X (.Call (.Name x p) (e :: es) [] pos) (tMake C sp dvs E t):=by
 intro pins s σ H Q I h
 refine wpAny_Call_Name_kw (a3X I hg hm ?_ hdb)
 refine PySem.W.callWith_K (h₀:=X.base) I.ok.mod.kin M.kp (thn (ha pos pins s σ H _ I h) fun us s1 ⟨vs,H1,I1,r,q⟩=>⟨I1.kIn,?_⟩) he hpl
 exact a9j M F hr hb hd hx I1 r q
end
def PK (X:Cx) (kws:List Keyword) (t:TA):Prop :=
 ∀ (pos:Pos) (pins:List (Addr × Obj)) (s:Shared) (σ:St) (H:Hp) (Q:List V→Hp→Prop),Inv X pins σ H s→t σ H Q→wpAny (model X.prog X.w) X.A (evalAll ((backToKw pos (keywordEach kws X.env)).map (·.2))) (AP X pins σ Q) X.xe s
section
variable {X:Cx} {CX:CXT} {k:Nat} {f C:Addr} {fd:FuncData} {ps ks:List Str} {sp:Sp} {E:XK} {x m:Str} {p pos apos kpos:Pos} {e o:Expr} {es:List Expr} {kws:List Keyword} {te ta:TE} {t tk:TA} {nm:Option Str}
theorem pk_nil:PK X [] tNil:=fun _ _ _ _ H Q I h=>wpAny_evalAll_nil ⟨[],H,I,.nil,h⟩
theorem b1k (ha:PE X e te) (hr:PK X kws t):PK X (⟨nm,e,kpos⟩ :: kws) (a9i te t):=by
 intro pos pins s σ H Q I h
 show wpAny _ _ (evalAll ((do let v ←eval e X.env;standAt pos;pure v) :: (backToKw pos (keywordEach kws X.env)).map (·.2))) _ _ s
 refine wpAny_evalAll_cons (wpAny_bind (thn (ha pins s σ H _ I h) fun u s1 ⟨x,H1,I1,r1,q1⟩=>wpAny_bind (wpAny_standAt (wpAny_pure ?_))))
 exact thn (hr pos pins s1 σ H1 _ I1 q1) fun us s2 ⟨xs,H2,I2,r2,q2⟩=>⟨x :: xs,H2,I2,.cons r1 r2,q2⟩
structure KBinds (K:PySem.W.Frag) (fd:FuncData) (ps ks:List Str) (g:List Value→List Value→List Value) (gV:List V→List V→List V):Prop where
 to:∀ (s:Shared) (us ws:List Value),K.In s.heap→(g us ws).length=ps.length→BindsTo s fd ⟨us,ks.zip ws⟩ (ps.zip (g us ws))
 rel:∀ {vs:List V} {us:List Value} {zs:List V} {ws:List Value},a0O vs us→a0O zs ws→a0O (gV vs zs) (g us ws)
variable {g:List Value→List Value→List Value} {gV:List V→List V→List V}
end
structure a0r (N P:List Str) (sc:Scope):Prop where
 kind:sc.kind=.function
 co:sc.isCoroutine=false
 gen:sc.isGenerator=false
 nd:N.Nodup
 pre:N.take P.length=P
 par:∀ x∈P,sc.names.lookup x=some .local∨sc.names.lookup x=some .cell
 nofree:∀ y∈sc.names,y.2≠.free
theorem a4K {kindOf:Str→Option NameKind} {x:Str}:∀ {binds:List (Str × Value)} {m:Str→Option Value},(∀ v,(x,v)∉binds)→bindL kindOf binds m x=m x
 | [],_,_=>rfl
 | (n,v) :: r,m,h=>by
  unfold bindL
  rw [a4K fun w hw=>h w (List.mem_cons_of_mem _ hw)]
  split
  ·have:x≠n:=by rintro rfl;exact h v List.mem_cons_self
   simp [this]
  ·rfl
theorem a4L {kindOf:Str→Option NameKind} {x:Str}:∀ {binds:List (Str × Value)} {m:Str→Option Value},(∀ v,(x,v)∉binds)→bindC kindOf binds m x=m x
 | [],_,_=>rfl
 | (n,v) :: r,m,h=>by
  unfold bindC
  rw [a4L fun w hw=>h w (List.mem_cons_of_mem _ hw)]
  split
  ·rfl
  ·have:x≠n:=by rintro rfl;exact h v List.mem_cons_self
   simp [this]
theorem a4M {kindOf:Str→Option NameKind} {x:Str} {v:Value}:∀ {P:List Str} {vs:List Value} {i:Nat} {m:Str→Option Value},P.Nodup→P[i]?=some x→vs[i]?=some v→kindOf x=some .local →
  bindL kindOf (P.zip vs) m x=some v
 | [],_,_,_,_,h,_,_=>by simp at h
 | _ :: _,[],_,_,_,_,h,_=>by simp at h
 | p :: P,w :: vs,0,m,nd,h1,h2,hk=>by
  simp at h1 h2;subst h1;subst h2
  show bindL kindOf ((p,w) :: P.zip vs) m p=_
  unfold bindL
  rw [a4K fun v hv=>(List.nodup_cons.mp nd).1 (List.of_mem_zip hv).1,if_pos hk]
  simp
 | p :: P,w :: vs,i+1,m,nd,h1,h2,hk=>by
  show bindL kindOf ((p,w) :: P.zip vs) m x=_
  unfold bindL
  exact a4M (i:=i) (List.nodup_cons.mp nd).2 (by simpa using h1) (by simpa using h2) hk
theorem a4N {kindOf:Str→Option NameKind} {x:Str} {v:Value}:∀ {P:List Str} {vs:List Value} {i:Nat} {m:Str→Option Value},P.Nodup→P[i]?=some x→vs[i]?=some v→kindOf x≠some .local →
  bindC kindOf (P.zip vs) m x=some v
 | [],_,_,_,_,h,_,_=>by simp at h
 | _ :: _,[],_,_,_,_,h,_=>by simp at h
 | p :: P,w :: vs,0,m,nd,h1,h2,hk=>by
  simp at h1 h2;subst h1;subst h2
  show bindC kindOf ((p,w) :: P.zip vs) m p=_
  unfold bindC
  rw [a4L fun v hv=>(List.nodup_cons.mp nd).1 (List.of_mem_zip hv).1,if_neg hk]
  simp
 | p :: P,w :: vs,i+1,m,nd,h1,h2,hk=>by
  show bindC kindOf ((p,w) :: P.zip vs) m x=_
  unfold bindC
  exact a4N (i:=i) (List.nodup_cons.mp nd).2 (by simpa using h1) (by simpa using h2) hk
def start (N:List Str) (vs:List V):St:=vs.map some++List.replicate (N.length - vs.length) none
def a5M (CX:CXT) (P:Program) (w:World) (K:PySem.W.Frag) (mg:Str→Option Value) (base:Heap) (N:List Str) (qual:Str) (scope:Scope) (f:Addr) (cd:Value) (A:Around) (outer:List Env) (s:Shared) (H:Hp) (E:XK):Cx where
 prog:=P
 w:=w
 K:=K
 mg:=mg
 base:=base
 A:=A.deeper (envOfC qual scope s.heap.objs.size f cd)
 N:=N
 s₀:=s
 H₀:=H
 env:=envOfC qual scope s.heap.objs.size f cd
 outer:=outer
 stack:=envOfC qual scope s.heap.objs.size f cd :: outer
 ex:=[]
 calm:=true
 fn:=fun _=>true
 pn:=[]
 xe:=fun e s'=>wpAny (model P w) (A.deeper (envOfC qual scope s.heap.objs.size f cd)) (leaving (envOfC qual scope s.heap.objs.size f cd) e) (fun _ s''=>CX outer H s E e s'') (fun e' s''=>CX outer H s E e' s'') s'
theorem a5N {sc:Scope} {n:Nat} {x:Str} (h:sc.names.lookup x=some .cell):∃ c,(cellsFrom n sc.names []).lookup x=some c:=by
 have q:=PySem.W.cellsFrom_some sc.names n [] (.inl h)
 exact Option.isSome_iff_exists.mp q
theorem a7m {CX:CXT} {P:Program} {w:World} {K:PySem.W.Frag} {mg:Str→Option Value} {base:Heap} {N ps:List Str} {qual:Str} {scope:Scope} {f:Addr} {cd:Value} {A:Around} {outer:List Env} {s s1:Shared} {H:Hp} {E:XK} {us:List Value} {vs:List V}
  (S:a0r N ps scope) (hd:A.handled=none) (e0:a8U P w K mg base A outer s H) (hl:vs.length=ps.length) (r:a0O vs us)
  (x:InCallC s s.heap.objs.size (bindL (envOfC qual scope s.heap.objs.size f cd).kindOf (ps.zip us) fun _=>none) (cellsFrom (s.heap.objs.size+1) scope.names []) (bindC (envOfC qual scope s.heap.objs.size f cd).kindOf (ps.zip us) fun _=>none) s1) :
  Inv (a5M CX P w K mg base N qual scope f cd A outer s H E) [] (start N vs) H s1:=by
 have hpl:ps.length≤N.length:=by have:=congrArg List.length S.pre;rw [List.length_take] at this;omega
 obtain ⟨h1,tk,rfl,hk⟩:=x.done
 have noA:∀ b:Addr,b∉(a5M CX P w K mg base N qual scope f cd A outer s H E).ex:=fun b z=>absurd (show b∈([]:List Addr) from z) (by simp)
 refine ⟨⟨e0.mod,S.kind,rfl,rfl,Nat.le_refl _,fun y z c h1 h2=>?_,fun y hy=>?_,fun y c _ h=>?_,fun _=>hd,Around.frames_deeper e0.frames,.inr ⟨rfl,rfl⟩,fun b z=>absurd z (noA b),e0.bs,e0.bsz,fun b _ _=>noA b,fun b z=>absurd z (noA b),e0.funs,e0.frf⟩,
  rfl,e0.bare,Un.kept hk,⟨_,x.toInCall.ns,fun i y v h1 h2 h3=>?_⟩,fun y c h=>⟨_,x.cell y c h⟩,e0.hok.fresh (Nat.le_refl _),fun y c h=>?_,fun p hp=>absurd (show p∈([]:List (Addr × Obj)) from hp) (by simp),e0.hok.kept hk,?_⟩
 ·exact name_of_addr x.apart (PySem.mem_of_lookup h1) (PySem.mem_of_lookup h2)
 ·have hy:scope.names.lookup y=some .cell∨scope.names.lookup y=some .free:=hy
  rcases hy with hy | hy
  ·exact a5N hy
  ·exact absurd rfl (S.nofree _ (PySem.mem_of_lookup hy))
 ·exact Nat.le_of_lt (x.above y c (PySem.mem_of_lookup h))
 ·have hi:i < vs.length:=by
   unfold start at h2
   by_cases hi:i < vs.length
   ·exact hi
   ·rw [List.getElem?_append_right (by simpa using hi)] at h2
    rw [List.getElem?_replicate] at h2
    split at h2 <;> cases h2
  have ha:vs[i]?=some v:=by
   unfold start at h2
   rw [List.getElem?_append_left (by simpa using hi),List.getElem?_map] at h2
   cases e:vs[i]? with
   | none=>rw [e] at h2;cases h2
   | some a=>rw [e] at h2;cases h2;rfl
  obtain ⟨u,hu,rv⟩:=r.get ha
  have hp:ps[i]?=some y:=by
   rw [←S.pre,List.getElem?_take_of_lt (by omega)];exact h1
  have ndP:ps.Nodup:=by rw [←S.pre];exact S.nd.sublist (List.take_sublist _ _)
  refine ⟨u,rv,?_⟩
  rcases S.par y (List.mem_of_getElem? hp) with k | k
  ·exact .inl ⟨k,a4M ndP hp hu k⟩
  ·obtain ⟨c,e⟩:=a5N (n:=s.heap.objs.size+1) k
   refine .inr ⟨.inl k,c,e,?_⟩
   have q:=x.cell y c e
   rw [a4N ndP hp hu (by show scope.names.lookup y≠_;rw [k];decide)] at q
   exact q
 ·exact e0.hok.fresh (Nat.le_of_lt (x.above y c (PySem.mem_of_lookup h)))
 ·unfold start
  show _=N.length
  rw [List.length_append,List.length_map,List.length_replicate]
  omega
theorem b1l {CX:CXT} {P:Program} {w:World} {K:PySem.W.Frag} {mg:Str→Option Value} {base:Heap} {k:Nat} {f:Addr} {name qual:Str} {params:Arguments} {body:List Stmt} {scope:Scope} {dV kV doc pm cdv ct oc:Value} {an od:Option Addr}
  {osl:Array (Option Value)} {N ps:List Str} {sp:Sp} (lk:K.lookup f=some ⟨oc,od,.func (PySem.W.fnOf name qual params body scope dV kV doc pm an cdv ct),osl⟩) (hcd:PySem.W.codeIn K cdv qual=true) (S:a0r N ps scope)
  (len:∀ vs H Q E,sp vs H Q E→vs.length=ps.length)
  (hbody:∀ (A:Around) (outer:List Env) (s:Shared) (H:Hp) (vs:List V) (Q:VK) (E:XK),a2a k (A.deeper (envOfC qual scope s.heap.objs.size f cdv))→sp vs H Q E →
   ∃ t,PSs (a5M CX P w K mg base N qual scope f cdv A outer s H E) body t∧t { nx:=fun _ H'=>Q .non H',rt:=Q } (start N vs) H) :
  a0W P w K mg base CX (k+1) f (PySem.W.fnOf name qual params body scope dV kV doc pm an cdv ct) ps sp:=by
 refine ⟨len,fun A outer s H args us vs Q E hr e0 hb r hsp=>?_⟩
 have hl:=len _ _ _ _ hsp
 have KX:K.In s.heap:=e0.mod.kin.keeps fun b o e=>(e0.bs b o e).1
 have lim:s.heap.NoLimit:=e0.mod.nolimit.keeps fun b o e=>(e0.bs b o e).1
 have hkind:∀ y∈ps.zip us,scope.names.lookup y.1=some .local∨(scope.names.lookup y.1=some .cell∧((cellsFrom (s.heap.objs.size+1) scope.names []).lookup y.1).isSome=true):=fun ⟨n,v⟩ hy=>by
  rcases S.par n (List.of_mem_zip hy).1 with q | q
  ·exact .inl q
  ·exact .inr ⟨q,PySem.W.cellsFrom_some _ _ _ (.inl q)⟩
 refine codeAny_call_function hr.depth (KX _ _ lk) rfl S.co S.gen rfl (PySem.W.codeRec_of KX hcd) (hb _ _ _ _ ?_)
 refine wpAny_newFunctionEnv_cells S.kind hkind fun env he s1 x=>?_
 subst he
 refine ⟨lim.keeps x.toInCall.keep,codeAny_func ?_⟩
 obtain ⟨t,ht,hq⟩:=hbody A outer s H vs Q E (hr.deeper _) hsp
 have I:Inv (a5M CX P w K mg base N qual scope f cdv A outer s H E) [] (start N vs) H s1:=a7m S hr.hd e0 hl r x
 refine wpAny_mono (ht [] s1 (start N vs) H _ I hq) (fun fl s' hs=>?_) fun e s' hs=>hs
 have fin:∀ {σ':St} {H':Hp} {v:V} {u:Value},Inv (a5M CX P w K mg base N qual scope f cdv A outer s H E) [] σ' H' s'→a1a v u→Q v H'→CE outer P w H s Q u s' :=
  fun {σ' H' v u} J rv q=>⟨v,H',J.os,J.bare,J.base,J.hok,rv,q⟩
 cases fl with
 | ret u =>
  obtain ⟨v,σ',H',J,rv,q⟩:=hs
  exact fin J rv q
 | next =>
  obtain ⟨σ',H',J,q⟩:=hs
  exact fin (v:=V.non) (u:=Value.none) J rfl q
 | brk =>
  obtain ⟨_,_,_,q⟩:=hs
  exact False.elim q
 | cont =>
  obtain ⟨_,_,_,q⟩:=hs
  exact False.elim q
section
variable {X:Cx} {x:Str} {p pos:Pos} {e:Expr} {es:List Expr} {t:TA} {id T:String} {r:List V→Hp→VK→Prop}
def tCB (r:List V→Hp→VK→Prop) (t:TA):TE:=fun σ H Q=>t σ H fun vs H1=>r vs H1 Q
theorem a0s (hc:a3D X (.builtin id) r) (hg:Gl X x) (hm:X.mg x=none) (hv:bootBuiltins x=some (.builtin id)) (ha:PA X (e :: es) t) (hn:x≠"__name__":=by decide) (hdb:(x == ("__debug__":Str))=false:=by decide)
  (he:starEach (e :: es) X.env=(false,eval e X.env) :: starEach es X.env:=by rfl) (hpl:(backTo pos (starEach es X.env)).any (·.1)=false:=by rfl):PE X (.Call (.Name x p) (e :: es) [] pos) (tCB r t):=by
 intro pins s σ H Q I h
 refine wpAny_Call_Name_kw (a2k I hg hm hv ?_ hn hdb)
 exact PyProof.Rows.callWith_builtin1 (thn (ha pos pins s σ H _ I h) fun us s1 ⟨vs,H1,I1,r1,q1⟩=>hc pins s1 σ H1 vs us Q I1 r1 q1) he hpl
theorem a2n (hc:a3D X (.type T) r) (hg:Gl X x) (hm:X.mg x=none) (hv:bootBuiltins x=some (.type T)) (ha:PA X (e :: es) t) (hn:x≠"__name__":=by decide) (hdb:(x == ("__debug__":Str))=false:=by decide)
  (he:starEach (e :: es) X.env=(false,eval e X.env) :: starEach es X.env:=by rfl) (hpl:(backTo pos (starEach es X.env)).any (·.1)=false:=by rfl):PE X (.Call (.Name x p) (e :: es) [] pos) (tCB r t):=by
 intro pins s σ H Q I h
 refine wpAny_Call_Name_kw (a2k I hg hm hv ?_ hn hdb)
 exact PyProof.Rows.callWith_type1 (thn (ha pos pins s σ H _ I h) fun us s1 ⟨vs,H1,I1,r1,q1⟩=>hc pins s1 σ H1 vs us Q I1 r1 q1) he hpl
end
end L2
namespace HT
open PySem PyProof.Rows
def a1f:List Int→List Int→Bool
 | [],[]=>false
 | [],_ :: _=>true
 | _ :: _,[]=>false
 | x :: xs,y :: ys=>if x=y then a1f xs ys else decide (x < y)
theorem a1o (x y:Int) (xs ys:List Int):a1f (x :: xs) (y :: ys)=if x=y then a1f xs ys else decide (x < y):=rfl
theorem a4b:a1f [] []=false:=rfl
theorem a3F (y:Int) (ys:List Int):a1f [] (y :: ys)=true:=rfl
theorem a3G (x:Int) (xs:List Int):a1f (x :: xs) []=false:=rfl
theorem a9k (A:Around) (s:Shared) (a:Int) (t:Tok) (c:Int) (u:Tok):∃ e,SeqAt.EqAt A s (.int a t) (.int c u) e∧(e=true↔a=c) :=
 ⟨(a == c),SeqAt.EqAt.int_int a t c u,by simp⟩
theorem a9l (A:Around) (s:Shared) (a:Int) (t:Tok) (c:Int) (u:Tok) (prog:Program) (w:World) (E:Value→Shared→Prop) (Q:Value→Shared→Prop) (h:Q (.bool (decide (a < c))) s) :
  wpAny (model prog w) A (richCompare .Lt (.int a t) (.int c u)) Q E s :=
 (PyProof.Rows.lt_int h:wpAny (model prog w) A (compareOp .Lt (.int a t) (.int c u)) Q E s)
section
open PySem.SeqAt
open PySem.AutoSeq1 (wpAny_loadPart')
open PySem.MeetsSeq PySem.MeetsSeq2 PySem.MeetsSeq3
theorem a4c (l b:Addr) (items items2:Array Value) (n n2:Nat) (dd dd2:Option Addr) (sl sl2:Array (Option Value)) (ns ms:List Int) (hi:IntsAre items.toList ns) (hj:IntsAre items2.toList ms) :
  Meets (Builtin.«tuple.__lt__» ⟨[.ref l,.ref b],[]⟩)
   (fun _ R s=>s.heap.get? l=some { cls:=.type "tuple",dict:=dd,data:=.seq items n,slots:=sl }∧s.heap.get? b=some { cls:=.type "tuple",dict:=dd2,data:=.seq items2 n2,slots:=sl2 } ∧
    R (.ok (.ret (.bool (a1f ns ms)))) s) :=
 .of_wp fun prog w A R s h=>by
  obtain ⟨hp,g,d,tk,os⟩:=s;obtain ⟨hl,hb,h⟩:=h
  have f2:=AutoSeq1.sub_tuple_tuple
  have z1:items.size=ns.length:=by rw [←hi.length];simp
  have z2:items2.size=ms.length:=by rw [←hj.length];simp
  wp_walk using wpAny_loadPart' hl,wpAny_loadPart' hb,wpAny_forIn_list _ (fun rest b s'=>b.1=none∧s'=⟨hp,g,d,tk,os⟩∧∃ (vs ws:List Value) (ns' ms':List Int),rest=vs.zip ws ∧
   IntsAre vs ns'∧IntsAre ws ms'∧ns'.length+items2.size=ms'.length+items.size∧R (.ok (.ret (.bool (a1f ns' ms')))) ⟨hp,g,d,tk,os⟩) _
  case turn =>
   rintro ⟨y,x⟩ rest b s' ⟨hb',rfl,vs,ws,ns',ms',hz,hvi,hwi,hlen,hR⟩
   cases hvi with
   | nil=>rw [List.zip_nil_left] at hz;cases hz
   | cons a t hvi' =>
    cases hwi with
    | nil=>rw [List.zip_nil_right] at hz;cases hz
    | cons c u hwi' =>
     rw [List.zip_cons_cons] at hz
     injection hz with hyx hrest
     injection hyx with hy hx
     subst hy hx
     rw [a1o] at hR
     simp only [List.length_cons] at hlen
     obtain ⟨e,he,hiff⟩:=a9k A.in1 ⟨hp,g,d,tk,os⟩ a t c u
     refine wpAny_bind (he prog w _ _ ?_)
     cases e with
     | true =>
      rw [if_pos (hiff.mp rfl)] at hR
      wp_walk
      exact ⟨rfl,rfl,_,_,_,_,hrest,hvi',hwi',by omega,hR⟩
     | false =>
      rw [if_neg (fun q=>absurd (hiff.mpr q) Bool.false_ne_true)] at hR
      have hri:=a9l A.in1 ⟨hp,g,d,tk,os⟩ a t c u prog w
      wp_walk using hri
      exact ⟨_,rfl,by simpa using hR⟩
  case fin =>
   rintro ⟨b1,b2⟩ s' ⟨hb',rfl,vs,ws,ns',ms',hz,hvi,hwi,hlen,hR⟩
   simp only at hb'
   subst hb'
   have hv:a1f ns' ms'=decide (items.size < items2.size):=by
    cases hvi with
    | nil =>
     cases hwi with
     | nil =>
      simp only [List.length_nil] at hlen
      rw [a4b]
      exact (decide_eq_false (by omega)).symm
     | cons c u hw =>
      simp only [List.length_nil,List.length_cons] at hlen
      rw [a3F]
      exact (decide_eq_true (by omega)).symm
    | cons a t hv =>
     cases hwi with
     | nil =>
      simp only [List.length_nil,List.length_cons] at hlen
      rw [a3G]
      exact (decide_eq_false (by omega)).symm
     | cons c u hw =>
      rw [List.zip_cons_cons] at hz
      cases hz
   rw [hv] at hR
   wp_walk
   exact ⟨_,rfl,by simpa [Builtin.Tuple.tupleCompareSizes] using hR⟩
  case h =>
   exact ⟨rfl,rfl,items.toList,items2.toList,ns,ms,rfl,hi,hj,by omega,h⟩
end
section
variable {prog:Program} {w:World} {A:Around} {E:Value→Shared→Prop} {s:Shared}
theorem a6u {l b:Addr} {items items2:Array Value} {ns ms:List Int} {Q:Value→Shared→Prop} (hl:IsTup s.heap l items) (hb:IsTup s.heap b items2) (hi:IntsAre items.toList ns) (hj:IntsAre items2.toList ms)
  (hu:A.units < cLine) (h:Q (.bool (a1f ns ms)) s):wpAny (model prog w) A (compareOp .Lt (.ref l) (.ref b)) Q E s:=by
 obtain ⟨⟨cls,dd,data,sl⟩,ho,hc,n,hd⟩:=id hl
 obtain ⟨⟨cls2,dd2,data2,sl2⟩,ho2,hc2,n2,hd2⟩:=id hb
 simp only at hc hd hc2 hd2
 subst hc hd hc2 hd2
 exact richCompare_meets_room (op:=.Lt) ⟨_,ho,rfl⟩ ⟨_,ho2,rfl⟩ PySem.F.slot_tuple_lt PySem.F.entry_tuple_lt (PySem.F.args_tuple_lt_2 _ _) (a4c l b items items2 n n2 dd dd2 sl sl2 ns ms hi hj)
  ⟨ho,ho2,show Value.bool (a1f ns ms)≠Value.notImplemented∧Q (.bool (a1f ns ms)) s from ⟨(fun x=>nomatch x),h⟩⟩ hu
theorem b1m {t b:Addr} {vs ws:List Value} {Q:Value→Shared→Prop} (ht:IsTup s.heap t vs.toArray) (hb:IsTup s.heap b ws.toArray) (hv:vs≠[])
  (h1:ws=[]→Q (.ref t) s) (h2:ws≠[]→Q (.ref s.heap.objs.size) { s with heap:=s.heap.push { cls:=.type "tuple",data:=.seq (vs++ws).toArray } })
  (hsz:vs.length+ws.length≤sizeLine):wpAny (model prog w) A (binaryOp .Add (.ref t) (.ref b)) Q E s:=by
 obtain ⟨⟨cls,dd,data,sl⟩,ho,hc,n,hd⟩:=id ht
 obtain ⟨⟨cls2,dd2,data2,sl2⟩,ho2,hc2,n2,hd2⟩:=id hb
 simp only at hc hd hc2 hd2
 subst hc hd hc2 hd2
 have e:vs.toArray++ws.toArray=(vs++ws).toArray:=by simp
 by_cases hw:ws=[]
 ·exact concat_meets ⟨_,ho,rfl⟩ ⟨_,ho2,rfl⟩ noFill_tuple_add seq_tuple_add PySem.F.slot_tuple_add PySem.F.entry_tuple_add (PySem.F.args_tuple_add_2 _ _)
   (tuple_addW1 t b vs.toArray ws.toArray n n2 dd dd2 sl sl2 (by simpa using hv) (by simp [hw])) ⟨ho,ho2,h1 hw⟩
 ·refine concat_meets ⟨_,ho,rfl⟩ ⟨_,ho2,rfl⟩ noFill_tuple_add seq_tuple_add PySem.F.slot_tuple_add PySem.F.entry_tuple_add (PySem.F.args_tuple_add_2 _ _)
   (tuple_addW2 t b vs.toArray ws.toArray n n2 dd dd2 sl sl2 (by simpa using hv) (by simpa using hw) (by rw [List.size_toArray,List.size_toArray];exact hsz)) ⟨ho,ho2,?_⟩
  rw [e]
  exact h2 hw
def sIx (n d:Nat):Option Int→Nat
 | none=>d
 | some v=>if v < 0 then (v+(n:Int)).toNat else min v.toNat n
theorem a9m (n d:Nat):sIx n d none=d:=rfl
theorem b1n (n d k:Nat):sIx n d (some (k:Int))=min k n:=by
 show (if (k:Int) < 0 then ((k:Int)+(n:Int)).toNat else min (k:Int).toNat n)=min k n
 rw [if_neg (by omega),Int.toNat_natCast]
theorem sIx_le (n d:Nat) (hd:d≤n) (o:Option Int):sIx n d o≤n:=by
 cases o with
 | none=>exact hd
 | some v =>
  show (if v < 0 then (v+(n:Int)).toNat else min v.toNat n)≤n
  by_cases hv:v < 0
  ·rw [if_pos hv];omega
  ·rw [if_neg hv];exact Nat.min_le_right _ _
theorem a7n (v:Int) (n d:Nat):(if v < 0 then max (v+(n:Int)) 0 else min v (n:Int))=((sIx n d (some v):Nat):Int):=by
 show (if v < 0 then max (v+(n:Int)) 0 else min v (n:Int))=(((if v < 0 then (v+(n:Int)).toNat else min v.toNat n):Nat):Int)
 by_cases hv:v < 0
 ·simp only [if_pos hv];omega
 ·simp only [if_neg hv];omega
theorem a6v (lo hi:Option Int) (n:Nat):Builtin.Slice.sliceAdjust lo hi 1 (n:Int)=(((sIx n 0 lo:Nat):Int),((sIx n n hi:Nat):Int)):=by
 have h1:¬ ((1:Int) < 0):=by omega
 unfold Builtin.Slice.sliceAdjust
 simp only [h1,if_false]
 refine Prod.ext ?_ ?_
 ·cases lo with
  | none=>rfl
  | some v=>exact a7n v n 0
 ·cases hi with
  | none=>rfl
  | some v=>exact a7n v n n
theorem a6w (i j:Nat):Builtin.Slice.slicePlaces (i:Int) (j:Int) 1=j - i:=by
 unfold Builtin.Slice.slicePlaces
 have h1:(1:Int) > 0:=by omega
 simp only [h1,if_true,Int.ediv_one]
 split <;> omega
theorem a1A {v:Value} {o:Option Int} {Q:Option Int→Shared→Prop} (p:IsPart v o) (h:Q o s):wpAny (model prog w) A (Builtin.Slice.slicePartIndex v) Q E s:=by
 cases p with
 | none=>exact slicePart_none h
 | int i t=>exact slicePart_int h
theorem a1L {sl:Addr} {vl vu:Value} {lo hi:Option Int} {n:Nat} {Q:Int × Int × Nat→Shared→Prop} (hs:s.heap.IsSliceOf sl vl vu .none) (pl:IsPart vl lo) (pu:IsPart vu hi)
  (h:Q (((sIx n 0 lo:Nat):Int),1,sIx n n hi - sIx n 0 lo) s):wpAny (model prog w) A (Builtin.Slice.sliceApplied (.ref sl) (pure (n:Int))) Q E s:=by
 obtain ⟨os,hos,hcs,hds⟩:=id hs
 unfold Builtin.Slice.sliceApplied Builtin.Slice.sliceFields
 refine wpAny_bind (wpAny_bind (wpAny_field hos hds (x:=vl) rfl (wpAny_bind (wpAny_field hos hds (x:=vu) rfl (wpAny_bind (wpAny_field hos hds (x:=.none) rfl (wpAny_pure ?_)))))))
 refine wpAny_bind (slicePart_none ?_)
 show wpAny _ _ (if ((1:Int) == 0)=true then _ else _) _ _ s
 rw [if_neg (by decide)]
 refine wpAny_bind (a1A pl (wpAny_bind (a1A pu (wpAny_bind (wpAny_pure ?_)))))
 show wpAny _ _ (match Builtin.Slice.sliceAdjust lo hi 1 (n:Int) with | (lo,hi)=>pure (lo,(1:Int),Builtin.Slice.slicePlaces lo hi 1)) _ _ s
 rw [a6v lo hi n]
 show wpAny _ _ (pure (((sIx n 0 lo:Nat):Int),(1:Int),Builtin.Slice.slicePlaces ((sIx n 0 lo:Nat):Int) ((sIx n n hi:Nat):Int) 1)) _ _ s
 rw [a6w]
 exact wpAny_pure h
theorem a9n (xs:Array Value) (i k:Nat):((List.range k).filterMap fun (m:Nat)=>xs[((i:Int)+(m:Int) * 1).toNat]?).toArray=((xs.toList.drop i).take k).toArray:=by
 have e:(fun (m:Nat)=>xs[((i:Int)+(m:Int) * 1).toNat]?)=fun m=>xs[i+m]?:=by
  funext m
  have:((i:Int)+(m:Int) * 1).toNat=i+m:=by omega
  rw [this]
 rw [e]
 have:=pick_run xs i k
 rw [List.filterMap_map] at this
 have e2:((fun x=>xs[x]?) ∘ fun x=>i+x)=fun m=>xs[i+m]?:=rfl
 rw [e2] at this
 rw [this]
theorem a2A {t sl:Addr} {items:Array Value} {vl vu:Value} {lo hi:Option Int} {Q:Value→Shared→Prop} (ht:IsTup s.heap t items) (hs:s.heap.IsSliceOf sl vl vu .none) (pl:IsPart vl lo) (pu:IsPart vu hi)
  (hw:¬ (sIx items.size 0 lo=0∧sIx items.size items.size hi=items.size))
  (h:Q (.ref s.heap.objs.size) { s with heap:=s.heap.push { cls:=.type "tuple",data:=.seq ((items.toList.drop (sIx items.size 0 lo)).take (sIx items.size items.size hi - sIx items.size 0 lo)).toArray } })
  (hsz:items.size≤sizeLine):wpAny (model prog w) A (getItem (.ref t) (.ref sl)) Q E s:=by
 have htake:sizeOk (.seq ((items.toList.drop (sIx items.size 0 lo)).take (sIx items.size items.size hi - sIx items.size 0 lo)).toArray):=by
  show ((items.toList.drop (sIx items.size 0 lo)).take (sIx items.size items.size hi - sIx items.size 0 lo)).toArray.size≤sizeLine
  rw [List.size_toArray,List.length_take,List.length_drop,Array.length_toList]
  omega
 have hj:sIx items.size items.size hi≤items.size:=sIx_le _ _ (Nat.le_refl _) hi
 obtain ⟨os,hos,hcs,hds⟩:=id hs
 have hTs:s.TypeIs (.ref sl) "slice":=⟨os,hos,hcs⟩
 unfold getItem
 try with_reducible refine wpAny_holding ?_
 first | refine wpAny_bind (wpAny_pure ?_) | skip
 refine wpAny_bind (wpAny_sequenceKey ht.typeIs (by decide) ?_)
 refine wpAny_bind (wpAny_callSpecial?_slot (name:=Str.ofString "__getitem__") ht.typeIs PyProof.Rows.slot_tuple_getitem
  (wpAny_call_entry PyProof.Rows.slot_tuple_getitem ht.typeIs entry_tuple_getitem ?_ (args_tuple_getitem _ _)))
 show wpAny _ _ (Builtin.Tuple.tupleItemsOf (.ref t) >>= _) _ _ s
 refine wpAny_bind (tupleItemsOf_ ht ?_)
 refine wpAny_bind (wpAny_typeOf hTs ?_)
 rw [if_pos (by decide)]
 refine wpAny_bind (a1L hs pl pu ?_)
 have hno:¬ ((((sIx items.size 0 lo:Nat):Int) == 0 && (1:Int) == 1 && (sIx items.size items.size hi - sIx items.size 0 lo) == items.size)=true):=by
  intro q
  rw [Bool.and_eq_true,Bool.and_eq_true] at q
  have q1:((sIx items.size 0 lo:Nat):Int)=0:=eq_of_beq q.1.1
  have q2:sIx items.size items.size hi - sIx items.size 0 lo=items.size:=eq_of_beq q.2
  exact hw ⟨by omega,by omega⟩
 show wpAny _ _ (if (((sIx items.size 0 lo:Nat):Int) == 0 && (1:Int) == 1 && (sIx items.size items.size hi - sIx items.size 0 lo) == items.size)=true then _ else _) _ _ s
 rw [if_neg hno,a9n]
 first
  | exact wpAny_bind (m:=Builtin.Tuple.tupleExact _) (wpAny_newObj_type (wpAny_pure ⟨_,rfl,wpAny_pure h⟩) htake)
  | exact wpAny_bind (m:=Builtin.Tuple.tupleExact _) (wpAny_newObj_type (wpAny_bind (wpAny_pure (wpAny_pure ⟨_,rfl,wpAny_pure h⟩))) htake)
  | exact wpAny_bind (wpAny_bind (m:=Builtin.Tuple.tupleExact _) (wpAny_newObj_type (wpAny_pure (wpAny_pure ⟨_,rfl,wpAny_pure h⟩)) htake))
  | exact wpAny_bind (wpAny_bind (m:=Builtin.Tuple.tupleExact _) (wpAny_newObj_type (wpAny_pure ⟨_,rfl,wpAny_pure h⟩) htake))
end
end HT
namespace L2
open PySem PySem.Spec PyProof.Rows
abbrev TO:=St→Hp→(Option Int→Hp→Prop)→Prop
def PO (X:Cx) (e:Option Expr) (t:TO):Prop :=
 ∀ (pins:List (Addr × Obj)) (s:Shared) (σ:St) (H:Hp) (Q:Option Int→Hp→Prop),Inv X pins σ H s→t σ H Q →
  wpAny (model X.prog X.w) X.A (evalPart e X.env) (fun u s'=>∃ o H',Inv X pins σ H' s'∧IsPart u o∧Q o H') X.xe s
def b1o:TO:=fun _ H Q=>Q none H
def tPart (t:TE):TO:=fun σ H Q=>t σ H fun x H1=>∃ i,x=.int i∧Q (some i) H1
theorem a3L {ns:List Int}:∀ {us:List Value},a0O (ns.map V.int) us→IntsAre us ns:=by
 induction ns with
 | nil=>intro us r;rw [List.map_nil] at r;cases r;exact .nil
 | cons n ns ih =>
  intro us r
  rw [List.map_cons] at r
  cases r with
  | cons r1 r2 =>
   obtain ⟨t,e⟩:=r1
   subst e
   exact .cons n t (ih r2)
section
variable {X:Cx} {e:Expr} {te:TE} {lo hi:Option Expr} {tl th:TO} {pos p2:Pos}
theorem b1p:PO X none b1o:=by
 intro pins s σ H Q I h
 rw [evalPart_none]
 exact wpAny_pure ⟨none,H,I,.none,h⟩
theorem b1q (h:PE X e te):PO X (some e) (tPart te):=by
 intro pins s σ H Q I hw
 rw [evalPart_some]
 refine thn (h pins s σ H _ I hw) fun u s1 ⟨x,H1,I1,r1,q1⟩=>?_
 obtain ⟨i,rfl,q⟩:=q1
 obtain ⟨t,rfl⟩:=r1
 exact ⟨some i,H1,I1,.int i t,q⟩
def SlR (X:Cx) (r:V→Option Int→Option Int→Hp→VK→Prop):Prop :=
 ∀ (pins:List (Addr × Obj)) (s:Shared) (σ:St) (H:Hp) (x:V) (v vl vu:Value) (lo hi:Option Int) (sl:Addr) (Q:VK),Inv X pins σ H s→a1a x v→s.heap.IsSliceOf sl vl vu .none→IsPart vl lo→IsPart vu hi→r x lo hi H Q →
  ∃ T id,typeLookup (.type T) "__getitem__"=pure (some (.builtin id))∧s.TypeIs v T∧wpAny (model X.prog X.w) X.A (getItem v (.ref sl)) (EP X pins σ Q) X.xe s
def tSl (r:V→Option Int→Option Int→Hp→VK→Prop) (te:TE) (tl th:TO):TE:=fun σ H Q=>te σ H fun x H1=>tl σ H1 fun l H2=>th σ H2 fun u H3=>r x l u H3 Q
theorem a9o {r:V→Option Int→Option Int→Hp→VK→Prop} (hr:SlR X r) (he:PE X e te) (hl:PO X lo tl) (hu:PO X hi th):PE X (.Subscript e (.Slice lo hi none p2) pos) (tSl r te tl th):=by
 intro pins s σ H Q I h
 refine Subscript_ (thn (he pins s σ H _ I h) fun v s1 ⟨x,H1,I1,r1,q1⟩=>?_)
 refine wpAny_Slice (thn (hl pins s1 σ H1 _ I1 q1) fun vl s2 ⟨l,H2,I2,pl,q2⟩=>thn (hu pins s2 σ H2 _ I2 q2) fun vu s3 ⟨u,H3,I3,pu,q3⟩=>?_)
 rw [evalPart_none]
 refine wpAny_pure ?_
 have I4:Inv X pins σ H3 { s3 with heap:=s3.heap.push { cls:=.type "slice",data:=.fields #[vl,vu,.none] } }:=I3.kept (t':=s3.toks) fun b ob q=>Heap.get?_push_of_some _ q
 obtain ⟨T,id,hT,ht,hg⟩:=hr pins { s3 with heap:=s3.heap.push { cls:=.type "slice",data:=.fields #[vl,vu,.none] } } σ H3 x v vl vu l u s3.heap.objs.size Q I4 r1 (Heap.IsSliceOf.new ..) pl pu q3
 show wpAny (model X.prog X.w) X.A (subscriptTail e (.Slice lo hi none p2) v (.ref s3.heap.objs.size)) (EP X pins σ Q) X.xe { s3 with heap:=s3.heap.push { cls:=.type "slice",data:=.fields #[vl,vu,.none] } }
 exact tail_any (ops:=[.ref s3.heap.objs.size,v]) ht hT hg (by with_unfolding_all rfl)
def a9p (xs:List V) (lo hi:Option Int):List V:=(xs.drop (HT.sIx xs.length 0 lo)).take (HT.sIx xs.length xs.length hi - HT.sIx xs.length 0 lo)
theorem a5n (xs:List V) (lo hi:Option Int):(a9p xs lo hi).length≤xs.length:=by
 unfold a9p
 rw [List.length_take,List.length_drop]
 omega
def rSlT (K:PySem.W.Frag):V→Option Int→Option Int→Hp→VK→Prop:=fun x lo hi H Q=>∃ a xs,x=.ref a∧SqT K H a xs ∧
 ¬ (HT.sIx xs.length 0 lo=0∧HT.sIx xs.length xs.length hi=xs.length)∧∀ p,H p=none→Q (.ref p) (upd H p (.tup (a9p xs lo hi)))
theorem sl_tup:SlR X (rSlT X.K):=by
 intro pins s σ H x v vl vu lo hi sl Q I rx hs pl pu h
 obtain ⟨a,xs,rfl,hx,hw,q⟩:=h
 cases rx
 obtain ⟨its,r,ht,hz⟩:=I.tuple hx
 have hlen:its.toArray.size=xs.length:=by rw [List.size_toArray];exact r.length.symm
 refine ⟨"tuple",_,PyProof.Rows.slot_tuple_getitem.lookup,ht.typeIs,?_⟩
 refine HT.a2A ht hs pl pu (by rw [hlen];exact hw) ?_ (by rw [hlen];exact hz)
 rw [hlen]
 refine ⟨.ref s.heap.objs.size,_,I.laid (t':=s.toks) (o:=.tup (a9p xs lo hi)) (fun b ob q=>Heap.get?_push_of_some _ q) (Nat.le_refl _) ?_,rfl,q _ (I.hok.fresh (Nat.le_refl _))⟩
 exact ⟨Nat.le_trans (a5n xs lo hi) hz,_,(r.drop (HT.sIx xs.length 0 lo)).take (HT.sIx xs.length xs.length hi - HT.sIx xs.length 0 lo),a4B.new _ _⟩
def rLtT (K:PySem.W.Frag):R2:=fun x y H Q=>∃ a b ns ms,x=.ref a∧y=.ref b∧SqT K H a (ns.map V.int)∧SqT K H b (ms.map V.int)∧Q (.bl (HT.a1f ns ms)) H
theorem op_ltT (hu:X.A.units < cLine):OpR X (compareOp .Lt) (rLtT X.K):=by
 intro pins s σ H x y v u Q I rx ry h
 obtain ⟨a,b,ns,ms,rfl,rfl,ha,hb,q⟩:=h
 cases rx
 cases ry
 obtain ⟨its,r1,p1,_⟩:=I.tuple ha
 obtain ⟨its2,r2,p2,_⟩:=I.tuple hb
 have i1:IntsAre its.toArray.toList ns:=a3L r1
 have i2:IntsAre its2.toArray.toList ms:=a3L r2
 exact HT.a6u p1 p2 i1 i2 hu ⟨.bl (HT.a1f ns ms),H,I,rfl,q⟩
def rCatT (K:PySem.W.Frag):R2:=fun x y H Q=>∃ a b xs ys,x=.ref a∧y=.ref b∧SqT K H a xs∧SqT K H b ys∧xs≠[]∧xs.length+ys.length≤sizeLine ∧
 (ys=[]→Q (.ref a) H)∧(ys≠[]→∀ p,H p=none→Q (.ref p) (upd H p (.tup (xs++ys))))
theorem a0O.nil_iff {xs:List V} {us:List Value} (r:a0O xs us):us=[]↔xs=[]:=by
 cases r with
 | nil=>simp
 | cons _ _=>simp
theorem b1r:OpR X (binaryOp .Add) (rCatT X.K):=by
 intro pins s σ H x y v u Q I rx ry h
 obtain ⟨a,b,xs,ys,rfl,rfl,ha,hb,hx,hz,q1,q2⟩:=h
 cases rx
 cases ry
 obtain ⟨its,r1,p1,_⟩:=I.tuple ha
 obtain ⟨its2,r2,p2,_⟩:=I.tuple hb
 refine HT.b1m p1 p2 (fun z=>hx (r1.nil_iff.mp z)) (fun z=>⟨.ref a,H,I,rfl,q1 (r2.nil_iff.mp z)⟩) (fun z=>?_) (by rw [←r1.length,←r2.length];exact hz)
 refine ⟨.ref s.heap.objs.size,_,I.laid (t':=s.toks) (o:=.tup (xs++ys)) (fun b ob q=>Heap.get?_push_of_some _ q) (Nat.le_refl _) ?_,rfl,q2 (fun w=>z (r2.nil_iff.mpr w)) _ (I.hok.fresh (Nat.le_refl _))⟩
 exact ⟨by rw [List.length_append];exact hz,_,r1.append r2,a4B.new _ _⟩
end
def ixN (n:Nat) (i:Int):Option Nat:=if 0≤i then (if i < n then some i.toNat else none) else if -(n:Int)≤i then some (i+n).toNat else none
def atI {α:Type} (xs:List α) (i:Int):Option α:=(ixN xs.length i).bind fun j=>xs[j]?
theorem a7o {n:Nat} {i:Int} {j:Nat} (h:ixN n i=some j):seqIndex? i n=some j∧j < n∧-(n:Int)≤i∧i < n:=by
 unfold ixN at h
 by_cases h0:0≤i
 ·rw [if_pos h0] at h
  by_cases h1:i < n
  ·rw [if_pos h1] at h
   have e:i.toNat=j:=Option.some.inj h
   exact ⟨by rw [seqIndex_of h0 h1,e],by omega,by omega,h1⟩
  ·rw [if_neg h1] at h;cases h
 ·rw [if_neg h0] at h
  by_cases h1:-(n:Int)≤i
  ·rw [if_pos h1] at h
   have e:(i+n).toNat=j:=Option.some.inj h
   exact ⟨by rw [seqIndex_neg (by omega) h1,e],by omega,h1,by omega⟩
  ·rw [if_neg h1] at h;cases h
theorem a7p {α:Type} {xs:List α} {i:Int} {v:α} (h:atI xs i=some v):∃ j,seqIndex? i xs.length=some j∧xs[j]?=some v∧j < xs.length∧-(xs.length:Int)≤i∧i < xs.length:=by
 unfold atI at h
 cases e:ixN xs.length i with
 | none=>rw [e] at h;cases h
 | some j =>
  rw [e] at h
  obtain ⟨h1,h2,h3,h4⟩:=a7o e
  exact ⟨j,h1,h,h2,h3,h4⟩
theorem a1Q {α:Type} {xs:List α} {j:Nat} {v:α} (h:xs[j]?=some v):atI xs (j:Int)=some v:=by
 have hj:j < xs.length:=(List.getElem?_eq_some_iff.mp h).1
 have e:ixN xs.length (j:Int)=some j:=by
  unfold ixN
  rw [if_pos (by omega),if_pos (by omega)];simp
 unfold atI;rw [e];exact h
theorem a4d {α:Type} (xs:List α) (v:α):atI (xs++[v]) (-1)=some v:=by
 have hl:(xs++[v]).length=xs.length+1:=by simp
 have e:ixN (xs++[v]).length (-1)=some xs.length:=by
  unfold ixN
  rw [hl,if_neg (by decide),if_pos (by omega)]
  congr 1
  omega
 unfold atI
 rw [e]
 show (xs++[v])[xs.length]?=some v
 simp
def b1s (b:Expr):Prop:=∀ o i,subscripted b false o i=operate [o,i] (getItem o i)
def IxR (X:Cx) (r:R2):Prop :=
 ∀ (value slice:Expr) (pins:List (Addr × Obj)) (s:Shared) (σ:St) (H:Hp) (x y:V) (v u:Value) (Q:VK),Inv X pins σ H s→a1a x v→a1a y u→r x y H Q →
  subscripted slice false v u=operate [v,u] (getItem v u)→wpAny (model X.prog X.w) X.A (subscriptTail value slice v u) (EP X pins σ Q) X.xe s
def MtR (X:Cx) (id:String) (r:V→List V→Hp→VK→Prop):Prop :=
 ∀ (pins:List (Addr × Obj)) (s:Shared) (σ:St) (H:Hp) (x:V) (xs:List V) (v:Value) (us:List Value) (Q:VK),Inv X pins σ H s→a1a x v→a0O xs us→r x xs H Q →
  wpAny (model X.prog X.w) X.A (call (.builtin id) (v :: us)) (EP X pins σ Q) X.xe s
section
variable {X:Cx} {a b:Expr} {ta tb:TE} {pos:Pos}
theorem a0v {r:R2} (hr:IxR X r) (ha:PE X a ta) (hb:PE X b tb) (hs:b1s b):PE X (.Subscript a b pos) (tOp r ta tb):=by
 intro pins s σ H Q I h
 exact Subscript_ (binT ha hb I h fun v u s2 x y H2 I2 rx ry q=>hr a b pins s2 σ H2 x y v u Q I2 rx ry q (hs _ _))
def rIxL (K:PySem.W.Frag):R2:=fun x y H Q=>∃ p xs i v,x=.ref p∧y=.int i∧SqL K H p xs∧atI xs i=some v∧Q v H
def rIxT (K:PySem.W.Frag):R2:=fun x y H Q=>∃ p xs i v,x=.ref p∧y=.int i∧SqT K H p xs∧atI xs i=some v∧Q v H
def rIxS:R2:=fun x y H Q=>∃ z i c,x=.str z∧y=.int i∧z.length≤sizeLine∧atI z.cps.toList i=some c∧Q (.str ⟨#[c]⟩) H
theorem a0n:IxR X (rIxL X.K):=by
 intro value slice pins s σ H x y v u Q I rx ry h hs
 obtain ⟨p,xs,i,z,rfl,rfl,hq,he,q⟩:=h
 cases rx
 obtain ⟨t,rfl⟩:=ry
 obtain ⟨its,r,pl,hz⟩:=I.list hq
 obtain ⟨j,h1,h2,h3,h4,h5⟩:=a7p he
 obtain ⟨w,ew,rw'⟩:=r.get h2
 have hl:=r.length
 have hn:=a5L
 have fin:EP X pins σ Q w s:=⟨z,H,I,rw',q⟩
 by_cases h0:0≤i
 ·have hj:i.toNat=j:=by
   rw [seqIndex_of h0 h5] at h1
   exact Option.some.inj h1
  exact item_listR pl.isList h0 (by omega) (by rw [hj];simpa using ew) fin hs
 ·have hj:(i+(its.toArray.size:Int)).toNat=j:=by
   rw [seqIndex_neg (by omega) h4] at h1
   rw [List.size_toArray,←hl]
   exact Option.some.inj h1
  exact subscriptTail_builtinR (x:=w) pl.isList.typeIs slot_list_getitem.lookup
   (wpAny_getItem_list_neg (Q:=fun r s'=>r=w∧EP X pins σ Q r s') pl.isList (by omega) (by rw [List.size_toArray] <;> omega) (by omega) (by rw [hj];simpa using ew) ⟨rfl,fin⟩) hs
theorem a0Q:IxR X (rIxT X.K):=by
 intro value slice pins s σ H x y v u Q I rx ry h hs
 obtain ⟨p,xs,i,z,rfl,rfl,hq,he,q⟩:=h
 cases rx
 obtain ⟨t,rfl⟩:=ry
 obtain ⟨its,r,pl,hz⟩:=I.tuple hq
 obtain ⟨j,h1,h2,h3,h4,h5⟩:=a7p he
 obtain ⟨w,ew,rw'⟩:=r.get h2
 have hl:=r.length
 have hn:=a5L
 have fin:EP X pins σ Q w s:=⟨z,H,I,rw',q⟩
 exact subscriptTail_builtinR (x:=w) pl.typeIs slot_tuple_getitem.lookup
  (getItem_tuple (j:=j) (Q:=fun r s'=>r=w∧EP X pins σ Q r s') pl (by omega) (by omega) (by rw [List.size_toArray,←hl];exact h1) (by simpa using ew) ⟨rfl,fin⟩) hs
def rIx (K:PySem.W.Frag):R2:=fun x y H Q=>rIxL K x y H Q∨rIxT K x y H Q∨rIxS x y H Q
theorem a6x (its:List Value) (n j:Nat) (u:Value):Obj.mapSeq (·.setIfInBounds j u) { cls:=.type "list",data:=.seq its.toArray n }={ cls:=.type "list",data:=.seq (its.set j u).toArray n }:=by
 simp [Obj.mapSeq]
theorem Inv.lst {pins:List (Addr × Obj)} {σ:St} {H:Hp} {s:Shared} {p:Addr} {xs:List V} (I:Inv X pins σ H s) (h:H p=some (.lst xs)) :
  ∃ (its:List Value) (n:Nat),a0O xs its∧s.heap.get? p=some { cls:=.type "list",data:=.seq its.toArray n }∧xs.length≤sizeLine:=by
 obtain ⟨z,its,n,r,e⟩:=I.hok p _ h
 exact ⟨its,n,r,e,z⟩
theorem Inv.lstUpd {pins:List (Addr × Obj)} {σ:St} {H:Hp} {s:Shared} {p:Addr} {xs ys:List V} {its its':List Value} {n n':Nat} {f:Obj→Obj} (I:Inv X pins σ H s) (h:H p=some (.lst xs))
  (ho:s.heap.get? p=some { cls:=.type "list",data:=.seq its.toArray n }) (hf:f { cls:=.type "list",data:=.seq its.toArray n }={ cls:=.type "list",data:=.seq its'.toArray n' }) (r:a0O ys its') (hz:ys.length≤sizeLine) (t:Nat) :
  Inv X pins σ (upd H p (.lst ys)) { s with heap:=s.heap.update p f,toks:=t }:=by
 have e:(s.heap.update p f).get? p=some { cls:=.type "list",data:=.seq its'.toArray n' }:=by
  rw [Heap.get?_update_self f ho (by rw [hf] <;> rfl),hf]
 refine I.write (x:=p) (e:=p) (by rw [h];trivial) (.inl rfl) (fun b u hb q=>(Heap.get?_update_other _ _ (Ne.symm hb)).trans q) ⟨_,e⟩ ?_
 exact ⟨hz,its',n',r,e⟩
def rSetL:V→V→V→Hp→(Hp→Prop)→Prop:=fun o i v H Q=>∃ p xs k j,o=.ref p∧i=.int k∧H p=some (.lst xs)∧ixN xs.length k=some j∧Q (upd H p (.lst (xs.set j v)))
theorem a2o:PSet X rSetL:=by
 intro pins s σ H o i v ov iv u Q I ro ri rv h
 obtain ⟨p,xs,k,j,rfl,rfl,hp,hj,q⟩:=h
 cases ro
 obtain ⟨t,rfl⟩:=ri
 obtain ⟨its,n,r,ho,hz⟩:=I.lst hp
 obtain ⟨h1,h2,h3,h4⟩:=a7o hj
 have hl:=r.length
 have hn:=a5L
 have I':Inv X pins σ (upd H p (.lst (xs.set j v))) { s with heap:=s.heap.update p (Obj.mapSeq (·.setIfInBounds j u)) } :=
  I.lstUpd hp ho (a6x its n j u) (r.set rv j) (by rw [List.length_set];exact hz) s.toks
 by_cases h0:0≤k
 ·have hk:k.toNat=j:=by
   rw [seqIndex_of h0 h4] at h1
   exact Option.some.inj h1
  exact PySem.W.ki_setAt ho h0 (by omega) (by rw [List.size_toArray,←hl];exact h4) (by rw [hk];exact ⟨_,I',q⟩)
 ·have hk:(k+(its.toArray.size:Int)).toNat=j:=by
   rw [seqIndex_neg (by omega) h3] at h1
   rw [List.size_toArray,←hl]
   exact Option.some.inj h1
  exact PySem.W.ki_setBack ho (by omega) (by rw [List.size_toArray,←hl];exact h3) (by omega) (by rw [hk];exact ⟨_,I',q⟩)
def rSlL (K:PySem.W.Frag):V→Option Int→Option Int→Hp→VK→Prop:=fun x lo hi H Q=>∃ a xs,x=.ref a∧SqL K H a xs∧∀ p,H p=none→Q (.ref p) (upd H p (.lst (a9p xs lo hi)))
def flatV:V→Bool
 | .non=>true
 | .bl _=>true
 | .int _=>true
 | .str _=>true
 | _=>false
def eqV:V→V→Bool
 | .non,.non=>true
 | .bl a,.bl b=>a == b
 | .bl a,.int b=>(if a then 1 else 0) == b
 | .int a,.bl b=>a == (if b then 1 else 0)
 | .int a,.int b=>a == b
 | .str a,.str b=>a == b
 | _,_=>false
def eqU (x:V) (u:Value):Bool:=match u with
 | .none=>eqV .non x
 | .bool b=>eqV (.bl b) x
 | .int i _=>eqV (.int i) x
 | .str z _=>eqV (.str z) x
 | _=>false
def inV (x:V) (xs:List V):Bool:=xs.any fun y=>eqV y x
def rIn (K:PySem.W.Frag) (neg:Bool):R2:=fun x y H Q=>∃ p xs,y=.ref p∧(SqL K H p xs∨SqT K H p xs)∧flatV x=true∧xs.all flatV=true∧Q (.bl (if neg then !inV x xs else inV x xs)) H
theorem a0j:a3D X (.builtin "len") (fun xs H Q=>∃ p ys,xs=[.ref p]∧(SqL X.K H p ys∨SqT X.K H p ys)∧Q (.int ys.length) H):=by
 intro pins s σ H xs us Q I r h
 obtain ⟨p,ys,rfl,hq,q⟩:=h
 obtain ⟨u,rfl,rx⟩:=a4I r
 cases rx
 have hn:=a5L
 rcases hq with hq | hq
 ·obtain ⟨its,r',pl,hz⟩:=I.list hq
  have hlen:=r'.length
  exact Calls.call_len_list pl.isList (by simp only [List.size_toArray] <;> omega) ⟨.int ys.length,H,I.tok _,⟨s.toks+1,by rw [List.size_toArray,hlen]⟩,q⟩
 ·obtain ⟨its,r',pl,hz⟩:=I.tuple hq
  have hlen:=r'.length
  exact len_tuple pl (by simp only [List.size_toArray] <;> omega) ⟨.int ys.length,H,I.tok _,⟨s.toks+1,by rw [List.size_toArray,hlen]⟩,q⟩
theorem a1E:a3D X (.type "tuple") (fun xs H Q=>∃ p ys,xs=[.ref p]∧((SqL X.K H p ys∧∀ l,H l=none→Q (.ref l) (upd H l (.tup ys)))∨(SqT X.K H p ys∧Q (.ref p) H))):=by
 intro pins s σ H xs us Q I r h
 obtain ⟨p,ys,rfl,h⟩:=h
 obtain ⟨u,rfl,rx⟩:=a4I r
 cases rx
 rcases h with ⟨hq,q⟩ | ⟨hq,q⟩
 ·obtain ⟨its,r',pl,hz⟩:=I.list hq
  have hlen:=r'.length
  refine call_tuple_list pl.isList (fun h' kp=>?_) (by simp only [List.size_toArray] <;> omega)
  have I1:Inv X pins σ H { s with heap:=h' }:=I.kept (t':=s.toks) kp
  have I2:Inv X pins σ (upd H h'.objs.size (.tup ys)) { s with heap:=h'.push { cls:=.type "tuple",data:=.seq its.toArray } } :=
   I1.laid (t':=s.toks) (fun b o e=>Heap.get?_push_of_some _ e) (Nat.le_refl _) (show a1n X.prog X.w _ _ _ (.tup ys) from ⟨hz,its,r',a4B.new _ _⟩)
  exact ⟨.ref h'.objs.size,_,I2,rfl,q _ (I1.hok.fresh (Nat.le_refl _))⟩
 ·obtain ⟨its,r',pl,hz⟩:=I.tuple hq
  exact call_tuple_same pl ⟨.ref p,H,I,rfl,q⟩
def tyV (K:PySem.W.Frag) (T:String) (x:V) (H:Hp):Prop:=match x with
 | .str _=>T="str"
 | .int _=>T="int"
 | .ref p=>(T="list"∧∃ xs,SqL K H p xs)∨(T="tuple"∧∃ o,K.lookup p=some o∧o.cls=.type "tuple"∧o.dict=none) ∨
   (T="dict"∧((∃ kvs,H p=some (.dK kvs))∨∃ kvs,H p=some (.dT kvs)))∨(T="set"∧∃ S n,H p=some (.set S n))
 | _=>False
theorem tyV_is {pins:List (Addr × Obj)} {σ:St} {H:Hp} {s:Shared} {T:String} {x:V} {v:Value} (I:Inv X pins σ H s) (r:a1a x v) (ty:tyV X.K T x H) :
  s.TypeIs v T∧∀ a,v=.ref a→∃ ob,s.heap.get? a=some ob∧ob.dict=none:=by
 cases x with
 | str z =>
  obtain ⟨t,rfl⟩:=r
  cases (show T="str" from ty)
  exact ⟨typeIs_str s z t,fun _ e=>nomatch e⟩
 | int i =>
  obtain ⟨t,rfl⟩:=r
  cases (show T="int" from ty)
  exact ⟨typeIs_int s i t,fun _ e=>nomatch e⟩
 | ref p =>
  cases r
  rcases ty with ⟨rfl,xs,hq⟩ | ⟨rfl,o,hk,hc,hd⟩ | ⟨rfl,hk⟩ | ⟨rfl,S,n,hk⟩
  ·obtain ⟨its,_,pl,_⟩:=I.list hq
   refine ⟨pl.isList.typeIs,fun a e=>?_⟩
   cases e
   obtain ⟨o,n,e,c,hd,_⟩:=pl
   exact ⟨o,e,hd⟩
  ·refine ⟨⟨o,I.kIn p o hk,hc⟩,fun a e=>?_⟩
   cases e
   exact ⟨o,I.kIn _ o hk,hd⟩
  ·have z:∃ o,s.heap.get? p=some o∧o.ExactDict:=by
    rcases hk with ⟨kvs,hk⟩ | ⟨kvs,hk⟩
    ·obtain ⟨_,_,_,_,o,_,_,e,ex,_⟩:=I.hok p _ hk
     exact ⟨o,e,ex⟩
    ·obtain ⟨_,_,_,_,o,_,_,e,ex,_⟩:=I.hok p _ hk
     exact ⟨o,e,ex⟩
   obtain ⟨o,e,ex⟩:=z
   refine ⟨⟨o,e,ex.1⟩,fun a e2=>?_⟩
   cases e2
   exact ⟨o,e,ex.2.1⟩
  ·obtain ⟨o,_,_,_,e,ex,_⟩:=I.hok p _ hk
   refine ⟨⟨o,e,ex.1⟩,fun a e2=>?_⟩
   cases e2
   exact ⟨o,e,ex.2.1⟩
 | _=>exact False.elim ty
def tBM (K:PySem.W.Frag) (T:String) (r:V→List V→Hp→VK→Prop) (to:TE) (t:TA):TE:=fun σ H Q=>to σ H fun x H1=>tyV K T x H1∧t σ H1 fun xs H2=>r x xs H2 Q
variable {o e:Expr} {es:List Expr} {to:TE} {t:TA} {name:Str} {apos cpos:Pos} {T id:String} {r:V→List V→Hp→VK→Prop}
theorem a7q (pa:PlainAttrs T) (slot:Slot T name id) (hty:typeOf (.builtin id)=pure (.type "method_descriptor")) (hm:MtR X id r) (ho:PE X o to) (ha:PA X (e :: es) t)
  (hbase:attributeBase o name X.env (eval o X.env)=eval o X.env:=by rfl)
  (hfew:((backTo cpos (starEach (e :: es) X.env)).all (fun x=>!x.1) && (backToKw cpos (keywordEach [] X.env)).all (fun x=>x.1.isSome)
   && decide ((e :: es).length+([]:List Keyword).length+(if ([]:List Keyword).isEmpty then 0 else 1) < 30))=true:=by rfl)
  (hline:(apos.endLine == cpos.line)=true:=by rfl) (hs:starEach (e :: es) X.env=(false,eval e X.env) :: starEach es X.env:=by rfl) (hplain:(backTo cpos (starEach es X.env)).any (·.1)=false:=by rfl) :
  PE X (.Call (.Attribute o name apos) (e :: es) [] cpos) (tBM X.K T r to t):=by
 intro pins s σ H Q I h
 refine wpAny_Call_method_late hbase hfew hline rfl (thn (ho pins s σ H _ I h) fun v s1 ⟨x,H1,I1,r1,ty,q1⟩=>?_)
 obtain ⟨h1,h2⟩:=tyV_is I1 r1 ty
 refine ⟨T,id,pa,slot,hty,h1,h2,?_⟩
 have hA:=ha cpos pins s1 σ H1 _ I1 q1
 rw [hs] at hA ⊢
 refine Calls.callWith_builtin (by show (false || (backTo cpos (starEach es X.env)).any (·.1))=false;rw [hplain] <;> rfl) (Calls.evalArgs_plain ?_)
 exact thn hA fun us s2 ⟨vs,H2,I2,r2,q2⟩=>hm pins s2 σ H2 x vs v us Q I2 r1 r2 q2
end
def MtM (X:Cx) (id:String) (r:V→List V→Hp→VK→Prop):Prop :=
 ∀ (pins:List (Addr × Obj)) (s:Shared) (σ:St) (H:Hp) (x:V) (xs:List V) (v:Value) (us:List Value) (Q:VK),Inv X pins σ H s→a1a x v→a0O xs us→r x xs H Q →
  wpAny (model X.prog X.w) X.A (call (.builtin id) (v :: us)) (EP X pins σ Q) X.xe s
theorem a0O.one:∀ {x:V} {us:List Value},a0O [x] us→∃ u,us=[u]∧a1a x u
 | _,_,.cons r .nil=>⟨_,rfl,r⟩
theorem a0O.two:∀ {x y:V} {us:List Value},a0O [x,y] us→∃ u v,us=[u,v]∧a1a x u∧a1a y v
 | _,_,_,.cons r (.cons q .nil)=>⟨_,_,rfl,r,q⟩
theorem a0O.rep {xs:List V} {us:List Value} (h:a0O xs us):∀ k:Nat,a0O (List.replicate k xs).flatten (List.replicate k us).flatten
 | 0=>.nil
 | k+1=>by
  rw [List.replicate_succ,List.replicate_succ,List.flatten_cons,List.flatten_cons]
  exact a0O.append h (a0O.rep h k)
theorem a4O (its:List Value):∀ (k:Nat) (acc:List Value),
  List.foldl (fun x1 x2=>x1++x2) acc.toArray (List.replicate k its.toArray)=(acc++(List.replicate k its).flatten).toArray
 | 0,acc=>by simp
 | k+1,acc=>by
  have e:acc.toArray++its.toArray=(acc++its).toArray:=by simp
  have e2:(acc++its)++(List.replicate k its).flatten=acc++(List.replicate (k+1) its).flatten:=by
   rw [List.replicate_succ,List.flatten_cons,List.append_assoc]
  rw [←e2,←a4O its k (acc++its),←e,List.replicate_succ,List.foldl_cons]
section
variable {X:Cx} {pins:List (Addr × Obj)} {σ:St} {H:Hp} {s:Shared} {l b:Addr} {xs ys zs:List V}
theorem Inv.lset {its its':List Value} {n:Nat} {f:Array Value→Array Value} {t':Nat} (I:Inv X pins σ H s) (hH:H l=some (.lst xs))
  (e:s.heap.get? l=some { cls:=.type "list",data:=.seq its.toArray n }) (hf:f its.toArray=its'.toArray) (hv:a0O ys its') (hz:ys.length≤sizeLine) :
  Inv X pins σ (upd H l (.lst ys)) { s with heap:=s.heap.update l (Obj.mapSeq f),toks:=t' }:=by
 have q:=PySem.IsL.update e f
 rw [hf] at q
 refine I.write (x:=l) (e:=l) (by rw [hH];exact trivial) (.inl rfl) (fun b' u hb hu=>(Heap.get?_update_other s.heap (Obj.mapSeq f) (Ne.symm hb)).trans hu) ⟨_,q⟩ ?_
 exact ⟨hz,its',_,hv,q⟩
theorem Inv.lnew {its:List Value} {t':Nat} (I:Inv X pins σ H s) (hv:a0O ys its) (hz:ys.length≤sizeLine) :
  Inv X pins σ (upd H s.heap.objs.size (.lst ys)) { s with heap:=s.heap.push { cls:=.type "list",data:=.seq its.toArray },toks:=t' } :=
 I.laid (fun _ _ q=>Heap.get?_push_of_some _ q) (Nat.le_refl _) ⟨hz,its,0,hv,Heap.get?_push_size _ rfl⟩
theorem Inv.fresh (I:Inv X pins σ H s):H s.heap.objs.size=none:=I.hok.fresh (Nat.le_refl _)
theorem Inv.lstM (I:Inv X pins σ H s) (hH:H l=some (.lst xs)):xs.length≤sizeLine∧∃ (its:List Value) (n:Nat),a0O xs its∧xs.length=its.length∧s.heap.get? l=some { cls:=.type "list",data:=.seq its.toArray n }:=by
 obtain ⟨z,its,n,r,e⟩:=I.hok l _ hH
 exact ⟨z,its,n,r,r.length,e⟩
theorem a5O {n:Nat} (h:n≤sizeLine):Builtin.List.listTooLong n=false:=by
 unfold Builtin.List.listTooLong
 exact decide_eq_false (by omega)
end
section
variable {X:Cx}
def b1t:V→List V→Hp→VK→Prop:=fun x vs H Q=>∃ l xs y,x=.ref l∧vs=[y]∧H l=some (.lst xs)∧xs.length < sizeLine∧Q .non (upd H l (.lst (xs++[y])))
theorem a2p:MtM X "list.append" b1t:=by
 intro pins s σ H x vs v us Q I rx rv h
 obtain ⟨l,xs,y,rfl,rfl,hH,hz,q⟩:=h
 cases rx
 obtain ⟨u,rfl,ru⟩:=rv.one
 obtain ⟨z,its,n,r,hl,e⟩:=I.lstM hH
 refine call_meets F.slot_list_append ⟨_,e,rfl⟩ F.entry_list_append (F.args_list_append_2 _ _) (PySem.list_append l its.toArray n u (by rw [List.size_toArray];omega)) ⟨e,?_⟩
 refine ⟨.non,_,I.lset (its':=its++[u]) hH e (by simp) (r.append (.cons ru .nil)) ?_,rfl,q⟩
 rw [List.length_append,List.length_singleton]
 omega
def b1u:V→List V→Hp→VK→Prop:=fun x vs H Q=>∃ l b xs zs,x=.ref l∧vs=[.ref b]∧H l=some (.lst xs)∧H b=some (.lst zs)∧xs.length+zs.length≤sizeLine∧Q .non (upd H l (.lst (xs++zs)))
theorem a4P:MtM X "list.extend" b1u:=by
 intro pins s σ H x vs v us Q I rx rv h
 obtain ⟨l,b,xs,zs,rfl,rfl,hH,hB,hz,q⟩:=h
 cases rx
 obtain ⟨u,rfl,ru⟩:=rv.one
 cases ru
 obtain ⟨z,its,n,r,hl,e⟩:=I.lstM hH
 obtain ⟨z2,its2,n2,r2,hl2,e2⟩:=I.lstM hB
 have hsz:its.toArray.size+its2.toArray.size≤sizeLine:=by rw [List.size_toArray,List.size_toArray];omega
 have hlong:¬ (!its.toArray.isEmpty && Builtin.List.listTooLong (its.toArray.size+its2.toArray.size))=true:=by
  rw [a5O hsz,Bool.and_false]
  exact Bool.false_ne_true
 refine call_meets F.slot_list_extend ⟨_,e,rfl⟩ F.entry_list_extend (F.args_list_extend_2 _ _)
  (AutoSeq1.list_extend_list_list_0 l its.toArray n b its2.toArray n2 hlong (by rw [List.size_toArray];omega) (by omega)) ⟨e,e2,?_⟩
 refine ⟨.non,_,I.lset (its':=its++its2) hH e (by simp) (r.append r2) ?_,rfl,q⟩
 rw [List.length_append]
 omega
def rCat:R2:=fun x y H Q=>∃ l b xs zs,x=.ref l∧y=.ref b∧H l=some (.lst xs)∧H b=some (.lst zs)∧xs.length+zs.length≤sizeLine∧∀ p,H p=none→Q (.ref p) (upd H p (.lst (xs++zs)))
theorem op_cat:OpR X (binaryOp .Add) rCat:=by
 intro pins s σ H x y v u Q I rx ry h
 obtain ⟨l,b,xs,zs,rfl,rfl,hH,hB,hz,q⟩:=h
 cases rx
 cases ry
 obtain ⟨z,its,n,r,hl,e⟩:=I.lstM hH
 obtain ⟨z2,its2,n2,r2,hl2,e2⟩:=I.lstM hB
 refine PySem.P.add_list e e2 ?_ (by rw [List.size_toArray,List.size_toArray];omega)
 have ea:its.toArray++its2.toArray=(its++its2).toArray:=by simp
 rw [ea]
 exact ⟨.ref _,_,I.lnew (t':=s.toks) (r.append r2) (by rw [List.length_append];omega),rfl,q _ I.fresh⟩
def rRep:R2:=fun x y H Q=>∃ l k xs,x=.ref l∧y=.int k∧H l=some (.lst xs)∧-(2 ^ 63)≤k∧k < 2 ^ 63∧xs.length * k.toNat≤sizeLine ∧
 ∀ p,H p=none→Q (.ref p) (upd H p (.lst (List.replicate k.toNat xs).flatten))
theorem b1v {α:Type} (xs:List α) (k:Nat):(List.replicate k xs).flatten.length=k * xs.length:=by
 induction k with
 | zero=>simp
 | succ k ih=>rw [List.replicate_succ,List.flatten_cons,List.length_append,ih,Nat.succ_mul,Nat.add_comm]
theorem a7r:OpR X (binaryOp .Mult) rRep:=by
 intro pins s σ H x y v u Q I rx ry h
 obtain ⟨l,k,xs,rfl,rfl,hH,h1,h2,hz,q⟩:=h
 cases rx
 obtain ⟨t,rfl⟩:=ry
 obtain ⟨z,its,n,r,hl,e⟩:=I.lstM hH
 have hlen:its.toArray.size * k.toNat≤sizeLine:=by rw [List.size_toArray,←hl];exact hz
 have hcap:¬ its.toArray.size * k.toNat > (2 ^ 63 - 1) / 8:=by
  have:(sizeLine:Nat)≤(2 ^ 63 - 1) / 8:=by decide
  omega
 have hfit:¬ (!Builtin.List.listFitsIndex k)=true:=by
  rw [fitsIndex_both h1 h2]
  exact Bool.false_ne_true
 have hlong:¬ Builtin.List.listTooLong (its.toArray.size * k.toNat)=true:=by
  rw [a5O hlen]
  exact Bool.false_ne_true
 have hnew:List.foldl (fun x1 x2=>x1++x2) #[] (List.replicate (if its.toArray.isEmpty=true then 0 else k.toNat) its.toArray)=(List.replicate k.toNat its).flatten.toArray:=by
  have f0:∀ m:Nat,List.foldl (fun x1 x2=>x1++x2) #[] (List.replicate m its.toArray)=(List.replicate m its).flatten.toArray:=fun m=>by
   have:=a4O its m []
   rw [List.nil_append] at this
   exact this
  rw [f0]
  cases its with
  | nil=>simp
  | cons a r'=>rw [if_neg (by simp)]
 refine wpAny_binaryOp_repeat_ref (T:="list") (U:="int") (by decide) ⟨_,e,rfl⟩ (fun s'=>typeIs_int s' k t) noFill_list_mul F.fills_int_mul F.slot_int_rmul repeat_list F.slot_int_index.lookup
  (call_meets F.slot_int_rmul (typeIs_int s k t) F.entry_int_rmul (F.args_int_rmul_2 _ _) (int___rmul___int_list k t l its.toArray n)
   ⟨e,rfl,⟨_,e,rfl⟩,call_meets F.slot_list_mul ⟨_,e,rfl⟩ F.entry_list_mul (F.args_list_mul_2 _ _) (AutoListH.list___mul___list_int_3 l its.toArray n k t hfit hcap hlong) ⟨e,?_⟩⟩)
 rw [hnew]
 exact ⟨.ref _,_,I.lnew (t':=s.toks) (r.rep k.toNat) (by rw [b1v,Nat.mul_comm];exact hz),rfl,q _ I.fresh⟩
end
section
variable {prog:Program} {w:World} {A:Around} {E:Value→Shared→Prop} {s:Shared}
end
section
variable {X:Cx}
end
end L2
namespace Att
open PySem PySem.W PySem.Calls PyProof.Rows
theorem a3f {P:Params} {h:Heap}:∀ (ns:List Int) (vs:List Value),WellAll P h vs (ns.map WData.int)→IntsAre vs ns:=by
 intro ns
 induction ns with
 | nil =>
  intro vs w
  rw [List.map_nil] at w
  cases w
  exact .nil
 | cons n ns ih =>
  intro vs w
  rw [List.map_cons] at w
  cases w with
  | cons a b =>
   cases a
   exact .cons _ _ (ih _ b)
theorem a7s {l:OpenLaw} {n:Nat} (hn:l.most=some n) {P:Params} {h:Heap} {args:List WData} {vals:List Value}
  (hpre:l.row.toRowW.claim.pre args=true) (hwl:WellAll P h vals args) :
  ∃ a vs ns,vals=[Value.ref a]∧args=[WData.list (ns.map WData.int)]∧h.get? a=some { cls:=.type "list",data:=.seq vs.toArray }∧IntsAre vs ns∧ns.length≤n:=by
 have hsh:WShape.hasAll [] args [.list .int]=true:=(pre_splitW hpre).1
 have hc:l.pre.holds [] { args:=args }=true:=(pre_splitW hpre).2
 obtain ⟨d,r,rfl,h1,h2⟩:=hasAllW_cons hsh
 obtain rfl:=hasAllW_nil h2
 obtain ⟨xs,rfl,h3⟩:=hasW_list h1
 obtain ⟨ns,rfl⟩:=items_int h3
 have hlen:ns.length≤n:=by
  unfold OpenLaw.pre at hc
  have h4:(WTm.not (.lt (.lit (.int (n:Int))) (.len (.arg 0)))).holds [] { args:=[.list (ns.map .int)] }=true:=by
   have h4:=(holds_andW hc).1
   rw [hn] at h4
   exact h4
  have h5:=condW_of h4 (w_not (w_lt w_lit (w_len_list (w_arg rfl))))
  rw [List.length_map] at h5
  refine Nat.le_of_not_lt fun q=>?_
  have q':(n:Int) < ((ns.length:Nat):Int):=by omega
  first
   | (rw [decide_eq_true q'] at h5;exact absurd h5 (by decide))
   | (simp at h5;omega)
 cases hwl with
 | cons w1 w2 =>
  cases w2
  cases w1 with
  | list ho hall=>exact ⟨_,_,ns,rfl,rfl,ho,a3f ns _ hall,hlen⟩
theorem a7t (l:OpenLaw) (args:List WData):l.row.toRowW.claim.post args (.bool true) args=true :=
 postW_of (r:=l.row.toRowW) (X:=(true == true))
  (show WShape.has [] (.bool true) .bool=true by first | rfl | decide | simp [WShape.has,WShape.arms,WShape.armsAll])
  (show (WTm.eq .res (.lit (.bool true))).value [] { args:=args,res:=some (.bool true),after:=args }=some (.bool (true == true)) from w_eq_bool (w_res rfl) w_lit) rfl
theorem a5o {l:OpenLaw} {n:Nat} {q:Program} {loose:List Str} {XP:(Str→Option Value)→Heap→Prop} {YP:World→Heap→Prop} {d:DefRec}
  (hn:l.most=some n) (hdf:d.params.defaults=[])
  (call:∀ (w:World) (s₀ s₁:Shared) (mg mb:Str→Option Value) (fa:Addr) (o:Obj) (pm cd doc:Value) (a:Addr) (vs:List Value) (ns:List Int),
   Ground q loose [] XP w s₀ mg mb s₁.heap→YP w s₁.heap →
   s₁.heap.get? fa=some o→o.data=.func (docDef d.name d.params d.body d.scope pm cd doc)→s₁.heap.CodeRec cd d.name→mg d.name=some (.ref fa) →
   s₁.heap.get? a=some { cls:=.type "list",data:=.seq vs.toArray }→IntsAre vs ns→ns.length≤n→s₁.gens=#[] →
   codeAny (model l.prog w) callerA (.call (.ref fa) ⟨[.ref a],[]⟩) (fun r s'=>r=.ok (.ret (.bool true))∧OldK s₁.heap s'.heap∧s'.os=s₁.os∧AllBare s'.gens) s₁) :
  WalkO q loose XP YP l.row.toRowW d [] (fun f vs=>PySem.call f vs):=by
 intro w s₀ s₁ mg mb G Y fa o pm cd doc dV kV ho hd hcd hD hmg hg args vals as hpre hlay hrd hwl hlo
 obtain rfl:dV=.none:=Dflts.none hD hdf
 obtain rfl:kV=.none:=Dflts.noKw hD
 obtain ⟨a,vs,ns,rfl,rfl,hobj,hints,hlen⟩:=a7s hn hpre hwl
 refine enter_call (codeAny_mono (call w s₀ s₁ mg mb fa o pm cd doc a vs ns G Y ho (fd_plain hd) hcd hmg hobj hints hlen hg) fun r s' hq=>?_)
 obtain ⟨rfl,h2,h3,h4⟩:=hq
 exact ⟨.inl ⟨.bool true,.bool true,[],rfl,fun _=>rfl,.bool true,a7t l _,fun _=>⟨List.Pairwise.nil,fun _ hm=>(nomatch hm)⟩⟩,h2,h3,h4⟩
section
variable {prog:Program} {w:World} {A:Around} {E:Value→Shared→Prop} {s:Shared} {K:Frag}
def ledger (h:Heap) (L d:Addr):List (Addr × Obj):=(List.range h.objs.size).filterMap fun a=>if a=L∨a=d then none else (h.get? a).map fun o=>(a,o)
end
end Att
namespace L2
open PySem PySem.Spec PyProof.Rows
theorem a4Q:∀ {vs:List Value} {ns:List Int},IntsAre vs ns→a0O (ns.map V.int) vs
 | _,_,.nil=>.nil
 | _,_,.cons n t h=>.cons ⟨t,rfl⟩ (a4Q h)
def Only (H:Hp):Prop:=∀ b,H b=none∨∃ o xs,H b=some (.frz o (.lst xs))
abbrev KOf {K:PySem.W.Frag} {h:Heap} (_:K.In h):PySem.W.Frag:=K
def inClass (s:Stmt) (j:Nat):Stmt:=match s with
 | .ClassDef _ _ _ body _ _ _ _ _ _ _=>body.getD j (.Pass ⟨0,0,0,0⟩)
 | _=>.Pass ⟨0,0,0,0⟩
def a0o (s:Stmt):Arguments:=match s with
 | .FunctionDef _ a _ _ _ _ _ _ _ _=>a
 | _=>{ posonlyargs:=[],args:=[],vararg:=none,kwonlyargs:=[],kw_defaults:=[],kwarg:=none,defaults:=[] }
def a0m (s:Stmt):List Stmt:=match s with
 | .FunctionDef _ _ b _ _ _ _ _ _ _=>b
 | _=>[]
def a0b (s:Stmt):Scope:=match s with
 | .FunctionDef _ _ _ _ _ _ sc _ _ _=>sc
 | _=>{ kind:=.function,names:=[],isGenerator:=false,isCoroutine:=false }
abbrev CX0:CXT:=fun _ _ _ _ _ _=>False
abbrev E0:XK:=fun _ _ _=>False
theorem a0A {X:Cx}:a2b CX0 X E0:=fun _ _ _ _ _ _ _ h=>h.elim
structure Fun (K:PySem.W.Frag) (x qual:Str) (st:Stmt) (f:Addr) (fd:FuncData):Prop where
 ex:∃ (oc:Value) (od:Option Addr) (kV doc pm:Value) (an:Option Addr) (cdv ct:Value) (osl:Array (Option Value)),
  fd=PySem.W.fnOf x qual (a0o st) (a0m st) (a0b st) .none kV doc pm an cdv ct∧K.lookup f=some ⟨oc,od,.func fd,osl⟩∧PySem.W.codeIn K cdv qual=true
 kp:PySem.W.keepIn K (.ref f)=true
section
variable {P:Program} {w:World} {K:PySem.W.Frag} {mg:Str→Option Value} {base:Heap}
theorem Fun.ok {x qual:Str} {st:Stmt} {f:Addr} {fd:FuncData} {N ps:List Str} {k:Nat} {sp:Sp} (F:Fun K x qual st f fd) (S:a0r N ps (a0b st)) (len:∀ vs H Q E,sp vs H Q E→vs.length=ps.length)
  (hbody:∀ (cdv:Value) (A:Around) (outer:List Env) (s:Shared) (H:Hp) (vs:List V) (Q:VK) (E:XK),a2a k (A.deeper (envOfC qual (a0b st) s.heap.objs.size f cdv))→sp vs H Q E →
   ∃ t,PSs (a5M CX0 P w K mg base N qual (a0b st) f cdv A outer s H E).nox (a0m st) t∧t { nx:=fun _ H'=>Q .non H',rt:=Q } (start N vs) H):a0W P w K mg base CX0 (k+1) f fd ps sp:=by
 obtain ⟨oc,od,kV,doc,pm,an,cdv,ct,osl,rfl,lk,hcd⟩:=F.ex
 refine b1l lk hcd S len fun A outer s H vs Q E hr hsp=>?_
 obtain ⟨t,h,q⟩:=hbody cdv A outer s H vs Q E hr hsp
 exact ⟨t,h.nox,q⟩
theorem Fun.binds {x qual:Str} {st:Stmt} {f:Addr} {fd:FuncData} {ps:List Str} (F:Fun K x qual st f fd)
  (h:∀ (kV doc pm:Value) (an:Option Addr) (cdv ct:Value) (us:List Value),us.length=ps.length→bindArgs (PySem.W.fnOf x qual (a0o st) (a0m st) (a0b st) .none kV doc pm an cdv ct) ⟨us,[]⟩=pure (ps.zip us)):a1z K fd ps []:=by
 obtain ⟨oc,od,kV,doc,pm,an,cdv,ct,osl,rfl,lk,hcd⟩:=F.ex
 exact .all (h kV doc pm an cdv ct)
theorem a0z {x qual:Str} {st:Stmt} {f:Addr} {oc:Value} {od an:Option Addr} {osl:Array (Option Value)} {kV doc pm cdv ct:Value} (l:K.lookup f=some ⟨oc,od,.func (PySem.W.fnOf x qual (a0o st) (a0m st) (a0b st) .none kV doc pm an cdv ct),osl⟩)
  (c:PySem.W.codeIn K cdv qual=true) (k:PySem.W.keepIn K (.ref f)=true):Fun K x qual st f (PySem.W.fnOf x qual (a0o st) (a0m st) (a0b st) .none kV doc pm an cdv ct):=⟨⟨oc,od,kV,doc,pm,an,cdv,ct,osl,rfl,l,c⟩,k⟩
end
theorem a0u {n:Nat} (h:n≤1000):n < sizeLine:=Nat.lt_of_le_of_lt h (by decide)
section
variable {X:Cx}
theorem pv (i:Nat) {x:Str} {pos:Pos} (hN:X.N[i]?=some x:=by rfl) (hv:Vis X.env.scope x:=by first | exact Or.inl rfl | exact Or.inr (Or.inl rfl) | exact Or.inr (Or.inr rfl)) (hd:(x == ("__debug__":Str))=false:=by decide)
  (hcd:(x == ("__classdict__":Str))=false:=by decide):PE X (.Name x pos) (tVar i):=b0u hN hv hd hcd
end
theorem a2V {A B:Prop} (h:B):if false=true then A else B:=by
 rw [if_neg Bool.false_ne_true]
 exact h
theorem a6y {A B:Prop} (h:A):if true=true then A else B:=by
 rw [if_pos rfl]
 exact h
theorem a2T {c A B:Prop} [Decidable c] (h1:c→A) (h2:¬ c→B):if c then A else B:=by
 by_cases h:c
 ·rw [if_pos h]
  exact h1 h
 ·rw [if_neg h]
  exact h2 h
theorem iteNS {c A B:Prop} [Decidable c] (hc:c) (h:B):if (!decide c)=true then A else B:=by
 rw [decide_eq_true hc]
 exact a2V h
def a0C (H H':Hp):Prop:=∀ b o,H b=some o→H' b=some o
theorem a0C.refl (H:Hp):a0C H H:=fun _ _ h=>h
theorem a0C.trans {H H1 H2:Hp} (a:a0C H H1) (b:a0C H1 H2):a0C H H2:=fun c o h=>b c o (a c o h)
theorem a0C.free {H H':Hp} (e:a0C H H') {l:Addr} (h:H' l=Option.none):H l=Option.none:=by
 cases q:H l with
 | none=>rfl
 | some o =>
  rw [e l o q] at h
  cases h
theorem a0C.seq {K:PySem.W.Frag} {H H':Hp} {a:Addr} {xs:List V} (e:a0C H H') (h:SqL K H a xs):SqL K H' a xs:=by
 rcases h with (h | ⟨o,h⟩) | h
 ·exact .inl (.inl (e _ _ h))
 ·exact .inl (.inr ⟨o,e _ _ h⟩)
 ·exact .inr h
section
variable {prog:Program} {w:World} {A:Around} {R:Result→Shared→Prop} {s:Shared}
abbrev a7u (cs:List Expr) (en:Env):Sem Bool :=
 forIn cs true fun c r=>if r=true then do let ok ←isTrue c en (eval c en);pure (ForInStep.yield ok) else pure (ForInStep.yield r)
theorem a6z {elt tg iter:Expr} {cs:List Expr} {scope:Scope} {pos:Pos} {it acc:Value} {en:Env} {EE:Value→Shared→Prop} (hE:EE=notedBy (model prog w) A en fun e s'=>R (.error e) s') (J:Nat→Shared→Prop)
  (turn:∀ n s,J n s→wpAny (model prog w) A (pyNext it) (fun r s1=>match r with
   | none=>R (.ok .next) s1
   | some v=>wpAny (model prog w) A (letOwnedTupleGo tg it v) (fun _ sg=>wpAny (model prog w) A (assign tg en v) (fun _ s2=>wpAny (model prog w) A (a7u cs en) (fun ok s3 =>
     if ok=true then wpAny (model prog w) A (eval elt en) (fun y s4=>wpAny (model prog w) A (call (.builtin "list.append") [acc,y]) (fun _ s5=>∃ m,m < n∧J m s5) EE s4) EE s3
     else ∃ m,m < n∧J m s3) EE s2) EE sg) EE s1) EE s)
  (n:Nat) (h:J n s):codeAny (model prog w) A (.compLoop (.ListComp elt [⟨tg,iter,cs,0⟩] scope pos) 0 it acc en) R s:=by
 subst hE
 refine codeAny_loop rfl J (fun n s hJ=>?_) n h
 show wpAny _ A (Sem.onRaise (compTurn (.ListComp elt [⟨tg,iter,cs,0⟩] scope pos) 0 it acc en) (fun x=>do noteFrame x en;theTreesLotGoes x)) _ _ s
 refine wpAny_noted ?_
 rw [compTurn_list]
 refine wpAny_bind (wpAny_standAt (wpAny_bind (thn (turn n s hJ) fun r s1 q1=>?_)))
 cases r with
 | none=>exact wpAny_pure q1
 | some v =>
  refine wpAny_bind (thn q1 fun _ sg qg=>wpAny_bind (thn qg fun _ s2 q2=>wpAny_bind (thn q2 fun ok s3 q3=>?_)))
  cases ok with
  | false=>exact wpAny_pure ⟨rfl,q3⟩
  | true=>exact wpAny_bind (wpAny_bind (thn q3 fun y s4 q4=>wpAny_bind (thn q4 fun _ s5 q5=>wpAny_pure (wpAny_pure ⟨rfl,q5⟩))))
end
def PTs (X:Cx) (cs:List Expr) (t:TT):Prop :=
 ∀ (pins:List (Addr × Obj)) (s:Shared) (σ:St) (H:Hp) (Q:Bool→Hp→Prop),Inv X pins σ H s→t σ H Q→wpAny (model X.prog X.w) X.A (a7u cs X.env) (TP X pins σ Q) X.xe s
def a9q:TT:=fun _ H Q=>Q true H
theorem a0P {X:Cx}:PTs X [] a9q:=fun _ _ _ H _ I h=>wpAny_tests_nil ⟨H,I,h⟩
theorem b1w {X:Cx} {c:Expr} {t:TT} (h:PT X c t):PTs X [c] t:=fun pins s σ H Q I q=>wpAny_tests_one (h pins s σ H Q I q)
theorem a1R {en:Env}:∀ (names:List (Str × NameKind)) (acc:List (Str × Addr)),(∀ y,(y,NameKind.free)∈names→∃ c,en.cells.lookup y=some c) →
  (∀ y c,acc.lookup y=some c→en.cells.lookup y=some c) →
  ∃ cl,(forIn (m:=Sem) names acc fun p cs=>if (p.2 == .free)=true then (do let a ←cellOf en p.1;pure (ForInStep.yield ((p.1,a) :: cs))) else pure (ForInStep.yield cs))=pure cl ∧
   (∀ y c,cl.lookup y=some c→en.cells.lookup y=some c)∧(∀ y,((y,NameKind.free)∈names∨∃ c,acc.lookup y=some c)→∃ c,cl.lookup y=some c)
 | [],acc,_,h2=>⟨acc,rfl,h2,fun y h=>h.elim (fun z=>by simp at z) id⟩
 | (n,k) :: r,acc,h1,h2=>by
  by_cases hk:k=.free
  ·subst hk
   obtain ⟨c,hc⟩:=h1 n (by simp)
   obtain ⟨cl,e,a,b⟩:=a1R r ((n,c) :: acc) (fun y hy=>h1 y (List.mem_cons_of_mem _ hy)) (fun y d hd=>by
    rw [List.lookup_cons] at hd
    by_cases hy:y=n
    ·subst hy;simp at hd;subst hd;exact hc
    ·have:(y == n)=false:=by simpa using hy
     rw [this] at hd;exact h2 y d hd)
   refine ⟨cl,?_,a,fun y hy=>b y ?_⟩
   ·rw [List.forIn_cons]
    have e1:cellOf en n=pure c:=by unfold cellOf;rw [hc]
    simp only [beq_self_eq_true,if_true,e1,pure_bind]
    exact e
   ·rcases hy with hy | ⟨d,hd⟩
    ·rcases List.mem_cons.mp hy with z | z
     ·cases z;exact .inr ⟨c,by simp⟩
     ·exact .inl z
    ·by_cases hy:y=n
     ·subst hy;exact .inr ⟨c,by simp⟩
     ·have:(y == n)=false:=by simpa using hy
      exact .inr ⟨d,by rw [List.lookup_cons,this];exact hd⟩
  ·have hb:(k == NameKind.free)=false:=by simpa using hk
   obtain ⟨cl,e,a,b⟩:=a1R r acc (fun y hy=>h1 y (List.mem_cons_of_mem _ hy)) h2
   refine ⟨cl,?_,a,fun y hy=>b y ?_⟩
   ·rw [List.forIn_cons]
    simp only [hb,Bool.false_eq_true,if_false,pure_bind]
    exact e
   ·rcases hy with hy | hy
    ·rcases List.mem_cons.mp hy with z | z
     ·cases z;exact absurd rfl hk
     ·exact .inl z
    ·exact .inr hy
theorem a6A {scope:Scope} {en:Env} (h1:∀ y,(y,NameKind.free)∈scope.names→∃ c,en.cells.lookup y=some c) :
  ∃ cl,closureFor scope en=pure cl∧(∀ y c,cl.lookup y=some c→en.cells.lookup y=some c)∧(∀ y,(y,NameKind.free)∈scope.names→∃ c,cl.lookup y=some c):=by
 obtain ⟨cl,e,a,b⟩:=a1R (en:=en) scope.names [] h1 (fun y c h=>by simp at h)
 refine ⟨cl,?_,a,fun y hy=>b y (.inl hy)⟩
 have q:=congrArg (fun t:Sem (List (Str × Addr))=>t >>= fun c=>pure c) e
 exact q
def xeC (X:Cx) (en:Env) (C:Addr):Value→Shared→Prop :=
 notedBy (model X.prog X.w) X.A en fun e s'=>compPost (model X.prog X.w) X.A X.xe none (fun _ _=>False) Value.none C (.error e) s'
def cxC (X:Cx) (scope:Scope) (cl:List (Str × Addr)) (C:Addr) (s0:Shared) (H0:Hp) (fp:List Addr) (N:List Str):Cx where
 prog:=X.prog
 w:=X.w
 K:=X.K
 mg:=X.mg
 base:=X.base
 A:=X.A
 N:=N
 s₀:=s0
 H₀:=H0
 env:=compEnvC scope cl C X.env
 outer:=X.stack
 stack:=X.stack
 ex:=fp
 fn:=fun _=>false
 calm:=X.calm
 pn:=[]
 xe:=xeC X (compEnvC scope cl C X.env) C
structure a0l (scope:Scope) (en:Env) (N M:List Str):Prop where
 kind:scope.kind=.function
 nocell:∀ y∈scope.names,y.2≠.cell
 locs:∀ y∈scope.names,y.2=.local→scope.names.lookup y.1=some .local
 free:∀ y,(y,NameKind.free)∈scope.names→en.kindOf y=some .cell∨en.kindOf y=some .free
 len:M.length=N.length
 same:∀ (j:Nat) (y:Str),M[j]?=some y→Vis (relabel scope en) y→N[j]?=some y∧(y,NameKind.free)∈scope.names∧(relabel scope en).names.lookup y≠some .local
 relab:∀ y,((relabel scope en).names.lookup y=some .cell∨(relabel scope en).names.lookup y=some .free)→(y,NameKind.free)∈scope.names
def a6B (k:Nat) (wi:TI) (g:TG) (tc:TT) (te:TE):TE:=fun σ H Q=>wi σ H fun J H1=>∀ d,H1 d=none→∃ W:Nat→Nat→Hp→Prop,(∃ m,W 0 m (upd H1 d (.lst [])))∧∀ i m H,W i m H →
 (J.stop i H∧Q (.ref d) H)∨(J.go i H∧∃ N:Hp→Prop,(∀ H',N H'→∃ m',m' < m∧W (i+1) m' H')∧∀ x H',J.yld i H x H'→g x (List.replicate k none++σ) H' fun σ2 H2 =>
  tc σ2 H2 fun b H3=>if b=true then te σ2 H3 fun y H4=>∃ ys,H4 d=some (.lst ys)∧ys.length < sizeLine∧N (upd H4 d (.lst (ys++[y]))) else N H3)
structure Gone (X:Cx) (pins:List (Addr × Obj)) (H:Hp) (C:Addr):Prop where
 no:H C=none
 ne:C≠X.env.locals
 yg:X.s₀.heap.objs.size≤C
 cl:∀ x c,X.env.cells.lookup x=some c→c≠C
 pn:∀ p∈X.pn++pins,p.1≠C
theorem Inv.gone {X:Cx} {pins:List (Addr × Obj)} {σ:St} {H:Hp} {s:Shared} {C:Addr} {h':Heap} (I:Inv X pins σ H s) (g:Gone X pins H C) (hs:Heap.SameBut C s.heap h'):Inv X pins σ H { s with heap:=h' } :=
 I.turned (t':=s.toks) (it:=C) (fun b o hb e=>hs.extBut b o hb e) g.no g.ne (.inr g.yg) g.cl g.pn
structure Back (X Y:Cx) (pins:List (Addr × Obj)) (σ:St) (fp:List Addr) (C:Addr) (s3:Shared) (H3:Hp):Prop where
 i0:Inv X pins σ H3 s3
 fp:∀ b∈fp,(b∈X.ex∨X.s₀.heap.objs.size≤b)∧b≠X.env.locals∧(∀ x c,X.env.cells.lookup x=some c→c≠b)∧∀ p∈X.pn++pins,p.1≠b
 inv:∀ (pins':List (Addr × Obj)) (σ':St) (H':Hp) (s':Shared),Inv Y pins' σ' H' s'→Inv X pins σ H' s'∧Gone X pins H' C
theorem a4e {X:Cx} {elt tg iter:Expr} {cs:List Expr} {scope:Scope} {pos:Pos} {wi:TI} {g:TG} {tc:TT} {te:TE} {xs M:List Str} {use:Option (Value→Sem Unit)} {RR:Value→Shared→Prop} (hc:X.calm=true) (S:a0l scope X.env X.N M) (hi:PI X tg iter wi)
  (hin:∀ (cl:List (Str × Addr)) (C:Addr) (s0:Shared) (H0:Hp) (fp:List Addr) (pins:List (Addr × Obj)) (σ:St),Back X (cxC X scope cl C s0 H0 fp (xs++M)) pins σ fp C s0 H0→PG (cxC X scope cl C s0 H0 fp (xs++M)) tg g∧PTs (cxC X scope cl C s0 H0 fp (xs++M)) cs tc∧PE (cxC X scope cl C s0 H0 fp (xs++M)) elt te)
  (hg:∀ v σ H Q,g v (List.replicate xs.length none++σ) H Q→g v (List.replicate xs.length none++σ) H fun σ2 H2=>(∃ l:St,l.length=xs.length∧σ2=l++σ)∧Q σ2 H2)
  (hs:∀ x,foldedSetIterable iter X.env x=pure x) (pins:List (Addr × Obj)) (s:Shared) (σ:St) (H:Hp) (Q:VK) (I:Inv X pins σ H s) (h:a6B xs.length wi g tc te σ H Q)
  (fin:∀ (d C:Addr) (s6:Shared) (H6:Hp) (m:Str→Option Value),Q (.ref d) H6→Inv X pins σ H6 s6→s6.heap.Ns C m→Gone X pins H6 C→compPost (model X.prog X.w) X.A X.xe use RR (.ref d) C (.ok .next) s6) :
  wpAny (model X.prog X.w) X.A (comprehension (.ListComp elt [⟨tg,iter,cs,0⟩] scope pos) scope X.env (firstIterPos [⟨tg,iter,cs,0⟩] pos) (newList []) false (eval iter X.env) use) RR X.xe s:=by
 obtain ⟨cl,hcl,cl1,cl2⟩:=a6A (scope:=scope) (en:=X.env) fun y hy=>I.ok.has y (S.free y hy)
 refine wpAny_comprehension_free (use:=use) rfl hs hcl S.kind S.locs (thn (hi pins s σ H _ I h) fun v s1 h1=>thn h1 fun itv s2 h2=>?_)
 obtain ⟨it,fp,tn,J,H2,e,I2,T,st2,f2,h3⟩:=h2
 subst e
 have hf:H2 s2.heap.objs.size=none:=I2.fresh
 obtain ⟨W,⟨m0,w0⟩,turn⟩:=h3 _ hf
 refine wpAny_newObj_type (wpAny_newFunctionEnv S.nocell (by intro y hy;simp at hy) (fun h4 hns hsb=>?_) S.kind)
 have I3:Inv X pins σ (upd H2 s2.heap.objs.size (.lst [])) { s2 with heap:=s2.heap.push { cls:=.type "list",data:=.seq ([]:List Value).toArray } }:=I2.lnew (ys:=[]) (its:=[]) (t':=s2.toks) .nil (Nat.zero_le _)
 generalize hs3:({ s2 with heap:=s2.heap.push { cls:=.type "list",data:=.seq ([]:List Value).toArray } }:Shared)=s3 at I3
 generalize hH3:upd H2 s2.heap.objs.size (.lst [])=H3 at I3 w0
 have e3:s2.heap.push { cls:=.type "list",dict:=none,data:=.seq ([]:List Value).toArray }=s3.heap:=by rw [←hs3]
 dsimp only at hns hsb ⊢
 rw [e3] at hns hsb
 have old:∀ b o,s3.heap.get? b=some o→h4.get? b=some o:=fun b o e=>hsb.extBut b o (Nat.ne_of_lt (Heap.lt_size e)) (Heap.get?_push_of_some _ e)
 have keep2:∀ b o,s2.heap.get? b=some o→s3.heap.get? b=some o:=fun b o e=>by rw [←e3];exact Heap.get?_push_of_some _ e
 have lt3:∀ b∈fp,b < s3.heap.objs.size:=fun b hb=>by
  obtain ⟨o,e,_⟩:=T.obj _ _ st2 b hb
  exact Heap.lt_size (keep2 b o e)
 have n3:∀ b∈fp,H3 b=none:=fun b hb=>by
  obtain ⟨o,e,_⟩:=T.obj _ _ st2 b hb
  rw [←hH3,a0i (Nat.ne_of_lt (Heap.lt_size e))]
  exact (f2 b hb).1
 have st4:tn 0 h4:=T.keep _ _ _ st2 fun b _ o e=>old b o (keep2 b o e)
 let Y:Cx:=cxC X scope cl s3.heap.objs.size s3 H3 fp (xs++M)
 have relab:∀ y,((relabel scope X.env).names.lookup y=some .cell∨(relabel scope X.env).names.lookup y=some .free)→∃ c,cl.lookup y=some c:=fun y hy=>cl2 y (S.relab y hy)
 have Yok:Y.Ok:=by
  refine ⟨I3.ok.mod,S.kind,I3.ok.glob,I3.ok.blt,Nat.le_refl _,fun y z c h1 h2=>I3.ok.inj y z c (cl1 y c h1) (cl1 z c h2),fun y hy=>relab y hy,fun _ _ h _=>absurd (show false=true from h) (by decide),I3.ok.hd,I3.ok.frames,.inl rfl,
   fun b hb=>⟨Nat.ne_of_lt (lt3 b hb),fun y c e=>(f2 b hb).2.2.2.2.1 y c (cl1 y c e)⟩,I3.bs,Nat.le_trans I3.ok.bsz I3.sz,fun b o e hb=>?_,fun b hb z=>?_,I3.stack,I3.stkFree⟩
  ·rcases (f2 b hb).2.2.2.1 with z | z
   ·exact I3.ok.noex b o e z
   ·exact absurd (Nat.lt_of_lt_of_le (Heap.lt_size e) (Nat.le_trans I3.ok.bsz z)) (Nat.lt_irrefl _)
  ·rcases List.mem_cons.mp (I3.stkSub b z) with z | z
   ·exact (f2 b hb).2.1 z
   ·exact (f2 b hb).2.2.1 z
 have cells4:∀ y c,cl.lookup y=some c→∀ v,s3.heap.IsCell c v→h4.IsCell c v:=fun y c _ v ⟨o,ho,hd⟩=>⟨o,old c o ho,hd⟩
 have IY:∀ t',Inv Y [] (List.replicate xs.length none++σ) H3 { s3 with heap:=h4,toks:=t' }:=fun t'=>by
  refine ⟨Yok,rfl,I3.bare,Un.kept old,⟨_,hns,fun i y v e1 e2 e3=>?_⟩,fun y c e=>?_,I3.hok.fresh (Nat.le_refl _),fun y c e=>I3.freeC y c (cl1 y c e),fun p hp=>absurd (show p∈([]:List (Addr × Obj)) from hp) (by simp),I3.hok.kept old,?_⟩
  ·by_cases hi:i < xs.length
   ·rw [List.getElem?_append_left (by simpa using hi),List.getElem?_replicate] at e2
    split at e2 <;> cases e2
   ·obtain ⟨j,rfl⟩:∃ j,i=xs.length+j:=⟨i - xs.length,by omega⟩
    have e1':M[j]?=some y:=by
     have q:(xs++M)[xs.length+j]?=some y:=e1
     rw [List.getElem?_append_right (Nat.le_add_right _ _)] at q
     simpa using q
    have e2':σ[j]?=some (some v):=by
     rw [List.getElem?_append_right (by simp)] at e2
     simpa using e2
    obtain ⟨a1,a2,a3⟩:=S.same j y e1' e3
    have vis:Vis X.env.scope y:=by
     rcases S.free y a2 with z | z
     ·exact .inr (.inl z)
     ·exact .inr (.inr z)
    obtain ⟨m,_,hl⟩:=I3.loc
    obtain ⟨u,r,l⟩:=hl j y v a1 e2' vis
    refine ⟨u,r,?_⟩
    have kk:Y.env.kindOf y=some .cell∨Y.env.kindOf y=some .free:=by
     rcases e3 with z | z | z
     ·exact absurd z a3
     ·exact .inl z
     ·exact .inr z
    rcases l with ⟨k1,_⟩ | ⟨_,c,ec,ic⟩
    ·rcases S.free y a2 with z | z
     ·rw [z] at k1;cases k1
     ·rw [z] at k1;cases k1
    ·obtain ⟨c',ec'⟩:=cl2 y a2
     have:=cl1 y c' ec'
     rw [ec] at this
     cases this
     exact .inr ⟨kk,c,ec',cells4 y c ec' _ ic⟩
  ·obtain ⟨v,z⟩:=I3.cell y c (cl1 y c e)
   exact ⟨v,cells4 y c e v z⟩
  ·show (List.replicate xs.length none++σ).length=(xs++M).length
   rw [List.length_append,List.length_append,List.length_replicate,S.len,I3.len]
 have stat:∀ {pl:List (Addr × Obj)} {H':Hp},(∀ p∈pl,p.1∉fp)→(∀ b∈fp,H' b=none)→∀ b∈fp,a8Z Y pl H' b:=fun hp hn b hb =>
  ⟨hn b hb,Nat.ne_of_lt (lt3 b hb),Yok.exfs b hb,.inl hb,fun y c e=>(f2 b hb).2.2.2.2.1 y c (cl1 y c e),fun p hp' z=>hp p (by simpa [Y,cxC] using hp') (z▸hb)⟩
 have bk:Back X Y pins σ fp s3.heap.objs.size s3 H3:=by
  refine ⟨I3,fun b hb=>⟨(f2 b hb).2.2.2.1,(f2 b hb).2.1,(f2 b hb).2.2.2.2.1,(f2 b hb).2.2.2.2.2⟩,fun pins' σ' H' s' J=>⟨?_,?_⟩⟩
  ·exact I3.call' (ch:=fp) J.os J.base J.hok J.bare fun b hb=>⟨(f2 b hb).2.2.2.1,(f2 b hb).2.1,(f2 b hb).2.2.2.2.1,(f2 b hb).2.2.2.2.2⟩
  ·refine ⟨J.free,Nat.ne_of_gt I3.lt,I3.sz,fun y c e z=>?_,fun p hp z=>?_⟩
   ·obtain ⟨v,q⟩:=I3.cell y c e
    have:=q.lt
    rw [z] at this
    exact Nat.lt_irrefl _ this
   ·have:=Heap.lt_size (I3.pin p hp).1
    rw [z] at this
    exact Nat.lt_irrefl _ this
 obtain ⟨hG,hT,hE⟩:=hin cl s3.heap.objs.size s3 H3 fp pins σ bk
 have loop:∀ t',codeAny (model X.prog X.w) X.A (.compLoop (.ListComp elt [⟨tg,iter,cs,0⟩] scope pos) 0 (.ref it) (.ref s2.heap.objs.size) Y.env) (compPost (model X.prog X.w) X.A X.xe use RR (.ref s2.heap.objs.size) s3.heap.objs.size) { s3 with heap:=h4,toks:=t' }:=by
  intro t'
  refine a6z (EE:=Y.xe) (by cases use <;> rfl) (fun n s'=>∃ i H',Inv Y [] (List.replicate xs.length none++σ) H' s'∧tn i s'.heap∧(∀ b∈fp,H' b=none)∧W i n H') ?_ m0 ⟨0,H3,IY t',st4,n3,w0⟩
  rintro n s5 ⟨i,H5,I5,st5,fr5,w5⟩
  rcases turn i n H5 w5 with ⟨stop,qn⟩ | ⟨go,N,hN,step⟩
  ·refine thn (T.done Y rfl rfl rfl hc i [] s5 (List.replicate xs.length none++σ) H5 _ I5 (stat (by simp) fr5) st5 stop) fun r s6 ⟨hr,I6⟩=>?_
   subst hr
   obtain ⟨m6,hn6,_⟩:=I6.loc
   have I8:Inv X pins σ H5 s6:=I3.call' (ch:=fp) I6.os I6.base I6.hok I6.bare fun b hb=>⟨(f2 b hb).2.2.2.1,(f2 b hb).2.1,(f2 b hb).2.2.2.2.1,(f2 b hb).2.2.2.2.2⟩
   have lt8:X.env.locals < s3.heap.objs.size:=I3.lt
   refine fin _ _ s6 H5 m6 qn I8 hn6 ⟨I6.free,Nat.ne_of_gt lt8,I3.sz,fun y c e z=>?_,fun p hp z=>?_⟩
   ·obtain ⟨v,q⟩:=I3.cell y c e
    have:=q.lt
    rw [z] at this
    exact Nat.lt_irrefl _ this
   ·have:=Heap.lt_size (I3.pin p hp).1
    rw [z] at this
    exact Nat.lt_irrefl _ this
  ·refine thn (T.item Y rfl rfl rfl hc i [] s5 (List.replicate xs.length none++σ) H5 _ I5 (stat (by simp) fr5) st5 go) fun r s6 ⟨u,hr,h6⟩=>?_
   subst hr
   refine thn h6 fun _ s7 ⟨x7,H7,I7,r7,y7,st7,fr7⟩=>?_
   have I7':=I7.pinned (stat (by simp) fr7) (T.obj _ _ st7)
   have again:∀ {σ8:St} {H8:Hp} {s8:Shared},(∃ l:St,l.length=xs.length∧σ8=l++σ)→Inv Y ([]++a4H fp s7.heap) σ8 H8 s8→N H8→∃ m,m < n∧∃ i H',Inv Y [] (List.replicate xs.length none++σ) H' s8∧tn i s8.heap∧(∀ b∈fp,H' b=none)∧W i m H':=fun {σ8 H8 s8} l8 I8 n8=>by
    obtain ⟨m',hm,w8⟩:=hN H8 n8
    obtain ⟨l,ll,rfl⟩:=l8
    have pin8:∀ b∈fp,∀ o,s7.heap.get? b=some o→s8.heap.get? b=some o∧H8 b=none:=fun b hb o e=>by
     have z:=I8.pin (b,o) (List.mem_append_right _ (List.mem_append_right _ (a2z hb e)))
     exact ⟨z.1,z.2.1⟩
    refine ⟨m',hm,i+1,H8,I8.unpinned.weak (by simp [ll]) (fun j v e=>?_),T.keep _ _ _ st7 fun b hb o e=>(pin8 b hb o e).1,fun b hb=>?_,w8⟩
    ·by_cases hj:j < xs.length
     ·rw [List.getElem?_append_left (by simpa using hj),List.getElem?_replicate] at e
      split at e <;> cases e
     ·rw [List.getElem?_append_right (by simpa using hj)] at e
      rw [List.getElem?_append_right (by omega),ll]
      simpa using e
    ·obtain ⟨o,e,_⟩:=T.obj _ _ st7 b hb
     exact (pin8 b hb o e).2
   refine thn (hG _ s7 (List.replicate xs.length none++σ) H7 x7 u _ I7' r7 (hg _ _ _ _ (step x7 H7 y7))) fun _ s8 ⟨σ8,H8,I8,l8,q8⟩=>?_
   refine thn (hT _ s8 σ8 H8 _ I8 q8) fun ok s9 ⟨H9,I9,q9⟩=>?_
   cases ok with
   | false=>exact again l8 I9 q9
   | true =>
    refine thn (hE _ s9 σ8 H9 _ I9 q9) fun y s10 ⟨y10,H10,I10,r10,ys,hd,hl,n10⟩=>?_
    refine thn (a2p _ s10 σ8 H10 (.ref s2.heap.objs.size) [y10] (.ref s2.heap.objs.size) [y] (fun _ H'=>N H') I10 rfl (.cons r10 .nil) ⟨_,ys,y10,rfl,rfl,hd,hl,n10⟩) fun _ s11 ⟨_,H11,I11,_,n11⟩=>?_
    exact again l8 I11 n11
 refine codeAny_compStart_list (loop _) (T.self _ 0 _ _ _ st4 (loop _))
theorem b1x {X:Cx} {elt tg iter:Expr} {cs:List Expr} {scope:Scope} {pos:Pos} {wi:TI} {g:TG} {tc:TT} {te:TE} {xs M:List Str} (hc:X.calm=true) (S:a0l scope X.env X.N M) (hi:PI X tg iter wi)
  (hin:∀ (cl:List (Str × Addr)) (C:Addr) (s0:Shared) (H0:Hp) (fp:List Addr),PG (cxC X scope cl C s0 H0 fp (xs++M)) tg g∧PTs (cxC X scope cl C s0 H0 fp (xs++M)) cs tc∧PE (cxC X scope cl C s0 H0 fp (xs++M)) elt te)
  (hg:∀ v σ H Q,g v (List.replicate xs.length none++σ) H Q→g v (List.replicate xs.length none++σ) H fun σ2 H2=>(∃ l:St,l.length=xs.length∧σ2=l++σ)∧Q σ2 H2)
  (hs:∀ x,foldedSetIterable iter X.env x=pure x:=by intro _;rfl):PE X (.ListComp elt [⟨tg,iter,cs,0⟩] scope pos) (a6B xs.length wi g tc te):=by
 intro pins s σ H Q I h
 rw [eval_ListComp]
 exact a4e (use:=none) hc S hi (fun cl C s0 H0 fp _ _ _=>hin cl C s0 H0 fp) hg hs pins s σ H Q I h fun d C s6 H6 m q I6 hn gn=>⟨m,hn,fun h' hs'=>⟨.ref d,H6,I6.gone gn hs',rfl,q⟩⟩
theorem b1y {X:Cx} {elt tg iter:Expr} {cs:List Expr} {scope:Scope} {pos pos' spos:Pos} {wi:TI} {g:TG} {tc:TT} {te:TE} {xs M:List Str} {i:Nat} {x:Str} (hc:X.calm=true) (S:a0l scope X.env X.N M) (hi:PI X tg iter wi)
  (hin:∀ (cl:List (Str × Addr)) (C:Addr) (s0:Shared) (H0:Hp) (fp:List Addr),PG (cxC X scope cl C s0 H0 fp (xs++M)) tg g∧PTs (cxC X scope cl C s0 H0 fp (xs++M)) cs tc∧PE (cxC X scope cl C s0 H0 fp (xs++M)) elt te)
  (hg:∀ v σ H Q,g v (List.replicate xs.length none++σ) H Q→g v (List.replicate xs.length none++σ) H fun σ2 H2=>(∃ l:St,l.length=xs.length∧σ2=l++σ)∧Q σ2 H2)
  (hN:X.N.Nodup) (hix:X.N[i]?=some x) (hx:X.env.scope.names.lookup x=some .local) (hw:swapsWith (.ListComp elt [⟨tg,iter,cs,0⟩] scope pos) (some (.Name x pos')) spos.line X.env=pure true)
  (hs:∀ x,foldedSetIterable iter X.env x=pure x:=by intro _;rfl):PS X (.Assign [.Name x pos'] (.ListComp elt [⟨tg,iter,cs,0⟩] scope pos) spos) (tAsg (a6B xs.length wi g tc te) (a1Z i)):=by
 intro pins s σ H D I h
 rw [exec_Assign_Name_used _ _ _ _ hw]
 refine wpAny_bind (wpAny_standAt (wpAny_bind ?_))
 show wpAny _ X.A (comprehension (.ListComp elt [⟨tg,iter,cs,0⟩] scope pos) scope X.env _ (newList []) false (eval iter X.env) (some (assign (.Name x pos') X.env)) >>= fun _=>pure ()) _ _ s
 refine wpAny_bind (thn (a4e (use:=some (assign (.Name x pos') X.env)) (RR:=fun _ s'=>SP X pins D .next s') hc S hi (fun cl C s0 H0 fp _ _ _=>hin cl C s0 H0 fp) hg hs pins s σ H _ I h fun d C s6 H6 m q I6 hn gn=>?_) fun _ s' hq=>wpAny_pure (wpAny_pure hq))
 show wpAny _ X.A (assign (.Name x pos') X.env (.ref d)) _ _ s6
 refine wpAny_assign_Name (a4D I6 hN hix (.inl hx) (v:=.ref d) rfl (fun s7 I7 ch=>?_) (.inr hx))
 obtain ⟨a,hsb,ha⟩:=ch
 have ne:C≠a:=by
  rcases ha with z | z
  ·rw [z];exact gn.ne
  ·exact fun z'=>gn.cl x a z z'.symm
 exact ⟨m,hn.sameBut hsb ne,fun h' hs'=>⟨_,H6,I7.gone gn hs',q⟩⟩
theorem a9r {X:Cx} {elt tg iter:Expr} {cs:List Expr} {scope:Scope} {pos:Pos} {wi:TI} {g:TG} {tc:TT} {te:TE} {xs M:List Str} (hc:X.calm=true) (S:a0l scope X.env X.N M) (hi:PI X tg iter wi)
  (hin:∀ (cl:List (Str × Addr)) (C:Addr) (s0:Shared) (H0:Hp) (fp:List Addr) (pins:List (Addr × Obj)) (σ:St),Back X (cxC X scope cl C s0 H0 fp (xs++M)) pins σ fp C s0 H0→PG (cxC X scope cl C s0 H0 fp (xs++M)) tg g∧PTs (cxC X scope cl C s0 H0 fp (xs++M)) cs tc∧PE (cxC X scope cl C s0 H0 fp (xs++M)) elt te)
  (hg:∀ v σ H Q,g v (List.replicate xs.length none++σ) H Q→g v (List.replicate xs.length none++σ) H fun σ2 H2=>(∃ l:St,l.length=xs.length∧σ2=l++σ)∧Q σ2 H2)
  (hs:∀ x,foldedSetIterable iter X.env x=pure x:=by intro _;rfl):PE X (.ListComp elt [⟨tg,iter,cs,0⟩] scope pos) (a6B xs.length wi g tc te):=by
 intro pins s σ H Q I h
 rw [eval_ListComp]
 exact a4e (use:=none) hc S hi hin hg hs pins s σ H Q I h fun d C s6 H6 m q I6 hn gn=>⟨m,hn,fun h' hs'=>⟨.ref d,H6,I6.gone gn hs',rfl,q⟩⟩
structure EqK {α:Type} [DecidableEq α] (H:Hp) (s:Shared) (n:Nat) (R:V→α→Prop):Prop where
 inj:∀ x a b,R x a→R x b→a=b
 eq:∀ (A:Around) (x y:V) (a b:α) (u v:Value),A.units+n < cLine→R x a→R y b→a1a x u→a1a y v→SeqAt.EqAt A s u v (decide (a=b))
def a8V (x:V) (i:Int):Prop:=x=.int i
def RTup {α:Type} (H:Hp) (R:V→α→Prop) (x:V) (ds:List α):Prop:=∃ a xs,x=.ref a∧H a=some (.tup xs)∧Paired R xs ds
theorem all_eq {α:Type} [DecidableEq α]:∀ (as bs:List α) (e:Nat→Bool),(∀ j x y,as[j]?=some x→bs[j]?=some y→e j=decide (x=y)) →
  ((List.range (min as.length bs.length)).all e && as.length == bs.length)=decide (as=bs):=by
 intro as bs e h
 rw [Bool.eq_iff_iff]
 simp only [Bool.and_eq_true,List.all_eq_true,List.mem_range,beq_iff_eq,decide_eq_true_eq]
 constructor
 ·rintro ⟨h1,h2⟩
  refine List.ext_getElem? fun j=>?_
  by_cases hj:j < as.length
  ·have e1:as[j]?=some as[j]:=List.getElem?_eq_getElem hj
   have e2:bs[j]?=some (bs[j]'(by omega)):=List.getElem?_eq_getElem (by omega)
   have q:=h1 j (by omega)
   rw [h j _ _ e1 e2] at q
   rw [e1,e2,of_decide_eq_true q]
  ·rw [List.getElem?_eq_none (by omega),List.getElem?_eq_none (by omega)]
 ·rintro rfl
  refine ⟨fun j hj=>?_,rfl⟩
  have hj:j < as.length:=by omega
  have e1:as[j]?=some as[j]:=List.getElem?_eq_getElem hj
  rw [h j _ _ e1 e1]
  simp
theorem Paired.right_of {α β:Type} {R:α→β→Prop}:∀ {xs:List α} {ds:List β},Paired R xs ds→∀ (j:Nat) (x:α),xs[j]?=some x→∃ d,ds[j]?=some d∧R x d
 | _,_,.nil,j,x,e=>by simp at e
 | _,_,.cons r t,0,x,e=>by simp at e;subst e;exact ⟨_,rfl,r⟩
 | _,_,.cons r t,j+1,x,e=>by
  obtain ⟨d,e1,e2⟩:=Paired.right_of t j x (by simpa using e)
  exact ⟨d,by simpa using e1,e2⟩
theorem Paired.ints:∀ ns:List Int,Paired a8V (ns.map V.int) ns
 | []=>.nil
 | n :: ns=>.cons rfl (Paired.ints ns)
theorem Paired.ofInts:∀ {xs:List V} {ns:List Int},Paired a8V xs ns→xs=ns.map V.int
 | _,_,.nil=>rfl
 | _,_,.cons r t=>by rw [show _=_ from r,Paired.ofInts t];rfl
theorem a3g {H:Hp} {a:Addr} {ns:List Int} (h:H a=some (.tup (ns.map V.int))):RTup H a8V (.ref a) ns:=⟨a,_,rfl,h,Paired.ints ns⟩
section
variable {α:Type} [DecidableEq α] {P:Program} {w:World} {H:Hp} {s:Shared} {n:Nat} {R:V→α→Prop} {A:Around}
theorem EqK.int:EqK H s n a8V:=⟨fun x a b h1 h2=>by unfold a8V at *;rw [h1] at h2;cases h2;rfl,fun A x y a b u v _ h1 h2 r1 r2=>by
 unfold a8V at *
 subst h1 h2
 obtain ⟨t,rfl⟩:=r1
 obtain ⟨t',rfl⟩:=r2
 have q:=SeqAt.EqAt.int_int (A:=A) (s:=s) a t b t'
 rw [Bool.beq_eq_decide_eq] at q
 exact q⟩
theorem a5P (K:EqK H s n R) {xs ys:List V} {ds es:List α} {its its2:List Value} (p1:Paired R xs ds) (p2:Paired R ys es) (v1:a0O xs its) (v2:a0O ys its2) (hA:A.units+n < cLine) :
  ∃ e:Nat→Bool,(∀ j (h1:j < its.toArray.size) (h2:j < its2.toArray.size),SeqAt.EqAt A s its.toArray[j] its2.toArray[j] (e j))∧((List.range (min its.toArray.size its2.toArray.size)).all e && its.toArray.size == its2.toArray.size)=decide (ds=es):=by
 have l1:its.toArray.size=ds.length:=by rw [List.size_toArray,←v1.length];exact p1.length
 have l2:its2.toArray.size=es.length:=by rw [List.size_toArray,←v2.length];exact p2.length
 refine ⟨fun j=>match ds[j]?,es[j]? with | some d,some e=>decide (d=e) | _,_=>true,fun j h1 h2=>?_,?_⟩
 ·have hx:xs[j]?=some (xs[j]'(by rw [v1.length];simpa using h1)):=List.getElem?_eq_getElem _
  have hy:ys[j]?=some (ys[j]'(by rw [v2.length];simpa using h2)):=List.getElem?_eq_getElem _
  obtain ⟨d,e1,r1⟩:=Paired.right_of p1 j _ hx
  obtain ⟨e,e2,r2⟩:=Paired.right_of p2 j _ hy
  obtain ⟨u,e3,r3⟩:=v1.get hx
  obtain ⟨v,e4,r4⟩:=v2.get hy
  have q3:its.toArray[j]=u:=by
   have:=(List.getElem?_eq_some_iff.mp e3).2
   simpa using this
  have q4:its2.toArray[j]=v:=by
   have:=(List.getElem?_eq_some_iff.mp e4).2
   simpa using this
  simp only [e1,e2,q3,q4]
  exact K.eq A _ _ d e u v hA r1 r2 r3 r4
 ·rw [l1,l2]
  exact all_eq ds es _ fun j x y h1 h2=>by simp only [h1,h2]
theorem b1z (K:EqK H s n R) (ok:HOk P w H s.heap) {a b:Addr} {xs ys:List V} {ds es:List α} (ha:H a=some (.tup xs)) (hb:H b=some (.tup ys)) (p1:Paired R xs ds) (p2:Paired R ys es) (hA:A.units+(n+1) < cLine) :
  SeqAt.RcAt A s (.ref a) (.ref b) (decide (ds=es)):=by
 obtain ⟨_,its,v1,t1⟩:=ok a _ ha
 obtain ⟨_,its2,v2,t2⟩:=ok b _ hb
 obtain ⟨e,h1,h2⟩:=a5P (A:=A.in1) K p1 p2 v1 v2 (by show A.units+1+n < cLine;omega)
 rw [←h2]
 exact SeqAt.RcAt.tuples t1 t2 (by omega) h1
theorem a2c {h:Heap} {a:Addr} {its:List Value} {k:Nat} (e:h.get? a=some { cls:=.type "list",data:=.seq its.toArray k }):h.IsList a its.toArray:=⟨_,e,rfl,_,rfl⟩
theorem b1A (K:EqK H s n R) (ok:HOk P w H s.heap) {a b:Addr} {xs ys:List V} {ds es:List α} (ha:H a=some (.lst xs)) (hb:H b=some (.lst ys)) (p1:Paired R xs ds) (p2:Paired R ys es) (hA:A.units+(n+1) < cLine) :
  SeqAt.RcAt A s (.ref a) (.ref b) (decide (ds=es)):=by
 obtain ⟨_,its,k1,v1,t1⟩:=ok a _ ha
 obtain ⟨_,its2,k2,v2,t2⟩:=ok b _ hb
 obtain ⟨e,h1,h2⟩:=a5P (A:=A.in1) K p1 p2 v1 v2 (by show A.units+1+n < cLine;omega)
 by_cases hz:its.toArray.size=its2.toArray.size
 ·have q:=SeqAt.RcAt.lists (a2c t1) (a2c t2) hz (show A.units < cLine by omega) h1
  have z:(List.range its.toArray.size).all e=decide (ds=es):=by
   rw [←h2,←hz]
   simp
  rw [z] at q
  exact q
 ·have q:=SeqAt.RcAt.lists_lengths (A:=A) (a2c t1) (a2c t2) (by simpa using hz) (show A.units < cLine by omega)
  have z:false=decide (ds=es):=by
   rw [←h2]
   have:(its.toArray.size == its2.toArray.size)=false:=by simpa using hz
   rw [this,Bool.and_false]
  rw [z] at q
  exact q
end
section
variable {X:Cx} {α:Type} [DecidableEq α]
def rEqTI:R2:=fun x y H Q=>∃ ns ms,RTup H a8V x ns∧RTup H a8V y ms∧Q (.bl (decide (ns=ms))) H
theorem b1B (hu:X.A.units+4 < cLine):OpR X (compareOp .Eq) rEqTI:=by
 intro pins s σ H x y v u Q I rx ry h
 obtain ⟨ns,ms,⟨a,xs,rfl,e1,p1⟩,⟨b,ys,rfl,e2,p2⟩,q⟩:=h
 cases rx;cases ry
 exact b1z (A:=X.A) (n:=0) EqK.int I.hok e1 e2 p1 p2 (by omega) _ _ _ _ ⟨.bl _,H,I,rfl,q⟩
end
def rSlG:V→Option Int→Option Int→Hp→VK→Prop:=fun x lo hi H Q=>∃ a xs,x=.ref a∧H a=some (.tup xs)∧∀ p H',a0C H H'→H' p=some (.tup (a9p xs lo hi))→Q (.ref p) H'
theorem sixAll {n:Nat} {α:Type} (xs:List α) (lo hi:Option Int) (h1:HT.sIx xs.length 0 lo=0) (h2:HT.sIx xs.length xs.length hi=xs.length):(xs.drop (HT.sIx xs.length 0 lo)).take (HT.sIx xs.length xs.length hi - HT.sIx xs.length 0 lo)=xs:=by
 rw [h1,h2];simp
theorem a0h {H:Hp} {p:Addr} (h:H p=none) (o:HO):a0C H (upd H p o):=fun b u q=>by rw [a0i (a1b q h)];exact q
theorem a5p {prog:Program} {w:World} {A:Around} {E:Value→Shared→Prop} {s:Shared} {t sl:Addr} {items:Array Value} {vl vu:Value} {lo hi:Option Int} {Q:Value→Shared→Prop} (ht:IsTup s.heap t items) (hs:s.heap.IsSliceOf sl vl vu .none) (pl:IsPart vl lo) (pu:IsPart vu hi)
  (h1:HT.sIx items.size 0 lo=0) (h2:HT.sIx items.size items.size hi=items.size) (h:Q (.ref t) s):wpAny (model prog w) A (getItem (.ref t) (.ref sl)) Q E s:=by
 obtain ⟨os,hos,hcs,hds⟩:=id hs
 have hTs:s.TypeIs (.ref sl) "slice":=⟨os,hos,hcs⟩
 unfold getItem
 try with_reducible refine wpAny_holding ?_
 first | refine wpAny_bind (wpAny_pure ?_) | skip
 refine wpAny_bind (wpAny_sequenceKey ht.typeIs (by decide) ?_)
 refine wpAny_bind (wpAny_callSpecial?_slot (name:=Str.ofString "__getitem__") ht.typeIs PyProof.Rows.slot_tuple_getitem
  (wpAny_call_entry PyProof.Rows.slot_tuple_getitem ht.typeIs entry_tuple_getitem ?_ (args_tuple_getitem _ _)))
 show wpAny _ _ (Builtin.Tuple.tupleItemsOf (.ref t) >>= _) _ _ s
 refine wpAny_bind (tupleItemsOf_ ht ?_)
 refine wpAny_bind (wpAny_typeOf hTs ?_)
 rw [if_pos (by decide)]
 refine wpAny_bind (HT.a1L hs pl pu ?_)
 rw [h1,h2]
 show wpAny _ _ (if (((0:Nat):Int) == 0 && (1:Int) == 1 && (items.size - 0) == items.size)=true then _ else _) _ _ s
 rw [if_pos (by simp)]
 unfold Builtin.Tuple.tupleIsExact
 refine wpAny_bind (wpAny_bind (wpAny_typeOf ht.typeIs (wpAny_pure ?_)))
 rw [if_pos (by decide)]
 first
  | exact wpAny_bind (wpAny_rule (wpAny_bind (wpAny_pure (wpAny_pure ⟨_,rfl,wpAny_pure h⟩))))
  | exact wpAny_bind (wpAny_rule (wpAny_pure ⟨_,rfl,wpAny_pure h⟩))
  | exact wpAny_bind (wpAny_bind (wpAny_rule (wpAny_pure ⟨_,rfl,wpAny_pure h⟩)))
theorem b1C {X:Cx}:SlR X rSlG:=by
 intro pins s σ H x v vl vu lo hi sl Q I rx hs pl pu h
 obtain ⟨a,xs,rfl,hx,q⟩:=h
 by_cases hw:HT.sIx xs.length 0 lo=0∧HT.sIx xs.length xs.length hi=xs.length
 ·cases rx
  obtain ⟨hz,its,r,ht⟩:=I.hok a _ hx
  have hlen:its.toArray.size=xs.length:=by rw [List.size_toArray];exact r.length.symm
  refine ⟨"tuple",_,PyProof.Rows.slot_tuple_getitem.lookup,(a4B.is ht).typeIs,?_⟩
  refine a5p (a4B.is ht) hs pl pu (by rw [hlen];exact hw.1) (by rw [hlen];exact hw.2) ⟨.ref a,H,I,rfl,q a H (a0C.refl H) ?_⟩
  unfold a9p
  rw [sixAll (n:=0) xs lo hi hw.1 hw.2]
  exact hx
 ·exact sl_tup pins s σ H (.ref a) v vl vu lo hi sl Q I rx hs pl pu ⟨a,xs,rfl,.inl (.inl hx),hw,fun p hp=>q p _ (a0h hp _) a0d⟩
def rCatG:R2:=fun x y H Q=>∃ a b xs ys,x=.ref a∧y=.ref b∧H a=some (.tup xs)∧H b=some (.tup ys)∧xs.length+ys.length≤sizeLine∧∀ p H',a0C H H'→H' p=some (.tup (xs++ys))→Q (.ref p) H'
theorem a7v {X:Cx}:OpR X (binaryOp .Add) rCatG:=by
 intro pins s σ H x y v u Q I rx ry h
 obtain ⟨a,b,xs,ys,rfl,rfl,ha,hb,hz,q⟩:=h
 by_cases hx:xs=[]
 ·subst hx
  cases rx;cases ry
  obtain ⟨_,its,r1,p1⟩:=I.hok a _ ha
  obtain ⟨_,its2,r2,p2⟩:=I.hok b _ hb
  have e0:its=[]:=r1.nil_iff.mpr rfl
  subst e0
  obtain ⟨⟨cls,dd,data,sl⟩,ho,hc,n,hd⟩:=id (a4B.is p1)
  obtain ⟨⟨cls2,dd2,data2,sl2⟩,ho2,hc2,n2,hd2⟩:=id (a4B.is p2)
  simp only at hc hd hc2 hd2
  subst hc hd hc2 hd2
  exact concat_meets ⟨_,ho,rfl⟩ ⟨_,ho2,rfl⟩ noFill_tuple_add seq_tuple_add PySem.F.slot_tuple_add PySem.F.entry_tuple_add (PySem.F.args_tuple_add_2 _ _)
   (tuple_addW0 a b ([]:List Value).toArray its2.toArray n n2 dd dd2 sl sl2 (by simp)) ⟨ho,ho2,⟨.ref b,H,I,rfl,q b H (a0C.refl H) (by simpa using hb)⟩⟩
 ·exact b1r pins s σ H (.ref a) (.ref b) v u Q I rx ry ⟨a,b,xs,ys,rfl,rfl,.inl (.inl ha),.inl (.inl hb),hx,hz,fun z=>q a H (a0C.refl H) (by rw [z,List.append_nil];exact ha),fun _ p hp=>q p _ (a0h hp _) a0d⟩
def rAll:List V→Hp→VK→Prop:=fun xs H Q=>∃ (a:Addr) (bs:List Bool),xs=[.ref a]∧H a=some (.lst (bs.map V.bl))∧Q (.bl (bs.all id)) H
theorem a9s:∀ {bs:List Bool} {us:List Value},a0O (bs.map V.bl) us→us=bs.map Value.bool:=by
 intro bs
 induction bs with
 | nil=>intro us r;rw [List.map_nil] at r;cases r;rfl
 | cons b bs ih =>
  intro us r
  rw [List.map_cons] at r
  cases r with
  | cons r1 r2=>rw [ih r2,show _=Value.bool b from r1];rfl
theorem a7w (bs:List Bool):(List.range bs.length).all (fun i=>bs.getD i true)=bs.all id:=by
 rw [Bool.eq_iff_iff]
 simp only [List.all_eq_true,List.mem_range,id]
 constructor
 ·intro h b hb
  obtain ⟨i,hi,rfl⟩:=List.mem_iff_getElem.mp hb
  have q:=h i hi
  rwa [List.getD_eq_getElem?_getD,List.getElem?_eq_getElem hi] at q
 ·intro h i hi
  rw [List.getD_eq_getElem?_getD,List.getElem?_eq_getElem hi]
  exact h _ (List.getElem_mem hi)
theorem a2q {X:Cx} (hc:X.calm=true):a3D X (.builtin "all") rAll:=by
 intro pins s σ H xs us Q I r h
 obtain ⟨a,bs,rfl,ha,q⟩:=h
 obtain ⟨u,rfl,ru⟩:=a4I r
 cases ru
 obtain ⟨hz,its,n,v,e⟩:=I.hok a _ ha
 have ei:=a9s v
 subst ei
 refine call_all_walk (wpAny_pyIter_list (a2c e) ?_)
 have hlt:=Heap.lt_size e
 refine ⟨s.heap.objs.size,_,_,_,_,_,fun i=>bs.getD i true,rfl,Walks.list (A:=X.A.in1) (by show X.A.handled=none;exact I.ok.hd hc) s.heap.objs.size a (Nat.ne_of_lt hlt) (bs.map Value.bool).toArray,⟨⟨_,Heap.get?_push_size _ rfl,rfl,rfl⟩,a2c (Heap.get?_push_of_some _ e)⟩,?_,fun h' tk hk=>?_⟩
 ·intro i v s' Q' E' hv hq
  simp only [List.getElem?_toArray,List.getElem?_map] at hv
  cases hb:bs[i]? with
  | none=>rw [hb] at hv;cases hv
  | some b =>
   rw [hb] at hv;cases hv
   have hq':Q' (bs.getD i true) s':=hq
   rw [List.getD_eq_getElem?_getD,hb] at hq'
   exact wpAny_truthy_bool hq'
 ·have e1:(bs.map Value.bool).toArray.size=bs.length:=by simp
  rw [e1,a7w]
  exact ⟨.bl _,H,I.kept (h':=h') (t':=tk) (fun b o eo=>hk b o (by simp;exact Nat.ne_of_lt (Heap.lt_size eo)) (Heap.get?_push_of_some _ eo)),rfl,q⟩
def rSum:List V→Hp→VK→Prop:=fun xs H Q=>∃ (a:Addr) (ns:List Int),xs=[.ref a]∧H a=some (.lst (ns.map V.int))∧Q (.int ns.sum) H
theorem a6C:∀ {ns:List Int} {us:List Value},a0O (ns.map V.int) us→∀ (i:Nat) (v:Value),us[i]?=some v→∃ t,v=.int (ns.getD i 0) t:=by
 intro ns
 induction ns with
 | nil=>intro us r i v e;rw [List.map_nil] at r;cases r;simp at e
 | cons n ns ih =>
  intro us r i v e
  rw [List.map_cons] at r
  cases r with
  | cons r1 r2 =>
   cases i with
   | zero =>
    simp at e;subst e
    obtain ⟨t,z⟩:=r1
    exact ⟨t,by rw [z];simp⟩
   | succ i =>
    obtain ⟨t,z⟩:=ih r2 i v (by simpa using e)
    exact ⟨t,by rw [z];simp⟩
theorem a4f {X:Cx} (hc:X.calm=true):a3D X (.builtin "sum") rSum:=by
 intro pins s σ H xs us Q I r h
 obtain ⟨a,ns,rfl,ha,q⟩:=h
 obtain ⟨u,rfl,ru⟩:=a4I r
 cases ru
 obtain ⟨hz,its,n,v,e⟩:=I.hok a _ ha
 refine call_sum_walkAnyS (wpAny_pyIter_list (a2c e) ?_)
 have hlt:=Heap.lt_size e
 refine ⟨s.heap.objs.size,_,_,_,_,_,_,fun i=>ns.getD i 0,rfl,(Walks.list (A:=X.A.in1) (by show X.A.handled=none;exact I.ok.hd hc) s.heap.objs.size a (Nat.ne_of_lt hlt) its.toArray).toS,⟨⟨_,Heap.get?_push_size _ rfl,rfl,rfl⟩,a2c (Heap.get?_push_of_some _ e)⟩,?_,?_,fun s' t' mv=>?_⟩
 ·intro b hb
  have hp:(s.heap.push { cls:=.type "list_iterator",data:=.fields #[.ref a,rawInt 0] }).objs.size=s.heap.objs.size+1:=Heap.size_push _ _
  rcases List.mem_cons.mp hb with z | z
  ·subst z
   exact Heap.lt_size (Heap.get?_push_size _ rfl)
  ·have z':b=a:=by simpa using z
   subst z'
   exact Heap.lt_size (Heap.get?_push_of_some _ e)
 ·intro i v' hv
  exact a6C v i v' (by simpa using hv)
 ·have e1:its.toArray.size=ns.length:=by
   have:=v.length
   rw [List.length_map] at this
   simpa using this.symm
  rw [e1,preSum_getD]
  have e2:ns.take ns.length=ns:=List.take_length
  rw [e2]
  have k:∀ b o,s.heap.get? b=some o→s'.heap.get? b=some o:=fun b o eo=>mv.heap b o (by simp;exact Nat.ne_of_lt (Heap.lt_size eo)) (Heap.get?_push_of_some _ eo)
  obtain ⟨h',g',d',tk',os'⟩:=s'
  have z1:g'=s.gens:=mv.gens
  have z2:d'=s.drawn:=mv.drawn
  have z3:os'=s.os:=mv.os
  subst z1 z2 z3
  exact ⟨.int _,H,I.kept (h':=h') (t':=tk') k,⟨t',rfl⟩,q⟩
theorem a0U (scope:Scope) (en:Env) (y:Str):(relabel scope en).names.lookup y=(scope.names.lookup y).map fun k=>if (k == NameKind.free && en.scope.kind == .function && en.kindOf y == some .cell)=true then .cell else k:=by
 show List.lookup y (scope.names.map fun (n,k)=>if (k == NameKind.free && en.scope.kind == .function && en.kindOf n == some .cell)=true then (n,NameKind.cell) else (n,k))=_
 generalize scope.names=l
 induction l with
 | nil=>rfl
 | cons p r ih =>
  obtain ⟨n,k⟩:=p
  rw [List.map_cons]
  by_cases hy:y=n
  ·subst hy
   show List.lookup y ((if (k == NameKind.free && en.scope.kind == .function && en.kindOf y == some .cell)=true then (y,NameKind.cell) else (y,k)) :: _)=_
   by_cases hc:(k == NameKind.free && en.scope.kind == .function && en.kindOf y == some .cell)=true
   ·rw [if_pos hc,List.lookup_cons,List.lookup_cons,beq_self_eq_true]
    show some NameKind.cell=some (if _ then _ else _)
    rw [if_pos hc]
   ·rw [if_neg hc,List.lookup_cons,List.lookup_cons,beq_self_eq_true]
    show some k=some (if _ then _ else _)
    rw [if_neg hc]
  ·have hb:(y == n)=false:=by simpa using hy
   show List.lookup y ((if (k == NameKind.free && en.scope.kind == .function && en.kindOf n == some .cell)=true then (n,NameKind.cell) else (n,k)) :: _)=_
   by_cases hc:(k == NameKind.free && en.scope.kind == .function && en.kindOf n == some .cell)=true
   ·rw [if_pos hc,List.lookup_cons,List.lookup_cons,hb];exact ih
   ·rw [if_neg hc,List.lookup_cons,List.lookup_cons,hb];exact ih
def a7x (scope:Scope) (p:Str × Str):Bool:=match scope.names.lookup p.1 with
 | none=>true
 | some .free=>p.1 == p.2
 | some .local=>false
 | some .cell=>false
 | some _=>true
theorem a0l.of' {scope:Scope} {en:Env} {N M:List Str} (sc:Scope) (N₀:List Str) (hsc:en.scope=sc) (hN:N=N₀) (kind:scope.kind=.function) (nocell:∀ y∈scope.names,y.2≠.cell) (locs:∀ y∈scope.names,y.2=.local→scope.names.lookup y.1=some .local)
  (free:∀ y∈scope.names,y.2=.free→sc.names.lookup y.1=some .cell∨sc.names.lookup y.1=some .free) (len:M.length=N₀.length) (same:((M.zip N₀).all (a7x scope))=true):a0l scope en N M:=by
 subst hsc hN
 refine ⟨kind,nocell,locs,fun y hy=>free _ hy rfl,len,fun j y e v=>?_,fun y h=>?_⟩
 ·have hj:j < N.length:=by rw [←len];exact (List.getElem?_eq_some_iff.mp e).1
  have e2:N[j]?=some N[j]:=List.getElem?_eq_getElem hj
  have hm:(y,N[j])∈M.zip N:=by
   refine List.mem_iff_getElem?.mpr ⟨j,?_⟩
   rw [List.getElem?_zip_eq_some]
   exact ⟨e,e2⟩
  have q:=List.all_eq_true.mp same _ hm
  unfold a7x at q
  unfold Vis at v
  rw [a0U] at v ⊢
  cases hl:scope.names.lookup y with
  | none=>rw [hl] at v;simp at v
  | some k =>
   rw [hl] at v q
   simp only [Option.map_some] at v ⊢
   cases k with
   | free =>
    have z:y=N[j]:=by simpa using q
    refine ⟨by rw [e2,←z],PySem.mem_of_lookup hl,?_⟩
    split <;> simp
   | «local»=>simp at q
   | cell=>simp at q
   | _=>simp at v
 ·rw [a0U] at h
  cases hl:scope.names.lookup y with
  | none=>rw [hl] at h;simp at h
  | some k =>
   rw [hl] at h
   have hm:=PySem.mem_of_lookup hl
   simp only [Option.map_some] at h
   cases k with
   | free=>exact hm
   | cell=>exact absurd rfl (nocell _ hm)
   | _=>simp at h
theorem a0l.of {scope:Scope} {en:Env} {N M:List Str} (sc:Scope) (N₀:List Str) (hsc:en.scope=sc) (hN:N=N₀) (kind:scope.kind=.function) (nocell:∀ y∈scope.names,y.2≠.cell) (locs:∀ y∈scope.names,y.2=.local→scope.names.lookup y.1=some .local)
  (free:∀ y∈scope.names,y.2=.free→sc.names.lookup y.1=some .cell∨sc.names.lookup y.1=some .free) (len:M.length=N₀.length) (same:((M.zip N₀).all (a7x scope))=true):a0l scope en N M:=a0l.of' sc N₀ hsc hN kind nocell locs free len same
theorem b0B {v:V} {σ:St} {H:Hp} {Q:St→Hp→Prop} (h:a1Z 0 v (List.replicate 1 none++σ) H Q):a1Z 0 v (List.replicate 1 none++σ) H fun σ2 H2=>(∃ l:St,l.length=1∧σ2=l++σ)∧Q σ2 H2 :=
 ⟨⟨[some v],rfl,rfl⟩,h⟩
theorem a3M {lo:Int} {n:Nat} {k:Nat} {g:TG} {tc:TT} {te:TE} {σ:St} {H:Hp} {Q:VK} {d:Addr} (Pv:Nat→Hp→Prop) (h0:Pv 0 (upd H d (.lst [])))
  (hs:∀ i H,i < n→Pv i H→g (.int (lo+i)) (List.replicate k none++σ) H fun σ2 H2=>tc σ2 H2 fun b H3=>if b=true then te σ2 H3 fun y H4=>∃ ys,H4 d=some (.lst ys)∧ys.length < sizeLine∧Pv (i+1) (upd H4 d (.lst (ys++[y]))) else Pv (i+1) H3)
  (hd:∀ H,Pv n H→Q (.ref d) H) :
  ∃ W:Nat→Nat→Hp→Prop,(∃ m,W 0 m (upd H d (.lst [])))∧∀ i m H,W i m H →
   ((Itr lo n).stop i H∧Q (.ref d) H)∨((Itr lo n).go i H∧∃ N:Hp→Prop,(∀ H',N H'→∃ m',m' < m∧W (i+1) m' H')∧∀ x H',(Itr lo n).yld i H x H'→g x (List.replicate k none++σ) H' fun σ2 H2 =>
    tc σ2 H2 fun b H3=>if b=true then te σ2 H3 fun y H4=>∃ ys,H4 d=some (.lst ys)∧ys.length < sizeLine∧N (upd H4 d (.lst (ys++[y]))) else N H3):=by
 refine ⟨fun i m H=>m=n - i∧i≤n∧Pv i H,⟨n,by simp,Nat.zero_le _,h0⟩,?_⟩
 rintro i m H ⟨rfl,hi,p⟩
 by_cases hlt:i < n
 ·refine .inr ⟨hlt,Pv (i+1),fun H' p'=>⟨n - (i+1),by omega,rfl,hlt,p'⟩,fun x H' y=>?_⟩
  obtain ⟨e,y⟩:=y
  subst e y
  exact hs i _ hlt p
 ·have e:i=n:=by omega
  subst e
  exact .inl ⟨Nat.le_refl _,hd H p⟩
theorem a9t {K:PySem.W.Frag} {a:Addr} {xs:List V} {k:Nat} {g:TG} {tc:TT} {te:TE} {σ:St} {H:Hp} {Q:VK} {d:Addr} (Pv:Nat→Hp→Prop) (h0:Pv 0 (upd H d (.lst []))) (hl:∀ i H,i≤xs.length→Pv i H→SqT K H a xs)
  (hs:∀ i x H,xs[i]?=some x→Pv i H→g x (List.replicate k none++σ) H fun σ2 H2=>tc σ2 H2 fun b H3=>if b=true then te σ2 H3 fun y H4=>∃ ys,H4 d=some (.lst ys)∧ys.length < sizeLine∧Pv (i+1) (upd H4 d (.lst (ys++[y]))) else Pv (i+1) H3)
  (hd:∀ H,Pv xs.length H→Q (.ref d) H) :
  ∃ W:Nat→Nat→Hp→Prop,(∃ m,W 0 m (upd H d (.lst [])))∧∀ i m H,W i m H →
   ((Itt K a).stop i H∧Q (.ref d) H)∨((Itt K a).go i H∧∃ N:Hp→Prop,(∀ H',N H'→∃ m',m' < m∧W (i+1) m' H')∧∀ x H',(Itt K a).yld i H x H'→g x (List.replicate k none++σ) H' fun σ2 H2 =>
    tc σ2 H2 fun b H3=>if b=true then te σ2 H3 fun y H4=>∃ ys,H4 d=some (.lst ys)∧ys.length < sizeLine∧N (upd H4 d (.lst (ys++[y]))) else N H3):=by
 refine ⟨fun i m H=>m=xs.length - i∧i≤xs.length∧Pv i H,⟨xs.length,by simp,Nat.zero_le _,h0⟩,?_⟩
 rintro i m H ⟨rfl,hi,p⟩
 have q:=hl i H hi p
 by_cases hlt:i < xs.length
 ·refine .inr ⟨⟨xs,xs[i],q,by simp [hlt]⟩,Pv (i+1),fun H' p'=>⟨xs.length - (i+1),by omega,rfl,hlt,p'⟩,fun x H' y=>?_⟩
  obtain ⟨e,y⟩:=y
  subst e
  exact hs i x _ (y xs q) p
 ·have e:i=xs.length:=by omega
  subst e
  exact .inl ⟨⟨xs,q,Nat.le_refl _⟩,hd H p⟩
theorem a4R {K:PySem.W.Frag} {a:Addr} {xs:List V} {k:Nat} {g:TG} {tc:TT} {te:TE} {σ:St} {H:Hp} {Q:VK} {d:Addr} (Pv:Nat→Hp→Prop) (h0:Pv 0 (upd H d (.lst []))) (hl:∀ i H,i≤xs.length→Pv i H→SqL K H a xs)
  (hs:∀ i x H,xs[i]?=some x→Pv i H→g x (List.replicate k none++σ) H fun σ2 H2=>tc σ2 H2 fun b H3=>if b=true then te σ2 H3 fun y H4=>∃ ys,H4 d=some (.lst ys)∧ys.length < sizeLine∧Pv (i+1) (upd H4 d (.lst (ys++[y]))) else Pv (i+1) H3)
  (hd:∀ H,Pv xs.length H→Q (.ref d) H) :
  ∃ W:Nat→Nat→Hp→Prop,(∃ m,W 0 m (upd H d (.lst [])))∧∀ i m H,W i m H →
   ((Itl K a).stop i H∧Q (.ref d) H)∨((Itl K a).go i H∧∃ N:Hp→Prop,(∀ H',N H'→∃ m',m' < m∧W (i+1) m' H')∧∀ x H',(Itl K a).yld i H x H'→g x (List.replicate k none++σ) H' fun σ2 H2 =>
    tc σ2 H2 fun b H3=>if b=true then te σ2 H3 fun y H4=>∃ ys,H4 d=some (.lst ys)∧ys.length < sizeLine∧N (upd H4 d (.lst (ys++[y]))) else N H3):=by
 refine ⟨fun i m H=>m=xs.length - i∧i≤xs.length∧Pv i H,⟨xs.length,by simp,Nat.zero_le _,h0⟩,?_⟩
 rintro i m H ⟨rfl,hi,p⟩
 have q:=hl i H hi p
 by_cases hlt:i < xs.length
 ·refine .inr ⟨⟨xs,xs[i],q,by simp [hlt]⟩,Pv (i+1),fun H' p'=>⟨xs.length - (i+1),by omega,rfl,hlt,p'⟩,fun x H' y=>?_⟩
  obtain ⟨e,y⟩:=y
  subst e
  exact hs i x _ (y xs q) p
 ·have e:i=xs.length:=by omega
  subst e
  exact .inl ⟨⟨xs,q,Nat.le_refl _⟩,hd H p⟩
theorem a7y:bootBuiltins "all"=some (.builtin "all"):=by decide +kernel
theorem b1D:bootBuiltins "sum"=some (.builtin "sum"):=by decide +kernel
theorem b_list:bootBuiltins "list"=some (.type "list"):=by decide +kernel
theorem a5q:bootBuiltins "tuple"=some (.type "tuple"):=by decide +kernel
theorem PE.imp {X:Cx} {e:Expr} {t t':TE} (h:PE X e t) (hi:∀ σ H Q,t' σ H Q→t σ H Q):PE X e t':=fun pins s σ H Q I q=>h pins s σ H Q I (hi σ H Q q)
def a6D (tc:TT) (te:TE) (σ:St) (d:Addr) (x:V) (H:Hp) (Z:Hp→Prop):Prop :=
 tc (some x :: σ) H fun b H3=>if b=true then te (some x :: σ) H3 fun y H4=>∃ ys,H4 d=some (.lst ys)∧ys.length < sizeLine∧Z (upd H4 d (.lst (ys++[y]))) else Z H3
def b1E (ta:TA) (tc:TT) (te:TE):TE:=fun σ H Q=>ta σ H fun vs H1=>∃ j:Int,vs=[.int j]∧-(2 ^ 62)≤j∧j < 2 ^ 62∧∀ d,H1 d=none →
 ∃ Pv:Nat→Hp→Prop,Pv 0 (upd H1 d (.lst []))∧(∀ i H,i < j.toNat→Pv i H→a6D tc te σ d (.int (0+i)) H (Pv (i+1)))∧∀ H,Pv j.toNat H→Q (.ref d) H
def b1F (ta:TA) (tc:TT) (te:TE):TE:=fun σ H Q=>ta σ H fun vs H1=>∃ lo hi:Int,vs=[.int lo,.int hi]∧(-(2 ^ 62)≤lo∧lo < 2 ^ 62∧-(2 ^ 62)≤hi∧hi < 2 ^ 62)∧∀ d,H1 d=none →
 ∃ Pv:Nat→Hp→Prop,Pv 0 (upd H1 d (.lst []))∧(∀ i H,i < (hi - lo).toNat→Pv i H→a6D tc te σ d (.int (lo+i)) H (Pv (i+1)))∧∀ H,Pv (hi - lo).toNat H→Q (.ref d) H
def b0C (K:PySem.W.Frag) (tl:TE) (tc:TT) (te:TE):TE:=fun σ H Q=>tl σ H fun v H1=>∃ a xs,v=.ref a∧SqL K H1 a xs∧∀ d,H1 d=none →
 ∃ Pv:Nat→Hp→Prop,Pv 0 (upd H1 d (.lst []))∧(∀ i H,i≤xs.length→Pv i H→SqL K H a xs)∧(∀ i x H,xs[i]?=some x→Pv i H→a6D tc te σ d x H (Pv (i+1)))∧∀ H,Pv xs.length H→Q (.ref d) H
def tCompT (K:PySem.W.Frag) (tl:TE) (tc:TT) (te:TE):TE:=fun σ H Q=>tl σ H fun v H1=>∃ a xs,v=.ref a∧SqT K H1 a xs∧∀ d,H1 d=none →
 ∃ Pv:Nat→Hp→Prop,Pv 0 (upd H1 d (.lst []))∧(∀ i H,i≤xs.length→Pv i H→SqT K H a xs)∧(∀ i x H,xs[i]?=some x→Pv i H→a6D tc te σ d x H (Pv (i+1)))∧∀ H,Pv xs.length H→Q (.ref d) H
def a2B (t:TE):Prop:=∀ σ H (Q Q':VK),(∀ v H1,Q v H1→Q' v H1)→t σ H Q→t σ H Q'
def a5r (t:TA):Prop:=∀ σ H (Q Q':List V→Hp→Prop),(∀ v H1,Q v H1→Q' v H1)→t σ H Q→t σ H Q'
section
variable {X:Cx} {elt iter:Expr} {tg:Str} {tp:Pos} {cs:List Expr} {scope:Scope} {pos:Pos} {tc:TT} {te:TE} {M:List Str}
abbrev a5s (X:Cx) (scope:Scope) (tg:Str) (M:List Str) (cs:List Expr) (elt:Expr) (tc:TT) (te:TE):Prop :=
 ∀ (cl:List (Str × Addr)) (C:Addr) (s0:Shared) (H0:Hp) (fp:List Addr),PTs (cxC X scope cl C s0 H0 fp (tg :: M)) cs tc∧PE (cxC X scope cl C s0 H0 fp (tg :: M)) elt te
theorem a2W {wi:TI} {t:TE} (hc:X.calm=true) (S:a0l scope X.env X.N M) (nd:(tg :: M).Nodup) (hl:scope.names.lookup tg=some .local) (hi:PI X (.Name tg tp) iter wi) (hin:a5s X scope tg M cs elt tc te)
  (ht:∀ σ H Q,t σ H Q→a6B 1 wi (a1Z 0) tc te σ H Q) (hs:∀ x,foldedSetIterable iter X.env x=pure x):PE X (.ListComp elt [⟨.Name tg tp,iter,cs,0⟩] scope pos) t:=by
 have hx:(relabel scope X.env).names.lookup tg=some .local:=by
  rw [a0U,hl]
  rfl
 exact PE.imp (b1x (xs:=[tg]) (M:=M) hc S hi (fun cl C s0 H0 fp=>⟨a0H (i:=0) nd rfl (Or.inl hx) (Or.inr hx),hin cl C s0 H0 fp⟩) (fun v σ H Q h=>b0B h) hs) ht
theorem a1r {a:Expr} {ta:TA} {p pos':Pos} (hc:X.calm=true) (S:a0l scope X.env X.N M) (nd:(tg :: M).Nodup) (hl:scope.names.lookup tg=some .local) (hg:Gl X "range") (hm:X.mg "range"=none) (ha:PA X [a] ta) (mo:a5r ta)
  (hin:a5s X scope tg M cs elt tc te) (hs:starEach [a] X.env=[(false,eval a X.env)]:=by rfl) (hf:∀ x,foldedSetIterable (.Call (.Name "range" p) [a] [] pos') X.env x=pure x:=by intro _;rfl) :
  PE X (.ListComp elt [⟨.Name tg tp,.Call (.Name "range" p) [a] [] pos',cs,0⟩] scope pos) (b1E ta tc te):=by
 refine a2W hc S nd hl (a1j hg hm ha hs) hin (fun σ H Q h=>?_) hf
 refine mo σ H _ _ (fun vs H1 q=>?_) h
 obtain ⟨j,e,j1,j2,q⟩:=q
 refine ⟨j,e,j1,j2,fun d hd=>?_⟩
 obtain ⟨Pv,h0,hs,hd⟩:=q d hd
 exact a3M (k:=1) (g:=a1Z 0) Pv h0 hs hd
theorem a4S {a b:Expr} {ta:TA} {p pos':Pos} (hc:X.calm=true) (S:a0l scope X.env X.N M) (nd:(tg :: M).Nodup) (hl:scope.names.lookup tg=some .local) (hg:Gl X "range") (hm:X.mg "range"=none) (ha:PA X [a,b] ta) (mo:a5r ta)
  (hin:a5s X scope tg M cs elt tc te) (hs:starEach [a,b] X.env=[(false,eval a X.env),(false,eval b X.env)]:=by rfl) (hs2:starEach [b] X.env=[(false,eval b X.env)]:=by rfl) (hf:∀ x,foldedSetIterable (.Call (.Name "range" p) [a,b] [] pos') X.env x=pure x:=by intro _;rfl) :
  PE X (.ListComp elt [⟨.Name tg tp,.Call (.Name "range" p) [a,b] [] pos',cs,0⟩] scope pos) (b1F ta tc te):=by
 refine a2W hc S nd hl (a1y hg hm ha hs hs2) hin (fun σ H Q h=>?_) hf
 refine mo σ H _ _ (fun vs H1 q=>?_) h
 obtain ⟨lo,hi,e,j1,q⟩:=q
 refine ⟨lo,hi,e,j1,fun d hd=>?_⟩
 obtain ⟨Pv,h0,hs,hd⟩:=q d hd
 exact a3M (k:=1) (g:=a1Z 0) Pv h0 hs hd
theorem a2r {tl:TE} (hc:X.calm=true) (S:a0l scope X.env X.N M) (nd:(tg :: M).Nodup) (hl:scope.names.lookup tg=some .local) (hi:PE X iter tl) (mo:a2B tl)
  (hin:a5s X scope tg M cs elt tc te) (hf:∀ x,foldedSetIterable iter X.env x=pure x:=by intro _;rfl):PE X (.ListComp elt [⟨.Name tg tp,iter,cs,0⟩] scope pos) (b0C X.K tl tc te):=by
 refine a2W hc S nd hl (a5k hi) hin (fun σ H Q h=>?_) hf
 refine mo σ H _ _ (fun v H1 q=>?_) h
 obtain ⟨a,xs,e,j1,q⟩:=q
 refine ⟨a,e,⟨xs,j1⟩,fun d hd=>?_⟩
 obtain ⟨Pv,h0,hl,hs,hd⟩:=q d hd
 exact a4R (k:=1) (g:=a1Z 0) Pv h0 hl hs hd
theorem a2s {tl:TE} (hc:X.calm=true) (S:a0l scope X.env X.N M) (nd:(tg :: M).Nodup) (hl:scope.names.lookup tg=some .local) (hi:PE X iter tl) (mo:a2B tl)
  (hin:a5s X scope tg M cs elt tc te) (hf:∀ x,foldedSetIterable iter X.env x=pure x:=by intro _;rfl):PE X (.ListComp elt [⟨.Name tg tp,iter,cs,0⟩] scope pos) (tCompT X.K tl tc te):=by
 refine a2W hc S nd hl (b0x hi) hin (fun σ H Q h=>?_) hf
 refine mo σ H _ _ (fun v H1 q=>?_) h
 obtain ⟨a,xs,e,j1,q⟩:=q
 refine ⟨a,e,⟨xs,j1⟩,fun d hd=>?_⟩
 obtain ⟨Pv,h0,hl,hs,hd⟩:=q d hd
 exact a9t (k:=1) (g:=a1Z 0) Pv h0 hl hs hd
theorem a9u {wi:TI} {t:TE} {i:Nat} {x:Str} {pos1 spos:Pos} (hc:X.calm=true) (S:a0l scope X.env X.N M) (nd:(tg :: M).Nodup) (hl:scope.names.lookup tg=some .local) (hi:PI X (.Name tg tp) iter wi) (hin:a5s X scope tg M cs elt tc te)
  (ht:∀ σ H Q,t σ H Q→a6B 1 wi (a1Z 0) tc te σ H Q) (hN:X.N.Nodup) (hix:X.N[i]?=some x) (hx:X.env.scope.names.lookup x=some .local) (hw:swapsWith (.ListComp elt [⟨.Name tg tp,iter,cs,0⟩] scope pos) (some (.Name x pos1)) spos.line X.env=pure true) (hs:∀ x,foldedSetIterable iter X.env x=pure x) :
  PS X (.Assign [.Name x pos1] (.ListComp elt [⟨.Name tg tp,iter,cs,0⟩] scope pos) spos) (tAsg t (a1Z i)):=by
 have hx':(relabel scope X.env).names.lookup tg=some .local:=by
  rw [a0U,hl]
  rfl
 intro pins s σ H D I h
 exact b1y (xs:=[tg]) (M:=M) hc S hi (fun cl C s0 H0 fp=>⟨a0H (i:=0) nd rfl (Or.inl hx') (Or.inr hx'),hin cl C s0 H0 fp⟩) (fun v σ H Q h=>b0B h) hN hix hx hw hs pins s σ H D I (ht _ _ _ h)
end
theorem a0L {te:TE} {σ:St} {d:Addr} {x:V} {H:Hp} {Z:Hp→Prop} (h:te (some x :: σ) H fun y H4=>∃ ys,H4 d=some (.lst ys)∧ys.length < sizeLine∧Z (upd H4 d (.lst (ys++[y])))):a6D a9q te σ d x H Z:=by
 unfold a6D a9q
 exact a6y h
theorem a0X {i:Nat}:a2B (tVar i):=fun _ _ _ _ h ⟨v,e,q⟩=>⟨v,e,h _ _ q⟩
theorem b2O {v:V}:a2B (tC v):=fun _ _ _ _ h q=>h _ _ q
theorem a1B:a5r tNil:=fun _ _ _ _ h q=>h _ _ q
theorem a0Z {te:TE} {ta:TA} (h1:a2B te) (h2:a5r ta):a5r (a9i te ta):=fun σ H Q Q' h q=>h1 σ H _ _ (fun v H1 q1=>h2 σ H1 _ _ (fun vs H2 q2=>h _ _ q2) q1) q
theorem a6E {r:R2} {ta tb:TE} (hr:∀ x y H (Q Q':VK),(∀ v H1,Q v H1→Q' v H1)→r x y H Q→r x y H Q') (h1:a2B ta) (h2:a2B tb):a2B (tOp r ta tb):=fun σ H Q Q' h q =>
 h1 σ H _ _ (fun v H1 q1=>h2 σ H1 _ _ (fun u H2 q2=>hr _ _ _ _ _ h q2) q1) q
theorem a3N {g:Int→Int→V}:∀ x y H (Q Q':VK),(∀ v H1,Q v H1→Q' v H1)→rI0 g x y H Q→rI0 g x y H Q':=fun _ _ _ _ _ h ⟨i,j,e1,e2,q⟩=>⟨i,j,e1,e2,h _ _ q⟩
theorem a7z {K:PySem.W.Frag} {ta:TA} (h1:a5r ta):a2B (tCB (fun xs H Q=>∃ p ys,xs=[.ref p]∧(SqL K H p ys∨SqT K H p ys)∧Q (.int (ys.length:Nat)) H) ta):=fun σ H Q Q' h q =>
 h1 σ H _ _ (fun vs H1 ⟨p,ys,e,s,q1⟩=>⟨p,ys,e,s,h _ _ q1⟩) q
abbrev TW (H:Hp) (a:Addr) (ns:List Int):Prop:=H a=some (.tup (ns.map V.int))
abbrev Wd (H:Hp) (x:V) (w:List Int):Prop:=RTup H a8V x w
abbrev Ws (H:Hp) (xs:List V) (ws:List (List Int)):Prop:=Paired (RTup H a8V) xs ws
theorem Wd.ti {H:Hp} {x:V} {w:List Int} (h:Wd H x w):∃ a,x=.ref a∧TW H a w:=by
 obtain ⟨a,xs,rfl,e,p⟩:=h
 exact ⟨a,rfl,by show H a=_;rw [e,Paired.ofInts p]⟩
theorem Wd.of {H:Hp} {a:Addr} {w:List Int} (h:TW H a w):Wd H (.ref a) w:=a3g h
theorem Wd.same {H H':Hp} {x:V} {w:List Int} (sm:a0C H H') (h:Wd H x w):Wd H' x w:=by
 obtain ⟨a,xs,rfl,e,p⟩:=h
 exact ⟨a,xs,rfl,sm _ _ e,p⟩
theorem Ws.same {H H':Hp} {xs:List V} {ws:List (List Int)} (sm:a0C H H') (h:Ws H xs ws):Ws H' xs ws:=Paired.mapP h fun _ _ q=>Wd.same sm q
section
variable {α β:Type} {R:α→β→Prop}
theorem Paired.appendP:∀ {xs ys:List α} {ds es:List β},Paired R xs ds→Paired R ys es→Paired R (xs++ys) (ds++es)
 | _,_,_,_,.nil,s=>s
 | _,_,_,_,.cons r t,s=>.cons r (Paired.appendP t s)
theorem Paired.left_of:∀ {xs:List α} {ds:List β},Paired R xs ds→∀ (j:Nat) (d:β),ds[j]?=some d→∃ x,xs[j]?=some x∧R x d
 | _,_,.nil,j,x,e=>by simp at e
 | _,_,.cons r t,0,x,e=>by simp at e;subst e;exact ⟨_,rfl,r⟩
 | _,_,.cons r t,j+1,x,e=>by
  obtain ⟨d,e1,e2⟩:=Paired.left_of t j x (by simpa using e)
  exact ⟨d,by simpa using e1,e2⟩
end
theorem a5Q {xs:List V} {i:Nat} {x:V} (h:xs[i]?=some x):atI xs (i:Int)=some x:=a1Q h
theorem a1M {ns:List Int} {k:Nat} {x:Int} (h:ns[k]?=some x):atI (ns.map V.int) (k:Int)=some (.int x):=a1Q (by rw [List.getElem?_map,h];rfl)
theorem at_of {xs:List V} {i:Int} (h0:0≤i) (h1:i < (xs.length:Int)):∃ x,xs[i.toNat]?=some x∧atI xs i=some x:=by
 obtain ⟨n,rfl⟩:∃ n:Nat,i=n:=⟨i.toNat,by omega⟩
 have:n < xs.length:=by omega
 exact ⟨xs[n],List.getElem?_eq_getElem this,a1Q (List.getElem?_eq_getElem this)⟩
theorem hu4 {A:Around} {k:Nat} (hr:a2a k A):A.units+4 < cLine:=by have:=hr.units;omega
theorem small {n:Nat} (h:n≤1000):n≤sizeLine:=Nat.le_of_lt (a0u h)
theorem cut_to (xs:List V) (n:Nat):a9p xs none (some (n:Int))=xs.take n:=by
 unfold a9p
 rw [HT.b1n,HT.a9m]
 simp [List.take_eq_take_iff]
theorem a0y {H H1:Hp} {d:Addr} {o:HO} (h:H d=none) (sm:a0C H H1):a0C H (upd H1 d o):=fun b u q=>by rw [a0i (a1b q h)];exact sm b u q
structure Fns (P:Program) (w:World) (K:PySem.W.Frag) (mg:Str→Option Value) (base:Heap) (ps:List Str) (name:Str) (sp:Sp) (k:Nat) where
 g:Addr
 gd:FuncData
 ok:a0W P w K mg base CX0 k g gd ps sp
 b:a1z K gd ps []
 kp:PySem.W.keepIn K (.ref g)=true
 m:mg name=some (.ref g)
def Fns.up {P:Program} {w:World} {K:PySem.W.Frag} {mg:Str→Option Value} {base:Heap} {ps:List Str} {name:Str} {sp:Sp} {j k:Nat} (f:Fns P w K mg base ps name sp j) (h:j≤k):Fns P w K mg base ps name sp k:=⟨f.g,f.gd,f.ok.mono h,f.b,f.kp,f.m⟩
def tMid (t:TS):TS:=fun D σ H=>∃ Mid:St→Hp→Prop,t { D with nx:=Mid } σ H∧∀ σ' H',Mid σ' H'→D.nx σ' H'
theorem a7A {X:Cx} {st:Stmt} {t:TS} (h:PS X st t):PS X st (tMid t):=by
 intro pins s σ H D I ⟨Mid,h1,h2⟩
 refine thn (h pins s σ H _ I h1) fun fl s' q=>?_
 cases fl with
 | next=>obtain ⟨σ',H',I',m⟩:=q;exact ⟨σ',H',I',h2 _ _ m⟩
 | brk=>exact q
 | cont=>exact q
 | ret u=>exact q
def eMid (t:TE):TE:=fun σ H Q=>∃ Mid:V→Hp→Prop,t σ H Mid∧∀ v H',Mid v H'→Q v H'
theorem b0D {X:Cx} {e:Expr} {t:TE} (h:PE X e t):PE X e (eMid t):=by
 intro pins s σ H Q I ⟨Mid,h1,h2⟩
 exact thn (h pins s σ H _ I h1) fun u s' ⟨v,H',I',r,m⟩=>⟨v,H',I',r,h2 _ _ m⟩
theorem b0E {t:TE}:a2B (eMid t):=fun σ H Q Q' h ⟨Mid,h1,h2⟩=>⟨Mid,h1,fun v H' m=>h _ _ (h2 v H' m)⟩
theorem ixL {X:Cx} (K:PySem.W.Frag) (h:X.K=K:=by rfl):IxR X (rIxL K):=by subst h;exact a0n
theorem ixT {X:Cx} (K:PySem.W.Frag) (h:X.K=K:=by rfl):IxR X (rIxT K):=by subst h;exact a0Q
theorem Wd.upd {H:Hp} {l:Addr} {ls ls':List V} {x:V} {w:List Int} (hl:H l=some (.lst ls)) (h:Wd H x w):Wd (upd H l (.lst ls')) x w:=by
 obtain ⟨a,xs,rfl,e,p⟩:=h
 exact ⟨a,xs,rfl,by rw [a0i (a0E e hl (by intro z;cases z))];exact e,p⟩
theorem Ws.upd {H:Hp} {l:Addr} {ls ls' xs:List V} {ws:List (List Int)} (hl:H l=some (.lst ls)) (h:Ws H xs ws):Ws (upd H l (.lst ls')) xs ws:=Paired.mapP h fun _ _ q=>Wd.upd hl q
section
variable {X:Cx} {elt iter:Expr} {tg:Str} {tp:Pos} {cs:List Expr} {scope:Scope} {pos:Pos} {tc:TT} {te:TE} {M:List Str}
end
def a3h (h:Heap) (e:Addr) (cls:Value) (od:Option Addr) (hd:Value):Prop:=∃ oe vs,h.get? e=some oe∧oe.cls=cls∧oe.dict=od∧oe.data=.fields vs∧vs[1]?=some hd
def a9v (h:Heap) (T:Addr) (fl:Value):Prop:=∃ oT ts,h.get? T=some oT∧oT.data=.fields ts∧ts[3]?=some fl
def Mv (S fs:List Addr) (h h':Heap):Prop:=∀ b o,h.get? b=some o→b∉S→(b∉fs→h'.get? b=some o)∧∃ sl,h'.get? b=some { o with slots:=sl }
section
variable {S S' fs:List Addr} {h h1 h2:Heap}
theorem Mv.trans (a:Mv S fs h h1) (b:Mv S fs h1 h2):Mv S fs h h2:=fun c o e n=>by
 obtain ⟨k,sl,e1⟩:=a c o e n
 obtain ⟨_,sl2,e2⟩:=b c _ e1 n
 exact ⟨fun nf=>(b c o (k nf) n).1 nf,sl2,e2⟩
theorem Mv.mono (a:Mv S fs h h1) (hs:∀ b∈S,b∈S'):Mv S' fs h h1:=fun b o e n=>a b o e fun z=>n (hs b z)
theorem Mv.frames (a:Mv S fs h h1) {base:Heap} {l:List Env} (hl:h.FunFrames base l) (hS:∀ b∈S,∀ o,h.get? b=some o→∃ vs,o.data=.fields vs):h1.FunFrames base l :=
 hl.of_keeps fun b o hb hn=>by
  obtain ⟨_,sl,e⟩:=a b o hb fun z=>by
   obtain ⟨vs,q⟩:=hS b z o hb
   exact hn vs q
  exact ⟨_,e,rfl⟩
end
theorem a3H (f:Array Value→Array Value) (o:Obj):(Obj.mapFields f o).dict=o.dict:=by
 obtain ⟨c,d,dt,sl⟩:=o
 cases dt <;> rfl
section
variable {M:Model} {A:Around} {E:Value→Shared→Prop} {s:Shared} {env:Env} {outer:List Env} {base:Heap} {L e T:Addr} {cls hd fl head:Value} {od:Option Addr} {S:List Addr} {Q:Unit→Shared→Prop}
theorem a4T {hadNext:Bool} (hfr:A.frames=some (env :: outer)) (hl:s.heap.FunFrames base (env :: outer)) (hf:env.frame=some L) (x:a3h s.heap e cls od hd)
  (h:∀ h' T,Mv [e] (frs (env :: outer)) s.heap h'→s.heap.objs.size≤T→T≠e→a3h h' e cls od (.ref T)→a9v h' T (rawInt L)→Q () { s with heap:=h' }) :
  wpAny M A (do let a ←frameOf env;let pl ←entryPlaceOf L hadNext;let b ←EntryCells.newEntry head a .none (rawInt L) .none pl;setField (.ref e) 1 b) Q E s:=by
 obtain ⟨oe,vs,he,hc,hdd,hd1,h1⟩:=x
 have hsz:1 < vs.size:=(Array.getElem?_eq_some_iff.mp h1).1
 have ne:e∉frs (env :: outer):=fun hm=>by
  obtain ⟨_,o,ho,hn⟩:=hl.mem hm
  rw [he] at ho
  cases ho
  exact hn vs hd1
 refine wpAny_bind (wpAny_frameOf_fun hfr hl hf fun g so=>?_)
 refine wpAny_bind (wpAny_entryPlaceOf fun pl hp=>?_)
 unfold EntryCells.newEntry newFields
 refine wpAny_bind (wpAny_newObj_type ?_ (hp.sizeOk5 _ _ _ _ _))
 have e1:g.get? e=some oe:=(so.2.1 e ne).trans he
 have hTe:g.objs.size≠e:=Nat.ne_of_gt (Heap.lt_size e1)
 have t3:([head,.ref L,.none,rawInt L,.none]++(if pl.isEmpty then List.replicate 6 Value.none else pl)).toArray[3]?=some (rawInt L):=by simp
 generalize ([head,.ref L,.none,rawInt L,.none]++(if pl.isEmpty then List.replicate 6 Value.none else pl)).toArray=ts at t3 ⊢
 have e2:=Heap.get?_push_of_some (h:=g) { cls:=.type "traceback",dict:=none,data:=.fields ts } e1
 refine wpAny_setField e2 hd1 hsz (h _ g.objs.size (fun b o hb hn=>?_) (by rw [so.1];exact Nat.le_refl _) hTe ?_ ?_)
 ·have hbe:b≠e:=fun z=>hn (by rw [z];exact List.mem_cons_self)
  have mv:∀ o',g.get? b=some o'→((g.push { cls:=.type "traceback",dict:=none,data:=.fields ts }).update e (Obj.mapFields (·.setIfInBounds 1 (Value.ref g.objs.size)))).get? b=some o':=fun o' q=>by
   rw [Heap.get?_update_other _ _ (Ne.symm hbe)]
   exact Heap.get?_push_of_some _ q
  obtain ⟨sl,q⟩:=so.2.2 b o hb
  exact ⟨fun nf=>mv o ((so.2.1 b nf).trans hb),sl,mv _ q⟩
 ·exact ⟨_,_,Heap.get?_update_self _ e2 (Obj.isFreed_of_fields (Obj.data_mapFields hd1 _)),(Obj.cls_mapFields _ _).trans hc,(a3H _ _).trans hdd,Obj.data_mapFields hd1 _,by simp [hsz]⟩
 ·refine ⟨{ cls:=.type "traceback",dict:=none,data:=.fields ts },ts,?_,rfl,t3⟩
  rw [Heap.get?_update_other _ _ (Ne.symm hTe)]
  exact Heap.get?_push_size g rfl
def a6F (h:Heap) (e:Addr) (cls:Value) (od:Option Addr) (S:List Addr):Prop :=
 e∈S∧(∀ b∈S,∀ o,h.get? b=some o→∃ vs,o.data=.fields vs)∧∃ hd,a3h h e cls od hd∧(hd=.none∨∃ T,T∈S∧hd=.ref T∧T≠e∧a9v h T .none)
theorem b0F {x:Value} (t:a9v s.heap T fl) (h:∀ h',h'.objs.size=s.heap.objs.size→a9v h' T x→(∀ b,b≠T→h'.get? b=s.heap.get? b)→Q () { s with heap:=h' }):wpAny M A (setField (.ref T) 3 x) Q E s:=by
 obtain ⟨oT,ts,hT,hdT,h3⟩:=t
 have hsz:3 < ts.size:=(Array.getElem?_eq_some_iff.mp h3).1
 exact wpAny_setField hT hdT hsz (h _ (Heap.size_after_update ..) ⟨_,_,Heap.get?_update_self _ hT (Obj.isFreed_of_fields (Obj.data_mapFields hdT _)),Obj.data_mapFields hdT _,by simp [hsz]⟩ fun b hb=>Heap.get?_update_other _ _ (Ne.symm hb))
theorem a3h.other {h h':Heap} (x:a3h h e cls od hd) (k:h'.get? e=h.get? e):a3h h' e cls od hd:=by
 obtain ⟨oe,vs,he,r⟩:=x
 exact ⟨oe,vs,k.trans he,r⟩
theorem b1G (hfr:A.frames=some (env :: outer)) (hl:s.heap.FunFrames base (env :: outer)) (hf:env.frame=some L) (lo:a6F s.heap e cls od S)
  (h:∀ h' T,Mv S (frs (env :: outer)) s.heap h'→s.heap.objs.size≤T→T≠e→a3h h' e cls od (.ref T)→a9v h' T (rawInt L)→Q () { s with heap:=h' }):wpAny M A (noteFrame (.ref e) env) Q E s:=by
 obtain ⟨heS,hSf,hd,x,hh⟩:=lo
 unfold noteFrame
 simp only [hf]
 obtain ⟨oe,vs,he,hc,hdd,hd1,h1⟩:=id x
 refine wpAny_bind (wpAny_field he hd1 h1 ?_)
 rcases hh with rfl | ⟨T,hTS,rfl,hTe,tb⟩
 ·rw [if_neg (by decide)]
  exact a4T hfr hl hf x fun h' T m hs hT x' t'=>h h' T (m.mono fun b hb=>by rw [List.mem_singleton.mp hb];exact heS) hs hT x' t'
 ·rw [if_pos (show (Value.ref T != Value.none)=true from by simp)]
  obtain ⟨oT,ts,hT,hdT,h3⟩:=id tb
  refine wpAny_bind (wpAny_field hT hdT h3 ?_)
  rw [if_neg (show ¬ ((Value.none == rawInt L)=true) from by simp [rawInt])]
  refine wpAny_bind (b0F tb fun g m1 t1 k1=>?_)
  have m2:Mv S (frs (env :: outer)) s.heap g:=fun b o hb hn=>by
   have hbT:b≠T:=fun z=>hn (by rw [z];exact hTS)
   have q:=(k1 b hbT).trans hb
   exact ⟨fun _=>q,o.slots,q⟩
  refine a4T (s:={ s with heap:=g }) hfr (m2.frames hl hSf) hf (x.other (k1 e (Ne.symm hTe))) fun h' T' m hs hT' x' t'=>?_
  exact h h' T' (m2.trans (m.mono fun b hb=>by rw [List.mem_singleton.mp hb];exact heS)) (by rw [←m1];exact hs) hT' x' t'
theorem a7B (x:a3h s.heap e cls od (.ref T)) (t:a9v s.heap T fl) (hTe:T≠e) (h:∀ h',h'.objs.size=s.heap.objs.size→a3h h' e cls od (.ref T)→a9v h' T .none→(∀ b,b≠T→h'.get? b=s.heap.get? b)→Q () { s with heap:=h' }) :
  wpAny M A (setFlight (.ref e) none) Q E s:=by
 obtain ⟨oe,vs,he,hc,hdd,hd1,h1⟩:=id x
 unfold setFlight
 refine wpAny_bind (wpAny_field he hd1 h1 ?_)
 rw [if_pos (show (Value.ref T != Value.none)=true from by simp)]
 exact b0F t fun g m1 t1 k1=>h g m1 (x.other (k1 e (Ne.symm hTe))) t1 k1
theorem a9w {h:Heap} (x:a3h h e cls od (.ref T)) (t:a9v h T .none) (hT:T≠e):a6F h e cls od [T,e]:=by
 refine ⟨List.mem_cons_of_mem _ List.mem_cons_self,fun b hb o ho=>?_,.ref T,x,.inr ⟨T,List.mem_cons_self,rfl,hT,t⟩⟩
 rcases List.mem_cons.mp hb with hb | hb
 ·obtain ⟨oT,ts,q,hd,_⟩:=t
  rw [hb,q] at ho
  cases ho
  exact ⟨ts,hd⟩
 ·obtain ⟨oe,vs,q,_,_,hd,_⟩:=x
  rw [List.mem_singleton.mp hb,q] at ho
  cases ho
  exact ⟨vs,hd⟩
theorem b1H (hfr:A.frames=some (env :: outer)) (hl:s.heap.FunFrames base (env :: outer)) (hf:env.frame=some L) (lo:a6F s.heap e cls od S)
  (h:∀ h' T,Mv S (frs (env :: outer)) s.heap h'→s.heap.objs.size≤T→T≠e→a3h h' e cls od (.ref T)→a9v h' T .none→Q () { s with heap:=h' }) :
  wpAny M A (noteFrame (.ref e) env) (fun _ s1=>wpAny M A (setFlight (.ref e) none) Q E s1) E s:=by
 refine b1G hfr hl hf lo fun g T m hs hT x t=>?_
 refine a7B (s:={ s with heap:=g }) x t hT fun h' m1 x' t' k1=>?_
 have mm:Mv S (frs (env :: outer)) s.heap h':=fun b o hb hn=>by
  have hbT:b≠T:=Nat.ne_of_lt (Nat.lt_of_lt_of_le (Heap.lt_size hb) hs)
  obtain ⟨q1,sl,q2⟩:=m b o hb hn
  exact ⟨fun nf=>(k1 b hbT).trans (q1 nf),sl,(k1 b hbT).trans q2⟩
 exact h h' T mm hs hT x' t'
theorem a9x (hfr:A.frames=some (env :: outer)) (hl:s.heap.FunFrames base (env :: outer)) (hf:env.frame=some L) (lo:a6F s.heap e cls od S)
  (h:∀ h' T,Mv S (frs (env :: outer)) s.heap h'→s.heap.objs.size≤T→a6F h' e cls od [T,e]→Q () { s with heap:=h' }):wpAny M A (leaving env (.ref e)) Q E s:=by
 unfold leaving
 exact wpAny_bind (b1H hfr hl hf lo fun h' T m hs hT x t=>h h' T m hs (a9w x t hT))
end
theorem a1n.obj {P:Program} {w:World} {H:Hp} {h:Heap} {a:Addr} {o:HO} (x:a1n P w H h a o):∃ ob,h.get? a=some ob:=by
 cases o with
 | lst xs=>obtain ⟨_,_,_,_,e⟩:=x;exact ⟨_,e⟩
 | tup xs=>obtain ⟨_,_,_,ob,e,_⟩:=x;exact ⟨_,e⟩
 | dK kvs=>obtain ⟨_,_,_,_,ob,_,_,e,_⟩:=x;exact ⟨_,e⟩
 | dT kvs=>obtain ⟨_,_,_,_,ob,_,_,e,_⟩:=x;exact ⟨_,e⟩
 | set S n=>obtain ⟨ob,_,_,_,e,_⟩:=x;exact ⟨_,e⟩
 | ins C dx fs=>obtain ⟨_,_,_,e,_⟩:=x;exact ⟨_,e⟩
 | own y=>exact x
 | xd fs=>obtain ⟨_,⟨ob,_,_,e,_⟩,_⟩:=x;exact ⟨_,e⟩
 | rng lo hi=>obtain ⟨_,_,_,e⟩:=x;exact ⟨_,e⟩
 | frz ob u=>obtain ⟨e,_⟩:=x;exact ⟨_,e⟩
 | tbl ps=>exact ⟨_,show h.get? a=some _ from x⟩
 | met f y=>exact ⟨_,show h.get? a=some _ from x⟩
 | ext φ=>obtain ⟨_,e,_⟩:=x;exact e
theorem HOk.none_of {P:Program} {w:World} {H:Hp} {h:Heap} (x:HOk P w H h) {a:Addr} (n:h.get? a=none):H a=none:=by
 cases e:H a with
 | none=>rfl
 | some o =>
  obtain ⟨ob,q⟩:=(x a o e).obj
  rw [n] at q
  cases q
section
variable {X:Cx} {pins:List (Addr × Obj)} {σ:St} {H H':Hp} {s:Shared} {h':Heap} {b:Addr} {S:List Addr}
def Off (X:Cx) (pins:List (Addr × Obj)) (b:Addr):Prop :=
 (∀ o,X.s₀.heap.get? b=some o→b∈X.ex)∧b≠X.env.locals∧(∀ x c,X.env.cells.lookup x=some c→c≠b)∧∀ p∈X.pn++pins,p.1≠b
theorem Inv.off (I:Inv X pins σ H s) (n:s.heap.get? b=none):Off X pins b:=by
 refine ⟨fun o e=>?_,fun z=>?_,fun x c e z=>?_,fun p hp z=>?_⟩
 ·by_cases hx:b∈X.ex
  ·exact hx
  ·obtain ⟨o',e'⟩:=I.base.there b o e hx
   rw [n] at e'
   cases e'
 ·obtain ⟨m,⟨o,_,_,ho,_⟩,_⟩:=I.loc
  rw [z,ho] at n
  cases n
 ·obtain ⟨v,o,ho,_⟩:=I.cell x c e
  rw [z,n] at ho
  cases ho
 ·have q:=(I.pin p hp).1
  rw [z,n] at q
  cases q
theorem Inv.moved {t':Nat} (I:Inv X pins σ H s) (m:Mv S (frs X.stack) s.heap h') (hS:∀ b∈S,Off X pins b∧H b=none):Inv X pins σ H { s with heap:=h',toks:=t' }:=by
 have neL:∀ b o,X.s₀.heap.get? b=some o→b≠X.env.locals:=fun b o e=>Nat.ne_of_lt (Nat.lt_of_lt_of_le (Heap.lt_size e) I.ok.above)
 have nS:∀ b o,X.s₀.heap.get? b=some o→b∉X.ex→b∉S:=fun b o e hx z=>hx ((hS b z).1.1 o e)
 have nst:∀ b,b≠X.env.locals→b∉X.fs→b∉frs X.stack:=fun b h1 h2 z=>(List.mem_cons.mp (I.stkSub b z)).elim h1 h2
 have cellM:∀ x c,X.env.cells.lookup x=some c→∀ v,s.heap.IsCell c v→h'.IsCell c v:=fun x c e v ⟨o,ho,hd⟩=>by
  obtain ⟨_,sl,q⟩:=m c o ho fun z=>(hS c z).1.2.2.1 x c e rfl
  exact ⟨_,q,hd⟩
 refine ⟨I.ok,I.os,I.bare,⟨fun b o e n hb hx=>?_,fun b o e n hb hx=>?_,I.base.free,fun b o e hx=>?_,I.base.tups,I.base.frzs,I.base.tbls⟩,?_,fun x c e=>?_,I.free,I.freeC,fun p hp=>?_,fun b u e=>?_,I.len⟩
 ·exact (m b o (I.base.keep b o e n hb hx) (nS b o e hx)).1 (nst b (neL b o e) hb)
 ·obtain ⟨sl,e1⟩:=I.base.slot b o e n hb hx
  obtain ⟨_,sl',e2⟩:=m b _ e1 (nS b o e hx)
  exact ⟨sl',e2⟩
 ·obtain ⟨o',e1⟩:=I.base.there b o e hx
  obtain ⟨_,sl,e2⟩:=m b _ e1 (nS b o e hx)
  exact ⟨_,e2⟩
 ·obtain ⟨mm,hn,hl⟩:=I.loc
  refine ⟨mm,?_,fun i x v e1 e2 e3=>?_⟩
  ·obtain ⟨o,es,ep,ho,r⟩:=hn
   obtain ⟨_,sl,q⟩:=m _ o ho fun z=>(hS _ z).1.2.1 rfl
   exact ⟨_,es,ep,q,r⟩
  ·obtain ⟨u,r,l⟩:=hl i x v e1 e2 e3
   refine ⟨u,r,?_⟩
   rcases l with l | ⟨k,c,e,z⟩
   ·exact .inl l
   ·exact .inr ⟨k,c,e,cellM x c e _ z⟩
 ·obtain ⟨v,z⟩:=I.cell x c e
  exact ⟨v,cellM x c e v z⟩
 ·obtain ⟨e,n,ne,nf,d⟩:=I.pin p hp
  exact ⟨(m _ _ e fun z=>(hS _ z).1.2.2.2 p hp rfl).1 (nst _ ne nf),n,ne,nf,d⟩
 ·refine (I.hok b u e).stay (fun c v hc q=>?_) (fun _ q=>q) fun _ _ q=>q
  have ht:H c≠none:=by
   rcases hc with rfl | hc
   ·rw [e];exact fun z=>nomatch z
   ·rw [hc];exact fun z=>nomatch z
  exact (m c v q fun z=>ht (hS c z).2).1 fun z=>ht (I.stkFree c z)
end
def CXF (P:Program) (w:World):CXT:=fun outer H s E e s'=>∃ (ea:Addr) (cls:Value) (od:Option Addr) (S:List Addr) (H':Hp),e=.ref ea∧s'.os=s.os∧AllBare s'.gens ∧
 Un (frs outer) [] H H' s.heap s'.heap∧HOk P w H' s'.heap∧a6F s'.heap ea cls od S∧(∀ b∈S,s.heap.get? b=none∧H' b=none)∧E cls od H'
section
variable {P:Program} {w:World} {K:PySem.W.Frag} {mg:Str→Option Value} {base:Heap} {N:List Str} {qual:Str} {scope:Scope} {f:Addr} {cd:Value} {A:Around} {outer:List Env} {s₀:Shared} {H₀:Hp} {E:XK}
theorem a2t:a2b (CXF P w) (a5M (CXF P w) P w K mg base N qual scope f cd A outer s₀ H₀ E) E:=by
 intro pins σ H s e s' I h
 obtain ⟨ea,cls,od,S,H',rfl,os,bare,un,hok,lo,hS,q⟩:=h
 have I1:=I.call' (ch:=[]) os un hok bare (fun b z=>absurd z (by simp))
 show wpAny _ _ (leaving _ (.ref ea)) _ _ s'
 refine a9x I.ok.frames I1.stack rfl lo fun h' T m hs lo'=>?_
 have I2:Inv _ pins σ H' { s' with heap:=h',toks:=s'.toks }:=I1.moved (S:=S) m fun b hb=>⟨I.off (hS b hb).1,(hS b hb).2⟩
 have out:∀ b,Off (a5M (CXF P w) P w K mg base N qual scope f cd A outer s₀ H₀ E) pins b→s₀.heap.get? b=none:=fun b ob=>by
  cases e:s₀.heap.get? b with
  | none=>rfl
  | some o=>exact absurd (ob.1 o e) (by show b∉([]:List Addr);simp)
 refine ⟨ea,cls,od,[T,ea],H',rfl,I2.os,I2.bare,I2.base,I2.hok,lo',fun b hb=>?_,q⟩
 rcases List.mem_cons.mp hb with rfl | hb
 ·exact ⟨out _ (I1.off (Heap.get?_none_of_le hs)),I1.hok.fresh hs⟩
 ·rw [List.mem_singleton.mp hb]
  exact ⟨out _ (I.off (hS ea lo.1).1),(hS ea lo.1).2⟩
theorem Fun.okF {x qual:Str} {st:Stmt} {f:Addr} {fd:FuncData} {N ps:List Str} {k:Nat} {sp:Sp} (F:Fun K x qual st f fd) (S:a0r N ps (a0b st)) (len:∀ vs H Q E,sp vs H Q E→vs.length=ps.length)
  (hbody:∀ (cdv:Value) (A:Around) (outer:List Env) (s:Shared) (H:Hp) (vs:List V) (Q:VK) (E:XK),a2a k (A.deeper (envOfC qual (a0b st) s.heap.objs.size f cdv))→sp vs H Q E →
   ∃ t,PSs (a5M (CXF P w) P w K mg base N qual (a0b st) f cdv A outer s H E) (a0m st) t∧t { nx:=fun _ H'=>Q .non H',rt:=Q } (start N vs) H):a0W P w K mg base (CXF P w) (k+1) f fd ps sp:=by
 obtain ⟨oc,od,kV,doc,pm,an,cdv,ct,osl,rfl,lk,hcd⟩:=F.ex
 exact b1l lk hcd S len fun A outer s H vs Q E hr hsp=>hbody cdv A outer s H vs Q E hr hsp
end
abbrev bmVE:List Value:=[.type "ValueError",.type "Exception",.type "BaseException",.type "object"]
abbrev a6G:String:="ValueError.__new__"
structure Ecl (K:PySem.W.Frag) (C:Addr):Prop where
 ex:PySem.W.excIn K C bmVE a6G=true
theorem Ecl.obj {K:PySem.W.Frag} {C:Addr} (c:Ecl K C) {h:Heap} (X:K.In h):∃ bm N nm q bs hdct sn sub ab col dd k0 k1 k2 k3 k5 mN,h.get? C=some (excClassObj nm q C N bs bm hdct sn sub ab col dd k0 k1 k2 k3 k5 a6G)∧h.Ns N mN∧mN "__init__"=none∧OwnTail h bmVE bm:=by
 have q:=c.ex
 unfold PySem.W.excIn at q
 split at q
 ·rename_i dd cd sl ho
  split at q
  ·rename_i C' bm k0 k1 k2 k3 n k5 hm hs
   simp only [Bool.and_eq_true,beq_iff_eq,Bool.not_eq_true'] at q
   obtain ⟨⟨⟨⟨⟨rfl,rfl⟩,hdel⟩,ht⟩,hok⟩,hni⟩:=q
   obtain ⟨nm,bs,mro,ns,qn,hd,sn,sub,ab,col,del⟩:=cd
   dsimp only at hm hdel hok hni
   subst hm hdel
   obtain ⟨l⟩:=sl
   have hl:l=[k0,k1,k2,k3,some (.builtin a6G),k5]:=hs
   subst hl
   exact ⟨bm,ns,nm,qn,bs,hd,sn,sub,ab,col,dd,k0,k1,k2,k3,k5,_,X _ _ ho,.of_isNs (PySem.W.isNs_of_in X hok),PySem.W.nsMap_none_of_in X hok hni,PySem.W.tail_of_in X ht⟩
  ·cases q
 ·cases q
def tRaise (C:Addr) (E:XK) (ta:TA):TS:=fun _ σ H=>ta σ H fun vs H1=>vs.length≤1000∧E (.ref C) none H1
theorem a5R {X:Cx} {E:XK} {x:Str} {C:Addr} {np cpos pos:Pos} {e:Expr} {es:List Expr} {ta:TA} (hx:a2b (CXF X.prog X.w) X E) (hc:X.calm=true) (hg:Gl X x) (hm:X.mg x=some (.ref C)) (hcl:Ecl X.K C) (ha:PA X (e :: es) ta)
  (hdb:(x == ("__debug__":Str))=false:=by decide) (he:starEach (e :: es) X.env=(false,eval e X.env) :: starEach es X.env:=by rfl) (hpl:(backTo cpos (starEach (e :: es) X.env)).any (·.1)=false:=by rfl) :
  PS X (.Raise (some (.Call (.Name x np) (e :: es) [] cpos)) none pos) (tRaise C E ta):=by
 intro pins s σ H D I h
 obtain ⟨bm,N,nm,q,bs,hdct,sn,sub,ab,col,dd,k0,k1,k2,k3,k5,mN,hC,hN,hni,T⟩:=hcl.obj I.ok.mod.kin
 refine wpAny_Raise_call_subT (C:=C) (nm:=nm) (q:=q) (N:=N) (bs:=bs) (bm:=bm) (hdct:=hdct) (sn:=sn) (sub:=sub) (ab:=ab) (col:=col) (dd:=dd) (k0:=k0) (k1:=k1) (k2:=k2) (k3:=k3) (k5:=k5) PySem.F.excBase_ValueError (T.hasType (by decide +kernel)) (I.ok.hd hc) hpl hni (a3X I hg hm ⟨rfl,?_⟩ hdb)
 have ha':=ha cpos pins s σ H _ I h
 rw [he] at ha' ⊢
 refine Calls.evalArgs_plain (thn ha' fun us s1 ⟨vs,H1,I1,r,hl,q⟩=>?_)
 have kb:=I1.bk
 refine ⟨rfl,?_,kb _ _ hC,hN.keeps kb,T.keeps kb,fun h' ea me=>?_⟩
 ·show us.length≤sizeLine
  rw [←r.length]
  exact small hl
 ·refine hx pins σ H1 s1 (.ref ea) _ I1 ⟨ea,.ref C,none,[ea],H1,rfl,rfl,I1.bare,Un.kept me.keeps,I1.hok.kept me.keeps,?_,fun b hb=>?_,q⟩
  ·obtain ⟨t,ht,_,_⟩:=me.there
   refine ⟨List.mem_cons_self,fun b hb o ho=>?_,.none,⟨_,_,ht,rfl,rfl,rfl,rfl⟩,.inl rfl⟩
   rw [List.mem_singleton.mp hb,ht] at ho
   cases ho
   exact ⟨_,rfl⟩
  ·rw [List.mem_singleton.mp hb]
   exact ⟨me.new,I1.hok.none_of me.new⟩
abbrev Cx.hand (X:Cx) (ea:Addr):Cx:={ X with A:=X.A.mark (some (.ref ea)),calm:=false,xe:=fun _ _=>False }
section
variable {X:Cx} {pins pins':List (Addr × Obj)} {σ:St} {H:Hp} {s:Shared} {h':Heap} {ea:Addr} {xe:Value→Shared→Prop}
end
section
variable {K:PySem.W.Frag} {prog:Program} {w:World} {A:Around} {E:Value→Shared→Prop} {s:Shared} {x C:Addr} {ox:Obj} {od:Option Obj} {name:Str} {tk:Tok}
end
def xcIn (K:PySem.W.Frag) (C:Addr):Bool :=
 PySem.W.typeIn K (.ref C) == some (.type "type") && (PySem.W.clsIn K C).isSome && PySem.W.subIn K (.ref C) (.type "BaseException") == some true &&
 PySem.W.findIn K (.ref C) "__getattribute__" == some (some (.builtin "BaseException.__getattribute__")) && PySem.W.findIn K (.ref C) "__getattr__" == some none && PySem.W.findIn K (.ref C) "__class__" == some (some (.builtin "object.__class__")) &&
 PySem.W.mroIn K C (.type "object") == some true && PySem.W.specialIn K (.builtin "object.__class__") "__get__" == some (some (.builtin "getset_descriptor.__get__")) && PySem.W.takesIn K (.builtin "object.__class__") == some true &&
 PySem.W.subIn K (.ref C) (.ref C) == some true && PySem.W.subIn K (.ref C) (.type "ValueError") == some true
section
variable {K:PySem.W.Frag} {C D:Addr}
end
structure a7C (P:Program) (w:World) (K:PySem.W.Frag) (mg:Str→Option Value) (base:Heap) (ps:List Str) (name:Str) (sp:Sp) (k:Nat) where
 g:Addr
 gd:FuncData
 ok:a0W P w K mg base (CXF P w) k g gd ps sp
 b:a1z K gd ps []
 kp:PySem.W.keepIn K (.ref g)=true
 m:mg name=some (.ref g)
theorem b1I {P:Program} {w:World} {X:Cx}:a2b (CXF P w) X E0:=fun _ _ _ _ _ _ _ ⟨_,_,_,_,_,_,_,_,_,_,_,_,z⟩=>z.elim
def a7C.up {P:Program} {w:World} {K:PySem.W.Frag} {mg:Str→Option Value} {base:Heap} {ps:List Str} {name:Str} {sp:Sp} {j k:Nat} (f:a7C P w K mg base ps name sp j) (h:j≤k):a7C P w K mg base ps name sp k:=⟨f.g,f.gd,f.ok.mono h,f.b,f.kp,f.m⟩
def rEqLI:R2:=fun x y H Q=>∃ (a b:Addr) (ns ms:List Int),x=.ref a∧y=.ref b∧H a=some (.lst (ns.map V.int))∧H b=some (.lst (ms.map V.int))∧Q (.bl (decide (ns=ms))) H
theorem b1J {X:Cx} (hu:X.A.units+4 < cLine):OpR X (compareOp .Eq) rEqLI:=by
 intro pins s σ H x y v u Q I rx ry h
 obtain ⟨a,b,ns,ms,rfl,rfl,e1,e2,q⟩:=h
 cases rx;cases ry
 exact b1A (A:=X.A) (n:=0) EqK.int I.hok e1 e2 (Paired.ints ns) (Paired.ints ms) (by omega) _ _ _ _ ⟨.bl _,H,I,rfl,q⟩
def SIt:Bool→Heap→Addr→Addr→Nat→Prop
 | true,h,i,l,n=>h.IsTupleIter i l n
 | false,h,i,l,n=>h.IsListIter i l n
def SAt:Bool→Heap→Addr→Array Value→Prop
 | true,h,l,xs=>h.IsTuple l xs
 | false,h,l,xs=>h.IsList l xs
theorem SIt.at {k:Bool} {h h':Heap} {i l:Addr} {n:Nat} (x:SIt k h i l n) (e:∀ o,h.get? i=some o→h'.get? i=some o):SIt k h' i l n:=by
 cases k with
 | true=>obtain ⟨o,ho,r⟩:=x;exact ⟨o,e o ho,r⟩
 | false=>obtain ⟨o,ho,r⟩:=x;exact ⟨o,e o ho,r⟩
theorem SIt.obj {k:Bool} {h:Heap} {i l:Addr} {n:Nat} (x:SIt k h i l n):∃ o,h.get? i=some o∧∀ v,o.data≠.cell v:=by
 cases k with
 | true=>obtain ⟨o,ho,_,d⟩:=x;exact ⟨o,ho,fun v z=>by rw [d] at z;cases z⟩
 | false=>obtain ⟨o,ho,_,d⟩:=x;exact ⟨o,ho,fun v z=>by rw [d] at z;cases z⟩
theorem SAt.at {k:Bool} {h h':Heap} {l:Addr} {xs:Array Value} (x:SAt k h l xs) (e:∀ o,h.get? l=some o→h'.get? l=some o):SAt k h' l xs:=by
 cases k with
 | true=>obtain ⟨o,ho,r⟩:=x;exact ⟨o,e o ho,r⟩
 | false=>obtain ⟨o,ho,r⟩:=x;exact ⟨o,e o ho,r⟩
section
variable {prog:Program} {w:World} {A:Around} {E:Value→Shared→Prop} {s:Shared} {k:Bool} {it l:Addr} {i:Nat} {xs:Array Value} {x:Value} {Q:Value→Shared→Prop}
theorem b1K (hit:SIt k s.heap it l i) (hl:SAt k s.heap l xs) (hx:xs[i]?=some x) (hQ:∀ h',SIt k h' it l (i+1)→Heap.SameBut it s.heap h'→Q x { s with heap:=h' }) :
  wpAny (model prog w) A (Builtin.SmallTypes.nextOf (.ref it)) Q E s:=by
 cases k with
 | false=>exact wpAny_nextOf_list_item hit hl hx hQ
 | true =>
  have hit':s.heap.IsTupleIter it l i:=hit
  obtain ⟨o,ho,hc,hd⟩:=id hit'
  obtain ⟨ol,hol,_,nl,hdl⟩:=hl
  unfold Builtin.SmallTypes.nextOf
  refine wpAny_bind (wpAny_callSpecial?_slot (name:=Str.ofString "__next__") hit'.typeIs F.slot_tuple_iterator_next (wpAny_call_entry F.slot_tuple_iterator_next hit'.typeIs F.entry_tuple_iterator_next ?_ (F.args_tuple_iterator_next_1 _)))
  show wpAny _ _ (field (.ref it) 0 >>= _) _ _ s
  refine wpAny_bind (wpAny_field ho hd (x:=.ref l) rfl ?_)
  show wpAny _ _ (if (Value.ref l == Value.none)=true then _ else _) _ _ s
  rw [if_neg (show ¬ ((Value.ref l == Value.none)=true) from Bool.false_ne_true)]
  show wpAny _ _ (field (.ref it) 1 >>= _) _ _ s
  refine wpAny_bind (wpAny_field ho hd (x:=.int i 0) rfl (show wpAny _ _ (seqItems? (.ref l) >>= _) _ _ s from wpAny_bind (wpAny_seqItems hol hdl ?_)))
  simp only [Int.toNat_natCast,hx]
  refine wpAny_bind (wpAny_setField ho hd (by simp) (wpAny_pure ⟨x,rfl,wpAny_pure (hQ _ ?_ (Heap.SameBut.update ..))⟩))
  exact ⟨_,Heap.get?_update_self _ ho (Obj.isFreed_of_fields (Obj.data_mapFields hd _)),(Obj.cls_mapFields ..).trans hc,by rw [Obj.data_mapFields hd];simp [rawInt]⟩
theorem endS (hh:A.handled=none) (hit:SIt k s.heap it l i) (hl:SAt k s.heap l xs) (hx:xs[i]?=none) (hE:∀ h' e,Heap.ExtBut it s.heap h'→(∃ o,h'.get? e=some o∧o.cls=.type "StopIteration")→E (.ref e) { s with heap:=h' }) :
  wpAny (model prog w) A (Builtin.SmallTypes.nextOf (.ref it)) Q E s:=by
 cases k with
 | false=>exact wpAny_nextOf_list_end hh hit hl hx hE
 | true =>
  have hit':s.heap.IsTupleIter it l i:=hit
  obtain ⟨o,ho,hc,hd⟩:=id hit'
  obtain ⟨ol,hol,_,nl,hdl⟩:=hl
  unfold Builtin.SmallTypes.nextOf
  refine wpAny_bind (wpAny_callSpecial?_slot (name:=Str.ofString "__next__") hit'.typeIs F.slot_tuple_iterator_next (wpAny_call_entry F.slot_tuple_iterator_next hit'.typeIs F.entry_tuple_iterator_next ?_ (F.args_tuple_iterator_next_1 _)))
  show wpAny _ _ (field (.ref it) 0 >>= _) _ _ s
  refine wpAny_bind (wpAny_field ho hd (x:=.ref l) rfl ?_)
  show wpAny _ _ (if (Value.ref l == Value.none)=true then _ else _) _ _ s
  rw [if_neg (show ¬ ((Value.ref l == Value.none)=true) from Bool.false_ne_true)]
  show wpAny _ _ (field (.ref it) 1 >>= _) _ _ s
  refine wpAny_bind (wpAny_field ho hd (x:=.int i 0) rfl (show wpAny _ _ (seqItems? (.ref l) >>= _) _ _ s from wpAny_bind (wpAny_seqItems hol hdl ?_)))
  simp only [Int.toNat_natCast,hx]
  refine wpAny_bind (wpAny_rule (wpAny_bind (wpAny_setField ho hd (by simp) ?_)))
  show wpAny _ _ (newExc (.type "StopIteration") [] >>= _) _ _ _
  refine wpAny_bind ?_
  simp only [newExc,newTuple]
  refine wpAny_bind (wpAny_newObj_type ?_ (by size_fits))
  refine wpAny_bind (m:=firstArgMember _ _) (wpAny_of_eq (a:=Value.none) (by first | rfl | (simp only [firstArgMember];rfl)) ?_)
  refine wpAny_newObj_type ?_ (by size_fits)
  simp only [raiseNew]
  refine wpAny_bind (wpAny_handled ?_)
  rw [show A.in1.handled=none from hh]
  refine wpAny_bind (wpAny_pure (wpAny_throw ?_))
  exact hE _ _ (((Heap.SameBut.update ..).extBut.push _).push _) ⟨_,Heap.get?_push_size _ rfl,rfl⟩
end
structure ZAt (ka kb:Bool) (z TI TO i1 i2 l1 l2:Addr) (n:Nat) (h:Heap):Prop where
 zp:IsZip h z TI TO .none
 ti:IsPair h TI (.ref i1) (.ref i2)
 to_:∃ a b,IsPair h TO a b
 a1:SIt ka h i1 l1 n
 a2:SIt kb h i2 l2 n
section
variable {prog:Program} {w:World} {A:Around} {E:Value→Shared→Prop} {s:Shared} {ka kb:Bool} {z TI TO i1 i2 l1 l2:Addr} {n:Nat} {xs ys:Array Value} {x y:Value}
theorem a7D {Q:Value→Shared→Prop} (D:ZipApart z TI TO i1 i2 l1 l2) (Z:ZAt ka kb z TI TO i1 i2 l1 l2 n s.heap) (hl1:SAt ka s.heap l1 xs) (hl2:SAt kb s.heap l2 ys) (hx:xs[n]?=some x) (hy:ys[n]?=some y)
  (hQ:∀ h',IsZip h' z TI TO (rawInt s.heap.objs.size)→IsPair h' TO x y→SIt ka h' i1 l1 (n+1)→SIt kb h' i2 l2 (n+1)→IsPair h' s.heap.objs.size x y →
   (∀ c o,c≠z→c≠TO→c≠i1→c≠i2→s.heap.get? c=some o→h'.get? c=some o)→Q (.ref s.heap.objs.size) { s with heap:=h' }) :
  wpAny (model prog w) A (Builtin.«zip.__next__» ⟨[.ref z],[]⟩) (fun fin s'=>∃ v,fin=.done (.ret v)∧Q v s') E s:=by
 obtain ⟨hz,hTI,⟨a,b,hTO⟩,h1,h2⟩:=Z
 show wpAny _ _ (field (.ref z) 2 >>= _) _ _ _
 refine wpAny_bind (wpAny_field hz rfl (x:=.bool false) rfl ?_)
 show wpAny _ _ (field (.ref z) 3 >>= _) _ _ _
 refine wpAny_bind (wpAny_field hz rfl (x:=.ref TI) rfl (wpAny_bind (wpAny_seqItems hTI rfl ?_)))
 show wpAny _ _ (Builtin.SmallTypes.ownedTupleIsFree (.ref z) >>= _) _ _ _
 refine wpAny_bind ?_
 unfold Builtin.SmallTypes.ownedTupleIsFree
 refine wpAny_bind (wpAny_field hz rfl (x:=.none) rfl (wpAny_pure ?_))
 simp only [if_true]
 refine wpAny_bind (wpAny_rule (wpAny_bind (wpAny_field hz rfl (x:=.ref TO) rfl (wpAny_bind (wpAny_setField_rec hz (by simp) fun g1 z1 b1=>?_)))))
 have z1':IsZip g1 z TI TO .ellipsis:=z1
 have k1:∀ c o,c≠z→s.heap.get? c=some o→g1.get? c=some o:=fun c o hc e=>b1.extBut _ _ hc e
 refine wpAny_bind ?_
 simp only [List.zipIdx_cons,List.zipIdx_nil,List.forIn_cons,List.forIn_nil]
 refine wpAny_bind (wpAny_bind (wpAny_onRaise ?_))
 show wpAny _ _ (Builtin.SmallTypes.nextOf (.ref i1) >>= _) _ _ _
 refine wpAny_bind (b1K (s:={ s with heap:=g1 }) (h1.at fun o e=>k1 _ o D.i1z e) (hl1.at fun o e=>k1 _ o D.l1z e) hx fun g2 h12 b2=>wpAny_pure ?_)
 have k2:∀ c o,c≠z→c≠i1→s.heap.get? c=some o→g2.get? c=some o:=fun c o hc hd e=>b2.extBut _ _ hd (k1 c o hc e)
 have o2:IsPair g2 TO a b:=k2 _ _ D.TOz D.TOi1 hTO
 refine wpAny_bind (wpAny_seqItems o2 rfl (wpAny_bind (wpAny_updateSeq_pair (s:={ s with heap:=g2 }) o2 fun g3 o3 b3=>?_)))
 have o3':IsPair g3 TO x b:=o3
 refine wpAny_bind (wpAny_letGo (wpAny_pure ?_))
 refine wpAny_bind (wpAny_bind (wpAny_onRaise ?_))
 show wpAny _ _ (Builtin.SmallTypes.nextOf (.ref i2) >>= _) _ _ _
 have k3:∀ c o,c≠z→c≠i1→c≠TO→s.heap.get? c=some o→g3.get? c=some o:=fun c o hc hd he e=>b3.extBut _ _ he (k2 c o hc hd e)
 refine wpAny_bind (b1K (s:={ s with heap:=g3 }) (h2.at fun o e=>k3 _ o D.i2z D.i12.symm D.TOi2.symm e) (hl2.at fun o e=>k3 _ o D.l2z D.l2i1 D.l2TO e) hy fun g4 h24 b4=>wpAny_pure ?_)
 have o4:IsPair g4 TO x b:=b4.extBut _ _ D.TOi2 o3'
 refine wpAny_bind (wpAny_seqItems o4 rfl (wpAny_bind (wpAny_updateSeq_pair (s:={ s with heap:=g4 }) o4 fun g5 o5 b5=>?_)))
 have o5':IsPair g5 TO x y:=o5
 refine wpAny_bind (wpAny_letGo (wpAny_pure (wpAny_pure ?_)))
 refine wpAny_bind (wpAny_seqItems o5' rfl (wpAny_bind (wpAny_newTuple ?_)))
 have sz:g5.objs.size=s.heap.objs.size:=by rw [b5.1,b4.1,b3.1,b2.1,b1.1]
 have z5:IsZip g5 z TI TO .ellipsis:=b5.extBut _ _ D.TOz.symm (b4.extBut _ _ D.i2z.symm (b3.extBut _ _ D.TOz.symm (b2.extBut _ _ D.i1z.symm z1')))
 have k5:∀ c o,c≠z→c≠TO→c≠i1→c≠i2→s.heap.get? c=some o→g5.get? c=some o:=fun c o c1 c2 c3 c4 e=>b5.extBut _ _ c2 (b4.extBut _ _ c4 (k3 c o c1 c3 c2 e))
 have h15:SIt ka g5 i1 l1 (n+1):=h12.at fun o e=>b5.extBut _ _ D.TOi1.symm (b4.extBut _ _ D.i12 (b3.extBut _ _ D.TOi1.symm e))
 have h25:SIt kb g5 i2 l2 (n+1):=h24.at fun o e=>b5.extBut _ _ D.TOi2.symm e
 have zl:z < g5.objs.size:=Heap.lt_size z5
 show wpAny _ _ (Builtin.SmallTypes.ownedTupleHandOut (.ref z) (.ref g5.objs.size) >>= _) _ _ _
 refine wpAny_bind ?_
 unfold Builtin.SmallTypes.ownedTupleHandOut
 have z6:IsZip (g5.push { cls:=.type "tuple",data:=.seq #[x,y] }) z TI TO .ellipsis:=Heap.get?_push_of_some _ z5
 refine wpAny_bind (wpAny_setField_rec z6 (by simp) fun g7 z7 b7=>?_)
 replace z7:IsZip g7 z TI TO (rawInt g5.objs.size):=z7
 refine wpAny_setField_rec z7 (by simp) fun g8 z8 b8=>?_
 replace z8:IsZip g8 z TI TO (rawInt g5.objs.size):=z8
 have up:∀ c o,c≠z→g5.get? c=some o→g8.get? c=some o:=fun c o c1 e=>b8.extBut _ _ c1 (b7.extBut _ _ c1 (Heap.get?_push_of_some _ e))
 have p8:IsPair g8 g5.objs.size x y:=b8.extBut _ _ (Nat.ne_of_gt zl) (b7.extBut _ _ (Nat.ne_of_gt zl) (Heap.get?_push_size _ rfl))
 rw [sz] at z8 p8
 refine wpAny_pure ⟨_,rfl,?_⟩
 show Q (.ref g5.objs.size) _
 rw [sz]
 exact hQ g8 z8 (up _ _ D.TOz o5') (h15.at fun o e=>up _ o D.i1z e) (h25.at fun o e=>up _ o D.i2z e) p8 fun c o c1 c2 c3 c4 e=>up c o c1 (k5 c o c1 c2 c3 c4 e)
theorem a9y {Q:Fin→Shared→Prop} (hh:A.handled=none) (D:ZipApart z TI TO i1 i2 l1 l2) (Z:ZAt ka kb z TI TO i1 i2 l1 l2 n s.heap) (hl1:SAt ka s.heap l1 xs) (hl2:SAt kb s.heap l2 ys) (hend:xs[n]?=none∨ys[n]?=none)
  (hE:∀ h' e,(∀ c o,c≠z→c≠TO→c≠i1→c≠i2→s.heap.get? c=some o→h'.get? c=some o)→(∃ o,h'.get? e=some o∧o.cls=.type "StopIteration")→E (.ref e) { s with heap:=h' }) :
  wpAny (model prog w) A (Builtin.«zip.__next__» ⟨[.ref z],[]⟩) Q E s:=by
 obtain ⟨hz,hTI,⟨a,b,hTO⟩,h1,h2⟩:=Z
 show wpAny _ _ (field (.ref z) 2 >>= _) _ _ _
 refine wpAny_bind (wpAny_field hz rfl (x:=.bool false) rfl ?_)
 show wpAny _ _ (field (.ref z) 3 >>= _) _ _ _
 refine wpAny_bind (wpAny_field hz rfl (x:=.ref TI) rfl (wpAny_bind (wpAny_seqItems hTI rfl ?_)))
 show wpAny _ _ (Builtin.SmallTypes.ownedTupleIsFree (.ref z) >>= _) _ _ _
 refine wpAny_bind ?_
 unfold Builtin.SmallTypes.ownedTupleIsFree
 refine wpAny_bind (wpAny_field hz rfl (x:=.none) rfl (wpAny_pure ?_))
 simp only [if_true]
 refine wpAny_bind (wpAny_rule (wpAny_bind (wpAny_field hz rfl (x:=.ref TO) rfl (wpAny_bind (wpAny_setField_rec hz (by simp) fun g1 z1 b1=>?_)))))
 have z1':IsZip g1 z TI TO .ellipsis:=z1
 have k1:∀ c o,c≠z→s.heap.get? c=some o→g1.get? c=some o:=fun c o hc e=>b1.extBut _ _ hc e
 refine wpAny_bind ?_
 simp only [List.zipIdx_cons,List.zipIdx_nil,List.forIn_cons,List.forIn_nil]
 refine wpAny_bind (wpAny_bind (wpAny_onRaise ?_))
 show wpAny _ _ (Builtin.SmallTypes.nextOf (.ref i1) >>= _) _ _ _
 cases hx:xs[n]? with
 | none =>
  refine wpAny_bind (endS (s:={ s with heap:=g1 }) hh (h1.at fun o e=>k1 _ o D.i1z e) (hl1.at fun o e=>k1 _ o D.l1z e) hx fun g2 e b2 ⟨oe,he,ce⟩=>?_)
  have z2:IsZip g2 z TI TO .ellipsis:=b2 _ _ D.i1z.symm z1'
  have ez:e≠z:=fun q=>by subst q;rw [z2] at he;cases he;simp at ce
  exact wpAny_setField_rec z2 (by simp) fun g3 _ b3=>hE g3 e (fun c o c1 _ c3 _ q=>b3.extBut _ _ c1 (b2 _ _ c3 (k1 c o c1 q))) ⟨oe,b3.extBut _ _ ez he,ce⟩
 | some x =>
  have hy:ys[n]?=none:=hend.resolve_left fun q=>by rw [hx] at q;cases q
  refine wpAny_bind (b1K (s:={ s with heap:=g1 }) (h1.at fun o e=>k1 _ o D.i1z e) (hl1.at fun o e=>k1 _ o D.l1z e) hx fun g2 h12 b2=>wpAny_pure ?_)
  have k2:∀ c o,c≠z→c≠i1→s.heap.get? c=some o→g2.get? c=some o:=fun c o hc hd e=>b2.extBut _ _ hd (k1 c o hc e)
  have o2:IsPair g2 TO a b:=k2 _ _ D.TOz D.TOi1 hTO
  refine wpAny_bind (wpAny_seqItems o2 rfl (wpAny_bind (wpAny_updateSeq_pair (s:={ s with heap:=g2 }) o2 fun g3 o3 b3=>?_)))
  refine wpAny_bind (wpAny_letGo (wpAny_pure ?_))
  refine wpAny_bind (wpAny_bind (wpAny_onRaise ?_))
  show wpAny _ _ (Builtin.SmallTypes.nextOf (.ref i2) >>= _) _ _ _
  have k3:∀ c o,c≠z→c≠i1→c≠TO→s.heap.get? c=some o→g3.get? c=some o:=fun c o hc hd he e=>b3.extBut _ _ he (k2 c o hc hd e)
  refine wpAny_bind (endS (s:={ s with heap:=g3 }) hh (h2.at fun o e=>k3 _ o D.i2z D.i12.symm D.TOi2.symm e) (hl2.at fun o e=>k3 _ o D.l2z D.l2i1 D.l2TO e) hy fun g4 e b4 ⟨oe,he,ce⟩=>?_)
  have z4:IsZip g4 z TI TO .ellipsis:=b4 _ _ D.i2z.symm (b3.extBut _ _ D.TOz.symm (b2.extBut _ _ D.i1z.symm z1'))
  have ez:e≠z:=fun q=>by subst q;rw [z4] at he;cases he;simp at ce
  exact wpAny_setField_rec z4 (by simp) fun g5 _ b5=>hE g5 e (fun c o c1 c2 c3 c4 q=>b5.extBut _ _ c1 (b4 _ _ c4 (k3 c o c1 c3 c2 q))) ⟨oe,b5.extBut _ _ ez he,ce⟩
theorem a7E {Q:Option Value→Shared→Prop} (D:ZipApart z TI TO i1 i2 l1 l2) (Z:ZAt ka kb z TI TO i1 i2 l1 l2 n s.heap) (hl1:SAt ka s.heap l1 xs) (hl2:SAt kb s.heap l2 ys) (hx:xs[n]?=some x) (hy:ys[n]?=some y)
  (hQ:∀ h',IsZip h' z TI TO (rawInt s.heap.objs.size)→IsPair h' TO x y→SIt ka h' i1 l1 (n+1)→SIt kb h' i2 l2 (n+1)→IsPair h' s.heap.objs.size x y →
   (∀ c o,c≠z→c≠TO→c≠i1→c≠i2→s.heap.get? c=some o→h'.get? c=some o)→Q (some (.ref s.heap.objs.size)) { s with heap:=h' }):wpAny (model prog w) A (pyNext (.ref z)) Q E s:=by
 have hT:s.TypeIs (.ref z) "zip":=⟨_,Z.zp,rfl⟩
 unfold pyNext
 exact wpAny_bind (wpAny_attempt (wpAny_callSpecial?_slot (name:=Str.ofString "__next__") hT F.slot_zip_next (wpAny_call_entry F.slot_zip_next hT F.entry_zip_next
  (a7D D Z hl1 hl2 hx hy fun h' a1 a2 a3 a4 a5 a7=>wpAny_pure (hQ h' a1 a2 a3 a4 a5 a7)) (F.args_zip_next_1 _))))
theorem a7F {Q:Option Value→Shared→Prop} (hh:A.handled=none) (D:ZipApart z TI TO i1 i2 l1 l2) (Z:ZAt ka kb z TI TO i1 i2 l1 l2 n s.heap) (hl1:SAt ka s.heap l1 xs) (hl2:SAt kb s.heap l2 ys) (hend:xs[n]?=none∨ys[n]?=none)
  (hQ:∀ h',(∀ c o,c≠z→c≠TO→c≠i1→c≠i2→s.heap.get? c=some o→h'.get? c=some o)→Q none { s with heap:=h' }):wpAny (model prog w) A (pyNext (.ref z)) Q E s:=by
 have hT:s.TypeIs (.ref z) "zip":=⟨_,Z.zp,rfl⟩
 unfold pyNext
 refine wpAny_bind (wpAny_attempt (wpAny_callSpecial?_slot (name:=Str.ofString "__next__") hT F.slot_zip_next (wpAny_call_entry F.slot_zip_next hT F.entry_zip_next (a9y hh D Z hl1 hl2 hend fun h' e hk he=>?_) (F.args_zip_next_1 _))))
 obtain ⟨o,ho,hc⟩:=he
 exact wpAny_bind (wpAny_isInstance (T:="StopIteration") (b:=true) ⟨o,ho,hc⟩ isSubtype_stop (wpAny_pure (hQ _ hk)))
end
def SqK (K:PySem.W.Frag):Bool→Hp→Addr→List V→Prop
 | true,H,a,xs=>SqT K H a xs
 | false,H,a,xs=>SqL K H a xs
theorem b2P {X:Cx} {pins:List (Addr × Obj)} {σ:St} {H:Hp} {s:Shared} {k:Bool} {a:Addr} {xs:List V} (I:Inv X pins σ H s) (h:SqK X.K k H a xs):∃ us,a0O xs us∧SAt k s.heap a us.toArray:=by
 cases k with
 | true =>
  obtain ⟨its,rv,p,hz⟩:=I.tuple h
  exact ⟨its,rv,p⟩
 | false =>
  obtain ⟨its,rv,p,hz⟩:=I.list h
  exact ⟨its,rv,p.isList⟩
theorem a5S {X:Cx} {pins:List (Addr × Obj)} {σ:St} {H:Hp} {s:Shared} {k:Bool} {a:Addr} {xs ys:List V} (I:Inv X pins σ H s) (h:SqK X.K k H a xs) (h2:SqK X.K k H a ys):xs=ys:=by
 cases k with
 | true=>exact I.tuple_inj h h2
 | false=>exact I.list_inj h h2
theorem Inv.turnedL {X:Cx} {pins:List (Addr × Obj)} {σ:St} {H:Hp} {s:Shared} {h':Heap} {t':Nat} {L:List Addr} (I:Inv X pins σ H s) (k:∀ b o,b∉L→s.heap.get? b=some o→h'.get? b=some o) (hf:∀ b∈L,a8Z X pins H b):Inv X pins σ H { s with heap:=h',toks:=t' }:=by
 have nit:∀ b u,H b=some u→b∉L:=fun b u e z=>by rw [(hf b z).1] at e;cases e
 have nl:X.env.locals∉L:=fun z=>(hf _ z).2.1 rfl
 refine I.step (g':=s.gens) (d':=s.drawn) (ch:=L) (fun b hb=>?_) (fun b o _ _ hc e _=>k b o hc e) (fun b o _ _ hc e _=>⟨o.slots,k b o hc e⟩) (fun _ _ _ _ n=>n)
  (fun b o hc e=>⟨o,k b o hc e⟩) (fun _ _ e=>e) (fun _ _ _ e=>e) (fun b ps e=>⟨#[],by rw [e];simp⟩) (fun m hm=>?_) (fun b u e=>?_) I.bare
 ·obtain ⟨f0,f1,f2,f3,f4,f5⟩:=hf b hb
  exact ⟨f3,f1,f4,f5⟩
 ·obtain ⟨o,es,ep,ho,r⟩:=hm
  exact ⟨o,es,ep,k _ o nl ho,r⟩
 ·refine (I.hok b u e).stay (fun c v hc q=>k c v ?_ q) (fun _ q=>q) fun _ _ q=>q
  rcases hc with z | z
  ·rw [z];exact nit b u e
  ·exact nit c _ z
def Itz (K:PySem.W.Frag) (ka kb:Bool) (a b:Addr):It :=
 ⟨fun i H=>∃ xs ys x y,SqK K ka H a xs∧SqK K kb H b ys∧xs[i]?=some x∧ys[i]?=some y,
  fun i H v H'=>∃ p x y,v=.ref p∧H p=none∧(∀ xs,SqK K ka H a xs→xs[i]?=some x)∧(∀ ys,SqK K kb H b ys→ys[i]?=some y)∧H'=upd H p (.tup [x,y]),
  fun i H=>∃ xs ys,SqK K ka H a xs∧SqK K kb H b ys∧(xs.length≤i∨ys.length≤i)⟩
theorem ZAt.obj {ka kb:Bool} {z TI TO i1 i2 l1 l2:Addr} {n:Nat} {h:Heap} (Z:ZAt ka kb z TI TO i1 i2 l1 l2 n h):∀ b∈[z,TI,TO,i1,i2],∃ o,h.get? b=some o∧∀ v,o.data≠.cell v:=fun b hb=>by
 obtain ⟨hz,hTI,⟨x,y,hTO⟩,h1,h2⟩:=Z
 simp only [List.mem_cons,List.not_mem_nil,or_false] at hb
 rcases hb with rfl | rfl | rfl | rfl | rfl
 ·exact ⟨_,hz,fun v z=>by cases z⟩
 ·exact ⟨_,hTI,fun v z=>by cases z⟩
 ·exact ⟨_,hTO,fun v z=>by cases z⟩
 ·exact h1.obj
 ·exact h2.obj
theorem a9z {P:Program} {w:World} {K:PySem.W.Frag} {elts:List Expr} {x1} {pos:Pos} {ka kb:Bool} {z TI TO i1 i2 a b:Addr} (D:ZipApart z TI TO i1 i2 a b):b2N P w K (.Tuple elts x1 pos) (Itz K ka kb a b) [z,TI,TO,i1,i2] z (fun n h=>ZAt ka kb z TI TO i1 i2 a b n h) where
 mem:=by simp
 obj:=fun i h st=>st.obj
 keep:=fun i h h' ⟨hz,hTI,⟨x,y,hTO⟩,h1,h2⟩ k=>⟨k z (by simp) _ hz,k TI (by simp) _ hTI,⟨x,y,k TO (by simp) _ hTO⟩,h1.at fun o e=>k i1 (by simp) o e,h2.at fun o e=>k i2 (by simp) o e⟩
 item:=by
  intro X hP hw hK hc i pins s σ H E I hf st hg
  subst hP hw hK
  obtain ⟨xs,ys,x,y,q1,q2,hx,hy⟩:=hg
  obtain ⟨us,r1,p1⟩:=b2P I q1
  obtain ⟨vs,r2,p2⟩:=b2P I q2
  obtain ⟨u,hu,ru⟩:=r1.get hx
  obtain ⟨v,hv,rv⟩:=r2.get hy
  have lt:∀ b∈[z,TI,TO,i1,i2],b < s.heap.objs.size:=fun b hb=>by
   obtain ⟨o,ho,_⟩:=st.obj b hb
   exact Heap.lt_size ho
  refine a7E D st p1 p2 (x:=u) (y:=v) (by simpa using hu) (by simpa using hv) fun h' z1 o1 a1 a2 pr kk=>?_
  refine ⟨_,rfl,wpAny_letOwnedTupleGo_zip (s:={ s with heap:=h' }) z1 fun h2 z2 b2=>?_⟩
  have hT:H s.heap.objs.size=none:=I.hok.fresh (Nat.le_refl _)
  have I1:Inv X pins σ (upd H s.heap.objs.size (.tup [x,y])) { s with heap:=s.heap.push { cls:=.type "tuple",data:=.seq #[u,v] } }:=I.laid (t':=s.toks) (fun b u e=>Heap.get?_push_of_some _ e) (Nat.le_refl _) ⟨by show 2≤sizeLine;decide,[u,v],.cons ru (.cons rv .nil),⟨_,Heap.get?_push_size _ rfl,_,rfl⟩⟩
  have Tz:s.heap.objs.size≠z:=Nat.ne_of_gt (lt z (by simp))
  have fp:∀ b∈[z,TI,TO,i1,i2],a8Z X pins (upd H s.heap.objs.size (.tup [x,y])) b:=fun b hb=>by
   obtain ⟨f0,f1,f2,f3,f4,f5⟩:=hf b hb
   exact ⟨by rw [a0i (Nat.ne_of_lt (lt b hb))];exact f0,f1,f2,f3,f4,f5⟩
  have I2:=I1.turnedL (h':=h2) (t':=s.toks) (fun c o hc e=>by
   simp only [List.mem_cons,List.not_mem_nil,or_false,not_or] at hc
   by_cases zc:c=s.heap.objs.size
   ·subst zc
    rw [Heap.get?_push_size _ rfl] at e
    cases e
    exact b2.extBut _ _ Tz pr
   ·have e':s.heap.get? c=some o:=by rw [←e];exact (Heap.get?_push_ne _ _ _ zc).symm
    exact b2.extBut _ _ hc.1 (kk c o hc.1 hc.2.2.1 hc.2.2.2.1 hc.2.2.2.2 e')) fp
  refine ⟨.ref s.heap.objs.size,_,I2,rfl,⟨_,x,y,rfl,hT,fun zs hz=>?_,fun zs hz=>?_,rfl⟩,⟨z2,b2.extBut _ _ D.TIz (kk _ _ D.TIz D.TITO D.TIi1 D.TIi2 st.ti),⟨u,v,b2.extBut _ _ D.TOz o1⟩,a1.at fun o e=>b2.extBut _ _ D.i1z e,a2.at fun o e=>b2.extBut _ _ D.i2z e⟩,fun b hb=>(fp b hb).1⟩
  ·rw [a5S I hz q1];exact hx
  ·rw [a5S I hz q2];exact hy
 done:=by
  intro X hP hw hK hc i pins s σ H E I hf st hg
  subst hP hw hK
  obtain ⟨xs,ys,q1,q2,hl⟩:=hg
  obtain ⟨us,r1,p1⟩:=b2P I q1
  obtain ⟨vs,r2,p2⟩:=b2P I q2
  have e1:=r1.length
  have e2:=r2.length
  refine a7F (I.ok.hd hc) D st p1 p2 (hl.elim (fun q=>.inl (by simp;omega)) fun q=>.inr (by simp;omega)) fun h' kk=>⟨rfl,I.turnedL (t':=s.toks) (fun c o hc e=>?_) hf⟩
  simp only [List.mem_cons,List.not_mem_nil,or_false,not_or] at hc
  exact kk c o hc.1 hc.2.2.1 hc.2.2.2.1 hc.2.2.2.2 e
 self:=fun _ _ _ _ _ st h=>wpAny_pyIter_zip st.zp h
def itO (k:Bool) (l:Addr):Obj:=match k with
 | true=>{ cls:=.type "tuple_iterator",data:=.fields #[.ref l,.int 0 0] }
 | false=>{ cls:=.type "list_iterator",data:=.fields #[.ref l,.int 0 0] }
theorem a7G {prog:Program} {w:World} {A:Around} {E:Value→Shared→Prop} {s:Shared} {k:Bool} {l:Addr} {xs:Array Value} {Q:Value→Shared→Prop} (h:SAt k s.heap l xs) (hQ:Q (.ref s.heap.objs.size) { s with heap:=s.heap.push (itO k l) }) :
  wpAny (model prog w) A (pyIter (.ref l)) Q E s:=by
 cases k with
 | true=>exact wpAny_pyIter_tuple h hQ
 | false=>exact wpAny_pyIter_list h hQ
theorem a5T {k:Bool} {l:Addr}:(itO k l).isFreed=false:=by cases k <;> rfl
theorem SIt.new {k:Bool} {l i:Addr} {h:Heap} (e:h.get? i=some (itO k l)):SIt k h i l 0:=by
 cases k with
 | true=>exact ⟨_,e,rfl,rfl⟩
 | false=>exact ⟨_,e,rfl,rfl⟩
def a9A (h:Heap) (ka kb:Bool) (l1 l2:Addr):Heap:=((((h.push (itO ka l1)).push (itO kb l2)).push { cls:=.type "tuple",data:=.seq #[.ref h.objs.size,.ref (h.push (itO ka l1)).objs.size] }).push { cls:=.type "tuple",data:=.seq #[.none,.none] }).push
 { cls:=.type "zip",data:=.fields #[.none,.bool false,.bool false,.ref ((h.push (itO ka l1)).push (itO kb l2)).objs.size,.ref (((h.push (itO ka l1)).push (itO kb l2)).push { cls:=.type "tuple",data:=.seq #[.ref h.objs.size,.ref (h.push (itO ka l1)).objs.size] }).objs.size] }
theorem meetsS (ka kb:Bool) (l1 l2:Addr) (xs ys:Array Value) :
  Meets (Builtin.«zip.__new__» ⟨[.type "zip",.ref l1,.ref l2],[]⟩) (fun _ R s=>SAt ka s.heap l1 xs∧SAt kb s.heap l2 ys∧R (.ok (.ret (.ref (s.heap.objs.size+4)))) { s with heap:=a9A s.heap ka kb l1 l2 }) :=
 .of_wp fun prog w A R s h=>by
  obtain ⟨hp,g,d,tk,os⟩:=s
  obtain ⟨hl1,hl2,h⟩:=h
  have hsub:=sub_zip
  have hL1:SAt ka (Shared.heap ⟨hp,g,d,tk,os⟩) l1 xs:=hl1
  have hL2:SAt kb (Shared.heap ⟨hp.push (itO ka l1),g,d,tk,os⟩) l2 ys:=hl2.at fun o e=>Heap.get?_push_of_some _ e
  wp_walk using a7G hL1,a7G hL2
  refine ⟨_,rfl,?_⟩
  have z:((((hp.push (itO ka l1)).push (itO kb l2)).push { cls:=.type "tuple",data:=.seq #[.ref hp.objs.size,.ref (hp.push (itO ka l1)).objs.size] }).push { cls:=.type "tuple",data:=.seq #[.none,.none] }).objs.size=hp.objs.size+4:=by
   rw [Heap.size_push,Heap.size_push,Heap.size_push,Heap.size_push]
  rw [←z] at h
  exact h
theorem callS {prog:Program} {w:World} {A:Around} {E:Value→Shared→Prop} {s:Shared} {ka kb:Bool} {l1 l2:Addr} {xs ys:Array Value} {Q:Value→Shared→Prop} (h1:SAt ka s.heap l1 xs) (h2:SAt kb s.heap l2 ys)
  (h:∀ h',ZAt ka kb (s.heap.objs.size+4) (s.heap.objs.size+2) (s.heap.objs.size+3) s.heap.objs.size (s.heap.objs.size+1) l1 l2 0 h'→(∀ c o,s.heap.get? c=some o→h'.get? c=some o)→Q (.ref (s.heap.objs.size+4)) { s with heap:=h' }) :
  wpAny (model prog w) A (call (.type "zip") [.ref l1,.ref l2]) Q E s:=by
 refine callType_new F.called_zip (by decide) (F.typeCall_zip_2 _ _) (F.newCall_zip_2 _ _) (fun obj=>F.args_object_init_3 obj _ _) F.entry_zip_new (meetsS ka kb l1 l2 xs ys) ⟨h1,h2,?_⟩
 have kp:∀ c o,s.heap.get? c=some o→(a9A s.heap ka kb l1 l2).get? c=some o:=fun c o x=>Heap.get?_push_of_some _ (Heap.get?_push_of_some _ (Heap.get?_push_of_some _ (Heap.get?_push_of_some _ (Heap.get?_push_of_some _ x))))
 have z1:(s.heap.push (itO ka l1)).objs.size=s.heap.objs.size+1:=Heap.size_push ..
 have z2:((s.heap.push (itO ka l1)).push (itO kb l2)).objs.size=s.heap.objs.size+2:=by rw [Heap.size_push,z1]
 have z3:(((s.heap.push (itO ka l1)).push (itO kb l2)).push { cls:=.type "tuple",data:=.seq #[.ref s.heap.objs.size,.ref (s.heap.push (itO ka l1)).objs.size] }).objs.size=s.heap.objs.size+3:=by rw [Heap.size_push,z2]
 have z4:((((s.heap.push (itO ka l1)).push (itO kb l2)).push { cls:=.type "tuple",data:=.seq #[.ref s.heap.objs.size,.ref (s.heap.push (itO ka l1)).objs.size] }).push { cls:=.type "tuple",data:=.seq #[.none,.none] }).objs.size=s.heap.objs.size+4:=by rw [Heap.size_push,z3]
 have g1:(a9A s.heap ka kb l1 l2).get? s.heap.objs.size=some (itO ka l1):=Heap.get?_push_of_some _ (Heap.get?_push_of_some _ (Heap.get?_push_of_some _ (Heap.get?_push_of_some _ (Heap.get?_push_size _ a5T))))
 have g2:(a9A s.heap ka kb l1 l2).get? (s.heap.objs.size+1)=some (itO kb l2):=by rw [←z1];exact Heap.get?_push_of_some _ (Heap.get?_push_of_some _ (Heap.get?_push_of_some _ (Heap.get?_push_size _ a5T)))
 have g3:(a9A s.heap ka kb l1 l2).get? (s.heap.objs.size+2)=some { cls:=.type "tuple",data:=.seq #[.ref s.heap.objs.size,.ref (s.heap.objs.size+1)] }:=by
  rw [←z2]
  have q:(a9A s.heap ka kb l1 l2).get? ((s.heap.push (itO ka l1)).push (itO kb l2)).objs.size=some { cls:=.type "tuple",data:=.seq #[.ref s.heap.objs.size,.ref (s.heap.push (itO ka l1)).objs.size] }:=Heap.get?_push_of_some _ (Heap.get?_push_of_some _ (Heap.get?_push_size _ rfl))
  rw [z1] at q
  exact q
 have g4:(a9A s.heap ka kb l1 l2).get? (s.heap.objs.size+3)=some { cls:=.type "tuple",data:=.seq #[.none,.none] }:=by rw [←z3];exact Heap.get?_push_of_some _ (Heap.get?_push_size _ rfl)
 have g5:(a9A s.heap ka kb l1 l2).get? (s.heap.objs.size+4)=some { cls:=.type "zip",data:=.fields #[.none,.bool false,.bool false,.ref (s.heap.objs.size+2),.ref (s.heap.objs.size+3)] }:=by
  rw [←z4]
  have q:(a9A s.heap ka kb l1 l2).get? ((((s.heap.push (itO ka l1)).push (itO kb l2)).push { cls:=.type "tuple",data:=.seq #[.ref s.heap.objs.size,.ref (s.heap.push (itO ka l1)).objs.size] }).push { cls:=.type "tuple",data:=.seq #[.none,.none] }).objs.size=some { cls:=.type "zip",data:=.fields #[.none,.bool false,.bool false,.ref ((s.heap.push (itO ka l1)).push (itO kb l2)).objs.size,.ref (((s.heap.push (itO ka l1)).push (itO kb l2)).push { cls:=.type "tuple",data:=.seq #[.ref s.heap.objs.size,.ref (s.heap.push (itO ka l1)).objs.size] }).objs.size] }:=Heap.get?_push_size _ rfl
  rw [z2,z3] at q
  exact q
 show _∧_
 exact ⟨⟨_,g5,rfl⟩,h _ ⟨g5,g3,⟨_,_,g4⟩,.new g1,.new g2⟩ kp⟩
theorem b_zip:bootBuiltins "zip"=some (.type "zip"):=by decide +kernel
def iZip (K:PySem.W.Frag) (ka kb:Bool) (ta:TA):TI:=fun σ H R=>ta σ H fun vs H1=>∃ a b xs ys,vs=[.ref a,.ref b]∧SqK K ka H1 a xs∧SqK K kb H1 b ys∧R (Itz K ka kb a b) H1
theorem pi_zip {X:Cx} {elts:List Expr} {x1} {tp:Pos} {a b:Expr} {ta:TA} {p pos:Pos} (ka kb:Bool) (hg:Gl X "zip") (hm:X.mg "zip"=none) (ha:PA X [a,b] ta) (hs:starEach [a,b] X.env=[(false,eval a X.env),(false,eval b X.env)]:=by rfl) (hs2:starEach [b] X.env=[(false,eval b X.env)]:=by rfl) :
  PI X (.Tuple elts x1 tp) (.Call (.Name "zip" p) [a,b] [] pos) (iZip X.K ka kb ta):=by
 intro pins s σ H R I h
 refine Call_ (a2k I hg hm b_zip (PyProof.Rows.callWith_type1 (thn (ha pos pins s σ H _ I h) fun us s1 ⟨vs,H1,I1,r1,q1⟩=>?_) (by rw [hs,hs2]) (by rw [hs2];rfl)))
 obtain ⟨a',b',xs,ys,e,q1,q2,q⟩:=q1
 subst e
 obtain ⟨u,v,rfl,r1,r2⟩:=r1.two
 cases r1
 cases r2
 obtain ⟨us,e1,p1⟩:=b2P I1 q1
 obtain ⟨vs,e2,p2⟩:=b2P I1 q2
 have lt:∀ {k:Bool} {l:Addr} {zs:Array Value},SAt k s1.heap l zs→l < s1.heap.objs.size:=fun {k l zs} x=>by
  cases k with
  | true=>obtain ⟨o,ho,_⟩:=x;exact Heap.lt_size ho
  | false=>obtain ⟨o,ho,_⟩:=x;exact Heap.lt_size ho
 have t1:=lt p1
 have t2:=lt p2
 refine callS p1 p2 fun h' Z kp=>wpAny_pyIter_zip (s:={ s1 with heap:=h' }) Z.zp ?_
 have D:ZipApart (s1.heap.objs.size+4) (s1.heap.objs.size+2) (s1.heap.objs.size+3) s1.heap.objs.size (s1.heap.objs.size+1) a' b':=by
  have t1':@LT.lt Nat _ a' s1.heap.objs.size:=t1
  have t2':@LT.lt Nat _ b' s1.heap.objs.size:=t2
  constructor <;> (show ¬ (@Eq Nat _ _);omega)
 refine ⟨_,[s1.heap.objs.size+4,s1.heap.objs.size+2,s1.heap.objs.size+3,s1.heap.objs.size,s1.heap.objs.size+1],_,_,H1,rfl,I1.kept (t':=s1.toks) kp,a9z D,Z,fun c hc=>?_,q⟩
 have ge:s1.heap.objs.size≤c:=by
  simp only [List.mem_cons,List.not_mem_nil,or_false] at hc
  rcases hc with rfl | rfl | rfl | rfl | rfl <;> omega
 exact I1.fpOk ge (I1.hok.fresh ge)
def b1L (tc:TT) (te:TE) (σ:St) (d:Addr) (x y:V) (H:Hp) (Z:Hp→Prop):Prop :=
 tc (some x :: some y :: σ) H fun b H3=>if b=true then te (some x :: some y :: σ) H3 fun v H4=>∃ ys,H4 d=some (.lst ys)∧ys.length < sizeLine∧Z (upd H4 d (.lst (ys++[v]))) else Z H3
def tCompZ (K:PySem.W.Frag) (ka kb:Bool) (ta:TA) (tc:TT) (te:TE):TE:=fun σ H Q=>ta σ H fun vs H1=>∃ a b xs ys,vs=[.ref a,.ref b]∧SqK K ka H1 a xs∧SqK K kb H1 b ys∧xs.length=ys.length∧∀ d,H1 d=none →
 ∃ Pv:Nat→Hp→Prop,Pv 0 (upd H1 d (.lst []))∧(∀ i H,i≤xs.length→Pv i H→SqK K ka H a xs∧SqK K kb H b ys)∧(∀ i x y p H,xs[i]?=some x→ys[i]?=some y→Pv i H→H p=none→b1L tc te σ d x y (upd H p (.tup [x,y])) (Pv (i+1)))∧∀ H,Pv xs.length H→Q (.ref d) H
def a9B (K:PySem.W.Frag):TG:=gTup K 2 (b1d (a1Z 0) (b1d (a1Z 1) gNil))
theorem a7H {K:PySem.W.Frag} {v:V} {σ:St} {H:Hp} {Q:St→Hp→Prop} (h:a9B K v (List.replicate 2 none++σ) H Q):a9B K v (List.replicate 2 none++σ) H fun σ2 H2=>(∃ l:St,l.length=2∧σ2=l++σ)∧Q σ2 H2:=by
 obtain ⟨a,xs,e,hq,hl,v1,r1,e1,v2,r2,e2,e3,q⟩:=h
 exact ⟨a,xs,e,hq,hl,v1,r1,e1,v2,r2,e2,e3,⟨[some v1,some v2],rfl,rfl⟩,q⟩
theorem a9C {K:PySem.W.Frag} {ka kb:Bool} {a b:Addr} {xs ys:List V} {tc:TT} {te:TE} {σ:St} {H:Hp} {Q:VK} {d:Addr} (hlen:xs.length=ys.length) (Pv:Nat→Hp→Prop) (h0:Pv 0 (upd H d (.lst []))) (hl:∀ i H,i≤xs.length→Pv i H→SqK K ka H a xs∧SqK K kb H b ys)
  (hs:∀ i x y p H,xs[i]?=some x→ys[i]?=some y→Pv i H→H p=none→b1L tc te σ d x y (upd H p (.tup [x,y])) (Pv (i+1)))
  (hd:∀ H,Pv xs.length H→Q (.ref d) H) :
  ∃ W:Nat→Nat→Hp→Prop,(∃ m,W 0 m (upd H d (.lst [])))∧∀ i m H,W i m H →
   ((Itz K ka kb a b).stop i H∧Q (.ref d) H)∨((Itz K ka kb a b).go i H∧∃ N:Hp→Prop,(∀ H',N H'→∃ m',m' < m∧W (i+1) m' H')∧∀ x H',(Itz K ka kb a b).yld i H x H'→a9B K x (List.replicate 2 none++σ) H' fun σ2 H2 =>
    tc σ2 H2 fun b H3=>if b=true then te σ2 H3 fun y H4=>∃ ys,H4 d=some (.lst ys)∧ys.length < sizeLine∧N (upd H4 d (.lst (ys++[y]))) else N H3):=by
 refine ⟨fun i m H=>m=xs.length - i∧i≤xs.length∧Pv i H,⟨xs.length,by simp,Nat.zero_le _,h0⟩,?_⟩
 rintro i m H ⟨rfl,hi,p⟩
 obtain ⟨q1,q2⟩:=hl i H hi p
 by_cases hlt:i < xs.length
 ·refine .inr ⟨⟨xs,ys,_,_,q1,q2,List.getElem?_eq_getElem hlt,List.getElem?_eq_getElem (by omega)⟩,Pv (i+1),fun H' n=>⟨xs.length - (i+1),by omega,rfl,by omega,n⟩,?_⟩
  rintro v H' ⟨p',x,y,rfl,hn,e1,e2,rfl⟩
  exact ⟨p',[x,y],rfl,SqT.of a0d,rfl,x,[y],rfl,y,[],rfl,rfl,hs i x y p' H (e1 _ q1) (e2 _ q2) p hn⟩
 ·have e:i=xs.length:=by omega
  subst e
  exact .inl ⟨⟨xs,ys,q1,q2,.inl (Nat.le_refl _)⟩,hd H p⟩
theorem a9D {X:Cx} (K:PySem.W.Frag) (ka kb:Bool) {elt a b:Expr} {t1 t2:Str} {p1 p2 tp p pos pos':Pos} {k:Nat} {cs:List Expr} {scope:Scope} {tc:TT} {te:TE} {ta:TA} {M:List Str} (hc:X.calm=true) (S:a0l scope X.env X.N M) (nd:(t1 :: t2 :: M).Nodup) (hl1:scope.names.lookup t1=some .local) (hl2:scope.names.lookup t2=some .local)
  (hg:Gl X "zip") (hm:X.mg "zip"=none) (ha:PA X [a,b] ta) (mo:a5r ta)
  (hin:∀ (cl:List (Str × Addr)) (C:Addr) (s0:Shared) (H0:Hp) (fp:List Addr) (pins:List (Addr × Obj)) (σ:St),Back X (cxC X scope cl C s0 H0 fp (t1 :: t2 :: M)) pins σ fp C s0 H0→PTs (cxC X scope cl C s0 H0 fp (t1 :: t2 :: M)) cs tc∧PE (cxC X scope cl C s0 H0 fp (t1 :: t2 :: M)) elt te)
  (hs:starEach [a,b] X.env=[(false,eval a X.env),(false,eval b X.env)]:=by rfl) (hs2:starEach [b] X.env=[(false,eval b X.env)]:=by rfl) (hf:∀ x,foldedSetIterable (.Call (.Name "zip" p) [a,b] [] pos') X.env x=pure x:=by intro _;rfl) (hK:X.K=K:=by rfl) :
  PE X (.ListComp elt [⟨.Tuple [.Name t1 p1,.Name t2 p2] k tp,.Call (.Name "zip" p) [a,b] [] pos',cs,0⟩] scope pos) (tCompZ K ka kb ta tc te):=by
 subst hK
 have hx1:(relabel scope X.env).names.lookup t1=some .local:=by rw [a0U,hl1];rfl
 have hx2:(relabel scope X.env).names.lookup t2=some .local:=by rw [a0U,hl2];rfl
 refine PE.imp (a9r (xs:=[t1,t2]) (M:=M) (g:=a9B X.K) hc S (pi_zip ka kb hg hm ha hs hs2) (fun cl C s0 H0 fp pins σ bk=>⟨a6Z hc (a1u (a0H (i:=0) nd rfl (Or.inl hx1) (Or.inr hx1)) (a1u (a0H (i:=1) nd rfl (Or.inl hx2) (Or.inr hx2)) a5j)),hin cl C s0 H0 fp pins σ bk⟩) (fun v σ H Q h=>a7H h) hf) (fun σ H Q h=>?_)
 refine mo σ H _ _ (fun vs H1 q=>?_) h
 obtain ⟨a',b',xs,ys,e,q1,q2,hlen,q⟩:=q
 refine ⟨a',b',xs,ys,e,q1,q2,fun d hd=>?_⟩
 obtain ⟨Pv,h0,hl,hs,hd⟩:=q d hd
 exact a9C hlen Pv h0 hl hs hd
section
variable {κ:Type} [DecidableEq κ]
def valV (kvs:List (κ × V)) (k:κ):Option V:=(kvs.find? fun kv=>decide (kv.1=k)).map (·.2)
def putK (kvs:List (κ × V)) (k:κ) (v:V):List (κ × V) :=
 if (kvs.any fun kv=>decide (kv.1=k))=true then kvs.map (fun kv=>if kv.1=k then (kv.1,v) else kv) else kvs++[(k,v)]
def dropK (kvs:List (κ × V)) (k:κ):List (κ × V):=kvs.filter fun kv=>decide (kv.1≠k)
end
abbrev KT (H:Hp):List (List Key × V)→List (List Key × Addr × Value)→Prop:=Paired fun p q=>p.1=q.1∧H q.2.1=some (.tup (p.1.map kV))∧a1a p.2 q.2.2
section
variable {P:Program} {w:World} {H:Hp} {h:Heap} {a:Addr}
end
def DGet (H:Hp) (a:Addr) (y:V) (r:Option V):Prop :=
 (∃ kvs k,Rd H a (.dK kvs)∧y=kV k∧r=valV kvs k)∨∃ kvs k b,Rd H a (.dT kvs)∧y=.ref b∧H b=some (.tup (k.map kV))∧r=valV kvs k
def DPut (H:Hp) (a:Addr) (y v:V) (H':Hp):Prop :=
 (∃ kvs k,H a=some (.dK kvs)∧y=kV k∧kvs.length < sizeLine∧H'=upd H a (.dK (putK kvs k v))) ∨
 ∃ kvs k b,H a=some (.dT kvs)∧y=.ref b∧H b=some (.tup (k.map kV))∧kvs.length < sizeLine∧H'=upd H a (.dT (putK kvs k v))
section
variable {X:Cx} {pins:List (Addr × Obj)} {σ:St} {H:Hp} {s:Shared} {a:Addr} {y v:V} {u r:Value} {o:Option V} {A:Around} {E:Value→Shared→Prop}
end
section
variable {X:Cx} {pins:List (Addr × Obj)} {σ:St} {H:Hp} {s:Shared} {a:Addr} {kvs:List (Key × V)} {k:Key} {u:Value} {A:Around} {E:Value→Shared→Prop}
end
def NoSl (i:Expr):Prop:=∀ ov iv,subscripted i false ov iv=operate [ov,iv] (getItem ov iv)
def tDGet (td ty:TE):TE:=fun σ H Q=>td σ H fun x H1=>ty σ H1 fun y H2=>∃ a v,x=.ref a∧DGet H2 a y (some v)∧Q v H2
def tDIn (ty td:TE):TE:=fun σ H Q=>ty σ H fun y H1=>td σ H1 fun x H2=>∃ a o,x=.ref a∧DGet H2 a y o∧Q (.bl o.isSome) H2
def sDPut (td ty tv:TE):TS:=fun D σ H=>tv σ H fun v H1=>td σ H1 fun x H2=>ty σ H2 fun y H3=>∃ a H4,x=.ref a∧DPut H3 a y v H4∧D.nx σ H4
def sDAug (td ty tv:TE) (rd:V→V→Hp→VK→Prop):TS:=fun D σ H=>td σ H fun x H1=>ty σ H1 fun y H2=>∃ a v,x=.ref a∧DGet H2 a y (some v) ∧
 tv σ H2 fun y2 H3=>rd v y2 H3 fun z H4=>∃ H5,DPut H4 a y z H5∧D.nx σ H5
def sDDel (td ty:TE):TS:=fun D σ H=>td σ H fun x H1=>ty σ H1 fun y H2=>∃ a kvs k,x=.ref a∧H2 a=some (.dK kvs)∧y=kV k∧(valV kvs k).isSome=true∧D.nx σ (upd H2 a (.dK (dropK kvs k)))
section
variable {X:Cx} {o i e value:Expr} {pos pos' tpos:Pos} {td ty tv:TE}
end
def tDNewK:TE:=fun _ H Q=>∀ p,H p=none→Q (.ref p) (upd H p (.dK []))
section
variable {X:Cx} {pos:Pos}
end
def b0G:List (TE × TE)→St→Hp→(List (V × V)→Hp→Prop)→Prop
 | [],_,H,Q=>Q [] H
 | (tk,tv) :: r,σ,H,Q=>tk σ H fun x H1=>tv σ H1 fun y H2=>b0G r σ H2 fun ps H3=>Q ((x,y) :: ps) H3
def mergeK (kvs more:List (Key × V)):List (Key × V):=more.foldl (fun acc kv=>putK acc kv.1 kv.2) kvs
def tDisp (trs:List (TE × TE)):TE:=fun σ H Q=>∀ p,H p=none→b0G trs σ (upd H p (.dK [])) fun ps H2=>H2 p=some (.dK [])∧∃ kvs:List (Key × V),ps=kvs.map (fun kv=>(kV kv.1,kv.2))∧kvs.length≤15∧Q (.ref p) (upd H2 p (.dK (mergeK [] kvs)))
structure M1 (X:Cx) (o:Expr) (m:Str) (apos:Pos) (e:Expr) (cpos:Pos):Prop where
 base:attributeBase o m X.env (eval o X.env)=eval o X.env
 few:((backTo cpos (starEach [e] X.env)).all (fun x=>!x.1) && (backToKw cpos (keywordEach [] X.env)).all (fun x=>x.1.isSome)
  && decide (([e]:List Expr).length+([]:List Keyword).length+(if ([]:List Keyword).isEmpty then 0 else 1) < 30))=true
 line:(apos.endLine == cpos.line)=true
 trees:backTo cpos (starEach [e] X.env)=[(false,eval e X.env)]
def IsD (H:Hp) (a:Addr):Prop:=(∃ kvs,Rd H a (.dK kvs))∨∃ kvs,Rd H a (.dT kvs)
section
variable {X:Cx} {pins:List (Addr × Obj)} {σ:St} {H:Hp} {s:Shared} {a:Addr} {y d:V} {u r:Value} {o:Option V} {A:Around} {E:Value→Shared→Prop}
end
def tDPop1 (td ty:TE):TE:=fun σ H Q=>td σ H fun x H1=>∃ a,x=.ref a∧IsD H1 a∧ty σ H1 fun y H2=>∃ kvs k v,H2 a=some (.dK kvs)∧y=kV k∧valV kvs k=some v∧Q v (upd H2 a (.dK (dropK kvs k)))
section
variable {X:Cx} {o e f:Expr} {apos cpos:Pos} {td ty tx:TE}
end
section
variable {X:Cx} {pins:List (Addr × Obj)} {σ:St} {H:Hp} {s:Shared} {a:Addr} {kvs:List (Key × V)} {A:Around} {E:Value→Shared→Prop}
end
section
variable {X:Cx} {pins:List (Addr × Obj)} {σ:St} {H:Hp} {s:Shared} {a:Addr} {y:V} {u:Value} {A:Around} {E:Value→Shared→Prop}
end
abbrev B30:Int:=1000000000000000000000000000000
theorem e30:(10:Int) ^ (30:Int).toNat=B30:=by decide
def b1M (i j:Int):Prop:=(0≤i∧i≤10000000000 * B30)∧(0≤j∧j≤10000000000 * B30)
theorem b1M.ok {i j:Int} (h:b1M i j):IntMulOk i j:=by
 have q:∀ k:Int,0≤k∧k≤10000000000 * B30→PySem.Builtin.Int.intBits k≤140:=fun k hk=>intBits_le_iff.mpr (by
  have e:(2:Nat) ^ 140=1393796574908163946345982392040522594123776:=by decide
  rw [e]
  unfold B30 at hk
  omega)
 exact IntMulOk.of_le (q i h.1) (q j h.2) (by decide)
theorem a7I {X:Cx}:OpR X (binaryOp .Mult) (rI b1M fun i j=>.int (i * j)):=opI fun _ _ _ _ _ _ _ hc q=>PyProof.Rows.mul_int q hc.ok
theorem b_max:bootBuiltins "max"=some (.builtin "max"):=by decide +kernel
theorem a7J {te:TE} {σ:St} {d:Addr} {x y:V} {H:Hp} {Z:Hp→Prop} (h:te (some x :: some y :: σ) H fun v H4=>∃ ys,H4 d=some (.lst ys)∧ys.length < sizeLine∧Z (upd H4 d (.lst (ys++[v])))):b1L a9q te σ d x y H Z:=by
 show (if true=true then (te (some x :: some y :: σ) H fun v H4=>∃ ys,H4 d=some (.lst ys)∧ys.length < sizeLine∧Z (upd H4 d (.lst (ys++[v])))) else Z H)
 rw [if_pos rfl]
 exact h
section
variable {X:Cx} {elt iter:Expr} {tg:Str} {tp:Pos} {cs:List Expr} {scope:Scope} {pos:Pos} {tc:TT} {te:TE} {M:List Str}
theorem a9E {tl:TE} {pos1 spos:Pos} {i:Nat} {x:Str} (hN:X.N.Nodup) (hix:X.N[i]?=some x) (hx:X.env.scope.names.lookup x=some .local) (hc:X.calm=true) (S:a0l scope X.env X.N M) (nd:(tg :: M).Nodup) (hl:scope.names.lookup tg=some .local) (hi:PE X iter tl) (mo:a2B tl)
  (hin:a5s X scope tg M cs elt tc te) (hw:swapsWith (.ListComp elt [⟨.Name tg tp,iter,cs,0⟩] scope pos) (some (.Name x pos1)) spos.line X.env=pure true:=by rfl) (hf:∀ x,foldedSetIterable iter X.env x=pure x:=by intro _;rfl) :
  PS X (.Assign [.Name x pos1] (.ListComp elt [⟨.Name tg tp,iter,cs,0⟩] scope pos) spos) (tAsg (b0C X.K tl tc te) (a1Z i)):=by
 refine a9u hc S nd hl (a5k hi) hin (fun σ H Q h=>?_) hN hix hx hw hf
 refine mo σ H _ _ (fun v H1 q=>?_) h
 obtain ⟨a,xs,e,j1,q⟩:=q
 refine ⟨a,e,⟨xs,j1⟩,fun d hd=>?_⟩
 obtain ⟨Pv,h0,hl,hs,hd⟩:=q d hd
 exact a4R (k:=1) (g:=a1Z 0) Pv h0 hl hs hd
end
section
variable {P:Program} {w:World} {A:Around} {H:Hp} {s:Shared} {n:Nat} {α β γ:Type} [DecidableEq α] [DecidableEq β] [DecidableEq γ]
variable {R1:V→α→Prop} {R2:V→β→Prop} {R3:V→γ→Prop}
end
def srt (ns:List Int):List Int:=ns.mergeSort fun a b=>decide (a≤b)
theorem a5U (ns:List Int):(srt ns).Perm ns:=List.mergeSort_perm ns _
theorem a4U (ns:List Int):(srt ns).Pairwise (·≤·):=by
 have h:=List.pairwise_mergeSort (le:=fun a b:Int=>decide (a≤b)) (fun a b c h1 h2=>by simp at *;omega) (fun a b=>by simp;omega) ns
 exact h.imp fun h=>by simpa using h
theorem a7K {a b:List Int} (h:a.Perm b) (h1:a.Pairwise (·≤·)) (h2:b.Pairwise (·≤·)):a=b:=h.eq_of_pairwise (fun x y _ _ h3 h4=>by omega) h1 h2
def SqI (H:Hp) (a:Addr) (ns:List Int):Prop:=H a=some (.lst (ns.map V.int))∨H a=some (.tup (ns.map V.int))
theorem a3O {ns:List Int} {us:List Value} (r:a0O (ns.map V.int) us):IntsAre us ns:=by
 induction ns generalizing us with
 | nil=>cases r;exact .nil
 | cons n ns ih =>
  cases r with
  | cons r rr =>
   obtain ⟨t,rfl⟩:=r
   exact .cons _ _ (ih rr)
theorem a6H {ns:List Int} {us:List Value} (r:IntsAre us ns):a0O (ns.map V.int) us:=by
 induction r with
 | nil=>exact .nil
 | cons n t _ ih=>exact .cons ⟨t,rfl⟩ ih
theorem a2d {vs:List Value} {ns:List Int} (h:IntsAre vs ns):vs.length=ns.length:=by
 induction h with
 | nil=>rfl
 | cons n t _ ih=>simp [ih]
theorem a9F {ns:List Int} {m:Int} (h:m∈ns) (h1:∀ x∈ns,m≤x):(srt ns).headD 0=m:=by
 have p:=a5U ns
 have r:=a4U ns
 cases e:srt ns with
 | nil =>
  rw [e] at p
  have:=p.symm.mem_iff.mp h
  cases this
 | cons a t =>
  rw [e] at p r
  have ha:m≤a:=h1 a (p.mem_iff.mp (.head _))
  have hm:m∈a :: t:=p.symm.mem_iff.mp h
  show a=m
  cases hm with
  | head=>rfl
  | tail _ hm =>
   have:=(List.pairwise_cons.mp r).1 m hm
   omega
theorem b1N {its:List Value} {ns:List Int} (hI:IntsAre its ns) (ne:ns≠[]) {v:Value} (h:its.toArray[argBest (fun i j=>decide (ns.getD i 0 < ns.getD j 0)) (its.toArray.size - 1)]?=some v):∃ t,v=.int ((srt ns).headD 0) t:=by
 have li:=a2d hI
 have hb:=argBest_lt (fun i=>ns.getD i 0) (its.toArray.size - 1)
 have ez:its.toArray.size=its.length:=List.size_toArray
 have n0:0 < ns.length:=List.length_pos_iff.mpr ne
 have hv:its[argBest (fun i j=>decide (ns.getD i 0 < ns.getD j 0)) (its.toArray.size - 1)]?=some v:=by simpa using h
 obtain ⟨t,e⟩:=hI.int_at _ v hv
 refine ⟨t,?_⟩
 rw [e]
 congr 1
 refine (a9F ?_ fun x hx=>?_).symm
 ·rw [List.getD_eq_getElem?_getD,List.getElem?_eq_getElem (by have:=hb.1;omega)]
  exact List.getElem_mem _
 ·obtain ⟨j,hj⟩:=List.mem_iff_getElem?.mp hx
  have jl:=(List.getElem?_eq_some_iff.mp hj).1
  have:=hb.2 j (by omega)
  rw [show ns.getD j 0=x by rw [List.getD_eq_getElem?_getD,hj];rfl] at this
  exact this
theorem b_min':bootBuiltins "min"=some (.builtin "min"):=by decide +kernel
theorem a7L:bootBuiltins "sorted"=some (.builtin "sorted"):=by decide +kernel
section
variable {prog:Program} {w:World} {A:Around} {R:Result→Shared→Prop} {I:Addr} {fp wr:List Addr} {n:Nat} {P:Nat→Value→Prop} {St:Nat→Heap→Prop}
abbrev kwD (d:Value):List (Str × Value):=[(Str.ofString "default",d)]
theorem b1O (W:Walks prog w A.in1 I fp wr n P St) (bt:Nat→Nat→Bool) (C:CmpOf prog w A.in1 .Lt P bt) (S:Addr) (hS:S∉fp) (d:Value) :
  ∀ (k j:Nat) (s:Shared) (vb:Value) (c:Nat),n - (j+1)=k→j+1≤n→St (j+1) s.heap→P (argBest bt j) vb→s.heap.get? S=some { cls:=.type "list",data:=.seq #[vb,vb] c } →
   (∀ (v:Value) (h':Heap) (tk:Nat),P (argBest bt (n - 1)) v→(∀ (b:Addr) (o:Obj),b∉wr→b≠S→s.heap.get? b=some o→h'.get? b=some o)→R (.ok (.ret v)) { s with heap:=h',toks:=tk }) →
   codeAny (model prog w) A (.builtin "min.loop" ⟨[.ref I,.none,.ref S],kwD d⟩) R s:=by
 intro k
 induction k with
 | zero =>
  intro j s vb c hk hj st pv hs q
  have ej:j+1=n:=by omega
  refine codeAny_builtin F.entry_min_loop ?_
  rw [Around.under_plainId F.plain_min_loop _]
  show wpAny _ A.in1 (seqItems? (.ref S) >>= _) _ _ s
  refine wpAny_bind (wpAny_seqItems hs rfl ?_)
  refine wpAny_bind (wpAny_tryCatch ?_)
  subst ej
  refine W.done s _ _ st fun h' tk hk'=>?_
  have hs':=hk' S _ (fun z=>hS (W.sub _ z)) hs
  show wpAny _ A.in1 (updateSeq S _ >>= _) _ _ _
  refine wpAny_bind (wpAny_updateSeq hs' rfl ?_)
  refine wpAny_bind (wpAny_letGo ?_)
  refine wpAny_pure ?_
  refine q vb _ tk pv fun b o hb hne e=>?_
  rw [Heap.get?_update_ne _ _ _ _ hne]
  exact hk' b o hb e
 | succ k ih =>
  intro j s vb c hk hj st pv hs q
  have hlt:j+1 < n:=by omega
  refine codeAny_builtin F.entry_min_loop ?_
  rw [Around.under_plainId F.plain_min_loop _]
  show wpAny _ A.in1 (seqItems? (.ref S) >>= _) _ _ s
  refine wpAny_bind (wpAny_seqItems hs rfl ?_)
  refine wpAny_bind (wpAny_tryCatch ?_)
  refine W.item (j+1) s _ _ hlt st fun v h' tk hv st' hk'=>?_
  have hs':=hk' S _ (fun z=>hS (W.sub _ z)) hs
  show wpAny _ A.in1 (tryCatch (holding [v,v] (richCompare .Lt v vb >>= _)) _ >>= _) _ _ _
  refine wpAny_bind (wpAny_tryCatch (wpAny_holding (wpAny_bind ?_)))
  refine C (j+1) (argBest bt j) v vb _ _ _ hv pv ?_
  refine wpAny_bind (wpAny_holding (wpAny_truthy_bool ?_))
  refine wpAny_bind (wpAny_letGo (wpAny_pure ?_))
  have eb:argBest bt (j+1)=if bt (j+1) (argBest bt j)=true then j+1 else argBest bt j:=rfl
  cases hb:bt (j+1) (argBest bt j) with
  | true =>
   rw [hb,if_pos rfl] at eb
   show wpAny _ A.in1 (updateSeq S _ >>= _) _ _ _
   refine wpAny_bind (wpAny_updateSeq hs' rfl ?_)
   refine wpAny_bind (wpAny_letGo ?_)
   refine wpAny_pure ⟨plainId_quiet F.plain_min_loop _,?_⟩
   have hs2:=get?_update_seq (c:="list") hs' (fun _=>#[v,v])
   refine ih (j+1) _ v _ (by omega) (by omega) ?_ (by rw [eb];exact hv) hs2 fun v2 h2 tk2 hv2 hk2=>?_
   ·refine W.frame (j+2) h' _ st' fun b hb2 o e=>?_
    rw [Heap.get?_update_ne _ _ _ _ (fun z=>hS (by rw [←z];exact hb2))]
    exact e
   ·refine q v2 h2 tk2 hv2 fun b o hb2 hne e=>hk2 b o hb2 hne ?_
    rw [Heap.get?_update_ne _ _ _ _ hne]
    exact hk' b o hb2 e
  | false =>
   rw [hb,if_neg (by decide)] at eb
   show wpAny _ A.in1 (letGo _ _ >>= _) _ _ _
   refine wpAny_bind (wpAny_letGo ?_)
   refine wpAny_pure ⟨plainId_quiet F.plain_min_loop _,?_⟩
   exact ih (j+1) _ vb c (by omega) (by omega) st' (by rw [eb];exact pv) hs' fun v2 h2 tk2 hv2 hk2=>q v2 h2 tk2 hv2 fun b o hb2 hne e=>hk2 b o hb2 hne (hk' b o hb2 e)
theorem a6I (W:Walks prog w A.in1 I fp wr n P St) (bt:Nat→Nat→Bool) (C:CmpOf prog w A.in1 .Lt P bt) (S:Addr) (hS:S∉fp) (d:Value) {s:Shared} {c:Nat} (st:St 0 s.heap) (hs:s.heap.get? S=some { cls:=.type "list",data:=.seq #[] c })
  (q0:n=0→∀ (h':Heap) (tk:Nat),(∀ (b:Addr) (o:Obj),b∉wr→b≠S→s.heap.get? b=some o→h'.get? b=some o)→R (.ok (.ret d)) { s with heap:=h',toks:=tk })
  (q:0 < n→∀ (v:Value) (h':Heap) (tk:Nat),P (argBest bt (n - 1)) v→(∀ (b:Addr) (o:Obj),b∉wr→b≠S→s.heap.get? b=some o→h'.get? b=some o)→R (.ok (.ret v)) { s with heap:=h',toks:=tk }) :
  codeAny (model prog w) A (.builtin "min.loop" ⟨[.ref I,.none,.ref S],kwD d⟩) R s:=by
 refine codeAny_builtin F.entry_min_loop ?_
 rw [Around.under_plainId F.plain_min_loop _]
 show wpAny _ A.in1 (seqItems? (.ref S) >>= _) _ _ s
 refine wpAny_bind (wpAny_seqItems hs rfl ?_)
 refine wpAny_bind (wpAny_tryCatch ?_)
 by_cases n0:n=0
 ·subst n0
  refine W.done s _ _ st fun h' tk hk'=>?_
  show wpAny _ A.in1 (rule _ >>= _) _ _ _
  refine wpAny_bind (wpAny_rule (wpAny_pure ?_))
  exact q0 rfl h' tk fun b o hb _ e=>hk' b o hb e
 ·have hlt:0 < n:=by omega
  refine W.item 0 s _ _ hlt st fun v h' tk hv st' hk'=>?_
  have hs':=hk' S _ (fun z=>hS (W.sub _ z)) hs
  show wpAny _ A.in1 (updateSeq S _ >>= _) _ _ _
  refine wpAny_bind (wpAny_updateSeq hs' rfl ?_)
  refine wpAny_pure ⟨plainId_quiet F.plain_min_loop _,?_⟩
  have hs2:=get?_update_seq (c:="list") hs' (fun _=>#[v,v])
  refine b1O W bt C S hS d (n - 1) 0 _ v _ rfl hlt ?_ hv hs2 fun v2 h2 tk2 hv2 hk2=>?_
  ·refine W.frame 1 h' _ st' fun b hb2 o e=>?_
   rw [Heap.get?_update_ne _ _ _ _ (fun z=>hS (by rw [←z];exact hb2))]
   exact e
  ·refine q hlt v2 h2 tk2 hv2 fun b o hb2 hne e=>hk2 b o hb2 hne ?_
   rw [Heap.get?_update_ne _ _ _ _ hne]
   exact hk' b o hb2 e
end
def rMinD (xs zs:List V) (H:Hp) (Q:VK):Prop:=∃ (a:Addr) (ns:List Int),xs=[.ref a]∧zs=[.non]∧H a=some (.lst (ns.map V.int))∧Q (if ns=[] then .non else .int ((srt ns).headD 0)) H
theorem a7M (a d:Value):argsOk "min" { pos:=[a],kw:=kwD d }:=rfl
theorem a9G {X:Cx} (hc:X.calm=true) {pins:List (Addr × Obj)} {s:Shared} {σ:St} {H:Hp} {vs zs:List V} {us ws:List Value} {Q:VK} (I:Inv X pins σ H s) (r:a0O vs us) (rz:a0O zs ws) (h:rMinD vs zs H Q) :
  wpAny (model X.prog X.w) X.A (call (.builtin "min") us (([Str.ofString "default"]:List Str).zip ws)) (EP X pins σ Q) X.xe s:=by
 obtain ⟨a,ns,rfl,rfl,e,q⟩:=h
 obtain ⟨u,rfl,ru⟩:=a4I r
 obtain ⟨d,rfl,rd⟩:=a4I rz
 cases ru
 cases rd
 obtain ⟨_,its,n,rv,he⟩:=(show a1n X.prog X.w H s.heap a (.lst (ns.map V.int)) from I.hok a _ e)
 have hI:=a3O rv
 have li:=a2d hI
 have hlt:=Heap.lt_size he
 show wpAny _ _ (call (.builtin "min") [.ref a] (kwD .none)) _ _ _
 refine kmb_tree F.kind_min F.plain_min F.entry_min (a7M _ _) ?_
 have eB:Builtin.Builtins.bindParams "min" ["key","default"] 0 { kw:=kwD .none }=pure [none,some .none]:=rfl
 show wpAny _ X.A.in1 (Builtin.Builtins.bindParams "min" ["key","default"] 0 { kw:=kwD .none } >>= _) _ _ s
 rw [eB]
 show wpAny _ X.A.in1 (pyIter (.ref a) >>= _) _ _ s
 refine wpAny_bind (wpAny_pyIter_list (a2c he) ?_)
 refine wpAny_bind (wpAny_newList ?_ (Nat.zero_le _))
 refine wpAny_pure ⟨plainId_quiet F.plain_min_loop _,?_⟩
 have sz:(s.heap.push { cls:=.type "list_iterator",data:=.fields #[.ref a,rawInt 0] }).objs.size=s.heap.objs.size+1:=Heap.size_push _ _
 have hS:(s.heap.push { cls:=.type "list_iterator",data:=.fields #[.ref a,rawInt 0] }).objs.size∉[s.heap.objs.size,a]:=fun z=>by
  rw [sz] at z
  simp only [List.mem_cons,List.not_mem_nil,or_false] at z
  rcases z with z | z
  ·exact absurd z (Nat.ne_of_gt (Nat.lt_succ_self _))
  ·rw [←z] at hlt
   exact absurd hlt (Nat.not_lt.mpr (Nat.le_succ _))
 have up:∀ b o,s.heap.get? b=some o→((s.heap.push { cls:=.type "list_iterator",data:=.fields #[.ref a,rawInt 0] }).push { cls:=.type "list",data:=.seq (([]:List Value).toArray) }).get? b=some o:=fun b o eo=>Heap.get?_push_of_some _ (Heap.get?_push_of_some _ eo)
 have ne1:∀ b o,s.heap.get? b=some o→b∉[s.heap.objs.size]:=fun b o eo z=>by
  rw [List.mem_singleton.mp z] at eo
  exact absurd (Heap.lt_size eo) (Nat.lt_irrefl _)
 have ne2:∀ b o,s.heap.get? b=some o→b≠(s.heap.push { cls:=.type "list_iterator",data:=.fields #[.ref a,rawInt 0] }).objs.size:=fun b o eo z=>by
  rw [sz] at z
  rw [z] at eo
  exact absurd (Heap.lt_size eo) (Nat.not_lt.mpr (Nat.le_succ _))
 refine a6I (A:=X.A) (c:=0) (Walks.list (A:=X.A.in1) (by show X.A.handled=none;exact I.ok.hd hc) s.heap.objs.size a (Nat.ne_of_lt hlt) its.toArray) (fun i j=>decide (ns.getD i 0 < ns.getD j 0)) (CmpOf.ints_lt _ (fun i v hv=>hI.int_at i v (by simpa using hv))) _ hS .none
  ⟨⟨_,Heap.get?_push_of_some _ (Heap.get?_push_size _ rfl),rfl,rfl⟩,a2c (up _ _ he)⟩ (Heap.get?_push_size _ rfl) (fun n0 h' tk hk=>?_) (fun n0 v h' tk hv hk=>?_)
 ·have e0:ns=[]:=List.length_eq_zero_iff.mp (by rw [←li];rw [List.size_toArray] at n0;exact n0)
  rw [if_pos e0] at q
  exact ⟨.non,H,I.kept (h':=h') (t':=tk) (fun b o eo=>hk b o (ne1 b o eo) (ne2 b o eo) (up b o eo)),rfl,q⟩
 ·have e0:ns≠[]:=fun z=>by
   rw [z] at li
   rw [List.size_toArray] at n0
   simp at li
   rw [li] at n0
   simp at n0
  rw [if_neg e0] at q
  obtain ⟨t,rfl⟩:=b1N hI e0 hv
  exact ⟨.int _,H,I.kept (h':=h') (t':=tk) (fun b o eo=>hk b o (ne1 b o eo) (ne2 b o eo) (up b o eo)),⟨t,rfl⟩,q⟩
def tMinD (t tk:TA):TE:=fun σ H Q=>t σ H fun vs H1=>tk σ H1 fun zs H2=>rMinD vs zs H2 Q
theorem b1P {X:Cx} {e e2:Expr} {p pos kpos:Pos} {t tk:TA} (hc:X.calm=true) (hg:Gl X "min") (hm:X.mg "min"=none) (ha:PA X [e] t) (hk:PK X [⟨some "default",e2,kpos⟩] tk) (h1:backTo pos (starEach [e] X.env)=(false,eval e X.env) :: backTo pos (starEach [] X.env):=by rfl)
  (h2:((backTo pos (starEach [e] X.env)).any (·.1))=false:=by rfl) (h3:(backToKw pos (keywordEach [⟨some "default",e2,kpos⟩] X.env)).all (·.1.isSome)=true:=by rfl) (h4:(backToKw pos (keywordEach [⟨some "default",e2,kpos⟩] X.env)).any (·.1.isNone)=false:=by rfl) (h5:(backToKw pos (keywordEach [⟨some "default",e2,kpos⟩] X.env)).filterMap (·.1)=[Str.ofString "default"]:=by rfl) :
  PE X (.Call (.Name "min" p) [e] [⟨some "default",e2,kpos⟩] pos) (tMinD t tk):=by
 intro pins s σ H Q I h
 refine wpAny_Call_Name_kw (a2k I hg hm b_min' ?_)
 refine callWith_kw (thn (ha pos pins s σ H _ I h) fun us s1 ⟨vs,H1,I1,r,q⟩=>?_) h1 h2 h3 h4
 refine thn (hk pos pins s1 σ H1 _ I1 q) fun ws s2 ⟨zs,H2,I2,rz,q2⟩=>?_
 rw [h5]
 exact a9G hc I2 r rz q2
def Itr3 (lo st:Int) (n:Nat):It:=⟨fun i _=>i < n,fun i H x H'=>H'=H∧x=.int (lo+i * st),fun i _=>n≤i⟩
theorem a5t {P:Program} {w:World} {K:PySem.W.Frag} {tg:Expr} (it:Addr) (lo st:Int) (n:Nat):b2N P w K tg (Itr3 lo st n) [it] it (fun i h=>IsRangeIter h it (lo+(i:Nat) * st) ((n:Int) - (i:Nat)) st) where
 mem:=by simp
 obj:=fun i h st b hb=>by
  have e:b=it:=by simpa using hb
  subst e
  exact ⟨_,st,fun v z=>by
   have z':Data.fields _=Data.cell v:=z
   cases z'⟩
 keep:=fun i h h' st k=>k it (by simp) _ st
 item:=by
  intro X hP hw hK hc i pins s σ H E I hf st0 hg
  subst hP hw hK
  obtain ⟨f0,f1,f2,f3,f4,f5⟩:=hf it (by simp)
  have W:=Walks.range (prog:=X.prog) (w:=X.w) (I.ok.hd hc) it lo st n
  refine W.item i s _ _ hg st0 fun v h' tk hv st' kk=>?_
  obtain ⟨t,rfl⟩:=hv
  have I1:Inv X pins σ H { s with heap:=h',toks:=tk }:=I.turned (fun b o hb e=>kk b o (by simpa using hb) e) f0 f1 f3 f4 f5
  exact ⟨_,rfl,a9a (s:={ s with heap:=h',toks:=tk }) (n:="range_iterator") st' rfl rfl (by decide) ⟨.int (lo+i * st),H,I1,⟨t,rfl⟩,⟨rfl,rfl⟩,st',fun b hb=>(hf b hb).1⟩⟩
 done:=by
  intro X hP hw hK hc i pins s σ H E I hf st0 hg
  subst hP hw hK
  obtain ⟨f0,f1,f2,f3,f4,f5⟩:=hf it (by simp)
  exact wpAny_pyNext_range_end (I.ok.hd hc) st0 (by have:n≤i:=hg;omega) fun h' eb=>⟨rfl,I.turned (t':=s.toks) (fun b o hb e=>eb b o hb e) f0 f1 f3 f4 f5⟩
 self:=fun _ _ _ _ _ st h=>wpAny_pyIter_rangeiter st h
theorem a2C {lo st:Int} {n:Nat} {g:TG} {tb:TS} {D:a8Y} {σ:St} {H:Hp} (Pv:Nat→St→Hp→Prop) (h0:Pv 0 σ H) (hs:∀ i σ H,i < n→Pv i σ H→g (.int (lo+i * st)) σ H fun σ2 H2=>tb { D with nx:=Pv (i+1),ct:=Pv (i+1),bk:=D.nx } σ2 H2) (hd:∀ σ H,Pv n σ H→D.nx σ H) :
  ∃ W:Nat→Nat→St→Hp→Prop,(∃ m,W 0 m σ H)∧∀ i m σ H,W i m σ H →
   ((Itr3 lo st n).stop i H∧D.nx σ H)∨((Itr3 lo st n).go i H∧∃ N:St→Hp→Prop,(∀ σ' H',N σ' H'→∃ m',m' < m∧W (i+1) m' σ' H')∧∀ x H',(Itr3 lo st n).yld i H x H'→g x σ H' fun σ2 H2=>tb { D with nx:=N,ct:=N,bk:=D.nx } σ2 H2):=by
 refine ⟨fun i m σ H=>m=n - i∧i≤n∧Pv i σ H,⟨n,by simp,Nat.zero_le _,h0⟩,?_⟩
 rintro i m σ H ⟨rfl,hi,p⟩
 by_cases hlt:i < n
 ·refine .inr ⟨hlt,Pv (i+1),fun σ' H' q=>⟨n - (i+1),by omega,rfl,by omega,q⟩,?_⟩
  rintro v H' ⟨rfl,rfl⟩
  exact hs i σ _ hlt p
 ·have e:i=n:=by omega
  subst e
  exact .inl ⟨Nat.le_refl _,hd σ H p⟩
theorem smallD {a:Int} (h1:-1≤a) (h2:a < 1000000):Builtin.Range.small a (-1) (-1)=true∧Builtin.Range.rangeSize a (-1) (-1)=a+1:=by
 have z:Builtin.Range.rangeSize a (-1) (-1)=a+1:=by
  unfold Builtin.Range.rangeSize
  rw [if_neg (by decide)]
  have e1:(a - -1 - 1) / - -1=a:=by
   rw [show (- -1:Int)=1 from rfl,Int.ediv_one]
   omega
  split
  ·rw [e1]
  ·omega
 refine ⟨?_,z⟩
 have f:∀ i:Int,-2≤i→i≤1000000→Builtin.Range.rangeFitsLong i=true:=fun i h3 h4=>by
  unfold Builtin.Range.rangeFitsLong
  rw [Bool.and_eq_true,decide_eq_true_eq,decide_eq_true_eq]
  omega
 unfold Builtin.Range.small
 rw [z,f a (by omega) (by omega),f (-1) (by omega) (by omega),f (a+1) (by omega) (by omega),if_neg (by decide),f (-1+(-1+1)) (by omega) (by omega)]
 simp
def iRngD (ta:TA):TI:=fun σ H R=>ta σ H fun vs H1=>∃ a:Int,vs=[.int a,.int (-1),.int (-1)]∧(-1≤a∧a < 1000000)∧R (Itr3 a (-1) (a+1).toNat) H1
theorem a3i {X:Cx} {tg:Expr} {a b c:Expr} {ta:TA} {p pos:Pos} (hg:Gl X "range") (hm:X.mg "range"=none) (ha:PA X [a,b,c] ta) (hs:starEach [a,b,c] X.env=(false,eval a X.env) :: starEach [b,c] X.env:=by rfl) (hs2:(backTo pos (starEach [b,c] X.env)).any (·.1)=false:=by rfl) :
  PI X tg (.Call (.Name "range" p) [a,b,c] [] pos) (iRngD ta):=by
 intro pins s σ H R I h
 refine Call_ (a2k I hg hm boot_range (PyProof.Rows.callWith_type1 (thn (ha pos pins s σ H _ I h) fun us s1 ⟨vs,H1,I1,r1,q1⟩=>?_) hs hs2))
 obtain ⟨i,e,⟨h1,h2⟩,q⟩:=q1
 subst e
 cases r1 with
 | cons r rr =>
  cases rr with
  | cons r' rr =>
   cases rr with
   | cons r'' rr =>
    cases rr
    obtain ⟨t,rfl⟩:=r
    obtain ⟨t',rfl⟩:=r'
    obtain ⟨t'',rfl⟩:=r''
    obtain ⟨sm,z0⟩:=smallD h1 h2
    refine call_range_3 (by decide) ?_ (.inl (PyProof.noPylong_small (by decide)))
    refine wpAny_pyIter_range (IsRange.new ..) sm ?_
    have I2:Inv X pins σ H1 { s1 with heap:=s1.heap.push { cls:=.type "range",data:=.fields #[.int i t,.int (-1) t',.int (-1) t''] },toks:=s1.toks }:=I1.kept fun b o e=>Heap.get?_push_of_some _ e
    refine ⟨_,[_],_,_,H1,rfl,I2.kept (t':=s1.toks) fun b o e=>Heap.get?_push_of_some _ e,a5t _ i (-1) (i+1).toNat,?_,fun b hb=>?_,q⟩
    ·have e1:i+((0:Nat):Int) * (-1)=i:=by simp
     have e2:((((i+1).toNat:Nat):Int)) - ((0:Nat):Int)=Builtin.Range.rangeSize i (-1) (-1):=by rw [z0];omega
     show IsRangeIter _ _ (i+((0:Nat):Int) * (-1)) ((((i+1).toNat:Nat):Int) - ((0:Nat):Int)) (-1)
     rw [e1,e2]
     exact Heap.get?_push_size _ rfl
    ·have e:=List.mem_singleton.mp hb
     subst e
     exact I2.fpOk (Nat.le_refl _) (I2.hok.fresh (Nat.le_refl _))
theorem smallE {n:Nat} (h2:n < 1000000):Builtin.Range.small (n:Int) 0 (-1)=true∧Builtin.Range.rangeSize (n:Int) 0 (-1)=(n:Int):=by
 have z:Builtin.Range.rangeSize (n:Int) 0 (-1)=(n:Int):=by
  unfold Builtin.Range.rangeSize
  rw [if_neg (by decide)]
  have e1:((n:Int) - 0 - 1) / - -1=n - 1:=by
   rw [show (- -1:Int)=1 from rfl,Int.ediv_one]
   omega
  split
  ·rw [e1];omega
  ·omega
 refine ⟨?_,z⟩
 have f:∀ i:Int,-2≤i→i≤1000000→Builtin.Range.rangeFitsLong i=true:=fun i h3 h4=>by
  unfold Builtin.Range.rangeFitsLong
  rw [Bool.and_eq_true,decide_eq_true_eq,decide_eq_true_eq]
  omega
 unfold Builtin.Range.small
 rw [z,f n (by omega) (by omega),f 0 (by omega) (by omega),f (-1) (by omega) (by omega),if_neg (by decide),f (0+(-1+1)) (by omega) (by omega)]
 simp
theorem a6J {n:Nat} {g:Nat→Int} {acc:Array Value} (h:ItemsOf (fun i v=>∃ t,v=.int (g i) t) acc n):a0O ((List.range n).map fun i=>V.int (g i)) acc.toList:=by
 obtain ⟨h1,h2⟩:=h
 have key:∀ k,k≤n→a0O ((List.range k).map fun i=>V.int (g i)) (acc.toList.take k):=by
  intro k
  induction k with
  | zero=>intro _;rw [List.take_zero];exact .nil
  | succ k ih =>
   intro hk
   have hk':k < acc.toList.length:=by rw [Array.length_toList,h1];omega
   rw [List.range_succ,List.map_append,List.take_add_one,List.getElem?_eq_getElem hk']
   obtain ⟨t,ht⟩:=h2 k (acc.toList[k]) (by rw [←Array.getElem?_toList,List.getElem?_eq_getElem hk'])
   refine (ih (by omega)).append ?_
   rw [ht]
   exact .cons ⟨t,rfl⟩ .nil
 have:=key n (Nat.le_refl _)
 rw [List.take_of_length_le (by rw [Array.length_toList,h1];exact Nat.le_refl _)] at this
 exact this
def tLRD (ta:TA):TE:=fun σ H Q=>ta σ H fun vs H1=>∃ n:Nat,vs=[.int (n:Int),.int 0,.int (-1)]∧n < 1000∧∀ p,H1 p=none→Q (.ref p) (upd H1 p (.lst ((List.range n).map fun i:Nat=>V.int ((n:Int)+(i:Int) * (-1)))))
theorem a5u {X:Cx} {a b c:Expr} {ta:TA} {p p2 pos pos2:Pos} (hc:X.calm=true) (hg:Gl X "list") (hm:X.mg "list"=none) (hg2:Gl X "range") (hm2:X.mg "range"=none) (ha:PA X [a,b,c] ta)
  (hs:starEach [.Call (.Name "range" p2) [a,b,c] [] pos2] X.env=(false,eval (.Call (.Name "range" p2) [a,b,c] [] pos2) X.env) :: starEach [] X.env:=by rfl) (hs2:starEach [a,b,c] X.env=(false,eval a X.env) :: starEach [b,c] X.env:=by rfl) (hs3:(backTo pos2 (starEach [b,c] X.env)).any (·.1)=false:=by rfl) :
  PE X (.Call (.Name "list" p) [.Call (.Name "range" p2) [a,b,c] [] pos2] [] pos) (tLRD ta):=by
 intro pins s σ H Q I h
 refine wpAny_Call_Name_kw (a2k I hg hm b_list ?_ (by decide) (by decide))
 refine PyProof.Rows.callWith_type1 ?_ hs rfl
 rw [hs]
 refine Calls.spliced_cons ?_
 refine wpAny_Call_Name_kw (a2k I hg2 hm2 boot_range ?_ (by decide) (by decide))
 refine PyProof.Rows.callWith_type1 (thn (ha pos2 pins s σ H _ I h) fun us s1 ⟨vs,H1,I1,r1,q1⟩=>?_) hs2 hs3
 obtain ⟨n,e,hn,q⟩:=q1
 subst e
 cases r1 with
 | cons r rr =>
  cases rr with
  | cons r' rr =>
   cases rr with
   | cons r'' rr =>
    cases rr
    obtain ⟨t,rfl⟩:=r
    obtain ⟨t',rfl⟩:=r'
    obtain ⟨t'',rfl⟩:=r''
    obtain ⟨sm,z0⟩:=smallE (n:=n) (by omega)
    refine call_range_3 (by decide) ?_ (.inl (PyProof.noPylong_small (by decide)))
    refine Calls.spliced_nil ?_
    have I2:Inv X pins σ H1 { s1 with heap:=s1.heap.push { cls:=.type "range",data:=.fields #[.int (n:Int) t,.int 0 t',.int (-1) t''] },toks:=s1.toks }:=I1.kept fun b o e=>Heap.get?_push_of_some _ e
    refine call_list_range (I.ok.hd hc) (IsRange.new ..) sm z0 (by omega) fun h' tk acc c' hk hS hacc=>?_
    have er:=a6J (g:=fun i=>(n:Int)+(i:Int) * (-1)) hacc
    have fr:=I2.hok.fresh (Nat.le_refl _)
    exact ⟨.ref _,_,I2.laid (t':=tk) hk (Nat.le_refl _) (show a1n X.prog X.w _ h' _ (.lst _) from ⟨by rw [List.length_map,List.length_range,sizeLine_eq];omega,acc.toList,c',er,hS⟩),rfl,q _ fr⟩
section
variable {X:Cx} {pins:List (Addr × Obj)} {σ:St} {H:Hp} {s:Shared}
end
theorem a3j {X:Cx} (K:PySem.W.Frag) (hK:X.K=K:=by rfl):a3D X (.builtin "len") (fun xs H Q=>∃ p ys,xs=[.ref p]∧(SqL K H p ys∨SqT K H p ys)∧Q (.int (ys.length:Nat)) H):=by
 subst hK
 exact a0j
abbrev exA (a:Addr) (o:Obj):HO:=.ext fun h=>h.get? a=some o
abbrev cdA (c:Addr) (q:Str):HO:=.ext fun h=>h.CodeRec (.ref c) q
def unt (as:List Addr) (H:Hp):Hp:=fun b=>if b∈as then none else H b
def rtk (as:List Addr) (H H':Hp):Hp:=fun b=>if b∈as then H b else H' b
theorem a3k {as:List Addr} {H:Hp} {b:Addr} (h:b∈as):unt as H b=none:=if_pos h
theorem a0M {as:List Addr} {H:Hp} {b:Addr} (h:b∉as):unt as H b=H b:=if_neg h
theorem b0H {as:List Addr} {H H':Hp} {b:Addr} (h:b∈as):rtk as H H' b=H b:=if_pos h
theorem a1x {as:List Addr} {H H':Hp} {b:Addr} (h:b∉as):rtk as H H' b=H' b:=if_neg h
def Exs (H:Hp) (as:List Addr):Prop:=∀ a∈as,∃ o,H a=some (exA a o)
section
variable {P:Program} {w:World} {H H':Hp} {h h':Heap} {as:List Addr} {fs ex:List Addr}
theorem Exs.out (x:Exs H as) {b:Addr} {u:HO} (e:H b=some u) (hn:∀ o,u≠exA b o):b∉as:=fun z=>by
 obtain ⟨o,e'⟩:=x b z
 rw [e] at e'
 exact hn o (Option.some.inj e')
theorem HOk.unt (x:HOk P w H h) (e:Exs H as):HOk P w (L2.unt as H) h:=fun a o q=>by
 have ne:a∉as:=fun z=>by rw [a3k z] at q;cases q
 rw [a0M ne] at q
 exact (x a o q).stay (fun b u _ r=>r) (fun b r=>by rw [a0M (e.out r fun o=>by intro z;cases z)];exact r) fun b xs r=>by rw [a0M (e.out r fun o=>by intro z;cases z)];exact r
theorem a5V {a:Addr} {o:Obj} (e:h.get? a=some o):a1n P w H h a (exA a o):=⟨e,⟨o,e⟩,fun h1 h2 e1 k=>k o e1⟩
theorem cdA_ok {c:Addr} {q:Str} (e:h.CodeRec (.ref c) q):a1n P w H h c (cdA c q):=by
 obtain ⟨c2,o,vs,t,e1,g,r⟩:=e
 cases e1
 refine ⟨⟨c,o,vs,t,rfl,g,r⟩,⟨o,g⟩,fun h1 h2 x k=>?_⟩
 obtain ⟨c3,o',vs',t',e2,g',r'⟩:=x
 cases e2
 exact ⟨c,o',vs',t',rfl,k _ g',r'⟩
theorem Un.rtk (u:Un fs ex (L2.unt as H) H' h h') (e:Exs H as):Un fs ex H (L2.rtk as H H') h h':=by
 have no:∀ {b:Addr},H b=none→b∉as:=fun {b} n z=>by obtain ⟨o,q⟩:=e b z;rw [n] at q;cases q
 refine ⟨fun b o q n hb hx=>u.keep b o q (by rw [a0M (no n)];exact n) hb hx,fun b o q n hb hx=>u.slot b o q (by rw [a0M (no n)];exact n) hb hx,fun b o q n hx=>?_,u.there,fun b xs q=>?_,fun b o u' q=>?_,fun b ps q=>?_⟩
 ·rw [a1x (no n)];exact u.free b o q (by rw [a0M (no n)];exact n) hx
 ·have ne:=e.out q fun o=>by intro z;cases z
  rw [a1x ne];exact u.tups b xs (by rw [a0M ne];exact q)
 ·have ne:=e.out q fun o=>by intro z;cases z
  rw [a1x ne];exact u.frzs b o u' (by rw [a0M ne];exact q)
 ·have ne:=e.out q fun o=>by intro z;cases z
  rw [a1x ne];exact u.tbls b ps (by rw [a0M ne];exact q)
theorem HOk.rtk (x:HOk P w H' h') (u:Un fs ex (L2.unt as H) H' h h') (x0:HOk P w H h) (e:Exs H as) (nf:∀ a∈as,a∉fs∧a∉ex):HOk P w (L2.rtk as H H') h':=fun a o q=>by
 have no:∀ {b:Addr},b∈as→H' b=none∧∀ o,H b=some (exA b o)→h'.get? b=some o:=fun {b} z=>by
  obtain ⟨o1,q1⟩:=e b z
  have g1:h.get? b=some o1:=(x0 b _ q1).1
  refine ⟨u.free b o1 g1 (a3k z) (nf b z).2,fun o2 q2=>?_⟩
  have g2:h.get? b=some o2:=(x0 b _ q2).1
  exact u.keep b o2 g2 (a3k z) (nf b z).1 (nf b z).2
 by_cases z:a∈as
 ·rw [b0H z] at q
  obtain ⟨o1,q1⟩:=e a z
  rw [q1] at q;cases q
  exact a5V ((no z).2 o1 q1)
 ·rw [a1x z] at q
  have st:∀ {b:Addr} {y:HO},H' b=some y→b∉as:=fun {b y} r k=>by rw [(no k).1] at r;cases r
  exact (x a o q).stay (fun b u _ r=>r) (fun b r=>by rw [a1x (st r)];exact r) fun b xs r=>by rw [a1x (st r)];exact r
end
def cxL (P:Program) (w:World) (K:PySem.W.Frag) (mg:Str→Option Value) (base:Heap) (N:List Str) (qual:Str) (scope:Scope) (g:Addr) (cd:Value) (cl:List (Str × Addr)) (A:Around) (outer:List Env) (s:Shared) (H:Hp) (xe:Value→Shared→Prop):Cx where
 prog:=P
 w:=w
 K:=K
 mg:=mg
 base:=base
 A:=A.deeper (PySem.W.envX qual scope s.heap.objs.size g cd cl)
 N:=N
 s₀:=s
 H₀:=H
 env:=PySem.W.envX qual scope s.heap.objs.size g cd cl
 outer:=outer
 stack:=PySem.W.envX qual scope s.heap.objs.size g cd cl :: outer
 ex:=[]
 calm:=true
 fn:=fun _=>false
 pn:=[]
 xe:=xe
structure a4g (scope:Scope) (ps:List Str) (cl:List (Str × Addr)):Prop where
 kind:scope.kind=.function
 co:scope.isCoroutine=false
 gen:scope.isGenerator=false
 nd:(ps++cl.map (·.1)).Nodup
 par:∀ x∈ps,scope.names.lookup x=some .local
 nocell:∀ y∈scope.names,y.2≠.cell
 fr:∀ y∈scope.names,y.2=.free→y.1∈cl.map (·.1)
 cap:∀ x∈cl.map (·.1),scope.names.lookup x=some .free
theorem a3l:∀ {cl:List (Str × Addr)} {i:Nat} {x:Str} {c:Addr},(cl.map (·.1)).Nodup→cl[i]?=some (x,c)→cl.lookup x=some c
 | [],_,_,_,_,h=>by simp at h
 | (y,d) :: cl,0,x,c,_,h=>by
  have h:y=x∧d=c:=by simpa using h
  obtain ⟨rfl,rfl⟩:=h
  simp [List.lookup]
 | (y,d) :: cl,i+1,x,c,nd,h=>by
  have h:cl[i]?=some (x,c):=by simpa using h
  have ne:x≠y:=fun z=>(List.nodup_cons.mp nd).1 (by rw [←z];exact List.mem_map.mpr ⟨_,List.mem_of_getElem? h,rfl⟩)
  have e:(x == y)=false:=by simpa using ne
  rw [List.lookup,e]
  exact a3l (List.nodup_cons.mp nd).2 h
theorem a1S:∀ {cl:List (Str × Addr)} {x:Str} {c:Addr},cl.lookup x=some c→∃ i:Nat,cl[i]?=some (x,c)
 | [],_,_,h=>by cases h
 | (y,d) :: cl,x,c,h=>by
  rw [List.lookup] at h
  cases e:(x == y) with
  | true =>
   rw [e] at h
   have:d=c:=by simpa using h
   have xy:x=y:=by simpa using e
   exact ⟨0,by rw [xy,this];rfl⟩
  | false =>
   rw [e] at h
   obtain ⟨i,hi⟩:=a1S h
   exact ⟨i+1,by simpa using hi⟩
theorem a6K {us:List Value}:∀ {ps:List Str},ps.Nodup→∀ {i:Nat} {x:Str} {u:Value},ps[i]?=some x→us[i]?=some u→(ps.zip us).reverse.lookup x=some u:=by
 induction us with
 | nil=>intro ps _ i x u _ h;simp at h
 | cons v us ih =>
  intro ps nd i x u h1 h2
  cases ps with
  | nil=>simp at h1
  | cons p ps =>
   rw [List.zip_cons_cons,List.reverse_cons,List.lookup_append]
   cases i with
   | zero =>
    have e1:p=x:=by simpa using h1
    have e2:v=u:=by simpa using h2
    subst e1 e2
    have:(ps.zip us).reverse.lookup p=none:=by
     cases e:(ps.zip us).reverse.lookup p with
     | none=>rfl
     | some y =>
      have:=PySem.mem_of_lookup e
      rw [List.mem_reverse] at this
      exact absurd (List.of_mem_zip this).1 (List.nodup_cons.mp nd).1
    rw [this]
    simp [List.lookup]
   | succ i =>
    rw [ih (List.nodup_cons.mp nd).2 (by simpa using h1) (by simpa using h2)]
    rfl
theorem a5W {P:Program} {w:World} {K:PySem.W.Frag} {mg:Str→Option Value} {base:Heap} {k:Nat} {name qual:Str} {params:Arguments} {body:Expr} {scope:Scope} {cl:List (Str × Addr)} {pm ctv:Value} {c' g:Addr} {ps:List Str} {A:Around} {outer:List Env} {s:Shared} {H:Hp} {us:List Value} {vs cvs:List V} {Q:VK} {E:XK}
  (S:a4g scope ps cl) (hr:a2a (k+1) A) (e0:a8U P w K mg base A outer s H) (ho:H g=some (exA g (PySem.W.kla_obj name qual params body scope cl pm c' ctv))) (hc:H c'=some (cdA c' qual)) (nda:(cl.map (·.2)).Nodup)
  (hcl:∀ (i:Nat) (x:Str) (c:Addr),cl[i]?=some (x,c)→∃ o u v,H c=some (exA c o)∧o.data=.cell (some u)∧cvs[i]?=some v∧a1a v u) (lcv:cvs.length=cl.length) (r:a0O vs us) (hl:vs.length=ps.length)
  (hb:bindArgs (PySem.W.kla_fn name qual params body scope cl pm (.ref c') ctv) ⟨us,[]⟩=pure (ps.zip us))
  (hbody:∀ xe,a2a k (A.deeper (PySem.W.envX qual scope s.heap.objs.size g (.ref c') cl))→∃ t,PE (cxL P w K mg base (ps++cl.map (·.1)) qual scope g (.ref c') cl A outer s (unt (cl.map (·.2)) H) xe) body t∧t ((vs++cvs).map some) (unt (cl.map (·.2)) H) fun v H'=>(∀ a∈cl.map (·.2),H' a=none)→Q v (rtk (cl.map (·.2)) H H')) :
  codeAny (model P w) A (.call (.ref g) ⟨us,[]⟩) (CR CX0 outer P w H s Q E) s:=by
 have lim:s.heap.NoLimit:=e0.mod.nolimit.keeps fun b o e=>(e0.bs b o e).1
 have eg:s.heap.get? g=some (PySem.W.kla_obj name qual params body scope cl pm c' ctv):=(e0.hok g _ ho).1
 have ec:s.heap.CodeRec (.ref c') qual:=(e0.hok c' _ hc).1
 have exs:Exs H (cl.map (·.2)):=fun a ha=>by
  obtain ⟨⟨x,c⟩,hm,rfl⟩:=List.mem_map.mp ha
  obtain ⟨i,hi⟩:=List.mem_iff_getElem?.mp hm
  obtain ⟨o,u,v,e1,_⟩:=hcl i x c hi
  exact ⟨o,e1⟩
 have ndp:ps.Nodup:=(List.nodup_append.mp S.nd).1
 have ndc:(cl.map (·.1)).Nodup:=(List.nodup_append.mp S.nd).2.1
 have lus:us.length=ps.length:=by rw [←r.length,hl]
 refine PySem.W.kla_callFunE hr.depth eg rfl S.co S.gen rfl ec ?_
 rw [hb]
 refine wpAny_pure (wpAny_newFunctionEnv S.nocell (fun y hy=>S.par y.1 (List.of_mem_zip hy).1) (fun h₁ hns hsb=>?_) S.kind)
 have hk₁:∀ b o,s.heap.get? b=some o→h₁.get? b=some o:=fun b o e=>hsb.extBut b o (Nat.ne_of_lt (Heap.lt_size e)) (Heap.get?_push_of_some _ e)
 refine ⟨lim.keeps hk₁,?_⟩
 show codeAny _ _ (.expr body (PySem.W.envX qual scope s.heap.objs.size g (.ref c') cl)) _ _
 refine PySem.W.kla_codeExpr ?_
 obtain ⟨t,ht,hq⟩:=hbody (fun e' s'=>wpAny (model P w) (A.deeper (PySem.W.envX qual scope s.heap.objs.size g (.ref c') cl)) (leaving (PySem.W.envX qual scope s.heap.objs.size g (.ref c') cl) e') (fun _ s''=>CR CX0 outer P w H s Q E (.error e') s'') (fun e'' s''=>CR CX0 outer P w H s Q E (.error e'') s'') s') (hr.deeper _)
 have cellAt:∀ x c,cl.lookup x=some c→∃ (i:Nat) (o:Obj) (u:Value) (v:V),cl[i]?=some (x,c)∧H c=some (exA c o)∧h₁.get? c=some o∧o.data=.cell (some u)∧cvs[i]?=some v∧a1a v u:=fun x c e=>by
  obtain ⟨i,hi⟩:=a1S e
  obtain ⟨o,u,v,e1,e2,e3,e4⟩:=hcl i x c hi
  exact ⟨i,o,u,v,hi,e1,hk₁ _ _ (e0.hok c _ e1).1,e2,e3,e4⟩
 have memA:∀ x c,cl.lookup x=some c→c∈cl.map (·.2):=fun x c e=>by
  obtain ⟨i,hi⟩:=a1S e
  exact List.mem_map.mpr ⟨_,List.mem_of_getElem? hi,rfl⟩
 have noA:∀ b:Addr,b∉([]:List Addr):=fun b z=>by cases z
 have utn:∀ {b:Addr},H b=none→unt (cl.map (·.2)) H b=none:=fun {b} n=>by
  by_cases z:b∈cl.map (·.2)
  ·exact a3k z
  ·rw [a0M z];exact n
 have I:Inv (cxL P w K mg base (ps++cl.map (·.1)) qual scope g (.ref c') cl A outer s (unt (cl.map (·.2)) H) (fun e' s'=>wpAny (model P w) (A.deeper (PySem.W.envX qual scope s.heap.objs.size g (.ref c') cl)) (leaving (PySem.W.envX qual scope s.heap.objs.size g (.ref c') cl) e') (fun _ s''=>CR CX0 outer P w H s Q E (.error e') s'') (fun e'' s''=>CR CX0 outer P w H s Q E (.error e'') s'') s')) [] ((vs++cvs).map some) (unt (cl.map (·.2)) H) { s with heap:=h₁,toks:=s.toks+(ps.zip us).length }:=by
  refine ⟨⟨e0.mod,S.kind,rfl,rfl,Nat.le_refl _,fun y z c h1 h2=>?_,fun y hy=>?_,fun y c z h=>(by cases z),fun _=>hr.hd,Around.frames_deeper e0.frames,.inr ⟨rfl,rfl⟩,fun b z=>absurd z (noA b),fun b o e=>⟨(e0.bs b o e).1,utn (e0.bs b o e).2⟩,e0.bsz,fun b _ _=>noA b,fun b z=>absurd z (noA b),e0.funs,fun b hb=>utn (e0.frf b hb)⟩,
   rfl,e0.bare,Un.kept hk₁,⟨_,hns,fun i y v h1 h2 h3=>?_⟩,fun y c h=>?_,utn (e0.hok.fresh (Nat.le_refl _)),fun y c h=>a3k (memA y c h),fun p hp=>absurd (show p∈([]:List (Addr × Obj)) from hp) (by simp),(e0.hok.unt exs).kept hk₁,?_⟩
  ·obtain ⟨i,hi⟩:=a1S (show cl.lookup y=some c from h1)
   obtain ⟨j,hj⟩:=a1S (show cl.lookup z=some c from h2)
   have e1:(cl.map (·.2))[i]?=some c:=by rw [List.getElem?_map,hi];rfl
   have e2:(cl.map (·.2))[j]?=some c:=by rw [List.getElem?_map,hj];rfl
   have il:=(List.getElem?_eq_some_iff.mp e1).1
   have ij:i=j:=(List.getElem?_inj il nda).mp (e1.trans e2.symm)
   subst ij
   rw [hi] at hj
   exact congrArg Prod.fst (Option.some.inj hj)
  ·have hy:scope.names.lookup y=some .cell∨scope.names.lookup y=some .free:=hy
   rcases hy with hy | hy
   ·exact absurd rfl (S.nocell _ (PySem.mem_of_lookup hy))
   ·have hm:=S.fr _ (PySem.mem_of_lookup hy) rfl
    obtain ⟨⟨x,c⟩,hx,e⟩:=List.mem_map.mp hm
    have e:x=y:=e
    subst e
    obtain ⟨i,hi⟩:=List.mem_iff_getElem?.mp hx
    exact ⟨c,a3l ndc hi⟩
  ·have h1:(ps++cl.map (·.1))[i]?=some y:=h1
   rw [List.getElem?_map] at h2
   by_cases hi:i < ps.length
   ·rw [List.getElem?_append_left hi] at h1
    rw [List.getElem?_append_left (by omega)] at h2
    cases ev:vs[i]? with
    | none=>rw [ev] at h2;cases h2
    | some v' =>
     rw [ev] at h2
     have:v'=v:=by simpa using h2
     subst this
     obtain ⟨u,hu,rv⟩:=r.get ev
     exact ⟨u,rv,.inl ⟨S.par y (List.mem_of_getElem? h1),a6K ndp h1 hu⟩⟩
   ·rw [List.getElem?_append_right (by omega),List.getElem?_map] at h1
    rw [List.getElem?_append_right (by omega)] at h2
    cases ec':cl[i - ps.length]? with
    | none=>rw [ec'] at h1;cases h1
    | some q =>
     obtain ⟨x,c⟩:=q
     rw [ec'] at h1
     have:x=y:=by simpa using h1
     subst this
     obtain ⟨o,u,v',e1,e2,e3,e4⟩:=hcl _ x c ec'
     rw [hl,e3] at h2
     have:v'=v:=by simpa using h2
     subst this
     exact ⟨u,e4,.inr ⟨.inr (S.cap x (List.mem_map.mpr ⟨_,List.mem_of_getElem? ec',rfl⟩)),c,a3l ndc ec',o,hk₁ _ _ (e0.hok c _ e1).1,e2⟩⟩
  ·obtain ⟨i,o,u,v,_,_,e3,e4,_⟩:=cellAt y c h
   exact ⟨_,o,e3,e4⟩
  ·show ((vs++cvs).map some).length=(ps++cl.map (·.1)).length
   rw [List.length_map,List.length_append,List.length_append,List.length_map,hl,lcv]
 refine wpAny_mono (ht [] _ _ _ _ I hq) (fun u s' hs=>?_) fun e s' hs=>hs
 obtain ⟨v,H',J,rv,q⟩:=hs
 have nf:∀ a∈cl.map (·.2),a∉frs outer∧a∉([]:List Addr):=fun a ha=>⟨fun z=>(by
  obtain ⟨o,e⟩:=exs a ha
  rw [e0.frf a z] at e
  cases e),noA a⟩
 have un:Un (frs outer) [] (unt (cl.map (·.2)) H) H' s.heap s'.heap:=J.base
 exact ⟨v,rtk (cl.map (·.2)) H H',J.os,J.bare,un.rtk exs,HOk.rtk J.hok un e0.hok exs nf,rv,q fun a ha=>(by
  obtain ⟨o,e⟩:=exs a ha
  exact un.free a o (e0.hok a _ e).1 (a3k ha) (noA a))⟩
structure a7N (P:Program) (w:World) (K:PySem.W.Frag) (mg:Str→Option Value) (base:Heap) (k:Nat) (R:Addr→List V→Hp→VK→Prop):Prop where
 at':∀ {g:Addr} {vs:List V} {H:Hp} {Q:VK},R g vs H Q→∃ oc od fd sl,H g=some (exA g ⟨oc,od,.func fd,sl⟩)
 run:∀ (A:Around) (outer:List Env) (s:Shared) (H:Hp) (g:Addr) (us:List Value) (vs:List V) (Q:VK),a2a k A→a8U P w K mg base A outer s H→a0O vs us→R g vs H Q→codeAny (model P w) A (.call (.ref g) ⟨us,[]⟩) (CR CX0 outer P w H s Q E0) s
def tCallV (i:Nat) (R:Addr→List V→Hp→VK→Prop) (t:TA):TE:=fun σ H Q=>∃ g oc od fd sl,σ[i]?=some (some (.ref g))∧H g=some (exA g ⟨oc,od,.func fd,sl⟩)∧t σ H fun vs H1=>R g vs H1 Q
theorem a5X {X:Cx} {i k:Nat} {x:Str} {R:Addr→List V→Hp→VK→Prop} {e:Expr} {es:List Expr} {t:TA} {p pos:Pos} (L:a7N X.prog X.w X.K X.mg X.base k R) (hr:a2a k X.A) (hN:X.N[i]?=some x) (hv:Vis X.env.scope x) (ha:PA X (e :: es) t)
  (hd:(x == ("__debug__":Str))=false:=by decide) (hcd:(x == ("__classdict__":Str))=false:=by decide) (he:starEach (e :: es) X.env=(false,eval e X.env) :: starEach es X.env:=by rfl) (hpl:(backTo pos (starEach es X.env)).any (·.1)=false:=by rfl) :
  PE X (.Call (.Name x p) (e :: es) [] pos) (tCallV i R t):=by
 intro pins s σ H Q I h
 obtain ⟨g,oc,od,fd,sl,e1,e2,h⟩:=h
 refine wpAny_Call_Name_kw (thn ((b0u (pos:=p) hN hv hd hcd) pins s σ H (fun v H'=>v=.ref g∧H'=H) I ⟨_,e1,rfl,rfl⟩) fun u s1 hu=>?_)
 obtain ⟨v,H',I1,rv,rfl,rfl⟩:=hu
 obtain rfl:u=Value.ref g:=rv
 refine PySem.W.callWith_F ⟨oc,od,fd,sl,(I1.hok g _ e2).1⟩ (thn (ha pos pins s1 σ H' _ I1 h) fun us s2 ⟨vs,H1,I2,r,q⟩=>⟨?_,?_⟩) he hpl
 ·obtain ⟨oc',od',fd',sl',e3⟩:=L.at' q
  exact ⟨oc',od',fd',sl',(I2.hok g _ e3).1⟩
 ·refine wpAny_call (codeAny_mono (L.run X.A X.stack s2 H1 g us vs Q hr I2.env0 r q) fun r s' hq=>?_)
  cases r with
  | error e=>exact False.elim hq
  | ok fl =>
   cases fl with
   | ret u=>exact I2.after hq
   | next=>exact False.elim hq
   | brk=>exact False.elim hq
   | cont=>exact False.elim hq
abbrev a1g (lpos:Pos) (c':Addr):Array Value:=#[rawInt lpos.line,rawInt lpos.col,.ref c']
def a0N (H:Hp) (T:Addr) (lpos:Pos) (q:Str):Prop:=H T=some (.tbl #[])∨∃ c',H T=some (.tbl (a1g lpos c'))∧H c'=some (cdA c' q)
structure LamH (H H2:Hp) (T:Addr) (lpos:Pos) (q:Str) (c' g:Addr) (o:Obj):Prop where
 tb:H2 T=some (.tbl (a1g lpos c'))
 cd:H2 c'=some (cdA c' q)
 ob:H2 g=some (exA g o)
 ot:∀ b u,b≠T→H b=some u→H2 b=some u
 ng:H g=none
 sm:∀ c2,H T=some (.tbl (a1g lpos c2))→c2=c'
theorem b1Q {lpos:Pos} {c c':Addr} (e:a1g lpos c=a1g lpos c'):c=c':=by
 have h2:=congrArg (fun z:Array Value=>z[2]?) e
 have h3:some (Value.ref c)=some (Value.ref c'):=h2
 cases h3
 rfl
theorem Un.lam {fs:List Addr} {P:Program} {w:World} {H H3:Hp} {h h3:Heap} {T:Addr} {ps more:Array Value} (hok:HOk P w H h) (k:∀ b u,b≠T→h.get? b=some u→h3.get? b=some u) (eT:∃ u,h3.get? T=some u) (e:H T=some (.tbl ps)) (e3:H3 T=some (.tbl (ps++more))) (ot:∀ b,b < h.objs.size→b≠T→H3 b=H b):Un fs [] H H3 h h3:=by
 have nT:∀ {b:Addr},H b=none→b≠T:=fun {b} n z=>by rw [z,e] at n;cases n
 refine ⟨fun b o q n _ _=>k b o (nT n) q,fun b o q n _ _=>⟨o.slots,k b o (nT n) q⟩,fun b o q n _=>?_,fun b o q _=>?_,fun b xs q=>?_,fun b o u q=>?_,fun b qs q=>?_⟩
 ·rw [ot b (Heap.lt_size q) (nT n)];exact n
 ·by_cases z:b=T
  ·subst z;exact eT
  ·exact ⟨o,k b o z q⟩
 ·rw [ot b (hok.lt q) (a0E q e (by intro z;cases z))];exact q
 ·rw [ot b (hok.lt q) (a0E q e (by intro z;cases z))];exact q
 ·by_cases z:b=T
  ·subst z
   rw [e] at q;cases q
   exact ⟨more,e3⟩
  ·exact ⟨#[],by rw [ot b (hok.lt q) z,q];simp⟩
theorem HOk.lam {P:Program} {w:World} {H H3:Hp} {h h3:Heap} {T:Addr} {ps:Array Value} (hok:HOk P w H h) (k:∀ b u,b≠T→h.get? b=some u→h3.get? b=some u) (e:H T=some (.tbl ps)) (ot:∀ b,b < h.objs.size→b≠T→H3 b=H b) (new:∀ a o,H3 a=some o→(a=T∨h.objs.size≤a)→a1n P w H3 h3 a o):HOk P w H3 h3:=fun a o q=>by
 by_cases z:a=T
 ·exact new a o q (.inl z)
 by_cases y:h.objs.size≤a
 ·exact new a o q (.inr y)
 have q':H a=some o:=by rw [←ot a (by omega) z];exact q
 refine (hok a o q').stay (fun b u hb r=>k b u ?_ r) (fun b r=>?_) fun b xs r=>?_
 ·rcases hb with rfl | hb
  ·exact z
  ·exact a0E hb e (by intro z;cases z)
 ·rw [ot b (hok.lt r) (a0E r e (by intro z;cases z))];exact r
 ·rw [ot b (hok.lt r) (a0E r e (by intro z;cases z))];exact r
structure b1R (X:Cx) (c T bm:Addr):Prop where
 code:X.env.code=.ref c
 hd:PySem.W.codeHdIn X.K c T=true
 hbm:X.mg "__builtins__"=some (.ref bm)
 bo:∃ o,X.base.get? bm=some o∧o.cls=.type "module"∧o.dict=some builtinsNs∧o.data=.plain
 b1:bm≠builtinsNs
 b2:bm≠mainGlobals
 b3:bm≠T
 b4:mainGlobals≠T
def tLam (T:Addr) (lpos:Pos) (q:Str) (mk:Addr→Value→Value→Obj):TE:=fun _ H Q=>a0N H T lpos q∧∀ c' pm ctv g H2,LamH H H2 T lpos q c' g (mk c' pm ctv)→Q (.ref g) H2
theorem b0I {X:Cx} {params:Arguments} {body:Expr} {lscope:Scope} {lpos:Pos} {c T bm:Addr} {clos:List (Str × Addr)} (M:b1R X c T bm) (hcl:closureFor lscope X.env=pure clos) (hdef:defaultsOf params X.env=([],[]):=by rfl) :
  PE X (.Lambda params body lscope lpos) (tLam T lpos (X.env.qual++"<lambda>") fun c' pm ctv=>PySem.W.kla_obj "<lambda>" (X.env.qual++"<lambda>") params body lscope clos pm c' ctv):=by
 intro pins s σ H Q I h
 obtain ⟨tab,h⟩:=h
 refine PySem.W.kla_eval hdef ?_
 have hg:s.heap.Ns mainGlobals X.mg:=I.mod.glob.keeps I.bk
 have C:=PySem.W.codeHd_of_K I.kIn M.hd
 obtain ⟨ob,lo,l1,l2,l3⟩:=M.bo
 have hB:s.heap.BuiltinsAt X.mg T:=⟨bm,ob,M.hbm,M.b1,M.b2,M.b3,I.bk _ _ lo,l1,l2,l3⟩
 rcases tab with e | ⟨c',e,ec⟩
 ·have hP:s.heap.get? T=some (PySem.W.tabObj #[]):=I.hok T _ e
  refine PySem.W.kla_makeFunction hcl I.ok.glob hg M.code C hP trivial rfl M.b4 hB fun c' ctv h' tk hx hge hlt hrec htb=>?_
  have ltT:T < s.heap.objs.size:=I.hok.lt e
  have gs:s.heap.objs.size≤h'.objs.size:=Nat.le_trans hge (Nat.le_of_lt hlt)
  have cg:c'≠h'.objs.size:=Nat.ne_of_lt hlt
  have cT:c'≠T:=fun z=>Nat.lt_irrefl _ (Nat.lt_of_lt_of_le ltT (z▸hge))
  have gT:h'.objs.size≠T:=fun z=>Nat.lt_irrefl _ (Nat.lt_of_lt_of_le ltT (z▸gs))
  generalize eo:PySem.W.kla_obj "<lambda>" (X.env.qual++"<lambda>") params body lscope clos ((X.mg "__name__").getD .none) c' ctv=o
  have hfr:o.isFreed=false:=by rw [←eo];rfl
  let H3:Hp:=upd (upd (upd H T (.tbl (a1g lpos c'))) c' (cdA c' (X.env.qual++"<lambda>"))) h'.objs.size (exA h'.objs.size o)
  have t3:H3 T=some (.tbl (a1g lpos c')):=by
   show upd _ _ _ T=_
   rw [a0i (Ne.symm gT),a0i (Ne.symm cT),a0d]
  have c3:H3 c'=some (cdA c' (X.env.qual++"<lambda>")):=by
   show upd _ _ _ c'=_
   rw [a0i cg,a0d]
  have g3:H3 h'.objs.size=some (exA h'.objs.size o):=a0d
  have ot:∀ b,b < s.heap.objs.size→b≠T→H3 b=H b:=fun b hb hT=>by
   show upd _ _ _ b=_
   rw [a0i (Nat.ne_of_lt (Nat.lt_of_lt_of_le hb gs)),a0i (Nat.ne_of_lt (Nat.lt_of_lt_of_le hb hge)),a0i hT]
  have k3:∀ b u,b≠T→s.heap.get? b=some u→(h'.push o).get? b=some u:=fun b u hb q=>Heap.get?_push_of_some _ (hx b u hb q)
  have un:Un X.fs [] H H3 s.heap (h'.push o):=Un.lam (more:=a1g lpos c') I.hok k3 ⟨_,Heap.get?_push_of_some _ htb⟩ e (by rw [t3];simp) ot
  have hk3:HOk X.prog X.w H3 (h'.push o):=HOk.lam I.hok k3 e ot fun a u q hq=>by
   by_cases z1:a=T
   ·subst z1
    rw [t3] at q;cases q
    have:(h'.push o).get? a=some (PySem.W.tabObj (#[]++#[rawInt lpos.line,rawInt lpos.col,.ref c'])):=Heap.get?_push_of_some _ htb
    show (h'.push o).get? a=some _
    simpa using this
   by_cases z2:a=c'
   ·subst z2
    rw [c3] at q;cases q
    exact cdA_ok (hrec.push _)
   by_cases z3:a=h'.objs.size
   ·subst z3
    rw [g3] at q;cases q
    exact a5V (Heap.get?_push_size _ hfr)
   ·exfalso
    rcases hq with y | y
    ·exact z1 y
    ·have:H3 a=H a:=by
      show upd _ _ _ a=_
      rw [a0i z3,a0i z2,a0i z1]
     rw [this,I.hok.fresh y] at q
     cases q
  refine ⟨.ref h'.objs.size,H3,I.un (t':=tk) un hk3,rfl,h c' _ ctv h'.objs.size H3 ⟨t3,c3,by rw [g3,←eo],fun b u hb q=>by rw [ot b (I.hok.lt q) hb];exact q,I.hok.fresh gs,fun c2 e2=>by
   rw [e] at e2
   have h1:=HO.tbl.inj (Option.some.inj e2)
   have h2:=congrArg Array.size h1
   cases h2⟩⟩
 ·have hP:s.heap.get? T=some (PySem.W.tabObj (a1g lpos c')):=I.hok T _ e
  refine PySem.W.kla_makeFunctionHit (cv:=.ref c') hcl I.ok.glob hg M.code C hP (by exact trivial) (by simp [a1g,codeAmong,rawInt]) hB fun ctv h' tk hk hsz=>?_
  generalize eo:({ cls:=.type "function",data:=.func (PySem.W.kla_fn "<lambda>" (X.env.qual++"<lambda>") params body lscope clos ((X.mg "__name__").getD .none) (.ref c') ctv) }:Obj)=o
  have hfr:o.isFreed=false:=by rw [←eo];rfl
  have ltc:c' < s.heap.objs.size:=I.hok.lt ec
  have ltT:T < s.heap.objs.size:=I.hok.lt e
  refine ⟨.ref h'.objs.size,upd H h'.objs.size (exA h'.objs.size o),I.laid (t':=tk) (fun b u q=>Heap.get?_push_of_some _ (hk b u q)) hsz (a5V (Heap.get?_push_size _ hfr)),rfl,h c' _ ctv h'.objs.size _ ⟨?_,?_,by rw [a0d,←eo],fun b u hb q=>?_,I.hok.fresh hsz,fun c2 e2=>?_⟩⟩
  ·rw [a0i (Nat.ne_of_lt (Nat.lt_of_lt_of_le ltT hsz))];exact e
  ·rw [a0i (Nat.ne_of_lt (Nat.lt_of_lt_of_le ltc hsz))];exact ec
  ·rw [a0i (Nat.ne_of_lt (Nat.lt_of_lt_of_le (I.hok.lt q) hsz))];exact q
  ·rw [e] at e2
   exact (b1Q (HO.tbl.inj (Option.some.inj e2))).symm
def trk' (as:List Addr) (os:Addr→Obj) (H:Hp):Hp:=fun b=>if b∈as then some (exA b (os b)) else H b
theorem a5Y {as:List Addr} {os:Addr→Obj} {H:Hp} {b:Addr} (h:b∈as):trk' as os H b=some (exA b (os b)):=if_pos h
theorem a1h {as:List Addr} {os:Addr→Obj} {H:Hp} {b:Addr} (h:b∉as):trk' as os H b=H b:=if_neg h
section
variable {P:Program} {w:World} {H H3:Hp} {h h':Heap} {as:List Addr} {os:Addr→Obj} {fs ex:List Addr}
theorem HOk.trk (x:HOk P w H h) (n:∀ c∈as,H c=none) (g:∀ c∈as,h.get? c=some (os c)):HOk P w (trk' as os H) h:=fun a o q=>by
 by_cases z:a∈as
 ·rw [a5Y z] at q;cases q
  exact a5V (g a z)
 ·rw [a1h z] at q
  have no:∀ {b:Addr} {y:HO},H b=some y→b∉as:=fun {b y} r k=>by rw [n b k] at r;cases r
  exact (x a o q).stay (fun b u _ r=>r) (fun b r=>by rw [a1h (no r)];exact r) fun b xs r=>by rw [a1h (no r)];exact r
theorem Un.untrk (u:Un fs ex (trk' as os H) H3 h h') (n:∀ c∈as,H c=none) (g:∀ c∈as,h.get? c=some (os c)) (g3:∀ c∈as,h'.get? c=some (os c)):Un fs ex H (unt as H3) h h':=by
 have no:∀ {b:Addr} {y:HO},H b=some y→b∉as:=fun {b y} r k=>by rw [n b k] at r;cases r
 refine ⟨fun b o q nb hb hx=>?_,fun b o q nb hb hx=>?_,fun b o q nb hx=>?_,fun b o q hx=>?_,fun b xs q=>?_,fun b o u' q=>?_,fun b ps q=>?_⟩
 ·by_cases z:b∈as
  ·rw [g b z] at q;cases q
   exact g3 b z
  ·exact u.keep b o q (by rw [a1h z];exact nb) hb hx
 ·by_cases z:b∈as
  ·rw [g b z] at q;cases q
   exact ⟨_,g3 b z⟩
  ·exact u.slot b o q (by rw [a1h z];exact nb) hb hx
 ·by_cases z:b∈as
  ·exact a3k z
  ·rw [a0M z];exact u.free b o q (by rw [a1h z];exact nb) hx
 ·by_cases z:b∈as
  ·exact ⟨_,g3 b z⟩
  ·exact u.there b o q hx
 ·rw [a0M (no q)];exact u.tups b xs (by rw [a1h (no q)];exact q)
 ·rw [a0M (no q)];exact u.frzs b o u' (by rw [a1h (no q)];exact q)
 ·rw [a0M (no q)];exact u.tbls b ps (by rw [a1h (no q)];exact q)
end
structure a5v (X:Cx) (cl:List (Str × Addr)):Prop where
 at':∀ q∈cl,X.env.cells.lookup q.1=some q.2
 fn:∀ q∈cl,X.fn q.1=true
 ki:∀ q∈cl,X.env.scope.names.lookup q.1=some .cell
def tCallT (X:Cx) (cl:List (Str × Addr)) (sp:Sp) (t:TA):TE:=fun σ H Q=>t σ H fun vs H1=>∀ os:Addr→Obj,(∀ (j i:Nat) (n:Str) (c:Addr) (v:V),cl[j]?=some (n,c)→X.N[i]?=some n→σ[i]?=some (some v)→∃ u,(os c).data=.cell (some u)∧a1a v u)→(∀ c∈cl.map (·.2),H1 c=none) →
 sp vs (trk' (cl.map (·.2)) os H1) (fun v H3=>(∀ c∈cl.map (·.2),H3 c=some (exA c (os c)))∧Q v (unt (cl.map (·.2)) H3)) E0
theorem a5Z {X:Cx} {k:Nat} {f:Addr} {fd:FuncData} {ps:List Str} {sp:Sp} {x:Str} {p pos:Pos} {e:Expr} {es:List Expr} {t:TA} {cl:List (Str × Addr)} (F:a0W X.prog X.w X.K X.mg X.base CX0 k f fd ps sp) (hr:a2a k X.A) (hg:Gl X x) (hm:X.mg x=some (.ref f)) (hk:PySem.W.keepIn X.K (.ref f)=true) (hb:a1z X.K fd ps []) (hc:a5v X cl)
  (ha:PA X (e :: es) t) (hdb:(x == ("__debug__":Str))=false:=by decide) (he:starEach (e :: es) X.env=(false,eval e X.env) :: starEach es X.env:=by rfl) (hpl:(backTo pos (starEach es X.env)).any (·.1)=false:=by rfl) :
  PE X (.Call (.Name x p) (e :: es) [] pos) (tCallT X cl sp t):=by
 intro pins s σ H Q I h
 refine wpAny_Call_Name_kw (a3X I hg hm ?_ hdb)
 refine PySem.W.callWith_K (h₀:=X.base) I.ok.mod.kin hk (thn (ha pos pins s σ H _ I h) fun us s1 ⟨vs,H1,I1,r,q⟩=>⟨I1.kIn,?_⟩) he hpl
 have mem:∀ c∈cl.map (·.2),∃ n,(n,c)∈cl:=fun c hc=>by
  obtain ⟨⟨n,c'⟩,h1,rfl⟩:=List.mem_map.mp hc
  exact ⟨n,h1⟩
 let os:Addr→Obj:=fun c=>(s1.heap.get? c).getD ⟨.none,none,.plain,#[]⟩
 have g:∀ c∈cl.map (·.2),s1.heap.get? c=some (os c):=fun c hc'=>by
  obtain ⟨n,hn⟩:=mem c hc'
  obtain ⟨v,o,ho,_⟩:=I1.cell n c (hc.at' _ hn)
  show _=some ((s1.heap.get? c).getD _)
  rw [ho]
  rfl
 have nn:∀ c∈cl.map (·.2),H1 c=none:=fun c hc'=>by
  obtain ⟨n,hn⟩:=mem c hc'
  exact I1.freeC n c (hc.at' _ hn)
 have above:∀ c∈cl.map (·.2),X.s₀.heap.objs.size≤c:=fun c hc'=>by
  obtain ⟨n,hn⟩:=mem c hc'
  exact I1.ok.cab n c (hc.fn _ hn) (hc.at' _ hn)
 have hq:=q os (fun j i n c v h1 h2 h3=>by
  have hmem:=List.mem_of_getElem? h1
  obtain ⟨m,hn,hl⟩:=I1.loc
  obtain ⟨u,rv,l⟩:=hl i n v h2 h3 (.inr (.inl (hc.ki _ hmem)))
  refine ⟨u,?_,rv⟩
  rcases l with ⟨hk',_⟩ | ⟨_,c0,e0,o,ho,hd⟩
  ·have z:some NameKind.cell=some .local:=(hc.ki _ hmem).symm.trans hk'
   cases z
  ·have ec:some c0=some c:=e0.symm.trans (hc.at' _ hmem)
   cases ec
   have:os c=o:=by
    show (s1.heap.get? c).getD _=o
    rw [ho]
    rfl
   rw [this]
   exact hd) nn
 have e0:=I1.env0
 have e1:a8U X.prog X.w X.K X.mg X.base X.A X.stack s1 (trk' (cl.map (·.2)) os H1):=⟨e0.frames,e0.mod,fun b o hb'=>⟨(e0.bs b o hb').1,by
  rw [a1h fun z=>Nat.lt_irrefl _ (Nat.lt_of_lt_of_le (Heap.lt_size hb') (Nat.le_trans I1.ok.bsz (above b z)))]
  exact (e0.bs b o hb').2⟩,e0.bsz,e0.funs,fun b hb'=>by
  rw [a1h fun z=>?_]
  ·exact e0.frf b hb'
  ·obtain ⟨n,hn⟩:=mem b z
   rcases List.mem_cons.mp (I1.stkSub b hb') with y | y
   ·exact I1.cne n b (hc.at' _ hn) y
   ·obtain ⟨_,o,ho,_⟩:=I1.ok.funs.mem y
    exact Nat.lt_irrefl _ (Nat.lt_of_lt_of_le (Heap.lt_size ho) (above b z)),e0.hok.trk nn g,e0.bare⟩
 have hl:(us++([]:List Value)).length=ps.length:=by rw [List.append_nil,←r.length];exact F.len _ _ _ _ hq
 have hb1:=hb s1 us I1.kIn hl
 rw [List.append_nil] at hb1
 refine wpAny_call (codeAny_mono (F.run X.A X.stack s1 _ ⟨us,[]⟩ us vs _ E0 hr e1 hb1 r hq) fun r s' hq'=>?_)
 cases r with
 | error e=>exact False.elim hq'
 | ok fl =>
  cases fl with
  | ret u =>
   obtain ⟨v,H3,os',bare,un,hok3,rv,q3,q4⟩:=hq'
   have g3:∀ c∈cl.map (·.2),s'.heap.get? c=some (os c):=fun c hc'=>(hok3 c _ (q3 c hc')).1
   exact I1.after ⟨v,unt (cl.map (·.2)) H3,os',bare,un.untrk nn g g3,hok3.unt fun a ha=>⟨_,q3 a ha⟩,rv,q4⟩
  | next=>exact False.elim hq'
  | brk=>exact False.elim hq'
  | cont=>exact False.elim hq'
theorem Fun.okC {P:Program} {w:World} {K:PySem.W.Frag} {mg:Str→Option Value} {base:Heap} {x qual:Str} {st:Stmt} {f:Addr} {fd:FuncData} {N ps:List Str} {k:Nat} {sp:Sp} (F:Fun K x qual st f fd) (S:a0r N ps (a0b st)) (len:∀ vs H Q E,sp vs H Q E→vs.length=ps.length)
  (hbody:∀ (A:Around) (outer:List Env) (s:Shared) (H:Hp) (vs:List V) (Q:VK) (E:XK),a2a k (A.deeper (envOfC qual (a0b st) s.heap.objs.size f fd.code))→sp vs H Q E →
   ∃ t,PSs (a5M CX0 P w K mg base N qual (a0b st) f fd.code A outer s H E).nox (a0m st) t∧t { nx:=fun _ H'=>Q .non H',rt:=Q } (start N vs) H):a0W P w K mg base CX0 (k+1) f fd ps sp:=by
 obtain ⟨oc,od,kV,doc,pm,an,cdv,ct,osl,rfl,lk,hcd⟩:=F.ex
 refine b1l lk hcd S len fun A outer s H vs Q E hr hsp=>?_
 obtain ⟨t,h,q⟩:=hbody A outer s H vs Q E hr hsp
 exact ⟨t,h.nox,q⟩
structure BMod (mg:Str→Option Value) (base:Heap) (ts:List Addr) (bm:Addr):Prop where
 hbm:mg "__builtins__"=some (.ref bm)
 bo:∃ o,base.get? bm=some o∧o.cls=.type "module"∧o.dict=some builtinsNs∧o.data=.plain
 b1:bm≠builtinsNs
 b2:bm≠mainGlobals
 b3:∀ T∈ts,bm≠T
 b4:∀ T∈ts,mainGlobals≠T
theorem a7O {P:Program} {w:World} {K:PySem.W.Frag} {mg mb:Str→Option Value} {CX:CXT} {k:Nat} {fa a:Addr} {fd:FuncData} {x:Str} {sp:Sp} {s₁:Shared} {vs:List Value} {ns:List Int} {ts:List Addr}
  (KX:K.In s₁.heap) (hns:s₁.heap.Ns mainGlobals mg) (hb:s₁.heap.Ns builtinsNs mb) (hbb:∀ x:Str,x≠"__name__"→mb x=bootBuiltins x) (hlim:s₁.heap.NoLimit) (hg:s₁.gens=#[])
  (ha:s₁.heap.get? a=some { cls:=.type "list",data:=.seq vs.toArray }) (hi:IntsAre vs ns) (hl:ns.length≤sizeLine) (hr:a2a k callerA)
  (ht:∀ T∈ts,s₁.heap.get? T=some (PySem.W.tabObj #[])∧(∃ c,PySem.W.CodeHd s₁.heap c T)∧K.lookup T=none)
  (hbm:∃ bm ob,mg "__builtins__"=some (.ref bm)∧bm≠builtinsNs∧s₁.heap.get? bm=some ob∧ob.cls=.type "module"∧ob.dict=some builtinsNs∧ob.data=.plain)
  (F:∀ base:Heap,K.In base→base.Ns mainGlobals mg→(∃ bm,BMod mg base ts bm)→a0W P w K mg base CX k fa fd [x] sp) (hbind:∀ (s:Shared) (u:Value),BindsTo s fd ⟨[u],[]⟩ [(x,u)])
  (hsp:∀ H:Hp,(∀ T∈ts,H T=some (.tbl #[]))→SqL K H a (ns.map V.int)→sp [.ref a] H (fun v _=>v=.bl true) fun _ _ _=>False)
  (hCX:∀ H e s',CX [] H s₁ (fun _ _ _=>False) e s'→False) :
  codeAny (model P w) callerA (.call (.ref fa) ⟨[.ref a],[]⟩) (fun r s'=>r=.ok (.ret (.bool true))∧OldK s₁.heap s'.heap∧s'.os=s₁.os∧AllBare s'.gens) s₁:=by
 have rv:=a4Q hi
 have lenV:=hi.length
 have core:∀ H:Hp,(∀ b,H b=none∨(∃ o xs,H b=some (.frz o (.lst xs))∧b=a)∨(H b=some (.tbl #[])∧b∈ts))→(∀ T∈ts,H T=some (.tbl #[]))→SqL K H a (ns.map V.int)→HOk P w H s₁.heap→(∀ b,H b≠none→K.lookup b=none) →
   codeAny (model P w) callerA (.call (.ref fa) ⟨[.ref a],[]⟩) (fun r s'=>r=.ok (.ret (.bool true))∧OldK s₁.heap s'.heap∧s'.os=s₁.os∧AllBare s'.gens) s₁:=by
  intro H hO hT hS hok hK
  have base_of:∀ {b:Addr} {o:Obj},s₁.heap.get? b=some o→H b=none→(a8T s₁.heap H).get? b=some o:=fun e n=>a8X e n
  have noA:∀ {b:Addr} {o:Obj} {es:Array DictEntry} {ep:Nat},s₁.heap.get? b=some o→o.data=.dict es ep→H b=none:=fun {b o es ep} e d=>by
   rcases hO b with z | ⟨_,_,_,rfl⟩ | ⟨_,hb'⟩
   ·exact z
   ·rw [ha] at e;cases e
    have d':Data.seq vs.toArray _=Data.dict es ep:=d
    cases d'
   ·rw [(ht b hb').1] at e;cases e
    have d':Data.fields #[]=Data.dict es ep:=d
    cases d'
  have nsK:∀ {b:Addr} {m:Str→Option Value},s₁.heap.Ns b m→(a8T s₁.heap H).Ns b m:=fun {b m} ⟨o,es,ep,e,d,r⟩=>⟨o,es,ep,base_of e (noA e d),d,r⟩
  have hKb:K.In (a8T s₁.heap H):=fun b o e=>base_of (KX b o e) (by
   cases q:H b with
   | none=>rfl
   | some u =>
    rw [hK b (by rw [q];simp)] at e;cases e)
  have hM:Mod K mg (a8T s₁.heap H):=⟨hKb,nsK hns,⟨mb,nsK hb,hbb⟩,let ⟨mc,h1,h2⟩:=hlim;⟨mc,nsK h1,h2⟩⟩
  have e0:a8U P w K mg (a8T s₁.heap H) callerA [] s₁ H:=⟨rfl,hM,fun b o e=>b1b e,Nat.le_of_eq (a6W _ _),trivial,fun b hb=>absurd (show b∈([]:List Addr) from hb) (by simp),hok,.of_eq hg⟩
  have hBM:∃ bm,BMod mg (a8T s₁.heap H) ts bm:=by
   obtain ⟨bm,ob,h1,h2,h3,h4,h5,h6⟩:=hbm
   have n1:bm≠a:=fun z=>by
    rw [z,ha] at h3
    cases h3
    have h4:Value.type "list"=Value.type "module":=h4
    injection h4 with e
    exact absurd e (by decide)
   have n2:∀ T∈ts,bm≠T:=fun T hT' z=>by
    rw [z,(ht T hT').1] at h3
    cases h3
    cases h6
   have ng:∀ {o:Obj},s₁.heap.get? mainGlobals=some o→∃ es ep,o.data=.dict es ep:=fun {o} e=>by
    obtain ⟨o',es,ep,e',d,_⟩:=hns
    rw [e'] at e
    cases e
    exact ⟨es,ep,d⟩
   refine ⟨bm,h1,⟨ob,base_of h3 ?_,h4,h5,h6⟩,h2,fun z=>?_,n2,fun T hT' z=>?_⟩
   ·rcases hO bm with z | ⟨_,_,_,z⟩ | ⟨_,z⟩
    ·exact z
    ·exact absurd z n1
    ·exact absurd rfl (n2 bm z)
   ·rw [z] at h3
    obtain ⟨es,ep,d⟩:=ng h3
    rw [d] at h6
    cases h6
   ·have:=(ht T hT').1
    rw [←z] at this
    obtain ⟨es,ep,d⟩:=ng this
    cases d
  refine codeAny_mono ((F _ hKb (nsK hns) hBM).run callerA [] s₁ H ⟨[.ref a],[]⟩ [.ref a] [.ref a] _ _ hr e0 (hbind s₁ (.ref a)) (.cons rfl .nil) (hsp H hT hS)) fun r s' h=>?_
  cases r with
  | error e=>exact (hCX H e s' h).elim
  | ok fl =>
   cases fl with
   | next=>exact False.elim h
   | brk=>exact False.elim h
   | cont=>exact False.elim h
   | ret u =>
    obtain ⟨v,H',os,bare,un,hok',r',q⟩:=h
    have q':v=.bl true:=q
    subst q'
    obtain rfl:u=Value.bool true:=r'
    refine ⟨rfl,⟨fun b o e=>?_,fun b o e=>un.there b o e (by simp)⟩,os,bare⟩
    rcases hO b with z | ⟨ob,xs,z,_⟩ | ⟨z,hb'⟩
    ·exact .inl (un.keep b o e z (by intro z;exact absurd (show b∈([]:List Addr) from z) (by simp)) (by simp))
    ·have z2:=un.frzs b ob _ z
     obtain ⟨e1,_⟩:=hok b _ z
     obtain ⟨e2,_⟩:=hok' b _ z2
     rw [e] at e1;cases e1
     exact .inl e2
    ·obtain ⟨more,z2⟩:=un.tbls b _ z
     have e1:s₁.heap.get? b=some (PySem.W.tabObj #[]):=(ht b hb').1
     have e2:s'.heap.get? b=some { cls:=.none,data:=.fields (#[]++more) }:=hok' b _ z2
     rw [e1] at e;cases e
     obtain ⟨c,C⟩:=(ht b hb').2.1
     exact .inr (.inl ⟨(C.tab e1).isCodeTable,rfl,#[],more,rfl,e2⟩)
 have neA:∀ T∈ts,T≠a:=fun T hT z=>by
  have e:=(ht T hT).1
  rw [z,ha] at e
  cases e
 have tOk:∀ {H:Hp} {T:Addr},T∈ts→a1n P w H s₁.heap T (.tbl #[]):=fun {H T} hT=>(ht T hT).1
 cases hk:K.lookup a with
 | some o =>
  have e:=KX a o hk
  rw [ha] at e
  cases e
  refine core (fun b=>if b∈ts then some (.tbl #[]) else none) (fun b=>?_) (fun T hT=>if_pos hT) (.inr ⟨_,vs.toArray,_,hk,rfl,rfl,rfl,by rw [List.size_toArray,lenV];exact hl,by simpa using rv⟩) (fun b u z=>?_) fun b z=>?_
  ·by_cases y:b∈ts
   ·exact .inr (.inr ⟨if_pos y,y⟩)
   ·exact .inl (if_neg y)
  ·by_cases y:b∈ts
   ·have z':=(if_pos y).symm.trans z
    cases z'
    exact tOk y
   ·have z':=(if_neg y).symm.trans z
    cases z'
  ·by_cases y:b∈ts
   ·exact (ht b y).2.2
   ·exact absurd (if_neg y) z
 | none =>
  refine core (fun b=>if b∈ts then some (.tbl #[]) else if b=a then some (.frz { cls:=.type "list",data:=.seq vs.toArray } (.lst (ns.map V.int))) else none) (fun b=>?_) (fun T hT=>if_pos hT) (.inl (.inr ⟨{ cls:=.type "list",data:=.seq vs.toArray },?_⟩)) (fun b u z=>?_) fun b z=>?_
  ·by_cases y:b∈ts
   ·exact .inr (.inr ⟨if_pos y,y⟩)
   ·by_cases hb':b=a
    ·exact .inr (.inl ⟨_,_,(if_neg y).trans (if_pos hb'),hb'⟩)
    ·exact .inl ((if_neg y).trans (if_neg hb'))
  ·exact (if_neg fun y=>neA a y rfl).trans (if_pos rfl)
  ·by_cases y:b∈ts
   ·have z':=(if_pos y).symm.trans z
    cases z'
    exact tOk y
   ·by_cases hb':b=a
    ·have z':=((if_neg y).trans (if_pos hb')).symm.trans z
     cases z'
     subst hb'
     exact ⟨ha,by rw [List.length_map];exact hl,vs,_,rv,ha⟩
    ·have z':=((if_neg y).trans (if_neg hb')).symm.trans z
     cases z'
  ·by_cases y:b∈ts
   ·exact (ht b y).2.2
   ·by_cases hb':b=a
    ·rw [hb'];exact hk
    ·exact absurd ((if_neg y).trans (if_neg hb')) z
theorem a9H {l:PySem.W.OpenLaw} {n k:Nat} {q:Program} {loose:List Str} {XP:(Str→Option Value)→Heap→Prop} {YP:World→Heap→Prop} {d:DefRec} {K:Params→PySem.W.Frag} {CX:World→CXT} {sp:World→Sp} {x:Str} {ts:List Addr}
  (hn:l.most=some n) (hn2:n≤sizeLine) (hdf:d.params.defaults=[]) (hr:a2a k callerA)
  (hY:∀ (w:World) (h:Heap),YP w h→(K w.params).In h∧∀ T∈ts,h.get? T=some (PySem.W.tabObj #[]))
  (hT:∀ (w:World),∀ T∈ts,(∃ c,PySem.W.codeHdIn (K w.params) c T=true)∧(K w.params).lookup T=none)
  (F:∀ (w:World) (mg:Str→Option Value) (fa:Addr) (h:Heap),(K w.params).In h→h.Ns mainGlobals mg→mg d.name=some (.ref fa) →
   ∃ fd:FuncData,(∀ (s:Shared) (u:Value),BindsTo s fd ⟨[u],[]⟩ [(x,u)]) ∧
    ∀ base:Heap,(K w.params).In base→base.Ns mainGlobals mg→(∃ bm,BMod mg base ts bm)→a0W l.prog w (K w.params) mg base (CX w) k fa fd [x] (sp w))
  (hsp:∀ (w:World) (H:Hp) (a:Addr) (ns:List Int),ns.length≤n→(∀ T∈ts,H T=some (.tbl #[]))→SqL (K w.params) H a (ns.map V.int)→sp w [.ref a] H (fun v _=>v=.bl true) fun _ _ _=>False)
  (hCX:∀ (w:World) (H:Hp) (s:Shared) (e:Value) (s':Shared),CX w [] H s (fun _ _ _=>False) e s'→False) :
  PySem.W.WalkO q loose XP YP l.row.toRowW d [] (fun f vs=>PySem.call f vs):=by
 refine Att.a5o hn hdf fun w s₀ s₁ mg mb fa o pm cd doc a vs ns G Y ho hd hcd hmg hobj hints hlen hg=>?_
 obtain ⟨KX,KT⟩:=hY w _ Y
 obtain ⟨fd,hb,hF⟩:=F w mg fa _ KX G.T.g hmg
 exact a7O KX G.T.g G.T.b G.T.builtins G.T.nolimit hg hobj hints (Nat.le_trans hlen hn2) hr (fun T hT'=>⟨KT T hT',(let ⟨c,e⟩:=(hT w T hT').1;⟨c,PySem.W.codeHd_of_K KX e⟩),(hT w T hT').2⟩) G.T.bmain hF hb (fun H hO hS=>hsp w H a ns hlen hO hS) fun H e s'=>hCX w H s₁ e s'
def b1S:List Expr→Option (List (Int × Int))
 | []=>some []
 | .Tuple [.Constant (.int i) _ _,.Constant (.int j) _ _] _ _ :: es=>(b1S es).map fun qs=>(i,j) :: qs
 | _ :: _=>none
section
variable {X:Cx}
def a3m:List Expr→Option (List Int)
 | []=>some []
 | .Constant (.int i) _ _ :: es=>(a3m es).map fun qs=>i :: qs
 | _ :: _=>none
def tIs:List Int→TA
 | []=>tNil
 | q :: qs=>a9i (tC (.int q)) (tIs qs)
theorem a7P {e:Expr} {es:List Expr} {qs:List Int} (h:a3m (e :: es)=some qs):∃ i k p qs',e=.Constant (.int i) k p∧a3m es=some qs'∧qs=i :: qs':=by
 unfold a3m at h
 split at h
 ·rename_i heq
  cases heq
 ·rename_i heq
  cases heq
  cases hq:a3m es with
  | none=>rw [hq] at h;cases h
  | some qs'=>rw [hq] at h;cases h;exact ⟨_,_,_,qs',rfl,rfl,rfl⟩
 ·cases h
theorem a7Q:∀ {es:List Expr} {qs:List Int},a3m es=some qs→PA X es (tIs qs)
 | [],qs,h=>by cases h;exact a0c
 | e :: es,qs,h=>by
  obtain ⟨i,k,p,qs',rfl,h2,rfl⟩:=a7P h
  exact a0a a0f (a7Q h2) (by rfl)
theorem b0J:∀ (qs:List Int) {σ:St} {H:Hp} {Q:List V→Hp→Prop},Q (qs.map V.int) H→tIs qs σ H Q
 | [],σ,H,Q,h=>h
 | q :: qs,σ,H,Q,h=>b0J qs h
def tInts (qs:List Int):TE:=fun _ H Q=>qs.length≤1000∧∀ d H',a0C H H'→H d=none→H' d=some (.lst (qs.map V.int))→Q (.ref d) H'
theorem b1T {es:List Expr} {pos:Pos} {qs:List Int} (h:a3m es=some qs:=by rfl):PE X (.List es pos) (tInts qs):=by
 refine (a1q (a7Q h)).imp fun σ H Q q=>?_
 obtain ⟨l,q⟩:=q
 refine b0J qs ⟨Nat.le_of_lt (a0u (by rw [List.length_map];exact l)),fun d hd=>?_⟩
 exact q d _ (a0h hd _) hd a0d
end
section
variable {prog:Program} {w:World} {A:Around} {E:Value→Shared→Prop} {s:Shared}
theorem a2U {sl:Addr} {u:Tok} {n:Nat} {Q:Int × Int × Nat→Shared→Prop} (hs:s.heap.IsSliceOf sl .none .none (.int (-1) u)) (h:Q ((n:Int) - 1,-1,n) s):wpAny (model prog w) A (Builtin.Slice.sliceApplied (.ref sl) (pure (n:Int))) Q E s:=by
 obtain ⟨os,hos,hcs,hds⟩:=id hs
 unfold Builtin.Slice.sliceApplied Builtin.Slice.sliceFields
 refine wpAny_bind (wpAny_bind (wpAny_field hos hds (x:=.none) rfl (wpAny_bind (wpAny_field hos hds (x:=.none) rfl (wpAny_bind (wpAny_field hos hds (x:=.int (-1) u) rfl (wpAny_pure ?_)))))))
 refine wpAny_bind (HT.a1A (.int (-1) u) ?_)
 show wpAny _ _ (if ((-1:Int) == 0)=true then _ else _) _ _ s
 rw [if_neg (by decide)]
 refine wpAny_bind (HT.a1A .none (wpAny_bind (HT.a1A .none (wpAny_bind (wpAny_pure ?_)))))
 show wpAny _ _ (match Builtin.Slice.sliceAdjust none none (-1) (n:Int) with | (lo,hi)=>pure (lo,(-1:Int),Builtin.Slice.slicePlaces lo hi (-1))) _ _ s
 have e1:Builtin.Slice.sliceAdjust none none (-1) (n:Int)=((n:Int) - 1,-1):=rfl
 rw [e1]
 show wpAny _ _ (pure ((n:Int) - 1,(-1:Int),Builtin.Slice.slicePlaces ((n:Int) - 1) (-1) (-1))) _ _ s
 have e2:Builtin.Slice.slicePlaces ((n:Int) - 1) (-1) (-1)=n:=by
  unfold Builtin.Slice.slicePlaces
  rw [if_neg (by decide)]
  split
  ·rw [show (-(-1:Int))=1 by decide,Int.ediv_one];omega
  ·omega
 rw [e2]
 exact wpAny_pure h
theorem b0K {α β:Type} {f:α→Option β} {g:α→β}:∀ (l:List α),(∀ m∈l,f m=some (g m))→l.filterMap f=l.map g
 | [],_=>rfl
 | a :: l,h=>by
  rw [List.filterMap_cons,h a (.head _),List.map_cons,b0K l fun m hm=>h m (.tail _ hm)]
theorem a9I (xs:Array Value):((List.range xs.size).filterMap fun (m:Nat)=>xs[(((xs.size:Nat):Int) - 1+(m:Int) * (-1)).toNat]?).toArray=xs.toList.reverse.toArray:=by
 congr 1
 have e:∀ m∈List.range xs.size,xs[(((xs.size:Nat):Int) - 1+(m:Int) * (-1)).toNat]?=some (xs.getD (xs.size - 1 - m) .none):=fun m hm=>by
  have:=List.mem_range.mp hm
  rw [show (((xs.size:Nat):Int) - 1+(m:Int) * (-1)).toNat=xs.size - 1 - m by omega,Array.getD_eq_getD_getElem?,Array.getElem?_eq_getElem (by omega)]
  rfl
 have e2:(List.range xs.size).filterMap (fun (m:Nat)=>xs[(((xs.size:Nat):Int) - 1+(m:Int) * (-1)).toNat]?)=(List.range xs.size).map fun m=>xs.getD (xs.size - 1 - m) .none:=by
  exact b0K _ e
 rw [e2]
 refine List.ext_getElem? fun k=>?_
 rw [List.getElem?_map]
 by_cases hk:k < xs.size
 ·rw [List.getElem?_range hk,List.getElem?_reverse (by rw [Array.length_toList];exact hk),Array.length_toList,Array.getElem?_toList]
  show some (xs.getD (xs.size - 1 - k) .none)=_
  rw [Array.getD_eq_getD_getElem?,Array.getElem?_eq_getElem (by omega)]
  rfl
 ·rw [List.getElem?_eq_none (by rw [List.length_range];omega),List.getElem?_eq_none (by rw [List.length_reverse,Array.length_toList];omega)]
  rfl
theorem a2D {t sl:Addr} {items:Array Value} {u:Tok} {Q:Value→Shared→Prop} (ht:IsTup s.heap t items) (hs:s.heap.IsSliceOf sl .none .none (.int (-1) u))
  (h:Q (.ref s.heap.objs.size) { s with heap:=s.heap.push { cls:=.type "tuple",data:=.seq items.toList.reverse.toArray } })
  (hsz:items.size≤sizeLine):wpAny (model prog w) A (getItem (.ref t) (.ref sl)) Q E s:=by
 have htake:sizeOk (.seq items.toList.reverse.toArray):=by
  show items.toList.reverse.toArray.size≤sizeLine
  rw [List.size_toArray,List.length_reverse,Array.length_toList]
  omega
 obtain ⟨os,hos,hcs,hds⟩:=id hs
 have hTs:s.TypeIs (.ref sl) "slice":=⟨os,hos,hcs⟩
 unfold getItem
 try with_reducible refine wpAny_holding ?_
 first | refine wpAny_bind (wpAny_pure ?_) | skip
 refine wpAny_bind (wpAny_sequenceKey ht.typeIs (by decide) ?_)
 refine wpAny_bind (wpAny_callSpecial?_slot (name:=Str.ofString "__getitem__") ht.typeIs PyProof.Rows.slot_tuple_getitem
  (wpAny_call_entry PyProof.Rows.slot_tuple_getitem ht.typeIs entry_tuple_getitem ?_ (args_tuple_getitem _ _)))
 show wpAny _ _ (Builtin.Tuple.tupleItemsOf (.ref t) >>= _) _ _ s
 refine wpAny_bind (tupleItemsOf_ ht ?_)
 refine wpAny_bind (wpAny_typeOf hTs ?_)
 rw [if_pos (by decide)]
 refine wpAny_bind (a2U hs ?_)
 show wpAny _ _ (if ((((items.size:Nat):Int) - 1) == 0 && (-1:Int) == 1 && items.size == items.size)=true then _ else _) _ _ s
 rw [if_neg (by simp),a9I]
 first
  | exact wpAny_bind (m:=Builtin.Tuple.tupleExact _) (wpAny_newObj_type (wpAny_pure ⟨_,rfl,wpAny_pure h⟩) htake)
  | exact wpAny_bind (m:=Builtin.Tuple.tupleExact _) (wpAny_newObj_type (wpAny_bind (wpAny_pure (wpAny_pure ⟨_,rfl,wpAny_pure h⟩))) htake)
  | exact wpAny_bind (wpAny_bind (m:=Builtin.Tuple.tupleExact _) (wpAny_newObj_type (wpAny_pure (wpAny_pure ⟨_,rfl,wpAny_pure h⟩)) htake))
  | exact wpAny_bind (wpAny_bind (m:=Builtin.Tuple.tupleExact _) (wpAny_newObj_type (wpAny_pure ⟨_,rfl,wpAny_pure h⟩) htake))
end
theorem a0O.rev:∀ {xs:List V} {us:List Value},a0O xs us→a0O xs.reverse us.reverse
 | _,_,.nil=>.nil
 | _,_,.cons a b=>by
  rw [List.reverse_cons,List.reverse_cons]
  exact Paired.appendP (a0O.rev b) (.cons a .nil)
def tRevT (K:PySem.W.Frag) (te ts:TE):TE:=fun σ H Q=>te σ H fun x H1=>ts σ H1 fun y H2=>∃ a xs,x=.ref a∧y=.int (-1)∧SqT K H2 a xs∧∀ p H',a0C H2 H'→H' p=some (.tup xs.reverse)→Q (.ref p) H'
theorem b0L {X:Cx} {e st:Expr} {p2 pos:Pos} {te ts:TE} (he:PE X e te) (hs:PE X st ts):PE X (.Subscript e (.Slice none none (some st) p2) pos) (tRevT X.K te ts):=by
 intro pins s σ H Q I h
 refine Subscript_ (thn (he pins s σ H _ I h) fun v s1 ⟨x,H1,I1,r1,q1⟩=>?_)
 refine wpAny_Slice ?_
 rw [evalPart_none]
 refine wpAny_pure ?_
 refine wpAny_pure ?_
 rw [evalPart_some]
 refine thn (hs pins s1 σ H1 _ I1 q1) fun vs s3 ⟨y,H3,I3,r3,q3⟩=>?_
 obtain ⟨a,xs,rfl,rfl,hx,q⟩:=q3
 cases r1
 obtain ⟨u,rfl⟩:=r3
 have I4:Inv X pins σ H3 { s3 with heap:=s3.heap.push { cls:=.type "slice",data:=.fields #[.none,.none,.int (-1) u] } }:=I3.kept (t':=s3.toks) fun b ob q=>Heap.get?_push_of_some _ q
 obtain ⟨its,r,ht,hz⟩:=I4.tuple hx
 have hlen:its.toArray.size=xs.length:=by rw [List.size_toArray];exact r.length.symm
 show wpAny (model X.prog X.w) X.A (subscriptTail e (.Slice none none (some st) p2) (.ref a) (.ref s3.heap.objs.size)) (EP X pins σ Q) X.xe { s3 with heap:=s3.heap.push { cls:=.type "slice",data:=.fields #[.none,.none,.int (-1) u] } }
 refine tail_any (ops:=[.ref a,.ref s3.heap.objs.size]) ht.typeIs PyProof.Rows.slot_tuple_getitem.lookup (a2D ht (Heap.IsSliceOf.new ..) ?_ (by rw [hlen];exact hz)) (by with_unfolding_all rfl)
 refine ⟨.ref _,_,I4.laid (t':=s3.toks) (o:=.tup xs.reverse) (fun b ob q=>Heap.get?_push_of_some _ q) (Nat.le_refl _) ?_,rfl,q _ _ (a0h (I4.hok.fresh (Nat.le_refl _)) _) a0d⟩
 exact ⟨by rw [List.length_reverse];exact hz,_,a0O.rev r,a4B.new _ _⟩
abbrev B90:Int:=1000000000000000000000000000000000000000000000000000000000000000000000000000000000000000000
end L2
namespace K47
open PySem L2
abbrev OI:=Option Int
def lo (xs:List OI):OI:=if xs.filterMap id=[] then none else some ((srt (xs.filterMap id)).headD 0)
def oadd:OI→OI→OI
 | some a,some b=>some (a+b)
 | _,_=>none
theorem a3n {xs:List OI} {k:Int}:k∈xs.filterMap id↔some k∈xs:=by
 rw [List.mem_filterMap]
 constructor
 ·rintro ⟨a,h,e⟩
  have e':a=some k:=e
  rw [←e'];exact h
 ·intro h
  exact ⟨some k,h,rfl⟩
theorem a7R {ns:List Int} (h:ns≠[]):(srt ns).headD 0∈ns∧∀ x∈ns,(srt ns).headD 0≤x:=by
 have p:=a5U ns
 have r:=a4U ns
 cases e:srt ns with
 | nil =>
  rw [e] at p
  exact absurd p.symm.eq_nil h
 | cons a t =>
  rw [e] at p r
  refine ⟨p.mem_iff.mp (.head _),fun x hx=>?_⟩
  show a≤x
  rcases List.mem_cons.mp (p.symm.mem_iff.mp hx) with z | z
  ·rw [z];exact Int.le_refl _
  ·exact (List.pairwise_cons.mp r).1 x z
theorem a0V {xs:List OI} {m:Int}:lo xs=some m↔some m∈xs∧∀ k,some k∈xs→m≤k:=by
 unfold lo
 split
 ·rename_i h
  constructor
  ·intro z;cases z
  ·rintro ⟨z,_⟩
   have:=a3n.mpr z
   rw [h] at this
   cases this
 ·rename_i h
  obtain ⟨h1,h2⟩:=a7R h
  constructor
  ·intro z
   cases z
   exact ⟨a3n.mp h1,fun k hk=>h2 k (a3n.mpr hk)⟩
  ·rintro ⟨z1,z2⟩
   have a1:=h2 m (a3n.mpr z1)
   have a2:=z2 _ (a3n.mp h1)
   congr 1
   omega
theorem a1i {xs:List OI}:lo xs=none↔∀ k,some k∉xs:=by
 unfold lo
 split
 ·rename_i h
  refine ⟨fun _ k hk=>?_,fun _=>rfl⟩
  have:=a3n.mpr hk
  rw [h] at this
  cases this
 ·rename_i h
  refine ⟨fun z=>(by cases z),fun z=>?_⟩
  exact absurd (a3n.mp (a7R h).1) (z _)
theorem b1U {xs ys:List OI} (h1:∀ m,some m∈xs→∃ k,k≤m∧some k∈ys) (h2:∀ m,some m∈ys→∃ k,k≤m∧some k∈xs):lo xs=lo ys:=by
 cases e:lo ys with
 | none =>
  rw [a1i] at e ⊢
  intro k hk
  obtain ⟨k',_,h⟩:=h1 k hk
  exact e k' h
 | some m =>
  rw [a0V] at e ⊢
  obtain ⟨k,hk,hm⟩:=h2 m e.1
  obtain ⟨k',hk',hm'⟩:=h1 k hm
  have:=e.2 k' hm'
  have ek:k=m:=by omega
  subst ek
  refine ⟨hm,fun x hx=>?_⟩
  obtain ⟨y,hy,hy'⟩:=h1 x hx
  have:=e.2 y hy'
  omega
theorem a4h {xs:List OI} {k:Int} (h:some k∈xs):∃ m,lo xs=some m∧m≤k:=by
 cases e:lo xs with
 | none=>exact absurd h (a1i.mp e k)
 | some m=>exact ⟨m,rfl,(a0V.mp e).2 k h⟩
theorem a1T (xs ys:List OI):lo (xs++ys)=lo [lo xs,lo ys]:=by
 refine b1U (fun m hm=>?_) (fun m hm=>?_)
 ·rcases List.mem_append.mp hm with h | h
  ·obtain ⟨k,e,hk⟩:=a4h h
   exact ⟨k,hk,by rw [e];exact .head _⟩
  ·obtain ⟨k,e,hk⟩:=a4h h
   exact ⟨k,hk,by rw [e];exact .tail _ (.head _)⟩
 ·simp only [List.mem_cons,List.not_mem_nil,or_false] at hm
  rcases hm with h | h
  ·exact ⟨m,Int.le_refl _,List.mem_append.mpr (.inl (a0V.mp h.symm).1)⟩
  ·exact ⟨m,Int.le_refl _,List.mem_append.mpr (.inr (a0V.mp h.symm).1)⟩
theorem a2E {α:Type} (xs:List α) (f:α→List OI):lo (xs.flatMap f)=lo (xs.map fun x=>lo (f x)):=by
 refine b1U (fun m hm=>?_) (fun m hm=>?_)
 ·obtain ⟨x,hx,h⟩:=List.mem_flatMap.mp hm
  obtain ⟨k,e,hk⟩:=a4h h
  exact ⟨k,hk,List.mem_map.mpr ⟨x,hx,e⟩⟩
 ·obtain ⟨x,hx,h⟩:=List.mem_map.mp hm
  exact ⟨m,Int.le_refl _,List.mem_flatMap.mpr ⟨x,hx,(a0V.mp h).1⟩⟩
theorem lo_add (a:Int) (xs:List OI):oadd (some a) (lo xs)=lo (xs.map (oadd (some a))):=by
 cases e:lo xs with
 | none =>
  symm
  show lo _=none
  rw [a1i] at e ⊢
  intro k hk
  obtain ⟨x,hx,h⟩:=List.mem_map.mp hk
  cases x with
  | none=>cases h
  | some y=>exact e y hx
 | some m =>
  symm
  show lo _=some (a+m)
  rw [a0V] at e ⊢
  refine ⟨List.mem_map.mpr ⟨some m,e.1,rfl⟩,fun k hk=>?_⟩
  obtain ⟨x,hx,h⟩:=List.mem_map.mp hk
  cases x with
  | none=>cases h
  | some y =>
   have:=e.2 y hx
   cases h
   omega
theorem a7S (x:OI) (xs:List OI):oadd x (lo xs)=lo (xs.map (oadd x)):=by
 cases x with
 | some a=>exact lo_add a xs
 | none =>
  symm
  show lo _=none
  rw [a1i]
  intro k hk
  obtain ⟨x,hx,h⟩:=List.mem_map.mp hk
  cases h
theorem a2F (a b c:OI):oadd (oadd a b) c=oadd a (oadd b c):=by
 cases a <;> cases b <;> cases c <;> first | rfl | (show some _=some _;rw [Int.add_assoc])
theorem a4V (a b:OI):oadd a b=oadd b a:=by
 cases a <;> cases b <;> first | rfl | (show some _=some _;rw [Int.add_comm])
theorem b0M (x:OI):lo [x]=x:=by
 cases x with
 | none=>exact a1i.mpr fun k hk=>by simp at hk
 | some m=>exact a0V.mpr ⟨.head _,fun k hk=>by simp at hk;omega⟩
theorem a4W:lo []=none:=a1i.mpr fun k hk=>by cases hk
abbrev Pa:=List (Nat × Nat × Nat)
def P:Nat→Nat→Nat→Nat→List Pa
 | 0,_,i,j=>if i=j then [[]] else []
 | m+1,l,i,j=>if i=j then [[]] else ((List.range (j - i)).flatMap fun b=>(P m (l+1) (i+b+1) j).map fun r=>(i,i+b+1,l) :: r)++P m (l+1) i j
theorem a1N (m l i j:Nat):P (m+1) l i j=if i=j then [[]] else ((List.range (j - i)).flatMap fun b=>(P m (l+1) (i+b+1) j).map fun r=>(i,i+b+1,l) :: r)++P m (l+1) i j:=rfl
theorem a3o (m l i:Nat):P m l i i=[[]]:=by
 cases m <;> (unfold P;rw [if_pos rfl])
section
variable (p:Nat→Int) (W:Nat→Nat→Int) (F:Nat→Nat→OI)
def part (q:Nat × Nat × Nat):OI:=oadd (some (p q.2.2 * W q.1 q.2.1)) (F q.1 q.2.1)
def cost:Pa→OI
 | []=>some 0
 | q :: r=>oadd (part p W F q) (cost r)
structure Eqs (L:Nat) (h t:Nat→Nat→Nat→OI) (i j:Nat):Prop where
 eh:∀ l,l < L→h l i j=oadd (some (p l * W i j)) (F i j)
 et:∀ l,l < L→t l i j=lo [lo ((List.range (j - i)).map fun b=>oadd (h l i (i+b+1)) (t (l+1) (i+b+1) j)),t (l+1) i j]
variable {p W F} {L n:Nat} {h t:Nat→Nat→Nat→OI}
theorem a3p {i0:Nat} (dg:∀ l i,l≤L→i≤n→t l i i=some 0) (ed:∀ i j,i < j→j≤n→t L i j=none) (eq:∀ i j,i0≤i→i < j→j≤n→Eqs p W F L h t i j) :
  ∀ m l i j,l+m=L→i0≤i→i≤j→j≤n→t l i j=lo ((P m l i j).map fun r=>cost p W F r)
 | 0,l,i,j,hl,h0,hij,hj=>by
  have el:l=L:=by omega
  subst el
  by_cases e:i=j
  ·subst e
   rw [dg l i (Nat.le_refl _) hj,a3o]
   exact (b0M _).symm
  ·rw [ed i j (by omega) hj]
   unfold P
   rw [if_neg e]
   exact a4W.symm
 | m+1,l,i,j,hl,h0,hij,hj=>by
  by_cases e:i=j
  ·subst e
   rw [dg l i (by omega) hj,a3o]
   exact (b0M _).symm
  ·have E:=eq i j h0 (by omega) hj
   rw [E.et l (by omega)]
   unfold P
   rw [if_neg e,List.map_append,a1T,←a3p dg ed eq m (l+1) i j (by omega) h0 hij hj]
   congr 2
   rw [List.map_flatMap,a2E]
   congr 1
   refine List.map_congr_left fun b hb=>?_
   have hb':=List.mem_range.mp hb
   rw [(eq i (i+b+1) h0 (by omega) (by omega)).eh l (by omega),a3p dg ed eq m (l+1) (i+b+1) j (by omega) (by omega) (by omega) hj,a7S,List.map_map,List.map_map]
   congr 1
def bnd (L:Nat) (h t:Nat→Nat→Nat→OI) (i j:Nat):OI:=if j - i=1 then some 0 else lo ((List.range L).map fun l=>lo ((List.range (j - 1 - i)).map fun b=>oadd (h l i (i+b+1)) (t (l+1) (i+b+1) j)))
theorem P_ne {m l i j:Nat} (hij:i < j):∀ r∈P m l i j,r≠[]:=by
 induction m generalizing l i with
 | zero =>
  intro r hr
  unfold P at hr
  rw [if_neg (by omega)] at hr
  cases hr
 | succ m ih =>
  intro r hr
  unfold P at hr
  rw [if_neg (by omega)] at hr
  rcases List.mem_append.mp hr with z | z
  ·obtain ⟨b,_,z⟩:=List.mem_flatMap.mp z
   obtain ⟨r',_,rfl⟩:=List.mem_map.mp z
   intro y;cases y
  ·exact ih hij r z
theorem P_some {m l i j:Nat} (hij:i < j):P (m+1) l i j≠[]:=by
 unfold P
 rw [if_neg (by omega)]
 intro z
 have z1:=(List.append_eq_nil_iff.mp z).1
 have:(i,i+(j - i - 1)+1,l) :: []∈(List.range (j - i)).flatMap fun b=>(P m (l+1) (i+b+1) j).map fun r=>(i,i+b+1,l) :: r:=by
  refine List.mem_flatMap.mpr ⟨j - i - 1,List.mem_range.mpr (by omega),List.mem_map.mpr ⟨[],?_,rfl⟩⟩
  rw [show i+(j - i - 1)+1=j by omega,a3o]
  exact .head _
 rw [z1] at this
 cases this
theorem a6a {i j:Nat} (hij:i < j):∀ m l,(P m l i j).filter (fun r=>decide (1 < r.length))=(List.range m).flatMap fun a=>(List.range (j - 1 - i)).flatMap fun b=>(P (m - 1 - a) (l+a+1) (i+b+1) j).map fun r=>(i,i+b+1,l+a) :: r
 | 0,l=>by
  unfold P
  rw [if_neg (by omega)]
  rfl
 | m+1,l=>by
  have ih:=a6a hij m (l+1)
  rw [a1N m l i j,if_neg (by omega),List.filter_append,ih,List.range_succ_eq_map,List.flatMap_cons,List.flatMap_map]
  congr 1
  ·rw [show j - i=(j - 1 - i)+1 by omega,List.range_succ,List.flatMap_append,List.filter_append]
   have e2:([j - 1 - i].flatMap fun b=>(P m (l+1) (i+b+1) j).map fun r=>(i,i+b+1,l) :: r).filter (fun r=>decide (1 < r.length))=[]:=by
    rw [List.flatMap_cons,List.flatMap_nil,List.append_nil,show i+(j - 1 - i)+1=j by omega,a3o]
    rfl
   rw [e2,List.append_nil,List.filter_eq_self.mpr]
   ·rfl
   ·intro r hr
    obtain ⟨b,hb,z⟩:=List.mem_flatMap.mp hr
    obtain ⟨r',hr',rfl⟩:=List.mem_map.mp z
    have hb':=List.mem_range.mp hb
    have:=P_ne (by omega) r' hr'
    rw [decide_eq_true_eq,List.length_cons]
    have:=List.length_pos_iff.mpr this
    omega
  ·refine congrArg (fun f=>(List.range m).flatMap f) (funext fun a=>?_)
   show _=(List.range (j - 1 - i)).flatMap fun b=>(P (m+1 - 1 - (a+1)) (l+(a+1)+1) (i+b+1) j).map fun r=>(i,i+b+1,l+(a+1)) :: r
   rw [show m+1 - 1 - (a+1)=m - 1 - a by omega,show l+(a+1)=l+1+a by omega]
theorem a9J {i j:Nat} (dg:∀ l i,l≤L→i≤n→t l i i=some 0) (ed:∀ i j,i < j→j≤n→t L i j=none) (hh:∀ l c,l < L→i < c→c < j→h l i c=oadd (some (p l * W i c)) (F i c)) (eq:∀ a b,i+1≤a→a < b→b≤n→Eqs p W F L h t a b) (hij:i+1 < j) (hj:j≤n) :
  bnd L h t i j=lo (((P L 0 i j).filter fun r=>decide (1 < r.length)).map fun r=>cost p W F r):=by
 unfold bnd
 rw [if_neg (by omega),a6a (by omega),List.map_flatMap,a2E]
 congr 1
 refine List.map_congr_left fun l hl=>?_
 have hl':=List.mem_range.mp hl
 rw [List.map_flatMap,a2E]
 congr 1
 refine List.map_congr_left fun b hb=>?_
 have hb':=List.mem_range.mp hb
 rw [hh l (i+b+1) hl' (by omega) (by omega),a3p dg ed eq (L - 1 - l) (l+1) (i+b+1) j (by omega) (by omega) (by omega) hj,a7S,List.map_map,List.map_map,Nat.zero_add]
 congr 1
theorem b1V {L i j:Nat} (hL:2≤L) (hij:i+1 < j):(P L 0 i j).filter (fun r=>decide (1 < r.length))≠[]:=by
 rw [a6a (by omega)]
 obtain ⟨L,rfl⟩:∃ K,L=K+2:=⟨L - 2,by omega⟩
 intro z
 have h1:P (L+1) 1 (i+1) j≠[]:=P_some (by omega)
 obtain ⟨r,hr⟩:=List.exists_mem_of_ne_nil _ h1
 have:(i,i+0+1,0) :: r∈(List.range (L+2)).flatMap fun a=>(List.range (j - 1 - i)).flatMap fun b=>(P (L+2 - 1 - a) (0+a+1) (i+b+1) j).map fun r=>(i,i+b+1,0+a) :: r:=by
  refine List.mem_flatMap.mpr ⟨0,List.mem_range.mpr (by omega),List.mem_flatMap.mpr ⟨0,List.mem_range.mpr (by omega),List.mem_map.mpr ⟨r,?_,rfl⟩⟩⟩
  exact hr
 rw [z] at this
 cases this
end
theorem P_in:∀ m l i j,i≤j→∀ r∈P m l i j,∀ q∈r,i≤q.1∧q.1 < q.2.1∧q.2.1≤j∧l≤q.2.2∧q.2.2 < l+m
 | 0,l,i,j,h,r,hr,q,hq=>by
  unfold P at hr
  split at hr
  ·rw [List.mem_singleton.mp hr] at hq;cases hq
  ·cases hr
 | m+1,l,i,j,h,r,hr,q,hq=>by
  rw [a1N] at hr
  split at hr
  ·rw [List.mem_singleton.mp hr] at hq;cases hq
  ·rcases List.mem_append.mp hr with z | z
   ·obtain ⟨b,hb,z⟩:=List.mem_flatMap.mp z
    have hb':=List.mem_range.mp hb
    obtain ⟨r',hr',rfl⟩:=List.mem_map.mp z
    rcases List.mem_cons.mp hq with y | y
    ·rw [y];exact ⟨Nat.le_refl _,by show i < i+b+1;omega,by show i+b+1≤j;omega,Nat.le_refl _,by show l < l+(m+1);omega⟩
    ·have:=P_in m (l+1) (i+b+1) j (by omega) r' hr' q y
     omega
   ·have:=P_in m (l+1) i j h r z q hq
    omega
theorem a1U {L i j:Nat} (hij:i < j):∀ r∈(P L 0 i j).filter (fun r=>decide (1 < r.length)),∀ q∈r,i≤q.1∧q.1 < q.2.1∧q.2.1≤j∧q.2.1 - q.1 < j - i∧q.2.2 < L:=fun r hr q hq=>by
 have hP:=P_in L 0 i j (by omega) r (List.mem_filter.mp hr).1 q hq
 rw [a6a hij] at hr
 obtain ⟨a,ha,z⟩:=List.mem_flatMap.mp hr
 obtain ⟨b,hb,z⟩:=List.mem_flatMap.mp z
 have hb':=List.mem_range.mp hb
 obtain ⟨r',hr',rfl⟩:=List.mem_map.mp z
 rcases List.mem_cons.mp hq with y | y
 ·rw [y] at hP ⊢
  exact ⟨Nat.le_refl _,by show i < i+b+1;omega,by show i+b+1≤j;omega,by show i+b+1 - i < j - i;omega,by have:=hP.2.2.2.2;omega⟩
 ·have:=P_in _ _ _ j (by omega) r' hr' q y
  omega
def top (i:Nat):Stmt:=PySem.Challenge.pw_lettertoll_k47_whole_top_by_top.main.body.getD i (.Pass ⟨0,0,0,0⟩)
def b1W (n:Nat):Stmt→Stmt
 | .ClassDef _ _ _ b ..=>b.getD n (.Pass ⟨0,0,0,0⟩)
 | s=>s
abbrev a6L:Stmt:=top 6
abbrev b2Q:Stmt:=top 7
abbrev a2e:Stmt:=top 8
abbrev a3q:Stmt:=top 9
abbrev a3P:Stmt:=top 10
abbrev sPb:Stmt:=top 12
abbrev sPl:Stmt:=top 13
abbrev sPw:Stmt:=top 14
abbrev b2R:Stmt:=top 16
abbrev a6M:Stmt:=top 17
abbrev a2f:Stmt:=top 18
abbrev a2G:Stmt:=top 19
abbrev sCb:Stmt:=top 20
abbrev sBw:Stmt:=top 21
abbrev a3r:Stmt:=top 23
abbrev a3s:Stmt:=top 24
abbrev a2H:Stmt:=top 25
abbrev a3Q:Stmt:=top 27
abbrev a3t:Stmt:=top 28
abbrev a2I:Stmt:=top 29
abbrev a3u:Stmt:=top 30
abbrev b1X:Stmt:=top 32
abbrev a1F:Stmt:=top 33
abbrev a3R:Stmt:=top 34
abbrev sIs:Stmt:=top 35
abbrev a6N:Stmt:=top 37
abbrev a2J:Stmt:=top 38
abbrev a2K:Stmt:=top 39
abbrev a6O:Stmt:=top 40
abbrev a3v:Stmt:=top 41
abbrev b1Y:Stmt:=top 42
abbrev sOn:Stmt:=top 43
abbrev sCk:Stmt:=top 45
abbrev sKw:Stmt:=top 46
abbrev a2L:Stmt:=top 48
abbrev a2M:Stmt:=top 49
abbrev a1G:Stmt:=top 50
abbrev a2N:Stmt:=top 51
abbrev a2O:Stmt:=top 52
abbrev a9K:Stmt:=top 53
abbrev a1V:Stmt:=b1W 0 (top 11)
abbrev b2S:Stmt:=b1W 1 (top 11)
abbrev sLs:Stmt:=b1W 2 (top 11)
abbrev a3w:Stmt:=b1W 3 (top 11)
abbrev a5w:Stmt:=b1W 4 (top 11)
abbrev a2g:Stmt:=b1W 5 (top 11)
abbrev a6P:Stmt:=b1W 6 (top 11)
def oV:OI→V
 | none=>.non
 | some i=>.int i
section
variable {P:Program} {w:World} {K:PySem.W.Frag} {mg:Str→Option Value} {base:Heap} {f:Addr} {fd:FuncData}
def sums (ws:List Int) (k:Nat):List Int:=(List.range (k+1)).map fun i=>(ws.take i).sum
def a7T:Sp:=fun vs H Q _=>∃ (q:Addr) (ws:List Int),vs=[.ref q]∧TW H q ws∧ws.length≤100∧∀ (p:Addr) H',a0C H H'→H p=none→H' p=some (.lst ((sums ws ws.length).map V.int))→Q (.ref p) H'
theorem a7U:a0r ["weights","sums","weight"] ["weights"] (a0b a6L):=⟨rfl,rfl,rfl,by decide +kernel,rfl,by decide +kernel,by decide +kernel⟩
theorem a7V {ws:List Int} {k:Nat}:sums ws (k+1)=sums ws k++[(ws.take (k+1)).sum]:=by
 unfold sums
 rw [List.range_succ (n:=k+1),List.map_append]
 rfl
theorem a7W {ws:List Int} {k:Nat}:∃ xs,sums ws k=xs++[(ws.take k).sum]:=by
 unfold sums
 rw [List.range_succ,List.map_append]
 exact ⟨_,rfl⟩
theorem a9L {ws:List Int} {k:Nat}:(sums ws k).length=k+1:=by unfold sums;rw [List.length_map,List.length_range]
theorem b1Z (F:Fun K "weight_sums" "weight_sums" a6L f fd):a0W P w K mg base CX0 1 f fd ["weights"] a7T:=by
 refine F.ok (k:=0) a7U (fun vs H Q E h=>?_) (fun cdv A outer s H vs Q E hr h=>?_)
 ·obtain ⟨q,ws,rfl,_⟩:=h
  rfl
 obtain ⟨q,ws,rfl,hq,l1,qq⟩:=h
 refine ⟨_,a0e (a0x (i:=1) a7U.nd rfl (Or.inl rfl) (a1q (a0a a0f a0c)))
  (a0e (a1k PassesOwn.never rfl (b0x (pv 0)) (a0H (i:=2) a7U.nd rfl (Or.inl rfl))
   (a0g (a1w (a7q PySem.F.plainAttrs_list PySem.F.slot_list_append PySem.F.type_list_append a2p (pv 1) (a0a (a0t a0F (a0v a0n (pv 1) (a2m a1v a0f) (fun _ _=>rfl)) (pv 2)) a0c)))))
  (a0g (a0q (pv 1)))),?_⟩
 refine ⟨(by show 1≤sizeLine;decide),fun l hl=>?_⟩
 have s1:=a0h hl (.lst [.int 0])
 have g1:upd H l (.lst [.int 0]) l=some (.lst ((sums ws 0).map V.int)):=a0d
 generalize upd H l (.lst [.int 0])=H1 at s1 g1 ⊢
 refine ⟨_,rfl,q,rfl,⟨_,SqT.of (s1 _ _ hq)⟩,?_⟩
 refine b1e (xs:=ws.map V.int) (fun i σ H'=>a0C H H'∧H' l=some (.lst ((sums ws i).map V.int))∧∃ x2:Option V,σ=[some (.ref q),some (.ref l),x2]) ⟨s1,g1,_,rfl⟩ (fun i σ H' _ hP=>SqT.of (hP.1 _ _ hq)) (fun i x σ H2 hx hP=>?_) (fun σ H2 hP=>?_)
 ·obtain ⟨s2,g2,x2,rfl⟩:=hP
  have il:=(List.getElem?_eq_some_iff.mp hx).1
  rw [List.length_map] at il
  rw [List.getElem?_map] at hx
  obtain ⟨z,hz,rfl⟩:=Option.map_eq_some_iff.mp hx
  obtain ⟨xs,ex⟩:=a7W (ws:=ws) (k:=i)
  refine ⟨_,rfl,.inl ⟨rfl,_,SqL.of g2⟩,_,rfl,_,rfl,l,_,_,_,rfl,rfl,SqL.of g2,(by rw [ex,List.map_append];exact a4d _ _),_,rfl,_,_,rfl,rfl,l,_,_,rfl,rfl,g2,a0u (by rw [List.length_map,a9L];omega),a0y hl s2,?_,_,rfl⟩
  rw [a0d,a7V,List.map_append,List.take_add_one,hz]
  simp
 ·obtain ⟨s2,g2,x2,rfl⟩:=hP
  rw [List.length_map] at g2
  exact ⟨_,rfl,qq l H2 s2 hl g2⟩
def b2a (s i:Nat) (o:OI):List V:=(List.range s).map fun j=>oV (if j=i then o else none)
theorem b2b {s i:Nat} {o:OI}:(List.replicate s V.non).set i (oV o)=b2a s i o:=by
 refine List.ext_getElem? fun j=>?_
 unfold b2a
 rw [List.getElem?_map]
 by_cases hj:j < s
 ·rw [List.getElem?_range hj]
  by_cases e:i=j
  ·subst e
   rw [List.getElem?_set_self (by rw [List.length_replicate];exact hj)]
   simp
  ·rw [List.getElem?_set_ne e,List.getElem?_replicate,if_pos hj]
   show some V.non=some (oV (if j=i then o else none))
   rw [if_neg (fun z=>e z.symm)]
   rfl
 ·rw [List.getElem?_eq_none (by rw [List.length_set,List.length_replicate];omega),List.getElem?_eq_none (by rw [List.length_range];omega)]
  rfl
theorem a9M (n:Nat):(List.replicate n [V.non]).flatten=List.replicate n V.non:=by
 induction n with
 | zero=>rfl
 | succ n ih=>rw [List.replicate_succ,List.flatten_cons,ih,List.replicate_succ];rfl
def b2c:Sp:=fun vs H Q _=>∃ (s i:Nat) (o:OI),vs=[.int (s:Int),.int (i:Int),oV o]∧i < s∧s≤100∧∀ (p:Addr) H',a0C H H'→H p=none→H' p=some (.lst (b2a s i o))→Q (.ref p) H'
theorem scRow:a0r ["side","at","number","row"] ["side","at","number"] (a0b b2Q):=⟨rfl,rfl,rfl,by decide +kernel,rfl,by decide +kernel,by decide +kernel⟩
theorem a3x {n j:Nat} (h:j < n):ixN n (j:Int)=some j:=by
 unfold ixN
 rw [if_pos (by omega),if_pos (by omega)]
 rfl
theorem ok_row (F:Fun K "row_with" "row_with" b2Q f fd):a0W P w K mg base CX0 1 f fd ["side","at","number"] b2c:=by
 refine F.ok (k:=0) scRow (fun vs H Q E h=>?_) (fun cdv A outer s H vs Q E hr h=>?_)
 ·obtain ⟨s,i,o,rfl,_⟩:=h
  rfl
 obtain ⟨n,i,o,rfl,hi,hn,qq⟩:=h
 refine ⟨_,a0e (a0x (i:=3) scRow.nd rfl (Or.inl rfl) (a0t a7r (a1q (a0a a1m a0c)) (pv 0)))
  (a0e (a3b (pv 2) (a4G (pv 3) (pv 1) a2o))
  (a0g (a0q (pv 3)))),?_⟩
 refine ⟨(by show 1≤sizeLine;decide),fun l hl=>?_⟩
 have s1:=a0h hl (.lst [.non])
 have g1:upd H l (.lst [.non]) l=some (.lst [.non]):=a0d
 generalize upd H l (.lst [.non])=H1 at s1 g1 ⊢
 refine ⟨_,rfl,l,(n:Int),_,rfl,rfl,g1,by omega,by omega,by show 1 * _≤_;exact Nat.le_of_lt (a0u (by omega)),fun p hp=>?_⟩
 rw [a9M,Int.toNat_natCast]
 have s2:=a0h hp (.lst (List.replicate n V.non))
 have g2:upd H1 p (.lst (List.replicate n V.non)) p=some (.lst (List.replicate n V.non)):=a0d
 generalize upd H1 p (.lst (List.replicate n V.non))=H2 at s2 g2 ⊢
 have hpn:=s1.free hp
 refine ⟨_,rfl,_,rfl,_,rfl,p,_,_,i,rfl,rfl,g2,(by rw [List.length_replicate];exact a3x hi),?_⟩
 rw [b2b]
 exact ⟨_,rfl,qq p _ (a0y hpn (s1.trans s2)) hpn a0d⟩
def ext {α:Type} (ca:Nat→α) (i:Nat) (p:α):Nat→α:=fun k=>if k=i then p else ca k
theorem a0p {α:Type} {ca:Nat→α} {i k:Nat} {p:α} (h:k=i):ext ca i p k=p:=if_pos h
theorem a0w {α:Type} {ca:Nat→α} {i k:Nat} {p:α} (h:¬ k=i):ext ca i p k=ca k:=if_neg h
def a4i:Sp:=fun vs H Q _=>∃ (s:Nat) (o:OI),vs=[.int (s:Int),oV o]∧s≤100∧∀ (b:Addr) (ca:Nat→Addr) H',a0C H H'→H b=none→(∀ i,i < s→H (ca i)=none)→(∀ i j,i < s→j < s→ca i=ca j→i=j)→(∀ i,i < s→ca i≠b) →
 H' b=some (.lst ((List.range s).map fun i=>.ref (ca i)))→(∀ i,i < s→H' (ca i)=some (.lst (b2a s i o)))→Q (.ref b) H'
theorem a9N:a0r ["side","diagonal"] ["side","diagonal"] (a0b a2e):=⟨rfl,rfl,rfl,by decide +kernel,rfl,by decide +kernel,by decide +kernel⟩
theorem ndSq:(("at":Str) :: ["side","diagonal"]).Nodup:=by decide +kernel
theorem a7X (F:Fun K "square" "square" a2e f fd) (GR:Fns P w K mg base ["side","at","number"] "row_with" b2c 1) (mr:mg "range"=none):a0W P w K mg base CX0 2 f fd ["side","diagonal"] a4i:=by
 refine F.ok (k:=1) a9N (fun vs H Q E h=>?_) (fun cdv A outer s H vs Q E hr h=>?_)
 ·obtain ⟨s,o,rfl,_⟩:=h
  rfl
 obtain ⟨n,o,rfl,hn,qq⟩:=h
 refine ⟨_,a0g (a0q (a1r (M:=["side","diagonal"]) rfl (a0l.of (a0b a2e) ["side","diagonal"] rfl rfl rfl (by decide +kernel) (by decide +kernel) (by decide +kernel) rfl (by decide +kernel)) ndSq rfl (by rfl) mr (a0a (pv 0) a0c) (a0Z a0X a1B)
   (fun cl C s0 H0 fp=>⟨a0P,a0k GR.ok hr (by rfl) GR.m GR.kp GR.b .nil a0A (a0a (pv 1) (a0a (pv 0) (a0a (pv 2) a0c)))⟩))),?_⟩
 refine ⟨_,rfl,(n:Int),rfl,by omega,by omega,fun d hd=>?_⟩
 refine ⟨fun i H'=>a0C H H'∧∃ ca:Nat→Addr,(∀ k,k < i→H (ca k)=none)∧(∀ j k,j < i→k < i→ca j=ca k→j=k)∧(∀ k,k < i→ca k≠d)∧H' d=some (.lst ((List.range i).map fun k=>.ref (ca k)))∧∀ k,k < i→H' (ca k)=some (.lst (b2a n k o)),⟨a0h hd _,fun _=>d,fun k hk=>absurd hk (Nat.not_lt_zero _),fun j k hj=>absurd hj (Nat.not_lt_zero _),fun k hk=>absurd hk (Nat.not_lt_zero _),a0d,fun k hk=>absurd hk (Nat.not_lt_zero _)⟩,fun i H1 hi hP=>?_,fun H1 hP=>?_⟩
 ·obtain ⟨s1,ca,c1,c2,c3,c4,c5⟩:=hP
  have i':i < n:=by omega
  rw [show (0:Int)+(i:Int)=(i:Int) from Int.zero_add _]
  refine a0L ⟨_,rfl,_,rfl,_,rfl,n,i,o,rfl,i',hn,fun p H2 s2 hp2 g2=>?_⟩
  have pd:p≠d:=fun z=>by rw [z,c4] at hp2;cases hp2
  have pk:∀ k,k < i→ca k≠p:=fun k hk z=>by rw [←z,c5 k hk] at hp2;cases hp2
  refine ⟨_,s2 _ _ c4,?_,a0y hd (s1.trans s2),ext ca i p,fun k hk=>?_,fun j k hj hk e=>?_,fun k hk=>?_,?_,fun k hk=>?_⟩
  ·rw [List.length_map,List.length_range];exact a0u (by omega)
  ·by_cases z:k=i
   ·rw [a0p z];exact s1.free hp2
   ·rw [a0w z];exact c1 k (by omega)
  ·by_cases z1:j=i <;> by_cases z2:k=i
   ·omega
   ·rw [a0p z1,a0w z2] at e
    exact absurd e.symm (pk k (by omega))
   ·rw [a0w z1,a0p z2] at e
    exact absurd e (pk j (by omega))
   ·rw [a0w z1,a0w z2] at e
    exact c2 j k (by omega) (by omega) e
  ·by_cases z:k=i
   ·rw [a0p z];exact pd
   ·rw [a0w z];exact c3 k (by omega)
  ·rw [a0d,List.range_succ,List.map_append]
   refine congrArg (fun z=>some (HO.lst z)) ?_
   congr 1
   ·refine List.map_congr_left fun k hk=>?_
    rw [a0w (by have:=List.mem_range.mp hk;omega)]
   ·show [V.ref p]=[V.ref (ext ca i p i)]
    rw [a0p rfl]
  ·by_cases z:k=i
   ·rw [a0p z,a0i pd,z];exact g2
   ·rw [a0w z,a0i (c3 k (by omega))];exact s2 _ _ (c5 k (by omega))
 ·obtain ⟨s1,ca,c1,c2,c3,c4,c5⟩:=hP
  rw [Int.toNat_natCast] at c1 c2 c3 c4 c5
  exact qq d ca H1 s1 hd c1 c2 c3 c4 c5
def a3y:Sp:=fun vs H Q _=>∃ (a:Addr) (xs:List OI),vs=[.ref a]∧H a=some (.lst (xs.map oV))∧xs.length≤100∧∀ H',a0C H H'→Q (oV (lo xs)) H'
theorem b2d:a0r ["numbers"] ["numbers"] (a0b a3q):=⟨rfl,rfl,rfl,by decide +kernel,rfl,by decide +kernel,by decide +kernel⟩
theorem ndLe:(("number":Str) :: ["numbers"]).Nodup:=by decide +kernel
theorem a9O (F:Fun K "least" "least" a3q f fd) (mn:mg "min"=none):a0W P w K mg base CX0 1 f fd ["numbers"] a3y:=by
 refine F.ok (k:=0) b2d (fun vs H Q E h=>?_) (fun cdv A outer s H vs Q E hr h=>?_)
 ·obtain ⟨a,xs,rfl,_⟩:=h
  rfl
 obtain ⟨a,xs,rfl,ha,l1,qq⟩:=h
 refine ⟨_,a0g (a0q (b1P rfl (by rfl) mn (a0a (a2r (M:=["numbers"]) rfl (a0l.of (a0b a3q) ["numbers"] rfl rfl rfl (by decide +kernel) (by decide +kernel) (by decide +kernel) rfl (by decide +kernel)) ndLe rfl (pv 0) a0X
   (fun cl C s0 H0 fp=>⟨b1w (a4E (a6X (pv 0))),pv 0⟩)) a0c) (b1k a1m pk_nil))),?_⟩
 refine ⟨_,rfl,a,_,rfl,SqL.of ha,fun d hd=>?_⟩
 refine ⟨fun i H'=>a0C H H'∧H' d=some (.lst (((xs.take i).filterMap id).map V.int)),⟨a0h hd _,a0d⟩,fun i H' _ hP=>SqL.of (hP.1 _ _ ha),fun i x H' hx hP=>?_,fun H' hP=>?_⟩
 ·obtain ⟨s5,hd'⟩:=hP
  have il:=(List.getElem?_eq_some_iff.mp hx).1
  rw [List.length_map] at il
  rw [List.getElem?_map] at hx
  obtain ⟨z,hz,rfl⟩:=Option.map_eq_some_iff.mp hx
  have et:(xs.take (i+1)).filterMap id=(xs.take i).filterMap id++[z].filterMap id:=by rw [List.take_add_one,hz,List.filterMap_append];rfl
  refine ⟨_,rfl,_,rfl,?_⟩
  cases z with
  | none=>exact ⟨s5,by rw [et];simpa using hd'⟩
  | some v =>
   refine ⟨_,rfl,_,hd',?_,a0y hd s5,?_⟩
   ·rw [List.length_map]
    have:=List.length_filterMap_le id (xs.take i)
    rw [List.length_take] at this
    exact a0u (by omega)
   ·rw [a0d,et,List.map_append]
    rfl
 ·obtain ⟨s5,hd'⟩:=hP
  rw [List.length_map,List.take_length] at hd'
  refine ⟨d,_,rfl,rfl,hd',?_⟩
  have:=qq H' s5
  unfold lo at this
  split
  ·rename_i h
   rw [if_pos h] at this
   exact this
  ·rename_i h
   rw [if_neg h] at this
   exact this
def a3z:Sp:=fun vs H Q _=>∃ a b:OI,vs=[oV a,oV b]∧Q (oV (oadd a b)) H
theorem b2e:a0r ["one","other"] ["one","other"] (a0b a3P):=⟨rfl,rfl,rfl,by decide +kernel,rfl,by decide +kernel,by decide +kernel⟩
theorem a9P (F:Fun K "added" "added" a3P f fd):a0W P w K mg base CX0 1 f fd ["one","other"] a3z:=by
 refine F.ok (k:=0) b2e (fun vs H Q E h=>?_) (fun cdv A outer s H vs Q E hr h=>?_)
 ·obtain ⟨a,b,rfl,_⟩:=h
  rfl
 obtain ⟨a,b,rfl,q⟩:=h
 refine ⟨_,a0e (a0Y (PW.pt (a6n (a4E (a3a (pv 0))) (a3I (a4E (a3a (pv 1)))))) (a0g (a0q a1m)) a0B) (a0g (a0q (a0t a0F (pv 0) (pv 1)))),?_⟩
 refine ⟨_,rfl,_,rfl,?_⟩
 cases a with
 | none=>exact q
 | some i =>
  refine a2V ?_
  refine ⟨_,rfl,_,rfl,?_⟩
  cases b with
  | none=>exact q
  | some j=>exact a2V ⟨_,rfl,_,rfl,_,_,rfl,rfl,q⟩
end
structure Tb (H:Hp) (a:Addr) (ba:Nat→Addr) (ca:Nat→Nat→Addr) (L s:Nat) (T:Nat→Nat→Nat→OI):Prop where
 o:H a=some (.lst ((List.range L).map fun l=>.ref (ba l)))
 b:∀ l,l < L→H (ba l)=some (.lst ((List.range s).map fun i=>.ref (ca l i)))
 c:∀ l i,l < L→i < s→H (ca l i)=some (.lst ((List.range s).map fun j=>oV (T l i j)))
theorem Tb.same {H H':Hp} {a:Addr} {ba:Nat→Addr} {ca:Nat→Nat→Addr} {L s:Nat} {T:Nat→Nat→Nat→OI} (h:Tb H a ba ca L s T) (k:a0C H H'):Tb H' a ba ca L s T:=⟨k _ _ h.o,fun l hl=>k _ _ (h.b l hl),fun l i hl hi=>k _ _ (h.c l i hl hi)⟩
structure Ad where
 su:Addr
 th:Addr
 tt:Addr
 bh:Nat→Addr
 ch:Nat→Nat→Addr
 bt:Nat→Addr
 ct:Nat→Nat→Addr
def Z (X:Ad) (L s:Nat) (a:Addr):Prop:=(∃ l i,l < L∧i < s∧a=X.ch l i)∨∃ l i,l < L+1∧i < s∧a=X.ct l i
abbrev pf (p:Addr) (n:Int) (X:Ad):List (Str × V):=[("prices",.ref p),("things",.int n),("sums",.ref X.su),("heads",.ref X.th),("tails",.ref X.tt)]
structure PAt (C:Addr) (H:Hp) (r p:Addr) (ps ws:List Int) (X:Ad) (h t:Nat→Nat→Nat→OI):Prop where
 ob:∃ dx,H r=some (.ins C dx (pf p (ws.length:Int) X))
 hp:TW H p ps
 su:H X.su=some (.lst ((sums ws ws.length).map V.int))
 hd:Tb H X.th X.bh X.ch ps.length (ws.length+1) h
 tl:Tb H X.tt X.bt X.ct (ps.length+1) (ws.length+1) t
 ih:∀ l i l' i',l < ps.length→l' < ps.length→i < ws.length+1→i' < ws.length+1→X.ch l i=X.ch l' i'→l=l'∧i=i'
 it:∀ l i l' i',l < ps.length+1→l' < ps.length+1→i < ws.length+1→i' < ws.length+1→X.ct l i=X.ct l' i'→l=l'∧i=i'
 ix:∀ l i l' i',l < ps.length→l' < ps.length+1→i < ws.length+1→i' < ws.length+1→X.ch l i≠X.ct l' i'
 ns:¬ Z X ps.length (ws.length+1) X.su
theorem PAt.same {C:Addr} {H H':Hp} {r p:Addr} {ps ws:List Int} {X:Ad} {h t:Nat→Nat→Nat→OI} (a:PAt C H r p ps ws X h t) (k:a0C H H'):PAt C H' r p ps ws X h t:=by
 obtain ⟨dx,ho⟩:=a.ob
 exact ⟨⟨dx,k _ _ ho⟩,k _ _ a.hp,k _ _ a.su,a.hd.same k,a.tl.same k,a.ih,a.it,a.ix,a.ns⟩
structure PC (K:PySem.W.Frag) (C:Addr):Prop where
 c:Cls K C
 np:a1J K C "prices"
 nn:a1J K C "things"
 ns:a1J K C "sums"
 nh:a1J K C "heads"
 nt:a1J K C "tails"
abbrev pf1 (p:Addr):List (Str × V):=[("prices",.ref p)]
abbrev pf2 (p:Addr) (n:Int):List (Str × V):=[("prices",.ref p),("things",.int n)]
abbrev pf3 (p:Addr) (n:Int) (su:Addr):List (Str × V):=[("prices",.ref p),("things",.int n),("sums",.ref su)]
abbrev pf4 (p:Addr) (n:Int) (su th:Addr):List (Str × V):=[("prices",.ref p),("things",.int n),("sums",.ref su),("heads",.ref th)]
structure a9Q (H0 H':Hp) (s:Nat) (o:OI) (i:Nat) (ba:Nat→Addr) (ca:Nat→Nat→Addr) (d:Addr):Prop where
 same:a0C H0 H'
 fb:∀ l,l < i→H0 (ba l)=none
 fc:∀ l k,l < i→k < s→H0 (ca l k)=none
 inj:∀ l k l' k',l < i→l' < i→k < s→k' < s→ca l k=ca l' k'→l=l'∧k=k'
 nb:∀ l,l < i→ba l≠d
 nc:∀ l k,l < i→k < s→ca l k≠d
 lo_:H' d=some (.lst ((List.range i).map fun l=>.ref (ba l)))
 lb:∀ l,l < i→H' (ba l)=some (.lst ((List.range s).map fun k=>.ref (ca l k)))
 lc:∀ l k,l < i→k < s→H' (ca l k)=some (.lst (b2a s k o))
theorem a9Q.start {H0:Hp} {s:Nat} {o:OI} {d:Addr} (hd:H0 d=none):a9Q H0 (upd H0 d (.lst [])) s o 0 (fun _=>d) (fun _ _=>d) d :=
 ⟨a0h hd _,fun l hl=>absurd hl (Nat.not_lt_zero _),fun l k hl=>absurd hl (Nat.not_lt_zero _),fun l k l' k' hl=>absurd hl (Nat.not_lt_zero _),fun l hl=>absurd hl (Nat.not_lt_zero _),fun l k hl=>absurd hl (Nat.not_lt_zero _),a0d,fun l hl=>absurd hl (Nat.not_lt_zero _),fun l k hl=>absurd hl (Nat.not_lt_zero _)⟩
theorem a9Q.step {H0 H1 H2:Hp} {s:Nat} {o:OI} {i:Nat} {ba:Nat→Addr} {ca:Nat→Nat→Addr} {d b:Addr} {c':Nat→Addr} (hd:H0 d=none) (g:a9Q H0 H1 s o i ba ca d) (k:a0C H1 H2) (fb:H1 b=none) (fc:∀ k,k < s→H1 (c' k)=none) (ij:∀ j k,j < s→k < s→c' j=c' k→j=k) (hb:H2 b=some (.lst ((List.range s).map fun k=>.ref (c' k)))) (hc:∀ k,k < s→H2 (c' k)=some (.lst (b2a s k o))) :
  a9Q H0 (upd H2 d (.lst (((List.range i).map fun l=>V.ref (ba l))++[.ref b]))) s o (i+1) (ext ba i b) (ext ca i c') d:=by
 have bd:b≠d:=fun z=>by rw [z,g.lo_] at fb;cases fb
 have cd:∀ k,k < s→c' k≠d:=fun k hk z=>by
  have:=fc k hk
  rw [z,g.lo_] at this;cases this
 have cc:∀ l k k',l < i→k < s→k' < s→ca l k≠c' k':=fun l k k' hl hk hk' z=>by
  have:=fc k' hk'
  rw [←z,g.lc l k hl hk] at this;cases this
 refine ⟨a0y hd (g.same.trans k),fun l hl=>?_,fun l m hl hm=>?_,fun l m l' m' hl hl' hm hm' e=>?_,fun l hl=>?_,fun l m hl hm=>?_,?_,fun l hl=>?_,fun l m hl hm=>?_⟩
 ·by_cases z:l=i
  ·rw [a0p z];exact g.same.free fb
  ·rw [a0w z];exact g.fb l (by omega)
 ·by_cases z:l=i
  ·rw [a0p z];exact g.same.free (fc m hm)
  ·rw [a0w z];exact g.fc l m (by omega) hm
 ·by_cases z1:l=i <;> by_cases z2:l'=i
  ·rw [a0p z1,a0p z2] at e
   exact ⟨by omega,ij m m' hm hm' e⟩
  ·rw [a0p z1,a0w z2] at e
   exact absurd e.symm (cc l' m' m (by omega) hm' hm)
  ·rw [a0w z1,a0p z2] at e
   exact absurd e (cc l m m' (by omega) hm hm')
  ·rw [a0w z1,a0w z2] at e
   exact g.inj l m l' m' (by omega) (by omega) hm hm' e
 ·by_cases z:l=i
  ·rw [a0p z];exact bd
  ·rw [a0w z];exact g.nb l (by omega)
 ·by_cases z:l=i
  ·rw [a0p z];exact cd m hm
  ·rw [a0w z];exact g.nc l m (by omega) hm
 ·rw [a0d,List.range_succ,List.map_append]
  refine congrArg (fun z=>some (HO.lst z)) ?_
  congr 1
  ·refine List.map_congr_left fun l hl=>?_
   rw [a0w (by have:=List.mem_range.mp hl;omega)]
  ·show [V.ref b]=[V.ref (ext ba i b i)]
   rw [a0p rfl]
 ·by_cases z:l=i
  ·rw [a0p z,a0p z,a0i bd];exact hb
  ·rw [a0w z,a0w z,a0i (g.nb l (by omega))];exact k _ _ (g.lb l (by omega))
 ·by_cases z:l=i
  ·rw [a0p z,a0i (cd m hm)];exact hc m hm
  ·rw [a0w z,a0i (g.nc l m (by omega) hm)];exact k _ _ (g.lc l m (by omega) hm)
def a6Q (r:Addr) (H H':Hp):Prop:=∀ a o,a≠r→H a=some o→H' a=some o
section
variable {P:Program} {w:World} {K:PySem.W.Frag} {mg:Str→Option Value} {base:Heap} {f:Addr} {fd:FuncData}
abbrev NI:List Str:=["self","prices","weights","side"]
abbrev h0:Nat→Nat→Nat→OI:=fun _ a b=>if b=a then none else none
abbrev t0:Nat→Nat→Nat→OI:=fun _ a b=>if b=a then some 0 else none
def a7Y (C:Addr):Sp:=fun vs H Q _=>∃ (r dx p q:Addr) (ps ws:List Int),vs=[.ref r,.ref p,.ref q]∧H r=some (.ins C dx [])∧TW H p ps∧TW H q ws∧1≤ps.length∧ps.length≤10∧ws.length≤20 ∧
 ∀ H' X,a6Q r H H'→PAt C H' r p ps ws X h0 t0→(∀ a,Z X ps.length (ws.length+1) a→H a=none)→Q .non H'
theorem a7Z:a0r NI ["self","prices","weights"] (a0b a1V):=⟨rfl,rfl,rfl,by decide +kernel,rfl,by decide +kernel,by decide +kernel⟩
theorem ndI1:(("price":Str) :: NI).Nodup:=by decide +kernel
theorem ndI2:(("letter":Str) :: NI).Nodup:=by decide +kernel
theorem a9R {C:Addr} (F:Fun K "__init__" "Parted.__init__" a1V f fd) (GS:Fns P w K mg base ["weights"] "weight_sums" a7T 2) (GQ:Fns P w K mg base ["side","diagonal"] "square" a4i 2) (rc:PC K C) (ml:mg "len"=none) (mr:mg "range"=none):a0W P w K mg base CX0 3 f fd ["self","prices","weights"] (a7Y C):=by
 refine F.ok (k:=2) a7Z (fun vs H Q E h=>?_) (fun cdv A outer s H vs Q E hr h=>?_)
 ·obtain ⟨r,dx,p,q,ps,ws,rfl,_⟩:=h
  rfl
 obtain ⟨r,dx,p,q,ps,ws,rfl,hr0,hp,hq,p1,p10,w20,qq⟩:=h
 refine ⟨_,a0e (a4J (pv 0) (pv 1) rfl)
  (a0e (a4J (pv 0) (a0s a0j (by rfl) ml PySem.boot_len (a0a (pv 2) a0c)) rfl)
  (a0e (a4J (pv 0) (a0k GS.ok hr (by rfl) GS.m GS.kp GS.b .nil a0A (a0a (pv 2) a0c)) rfl)
  (a0e (a0x (i:=3) a7Z.nd rfl (Or.inr rfl) (a0t a0F (a1l (pv 0) rfl) a0f))
  (a0e (a4J (pv 0) (a2s (M:=NI) rfl (a0l.of (a0b a1V) NI rfl rfl rfl (by decide +kernel) (by decide +kernel) (by decide +kernel) rfl (by decide +kernel)) ndI1 rfl (pv 1) a0X
   (fun cl C s0 H0 fp=>⟨a0P,a0k GQ.ok hr (by rfl) GQ.m GQ.kp GQ.b .nil a0A (a0a (pv 4) (a0a a1m a0c))⟩)) rfl)
  (a0g (a4J (pv 0) (a1r (M:=NI) rfl (a0l.of (a0b a1V) NI rfl rfl rfl (by decide +kernel) (by decide +kernel) (by decide +kernel) rfl (by decide +kernel)) ndI2 rfl (by rfl) mr (a0a (a0t a0F (a0s a0j (by rfl) ml PySem.boot_len (a0a (pv 1) a0c)) a0f) a0c) (a0Z (a6E a3N (a7z (a0Z a0X a1B)) b2O) a1B)
   (fun cl C s0 H0 fp=>⟨a0P,a0k GQ.ok hr (by rfl) GQ.m GQ.kp GQ.b .nil a0A (a0a (pv 4) (a0a a0f a0c))⟩)) rfl)))))),?_⟩
 have pr:p≠r:=a0E hp hr0 (by intro z;cases z)
 have qr:q≠r:=a0E hq hr0 (by intro z;cases z)
 refine ⟨_,rfl,_,rfl,r,C,dx,_,rfl,hr0,rc.c,rc.np,(by show 0 < 1000;decide),?_⟩
 rw [show a3C "prices" (V.ref p) []=(pf1 p) from rfl]
 have g1:upd H r (.ins C dx (pf1 p)) r=some (.ins C dx (pf1 p)):=a0d
 have k1:a6Q r H (upd H r (.ins C dx (pf1 p))):=fun a o ha e=>by rw [a0i ha];exact e
 have f1:∀ a,upd H r (.ins C dx (pf1 p)) a=none→H a=none:=fun a e=>by
  by_cases z:a=r
  ·subst z;rw [a0d] at e;cases e
  ·rw [a0i z] at e;exact e
 generalize upd H r (.ins C dx (pf1 p))=H1 at g1 k1 f1 ⊢
 refine ⟨_,rfl,q,_,rfl,.inr (SqT.of (k1 _ _ qr hq)),_,rfl,r,C,dx,_,rfl,g1,rc.c,rc.nn,(by show 1 < 1000;decide),?_⟩
 rw [List.length_map,show a3C "things" (V.int (ws.length:Int)) (pf1 p)=(pf2 p (ws.length:Int)) from rfl]
 have g2:upd H1 r (.ins C dx (pf2 p (ws.length:Int))) r=some (.ins C dx (pf2 p (ws.length:Int))):=a0d
 have k2:a6Q r H (upd H1 r (.ins C dx (pf2 p (ws.length:Int)))):=fun a o ha e=>by rw [a0i ha];exact k1 a o ha e
 have f2:∀ a,upd H1 r (.ins C dx (pf2 p (ws.length:Int))) a=none→H a=none:=fun a e=>by
  by_cases z:a=r
  ·subst z;rw [a0d] at e;cases e
  ·rw [a0i z] at e;exact f1 a e
 generalize upd H1 r (.ins C dx (pf2 p (ws.length:Int)))=H2 at g2 k2 f2 ⊢
 refine ⟨_,rfl,q,ws,rfl,k2 _ _ qr hq,by omega,fun su H3 s3 hn3 hs3=>?_⟩
 have g3:=s3 _ _ g2
 refine ⟨_,rfl,r,C,dx,_,rfl,g3,rc.c,rc.ns,(by show 2 < 1000;decide),?_⟩
 have sr:su≠r:=a0E hs3 g3 (by intro z;cases z)
 rw [show a3C "sums" (V.ref su) (pf2 p (ws.length:Int))=(pf3 p (ws.length:Int) su) from rfl]
 have g4:upd H3 r (.ins C dx (pf3 p (ws.length:Int) su)) r=some (.ins C dx (pf3 p (ws.length:Int) su)):=a0d
 have k4:a6Q r H (upd H3 r (.ins C dx (pf3 p (ws.length:Int) su))):=fun a o ha e=>by rw [a0i ha];exact s3 _ _ (k2 a o ha e)
 have f4:∀ a,upd H3 r (.ins C dx (pf3 p (ws.length:Int) su)) a=none→H a=none:=fun a e=>by
  by_cases z:a=r
  ·subst z;rw [a0d] at e;cases e
  ·rw [a0i z] at e;exact f2 a (s3.free e)
 have hs4:upd H3 r (.ins C dx (pf3 p (ws.length:Int) su)) su=some (.lst ((sums ws ws.length).map V.int)):=by rw [a0i sr];exact hs3
 generalize upd H3 r (.ins C dx (pf3 p (ws.length:Int) su))=H4 at g4 k4 f4 hs4 ⊢
 refine ⟨_,rfl,r,C,dx,_,_,rfl,g4,rc.c,rc.nn,rfl,_,_,rfl,rfl,?_⟩
 have hp4:TW H4 p ps:=k4 _ _ pr hp
 refine ⟨_,rfl,p,_,rfl,SqT.of hp4,fun th hth=>?_⟩
 refine ⟨fun i H'=>∃ ba ca,a9Q H4 H' (ws.length+1) none i ba ca th,⟨_,_,a9Q.start hth⟩,fun i H' _ hP=>(by obtain ⟨ba,ca,g⟩:=hP;exact SqT.of (g.same _ _ hp4)),fun i x H' hx hP=>?_,fun H5 hP=>?_⟩
 ·obtain ⟨ba,ca,g⟩:=hP
  have il:=(List.getElem?_eq_some_iff.mp hx).1
  rw [List.length_map] at il
  refine a0L ⟨_,rfl,ws.length+1,none,rfl,by omega,fun b c' H6 s6 fb fc ij cb hb hc=>⟨_,s6 _ _ g.lo_,?_,_,_,g.step hth s6 fb fc ij hb hc⟩⟩
  rw [List.length_map,List.length_range];exact a0u (by omega)
 obtain ⟨bh,ch,gh⟩:=hP
 rw [List.length_map] at gh
 have g5:=gh.same _ _ g4
 refine ⟨_,rfl,r,C,dx,_,rfl,g5,rc.c,rc.nh,(by show 3 < 1000;decide),?_⟩
 rw [show a3C "heads" (V.ref th) (pf3 p (ws.length:Int) su)=(pf4 p (ws.length:Int) su th) from rfl]
 have rh1:th≠r:=a0E gh.lo_ g5 (by intro z;cases z)
 have rh2:∀ l,l < ps.length→bh l≠r:=fun l hl=>a0E (gh.lb l hl) g5 (by intro z;cases z)
 have rh3:∀ l k,l < ps.length→k < ws.length+1→ch l k≠r:=fun l k hl hk=>a0E (gh.lc l k hl hk) g5 (by intro z;cases z)
 have tb6:Tb (upd H5 r (.ins C dx (pf4 p (ws.length:Int) su th))) th bh ch ps.length (ws.length+1) h0:=⟨by rw [a0i rh1];exact gh.lo_,fun l hl=>by rw [a0i (rh2 l hl)];exact gh.lb l hl,fun l k hl hk=>by rw [a0i (rh3 l k hl hk)];exact gh.lc l k hl hk⟩
 have g6:upd H5 r (.ins C dx (pf4 p (ws.length:Int) su th)) r=some (.ins C dx (pf4 p (ws.length:Int) su th)):=a0d
 have k46:a6Q r H4 (upd H5 r (.ins C dx (pf4 p (ws.length:Int) su th))):=fun a o ha e=>by rw [a0i ha];exact gh.same _ _ e
 have f6:∀ a,upd H5 r (.ins C dx (pf4 p (ws.length:Int) su th)) a=none→H4 a=none:=fun a e=>by
  by_cases z:a=r
  ·subst z;rw [a0d] at e;cases e
  ·rw [a0i z] at e;exact gh.same.free e
 generalize upd H5 r (.ins C dx (pf4 p (ws.length:Int) su th))=H6 at tb6 g6 k46 f6 ⊢
 have hp6:TW H6 p ps:=k46 _ _ pr hp4
 have hs6:=k46 _ _ sr hs4
 refine ⟨_,rfl,p,_,rfl,.inr (SqT.of hp6),_,_,rfl,rfl,_,rfl,by rw [List.length_map];omega,by rw [List.length_map];omega,fun tt htt=>?_⟩
 have en:((((ps.map V.int).length:Nat):Int)+1).toNat=ps.length+1:=by rw [List.length_map];omega
 rw [en]
 refine ⟨fun i H'=>∃ ba ca,a9Q H6 H' (ws.length+1) (some 0) i ba ca tt,⟨_,_,a9Q.start htt⟩,fun i H' hi hP=>?_,fun H7 hP=>?_⟩
 ·obtain ⟨ba,ca,g⟩:=hP
  refine a0L ⟨_,rfl,ws.length+1,some 0,rfl,by omega,fun b c' H8 s8 fb fc ij cb hb hc=>⟨_,s8 _ _ g.lo_,?_,_,_,g.step htt s8 fb fc ij hb hc⟩⟩
  rw [List.length_map,List.length_range];exact a0u (by omega)
 obtain ⟨bt,ct,gt⟩:=hP
 have g7:=gt.same _ _ g6
 refine ⟨_,rfl,r,C,dx,_,rfl,g7,rc.c,rc.nt,(by show 4 < 1000;decide),?_⟩
 rw [show a3C "tails" (V.ref tt) (pf4 p (ws.length:Int) su th)=pf p (ws.length:Int) ⟨su,th,tt,bh,ch,bt,ct⟩ from rfl]
 have rt1:tt≠r:=a0E gt.lo_ g7 (by intro z;cases z)
 have rt2:∀ l,l < ps.length+1→bt l≠r:=fun l hl=>a0E (gt.lb l hl) g7 (by intro z;cases z)
 have rt3:∀ l k,l < ps.length+1→k < ws.length+1→ct l k≠r:=fun l k hl hk=>a0E (gt.lc l k hl hk) g7 (by intro z;cases z)
 have k68:a6Q r H6 (upd H7 r (.ins C dx (pf p (ws.length:Int) ⟨su,th,tt,bh,ch,bt,ct⟩))):=fun a o ha e=>by rw [a0i ha];exact gt.same _ _ e
 refine qq _ ⟨su,th,tt,bh,ch,bt,ct⟩ (fun a o ha e=>k68 a o ha (k46 a o ha (k4 a o ha e))) ⟨⟨dx,a0d⟩,k68 _ _ pr hp6,k68 _ _ sr hs6,⟨k68 _ _ rh1 tb6.o,fun l hl=>k68 _ _ (rh2 l hl) (tb6.b l hl),fun l k hl hk=>k68 _ _ (rh3 l k hl hk) (tb6.c l k hl hk)⟩,⟨by rw [a0i rt1];exact gt.lo_,fun l hl=>by rw [a0i (rt2 l hl)];exact gt.lb l hl,fun l k hl hk=>by rw [a0i (rt3 l k hl hk)];exact gt.lc l k hl hk⟩,fun l i l' i' hl hl' hi hi' e=>gh.inj l i l' i' hl hl' hi hi' e,fun l i l' i' hl hl' hi hi' e=>gt.inj l i l' i' hl hl' hi hi' e,fun l i l' i' hl hl' hi hi' e=>?_,fun z=>?_⟩ fun a hz=>?_
 ·have e1:=gt.fc l' i' hl' hi'
  have e:ch l i=ct l' i':=e
  rw [←e,tb6.c l i hl hi] at e1
  cases e1
 ·rcases z with ⟨l,i,hl,hi,e⟩ | ⟨l,i,hl,hi,e⟩
  ·have e1:=gh.fc l i hl hi
   have e:su=ch l i:=e
   rw [←e,hs4] at e1
   cases e1
  ·have e1:=gt.fc l i hl hi
   have e:su=ct l i:=e
   rw [←e,hs6] at e1
   cases e1
 ·rcases hz with ⟨l,i,hl,hi,e⟩ | ⟨l,i,hl,hi,e⟩
  ·have e:a=ch l i:=e
   rw [e]
   exact f4 _ (gh.fc l i hl hi)
  ·have e:a=ct l i:=e
   rw [e]
   exact f4 _ (f6 _ (gt.fc l i hl hi))
end
theorem a0D {f:Nat→V} {n k:Nat} (h:k < n):atI ((List.range n).map f) (k:Int)=some (f k):=a1Q (by rw [List.getElem?_map,List.getElem?_range h];rfl)
theorem a8a {K:PySem.W.Frag} {ta:TE} {f:Str} (h:a2B ta):a2B (tFld K ta f):=fun σ H Q Q' hq q=>h σ H _ _ (fun v H1 ⟨a,C,dx,fs,u,e1,e2,e3,e4,e5,q1⟩=>⟨a,C,dx,fs,u,e1,e2,e3,e4,e5,hq _ _ q1⟩) q
structure Mt (P:Program) (w:World) (K:PySem.W.Frag) (mg:Str→Option Value) (base:Heap) (C:Addr) (name:Str) (ps:List Str) (sp:Sp) (k:Nat) where
 f:Addr
 fd:FuncData
 m:Meth K C name f
 ok:a0W P w K mg base CX0 k f fd ps sp
 b:a1z K fd ps []
def Mt.up {P:Program} {w:World} {K:PySem.W.Frag} {mg:Str→Option Value} {base:Heap} {C:Addr} {name:Str} {ps:List Str} {sp:Sp} {j k:Nat} (f:Mt P w K mg base C name ps sp j) (h:j≤k):Mt P w K mg base C name ps sp k:=⟨f.f,f.fd,f.m,f.ok.mono h,f.b⟩
def up3 (T:Nat→Nat→Nat→OI) (l i j:Nat) (v:OI):Nat→Nat→Nat→OI:=fun l' i' j'=>if l'=l∧i'=i∧j'=j then v else T l' i' j'
theorem a8b {T:Nat→Nat→Nat→OI} {l i j:Nat} {v:OI}:up3 T l i j v l i j=v:=if_pos ⟨rfl,rfl,rfl⟩
theorem a3S {T:Nat→Nat→Nat→OI} {l i j l' i' j':Nat} {v:OI} (h:¬ (l'=l∧i'=i∧j'=j)):up3 T l i j v l' i' j'=T l' i' j':=if_neg h
theorem b2f {T:Nat→Nat→Nat→OI} {l i j s:Nat} {v:OI} (hj:j < s):((List.range s).map fun k=>oV (T l i k)).set j (oV v)=(List.range s).map fun k=>oV (up3 T l i j v l i k):=by
 refine List.ext_getElem? fun k=>?_
 rw [List.getElem?_map]
 by_cases hk:k < s
 ·rw [List.getElem?_range hk]
  by_cases e:j=k
  ·subst e
   rw [List.getElem?_set_self (by rw [List.length_map,List.length_range];exact hk)]
   show some (oV v)=some (oV (up3 T l i j v l i j))
   rw [a8b]
  ·rw [List.getElem?_set_ne e,List.getElem?_map,List.getElem?_range hk]
   show some (oV (T l i k))=some (oV (up3 T l i j v l i k))
   rw [a3S fun z=>e z.2.2.symm]
 ·rw [List.getElem?_eq_none (by rw [List.length_set,List.length_map,List.length_range];omega),List.getElem?_eq_none (by rw [List.length_range];omega)]
  rfl
theorem a4j {f:Nat→Addr} {g:Nat→OI} {m n:Nat} (hm:0 < m) (hn:0 < n):(List.range m).map (fun l=>V.ref (f l))≠(List.range n).map fun j=>oV (g j):=fun z=>by
 have h1:((List.range m).map (fun l=>V.ref (f l)))[0]?=some (V.ref (f 0)):=by rw [List.getElem?_map,List.getElem?_range hm];rfl
 have h2:((List.range n).map fun j=>oV (g j))[0]?=some (oV (g 0)):=by rw [List.getElem?_map,List.getElem?_range hn];rfl
 rw [z,h2] at h1
 cases hg:g 0 <;> (rw [hg] at h1;cases h1)
theorem Tb.keep {H:Hp} {a c:Addr} {ba:Nat→Addr} {ca:Nat→Nat→Addr} {L s:Nat} {T:Nat→Nat→Nat→OI} {g:Nat→OI} {n:Nat} {o:HO} (h:Tb H a ba ca L s T) (hL:0 < L) (hs:0 < s) (hn:0 < n) (hc:H c=some (.lst ((List.range n).map fun j=>oV (g j)))) (nc:∀ l i,l < L→i < s→ca l i≠c):Tb (upd H c o) a ba ca L s T:=by
 refine ⟨?_,fun l hl=>?_,fun l i hl hi=>?_⟩
 ·rw [a0i (a0E h.o hc (fun z=>a4j hL hn (HO.lst.inj z)))]
  exact h.o
 ·rw [a0i (a0E (h.b l hl) hc (fun z=>a4j hs hn (HO.lst.inj z)))]
  exact h.b l hl
 ·rw [a0i (nc l i hl hi)]
  exact h.c l i hl hi
theorem Tb.put {H:Hp} {a:Addr} {ba:Nat→Addr} {ca:Nat→Nat→Addr} {L s:Nat} {T:Nat→Nat→Nat→OI} {l i j:Nat} {v:OI} (h:Tb H a ba ca L s T) (inj:∀ l i l' i',l < L→l' < L→i < s→i' < s→ca l i=ca l' i'→l=l'∧i=i') (hl:l < L) (hi:i < s) (hj:j < s) :
  Tb (upd H (ca l i) (.lst (((List.range s).map fun k=>oV (T l i k)).set j (oV v)))) a ba ca L s (up3 T l i j v):=by
 rw [b2f hj]
 have hc:=h.c l i hl hi
 refine ⟨?_,fun l' hl'=>?_,fun l' i' hl' hi'=>?_⟩
 ·rw [a0i (a0E h.o hc (fun z=>a4j (m:=L) (n:=s) (by omega) (by omega) (HO.lst.inj z)))]
  exact h.o
 ·rw [a0i (a0E (h.b l' hl') hc (fun z=>a4j (m:=s) (n:=s) (by omega) (by omega) (HO.lst.inj z)))]
  exact h.b l' hl'
 ·by_cases e:l'=l∧i'=i
  ·obtain ⟨rfl,rfl⟩:=e
   rw [a0d]
  ·rw [a0i (fun z=>e (inj l' i' l i hl' hl hi' hi z)),h.c l' i' hl' hi']
   refine congrArg (fun z=>some (HO.lst z)) (List.map_congr_left fun k _=>?_)
   rw [a3S fun z=>e ⟨z.1,z.2.1⟩]
theorem PAt.puth {C:Addr} {H:Hp} {r p:Addr} {ps ws:List Int} {X:Ad} {h t:Nat→Nat→Nat→OI} {l i j:Nat} {v:OI} (a:PAt C H r p ps ws X h t) (hl:l < ps.length) (hi:i < ws.length+1) (hj:j < ws.length+1) :
  PAt C (upd H (X.ch l i) (.lst (((List.range (ws.length+1)).map fun k=>oV (h l i k)).set j (oV v)))) r p ps ws X (up3 h l i j v) t:=by
 obtain ⟨dx,ho⟩:=a.ob
 have hc:=a.hd.c l i hl hi
 refine ⟨⟨dx,?_⟩,?_,?_,a.hd.put a.ih hl hi hj,a.tl.keep (by omega) (by omega) (by omega) hc fun l' i' hl' hi'=>Ne.symm (a.ix l i l' i' hl hl' hi hi'),a.ih,a.it,a.ix,a.ns⟩
 ·rw [a0i (a0E ho hc (by intro z;cases z))];exact ho
 ·show upd _ _ _ p=_
  rw [a0i (a0E a.hp hc (by intro z;cases z))];exact a.hp
 ·rw [a0i (fun z=>a.ns (.inl ⟨l,i,hl,hi,z⟩))];exact a.su
theorem PAt.putt {C:Addr} {H:Hp} {r p:Addr} {ps ws:List Int} {X:Ad} {h t:Nat→Nat→Nat→OI} {l i j:Nat} {v:OI} (a:PAt C H r p ps ws X h t) (hL:0 < ps.length) (hl:l < ps.length+1) (hi:i < ws.length+1) (hj:j < ws.length+1) :
  PAt C (upd H (X.ct l i) (.lst (((List.range (ws.length+1)).map fun k=>oV (t l i k)).set j (oV v)))) r p ps ws X h (up3 t l i j v):=by
 obtain ⟨dx,ho⟩:=a.ob
 have hc:=a.tl.c l i hl hi
 refine ⟨⟨dx,?_⟩,?_,?_,a.hd.keep hL (by omega) (by omega) hc fun l' i' hl' hi'=>a.ix l' i' l i hl' hl hi' hi,a.tl.put a.it hl hi hj,a.ih,a.it,a.ix,a.ns⟩
 ·rw [a0i (a0E ho hc (by intro z;cases z))];exact ho
 ·show upd _ _ _ p=_
  rw [a0i (a0E a.hp hc (by intro z;cases z))];exact a.hp
 ·rw [a0i (fun z=>a.ns (.inr ⟨l,i,hl,hi,z⟩))];exact a.su
def KZ (X:Ad) (L s:Nat) (H H':Hp):Prop:=∀ a o,¬ Z X L s a→H a=some o→H' a=some o
section
variable {P:Program} {w:World} {K:PySem.W.Frag} {mg:Str→Option Value} {base:Heap} {f:Addr} {fd:FuncData}
abbrev lsum (h t:Nat→Nat→Nat→OI) (l i j k:Nat):OI:=lo ((List.range (k - i)).map fun b=>oadd (h l i (i+b+1)) (t (l+1) (i+b+1) j))
abbrev NLs:List Str:=["self","letter","first","end","last","heads","tails"]
def spLs (C:Addr):Sp:=fun vs H Q _=>∃ (r p:Addr) (ps ws:List Int) (X:Ad) (h t:Nat→Nat→Nat→OI) (l i j k:Nat),vs=[.ref r,.int (l:Int),.int (i:Int),.int (j:Int),.int (k:Int)]∧PAt C H r p ps ws X h t∧ws.length≤20∧l < ps.length∧i≤k∧k≤ws.length∧j≤ws.length∧∀ H',a0C H H'→Q (oV (lsum h t l i j k)) H'
theorem scLs:a0r NLs ["self","letter","first","end","last"] (a0b sLs):=⟨rfl,rfl,rfl,by decide +kernel,rfl,by decide +kernel,by decide +kernel⟩
theorem ndLs:(("cut":Str) :: NLs).Nodup:=by decide +kernel
theorem ok_ls {C:Addr} (F:Fun K "least_sum" "Parted.least_sum" sLs f fd) (GL:Fns P w K mg base ["numbers"] "least" a3y 1) (GA:Fns P w K mg base ["one","other"] "added" a3z 1) (rc:PC K C) (mr:mg "range"=none):a0W P w K mg base CX0 2 f fd ["self","letter","first","end","last"] (spLs C):=by
 refine F.ok (k:=1) scLs (fun vs H Q E h=>?_) (fun cdv A outer s H vs Q E hr h=>?_)
 ·obtain ⟨r,p,ps,ws,X,h,t,l,i,j,k,rfl,_⟩:=h
  rfl
 obtain ⟨r,p,ps,ws,X,h,t,l,i,j,k,rfl,pa,w20,hl,hik,hk,hj,q⟩:=h
 refine ⟨_,a0e (a0x (i:=5) scLs.nd rfl (Or.inr rfl) (a0v a0n (a0v a0n (a1l (pv 0) rfl) (pv 1) (fun _ _=>rfl)) (pv 2) (fun _ _=>rfl)))
  (a0e (a0x (i:=6) scLs.nd rfl (Or.inr rfl) (a0v a0n (a1l (pv 0) rfl) (a0t a0F (pv 1) a0f) (fun _ _=>rfl)))
  (a0g (a0q (a0k GL.ok hr (by rfl) GL.m GL.kp GL.b .nil a0A (a0a (a4S (M:=NLs) rfl (a0l.of (a0b sLs) NLs rfl rfl rfl (by decide +kernel) (by decide +kernel) (by decide +kernel) rfl (by decide +kernel)) ndLs rfl (by rfl) mr (a0a (a0t a0F (pv 2) a0f) (a0a (a0t a0F (pv 4) a0f) a0c)) (a0Z (a6E a3N a0X b2O) (a0Z (a6E a3N a0X b2O) a1B))
   (fun cl C s0 H0 fp=>⟨a0P,a0k GA.ok hr (by rfl) GA.m GA.kp GA.b .nil a0A (a0a (a0v (ixL K) (pv 6) (pv 0) (fun _ _=>rfl)) (a0a (a0v (ixL K) (a0v (ixL K) (pv 7) (pv 0) (fun _ _=>rfl)) (pv 4) (fun _ _=>rfl)) a0c))⟩)) a0c))))),?_⟩
 obtain ⟨dx,ho⟩:=pa.ob
 have i1:i < ws.length+1:=by omega
 have hT:=pa.hd
 have tT:=pa.tl
 refine ⟨_,rfl,r,C,dx,_,_,rfl,ho,rc.c,rc.nh,rfl,_,rfl,X.th,_,_,_,rfl,rfl,SqL.of hT.o,a0D hl,_,rfl,X.bh l,_,_,_,rfl,rfl,SqL.of (hT.b l hl),a0D i1,?_⟩
 refine ⟨_,rfl,r,C,dx,_,_,rfl,ho,rc.c,rc.nt,rfl,_,rfl,_,_,rfl,rfl,X.tt,_,_,_,rfl,rfl,SqL.of tT.o,a0D (k:=l+1) (by omega),?_⟩
 refine ⟨_,rfl,_,_,rfl,rfl,_,rfl,_,_,rfl,rfl,_,_,rfl,⟨by omega,by omega,by omega,by omega⟩,fun d hd=>?_⟩
 have en:(((k:Int)+1) - ((i:Int)+1)).toNat=k - i:=by omega
 dsimp only
 rw [en]
 refine ⟨fun b H'=>a0C H H'∧H' d=some (.lst (((List.range b).map fun b=>oadd (h l i (i+b+1)) (t (l+1) (i+b+1) j)).map oV)),⟨a0h hd _,a0d⟩,fun b H' hb hP=>?_,fun H' hP=>?_⟩
 ·obtain ⟨s5,hd'⟩:=hP
  have eb:(i:Int)+1+(b:Int)=((i+b+1:Nat):Int):=by push_cast;omega
  rw [eb]
  have hb1:i+b+1 < ws.length+1:=by omega
  refine a0L ⟨_,rfl,_,rfl,X.ch l i,_,_,_,rfl,rfl,SqL.of (s5 _ _ (hT.c l i hl i1)),a0D hb1,_,rfl,_,rfl,X.bt (l+1),_,_,_,rfl,rfl,SqL.of (s5 _ _ (tT.b (l+1) (by omega))),a0D hb1,_,rfl,X.ct (l+1) (i+b+1),_,_,_,rfl,rfl,SqL.of (s5 _ _ (tT.c (l+1) (i+b+1) (by omega) hb1)),a0D (k:=j) (by omega),_,_,rfl,_,hd',?_,a0y hd s5,?_⟩
  ·rw [List.length_map,List.length_map,List.length_range];exact a0u (by omega)
  ·rw [a0d,List.range_succ,List.map_append,List.map_append];rfl
 ·obtain ⟨s5,hd'⟩:=hP
  exact ⟨d,_,rfl,hd',by rw [List.length_map,List.length_range];omega,fun H6 s6=>q H6 (s5.trans s6)⟩
abbrev NB:List Str:=["self","first","end"]
def a4k (C:Addr):Sp:=fun vs H Q _=>∃ (r p:Addr) (ps ws:List Int) (X:Ad) (h t:Nat→Nat→Nat→OI) (i j:Nat),vs=[.ref r,.int (i:Int),.int (j:Int)]∧PAt C H r p ps ws X h t∧ws.length≤20∧ps.length≤10∧i < j∧j≤ws.length∧∀ H',a0C H H'→Q (oV (bnd ps.length h t i j)) H'
theorem b2g:a0r NB ["self","first","end"] (a0b a3w):=⟨rfl,rfl,rfl,by decide +kernel,rfl,by decide +kernel,by decide +kernel⟩
theorem ndB:(("letter":Str) :: NB).Nodup:=by decide +kernel
theorem a9S {C:Addr} (F:Fun K "bound" "Parted.bound" a3w f fd) (GL:Fns P w K mg base ["numbers"] "least" a3y 2) (M:Mt P w K mg base C "least_sum" ["self","letter","first","end","last"] (spLs C) 2) (rc:PC K C) (ml:mg "len"=none) (mr:mg "range"=none):a0W P w K mg base CX0 3 f fd ["self","first","end"] (a4k C):=by
 refine F.ok (k:=2) b2g (fun vs H Q E h=>?_) (fun cdv A outer s H vs Q E hr h=>?_)
 ·obtain ⟨r,p,ps,ws,X,h,t,i,j,rfl,_⟩:=h
  rfl
 obtain ⟨r,p,ps,ws,X,h,t,i,j,rfl,pa,w20,p10,hij,hj,q⟩:=h
 refine ⟨_,a0e (a0Y (a0G a3E (a0t a1c (pv 2) (pv 1)) a0f (nomark _)) (a0g (a0q a0f)) a0B)
  (a0g (a0q (a0k GL.ok hr (by rfl) GL.m GL.kp GL.b .nil a0A (a0a (a1r (M:=NB) rfl (a0l.of (a0b a3w) NB rfl rfl rfl (by decide +kernel) (by decide +kernel) (by decide +kernel) rfl (by decide +kernel)) ndB rfl (by rfl) mr (a0a (a0s a0j (by rfl) ml PySem.boot_len (a0a (a1l (pv 0) rfl) a0c)) a0c) (a0Z (a7z (a0Z (a8a a0X) a1B)) a1B)
   (fun cl C s0 H0 fp=>⟨a0P,a1D (pv 1) rc.c M.m M.ok hr M.b .nil a0A (a0a (pv 0) (a0a (pv 2) (a0a (pv 3) (a0a (a0t a1c (pv 3) a0f) a0c))))⟩)) a0c)))),?_⟩
 obtain ⟨dx,ho⟩:=pa.ob
 refine ⟨_,rfl,_,rfl,_,_,rfl,rfl,rfl,_,rfl,?_⟩
 refine a2T (fun z=>?_) (fun z=>?_)
 ·have z1:j - i=1:=by
   have y:V.int ((j:Int) - (i:Int))=V.int 1:=of_decide_eq_true z
   have:=V.int.inj y
   omega
  have:=q H (a0C.refl _)
  unfold bnd at this
  rw [if_pos z1] at this
  exact this
 ·have z1:¬ j - i=1:=fun y=>z (decide_eq_true (by show V.int ((j:Int) - (i:Int))=V.int 1;congr 1;omega))
  unfold bnd at q
  rw [if_neg z1] at q
  refine ⟨_,rfl,r,C,dx,_,_,rfl,ho,rc.c,rc.np,rfl,p,_,rfl,.inr (SqT.of pa.hp),_,rfl,by rw [List.length_map];omega,by rw [List.length_map];omega,fun d hd=>?_⟩
  rw [List.length_map,Int.toNat_natCast]
  refine ⟨fun l H'=>a0C H H'∧H' d=some (.lst (((List.range l).map fun l=>lsum h t l i j (j - 1)).map oV)),⟨a0h hd _,a0d⟩,fun l H' hl hP=>?_,fun H' hP=>?_⟩
  ·obtain ⟨s5,hd'⟩:=hP
   rw [show (0:Int)+(l:Int)=(l:Int) from Int.zero_add _]
   have ej:(j:Int) - 1=((j - 1:Nat):Int):=by omega
   refine a0L ⟨_,rfl,r,dx,_,rfl,s5 _ _ ho,rfl,_,rfl,_,rfl,_,rfl,_,rfl,_,_,rfl,rfl,r,p,ps,ws,X,h,t,l,i,j,j - 1,(by show V.ref r :: ([V.int (l:Int),V.int (i:Int),V.int (j:Int),V.int ((j:Int) - 1)]++[])=_;rw [ej];rfl),pa.same s5,w20,hl,by omega,by omega,hj,fun H6 s6=>⟨_,s6 _ _ hd',?_,a0y hd (s5.trans s6),?_⟩⟩
   ·rw [List.length_map,List.length_map,List.length_range];exact a0u (by omega)
   ·rw [a0d,List.range_succ,List.map_append,List.map_append];rfl
  ·obtain ⟨s5,hd'⟩:=hP
   exact ⟨d,_,rfl,hd',by rw [List.length_map,List.length_range];omega,fun H6 s6=>q H6 (s5.trans s6)⟩
end
def Wt (ws:List Int) (i j:Nat):Int:=(ws.take j).sum - (ws.take i).sum
abbrev pl (ps:List Int) (l:Nat):Int:=ps.getD l 0
def Bw (ns:List Int):Prop:=∀ x∈ns,0≤x∧x≤B30
theorem sum_bd {ns:List Int} (h:Bw ns):0≤ns.sum∧ns.sum≤ns.length * B30:=by
 induction ns with
 | nil=>simp
 | cons a t ih =>
  have h1:=h a (.head _)
  have h2:=ih fun x hx=>h x (.tail _ hx)
  rw [List.sum_cons,List.length_cons]
  have e:(((t.length+1:Nat):Int)) * B30=t.length * B30+B30:=by push_cast;rw [Int.add_mul];omega
  rw [e]
  omega
theorem Wt_is {ws:List Int} {i j:Nat} (h:i≤j):Wt ws i j=((ws.take j).drop i).sum:=by
 have e:ws.take j=ws.take i++(ws.take j).drop i:=by
  have:=(List.take_append_drop i (ws.take j)).symm
  rw [List.take_take,Nat.min_eq_left h] at this
  exact this
 unfold Wt
 have e2:(ws.take j).sum=(ws.take i).sum+((ws.take j).drop i).sum:=by rw [←List.sum_append,←e]
 omega
theorem Wt_bd {ws:List Int} {i j:Nat} (h:i≤j) (b:Bw ws) (l:ws.length≤20):0≤Wt ws i j∧Wt ws i j≤20 * B30:=by
 rw [Wt_is h]
 have b2:Bw ((ws.take j).drop i):=fun x hx=>b x (List.mem_of_mem_take (List.mem_of_mem_drop hx))
 have:=sum_bd b2
 have l2:((ws.take j).drop i).length≤20:=by rw [List.length_drop,List.length_take];omega
 refine ⟨this.1,Int.le_trans this.2 ?_⟩
 exact Int.mul_le_mul_of_nonneg_right (by omega) (by decide)
theorem a1W {h1 h2 t1 t2:Nat→Nat→Nat→OI} {l i j k:Nat} (eh:∀ b,i < b→b≤k→h1 l i b=h2 l i b) (et:∀ a,i < a→a≤k→t1 (l+1) a j=t2 (l+1) a j):lsum h1 t1 l i j k=lsum h2 t2 l i j k:=by
 show lo _=lo _
 congr 1
 refine List.map_congr_left fun b hb=>?_
 have:=List.mem_range.mp hb
 rw [eh _ (by omega) (by omega),et _ (by omega) (by omega)]
structure Put (ps ws:List Int) (h t h' t':Nat→Nat→Nat→OI) (i j:Nat) (fl:OI) (m:Nat):Prop where
 oh:∀ l a b,¬ (a=i∧b=j)→h' l a b=h l a b
 ot:∀ l a b,¬ (a=i∧b=j)→t' l a b=t l a b
 oe:t' ps.length i j=t ps.length i j
 eh:∀ l,ps.length - m≤l→l < ps.length→h' l i j=oadd (some (pl ps l * Wt ws i j)) fl
 et:∀ l,ps.length - m≤l→l < ps.length→t' l i j=lo [lsum h' t' l i j j,t' (l+1) i j]
theorem Put.step {ps ws:List Int} {h t h' t':Nat→Nat→Nat→OI} {i j:Nat} {fl:OI} {m l:Nat} (u:Put ps ws h t h' t' i j fl m) (hm:m < ps.length) (el:l=ps.length - 1 - m) :
  Put ps ws h t (up3 h' l i j (oadd (some (pl ps l * Wt ws i j)) fl)) (up3 t' l i j (lo [lsum (up3 h' l i j (oadd (some (pl ps l * Wt ws i j)) fl)) t' l i j j,t' (l+1) i j])) i j fl (m+1):=by
 generalize ev:oadd (some (pl ps l * Wt ws i j)) fl=v
 have hT:∀ l',l'≠l→∀ v2 a b,up3 t' l i j v2 l' a b=t' l' a b:=fun l' hne v2 a b=>a3S fun z=>hne z.1
 have hH:∀ l',l'≠l→∀ a b,up3 h' l i j v l' a b=h' l' a b:=fun l' hne a b=>a3S fun z=>hne z.1
 generalize ev2:lo [lsum (up3 h' l i j v) t' l i j j,t' (l+1) i j]=v2
 refine ⟨fun l' a b z=>?_,fun l' a b z=>?_,?_,fun l' h1 h2=>?_,fun l' h1 h2=>?_⟩
 ·rw [a3S fun y=>z ⟨y.2.1,y.2.2⟩];exact u.oh l' a b z
 ·rw [a3S fun y=>z ⟨y.2.1,y.2.2⟩];exact u.ot l' a b z
 ·rw [hT _ (by omega)];exact u.oe
 ·by_cases e:l'=l
  ·subst e;rw [a8b];exact ev.symm
  ·rw [hH l' e];exact u.eh l' (by omega) h2
 ·by_cases e:l'=l
  ·subst e
   rw [a8b,←ev2,hT (l'+1) (by omega)]
   congr 2
   exact a1W (fun _ _ _=>rfl) fun a _ _=>(hT (l'+1) (by omega) _ a j).symm
  ·rw [hT l' e,u.et l' (by omega) h2,hT (l'+1) (by omega)]
   congr 2
   exact a1W (fun b _ _=>(hH l' e i b).symm) fun a _ _=>(hT (l'+1) (by omega) v2 a j).symm
section
variable {P:Program} {w:World} {K:PySem.W.Frag} {mg:Str→Option Value} {base:Heap} {f:Addr} {fd:FuncData}
abbrev NPt:List Str:=["self","first","end","floor","weight","letter","with_letter"]
def a9T (C:Addr):Sp:=fun vs H Q _=>∃ (r p:Addr) (ps ws:List Int) (X:Ad) (h t:Nat→Nat→Nat→OI) (i j:Nat) (fl:OI),vs=[.ref r,.int (i:Int),.int (j:Int),oV fl]∧PAt C H r p ps ws X h t∧ws.length≤20∧1≤ps.length∧ps.length≤10∧Bw ps∧Bw ws∧i < j∧j≤ws.length ∧
 ∀ H' h' t',KZ X ps.length (ws.length+1) H H'→PAt C H' r p ps ws X h' t'→Put ps ws h t h' t' i j fl ps.length→Q .non H'
theorem a9U:a0r NPt ["self","first","end","floor"] (a0b b2S):=⟨rfl,rfl,rfl,by decide +kernel,rfl,by decide +kernel,by decide +kernel⟩
theorem a8c {ws:List Int} {k:Nat} (h:k≤ws.length):atI ((sums ws ws.length).map V.int) (k:Int)=some (.int (ws.take k).sum):=by
 unfold sums
 rw [List.map_map]
 exact a0D (f:=fun i=>V.int (ws.take i).sum) (by omega)
theorem at_pl {ps:List Int} {l:Nat} (h:l < ps.length):atI (ps.map V.int) (l:Int)=some (.int (pl ps l)):=by
 rw [a1M (List.getElem?_eq_getElem h)]
 unfold pl
 rw [List.getD_eq_getElem?_getD,List.getElem?_eq_getElem h]
 rfl
theorem pl_bd {ps:List Int} (b:Bw ps) (l:Nat):0≤pl ps l∧pl ps l≤B30:=by
 unfold pl
 rw [List.getD_eq_getElem?_getD]
 cases e:ps[l]? with
 | none=>exact ⟨by show (0:Int)≤0;omega,by show (0:Int)≤B30;decide⟩
 | some x=>exact b x (List.mem_of_getElem? e)
theorem ok_put {C:Addr} (F:Fun K "put" "Parted.put" b2S f fd) (GL:Fns P w K mg base ["numbers"] "least" a3y 2) (GA:Fns P w K mg base ["one","other"] "added" a3z 2) (M:Mt P w K mg base C "least_sum" ["self","letter","first","end","last"] (spLs C) 2) (rc:PC K C) (ml:mg "len"=none) (mr:mg "range"=none):a0W P w K mg base CX0 3 f fd ["self","first","end","floor"] (a9T C):=by
 refine F.ok (k:=2) a9U (fun vs H Q E h=>?_) (fun cdv A outer s H vs Q E hr h=>?_)
 ·obtain ⟨r,p,ps,ws,X,h,t,i,j,fl,rfl,_⟩:=h
  rfl
 obtain ⟨r,p,ps,ws,X,h,t,i,j,fl,rfl,pa,w20,p1,p10,bp,bw,hij,hj,q⟩:=h
 refine ⟨_,a0e (a0x (i:=4) a9U.nd rfl (Or.inl rfl) (a0t a1c (a0v a0n (a1l (pv 0) rfl) (pv 2) (fun _ _=>rfl)) (a0v a0n (a1l (pv 0) rfl) (pv 1) (fun _ _=>rfl))))
  (a0g (a1k PassesOwn.never rfl (a3i (by rfl) mr (a0a (a0t a1c (a0s a0j (by rfl) ml PySem.boot_len (a0a (a1l (pv 0) rfl) a0c)) a0f) (a0a (a2m a1v a0f) (a0a (a2m a1v a0f) a0c)))) (a0H (i:=5) a9U.nd rfl (Or.inl rfl))
   (a0e (a3b (a0k GA.ok hr (by rfl) GA.m GA.kp GA.b .nil a0A (a0a (a0t a7I (a0v a0Q (a1l (pv 0) rfl) (pv 5) (fun _ _=>rfl)) (pv 4)) (a0a (pv 3) a0c))) (a4G (a0v a0n (a0v a0n (a1l (pv 0) rfl) (pv 5) (fun _ _=>rfl)) (pv 1) (fun _ _=>rfl)) (pv 2) a2o))
   (a0e (a0x (i:=6) a9U.nd rfl (Or.inl rfl) (a1D (pv 0) rc.c M.m M.ok hr M.b .nil a0A (a0a (pv 5) (a0a (pv 1) (a0a (pv 2) (a0a (pv 2) a0c))))))
   (a0g (a3b (a0k GL.ok hr (by rfl) GL.m GL.kp GL.b .nil a0A (a0a (a1q (a0a (pv 6) (a0a (a0v a0n (a0v a0n (a0v a0n (a1l (pv 0) rfl) (a0t a0F (pv 5) a0f) (fun _ _=>rfl)) (pv 1) (fun _ _=>rfl)) (pv 2) (fun _ _=>rfl)) a0c))) a0c)) (a4G (a0v a0n (a0v a0n (a1l (pv 0) rfl) (pv 5) (fun _ _=>rfl)) (pv 1) (fun _ _=>rfl)) (pv 2) a2o))))))),?_⟩
 obtain ⟨dx,ho⟩:=pa.ob
 refine ⟨_,rfl,r,C,dx,_,_,rfl,ho,rc.c,rc.ns,rfl,_,rfl,X.su,_,_,_,rfl,rfl,SqL.of pa.su,a8c hj,_,rfl,r,C,dx,_,_,rfl,ho,rc.c,rc.ns,rfl,_,rfl,X.su,_,_,_,rfl,rfl,SqL.of pa.su,a8c (k:=i) (by omega),_,_,rfl,rfl,?_⟩
 have eW:(fun (x y:Int)=>V.int (x - y)) (ws.take j).sum (ws.take i).sum=.int (Wt ws i j):=rfl
 dsimp only at eW ⊢
 rw [eW]
 have wb:=Wt_bd (Nat.le_of_lt hij) bw w20
 refine ⟨_,rfl,r,C,dx,_,_,rfl,ho,rc.c,rc.np,rfl,p,_,rfl,.inr (SqT.of pa.hp),_,_,rfl,rfl,_,rfl,_,rfl,_,rfl,⟨by rw [List.length_map];omega,by rw [List.length_map];omega⟩,?_⟩
 rw [List.length_map,show ((ps.length:Int) - 1+1).toNat=ps.length by omega]
 have i1:i < ws.length+1:=by omega
 have j1:j < ws.length+1:=by omega
 refine a2C (fun m σ H'=>KZ X ps.length (ws.length+1) H H'∧(∃ h' t',PAt C H' r p ps ws X h' t'∧Put ps ws h t h' t' i j fl m)∧∃ x5 x6:Option V,σ=[some (.ref r),some (.int (i:Int)),some (.int (j:Int)),some (oV fl),some (.int (Wt ws i j)),x5,x6])
  ⟨fun _ _ _ e=>e,⟨h,t,pa,fun _ _ _ _=>rfl,fun _ _ _ _=>rfl,rfl,fun l a b=>by omega,fun l a b=>by omega⟩,_,_,rfl⟩ (fun m σ H1 hm hP=>?_) (fun σ H1 hP=>?_)
 ·obtain ⟨k1,⟨h',t',pa1,u⟩,x5,x6,rfl⟩:=hP
  obtain ⟨l,el⟩:∃ l,l=ps.length - 1 - m:=⟨_,rfl⟩
  have ev:(ps.length:Int) - 1+(m:Int) * (-1)=(l:Int):=by omega
  rw [ev]
  have hl:l < ps.length:=by omega
  obtain ⟨dx1,ho1⟩:=pa1.ob
  have pb:=pl_bd bp l
  refine ⟨_,rfl,r,C,dx1,_,_,rfl,ho1,rc.c,rc.np,rfl,_,rfl,p,_,_,_,rfl,rfl,SqT.of pa1.hp,at_pl hl,_,rfl,_,_,rfl,rfl,⟨⟨pb.1,by unfold B30 at *;omega⟩,⟨wb.1,by unfold B30 at *;omega⟩⟩,_,rfl,some (pl ps l * Wt ws i j),fl,rfl,?_⟩
  refine ⟨_,rfl,r,C,dx1,_,_,rfl,ho1,rc.c,rc.nh,rfl,_,rfl,X.th,_,_,_,rfl,rfl,SqL.of pa1.hd.o,a0D hl,_,rfl,X.bh l,_,_,_,rfl,rfl,SqL.of (pa1.hd.b l hl),a0D i1,_,rfl,X.ch l i,_,_,j,rfl,rfl,pa1.hd.c l i hl i1,(by rw [List.length_map,List.length_range];exact a3x j1),?_⟩
  have pa2:=pa1.puth (v:=oadd (some (pl ps l * Wt ws i j)) fl) hl i1 j1
  have k2:KZ X ps.length (ws.length+1) H (upd H1 (X.ch l i) (.lst (((List.range (ws.length+1)).map fun k=>oV (h' l i k)).set j (oV (oadd (some (pl ps l * Wt ws i j)) fl))))):=fun a o hz e=>by
   rw [a0i (fun z=>hz (.inl ⟨l,i,hl,i1,z⟩))]
   exact k1 a o hz e
  generalize upd H1 (X.ch l i) (.lst (((List.range (ws.length+1)).map fun k=>oV (h' l i k)).set j (oV (oadd (some (pl ps l * Wt ws i j)) fl))))=H2 at pa2 k2 ⊢
  obtain ⟨dx2,ho2⟩:=pa2.ob
  refine ⟨_,rfl,r,dx2,_,rfl,ho2,rfl,_,rfl,_,rfl,_,rfl,_,rfl,r,p,ps,ws,X,_,t',l,i,j,j,rfl,pa2,w20,hl,by omega,hj,hj,fun H3 s3=>?_⟩
  have pa3:=pa2.same s3
  have k3:KZ X ps.length (ws.length+1) H H3:=fun a o hz e=>s3 _ _ (k2 a o hz e)
  obtain ⟨dx3,ho3⟩:=pa3.ob
  have l1:l+1 < ps.length+1:=by omega
  refine ⟨_,rfl,_,rfl,r,C,dx3,_,_,rfl,ho3,rc.c,rc.nt,rfl,_,rfl,_,_,rfl,rfl,X.tt,_,_,_,rfl,rfl,SqL.of pa3.tl.o,a0D l1,_,rfl,X.bt (l+1),_,_,_,rfl,rfl,SqL.of (pa3.tl.b _ l1),a0D i1,_,rfl,X.ct (l+1) i,_,_,_,rfl,rfl,SqL.of (pa3.tl.c _ i l1 i1),a0D j1,(by show 2≤sizeLine;decide),fun e1 he1=>?_⟩
  have s4:=a0h he1 (.lst [oV (lsum (up3 h' l i j (oadd (some (pl ps l * Wt ws i j)) fl)) t' l i j j),oV (t' (l+1) i j)])
  have g4:upd H3 e1 (.lst [oV (lsum (up3 h' l i j (oadd (some (pl ps l * Wt ws i j)) fl)) t' l i j j),oV (t' (l+1) i j)]) e1=some (.lst (([lsum (up3 h' l i j (oadd (some (pl ps l * Wt ws i j)) fl)) t' l i j j,t' (l+1) i j]:List OI).map oV)):=a0d
  generalize upd H3 e1 (.lst [oV (lsum (up3 h' l i j (oadd (some (pl ps l * Wt ws i j)) fl)) t' l i j j),oV (t' (l+1) i j)])=H4 at s4 g4 ⊢
  refine ⟨e1,_,rfl,g4,by show 2≤100;decide,fun H5 s5=>?_⟩
  have pa5:=pa3.same (s4.trans s5)
  have k5:KZ X ps.length (ws.length+1) H H5:=fun a o hz e=>(s4.trans s5) _ _ (k3 a o hz e)
  obtain ⟨dx5,ho5⟩:=pa5.ob
  have l2:l < ps.length+1:=by omega
  refine ⟨_,rfl,r,C,dx5,_,_,rfl,ho5,rc.c,rc.nt,rfl,_,rfl,X.tt,_,_,_,rfl,rfl,SqL.of pa5.tl.o,a0D l2,_,rfl,X.bt l,_,_,_,rfl,rfl,SqL.of (pa5.tl.b _ l2),a0D i1,_,rfl,X.ct l i,_,_,j,rfl,rfl,pa5.tl.c l i l2 i1,(by rw [List.length_map,List.length_range];exact a3x j1),?_⟩
  refine ⟨fun a o hz e=>?_,⟨_,_,pa5.putt p1 l2 i1 j1,u.step hm el⟩,_,_,rfl⟩
  rw [a0i (fun z=>hz (.inr ⟨l,i,l2,i1,z⟩))]
  exact k5 a o hz e
 ·obtain ⟨k1,⟨h',t',pa1,u⟩,x5,x6,rfl⟩:=hP
  exact q H1 h' t' k1 pa1 u
end
def Dn (f e i j:Nat):Prop:=f < i∨(i=f∧j < e)
abbrev most (ps ws:List Int) (F:Nat→Nat→OI) (i j:Nat):OI:=lo (((P ps.length 0 i j).filter fun r=>decide (1 < r.length)).map fun r=>cost (pl ps) (Wt ws) F r)
def bdO (ps ws:List Int) (F:Nat→Nat→OI) (i j:Nat):OI:=if j - i=1 then some 0 else most ps ws F i j
theorem a4X {L:Nat} {h t h' t':Nat→Nat→Nat→OI} {i j:Nat} (hij:i < j) (eh:∀ l b,i < b→b < j→h' l i b=h l i b) (et:∀ l a,i < a→a < j→t' l a j=t l a j):bnd L h' t' i j=bnd L h t i j:=by
 unfold bnd
 split
 ·rfl
 ·congr 1
  refine List.map_congr_left fun l _=>?_
  exact a1W (k:=j - 1) (fun b h1 h2=>eh l b h1 (by omega)) fun a h1 h2=>et (l+1) a h1 (by omega)
theorem a3T {ps ws:List Int} {F G:Nat→Nat→OI}:∀ {r:Pa},(∀ q∈r,F q.1 q.2.1=G q.1 q.2.1)→cost (pl ps) (Wt ws) F r=cost (pl ps) (Wt ws) G r
 | [],_=>rfl
 | q :: r,h=>by
  show oadd (oadd _ (F q.1 q.2.1)) (cost (pl ps) (Wt ws) F r)=oadd (oadd _ (G q.1 q.2.1)) (cost (pl ps) (Wt ws) G r)
  rw [h q (.head _),a3T fun x hx=>h x (.tail _ hx)]
theorem a6R {ps ws:List Int} {F G:Nat→Nat→OI} {i j:Nat} (hij:i < j) (h:∀ a b,a < b→i≤a→b≤j→b - a < j - i→F a b=G a b):most ps ws F i j=most ps ws G i j:=by
 show lo _=lo _
 congr 1
 refine List.map_congr_left fun r hr=>?_
 refine a3T fun q hq=>?_
 have:=a1U hij r hr q hq
 exact h _ _ this.2.1 this.1 this.2.2.1 this.2.2.2.1
theorem a8d {ps ws:List Int} {i j:Nat}:most ps ws (fun _ _=>none) i j=none:=by
 refine a1i.mpr fun k hk=>?_
 obtain ⟨r,hr,e⟩:=List.mem_map.mp hk
 have l:=of_decide_eq_true (List.mem_filter.mp hr).2
 cases r with
 | nil=>cases l
 | cons q r=>cases e
section
variable {P:Program} {w:World} {K:PySem.W.Frag} {mg:Str→Option Value} {base:Heap} {f:Addr} {fd:FuncData}
def a8e (C:Addr):Sp:=fun vs H Q _=>∃ (r p:Addr) (ps ws:List Int) (X:Ad) (h t:Nat→Nat→Nat→OI) (i:Nat),vs=[.ref r,.int (i:Int)]∧PAt C H r p ps ws X h t∧ws.length≤20∧ps.length≤10∧i < ws.length ∧
 ∀ (a:Addr) H',a0C H H'→H a=none→H' a=some (.lst ((List.range (ws.length - i)).map fun b=>oV (bnd ps.length h t i (i+b+1))))→Q (.ref a) H'
theorem scBrow:a0r ["self","first"] ["self","first"] (a0b a5w):=⟨rfl,rfl,rfl,by decide +kernel,rfl,by decide +kernel,by decide +kernel⟩
theorem ndBr:(("end":Str) :: ["self","first"]).Nodup:=by decide +kernel
theorem b2h {C:Addr} (F:Fun K "bound_row" "Parted.bound_row" a5w f fd) (M:Mt P w K mg base C "bound" ["self","first","end"] (a4k C) 3) (rc:PC K C) (mr:mg "range"=none):a0W P w K mg base CX0 4 f fd ["self","first"] (a8e C):=by
 refine F.ok (k:=3) scBrow (fun vs H Q E h=>?_) (fun cdv A outer s H vs Q E hr h=>?_)
 ·obtain ⟨r,p,ps,ws,X,h,t,i,rfl,_⟩:=h
  rfl
 obtain ⟨r,p,ps,ws,X,h,t,i,rfl,pa,w20,p10,hi,q⟩:=h
 refine ⟨_,a0g (a0q (a4S (M:=["self","first"]) rfl (a0l.of (a0b a5w) ["self","first"] rfl rfl rfl (by decide +kernel) (by decide +kernel) (by decide +kernel) rfl (by decide +kernel)) ndBr rfl (by rfl) mr (a0a (a0t a0F (pv 1) a0f) (a0a (a0t a0F (a1l (pv 0) rfl) a0f) a0c)) (a0Z (a6E a3N a0X b2O) (a0Z (a6E a3N (a8a a0X) b2O) a1B))
   (fun cl C s0 H0 fp=>⟨a0P,a1D (pv 1) rc.c M.m M.ok hr M.b .nil a0A (a0a (pv 2) (a0a (pv 0) a0c))⟩))),?_⟩
 obtain ⟨dx,ho⟩:=pa.ob
 refine ⟨_,rfl,_,_,rfl,rfl,_,rfl,r,C,dx,_,_,rfl,ho,rc.c,rc.nn,rfl,_,_,rfl,rfl,_,_,rfl,⟨by omega,by omega,by omega,by omega⟩,fun d hd=>?_⟩
 have en:(((ws.length:Int)+1) - ((i:Int)+1)).toNat=ws.length - i:=by omega
 dsimp only
 rw [en]
 refine ⟨fun b H'=>a0C H H'∧H' d=some (.lst ((List.range b).map fun b=>oV (bnd ps.length h t i (i+b+1)))),⟨a0h hd _,a0d⟩,fun b H' hb hP=>?_,fun H' hP=>?_⟩
 ·obtain ⟨s5,hd'⟩:=hP
  have eb:(i:Int)+1+(b:Int)=((i+b+1:Nat):Int):=by push_cast;omega
  rw [eb]
  refine a0L ⟨_,rfl,r,dx,_,rfl,s5 _ _ ho,rfl,_,rfl,_,rfl,r,p,ps,ws,X,h,t,i,i+b+1,rfl,pa.same s5,w20,p10,by omega,by omega,fun H6 s6=>⟨_,s6 _ _ hd',?_,a0y hd (s5.trans s6),?_⟩⟩
  ·rw [List.length_map,List.length_range];exact a0u (by omega)
  ·rw [a0d,List.range_succ,List.map_append];rfl
 ·obtain ⟨s5,hd'⟩:=hP
  exact q d H' s5 hd hd'
def a2u (C:Addr):Sp:=fun vs H Q _=>∃ (r p:Addr) (ps ws:List Int) (X:Ad) (h t:Nat→Nat→Nat→OI),vs=[.ref r]∧PAt C H r p ps ws X h t∧ws.length≤20∧ps.length≤10 ∧
 ∀ (d:Addr) (ra:Nat→Addr) H',a0C H H'→H d=none→(∀ i,i < ws.length→H (ra i)=none)→(∀ i j,i < ws.length→j < ws.length→ra i=ra j→i=j)→(∀ i,i < ws.length→ra i≠d) →
  H' d=some (.lst ((List.range ws.length).map fun i=>.ref (ra i)))→(∀ i,i < ws.length→H' (ra i)=some (.lst ((List.range (ws.length - i)).map fun b=>oV (bnd ps.length h t i (i+b+1)))))→Q (.ref d) H'
theorem a9V:a0r ["self"] ["self"] (a0b a2g):=⟨rfl,rfl,rfl,by decide +kernel,rfl,by decide +kernel,by decide +kernel⟩
theorem ndBs:(("first":Str) :: ["self"]).Nodup:=by decide +kernel
theorem a8f {C:Addr} (F:Fun K "bounds" "Parted.bounds" a2g f fd) (M:Mt P w K mg base C "bound_row" ["self","first"] (a8e C) 4) (rc:PC K C) (mr:mg "range"=none):a0W P w K mg base CX0 5 f fd ["self"] (a2u C):=by
 refine F.ok (k:=4) a9V (fun vs H Q E h=>?_) (fun cdv A outer s H vs Q E hr h=>?_)
 ·obtain ⟨r,p,ps,ws,X,h,t,rfl,_⟩:=h
  rfl
 obtain ⟨r,p,ps,ws,X,h,t,rfl,pa,w20,p10,qq⟩:=h
 refine ⟨_,a0g (a0q (a1r (M:=["self"]) rfl (a0l.of (a0b a2g) ["self"] rfl rfl rfl (by decide +kernel) (by decide +kernel) (by decide +kernel) rfl (by decide +kernel)) ndBs rfl (by rfl) mr (a0a (a1l (pv 0) rfl) a0c) (a0Z (a8a a0X) a1B)
   (fun cl C s0 H0 fp=>⟨a0P,a1D (pv 1) rc.c M.m M.ok hr M.b .nil a0A (a0a (pv 0) a0c)⟩))),?_⟩
 obtain ⟨dx,ho⟩:=pa.ob
 refine ⟨_,rfl,r,C,dx,_,_,rfl,ho,rc.c,rc.nn,rfl,_,rfl,by omega,by omega,fun d hd=>?_⟩
 rw [Int.toNat_natCast]
 refine ⟨fun i H'=>a0C H H'∧∃ ra:Nat→Addr,(∀ k,k < i→H (ra k)=none)∧(∀ j k,j < i→k < i→ra j=ra k→j=k)∧(∀ k,k < i→ra k≠d)∧H' d=some (.lst ((List.range i).map fun k=>.ref (ra k)))∧∀ k,k < i→H' (ra k)=some (.lst ((List.range (ws.length - k)).map fun b=>oV (bnd ps.length h t k (k+b+1)))),⟨a0h hd _,fun _=>d,fun k hk=>absurd hk (Nat.not_lt_zero _),fun j k hj=>absurd hj (Nat.not_lt_zero _),fun k hk=>absurd hk (Nat.not_lt_zero _),a0d,fun k hk=>absurd hk (Nat.not_lt_zero _)⟩,fun i H1 hi hP=>?_,fun H1 hP=>?_⟩
 ·obtain ⟨s1,ca,c1,c2,c3,c4,c5⟩:=hP
  rw [show (0:Int)+(i:Int)=(i:Int) from Int.zero_add _]
  refine a0L ⟨_,rfl,r,dx,_,rfl,s1 _ _ ho,rfl,_,rfl,r,p,ps,ws,X,h,t,i,rfl,pa.same s1,w20,p10,hi,fun a H2 s2 hp2 g2=>?_⟩
  have pd:a≠d:=fun z=>by rw [z,c4] at hp2;cases hp2
  have pk:∀ k,k < i→ca k≠a:=fun k hk z=>by rw [←z,c5 k hk] at hp2;cases hp2
  refine ⟨_,s2 _ _ c4,?_,a0y hd (s1.trans s2),ext ca i a,fun k hk=>?_,fun j k hj hk e=>?_,fun k hk=>?_,?_,fun k hk=>?_⟩
  ·rw [List.length_map,List.length_range];exact a0u (by omega)
  ·by_cases z:k=i
   ·rw [a0p z];exact s1.free hp2
   ·rw [a0w z];exact c1 k (by omega)
  ·by_cases z1:j=i <;> by_cases z2:k=i
   ·omega
   ·rw [a0p z1,a0w z2] at e
    exact absurd e.symm (pk k (by omega))
   ·rw [a0w z1,a0p z2] at e
    exact absurd e (pk j (by omega))
   ·rw [a0w z1,a0w z2] at e
    exact c2 j k (by omega) (by omega) e
  ·by_cases z:k=i
   ·rw [a0p z];exact pd
   ·rw [a0w z];exact c3 k (by omega)
  ·rw [a0d,List.range_succ,List.map_append]
   refine congrArg (fun z=>some (HO.lst z)) ?_
   congr 1
   ·refine List.map_congr_left fun k hk=>?_
    rw [a0w (by have:=List.mem_range.mp hk;omega)]
   ·show [V.ref a]=[V.ref (ext ca i a i)]
    rw [a0p rfl]
  ·by_cases z:k=i
   ·rw [a0p z,a0i pd,z];exact g2
   ·rw [a0w z,a0i (c3 k (by omega))];exact s2 _ _ (c5 k (by omega))
 ·obtain ⟨s1,ca,c1,c2,c3,c4,c5⟩:=hP
  exact qq d ca H1 s1 hd c1 c2 c3 c4 c5
structure Num (ps ws:List Int):Prop where
 p2:2≤ps.length
 p10:ps.length≤10
 w1:1≤ws.length
 w20:ws.length≤20
 bp:Bw ps
 bw:Bw ws
structure Cl (P:Program) (w:World) (K:PySem.W.Frag) (mg:Str→Option Value) (base:Heap) (C:Addr) where
 rc:PC K C
 g:mg "Parted"=some (.ref C)
 fi:Addr
 di:FuncData
 mkk:Mk K C fi
 oki:a0W P w K mg base CX0 3 fi di ["self","prices","weights"] (a7Y C)
 bi:a1z K di ["self","prices","weights"] []
abbrev NF:List Str:=["script","many","parts","k","at","stir"]
def a4l (K:PySem.W.Frag):Sp:=fun vs H Q _=>∃ (a:Addr) (ns:List Int) (m:Nat),vs=[.ref a,.int (m:Int)]∧SqL K H a (ns.map V.int)∧ns.length≤63∧1≤m∧m≤50∧∀ (p:Addr) (xs:List Int) H',a0C H H'→H' p=some (.lst (xs.map V.int))→xs.length=m→Q (.ref p) H'
theorem a1H:a0r NF ["script","many"] (a0b a2L):=⟨rfl,rfl,rfl,by decide +kernel,rfl,by decide +kernel,by decide +kernel⟩
theorem reps0 (n:Nat) (x:Int):(List.replicate n [V.int x]).flatten=(List.replicate n x).map V.int:=by
 induction n with
 | zero=>rfl
 | succ n ih=>rw [List.replicate_succ,List.flatten_cons,ih,List.replicate_succ];rfl
theorem a8g (F:Fun K "_law_folded" "_law_folded" a2L f fd) (ml:mg "len"=none) (mr:mg "range"=none) (ms:mg "sum"=none):a0W P w K mg base CX0 1 f fd ["script","many"] (a4l K):=by
 refine F.ok (k:=0) a1H (fun vs H Q E h=>?_) (fun cdv A outer s H vs Q E hr h=>?_)
 ·obtain ⟨a,ns,m,rfl,_⟩:=h
  rfl
 obtain ⟨a,ns,m,rfl,hS,h63,m1,m50,q⟩:=h
 refine ⟨_,a0e (a0x (i:=2) a1H.nd rfl (Or.inl rfl) (a0t a7r (a1q (a0a a0f a0c)) (pv 1)))
  (a0e (a1k PassesOwn.never rfl (a1j (by rfl) mr (a0a (a0s a0j (by rfl) ml PySem.boot_len (a0a (pv 0) a0c)) a0c)) (a0H (i:=3) a1H.nd rfl (Or.inl rfl))
   (a0e (a0x (i:=4) a1H.nd rfl (Or.inl rfl) (a0t a1p (pv 3) (pv 1)))
   (a0g (a3b (a0t a1p (a0t a0F (a0t a3J (a0v a0n (pv 2) (pv 4) (fun _ _=>rfl)) a0f) (a0v a0n (pv 0) (pv 3) (fun _ _=>rfl))) (a0t a0F (a0t a5K a0f a0f) a0f)) (a4G (pv 2) (pv 4) a2o)))))
  (a0e (a0x (i:=5) a1H.nd rfl (Or.inl rfl) (a0t a1p (a0s (a4f rfl) (by rfl) ms b1D (a0a (pv 2) a0c)) a0f))
  (a0e (a1k PassesOwn.never rfl (a1j (by rfl) mr (a0a (a0t a3J (pv 1) (a0t a1p (a0t a3Z (a0v a0n (pv 2) a0f (fun _ _=>rfl)) a0f) a0f)) a0c)) (a0H (i:=3) a1H.nd rfl (Or.inl rfl))
   (a0e (a0x (i:=5) a1H.nd rfl (Or.inl rfl) (a0t a1p (a0t a0F (a0t a0F (a0t a3J (pv 5) (pv 5)) (a0t a3J a0f (pv 3))) a0f) a0f))
   (a0g (a3b (a0t a1p (a0t a0F (a0v a0n (pv 2) (pv 3) (fun _ _=>rfl)) (a0t a3J (pv 5) (pv 5))) (a0t a0F (a0t a5K a0f a0f) a0f)) (a4G (pv 2) (pv 3) a2o)))))
  (a0g (a0q (pv 2)))))),?_⟩
 refine ⟨(by show 1≤sizeLine;decide),fun l0 hl0=>?_⟩
 have s1:=a0h hl0 (.lst [.int 0])
 have g1:upd H l0 (.lst [.int 0]) l0=some (.lst [.int 0]):=a0d
 generalize upd H l0 (.lst [.int 0])=H1 at s1 g1 ⊢
 refine ⟨_,rfl,l0,(m:Int),_,rfl,rfl,g1,by omega,by omega,by show 1 * _≤_;exact Nat.le_of_lt (a0u (by omega)),fun l hl=>?_⟩
 rw [reps0,Int.toNat_natCast]
 have s2:=a0h hl (.lst ((List.replicate m 0).map V.int))
 have g2:upd H1 l (.lst ((List.replicate m 0).map V.int)) l=some (.lst ((List.replicate m (0:Int)).map V.int)):=a0d
 generalize upd H1 l (.lst ((List.replicate m 0).map V.int))=H2 at s2 g2 ⊢
 have fl:H l=none:=s1.free hl
 have s02:=s1.trans s2
 refine ⟨_,rfl,a,_,rfl,.inl (s02.seq hS),_,rfl,by omega,by rw [List.length_map];omega,?_⟩
 refine a0T (fun i σ H'=>a0C H H'∧(∃ xs:List Int,H' l=some (.lst (xs.map V.int))∧xs.length=m)∧∃ x3 x4:Option V,σ=[some (.ref a),some (.int (m:Int)),some (.ref l),x3,x4,none])
  ⟨s02,⟨_,g2,List.length_replicate⟩,_,_,rfl⟩ (fun i σ H3 hi hP=>?_) (fun σ H3 hP=>?_)
 ·obtain ⟨s3,⟨xs,g3,lx⟩,x3,x4,rfl⟩:=hP
  rw [show (0:Int)+(i:Int)=(i:Int) from Int.zero_add _]
  have hi':i < ns.length:=by
   have:(ns.map V.int).length=ns.length:=List.length_map ..
   omega
  refine ⟨_,rfl,_,rfl,_,_,rfl,rfl,(by show (0:Int) < _;omega),?_⟩
  have em:(fun (x y:Int)=>V.int (x % y)) (i:Int) (m:Int)=.int ((i % m:Nat):Int):=rfl
  dsimp only at em ⊢
  rw [em]
  have hm:i % m < xs.length:=by rw [lx];exact Nat.mod_lt _ (by omega)
  refine ⟨_,rfl,_,rfl,l,_,_,_,rfl,rfl,SqL.of g3,a1M (List.getElem?_eq_getElem hm),_,_,rfl,rfl,.inr ⟨by decide,by decide⟩,_,rfl,_,rfl,a,_,_,_,rfl,rfl,s3.seq hS,a1M (List.getElem?_eq_getElem hi'),_,_,rfl,rfl,_,_,rfl,rfl,⟨by decide,by decide,by decide⟩,_,_,rfl,rfl,_,_,rfl,rfl,(by show (0:Int) < _;decide),?_⟩
  refine ⟨_,rfl,_,rfl,l,_,_,i % m,rfl,rfl,g3,(by rw [List.length_map];exact a3x hm),a0y fl s3,⟨xs.set (i % m) _,by rw [a0d,List.map_set],by rw [List.length_set];exact lx⟩,_,_,rfl⟩
 ·obtain ⟨s3,⟨xs,g3,lx⟩,x3,x4,rfl⟩:=hP
  refine ⟨_,rfl,l,xs,rfl,g3,_,_,rfl,rfl,(by show (0:Int) < _;decide),?_⟩
  have st0:0≤xs.sum % 2305843009213693951:=by omega
  have st1:xs.sum % 2305843009213693951 < 2305843009213693951:=by omega
  dsimp only
  generalize xs.sum % 2305843009213693951=st at st0 st1 ⊢
  have h0:xs[0]?=some (xs[0]'(by omega)):=List.getElem?_eq_getElem _
  generalize xs[0]'(by omega)=x0 at h0
  refine ⟨_,rfl,_,rfl,l,_,_,_,rfl,rfl,SqL.of g3,a1M (k:=0) h0,_,_,rfl,rfl,⟨by decide,by decide⟩,_,_,rfl,rfl,(by show (0:Int) < _;decide),_,_,rfl,rfl,.inl ⟨by omega,by omega⟩,?_⟩
  have b0:0≤x0 / 3 % 2:=by omega
  have b1:x0 / 3 % 2≤1:=by omega
  dsimp only
  generalize x0 / 3 % 2=bit at b0 b1 ⊢
  have c0:0≤(m:Int) * bit:=Int.mul_nonneg (by omega) b0
  have c1:(m:Int) * bit≤m:=by
   have:=Int.mul_le_mul_of_nonneg_left b1 (show (0:Int)≤m by omega)
   omega
  refine ⟨_,rfl,by omega,by omega,?_⟩
  rw [show ([some (V.ref a),some (V.int (m:Int)),some (V.ref l),x3,x4,none]:St).set 5 (some (V.int st))=[some (V.ref a),some (V.int (m:Int)),some (V.ref l),x3,x4,some (V.int st)] from rfl]
  refine a0T (lo:=0) (n:=((m:Int) * bit).toNat) (D:={ nx:=tRet (tVar 2) { nx:=fun x H'=>Q V.non H',rt:=Q },rt:=Q }) (fun i σ H'=>a0C H H'∧(∃ xs:List Int,H' l=some (.lst (xs.map V.int))∧xs.length=m)∧∃ (x3:Option V) (st:Int),0≤st∧st < 2305843009213693951∧σ=[some (.ref a),some (.int (m:Int)),some (.ref l),x3,x4,some (.int st)])
   ⟨s3,⟨xs,g3,lx⟩,x3,st,st0,st1,rfl⟩ (fun i σ H4 hi hP=>?_) (fun σ H4 hP=>?_)
  ·obtain ⟨s4,⟨ys,g4,ly⟩,x3',st',st0',st1',rfl⟩:=hP
   rw [show (0:Int)+(i:Int)=(i:Int) from Int.zero_add _]
   have hi':i < ys.length:=by omega
   refine ⟨_,rfl,_,rfl,_,_,rfl,rfl,.inl ⟨by omega,by omega⟩,_,rfl,_,_,rfl,rfl,.inl ⟨by decide,by decide⟩,_,_,rfl,rfl,_,_,rfl,rfl,_,_,rfl,rfl,(by show (0:Int) < _;decide),?_⟩
   dsimp only
   have d0:0≤(st' * st'+7919 * (i:Int)+31) % 2305843009213693951:=by omega
   have d1:(st' * st'+7919 * (i:Int)+31) % 2305843009213693951 < 2305843009213693951:=by omega
   generalize (st' * st'+7919 * (i:Int)+31) % 2305843009213693951=s' at d0 d1 ⊢
   refine ⟨_,rfl,_,rfl,l,_,_,_,rfl,rfl,SqL.of g4,a1M (List.getElem?_eq_getElem hi'),_,rfl,_,rfl,_,_,rfl,rfl,.inl ⟨by omega,by omega⟩,_,_,rfl,rfl,_,_,rfl,rfl,⟨by decide,by decide,by decide⟩,_,_,rfl,rfl,_,_,rfl,rfl,(by show (0:Int) < _;decide),?_⟩
   refine ⟨_,rfl,_,rfl,l,_,_,i,rfl,rfl,g4,(by rw [List.length_map];exact a3x hi'),a0y fl s4,⟨ys.set i _,by rw [a0d,List.map_set],by rw [List.length_set];exact ly⟩,_,s',d0,d1,rfl⟩
  ·obtain ⟨s4,⟨ys,g4,ly⟩,x3',st',st0',st1',rfl⟩:=hP
   exact ⟨_,rfl,q l ys H4 s4 g4 ly⟩
def a4m:Sp:=fun vs H Q _=>∃ c m:Int,vs=[.int c,.int m]∧∀ v,1≤v→v≤B30→Q (.int v) H
theorem a9W:a0r ["cell","manner"] ["cell","manner"] (a0b a2M):=⟨rfl,rfl,rfl,by decide +kernel,rfl,by decide +kernel,by decide +kernel⟩
theorem a8h (F:Fun K "_law_number" "_law_number" a2M f fd):a0W P w K mg base CX0 1 f fd ["cell","manner"] a4m:=by
 refine F.ok (k:=0) a9W (fun vs H Q E h=>?_) (fun cdv A outer s H vs Q E hr h=>?_)
 ·obtain ⟨c,m,rfl,_⟩:=h
  rfl
 obtain ⟨c,m,rfl,q⟩:=h
 refine ⟨_,a0e (a0Y (a0G a3E (pv 1) a0f (nomark _)) (a0g (a0q (a0t a0F a0f (a0t a1p (pv 0) a0f)))) a0B)
  (a0e (a0Y (a0G a3E (pv 1) a0f (nomark _)) (a0g (a0q (a0t a0F a0f (a0t a1p (pv 0) a0f)))) a0B)
  (a0e (a0Y (a0G a3E (pv 1) a0f (nomark _)) (a0g (a0q (a0t a0F a0f (a0t a1p (pv 0) (a0t a5K a0f a0f))))) a0B)
  (a0g (a0q (a0t a1c (a0t a5K a0f a0f) (a0t a1p (pv 0) a0f)))))),?_⟩
 refine ⟨_,rfl,rfl,_,rfl,?_⟩
 refine a2T (fun _=>⟨_,rfl,_,_,rfl,rfl,(by show (0:Int) < _;decide),_,_,rfl,rfl,q _ (by omega) (by unfold B30;omega)⟩) (fun _=>?_)
 refine ⟨_,rfl,rfl,_,rfl,?_⟩
 refine a2T (fun _=>⟨_,rfl,_,_,rfl,rfl,(by show (0:Int) < _;decide),_,_,rfl,rfl,q _ (by omega) (by unfold B30;omega)⟩) (fun _=>?_)
 refine ⟨_,rfl,rfl,_,rfl,?_⟩
 refine a2T (fun _=>⟨_,rfl,_,_,rfl,rfl,⟨by decide,by decide,by decide⟩,_,_,rfl,rfl,(by show (0:Int) < _;decide),_,_,rfl,rfl,q _ (by rw [e30];unfold B30;omega) (by rw [e30];unfold B30;omega)⟩) (fun _=>?_)
 exact ⟨_,_,rfl,rfl,⟨by decide,by decide,by decide⟩,_,rfl,_,_,rfl,rfl,(by show (0:Int) < _;decide),_,_,rfl,rfl,q _ (by rw [e30];unfold B30;omega) (by rw [e30];unfold B30;omega)⟩
abbrev NN:List Str:=["parts","at","many","turn"]
theorem a8i:a0r NN ["parts","at","many","turn"] (a0b a1G):=⟨rfl,rfl,rfl,by decide +kernel,rfl,by decide +kernel,by decide +kernel⟩
theorem ndN:(("k":Str) :: NN).Nodup:=by decide +kernel
end
theorem b2i:∀ m l i j,∀ r∈P m l i j,r.length≤m
 | 0,l,i,j,r,hr=>by
  unfold P at hr
  split at hr
  ·rw [List.mem_singleton.mp hr];exact Nat.le_refl _
  ·cases hr
 | m+1,l,i,j,r,hr=>by
  rw [a1N] at hr
  split at hr
  ·rw [List.mem_singleton.mp hr];exact Nat.zero_le _
  ·rcases List.mem_append.mp hr with z | z
   ·obtain ⟨b,hb,z⟩:=List.mem_flatMap.mp z
    obtain ⟨r',hr',rfl⟩:=List.mem_map.mp z
    have:=b2i m (l+1) (i+b+1) j r' hr'
    rw [List.length_cons]
    omega
   ·have:=b2i m (l+1) i j r z
    omega
theorem a8j {X:Cx} {st:Stmt}:PS X st (fun _ _ _=>False):=fun _ _ _ _ _ _ h=>h.elim
abbrev a6b (F:Nat→Nat→OI) (n i:Nat):List OI:=(List.range (n - i)).map fun b=>F i (i+b+1)
structure FlO (H:Hp) (d:Addr) (ra:Nat→Addr) (n:Nat) (F:Nat→Nat→OI):Prop where
 o:H d=some (.lst ((List.range n).map fun i=>.ref (ra i)))
 r:∀ i,i < n→H (ra i)=some (.lst ((a6b F n i).map oV))
theorem FlO.same {H H':Hp} {d:Addr} {ra:Nat→Addr} {n:Nat} {F:Nat→Nat→OI} (h:FlO H d ra n F) (s:a0C H H'):FlO H' d ra n F:=⟨s _ _ h.o,fun i hi=>s _ _ (h.r i hi)⟩
theorem at_O {n i j:Nat} {F:Nat→Nat→OI} (hij:i < j) (hj:j≤n):atI ((a6b F n i).map oV) ((j - i - 1:Nat):Int)=some (oV (F i j)):=by
 rw [List.map_map]
 have:=a0D (f:=fun b=>oV (F i (i+b+1))) (n:=n - i) (k:=j - i - 1) (by omega)
 rw [show i+(j - i - 1)+1=j by omega] at this
 exact this
theorem at_O' {n i k:Nat} {F:Nat→Nat→OI} (hk:k < n - i):atI ((a6b F n i).map oV) (k:Int)=some (oV (F i (i+k+1))):=by
 rw [List.map_map]
 exact a0D (f:=fun b=>oV (F i (i+b+1))) hk
structure Fin (ps ws:List Int) (h t:Nat→Nat→Nat→OI) (F:Nat→Nat→OI) (pr:Nat→Nat→Prop):Prop where
 dg:∀ l i,l≤ps.length→i≤ws.length→t l i i=some 0
 ed:∀ i j,i < j→j≤ws.length→t ps.length i j=none
 eq:∀ i j,i < j→j≤ws.length→pr i j→Eqs (pl ps) (Wt ws) F ps.length h t i j
theorem Fin.weak {ps ws:List Int} {h t:Nat→Nat→Nat→OI} {F:Nat→Nat→OI} {pr pr':Nat→Nat→Prop} (a:Fin ps ws h t F pr) (h1:∀ i j,i < j→j≤ws.length→pr' i j→pr i j):Fin ps ws h t F pr' :=
 ⟨a.dg,a.ed,fun i j hij hj hp=>a.eq i j hij hj (h1 i j hij hj hp)⟩
theorem Fin.step {ps ws:List Int} {h t h' t':Nat→Nat→Nat→OI} {F:Nat→Nat→OI} {f e:Nat} (a:Fin ps ws h t F (Dn f e)) (hfe:f < e) (he:e≤ws.length) (u:Put ps ws h t h' t' f e (F f e) ps.length):Fin ps ws h' t' F (Dn f (e+1)):=by
 refine ⟨fun l i hl hi=>?_,fun i j hij hj=>?_,fun i j hij hj hp=>?_⟩
 ·rw [u.ot l i i (by omega)];exact a.dg l i hl hi
 ·by_cases z:i=f∧j=e
  ·rw [z.1,z.2,u.oe];exact a.ed f e hfe he
  ·rw [u.ot _ i j z];exact a.ed i j hij hj
 ·by_cases z:i=f∧j=e
  ·obtain ⟨rfl,rfl⟩:=z
   refine ⟨fun l hl=>?_,fun l hl=>u.et l (by omega) hl⟩
   rw [u.eh l (by omega) hl]
  ·have d:Dn f e i j:=by
    rcases hp with y | y
    ·exact .inl y
    ·exact .inr ⟨y.1,by omega⟩
   have E:=a.eq i j hij hj d
   have nh:∀ b,i < b→b≤j→¬ (i=f∧b=e):=fun b h1 h2 y=>by
    rcases d with w | w <;> omega
   have nt:∀ x,i < x→x≤j→¬ (x=f∧j=e):=fun x h1 h2 y=>by
    rcases d with w | w <;> omega
   refine ⟨fun l hl=>?_,fun l hl=>?_⟩
   ·rw [u.oh l i j z];exact E.eh l hl
   ·rw [u.ot l i j z,u.ot (l+1) i j z,E.et l hl]
    congr 2
    exact (a1W (k:=j) (fun b h1 h2=>u.oh l i b (nh b h1 h2)) fun x h1 h2=>u.ot (l+1) x j (nt x h1 h2)).symm
theorem Fin.bdO {ps ws:List Int} {h t:Nat→Nat→Nat→OI} {F:Nat→Nat→OI} (a:Fin ps ws h t F (fun _ _=>True)):∀ i j,i < j→j≤ws.length→bnd ps.length h t i j=bdO ps ws F i j:=fun f e hfe he=>by
 unfold K47.bdO
 by_cases e1:e - f=1
 ·unfold bnd;rw [if_pos e1,if_pos e1]
 ·rw [if_neg e1]
  exact a9J (p:=pl ps) (W:=Wt ws) (F:=F) a.dg a.ed (fun l c hl h1 h2=>(a.eq f c h1 (by omega) trivial).eh l hl) (fun x y h1 h2 h3=>a.eq x y h2 h3 trivial) (by omega) he
def ab:OI→OI→Bool
 | _,none=>false
 | none,some _=>true
 | some x,some y=>decide (y < x)
theorem a2P {α β:Type} {R:α→β→Prop} {f:Nat→α} {g:Nat→β}:∀ n,(∀ i,i < n→R (f i) (g i))→Paired R ((List.range n).map f) ((List.range n).map g)
 | 0,_=>.nil
 | n+1,h=>by
  rw [List.range_succ,List.map_append,List.map_append]
  exact L2.Paired.appendP (a2P n fun i hi=>h i (by omega)) (.cons (h n (by omega)) .nil)
section
variable {P':Program} {w:World} {K:PySem.W.Frag} {mg:Str→Option Value} {base:Heap} {f:Addr} {fd:FuncData}
abbrev NPb:List Str:=["prices","weights","floors","parted","first","end"]
def spPb (C:Addr):Sp:=fun vs H Q _=>∃ (p q d:Addr) (ps ws:List Int) (ra:Nat→Addr) (F:Nat→Nat→OI),vs=[.ref p,.ref q,.ref d]∧TW H p ps∧TW H q ws∧FlO H d ra ws.length F∧Num ps ws∧∀ (r:Addr) X h t H',a0C H H'→PAt C H' r p ps ws X h t→Fin ps ws h t F (fun _ _=>True)→Q (.ref r) H'
theorem scPb:a0r NPb ["prices","weights","floors"] (a0b sPb):=⟨rfl,rfl,rfl,by decide +kernel,rfl,by decide +kernel,by decide +kernel⟩
theorem ok_pb {C:Addr} (F:Fun K "parted_by" "parted_by" sPb f fd) (cl:Cl P' w K mg base C) (MP:Mt P' w K mg base C "put" ["self","first","end","floor"] (a9T C) 4) (ml:mg "len"=none) (mr:mg "range"=none):a0W P' w K mg base CX0 5 f fd ["prices","weights","floors"] (spPb C):=by
 refine F.ok (k:=4) scPb (fun vs H Q E h=>?_) (fun cdv A outer s H vs Q E hr h=>?_)
 ·obtain ⟨p,q,d,ps,ws,ra,F,rfl,_⟩:=h
  rfl
 obtain ⟨p,q,d,ps,ws,ra,F,rfl,hp,hq,fl,nu,qq⟩:=h
 obtain ⟨p2,p10,w1,w20,bp,bw⟩:=nu
 refine ⟨_,a0e (a0x (i:=3) scPb.nd rfl (Or.inl rfl) (a7l cl.mkk cl.oki hr (by rfl) cl.g cl.bi .nil a0A (a0a (pv 0) (a0a (pv 1) a0c))))
  (a0e (a1k PassesOwn.never rfl (a3i (by rfl) mr (a0a (a0t a1c (a0s a0j (by rfl) ml PySem.boot_len (a0a (pv 1) a0c)) a0f) (a0a (a2m a1v a0f) (a0a (a2m a1v a0f) a0c)))) (a0H (i:=4) scPb.nd rfl (Or.inl rfl))
   (a0g (a1k PassesOwn.never rfl (a1y (by rfl) mr (a0a (a0t a0F (pv 4) a0f) (a0a (a0t a0F (a0s a0j (by rfl) ml PySem.boot_len (a0a (pv 1) a0c)) a0f) a0c))) (a0H (i:=5) scPb.nd rfl (Or.inl rfl))
    (a0g (a1w (a1D (pv 3) cl.rc.c MP.m MP.ok hr MP.b .nil a0A (a0a (pv 4) (a0a (pv 5) (a0a (a0v a0n (a0v a0n (pv 2) (pv 4) (fun _ _=>rfl)) (a0t a1c (a0t a1c (pv 5) (pv 4)) a0f) (fun _ _=>rfl)) a0c)))))))))
  (a0g (a0q (pv 3)))),?_⟩
 refine ⟨_,rfl,_,rfl,fun r dx rn hdx _=>?_⟩
 have sm:a0C H (upd (upd H dx (.own r)) r (.ins C dx [])):=a0y rn (a0h hdx _)
 refine ⟨r,dx,p,q,ps,ws,rfl,a0d,sm _ _ hp,sm _ _ hq,by omega,p10,w20,fun H1 X k1 pa1 fz=>⟨rfl,?_⟩⟩
 have s1:a0C H H1:=fun a o e=>k1 a o (fun z=>by rw [z,rn] at e;cases e) (sm a o e)
 have fz':∀ a,Z X ps.length (ws.length+1) a→H a=none:=fun a hz=>sm.free (fz a hz)
 have nz:∀ {a o},H a=some o→¬ Z X ps.length (ws.length+1) a:=fun e hz=>by rw [fz' _ hz] at e;cases e
 have st0:Fin ps ws h0 t0 F (fun i _=>ws.length≤i):=⟨fun l i _ _=>if_pos rfl,fun i j hij _=>if_neg (by omega),fun i j hij hj hp=>absurd hp (by show ¬ ws.length≤i;omega)⟩
 refine ⟨_,rfl,q,_,rfl,.inr (SqT.of (s1 _ _ hq)),_,_,rfl,rfl,_,rfl,_,rfl,_,rfl,⟨by rw [List.length_map];omega,by rw [List.length_map];omega⟩,?_⟩
 rw [List.length_map,show ((ws.length:Int) - 1+1).toNat=ws.length by omega]
 refine a2C (fun m σ H'=>a0C H H'∧(∃ h t,PAt C H' r p ps ws X h t∧Fin ps ws h t F (fun i _=>ws.length - m≤i))∧∃ x3 x4:Option V,σ=[some (.ref p),some (.ref q),some (.ref d),some (.ref r),x3,x4])
  ⟨s1,⟨h0,t0,pa1,st0⟩,_,_,rfl⟩ (fun m σ H2 hm hP=>?_) (fun σ H2 hP=>?_)
 ·obtain ⟨s2,⟨h,t,pa2,fn2⟩,x3,x4,rfl⟩:=hP
  obtain ⟨f,ef⟩:∃ f,f=ws.length - 1 - m:=⟨_,rfl⟩
  have ev:(ws.length:Int) - 1+(m:Int) * (-1)=(f:Int):=by omega
  rw [ev]
  have hf:f < ws.length:=by omega
  refine ⟨_,rfl,_,_,rfl,rfl,_,rfl,q,_,rfl,.inr (SqT.of (s2 _ _ hq)),_,_,rfl,rfl,_,_,rfl,⟨by omega,by omega,by rw [List.length_map];omega,by rw [List.length_map];omega⟩,?_⟩
  refine a0T (fun k σ H'=>a0C H H'∧(∃ h t,PAt C H' r p ps ws X h t∧Fin ps ws h t F (Dn f (f+1+k)))∧∃ x4:Option V,σ=[some (.ref p),some (.ref q),some (.ref d),some (.ref r),some (.int (f:Int)),x4])
   ⟨s2,⟨h,t,pa2,fn2.weak fun i j hij hj d=>by show ws.length - m≤i;rcases d with z | z <;> omega⟩,_,rfl⟩ (fun k σ H3 hk hP=>?_) (fun σ H3 hP=>?_)
  ·obtain ⟨s3,⟨h3,t3,pa3,fn3⟩,x4,rfl⟩:=hP
   have hk':f+1+k≤ws.length:=by
    have:(ws.map V.int).length=ws.length:=List.length_map ..
    omega
   have ee:(f:Int)+1+(k:Int)=((f+1+k:Nat):Int):=by push_cast;omega
   rw [ee]
   obtain ⟨dx3,ho3⟩:=pa3.ob
   have fl3:=fl.same s3
   refine ⟨_,rfl,r,dx3,_,rfl,ho3,rfl,_,rfl,_,rfl,_,rfl,_,rfl,d,_,_,_,rfl,rfl,SqL.of fl3.o,a0D hf,_,rfl,_,rfl,_,_,rfl,rfl,_,_,rfl,rfl,ra f,_,_,_,rfl,(by show V.int (((f+1+k:Nat):Int) - (f:Int) - 1)=V.int ((f+1+k - f - 1:Nat):Int);congr 1;omega),SqL.of (fl3.r f hf),at_O (j:=f+1+k) (by omega) hk',?_⟩
   refine ⟨r,p,ps,ws,X,h3,t3,f,f+1+k,F f (f+1+k),rfl,pa3,w20,by omega,p10,bp,bw,by omega,hk',fun H5 h5 t5 k5 pa5 u=>?_⟩
   exact ⟨fun a o e=>k5 a o (nz e) (s3 _ _ e),⟨h5,t5,pa5,fn3.step (by omega) hk' u⟩,_,rfl⟩
  ·obtain ⟨s3,⟨h3,t3,pa3,fn3⟩,x4,rfl⟩:=hP
   have en:(((((ws.map V.int).length:Nat):Int)+1) - ((f:Int)+1)).toNat=ws.length - f:=by rw [List.length_map];omega
   rw [en] at fn3
   exact ⟨s3,⟨h3,t3,pa3,fn3.weak fun i j hij hj d=>by
    have d:ws.length - (m+1)≤i:=d
    by_cases z:f < i
    ·exact .inl z
    ·exact .inr ⟨by omega,by omega⟩⟩,_,_,rfl⟩
 ·obtain ⟨s2,⟨h,t,pa2,fn2⟩,x3,x4,rfl⟩:=hP
  exact ⟨_,rfl,qq r X h t H2 s2 pa2 (fn2.weak fun i j _ _ _=>by show ws.length - ws.length≤i;omega)⟩
end
theorem a2h {H:Hp} {a b:Addr} {o o':HO} (h:a≠b) (e:H a=some o):upd H b o' a=some o:=by rw [a0i h];exact e
structure CpV (H0 H':Hp) (R:Nat→List V) (i:Nat) (ka:Nat→Addr) (dk:Addr):Prop where
 same:a0C H0 H'
 fr:∀ k,k < i→H0 (ka k)=none
 inj:∀ j k,j < i→k < i→ka j=ka k→j=k
 nd:∀ k,k < i→ka k≠dk
 lo_:H' dk=some (.lst ((List.range i).map fun k=>.ref (ka k)))
 lr:∀ k,k < i→H' (ka k)=some (.lst (R k))
theorem CpV.start {H0:Hp} {R:Nat→List V} {dk:Addr} (hd:H0 dk=none):CpV H0 (upd H0 dk (.lst [])) R 0 (fun _=>dk) dk :=
 ⟨a0h hd _,fun k hk=>absurd hk (Nat.not_lt_zero _),fun j k hj=>absurd hj (Nat.not_lt_zero _),fun k hk=>absurd hk (Nat.not_lt_zero _),a0d,fun k hk=>absurd hk (Nat.not_lt_zero _)⟩
theorem CpV.step {H0 H1 H2:Hp} {R:Nat→List V} {i:Nat} {ka:Nat→Addr} {dk l:Addr} (hd:H0 dk=none) (c:CpV H0 H1 R i ka dk) (s:a0C H1 H2) (hl:H1 l=none) (gl:H2 l=some (.lst (R i))):CpV H0 (upd H2 dk (.lst (((List.range i).map fun k=>V.ref (ka k))++[.ref l]))) R (i+1) (ext ka i l) dk:=by
 have ld:l≠dk:=fun z=>by rw [z,c.lo_] at hl;cases hl
 have lk:∀ k,k < i→ka k≠l:=fun k hk z=>by rw [←z,c.lr k hk] at hl;cases hl
 refine ⟨a0y hd (c.same.trans s),fun k hk=>?_,fun j k hj hk e=>?_,fun k hk=>?_,?_,fun k hk=>?_⟩
 ·by_cases z:k=i
  ·rw [a0p z];exact c.same.free hl
  ·rw [a0w z];exact c.fr k (by omega)
 ·by_cases z1:j=i <;> by_cases z2:k=i
  ·omega
  ·rw [a0p z1,a0w z2] at e
   exact absurd e.symm (lk k (by omega))
  ·rw [a0w z1,a0p z2] at e
   exact absurd e (lk j (by omega))
  ·rw [a0w z1,a0w z2] at e
   exact c.inj j k (by omega) (by omega) e
 ·by_cases z:k=i
  ·rw [a0p z];exact ld
  ·rw [a0w z];exact c.nd k (by omega)
 ·rw [a0d,List.range_succ,List.map_append]
  refine congrArg (fun z=>some (HO.lst z)) ?_
  congr 1
  ·refine List.map_congr_left fun k hk=>?_
   rw [a0w (by have:=List.mem_range.mp hk;omega)]
  ·show [V.ref l]=[V.ref (ext ka i l i)]
   rw [a0p rfl]
 ·by_cases z:k=i
  ·rw [a0p z,a0i ld,z];exact gl
  ·rw [a0w z,a0i (c.nd k (by omega))];exact s _ _ (c.lr k (by omega))
theorem CpV.fl {H0 H':Hp} {n:Nat} {F:Nat→Nat→OI} {ka:Nat→Addr} {dk:Addr} (c:CpV H0 H' (fun k=>(a6b F n k).map oV) n ka dk):FlO H' dk ka n F:=⟨c.lo_,c.lr⟩
def gr (i j:Nat):OI:=if j - i=1 then some 0 else none
theorem nons (n:Nat):(List.replicate n [V.non]).flatten=List.replicate n V.non:=by
 induction n with
 | zero=>rfl
 | succ n ih=>rw [List.replicate_succ,List.flatten_cons,ih];rfl
theorem row_gr {n i:Nat} (h:i < n):V.int 0 :: List.replicate (n - i - 1) V.non=(a6b gr n i).map oV:=by
 refine List.ext_getElem? fun k=>?_
 rw [List.map_map]
 by_cases hk:k < n - i
 ·rw [List.getElem?_map,List.getElem?_range hk]
  cases k with
  | zero =>
   show some (V.int 0)=some (oV (gr i (i+0+1)))
   unfold gr
   rw [if_pos (by omega)]
   rfl
  | succ k =>
   show (List.replicate (n - i - 1) V.non)[k]?=some (oV (gr i (i+(k+1)+1)))
   unfold gr
   rw [if_neg (by omega),List.getElem?_replicate,if_pos (by omega)]
   rfl
 ·rw [List.getElem?_eq_none (by rw [List.length_cons,List.length_replicate];omega),List.getElem?_eq_none (by rw [List.length_map,List.length_range];omega)]
theorem a8k {ps ws:List Int} {i j:Nat}:bdO ps ws (fun _ _=>none) i j=gr i j:=by
 unfold bdO gr
 rw [a8d]
structure StO (H:Hp) (d:Addr) (da:Nat→Addr) (ra:Nat→Nat→Addr) (k n:Nat) (F:Nat→Nat→Nat→OI):Prop where
 o:H d=some (.lst ((List.range k).map fun s=>.ref (da s)))
 r:∀ s,s < k→FlO H (da s) (ra s) n (F s)
theorem StO.same {H H':Hp} {d:Addr} {da:Nat→Addr} {ra:Nat→Nat→Addr} {k n:Nat} {F:Nat→Nat→Nat→OI} (h:StO H d da ra k n F) (s:a0C H H'):StO H' d da ra k n F:=⟨s _ _ h.o,fun i hi=>(h.r i hi).same s⟩
def Fb (F:Nat→Nat→Nat→OI) (s:Nat):Nat→Nat→OI:=if s=0 then fun _ _=>none else F (s - 1)
section
variable {P':Program} {w:World} {K:PySem.W.Frag} {mg:Str→Option Value} {base:Heap} {f:Addr} {fd:FuncData}
def a8l:Sp:=fun vs H Q _=>∃ tp:Nat,vs=[.int (tp:Int)]∧tp≤24∧Q .non H
theorem scTop:a0r ["top"] ["top"] (a0b b2R):=⟨rfl,rfl,rfl,by decide +kernel,rfl,by decide +kernel,by decide +kernel⟩
theorem ok_top {CB:Addr} (F:Fun K "refuse_top" "refuse_top" b2R f fd) (mB:mg "BadNumber"=some (.ref CB)) (eB:Ecl K CB):a0W P' w K mg base (CXF P' w) 1 f fd ["top"] a8l:=by
 refine F.okF (k:=0) scTop (fun vs H Q E h=>?_) (fun cdv A outer s H vs Q E hr h=>?_)
 ·obtain ⟨tp,rfl,_⟩:=h
  rfl
 obtain ⟨tp,rfl,t24,q⟩:=h
 refine ⟨_,a0g (a0Y (a2l (a9f a9d a9d a0f (pv 0) a0f)) (a0g (a5R a2t rfl (by rfl) mB eB (a0a b0v a0c))) a0B),?_⟩
 refine ⟨_,rfl,_,_,rfl,rfl,_,rfl,?_⟩
 rw [decide_eq_true (show (0:Int)≤(tp:Int) by omega)]
 refine a6y ⟨_,_,rfl,rfl,_,rfl,?_⟩
 rw [decide_eq_true (show (tp:Int)≤24 by omega)]
 exact a2V q
def a2X:Sp:=fun vs H Q _=>∃ n:Nat,vs=[.int (n:Int)]∧n≤20∧∀ (d:Addr) ra H',CpV H H' (fun k=>(a6b gr n k).map oV) n ra d→H d=none→Q (.ref d) H'
theorem a9X:a0r ["things"] ["things"] (a0b a2f):=⟨rfl,rfl,rfl,by decide +kernel,rfl,by decide +kernel,by decide +kernel⟩
theorem ndGr:(("first":Str) :: ["things"]).Nodup:=by decide +kernel
theorem a8m (F:Fun K "bounds_on_ground" "bounds_on_ground" a2f f fd) (mr:mg "range"=none):a0W P' w K mg base CX0 1 f fd ["things"] a2X:=by
 refine F.ok (k:=0) a9X (fun vs H Q E h=>?_) (fun cdv A outer s H vs Q E hr h=>?_)
 ·obtain ⟨n,rfl,_⟩:=h
  rfl
 obtain ⟨n,rfl,n20,q⟩:=h
 refine ⟨_,a0g (a0q (a1r (M:=["things"]) rfl (a0l.of (a0b a2f) ["things"] rfl rfl rfl (by decide +kernel) (by decide +kernel) (by decide +kernel) rfl (by decide +kernel)) ndGr rfl (by rfl) mr (a0a (pv 0) a0c) (a0Z a0X a1B)
   (fun cl C s0 H0 fp=>⟨a0P,a0t op_cat (a1q (a0a a0f a0c)) (a0t a7r (a1q (a0a a1m a0c)) (a0t a1c (a0t a1c (pv 1) (pv 0)) a0f))⟩))),?_⟩
 refine ⟨_,rfl,_,rfl,by omega,by omega,fun d hd=>?_⟩
 rw [Int.toNat_natCast]
 refine ⟨fun i H'=>∃ ra,CpV H H' (fun k=>(a6b gr n k).map oV) i ra d,⟨_,CpV.start hd⟩,fun i H1 hi hP=>?_,fun H1 hP=>?_⟩
 ·obtain ⟨ra,cp⟩:=hP
  rw [show (0:Int)+(i:Int)=(i:Int) from Int.zero_add _]
  refine a0L ⟨(by show 1≤sizeLine;decide),fun l1 hl1=>?_⟩
  have s1:=a0h hl1 (.lst [.int 0])
  have g1:upd H1 l1 (.lst [.int 0]) l1=some (.lst [.int 0]):=a0d
  generalize upd H1 l1 (.lst [.int 0])=H2 at s1 g1 ⊢
  refine ⟨(by show 1≤sizeLine;decide),fun l2 hl2=>?_⟩
  have s2:=a0h hl2 (.lst [.non])
  have g2:upd H2 l2 (.lst [.non]) l2=some (.lst [.non]):=a0d
  generalize upd H2 l2 (.lst [.non])=H3 at s2 g2 ⊢
  refine ⟨_,rfl,_,rfl,_,_,rfl,rfl,_,_,rfl,rfl,l2,_,_,rfl,rfl,g2,by omega,by omega,(by show 1 * _≤_;exact Nat.le_of_lt (a0u (by omega))),fun l3 hl3=>?_⟩
  rw [show ((n:Int) - (i:Int) - 1).toNat=n - i - 1 by omega,nons]
  have s3:=a0h hl3 (.lst (List.replicate (n - i - 1) V.non))
  have g3:upd H3 l3 (.lst (List.replicate (n - i - 1) V.non)) l3=some (.lst (List.replicate (n - i - 1) V.non)):=a0d
  generalize upd H3 l3 (.lst (List.replicate (n - i - 1) V.non))=H4 at s3 g3 ⊢
  have s14:=(s1.trans s2).trans s3
  refine ⟨l1,l3,_,_,rfl,rfl,s3 _ _ (s2 _ _ g1),g3,(by show 1+_≤_;rw [List.length_replicate];exact Nat.le_of_lt (a0u (by omega))),fun l hl=>?_⟩
  have er:([V.int 0]++List.replicate (n - i - 1) V.non:List V)=(a6b gr n i).map oV:=row_gr hi
  rw [er]
  refine ⟨_,a2h (fun z=>by rw [←z,s14 _ _ cp.lo_] at hl;cases hl) (s14 _ _ cp.lo_),?_,_,CpV.step (R:=fun k=>(a6b gr n k).map oV) hd cp (s14.trans (a0h hl _)) (s14.free hl) a0d⟩
  rw [List.length_map,List.length_range];exact a0u (by omega)
 ·obtain ⟨ra,cp⟩:=hP
  exact q d ra H1 cp hd
end
def up2 (F:Nat→Nat→OI) (i j:Nat) (v:OI):Nat→Nat→OI:=fun a b=>if a=i∧b=j then v else F a b
abbrev RO (F:Nat→Nat→OI) (n:Nat):Nat→List V:=fun k=>(a6b F n k).map oV
structure CpS (H0 H':Hp) (n:Nat) (F:Nat→Nat→Nat→OI) (i:Nat) (da:Nat→Addr) (ra:Nat→Nat→Addr) (dk:Addr):Prop where
 same:a0C H0 H'
 frr:∀ s j,s < i→j < n→H0 (ra s j)=none
 frd:∀ s,s < i→H0 (da s)=none
 frk:H0 dk=none
 inj:∀ s j s' j',s < i→j < n→s' < i→j' < n→ra s j=ra s' j'→s=s'∧j=j'
 ind:∀ s s',s < i→s' < i→da s=da s'→s=s'
 nd:∀ s j,s < i→j < n→ra s j≠dk
 ndd:∀ s,s < i→da s≠dk
 nda:∀ s j s',s < i→j < n→s' < i→ra s j≠da s'
 lo_:H' dk=some (.lst ((List.range i).map fun k=>.ref (da k)))
 fl:∀ s,s < i→FlO H' (da s) (ra s) n (F s)
def ext2 (ra:Nat→Nat→Addr) (i:Nat) (ka:Nat→Addr):Nat→Nat→Addr:=fun s=>if s=i then ka else ra s
theorem a1e {ra:Nat→Nat→Addr} {i:Nat} {ka:Nat→Addr} {s:Nat} (h:s=i):ext2 ra i ka s=ka:=by unfold ext2;rw [if_pos h]
theorem a1I {ra:Nat→Nat→Addr} {i:Nat} {ka:Nat→Addr} {s:Nat} (h:s≠i):ext2 ra i ka s=ra s:=by unfold ext2;rw [if_neg h]
theorem CpS.step {H0 H1 H2:Hp} {n:Nat} {F:Nat→Nat→Nat→OI} {i:Nat} {da:Nat→Addr} {ra:Nat→Nat→Addr} {ka:Nat→Addr} {dk dl:Addr} (c:CpS H0 H1 n F i da ra dk) (v:CpV H1 H2 (RO (F i) n) n ka dl) (hdl:H1 dl=none):CpS H0 (upd H2 dk (.lst (((List.range i).map fun k=>V.ref (da k))++[.ref dl]))) n F (i+1) (ext da i dl) (ext2 ra i ka) dk:=by
 have old:∀ {a b o},H1 a=some o→H1 b=none→a≠b:=fun h1 h2 z=>by rw [z,h2] at h1;cases h1
 have kd:∀ j,j < n→ka j≠dk:=fun j hj=>Ne.symm (old c.lo_ (v.fr j hj))
 have ld:dl≠dk:=Ne.symm (old c.lo_ hdl)
 have kr:∀ s j m,s < i→j < n→m < n→ra s j≠ka m:=fun s j m hs hj hm=>old ((c.fl s hs).r j hj) (v.fr m hm)
 have lr:∀ s j,s < i→j < n→ra s j≠dl:=fun s j hs hj=>old ((c.fl s hs).r j hj) hdl
 have dd:∀ s,s < i→da s≠dl:=fun s hs=>old (c.fl s hs).o hdl
 have dka:∀ s m,s < i→m < n→da s≠ka m:=fun s m hs hm=>old (c.fl s hs).o (v.fr m hm)
 refine ⟨a0y c.frk (c.same.trans v.same),fun s j hs hj=>?_,fun s hs=>?_,c.frk,fun s j s' j' hs hj hs' hj' e=>?_,fun s s' hs hs' e=>?_,fun s j hs hj=>?_,fun s hs=>?_,fun s j s' hs hj hs'=>?_,?_,fun s hs=>?_⟩
 ·by_cases z:s=i
  ·rw [a1e z];exact c.same.free (v.fr j hj)
  ·rw [a1I z];exact c.frr s j (by omega) hj
 ·by_cases z:s=i
  ·rw [a0p z];exact c.same.free hdl
  ·rw [a0w z];exact c.frd s (by omega)
 ·by_cases z1:s=i <;> by_cases z2:s'=i
  ·rw [a1e z1,a1e z2] at e
   exact ⟨by omega,v.inj j j' hj hj' e⟩
  ·rw [a1e z1,a1I z2] at e
   exact absurd e.symm (kr s' j' j (by omega) hj' hj)
  ·rw [a1I z1,a1e z2] at e
   exact absurd e (kr s j j' (by omega) hj hj')
  ·rw [a1I z1,a1I z2] at e
   exact c.inj s j s' j' (by omega) hj (by omega) hj' e
 ·by_cases z1:s=i <;> by_cases z2:s'=i
  ·omega
  ·rw [a0p z1,a0w z2] at e
   exact absurd e.symm (dd s' (by omega))
  ·rw [a0w z1,a0p z2] at e
   exact absurd e (dd s (by omega))
  ·rw [a0w z1,a0w z2] at e
   exact c.ind s s' (by omega) (by omega) e
 ·by_cases z:s=i
  ·rw [a1e z];exact kd j hj
  ·rw [a1I z];exact c.nd s j (by omega) hj
 ·by_cases z:s=i
  ·rw [a0p z];exact ld
  ·rw [a0w z];exact c.ndd s (by omega)
 ·by_cases z1:s=i <;> by_cases z2:s'=i
  ·rw [a1e z1,a0p z2];exact v.nd j hj
  ·rw [a1e z1,a0w z2];exact Ne.symm (dka s' j (by omega) hj)
  ·rw [a1I z1,a0p z2];exact lr s j (by omega) hj
  ·rw [a1I z1,a0w z2];exact c.nda s j s' (by omega) hj (by omega)
 ·rw [a0d,List.range_succ,List.map_append]
  refine congrArg (fun z=>some (HO.lst z)) ?_
  congr 1
  ·refine List.map_congr_left fun k hk=>?_
   rw [a0w (by have:=List.mem_range.mp hk;omega)]
  ·show [V.ref dl]=[V.ref (ext da i dl i)]
   rw [a0p rfl]
 ·by_cases z:s=i
  ·rw [a0p z,a1e z,z]
   exact ⟨a2h ld v.lo_,fun j hj=>a2h (kd j hj) (v.lr j hj)⟩
  ·rw [a0w z,a1I z]
   have f:=(c.fl s (by omega)).same v.same
   exact ⟨a2h (c.ndd s (by omega)) f.o,fun j hj=>a2h (c.nd s j (by omega) hj) (f.r j hj)⟩
theorem CpS.st {H0 H':Hp} {n:Nat} {F:Nat→Nat→Nat→OI} {i:Nat} {da:Nat→Addr} {ra:Nat→Nat→Addr} {dk:Addr} (c:CpS H0 H' n F i da ra dk):StO H' dk da ra i n F:=⟨c.lo_,c.fl⟩
def le (a b:OI):Prop:=∀ y,b=some y→∃ x,a=some x∧x≤y
theorem le_refl (a:OI):le a a:=fun y h=>⟨y,h,Int.le_refl _⟩
theorem b0N {a b c d:OI} (h:le a b) (h':le c d):le (oadd a c) (oadd b d):=fun y hy=>by
 cases b with
 | none=>cases hy
 | some u =>
  cases d with
  | none=>cases hy
  | some v =>
   obtain ⟨x,rfl,hx⟩:=h u rfl
   obtain ⟨z,rfl,hz⟩:=h' v rfl
   cases hy
   exact ⟨x+z,rfl,by omega⟩
theorem a8n {p:Nat→Int} {W:Nat→Nat→Int} {F G:Nat→Nat→OI}:∀ {r:Pa},(∀ q∈r,le (F q.1 q.2.1) (G q.1 q.2.1))→le (cost p W F r) (cost p W G r)
 | [],_=>le_refl _
 | q :: r,h=>b0N (b0N (le_refl _) (h q (.head _))) (a8n fun q' h'=>h q' (.tail _ h'))
theorem b2j {α:Type} {xs:List α} {f g:α→OI} (h:∀ x∈xs,le (f x) (g x)):le (lo (xs.map f)) (lo (xs.map g)):=fun y hy=>by
 obtain ⟨h1,h2⟩:=a0V.mp hy
 obtain ⟨x,hx,e⟩:=List.mem_map.mp h1
 obtain ⟨z,ez,hz⟩:=h x hx y e
 obtain ⟨m,em,hm⟩:=a4h (List.mem_map.mpr ⟨x,hx,ez⟩:some z∈xs.map f)
 exact ⟨m,em,by omega⟩
theorem a2v {p:Nat→Int} {W:Nat→Nat→Int} {F:Nat→Nat→OI}:∀ {r:Pa},cost p W F r=none↔∃ q∈r,F q.1 q.2.1=none
 | []=>⟨fun z=>(by cases z),fun ⟨q,h,_⟩=>(by cases h)⟩
 | q :: r=>by
  have ih:=a2v (p:=p) (W:=W) (F:=F) (r:=r)
  show oadd (part p W F q) (cost p W F r)=none↔_
  unfold part
  cases e1:F q.1 q.2.1 with
  | none=>exact ⟨fun _=>⟨q,.head _,e1⟩,fun _=>rfl⟩
  | some v =>
   cases e2:cost p W F r with
   | none =>
    obtain ⟨q',h',e'⟩:=ih.mp e2
    exact ⟨fun _=>⟨q',.tail _ h',e'⟩,fun _=>rfl⟩
   | some u =>
    refine ⟨fun z=>(by cases z),fun ⟨q',h',e'⟩=>?_⟩
    rcases List.mem_cons.mp h' with z | z
    ·rw [z,e1] at e';cases e'
    ·rw [ih.mpr ⟨q',z,e'⟩] at e2;cases e2
theorem a6c {c:Nat}:∀ m l i j,i≤j→∀ r∈P m l i j,(∀ q∈r,q.2.1 - q.1≤c)→j - i≤r.length * c
 | 0,l,i,j,h,r,hr,hq=>by
  unfold P at hr
  split at hr
  ·omega
  ·cases hr
 | m+1,l,i,j,h,r,hr,hq=>by
  rw [a1N] at hr
  split at hr
  ·omega
  ·rcases List.mem_append.mp hr with z | z
   ·obtain ⟨b,hb,z⟩:=List.mem_flatMap.mp z
    have hb':=List.mem_range.mp hb
    obtain ⟨r',hr',rfl⟩:=List.mem_map.mp z
    have h1:=a6c m (l+1) (i+b+1) j (by omega) r' hr' fun q h'=>hq q (.tail _ h')
    have h2:i+b+1 - i≤c:=hq _ (.head _)
    rw [List.length_cons,Nat.succ_mul]
    omega
   ·exact a6c m (l+1) i j h r z hq
theorem b0O {c:Nat} (hc:1≤c):∀ m l i j,i≤j→j - i≤m * c→∃ r∈P m l i j,∀ q∈r,q.2.1 - q.1≤c
 | 0,l,i,j,h,h'=>by
  refine ⟨[],?_,fun q h=>by cases h⟩
  unfold P
  rw [if_pos (by omega)]
  exact .head _
 | m+1,l,i,j,h,h'=>by
  by_cases e:i=j
  ·refine ⟨[],?_,fun q h=>by cases h⟩
   rw [a1N,if_pos e]
   exact .head _
  ·rw [Nat.succ_mul] at h'
   by_cases e2:j - i≤c
   ·refine ⟨[(i,i+(j - i - 1)+1,l)],?_,fun q h=>?_⟩
    ·rw [a1N,if_neg e]
     refine List.mem_append.mpr (.inl (List.mem_flatMap.mpr ⟨j - i - 1,List.mem_range.mpr (by omega),List.mem_map.mpr ⟨[],?_,rfl⟩⟩))
     rw [show i+(j - i - 1)+1=j by omega,a3o]
     exact .head _
    ·rw [List.mem_singleton.mp h]
     show i+(j - i - 1)+1 - i≤c
     omega
   ·obtain ⟨r,hr,hq⟩:=b0O hc m (l+1) (i+(c - 1)+1) j (by omega) (by omega)
    refine ⟨(i,i+(c - 1)+1,l) :: r,?_,fun q h=>?_⟩
    ·rw [a1N,if_neg e]
     exact List.mem_append.mpr (.inl (List.mem_flatMap.mpr ⟨c - 1,List.mem_range.mpr (by omega),List.mem_map.mpr ⟨r,hr,rfl⟩⟩))
    ·rcases List.mem_cons.mp h with z | z
     ·rw [z]
      show i+(c - 1)+1 - i≤c
      omega
     ·exact hq q z
theorem a8o {L i j c:Nat} (hL:2≤L) (hc:1≤c) (hij:i+1 < j) (h:j - i≤L * c):∃ r∈(P L 0 i j).filter (fun r=>decide (1 < r.length)),∀ q∈r,q.2.1 - q.1≤c:=by
 have h2:j - i≤L * min c (j - i - 1):=by
  by_cases e:c≤j - i - 1
  ·rw [Nat.min_eq_left e];exact h
  ·rw [Nat.min_eq_right (by omega)]
   have:2 * (j - i - 1)≤L * (j - i - 1):=Nat.mul_le_mul_right _ hL
   omega
 obtain ⟨r,hr,hq⟩:=b0O (c:=min c (j - i - 1)) (by omega) L 0 i j (by omega) h2
 refine ⟨r,List.mem_filter.mpr ⟨hr,decide_eq_true ?_⟩,fun q h=>Nat.le_trans (hq q h) (Nat.min_le_left _ _)⟩
 have h3:=a6c L 0 i j (by omega) r hr hq
 by_cases e:1 < r.length
 ·exact e
 ·have:r.length * min c (j - i - 1)≤1 * min c (j - i - 1):=Nat.mul_le_mul_right _ (by omega)
  have:min c (j - i - 1)≤j - i - 1:=Nat.min_le_right _ _
  omega
def S (ps ws:List Int):Nat→Nat→Nat→OI
 | 0=>gr
 | s+1=>bdO ps ws (S ps ws s)
theorem b2k {ps ws:List Int} {F G:Nat→Nat→OI} {i j:Nat} (hij:i < j) (h:∀ a b,a < b→le (F a b) (G a b)):le (most ps ws F i j) (most ps ws G i j):=by
 refine b2j fun r hr=>a8n fun q hq=>?_
 have:=a1U hij r hr q hq
 exact h _ _ this.2.1
theorem bdO_le {ps ws:List Int} {F G:Nat→Nat→OI} {i j:Nat} (hij:i < j) (h:∀ a b,a < b→le (F a b) (G a b)):le (bdO ps ws F i j) (bdO ps ws G i j):=by
 unfold bdO
 split
 ·exact le_refl _
 ·exact b2k hij h
theorem S_le {ps ws:List Int}:∀ s i j,i < j→le (S ps ws (s+1) i j) (S ps ws s i j)
 | 0,i,j,hij=>fun y hy=>by
  change gr i j=some y at hy
  show ∃ x,bdO ps ws gr i j=some x∧x≤y
  unfold gr at hy
  split at hy
  ·rename_i e
   cases hy
   unfold bdO
   rw [if_pos e]
   exact ⟨0,rfl,Int.le_refl _⟩
  ·cases hy
 | s+1,i,j,hij=>bdO_le hij fun a b hab=>S_le s a b hab
theorem a8p {ps ws:List Int} (hL:2≤ps.length):∀ s i j,i < j→(S ps ws s i j=none↔ps.length ^ s < j - i)
 | 0,i,j,hij=>by
  show gr i j=none↔_
  unfold gr
  rw [Nat.pow_zero]
  split
  ·exact ⟨fun z=>(by cases z),fun z=>by omega⟩
  ·exact ⟨fun _=>by omega,fun _=>rfl⟩
 | s+1,i,j,hij=>by
  have hp:0 < ps.length ^ s:=Nat.pow_pos (by omega)
  have e:ps.length ^ (s+1)=ps.length * ps.length ^ s:=by rw [Nat.pow_succ,Nat.mul_comm]
  show bdO ps ws (S ps ws s) i j=none↔_
  unfold bdO
  by_cases e1:j - i=1
  ·rw [if_pos e1]
   have:0 < ps.length ^ (s+1):=Nat.pow_pos (by omega)
   exact ⟨fun z=>(by cases z),fun z=>by omega⟩
  ·rw [if_neg e1]
   show lo (((P ps.length 0 i j).filter fun r=>decide (1 < r.length)).map fun r=>cost (pl ps) (Wt ws) (S ps ws s) r)=none↔_
   constructor
   ·intro hn
    by_cases hh:ps.length ^ (s+1) < j - i
    ·exact hh
    ·rw [e] at hh
     obtain ⟨r,hr,hq⟩:=a8o (i:=i) (j:=j) hL hp (by omega) (by omega)
     have hr':=hr
     cases ec:cost (pl ps) (Wt ws) (S ps ws s) r with
     | some v=>exact absurd (List.mem_map.mpr ⟨r,hr,ec⟩) (a1i.mp hn v)
     | none =>
      obtain ⟨q,h',e'⟩:=a2v.mp ec
      have hin:=a1U hij r hr q h'
      have:=(a8p hL s q.1 q.2.1 hin.2.1).mp e'
      have:=hq q h'
      omega
   ·intro hn
    refine a1i.mpr fun k hk=>?_
    obtain ⟨r,hr,ec⟩:=List.mem_map.mp hk
    have hrP:=(List.mem_filter.mp hr).1
    by_cases hall:∀ q∈r,q.2.1 - q.1≤ps.length ^ s
    ·have h1:=a6c ps.length 0 i j (by omega) r hrP hall
     have h2:=b2i ps.length 0 i j r hrP
     have h3:r.length * ps.length ^ s≤ps.length * ps.length ^ s:=Nat.mul_le_mul_right _ h2
     rw [e] at hn
     omega
    ·obtain ⟨q,hq⟩:=Classical.not_forall.mp hall
     obtain ⟨hqr,hql⟩:=Classical.not_imp.mp hq
     have hin:=a1U hij r hr q hqr
     have e':=(a8p (ws:=ws) hL s q.1 q.2.1 hin.2.1).mpr (by omega)
     rw [a2v.mpr ⟨q,hqr,e'⟩] at ec
     cases ec
theorem b0P {ps ws:List Int} {Fl:Nat→Nat→OI} {n:Nat} (h:∀ i j,i < j→j≤n→Fl i j=bdO ps ws Fl i j):∀ d s i j,j - i≤d→i < j→j≤n→j - i - 1≤s→S ps ws s i j=Fl i j
 | 0,s,i,j,hd,hij,hj,hs=>by omega
 | d+1,s,i,j,hd,hij,hj,hs=>by
  rw [h i j hij hj]
  by_cases e:j - i=1
  ·unfold bdO
   rw [if_pos e]
   cases s with
   | zero=>show gr i j=_;unfold gr;rw [if_pos e]
   | succ s=>show bdO ps ws (S ps ws s) i j=_;unfold bdO;rw [if_pos e]
  ·obtain ⟨s,rfl⟩:∃ t,s=t+1:=⟨s - 1,by omega⟩
   show bdO ps ws (S ps ws s) i j=_
   unfold bdO
   rw [if_neg e,if_neg e]
   refine a6R hij fun a b hab ha hb hw=>?_
   exact b0P h d s a b (by omega) hab (by omega) (by omega)
theorem S_is {ps ws:List Int} {s i j:Nat}:bdO ps ws (Fb (S ps ws) s) i j=S ps ws s i j:=by
 unfold Fb
 cases s with
 | zero=>rw [if_pos rfl,a8k];rfl
 | succ s=>rw [if_neg (by omega)];rfl
theorem CpS.one {H0 H1:Hp} {n:Nat} {F:Nat→Nat→Nat→OI} {ka:Nat→Addr} {dk dl:Addr} (v:CpV H0 H1 (RO (F 0) n) n ka dl) (hdl:H0 dl=none) (hdk:H1 dk=none):CpS H0 (upd H1 dk (.lst [.ref dl])) n F 1 (fun _=>dl) (fun _=>ka) dk:=by
 have ld:dl≠dk:=fun z=>by rw [←z,v.lo_] at hdk;cases hdk
 have kd:∀ j,j < n→ka j≠dk:=fun j hj z=>by rw [←z,v.lr j hj] at hdk;cases hdk
 refine ⟨v.same.trans (a0h hdk _),fun s j _ hj=>v.fr j hj,fun s _=>hdl,v.same.free hdk,fun s j s' j' hs hj hs' hj' e=>⟨by omega,v.inj j j' hj hj' e⟩,fun s s' hs hs' _=>by omega,fun s j _ hj=>kd j hj,fun s _=>ld,fun s j s' _ hj _=>v.nd j hj,a0d,fun s hs=>?_⟩
 have e:s=0:=by omega
 subst e
 exact ⟨a2h ld v.lo_,fun j hj=>a2h (kd j hj) (v.lr j hj)⟩
section
variable {P':Program} {w:World} {K:PySem.W.Frag} {mg:Str→Option Value} {base:Heap} {f:Addr} {fd:FuncData}
abbrev NStr:List Str:=["prices","weights","top","stairs","step"]
def a4n:Sp:=fun vs H Q _=>∃ (p q:Addr) (ps ws:List Int) (tp:Nat),vs=[.ref p,.ref q,.int (tp:Int)]∧TW H p ps∧TW H q ws∧Num ps ws∧tp≤24∧∀ (d:Addr) da ra H',CpS H H' ws.length (S ps ws) (tp+1) da ra d→Q (.ref d) H'
theorem a4o:a0r NStr ["prices","weights","top"] (a0b a2G):=⟨rfl,rfl,rfl,by decide +kernel,rfl,by decide +kernel,by decide +kernel⟩
theorem a8q {C:Addr} (F:Fun K "least_stairs" "least_stairs" a2G f fd) (GT:a7C P' w K mg base ["top"] "refuse_top" a8l 5) (GG:Fns P' w K mg base ["things"] "bounds_on_ground" a2X 5) (GP:Fns P' w K mg base ["prices","weights","floors"] "parted_by" (spPb C) 5) (M:Mt P' w K mg base C "bounds" ["self"] (a2u C) 5) (rc:PC K C) (ml:mg "len"=none) (mr:mg "range"=none):a0W P' w K mg base (CXF P' w) 6 f fd ["prices","weights","top"] a4n:=by
 refine F.okF (k:=5) a4o (fun vs H Q E h=>?_) (fun cdv A outer s H vs Q E hr h=>?_)
 ·obtain ⟨p,q,ps,ws,tp,rfl,_⟩:=h
  rfl
 obtain ⟨p,q,ps,ws,tp,rfl,hp,hq,nu,t24,qq⟩:=h
 have w20:=nu.w20
 refine ⟨_,a0e (a1w (a0k GT.ok hr (by rfl) GT.m GT.kp GT.b .nil a2t (a0a (pv 2) a0c)))
  (a0e (a0x (i:=3) a4o.nd rfl (Or.inl rfl) (a1q (a0a (a0k GG.ok hr (by rfl) GG.m GG.kp GG.b .nil a0A (a0a (a0s a0j (by rfl) ml PySem.boot_len (a0a (pv 1) a0c)) a0c)) a0c)))
  (a0e (a1k PassesOwn.leaving rfl (a1j (by rfl) mr (a0a (pv 2) a0c)) (a0H (i:=4) a4o.nd rfl (Or.inl rfl))
   (a0g (a1w (a7q PySem.F.plainAttrs_list PySem.F.slot_list_append PySem.F.type_list_append a2p (pv 3) (a0a (a4a (a0k GP.ok hr (by rfl) GP.m GP.kp GP.b .nil a0A (a0a (pv 0) (a0a (pv 1) (a0a (a0v a0n (pv 3) (pv 4) (fun _ _=>rfl)) a0c)))) rc.c M.m M.ok hr M.b .nil a0A) a0c)))))
  (a0g (a0q (pv 3))))),?_⟩
 refine ⟨_,rfl,tp,rfl,t24,?_⟩
 refine ⟨_,rfl,q,_,rfl,.inr (SqT.of hq),ws.length,(by rw [List.length_map];rfl),w20,fun dl ka H1 v hdl=>?_⟩
 refine ⟨(by show 1≤sizeLine;decide),fun dk hdk=>?_⟩
 have c1:CpS H (upd H1 dk (.lst [.ref dl])) ws.length (S ps ws) 1 (fun _=>dl) (fun _=>ka) dk:=CpS.one v hdl hdk
 generalize upd H1 dk (.lst [.ref dl])=H2 at c1 ⊢
 refine ⟨_,rfl,_,rfl,by omega,by omega,?_⟩
 rw [Int.toNat_natCast]
 refine a0T (fun i σ H'=>(∃ da ra,CpS H H' ws.length (S ps ws) (i+1) da ra dk)∧∃ x4:Option V,σ=[some (.ref p),some (.ref q),some (.int (tp:Int)),some (.ref dk),x4]) ⟨⟨_,_,c1⟩,_,rfl⟩ (fun i σ H3 hi hP=>?_) (fun σ H3 hP=>?_)
 ·obtain ⟨⟨da,ra,c⟩,x4,rfl⟩:=hP
  rw [show (0:Int)+(i:Int)=(i:Int) from Int.zero_add _]
  have s3:=c.same
  refine ⟨_,rfl,.inl ⟨rfl,_,SqL.of c.lo_⟩,_,rfl,_,rfl,_,rfl,_,rfl,dk,_,_,_,rfl,rfl,SqL.of c.lo_,a0D (k:=i) (by omega),p,q,da i,ps,ws,ra i,S ps ws i,rfl,s3 _ _ hp,s3 _ _ hq,c.fl i (by omega),nu,fun r X h t H4 s4 pa fn=>?_⟩
  obtain ⟨dx,ho⟩:=pa.ob
  refine ⟨r,dx,_,rfl,ho,rfl,r,p,ps,ws,X,h,t,rfl,pa,w20,nu.p10,fun d2 ra2 H5 s5 hd2 g1 g2 g3 g4 g5=>?_⟩
  have s45:=s4.trans s5
  have v5:CpV H3 H5 (RO (S ps ws (i+1)) ws.length) ws.length ra2 d2:=⟨s45,fun k hk=>s4.free (g1 k hk),g2,g3,g4,fun k hk=>by
   rw [g5 k hk]
   refine congrArg (fun z=>some (HO.lst z)) ?_
   show _=List.map oV ((List.range (ws.length - k)).map fun b=>S ps ws (i+1) k (k+b+1))
   rw [List.map_map]
   refine List.map_congr_left fun b hb=>?_
   have:=List.mem_range.mp hb
   show oV (bnd ps.length h t k (k+b+1))=oV (bdO ps ws (S ps ws i) k (k+b+1))
   rw [fn.bdO k (k+b+1) (by omega) (by omega)]⟩
  refine ⟨dk,_,_,rfl,rfl,s45 _ _ c.lo_,(by rw [List.length_map,List.length_range];exact a0u (by omega)),⟨_,_,c.step v5 (s4.free hd2)⟩,_,rfl⟩
 ·obtain ⟨⟨da,ra,c⟩,x4,rfl⟩:=hP
  exact ⟨_,rfl,qq dk da ra H3 c⟩
end
namespace CT
def mi (xs:List Int):OI:=lo (xs.map some)
def ct (xs:List Int):Nat:=match mi xs with
 | none=>0
 | some m=>xs.count m
theorem a2i {xs:List Int} {m:Int}:mi xs=some m↔m∈xs∧∀ k∈xs,m≤k:=by
 unfold mi
 rw [a0V]
 constructor
 ·rintro ⟨h1,h2⟩
  obtain ⟨x,hx,e⟩:=List.mem_map.mp h1
  cases e
  exact ⟨hx,fun k hk=>h2 k (List.mem_map.mpr ⟨k,hk,rfl⟩)⟩
 ·rintro ⟨h1,h2⟩
  refine ⟨List.mem_map.mpr ⟨m,h1,rfl⟩,fun k hk=>?_⟩
  obtain ⟨x,hx,e⟩:=List.mem_map.mp hk
  cases e
  exact h2 _ hx
theorem a3A {xs:List Int}:mi xs=none↔xs=[]:=by
 unfold mi
 rw [a1i]
 constructor
 ·intro h
  cases xs with
  | nil=>rfl
  | cons x xs=>exact absurd (.head _) (h x)
 ·rintro rfl k hk
  cases hk
theorem b2l {α:Type} (B:List α) (X:α→List Int):mi (B.flatMap X)=lo (B.map fun b=>mi (X b)):=by
 unfold mi
 rw [List.map_flatMap,a2E]
def sums (k:Int) (as bs:List Int):List Int:=as.flatMap fun a=>bs.map fun b=>k+a+b
theorem b2m (k:Int) (as bs:List Int):mi (sums k as bs)=oadd (oadd (some k) (mi as)) (mi bs):=by
 cases ea:mi as with
 | none =>
  rw [a3A.mp ea]
  exact a3A.mpr rfl
 | some a =>
  cases eb:mi bs with
  | none =>
   rw [a3A.mp eb]
   refine a3A.mpr ?_
   unfold sums
   rw [List.flatMap_eq_nil_iff]
   intro x _
   rfl
  | some b =>
   obtain ⟨a1,a2⟩:=a2i.mp ea
   obtain ⟨b1,b2⟩:=a2i.mp eb
   refine a2i.mpr ⟨List.mem_flatMap.mpr ⟨a,a1,List.mem_map.mpr ⟨b,b1,rfl⟩⟩,fun x hx=>?_⟩
   obtain ⟨a',ha,hx⟩:=List.mem_flatMap.mp hx
   obtain ⟨b',hb,rfl⟩:=List.mem_map.mp hx
   have:=a2 a' ha
   have:=b2 b' hb
   omega
abbrev Code:=List (List Int)
def Bk (L l m:Nat):List (Nat × Nat):=(List.range (L - l)).flatMap fun a=>(List.range m).map fun b=>(l+a,b)
theorem a1s {L l m:Nat} {q:Nat × Nat}:q∈Bk L l m↔l≤q.1∧q.1 < L∧q.2 < m:=by
 unfold Bk
 constructor
 ·intro h
  obtain ⟨a,ha,h⟩:=List.mem_flatMap.mp h
  obtain ⟨b,hb,rfl⟩:=List.mem_map.mp h
  have:=List.mem_range.mp ha
  have:=List.mem_range.mp hb
  exact ⟨by show l≤l+a;omega,by show l+a < L;omega,by assumption⟩
 ·rintro ⟨h1,h2,h3⟩
  refine List.mem_flatMap.mpr ⟨q.1 - l,List.mem_range.mpr (by omega),List.mem_map.mpr ⟨q.2,List.mem_range.mpr h3,?_⟩⟩
  rw [show l+(q.1 - l)=q.1 by omega]
section
variable (L n:Nat) (h t:Nat→Nat→Nat→OI) (F:Nat→Nat→OI) (p:Nat→Int) (W:Nat→Nat→Int)
def vl (i j:Nat) (q:Nat × Nat):OI:=oadd (h q.1 i (i+q.2+1)) (t (q.1+1) (i+q.2+1) j)
structure Tb:Prop where
 dg:∀ l j,l≤L→j≤n→t l j j=some 0
 tt:∀ l i j,l≤L→i < j→j≤n→t l i j=lo ((Bk L l (j - i)).map (vl h t i j))
 ff:∀ i j,i < j→j≤n→F i j=if j - i=1 then some 0 else lo ((Bk L 0 (j - 1 - i)).map (vl h t i j))
 hh:∀ l i j,l < L→i < j→j≤n→h l i j=oadd (some (p l * W i j)) (F i j)
 tn:∀ l i j,l < L→i < j→j≤n→t l i j≠none
 fn:∀ i j,i < j→j≤n→F i j≠none
 pw:∀ l i j,l < L→i < j→j≤n→0 < p l * W i j
variable (cd:Nat→Nat→Nat) (tl:Nat→Nat→Nat→Nat)
variable (Cs:Nat→List Code) (Rs:Nat→Nat→List Code) (co:Nat→Code→Int)
def ahd (l:Nat) (c:Code):Code:=c.map fun w=>(l:Int) :: w
def bhd (many:Nat) (q:Nat × Nat):List Code:=if q.2+1 < many then Rs (many - (q.2+1)) (q.1+1) else [[]]
def rw' (many low most:Nat):List Code:=(Bk L low most).flatMap fun q=>(Cs (q.2+1)).flatMap fun c=>(bhd Rs many q).map fun r=>ahd q.1 c++r
structure En:Prop where
 c1:Cs 1=[[[]]]
 cs:∀ m,1 < m→Cs m=rw' L Cs Rs m 0 (m - 1)
 rs:∀ m l,1≤m→l < L→Rs m l=rw' L Cs Rs m l m
 rL:∀ m,Rs m L=[]
 nil:∀ i,co i []=0
 one:∀ i,co i [[]]=0
 app:∀ i l m c r,c∈Cs m→co i (ahd l c++r)=p l * W i (i+m)+co i c+co (i+m) r
variable {L n h t F p W cd tl Cs Rs co}
theorem a1X {α β:Type} {f g:α→List β}:∀ {xs:List α},(∀ x∈xs,f x=g x)→xs.flatMap f=xs.flatMap g
 | [],_=>rfl
 | x :: xs,h=>by rw [List.flatMap_cons,List.flatMap_cons,h x (.head _),a1X fun y hy=>h y (.tail _ hy)]
end
end CT
end K47
namespace K47
open PySem L2
abbrev Po (ns:List Int):Prop:=∀ x∈ns,(1:Int)≤x
theorem b0Q {ws:List Int} {i j:Nat} (bw:Po ws) (hij:i < j) (hj:j≤ws.length):1≤Wt ws i j:=by
 rw [Wt_is (by omega)]
 have:∀ xs:List Int,xs≠[]→(∀ x∈xs,1≤x)→1≤xs.sum:=by
  intro xs
  induction xs with
  | nil=>intro h;exact absurd rfl h
  | cons x xs ih =>
   intro _ h
   rw [List.sum_cons]
   have h1:=h x (.head _)
   by_cases e:xs=[]
   ·rw [e,List.sum_nil];omega
   ·have:=ih e fun y hy=>h y (.tail _ hy)
    omega
 refine this _ (fun z=>?_) fun x hx=>bw x (List.mem_of_mem_take (List.mem_of_mem_drop hx))
 have:=congrArg List.length z
 rw [List.length_drop,List.length_take,List.length_nil] at this
 omega
theorem b0R {ps:List Int} {l:Nat} (bp:Po ps) (hl:l < ps.length):1≤pl ps l:=by
 have:pl ps l=ps[l]'hl:=by
  unfold pl
  rw [List.getD_eq_getElem?_getD,List.getElem?_eq_getElem hl]
  rfl
 rw [this]
 exact bp _ (List.getElem_mem hl)
theorem a8r {L l m:Nat} (h:l < L):CT.Bk L l m=((List.range m).map fun b=>(l,b))++CT.Bk L (l+1) m:=by
 unfold CT.Bk
 obtain ⟨k,hk⟩:∃ k,L - l=k+1:=⟨L - l - 1,by omega⟩
 rw [hk,show L - (l+1)=k by omega,List.range_succ_eq_map,List.flatMap_cons,List.flatMap_map]
 congr 1
 refine CT.a1X fun a _=>?_
 refine List.map_congr_left fun b _=>?_
 rw [show l+(a+1)=l+1+a by omega]
theorem a8s (xs ys:List OI):lo (xs++ys)=lo [lo xs,lo ys]:=a1T xs ys
section
variable {P':Program} {w:World} {K:PySem.W.Frag} {mg:Str→Option Value} {base:Heap} {f:Addr} {fd:FuncData}
def Way (H:Hp) (i:Nat) (x:V) (q:Nat × Nat):Prop:=∃ a,x=.ref a∧H a=some (.tup [.int (q.1:Int),.int ((i+q.2+1:Nat):Int)])
theorem Way.same {H H':Hp} {i:Nat} {x:V} {q:Nat × Nat} (s:a0C H H') (h:Way H i x q):Way H' i x q:=by
 obtain ⟨a,rfl,e⟩:=h
 exact ⟨a,rfl,s _ _ e⟩
theorem Way.upd {H:Hp} {i:Nat} {x:V} {q:Nat × Nat} {d:Addr} {zs:List V} {o:HO} (hd:H d=some (.lst zs)) (h:Way H i x q):Way (L2.upd H d o) i x q:=by
 obtain ⟨a,rfl,e⟩:=h
 exact ⟨a,rfl,by rw [a0i (a0E e hd (by intro z;cases z))];exact e⟩
abbrev NWy:List Str:=["self","letter","first","end","goal","found","way","cut"]
def wys (L:Nat) (h t:Nat→Nat→Nat→OI) (l i j:Nat):List (Nat × Nat):=(CT.Bk L l (j - i)).filter fun q=>decide (CT.vl h t i j q=t l i j)
def a3U (C:Addr):Sp:=fun vs H Q _=>∃ (r p:Addr) (ps ws:List Int) (X:Ad) (h t:Nat→Nat→Nat→OI) (l i j:Nat),vs=[.ref r,.int (l:Int),.int (i:Int),.int (j:Int)]∧PAt C H r p ps ws X h t∧ws.length≤20∧ps.length≤10∧l < ps.length∧i < j∧j≤ws.length ∧
 ∀ (d:Addr) xs H',a0C H H'→H' d=some (.lst xs)→Paired (Way H' i) xs (wys ps.length h t l i j)→Q (.ref d) H'
theorem a4Y:a0r NWy ["self","letter","first","end"] (a0b a6P):=⟨rfl,rfl,rfl,by decide +kernel,rfl,by decide +kernel,by decide +kernel⟩
theorem scal_O (a b:OI):scal (oV a) (oV b)=true:=by cases a <;> cases b <;> rfl
theorem oV_inj {a b:OI} (h:oV a=oV b):a=b:=by
 cases a <;> cases b <;> first | rfl | cases h | skip
 rfl
theorem b2n {C:Addr} (F:Fun K "ways" "Parted.ways" a6P f fd) (GA:Fns P' w K mg base ["one","other"] "added" a3z 2) (rc:PC K C) (ml:mg "len"=none) (mr:mg "range"=none):a0W P' w K mg base CX0 3 f fd ["self","letter","first","end"] (a3U C):=by
 refine F.ok (k:=2) a4Y (fun vs H Q E h=>?_) (fun cdv A outer s H vs Q E hr h=>?_)
 ·obtain ⟨r,p,ps,ws,X,h,t,l,i,j,rfl,_⟩:=h
  rfl
 obtain ⟨r,p,ps,ws,X,h,t,l,i,j,rfl,pa,w20,p10,hl,hij,hj,q⟩:=h
 refine ⟨_,a0e (a0x (i:=4) a4Y.nd rfl (Or.inl rfl) (a0v a0n (a0v a0n (a0v a0n (a1l (pv 0) rfl) (pv 1) (fun _ _=>rfl)) (pv 2) (fun _ _=>rfl)) (pv 3) (fun _ _=>rfl)))
  (a0e (a0x (i:=5) a4Y.nd rfl (Or.inl rfl) (a1q a0c))
  (a0e (a1k PassesOwn.never rfl (a1y (by rfl) mr (a0a (pv 1) (a0a (a0s a0j (by rfl) ml PySem.boot_len (a0a (a1l (pv 0) rfl) a0c)) a0c))) (a0H (i:=6) a4Y.nd rfl (Or.inl rfl))
   (a0g (a1k PassesOwn.never rfl (a1y (by rfl) mr (a0a (a0t a0F (pv 2) a0f) (a0a (a0t a0F (pv 3) a0f) a0c))) (a0H (i:=7) a4Y.nd rfl (Or.inl rfl))
    (a0g (a0Y (a0G a3E (a0k GA.ok hr (by rfl) GA.m GA.kp GA.b .nil a0A (a0a (a0v a0n (a0v a0n (a0v a0n (a1l (pv 0) rfl) (pv 6) (fun _ _=>rfl)) (pv 2) (fun _ _=>rfl)) (pv 7) (fun _ _=>rfl)) (a0a (a0v a0n (a0v a0n (a0v a0n (a1l (pv 0) rfl) (a0t a0F (pv 6) a0f) (fun _ _=>rfl)) (pv 7) (fun _ _=>rfl)) (pv 3) (fun _ _=>rfl)) a0c))) (pv 4) (nomark _))
     (a0g (a1w (a7q PySem.F.plainAttrs_list PySem.F.slot_list_append PySem.F.type_list_append a2p (pv 5) (a0a (a1K (a0a (pv 6) (a0a (pv 7) a0c))) a0c)))) a0B)))))
  (a0g (a0q (pv 5))))),?_⟩
 obtain ⟨dx,ho⟩:=pa.ob
 have i1:i < ws.length+1:=by omega
 have j1:j < ws.length+1:=by omega
 refine ⟨_,rfl,r,C,dx,_,_,rfl,ho,rc.c,rc.nt,rfl,_,rfl,X.tt,_,_,_,rfl,rfl,SqL.of pa.tl.o,a0D (k:=l) (by omega),_,rfl,X.bt l,_,_,_,rfl,rfl,SqL.of (pa.tl.b l (by omega)),a0D i1,_,rfl,X.ct l i,_,_,_,rfl,rfl,SqL.of (pa.tl.c l i (by omega) i1),a0D j1,?_⟩
 refine ⟨(by show 0≤sizeLine;decide),fun d hd=>?_⟩
 have s1:=a0h hd (.lst [])
 have g1:upd H d (.lst []) d=some (.lst []):=a0d
 generalize upd H d (.lst [])=H1 at s1 g1 ⊢
 refine ⟨_,rfl,_,rfl,r,C,dx,_,_,rfl,s1 _ _ ho,rc.c,rc.np,rfl,p,_,rfl,.inr (SqT.of (s1 _ _ pa.hp)),?_⟩
 rw [List.length_map]
 refine ⟨_,_,rfl,⟨by omega,by omega,by omega,by omega⟩,?_⟩
 have e0:((ps.length:Int) - (l:Int)).toNat=ps.length - l:=by omega
 rw [e0]
 let pw:Nat × Nat→Bool:=fun q=>decide (CT.vl h t i j q=t l i j)
 have fin:∀ a,(((List.range a).flatMap fun a=>(List.range (j - i)).map fun b=>(l+a,b)).filter pw).length≤a * (j - i):=fun a=>by
  refine Nat.le_trans (List.length_filter_le _ _) ?_
  induction a with
  | zero=>simp
  | succ a ih=>rw [List.range_succ,List.flatMap_append,List.length_append,Nat.succ_mul];simp;simp at ih;omega
 refine a0T (fun a σ H'=>a0C H H'∧(∃ xs,H' d=some (.lst xs)∧Paired (Way H' i) xs (((List.range a).flatMap fun a=>(List.range (j - i)).map fun b=>(l+a,b)).filter pw))∧∃ x6 x7:Option V,σ=[some (.ref r),some (.int (l:Int)),some (.int (i:Int)),some (.int (j:Int)),some (oV (t l i j)),some (.ref d),x6,x7])
  ⟨s1,⟨[],g1,.nil⟩,_,_,rfl⟩ (fun a σ H2 ha hP=>?_) (fun σ H2 hP=>?_)
 ·obtain ⟨s2,⟨xs2,g2,w2⟩,x6,x7,rfl⟩:=hP
  have ea:(l:Int)+(a:Int)=((l+a:Nat):Int):=by push_cast;rfl
  rw [ea]
  refine ⟨_,rfl,_,_,rfl,rfl,_,rfl,_,_,rfl,rfl,_,_,rfl,⟨by omega,by omega,by omega,by omega⟩,?_⟩
  have e1:(((j:Int)+1) - ((i:Int)+1)).toNat=j - i:=by omega
  rw [e1]
  refine a0T (fun b σ H'=>a0C H H'∧(∃ xs,H' d=some (.lst xs)∧Paired (Way H' i) xs ((((List.range a).flatMap fun a=>(List.range (j - i)).map fun b=>(l+a,b))++(List.range b).map fun b=>(l+a,b)).filter pw))∧∃ x7:Option V,σ=[some (.ref r),some (.int (l:Int)),some (.int (i:Int)),some (.int (j:Int)),some (oV (t l i j)),some (.ref d),some (.int ((l+a:Nat):Int)),x7])
   ⟨s2,⟨xs2,g2,by rw [List.range_zero,List.map_nil,List.append_nil];exact w2⟩,_,rfl⟩ (fun b σ H3 hb hP=>?_) (fun σ H3 hP=>?_)
  ·obtain ⟨s3,⟨xs,g3,w3⟩,x7,rfl⟩:=hP
   have eb:(i:Int)+1+(b:Int)=((i+b+1:Nat):Int):=by push_cast;omega
   rw [eb]
   have pa3:=pa.same s3
   have hla:l+a < ps.length:=by omega
   have hb1:i+b+1 < ws.length+1:=by omega
   have lx:xs.length≤500:=by
    rw [w3.length]
    have h1:=fin a
    have h2:a * (j - i)≤10 * 20:=Nat.mul_le_mul (by omega) (by omega)
    rw [List.filter_append,List.length_append]
    have h3:=List.length_filter_le pw ((List.range b).map fun b=>(l+a,b))
    rw [List.length_map,List.length_range] at h3
    omega
   refine ⟨_,rfl,r,C,dx,_,_,rfl,s3 _ _ ho,rc.c,rc.nh,rfl,_,rfl,X.th,_,_,_,rfl,rfl,SqL.of pa3.hd.o,a0D hla,_,rfl,X.bh (l+a),_,_,_,rfl,rfl,SqL.of (pa3.hd.b (l+a) hla),a0D i1,_,rfl,X.ch (l+a) i,_,_,_,rfl,rfl,SqL.of (pa3.hd.c (l+a) i hla i1),a0D hb1,?_⟩
   refine ⟨_,rfl,r,C,dx,_,_,rfl,s3 _ _ ho,rc.c,rc.nt,rfl,_,rfl,_,_,rfl,rfl,X.tt,_,_,_,rfl,rfl,SqL.of pa3.tl.o,a0D (k:=l+a+1) (by omega),_,rfl,X.bt (l+a+1),_,_,_,rfl,rfl,SqL.of (pa3.tl.b (l+a+1) (by omega)),a0D hb1,_,rfl,X.ct (l+a+1) (i+b+1),_,_,_,rfl,rfl,SqL.of (pa3.tl.c (l+a+1) (i+b+1) (by omega) hb1),a0D j1,?_⟩
   refine ⟨_,_,rfl,_,rfl,scal_O _ _,_,rfl,?_⟩
   have ef:(((List.range a).flatMap fun a=>(List.range (j - i)).map fun b=>(l+a,b))++(List.range (b+1)).map fun b=>(l+a,b)).filter pw=(((List.range a).flatMap fun a=>(List.range (j - i)).map fun b=>(l+a,b))++(List.range b).map fun b=>(l+a,b)).filter pw++(if pw (l+a,b)=true then [(l+a,b)] else []):=by
    rw [List.range_succ,List.map_append,←List.append_assoc,List.filter_append]
    congr 1
    show [(l+a,b)].filter pw=_
    rw [List.filter_cons]
    rfl
   refine a2T (fun y=>?_) (fun y=>?_)
   ·have y1:pw (l+a,b)=true:=decide_eq_true (oV_inj (of_decide_eq_true y))
    refine ⟨_,rfl,.inl ⟨rfl,_,SqL.of g3⟩,_,rfl,_,rfl,(by show 2≤sizeLine;decide),fun tt htt=>?_⟩
    have s4:=a0h htt (.tup [.int ((l+a:Nat):Int),.int ((i+b+1:Nat):Int)])
    have g4:=s4 _ _ g3
    have ht4:upd H3 tt (.tup [.int ((l+a:Nat):Int),.int ((i+b+1:Nat):Int)]) tt=some (.tup [.int ((l+a:Nat):Int),.int ((i+b+1:Nat):Int)]):=a0d
    generalize upd H3 tt (.tup [.int ((l+a:Nat):Int),.int ((i+b+1:Nat):Int)])=H4 at s4 g4 ht4 ⊢
    refine ⟨d,_,_,rfl,rfl,g4,a0u (by omega),a0y hd (s3.trans s4),⟨_,a0d,?_⟩,_,rfl⟩
    rw [ef,if_pos y1]
    exact L2.Paired.appendP (Paired.mapP w3 fun _ _ r=>(r.same s4).upd g4) (.cons (Way.upd g4 ⟨tt,rfl,ht4⟩) .nil)
   ·have y1:¬ pw (l+a,b)=true:=fun z=>y (decide_eq_true (congrArg oV (of_decide_eq_true z)))
    exact ⟨s3,⟨xs,g3,by rw [ef,if_neg y1,List.append_nil];exact w3⟩,_,rfl⟩
  ·obtain ⟨s3,⟨xs,g3,w3⟩,x7,rfl⟩:=hP
   refine ⟨s3,⟨xs,g3,?_⟩,_,_,rfl⟩
   rw [List.range_succ,List.flatMap_append]
   simpa using w3
 ·obtain ⟨s2,⟨xs2,g2,w2⟩,x6,x7,rfl⟩:=hP
  exact ⟨_,rfl,q d xs2 H2 s2 g2 w2⟩
end
structure Tp (L n:Nat) (h t:Nat→Nat→Nat→OI) (F G:Nat→Nat→OI) (p:Nat→Int) (W:Nat→Nat→Int):Prop where
 dg:∀ l i,l≤L→i≤n→t l i i=some 0
 tt:∀ l i j,l≤L→i < j→j≤n→t l i j=lo ((CT.Bk L l (j - i)).map (CT.vl h t i j))
 hh:∀ l i j,l < L→i < j→j≤n→h l i j=oadd (some (p l * W i j)) (F i j)
 gg:∀ i j,i < j→j≤n→G i j=if j - i=1 then some 0 else lo ((CT.Bk L 0 (j - 1 - i)).map (CT.vl h t i j))
 le':∀ i j,i < j→j≤n→le (G i j) (F i j)
 pw:∀ l i j,l < L→i < j→j≤n→0 < p l * W i j
theorem Fin.tt {ps ws:List Int} {h t:Nat→Nat→Nat→OI} {F:Nat→Nat→OI} (a:Fin ps ws h t F (fun _ _=>True)):∀ k l i j,l+k=ps.length→i < j→j≤ws.length→t l i j=lo ((CT.Bk ps.length l (j - i)).map (CT.vl h t i j))
 | 0,l,i,j,hl,hij,hj=>by
  have e:l=ps.length:=by omega
  subst e
  rw [a.ed i j hij hj]
  unfold CT.Bk
  rw [Nat.sub_self]
  exact a4W.symm
 | k+1,l,i,j,hl,hij,hj=>by
  rw [(a.eq i j hij hj trivial).et l (by omega),a8r (by omega),List.map_append,a8s,a.tt k (l+1) i j (by omega) hij hj,List.map_map]
  rfl
theorem Fin.tp {ps ws:List Int} {h t:Nat→Nat→Nat→OI} {s:Nat} (a:Fin ps ws h t (S ps ws s) (fun _ _=>True)) (bp:Po ps) (bw:Po ws):Tp ps.length ws.length h t (S ps ws s) (S ps ws (s+1)) (pl ps) (Wt ws):=by
 refine ⟨a.dg,fun l i j hl hij hj=>a.tt (ps.length - l) l i j (by omega) hij hj,fun l i j hl hij hj=>(a.eq i j hij hj trivial).eh l hl,fun i j hij hj=>?_,fun i j hij _=>S_le s i j hij,fun l i j hl hij hj=>?_⟩
 ·show K47.bdO ps ws (S ps ws s) i j=_
  rw [←a.bdO i j hij hj]
  unfold bnd
  split
  ·rfl
  ·unfold CT.Bk
   rw [Nat.sub_zero,List.map_flatMap,a2E]
   congr 1
   refine List.map_congr_left fun l _=>?_
   rw [List.map_map,Nat.zero_add]
   rfl
 ·have h1:=b0R bp hl
  have h2:=b0Q bw hij hj
  exact Int.mul_pos (by omega) (by omega)
theorem a1t {L l i j:Nat} {h t:Nat→Nat→Nat→OI} {q:Nat × Nat}:q∈wys L h t l i j↔q∈CT.Bk L l (j - i)∧CT.vl h t i j q=t l i j:=by
 unfold wys
 rw [List.mem_filter,decide_eq_true_eq]
theorem a8t {a b:OI} (h:oadd a b≠none):a≠none∧b≠none:=by
 cases a <;> cases b <;> first | exact absurd rfl h | exact ⟨(by intro z;cases z),(by intro z;cases z)⟩
section
variable {L n:Nat} {h t:Nat→Nat→Nat→OI} {F G:Nat→Nat→OI} {p:Nat→Int} {W:Nat→Nat→Int}
theorem only (T:Tp L n h t F G p W) {i j:Nat} (hj:j≤n) (h2:i+2≤j) (hG:G i j≠none):∀ q∈wys L h t 0 i j,q.2+1 < j - i:=by
 intro q hq
 obtain ⟨hq,ev⟩:=a1t.mp hq
 by_cases z:q.2+1 < j - i
 ·exact z
 exfalso
 obtain ⟨_,q2,q3⟩:=CT.a1s.mp hq
 have e3:i+q.2+1=j:=by omega
 have es:CT.vl h t i j q=oadd (oadd (some (p q.1 * W i j)) (F i j)) (some 0):=by
  unfold CT.vl
  rw [e3,T.hh q.1 i j q2 (by omega) hj,T.dg (q.1+1) j (by omega) hj]
 have et:=T.tt 0 i j (Nat.zero_le _) (by omega) hj
 have eG:G i j=lo ((CT.Bk L 0 (j - 1 - i)).map (CT.vl h t i j)):=by
  rw [T.gg i j (by omega) hj,if_neg (by omega)]
 cases f:G i j with
 | none=>exact hG f
 | some x =>
  have hx:=(a0V.mp (eG.symm.trans f)).1
  obtain ⟨r,hr,er⟩:=List.mem_map.mp hx
  obtain ⟨a,b,c⟩:=CT.a1s.mp hr
  obtain ⟨m,em,hm⟩:=a4h (List.mem_map.mpr ⟨r,CT.a1s.mpr ⟨a,b,(by omega:r.2 < j - i)⟩,er⟩:some x∈(CT.Bk L 0 (j - i)).map (CT.vl h t i j))
  rw [←et] at em
  rw [es,em] at ev
  cases ff:F i j with
  | none=>rw [ff] at ev;cases ev
  | some y =>
   rw [ff] at ev
   have ev:some (p q.1 * W i j+y+0)=some m:=ev
   have:=Option.some.inj ev
   have pos:=T.pw q.1 i j q2 (by omega) hj
   obtain ⟨x',ex',hxy⟩:=T.le' i j (by omega) hj y ff
   rw [f] at ex'
   cases ex'
   omega
theorem a6d (T:Tp L n h t F G p W) {l i j:Nat} (hl:l < L) (hij:i < j) (hj:j≤n) (tn:t l i j≠none) {q:Nat × Nat} (hq:q∈wys L h t l i j):l≤q.1∧q.1 < L∧q.2+1≤j - i∧(q.2+1 < j - i→q.1+1 < L)∧F i (i+q.2+1)≠none∧t (q.1+1) (i+q.2+1) j≠none:=by
 obtain ⟨h1,h2⟩:=a1t.mp hq
 obtain ⟨a,b,c⟩:=CT.a1s.mp h1
 rw [←h2] at tn
 unfold CT.vl at tn
 obtain ⟨n1,n2⟩:=a8t tn
 rw [T.hh q.1 i (i+q.2+1) b (by omega) (by omega)] at n1
 refine ⟨a,b,by omega,fun hlt=>?_,(a8t n1).2,n2⟩
 by_cases e:q.1+1 < L
 ·exact e
 ·exfalso
  have eL:q.1+1=L:=by omega
  refine n2 ?_
  rw [T.tt (q.1+1) (i+q.2+1) j (by omega) (by omega) hj,eL]
  unfold CT.Bk
  rw [Nat.sub_self]
  exact a4W
theorem a8u (T:Tp L n h t F G p W) {l i j:Nat} (hl:l < L) (hij:i < j) (hj:j≤n) (tn:t l i j≠none):∃ q r,wys L h t l i j=q :: r:=by
 cases e:t l i j with
 | none=>exact absurd e tn
 | some x =>
  have et:=T.tt l i j (by omega) hij hj
  have hx:=(a0V.mp (et.symm.trans e)).1
  obtain ⟨q,hq,ev⟩:=List.mem_map.mp hx
  have hm:q∈wys L h t l i j:=a1t.mpr ⟨hq,by rw [ev,e]⟩
  cases eq:wys L h t l i j with
  | nil=>rw [eq] at hm;cases hm
  | cons q r=>exact ⟨q,r,rfl⟩
theorem b0S (T:Tp L n h t F G p W) {i j:Nat} (hij:i+2≤j) (hj:j≤n) (hG:G i j≠none):t 0 i j=G i j:=by
 have eG:G i j=lo ((CT.Bk L 0 (j - 1 - i)).map (CT.vl h t i j)):=by
  rw [T.gg i j (by omega) hj,if_neg (by omega)]
 have et:=T.tt 0 i j (Nat.zero_le _) (by omega) hj
 cases f:G i j with
 | none=>exact absurd f hG
 | some x =>
  have hx:=(a0V.mp (eG.symm.trans f)).1
  obtain ⟨r,hr,er⟩:=List.mem_map.mp hx
  obtain ⟨a,b,c⟩:=CT.a1s.mp hr
  obtain ⟨m,em,hm⟩:=a4h (List.mem_map.mpr ⟨r,CT.a1s.mpr ⟨a,b,(by omega:r.2 < j - i)⟩,er⟩:some x∈(CT.Bk L 0 (j - i)).map (CT.vl h t i j))
  rw [←et] at em
  have hy:=a0V.mp (et.symm.trans em)
  obtain ⟨q,hq,ev⟩:=List.mem_map.mp hy.1
  have:=only T hj hij hG q (a1t.mpr ⟨hq,by rw [ev,em]⟩)
  obtain ⟨a',b',c'⟩:=CT.a1s.mp hq
  have h3:=(a0V.mp (eG.symm.trans f)).2 m (List.mem_map.mpr ⟨q,CT.a1s.mpr ⟨a',b',by omega⟩,ev⟩)
  rw [em]
  congr 1
  omega
end
mutual
inductive Kc (L:Nat) (h t:Nat→Nat→Nat→Nat→OI):Nat→Nat→Nat→CT.Code→Prop
 | one (s i:Nat):Kc L h t s i (i+1) [[]]
 | more (s i j:Nat) (c:CT.Code):i+2≤j→Kt L h t s 0 i j c→Kc L h t (s+1) i j c
inductive Kt (L:Nat) (h t:Nat→Nat→Nat→Nat→OI):Nat→Nat→Nat→Nat→CT.Code→Prop
 | nil (s l j:Nat):Kt L h t s l j j []
 | cons (s l i j:Nat) (q:Nat × Nat) (c r:CT.Code):(wys L (h s) (t s) l i j).head?=some q→Kc L h t s i (i+q.2+1) c→Kt L h t s (q.1+1) (i+q.2+1) j r→Kt L h t s l i j (CT.ahd q.1 c++r)
end
theorem S_one {ps ws:List Int} {s i:Nat}:S ps ws s i (i+1)=some 0:=by
 cases s with
 | zero=>show gr i (i+1)=_;unfold gr;rw [if_pos (by omega)]
 | succ s=>show bdO ps ws _ i (i+1)=_;unfold bdO;rw [if_pos (by omega)]
theorem b0T {ps ws:List Int} {i j:Nat} (h:i+2≤j):S ps ws 0 i j=none:=by
 show gr i j=_
 unfold gr
 rw [if_neg (by omega)]
def a0I (T:Addr) (H H':Hp):Prop:=∀ a o,a≠T→H a=some o→H' a=some o
theorem a0I.trans {T:Addr} {H H1 H2:Hp} (a:a0I T H H1) (b:a0I T H1 H2):a0I T H H2:=fun x o n e=>b x o n (a x o n e)
theorem a0I.of {T:Addr} {H H':Hp} (s:a0C H H'):a0I T H H':=fun a o _ e=>s a o e
theorem a0N.same {H H':Hp} {T:Addr} {lpos:Pos} {q:Str} (s:a0C H H') (x:a0N H T lpos q):a0N H' T lpos q:=by
 rcases x with e | ⟨c,e,ec⟩
 ·exact .inl (s _ _ e)
 ·exact .inr ⟨c,s _ _ e,s _ _ ec⟩
theorem a0N.tb {H:Hp} {T:Addr} {lpos:Pos} {q:Str} (x:a0N H T lpos q):∃ ps,H T=some (.tbl ps):=by
 rcases x with e | ⟨c,e,_⟩
 ·exact ⟨_,e⟩
 ·exact ⟨_,e⟩
theorem PAt.sameT {C:Addr} {H H':Hp} {r p T:Addr} {ps ws:List Int} {X:Ad} {h t:Nat→Nat→Nat→OI} {qs:Array Value} (a:PAt C H r p ps ws X h t) (hT:H T=some (.tbl qs)) (k:a0I T H H'):PAt C H' r p ps ws X h t:=by
 obtain ⟨dx,ho⟩:=a.ob
 refine ⟨⟨dx,k _ _ (a0E ho hT (by intro z;cases z)) ho⟩,k _ _ (a0E a.hp hT (by intro z;cases z)) a.hp,k _ _ (a0E a.su hT (by intro z;cases z)) a.su,⟨k _ _ (a0E a.hd.o hT (by intro z;cases z)) a.hd.o,fun l hl=>k _ _ (a0E (a.hd.b l hl) hT (by intro z;cases z)) (a.hd.b l hl),fun l i hl hi=>k _ _ (a0E (a.hd.c l i hl hi) hT (by intro z;cases z)) (a.hd.c l i hl hi)⟩,⟨k _ _ (a0E a.tl.o hT (by intro z;cases z)) a.tl.o,fun l hl=>k _ _ (a0E (a.tl.b l hl) hT (by intro z;cases z)) (a.tl.b l hl),fun l i hl hi=>k _ _ (a0E (a.tl.c l i hl hi) hT (by intro z;cases z)) (a.tl.c l i hl hi)⟩,a.ih,a.it,a.ix,a.ns⟩
def a8v:Expr:=match a0m sBw with
 | [_,_,.Return (some (.Call _ [_,_,_,e] _ _)) _]=>e
 | _=>.Constant .none 0 ⟨0,0,0,0⟩
def lamP:Arguments:=match a8v with | .Lambda p _ _ _=>p | _=>a0o sBw
def lamB:Expr:=match a8v with | .Lambda _ b _ _=>b | e=>e
def a8w:Scope:=match a8v with | .Lambda _ _ s _=>s | _=>a0b sBw
def a2j:Pos:=match a8v with | .Lambda _ _ _ p=>p | _=>⟨0,0,0,0⟩
abbrev a4C:Str:=(("bounded_words":Str)++".<locals>.")++"<lambda>"
abbrev lamC (c1 c2:Addr):List (Str × Addr):=[("steps",c1),("beneath",c2)]
abbrev lamK (c1 c2:Addr) (c':Addr) (pm ctv:Value):Obj:=PySem.W.kla_obj "<lambda>" a4C lamP lamB a8w (lamC c1 c2) pm c' ctv
example:a8v=.Lambda lamP lamB a8w a2j:=rfl
theorem b2o (c1 c2:Addr):a4g a8w ["start","stop"] (lamC c1 c2):=⟨rfl,rfl,rfl,(by show (["start","stop","steps","beneath"]:List Str).Nodup;decide +kernel),by decide +kernel,by decide +kernel,(by show ∀ y∈a8w.names,y.2=.free→y.1∈(["steps","beneath"]:List Str);decide +kernel),(by show ∀ x∈(["steps","beneath"]:List Str),a8w.names.lookup x=some .free;decide +kernel)⟩
structure Stp (C:Addr) (H:Hp) (sa p:Addr) (ps ws:List Int) (k:Nat) (ra:Nat→Addr) (X:Nat→Ad) (h t:Nat→Nat→Nat→Nat→OI):Prop where
 o:H sa=some (.lst ((List.range k).map fun m=>V.ref (ra m)))
 pt:∀ m,m < k→PAt C H (ra m) p ps ws (X m) (h m) (t m)
structure En (ps ws:List Int) (k:Nat) (h t:Nat→Nat→Nat→Nat→OI):Prop where
 tb:∀ m,m < k→Tp ps.length ws.length (h m) (t m) (S ps ws m) (S ps ws (m+1)) (pl ps) (Wt ws)
 p2:2≤ps.length
 p10:ps.length≤10
 w20:ws.length≤20
 k25:k≤25
theorem Stp.same {C:Addr} {H H':Hp} {sa p:Addr} {ps ws:List Int} {k:Nat} {ra:Nat→Addr} {X:Nat→Ad} {h t:Nat→Nat→Nat→Nat→OI} (a:Stp C H sa p ps ws k ra X h t) (s:a0C H H'):Stp C H' sa p ps ws k ra X h t:=⟨s _ _ a.o,fun m hm=>(a.pt m hm).same s⟩
theorem Stp.sameT {C:Addr} {H H':Hp} {sa p T:Addr} {ps ws:List Int} {k:Nat} {ra:Nat→Addr} {X:Nat→Ad} {h t:Nat→Nat→Nat→Nat→OI} {qs:Array Value} (a:Stp C H sa p ps ws k ra X h t) (hT:H T=some (.tbl qs)) (s:a0I T H H'):Stp C H' sa p ps ws k ra X h t:=⟨s _ _ (a0E a.o hT (by intro z;cases z)) a.o,fun m hm=>(a.pt m hm).sameT hT s⟩
theorem a0S {as:List Addr} {H:Hp} (ex:Exs H as) {b:Addr} {o:HO} (e:H b=some o) (n:∀ oc,o≠exA b oc):L2.unt as H b=some o:=by
 rw [a0M (ex.out e n)]
 exact e
theorem PAt.unt {C:Addr} {H:Hp} {r p:Addr} {as:List Addr} {ps ws:List Int} {X:Ad} {h t:Nat→Nat→Nat→OI} (a:PAt C H r p ps ws X h t) (ex:Exs H as):PAt C (L2.unt as H) r p ps ws X h t:=by
 obtain ⟨dx,ho⟩:=a.ob
 refine ⟨⟨dx,a0S ex ho (by intro z y;cases y)⟩,a0S ex a.hp (by intro z y;cases y),a0S ex a.su (by intro z y;cases y),⟨a0S ex a.hd.o (by intro z y;cases y),fun l hl=>a0S ex (a.hd.b l hl) (by intro z y;cases y),fun l i hl hi=>a0S ex (a.hd.c l i hl hi) (by intro z y;cases y)⟩,⟨a0S ex a.tl.o (by intro z y;cases y),fun l hl=>a0S ex (a.tl.b l hl) (by intro z y;cases y),fun l i hl hi=>a0S ex (a.tl.c l i hl hi) (by intro z y;cases y)⟩,a.ih,a.it,a.ix,a.ns⟩
theorem Stp.unt {C:Addr} {H:Hp} {sa p:Addr} {as:List Addr} {ps ws:List Int} {k:Nat} {ra:Nat→Addr} {X:Nat→Ad} {h t:Nat→Nat→Nat→Nat→OI} (a:Stp C H sa p ps ws k ra X h t) (ex:Exs H as):Stp C (L2.unt as H) sa p ps ws k ra X h t:=⟨a0S ex a.o (by intro z y;cases y),fun m hm=>(a.pt m hm).unt ex⟩
theorem a0N.unt {H:Hp} {T:Addr} {as:List Addr} {lpos:Pos} {q:Str} (x:a0N H T lpos q) (ex:Exs H as) (hn:∀ c',H T=some (.tbl (a1g lpos c'))→c'∉as):a0N (L2.unt as H) T lpos q:=by
 rcases x with e | ⟨c',e,ec⟩
 ·exact .inl (a0S ex e (by intro z y;cases y))
 ·exact .inr ⟨c',a0S ex e (by intro z y;cases y),by rw [a0M (hn c' e)];exact ec⟩
section
variable {P':Program} {w:World} {K:PySem.W.Frag} {mg:Str→Option Value} {base:Heap} {f:Addr} {fd:FuncData}
structure Cok (L:Nat) (h t:Nat→Nat→Nat→Nat→OI) (s i j:Nat) (c:CT.Code):Prop where
 k:Kc L h t s i j c
 ln:c.length=j - i
 wd:∀ u∈c,u.length≤s
def a4Z (T:Addr) (H H':Hp):Prop:=a0N H' T a2j a4C∧∀ c',H T=some (.tbl (a1g a2j c'))→H' T=some (.tbl (a1g a2j c'))
abbrev NBw:List Str:=["steps","step","first","end","beneath"]
abbrev PBw:List Str:=["steps","step","first","end"]
abbrev PPw:List Str:=["parted","first","end","words_of"]
abbrev NPw:List Str:=["parted","first","end","words_of","words","letter","start","way"]
def spBw (C T:Addr) (d:Nat):Sp:=fun vs H Q _=>∃ (sa p:Addr) (ps ws:List Int) (k:Nat) (ra:Nat→Addr) (X:Nat→Ad) (h t:Nat→Nat→Nat→Nat→OI) (s i j:Nat),vs=[.ref sa,.int (s:Int),.int (i:Int),.int (j:Int)]∧Stp C H sa p ps ws k ra X h t∧En ps ws k h t∧s < k∧i < j∧j≤ws.length∧s≤d∧S ps ws s i j≠none∧a0N H T a2j a4C ∧
 ∀ (a:Addr) xs cde H',a0I T H H'→a4Z T H H'→H' a=some (.lst xs)→Ws H' xs cde→Cok ps.length h t s i j cde→Q (.ref a) H'
def lamR (C T:Addr) (d:Nat):Addr→List V→Hp→VK→Prop:=fun g vs H Q=>∃ (c1 c2 c':Addr) (pm ctv:Value) (o1 o2:Obj) (u1 u2:Value) (sa:Addr) (s:Nat),H g=some (exA g (lamK c1 c2 c' pm ctv))∧H c'=some (cdA c' a4C)∧c1≠c2∧H c1=some (exA c1 o1)∧o1.data=.cell (some u1)∧a1a (.ref sa) u1∧H c2=some (exA c2 o2)∧o2.data=.cell (some u2)∧a1a (.int (s:Int)) u2∧vs.length=2 ∧
 spBw C T d (.ref sa :: .int (s:Int) :: vs) (unt [c1,c2] H) (fun v H'=>H' c1=none→H' c2=none→Q v (rtk [c1,c2] H H')) E0
theorem a8x {C T:Addr} {d k:Nat} (OK:a0W P' w K mg base CX0 k f fd PBw (spBw C T d)) (mk:mg "bounded_words"=some (.ref f)) (kk:PySem.W.keepIn K (.ref f)=true) (bk:a1z K fd PBw []):a7N P' w K mg base (k+1) (lamR C T d) where
 at':=fun ⟨c1,c2,c',pm,ctv,o1,o2,u1,u2,sa,s,e,_⟩=>⟨_,_,_,_,e⟩
 run:=fun A outer s H g us vs Q hr e0 r' h=>by
  obtain ⟨c1,c2,c',pm,ctv,o1,o2,u1,u2,sa,st,eg,ec',ne,e1,d1,rv1,e2,d2,rv2,lv,hsp⟩:=h
  have lu:us.length=2:=by rw [←r'.length];exact lv
  refine a5W (k:=k) (cvs:=[.ref sa,.int (st:Int)]) (b2o c1 c2) hr e0 eg ec' (by simp [ne]) (fun i x c0 hi=>?_) rfl r' lv ?_ fun xe hr'=>⟨_,a0k OK hr' (by rfl) mk kk bk .nil a0A (a0a (pv 2) (a0a (pv 3) (a0a (pv 0) (a0a (pv 1) a0c)))),?_⟩
  ·cases i with
   | zero =>
    have hi:(("steps":Str),c1)=(x,c0):=Option.some.inj hi
    cases hi
    exact ⟨o1,u1,.ref sa,e1,d1,rfl,rv1⟩
   | succ i =>
    cases i with
    | zero =>
     have hi:(("beneath":Str),c2)=(x,c0):=Option.some.inj hi
     cases hi
     exact ⟨o2,u2,.int (st:Int),e2,d2,rfl,rv2⟩
    | succ i=>simp at hi
  ·match us,lu with
   | [u1,u2],_=>rfl
  ·match vs,lv,hsp with
   | [v1,v2],_,hsp =>
    refine ⟨_,rfl,_,rfl,_,rfl,_,rfl,?_⟩
    obtain ⟨sa',p,ps,ws,kk,ra,X,h,t,s',i,j,e,pa,en,hs,hij,hj,hd,sn,tab,q⟩:=hsp
    refine ⟨sa',p,ps,ws,kk,ra,X,h,t,s',i,j,e,pa,en,hs,hij,hj,hd,sn,tab,fun a xs cde H' s' tb' g' w' k' hn=>?_⟩
    exact q a xs cde H' s' tb' g' w' k' (hn c1 (by simp)) (hn c2 (by simp))
theorem a0I.upd {T d:Addr} {H H':Hp} {o:HO} (hd:H d=none) (s:a0I T H H'):a0I T H (L2.upd H' d o):=fun a u n e=>by
 rw [a0i (fun z=>by rw [z,hd] at e;cases e)]
 exact s a u n e
theorem a0I.rtk {T:Addr} {as:List Addr} {H H':Hp} (s:a0I T (L2.unt as H) H'):a0I T H (L2.rtk as H H'):=fun a o n e=>by
 by_cases z:a∈as
 ·rw [b0H z];exact e
 ·rw [a1x z];exact s a o n (by rw [a0M z];exact e)
theorem a4p {as:List Addr} {H H':Hp} (n:∀ c∈as,H' c=none):a0C H' (L2.rtk as H H'):=fun a o e=>by
 rw [a1x (fun z=>by rw [n a z] at e;cases e)]
 exact e
structure Clo (H:Hp) (g c1 c2 c' sa:Addr) (s:Nat):Prop where
 ex:∃ (pm ctv:Value) (o1 o2:Obj) (u1 u2:Value),H g=some (exA g (lamK c1 c2 c' pm ctv))∧H c'=some (cdA c' a4C)∧H c1=some (exA c1 o1)∧o1.data=.cell (some u1)∧a1a (.ref sa) u1∧H c2=some (exA c2 o2)∧o2.data=.cell (some u2)∧a1a (.int (s:Int)) u2
 ne:c'∉[c1,c2]
 nn:c1≠c2
theorem Clo.same {H H':Hp} {g c1 c2 c' sa T:Addr} {st:Nat} {qs:Array Value} (a:Clo H g c1 c2 c' sa st) (hT:H T=some (.tbl qs)) (s:a0I T H H'):Clo H' g c1 c2 c' sa st:=by
 obtain ⟨pm,ctv,o1,o2,u1,u2,e1,e2,e3,e4,e5,e6,e7,e8⟩:=a.ex
 exact ⟨⟨pm,ctv,o1,o2,u1,u2,s _ _ (a0E e1 hT (by intro z;cases z)) e1,s _ _ (a0E e2 hT (by intro z;cases z)) e2,s _ _ (a0E e3 hT (by intro z;cases z)) e3,e4,e5,s _ _ (a0E e6 hT (by intro z;cases z)) e6,e7,e8⟩,a.ne,a.nn⟩
def spPw (C T:Addr) (d:Nat):Sp:=fun vs H Q _=>∃ (sa p g c1 c2 c':Addr) (ps ws:List Int) (k:Nat) (ra:Nat→Addr) (X:Nat→Ad) (h t:Nat→Nat→Nat→Nat→OI) (s i j:Nat),vs=[.ref (ra s),.int (i:Int),.int (j:Int),.ref g]∧Stp C H sa p ps ws k ra X h t∧En ps ws k h t∧s < k∧i < j∧j≤ws.length∧s≤d∧t s 0 i j≠none∧H T=some (.tbl (a1g a2j c'))∧Clo H g c1 c2 c' sa s ∧
 ∀ (a:Addr) xs cde H',a0I T H H'→H' T=some (.tbl (a1g a2j c'))→H' a=some (.lst xs)→Ws H' xs cde→Kt ps.length h t s 0 i j cde→cde.length=j - i→(∀ u∈cde,u.length≤s+1)→Q (.ref a) H'
theorem a6e:a0r NPw PPw (a0b sPw):=⟨rfl,rfl,rfl,by decide +kernel,rfl,by decide +kernel,by decide +kernel⟩
theorem ndPw:(("word":Str) :: NPw).Nodup:=by decide +kernel
theorem b2p {C T:Addr} {d k:Nat} (hk:3≤k) (F:Fun K "parted_words" "parted_words" sPw f fd) (LO:a7N P' w K mg base k (lamR C T d)) (MW':Mt P' w K mg base C "ways" ["self","letter","first","end"] (a3U C) 3) (rcP:PC K C):a0W P' w K mg base CX0 (k+1) f fd PPw (spPw C T d):=by
 refine F.ok (k:=k) a6e (fun vs H Q E h=>?_) (fun cdv A outer s H vs Q E hr h=>?_)
 ·obtain ⟨sa,p,g,c1,c2,c',ps,ws,k,ra,X,h,t,st,i,j,rfl,_⟩:=h
  rfl
 obtain ⟨sa,p,g,c1,c2,c',ps,ws,k,ra,X,h,t,st,i,j,rfl,sp,en,hst,hij,hj,hd,tn,tab,clo,q⟩:=h
 have T':=en.tb st hst
 have p2:=en.p2
 have p10:=en.p10
 have w20:=en.w20
 have k25:=en.k25
 have MW:=MW'.up hk
 refine ⟨_,a0e (a0x (i:=4) a6e.nd rfl (Or.inl rfl) (a1q a0c))
  (a0e (a0x (i:=5) a6e.nd rfl (Or.inl rfl) a0f)
  (a0e (a0x (i:=6) a6e.nd rfl (Or.inl rfl) (pv 1))
  (a0e (a3Y PassesOwn.never (a0G a7f (pv 6) (pv 2) (nomark _))
   (a0e (a0x (i:=7) a6e.nd rfl (Or.inr rfl) (a0v a0n (a1D (pv 0) rcP.c MW.m MW.ok hr MW.b .nil a0A (a0a (pv 5) (a0a (pv 6) (a0a (pv 2) a0c)))) a0f (fun _ _=>rfl)))
   (a0e (a1w (a7q PySem.F.plainAttrs_list PySem.F.slot_list_extend PySem.F.type_list_extend a4P (pv 4) (a0a (a2r (M:=NPw) rfl (a0l.of (a0b sPw) NPw rfl rfl rfl (by decide +kernel) (by decide +kernel) (by decide +kernel) rfl (by decide +kernel)) ndPw rfl (b0D (a5X (i:=3) LO hr rfl (Or.inl rfl) (a0a (pv 6) (a0a (a0v a0Q (pv 7) a0f (fun _ _=>rfl)) a0c)))) b0E
    (fun cl C s0 H0 fp=>⟨a0P,a0t a7v (a1K (a0a (a0v (ixT K) (pv 8) a0f (fun _ _=>rfl)) a0c)) (pv 0)⟩)) a0c)))
   (a0e (a0x (i:=5) a6e.nd rfl (Or.inl rfl) (a0t a0F (a0v a0Q (pv 7) a0f (fun _ _=>rfl)) a0f))
   (a0g (a0x (i:=6) a6e.nd rfl (Or.inl rfl) (a0v a0Q (pv 7) a0f (fun _ _=>rfl)))))))
  )
  (a0g (a0q (pv 4)))))),?_⟩
 refine ⟨(by show 0≤sizeLine;decide),fun d1 hd1=>?_⟩
 have s1:a0C H (upd H d1 (.lst [])):=a0h hd1 _
 have g1:upd H d1 (.lst []) d1=some (.lst []):=a0d
 generalize upd H d1 (.lst [])=H1 at s1 g1 ⊢
 refine ⟨_,rfl,?_⟩
 refine ⟨fun m σ H'=>a0I T H H'∧H' T=some (.tbl (a1g a2j c'))∧∃ (l a:Nat) (acc:CT.Code) (xs:List V) (x7:Option V),m=j - a∧i≤a∧a≤j∧(a < j→l < ps.length∧t st l a j≠none)∧acc.length=a - i∧(∀ u∈acc,u.length≤st+1)∧(∀ rr,Kt ps.length h t st l a j rr→Kt ps.length h t st 0 i j (acc++rr))∧H' d1=some (.lst xs)∧Ws H' xs acc∧σ=[some (.ref (ra st)),some (.int (i:Int)),some (.int (j:Int)),some (.ref g),some (.ref d1),some (.int (l:Int)),some (.int (a:Int)),x7],
  ⟨_,a0I.of s1,s1 _ _ tab,0,i,[],[],_,rfl,Nat.le_refl _,by omega,fun _=>⟨by omega,tn⟩,by simp,fun u hu=>(by cases hu),fun rr hr=>hr,g1,.nil,rfl⟩,?_⟩
 rintro m σ H2 ⟨s2,tab2,l,a,acc,xs,x7,rfl,hia,haj,hl,lac,wac,kac,g2,w2,rfl⟩
 refine ⟨_,rfl,_,rfl,_,_,rfl,rfl,_,rfl,?_⟩
 refine a2T (fun z=>?_) (fun z=>?_)
 rotate_left
 ·have z1:a=j:=by
   have:¬ (a:Int) < (j:Int):=fun y=>z (decide_eq_true y)
   omega
  subst z1
  have kt:=kac [] (.nil st l a)
  rw [List.append_nil] at kt
  exact ⟨_,rfl,q d1 xs acc H2 s2 tab2 g2 w2 kt lac wac⟩
 have z1:a < j:=by
  have:(a:Int) < (j:Int):=of_decide_eq_true z
  omega
 obtain ⟨hl',tn'⟩:=hl z1
 have sp2:=sp.sameT tab s2
 have pa2:=sp2.pt st hst
 have clo2:=clo.same tab s2
 obtain ⟨dp,hop⟩:=pa2.ob
 obtain ⟨q0,qr,eqs⟩:=a8u T' hl' z1 hj tn'
 have hq0:q0∈wys ps.length (h st) (t st) l a j:=by rw [eqs];exact .head _
 obtain ⟨b1,b2,b3,b4,b5,b6⟩:=a6d T' hl' z1 hj tn' hq0
 refine ⟨_,fun σ' H' n'=>n',?_⟩
 refine ⟨_,rfl,ra st,dp,_,rfl,hop,rfl,_,rfl,_,rfl,_,rfl,ra st,p,ps,ws,X st,h st,t st,l,a,j,rfl,pa2,w20,p10,hl',z1,hj,fun d2 ys H3 s3 g3 w3=>?_⟩
 rw [eqs] at w3
 cases w3 with
 | cons rw0 wr =>
 obtain ⟨wt,rfl,hwt⟩:=rw0
 refine ⟨d2,_,_,_,rfl,rfl,SqL.of g3,(show atI (V.ref wt :: _) 0=some (V.ref wt) from a5Q (i:=0) rfl),?_⟩
 have g23:=s3 _ _ g2
 have tab3:=s3 _ _ tab2
 have clo3:=clo2.same tab2 (a0I.of s3)
 obtain ⟨pm,ctv,o1,o2,u1,u2,e1,e2,e3,e4,e5,e6,e7,e8⟩:=clo3.ex
 have sp3:=sp2.same s3
 have s03:a0I T H H3:=s2.trans (a0I.of s3)
 have ex3:Exs H3 [c1,c2]:=fun a ha=>by
  simp only [List.mem_cons,List.not_mem_nil,or_false] at ha
  rcases ha with rfl | rfl
  ·exact ⟨_,e3⟩
  ·exact ⟨_,e6⟩
 refine ⟨_,rfl,.inl ⟨rfl,_,SqL.of g23⟩,?_⟩
 refine ⟨fun v H'=>∃ al ws' cde,v=.ref al∧a0I T H3 H'∧H' T=some (.tbl (a1g a2j c'))∧H' al=some (.lst ws')∧Ws H' ws' cde∧Cok ps.length h t st a (a+q0.2+1) cde,?_,fun v H4 hv=>?_⟩
 ·refine ⟨g,_,_,_,_,rfl,e1,_,rfl,_,rfl,wt,_,_,_,rfl,rfl,SqT.of hwt,rfl,?_⟩
  refine ⟨c1,c2,c',pm,ctv,o1,o2,u1,u2,sa,st,e1,e2,clo3.nn,e3,e4,e5,e6,e7,e8,rfl,?_⟩
  have tu:a0N (unt [c1,c2] H3) T a2j a4C:=a0N.unt (.inr ⟨c',tab3,e2⟩) ex3 fun c2' e=>by
   rw [tab3] at e
   have:c'=c2':=by
    have h1:=HO.tbl.inj (Option.some.inj e)
    have h2:=congrArg (fun z:Array Value=>z[2]?) h1
    have h3:some (Value.ref c')=some (Value.ref c2'):=h2
    cases h3
    rfl
   rw [←this]
   exact clo3.ne
  refine ⟨sa,p,ps,ws,k,ra,X,h,t,st,a,a+q0.2+1,rfl,sp3.unt ex3,en,hst,by omega,by omega,hd,b5,tu,fun al ws' cde H' s' tb' g' w' k' hn1 hn2=>?_⟩
  have sk:=a4p (H:=H3) (as:=[c1,c2]) (H':=H') fun c hc=>by
   simp only [List.mem_cons,List.not_mem_nil,or_false] at hc
   rcases hc with rfl | rfl
   ·exact hn1
   ·exact hn2
  exact ⟨al,ws',cde,rfl,s'.rtk,sk _ _ (tb'.2 c' (a0S ex3 tab3 (by intro z y;cases y))),sk _ _ g',Ws.same sk w',k'⟩
 obtain ⟨al,ws',cde,rfl,s4,tab4,g4,w4,k4⟩:=hv
 have neT:∀ {b:Addr} {o:HO},H3 b=some o→(∀ qs,o≠.tbl qs)→H4 b=some o:=fun {b o} e n=>s4 _ _ (a0E e tab3 (n _)) e
 have g24:H4 d1=some (.lst xs):=neT g23 fun qs=>by intro z;cases z
 have hwt4:H4 wt=some (.tup [.int (q0.1:Int),.int ((a+q0.2+1:Nat):Int)]):=neT hwt fun qs=>by intro z;cases z
 have w24:Ws H4 xs acc:=Paired.mapP (Ws.same s3 w2) fun x y hx=>by
  obtain ⟨b,zs,rfl,e,pp⟩:=hx
  exact ⟨b,zs,rfl,neT e (fun qs=>by intro z;cases z),pp⟩
 have s04:a0I T H H4:=s03.trans s4
 have lw:ws'.length=cde.length:=w4.length
 refine ⟨al,_,rfl,SqL.of g4,fun e3' he3=>?_⟩
 refine ⟨fun kk H'=>a0C H4 H'∧∃ zs,H' e3'=some (.lst zs)∧Ws H' zs ((cde.take kk).map fun u=>((q0.1:Nat):Int) :: u),⟨a0h he3 _,[],a0d,.nil⟩,fun kk H' _ hP=>SqL.of (hP.1 _ _ g4),fun kk y H' hy hP=>?_,fun H5 hP=>?_⟩
 ·obtain ⟨s5,zs,g5,w5⟩:=hP
  obtain ⟨o,ho2,ru⟩:=Paired.right_of w4 kk y hy
  obtain ⟨ua,rfl,hua⟩:=Wd.ti ru
  have kl:=(List.getElem?_eq_some_iff.mp ho2).1
  have lu:=k4.wd o (List.mem_of_getElem? ho2)
  refine a0L ⟨_,rfl,wt,_,_,_,rfl,rfl,SqT.of (s5 _ _ hwt4),rfl,(by show 1≤sizeLine;decide),fun t1 ht1=>?_⟩
  have s6:=a0h ht1 (.tup [.int (q0.1:Int)])
  have h6:upd H' t1 (.tup [.int (q0.1:Int)]) t1=some (.tup [.int (q0.1:Int)]):=a0d
  generalize upd H' t1 (.tup [.int (q0.1:Int)])=H6 at s6 h6 ⊢
  refine ⟨_,rfl,t1,ua,_,_,rfl,rfl,h6,s6 _ _ (s5 _ _ hua),small (by rw [List.length_map,List.length_singleton];omega),fun p5 H7 s7 hp5=>?_⟩
  refine ⟨zs,s7 _ _ (s6 _ _ g5),a0u (by rw [w5.length,List.length_map,List.length_take,k4.ln];omega),a0y he3 ((s5.trans s6).trans s7),_,a0d,?_⟩
  rw [List.take_add_one,ho2,List.map_append]
  exact Paired.appendP (Ws.upd (s7 _ _ (s6 _ _ g5)) (Ws.same (s6.trans s7) w5)) (.cons (Wd.upd (s7 _ _ (s6 _ _ g5)) (Wd.of hp5)) .nil)
 obtain ⟨s5,zs5,g5,w5⟩:=hP
 rw [lw,List.take_length] at w5
 have lz:zs5.length=cde.length:=by rw [w5.length,List.length_map]
 have lx:xs.length=acc.length:=w2.length
 have g25:=s5 _ _ g24
 have hwt5:=s5 _ _ hwt4
 refine ⟨d1,e3',_,_,rfl,rfl,g25,g5,small (by rw [lx,lz,lac,k4.ln];omega),?_⟩
 have hwt6:upd H5 d1 (.lst (xs++zs5)) wt=some (.tup [.int (q0.1:Int),.int ((a+q0.2+1:Nat):Int)]):=by rw [a0i (a0E hwt5 g25 (by intro z;cases z))];exact hwt5
 have tab6:upd H5 d1 (.lst (xs++zs5)) T=some (.tbl (a1g a2j c')):=by rw [a0i (a0E (s5 _ _ tab4) g25 (by intro z;cases z))];exact s5 _ _ tab4
 have s06:a0I T H (upd H5 d1 (.lst (xs++zs5))):=(s04.trans (a0I.of s5)).upd hd1
 refine ⟨_,rfl,wt,_,_,_,rfl,rfl,SqT.of hwt6,rfl,_,_,rfl,rfl,?_⟩
 refine ⟨_,rfl,wt,_,_,_,rfl,rfl,SqT.of hwt6,rfl,?_⟩
 refine ⟨_,(by omega:j - (a+q0.2+1) < j - a),s06,tab6,q0.1+1,a+q0.2+1,acc++CT.ahd q0.1 cde,xs++zs5,_,rfl,by omega,by omega,fun y=>⟨b4 (by omega),b6⟩,?_,fun u hu=>?_,fun rr hrr=>?_,a0d,?_,rfl⟩
 ·rw [List.length_append,lac]
  unfold CT.ahd
  rw [List.length_map,k4.ln]
  omega
 ·rcases List.mem_append.mp hu with y | y
  ·exact wac u y
  ·unfold CT.ahd at y
   obtain ⟨v,hv,rfl⟩:=List.mem_map.mp y
   have:=k4.wd v hv
   rw [List.length_cons]
   omega
 ·rw [List.append_assoc]
  exact kac _ (.cons st l a j q0 cde rr (by rw [eqs];rfl) k4.k hrr)
 ·exact Ws.upd g25 (Paired.appendP (Ws.same s5 w24) w5)
structure LamC (K:PySem.W.Frag) (mg:Str→Option Value) (base:Heap) (c0 T bm:Addr):Prop where
 hd:PySem.W.codeHdIn K c0 T=true
 hbm:mg "__builtins__"=some (.ref bm)
 bo:∃ o,base.get? bm=some o∧o.cls=.type "module"∧o.dict=some builtinsNs∧o.data=.plain
 b1:bm≠builtinsNs
 b2:bm≠mainGlobals
 b3:bm≠T
 b4:mainGlobals≠T
theorem scBw:a0r NBw PBw (a0b sBw):=⟨rfl,rfl,rfl,by decide +kernel,rfl,by decide +kernel,by decide +kernel⟩
theorem ok_bw {C T c0 bm:Addr} {f2:Addr} {fd2:FuncData} (FK:Fun K "bounded_words" "bounded_words" sBw f fd) (hcd:fd.code=.ref c0) (LC:LamC K mg base c0 T bm) (mk:mg "bounded_words"=some (.ref f)) (kk:PySem.W.keepIn K (.ref f)=true) (bk:a1z K fd PBw []) (FP:Fun K "parted_words" "parted_words" sPw f2 fd2) (mp:mg "parted_words"=some (.ref f2)) (kp:PySem.W.keepIn K (.ref f2)=true) (bp:a1z K fd2 PPw []) (MW:Mt P' w K mg base C "ways" ["self","letter","first","end"] (a3U C) 3) (rcP:PC K C):∀ d,a0W P' w K mg base CX0 (3 * d+4) f fd PBw (spBw C T d):=by
 have one:∀ {H:Hp} {Q:VK} {L s i:Nat} {h t:Nat→Nat→Nat→Nat→OI},a0N H T a2j a4C→(∀ (a:Addr) xs cde H',a0I T H H'→a4Z T H H'→H' a=some (.lst xs)→Ws H' xs cde→Cok L h t s i (i+1) cde→Q (.ref a) H')→∀ t0:Addr,H t0=none→∀ l1:Addr,upd H t0 (.tup []) l1=none→Q (.ref l1) (upd (upd H t0 (.tup [])) l1 (.lst [.ref t0])):=fun {H Q L s i h t} tab q t0 ht0 l1 hl1=>by
  have s1:=a0h ht0 (.tup [])
  have h1:upd H t0 (.tup []) t0=some (.tup []):=a0d
  generalize upd H t0 (.tup [])=H1 at s1 h1 hl1 ⊢
  have s2:=a0h hl1 (.lst [.ref t0])
  have s12:=s1.trans s2
  exact q l1 [.ref t0] [[]] _ (a0I.of s12) ⟨a0N.same s12 tab,fun c' e=>s12 _ _ e⟩ a0d (.cons (Wd.of (w:=[]) (s2 _ _ h1)) .nil) ⟨.one s i,by simp,fun u hu=>by
   have:u=[]:=by simpa using hu
   subst this
   simp⟩
 intro d
 induction d with
 | zero =>
  refine FK.okC (k:=3) scBw (fun vs H Q E h=>?_) (fun A outer s H vs Q E hr h=>?_)
  ·obtain ⟨sa,p,ps,ws,k,ra,X,h,t,st,i,j,rfl,_⟩:=h
   rfl
  obtain ⟨sa,p,ps,ws,k,ra,X,h,t,st,i,j,rfl,sp,en,hst,hij,hj,hd,sn,tab,q⟩:=h
  refine ⟨_,a0e (a0Y (a0G a3E (a0t a1c (pv 3) (pv 2)) a0f (nomark _)) (a0g (a0q (a1q (a0a (a1K a0c) a0c)))) a0B)
   (a0e a8j (a0g a8j)),?_⟩
  refine ⟨_,rfl,_,rfl,_,_,rfl,rfl,rfl,_,rfl,?_⟩
  refine a2T (fun z=>?_) (fun z=>?_)
  ·have z1:j=i+1:=by
    have y:V.int ((j:Int) - (i:Int))=V.int 1:=of_decide_eq_true z
    have:=V.int.inj y
    omega
   subst z1
   exact ⟨(by show 0≤sizeLine;decide),fun t0 ht0=>⟨(by show 1≤sizeLine;decide),fun l1 hl1=>one tab q t0 ht0 l1 hl1⟩⟩
  ·have z1:¬ j - i=1:=fun y=>z (decide_eq_true (by show V.int ((j:Int) - (i:Int))=V.int 1;congr 1;omega))
   exfalso
   have:st=0:=by omega
   subst this
   exact sn (b0T (by omega))
 | succ d ih =>
  have LO:=a8x ih mk kk bk
  have OP:=b2p (by omega) FP LO MW rcP
  refine FK.okC (k:=3 * d+6) scBw (fun vs H Q E h=>?_) (fun A outer s H vs Q E hr h=>?_)
  ·obtain ⟨sa,p,ps,ws,k,ra,X,h,t,st,i,j,rfl,_⟩:=h
   rfl
  obtain ⟨sa,p,ps,ws,k,ra,X,h,t,st,i,j,rfl,sp,en,hst,hij,hj,hd,sn,tab,q⟩:=h
  have hcl:a5v (a5M CX0 P' w K mg base NBw "bounded_words" (a0b sBw) f fd.code A outer s H E).nox (lamC (s.heap.objs.size+1) (s.heap.objs.size+2)):=⟨fun q hq=>by
    simp only [List.mem_cons,List.not_mem_nil,or_false] at hq
    rcases hq with rfl | rfl <;> rfl,fun q hq=>rfl,fun q hq=>by
    simp only [List.mem_cons,List.not_mem_nil,or_false] at hq
    rcases hq with rfl | rfl <;> rfl⟩
  have LM:b1R (a5M CX0 P' w K mg base NBw "bounded_words" (a0b sBw) f fd.code A outer s H E).nox c0 T bm:=⟨hcd,LC.hd,LC.hbm,LC.bo,LC.b1,LC.b2,LC.b3,LC.b4⟩
  refine ⟨_,a0e (a0Y (a0G a3E (a0t a1c (pv 3) (pv 2)) a0f (nomark _)) (a0g (a0q (a1q (a0a (a1K a0c) a0c)))) a0B)
   (a0e (a0x (i:=4) scBw.nd rfl (Or.inr rfl) (a0t a1c (pv 1) a0f))
   (a0g (a0q (a5Z OP hr (by rfl) mp kp bp hcl (a0a (a0v a0n (pv 0) (pv 4) (fun _ _=>rfl)) (a0a (pv 2) (a0a (pv 3) (a0a (b0I LM (clos:=lamC (s.heap.objs.size+1) (s.heap.objs.size+2)) rfl) a0c)))))))),?_⟩
  refine ⟨_,rfl,_,rfl,_,_,rfl,rfl,rfl,_,rfl,?_⟩
  refine a2T (fun z=>?_) (fun z=>?_)
  ·have z1:j=i+1:=by
    have y:V.int ((j:Int) - (i:Int))=V.int 1:=of_decide_eq_true z
    have:=V.int.inj y
    omega
   subst z1
   exact ⟨(by show 0≤sizeLine;decide),fun t0 ht0=>⟨(by show 1≤sizeLine;decide),fun l1 hl1=>one tab q t0 ht0 l1 hl1⟩⟩
  have z1:¬ j - i=1:=fun y=>z (decide_eq_true (by show V.int ((j:Int) - (i:Int))=V.int 1;congr 1;omega))
  cases st with
  | zero=>exact absurd (b0T (by omega)) sn
  | succ st =>
  refine ⟨_,rfl,_,_,rfl,rfl,?_⟩
  have e0:((st+1:Nat):Int) - 1=(st:Int):=by omega
  dsimp only
  rw [e0]
  refine ⟨_,rfl,_,rfl,sa,_,_,_,rfl,rfl,SqL.of sp.o,a0D (k:=st) (by omega),_,rfl,_,rfl,tab,fun c' pm ctv g H2 L=>?_⟩
  intro os hos hnn
  have hn1:H2 (s.heap.objs.size+1)=none:=hnn _ (by simp)
  have hn2:H2 (s.heap.objs.size+2)=none:=hnn _ (by simp)
  obtain ⟨u1,hu1,hv1⟩:=hos 0 0 "steps" (s.heap.objs.size+1) (.ref sa) rfl rfl rfl
  obtain ⟨u2,hu2,hv2⟩:=hos 1 4 "beneath" (s.heap.objs.size+2) (.int (st:Int)) rfl rfl rfl
  have nn:s.heap.objs.size+1≠s.heap.objs.size+2:=by omega
  generalize s.heap.objs.size+1=c1 at hn1 hu1 L nn ⊢
  generalize s.heap.objs.size+2=c2 at hn2 hu2 L nn ⊢
  have hnc:∀ b∈[c1,c2],H2 b=none:=fun b hb=>by
   simp only [List.mem_cons,List.not_mem_nil,or_false] at hb
   rcases hb with rfl | rfl
   ·exact hn1
   ·exact hn2
  have st':a0C H2 (trk' [c1,c2] os H2):=fun b o e=>by
   rw [a1h (fun y=>by rw [hnc b y] at e;cases e)]
   exact e
  have sT:a0I T H H2:=fun b o n e=>L.ot b o n e
  obtain ⟨qs,etb⟩:=a0N.tb tab
  have tab2:trk' [c1,c2] os H2 T=some (.tbl (a1g a2j c')):=st' _ _ L.tb
  have ec1:trk' [c1,c2] os H2 c1=some (exA c1 (os c1)):=a5Y (by simp)
  have ec2:trk' [c1,c2] os H2 c2=some (exA c2 (os c2)):=a5Y (by simp)
  have ecd:=st' _ _ L.cd
  have tG:t st 0 i j≠none:=by
   rw [b0S (en.tb st (by omega)) (by omega) hj sn]
   exact sn
  refine ⟨sa,p,g,c1,c2,c',ps,ws,k,ra,X,h,t,st,i,j,rfl,(sp.sameT etb sT).same st',en,by omega,by omega,hj,by omega,tG,tab2,⟨⟨pm,ctv,os c1,os c2,u1,u2,st' _ _ L.ob,ecd,ec1,hu1,hv1,ec2,hu2,hv2⟩,(fun y=>by
   have:=L.cd
   rw [hnc _ y] at this
   cases this),nn⟩,fun a xs cde H3 s3 tab3 g3 w3 k3 l3 wd3=>?_⟩
  have e31:H3 c1=some (exA c1 (os c1)):=s3 _ _ (a0E ec1 tab2 (by intro y;cases y)) ec1
  have e32:H3 c2=some (exA c2 (os c2)):=s3 _ _ (a0E ec2 tab2 (by intro y;cases y)) ec2
  have ex3:Exs H3 [c1,c2]:=fun a ha=>by
   simp only [List.mem_cons,List.not_mem_nil,or_false] at ha
   rcases ha with rfl | rfl
   ·exact ⟨_,e31⟩
   ·exact ⟨_,e32⟩
  have out:∀ {b:Addr} {o:HO},H3 b=some o→b∉[c1,c2]→unt [c1,c2] H3 b=some o:=fun {b o} e n=>by
   rw [a0M n]
   exact e
  have nec:∀ {b:Addr} {o:HO},H2 b=some o→b∉[c1,c2]:=fun {b o} e y=>by rw [hnc b y] at e;cases e
  refine ⟨fun c2' hc2=>?_,q a xs cde _ (fun b o n e=>?_) ⟨.inr ⟨c',out tab3 (nec L.tb),out (s3 _ _ (a0E ecd tab2 (by intro y;cases y)) ecd) (nec L.cd)⟩,fun c2 e=>?_⟩ ?_ ?_ ⟨.more st i j cde (by omega) k3,l3,wd3⟩⟩
  ·simp only [List.map_cons,List.map_nil,List.mem_cons,List.not_mem_nil,or_false] at hc2
   rcases hc2 with rfl | rfl
   ·exact e31
   ·exact e32
  ·have e2:=L.ot b o n e
   exact out (s3 _ _ n (st' _ _ e2)) (nec e2)
  ·rw [L.sm c2 e];exact out tab3 (nec L.tb)
  ·exact a0S ex3 g3 (by intro z y;cases y)
  ·exact Paired.mapP w3 fun x y hx=>by
    obtain ⟨b,zs,rfl,e,pp⟩:=hx
    exact ⟨b,zs,rfl,a0S ex3 e (by intro z y;cases y),pp⟩
end
def Ins (H:Hp) (zs:List V):Prop:=∀ z∈zs,∃ x,z=.ref x∧∃ C dx fs,H x=some (.ins C dx fs)
theorem a1Y {H:Hp} {d b:Addr} {zs ys:List V} {y:V} (hd:H d=some (.lst zs)) (hz:Ins H zs) (hb:H b=some (.lst ys)) (hy:y∈ys) (n:∀ x,y=.ref x→∀ C dx fs,H x≠some (.ins C dx fs)):b≠d:=fun e=>by
 subst e
 rw [hd] at hb
 cases hb
 obtain ⟨x,e1,C,dx,fs,e2⟩:=hz y hy
 exact n x e1 C dx fs e2
theorem oV_ref {o:OI} {x:Addr} (h:oV o=.ref x):False:=by cases o <;> cases h
theorem a5x {f:Nat→V} {n:Nat} (h:0 < n):f 0∈(List.range n).map f:=List.mem_map.mpr ⟨0,List.mem_range.mpr h,rfl⟩
theorem Tb.updL {H:Hp} {a:Addr} {ba:Nat→Addr} {ca:Nat→Nat→Addr} {L s:Nat} {T:Nat→Nat→Nat→OI} {d:Addr} {zs:List V} {o:HO} (h:Tb H a ba ca L s T) (hL:0 < L) (hs:0 < s) (hd:H d=some (.lst zs)) (hz:Ins H zs):Tb (upd H d o) a ba ca L s T:=by
 have k1:∀ l i,l < L→i < s→ca l i≠d:=fun l i hl hi=>a1Y hd hz (h.c l i hl hi) (a5x hs) fun x e=>(oV_ref e).elim
 have k2:∀ l,l < L→ba l≠d:=fun l hl=>a1Y hd hz (h.b l hl) (a5x hs) fun x e C dx fs e2=>by
  cases e
  rw [h.c l 0 hl hs] at e2
  cases e2
 have k3:a≠d:=a1Y hd hz h.o (a5x hL) fun x e C dx fs e2=>by
  cases e
  rw [h.b 0 hL] at e2
  cases e2
 exact ⟨by rw [a0i k3];exact h.o,fun l hl=>by rw [a0i (k2 l hl)];exact h.b l hl,fun l i hl hi=>by rw [a0i (k1 l i hl hi)];exact h.c l i hl hi⟩
theorem PAt.updL {C:Addr} {H:Hp} {r p:Addr} {ps ws:List Int} {X:Ad} {h t:Nat→Nat→Nat→OI} {d:Addr} {zs:List V} {o:HO} (a:PAt C H r p ps ws X h t) (hp:0 < ps.length) (hd:H d=some (.lst zs)) (hz:Ins H zs):PAt C (upd H d o) r p ps ws X h t:=by
 obtain ⟨dx,ho⟩:=a.ob
 have su:X.su≠d:=a1Y hd hz a.su (List.mem_map.mpr ⟨_,List.mem_map.mpr ⟨0,List.mem_range.mpr (by omega),rfl⟩,rfl⟩) fun x e=>by cases e
 exact ⟨⟨dx,by rw [a0i (a0E ho hd (by intro z;cases z))];exact ho⟩,by show upd _ _ _ _=_;rw [a0i (a0E a.hp hd (by intro z;cases z))];exact a.hp,by rw [a0i su];exact a.su,a.hd.updL hp (by omega) hd hz,a.tl.updL (by omega) (by omega) hd hz,a.ih,a.it,a.ix,a.ns⟩
section
variable {P':Program} {w:World} {K:PySem.W.Frag} {mg:Str→Option Value} {base:Heap} {f:Addr} {fd:FuncData}
abbrev NCb:List Str:=["prices","weights","top","stairs","least_cost","steps"]
abbrev PCb:List Str:=["prices","weights","top"]
def FndB (H:Hp) (a d:Addr) (ps ws:List Int) (tp:Nat):Prop:=(S ps ws tp 0 ws.length=none∧H a=some (.tup [.non,.non,.ref d])) ∨
 (S ps ws tp 0 ws.length≠none∧∃ (ca:Addr) (xs:List V) (cde:CT.Code) (h t:Nat→Nat→Nat→Nat→OI),H a=some (.tup [oV (S ps ws tp 0 ws.length),.ref ca,.ref d])∧H ca=some (.tup xs)∧Ws H xs cde∧Cok ps.length h t tp 0 ws.length cde∧En ps ws (tp+1) h t)
def spCb (T:Addr):Sp:=fun vs H Q _=>∃ (p q:Addr) (ps ws:List Int) (tp:Nat),vs=[.ref p,.ref q,.int (tp:Int)]∧TW H p ps∧TW H q ws∧Num ps ws∧Po ps∧Po ws∧tp≤24∧a0N H T a2j a4C ∧
 ∀ (a d:Addr) da ra H',a0I T H H'→a4Z T H H'→StO H' d da ra (tp+1) ws.length (S ps ws)→FndB H' a d ps ws tp→Q (.ref a) H'
theorem scCb:a0r NCb PCb (a0b sCb):=⟨rfl,rfl,rfl,by decide +kernel,rfl,by decide +kernel,by decide +kernel⟩
theorem ndCb:(("floors":Str) :: NCb).Nodup:=by decide +kernel
theorem a4q {F:Nat→Nat→OI} {n:Nat} (h:1≤n):atI ((a6b F n 0).map oV) (-1)=some (oV (F 0 n)):=by
 have hr0:a6b F n 0=(List.range (n - 1)).map (fun b=>F 0 (0+b+1))++[F 0 n]:=by
  show (List.range (n - 0)).map _=_
  rw [show n - 0=(n - 1)+1 by omega,List.range_succ,List.map_append]
  show _++[F 0 (0+(n - 1)+1)]=_
  rw [show 0+(n - 1)+1=n by omega]
 rw [hr0,List.map_append]
 exact a4d _ _
theorem ok_cb {C T:Addr} {k:Nat} (hk:7≤k) (F:Fun K "cheapest_bounded" "cheapest_bounded" sCb f fd) (GS:a7C P' w K mg base ["prices","weights","top"] "least_stairs" a4n k) (GP:Fns P' w K mg base ["prices","weights","floors"] "parted_by" (spPb C) k) (GB:Fns P' w K mg base PBw "bounded_words" (spBw C T 24) k) (ml:mg "len"=none) (mt:mg "tuple"=none):a0W P' w K mg base CX0 (k+1) f fd PCb (spCb T):=by
 refine F.ok (k:=k) scCb (fun vs H Q E h=>?_) (fun cdv A outer s H vs Q E hr h=>?_)
 ·obtain ⟨p,q,ps,ws,tp,rfl,_⟩:=h
  rfl
 obtain ⟨p,q,ps,ws,tp,rfl,hp,hq,nu,pp,pw,t24,tab,qq⟩:=h
 have w1:=nu.w1
 have w20:=nu.w20
 have p2:=nu.p2
 refine ⟨_,a0e (a0x (i:=3) scCb.nd rfl (Or.inl rfl) (a0k GS.ok hr (by rfl) GS.m GS.kp GS.b .nil b1I (a0a (pv 0) (a0a (pv 1) (a0a (pv 2) a0c)))))
  (a0e (a0x (i:=4) scCb.nd rfl (Or.inl rfl) (a0v a0n (a0v a0n (a0v a0n (pv 3) (pv 2) (fun _ _=>rfl)) a0f (fun _ _=>rfl)) (a2m a1v a0f) (fun _ _=>rfl)))
  (a0e (a0Y (a0G b0z (pv 4) a1m (nomark _)) (a0g (a0q (a1K (a0a a1m (a0a a1m (a0a (pv 3) a0c)))))) a0B)
  (a0e (a9E (i:=5) (M:=NCb) scCb.nd rfl rfl rfl (a0l.of (a0b sCb) NCb rfl rfl rfl (by decide +kernel) (by decide +kernel) (by decide +kernel) rfl (by decide +kernel)) ndCb rfl (pv 3) a0X
   (fun cl C s0 H0 fp=>⟨a0P,a0k GP.ok hr (by rfl) GP.m GP.kp GP.b .nil a0A (a0a (pv 1) (a0a (pv 2) (a0a (pv 0) a0c)))⟩))
  (a0g (a0q (a1K (a0a (pv 4) (a0a (a2n a1E (by rfl) mt a5q (a0a (a0k GB.ok hr (by rfl) GB.m GB.kp GB.b .nil a0A (a0a (pv 5) (a0a (pv 2) (a0a a0f (a0a (a0s a0j (by rfl) ml PySem.boot_len (a0a (pv 1) a0c)) a0c))))) a0c)) (a0a (pv 3) a0c))))))))),?_⟩
 refine ⟨_,rfl,_,rfl,_,rfl,p,q,ps,ws,tp,rfl,hp,hq,nu,t24,fun d da ra H1 cs=>?_⟩
 have s1:=cs.same
 have st1:=cs.st
 refine ⟨_,rfl,_,rfl,d,_,_,_,rfl,rfl,SqL.of st1.o,a0D (k:=tp) (by omega),da tp,_,_,_,rfl,rfl,SqL.of (st1.r tp (by omega)).o,a0D (k:=0) (by omega),_,rfl,ra tp 0,_,_,_,rfl,rfl,SqL.of ((st1.r tp (by omega)).r 0 (by omega)),a4q w1,?_⟩
 refine ⟨_,rfl,rfl,_,rfl,a2T (fun z=>?_) (fun z=>?_)⟩
 ·have en:S ps ws tp 0 ws.length=none:=by
   cases e:S ps ws tp 0 ws.length with
   | none=>rfl
   | some x=>rw [e] at z;cases z
  refine ⟨_,rfl,(by show 3≤sizeLine;decide),fun a ha=>?_⟩
  have s2:=a0h ha (.tup [.non,.non,.ref d])
  have s12:=s1.trans s2
  exact qq a d da ra _ (a0I.of s12) ⟨a0N.same s12 tab,fun c' e=>s12 _ _ e⟩ (st1.same s2) (.inl ⟨en,a0d⟩)
 have sn:S ps ws tp 0 ws.length≠none:=fun e=>z (by rw [e];rfl)
 refine ⟨_,rfl,d,_,rfl,SqL.of st1.o,fun d5 hd5=>?_⟩
 refine ⟨fun m H'=>a0C H1 H'∧∃ (r5:Nat→Addr) (X:Nat→Ad) (h t:Nat→Nat→Nat→Nat→OI),H' d5=some (.lst ((List.range m).map fun i=>V.ref (r5 i)))∧∀ i,i < m→PAt C H' (r5 i) p ps ws (X i) (h i) (t i)∧Fin ps ws (h i) (t i) (S ps ws i) (fun _ _=>True),
  ⟨a0h hd5 _,fun _=>d5,fun _=>⟨d5,d5,d5,fun _=>d5,fun _ _=>d5,fun _=>d5,fun _ _=>d5⟩,fun _ _ _ _=>none,fun _ _ _ _=>none,a0d,fun i hi=>absurd hi (Nat.not_lt_zero _)⟩,fun m H' _ hP=>SqL.of (hP.1 _ _ st1.o),fun m x H2 hx hP=>?_,fun H2 hP=>?_⟩
 ·obtain ⟨s2,r5,X,h,t,g5,al⟩:=hP
  have hm:=(List.getElem?_eq_some_iff.mp hx).1
  rw [List.length_map,List.length_range] at hm
  rw [List.getElem?_map,List.getElem?_range hm] at hx
  have ex:V.ref (da m)=x:=Option.some.inj hx
  subst ex
  have st2:=st1.same s2
  refine a0L ⟨_,rfl,_,rfl,_,rfl,p,q,da m,ps,ws,ra m,S ps ws m,rfl,(s1.trans s2) _ _ hp,(s1.trans s2) _ _ hq,st2.r m hm,nu,fun r Xr hr' tr H3 s3 pa fn=>?_⟩
  have g53:=s3 _ _ g5
  have ins:Ins H3 ((List.range m).map fun i=>V.ref (r5 i)):=fun z hz=>by
   obtain ⟨i,hi,rfl⟩:=List.mem_map.mp hz
   obtain ⟨dx,ho⟩:=(al i (List.mem_range.mp hi)).1.ob
   exact ⟨_,rfl,_,_,_,s3 _ _ ho⟩
  refine ⟨_,g53,(by rw [List.length_map,List.length_range];exact a0u (by omega)),a0y hd5 (s2.trans s3),ext r5 m r,ext X m Xr,ext h m hr',ext t m tr,?_,fun i hi=>?_⟩
  ·rw [a0d,List.range_succ,List.map_append]
   refine congrArg (fun z=>some (HO.lst z)) ?_
   congr 1
   ·refine List.map_congr_left fun i hi=>?_
    rw [a0w (by have:=List.mem_range.mp hi;omega)]
   ·show [V.ref r]=[V.ref (ext r5 m r m)]
    rw [a0p rfl]
  ·by_cases e:i=m
   ·rw [a0p e,a0p e,a0p e,a0p e,e]
    exact ⟨pa.updL (by omega) g53 ins,fn⟩
   ·rw [a0w e,a0w e,a0w e,a0w e]
    obtain ⟨a1,a2⟩:=al i (by omega)
    exact ⟨(a1.same s3).updL (by omega) g53 ins,a2⟩
 obtain ⟨s2,r5,X,h,t,g5,al⟩:=hP
 rw [List.length_map,List.length_range] at g5 al
 have en:En ps ws (tp+1) h t:=⟨fun m hm=>(al m hm).2.tp pp pw,p2,nu.p10,w20,by omega⟩
 have s12:=s1.trans s2
 have tab2:=a0N.same s12 tab
 refine ⟨_,rfl,_,rfl,_,rfl,_,rfl,q,_,rfl,.inr (SqT.of (s12 _ _ hq)),?_⟩
 rw [List.length_map]
 refine ⟨d5,p,ps,ws,tp+1,r5,X,h,t,tp,0,ws.length,rfl,⟨g5,fun m hm=>(al m hm).1⟩,en,by omega,by omega,Nat.le_refl _,t24,sn,tab2,fun al' xs cde H3 s3 tb3 g3 w3 k3=>?_⟩
 refine ⟨al',_,rfl,.inl ⟨SqL.of g3,fun ca hca=>?_⟩⟩
 have s4:=a0h hca (.tup xs)
 have g4:upd H3 ca (.tup xs) ca=some (.tup xs):=a0d
 generalize upd H3 ca (.tup xs)=H4 at s4 g4 ⊢
 refine ⟨_,rfl,(by show 3≤sizeLine;decide),fun a ha=>?_⟩
 have s5:=a0h ha (.tup [oV (S ps ws tp 0 ws.length),.ref ca,.ref d])
 have s45:=s4.trans s5
 obtain ⟨qs,etb⟩:=a0N.tb tab2
 have st2:=st1.same s2
 have kl:∀ {b:Addr} {zs:List V},H2 b=some (.lst zs)→upd H4 a (.tup [oV (S ps ws tp 0 ws.length),.ref ca,.ref d]) b=some (.lst zs):=fun {b zs} e=>s45 _ _ (s3 _ _ (a0E e etb (by intro z;cases z)) e)
 refine qq a d da ra _ ?_ ?_ ⟨kl st2.o,fun i hi=>⟨kl (st2.r i hi).o,fun j hj=>kl ((st2.r i hi).r j hj)⟩⟩ (.inr ⟨sn,ca,xs,cde,h,t,a0d,s5 _ _ g4,Ws.same s45 w3,k3,en⟩)
 ·exact ((a0I.of s12).trans s3).trans (a0I.of s45)
 ·exact ⟨a0N.same s45 tb3.1,fun c' e=>s45 _ _ (tb3.2 c' (s12 _ _ e))⟩
end
namespace CT
def pc (ps:List Int) (u:List Int):Int:=(u.map fun x=>ps.getD x.toNat 0).sum
def co (ps ws:List Int) (i:Nat) (c:Code):Int:=(List.zipWith (fun w u=>w * pc ps u) (ws.drop i) c).sum
theorem a5a {ps ws:List Int} {i:Nat}:co ps ws i []=0:=by unfold co;rw [List.zipWith_nil_right];rfl
theorem a2Q (ws:List Int) (i:Nat):(ws.length≤i∧ws.drop i=[])∨∃ w,i < ws.length∧ws.drop i=w :: ws.drop (i+1)∧(ws.take (i+1)).sum=(ws.take i).sum+w:=by
 by_cases h:i < ws.length
 ·refine .inr ⟨ws[i],h,List.drop_eq_getElem_cons h,?_⟩
  rw [List.take_succ_eq_append_getElem h,List.sum_append]
  simp
 ·exact .inl ⟨by omega,List.drop_eq_nil_of_le (by omega)⟩
theorem a8y {ps ws:List Int} {i:Nat}:co ps ws i [[]]=0:=by
 unfold co
 rcases a2Q ws i with ⟨_,e⟩ | ⟨w,_,e,_⟩
 ·rw [e];rfl
 ·rw [e]
  show (w * pc ps [] :: List.zipWith _ _ []).sum=0
  rw [List.zipWith_nil_right]
  show w * 0+0=0
  omega
theorem a8z {ps ws:List Int} {l:Nat} {r:Code}:∀ (c:Code) (i:Nat),co ps ws i (ahd l c++r)=pl ps l * Wt ws i (i+c.length)+co ps ws i c+co ps ws (i+c.length) r
 | [],i=>by
  rw [a5a]
  show co ps ws i r=pl ps l * Wt ws i (i+0)+0+co ps ws (i+0) r
  unfold Wt
  rw [Nat.add_zero,Int.sub_self,Int.mul_zero]
  omega
 | u :: c,i=>by
  have ih:=a8z (ps:=ps) (ws:=ws) (l:=l) (r:=r) c (i+1)
  rw [show i+1+c.length=i+(u :: c).length by rw [List.length_cons];omega] at ih
  rcases a2Q ws i with ⟨hn,e⟩ | ⟨w,hn,e,es⟩
  ·have e2:ws.drop (i+(u :: c).length)=[]:=List.drop_eq_nil_of_le (by omega)
   unfold co
   rw [e,e2,List.zipWith_nil_left,List.zipWith_nil_left,List.zipWith_nil_left]
   unfold Wt
   rw [List.take_of_length_le (by omega),List.take_of_length_le (by omega),Int.sub_self,Int.mul_zero]
   rfl
  ·have e1:co ps ws i (ahd l (u :: c)++r)=w * pc ps ((l:Int) :: u)+co ps ws (i+1) (ahd l c++r):=by
    unfold co
    rw [e]
    exact List.sum_cons
   have e2:co ps ws i (u :: c)=w * pc ps u+co ps ws (i+1) c:=by
    unfold co
    rw [e]
    exact List.sum_cons
   have e3:pc ps ((l:Int) :: u)=pl ps l+pc ps u:=by
    unfold pc
    rw [List.map_cons,List.sum_cons]
    rfl
   have e4:Wt ws i (i+(u :: c).length)=w+Wt ws (i+1) (i+(u :: c).length):=by
    unfold Wt
    omega
   rw [e1,e2,e3,e4,ih,Int.mul_add,Int.mul_add,Int.mul_comm w (pl ps l)]
   omega
theorem a5b {ps ws:List Int}:∀ (a b:Code) (i:Nat),co ps ws i (a++b)=co ps ws i a+co ps ws (i+a.length) b
 | [],b,i=>by
  rw [a5a]
  show co ps ws i b=0+co ps ws (i+0) b
  rw [Nat.add_zero]
  omega
 | u :: a,b,i=>by
  have ih:=a5b (ps:=ps) (ws:=ws) a b (i+1)
  rw [show i+1+a.length=i+(u :: a).length by rw [List.length_cons];omega] at ih
  rcases a2Q ws i with ⟨hn,e⟩ | ⟨w,hn,e,es⟩
  ·have e2:ws.drop (i+(u :: a).length)=[]:=List.drop_eq_nil_of_le (by omega)
   unfold co
   rw [e,e2,List.zipWith_nil_left,List.zipWith_nil_left,List.zipWith_nil_left]
   rfl
  ·have e1:co ps ws i ((u :: a)++b)=w * pc ps u+co ps ws (i+1) (a++b):=by
    unfold co
    rw [e]
    exact List.sum_cons
   have e2:co ps ws i (u :: a)=w * pc ps u+co ps ws (i+1) a:=by
    unfold co
    rw [e]
    exact List.sum_cons
   rw [e1,e2,ih]
   omega
end CT
def stp (cs:List CT.Code) (l:Nat) (some':List CT.Code):List CT.Code:=cs.flatMap fun ws=>some'.map fun hv=>hv++CT.ahd l ws
def comb (cd:Nat→Nat→List CT.Code) (acc:List CT.Code):Pa→List CT.Code
 | []=>acc
 | q :: r=>comb cd (stp (cd q.1 q.2.1) q.2.2 acc) r
def cds (L:Nat):Nat→Nat→Nat→List CT.Code
 | 0,_,_=>[]
 | d+1,i,j=>if j - i=1 then [[[]]] else (P L 0 i j).flatMap fun pr=>if 1 < pr.length then comb (cds L d) [[]] pr else []
theorem a8A {q:Nat × Nat × Nat} {r:Pa}:∀ m l i j,q :: r∈P m l i j→q.1=i∧i < q.2.1∧q.2.1≤j∧l≤q.2.2∧q.2.2 < l+m∧r∈P (l+m - (q.2.2+1)) (q.2.2+1) q.2.1 j
 | 0,l,i,j,h=>by
  unfold P at h
  split at h
  ·simp at h
  ·cases h
 | m+1,l,i,j,h=>by
  rw [a1N] at h
  split at h
  ·simp at h
  ·rcases List.mem_append.mp h with h | h
   ·obtain ⟨b,hb,h⟩:=List.mem_flatMap.mp h
    obtain ⟨r',hr,e⟩:=List.mem_map.mp h
    have hb:=List.mem_range.mp hb
    cases e
    refine ⟨rfl,by show i < i+b+1;omega,by show i+b+1≤j;omega,Nat.le_refl _,by show l < l+(m+1);omega,?_⟩
    show r∈P (l+(m+1) - (l+1)) (l+1) (i+b+1) j
    rw [show l+(m+1) - (l+1)=m by omega]
    exact hr
   ·obtain ⟨h1,h2,h3,h4,h5,h6⟩:=a8A m (l+1) i j h
    refine ⟨h1,h2,h3,by omega,by omega,?_⟩
    rw [show l+(m+1) - (q.2.2+1)=l+1+m - (q.2.2+1) by omega]
    exact h6
theorem b2q {q:Nat × Nat × Nat} {r:Pa}:∀ m l i j,q.1=i→i < q.2.1→q.2.1≤j→l≤q.2.2→q.2.2 < l+m→r∈P (l+m - (q.2.2+1)) (q.2.2+1) q.2.1 j→q :: r∈P m l i j
 | 0,l,i,j,_,_,_,h4,h5,_=>by omega
 | m+1,l,i,j,h1,h2,h3,h4,h5,h6=>by
  rw [a1N,if_neg (by omega)]
  by_cases e:q.2.2=l
  ·refine List.mem_append_left _ (List.mem_flatMap.mpr ⟨q.2.1 - i - 1,List.mem_range.mpr (by omega),List.mem_map.mpr ⟨r,?_,?_⟩⟩)
   ·rw [show i+(q.2.1 - i - 1)+1=q.2.1 by omega]
    rw [e,show l+(m+1) - (l+1)=m by omega] at h6
    exact h6
   ·obtain ⟨a,b,c⟩:=q
    have h1:a=i:=h1
    have e:c=l:=e
    subst h1 e
    show (a,a+(b - a - 1)+1,c) :: r=(a,b,c) :: r
    have h2:a < b:=h2
    rw [show a+(b - a - 1)+1=b by omega]
  ·refine List.mem_append_right _ (b2q m (l+1) i j h1 h2 h3 (by omega) (by omega) ?_)
   rw [show l+1+m - (q.2.2+1)=l+(m+1) - (q.2.2+1) by omega]
   exact h6
theorem a2Y {cd:Nat→Nat→List CT.Code} {x:CT.Code}:∀ {pr:Pa} {acc:List CT.Code},x∈comb cd acc pr↔∃ hv∈acc,x∈comb cd [hv] pr
 | [],acc=>by
  show x∈acc↔∃ hv∈acc,x∈[hv]
  exact ⟨fun h=>⟨x,h,by simp⟩,fun ⟨hv,h1,h2⟩=>by rw [List.mem_singleton.mp h2];exact h1⟩
 | q :: r,acc=>by
  show x∈comb cd (stp (cd q.1 q.2.1) q.2.2 acc) r↔∃ hv∈acc,x∈comb cd (stp (cd q.1 q.2.1) q.2.2 [hv]) r
  rw [a2Y (pr:=r)]
  constructor
  ·rintro ⟨y,hy,hx⟩
   unfold stp at hy
   obtain ⟨ws,hw,hy⟩:=List.mem_flatMap.mp hy
   obtain ⟨hv,hh,rfl⟩:=List.mem_map.mp hy
   refine ⟨hv,hh,a2Y.mpr ⟨_,?_,hx⟩⟩
   unfold stp
   exact List.mem_flatMap.mpr ⟨ws,hw,List.mem_map.mpr ⟨hv,by simp,rfl⟩⟩
  ·rintro ⟨hv,hh,hx⟩
   obtain ⟨y,hy,hx⟩:=a2Y.mp hx
   refine ⟨y,?_,hx⟩
   unfold stp at hy ⊢
   obtain ⟨ws,hw,hy⟩:=List.mem_flatMap.mp hy
   obtain ⟨hv',hh',rfl⟩:=List.mem_map.mp hy
   rw [List.mem_singleton.mp hh']
   exact List.mem_flatMap.mpr ⟨ws,hw,List.mem_map.mpr ⟨hv,hh,rfl⟩⟩
theorem a9Y {cd:Nat→Nat→List CT.Code} {q:Nat × Nat × Nat} {pr:Pa} {hv ws x:CT.Code} (hw:ws∈cd q.1 q.2.1) (h:x∈comb cd [hv++CT.ahd q.2.2 ws] pr):x∈comb cd [hv] (q :: pr):=by
 show x∈comb cd (stp (cd q.1 q.2.1) q.2.2 [hv]) pr
 refine a2Y.mpr ⟨_,?_,h⟩
 unfold stp
 exact List.mem_flatMap.mpr ⟨ws,hw,List.mem_map.mpr ⟨hv,by simp,rfl⟩⟩
def bcs (L:Nat):Nat→Nat→Nat→List CT.Code
 | 0,i,j=>if j - i=1 then [[[]]] else []
 | s+1,i,j=>if j - i=1 then [[[]]] else (P L 0 i j).flatMap fun pr=>if 1 < pr.length then comb (bcs L s) [[]] pr else []
theorem kc_all {ps ws:List Int} {k:Nat} {h t:Nat→Nat→Nat→Nat→OI} (T:∀ s,s < k→Tp ps.length ws.length (h s) (t s) (S ps ws s) (S ps ws (s+1)) (pl ps) (Wt ws)) (hL:0 < ps.length) {s i j:Nat} {c:CT.Code} (kc:Kc ps.length h t s i j c) :
  i < j∧(j≤ws.length→s≤k→S ps ws s i j≠none→c.length=j - i∧c∈bcs ps.length s i j∧some (CT.co ps ws i c)=S ps ws s i j):=by
 refine Kc.rec (motive_1:=fun s i j c _=>i < j∧(j≤ws.length→s≤k→S ps ws s i j≠none→c.length=j - i∧c∈bcs ps.length s i j∧some (CT.co ps ws i c)=S ps ws s i j))
  (motive_2:=fun s l i j r _=>i≤j∧(j≤ws.length→s < k→t s l i j≠none→l≤ps.length→(i < j→l < ps.length)→r.length=j - i∧some (CT.co ps ws i r)=t s l i j∧∃ pr∈P (ps.length - l) l i j,(∀ hv,hv++r∈comb (bcs ps.length s) [hv] pr)∧(pr=[]→i=j)∧(∀ q,pr=[q]→q.2.1=j∧∃ q'∈wys ps.length (h s) (t s) l i j,i+q'.2+1=q.2.1))) ?_ ?_ ?_ ?_ kc
 ·intro s i
  refine ⟨by omega,fun hj hs sn=>⟨by simp,?_,?_⟩⟩
  ·cases s <;> (unfold bcs;rw [if_pos (by omega)];simp)
  ·rw [CT.a8y,S_one]
 ·intro s i j c hij kt ih
  refine ⟨by omega,fun hj hs sn=>?_⟩
  have T':=T s (by omega)
  have tG:=b0S T' hij hj sn
  obtain ⟨ln,co,pr,hpr,hc,hn,ho⟩:=ih.2 hj (by omega) (by rw [tG];exact sn) (by omega) (fun _=>hL)
  have on:=only T' hj hij sn
  refine ⟨ln,?_,by rw [co,tG]⟩
  rw [Nat.sub_zero] at hpr
  unfold bcs
  rw [if_neg (by omega)]
  refine List.mem_flatMap.mpr ⟨pr,hpr,?_⟩
  have l1:1 < pr.length:=by
   match pr,hn,ho with
   | [],hn,_=>exact absurd (hn rfl) (by omega)
   | [q],_,ho =>
    obtain ⟨e1,q',hq',e2⟩:=ho q rfl
    have:=on q' hq'
    omega
   | q :: q2 :: r,_,_=>simp
  rw [if_pos l1]
  exact hc []
 ·intro s l j
  refine ⟨Nat.le_refl _,fun hj hs tn hl _=>⟨by simp,?_,[],by rw [a3o];simp,fun hv=>?_,fun _=>rfl,fun q hq=>by cases hq⟩⟩
  ·rw [CT.a5a,(T s hs).dg l j hl hj]
  ·show hv++[]∈[hv]
   simp
 ·intro s l i j q c r hq0 kc kt ih1 ih2
  have hq:=List.mem_of_head? hq0
  refine ⟨by have:=ih1.1;have:=ih2.1;omega,fun hj hs tn hl hlt=>?_⟩
  have hij:i < j:=by have:=ih1.1;have:=ih2.1;omega
  have T':=T s hs
  obtain ⟨b1,b2,b3,b4,b5,b6⟩:=a6d T' (hlt hij) hij hj tn hq
  obtain ⟨ln1,c1,co1⟩:=ih1.2 (by omega) (by omega) b5
  obtain ⟨ln2,co2,pr,hpr,hc,hn,ho⟩:=ih2.2 hj hs b6 (by omega) (fun y=>b4 (by omega))
  refine ⟨?_,?_,(i,i+q.2+1,q.1) :: pr,b2q (ps.length - l) l i j rfl (by show i < i+q.2+1;omega) (by show i+q.2+1≤j;omega) b1 (by show q.1 < l+(ps.length - l);omega) ?_,fun hv=>?_,fun y=>(by cases y),fun q' hq'=>?_⟩
  ·rw [List.length_append,ln2]
   unfold CT.ahd
   rw [List.length_map,ln1]
   omega
  ·have ev:=(a1t.mp hq).2
   unfold CT.vl at ev
   rw [T'.hh q.1 i (i+q.2+1) b2 (by omega) (by omega),←co1,←co2] at ev
   rw [CT.a8z,ln1,show i+(i+q.2+1 - i)=i+q.2+1 by omega,←ev]
   rfl
  ·show pr∈P (l+(ps.length - l) - (q.1+1)) (q.1+1) (i+q.2+1) j
   rw [show l+(ps.length - l) - (q.1+1)=ps.length - (q.1+1) by omega]
   exact hpr
  ·have:=hc (hv++CT.ahd q.1 c)
   rw [List.append_assoc] at this
   exact a9Y (q:=(i,i+q.2+1,q.1)) c1 this
  ·have e1:=(List.cons.inj hq').1
   have e2:=(List.cons.inj hq').2
   subst e1
   exact ⟨hn e2,q,hq,rfl⟩
end K47
namespace K47
open PySem L2
def Kpt (c:CT.Code):Prop:=∀ (k:Nat) u v',c[k]?=some u→c[k+1]?=some v'→HT.a1f u v'=true∧v'.take u.length≠u
theorem Kpt.ahd {c:CT.Code} {l:Nat} (h:Kpt c):Kpt (CT.ahd l c):=fun k u v hu hv=>by
 unfold CT.ahd at hu hv
 rw [List.getElem?_map] at hu hv
 obtain ⟨u',hu',rfl⟩:=Option.map_eq_some_iff.mp hu
 obtain ⟨v',hv',rfl⟩:=Option.map_eq_some_iff.mp hv
 obtain ⟨a,b⟩:=h k u' v' hu' hv'
 refine ⟨by rw [HT.a1o,if_pos rfl];exact a,fun z=>b ?_⟩
 rw [List.length_cons,List.take_succ_cons] at z
 injection z
theorem Kpt.app {a b:CT.Code} (ha:Kpt a) (hb:Kpt b) (h:∀ u∈a,∀ v∈b,HT.a1f u v=true∧v.take u.length≠u):Kpt (a++b):=fun k u v hu hv=>by
 by_cases h1:k < a.length
 ·rw [List.getElem?_append_left h1] at hu
  by_cases h2:k+1 < a.length
  ·rw [List.getElem?_append_left h2] at hv
   exact ha k u v hu hv
  ·rw [List.getElem?_append_right (by omega)] at hv
   exact h u (List.mem_of_getElem? hu) v (List.mem_of_getElem? hv)
 ·rw [List.getElem?_append_right (by omega)] at hu hv
  rw [show k+1 - a.length=(k - a.length)+1 by omega] at hv
  exact hb _ u v hu hv
def Fst (l:Nat) (r:CT.Code):Prop:=∀ u∈r,∃ (x:Nat) (u':List Int),u=(x:Int) :: u'∧l≤x
theorem kc_kpt {L:Nat} {h t:Nat→Nat→Nat→Nat→OI} {s i j:Nat} {c:CT.Code} (k:Kc L h t s i j c):Kpt c:=by
 refine Kc.rec (motive_1:=fun s i j c _=>Kpt c) (motive_2:=fun s l i j r _=>Kpt r∧Fst l r) ?_ ?_ ?_ ?_ k
 ·intro s i k u v hu hv
  cases k with
  | zero=>simp at hv
  | succ k=>simp at hu
 ·intro s i j c _ _ ih
  exact ih.1
 ·intro s l j
  exact ⟨fun k u v hu=>by simp at hu,fun u hu=>by cases hu⟩
 ·intro s l i j q c r hq0 kc kt ih1 ih2
  have hq:=List.mem_of_head? hq0
  have hl:l≤q.1:=(a1t.mp hq).1 |> fun hm=>(CT.a1s.mp hm).1
  refine ⟨(Kpt.ahd ih1).app ih2.1 fun u hu v hv=>?_,fun u hu=>?_⟩
  ·unfold CT.ahd at hu
   obtain ⟨u',_,rfl⟩:=List.mem_map.mp hu
   obtain ⟨x,v',rfl,hx⟩:=ih2.2 v hv
   have ne:((q.1:Nat):Int)≠(x:Int):=by omega
   refine ⟨by rw [HT.a1o,if_neg ne];exact decide_eq_true (by omega),fun z=>?_⟩
   rw [List.length_cons,List.take_succ_cons] at z
   injection z with z1
   exact ne z1.symm
  ·rcases List.mem_append.mp hu with z | z
   ·unfold CT.ahd at z
    obtain ⟨u',_,rfl⟩:=List.mem_map.mp z
    exact ⟨q.1,u',rfl,hl⟩
   ·obtain ⟨x,u',e,hx⟩:=ih2.2 u z
    exact ⟨x,u',e,by omega⟩
def Lt (L:Nat) (ns:List Int):Prop:=∀ z∈ns,(0:Int)≤z∧z < (L:Int)
theorem kc_let {L:Nat} {h t:Nat→Nat→Nat→Nat→OI} {s i j:Nat} {c:CT.Code} (k:Kc L h t s i j c):∀ u∈c,Lt L u:=by
 refine Kc.rec (motive_1:=fun s i j c _=>∀ u∈c,Lt L u) (motive_2:=fun s l i j r _=>∀ u∈r,Lt L u) ?_ ?_ ?_ ?_ k
 ·intro s i u hu
  have:u=[]:=by simpa using hu
  subst this
  intro z hz
  cases hz
 ·intro s i j c _ _ ih
  exact ih
 ·intro s l j u hu
  cases hu
 ·intro s l i j q c r hq0 kc kt ih1 ih2 u hu
  have hb:=CT.a1s.mp (a1t.mp (List.mem_of_head? hq0)).1
  rcases List.mem_append.mp hu with y | y
  ·unfold CT.ahd at y
   obtain ⟨v,hv,rfl⟩:=List.mem_map.mp y
   intro x hx
   rcases List.mem_cons.mp hx with z | z
   ·rw [z];exact ⟨by omega,by omega⟩
   ·exact ih1 v hv x z
  ·exact ih2 u y
section
variable {L n:Nat} {h t h' t':Nat→Nat→Nat→OI} {F G:Nat→Nat→OI} {p:Nat→Int} {W:Nat→Nat→Int}
end
def isS (c:Nat→Nat→Prop) (n:Nat) (o:Option (Nat × Nat)):Prop:=(o=none∧∀ i j,i < j→j≤n→¬ c i j)∨∃ i j,o=some (i,j)∧i < j∧j≤n∧c i j∧∀ a b,a < b→b≤n→(a < i∨(a=i∧b < j))→¬ c a b
theorem a8B {c c':Nat→Nat→Prop} {n:Nat} {o:Option (Nat × Nat)} (e:∀ i j,i < j→j≤n→(c i j↔c' i j)) (h:isS c n o):isS c' n o:=by
 rcases h with ⟨rfl,h⟩ | ⟨i,j,rfl,h1,h2,h3,h4⟩
 ·exact .inl ⟨rfl,fun i j h1 h2 z=>h i j h1 h2 ((e i j h1 h2).mpr z)⟩
 ·exact .inr ⟨i,j,rfl,h1,h2,(e i j h1 h2).mp h3,fun a b h5 h6 h7 z=>h4 a b h5 h6 h7 ((e a b h5 h6).mpr z)⟩
def OpAt (H:Hp) (r:V):Option (Nat × Nat)→Prop
 | none=>r=.non
 | some q=>∃ t,r=.ref t∧TW H t [(q.1:Int),(q.2:Int)]
def b2T (H:Hp) (d:Addr) (lens:List Nat):Prop:=∃ xs,H d=some (.lst xs)∧Paired (fun x l=>∃ a zs,x=.ref a∧H a=some (.lst zs)∧zs.length=l) xs lens
theorem b2T.same {H H':Hp} {d:Addr} {lens:List Nat} (h:b2T H d lens) (s:a0C H H'):b2T H' d lens:=by
 obtain ⟨xs,h1,h2⟩:=h
 exact ⟨xs,s _ _ h1,Paired.mapP h2 fun x l ⟨a,zs,e1,e2,e3⟩=>⟨a,zs,e1,s _ _ e2,e3⟩⟩
def down (n:Nat):List Int:=(List.range n).map fun i:Nat=>(n:Int)+(i:Int) * (-1)
def good (lens:List Nat) (n:Nat):Prop:=lens.map (fun l:Nat=>(l:Int))=down n
theorem b2r (n:Nat):good ((List.range n).map fun i=>n - i) n:=by
 unfold good down
 rw [List.map_map]
 refine List.map_congr_left fun i hi=>?_
 have:=List.mem_range.mp hi
 show ((n - i:Nat):Int)=(n:Int)+(i:Int) * (-1)
 omega
def SwAt (H:Hp) (d:Addr) (lss:List (List Nat)):Prop:=∃ xs,H d=some (.lst xs)∧Paired (fun x ls=>∃ a,x=.ref a∧b2T H a ls) xs lss
theorem FlO.rw' {H:Hp} {d:Addr} {ra:Nat→Addr} {n:Nat} {F:Nat→Nat→OI} (h:FlO H d ra n F):b2T H d ((List.range n).map fun i=>n - i):=⟨_,h.o,a2P n fun i hi=>⟨ra i,_,rfl,h.r i hi,by rw [List.length_map,List.length_map,List.length_range]⟩⟩
theorem StO.sw {H:Hp} {d:Addr} {da:Nat→Addr} {ra:Nat→Nat→Addr} {k n:Nat} {F:Nat→Nat→Nat→OI} (h:StO H d da ra k n F):SwAt H d ((List.range k).map fun _=>(List.range n).map fun i=>n - i):=⟨_,h.o,a2P k fun s hs=>⟨da s,rfl,(h.r s hs).rw'⟩⟩
def okS (lss:List (List Nat)) (tp n:Nat):Prop:=lss.length=tp+1∧∀ l∈lss,good l n
theorem ok_st (k n:Nat):okS ((List.range (k+1)).map fun _=>(List.range n).map fun i=>n - i) k n:=by
 refine ⟨by rw [List.length_map,List.length_range],fun l hl=>?_⟩
 obtain ⟨s,_,rfl⟩:=List.mem_map.mp hl
 exact b2r n
def cS (ps ws:List Int) (F:Nat→Nat→Nat→OI) (s i j:Nat):Prop:=ab (F s i j) (bdO ps ws (Fb F s) i j)=true
def isT (c:Nat→Nat→Nat→Prop) (k n:Nat) (o:Option (Nat × Nat × Nat)):Prop:=(o=none∧∀ s i j,s < k→i < j→j≤n→¬ c s i j)∨∃ s i j,o=some (s,i,j)∧s < k∧(∀ s' i j,s' < s→i < j→j≤n→¬ c s' i j)∧isS (c s) n (some (i,j))
def OpT (H:Hp) (r:V):Option (Nat × Nat × Nat)→Prop
 | none=>r=.non
 | some q=>∃ t,r=.ref t∧TW H t [(q.1:Int),(q.2.1:Int),(q.2.2:Int)]
section
variable {P':Program} {w:World} {K:PySem.W.Frag} {mg:Str→Option Value} {base:Heap} {f:Addr} {fd:FuncData}
def a9Z:Sp:=fun vs H Q _=>∃ a b:OI,vs=[oV a,oV b]∧Q (.bl (ab a b)) H
theorem scIsA:a0r ["floor","bound"] ["floor","bound"] (a0b sIs):=⟨rfl,rfl,rfl,by decide +kernel,rfl,by decide +kernel,by decide +kernel⟩
theorem ok_isa (F:Fun K "is_above" "is_above" sIs f fd):a0W P' w K mg base CX0 1 f fd ["floor","bound"] a9Z:=by
 refine F.ok (k:=0) scIsA (fun vs H Q E h=>?_) (fun cdv A outer s H vs Q E hr h=>?_)
 ·obtain ⟨a,b,rfl,_⟩:=h
  rfl
 obtain ⟨a,b,rfl,q⟩:=h
 refine ⟨_,a0e (a0Y (a4E (a3a (pv 1))) (a0g (a0q a1C)) a0B) (a0g (a0q (pe_or (a5H (a3a (pv 0))) (a4F (a1P b1f (pv 0) (pv 1) (nomark _)))))),?_⟩
 cases b with
 | none =>
  refine ⟨_,rfl,_,rfl,a6y ?_⟩
  cases a <;> exact q
 | some y =>
  refine ⟨_,rfl,_,rfl,a2V ?_⟩
  cases a with
  | none=>exact ⟨_,rfl,_,rfl,a6y q⟩
  | some x=>exact ⟨_,rfl,_,rfl,a2V ⟨_,rfl,_,rfl,_,_,rfl,rfl,q⟩⟩
abbrev NAb:List Str:=["floors","bounds","first","at"]
def a5y:Sp:=fun vs H Q _=>∃ (d d2:Addr) (ra ra2:Nat→Addr) (F B:Nat→Nat→OI) (n:Nat),vs=[.ref d,.ref d2]∧FlO H d ra n F∧FlO H d2 ra2 n B∧n≤20∧∀ r o H',a0C H H'→OpAt H' r o→isS (fun i j=>ab (F i j) (B i j)=true) n o→Q r H'
theorem a5z:a0r NAb ["floors","bounds"] (a0b a3R):=⟨rfl,rfl,rfl,by decide +kernel,rfl,by decide +kernel,by decide +kernel⟩
theorem b0a (F:Fun K "first_above" "first_above" a3R f fd) (GI:Fns P' w K mg base ["floor","bound"] "is_above" a9Z 1) (ml:mg "len"=none) (mr:mg "range"=none):a0W P' w K mg base CX0 2 f fd ["floors","bounds"] a5y:=by
 refine F.ok (k:=1) a5z (fun vs H Q E h=>?_) (fun cdv A outer s H vs Q E hr h=>?_)
 ·obtain ⟨d,d2,ra,ra2,F,B,n,rfl,_⟩:=h
  rfl
 obtain ⟨d,d2,ra,ra2,F,B,n,rfl,fl,fb,n20,q⟩:=h
 refine ⟨_,a0e (a1k PassesOwn.never rfl (a1j (by rfl) mr (a0a (a0s a0j (by rfl) ml PySem.boot_len (a0a (pv 1) a0c)) a0c)) (a0H (i:=2) a5z.nd rfl (Or.inl rfl))
   (a0g (a1k PassesOwn.never rfl (a1j (by rfl) mr (a0a (a0s a0j (by rfl) ml PySem.boot_len (a0a (a0v a0n (pv 1) (pv 2) (fun _ _=>rfl)) a0c)) a0c)) (a0H (i:=3) a5z.nd rfl (Or.inl rfl))
    (a0g (a0Y (a1O (a0k GI.ok hr (by rfl) GI.m GI.kp GI.b .nil a0A (a0a (a0v a0n (a0v a0n (pv 0) (pv 2) (fun _ _=>rfl)) (pv 3) (fun _ _=>rfl)) (a0a (a0v a0n (a0v a0n (pv 1) (pv 2) (fun _ _=>rfl)) (pv 3) (fun _ _=>rfl)) a0c)))) (a0g (a0q (a1K (a0a (pv 2) (a0a (a0t a0F (a0t a0F (pv 2) a0f) (pv 3)) a0c))))) a0B)))))
  (a0g (a0q a1m)),?_⟩
 refine ⟨_,rfl,d2,_,rfl,.inl (SqL.of fb.o),_,rfl,by omega,by rw [List.length_map,List.length_range];omega,?_⟩
 rw [List.length_map,List.length_range,Int.toNat_natCast]
 refine a0T (fun i σ H'=>a0C H H'∧(∀ a b,a < i→a < b→b≤n→¬ ab (F a b) (B a b)=true)∧∃ x2 x3:Option V,σ=[some (.ref d),some (.ref d2),x2,x3]) ⟨a0C.refl _,fun a b ha=>absurd ha (Nat.not_lt_zero _),_,_,rfl⟩ (fun i σ H1 hi hP=>?_) (fun σ H1 hP=>?_)
 ·obtain ⟨s1,c1,x2,x3,rfl⟩:=hP
  rw [show (0:Int)+(i:Int)=(i:Int) from Int.zero_add _]
  refine ⟨_,rfl,_,rfl,d2,_,_,_,rfl,rfl,SqL.of (s1 _ _ fb.o),a0D hi,ra2 i,_,rfl,.inl (SqL.of (s1 _ _ (fb.r i hi))),_,rfl,by omega,by rw [List.length_map,List.length_map,List.length_range];omega,?_⟩
  rw [List.length_map,List.length_map,List.length_range,Int.toNat_natCast]
  refine a0T (fun k σ H'=>a0C H H'∧(∀ b,i < b→b≤i+k→¬ ab (F i b) (B i b)=true)∧∃ x3:Option V,σ=[some (.ref d),some (.ref d2),some (.int (i:Int)),x3]) ⟨s1,fun b h1 h2=>by omega,_,rfl⟩ (fun k σ H2 hk hP=>?_) (fun σ H2 hP=>?_)
  ·obtain ⟨s2,c2,x3,rfl⟩:=hP
   rw [show (0:Int)+(k:Int)=(k:Int) from Int.zero_add _]
   have fl2:=fl.same s2
   have fb2:=fb.same s2
   refine ⟨_,rfl,_,rfl,d,_,_,_,rfl,rfl,SqL.of fl2.o,a0D hi,_,rfl,ra i,_,_,_,rfl,rfl,SqL.of (fl2.r i hi),at_O' hk,_,rfl,_,rfl,d2,_,_,_,rfl,rfl,SqL.of fb2.o,a0D hi,_,rfl,ra2 i,_,_,_,rfl,rfl,SqL.of (fb2.r i hi),at_O' hk,_,_,rfl,_,rfl,?_⟩
   refine a2T (fun y=>?_) (fun y=>?_)
   ·have y1:=y
    refine ⟨_,rfl,_,rfl,_,_,rfl,rfl,_,rfl,_,_,rfl,rfl,(by show 2≤sizeLine;decide),fun t ht=>?_⟩
    have ek:(i:Int)+1+(k:Int)=((i+k+1:Nat):Int):=by push_cast;omega
    dsimp only
    rw [ek]
    refine q (.ref t) (some (i,i+k+1)) _ (s2.trans (a0h ht _)) ⟨t,rfl,a0d⟩ (.inr ⟨i,i+k+1,rfl,by omega,by omega,y1,fun a b h1 h2 h3=>?_⟩)
    rcases h3 with z | ⟨z1,z2⟩
    ·exact c1 a b z h1 h2
    ·subst z1;exact c2 b h1 (by omega)
   ·have y1:¬ ab (F i (i+k+1)) (B i (i+k+1))=true:=y
    refine ⟨s2,fun b h1 h2=>?_,_,rfl⟩
    by_cases e:b=i+k+1
    ·subst e;exact y1
    ·exact c2 b h1 (by omega)
  ·obtain ⟨s2,c2,x3,rfl⟩:=hP
   refine ⟨s2,fun a b h1 h2 h3=>?_,_,_,rfl⟩
   by_cases e:a=i
   ·subst e;exact c2 b h2 (by omega)
   ·exact c1 a b (by omega) h2 h3
 ·obtain ⟨s1,c1,x2,x3,rfl⟩:=hP
  exact q .non none _ s1 rfl (.inl ⟨rfl,fun i j h1 h2=>c1 i j (by omega) h1 h2⟩)
def b2s:Sp:=fun vs H Q _=>∃ (q d:Addr) (ws:List Int) (lens:List Nat),vs=[.ref q,.ref d]∧TW H q ws∧b2T H d lens∧ws.length≤20∧lens.length≤100∧∀ H' b,a0C H H'→(b=true↔good lens ws.length)→Q (.bl b) H'
theorem scHas:a0r ["weights","floors"] ["weights","floors"] (a0b b1X):=⟨rfl,rfl,rfl,by decide +kernel,rfl,by decide +kernel,by decide +kernel⟩
theorem ndHas:(("row":Str) :: ["weights","floors"]).Nodup:=by decide +kernel
theorem ok_has (F:Fun K "has_rows" "has_rows" b1X f fd) (ml:mg "len"=none) (mr:mg "range"=none) (mL:mg "list"=none):a0W P' w K mg base CX0 1 f fd ["weights","floors"] b2s:=by
 refine F.ok (k:=0) scHas (fun vs H Q E h=>?_) (fun cdv A outer s H vs Q E hr h=>?_)
 ·obtain ⟨q,d,ws,lens,rfl,_⟩:=h
  rfl
 obtain ⟨q,d,ws,lens,rfl,hq,⟨xs,hd,rw'⟩,w20,l100,qq⟩:=h
 refine ⟨_,a0g (a0q (a1P (b1J (hu4 hr)) (a2r (M:=["weights","floors"]) rfl (a0l.of (a0b b1X) ["weights","floors"] rfl rfl rfl (by decide +kernel) (by decide +kernel) (by decide +kernel) rfl (by decide +kernel)) ndHas rfl (pv 1) a0X
   (fun cl C s0 H0 fp=>⟨a0P,a0s (a3j K) (by rfl) ml PySem.boot_len (a0a (pv 0) a0c)⟩)) (a5u rfl (by rfl) mL (by rfl) mr (a0a (a0s a0j (by rfl) ml PySem.boot_len (a0a (pv 0) a0c)) (a0a a0f (a0a (a2m a1v a0f) a0c)))) (nomark _))),?_⟩
 have lx:xs.length=lens.length:=rw'.length
 refine ⟨_,rfl,d,_,rfl,SqL.of hd,fun c hc=>?_⟩
 refine ⟨fun i H'=>a0C H H'∧H' c=some (.lst (((lens.take i).map fun l:Nat=>(l:Int)).map V.int)),⟨a0h hc _,a0d⟩,fun i H' _ hP=>SqL.of (hP.1 _ _ hd),fun i x H' hx hP=>?_,fun H' hP=>?_⟩
 ·obtain ⟨s5,hd'⟩:=hP
  obtain ⟨l,hl,a,zs,rfl,ha,lz⟩:=Paired.right_of rw' i x hx
  have il:=(List.getElem?_eq_some_iff.mp hl).1
  refine a0L ⟨_,rfl,a,_,rfl,.inl (SqL.of (s5 _ _ ha)),_,hd',?_,a0y hc s5,?_⟩
  ·rw [List.length_map,List.length_map,List.length_take];exact a0u (by omega)
  ·rw [a0d,List.take_add_one,hl,List.map_append,List.map_append,lz];rfl
 ·obtain ⟨s5,hd'⟩:=hP
  rw [lx,List.take_length] at hd'
  refine ⟨_,rfl,q,_,rfl,.inr (SqT.of (s5 _ _ hq)),_,rfl,ws.length,(by rw [List.length_map]),by omega,fun e he=>?_⟩
  have s6:=a0h he (.lst ((List.range ws.length).map fun i:Nat=>V.int ((ws.length:Int)+(i:Int) * (-1))))
  have g6:upd H' e (.lst ((List.range ws.length).map fun i:Nat=>V.int ((ws.length:Int)+(i:Int) * (-1)))) e=some (.lst ((down ws.length).map V.int)):=by
   rw [a0d]
   unfold down
   rw [List.map_map]
   rfl
  generalize upd H' e (.lst ((List.range ws.length).map fun i:Nat=>V.int ((ws.length:Int)+(i:Int) * (-1))))=H6 at s6 g6 ⊢
  exact ⟨c,e,_,_,rfl,rfl,s6 _ _ hd',g6,qq H6 _ (s5.trans s6) (by unfold good;exact decide_eq_true_iff)⟩
abbrev NSt:List Str:=["weights","top","stairs"]
def a4r:Sp:=fun vs H Q _=>∃ (q d:Addr) (ws:List Int) (tp:Nat) (lss:List (List Nat)),vs=[.ref q,.int (tp:Int),.ref d]∧TW H q ws∧SwAt H d lss∧ws.length≤20∧lss.length≤100∧(∀ l∈lss,l.length≤100)∧∀ H' b,a0C H H'→(b=true↔okS lss tp ws.length)→Q (.bl b) H'
theorem b2t:a0r NSt NSt (a0b a3v):=⟨rfl,rfl,rfl,by decide +kernel,rfl,by decide +kernel,by decide +kernel⟩
theorem ndSt:(("floors":Str) :: NSt).Nodup:=by decide +kernel
theorem b0b (F:Fun K "has_steps" "has_steps" a3v f fd) (GH:Fns P' w K mg base ["weights","floors"] "has_rows" b2s 1) (ml:mg "len"=none) (ma:mg "all"=none):a0W P' w K mg base CX0 2 f fd NSt a4r:=by
 refine F.ok (k:=1) b2t (fun vs H Q E h=>?_) (fun cdv A outer s H vs Q E hr h=>?_)
 ·obtain ⟨q,d,ws,tp,lss,rfl,_⟩:=h
  rfl
 obtain ⟨q,d,ws,tp,lss,rfl,hq,hsw,w20,l100,li100,qq⟩:=h
 refine ⟨_,a0g (a0q (a5I (a1P a3E (a0s a0j (by rfl) ml PySem.boot_len (a0a (pv 2) a0c)) (a0t a0F (pv 1) a0f) (nomark _)) (a4F (a0s (a2q rfl) (by rfl) ma a7y (a0a (a2r (M:=NSt) rfl (a0l.of (a0b a3v) NSt rfl rfl rfl (by decide +kernel) (by decide +kernel) (by decide +kernel) rfl (by decide +kernel)) ndSt rfl (pv 2) a0X
   (fun cl C s0 H0 fp=>⟨a0P,a0k GH.ok hr (by rfl) GH.m GH.kp GH.b .nil a0A (a0a (pv 1) (a0a (pv 0) a0c))⟩)) a0c))))),?_⟩
 obtain ⟨xs,hd,pr⟩:=id hsw
 have lx:xs.length=lss.length:=pr.length
 refine ⟨_,rfl,d,_,rfl,.inl (SqL.of hd),_,rfl,_,_,rfl,rfl,rfl,_,rfl,?_⟩
 refine a2T (fun y=>?_) (fun y=>?_)
 ·have y1:lss.length=tp+1:=by
   have z:V.int (xs.length:Int)=V.int ((tp:Int)+1):=of_decide_eq_true y
   have:=V.int.inj z
   omega
  refine ⟨_,rfl,d,_,rfl,SqL.of hd,fun c hc=>?_⟩
  refine ⟨fun i H'=>a0C H H'∧∃ bs:List Bool,H' c=some (.lst (bs.map V.bl))∧bs.length=i∧(bs.all id=true↔∀ l∈lss.take i,good l ws.length),⟨a0h hc _,[],a0d,rfl,⟨fun _ l hl=>(by cases hl),fun _=>rfl⟩⟩,fun i H' _ hP=>SqL.of (hP.1 _ _ hd),fun i x H' hx hP=>?_,fun H' hP=>?_⟩
  ·obtain ⟨s5,bs,hc',lb,ib⟩:=hP
   obtain ⟨ls,hl,a,rfl,ha⟩:=Paired.right_of pr i x hx
   have il:=(List.getElem?_eq_some_iff.mp hl).1
   refine a0L ⟨_,rfl,_,rfl,q,a,ws,ls,rfl,s5 _ _ hq,ha.same s5,w20,li100 ls (List.mem_of_getElem? hl),fun H6 b s6 hb=>?_⟩
   refine ⟨_,s6 _ _ hc',?_,a0y hc (s5.trans s6),bs++[b],by rw [a0d,List.map_append];rfl,by rw [List.length_append,lb];rfl,?_⟩
   ·rw [List.length_map,lb];exact a0u (by omega)
   ·rw [List.take_add_one,hl,List.all_append,Bool.and_eq_true,ib]
    constructor
    ·rintro ⟨h1,h2⟩ l hl'
     rcases List.mem_append.mp hl' with z | z
     ·exact h1 l z
     ·rw [List.mem_singleton.mp z]
      refine hb.mp ?_
      simpa using h2
    ·intro h
     refine ⟨fun l hl'=>h l (List.mem_append.mpr (.inl hl')),?_⟩
     have:=hb.mpr (h ls (List.mem_append.mpr (.inr (.head _))))
     rw [this];rfl
  ·obtain ⟨s5,bs,hc',lb,ib⟩:=hP
   rw [lx,List.take_length] at ib
   refine ⟨c,_,rfl,hc',qq H' _ s5 ?_⟩
   rw [ib]
   exact ⟨fun h=>⟨y1,h⟩,fun h=>h.2⟩
 ·refine qq H false (a0C.refl _) ⟨fun z=>(by cases z),fun z=>?_⟩
  refine absurd (decide_eq_true ?_) y
  show V.int (xs.length:Int)=V.int ((tp:Int)+1)
  rw [lx,z.1]
  rfl
abbrev NOn:List Str:=["prices","weights","stairs","step"]
def spOn:Sp:=fun vs H Q _=>∃ (p q d:Addr) (ps ws:List Int) (da:Nat→Addr) (ra:Nat→Nat→Addr) (F:Nat→Nat→Nat→OI) (k s:Nat),vs=[.ref p,.ref q,.ref d,.int (s:Int)]∧TW H p ps∧TW H q ws∧StO H d da ra k ws.length F∧Num ps ws∧s < k ∧
 ∀ (d':Addr) ra' B H',a0C H H'→FlO H' d' ra' ws.length B→(∀ i j,i < j→j≤ws.length→B i j=bdO ps ws (Fb F s) i j)→Q (.ref d') H'
theorem scOn:a0r NOn NOn (a0b sOn):=⟨rfl,rfl,rfl,by decide +kernel,rfl,by decide +kernel,by decide +kernel⟩
theorem ok_on {C:Addr} (F:Fun K "bounds_on" "bounds_on" sOn f fd) (GG:Fns P' w K mg base ["things"] "bounds_on_ground" a2X 5) (GP:Fns P' w K mg base ["prices","weights","floors"] "parted_by" (spPb C) 5) (M:Mt P' w K mg base C "bounds" ["self"] (a2u C) 5) (rc:PC K C) (ml:mg "len"=none):a0W P' w K mg base CX0 6 f fd NOn spOn:=by
 refine F.ok (k:=5) scOn (fun vs H Q E h=>?_) (fun cdv A outer s H vs Q E hr h=>?_)
 ·obtain ⟨p,q,d,ps,ws,da,ra,F,k,s,rfl,_⟩:=h
  rfl
 obtain ⟨p,q,d,ps,ws,da,ra,F,k,s',rfl,hp,hq,st,nu,hs,qq⟩:=h
 have w20:=nu.w20
 refine ⟨_,a0e (a0Y (a0G a3E (pv 3) a0f (nomark _)) (a0g (a0q (a0k GG.ok hr (by rfl) GG.m GG.kp GG.b .nil a0A (a0a (a0s a0j (by rfl) ml PySem.boot_len (a0a (pv 1) a0c)) a0c)))) a0B)
  (a0g (a0q (a4a (a0k GP.ok hr (by rfl) GP.m GP.kp GP.b .nil a0A (a0a (pv 0) (a0a (pv 1) (a0a (a0v a0n (pv 2) (a0t a1c (pv 3) a0f) (fun _ _=>rfl)) a0c)))) rc.c M.m M.ok hr M.b .nil a0A))),?_⟩
 refine ⟨_,rfl,rfl,_,rfl,?_⟩
 refine a2T (fun y=>?_) (fun y=>?_)
 ·have y1:s'=0:=by
   have:=V.int.inj (of_decide_eq_true y)
   omega
  subst y1
  refine ⟨_,rfl,q,_,rfl,.inr (SqT.of hq),ws.length,(by rw [List.length_map];rfl),w20,fun d' ra' H' c1 _=>qq d' ra' gr H' c1.same c1.fl fun i j _ _=>?_⟩
  unfold Fb
  rw [if_pos rfl,a8k]
 ·have y1:s'≠0:=fun z=>y (decide_eq_true (by rw [z];rfl))
  have e1:V.int ((s':Int) - 1)=.int ((s' - 1:Nat):Int):=by congr 1;omega
  have fl:=st.r (s' - 1) (by omega)
  refine ⟨_,rfl,_,rfl,_,rfl,_,rfl,_,_,rfl,rfl,d,_,_,_,rfl,e1,SqL.of st.o,a0D (k:=s' - 1) (by omega),p,q,da (s' - 1),ps,ws,ra (s' - 1),F (s' - 1),rfl,hp,hq,fl,nu,fun r X h t H2 s2 pa fn=>?_⟩
  obtain ⟨dx,ho⟩:=pa.ob
  refine ⟨r,dx,_,rfl,ho,rfl,r,p,ps,ws,X,h,t,rfl,pa,w20,nu.p10,fun d2 ra2 H3 s3 _ _ _ _ h4 h5=>?_⟩
  refine qq d2 ra2 (fun i j=>bnd ps.length h t i j) H3 (s2.trans s3) ⟨h4,fun i hi=>by rw [h5 i hi,List.map_map];rfl⟩ fun i j hij hj=>?_
  unfold Fb
  rw [if_neg y1]
  exact fn.bdO i j hij hj
abbrev NSl:List Str:=["prices","weights","top","stairs","step","lie"]
def a8C (CU:Addr):Sp:=fun vs H Q E=>∃ (p q d:Addr) (ps ws:List Int) (tp:Nat),vs=[.ref p,.ref q,.int (tp:Int),.ref d]∧TW H p ps∧TW H q ws∧Num ps ws∧tp≤24 ∧
 ((∃ da ra F,StO H d da ra (tp+1) ws.length F∧∀ r o H',a0C H H'→OpT H' r o→isT (cS ps ws F) (tp+1) ws.length o→Q r H') ∨
  ∃ lss,SwAt H d lss∧lss.length≤100∧(∀ l∈lss,l.length≤100)∧¬ okS lss tp ws.length∧∀ H',a0C H H'→E (.ref CU) none H')
theorem a8D:a0r NSl ["prices","weights","top","stairs"] (a0b a6N):=⟨rfl,rfl,rfl,by decide +kernel,rfl,by decide +kernel,by decide +kernel⟩
theorem b2u {CU:Addr} (F:Fun K "step_lie" "step_lie" a6N f fd) (GT:a7C P' w K mg base ["top"] "refuse_top" a8l 6) (GS:Fns P' w K mg base NSt "has_steps" a4r 6) (GA:Fns P' w K mg base ["floors","bounds"] "first_above" a5y 6) (GO:Fns P' w K mg base NOn "bounds_on" spOn 6) (mU:mg "Unlike"=some (.ref CU)) (eU:Ecl K CU) (mr:mg "range"=none):a0W P' w K mg base (CXF P' w) 7 f fd ["prices","weights","top","stairs"] (a8C CU):=by
 refine F.okF (k:=6) a8D (fun vs H Q E h=>?_) (fun cdv A outer s H vs Q E hr h=>?_)
 ·obtain ⟨p,q,d,ps,ws,tp,rfl,_⟩:=h
  rfl
 obtain ⟨p,q,d,ps,ws,tp,rfl,hp,hq,nu,t24,h⟩:=h
 have w20:=nu.w20
 refine ⟨_,a0e (a1w (a0k GT.ok hr (by rfl) GT.m GT.kp GT.b .nil a2t (a0a (pv 2) a0c)))
  (a0e (a0Y (a2l (a1O (a0k GS.ok hr (by rfl) GS.m GS.kp GS.b .nil a0A (a0a (pv 1) (a0a (pv 2) (a0a (pv 3) a0c)))))) (a0g (a5R a2t rfl (by rfl) mU eU (a0a b0v a0c))) a0B)
  (a0e (a1k PassesOwn.leaving rfl (a1j (by rfl) mr (a0a (a0t a0F (pv 2) a0f) a0c)) (a0H (i:=4) a8D.nd rfl (Or.inl rfl))
   (a0e (a0x (i:=5) a8D.nd rfl (Or.inl rfl) (a0k GA.ok hr (by rfl) GA.m GA.kp GA.b .nil a0A (a0a (a0v a0n (pv 3) (pv 4) (fun _ _=>rfl)) (a0a (a0k GO.ok hr (by rfl) GO.m GO.kp GO.b .nil a0A (a0a (pv 0) (a0a (pv 1) (a0a (pv 3) (a0a (pv 4) a0c))))) a0c))))
   (a0g (a0Y (a4E (a6X (pv 5))) (a0g (a0q (a1K (a0a (pv 4) (a0a (a0v a0Q (pv 5) a0f (fun _ _=>rfl)) (a0a (a0v a0Q (pv 5) a0f (fun _ _=>rfl)) a0c)))))) a0B))))
  (a0g (a0q a1m)))),?_⟩
 refine ⟨_,rfl,tp,rfl,t24,?_⟩
 rcases h with ⟨da,ra,F,st,qq⟩ | ⟨lss,hsw,l100,li,ng,qq⟩
 ·refine ⟨_,rfl,_,rfl,_,rfl,q,d,ws,tp,_,rfl,hq,st.sw,w20,by rw [List.length_map,List.length_range];omega,fun l hl=>?_,fun H1 b s1 hb=>?_⟩
  ·obtain ⟨_,_,rfl⟩:=List.mem_map.mp hl
   rw [List.length_map,List.length_range];omega
  have eb:b=true:=hb.mpr (ok_st tp ws.length)
  subst eb
  refine ⟨_,rfl,a2V ?_⟩
  refine ⟨_,rfl,_,_,rfl,rfl,_,rfl,by omega,by omega,?_⟩
  rw [show ((tp:Int)+1).toNat=tp+1 by omega]
  refine a0T (fun i σ H'=>a0C H H'∧(∀ s' i' j',s' < i→i' < j'→j'≤ws.length→¬ cS ps ws F s' i' j')∧∃ x4 x5:Option V,σ=[some (.ref p),some (.ref q),some (.int (tp:Int)),some (.ref d),x4,x5]) ⟨s1,fun s' i' j' hs=>absurd hs (Nat.not_lt_zero _),_,_,rfl⟩ (fun i σ H2 hi hP=>?_) (fun σ H2 hP=>?_)
  ·obtain ⟨s2,c2,x4,x5,rfl⟩:=hP
   rw [show (0:Int)+(i:Int)=(i:Int) from Int.zero_add _]
   have st2:=st.same s2
   refine ⟨_,rfl,_,rfl,d,_,_,_,rfl,rfl,SqL.of st2.o,a0D hi,_,rfl,_,rfl,_,rfl,_,rfl,p,q,d,ps,ws,da,ra,F,tp+1,i,rfl,s2 _ _ hp,s2 _ _ hq,st2,nu,hi,fun d3 ra3 B H3 s3 fl3 hB=>?_⟩
   have s13:=s2.trans s3
   refine ⟨da i,d3,ra i,ra3,F i,B,ws.length,rfl,(st.same s13).r i hi,fl3,w20,fun r o H4 s4 oa is=>?_⟩
   have is':isS (cS ps ws F i) ws.length o:=a8B (fun a b h1 h2=>by unfold cS;rw [hB a b h1 h2]) is
   have s14:=s13.trans s4
   cases o with
   | none =>
    obtain rfl:r=.non:=oa
    refine ⟨_,rfl,_,rfl,a2V ⟨s14,fun s' i' j' h1 h2 h3=>?_,_,_,rfl⟩⟩
    by_cases e:s'=i
    ·subst e
     rcases is' with ⟨_,z⟩ | ⟨_,_,z,_⟩
     ·exact z i' j' h2 h3
     ·cases z
    ·exact c2 s' i' j' (by omega) h2 h3
   | some ij =>
    obtain ⟨t,rfl,ht⟩:=oa
    refine ⟨_,rfl,_,rfl,a6y ?_⟩
    refine ⟨_,rfl,_,rfl,t,_,_,_,rfl,rfl,SqT.of ht,rfl,_,rfl,t,_,_,_,rfl,rfl,SqT.of ht,rfl,(by show 3≤sizeLine;decide),fun t2 ht2=>?_⟩
    exact qq (.ref t2) (some (i,ij.1,ij.2)) _ (s14.trans (a0h ht2 _)) ⟨t2,rfl,a0d⟩ (.inr ⟨i,ij.1,ij.2,rfl,hi,c2,is'⟩)
  ·obtain ⟨s2,c2,x4,x5,rfl⟩:=hP
   exact qq .non none _ s2 rfl (.inl ⟨rfl,c2⟩)
 ·refine ⟨_,rfl,_,rfl,_,rfl,q,d,ws,tp,lss,rfl,hq,hsw,w20,l100,li,fun H1 b s1 hb=>?_⟩
  have eb:b=false:=by
   cases b with
   | false=>rfl
   | true=>exact absurd (hb.mp rfl) ng
  subst eb
  exact ⟨_,rfl,a6y ⟨by decide,qq H1 s1⟩⟩
end
namespace E
theorem hu0 {A:Around} {k:Nat} (hr:a2a k A):A.units < cLine:=by have:=hr.units;omega
theorem pc_bd {ps:List Int} (hp:Bw ps):∀ ns:List Int,0≤CT.pc ps ns∧CT.pc ps ns≤(ns.length:Int) * B30
 | []=>⟨by show (0:Int)≤0;decide,by show (0:Int)≤0 * B30;decide⟩
 | n :: ns=>by
  obtain ⟨h1,h2⟩:=pc_bd hp ns
  have e:CT.pc ps (n :: ns)=ps.getD n.toNat 0+CT.pc ps ns:=by unfold CT.pc;simp
  have b:0≤ps.getD n.toNat 0∧ps.getD n.toNat 0≤B30:=by
   rw [List.getD_eq_getElem?_getD]
   cases hz:ps[n.toNat]? with
   | none=>exact ⟨by decide,by decide⟩
   | some z=>exact hp z (List.mem_of_getElem? hz)
  rw [e]
  have e2:((n :: ns).length:Int) * B30=(ns.length:Int) * B30+B30:=by
   rw [List.length_cons]
   push_cast
   rw [Int.add_mul]
   simp
  omega
section
variable {P':Program} {w:World} {K:PySem.W.Frag} {mg:Str→Option Value} {base:Heap} {f:Addr} {fd:FuncData}
def a4s:Sp:=fun vs H Q _=>∃ (a b:Addr) (u v':List Int),vs=[.ref a,.ref b]∧TW H a u∧TW H b v'∧∀ H',a0C H H'→Q (.bl (decide (v'.take u.length=u))) H'
theorem b0c:a0r ["one","other"] ["one","other"] (a0b a2H):=⟨rfl,rfl,rfl,by decide +kernel,rfl,by decide +kernel,by decide +kernel⟩
theorem a8E (F:Fun K "begins" "begins" a2H f fd) (ml:mg "len"=none):a0W P' w K mg base CX0 1 f fd ["one","other"] a4s:=by
 refine F.ok (k:=0) b0c (fun vs H Q E h=>?_) (fun cdv A outer s H vs Q E hr h=>?_)
 ·obtain ⟨a,b,u,v',rfl,_⟩:=h
  rfl
 obtain ⟨a,b,u,v',rfl,ha,hb,q⟩:=h
 refine ⟨_,a0g (a0q (a1P (b1B (hu4 hr)) (a9o b1C (pv 1) b1p (b1q (a0s a0j (by rfl) ml PySem.boot_len (a0a (pv 0) (a0c))))) (pv 0) (nomark _))),?_⟩
 refine ⟨_,rfl,_,rfl,a,_,rfl,.inr (SqT.of ha),_,rfl,b,_,rfl,hb,fun p1 H1 s1 h1=>?_⟩
 rw [List.length_map,cut_to,←List.map_take] at h1
 exact ⟨_,rfl,_,_,a3g h1,a3g (s1 _ _ ha),q _ s1⟩
def Apt (c:CT.Code):Prop:=∀ (i j:Nat) u v',i < j→c[i]?=some u→c[j]?=some v'→v'.take u.length≠u∧u.take v'.length≠v'
abbrev NCc:List Str:=["code","one","other"]
def a5A:Sp:=fun vs H Q _=>∃ (a:Addr) (xs:List V) (c:CT.Code),vs=[.ref a]∧H a=some (.tup xs)∧Ws H xs c∧c.length≤100∧∀ H' y,a0C H H'→(Apt c→y=.non)→(¬ Apt c→∃ t,y=.ref t)→Q y H'
theorem a5B:a0r NCc ["code"] (a0b a3Q):=⟨rfl,rfl,rfl,by decide +kernel,rfl,by decide +kernel,by decide +kernel⟩
theorem b0d (F:Fun K "clash" "clash" a3Q f fd) (GB:Fns P' w K mg base ["one","other"] "begins" a4s 1) (ml:mg "len"=none) (mr:mg "range"=none):a0W P' w K mg base CX0 2 f fd ["code"] a5A:=by
 refine F.ok (k:=1) a5B (fun vs H Q E h=>?_) (fun cdv A outer s H vs Q E hr h=>?_)
 ·obtain ⟨a,xs,c,rfl,_⟩:=h
  rfl
 obtain ⟨a,xs,c,rfl,ha,hx,lc,q⟩:=h
 have lx:xs.length=c.length:=hx.length
 refine ⟨_,a0e (a1k PassesOwn.never rfl (a1j (by rfl) mr (a0a (a0s a0j (by rfl) ml PySem.boot_len (a0a (pv 0) (a0c))) (a0c))) (a0H (i:=1) a5B.nd rfl (Or.inl rfl)) (a0g (a1k PassesOwn.never rfl (a1y (by rfl) mr (a0a (a0t a0F (pv 1) (a0f)) (a0a (a0s a0j (by rfl) ml PySem.boot_len (a0a (pv 0) (a0c))) (a0c)))) (a0H (i:=2) a5B.nd rfl (Or.inl rfl)) (a0g (a0Y (PW.pt (a6n (a1O (a0k GB.ok hr (by rfl) GB.m GB.kp GB.b .nil a0A (a0a (a0v a0Q (pv 0) (pv 1) (fun _ _=>rfl)) (a0a (a0v a0Q (pv 0) (pv 2) (fun _ _=>rfl)) (a0c))))) (a3I (a1O (a0k GB.ok hr (by rfl) GB.m GB.kp GB.b .nil a0A (a0a (a0v a0Q (pv 0) (pv 2) (fun _ _=>rfl)) (a0a (a0v a0Q (pv 0) (pv 1) (fun _ _=>rfl)) (a0c)))))))) (a0g (a0q (a1K (a0a (pv 1) (a0a (pv 2) a0c))))) (a0B))))))
   (a0g (a0q (a1m))),?_⟩
 refine ⟨_,rfl,a,_,rfl,.inr (SqT.of ha),_,rfl,by omega,by omega,?_⟩
 rw [Int.toNat_natCast]
 refine a0T (fun i σ H'=>a0C H H'∧(∀ (i' j':Nat) u v',i' < i→i' < j'→c[i']?=some u→c[j']?=some v'→v'.take u.length≠u∧u.take v'.length≠v')∧∃ x1 x2:Option V,σ=[some (.ref a),x1,x2]) ⟨a0C.refl _,fun i' j' u v' h=>absurd h (Nat.not_lt_zero _),_,_,rfl⟩ (fun i σ H1 hi hP=>?_) (fun σ H1 hP=>?_)
 rotate_left
 ·obtain ⟨s1,al,x1,x2,rfl⟩:=hP
  exact q _ _ s1 (fun _=>rfl) fun z=>absurd (fun i j u v' hij hu hv=>al i j u v' (by have:=(List.getElem?_eq_some_iff.mp hu).1;omega) hij hu hv) z
 obtain ⟨s1,al,x1,x2,rfl⟩:=hP
 rw [show (0:Int)+(i:Int)=(i:Int) from Int.zero_add _]
 refine ⟨_,rfl,_,_,rfl,rfl,_,rfl,a,_,rfl,.inr (SqT.of (s1 _ _ ha)),_,_,rfl,⟨by omega,by omega,by omega,by omega⟩,?_⟩
 refine a0T (fun k σ H'=>a0C H H'∧(∀ (j':Nat) u v',i < j'→j' < i+1+k→c[i]?=some u→c[j']?=some v'→v'.take u.length≠u∧u.take v'.length≠v')∧∃ x2:Option V,σ=[some (.ref a),some (.int (i:Int)),x2]) ⟨s1,fun j' u v' h1 h2=>by omega,_,rfl⟩ (fun k σ H2 hk hP=>?_) (fun σ H2 hP=>?_)
 rotate_left
 ·obtain ⟨s2,al2,x2,rfl⟩:=hP
  refine ⟨s2,fun i' j' u v' h1 h2 hu hv=>?_,_,_,rfl⟩
  by_cases z:i'=i
  ·subst z
   exact al2 j' u v' h2 (by have:=(List.getElem?_eq_some_iff.mp hv).1;omega) hu hv
  ·exact al i' j' u v' (by omega) h2 hu hv
 obtain ⟨s2,al2,x2,rfl⟩:=hP
 obtain ⟨j,ej⟩:∃ j,j=i+1+k:=⟨_,rfl⟩
 have ek:(i:Int)+1+(k:Int)=(j:Int):=by omega
 rw [ek]
 have hj:j < xs.length:=by omega
 have hi':i < xs.length:=by omega
 have xi:xs[i]?=some xs[i]:=List.getElem?_eq_getElem hi'
 have xj:xs[j]?=some xs[j]:=List.getElem?_eq_getElem hj
 obtain ⟨u,hu,ru⟩:=Paired.right_of hx i _ xi
 obtain ⟨v',hv,rv⟩:=Paired.right_of hx j _ xj
 obtain ⟨ua,eu,hua⟩:=Wd.ti ru
 obtain ⟨va,ev,hva⟩:=Wd.ti rv
 rw [eu] at xi
 rw [ev] at xj
 have ha2:=s2 _ _ ha
 refine ⟨_,rfl,_,rfl,a,_,_,_,rfl,rfl,SqT.of ha2,a1Q xi,_,rfl,_,rfl,a,_,_,_,rfl,rfl,SqT.of ha2,a1Q xj,ua,va,u,v',rfl,s2 _ _ hua,s2 _ _ hva,fun H3 s3=>?_⟩
 have no:∀ H5,a0C H H5→(v'.take u.length=u∨u.take v'.length=v')→2≤sizeLine∧∀ t,H5 t=none→Q (.ref t) (upd H5 t (.tup [.int (i:Int),.int (j:Int)])):=fun H5 s5 bad=>⟨by decide,fun t ht=>q _ _ (s5.trans (a0h ht _)) (fun z=>by
  obtain ⟨z1,z2⟩:=z i j u v' (by omega) hu hv
  rcases bad with w | w
  ·exact absurd w z1
  ·exact absurd w z2) fun _=>⟨t,rfl⟩⟩
 refine ⟨_,rfl,?_⟩
 refine a2T (fun y=>?_) (fun y=>?_)
 ·exact a6y ⟨_,rfl,_,rfl,no H3 (s2.trans s3) (.inl (of_decide_eq_true y))⟩
 have p1:v'.take u.length≠u:=fun z=>y (decide_eq_true z)
 have ha3:=s3 _ _ ha2
 have s23:=s2.trans s3
 refine ⟨_,rfl,_,rfl,a,_,_,_,rfl,rfl,SqT.of ha3,a1Q xj,_,rfl,_,rfl,a,_,_,_,rfl,rfl,SqT.of ha3,a1Q xi,va,ua,v',u,rfl,s23 _ _ hva,s23 _ _ hua,fun H4 s4=>?_⟩
 refine ⟨_,rfl,?_⟩
 refine a2T (fun y=>?_) (fun y=>?_)
 ·exact ⟨_,rfl,_,rfl,no H4 (s23.trans s4) (.inr (of_decide_eq_true y))⟩
 have p2:u.take v'.length≠v':=fun z=>y (decide_eq_true z)
 refine ⟨s23.trans s4,fun j' u' v2 h1 h2 hu' hv'=>?_,_,rfl⟩
 by_cases z:j'=j
 ·subst z
  rw [hu] at hu'
  rw [hv] at hv'
  cases hu'
  cases hv'
  exact ⟨p1,p2⟩
 ·exact al2 j' u' v2 h1 (by omega) hu' hv'
end
def Lt (L:Nat) (ns:List Int):Prop:=∀ z∈ns,(0:Int)≤z∧z < (L:Int)
theorem a8j {X:Cx} {st:Stmt}:PS X st (fun _ _ _=>False):=fun _ _ _ _ _ _ h=>h.elim
abbrev PCo:List Str:=["prices","weights","code"]
theorem zip_at {ps ws:List Int} {nss:List (List Int)} {i:Nat} {x:Int} {ns:List Int} (h1:ws[i]?=some x) (h2:nss[i]?=some ns):(List.zipWith (fun x ns=>x * CT.pc ps ns) ws nss)[i]?=some (x * CT.pc ps ns):=by
 rw [List.getElem?_zipWith,h1,h2]
theorem op_ltK {X:Cx} (K:PySem.W.Frag) (hu:X.A.units < cLine) (h:X.K=K:=by rfl):OpR X (compareOp .Lt) (rLtT K):=by subst h;exact op_ltT hu
section
variable {P':Program} {w:World} {K:PySem.W.Frag} {mg:Str→Option Value} {base:Heap} {f:Addr} {fd:FuncData}
def al (m x:Int):Bool:=decide (0≤x) && decide (x < m)
def alone (m:Int) (ns:List Int):Bool:=(ns.map (al m)).all id
def a4t:Sp:=fun vs H Q _=>∃ (x:V) (ns:List Int) (m:Int),vs=[x,.int m]∧Wd H x ns∧ns.length≤1000∧∀ H',a0C H H'→Q (.bl (alone m ns)) H'
theorem b2v:a0r ["word","letters"] ["word","letters"] (a0b a3r):=⟨rfl,rfl,rfl,by decide +kernel,rfl,by decide +kernel,by decide +kernel⟩
theorem ndA:(("letter":Str) :: ["word","letters"]).Nodup:=by decide +kernel
theorem b0e (F:Fun K "has_letters_alone" "has_letters_alone" a3r f fd) (ma:mg "all"=none):a0W P' w K mg base CX0 1 f fd ["word","letters"] a4t:=by
 refine F.ok (k:=0) b2v (fun vs H Q E h=>?_) (fun cdv A outer s H vs Q E hr h=>?_)
 ·obtain ⟨x,ns,m,rfl,_⟩:=h
  rfl
 obtain ⟨x,ns,m,rfl,hx,hl,q⟩:=h
 obtain ⟨a,rfl,ha⟩:=hx.ti
 refine ⟨_,a0g (a0q (a0s (a2q rfl) (by rfl) ma a7y (a0a (a2s (M:=["word","letters"]) rfl (a0l.of (a0b a3r) ["word","letters"] rfl rfl rfl (by decide +kernel) (by decide +kernel) (by decide +kernel) rfl (by decide +kernel)) ndA rfl (pv 0) a0X
  (fun cl C s0 H0 fp=>⟨a0P,a9e a9d a7f a0f (pv 0) (pv 2)⟩)) a0c))),?_⟩
 refine ⟨_,rfl,a,_,rfl,SqT.of ha,fun d hd=>?_⟩
 refine ⟨fun k H'=>a0C H H'∧H' d=some (.lst (((ns.take k).map (al m)).map V.bl)),⟨a0h hd _,a0d⟩,fun k H' _ hP=>SqT.of (hP.1 _ _ ha),fun k x H' hx hP=>?_,fun H' hP=>?_⟩
 ·obtain ⟨sm,hd'⟩:=hP
  rw [List.getElem?_map] at hx
  cases hz:ns[k]? with
  | none=>rw [hz] at hx;cases hx
  | some z =>
   rw [hz] at hx;cases hx
   have hk:=(List.getElem?_eq_some_iff.mp hz).1
   have fin:∀ b,b=al m z→∃ ys,H' d=some (.lst ys)∧ys.length < sizeLine∧(a0C H (upd H' d (.lst (ys++[.bl b])))∧upd H' d (.lst (ys++[.bl b])) d=some (.lst (((ns.take (k+1)).map (al m)).map V.bl))):=fun b eb=>by
    refine ⟨_,hd',?_,a0y hd sm,?_⟩
    ·rw [List.length_map,List.length_map,List.length_take];exact a0u (by omega)
    ·rw [a0d,List.take_add_one,hz,List.map_append,List.map_append,eb];rfl
   refine a0L ⟨_,rfl,_,_,rfl,rfl,_,rfl,?_⟩
   refine a2T (fun c=>?_) (fun c=>?_)
   ·refine ⟨_,rfl,_,_,rfl,rfl,?_⟩
    exact fin _ (by unfold al;rw [c];rfl)
   ·exact fin _ (by unfold al;rw [Bool.eq_false_iff.mpr c];rfl)
 ·obtain ⟨sm,hd'⟩:=hP
  rw [List.length_map,List.take_length] at hd'
  exact ⟨d,_,rfl,hd',q H' sm⟩
theorem a4u {m:Int} {ns:List Int} (h:alone m ns=true):∀ x∈ns,0≤x∧x < m:=fun x hx=>by
 have q:=List.all_eq_true.mp h (al m x) (List.mem_map_of_mem hx)
 unfold al at q
 simp only [id,Bool.and_eq_true,decide_eq_true_eq] at q
 exact q
theorem a5c {m:Int} {ns:List Int}:alone m ns=true↔∀ x∈ns,0≤x∧x < m:=by
 refine ⟨a4u,fun h=>?_⟩
 unfold alone
 rw [List.all_eq_true]
 intro b hb
 obtain ⟨x,hx,rfl⟩:=List.mem_map.mp hb
 obtain ⟨h1,h2⟩:=h x hx
 unfold al
 simp [h1,h2]
def a5C:Sp:=fun vs H Q _=>∃ (x y:V) (ps ns:List Int),vs=[x,y]∧Wd H x ps∧Wd H y ns∧ns.length≤1000∧Lt ps.length ns∧∀ H',a0C H H'→Q (.int (CT.pc ps ns)) H'
theorem b2w:a0r ["prices","word"] ["prices","word"] (a0b a3s):=⟨rfl,rfl,rfl,by decide +kernel,rfl,by decide +kernel,by decide +kernel⟩
theorem ndP:(("letter":Str) :: ["prices","word"]).Nodup:=by decide +kernel
theorem b0f (F:Fun K "word_price" "word_price" a3s f fd) (G:Fns P' w K mg base ["word","letters"] "has_letters_alone" a4t 1) (ml:mg "len"=none) (ms:mg "sum"=none):a0W P' w K mg base CX0 2 f fd ["prices","word"] a5C:=by
 refine F.ok (k:=1) b2w (fun vs H Q E h=>?_) (fun cdv A outer s H vs Q E hr h=>?_)
 ·obtain ⟨x,y,ps,ns,rfl,_⟩:=h
  rfl
 obtain ⟨x,y,ps,ns,rfl,hx,hy,hl,lt,q1⟩:=h
 obtain ⟨p,rfl,hp⟩:=hx.ti
 obtain ⟨a,rfl,ha⟩:=hy.ti
 refine ⟨_,a0e (a0Y (a2l (a1O (a0k G.ok hr (by rfl) G.m G.kp G.b .nil a0A (a0a (pv 1) (a0a (a0s a0j (by rfl) ml PySem.boot_len (a0a (pv 0) a0c)) a0c))))) (a0g a8j) a0B)
  (a0g (a0q (a0s (a4f rfl) (by rfl) ms b1D (a0a (a2s (M:=["prices","word"]) rfl (a0l.of (a0b a3s) ["prices","word"] rfl rfl rfl (by decide +kernel) (by decide +kernel) (by decide +kernel) rfl (by decide +kernel)) ndP rfl (pv 1) a0X
   (fun cl C s0 H0 fp=>⟨a0P,a0v (ixT K) (pv 1) (pv 0) (fun _ _=>rfl)⟩)) a0c)))),?_⟩
 refine ⟨_,rfl,_,rfl,p,_,rfl,.inr (SqT.of hp),.ref a,ns,_,rfl,Wd.of ha,hl,fun H1 s1=>?_⟩
 rw [List.length_map]
 refine ⟨_,rfl,?_⟩
 have c1:alone (ps.length:Int) ns=true:=a5c.mpr lt
 rw [c1]
 refine a2V ?_
 have hn:=a4u c1
 refine ⟨_,rfl,a,_,rfl,SqT.of (s1 _ _ ha),fun d hd=>?_⟩
 refine ⟨fun k H'=>a0C H1 H'∧H' d=some (.lst (((ns.take k).map fun x=>ps.getD x.toNat 0).map V.int)),⟨a0h hd _,a0d⟩,fun k H' _ hP=>SqT.of (hP.1 _ _ (s1 _ _ ha)),fun k x H' hx hP=>?_,fun H' hP=>?_⟩
 ·obtain ⟨sm,hd'⟩:=hP
  rw [List.getElem?_map] at hx
  cases hz:ns[k]? with
  | none=>rw [hz] at hx;cases hx
  | some z =>
   rw [hz] at hx;cases hx
   have hk:=(List.getElem?_eq_some_iff.mp hz).1
   obtain ⟨z0,z1⟩:=hn z (List.mem_of_getElem? hz)
   obtain ⟨n,rfl⟩:∃ n:Nat,z=n:=⟨z.toNat,by omega⟩
   have hn':n < ps.length:=by omega
   refine a0L ⟨_,rfl,_,rfl,p,_,_,_,rfl,rfl,SqT.of (sm _ _ (s1 _ _ hp)),a1M (List.getElem?_eq_getElem hn'),_,hd',?_,a0y hd sm,?_⟩
   ·rw [List.length_map,List.length_map,List.length_take];exact a0u (by omega)
   ·rw [a0d,List.take_add_one,hz,List.map_append,List.map_append]
    simp [List.getD_eq_getElem?_getD,List.getElem?_eq_getElem hn']
 ·obtain ⟨sm,hd'⟩:=hP
  rw [List.length_map,List.take_length] at hd'
  exact ⟨d,_,rfl,hd',q1 H' (s1.trans sm)⟩
def a5D:Sp:=fun vs H Q _=>∃ (p wa c:Addr) (ps ws:List Int) (xs:List V) (nss:CT.Code),vs=[.ref p,.ref wa,.ref c]∧TW H p ps∧TW H wa ws∧H c=some (.tup xs)∧Ws H xs nss∧nss.length=ws.length∧nss.length≤100∧(∀ ns∈nss,Lt ps.length ns∧ns.length≤1000)∧Bw ps∧Bw ws∧∀ H',a0C H H'→Q (.int (CT.co ps ws 0 nss)) H'
theorem scPCst:a0r PCo PCo (a0b a3u):=⟨rfl,rfl,rfl,by decide +kernel,rfl,by decide +kernel,by decide +kernel⟩
theorem ndPC:(("weight":Str) :: "word" :: PCo).Nodup:=by decide +kernel
theorem b0g (F:Fun K "cost" "cost" a3u f fd) (G:Fns P' w K mg base ["prices","word"] "word_price" a5C 2) (ml:mg "len"=none) (ms:mg "sum"=none) (mz:mg "zip"=none):a0W P' w K mg base CX0 3 f fd PCo a5D:=by
 refine F.ok (k:=2) scPCst (fun vs H Q E h=>?_) (fun cdv A outer s H vs Q E hr h=>?_)
 ·obtain ⟨p,wa,c,ps,ws,xs,nss,rfl,_⟩:=h
  rfl
 obtain ⟨p,wa,c,ps,ws,xs,nss,rfl,hp,hw,hc,hx,el,l1,l2,bp,bw,q2⟩:=h
 have lx:xs.length=nss.length:=hx.length
 refine ⟨_,a0e (a0Y (a0G a9c (a0s a0j (by rfl) ml PySem.boot_len (a0a (pv 2) a0c)) (a0s a0j (by rfl) ml PySem.boot_len (a0a (pv 1) a0c)) (nomark _)) (a0g a8j) a0B)
  (a0g (a0q (a0s (a4f rfl) (by rfl) ms b1D (a0a (a9D K true true (M:=PCo) rfl (a0l.of (a0b a3u) PCo rfl rfl rfl (by decide +kernel) (by decide +kernel) (by decide +kernel) rfl (by decide +kernel)) ndPC rfl rfl (by rfl) mz (a0a (pv 1) (a0a (pv 2) a0c)) (a0Z a0X (a0Z a0X a1B))
   (fun cl C s0 H0 fp pins σ bk=>⟨a0P,a0t a7I (pv 0) (a0k G.ok hr (by rfl) G.m G.kp G.b .nil a0A (a0a (pv 2) (a0a (pv 1) a0c)))⟩)) a0c)))),?_⟩
 refine ⟨_,rfl,c,_,rfl,.inr (SqT.of hc),_,rfl,wa,_,rfl,.inr (SqT.of hw),rfl,_,rfl,?_⟩
 rw [List.length_map,lx]
 rw [el,decide_eq_true rfl]
 refine a2V ?_
 refine ⟨_,rfl,_,rfl,wa,c,_,_,rfl,SqT.of hw,SqT.of hc,by rw [List.length_map];omega,fun d hd=>?_⟩
 refine ⟨fun i H'=>a0C H H'∧H' d=some (.lst (((List.zipWith (fun x ns=>x * CT.pc ps ns) ws nss).take i).map V.int)),⟨a0h hd _,a0d⟩,
  fun i H' _ hP=>⟨SqT.of (hP.1 _ _ hw),SqT.of (hP.1 _ _ hc)⟩,fun i x y pp H' hx' hy' hP hpp=>?_,fun H' hP=>?_⟩
 ·obtain ⟨sm,hd'⟩:=hP
  rw [List.getElem?_map] at hx'
  cases hz:ws[i]? with
  | none=>rw [hz] at hx';cases hx'
  | some wt =>
  rw [hz] at hx';cases hx'
  obtain ⟨ns,hn,ry⟩:=Paired.right_of hx i y hy'
  have iw:=(List.getElem?_eq_some_iff.mp hz).1
  have s2:=a0h hpp (.tup [.int wt,y])
  have dn:d≠pp:=a1b hd' hpp
  refine a7J ⟨_,rfl,_,rfl,_,rfl,.ref p,y,ps,ns,rfl,Wd.of (s2 _ _ (sm _ _ hp)),Wd.same (sm.trans s2) ry,(l2 ns (List.mem_of_getElem? hn)).2,(l2 ns (List.mem_of_getElem? hn)).1,fun H3 s3=>?_⟩
  ·obtain ⟨b1,b2⟩:=pc_bd bp ns
   obtain ⟨b3,b4⟩:=bw wt (List.mem_of_getElem? hz)
   have b5:(ns.length:Int)≤1000:=by have:=(l2 ns (List.mem_of_getElem? hn)).2;omega
   have b6:(ns.length:Int) * B30≤1000 * B30:=Int.mul_le_mul_of_nonneg_right b5 (by decide)
   refine ⟨_,_,rfl,rfl,⟨⟨b3,by unfold B30 at *;omega⟩,⟨b1,by unfold B30 at *;omega⟩⟩,_,s3 _ _ (s2 _ _ hd'),?_,a0y hd ((sm.trans s2).trans s3),?_⟩
   ·rw [List.length_map,List.length_take,List.length_zipWith];exact a0u (by omega)
   ·rw [a0d,List.take_add_one,zip_at hz hn,List.map_append];rfl
 ·obtain ⟨sm,hd'⟩:=hP
  rw [List.length_map] at hd'
  rw [List.take_of_length_le (by rw [List.length_zipWith];omega)] at hd'
  exact ⟨d,_,rfl,hd',q2 H' sm⟩
def b2U (ws:List (List Int)):List Bool:=(List.range (ws.length - 1)).map fun i=>HT.a1f (ws.getD i []) (ws.getD (i+1) [])
def rises (ws:List (List Int)):Bool:=(b2U ws).all id
def a5E:Sp:=fun vs H Q _=>∃ c xs ws,vs=[.ref c]∧H c=some (.tup xs)∧Ws H xs ws∧ws.length≤100∧∀ H',a0C H H'→Q (.bl (rises ws)) H'
theorem b2x:a0r ["code"] ["code"] (a0b a3t):=⟨rfl,rfl,rfl,by decide +kernel,rfl,by decide +kernel,by decide +kernel⟩
theorem ndT:(("thing":Str) :: ["code"]).Nodup:=by decide +kernel
theorem b0h (F:Fun K "rises" "rises" a3t f fd) (ml:mg "len"=none) (mr:mg "range"=none) (ma:mg "all"=none):a0W P' w K mg base CX0 1 f fd ["code"] a5E:=by
 refine F.ok (k:=0) b2x (fun vs H Q E h=>?_) (fun cdv A outer s H vs Q E hr h=>?_)
 ·obtain ⟨c,xs,ws,rfl,_⟩:=h
  rfl
 obtain ⟨c,xs,ws,rfl,hc,hw,l1,q⟩:=h
 have lx:xs.length=ws.length:=hw.length
 refine ⟨_,a0g (a0q (a0s (a2q rfl) (by rfl) ma a7y (a0a (a1r (M:=["code"]) rfl (a0l.of (a0b a3t) ["code"] rfl rfl rfl (by decide +kernel) (by decide +kernel) (by decide +kernel) rfl (by decide +kernel)) ndT rfl (by rfl) mr
  (a0a (a0t a1c (a0s a0j (by rfl) ml PySem.boot_len (a0a (pv 0) a0c)) a0f) a0c) (a0Z (a6E a3N (a7z (a0Z a0X a1B)) b2O) a1B)
  (fun cl C s0 H0 fp=>⟨a0P,a1P (op_ltK K (hu0 hr)) (a0v (ixT K) (pv 1) (pv 0) (fun _ _=>rfl)) (a0v (ixT K) (pv 1) (a0t a0F (pv 0) a0f) (fun _ _=>rfl)) (nomark _)⟩)) a0c))),?_⟩
 refine ⟨_,rfl,c,_,rfl,.inr (SqT.of hc),_,_,rfl,rfl,_,rfl,by omega,by omega,fun d hd=>?_⟩
 have en:((xs.length:Int) - 1).toNat=ws.length - 1:=by omega
 dsimp only
 rw [en]
 refine ⟨fun i H'=>a0C H H'∧H' d=some (.lst (((b2U ws).take i).map V.bl)),⟨a0h hd _,a0d⟩,fun i H' hi hP=>?_,fun H' hP=>?_⟩
 ·obtain ⟨sm,hd'⟩:=hP
  have e0:(0:Int)+(i:Int)=((i:Nat):Int):=by omega
  have e1:((i:Nat):Int)+1=((i+1:Nat):Int):=by omega
  have u1:ws[i]?=some ws[i]:=List.getElem?_eq_getElem (by omega)
  have u2:ws[i+1]?=some ws[i+1]:=List.getElem?_eq_getElem (by omega)
  obtain ⟨y1,hy1,r1⟩:=L2.Paired.left_of hw _ _ u1
  obtain ⟨y2,hy2,r2⟩:=L2.Paired.left_of hw _ _ u2
  obtain ⟨a1,rfl,t1⟩:=Wd.ti r1
  obtain ⟨a2,rfl,t2⟩:=Wd.ti r2
  rw [e0]
  refine a0L ⟨_,rfl,_,rfl,c,_,_,_,rfl,rfl,SqT.of (sm _ _ hc),a5Q hy1,_,rfl,_,rfl,_,_,rfl,rfl,c,_,_,_,rfl,rfl,SqT.of (sm _ _ hc),(by rw [e1];exact a5Q hy2),a1,a2,_,_,rfl,rfl,SqT.of (sm _ _ t1),SqT.of (sm _ _ t2),_,hd',?_,a0y hd sm,?_⟩
  ·rw [List.length_map,List.length_take];exact a0u (by omega)
  ·have ri:(b2U ws)[i]?=some (HT.a1f ws[i] ws[i+1]):=by
    unfold b2U
    rw [List.getElem?_map,List.getElem?_range hi]
    simp [List.getD_eq_getElem?_getD,u1,u2]
   rw [a0d,List.take_add_one,ri,List.map_append]
   rfl
 ·obtain ⟨sm,hd'⟩:=hP
  rw [List.take_of_length_le (by unfold b2U;simp)] at hd'
  exact ⟨d,_,rfl,hd',q H' sm⟩
end
theorem a6f:∀ u v w:List Int,HT.a1f u v=true→HT.a1f v w=true→HT.a1f u w=true
 | [],[],w,h,_=>by cases h
 | [],_ :: _,[],_,h=>by cases h
 | [],_ :: _,_ :: _,_,_=>rfl
 | _ :: _,[],w,h,_=>by cases h
 | _ :: _,_ :: _,[],_,h=>by cases h
 | x :: u,y :: v,z :: w,h1,h2=>by
  rw [HT.a1o] at h1 h2 ⊢
  by_cases e1:x=y
  ·subst e1
   rw [if_pos rfl] at h1
   by_cases e2:x=z
   ·subst e2
    rw [if_pos rfl] at h2 ⊢
    exact a6f u v w h1 h2
   ·rw [if_neg e2] at h2 ⊢;exact h2
  ·rw [if_neg e1] at h1
   have l1:=of_decide_eq_true h1
   by_cases e2:y=z
   ·subst e2
    rw [if_neg e1];exact h1
   ·rw [if_neg e2] at h2
    have l2:=of_decide_eq_true h2
    rw [if_neg (by omega)]
    exact decide_eq_true (by omega)
theorem a5d:∀ u w:List Int,u.take w.length=w→HT.a1f u w=false
 | [],[],_=>rfl
 | [],_ :: _,h=>by cases h
 | _ :: _,[],_=>rfl
 | x :: u,y :: w,h=>by
  rw [List.length_cons,List.take_succ_cons] at h
  injection h with h1 h2
  rw [HT.a1o,if_pos h1]
  exact a5d u w h2
theorem a5e:∀ u v w:List Int,HT.a1f u v=true→HT.a1f v w=true→w.take u.length=u→v.take u.length=u
 | [],v,w,_,_,_=>by rw [List.length_nil,List.take_zero]
 | _ :: _,[],w,h,_,_=>by cases h
 | _ :: _,_ :: _,[],_,h,_=>by cases h
 | x :: u,y :: v,z :: w,h1,h2,h=>by
  rw [List.length_cons,List.take_succ_cons] at h
  injection h with e h
  subst e
  rw [HT.a1o] at h1 h2
  by_cases e1:z=y
  ·subst e1
   rw [if_pos rfl] at h1 h2
   rw [List.length_cons,List.take_succ_cons,a5e u v w h1 h2 h]
  ·rw [if_neg e1] at h1
   rw [if_neg (Ne.symm e1)] at h2
   have:=of_decide_eq_true h1
   have:=of_decide_eq_true h2
   omega
def Kadj (c:CT.Code):Prop:=∀ (k:Nat) u v',c[k]?=some u→c[k+1]?=some v'→HT.a1f u v'=true∧v'.take u.length≠u
theorem a5f {c:CT.Code}:rises c=true↔∀ (k:Nat) u v',c[k]?=some u→c[k+1]?=some v'→HT.a1f u v'=true:=by
 unfold rises b2U
 rw [List.all_eq_true]
 constructor
 ·intro h k u v' hu hv
  have l:=(List.getElem?_eq_some_iff.mp hv).1
  have:=h _ (List.mem_map.mpr ⟨k,List.mem_range.mpr (by omega),rfl⟩)
  rw [List.getD_eq_getElem?_getD,List.getD_eq_getElem?_getD,hu,hv] at this
  exact this
 ·intro h b hb
  obtain ⟨k,hk,rfl⟩:=List.mem_map.mp hb
  have hk:=List.mem_range.mp hk
  have h1:c[k]?=some (c[k]'(by omega)):=List.getElem?_eq_getElem _
  have h2:c[k+1]?=some (c[k+1]'(by omega)):=List.getElem?_eq_getElem _
  show HT.a1f (c.getD k []) (c.getD (k+1) [])=true
  rw [List.getD_eq_getElem?_getD,List.getD_eq_getElem?_getD,h1,h2]
  exact h k _ _ h1 h2
theorem b0U {c:CT.Code} (h:Kadj c):∀ (d i:Nat) u v',c[i]?=some u→c[i+d+1]?=some v'→HT.a1f u v'=true∧v'.take u.length≠u
 | 0,i,u,v',hu,hv=>h i u v' hu hv
 | d+1,i,u,v',hu,hv=>by
  have l:=(List.getElem?_eq_some_iff.mp hv).1
  have hm:c[i+d+1]?=some (c[i+d+1]'(by omega)):=List.getElem?_eq_getElem _
  obtain ⟨a1,a2⟩:=b0U h d i u _ hu hm
  obtain ⟨b1,b2⟩:=h (i+d+1) _ v' hm hv
  exact ⟨a6f _ _ _ a1 b1,fun z=>a2 (a5e _ _ _ a1 b1 z)⟩
theorem a4v {c:CT.Code}:Kadj c↔rises c=true∧Apt c:=by
 constructor
 ·intro h
  refine ⟨a5f.mpr fun k u v' hu hv=>(h k u v' hu hv).1,fun i j u v' hij hu hv=>?_⟩
  obtain ⟨h1,h2⟩:=b0U h (j - i - 1) i u v' hu (by rw [show i+(j - i - 1)+1=j by omega];exact hv)
  refine ⟨h2,fun z=>?_⟩
  rw [a5d u v' z] at h1
  cases h1
 ·rintro ⟨h1,h2⟩ k u v' hu hv
  exact ⟨a5f.mp h1 k u v' hu hv,(h2 k (k+1) u v' (by omega) hu hv).1⟩
structure Kpt (L n:Nat) (c:CT.Code):Prop where
 ln:c.length=n
 ka:Kadj c
 wd:∀ u∈c,alone (L:Int) u=true
section
variable {P':Program} {w:World} {K:PySem.W.Frag} {mg:Str→Option Value} {base:Heap} {f:Addr} {fd:FuncData}
def a8F:Sp:=fun vs H Q _=>∃ (a:Addr) (xs:List V) (c:CT.Code),vs=[.ref a]∧H a=some (.tup xs)∧Ws H xs c∧c.length≤100∧∀ H' b,a0C H H'→(b=true↔Kadj c)→Q (.bl b) H'
theorem scKept:a0r ["code"] ["code"] (a0b a2I):=⟨rfl,rfl,rfl,by decide +kernel,rfl,by decide +kernel,by decide +kernel⟩
theorem b2y (F:Fun K "is_kept" "is_kept" a2I f fd) (GI:Fns P' w K mg base ["code"] "rises" a5E 2) (GC:Fns P' w K mg base ["code"] "clash" a5A 2):a0W P' w K mg base CX0 3 f fd ["code"] a8F:=by
 refine F.ok (k:=2) scKept (fun vs H Q E h=>?_) (fun cdv A outer s H vs Q E hr h=>?_)
 ·obtain ⟨c,xs,ws,rfl,_⟩:=h
  rfl
 obtain ⟨c,xs,ws,rfl,hc,hw,l1,q⟩:=h
 refine ⟨_,a0g (a0q (a5I (a0k GI.ok hr (by rfl) GI.m GI.kp GI.b .nil a0A (a0a (pv 0) a0c)) (a4F (a5H (a3a (a0k GC.ok hr (by rfl) GC.m GC.kp GC.b .nil a0A (a0a (pv 0) a0c))))))),?_⟩
 refine ⟨_,rfl,c,xs,ws,rfl,hc,hw,l1,fun H1 s1=>⟨_,rfl,?_⟩⟩
 refine a2T (fun y=>?_) (fun y=>?_)
 ·refine ⟨_,rfl,c,xs,ws,rfl,s1 _ _ hc,Ws.same s1 hw,l1,fun H2 v s2 h1 h2=>?_⟩
  by_cases ap:Apt ws
  ·rw [h1 ap]
   exact q H2 true (s1.trans s2) ⟨fun _=>a4v.mpr ⟨y,ap⟩,fun _=>rfl⟩
  ·obtain ⟨t,rfl⟩:=h2 ap
   exact q H2 false (s1.trans s2) ⟨(fun z=>by cases z),fun z=>absurd (a4v.mp z).2 ap⟩
 ·refine q H1 _ s1 ⟨(fun z=>by first | cases z | exact absurd z y),fun z=>absurd (a4v.mp z).1 y⟩
def spKf:Sp:=fun vs H Q _=>∃ (p q a:Addr) (ps ws:List Int) (xs:List V) (c:CT.Code),vs=[.ref p,.ref q,.ref a]∧TW H p ps∧TW H q ws∧H a=some (.tup xs)∧Ws H xs c∧c.length≤100∧(∀ u∈c,u.length≤1000)∧∀ H' b,a0C H H'→(b=true↔Kpt ps.length ws.length c)→Q (.bl b) H'
theorem scKf:a0r PCo PCo (a0b a1F):=⟨rfl,rfl,rfl,by decide +kernel,rfl,by decide +kernel,by decide +kernel⟩
theorem ndKf:(("word":Str) :: PCo).Nodup:=by decide +kernel
theorem ok_kf (F:Fun K "is_kept_for" "is_kept_for" a1F f fd) (GK:Fns P' w K mg base ["code"] "is_kept" a8F 3) (GA:Fns P' w K mg base ["word","letters"] "has_letters_alone" a4t 3) (ml:mg "len"=none) (ma:mg "all"=none):a0W P' w K mg base CX0 4 f fd PCo spKf:=by
 refine F.ok (k:=3) scKf (fun vs H Q E h=>?_) (fun cdv A outer s H vs Q E hr h=>?_)
 ·obtain ⟨p,q,a,ps,ws,xs,c,rfl,_⟩:=h
  rfl
 obtain ⟨p,q,a,ps,ws,xs,c,rfl,hp,hq,ha,hx,l1,l2,qq⟩:=h
 have lx:xs.length=c.length:=hx.length
 refine ⟨_,a0e (a0Y (PW.pt (a6n (a0G a9c (a0s a0j (by rfl) ml PySem.boot_len (a0a (pv 2) a0c)) (a0s a0j (by rfl) ml PySem.boot_len (a0a (pv 1) a0c)) (nomark _)) (a3I (a2l (a1O (a0k GK.ok hr (by rfl) GK.m GK.kp GK.b .nil a0A (a0a (pv 2) a0c))))))) (a0g (a0q a1C)) a0B)
  (a0g (a0q (a0s (a2q rfl) (by rfl) ma a7y (a0a (a2s (M:=PCo) rfl (a0l.of (a0b a1F) PCo rfl rfl rfl (by decide +kernel) (by decide +kernel) (by decide +kernel) rfl (by decide +kernel)) ndKf rfl (pv 2) a0X
   (fun cl C s0 H0 fp=>⟨a0P,a0k GA.ok hr (by rfl) GA.m GA.kp GA.b .nil a0A (a0a (pv 0) (a0a (a0s (a3j K) (by rfl) ml PySem.boot_len (a0a (pv 1) a0c)) a0c))⟩)) a0c)))),?_⟩
 refine ⟨_,rfl,a,_,rfl,.inr (SqT.of ha),_,rfl,q,_,rfl,.inr (SqT.of hq),rfl,_,rfl,?_⟩
 rw [List.length_map,lx]
 refine a2T (fun y=>?_) (fun y=>?_)
 ·refine a6y (qq H false (a0C.refl _) ⟨(fun z=>by cases z),fun z=>?_⟩)
  rw [z.ln] at y
  simp at y
 have el:c.length=ws.length:=by
  by_cases z:c.length=ws.length
  ·exact z
  ·refine absurd ?_ y
   rw [Bool.not_eq_true',decide_eq_false_iff_not]
   intro x
   have:=V.int.inj x
   omega
 refine ⟨_,rfl,a,xs,c,rfl,ha,hx,l1,fun H1 bk s1 hbk=>⟨bk,rfl,?_⟩⟩
 cases bk with
 | false=>exact a6y (qq H1 false s1 ⟨(fun z=>by cases z),fun z=>absurd (hbk.mpr z.ka) (by decide)⟩)
 | true =>
 have ka:=hbk.mp rfl
 refine a2V ?_
 have ha1:=s1 _ _ ha
 refine ⟨_,rfl,a,xs,rfl,SqT.of ha1,fun d hd=>?_⟩
 refine ⟨fun i H'=>a0C H1 H'∧H' d=some (.lst (((c.take i).map (alone (ps.length:Int))).map V.bl)),⟨a0h hd _,a0d⟩,fun i H' _ hP=>SqT.of (hP.1 _ _ ha1),fun i x H' hx' hP=>?_,fun H2 hP=>?_⟩
 ·obtain ⟨s2,g2⟩:=hP
  obtain ⟨u,hu,ru⟩:=Paired.right_of hx i x hx'
  have li:=(List.getElem?_eq_some_iff.mp hu).1
  have s12:=s1.trans s2
  refine a0L ⟨_,rfl,_,rfl,p,_,rfl,.inr (SqT.of (s12 _ _ hp)),?_⟩
  rw [List.length_map]
  refine ⟨x,u,(ps.length:Int),rfl,Wd.same s12 ru,(l2 u (List.mem_of_getElem? hu)),fun H3 s3=>?_⟩
  refine ⟨_,s3 _ _ g2,a0u (by rw [List.length_map,List.length_map,List.length_take];omega),a0y hd (s2.trans s3),?_⟩
  rw [a0d,List.take_add_one,hu,List.map_append,List.map_append]
  rfl
 obtain ⟨s2,g2⟩:=hP
 rw [hx.length,List.take_length] at g2
 refine ⟨d,_,rfl,g2,?_⟩
 refine qq H2 _ (s1.trans s2) ?_
 rw [List.all_eq_true]
 constructor
 ·exact fun z=>⟨el,ka,fun u hu=>z _ (List.mem_map_of_mem hu)⟩
 ·intro z b hb
  obtain ⟨u,hu,rfl⟩:=List.mem_map.mp hb
  exact z.wd u hu
end
end E
end K47
namespace K47
open PySem L2
theorem b2z (o:OI):ab o o=false:=by
 cases o with
 | none=>rfl
 | some x=>show decide (x > x)=false;exact decide_eq_false (by omega)
theorem no_lie {ps ws:List Int} {s i j:Nat}:¬ cS ps ws (S ps ws) s i j:=fun h=>by
 unfold cS at h
 rw [S_is,b2z] at h
 cases h
theorem isT_no {c:Nat→Nat→Nat→Prop} {k n:Nat} {o:Option (Nat × Nat × Nat)} (h:isT c k n o) (no:∀ s i j,¬ c s i j):o=none:=by
 rcases h with ⟨h,_⟩ | ⟨s,i,j,_,_,_,h⟩
 ·exact h
 ·rcases h with ⟨z,_⟩ | ⟨i',j',_,_,_,h3,_⟩
  ·cases z
  ·exact absurd h3 (no _ _ _)
section
variable {P':Program} {w:World} {K:PySem.W.Frag} {mg:Str→Option Value} {base:Heap} {f:Addr} {fd:FuncData}
def spLt:Sp:=fun vs H Q _=>∃ (L n:Nat),vs=[.int (L:Int),.int (n:Int)]∧2≤L∧L≤6∧1≤n∧n≤24∧∀ t:Nat,t≤5→n≤L ^ t→(0 < t→L ^ (t - 1) < n)→Q (.int (t:Int)) H
theorem scLt:a0r ["letters","things","top","words"] ["letters","things"] (a0b a6M):=⟨rfl,rfl,rfl,by decide +kernel,rfl,by decide +kernel,by decide +kernel⟩
theorem pow_ge {L:Nat} (h:2≤L) (k:Nat):2 ^ k≤L ^ k:=Nat.pow_le_pow_left h k
theorem ok_lt (F:Fun K "least_top" "least_top" a6M f fd):a0W P' w K mg base CX0 1 f fd ["letters","things"] spLt:=by
 refine F.ok (k:=0) scLt (fun vs H Q E h=>?_) (fun cdv A outer s H vs Q E hr h=>?_)
 ·obtain ⟨L,n,rfl,_⟩:=h
  rfl
 obtain ⟨L,n,rfl,l2,l6,n1,n24,q⟩:=h
 refine ⟨_,a0e (a0x (i:=2) scLt.nd rfl (Or.inl rfl) a0f) (a0e (a0x (i:=3) scLt.nd rfl (Or.inl rfl) a0f)
   (a0e (a3Y PassesOwn.never (a0G a7f (pv 3) (pv 1) (nomark _)) (a0e (a0x (i:=3) scLt.nd rfl (Or.inl rfl) (a0t a3J (pv 3) (pv 0))) (a0g (ps_aug (i:=2) scLt.nd rfl (Or.inl rfl) a0f ip_add))))
   (a0g (a0q (pv 2))))),?_⟩
 refine ⟨fun k σ H'=>H'=H∧∃ i:Nat,σ=[some (.int (L:Int)),some (.int (n:Int)),some (.int (i:Int)),some (.int ((L ^ i:Nat):Int))]∧k=5 - i∧i≤5∧(0 < i→L ^ (i - 1) < n),⟨5,rfl,0,rfl,rfl,Nat.zero_le _,fun z=>absurd z (Nat.lt_irrefl _)⟩,fun k σ H' hP=>?_⟩
 obtain ⟨rfl,i,rfl,rfl,hi,low⟩:=hP
 refine ⟨_,rfl,_,rfl,_,_,rfl,rfl,_,rfl,?_⟩
 refine a2T (fun c=>?_) (fun c=>?_)
 ·have c1:((L ^ i:Nat):Int) < (n:Int):=of_decide_eq_true c
  have c2:L ^ i < n:=by omega
  have lt:i < 5:=by
   rcases Nat.lt_or_ge i 5 with z | z
   ·exact z
   ·have e:i=5:=by omega
    subst e
    have:=pow_ge l2 5
    omega
  have ep:((L ^ i:Nat):Int) * (L:Int)=((L ^ (i+1):Nat):Int):=by
   rw [Nat.pow_succ,Int.natCast_mul]
  refine ⟨_,fun σ' H' z=>z,?_⟩
  refine ⟨_,rfl,_,rfl,_,_,rfl,rfl,.inr ⟨by omega,by omega⟩,?_⟩
  dsimp only
  rw [ep]
  exact ⟨_,rfl,_,_,rfl,rfl,_,(by omega:5 - (i+1) < 5 - i),rfl,i+1,rfl,rfl,by omega,fun _=>c2⟩
 ·have c1:¬ (((L ^ i:Nat):Int) < (n:Int)):=fun z=>c (decide_eq_true z)
  exact ⟨_,rfl,q i hi (by omega) low⟩
def spBd:Sp:=fun vs H Q _=>∃ (a:Addr) (xs:List V) (c:CT.Code) (tp:Nat),vs=[.ref a,.int (tp:Int)]∧H a=some (.tup xs)∧Ws H xs c∧c.length≤100∧∀ H' b,a0C H H'→(b=true↔∀ u∈c,u.length≤tp)→Q (.bl b) H'
theorem scBd:a0r ["code","top"] ["code","top"] (a0b b1Y):=⟨rfl,rfl,rfl,by decide +kernel,rfl,by decide +kernel,by decide +kernel⟩
theorem ndBd:(("word":Str) :: ["code","top"]).Nodup:=by decide +kernel
theorem ok_bd (F:Fun K "is_bounded" "is_bounded" b1Y f fd) (ml:mg "len"=none) (ma:mg "all"=none):a0W P' w K mg base CX0 1 f fd ["code","top"] spBd:=by
 refine F.ok (k:=0) scBd (fun vs H Q E h=>?_) (fun cdv A outer s H vs Q E hr h=>?_)
 ·obtain ⟨a,xs,c,tp,rfl,_⟩:=h
  rfl
 obtain ⟨a,xs,c,tp,rfl,ha,hx,lc,q⟩:=h
 have lx:xs.length=c.length:=hx.length
 refine ⟨_,a0g (a0q (a0s (a2q rfl) (by rfl) ma a7y (a0a (a2s (M:=["code","top"]) rfl (a0l.of (a0b b1Y) ["code","top"] rfl rfl rfl (by decide +kernel) (by decide +kernel) (by decide +kernel) rfl (by decide +kernel)) ndBd rfl (pv 0) a0X
  (fun cl C s0 H0 fp=>⟨a0P,a1P a9d (a0s (a3j K) (by rfl) ml PySem.boot_len (a0a (pv 0) a0c)) (pv 2) (nomark _)⟩)) a0c))),?_⟩
 refine ⟨_,rfl,a,_,rfl,SqT.of ha,fun d hd=>?_⟩
 refine ⟨fun k H'=>a0C H H'∧H' d=some (.lst (((c.take k).map fun u=>decide (u.length≤tp)).map V.bl)),⟨a0h hd _,a0d⟩,fun k H' _ hP=>SqT.of (hP.1 _ _ ha),fun k x H' hxk hP=>?_,fun H' hP=>?_⟩
 ·obtain ⟨sm,hd'⟩:=hP
  obtain ⟨u,hu,ru⟩:=Paired.right_of hx k x hxk
  obtain ⟨ua,rfl,hua⟩:=Wd.ti ru
  have hk:=(List.getElem?_eq_some_iff.mp hu).1
  refine a0L ⟨_,rfl,ua,_,rfl,.inr (SqT.of (sm _ _ hua)),_,rfl,_,_,rfl,rfl,_,hd',?_,a0y hd sm,?_⟩
  ·rw [List.length_map,List.length_map,List.length_take];exact a0u (by omega)
  ·rw [a0d,List.take_add_one,hu,List.map_append,List.map_append,List.length_map]
   have e:decide ((u.length:Int)≤(tp:Int))=decide (u.length≤tp):=decide_eq_decide.mpr ⟨fun z=>by omega,fun z=>by omega⟩
   dsimp only
   rw [e]
   rfl
 ·obtain ⟨sm,hd'⟩:=hP
  rw [lx,List.take_length] at hd'
  refine ⟨d,_,rfl,hd',q H' _ sm ?_⟩
  rw [List.all_eq_true]
  constructor
  ·intro h u hu
   have:=h _ (List.mem_map_of_mem hu)
   exact of_decide_eq_true this
  ·intro h b hb
   obtain ⟨u,hu,rfl⟩:=List.mem_map.mp hb
   exact decide_eq_true (h u hu)
abbrev PSl:List Str:=["prices","weights","top","stairs"]
def a6g:Sp:=fun vs H Q _=>∃ (p q d:Addr) (ps ws:List Int) (tp:Nat) (da:Nat→Addr) (ra:Nat→Nat→Addr),vs=[.ref p,.ref q,.int (tp:Int),.ref d]∧TW H p ps∧TW H q ws∧Num ps ws∧tp≤24∧StO H d da ra (tp+1) ws.length (S ps ws)∧∀ H',a0C H H'→Q (.bl true) H'
theorem scHold:a0r PSl PSl (a0b a6O):=⟨rfl,rfl,rfl,by decide +kernel,rfl,by decide +kernel,by decide +kernel⟩
theorem b2A {CU:Addr} (F:Fun K "stairs_hold" "stairs_hold" a6O f fd) (GT:a7C P' w K mg base ["top"] "refuse_top" a8l 7) (GS:Fns P' w K mg base NSt "has_steps" a4r 7) (GL:a7C P' w K mg base PSl "step_lie" (a8C CU) 7):a0W P' w K mg base CX0 8 f fd PSl a6g:=by
 refine F.ok (k:=7) scHold (fun vs H Q E h=>?_) (fun cdv A outer s H vs Q E hr h=>?_)
 ·obtain ⟨p,q,d,ps,ws,tp,da,ra,rfl,_⟩:=h
  rfl
 obtain ⟨p,q,d,ps,ws,tp,da,ra,rfl,hp,hq,nu,t24,st,qq⟩:=h
 have w20:=nu.w20
 refine ⟨_,a0e (a1w (a0k GT.ok hr (by rfl) GT.m GT.kp GT.b .nil b1I (a0a (pv 2) a0c))) (a0g (a0q (a5I (a0k GS.ok hr (by rfl) GS.m GS.kp GS.b .nil a0A (a0a (pv 1) (a0a (pv 2) (a0a (pv 3) a0c)))) (a4F (a5H (a3a (a0k GL.ok hr (by rfl) GL.m GL.kp GL.b .nil b1I (a0a (pv 0) (a0a (pv 1) (a0a (pv 2) (a0a (pv 3) a0c))))))))))),?_⟩
 refine ⟨_,rfl,tp,rfl,t24,?_⟩
 refine ⟨_,rfl,_,rfl,_,rfl,q,d,ws,tp,_,rfl,hq,st.sw,w20,by rw [List.length_map,List.length_range];omega,fun l hl=>?_,fun H1 b s1 hb=>⟨b,rfl,?_⟩⟩
 ·obtain ⟨_,_,rfl⟩:=List.mem_map.mp hl
  rw [List.length_map,List.length_range];omega
 have eb:b=true:=hb.mpr (ok_st tp ws.length)
 subst eb
 refine a6y ⟨_,rfl,_,rfl,_,rfl,_,rfl,p,q,d,ps,ws,tp,rfl,s1 _ _ hp,s1 _ _ hq,nu,t24,.inl ⟨da,ra,S ps ws,st.same s1,fun r o H2 s2 ho is=>?_⟩⟩
 have e0:=isT_no is fun _ _ _=>no_lie
 subst e0
 have e1:r=.non:=ho
 subst e1
 exact qq H2 (s1.trans s2)
def spSn:Sp:=fun vs H Q _=>∃ (p q d:Addr) (ps ws:List Int) (tp:Nat) (da:Nat→Addr) (ra:Nat→Nat→Addr),vs=[.ref p,.ref q,.int (tp:Int),.ref d]∧TW H p ps∧TW H q ws∧Num ps ws∧tp≤24∧StO H d da ra (tp+1) ws.length (S ps ws)∧∀ H',a0C H H'→Q (.bl (decide (S ps ws tp 0 ws.length=none))) H'
theorem b0i:a0r PSl PSl (a0b a2K):=⟨rfl,rfl,rfl,by decide +kernel,rfl,by decide +kernel,by decide +kernel⟩
theorem ok_sn (F:Fun K "shows_none" "shows_none" a2K f fd) (GH:Fns P' w K mg base PSl "stairs_hold" a6g 8):a0W P' w K mg base CX0 9 f fd PSl spSn:=by
 refine F.ok (k:=8) b0i (fun vs H Q E h=>?_) (fun cdv A outer s H vs Q E hr h=>?_)
 ·obtain ⟨p,q,d,ps,ws,tp,da,ra,rfl,_⟩:=h
  rfl
 obtain ⟨p,q,d,ps,ws,tp,da,ra,rfl,hp,hq,nu,t24,st,qq⟩:=h
 have w1:=nu.w1
 refine ⟨_,a0g (a0q (a5I (a0k GH.ok hr (by rfl) GH.m GH.kp GH.b .nil a0A (a0a (pv 0) (a0a (pv 1) (a0a (pv 2) (a0a (pv 3) a0c))))) (a4F (a5H (a3a (a0v a0n (a0v a0n (a0v a0n (pv 3) (pv 2) (fun _ _=>rfl)) a0f (fun _ _=>rfl)) (a2m a1v a0f) (fun _ _=>rfl))))))),?_⟩
 refine ⟨_,rfl,_,rfl,_,rfl,_,rfl,p,q,d,ps,ws,tp,da,ra,rfl,hp,hq,nu,t24,st,fun H1 s1=>⟨_,rfl,a6y ?_⟩⟩
 have st1:=st.same s1
 have fl:=st1.r tp (by omega)
 refine ⟨_,rfl,_,rfl,d,_,_,_,rfl,rfl,SqL.of st1.o,a0D (k:=tp) (by omega),da tp,_,_,_,rfl,rfl,SqL.of fl.o,a0D (k:=0) (by omega),_,rfl,ra tp 0,_,_,_,rfl,rfl,SqL.of (fl.r 0 (by omega)),a4q w1,?_⟩
 have:=qq H1 s1
 cases e:S ps ws tp 0 ws.length with
 | none=>rw [e] at this;exact this
 | some x=>rw [e] at this;exact this
abbrev PSb:List Str:=["prices","weights","top","code","stairs"]
theorem scSb:a0r PSb PSb (a0b a2J):=⟨rfl,rfl,rfl,by decide +kernel,rfl,by decide +kernel,by decide +kernel⟩
def Shw (ps ws:List Int) (tp:Nat) (c:CT.Code) (v:Int):Prop:=E.Kpt ps.length ws.length c∧(∀ u∈c,u.length≤tp)∧CT.co ps ws 0 c≤v
def spSb:Sp:=fun vs H Q _=>∃ (p q d a:Addr) (ps ws:List Int) (tp:Nat) (da:Nat→Addr) (ra:Nat→Nat→Addr) (xs:List V) (c:CT.Code) (v:Int),vs=[.ref p,.ref q,.int (tp:Int),.ref a,.ref d]∧TW H p ps∧TW H q ws∧Num ps ws∧tp≤24∧StO H d da ra (tp+1) ws.length (S ps ws)∧S ps ws tp 0 ws.length=some v∧H a=some (.tup xs)∧Ws H xs c∧c.length≤100∧(∀ u∈c,u.length≤1000)∧∀ (b:Bool) H',a0C H H'→(b=true↔Shw ps ws tp c v)→Q (.bl b) H'
theorem ok_sb (F:Fun K "shows_bounded" "shows_bounded" a2J f fd) (GH:Fns P' w K mg base PSl "stairs_hold" a6g 8) (GF:Fns P' w K mg base E.PCo "is_kept_for" E.spKf 8) (GB:Fns P' w K mg base ["code","top"] "is_bounded" spBd 8) (GI:Fns P' w K mg base ["floor","bound"] "is_above" a9Z 8) (GC:Fns P' w K mg base E.PCo "cost" E.a5D 8):a0W P' w K mg base CX0 9 f fd PSb spSb:=by
 refine F.ok (k:=8) scSb (fun vs H Q E h=>?_) (fun cdv A outer s H vs Q E hr h=>?_)
 ·obtain ⟨p,q,d,a,ps,ws,tp,da,ra,xs,c,v,rfl,_⟩:=h
  rfl
 obtain ⟨p,q,d,a,ps,ws,tp,da,ra,xs,c,v,rfl,hp,hq,nu,t24,st,ev,ha,hx,lc,lw,qq⟩:=h
 have w1:=nu.w1
 refine ⟨_,a0e (a0Y (a2l (a1O (a0k GH.ok hr (by rfl) GH.m GH.kp GH.b .nil a0A (a0a (pv 0) (a0a (pv 1) (a0a (pv 2) (a0a (pv 4) (a0c)))))))) (a0g (a0q a1C)) (a0B))
   (a0e (a0Y (PW.pt (a6n (a2l (a1O (a0k GF.ok hr (by rfl) GF.m GF.kp GF.b .nil a0A (a0a (pv 0) (a0a (pv 1) (a0a (pv 3) (a0c))))))) (a3I (a2l (a1O (a0k GB.ok hr (by rfl) GB.m GB.kp GB.b .nil a0A (a0a (pv 3) (a0a (pv 2) (a0c))))))))) (a0g (a0q a1C)) (a0B))
   (a0g (a0q (pe_not (a0k GI.ok hr (by rfl) GI.m GI.kp GI.b .nil a0A (a0a (a0k GC.ok hr (by rfl) GC.m GC.kp GC.b .nil a0A (a0a (pv 0) (a0a (pv 1) (a0a (pv 3) (a0c))))) (a0a (a0v a0n (a0v a0n (a0v a0n (pv 4) (pv 2) (fun _ _=>rfl)) (a0f) (fun _ _=>rfl)) (a2m a1v a0f) (fun _ _=>rfl)) (a0c)))))))),?_⟩
 refine ⟨_,rfl,_,rfl,_,rfl,_,rfl,p,q,d,ps,ws,tp,da,ra,rfl,hp,hq,nu,t24,st,fun H1 s1=>⟨_,rfl,a2V ?_⟩⟩
 refine ⟨_,rfl,_,rfl,_,rfl,p,q,a,ps,ws,xs,c,rfl,s1 _ _ hp,s1 _ _ hq,s1 _ _ ha,Ws.same s1 hx,lc,lw,fun H2 b2 s2 hb2=>⟨_,rfl,?_⟩⟩
 have s12:=s1.trans s2
 refine a2T (fun y=>?_) (fun y=>?_)
 ·refine a6y (qq false H2 s12 ⟨(fun z=>by cases z),fun z=>?_⟩)
  rw [hb2.mpr z.1] at y
  cases y
 have k2:K47.E.Kpt ps.length ws.length c:=hb2.mp (by
  cases b2 with
  | true=>rfl
  | false=>exact absurd rfl y)
 refine ⟨_,rfl,_,rfl,a,xs,c,tp,rfl,s12 _ _ ha,Ws.same s12 hx,lc,fun H3 b3 s3 hb3=>⟨_,rfl,?_⟩⟩
 have s13:=s12.trans s3
 refine a2T (fun y=>?_) (fun y=>?_)
 ·refine qq false H3 s13 ⟨(fun z=>by cases z),fun z=>?_⟩
  rw [hb3.mpr z.2.1] at y
  cases y
 have k3:=hb3.mp (by
  cases b3 with
  | true=>rfl
  | false=>exact absurd rfl y)
 have st3:=st.same s13
 have fl:=st3.r tp (by omega)
 refine ⟨_,rfl,_,rfl,_,rfl,p,q,a,ps,ws,xs,c,rfl,s13 _ _ hp,s13 _ _ hq,s13 _ _ ha,Ws.same s13 hx,k2.ln,lc,fun u hu=>⟨K47.E.a4u (k2.wd u hu),lw u hu⟩,nu.bp,nu.bw,fun H4 s4=>?_⟩
 have st4:=st3.same s4
 have fl4:=st4.r tp (by omega)
 refine ⟨_,rfl,_,rfl,d,_,_,_,rfl,rfl,SqL.of st4.o,a0D (k:=tp) (by omega),da tp,_,_,_,rfl,rfl,SqL.of fl4.o,a0D (k:=0) (by omega),_,rfl,ra tp 0,_,_,_,rfl,rfl,SqL.of (fl4.r 0 (by omega)),a4q w1,some (CT.co ps ws 0 c),S ps ws tp 0 ws.length,rfl,_,rfl,?_⟩
 refine qq _ H4 (s13.trans s4) ?_
 rw [ev]
 show (!decide (CT.co ps ws 0 c > v))=true↔_
 rw [Bool.not_eq_true',decide_eq_false_iff_not]
 exact ⟨fun z=>⟨k2,k3,by omega⟩,fun z=>by have:=z.2.2;omega⟩
end
namespace CT
section
variable {L n:Nat} {h t:Nat→Nat→Nat→OI} {F:Nat→Nat→OI} {p:Nat→Int} {W:Nat→Nat→Int}
theorem onlyK (T:Tb L n h t F p W) {i w:Nat} (hw:i+w≤n) (h2:2≤w):∀ q∈Bk L 0 w,vl h t i (i+w) q=t 0 i (i+w)→q.2 < w - 1:=by
 intro q hq ev
 by_cases z:q.2 < w - 1
 ·exact z
 exfalso
 obtain ⟨_,q2,q3⟩:=a1s.mp hq
 have e3:i+q.2+1=i+w:=by omega
 have es:vl h t i (i+w) q=oadd (oadd (some (p q.1 * W i (i+w))) (F i (i+w))) (some 0):=by
  unfold vl
  rw [e3,T.hh q.1 i (i+w) q2 (by omega) hw,T.dg (q.1+1) (i+w) (by omega) hw]
 have et:=T.tt 0 i (i+w) (Nat.zero_le _) (by omega) hw
 rw [show i+w - i=w by omega] at et
 have eF:F i (i+w)=lo ((Bk L 0 (w - 1)).map (vl h t i (i+w))):=by
  rw [T.ff i (i+w) (by omega) hw,if_neg (by omega),show i+w - 1 - i=w - 1 by omega]
 cases f:F i (i+w) with
 | none=>exact T.fn i (i+w) (by omega) hw f
 | some x =>
  have hx:=(a0V.mp (eF.symm.trans f)).1
  obtain ⟨r,hr,er⟩:=List.mem_map.mp hx
  obtain ⟨a,b,c⟩:=a1s.mp hr
  obtain ⟨m,em,hm⟩:=a4h (List.mem_map.mpr ⟨r,a1s.mpr ⟨a,b,(by omega:r.2 < w)⟩,er⟩:some x∈(Bk L 0 w).map (vl h t i (i+w)))
  rw [←et] at em
  rw [es,f,em] at ev
  have ev:some (p q.1 * W i (i+w)+x+0)=some m:=ev
  have:=Option.some.inj ev
  have pos:=T.pw q.1 i (i+w) q2 (by omega) hw
  omega
end
end CT
namespace Kp
structure Fln (ps ws:List Int) (h t:Nat→Nat→Nat→OI) (F:Nat→Nat→OI) (pr:Nat→Nat→Prop):Prop where
 fin:Fin ps ws h t F pr
 bd:∀ i j,i < j→j≤ws.length→pr i j→bnd ps.length h t i j=F i j
theorem Fln.weak {ps ws:List Int} {h t:Nat→Nat→Nat→OI} {F:Nat→Nat→OI} {pr pr':Nat→Nat→Prop} (a:Fln ps ws h t F pr) (h1:∀ i j,i < j→j≤ws.length→pr' i j→pr i j):Fln ps ws h t F pr' :=
 ⟨a.fin.weak h1,fun i j hij hj hp=>a.bd i j hij hj (h1 i j hij hj hp)⟩
theorem Fln.step {ps ws:List Int} {h t h' t':Nat→Nat→Nat→OI} {F:Nat→Nat→OI} {f e:Nat} (a:Fln ps ws h t F (Dn f e)) (hfe:f < e) (he:e≤ws.length) (u:Put ps ws h t h' t' f e (bnd ps.length h t f e) ps.length):∃ F',Fln ps ws h' t' F' (Dn f (e+1)):=by
 have nd:∀ {i j},Dn f e i j→¬ (i=f∧j=e):=fun d z=>by rcases d with w | w <;> omega
 have ef:up2 F f e (bnd ps.length h t f e) f e=bnd ps.length h t f e:=by unfold up2;rw [if_pos ⟨rfl,rfl⟩]
 have a':Fin ps ws h t (up2 F f e (bnd ps.length h t f e)) (Dn f e):=⟨a.fin.dg,a.fin.ed,fun i j hij hj hp=>⟨fun l hl=>by
  unfold up2
  rw [if_neg (nd hp)]
  exact (a.fin.eq i j hij hj hp).eh l hl,(a.fin.eq i j hij hj hp).et⟩⟩
 refine ⟨up2 F f e (bnd ps.length h t f e),a'.step hfe he (by rw [ef];exact u),fun i j hij hj hp=>?_⟩
 by_cases z:i=f∧j=e
 ·obtain ⟨rfl,rfl⟩:=z
  rw [ef,a4X hij (fun l b h1 h2=>u.oh l i b (by omega)) (fun l x h1 h2=>u.ot l x j (by omega))]
 ·have d:Dn f e i j:=by
   rcases hp with y | y
   ·exact .inl y
   ·exact .inr ⟨y.1,by omega⟩
  unfold up2
  rw [if_neg z,a4X hij (fun l b h1 h2=>u.oh l i b (fun y=>by rcases d with w | w <;> omega)) (fun l x h1 h2=>u.ot l x j (fun y=>by rcases d with w | w <;> omega))]
  exact a.bd i j hij hj d
theorem Fln.own {ps ws:List Int} {h t:Nat→Nat→Nat→OI} {F:Nat→Nat→OI} (a:Fln ps ws h t F (fun _ _=>True)):∀ i j,i < j→j≤ws.length→F i j=bdO ps ws F i j:=fun i j hij hj=>by
 rw [←a.bd i j hij hj trivial]
 exact a.fin.bdO i j hij hj
section
variable {P:Program} {w:World} {K:PySem.W.Frag} {mg:Str→Option Value} {base:Heap} {f:Addr} {fd:FuncData}
abbrev NPl:List Str:=["prices","weights","parted","first","end"]
def spPl (C:Addr):Sp:=fun vs H Q _=>∃ (p q:Addr) (ps ws:List Int),vs=[.ref p,.ref q]∧TW H p ps∧TW H q ws∧Num ps ws∧∀ (r:Addr) X h t F H',a0C H H'→PAt C H' r p ps ws X h t→Fln ps ws h t F (fun _ _=>True)→Q (.ref r) H'
theorem scPl:a0r NPl ["prices","weights"] (a0b sPl):=⟨rfl,rfl,rfl,by decide +kernel,rfl,by decide +kernel,by decide +kernel⟩
theorem ok_pl {C:Addr} (F:Fun K "parted_least" "parted_least" sPl f fd) (cl:Cl P w K mg base C) (MP:Mt P w K mg base C "put" ["self","first","end","floor"] (a9T C) 4) (MB:Mt P w K mg base C "bound" ["self","first","end"] (a4k C) 4) (ml:mg "len"=none) (mr:mg "range"=none):a0W P w K mg base CX0 5 f fd ["prices","weights"] (spPl C):=by
 refine F.ok (k:=4) scPl (fun vs H Q E h=>?_) (fun cdv A outer s H vs Q E hr h=>?_)
 ·obtain ⟨p,q,ps,ws,rfl,_⟩:=h
  rfl
 obtain ⟨p,q,ps,ws,rfl,hp,hq,nu,qq⟩:=h
 obtain ⟨p2,p10,w1,w20,bp,bw⟩:=nu
 refine ⟨_,a0e (a0x (i:=2) scPl.nd rfl (Or.inl rfl) (a7l cl.mkk cl.oki hr (by rfl) cl.g cl.bi .nil a0A (a0a (pv 0) (a0a (pv 1) a0c))))
  (a0e (a1k PassesOwn.never rfl (a3i (by rfl) mr (a0a (a0t a1c (a0s a0j (by rfl) ml PySem.boot_len (a0a (pv 1) a0c)) a0f) (a0a (a2m a1v a0f) (a0a (a2m a1v a0f) a0c)))) (a0H (i:=3) scPl.nd rfl (Or.inl rfl))
   (a0g (a1k PassesOwn.never rfl (a1y (by rfl) mr (a0a (a0t a0F (pv 3) a0f) (a0a (a0t a0F (a0s a0j (by rfl) ml PySem.boot_len (a0a (pv 1) a0c)) a0f) a0c))) (a0H (i:=4) scPl.nd rfl (Or.inl rfl))
    (a0g (a1w (a1D (pv 2) cl.rc.c MP.m MP.ok hr MP.b .nil a0A (a0a (pv 3) (a0a (pv 4) (a0a (a1D (pv 2) cl.rc.c MB.m MB.ok hr MB.b .nil a0A (a0a (pv 3) (a0a (pv 4) a0c))) a0c)))))))))
  (a0g (a0q (pv 2)))),?_⟩
 refine ⟨_,rfl,_,rfl,fun r dx rn hdx _=>?_⟩
 have sm:a0C H (upd (upd H dx (.own r)) r (.ins C dx [])):=a0y rn (a0h hdx _)
 refine ⟨r,dx,p,q,ps,ws,rfl,a0d,sm _ _ hp,sm _ _ hq,by omega,p10,w20,fun H1 X k1 pa1 fz=>⟨rfl,?_⟩⟩
 have s1:a0C H H1:=fun a o e=>k1 a o (fun z=>by rw [z,rn] at e;cases e) (sm a o e)
 have fz':∀ a,Z X ps.length (ws.length+1) a→H a=none:=fun a hz=>sm.free (fz a hz)
 have nz:∀ {a o},H a=some o→¬ Z X ps.length (ws.length+1) a:=fun e hz=>by rw [fz' _ hz] at e;cases e
 have st0:∃ F,Fln ps ws h0 t0 F (fun i _=>ws.length≤i):=⟨fun _ _=>none,⟨fun l i _ _=>if_pos rfl,fun i j hij _=>if_neg (by omega),fun i j hij hj hp=>absurd hp (by show ¬ ws.length≤i;omega)⟩,fun i j hij hj hp=>absurd hp (by show ¬ ws.length≤i;omega)⟩
 refine ⟨_,rfl,q,_,rfl,.inr (SqT.of (s1 _ _ hq)),_,_,rfl,rfl,_,rfl,_,rfl,_,rfl,⟨by rw [List.length_map];omega,by rw [List.length_map];omega⟩,?_⟩
 rw [List.length_map,show ((ws.length:Int) - 1+1).toNat=ws.length by omega]
 refine a2C (fun m σ H'=>a0C H H'∧(∃ h t F,PAt C H' r p ps ws X h t∧Fln ps ws h t F (fun i _=>ws.length - m≤i))∧∃ x3 x4:Option V,σ=[some (.ref p),some (.ref q),some (.ref r),x3,x4])
  ⟨s1,(by obtain ⟨F,hF⟩:=st0;exact ⟨h0,t0,F,pa1,hF⟩),_,_,rfl⟩ (fun m σ H2 hm hP=>?_) (fun σ H2 hP=>?_)
 ·obtain ⟨s2,⟨h,t,F,pa2,fn2⟩,x3,x4,rfl⟩:=hP
  obtain ⟨f,ef⟩:∃ f,f=ws.length - 1 - m:=⟨_,rfl⟩
  have ev:(ws.length:Int) - 1+(m:Int) * (-1)=(f:Int):=by omega
  rw [ev]
  have hf:f < ws.length:=by omega
  refine ⟨_,rfl,_,_,rfl,rfl,_,rfl,q,_,rfl,.inr (SqT.of (s2 _ _ hq)),_,_,rfl,rfl,_,_,rfl,⟨by omega,by omega,by rw [List.length_map];omega,by rw [List.length_map];omega⟩,?_⟩
  refine a0T (fun k σ H'=>a0C H H'∧(∃ h t F,PAt C H' r p ps ws X h t∧Fln ps ws h t F (Dn f (f+1+k)))∧∃ x4:Option V,σ=[some (.ref p),some (.ref q),some (.ref r),some (.int (f:Int)),x4])
   ⟨s2,⟨h,t,F,pa2,fn2.weak fun i j hij hj d=>by show ws.length - m≤i;rcases d with z | z <;> omega⟩,_,rfl⟩ (fun k σ H3 hk hP=>?_) (fun σ H3 hP=>?_)
  ·obtain ⟨s3,⟨h3,t3,F3,pa3,fn3⟩,x4,rfl⟩:=hP
   have hk':f+1+k≤ws.length:=by
    have:(ws.map V.int).length=ws.length:=List.length_map ..
    omega
   have ee:(f:Int)+1+(k:Int)=((f+1+k:Nat):Int):=by push_cast;omega
   rw [ee]
   obtain ⟨dx3,ho3⟩:=pa3.ob
   refine ⟨_,rfl,r,dx3,_,rfl,ho3,rfl,_,rfl,_,rfl,_,rfl,r,dx3,_,rfl,ho3,rfl,_,rfl,_,rfl,r,p,ps,ws,X,h3,t3,f,f+1+k,rfl,pa3,w20,p10,by omega,hk',fun H4 s4=>?_⟩
   refine ⟨r,p,ps,ws,X,h3,t3,f,f+1+k,_,rfl,pa3.same s4,w20,by omega,p10,bp,bw,by omega,hk',fun H5 h5 t5 k5 pa5 u=>?_⟩
   obtain ⟨F5,fn5⟩:=fn3.step (by omega) hk' u
   exact ⟨fun a o e=>k5 a o (nz e) (s4 _ _ (s3 _ _ e)),⟨h5,t5,F5,pa5,fn5⟩,_,rfl⟩
  ·obtain ⟨s3,⟨h3,t3,F3,pa3,fn3⟩,x4,rfl⟩:=hP
   have en:(((((ws.map V.int).length:Nat):Int)+1) - ((f:Int)+1)).toNat=ws.length - f:=by rw [List.length_map];omega
   rw [en] at fn3
   exact ⟨s3,⟨h3,t3,F3,pa3,fn3.weak fun i j hij hj d=>by
    have d:ws.length - (m+1)≤i:=d
    by_cases z:f < i
    ·exact .inl z
    ·exact .inr ⟨by omega,by omega⟩⟩,_,_,rfl⟩
 ·obtain ⟨s2,⟨h,t,F,pa2,fn2⟩,x3,x4,rfl⟩:=hP
  exact ⟨_,rfl,qq r X h t F H2 s2 pa2 (fn2.weak fun i j _ _ _=>by show ws.length - ws.length≤i;omega)⟩
end
theorem b0V {ps ws:List Int} {F:Nat→Nat→OI} (hL:2≤ps.length) (own:∀ i j,i < j→j≤ws.length→F i j=bdO ps ws F i j):∀ d i j,j - i≤d→i < j→j≤ws.length→F i j≠none
 | 0,i,j,hd,hij,hj=>by omega
 | d+1,i,j,hd,hij,hj=>by
  rw [own i j hij hj]
  unfold bdO
  split
  ·intro z;cases z
  ·rename_i e
   intro z
   obtain ⟨r,hr⟩:=List.exists_mem_of_ne_nil _ (b1V (L:=ps.length) (i:=i) (j:=j) hL (by omega))
   cases ec:cost (pl ps) (Wt ws) F r with
   | some v=>exact absurd (List.mem_map.mpr ⟨r,hr,ec⟩) (a1i.mp z v)
   | none =>
    obtain ⟨q,hq,e'⟩:=a2v.mp ec
    have hin:=a1U hij r hr q hq
    exact b0V hL own d q.1 q.2.1 (by omega) hin.2.1 (by omega) e'
theorem Fln.tt {ps ws:List Int} {h t:Nat→Nat→Nat→OI} {F:Nat→Nat→OI} (a:Fln ps ws h t F (fun _ _=>True)):∀ k l i j,l+k=ps.length→i < j→j≤ws.length→t l i j=lo ((CT.Bk ps.length l (j - i)).map (CT.vl h t i j))
 | 0,l,i,j,hl,hij,hj=>by
  have e:l=ps.length:=by omega
  subst e
  rw [a.fin.ed i j hij hj]
  unfold CT.Bk
  rw [Nat.sub_self]
  exact a4W.symm
 | k+1,l,i,j,hl,hij,hj=>by
  rw [(a.fin.eq i j hij hj trivial).et l (by omega),a8r (by omega),List.map_append,a8s,a.tt k (l+1) i j (by omega) hij hj,List.map_map]
  rfl
theorem Fln.tb {ps ws:List Int} {h t:Nat→Nat→Nat→OI} {F:Nat→Nat→OI} (a:Fln ps ws h t F (fun _ _=>True)) (hL:2≤ps.length) (bp:Po ps) (bw:Po ws):CT.Tb ps.length ws.length h t F (pl ps) (Wt ws):=by
 have own:=a.own
 have fn:∀ i j,i < j→j≤ws.length→F i j≠none:=fun i j hij hj=>b0V hL own (j - i) i j (Nat.le_refl _) hij hj
 have hh:∀ l i j,l < ps.length→i < j→j≤ws.length→h l i j=oadd (some (pl ps l * Wt ws i j)) (F i j):=fun l i j hl hij hj=>(a.fin.eq i j hij hj trivial).eh l hl
 have tt:∀ l i j,l≤ps.length→i < j→j≤ws.length→t l i j=lo ((CT.Bk ps.length l (j - i)).map (CT.vl h t i j)):=fun l i j hl hij hj=>a.tt (ps.length - l) l i j (by omega) hij hj
 refine ⟨a.fin.dg,tt,fun i j hij hj=>?_,hh,fun l i j hl hij hj=>?_,fn,fun l i j hl hij hj=>?_⟩
 ·rw [←a.bd i j hij hj trivial]
  unfold bnd
  split
  ·rfl
  ·unfold CT.Bk
   rw [Nat.sub_zero,List.map_flatMap,a2E]
   congr 1
   refine List.map_congr_left fun l _=>?_
   rw [List.map_map,Nat.zero_add]
   rfl
 ·rw [tt l i j (by omega) hij hj]
  intro z
  have hm:CT.vl h t i j (l,j - i - 1)∈(CT.Bk ps.length l (j - i)).map (CT.vl h t i j):=List.mem_map.mpr ⟨_,CT.a1s.mpr ⟨Nat.le_refl _,hl,by show j - i - 1 < j - i;omega⟩,rfl⟩
  have ev:CT.vl h t i j (l,j - i - 1)=oadd (oadd (some (pl ps l * Wt ws i j)) (F i j)) (some 0):=by
   unfold CT.vl
   show oadd (h l i (i+(j - i - 1)+1)) (t (l+1) (i+(j - i - 1)+1) j)=_
   rw [show i+(j - i - 1)+1=j by omega,hh l i j hl hij hj,a.fin.dg (l+1) j (by omega) hj]
  rw [ev] at hm
  cases f:F i j with
  | none=>exact fn i j hij hj f
  | some x =>
   rw [f] at hm
   exact a1i.mp z _ hm
 ·have h1:=b0R bp hl
  have h2:=b0Q bw hij hj
  exact Int.mul_pos (by omega) (by omega)
section
variable {P':Program} {w:World} {K:PySem.W.Frag} {mg:Str→Option Value} {base:Heap} {f:Addr} {fd:FuncData}
end
section
variable {L n:Nat} {h t:Nat→Nat→Nat→OI} {F:Nat→Nat→OI} {p:Nat→Int} {W:Nat→Nat→Int}
theorem a6d (T:CT.Tb L n h t F p W) {l i j:Nat} (hl:l < L) (hij:i < j) (hj:j≤n) {q:Nat × Nat} (hq:q∈wys L h t l i j):l≤q.1∧q.1 < L∧q.2+1≤j - i∧(q.2+1 < j - i→q.1+1 < L):=by
 obtain ⟨h1,h2⟩:=a1t.mp hq
 obtain ⟨a,b,c⟩:=CT.a1s.mp h1
 refine ⟨a,b,by omega,fun hlt=>?_⟩
 by_cases e:q.1+1 < L
 ·exact e
 ·exfalso
  have eL:q.1+1=L:=by omega
  have en:t (q.1+1) (i+q.2+1) j=none:=by
   rw [T.tt (q.1+1) (i+q.2+1) j (by omega) (by omega) hj,eL]
   unfold CT.Bk
   rw [Nat.sub_self]
   exact a4W
  refine T.tn l i j hl hij hj ?_
  rw [←h2]
  unfold CT.vl
  rw [en]
  cases h q.1 i (i+q.2+1) <;> rfl
theorem a8u (T:CT.Tb L n h t F p W) {l i j:Nat} (hl:l < L) (hij:i < j) (hj:j≤n):∃ q r,wys L h t l i j=q :: r:=by
 cases e:t l i j with
 | none=>exact absurd e (T.tn l i j hl hij hj)
 | some x =>
  have et:=T.tt l i j (by omega) hij hj
  have hx:=(a0V.mp (et.symm.trans e)).1
  obtain ⟨q,hq,ev⟩:=List.mem_map.mp hx
  have hm:q∈wys L h t l i j:=a1t.mpr ⟨hq,by rw [ev,e]⟩
  cases eq:wys L h t l i j with
  | nil=>rw [eq] at hm;cases hm
  | cons q r=>exact ⟨q,r,rfl⟩
mutual
inductive Kc (L:Nat) (h t:Nat→Nat→Nat→OI):Nat→Nat→CT.Code→Prop
 | one (i:Nat):Kc L h t i (i+1) [[]]
 | more (i j:Nat) (c:CT.Code):i+2≤j→Kt L h t 0 i j c→Kc L h t i j c
inductive Kt (L:Nat) (h t:Nat→Nat→Nat→OI):Nat→Nat→Nat→CT.Code→Prop
 | nil (l j:Nat):Kt L h t l j j []
 | cons (l i j:Nat) (q:Nat × Nat) (c r:CT.Code):q∈wys L h t l i j→Kc L h t i (i+q.2+1) c→Kt L h t (q.1+1) (i+q.2+1) j r→Kt L h t l i j (CT.ahd q.1 c++r)
end
end
def a8v:Expr:=match a0m sKw with
 | [_,.Return (some (.Call _ [_,_,_,e] _ _)) _]=>e
 | _=>.Constant .none 0 ⟨0,0,0,0⟩
def lamP:Arguments:=match a8v with | .Lambda p _ _ _=>p | _=>a0o sKw
def lamB:Expr:=match a8v with | .Lambda _ b _ _=>b | e=>e
def a8w:Scope:=match a8v with | .Lambda _ _ s _=>s | _=>a0b sKw
def a2j:Pos:=match a8v with | .Lambda _ _ _ p=>p | _=>⟨0,0,0,0⟩
abbrev a4C:Str:=(("kept_words":Str)++".<locals>.")++"<lambda>"
abbrev lamK (c:Addr) (c':Addr) (pm ctv:Value):Obj:=PySem.W.kla_obj "<lambda>" a4C lamP lamB a8w [("parted",c)] pm c' ctv
example:a8v=.Lambda lamP lamB a8w a2j:=rfl
theorem b2o (c:Addr):a4g a8w ["start","stop"] [("parted",c)]:=⟨rfl,rfl,rfl,(by show (["start","stop","parted"]:List Str).Nodup;decide +kernel),by decide +kernel,by decide +kernel,(by show ∀ y∈a8w.names,y.2=.free→y.1∈(["parted"]:List Str);decide +kernel),(by show ∀ x∈(["parted"]:List Str),a8w.names.lookup x=some .free;decide +kernel)⟩
section
variable {P':Program} {w:World} {K:PySem.W.Frag} {mg:Str→Option Value} {base:Heap} {f:Addr} {fd:FuncData}
structure Cok (L:Nat) (h t:Nat→Nat→Nat→OI) (i j:Nat) (c:CT.Code):Prop where
 k:Kc L h t i j c
 ln:c.length=j - i
 wd:∀ u∈c,u.length≤j - i - 1
def a4Z (T:Addr) (H H':Hp):Prop:=a0N H' T a2j a4C∧∀ c',H T=some (.tbl (a1g a2j c'))→H' T=some (.tbl (a1g a2j c'))
abbrev NKw:List Str:=["parted","first","end"]
def spKw (C T:Addr) (d:Nat):Sp:=fun vs H Q _=>∃ (r p:Addr) (ps ws:List Int) (X:Ad) (h t:Nat→Nat→Nat→OI) (F:Nat→Nat→OI) (i j:Nat),vs=[.ref r,.int (i:Int),.int (j:Int)]∧PAt C H r p ps ws X h t∧CT.Tb ps.length ws.length h t F (pl ps) (Wt ws)∧2≤ps.length∧ps.length≤10∧ws.length≤20∧i < j∧j≤ws.length∧j - i≤d∧a0N H T a2j a4C ∧
 ∀ (a:Addr) xs cde H',a0I T H H'→a4Z T H H'→H' a=some (.lst xs)→Ws H' xs cde→Cok ps.length h t i j cde→Q (.ref a) H'
def lamR (C T:Addr) (d:Nat):Addr→List V→Hp→VK→Prop:=fun g vs H Q=>∃ (c c':Addr) (pm ctv:Value) (oc:Obj) (u:Value) (r:Addr),H g=some (exA g (lamK c c' pm ctv))∧H c'=some (cdA c' a4C)∧H c=some (exA c oc)∧oc.data=.cell (some u)∧a1a (.ref r) u∧vs.length=2 ∧
 spKw C T d (.ref r :: vs) (unt [c] H) (fun v H'=>H' c=none→Q v (rtk [c] H H')) E0
theorem a8x {C T:Addr} {d k:Nat} (OK:a0W P' w K mg base CX0 k f fd NKw (spKw C T d)) (mk:mg "kept_words"=some (.ref f)) (kk:PySem.W.keepIn K (.ref f)=true) (bk:a1z K fd NKw []):a7N P' w K mg base (k+1) (lamR C T d) where
 at':=fun ⟨c,c',pm,ctv,oc,u,r,e,_⟩=>⟨_,_,_,_,e⟩
 run:=fun A outer s H g us vs Q hr e0 r' h=>by
  obtain ⟨c,c',pm,ctv,oc,u,r,eg,ec',ec,ed,rv,lv,hsp⟩:=h
  have lu:us.length=2:=by rw [←r'.length];exact lv
  refine a5W (k:=k) (cvs:=[.ref r]) (b2o c) hr e0 eg ec' (by simp) (fun i x c0 hi=>?_) rfl r' lv ?_ fun xe hr'=>⟨_,a0k OK hr' (by rfl) mk kk bk .nil a0A (a0a (pv 2) (a0a (pv 0) (a0a (pv 1) a0c))),?_⟩
  ·cases i with
   | zero =>
    have hi:(("parted":Str),c)=(x,c0):=Option.some.inj hi
    cases hi
    exact ⟨oc,u,.ref r,ec,ed,rfl,rv⟩
   | succ i=>simp at hi
  ·match us,lu with
   | [u1,u2],_=>rfl
  ·match vs,lv,hsp with
   | [v1,v2],_,hsp =>
    refine ⟨_,rfl,_,rfl,_,rfl,?_⟩
    obtain ⟨r0,p,ps,ws,X,h,t,F,i,j,e,pa,T',p2,p10,w20,hij,hj,hd,tab,q⟩:=hsp
    refine ⟨r0,p,ps,ws,X,h,t,F,i,j,e,pa,T',p2,p10,w20,hij,hj,hd,tab,fun a xs cde H' s' tb' g' w' k' hn=>?_⟩
    exact q a xs cde H' s' tb' g' w' k' (hn c (by simp))
theorem a4p {c:Addr} {H H':Hp} (n:H' c=none):a0C H' (L2.rtk [c] H H'):=fun a o e=>by
 rw [a1x (fun z=>by rw [List.mem_singleton.mp z,n] at e;cases e)]
 exact e
theorem PAt.unt {C:Addr} {H:Hp} {r p c:Addr} {ps ws:List Int} {X:Ad} {h t:Nat→Nat→Nat→OI} {oc:Obj} (a:PAt C H r p ps ws X h t) (hc:H c=some (exA c oc)):PAt C (L2.unt [c] H) r p ps ws X h t:=by
 obtain ⟨dx,ho⟩:=a.ob
 have u:∀ {b:Addr} {o:HO},H b=some o→o≠exA c oc→L2.unt [c] H b=some o:=fun {b o} e n=>by
  rw [a0M (fun z=>by rw [List.mem_singleton.mp z,hc] at e;exact n (Option.some.inj e).symm)]
  exact e
 refine ⟨⟨dx,u ho (by intro z;cases z)⟩,u a.hp (by intro z;cases z),u a.su (by intro z;cases z),⟨u a.hd.o (by intro z;cases z),fun l hl=>u (a.hd.b l hl) (by intro z;cases z),fun l i hl hi=>u (a.hd.c l i hl hi) (by intro z;cases z)⟩,⟨u a.tl.o (by intro z;cases z),fun l hl=>u (a.tl.b l hl) (by intro z;cases z),fun l i hl hi=>u (a.tl.c l i hl hi) (by intro z;cases z)⟩,a.ih,a.it,a.ix,a.ns⟩
structure Clo (H:Hp) (g c c' r:Addr):Prop where
 ex:∃ (pm ctv:Value) (oc:Obj) (u:Value),H g=some (exA g (lamK c c' pm ctv))∧H c'=some (cdA c' a4C)∧H c=some (exA c oc)∧oc.data=.cell (some u)∧a1a (.ref r) u
 ne:c'≠c
theorem Clo.same {H H':Hp} {g c c' r T:Addr} {qs:Array Value} (a:Clo H g c c' r) (hT:H T=some (.tbl qs)) (s:a0I T H H'):Clo H' g c c' r:=by
 obtain ⟨pm,ctv,oc,u,e1,e2,e3,e4,e5⟩:=a.ex
 exact ⟨⟨pm,ctv,oc,u,s _ _ (a0E e1 hT (by intro z;cases z)) e1,s _ _ (a0E e2 hT (by intro z;cases z)) e2,s _ _ (a0E e3 hT (by intro z;cases z)) e3,e4,e5⟩,a.ne⟩
theorem a0N.unt {H:Hp} {T c:Addr} {lpos:Pos} {q:Str} {oc:Obj} (x:a0N H T lpos q) (hc:H c=some (exA c oc)) (hn:∀ c',H T=some (.tbl (a1g lpos c'))→c'≠c):a0N (L2.unt [c] H) T lpos q:=by
 obtain ⟨ps,e0⟩:=a0N.tb x
 have nT:T∉[c]:=fun z=>(a0E e0 hc (by intro z;cases z)) (List.mem_singleton.mp z)
 rcases x with e | ⟨c',e,ec⟩
 ·exact .inl (by rw [a0M nT];exact e)
 ·exact .inr ⟨c',by rw [a0M nT];exact e,by rw [a0M (fun z=>hn c' e (List.mem_singleton.mp z))];exact ec⟩
def spPw (C T:Addr) (d:Nat):Sp:=fun vs H Q _=>∃ (r p g c c':Addr) (ps ws:List Int) (X:Ad) (h t:Nat→Nat→Nat→OI) (F:Nat→Nat→OI) (i j:Nat),vs=[.ref r,.int (i:Int),.int (j:Int),.ref g]∧PAt C H r p ps ws X h t∧CT.Tb ps.length ws.length h t F (pl ps) (Wt ws)∧2≤ps.length∧ps.length≤10∧ws.length≤20∧i+2≤j∧j≤ws.length∧j - i≤d+1∧H T=some (.tbl (a1g a2j c'))∧Clo H g c c' r ∧
 ∀ (a:Addr) xs cde H',a0I T H H'→H' T=some (.tbl (a1g a2j c'))→H' a=some (.lst xs)→Ws H' xs cde→Kt ps.length h t 0 i j cde→cde.length=j - i→(∀ u∈cde,u.length≤j - i - 1)→Q (.ref a) H'
theorem b2p {C T:Addr} {d k:Nat} (hk:3≤k) (F:Fun K "parted_words" "parted_words" sPw f fd) (LO:a7N P' w K mg base k (lamR C T d)) (MW':Mt P' w K mg base C "ways" ["self","letter","first","end"] (a3U C) 3) (rcP:PC K C):a0W P' w K mg base CX0 (k+1) f fd PPw (spPw C T d):=by
 refine F.ok (k:=k) a6e (fun vs H Q E h=>?_) (fun cdv A outer s H vs Q E hr h=>?_)
 ·obtain ⟨r,p,g,c,c',ps,ws,X,h,t,Fl,i,j,rfl,_⟩:=h
  rfl
 obtain ⟨r,p,g,c,c',ps,ws,X,h,t,Fl,i,j,rfl,pa,T',p2,p10,w20,hij,hj,hd,tab,clo,q⟩:=h
 have MW:=MW'.up hk
 refine ⟨_,a0e (a0x (i:=4) a6e.nd rfl (Or.inl rfl) (a1q a0c))
  (a0e (a0x (i:=5) a6e.nd rfl (Or.inl rfl) a0f)
  (a0e (a0x (i:=6) a6e.nd rfl (Or.inl rfl) (pv 1))
  (a0e (a3Y PassesOwn.never (a0G a7f (pv 6) (pv 2) (nomark _))
   (a0e (a0x (i:=7) a6e.nd rfl (Or.inr rfl) (a0v a0n (a1D (pv 0) rcP.c MW.m MW.ok hr MW.b .nil a0A (a0a (pv 5) (a0a (pv 6) (a0a (pv 2) a0c)))) a0f (fun _ _=>rfl)))
   (a0e (a1w (a7q PySem.F.plainAttrs_list PySem.F.slot_list_extend PySem.F.type_list_extend a4P (pv 4) (a0a (a2r (M:=NPw) rfl (a0l.of (a0b sPw) NPw rfl rfl rfl (by decide +kernel) (by decide +kernel) (by decide +kernel) rfl (by decide +kernel)) ndPw rfl (b0D (a5X (i:=3) LO hr rfl (Or.inl rfl) (a0a (pv 6) (a0a (a0v a0Q (pv 7) a0f (fun _ _=>rfl)) a0c)))) b0E
    (fun cl C s0 H0 fp=>⟨a0P,a0t a7v (a1K (a0a (a0v (ixT K) (pv 8) a0f (fun _ _=>rfl)) a0c)) (pv 0)⟩)) a0c)))
   (a0e (a0x (i:=5) a6e.nd rfl (Or.inl rfl) (a0t a0F (a0v a0Q (pv 7) a0f (fun _ _=>rfl)) a0f))
   (a0g (a0x (i:=6) a6e.nd rfl (Or.inl rfl) (a0v a0Q (pv 7) a0f (fun _ _=>rfl)))))))
  )
  (a0g (a0q (pv 4)))))),?_⟩
 refine ⟨(by show 0≤sizeLine;decide),fun d1 hd1=>?_⟩
 have s1:a0C H (upd H d1 (.lst [])):=a0h hd1 _
 have g1:upd H d1 (.lst []) d1=some (.lst []):=a0d
 generalize upd H d1 (.lst [])=H1 at s1 g1 ⊢
 refine ⟨_,rfl,?_⟩
 refine ⟨fun m σ H'=>a0I T H H'∧H' T=some (.tbl (a1g a2j c'))∧∃ (l a:Nat) (acc:CT.Code) (xs:List V) (x7:Option V),m=j - a∧i≤a∧a≤j∧(a < j→l < ps.length)∧(a=i→l=0)∧acc.length=a - i∧(∀ u∈acc,u.length≤j - i - 1)∧(∀ rr,Kt ps.length h t l a j rr→Kt ps.length h t 0 i j (acc++rr))∧H' d1=some (.lst xs)∧Ws H' xs acc∧σ=[some (.ref r),some (.int (i:Int)),some (.int (j:Int)),some (.ref g),some (.ref d1),some (.int (l:Int)),some (.int (a:Int)),x7],
  ⟨_,a0I.of s1,s1 _ _ tab,0,i,[],[],_,rfl,Nat.le_refl _,by omega,fun _=>by omega,fun _=>rfl,by simp,fun u hu=>(by cases hu),fun rr hr=>hr,g1,.nil,rfl⟩,?_⟩
 rintro m σ H2 ⟨s2,tab2,l,a,acc,xs,x7,rfl,hia,haj,hl,hl0,lac,wac,kac,g2,w2,rfl⟩
 refine ⟨_,rfl,_,rfl,_,_,rfl,rfl,_,rfl,?_⟩
 refine a2T (fun z=>?_) (fun z=>?_)
 rotate_left
 ·have z1:a=j:=by
   have:¬ (a:Int) < (j:Int):=fun y=>z (decide_eq_true y)
   omega
  subst z1
  have kt:=kac [] (.nil l a)
  rw [List.append_nil] at kt
  exact ⟨_,rfl,q d1 xs acc H2 s2 tab2 g2 w2 kt lac wac⟩
 have z1:a < j:=by
  have:(a:Int) < (j:Int):=of_decide_eq_true z
  omega
 have hl':=hl z1
 have pa2:=pa.sameT tab s2
 have clo2:=clo.same tab s2
 obtain ⟨dp,hop⟩:=pa2.ob
 obtain ⟨q0,qr,eqs⟩:=a8u T' hl' z1 hj
 have hq0:q0∈wys ps.length h t l a j:=by rw [eqs];exact .head _
 obtain ⟨b1,b2,b3,b4⟩:=a6d T' hl' z1 hj hq0
 have cut:a+q0.2+1 - a≤d:=by
  by_cases y:a=i
  ·have l0:=hl0 y
   subst y l0
   have hm:=a1t.mp hq0
   have:=CT.onlyK T' (i:=a) (w:=j - a) (by omega) (by omega) q0 hm.1 (by rw [show a+(j - a)=j by omega];exact hm.2)
   omega
  ·omega
 refine ⟨_,fun σ' H' n'=>n',?_⟩
 refine ⟨_,rfl,r,dp,_,rfl,hop,rfl,_,rfl,_,rfl,_,rfl,r,p,ps,ws,X,h,t,l,a,j,rfl,pa2,w20,p10,hl',z1,hj,fun d2 ys H3 s3 g3 w3=>?_⟩
 rw [eqs] at w3
 cases w3 with
 | cons rw0 wr =>
 obtain ⟨wt,rfl,hwt⟩:=rw0
 refine ⟨d2,_,_,_,rfl,rfl,SqL.of g3,(show atI (V.ref wt :: _) 0=some (V.ref wt) from a5Q (i:=0) rfl),?_⟩
 have g23:=s3 _ _ g2
 have tab3:=s3 _ _ tab2
 have clo3:=clo2.same tab2 (a0I.of s3)
 obtain ⟨pm,ctv,oc,u,e1,e2,e3,e4,e5⟩:=clo3.ex
 have pa3:=pa2.same s3
 have s03:a0I T H H3:=s2.trans (a0I.of s3)
 refine ⟨_,rfl,.inl ⟨rfl,_,SqL.of g23⟩,?_⟩
 refine ⟨fun v H'=>∃ al ws' cde,v=.ref al∧a0I T H3 H'∧H' T=some (.tbl (a1g a2j c'))∧H' al=some (.lst ws')∧Ws H' ws' cde∧Cok ps.length h t a (a+q0.2+1) cde,?_,fun v H4 hv=>?_⟩
 ·refine ⟨g,_,_,_,_,rfl,e1,_,rfl,_,rfl,wt,_,_,_,rfl,rfl,SqT.of hwt,rfl,?_⟩
  refine ⟨c,c',pm,ctv,oc,u,r,e1,e2,e3,e4,e5,rfl,?_⟩
  have tu:a0N (unt [c] H3) T a2j a4C:=a0N.unt (.inr ⟨c',tab3,e2⟩) e3 fun c2 e=>by
   rw [tab3] at e
   have:c'=c2:=by
    have h1:=HO.tbl.inj (Option.some.inj e)
    have h2:=congrArg (fun z:Array Value=>z[2]?) h1
    have h3:some (Value.ref c')=some (Value.ref c2):=h2
    cases h3
    rfl
   rw [←this]
   exact clo3.ne
  refine ⟨r,p,ps,ws,X,h,t,Fl,a,a+q0.2+1,rfl,PAt.unt pa3 e3,T',p2,p10,w20,by omega,by omega,cut,tu,fun al ws' cde H' s' tb' g' w' k' hn=>?_⟩
  have sk:=a4p (H:=H3) hn
  have nT:T∉[c]:=fun z=>(a0E tab3 e3 (by intro z;cases z)) (List.mem_singleton.mp z)
  exact ⟨al,ws',cde,rfl,s'.rtk,sk _ _ (tb'.2 c' (by rw [a0M nT];exact tab3)),sk _ _ g',Ws.same sk w',k'⟩
 obtain ⟨al,ws',cde,rfl,s4,tab4,g4,w4,k4⟩:=hv
 have neT:∀ {b:Addr} {o:HO},H3 b=some o→(∀ qs,o≠.tbl qs)→H4 b=some o:=fun {b o} e n=>s4 _ _ (a0E e tab3 (n _)) e
 have g24:H4 d1=some (.lst xs):=neT g23 fun qs=>by intro z;cases z
 have hwt4:H4 wt=some (.tup [.int (q0.1:Int),.int ((a+q0.2+1:Nat):Int)]):=neT hwt fun qs=>by intro z;cases z
 have w24:Ws H4 xs acc:=Paired.mapP (Ws.same s3 w2) fun x y hx=>by
  obtain ⟨b,zs,rfl,e,pp⟩:=hx
  exact ⟨b,zs,rfl,neT e (fun qs=>by intro z;cases z),pp⟩
 have s04:a0I T H H4:=s03.trans s4
 have lw:ws'.length=cde.length:=w4.length
 refine ⟨al,_,rfl,SqL.of g4,fun e3' he3=>?_⟩
 refine ⟨fun kk H'=>a0C H4 H'∧∃ zs,H' e3'=some (.lst zs)∧Ws H' zs ((cde.take kk).map fun u=>((q0.1:Nat):Int) :: u),⟨a0h he3 _,[],a0d,.nil⟩,fun kk H' _ hP=>SqL.of (hP.1 _ _ g4),fun kk y H' hy hP=>?_,fun H5 hP=>?_⟩
 ·obtain ⟨s5,zs,g5,w5⟩:=hP
  obtain ⟨o,ho2,ru⟩:=Paired.right_of w4 kk y hy
  obtain ⟨ua,rfl,hua⟩:=Wd.ti ru
  have kl:=(List.getElem?_eq_some_iff.mp ho2).1
  have lu:=k4.wd o (List.mem_of_getElem? ho2)
  refine a0L ⟨_,rfl,wt,_,_,_,rfl,rfl,SqT.of (s5 _ _ hwt4),rfl,(by show 1≤sizeLine;decide),fun t1 ht1=>?_⟩
  have s6:=a0h ht1 (.tup [.int (q0.1:Int)])
  have h6:upd H' t1 (.tup [.int (q0.1:Int)]) t1=some (.tup [.int (q0.1:Int)]):=a0d
  generalize upd H' t1 (.tup [.int (q0.1:Int)])=H6 at s6 h6 ⊢
  refine ⟨_,rfl,t1,ua,_,_,rfl,rfl,h6,s6 _ _ (s5 _ _ hua),small (by rw [List.length_map,List.length_singleton];omega),fun p5 H7 s7 hp5=>?_⟩
  refine ⟨zs,s7 _ _ (s6 _ _ g5),a0u (by rw [w5.length,List.length_map,List.length_take,k4.ln];omega),a0y he3 ((s5.trans s6).trans s7),_,a0d,?_⟩
  rw [List.take_add_one,ho2,List.map_append]
  exact Paired.appendP (Ws.upd (s7 _ _ (s6 _ _ g5)) (Ws.same (s6.trans s7) w5)) (.cons (Wd.upd (s7 _ _ (s6 _ _ g5)) (Wd.of hp5)) .nil)
 obtain ⟨s5,zs5,g5,w5⟩:=hP
 rw [lw,List.take_length] at w5
 have lz:zs5.length=cde.length:=by rw [w5.length,List.length_map]
 have lx:xs.length=acc.length:=w2.length
 have g25:=s5 _ _ g24
 have hwt5:=s5 _ _ hwt4
 refine ⟨d1,e3',_,_,rfl,rfl,g25,g5,small (by rw [lx,lz,lac,k4.ln];omega),?_⟩
 have hwt6:upd H5 d1 (.lst (xs++zs5)) wt=some (.tup [.int (q0.1:Int),.int ((a+q0.2+1:Nat):Int)]):=by rw [a0i (a0E hwt5 g25 (by intro z;cases z))];exact hwt5
 have tab6:upd H5 d1 (.lst (xs++zs5)) T=some (.tbl (a1g a2j c')):=by rw [a0i (a0E (s5 _ _ tab4) g25 (by intro z;cases z))];exact s5 _ _ tab4
 have s06:a0I T H (upd H5 d1 (.lst (xs++zs5))):=(s04.trans (a0I.of s5)).upd hd1
 refine ⟨_,rfl,wt,_,_,_,rfl,rfl,SqT.of hwt6,rfl,_,_,rfl,rfl,?_⟩
 refine ⟨_,rfl,wt,_,_,_,rfl,rfl,SqT.of hwt6,rfl,?_⟩
 refine ⟨_,(by omega:j - (a+q0.2+1) < j - a),s06,tab6,q0.1+1,a+q0.2+1,acc++CT.ahd q0.1 cde,xs++zs5,_,rfl,by omega,by omega,fun y=>b4 (by omega),fun y=>absurd y (by omega),?_,fun u hu=>?_,fun rr hrr=>?_,a0d,?_,rfl⟩
 ·rw [List.length_append,lac]
  unfold CT.ahd
  rw [List.length_map,k4.ln]
  omega
 ·rcases List.mem_append.mp hu with y | y
  ·exact wac u y
  ·unfold CT.ahd at y
   obtain ⟨v,hv,rfl⟩:=List.mem_map.mp y
   have:=k4.wd v hv
   rw [List.length_cons]
   by_cases ya:a=i
   ·have l0:=hl0 ya
    subst ya l0
    have hm:=a1t.mp hq0
    have:=CT.onlyK T' (i:=a) (w:=j - a) (by omega) (by omega) q0 hm.1 (by rw [show a+(j - a)=j by omega];exact hm.2)
    omega
   ·omega
 ·rw [List.append_assoc]
  exact kac _ (.cons l a j q0 cde rr hq0 k4.k hrr)
 ·exact Ws.upd g25 (Paired.appendP (Ws.same s5 w24) w5)
structure LamC (K:PySem.W.Frag) (mg:Str→Option Value) (base:Heap) (c0 T bm:Addr):Prop where
 hd:PySem.W.codeHdIn K c0 T=true
 hbm:mg "__builtins__"=some (.ref bm)
 bo:∃ o,base.get? bm=some o∧o.cls=.type "module"∧o.dict=some builtinsNs∧o.data=.plain
 b1:bm≠builtinsNs
 b2:bm≠mainGlobals
 b3:bm≠T
 b4:mainGlobals≠T
theorem scKw:a0r NKw NKw (a0b sKw):=⟨rfl,rfl,rfl,by decide +kernel,rfl,by decide +kernel,by decide +kernel⟩
theorem ok_kw {C T c0 bm:Addr} {f2:Addr} {fd2:FuncData} (FK:Fun K "kept_words" "kept_words" sKw f fd) (hcd:fd.code=.ref c0) (LC:LamC K mg base c0 T bm) (mk:mg "kept_words"=some (.ref f)) (kk:PySem.W.keepIn K (.ref f)=true) (bk:a1z K fd NKw []) (FP:Fun K "parted_words" "parted_words" sPw f2 fd2) (mp:mg "parted_words"=some (.ref f2)) (kp:PySem.W.keepIn K (.ref f2)=true) (bp:a1z K fd2 PPw []) (MW:Mt P' w K mg base C "ways" ["self","letter","first","end"] (a3U C) 3) (rcP:PC K C):∀ d,a0W P' w K mg base CX0 (3 * d+4) f fd NKw (spKw C T d):=by
 intro d
 induction d with
 | zero =>
  refine FK.okC (k:=3) scKw (fun vs H Q E h=>?_) (fun A outer s H vs Q E hr h=>?_)
  all_goals exfalso
  all_goals (obtain ⟨r,p,ps,ws,X,h,t,F,i,j,rfl,_,_,_,_,_,h1,_,h2,_⟩:=h;omega)
 | succ d ih =>
  have LO:=a8x ih mk kk bk
  have OP:=b2p (by omega) FP LO MW rcP
  refine FK.okC (k:=3 * d+6) scKw (fun vs H Q E h=>?_) (fun A outer s H vs Q E hr h=>?_)
  ·obtain ⟨r,p,ps,ws,X,h,t,F,i,j,rfl,_⟩:=h
   rfl
  obtain ⟨r,p,ps,ws,X,h,t,F,i,j,rfl,pa,T',p2,p10,w20,hij,hj,hd,tab,q⟩:=h
  have hcl:a5v (a5M CX0 P' w K mg base NKw "kept_words" (a0b sKw) f fd.code A outer s H E).nox [("parted",s.heap.objs.size+1)]:=⟨fun q hq=>by rw [List.mem_singleton.mp hq];rfl,fun q hq=>rfl,fun q hq=>by rw [List.mem_singleton.mp hq];rfl⟩
  have LM:b1R (a5M CX0 P' w K mg base NKw "kept_words" (a0b sKw) f fd.code A outer s H E).nox c0 T bm:=⟨hcd,LC.hd,LC.hbm,LC.bo,LC.b1,LC.b2,LC.b3,LC.b4⟩
  refine ⟨_,a0e (a0Y (a0G a3E (a0t a1c (pv 2) (pv 1)) a0f (nomark _)) (a0g (a0q (a1q (a0a (a1K a0c) a0c)))) a0B)
   (a0g (a0q (a5Z OP hr (by rfl) mp kp bp hcl (a0a (pv 0) (a0a (pv 1) (a0a (pv 2) (a0a (b0I LM (clos:=[("parted",s.heap.objs.size+1)]) rfl) a0c))))))),?_⟩
  refine ⟨_,rfl,_,rfl,_,_,rfl,rfl,rfl,_,rfl,?_⟩
  refine a2T (fun z=>?_) (fun z=>?_)
  ·have z1:j=i+1:=by
    have y:V.int ((j:Int) - (i:Int))=V.int 1:=of_decide_eq_true z
    have:=V.int.inj y
    omega
   subst z1
   refine ⟨(by show 0≤sizeLine;decide),fun t0 ht0=>?_⟩
   have s1:=a0h ht0 (.tup [])
   have h1:upd H t0 (.tup []) t0=some (.tup []):=a0d
   generalize upd H t0 (.tup [])=H1 at s1 h1 ⊢
   refine ⟨(by show 1≤sizeLine;decide),fun l1 hl1=>?_⟩
   have s2:=a0h hl1 (.lst [.ref t0])
   have s12:=s1.trans s2
   exact q l1 [.ref t0] [[]] _ (a0I.of s12) ⟨a0N.same s12 tab,fun c' e=>s12 _ _ e⟩ a0d (.cons (Wd.of (w:=[]) (s2 _ _ h1)) .nil) ⟨.one i,by simp,fun u hu=>by
    have:u=[]:=by simpa using hu
    subst this
    simp⟩
  have z1:¬ j - i=1:=fun y=>z (decide_eq_true (by show V.int ((j:Int) - (i:Int))=V.int 1;congr 1;omega))
  refine ⟨_,rfl,_,rfl,_,rfl,tab,fun c' pm ctv g H2 L=>?_⟩
  intro os hos hnn
  have hn:H2 (s.heap.objs.size+1)=none:=hnn _ (by simp)
  obtain ⟨u,hu1,hu2⟩:=hos 0 0 "parted" (s.heap.objs.size+1) (.ref r) rfl rfl rfl
  generalize s.heap.objs.size+1=c at hn hu1 L ⊢
  have st:a0C H2 (trk' [c] os H2):=fun b o e=>by
   rw [a1h (fun y=>by rw [List.mem_singleton.mp y,hn] at e;cases e)]
   exact e
  have sT:a0I T H H2:=fun b o n e=>L.ot b o n e
  obtain ⟨qs,etb⟩:=a0N.tb tab
  have tab2:trk' [c] os H2 T=some (.tbl (a1g a2j c')):=st _ _ L.tb
  have ec:trk' [c] os H2 c=some (exA c (os c)):=a5Y (by simp)
  have ecd:=st _ _ L.cd
  refine ⟨r,p,g,c,c',ps,ws,X,h,t,F,i,j,rfl,(pa.sameT etb sT).same st,T',p2,p10,w20,by omega,hj,by omega,tab2,⟨⟨pm,ctv,os c,u,st _ _ L.ob,ecd,ec,hu1,hu2⟩,fun y=>by
   have:=L.cd
   rw [y,hn] at this
   cases this⟩,fun a xs cde H3 s3 tab3 g3 w3 k3 l3 wd3=>?_⟩
  have e3:H3 c=some (exA c (os c)):=s3 _ _ (a0E ec tab2 (by intro y;cases y)) ec
  have out:∀ {b:Addr} {o:HO},H3 b=some o→b≠c→unt [c] H3 b=some o:=fun {b o} e n=>by
   rw [a0M (fun y=>n (List.mem_singleton.mp y))]
   exact e
  have nec:∀ {b:Addr} {o:HO},H2 b=some o→b≠c:=fun {b o} e y=>by rw [y,hn] at e;cases e
  refine ⟨fun c2 hc2=>by rw [List.mem_singleton.mp hc2];exact e3,q a xs cde _ (fun b o n e=>?_) ⟨.inr ⟨c',out tab3 (nec L.tb),out (s3 _ _ (a0E ecd tab2 (by intro y;cases y)) ecd) (nec L.cd)⟩,fun c2 e=>?_⟩ ?_ ?_ ⟨.more i j cde (by omega) k3,l3,wd3⟩⟩
  ·have e2:=L.ot b o n e
   exact out (s3 _ _ n (st _ _ e2)) (nec e2)
  ·rw [L.sm c2 e];exact out tab3 (nec L.tb)
  ·exact out g3 (a0E g3 e3 (by intro y;cases y))
  ·exact Paired.mapP w3 fun x y hx=>by
    obtain ⟨b,zs,rfl,e,pp⟩:=hx
    exact ⟨b,zs,rfl,out e (a0E e e3 (by intro y;cases y)),pp⟩
abbrev NCk:List Str:=["prices","weights","parted","floors","code"]
structure Fnd (H:Hp) (a ca d:Addr) (ra:Nat→Addr) (ps ws:List Int) (h t:Nat→Nat→Nat→OI) (F:Nat→Nat→OI) (cde:CT.Code):Prop where
 o:H a=some (.tup [oV (F 0 ws.length),.ref ca,.ref d])
 fl:FlO H d ra ws.length F
 own:∀ i j,i < j→j≤ws.length→F i j=bdO ps ws F i j
 cd:∃ xs,H ca=some (.tup xs)∧Ws H xs cde
 ok:Cok ps.length h t 0 ws.length cde
 T:CT.Tb ps.length ws.length h t F (pl ps) (Wt ws)
def spCk (T:Addr):Sp:=fun vs H Q _=>∃ (p q:Addr) (ps ws:List Int),vs=[.ref p,.ref q]∧TW H p ps∧TW H q ws∧Num ps ws∧Po ps∧Po ws∧a0N H T a2j a4C ∧
 ∀ (a ca d:Addr) ra h t F cde H',a0I T H H'→a4Z T H H'→Fnd H' a ca d ra ps ws h t F cde→Q (.ref a) H'
theorem scCk:a0r NCk ["prices","weights"] (a0b sCk):=⟨rfl,rfl,rfl,by decide +kernel,rfl,by decide +kernel,by decide +kernel⟩
theorem ok_ck {C T:Addr} {k:Nat} (hk:7≤k) (F:Fun K "cheapest_kept" "cheapest_kept" sCk f fd) (G:Fns P' w K mg base ["prices","weights"] "parted_least" (spPl C) 5) (M:Mt P' w K mg base C "bounds" ["self"] (a2u C) 5) (GK:Fns P' w K mg base NKw "kept_words" (spKw C T 20) k) (rc:PC K C) (ml:mg "len"=none) (mt:mg "tuple"=none):a0W P' w K mg base CX0 (k+1) f fd ["prices","weights"] (spCk T):=by
 refine F.ok (k:=k) scCk (fun vs H Q E h=>?_) (fun cdv A outer s H vs Q E hr h=>?_)
 ·obtain ⟨p,q,ps,ws,rfl,_⟩:=h
  rfl
 obtain ⟨p,q,ps,ws,rfl,hp,hq,nu,pp,pw,tab,qq⟩:=h
 have G:=G.up (show 5≤k by omega)
 have M:=M.up (show 5≤k by omega)
 have w1:=nu.w1
 refine ⟨_,a0e (a0x (i:=2) scCk.nd rfl (Or.inl rfl) (a0k G.ok hr (by rfl) G.m G.kp G.b .nil a0A (a0a (pv 0) (a0a (pv 1) a0c))))
  (a0e (a0x (i:=3) scCk.nd rfl (Or.inl rfl) (a4a (pv 2) rc.c M.m M.ok hr M.b .nil a0A))
  (a0e (a0x (i:=4) scCk.nd rfl (Or.inl rfl) (a2n a1E (by rfl) mt a5q (a0a (a0k GK.ok hr (by rfl) GK.m GK.kp GK.b .nil a0A (a0a (pv 2) (a0a a0f (a0a (a0s a0j (by rfl) ml PySem.boot_len (a0a (pv 1) a0c)) a0c)))) a0c)))
  (a0g (a0q (a1K (a0a (a0v a0n (a0v a0n (pv 3) a0f (fun _ _=>rfl)) (a2m a1v a0f) (fun _ _=>rfl)) (a0a (pv 4) (a0a (pv 3) a0c)))))))),?_⟩
 refine ⟨_,rfl,_,rfl,p,q,ps,ws,rfl,hp,hq,nu,fun r X h t Fl H1 s1 pa fn=>?_⟩
 have T':=fn.tb nu.p2 pp pw
 obtain ⟨dx,ho⟩:=pa.ob
 refine ⟨_,rfl,r,dx,_,rfl,ho,rfl,r,p,ps,ws,X,h,t,rfl,pa,nu.w20,nu.p10,fun d ra H2 s2 hd h1 h2 h3 h4 h5=>?_⟩
 have fl2:FlO H2 d ra ws.length Fl:=⟨h4,fun i hi=>by
  rw [h5 i hi,List.map_map]
  refine congrArg (fun z=>some (HO.lst z)) (List.map_congr_left fun b hb=>?_)
  have:=List.mem_range.mp hb
  show oV (bnd ps.length h t i (i+b+1))=oV (Fl i (i+b+1))
  rw [fn.bd i (i+b+1) (by omega) (by omega) trivial]⟩
 have s12:=s1.trans s2
 have pa2:=pa.same s2
 have tab2:=a0N.same s12 tab
 refine ⟨_,rfl,_,rfl,q,_,rfl,.inr (SqT.of (s12 _ _ hq)),?_⟩
 rw [List.length_map]
 refine ⟨r,p,ps,ws,X,h,t,Fl,0,ws.length,rfl,pa2,T',nu.p2,nu.p10,nu.w20,by omega,Nat.le_refl _,by have:=nu.w20;omega,tab2,fun al xs cde H3 s3 tb3 g3 w3 k3=>?_⟩
 refine ⟨al,_,rfl,.inl ⟨SqL.of g3,fun ca hca=>?_⟩⟩
 have s4:=a0h hca (.tup xs)
 have g4:upd H3 ca (.tup xs) ca=some (.tup xs):=a0d
 generalize upd H3 ca (.tup xs)=H4 at s4 g4 ⊢
 obtain ⟨qs,etb⟩:=a0N.tb tab2
 have k34:∀ {b:Addr} {zs:List V},H2 b=some (.lst zs)→H4 b=some (.lst zs):=fun {b zs} e=>s4 _ _ (s3 _ _ (a0E e etb (by intro z;cases z)) e)
 have fl4:FlO H4 d ra ws.length Fl:=⟨k34 fl2.o,fun i hi=>k34 (fl2.r i hi)⟩
 have e0:atI ((a6b Fl ws.length 0).map oV) (-1)=some (oV (Fl 0 ws.length)):=by
  have hr0:a6b Fl ws.length 0=(List.range (ws.length - 1)).map (fun b=>Fl 0 (0+b+1))++[Fl 0 ws.length]:=by
   show (List.range (ws.length - 0)).map _=_
   rw [show ws.length - 0=(ws.length - 1)+1 by omega,List.range_succ,List.map_append]
   show _++[Fl 0 (0+(ws.length - 1)+1)]=_
   rw [show 0+(ws.length - 1)+1=ws.length by omega]
  rw [hr0,List.map_append]
  exact a4d _ _
 refine ⟨_,rfl,d,_,_,_,rfl,rfl,SqL.of fl4.o,a0D (k:=0) (by omega),_,rfl,ra 0,_,_,_,rfl,rfl,SqL.of (fl4.r 0 (by omega)),e0,_,rfl,_,rfl,(by show 3≤sizeLine;decide),fun a ha=>?_⟩
 have s5:=a0h ha (.tup [oV (Fl 0 ws.length),.ref ca,.ref d])
 have s45:=s4.trans s5
 refine qq a ca d ra h t Fl cde _ ?_ ?_ ⟨a0d,fl4.same s5,fn.own,⟨xs,s5 _ _ g4,Ws.same s45 w3⟩,k3,T'⟩
 ·exact ((a0I.of s12).trans s3).trans (a0I.of s45)
 ·exact ⟨a0N.same s45 tb3.1,fun c' e=>s45 _ _ (tb3.2 c' (s12 _ _ e))⟩
end
end Kp
end K47
namespace K47
open PySem L2
structure Gd (L m:Nat) (c:CT.Code):Prop where
 ln:c.length=m
 wd:∀ u∈c,∀ x∈u,(0:Int)≤x∧x < (L:Int)
theorem a8G {L:Nat} {cd:Nat→Nat→List CT.Code}:∀ {pr:Pa} {acc:List CT.Code} {m l i j k:Nat},pr∈P m l i j→l+m≤L→(∀ q∈pr,∀ c∈cd q.1 q.2.1,Gd L (q.2.1 - q.1) c)→(∀ c∈acc,Gd L k c)→∀ c∈comb cd acc pr,Gd L (k+(j - i)) c
 | [],acc,m,l,i,j,k,hp,hl,hq,ha,c,hc=>by
  have e:i=j:=by
   by_cases z:i < j
   ·exact absurd rfl (P_ne z [] hp)
   ·cases m with
    | zero =>
     unfold P at hp
     split at hp
     ·assumption
     ·cases hp
    | succ m =>
     rw [a1N] at hp
     split at hp
     ·assumption
     ·exfalso
      rcases List.mem_append.mp hp with y | y
      ·obtain ⟨b,hb,_⟩:=List.mem_flatMap.mp y
       have:=List.mem_range.mp hb
       omega
      ·have:∀ m l,[]∈P m l i j→i=j:=by
        intro m
        induction m with
        | zero =>
         intro l h
         unfold P at h
         split at h
         ·assumption
         ·cases h
        | succ m ih =>
         intro l h
         rw [a1N] at h
         split at h
         ·assumption
         ·rcases List.mem_append.mp h with x | x
          ·obtain ⟨b,hb,x⟩:=List.mem_flatMap.mp x
           obtain ⟨r,_,e⟩:=List.mem_map.mp x
           cases e
          ·exact ih _ x
       have:=this _ _ y
       omega
  subst e
  have:=ha c hc
  rw [Nat.sub_self,Nat.add_zero]
  exact this
 | q :: r,acc,m,l,i,j,k,hp,hl,hq,ha,c,hc=>by
  obtain ⟨h1,h2,h3,h4,h5,h6⟩:=a8A m l i j hp
  have:=a8G (k:=k+(q.2.1 - i)) h6 (by omega) (fun q' hq'=>hq q' (.tail _ hq')) (fun c' hc'=>by
   unfold stp at hc'
   obtain ⟨ws,hw,hc'⟩:=List.mem_flatMap.mp hc'
   obtain ⟨hv,hh,rfl⟩:=List.mem_map.mp hc'
   have g1:=hq q (.head _) ws hw
   have g2:=ha hv hh
   refine ⟨?_,fun u hu=>?_⟩
   ·rw [List.length_append,g2.ln]
    unfold CT.ahd
    rw [List.length_map,g1.ln,h1]
   ·rcases List.mem_append.mp hu with y | y
    ·exact g2.wd u y
    ·unfold CT.ahd at y
     obtain ⟨v,hv',rfl⟩:=List.mem_map.mp y
     intro x hx
     rcases List.mem_cons.mp hx with z | z
     ·rw [z];exact ⟨by omega,by omega⟩
     ·exact g1.wd v hv' x z) c hc
  rw [show k+(q.2.1 - i)+(j - q.2.1)=k+(j - i) by omega] at this
  exact this
theorem a6h {L:Nat}:∀ d i j,i < j→∀ c∈cds L d i j,Gd L (j - i) c
 | 0,i,j,_,c,hc=>by cases hc
 | d+1,i,j,hij,c,hc=>by
  unfold cds at hc
  split at hc
  ·rename_i e
   have:c=[[]]:=by simpa using hc
   subst this
   exact ⟨by rw [e];rfl,fun u hu=>by
    have:u=[]:=by simpa using hu
    subst this
    intro x hx
    cases hx⟩
  ·obtain ⟨pr,hpr,hc⟩:=List.mem_flatMap.mp hc
   split at hc
   ·rename_i l1
    have:=a8G (L:=L) (k:=0) hpr (by omega) (fun q hq=>a6h d q.1 q.2.1 (P_in L 0 i j (by omega) pr hpr q hq).2.1) (fun c' hc'=>by
     have:c'=[]:=by simpa using hc'
     subst this
     exact ⟨rfl,fun u hu=>by cases hu⟩) c hc
    rw [Nat.zero_add] at this
    exact this
   ·cases hc
section
variable {ps ws:List Int} {F:Nat→Nat→OI}
theorem a8H {cd:Nat→Nat→List CT.Code}:∀ {pr:Pa} {acc:List CT.Code} {m l i j i0:Nat},pr∈P m l i j→i0≤i→(∀ q∈pr,(∀ c∈cd q.1 q.2.1,c.length=q.2.1 - q.1)∧CT.mi ((cd q.1 q.2.1).map (CT.co ps ws q.1))=F q.1 q.2.1)→(∀ c∈acc,c.length=i - i0)→CT.mi ((comb cd acc pr).map (CT.co ps ws i0))=oadd (CT.mi (acc.map (CT.co ps ws i0))) (cost (pl ps) (Wt ws) F pr)
 | [],acc,m,l,i,j,i0,hp,hi,hq,ha=>by
  show CT.mi (acc.map _)=oadd _ (some 0)
  cases CT.mi (acc.map (CT.co ps ws i0)) with
  | none=>rfl
  | some x=>show some x=some (x+0);rw [Int.add_zero]
 | q :: r,acc,m,l,i,j,i0,hp,hi,hq,ha=>by
  obtain ⟨h1,h2,h3,h4,h5,h6⟩:=a8A m l i j hp
  obtain ⟨ql,qm⟩:=hq q (.head _)
  have ih:=a8H (cd:=cd) (acc:=stp (cd q.1 q.2.1) q.2.2 acc) (i0:=i0) h6 (by omega) (fun q' hq'=>hq q' (.tail _ hq')) (fun c' hc'=>by
   unfold stp at hc'
   obtain ⟨ws',hw,hc'⟩:=List.mem_flatMap.mp hc'
   obtain ⟨hv,hh,rfl⟩:=List.mem_map.mp hc'
   rw [List.length_append,ha hv hh]
   unfold CT.ahd
   rw [List.length_map,ql ws' hw,h1]
   omega)
  show CT.mi ((comb cd (stp (cd q.1 q.2.1) q.2.2 acc) r).map _)=oadd _ (oadd (part (pl ps) (Wt ws) F q) (cost (pl ps) (Wt ws) F r))
  have es:(stp (cd q.1 q.2.1) q.2.2 acc).map (CT.co ps ws i0)=CT.sums (pl ps q.2.2 * Wt ws q.1 q.2.1) ((cd q.1 q.2.1).map (CT.co ps ws q.1)) (acc.map (CT.co ps ws i0)):=by
   unfold stp CT.sums
   rw [List.map_flatMap,List.flatMap_map]
   refine CT.a1X fun ws' hw=>?_
   rw [List.map_map,List.map_map]
   refine List.map_congr_left fun hv hh=>?_
   show CT.co ps ws i0 (hv++CT.ahd q.2.2 ws')=pl ps q.2.2 * Wt ws q.1 q.2.1+CT.co ps ws q.1 ws'+CT.co ps ws i0 hv
   have a1:=CT.a8z (ps:=ps) (ws:=ws) (l:=q.2.2) (r:=[]) ws' q.1
   rw [List.append_nil,CT.a5a,ql ws' hw,show q.1+(q.2.1 - q.1)=q.2.1 by omega] at a1
   rw [CT.a5b,ha hv hh,show i0+(i - i0)=q.1 by omega,a1]
   omega
  rw [ih,es,CT.b2m,qm]
  unfold part
  rw [a4V _ (CT.mi (acc.map (CT.co ps ws i0))),a2F]
def sh (s:Nat) (c:CT.Code):Bool:=c.all fun u=>decide (u.length≤s)
theorem b0W {s:Nat} {a b:CT.Code}:sh s (a++b)=(sh s a && sh s b):=by unfold sh;rw [List.all_append]
theorem sh_ahd {s l:Nat} {c:CT.Code}:sh (s+1) (CT.ahd l c)=sh s c:=by
 unfold sh CT.ahd
 rw [List.all_map]
 congr 1
 funext u
 show decide (u.length+1≤s+1)=decide (u.length≤s)
 simp
theorem b0X {s l:Nat}:∀ (cs acc:List CT.Code),(stp cs l acc).filter (sh (s+1))=stp (cs.filter (sh s)) l (acc.filter (sh (s+1)))
 | [],acc=>rfl
 | c :: cs,acc=>by
  show ((acc.map fun hv=>hv++CT.ahd l c)++stp cs l acc).filter (sh (s+1))=_
  rw [List.filter_append,b0X cs acc,List.filter_cons]
  have e:(acc.map fun hv=>hv++CT.ahd l c).filter (sh (s+1))=if sh s c=true then (acc.filter (sh (s+1))).map fun hv=>hv++CT.ahd l c else []:=by
   induction acc with
   | nil=>split <;> rfl
   | cons hv acc ih =>
    rw [List.map_cons,List.filter_cons,List.filter_cons,b0W,sh_ahd,ih]
    cases sh (s+1) hv <;> cases sh s c <;> rfl
  rw [e]
  split <;> rfl
theorem a8I {s:Nat} {cd:Nat→Nat→List CT.Code}:∀ (pr:Pa) (acc:List CT.Code),(comb cd acc pr).filter (sh (s+1))=comb (fun i j=>(cd i j).filter (sh s)) (acc.filter (sh (s+1))) pr
 | [],acc=>rfl
 | q :: pr,acc=>by
  show (comb cd (stp (cd q.1 q.2.1) q.2.2 acc) pr).filter (sh (s+1))=comb _ (stp ((cd q.1 q.2.1).filter (sh s)) q.2.2 (acc.filter (sh (s+1)))) pr
  rw [a8I pr,b0X]
theorem a3V {cd cd':Nat→Nat→List CT.Code}:∀ {pr:Pa} {acc:List CT.Code},(∀ q∈pr,cd q.1 q.2.1=cd' q.1 q.2.1)→comb cd acc pr=comb cd' acc pr
 | [],acc,_=>rfl
 | q :: pr,acc,h=>by
  show comb cd (stp (cd q.1 q.2.1) q.2.2 acc) pr=comb cd' (stp (cd' q.1 q.2.1) q.2.2 acc) pr
  rw [h q (.head _)]
  exact a3V fun q' hq'=>h q' (.tail _ hq')
theorem a3B {α β:Type} (p:β→Bool) (g:α→List β):∀ xs:List α,(xs.flatMap g).filter p=xs.flatMap fun x=>(g x).filter p
 | []=>rfl
 | x :: xs=>by rw [List.flatMap_cons,List.filter_append,a3B p g xs,List.flatMap_cons]
theorem a6i {L:Nat}:∀ s d i j,i < j→j - i≤d→(cds L d i j).filter (sh s)=bcs L s i j
 | s,0,i,j,hij,hd=>by omega
 | 0,d+1,i,j,hij,hd=>by
  unfold cds bcs
  split
  ·rfl
  ·rename_i ne
   rw [List.filter_eq_nil_iff]
   intro c hc hs
   have hg:=a6h (L:=L) (d+1) i j hij c (by unfold cds;rw [if_neg ne];exact hc)
   obtain ⟨pr,hpr,hc⟩:=List.mem_flatMap.mp hc
   split at hc
   ·rename_i l1
    have:(comb (cds L d) [[]] pr).filter (sh 0)=[]:=by
     match pr,hpr,l1 with
     | q :: pr,hpr,_ =>
      have key:∀ (pr:Pa) (acc:List CT.Code),(∀ c∈acc,sh 0 c=false)→∀ c∈comb (cds L d) acc pr,sh 0 c=false:=by
       intro pr
       induction pr with
       | nil=>intro acc h;exact h
       | cons q pr ih =>
        intro acc h
        refine ih _ fun c hc=>?_
        unfold stp at hc
        obtain ⟨w,hw,hc⟩:=List.mem_flatMap.mp hc
        obtain ⟨hv,hh,rfl⟩:=List.mem_map.mp hc
        rw [b0W,h hv hh]
        rfl
      rw [List.filter_eq_nil_iff]
      intro c hc
      have:=key pr (stp (cds L d q.1 q.2.1) q.2.2 [[]]) (fun c hc=>by
       unfold stp at hc
       obtain ⟨w,hw,hc⟩:=List.mem_flatMap.mp hc
       obtain ⟨hv,hh,rfl⟩:=List.mem_map.mp hc
       obtain ⟨h1,h2,h3,_⟩:=a8A _ _ _ _ hpr
       have hl:=(a6h (L:=L) d q.1 q.2.1 (by omega) w hw).ln
       rw [List.mem_singleton.mp hh]
       match w,hl with
       | [],hl=>simp at hl;omega
       | u :: w,hl=>rfl) c hc
      rw [this]
      decide
    have hm:c∈(comb (cds L d) [[]] pr).filter (sh 0):=List.mem_filter.mpr ⟨hc,hs⟩
    rw [this] at hm
    cases hm
   ·cases hc
 | s+1,d+1,i,j,hij,hd=>by
  unfold cds bcs
  split
  ·rename_i e
   rfl
  ·rename_i ne
   rw [a3B]
   refine CT.a1X fun pr hpr=>?_
   split
   ·rename_i l1
    rw [a8I]
    refine a3V fun q hq=>?_
    have hin:=a1U hij pr (List.mem_filter.mpr ⟨hpr,decide_eq_true l1⟩) q hq
    exact a6i s d q.1 q.2.1 hin.2.1 (by omega)
   ·rfl
theorem bcs_gd {L s i j:Nat} (hij:i < j):∀ c∈bcs L s i j,Gd L (j - i) c:=fun c hc=>by
 rw [←a6i s (j - i) i j hij (Nat.le_refl _)] at hc
 exact a6h _ i j hij c (List.mem_filter.mp hc).1
theorem b0Y:∀ s i j,i < j→CT.mi ((bcs ps.length s i j).map (CT.co ps ws i))=S ps ws s i j
 | 0,i,j,hij=>by
  show _=gr i j
  unfold bcs gr
  split
  ·have e1:[([[]]:CT.Code)].map (CT.co ps ws i)=[0]:=by rw [List.map_singleton,CT.a8y]
   rw [e1]
   exact CT.a2i.mpr ⟨.head _,fun k hk=>by simp at hk;omega⟩
  ·rfl
 | s+1,i,j,hij=>by
  show _=bdO ps ws (S ps ws s) i j
  unfold bcs bdO
  split
  ·have e1:[([[]]:CT.Code)].map (CT.co ps ws i)=[0]:=by rw [List.map_singleton,CT.a8y]
   rw [e1]
   exact CT.a2i.mpr ⟨.head _,fun k hk=>by simp at hk;omega⟩
  ·rename_i ne
   rw [List.map_flatMap,CT.b2l]
   have e:∀ xs:List Pa,(∀ pr∈xs,pr∈P ps.length 0 i j)→lo (xs.map fun pr=>CT.mi ((if 1 < pr.length then comb (bcs ps.length s) [[]] pr else []).map (CT.co ps ws i)))=lo ((xs.filter fun r=>decide (1 < r.length)).map fun r=>cost (pl ps) (Wt ws) (S ps ws s) r):=by
    intro xs
    induction xs with
    | nil=>intro _;rfl
    | cons pr xs ih =>
     intro hx
     have ih':=ih fun p hp=>hx p (.tail _ hp)
     rw [List.map_cons,List.filter_cons]
     by_cases l1:1 < pr.length
     ·rw [if_pos l1,if_pos (decide_eq_true l1),List.map_cons]
      have hpr:=hx pr (.head _)
      have hin:=a1U hij pr (List.mem_filter.mpr ⟨hpr,decide_eq_true l1⟩)
      have c1:=a8H (ps:=ps) (ws:=ws) (F:=S ps ws s) (cd:=bcs ps.length s) (acc:=[[]]) (i0:=i) hpr (Nat.le_refl _) (fun q hq=>by
       have h1:=hin q hq
       exact ⟨fun c hc=>(bcs_gd h1.2.1 c hc).ln,b0Y s q.1 q.2.1 h1.2.1⟩) (fun c hc=>by
       have:c=[]:=by simpa using hc
       subst this
       simp)
      have e0:CT.mi ([([]:CT.Code)].map (CT.co ps ws i))=some 0:=by
       rw [List.map_singleton,CT.a5a]
       exact CT.a2i.mpr ⟨.head _,fun k hk=>by simp at hk;omega⟩
      rw [e0] at c1
      have c2:CT.mi ((comb (bcs ps.length s) [[]] pr).map (CT.co ps ws i))=cost (pl ps) (Wt ws) (S ps ws s) pr:=by
       rw [c1]
       cases cost (pl ps) (Wt ws) (S ps ws s) pr with
       | none=>rfl
       | some x=>show some (0+x)=some x;rw [Int.zero_add]
      rw [c2]
      have a1:=a1T [cost (pl ps) (Wt ws) (S ps ws s) pr] (xs.map fun pr=>CT.mi ((if 1 < pr.length then comb (bcs ps.length s) [[]] pr else []).map (CT.co ps ws i)))
      have a2:=a1T [cost (pl ps) (Wt ws) (S ps ws s) pr] ((xs.filter fun r=>decide (1 < r.length)).map fun r=>cost (pl ps) (Wt ws) (S ps ws s) r)
      rw [ih'] at a1
      exact a1.trans a2.symm
     ·rw [if_neg l1,if_neg (fun y=>l1 (of_decide_eq_true y))]
      have a1:=a1T [CT.mi ([]:List Int)] (xs.map fun pr=>CT.mi ((if 1 < pr.length then comb (bcs ps.length s) [[]] pr else []).map (CT.co ps ws i)))
      rw [ih'] at a1
      refine a1.trans ?_
      rw [CT.a3A.mpr rfl]
      exact b1U (fun m hm=>by
       rcases List.mem_cons.mp hm with y | y
       ·have:lo [(none:OI)]=none:=a1i.mpr (fun k hk=>by simp at hk)
        rw [this] at y;cases y
       ·rcases List.mem_cons.mp y with y | y
        ·exact ⟨m,Int.le_refl _,(a0V.mp y.symm).1⟩
        ·cases y) (fun m hm=>by
       obtain ⟨m',e',hm'⟩:=a4h hm
       exact ⟨m',hm',by rw [←e'];exact .tail _ (.head _)⟩)
   exact e _ fun _ h=>h
end
def Ch (L:Nat):Nat→Nat→Nat→Pa→Prop
 | _,i,j,[]=>i=j
 | l,i,j,q :: r=>q.1=i∧i < q.2.1∧q.2.1≤j∧l≤q.2.2∧q.2.2 < L∧Ch L (q.2.2+1) q.2.1 j r
theorem P_ch:∀ (r:Pa) (m l i j:Nat),r∈P m l i j↔Ch (l+m) l i j r
 | [],m,l,i,j=>by
  constructor
  ·intro h
   show i=j
   by_cases e:i=j
   ·exact e
   ·exfalso
    by_cases hij:i < j
    ·exact P_ne hij [] h rfl
    ·induction m generalizing l with
     | zero=>unfold P at h;rw [if_neg e] at h;cases h
     | succ m ih =>
      rw [a1N,if_neg e,show j - i=0 by omega] at h
      exact ih (l+1) (by simpa using h)
  ·intro h
   have h:i=j:=h
   rw [h,a3o]
   simp
 | q :: r,m,l,i,j=>by
  constructor
  ·intro h
   obtain ⟨h1,h2,h3,h4,h5,h6⟩:=a8A m l i j h
   refine ⟨h1,h2,h3,h4,h5,?_⟩
   have:=(P_ch r _ _ _ _).mp h6
   rw [show q.2.2+1+(l+m - (q.2.2+1))=l+m by omega] at this
   exact this
  ·rintro ⟨h1,h2,h3,h4,h5,h6⟩
   refine b2q m l i j h1 h2 h3 h4 h5 ((P_ch r _ _ _ _).mpr ?_)
   rw [show q.2.2+1+(l+m - (q.2.2+1))=l+m by omega]
   exact h6
theorem Ch.low {L l l' i j:Nat} (hl:l'≤l):∀ {r:Pa},Ch L l i j r→Ch L l' i j r
 | [],h=>h
 | q :: r,⟨h1,h2,h3,h4,h5,h6⟩=>⟨h1,h2,h3,by omega,h5,h6⟩
theorem Ch.app {L M j k:Nat} {r2:Pa} (hM:M≤L) (hk:k≤j):∀ {r1:Pa} {l i:Nat},Ch M l i k r1→l≤M→Ch L M k j r2→Ch L l i j (r1++r2)
 | [],l,i,h,hl,h2=>by
  have h:i=k:=h
  rw [h]
  exact h2.low hl
 | q :: r,l,i,⟨h1,h2,h3,h4,h5,h6⟩,hl,h7=>⟨h1,h2,by omega,h4,by omega,Ch.app hM hk h6 (by omega) h7⟩
theorem Ch.mir {L n j:Nat} (hj:j≤n):∀ {r:Pa} {l i:Nat},Ch L l i j r→Ch (L - l) 0 (n - j) (n - i) (r.map fun q=>(n - q.2.1,n - q.1,L - 1 - q.2.2)).reverse
 | [],l,i,h=>by
  have h:i=j:=h
  show n - j=n - i
  rw [h]
 | q :: r,l,i,⟨h1,h2,h3,h4,h5,h6⟩=>by
  rw [List.map_cons,List.reverse_cons]
  refine Ch.app (M:=L - (q.2.2+1)) (k:=n - q.2.1) (by omega) (by omega) (Ch.mir hj h6) (by omega) ?_
  refine ⟨rfl,?_,?_,?_,?_,?_⟩
  ·show n - q.2.1 < n - q.1;omega
  ·show n - q.1≤n - i;omega
  ·show L - (q.2.2+1)≤L - 1 - q.2.2;omega
  ·show L - 1 - q.2.2 < L - l;omega
  ·show n - q.1=n - i;omega
def ole (s t:Int) (a b:OI):Prop:=∀ y,b=some y→∃ x,a=some x∧s * x≤t * y
theorem a8J {p:Nat→Int} {W:Nat→Nat→Int} {F:Nat→Nat→OI} {r r':Pa} (h:r.Perm r'):cost p W F r=cost p W F r':=by
 induction h with
 | nil=>rfl
 | cons x _ ih=>show oadd _ _=oadd _ _;rw [ih]
 | swap x y l =>
  show oadd (part p W F y) (oadd (part p W F x) (cost p W F l))=oadd (part p W F x) (oadd (part p W F y) (cost p W F l))
  rw [←a2F,a4V (part p W F y),a2F]
 | trans _ _ h1 h2=>rw [h1,h2]
theorem a8K {s t:Int} {a a' b b':OI} (h:ole s t a b) (h':ole s t a' b'):ole s t (oadd a a') (oadd b b'):=by
 intro y hy
 cases b with
 | none=>cases hy
 | some u =>
  cases b' with
  | none=>cases hy
  | some v =>
   obtain ⟨x,rfl,hx⟩:=h u rfl
   obtain ⟨x',rfl,hx'⟩:=h' v rfl
   have:u+v=y:=Option.some.inj hy
   refine ⟨x+x',rfl,?_⟩
   rw [←this,Int.mul_add,Int.mul_add]
   omega
section
variable {ps ws ps' ws':List Int} {F F':Nat→Nat→OI} {s t:Int} {i0 j0:Nat} (f:Nat→Nat→Nat × Nat) (k:Nat→Nat)
theorem b0j {r:Pa} (h:∀ q∈r,s * (pl ps' (k q.2.2) * Wt ws' (f q.1 q.2.1).1 (f q.1 q.2.1).2)≤t * (pl ps q.2.2 * Wt ws q.1 q.2.1)∧ole s t (F' (f q.1 q.2.1).1 (f q.1 q.2.1).2) (F q.1 q.2.1)):ole s t (cost (pl ps') (Wt ws') F' (r.map fun q=>((f q.1 q.2.1).1,(f q.1 q.2.1).2,k q.2.2))) (cost (pl ps) (Wt ws) F r):=by
 induction r with
 | nil =>
  intro y hy
  have:(0:Int)=y:=Option.some.inj hy
  exact ⟨0,rfl,by rw [←this];omega⟩
 | cons q r ih =>
  obtain ⟨h1,h2⟩:=h q (.head _)
  refine a8K (a8K (fun y hy=>?_) h2) (ih fun q' hq'=>h q' (.tail _ hq'))
  have:_=y:=Option.some.inj hy
  exact ⟨_,rfl,by rw [←this];exact h1⟩
end
theorem b2B (l:List Int) (c:Nat):(l.drop c).sum=l.sum - (l.take c).sum:=by
 have:(l.take c).sum+(l.drop c).sum=l.sum:=by rw [←List.sum_append,List.take_append_drop]
 omega
theorem pl_rev {ps:List Int} {l:Nat} (h:l < ps.length):pl ps.reverse (ps.length - 1 - l)=pl ps l:=by
 unfold pl
 rw [List.getD_eq_getElem?_getD,List.getD_eq_getElem?_getD,List.getElem?_reverse (by omega),show ps.length - 1 - (ps.length - 1 - l)=l by omega]
theorem Wt_rev {ws:List Int} {i j:Nat} (hij:i≤j) (hj:j≤ws.length):Wt ws.reverse (ws.length - j) (ws.length - i)=Wt ws i j:=by
 have one:∀ i,i≤ws.length→(ws.reverse.take (ws.length - i)).sum=ws.sum - (ws.take i).sum:=fun i hi=>by
  rw [List.take_reverse,show ws.length - (ws.length - i)=i by omega,List.sum_reverse,b2B]
 unfold Wt
 rw [one i (by omega),one j hj]
 omega
theorem bd_mir {ps ws:List Int} {F F':Nat→Nat→OI} (h:∀ i j,i < j→j≤ws.length→ole 1 1 (F' (ws.length - j) (ws.length - i)) (F i j)) {i j:Nat} (hij:i < j) (hj:j≤ws.length):ole 1 1 (bdO ps.reverse ws.reverse F' (ws.length - j) (ws.length - i)) (bdO ps ws F i j):=by
 intro y hy
 unfold bdO at hy ⊢
 rw [show ws.length - i - (ws.length - j)=j - i by omega]
 by_cases e:j - i=1
 ·rw [if_pos e] at hy ⊢
  have:(0:Int)=y:=Option.some.inj hy
  exact ⟨0,rfl,by rw [←this];omega⟩
 ·rw [if_neg e] at hy ⊢
  obtain ⟨h1,_⟩:=a0V.mp hy
  obtain ⟨r,hr,er⟩:=List.mem_map.mp h1
  obtain ⟨hr1,hr2⟩:=List.mem_filter.mp hr
  have hin:=a1U hij r hr
  have hch:=(P_ch r _ _ _ _).mp hr1
  rw [Nat.zero_add] at hch
  have c':=hch.mir hj
  have pm:=List.reverse_perm (r.map fun q:Nat × Nat × Nat=>(ws.length - q.2.1,ws.length - q.1,ps.length - 1 - q.2.2))
  have co:=b0j (s:=1) (t:=1) (ps:=ps) (ws:=ws) (ps':=ps.reverse) (ws':=ws.reverse) (F:=F) (F':=F') (fun a b=>(ws.length - b,ws.length - a)) (fun l=>ps.length - 1 - l) (r:=r) fun q hq=>by
   have:=hin q hq
   refine ⟨?_,h _ _ this.2.1 (by omega)⟩
   show 1 * (pl ps.reverse (ps.length - 1 - q.2.2) * Wt ws.reverse (ws.length - q.2.1) (ws.length - q.1))≤_
   rw [pl_rev this.2.2.2.2,Wt_rev (by omega) (by omega)]
   exact Int.le_refl _
  obtain ⟨x,ex,lx⟩:=co y er
  rw [←a8J pm] at ex
  have mem:some x∈(((P ps.reverse.length 0 (ws.length - j) (ws.length - i)).filter fun r=>decide (1 < r.length)).map fun r=>cost (pl ps.reverse) (Wt ws.reverse) F' r):=by
   refine List.mem_map.mpr ⟨_,List.mem_filter.mpr ⟨(P_ch _ _ _ _ _).mpr (by rw [Nat.zero_add,List.length_reverse];exact c'),?_⟩,ex⟩
   rw [pm.length_eq,List.length_map]
   exact hr2
  obtain ⟨m,em,lm⟩:=a4h mem
  exact ⟨m,em,by omega⟩
theorem b2C {ps ws:List Int}:∀ s i j,i < j→j≤ws.length→ole 1 1 (S ps.reverse ws.reverse s (ws.length - j) (ws.length - i)) (S ps ws s i j)
 | 0,i,j,hij,hj=>fun y hy=>by
  show ∃ x,gr (ws.length - j) (ws.length - i)=some x∧_
  have hy:gr i j=some y:=hy
  unfold gr at hy ⊢
  rw [show ws.length - i - (ws.length - j)=j - i by omega]
  split at hy
  ·rename_i e
   rw [if_pos e]
   exact ⟨0,rfl,by have:=Option.some.inj hy;omega⟩
  ·cases hy
 | s+1,i,j,hij,hj=>bd_mir (fun a b hab hb=>b2C s a b hab hb) hij hj
theorem S_rev {ps ws:List Int} {s:Nat} (hn:1≤ws.length):S ps.reverse ws.reverse s 0 ws.reverse.length=S ps ws s 0 ws.length:=by
 have h1:=b2C (ps:=ps) (ws:=ws) s 0 ws.length (by omega) (Nat.le_refl _)
 have h2:=b2C (ps:=ps.reverse) (ws:=ws.reverse) s 0 ws.reverse.length (by rw [List.length_reverse];omega) (Nat.le_refl _)
 rw [Nat.sub_self,Nat.sub_zero] at h1 h2
 rw [List.reverse_reverse,List.reverse_reverse] at h2
 rw [List.length_reverse] at h2 ⊢
 cases e1:S ps.reverse ws.reverse s 0 ws.length with
 | none =>
  cases e2:S ps ws s 0 ws.length with
  | none=>rfl
  | some y =>
   obtain ⟨x,ex,_⟩:=h1 y e2
   rw [e1] at ex
   cases ex
 | some x =>
  obtain ⟨y,e2,l2⟩:=h2 x e1
  obtain ⟨x',e3,l1⟩:=h1 y e2
  rw [e1] at e3
  have:=Option.some.inj e3
  rw [e2]
  congr 1
  omega
theorem b0Z {ps ws:List Int} {i j:Nat} (hij:i < j):∀ d s,le (S ps ws (s+d) i j) (S ps ws s i j)
 | 0,s=>le_refl _
 | d+1,s=>fun y hy=>by
  obtain ⟨x,ex,lx⟩:=b0Z hij d s y hy
  obtain ⟨x',ex',lx'⟩:=S_le (ps:=ps) (ws:=ws) (s+d) i j hij x ex
  exact ⟨x',ex',by omega⟩
theorem b0k {ps ws:List Int} {s s':Nat} {c:CT.Code} {v:Int} (hn:1≤ws.length) (hc:c∈bcs ps.length s 0 ws.length) (hw:∀ u∈c,u.length≤s') (hv:S ps ws s' 0 ws.length=some v):v≤CT.co ps ws 0 c:=by
 rw [←a6i s ws.length 0 ws.length (by omega) (by omega)] at hc
 have hm:c∈bcs ps.length s' 0 ws.length:=by
  rw [←a6i s' ws.length 0 ws.length (by omega) (by omega)]
  refine List.mem_filter.mpr ⟨(List.mem_filter.mp hc).1,?_⟩
  unfold sh
  rw [List.all_eq_true]
  exact fun u hu=>decide_eq_true (hw u hu)
 have e:=b0Y (ps:=ps) (ws:=ws) s' 0 ws.length (by omega)
 rw [hv] at e
 exact (CT.a2i.mp e).2 _ (List.mem_map_of_mem hm)
end K47
namespace L2
open PySem PySem.Spec PyProof.Rows PySem.W
def a0K (m:Nat):List Nat:=(List.range 8).filter fun i=>m.testBit i
def nxL (m:Nat):Nat→Nat
 | 0=>0
 | i+1=>(a0K m).getD i 0+1
theorem a6j:∀ m < 256,∀ x < 8,m.testBit x=false→SetTable.insertAt (a0K m).toArray (SetTable.below (a0K m).toArray x) x=(a0K (m ||| 1 <<< x)).toArray:=by decide +kernel
theorem b2D:∀ m < 256,∀ i < 9,i≤(a0K m).length→SetTable.below (a0K m).toArray (nxL m i)=i:=by decide +kernel
theorem a8L:∀ m < 256,(a0K m).length=5→SetTable.laid 31 0 0 true true ((a0K m).map Int.ofNat).toArray=some (⟨31,(a0K m).toArray,#[],0,true,0,true⟩,#[0,1,2,3,4]):=by decide +kernel
theorem a6k:∀ m < 256,∀ x < 8,m.testBit x=false→(a0K (m ||| 1 <<< x)).length=(a0K m).length+1∧(m ||| 1 <<< x) < 256:=by decide +kernel
theorem a2Z {m x:Nat}:x∈a0K m↔x < 8∧m.testBit x=true:=by
 unfold a0K
 rw [List.mem_filter,List.mem_range]
theorem b0l (f mv:Nat) (l p:Bool) (hs:Array Int) (k:Nat):SetTable.laid k f mv l p hs=(SetTable.laid k 0 0 true true hs).map fun q=>(⟨q.1.mask,q.1.place,q.1.dummies,f,l,mv,p⟩,q.2):=by
 unfold SetTable.laid
 cases SetTable.layClean k hs <;> rfl
structure SmT (b:Bool) (m:Nat) (t:SetTable):Prop where
 lt:m < 256
 place:t.place=(a0K m).toArray
 dum:t.dummies=#[]
 plain:t.plain=true
 led:t.led=!b
 mask:t.mask=7∧(a0K m).length < 5∨t.mask=31
structure SmE (m:Nat) (es:Array (Int × Value)):Prop where
 vals:es.toList.map (·.1)=(a0K m).map Int.ofNat
 int:∀ e∈es.toList,∃ tk,e.2=.int e.1 tk
theorem SmE.size {m:Nat} {es:Array (Int × Value)} (h:SmE m es):es.size=(a0K m).length:=by
 have:=congrArg List.length h.vals
 simpa using this
theorem a2R (m:Nat):(a0K m).length≤8:=by
 unfold a0K
 exact Nat.le_trans (List.length_filter_le _ _) (by simp)
theorem SmT.fits {b:Bool} {m:Nat} {t:SetTable} (h:SmT b m t):t.fits (a0K m).length=true:=by
 have:=a2R m
 unfold SetTable.fits SetTable.fill
 rw [h.place,h.dum]
 rcases h.mask with ⟨e,l⟩ | e <;> rw [e] <;> simp <;> omega
theorem SmT.free {b:Bool} {m:Nat} {t:SetTable} (h:SmT b m t) {x:Nat} (hx:x < 8) (hn:m.testBit x=false):t.freeSlot (x:Int)=some (x,false):=by
 have hb:SetTable.bits (x:Int) % (t.mask+1)=x:=by
  have k7:∀ x < 8,SetTable.bits (x:Nat) % (7+1)=x:=by decide +kernel
  have k31:∀ x < 8,SetTable.bits (x:Nat) % (31+1)=x:=by decide +kernel
  rcases h.mask with ⟨e,_⟩ | e <;> rw [e]
  ·exact k7 x hx
  ·exact k31 x hx
 have hs:t.slot x=.empty:=by
  unfold SetTable.slot SetTable.has
  rw [h.place,h.dum]
  have:((a0K m).toArray[SetTable.below (a0K m).toArray x]? == some x)=false:=by
   rw [beq_eq_false_iff_ne]
   intro e
   have:=Array.mem_of_getElem? e
   rw [List.mem_toArray,a2Z] at this
   rw [hn] at this
   exact Bool.noConfusion this.2
  dsimp only
  rw [this]
  rfl
 have hp:(t.probeStart (x:Int)).j=x:=hb
 have hd:(t.probeStart (x:Int)).dummy=none:=rfl
 unfold SetTable.freeSlot SetTable.probe
 have hf:10 * SetTable.turns t.mask=(10 * SetTable.turns t.mask - 1)+1:=by unfold SetTable.turns;omega
 rw [hf]
 unfold SetTable.probe.go
 rw [hp,hs,hd]
 rfl
theorem a4w {α:Type} (xs:Array α) (p:Nat) (x:α):(SetTable.insertAt xs p x).toList=xs.toList.take p++x :: xs.toList.drop p:=by
 unfold SetTable.insertAt
 simp [Array.toList_extract,List.extract_eq_take_drop]
 rw [List.take_of_length_le]
 simp
theorem SmE.ins {m:Nat} {es:Array (Int × Value)} (h:SmE m es) (hm:m < 256) {x:Nat} (hx:x < 8) (hn:m.testBit x=false) (tk:Nat) :
  SmE (m ||| 1 <<< x) (SetTable.insertAt es (SetTable.below (a0K m).toArray x) ((x:Int),.int (x:Int) tk)):=by
 have hp:=congrArg Array.toList (a6j m hm x hx hn)
 rw [a4w] at hp
 simp only at hp
 refine ⟨?_,fun e he=>?_⟩
 ·rw [a4w,List.map_append,List.map_take,List.map_cons,List.map_drop,h.vals,←hp,List.map_append,List.map_take,List.map_cons,List.map_drop]
  rfl
 ·rw [a4w] at he
  rcases List.mem_append.mp he with z | z
  ·exact h.int e (List.mem_of_mem_take z)
  ·rcases List.mem_cons.mp z with rfl | z
   ·exact ⟨tk,rfl⟩
   ·exact h.int e (List.mem_of_mem_drop z)
theorem lay_sm {b:Bool} {m:Nat} {t:SetTable} {es:Array (Int × Value)} (T:SmT b m t) (Es:SmE m es) {x:Nat} (hx:x < 8) (hn:m.testBit x=false) (tk:Nat) :
  ∃ es' t',layNew t es (x:Int) (.int (x:Int) tk)=(es',t',false,false)∧SmE (m ||| 1 <<< x) es'∧t'.place=(a0K (m ||| 1 <<< x)).toArray∧t'.dummies=#[]∧t'.plain=true∧t'.led=!b∧t'.mask=t.mask:=by
 have hE:=Es.ins T.lt hx hn tk
 have hl:=a6k m T.lt x hx hn
 have h8:=a2R (m ||| 1 <<< x)
 have pp:=a6j m T.lt x hx hn
 have hd:SetTable.has #[] x=false:=rfl
 refine ⟨_,⟨t.mask,(a0K (m ||| 1 <<< x)).toArray,#[],t.finger,t.led,t.moves,t.plain⟩,?_,hE,rfl,rfl,T.plain,T.led,rfl⟩
 have fit:SetTable.fits ⟨t.mask,(a0K (m ||| 1 <<< x)).toArray,#[],t.finger,t.led,t.moves,t.plain⟩ (a0K (m ||| 1 <<< x)).length=true:=by
  unfold SetTable.fits SetTable.fill
  rcases T.mask with ⟨e,l⟩ | e <;> rw [e] <;> simp <;> omega
 unfold layNew
 rw [T.free hx hn]
 unfold SetTable.put
 simp only [hd,T.place,pp,T.dum,hE.size,SetTable.orStandIn,fit,Bool.false_eq_true,if_false,if_true,Bool.not_true]
theorem all5 {α:Type} (es:Array α) (h:es.size=5):(#[0,1,2,3,4]:Array Nat).filterMap (es[·]?)=es:=by
 obtain ⟨l⟩:=es
 match l,h with
 | [a,b,c,d,e],_=>rfl
theorem b0m {b:Bool} {m:Nat} {t:SetTable} {es:Array (Int × Value)} (Es:SmE m es) (hm:m < 256) (h5:(a0K m).length=5) (hp:t.plain=true) (hl:t.led=!b) (h7:t.mask=7) :
  ∃ t',relayAll t es (SetTable.grown es.size)=(es,t',false)∧SmT b m t':=by
 have sz:es.size=5:=by rw [Es.size,h5]
 have hh:es.map (·.1)=((a0K m).map Int.ofNat).toArray:=by
  rw [←Es.vals]
  cases es
  simp
 have ab:SetTable.sizeAbove (SetTable.grown 5) - 1=31:=by decide
 unfold relayAll SetTable.relaid
 rw [sz,ab,b0l,hh,a8L m hm h5]
 refine ⟨⟨31,(a0K m).toArray,#[],t.finger,t.led,t.movedTo 31,t.plain⟩,?_,⟨hm,rfl,rfl,hp,hl,.inr rfl⟩⟩
 simp only [Option.map_some]
 rw [all5 es sz,sz]
 have fit:SetTable.fits ⟨31,(a0K m).toArray,#[],t.finger,t.led,t.movedTo 31,t.plain⟩ 5=true:=by
  unfold SetTable.fits SetTable.fill
  simp [h5]
 rw [fit]
 rfl
section
variable {prog:Program} {w:World} {A:Around} {E:Value→Shared→Prop} {s:Shared} {b:Bool}
def a6T (b:Bool) (m:Nat) (h:Heap) (a:Addr):Prop:=∃ o es ep t,h.get? a=some o∧o.ExactSet∧o.data=.set es ep t∧SmT b m t∧SmE m es
theorem a6T.at {m:Nat} {h h':Heap} {a:Addr} (x:a6T b m h a) (e:∀ o,h.get? a=some o→h'.get? a=some o):a6T b m h' a:=by
 obtain ⟨o,es,ep,t,ho,r⟩:=x
 exact ⟨o,es,ep,t,e o ho,r⟩
theorem a8M:∀ x < 8,hashInt (x:Nat)=x:=by decide +kernel
theorem SmE.mem {m:Nat} {es:Array (Int × Value)} (h:SmE m es) {e:Int × Value} (he:e∈es.toList):∃ y tk,y < 8∧m.testBit y=true∧e=((y:Int),.int (y:Int) tk):=by
 obtain ⟨tk,et⟩:=h.int e he
 have:e.1∈(a0K m).map Int.ofNat:=by rw [←h.vals];exact List.mem_map_of_mem he
 obtain ⟨y,hy,e1⟩:=List.mem_map.mp this
 obtain ⟨h8,hb⟩:=a2Z.mp hy
 obtain ⟨e1',e2'⟩:=e
 simp only at e1 et
 subst e1
 exact ⟨y,tk,h8,hb,by rw [et];rfl⟩
theorem SmE.elems {m:Nat} {es:Array (Int × Value)} (h:SmE m es):ElemsOf (intKind prog w) es.toList:=fun e he=>by
 obtain ⟨y,tk,h8,_,rfl⟩:=h.mem he
 exact ⟨⟨y,intKind_is _ _ _ _,(a8M y h8).symm⟩,rfl⟩
theorem SmE.has {m:Nat} {es:Array (Int × Value)} (h:SmE m es) {x:Nat} (hx:x < 8) (hb:m.testBit x=true):∃ e∈es.toList,(intKind prog w).is (x:Int) e.2=true:=by
 have:Int.ofNat x∈es.toList.map (·.1):=by rw [h.vals];exact List.mem_map_of_mem (a2Z.mpr ⟨hx,hb⟩)
 obtain ⟨e,he,e1⟩:=List.mem_map.mp this
 obtain ⟨tk,et⟩:=h.int e he
 refine ⟨e,he,?_⟩
 rw [et,e1]
 exact intKind_is _ _ _ _
theorem b2E:∀ m < 256,∀ x < 8,m.testBit x=true→m ||| 1 <<< x=m:=by decide +kernel
theorem add_sm {a:Addr} {m x tk:Nat} {Q:Bool→Shared→Prop} (hS:a6T b m s.heap a) (hx:x < 8)
  (h:∀ h' r,Heap.SameBut a s.heap h'→a6T b (m ||| 1 <<< x) h' a→Q r { s with heap:=h' }):wpAny (model prog w) A (setAddHashed a (.int (x:Int) tk) ((intKind prog w).hash (x:Int))) Q E s:=by
 obtain ⟨o,es,ep,t,ho,hex,hd,T,Es⟩:=hS
 have hel:ElemsOf (intKind prog w) es.toList:=Es.elems
 have hf:t.fits es.size=true:=by rw [Es.size];exact T.fits
 have sz8:es.size≤8:=by rw [Es.size];exact a2R m
 have hb8:es.size < scanBound:=by unfold scanBound;omega
 have hk:(intKind prog w).is (x:Int) (.int (x:Int) tk)=true:=intKind_is _ _ _ _
 have hhx:(intKind prog w).hash (x:Int)=(x:Int):=a8M x hx
 unfold setAddHashed setAddHashedIn
 refine wpAny_holding (wpAny_bind (wpAny_setState_of ho hd hf ?_))
 simp only [byScan_of (knd:=intKind prog w) (x:=.int (x:Int) tk) rfl hb8 hel,↓reduceIte]
 unfold setAddByScan
 refine wpAny_bind (wpAny_bind (wpAny_rule (wpAny_bind (wpAny_setScan_of hk ho hd hf hel ?_))))
 cases hr:List.findIdx? (fun e=>(intKind prog w).is (x:Int) e.2) es.toList with
 | some j =>
  obtain ⟨hj,hpj,_⟩:=List.findIdx?_eq_some_iff_getElem.mp hr
  obtain ⟨y,tk',h8,hb,ey⟩:=Es.mem (List.getElem_mem hj)
  have exy:x=y:=by
   rw [ey] at hpj
   have:=(intKind prog w).inj _ _ _ hpj (intKind_is _ _ (y:Int) _)
   exact Int.ofNat.inj this
  subst exy
  refine wpAny_pure (wpAny_pure ?_)
  have:=h s.heap false (Heap.SameBut.refl a s.heap) (by rw [b2E m T.lt x hx hb];exact ⟨o,es,ep,t,ho,hex,hd,T,Es⟩)
  exact this
 | none =>
  have hn:m.testBit x=false:=by
   cases hb:m.testBit x with
   | false=>rfl
   | true =>
    obtain ⟨e,he,z⟩:=Es.has (prog:=prog) (w:=w) hx hb
    have:=List.findIdx?_eq_none_iff.mp hr e he
    rw [z] at this
    exact Bool.noConfusion this
  obtain ⟨es1,t1,e1,E1,p1,d1,pl1,l1,m1⟩:=lay_sm T Es hx hn tk
  have hl:=a6k m T.lt x hx hn
  have h8':=a2R (m ||| 1 <<< x)
  have sz1:es1.size≤8:=by rw [E1.size];exact h8'
  have fit1:es1.size≤sizeLine:=by rw [sizeLine_eq];omega
  simp only [hhx,e1]
  refine wpAny_bind (wpAny_pure ?_)
  simp only [pl1,if_true]
  refine wpAny_bind (wpAny_of_eq (hashByValue_scannable 8 rfl) ?_)
  simp only [show plainKind (.int (x:Int) tk)=true from rfl,if_true]
  refine wpAny_bind (wpAny_storeSet_of ho hd ?_ fit1)
  have hg:(s.heap.update a (Obj.putSet es1 t1)).get? a=some { o with data:=.set es1 (ep+1) t1 }:=by
   have:=Heap.get?_update_self (Obj.putSet es1 t1) ho (by rw [putSet_of es1 t1 hd];rfl)
   rwa [putSet_of es1 t1 hd] at this
  have sb:=Heap.SameBut.update s.heap a (Obj.putSet es1 t1)
  have nf:t1.fill=(a0K (m ||| 1 <<< x)).length:=by
   unfold SetTable.fill
   rw [p1,d1]
   simp
  by_cases h5:t1.tooFull=true
  ·have h7:t1.mask=7∧(a0K (m ||| 1 <<< x)).length=5:=by
    unfold SetTable.tooFull at h5
    rw [nf] at h5
    simp only [ge_iff_le,decide_eq_true_eq] at h5
    rcases T.mask with ⟨e,l⟩ | e <;> rw [m1,e] at h5 <;> rw [m1,e] <;> omega
   obtain ⟨t2,e2,T2⟩:=b0m (b:=b) E1 hl.2 h7.2 pl1 l1 h7.1
   simp only [h5,e2,Bool.not_false,Bool.and_self,if_true]
   refine wpAny_bind (wpAny_pure (wpAny_bind (wpAny_storeSet_of hg rfl ?_ fit1)))
   have hg2:((s.heap.update a (Obj.putSet es1 t1)).update a (Obj.putSet es1 t2)).get? a=some { o with data:=.set es1 (ep+1+1) t2 }:=by
    have:=Heap.get?_update_self (Obj.putSet es1 t2) hg (by rw [putSet_of es1 t2 rfl];rfl)
    rwa [putSet_of es1 t2 rfl] at this
   exact wpAny_pure (wpAny_pure (h _ true (sb.trans (Heap.SameBut.update _ a _)) ⟨_,es1,_,t2,hg2,hex,rfl,T2,E1⟩))
  ·simp only [Bool.not_eq_true] at h5
   simp only [h5,Bool.and_false,Bool.false_eq_true,if_false]
   have h7:t1.mask=7∧(a0K (m ||| 1 <<< x)).length < 5∨t1.mask=31:=by
    unfold SetTable.tooFull at h5
    rw [nf] at h5
    simp only [ge_iff_le,decide_eq_false_iff_not] at h5
    rcases T.mask with ⟨e,l⟩ | e
    ·rw [m1,e] at h5
     exact .inl ⟨by rw [m1,e],by omega⟩
    ·exact .inr (by rw [m1,e])
   exact wpAny_pure (wpAny_pure (h _ true sb ⟨_,es1,_,t1,hg,hex,rfl,⟨hl.2,p1,d1,pl1,l1,h7⟩,E1⟩))
end
theorem a6l {α:Type} (next:Nat→Nat):∀ (f k:Nat) (l:List α) (out:Array α),l.length=f→(pickOrder.go next f k l out).toList.Perm (out.toList++l)
 | 0,k,l,out,h=>by
  obtain rfl:=List.eq_nil_of_length_eq_zero h
  unfold pickOrder.go
  simp
 | f+1,k,l,out,h=>by
  have hi:next k % l.length < l.length:=Nat.mod_lt _ (by omega)
  unfold pickOrder.go
  rw [List.getElem?_eq_getElem hi]
  dsimp only
  refine (a6l next f (k+1) _ _ (by rw [List.length_eraseIdx_of_lt hi];omega)).trans ?_
  rw [Array.toList_push,List.append_assoc]
  refine List.Perm.append_left _ ?_
  rw [List.eraseIdx_eq_take_drop_succ]
  have e:l=l.take (next k % l.length)++l[next k % l.length] :: l.drop (next k % l.length+1):=by rw [List.getElem_cons_drop,List.take_append_drop]
  have p:(l[next k % l.length] :: (l.take (next k % l.length)++l.drop (next k % l.length+1))).Perm (l.take (next k % l.length)++l[next k % l.length] :: l.drop (next k % l.length+1)):=List.perm_middle.symm
  rw [←e] at p
  exact p
theorem a6S {α:Type} (next:Nat→Nat) (xs:Array α):(pickOrder next xs).toList.Perm xs.toList:=by
 unfold pickOrder
 simpa using a6l next xs.size 0 xs.toList #[] (by simp)
theorem a1d:Slot "set_iterator" "__next__" "set_iterator.__next__":=.of (owner:="set_iterator") (n:="__next__") (by rw [typeLookup_type,builtinLookup_eq_fast];kernel_rfl) (by decide +kernel) (by decide +kernel) (by decide +kernel) (by first | exact .inl (by decide +kernel) | exact .inr (by decide +kernel)) (by rw [isSubtype_type];kernel_rfl)
theorem a5g:∃ id,Slot "set_iterator" "__iter__" id∧id="set_iterator.__iter__":=⟨_,.of (owner:="set_iterator") (n:="__iter__") (by rw [typeLookup_type,builtinLookup_eq_fast];kernel_rfl) (by decide +kernel) (by decide +kernel) (by decide +kernel) (by first | exact .inl (by decide +kernel) | exact .inr (by decide +kernel)) (by rw [isSubtype_type];kernel_rfl),rfl⟩
theorem a2w:entryFor table "set_iterator.__next__"=some Builtin.«set_iterator.__next__»:=entryFor_of_tree (by kernel_rfl)
theorem a4x:entryFor table "set.__iter__"=some Builtin.«frozenset.__iter__»:=entryFor_alias (id':="frozenset.__iter__") (by kernel_rfl) rfl (by decide +kernel) (by kernel_rfl)
section
variable {prog:Program} {w:World} {A:Around} {E:Value→Shared→Prop} {s:Shared} {b:Bool} {m ep:Nat} {es:Array (Int × Value)} {t:SetTable} {a it:Addr}
def a6U (b:Bool) (m:Nat) (h:Heap) (a:Addr) (es:Array (Int × Value)) (ep:Nat) (t:SetTable):Prop:=∃ o,h.get? a=some o∧o.ExactSet∧o.data=.set es ep t∧SmT b m t∧SmE m es
theorem a6U.at {h h':Heap} (x:a6U b m h a es ep t) (e:∀ o,h.get? a=some o→h'.get? a=some o):a6U b m h' a es ep t:=by
 obtain ⟨o,ho,r⟩:=x
 exact ⟨o,e o ho,r⟩
theorem a6U.fits {h:Heap} (x:a6U b m h a es ep t):t.fits es.size=true:=by
 obtain ⟨o,_,_,_,T,Es⟩:=x
 rw [Es.size]
 exact T.fits
def a5h (w:World) (a:Addr) (ep:Nat) (es:Array (Int × Value)):Array (Int × Value):=if w.params.followText "set-order" then pickOrder (w.params.setOrder a ep) es else es
theorem a4y:(a5h w a ep es).toList.Perm es.toList:=by
 unfold a5h
 split
 ·exact a6S _ _
 ·exact .refl _
theorem a2x:(a5h w a ep es).size=es.size:=by
 have:=(a4y (w:=w) (a:=a) (ep:=ep) (es:=es)).length_eq
 simpa using this
theorem b0n {Q:Bool→Shared→Prop} (x:a6U b m s.heap a es ep t) (h:Q false s):wpAny (model prog w) A (setDrawn a) Q E s:=by
 have hf:=x.fits
 obtain ⟨o,ho,hx,hd,T,Es⟩:=x
 unfold setDrawn setsByText
 refine wpAny_bind (wpAny_setState_of ho hd hf (wpAny_bind (wpAny_bind (wpAny_askSetting (wpAny_pure (wpAny_pure ?_))))))
 have e:(!w.params.followText "set-order" && (!t.plain && decide (es.size > 1)))=false:=by rw [T.plain];simp
 show Q (!w.params.followText "set-order" && (!t.plain && decide (es.size > 1))) s
 rw [e]
 exact h
def SWk (b:Bool) (m:Nat) (h:Heap) (it a:Addr) (i n ep:Nat):Prop:=∃ o sl,h.get? it=some o∧o.cls=.type "set_iterator"∧o.data=.fields #[.int (sl:Nat) 0,.int i 0,.ref a,.int n 0,.int ep 0]∧(b=false→sl=nxL m i)
theorem SWk.at {h h':Heap} {i n:Nat} (x:SWk b m h it a i n ep) (e:∀ o,h.get? it=some o→h'.get? it=some o):SWk b m h' it a i n ep:=by
 obtain ⟨o,sl,ho,r⟩:=x
 exact ⟨o,sl,e o ho,r⟩
theorem b2F {Q:Value→Shared→Prop} (x:a6U b m s.heap a es ep t) (hQ:Q (.ref s.heap.objs.size) { s with heap:=s.heap.push { cls:=.type "set_iterator",data:=.fields #[.int 0 0,.int 0 0,.ref a,.int es.size 0,.int ep 0] } }) :
  wpAny (model prog w) A (pyIter (.ref a)) Q E s:=by
 have hf:=x.fits
 obtain ⟨o,ho,hx,hd,T,Es⟩:=id x
 have hT:s.TypeIs (.ref a) "set":=⟨o,ho,hx.1⟩
 refine wpAny_pyIter_slot hT F.slot_set_iter (wpAny_call_entry F.slot_set_iter hT a4x ?_ (F.args_set_iter_1 _))
 unfold Builtin.«frozenset.__iter__»
 show wpAny _ _ (Builtin.Frozenset.sizeOf a >>= _) _ _ s
 unfold Builtin.Frozenset.sizeOf
 refine wpAny_bind (wpAny_bind (wpAny_setEntries_of ho hd hf (wpAny_pure ?_)))
 refine wpAny_bind (b0n x ?_)
 simp only [Bool.false_eq_true,if_false]
 refine wpAny_bind (wpAny_pure (wpAny_bind (wpAny_setEpoch_of ho hd hf ?_)))
 refine wpAny_bind (wpAny_newObj_type (wpAny_pure ⟨_,rfl,"set_iterator",_,⟨_,Heap.get?_push_size _ rfl,rfl⟩,a1d.lookup,?_⟩))
 simpa [rawInt] using hQ
end
theorem a6m:Manifest.owners.lookup (String.ofList ['r','o','t','a','r','e','t','i','_','t','e','s'].reverse)=some Manifest.sig_set_iterator:=by kernel_rfl
theorem a2S (a:Value):argsOk "set_iterator.__next__" ⟨[a],[]⟩:=by
 unfold argsOk;rw [signature?_of (id:="set_iterator.__next__") (n:=['_','_','t','x','e','n','_','_']) (o:=['r','o','t','a','r','e','t','i','_','t','e','s']) (by kernel_rfl) a6m];kernel_rfl
theorem a5i (a:Value):argsOk "set_iterator.__iter__" ⟨[a],[]⟩:=by
 unfold argsOk;rw [signature?_of (id:="set_iterator.__iter__") (n:=['_','_','r','e','t','i','_','_']) (o:=['r','o','t','a','r','e','t','i','_','t','e','s']) (by kernel_rfl) a6m];kernel_rfl
theorem a4z:entryFor table "set_iterator.__iter__"=some Builtin.«dict_keyiterator.__iter__»:=entryFor_alias (id':="dict_keyiterator.__iter__") (by kernel_rfl) rfl (by decide +kernel) (by kernel_rfl)
section
variable {prog:Program} {w:World} {A:Around} {E:Value→Shared→Prop} {s:Shared} {b:Bool} {m ep:Nat} {es:Array (Int × Value)} {t:SetTable} {a it:Addr}
theorem a8N {i sl:Nat} {Q:Option (Value × Nat)→Shared→Prop} (x:a6U b m s.heap a es ep t) (hb:b=w.params.followText "set-order") (hsl:b=false→sl=nxL m i) (hi:i≤es.size)
  (h:∀ sl',(b=false→i < es.size→sl'=nxL m (i+1))→Q (((a5h w a ep es)[i]?).map fun e=>(e.2,sl')) s):wpAny (model prog w) A (setNext a sl i ep) Q E s:=by
 have hf:=x.fits
 obtain ⟨o,ho,hx,hd,T,Es⟩:=id x
 unfold setNext setsByText
 refine wpAny_bind (wpAny_setState_of ho hd hf ?_)
 refine wpAny_bind (wpAny_bind (wpAny_askSetting (wpAny_pure ?_)))
 cases hw:w.params.followText "set-order" with
 | true =>
  have hw':(model prog w).w.params.followText "set-order"=true:=hw
  simp only [hw',if_true,bne_self_eq_false,Bool.false_eq_true,if_false]
  unfold setWalk setsByText
  refine wpAny_bind (wpAny_bind (wpAny_setState_of ho hd hf (wpAny_bind (wpAny_bind (wpAny_askSetting (wpAny_pure ?_))))))
  simp only [hw',if_true]
  refine wpAny_bind (wpAny_askSetting (wpAny_pure (wpAny_pure ?_)))
  have:=h sl (fun z=>by rw [hb,hw] at z;cases z)
  unfold a5h at this
  rw [hw] at this
  exact this
 | false =>
  have hw':(model prog w).w.params.followText "set-order"=false:=hw
  have hb0:b=false:=hb.trans hw
  have hl:t.led=true:=by rw [T.led,hb0];rfl
  simp only [hw',Bool.false_eq_true,if_false]
  have np:¬ ((!t.plain && decide (es.size > 1))=true):=by rw [T.plain];simp
  refine wpAny_ite_split (fun z=>absurd z np) fun _=>?_
  refine wpAny_bind (m:=(if (!t.led && !es.isEmpty)=true then unsupported "set:maker-not-led" else pure ())) ?_
  rw [if_neg (show ¬ ((!t.led && !es.isEmpty)=true) from by rw [hl];simp)]
  refine wpAny_pure (wpAny_pure ?_)
  have bl:SetTable.below t.place sl=i:=by
   rw [T.place,hsl hb0]
   have:=a2R m
   exact b2D m T.lt i (by have:=Es.size;omega) (by rw [←Es.size];exact hi)
  rw [bl,T.place]
  by_cases hlt:i < es.size
  ·have hl2:i < (a0K m).length:=by rw [←Es.size];exact hlt
   have:=h (nxL m (i+1)) (fun _ _=>rfl)
   unfold a5h at this
   rw [hw] at this
   simp only [Bool.false_eq_true,if_false,Array.getElem?_eq_getElem hlt,Option.map_some] at this
   rw [Array.getElem?_eq_getElem hlt,List.getElem?_toArray,List.getElem?_eq_getElem hl2]
   have e:nxL m (i+1)=(a0K m)[i]+1:=by
    show (a0K m).getD i 0+1=_
    simp [List.getD,List.getElem?_eq_getElem hl2]
   rw [e] at this
   exact this
  ·have:=h 0 (fun _ z=>absurd z hlt)
   unfold a5h at this
   rw [hw] at this
   simp only [Bool.false_eq_true,if_false,Array.getElem?_eq_none (Nat.le_of_not_lt hlt),Option.map_none] at this
   rw [Array.getElem?_eq_none (Nat.le_of_not_lt hlt)]
   exact this
theorem SWk.typeIs {i n:Nat} (y:SWk b m s.heap it a i n ep):s.TypeIs (.ref it) "set_iterator":=by
 obtain ⟨o,sl,ho,hc,_⟩:=y
 exact ⟨o,ho,hc⟩
theorem b0o {i:Nat} {e:Int × Value} {Q:Option Value→Shared→Prop} (x:a6U b m s.heap a es ep t) (hb:b=w.params.followText "set-order") (y:SWk b m s.heap it a i es.size ep) (he:(a5h w a ep es)[i]?=some e)
  (hQ:∀ h',SWk b m h' it a (i+1) es.size ep→Heap.SameBut it s.heap h'→Q (some e.2) { s with heap:=h' }):wpAny (model prog w) A (pyNext (.ref it)) Q E s:=by
 have hf:=x.fits
 have hT:=y.typeIs
 have hlt:i < es.size:=by
  rw [←a2x (w:=w) (a:=a) (ep:=ep)]
  exact (Array.getElem?_eq_some_iff.mp he).1
 obtain ⟨od,hod,hx,hdd,T,Es⟩:=id x
 obtain ⟨o,sl,ho,hc,hd,hsl⟩:=y
 unfold pyNext
 refine wpAny_bind (wpAny_attempt (wpAny_callSpecial?_slot (name:=Str.ofString "__next__") hT a1d (wpAny_call_entry a1d hT a2w ?_ (a2S _))))
 unfold Builtin.«set_iterator.__next__»
 refine wpAny_bind (wpAny_pure ?_)
 refine wpAny_bind (wpAny_fieldsOf ho hd ?_)
 refine wpAny_bind (wpAny_setEntries_of hod hdd hf ?_)
 refine wpAny_ite_split (fun z=>absurd z (by simp)) fun _=>?_
 simp only [Int.toNat_natCast]
 refine wpAny_bind (a8N x hb hsl (Nat.le_of_lt hlt) fun sl' hs'=>?_)
 rw [he]
 simp only [Option.map_some]
 refine wpAny_bind (wpAny_setField ho hd (by simp) ?_)
 have ho1:(s.heap.update it (Obj.mapFields (·.setIfInBounds 0 (rawInt (sl':Int))))).get? it=some _:=Heap.get?_update_self _ ho (Obj.isFreed_of_fields (Obj.data_mapFields hd _))
 have hd1:(Obj.mapFields (·.setIfInBounds 0 (rawInt (sl':Int))) o).data=.fields #[.int (sl':Nat) 0,.int i 0,.ref a,.int es.size 0,.int ep 0]:=by
  rw [Obj.data_mapFields hd]
  simp [rawInt]
 refine wpAny_bind (wpAny_setField (s:={ s with heap:=s.heap.update it (Obj.mapFields (·.setIfInBounds 0 (rawInt (sl':Int)))) }) ho1 hd1 (by simp) ?_)
 have hd2:(Obj.mapFields (·.setIfInBounds 1 (rawInt ((i:Int)+1))) (Obj.mapFields (·.setIfInBounds 0 (rawInt (sl':Int))) o)).data=.fields #[.int (sl':Nat) 0,.int (i+1:Nat) 0,.ref a,.int es.size 0,.int ep 0]:=by
  rw [Obj.data_mapFields hd1]
  simp [rawInt]
 have ho2:=Heap.get?_update_self (Obj.mapFields (·.setIfInBounds 1 (rawInt ((i:Int)+1)))) ho1 (Obj.isFreed_of_fields hd2)
 refine wpAny_pure ⟨_,rfl,wpAny_pure (hQ _ ⟨_,sl',ho2,?_,hd2,fun z=>hs' z hlt⟩ ((Heap.SameBut.update ..).trans (Heap.SameBut.update ..)))⟩
 rw [Obj.cls_mapFields,Obj.cls_mapFields]
 exact hc
theorem b2G {Q:Option Value→Shared→Prop} (hh:A.handled=none) (x:a6U b m s.heap a es ep t) (hb:b=w.params.followText "set-order") (y:SWk b m s.heap it a es.size es.size ep)
  (hQ:∀ h',Heap.ExtBut it s.heap h'→Q none { s with heap:=h' }):wpAny (model prog w) A (pyNext (.ref it)) Q E s:=by
 have hf:=x.fits
 have hT:=y.typeIs
 have he:(a5h w a ep es)[es.size]?=none:=Array.getElem?_eq_none (by rw [a2x];exact Nat.le_refl _)
 obtain ⟨od,hod,hx,hdd,T,Es⟩:=id x
 obtain ⟨o,sl,ho,hc,hd,hsl⟩:=y
 unfold pyNext
 refine wpAny_bind (wpAny_attempt (wpAny_callSpecial?_slot (name:=Str.ofString "__next__") hT a1d (wpAny_call_entry a1d hT a2w ?_ (a2S _))))
 unfold Builtin.«set_iterator.__next__»
 refine wpAny_bind (wpAny_pure (wpAny_bind (wpAny_fieldsOf ho hd ?_)))
 refine wpAny_bind (wpAny_setEntries_of hod hdd hf ?_)
 refine wpAny_ite_split (fun z=>absurd z (by simp)) fun _=>?_
 simp only [Int.toNat_natCast]
 refine wpAny_bind (a8N x hb hsl (Nat.le_refl _) fun sl' hs'=>?_)
 rw [he]
 simp only [Option.map_none]
 refine wpAny_bind (wpAny_setField ho hd (by simp) (wpAny_bind ?_))
 simp only [newExc,newTuple]
 refine wpAny_bind (wpAny_newObj_type ?_ (by size_fits))
 refine wpAny_bind (m:=firstArgMember _ _) (wpAny_of_eq (a:=Value.none) (by first | rfl | (simp only [firstArgMember];rfl)) (wpAny_newObj_type ?_ (by size_fits)))
 simp only [raiseNew]
 refine wpAny_bind (wpAny_handled ?_)
 rw [show A.in1.handled=none from hh]
 refine wpAny_bind (wpAny_pure (wpAny_throw ?_))
 refine wpAny_bind (wpAny_isInstance (T:="StopIteration") (b:=true) ⟨_,Heap.get?_push_size _ rfl,rfl⟩ isSubtype_stop ?_)
 exact wpAny_pure (hQ _ (((Heap.SameBut.update ..).extBut.push _).push _))
theorem b0p {i n:Nat} {Q:Value→Shared→Prop} (y:SWk b m s.heap it a i n ep) (h:Q (.ref it) s):wpAny (model prog w) A (pyIter (.ref it)) Q E s:=by
 obtain ⟨id,sl,rfl⟩:=a5g
 refine wpAny_pyIter_slot y.typeIs sl (wpAny_call_entry sl y.typeIs a4z ?_ (a5i _))
 show wpAny _ _ (ret (.ref it)) _ _ s
 exact wpAny_pure ⟨_,rfl,"set_iterator",_,y.typeIs,a1d.lookup,h⟩
theorem b0q (hh:A.handled=none) (I:Addr) (hne:a≠I) (hb:b=w.params.followText "set-order"):Walks prog w A I [I,a] [I] es.size (fun i v=>∃ e,(a5h w a ep es)[i]?=some e∧v=e.2) (fun i h=>SWk b m h I a i es.size ep∧a6U b m h a es ep t) where
 sub:=fun c hc=>by simp at hc;simp [hc]
 frame:=fun _ _ _ st hk=>⟨st.1.at fun o e=>hk I (by simp) o e,st.2.at fun o e=>hk a (by simp) o e⟩
 item:=fun i s Q E hi st hQ=>by
  have he:(a5h w a ep es)[i]?=some _:=Array.getElem?_eq_getElem (by rw [a2x];exact hi)
  refine b0o st.2 hb st.1 he fun h' hit' hs'=>?_
  exact hQ _ h' s.toks ⟨_,he,rfl⟩ ⟨hit',st.2.at fun o e=>(hs'.2 a hne).trans e⟩ fun b o hb e=>hs'.extBut b o (fun h=>hb (by simp [h])) e
 done:=fun s Q E st hQ=>b2G hh st.2 hb st.1 fun h' he'=>hQ h' s.toks fun b o hb e=>he' b o (fun h=>hb (by simp [h])) e
 self:=fun _ _ _ _ st hQ=>b0p st.1 hQ
end
theorem bit_or (m x y:Nat):(m ||| 1 <<< x).testBit y=(m.testBit y || decide (x=y)):=by
 rw [Nat.testBit_or,Nat.one_shiftLeft,Nat.testBit_two_pow]
section
variable {prog:Program} {w:World} {A:Around} {E:Value→Shared→Prop} {s:Shared} {b:Bool}
theorem b2H {R:Result→Shared→Prop} {I S:Addr} {fp wr:List Addr} {n:Nat} {P:Nat→Value→Prop} {St:Nat→Heap→Prop} (W:Walks prog w A.in1 I fp wr n P St) (hSf:S∉fp) (val:Nat→Nat)
  (hval:∀ i v,i < n→P i v→val i < 8∧∃ tk,v=.int (val i:Nat) tk):∀ (k i m:Nat) (s:Shared),n - i=k→i≤n→St i s.heap→a6T b m s.heap S →
   (∀ h' tk m',(∀ c o,c∉S :: wr→s.heap.get? c=some o→h'.get? c=some o)→(∀ x,m'.testBit x=true↔m.testBit x=true∨∃ j,i≤j∧j < n∧val j=x)→a6T b m' h' S→R (.ok (.ret .none)) { s with heap:=h',toks:=tk }) →
   codeAny (model prog w) A (.builtin "set.update.loop" ⟨[.ref S,.ref I],[]⟩) R s:=by
 have hSw:S∉wr:=fun z=>hSf (W.sub _ z)
 intro k
 induction k with
 | zero =>
  intro i m s hk hi st hS hR
  obtain rfl:i=n:=by omega
  refine codeAny_builtin F.entry_set_update_loop ?_
  rw [Around.under_plainId F.plain_set_update_loop _]
  show wpAny _ A.in1 (pyNext (.ref I) >>= fun _=>_) _ _ s
  refine wpAny_bind (W.done s _ _ st fun h' tk kp=>?_)
  show wpAny _ A.in1 (ret Value.none) _ _ _
  refine wpAny_pure (hR h' tk m (fun c o hc e=>kp c o (fun z=>hc (List.mem_cons_of_mem _ z)) e) (fun x=>⟨.inl,fun z=>z.elim id fun ⟨j,h1,h2,_⟩=>by omega⟩) (hS.at fun o e=>kp S o hSw e))
 | succ k ih =>
  intro i m s hk hi st hS hR
  have hlt:i < n:=by omega
  refine codeAny_builtin F.entry_set_update_loop ?_
  rw [Around.under_plainId F.plain_set_update_loop _]
  show wpAny _ A.in1 (pyNext (.ref I) >>= fun _=>_) _ _ s
  refine wpAny_bind (W.item i s _ _ hlt st fun v h1 tk1 hP st1 kp=>?_)
  obtain ⟨h8,tk,rfl⟩:=hval i v hlt hP
  have hS1:a6T b m h1 S:=hS.at fun o e=>kp S o hSw e
  show wpAny _ A.in1 (holding [Value.int (val i:Nat) tk] (setAdd S (.int (val i:Nat) tk)) >>= fun _=>_) _ _ _
  unfold setAdd
  refine wpAny_bind (wpAny_holding (wpAny_holding (wpAny_bind ((intKind prog w).pyHash (k:=((val i:Nat):Int)) (intKind_is _ _ _ _) ?_))))
  refine add_sm (b:=b) (m:=m) (s:={ s with heap:=h1,toks:=tk1+1 }) hS1 h8 fun h2 r sb hS2=>?_
  refine wpAny_pure ⟨plainId_quiet F.plain_set_update_loop _,ih (i+1) _ _ (by omega) hlt (W.frame _ _ _ st1 fun c hc o e=>?_) hS2 fun h' tk' m' kp' hm' hS'=>?_⟩
  ·rw [sb.2 c (fun z=>hSf (z▸hc))]
   exact e
  ·refine hR h' tk' m' (fun c o hc e=>kp' c o hc ?_) (fun x=>?_) hS'
   ·show h2.get? c=some o
    rw [sb.2 c (fun z=>hc (by rw [z];exact List.mem_cons_self))]
    exact kp c o (fun z=>hc (List.mem_cons_of_mem _ z)) e
   ·rw [hm' x,bit_or,Bool.or_eq_true,decide_eq_true_eq]
    constructor
    ·rintro ((z | z) | ⟨j,z1,z2,z3⟩)
     ·exact .inl z
     ·exact .inr ⟨i,Nat.le_refl _,hlt,z⟩
     ·exact .inr ⟨j,by omega,z2,z3⟩
    ·rintro (z | ⟨j,z1,z2,z3⟩)
     ·exact .inl (.inl z)
     ·by_cases e:j=i
      ·subst e
       exact .inl (.inr z3)
      ·exact .inr ⟨j,by omega,z2,z3⟩
def a8W (w:World):Obj:={ cls:=.type "set",dict:=none,data:=.set #[] 0 (.fresh 0 0 (!w.params.followText "set-order")) }
theorem new_sm (a:Value) {Q1:Value→Shared→Prop} (h:Q1 (.ref s.heap.objs.size) { s with heap:=s.heap.push (a8W w) }) :
  codeAny (model prog w) A (.call (.builtin "set.__new__") ⟨[.type "set",a],[]⟩) (wants Q1 E) s:=by
 refine codeAny_of_tree (A:=A) ?_
 show wpAny _ A.in1 (checkBuiltinCall "set.__new__" ⟨[.type "set",a],[]⟩ >>= fun _=>again (.builtin "set.__new__" ⟨[.type "set",a],[]⟩)) _ _ s
 refine wpAny_bind (wpAny_of_eq (PySem.F.newCall_set_1 a) (wpAny_pure ⟨plainId_quiet PySem.F.plain_set_new _,codeAny_builtin PySem.F.entry_set_new ?_⟩))
 rw [Around.under_plainId PySem.F.plain_set_new _]
 unfold Builtin.«set.__new__» Builtin.Frozenset.newClass
 have sbs:=PySem.sub_set_self
 obtain ⟨hp,g,d,tk,os⟩:=s
 dsimp only;wp_walk
 refine wpAny_askSetting (wpAny_pure ?_)
 dsimp only;simp only [newObj]
 exact wpAny_bind (wpAny_alloc (wpAny_pure (wpAny_pure h)))
theorem b2I {h:Heap} {a:Addr} (e:h.get? a=some (a8W w)):a6T (w.params.followText "set-order") 0 h a :=
 ⟨_,#[],0,_,e,⟨rfl,rfl,rfl⟩,rfl,⟨by decide,rfl,rfl,rfl,rfl,.inl ⟨rfl,by decide⟩⟩,⟨rfl,fun e he=>by simp at he⟩⟩
theorem a8O {l:Addr} {items:Array Value} {ns:List Nat} {Q:Value→Shared→Prop} (hh:A.handled=none) (hl:s.heap.IsList l items) (hi:IntsAre items.toList (ns.map Int.ofNat)) (h8:∀ x∈ns,x < 8)
  (h:∀ h' tk m,a6T (w.params.followText "set-order") m h' s.heap.objs.size→(∀ x,m.testBit x=true↔x∈ns)→(∀ c o,s.heap.get? c=some o→h'.get? c=some o)→Q (.ref s.heap.objs.size) { s with heap:=h',toks:=tk }) :
  wpAny (model prog w) A (call (.type "set") [.ref l]) Q E s:=by
 obtain ⟨c,tl,hmro⟩:=PySem.F.called_set.mro
 have hmade:=PySem.F.called_set.made
 have hsub:=PySem.F.called_set.sub
 refine wpAny_call (codeAny_of_tree (A:=A) ?_)
 show wpAny _ _ (callAny (.type "set") _) _ _ _
 refine wpAny_pure ⟨Code.quiet_builtin _ (by decide +kernel),codeAny_builtin PySem.F.entry_type_call ?_⟩
 rw [Around.under_plain (weight_type_call_type "set" [.ref l] []) rfl]
 have h1:=PySem.F.called_set.notType
 have h2:=PySem.F.called_set.canCreate
 have hct:=PySem.F.typeCall_set_1 (.ref l)
 repeat (any_goals (first | assumption | wp_step))
 refine codeAny_mono (new_sm (.ref l) (E:=E) (Q1:=fun obj s1=>obj=.ref s.heap.objs.size∧s1={ s with heap:=s.heap.push (a8W w) }) ⟨rfl,rfl⟩) fun r s1 hr=>?_
 cases r with
 | error e=>exact hr
 | ok fl =>
  cases fl with
  | ret obj =>
   obtain ⟨rfl,rfl⟩:=hr
   have hS:(s.heap.push (a8W w)).get? s.heap.objs.size=some (a8W w):=Heap.get?_push_size _ rfl
   have hT:Shared.TypeIs { s with heap:=s.heap.push (a8W w) } (.ref s.heap.objs.size) "set":=⟨_,hS,rfl⟩
   have hli:=PySem.F.called_set.init.lookup
   have hbi:=PySem.F.called_set.init.bind (.ref s.heap.objs.size)
   repeat (any_goals (first | assumption | wp_step))
   refine codeAny_mono (codeAny_call_builtin (R:=wants (fun r s2=>r=.none∧∃ h' tk m,s2={ s with heap:=h',toks:=tk }∧a6T (w.params.followText "set-order") m h' s.heap.objs.size∧(∀ x,m.testBit x=true↔x∈ns)∧(∀ c o,s.heap.get? c=some o→h'.get? c=some o)) E) PySem.F.called_set.init.plain PySem.F.entry_set_init (check_set_init_1 hT ?_)) fun r2 s2 hr2=>?_
   ·obtain ⟨ol,hol,hcl,nl,hdl⟩:=hl
    obtain ⟨ocls,odict,odata,oslots⟩:=ol
    simp only at hcl hdl
    subst hcl hdl
    have hol1:(s.heap.push (a8W w)).get? l=some { cls:=.type "list",dict:=odict,data:=.seq items nl,slots:=oslots }:=Heap.get?_push_of_some _ hol
    have q1:=PySem.F.sub_list_set
    have q2:=PySem.F.sub_list_frozenset
    have q3:(Value.type "list" == Value.type "dict")=false:=by decide
    have hl1:(s.heap.push (a8W w)).IsList l items:=⟨_,hol1,rfl,nl,rfl⟩
    unfold Builtin.«set.__init__» noKeywords Builtin.Frozenset.updateFrom
    generalize hPI:pyIter=PI
    wp_walk
    subst hPI
    refine wpAny_pyIter_list hl1 (wpAny_bind (wpAny_runValue ?_))
    have lS:l < s.heap.objs.size:=Heap.lt_size hol
    have ne:l≠(s.heap.push (a8W w)).objs.size:=by rw [Heap.size_push];exact Nat.ne_of_lt (Nat.lt_succ_of_lt lS)
    have nf:s.heap.objs.size∉[(s.heap.push (a8W w)).objs.size,l]:=by
     rw [Heap.size_push]
     intro z
     rcases List.mem_cons.mp z with z | z
     ·exact absurd z (Nat.ne_of_lt (Nat.lt_succ_self _))
     ·exact absurd (List.mem_singleton.mp z) (Nat.ne_of_gt lS)
    have len:items.size=ns.length:=by
     have:=IntsAre.length hi
     simpa using this
    refine b2H (b:=w.params.followText "set-order") (Walks.list (by simp [hh]) _ l ne items) nf (fun i=>ns.getD i 0) (fun i v hlt hv=>?_) (items.size - 0) 0 0 _ rfl (Nat.zero_le _) ⟨⟨_,Heap.get?_push_size _ rfl,rfl,rfl⟩,hl1.push _⟩ (b2I (Heap.get?_push_of_some _ hS)) fun h' tk m kp hm hS'=>?_
    ·have hl:i < ns.length:=by rw [←len];exact hlt
     obtain ⟨tk,e⟩:=IntsAre.int_at hi i v (by rw [Array.getElem?_toList];exact hv)
     have e1:ns.getD i 0=ns[i]:=by simp [List.getD,List.getElem?_eq_getElem hl]
     have e2:(ns.map Int.ofNat).getD i 0=(ns[i]:Int):=by simp [List.getD,List.getElem?_eq_getElem hl]
     refine ⟨by show ns.getD i 0 < 8;rw [e1];exact h8 _ (List.getElem_mem hl),tk,?_⟩
     show v=.int ((ns.getD i 0:Nat):Int) tk
     rw [e,e1,e2]
    ·show wpAny _ _ _ _ _ _
     refine wpAny_pure (show wpAny _ _ (ret Value.none) _ _ _ from wpAny_pure ⟨rfl,h',tk,m,rfl,hS',fun x=>?_,fun c o e=>kp c o (fun z=>?_) (Heap.get?_push_of_some _ (Heap.get?_push_of_some _ e))⟩)
     ·rw [hm x]
      constructor
      ·rintro (z | ⟨j,_,z2,rfl⟩)
       ·simp at z
       ·have hl:j < ns.length:=by rw [←len];exact z2
        have e1:ns.getD j 0=ns[j]:=by simp [List.getD,List.getElem?_eq_getElem hl]
        rw [e1]
        exact List.getElem_mem hl
      ·intro z
       obtain ⟨j,hl,e1⟩:=List.mem_iff_getElem.mp z
       exact .inr ⟨j,Nat.zero_le _,by rw [len];exact hl,by simp [List.getD,List.getElem?_eq_getElem hl,e1]⟩
     ·have lc:=Heap.lt_size e
      rcases List.mem_cons.mp z with z | z
      ·exact absurd z (Nat.ne_of_lt lc)
      ·have:=List.mem_singleton.mp z
       rw [Heap.size_push] at this
       exact absurd this (Nat.ne_of_lt (Nat.lt_succ_of_lt lc))
   ·cases r2 with
    | error e=>exact hr2
    | ok fl2 =>
     cases fl2 with
     | ret r =>
      obtain ⟨rfl,h',tk,m,rfl,hS',hm,hk'⟩:=hr2
      repeat (any_goals (first | assumption | wp_step))
      exact h _ _ m hS' hm hk'
     | _=>exact hr2.elim
  | _=>exact hr.elim
end
section
variable {prog:Program} {w:World} {A:Around} {E:Value→Shared→Prop} {s:Shared} {b:Bool} {m ep:Nat} {es:Array (Int × Value)} {t:SetTable} {a it:Addr}
theorem b0r {r:Addr} {Q:Bool→Shared→Prop} (hT:s.TypeIs (.ref r) "set") (h:Q false s):wpAny (model prog w) A (Builtin.List.listLengthHint (.ref r)) Q E s:=by
 unfold Builtin.List.listLengthHint
 refine wpAny_bind (wpAny_specialOf hT PySem.F.slot_set_len.lookup ?_)
 generalize hid:("set.__len__":String)=id0
 wp_delta
 rw [show splitId id0=some ("set","__len__") from by subst hid;decide +kernel]
 subst hid
 refine wpAny_bind (wpAny_isInstance (T:="set") (b:=true) hT (by rw [isSubtype_type];kernel_rfl) ?_)
 refine wpAny_ite_split (fun z=>absurd z (by decide)) (fun _=>wpAny_ite_split (fun _=>?_) (fun z=>absurd (by decide +kernel) z))
 exact wpAny_bind (wpAny_typeOf hT (wpAny_pure h))
theorem b2J (hb:b=w.params.followText "set-order"):KdlSrc prog w "set" a a es.size (fun i v=>∃ e,(a5h w a ep es)[i]?=some e∧v=e.2) (fun h=>a6U b m h a es ep t) where
 type:=fun s ⟨o,ho,hx,_⟩=>⟨o,ho,hx.1⟩
 there:=fun h ⟨o,ho,_⟩=>⟨Heap.lt_size ho,Heap.lt_size ho⟩
 keep:=fun h h' x k=>x.at fun o e=>k a (.inl rfl) o e
 notList:=by decide
 notTuple:=by decide
 hint:=fun A E s Q ⟨o,ho,hx,_⟩ h=>b0r ⟨o,ho,hx.1⟩ h
 iter:=fun A s hh hok=>by
  have lt:a < s.heap.objs.size:=by obtain ⟨o,ho,_⟩:=hok;exact Heap.lt_size ho
  exact ⟨_,_,fun E Q hQ=>b2F hok hQ,b0q (m:=m) hh _ (Nat.ne_of_lt lt) hb,⟨_,0,Heap.get?_push_size _ rfl,rfl,rfl,fun _=>rfl⟩,hok.at fun o e=>Heap.get?_push_of_some _ e⟩
theorem a5F {T:String} {r d:Addr} {n:Nat} {P:Nat→Value→Prop} {OK:Heap→Prop} {Q:List Value→Shared→Prop} (K:KdlSrc prog w T r d n P OK) (hh:A.handled=none) (hok:OK s.heap) (hn:n≤sizeLine)
  (h:∀ h' tk (acc:Array Value),(∀ b o,s.heap.get? b=some o→h'.get? b=some o)→ItemsOf P acc n→Q acc.toList { s with heap:=h',toks:=tk }):wpAny (model prog w) A (collect (.ref r)) Q E s:=by
 have lr:=(K.there _ hok).1
 have ld:=(K.there _ hok).2
 unfold collect
 refine wpAny_bind (wpAny_runValue (codeAny_builtin F.entry_proto_collect ?_))
 rw [Around.under_plainId F.plain_proto_collect _]
 show wpAny _ A.in1 (newList [] >>= fun l=>again (.builtin "list.__iadd__" ⟨[l,.ref r],[]⟩)) _ _ s
 refine wpAny_bind (wpAny_newObj_type (wpAny_pure ⟨plainId_quiet F.plain_list_iadd _,codeAny_builtin F.entry_list_iadd ?_⟩))
 rw [Around.under_plainId F.plain_list_iadd _]
 show wpAny _ A.in1 (Builtin.List.listExtendWith (.ref s.heap.objs.size) (.ref r) (.ref s.heap.objs.size)) _ _ _
 have hS0:(s.heap.push { cls:=.type "list",data:=.seq #[] }).get? s.heap.objs.size=some { cls:=.type "list",data:=.seq #[] }:=Heap.get?_push_size _ rfl
 have fin:∀ s':Shared,(∃ acc c,s'.heap.get? s.heap.objs.size=some { cls:=.type "list",dict:=none,data:=.seq acc c,slots:=#[] }∧Q acc.toList s') →
   wpAny (model prog w) A (match Value.ref s.heap.objs.size with
    | .ref a=>do
     let o ←load a
     match o.data with
     | .seq xs _=>pure xs.toList
     | _=>unsupported "internal:collect"
    | _=>unsupported "internal:collect") Q E s':=fun s' ⟨acc,c,hS,q⟩=>by
  show wpAny _ A (load s.heap.objs.size >>= _) _ _ _
  exact wpAny_bind (wpAny_load hS (wpAny_pure q))
 refine wpAny_mono (kdl_extend (s:={ s with heap:=s.heap.push { cls:=.type "list",data:=.seq #[] } }) (A:=A)
  (R:=fun r s'=>r=.ok (.ret (.ref s.heap.objs.size))∧∃ acc c,s'.heap.get? s.heap.objs.size=some { cls:=.type "list",dict:=none,data:=.seq acc c,slots:=#[] }∧Q acc.toList s')
  K hh (K.keep _ _ hok fun c _ o e=>Heap.get?_push_of_some _ e) s.heap.objs.size (Nat.ne_of_gt lr) (Nat.ne_of_gt ld) (.ref s.heap.objs.size) 0 hS0 (fun h' tk acc c kp hS hacc=>⟨rfl,acc,c,hS,?_⟩) hn) (fun fn s' hz=>?_) (fun e s' hz=>?_)
 ·exact h h' tk acc (fun b o e=>kp b o (Nat.ne_of_lt (Heap.lt_size e)) (Heap.get?_push_of_some _ e)) hacc
 ·rcases fn with f | c'
  ·obtain ⟨e,z⟩:=hz
   cases e
   exact fin s' z
  ·refine ⟨hz.1,codeAny_mono hz.2 fun r s'' z=>?_⟩
   obtain ⟨e,z⟩:=z
   subst e
   exact fin s'' z
 ·obtain ⟨z,_⟩:=hz
  cases z
theorem b0s (Es:SmE m es) {vs:List Value} (h:vs=(a5h w a ep es).toList.map (·.2)):∃ ns:List Int,IntsAre vs ns∧ns.Perm ((a0K m).map Int.ofNat):=by
 refine ⟨(a5h w a ep es).toList.map (·.1),?_,?_⟩
 ·subst h
  have all:∀ e∈(a5h w a ep es).toList,∃ tk,e.2=.int e.1 tk:=fun e he=>Es.int e (a4y.mem_iff.mp he)
  generalize (a5h w a ep es).toList=l at all
  induction l with
  | nil=>exact .nil
  | cons e l ih =>
   obtain ⟨tk,et⟩:=all e (.head _)
   rw [List.map_cons,List.map_cons,et]
   exact .cons _ _ (ih fun e he=>all e (.tail _ he))
 ·rw [←Es.vals]
  exact a4y.map _
end
def SetO (w:World) (a:Addr) (m:Nat):HO:=.ext fun h=>a6T (w.params.followText "set-order") m h a
def rSetS (w:World):List V→Hp→VK→Prop:=fun xs H Q=>∃ (l:Addr) (ns:List Nat),xs=[.ref l]∧H l=some (.lst (ns.map fun n=>V.int (Int.ofNat n)))∧(∀ x∈ns,x < 8) ∧
 ∀ p H' m,a0C H H'→H p=none→H' p=some (SetO w p m)→(∀ x,m.testBit x=true↔x∈ns)→Q (.ref p) H'
theorem a8P {X:Cx} (hc:X.calm=true):a3D X (.type "set") (rSetS X.w):=by
 intro pins s σ H xs us Q I r h
 obtain ⟨l,ns,rfl,e,h8,q⟩:=h
 obtain ⟨u,rfl,rx⟩:=a4I r
 cases rx
 obtain ⟨_,its,n,rv,he⟩:=(show a1n X.prog X.w H s.heap l (.lst (ns.map fun n=>V.int (Int.ofNat n))) from I.hok l _ e)
 have hI:IntsAre its (ns.map Int.ofNat):=a3O (by rw [List.map_map];exact rv)
 have hLn:H s.heap.objs.size=none:=I.hok.fresh (Nat.le_refl _)
 refine a8O (I.ok.hd hc) ⟨_,he,rfl,n,rfl⟩ hI h8 fun h' tk m hS hm kp=>?_
 have I2:Inv X pins σ (upd H s.heap.objs.size (SetO X.w s.heap.objs.size m)) { s with heap:=h',toks:=tk }:=I.laid (t':=tk) kp (Nat.le_refl _) ⟨hS,by obtain ⟨o,_,_,_,ho,_⟩:=hS;exact ⟨o,ho⟩,fun h1 h2 z k=>z.at k⟩
 exact ⟨.ref s.heap.objs.size,_,I2,rfl,q _ _ m (a0h hLn _) hLn a0d hm⟩
def rSortS (w:World):List V→Hp→VK→Prop:=fun xs H Q=>∃ (d:Addr) (m:Nat),xs=[.ref d]∧H d=some (SetO w d m)∧∀ p H',a0C H H'→H p=none→H' p=some (.lst ((a0K m).map fun n=>V.int (Int.ofNat n)))→Q (.ref p) H'
theorem a8Q (m:Nat):((a0K m).map Int.ofNat).Pairwise (·≤·):=by
 rw [List.pairwise_map]
 unfold a0K
 refine List.Pairwise.filter _ ?_
 exact (List.pairwise_lt_range (n:=8)).imp fun h=>by
  show ((_:Nat):Int)≤((_:Nat):Int)
  omega
theorem b2K {X:Cx} (hc:X.calm=true):a3D X (.builtin "sorted") (rSortS X.w):=by
 intro pins s σ H xs us Q I r h
 obtain ⟨d,m,rfl,e,q⟩:=h
 obtain ⟨u,rfl,rx⟩:=a4I r
 cases rx
 obtain ⟨⟨o,es,ep,t,ho,hx,hd,T,Es⟩,_,_⟩:=(show a1n X.prog X.w H s.heap d (SetO X.w d m) from I.hok d _ e)
 have h8:=a2R m
 have sz:=Es.size
 refine Calls.call_function_entry kind_sorted plain_sorted entry_sorted (args_sorted1 _) ?_
 unfold Builtin.«sorted»
 refine wpAny_bind (m:=checkCount "sorted" 1 1 _) (wpAny_pure ?_)
 refine wpAny_bind (a5F (b2J (m:=m) (es:=es) (ep:=ep) (t:=t) rfl) (I.ok.hd hc) ⟨o,ho,hx,hd,T,Es⟩ (by rw [sizeLine_eq];omega) fun h1 tk1 acc k1 hacc=>?_)
 have hvs:acc.toList=(a5h X.w d ep es).toList.map (·.2):=by
  refine List.ext_getElem? fun i=>?_
  rw [Array.getElem?_toList,List.getElem?_map,Array.getElem?_toList]
  cases hi:acc[i]? with
  | none =>
   have:acc.size≤i:=Array.getElem?_eq_none_iff.mp hi
   rw [Array.getElem?_eq_none (by rw [a2x,←hacc.1];exact this)]
   rfl
  | some v =>
   obtain ⟨e,he,rfl⟩:=hacc.2 i v hi
   rw [he]
   rfl
 obtain ⟨ns,hI,pm0⟩:=b0s Es hvs
 have len:acc.toList.length=es.size:=by rw [hvs,List.length_map,Array.length_toList,a2x]
 generalize acc.toList=its at hI len ⊢
 have li:=a2d hI
 refine wpAny_bind (wpAny_newList ?_ (by show its.length≤sizeLine;rw [sizeLine_eq];omega))
 show wpAny _ _ _ _ _ { s with heap:=h1.push (seqObj "list" its.toArray 0),toks:=tk1 }
 have hoL:(h1.push (seqObj "list" its.toArray 0)).get? h1.objs.size=some (seqObj "list" its.toArray 0):=Heap.get?_push_size _ rfl
 have nL:∀ b o,h1.get? b=some o→b≠h1.objs.size:=fun b o e=>Nat.ne_of_lt (Heap.lt_size e)
 have I1:Inv X pins σ H { s with heap:=h1,toks:=tk1 }:=I.kept k1
 have hLn:H h1.objs.size=none:=I1.hok.fresh (Nat.le_refl _)
 refine wpAny_bind (wpAny_holding (wpAny_call_entry slot_list_sort ⟨_,hoL,rfl⟩ entry_list_sort (list_sort_tree (s:={ s with heap:=h1.push (seqObj "list" its.toArray 0),toks:=tk1 }) hoL hI (by omega) fun out ns' ho' pm srt'=>⟨_,rfl,?_⟩) (args_list_sort _)))
 have es':ns'=(a0K m).map Int.ofNat:=a7K (pm.trans pm0) srt' (a8Q m)
 subst es'
 have hp:∃ c,(sortedHeap (h1.push (seqObj "list" its.toArray 0)) h1.objs.size its out).get? h1.objs.size=some { cls:=.type "list",data:=.seq out.toList.toArray c }:=by
  unfold sortedHeap
  have z1:=get?_update_seq hoL (fun _=>#[])
  have z3:=Heap.get?_push_of_some (seqObj "list" #[] 0) (Heap.get?_push_of_some (seqObj "tuple" its.toArray 0) z1)
  exact ⟨_,get?_update_seq z3 (fun _=>out)⟩
 obtain ⟨c,hp⟩:=hp
 have kh:∀ b o,h1.get? b=some o→(sortedHeap (h1.push (seqObj "list" its.toArray 0)) h1.objs.size its out).get? b=some o:=fun b o e=>by
  have ne:=nL b o e
  unfold sortedHeap
  rw [Heap.get?_update_ne _ _ _ _ ne]
  refine Heap.get?_push_of_some _ (Heap.get?_push_of_some _ ?_)
  rw [Heap.get?_update_ne _ _ _ _ ne]
  exact Heap.get?_push_of_some _ e
 have rv:a0O ((a0K m).map fun n=>V.int (Int.ofNat n)) out.toList:=by
  have:=a6H ho'
  rw [List.map_map] at this
  exact this
 have I2:Inv X pins σ (upd H h1.objs.size (.lst ((a0K m).map fun n=>V.int (Int.ofNat n)))) { s with heap:=sortedHeap (h1.push (seqObj "list" its.toArray 0)) h1.objs.size its out,toks:=tk1 }:=I1.laid (t':=tk1) kh (Nat.le_refl _) ⟨by rw [List.length_map,sizeLine_eq];omega,_,c,rv,hp⟩
 exact wpAny_pure ⟨_,rfl,.ref h1.objs.size,_,I2,rfl,q _ _ (a0h hLn _) hLn a0d⟩
end L2
namespace K47
open PySem L2
theorem b1a {X:Cx}:OpR X (compareOp .Is) (fun x y H Q=>∃ b c:Bool,x=.bl b∧y=.bl c∧Q (.bl (b == c)) H):=by
 intro pins s σ H x y v u Q I rx ry h
 obtain ⟨b,c,rfl,rfl,q⟩:=h
 cases rx
 cases ry
 exact PyProof.Rows.is_bool (a0J I q rfl)
theorem a4A {X:Cx}:OpR X (compareOp .IsNot) (fun x y H Q=>∃ b c:Bool,x=.bl b∧y=.bl c∧Q (.bl (b != c)) H):=by
 intro pins s σ H x y v u Q I rx ry h
 obtain ⟨b,c,rfl,rfl,q⟩:=h
 cases rx
 cases ry
 exact PyProof.Rows.isnot_bool (a0J I q rfl)
def K2 (H H':Hp):Prop:=∀ b o,(∀ qs,o≠.tbl qs)→H b=some o→H' b=some o
theorem K2.trans {H H1 H2:Hp} (a:K2 H H1) (b:K2 H1 H2):K2 H H2:=fun x o n e=>b x o n (a x o n e)
theorem K2.of {H H':Hp} (s:a0C H H'):K2 H H':=fun b o _ e=>s b o e
theorem K2.refl {H:Hp}:K2 H H:=fun _ _ _ e=>e
theorem K2.t {H H':Hp} (k:K2 H H') {b:Addr} {zs:List V} (e:H b=some (.tup zs)):H' b=some (.tup zs):=k b _ (by intro q z;cases z) e
theorem K2.l {H H':Hp} (k:K2 H H') {b:Addr} {zs:List V} (e:H b=some (.lst zs)):H' b=some (.lst zs):=k b _ (by intro q z;cases z) e
theorem a0N.tb' {H:Hp} {T:Addr} {lpos:Pos} {q:Str} (x:a0N H T lpos q):∃ ps,H T=some (.tbl ps):=by
 rcases x with e | ⟨c,e,_⟩
 ·exact ⟨_,e⟩
 ·exact ⟨_,e⟩
theorem K2.ofT {H H':Hp} {T:Addr} {lpos:Pos} {q:Str} (x:a0N H T lpos q) (s:a0I T H H'):K2 H H':=fun b o n e=>by
 obtain ⟨qs,eq⟩:=a0N.tb' x
 refine s b o (fun z=>?_) e
 rw [z,eq] at e
 exact n _ (Option.some.inj e).symm
theorem a0N.oth {H H':Hp} {T T':Addr} {lp lp':Pos} {q q':Str} (ne:T≠T') (x:a0N H T lp q) (y:a0N H T' lp' q') (s:a0I T' H H'):a0N H' T lp q:=by
 have k:=K2.ofT y s
 rcases x with e | ⟨c,e,ec⟩
 ·exact .inl (s _ _ ne e)
 ·exact .inr ⟨c,s _ _ ne e,k _ _ (by intro qs z;unfold cdA at z;cases z) ec⟩
structure Bk (T U:Addr) (H:Hp):Prop where
 a:a0N H T a2j a4C
 b:a0N H U Kp.a2j Kp.a4C
theorem Bk.same {T U:Addr} {H H':Hp} (h:Bk T U H) (s:a0C H H'):Bk T U H':=⟨a0N.same s h.a,a0N.same s h.b⟩
theorem Bk.one {T U:Addr} {H H':Hp} (ne:T≠U) (h:Bk T U H) (s:a0I T H H') (t:a4Z T H H'):Bk T U H'∧K2 H H':=⟨⟨t.1,a0N.oth (Ne.symm ne) h.b h.a s⟩,K2.ofT h.a s⟩
theorem Bk.two {T U:Addr} {H H':Hp} (ne:T≠U) (h:Bk T U H) (s:a0I U H H') (t:Kp.a4Z U H H'):Bk T U H'∧K2 H H':=⟨⟨a0N.oth ne h.a h.b s,t.1⟩,K2.ofT h.b s⟩
theorem StO.keep {H H':Hp} {d:Addr} {da:Nat→Addr} {ra:Nat→Nat→Addr} {k n:Nat} {F:Nat→Nat→Nat→OI} (h:StO H d da ra k n F) (s:K2 H H'):StO H' d da ra k n F:=⟨s.l h.o,fun i hi=>⟨s.l (h.r i hi).o,fun j hj=>s.l ((h.r i hi).r j hj)⟩⟩
structure Fo (H:Hp) (ps ws:List Int) (tp:Nat) (a:Addr) (d ca:Addr) (da:Nat→Addr) (ra:Nat→Nat→Addr) (xs:List V) (c:CT.Code) (v:Int):Prop where
 o:H a=some (.tup [.int v,.ref ca,.ref d])
 st:StO H d da ra (tp+1) ws.length (S ps ws)
 cd:H ca=some (.tup xs)
 wx:Ws H xs c
 ev:S ps ws tp 0 ws.length=some v
 kp:E.Kpt ps.length ws.length c
 wd:∀ u∈c,u.length≤tp
 co:CT.co ps ws 0 c=v
 bc:c∈bcs ps.length tp 0 ws.length
theorem Fo.keep {H H':Hp} {ps ws:List Int} {tp:Nat} {a d ca:Addr} {da:Nat→Addr} {ra:Nat→Nat→Addr} {xs:List V} {c:CT.Code} {v:Int} (h:Fo H ps ws tp a d ca da ra xs c v) (s:K2 H H'):Fo H' ps ws tp a d ca da ra xs c v :=
 ⟨s.t h.o,h.st.keep s,s.t h.cd,Paired.mapP h.wx (fun x y ⟨b,zs,e1,e2,e3⟩=>⟨b,zs,e1,s.t e2,e3⟩),h.ev,h.kp,h.wd,h.co,h.bc⟩
theorem FndB.fo {H:Hp} {a d:Addr} {ps ws:List Int} {tp:Nat} {da:Nat→Addr} {ra:Nat→Nat→Addr} (h:FndB H a d ps ws tp) (nu:Num ps ws) (st:StO H d da ra (tp+1) ws.length (S ps ws)) (sn:S ps ws tp 0 ws.length≠none):∃ ca xs c v,Fo H ps ws tp a d ca da ra xs c v:=by
 rcases h with ⟨y,_⟩ | ⟨_,ca,xs,c,h,t,ho,hc,hx,ok,en⟩
 ·exact absurd y sn
 have p2:=nu.p2
 obtain ⟨_,z⟩:=kc_all (ps:=ps) (ws:=ws) en.tb (by omega) ok.k
 obtain ⟨l1,l2,l3⟩:=z (Nat.le_refl _) (by omega) sn
 exact ⟨ca,xs,c,CT.co ps ws 0 c,by rw [←l3] at ho;exact ho,st,hc,hx,l3.symm,⟨by omega,kc_kpt ok.k,fun u hu=>E.a5c.mpr (kc_let ok.k u hu)⟩,ok.wd,rfl,l2⟩
theorem FndB.no {H:Hp} {a d:Addr} {ps ws:List Int} {tp:Nat} (h:FndB H a d ps ws tp) (sn:S ps ws tp 0 ws.length=none):H a=some (.tup [.non,.non,.ref d]):=by
 rcases h with ⟨_,y⟩ | ⟨y,_⟩
 ·exact y
 ·exact absurd sn y
theorem Fo.len {H:Hp} {ps ws:List Int} {tp:Nat} {a d ca:Addr} {da:Nat→Addr} {ra:Nat→Nat→Addr} {xs:List V} {c:CT.Code} {v:Int} (h:Fo H ps ws tp a d ca da ra xs c v) (nu:Num ps ws) (t24:tp≤24):c.length≤100∧∀ u∈c,u.length≤1000:=⟨by rw [h.kp.ln];have:=nu.w20;omega,fun u hu=>by have:=h.wd u hu;omega⟩
section
variable {P':Program} {w:World} {K:PySem.W.Frag} {mg:Str→Option Value} {base:Heap} {f:Addr} {fd:FuncData}
abbrev NNr:List Str:=["prices","weights","top","least_v","code","stairs"]
abbrev PNr:List Str:=["prices","weights","top"]
def spNr (T U:Addr):Sp:=fun vs H Q _=>∃ (p q:Addr) (ps ws:List Int) (tp:Nat),vs=[.ref p,.ref q,.int (tp:Int)]∧TW H p ps∧TW H q ws∧Num ps ws∧Po ps∧Po ws∧tp≤24∧S ps ws tp 0 ws.length=none∧Bk T U H∧∀ H',Bk T U H'→K2 H H'→Q (.bl true) H'
theorem scNr:a0r NNr PNr (a0b a2N):=⟨rfl,rfl,rfl,by decide +kernel,rfl,by decide +kernel,by decide +kernel⟩
theorem ok_nr {T U:Addr} (ne:T≠U) {k:Nat} (F:Fun K "_law_none_right" "_law_none_right" a2N f fd) (GB:Fns P' w K mg base PCb "cheapest_bounded" (spCb T) k) (GS:Fns P' w K mg base PSl "shows_none" spSn k):a0W P' w K mg base CX0 (k+1) f fd PNr (spNr T U):=by
 refine F.ok (k:=k) scNr (fun vs H Q E h=>?_) (fun cdv A outer s H vs Q E hr h=>?_)
 ·obtain ⟨p,q,ps,ws,tp,rfl,_⟩:=h
  rfl
 obtain ⟨p,q,ps,ws,tp,rfl,hp,hq,nu,pp,pw,t24,sn,bk,qq⟩:=h
 refine ⟨_,a0e (a3b (a0k GB.ok hr (by rfl) GB.m GB.kp GB.b .nil a0A (a0a (pv 0) (a0a (pv 1) (a0a (pv 2) (a0c))))) (a6Z rfl (a1u (a0H (i:=3) scNr.nd rfl (Or.inl rfl)) (a1u (a0H (i:=4) scNr.nd rfl (Or.inl rfl)) (a1u (a0H (i:=5) scNr.nd rfl (Or.inl rfl)) (a5j))))))
   (a0e (a0Y (PW.pt (a6n (a0G a5l (pv 3) (a1m) (nomark _)) (a3I (a0G a5l (pv 4) (a1m) (nomark _))))) (a0g (a0q a1C)) (a0B))
   (a0g (a0q (a1P b1a (a0k GS.ok hr (by rfl) GS.m GS.kp GS.b .nil a0A (a0a (pv 0) (a0a (pv 1) (a0a (pv 2) (a0a (pv 5) (a0c)))))) (a1C) (nomark _))))),?_⟩
 refine ⟨_,rfl,_,rfl,_,rfl,p,q,ps,ws,tp,rfl,hp,hq,nu,pp,pw,t24,bk.a,fun fa d da ra H1 sT tt st fn=>?_⟩
 obtain ⟨bk1,k1⟩:=bk.one ne sT tt
 have ho:=fn.no sn
 refine ⟨fa,_,rfl,SqT.of ho,rfl,_,_,rfl,_,_,rfl,_,_,rfl,rfl,?_⟩
 refine ⟨_,rfl,rfl,_,rfl,a2V ⟨_,rfl,rfl,_,rfl,a2V ?_⟩⟩
 refine ⟨_,rfl,_,rfl,_,rfl,_,rfl,p,q,d,ps,ws,tp,da,ra,rfl,k1.t hp,k1.t hq,nu,t24,st,fun H2 s2=>?_⟩
 refine ⟨_,_,rfl,rfl,?_⟩
 rw [decide_eq_true sn]
 exact qq H2 (bk1.same s2) (k1.trans (K2.of s2))
abbrev NTr:List Str:=["prices","weights","top","found","least_v","code","stairs"]
abbrev PTr:List Str:=["prices","weights","top","found"]
def spTr:Sp:=fun vs H Q _=>∃ (p q:Addr) (ps ws:List Int) (tp:Nat) (a d ca:Addr) (da:Nat→Addr) (ra:Nat→Nat→Addr) (xs:List V) (c:CT.Code) (v:Int),vs=[.ref p,.ref q,.int (tp:Int),.ref a]∧TW H p ps∧TW H q ws∧Num ps ws∧tp≤24∧Fo H ps ws tp a d ca da ra xs c v∧∀ H',a0C H H'→Q (.bl true) H'
theorem scTr:a0r NTr PTr (a0b a2O):=⟨rfl,rfl,rfl,by decide +kernel,rfl,by decide +kernel,by decide +kernel⟩
theorem ok_tr {k:Nat} (F:Fun K "_law_told_right" "_law_told_right" a2O f fd) (GS:Fns P' w K mg base PSl "shows_none" spSn k) (GB:Fns P' w K mg base PSb "shows_bounded" spSb k):a0W P' w K mg base CX0 (k+1) f fd PTr spTr:=by
 refine F.ok (k:=k) scTr (fun vs H Q E h=>?_) (fun cdv A outer s H vs Q E hr h=>?_)
 ·obtain ⟨p,q,ps,ws,tp,a,d,ca,da,ra,xs,c,v,rfl,_⟩:=h
  rfl
 obtain ⟨p,q,ps,ws,tp,a,d,ca,da,ra,xs,c,v,rfl,hp,hq,nu,t24,fo,qq⟩:=h
 obtain ⟨lc,lw⟩:=fo.len nu t24
 refine ⟨_,a0e (a3b (pv 3) (a6Z rfl (a1u (a0H (i:=4) scTr.nd rfl (Or.inl rfl)) (a1u (a0H (i:=5) scTr.nd rfl (Or.inl rfl)) (a1u (a0H (i:=6) scTr.nd rfl (Or.inl rfl)) (a5j))))))
   (a0e (a0Y (PW.pt (a6n (a0G b0z (pv 4) (a1m) (nomark _)) (a3I (a0G a4A (a0k GS.ok hr (by rfl) GS.m GS.kp GS.b .nil a0A (a0a (pv 0) (a0a (pv 1) (a0a (pv 2) (a0a (pv 6) (a0c)))))) (a1C) (nomark _))))) (a0g (a0q a1C)) (a0B))
   (a0g (a0q (a1P b1a (a0k GB.ok hr (by rfl) GB.m GB.kp GB.b .nil a0A (a0a (pv 0) (a0a (pv 1) (a0a (pv 2) (a0a (pv 5) (a0a (pv 6) (a0c))))))) (a1C) (nomark _))))),?_⟩
 refine ⟨_,rfl,a,_,rfl,SqT.of fo.o,rfl,_,_,rfl,_,_,rfl,_,_,rfl,rfl,?_⟩
 refine ⟨_,rfl,rfl,_,rfl,a2V ?_⟩
 refine ⟨_,rfl,_,rfl,_,rfl,_,rfl,p,q,d,ps,ws,tp,da,ra,rfl,hp,hq,nu,t24,fo.st,fun H2 s2=>?_⟩
 have f2:=fo.keep (K2.of s2)
 refine ⟨_,_,rfl,rfl,_,rfl,?_⟩
 rw [decide_eq_false (by rw [fo.ev];intro z;cases z)]
 refine a2V ?_
 refine ⟨_,rfl,_,rfl,_,rfl,_,rfl,_,rfl,p,q,d,ca,ps,ws,tp,da,ra,xs,c,v,rfl,s2 _ _ hp,s2 _ _ hq,nu,t24,f2.st,f2.ev,f2.cd,f2.wx,lc,lw,fun b H3 s3 hb=>?_⟩
 have:b=true:=hb.mpr ⟨f2.kp,f2.wd,by rw [f2.co];exact Int.le_refl _⟩
 subst this
 exact ⟨_,_,rfl,rfl,qq H3 (s2.trans s3)⟩
end
theorem b_set:bootBuiltins "set"=some (.type "set"):=by decide +kernel
def lts:List Int:=[2,2,2,3]
theorem lts_of:∀ q∈lts,∃ L:Nat,q=(L:Int)∧2≤L∧L≤3:=by
 intro q hq
 unfold lts at hq
 simp only [List.mem_cons,List.not_mem_nil,or_false] at hq
 rcases hq with rfl | rfl | rfl | rfl
 ·exact ⟨2,rfl,by decide,by decide⟩
 ·exact ⟨2,rfl,by decide,by decide⟩
 ·exact ⟨2,rfl,by decide,by decide⟩
 ·exact ⟨3,rfl,by decide,by decide⟩
theorem pow_le {L n t:Nat} (hL:2≤L) (n6:n≤6) (h:0 < t→L ^ (t - 1) < n):t≤3:=by
 refine Decidable.byContradiction fun z=>?_
 have h1:=h (by omega)
 have h2:2 ^ 3≤2 ^ (t - 1):=Nat.pow_le_pow_right (by decide) (by omega)
 have h3:2 ^ (t - 1)≤L ^ (t - 1):=Nat.pow_le_pow_left hL _
 omega
theorem Num.rev {ps ws:List Int} (h:Num ps ws):Num ps.reverse ws.reverse:=⟨by rw [List.length_reverse];exact h.p2,by rw [List.length_reverse];exact h.p10,by rw [List.length_reverse];exact h.w1,by rw [List.length_reverse];exact h.w20,fun x hx=>h.bp x (List.mem_reverse.mp hx),fun x hx=>h.bw x (List.mem_reverse.mp hx)⟩
theorem b2L {m i j x y:Nat} (h1:(a0K m)[i]?=some x) (h2:(a0K m)[j]?=some y) (h:i < j):x < y:=by
 have pw:(a0K m).Pairwise (· < ·):=by unfold a0K;exact List.Pairwise.filter _ (List.pairwise_lt_range (n:=8))
 obtain ⟨a,rfl⟩:=List.getElem?_eq_some_iff.mp h1
 obtain ⟨b,rfl⟩:=List.getElem?_eq_some_iff.mp h2
 exact List.pairwise_iff_getElem.mp pw i j a b h
section
variable {P:Program} {w:World} {K:PySem.W.Frag} {mg:Str→Option Value} {base:Heap} {f:Addr} {fd:FuncData}
def a8R:Sp:=fun vs H Q _=>∃ (p:Addr) (xs:List Int) (a m:Nat) (tn:Int),vs=[.ref p,.int (a:Int),.int (m:Int),.int tn]∧H p=some (.lst (xs.map V.int))∧a+m≤xs.length∧1≤xs.length∧m≤50∧0 < tn∧tn < 1073741824∧∀ (q:Addr) ns H',a0C H H'→TW H' q ns→ns.length=m→Bw ns→Po ns→Q (.ref q) H'
theorem b2M (F:Fun K "_law_numbers" "_law_numbers" a1G f fd) (GN:Fns P w K mg base ["cell","manner"] "_law_number" a4m 1) (mr:mg "range"=none) (mt:mg "tuple"=none):a0W P w K mg base CX0 2 f fd ["parts","at","many","turn"] a8R:=by
 refine F.ok (k:=1) a8i (fun vs H Q E h=>?_) (fun cdv A outer s H vs Q E hr h=>?_)
 ·obtain ⟨p,xs,a,m,tn,rfl,_⟩:=h
  rfl
 obtain ⟨p,xs,a,m,tn,rfl,hp,ham,lx,m50,t0,t1,q⟩:=h
 refine ⟨_,a0g (a0q (a2n a1E (by rfl) mt a5q (a0a (a1r (M:=NN) rfl (a0l.of (a0b a1G) NN rfl rfl rfl (by decide +kernel) (by decide +kernel) (by decide +kernel) rfl (by decide +kernel)) ndN rfl (by rfl) mr (a0a (pv 2) a0c) (a0Z a0X a1B)
   (fun cl C s0 H0 fp=>⟨a0P,a0k GN.ok hr (by rfl) GN.m GN.kp GN.b .nil a0A (a0a (a0v (ixL K) (pv 1) (a0t a0F (pv 2) (pv 0)) (fun _ _=>rfl)) (a0a (a0t a1p (a0t a3Z (a0v (ixL K) (pv 1) a0f (fun _ _=>rfl)) (pv 4)) a0f) a0c))⟩)) a0c))),?_⟩
 refine ⟨_,rfl,(m:Int),rfl,by omega,by omega,fun d hd=>?_⟩
 rw [Int.toNat_natCast]
 have h0:xs[0]?=some (xs[0]'(by omega)):=List.getElem?_eq_getElem _
 generalize xs[0]'(by omega)=x0 at h0
 refine ⟨fun i H'=>a0C H H'∧∃ ns:List Int,H' d=some (.lst (ns.map V.int))∧ns.length=i∧Bw ns∧Po ns,⟨a0h hd _,[],a0d,rfl,fun x hx=>(by cases hx),fun x hx=>by cases hx⟩,fun i H' hi hP=>?_,fun H' hP=>?_⟩
 ·obtain ⟨s1,ns,hd',ln,bn,po⟩:=hP
  rw [show (0:Int)+(i:Int)=(i:Int) from Int.zero_add _]
  have ea:(fun (x y:Int)=>V.int (x+y)) (a:Int) (i:Int)=.int ((a+i:Nat):Int):=rfl
  have hai:a+i < xs.length:=by omega
  refine a0L ⟨_,rfl,_,rfl,_,rfl,_,_,rfl,rfl,p,_,_,_,rfl,ea,SqL.of (s1 _ _ hp),a1M (List.getElem?_eq_getElem hai),_,rfl,p,_,_,_,rfl,rfl,SqL.of (s1 _ _ hp),a1M (k:=0) h0,_,rfl,_,_,rfl,rfl,⟨t0,t1⟩,_,_,rfl,rfl,(by show (0:Int) < _;decide),_,_,rfl,fun v v1 v2=>⟨_,hd',?_,a0y hd s1,ns++[v],?_,by rw [List.length_append,ln];rfl,fun x hx=>?_,fun x hx=>?_⟩⟩
  ·rw [List.length_map];exact a0u (by omega)
  ·rw [a0d,List.map_append];rfl
  ·rcases List.mem_append.mp hx with z | z
   ·exact bn x z
   ·rw [List.mem_singleton.mp z];exact ⟨by omega,v2⟩
  ·rcases List.mem_append.mp hx with z | z
   ·exact po x z
   ·rw [List.mem_singleton.mp z];exact v1
 ·obtain ⟨s1,ns,hd',ln,bn,po⟩:=hP
  refine ⟨d,_,rfl,.inl ⟨SqL.of hd',fun c hc=>?_⟩⟩
  exact q c ns _ (s1.trans (a0h hc _)) a0d ln bn po
end
section
variable {P':Program} {w:World} {K:PySem.W.Frag} {mg:Str→Option Value} {base:Heap} {f:Addr} {fd:FuncData}
abbrev NLw:List Str:=["script","parts","things","letters","prices","weights","least_v","before","ahead","last","top","found"]
def b0t (K:PySem.W.Frag) (T U:Addr):Sp:=fun vs H Q _=>∃ (a:Addr) (ns:List Int),vs=[.ref a]∧SqL K H a (ns.map V.int)∧ns.length≤63∧Bk T U H∧∀ H',Q (.bl true) H'
theorem a2y:a0r NLw ["script"] (a0b a9K):=⟨rfl,rfl,rfl,by decide +kernel,rfl,by decide +kernel,by decide +kernel⟩
def Bef (H:Hp) (ps ws:List Int) (m i:Nat) (x7 x8:Option V):Prop:=(i=0∧x7=some .non)∨∃ (tp:Nat) (a d ca:Addr) (da:Nat→Addr) (ra:Nat→Nat→Addr) (xs:List V) (c:CT.Code) (v:Int),1≤i∧(a0K m)[i - 1]?=some tp∧x7=some (.ref a)∧x8=some (.int (tp:Int))∧Fo H ps ws tp a d ca da ra xs c v
theorem Bef.keep {H H':Hp} {ps ws:List Int} {m i:Nat} {x7 x8:Option V} (h:Bef H ps ws m i x7 x8) (k:K2 H H'):Bef H' ps ws m i x7 x8:=by
 rcases h with z | ⟨tp,a,d,ca,da,ra,xs,c,v,i1,hb,e7,e8,fo⟩
 ·exact .inl z
 ·exact .inr ⟨tp,a,d,ca,da,ra,xs,c,v,i1,hb,e7,e8,fo.keep k⟩
theorem ok_law {T U e:Addr} (ne:T≠U) {ed:FuncData} {k:Nat} (F:Fun K "law" "law" a9K e ed) (GF:Fns P' w K mg base ["script","many"] "_law_folded" (a4l K) k) (GN:Fns P' w K mg base ["parts","at","many","turn"] "_law_numbers" a8R k) (GL:Fns P' w K mg base ["letters","things"] "least_top" spLt k) (GX:Fns P' w K mg base PNr "_law_none_right" (spNr T U) k) (GB:Fns P' w K mg base PCb "cheapest_bounded" (spCb T) k) (GT:Fns P' w K mg base PTr "_law_told_right" spTr k) (GY:Fns P' w K mg base PSb "shows_bounded" spSb k) (GK:Fns P' w K mg base ["prices","weights"] "cheapest_kept" (Kp.spCk U) k) (mM:mg "max"=none) (mS:mg "sorted"=none) (mT:mg "set"=none):a0W P' w K mg base CX0 (k+1) e ed ["script"] (b0t K T U):=by
 refine F.ok (k:=k) a2y (fun vs H Q E h=>?_) (fun cdv A outer s H vs Q E hr h=>?_)
 ·obtain ⟨a,ns,rfl,_⟩:=h
  rfl
 obtain ⟨a,ns,rfl,hS,h63,bk,qq⟩:=h
 refine ⟨_,a0e (a0x (i:=1) a2y.nd rfl (Or.inl rfl) (a0k GF.ok hr (by rfl) GF.m GF.kp GF.b .nil a0A (a0a (pv 0) (a0a (a0f) (a0c)))))
   (a0e (a0x (i:=2) a2y.nd rfl (Or.inl rfl) (a0t a0F (a0f) (a0t a1p (a0v a0n (pv 1) (a0f) (fun _ _=>rfl)) (a0f))))
   (a0e (a0x (i:=3) a2y.nd rfl (Or.inl rfl) (a0t a0F (a0v a0n (b1T (qs:=lts)) (a0t a1p (a0t a3Z (a0v a0n (pv 1) (a0f) (fun _ _=>rfl)) (a0f)) (a0f)) (fun _ _=>rfl)) (a0t a1p (a0t a3Z (a0v a0n (pv 1) (a0f) (fun _ _=>rfl)) (a0f)) (a0f))))
   (a0e (a0x (i:=4) a2y.nd rfl (Or.inl rfl) (a0k GN.ok hr (by rfl) GN.m GN.kp GN.b .nil a0A (a0a (pv 1) (a0a (a0f) (a0a (pv 3) (a0a (a0f) (a0c)))))))
   (a0e (a0x (i:=5) a2y.nd rfl (Or.inl rfl) (a0k GN.ok hr (by rfl) GN.m GN.kp GN.b .nil a0A (a0a (pv 1) (a0a (a0f) (a0a (pv 2) (a0a (a0f) (a0c)))))))
   (a0e (a0x (i:=6) a2y.nd rfl (Or.inl rfl) (a0k GL.ok hr (by rfl) GL.m GL.kp GL.b .nil a0A (a0a (pv 3) (a0a (pv 2) (a0c)))))
   (a0e (a7A (a0Y (PW.pt (b0w (a0G b1f (pv 6) (a0f) (nomark _)) (a6Y (a2l (a1O (a0k GX.ok hr (by rfl) GX.m GX.kp GX.b .nil a0A (a0a (pv 4) (a0a (pv 5) (a0a (a0t a1c (pv 6) (a0f)) (a0c)))))))))) (a0g (a0q a1C)) (a0B)))
   (a0e (a0x (i:=7) a2y.nd rfl (Or.inl rfl) (a1m))
   (a0e (a0x (i:=8) a2y.nd rfl (Or.inl rfl) (a0f))
   (a0e (a0x (i:=9) a2y.nd rfl (Or.inl rfl) (a0s (a7g rfl) (by rfl) mM b_max (a0a (pv 6) (a0a (a0t a0F (a0t a1c (pv 2) (a0f)) (a0t a1p (a0v a0n (pv 1) (a0f) (fun _ _=>rfl)) (a0f))) (a0c)))))
   (a0e (a1k PassesOwn.never rfl (a5k (a0s (b2K rfl) (by rfl) mS a7L (a0a (a2n (a8P rfl) (by rfl) mT b_set (a0a (a1q (a0a (pv 6) (a0a (a0t a0F (pv 6) (a0f)) (a0a (pv 9) (a0c))))) (a0c))) (a0c)))) (a0H (i:=10) a2y.nd rfl (Or.inl rfl)) (a0e (a0x (i:=11) a2y.nd rfl (Or.inl rfl) (a0k GB.ok hr (by rfl) GB.m GB.kp GB.b .nil a0A (a0a (pv 4) (a0a (pv 5) (a0a (pv 10) (a0c))))))
   (a0e (a0Y (a2l (a1O (a0k GT.ok hr (by rfl) GT.m GT.kp GT.b .nil a0A (a0a (pv 4) (a0a (pv 5) (a0a (pv 10) (a0a (pv 11) (a0c)))))))) (a0g (a0q a1C)) (a0B))
   (a0e (a7A (a0Y (a0G a5l (pv 7) (a1m) (nomark _)) (a0e (a0Y (a0G b1f (a0v a0Q (pv 11) (a0f) (fun _ _=>rfl)) (a0v a0Q (pv 7) (a0f) (fun _ _=>rfl)) (nomark _)) (a0g (a0q a1C)) (a0B))
   (a0g (a0Y (a0G a7f (a0v a0Q (pv 11) (a0f) (fun _ _=>rfl)) (a0v a0Q (pv 7) (a0f) (fun _ _=>rfl)) (nomark _)) (a0e (a0Y (a0G a4A (a0k GY.ok hr (by rfl) GY.m GY.kp GY.b .nil a0A (a0a (pv 4) (a0a (pv 5) (a0a (pv 10) (a0a (a0v a0Q (pv 7) (a0f) (fun _ _=>rfl)) (a0a (a0v a0Q (pv 11) (a0f) (fun _ _=>rfl)) (a0c))))))) (a1C) (nomark _)) (a0g (a0q a1C)) (a0B))
   (a0g (a0Y (a0G a4A (a0k GY.ok hr (by rfl) GY.m GY.kp GY.b .nil a0A (a0a (pv 4) (a0a (pv 5) (a0a (pv 8) (a0a (a0v a0Q (pv 11) (a0f) (fun _ _=>rfl)) (a0a (a0v a0Q (pv 7) (a0f) (fun _ _=>rfl)) (a0c))))))) (a1C) (nomark _)) (a0g (a0q a1C)) (a0B)))) (a0B)))) (a0B)))
   (a0e (a7A (a0Y (PW.pt (b0w (a0G op_ge (pv 10) (a0t a1c (pv 2) (a0f)) (nomark _)) (a6Y (a0G a9c (a0v a0Q (pv 11) (a0f) (fun _ _=>rfl)) (a0v a0Q (a0k GK.ok hr (by rfl) GK.m GK.kp GK.b .nil a0A (a0a (pv 4) (a0a (pv 5) (a0c)))) (a0f) (fun _ _=>rfl)) (nomark _))))) (a0g (a0q a1C)) (a0B)))
   (a0e (a0Y (a0G a9c (a0v a0Q (a0k GB.ok hr (by rfl) GB.m GB.kp GB.b .nil a0A (a0a (b0L (pv 4) (a2m a1v a0f)) (a0a (b0L (pv 5) (a2m a1v a0f)) (a0a (pv 10) (a0c))))) (a0f) (fun _ _=>rfl)) (a0v a0Q (pv 11) (a0f) (fun _ _=>rfl)) (nomark _)) (a0g (a0q a1C)) (a0B))
   (a0e (a0x (i:=7) a2y.nd rfl (Or.inl rfl) (pv 11))
   (a0g (a0x (i:=8) a2y.nd rfl (Or.inl rfl) (pv 10))))))))))
   (a0g (a0q (a1C))))))))))))),?_⟩
 refine ⟨_,rfl,a,ns,15,rfl,hS,h63,by decide,by decide,fun pa xs H1 s1 g1 lx=>?_⟩
 have get:∀ i,i < 15→∃ x,xs[i]?=some x:=fun i hi=>⟨_,List.getElem?_eq_getElem (by omega)⟩
 obtain ⟨x0,h0⟩:=get 0 (by decide)
 obtain ⟨x13,h13⟩:=get 13 (by decide)
 obtain ⟨n,en,n1,n6⟩:∃ n:Nat,1+x0 % 6=(n:Int)∧1≤n∧n≤6:=⟨(1+x0 % 6).toNat,by omega,by omega,by omega⟩
 have en':(fun (i j:Int)=>V.int (i+j)) 1 (x0 % 6)=.int (n:Int):=congrArg V.int en
 refine ⟨_,rfl,pa,_,_,_,rfl,rfl,SqL.of g1,a1M (k:=0) h0,_,_,rfl,rfl,(by show (0:Int) < _;decide),_,_,rfl,rfl,?_⟩
 rw [en']
 have m0:0≤x0 / 128 % 4:=Int.emod_nonneg _ (by decide)
 have m1:x0 / 128 % 4 < ((lts.map V.int).length:Int):=Int.emod_lt_of_pos _ (by decide)
 obtain ⟨y,hy,ay⟩:=at_of m0 m1
 rw [List.getElem?_map] at hy
 cases hl:lts[(x0 / 128 % 4).toNat]? with
 | none=>rw [hl] at hy;cases hy
 | some q8 =>
 rw [hl] at hy
 cases hy
 obtain ⟨L0,rfl,l02,l03⟩:=lts_of q8 (List.mem_of_getElem? hl)
 refine ⟨by decide,fun sz H2 s2 _ gsz=>?_⟩
 have g2:=s2 _ _ g1
 obtain ⟨L,el,l2,l4⟩:∃ L:Nat,(L0:Int)+x0 / 512 % 2=(L:Int)∧2≤L∧L≤4:=⟨((L0:Int)+x0 / 512 % 2).toNat,by omega,by omega,by omega⟩
 have el':(fun (i j:Int)=>V.int (i+j)) (L0:Int) (x0 / 512 % 2)=.int (L:Int):=congrArg V.int el
 refine ⟨_,rfl,pa,_,_,_,rfl,rfl,SqL.of g2,a1M (k:=0) h0,_,_,rfl,rfl,⟨by decide,by decide⟩,_,_,rfl,rfl,(by show (0:Int) < _;decide),sz,_,_,_,rfl,rfl,SqL.of gsz,ay,?_⟩
 refine ⟨_,rfl,pa,_,_,_,rfl,rfl,SqL.of g2,a1M (k:=0) h0,_,_,rfl,rfl,⟨by decide,by decide⟩,_,_,rfl,rfl,(by show (0:Int) < _;decide),_,_,rfl,rfl,?_⟩
 rw [el']
 refine ⟨_,rfl,_,rfl,pa,xs,1,L,1024,rfl,g2,by omega,by omega,by omega,by decide,by decide,fun p ps H3 s3 hp lp bp pp=>?_⟩
 have g3:=s3 _ _ g2
 refine ⟨_,rfl,_,rfl,pa,xs,7,n,4096,rfl,g3,by omega,by omega,by omega,by decide,by decide,fun wv ws H4 s4 hw lw bw pw=>?_⟩
 have hp4:TW H4 p ps:=s4 _ _ hp
 have g4:=s4 _ _ g3
 subst lp
 subst lw
 have nu:Num ps ws:=⟨by omega,by omega,by omega,by omega,bp,bw⟩
 have bk4:=bk.same (((s1.trans s2).trans s3).trans s4)
 clear g1 g2 g3 s1 s2 s3 s4 hp gsz ay m0 m1 bk hl en en' el el'
 refine ⟨_,rfl,_,rfl,ps.length,ws.length,rfl,l2,by omega,n1,by omega,fun t _ tn tp=>?_⟩
 have t3:=pow_le l2 n6 tp
 have sno:=fun s=>a8p (ps:=ps) (ws:=ws) l2 s 0 ws.length (by omega)
 refine ⟨fun σ' H'=>Bk T U H'∧K2 H4 H'∧σ'=[some (.ref a),some (.ref pa),some (.int (ws.length:Int)),some (.int (ps.length:Int)),some (.ref p),some (.ref wv),some (.int (t:Int)),none,none,none,none,none],?_,?_⟩
 ·refine ⟨_,rfl,_,_,rfl,rfl,_,rfl,a2T (fun z=>?_) (fun z=>a2V ⟨bk4,K2.refl,rfl⟩)⟩
  have z0:0 < t:=by have:(0:Int) < (t:Int):=of_decide_eq_true z;omega
  have et:(fun (i j:Int)=>V.int (i - j)) (t:Int) 1=.int ((t - 1:Nat):Int):=congrArg V.int (by omega)
  refine ⟨_,rfl,_,rfl,_,rfl,_,_,rfl,rfl,?_⟩
  rw [et]
  exact ⟨p,wv,ps,ws,t - 1,rfl,hp4,hw,nu,pp,pw,by omega,(sno _).mpr (by have:=tp z0;omega),bk4,fun H5 b5 k5=>⟨_,rfl,a2V ⟨b5,k5,rfl⟩⟩⟩
 rintro σ' H5 ⟨bk5,k45,rfl⟩
 have hp5:TW H5 p ps:=k45.t hp4
 have hw5:TW H5 wv ws:=k45.t hw
 have g5:=k45.l g4
 clear hp4 hw g4 bk4 k45
 obtain ⟨la,ela,lat,la6⟩:∃ la:Nat,(if (ws.length:Int) - 1+x13 % 2 > (t:Int) then (ws.length:Int) - 1+x13 % 2 else (t:Int))=(la:Int)∧t≤la∧la≤6:=by
  split
  ·exact ⟨((ws.length:Int) - 1+x13 % 2).toNat,by omega,by omega,by omega⟩
  ·exact ⟨t,rfl,by omega,by omega⟩
 refine ⟨_,rfl,_,rfl,_,_,rfl,rfl,_,rfl,pa,_,_,_,rfl,rfl,SqL.of g5,a1M (k:=13) h13,_,_,rfl,rfl,(by show (0:Int) < _;decide),_,_,rfl,rfl,_,_,rfl,?_⟩
 rw [ela]
 refine ⟨_,rfl,_,rfl,_,_,rfl,rfl,_,rfl,(by show 3≤sizeLine;decide),fun ll hll=>?_⟩
 have s6:=a0h hll (.lst [.int (t:Int),.int ((t:Int)+1),.int (la:Int)])
 have g6:upd H5 ll (.lst [.int (t:Int),.int ((t:Int)+1),.int (la:Int)]) ll=some (.lst (([t,t+1,la]:List Nat).map fun n=>V.int (Int.ofNat n))):=a0d
 generalize upd H5 ll (.lst [.int (t:Int),.int ((t:Int)+1),.int (la:Int)])=H6 at s6 g6 ⊢
 refine ⟨ll,[t,t+1,la],rfl,g6,(by
  intro x hx
  simp only [List.mem_cons,List.not_mem_nil,or_false] at hx
  omega),fun sp H7 m s7 _ gsp hm=>?_⟩
 refine ⟨sp,m,rfl,gsp,fun lo H8 s8 _ g8=>?_⟩
 have s58:=(s6.trans s7).trans s8
 have hp8:TW H8 p ps:=s58 _ _ hp5
 have hw8:TW H8 wv ws:=s58 _ _ hw5
 have bk8:=bk5.same s58
 clear s6 s7 s8 g6 gsp s58 hp5 hw5 bk5 g5 hll
 refine ⟨lo,rfl,⟨_,SqL.of g8⟩,?_⟩
 refine a9b (xs:=(a0K m).map fun n=>V.int (Int.ofNat n)) (fun i σ H'=>Bk T U H'∧K2 H8 H'∧∃ x7 x8 x10 x11:Option V,Bef H' ps ws m i x7 x8∧σ=[some (.ref a),some (.ref pa),some (.int (ws.length:Int)),some (.int (ps.length:Int)),some (.ref p),some (.ref wv),some (.int (t:Int)),x7,x8,some (.int (la:Int)),x10,x11]) ⟨bk8,K2.refl,_,_,_,_,.inl ⟨rfl,rfl⟩,rfl⟩ (fun i σ H' _ hP=>SqL.of (hP.2.1.l g8)) (fun i x σ H9 hx hP=>?_) (fun σ H9 hP=>?_)
 ·obtain ⟨bk9,k9,x7,x8,x10,x11,bef,rfl⟩:=hP
  rw [List.getElem?_map] at hx
  obtain ⟨tp',htp,rfl⟩:=Option.map_eq_some_iff.mp hx
  have hmm:=(hm tp').mp (a2Z.mp (List.mem_of_getElem? htp)).2
  have tt:t≤tp'∧tp'≤6:=by
   simp only [List.mem_cons,List.not_mem_nil,or_false] at hmm
   omega
  have sn:S ps ws tp' 0 ws.length≠none:=fun z=>by
   have h1:=(sno tp').mp z
   have h2:ps.length ^ t≤ps.length ^ tp':=Nat.pow_le_pow_right (by omega) tt.1
   omega
  have hp9:TW H9 p ps:=k9.t hp8
  have hw9:TW H9 wv ws:=k9.t hw8
  refine ⟨_,rfl,_,rfl,_,rfl,p,wv,ps,ws,tp',rfl,hp9,hw9,nu,pp,pw,by omega,bk9.a,fun fa d da ra HA sT tt' st fn=>?_⟩
  obtain ⟨bkA,kA⟩:=bk9.one ne sT tt'
  obtain ⟨ca,xc,c,v,fo⟩:=fn.fo nu st sn
  refine ⟨_,rfl,_,rfl,_,rfl,_,rfl,p,wv,ps,ws,tp',fa,d,ca,da,ra,xc,c,v,rfl,kA.t hp9,kA.t hw9,nu,by omega,fo,fun HB sB=>⟨_,rfl,a2V ?_⟩⟩
  have kB:=kA.trans (K2.of sB)
  have hpB:TW HB p ps:=kB.t hp9
  have hwB:TW HB wv ws:=kB.t hw9
  have foB:=fo.keep (K2.of sB)
  have befB:=bef.keep kB
  have bkB:=bkA.same sB
  have kB8:=k9.trans kB
  clear bkA kA fo sT tt' st fn hp9 hw9 bef bk9 k9 kB sB
  obtain ⟨lc,lw⟩:=foB.len nu (by omega)
  refine ⟨fun σ' H'=>a0C HB H'∧σ'=[some (.ref a),some (.ref pa),some (.int (ws.length:Int)),some (.int (ps.length:Int)),some (.ref p),some (.ref wv),some (.int (t:Int)),x7,x8,some (.int (la:Int)),some (.int (tp':Int)),some (.ref fa)],?_,?_⟩
  ·rcases befB with ⟨_,rfl⟩ | ⟨t0,a0,d0,ca0,da0,ra0,xs0,c0,v0,i1,hb0,rfl,rfl,fo0⟩
   ·exact ⟨_,rfl,rfl,_,rfl,a2V ⟨a0C.refl _,rfl⟩⟩
   have tlt:t0 < tp':=b2L hb0 htp (by omega)
   have vle:v≤v0:=by
    have:=b0Z (ps:=ps) (ws:=ws) (i:=0) (j:=ws.length) (by omega) (tp' - t0) t0
    rw [show t0+(tp' - t0)=tp' by omega,foB.ev,fo0.ev] at this
    obtain ⟨z,ez,lz⟩:=this v0 rfl
    cases ez
    exact lz
   obtain ⟨lc0,lw0⟩:=fo0.len nu (by omega)
   refine ⟨_,rfl,rfl,_,rfl,a6y ?_⟩
   refine ⟨_,rfl,fa,_,_,_,rfl,rfl,SqT.of foB.o,rfl,_,rfl,a0,_,_,_,rfl,rfl,SqT.of fo0.o,rfl,_,_,rfl,rfl,_,rfl,?_⟩
   rw [decide_eq_false (show ¬ v0 < v by omega)]
   refine a2V ?_
   refine ⟨_,rfl,fa,_,_,_,rfl,rfl,SqT.of foB.o,rfl,_,rfl,a0,_,_,_,rfl,rfl,SqT.of fo0.o,rfl,_,_,rfl,rfl,_,rfl,?_⟩
   refine a2T (fun z=>?_) (fun z=>⟨a0C.refl _,rfl⟩)
   have vlt:v < v0:=of_decide_eq_true z
   refine ⟨_,rfl,_,rfl,_,rfl,_,rfl,a0,_,_,_,rfl,rfl,SqT.of fo0.o,rfl,_,rfl,fa,_,_,_,rfl,rfl,SqT.of foB.o,rfl,p,wv,d,ca0,ps,ws,tp',da,ra,xs0,c0,v,rfl,hpB,hwB,nu,by omega,foB.st,foB.ev,fo0.cd,fo0.wx,lc0,lw0,fun b HC sC hb=>?_⟩
   have:b=false:=by
    cases b with
    | false=>rfl
    | true =>
     have:=(hb.mp rfl).2.2
     rw [fo0.co] at this
     omega
   subst this
   refine ⟨_,_,rfl,rfl,_,rfl,a2V ?_⟩
   have fC:=foB.keep (K2.of sC)
   have fC0:=fo0.keep (K2.of sC)
   refine ⟨_,rfl,_,rfl,_,rfl,_,rfl,fa,_,_,_,rfl,rfl,SqT.of fC.o,rfl,_,rfl,a0,_,_,_,rfl,rfl,SqT.of fC0.o,rfl,p,wv,d0,ca,ps,ws,t0,da0,ra0,xc,c,v0,rfl,sC _ _ hpB,sC _ _ hwB,nu,by omega,fC0.st,fC0.ev,fC.cd,fC.wx,lc,lw,fun b HD sD hb=>?_⟩
   have:b=false:=by
    cases b with
    | false=>rfl
    | true =>
     have h1:=b0k n1 fC.bc (hb.mp rfl).2.1 fC0.ev
     rw [fC.co] at h1
     omega
   subst this
   exact ⟨_,_,rfl,rfl,_,rfl,a2V ⟨sC.trans sD,rfl⟩⟩
  rintro σ' HC ⟨sC,rfl⟩
  have foC:=foB.keep (K2.of sC)
  have hpC:TW HC p ps:=sC _ _ hpB
  have hwC:TW HC wv ws:=sC _ _ hwB
  have bkC:=bkB.same sC
  have kC8:=kB8.trans (K2.of sC)
  clear foB hpB hwB bkB kB8 befB sC
  refine ⟨fun σ' H'=>Bk T U H'∧K2 HC H'∧σ'=[some (.ref a),some (.ref pa),some (.int (ws.length:Int)),some (.int (ps.length:Int)),some (.ref p),some (.ref wv),some (.int (t:Int)),x7,x8,some (.int (la:Int)),some (.int (tp':Int)),some (.ref fa)],?_,?_⟩
  ·refine ⟨_,rfl,_,rfl,_,_,rfl,rfl,_,_,rfl,rfl,_,rfl,a2T (fun z=>?_) (fun z=>a2V ⟨bkC,K2.refl,rfl⟩)⟩
   have z1:(ws.length:Int) - 1≤(tp':Int):=of_decide_eq_true z
   refine ⟨_,rfl,fa,_,_,_,rfl,rfl,SqT.of foC.o,rfl,_,rfl,_,rfl,p,wv,ps,ws,rfl,hpC,hwC,nu,pp,pw,bkC.b,fun a2 ca2 d2 ra2 h2 t2 F2 c2 HD sT tt' fn=>?_⟩
   obtain ⟨bkD,kD⟩:=bkC.two ne sT tt'
   have eF:F2 0 ws.length=some v:=by rw [←b0P fn.own ws.length tp' 0 ws.length (by omega) (by omega) (Nat.le_refl _) (by omega)];exact foC.ev
   refine ⟨a2,_,_,_,rfl,rfl,SqT.of fn.o,rfl,?_⟩
   rw [eF]
   refine ⟨rfl,_,rfl,?_⟩
   exact iteNS rfl ⟨bkD,kD,rfl⟩
  rintro σ' HD ⟨bkD,kD,rfl⟩
  have foD:=foC.keep kD
  have hpD:TW HD p ps:=kD.t hpC
  have hwD:TW HD wv ws:=kD.t hwC
  have kD8:=kC8.trans kD
  clear foC hpC hwC bkC kC8 kD
  refine ⟨_,rfl,_,rfl,p,_,rfl,rfl,SqT.of hpD,fun rp HE sE gE=>?_⟩
  refine ⟨_,rfl,_,rfl,wv,_,rfl,rfl,SqT.of (sE _ _ hwD),fun rw' HF sF gF=>?_⟩
  rw [←List.map_reverse] at gE gF
  have s2:=sE.trans sF
  have bkF:=bkD.same s2
  refine ⟨_,rfl,rp,rw',ps.reverse,ws.reverse,tp',rfl,sF _ _ gE,gF,nu.rev,fun x hx=>pp x (List.mem_reverse.mp hx),fun x hx=>pw x (List.mem_reverse.mp hx),by omega,bkF.a,fun fa2 d2 da2 ra2 HG sT tt' st fn=>?_⟩
  obtain ⟨bkG,kG⟩:=bkF.one ne sT tt'
  have kDG:=(K2.of s2).trans kG
  have foG:=foD.keep kDG
  have rv:=S_rev (ps:=ps) (ws:=ws) (s:=tp') n1
  obtain ⟨ca2,xc2,c2,v2,fo2⟩:=fn.fo nu.rev st (by rw [rv];exact sn)
  have ev2:v2=v:=by
   have:=fo2.ev
   rw [rv,foG.ev] at this
   exact (Option.some.inj this).symm
  subst ev2
  refine ⟨fa2,_,_,_,rfl,rfl,SqT.of fo2.o,rfl,_,rfl,fa,_,_,_,rfl,rfl,SqT.of foG.o,rfl,rfl,_,rfl,?_⟩
  refine iteNS rfl ?_
  refine ⟨_,rfl,_,rfl,bkG,kD8.trans kDG,_,_,_,_,.inr ⟨tp',fa,d,ca,da,ra,xc,c,_,by omega,?_,rfl,rfl,foG⟩,rfl⟩
  rw [Nat.add_sub_cancel]
  exact htp
 ·obtain ⟨_,_,x7,x8,x10,x11,_,rfl⟩:=hP
  exact qq _
end
theorem al1 {α:Type} {P:List α→Prop} (h:∀ a0:α,P [a0]):∀ us:List α,us.length=1→P us
 | [a0],_=>h a0
theorem al2 {α:Type} {P:List α→Prop} (h:∀ a0 a1:α,P [a0,a1]):∀ us:List α,us.length=2→P us
 | [a0,a1],_=>h a0 a1
theorem al3 {α:Type} {P:List α→Prop} (h:∀ a0 a1 a2:α,P [a0,a1,a2]):∀ us:List α,us.length=3→P us
 | [a0,a1,a2],_=>h a0 a1 a2
theorem al4 {α:Type} {P:List α→Prop} (h:∀ a0 a1 a2 a3:α,P [a0,a1,a2,a3]):∀ us:List α,us.length=4→P us
 | [a0,a1,a2,a3],_=>h a0 a1 a2 a3
theorem al5 {α:Type} {P:List α→Prop} (h:∀ a0 a1 a2 a3 a4:α,P [a0,a1,a2,a3,a4]):∀ us:List α,us.length=5→P us
 | [a0,a1,a2,a3,a4],_=>h a0 a1 a2 a3 a4
theorem all_mk {T U:Addr} {ts:List Addr} (hT:T∈ts) (hU:U∈ts) (ne:T≠U) {l:PySem.W.OpenLaw} {w:World} {K:PySem.W.Frag} {h:Heap} {mg:Str→Option Value} {fa f1 f2 f3 f4 f5 f6 f7 f8 f9 f10 f11 f12 f13 f14 f15 f16 f17 f18 f19 f20 f21 f22 f23 f24 f25 f26 f27 f28 f29 f30 f31 f32 f33 f34 f35 f36 f37 f38 f39 f40:Addr} (X:K.In h) (G:h.Ns mainGlobals mg) (hfa:mg "law"=some (.ref fa))
  {od1 an1 od2 an2 od3 an3 od4 an4 od5 an5 od6 an6 od7 an7 od8 an8 od9 an9 od10 an10 od11 an11 od12 an12 od13 an13 od14 an14 od15 an15 od16 an16 od17 an17 od18 an18 od19 an19 od20 an20 od21 an21 od22 an22 od23 an23 od24 an24 od25 an25 od26 an26 od27 an27 od28 an28 od29 an29 od30 an30 od31 an31 od32 an32 od33 an33 od34 an34 od35 an35 od36 an36 od37 an37 od38 an38 od39 an39 od40 an40:Option Addr} {sl1 sl2 sl3 sl4 sl5 sl6 sl7 sl8 sl9 sl10 sl11 sl12 sl13 sl14 sl15 sl16 sl17 sl18 sl19 sl20 sl21 sl22 sl23 sl24 sl25 sl26 sl27 sl28 sl29 sl30 sl31 sl32 sl33 sl34 sl35 sl36 sl37 sl38 sl39 sl40:Array (Option Value)}
  {oc1 kV1 dc1 pm1 cd1 ct1 oc2 kV2 dc2 pm2 cd2 ct2 oc3 kV3 dc3 pm3 cd3 ct3 oc4 kV4 dc4 pm4 cd4 ct4 oc5 kV5 dc5 pm5 cd5 ct5 oc6 kV6 dc6 pm6 cd6 ct6 oc7 kV7 dc7 pm7 cd7 ct7 oc8 kV8 dc8 pm8 cd8 ct8 oc9 kV9 dc9 pm9 cd9 ct9 oc10 kV10 dc10 pm10 cd10 ct10 oc11 kV11 dc11 pm11 cd11 ct11 oc12 kV12 dc12 pm12 cd12 ct12 oc13 kV13 dc13 pm13 cd13 ct13 oc14 kV14 dc14 pm14 cd14 ct14 oc15 kV15 dc15 pm15 cd15 ct15 oc16 kV16 dc16 pm16 cd16 ct16 oc17 kV17 dc17 pm17 cd17 ct17 oc18 kV18 dc18 pm18 cd18 ct18 oc19 kV19 dc19 pm19 cd19 ct19 oc20 kV20 dc20 pm20 cd20 ct20 oc21 kV21 dc21 pm21 cd21 ct21 oc22 kV22 dc22 pm22 cd22 ct22 oc23 kV23 dc23 pm23 cd23 ct23 oc24 kV24 dc24 pm24 cd24 ct24 oc25 kV25 dc25 pm25 cd25 ct25 oc26 kV26 dc26 pm26 cd26 ct26 oc27 kV27 dc27 pm27 cd27 ct27 oc28 kV28 dc28 pm28 cd28 ct28 oc29 kV29 dc29 pm29 cd29 ct29 oc30 kV30 dc30 pm30 cd30 ct30 oc31 kV31 dc31 pm31 cd31 ct31 oc32 kV32 dc32 pm32 cd32 ct32 oc33 kV33 dc33 pm33 cd33 ct33 oc34 kV34 dc34 pm34 cd34 ct34 oc35 kV35 dc35 pm35 cd35 ct35 oc36 kV36 dc36 pm36 cd36 ct36 oc37 kV37 dc37 pm37 cd37 ct37 oc38 kV38 dc38 pm38 cd38 ct38 oc39 kV39 dc39 pm39 cd39 ct39 oc40 kV40 dc40 pm40 cd40 ct40:Value}
  (a1:PySem.W.nsIn K mainGlobals "weight_sums"=some (some (.ref f1))) (l1:K.lookup f1=some ⟨oc1,od1,.func (PySem.W.fnOf "weight_sums" "weight_sums" (a0o a6L) (a0m a6L) (a0b a6L) .none kV1 dc1 pm1 an1 cd1 ct1),sl1⟩) (c1:PySem.W.codeIn K cd1 "weight_sums"=true) (k1:PySem.W.keepIn K (.ref f1)=true)
  (a2:PySem.W.nsIn K mainGlobals "row_with"=some (some (.ref f2))) (l2:K.lookup f2=some ⟨oc2,od2,.func (PySem.W.fnOf "row_with" "row_with" (a0o b2Q) (a0m b2Q) (a0b b2Q) .none kV2 dc2 pm2 an2 cd2 ct2),sl2⟩) (c2:PySem.W.codeIn K cd2 "row_with"=true) (k2:PySem.W.keepIn K (.ref f2)=true)
  (a3:PySem.W.nsIn K mainGlobals "square"=some (some (.ref f3))) (l3:K.lookup f3=some ⟨oc3,od3,.func (PySem.W.fnOf "square" "square" (a0o a2e) (a0m a2e) (a0b a2e) .none kV3 dc3 pm3 an3 cd3 ct3),sl3⟩) (c3:PySem.W.codeIn K cd3 "square"=true) (k3:PySem.W.keepIn K (.ref f3)=true)
  (a4:PySem.W.nsIn K mainGlobals "least"=some (some (.ref f4))) (l4:K.lookup f4=some ⟨oc4,od4,.func (PySem.W.fnOf "least" "least" (a0o a3q) (a0m a3q) (a0b a3q) .none kV4 dc4 pm4 an4 cd4 ct4),sl4⟩) (c4:PySem.W.codeIn K cd4 "least"=true) (k4:PySem.W.keepIn K (.ref f4)=true)
  (a5:PySem.W.nsIn K mainGlobals "added"=some (some (.ref f5))) (l5:K.lookup f5=some ⟨oc5,od5,.func (PySem.W.fnOf "added" "added" (a0o a3P) (a0m a3P) (a0b a3P) .none kV5 dc5 pm5 an5 cd5 ct5),sl5⟩) (c5:PySem.W.codeIn K cd5 "added"=true) (k5:PySem.W.keepIn K (.ref f5)=true)
  (a6:PySem.W.nsIn K mainGlobals "parted_by"=some (some (.ref f6))) (l6:K.lookup f6=some ⟨oc6,od6,.func (PySem.W.fnOf "parted_by" "parted_by" (a0o sPb) (a0m sPb) (a0b sPb) .none kV6 dc6 pm6 an6 cd6 ct6),sl6⟩) (c6:PySem.W.codeIn K cd6 "parted_by"=true) (k6:PySem.W.keepIn K (.ref f6)=true)
  (a7:PySem.W.nsIn K mainGlobals "parted_least"=some (some (.ref f7))) (l7:K.lookup f7=some ⟨oc7,od7,.func (PySem.W.fnOf "parted_least" "parted_least" (a0o sPl) (a0m sPl) (a0b sPl) .none kV7 dc7 pm7 an7 cd7 ct7),sl7⟩) (c7:PySem.W.codeIn K cd7 "parted_least"=true) (k7:PySem.W.keepIn K (.ref f7)=true)
  (a8:PySem.W.nsIn K mainGlobals "parted_words"=some (some (.ref f8))) (l8:K.lookup f8=some ⟨oc8,od8,.func (PySem.W.fnOf "parted_words" "parted_words" (a0o sPw) (a0m sPw) (a0b sPw) .none kV8 dc8 pm8 an8 cd8 ct8),sl8⟩) (c8:PySem.W.codeIn K cd8 "parted_words"=true) (k8:PySem.W.keepIn K (.ref f8)=true)
  (a9:PySem.W.nsIn K mainGlobals "refuse_top"=some (some (.ref f9))) (l9:K.lookup f9=some ⟨oc9,od9,.func (PySem.W.fnOf "refuse_top" "refuse_top" (a0o b2R) (a0m b2R) (a0b b2R) .none kV9 dc9 pm9 an9 cd9 ct9),sl9⟩) (c9:PySem.W.codeIn K cd9 "refuse_top"=true) (k9:PySem.W.keepIn K (.ref f9)=true)
  (a10:PySem.W.nsIn K mainGlobals "least_top"=some (some (.ref f10))) (l10:K.lookup f10=some ⟨oc10,od10,.func (PySem.W.fnOf "least_top" "least_top" (a0o a6M) (a0m a6M) (a0b a6M) .none kV10 dc10 pm10 an10 cd10 ct10),sl10⟩) (c10:PySem.W.codeIn K cd10 "least_top"=true) (k10:PySem.W.keepIn K (.ref f10)=true)
  (a11:PySem.W.nsIn K mainGlobals "bounds_on_ground"=some (some (.ref f11))) (l11:K.lookup f11=some ⟨oc11,od11,.func (PySem.W.fnOf "bounds_on_ground" "bounds_on_ground" (a0o a2f) (a0m a2f) (a0b a2f) .none kV11 dc11 pm11 an11 cd11 ct11),sl11⟩) (c11:PySem.W.codeIn K cd11 "bounds_on_ground"=true) (k11:PySem.W.keepIn K (.ref f11)=true)
  (a12:PySem.W.nsIn K mainGlobals "least_stairs"=some (some (.ref f12))) (l12:K.lookup f12=some ⟨oc12,od12,.func (PySem.W.fnOf "least_stairs" "least_stairs" (a0o a2G) (a0m a2G) (a0b a2G) .none kV12 dc12 pm12 an12 cd12 ct12),sl12⟩) (c12:PySem.W.codeIn K cd12 "least_stairs"=true) (k12:PySem.W.keepIn K (.ref f12)=true)
  (a13:PySem.W.nsIn K mainGlobals "cheapest_bounded"=some (some (.ref f13))) (l13:K.lookup f13=some ⟨oc13,od13,.func (PySem.W.fnOf "cheapest_bounded" "cheapest_bounded" (a0o sCb) (a0m sCb) (a0b sCb) .none kV13 dc13 pm13 an13 cd13 ct13),sl13⟩) (c13:PySem.W.codeIn K cd13 "cheapest_bounded"=true) (k13:PySem.W.keepIn K (.ref f13)=true)
  (a14:PySem.W.nsIn K mainGlobals "bounded_words"=some (some (.ref f14))) (l14:K.lookup f14=some ⟨oc14,od14,.func (PySem.W.fnOf "bounded_words" "bounded_words" (a0o sBw) (a0m sBw) (a0b sBw) .none kV14 dc14 pm14 an14 cd14 ct14),sl14⟩) (c14:PySem.W.codeIn K cd14 "bounded_words"=true) (k14:PySem.W.keepIn K (.ref f14)=true)
  (a15:PySem.W.nsIn K mainGlobals "has_letters_alone"=some (some (.ref f15))) (l15:K.lookup f15=some ⟨oc15,od15,.func (PySem.W.fnOf "has_letters_alone" "has_letters_alone" (a0o a3r) (a0m a3r) (a0b a3r) .none kV15 dc15 pm15 an15 cd15 ct15),sl15⟩) (c15:PySem.W.codeIn K cd15 "has_letters_alone"=true) (k15:PySem.W.keepIn K (.ref f15)=true)
  (a16:PySem.W.nsIn K mainGlobals "word_price"=some (some (.ref f16))) (l16:K.lookup f16=some ⟨oc16,od16,.func (PySem.W.fnOf "word_price" "word_price" (a0o a3s) (a0m a3s) (a0b a3s) .none kV16 dc16 pm16 an16 cd16 ct16),sl16⟩) (c16:PySem.W.codeIn K cd16 "word_price"=true) (k16:PySem.W.keepIn K (.ref f16)=true)
  (a17:PySem.W.nsIn K mainGlobals "begins"=some (some (.ref f17))) (l17:K.lookup f17=some ⟨oc17,od17,.func (PySem.W.fnOf "begins" "begins" (a0o a2H) (a0m a2H) (a0b a2H) .none kV17 dc17 pm17 an17 cd17 ct17),sl17⟩) (c17:PySem.W.codeIn K cd17 "begins"=true) (k17:PySem.W.keepIn K (.ref f17)=true)
  (a18:PySem.W.nsIn K mainGlobals "clash"=some (some (.ref f18))) (l18:K.lookup f18=some ⟨oc18,od18,.func (PySem.W.fnOf "clash" "clash" (a0o a3Q) (a0m a3Q) (a0b a3Q) .none kV18 dc18 pm18 an18 cd18 ct18),sl18⟩) (c18:PySem.W.codeIn K cd18 "clash"=true) (k18:PySem.W.keepIn K (.ref f18)=true)
  (a19:PySem.W.nsIn K mainGlobals "rises"=some (some (.ref f19))) (l19:K.lookup f19=some ⟨oc19,od19,.func (PySem.W.fnOf "rises" "rises" (a0o a3t) (a0m a3t) (a0b a3t) .none kV19 dc19 pm19 an19 cd19 ct19),sl19⟩) (c19:PySem.W.codeIn K cd19 "rises"=true) (k19:PySem.W.keepIn K (.ref f19)=true)
  (a20:PySem.W.nsIn K mainGlobals "is_kept"=some (some (.ref f20))) (l20:K.lookup f20=some ⟨oc20,od20,.func (PySem.W.fnOf "is_kept" "is_kept" (a0o a2I) (a0m a2I) (a0b a2I) .none kV20 dc20 pm20 an20 cd20 ct20),sl20⟩) (c20:PySem.W.codeIn K cd20 "is_kept"=true) (k20:PySem.W.keepIn K (.ref f20)=true)
  (a21:PySem.W.nsIn K mainGlobals "cost"=some (some (.ref f21))) (l21:K.lookup f21=some ⟨oc21,od21,.func (PySem.W.fnOf "cost" "cost" (a0o a3u) (a0m a3u) (a0b a3u) .none kV21 dc21 pm21 an21 cd21 ct21),sl21⟩) (c21:PySem.W.codeIn K cd21 "cost"=true) (k21:PySem.W.keepIn K (.ref f21)=true)
  (a22:PySem.W.nsIn K mainGlobals "has_rows"=some (some (.ref f22))) (l22:K.lookup f22=some ⟨oc22,od22,.func (PySem.W.fnOf "has_rows" "has_rows" (a0o b1X) (a0m b1X) (a0b b1X) .none kV22 dc22 pm22 an22 cd22 ct22),sl22⟩) (c22:PySem.W.codeIn K cd22 "has_rows"=true) (k22:PySem.W.keepIn K (.ref f22)=true)
  (a23:PySem.W.nsIn K mainGlobals "is_kept_for"=some (some (.ref f23))) (l23:K.lookup f23=some ⟨oc23,od23,.func (PySem.W.fnOf "is_kept_for" "is_kept_for" (a0o a1F) (a0m a1F) (a0b a1F) .none kV23 dc23 pm23 an23 cd23 ct23),sl23⟩) (c23:PySem.W.codeIn K cd23 "is_kept_for"=true) (k23:PySem.W.keepIn K (.ref f23)=true)
  (a24:PySem.W.nsIn K mainGlobals "first_above"=some (some (.ref f24))) (l24:K.lookup f24=some ⟨oc24,od24,.func (PySem.W.fnOf "first_above" "first_above" (a0o a3R) (a0m a3R) (a0b a3R) .none kV24 dc24 pm24 an24 cd24 ct24),sl24⟩) (c24:PySem.W.codeIn K cd24 "first_above"=true) (k24:PySem.W.keepIn K (.ref f24)=true)
  (a25:PySem.W.nsIn K mainGlobals "is_above"=some (some (.ref f25))) (l25:K.lookup f25=some ⟨oc25,od25,.func (PySem.W.fnOf "is_above" "is_above" (a0o sIs) (a0m sIs) (a0b sIs) .none kV25 dc25 pm25 an25 cd25 ct25),sl25⟩) (c25:PySem.W.codeIn K cd25 "is_above"=true) (k25:PySem.W.keepIn K (.ref f25)=true)
  (a26:PySem.W.nsIn K mainGlobals "step_lie"=some (some (.ref f26))) (l26:K.lookup f26=some ⟨oc26,od26,.func (PySem.W.fnOf "step_lie" "step_lie" (a0o a6N) (a0m a6N) (a0b a6N) .none kV26 dc26 pm26 an26 cd26 ct26),sl26⟩) (c26:PySem.W.codeIn K cd26 "step_lie"=true) (k26:PySem.W.keepIn K (.ref f26)=true)
  (a27:PySem.W.nsIn K mainGlobals "shows_bounded"=some (some (.ref f27))) (l27:K.lookup f27=some ⟨oc27,od27,.func (PySem.W.fnOf "shows_bounded" "shows_bounded" (a0o a2J) (a0m a2J) (a0b a2J) .none kV27 dc27 pm27 an27 cd27 ct27),sl27⟩) (c27:PySem.W.codeIn K cd27 "shows_bounded"=true) (k27:PySem.W.keepIn K (.ref f27)=true)
  (a28:PySem.W.nsIn K mainGlobals "shows_none"=some (some (.ref f28))) (l28:K.lookup f28=some ⟨oc28,od28,.func (PySem.W.fnOf "shows_none" "shows_none" (a0o a2K) (a0m a2K) (a0b a2K) .none kV28 dc28 pm28 an28 cd28 ct28),sl28⟩) (c28:PySem.W.codeIn K cd28 "shows_none"=true) (k28:PySem.W.keepIn K (.ref f28)=true)
  (a29:PySem.W.nsIn K mainGlobals "stairs_hold"=some (some (.ref f29))) (l29:K.lookup f29=some ⟨oc29,od29,.func (PySem.W.fnOf "stairs_hold" "stairs_hold" (a0o a6O) (a0m a6O) (a0b a6O) .none kV29 dc29 pm29 an29 cd29 ct29),sl29⟩) (c29:PySem.W.codeIn K cd29 "stairs_hold"=true) (k29:PySem.W.keepIn K (.ref f29)=true)
  (a30:PySem.W.nsIn K mainGlobals "has_steps"=some (some (.ref f30))) (l30:K.lookup f30=some ⟨oc30,od30,.func (PySem.W.fnOf "has_steps" "has_steps" (a0o a3v) (a0m a3v) (a0b a3v) .none kV30 dc30 pm30 an30 cd30 ct30),sl30⟩) (c30:PySem.W.codeIn K cd30 "has_steps"=true) (k30:PySem.W.keepIn K (.ref f30)=true)
  (a31:PySem.W.nsIn K mainGlobals "is_bounded"=some (some (.ref f31))) (l31:K.lookup f31=some ⟨oc31,od31,.func (PySem.W.fnOf "is_bounded" "is_bounded" (a0o b1Y) (a0m b1Y) (a0b b1Y) .none kV31 dc31 pm31 an31 cd31 ct31),sl31⟩) (c31:PySem.W.codeIn K cd31 "is_bounded"=true) (k31:PySem.W.keepIn K (.ref f31)=true)
  (a32:PySem.W.nsIn K mainGlobals "bounds_on"=some (some (.ref f32))) (l32:K.lookup f32=some ⟨oc32,od32,.func (PySem.W.fnOf "bounds_on" "bounds_on" (a0o sOn) (a0m sOn) (a0b sOn) .none kV32 dc32 pm32 an32 cd32 ct32),sl32⟩) (c32:PySem.W.codeIn K cd32 "bounds_on"=true) (k32:PySem.W.keepIn K (.ref f32)=true)
  (a33:PySem.W.nsIn K mainGlobals "cheapest_kept"=some (some (.ref f33))) (l33:K.lookup f33=some ⟨oc33,od33,.func (PySem.W.fnOf "cheapest_kept" "cheapest_kept" (a0o sCk) (a0m sCk) (a0b sCk) .none kV33 dc33 pm33 an33 cd33 ct33),sl33⟩) (c33:PySem.W.codeIn K cd33 "cheapest_kept"=true) (k33:PySem.W.keepIn K (.ref f33)=true)
  (a34:PySem.W.nsIn K mainGlobals "kept_words"=some (some (.ref f34))) (l34:K.lookup f34=some ⟨oc34,od34,.func (PySem.W.fnOf "kept_words" "kept_words" (a0o sKw) (a0m sKw) (a0b sKw) .none kV34 dc34 pm34 an34 cd34 ct34),sl34⟩) (c34:PySem.W.codeIn K cd34 "kept_words"=true) (k34:PySem.W.keepIn K (.ref f34)=true)
  (a35:PySem.W.nsIn K mainGlobals "_law_folded"=some (some (.ref f35))) (l35:K.lookup f35=some ⟨oc35,od35,.func (PySem.W.fnOf "_law_folded" "_law_folded" (a0o a2L) (a0m a2L) (a0b a2L) .none kV35 dc35 pm35 an35 cd35 ct35),sl35⟩) (c35:PySem.W.codeIn K cd35 "_law_folded"=true) (k35:PySem.W.keepIn K (.ref f35)=true)
  (a36:PySem.W.nsIn K mainGlobals "_law_number"=some (some (.ref f36))) (l36:K.lookup f36=some ⟨oc36,od36,.func (PySem.W.fnOf "_law_number" "_law_number" (a0o a2M) (a0m a2M) (a0b a2M) .none kV36 dc36 pm36 an36 cd36 ct36),sl36⟩) (c36:PySem.W.codeIn K cd36 "_law_number"=true) (k36:PySem.W.keepIn K (.ref f36)=true)
  (a37:PySem.W.nsIn K mainGlobals "_law_numbers"=some (some (.ref f37))) (l37:K.lookup f37=some ⟨oc37,od37,.func (PySem.W.fnOf "_law_numbers" "_law_numbers" (a0o a1G) (a0m a1G) (a0b a1G) .none kV37 dc37 pm37 an37 cd37 ct37),sl37⟩) (c37:PySem.W.codeIn K cd37 "_law_numbers"=true) (k37:PySem.W.keepIn K (.ref f37)=true)
  (a38:PySem.W.nsIn K mainGlobals "_law_none_right"=some (some (.ref f38))) (l38:K.lookup f38=some ⟨oc38,od38,.func (PySem.W.fnOf "_law_none_right" "_law_none_right" (a0o a2N) (a0m a2N) (a0b a2N) .none kV38 dc38 pm38 an38 cd38 ct38),sl38⟩) (c38:PySem.W.codeIn K cd38 "_law_none_right"=true) (k38:PySem.W.keepIn K (.ref f38)=true)
  (a39:PySem.W.nsIn K mainGlobals "_law_told_right"=some (some (.ref f39))) (l39:K.lookup f39=some ⟨oc39,od39,.func (PySem.W.fnOf "_law_told_right" "_law_told_right" (a0o a2O) (a0m a2O) (a0b a2O) .none kV39 dc39 pm39 an39 cd39 ct39),sl39⟩) (c39:PySem.W.codeIn K cd39 "_law_told_right"=true) (k39:PySem.W.keepIn K (.ref f39)=true)
  (a40:PySem.W.nsIn K mainGlobals "law"=some (some (.ref f40))) (l40:K.lookup f40=some ⟨oc40,od40,.func (PySem.W.fnOf "law" "law" (a0o a9K) (a0m a9K) (a0b a9K) .none kV40 dc40 pm40 an40 cd40 ct40),sl40⟩) (c40:PySem.W.codeIn K cd40 "law"=true) (k40:PySem.W.keepIn K (.ref f40)=true)
  (z1:PySem.W.nsIn K mainGlobals "len"=some none)
  (z2:PySem.W.nsIn K mainGlobals "range"=some none)
  (z3:PySem.W.nsIn K mainGlobals "sum"=some none)
  (z4:PySem.W.nsIn K mainGlobals "min"=some none)
  (z5:PySem.W.nsIn K mainGlobals "max"=some none)
  (z6:PySem.W.nsIn K mainGlobals "tuple"=some none)
  (z7:PySem.W.nsIn K mainGlobals "list"=some none)
  (z8:PySem.W.nsIn K mainGlobals "zip"=some none)
  (z9:PySem.W.nsIn K mainGlobals "all"=some none)
  (z10:PySem.W.nsIn K mainGlobals "sorted"=some none)
  (z11:PySem.W.nsIn K mainGlobals "set"=some none)
  {D:Addr} (gD:PySem.W.nsIn K mainGlobals "TollError"=some (some (.ref D)))
  (xD:xcIn K D=true)
  (eD:PySem.W.excIn K D bmVE a6G=true)
  {CU:Addr} (gCU:PySem.W.nsIn K mainGlobals "Unlike"=some (some (.ref CU)))
  (xCU:xcIn K CU=true)
  (eCU:PySem.W.excIn K CU bmVE a6G=true)
  {CB:Addr} (gCB:PySem.W.nsIn K mainGlobals "BadNumber"=some (some (.ref CB)))
  (xCB:xcIn K CB=true)
  (eCB:PySem.W.excIn K CB bmVE a6G=true)
  {C:Addr} (gC:PySem.W.nsIn K mainGlobals "Parted"=some (some (.ref C)))
  {qCinit:Addr} (faCinit:PySem.W.findIn K (.ref C) "__init__"=some (some (.ref qCinit)))
  (fiCinit:PySem.W.isFn K (.ref qCinit)=true)
  {oiCinit:Value} {diCinit:Option Addr} {kiCinit:Value} {uiCinit:Value} {miCinit:Value} {niCinit:Option Addr} {viCinit:Value} {tiCinit:Value} {siCinit:Array (Option Value)} (liCinit:K.lookup qCinit=some ⟨oiCinit,diCinit,.func (PySem.W.fnOf "__init__" "Parted.__init__" (a0o a1V) (a0m a1V) (a0b a1V) .none kiCinit uiCinit miCinit niCinit viCinit tiCinit),siCinit⟩)
  (ciCinit:PySem.W.codeIn K viCinit "Parted.__init__"=true)
  (kkCinit:PySem.W.keepIn K (.ref qCinit)=true)
  {qCput:Addr} (faCput:PySem.W.findIn K (.ref C) "put"=some (some (.ref qCput)))
  (fiCput:PySem.W.isFn K (.ref qCput)=true)
  {oiCput:Value} {diCput:Option Addr} {kiCput:Value} {uiCput:Value} {miCput:Value} {niCput:Option Addr} {viCput:Value} {tiCput:Value} {siCput:Array (Option Value)} (liCput:K.lookup qCput=some ⟨oiCput,diCput,.func (PySem.W.fnOf "put" "Parted.put" (a0o b2S) (a0m b2S) (a0b b2S) .none kiCput uiCput miCput niCput viCput tiCput),siCput⟩)
  (ciCput:PySem.W.codeIn K viCput "Parted.put"=true)
  (kkCput:PySem.W.keepIn K (.ref qCput)=true)
  {qCleast_sum:Addr} (faCleast_sum:PySem.W.findIn K (.ref C) "least_sum"=some (some (.ref qCleast_sum)))
  (fiCleast_sum:PySem.W.isFn K (.ref qCleast_sum)=true)
  {oiCleast_sum:Value} {diCleast_sum:Option Addr} {kiCleast_sum:Value} {uiCleast_sum:Value} {miCleast_sum:Value} {niCleast_sum:Option Addr} {viCleast_sum:Value} {tiCleast_sum:Value} {siCleast_sum:Array (Option Value)} (liCleast_sum:K.lookup qCleast_sum=some ⟨oiCleast_sum,diCleast_sum,.func (PySem.W.fnOf "least_sum" "Parted.least_sum" (a0o sLs) (a0m sLs) (a0b sLs) .none kiCleast_sum uiCleast_sum miCleast_sum niCleast_sum viCleast_sum tiCleast_sum),siCleast_sum⟩)
  (ciCleast_sum:PySem.W.codeIn K viCleast_sum "Parted.least_sum"=true)
  (kkCleast_sum:PySem.W.keepIn K (.ref qCleast_sum)=true)
  {qCbound:Addr} (faCbound:PySem.W.findIn K (.ref C) "bound"=some (some (.ref qCbound)))
  (fiCbound:PySem.W.isFn K (.ref qCbound)=true)
  {oiCbound:Value} {diCbound:Option Addr} {kiCbound:Value} {uiCbound:Value} {miCbound:Value} {niCbound:Option Addr} {viCbound:Value} {tiCbound:Value} {siCbound:Array (Option Value)} (liCbound:K.lookup qCbound=some ⟨oiCbound,diCbound,.func (PySem.W.fnOf "bound" "Parted.bound" (a0o a3w) (a0m a3w) (a0b a3w) .none kiCbound uiCbound miCbound niCbound viCbound tiCbound),siCbound⟩)
  (ciCbound:PySem.W.codeIn K viCbound "Parted.bound"=true)
  (kkCbound:PySem.W.keepIn K (.ref qCbound)=true)
  {qCbound_row:Addr} (faCbound_row:PySem.W.findIn K (.ref C) "bound_row"=some (some (.ref qCbound_row)))
  (fiCbound_row:PySem.W.isFn K (.ref qCbound_row)=true)
  {oiCbound_row:Value} {diCbound_row:Option Addr} {kiCbound_row:Value} {uiCbound_row:Value} {miCbound_row:Value} {niCbound_row:Option Addr} {viCbound_row:Value} {tiCbound_row:Value} {siCbound_row:Array (Option Value)} (liCbound_row:K.lookup qCbound_row=some ⟨oiCbound_row,diCbound_row,.func (PySem.W.fnOf "bound_row" "Parted.bound_row" (a0o a5w) (a0m a5w) (a0b a5w) .none kiCbound_row uiCbound_row miCbound_row niCbound_row viCbound_row tiCbound_row),siCbound_row⟩)
  (ciCbound_row:PySem.W.codeIn K viCbound_row "Parted.bound_row"=true)
  (kkCbound_row:PySem.W.keepIn K (.ref qCbound_row)=true)
  {qCbounds:Addr} (faCbounds:PySem.W.findIn K (.ref C) "bounds"=some (some (.ref qCbounds)))
  (fiCbounds:PySem.W.isFn K (.ref qCbounds)=true)
  {oiCbounds:Value} {diCbounds:Option Addr} {kiCbounds:Value} {uiCbounds:Value} {miCbounds:Value} {niCbounds:Option Addr} {viCbounds:Value} {tiCbounds:Value} {siCbounds:Array (Option Value)} (liCbounds:K.lookup qCbounds=some ⟨oiCbounds,diCbounds,.func (PySem.W.fnOf "bounds" "Parted.bounds" (a0o a2g) (a0m a2g) (a0b a2g) .none kiCbounds uiCbounds miCbounds niCbounds viCbounds tiCbounds),siCbounds⟩)
  (ciCbounds:PySem.W.codeIn K viCbounds "Parted.bounds"=true)
  (kkCbounds:PySem.W.keepIn K (.ref qCbounds)=true)
  {qCways:Addr} (faCways:PySem.W.findIn K (.ref C) "ways"=some (some (.ref qCways)))
  (fiCways:PySem.W.isFn K (.ref qCways)=true)
  {oiCways:Value} {diCways:Option Addr} {kiCways:Value} {uiCways:Value} {miCways:Value} {niCways:Option Addr} {viCways:Value} {tiCways:Value} {siCways:Array (Option Value)} (liCways:K.lookup qCways=some ⟨oiCways,diCways,.func (PySem.W.fnOf "ways" "Parted.ways" (a0o a6P) (a0m a6P) (a0b a6P) .none kiCways uiCways miCways niCways viCways tiCways),siCways⟩)
  (ciCways:PySem.W.codeIn K viCways "Parted.ways"=true)
  (kkCways:PySem.W.keepIn K (.ref qCways)=true)
  (pgC:PySem.W.plainGet K C Str.empty=true)
  (hdC:PySem.W.hasDictIn K C=true)
  (poC:PySem.W.plainOver K C=true)
  (saC:PySem.W.findIn K (.ref C) "__setattr__"=some (some (.builtin "object.__setattr__")))
  (mkC:PySem.W.makesIn K C=true)
  (kcC:PySem.W.keepIn K (.ref C)=true)
  (naCprices:PySem.W.findIn K (.ref C) "prices"=some none)
  (naCthings:PySem.W.findIn K (.ref C) "things"=some none)
  (naCsums:PySem.W.findIn K (.ref C) "sums"=some none)
  (naCheads:PySem.W.findIn K (.ref C) "heads"=some none)
  (naCtails:PySem.W.findIn K (.ref C) "tails"=some none)
  {c0:Addr} (hcd:cd14=.ref c0)
  (lhd:PySem.W.codeHdIn K c0 T=true)
  {ce:Addr} (hce:cd34=.ref ce)
  (lhe:PySem.W.codeHdIn K ce U=true) :
  ∃ fd:FuncData,(∀ (s:Shared) (v:Value),BindsTo s fd ⟨[v],[]⟩ [("script",v)])∧∀ base:Heap,K.In base→base.Ns mainGlobals mg→(∃ bm,L2.BMod mg base ts bm)→a0W l.prog w K mg base CX0 79 fa fd ["script"] (b0t K T U):=by
 have e:=hfa.symm.trans (PySem.W.mg_of X G a40)
 cases e
 have F1:=a0z (st:=a6L) l1 c1 k1
 have m1:=PySem.W.mg_of X G a1
 have b1:=F1.binds (ps:=["weights"]) fun _ _ _ _ _ _=>al1 fun _=>rfl
 have F2:=a0z (st:=b2Q) l2 c2 k2
 have m2:=PySem.W.mg_of X G a2
 have b2:=F2.binds (ps:=["side","at","number"]) fun _ _ _ _ _ _=>al3 fun _ _ _=>rfl
 have F3:=a0z (st:=a2e) l3 c3 k3
 have m3:=PySem.W.mg_of X G a3
 have b3:=F3.binds (ps:=["side","diagonal"]) fun _ _ _ _ _ _=>al2 fun _ _=>rfl
 have F4:=a0z (st:=a3q) l4 c4 k4
 have m4:=PySem.W.mg_of X G a4
 have b4:=F4.binds (ps:=["numbers"]) fun _ _ _ _ _ _=>al1 fun _=>rfl
 have F5:=a0z (st:=a3P) l5 c5 k5
 have m5:=PySem.W.mg_of X G a5
 have b5:=F5.binds (ps:=["one","other"]) fun _ _ _ _ _ _=>al2 fun _ _=>rfl
 have F6:=a0z (st:=sPb) l6 c6 k6
 have m6:=PySem.W.mg_of X G a6
 have b6:=F6.binds (ps:=["prices","weights","floors"]) fun _ _ _ _ _ _=>al3 fun _ _ _=>rfl
 have F7:=a0z (st:=sPl) l7 c7 k7
 have m7:=PySem.W.mg_of X G a7
 have b7:=F7.binds (ps:=["prices","weights"]) fun _ _ _ _ _ _=>al2 fun _ _=>rfl
 have F8:=a0z (st:=sPw) l8 c8 k8
 have m8:=PySem.W.mg_of X G a8
 have b8:=F8.binds (ps:=["parted","first","end","words_of"]) fun _ _ _ _ _ _=>al4 fun _ _ _ _=>rfl
 have F9:=a0z (st:=b2R) l9 c9 k9
 have m9:=PySem.W.mg_of X G a9
 have b9:=F9.binds (ps:=["top"]) fun _ _ _ _ _ _=>al1 fun _=>rfl
 have F10:=a0z (st:=a6M) l10 c10 k10
 have m10:=PySem.W.mg_of X G a10
 have b10:=F10.binds (ps:=["letters","things"]) fun _ _ _ _ _ _=>al2 fun _ _=>rfl
 have F11:=a0z (st:=a2f) l11 c11 k11
 have m11:=PySem.W.mg_of X G a11
 have b11:=F11.binds (ps:=["things"]) fun _ _ _ _ _ _=>al1 fun _=>rfl
 have F12:=a0z (st:=a2G) l12 c12 k12
 have m12:=PySem.W.mg_of X G a12
 have b12:=F12.binds (ps:=["prices","weights","top"]) fun _ _ _ _ _ _=>al3 fun _ _ _=>rfl
 have F13:=a0z (st:=sCb) l13 c13 k13
 have m13:=PySem.W.mg_of X G a13
 have b13:=F13.binds (ps:=["prices","weights","top"]) fun _ _ _ _ _ _=>al3 fun _ _ _=>rfl
 have F14:=a0z (st:=sBw) l14 c14 k14
 have m14:=PySem.W.mg_of X G a14
 have b14:=F14.binds (ps:=["steps","step","first","end"]) fun _ _ _ _ _ _=>al4 fun _ _ _ _=>rfl
 have F15:=a0z (st:=a3r) l15 c15 k15
 have m15:=PySem.W.mg_of X G a15
 have b15:=F15.binds (ps:=["word","letters"]) fun _ _ _ _ _ _=>al2 fun _ _=>rfl
 have F16:=a0z (st:=a3s) l16 c16 k16
 have m16:=PySem.W.mg_of X G a16
 have b16:=F16.binds (ps:=["prices","word"]) fun _ _ _ _ _ _=>al2 fun _ _=>rfl
 have F17:=a0z (st:=a2H) l17 c17 k17
 have m17:=PySem.W.mg_of X G a17
 have b17:=F17.binds (ps:=["one","other"]) fun _ _ _ _ _ _=>al2 fun _ _=>rfl
 have F18:=a0z (st:=a3Q) l18 c18 k18
 have m18:=PySem.W.mg_of X G a18
 have b18:=F18.binds (ps:=["code"]) fun _ _ _ _ _ _=>al1 fun _=>rfl
 have F19:=a0z (st:=a3t) l19 c19 k19
 have m19:=PySem.W.mg_of X G a19
 have b19:=F19.binds (ps:=["code"]) fun _ _ _ _ _ _=>al1 fun _=>rfl
 have F20:=a0z (st:=a2I) l20 c20 k20
 have m20:=PySem.W.mg_of X G a20
 have b20:=F20.binds (ps:=["code"]) fun _ _ _ _ _ _=>al1 fun _=>rfl
 have F21:=a0z (st:=a3u) l21 c21 k21
 have m21:=PySem.W.mg_of X G a21
 have b21:=F21.binds (ps:=["prices","weights","code"]) fun _ _ _ _ _ _=>al3 fun _ _ _=>rfl
 have F22:=a0z (st:=b1X) l22 c22 k22
 have m22:=PySem.W.mg_of X G a22
 have b22:=F22.binds (ps:=["weights","floors"]) fun _ _ _ _ _ _=>al2 fun _ _=>rfl
 have F23:=a0z (st:=a1F) l23 c23 k23
 have m23:=PySem.W.mg_of X G a23
 have b23:=F23.binds (ps:=["prices","weights","code"]) fun _ _ _ _ _ _=>al3 fun _ _ _=>rfl
 have F24:=a0z (st:=a3R) l24 c24 k24
 have m24:=PySem.W.mg_of X G a24
 have b24:=F24.binds (ps:=["floors","bounds"]) fun _ _ _ _ _ _=>al2 fun _ _=>rfl
 have F25:=a0z (st:=sIs) l25 c25 k25
 have m25:=PySem.W.mg_of X G a25
 have b25:=F25.binds (ps:=["floor","bound"]) fun _ _ _ _ _ _=>al2 fun _ _=>rfl
 have F26:=a0z (st:=a6N) l26 c26 k26
 have m26:=PySem.W.mg_of X G a26
 have b26:=F26.binds (ps:=["prices","weights","top","stairs"]) fun _ _ _ _ _ _=>al4 fun _ _ _ _=>rfl
 have F27:=a0z (st:=a2J) l27 c27 k27
 have m27:=PySem.W.mg_of X G a27
 have b27:=F27.binds (ps:=["prices","weights","top","code","stairs"]) fun _ _ _ _ _ _=>al5 fun _ _ _ _ _=>rfl
 have F28:=a0z (st:=a2K) l28 c28 k28
 have m28:=PySem.W.mg_of X G a28
 have b28:=F28.binds (ps:=["prices","weights","top","stairs"]) fun _ _ _ _ _ _=>al4 fun _ _ _ _=>rfl
 have F29:=a0z (st:=a6O) l29 c29 k29
 have m29:=PySem.W.mg_of X G a29
 have b29:=F29.binds (ps:=["prices","weights","top","stairs"]) fun _ _ _ _ _ _=>al4 fun _ _ _ _=>rfl
 have F30:=a0z (st:=a3v) l30 c30 k30
 have m30:=PySem.W.mg_of X G a30
 have b30:=F30.binds (ps:=["weights","top","stairs"]) fun _ _ _ _ _ _=>al3 fun _ _ _=>rfl
 have F31:=a0z (st:=b1Y) l31 c31 k31
 have m31:=PySem.W.mg_of X G a31
 have b31:=F31.binds (ps:=["code","top"]) fun _ _ _ _ _ _=>al2 fun _ _=>rfl
 have F32:=a0z (st:=sOn) l32 c32 k32
 have m32:=PySem.W.mg_of X G a32
 have b32:=F32.binds (ps:=["prices","weights","stairs","step"]) fun _ _ _ _ _ _=>al4 fun _ _ _ _=>rfl
 have F33:=a0z (st:=sCk) l33 c33 k33
 have m33:=PySem.W.mg_of X G a33
 have b33:=F33.binds (ps:=["prices","weights"]) fun _ _ _ _ _ _=>al2 fun _ _=>rfl
 have F34:=a0z (st:=sKw) l34 c34 k34
 have m34:=PySem.W.mg_of X G a34
 have b34:=F34.binds (ps:=["parted","first","end"]) fun _ _ _ _ _ _=>al3 fun _ _ _=>rfl
 have F35:=a0z (st:=a2L) l35 c35 k35
 have m35:=PySem.W.mg_of X G a35
 have b35:=F35.binds (ps:=["script","many"]) fun _ _ _ _ _ _=>al2 fun _ _=>rfl
 have F36:=a0z (st:=a2M) l36 c36 k36
 have m36:=PySem.W.mg_of X G a36
 have b36:=F36.binds (ps:=["cell","manner"]) fun _ _ _ _ _ _=>al2 fun _ _=>rfl
 have F37:=a0z (st:=a1G) l37 c37 k37
 have m37:=PySem.W.mg_of X G a37
 have b37:=F37.binds (ps:=["parts","at","many","turn"]) fun _ _ _ _ _ _=>al4 fun _ _ _ _=>rfl
 have F38:=a0z (st:=a2N) l38 c38 k38
 have m38:=PySem.W.mg_of X G a38
 have b38:=F38.binds (ps:=["prices","weights","top"]) fun _ _ _ _ _ _=>al3 fun _ _ _=>rfl
 have F39:=a0z (st:=a2O) l39 c39 k39
 have m39:=PySem.W.mg_of X G a39
 have b39:=F39.binds (ps:=["prices","weights","top","found"]) fun _ _ _ _ _ _=>al4 fun _ _ _ _=>rfl
 have F40:=a0z (st:=a9K) l40 c40 k40
 have m40:=PySem.W.mg_of X G a40
 have B_len:=PySem.W.mg_none_of X G z1
 have B_range:=PySem.W.mg_none_of X G z2
 have B_sum:=PySem.W.mg_none_of X G z3
 have B_min:=PySem.W.mg_none_of X G z4
 have B_max:=PySem.W.mg_none_of X G z5
 have B_tuple:=PySem.W.mg_none_of X G z6
 have B_list:=PySem.W.mg_none_of X G z7
 have B_zip:=PySem.W.mg_none_of X G z8
 have B_all:=PySem.W.mg_none_of X G z9
 have B_sorted:=PySem.W.mg_none_of X G z10
 have B_set:=PySem.W.mg_none_of X G z11
 refine ⟨PySem.W.fnOf "law" "law" (a0o a9K) (a0m a9K) (a0b a9K) .none kV40 dc40 pm40 an40 cd40 ct40,fun s v=>.of_eq rfl,fun base _ _ hBM=>?_⟩
 have rc:PC K C:=⟨⟨pgC,hdC,poC,saC⟩,naCprices,naCthings,naCsums,naCheads,naCtails⟩
 have FI:=a0z (st:=a1V) liCinit ciCinit kkCinit
 have bI:=FI.binds (ps:=["self","prices","weights"]) fun _ _ _ _ _ _=>al3 fun _ _ _=>rfl
 have FP:=a0z (st:=b2S) liCput ciCput kkCput
 have bP:=FP.binds (ps:=["self","first","end","floor"]) fun _ _ _ _ _ _=>al4 fun _ _ _ _=>rfl
 have FL:=a0z (st:=sLs) liCleast_sum ciCleast_sum kkCleast_sum
 have bL:=FL.binds (ps:=["self","letter","first","end","last"]) fun _ _ _ _ _ _=>al5 fun _ _ _ _ _=>rfl
 have FB:=a0z (st:=a3w) liCbound ciCbound kkCbound
 have bB:=FB.binds (ps:=["self","first","end"]) fun _ _ _ _ _ _=>al3 fun _ _ _=>rfl
 have FR:=a0z (st:=a5w) liCbound_row ciCbound_row kkCbound_row
 have bR:=FR.binds (ps:=["self","first"]) fun _ _ _ _ _ _=>al2 fun _ _=>rfl
 have FS:=a0z (st:=a2g) liCbounds ciCbounds kkCbounds
 have bS:=FS.binds (ps:=["self"]) fun _ _ _ _ _ _=>al1 fun _=>rfl
 have FW:=a0z (st:=a6P) liCways ciCways kkCways
 have bW:=FW.binds (ps:=["self","letter","first","end"]) fun _ _ _ _ _ _=>al4 fun _ _ _ _=>rfl
 have B1:Fns l.prog w K mg base ["weights"] "weight_sums" a7T 2:=⟨_,_,(b1Z F1).mono (by decide),b1,k1,m1⟩
 have B2:Fns l.prog w K mg base ["side","at","number"] "row_with" b2c 1:=⟨_,_,ok_row F2,b2,k2,m2⟩
 have B3:Fns l.prog w K mg base ["side","diagonal"] "square" a4i 2:=⟨_,_,a7X F3 (B2.up (by decide)) B_range,b3,k3,m3⟩
 have B4:Fns l.prog w K mg base ["numbers"] "least" a3y 1:=⟨_,_,a9O F4 B_min,b4,k4,m4⟩
 have B5:Fns l.prog w K mg base ["one","other"] "added" a3z 1:=⟨_,_,a9P F5,b5,k5,m5⟩
 have ML:Mt l.prog w K mg base C "least_sum" ["self","letter","first","end","last"] (spLs C) 2:=⟨_,_,⟨faCleast_sum,fiCleast_sum,kkCleast_sum⟩,ok_ls FL B4 B5 rc B_range,bL⟩
 have MB:Mt l.prog w K mg base C "bound" ["self","first","end"] (a4k C) 3:=⟨_,_,⟨faCbound,fiCbound,kkCbound⟩,a9S FB (B4.up (by decide)) ML rc B_len B_range,bB⟩
 have MP:Mt l.prog w K mg base C "put" ["self","first","end","floor"] (a9T C) 3:=⟨_,_,⟨faCput,fiCput,kkCput⟩,ok_put FP (B4.up (by decide)) (B5.up (by decide)) ML rc B_len B_range,bP⟩
 have MR:Mt l.prog w K mg base C "bound_row" ["self","first"] (a8e C) 4:=⟨_,_,⟨faCbound_row,fiCbound_row,kkCbound_row⟩,b2h FR MB rc B_range,bR⟩
 have MS:Mt l.prog w K mg base C "bounds" ["self"] (a2u C) 5:=⟨_,_,⟨faCbounds,fiCbounds,kkCbounds⟩,a8f FS MR rc B_range,bS⟩
 have MW:Mt l.prog w K mg base C "ways" ["self","letter","first","end"] (a3U C) 3:=⟨_,_,⟨faCways,fiCways,kkCways⟩,(b2n FW (B5.up (by decide)) rc B_len B_range).mono (by decide),bW⟩
 have cl:Cl l.prog w K mg base C:=⟨rc,PySem.W.mg_of X G gC,_,_,⟨mkC,faCinit,fiCinit,kcC⟩,a9R FI B1 B3 rc B_len B_range,bI⟩
 have B6:Fns l.prog w K mg base ["prices","weights","floors"] "parted_by" (spPb C) 5:=⟨_,_,ok_pb F6 cl (MP.up (by decide)) B_len B_range,b6,k6,m6⟩
 have B7:Fns l.prog w K mg base ["prices","weights"] "parted_least" (Kp.spPl C) 5:=⟨_,_,Kp.ok_pl F7 cl (MP.up (by decide)) (MB.up (by decide)) B_len B_range,b7,k7,m7⟩
 have B9:a7C l.prog w K mg base ["top"] "refuse_top" a8l 5:=⟨_,_,(ok_top F9 (PySem.W.mg_of X G gCB) ⟨eCB⟩).mono (by decide),b9,k9,m9⟩
 have B10:Fns l.prog w K mg base ["letters","things"] "least_top" spLt 78:=⟨_,_,(ok_lt F10).mono (by decide),b10,k10,m10⟩
 have B11:Fns l.prog w K mg base ["things"] "bounds_on_ground" a2X 5:=⟨_,_,(a8m F11 B_range).mono (by decide),b11,k11,m11⟩
 have B12:a7C l.prog w K mg base ["prices","weights","top"] "least_stairs" a4n 76:=⟨_,_,(a8q F12 B9 B11 B6 MS rc B_len B_range).mono (by decide),b12,k12,m12⟩
 obtain ⟨bm,BM⟩:=hBM
 have LC:LamC K mg base c0 T bm:=⟨lhd,BM.hbm,BM.bo,BM.b1,BM.b2,BM.b3 T hT,BM.b4 T hT⟩
 have LD:Kp.LamC K mg base ce U bm:=⟨lhe,BM.hbm,BM.bo,BM.b1,BM.b2,BM.b3 U hU,BM.b4 U hU⟩
 have B14:Fns l.prog w K mg base ["steps","step","first","end"] "bounded_words" (spBw C T 24) 76:=⟨_,_,ok_bw F14 hcd LC m14 k14 b14 F8 m8 k8 b8 MW rc 24,b14,k14,m14⟩
 have B13:Fns l.prog w K mg base ["prices","weights","top"] "cheapest_bounded" (spCb T) 77:=⟨_,_,ok_cb (by decide) F13 B12 (B6.up (by decide)) B14 B_len B_tuple,b13,k13,m13⟩
 have B34:Fns l.prog w K mg base ["parted","first","end"] "kept_words" (Kp.spKw C U 20) 64:=⟨_,_,Kp.ok_kw F34 hce LD m34 k34 b34 F8 m8 k8 b8 MW rc 20,b34,k34,m34⟩
 have B33:Fns l.prog w K mg base ["prices","weights"] "cheapest_kept" (Kp.spCk U) 65:=⟨_,_,Kp.ok_ck (by decide) F33 B7 MS B34 rc B_len B_tuple,b33,k33,m33⟩
 have B15:Fns l.prog w K mg base ["word","letters"] "has_letters_alone" E.a4t 1:=⟨_,_,E.b0e F15 B_all,b15,k15,m15⟩
 have B16:Fns l.prog w K mg base ["prices","word"] "word_price" E.a5C 2:=⟨_,_,E.b0f F16 B15 B_len B_sum,b16,k16,m16⟩
 have B17:Fns l.prog w K mg base ["one","other"] "begins" E.a4s 1:=⟨_,_,E.a8E F17 B_len,b17,k17,m17⟩
 have B18:Fns l.prog w K mg base ["code"] "clash" E.a5A 2:=⟨_,_,E.b0d F18 B17 B_len B_range,b18,k18,m18⟩
 have B19:Fns l.prog w K mg base ["code"] "rises" E.a5E 1:=⟨_,_,E.b0h F19 B_len B_range B_all,b19,k19,m19⟩
 have B20:Fns l.prog w K mg base ["code"] "is_kept" E.a8F 3:=⟨_,_,E.b2y F20 (B19.up (by decide)) B18,b20,k20,m20⟩
 have B21:Fns l.prog w K mg base ["prices","weights","code"] "cost" E.a5D 3:=⟨_,_,E.b0g F21 B16 B_len B_sum B_zip,b21,k21,m21⟩
 have B23:Fns l.prog w K mg base ["prices","weights","code"] "is_kept_for" E.spKf 4:=⟨_,_,E.ok_kf F23 B20 (B15.up (by decide)) B_len B_all,b23,k23,m23⟩
 have B25:Fns l.prog w K mg base ["floor","bound"] "is_above" a9Z 1:=⟨_,_,ok_isa F25,b25,k25,m25⟩
 have B24:Fns l.prog w K mg base ["floors","bounds"] "first_above" a5y 2:=⟨_,_,b0a F24 B25 B_len B_range,b24,k24,m24⟩
 have B22:Fns l.prog w K mg base ["weights","floors"] "has_rows" b2s 1:=⟨_,_,ok_has F22 B_len B_range B_list,b22,k22,m22⟩
 have B30:Fns l.prog w K mg base ["weights","top","stairs"] "has_steps" a4r 2:=⟨_,_,b0b F30 B22 B_len B_all,b30,k30,m30⟩
 have B32:Fns l.prog w K mg base ["prices","weights","stairs","step"] "bounds_on" spOn 6:=⟨_,_,ok_on F32 B11 B6 MS rc B_len,b32,k32,m32⟩
 have B26:a7C l.prog w K mg base ["prices","weights","top","stairs"] "step_lie" (a8C CU) 7:=⟨_,_,b2u F26 (B9.up (by decide)) (B30.up (by decide)) (B24.up (by decide)) B32 (PySem.W.mg_of X G gCU) ⟨eCU⟩ B_range,b26,k26,m26⟩
 have B29:Fns l.prog w K mg base ["prices","weights","top","stairs"] "stairs_hold" a6g 8:=⟨_,_,b2A (CU:=CU) F29 (B9.up (by decide)) (B30.up (by decide)) B26,b29,k29,m29⟩
 have B31:Fns l.prog w K mg base ["code","top"] "is_bounded" spBd 1:=⟨_,_,ok_bd F31 B_len B_all,b31,k31,m31⟩
 have B28:Fns l.prog w K mg base ["prices","weights","top","stairs"] "shows_none" spSn 9:=⟨_,_,ok_sn F28 B29,b28,k28,m28⟩
 have B27:Fns l.prog w K mg base ["prices","weights","top","code","stairs"] "shows_bounded" spSb 9:=⟨_,_,ok_sb F27 B29 (B23.up (by decide)) (B31.up (by decide)) (B25.up (by decide)) (B21.up (by decide)),b27,k27,m27⟩
 have B35:Fns l.prog w K mg base ["script","many"] "_law_folded" (a4l K) 78:=⟨_,_,(a8g F35 B_len B_range B_sum).mono (by decide),b35,k35,m35⟩
 have B36:Fns l.prog w K mg base ["cell","manner"] "_law_number" a4m 1:=⟨_,_,a8h F36,b36,k36,m36⟩
 have B37:Fns l.prog w K mg base ["parts","at","many","turn"] "_law_numbers" a8R 78:=⟨_,_,(b2M F37 B36 B_range B_tuple).mono (by decide),b37,k37,m37⟩
 have B38:Fns l.prog w K mg base ["prices","weights","top"] "_law_none_right" (spNr T U) 78:=⟨_,_,ok_nr ne F38 B13 (B28.up (by decide)),b38,k38,m38⟩
 have B39:Fns l.prog w K mg base ["prices","weights","top","found"] "_law_told_right" spTr 78:=⟨_,_,ok_tr (k:=77) F39 (B28.up (by decide)) (B27.up (by decide)),b39,k39,m39⟩
 exact ok_law ne F40 B35 B37 B10 B38 (B13.up (by decide)) B39 (B27.up (by decide)) (B33.up (by decide)) B_max B_sorted B_set
theorem walk {l:PySem.W.OpenLaw} {q:Program} {loose:List Str} {XP:(Str→Option Value)→Heap→Prop} {YP:World→Heap→Prop} {d:DefRec} {K:Params→PySem.W.Frag} {ts:List Addr} {T U:Addr} (hT:T∈ts) (hU:U∈ts) (hn:l.most=some 63) (hdf:d.params.defaults=[])
  (hY:∀ (w:World) (h:Heap),YP w h→(K w.params).In h∧∀ T∈ts,h.get? T=some (PySem.W.tabObj #[]))
  (hC:∀ (w:World),∀ T∈ts,(∃ c,PySem.W.codeHdIn (K w.params) c T=true)∧(K w.params).lookup T=none)
  (F:∀ (w:World) (mg:Str→Option Value) (fa:Addr) (h:Heap),(K w.params).In h→h.Ns mainGlobals mg→mg d.name=some (.ref fa) →
   ∃ fd:FuncData,(∀ (s:Shared) (u:Value),BindsTo s fd ⟨[u],[]⟩ [("script",u)])∧∀ base:Heap,(K w.params).In base→base.Ns mainGlobals mg→(∃ bm,L2.BMod mg base ts bm)→a0W l.prog w (K w.params) mg base CX0 79 fa fd ["script"] (b0t (K w.params) T U)) :
  PySem.W.WalkO q loose XP YP l.row.toRowW d [] (fun f vs=>PySem.call f vs) :=
 L2.a9H (n:=63) (k:=79) (x:="script") (ts:=ts) (CX:=fun _=>CX0) (sp:=fun w=>b0t (K w.params) T U) hn (by decide) hdf ⟨rfl,by decide,by decide⟩ hY hC F (fun _ _ a ns hl hO hS=>⟨a,ns,rfl,hS,hl,⟨.inl (hO T hT),.inl (hO U hU)⟩,fun _=>rfl⟩) fun _ _ _ _ _ z=>z
end K47
namespace PySem.W.Fast
def tw10055353967456139337:=0
def tw14128053784432138753:=0
def tw3034148220308912908:=0
def tw7174001584190775483:=0
def tw8417702482301909628:=0
def tw7691169042203400572:=0
def tw15799729046824585704:=0
def tw13651911977804378499:=0
def tw11248566382712568306:=0
def tw14482887992433166697:=0
def tw17681929546615996589:=0
def tw12461476738483107442:=0
def tw3974747230104217906:=0
def tw12304092203718573341:=0
def tw18025171256563815141:=0
def tw11620773630188639457:=0
def tw15936903032410645484:=0
def tw869965455654074406:=0
def tw13838486288286307026:=0
def tw13887948041395573728:=0
def tw30048181919103460:=0
def tw18205286070216215097:=0
def tw8288060306095409240:=0
def tw17876539483193484295:=0
def tw3759781968958831492:=0
def tw11168243902187481365:=0
def tw2067167892874868261:=0
def tw16961706063414872213:=0
def tw8972744507772556668:=0
def tw12750544201897276219:=0
def tw9820477833397743245:=0
def tw1664335404107257267:=0
def tw4232049982053425479:=0
def tw17590816988538044750:=0
def tw2010323605586355090:=0
def tw3912891678396450416:=0
def tw6771920692195278227:=0
def tw12764846464810894634:=0
def tw1818090108399295191:=0
def tw11928873286198682892:=0
def tw4337079997883798390:=0
def tw14074500249364805267:=0
def tw9819457216111553292:=0
def tw5271545015821648216:=0
def tw15959118345511369198:=0
def tw10834307095898079264:=0
def tw17990697851847487554:=0
def tw776572068069554618:=0
def tw18330866807378735172:=0
def tw14509874109268106550:=0
def tw2338439322022142564:=0
def tw8565512801377484008:=0
def tw2238691629179397441:=0
def tw8196743377422157428:=0
def tw3103977727040294772:=0
def tw5441181481166952841:=0
def tw3259235717431891366:=0
def tw16695726594352433423:=0
def tw4298284156105387309:=0
def tw12006972330490062118:=0
def tw9782981429818293143:=0
def tw17607532006333038931:=0
def tw16768607394151625483:=0
def tw1822628527616706244:=0
def tw2168823143563250837:=0
def tw6342800056297409941:=0
def tw6310993734131907274:=0
def tw14387090957494037324:=0
def tw10318839073393209505:=0
def tw606864301880251606:=0
def tw18371828573718517724:=0
def tw11310151706535120006:=0
def tw11357010172268881565:=0
def tw16925387474597930258:=0
def tw14428078743849126274:=0
def tw9072781246564159710:=0
def tw1946736542598522328:=0
def tw7517250502929148134:=0
def tw14523850943940304383:=0
def tw12666017525532975946:=0
def tw5089743333340470892:=0
def tw10995160250403968716:=0
def tw8856315573354466205:=0
def tw9448261800609239869:=0
def tw12712676311400437554:=0
def tw1336843570135231797:=0
def tw1289601176987406340:=0
def tw2078615514216841053:=0
def tw8466453738772074968:=0
def tw8235017229637024802:=0
def tw11745922088702865842:=0
def tw16212919474298100778:=0
def tw15853597742637179369:=0
def tw4182669217636098945:=0
def tw16989544458347070796:=0
def tw17037058231128027157:=0
def tw13562850848580411101:=0
def tw1298796436128177750:=0
def tw7510677009437593150:=0
def tw13722651652438042868:=0
def tw14097602604723957266:=0
def tw424353396648978865:=0
def tw10590918941668745679:=0
def tw16126359360850360724:=0
def tw13555383672956772392:=0
def tw2120454889609651340:=0
def tw1019232770435287261:=0
def tw14866801691669858289:=0
def tw8447238354046154641:=0
def tw10508322172818296326:=0
def tw6231275617714916121:=0
def tw6394383019080594861:=0
def tw3611164006623212997:=0
def tw1219830766466368653:=0
def tw482767852891775712:=0
def tw12601861714594534179:=0
def tw4480671247562558692:=0
def tw14287232584162877275:=0
def tw3616240340595031585:=0
def tw11112041859818688603:=0
def tw15247294542665268976:=0
def tw9524849078664555405:=0
def tw621443457172005883:=0
def tw2645357768432422868:=0
def tw17187728919413555678:=0
def tw3970036323920008497:=0
def tw7217152925337333701:=0
def tw4467184085887727048:=0
def tw9623920487888074015:=0
def tw17957773014190508055:=0
def tw13139413470559573585:=0
def tw11910590980316235063:=0
def tw8041665199797584553:=0
def tw15933779661765944217:=0
def tw8279656040242595582:=0
def tw8107454387603770617:=0
def tw17679746865348791613:=0
def tw12600200912941090349:=0
def tw13580092705784318852:=0
def tw14118378452341689898:=0
def tw5010937894614850549:=0
def tw7564542557178636060:=0
def tw1733671728408598402:=0
def tw16181433701822155360:=0
def tw13162368234176767621:=0
def tw8509664191834028082:=0
def tw3209657207793497714:=0
def tw9651937868952390344:=0
def tw7668863671498082799:=0
def tw5820327864883451493:=0
def tw4532945642898485489:=0
def tw11918212571062234240:=0
def tw8782133030032331499:=0
def tw11321571142762930456:=0
def tw17645668069507288190:=0
def tw4147341112226941947:=0
def tw3013359744973670130:=0
def tw17669982012750060555:=0
def tw17556824370499175788:=0
def tw15937554575854798541:=0
def tw3841483095623175062:=0
def tw16443608447562554185:=0
def tw10093403613903281158:=0
def tw11626687073931608386:=0
def tw8099321640529519561:=0
def tw7217549878827982110:=0
def tw651086865396948600:=0
def tw4420259952867654192:=0
def tw12724687305712155028:=0
def tw12345243224842164414:=0
def tw9342771692553911035:=0
def tw7871081724944130174:=0
def tw17518845535549880590:=0
def tw7696307904904118456:=0
def tw3388925491560188133:=0
def tw12269686642384250807:=0
def tw4935540568628409111:=0
def tw9483111641568763417:=0
def tw8154419434502681054:=0
def tw17867534873338196173:=0
def tw15373267345818020886:=0
def tw14501008472718487677:=0
def tw3399602877486287330:=0
def tw17543364550645181446:=0
def tw7047750394845999758:=0
def tw6268376974674470194:=0
def tw18020727553558325733:=0
def tw15821381905743634385:=0
def tw99028787042961917:=0
def tw9900072546836633048:=0
def tw9570643490663093109:=0
def tw9184861459285670940:=0
def tw7446301658932108237:=0
def tw7414540641563307299:=0
def tw6785175021142256571:=0
def tw5007994823473990471:=0
def tw3990989896257782410:=0
def tw294377845151832064:=0
def tw18098117165519066911:=0
def tw18089953755858380691:=0
def tw14716202780916727143:=0
def tw146343458392101651:=0
def tw14445736184768680063:=0
def tw14307194141726799325:=0
def tw13933540139860428372:=0
def tw13866434961326992878:=0
def tw13389761037005714674:=0
def tw13287988209751681247:=0
def tw12672642778151569528:=0
def tw1264030181225992704:=0
def tw12470459518430801252:=0
def tw12439941077820296248:=0
def tw11769909989102287293:=0
def tw11624147027586908470:=0
def tw11212030971620966933:=0
def tw11128555818906047436:=0
def tw10312510583712120041:=0
def tw14496744274611382415:=0
def tw12819693755450002524:=0
def tw9101327007394994507:=0
def tw907545922160941545:=0
def tw13016181832824130381:=0
def tw15747304099545625495:=0
def tw9244654627791266415:=0
def tw2457585732813613329:=0
def tw14653484291637203263:=0
def tw1067143707920349754:=0
def tw4873409121701247834:=0
def tw10367713995967710145:=0
def tw15760807671813266363:=0
def tw14903186334344912202:=0
def tw603770399552797697:=0
def tw4823601790036224332:=0
def tw17416126227943286979:=0
def tw10446854291234801212:=0
def tw9098012811098515736:=0
def tw15829450973535938220:=0
def tw3785313884089647289:=0
def tw13995423223089693621:=0
def tw2133434668855153741:=0
def tw18141804976405624193:=0
def tw18055716366557364321:=0
def tw10521990425048311963:=0
def tw14581812366787153204:=0
def tw14538452599627313214:=0
def tw7140700409729911398:=0
def tw2463363105598439386:=0
def tw3624870339938498197:=0
def tw229404658152935415:=0
def tw9215274707510626795:=0
def tw8818543761564136884:=0
def tw8533683390718016423:=0
def tw15579164684625793827:=0
def tw9363938011121586644:=0
def tw8734379154970205330:=0
def tw7959885104833376645:=0
def tw795403347682331660:=0
def tw3760395273810846288:=0
def tw18234242423356462168:=0
def tw17534589921974491053:=0
def tw13741803095923431489:=0
def tw13288317495160454122:=0
def tw1221071560474545020:=0
def tw3124957725720523682:=0
def tw1817200394306532274:=0
def tw9861172754837262448:=0
def tw9769623800399949738:=0
def tw9709003629855668131:=0
def tw9093429898268502959:=0
def tw8538072235631432183:=0
def tw8367783622726700633:=0
def tw7744951355583022270:=0
def tw7547369389182015288:=0
def tw7483739068524536922:=0
def tw7376499136386267257:=0
def tw7203916523264790069:=0
def tw6932073962418831061:=0
def tw6656647173203280364:=0
def tw638128249312596236:=0
def tw6380894746765469838:=0
def tw5892692099592367347:=0
def tw5724986606498816020:=0
def tw5698908379315376748:=0
def tw5594049680720144420:=0
def tw5377103666063640581:=0
def tw5373772518755665724:=0
def tw5343887832042555992:=0
def tw5154347045078918456:=0
def tw4932295468549346940:=0
def tw4929759946864945555:=0
def tw4845702998593659065:=0
def tw3665710662408138890:=0
def tw3549327066064617198:=0
def tw349401221472507731:=0
def tw3174692211426374255:=0
def tw2885226760609146535:=0
def tw2883268066660649667:=0
def tw2858306822118849624:=0
def tw2636066891602982865:=0
def tw2357437492384549777:=0
end PySem.W.Fast
open PySem PySem.W PyProof.Rows
set_option maxRecDepth 100000 in
set_option maxHeartbeats 0 in
theorem PySem.Challenge.cw_lettertoll_k47_whole_top_by_top_holds : PySem.Challenge.rw_lettertoll_k47_whole_top_by_top.Holds := by
 w_on;o_law;k_head;(case hw=>w_witness2)
 k_fill
 refine K47.walk (T:=199) (U:=323) (l:=PySem.Challenge.rw_lettertoll_k47_whole_top_by_top) ?hT ?hU rfl rfl (fun w h Y=>⟨PySem.W.km_in_of Y,PySem.W.km_tabs_of Y⟩) ?hC ?F
 (case hT=>first | exact List.Mem.head _ | exact List.Mem.tail _ (List.Mem.head _))
 (case hU=>first | exact List.Mem.tail _ (List.Mem.head _) | exact List.Mem.head _)
 (case hC=>intro w T hT;rcases List.mem_cons.mp hT with hT | hT;(subst hT;exact ⟨⟨327,by kernel_rfl⟩,by kernel_rfl⟩);(cases List.mem_singleton.mp hT;exact ⟨⟨203,by kernel_rfl⟩,by kernel_rfl⟩))
 case F =>
  intro w mg fa h KX G hmg
  refine' K47.all_mk ?hT ?hU (by decide) KX G hmg ?a1 ?l1 ?c1 ?k1 ?a2 ?l2 ?c2 ?k2 ?a3 ?l3 ?c3 ?k3 ?a4 ?l4 ?c4 ?k4 ?a5 ?l5 ?c5 ?k5 ?a6 ?l6 ?c6 ?k6 ?a7 ?l7 ?c7 ?k7 ?a8 ?l8 ?c8 ?k8 ?a9 ?l9 ?c9 ?k9 ?a10 ?l10 ?c10 ?k10 ?a11 ?l11 ?c11 ?k11 ?a12 ?l12 ?c12 ?k12 ?a13 ?l13 ?c13 ?k13 ?a14 ?l14 ?c14 ?k14 ?a15 ?l15 ?c15 ?k15 ?a16 ?l16 ?c16 ?k16 ?a17 ?l17 ?c17 ?k17 ?a18 ?l18 ?c18 ?k18 ?a19 ?l19 ?c19 ?k19 ?a20 ?l20 ?c20 ?k20 ?a21 ?l21 ?c21 ?k21 ?a22 ?l22 ?c22 ?k22 ?a23 ?l23 ?c23 ?k23 ?a24 ?l24 ?c24 ?k24 ?a25 ?l25 ?c25 ?k25 ?a26 ?l26 ?c26 ?k26 ?a27 ?l27 ?c27 ?k27 ?a28 ?l28 ?c28 ?k28 ?a29 ?l29 ?c29 ?k29 ?a30 ?l30 ?c30 ?k30 ?a31 ?l31 ?c31 ?k31 ?a32 ?l32 ?c32 ?k32 ?a33 ?l33 ?c33 ?k33 ?a34 ?l34 ?c34 ?k34 ?a35 ?l35 ?c35 ?k35 ?a36 ?l36 ?c36 ?k36 ?a37 ?l37 ?c37 ?k37 ?a38 ?l38 ?c38 ?k38 ?a39 ?l39 ?c39 ?k39 ?a40 ?l40 ?c40 ?k40 ?z1 ?z2 ?z3 ?z4 ?z5 ?z6 ?z7 ?z8 ?z9 ?z10 ?z11 ?gD ?xD ?eD ?gCU ?xCU ?eCU ?gCB ?xCB ?eCB ?gC ?faCinit ?fiCinit ?liCinit ?ciCinit ?kkCinit ?faCput ?fiCput ?liCput ?ciCput ?kkCput ?faCleast_sum ?fiCleast_sum ?liCleast_sum ?ciCleast_sum ?kkCleast_sum ?faCbound ?fiCbound ?liCbound ?ciCbound ?kkCbound ?faCbound_row ?fiCbound_row ?liCbound_row ?ciCbound_row ?kkCbound_row ?faCbounds ?fiCbounds ?liCbounds ?ciCbounds ?kkCbounds ?faCways ?fiCways ?liCways ?ciCways ?kkCways ?pgC ?hdC ?poC ?saC ?mkC ?kcC ?naCprices ?naCthings ?naCsums ?naCheads ?naCtails ?hcd ?lhd ?hce ?lhe
  (case hT=>first | exact List.Mem.head _ | exact List.Mem.tail _ (List.Mem.head _))
  (case hU=>first | exact List.Mem.tail _ (List.Mem.head _) | exact List.Mem.head _)
  (case a1=>k_is);(case l1=>k_is);(case c1=>k_is);(case k1=>k_is)
  (case a2=>k_is);(case l2=>k_is);(case c2=>k_is);(case k2=>k_is)
  (case a3=>k_is);(case l3=>k_is);(case c3=>k_is);(case k3=>k_is)
  (case a4=>k_is);(case l4=>k_is);(case c4=>k_is);(case k4=>k_is)
  (case a5=>k_is);(case l5=>k_is);(case c5=>k_is);(case k5=>k_is)
  (case a6=>k_is);(case l6=>k_is);(case c6=>k_is);(case k6=>k_is)
  (case a7=>k_is);(case l7=>k_is);(case c7=>k_is);(case k7=>k_is)
  (case a8=>k_is);(case l8=>k_is);(case c8=>k_is);(case k8=>k_is)
  (case a9=>k_is);(case l9=>k_is);(case c9=>k_is);(case k9=>k_is)
  (case a10=>k_is);(case l10=>k_is);(case c10=>k_is);(case k10=>k_is)
  (case a11=>k_is);(case l11=>k_is);(case c11=>k_is);(case k11=>k_is)
  (case a12=>k_is);(case l12=>k_is);(case c12=>k_is);(case k12=>k_is)
  (case a13=>k_is);(case l13=>k_is);(case c13=>k_is);(case k13=>k_is)
  (case a14=>k_is);(case l14=>k_is);(case c14=>k_is);(case k14=>k_is)
  (case a15=>k_is);(case l15=>k_is);(case c15=>k_is);(case k15=>k_is)
  (case a16=>k_is);(case l16=>k_is);(case c16=>k_is);(case k16=>k_is)
  (case a17=>k_is);(case l17=>k_is);(case c17=>k_is);(case k17=>k_is)
  (case a18=>k_is);(case l18=>k_is);(case c18=>k_is);(case k18=>k_is)
  (case a19=>k_is);(case l19=>k_is);(case c19=>k_is);(case k19=>k_is)
  (case a20=>k_is);(case l20=>k_is);(case c20=>k_is);(case k20=>k_is)
  (case a21=>k_is);(case l21=>k_is);(case c21=>k_is);(case k21=>k_is)
  (case a22=>k_is);(case l22=>k_is);(case c22=>k_is);(case k22=>k_is)
  (case a23=>k_is);(case l23=>k_is);(case c23=>k_is);(case k23=>k_is)
  (case a24=>k_is);(case l24=>k_is);(case c24=>k_is);(case k24=>k_is)
  (case a25=>k_is);(case l25=>k_is);(case c25=>k_is);(case k25=>k_is)
  (case a26=>k_is);(case l26=>k_is);(case c26=>k_is);(case k26=>k_is)
  (case a27=>k_is);(case l27=>k_is);(case c27=>k_is);(case k27=>k_is)
  (case a28=>k_is);(case l28=>k_is);(case c28=>k_is);(case k28=>k_is)
  (case a29=>k_is);(case l29=>k_is);(case c29=>k_is);(case k29=>k_is)
  (case a30=>k_is);(case l30=>k_is);(case c30=>k_is);(case k30=>k_is)
  (case a31=>k_is);(case l31=>k_is);(case c31=>k_is);(case k31=>k_is)
  (case a32=>k_is);(case l32=>k_is);(case c32=>k_is);(case k32=>k_is)
  (case a33=>k_is);(case l33=>k_is);(case c33=>k_is);(case k33=>k_is)
  (case a34=>k_is);(case l34=>k_is);(case c34=>k_is);(case k34=>k_is)
  (case a35=>k_is);(case l35=>k_is);(case c35=>k_is);(case k35=>k_is)
  (case a36=>k_is);(case l36=>k_is);(case c36=>k_is);(case k36=>k_is)
  (case a37=>k_is);(case l37=>k_is);(case c37=>k_is);(case k37=>k_is)
  (case a38=>k_is);(case l38=>k_is);(case c38=>k_is);(case k38=>k_is)
  (case a39=>k_is);(case l39=>k_is);(case c39=>k_is);(case k39=>k_is)
  (case a40=>k_is);(case l40=>k_is);(case c40=>k_is);(case k40=>k_is)
  (case z1=>k_is)
  (case z2=>k_is)
  (case z3=>k_is)
  (case z4=>k_is)
  (case z5=>k_is)
  (case z6=>k_is)
  (case z7=>k_is)
  (case z8=>k_is)
  (case z9=>k_is)
  (case z10=>k_is)
  (case z11=>k_is)
  (case gD=>k_is)
  (case xD=>kernel_rfl)
  (case eD=>kernel_rfl)
  (case gCU=>k_is)
  (case xCU=>kernel_rfl)
  (case eCU=>kernel_rfl)
  (case gCB=>k_is)
  (case xCB=>kernel_rfl)
  (case eCB=>kernel_rfl)
  (case gC=>k_is)
  (case faCinit=>k_is)
  (case fiCinit=>k_is)
  (case liCinit=>k_is)
  (case ciCinit=>k_is)
  (case kkCinit=>k_is)
  (case faCput=>k_is)
  (case fiCput=>k_is)
  (case liCput=>k_is)
  (case ciCput=>k_is)
  (case kkCput=>k_is)
  (case faCleast_sum=>k_is)
  (case fiCleast_sum=>k_is)
  (case liCleast_sum=>k_is)
  (case ciCleast_sum=>k_is)
  (case kkCleast_sum=>k_is)
  (case faCbound=>k_is)
  (case fiCbound=>k_is)
  (case liCbound=>k_is)
  (case ciCbound=>k_is)
  (case kkCbound=>k_is)
  (case faCbound_row=>k_is)
  (case fiCbound_row=>k_is)
  (case liCbound_row=>k_is)
  (case ciCbound_row=>k_is)
  (case kkCbound_row=>k_is)
  (case faCbounds=>k_is)
  (case fiCbounds=>k_is)
  (case liCbounds=>k_is)
  (case ciCbounds=>k_is)
  (case kkCbounds=>k_is)
  (case faCways=>k_is)
  (case fiCways=>k_is)
  (case liCways=>k_is)
  (case ciCways=>k_is)
  (case kkCways=>k_is)
  (case pgC=>k_is)
  (case hdC=>k_is)
  (case poC=>k_is)
  (case saC=>k_is)
  (case mkC=>k_is)
  (case kcC=>k_is)
  (case naCprices=>k_is)
  (case naCthings=>k_is)
  (case naCsums=>k_is)
  (case naCheads=>k_is)
  (case naCtails=>k_is)
  (case hcd=>rfl)
  (case lhd=>kernel_rfl)
  (case hce=>rfl)
  (case lhe=>kernel_rfl)
