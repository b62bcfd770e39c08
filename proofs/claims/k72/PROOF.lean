import PyProof.Rows.All
import Wide.All
import OpenK.AllK
import Wide.FinOn
import Lean
import PyProof.EqAt
import PyProof.EqKinds
import PyProof.TupleCall
import PyProof.NeKinds
import PyProof.ConsumeWalk
import PyProof.SumAny
import PyProof.Rows.SumGenD
import PyProof.ZipIter
import PyProof.DictWalks
import KE.KSortTup
import PyProof.EnumMake
import KE.IntBitsLaws
import PyProof.Rows.SortLt
import PyProof.Rows.SortRuns
import PyProof.WalkInts
import PyProof.MinMaxWalk
import PyProof.TupleOfSeq
import PyProof.Rows.SortShell
import PyProof.ListRange
import KE.KLam
import KE.KNestM
import PyProof.Rows.SetFrom
import KE.KSortKey
import PyProof.TupleKey
import PyProof.DictKinds
import PySem.Challenge.RW_lettertoll_k72_whole_rows_make_codes
set_option Elab.async false
set_option linter.all false
set_option maxRecDepth 100000
set_option maxHeartbeats 16000000
namespace L2
open PySem PySem.Spec PyProof.Rows
abbrev Key:=Sum Int Str
def keyIs:Key→Value→Bool
 | .inl k,v=>Value.isInt k v
 | .inr x,v=>Value.isStrOf x v
def keyH (w:World):Key→Int
 | .inl k=>hashInt k
 | .inr x=>hashStr w x
theorem a0K:∀ {k:Key} {v:Value},keyIs k v=true→(∃ i t,k=Sum.inl i∧v=Value.int i t)∨(∃ x t,k=Sum.inr x∧v=Value.str x t)
 | .inl i,v,h=>by
  obtain ⟨t,e⟩:=Value.isInt_shape (k:=i) (v:=v) h
  exact .inl ⟨i,t,rfl,e⟩
 | .inr x,v,h=>by
  obtain ⟨t,e⟩:=Value.isStrOf_shape (x:=x) (v:=v) h
  exact .inr ⟨x,t,rfl,e⟩
theorem key_ll (a b:Int):decide ((Sum.inl a:Key)=Sum.inl b)=(a == b):=by
 by_cases e:a=b
 ·subst e;simp
 ·have h:¬ (Sum.inl a:Key)=Sum.inl b:=fun q=>e (Sum.inl.inj q)
  rw [decide_eq_false h]
  exact (beq_eq_false_iff_ne.mpr e).symm
theorem key_rr (a b:Str):decide ((Sum.inr a:Key)=Sum.inr b)=decide (a=b):=by
 by_cases e:a=b
 ·subst e;simp
 ·have h:¬ (Sum.inr a:Key)=Sum.inr b:=fun q=>e (Sum.inr.inj q)
  rw [decide_eq_false h,decide_eq_false e]
theorem key_lr (a:Int) (b:Str):decide ((Sum.inl a:Key)=Sum.inr b)=false:=decide_eq_false (fun q=>nomatch q)
theorem key_rl (a:Str) (b:Int):decide ((Sum.inr a:Key)=Sum.inl b)=false:=decide_eq_false (fun q=>nomatch q)
def a3D (prog:Program) (w:World):PySem.KeyKind prog w Key where
 is:=keyIs
 hash:=keyH w
 inj:=fun v a b ha hb=>by
  rcases a0K ha with ⟨i,t,rfl,rfl⟩ | ⟨x,t,rfl,rfl⟩
  ·rcases a0K hb with ⟨j,u,rfl,e⟩ | ⟨y,u,rfl,e⟩
   ·injection e with e1 _;rw [e1]
   ·exact nomatch e
  ·rcases a0K hb with ⟨j,u,rfl,e⟩ | ⟨y,u,rfl,e⟩
   ·exact nomatch e
   ·injection e with e1 _;rw [e1]
 byValue:=fun k v h=>by
  rcases a0K h with ⟨i,t,rfl,rfl⟩ | ⟨x,t,rfl,rfl⟩ <;> rfl
 pyHash:=fun hv h=>by
  rcases a0K hv with ⟨i,t,rfl,rfl⟩ | ⟨x,t,rfl,rfl⟩
  ·exact wpAny_pyHash_int h
  ·exact wpAny_pyHash_str h
 eqBool:=fun hu hv h=>by
  rcases a0K hu with ⟨i,t,rfl,rfl⟩ | ⟨x,t,rfl,rfl⟩
  ·rcases a0K hv with ⟨j,u,rfl,rfl⟩ | ⟨y,u,rfl,rfl⟩
   ·rw [key_ll] at h;exact wpAny_eqBool_int h
   ·rw [key_lr] at h;exact SeqAt.EqAt.int_str i t y u _ _ _ _ h
  ·rcases a0K hv with ⟨j,u,rfl,rfl⟩ | ⟨y,u,rfl,rfl⟩
   ·rw [key_rl] at h;exact SeqAt.EqAt.str_int x t j u _ _ _ _ h
   ·rw [key_rr] at h;exact wpAny_eqBool_str h
 «strs»:=fun k x t v h=>by
  rcases a0K h with ⟨i,u,rfl,e⟩ | ⟨y,u,rfl,e⟩
  ·exact nomatch e
  ·injection e with e1 _
   subst e1
   cases v <;> rfl
inductive V where
 | non | bl (b:Bool) | int (i:Int) | str (x:Str) | byt (b:Array UInt8) | flt (b:UInt64) | ref (a:Addr) | ty (n:String)
 deriving DecidableEq
def a0T:V→Value→Prop
 | .non,u=>u=Value.none
 | .bl b,u=>u=Value.bool b
 | .int i,u=>∃ t,u=Value.int i t
 | .str x,u=>∃ t,u=Value.str x t
 | .byt b,u=>∃ t,u=Value.bytes b t
 | .flt b,u=>∃ t,u=Value.float b t
 | .ref a,u=>u=Value.ref a
 | .ty n,u=>u=Value.type n
abbrev a0J:List V→List Value→Prop:=Paired a0T
theorem a0J.length {xs:List V} {us:List Value} (r:a0J xs us):xs.length=us.length:=Paired.length r
theorem a0J.get:∀ {xs:List V} {us:List Value} {i:Nat} {x:V},a0J xs us→xs[i]?=some x→∃ u,us[i]?=some u∧a0T x u
 | _,_,_,_,.nil,e=>by simp at e
 | _,_,0,_,.cons r _,e=>by simp at e;subst e;exact ⟨_,rfl,r⟩
 | _,_,i+1,x,.cons _ t,e=>by
  obtain ⟨u,h1,h2⟩:=a0J.get (i:=i) (x:=x) t (by simpa using e)
  exact ⟨u,by simpa using h1,h2⟩
theorem a0J.append:∀ {xs ys:List V} {us ws:List Value},a0J xs us→a0J ys ws→a0J (xs++ys) (us++ws)
 | _,_,_,_,.nil,s=>s
 | _,_,_,_,.cons r t,s=>.cons r (a0J.append t s)
theorem a0J.take:∀ {xs:List V} {us:List Value} (n:Nat),a0J xs us→a0J (xs.take n) (us.take n)
 | _,_,0,_=>.nil
 | _,_,_+1,.nil=>.nil
 | _,_,n+1,.cons r t=>.cons r (a0J.take n t)
theorem a0J.drop:∀ {xs:List V} {us:List Value} (n:Nat),a0J xs us→a0J (xs.drop n) (us.drop n)
 | _,_,0,r=>r
 | _,_,_+1,.nil=>.nil
 | _,_,n+1,.cons _ t=>a0J.drop n t
def b1S:Option V→Option Value→Prop
 | some v,some u=>a0T v u
 | none,none=>True
 | _,_=>False
def KV {κ:Type}:List (κ × V)→List (κ × Value)→Prop:=Paired fun (p:κ × V) (q:κ × Value)=>p.1=q.1∧a0T p.2 q.2
def kV:Key→V
 | .inl i=>.int i
 | .inr x=>.str x
inductive HO where
 | lst (xs:List V)
 | tup (xs:List V)
 | dK (kvs:List (Key × V)) | dT (kvs:List (List Key × V))
 | set (S:Int→Bool) (n:Nat)
 | ins (C dx:Addr) (fs:List (Str × V))
 | own (x:Addr)
 | xd (fs:List (Str × V))
 | met (f x:Addr)
 | rng (lo hi:Int)
 | frz (o:Obj) (u:HO)
 | tbl (ps:Array Value)
 | ext (φ:Heap→Prop)
abbrev Hp:=Addr→Option HO
def upd (H:Hp) (a:Addr) (o:HO):Hp:=fun b=>if b=a then some o else H b
theorem a0b {H:Hp} {a:Addr} {o:HO}:upd H a o a=some o:=by unfold upd;rw [if_pos rfl]
theorem a0n {H:Hp} {a b:Addr} {o:HO} (h:b≠a):upd H a o b=H b:=by unfold upd;rw [if_neg h]
theorem a7b {H:Hp} {a:Addr} {o u:HO}:upd (upd H a o) a u=upd H a u:=by
 funext b;unfold upd;split <;> rfl
theorem a2c {H:Hp} {a b:Addr} {o u:HO} (h:H a=some o) (h':H b=some u) (d:o≠u):a≠b:=by
 intro e;subst e;rw [h] at h';exact d (Option.some.inj h')
theorem a0D {H:Hp} {a b:Addr} {o:HO} (h:H a=some o) (h':H b=none):a≠b:=by
 intro e;subst e;rw [h] at h';cases h'
def a4i (h:Heap) (a:Addr) (items:Array Value):Prop:=∃ o,h.get? a=some o∧∃ n,o={ cls:=.type "tuple",data:=.seq items n }
theorem a4i.is {h:Heap} {a:Addr} {items:Array Value} (x:a4i h a items):IsTup h a items:=by
 obtain ⟨o,e,n,rfl⟩:=x
 exact ⟨_,e,rfl,n,rfl⟩
instance {h:Heap} {a:Addr} {items:Array Value}:Coe (a4i h a items) (IsTup h a items):=⟨a4i.is⟩
instance {h:Heap} {a:Addr} {items:Array Value}:Coe (a4i h a items) (Heap.IsTuple h a items):=⟨fun x=>x.is⟩
theorem a4i.lt {h:Heap} {a:Addr} {items:Array Value} (x:a4i h a items):a < h.objs.size:=x.is.lt
theorem a4i.new (h:Heap) (items:Array Value):a4i (h.push { cls:=.type "tuple",data:=.seq items }) h.objs.size items:=⟨_,Heap.get?_push_size _ rfl,_,rfl⟩
section
variable (P:Program) (w:World)
def a0A (H:Hp) (h:Heap) (a:Addr):HO→Prop
 | .lst xs=>xs.length≤sizeLine∧∃ (its:List Value) (n:Nat),a0J xs its∧h.get? a=some { cls:=.type "list",data:=.seq its.toArray n }
 | .tup xs=>xs.length≤sizeLine∧∃ its:List Value,a0J xs its∧a4i h a its.toArray
 | .dK kvs=>kvs.length≤sizeLine∧(a == sysModules)=false∧∃ vs,KV kvs vs∧h.DictOf (a3D P w) a vs
 | .dT kvs=>kvs.length≤sizeLine∧(a == sysModules)=false∧∃ xs:List (List Key × Addr × Value),
   Paired (fun (p:List Key × V) (q:List Key × Addr × Value)=>p.1=q.1∧H q.2.1=some (.tup (p.1.map kV))∧a0T p.2 q.2.2) kvs xs ∧
   ∃ o es ep,h.get? a=some o∧o.ExactDict∧o.data=.dict es ep∧es.toList=xs.map (entryOfKey (tupleKind (a3D P w)))∧(xs.map (·.1)).Nodup
 | .set S n=>h.SetOf (intKind P w) a S n
 | .ins C dx fs=>H dx=some (.own a)∧fs.length≤1000∧dx≠a∧h.get? a=some (PySem.W.instObj C dx) ∧
   ∃ mA,h.Ns1 dx mA∧(∀ f,b1S (fs.lookup f) (mA f))∧PySem.Within mA (fs.map (·.1))
 | .own _=>∃ o,h.get? a=some o
 | .xd fs=>∃ mA,h.Ns1 a mA∧∀ f,b1S (fs.lookup f) (mA f)
 | .rng lo hi=>∃ t u v,h.get? a=some { cls:=.type "range",data:=.fields #[.int lo t,.int hi u,.int 1 v] }
 | .frz o u=>h.get? a=some o∧a0A H h a u
 | .tbl ps=>h.get? a=some { cls:=.none,data:=.fields ps }
 | .met f x=>h.get? a=some (PySem.W.methodObj (.ref f) (.ref x))
 | .ext φ=>φ h∧(∃ o,h.get? a=some o)∧∀ h1 h2:Heap,φ h1→(∀ o,h1.get? a=some o→h2.get? a=some o)→φ h2
def HOk (H:Hp) (h:Heap):Prop:=∀ a o,H a=some o→a0A P w H h a o
end
section
variable {P:Program} {w:World} {H H':Hp} {h h':Heap} {a:Addr} {o:HO}
theorem a0A.lt (x:a0A P w H h a o):a < h.objs.size:=by
 cases o with
 | lst xs=>obtain ⟨_,_,_,_,e⟩:=x;exact Heap.lt_size e
 | tup xs=>obtain ⟨_,_,_,p⟩:=x;exact p.lt
 | dK kvs=>obtain ⟨_,_,_,_,o,_,_,e,_⟩:=x;exact Heap.lt_size e
 | dT kvs=>obtain ⟨_,_,_,_,o,_,_,e,_⟩:=x;exact Heap.lt_size e
 | set S n=>obtain ⟨o,_,_,_,e,_⟩:=x;exact Heap.lt_size e
 | ins C dx fs=>obtain ⟨_,_,_,e,_⟩:=x;exact Heap.lt_size e
 | own y=>obtain ⟨_,e⟩:=x;exact Heap.lt_size e
 | xd fs=>obtain ⟨_,⟨_,_,_,e,_⟩,_⟩:=x;exact Heap.lt_size e
 | rng lo hi=>obtain ⟨_,_,_,e⟩:=x;exact Heap.lt_size e
 | frz ob u=>obtain ⟨e,_⟩:=x;exact Heap.lt_size e
 | tbl ps=>exact Heap.lt_size (show h.get? a=some _ from x)
 | met f y=>exact Heap.lt_size (show h.get? a=some _ from x)
 | ext φ=>obtain ⟨_,⟨_,e⟩,_⟩:=x;exact Heap.lt_size e
theorem Paired.mapP {α β:Type} {F G:α→β→Prop}:∀ {l₁:List α} {l₂:List β},Paired F l₁ l₂→(∀ a b,F a b→G a b)→Paired G l₁ l₂
 | _,_,.nil,_=>.nil
 | _,_,.cons r t,f=>.cons (f _ _ r) (Paired.mapP t f)
theorem a0A.stay (x:a0A P w H h a o) (k:∀ b u,(b=a∨H b=some (.own a))→h.get? b=some u→h'.get? b=some u)
  (ho:∀ b,H b=some (.own a)→H' b=some (.own a)) (ht:∀ b xs,H b=some (.tup xs)→H' b=some (.tup xs)):a0A P w H' h' a o:=by
 induction o with
 | lst xs=>obtain ⟨z,its,n,r,e⟩:=x;exact ⟨z,its,n,r,k _ _ (.inl rfl) e⟩
 | tup xs=>obtain ⟨z,its,r,ob,e,c⟩:=x;exact ⟨z,its,r,ob,k _ _ (.inl rfl) e,c⟩
 | dK kvs=>obtain ⟨z,y,vs,r,ob,es,ep,e,c⟩:=x;exact ⟨z,y,vs,r,ob,es,ep,k _ _ (.inl rfl) e,c⟩
 | dT kvs =>
  obtain ⟨z,y,xs,r,ob,es,ep,e,c⟩:=x
  exact ⟨z,y,xs,Paired.mapP r fun p q z=>⟨z.1,ht _ _ z.2.1,z.2.2⟩,ob,es,ep,k _ _ (.inl rfl) e,c⟩
 | set S n=>obtain ⟨ob,es,ep,t,e,c⟩:=x;exact ⟨ob,es,ep,t,k _ _ (.inl rfl) e,c⟩
 | ins C dx fs =>
  obtain ⟨d,z,ne,e,mA,⟨od,es,ep,e2,c⟩,r⟩:=x
  exact ⟨ho _ d,z,ne,k _ _ (.inl rfl) e,mA,⟨od,es,ep,k _ _ (.inr d) e2,c⟩,r⟩
 | own y=>obtain ⟨ob,e⟩:=x;exact ⟨ob,k _ _ (.inl rfl) e⟩
 | xd fs=>obtain ⟨mA,⟨od,es,ep,e,c⟩,r⟩:=x;exact ⟨mA,⟨od,es,ep,k _ _ (.inl rfl) e,c⟩,r⟩
 | rng lo hi=>obtain ⟨t,u,v,e⟩:=x;exact ⟨t,u,v,k _ _ (.inl rfl) e⟩
 | frz ob u ih=>obtain ⟨e,q⟩:=x;exact ⟨k _ _ (.inl rfl) e,ih q⟩
 | tbl ps =>
  have e:h.get? a=some { cls:=.none,data:=.fields ps }:=x
  show h'.get? a=some { cls:=.none,data:=.fields ps }
  exact k a _ (.inl rfl) e
 | met f y =>
  have e:h.get? a=some (PySem.W.methodObj (.ref f) (.ref y)):=x
  show h'.get? a=some (PySem.W.methodObj (.ref f) (.ref y))
  exact k a _ (.inl rfl) e
 | ext φ=>obtain ⟨p,⟨o,e⟩,st⟩:=x;exact ⟨st _ _ p fun o q=>k _ _ (.inl rfl) q,⟨o,k _ _ (.inl rfl) e⟩,st⟩
theorem HOk.lt (x:HOk P w H h) (e:H a=some o):a < h.objs.size:=(x a o e).lt
theorem HOk.fresh (x:HOk P w H h) (e:h.objs.size≤a):H a=none:=by
 cases q:H a with
 | none=>rfl
 | some u=>exact absurd (Nat.lt_of_lt_of_le (x.lt q) e) (Nat.lt_irrefl _)
theorem HOk.kept (x:HOk P w H h) (k:∀ b u,h.get? b=some u→h'.get? b=some u):HOk P w H h':=fun a o e =>
 (x a o e).stay (fun b u _ q=>k b u q) (fun _ q=>q) fun _ _ q=>q
theorem HOk.laid (x:HOk P w H h) (k:∀ b u,h.get? b=some u→h'.get? b=some u) (hp:h.objs.size≤a) (new:a0A P w (upd H a o) h' a o):HOk P w (upd H a o) h':=fun b u e=>by
 have hn:=x.fresh hp
 by_cases hb:b=a
 ·subst hb;rw [a0b] at e;cases e;exact new
 ·rw [a0n hb] at e
  exact (x b u e).stay (fun c v _ q=>k c v q) (fun c q=>by rw [a0n (a0D q hn)];exact q) fun c xs q=>by rw [a0n (a0D q hn)];exact q
end
def Rd (H:Hp) (a:Addr) (u:HO):Prop:=H a=some u∨∃ o,H a=some (.frz o u)
theorem Rd.ok {P:Program} {w:World} {H:Hp} {h:Heap} {a:Addr} {u:HO} (r:Rd H a u) (x:HOk P w H h):a0A P w H h a u:=by
 rcases r with r | ⟨o,r⟩
 ·exact x a u r
 ·obtain ⟨_,q⟩:=x a _ r
  exact q
def Mut:Option HO→Prop
 | some (.lst _)=>True
 | some (.dK _)=>True
 | some (.dT _)=>True
 | some (.set _ _)=>True
 | some (.ins _ _ _)=>True
 | some (.ext _)=>True
 | _=>False
section
variable {P:Program} {w:World} {H:Hp} {h h':Heap} {x e:Addr} {o':HO}
theorem HOk.write (ok:HOk P w H h) (mu:Mut (H x)) (he:e=x∨H e=some (.own x)) (k:∀ b u,b≠e→h.get? b=some u→h'.get? b=some u) (heo:∃ u,h'.get? e=some u)
  (new:a0A P w (upd H x o') h' x o'):HOk P w (upd H x o') h':=fun b u q=>by
 have nown:∀ c y,H c=some (.own y)→c≠x:=fun c y r z=>by subst z;rw [r] at mu;exact mu
 have ntup:∀ c xs,H c=some (.tup xs)→c≠x:=fun c xs r z=>by subst z;rw [r] at mu;exact mu
 by_cases hb:b=x
 ·subst hb;rw [a0b] at q;cases q;exact new
 ·rw [a0n hb] at q
  by_cases hbe:b=e
  ·have q':H b=some (.own x):=by
    rcases he with z | z
    ·exact absurd (hbe.trans z) hb
    ·rw [hbe];exact z
   rw [q] at q';cases q'
   obtain ⟨v,hv⟩:=heo
   exact ⟨v,by rw [hbe];exact hv⟩
  ·refine (ok b u q).stay (fun c v hc r=>k c v ?_ r) (fun c r=>by rw [a0n (nown c b r)];exact r) fun c xs r=>by rw [a0n (ntup c xs r)];exact r
   rcases hc with rfl | hc
   ·exact hbe
   ·rintro rfl
    rcases he with z | z
    ·exact nown c b hc z
    ·rw [hc] at z;cases z;exact hb rfl
end
structure Un (fs ex:List Addr) (H H':Hp) (h h':Heap):Prop where
 keep:∀ b o,h.get? b=some o→H b=none→b∉fs→b∉ex→h'.get? b=some o
 slot:∀ b o,h.get? b=some o→H b=none→b∈fs→b∉ex→∃ sl,h'.get? b=some { o with slots:=sl }
 free:∀ b o,h.get? b=some o→H b=none→b∉ex→H' b=none
 there:∀ b o,h.get? b=some o→b∉ex→∃ o',h'.get? b=some o'
 tups:∀ b xs,H b=some (.tup xs)→H' b=some (.tup xs)
 frzs:∀ b o u,H b=some (.frz o u)→H' b=some (.frz o u)
 tbls:∀ b ps,H b=some (.tbl ps)→∃ more,H' b=some (.tbl (ps++more))
section
variable {fs fs' ex ex':List Addr} {H H1 H2:Hp} {h h1 h2 h':Heap} {a x e:Addr} {o:HO}
theorem Un.any (u:Un fs ex H H1 h h1) {b:Addr} {ob:Obj} (q:h.get? b=some ob) (n:H b=none) (hx:b∉ex):∃ sl,h1.get? b=some { ob with slots:=sl }:=by
 by_cases hb:b∈fs
 ·exact u.slot b ob q n hb hx
 ·exact ⟨ob.slots,u.keep b ob q n hb hx⟩
theorem Un.kept (k:∀ b u,h.get? b=some u→h'.get? b=some u):Un fs ex H H h h' :=
 ⟨fun b ob q _ _ _=>k b ob q,fun b ob q _ _ _=>⟨ob.slots,k b ob q⟩,fun _ _ _ n _=>n,fun b ob q _=>⟨ob,k b ob q⟩,fun _ _ q=>q,fun _ _ _ q=>q,fun _ ps q=>⟨#[],by rw [q];simp⟩⟩
theorem Un.refl:Un fs ex H H h h:=Un.kept fun _ _ q=>q
theorem Un.laid (k:∀ b u,h.get? b=some u→h'.get? b=some u) (hp:h.objs.size≤a) (hn:H a=none):Un fs ex H (upd H a o) h h' where
 keep:=fun b u q _ _ _=>k b u q
 slot:=fun b u q _ _ _=>⟨u.slots,k b u q⟩
 free:=fun b u q n _=>by rw [a0n (Nat.ne_of_lt (Nat.lt_of_lt_of_le (Heap.lt_size q) hp))];exact n
 there:=fun b u q _=>⟨u,k b u q⟩
 tups:=fun b xs q=>by rw [a0n (a0D q hn)];exact q
 frzs:=fun b u xs q=>by rw [a0n (a0D q hn)];exact q
 tbls:=fun b ps q=>⟨#[],by rw [a0n (a0D q hn),q];simp⟩
theorem Un.write (mu:Mut (H x)) (he:e=x∨H e=some (.own x)) (k:∀ b u,b≠e→h.get? b=some u→h'.get? b=some u) (heo:∃ u,h'.get? e=some u):Un fs ex H (upd H x o) h h':=by
 have hx:∀ b,H b=none→b≠x:=fun b n z=>by subst z;rw [n] at mu;exact mu
 have hb:∀ b,H b=none→b≠e:=fun b n z=>by
  subst z
  rcases he with r | r
  ·exact hx b n r
  ·rw [n] at r;cases r
 have hm:∀ b u,H b=some u→¬ Mut (some u)→b≠x:=fun b u q nm z=>by subst z;rw [q] at mu;exact nm mu
 refine ⟨fun b u q n _ _=>k b u (hb b n) q,fun b u q n _ _=>⟨u.slots,k b u (hb b n) q⟩,fun b u q n _=>by rw [a0n (hx b n)];exact n,fun b u q _=>?_,
  fun b xs q=>by rw [a0n (hm b _ q fun z=>z)];exact q,fun b u xs q=>by rw [a0n (hm b _ q fun z=>z)];exact q,fun b ps q=>⟨#[],by rw [a0n (hm b _ q fun z=>z),q];simp⟩⟩
 by_cases hbe:b=e
 ·subst hbe;exact heo
 ·exact ⟨u,k b u hbe q⟩
end
def trk (h:Heap) (H:Hp):List Addr:=(List.range h.objs.size).filter fun a=>(H a).isSome
def a8N (h:Heap) (H:Hp):Heap:=PySem.W.hideAll h (trk h H)
theorem a7c (h:Heap) (H:Hp):(a8N h H).objs.size=h.objs.size:=PySem.W.hideAll_size _ _
theorem a8P {h:Heap} {H:Hp} {b:Addr} {o:Obj} (e:h.get? b=some o) (n:H b=none):(a8N h H).get? b=some o :=
 PySem.W.hideAll_get _ e fun hm=>by
  have q:(H b).isSome=true:=(List.mem_filter.mp hm).2
  rw [n] at q;simp at q
theorem b0v {h:Heap} {H:Hp} {b:Addr} {o:Obj} (e:(a8N h H).get? b=some o):h.get? b=some o∧H b=none:=by
 have e':h.get? b=some o:=PySem.W.of_hideAll (trk h H) e
 refine ⟨e',?_⟩
 cases q:H b with
 | none=>rfl
 | some x =>
  have hm:b∈trk h H:=List.mem_filter.mpr ⟨List.mem_range.mpr (Heap.lt_size e'),by simp [q]⟩
  have z:(a8N h H).get? b=none:=PySem.W.hideAll_none (trk h H) hm
  rw [z] at e;cases e
def b0w (g h:Heap) (L:Addr):List (Addr × Obj):=(List.range h.objs.size).filterMap fun a=>if a=L∨(g.get? a).isSome=true then none else (h.get? a).map fun o=>(a,o)
def rest (g h:Heap) (L d:Addr):List (Addr × Obj):=(b0w g h L).filter fun p=>decide (p.1≠d)
structure Mod (K:PySem.W.Frag) (mg:Str→Option Value) (base:Heap):Prop where
 kin:K.In base
 glob:base.Ns mainGlobals mg
 blt:∃ mb,base.Ns builtinsNs mb∧∀ x:Str,x≠"__name__"→mb x=bootBuiltins x
 nolimit:base.NoLimit
structure Cx where
 prog:Program
 w:World
 K:PySem.W.Frag
 mg:Str→Option Value
 base:Heap
 A:Around
 N:List Str
 s₀:Shared
 H₀:Hp
 env:Env
 outer:List Env
 stack:List Env
 ex:List Addr
 fn:Str→Bool
 calm:Bool
 pn:List (Addr × Obj)
 xe:Value→Shared→Prop
def frs (l:List Env):List Addr:=l.filterMap (·.frame)
abbrev Cx.fs (X:Cx):List Addr:=frs X.outer
def Vis (sc:Scope) (x:Str):Prop:=sc.names.lookup x=some .local∨sc.names.lookup x=some .cell∨sc.names.lookup x=some .free
def Loc (sc:Scope) (x:Str):Prop:=sc.names.lookup x=some .local∨sc.names.lookup x=some .cell
def Look (env:Env) (h:Heap) (m:Str→Option Value) (x:Str) (u:Value):Prop :=
 (env.kindOf x=some .local∧m x=some u)∨((env.kindOf x=some .cell∨env.kindOf x=some .free)∧∃ c,env.cells.lookup x=some c∧h.IsCell c (some u))
structure Cx.Ok (X:Cx):Prop where
 mod:Mod X.K X.mg X.base
 kind:X.env.scope.kind=.function
 glob:X.env.globals=mainGlobals
 blt:X.env.builtins=builtinsNs
 above:X.s₀.heap.objs.size≤X.env.locals
 inj:∀ x y c,X.env.cells.lookup x=some c→X.env.cells.lookup y=some c→x=y
 has:∀ x,(X.env.kindOf x=some .cell∨X.env.kindOf x=some .free)→∃ c,X.env.cells.lookup x=some c
 cab:∀ x c,X.fn x=true→X.env.cells.lookup x=some c→X.s₀.heap.objs.size≤c
 hd:X.calm=true→X.A.handled=none
 frames:X.A.frames=some X.stack
 stk:X.stack=X.outer∨(X.stack=X.env :: X.outer∧X.env.frame=some X.env.locals)
 exf:∀ b∈X.ex,b≠X.env.locals∧∀ x c,X.env.cells.lookup x=some c→c≠b
 bs:∀ b o,X.base.get? b=some o→X.s₀.heap.get? b=some o∧X.H₀ b=none
 bsz:X.base.objs.size≤X.s₀.heap.objs.size
 noex:∀ b o,X.base.get? b=some o→b∉X.ex
 exfs:∀ b∈X.ex,b∉X.fs
 funs:X.s₀.heap.FunFrames X.base X.outer
 frf:∀ b∈X.fs,X.H₀ b=none
structure Inv (X:Cx) (pins:List (Addr × Obj)) (σ:List (Option V)) (H:Hp) (s:Shared):Prop where
 ok:X.Ok
 os:s.os=X.s₀.os
 bare:AllBare s.gens
 base:Un X.fs X.ex X.H₀ H X.s₀.heap s.heap
 loc:∃ m,s.heap.Ns X.env.locals m∧∀ (i:Nat) (x:Str) (v:V),X.N[i]?=some x→σ[i]?=some (some v)→Vis X.env.scope x→∃ u,a0T v u∧Look X.env s.heap m x u
 cell:∀ x c,X.env.cells.lookup x=some c→∃ v,s.heap.IsCell c v
 free:H X.env.locals=none
 freeC:∀ x c,X.env.cells.lookup x=some c→H c=none
 pin:∀ p∈X.pn++pins,s.heap.get? p.1=some p.2∧H p.1=none∧p.1≠X.env.locals∧p.1∉X.fs∧∀ v,p.2.data≠.cell v
 hok:HOk X.prog X.w H s.heap
 len:σ.length=X.N.length
section
variable {X:Cx} {pins:List (Addr × Obj)} {σ:List (Option V)} {H H':Hp} {s:Shared} {h':Heap}
theorem Cx.Ok.nofr (ok:X.Ok) {b:Addr} {o:Obj} (e:X.base.get? b=some o):b∉X.fs:=fun hb=>by
 have:=(ok.funs.mem hb).1
 rw [e] at this;cases this
theorem Inv.bs (I:Inv X pins σ H s):∀ b o,X.base.get? b=some o→s.heap.get? b=some o∧H b=none:=fun b o e =>
 ⟨I.base.keep b o (I.ok.bs b o e).1 (I.ok.bs b o e).2 (I.ok.nofr e) (I.ok.noex b o e),I.base.free b o (I.ok.bs b o e).1 (I.ok.bs b o e).2 (I.ok.noex b o e)⟩
theorem Inv.bk (I:Inv X pins σ H s):∀ b o,X.base.get? b=some o→s.heap.get? b=some o:=fun b o e=>(I.bs b o e).1
theorem Inv.mod (I:Inv X pins σ H s):Mod X.K X.mg X.base:=I.ok.mod
theorem Inv.kIn (I:Inv X pins σ H s):X.K.In s.heap:=I.ok.mod.kin.keeps I.bk
theorem Inv.lt (I:Inv X pins σ H s):X.env.locals < s.heap.objs.size:=let ⟨_,hn,_⟩:=I.loc;hn.lt
theorem Inv.sz (I:Inv X pins σ H s):X.s₀.heap.objs.size≤s.heap.objs.size:=Nat.le_trans I.ok.above (Nat.le_of_lt I.lt)
theorem Inv.nofs (I:Inv X pins σ H s) {a:Addr} (h:s.heap.objs.size≤a):a∉X.fs:=fun hb=>by
 obtain ⟨_,o,ho,_⟩:=I.ok.funs.mem hb
 exact absurd (Nat.lt_of_lt_of_le (Heap.lt_size ho) (Nat.le_trans I.sz h)) (Nat.lt_irrefl _)
theorem Inv.cne (I:Inv X pins σ H s):∀ x c,X.env.cells.lookup x=some c→c≠X.env.locals:=fun x c e z=>by
 obtain ⟨v,o,ho,hd⟩:=I.cell x c e
 obtain ⟨m,⟨o',es,ep,ho',hd',_⟩,_⟩:=I.loc
 rw [z,ho'] at ho;cases ho;rw [hd'] at hd;cases hd
theorem Inv.funs (I:Inv X pins σ H s):s.heap.FunFrames X.base X.outer:=by
 have all:∀ (l:List Env),(∀ b∈frs l,b∈X.fs)→X.s₀.heap.FunFrames X.base l→s.heap.FunFrames X.base l:=by
  intro l
  induction l with
  | nil=>intro _ _;trivial
  | cons env r ih =>
   intro hs hl
   obtain ⟨hk,⟨L,o,hf,hn,ho,hd⟩,hr⟩:=hl
   have hL:L∈X.fs:=hs L (by unfold frs;rw [List.filterMap_cons,hf];exact List.mem_cons_self)
   obtain ⟨sl,e⟩:=I.base.slot L o ho (I.ok.frf L hL) hL fun z=>I.ok.exfs L z hL
   exact ⟨hk,⟨L,_,hf,hn,e,hd⟩,ih (fun b hb=>hs b (by unfold frs;rw [List.filterMap_cons,hf];exact List.mem_cons_of_mem _ hb)) hr⟩
 exact all X.outer (fun _ hb=>hb) I.ok.funs
theorem Inv.stack (I:Inv X pins σ H s):s.heap.FunFrames X.base X.stack:=by
 rcases I.ok.stk with e | ⟨e,hf⟩
 ·rw [e];exact I.funs
 ·rw [e]
  obtain ⟨m,hn,_⟩:=I.loc
  refine .cons (by rw [I.ok.kind];decide) hf hn ?_ I.funs
  exact Heap.get?_none_of_le (Nat.le_trans I.ok.bsz I.ok.above)
theorem Inv.stkSub (I:Inv X pins σ H s):∀ b∈frs X.stack,b∈X.env.locals :: X.fs:=fun b hb=>by
 rcases I.ok.stk with e | ⟨e,hf⟩
 ·rw [e] at hb;exact List.mem_cons_of_mem _ hb
 ·rw [e] at hb
  unfold frs at hb
  rw [List.filterMap_cons,hf] at hb
  exact hb
theorem Inv.stkFree (I:Inv X pins σ H s):∀ b∈frs X.stack,H b=none:=fun b hb=>by
 rcases List.mem_cons.mp (I.stkSub b hb) with e | hb
 ·rw [e];exact I.free
 ·obtain ⟨_,o,ho,_⟩:=I.ok.funs.mem hb
  exact I.base.free b o ho (I.ok.frf b hb) fun z=>I.ok.exfs b z hb
theorem Inv.step {g':Array GenState} {t':Nat} {d':Drawn} {ch:List Addr} (I:Inv X pins σ H s)
  (hch:∀ b∈ch,(b∈X.ex∨X.s₀.heap.objs.size≤b)∧b≠X.env.locals∧(∀ x c,X.env.cells.lookup x=some c→c≠b)∧∀ p∈X.pn++pins,p.1≠b)
  (keep:∀ b o,b≠X.env.locals→b∉X.fs→b∉ch→s.heap.get? b=some o→H b=none→h'.get? b=some o)
  (slot:∀ b o,b≠X.env.locals→b∈X.fs→b∉ch→s.heap.get? b=some o→H b=none→∃ sl,h'.get? b=some { o with slots:=sl }) (free:∀ b o,b∉ch→s.heap.get? b=some o→H b=none→H' b=none)
  (there:∀ b o,b∉ch→s.heap.get? b=some o→∃ o',h'.get? b=some o')
  (tups:∀ b xs,H b=some (.tup xs)→H' b=some (.tup xs)) (frzs:∀ b o u,H b=some (.frz o u)→H' b=some (.frz o u)) (tbls:∀ b ps,H b=some (.tbl ps)→∃ more,H' b=some (.tbl (ps++more)))
  (ns:∀ m,s.heap.Ns X.env.locals m→h'.Ns X.env.locals m) (hok:HOk X.prog X.w H' h') (hg:AllBare g') :
  Inv X pins σ H' { s with heap:=h',gens:=g',drawn:=d',toks:=t' }:=by
 have neL:∀ b o,X.s₀.heap.get? b=some o→b≠X.env.locals:=fun b o e=>Nat.ne_of_lt (Nat.lt_of_lt_of_le (Heap.lt_size e) I.ok.above)
 have neC:∀ b o,X.s₀.heap.get? b=some o→b∉X.ex→b∉ch:=fun b o e hx hb=>by
  rcases (hch b hb).1 with z | z
  ·exact hx z
  ·exact absurd (Nat.lt_of_lt_of_le (Heap.lt_size e) z) (Nat.lt_irrefl _)
 have cellK:∀ x c,X.env.cells.lookup x=some c→∀ v,s.heap.IsCell c v→h'.IsCell c v:=fun x c e v ⟨o,ho,hd⟩=>by
  have nch:c∉ch:=fun z=>(hch c z).2.2.1 x c e rfl
  by_cases hc:c∈X.fs
  ·obtain ⟨sl,q⟩:=slot c o (I.cne x c e) hc nch ho (I.freeC x c e)
   exact ⟨_,q,hd⟩
  ·exact ⟨o,keep c o (I.cne x c e) hc nch ho (I.freeC x c e),hd⟩
 refine ⟨I.ok,I.os,hg,⟨fun b o e n hb hx=>?_,fun b o e n hb hx=>?_,fun b o e n hx=>?_,fun b o e hx=>?_,fun b xs e=>tups b xs (I.base.tups b xs e),fun b o xs e=>frzs b o xs (I.base.frzs b o xs e),fun b ps e=>?_⟩,?_,fun x c e=>?_,?_,fun x c e=>?_,fun p hp=>?_,hok,I.len⟩
 ·exact keep b o (neL b o e) hb (neC b o e hx) (I.base.keep b o e n hb hx) (I.base.free b o e n hx)
 ·obtain ⟨sl,e1⟩:=I.base.slot b o e n hb hx
  obtain ⟨sl',e2⟩:=slot b _ (neL b o e) hb (neC b o e hx) e1 (I.base.free b o e n hx)
  exact ⟨sl',e2⟩
 ·obtain ⟨o',e1⟩:=I.base.there b o e hx
  exact free b o' (neC b o e hx) e1 (I.base.free b o e n hx)
 ·obtain ⟨o',e1⟩:=I.base.there b o e hx
  exact there b o' (neC b o e hx) e1
 ·obtain ⟨m1,e1⟩:=I.base.tbls b ps e
  obtain ⟨m2,e2⟩:=tbls b _ e1
  exact ⟨m1++m2,by rw [e2,Array.append_assoc]⟩
 ·obtain ⟨m,hn,hl⟩:=I.loc
  refine ⟨m,ns m hn,fun i x v e1 e2 e3=>?_⟩
  obtain ⟨u,r,l⟩:=hl i x v e1 e2 e3
  refine ⟨u,r,?_⟩
  rcases l with l | ⟨k,c,e,z⟩
  ·exact .inl l
  ·exact .inr ⟨k,c,e,cellK x c e _ z⟩
 ·obtain ⟨v,z⟩:=I.cell x c e
  exact ⟨v,cellK x c e v z⟩
 ·obtain ⟨m,⟨o,_,_,ho,_⟩,_⟩:=I.loc
  exact free _ o (fun z=>(hch _ z).2.1 rfl) ho I.free
 ·obtain ⟨v,o,ho,hd⟩:=I.cell x c e
  exact free c o (fun z=>(hch c z).2.2.1 x c e rfl) ho (I.freeC x c e)
 ·obtain ⟨e,n,ne,nf,d⟩:=I.pin p hp
  have nch:p.1∉ch:=fun z=>(hch p.1 z).2.2.2 p hp rfl
  exact ⟨keep p.1 p.2 ne nf nch e n,free p.1 p.2 nch e n,ne,nf,d⟩
theorem Inv.un {t':Nat} (I:Inv X pins σ H s) (u:Un X.fs [] H H' s.heap h') (hok:HOk X.prog X.w H' h'):Inv X pins σ H' { s with heap:=h',toks:=t' }:=by
 obtain ⟨m,⟨o,es,ep,ho,r⟩,_⟩:=id I.loc
 obtain ⟨sl,hL⟩:=u.any ho I.free (by simp)
 exact I.step (g':=s.gens) (d':=s.drawn) (ch:=[]) (fun _ z=>nomatch z) (fun b o _ hb _ e n=>u.keep b o e n hb (by simp)) (fun b o _ hb _ e n=>u.slot b o e n hb (by simp)) (fun b o _ e n=>u.free b o e n (by simp)) (fun b o _ e=>u.there b o e (by simp)) u.tups u.frzs u.tbls (fun m' hm=>by
  obtain ⟨o',es',ep',ho',r'⟩:=hm
  rw [ho] at ho';cases ho'
  exact ⟨_,es',ep',hL,r'⟩) hok I.bare
theorem Inv.call {g':Array GenState} {t':Nat} {d':Drawn} {ch:List Addr} (I:Inv X pins σ H s) (u:Un (frs X.stack) ch H H' s.heap h') (hok:HOk X.prog X.w H' h') (hg:AllBare g')
  (hch:∀ b∈ch,(b∈X.ex∨X.s₀.heap.objs.size≤b)∧b≠X.env.locals∧(∀ x c,X.env.cells.lookup x=some c→c≠b)∧∀ p∈X.pn++pins,p.1≠b) :
  Inv X pins σ H' { s with heap:=h',gens:=g',drawn:=d',toks:=t' }:=by
 obtain ⟨m,⟨o,es,ep,ho,r⟩,_⟩:=id I.loc
 obtain ⟨sl,hL⟩:=u.any ho I.free fun z=>(hch _ z).2.1 rfl
 exact I.step (ch:=ch) hch (fun b o hL hb hc e n=>u.keep b o e n (fun z=>(List.mem_cons.mp (I.stkSub b z)).elim hL hb) hc) (fun b o _ _ hc e n=>u.any e n hc) (fun b o hc e n=>u.free b o e n hc) (fun b o hc e=>u.there b o e hc) u.tups u.frzs u.tbls (fun m' hm=>by
  obtain ⟨o',es',ep',ho',r'⟩:=hm
  rw [ho] at ho';cases ho'
  exact ⟨_,es',ep',hL,r'⟩) hok hg
theorem Inv.turned {t':Nat} {it:Addr} (I:Inv X pins σ H s) (k:∀ b o,b≠it→s.heap.get? b=some o→h'.get? b=some o) (hn:H it=none) (hL:it≠X.env.locals)
  (h1:it∈X.ex∨X.s₀.heap.objs.size≤it) (h2:∀ x c,X.env.cells.lookup x=some c→c≠it) (h3:∀ p∈X.pn++pins,p.1≠it):Inv X pins σ H { s with heap:=h',toks:=t' }:=by
 have nit:∀ b u,H b=some u→b≠it:=fun b u e z=>by rw [z,hn] at e;cases e
 refine I.step (g':=s.gens) (d':=s.drawn) (ch:=[it]) (fun b hb=>?_) (fun b o _ _ hc e _=>k b o (fun z=>hc (by simp [z])) e) (fun b o _ _ hc e _=>⟨o.slots,k b o (fun z=>hc (by simp [z])) e⟩) (fun _ _ _ _ n=>n)
  (fun b o hc e=>⟨o,k b o (fun z=>hc (by simp [z])) e⟩) (fun _ _ e=>e) (fun _ _ _ e=>e) (fun b ps e=>⟨#[],by rw [e];simp⟩) (fun m hm=>?_) (fun b u e=>?_) I.bare
 ·have e:b=it:=by simpa using hb
  subst e
  exact ⟨h1,hL,h2,h3⟩
 ·obtain ⟨o,es,ep,ho,r⟩:=hm
  exact ⟨o,es,ep,k _ o (Ne.symm hL) ho,r⟩
 ·refine (I.hok b u e).stay (fun c v hc q=>k c v ?_ q) (fun _ q=>q) fun _ _ q=>q
  rcases hc with z | z
  ·rw [z];exact nit b u e
  ·exact nit c _ z
theorem Inv.tok (I:Inv X pins σ H s) (t:Nat):Inv X pins σ H { s with toks:=t }:=I.un (h':=s.heap) (t':=t) Un.refl I.hok
theorem Inv.kept {t':Nat} (I:Inv X pins σ H s) (k:∀ b u,s.heap.get? b=some u→h'.get? b=some u):Inv X pins σ H { s with heap:=h',toks:=t' }:=I.un (Un.kept k) (I.hok.kept k)
theorem Inv.laid {a:Addr} {o:HO} {t':Nat} (I:Inv X pins σ H s) (k:∀ b u,s.heap.get? b=some u→h'.get? b=some u) (hp:s.heap.objs.size≤a) (new:a0A X.prog X.w (upd H a o) h' a o) :
  Inv X pins σ (upd H a o) { s with heap:=h',toks:=t' }:=I.un (Un.laid k hp (I.hok.fresh hp)) (I.hok.laid k hp new)
theorem Inv.write {x e:Addr} {o:HO} {t':Nat} (I:Inv X pins σ H s) (mu:Mut (H x)) (he:e=x∨H e=some (.own x)) (k:∀ b u,b≠e→s.heap.get? b=some u→h'.get? b=some u) (heo:∃ u,h'.get? e=some u)
  (new:a0A X.prog X.w (upd H x o) h' x o):Inv X pins σ (upd H x o) { s with heap:=h',toks:=t' }:=I.un (Un.write mu he k heo) (I.hok.write mu he k heo new)
theorem Inv.weak {σ':List (Option V)} (I:Inv X pins σ H s) (hl:σ'.length=σ.length) (w:∀ (i:Nat) v,σ'[i]?=some (some v)→σ[i]?=some (some v)):Inv X pins σ' H s :=
 ⟨I.ok,I.os,I.bare,I.base,let ⟨m,hn,hl'⟩:=I.loc;⟨m,hn,fun i x v e1 e2 e3=>hl' i x v e1 (w i v e2) e3⟩,I.cell,I.free,I.freeC,I.pin,I.hok,hl.trans I.len⟩
theorem Inv.pins_of {pins':List (Addr × Obj)} (I:Inv X pins σ H s) (h:∀ p∈pins',s.heap.get? p.1=some p.2∧H p.1=none∧p.1≠X.env.locals∧p.1∉X.fs∧∀ v,p.2.data≠.cell v):Inv X pins' σ H s :=
 ⟨I.ok,I.os,I.bare,I.base,I.loc,I.cell,I.free,I.freeC,fun p hp=>(List.mem_append.mp hp).elim (fun z=>I.pin p (List.mem_append_left _ z)) (h p),I.hok,I.len⟩
theorem a5I {N:List Str} (hN:N.Nodup) {i j:Nat} {x:Str} (a:N[i]?=some x) (b:N[j]?=some x):i=j:=by
 obtain ⟨h1,e1⟩:=List.getElem?_eq_some_iff.mp a
 obtain ⟨h2,e2⟩:=List.getElem?_eq_some_iff.mp b
 exact (List.getElem_inj hN).mp (e1.trans e2.symm)
theorem a4l {M:Model} {A:Around} {E:Value→Shared→Prop} {i:Nat} {x:Str} {v:V} {u:Value} {Q:Unit→Shared→Prop} (I:Inv X pins σ H s) (hN:X.N.Nodup) (hi:X.N[i]?=some x) (hx:Loc X.env.scope x) (r:a0T v u)
  (h:∀ s',Inv X pins (σ.set i (some v)) H s'→(∃ a,Heap.SameBut a s.heap s'.heap∧(a=X.env.locals∨X.env.cells.lookup x=some a))→Q () s') (hf:X.fn x=true∨X.env.scope.names.lookup x=some .local:=by first | exact .inl rfl | exact .inr rfl | assumption):wpAny M A (storeName X.env x u) Q E s:=by
 obtain ⟨m,hn,hl⟩:=id I.loc
 have hcls:(X.env.scope.kind == .class || (X.env.scope.kind == .module && X.env.locals != X.env.globals))=false:=by rw [I.ok.kind];rfl
 have hiσ:i < σ.length:=by rw [I.len];exact (List.getElem?_eq_some_iff.mp hi).1
 have cne:=I.cne
 have tracked:∀ {a:Addr} {h':Heap},(∃ o,s.heap.get? a=some o∧H a=none)→Heap.SameBut a s.heap h'→HOk X.prog X.w H h':=fun {a h'} ha hs b ob e=>by
  obtain ⟨_,_,hfree⟩:=ha
  refine (I.hok b ob e).stay (fun c w' hc q=>(hs.2 c ?_).trans q) (fun _ q=>q) fun _ _ q=>q
  rintro rfl
  rcases hc with rfl | hc
  ·rw [hfree] at e;cases e
  ·rw [hfree] at hc;cases hc
 rcases hx with hk | hk
 ·refine wpAny_storeName_local hk hn (fun h' hn' hs=>?_) hcls
  obtain ⟨oL,_,_,hoL,_⟩:=id hn
  refine h _ ⟨I.ok,I.os,I.bare,⟨fun b o e n hb hx=>?_,fun b o e n hb hx=>?_,I.base.free,fun b o e hx=>?_,I.base.tups,I.base.frzs,I.base.tbls⟩,⟨_,hn',fun j y v' e1 e2 e3=>?_⟩,fun y c e=>?_,I.free,I.freeC,fun p hp=>?_,tracked ⟨oL,hoL,I.free⟩ hs,by simpa using I.len⟩ ⟨_,hs,.inl rfl⟩
  ·exact (hs.2 b (Nat.ne_of_lt (Nat.lt_of_lt_of_le (Heap.lt_size e) I.ok.above))).trans (I.base.keep b o e n hb hx)
  ·obtain ⟨sl,e1⟩:=I.base.slot b o e n hb hx
   exact ⟨sl,(hs.2 b (Nat.ne_of_lt (Nat.lt_of_lt_of_le (Heap.lt_size e) I.ok.above))).trans e1⟩
  ·obtain ⟨o',e1⟩:=I.base.there b o e hx
   exact ⟨o',(hs.2 b (Nat.ne_of_lt (Nat.lt_of_lt_of_le (Heap.lt_size e) I.ok.above))).trans e1⟩
  ·by_cases hj:j=i
   ·subst hj
    rw [hi] at e1;cases e1
    rw [List.getElem?_set_self hiσ] at e2
    cases e2
    exact ⟨u,r,.inl ⟨hk,by simp⟩⟩
   ·rw [List.getElem?_set_ne (Ne.symm hj)] at e2
    obtain ⟨u',r',q⟩:=hl j y v' e1 e2 e3
    refine ⟨u',r',?_⟩
    rcases q with ⟨k,e⟩ | ⟨k,c,e,z⟩
    ·refine .inl ⟨k,?_⟩
     have:y≠x:=fun e=>hj (a5I hN e1 (e▸hi))
     simp [this,e]
    ·exact .inr ⟨k,c,e,z.sameBut hs (cne y c e)⟩
  ·obtain ⟨w',z⟩:=I.cell y c e
   exact ⟨w',z.sameBut hs (cne y c e)⟩
  ·obtain ⟨e,n,ne,nf,d⟩:=I.pin p hp
   exact ⟨(hs.2 p.1 ne).trans e,n,ne,nf,d⟩
 ·have hfn:X.fn x=true:=by
   rcases hf with z | z
   ·exact z
   ·rw [z] at hk;cases hk
  obtain ⟨c,hc⟩:=I.ok.has x (.inl hk)
  obtain ⟨w',z⟩:=I.cell x c hc
  refine wpAny_storeName_cell I.ok.kind hk hc z (fun h' hc' hs=>?_)
  obtain ⟨oc,hoc,hocd⟩:=id z
  refine h { s with heap:=h' } ⟨I.ok,I.os,I.bare,⟨fun b o e n hb hx=>?_,fun b o e n hb hx=>?_,I.base.free,fun b o e hx=>?_,I.base.tups,I.base.frzs,I.base.tbls⟩,⟨m,hn.sameBut hs (Ne.symm (cne x c hc)),fun j y v' e1 e2 e3=>?_⟩,fun y c' e=>?_,I.free,I.freeC,fun p hp=>?_,tracked ⟨oc,hoc,I.freeC x c hc⟩ hs,by simpa using I.len⟩ ⟨c,hs,.inr hc⟩
  ·exact (hs.2 b (Nat.ne_of_lt (Nat.lt_of_lt_of_le (Heap.lt_size e) (I.ok.cab x c hfn hc)))).trans (I.base.keep b o e n hb hx)
  ·obtain ⟨sl,e1⟩:=I.base.slot b o e n hb hx
   exact ⟨sl,(hs.2 b (Nat.ne_of_lt (Nat.lt_of_lt_of_le (Heap.lt_size e) (I.ok.cab x c hfn hc)))).trans e1⟩
  ·obtain ⟨o',e1⟩:=I.base.there b o e hx
   exact ⟨o',(hs.2 b (Nat.ne_of_lt (Nat.lt_of_lt_of_le (Heap.lt_size e) (I.ok.cab x c hfn hc)))).trans e1⟩
  ·by_cases hj:j=i
   ·subst hj
    rw [hi] at e1;cases e1
    rw [List.getElem?_set_self hiσ] at e2
    cases e2
    exact ⟨u,r,.inr ⟨.inl hk,c,hc,hc'⟩⟩
   ·rw [List.getElem?_set_ne (Ne.symm hj)] at e2
    obtain ⟨u',r',q⟩:=hl j y v' e1 e2 e3
    refine ⟨u',r',?_⟩
    rcases q with q | ⟨k,c',e,z'⟩
    ·exact .inl q
    ·refine .inr ⟨k,c',e,z'.sameBut hs ?_⟩
     rintro rfl
     exact hj (a5I hN e1 (I.ok.inj _ _ _ e hc▸hi))
  ·by_cases hcc:c'=c
   ·subst hcc;exact ⟨_,hc'⟩
   ·obtain ⟨w2,z2⟩:=I.cell y c' e
    exact ⟨w2,z2.sameBut hs hcc⟩
  ·obtain ⟨e,n,ne,nf,d⟩:=I.pin p hp
   refine ⟨(hs.2 p.1 ?_).trans e,n,ne,nf,d⟩
   intro q
   rw [q,hoc] at e
   have q':oc=p.2:=Option.some.inj e
   exact d w' (by rw [←q'];exact hocd)
theorem a5J {M:Model} {A:Around} {E:Value→Shared→Prop} {i:Nat} {x:Str} {v:V} {u:Value} {Q:Unit→Shared→Prop} (I:Inv X pins σ H s) (hN:X.N.Nodup) (hi:X.N[i]?=some x) (hx:Loc X.env.scope x) (r:a0T v u)
  (h:∀ s',Inv X pins (σ.set i (some v)) H s'→Q () s') (hf:X.fn x=true∨X.env.scope.names.lookup x=some .local:=by first | exact .inl rfl | exact .inr rfl | assumption):wpAny M A (storeName X.env x u) Q E s :=
 a4l I hN hi hx r (fun s' I' _=>h s' I') hf
theorem Inv.call' {s':Shared} {ch:List Addr} (I:Inv X pins σ H s) (ho:s'.os=s.os) (u:Un (frs X.stack) ch H H' s.heap s'.heap) (hok:HOk X.prog X.w H' s'.heap) (hg:AllBare s'.gens)
  (hch:∀ b∈ch,(b∈X.ex∨X.s₀.heap.objs.size≤b)∧b≠X.env.locals∧(∀ x c,X.env.cells.lookup x=some c→c≠b)∧∀ p∈X.pn++pins,p.1≠b):Inv X pins σ H' s':=by
 obtain ⟨h',g',d',t',o'⟩:=s'
 have e:o'=s.os:=ho
 subst e
 exact I.call (g':=g') (t':=t') (d':=d') u hok hg hch
end
abbrev XK:=Value→Option Addr→Hp→Prop
abbrev St:=List (Option V)
abbrev VK:=V→Hp→Prop
abbrev TE:=St→Hp→VK→Prop
abbrev TT:=St→Hp→(Bool→Hp→Prop)→Prop
abbrev TA:=St→Hp→(List V→Hp→Prop)→Prop
structure a9S where
 nx:St→Hp→Prop
 rt:VK
 bk:St→Hp→Prop:=fun _ _=>False
 ct:St→Hp→Prop:=fun _ _=>False
abbrev TS:=a9S→St→Hp→Prop
def EP (X:Cx) (pins:List (Addr × Obj)) (σ:St) (Q:VK) (u:Value) (s':Shared):Prop:=∃ v H',Inv X pins σ H' s'∧a0T v u∧Q v H'
def TP (X:Cx) (pins:List (Addr × Obj)) (σ:St) (Q:Bool→Hp→Prop) (b:Bool) (s':Shared):Prop:=∃ H',Inv X pins σ H' s'∧Q b H'
def AP (X:Cx) (pins:List (Addr × Obj)) (σ:St) (Q:List V→Hp→Prop) (us:List Value) (s':Shared):Prop:=∃ vs H',Inv X pins σ H' s'∧a0J vs us∧Q vs H'
def SP (X:Cx) (pins:List (Addr × Obj)) (D:a9S) (f:Flow) (s':Shared):Prop :=
 match f with
 | .next=>∃ σ' H',Inv X pins σ' H' s'∧D.nx σ' H'
 | .brk=>∃ σ' H',Inv X pins σ' H' s'∧D.bk σ' H'
 | .cont=>∃ σ' H',Inv X pins σ' H' s'∧D.ct σ' H'
 | .ret u=>∃ v σ' H',Inv X pins σ' H' s'∧a0T v u∧D.rt v H'
def PE (X:Cx) (e:Expr) (t:TE):Prop :=
 ∀ (pins:List (Addr × Obj)) (s:Shared) (σ:St) (H:Hp) (Q:VK),Inv X pins σ H s→t σ H Q→wpAny (model X.prog X.w) X.A (eval e X.env) (EP X pins σ Q) X.xe s
def PT (X:Cx) (e:Expr) (t:TT):Prop :=
 ∀ (pins:List (Addr × Obj)) (s:Shared) (σ:St) (H:Hp) (Q:Bool→Hp→Prop),Inv X pins σ H s→t σ H Q→wpAny (model X.prog X.w) X.A (isTrue e X.env (eval e X.env)) (TP X pins σ Q) X.xe s
def PW (X:Cx) (e:Expr) (t:TT):Prop :=
 ∀ (whole:Sem Value) (pins:List (Addr × Obj)) (s:Shared) (σ:St) (H:Hp) (Q:Bool→Hp→Prop),Inv X pins σ H s→t σ H Q→wpAny (model X.prog X.w) X.A (isTrue e X.env whole) (TP X pins σ Q) X.xe s
theorem PW.pt {X:Cx} {e:Expr} {t:TT} (h:PW X e t):PT X e t:=h _
def PA (X:Cx) (es:List Expr) (t:TA):Prop :=
 ∀ (pos:Pos) (pins:List (Addr × Obj)) (s:Shared) (σ:St) (H:Hp) (Q:List V→Hp→Prop),Inv X pins σ H s→t σ H Q→wpAny (model X.prog X.w) X.A (spliced (backTo pos (starEach es X.env))) (AP X pins σ Q) X.xe s
def PS (X:Cx) (st:Stmt) (t:TS):Prop :=
 ∀ (pins:List (Addr × Obj)) (s:Shared) (σ:St) (H:Hp) (D:a9S),Inv X pins σ H s→t D σ H→wpAny (model X.prog X.w) X.A (exec st X.env) (SP X pins D) X.xe s
def PSs (X:Cx) (st:List Stmt) (t:TS):Prop :=
 ∀ (pins:List (Addr × Obj)) (s:Shared) (σ:St) (H:Hp) (D:a9S),Inv X pins σ H s→t D σ H→wpAny (model X.prog X.w) X.A (execs st X.env) (SP X pins D) X.xe s
theorem thn {α:Type} {t:Sem α} {Q Q':α→Shared→Prop} {M:Model} {A:Around} {E:Value→Shared→Prop} {s:Shared} (h:wpAny M A t Q E s) (hQ:∀ a s,Q a s→Q' a s):wpAny M A t Q' E s:=wpAny_mono h hQ fun _ _ x=>x
section
variable {X:Cx}
def tVar (i:Nat):TE:=fun σ H Q=>∃ v,σ[i]?=some (some v)∧Q v H
def tC (v:V):TE:=fun _ H Q=>Q v H
theorem pe_var {i:Nat} {x:Str} {pos:Pos} (hN:X.N[i]?=some x) (hv:Vis X.env.scope x) (hd:(x == ("__debug__":Str))=false:=by decide) (hcd:(x == ("__classdict__":Str))=false:=by decide):PE X (.Name x pos) (tVar i):=by
 intro pins s σ H Q I h
 obtain ⟨v,e,h⟩:=h
 obtain ⟨m,hn,hl⟩:=I.loc
 obtain ⟨u,r,l⟩:=hl i x v hN e hv
 have fin:EP X pins σ Q u s:=⟨v,H,I,r,h⟩
 rcases l with ⟨hk,hm⟩ | ⟨hk,c,hc,hcell⟩
 ·exact wpAny_Name (wpAny_loadName_local I.ok.kind hk hn hm fin) hd
 ·rcases hk with hk | hk
  ·exact wpAny_Name (wpAny_loadName_cell I.ok.kind hk hc hcell fin) hd
  ·exact wpAny_Name (wpAny_loadName_free I.ok.kind hk hc hcell fin hcd) hd
theorem a0g {i j pos}:PE X (.Constant (.int i) j pos) (tC (.int i)):=fun _ _ _ H _ I h=>wpAny_Constant_int ⟨.int i,H,I.tok _,⟨_,rfl⟩,h⟩
theorem a2G {b j pos}:PE X (.Constant (.bool b) j pos) (tC (.bl b)):=fun _ _ _ H _ I h=>Constant_bool ⟨.bl b,H,I,rfl,h⟩
theorem a9T {j pos}:PE X (.Constant .none j pos) (tC .non):=fun _ _ _ H _ I h=>Constant_none ⟨.non,H,I,rfl,h⟩
def Gl (X:Cx) (x:Str):Prop:=X.env.kindOf x=some .globalImplicit
theorem a7d {E:Value→Shared→Prop} {pins:List (Addr × Obj)} {s:Shared} {σ:St} {H:Hp} {x:Str} {u:Value} {pos:Pos} {Q:Value→Shared→Prop} (I:Inv X pins σ H s) (hg:Gl X x) (hm:X.mg x=some u) (h:Q u s)
  (hd:(x == ("__debug__":Str))=false:=by decide):wpAny (model X.prog X.w) X.A (eval (.Name x pos) X.env) Q E s :=
 Calls.Name_function_global I.ok.kind hg (Calls.loadGlobal_global (by rw [I.ok.glob];exact I.mod.glob.keeps I.bk) hm h) hd
theorem a1M {E:Value→Shared→Prop} {pins:List (Addr × Obj)} {s:Shared} {σ:St} {H:Hp} {x:Str} {u:Value} {pos:Pos} {Q:Value→Shared→Prop} (I:Inv X pins σ H s) (hg:Gl X x) (hm:X.mg x=none) (hv:bootBuiltins x=some u) (h:Q u s)
  (hn:x≠"__name__":=by decide) (hd:(x == ("__debug__":Str))=false:=by decide):wpAny (model X.prog X.w) X.A (eval (.Name x pos) X.env) Q E s:=by
 obtain ⟨mb,h1,h2⟩:=I.mod.blt
 exact Calls.Name_function_global I.ok.kind hg (Calls.loadGlobal_builtin (by rw [I.ok.glob];exact I.mod.glob.keeps I.bk) hm (by rw [I.ok.blt];exact h1.keeps I.bk) ((h2 x hn).trans hv) h) hd
theorem b0x {x:Str} {v:V} {u:Value} {pos:Pos} (hg:Gl X x) (hm:X.mg x=some u) (r:a0T v u) (hd:(x == ("__debug__":Str))=false:=by decide):PE X (.Name x pos) (tC v) :=
 fun _ _ _ H _ I h=>a7d I hg hm ⟨v,H,I,r,h⟩ hd
theorem a3E {x:Str} {v:V} {u:Value} {pos:Pos} (hg:Gl X x) (hm:X.mg x=none) (hv:bootBuiltins x=some u) (r:a0T v u) (hn:x≠"__name__":=by decide) (hd:(x == ("__debug__":Str))=false:=by decide):PE X (.Name x pos) (tC v) :=
 fun _ _ _ H _ I h=>a1M I hg hm hv ⟨v,H,I,r,h⟩ hn hd
def t2I (ta tb:TE) (k:Int→Int→Hp→Prop):St→Hp→Prop:=fun σ H=>ta σ H fun x H1=>tb σ H1 fun y H2=>∃ i j,x=.int i∧y=.int j∧k i j H2
def tMul (ta tb:TE):TE:=fun σ H Q=>t2I ta tb (fun i j H2=>(-(2 ^ 64) < i∧i < 2 ^ 64)∧Q (.int (i * j)) H2) σ H
variable {a b:Expr} {ta tb:TE} {pos:Pos}
def tIsN (ta:TE):TE:=fun σ H Q=>ta σ H fun x H1=>Q (.bl (decide (x=.non))) H1
def tB (t:TE):TT:=fun σ H Q=>t σ H fun x H1=>∃ c,x=.bl c∧Q c H1
theorem a2S {e:Expr} {t:TE} (h:PE X e t) (he:∀ whole,isTrue e X.env whole=(do let v ←whole;standAt e.pos;holding [v] (truthy v)):=by intro _;rfl):PT X e (tB t):=by
 intro pins s σ H Q I hw
 refine isTrue_plain (thn (h pins s σ H _ I hw) fun v s1 ⟨x,H1,I1,r1,q1⟩=>?_) (he _)
 obtain ⟨d,rfl,q⟩:=q1
 cases r1
 exact wpAny_truthy_bool ⟨H1,I1,q⟩
variable {tA tB':TT} {rest:List Expr}
def tAnd (t u:TT):TT:=fun σ H Q=>t σ H fun c H1=>if c=true then u σ H1 Q else Q false H1
def tOr (t u:TT):TT:=fun σ H Q=>t σ H fun c H1=>if c=true then Q true H1 else u σ H1 Q
def tNot (t:TT):TT:=fun σ H Q=>t σ H fun c H1=>Q (!c) H1
theorem a3F (ha:PT X a tA):PW X (.BoolOp .And [a] pos) tA:=by
 intro wh pins s σ H Q I h
 refine isTrue_and (thn (ha pins s σ H Q I h) fun c s1 e=>?_)
 cases c with
 | true=>exact isTrue_and_nil e
 | false=>exact e
theorem a2T (ha:PT X a tA):PW X (.BoolOp .Or [a] pos) tA:=by
 intro wh pins s σ H Q I h
 refine isTrue_or (thn (ha pins s σ H Q I h) fun c s1 e=>?_)
 cases c with
 | false=>exact isTrue_or_nil e
 | true=>exact e
theorem a5K (ha:PT X a tA) (hb:PW X (.BoolOp .And (b :: rest) pos) tB'):PW X (.BoolOp .And (a :: b :: rest) pos) (tAnd tA tB'):=by
 intro wh pins s σ H Q I h
 refine isTrue_and (thn (ha pins s σ H _ I h) fun c s1 ⟨H1,I1,q1⟩=>?_)
 cases c with
 | true=>exact hb wh pins s1 σ H1 Q I1 q1
 | false=>exact ⟨H1,I1,q1⟩
theorem a4m (ha:PT X a tA) (hb:PW X (.BoolOp .Or (b :: rest) pos) tB'):PW X (.BoolOp .Or (a :: b :: rest) pos) (tOr tA tB'):=by
 intro wh pins s σ H Q I h
 refine isTrue_or (thn (ha pins s σ H _ I h) fun c s1 ⟨H1,I1,q1⟩=>?_)
 cases c with
 | true=>exact ⟨H1,I1,q1⟩
 | false=>exact hb wh pins s1 σ H1 Q I1 q1
theorem a2U (ha:PT X a tA):PT X (.UnaryOp .Not a pos) (tNot tA):=by
 intro pins s σ H Q I h
 exact isTrue_not (ha pins s σ H (fun c H1=>Q (!c) H1) I h)
def tAndV (ta tb:TE):TE:=fun σ H Q=>ta σ H fun x H1=>∃ c,x=.bl c∧if c=true then tb σ H1 Q else Q (.bl false) H1
def tNotV (ta:TE):TE:=fun σ H Q=>ta σ H fun x H1=>∃ c,x=.bl c∧Q (.bl (!c)) H1
theorem pe_one {op} {t:TE} (h:PE X a t):PE X (.BoolOp op [a] pos) t:=fun pins s σ H Q I hw=>BoolOp_one (h pins s σ H Q I hw)
theorem pe_and (ha:PE X a ta) (hb:PE X (.BoolOp .And (b :: rest) pos) tb):PE X (.BoolOp .And (a :: b :: rest) pos) (tAndV ta tb):=by
 intro pins s σ H Q I h
 refine BoolOp_and (thn (ha pins s σ H _ I h) fun v s1 ⟨x,H1,I1,r1,q1⟩=>?_)
 obtain ⟨c,rfl,q1⟩:=q1
 cases r1
 refine wpAny_truthy_bool ?_
 cases c with
 | true=>exact hb pins s1 σ H1 Q I1 q1
 | false=>exact ⟨.bl false,H1,I1,rfl,q1⟩
theorem a9U (ha:PE X a ta):PE X (.UnaryOp .Not a pos) (tNotV ta):=by
 intro pins s σ H Q I h
 refine UnaryOp_ (thn (ha pins s σ H _ I h) fun v s1 ⟨x,H1,I1,r1,q1⟩=>?_)
 obtain ⟨c,rfl,q1⟩:=q1
 cases r1
 exact not_of (wpAny_truthy_bool ⟨.bl (!c),H1,I1,rfl,q1⟩)
def tIf (t:TT) (ta tb:TE):TE:=fun σ H Q=>t σ H fun c H1=>if c=true then ta σ H1 Q else tb σ H1 Q
theorem a8Q {c:Expr} (hc:PT X c tA) (ha:PE X a ta) (hb:PE X b tb):PE X (.IfExp c a b pos) (tIf tA ta tb):=by
 intro pins s σ H Q I h
 refine wpAny_IfExp (thn (hc pins s σ H _ I h) fun d s1 ⟨H1,I1,q1⟩=>?_)
 cases d with
 | true=>exact ha pins s1 σ H1 Q I1 q1
 | false=>exact hb pins s1 σ H1 Q I1 q1
end
def SqL (K:PySem.W.Frag) (H:Hp) (a:Addr) (xs:List V):Prop :=
 Rd H a (.lst xs) ∨
  ∃ (o:Obj) (its:Array Value) (n:Nat),K.lookup a=some o∧o.cls=.type "list"∧o.dict=none∧o.data=.seq its n∧its.size≤sizeLine∧a0J xs its.toList
def SqT (K:PySem.W.Frag) (H:Hp) (a:Addr) (xs:List V):Prop :=
 Rd H a (.tup xs) ∨
  ∃ (o:Obj) (its:Array Value) (n:Nat),K.lookup a=some o∧o.cls=.type "tuple"∧o.data=.seq its n∧its.size≤sizeLine∧a0J xs its.toList
def absV:Value→Option V
 | .none=>some .non
 | .bool b=>some (.bl b)
 | .int i _=>some (.int i)
 | .str x _=>some (.str x)
 | .bytes b _=>some (.byt b)
 | .float b _=>some (.flt b)
 | .ref a=>some (.ref a)
 | .type n=>some (.ty n)
 | _=>none
theorem a0T.abs {x:V} {u:Value} (r:a0T x u):absV u=some x:=by
 cases x with
 | non=>cases r;rfl
 | bl _=>cases r;rfl
 | int _=>obtain ⟨t,rfl⟩:=r;rfl
 | str _=>obtain ⟨t,rfl⟩:=r;rfl
 | byt _=>obtain ⟨t,rfl⟩:=r;rfl
 | flt _=>obtain ⟨t,rfl⟩:=r;rfl
 | ref _=>cases r;rfl
 | ty _=>cases r;rfl
theorem a0T.inj {x y:V} {u:Value} (r:a0T x u) (q:a0T y u):x=y:=Option.some.inj (r.abs.symm.trans q.abs)
theorem a0J.inj:∀ {xs ys:List V} {us:List Value},a0J xs us→a0J ys us→xs=ys
 | _,_,_,.nil,.nil=>rfl
 | _,_,_,.cons r t,.cons r' t'=>by rw [r.inj r',a0J.inj t t']
section
variable {X:Cx} {pins:List (Addr × Obj)} {σ:St} {H:Hp} {s:Shared} {a:Addr} {xs ys:List V}
theorem SqL.of {K:PySem.W.Frag} (h:H a=some (.lst xs)):SqL K H a xs:=.inl (.inl h)
theorem SqT.of {K:PySem.W.Frag} (h:H a=some (.tup xs)):SqT K H a xs:=.inl (.inl h)
theorem Inv.list (I:Inv X pins σ H s) (h:SqL X.K H a xs):∃ its:List Value,a0J xs its∧PlainL s.heap a its.toArray∧xs.length≤sizeLine:=by
 rcases h with h | ⟨o,its,n,hk,hc,hd,hs,hz,r⟩
 ·obtain ⟨z,its,n,r,e⟩:=h.ok I.hok
  exact ⟨its,r,⟨_,n,e,rfl,rfl,rfl⟩,z⟩
 ·refine ⟨its.toList,r,⟨o,n,I.kIn a o hk,hc,hd,by simpa using hs⟩,?_⟩
  have e:=r.length
  simp only [Array.length_toList] at e
  omega
theorem Inv.tuple (I:Inv X pins σ H s) (h:SqT X.K H a xs):∃ its:List Value,a0J xs its∧IsTup s.heap a its.toArray∧xs.length≤sizeLine:=by
 rcases h with h | ⟨o,its,n,hk,hc,hs,hz,r⟩
 ·obtain ⟨z,its,r,p⟩:=h.ok I.hok
  exact ⟨its,r,p.is,z⟩
 ·refine ⟨its.toList,r,⟨o,I.kIn a o hk,hc,n,by simpa using hs⟩,?_⟩
  have e:=r.length
  simp only [Array.length_toList] at e
  omega
theorem Inv.list_inj (I:Inv X pins σ H s) (h:SqL X.K H a xs) (h':SqL X.K H a ys):xs=ys:=by
 obtain ⟨its,r,⟨o,n,e,_,_,d⟩,_⟩:=I.list h
 obtain ⟨its',r',⟨o',n',e',_,_,d'⟩,_⟩:=I.list h'
 rw [e] at e';cases e'
 rw [d] at d'
 injection d' with d1 _
 have:its=its':=by simpa using congrArg Array.toList d1
 subst this
 exact r.inj r'
theorem Inv.tuple_inj (I:Inv X pins σ H s) (h:SqT X.K H a xs) (h':SqT X.K H a ys):xs=ys:=by
 obtain ⟨its,r,⟨o,e,_,n,d⟩,_⟩:=I.tuple h
 obtain ⟨its',r',⟨o',e',_,n',d'⟩,_⟩:=I.tuple h'
 rw [e] at e';cases e'
 rw [d] at d'
 injection d' with d1 _
 have:its=its':=by simpa using congrArg Array.toList d1
 subst this
 exact r.inj r'
end
abbrev Cx.wish (X:Cx) (E:Value→Shared→Prop):Cx:={ X with xe:=E }
abbrev Cx.nox (X:Cx):Cx:=X.wish fun _ _=>False
theorem Cx.Ok.wish {X:Cx} (ok:X.Ok) (E:Value→Shared→Prop):(X.wish E).Ok :=
 ⟨ok.mod,ok.kind,ok.glob,ok.blt,ok.above,ok.inj,ok.has,ok.cab,ok.hd,ok.frames,ok.stk,ok.exf,ok.bs,ok.bsz,ok.noex,ok.exfs,ok.funs,ok.frf⟩
theorem Cx.Ok.unwish {X:Cx} {E:Value→Shared→Prop} (ok:(X.wish E).Ok):X.Ok :=
 ⟨ok.mod,ok.kind,ok.glob,ok.blt,ok.above,ok.inj,ok.has,ok.cab,ok.hd,ok.frames,ok.stk,ok.exf,ok.bs,ok.bsz,ok.noex,ok.exfs,ok.funs,ok.frf⟩
section
variable {X:Cx} {pins:List (Addr × Obj)} {σ:St} {H:Hp} {s:Shared} {E:Value→Shared→Prop}
theorem Inv.wish (I:Inv X pins σ H s) (E:Value→Shared→Prop):Inv (X.wish E) pins σ H s:=⟨I.ok.wish E,I.os,I.bare,I.base,I.loc,I.cell,I.free,I.freeC,I.pin,I.hok,I.len⟩
theorem Inv.unwish (I:Inv (X.wish E) pins σ H s):Inv X pins σ H s:=⟨I.ok.unwish,I.os,I.bare,I.base,I.loc,I.cell,I.free,I.freeC,I.pin,I.hok,I.len⟩
theorem SP.unwish {D:a9S} {f:Flow} {s':Shared} (h:SP (X.wish E) pins D f s'):SP X pins D f s':=by
 cases f with
 | next=>obtain ⟨σ',H',I,q⟩:=h;exact ⟨σ',H',I.unwish,q⟩
 | brk=>obtain ⟨σ',H',I,q⟩:=h;exact ⟨σ',H',I.unwish,q⟩
 | cont=>obtain ⟨σ',H',I,q⟩:=h;exact ⟨σ',H',I.unwish,q⟩
 | ret u=>obtain ⟨v,σ',H',I,r,q⟩:=h;exact ⟨v,σ',H',I.unwish,r,q⟩
theorem PSs.nox {st:List Stmt} {t:TS} (h:PSs X.nox st t):PSs X st t:=fun pins s σ H D I hw =>
 wpAny_mono (h pins s σ H D (I.wish _) hw) (fun _ _ q=>q.unwish) fun _ _ z=>False.elim z
end
section
variable {X:Cx} {st:Stmt} {rest:List Stmt} {t u:TS} {e:Expr} {te:TE} {pos:Pos}
def tNext:TS:=fun D σ H=>D.nx σ H
def tSeq (t u:TS):TS:=fun D σ H=>t { D with nx:=u D } σ H
theorem a0B:PSs X [] tNext:=fun _ _ σ H _ I h=>wpAny_execs_nil ⟨σ,H,I,h⟩
theorem a0f (h1:PS X st t) (h2:PSs X rest u):PSs X (st :: rest) (tSeq t u):=by
 intro pins s σ H D I h
 refine wpAny_execs_cons (thn (h1 pins s σ H { D with nx:=u D } I h) fun f s1 q=>?_)
 cases f with
 | next =>
  obtain ⟨σ',H',I',q⟩:=q
  exact h2 pins s1 σ' H' D I' q
 | ret v=>exact q
 | brk=>exact q
 | cont=>exact q
theorem a0h (h1:PS X st t):PSs X [st] t:=by
 intro pins s σ H D I h
 refine wpAny_execs_cons (thn (h1 pins s σ H D I h) fun f s1 q=>?_)
 cases f with
 | next=>exact wpAny_execs_nil q
 | ret v=>exact q
 | brk=>exact q
 | cont=>exact q
theorem Inv.quiet {pins:List (Addr × Obj)} {σ:St} {H:Hp} {s:Shared} (I:Inv X pins σ H s):interactive X.env=false:=by simp [interactive,I.ok.kind]
def tDrop (te:TE):TS:=fun D σ H=>te σ H fun _ H1=>D.nx σ H1
theorem a1w (he:PE X e te) (hs:swapsWith e none pos.line X.env=pure false:=by rfl):PS X (.Expr e pos) (tDrop te):=by
 intro pins s σ H D I h
 exact wpAny_Expr_any (thn (he pins s σ H _ I h) fun v s1 ⟨x,H1,I1,r1,q1⟩=>⟨σ,H1,I1,q1⟩) I.quiet hs
def tRet (te:TE):TS:=fun D σ H=>te σ H D.rt
theorem a0x (he:PE X e te):PS X (.Return (some e) pos) (tRet te):=by
 intro pins s σ H D I h
 exact wpAny_Return_some (thn (he pins s σ H _ I h) fun v s1 ⟨x,H1,I1,r1,q1⟩=>⟨x,σ,H1,I1,r1,q1⟩)
def tIfS (c:TT) (t u:TS):TS:=fun D σ H=>c σ H fun b H1=>if b=true then t D σ H1 else u D σ H1
theorem a0Y {c:Expr} {a b:List Stmt} {tc:TT} (hc:PT X c tc) (ha:PSs X a t) (hb:PSs X b u):PS X (.If c a b pos) (tIfS tc t u):=by
 intro pins s σ H D I h
 refine wpAny_If (thn (hc pins s σ H _ I h) fun d s1 ⟨H1,I1,q1⟩=>?_)
 cases d with
 | true=>exact ha pins s1 σ H1 D I1 q1
 | false=>exact hb pins s1 σ H1 D I1 q1
def tNever:TS:=fun _ _ _=>False
end
abbrev TG:=V→St→Hp→(St→Hp→Prop)→Prop
abbrev TGs:=List V→St→Hp→(St→Hp→Prop)→Prop
def PG (X:Cx) (target:Expr) (t:TG):Prop :=
 ∀ (pins:List (Addr × Obj)) (s:Shared) (σ:St) (H:Hp) (v:V) (u:Value) (Q:St→Hp→Prop),Inv X pins σ H s→a0T v u→t v σ H Q →
  wpAny (model X.prog X.w) X.A (assign target X.env u) (fun _ s'=>∃ σ' H',Inv X pins σ' H' s'∧Q σ' H') X.xe s
def PGs (X:Cx) (ts:List Expr) (t:TGs):Prop :=
 ∀ (pins:List (Addr × Obj)) (s:Shared) (σ:St) (H:Hp) (vs:List V) (us:List Value) (Q:St→Hp→Prop),Inv X pins σ H s→a0J vs us→t vs σ H Q →
  wpAny (model X.prog X.w) X.A (assignInOrder ((assignEach ts X.env).map (·.2)) us) (fun _ s'=>∃ σ' H',Inv X pins σ' H' s'∧Q σ' H') X.xe s
abbrev TSet:=V→V→V→Hp→(Hp→Prop)→Prop
abbrev TIp:=V→V→Hp→VK→Prop
section
variable {X:Cx} {pos:Pos}
def a2d (i:Nat):TG:=fun v σ H Q=>Q (σ.set i (some v)) H
theorem a0E {i:Nat} {x:Str} (hN:X.N.Nodup) (hi:X.N[i]?=some x) (hx:Loc X.env.scope x) (hf:X.fn x=true∨X.env.scope.names.lookup x=some .local:=by first | exact .inl rfl | exact .inr rfl | assumption):PG X (.Name x pos) (a2d i):=by
 intro pins s σ H v u Q I r h
 exact wpAny_assign_Name (a5J I hN hi hx r (fun s' I'=>⟨_,H,I',h⟩) hf)
def gNil:TGs:=fun vs σ H Q=>vs=[]∧Q σ H
def b0y (t:TG) (u:TGs):TGs:=fun vs σ H Q=>∃ v r,vs=v :: r∧t v σ H fun σ' H'=>u r σ' H' Q
theorem a4Z:PGs X [] gNil:=by
 intro pins s σ H vs us Q I r h
 obtain ⟨e,h⟩:=h
 subst e
 cases r
 exact assignInOrder_nil ⟨σ,H,I,h⟩
theorem a1U {e:Expr} {es:List Expr} {t:TG} {u:TGs} (h1:PG X e t) (h2:PGs X es u)
  (hs:(assignEach (e :: es) X.env).map (·.2)=assign e X.env :: (assignEach es X.env).map (·.2):=by rfl):PGs X (e :: es) (b0y t u):=by
 intro pins s σ H vs us Q I r h
 obtain ⟨v,vr,e1,h⟩:=h
 subst e1
 cases r with
 | cons r rr =>
  rw [hs]
  refine assignInOrder_cons (thn (h1 pins s σ H _ _ _ I r h) fun _ s1 ⟨σ1,H1,I1,q1⟩=>?_)
  exact h2 pins s1 σ1 H1 _ _ Q I1 rr q1
def gTup (K:PySem.W.Frag) (n:Nat) (t:TGs):TG:=fun v σ H Q=>∃ a xs,v=.ref a∧SqT K H a xs∧xs.length=n∧t xs σ H Q
theorem a7e {es:List Expr} {k:Nat} {t:TGs} {n:Nat} (hc:X.calm=true) (h:PGs X es t)
  (hn:(assignEach es X.env).length=n:=by rfl) (hst:(assignEach es X.env).findIdx? (·.1)=none:=by rfl):PG X (.Tuple es k pos) (gTup X.K n t):=by
 intro pins s σ H v u Q I r hw
 obtain ⟨a,xs,e1,hq,hl,hw⟩:=hw
 subst e1
 cases r
 obtain ⟨its,rv,ht,hz⟩:=I.tuple hq
 refine assign_Tuple_tuple (I.ok.hd hc) ht (by simp [hn,←hl,rv.length]) hst fun h' hx=>?_
 have I1:Inv X pins σ H { s with heap:=h' }:=I.kept (t':=s.toks) fun b o e=>hx b o (Nat.ne_of_lt (Heap.lt_size e)) e
 exact h pins _ σ H xs _ Q I1 (by simpa using rv) hw
def gSub (to ti:TE) (t:TSet):TG:=fun v σ H Q=>to σ H fun o H1=>ti σ H1 fun i H2=>t o i v H2 fun H3=>Q σ H3
def tAsg (te:TE) (g:TG):TS:=fun D σ H=>te σ H fun x H1=>g x σ H1 D.nx
theorem a0u {i:Nat} {x:Str} {e:Expr} {te:TE} {pos':Pos} (hN:X.N.Nodup) (hi:X.N[i]?=some x) (hx:Loc X.env.scope x) (he:PE X e te) (hs:swapsWith e (some (.Name x pos')) pos.line X.env=pure false:=by rfl) (hf:X.fn x=true∨X.env.scope.names.lookup x=some .local:=by first | exact .inl rfl | exact .inr rfl | assumption) :
  PS X (.Assign [.Name x pos'] e pos) (tAsg te (a2d i)):=by
 intro pins s σ H D I h
 refine wpAny_Assign_Name (thn (he pins s σ H _ I h) fun v s1 ⟨y,H1,I1,r1,q1⟩=>?_) hs
 exact a5J I1 hN hi hx r1 (fun s2 I2=>⟨_,H1,I2,q1⟩) hf
def tPar (i j:Nat) (ta:TA):TS:=fun D σ H=>ta σ H fun vs H1=>∃ v w,vs=[v,w]∧D.nx ((σ.set i (some v)).set j (some w)) H1
def tAug (i:Nat) (te:TE) (ti:TIp):TS:=fun D σ H=>∃ x,σ[i]?=some (some x)∧te σ H fun y H1=>ti x y H1 fun z H2=>D.nx (σ.set i (some z)) H2
def tAugS (to ti te:TE) (tget:V→V→Hp→VK→Prop) (tip:TIp) (tset:TSet):TS:=fun D σ H=>to σ H fun o H1=>ti σ H1 fun i H2=>tget o i H2 fun x H3=>te σ H3 fun y H4=>tip x y H4 fun z H5=>tset o i z H5 fun H6=>D.nx σ H6
def PGet (X:Cx) (t:V→V→Hp→VK→Prop):Prop :=
 ∀ (pins:List (Addr × Obj)) (s:Shared) (σ:St) (H:Hp) (o i:V) (ov iv:Value) (Q:VK),Inv X pins σ H s→a0T o ov→a0T i iv→t o i H Q →
  wpAny (model X.prog X.w) X.A (getItem ov iv) (EP X pins σ Q) X.xe s
def ipI (f:Int→Int→Int):TIp:=fun x y H Q=>∃ i j,x=.int i∧y=.int j∧Q (.int (f i j)) H
def tWhile (c:TT) (tb:TS):TS:=fun D σ H=>∃ W:Nat→St→Hp→Prop,(∃ m,W m σ H)∧∀ m σ H,W m σ H →
 c σ H fun b H1=>if b=true then ∃ N:St→Hp→Prop,(∀ σ' H',N σ' H'→∃ m',m' < m∧W m' σ' H')∧tb { D with nx:=N,ct:=N,bk:=D.nx } σ H1 else D.nx σ H1
end
structure It where
 go:Nat→Hp→Prop
 yld:Nat→Hp→V→Hp→Prop
 stop:Nat→Hp→Prop
def a4n (X:Cx) (pins:List (Addr × Obj)) (H:Hp) (b:Addr):Prop :=
 H b=none∧b≠X.env.locals∧b∉X.fs∧(b∈X.ex∨X.s₀.heap.objs.size≤b)∧(∀ x c,X.env.cells.lookup x=some c→c≠b)∧∀ p∈X.pn++pins,p.1≠b
theorem Inv.fpOk {X:Cx} {pins:List (Addr × Obj)} {σ:St} {H H':Hp} {s:Shared} {b:Addr} (I:Inv X pins σ H s) (hb:s.heap.objs.size≤b) (hn:H' b=none):a4n X pins H' b:=by
 refine ⟨hn,Nat.ne_of_gt (Nat.lt_of_lt_of_le I.lt hb),I.nofs hb,.inr (Nat.le_trans I.sz hb),fun x c e z=>?_,fun p hp z=>?_⟩
 ·obtain ⟨v,q⟩:=I.cell x c e
  exact absurd (Nat.lt_of_lt_of_le q.lt (by rw [z];exact hb)) (Nat.lt_irrefl _)
 ·exact absurd (Nat.lt_of_lt_of_le (Heap.lt_size (I.pin p hp).1) (by rw [z];exact hb)) (Nat.lt_irrefl _)
structure b0z (P:Program) (w:World) (K:PySem.W.Frag) (tg:Expr) (J:It) (fp:List Addr) (it:Addr) (tn:Nat→Heap→Prop):Prop where
 mem:it∈fp
 obj:∀ i h,tn i h→∀ b∈fp,∃ o,h.get? b=some o∧∀ v,o.data≠.cell v
 keep:∀ i h h',tn i h→(∀ b∈fp,∀ o,h.get? b=some o→h'.get? b=some o)→tn i h'
 item:∀ (X:Cx),X.prog=P→X.w=w→X.K=K→X.calm=true→∀ (i:Nat) (pins:List (Addr × Obj)) (s:Shared) (σ:St) (H:Hp) (E:Value→Shared→Prop),Inv X pins σ H s→(∀ b∈fp,a4n X pins H b)→tn i s.heap→J.go i H →
  wpAny (model P w) X.A (pyNext (.ref it)) (fun r s1=>∃ u,r=some u ∧
   wpAny (model P w) X.A (letOwnedTupleGo tg (.ref it) u) (fun _ s2=>∃ x H',Inv X pins σ H' s2∧a0T x u∧J.yld i H x H'∧tn (i+1) s2.heap∧∀ b∈fp,H' b=none) E s1) E s
 done:∀ (X:Cx),X.prog=P→X.w=w→X.K=K→X.calm=true→∀ (i:Nat) (pins:List (Addr × Obj)) (s:Shared) (σ:St) (H:Hp) (E:Value→Shared→Prop),Inv X pins σ H s→(∀ b∈fp,a4n X pins H b)→tn i s.heap→J.stop i H →
  wpAny (model P w) X.A (pyNext (.ref it)) (fun r s1=>r=none∧Inv X pins σ H s1) E s
 self:∀ (A:Around) (i:Nat) (s:Shared) (Q:Value→Shared→Prop) (E:Value→Shared→Prop),tn i s.heap→Q (.ref it) s→wpAny (model P w) A (pyIter (.ref it)) Q E s
abbrev TI:=St→Hp→(It→Hp→Prop)→Prop
def PIE (X:Cx) (pins:List (Addr × Obj)) (σ:St) (tg:Expr) (R:It→Hp→Prop) (itv:Value) (s2:Shared):Prop :=
 ∃ (it:Addr) (fp:List Addr) (tn:Nat→Heap→Prop) (J:It) (H':Hp),itv=.ref it∧Inv X pins σ H' s2∧b0z X.prog X.w X.K tg J fp it tn∧tn 0 s2.heap∧(∀ b∈fp,a4n X pins H' b)∧R J H'
def PI (X:Cx) (tg iter:Expr) (wi:TI):Prop :=
 ∀ (pins:List (Addr × Obj)) (s:Shared) (σ:St) (H:Hp) (R:It→Hp→Prop),Inv X pins σ H s→wi σ H R →
  wpAny (model X.prog X.w) X.A (eval iter X.env) (fun v s1=>wpAny (model X.prog X.w) X.A (pyIter v) (PIE X pins σ tg R) X.xe s1) X.xe s
theorem a8R {M:Model} {A:Around} {E:Value→Shared→Prop} {s:Shared} {tg:Expr} {it:Addr} {u:Value} {o:Obj} {n:String} {vs:Array Value} {Q:Unit→Shared→Prop} (ho:s.heap.get? it=some o) (hc:o.cls=.type n) (hd:o.data=.fields vs)
  (hn:["enumerate","zip","dict_itemiterator","dict_reverseitemiterator","odict_iterator","itertools.zip_longest","itertools.pairwise"].contains n=false) (hQ:Q () s):wpAny M A (letOwnedTupleGo tg (.ref it) u) Q E s:=by
 unfold letOwnedTupleGo
 cases tg <;> first
  | exact wpAny_pure hQ
  | (cases u <;> first
    | exact wpAny_pure hQ
    | (refine wpAny_bind (wpAny_load ho ?_)
       rw [hc,hd]
       show wpAny M A (if (["enumerate","zip","dict_itemiterator","dict_reverseitemiterator","odict_iterator","itertools.zip_longest","itertools.pairwise"].contains n && vs[0]? == some (rawInt _))=true then _ else _) Q E s
       rw [if_neg (by intro h;rw [hn,Bool.false_and] at h;cases h)]
       exact wpAny_pure hQ))
def Itl (K:PySem.W.Frag) (a:Addr):It :=
 ⟨fun i H=>∃ xs x,SqL K H a xs∧xs[i]?=some x,fun i H x H'=>H'=H∧∀ xs,SqL K H a xs→xs[i]?=some x,fun i H=>∃ xs,SqL K H a xs∧xs.length≤i⟩
def Itt (K:PySem.W.Frag) (a:Addr):It :=
 ⟨fun i H=>∃ xs x,SqT K H a xs∧xs[i]?=some x,fun i H x H'=>H'=H∧∀ xs,SqT K H a xs→xs[i]?=some x,fun i H=>∃ xs,SqT K H a xs∧xs.length≤i⟩
def Itr (lo:Int) (n:Nat):It:=⟨fun i _=>i < n,fun i H x H'=>H'=H∧x=.int (lo+i),fun i _=>n≤i⟩
theorem a7f {P:Program} {w:World} {K:PySem.W.Frag} {tg:Expr} (a it:Addr):b0z P w K tg (Itl K a) [it] it (fun i h=>h.IsListIter it a i) where
 mem:=by simp
 obj:=fun i h st b hb=>by
  have e:b=it:=by simpa using hb
  subst e
  obtain ⟨o,e,c,d⟩:=st
  exact ⟨o,e,fun v z=>by rw [d] at z;cases z⟩
 keep:=fun i h h' st k=>st.at fun o e=>k it (by simp) o e
 item:=by
  intro X hP hw hK hc i pins s σ H E I hf st hg
  subst hP hw hK
  obtain ⟨xs,x,hq,hx⟩:=hg
  obtain ⟨its,rv,p,hz⟩:=I.list hq
  obtain ⟨u,hu,ru⟩:=rv.get hx
  obtain ⟨f0,f1,f2,f3,f4,f5⟩:=hf it (by simp)
  refine wpAny_pyNext_list_item st p.isList (x:=u) (by simpa using hu) fun h' st' sb=>?_
  have I1:Inv X pins σ H { s with heap:=h' }:=I.turned (t':=s.toks) (fun b o hb e=>(sb.2 b hb).trans e) f0 f1 f3 f4 f5
  obtain ⟨o,e,c,d⟩:=id st'
  exact ⟨u,rfl,a8R (s:={ s with heap:=h' }) e c d (by decide) ⟨x,H,I1,ru,⟨rfl,fun ys hy=>by rw [I.list_inj hy hq];exact hx⟩,st',fun b hb=>(hf b hb).1⟩⟩
 done:=by
  intro X hP hw hK hc i pins s σ H E I hf st hg
  subst hP hw hK
  obtain ⟨xs,hq,hx⟩:=hg
  obtain ⟨its,rv,p,hz⟩:=I.list hq
  obtain ⟨f0,f1,f2,f3,f4,f5⟩:=hf it (by simp)
  have hl:=rv.length
  exact wpAny_pyNext_list_end (I.ok.hd hc) st p.isList (by simp;omega) fun h' eb=>⟨rfl,I.turned (t':=s.toks) (fun b o hb e=>eb b o hb e) f0 f1 f3 f4 f5⟩
 self:=fun _ _ _ _ _ st h=>wpAny_pyIter_listiter st h
theorem a6s {P:Program} {w:World} {K:PySem.W.Frag} {tg:Expr} (a it:Addr):b0z P w K tg (Itt K a) [it] it (fun i h=>h.IsTupleIter it a i) where
 mem:=by simp
 obj:=fun i h st b hb=>by
  have e:b=it:=by simpa using hb
  subst e
  obtain ⟨o,e,c,d⟩:=st
  exact ⟨o,e,fun v z=>by rw [d] at z;cases z⟩
 keep:=fun i h h' st k=>st.at fun o e=>k it (by simp) o e
 item:=by
  intro X hP hw hK hc i pins s σ H E I hf st hg
  subst hP hw hK
  obtain ⟨xs,x,hq,hx⟩:=hg
  obtain ⟨its,rv,p,hz⟩:=I.tuple hq
  obtain ⟨u,hu,ru⟩:=rv.get hx
  obtain ⟨f0,f1,f2,f3,f4,f5⟩:=hf it (by simp)
  refine wpAny_pyNext_tuple_item st (show s.heap.IsTuple a its.toArray from p) (x:=u) (by simpa using hu) fun h' st' sb=>?_
  have I1:Inv X pins σ H { s with heap:=h' }:=I.turned (t':=s.toks) (fun b o hb e=>(sb.2 b hb).trans e) f0 f1 f3 f4 f5
  obtain ⟨o,e,c,d⟩:=id st'
  exact ⟨u,rfl,a8R (s:={ s with heap:=h' }) e c d (by decide) ⟨x,H,I1,ru,⟨rfl,fun ys hy=>by rw [I.tuple_inj hy hq];exact hx⟩,st',fun b hb=>(hf b hb).1⟩⟩
 done:=by
  intro X hP hw hK hc i pins s σ H E I hf st hg
  subst hP hw hK
  obtain ⟨xs,hq,hx⟩:=hg
  obtain ⟨its,rv,p,hz⟩:=I.tuple hq
  obtain ⟨f0,f1,f2,f3,f4,f5⟩:=hf it (by simp)
  have hl:=rv.length
  exact wpAny_pyNext_tuple_end (I.ok.hd hc) st (show s.heap.IsTuple a its.toArray from p) (by simp;omega) fun h' eb=>⟨rfl,I.turned (t':=s.toks) (fun b o hb e=>eb b o hb e) f0 f1 f3 f4 f5⟩
 self:=fun _ _ _ _ _ st h=>wpAny_pyIter_tupleiter st h
theorem a6t {P:Program} {w:World} {K:PySem.W.Frag} {tg:Expr} (it:Addr) (lo:Int) (n:Nat):b0z P w K tg (Itr lo n) [it] it (fun i h=>IsRangeIter h it (lo+(i:Nat) * 1) ((n:Int) - (i:Nat)) 1) where
 mem:=by simp
 obj:=fun i h st b hb=>by
  have e:b=it:=by simpa using hb
  subst e
  exact ⟨_,st,fun v z=>by
   have z':Data.fields _=Data.cell v:=z
   cases z'⟩
 keep:=fun i h h' st k=>k it (by simp) _ st
 item:=by
  intro X hP hw hK hc i pins s σ H E I hf st hg
  subst hP hw hK
  obtain ⟨f0,f1,f2,f3,f4,f5⟩:=hf it (by simp)
  have W:=Walks.range (prog:=X.prog) (w:=X.w) (I.ok.hd hc) it lo 1 n
  refine W.item i s _ _ hg st fun v h' tk hv st' kk=>?_
  obtain ⟨t,rfl⟩:=hv
  have I1:Inv X pins σ H { s with heap:=h',toks:=tk }:=I.turned (fun b o hb e=>kk b o (by simpa using hb) e) f0 f1 f3 f4 f5
  refine ⟨_,rfl,a8R (s:={ s with heap:=h',toks:=tk }) (n:="range_iterator") st' rfl rfl (by decide) ⟨.int (lo+i),H,I1,⟨t,?_⟩,⟨rfl,rfl⟩,st',fun b hb=>(hf b hb).1⟩⟩
  rw [Int.mul_one]
 done:=by
  intro X hP hw hK hc i pins s σ H E I hf st hg
  subst hP hw hK
  obtain ⟨f0,f1,f2,f3,f4,f5⟩:=hf it (by simp)
  exact wpAny_pyNext_range_end (I.ok.hd hc) st (by have:n≤i:=hg;omega) fun h' eb=>⟨rfl,I.turned (t':=s.toks) (fun b o hb e=>eb b o hb e) f0 f1 f3 f4 f5⟩
 self:=fun _ _ _ _ _ st h=>wpAny_pyIter_rangeiter st h
section
variable {X:Cx} {tg:Expr}
def iList (K:PySem.W.Frag) (tl:TE):TI:=fun σ H R=>tl σ H fun x H1=>∃ a,x=.ref a∧(∃ xs,SqL K H1 a xs)∧R (Itl K a) H1
def iTup (K:PySem.W.Frag) (tl:TE):TI:=fun σ H R=>tl σ H fun x H1=>∃ a,x=.ref a∧(∃ xs,SqT K H1 a xs)∧R (Itt K a) H1
theorem a1G {l:Expr} {tl:TE} (hl:PE X l tl):PI X tg l (iList X.K tl):=by
 intro pins s σ H R I h
 refine thn (hl pins s σ H _ I h) fun v s1 ⟨x,H1,I1,r1,q1⟩=>?_
 obtain ⟨a,e,⟨xs,hq⟩,q⟩:=q1
 subst e
 cases r1
 obtain ⟨its,rv,p,hz⟩:=I1.list hq
 refine wpAny_pyIter_list p.isList ?_
 refine ⟨s1.heap.objs.size,[s1.heap.objs.size],_,_,H1,rfl,I1.kept (t':=s1.toks) fun b o e=>Heap.get?_push_of_some _ e,a7f a _,⟨_,Heap.get?_push_size _ rfl,rfl,rfl⟩,fun b hb=>?_,q⟩
 have e:b=s1.heap.objs.size:=by simpa using hb
 subst e
 exact I1.fpOk (Nat.le_refl _) (I1.hok.fresh (Nat.le_refl _))
theorem a5L {l:Expr} {tl:TE} (hl:PE X l tl):PI X tg l (iTup X.K tl):=by
 intro pins s σ H R I h
 refine thn (hl pins s σ H _ I h) fun v s1 ⟨x,H1,I1,r1,q1⟩=>?_
 obtain ⟨a,e,⟨xs,hq⟩,q⟩:=q1
 subst e
 cases r1
 obtain ⟨its,rv,p,hz⟩:=I1.tuple hq
 refine wpAny_pyIter_tuple (show s1.heap.IsTuple a its.toArray from p) ?_
 refine ⟨s1.heap.objs.size,[s1.heap.objs.size],_,_,H1,rfl,I1.kept (t':=s1.toks) fun b o e=>Heap.get?_push_of_some _ e,a6s a _,⟨_,Heap.get?_push_size _ rfl,rfl,rfl⟩,fun b hb=>?_,q⟩
 have e:b=s1.heap.objs.size:=by simpa using hb
 subst e
 exact I1.fpOk (Nat.le_refl _) (I1.hok.fresh (Nat.le_refl _))
theorem a5M {pins:List (Addr × Obj)} {σ:St} {H:Hp} {s:Shared} {R:It→Hp→Prop} {E:Value→Shared→Prop} {lo hi:Int} {t u v:Tok} {tk:Nat} (I:Inv X pins σ H s) (h1:-(2 ^ 62)≤lo) (h2:lo < 2 ^ 62) (h3:-(2 ^ 62)≤hi) (h4:hi < 2 ^ 62)
  (q:R (Itr lo (hi - lo).toNat) H):wpAny (model X.prog X.w) X.A (pyIter (.ref s.heap.objs.size)) (PIE X pins σ tg R) E { s with heap:=s.heap.push { cls:=.type "range",data:=.fields #[.int lo t,.int hi u,.int 1 v] },toks:=tk }:=by
 refine wpAny_pyIter_range (IsRange.new ..) (small_one h1 h2 h3 h4) ?_
 have I1:Inv X pins σ H { s with heap:=s.heap.push { cls:=.type "range",data:=.fields #[.int lo t,.int hi u,.int 1 v] },toks:=tk }:=I.kept fun b o e=>Heap.get?_push_of_some _ e
 refine ⟨(s.heap.push { cls:=.type "range",data:=.fields #[.int lo t,.int hi u,.int 1 v] }).objs.size,[(s.heap.push { cls:=.type "range",data:=.fields #[.int lo t,.int hi u,.int 1 v] }).objs.size],_,_,H,rfl,
  I1.kept (t':=tk) fun b o e=>Heap.get?_push_of_some _ e,a6t _ lo (hi - lo).toNat,?_,fun b hb=>?_,q⟩
 ·have e1:lo+((0:Nat):Int) * 1=lo:=by simp
  have e2:(((hi - lo).toNat:Nat):Int) - ((0:Nat):Int)=Builtin.Range.rangeSize lo hi 1:=by rw [rangeSize_one];split <;> omega
  show IsRangeIter _ _ (lo+((0:Nat):Int) * 1) ((((hi - lo).toNat:Nat):Int) - ((0:Nat):Int)) 1
  rw [e1,e2]
  exact Heap.get?_push_size _ rfl
 ·have e:b=(s.heap.push { cls:=.type "range",data:=.fields #[.int lo t,.int hi u,.int 1 v] }).objs.size:=by simpa using hb
  subst e
  exact I1.fpOk (Nat.le_refl _) (I1.hok.fresh (Nat.le_refl _))
def iRng1 (ta:TA):TI:=fun σ H R=>ta σ H fun vs H1=>∃ j:Int,vs=[.int j]∧-(2 ^ 62)≤j∧j < 2 ^ 62∧R (Itr 0 j.toNat) H1
def iRng2 (ta:TA):TI:=fun σ H R=>ta σ H fun vs H1=>∃ i j:Int,vs=[.int i,.int j]∧(-(2 ^ 62)≤i∧i < 2 ^ 62∧-(2 ^ 62)≤j∧j < 2 ^ 62)∧R (Itr i (j - i).toNat) H1
theorem a1N {a:Expr} {ta:TA} {p pos:Pos} (hg:Gl X "range") (hm:X.mg "range"=none) (ha:PA X [a] ta) (hs:starEach [a] X.env=[(false,eval a X.env)]:=by rfl):PI X tg (.Call (.Name "range" p) [a] [] pos) (iRng1 ta):=by
 intro pins s σ H R I h
 refine Call_ (a1M I hg hm boot_range (PyProof.Rows.callWith_type1 (thn (ha pos pins s σ H _ I h) fun us s1 ⟨vs,H1,I1,r1,q1⟩=>?_) hs rfl))
 obtain ⟨j,e,q1,q2,q⟩:=q1
 subst e
 cases r1 with
 | cons r rr =>
  cases rr
  obtain ⟨t,rfl⟩:=r
  exact call_range_1 (a5M I1 (by omega) (by omega) q1 q2 (by simpa using q))
theorem a4o {a b:Expr} {ta:TA} {p pos:Pos} (hg:Gl X "range") (hm:X.mg "range"=none) (ha:PA X [a,b] ta) (hs:starEach [a,b] X.env=[(false,eval a X.env),(false,eval b X.env)]:=by rfl) (hs2:starEach [b] X.env=[(false,eval b X.env)]:=by rfl) :
  PI X tg (.Call (.Name "range" p) [a,b] [] pos) (iRng2 ta):=by
 intro pins s σ H R I h
 refine Call_ (a1M I hg hm boot_range (PyProof.Rows.callWith_type1 (thn (ha pos pins s σ H _ I h) fun us s1 ⟨vs,H1,I1,r1,q1⟩=>?_) (by rw [hs,hs2]) (by rw [hs2];rfl)))
 obtain ⟨i,j,e,⟨q1,q2,q3,q4⟩,q⟩:=q1
 subst e
 cases r1 with
 | cons r rr =>
  cases rr with
  | cons r' rr =>
   cases rr
   obtain ⟨t,rfl⟩:=r
   obtain ⟨t',rfl⟩:=r'
   exact call_range_2 (a5M I1 q1 q2 q3 q4 q)
def tFor (wi:TI) (g:TG) (tb:TS):TS:=fun D σ H=>wi σ H fun J H1=>∃ W:Nat→Nat→St→Hp→Prop,(∃ m,W 0 m σ H1)∧∀ i m σ H,W i m σ H →
 (J.stop i H∧D.nx σ H)∨(J.go i H∧∃ N:St→Hp→Prop,(∀ σ' H',N σ' H'→∃ m',m' < m∧W (i+1) m' σ' H')∧∀ x H',J.yld i H x H'→g x σ H' fun σ2 H2=>tb { D with nx:=N,ct:=N,bk:=D.nx } σ2 H2)
def a4p (fp:List Addr) (h:Heap):List (Addr × Obj):=fp.filterMap fun b=>(h.get? b).map fun o=>(b,o)
theorem a1k {fp:List Addr} {h:Heap} {b:Addr} {o:Obj} (hb:b∈fp) (e:h.get? b=some o):(b,o)∈a4p fp h:=List.mem_filterMap.mpr ⟨b,hb,by rw [e];rfl⟩
theorem a7g {fp:List Addr} {h:Heap} {p:Addr × Obj} (hp:p∈a4p fp h):p.1∈fp∧h.get? p.1=some p.2:=by
 obtain ⟨b,hb,e⟩:=List.mem_filterMap.mp hp
 cases q:h.get? b with
 | none=>rw [q] at e;cases e
 | some o =>
  rw [q] at e
  have e':(b,o)=p:=Option.some.inj e
  subst e'
  exact ⟨hb,q⟩
theorem Inv.pinned {pins:List (Addr × Obj)} {σ:St} {H:Hp} {s:Shared} {fp:List Addr} (I:Inv X pins σ H s) (hf:∀ b∈fp,a4n X pins H b) (ho:∀ b∈fp,∃ o,s.heap.get? b=some o∧∀ v,o.data≠.cell v):Inv X (pins++a4p fp s.heap) σ H s :=
 I.pins_of fun p hp=>(List.mem_append.mp hp).elim (fun z=>I.pin p (List.mem_append_right _ z)) fun z=>by
  obtain ⟨hb,e⟩:=a7g z
  obtain ⟨f0,f1,f2,_⟩:=hf p.1 hb
  obtain ⟨o,e',d⟩:=ho p.1 hb
  rw [e] at e';cases e'
  exact ⟨e,f0,f1,f2,d⟩
theorem Inv.unpinned {pins pl:List (Addr × Obj)} {σ:St} {H:Hp} {s:Shared} (I:Inv X (pins++pl) σ H s):Inv X pins σ H s:=I.pins_of fun p hp=>I.pin p (List.mem_append_right _ (List.mem_append_left _ hp))
theorem a1l {iter:Expr} {body:List Stmt} {wi:TI} {g:TG} {tb:TS} {pos:Pos} (hp:PassesOwn (model X.prog X.w) X.A X.env X.xe) (hc:X.calm=true) (hi:PI X tg iter wi) (hg:PG X tg g) (hb:PSs X body tb)
  (hs:∀ x,foldedSetIterable iter X.env x=pure x:=by intro _;rfl):PS X (.For tg iter body [] pos) (tFor wi g tb):=by
 intro pins s σ H D I h
 refine wpAny_For (thn (hi pins s σ H _ I h) fun v s1 h1=>thn h1 fun itv s2 h2=>?_) hs
 obtain ⟨it,fp,tn,J,H2,e,I2,T,st2,f2,W,⟨m0,w0⟩,turn⟩:=h2
 subst e
 have stat:∀ {H':Hp},(∀ b∈fp,H' b=none)→∀ b∈fp,a4n X pins H' b:=fun hn b hb=>⟨hn b hb,(f2 b hb).2⟩
 refine codeAny_forLoop_any (fun n s'=>∃ i σ' H',Inv X pins σ' H' s'∧tn i s'.heap∧(∀ b∈fp,H' b=none)∧W i n σ' H') ?_ m0 ⟨0,σ,H2,I2,st2,fun b hb=>(f2 b hb).1,w0⟩
 rintro n s3 ⟨i,σ3,H3,I3,st3,fr3,w3⟩
 rcases turn i n σ3 H3 w3 with ⟨stop,qn⟩ | ⟨go,N,hN,step⟩
 ·refine wpAny_passesOwn hp (thn (T.done X rfl rfl rfl hc i pins s3 σ3 H3 X.xe I3 (stat fr3) st3 stop) fun r s4 ⟨hr,I4⟩=>?_)
  subst hr
  exact wpAny_execs_nil ⟨σ3,H3,I4,qn⟩
 ·refine wpAny_passesOwn hp (thn (T.item X rfl rfl rfl hc i pins s3 σ3 H3 X.xe I3 (stat fr3) st3 go) fun r s4 ⟨u,hr,h4⟩=>?_)
  subst hr
  refine wpAny_passesOwn hp (thn h4 fun _ s5 ⟨x,H5,I5,r5,y5,st5,fr5⟩=>?_)
  have I5':=I5.pinned (stat fr5) (T.obj _ _ st5)
  refine wpAny_passesOwn hp (thn (hg _ s5 σ3 H5 x u _ I5' r5 (step x H5 y5)) fun _ s6 ⟨σ6,H6,I6,q6⟩=>?_)
  refine wpAny_passesOwn hp (thn (hb _ s6 σ6 H6 _ I6 q6) fun f s7 q7=>?_)
  have again:∀ {σ7:St} {H7:Hp},Inv X (pins++a4p fp s5.heap) σ7 H7 s7→N σ7 H7→∃ m,m < n∧∃ i σ' H',Inv X pins σ' H' s7∧tn i s7.heap∧(∀ b∈fp,H' b=none)∧W i m σ' H':=fun {σ7 H7} I7 n7=>by
   obtain ⟨m',hm,w7⟩:=hN σ7 H7 n7
   refine ⟨m',hm,i+1,σ7,H7,I7.unpinned,T.keep _ _ _ st5 fun b hb o e=>(I7.pin (b,o) (List.mem_append_right _ (List.mem_append_right _ (a1k hb e)))).1,fun b hb=>?_,w7⟩
   obtain ⟨o,e,d⟩:=T.obj _ _ st5 b hb
   exact (I7.pin (b,o) (List.mem_append_right _ (List.mem_append_right _ (a1k hb e)))).2.1
  cases f with
  | next=>obtain ⟨σ7,H7,I7,n7⟩:=q7;exact again I7 n7
  | cont=>obtain ⟨σ7,H7,I7,n7⟩:=q7;exact again I7 n7
  | brk=>obtain ⟨σ7,H7,I7,q7⟩:=q7;exact ⟨σ7,H7,I7.unpinned,q7⟩
  | ret v=>obtain ⟨x7,σ7,H7,I7,r7,q7⟩:=q7;exact ⟨x7,σ7,H7,I7.unpinned,r7,q7⟩
end
theorem a1V {K:PySem.W.Frag} {a:Addr} {xs:List V} {g:TG} {tb:TS} {D:a9S} {σ:St} {H:Hp} (Pv:Nat→St→Hp→Prop) (h0:Pv 0 σ H) (hl:∀ i σ H,i≤xs.length→Pv i σ H→SqL K H a xs)
  (hs:∀ i x σ H,xs[i]?=some x→Pv i σ H→g x σ H fun σ2 H2=>tb { D with nx:=Pv (i+1),ct:=Pv (i+1),bk:=D.nx } σ2 H2) (hd:∀ σ H,Pv xs.length σ H→D.nx σ H) :
  ∃ W:Nat→Nat→St→Hp→Prop,(∃ m,W 0 m σ H)∧∀ i m σ H,W i m σ H →
   ((Itl K a).stop i H∧D.nx σ H)∨((Itl K a).go i H∧∃ N:St→Hp→Prop,(∀ σ' H',N σ' H'→∃ m',m' < m∧W (i+1) m' σ' H')∧∀ x H',(Itl K a).yld i H x H'→g x σ H' fun σ2 H2=>tb { D with nx:=N,ct:=N,bk:=D.nx } σ2 H2):=by
 refine ⟨fun i m σ H=>m=xs.length - i∧i≤xs.length∧Pv i σ H,⟨xs.length,by simp,Nat.zero_le _,h0⟩,?_⟩
 rintro i m σ H ⟨rfl,hi,p⟩
 have q:=hl i σ H hi p
 by_cases hlt:i < xs.length
 ·refine .inr ⟨⟨xs,xs[i],q,by simp [hlt]⟩,Pv (i+1),fun σ' H' p'=>⟨xs.length - (i+1),by omega,rfl,hlt,p'⟩,fun x H' y=>?_⟩
  obtain ⟨e,y⟩:=y
  subst e
  exact hs i x σ _ (y xs q) p
 ·have e:i=xs.length:=by omega
  subst e
  exact .inl ⟨⟨xs,q,Nat.le_refl _⟩,hd σ H p⟩
theorem a5a {K:PySem.W.Frag} {a:Addr} {xs:List V} {g:TG} {tb:TS} {D:a9S} {σ:St} {H:Hp} (Pv:Nat→St→Hp→Prop) (h0:Pv 0 σ H) (hl:∀ i σ H,i≤xs.length→Pv i σ H→SqT K H a xs)
  (hs:∀ i x σ H,xs[i]?=some x→Pv i σ H→g x σ H fun σ2 H2=>tb { D with nx:=Pv (i+1),ct:=Pv (i+1),bk:=D.nx } σ2 H2) (hd:∀ σ H,Pv xs.length σ H→D.nx σ H) :
  ∃ W:Nat→Nat→St→Hp→Prop,(∃ m,W 0 m σ H)∧∀ i m σ H,W i m σ H →
   ((Itt K a).stop i H∧D.nx σ H)∨((Itt K a).go i H∧∃ N:St→Hp→Prop,(∀ σ' H',N σ' H'→∃ m',m' < m∧W (i+1) m' σ' H')∧∀ x H',(Itt K a).yld i H x H'→g x σ H' fun σ2 H2=>tb { D with nx:=N,ct:=N,bk:=D.nx } σ2 H2):=by
 refine ⟨fun i m σ H=>m=xs.length - i∧i≤xs.length∧Pv i σ H,⟨xs.length,by simp,Nat.zero_le _,h0⟩,?_⟩
 rintro i m σ H ⟨rfl,hi,p⟩
 have q:=hl i σ H hi p
 by_cases hlt:i < xs.length
 ·refine .inr ⟨⟨xs,xs[i],q,by simp [hlt]⟩,Pv (i+1),fun σ' H' p'=>⟨xs.length - (i+1),by omega,rfl,hlt,p'⟩,fun x H' y=>?_⟩
  obtain ⟨e,y⟩:=y
  subst e
  exact hs i x σ _ (y xs q) p
 ·have e:i=xs.length:=by omega
  subst e
  exact .inl ⟨⟨xs,q,Nat.le_refl _⟩,hd σ H p⟩
theorem a1A {lo:Int} {n:Nat} {g:TG} {tb:TS} {D:a9S} {σ:St} {H:Hp} (Pv:Nat→St→Hp→Prop) (h0:Pv 0 σ H)
  (hs:∀ i σ H,i < n→Pv i σ H→g (.int (lo+i)) σ H fun σ2 H2=>tb { D with nx:=Pv (i+1),ct:=Pv (i+1),bk:=D.nx } σ2 H2) (hd:∀ σ H,Pv n σ H→D.nx σ H) :
  ∃ W:Nat→Nat→St→Hp→Prop,(∃ m,W 0 m σ H)∧∀ i m σ H,W i m σ H →
   ((Itr lo n).stop i H∧D.nx σ H)∨((Itr lo n).go i H∧∃ N:St→Hp→Prop,(∀ σ' H',N σ' H'→∃ m',m' < m∧W (i+1) m' σ' H')∧∀ x H',(Itr lo n).yld i H x H'→g x σ H' fun σ2 H2=>tb { D with nx:=N,ct:=N,bk:=D.nx } σ2 H2):=by
 refine ⟨fun i m σ H=>m=n - i∧i≤n∧Pv i σ H,⟨n,by simp,Nat.zero_le _,h0⟩,?_⟩
 rintro i m σ H ⟨rfl,hi,p⟩
 by_cases hlt:i < n
 ·refine .inr ⟨hlt,Pv (i+1),fun σ' H' p'=>⟨n - (i+1),by omega,rfl,hlt,p'⟩,fun x H' y=>?_⟩
  obtain ⟨e,y⟩:=y
  subst e y
  exact hs i σ _ hlt p
 ·have e:i=n:=by omega
  subst e
  exact .inl ⟨Nat.le_refl _,hd σ H p⟩
abbrev R2:=V→V→Hp→VK→Prop
def OpR (X:Cx) (f:Value→Value→Sem Value) (r:R2):Prop :=
 ∀ (pins:List (Addr × Obj)) (s:Shared) (σ:St) (H:Hp) (x y:V) (v u:Value) (Q:VK),Inv X pins σ H s→a0T x v→a0T y u→r x y H Q →
  wpAny (model X.prog X.w) X.A (f v u) (EP X pins σ Q) X.xe s
def UnR (X:Cx) (f:Value→Sem Value) (r:V→Hp→VK→Prop):Prop :=
 ∀ (pins:List (Addr × Obj)) (s:Shared) (σ:St) (H:Hp) (x:V) (v:Value) (Q:VK),Inv X pins σ H s→a0T x v→r x H Q →
  wpAny (model X.prog X.w) X.A (f v) (EP X pins σ Q) X.xe s
def a2l (X:Cx) (f:Value) (r:List V→Hp→VK→Prop):Prop :=
 ∀ (pins:List (Addr × Obj)) (s:Shared) (σ:St) (H:Hp) (xs:List V) (us:List Value) (Q:VK),Inv X pins σ H s→a0J xs us→r xs H Q →
  wpAny (model X.prog X.w) X.A (call f us) (EP X pins σ Q) X.xe s
def TruR (X:Cx) (r:V→Hp→(Bool→Hp→Prop)→Prop):Prop :=
 ∀ (pins:List (Addr × Obj)) (s:Shared) (σ:St) (H:Hp) (x:V) (v:Value) (Q:Bool→Hp→Prop),Inv X pins σ H s→a0T x v→r x H Q →
  wpAny (model X.prog X.w) X.A (truthy v) (TP X pins σ Q) X.xe s
def tOp (r:R2) (ta tb:TE):TE:=fun σ H Q=>ta σ H fun x H1=>tb σ H1 fun y H2=>r x y H2 Q
def tUn (r:V→Hp→VK→Prop) (ta:TE):TE:=fun σ H Q=>ta σ H fun x H1=>r x H1 Q
def rI (C:Int→Int→Prop) (g:Int→Int→V):R2:=fun x y H Q=>∃ i j,x=.int i∧y=.int j∧C i j∧Q (g i j) H
def rI0 (g:Int→Int→V):R2:=fun x y H Q=>∃ i j,x=.int i∧y=.int j∧Q (g i j) H
def rU (g:Int→V):V→Hp→VK→Prop:=fun x H Q=>∃ i,x=.int i∧Q (g i) H
section
variable {X:Cx} {a b c:Expr} {ta tb tc:TE} {pos:Pos}
theorem binT (ha:PE X a ta) (hb:PE X b tb) {pins:List (Addr × Obj)} {s:Shared} {σ:St} {H:Hp} {R:V→V→Hp→Prop} (I:Inv X pins σ H s)
  (h:ta σ H fun x H1=>tb σ H1 fun y H2=>R x y H2) {Q:Value→Shared→Prop} {f:Value→Value→Sem Value}
  (hf:∀ v u s2 x y H2,Inv X pins σ H2 s2→a0T x v→a0T y u→R x y H2→wpAny (model X.prog X.w) X.A (f v u) Q X.xe s2) :
  wpAny (model X.prog X.w) X.A (eval a X.env) (fun v s₁=>wpAny (model X.prog X.w) X.A (eval b X.env) (fun u s₂=>wpAny (model X.prog X.w) X.A (f v u) Q X.xe s₂) X.xe s₁) X.xe s:=by
 refine thn (ha pins s σ H _ I h) fun v s1 ⟨x,H1,I1,r1,q1⟩=>?_
 refine thn (hb pins s1 σ H1 _ I1 q1) fun u s2 ⟨y,H2,I2,r2,q2⟩=>?_
 exact hf v u s2 x y H2 I2 r1 r2 q2
theorem a0r {op:Operator} {r:R2} (ho:OpR X (binaryOp op) r) (ha:PE X a ta) (hb:PE X b tb):PE X (.BinOp a op b pos) (tOp r ta tb):=by
 intro pins s σ H Q I h
 exact wpAny_BinOp (binT ha hb I h fun v u s2 x y H2 I2 rx ry q=>ho pins s2 σ H2 x y v u Q I2 rx ry q)
theorem b0A {op:UnaryOp} {r:V→Hp→VK→Prop} (ho:UnR X (unaryOp op) r) (ha:PE X a ta):PE X (.UnaryOp op a pos) (tUn r ta):=by
 intro pins s σ H Q I h
 exact UnaryOp_ (thn (ha pins s σ H _ I h) fun v s1 ⟨x,H1,I1,r1,q1⟩=>ho pins s1 σ H1 x v Q I1 r1 q1)
theorem opI {f:Value→Value→Sem Value} {C:Int→Int→Prop} {g:Int→Int→Int}
  (rule:∀ (i j:Int) (t u:Tok) (s:Shared) (Q:Value→Shared→Prop) (E:Value→Shared→Prop),C i j→Q (.int (g i j) s.toks) { s with toks:=s.toks+1 }→wpAny (model X.prog X.w) X.A (f (.int i t) (.int j u)) Q E s) :
  OpR X f (rI C fun i j=>.int (g i j)):=by
 intro pins s σ H x y v u Q I rx ry h
 obtain ⟨i,j,rfl,rfl,hc,q⟩:=h
 obtain ⟨t,rfl⟩:=rx
 obtain ⟨t',rfl⟩:=ry
 exact rule i j t t' s _ _ hc ⟨.int (g i j),H,I.tok _,⟨_,rfl⟩,q⟩
theorem opI0 {f:Value→Value→Sem Value} {g:Int→Int→Int}
  (rule:∀ (i j:Int) (t u:Tok) (s:Shared) (Q:Value→Shared→Prop) (E:Value→Shared→Prop),Q (.int (g i j) s.toks) { s with toks:=s.toks+1 }→wpAny (model X.prog X.w) X.A (f (.int i t) (.int j u)) Q E s) :
  OpR X f (rI0 fun i j=>.int (g i j)):=by
 intro pins s σ H x y v u Q I rx ry h
 obtain ⟨i,j,rfl,rfl,q⟩:=h
 obtain ⟨t,rfl⟩:=rx
 obtain ⟨t',rfl⟩:=ry
 exact rule i j t t' s _ _ ⟨.int (g i j),H,I.tok _,⟨_,rfl⟩,q⟩
theorem opB0 {f:Value→Value→Sem Value} {g:Int→Int→Bool}
  (rule:∀ (i j:Int) (t u:Tok) (s:Shared) (Q:Value→Shared→Prop) (E:Value→Shared→Prop),Q (.bool (g i j)) s→wpAny (model X.prog X.w) X.A (f (.int i t) (.int j u)) Q E s) :
  OpR X f (rI0 fun i j=>.bl (g i j)):=by
 intro pins s σ H x y v u Q I rx ry h
 obtain ⟨i,j,rfl,rfl,q⟩:=h
 obtain ⟨t,rfl⟩:=rx
 obtain ⟨t',rfl⟩:=ry
 exact rule i j t t' s _ _ ⟨.bl (g i j),H,I,rfl,q⟩
def CDiv (i j:Int):Prop:=0 < j∧j < 1073741824
def CPow (i j:Int):Prop:=0≤j∧j≤1000000∧i.natAbs < 2 ^ 64
def CMul (i j:Int):Prop:=(-(2 ^ 64) < i∧i < 2 ^ 64)∨(-(2 ^ 64) < j∧j < 2 ^ 64)
theorem CMul.ok {i j:Int} (h:CMul i j):IntMulOk i j:=by
 rcases h with ⟨h1,h2⟩ | ⟨h1,h2⟩
 ·exact .of_left (intBits_le_64 h1 h2)
 ·exact .of_right (intBits_le_64 h1 h2)
theorem a0R:OpR X (binaryOp .Add) (rI0 fun i j=>.int (i+j)):=opI0 fun _ _ _ _ _ _ _ q=>add_int q
theorem a1Z:OpR X (binaryOp .Sub) (rI0 fun i j=>.int (i - j)):=opI0 fun _ _ _ _ _ _ _ q=>sub_int q
theorem a5N:OpR X (binaryOp .Mult) (rI CMul fun i j=>.int (i * j)):=opI fun _ _ _ _ _ _ _ hc q=>mul_int q hc.ok
theorem a2r:OpR X (binaryOp .FloorDiv) (rI CDiv fun i j=>.int (i / j)):=opI fun i j _ _ _ _ _ hc q=>by
 have h1:(0:Int) < j:=hc.1
 have h2:j < 1073741824:=hc.2
 exact floordiv_int (by omega) (by rw [Int.fdiv_eq_ediv_of_nonneg i (by omega)];exact q) (.inl (PyProof.noPylong_small (by omega)))
theorem a0U:OpR X (binaryOp .Mod) (rI (fun _ j=>0 < j) fun i j=>.int (i % j)):=opI fun i j _ _ _ _ _ hc q=>by
 have h1:(0:Int) < j:=hc
 exact mod_int' (by omega) (by rw [Int.fmod_eq_emod_of_nonneg i (by omega)];exact q)
theorem a7h:OpR X (binaryOp .Pow) (rI CPow fun i j=>.int (i ^ j.toNat)):=opI fun _ _ _ _ _ _ _ hc q=>pow_int_small hc.1 hc.2.1 hc.2.2 q
theorem unI {f:Value→Sem Value} {g:Int→Int}
  (rule:∀ (i:Int) (t:Tok) (s:Shared) (Q:Value→Shared→Prop) (E:Value→Shared→Prop),Q (.int (g i) s.toks) { s with toks:=s.toks+1 }→wpAny (model X.prog X.w) X.A (f (.int i t)) Q E s) :
  UnR X f (rU fun i=>.int (g i)):=by
 intro pins s σ H x v Q I rx h
 obtain ⟨i,rfl,q⟩:=h
 obtain ⟨t,rfl⟩:=rx
 exact rule i t s _ _ ⟨.int (g i),H,I.tok _,⟨_,rfl⟩,q⟩
theorem a7i:UnR X (unaryOp .USub) (rU fun i=>.int (-i)):=unI fun _ _ _ _ _ q=>neg_int q
end
def scal:V→V→Bool
 | .non,.non=>true | .non,.int _=>true | .int _,.non=>true | .non,.bl _=>true | .bl _,.non=>true | .non,.str _=>true | .str _,.non=>true
 | .int _,.int _=>true | .bl _,.bl _=>true | .str _,.str _=>true | .byt _,.byt _=>true
 | .int _,.str _=>true | .str _,.int _=>true | .bl _,.str _=>true | .str _,.bl _=>true
 | _,_=>false
def rEq:R2:=fun x y H Q=>scal x y=true∧Q (.bl (decide (x=y))) H
def rNe:R2:=fun x y H Q=>scal x y=true∧Q (.bl (!decide (x=y))) H
theorem a7j {i j:Int}:decide (V.int i=V.int j)=(i == j):=by
 rw [Bool.eq_iff_iff]
 simp
theorem a9V {i j:Bool}:decide (V.bl i=V.bl j)=(i == j):=by
 rw [Bool.eq_iff_iff]
 simp
theorem a7k {i j:Str}:decide (V.str i=V.str j)=(i == j):=by
 rw [Bool.eq_iff_iff]
 simp
theorem a7l {i j:Array UInt8}:decide (V.byt i=V.byt j)=(i.toList == j.toList):=by
 rw [Bool.eq_iff_iff]
 cases i
 cases j
 simp
section
variable {X:Cx} {a b c:Expr} {ta tb tc:TE} {pos:Pos}
theorem a0F {pins:List (Addr × Obj)} {σ:St} {H:Hp} {s:Shared} {Q:VK} {k k':Bool} (I:Inv X pins σ H s) (q:Q (.bl k) H) (e:k=k'):EP X pins σ Q (.bool k') s:=by
 subst e
 exact ⟨.bl k,H,I,rfl,q⟩
theorem a2e:OpR X (compareOp .Eq) rEq:=by
 intro pins s σ H x y v u Q I rx ry h
 obtain ⟨hs,q⟩:=h
 cases x with
 | non =>
  cases rx
  cases y with
  | non=>cases ry;exact PySem.EqNone.eq_none_none (a0F I q (by simp))
  | bl j=>cases ry;exact PySem.EqNone.eq_none_bool (a0F I q (by simp))
  | int j=>obtain ⟨t',rfl⟩:=ry;exact PySem.EqNone.eq_none_int (a0F I q (by simp))
  | str j=>obtain ⟨t',rfl⟩:=ry;exact PySem.EqNone.eq_none_str (a0F I q (by simp))
  | _=>exact absurd (show false=true from hs) Bool.false_ne_true
 | bl i =>
  cases rx
  cases y with
  | non=>cases ry;exact PySem.EqNone.eq_bool_none (a0F I q (by simp))
  | bl j=>cases ry;exact eq_bool (a0F I q a9V)
  | str j=>obtain ⟨t',rfl⟩:=ry;exact PySem.EqMixed.eq_bool_str (a0F I q (by simp))
  | _=>exact absurd (show false=true from hs) Bool.false_ne_true
 | int i =>
  obtain ⟨t,rfl⟩:=rx
  cases y with
  | non=>cases ry;exact PySem.EqNone.eq_int_none (a0F I q (by simp))
  | int j=>obtain ⟨t',rfl⟩:=ry;exact eq_int (a0F I q a7j)
  | str j=>obtain ⟨t',rfl⟩:=ry;exact PySem.EqMixed.eq_int_str (a0F I q (by simp))
  | _=>exact absurd (show false=true from hs) Bool.false_ne_true
 | str i =>
  obtain ⟨t,rfl⟩:=rx
  cases y with
  | non=>cases ry;exact PySem.EqNone.eq_str_none (a0F I q (by simp))
  | bl j=>cases ry;exact PySem.EqMixed.eq_str_bool (a0F I q (by simp))
  | int j=>obtain ⟨t',rfl⟩:=ry;exact PySem.EqMixed.eq_str_int (a0F I q (by simp))
  | str j=>obtain ⟨t',rfl⟩:=ry;exact eq_str (a0F I q a7k)
  | _=>exact absurd (show false=true from hs) Bool.false_ne_true
 | byt i =>
  obtain ⟨t,rfl⟩:=rx
  cases y with
  | byt j=>obtain ⟨t',rfl⟩:=ry;exact PySem.W.eq_bytes (a0F I q a7l)
  | _=>exact absurd (show false=true from hs) Bool.false_ne_true
 | _=>cases y <;> exact absurd (show false=true from hs) Bool.false_ne_true
theorem a8S:OpR X (compareOp .NotEq) rNe:=by
 intro pins s σ H x y v u Q I rx ry h
 obtain ⟨hs,q⟩:=h
 cases x with
 | non =>
  cases rx
  cases y with
  | non=>cases ry;exact PySem.EqNone.ne_none_none (a0F I q (by simp))
  | bl j=>cases ry;exact PySem.EqNone.ne_none_bool (a0F I q (by simp))
  | int j=>obtain ⟨t',rfl⟩:=ry;exact PySem.EqNone.ne_none_int (a0F I q (by simp))
  | str j=>obtain ⟨t',rfl⟩:=ry;exact PySem.EqNone.ne_none_str (a0F I q (by simp))
  | _=>exact absurd (show false=true from hs) Bool.false_ne_true
 | bl i =>
  cases rx
  cases y with
  | non=>cases ry;exact PySem.EqNone.ne_bool_none (a0F I q (by simp))
  | bl j=>cases ry;exact ne_bool (a0F I q (congrArg not a9V))
  | str j=>obtain ⟨t',rfl⟩:=ry;exact PySem.EqMixed.ne_bool_str (a0F I q (by simp))
  | _=>exact absurd (show false=true from hs) Bool.false_ne_true
 | int i =>
  obtain ⟨t,rfl⟩:=rx
  cases y with
  | non=>cases ry;exact PySem.EqNone.ne_int_none (a0F I q (by simp))
  | int j=>obtain ⟨t',rfl⟩:=ry;exact ne_int (a0F I q (congrArg not a7j))
  | str j=>obtain ⟨t',rfl⟩:=ry;exact PySem.EqMixed.ne_int_str (a0F I q (by simp))
  | _=>exact absurd (show false=true from hs) Bool.false_ne_true
 | str i =>
  obtain ⟨t,rfl⟩:=rx
  cases y with
  | non=>cases ry;exact PySem.EqNone.ne_str_none (a0F I q (by simp))
  | bl j=>cases ry;exact PySem.EqMixed.ne_str_bool (a0F I q (by simp))
  | int j=>obtain ⟨t',rfl⟩:=ry;exact PySem.EqMixed.ne_str_int (a0F I q (by simp))
  | str j=>obtain ⟨t',rfl⟩:=ry;exact ne_str (a0F I q (congrArg not a7k))
  | _=>exact absurd (show false=true from hs) Bool.false_ne_true
 | byt i =>
  obtain ⟨t,rfl⟩:=rx
  cases y with
  | byt j=>obtain ⟨t',rfl⟩:=ry;exact PySem.W.ne_bytes (a0F I q (congrArg not a7l))
  | _=>exact absurd (show false=true from hs) Bool.false_ne_true
 | _=>cases y <;> exact absurd (show false=true from hs) Bool.false_ne_true
theorem a7m:OpR X (compareOp .Lt) (rI0 fun i j=>.bl (decide (i < j))):=opB0 fun _ _ _ _ _ _ _ q=>lt_int q
theorem b0B:OpR X (compareOp .LtE) (rI0 fun i j=>.bl (decide (i≤j))):=opB0 fun _ _ _ _ _ _ _ q=>le_int q
theorem a7n:OpR X (compareOp .Gt) (rI0 fun i j=>.bl (decide (j < i))):=opB0 fun _ _ _ _ _ _ _ q=>gt_int q
theorem op_ge:OpR X (compareOp .GtE) (rI0 fun i j=>.bl (decide (j≤i))):=opB0 fun _ _ _ _ _ _ _ q=>ge_int q
def isObj:HO→Bool
 | .lst _=>true
 | .ins _ _ _=>true
 | _=>false
theorem nomark (b:Expr) {op:CmpOp} (h:op≠.In:=by decide) (h2:op≠.NotIn:=by decide):behindInMarks op b=false:=by
 have e1:(op == CmpOp.In)=false:=by cases op <;> first | rfl | exact absurd rfl h
 have e2:(op == CmpOp.NotIn)=false:=by cases op <;> first | rfl | exact absurd rfl h2
 cases b <;> simp [behindInMarks,e1,e2]
theorem a7o {op:CmpOp} {r:R2} (ho:OpR X (compareOp op) r) (ha:PE X a ta) (hb:PE X b tb) (hm:behindInMarks op b=false):PE X (.Compare a [op] [b] pos) (tOp r ta tb):=by
 intro pins s σ H Q I h
 exact wpAny_Compare1 (binT ha hb I h fun v u s2 x y H2 I2 rx ry q=>ho pins s2 σ H2 x y v u Q I2 rx ry q) hm
def tTest (t:TE):TT:=fun σ H Q=>t σ H fun x H'=>∃ k,x=.bl k∧Q k H'
theorem a0o {op:CmpOp} {r:R2} (ho:OpR X (compareOp op) r) (ha:PE X a ta) (hb:PE X b tb) (hm:behindInMarks op b=false):PT X (.Compare a [op] [b] pos) (tTest (tOp r ta tb)):=by
 intro pins s σ H Q I h
 refine wpAny_isTrue_Compare1 (thn (ha pins s σ H _ I h) fun v s1 ⟨x,H1,I1,r1,q1⟩=>thn (hb pins s1 σ H1 _ I1 q1) fun u s2 ⟨y,H2,I2,r2,q2⟩ =>
  thn (ho pins s2 σ H2 x y v u _ I2 r1 r2 q2) fun c s3 ⟨z,H3,I3,r3,k,e,q3⟩=>?_) hm
 subst e
 cases r3
 exact wpAny_truthy_bool ⟨H3,I3,q3⟩
def tChain (r r':R2) (ta tb tc:TE):TE:=fun σ H Q=>ta σ H fun x H1=>tb σ H1 fun y H2=>r x y H2 fun z H3=>∃ k,z=.bl k ∧
 (if k=true then tc σ H3 fun w' H4=>r' y w' H4 Q else Q (.bl false) H3)
theorem a8T {op op':CmpOp} {r r':R2} (ho:OpR X (compareOp op) r) (ho':OpR X (compareOp op') r') (ha:PE X a ta) (hb:PE X b tb) (hc:PE X c tc)
  (hm:lastMarks [op,op'] [b,c]=false:=by with_unfolding_all rfl):PE X (.Compare a [op,op'] [b,c] pos) (tChain r r' ta tb tc):=by
 intro pins s σ H Q I h
 refine Compare_chain (thn (ha pins s σ H _ I h) fun v s1 ⟨x,H1,I1,r1,q1⟩=>chain_link (thn (hb pins s1 σ H1 _ I1 q1) fun u s2 ⟨y,H2,I2,r2,q2⟩ =>
  thn (ho pins s2 σ H2 x y v u _ I2 r1 r2 q2) fun d s3 ⟨z,H3,I3,r3,k,e,q3⟩=>?_)) hm
 subst e
 cases r3
 refine wpAny_truthy_bool ?_
 cases k with
 | false=>exact ite_ff ⟨.bl false,H3,I3,rfl,q3⟩
 | true=>exact ite_tt (chain_last (thn (hc pins s3 σ H3 _ I3 q3) fun w' s4 ⟨z',H4,I4,r4,q4⟩=>ho' pins s4 σ H4 y z' u w' Q I4 r2 r4 q4))
def TruV (K:PySem.W.Frag) (x:V) (H:Hp) (k:Bool):Prop :=
 match x with
 | .non=>k=false
 | .bl b=>k=b
 | .int i=>k=(i != 0)
 | .str y=>y.length≤sizeLine∧k=((y.length:Int) != 0)
 | .byt y=>y.size≤sizeLine∧k=((y.size:Int) != 0)
 | .ref p=>(∃ xs,SqL K H p xs∧k=!xs.isEmpty)∨(∃ xs,SqT K H p xs∧k=!xs.isEmpty)∨∃ kvs,H p=some (.dK kvs)∧k=!kvs.isEmpty
 | _=>False
theorem a7p:(sizeLine:Nat) < 2 ^ 63:=by rw [sizeLine_eq];decide
theorem a2H {x:V} {us:List Value} (r:a0J [x] us):∃ u,us=[u]∧a0T x u:=by
 cases r with
 | cons r1 r2=>cases r2;exact ⟨_,rfl,r1⟩
theorem vals2 {x y:V} {us:List Value} (r:a0J [x,y] us):∃ u w',us=[u,w']∧a0T x u∧a0T y w':=by
 cases r with
 | cons r1 r2 =>
  cases r2 with
  | cons r3 r4=>cases r4;exact ⟨_,_,rfl,r1,r3⟩
theorem a7q (hc:X.calm=true):a2l X (.builtin "min") (fun xs H Q=>∃ i j,xs=[.int i,.int j]∧Q (.int (if j < i then j else i)) H):=by
 intro pins s σ H xs us Q I r h
 obtain ⟨i,j,rfl,q⟩:=h
 obtain ⟨u,w',rfl,⟨t,rfl⟩,⟨t',rfl⟩⟩:=vals2 r
 refine min_two_ints (I.ok.hd hc) fun h' tk k=>⟨_,H,I.kept k,?_,q⟩
 by_cases hj:j < i
 ·rw [if_pos hj,if_pos hj];exact ⟨_,rfl⟩
 ·rw [if_neg hj,if_neg hj];exact ⟨_,rfl⟩
theorem a7r:a2l X (.type "int") (fun xs H Q=>(∃ i,xs=[.int i]∧Q (.int i) H)∨∃ k,xs=[.bl k]∧Q (.int (if k then 1 else 0)) H):=by
 intro pins s σ H xs us Q I r h
 rcases h with ⟨i,rfl,q⟩ | ⟨k,rfl,q⟩
 ·obtain ⟨u,rfl,t,rfl⟩:=a2H r
  exact call_int_int ⟨.int i,H,I,⟨_,rfl⟩,q⟩
 ·obtain ⟨u,rfl,r1⟩:=a2H r
  cases r1
  exact call_int_bool ⟨.int (if k then 1 else 0),H,I.tok _,⟨_,rfl⟩,q⟩
def LenV (K:PySem.W.Frag) (x:V) (H:Hp) (n:Nat):Prop :=
 match x with
 | .str y=>y.length≤sizeLine∧n=y.length
 | .byt y=>y.size≤sizeLine∧n=y.size
 | .ref p=>(∃ xs,SqL K H p xs∧n=xs.length)∨∃ xs,SqT K H p xs∧n=xs.length
 | _=>False
end
structure ObjM (h:Heap) (x dx C:Addr) (mA:Str→Option Value):Prop where
 obj:h.get? x=some (PySem.W.instObj C dx)
 ns:h.Ns1 dx mA
 ne:dx≠x
theorem a7s {h:Heap} {dx:Addr} {mA:Str→Option Value} (n:h.Ns1 dx mA):∃ od,h.get? dx=some od∧∀ name,PySem.W.lookIn name od=some (mA name):=by
 obtain ⟨o,es,ep,ho,hd,hk,_,hm⟩:=n
 refine ⟨o,ho,fun name=>?_⟩
 have e:=hm name
 unfold nsFind findBy at e
 rw [←Array.find?_toList] at e
 unfold PySem.W.lookIn
 rw [hd]
 dsimp only
 split
 ·rename_i y q
  rw [q] at e
  exact congrArg some e
 ·rename_i q
  rw [q] at e
  have a:es.toList.any (·.refKey)=false:=by
   rw [List.any_eq_false]
   intro y hy
   obtain ⟨z,t,hkey⟩:=hk y (Array.mem_toList_iff.mp hy)
   simp [DictEntry.refKey,hkey]
  have a':¬ es.toList.any (·.refKey)=true:=by rw [a];exact Bool.false_ne_true
  rw [if_neg a']
  exact congrArg some e
theorem ObjM.look {h:Heap} {x dx C:Addr} {mA:Str→Option Value} (I:ObjM h x dx C mA):∃ od,PySem.W.InstAt h x (PySem.W.instObj C dx) C (some od)∧∀ name,PySem.W.lookIn name od=some (mA name) :=
 let ⟨od,ho,hl⟩:=a7s I.ns
 ⟨od,⟨I.obj,rfl,rfl,ho⟩,hl⟩
section
variable {prog:Program} {w:World} {A:Around} {E:Value→Shared→Prop} {s:Shared} {K:PySem.W.Frag} {x dx C f:Addr} {mA:Str→Option Value} {name:Str} {v:Value}
end
def putF (f:Str) (v:V):List (Str × V)→List (Str × V)
 | []=>[(f,v)]
 | (g,x) :: r=>if g=f then (g,v) :: r else (g,x) :: putF f v r
section
variable {P:Program} {w:World} {H H':Hp} {h h':Heap} {a C dx:Addr} {fs fs':List (Str × V)}
theorem b0C (hok:HOk P w H h) (e:H a=some (.ins C dx fs)):∃ mA,ObjM h a dx C mA∧(∀ f,b1S (fs.lookup f) (mA f))∧PySem.Within mA (fs.map (·.1))∧fs.length≤1000∧H dx=some (.own a):=by
 obtain ⟨d,z,ne,ob,mA,n,r,q⟩:=(show a0A P w H h a (.ins C dx fs) from hok a _ e)
 exact ⟨mA,⟨ob,n,ne⟩,r,q,z,d⟩
end
structure Cls (K:PySem.W.Frag) (C:Addr):Prop where
 pg:PySem.W.plainGet K C Str.empty=true
 hd:PySem.W.hasDictIn K C=true
 po:PySem.W.plainOver K C=true
 sa:PySem.W.findIn K (.ref C) "__setattr__"=some (some (.builtin "object.__setattr__"))
theorem Cls.get {K:PySem.W.Frag} {C:Addr} (c:Cls K C) (f:Str):PySem.W.plainGet K C f=true:=c.pg
def a7t (K:PySem.W.Frag) (C:Addr) (f:Str):Prop:=PySem.W.findIn K (.ref C) f=some none
structure Con (K:PySem.W.Frag) (C:Addr) (f:Str) (v:V) (u:Value):Prop where
 at_:PySem.W.findIn K (.ref C) f=some (some u)
 rel:a0T v u
 get:PySem.W.specialIn K u "__get__"=some none
 cp:PySem.W.copiedNames.contains f=false
structure Meth (K:PySem.W.Frag) (C:Addr) (m:Str) (f:Addr):Prop where
 at_:PySem.W.findIn K (.ref C) m=some (some (.ref f))
 fn:PySem.W.isFn K (.ref f)=true
 kp:PySem.W.keepIn K (.ref f)=true
section
variable {X:Cx} {pins:List (Addr × Obj)} {σ:St} {H:Hp} {s:Shared} {a C dx:Addr} {fs:List (Str × V)} {f:Str} {v:V} {A:Around} {E:Value→Shared→Prop}
end
def tFld (K:PySem.W.Frag) (ta:TE) (f:Str):TE:=fun σ H Q=>ta σ H fun x H1=>∃ a C dx fs v,x=.ref a∧H1 a=some (.ins C dx fs)∧Cls K C∧a7t K C f∧fs.lookup f=some v∧Q v H1
def tCon (K:PySem.W.Frag) (ta:TE) (f:Str):TE:=fun σ H Q=>ta σ H fun x H1=>∃ a C dx fs v u,x=.ref a∧H1 a=some (.ins C dx fs)∧Cls K C∧Con K C f v u∧fs.lookup f=none∧Q v H1
def sFld (K:PySem.W.Frag) (ta tv:TE) (f:Str):TS:=fun D σ H=>tv σ H fun y H1=>ta σ H1 fun x H2=>∃ a C dx fs,x=.ref a∧H2 a=some (.ins C dx fs)∧Cls K C∧a7t K C f∧fs.length < 1000 ∧
 D.nx σ (upd H2 a (.ins C dx (putF f y fs)))
def InOp (X:Cx) (op:Operator) (rd:V→V→Hp→VK→Prop):Prop :=
 ∀ (pins:List (Addr × Obj)) (s:Shared) (σ:St) (H:Hp) (x y:V) (u v:Value) (Q:VK),Inv X pins σ H s→a0T x u→a0T y v→rd x y H Q→wpAny (model X.prog X.w) X.A (inplaceOp op u v) (EP X pins σ Q) X.xe s
def sFldAug (K:PySem.W.Frag) (ta tv:TE) (rd:V→V→Hp→VK→Prop) (f:Str):TS:=fun D σ H=>ta σ H fun x H1=>∃ a C dx fs v,x=.ref a∧H1 a=some (.ins C dx fs)∧Cls K C∧a7t K C f∧fs.lookup f=some v ∧
 tv σ H1 fun y H2=>rd v y H2 fun z H3=>∃ dx' fs',H3 a=some (.ins C dx' fs')∧fs'.length < 1000∧D.nx σ (upd H3 a (.ins C dx' (putF f z fs')))
section
variable {X:Cx} {o e value:Expr} {f:Str} {pos pos' tpos:Pos} {ta tv:TE}
end
section
variable {X:Cx} {pins:List (Addr × Obj)} {σ:St} {H:Hp} {s:Shared} {A:Around} {E:Value→Shared→Prop} {Q:Value→Shared→Prop} {c:Value} {b:Bool}
inductive a6u (K:PySem.W.Frag) (H:Hp):V→Value→Prop where
 | non:a6u K H .non (.type "NoneType")
 | bl (x:Bool):a6u K H (.bl x) (.type "bool")
 | int (i:Int):a6u K H (.int i) (.type "int")
 | str (x:Str):a6u K H (.str x) (.type "str")
 | flt (x:UInt64):a6u K H (.flt x) (.type "float")
 | lst {a:Addr} {xs:List V} (e:H a=some (.lst xs)):a6u K H (.ref a) (.type "list")
 | frz {a:Addr} {o:Obj} {xs:List V} (e:H a=some (.frz o (.lst xs))):a6u K H (.ref a) (.type "list")
 | tup {a:Addr} {xs:List V} (e:H a=some (.tup xs)):a6u K H (.ref a) (.type "tuple")
 | dK {a:Addr} {kvs:List (Key × V)} (e:H a=some (.dK kvs)):a6u K H (.ref a) (.type "dict")
 | dT {a:Addr} {kvs:List (List Key × V)} (e:H a=some (.dT kvs)):a6u K H (.ref a) (.type "dict")
 | ins {a C dx:Addr} {fs:List (Str × V)} (e:H a=some (.ins C dx fs)) (cl:Cls K C) (ha:PySem.W.findIn K (.ref C) "__class__"=some (some (.builtin "object.__class__")))
   (hn:PySem.W.specialIn K (.builtin "object.__class__") "__get__"=some (some (.builtin "getset_descriptor.__get__"))) (htk:PySem.W.takesIn K (.builtin "object.__class__")=some true)
   (hm:PySem.W.mroIn K C (.type "object")=some true):a6u K H (.ref a) (.ref C)
theorem a7u {x:V} {u t:Value} (I:Inv X pins σ H s) (rx:a0T x u) (ty:a6u X.K H x t) (e:PySem.W.kitOne X.K t c=some b) (h:∀ tk,Q (.bool b) { s with toks:=tk }) :
  wpAny (model X.prog X.w) A (call (.builtin "isinstance") [u,c]) Q E s:=by
 cases ty with
 | non=>cases (show u=Value.none from rx);exact PySem.W.kia_one PySem.W.kitx_none I.kIn True.intro e (fun z=>nomatch z) h
 | bl y=>cases (show u=Value.bool y from rx);exact PySem.W.kia_one PySem.W.kitx_bool I.kIn True.intro e (fun z=>nomatch z) h
 | int i=>obtain ⟨t,q⟩:=(show ∃ t,u=Value.int i t from rx);cases q;exact PySem.W.kia_one PySem.W.kitx_int I.kIn True.intro e (fun z=>nomatch z) h
 | str y=>obtain ⟨t,q⟩:=(show ∃ t,u=Value.str y t from rx);cases q;exact PySem.W.kia_one PySem.W.kitx_str I.kIn True.intro e (fun z=>nomatch z) h
 | flt y=>obtain ⟨t,q⟩:=(show ∃ t,u=Value.float y t from rx);cases q;exact PySem.W.kia_one PySem.W.kitx_float I.kIn True.intro e (fun z=>nomatch z) h
 | @lst a xs ea =>
  cases (show u=Value.ref a from rx)
  obtain ⟨_,_,n,_,h1⟩:=(show a0A X.prog X.w H s.heap a (.lst xs) from I.hok a _ ea)
  exact PySem.W.kia_one PySem.W.kitx_list I.kIn ⟨_,h1,rfl⟩ e (fun z=>nomatch z) h
 | @frz a ob xs ea =>
  cases (show u=Value.ref a from rx)
  obtain ⟨_,_,_,n,_,h1⟩:=(show a0A X.prog X.w H s.heap a (.frz ob (.lst xs)) from I.hok a _ ea)
  exact PySem.W.kia_one PySem.W.kitx_list I.kIn ⟨_,h1,rfl⟩ e (fun z=>nomatch z) h
 | @tup a xs ea =>
  cases (show u=Value.ref a from rx)
  obtain ⟨_,_,_,p⟩:=(show a0A X.prog X.w H s.heap a (.tup xs) from I.hok a _ ea)
  obtain ⟨o,h1,h2,_⟩:=p.is
  exact PySem.W.kia_one PySem.W.kitx_tuple I.kIn ⟨o,h1,h2⟩ e (fun z=>nomatch z) h
 | @dK a kvs ea =>
  cases (show u=Value.ref a from rx)
  obtain ⟨_,_,vs,_,p⟩:=(show a0A X.prog X.w H s.heap a (.dK kvs) from I.hok a _ ea)
  obtain ⟨o,es,ep,h1,h2,_⟩:=p
  exact PySem.W.kia_one PySem.W.kitx_dict I.kIn ⟨o,h1,h2.1⟩ e (fun z=>nomatch z) h
 | @dT a kvs ea =>
  cases (show u=Value.ref a from rx)
  obtain ⟨_,_,xs,_,o,es,ep,h1,h2,_⟩:=(show a0A X.prog X.w H s.heap a (.dT kvs) from I.hok a _ ea)
  exact PySem.W.kia_one PySem.W.kitx_dict I.kIn ⟨o,h1,h2.1⟩ e (fun z=>nomatch z) h
 | @ins a C dx fs ea cl ha hn htk hm =>
  cases (show u=Value.ref a from rx)
  obtain ⟨mA,O,_⟩:=b0C I.hok ea
  obtain ⟨od,J,_⟩:=O.look
  exact PySem.W.kia_one (PySem.W.kitx_own (cl.get _) cl.hd ha hn htk hm) I.kIn J e (fun z=>nomatch z) h
end
structure a2s (k:Nat) (A:Around):Prop where
 hd:A.handled=none
 dp:A.depth+3 * k+5 < recursionLimit
 un:A.units+16 * k+200 < cLine
theorem a2s.mono {j k:Nat} {A:Around} (r:a2s k A) (h:j≤k):a2s j A:=⟨r.hd,by have:=r.dp;omega,by have:=r.un;omega⟩
theorem a2s.deeper {k:Nat} {A:Around} (r:a2s (k+1) A) (env:Env):a2s k (A.deeper env) :=
 ⟨r.hd,by have:=r.dp;show A.depth+1+3 * k+5 < _;omega,by have:=r.un;show A.units+3+16 * k+200 < _;omega⟩
theorem a2s.in1 {k:Nat} {A:Around} (r:a2s (k+1) A):a2s k A.in1 :=
 ⟨r.hd,by have:=r.dp;show A.depth+3 * k+5 < _;omega,by have:=r.un;show A.units+1+16 * k+200 < _;omega⟩
theorem a2s.depth {k:Nat} {A:Around} (r:a2s k A):A.depth < recursionLimit:=by have:=r.dp;omega
theorem a2s.units {k:Nat} {A:Around} (r:a2s k A):A.units+64 < cLine:=by have:=r.un;omega
def tNil:TA:=fun _ H Q=>Q [] H
def b0D (ta:TE) (tr:TA):TA:=fun σ H Q=>ta σ H fun x H1=>tr σ H1 fun xs H2=>Q (x :: xs) H2
section
variable {X:Cx} {e:Expr} {es:List Expr} {te:TE} {t:TA} {pos:Pos}
theorem a0e:PA X [] tNil:=fun _ _ _ _ H Q I h=>Calls.spliced_nil ⟨[],H,I,.nil,h⟩
theorem a0a (ha:PE X e te) (hr:PA X es t) (hs:starEach (e :: es) X.env=(false,eval e X.env) :: starEach es X.env:=by rfl):PA X (e :: es) (b0D te t):=by
 intro pos pins s σ H Q I h
 rw [hs]
 show wpAny _ _ (spliced ((false,eval e X.env) :: backTo pos (starEach es X.env))) _ _ s
 refine Calls.spliced_cons (thn (ha pins s σ H _ I h) fun u s1 ⟨x,H1,I1,r1,q1⟩=>?_)
 exact thn (hr pos pins s1 σ H1 _ I1 q1) fun us s2 ⟨xs,H2,I2,r2,q2⟩=>⟨x :: xs,H2,I2,.cons r1 r2,q2⟩
def tTup (t:TA):TE:=fun σ H Q=>t σ H fun xs H1=>xs.length≤sizeLine∧∀ p,H1 p=none→Q (.ref p) (upd H1 p (.tup xs))
def tLst (t:TA):TE:=fun σ H Q=>t σ H fun xs H1=>xs.length≤sizeLine∧∀ p,H1 p=none→Q (.ref p) (upd H1 p (.lst xs))
theorem a0Z {x1} (h:PA X es t):PE X (.Tuple es x1 pos) (tTup t):=by
 intro pins s σ H Q I hq
 refine wpAny_Tuple_spliced (thn (h pos pins s σ H _ I hq) fun us s1 ⟨xs,H1,I1,r,z,q⟩=>⟨by rw [←r.length];exact z,?_⟩)
 have hf:H1 s1.heap.objs.size=none:=I1.hok.fresh (Nat.le_refl _)
 refine ⟨.ref s1.heap.objs.size,upd H1 s1.heap.objs.size (.tup xs),I1.laid (t':=s1.toks) (fun b u e=>Heap.get?_push_of_some _ e) (Nat.le_refl _) ?_,rfl,q _ hf⟩
 exact ⟨z,us,r,⟨_,Heap.get?_push_size _ rfl,_,rfl⟩⟩
theorem a2a (h:PA X es t):PE X (.List es pos) (tLst t):=by
 intro pins s σ H Q I hq
 refine wpAny_List_spliced (thn (h pos pins s σ H _ I hq) fun us s1 ⟨xs,H1,I1,r,z,q⟩=>⟨by rw [←r.length];exact z,?_⟩)
 have hf:H1 s1.heap.objs.size=none:=I1.hok.fresh (Nat.le_refl _)
 refine ⟨.ref s1.heap.objs.size,upd H1 s1.heap.objs.size (.lst xs),I1.laid (t':=s1.toks) (fun b u e=>Heap.get?_push_of_some _ e) (Nat.le_refl _) ?_,rfl,q _ hf⟩
 exact ⟨z,us,0,r,Heap.get?_push_size _ rfl⟩
end
abbrev Sp:=List V→Hp→VK→XK→Prop
abbrev CXT:=List Env→Hp→Shared→XK→Value→Shared→Prop
structure a8O (P:Program) (w:World) (K:PySem.W.Frag) (mg:Str→Option Value) (base:Heap) (A:Around) (outer:List Env) (s:Shared) (H:Hp):Prop where
 frames:A.frames=some outer
 mod:Mod K mg base
 bs:∀ b o,base.get? b=some o→s.heap.get? b=some o∧H b=none
 bsz:base.objs.size≤s.heap.objs.size
 funs:s.heap.FunFrames base outer
 frf:∀ b∈frs outer,H b=none
 hok:HOk P w H s.heap
 bare:AllBare s.gens
def CE (outer:List Env) (P:Program) (w:World) (H:Hp) (s:Shared) (Q:VK) (u:Value) (s':Shared):Prop :=
 ∃ v H',s'.os=s.os∧AllBare s'.gens∧Un (frs outer) [] H H' s.heap s'.heap∧HOk P w H' s'.heap∧a0T v u∧Q v H'
def CR (CX:CXT) (outer:List Env) (P:Program) (w:World) (H:Hp) (s:Shared) (Q:VK) (E:XK) (r:Result) (s':Shared):Prop :=
 match r with
 | .ok (.ret u)=>CE outer P w H s Q u s'
 | .ok _=>False
 | .error e=>CX outer H s E e s'
structure a1B (P:Program) (w:World) (K:PySem.W.Frag) (mg:Str→Option Value) (base:Heap) (CX:CXT) (k:Nat) (f:Addr) (fd:FuncData) (ps:List Str) (sp:Sp):Prop where
 len:∀ vs H Q E,sp vs H Q E→vs.length=ps.length
 run:∀ (A:Around) (outer:List Env) (s:Shared) (H:Hp) (args:Args) (us:List Value) (vs:List V) (Q:VK) (E:XK),a2s k A→a8O P w K mg base A outer s H→BindsTo s fd args (ps.zip us)→a0J vs us→sp vs H Q E →
  codeAny (model P w) A (.call (.ref f) args) (CR CX outer P w H s Q E) s
theorem a1B.mono {P:Program} {w:World} {K:PySem.W.Frag} {mg:Str→Option Value} {base:Heap} {CX:CXT} {j k:Nat} {f:Addr} {fd:FuncData} {ps:List Str} {sp:Sp} (F:a1B P w K mg base CX j f fd ps sp) (h:j≤k) :
  a1B P w K mg base CX k f fd ps sp:=⟨F.len,fun A outer s H args us vs Q E hr=>F.run A outer s H args us vs Q E (hr.mono h)⟩
theorem a8O.in1 {P:Program} {w:World} {K:PySem.W.Frag} {mg:Str→Option Value} {base:Heap} {A:Around} {outer:List Env} {s:Shared} {H:Hp} (e:a8O P w K mg base A outer s H) :
  a8O P w K mg base A.in1 outer s H:=⟨e.frames,e.mod,e.bs,e.bsz,e.funs,e.frf,e.hok,e.bare⟩
section
variable {X:Cx} {pins:List (Addr × Obj)} {σ:St} {H:Hp} {s s':Shared}
theorem Inv.env0 (I:Inv X pins σ H s):a8O X.prog X.w X.K X.mg X.base X.A X.stack s H :=
 ⟨I.ok.frames,I.ok.mod,I.bs,Nat.le_trans I.ok.bsz I.sz,I.stack,I.stkFree,I.hok,I.bare⟩
theorem Inv.after {Q:VK} {u:Value} (I:Inv X pins σ H s) (h:CE X.stack X.prog X.w H s Q u s'):EP X pins σ Q u s':=by
 obtain ⟨v,H',os,bare,un,hok,r,q⟩:=h
 obtain ⟨hh,g,d,t,os'⟩:=s'
 obtain rfl:os'=s.os:=os
 exact ⟨v,H',I.call (h':=hh) (g':=g) (d':=d) (t':=t) (ch:=[]) un hok bare (fun b z=>absurd z (by simp)),r,q⟩
end
def tCall (sp:Sp) (dvs:List V) (E:XK) (t:TA):TE:=fun σ H Q=>t σ H fun vs H1=>sp (vs++dvs) H1 Q E
def tMeth (C:Addr) (m:Str) (sp:Sp) (dvs:List V) (E:XK) (ta:TE) (t:TA):TE:=fun σ H Q=>ta σ H fun x H1=>∃ a dx fs,x=.ref a∧H1 a=some (.ins C dx fs)∧fs.lookup m=none ∧
 t σ H1 fun vs H2=>sp (x :: (vs++dvs)) H2 Q E
def tMake (C:Addr) (sp:Sp) (dvs:List V) (E:XK) (t:TA):TE:=fun σ H Q=>t σ H fun vs H1=>∀ x dx,H1 x=none→H1 dx=none→dx≠x →
 sp (.ref x :: (vs++dvs)) (upd (upd H1 dx (.own x)) x (.ins C dx [])) (fun v H2=>v=.non∧Q (.ref x) H2) E
def a5b (K:PySem.W.Frag) (fd:FuncData) (ps:List Str) (ds:List Value):Prop :=
 ∀ (s:Shared) (us:List Value),K.In s.heap→(us++ds).length=ps.length→BindsTo s fd ⟨us,[]⟩ (ps.zip (us++ds))
theorem a5b.all {K:PySem.W.Frag} {fd:FuncData} {ps:List Str} (h:∀ us:List Value,us.length=ps.length→bindArgs fd ⟨us,[]⟩=pure (ps.zip us)):a5b K fd ps []:=fun s us _ hl=>by
 rw [List.append_nil] at hl ⊢
 exact .of_eq (h us hl)
def a7v (CX:CXT) (X:Cx) (E:XK):Prop:=∀ (pins:List (Addr × Obj)) (σ:St) (H:Hp) (s:Shared) (e:Value) (s':Shared),Inv X pins σ H s→CX X.stack H s E e s'→X.xe e s'
section
variable {X:Cx} {CX:CXT} {k:Nat} {f C:Addr} {fd:FuncData} {ps:List Str} {sp:Sp} {dvs:List V} {ds:List Value} {E:XK} {x m:Str} {p pos apos:Pos} {e o:Expr} {es:List Expr} {ta:TE} {t:TA}
theorem run_fn {pins:List (Addr × Obj)} {σ:St} {H:Hp} {s:Shared} {Q:VK} {us:List Value} {vs:List V} (F:a1B X.prog X.w X.K X.mg X.base CX k f fd ps sp) (hr:a2s k X.A) (hb:a5b X.K fd ps ds) (hd:a0J dvs ds) (hx:a7v CX X E)
  (I:Inv X pins σ H s) (r:a0J vs us) (h:sp (vs++dvs) H Q E):wpAny (model X.prog X.w) X.A (call (.ref f) us) (EP X pins σ Q) X.xe s:=by
 have r2:a0J (vs++dvs) (us++ds):=r.append hd
 have hl:(us++ds).length=ps.length:=by rw [←r2.length];exact F.len _ _ _ _ h
 refine wpAny_call (codeAny_mono (F.run X.A X.stack s H ⟨us,[]⟩ (us++ds) (vs++dvs) Q E hr I.env0 (hb s us I.kIn hl) r2 h) fun r s' hq=>?_)
 cases r with
 | error e=>exact hx pins σ H s e s' I hq
 | ok fl =>
  cases fl with
  | ret u=>exact I.after hq
  | next=>exact False.elim hq
  | brk=>exact False.elim hq
  | cont=>exact False.elim hq
theorem a0s (F:a1B X.prog X.w X.K X.mg X.base CX k f fd ps sp) (hr:a2s k X.A) (hg:Gl X x) (hm:X.mg x=some (.ref f)) (hk:PySem.W.keepIn X.K (.ref f)=true) (hb:a5b X.K fd ps ds) (hd:a0J dvs ds) (hx:a7v CX X E)
  (ha:PA X (e :: es) t) (hdb:(x == ("__debug__":Str))=false:=by decide) (he:starEach (e :: es) X.env=(false,eval e X.env) :: starEach es X.env:=by rfl) (hpl:(backTo pos (starEach es X.env)).any (·.1)=false:=by rfl) :
  PE X (.Call (.Name x p) (e :: es) [] pos) (tCall sp dvs E t):=by
 intro pins s σ H Q I h
 refine wpAny_Call_Name_kw (a7d I hg hm ?_ hdb)
 refine PySem.W.callWith_K (h₀:=X.base) I.ok.mod.kin hk (thn (ha pos pins s σ H _ I h) fun us s1 ⟨vs,H1,I1,r,q⟩=>⟨I1.kIn,?_⟩) he hpl
 exact run_fn F hr hb hd hx I1 r q
structure Mk (K:PySem.W.Frag) (C f:Addr):Prop where
 makes:PySem.W.makesIn K C=true
 init:PySem.W.findIn K (.ref C) "__init__"=some (some (.ref f))
 fn:PySem.W.isFn K (.ref f)=true
 kp:PySem.W.keepIn K (.ref C)=true
end
def PK (X:Cx) (kws:List Keyword) (t:TA):Prop :=
 ∀ (pos:Pos) (pins:List (Addr × Obj)) (s:Shared) (σ:St) (H:Hp) (Q:List V→Hp→Prop),Inv X pins σ H s→t σ H Q→wpAny (model X.prog X.w) X.A (evalAll ((backToKw pos (keywordEach kws X.env)).map (·.2))) (AP X pins σ Q) X.xe s
section
variable {X:Cx} {CX:CXT} {k:Nat} {f C:Addr} {fd:FuncData} {ps ks:List Str} {sp:Sp} {E:XK} {x m:Str} {p pos apos kpos:Pos} {e o:Expr} {es:List Expr} {kws:List Keyword} {te ta:TE} {t tk:TA} {nm:Option Str}
theorem a9W:PK X [] tNil:=fun _ _ _ _ H Q I h=>wpAny_evalAll_nil ⟨[],H,I,.nil,h⟩
theorem a7w (ha:PE X e te) (hr:PK X kws t):PK X (⟨nm,e,kpos⟩ :: kws) (b0D te t):=by
 intro pos pins s σ H Q I h
 show wpAny _ _ (evalAll ((do let v ←eval e X.env;standAt pos;pure v) :: (backToKw pos (keywordEach kws X.env)).map (·.2))) _ _ s
 refine wpAny_evalAll_cons (wpAny_bind (thn (ha pins s σ H _ I h) fun u s1 ⟨x,H1,I1,r1,q1⟩=>wpAny_bind (wpAny_standAt (wpAny_pure ?_))))
 exact thn (hr pos pins s1 σ H1 _ I1 q1) fun us s2 ⟨xs,H2,I2,r2,q2⟩=>⟨x :: xs,H2,I2,.cons r1 r2,q2⟩
structure KBinds (K:PySem.W.Frag) (fd:FuncData) (ps ks:List Str) (g:List Value→List Value→List Value) (gV:List V→List V→List V):Prop where
 to:∀ (s:Shared) (us ws:List Value),K.In s.heap→(g us ws).length=ps.length→BindsTo s fd ⟨us,ks.zip ws⟩ (ps.zip (g us ws))
 rel:∀ {vs:List V} {us:List Value} {zs:List V} {ws:List Value},a0J vs us→a0J zs ws→a0J (gV vs zs) (g us ws)
variable {g:List Value→List Value→List Value} {gV:List V→List V→List V}
end
structure a0w (N P:List Str) (sc:Scope):Prop where
 kind:sc.kind=.function
 co:sc.isCoroutine=false
 gen:sc.isGenerator=false
 nd:N.Nodup
 pre:N.take P.length=P
 par:∀ x∈P,sc.names.lookup x=some .local∨sc.names.lookup x=some .cell
 nofree:∀ y∈sc.names,y.2≠.free
theorem a4q {kindOf:Str→Option NameKind} {x:Str}:∀ {binds:List (Str × Value)} {m:Str→Option Value},(∀ v,(x,v)∉binds)→bindL kindOf binds m x=m x
 | [],_,_=>rfl
 | (n,v) :: r,m,h=>by
  unfold bindL
  rw [a4q fun w hw=>h w (List.mem_cons_of_mem _ hw)]
  split
  ·have:x≠n:=by rintro rfl;exact h v List.mem_cons_self
   simp [this]
  ·rfl
theorem a4r {kindOf:Str→Option NameKind} {x:Str}:∀ {binds:List (Str × Value)} {m:Str→Option Value},(∀ v,(x,v)∉binds)→bindC kindOf binds m x=m x
 | [],_,_=>rfl
 | (n,v) :: r,m,h=>by
  unfold bindC
  rw [a4r fun w hw=>h w (List.mem_cons_of_mem _ hw)]
  split
  ·rfl
  ·have:x≠n:=by rintro rfl;exact h v List.mem_cons_self
   simp [this]
theorem a4s {kindOf:Str→Option NameKind} {x:Str} {v:Value}:∀ {P:List Str} {vs:List Value} {i:Nat} {m:Str→Option Value},P.Nodup→P[i]?=some x→vs[i]?=some v→kindOf x=some .local →
  bindL kindOf (P.zip vs) m x=some v
 | [],_,_,_,_,h,_,_=>by simp at h
 | _ :: _,[],_,_,_,_,h,_=>by simp at h
 | p :: P,w :: vs,0,m,nd,h1,h2,hk=>by
  simp at h1 h2;subst h1;subst h2
  show bindL kindOf ((p,w) :: P.zip vs) m p=_
  unfold bindL
  rw [a4q fun v hv=>(List.nodup_cons.mp nd).1 (List.of_mem_zip hv).1,if_pos hk]
  simp
 | p :: P,w :: vs,i+1,m,nd,h1,h2,hk=>by
  show bindL kindOf ((p,w) :: P.zip vs) m x=_
  unfold bindL
  exact a4s (i:=i) (List.nodup_cons.mp nd).2 (by simpa using h1) (by simpa using h2) hk
theorem a4t {kindOf:Str→Option NameKind} {x:Str} {v:Value}:∀ {P:List Str} {vs:List Value} {i:Nat} {m:Str→Option Value},P.Nodup→P[i]?=some x→vs[i]?=some v→kindOf x≠some .local →
  bindC kindOf (P.zip vs) m x=some v
 | [],_,_,_,_,h,_,_=>by simp at h
 | _ :: _,[],_,_,_,_,h,_=>by simp at h
 | p :: P,w :: vs,0,m,nd,h1,h2,hk=>by
  simp at h1 h2;subst h1;subst h2
  show bindC kindOf ((p,w) :: P.zip vs) m p=_
  unfold bindC
  rw [a4r fun v hv=>(List.nodup_cons.mp nd).1 (List.of_mem_zip hv).1,if_neg hk]
  simp
 | p :: P,w :: vs,i+1,m,nd,h1,h2,hk=>by
  show bindC kindOf ((p,w) :: P.zip vs) m x=_
  unfold bindC
  exact a4t (i:=i) (List.nodup_cons.mp nd).2 (by simpa using h1) (by simpa using h2) hk
def start (N:List Str) (vs:List V):St:=vs.map some++List.replicate (N.length - vs.length) none
def a7x (CX:CXT) (P:Program) (w:World) (K:PySem.W.Frag) (mg:Str→Option Value) (base:Heap) (N:List Str) (qual:Str) (scope:Scope) (f:Addr) (cd:Value) (A:Around) (outer:List Env) (s:Shared) (H:Hp) (E:XK):Cx where
 prog:=P
 w:=w
 K:=K
 mg:=mg
 base:=base
 A:=A.deeper (envOfC qual scope s.heap.objs.size f cd)
 N:=N
 s₀:=s
 H₀:=H
 env:=envOfC qual scope s.heap.objs.size f cd
 outer:=outer
 stack:=envOfC qual scope s.heap.objs.size f cd :: outer
 ex:=[]
 calm:=true
 fn:=fun _=>true
 pn:=[]
 xe:=fun e s'=>wpAny (model P w) (A.deeper (envOfC qual scope s.heap.objs.size f cd)) (leaving (envOfC qual scope s.heap.objs.size f cd) e) (fun _ s''=>CX outer H s E e s'') (fun e' s''=>CX outer H s E e' s'') s'
theorem a5O {sc:Scope} {n:Nat} {x:Str} (h:sc.names.lookup x=some .cell):∃ c,(cellsFrom n sc.names []).lookup x=some c:=by
 have q:=PySem.W.cellsFrom_some sc.names n [] (.inl h)
 exact Option.isSome_iff_exists.mp q
theorem a7y {CX:CXT} {P:Program} {w:World} {K:PySem.W.Frag} {mg:Str→Option Value} {base:Heap} {N ps:List Str} {qual:Str} {scope:Scope} {f:Addr} {cd:Value} {A:Around} {outer:List Env} {s s1:Shared} {H:Hp} {E:XK} {us:List Value} {vs:List V}
  (S:a0w N ps scope) (hd:A.handled=none) (e0:a8O P w K mg base A outer s H) (hl:vs.length=ps.length) (r:a0J vs us)
  (x:InCallC s s.heap.objs.size (bindL (envOfC qual scope s.heap.objs.size f cd).kindOf (ps.zip us) fun _=>none) (cellsFrom (s.heap.objs.size+1) scope.names []) (bindC (envOfC qual scope s.heap.objs.size f cd).kindOf (ps.zip us) fun _=>none) s1) :
  Inv (a7x CX P w K mg base N qual scope f cd A outer s H E) [] (start N vs) H s1:=by
 have hpl:ps.length≤N.length:=by have:=congrArg List.length S.pre;rw [List.length_take] at this;omega
 obtain ⟨h1,tk,rfl,hk⟩:=x.done
 have noA:∀ b:Addr,b∉(a7x CX P w K mg base N qual scope f cd A outer s H E).ex:=fun b z=>absurd (show b∈([]:List Addr) from z) (by simp)
 refine ⟨⟨e0.mod,S.kind,rfl,rfl,Nat.le_refl _,fun y z c h1 h2=>?_,fun y hy=>?_,fun y c _ h=>?_,fun _=>hd,Around.frames_deeper e0.frames,.inr ⟨rfl,rfl⟩,fun b z=>absurd z (noA b),e0.bs,e0.bsz,fun b _ _=>noA b,fun b z=>absurd z (noA b),e0.funs,e0.frf⟩,
  rfl,e0.bare,Un.kept hk,⟨_,x.toInCall.ns,fun i y v h1 h2 h3=>?_⟩,fun y c h=>⟨_,x.cell y c h⟩,e0.hok.fresh (Nat.le_refl _),fun y c h=>?_,fun p hp=>absurd (show p∈([]:List (Addr × Obj)) from hp) (by simp),e0.hok.kept hk,?_⟩
 ·exact name_of_addr x.apart (PySem.mem_of_lookup h1) (PySem.mem_of_lookup h2)
 ·have hy:scope.names.lookup y=some .cell∨scope.names.lookup y=some .free:=hy
  rcases hy with hy | hy
  ·exact a5O hy
  ·exact absurd rfl (S.nofree _ (PySem.mem_of_lookup hy))
 ·exact Nat.le_of_lt (x.above y c (PySem.mem_of_lookup h))
 ·have hi:i < vs.length:=by
   unfold start at h2
   by_cases hi:i < vs.length
   ·exact hi
   ·rw [List.getElem?_append_right (by simpa using hi)] at h2
    rw [List.getElem?_replicate] at h2
    split at h2 <;> cases h2
  have ha:vs[i]?=some v:=by
   unfold start at h2
   rw [List.getElem?_append_left (by simpa using hi),List.getElem?_map] at h2
   cases e:vs[i]? with
   | none=>rw [e] at h2;cases h2
   | some a=>rw [e] at h2;cases h2;rfl
  obtain ⟨u,hu,rv⟩:=r.get ha
  have hp:ps[i]?=some y:=by
   rw [←S.pre,List.getElem?_take_of_lt (by omega)];exact h1
  have ndP:ps.Nodup:=by rw [←S.pre];exact S.nd.sublist (List.take_sublist _ _)
  refine ⟨u,rv,?_⟩
  rcases S.par y (List.mem_of_getElem? hp) with k | k
  ·exact .inl ⟨k,a4s ndP hp hu k⟩
  ·obtain ⟨c,e⟩:=a5O (n:=s.heap.objs.size+1) k
   refine .inr ⟨.inl k,c,e,?_⟩
   have q:=x.cell y c e
   rw [a4t ndP hp hu (by show scope.names.lookup y≠_;rw [k];decide)] at q
   exact q
 ·exact e0.hok.fresh (Nat.le_of_lt (x.above y c (PySem.mem_of_lookup h)))
 ·unfold start
  show _=N.length
  rw [List.length_append,List.length_map,List.length_replicate]
  omega
theorem fn_of {CX:CXT} {P:Program} {w:World} {K:PySem.W.Frag} {mg:Str→Option Value} {base:Heap} {k:Nat} {f:Addr} {name qual:Str} {params:Arguments} {body:List Stmt} {scope:Scope} {dV kV doc pm cdv ct oc:Value} {an od:Option Addr}
  {osl:Array (Option Value)} {N ps:List Str} {sp:Sp} (lk:K.lookup f=some ⟨oc,od,.func (PySem.W.fnOf name qual params body scope dV kV doc pm an cdv ct),osl⟩) (hcd:PySem.W.codeIn K cdv qual=true) (S:a0w N ps scope)
  (len:∀ vs H Q E,sp vs H Q E→vs.length=ps.length)
  (hbody:∀ (A:Around) (outer:List Env) (s:Shared) (H:Hp) (vs:List V) (Q:VK) (E:XK),a2s k (A.deeper (envOfC qual scope s.heap.objs.size f cdv))→sp vs H Q E →
   ∃ t,PSs (a7x CX P w K mg base N qual scope f cdv A outer s H E) body t∧t { nx:=fun _ H'=>Q .non H',rt:=Q } (start N vs) H) :
  a1B P w K mg base CX (k+1) f (PySem.W.fnOf name qual params body scope dV kV doc pm an cdv ct) ps sp:=by
 refine ⟨len,fun A outer s H args us vs Q E hr e0 hb r hsp=>?_⟩
 have hl:=len _ _ _ _ hsp
 have KX:K.In s.heap:=e0.mod.kin.keeps fun b o e=>(e0.bs b o e).1
 have lim:s.heap.NoLimit:=e0.mod.nolimit.keeps fun b o e=>(e0.bs b o e).1
 have hkind:∀ y∈ps.zip us,scope.names.lookup y.1=some .local∨(scope.names.lookup y.1=some .cell∧((cellsFrom (s.heap.objs.size+1) scope.names []).lookup y.1).isSome=true):=fun ⟨n,v⟩ hy=>by
  rcases S.par n (List.of_mem_zip hy).1 with q | q
  ·exact .inl q
  ·exact .inr ⟨q,PySem.W.cellsFrom_some _ _ _ (.inl q)⟩
 refine codeAny_call_function hr.depth (KX _ _ lk) rfl S.co S.gen rfl (PySem.W.codeRec_of KX hcd) (hb _ _ _ _ ?_)
 refine wpAny_newFunctionEnv_cells S.kind hkind fun env he s1 x=>?_
 subst he
 refine ⟨lim.keeps x.toInCall.keep,codeAny_func ?_⟩
 obtain ⟨t,ht,hq⟩:=hbody A outer s H vs Q E (hr.deeper _) hsp
 have I:Inv (a7x CX P w K mg base N qual scope f cdv A outer s H E) [] (start N vs) H s1:=a7y S hr.hd e0 hl r x
 refine wpAny_mono (ht [] s1 (start N vs) H _ I hq) (fun fl s' hs=>?_) fun e s' hs=>hs
 have fin:∀ {σ':St} {H':Hp} {v:V} {u:Value},Inv (a7x CX P w K mg base N qual scope f cdv A outer s H E) [] σ' H' s'→a0T v u→Q v H'→CE outer P w H s Q u s' :=
  fun {σ' H' v u} J rv q=>⟨v,H',J.os,J.bare,J.base,J.hok,rv,q⟩
 cases fl with
 | ret u =>
  obtain ⟨v,σ',H',J,rv,q⟩:=hs
  exact fin J rv q
 | next =>
  obtain ⟨σ',H',J,q⟩:=hs
  exact fin (v:=V.non) (u:=Value.none) J rfl q
 | brk =>
  obtain ⟨_,_,_,q⟩:=hs
  exact False.elim q
 | cont =>
  obtain ⟨_,_,_,q⟩:=hs
  exact False.elim q
section
variable {X:Cx} {x:Str} {p pos:Pos} {e:Expr} {es:List Expr} {t:TA} {id T:String} {r:List V→Hp→VK→Prop}
def tCB (r:List V→Hp→VK→Prop) (t:TA):TE:=fun σ H Q=>t σ H fun vs H1=>r vs H1 Q
theorem a0j (hc:a2l X (.builtin id) r) (hg:Gl X x) (hm:X.mg x=none) (hv:bootBuiltins x=some (.builtin id)) (ha:PA X (e :: es) t) (hn:x≠"__name__":=by decide) (hdb:(x == ("__debug__":Str))=false:=by decide)
  (he:starEach (e :: es) X.env=(false,eval e X.env) :: starEach es X.env:=by rfl) (hpl:(backTo pos (starEach es X.env)).any (·.1)=false:=by rfl):PE X (.Call (.Name x p) (e :: es) [] pos) (tCB r t):=by
 intro pins s σ H Q I h
 refine wpAny_Call_Name_kw (a1M I hg hm hv ?_ hn hdb)
 exact PyProof.Rows.callWith_builtin1 (thn (ha pos pins s σ H _ I h) fun us s1 ⟨vs,H1,I1,r1,q1⟩=>hc pins s1 σ H1 vs us Q I1 r1 q1) he hpl
theorem a1m (hc:a2l X (.type T) r) (hg:Gl X x) (hm:X.mg x=none) (hv:bootBuiltins x=some (.type T)) (ha:PA X (e :: es) t) (hn:x≠"__name__":=by decide) (hdb:(x == ("__debug__":Str))=false:=by decide)
  (he:starEach (e :: es) X.env=(false,eval e X.env) :: starEach es X.env:=by rfl) (hpl:(backTo pos (starEach es X.env)).any (·.1)=false:=by rfl):PE X (.Call (.Name x p) (e :: es) [] pos) (tCB r t):=by
 intro pins s σ H Q I h
 refine wpAny_Call_Name_kw (a1M I hg hm hv ?_ hn hdb)
 exact PyProof.Rows.callWith_type1 (thn (ha pos pins s σ H _ I h) fun us s1 ⟨vs,H1,I1,r1,q1⟩=>hc pins s1 σ H1 vs us Q I1 r1 q1) he hpl
end
end L2
namespace HT
open PySem PyProof.Rows
def a0S:List Int→List Int→Bool
 | [],[]=>false
 | [],_ :: _=>true
 | _ :: _,[]=>false
 | x :: xs,y :: ys=>if x=y then a0S xs ys else decide (x < y)
theorem a1a (x y:Int) (xs ys:List Int):a0S (x :: xs) (y :: ys)=if x=y then a0S xs ys else decide (x < y):=rfl
theorem a3G:a0S [] []=false:=rfl
theorem a3m (y:Int) (ys:List Int):a0S [] (y :: ys)=true:=rfl
theorem a3n (x:Int) (xs:List Int):a0S (x :: xs) []=false:=rfl
theorem a8U (A:Around) (s:Shared) (a:Int) (t:Tok) (c:Int) (u:Tok):∃ e,SeqAt.EqAt A s (.int a t) (.int c u) e∧(e=true↔a=c) :=
 ⟨(a == c),SeqAt.EqAt.int_int a t c u,by simp⟩
theorem a8V (A:Around) (s:Shared) (a:Int) (t:Tok) (c:Int) (u:Tok) (prog:Program) (w:World) (E:Value→Shared→Prop) (Q:Value→Shared→Prop) (h:Q (.bool (decide (a < c))) s) :
  wpAny (model prog w) A (richCompare .Lt (.int a t) (.int c u)) Q E s :=
 (PyProof.Rows.lt_int h:wpAny (model prog w) A (compareOp .Lt (.int a t) (.int c u)) Q E s)
section
open PySem.SeqAt
open PySem.AutoSeq1 (wpAny_loadPart')
open PySem.MeetsSeq PySem.MeetsSeq2 PySem.MeetsSeq3
theorem a2m (l b:Addr) (items items2:Array Value) (n n2:Nat) (dd dd2:Option Addr) (sl sl2:Array (Option Value)) (ns ms:List Int) (hi:IntsAre items.toList ns) (hj:IntsAre items2.toList ms) :
  Meets (Builtin.«tuple.__lt__» ⟨[.ref l,.ref b],[]⟩)
   (fun _ R s=>s.heap.get? l=some { cls:=.type "tuple",dict:=dd,data:=.seq items n,slots:=sl }∧s.heap.get? b=some { cls:=.type "tuple",dict:=dd2,data:=.seq items2 n2,slots:=sl2 } ∧
    R (.ok (.ret (.bool (a0S ns ms)))) s) :=
 .of_wp fun prog w A R s h=>by
  obtain ⟨hp,g,d,tk,os⟩:=s;obtain ⟨hl,hb,h⟩:=h
  have f2:=AutoSeq1.sub_tuple_tuple
  have z1:items.size=ns.length:=by rw [←hi.length];simp
  have z2:items2.size=ms.length:=by rw [←hj.length];simp
  wp_walk using wpAny_loadPart' hl,wpAny_loadPart' hb,wpAny_forIn_list _ (fun rest b s'=>b.1=none∧s'=⟨hp,g,d,tk,os⟩∧∃ (vs ws:List Value) (ns' ms':List Int),rest=vs.zip ws ∧
   IntsAre vs ns'∧IntsAre ws ms'∧ns'.length+items2.size=ms'.length+items.size∧R (.ok (.ret (.bool (a0S ns' ms')))) ⟨hp,g,d,tk,os⟩) _
  case turn =>
   rintro ⟨y,x⟩ rest b s' ⟨hb',rfl,vs,ws,ns',ms',hz,hvi,hwi,hlen,hR⟩
   cases hvi with
   | nil=>rw [List.zip_nil_left] at hz;cases hz
   | cons a t hvi' =>
    cases hwi with
    | nil=>rw [List.zip_nil_right] at hz;cases hz
    | cons c u hwi' =>
     rw [List.zip_cons_cons] at hz
     injection hz with hyx hrest
     injection hyx with hy hx
     subst hy hx
     rw [a1a] at hR
     simp only [List.length_cons] at hlen
     obtain ⟨e,he,hiff⟩:=a8U A.in1 ⟨hp,g,d,tk,os⟩ a t c u
     refine wpAny_bind (he prog w _ _ ?_)
     cases e with
     | true =>
      rw [if_pos (hiff.mp rfl)] at hR
      wp_walk
      exact ⟨rfl,rfl,_,_,_,_,hrest,hvi',hwi',by omega,hR⟩
     | false =>
      rw [if_neg (fun q=>absurd (hiff.mpr q) Bool.false_ne_true)] at hR
      have hri:=a8V A.in1 ⟨hp,g,d,tk,os⟩ a t c u prog w
      wp_walk using hri
      exact ⟨_,rfl,by simpa using hR⟩
  case fin =>
   rintro ⟨b1,b2⟩ s' ⟨hb',rfl,vs,ws,ns',ms',hz,hvi,hwi,hlen,hR⟩
   simp only at hb'
   subst hb'
   have hv:a0S ns' ms'=decide (items.size < items2.size):=by
    cases hvi with
    | nil =>
     cases hwi with
     | nil =>
      simp only [List.length_nil] at hlen
      rw [a3G]
      exact (decide_eq_false (by omega)).symm
     | cons c u hw =>
      simp only [List.length_nil,List.length_cons] at hlen
      rw [a3m]
      exact (decide_eq_true (by omega)).symm
    | cons a t hv =>
     cases hwi with
     | nil =>
      simp only [List.length_nil,List.length_cons] at hlen
      rw [a3n]
      exact (decide_eq_false (by omega)).symm
     | cons c u hw =>
      rw [List.zip_cons_cons] at hz
      cases hz
   rw [hv] at hR
   wp_walk
   exact ⟨_,rfl,by simpa [Builtin.Tuple.tupleCompareSizes] using hR⟩
  case h =>
   exact ⟨rfl,rfl,items.toList,items2.toList,ns,ms,rfl,hi,hj,by omega,h⟩
end
section
variable {prog:Program} {w:World} {A:Around} {E:Value→Shared→Prop} {s:Shared}
theorem a6v {l b:Addr} {items items2:Array Value} {ns ms:List Int} {Q:Value→Shared→Prop} (hl:IsTup s.heap l items) (hb:IsTup s.heap b items2) (hi:IntsAre items.toList ns) (hj:IntsAre items2.toList ms)
  (hu:A.units < cLine) (h:Q (.bool (a0S ns ms)) s):wpAny (model prog w) A (compareOp .Lt (.ref l) (.ref b)) Q E s:=by
 obtain ⟨⟨cls,dd,data,sl⟩,ho,hc,n,hd⟩:=id hl
 obtain ⟨⟨cls2,dd2,data2,sl2⟩,ho2,hc2,n2,hd2⟩:=id hb
 simp only at hc hd hc2 hd2
 subst hc hd hc2 hd2
 exact richCompare_meets_room (op:=.Lt) ⟨_,ho,rfl⟩ ⟨_,ho2,rfl⟩ PySem.F.slot_tuple_lt PySem.F.entry_tuple_lt (PySem.F.args_tuple_lt_2 _ _) (a2m l b items items2 n n2 dd dd2 sl sl2 ns ms hi hj)
  ⟨ho,ho2,show Value.bool (a0S ns ms)≠Value.notImplemented∧Q (.bool (a0S ns ms)) s from ⟨(fun x=>nomatch x),h⟩⟩ hu
theorem b0E {t b:Addr} {vs ws:List Value} {Q:Value→Shared→Prop} (ht:IsTup s.heap t vs.toArray) (hb:IsTup s.heap b ws.toArray) (hv:vs≠[])
  (h1:ws=[]→Q (.ref t) s) (h2:ws≠[]→Q (.ref s.heap.objs.size) { s with heap:=s.heap.push { cls:=.type "tuple",data:=.seq (vs++ws).toArray } })
  (hsz:vs.length+ws.length≤sizeLine):wpAny (model prog w) A (binaryOp .Add (.ref t) (.ref b)) Q E s:=by
 obtain ⟨⟨cls,dd,data,sl⟩,ho,hc,n,hd⟩:=id ht
 obtain ⟨⟨cls2,dd2,data2,sl2⟩,ho2,hc2,n2,hd2⟩:=id hb
 simp only at hc hd hc2 hd2
 subst hc hd hc2 hd2
 have e:vs.toArray++ws.toArray=(vs++ws).toArray:=by simp
 by_cases hw:ws=[]
 ·exact concat_meets ⟨_,ho,rfl⟩ ⟨_,ho2,rfl⟩ noFill_tuple_add seq_tuple_add PySem.F.slot_tuple_add PySem.F.entry_tuple_add (PySem.F.args_tuple_add_2 _ _)
   (tuple_addW1 t b vs.toArray ws.toArray n n2 dd dd2 sl sl2 (by simpa using hv) (by simp [hw])) ⟨ho,ho2,h1 hw⟩
 ·refine concat_meets ⟨_,ho,rfl⟩ ⟨_,ho2,rfl⟩ noFill_tuple_add seq_tuple_add PySem.F.slot_tuple_add PySem.F.entry_tuple_add (PySem.F.args_tuple_add_2 _ _)
   (tuple_addW2 t b vs.toArray ws.toArray n n2 dd dd2 sl sl2 (by simpa using hv) (by simpa using hw) (by rw [List.size_toArray,List.size_toArray];exact hsz)) ⟨ho,ho2,?_⟩
  rw [e]
  exact h2 hw
def sIx (n d:Nat):Option Int→Nat
 | none=>d
 | some v=>if v < 0 then (v+(n:Int)).toNat else min v.toNat n
theorem a5P (n d:Nat):sIx n d none=d:=rfl
theorem a5c (n d k:Nat):sIx n d (some (k:Int))=min k n:=by
 show (if (k:Int) < 0 then ((k:Int)+(n:Int)).toNat else min (k:Int).toNat n)=min k n
 rw [if_neg (by omega),Int.toNat_natCast]
theorem sIx_le (n d:Nat) (hd:d≤n) (o:Option Int):sIx n d o≤n:=by
 cases o with
 | none=>exact hd
 | some v =>
  show (if v < 0 then (v+(n:Int)).toNat else min v.toNat n)≤n
  by_cases hv:v < 0
  ·rw [if_pos hv];omega
  ·rw [if_neg hv];exact Nat.min_le_right _ _
theorem a7z (v:Int) (n d:Nat):(if v < 0 then max (v+(n:Int)) 0 else min v (n:Int))=((sIx n d (some v):Nat):Int):=by
 show (if v < 0 then max (v+(n:Int)) 0 else min v (n:Int))=(((if v < 0 then (v+(n:Int)).toNat else min v.toNat n):Nat):Int)
 by_cases hv:v < 0
 ·simp only [if_pos hv];omega
 ·simp only [if_neg hv];omega
theorem a6w (lo hi:Option Int) (n:Nat):Builtin.Slice.sliceAdjust lo hi 1 (n:Int)=(((sIx n 0 lo:Nat):Int),((sIx n n hi:Nat):Int)):=by
 have h1:¬ ((1:Int) < 0):=by omega
 unfold Builtin.Slice.sliceAdjust
 simp only [h1,if_false]
 refine Prod.ext ?_ ?_
 ·cases lo with
  | none=>rfl
  | some v=>exact a7z v n 0
 ·cases hi with
  | none=>rfl
  | some v=>exact a7z v n n
theorem a6x (i j:Nat):Builtin.Slice.slicePlaces (i:Int) (j:Int) 1=j - i:=by
 unfold Builtin.Slice.slicePlaces
 have h1:(1:Int) > 0:=by omega
 simp only [h1,if_true,Int.ediv_one]
 split <;> omega
theorem a3s {v:Value} {o:Option Int} {Q:Option Int→Shared→Prop} (p:IsPart v o) (h:Q o s):wpAny (model prog w) A (Builtin.Slice.slicePartIndex v) Q E s:=by
 cases p with
 | none=>exact slicePart_none h
 | int i t=>exact slicePart_int h
theorem a1K {sl:Addr} {vl vu:Value} {lo hi:Option Int} {n:Nat} {Q:Int × Int × Nat→Shared→Prop} (hs:s.heap.IsSliceOf sl vl vu .none) (pl:IsPart vl lo) (pu:IsPart vu hi)
  (h:Q (((sIx n 0 lo:Nat):Int),1,sIx n n hi - sIx n 0 lo) s):wpAny (model prog w) A (Builtin.Slice.sliceApplied (.ref sl) (pure (n:Int))) Q E s:=by
 obtain ⟨os,hos,hcs,hds⟩:=id hs
 unfold Builtin.Slice.sliceApplied Builtin.Slice.sliceFields
 refine wpAny_bind (wpAny_bind (wpAny_field hos hds (x:=vl) rfl (wpAny_bind (wpAny_field hos hds (x:=vu) rfl (wpAny_bind (wpAny_field hos hds (x:=.none) rfl (wpAny_pure ?_)))))))
 refine wpAny_bind (slicePart_none ?_)
 show wpAny _ _ (if ((1:Int) == 0)=true then _ else _) _ _ s
 rw [if_neg (by decide)]
 refine wpAny_bind (a3s pl (wpAny_bind (a3s pu (wpAny_bind (wpAny_pure ?_)))))
 show wpAny _ _ (match Builtin.Slice.sliceAdjust lo hi 1 (n:Int) with | (lo,hi)=>pure (lo,(1:Int),Builtin.Slice.slicePlaces lo hi 1)) _ _ s
 rw [a6w lo hi n]
 show wpAny _ _ (pure (((sIx n 0 lo:Nat):Int),(1:Int),Builtin.Slice.slicePlaces ((sIx n 0 lo:Nat):Int) ((sIx n n hi:Nat):Int) 1)) _ _ s
 rw [a6x]
 exact wpAny_pure h
theorem a8W (xs:Array Value) (i k:Nat):((List.range k).filterMap fun (m:Nat)=>xs[((i:Int)+(m:Int) * 1).toNat]?).toArray=((xs.toList.drop i).take k).toArray:=by
 have e:(fun (m:Nat)=>xs[((i:Int)+(m:Int) * 1).toNat]?)=fun m=>xs[i+m]?:=by
  funext m
  have:((i:Int)+(m:Int) * 1).toNat=i+m:=by omega
  rw [this]
 rw [e]
 have:=pick_run xs i k
 rw [List.filterMap_map] at this
 have e2:((fun x=>xs[x]?) ∘ fun x=>i+x)=fun m=>xs[i+m]?:=rfl
 rw [e2] at this
 rw [this]
theorem a2t {t sl:Addr} {items:Array Value} {vl vu:Value} {lo hi:Option Int} {Q:Value→Shared→Prop} (ht:IsTup s.heap t items) (hs:s.heap.IsSliceOf sl vl vu .none) (pl:IsPart vl lo) (pu:IsPart vu hi)
  (hw:¬ (sIx items.size 0 lo=0∧sIx items.size items.size hi=items.size))
  (h:Q (.ref s.heap.objs.size) { s with heap:=s.heap.push { cls:=.type "tuple",data:=.seq ((items.toList.drop (sIx items.size 0 lo)).take (sIx items.size items.size hi - sIx items.size 0 lo)).toArray } })
  (hsz:items.size≤sizeLine):wpAny (model prog w) A (getItem (.ref t) (.ref sl)) Q E s:=by
 have htake:sizeOk (.seq ((items.toList.drop (sIx items.size 0 lo)).take (sIx items.size items.size hi - sIx items.size 0 lo)).toArray):=by
  show ((items.toList.drop (sIx items.size 0 lo)).take (sIx items.size items.size hi - sIx items.size 0 lo)).toArray.size≤sizeLine
  rw [List.size_toArray,List.length_take,List.length_drop,Array.length_toList]
  omega
 have hj:sIx items.size items.size hi≤items.size:=sIx_le _ _ (Nat.le_refl _) hi
 obtain ⟨os,hos,hcs,hds⟩:=id hs
 have hTs:s.TypeIs (.ref sl) "slice":=⟨os,hos,hcs⟩
 unfold getItem
 try with_reducible refine wpAny_holding ?_
 first | refine wpAny_bind (wpAny_pure ?_) | skip
 refine wpAny_bind (wpAny_sequenceKey ht.typeIs (by decide) ?_)
 refine wpAny_bind (wpAny_callSpecial?_slot (name:=Str.ofString "__getitem__") ht.typeIs PyProof.Rows.slot_tuple_getitem
  (wpAny_call_entry PyProof.Rows.slot_tuple_getitem ht.typeIs entry_tuple_getitem ?_ (args_tuple_getitem _ _)))
 show wpAny _ _ (Builtin.Tuple.tupleItemsOf (.ref t) >>= _) _ _ s
 refine wpAny_bind (tupleItemsOf_ ht ?_)
 refine wpAny_bind (wpAny_typeOf hTs ?_)
 rw [if_pos (by decide)]
 refine wpAny_bind (a1K hs pl pu ?_)
 have hno:¬ ((((sIx items.size 0 lo:Nat):Int) == 0 && (1:Int) == 1 && (sIx items.size items.size hi - sIx items.size 0 lo) == items.size)=true):=by
  intro q
  rw [Bool.and_eq_true,Bool.and_eq_true] at q
  have q1:((sIx items.size 0 lo:Nat):Int)=0:=eq_of_beq q.1.1
  have q2:sIx items.size items.size hi - sIx items.size 0 lo=items.size:=eq_of_beq q.2
  exact hw ⟨by omega,by omega⟩
 show wpAny _ _ (if (((sIx items.size 0 lo:Nat):Int) == 0 && (1:Int) == 1 && (sIx items.size items.size hi - sIx items.size 0 lo) == items.size)=true then _ else _) _ _ s
 rw [if_neg hno,a8W]
 first
  | exact wpAny_bind (m:=Builtin.Tuple.tupleExact _) (wpAny_newObj_type (wpAny_pure ⟨_,rfl,wpAny_pure h⟩) htake)
  | exact wpAny_bind (m:=Builtin.Tuple.tupleExact _) (wpAny_newObj_type (wpAny_bind (wpAny_pure (wpAny_pure ⟨_,rfl,wpAny_pure h⟩))) htake)
  | exact wpAny_bind (wpAny_bind (m:=Builtin.Tuple.tupleExact _) (wpAny_newObj_type (wpAny_pure (wpAny_pure ⟨_,rfl,wpAny_pure h⟩)) htake))
  | exact wpAny_bind (wpAny_bind (m:=Builtin.Tuple.tupleExact _) (wpAny_newObj_type (wpAny_pure ⟨_,rfl,wpAny_pure h⟩) htake))
end
end HT
namespace L2
open PySem PySem.Spec PyProof.Rows
abbrev TO:=St→Hp→(Option Int→Hp→Prop)→Prop
def PO (X:Cx) (e:Option Expr) (t:TO):Prop :=
 ∀ (pins:List (Addr × Obj)) (s:Shared) (σ:St) (H:Hp) (Q:Option Int→Hp→Prop),Inv X pins σ H s→t σ H Q →
  wpAny (model X.prog X.w) X.A (evalPart e X.env) (fun u s'=>∃ o H',Inv X pins σ H' s'∧IsPart u o∧Q o H') X.xe s
def b0F:TO:=fun _ H Q=>Q none H
def tPart (t:TE):TO:=fun σ H Q=>t σ H fun x H1=>∃ i,x=.int i∧Q (some i) H1
section
variable {X:Cx} {e:Expr} {te:TE} {lo hi:Option Expr} {tl th:TO} {pos p2:Pos}
theorem a1x:PO X none b0F:=by
 intro pins s σ H Q I h
 rw [evalPart_none]
 exact wpAny_pure ⟨none,H,I,.none,h⟩
theorem a1y (h:PE X e te):PO X (some e) (tPart te):=by
 intro pins s σ H Q I hw
 rw [evalPart_some]
 refine thn (h pins s σ H _ I hw) fun u s1 ⟨x,H1,I1,r1,q1⟩=>?_
 obtain ⟨i,rfl,q⟩:=q1
 obtain ⟨t,rfl⟩:=r1
 exact ⟨some i,H1,I1,.int i t,q⟩
def SlR (X:Cx) (r:V→Option Int→Option Int→Hp→VK→Prop):Prop :=
 ∀ (pins:List (Addr × Obj)) (s:Shared) (σ:St) (H:Hp) (x:V) (v vl vu:Value) (lo hi:Option Int) (sl:Addr) (Q:VK),Inv X pins σ H s→a0T x v→s.heap.IsSliceOf sl vl vu .none→IsPart vl lo→IsPart vu hi→r x lo hi H Q →
  ∃ T id,typeLookup (.type T) "__getitem__"=pure (some (.builtin id))∧s.TypeIs v T∧wpAny (model X.prog X.w) X.A (getItem v (.ref sl)) (EP X pins σ Q) X.xe s
def tSl (r:V→Option Int→Option Int→Hp→VK→Prop) (te:TE) (tl th:TO):TE:=fun σ H Q=>te σ H fun x H1=>tl σ H1 fun l H2=>th σ H2 fun u H3=>r x l u H3 Q
theorem a1e {r:V→Option Int→Option Int→Hp→VK→Prop} (hr:SlR X r) (he:PE X e te) (hl:PO X lo tl) (hu:PO X hi th):PE X (.Subscript e (.Slice lo hi none p2) pos) (tSl r te tl th):=by
 intro pins s σ H Q I h
 refine Subscript_ (thn (he pins s σ H _ I h) fun v s1 ⟨x,H1,I1,r1,q1⟩=>?_)
 refine wpAny_Slice (thn (hl pins s1 σ H1 _ I1 q1) fun vl s2 ⟨l,H2,I2,pl,q2⟩=>thn (hu pins s2 σ H2 _ I2 q2) fun vu s3 ⟨u,H3,I3,pu,q3⟩=>?_)
 rw [evalPart_none]
 refine wpAny_pure ?_
 have I4:Inv X pins σ H3 { s3 with heap:=s3.heap.push { cls:=.type "slice",data:=.fields #[vl,vu,.none] } }:=I3.kept (t':=s3.toks) fun b ob q=>Heap.get?_push_of_some _ q
 obtain ⟨T,id,hT,ht,hg⟩:=hr pins { s3 with heap:=s3.heap.push { cls:=.type "slice",data:=.fields #[vl,vu,.none] } } σ H3 x v vl vu l u s3.heap.objs.size Q I4 r1 (Heap.IsSliceOf.new ..) pl pu q3
 show wpAny (model X.prog X.w) X.A (subscriptTail e (.Slice lo hi none p2) v (.ref s3.heap.objs.size)) (EP X pins σ Q) X.xe { s3 with heap:=s3.heap.push { cls:=.type "slice",data:=.fields #[vl,vu,.none] } }
 exact tail_any (ops:=[.ref s3.heap.objs.size,v]) ht hT hg (by with_unfolding_all rfl)
def a4j (xs:List V) (lo hi:Option Int):List V:=(xs.drop (HT.sIx xs.length 0 lo)).take (HT.sIx xs.length xs.length hi - HT.sIx xs.length 0 lo)
theorem a2V (xs:List V) (lo hi:Option Int):(a4j xs lo hi).length≤xs.length:=by
 unfold a4j
 rw [List.length_take,List.length_drop]
 omega
def rSlT (K:PySem.W.Frag):V→Option Int→Option Int→Hp→VK→Prop:=fun x lo hi H Q=>∃ a xs,x=.ref a∧SqT K H a xs ∧
 ¬ (HT.sIx xs.length 0 lo=0∧HT.sIx xs.length xs.length hi=xs.length)∧∀ p,H p=none→Q (.ref p) (upd H p (.tup (a4j xs lo hi)))
theorem a9X:SlR X (rSlT X.K):=by
 intro pins s σ H x v vl vu lo hi sl Q I rx hs pl pu h
 obtain ⟨a,xs,rfl,hx,hw,q⟩:=h
 cases rx
 obtain ⟨its,r,ht,hz⟩:=I.tuple hx
 have hlen:its.toArray.size=xs.length:=by rw [List.size_toArray];exact r.length.symm
 refine ⟨"tuple",_,PyProof.Rows.slot_tuple_getitem.lookup,ht.typeIs,?_⟩
 refine HT.a2t ht hs pl pu (by rw [hlen];exact hw) ?_ (by rw [hlen];exact hz)
 rw [hlen]
 refine ⟨.ref s.heap.objs.size,_,I.laid (t':=s.toks) (o:=.tup (a4j xs lo hi)) (fun b ob q=>Heap.get?_push_of_some _ q) (Nat.le_refl _) ?_,rfl,q _ (I.hok.fresh (Nat.le_refl _))⟩
 exact ⟨Nat.le_trans (a2V xs lo hi) hz,_,(r.drop (HT.sIx xs.length 0 lo)).take (HT.sIx xs.length xs.length hi - HT.sIx xs.length 0 lo),a4i.new _ _⟩
def rCatT (K:PySem.W.Frag):R2:=fun x y H Q=>∃ a b xs ys,x=.ref a∧y=.ref b∧SqT K H a xs∧SqT K H b ys∧xs≠[]∧xs.length+ys.length≤sizeLine ∧
 (ys=[]→Q (.ref a) H)∧(ys≠[]→∀ p,H p=none→Q (.ref p) (upd H p (.tup (xs++ys))))
theorem a0J.nil_iff {xs:List V} {us:List Value} (r:a0J xs us):us=[]↔xs=[]:=by
 cases r with
 | nil=>simp
 | cons _ _=>simp
theorem b0G:OpR X (binaryOp .Add) (rCatT X.K):=by
 intro pins s σ H x y v u Q I rx ry h
 obtain ⟨a,b,xs,ys,rfl,rfl,ha,hb,hx,hz,q1,q2⟩:=h
 cases rx
 cases ry
 obtain ⟨its,r1,p1,_⟩:=I.tuple ha
 obtain ⟨its2,r2,p2,_⟩:=I.tuple hb
 refine HT.b0E p1 p2 (fun z=>hx (r1.nil_iff.mp z)) (fun z=>⟨.ref a,H,I,rfl,q1 (r2.nil_iff.mp z)⟩) (fun z=>?_) (by rw [←r1.length,←r2.length];exact hz)
 refine ⟨.ref s.heap.objs.size,_,I.laid (t':=s.toks) (o:=.tup (xs++ys)) (fun b ob q=>Heap.get?_push_of_some _ q) (Nat.le_refl _) ?_,rfl,q2 (fun w=>z (r2.nil_iff.mpr w)) _ (I.hok.fresh (Nat.le_refl _))⟩
 exact ⟨by rw [List.length_append];exact hz,_,r1.append r2,a4i.new _ _⟩
end
def ixN (n:Nat) (i:Int):Option Nat:=if 0≤i then (if i < n then some i.toNat else none) else if -(n:Int)≤i then some (i+n).toNat else none
def atI {α:Type} (xs:List α) (i:Int):Option α:=(ixN xs.length i).bind fun j=>xs[j]?
theorem b0H {n:Nat} {i:Int} {j:Nat} (h:ixN n i=some j):seqIndex? i n=some j∧j < n∧-(n:Int)≤i∧i < n:=by
 unfold ixN at h
 by_cases h0:0≤i
 ·rw [if_pos h0] at h
  by_cases h1:i < n
  ·rw [if_pos h1] at h
   have e:i.toNat=j:=Option.some.inj h
   exact ⟨by rw [seqIndex_of h0 h1,e],by omega,by omega,h1⟩
  ·rw [if_neg h1] at h;cases h
 ·rw [if_neg h0] at h
  by_cases h1:-(n:Int)≤i
  ·rw [if_pos h1] at h
   have e:(i+n).toNat=j:=Option.some.inj h
   exact ⟨by rw [seqIndex_neg (by omega) h1,e],by omega,h1,by omega⟩
  ·rw [if_neg h1] at h;cases h
theorem a7A {α:Type} {xs:List α} {i:Int} {v:α} (h:atI xs i=some v):∃ j,seqIndex? i xs.length=some j∧xs[j]?=some v∧j < xs.length∧-(xs.length:Int)≤i∧i < xs.length:=by
 unfold atI at h
 cases e:ixN xs.length i with
 | none=>rw [e] at h;cases h
 | some j =>
  rw [e] at h
  obtain ⟨h1,h2,h3,h4⟩:=b0H e
  exact ⟨j,h1,h,h2,h3,h4⟩
theorem a7B {α:Type} {xs:List α} {j:Nat} {v:α} (h:xs[j]?=some v):atI xs (j:Int)=some v:=by
 have hj:j < xs.length:=(List.getElem?_eq_some_iff.mp h).1
 have e:ixN xs.length (j:Int)=some j:=by
  unfold ixN
  rw [if_pos (by omega),if_pos (by omega)];simp
 unfold atI;rw [e];exact h
theorem a5Q {α:Type} (xs:List α) (v:α):atI (xs++[v]) (-1)=some v:=by
 have hl:(xs++[v]).length=xs.length+1:=by simp
 have e:ixN (xs++[v]).length (-1)=some xs.length:=by
  unfold ixN
  rw [hl,if_neg (by decide),if_pos (by omega)]
  congr 1
  omega
 unfold atI
 rw [e]
 show (xs++[v])[xs.length]?=some v
 simp
def b0I (b:Expr):Prop:=∀ o i,subscripted b false o i=operate [o,i] (getItem o i)
def IxR (X:Cx) (r:R2):Prop :=
 ∀ (value slice:Expr) (pins:List (Addr × Obj)) (s:Shared) (σ:St) (H:Hp) (x y:V) (v u:Value) (Q:VK),Inv X pins σ H s→a0T x v→a0T y u→r x y H Q →
  subscripted slice false v u=operate [v,u] (getItem v u)→wpAny (model X.prog X.w) X.A (subscriptTail value slice v u) (EP X pins σ Q) X.xe s
def MtR (X:Cx) (id:String) (r:V→List V→Hp→VK→Prop):Prop :=
 ∀ (pins:List (Addr × Obj)) (s:Shared) (σ:St) (H:Hp) (x:V) (xs:List V) (v:Value) (us:List Value) (Q:VK),Inv X pins σ H s→a0T x v→a0J xs us→r x xs H Q →
  wpAny (model X.prog X.w) X.A (call (.builtin id) (v :: us)) (EP X pins σ Q) X.xe s
section
variable {X:Cx} {a b:Expr} {ta tb:TE} {pos:Pos}
theorem a0P {r:R2} (hr:IxR X r) (ha:PE X a ta) (hb:PE X b tb) (hs:b0I b):PE X (.Subscript a b pos) (tOp r ta tb):=by
 intro pins s σ H Q I h
 exact Subscript_ (binT ha hb I h fun v u s2 x y H2 I2 rx ry q=>hr a b pins s2 σ H2 x y v u Q I2 rx ry q (hs _ _))
def rIxL (K:PySem.W.Frag):R2:=fun x y H Q=>∃ p xs i v,x=.ref p∧y=.int i∧SqL K H p xs∧atI xs i=some v∧Q v H
def rIxT (K:PySem.W.Frag):R2:=fun x y H Q=>∃ p xs i v,x=.ref p∧y=.int i∧SqT K H p xs∧atI xs i=some v∧Q v H
def rIxS:R2:=fun x y H Q=>∃ z i c,x=.str z∧y=.int i∧z.length≤sizeLine∧atI z.cps.toList i=some c∧Q (.str ⟨#[c]⟩) H
theorem a1z:IxR X (rIxL X.K):=by
 intro value slice pins s σ H x y v u Q I rx ry h hs
 obtain ⟨p,xs,i,z,rfl,rfl,hq,he,q⟩:=h
 cases rx
 obtain ⟨t,rfl⟩:=ry
 obtain ⟨its,r,pl,hz⟩:=I.list hq
 obtain ⟨j,h1,h2,h3,h4,h5⟩:=a7A he
 obtain ⟨w,ew,rw'⟩:=r.get h2
 have hl:=r.length
 have hn:=a7p
 have fin:EP X pins σ Q w s:=⟨z,H,I,rw',q⟩
 by_cases h0:0≤i
 ·have hj:i.toNat=j:=by
   rw [seqIndex_of h0 h5] at h1
   exact Option.some.inj h1
  exact item_listR pl.isList h0 (by omega) (by rw [hj];simpa using ew) fin hs
 ·have hj:(i+(its.toArray.size:Int)).toNat=j:=by
   rw [seqIndex_neg (by omega) h4] at h1
   rw [List.size_toArray,←hl]
   exact Option.some.inj h1
  exact subscriptTail_builtinR (x:=w) pl.isList.typeIs slot_list_getitem.lookup
   (wpAny_getItem_list_neg (Q:=fun r s'=>r=w∧EP X pins σ Q r s') pl.isList (by omega) (by rw [List.size_toArray] <;> omega) (by omega) (by rw [hj];simpa using ew) ⟨rfl,fin⟩) hs
theorem a1L:IxR X (rIxT X.K):=by
 intro value slice pins s σ H x y v u Q I rx ry h hs
 obtain ⟨p,xs,i,z,rfl,rfl,hq,he,q⟩:=h
 cases rx
 obtain ⟨t,rfl⟩:=ry
 obtain ⟨its,r,pl,hz⟩:=I.tuple hq
 obtain ⟨j,h1,h2,h3,h4,h5⟩:=a7A he
 obtain ⟨w,ew,rw'⟩:=r.get h2
 have hl:=r.length
 have hn:=a7p
 have fin:EP X pins σ Q w s:=⟨z,H,I,rw',q⟩
 exact subscriptTail_builtinR (x:=w) pl.typeIs slot_tuple_getitem.lookup
  (getItem_tuple (j:=j) (Q:=fun r s'=>r=w∧EP X pins σ Q r s') pl (by omega) (by omega) (by rw [List.size_toArray,←hl];exact h1) (by simpa using ew) ⟨rfl,fin⟩) hs
def rIx (K:PySem.W.Frag):R2:=fun x y H Q=>rIxL K x y H Q∨rIxT K x y H Q∨rIxS x y H Q
theorem a4u (lo hi:Option Int) (n:Nat):(sliceBounds lo hi none n).1=((HT.sIx n 0 lo:Nat):Int)∧(sliceBounds lo hi none n).2.1=((HT.sIx n n hi:Nat):Int)∧(sliceBounds lo hi none n).2.2=1:=by
 refine ⟨?_,?_,rfl⟩
 ·cases lo with
  | none=>simp [sliceBounds,HT.sIx]
  | some i =>
   simp only [sliceBounds,HT.sIx,Option.getD_none,show (1:Int) > 0 by decide,if_true]
   by_cases h:i < 0
   ·simp only [h,if_true] <;> omega
   ·simp only [h,if_false] <;> omega
 ·cases hi with
  | none=>simp [sliceBounds,HT.sIx]
  | some i =>
   simp only [sliceBounds,HT.sIx,Option.getD_none,show (1:Int) > 0 by decide,if_true]
   by_cases h:i < 0
   ·simp only [h,if_true] <;> omega
   ·simp only [h,if_false] <;> omega
theorem a3H (its:List Value) (lo hi:Option Int):slicePick its.toArray lo hi none=((its.drop (HT.sIx its.length 0 lo)).take (HT.sIx its.length its.length hi - HT.sIx its.length 0 lo)).toArray:=by
 obtain ⟨h1,h2,h3⟩:=a4u lo hi its.toArray.size
 unfold slicePick
 rw [h1,h2,h3]
 simp only [sliceRange_one,pick_run,List.size_toArray] <;> rfl
def rSlL (K:PySem.W.Frag):V→Option Int→Option Int→Hp→VK→Prop:=fun x lo hi H Q=>∃ a xs,x=.ref a∧SqL K H a xs∧∀ p,H p=none→Q (.ref p) (upd H p (.lst (a4j xs lo hi)))
theorem a2u:SlR X (rSlL X.K):=by
 intro pins s σ H x v vl vu lo hi sl Q I rx hs pl pu h
 obtain ⟨a,xs,rfl,hx,q⟩:=h
 cases rx
 obtain ⟨its,r,ht,hz⟩:=I.list hx
 have hlen:=r.length
 refine ⟨"list",_,slot_list_getitem.lookup,ht.isList.typeIs,?_⟩
 refine wpAny_getItem_list_slice ht.isList hs pl pu .none (by simp) ?_ (by rw [List.size_toArray] <;> omega)
 rw [a3H,←hlen]
 refine ⟨.ref s.heap.objs.size,_,I.laid (t':=s.toks) (o:=.lst (a4j xs lo hi)) (fun b ob q=>Heap.get?_push_of_some _ q) (Nat.le_refl _) ?_,rfl,q _ (I.hok.fresh (Nat.le_refl _))⟩
 exact ⟨Nat.le_trans (a2V xs lo hi) hz,_,0,(r.drop (HT.sIx xs.length 0 lo)).take (HT.sIx xs.length xs.length hi - HT.sIx xs.length 0 lo),Heap.get?_push_size _ rfl⟩
def flatV:V→Bool
 | .non=>true
 | .bl _=>true
 | .int _=>true
 | .str _=>true
 | _=>false
def eqV:V→V→Bool
 | .non,.non=>true
 | .bl a,.bl b=>a == b
 | .bl a,.int b=>(if a then 1 else 0) == b
 | .int a,.bl b=>a == (if b then 1 else 0)
 | .int a,.int b=>a == b
 | .str a,.str b=>a == b
 | _,_=>false
def eqU (x:V) (u:Value):Bool:=match u with
 | .none=>eqV .non x
 | .bool b=>eqV (.bl b) x
 | .int i _=>eqV (.int i) x
 | .str z _=>eqV (.str z) x
 | _=>false
def inV (x:V) (xs:List V):Bool:=xs.any fun y=>eqV y x
def rIn (K:PySem.W.Frag) (neg:Bool):R2:=fun x y H Q=>∃ p xs,y=.ref p∧(SqL K H p xs∨SqT K H p xs)∧flatV x=true∧xs.all flatV=true∧Q (.bl (if neg then !inV x xs else inV x xs)) H
theorem a0i:a2l X (.builtin "len") (fun xs H Q=>∃ p ys,xs=[.ref p]∧(SqL X.K H p ys∨SqT X.K H p ys)∧Q (.int ys.length) H):=by
 intro pins s σ H xs us Q I r h
 obtain ⟨p,ys,rfl,hq,q⟩:=h
 obtain ⟨u,rfl,rx⟩:=a2H r
 cases rx
 have hn:=a7p
 rcases hq with hq | hq
 ·obtain ⟨its,r',pl,hz⟩:=I.list hq
  have hlen:=r'.length
  exact Calls.call_len_list pl.isList (by simp only [List.size_toArray] <;> omega) ⟨.int ys.length,H,I.tok _,⟨s.toks+1,by rw [List.size_toArray,hlen]⟩,q⟩
 ·obtain ⟨its,r',pl,hz⟩:=I.tuple hq
  have hlen:=r'.length
  exact len_tuple pl (by simp only [List.size_toArray] <;> omega) ⟨.int ys.length,H,I.tok _,⟨s.toks+1,by rw [List.size_toArray,hlen]⟩,q⟩
theorem a4v:a2l X (.type "list") (fun xs H Q=>∃ p ys,xs=[.ref p]∧(SqL X.K H p ys∨SqT X.K H p ys)∧∀ l,H l=none→Q (.ref l) (upd H l (.lst ys))):=by
 intro pins s σ H xs us Q I r h
 obtain ⟨p,ys,rfl,hq,q⟩:=h
 obtain ⟨u,rfl,rx⟩:=a2H r
 cases rx
 have fin:∀ (its:List Value),a0J ys its→ys.length≤sizeLine→∀ (h':Heap) (c':Nat),(∀ b o',s.heap.get? b=some o'→h'.get? b=some o') →
   h'.get? s.heap.objs.size=some { cls:=.type "list",dict:=none,data:=.seq its.toArray c',slots:=#[] }→EP X pins σ Q (.ref s.heap.objs.size) { s with heap:=h' }:=fun its r' hz h' c' kp e =>
  ⟨.ref s.heap.objs.size,_,I.laid (t':=s.toks) kp (Nat.le_refl _) (show a0A X.prog X.w _ h' _ (.lst ys) from ⟨hz,its,c',r',e⟩),rfl,q _ (I.hok.fresh (Nat.le_refl _))⟩
 rcases hq with hq | hq
 ·obtain ⟨its,r',pl,hz⟩:=I.list hq
  have hlen:=r'.length
  obtain ⟨o,ho,hc,n,hd⟩:=pl.isList
  exact call_list_seq p (.inl rfl) ho hc hd (fun h' c' kp e=>fin its r' hz h' c' kp e) (by simp only [List.size_toArray] <;> omega)
 ·obtain ⟨its,r',pl,hz⟩:=I.tuple hq
  have hlen:=r'.length
  obtain ⟨o,ho,hc,n,hd⟩:=pl
  exact call_list_seq p (.inr rfl) ho hc hd (fun h' c' kp e=>fin its r' hz h' c' kp e) (by simp only [List.size_toArray] <;> omega)
theorem a0V:a2l X (.type "tuple") (fun xs H Q=>∃ p ys,xs=[.ref p]∧((SqL X.K H p ys∧∀ l,H l=none→Q (.ref l) (upd H l (.tup ys)))∨(SqT X.K H p ys∧Q (.ref p) H))):=by
 intro pins s σ H xs us Q I r h
 obtain ⟨p,ys,rfl,h⟩:=h
 obtain ⟨u,rfl,rx⟩:=a2H r
 cases rx
 rcases h with ⟨hq,q⟩ | ⟨hq,q⟩
 ·obtain ⟨its,r',pl,hz⟩:=I.list hq
  have hlen:=r'.length
  refine call_tuple_list pl.isList (fun h' kp=>?_) (by simp only [List.size_toArray] <;> omega)
  have I1:Inv X pins σ H { s with heap:=h' }:=I.kept (t':=s.toks) kp
  have I2:Inv X pins σ (upd H h'.objs.size (.tup ys)) { s with heap:=h'.push { cls:=.type "tuple",data:=.seq its.toArray } } :=
   I1.laid (t':=s.toks) (fun b o e=>Heap.get?_push_of_some _ e) (Nat.le_refl _) (show a0A X.prog X.w _ _ _ (.tup ys) from ⟨hz,its,r',a4i.new _ _⟩)
  exact ⟨.ref h'.objs.size,_,I2,rfl,q _ (I1.hok.fresh (Nat.le_refl _))⟩
 ·obtain ⟨its,r',pl,hz⟩:=I.tuple hq
  exact call_tuple_same pl ⟨.ref p,H,I,rfl,q⟩
def tyV (K:PySem.W.Frag) (T:String) (x:V) (H:Hp):Prop:=match x with
 | .str _=>T="str"
 | .int _=>T="int"
 | .ref p=>(T="list"∧∃ xs,SqL K H p xs)∨(T="tuple"∧∃ o,K.lookup p=some o∧o.cls=.type "tuple"∧o.dict=none) ∨
   (T="dict"∧((∃ kvs,H p=some (.dK kvs))∨∃ kvs,H p=some (.dT kvs)))∨(T="set"∧∃ S n,H p=some (.set S n))
 | _=>False
theorem tyV_is {pins:List (Addr × Obj)} {σ:St} {H:Hp} {s:Shared} {T:String} {x:V} {v:Value} (I:Inv X pins σ H s) (r:a0T x v) (ty:tyV X.K T x H) :
  s.TypeIs v T∧∀ a,v=.ref a→∃ ob,s.heap.get? a=some ob∧ob.dict=none:=by
 cases x with
 | str z =>
  obtain ⟨t,rfl⟩:=r
  cases (show T="str" from ty)
  exact ⟨typeIs_str s z t,fun _ e=>nomatch e⟩
 | int i =>
  obtain ⟨t,rfl⟩:=r
  cases (show T="int" from ty)
  exact ⟨typeIs_int s i t,fun _ e=>nomatch e⟩
 | ref p =>
  cases r
  rcases ty with ⟨rfl,xs,hq⟩ | ⟨rfl,o,hk,hc,hd⟩ | ⟨rfl,hk⟩ | ⟨rfl,S,n,hk⟩
  ·obtain ⟨its,_,pl,_⟩:=I.list hq
   refine ⟨pl.isList.typeIs,fun a e=>?_⟩
   cases e
   obtain ⟨o,n,e,c,hd,_⟩:=pl
   exact ⟨o,e,hd⟩
  ·refine ⟨⟨o,I.kIn p o hk,hc⟩,fun a e=>?_⟩
   cases e
   exact ⟨o,I.kIn _ o hk,hd⟩
  ·have z:∃ o,s.heap.get? p=some o∧o.ExactDict:=by
    rcases hk with ⟨kvs,hk⟩ | ⟨kvs,hk⟩
    ·obtain ⟨_,_,_,_,o,_,_,e,ex,_⟩:=I.hok p _ hk
     exact ⟨o,e,ex⟩
    ·obtain ⟨_,_,_,_,o,_,_,e,ex,_⟩:=I.hok p _ hk
     exact ⟨o,e,ex⟩
   obtain ⟨o,e,ex⟩:=z
   refine ⟨⟨o,e,ex.1⟩,fun a e2=>?_⟩
   cases e2
   exact ⟨o,e,ex.2.1⟩
  ·obtain ⟨o,_,_,_,e,ex,_⟩:=I.hok p _ hk
   refine ⟨⟨o,e,ex.1⟩,fun a e2=>?_⟩
   cases e2
   exact ⟨o,e,ex.2.1⟩
 | _=>exact False.elim ty
def tBM (K:PySem.W.Frag) (T:String) (r:V→List V→Hp→VK→Prop) (to:TE) (t:TA):TE:=fun σ H Q=>to σ H fun x H1=>tyV K T x H1∧t σ H1 fun xs H2=>r x xs H2 Q
variable {o e:Expr} {es:List Expr} {to:TE} {t:TA} {name:Str} {apos cpos:Pos} {T id:String} {r:V→List V→Hp→VK→Prop}
theorem a4w (pa:PlainAttrs T) (slot:Slot T name id) (hty:typeOf (.builtin id)=pure (.type "method_descriptor")) (hm:MtR X id r) (ho:PE X o to) (ha:PA X (e :: es) t)
  (hbase:attributeBase o name X.env (eval o X.env)=eval o X.env:=by rfl)
  (hfew:((backTo cpos (starEach (e :: es) X.env)).all (fun x=>!x.1) && (backToKw cpos (keywordEach [] X.env)).all (fun x=>x.1.isSome)
   && decide ((e :: es).length+([]:List Keyword).length+(if ([]:List Keyword).isEmpty then 0 else 1) < 30))=true:=by rfl)
  (hline:(apos.endLine == cpos.line)=true:=by rfl) (hs:starEach (e :: es) X.env=(false,eval e X.env) :: starEach es X.env:=by rfl) (hplain:(backTo cpos (starEach es X.env)).any (·.1)=false:=by rfl) :
  PE X (.Call (.Attribute o name apos) (e :: es) [] cpos) (tBM X.K T r to t):=by
 intro pins s σ H Q I h
 refine wpAny_Call_method_late hbase hfew hline rfl (thn (ho pins s σ H _ I h) fun v s1 ⟨x,H1,I1,r1,ty,q1⟩=>?_)
 obtain ⟨h1,h2⟩:=tyV_is I1 r1 ty
 refine ⟨T,id,pa,slot,hty,h1,h2,?_⟩
 have hA:=ha cpos pins s1 σ H1 _ I1 q1
 rw [hs] at hA ⊢
 refine Calls.callWith_builtin (by show (false || (backTo cpos (starEach es X.env)).any (·.1))=false;rw [hplain] <;> rfl) (Calls.evalArgs_plain ?_)
 exact thn hA fun us s2 ⟨vs,H2,I2,r2,q2⟩=>hm pins s2 σ H2 x vs v us Q I2 r1 r2 q2
end
def MtM (X:Cx) (id:String) (r:V→List V→Hp→VK→Prop):Prop :=
 ∀ (pins:List (Addr × Obj)) (s:Shared) (σ:St) (H:Hp) (x:V) (xs:List V) (v:Value) (us:List Value) (Q:VK),Inv X pins σ H s→a0T x v→a0J xs us→r x xs H Q →
  wpAny (model X.prog X.w) X.A (call (.builtin id) (v :: us)) (EP X pins σ Q) X.xe s
theorem a0J.one:∀ {x:V} {us:List Value},a0J [x] us→∃ u,us=[u]∧a0T x u
 | _,_,.cons r .nil=>⟨_,rfl,r⟩
theorem a0J.two:∀ {x y:V} {us:List Value},a0J [x,y] us→∃ u v,us=[u,v]∧a0T x u∧a0T y v
 | _,_,_,.cons r (.cons q .nil)=>⟨_,_,rfl,r,q⟩
theorem a0J.rep {xs:List V} {us:List Value} (h:a0J xs us):∀ k:Nat,a0J (List.replicate k xs).flatten (List.replicate k us).flatten
 | 0=>.nil
 | k+1=>by
  rw [List.replicate_succ,List.replicate_succ,List.flatten_cons,List.flatten_cons]
  exact a0J.append h (a0J.rep h k)
theorem a4x (its:List Value):∀ (k:Nat) (acc:List Value),
  List.foldl (fun x1 x2=>x1++x2) acc.toArray (List.replicate k its.toArray)=(acc++(List.replicate k its).flatten).toArray
 | 0,acc=>by simp
 | k+1,acc=>by
  have e:acc.toArray++its.toArray=(acc++its).toArray:=by simp
  have e2:(acc++its)++(List.replicate k its).flatten=acc++(List.replicate (k+1) its).flatten:=by
   rw [List.replicate_succ,List.flatten_cons,List.append_assoc]
  rw [←e2,←a4x its k (acc++its),←e,List.replicate_succ,List.foldl_cons]
section
variable {X:Cx} {pins:List (Addr × Obj)} {σ:St} {H:Hp} {s:Shared} {l b:Addr} {xs ys zs:List V}
theorem Inv.lset {its its':List Value} {n:Nat} {f:Array Value→Array Value} {t':Nat} (I:Inv X pins σ H s) (hH:H l=some (.lst xs))
  (e:s.heap.get? l=some { cls:=.type "list",data:=.seq its.toArray n }) (hf:f its.toArray=its'.toArray) (hv:a0J ys its') (hz:ys.length≤sizeLine) :
  Inv X pins σ (upd H l (.lst ys)) { s with heap:=s.heap.update l (Obj.mapSeq f),toks:=t' }:=by
 have q:=PySem.IsL.update e f
 rw [hf] at q
 refine I.write (x:=l) (e:=l) (by rw [hH];exact trivial) (.inl rfl) (fun b' u hb hu=>(Heap.get?_update_other s.heap (Obj.mapSeq f) (Ne.symm hb)).trans hu) ⟨_,q⟩ ?_
 exact ⟨hz,its',_,hv,q⟩
theorem Inv.lnew {its:List Value} {t':Nat} (I:Inv X pins σ H s) (hv:a0J ys its) (hz:ys.length≤sizeLine) :
  Inv X pins σ (upd H s.heap.objs.size (.lst ys)) { s with heap:=s.heap.push { cls:=.type "list",data:=.seq its.toArray },toks:=t' } :=
 I.laid (fun _ _ q=>Heap.get?_push_of_some _ q) (Nat.le_refl _) ⟨hz,its,0,hv,Heap.get?_push_size _ rfl⟩
theorem Inv.fresh (I:Inv X pins σ H s):H s.heap.objs.size=none:=I.hok.fresh (Nat.le_refl _)
theorem Inv.lstM (I:Inv X pins σ H s) (hH:H l=some (.lst xs)):xs.length≤sizeLine∧∃ (its:List Value) (n:Nat),a0J xs its∧xs.length=its.length∧s.heap.get? l=some { cls:=.type "list",data:=.seq its.toArray n }:=by
 obtain ⟨z,its,n,r,e⟩:=I.hok l _ hH
 exact ⟨z,its,n,r,r.length,e⟩
theorem a8X {n:Nat} (h:n≤sizeLine):Builtin.List.listTooLong n=false:=by
 unfold Builtin.List.listTooLong
 exact decide_eq_false (by omega)
end
section
variable {X:Cx}
def b0J:V→List V→Hp→VK→Prop:=fun x vs H Q=>∃ l xs y,x=.ref l∧vs=[y]∧H l=some (.lst xs)∧xs.length < sizeLine∧Q .non (upd H l (.lst (xs++[y])))
theorem a0W:MtM X "list.append" b0J:=by
 intro pins s σ H x vs v us Q I rx rv h
 obtain ⟨l,xs,y,rfl,rfl,hH,hz,q⟩:=h
 cases rx
 obtain ⟨u,rfl,ru⟩:=rv.one
 obtain ⟨z,its,n,r,hl,e⟩:=I.lstM hH
 refine call_meets F.slot_list_append ⟨_,e,rfl⟩ F.entry_list_append (F.args_list_append_2 _ _) (PySem.list_append l its.toArray n u (by rw [List.size_toArray];omega)) ⟨e,?_⟩
 refine ⟨.non,_,I.lset (its':=its++[u]) hH e (by simp) (r.append (.cons ru .nil)) ?_,rfl,q⟩
 rw [List.length_append,List.length_singleton]
 omega
def rCat:R2:=fun x y H Q=>∃ l b xs zs,x=.ref l∧y=.ref b∧H l=some (.lst xs)∧H b=some (.lst zs)∧xs.length+zs.length≤sizeLine∧∀ p,H p=none→Q (.ref p) (upd H p (.lst (xs++zs)))
theorem a9Y:OpR X (binaryOp .Add) rCat:=by
 intro pins s σ H x y v u Q I rx ry h
 obtain ⟨l,b,xs,zs,rfl,rfl,hH,hB,hz,q⟩:=h
 cases rx
 cases ry
 obtain ⟨z,its,n,r,hl,e⟩:=I.lstM hH
 obtain ⟨z2,its2,n2,r2,hl2,e2⟩:=I.lstM hB
 refine PySem.P.add_list e e2 ?_ (by rw [List.size_toArray,List.size_toArray];omega)
 have ea:its.toArray++its2.toArray=(its++its2).toArray:=by simp
 rw [ea]
 exact ⟨.ref _,_,I.lnew (t':=s.toks) (r.append r2) (by rw [List.length_append];omega),rfl,q _ I.fresh⟩
def rRep:R2:=fun x y H Q=>∃ l k xs,x=.ref l∧y=.int k∧H l=some (.lst xs)∧-(2 ^ 63)≤k∧k < 2 ^ 63∧xs.length * k.toNat≤sizeLine ∧
 ∀ p,H p=none→Q (.ref p) (upd H p (.lst (List.replicate k.toNat xs).flatten))
theorem b0K {α:Type} (xs:List α) (k:Nat):(List.replicate k xs).flatten.length=k * xs.length:=by
 induction k with
 | zero=>simp
 | succ k ih=>rw [List.replicate_succ,List.flatten_cons,List.length_append,ih,Nat.succ_mul,Nat.add_comm]
theorem op_rep:OpR X (binaryOp .Mult) rRep:=by
 intro pins s σ H x y v u Q I rx ry h
 obtain ⟨l,k,xs,rfl,rfl,hH,h1,h2,hz,q⟩:=h
 cases rx
 obtain ⟨t,rfl⟩:=ry
 obtain ⟨z,its,n,r,hl,e⟩:=I.lstM hH
 have hlen:its.toArray.size * k.toNat≤sizeLine:=by rw [List.size_toArray,←hl];exact hz
 have hcap:¬ its.toArray.size * k.toNat > (2 ^ 63 - 1) / 8:=by
  have:(sizeLine:Nat)≤(2 ^ 63 - 1) / 8:=by decide
  omega
 have hfit:¬ (!Builtin.List.listFitsIndex k)=true:=by
  rw [fitsIndex_both h1 h2]
  exact Bool.false_ne_true
 have hlong:¬ Builtin.List.listTooLong (its.toArray.size * k.toNat)=true:=by
  rw [a8X hlen]
  exact Bool.false_ne_true
 have hnew:List.foldl (fun x1 x2=>x1++x2) #[] (List.replicate (if its.toArray.isEmpty=true then 0 else k.toNat) its.toArray)=(List.replicate k.toNat its).flatten.toArray:=by
  have f0:∀ m:Nat,List.foldl (fun x1 x2=>x1++x2) #[] (List.replicate m its.toArray)=(List.replicate m its).flatten.toArray:=fun m=>by
   have:=a4x its m []
   rw [List.nil_append] at this
   exact this
  rw [f0]
  cases its with
  | nil=>simp
  | cons a r'=>rw [if_neg (by simp)]
 refine wpAny_binaryOp_repeat_ref (T:="list") (U:="int") (by decide) ⟨_,e,rfl⟩ (fun s'=>typeIs_int s' k t) noFill_list_mul F.fills_int_mul F.slot_int_rmul repeat_list F.slot_int_index.lookup
  (call_meets F.slot_int_rmul (typeIs_int s k t) F.entry_int_rmul (F.args_int_rmul_2 _ _) (int___rmul___int_list k t l its.toArray n)
   ⟨e,rfl,⟨_,e,rfl⟩,call_meets F.slot_list_mul ⟨_,e,rfl⟩ F.entry_list_mul (F.args_list_mul_2 _ _) (AutoListH.list___mul___list_int_3 l its.toArray n k t hfit hcap hlong) ⟨e,?_⟩⟩)
 rw [hnew]
 exact ⟨.ref _,_,I.lnew (t':=s.toks) (r.rep k.toNat) (by rw [b0K,Nat.mul_comm];exact hz),rfl,q _ I.fresh⟩
end
section
variable {prog:Program} {w:World} {A:Around} {E:Value→Shared→Prop} {s:Shared}
end
section
variable {X:Cx}
end
end L2
namespace Att
open PySem PySem.W PySem.Calls PyProof.Rows
theorem a2W {P:Params} {h:Heap}:∀ (ns:List Int) (vs:List Value),WellAll P h vs (ns.map WData.int)→IntsAre vs ns:=by
 intro ns
 induction ns with
 | nil =>
  intro vs w
  rw [List.map_nil] at w
  cases w
  exact .nil
 | cons n ns ih =>
  intro vs w
  rw [List.map_cons] at w
  cases w with
  | cons a b =>
   cases a
   exact .cons _ _ (ih _ b)
theorem a7C {l:OpenLaw} {n:Nat} (hn:l.most=some n) {P:Params} {h:Heap} {args:List WData} {vals:List Value}
  (hpre:l.row.toRowW.claim.pre args=true) (hwl:WellAll P h vals args) :
  ∃ a vs ns,vals=[Value.ref a]∧args=[WData.list (ns.map WData.int)]∧h.get? a=some { cls:=.type "list",data:=.seq vs.toArray }∧IntsAre vs ns∧ns.length≤n:=by
 have hsh:WShape.hasAll [] args [.list .int]=true:=(pre_splitW hpre).1
 have hc:l.pre.holds [] { args:=args }=true:=(pre_splitW hpre).2
 obtain ⟨d,r,rfl,h1,h2⟩:=hasAllW_cons hsh
 obtain rfl:=hasAllW_nil h2
 obtain ⟨xs,rfl,h3⟩:=hasW_list h1
 obtain ⟨ns,rfl⟩:=items_int h3
 have hlen:ns.length≤n:=by
  unfold OpenLaw.pre at hc
  have h4:(WTm.not (.lt (.lit (.int (n:Int))) (.len (.arg 0)))).holds [] { args:=[.list (ns.map .int)] }=true:=by
   have h4:=(holds_andW hc).1
   rw [hn] at h4
   exact h4
  have h5:=condW_of h4 (w_not (w_lt w_lit (w_len_list (w_arg rfl))))
  rw [List.length_map] at h5
  refine Nat.le_of_not_lt fun q=>?_
  have q':(n:Int) < ((ns.length:Nat):Int):=by omega
  first
   | (rw [decide_eq_true q'] at h5;exact absurd h5 (by decide))
   | (simp at h5;omega)
 cases hwl with
 | cons w1 w2 =>
  cases w2
  cases w1 with
  | list ho hall=>exact ⟨_,_,ns,rfl,rfl,ho,a2W ns _ hall,hlen⟩
theorem a7D (l:OpenLaw) (args:List WData):l.row.toRowW.claim.post args (.bool true) args=true :=
 postW_of (r:=l.row.toRowW) (X:=(true == true))
  (show WShape.has [] (.bool true) .bool=true by first | rfl | decide | simp [WShape.has,WShape.arms,WShape.armsAll])
  (show (WTm.eq .res (.lit (.bool true))).value [] { args:=args,res:=some (.bool true),after:=args }=some (.bool (true == true)) from w_eq_bool (w_res rfl) w_lit) rfl
theorem a5d {l:OpenLaw} {n:Nat} {q:Program} {loose:List Str} {XP:(Str→Option Value)→Heap→Prop} {YP:World→Heap→Prop} {d:DefRec}
  (hn:l.most=some n) (hdf:d.params.defaults=[])
  (call:∀ (w:World) (s₀ s₁:Shared) (mg mb:Str→Option Value) (fa:Addr) (o:Obj) (pm cd doc:Value) (a:Addr) (vs:List Value) (ns:List Int),
   Ground q loose [] XP w s₀ mg mb s₁.heap→YP w s₁.heap →
   s₁.heap.get? fa=some o→o.data=.func (docDef d.name d.params d.body d.scope pm cd doc)→s₁.heap.CodeRec cd d.name→mg d.name=some (.ref fa) →
   s₁.heap.get? a=some { cls:=.type "list",data:=.seq vs.toArray }→IntsAre vs ns→ns.length≤n→s₁.gens=#[] →
   codeAny (model l.prog w) callerA (.call (.ref fa) ⟨[.ref a],[]⟩) (fun r s'=>r=.ok (.ret (.bool true))∧OldK s₁.heap s'.heap∧s'.os=s₁.os∧AllBare s'.gens) s₁) :
  WalkO q loose XP YP l.row.toRowW d [] (fun f vs=>PySem.call f vs):=by
 intro w s₀ s₁ mg mb G Y fa o pm cd doc dV kV ho hd hcd hD hmg hg args vals as hpre hlay hrd hwl hlo
 obtain rfl:dV=.none:=Dflts.none hD hdf
 obtain rfl:kV=.none:=Dflts.noKw hD
 obtain ⟨a,vs,ns,rfl,rfl,hobj,hints,hlen⟩:=a7C hn hpre hwl
 refine enter_call (codeAny_mono (call w s₀ s₁ mg mb fa o pm cd doc a vs ns G Y ho (fd_plain hd) hcd hmg hobj hints hlen hg) fun r s' hq=>?_)
 obtain ⟨rfl,h2,h3,h4⟩:=hq
 exact ⟨.inl ⟨.bool true,.bool true,[],rfl,fun _=>rfl,.bool true,a7D l _,fun _=>⟨List.Pairwise.nil,fun _ hm=>(nomatch hm)⟩⟩,h2,h3,h4⟩
section
variable {prog:Program} {w:World} {A:Around} {E:Value→Shared→Prop} {s:Shared} {K:Frag}
def ledger (h:Heap) (L d:Addr):List (Addr × Obj):=(List.range h.objs.size).filterMap fun a=>if a=L∨a=d then none else (h.get? a).map fun o=>(a,o)
end
end Att
namespace L2
open PySem PySem.Spec PyProof.Rows
theorem a4y:∀ {vs:List Value} {ns:List Int},IntsAre vs ns→a0J (ns.map V.int) vs
 | _,_,.nil=>.nil
 | _,_,.cons n t h=>.cons ⟨t,rfl⟩ (a4y h)
def Only (H:Hp):Prop:=∀ b,H b=none∨∃ o xs,H b=some (.frz o (.lst xs))
abbrev KOf {K:PySem.W.Frag} {h:Heap} (_:K.In h):PySem.W.Frag:=K
def inClass (s:Stmt) (j:Nat):Stmt:=match s with
 | .ClassDef _ _ _ body _ _ _ _ _ _ _=>body.getD j (.Pass ⟨0,0,0,0⟩)
 | _=>.Pass ⟨0,0,0,0⟩
def a0t (s:Stmt):Arguments:=match s with
 | .FunctionDef _ a _ _ _ _ _ _ _ _=>a
 | _=>{ posonlyargs:=[],args:=[],vararg:=none,kwonlyargs:=[],kw_defaults:=[],kwarg:=none,defaults:=[] }
def a0p (s:Stmt):List Stmt:=match s with
 | .FunctionDef _ _ b _ _ _ _ _ _ _=>b
 | _=>[]
def a0c (s:Stmt):Scope:=match s with
 | .FunctionDef _ _ _ _ _ _ sc _ _ _=>sc
 | _=>{ kind:=.function,names:=[],isGenerator:=false,isCoroutine:=false }
abbrev CX0:CXT:=fun _ _ _ _ _ _=>False
abbrev E0:XK:=fun _ _ _=>False
theorem a0N {X:Cx}:a7v CX0 X E0:=fun _ _ _ _ _ _ _ h=>h.elim
structure Fun (K:PySem.W.Frag) (x qual:Str) (st:Stmt) (f:Addr) (fd:FuncData):Prop where
 ex:∃ (oc:Value) (od:Option Addr) (kV doc pm:Value) (an:Option Addr) (cdv ct:Value) (osl:Array (Option Value)),
  fd=PySem.W.fnOf x qual (a0t st) (a0p st) (a0c st) .none kV doc pm an cdv ct∧K.lookup f=some ⟨oc,od,.func fd,osl⟩∧PySem.W.codeIn K cdv qual=true
 kp:PySem.W.keepIn K (.ref f)=true
section
variable {P:Program} {w:World} {K:PySem.W.Frag} {mg:Str→Option Value} {base:Heap}
theorem Fun.ok {x qual:Str} {st:Stmt} {f:Addr} {fd:FuncData} {N ps:List Str} {k:Nat} {sp:Sp} (F:Fun K x qual st f fd) (S:a0w N ps (a0c st)) (len:∀ vs H Q E,sp vs H Q E→vs.length=ps.length)
  (hbody:∀ (cdv:Value) (A:Around) (outer:List Env) (s:Shared) (H:Hp) (vs:List V) (Q:VK) (E:XK),a2s k (A.deeper (envOfC qual (a0c st) s.heap.objs.size f cdv))→sp vs H Q E →
   ∃ t,PSs (a7x CX0 P w K mg base N qual (a0c st) f cdv A outer s H E).nox (a0p st) t∧t { nx:=fun _ H'=>Q .non H',rt:=Q } (start N vs) H):a1B P w K mg base CX0 (k+1) f fd ps sp:=by
 obtain ⟨oc,od,kV,doc,pm,an,cdv,ct,osl,rfl,lk,hcd⟩:=F.ex
 refine fn_of lk hcd S len fun A outer s H vs Q E hr hsp=>?_
 obtain ⟨t,h,q⟩:=hbody cdv A outer s H vs Q E hr hsp
 exact ⟨t,h.nox,q⟩
theorem Fun.binds {x qual:Str} {st:Stmt} {f:Addr} {fd:FuncData} {ps:List Str} (F:Fun K x qual st f fd)
  (h:∀ (kV doc pm:Value) (an:Option Addr) (cdv ct:Value) (us:List Value),us.length=ps.length→bindArgs (PySem.W.fnOf x qual (a0t st) (a0p st) (a0c st) .none kV doc pm an cdv ct) ⟨us,[]⟩=pure (ps.zip us)):a5b K fd ps []:=by
 obtain ⟨oc,od,kV,doc,pm,an,cdv,ct,osl,rfl,lk,hcd⟩:=F.ex
 exact .all (h kV doc pm an cdv ct)
theorem a0I {x qual:Str} {st:Stmt} {f:Addr} {oc:Value} {od an:Option Addr} {osl:Array (Option Value)} {kV doc pm cdv ct:Value} (l:K.lookup f=some ⟨oc,od,.func (PySem.W.fnOf x qual (a0t st) (a0p st) (a0c st) .none kV doc pm an cdv ct),osl⟩)
  (c:PySem.W.codeIn K cdv qual=true) (k:PySem.W.keepIn K (.ref f)=true):Fun K x qual st f (PySem.W.fnOf x qual (a0t st) (a0p st) (a0c st) .none kV doc pm an cdv ct):=⟨⟨oc,od,kV,doc,pm,an,cdv,ct,osl,rfl,l,c⟩,k⟩
end
theorem a0m {n:Nat} (h:n≤1000):n < sizeLine:=Nat.lt_of_le_of_lt h (by decide)
section
variable {X:Cx}
theorem pv (i:Nat) {x:Str} {pos:Pos} (hN:X.N[i]?=some x:=by rfl) (hv:Vis X.env.scope x:=by first | exact Or.inl rfl | exact Or.inr (Or.inl rfl) | exact Or.inr (Or.inr rfl)) (hd:(x == ("__debug__":Str))=false:=by decide)
  (hcd:(x == ("__classdict__":Str))=false:=by decide):PE X (.Name x pos) (tVar i):=pe_var hN hv hd hcd
end
theorem a3I {A B:Prop} (h:B):if false=true then A else B:=by
 rw [if_neg Bool.false_ne_true]
 exact h
theorem iteT {A B:Prop} (h:A):if true=true then A else B:=by
 rw [if_pos rfl]
 exact h
theorem a2v {c A B:Prop} [Decidable c] (h1:c→A) (h2:¬ c→B):if c then A else B:=by
 by_cases h:c
 ·rw [if_pos h]
  exact h1 h
 ·rw [if_neg h]
  exact h2 h
def a0v (H H':Hp):Prop:=∀ b o,H b=some o→H' b=some o
theorem a0v.refl (H:Hp):a0v H H:=fun _ _ h=>h
theorem a0v.trans {H H1 H2:Hp} (a:a0v H H1) (b:a0v H1 H2):a0v H H2:=fun c o h=>b c o (a c o h)
theorem a0v.free {H H':Hp} (e:a0v H H') {l:Addr} (h:H' l=Option.none):H l=Option.none:=by
 cases q:H l with
 | none=>rfl
 | some o =>
  rw [e l o q] at h
  cases h
theorem a0v.seq {K:PySem.W.Frag} {H H':Hp} {a:Addr} {xs:List V} (e:a0v H H') (h:SqL K H a xs):SqL K H' a xs:=by
 rcases h with (h | ⟨o,h⟩) | h
 ·exact .inl (.inl (e _ _ h))
 ·exact .inl (.inr ⟨o,e _ _ h⟩)
 ·exact .inr h
section
variable {prog:Program} {w:World} {A:Around} {R:Result→Shared→Prop} {s:Shared}
abbrev a7E (cs:List Expr) (en:Env):Sem Bool :=
 forIn cs true fun c r=>if r=true then do let ok ←isTrue c en (eval c en);pure (ForInStep.yield ok) else pure (ForInStep.yield r)
theorem a6y {elt tg iter:Expr} {cs:List Expr} {scope:Scope} {pos:Pos} {it acc:Value} {en:Env} {EE:Value→Shared→Prop} (hE:EE=notedBy (model prog w) A en fun e s'=>R (.error e) s') (J:Nat→Shared→Prop)
  (turn:∀ n s,J n s→wpAny (model prog w) A (pyNext it) (fun r s1=>match r with
   | none=>R (.ok .next) s1
   | some v=>wpAny (model prog w) A (letOwnedTupleGo tg it v) (fun _ sg=>wpAny (model prog w) A (assign tg en v) (fun _ s2=>wpAny (model prog w) A (a7E cs en) (fun ok s3 =>
     if ok=true then wpAny (model prog w) A (eval elt en) (fun y s4=>wpAny (model prog w) A (call (.builtin "list.append") [acc,y]) (fun _ s5=>∃ m,m < n∧J m s5) EE s4) EE s3
     else ∃ m,m < n∧J m s3) EE s2) EE sg) EE s1) EE s)
  (n:Nat) (h:J n s):codeAny (model prog w) A (.compLoop (.ListComp elt [⟨tg,iter,cs,0⟩] scope pos) 0 it acc en) R s:=by
 subst hE
 refine codeAny_loop rfl J (fun n s hJ=>?_) n h
 show wpAny _ A (Sem.onRaise (compTurn (.ListComp elt [⟨tg,iter,cs,0⟩] scope pos) 0 it acc en) (fun x=>do noteFrame x en;theTreesLotGoes x)) _ _ s
 refine wpAny_noted ?_
 rw [compTurn_list]
 refine wpAny_bind (wpAny_standAt (wpAny_bind (thn (turn n s hJ) fun r s1 q1=>?_)))
 cases r with
 | none=>exact wpAny_pure q1
 | some v =>
  refine wpAny_bind (thn q1 fun _ sg qg=>wpAny_bind (thn qg fun _ s2 q2=>wpAny_bind (thn q2 fun ok s3 q3=>?_)))
  cases ok with
  | false=>exact wpAny_pure ⟨rfl,q3⟩
  | true=>exact wpAny_bind (wpAny_bind (thn q3 fun y s4 q4=>wpAny_bind (thn q4 fun _ s5 q5=>wpAny_pure (wpAny_pure ⟨rfl,q5⟩))))
end
def PTs (X:Cx) (cs:List Expr) (t:TT):Prop :=
 ∀ (pins:List (Addr × Obj)) (s:Shared) (σ:St) (H:Hp) (Q:Bool→Hp→Prop),Inv X pins σ H s→t σ H Q→wpAny (model X.prog X.w) X.A (a7E cs X.env) (TP X pins σ Q) X.xe s
def a6z:TT:=fun _ H Q=>Q true H
theorem a0Q {X:Cx}:PTs X [] a6z:=fun _ _ _ H _ I h=>wpAny_tests_nil ⟨H,I,h⟩
theorem a7F {X:Cx} {c:Expr} {t:TT} (h:PT X c t):PTs X [c] t:=fun pins s σ H Q I q=>wpAny_tests_one (h pins s σ H Q I q)
theorem a1O {en:Env}:∀ (names:List (Str × NameKind)) (acc:List (Str × Addr)),(∀ y,(y,NameKind.free)∈names→∃ c,en.cells.lookup y=some c) →
  (∀ y c,acc.lookup y=some c→en.cells.lookup y=some c) →
  ∃ cl,(forIn (m:=Sem) names acc fun p cs=>if (p.2 == .free)=true then (do let a ←cellOf en p.1;pure (ForInStep.yield ((p.1,a) :: cs))) else pure (ForInStep.yield cs))=pure cl ∧
   (∀ y c,cl.lookup y=some c→en.cells.lookup y=some c)∧(∀ y,((y,NameKind.free)∈names∨∃ c,acc.lookup y=some c)→∃ c,cl.lookup y=some c)
 | [],acc,_,h2=>⟨acc,rfl,h2,fun y h=>h.elim (fun z=>by simp at z) id⟩
 | (n,k) :: r,acc,h1,h2=>by
  by_cases hk:k=.free
  ·subst hk
   obtain ⟨c,hc⟩:=h1 n (by simp)
   obtain ⟨cl,e,a,b⟩:=a1O r ((n,c) :: acc) (fun y hy=>h1 y (List.mem_cons_of_mem _ hy)) (fun y d hd=>by
    rw [List.lookup_cons] at hd
    by_cases hy:y=n
    ·subst hy;simp at hd;subst hd;exact hc
    ·have:(y == n)=false:=by simpa using hy
     rw [this] at hd;exact h2 y d hd)
   refine ⟨cl,?_,a,fun y hy=>b y ?_⟩
   ·rw [List.forIn_cons]
    have e1:cellOf en n=pure c:=by unfold cellOf;rw [hc]
    simp only [beq_self_eq_true,if_true,e1,pure_bind]
    exact e
   ·rcases hy with hy | ⟨d,hd⟩
    ·rcases List.mem_cons.mp hy with z | z
     ·cases z;exact .inr ⟨c,by simp⟩
     ·exact .inl z
    ·by_cases hy:y=n
     ·subst hy;exact .inr ⟨c,by simp⟩
     ·have:(y == n)=false:=by simpa using hy
      exact .inr ⟨d,by rw [List.lookup_cons,this];exact hd⟩
  ·have hb:(k == NameKind.free)=false:=by simpa using hk
   obtain ⟨cl,e,a,b⟩:=a1O r acc (fun y hy=>h1 y (List.mem_cons_of_mem _ hy)) h2
   refine ⟨cl,?_,a,fun y hy=>b y ?_⟩
   ·rw [List.forIn_cons]
    simp only [hb,Bool.false_eq_true,if_false,pure_bind]
    exact e
   ·rcases hy with hy | hy
    ·rcases List.mem_cons.mp hy with z | z
     ·cases z;exact absurd rfl hk
     ·exact .inl z
    ·exact .inr hy
theorem a6A {scope:Scope} {en:Env} (h1:∀ y,(y,NameKind.free)∈scope.names→∃ c,en.cells.lookup y=some c) :
  ∃ cl,closureFor scope en=pure cl∧(∀ y c,cl.lookup y=some c→en.cells.lookup y=some c)∧(∀ y,(y,NameKind.free)∈scope.names→∃ c,cl.lookup y=some c):=by
 obtain ⟨cl,e,a,b⟩:=a1O (en:=en) scope.names [] h1 (fun y c h=>by simp at h)
 refine ⟨cl,?_,a,fun y hy=>b y (.inl hy)⟩
 have q:=congrArg (fun t:Sem (List (Str × Addr))=>t >>= fun c=>pure c) e
 exact q
def xeC (X:Cx) (en:Env) (C:Addr):Value→Shared→Prop :=
 notedBy (model X.prog X.w) X.A en fun e s'=>compPost (model X.prog X.w) X.A X.xe none (fun _ _=>False) Value.none C (.error e) s'
def cxC (X:Cx) (scope:Scope) (cl:List (Str × Addr)) (C:Addr) (s0:Shared) (H0:Hp) (fp:List Addr) (N:List Str):Cx where
 prog:=X.prog
 w:=X.w
 K:=X.K
 mg:=X.mg
 base:=X.base
 A:=X.A
 N:=N
 s₀:=s0
 H₀:=H0
 env:=compEnvC scope cl C X.env
 outer:=X.stack
 stack:=X.stack
 ex:=fp
 fn:=fun _=>false
 calm:=X.calm
 pn:=[]
 xe:=xeC X (compEnvC scope cl C X.env) C
structure a0l (scope:Scope) (en:Env) (N M:List Str):Prop where
 kind:scope.kind=.function
 nocell:∀ y∈scope.names,y.2≠.cell
 locs:∀ y∈scope.names,y.2=.local→scope.names.lookup y.1=some .local
 free:∀ y,(y,NameKind.free)∈scope.names→en.kindOf y=some .cell∨en.kindOf y=some .free
 len:M.length=N.length
 same:∀ (j:Nat) (y:Str),M[j]?=some y→Vis (relabel scope en) y→N[j]?=some y∧(y,NameKind.free)∈scope.names∧(relabel scope en).names.lookup y≠some .local
 relab:∀ y,((relabel scope en).names.lookup y=some .cell∨(relabel scope en).names.lookup y=some .free)→(y,NameKind.free)∈scope.names
def a6B (k:Nat) (wi:TI) (g:TG) (tc:TT) (te:TE):TE:=fun σ H Q=>wi σ H fun J H1=>∀ d,H1 d=none→∃ W:Nat→Nat→Hp→Prop,(∃ m,W 0 m (upd H1 d (.lst [])))∧∀ i m H,W i m H →
 (J.stop i H∧Q (.ref d) H)∨(J.go i H∧∃ N:Hp→Prop,(∀ H',N H'→∃ m',m' < m∧W (i+1) m' H')∧∀ x H',J.yld i H x H'→g x (List.replicate k none++σ) H' fun σ2 H2 =>
  tc σ2 H2 fun b H3=>if b=true then te σ2 H3 fun y H4=>∃ ys,H4 d=some (.lst ys)∧ys.length < sizeLine∧N (upd H4 d (.lst (ys++[y]))) else N H3)
structure Gone (X:Cx) (pins:List (Addr × Obj)) (H:Hp) (C:Addr):Prop where
 no:H C=none
 ne:C≠X.env.locals
 yg:X.s₀.heap.objs.size≤C
 cl:∀ x c,X.env.cells.lookup x=some c→c≠C
 pn:∀ p∈X.pn++pins,p.1≠C
theorem Inv.gone {X:Cx} {pins:List (Addr × Obj)} {σ:St} {H:Hp} {s:Shared} {C:Addr} {h':Heap} (I:Inv X pins σ H s) (g:Gone X pins H C) (hs:Heap.SameBut C s.heap h'):Inv X pins σ H { s with heap:=h' } :=
 I.turned (t':=s.toks) (it:=C) (fun b o hb e=>hs.extBut b o hb e) g.no g.ne (.inr g.yg) g.cl g.pn
structure b1T (X Y:Cx) (pins:List (Addr × Obj)) (σ:St) (fp:List Addr) (C:Addr) (s3:Shared) (H3:Hp):Prop where
 i0:Inv X pins σ H3 s3
 fp:∀ b∈fp,(b∈X.ex∨X.s₀.heap.objs.size≤b)∧b≠X.env.locals∧(∀ x c,X.env.cells.lookup x=some c→c≠b)∧∀ p∈X.pn++pins,p.1≠b
 inv:∀ (pins':List (Addr × Obj)) (σ':St) (H':Hp) (s':Shared),Inv Y pins' σ' H' s'→Inv X pins σ H' s'∧Gone X pins H' C
theorem a3J {X:Cx} {elt tg iter:Expr} {cs:List Expr} {scope:Scope} {pos:Pos} {wi:TI} {g:TG} {tc:TT} {te:TE} {xs M:List Str} {use:Option (Value→Sem Unit)} {RR:Value→Shared→Prop} (hc:X.calm=true) (S:a0l scope X.env X.N M) (hi:PI X tg iter wi)
  (hin:∀ (cl:List (Str × Addr)) (C:Addr) (s0:Shared) (H0:Hp) (fp:List Addr) (pins:List (Addr × Obj)) (σ:St),b1T X (cxC X scope cl C s0 H0 fp (xs++M)) pins σ fp C s0 H0→PG (cxC X scope cl C s0 H0 fp (xs++M)) tg g∧PTs (cxC X scope cl C s0 H0 fp (xs++M)) cs tc∧PE (cxC X scope cl C s0 H0 fp (xs++M)) elt te)
  (hg:∀ v σ H Q,g v (List.replicate xs.length none++σ) H Q→g v (List.replicate xs.length none++σ) H fun σ2 H2=>(∃ l:St,l.length=xs.length∧σ2=l++σ)∧Q σ2 H2)
  (hs:∀ x,foldedSetIterable iter X.env x=pure x) (pins:List (Addr × Obj)) (s:Shared) (σ:St) (H:Hp) (Q:VK) (I:Inv X pins σ H s) (h:a6B xs.length wi g tc te σ H Q)
  (fin:∀ (d C:Addr) (s6:Shared) (H6:Hp) (m:Str→Option Value),Q (.ref d) H6→Inv X pins σ H6 s6→s6.heap.Ns C m→Gone X pins H6 C→compPost (model X.prog X.w) X.A X.xe use RR (.ref d) C (.ok .next) s6) :
  wpAny (model X.prog X.w) X.A (comprehension (.ListComp elt [⟨tg,iter,cs,0⟩] scope pos) scope X.env (firstIterPos [⟨tg,iter,cs,0⟩] pos) (newList []) false (eval iter X.env) use) RR X.xe s:=by
 obtain ⟨cl,hcl,cl1,cl2⟩:=a6A (scope:=scope) (en:=X.env) fun y hy=>I.ok.has y (S.free y hy)
 refine wpAny_comprehension_free (use:=use) rfl hs hcl S.kind S.locs (thn (hi pins s σ H _ I h) fun v s1 h1=>thn h1 fun itv s2 h2=>?_)
 obtain ⟨it,fp,tn,J,H2,e,I2,T,st2,f2,h3⟩:=h2
 subst e
 have hf:H2 s2.heap.objs.size=none:=I2.fresh
 obtain ⟨W,⟨m0,w0⟩,turn⟩:=h3 _ hf
 refine wpAny_newObj_type (wpAny_newFunctionEnv S.nocell (by intro y hy;simp at hy) (fun h4 hns hsb=>?_) S.kind)
 have I3:Inv X pins σ (upd H2 s2.heap.objs.size (.lst [])) { s2 with heap:=s2.heap.push { cls:=.type "list",data:=.seq ([]:List Value).toArray } }:=I2.lnew (ys:=[]) (its:=[]) (t':=s2.toks) .nil (Nat.zero_le _)
 generalize hs3:({ s2 with heap:=s2.heap.push { cls:=.type "list",data:=.seq ([]:List Value).toArray } }:Shared)=s3 at I3
 generalize hH3:upd H2 s2.heap.objs.size (.lst [])=H3 at I3 w0
 have e3:s2.heap.push { cls:=.type "list",dict:=none,data:=.seq ([]:List Value).toArray }=s3.heap:=by rw [←hs3]
 dsimp only at hns hsb ⊢
 rw [e3] at hns hsb
 have old:∀ b o,s3.heap.get? b=some o→h4.get? b=some o:=fun b o e=>hsb.extBut b o (Nat.ne_of_lt (Heap.lt_size e)) (Heap.get?_push_of_some _ e)
 have keep2:∀ b o,s2.heap.get? b=some o→s3.heap.get? b=some o:=fun b o e=>by rw [←e3];exact Heap.get?_push_of_some _ e
 have lt3:∀ b∈fp,b < s3.heap.objs.size:=fun b hb=>by
  obtain ⟨o,e,_⟩:=T.obj _ _ st2 b hb
  exact Heap.lt_size (keep2 b o e)
 have n3:∀ b∈fp,H3 b=none:=fun b hb=>by
  obtain ⟨o,e,_⟩:=T.obj _ _ st2 b hb
  rw [←hH3,a0n (Nat.ne_of_lt (Heap.lt_size e))]
  exact (f2 b hb).1
 have st4:tn 0 h4:=T.keep _ _ _ st2 fun b _ o e=>old b o (keep2 b o e)
 let Y:Cx:=cxC X scope cl s3.heap.objs.size s3 H3 fp (xs++M)
 have relab:∀ y,((relabel scope X.env).names.lookup y=some .cell∨(relabel scope X.env).names.lookup y=some .free)→∃ c,cl.lookup y=some c:=fun y hy=>cl2 y (S.relab y hy)
 have Yok:Y.Ok:=by
  refine ⟨I3.ok.mod,S.kind,I3.ok.glob,I3.ok.blt,Nat.le_refl _,fun y z c h1 h2=>I3.ok.inj y z c (cl1 y c h1) (cl1 z c h2),fun y hy=>relab y hy,fun _ _ h _=>absurd (show false=true from h) (by decide),I3.ok.hd,I3.ok.frames,.inl rfl,
   fun b hb=>⟨Nat.ne_of_lt (lt3 b hb),fun y c e=>(f2 b hb).2.2.2.2.1 y c (cl1 y c e)⟩,I3.bs,Nat.le_trans I3.ok.bsz I3.sz,fun b o e hb=>?_,fun b hb z=>?_,I3.stack,I3.stkFree⟩
  ·rcases (f2 b hb).2.2.2.1 with z | z
   ·exact I3.ok.noex b o e z
   ·exact absurd (Nat.lt_of_lt_of_le (Heap.lt_size e) (Nat.le_trans I3.ok.bsz z)) (Nat.lt_irrefl _)
  ·rcases List.mem_cons.mp (I3.stkSub b z) with z | z
   ·exact (f2 b hb).2.1 z
   ·exact (f2 b hb).2.2.1 z
 have cells4:∀ y c,cl.lookup y=some c→∀ v,s3.heap.IsCell c v→h4.IsCell c v:=fun y c _ v ⟨o,ho,hd⟩=>⟨o,old c o ho,hd⟩
 have IY:∀ t',Inv Y [] (List.replicate xs.length none++σ) H3 { s3 with heap:=h4,toks:=t' }:=fun t'=>by
  refine ⟨Yok,rfl,I3.bare,Un.kept old,⟨_,hns,fun i y v e1 e2 e3=>?_⟩,fun y c e=>?_,I3.hok.fresh (Nat.le_refl _),fun y c e=>I3.freeC y c (cl1 y c e),fun p hp=>absurd (show p∈([]:List (Addr × Obj)) from hp) (by simp),I3.hok.kept old,?_⟩
  ·by_cases hi:i < xs.length
   ·rw [List.getElem?_append_left (by simpa using hi),List.getElem?_replicate] at e2
    split at e2 <;> cases e2
   ·obtain ⟨j,rfl⟩:∃ j,i=xs.length+j:=⟨i - xs.length,by omega⟩
    have e1':M[j]?=some y:=by
     have q:(xs++M)[xs.length+j]?=some y:=e1
     rw [List.getElem?_append_right (Nat.le_add_right _ _)] at q
     simpa using q
    have e2':σ[j]?=some (some v):=by
     rw [List.getElem?_append_right (by simp)] at e2
     simpa using e2
    obtain ⟨a1,a2,a3⟩:=S.same j y e1' e3
    have vis:Vis X.env.scope y:=by
     rcases S.free y a2 with z | z
     ·exact .inr (.inl z)
     ·exact .inr (.inr z)
    obtain ⟨m,_,hl⟩:=I3.loc
    obtain ⟨u,r,l⟩:=hl j y v a1 e2' vis
    refine ⟨u,r,?_⟩
    have kk:Y.env.kindOf y=some .cell∨Y.env.kindOf y=some .free:=by
     rcases e3 with z | z | z
     ·exact absurd z a3
     ·exact .inl z
     ·exact .inr z
    rcases l with ⟨k1,_⟩ | ⟨_,c,ec,ic⟩
    ·rcases S.free y a2 with z | z
     ·rw [z] at k1;cases k1
     ·rw [z] at k1;cases k1
    ·obtain ⟨c',ec'⟩:=cl2 y a2
     have:=cl1 y c' ec'
     rw [ec] at this
     cases this
     exact .inr ⟨kk,c,ec',cells4 y c ec' _ ic⟩
  ·obtain ⟨v,z⟩:=I3.cell y c (cl1 y c e)
   exact ⟨v,cells4 y c e v z⟩
  ·show (List.replicate xs.length none++σ).length=(xs++M).length
   rw [List.length_append,List.length_append,List.length_replicate,S.len,I3.len]
 have stat:∀ {pl:List (Addr × Obj)} {H':Hp},(∀ p∈pl,p.1∉fp)→(∀ b∈fp,H' b=none)→∀ b∈fp,a4n Y pl H' b:=fun hp hn b hb =>
  ⟨hn b hb,Nat.ne_of_lt (lt3 b hb),Yok.exfs b hb,.inl hb,fun y c e=>(f2 b hb).2.2.2.2.1 y c (cl1 y c e),fun p hp' z=>hp p (by simpa [Y,cxC] using hp') (z▸hb)⟩
 have bk:b1T X Y pins σ fp s3.heap.objs.size s3 H3:=by
  refine ⟨I3,fun b hb=>⟨(f2 b hb).2.2.2.1,(f2 b hb).2.1,(f2 b hb).2.2.2.2.1,(f2 b hb).2.2.2.2.2⟩,fun pins' σ' H' s' J=>⟨?_,?_⟩⟩
  ·exact I3.call' (ch:=fp) J.os J.base J.hok J.bare fun b hb=>⟨(f2 b hb).2.2.2.1,(f2 b hb).2.1,(f2 b hb).2.2.2.2.1,(f2 b hb).2.2.2.2.2⟩
  ·refine ⟨J.free,Nat.ne_of_gt I3.lt,I3.sz,fun y c e z=>?_,fun p hp z=>?_⟩
   ·obtain ⟨v,q⟩:=I3.cell y c e
    have:=q.lt
    rw [z] at this
    exact Nat.lt_irrefl _ this
   ·have:=Heap.lt_size (I3.pin p hp).1
    rw [z] at this
    exact Nat.lt_irrefl _ this
 obtain ⟨hG,hT,hE⟩:=hin cl s3.heap.objs.size s3 H3 fp pins σ bk
 have loop:∀ t',codeAny (model X.prog X.w) X.A (.compLoop (.ListComp elt [⟨tg,iter,cs,0⟩] scope pos) 0 (.ref it) (.ref s2.heap.objs.size) Y.env) (compPost (model X.prog X.w) X.A X.xe use RR (.ref s2.heap.objs.size) s3.heap.objs.size) { s3 with heap:=h4,toks:=t' }:=by
  intro t'
  refine a6y (EE:=Y.xe) (by cases use <;> rfl) (fun n s'=>∃ i H',Inv Y [] (List.replicate xs.length none++σ) H' s'∧tn i s'.heap∧(∀ b∈fp,H' b=none)∧W i n H') ?_ m0 ⟨0,H3,IY t',st4,n3,w0⟩
  rintro n s5 ⟨i,H5,I5,st5,fr5,w5⟩
  rcases turn i n H5 w5 with ⟨stop,qn⟩ | ⟨go,N,hN,step⟩
  ·refine thn (T.done Y rfl rfl rfl hc i [] s5 (List.replicate xs.length none++σ) H5 _ I5 (stat (by simp) fr5) st5 stop) fun r s6 ⟨hr,I6⟩=>?_
   subst hr
   obtain ⟨m6,hn6,_⟩:=I6.loc
   have I8:Inv X pins σ H5 s6:=I3.call' (ch:=fp) I6.os I6.base I6.hok I6.bare fun b hb=>⟨(f2 b hb).2.2.2.1,(f2 b hb).2.1,(f2 b hb).2.2.2.2.1,(f2 b hb).2.2.2.2.2⟩
   have lt8:X.env.locals < s3.heap.objs.size:=I3.lt
   refine fin _ _ s6 H5 m6 qn I8 hn6 ⟨I6.free,Nat.ne_of_gt lt8,I3.sz,fun y c e z=>?_,fun p hp z=>?_⟩
   ·obtain ⟨v,q⟩:=I3.cell y c e
    have:=q.lt
    rw [z] at this
    exact Nat.lt_irrefl _ this
   ·have:=Heap.lt_size (I3.pin p hp).1
    rw [z] at this
    exact Nat.lt_irrefl _ this
  ·refine thn (T.item Y rfl rfl rfl hc i [] s5 (List.replicate xs.length none++σ) H5 _ I5 (stat (by simp) fr5) st5 go) fun r s6 ⟨u,hr,h6⟩=>?_
   subst hr
   refine thn h6 fun _ s7 ⟨x7,H7,I7,r7,y7,st7,fr7⟩=>?_
   have I7':=I7.pinned (stat (by simp) fr7) (T.obj _ _ st7)
   have again:∀ {σ8:St} {H8:Hp} {s8:Shared},(∃ l:St,l.length=xs.length∧σ8=l++σ)→Inv Y ([]++a4p fp s7.heap) σ8 H8 s8→N H8→∃ m,m < n∧∃ i H',Inv Y [] (List.replicate xs.length none++σ) H' s8∧tn i s8.heap∧(∀ b∈fp,H' b=none)∧W i m H':=fun {σ8 H8 s8} l8 I8 n8=>by
    obtain ⟨m',hm,w8⟩:=hN H8 n8
    obtain ⟨l,ll,rfl⟩:=l8
    have pin8:∀ b∈fp,∀ o,s7.heap.get? b=some o→s8.heap.get? b=some o∧H8 b=none:=fun b hb o e=>by
     have z:=I8.pin (b,o) (List.mem_append_right _ (List.mem_append_right _ (a1k hb e)))
     exact ⟨z.1,z.2.1⟩
    refine ⟨m',hm,i+1,H8,I8.unpinned.weak (by simp [ll]) (fun j v e=>?_),T.keep _ _ _ st7 fun b hb o e=>(pin8 b hb o e).1,fun b hb=>?_,w8⟩
    ·by_cases hj:j < xs.length
     ·rw [List.getElem?_append_left (by simpa using hj),List.getElem?_replicate] at e
      split at e <;> cases e
     ·rw [List.getElem?_append_right (by simpa using hj)] at e
      rw [List.getElem?_append_right (by omega),ll]
      simpa using e
    ·obtain ⟨o,e,_⟩:=T.obj _ _ st7 b hb
     exact (pin8 b hb o e).2
   refine thn (hG _ s7 (List.replicate xs.length none++σ) H7 x7 u _ I7' r7 (hg _ _ _ _ (step x7 H7 y7))) fun _ s8 ⟨σ8,H8,I8,l8,q8⟩=>?_
   refine thn (hT _ s8 σ8 H8 _ I8 q8) fun ok s9 ⟨H9,I9,q9⟩=>?_
   cases ok with
   | false=>exact again l8 I9 q9
   | true =>
    refine thn (hE _ s9 σ8 H9 _ I9 q9) fun y s10 ⟨y10,H10,I10,r10,ys,hd,hl,n10⟩=>?_
    refine thn (a0W _ s10 σ8 H10 (.ref s2.heap.objs.size) [y10] (.ref s2.heap.objs.size) [y] (fun _ H'=>N H') I10 rfl (.cons r10 .nil) ⟨_,ys,y10,rfl,rfl,hd,hl,n10⟩) fun _ s11 ⟨_,H11,I11,_,n11⟩=>?_
    exact again l8 I11 n11
 refine codeAny_compStart_list (loop _) (T.self _ 0 _ _ _ st4 (loop _))
theorem b0L {X:Cx} {elt tg iter:Expr} {cs:List Expr} {scope:Scope} {pos:Pos} {wi:TI} {g:TG} {tc:TT} {te:TE} {xs M:List Str} (hc:X.calm=true) (S:a0l scope X.env X.N M) (hi:PI X tg iter wi)
  (hin:∀ (cl:List (Str × Addr)) (C:Addr) (s0:Shared) (H0:Hp) (fp:List Addr),PG (cxC X scope cl C s0 H0 fp (xs++M)) tg g∧PTs (cxC X scope cl C s0 H0 fp (xs++M)) cs tc∧PE (cxC X scope cl C s0 H0 fp (xs++M)) elt te)
  (hg:∀ v σ H Q,g v (List.replicate xs.length none++σ) H Q→g v (List.replicate xs.length none++σ) H fun σ2 H2=>(∃ l:St,l.length=xs.length∧σ2=l++σ)∧Q σ2 H2)
  (hs:∀ x,foldedSetIterable iter X.env x=pure x:=by intro _;rfl):PE X (.ListComp elt [⟨tg,iter,cs,0⟩] scope pos) (a6B xs.length wi g tc te):=by
 intro pins s σ H Q I h
 rw [eval_ListComp]
 exact a3J (use:=none) hc S hi (fun cl C s0 H0 fp _ _ _=>hin cl C s0 H0 fp) hg hs pins s σ H Q I h fun d C s6 H6 m q I6 hn gn=>⟨m,hn,fun h' hs'=>⟨.ref d,H6,I6.gone gn hs',rfl,q⟩⟩
theorem b0M {X:Cx} {elt tg iter:Expr} {cs:List Expr} {scope:Scope} {pos pos' spos:Pos} {wi:TI} {g:TG} {tc:TT} {te:TE} {xs M:List Str} {i:Nat} {x:Str} (hc:X.calm=true) (S:a0l scope X.env X.N M) (hi:PI X tg iter wi)
  (hin:∀ (cl:List (Str × Addr)) (C:Addr) (s0:Shared) (H0:Hp) (fp:List Addr),PG (cxC X scope cl C s0 H0 fp (xs++M)) tg g∧PTs (cxC X scope cl C s0 H0 fp (xs++M)) cs tc∧PE (cxC X scope cl C s0 H0 fp (xs++M)) elt te)
  (hg:∀ v σ H Q,g v (List.replicate xs.length none++σ) H Q→g v (List.replicate xs.length none++σ) H fun σ2 H2=>(∃ l:St,l.length=xs.length∧σ2=l++σ)∧Q σ2 H2)
  (hN:X.N.Nodup) (hix:X.N[i]?=some x) (hx:X.env.scope.names.lookup x=some .local) (hw:swapsWith (.ListComp elt [⟨tg,iter,cs,0⟩] scope pos) (some (.Name x pos')) spos.line X.env=pure true)
  (hs:∀ x,foldedSetIterable iter X.env x=pure x:=by intro _;rfl):PS X (.Assign [.Name x pos'] (.ListComp elt [⟨tg,iter,cs,0⟩] scope pos) spos) (tAsg (a6B xs.length wi g tc te) (a2d i)):=by
 intro pins s σ H D I h
 rw [exec_Assign_Name_used _ _ _ _ hw]
 refine wpAny_bind (wpAny_standAt (wpAny_bind ?_))
 show wpAny _ X.A (comprehension (.ListComp elt [⟨tg,iter,cs,0⟩] scope pos) scope X.env _ (newList []) false (eval iter X.env) (some (assign (.Name x pos') X.env)) >>= fun _=>pure ()) _ _ s
 refine wpAny_bind (thn (a3J (use:=some (assign (.Name x pos') X.env)) (RR:=fun _ s'=>SP X pins D .next s') hc S hi (fun cl C s0 H0 fp _ _ _=>hin cl C s0 H0 fp) hg hs pins s σ H _ I h fun d C s6 H6 m q I6 hn gn=>?_) fun _ s' hq=>wpAny_pure (wpAny_pure hq))
 show wpAny _ X.A (assign (.Name x pos') X.env (.ref d)) _ _ s6
 refine wpAny_assign_Name (a4l I6 hN hix (.inl hx) (v:=.ref d) rfl (fun s7 I7 ch=>?_) (.inr hx))
 obtain ⟨a,hsb,ha⟩:=ch
 have ne:C≠a:=by
  rcases ha with z | z
  ·rw [z];exact gn.ne
  ·exact fun z'=>gn.cl x a z z'.symm
 exact ⟨m,hn.sameBut hsb ne,fun h' hs'=>⟨_,H6,I7.gone gn hs',q⟩⟩
theorem a3K {X:Cx} {elt tg iter:Expr} {cs:List Expr} {scope:Scope} {pos:Pos} {wi:TI} {g:TG} {tc:TT} {te:TE} {xs M:List Str} (hc:X.calm=true) (S:a0l scope X.env X.N M) (hi:PI X tg iter wi)
  (hin:∀ (cl:List (Str × Addr)) (C:Addr) (s0:Shared) (H0:Hp) (fp:List Addr) (pins:List (Addr × Obj)) (σ:St),b1T X (cxC X scope cl C s0 H0 fp (xs++M)) pins σ fp C s0 H0→PG (cxC X scope cl C s0 H0 fp (xs++M)) tg g∧PTs (cxC X scope cl C s0 H0 fp (xs++M)) cs tc∧PE (cxC X scope cl C s0 H0 fp (xs++M)) elt te)
  (hg:∀ v σ H Q,g v (List.replicate xs.length none++σ) H Q→g v (List.replicate xs.length none++σ) H fun σ2 H2=>(∃ l:St,l.length=xs.length∧σ2=l++σ)∧Q σ2 H2)
  (hs:∀ x,foldedSetIterable iter X.env x=pure x:=by intro _;rfl):PE X (.ListComp elt [⟨tg,iter,cs,0⟩] scope pos) (a6B xs.length wi g tc te):=by
 intro pins s σ H Q I h
 rw [eval_ListComp]
 exact a3J (use:=none) hc S hi hin hg hs pins s σ H Q I h fun d C s6 H6 m q I6 hn gn=>⟨m,hn,fun h' hs'=>⟨.ref d,H6,I6.gone gn hs',rfl,q⟩⟩
structure EqK {α:Type} [DecidableEq α] (H:Hp) (s:Shared) (n:Nat) (R:V→α→Prop):Prop where
 inj:∀ x a b,R x a→R x b→a=b
 eq:∀ (A:Around) (x y:V) (a b:α) (u v:Value),A.units+n < cLine→R x a→R y b→a0T x u→a0T y v→SeqAt.EqAt A s u v (decide (a=b))
def a4Y (x:V) (i:Int):Prop:=x=.int i
def a7G {α:Type} (H:Hp) (R:V→α→Prop) (x:V) (ds:List α):Prop:=∃ a xs,x=.ref a∧H a=some (.tup xs)∧Paired R xs ds
theorem a9Z {α:Type} [DecidableEq α]:∀ (as bs:List α) (e:Nat→Bool),(∀ j x y,as[j]?=some x→bs[j]?=some y→e j=decide (x=y)) →
  ((List.range (min as.length bs.length)).all e && as.length == bs.length)=decide (as=bs):=by
 intro as bs e h
 rw [Bool.eq_iff_iff]
 simp only [Bool.and_eq_true,List.all_eq_true,List.mem_range,beq_iff_eq,decide_eq_true_eq]
 constructor
 ·rintro ⟨h1,h2⟩
  refine List.ext_getElem? fun j=>?_
  by_cases hj:j < as.length
  ·have e1:as[j]?=some as[j]:=List.getElem?_eq_getElem hj
   have e2:bs[j]?=some (bs[j]'(by omega)):=List.getElem?_eq_getElem (by omega)
   have q:=h1 j (by omega)
   rw [h j _ _ e1 e2] at q
   rw [e1,e2,of_decide_eq_true q]
  ·rw [List.getElem?_eq_none (by omega),List.getElem?_eq_none (by omega)]
 ·rintro rfl
  refine ⟨fun j hj=>?_,rfl⟩
  have hj:j < as.length:=by omega
  have e1:as[j]?=some as[j]:=List.getElem?_eq_getElem hj
  rw [h j _ _ e1 e1]
  simp
theorem Paired.right_of {α β:Type} {R:α→β→Prop}:∀ {xs:List α} {ds:List β},Paired R xs ds→∀ (j:Nat) (x:α),xs[j]?=some x→∃ d,ds[j]?=some d∧R x d
 | _,_,.nil,j,x,e=>by simp at e
 | _,_,.cons r t,0,x,e=>by simp at e;subst e;exact ⟨_,rfl,r⟩
 | _,_,.cons r t,j+1,x,e=>by
  obtain ⟨d,e1,e2⟩:=Paired.right_of t j x (by simpa using e)
  exact ⟨d,by simpa using e1,e2⟩
theorem Paired.inj {α β:Type} {R:α→β→Prop} (h:∀ x a b,R x a→R x b→a=b):∀ {xs:List α} {ds es:List β},Paired R xs ds→Paired R xs es→ds=es
 | _,_,_,.nil,.nil=>rfl
 | _,_,_,.cons r t,.cons r' t'=>by rw [h _ _ _ r r',Paired.inj h t t']
theorem Paired.ints:∀ ns:List Int,Paired a4Y (ns.map V.int) ns
 | []=>.nil
 | n :: ns=>.cons rfl (Paired.ints ns)
theorem Paired.ofInts:∀ {xs:List V} {ns:List Int},Paired a4Y xs ns→xs=ns.map V.int
 | _,_,.nil=>rfl
 | _,_,.cons r t=>by rw [show _=_ from r,Paired.ofInts t];rfl
theorem a1n {H:Hp} {a:Addr} {ns:List Int} (h:H a=some (.tup (ns.map V.int))):a7G H a4Y (.ref a) ns:=⟨a,_,rfl,h,Paired.ints ns⟩
section
variable {α:Type} [DecidableEq α] {P:Program} {w:World} {H:Hp} {s:Shared} {n:Nat} {R:V→α→Prop} {A:Around}
theorem EqK.int:EqK H s n a4Y:=⟨fun x a b h1 h2=>by unfold a4Y at *;rw [h1] at h2;cases h2;rfl,fun A x y a b u v _ h1 h2 r1 r2=>by
 unfold a4Y at *
 subst h1 h2
 obtain ⟨t,rfl⟩:=r1
 obtain ⟨t',rfl⟩:=r2
 have q:=SeqAt.EqAt.int_int (A:=A) (s:=s) a t b t'
 rw [Bool.beq_eq_decide_eq] at q
 exact q⟩
theorem a3L (K:EqK H s n R) {xs ys:List V} {ds es:List α} {its its2:List Value} (p1:Paired R xs ds) (p2:Paired R ys es) (v1:a0J xs its) (v2:a0J ys its2) (hA:A.units+n < cLine) :
  ∃ e:Nat→Bool,(∀ j (h1:j < its.toArray.size) (h2:j < its2.toArray.size),SeqAt.EqAt A s its.toArray[j] its2.toArray[j] (e j))∧((List.range (min its.toArray.size its2.toArray.size)).all e && its.toArray.size == its2.toArray.size)=decide (ds=es):=by
 have l1:its.toArray.size=ds.length:=by rw [List.size_toArray,←v1.length];exact p1.length
 have l2:its2.toArray.size=es.length:=by rw [List.size_toArray,←v2.length];exact p2.length
 refine ⟨fun j=>match ds[j]?,es[j]? with | some d,some e=>decide (d=e) | _,_=>true,fun j h1 h2=>?_,?_⟩
 ·have hx:xs[j]?=some (xs[j]'(by rw [v1.length];simpa using h1)):=List.getElem?_eq_getElem _
  have hy:ys[j]?=some (ys[j]'(by rw [v2.length];simpa using h2)):=List.getElem?_eq_getElem _
  obtain ⟨d,e1,r1⟩:=Paired.right_of p1 j _ hx
  obtain ⟨e,e2,r2⟩:=Paired.right_of p2 j _ hy
  obtain ⟨u,e3,r3⟩:=v1.get hx
  obtain ⟨v,e4,r4⟩:=v2.get hy
  have q3:its.toArray[j]=u:=by
   have:=(List.getElem?_eq_some_iff.mp e3).2
   simpa using this
  have q4:its2.toArray[j]=v:=by
   have:=(List.getElem?_eq_some_iff.mp e4).2
   simpa using this
  simp only [e1,e2,q3,q4]
  exact K.eq A _ _ d e u v hA r1 r2 r3 r4
 ·rw [l1,l2]
  exact a9Z ds es _ fun j x y h1 h2=>by simp only [h1,h2]
theorem a7H (K:EqK H s n R) (ok:HOk P w H s.heap) {a b:Addr} {xs ys:List V} {ds es:List α} (ha:H a=some (.tup xs)) (hb:H b=some (.tup ys)) (p1:Paired R xs ds) (p2:Paired R ys es) (hA:A.units+(n+1) < cLine) :
  SeqAt.RcAt A s (.ref a) (.ref b) (decide (ds=es)):=by
 obtain ⟨_,its,v1,t1⟩:=ok a _ ha
 obtain ⟨_,its2,v2,t2⟩:=ok b _ hb
 obtain ⟨e,h1,h2⟩:=a3L (A:=A.in1) K p1 p2 v1 v2 (by show A.units+1+n < cLine;omega)
 rw [←h2]
 exact SeqAt.RcAt.tuples t1 t2 (by omega) h1
theorem a1s {h:Heap} {a:Addr} {its:List Value} {k:Nat} (e:h.get? a=some { cls:=.type "list",data:=.seq its.toArray k }):h.IsList a its.toArray:=⟨_,e,rfl,_,rfl⟩
theorem b0N (K:EqK H s n R) (ok:HOk P w H s.heap) {a b:Addr} {xs ys:List V} {ds es:List α} (ha:H a=some (.lst xs)) (hb:H b=some (.lst ys)) (p1:Paired R xs ds) (p2:Paired R ys es) (hA:A.units+(n+1) < cLine) :
  SeqAt.RcAt A s (.ref a) (.ref b) (decide (ds=es)):=by
 obtain ⟨_,its,k1,v1,t1⟩:=ok a _ ha
 obtain ⟨_,its2,k2,v2,t2⟩:=ok b _ hb
 obtain ⟨e,h1,h2⟩:=a3L (A:=A.in1) K p1 p2 v1 v2 (by show A.units+1+n < cLine;omega)
 by_cases hz:its.toArray.size=its2.toArray.size
 ·have q:=SeqAt.RcAt.lists (a1s t1) (a1s t2) hz (show A.units < cLine by omega) h1
  have z:(List.range its.toArray.size).all e=decide (ds=es):=by
   rw [←h2,←hz]
   simp
  rw [z] at q
  exact q
 ·have q:=SeqAt.RcAt.lists_lengths (A:=A) (a1s t1) (a1s t2) (by simpa using hz) (show A.units < cLine by omega)
  have z:false=decide (ds=es):=by
   rw [←h2]
   have:(its.toArray.size == its2.toArray.size)=false:=by simpa using hz
   rw [this,Bool.and_false]
  rw [z] at q
  exact q
theorem b0O (K:EqK H s n R) (ok:HOk P w H s.heap) {a b:Addr} {xs ys:List V} {ds es:List α} (ha:H a=some (.lst xs)) (hb:H b=some (.lst ys)) (p1:Paired R xs ds) (p2:Paired R ys es) (hA:A.units+(n+1) < cLine) :
  SeqAt.RcNeAt A s (.ref a) (.ref b) (!decide (ds=es)):=by
 obtain ⟨_,its,k1,v1,t1⟩:=ok a _ ha
 obtain ⟨_,its2,k2,v2,t2⟩:=ok b _ hb
 obtain ⟨e,h1,h2⟩:=a3L (A:=A.in1) K p1 p2 v1 v2 (by show A.units+1+n < cLine;omega)
 by_cases hz:its.toArray.size=its2.toArray.size
 ·have q:=SeqAt.RcNeAt.lists (a1s t1) (a1s t2) hz (show A.units < cLine by omega) h1
  have z:(List.range its.toArray.size).all e=decide (ds=es):=by
   rw [←h2,←hz]
   simp
  rw [z] at q
  exact q
 ·have q:=SeqAt.RcNeAt.lists_lengths (A:=A) (a1s t1) (a1s t2) (by simpa using hz) (show A.units < cLine by omega)
  have z:false=decide (ds=es):=by
   rw [←h2]
   have:(its.toArray.size == its2.toArray.size)=false:=by simpa using hz
   rw [this,Bool.and_false]
  rw [←z]
  exact q
theorem EqK.tup (K:EqK H s n R) (ok:HOk P w H s.heap):EqK H s (n+1) (a7G H R):=by
 refine ⟨fun x a b h1 h2=>?_,fun A x y a b u v hA h1 h2 r1 r2=>?_⟩
 ·obtain ⟨c,xs,rfl,e1,p1⟩:=h1
  obtain ⟨c',xs',z,e2,p2⟩:=h2
  cases z
  rw [e1] at e2;cases e2
  exact Paired.inj K.inj p1 p2
 ·obtain ⟨c,xs,rfl,e1,p1⟩:=h1
  obtain ⟨c',xs',rfl,e2,p2⟩:=h2
  cases r1;cases r2
  by_cases hc:c=c'
  ·subst hc
   rw [e1] at e2;cases e2
   have:=Paired.inj K.inj p1 p2
   subst this
   rw [decide_eq_true rfl]
   exact SeqAt.EqAt.same _
  ·exact SeqAt.EqAt.of_refs hc (a7H K ok e1 e2 p1 p2 hA)
end
section
variable {X:Cx} {α:Type} [DecidableEq α]
def rEqTI:R2:=fun x y H Q=>∃ ns ms,a7G H a4Y x ns∧a7G H a4Y y ms∧Q (.bl (decide (ns=ms))) H
theorem a7I (hu:X.A.units+4 < cLine):OpR X (compareOp .Eq) rEqTI:=by
 intro pins s σ H x y v u Q I rx ry h
 obtain ⟨ns,ms,⟨a,xs,rfl,e1,p1⟩,⟨b,ys,rfl,e2,p2⟩,q⟩:=h
 cases rx;cases ry
 exact a7H (A:=X.A) (n:=0) EqK.int I.hok e1 e2 p1 p2 (by omega) _ _ _ _ ⟨.bl _,H,I,rfl,q⟩
end
def rIsi (K:PySem.W.Frag):List V→Hp→VK→Prop:=fun xs H Q=>∃ x t T b,xs=[x,.ty T]∧a6u K H x t∧PySem.W.kitOne K t (.type T)=some b∧Q (.bl b) H
theorem a2K {X:Cx}:a2l X (.builtin "isinstance") (rIsi X.K):=by
 intro pins s σ H xs us Q I r h
 obtain ⟨x,t,T,b,rfl,ty,e,q⟩:=h
 obtain ⟨u,v,rfl,r1,r2⟩:=r.two
 cases r2
 exact a7u I r1 ty e fun tk=>⟨.bl b,H,I.tok tk,rfl,q⟩
def rSlG:V→Option Int→Option Int→Hp→VK→Prop:=fun x lo hi H Q=>∃ a xs,x=.ref a∧H a=some (.tup xs)∧∀ p H',a0v H H'→H' p=some (.tup (a4j xs lo hi))→Q (.ref p) H'
theorem sixAll {n:Nat} {α:Type} (xs:List α) (lo hi:Option Int) (h1:HT.sIx xs.length 0 lo=0) (h2:HT.sIx xs.length xs.length hi=xs.length):(xs.drop (HT.sIx xs.length 0 lo)).take (HT.sIx xs.length xs.length hi - HT.sIx xs.length 0 lo)=xs:=by
 rw [h1,h2];simp
theorem a0d {H:Hp} {p:Addr} (h:H p=none) (o:HO):a0v H (upd H p o):=fun b u q=>by rw [a0n (a0D q h)];exact q
theorem a5e {prog:Program} {w:World} {A:Around} {E:Value→Shared→Prop} {s:Shared} {t sl:Addr} {items:Array Value} {vl vu:Value} {lo hi:Option Int} {Q:Value→Shared→Prop} (ht:IsTup s.heap t items) (hs:s.heap.IsSliceOf sl vl vu .none) (pl:IsPart vl lo) (pu:IsPart vu hi)
  (h1:HT.sIx items.size 0 lo=0) (h2:HT.sIx items.size items.size hi=items.size) (h:Q (.ref t) s):wpAny (model prog w) A (getItem (.ref t) (.ref sl)) Q E s:=by
 obtain ⟨os,hos,hcs,hds⟩:=id hs
 have hTs:s.TypeIs (.ref sl) "slice":=⟨os,hos,hcs⟩
 unfold getItem
 try with_reducible refine wpAny_holding ?_
 first | refine wpAny_bind (wpAny_pure ?_) | skip
 refine wpAny_bind (wpAny_sequenceKey ht.typeIs (by decide) ?_)
 refine wpAny_bind (wpAny_callSpecial?_slot (name:=Str.ofString "__getitem__") ht.typeIs PyProof.Rows.slot_tuple_getitem
  (wpAny_call_entry PyProof.Rows.slot_tuple_getitem ht.typeIs entry_tuple_getitem ?_ (args_tuple_getitem _ _)))
 show wpAny _ _ (Builtin.Tuple.tupleItemsOf (.ref t) >>= _) _ _ s
 refine wpAny_bind (tupleItemsOf_ ht ?_)
 refine wpAny_bind (wpAny_typeOf hTs ?_)
 rw [if_pos (by decide)]
 refine wpAny_bind (HT.a1K hs pl pu ?_)
 rw [h1,h2]
 show wpAny _ _ (if (((0:Nat):Int) == 0 && (1:Int) == 1 && (items.size - 0) == items.size)=true then _ else _) _ _ s
 rw [if_pos (by simp)]
 unfold Builtin.Tuple.tupleIsExact
 refine wpAny_bind (wpAny_bind (wpAny_typeOf ht.typeIs (wpAny_pure ?_)))
 rw [if_pos (by decide)]
 first
  | exact wpAny_bind (wpAny_rule (wpAny_bind (wpAny_pure (wpAny_pure ⟨_,rfl,wpAny_pure h⟩))))
  | exact wpAny_bind (wpAny_rule (wpAny_pure ⟨_,rfl,wpAny_pure h⟩))
  | exact wpAny_bind (wpAny_bind (wpAny_rule (wpAny_pure ⟨_,rfl,wpAny_pure h⟩)))
theorem a5f {X:Cx}:SlR X rSlG:=by
 intro pins s σ H x v vl vu lo hi sl Q I rx hs pl pu h
 obtain ⟨a,xs,rfl,hx,q⟩:=h
 by_cases hw:HT.sIx xs.length 0 lo=0∧HT.sIx xs.length xs.length hi=xs.length
 ·cases rx
  obtain ⟨hz,its,r,ht⟩:=I.hok a _ hx
  have hlen:its.toArray.size=xs.length:=by rw [List.size_toArray];exact r.length.symm
  refine ⟨"tuple",_,PyProof.Rows.slot_tuple_getitem.lookup,(a4i.is ht).typeIs,?_⟩
  refine a5e (a4i.is ht) hs pl pu (by rw [hlen];exact hw.1) (by rw [hlen];exact hw.2) ⟨.ref a,H,I,rfl,q a H (a0v.refl H) ?_⟩
  unfold a4j
  rw [sixAll (n:=0) xs lo hi hw.1 hw.2]
  exact hx
 ·exact a9X pins s σ H (.ref a) v vl vu lo hi sl Q I rx hs pl pu ⟨a,xs,rfl,.inl (.inl hx),hw,fun p hp=>q p _ (a0d hp _) a0b⟩
def rCatG:R2:=fun x y H Q=>∃ a b xs ys,x=.ref a∧y=.ref b∧H a=some (.tup xs)∧H b=some (.tup ys)∧xs.length+ys.length≤sizeLine∧∀ p H',a0v H H'→H' p=some (.tup (xs++ys))→Q (.ref p) H'
theorem a7J {X:Cx}:OpR X (binaryOp .Add) rCatG:=by
 intro pins s σ H x y v u Q I rx ry h
 obtain ⟨a,b,xs,ys,rfl,rfl,ha,hb,hz,q⟩:=h
 by_cases hx:xs=[]
 ·subst hx
  cases rx;cases ry
  obtain ⟨_,its,r1,p1⟩:=I.hok a _ ha
  obtain ⟨_,its2,r2,p2⟩:=I.hok b _ hb
  have e0:its=[]:=r1.nil_iff.mpr rfl
  subst e0
  obtain ⟨⟨cls,dd,data,sl⟩,ho,hc,n,hd⟩:=id (a4i.is p1)
  obtain ⟨⟨cls2,dd2,data2,sl2⟩,ho2,hc2,n2,hd2⟩:=id (a4i.is p2)
  simp only at hc hd hc2 hd2
  subst hc hd hc2 hd2
  exact concat_meets ⟨_,ho,rfl⟩ ⟨_,ho2,rfl⟩ noFill_tuple_add seq_tuple_add PySem.F.slot_tuple_add PySem.F.entry_tuple_add (PySem.F.args_tuple_add_2 _ _)
   (tuple_addW0 a b ([]:List Value).toArray its2.toArray n n2 dd dd2 sl sl2 (by simp)) ⟨ho,ho2,⟨.ref b,H,I,rfl,q b H (a0v.refl H) (by simpa using hb)⟩⟩
 ·exact b0G pins s σ H (.ref a) (.ref b) v u Q I rx ry ⟨a,b,xs,ys,rfl,rfl,.inl (.inl ha),.inl (.inl hb),hx,hz,fun z=>q a H (a0v.refl H) (by rw [z,List.append_nil];exact ha),fun _ p hp=>q p _ (a0d hp _) a0b⟩
def rAll:List V→Hp→VK→Prop:=fun xs H Q=>∃ (a:Addr) (bs:List Bool),xs=[.ref a]∧H a=some (.lst (bs.map V.bl))∧Q (.bl (bs.all id)) H
theorem a8Y:∀ {bs:List Bool} {us:List Value},a0J (bs.map V.bl) us→us=bs.map Value.bool:=by
 intro bs
 induction bs with
 | nil=>intro us r;rw [List.map_nil] at r;cases r;rfl
 | cons b bs ih =>
  intro us r
  rw [List.map_cons] at r
  cases r with
  | cons r1 r2=>rw [ih r2,show _=Value.bool b from r1];rfl
theorem a7K (bs:List Bool):(List.range bs.length).all (fun i=>bs.getD i true)=bs.all id:=by
 rw [Bool.eq_iff_iff]
 simp only [List.all_eq_true,List.mem_range,id]
 constructor
 ·intro h b hb
  obtain ⟨i,hi,rfl⟩:=List.mem_iff_getElem.mp hb
  have q:=h i hi
  rwa [List.getD_eq_getElem?_getD,List.getElem?_eq_getElem hi] at q
 ·intro h i hi
  rw [List.getD_eq_getElem?_getD,List.getElem?_eq_getElem hi]
  exact h _ (List.getElem_mem hi)
theorem a8Z {X:Cx} (hc:X.calm=true):a2l X (.builtin "all") rAll:=by
 intro pins s σ H xs us Q I r h
 obtain ⟨a,bs,rfl,ha,q⟩:=h
 obtain ⟨u,rfl,ru⟩:=a2H r
 cases ru
 obtain ⟨hz,its,n,v,e⟩:=I.hok a _ ha
 have ei:=a8Y v
 subst ei
 refine call_all_walk (wpAny_pyIter_list (a1s e) ?_)
 have hlt:=Heap.lt_size e
 refine ⟨s.heap.objs.size,_,_,_,_,_,fun i=>bs.getD i true,rfl,Walks.list (A:=X.A.in1) (by show X.A.handled=none;exact I.ok.hd hc) s.heap.objs.size a (Nat.ne_of_lt hlt) (bs.map Value.bool).toArray,⟨⟨_,Heap.get?_push_size _ rfl,rfl,rfl⟩,a1s (Heap.get?_push_of_some _ e)⟩,?_,fun h' tk hk=>?_⟩
 ·intro i v s' Q' E' hv hq
  simp only [List.getElem?_toArray,List.getElem?_map] at hv
  cases hb:bs[i]? with
  | none=>rw [hb] at hv;cases hv
  | some b =>
   rw [hb] at hv;cases hv
   have hq':Q' (bs.getD i true) s':=hq
   rw [List.getD_eq_getElem?_getD,hb] at hq'
   exact wpAny_truthy_bool hq'
 ·have e1:(bs.map Value.bool).toArray.size=bs.length:=by simp
  rw [e1,a7K]
  exact ⟨.bl _,H,I.kept (h':=h') (t':=tk) (fun b o eo=>hk b o (by simp;exact Nat.ne_of_lt (Heap.lt_size eo)) (Heap.get?_push_of_some _ eo)),rfl,q⟩
def rSum:List V→Hp→VK→Prop:=fun xs H Q=>∃ (a:Addr) (ns:List Int),xs=[.ref a]∧H a=some (.lst (ns.map V.int))∧Q (.int ns.sum) H
theorem a6C:∀ {ns:List Int} {us:List Value},a0J (ns.map V.int) us→∀ (i:Nat) (v:Value),us[i]?=some v→∃ t,v=.int (ns.getD i 0) t:=by
 intro ns
 induction ns with
 | nil=>intro us r i v e;rw [List.map_nil] at r;cases r;simp at e
 | cons n ns ih =>
  intro us r i v e
  rw [List.map_cons] at r
  cases r with
  | cons r1 r2 =>
   cases i with
   | zero =>
    simp at e;subst e
    obtain ⟨t,z⟩:=r1
    exact ⟨t,by rw [z];simp⟩
   | succ i =>
    obtain ⟨t,z⟩:=ih r2 i v (by simpa using e)
    exact ⟨t,by rw [z];simp⟩
theorem a2L {X:Cx} (hc:X.calm=true):a2l X (.builtin "sum") rSum:=by
 intro pins s σ H xs us Q I r h
 obtain ⟨a,ns,rfl,ha,q⟩:=h
 obtain ⟨u,rfl,ru⟩:=a2H r
 cases ru
 obtain ⟨hz,its,n,v,e⟩:=I.hok a _ ha
 refine call_sum_walkAnyS (wpAny_pyIter_list (a1s e) ?_)
 have hlt:=Heap.lt_size e
 refine ⟨s.heap.objs.size,_,_,_,_,_,_,fun i=>ns.getD i 0,rfl,(Walks.list (A:=X.A.in1) (by show X.A.handled=none;exact I.ok.hd hc) s.heap.objs.size a (Nat.ne_of_lt hlt) its.toArray).toS,⟨⟨_,Heap.get?_push_size _ rfl,rfl,rfl⟩,a1s (Heap.get?_push_of_some _ e)⟩,?_,?_,fun s' t' mv=>?_⟩
 ·intro b hb
  have hp:(s.heap.push { cls:=.type "list_iterator",data:=.fields #[.ref a,rawInt 0] }).objs.size=s.heap.objs.size+1:=Heap.size_push _ _
  rcases List.mem_cons.mp hb with z | z
  ·subst z
   exact Heap.lt_size (Heap.get?_push_size _ rfl)
  ·have z':b=a:=by simpa using z
   subst z'
   exact Heap.lt_size (Heap.get?_push_of_some _ e)
 ·intro i v' hv
  exact a6C v i v' (by simpa using hv)
 ·have e1:its.toArray.size=ns.length:=by
   have:=v.length
   rw [List.length_map] at this
   simpa using this.symm
  rw [e1,preSum_getD]
  have e2:ns.take ns.length=ns:=List.take_length
  rw [e2]
  have k:∀ b o,s.heap.get? b=some o→s'.heap.get? b=some o:=fun b o eo=>mv.heap b o (by simp;exact Nat.ne_of_lt (Heap.lt_size eo)) (Heap.get?_push_of_some _ eo)
  obtain ⟨h',g',d',tk',os'⟩:=s'
  have z1:g'=s.gens:=mv.gens
  have z2:d'=s.drawn:=mv.drawn
  have z3:os'=s.os:=mv.os
  subst z1 z2 z3
  exact ⟨.int _,H,I.kept (h':=h') (t':=tk') k,⟨t',rfl⟩,q⟩
theorem a0z (scope:Scope) (en:Env) (y:Str):(relabel scope en).names.lookup y=(scope.names.lookup y).map fun k=>if (k == NameKind.free && en.scope.kind == .function && en.kindOf y == some .cell)=true then .cell else k:=by
 show List.lookup y (scope.names.map fun (n,k)=>if (k == NameKind.free && en.scope.kind == .function && en.kindOf n == some .cell)=true then (n,NameKind.cell) else (n,k))=_
 generalize scope.names=l
 induction l with
 | nil=>rfl
 | cons p r ih =>
  obtain ⟨n,k⟩:=p
  rw [List.map_cons]
  by_cases hy:y=n
  ·subst hy
   show List.lookup y ((if (k == NameKind.free && en.scope.kind == .function && en.kindOf y == some .cell)=true then (y,NameKind.cell) else (y,k)) :: _)=_
   by_cases hc:(k == NameKind.free && en.scope.kind == .function && en.kindOf y == some .cell)=true
   ·rw [if_pos hc,List.lookup_cons,List.lookup_cons,beq_self_eq_true]
    show some NameKind.cell=some (if _ then _ else _)
    rw [if_pos hc]
   ·rw [if_neg hc,List.lookup_cons,List.lookup_cons,beq_self_eq_true]
    show some k=some (if _ then _ else _)
    rw [if_neg hc]
  ·have hb:(y == n)=false:=by simpa using hy
   show List.lookup y ((if (k == NameKind.free && en.scope.kind == .function && en.kindOf n == some .cell)=true then (n,NameKind.cell) else (n,k)) :: _)=_
   by_cases hc:(k == NameKind.free && en.scope.kind == .function && en.kindOf n == some .cell)=true
   ·rw [if_pos hc,List.lookup_cons,List.lookup_cons,hb];exact ih
   ·rw [if_neg hc,List.lookup_cons,List.lookup_cons,hb];exact ih
def a7L (scope:Scope) (p:Str × Str):Bool:=match scope.names.lookup p.1 with
 | none=>true
 | some .free=>p.1 == p.2
 | some .local=>false
 | some .cell=>false
 | some _=>true
theorem a0l.of' {scope:Scope} {en:Env} {N M:List Str} (sc:Scope) (N₀:List Str) (hsc:en.scope=sc) (hN:N=N₀) (kind:scope.kind=.function) (nocell:∀ y∈scope.names,y.2≠.cell) (locs:∀ y∈scope.names,y.2=.local→scope.names.lookup y.1=some .local)
  (free:∀ y∈scope.names,y.2=.free→sc.names.lookup y.1=some .cell∨sc.names.lookup y.1=some .free) (len:M.length=N₀.length) (same:((M.zip N₀).all (a7L scope))=true):a0l scope en N M:=by
 subst hsc hN
 refine ⟨kind,nocell,locs,fun y hy=>free _ hy rfl,len,fun j y e v=>?_,fun y h=>?_⟩
 ·have hj:j < N.length:=by rw [←len];exact (List.getElem?_eq_some_iff.mp e).1
  have e2:N[j]?=some N[j]:=List.getElem?_eq_getElem hj
  have hm:(y,N[j])∈M.zip N:=by
   refine List.mem_iff_getElem?.mpr ⟨j,?_⟩
   rw [List.getElem?_zip_eq_some]
   exact ⟨e,e2⟩
  have q:=List.all_eq_true.mp same _ hm
  unfold a7L at q
  unfold Vis at v
  rw [a0z] at v ⊢
  cases hl:scope.names.lookup y with
  | none=>rw [hl] at v;simp at v
  | some k =>
   rw [hl] at v q
   simp only [Option.map_some] at v ⊢
   cases k with
   | free =>
    have z:y=N[j]:=by simpa using q
    refine ⟨by rw [e2,←z],PySem.mem_of_lookup hl,?_⟩
    split <;> simp
   | «local»=>simp at q
   | cell=>simp at q
   | _=>simp at v
 ·rw [a0z] at h
  cases hl:scope.names.lookup y with
  | none=>rw [hl] at h;simp at h
  | some k =>
   rw [hl] at h
   have hm:=PySem.mem_of_lookup hl
   simp only [Option.map_some] at h
   cases k with
   | free=>exact hm
   | cell=>exact absurd rfl (nocell _ hm)
   | _=>simp at h
theorem a0l.of {scope:Scope} {en:Env} {N M:List Str} (sc:Scope) (N₀:List Str) (hsc:en.scope=sc) (hN:N=N₀) (kind:scope.kind=.function) (nocell:∀ y∈scope.names,y.2≠.cell) (locs:∀ y∈scope.names,y.2=.local→scope.names.lookup y.1=some .local)
  (free:∀ y∈scope.names,y.2=.free→sc.names.lookup y.1=some .cell∨sc.names.lookup y.1=some .free) (len:M.length=N₀.length) (same:((M.zip N₀).all (a7L scope))=true):a0l scope en N M:=a0l.of' sc N₀ hsc hN kind nocell locs free len same
theorem b0a {v:V} {σ:St} {H:Hp} {Q:St→Hp→Prop} (h:a2d 0 v (List.replicate 1 none++σ) H Q):a2d 0 v (List.replicate 1 none++σ) H fun σ2 H2=>(∃ l:St,l.length=1∧σ2=l++σ)∧Q σ2 H2 :=
 ⟨⟨[some v],rfl,rfl⟩,h⟩
theorem a6D {lo:Int} {n:Nat} {k:Nat} {g:TG} {tc:TT} {te:TE} {σ:St} {H:Hp} {Q:VK} {d:Addr} (Pv:Nat→Hp→Prop) (h0:Pv 0 (upd H d (.lst [])))
  (hs:∀ i H,i < n→Pv i H→g (.int (lo+i)) (List.replicate k none++σ) H fun σ2 H2=>tc σ2 H2 fun b H3=>if b=true then te σ2 H3 fun y H4=>∃ ys,H4 d=some (.lst ys)∧ys.length < sizeLine∧Pv (i+1) (upd H4 d (.lst (ys++[y]))) else Pv (i+1) H3)
  (hd:∀ H,Pv n H→Q (.ref d) H) :
  ∃ W:Nat→Nat→Hp→Prop,(∃ m,W 0 m (upd H d (.lst [])))∧∀ i m H,W i m H →
   ((Itr lo n).stop i H∧Q (.ref d) H)∨((Itr lo n).go i H∧∃ N:Hp→Prop,(∀ H',N H'→∃ m',m' < m∧W (i+1) m' H')∧∀ x H',(Itr lo n).yld i H x H'→g x (List.replicate k none++σ) H' fun σ2 H2 =>
    tc σ2 H2 fun b H3=>if b=true then te σ2 H3 fun y H4=>∃ ys,H4 d=some (.lst ys)∧ys.length < sizeLine∧N (upd H4 d (.lst (ys++[y]))) else N H3):=by
 refine ⟨fun i m H=>m=n - i∧i≤n∧Pv i H,⟨n,by simp,Nat.zero_le _,h0⟩,?_⟩
 rintro i m H ⟨rfl,hi,p⟩
 by_cases hlt:i < n
 ·refine .inr ⟨hlt,Pv (i+1),fun H' p'=>⟨n - (i+1),by omega,rfl,hlt,p'⟩,fun x H' y=>?_⟩
  obtain ⟨e,y⟩:=y
  subst e y
  exact hs i _ hlt p
 ·have e:i=n:=by omega
  subst e
  exact .inl ⟨Nat.le_refl _,hd H p⟩
theorem a9a {K:PySem.W.Frag} {a:Addr} {xs:List V} {k:Nat} {g:TG} {tc:TT} {te:TE} {σ:St} {H:Hp} {Q:VK} {d:Addr} (Pv:Nat→Hp→Prop) (h0:Pv 0 (upd H d (.lst []))) (hl:∀ i H,i≤xs.length→Pv i H→SqT K H a xs)
  (hs:∀ i x H,xs[i]?=some x→Pv i H→g x (List.replicate k none++σ) H fun σ2 H2=>tc σ2 H2 fun b H3=>if b=true then te σ2 H3 fun y H4=>∃ ys,H4 d=some (.lst ys)∧ys.length < sizeLine∧Pv (i+1) (upd H4 d (.lst (ys++[y]))) else Pv (i+1) H3)
  (hd:∀ H,Pv xs.length H→Q (.ref d) H) :
  ∃ W:Nat→Nat→Hp→Prop,(∃ m,W 0 m (upd H d (.lst [])))∧∀ i m H,W i m H →
   ((Itt K a).stop i H∧Q (.ref d) H)∨((Itt K a).go i H∧∃ N:Hp→Prop,(∀ H',N H'→∃ m',m' < m∧W (i+1) m' H')∧∀ x H',(Itt K a).yld i H x H'→g x (List.replicate k none++σ) H' fun σ2 H2 =>
    tc σ2 H2 fun b H3=>if b=true then te σ2 H3 fun y H4=>∃ ys,H4 d=some (.lst ys)∧ys.length < sizeLine∧N (upd H4 d (.lst (ys++[y]))) else N H3):=by
 refine ⟨fun i m H=>m=xs.length - i∧i≤xs.length∧Pv i H,⟨xs.length,by simp,Nat.zero_le _,h0⟩,?_⟩
 rintro i m H ⟨rfl,hi,p⟩
 have q:=hl i H hi p
 by_cases hlt:i < xs.length
 ·refine .inr ⟨⟨xs,xs[i],q,by simp [hlt]⟩,Pv (i+1),fun H' p'=>⟨xs.length - (i+1),by omega,rfl,hlt,p'⟩,fun x H' y=>?_⟩
  obtain ⟨e,y⟩:=y
  subst e
  exact hs i x _ (y xs q) p
 ·have e:i=xs.length:=by omega
  subst e
  exact .inl ⟨⟨xs,q,Nat.le_refl _⟩,hd H p⟩
theorem a2X {K:PySem.W.Frag} {a:Addr} {xs:List V} {k:Nat} {g:TG} {tc:TT} {te:TE} {σ:St} {H:Hp} {Q:VK} {d:Addr} (Pv:Nat→Hp→Prop) (h0:Pv 0 (upd H d (.lst []))) (hl:∀ i H,i≤xs.length→Pv i H→SqL K H a xs)
  (hs:∀ i x H,xs[i]?=some x→Pv i H→g x (List.replicate k none++σ) H fun σ2 H2=>tc σ2 H2 fun b H3=>if b=true then te σ2 H3 fun y H4=>∃ ys,H4 d=some (.lst ys)∧ys.length < sizeLine∧Pv (i+1) (upd H4 d (.lst (ys++[y]))) else Pv (i+1) H3)
  (hd:∀ H,Pv xs.length H→Q (.ref d) H) :
  ∃ W:Nat→Nat→Hp→Prop,(∃ m,W 0 m (upd H d (.lst [])))∧∀ i m H,W i m H →
   ((Itl K a).stop i H∧Q (.ref d) H)∨((Itl K a).go i H∧∃ N:Hp→Prop,(∀ H',N H'→∃ m',m' < m∧W (i+1) m' H')∧∀ x H',(Itl K a).yld i H x H'→g x (List.replicate k none++σ) H' fun σ2 H2 =>
    tc σ2 H2 fun b H3=>if b=true then te σ2 H3 fun y H4=>∃ ys,H4 d=some (.lst ys)∧ys.length < sizeLine∧N (upd H4 d (.lst (ys++[y]))) else N H3):=by
 refine ⟨fun i m H=>m=xs.length - i∧i≤xs.length∧Pv i H,⟨xs.length,by simp,Nat.zero_le _,h0⟩,?_⟩
 rintro i m H ⟨rfl,hi,p⟩
 have q:=hl i H hi p
 by_cases hlt:i < xs.length
 ·refine .inr ⟨⟨xs,xs[i],q,by simp [hlt]⟩,Pv (i+1),fun H' p'=>⟨xs.length - (i+1),by omega,rfl,hlt,p'⟩,fun x H' y=>?_⟩
  obtain ⟨e,y⟩:=y
  subst e
  exact hs i x _ (y xs q) p
 ·have e:i=xs.length:=by omega
  subst e
  exact .inl ⟨⟨xs,q,Nat.le_refl _⟩,hd H p⟩
theorem a9b:bootBuiltins "isinstance"=some (.builtin "isinstance"):=by decide +kernel
theorem b_all:bootBuiltins "all"=some (.builtin "all"):=by decide +kernel
theorem a9c:bootBuiltins "sum"=some (.builtin "sum"):=by decide +kernel
theorem b_int:bootBuiltins "int"=some (.type "int"):=by decide +kernel
theorem b_bool:bootBuiltins "bool"=some (.type "bool"):=by decide +kernel
theorem b_list:bootBuiltins "list"=some (.type "list"):=by decide +kernel
theorem a2f:bootBuiltins "tuple"=some (.type "tuple"):=by decide +kernel
theorem a5g (K:PySem.W.Frag):PySem.W.kitOne K (.type "int") (.type "int")=some true:=by rfl
theorem a4z (K:PySem.W.Frag):PySem.W.kitOne K (.type "int") (.type "bool")=some false:=by rfl
theorem a1P (K:PySem.W.Frag):PySem.W.kitOne K (.type "tuple") (.type "tuple")=some true:=by rfl
theorem PE.imp {X:Cx} {e:Expr} {t t':TE} (h:PE X e t) (hi:∀ σ H Q,t' σ H Q→t σ H Q):PE X e t':=fun pins s σ H Q I q=>h pins s σ H Q I (hi σ H Q q)
def a6E (tc:TT) (te:TE) (σ:St) (d:Addr) (x:V) (H:Hp) (Z:Hp→Prop):Prop :=
 tc (some x :: σ) H fun b H3=>if b=true then te (some x :: σ) H3 fun y H4=>∃ ys,H4 d=some (.lst ys)∧ys.length < sizeLine∧Z (upd H4 d (.lst (ys++[y]))) else Z H3
def b0P (ta:TA) (tc:TT) (te:TE):TE:=fun σ H Q=>ta σ H fun vs H1=>∃ j:Int,vs=[.int j]∧-(2 ^ 62)≤j∧j < 2 ^ 62∧∀ d,H1 d=none →
 ∃ Pv:Nat→Hp→Prop,Pv 0 (upd H1 d (.lst []))∧(∀ i H,i < j.toNat→Pv i H→a6E tc te σ d (.int (0+i)) H (Pv (i+1)))∧∀ H,Pv j.toNat H→Q (.ref d) H
def b0b (K:PySem.W.Frag) (tl:TE) (tc:TT) (te:TE):TE:=fun σ H Q=>tl σ H fun v H1=>∃ a xs,v=.ref a∧SqL K H1 a xs∧∀ d,H1 d=none →
 ∃ Pv:Nat→Hp→Prop,Pv 0 (upd H1 d (.lst []))∧(∀ i H,i≤xs.length→Pv i H→SqL K H a xs)∧(∀ i x H,xs[i]?=some x→Pv i H→a6E tc te σ d x H (Pv (i+1)))∧∀ H,Pv xs.length H→Q (.ref d) H
def tCompT (K:PySem.W.Frag) (tl:TE) (tc:TT) (te:TE):TE:=fun σ H Q=>tl σ H fun v H1=>∃ a xs,v=.ref a∧SqT K H1 a xs∧∀ d,H1 d=none →
 ∃ Pv:Nat→Hp→Prop,Pv 0 (upd H1 d (.lst []))∧(∀ i H,i≤xs.length→Pv i H→SqT K H a xs)∧(∀ i x H,xs[i]?=some x→Pv i H→a6E tc te σ d x H (Pv (i+1)))∧∀ H,Pv xs.length H→Q (.ref d) H
def a3o (t:TE):Prop:=∀ σ H (Q Q':VK),(∀ v H1,Q v H1→Q' v H1)→t σ H Q→t σ H Q'
def a4A (t:TA):Prop:=∀ σ H (Q Q':List V→Hp→Prop),(∀ v H1,Q v H1→Q' v H1)→t σ H Q→t σ H Q'
section
variable {X:Cx} {elt iter:Expr} {tg:Str} {tp:Pos} {cs:List Expr} {scope:Scope} {pos:Pos} {tc:TT} {te:TE} {M:List Str}
abbrev a5h (X:Cx) (scope:Scope) (tg:Str) (M:List Str) (cs:List Expr) (elt:Expr) (tc:TT) (te:TE):Prop :=
 ∀ (cl:List (Str × Addr)) (C:Addr) (s0:Shared) (H0:Hp) (fp:List Addr),PTs (cxC X scope cl C s0 H0 fp (tg :: M)) cs tc∧PE (cxC X scope cl C s0 H0 fp (tg :: M)) elt te
theorem a2M {wi:TI} {t:TE} (hc:X.calm=true) (S:a0l scope X.env X.N M) (nd:(tg :: M).Nodup) (hl:scope.names.lookup tg=some .local) (hi:PI X (.Name tg tp) iter wi) (hin:a5h X scope tg M cs elt tc te)
  (ht:∀ σ H Q,t σ H Q→a6B 1 wi (a2d 0) tc te σ H Q) (hs:∀ x,foldedSetIterable iter X.env x=pure x):PE X (.ListComp elt [⟨.Name tg tp,iter,cs,0⟩] scope pos) t:=by
 have hx:(relabel scope X.env).names.lookup tg=some .local:=by
  rw [a0z,hl]
  rfl
 exact PE.imp (b0L (xs:=[tg]) (M:=M) hc S hi (fun cl C s0 H0 fp=>⟨a0E (i:=0) nd rfl (Or.inl hx) (Or.inr hx),hin cl C s0 H0 fp⟩) (fun v σ H Q h=>b0a h) hs) ht
theorem a2n {a:Expr} {ta:TA} {p pos':Pos} (hc:X.calm=true) (S:a0l scope X.env X.N M) (nd:(tg :: M).Nodup) (hl:scope.names.lookup tg=some .local) (hg:Gl X "range") (hm:X.mg "range"=none) (ha:PA X [a] ta) (mo:a4A ta)
  (hin:a5h X scope tg M cs elt tc te) (hs:starEach [a] X.env=[(false,eval a X.env)]:=by rfl) (hf:∀ x,foldedSetIterable (.Call (.Name "range" p) [a] [] pos') X.env x=pure x:=by intro _;rfl) :
  PE X (.ListComp elt [⟨.Name tg tp,.Call (.Name "range" p) [a] [] pos',cs,0⟩] scope pos) (b0P ta tc te):=by
 refine a2M hc S nd hl (a1N hg hm ha hs) hin (fun σ H Q h=>?_) hf
 refine mo σ H _ _ (fun vs H1 q=>?_) h
 obtain ⟨j,e,j1,j2,q⟩:=q
 refine ⟨j,e,j1,j2,fun d hd=>?_⟩
 obtain ⟨Pv,h0,hs,hd⟩:=q d hd
 exact a6D (k:=1) (g:=a2d 0) Pv h0 hs hd
theorem a5R {tl:TE} (hc:X.calm=true) (S:a0l scope X.env X.N M) (nd:(tg :: M).Nodup) (hl:scope.names.lookup tg=some .local) (hi:PE X iter tl) (mo:a3o tl)
  (hin:a5h X scope tg M cs elt tc te) (hf:∀ x,foldedSetIterable iter X.env x=pure x:=by intro _;rfl):PE X (.ListComp elt [⟨.Name tg tp,iter,cs,0⟩] scope pos) (b0b X.K tl tc te):=by
 refine a2M hc S nd hl (a1G hi) hin (fun σ H Q h=>?_) hf
 refine mo σ H _ _ (fun v H1 q=>?_) h
 obtain ⟨a,xs,e,j1,q⟩:=q
 refine ⟨a,e,⟨xs,j1⟩,fun d hd=>?_⟩
 obtain ⟨Pv,h0,hl,hs,hd⟩:=q d hd
 exact a2X (k:=1) (g:=a2d 0) Pv h0 hl hs hd
theorem a3M {tl:TE} (hc:X.calm=true) (S:a0l scope X.env X.N M) (nd:(tg :: M).Nodup) (hl:scope.names.lookup tg=some .local) (hi:PE X iter tl) (mo:a3o tl)
  (hin:a5h X scope tg M cs elt tc te) (hf:∀ x,foldedSetIterable iter X.env x=pure x:=by intro _;rfl):PE X (.ListComp elt [⟨.Name tg tp,iter,cs,0⟩] scope pos) (tCompT X.K tl tc te):=by
 refine a2M hc S nd hl (a5L hi) hin (fun σ H Q h=>?_) hf
 refine mo σ H _ _ (fun v H1 q=>?_) h
 obtain ⟨a,xs,e,j1,q⟩:=q
 refine ⟨a,e,⟨xs,j1⟩,fun d hd=>?_⟩
 obtain ⟨Pv,h0,hl,hs,hd⟩:=q d hd
 exact a9a (k:=1) (g:=a2d 0) Pv h0 hl hs hd
theorem a9d {wi:TI} {t:TE} {i:Nat} {x:Str} {pos1 spos:Pos} (hc:X.calm=true) (S:a0l scope X.env X.N M) (nd:(tg :: M).Nodup) (hl:scope.names.lookup tg=some .local) (hi:PI X (.Name tg tp) iter wi) (hin:a5h X scope tg M cs elt tc te)
  (ht:∀ σ H Q,t σ H Q→a6B 1 wi (a2d 0) tc te σ H Q) (hN:X.N.Nodup) (hix:X.N[i]?=some x) (hx:X.env.scope.names.lookup x=some .local) (hw:swapsWith (.ListComp elt [⟨.Name tg tp,iter,cs,0⟩] scope pos) (some (.Name x pos1)) spos.line X.env=pure true) (hs:∀ x,foldedSetIterable iter X.env x=pure x) :
  PS X (.Assign [.Name x pos1] (.ListComp elt [⟨.Name tg tp,iter,cs,0⟩] scope pos) spos) (tAsg t (a2d i)):=by
 have hx':(relabel scope X.env).names.lookup tg=some .local:=by
  rw [a0z,hl]
  rfl
 intro pins s σ H D I h
 exact b0M (xs:=[tg]) (M:=M) hc S hi (fun cl C s0 H0 fp=>⟨a0E (i:=0) nd rfl (Or.inl hx') (Or.inr hx'),hin cl C s0 H0 fp⟩) (fun v σ H Q h=>b0a h) hN hix hx hw hs pins s σ H D I (ht _ _ _ h)
end
theorem a0O {te:TE} {σ:St} {d:Addr} {x:V} {H:Hp} {Z:Hp→Prop} (h:te (some x :: σ) H fun y H4=>∃ ys,H4 d=some (.lst ys)∧ys.length < sizeLine∧Z (upd H4 d (.lst (ys++[y])))):a6E a6z te σ d x H Z:=by
 unfold a6E a6z
 exact iteT h
theorem a1o {i:Nat}:a3o (tVar i):=fun _ _ _ _ h ⟨v,e,q⟩=>⟨v,e,h _ _ q⟩
theorem a2D:a4A tNil:=fun _ _ _ _ h q=>h _ _ q
theorem a1H {te:TE} {ta:TA} (h1:a3o te) (h2:a4A ta):a4A (b0D te ta):=fun σ H Q Q' h q=>h1 σ H _ _ (fun v H1 q1=>h2 σ H1 _ _ (fun vs H2 q2=>h _ _ q2) q1) q
theorem mo_len {K:PySem.W.Frag} {ta:TA} (h1:a4A ta):a3o (tCB (fun xs H Q=>∃ p ys,xs=[.ref p]∧(SqL K H p ys∨SqT K H p ys)∧Q (.int (ys.length:Nat)) H) ta):=fun σ H Q Q' h q =>
 h1 σ H _ _ (fun vs H1 ⟨p,ys,e,s,q1⟩=>⟨p,ys,e,s,h _ _ q1⟩) q
abbrev TW (H:Hp) (a:Addr) (ns:List Int):Prop:=H a=some (.tup (ns.map V.int))
abbrev Wd (H:Hp) (x:V) (w:List Int):Prop:=a7G H a4Y x w
abbrev Ws (H:Hp) (xs:List V) (ws:List (List Int)):Prop:=Paired (a7G H a4Y) xs ws
theorem Wd.ti {H:Hp} {x:V} {w:List Int} (h:Wd H x w):∃ a,x=.ref a∧TW H a w:=by
 obtain ⟨a,xs,rfl,e,p⟩:=h
 exact ⟨a,rfl,by show H a=_;rw [e,Paired.ofInts p]⟩
theorem Wd.of {H:Hp} {a:Addr} {w:List Int} (h:TW H a w):Wd H (.ref a) w:=a1n h
theorem Wd.same {H H':Hp} {x:V} {w:List Int} (sm:a0v H H') (h:Wd H x w):Wd H' x w:=by
 obtain ⟨a,xs,rfl,e,p⟩:=h
 exact ⟨a,xs,rfl,sm _ _ e,p⟩
theorem Ws.same {H H':Hp} {xs:List V} {ws:List (List Int)} (sm:a0v H H') (h:Ws H xs ws):Ws H' xs ws:=Paired.mapP h fun _ _ q=>Wd.same sm q
section
variable {α β:Type} {R:α→β→Prop}
theorem Paired.appendP:∀ {xs ys:List α} {ds es:List β},Paired R xs ds→Paired R ys es→Paired R (xs++ys) (ds++es)
 | _,_,_,_,.nil,s=>s
 | _,_,_,_,.cons r t,s=>.cons r (Paired.appendP t s)
theorem Paired.left_of:∀ {xs:List α} {ds:List β},Paired R xs ds→∀ (j:Nat) (d:β),ds[j]?=some d→∃ x,xs[j]?=some x∧R x d
 | _,_,.nil,j,x,e=>by simp at e
 | _,_,.cons r t,0,x,e=>by simp at e;subst e;exact ⟨_,rfl,r⟩
 | _,_,.cons r t,j+1,x,e=>by
  obtain ⟨d,e1,e2⟩:=Paired.left_of t j x (by simpa using e)
  exact ⟨d,by simpa using e1,e2⟩
end
theorem a2Y {xs:List V} {i:Nat} {x:V} (h:xs[i]?=some x):atI xs (i:Int)=some x:=a7B h
theorem a2b {ns:List Int} {k:Nat} {x:Int} (h:ns[k]?=some x):atI (ns.map V.int) (k:Int)=some (.int x):=a7B (by rw [List.getElem?_map,h];rfl)
theorem hu4 {A:Around} {k:Nat} (hr:a2s k A):A.units+4 < cLine:=by have:=hr.units;omega
theorem small {n:Nat} (h:n≤1000):n≤sizeLine:=Nat.le_of_lt (a0m h)
theorem a3t (xs:List V) (n:Nat):a4j xs none (some (n:Int))=xs.take n:=by
 unfold a4j
 rw [HT.a5c,HT.a5P]
 simp [List.take_eq_take_iff]
theorem a3N (xs:List V) (n:Nat):a4j xs (some (n:Int)) none=xs.drop n:=by
 unfold a4j
 rw [HT.a5c,HT.a5P]
 by_cases h:n≤xs.length
 ·rw [Nat.min_eq_left h]
  exact List.take_of_length_le (by rw [List.length_drop];omega)
 ·rw [Nat.min_eq_right (by omega),List.drop_eq_nil_of_le (Nat.le_refl _),List.drop_eq_nil_of_le (by omega)]
  simp
theorem a0q {H H1:Hp} {d:Addr} {o:HO} (h:H d=none) (sm:a0v H H1):a0v H (upd H1 d o):=fun b u q=>by rw [a0n (a0D q h)];exact sm b u q
structure Fns (P:Program) (w:World) (K:PySem.W.Frag) (mg:Str→Option Value) (base:Heap) (ps:List Str) (name:Str) (sp:Sp) (k:Nat) where
 g:Addr
 gd:FuncData
 ok:a1B P w K mg base CX0 k g gd ps sp
 b:a5b K gd ps []
 kp:PySem.W.keepIn K (.ref g)=true
 m:mg name=some (.ref g)
def Fns.up {P:Program} {w:World} {K:PySem.W.Frag} {mg:Str→Option Value} {base:Heap} {ps:List Str} {name:Str} {sp:Sp} {j k:Nat} (f:Fns P w K mg base ps name sp j) (h:j≤k):Fns P w K mg base ps name sp k:=⟨f.g,f.gd,f.ok.mono h,f.b,f.kp,f.m⟩
def tMid (t:TS):TS:=fun D σ H=>∃ Mid:St→Hp→Prop,t { D with nx:=Mid } σ H∧∀ σ' H',Mid σ' H'→D.nx σ' H'
theorem a4B {X:Cx} {st:Stmt} {t:TS} (h:PS X st t):PS X st (tMid t):=by
 intro pins s σ H D I ⟨Mid,h1,h2⟩
 refine thn (h pins s σ H _ I h1) fun fl s' q=>?_
 cases fl with
 | next=>obtain ⟨σ',H',I',m⟩:=q;exact ⟨σ',H',I',h2 _ _ m⟩
 | brk=>exact q
 | cont=>exact q
 | ret u=>exact q
def eMid (t:TE):TE:=fun σ H Q=>∃ Mid:V→Hp→Prop,t σ H Mid∧∀ v H',Mid v H'→Q v H'
theorem a5S {X:Cx} {e:Expr} {t:TE} (h:PE X e t):PE X e (eMid t):=by
 intro pins s σ H Q I ⟨Mid,h1,h2⟩
 exact thn (h pins s σ H _ I h1) fun u s' ⟨v,H',I',r,m⟩=>⟨v,H',I',r,h2 _ _ m⟩
theorem a5T {t:TE}:a3o (eMid t):=fun σ H Q Q' h ⟨Mid,h1,h2⟩=>⟨Mid,h1,fun v H' m=>h _ _ (h2 v H' m)⟩
theorem ixL {X:Cx} (K:PySem.W.Frag) (h:X.K=K:=by rfl):IxR X (rIxL K):=by subst h;exact a1z
theorem ixT {X:Cx} (K:PySem.W.Frag) (h:X.K=K:=by rfl):IxR X (rIxT K):=by subst h;exact a1L
theorem Wd.upd {H:Hp} {l:Addr} {ls ls':List V} {x:V} {w:List Int} (hl:H l=some (.lst ls)) (h:Wd H x w):Wd (upd H l (.lst ls')) x w:=by
 obtain ⟨a,xs,rfl,e,p⟩:=h
 exact ⟨a,xs,rfl,by rw [a0n (a2c e hl (by intro z;cases z))];exact e,p⟩
theorem Ws.upd {H:Hp} {l:Addr} {ls ls' xs:List V} {ws:List (List Int)} (hl:H l=some (.lst ls)) (h:Ws H xs ws):Ws (upd H l (.lst ls')) xs ws:=Paired.mapP h fun _ _ q=>Wd.upd hl q
section
variable {X:Cx} {elt iter:Expr} {tg:Str} {tp:Pos} {cs:List Expr} {scope:Scope} {pos:Pos} {tc:TT} {te:TE} {M:List Str}
end
def ExcAt (h:Heap) (e:Addr) (cls:Value) (od:Option Addr) (hd:Value):Prop:=∃ oe vs,h.get? e=some oe∧oe.cls=cls∧oe.dict=od∧oe.data=.fields vs∧vs[1]?=some hd
def TbAt (h:Heap) (T:Addr) (fl:Value):Prop:=∃ oT ts,h.get? T=some oT∧oT.data=.fields ts∧ts[3]?=some fl
def Mv (S fs:List Addr) (h h':Heap):Prop:=∀ b o,h.get? b=some o→b∉S→(b∉fs→h'.get? b=some o)∧∃ sl,h'.get? b=some { o with slots:=sl }
section
variable {S S' fs:List Addr} {h h1 h2:Heap}
end
section
variable {M:Model} {A:Around} {E:Value→Shared→Prop} {s:Shared} {env:Env} {outer:List Env} {base:Heap} {L e T:Addr} {cls hd fl head:Value} {od:Option Addr} {S:List Addr} {Q:Unit→Shared→Prop}
def Loose (h:Heap) (e:Addr) (cls:Value) (od:Option Addr) (S:List Addr):Prop :=
 e∈S∧(∀ b∈S,∀ o,h.get? b=some o→∃ vs,o.data=.fields vs)∧∃ hd,ExcAt h e cls od hd∧(hd=.none∨∃ T,T∈S∧hd=.ref T∧T≠e∧TbAt h T .none)
end
section
variable {X:Cx} {pins:List (Addr × Obj)} {σ:St} {H H':Hp} {s:Shared} {h':Heap} {b:Addr} {S:List Addr}
end
def CXF (P:Program) (w:World):CXT:=fun outer H s E e s'=>∃ (ea:Addr) (cls:Value) (od:Option Addr) (S:List Addr) (H':Hp),e=.ref ea∧s'.os=s.os∧AllBare s'.gens ∧
 Un (frs outer) [] H H' s.heap s'.heap∧HOk P w H' s'.heap∧Loose s'.heap ea cls od S∧(∀ b∈S,s.heap.get? b=none∧H' b=none)∧E cls od H'
section
variable {P:Program} {w:World} {K:PySem.W.Frag} {mg:Str→Option Value} {base:Heap} {N:List Str} {qual:Str} {scope:Scope} {f:Addr} {cd:Value} {A:Around} {outer:List Env} {s₀:Shared} {H₀:Hp} {E:XK}
end
abbrev Cx.hand (X:Cx) (ea:Addr):Cx:={ X with A:=X.A.mark (some (.ref ea)),calm:=false,xe:=fun _ _=>False }
section
variable {X:Cx} {pins pins':List (Addr × Obj)} {σ:St} {H:Hp} {s:Shared} {h':Heap} {ea:Addr} {xe:Value→Shared→Prop}
end
def tMidT (t:TT):TT:=fun σ H Q=>∃ Mid:Bool→Hp→Prop,t σ H Mid∧∀ b H',Mid b H'→Q b H'
theorem b0c {X:Cx} {e:Expr} {t:TT} (h:PT X e t):PT X e (tMidT t):=by
 intro pins s σ H Q I ⟨Mid,h1,h2⟩
 exact thn (h pins s σ H _ I h1) fun b s' ⟨H',I',m⟩=>⟨H',I',h2 _ _ m⟩
section
variable {K:PySem.W.Frag} {prog:Program} {w:World} {A:Around} {E:Value→Shared→Prop} {s:Shared} {x C:Addr} {ox:Obj} {od:Option Obj} {name:Str} {tk:Tok}
end
section
variable {K:PySem.W.Frag} {C D:Addr}
end
structure Fns' (P:Program) (w:World) (K:PySem.W.Frag) (mg:Str→Option Value) (base:Heap) (ps:List Str) (name:Str) (sp:Sp) (k:Nat) where
 g:Addr
 gd:FuncData
 ok:a1B P w K mg base (CXF P w) k g gd ps sp
 b:a5b K gd ps []
 kp:PySem.W.keepIn K (.ref g)=true
 m:mg name=some (.ref g)
def Fns'.up {P:Program} {w:World} {K:PySem.W.Frag} {mg:Str→Option Value} {base:Heap} {ps:List Str} {name:Str} {sp:Sp} {j k:Nat} (f:Fns' P w K mg base ps name sp j) (h:j≤k):Fns' P w K mg base ps name sp k:=⟨f.g,f.gd,f.ok.mono h,f.b,f.kp,f.m⟩
theorem a1b {P:Program} {w:World} {H:Hp} {h:Heap} {a:Addr} {xs:List V} (x:a0A P w H h a (.tup xs)):xs.length≤sizeLine∧∃ its:List Value,a0J xs its∧PyProof.Rows.IsTup h a its.toArray:=by
 obtain ⟨z,its,r,p⟩:=x
 exact ⟨z,its,r,a4i.is p⟩
theorem a0v.seqT {K:PySem.W.Frag} {H H':Hp} {a:Addr} {xs:List V} (e:a0v H H') (h:SqT K H a xs):SqT K H' a xs:=by
 rcases h with (h | ⟨o,h⟩) | h
 ·exact .inl (.inl (e _ _ h))
 ·exact .inl (.inr ⟨o,e _ _ h⟩)
 ·exact .inr h
def rEqLI:R2:=fun x y H Q=>∃ (a b:Addr) (ns ms:List Int),x=.ref a∧y=.ref b∧H a=some (.lst (ns.map V.int))∧H b=some (.lst (ms.map V.int))∧Q (.bl (decide (ns=ms))) H
theorem b0Q {X:Cx} (hu:X.A.units+4 < cLine):OpR X (compareOp .Eq) rEqLI:=by
 intro pins s σ H x y v u Q I rx ry h
 obtain ⟨a,b,ns,ms,rfl,rfl,e1,e2,q⟩:=h
 cases rx;cases ry
 exact b0N (A:=X.A) (n:=0) EqK.int I.hok e1 e2 (Paired.ints ns) (Paired.ints ms) (by omega) _ _ _ _ ⟨.bl _,H,I,rfl,q⟩
def rNeLI:R2:=fun x y H Q=>∃ (a b:Addr) (ns ms:List Int),x=.ref a∧y=.ref b∧H a=some (.lst (ns.map V.int))∧H b=some (.lst (ms.map V.int))∧Q (.bl (!decide (ns=ms))) H
theorem a5i {X:Cx} (hu:X.A.units+4 < cLine):OpR X (compareOp .NotEq) rNeLI:=by
 intro pins s σ H x y v u Q I rx ry h
 obtain ⟨a,b,ns,ms,rfl,rfl,e1,e2,q⟩:=h
 cases rx;cases ry
 exact b0O (A:=X.A) (n:=0) EqK.int I.hok e1 e2 (Paired.ints ns) (Paired.ints ms) (by omega) _ _ _ _ ⟨.bl _,H,I,rfl,q⟩
def SIt:Bool→Heap→Addr→Addr→Nat→Prop
 | true,h,i,l,n=>h.IsTupleIter i l n
 | false,h,i,l,n=>h.IsListIter i l n
def SAt:Bool→Heap→Addr→Array Value→Prop
 | true,h,l,xs=>h.IsTuple l xs
 | false,h,l,xs=>h.IsList l xs
theorem SIt.at {k:Bool} {h h':Heap} {i l:Addr} {n:Nat} (x:SIt k h i l n) (e:∀ o,h.get? i=some o→h'.get? i=some o):SIt k h' i l n:=by
 cases k with
 | true=>obtain ⟨o,ho,r⟩:=x;exact ⟨o,e o ho,r⟩
 | false=>obtain ⟨o,ho,r⟩:=x;exact ⟨o,e o ho,r⟩
theorem SIt.obj {k:Bool} {h:Heap} {i l:Addr} {n:Nat} (x:SIt k h i l n):∃ o,h.get? i=some o∧∀ v,o.data≠.cell v:=by
 cases k with
 | true=>obtain ⟨o,ho,_,d⟩:=x;exact ⟨o,ho,fun v z=>by rw [d] at z;cases z⟩
 | false=>obtain ⟨o,ho,_,d⟩:=x;exact ⟨o,ho,fun v z=>by rw [d] at z;cases z⟩
theorem SAt.at {k:Bool} {h h':Heap} {l:Addr} {xs:Array Value} (x:SAt k h l xs) (e:∀ o,h.get? l=some o→h'.get? l=some o):SAt k h' l xs:=by
 cases k with
 | true=>obtain ⟨o,ho,r⟩:=x;exact ⟨o,e o ho,r⟩
 | false=>obtain ⟨o,ho,r⟩:=x;exact ⟨o,e o ho,r⟩
section
variable {prog:Program} {w:World} {A:Around} {E:Value→Shared→Prop} {s:Shared} {k:Bool} {it l:Addr} {i:Nat} {xs:Array Value} {x:Value} {Q:Value→Shared→Prop}
theorem a4C (hit:SIt k s.heap it l i) (hl:SAt k s.heap l xs) (hx:xs[i]?=some x) (hQ:∀ h',SIt k h' it l (i+1)→Heap.SameBut it s.heap h'→Q x { s with heap:=h' }) :
  wpAny (model prog w) A (Builtin.SmallTypes.nextOf (.ref it)) Q E s:=by
 cases k with
 | false=>exact wpAny_nextOf_list_item hit hl hx hQ
 | true =>
  have hit':s.heap.IsTupleIter it l i:=hit
  obtain ⟨o,ho,hc,hd⟩:=id hit'
  obtain ⟨ol,hol,_,nl,hdl⟩:=hl
  unfold Builtin.SmallTypes.nextOf
  refine wpAny_bind (wpAny_callSpecial?_slot (name:=Str.ofString "__next__") hit'.typeIs F.slot_tuple_iterator_next (wpAny_call_entry F.slot_tuple_iterator_next hit'.typeIs F.entry_tuple_iterator_next ?_ (F.args_tuple_iterator_next_1 _)))
  show wpAny _ _ (field (.ref it) 0 >>= _) _ _ s
  refine wpAny_bind (wpAny_field ho hd (x:=.ref l) rfl ?_)
  show wpAny _ _ (if (Value.ref l == Value.none)=true then _ else _) _ _ s
  rw [if_neg (show ¬ ((Value.ref l == Value.none)=true) from Bool.false_ne_true)]
  show wpAny _ _ (field (.ref it) 1 >>= _) _ _ s
  refine wpAny_bind (wpAny_field ho hd (x:=.int i 0) rfl (show wpAny _ _ (seqItems? (.ref l) >>= _) _ _ s from wpAny_bind (wpAny_seqItems hol hdl ?_)))
  simp only [Int.toNat_natCast,hx]
  refine wpAny_bind (wpAny_setField ho hd (by simp) (wpAny_pure ⟨x,rfl,wpAny_pure (hQ _ ?_ (Heap.SameBut.update ..))⟩))
  exact ⟨_,Heap.get?_update_self _ ho (Obj.isFreed_of_fields (Obj.data_mapFields hd _)),(Obj.cls_mapFields ..).trans hc,by rw [Obj.data_mapFields hd];simp [rawInt]⟩
theorem endS (hh:A.handled=none) (hit:SIt k s.heap it l i) (hl:SAt k s.heap l xs) (hx:xs[i]?=none) (hE:∀ h' e,Heap.ExtBut it s.heap h'→(∃ o,h'.get? e=some o∧o.cls=.type "StopIteration")→E (.ref e) { s with heap:=h' }) :
  wpAny (model prog w) A (Builtin.SmallTypes.nextOf (.ref it)) Q E s:=by
 cases k with
 | false=>exact wpAny_nextOf_list_end hh hit hl hx hE
 | true =>
  have hit':s.heap.IsTupleIter it l i:=hit
  obtain ⟨o,ho,hc,hd⟩:=id hit'
  obtain ⟨ol,hol,_,nl,hdl⟩:=hl
  unfold Builtin.SmallTypes.nextOf
  refine wpAny_bind (wpAny_callSpecial?_slot (name:=Str.ofString "__next__") hit'.typeIs F.slot_tuple_iterator_next (wpAny_call_entry F.slot_tuple_iterator_next hit'.typeIs F.entry_tuple_iterator_next ?_ (F.args_tuple_iterator_next_1 _)))
  show wpAny _ _ (field (.ref it) 0 >>= _) _ _ s
  refine wpAny_bind (wpAny_field ho hd (x:=.ref l) rfl ?_)
  show wpAny _ _ (if (Value.ref l == Value.none)=true then _ else _) _ _ s
  rw [if_neg (show ¬ ((Value.ref l == Value.none)=true) from Bool.false_ne_true)]
  show wpAny _ _ (field (.ref it) 1 >>= _) _ _ s
  refine wpAny_bind (wpAny_field ho hd (x:=.int i 0) rfl (show wpAny _ _ (seqItems? (.ref l) >>= _) _ _ s from wpAny_bind (wpAny_seqItems hol hdl ?_)))
  simp only [Int.toNat_natCast,hx]
  refine wpAny_bind (wpAny_rule (wpAny_bind (wpAny_setField ho hd (by simp) ?_)))
  show wpAny _ _ (newExc (.type "StopIteration") [] >>= _) _ _ _
  refine wpAny_bind ?_
  simp only [newExc,newTuple]
  refine wpAny_bind (wpAny_newObj_type ?_ (by size_fits))
  refine wpAny_bind (m:=firstArgMember _ _) (wpAny_of_eq (a:=Value.none) (by first | rfl | (simp only [firstArgMember];rfl)) ?_)
  refine wpAny_newObj_type ?_ (by size_fits)
  simp only [raiseNew]
  refine wpAny_bind (wpAny_handled ?_)
  rw [show A.in1.handled=none from hh]
  refine wpAny_bind (wpAny_pure (wpAny_throw ?_))
  exact hE _ _ (((Heap.SameBut.update ..).extBut.push _).push _) ⟨_,Heap.get?_push_size _ rfl,rfl⟩
end
structure ZAt (ka kb:Bool) (z TI TO i1 i2 l1 l2:Addr) (n:Nat) (h:Heap):Prop where
 zp:IsZip h z TI TO .none
 ti:IsPair h TI (.ref i1) (.ref i2)
 to_:∃ a b,IsPair h TO a b
 a1:SIt ka h i1 l1 n
 a2:SIt kb h i2 l2 n
section
variable {prog:Program} {w:World} {A:Around} {E:Value→Shared→Prop} {s:Shared} {ka kb:Bool} {z TI TO i1 i2 l1 l2:Addr} {n:Nat} {xs ys:Array Value} {x y:Value}
theorem a7M {Q:Value→Shared→Prop} (D:ZipApart z TI TO i1 i2 l1 l2) (Z:ZAt ka kb z TI TO i1 i2 l1 l2 n s.heap) (hl1:SAt ka s.heap l1 xs) (hl2:SAt kb s.heap l2 ys) (hx:xs[n]?=some x) (hy:ys[n]?=some y)
  (hQ:∀ h',IsZip h' z TI TO (rawInt s.heap.objs.size)→IsPair h' TO x y→SIt ka h' i1 l1 (n+1)→SIt kb h' i2 l2 (n+1)→IsPair h' s.heap.objs.size x y →
   (∀ c o,c≠z→c≠TO→c≠i1→c≠i2→s.heap.get? c=some o→h'.get? c=some o)→Q (.ref s.heap.objs.size) { s with heap:=h' }) :
  wpAny (model prog w) A (Builtin.«zip.__next__» ⟨[.ref z],[]⟩) (fun fin s'=>∃ v,fin=.done (.ret v)∧Q v s') E s:=by
 obtain ⟨hz,hTI,⟨a,b,hTO⟩,h1,h2⟩:=Z
 show wpAny _ _ (field (.ref z) 2 >>= _) _ _ _
 refine wpAny_bind (wpAny_field hz rfl (x:=.bool false) rfl ?_)
 show wpAny _ _ (field (.ref z) 3 >>= _) _ _ _
 refine wpAny_bind (wpAny_field hz rfl (x:=.ref TI) rfl (wpAny_bind (wpAny_seqItems hTI rfl ?_)))
 show wpAny _ _ (Builtin.SmallTypes.ownedTupleIsFree (.ref z) >>= _) _ _ _
 refine wpAny_bind ?_
 unfold Builtin.SmallTypes.ownedTupleIsFree
 refine wpAny_bind (wpAny_field hz rfl (x:=.none) rfl (wpAny_pure ?_))
 simp only [if_true]
 refine wpAny_bind (wpAny_rule (wpAny_bind (wpAny_field hz rfl (x:=.ref TO) rfl (wpAny_bind (wpAny_setField_rec hz (by simp) fun g1 z1 b1=>?_)))))
 have z1':IsZip g1 z TI TO .ellipsis:=z1
 have k1:∀ c o,c≠z→s.heap.get? c=some o→g1.get? c=some o:=fun c o hc e=>b1.extBut _ _ hc e
 refine wpAny_bind ?_
 simp only [List.zipIdx_cons,List.zipIdx_nil,List.forIn_cons,List.forIn_nil]
 refine wpAny_bind (wpAny_bind (wpAny_onRaise ?_))
 show wpAny _ _ (Builtin.SmallTypes.nextOf (.ref i1) >>= _) _ _ _
 refine wpAny_bind (a4C (s:={ s with heap:=g1 }) (h1.at fun o e=>k1 _ o D.i1z e) (hl1.at fun o e=>k1 _ o D.l1z e) hx fun g2 h12 b2=>wpAny_pure ?_)
 have k2:∀ c o,c≠z→c≠i1→s.heap.get? c=some o→g2.get? c=some o:=fun c o hc hd e=>b2.extBut _ _ hd (k1 c o hc e)
 have o2:IsPair g2 TO a b:=k2 _ _ D.TOz D.TOi1 hTO
 refine wpAny_bind (wpAny_seqItems o2 rfl (wpAny_bind (wpAny_updateSeq_pair (s:={ s with heap:=g2 }) o2 fun g3 o3 b3=>?_)))
 have o3':IsPair g3 TO x b:=o3
 refine wpAny_bind (wpAny_letGo (wpAny_pure ?_))
 refine wpAny_bind (wpAny_bind (wpAny_onRaise ?_))
 show wpAny _ _ (Builtin.SmallTypes.nextOf (.ref i2) >>= _) _ _ _
 have k3:∀ c o,c≠z→c≠i1→c≠TO→s.heap.get? c=some o→g3.get? c=some o:=fun c o hc hd he e=>b3.extBut _ _ he (k2 c o hc hd e)
 refine wpAny_bind (a4C (s:={ s with heap:=g3 }) (h2.at fun o e=>k3 _ o D.i2z D.i12.symm D.TOi2.symm e) (hl2.at fun o e=>k3 _ o D.l2z D.l2i1 D.l2TO e) hy fun g4 h24 b4=>wpAny_pure ?_)
 have o4:IsPair g4 TO x b:=b4.extBut _ _ D.TOi2 o3'
 refine wpAny_bind (wpAny_seqItems o4 rfl (wpAny_bind (wpAny_updateSeq_pair (s:={ s with heap:=g4 }) o4 fun g5 o5 b5=>?_)))
 have o5':IsPair g5 TO x y:=o5
 refine wpAny_bind (wpAny_letGo (wpAny_pure (wpAny_pure ?_)))
 refine wpAny_bind (wpAny_seqItems o5' rfl (wpAny_bind (wpAny_newTuple ?_)))
 have sz:g5.objs.size=s.heap.objs.size:=by rw [b5.1,b4.1,b3.1,b2.1,b1.1]
 have z5:IsZip g5 z TI TO .ellipsis:=b5.extBut _ _ D.TOz.symm (b4.extBut _ _ D.i2z.symm (b3.extBut _ _ D.TOz.symm (b2.extBut _ _ D.i1z.symm z1')))
 have k5:∀ c o,c≠z→c≠TO→c≠i1→c≠i2→s.heap.get? c=some o→g5.get? c=some o:=fun c o c1 c2 c3 c4 e=>b5.extBut _ _ c2 (b4.extBut _ _ c4 (k3 c o c1 c3 c2 e))
 have h15:SIt ka g5 i1 l1 (n+1):=h12.at fun o e=>b5.extBut _ _ D.TOi1.symm (b4.extBut _ _ D.i12 (b3.extBut _ _ D.TOi1.symm e))
 have h25:SIt kb g5 i2 l2 (n+1):=h24.at fun o e=>b5.extBut _ _ D.TOi2.symm e
 have zl:z < g5.objs.size:=Heap.lt_size z5
 show wpAny _ _ (Builtin.SmallTypes.ownedTupleHandOut (.ref z) (.ref g5.objs.size) >>= _) _ _ _
 refine wpAny_bind ?_
 unfold Builtin.SmallTypes.ownedTupleHandOut
 have z6:IsZip (g5.push { cls:=.type "tuple",data:=.seq #[x,y] }) z TI TO .ellipsis:=Heap.get?_push_of_some _ z5
 refine wpAny_bind (wpAny_setField_rec z6 (by simp) fun g7 z7 b7=>?_)
 replace z7:IsZip g7 z TI TO (rawInt g5.objs.size):=z7
 refine wpAny_setField_rec z7 (by simp) fun g8 z8 b8=>?_
 replace z8:IsZip g8 z TI TO (rawInt g5.objs.size):=z8
 have up:∀ c o,c≠z→g5.get? c=some o→g8.get? c=some o:=fun c o c1 e=>b8.extBut _ _ c1 (b7.extBut _ _ c1 (Heap.get?_push_of_some _ e))
 have p8:IsPair g8 g5.objs.size x y:=b8.extBut _ _ (Nat.ne_of_gt zl) (b7.extBut _ _ (Nat.ne_of_gt zl) (Heap.get?_push_size _ rfl))
 rw [sz] at z8 p8
 refine wpAny_pure ⟨_,rfl,?_⟩
 show Q (.ref g5.objs.size) _
 rw [sz]
 exact hQ g8 z8 (up _ _ D.TOz o5') (h15.at fun o e=>up _ o D.i1z e) (h25.at fun o e=>up _ o D.i2z e) p8 fun c o c1 c2 c3 c4 e=>up c o c1 (k5 c o c1 c2 c3 c4 e)
theorem a9e {Q:Fin→Shared→Prop} (hh:A.handled=none) (D:ZipApart z TI TO i1 i2 l1 l2) (Z:ZAt ka kb z TI TO i1 i2 l1 l2 n s.heap) (hl1:SAt ka s.heap l1 xs) (hl2:SAt kb s.heap l2 ys) (hend:xs[n]?=none∨ys[n]?=none)
  (hE:∀ h' e,(∀ c o,c≠z→c≠TO→c≠i1→c≠i2→s.heap.get? c=some o→h'.get? c=some o)→(∃ o,h'.get? e=some o∧o.cls=.type "StopIteration")→E (.ref e) { s with heap:=h' }) :
  wpAny (model prog w) A (Builtin.«zip.__next__» ⟨[.ref z],[]⟩) Q E s:=by
 obtain ⟨hz,hTI,⟨a,b,hTO⟩,h1,h2⟩:=Z
 show wpAny _ _ (field (.ref z) 2 >>= _) _ _ _
 refine wpAny_bind (wpAny_field hz rfl (x:=.bool false) rfl ?_)
 show wpAny _ _ (field (.ref z) 3 >>= _) _ _ _
 refine wpAny_bind (wpAny_field hz rfl (x:=.ref TI) rfl (wpAny_bind (wpAny_seqItems hTI rfl ?_)))
 show wpAny _ _ (Builtin.SmallTypes.ownedTupleIsFree (.ref z) >>= _) _ _ _
 refine wpAny_bind ?_
 unfold Builtin.SmallTypes.ownedTupleIsFree
 refine wpAny_bind (wpAny_field hz rfl (x:=.none) rfl (wpAny_pure ?_))
 simp only [if_true]
 refine wpAny_bind (wpAny_rule (wpAny_bind (wpAny_field hz rfl (x:=.ref TO) rfl (wpAny_bind (wpAny_setField_rec hz (by simp) fun g1 z1 b1=>?_)))))
 have z1':IsZip g1 z TI TO .ellipsis:=z1
 have k1:∀ c o,c≠z→s.heap.get? c=some o→g1.get? c=some o:=fun c o hc e=>b1.extBut _ _ hc e
 refine wpAny_bind ?_
 simp only [List.zipIdx_cons,List.zipIdx_nil,List.forIn_cons,List.forIn_nil]
 refine wpAny_bind (wpAny_bind (wpAny_onRaise ?_))
 show wpAny _ _ (Builtin.SmallTypes.nextOf (.ref i1) >>= _) _ _ _
 cases hx:xs[n]? with
 | none =>
  refine wpAny_bind (endS (s:={ s with heap:=g1 }) hh (h1.at fun o e=>k1 _ o D.i1z e) (hl1.at fun o e=>k1 _ o D.l1z e) hx fun g2 e b2 ⟨oe,he,ce⟩=>?_)
  have z2:IsZip g2 z TI TO .ellipsis:=b2 _ _ D.i1z.symm z1'
  have ez:e≠z:=fun q=>by subst q;rw [z2] at he;cases he;simp at ce
  exact wpAny_setField_rec z2 (by simp) fun g3 _ b3=>hE g3 e (fun c o c1 _ c3 _ q=>b3.extBut _ _ c1 (b2 _ _ c3 (k1 c o c1 q))) ⟨oe,b3.extBut _ _ ez he,ce⟩
 | some x =>
  have hy:ys[n]?=none:=hend.resolve_left fun q=>by rw [hx] at q;cases q
  refine wpAny_bind (a4C (s:={ s with heap:=g1 }) (h1.at fun o e=>k1 _ o D.i1z e) (hl1.at fun o e=>k1 _ o D.l1z e) hx fun g2 h12 b2=>wpAny_pure ?_)
  have k2:∀ c o,c≠z→c≠i1→s.heap.get? c=some o→g2.get? c=some o:=fun c o hc hd e=>b2.extBut _ _ hd (k1 c o hc e)
  have o2:IsPair g2 TO a b:=k2 _ _ D.TOz D.TOi1 hTO
  refine wpAny_bind (wpAny_seqItems o2 rfl (wpAny_bind (wpAny_updateSeq_pair (s:={ s with heap:=g2 }) o2 fun g3 o3 b3=>?_)))
  refine wpAny_bind (wpAny_letGo (wpAny_pure ?_))
  refine wpAny_bind (wpAny_bind (wpAny_onRaise ?_))
  show wpAny _ _ (Builtin.SmallTypes.nextOf (.ref i2) >>= _) _ _ _
  have k3:∀ c o,c≠z→c≠i1→c≠TO→s.heap.get? c=some o→g3.get? c=some o:=fun c o hc hd he e=>b3.extBut _ _ he (k2 c o hc hd e)
  refine wpAny_bind (endS (s:={ s with heap:=g3 }) hh (h2.at fun o e=>k3 _ o D.i2z D.i12.symm D.TOi2.symm e) (hl2.at fun o e=>k3 _ o D.l2z D.l2i1 D.l2TO e) hy fun g4 e b4 ⟨oe,he,ce⟩=>?_)
  have z4:IsZip g4 z TI TO .ellipsis:=b4 _ _ D.i2z.symm (b3.extBut _ _ D.TOz.symm (b2.extBut _ _ D.i1z.symm z1'))
  have ez:e≠z:=fun q=>by subst q;rw [z4] at he;cases he;simp at ce
  exact wpAny_setField_rec z4 (by simp) fun g5 _ b5=>hE g5 e (fun c o c1 c2 c3 c4 q=>b5.extBut _ _ c1 (b4 _ _ c4 (k3 c o c1 c3 c2 q))) ⟨oe,b5.extBut _ _ ez he,ce⟩
theorem a4D {Q:Option Value→Shared→Prop} (D:ZipApart z TI TO i1 i2 l1 l2) (Z:ZAt ka kb z TI TO i1 i2 l1 l2 n s.heap) (hl1:SAt ka s.heap l1 xs) (hl2:SAt kb s.heap l2 ys) (hx:xs[n]?=some x) (hy:ys[n]?=some y)
  (hQ:∀ h',IsZip h' z TI TO (rawInt s.heap.objs.size)→IsPair h' TO x y→SIt ka h' i1 l1 (n+1)→SIt kb h' i2 l2 (n+1)→IsPair h' s.heap.objs.size x y →
   (∀ c o,c≠z→c≠TO→c≠i1→c≠i2→s.heap.get? c=some o→h'.get? c=some o)→Q (some (.ref s.heap.objs.size)) { s with heap:=h' }):wpAny (model prog w) A (pyNext (.ref z)) Q E s:=by
 have hT:s.TypeIs (.ref z) "zip":=⟨_,Z.zp,rfl⟩
 unfold pyNext
 exact wpAny_bind (wpAny_attempt (wpAny_callSpecial?_slot (name:=Str.ofString "__next__") hT F.slot_zip_next (wpAny_call_entry F.slot_zip_next hT F.entry_zip_next
  (a7M D Z hl1 hl2 hx hy fun h' a1 a2 a3 a4 a5 a7=>wpAny_pure (hQ h' a1 a2 a3 a4 a5 a7)) (F.args_zip_next_1 _))))
theorem a4E {Q:Option Value→Shared→Prop} (hh:A.handled=none) (D:ZipApart z TI TO i1 i2 l1 l2) (Z:ZAt ka kb z TI TO i1 i2 l1 l2 n s.heap) (hl1:SAt ka s.heap l1 xs) (hl2:SAt kb s.heap l2 ys) (hend:xs[n]?=none∨ys[n]?=none)
  (hQ:∀ h',(∀ c o,c≠z→c≠TO→c≠i1→c≠i2→s.heap.get? c=some o→h'.get? c=some o)→Q none { s with heap:=h' }):wpAny (model prog w) A (pyNext (.ref z)) Q E s:=by
 have hT:s.TypeIs (.ref z) "zip":=⟨_,Z.zp,rfl⟩
 unfold pyNext
 refine wpAny_bind (wpAny_attempt (wpAny_callSpecial?_slot (name:=Str.ofString "__next__") hT F.slot_zip_next (wpAny_call_entry F.slot_zip_next hT F.entry_zip_next (a9e hh D Z hl1 hl2 hend fun h' e hk he=>?_) (F.args_zip_next_1 _))))
 obtain ⟨o,ho,hc⟩:=he
 exact wpAny_bind (wpAny_isInstance (T:="StopIteration") (b:=true) ⟨o,ho,hc⟩ isSubtype_stop (wpAny_pure (hQ _ hk)))
end
def SqK (K:PySem.W.Frag):Bool→Hp→Addr→List V→Prop
 | true,H,a,xs=>SqT K H a xs
 | false,H,a,xs=>SqL K H a xs
theorem a5j {X:Cx} {pins:List (Addr × Obj)} {σ:St} {H:Hp} {s:Shared} {k:Bool} {a:Addr} {xs:List V} (I:Inv X pins σ H s) (h:SqK X.K k H a xs):∃ us,a0J xs us∧SAt k s.heap a us.toArray:=by
 cases k with
 | true =>
  obtain ⟨its,rv,p,hz⟩:=I.tuple h
  exact ⟨its,rv,p⟩
 | false =>
  obtain ⟨its,rv,p,hz⟩:=I.list h
  exact ⟨its,rv,p.isList⟩
theorem a3O {X:Cx} {pins:List (Addr × Obj)} {σ:St} {H:Hp} {s:Shared} {k:Bool} {a:Addr} {xs ys:List V} (I:Inv X pins σ H s) (h:SqK X.K k H a xs) (h2:SqK X.K k H a ys):xs=ys:=by
 cases k with
 | true=>exact I.tuple_inj h h2
 | false=>exact I.list_inj h h2
theorem Inv.turnedL {X:Cx} {pins:List (Addr × Obj)} {σ:St} {H:Hp} {s:Shared} {h':Heap} {t':Nat} {L:List Addr} (I:Inv X pins σ H s) (k:∀ b o,b∉L→s.heap.get? b=some o→h'.get? b=some o) (hf:∀ b∈L,a4n X pins H b):Inv X pins σ H { s with heap:=h',toks:=t' }:=by
 have nit:∀ b u,H b=some u→b∉L:=fun b u e z=>by rw [(hf b z).1] at e;cases e
 have nl:X.env.locals∉L:=fun z=>(hf _ z).2.1 rfl
 refine I.step (g':=s.gens) (d':=s.drawn) (ch:=L) (fun b hb=>?_) (fun b o _ _ hc e _=>k b o hc e) (fun b o _ _ hc e _=>⟨o.slots,k b o hc e⟩) (fun _ _ _ _ n=>n)
  (fun b o hc e=>⟨o,k b o hc e⟩) (fun _ _ e=>e) (fun _ _ _ e=>e) (fun b ps e=>⟨#[],by rw [e];simp⟩) (fun m hm=>?_) (fun b u e=>?_) I.bare
 ·obtain ⟨f0,f1,f2,f3,f4,f5⟩:=hf b hb
  exact ⟨f3,f1,f4,f5⟩
 ·obtain ⟨o,es,ep,ho,r⟩:=hm
  exact ⟨o,es,ep,k _ o nl ho,r⟩
 ·refine (I.hok b u e).stay (fun c v hc q=>k c v ?_ q) (fun _ q=>q) fun _ _ q=>q
  rcases hc with z | z
  ·rw [z];exact nit b u e
  ·exact nit c _ z
def Itz (K:PySem.W.Frag) (ka kb:Bool) (a b:Addr):It :=
 ⟨fun i H=>∃ xs ys x y,SqK K ka H a xs∧SqK K kb H b ys∧xs[i]?=some x∧ys[i]?=some y,
  fun i H v H'=>∃ p x y,v=.ref p∧H p=none∧(∀ xs,SqK K ka H a xs→xs[i]?=some x)∧(∀ ys,SqK K kb H b ys→ys[i]?=some y)∧H'=upd H p (.tup [x,y]),
  fun i H=>∃ xs ys,SqK K ka H a xs∧SqK K kb H b ys∧(xs.length≤i∨ys.length≤i)⟩
theorem ZAt.obj {ka kb:Bool} {z TI TO i1 i2 l1 l2:Addr} {n:Nat} {h:Heap} (Z:ZAt ka kb z TI TO i1 i2 l1 l2 n h):∀ b∈[z,TI,TO,i1,i2],∃ o,h.get? b=some o∧∀ v,o.data≠.cell v:=fun b hb=>by
 obtain ⟨hz,hTI,⟨x,y,hTO⟩,h1,h2⟩:=Z
 simp only [List.mem_cons,List.not_mem_nil,or_false] at hb
 rcases hb with rfl | rfl | rfl | rfl | rfl
 ·exact ⟨_,hz,fun v z=>by cases z⟩
 ·exact ⟨_,hTI,fun v z=>by cases z⟩
 ·exact ⟨_,hTO,fun v z=>by cases z⟩
 ·exact h1.obj
 ·exact h2.obj
theorem a9f {P:Program} {w:World} {K:PySem.W.Frag} {elts:List Expr} {x1} {pos:Pos} {ka kb:Bool} {z TI TO i1 i2 a b:Addr} (D:ZipApart z TI TO i1 i2 a b):b0z P w K (.Tuple elts x1 pos) (Itz K ka kb a b) [z,TI,TO,i1,i2] z (fun n h=>ZAt ka kb z TI TO i1 i2 a b n h) where
 mem:=by simp
 obj:=fun i h st=>st.obj
 keep:=fun i h h' ⟨hz,hTI,⟨x,y,hTO⟩,h1,h2⟩ k=>⟨k z (by simp) _ hz,k TI (by simp) _ hTI,⟨x,y,k TO (by simp) _ hTO⟩,h1.at fun o e=>k i1 (by simp) o e,h2.at fun o e=>k i2 (by simp) o e⟩
 item:=by
  intro X hP hw hK hc i pins s σ H E I hf st hg
  subst hP hw hK
  obtain ⟨xs,ys,x,y,q1,q2,hx,hy⟩:=hg
  obtain ⟨us,r1,p1⟩:=a5j I q1
  obtain ⟨vs,r2,p2⟩:=a5j I q2
  obtain ⟨u,hu,ru⟩:=r1.get hx
  obtain ⟨v,hv,rv⟩:=r2.get hy
  have lt:∀ b∈[z,TI,TO,i1,i2],b < s.heap.objs.size:=fun b hb=>by
   obtain ⟨o,ho,_⟩:=st.obj b hb
   exact Heap.lt_size ho
  refine a4D D st p1 p2 (x:=u) (y:=v) (by simpa using hu) (by simpa using hv) fun h' z1 o1 a1 a2 pr kk=>?_
  refine ⟨_,rfl,wpAny_letOwnedTupleGo_zip (s:={ s with heap:=h' }) z1 fun h2 z2 b2=>?_⟩
  have hT:H s.heap.objs.size=none:=I.hok.fresh (Nat.le_refl _)
  have I1:Inv X pins σ (upd H s.heap.objs.size (.tup [x,y])) { s with heap:=s.heap.push { cls:=.type "tuple",data:=.seq #[u,v] } }:=I.laid (t':=s.toks) (fun b u e=>Heap.get?_push_of_some _ e) (Nat.le_refl _) ⟨by show 2≤sizeLine;decide,[u,v],.cons ru (.cons rv .nil),⟨_,Heap.get?_push_size _ rfl,_,rfl⟩⟩
  have Tz:s.heap.objs.size≠z:=Nat.ne_of_gt (lt z (by simp))
  have fp:∀ b∈[z,TI,TO,i1,i2],a4n X pins (upd H s.heap.objs.size (.tup [x,y])) b:=fun b hb=>by
   obtain ⟨f0,f1,f2,f3,f4,f5⟩:=hf b hb
   exact ⟨by rw [a0n (Nat.ne_of_lt (lt b hb))];exact f0,f1,f2,f3,f4,f5⟩
  have I2:=I1.turnedL (h':=h2) (t':=s.toks) (fun c o hc e=>by
   simp only [List.mem_cons,List.not_mem_nil,or_false,not_or] at hc
   by_cases zc:c=s.heap.objs.size
   ·subst zc
    rw [Heap.get?_push_size _ rfl] at e
    cases e
    exact b2.extBut _ _ Tz pr
   ·have e':s.heap.get? c=some o:=by rw [←e];exact (Heap.get?_push_ne _ _ _ zc).symm
    exact b2.extBut _ _ hc.1 (kk c o hc.1 hc.2.2.1 hc.2.2.2.1 hc.2.2.2.2 e')) fp
  refine ⟨.ref s.heap.objs.size,_,I2,rfl,⟨_,x,y,rfl,hT,fun zs hz=>?_,fun zs hz=>?_,rfl⟩,⟨z2,b2.extBut _ _ D.TIz (kk _ _ D.TIz D.TITO D.TIi1 D.TIi2 st.ti),⟨u,v,b2.extBut _ _ D.TOz o1⟩,a1.at fun o e=>b2.extBut _ _ D.i1z e,a2.at fun o e=>b2.extBut _ _ D.i2z e⟩,fun b hb=>(fp b hb).1⟩
  ·rw [a3O I hz q1];exact hx
  ·rw [a3O I hz q2];exact hy
 done:=by
  intro X hP hw hK hc i pins s σ H E I hf st hg
  subst hP hw hK
  obtain ⟨xs,ys,q1,q2,hl⟩:=hg
  obtain ⟨us,r1,p1⟩:=a5j I q1
  obtain ⟨vs,r2,p2⟩:=a5j I q2
  have e1:=r1.length
  have e2:=r2.length
  refine a4E (I.ok.hd hc) D st p1 p2 (hl.elim (fun q=>.inl (by simp;omega)) fun q=>.inr (by simp;omega)) fun h' kk=>⟨rfl,I.turnedL (t':=s.toks) (fun c o hc e=>?_) hf⟩
  simp only [List.mem_cons,List.not_mem_nil,or_false,not_or] at hc
  exact kk c o hc.1 hc.2.2.1 hc.2.2.2.1 hc.2.2.2.2 e
 self:=fun _ _ _ _ _ st h=>wpAny_pyIter_zip st.zp h
def itO (k:Bool) (l:Addr):Obj:=match k with
 | true=>{ cls:=.type "tuple_iterator",data:=.fields #[.ref l,.int 0 0] }
 | false=>{ cls:=.type "list_iterator",data:=.fields #[.ref l,.int 0 0] }
theorem a7N {prog:Program} {w:World} {A:Around} {E:Value→Shared→Prop} {s:Shared} {k:Bool} {l:Addr} {xs:Array Value} {Q:Value→Shared→Prop} (h:SAt k s.heap l xs) (hQ:Q (.ref s.heap.objs.size) { s with heap:=s.heap.push (itO k l) }) :
  wpAny (model prog w) A (pyIter (.ref l)) Q E s:=by
 cases k with
 | true=>exact wpAny_pyIter_tuple h hQ
 | false=>exact wpAny_pyIter_list h hQ
theorem a3P {k:Bool} {l:Addr}:(itO k l).isFreed=false:=by cases k <;> rfl
theorem SIt.new {k:Bool} {l i:Addr} {h:Heap} (e:h.get? i=some (itO k l)):SIt k h i l 0:=by
 cases k with
 | true=>exact ⟨_,e,rfl,rfl⟩
 | false=>exact ⟨_,e,rfl,rfl⟩
def a9g (h:Heap) (ka kb:Bool) (l1 l2:Addr):Heap:=((((h.push (itO ka l1)).push (itO kb l2)).push { cls:=.type "tuple",data:=.seq #[.ref h.objs.size,.ref (h.push (itO ka l1)).objs.size] }).push { cls:=.type "tuple",data:=.seq #[.none,.none] }).push
 { cls:=.type "zip",data:=.fields #[.none,.bool false,.bool false,.ref ((h.push (itO ka l1)).push (itO kb l2)).objs.size,.ref (((h.push (itO ka l1)).push (itO kb l2)).push { cls:=.type "tuple",data:=.seq #[.ref h.objs.size,.ref (h.push (itO ka l1)).objs.size] }).objs.size] }
theorem meetsS (ka kb:Bool) (l1 l2:Addr) (xs ys:Array Value) :
  Meets (Builtin.«zip.__new__» ⟨[.type "zip",.ref l1,.ref l2],[]⟩) (fun _ R s=>SAt ka s.heap l1 xs∧SAt kb s.heap l2 ys∧R (.ok (.ret (.ref (s.heap.objs.size+4)))) { s with heap:=a9g s.heap ka kb l1 l2 }) :=
 .of_wp fun prog w A R s h=>by
  obtain ⟨hp,g,d,tk,os⟩:=s
  obtain ⟨hl1,hl2,h⟩:=h
  have hsub:=sub_zip
  have hL1:SAt ka (Shared.heap ⟨hp,g,d,tk,os⟩) l1 xs:=hl1
  have hL2:SAt kb (Shared.heap ⟨hp.push (itO ka l1),g,d,tk,os⟩) l2 ys:=hl2.at fun o e=>Heap.get?_push_of_some _ e
  wp_walk using a7N hL1,a7N hL2
  refine ⟨_,rfl,?_⟩
  have z:((((hp.push (itO ka l1)).push (itO kb l2)).push { cls:=.type "tuple",data:=.seq #[.ref hp.objs.size,.ref (hp.push (itO ka l1)).objs.size] }).push { cls:=.type "tuple",data:=.seq #[.none,.none] }).objs.size=hp.objs.size+4:=by
   rw [Heap.size_push,Heap.size_push,Heap.size_push,Heap.size_push]
  rw [←z] at h
  exact h
theorem callS {prog:Program} {w:World} {A:Around} {E:Value→Shared→Prop} {s:Shared} {ka kb:Bool} {l1 l2:Addr} {xs ys:Array Value} {Q:Value→Shared→Prop} (h1:SAt ka s.heap l1 xs) (h2:SAt kb s.heap l2 ys)
  (h:∀ h',ZAt ka kb (s.heap.objs.size+4) (s.heap.objs.size+2) (s.heap.objs.size+3) s.heap.objs.size (s.heap.objs.size+1) l1 l2 0 h'→(∀ c o,s.heap.get? c=some o→h'.get? c=some o)→Q (.ref (s.heap.objs.size+4)) { s with heap:=h' }) :
  wpAny (model prog w) A (call (.type "zip") [.ref l1,.ref l2]) Q E s:=by
 refine callType_new F.called_zip (by decide) (F.typeCall_zip_2 _ _) (F.newCall_zip_2 _ _) (fun obj=>F.args_object_init_3 obj _ _) F.entry_zip_new (meetsS ka kb l1 l2 xs ys) ⟨h1,h2,?_⟩
 have kp:∀ c o,s.heap.get? c=some o→(a9g s.heap ka kb l1 l2).get? c=some o:=fun c o x=>Heap.get?_push_of_some _ (Heap.get?_push_of_some _ (Heap.get?_push_of_some _ (Heap.get?_push_of_some _ (Heap.get?_push_of_some _ x))))
 have z1:(s.heap.push (itO ka l1)).objs.size=s.heap.objs.size+1:=Heap.size_push ..
 have z2:((s.heap.push (itO ka l1)).push (itO kb l2)).objs.size=s.heap.objs.size+2:=by rw [Heap.size_push,z1]
 have z3:(((s.heap.push (itO ka l1)).push (itO kb l2)).push { cls:=.type "tuple",data:=.seq #[.ref s.heap.objs.size,.ref (s.heap.push (itO ka l1)).objs.size] }).objs.size=s.heap.objs.size+3:=by rw [Heap.size_push,z2]
 have z4:((((s.heap.push (itO ka l1)).push (itO kb l2)).push { cls:=.type "tuple",data:=.seq #[.ref s.heap.objs.size,.ref (s.heap.push (itO ka l1)).objs.size] }).push { cls:=.type "tuple",data:=.seq #[.none,.none] }).objs.size=s.heap.objs.size+4:=by rw [Heap.size_push,z3]
 have g1:(a9g s.heap ka kb l1 l2).get? s.heap.objs.size=some (itO ka l1):=Heap.get?_push_of_some _ (Heap.get?_push_of_some _ (Heap.get?_push_of_some _ (Heap.get?_push_of_some _ (Heap.get?_push_size _ a3P))))
 have g2:(a9g s.heap ka kb l1 l2).get? (s.heap.objs.size+1)=some (itO kb l2):=by rw [←z1];exact Heap.get?_push_of_some _ (Heap.get?_push_of_some _ (Heap.get?_push_of_some _ (Heap.get?_push_size _ a3P)))
 have g3:(a9g s.heap ka kb l1 l2).get? (s.heap.objs.size+2)=some { cls:=.type "tuple",data:=.seq #[.ref s.heap.objs.size,.ref (s.heap.objs.size+1)] }:=by
  rw [←z2]
  have q:(a9g s.heap ka kb l1 l2).get? ((s.heap.push (itO ka l1)).push (itO kb l2)).objs.size=some { cls:=.type "tuple",data:=.seq #[.ref s.heap.objs.size,.ref (s.heap.push (itO ka l1)).objs.size] }:=Heap.get?_push_of_some _ (Heap.get?_push_of_some _ (Heap.get?_push_size _ rfl))
  rw [z1] at q
  exact q
 have g4:(a9g s.heap ka kb l1 l2).get? (s.heap.objs.size+3)=some { cls:=.type "tuple",data:=.seq #[.none,.none] }:=by rw [←z3];exact Heap.get?_push_of_some _ (Heap.get?_push_size _ rfl)
 have g5:(a9g s.heap ka kb l1 l2).get? (s.heap.objs.size+4)=some { cls:=.type "zip",data:=.fields #[.none,.bool false,.bool false,.ref (s.heap.objs.size+2),.ref (s.heap.objs.size+3)] }:=by
  rw [←z4]
  have q:(a9g s.heap ka kb l1 l2).get? ((((s.heap.push (itO ka l1)).push (itO kb l2)).push { cls:=.type "tuple",data:=.seq #[.ref s.heap.objs.size,.ref (s.heap.push (itO ka l1)).objs.size] }).push { cls:=.type "tuple",data:=.seq #[.none,.none] }).objs.size=some { cls:=.type "zip",data:=.fields #[.none,.bool false,.bool false,.ref ((s.heap.push (itO ka l1)).push (itO kb l2)).objs.size,.ref (((s.heap.push (itO ka l1)).push (itO kb l2)).push { cls:=.type "tuple",data:=.seq #[.ref s.heap.objs.size,.ref (s.heap.push (itO ka l1)).objs.size] }).objs.size] }:=Heap.get?_push_size _ rfl
  rw [z2,z3] at q
  exact q
 show _∧_
 exact ⟨⟨_,g5,rfl⟩,h _ ⟨g5,g3,⟨_,_,g4⟩,.new g1,.new g2⟩ kp⟩
theorem b_zip:bootBuiltins "zip"=some (.type "zip"):=by decide +kernel
def iZip (K:PySem.W.Frag) (ka kb:Bool) (ta:TA):TI:=fun σ H R=>ta σ H fun vs H1=>∃ a b xs ys,vs=[.ref a,.ref b]∧SqK K ka H1 a xs∧SqK K kb H1 b ys∧R (Itz K ka kb a b) H1
theorem pi_zip {X:Cx} {elts:List Expr} {x1} {tp:Pos} {a b:Expr} {ta:TA} {p pos:Pos} (ka kb:Bool) (hg:Gl X "zip") (hm:X.mg "zip"=none) (ha:PA X [a,b] ta) (hs:starEach [a,b] X.env=[(false,eval a X.env),(false,eval b X.env)]:=by rfl) (hs2:starEach [b] X.env=[(false,eval b X.env)]:=by rfl) :
  PI X (.Tuple elts x1 tp) (.Call (.Name "zip" p) [a,b] [] pos) (iZip X.K ka kb ta):=by
 intro pins s σ H R I h
 refine Call_ (a1M I hg hm b_zip (PyProof.Rows.callWith_type1 (thn (ha pos pins s σ H _ I h) fun us s1 ⟨vs,H1,I1,r1,q1⟩=>?_) (by rw [hs,hs2]) (by rw [hs2];rfl)))
 obtain ⟨a',b',xs,ys,e,q1,q2,q⟩:=q1
 subst e
 obtain ⟨u,v,rfl,r1,r2⟩:=r1.two
 cases r1
 cases r2
 obtain ⟨us,e1,p1⟩:=a5j I1 q1
 obtain ⟨vs,e2,p2⟩:=a5j I1 q2
 have lt:∀ {k:Bool} {l:Addr} {zs:Array Value},SAt k s1.heap l zs→l < s1.heap.objs.size:=fun {k l zs} x=>by
  cases k with
  | true=>obtain ⟨o,ho,_⟩:=x;exact Heap.lt_size ho
  | false=>obtain ⟨o,ho,_⟩:=x;exact Heap.lt_size ho
 have t1:=lt p1
 have t2:=lt p2
 refine callS p1 p2 fun h' Z kp=>wpAny_pyIter_zip (s:={ s1 with heap:=h' }) Z.zp ?_
 have D:ZipApart (s1.heap.objs.size+4) (s1.heap.objs.size+2) (s1.heap.objs.size+3) s1.heap.objs.size (s1.heap.objs.size+1) a' b':=by
  have t1':@LT.lt Nat _ a' s1.heap.objs.size:=t1
  have t2':@LT.lt Nat _ b' s1.heap.objs.size:=t2
  constructor <;> (show ¬ (@Eq Nat _ _);omega)
 refine ⟨_,[s1.heap.objs.size+4,s1.heap.objs.size+2,s1.heap.objs.size+3,s1.heap.objs.size,s1.heap.objs.size+1],_,_,H1,rfl,I1.kept (t':=s1.toks) kp,a9f D,Z,fun c hc=>?_,q⟩
 have ge:s1.heap.objs.size≤c:=by
  simp only [List.mem_cons,List.not_mem_nil,or_false] at hc
  rcases hc with rfl | rfl | rfl | rfl | rfl <;> omega
 exact I1.fpOk ge (I1.hok.fresh ge)
def a4F (tc:TT) (te:TE) (σ:St) (d:Addr) (x y:V) (H:Hp) (Z:Hp→Prop):Prop :=
 tc (some x :: some y :: σ) H fun b H3=>if b=true then te (some x :: some y :: σ) H3 fun v H4=>∃ ys,H4 d=some (.lst ys)∧ys.length < sizeLine∧Z (upd H4 d (.lst (ys++[v]))) else Z H3
def tCompZ (K:PySem.W.Frag) (ka kb:Bool) (ta:TA) (tc:TT) (te:TE):TE:=fun σ H Q=>ta σ H fun vs H1=>∃ a b xs ys,vs=[.ref a,.ref b]∧SqK K ka H1 a xs∧SqK K kb H1 b ys∧xs.length=ys.length∧∀ d,H1 d=none →
 ∃ Pv:Nat→Hp→Prop,Pv 0 (upd H1 d (.lst []))∧(∀ i H,i≤xs.length→Pv i H→SqK K ka H a xs∧SqK K kb H b ys)∧(∀ i x y p H,xs[i]?=some x→ys[i]?=some y→Pv i H→H p=none→a4F tc te σ d x y (upd H p (.tup [x,y])) (Pv (i+1)))∧∀ H,Pv xs.length H→Q (.ref d) H
def a4G (K:PySem.W.Frag):TG:=gTup K 2 (b0y (a2d 0) (b0y (a2d 1) gNil))
theorem a2Z {K:PySem.W.Frag} {v:V} {σ:St} {H:Hp} {Q:St→Hp→Prop} (h:a4G K v (List.replicate 2 none++σ) H Q):a4G K v (List.replicate 2 none++σ) H fun σ2 H2=>(∃ l:St,l.length=2∧σ2=l++σ)∧Q σ2 H2:=by
 obtain ⟨a,xs,e,hq,hl,v1,r1,e1,v2,r2,e2,e3,q⟩:=h
 exact ⟨a,xs,e,hq,hl,v1,r1,e1,v2,r2,e2,e3,⟨[some v1,some v2],rfl,rfl⟩,q⟩
theorem a9h {K:PySem.W.Frag} {ka kb:Bool} {a b:Addr} {xs ys:List V} {tc:TT} {te:TE} {σ:St} {H:Hp} {Q:VK} {d:Addr} (hlen:xs.length=ys.length) (Pv:Nat→Hp→Prop) (h0:Pv 0 (upd H d (.lst []))) (hl:∀ i H,i≤xs.length→Pv i H→SqK K ka H a xs∧SqK K kb H b ys)
  (hs:∀ i x y p H,xs[i]?=some x→ys[i]?=some y→Pv i H→H p=none→a4F tc te σ d x y (upd H p (.tup [x,y])) (Pv (i+1)))
  (hd:∀ H,Pv xs.length H→Q (.ref d) H) :
  ∃ W:Nat→Nat→Hp→Prop,(∃ m,W 0 m (upd H d (.lst [])))∧∀ i m H,W i m H →
   ((Itz K ka kb a b).stop i H∧Q (.ref d) H)∨((Itz K ka kb a b).go i H∧∃ N:Hp→Prop,(∀ H',N H'→∃ m',m' < m∧W (i+1) m' H')∧∀ x H',(Itz K ka kb a b).yld i H x H'→a4G K x (List.replicate 2 none++σ) H' fun σ2 H2 =>
    tc σ2 H2 fun b H3=>if b=true then te σ2 H3 fun y H4=>∃ ys,H4 d=some (.lst ys)∧ys.length < sizeLine∧N (upd H4 d (.lst (ys++[y]))) else N H3):=by
 refine ⟨fun i m H=>m=xs.length - i∧i≤xs.length∧Pv i H,⟨xs.length,by simp,Nat.zero_le _,h0⟩,?_⟩
 rintro i m H ⟨rfl,hi,p⟩
 obtain ⟨q1,q2⟩:=hl i H hi p
 by_cases hlt:i < xs.length
 ·refine .inr ⟨⟨xs,ys,_,_,q1,q2,List.getElem?_eq_getElem hlt,List.getElem?_eq_getElem (by omega)⟩,Pv (i+1),fun H' n=>⟨xs.length - (i+1),by omega,rfl,by omega,n⟩,?_⟩
  rintro v H' ⟨p',x,y,rfl,hn,e1,e2,rfl⟩
  exact ⟨p',[x,y],rfl,SqT.of a0b,rfl,x,[y],rfl,y,[],rfl,rfl,hs i x y p' H (e1 _ q1) (e2 _ q2) p hn⟩
 ·have e:i=xs.length:=by omega
  subst e
  exact .inl ⟨⟨xs,ys,q1,q2,.inl (Nat.le_refl _)⟩,hd H p⟩
theorem a9i {X:Cx} (K:PySem.W.Frag) (ka kb:Bool) {elt a b:Expr} {t1 t2:Str} {p1 p2 tp p pos pos':Pos} {k:Nat} {cs:List Expr} {scope:Scope} {tc:TT} {te:TE} {ta:TA} {M:List Str} (hc:X.calm=true) (S:a0l scope X.env X.N M) (nd:(t1 :: t2 :: M).Nodup) (hl1:scope.names.lookup t1=some .local) (hl2:scope.names.lookup t2=some .local)
  (hg:Gl X "zip") (hm:X.mg "zip"=none) (ha:PA X [a,b] ta) (mo:a4A ta)
  (hin:∀ (cl:List (Str × Addr)) (C:Addr) (s0:Shared) (H0:Hp) (fp:List Addr) (pins:List (Addr × Obj)) (σ:St),b1T X (cxC X scope cl C s0 H0 fp (t1 :: t2 :: M)) pins σ fp C s0 H0→PTs (cxC X scope cl C s0 H0 fp (t1 :: t2 :: M)) cs tc∧PE (cxC X scope cl C s0 H0 fp (t1 :: t2 :: M)) elt te)
  (hs:starEach [a,b] X.env=[(false,eval a X.env),(false,eval b X.env)]:=by rfl) (hs2:starEach [b] X.env=[(false,eval b X.env)]:=by rfl) (hf:∀ x,foldedSetIterable (.Call (.Name "zip" p) [a,b] [] pos') X.env x=pure x:=by intro _;rfl) (hK:X.K=K:=by rfl) :
  PE X (.ListComp elt [⟨.Tuple [.Name t1 p1,.Name t2 p2] k tp,.Call (.Name "zip" p) [a,b] [] pos',cs,0⟩] scope pos) (tCompZ K ka kb ta tc te):=by
 subst hK
 have hx1:(relabel scope X.env).names.lookup t1=some .local:=by rw [a0z,hl1];rfl
 have hx2:(relabel scope X.env).names.lookup t2=some .local:=by rw [a0z,hl2];rfl
 refine PE.imp (a3K (xs:=[t1,t2]) (M:=M) (g:=a4G X.K) hc S (pi_zip ka kb hg hm ha hs hs2) (fun cl C s0 H0 fp pins σ bk=>⟨a7e hc (a1U (a0E (i:=0) nd rfl (Or.inl hx1) (Or.inr hx1)) (a1U (a0E (i:=1) nd rfl (Or.inl hx2) (Or.inr hx2)) a4Z)),hin cl C s0 H0 fp pins σ bk⟩) (fun v σ H Q h=>a2Z h) hf) (fun σ H Q h=>?_)
 refine mo σ H _ _ (fun vs H1 q=>?_) h
 obtain ⟨a',b',xs,ys,e,q1,q2,hlen,q⟩:=q
 refine ⟨a',b',xs,ys,e,q1,q2,fun d hd=>?_⟩
 obtain ⟨Pv,h0,hl,hs,hd⟩:=q d hd
 exact a9h hlen Pv h0 hl hs hd
section
variable {κ:Type} [DecidableEq κ]
def valV (kvs:List (κ × V)) (k:κ):Option V:=(kvs.find? fun kv=>decide (kv.1=k)).map (·.2)
def putK (kvs:List (κ × V)) (k:κ) (v:V):List (κ × V) :=
 if (kvs.any fun kv=>decide (kv.1=k))=true then kvs.map (fun kv=>if kv.1=k then (kv.1,v) else kv) else kvs++[(k,v)]
def dropK (kvs:List (κ × V)) (k:κ):List (κ × V):=kvs.filter fun kv=>decide (kv.1≠k)
theorem b1S.isSome_eq {o:Option V} {u:Option Value} (r:b1S o u):o.isSome=u.isSome:=by
 cases o with
 | none=>cases u with
  | none=>rfl
  | some _=>exact (show False from r).elim
 | some _=>cases u with
  | none=>exact (show False from r).elim
  | some _=>rfl
end
abbrev KT (H:Hp):List (List Key × V)→List (List Key × Addr × Value)→Prop:=Paired fun p q=>p.1=q.1∧H q.2.1=some (.tup (p.1.map kV))∧a0T p.2 q.2.2
section
variable {P:Program} {w:World} {H:Hp} {h:Heap} {a:Addr}
theorem rd_of {u:HO} (ok:HOk P w H h) (e:Rd H a u):a0A P w H h a u:=e.ok ok
theorem dk_rd {kvs:List (Key × V)} (ok:HOk P w H h) (e:Rd H a (.dK kvs)):kvs.length≤sizeLine∧(a == sysModules)=false∧∃ vs,KV kvs vs∧h.DictOf (a3D P w) a vs :=
 show a0A P w H h a (.dK kvs) from rd_of ok e
theorem dk_of {kvs:List (Key × V)} (ok:HOk P w H h) (e:H a=some (.dK kvs)):kvs.length≤sizeLine∧(a == sysModules)=false∧∃ vs,KV kvs vs∧h.DictOf (a3D P w) a vs:=dk_rd ok (.inl e)
end
def DGet (H:Hp) (a:Addr) (y:V) (r:Option V):Prop :=
 (∃ kvs k,Rd H a (.dK kvs)∧y=kV k∧r=valV kvs k)∨∃ kvs k b,Rd H a (.dT kvs)∧y=.ref b∧H b=some (.tup (k.map kV))∧r=valV kvs k
def DPut (H:Hp) (a:Addr) (y v:V) (H':Hp):Prop :=
 (∃ kvs k,H a=some (.dK kvs)∧y=kV k∧kvs.length < sizeLine∧H'=upd H a (.dK (putK kvs k v))) ∨
 ∃ kvs k b,H a=some (.dT kvs)∧y=.ref b∧H b=some (.tup (k.map kV))∧kvs.length < sizeLine∧H'=upd H a (.dT (putK kvs k v))
section
variable {X:Cx} {pins:List (Addr × Obj)} {σ:St} {H:Hp} {s:Shared} {a:Addr} {y v:V} {u r:Value} {o:Option V} {A:Around} {E:Value→Shared→Prop}
theorem Inv.big (I:Inv X pins σ H s):sysModules < s.heap.objs.size:=by
 have h:mainGlobals < s.heap.objs.size:=(I.mod.glob.keeps I.bk).lt
 exact Nat.lt_trans (by decide) h
theorem b0R {h':Heap} {t':Nat} {ob:HO} (I:Inv X pins σ H s) (mu:Mut (H a)) (hs:Heap.SameBut a s.heap h') (he:∃ q,h'.get? a=some q) (new:a0A X.prog X.w (upd H a ob) h' a ob) :
  Inv X pins σ (upd H a ob) { s with heap:=h',toks:=t' } :=
 I.write (x:=a) (e:=a) mu (.inl rfl) (fun b q hb z=>(hs.2 b hb).trans z) he new
end
section
variable {X:Cx} {pins:List (Addr × Obj)} {σ:St} {H:Hp} {s:Shared} {a:Addr} {kvs:List (Key × V)} {k:Key} {u:Value} {A:Around} {E:Value→Shared→Prop}
end
def NoSl (i:Expr):Prop:=∀ ov iv,subscripted i false ov iv=operate [ov,iv] (getItem ov iv)
def tDGet (td ty:TE):TE:=fun σ H Q=>td σ H fun x H1=>ty σ H1 fun y H2=>∃ a v,x=.ref a∧DGet H2 a y (some v)∧Q v H2
def tDIn (ty td:TE):TE:=fun σ H Q=>ty σ H fun y H1=>td σ H1 fun x H2=>∃ a o,x=.ref a∧DGet H2 a y o∧Q (.bl o.isSome) H2
def sDPut (td ty tv:TE):TS:=fun D σ H=>tv σ H fun v H1=>td σ H1 fun x H2=>ty σ H2 fun y H3=>∃ a H4,x=.ref a∧DPut H3 a y v H4∧D.nx σ H4
def sDAug (td ty tv:TE) (rd:V→V→Hp→VK→Prop):TS:=fun D σ H=>td σ H fun x H1=>ty σ H1 fun y H2=>∃ a v,x=.ref a∧DGet H2 a y (some v) ∧
 tv σ H2 fun y2 H3=>rd v y2 H3 fun z H4=>∃ H5,DPut H4 a y z H5∧D.nx σ H5
def sDDel (td ty:TE):TS:=fun D σ H=>td σ H fun x H1=>ty σ H1 fun y H2=>∃ a kvs k,x=.ref a∧H2 a=some (.dK kvs)∧y=kV k∧(valV kvs k).isSome=true∧D.nx σ (upd H2 a (.dK (dropK kvs k)))
section
variable {X:Cx} {o i e value:Expr} {pos pos' tpos:Pos} {td ty tv:TE}
end
theorem a9j {P:Program} {w:World} {H:Hp} (h:Heap) (hb:sysModules < h.objs.size):a0A P w H (h.push { cls:=.type "dict",data:=.dict #[] }) h.objs.size (.dK []) :=
 ⟨Nat.zero_le _,beq_eq_false_iff_ne.mpr (Ne.symm (Nat.ne_of_lt hb)),[],.nil,Heap.DictOf.new h⟩
def tDNewK:TE:=fun _ H Q=>∀ p,H p=none→Q (.ref p) (upd H p (.dK []))
section
variable {X:Cx} {pos:Pos}
theorem a9k:PE X (.Dict [] [] pos) tDNewK:=fun pins s σ H Q I h =>
 wpAny_Dict_empty ⟨.ref s.heap.objs.size,_,I.laid (a:=s.heap.objs.size) (o:=.dK []) (t':=s.toks) (fun _ _ q=>Heap.get?_push_of_some _ q) (Nat.le_refl _) (a9j s.heap I.big),rfl,h _ (I.hok.fresh (Nat.le_refl _))⟩
end
def b0d:List (TE × TE)→St→Hp→(List (V × V)→Hp→Prop)→Prop
 | [],_,H,Q=>Q [] H
 | (tk,tv) :: r,σ,H,Q=>tk σ H fun x H1=>tv σ H1 fun y H2=>b0d r σ H2 fun ps H3=>Q ((x,y) :: ps) H3
def mergeK (kvs more:List (Key × V)):List (Key × V):=more.foldl (fun acc kv=>putK acc kv.1 kv.2) kvs
def tDisp (trs:List (TE × TE)):TE:=fun σ H Q=>∀ p,H p=none→b0d trs σ (upd H p (.dK [])) fun ps H2=>H2 p=some (.dK [])∧∃ kvs:List (Key × V),ps=kvs.map (fun kv=>(kV kv.1,kv.2))∧kvs.length≤15∧Q (.ref p) (upd H2 p (.dK (mergeK [] kvs)))
structure M1 (X:Cx) (o:Expr) (m:Str) (apos:Pos) (e:Expr) (cpos:Pos):Prop where
 base:attributeBase o m X.env (eval o X.env)=eval o X.env
 few:((backTo cpos (starEach [e] X.env)).all (fun x=>!x.1) && (backToKw cpos (keywordEach [] X.env)).all (fun x=>x.1.isSome)
  && decide (([e]:List Expr).length+([]:List Keyword).length+(if ([]:List Keyword).isEmpty then 0 else 1) < 30))=true
 line:(apos.endLine == cpos.line)=true
 trees:backTo cpos (starEach [e] X.env)=[(false,eval e X.env)]
def IsD (H:Hp) (a:Addr):Prop:=(∃ kvs,Rd H a (.dK kvs))∨∃ kvs,Rd H a (.dT kvs)
section
variable {X:Cx} {pins:List (Addr × Obj)} {σ:St} {H:Hp} {s:Shared} {a:Addr} {y d:V} {u r:Value} {o:Option V} {A:Around} {E:Value→Shared→Prop}
end
def tDPop1 (td ty:TE):TE:=fun σ H Q=>td σ H fun x H1=>∃ a,x=.ref a∧IsD H1 a∧ty σ H1 fun y H2=>∃ kvs k v,H2 a=some (.dK kvs)∧y=kV k∧valV kvs k=some v∧Q v (upd H2 a (.dK (dropK kvs k)))
section
variable {X:Cx} {o e f:Expr} {apos cpos:Pos} {td ty tx:TE}
end
section
variable {X:Cx} {pins:List (Addr × Obj)} {σ:St} {H:Hp} {s:Shared} {a:Addr} {kvs:List (Key × V)} {A:Around} {E:Value→Shared→Prop}
end
section
variable {X:Cx} {pins:List (Addr × Obj)} {σ:St} {H:Hp} {s:Shared} {a:Addr} {y:V} {u:Value} {A:Around} {E:Value→Shared→Prop}
end
def b0S (h:Heap) (d:Addr) (es:Array DictEntry) (ep:Nat):Prop:=∃ o,h.get? d=some o∧o.ExactDict∧o.data=.dict es ep
section
variable {prog:Program} {w:World} {A:Around} {E:Value→Shared→Prop} {s:Shared} {it d:Addr} {i ep:Nat} {es:Array DictEntry}
theorem b0T {e:DictEntry} {Q:Option Value→Shared→Prop} (hit:s.heap.IsKeyIter it d i es.size ep) (hm:b0S s.heap d es ep) (hx:es[i]?=some e)
  (hQ:∀ h',h'.IsKeyIter it d (i+1) es.size ep→Heap.SameBut it s.heap h'→Q (some e.key) { s with heap:=h' }):wpAny (model prog w) A (pyNext (.ref it)) Q E s:=by
 obtain ⟨o,ho,hc,hd⟩:=id hit
 obtain ⟨od,hod,hcd,hdd⟩:=hm
 have hT:=hit.typeIs
 unfold pyNext
 refine wpAny_bind (wpAny_attempt (wpAny_callSpecial?_slot (name:=Str.ofString "__next__") hT F.slot_dict_keyiterator_next (wpAny_call_entry F.slot_dict_keyiterator_next hT F.entry_dict_keyiterator_next ?_ (F.args_dict_keyiterator_next_1 _))))
 unfold Builtin.«dict_keyiterator.__next__»
 repeat (first | with_reducible refine wpAny_typeNameOfWhole_keyiter hT ?_ | with_reducible refine wpAny_fieldsOf ho hd ?_ | with_reducible refine wpAny_dictEntries hod hdd ?_ | with_reducible refine wpAny_dictEpoch hod hdd ?_ | with_reducible refine wpAny_isOneOf_keyiter hT ?_ | wp_step)
 have em:(if (i:Int) < 0 then none else es[(i:Int).toNat]?)=some e:=by rw [if_neg (by omega),Int.toNat_natCast,hx]
 rw [em]
 refine wpAny_bind (wpAny_bind (wpAny_typeNameOfWhole_keyiter hT (wpAny_pure ?_)))
 refine wpAny_bind (wpAny_isOneOf_keyiter hT ?_)
 show wpAny _ _ (setField (.ref it) 1 (rawInt ((i:Int)+1)) >>= _) _ _ s
 refine wpAny_bind (wpAny_setField ho hd (by simp) ?_)
 have hit':(s.heap.update it (Obj.mapFields (·.setIfInBounds 1 (rawInt ((i:Int)+1))))).IsKeyIter it d (i+1) es.size ep :=
  ⟨_,Heap.get?_update_self _ ho (Obj.isFreed_of_fields (Obj.data_mapFields hd _)),(Obj.cls_mapFields ..).trans hc,by rw [Obj.data_mapFields hd];simp [rawInt]⟩
 refine wpAny_bind (wpAny_holding (wpAny_bind (wpAny_isOneOf_keyiter (s:={ s with heap:=s.heap.update it (Obj.mapFields (·.setIfInBounds 1 (rawInt ((i:Int)+1)))) }) hit'.typeIs ?_)))
 show wpAny _ _ (pure e.key) _ _ _
 exact wpAny_pure (wpAny_pure ⟨_,rfl,wpAny_pure (hQ _ hit' (Heap.SameBut.update ..))⟩)
theorem b0U {Q:Option Value→Shared→Prop} (hh:A.handled=none) (hit:s.heap.IsKeyIter it d i es.size ep) (hm:b0S s.heap d es ep) (hx:es[i]?=none) (hQ:∀ h',Heap.ExtBut it s.heap h'→Q none { s with heap:=h' }) :
  wpAny (model prog w) A (pyNext (.ref it)) Q E s:=by
 obtain ⟨o,ho,hc,hd⟩:=id hit
 obtain ⟨od,hod,hcd,hdd⟩:=hm
 have hT:=hit.typeIs
 unfold pyNext
 refine wpAny_bind (wpAny_attempt (wpAny_callSpecial?_slot (name:=Str.ofString "__next__") hT F.slot_dict_keyiterator_next (wpAny_call_entry F.slot_dict_keyiterator_next hT F.entry_dict_keyiterator_next ?_ (F.args_dict_keyiterator_next_1 _))))
 unfold Builtin.«dict_keyiterator.__next__»
 repeat (first | with_reducible refine wpAny_typeNameOfWhole_keyiter hT ?_ | with_reducible refine wpAny_fieldsOf ho hd ?_ | with_reducible refine wpAny_dictEntries hod hdd ?_ | with_reducible refine wpAny_dictEpoch hod hdd ?_ | with_reducible refine wpAny_isOneOf_keyiter hT ?_ | wp_step)
 have em:(if (i:Int) < 0 then none else es[(i:Int).toNat]?)=none:=by rw [if_neg (by omega),Int.toNat_natCast,hx]
 rw [em]
 refine wpAny_bind (wpAny_bind (wpAny_typeNameOfWhole_keyiter hT (wpAny_pure ?_)))
 show wpAny _ _ (setField (.ref it) 0 .none >>= _) _ _ s
 refine wpAny_bind (wpAny_setField ho hd (by simp) ?_)
 show wpAny _ _ (newExc (.type "StopIteration") [] >>= _) _ _ _
 refine wpAny_bind ?_
 simp only [newExc,newTuple]
 refine wpAny_bind (wpAny_newObj_type ?_ (by size_fits))
 refine wpAny_bind (m:=firstArgMember _ _) (wpAny_of_eq (a:=Value.none) (by first | rfl | (simp only [firstArgMember];rfl)) ?_)
 refine wpAny_newObj_type ?_ (by size_fits)
 simp only [raiseNew]
 refine wpAny_bind (wpAny_handled ?_)
 rw [show A.in1.handled=none from hh]
 refine wpAny_bind (wpAny_pure (wpAny_throw ?_))
 refine wpAny_bind (wpAny_isInstance (T:="StopIteration") (b:=true) ⟨_,Heap.get?_push_size _ rfl,rfl⟩ isSubtype_stop ?_)
 exact wpAny_pure (hQ _ (((Heap.SameBut.update ..).extBut.push _).push _))
theorem b0V {Q:Value→Shared→Prop} (hd:(d == sysModules)=false) (hm:b0S s.heap d es ep) (hQ:Q (.ref s.heap.objs.size) { s with heap:=s.heap.push { cls:=.type "dict_keyiterator",data:=.fields #[.ref d,.int 0 0,.int es.size 0,.int ep 0] } }) :
  wpAny (model prog w) A (pyIter (.ref d)) Q E s:=by
 obtain ⟨o,ho,hc,hdat⟩:=hm
 have hT:s.TypeIs (.ref d) "dict":=⟨o,ho,hc.1⟩
 refine wpAny_pyIter_slot hT F.slot_dict_iter (wpAny_call_entry F.slot_dict_iter hT F.entry_dict_iter ?_ (F.args_dict_iter_1 _))
 unfold Builtin.«dict.__iter__»
 refine wpAny_bind ?_
 unfold Builtin.Dict.dictSlotNone
 refine wpAny_bind (wpAny_notOrdered_dict hT ?_)
 show wpAny _ _ (pure (Value.ref d)) _ _ s
 refine wpAny_pure ?_
 show wpAny _ _ (Builtin.Dict.showsAll d >>= _) _ _ s
 unfold Builtin.Dict.showsAll
 rw [if_neg (by rw [hd];exact Bool.false_ne_true)]
 refine wpAny_bind (wpAny_pure (wpAny_bind (wpAny_dictEntries ho hdat (wpAny_bind (wpAny_dictEpoch ho hdat ?_)))))
 refine wpAny_bind (wpAny_newObj_type (wpAny_pure ⟨_,rfl,"dict_keyiterator",_,⟨_,Heap.get?_push_size _ rfl,rfl⟩,F.slot_dict_keyiterator_next.lookup,?_⟩))
 simpa [rawInt] using hQ
end
end L2
namespace L2
open PySem PySem.Spec PyProof.Rows PySem.W
def Pm (n:Nat) (p:Array Nat):Prop:=p.Perm (List.range n).toArray
section
variable {prog:Program} {w:World} {A:Around} {E:Value→Shared→Prop} {s:Shared}
def TupI (h:Heap) (v:Value):Prop:=∃ (b:Addr) (items:Array Value) (ns:List Int),v=.ref b∧IsTup h b items∧IntsAre items.toList ns
theorem TupI.ty {M:Model} {h:Heap} {v:Value} (t:TupI h v):Looks M h (typeOf v) (.type "tuple"):=by
 obtain ⟨b,items,ns,rfl,⟨o,ho,hc,_⟩,_⟩:=t
 exact hc▸(Looks.ld ho).andThen .now
theorem a5k {α β:Type} {M:Model} {f:α→Sem β} {g:α→β}:∀ (l:List α) {Q:List β→Shared→Prop},(∀ v∈l,∀ (Q':β→Shared→Prop),Q' (g v) s→wpAny M A (f v) Q' E s)→Q (l.map g) s→wpAny M A (l.mapM f) Q E s
 | [],_,_,h=>by rw [List.mapM_nil];exact wpAny_pure h
 | x :: l,Q,hf,h=>by
  rw [List.mapM_cons]
  exact wpAny_bind (hf x (.head _) _ (wpAny_bind (a5k l (Q:=fun bs s'=>wpAny M A (pure (g x :: bs)) Q E s') (fun v hv=>hf v (.tail _ hv)) (wpAny_pure h))))
def fst? (h:Heap):Value→Option Value
 | .ref b=>match h.get? b with
  | some o=>match o.data with
   | .seq xs _=>xs[0]?
   | _=>none
  | none=>none
 | _=>none
theorem a9l {M:Model} {v0:Value} {vs:List Value} {Q:SortKind→Shared→Prop} (t:∀ v∈v0 :: vs,TupI s.heap v) (h0:fst? s.heap v0=none) (h:Q oneType' s):wpAny M A (keyKind' (v0 :: vs).toArray) Q E s:=by
 rw [kat_kind_eq,List.mapM_toArray,map_eq_pure_bind]
 refine wpAny_bind (wpAny_bind (a5k (g:=fst? s.heap) _ (fun v hv Q' hq=>?_) (wpAny_pure ?_)))
 ·have ty:=(t v hv).ty (M:=M)
  obtain ⟨b,items,ns,rfl,⟨o,ho,hc,n,hd⟩,_⟩:=t v hv
  rw [kas_first_eq]
  refine wpAny_bind (ty.here ?_)
  rw [if_neg (by simp)]
  refine wpAny_bind (listItems_at ho hd (wpAny_pure ?_))
  have e:fst? s.heap (.ref b)=items[0]?:=by unfold fst?;simp only [ho,hd]
  rw [←e]
  exact hq
 ·have na:((List.map (fst? s.heap) (v0 :: vs)).toArray.all fun x=>x.isSome)=false:=by
   simp [h0]
  have n0:((List.map (fst? s.heap) (v0 :: vs)).toArray[0]?.bind id).isSome=false:=by simp [h0]
  rw [if_neg (by rw [na];decide),if_neg (by rw [n0];decide)]
  rw [oneTypeOnly'_eq,List.mapM_toArray,map_eq_pure_bind]
  refine wpAny_bind (wpAny_bind (wpAny_bind (kas_mapM (r:=Value.type "tuple") _ (fun v hv Q' hq=>((t v hv).ty (M:=M)).here hq) (wpAny_pure ?_))))
  have hall:((List.map (fun _=>Value.type "tuple") (v0 :: vs)).toArray.all fun x=>x == Value.type "tuple")=true:=by
   simp
  have e0:(List.map (fun _=>Value.type "tuple") (v0 :: vs)).toArray[0]?=some (Value.type "tuple"):=by simp
  rw [e0]
  simp only [hall,if_true]
  exact wpAny_pure (wpAny_pure h)
end
end L2
namespace L2
open PySem PySem.Spec PyProof.Rows
section
variable {prog:Program} {w:World} {A:Around} {E:Value→Shared→Prop} {s:Shared} {k:Bool} {ee it l:Addr} {n:Nat} {xs:Array Value} {x old:Value}
theorem a6F {Q:Value→Shared→Prop} (he:IsEnum s.heap ee it n old) (hi:SIt k s.heap it l n) (hl:SAt k s.heap l xs) (hx:xs[n]?=some x) (hne:ee≠it)
  (hQ:∀ h',IsEnumOut h' ee it ((n:Int)+1) x s.heap.objs.size→SIt k h' it l (n+1)→h'.get? s.heap.objs.size=some { cls:=.type "tuple",data:=.seq #[.int n s.toks,x] } →
   (∀ b o,b≠ee→b≠it→s.heap.get? b=some o→h'.get? b=some o)→Q (.ref s.heap.objs.size) { s with heap:=h',toks:=s.toks+1 }) :
  wpAny (model prog w) A (Builtin.«enumerate.__next__» ⟨[.ref ee],[]⟩) (fun fin s'=>∃ v,fin=.done (.ret v)∧Q v s') E s:=by
 obtain ⟨hp,g,d,tk,os⟩:=s
 show wpAny _ _ (field (.ref ee) 2 >>= _) _ _ _
 refine wpAny_bind (wpAny_field he rfl (x:=.ref it) rfl (wpAny_bind (a4C hi hl hx fun g1 i1 b1=>?_)))
 replace b1:Heap.SameBut it hp g1:=b1
 have e1:IsEnum g1 ee it n old:=(b1.2 ee hne).trans he
 show wpAny _ _ (field (.ref ee) 3 >>= _) _ _ ⟨g1,g,d,tk,os⟩
 refine wpAny_bind (wpAny_field e1 rfl (x:=rawInt n) rfl ?_)
 show wpAny _ _ (field (.ref ee) 4 >>= _) _ _ ⟨g1,g,d,tk,os⟩
 refine wpAny_bind (wpAny_field e1 rfl (x:=.none) rfl ?_)
 show wpAny _ _ (mkInt n >>= _) _ _ ⟨g1,g,d,tk,os⟩
 refine wpAny_bind (wpAny_mkInt ?_)
 show wpAny _ _ (setField (.ref ee) 3 (rawInt ((n:Int)+1)) >>= _) _ _ ⟨g1,g,d,tk+1,os⟩
 refine wpAny_bind (wpAny_setField_rec e1 (by simp) fun g2 e2 b2=>?_)
 replace b2:Heap.SameBut ee g1 g2:=b2
 replace e2:IsEnum g2 ee it ((n:Int)+1) old:=e2
 show wpAny _ _ (setField (.ref ee) 4 .none >>= _) _ _ ⟨g2,g,d,tk+1,os⟩
 refine wpAny_bind (wpAny_setField_rec e2 (by simp) fun g3 e3 b3=>?_)
 replace b3:Heap.SameBut ee g2 g3:=b3
 replace e3:IsEnum g3 ee it ((n:Int)+1) old:=e3
 show wpAny _ _ (newTuple [.int n tk,x] >>= _) _ _ ⟨g3,g,d,tk+1,os⟩
 refine wpAny_bind (wpAny_newTuple ?_)
 have e4:IsEnum (g3.push { cls:=.type "tuple",data:=.seq #[.int n tk,x] }) ee it ((n:Int)+1) old:=Heap.get?_push_of_some _ e3
 generalize q4:g3.push { cls:=.type "tuple",data:=.seq #[.int n tk,x] }=g4 at e4
 have sz:g3.objs.size=hp.objs.size:=by rw [b3.1,b2.1,b1.1]
 have lt:ee < hp.objs.size:=Heap.lt_size he
 have t4:g4.get? hp.objs.size=some { cls:=.type "tuple",data:=.seq #[.int n tk,x] }:=by rw [←q4,←sz];exact Heap.get?_push_size _ rfl
 have k4:∀ b o,b≠ee→b≠it→hp.get? b=some o→g4.get? b=some o:=fun b o c1 c2 hb=>by
  rw [←q4];exact Heap.get?_push_of_some _ (b3.extBut b o c1 (b2.extBut b o c1 (b1.extBut b o c2 hb)))
 have i4:SIt k g4 it l (n+1):=i1.at fun o e=>by
  rw [←q4];exact Heap.get?_push_of_some _ (b3.extBut _ _ (Ne.symm hne) (b2.extBut _ _ (Ne.symm hne) e))
 show wpAny _ _ (Builtin.SmallTypes.ownedTupleIsFree (.ref ee) >>= _) _ _ ⟨g4,g,d,tk+1,os⟩
 rw [sz]
 clear q4 e3 b3 e2 b2 e1 b1 i1 sz g3 g2 g1
 refine wpAny_bind ?_
 unfold Builtin.SmallTypes.ownedTupleIsFree
 refine wpAny_bind (wpAny_field e4 rfl (x:=.none) rfl (wpAny_pure ?_))
 simp only [if_true]
 refine wpAny_bind (wpAny_rule (wpAny_bind (wpAny_field e4 rfl (x:=old) rfl (wpAny_bind (wpAny_setField_rec e4 (by simp) fun g5 e5 b5=>?_)))))
 replace b5:Heap.SameBut ee g4 g5:=b5
 replace e5:IsEnum g5 ee it ((n:Int)+1) x:=e5
 show wpAny _ _ (Builtin.SmallTypes.ownedTupleHandOut (.ref ee) (.ref hp.objs.size) >>= _) _ _ ⟨g5,g,d,tk+1,os⟩
 refine wpAny_bind ?_
 unfold Builtin.SmallTypes.ownedTupleHandOut
 refine wpAny_bind (wpAny_setField_rec e5 (by simp) fun g6 e6 b6=>?_)
 replace b6:Heap.SameBut ee g5 g6:=b6
 replace e6:IsEnumOut g6 ee it ((n:Int)+1) x hp.objs.size:=e6
 refine wpAny_setField_rec e6 (by simp) fun g7 e7 b7=>?_
 replace b7:Heap.SameBut ee g6 g7:=b7
 replace e7:IsEnumOut g7 ee it ((n:Int)+1) x hp.objs.size:=e7
 have up:∀ b o,b≠ee→g4.get? b=some o→g7.get? b=some o:=fun b o c1 e=>b7.extBut b o c1 (b6.extBut b o c1 (b5.extBut b o c1 e))
 exact wpAny_bind (wpAny_letGo (wpAny_pure ⟨_,rfl,hQ g7 e7 (i4.at fun o e=>up _ o (Ne.symm hne) e) (up _ _ (Nat.ne_of_gt lt) t4) fun b o c1 c2 e=>up b o c1 (k4 b o c1 c2 e)⟩))
theorem a6G {Q:Option Value→Shared→Prop} (he:IsEnum s.heap ee it n old) (hi:SIt k s.heap it l n) (hl:SAt k s.heap l xs) (hx:xs[n]?=some x) (hne:ee≠it)
  (hQ:∀ h',IsEnumOut h' ee it ((n:Int)+1) x s.heap.objs.size→SIt k h' it l (n+1)→h'.get? s.heap.objs.size=some { cls:=.type "tuple",data:=.seq #[.int n s.toks,x] } →
   (∀ b o,b≠ee→b≠it→s.heap.get? b=some o→h'.get? b=some o)→Q (some (.ref s.heap.objs.size)) { s with heap:=h',toks:=s.toks+1 }):wpAny (model prog w) A (pyNext (.ref ee)) Q E s:=by
 have hT:s.TypeIs (.ref ee) "enumerate":=⟨_,he,rfl⟩
 unfold pyNext
 exact wpAny_bind (wpAny_attempt (wpAny_callSpecial?_slot (name:=Str.ofString "__next__") hT F.slot_enumerate_next (wpAny_call_entry F.slot_enumerate_next hT F.entry_enumerate_next
  (a6F he hi hl hx hne fun h' a b c d=>wpAny_pure (hQ h' a b c d)) (F.args_enumerate_next_1 _))))
theorem a6H {Q:Option Value→Shared→Prop} (hh:A.handled=none) (he:IsEnum s.heap ee it n old) (hi:SIt k s.heap it l n) (hl:SAt k s.heap l xs) (hx:xs[n]?=none)
  (hQ:∀ h',Heap.ExtBut it s.heap h'→Q none { s with heap:=h' }):wpAny (model prog w) A (pyNext (.ref ee)) Q E s:=by
 have hT:s.TypeIs (.ref ee) "enumerate":=⟨_,he,rfl⟩
 unfold pyNext
 refine wpAny_bind (wpAny_attempt (wpAny_callSpecial?_slot (name:=Str.ofString "__next__") hT F.slot_enumerate_next (wpAny_call_entry F.slot_enumerate_next hT F.entry_enumerate_next ?_ (F.args_enumerate_next_1 _))))
 show wpAny _ _ (field (.ref ee) 2 >>= _) _ _ _
 refine wpAny_bind (wpAny_field he rfl (x:=.ref it) rfl (wpAny_bind (endS hh hi hl hx fun h' e b he'=>?_)))
 obtain ⟨o,ho,hc⟩:=he'
 exact wpAny_bind (wpAny_isInstance (T:="StopIteration") (b:=true) ⟨o,ho,hc⟩ isSubtype_stop (wpAny_pure (hQ _ b)))
theorem meetsE (l:Addr) (xs:Array Value) (n:Nat) (dct:Option Addr) (sl:Array (Option Value)) :
  Meets (Builtin.«enumerate.__new__» ⟨[.type "enumerate",.ref l],[]⟩) (fun _ R s=>s.heap.get? l=some { cls:=.type "tuple",dict:=dct,data:=.seq xs n,slots:=sl } ∧
   R (.ok (.ret (.ref (s.heap.push (itO true l)).objs.size))) { s with heap:=(s.heap.push (itO true l)).push { cls:=.type "enumerate",data:=.fields #[.none,.bool false,.ref s.heap.objs.size,rawInt 0,.none,.none] } }) :=
 .of_wp fun prog w A R s h=>by
  obtain ⟨hp,g,d,tk,os⟩:=s
  obtain ⟨hl,h⟩:=h
  have hsub:=sub_enumerate
  have hL:Heap.IsTuple (Shared.heap ⟨hp,g,d,tk,os⟩) l xs:=⟨_,hl,rfl,n,rfl⟩
  wp_walk using AutoSeq1.wpAny_loadPart' hl
  refine wpAny_stack_any fun st=>wpAny_pure ?_
  split
  ·rename_i c _ _ _ _ _
   cases (c == Value.type "enumerate") <;> (wp_walk using AutoSeq1.wpAny_loadPart' hl,wpAny_pyIter_tuple hL) <;> exact ⟨_,rfl,h⟩
  ·wp_walk using AutoSeq1.wpAny_loadPart' hl,wpAny_pyIter_tuple hL
   exact ⟨_,rfl,h⟩
structure EAt (k:Bool) (ee it l:Addr) (n:Nat) (h:Heap):Prop where
 en:∃ old,IsEnum h ee it n old
 a1:SIt k h it l n
theorem callE {Q:Value→Shared→Prop} (h1:SAt k s.heap l xs) (h:∀ h',EAt k (s.heap.objs.size+1) s.heap.objs.size l 0 h'→(∀ c o,s.heap.get? c=some o→h'.get? c=some o)→Q (.ref (s.heap.objs.size+1)) { s with heap:=h' }) :
  wpAny (model prog w) A (call (.type "enumerate") [.ref l]) Q E s:=by
 cases k with
 | false=>exact call_enumerate_list h1 fun h' he hi _ kp=>h h' ⟨⟨_,he⟩,hi⟩ kp
 | true =>
  obtain ⟨⟨c,dct,dt,sl⟩,hl,hc,n,hd⟩:=h1
  replace hc:c=.type "tuple":=hc
  replace hd:dt=.seq xs n:=hd
  subst hc hd
  refine callType_new F.called_enumerate (by decide) (F.typeCall_enumerate_1 _) (F.newCall_enumerate_1 _) (fun obj=>F.args_object_init_2 obj _) F.entry_enumerate_new (meetsE l xs n dct sl) ⟨hl,?_⟩
  have z1:(s.heap.push (itO true l)).objs.size=s.heap.objs.size+1:=Heap.size_push ..
  show _∧_
  rw [z1]
  have g1:IsEnum ((s.heap.push (itO true l)).push { cls:=.type "enumerate",data:=.fields #[.none,.bool false,.ref s.heap.objs.size,rawInt 0,.none,.none] }) (s.heap.objs.size+1) s.heap.objs.size 0 .none:=by
   have q:=Heap.get?_push_size (s.heap.push (itO true l)) (o:={ cls:=.type "enumerate",data:=.fields #[.none,.bool false,.ref s.heap.objs.size,rawInt 0,.none,.none] }) rfl
   rw [z1] at q
   exact q
  exact ⟨⟨_,g1,rfl⟩,h _ ⟨⟨_,g1⟩,.new (Heap.get?_push_of_some _ (Heap.get?_push_size _ a3P))⟩ fun c o e=>Heap.get?_push_of_some _ (Heap.get?_push_of_some _ e)⟩
end
def Ite (K:PySem.W.Frag) (k:Bool) (a:Addr):It :=
 ⟨fun i H=>∃ xs x,SqK K k H a xs∧xs[i]?=some x,
  fun i H v H'=>∃ p x,v=.ref p∧H p=none∧(∀ xs,SqK K k H a xs→xs[i]?=some x)∧H'=upd H p (.tup [.int i,x]),
  fun i H=>∃ xs,SqK K k H a xs∧xs.length≤i⟩
theorem EAt.obj {k:Bool} {ee it l:Addr} {n:Nat} {h:Heap} (Z:EAt k ee it l n h):∀ b∈[ee,it],∃ o,h.get? b=some o∧∀ v,o.data≠.cell v:=fun b hb=>by
 obtain ⟨⟨old,he⟩,h1⟩:=Z
 simp only [List.mem_cons,List.not_mem_nil,or_false] at hb
 rcases hb with rfl | rfl
 ·exact ⟨_,he,fun v z=>by cases z⟩
 ·exact h1.obj
theorem a7O {P:Program} {w:World} {K:PySem.W.Frag} {elts:List Expr} {x1} {pos:Pos} {k:Bool} {ee it a:Addr} (hne:ee≠it):b0z P w K (.Tuple elts x1 pos) (Ite K k a) [ee,it] ee (fun n h=>EAt k ee it a n h) where
 mem:=by simp
 obj:=fun i h st=>st.obj
 keep:=fun i h h' ⟨⟨old,he⟩,h1⟩ kp=>⟨⟨old,kp ee (by simp) _ he⟩,h1.at fun o e=>kp it (by simp) o e⟩
 item:=by
  intro X hP hw hK hc i pins s σ H E I hf st hg
  subst hP hw hK
  obtain ⟨xs,x,q1,hx⟩:=hg
  obtain ⟨us,r1,p1⟩:=a5j I q1
  obtain ⟨u,hu,ru⟩:=r1.get hx
  have lt:∀ b∈[ee,it],b < s.heap.objs.size:=fun b hb=>by
   obtain ⟨o,ho,_⟩:=st.obj b hb
   exact Heap.lt_size ho
  obtain ⟨⟨old,he⟩,h1⟩:=st
  refine a6G he h1 p1 (x:=u) (by simpa using hu) hne fun h' z1 a1 pr kk=>?_
  refine ⟨_,rfl,wpAny_letOwnedTupleGo_enum (s:={ s with heap:=h',toks:=s.toks+1 }) z1 fun h2 z2 b2=>?_⟩
  replace b2:Heap.SameBut ee h' h2:=b2
  have hT:H s.heap.objs.size=none:=I.hok.fresh (Nat.le_refl _)
  have I1:Inv X pins σ (upd H s.heap.objs.size (.tup [.int i,x])) { s with heap:=s.heap.push { cls:=.type "tuple",data:=.seq #[.int i s.toks,u] },toks:=s.toks+1 }:=I.laid (t':=s.toks+1) (fun b u e=>Heap.get?_push_of_some _ e) (Nat.le_refl _) ⟨by show 2≤sizeLine;decide,[.int i s.toks,u],.cons ⟨_,rfl⟩ (.cons ru .nil),⟨_,Heap.get?_push_size _ rfl,_,rfl⟩⟩
  have Tz:s.heap.objs.size≠ee:=Nat.ne_of_gt (lt ee (by simp))
  have fp:∀ b∈[ee,it],a4n X pins (upd H s.heap.objs.size (.tup [.int i,x])) b:=fun b hb=>by
   obtain ⟨f0,f1,f2,f3,f4,f5⟩:=hf b hb
   exact ⟨by rw [a0n (Nat.ne_of_lt (lt b hb))];exact f0,f1,f2,f3,f4,f5⟩
  have I2:=I1.turnedL (h':=h2) (t':=s.toks+1) (fun c o hc e=>by
   simp only [List.mem_cons,List.not_mem_nil,or_false,not_or] at hc
   by_cases zc:c=s.heap.objs.size
   ·subst zc
    rw [Heap.get?_push_size _ rfl] at e
    cases e
    exact b2.extBut _ _ Tz pr
   ·have e':s.heap.get? c=some o:=by rw [←e];exact (Heap.get?_push_ne _ _ _ zc).symm
    exact b2.extBut _ _ hc.1 (kk c o hc.1 hc.2 e')) fp
  refine ⟨.ref s.heap.objs.size,_,I2,rfl,⟨_,x,rfl,hT,fun zs hz=>?_,rfl⟩,⟨⟨_,z2⟩,a1.at fun o e=>b2.extBut _ _ (Ne.symm hne) e⟩,fun b hb=>(fp b hb).1⟩
  rw [a3O I hz q1];exact hx
 done:=by
  intro X hP hw hK hc i pins s σ H E I hf st hg
  subst hP hw hK
  obtain ⟨xs,q1,hl⟩:=hg
  obtain ⟨us,r1,p1⟩:=a5j I q1
  have e1:=r1.length
  obtain ⟨⟨old,he⟩,h1⟩:=st
  refine a6H (I.ok.hd hc) he h1 p1 (by simp;omega) fun h' kk=>⟨rfl,I.turnedL (t':=s.toks) (fun c o hc e=>?_) hf⟩
  simp only [List.mem_cons,List.not_mem_nil,or_false,not_or] at hc
  exact kk c o hc.2 e
 self:=fun _ _ _ _ _ ⟨⟨_,he⟩,_⟩ h=>wpAny_pyIter_enum he h
theorem b_enum:bootBuiltins "enumerate"=some (.type "enumerate"):=by decide +kernel
def iEnum (K:PySem.W.Frag) (k:Bool) (ta:TA):TI:=fun σ H R=>ta σ H fun vs H1=>∃ a xs,vs=[.ref a]∧SqK K k H1 a xs∧R (Ite K k a) H1
theorem b0W {X:Cx} {elts:List Expr} {x1} {tp:Pos} {a:Expr} {ta:TA} {p pos:Pos} (k:Bool) (hg:Gl X "enumerate") (hm:X.mg "enumerate"=none) (ha:PA X [a] ta) (hs:starEach [a] X.env=[(false,eval a X.env)]:=by rfl) :
  PI X (.Tuple elts x1 tp) (.Call (.Name "enumerate" p) [a] [] pos) (iEnum X.K k ta):=by
 intro pins s σ H R I h
 refine Call_ (a1M I hg hm b_enum (PyProof.Rows.callWith_type1 (thn (ha pos pins s σ H _ I h) fun us s1 ⟨vs,H1,I1,r1,q1⟩=>?_) (by rw [hs];rfl) rfl))
 obtain ⟨a',xs,e,q1,q⟩:=q1
 subst e
 obtain ⟨u,rfl,ru⟩:=r1.one
 cases ru
 obtain ⟨us,e1,p1⟩:=a5j I1 q1
 refine callE p1 fun h' Z kp=>?_
 obtain ⟨old,he⟩:=Z.en
 refine wpAny_pyIter_enum (s:={ s1 with heap:=h' }) he ?_
 refine ⟨_,[s1.heap.objs.size+1,s1.heap.objs.size],_,_,H1,rfl,I1.kept (t':=s1.toks) kp,a7O (Nat.succ_ne_self _),Z,fun c hc=>?_,q⟩
 have ge:s1.heap.objs.size≤c:=by
  simp only [List.mem_cons,List.not_mem_nil,or_false] at hc
  rcases hc with rfl | rfl <;> omega
 exact I1.fpOk ge (I1.hok.fresh ge)
abbrev B30:Int:=1000000000000000000000000000000
theorem e30:(10:Int) ^ (30:Int).toNat=B30:=by decide
def b0X (i j:Int):Prop:=(0≤i∧i≤10000000000 * B30)∧(0≤j∧j≤10000000000 * B30)
theorem b0X.ok {i j:Int} (h:b0X i j):IntMulOk i j:=by
 have q:∀ k:Int,0≤k∧k≤10000000000 * B30→PySem.Builtin.Int.intBits k≤140:=fun k hk=>intBits_le_iff.mpr (by
  have e:(2:Nat) ^ 140=1393796574908163946345982392040522594123776:=by decide
  rw [e]
  unfold B30 at hk
  omega)
 exact IntMulOk.of_le (q i h.1) (q j h.2) (by decide)
theorem a7P {X:Cx}:OpR X (binaryOp .Mult) (rI b0X fun i j=>.int (i * j)):=opI fun _ _ _ _ _ _ _ hc q=>PyProof.Rows.mul_int q hc.ok
theorem a7Q {te:TE} {σ:St} {d:Addr} {x y:V} {H:Hp} {Z:Hp→Prop} (h:te (some x :: some y :: σ) H fun v H4=>∃ ys,H4 d=some (.lst ys)∧ys.length < sizeLine∧Z (upd H4 d (.lst (ys++[v])))):a4F a6z te σ d x y H Z:=by
 show (if true=true then (te (some x :: some y :: σ) H fun v H4=>∃ ys,H4 d=some (.lst ys)∧ys.length < sizeLine∧Z (upd H4 d (.lst (ys++[v])))) else Z H)
 rw [if_pos rfl]
 exact h
end L2
namespace L2
open PySem
def a2I (u v:List Int):Prop:=¬ u <+: v∧¬ v <+: u
theorem a2I.symm {u v:List Int} (h:a2I u v):a2I v u:=⟨h.2,h.1⟩
theorem a2I.ext {u v:List Int} (h:a2I u v) (k:Int):a2I (u++[k]) v:=by
 refine ⟨fun z=>h.1 ((List.prefix_append u [k]).trans z),fun z=>?_⟩
 rcases List.prefix_concat_iff.mp z with e | e
 ·exact h.1 (e▸List.prefix_append u [k])
 ·exact h.2 e
theorem a2I.sib {u:List Int} {k l:Int} (h:k≠l):a2I (u++[k]) (u++[l]):=by
 refine ⟨fun z=>?_,fun z=>?_⟩
 ·have:=(List.prefix_append_right_inj u).mp z
  simp at this
  exact h this
 ·have:=(List.prefix_append_right_inj u).mp z
  simp at this
  exact h this.symm
abbrev PF (ws:List (List Int)):Prop:=ws.Pairwise a2I
variable {b:Int} {lo:Bool} {n:Nat} {ws:List (List Int)}
theorem PF.perm {ws us:List (List Int)} (h:PF ws) (p:us.Perm ws):PF us:=p.pairwise_iff (fun {_ _} h=>h.symm) |>.mpr h
theorem PF.ne {ws:List (List Int)} (h:PF ws) {i j:Nat} {u v:List Int} (hi:ws[i]?=some u) (hj:ws[j]?=some v) (ne:i≠j):a2I u v:=by
 have w:=List.pairwise_iff_getElem.mp h
 obtain ⟨i1,rfl⟩:=List.getElem?_eq_some_iff.mp hi
 obtain ⟨j1,rfl⟩:=List.getElem?_eq_some_iff.mp hj
 rcases Nat.lt_or_gt_of_ne ne with z | z
 ·exact w i j i1 j1 z
 ·exact (w j i j1 i1 z).symm
end L2
namespace L2
open PySem PySem.Spec PyProof.Rows PySem.W
def ev {α:Type} (lt:Nat→Nat→Bool):KasT α→α
 | .ret a=>a
 | .ask i j k=>ev lt (k (lt i j))
structure Ord (n:Nat) (lt:Nat→Nat→Bool):Prop where
 tr:∀ i j k,lt i j=true→lt j k=true→lt i k=true
 tot:∀ i j,i < n→j < n→i≠j→lt i j=false→lt j i=true
def Asc (lt:Nat→Nat→Bool) (p:Array Nat) (m:Nat):Prop:=∀ i,i+1 < m→lt (p.getD i 0) (p.getD (i+1) 0)=true
variable {n:Nat} {lt:Nat→Nat→Bool} {p:Array Nat} {m:Nat}
theorem Pm.size (h:Pm n p):p.size=n:=by
 have e:=h.size_eq
 simpa using e
theorem a5l (p:Array Nat) (i:Nat):p.getD i 0=(p[i]?).getD 0:=by simp [Array.getD];split <;> simp [*]
theorem Pm.inj (h:Pm n p) {i j:Nat} (hi:i < n) (hj:j < n) (ne:i≠j):p.getD i 0≠p.getD j 0:=by
 have sz:=h.size
 have nd:p.toList.Nodup:=by
  have q:p.toList.Perm (List.range n):=by
   have:=Array.perm_iff_toList_perm.mp h
   simpa using this
  exact q.nodup_iff.mpr List.nodup_range
 have e1:p.getD i 0=p.toList[i]'(by simpa [sz] using hi):=by simp [Array.getD,sz,hi]
 have e2:p.getD j 0=p.toList[j]'(by simpa [sz] using hj):=by simp [Array.getD,sz,hj]
 rw [e1,e2]
 intro z
 exact ne ((List.getElem_inj nd).mp z)
theorem Asc.all (o:Ord n lt) (h:Asc lt p m):∀ j i,i < j→j < m→lt (p.getD i 0) (p.getD j 0)=true
 | 0,i,hi,_=>absurd hi (Nat.not_lt_zero _)
 | j+1,i,hi,hj=>by
  by_cases e:i=j
  ·subst e;exact h i hj
  ·exact o.tr _ _ _ (Asc.all o h j i (by omega) (by omega)) (h j hj)
section
variable {prog:Program} {w:World} {A:Around} {E:Value→Shared→Prop} {s:Shared}
def a4H (h:Heap) (v:Value) (ns:List Int):Prop:=∃ (b:Addr) (items:Array Value),v=.ref b∧IsTup h b items∧IntsAre items.toList ns
theorem a4H.i {h:Heap} {v:Value} {ns:List Int} (t:a4H h v ns):TupI h v:=by
 obtain ⟨b,items,e,ht,hi⟩:=t
 exact ⟨b,items,ns,e,ht,hi⟩
theorem a4H.keep {h h':Heap} {v:Value} {ns:List Int} {a:Addr} {o:Obj} (t:a4H h v ns) (ho:h.get? a=some o) (hc:o.cls=.type "list") (k:∀ b o,b≠a→h.get? b=some o→h'.get? b=some o):a4H h' v ns:=by
 obtain ⟨b,items,rfl,⟨ob,hb,hcb,n,hd⟩,hi⟩:=t
 have ne:b≠a:=fun z=>by rw [z,ho] at hb;cases hb;rw [hc] at hcb;exact absurd (Value.type.inj hcb) (by decide)
 exact ⟨b,items,rfl,⟨ob,k b ob ne hb,hcb,n,hd⟩,hi⟩
theorem a6I {x y:Value} {ns ms:List Int} {Q:Bool→Shared→Prop} (hx:a4H s.heap x ns) (hy:a4H s.heap y ms) (hu:A.units < cLine) (h:Q (HT.a0S ns ms) s):wpAny (model prog w) A (oneLt' true x y) Q E s:=by
 obtain ⟨a,items,rfl,ht,hi⟩:=hx
 obtain ⟨b,items2,rfl,ht2,hj⟩:=hy
 obtain ⟨⟨cls,dd,data,sl⟩,ho,hc,n,hd⟩:=id ht
 obtain ⟨⟨cls2,dd2,data2,sl2⟩,ho2,hc2,n2,hd2⟩:=id ht2
 simp only at hc hd hc2 hd2
 subst hc hd hc2 hd2
 rw [oneLt'_eq]
 simp only [if_true]
 refine wpAny_bind (wpAny_cRoomFor hu ?_)
 refine wpAny_bind (wpAny_callSpecialIfBound?_slot (T:="tuple") ⟨_,ho,rfl⟩ PySem.F.slot_tuple_lt (call_meets PySem.F.slot_tuple_lt ⟨_,ho,rfl⟩ PySem.F.entry_tuple_lt (PySem.F.args_tuple_lt_2 _ _) (HT.a2m a b items items2 n n2 dd dd2 sl sl2 ns ms hi hj) ⟨ho,ho2,?_⟩))
 exact wpAny_truthy_bool h
theorem a3Q {fin:Bool} {Q:Bool→Shared→Prop}:∀ (xs ys:List Value) (ns ms:List Int) (i:Nat),IntsAre xs ns→IntsAre ys ms→fin=decide (ns.length < ms.length)→Q (HT.a0S ns ms) s→KatLex prog w A true fin Q (xs.zip ys) i s
 | [],ys,ns,ms,i,h1,h2,e,q=>by
  cases h1
  have z:HT.a0S [] ms=fin:=by
   subst e
   cases ms with
   | nil=>rfl
   | cons m ms=>exact (decide_eq_true (by simp)).symm
  rw [z] at q
  exact q
 | x :: xs,[],ns,ms,i,h1,h2,e,q=>by
  cases h2
  cases h1 with
  | cons n t h1 =>
   rename_i nt
   have z:HT.a0S (n :: nt) []=fin:=by
    subst e
    exact (decide_eq_false (by simp)).symm
   rw [z] at q
   exact q
 | x :: xs,y :: ys,ns,ms,i,h1,h2,e,q=>by
  cases h1 with
  | cons n t h1 =>
  cases h2 with
  | cons m u h2 =>
  rw [HT.a1a] at q
  refine kat_cons (wpAny_eqBool_int ?_)
  by_cases z:n=m
  ·subst z
   rw [if_pos rfl] at q
   have e0:(n == n)=true:=by simp
   rw [e0]
   exact kat_yes (a3Q xs ys _ _ (i+1) h1 h2 (by rw [e];simp) q)
  ·rw [if_neg z] at q
   have e0:(n == m)=false:=by simpa using z
   rw [e0]
   refine kat_no ?_
   cases hb:(true && i == 0) with
   | true=>exact oneLt_int q
   | false=>exact kat_one _ _ (PyProof.Rows.lt_int q)
end
def nokey:Keyed:=(Value.none,Value.none)
def el (xs:Array Keyed) (i:Nat):Keyed:=xs.getD i nokey
structure SO (less:Keyed→Keyed→Bool) (S:Keyed→Prop):Prop where
 asym:∀ x y,less x y=true→less y x=false
 tr:∀ x y z,less y x=false→less z y=false→less z x=false
theorem a3p {xs:Array Keyed} {i:Nat} (h:i < xs.size):xs[i]?=some (el xs i):=by
 unfold el
 rw [Array.getElem?_eq_getElem h]
 simp [Array.getD,h]
section
variable {prog:Program} {w:World} {A:Around} {E:Value→Shared→Prop} {s:Shared}
def Cmp (prog:Program) (w:World) (A:Around) (E:Value→Shared→Prop) (s:Shared) (κ:SortKind) (less:Keyed→Keyed→Bool) (S:Keyed→Prop):Prop :=
 ∀ (x y:Keyed) (st:SortSt) (Q:Option Bool→SortSt→Prop),S x→S y→kindOf st=κ→Q (some (less x y)) st→wpS (model prog w) A E s (lt' x y) Q st
variable {κ:SortKind} {less:Keyed→Keyed→Bool} {S:Keyed→Prop}
theorem a0k {arr:Array Keyed} {i:Nat} {st:SortSt} {Q:Keyed→SortSt→Prop} (hi:i < arr.size) (h:Q (el arr i) st):wpS (model prog w) A E s (elem' arr i) Q st:=by
 rw [elem'_eq,a3p hi]
 exact wpS_pure h
def gallop':Bool→Keyed→Array Keyed→Nat→Nat→Nat→StateT SortSt Sem (Option Nat):=sortPriv% PySem.Builtin.gallop
def beyond' (left:Bool) (key:Keyed) (arr:Array Keyed) (base i:Nat):StateT SortSt Sem (Option Bool):=do
  let x ←elem' arr (base+i)
  if left then lt' x key else return (←lt' key x).map (!·)
theorem a6J (left:Bool) (key:Keyed) (arr:Array Keyed) (base n hint:Nat):gallop' left key arr base n hint=(do
 let mut lastofs:=0
 let mut ofs:=1
 let mut lo:=0
 let mut hi:=0
 let some right ←beyond' left key arr base hint | return none
 if right then
  let maxofs:=n - hint
  for _ in [0:n] do
   if ofs ≥ maxofs then break
   let some more ←beyond' left key arr base (hint+ofs) | return none
   if !more then break
   lastofs:=ofs
   ofs:=2 * ofs+1
  lo:=hint+lastofs+1
  hi:=hint+min ofs maxofs
 else
  let maxofs:=hint+1
  for _ in [0:n] do
   if ofs ≥ maxofs then break
   let some found ←beyond' left key arr base (hint - ofs) | return none
   if found then break
   lastofs:=ofs
   ofs:=2 * ofs+1
  lo:=hint+1 - min ofs maxofs
  hi:=hint - lastofs
 for _ in [0:n] do
  if lo ≥ hi then break
  let m:=lo+(hi - lo) / 2
  let some more ←beyond' left key arr base m | return none
  if more then lo:=m+1 else hi:=m
 return some hi):=rfl
def Bey (less:Keyed→Keyed→Bool) (left:Bool) (key:Keyed) (arr:Array Keyed) (base i:Nat):Bool:=if left then less (el arr (base+i)) key else !less key (el arr (base+i))
theorem a6K (C:Cmp prog w A E s κ less S) {left:Bool} {key:Keyed} {arr:Array Keyed} {base i:Nat} {st:SortSt} {Q:Option Bool→SortSt→Prop} (hi:base+i < arr.size) (hk:S key) (hs:S (el arr (base+i))) (hκ:kindOf st=κ) (h:Q (some (Bey less left key arr base i)) st) :
  wpS (model prog w) A E s (beyond' left key arr base i) Q st:=by
 unfold beyond'
 refine wpS_bind (a0k hi ?_)
 cases left with
 | true=>exact C _ _ _ _ hs hk hκ h
 | false=>exact wpS_bind (C _ _ _ _ hk hs hκ (wpS_pure h))
theorem a0C (C:Cmp prog w A E s κ less S) {left:Bool} {key:Keyed} {arr:Array Keyed} {base n hint:Nat} {st:SortSt} {Q:Option Nat→SortSt→Prop} (hh:hint < n) (hn:base+n≤arr.size) (hk:S key) (hs:∀ i,i < n→S (el arr (base+i))) (hκ:kindOf st=κ)
  (mo:∀ i j,i < j→j < n→Bey less left key arr base j=true→Bey less left key arr base i=true)
  (h:∀ k,k≤n→(∀ i,i < k→Bey less left key arr base i=true)→(∀ i,k≤i→i < n→Bey less left key arr base i=false)→Q (some k) st) :
  wpS (model prog w) A E s (gallop' left key arr base n hint) Q st:=by
 rw [a6J]
 have bey:∀ {i:Nat} {Q:Option Bool→SortSt→Prop},i < n→Q (some (Bey less left key arr base i)) st→wpS (model prog w) A E s (beyond' left key arr base i) Q st:=fun {i Q} hi q=>a6K C (by omega) hk (hs i hi) hκ q
 generalize Bey less left key arr base=P at mo h bey
 refine wpS_bind (bey hh ?_)
 dsimp only
 cases e0:P hint with
 | true =>
  rw [if_pos rfl]
  refine wpS_bind (wpS_mono (wpS_forRange (I:=fun x c st'=>st'=st∧∃ la ofs,c=(none,la,ofs)∧la < ofs∧x+1≤ofs∧hint+la < n∧P (hint+la)=true)
   (Q:=fun c st'=>st'=st∧∃ la ofs,c=(none,la,ofs)∧la < ofs∧hint+la < n∧P (hint+la)=true∧(n - hint≤ofs∨(hint+ofs < n∧P (hint+ofs)=false))) ?_ ?_ ⟨rfl,0,1,rfl,by omega,by omega,by omega,e0⟩) ?_)
  ·rintro x c st' _ hx ⟨rfl,la,ofs,rfl,h1,h2,h3,h4⟩
   dsimp only
   by_cases g:ofs ≥ n - hint
   ·rw [if_pos g]
    exact wpS_pure ⟨rfl,la,ofs,rfl,h1,h3,h4,.inl g⟩
   ·rw [if_neg g]
    refine wpS_bind (bey (by omega) ?_)
    dsimp only
    cases e:P (hint+ofs) with
    | true =>
     rw [if_neg (by decide)]
     exact wpS_pure ⟨rfl,ofs,_,rfl,by omega,by omega,by omega,e⟩
    | false =>
     rw [if_pos (by decide)]
     exact wpS_pure ⟨rfl,la,ofs,rfl,h1,h3,h4,.inr ⟨by omega,e⟩⟩
  ·rintro c st' ⟨rfl,la,ofs,rfl,h1,h2,h3,h4⟩
   exact ⟨rfl,la,ofs,rfl,h1,h3,h4,.inl (by omega)⟩
  rintro c st' ⟨hst,la,ofs,rfl,h1,h3,h4,h5⟩
  have hst:=hst.symm
  subst hst
  dsimp only
  have L1:hint+la+1≤hint+min ofs (n - hint):=by omega
  have L2':hint+min ofs (n - hint)≤n:=by omega
  have L3:∀ i,i < hint+la+1→P i=true:=fun i hi=>by
   by_cases z:i=hint+la
   ·rw [z];exact h4
   ·exact mo i _ (by omega) h3 h4
  have L4:∀ i,hint+min ofs (n - hint)≤i→i < n→P i=false:=fun i hi hn'=>by
   rcases h5 with g | ⟨g,e⟩
   ·omega
   ·cases ei:P i with
    | false=>rfl
    | true =>
     by_cases z:i=hint+ofs
     ·rw [z] at ei;rw [ei] at e;exact e
     ·rw [mo (hint+ofs) i (by omega) hn' ei] at e;exact e
  refine wpS_bind (wpS_mono (wpS_forRange (I:=fun x c st'=>st'=st∧∃ lo hi,c=(none,lo,hi)∧lo≤hi∧hi≤n∧hi - lo≤n - x∧(∀ i,i < lo→P i=true)∧∀ i,hi≤i→i < n→P i=false)
   (Q:=fun c st'=>st'=st∧∃ hi,c=(none,hi,hi)∧hi≤n∧(∀ i,i < hi→P i=true)∧∀ i,hi≤i→i < n→P i=false) ?_ ?_ ⟨rfl,_,_,rfl,L1,L2',by omega,L3,L4⟩) ?_)
  ·rintro x c st' _ hx ⟨rfl,lo,hi,rfl,h1,h2,h3,h4,h5⟩
   dsimp only
   by_cases g:lo ≥ hi
   ·rw [if_pos g]
    have:lo=hi:=by omega
    subst this
    exact wpS_pure ⟨rfl,lo,rfl,h2,h4,h5⟩
   ·rw [if_neg g]
    refine wpS_bind (bey (by omega) ?_)
    dsimp only
    cases e:P (lo+(hi - lo) / 2) with
    | true =>
     rw [if_pos rfl]
     refine wpS_pure ⟨rfl,_,_,rfl,by omega,h2,by omega,fun i hi'=>?_,h5⟩
     by_cases z:i=lo+(hi - lo) / 2
     ·rw [z];exact e
     ·exact mo i _ (by omega) (by omega) e
    | false =>
     rw [if_neg (by decide)]
     refine wpS_pure ⟨rfl,_,_,rfl,by omega,by omega,by omega,h4,fun i hi' hn'=>?_⟩
     cases ei:P i with
     | false=>rfl
     | true =>
      by_cases z:i=lo+(hi - lo) / 2
      ·rw [z] at ei;rw [ei] at e;exact e
      ·rw [mo (lo+(hi - lo) / 2) i (by omega) hn' ei] at e;exact e
  ·rintro c st' ⟨rfl,lo,hi,rfl,h1,h2,h3,h4,h5⟩
   have:lo=hi:=by omega
   subst this
   exact ⟨rfl,lo,rfl,h2,h4,h5⟩
  ·rintro c st' ⟨rfl,hi,rfl,h2,h4,h5⟩
   exact wpS_pure (h hi h2 h4 h5)
 | false =>
  rw [if_neg (by decide)]
  refine wpS_bind (wpS_mono (wpS_forRange (I:=fun x c st'=>st'=st∧∃ la ofs,c=(none,la,ofs)∧la < ofs∧x+1≤ofs∧la≤hint∧P (hint - la)=false)
   (Q:=fun c st'=>st'=st∧∃ la ofs,c=(none,la,ofs)∧la < ofs∧la≤hint∧P (hint - la)=false∧(hint+1≤ofs∨(ofs≤hint∧P (hint - ofs)=true))) ?_ ?_ ⟨rfl,0,1,rfl,by omega,by omega,by omega,e0⟩) ?_)
  ·rintro x c st' _ hx ⟨rfl,la,ofs,rfl,h1,h2,h3,h4⟩
   dsimp only
   by_cases g:ofs ≥ hint+1
   ·rw [if_pos g]
    exact wpS_pure ⟨rfl,la,ofs,rfl,h1,h3,h4,.inl g⟩
   ·rw [if_neg g]
    refine wpS_bind (bey (by omega) ?_)
    dsimp only
    cases e:P (hint - ofs) with
    | false =>
     rw [if_neg (by decide)]
     exact wpS_pure ⟨rfl,ofs,_,rfl,by omega,by omega,by omega,e⟩
    | true =>
     rw [if_pos rfl]
     exact wpS_pure ⟨rfl,la,ofs,rfl,h1,h3,h4,.inr ⟨by omega,e⟩⟩
  ·rintro c st' ⟨rfl,la,ofs,rfl,h1,h2,h3,h4⟩
   exact ⟨rfl,la,ofs,rfl,h1,h3,h4,.inl (by omega)⟩
  rintro c st' ⟨hst,la,ofs,rfl,h1,h3,h4,h5⟩
  have hst:=hst.symm
  subst hst
  dsimp only
  have L1:hint+1 - min ofs (hint+1)≤hint - la:=by omega
  have L2':hint - la≤n:=by omega
  have L3:∀ i,i < hint+1 - min ofs (hint+1)→P i=true:=fun i hi=>by
   rcases h5 with g | ⟨g,e⟩
   ·omega
   ·by_cases z:i=hint - ofs
    ·rw [z];exact e
    ·exact mo i _ (by omega) (by omega) e
  have L4:∀ i,hint - la≤i→i < n→P i=false:=fun i hi hn'=>by
   cases ei:P i with
   | false=>rfl
   | true =>
    by_cases z:i=hint - la
    ·rw [z] at ei;rw [ei] at h4;exact h4
    ·rw [mo (hint - la) i (by omega) hn' ei] at h4;exact h4
  refine wpS_bind (wpS_mono (wpS_forRange (I:=fun x c st'=>st'=st∧∃ lo hi,c=(none,lo,hi)∧lo≤hi∧hi≤n∧hi - lo≤n - x∧(∀ i,i < lo→P i=true)∧∀ i,hi≤i→i < n→P i=false)
   (Q:=fun c st'=>st'=st∧∃ hi,c=(none,hi,hi)∧hi≤n∧(∀ i,i < hi→P i=true)∧∀ i,hi≤i→i < n→P i=false) ?_ ?_ ⟨rfl,_,_,rfl,L1,L2',by omega,L3,L4⟩) ?_)
  ·rintro x c st' _ hx ⟨rfl,lo,hi,rfl,h1,h2,h3,h4,h5⟩
   dsimp only
   by_cases g:lo ≥ hi
   ·rw [if_pos g]
    have:lo=hi:=by omega
    subst this
    exact wpS_pure ⟨rfl,lo,rfl,h2,h4,h5⟩
   ·rw [if_neg g]
    refine wpS_bind (bey (by omega) ?_)
    dsimp only
    cases e:P (lo+(hi - lo) / 2) with
    | true =>
     rw [if_pos rfl]
     refine wpS_pure ⟨rfl,_,_,rfl,by omega,h2,by omega,fun i hi'=>?_,h5⟩
     by_cases z:i=lo+(hi - lo) / 2
     ·rw [z];exact e
     ·exact mo i _ (by omega) (by omega) e
    | false =>
     rw [if_neg (by decide)]
     refine wpS_pure ⟨rfl,_,_,rfl,by omega,by omega,by omega,h4,fun i hi' hn'=>?_⟩
     cases ei:P i with
     | false=>rfl
     | true =>
      by_cases z:i=lo+(hi - lo) / 2
      ·rw [z] at ei;rw [ei] at e;exact e
      ·rw [mo (lo+(hi - lo) / 2) i (by omega) hn' ei] at e;exact e
  ·rintro c st' ⟨rfl,lo,hi,rfl,h1,h2,h3,h4,h5⟩
   have:lo=hi:=by omega
   subst this
   exact ⟨rfl,lo,rfl,h2,h4,h5⟩
  ·rintro c st' ⟨rfl,hi,rfl,h2,h4,h5⟩
   exact wpS_pure (h hi h2 h4 h5)
end
def a3R:Array Keyed→Array Keyed→StateT SortSt Sem (Array Keyed):=sortPriv% PySem.Builtin.mergeLo
def a0X:Nat→StateT SortSt Sem Unit:=sortPriv% PySem.Builtin.setMinGallop
abbrev b1U (st:SortSt) (g:Nat):SortSt:=SortSt.mk' (kindOf st) (arrOf st) (pendingOf st) g (failedOf st)
theorem a0G (g:Nat):a0X g=modify fun s=>b1U s g:=rfl
theorem a5m (a b:Array Keyed):a3R a b=(do
 rule "list.sort.merge-lo"
 let total:=a.size+b.size
 let done (out:Array Keyed) (ia ib:Nat):=out++a.extract ia a.size++b.extract ib b.size
 let lastOfA (out:Array Keyed) (ia ib:Nat):=out++b.extract ib b.size++a.extract ia a.size
 let mut out:Array Keyed:=#[←elem' b 0]
 let mut ia:=0
 let mut ib:=1
 if ib == b.size then return done out ia ib
 if ia+1 == a.size then return lastOfA out ia ib
 let mut minGallop:=gallopOf (←get)
 for _ in [0:total] do
  let mut acount:=0
  let mut bcount:=0
  for _ in [0:total] do
   let some bWins ←lt' (←elem' b ib) (←elem' a ia) | return done out ia ib
   if bWins then
    out:=out.push (←elem' b ib);ib:=ib+1;bcount:=bcount+1;acount:=0
    if ib == b.size then return done out ia ib
    if bcount ≥ minGallop then break
   else
    out:=out.push (←elem' a ia);ia:=ia+1;acount:=acount+1;bcount:=0
    if ia+1 == a.size then return lastOfA out ia ib
    if acount ≥ minGallop then break
  rule "list.sort.gallop"
  minGallop:=minGallop+1
  for _ in [0:total] do
   if minGallop > 1 then minGallop:=minGallop - 1
   a0X minGallop
   let some k ←gallop' false (←elem' b ib) a ia (a.size - ia) 0 | return done out ia ib
   acount:=k
   if k > 0 then
    out:=out++a.extract ia (ia+k);ia:=ia+k
    if ia+1 == a.size then return lastOfA out ia ib
    if ia == a.size then return done out ia ib
   out:=out.push (←elem' b ib);ib:=ib+1
   if ib == b.size then return done out ia ib
   let some k ←gallop' true (←elem' a ia) b ib (b.size - ib) 0 | return done out ia ib
   bcount:=k
   if k > 0 then
    out:=out++b.extract ib (ib+k);ib:=ib+k
    if ib == b.size then return done out ia ib
   out:=out.push (←elem' a ia);ia:=ia+1
   if ia+1 == a.size then return lastOfA out ia ib
   if acount < 7 && bcount < 7 then break
  minGallop:=minGallop+1
  a0X minGallop
 unsupported "internal:list.sort.merge-bound"):=rfl
abbrev Lt (less:Keyed→Keyed→Bool) (x y:Keyed):Prop:=less y x=false
structure MI (less:Keyed→Keyed→Bool) (a b out:Array Keyed) (ia ib:Nat):Prop where
 pm:out.toList.Perm (a.toList.take ia++b.toList.take ib)
 so:out.toList.Pairwise (Lt less)
 ba:∀ x∈out.toList,∀ j,ia≤j→j < a.size→Lt less x (el a j)
 bb:∀ x∈out.toList,∀ j,ib≤j→j < b.size→Lt less x (el b j)
structure MC (less:Keyed→Keyed→Bool) (S:Keyed→Prop) (a b:Array Keyed):Prop where
 so:SO less S
 sa:∀ i j,i < j→j < a.size→Lt less (el a i) (el a j)
 sb:∀ i j,i < j→j < b.size→Lt less (el b i) (el b j)
 xa:∀ i,i < a.size→S (el a i)
 xb:∀ i,i < b.size→S (el b i)
 fst:less (el b 0) (el a 0)=true
 lst:∀ j,j < b.size→less (el b j) (el a (a.size - 1))=true
 na:1≤a.size
 nb:1≤b.size
theorem a3S {a:Array Keyed} {i:Nat} (h:i < a.size):a.toList.take (i+1)=a.toList.take i++[el a i]:=by
 rw [List.take_add_one]
 have:a.toList[i]?=some (el a i):=by
  rw [Array.getElem?_toList]
  exact a3p h
 rw [this]
 rfl
variable {less:Keyed→Keyed→Bool} {S:Keyed→Prop} {a b out:Array Keyed} {ia ib:Nat}
theorem MI.pushB (m:MI less a b out ia ib) (c:MC less S a b) (h:ib < b.size) (hl:∀ j,ia≤j→j < a.size→Lt less (el b ib) (el a j)):MI less a b (out.push (el b ib)) ia (ib+1):=by
 refine ⟨?_,?_,fun x hx j h1 h2=>?_,fun x hx j h1 h2=>?_⟩
 ·rw [Array.toList_push,a3S h,←List.append_assoc]
  exact m.pm.append_right _
 ·rw [Array.toList_push,List.pairwise_append]
  exact ⟨m.so,List.pairwise_singleton ..,fun x hx y hy=>by rw [List.mem_singleton.mp hy];exact m.bb x hx ib (Nat.le_refl _) h⟩
 ·rw [Array.toList_push] at hx
  rcases List.mem_append.mp hx with z | z
  ·exact m.ba x z j h1 h2
  ·rw [List.mem_singleton.mp z];exact hl j h1 h2
 ·rw [Array.toList_push] at hx
  rcases List.mem_append.mp hx with z | z
  ·exact m.bb x z j (by omega) h2
  ·rw [List.mem_singleton.mp z];exact c.sb ib j (by omega) h2
theorem MI.pushA (m:MI less a b out ia ib) (c:MC less S a b) (h:ia < a.size) (hl:∀ j,ib≤j→j < b.size→Lt less (el a ia) (el b j)):MI less a b (out.push (el a ia)) (ia+1) ib:=by
 refine ⟨?_,?_,fun x hx j h1 h2=>?_,fun x hx j h1 h2=>?_⟩
 ·rw [Array.toList_push,a3S h]
  refine (m.pm.append_right _).trans ?_
  rw [List.append_assoc,List.append_assoc]
  exact List.Perm.append_left _ List.perm_append_comm
 ·rw [Array.toList_push,List.pairwise_append]
  exact ⟨m.so,List.pairwise_singleton ..,fun x hx y hy=>by rw [List.mem_singleton.mp hy];exact m.ba x hx ia (Nat.le_refl _) h⟩
 ·rw [Array.toList_push] at hx
  rcases List.mem_append.mp hx with z | z
  ·exact m.ba x z j (by omega) h2
  ·rw [List.mem_singleton.mp z];exact c.sa ia j (by omega) h2
 ·rw [Array.toList_push] at hx
  rcases List.mem_append.mp hx with z | z
  ·exact m.bb x z j h1 h2
  ·rw [List.mem_singleton.mp z];exact hl j h1 h2
theorem a5U {a:Array Keyed} {i k:Nat} (h:i+k < a.size):a.extract i (i+(k+1))=(a.extract i (i+k)).push (el a (i+k)):=by
 apply Array.toList_inj.mp
 rw [Array.toList_push,Array.toList_extract,Array.toList_extract,List.extract_eq_take_drop,List.extract_eq_take_drop]
 have e1:i+(k+1) - i=k+1:=by omega
 have e2:i+k - i=k:=by omega
 rw [e1,e2,List.take_add_one,List.getElem?_drop]
 have:a.toList[i+k]?=some (el a (i+k)):=by
  rw [Array.getElem?_toList]
  exact a3p h
 rw [this]
 rfl
theorem MI.moreA (c:MC less S a b) (m:MI less a b out ia ib):∀ k,ia+k≤a.size→(∀ i,i < k→∀ j,ib≤j→j < b.size→Lt less (el a (ia+i)) (el b j))→MI less a b (out++a.extract ia (ia+k)) (ia+k) ib
 | 0,_,_=>by
  have e:a.extract ia (ia+0)=#[]:=by simp;omega
  rw [e,Array.append_empty]
  exact m
 | k+1,h,hl=>by
  have ih:=MI.moreA c m k (by omega) fun i hi=>hl i (by omega)
  rw [a5U (by omega),Array.append_push]
  exact ih.pushA c (by omega) (hl k (by omega))
theorem MI.moreB (c:MC less S a b) (m:MI less a b out ia ib):∀ k,ib+k≤b.size→(∀ i,i < k→∀ j,ia≤j→j < a.size→Lt less (el b (ib+i)) (el a j))→MI less a b (out++b.extract ib (ib+k)) ia (ib+k)
 | 0,_,_=>by
  have e:b.extract ib (ib+0)=#[]:=by simp;omega
  rw [e,Array.append_empty]
  exact m
 | k+1,h,hl=>by
  have ih:=MI.moreB c m k (by omega) fun i hi=>hl i (by omega)
  rw [a5U (by omega),Array.append_push]
  exact ih.pushB c (by omega) (hl k (by omega))
theorem MI.doneB (c:MC less S a b) (m:MI less a b out ia b.size) (h:ia≤a.size):MI less a b (out++a.extract ia++b.extract b.size) a.size b.size:=by
 have e:b.extract b.size=#[]:=by simp
 have m2:=m.moreA c (a.size - ia) (by omega) (fun i hi j h1 h2=>absurd h1 (by omega))
 have e2:ia+(a.size - ia)=a.size:=by omega
 rw [e2] at m2
 rw [e,Array.append_empty]
 exact m2
theorem MI.lastA (c:MC less S a b) (m:MI less a b out ia ib) (h1:ia+1=a.size) (h2:ib≤b.size):MI less a b (out++b.extract ib++a.extract ia) a.size b.size:=by
 have m2:=m.moreB c (b.size - ib) (by omega) (fun i hi j g1 g2=>by
  have:j=a.size - 1:=by omega
  rw [this]
  exact c.so.asym _ _ (c.lst _ (by omega)))
 have e2:ib+(b.size - ib)=b.size:=by omega
 rw [e2] at m2
 have m3:=m2.moreA c 1 (by omega) (fun i hi j g1 g2=>absurd g1 (by omega))
 rw [h1] at m3
 exact m3
structure a1j (st st':SortSt):Prop where
 k:kindOf st'=kindOf st
 a:arrOf st'=arrOf st
 p:pendingOf st'=pendingOf st
 f:failedOf st'=failedOf st
theorem a1j.refl (st:SortSt):a1j st st:=⟨rfl,rfl,rfl,rfl⟩
theorem a1j.set {st st':SortSt} (h:a1j st st') (g:Nat):a1j st (b1U st' g):=⟨h.k,h.a,h.p,h.f⟩
section
variable {prog:Program} {w:World} {A:Around} {E:Value→Shared→Prop} {s:Shared} {κ:SortKind}
theorem a5n (C:Cmp prog w A E s κ less S) (c:MC less S a b) {st:SortSt} {Q:Array Keyed→SortSt→Prop} (hκ:kindOf st=κ)
  (h:∀ m st',a1j st st'→m.toList.Perm (a.toList++b.toList)→m.toList.Pairwise (Lt less)→Q m st'):wpS (model prog w) A E s (a3R a b) Q st:=by
 subst hκ
 have na:=c.na
 have nb:=c.nb
 have fin:∀ {m:Array Keyed} {st':SortSt},a1j st st'→MI less a b m a.size b.size→Q m st':=fun {m st'} k mi=>by
  refine h m st' k ?_ mi.so
  have e:=mi.pm
  rw [←Array.length_toList,List.take_length,←Array.length_toList,List.take_length] at e
  exact e
 rw [a5m]
 refine wpS_bind (wpS_lift (wpAny_rule ⟨rfl,?_⟩))
 dsimp only
 refine wpS_bind (a0k nb ?_)
 have fa:∀ j,j < a.size→Lt less (el b 0) (el a j):=fun j hj=>by
  by_cases z:j=0
  ·rw [z];exact c.so.asym _ _ c.fst
  ·exact c.so.tr _ _ _ (c.so.asym _ _ c.fst) (c.sa 0 j (by omega) hj)
 have m0:MI less a b #[el b 0] 0 1:=by
  refine ⟨?_,List.pairwise_singleton ..,fun x hx j _ h2=>?_,fun x hx j h1 h2=>?_⟩
  ·rw [a3S nb]
   exact List.Perm.refl _
  ·rw [List.mem_singleton.mp hx];exact fa j h2
  ·rw [List.mem_singleton.mp hx];exact c.sb 0 j (by omega) h2
 by_cases g1:(1 == b.size)=true
 ·rw [if_pos g1]
  have g1:1=b.size:=by simpa using g1
  exact wpS_pure (fin (a1j.refl _) (by rw [g1] at m0 ⊢;exact MI.doneB c m0 (by omega)))
 rw [if_neg g1]
 have g1:¬ 1=b.size:=by simpa using g1
 by_cases g2:(0+1 == a.size)=true
 ·rw [if_pos g2]
  have g2:0+1=a.size:=by simpa using g2
  exact wpS_pure (fin (a1j.refl _) (MI.lastA c m0 g2 (by omega)))
 rw [if_neg g2]
 have g2:¬ 0+1=a.size:=by simpa using g2
 have LST:∀ j,j < b.size→less (el b j) (el a (a.size - 1))=true:=c.lst
 refine wpS_bind (wpS_get ?_)
 refine wpS_bind (wpS_mono (wpS_forRange (I:=fun x cc st'=>a1j st st'∧∃ out ia ib mg,cc=(none,out,ia,ib,mg)∧MI less a b out ia ib∧ia+1 < a.size∧ib < b.size∧x+1≤ia+ib)
  (Q:=fun cc st'=>a1j st st'∧∃ m o i j g,cc=(some m,o,i,j,g)∧MI less a b m a.size b.size) ?step ?ende ⟨a1j.refl _,_,0,1,_,rfl,m0,by omega,by omega,by omega⟩) ?post)
 case post =>
  rintro cc st' ⟨k,m,o,i,j,g,rfl,mi⟩
  exact wpS_pure (fin k mi)
 case ende =>
  rintro cc st' ⟨k,out,ia,ib,mg,rfl,m,h1,h2,h3⟩
  exfalso
  omega
 case step =>
  rintro x cc st1 _ hx ⟨k1,out,ia,ib,mg,rfl,m1,h1,h2,h3⟩
  dsimp only
  refine wpS_bind (wpS_mono (wpS_forRange (I:=fun y cc st'=>st'=st1∧∃ out2 ia2 ib2 ac bc,cc=(none,out2,ia2,ib2,ac,bc)∧MI less a b out2 ia2 ib2∧ia2+1 < a.size∧ib2 < b.size∧ia+ib+y≤ia2+ib2)
   (Q:=fun cc st'=>st'=st1∧((∃ m o i j ac bc,cc=(some m,o,i,j,ac,bc)∧MI less a b m a.size b.size)∨∃ out2 ia2 ib2 ac bc,cc=(none,out2,ia2,ib2,ac,bc)∧MI less a b out2 ia2 ib2∧ia2+1 < a.size∧ib2 < b.size∧ia+ib+1≤ia2+ib2)) ?istep ?iende ⟨rfl,_,_,_,_,_,rfl,m1,h1,h2,by omega⟩) ?ipost)
  case iende =>
   rintro cc st' ⟨rfl,out2,ia2,ib2,ac,bc,rfl,m2,i1,i2,i3⟩
   exfalso
   omega
  case istep =>
   rintro y cc st' _ hy ⟨rfl,out2,ia2,ib2,ac,bc,rfl,m2,i1,i2,i3⟩
   dsimp only
   refine wpS_bind (a0k i2 (wpS_bind (a0k (show ia2 < a.size by omega) ?_)))
   refine wpS_bind (C _ _ _ _ (c.xb _ i2) (c.xa _ (by omega)) k1.k ?_)
   dsimp only
   cases e:less (el b ib2) (el a ia2) with
   | true =>
    rw [if_pos rfl]
    refine wpS_bind (a0k i2 ?_)
    have m3:=m2.pushB c i2 (fun j q1 q2=>by
     by_cases z:j=ia2
     ·rw [z];exact c.so.asym _ _ e
     ·exact c.so.tr _ _ _ (c.so.asym _ _ e) (c.sa _ _ (by omega) q2))
    by_cases g3:(ib2+1 == b.size)=true
    ·rw [if_pos g3]
     have g3:ib2+1=b.size:=by simpa using g3
     exact wpS_pure ⟨rfl,.inl ⟨_,_,_,_,_,_,rfl,by rw [g3] at m3 ⊢;exact MI.doneB c m3 (by omega)⟩⟩
    ·rw [if_neg g3]
     have g3:¬ ib2+1=b.size:=by simpa using g3
     split
     ·exact wpS_pure ⟨rfl,.inr ⟨_,_,_,_,_,rfl,m3,by omega,by omega,by omega⟩⟩
     ·exact wpS_pure ⟨rfl,_,_,_,_,_,rfl,m3,by omega,by omega,by omega⟩
   | false =>
    rw [if_neg (by decide)]
    refine wpS_bind (a0k (show ia2 < a.size by omega) ?_)
    have e2:=e
    have m3:=m2.pushA c (show ia2 < a.size by omega) (fun j q1 q2=>by
     by_cases z:j=ib2
     ·rw [z];exact e2
     ·exact c.so.tr _ _ _ e2 (c.sb _ _ (by omega) q2))
    by_cases g3:(ia2+1+1 == a.size)=true
    ·rw [if_pos g3]
     have g3:ia2+1+1=a.size:=by simpa using g3
     exact wpS_pure ⟨rfl,.inl ⟨_,_,_,_,_,_,rfl,MI.lastA c m3 g3 (by omega)⟩⟩
    ·rw [if_neg g3]
     have g3:¬ ia2+1+1=a.size:=by simpa using g3
     split
     ·exact wpS_pure ⟨rfl,.inr ⟨_,_,_,_,_,rfl,m3,by omega,by omega,by omega⟩⟩
     ·exact wpS_pure ⟨rfl,_,_,_,_,_,rfl,m3,by omega,by omega,by omega⟩
  case ipost =>
   rintro cc st' ⟨est,⟨m,o,i,j,ac,bc,rfl,mi⟩ | ⟨out2,ia2,ib2,ac,bc,rfl,m2,i1,i2,i3⟩⟩
   ·subst est
    exact wpS_pure ⟨k1,_,_,_,_,_,rfl,mi⟩
   subst est
   dsimp only
   refine wpS_bind (wpS_lift (wpAny_rule ⟨rfl,?_⟩))
   refine wpS_bind (wpS_mono (wpS_forRange (I:=fun y cc st'=>a1j st st'∧∃ out3 ia3 ib3 mg3 ac bc,cc=(none,out3,ia3,ib3,mg3,ac,bc)∧MI less a b out3 ia3 ib3∧ia3+1 < a.size∧ib3 < b.size∧ia+ib+1≤ia3+ib3)
    (Q:=fun cc st'=>a1j st st'∧((∃ m o i j g ac bc,cc=(some m,o,i,j,g,ac,bc)∧MI less a b m a.size b.size)∨∃ out3 ia3 ib3 mg3 ac bc,cc=(none,out3,ia3,ib3,mg3,ac,bc)∧MI less a b out3 ia3 ib3∧ia3+1 < a.size∧ib3 < b.size∧ia+ib+1≤ia3+ib3)) ?gstep ?gende ⟨k1,_,_,_,_,_,_,rfl,m2,i1,i2,i3⟩) ?gpost)
   case gende =>
    rintro cc st' ⟨k,out3,ia3,ib3,mg3,ac,bc,rfl,m3,j1,j2,j3⟩
    exact ⟨k,.inr ⟨_,_,_,_,_,_,rfl,m3,j1,j2,j3⟩⟩
   case gpost =>
    rintro cc st' ⟨k,⟨m,o,i,j,g,ac,bc,rfl,mi⟩ | ⟨out3,ia3,ib3,mg3,ac,bc,rfl,m3,j1,j2,j3⟩⟩
    ·exact wpS_pure ⟨k,_,_,_,_,_,rfl,mi⟩
    dsimp only
    rw [a0G]
    exact wpS_bind (wpS_modify (wpS_pure ⟨k.set _,_,_,_,_,rfl,m3,j1,j2,by omega⟩))
   case gstep =>
    rintro y cc st3 _ hy ⟨ks0,out3,ia3,ib3,mg3,ac,bc,rfl,m3,j1,j2,j3⟩
    dsimp only
    have LST:=LST ib3 j2
    by_cases gg:mg3 > 1
    ·rw [if_pos gg]
     rw [a0G]
     refine wpS_bind (wpS_modify ?_)
     have ks:=ks0.set (mg3 - 1)
     generalize b1U st3 (mg3 - 1)=st4 at ks ⊢
     refine wpS_bind (a0k (show ib3 < b.size by omega) ?_)
     refine wpS_bind (a0C C (show 0 < a.size - ia3 by omega) (by omega) (c.xb _ (by omega)) (fun i hi=>c.xa _ (by omega)) ks.k (fun i j hij hj hb=>?_) (fun k1 hk1 hk2 hk3=>?_))
     ·show (!less (el b ib3) (el a (ia3+i)))=true
      have hb:(!less (el b ib3) (el a (ia3+j)))=true:=hb
      rw [c.so.tr _ _ _ (c.sa (ia3+i) (ia3+j) (by omega) (by omega)) (show less (el b ib3) (el a (ia3+j))=false by simpa using hb)]
      rfl
     dsimp only
     have hk4:∀ i,i < k1→Lt less (el a (ia3+i)) (el b ib3):=fun i hi=>by
      have q:(!less (el b ib3) (el a (ia3+i)))=true:=hk2 i hi
      show less (el b ib3) (el a (ia3+i))=false
      simpa using q
     have hk5:∀ i,k1≤i→i < a.size - ia3→less (el b ib3) (el a (ia3+i))=true:=fun i hi hi2=>by
      have q:(!less (el b ib3) (el a (ia3+i)))=false:=hk3 i hi hi2
      simpa using q
     have HB:∀ j,ia3+k1≤j→j < a.size→Lt less (el b ib3) (el a j):=fun j h1 h2=>by
      have q:=hk5 (j - ia3) (by omega) (by omega)
      have e:ia3+(j - ia3)=j:=by omega
      rw [e] at q
      exact c.so.asym _ _ q
     by_cases g6:k1 > 0
     ·rw [if_pos g6]
      have m35:=MI.moreA c m3 k1 (by omega) (fun i hi j h1 h2=>by
       by_cases z:j=ib3
       ·rw [z];exact hk4 i hi
       ·exact c.so.tr _ _ _ (hk4 i hi) (c.sb _ _ (by omega) h2))
      have lk:ia3+k1≤a.size - 1:=by
       rcases Nat.lt_or_ge (ia3+k1) a.size with z | z
       ·omega
       ·have q1:=hk4 (a.size - 1 - ia3) (by omega)
        have e:ia3+(a.size - 1 - ia3)=a.size - 1:=by omega
        rw [e] at q1
        rw [show less (el b ib3) (el a (a.size - 1))=false from q1] at LST
        cases LST
      by_cases g7:(ia3+k1+1 == a.size)=true
      ·rw [if_pos g7]
       have g7:ia3+k1+1=a.size:=by simpa using g7
       exact wpS_pure ⟨ks,.inl ⟨_,_,_,_,_,_,_,rfl,MI.lastA c m35 g7 (by omega)⟩⟩
      ·rw [if_neg g7]
       have g7:¬ ia3+k1+1=a.size:=by simpa using g7
       by_cases g8:(ia3+k1 == a.size)=true
       ·exact absurd (by simpa using g8:ia3+k1=a.size) (by omega)
       ·rw [if_neg g8]
        have M3:=m35
        have HB3:=HB
        obtain ⟨ia4,e4⟩:∃ ia4,ia4=ia3+k1:=⟨_,rfl⟩
        rw [←e4] at M3 HB3 g7 lk ⊢
        refine wpS_bind (a0k (show ib3 < b.size by omega) ?_)
        try dsimp only
        have m4:=MI.pushB M3 c (show ib3 < b.size by omega) HB3
        by_cases g2:(ib3+1 == b.size)=true
        ·rw [if_pos g2]
         have g2:ib3+1=b.size:=by simpa using g2
         exact wpS_pure ⟨ks,.inl ⟨_,_,_,_,_,_,_,rfl,by rw [g2] at m4 ⊢;exact MI.doneB c m4 (by omega)⟩⟩
        ·rw [if_neg g2]
         have g2:¬ ib3+1=b.size:=by simpa using g2
         refine wpS_bind (a0k (show ia4 < a.size by omega) ?_)
         refine wpS_bind (a0C C (show 0 < b.size - (ib3+1) by omega) (by omega) (c.xa _ (by omega)) (fun i hi=>c.xb _ (by omega)) ks.k (fun i j hij hj hb=>?_) (fun k2 hk2 hk3 hk4=>?_))
         ·show less (el b (ib3+1+i)) (el a ia4)=true
          have hb:less (el b (ib3+1+j)) (el a ia4)=true:=hb
          cases e:less (el b (ib3+1+i)) (el a ia4) with
          | true=>rfl
          | false=>rw [c.so.tr _ _ _ e (c.sb (ib3+1+i) (ib3+1+j) (by omega) (by omega))] at hb;exact hb
         dsimp only
         have hk5:∀ i,i < k2→less (el b (ib3+1+i)) (el a ia4)=true:=fun i hi=>hk3 i hi
         have hk6:∀ i,k2≤i→i < b.size - (ib3+1)→less (el b (ib3+1+i)) (el a ia4)=false:=fun i hi hi2=>hk4 i hi hi2
         have HA:∀ j,ib3+1+k2≤j→j < b.size→Lt less (el a ia4) (el b j):=fun j h1 h2=>by
          have q:=hk6 (j - (ib3+1)) (by omega) (by omega)
          have e:ib3+1+(j - (ib3+1))=j:=by omega
          rw [e] at q
          exact q
         by_cases g3:k2 > 0
         ·rw [if_pos g3]
          have m45:=MI.moreB c m4 k2 (by omega) (fun i hi j h1 h2=>by
           by_cases z:j=ia4
           ·rw [z];exact c.so.asym _ _ (hk5 i hi)
           ·exact c.so.tr _ _ _ (c.so.asym _ _ (hk5 i hi)) (c.sa _ _ (by omega) h2))
          by_cases g5:(ib3+1+k2 == b.size)=true
          ·rw [if_pos g5]
           have g5:ib3+1+k2=b.size:=by simpa using g5
           exact wpS_pure ⟨ks,.inl ⟨_,_,_,_,_,_,_,rfl,by rw [g5] at m45 ⊢;exact MI.doneB c m45 (by omega)⟩⟩
          ·rw [if_neg g5]
           have g5:¬ ib3+1+k2=b.size:=by simpa using g5
           have M4:=m45
           have HA4:=HA
           refine wpS_bind (a0k (show ia4 < a.size by omega) ?_)
           try dsimp only
           have m5:=MI.pushA M4 c (show ia4 < a.size by omega) HA4
           by_cases g4:(ia4+1+1 == a.size)=true
           ·rw [if_pos g4]
            have g4:ia4+1+1=a.size:=by simpa using g4
            exact wpS_pure ⟨ks,.inl ⟨_,_,_,_,_,_,_,rfl,MI.lastA c m5 g4 (by omega)⟩⟩
           ·rw [if_neg g4]
            have g4:¬ ia4+1+1=a.size:=by simpa using g4
            split
            ·exact wpS_pure ⟨ks,.inr ⟨_,_,_,_,_,_,rfl,m5,by omega,by omega,by omega⟩⟩
            ·exact wpS_pure ⟨ks,_,_,_,_,_,_,rfl,m5,by omega,by omega,by omega⟩
         ·rw [if_neg g3]
          have z2:k2=0:=by omega
          subst z2
          have M4:=m4
          have HA4:∀ j,ib3+1≤j→j < b.size→Lt less (el a ia4) (el b j):=fun j h1 h2=>HA j (by omega) h2
          refine wpS_bind (a0k (show ia4 < a.size by omega) ?_)
          try dsimp only
          have m5:=MI.pushA M4 c (show ia4 < a.size by omega) HA4
          by_cases g4:(ia4+1+1 == a.size)=true
          ·rw [if_pos g4]
           have g4:ia4+1+1=a.size:=by simpa using g4
           exact wpS_pure ⟨ks,.inl ⟨_,_,_,_,_,_,_,rfl,MI.lastA c m5 g4 (by omega)⟩⟩
          ·rw [if_neg g4]
           have g4:¬ ia4+1+1=a.size:=by simpa using g4
           split
           ·exact wpS_pure ⟨ks,.inr ⟨_,_,_,_,_,_,rfl,m5,by omega,by omega,by omega⟩⟩
           ·exact wpS_pure ⟨ks,_,_,_,_,_,_,rfl,m5,by omega,by omega,by omega⟩
     ·rw [if_neg g6]
      have z1:k1=0:=by omega
      subst z1
      have M3:=m3
      have HB3:∀ j,ia3≤j→j < a.size→Lt less (el b ib3) (el a j):=fun j h1 h2=>HB j (by omega) h2
      refine wpS_bind (a0k (show ib3 < b.size by omega) ?_)
      try dsimp only
      have m4:=MI.pushB M3 c (show ib3 < b.size by omega) HB3
      by_cases g2:(ib3+1 == b.size)=true
      ·rw [if_pos g2]
       have g2:ib3+1=b.size:=by simpa using g2
       exact wpS_pure ⟨ks,.inl ⟨_,_,_,_,_,_,_,rfl,by rw [g2] at m4 ⊢;exact MI.doneB c m4 (by omega)⟩⟩
      ·rw [if_neg g2]
       have g2:¬ ib3+1=b.size:=by simpa using g2
       refine wpS_bind (a0k (show ia3 < a.size by omega) ?_)
       refine wpS_bind (a0C C (show 0 < b.size - (ib3+1) by omega) (by omega) (c.xa _ (by omega)) (fun i hi=>c.xb _ (by omega)) ks.k (fun i j hij hj hb=>?_) (fun k2 hk2 hk3 hk4=>?_))
       ·show less (el b (ib3+1+i)) (el a ia3)=true
        have hb:less (el b (ib3+1+j)) (el a ia3)=true:=hb
        cases e:less (el b (ib3+1+i)) (el a ia3) with
        | true=>rfl
        | false=>rw [c.so.tr _ _ _ e (c.sb (ib3+1+i) (ib3+1+j) (by omega) (by omega))] at hb;exact hb
       dsimp only
       have hk5:∀ i,i < k2→less (el b (ib3+1+i)) (el a ia3)=true:=fun i hi=>hk3 i hi
       have hk6:∀ i,k2≤i→i < b.size - (ib3+1)→less (el b (ib3+1+i)) (el a ia3)=false:=fun i hi hi2=>hk4 i hi hi2
       have HA:∀ j,ib3+1+k2≤j→j < b.size→Lt less (el a ia3) (el b j):=fun j h1 h2=>by
        have q:=hk6 (j - (ib3+1)) (by omega) (by omega)
        have e:ib3+1+(j - (ib3+1))=j:=by omega
        rw [e] at q
        exact q
       by_cases g3:k2 > 0
       ·rw [if_pos g3]
        have m45:=MI.moreB c m4 k2 (by omega) (fun i hi j h1 h2=>by
         by_cases z:j=ia3
         ·rw [z];exact c.so.asym _ _ (hk5 i hi)
         ·exact c.so.tr _ _ _ (c.so.asym _ _ (hk5 i hi)) (c.sa _ _ (by omega) h2))
        by_cases g5:(ib3+1+k2 == b.size)=true
        ·rw [if_pos g5]
         have g5:ib3+1+k2=b.size:=by simpa using g5
         exact wpS_pure ⟨ks,.inl ⟨_,_,_,_,_,_,_,rfl,by rw [g5] at m45 ⊢;exact MI.doneB c m45 (by omega)⟩⟩
        ·rw [if_neg g5]
         have g5:¬ ib3+1+k2=b.size:=by simpa using g5
         have M4:=m45
         have HA4:=HA
         refine wpS_bind (a0k (show ia3 < a.size by omega) ?_)
         try dsimp only
         have m5:=MI.pushA M4 c (show ia3 < a.size by omega) HA4
         by_cases g4:(ia3+1+1 == a.size)=true
         ·rw [if_pos g4]
          have g4:ia3+1+1=a.size:=by simpa using g4
          exact wpS_pure ⟨ks,.inl ⟨_,_,_,_,_,_,_,rfl,MI.lastA c m5 g4 (by omega)⟩⟩
         ·rw [if_neg g4]
          have g4:¬ ia3+1+1=a.size:=by simpa using g4
          split
          ·exact wpS_pure ⟨ks,.inr ⟨_,_,_,_,_,_,rfl,m5,by omega,by omega,by omega⟩⟩
          ·exact wpS_pure ⟨ks,_,_,_,_,_,_,rfl,m5,by omega,by omega,by omega⟩
       ·rw [if_neg g3]
        have z2:k2=0:=by omega
        subst z2
        have M4:=m4
        have HA4:∀ j,ib3+1≤j→j < b.size→Lt less (el a ia3) (el b j):=fun j h1 h2=>HA j (by omega) h2
        refine wpS_bind (a0k (show ia3 < a.size by omega) ?_)
        try dsimp only
        have m5:=MI.pushA M4 c (show ia3 < a.size by omega) HA4
        by_cases g4:(ia3+1+1 == a.size)=true
        ·rw [if_pos g4]
         have g4:ia3+1+1=a.size:=by simpa using g4
         exact wpS_pure ⟨ks,.inl ⟨_,_,_,_,_,_,_,rfl,MI.lastA c m5 g4 (by omega)⟩⟩
        ·rw [if_neg g4]
         have g4:¬ ia3+1+1=a.size:=by simpa using g4
         split
         ·exact wpS_pure ⟨ks,.inr ⟨_,_,_,_,_,_,rfl,m5,by omega,by omega,by omega⟩⟩
         ·exact wpS_pure ⟨ks,_,_,_,_,_,_,rfl,m5,by omega,by omega,by omega⟩
    ·rw [if_neg gg]
     rw [a0G]
     refine wpS_bind (wpS_modify ?_)
     have ks:=ks0.set mg3
     generalize b1U st3 mg3=st4 at ks ⊢
     refine wpS_bind (a0k (show ib3 < b.size by omega) ?_)
     refine wpS_bind (a0C C (show 0 < a.size - ia3 by omega) (by omega) (c.xb _ (by omega)) (fun i hi=>c.xa _ (by omega)) ks.k (fun i j hij hj hb=>?_) (fun k1 hk1 hk2 hk3=>?_))
     ·show (!less (el b ib3) (el a (ia3+i)))=true
      have hb:(!less (el b ib3) (el a (ia3+j)))=true:=hb
      rw [c.so.tr _ _ _ (c.sa (ia3+i) (ia3+j) (by omega) (by omega)) (show less (el b ib3) (el a (ia3+j))=false by simpa using hb)]
      rfl
     dsimp only
     have hk4:∀ i,i < k1→Lt less (el a (ia3+i)) (el b ib3):=fun i hi=>by
      have q:(!less (el b ib3) (el a (ia3+i)))=true:=hk2 i hi
      show less (el b ib3) (el a (ia3+i))=false
      simpa using q
     have hk5:∀ i,k1≤i→i < a.size - ia3→less (el b ib3) (el a (ia3+i))=true:=fun i hi hi2=>by
      have q:(!less (el b ib3) (el a (ia3+i)))=false:=hk3 i hi hi2
      simpa using q
     have HB:∀ j,ia3+k1≤j→j < a.size→Lt less (el b ib3) (el a j):=fun j h1 h2=>by
      have q:=hk5 (j - ia3) (by omega) (by omega)
      have e:ia3+(j - ia3)=j:=by omega
      rw [e] at q
      exact c.so.asym _ _ q
     by_cases g6:k1 > 0
     ·rw [if_pos g6]
      have m35:=MI.moreA c m3 k1 (by omega) (fun i hi j h1 h2=>by
       by_cases z:j=ib3
       ·rw [z];exact hk4 i hi
       ·exact c.so.tr _ _ _ (hk4 i hi) (c.sb _ _ (by omega) h2))
      have lk:ia3+k1≤a.size - 1:=by
       rcases Nat.lt_or_ge (ia3+k1) a.size with z | z
       ·omega
       ·have q1:=hk4 (a.size - 1 - ia3) (by omega)
        have e:ia3+(a.size - 1 - ia3)=a.size - 1:=by omega
        rw [e] at q1
        rw [show less (el b ib3) (el a (a.size - 1))=false from q1] at LST
        cases LST
      by_cases g7:(ia3+k1+1 == a.size)=true
      ·rw [if_pos g7]
       have g7:ia3+k1+1=a.size:=by simpa using g7
       exact wpS_pure ⟨ks,.inl ⟨_,_,_,_,_,_,_,rfl,MI.lastA c m35 g7 (by omega)⟩⟩
      ·rw [if_neg g7]
       have g7:¬ ia3+k1+1=a.size:=by simpa using g7
       by_cases g8:(ia3+k1 == a.size)=true
       ·exact absurd (by simpa using g8:ia3+k1=a.size) (by omega)
       ·rw [if_neg g8]
        have M3:=m35
        have HB3:=HB
        obtain ⟨ia4,e4⟩:∃ ia4,ia4=ia3+k1:=⟨_,rfl⟩
        rw [←e4] at M3 HB3 g7 lk ⊢
        refine wpS_bind (a0k (show ib3 < b.size by omega) ?_)
        try dsimp only
        have m4:=MI.pushB M3 c (show ib3 < b.size by omega) HB3
        by_cases g2:(ib3+1 == b.size)=true
        ·rw [if_pos g2]
         have g2:ib3+1=b.size:=by simpa using g2
         exact wpS_pure ⟨ks,.inl ⟨_,_,_,_,_,_,_,rfl,by rw [g2] at m4 ⊢;exact MI.doneB c m4 (by omega)⟩⟩
        ·rw [if_neg g2]
         have g2:¬ ib3+1=b.size:=by simpa using g2
         refine wpS_bind (a0k (show ia4 < a.size by omega) ?_)
         refine wpS_bind (a0C C (show 0 < b.size - (ib3+1) by omega) (by omega) (c.xa _ (by omega)) (fun i hi=>c.xb _ (by omega)) ks.k (fun i j hij hj hb=>?_) (fun k2 hk2 hk3 hk4=>?_))
         ·show less (el b (ib3+1+i)) (el a ia4)=true
          have hb:less (el b (ib3+1+j)) (el a ia4)=true:=hb
          cases e:less (el b (ib3+1+i)) (el a ia4) with
          | true=>rfl
          | false=>rw [c.so.tr _ _ _ e (c.sb (ib3+1+i) (ib3+1+j) (by omega) (by omega))] at hb;exact hb
         dsimp only
         have hk5:∀ i,i < k2→less (el b (ib3+1+i)) (el a ia4)=true:=fun i hi=>hk3 i hi
         have hk6:∀ i,k2≤i→i < b.size - (ib3+1)→less (el b (ib3+1+i)) (el a ia4)=false:=fun i hi hi2=>hk4 i hi hi2
         have HA:∀ j,ib3+1+k2≤j→j < b.size→Lt less (el a ia4) (el b j):=fun j h1 h2=>by
          have q:=hk6 (j - (ib3+1)) (by omega) (by omega)
          have e:ib3+1+(j - (ib3+1))=j:=by omega
          rw [e] at q
          exact q
         by_cases g3:k2 > 0
         ·rw [if_pos g3]
          have m45:=MI.moreB c m4 k2 (by omega) (fun i hi j h1 h2=>by
           by_cases z:j=ia4
           ·rw [z];exact c.so.asym _ _ (hk5 i hi)
           ·exact c.so.tr _ _ _ (c.so.asym _ _ (hk5 i hi)) (c.sa _ _ (by omega) h2))
          by_cases g5:(ib3+1+k2 == b.size)=true
          ·rw [if_pos g5]
           have g5:ib3+1+k2=b.size:=by simpa using g5
           exact wpS_pure ⟨ks,.inl ⟨_,_,_,_,_,_,_,rfl,by rw [g5] at m45 ⊢;exact MI.doneB c m45 (by omega)⟩⟩
          ·rw [if_neg g5]
           have g5:¬ ib3+1+k2=b.size:=by simpa using g5
           have M4:=m45
           have HA4:=HA
           refine wpS_bind (a0k (show ia4 < a.size by omega) ?_)
           try dsimp only
           have m5:=MI.pushA M4 c (show ia4 < a.size by omega) HA4
           by_cases g4:(ia4+1+1 == a.size)=true
           ·rw [if_pos g4]
            have g4:ia4+1+1=a.size:=by simpa using g4
            exact wpS_pure ⟨ks,.inl ⟨_,_,_,_,_,_,_,rfl,MI.lastA c m5 g4 (by omega)⟩⟩
           ·rw [if_neg g4]
            have g4:¬ ia4+1+1=a.size:=by simpa using g4
            split
            ·exact wpS_pure ⟨ks,.inr ⟨_,_,_,_,_,_,rfl,m5,by omega,by omega,by omega⟩⟩
            ·exact wpS_pure ⟨ks,_,_,_,_,_,_,rfl,m5,by omega,by omega,by omega⟩
         ·rw [if_neg g3]
          have z2:k2=0:=by omega
          subst z2
          have M4:=m4
          have HA4:∀ j,ib3+1≤j→j < b.size→Lt less (el a ia4) (el b j):=fun j h1 h2=>HA j (by omega) h2
          refine wpS_bind (a0k (show ia4 < a.size by omega) ?_)
          try dsimp only
          have m5:=MI.pushA M4 c (show ia4 < a.size by omega) HA4
          by_cases g4:(ia4+1+1 == a.size)=true
          ·rw [if_pos g4]
           have g4:ia4+1+1=a.size:=by simpa using g4
           exact wpS_pure ⟨ks,.inl ⟨_,_,_,_,_,_,_,rfl,MI.lastA c m5 g4 (by omega)⟩⟩
          ·rw [if_neg g4]
           have g4:¬ ia4+1+1=a.size:=by simpa using g4
           split
           ·exact wpS_pure ⟨ks,.inr ⟨_,_,_,_,_,_,rfl,m5,by omega,by omega,by omega⟩⟩
           ·exact wpS_pure ⟨ks,_,_,_,_,_,_,rfl,m5,by omega,by omega,by omega⟩
     ·rw [if_neg g6]
      have z1:k1=0:=by omega
      subst z1
      have M3:=m3
      have HB3:∀ j,ia3≤j→j < a.size→Lt less (el b ib3) (el a j):=fun j h1 h2=>HB j (by omega) h2
      refine wpS_bind (a0k (show ib3 < b.size by omega) ?_)
      try dsimp only
      have m4:=MI.pushB M3 c (show ib3 < b.size by omega) HB3
      by_cases g2:(ib3+1 == b.size)=true
      ·rw [if_pos g2]
       have g2:ib3+1=b.size:=by simpa using g2
       exact wpS_pure ⟨ks,.inl ⟨_,_,_,_,_,_,_,rfl,by rw [g2] at m4 ⊢;exact MI.doneB c m4 (by omega)⟩⟩
      ·rw [if_neg g2]
       have g2:¬ ib3+1=b.size:=by simpa using g2
       refine wpS_bind (a0k (show ia3 < a.size by omega) ?_)
       refine wpS_bind (a0C C (show 0 < b.size - (ib3+1) by omega) (by omega) (c.xa _ (by omega)) (fun i hi=>c.xb _ (by omega)) ks.k (fun i j hij hj hb=>?_) (fun k2 hk2 hk3 hk4=>?_))
       ·show less (el b (ib3+1+i)) (el a ia3)=true
        have hb:less (el b (ib3+1+j)) (el a ia3)=true:=hb
        cases e:less (el b (ib3+1+i)) (el a ia3) with
        | true=>rfl
        | false=>rw [c.so.tr _ _ _ e (c.sb (ib3+1+i) (ib3+1+j) (by omega) (by omega))] at hb;exact hb
       dsimp only
       have hk5:∀ i,i < k2→less (el b (ib3+1+i)) (el a ia3)=true:=fun i hi=>hk3 i hi
       have hk6:∀ i,k2≤i→i < b.size - (ib3+1)→less (el b (ib3+1+i)) (el a ia3)=false:=fun i hi hi2=>hk4 i hi hi2
       have HA:∀ j,ib3+1+k2≤j→j < b.size→Lt less (el a ia3) (el b j):=fun j h1 h2=>by
        have q:=hk6 (j - (ib3+1)) (by omega) (by omega)
        have e:ib3+1+(j - (ib3+1))=j:=by omega
        rw [e] at q
        exact q
       by_cases g3:k2 > 0
       ·rw [if_pos g3]
        have m45:=MI.moreB c m4 k2 (by omega) (fun i hi j h1 h2=>by
         by_cases z:j=ia3
         ·rw [z];exact c.so.asym _ _ (hk5 i hi)
         ·exact c.so.tr _ _ _ (c.so.asym _ _ (hk5 i hi)) (c.sa _ _ (by omega) h2))
        by_cases g5:(ib3+1+k2 == b.size)=true
        ·rw [if_pos g5]
         have g5:ib3+1+k2=b.size:=by simpa using g5
         exact wpS_pure ⟨ks,.inl ⟨_,_,_,_,_,_,_,rfl,by rw [g5] at m45 ⊢;exact MI.doneB c m45 (by omega)⟩⟩
        ·rw [if_neg g5]
         have g5:¬ ib3+1+k2=b.size:=by simpa using g5
         have M4:=m45
         have HA4:=HA
         refine wpS_bind (a0k (show ia3 < a.size by omega) ?_)
         try dsimp only
         have m5:=MI.pushA M4 c (show ia3 < a.size by omega) HA4
         by_cases g4:(ia3+1+1 == a.size)=true
         ·rw [if_pos g4]
          have g4:ia3+1+1=a.size:=by simpa using g4
          exact wpS_pure ⟨ks,.inl ⟨_,_,_,_,_,_,_,rfl,MI.lastA c m5 g4 (by omega)⟩⟩
         ·rw [if_neg g4]
          have g4:¬ ia3+1+1=a.size:=by simpa using g4
          split
          ·exact wpS_pure ⟨ks,.inr ⟨_,_,_,_,_,_,rfl,m5,by omega,by omega,by omega⟩⟩
          ·exact wpS_pure ⟨ks,_,_,_,_,_,_,rfl,m5,by omega,by omega,by omega⟩
       ·rw [if_neg g3]
        have z2:k2=0:=by omega
        subst z2
        have M4:=m4
        have HA4:∀ j,ib3+1≤j→j < b.size→Lt less (el a ia3) (el b j):=fun j h1 h2=>HA j (by omega) h2
        refine wpS_bind (a0k (show ia3 < a.size by omega) ?_)
        try dsimp only
        have m5:=MI.pushA M4 c (show ia3 < a.size by omega) HA4
        by_cases g4:(ia3+1+1 == a.size)=true
        ·rw [if_pos g4]
         have g4:ia3+1+1=a.size:=by simpa using g4
         exact wpS_pure ⟨ks,.inl ⟨_,_,_,_,_,_,_,rfl,MI.lastA c m5 g4 (by omega)⟩⟩
        ·rw [if_neg g4]
         have g4:¬ ia3+1+1=a.size:=by simpa using g4
         split
         ·exact wpS_pure ⟨ks,.inr ⟨_,_,_,_,_,_,rfl,m5,by omega,by omega,by omega⟩⟩
         ·exact wpS_pure ⟨ks,_,_,_,_,_,_,rfl,m5,by omega,by omega,by omega⟩
end
def a3T:Array Keyed→Array Keyed→StateT SortSt Sem (Array Keyed):=sortPriv% PySem.Builtin.mergeHi
theorem a5o (a b:Array Keyed):a3T a b=(do
 rule "list.sort.merge-hi"
 let total:=a.size+b.size
 let done (out:Array Keyed) (na nb:Nat):=a.extract 0 na++b.extract 0 nb++out.reverse
 let firstOfB (out:Array Keyed) (na nb:Nat):=b.extract 0 nb++a.extract 0 na++out.reverse
 let mut na:=a.size - 1
 let mut nb:=b.size
 let mut out:Array Keyed:=#[←elem' a na]
 if na == 0 then return done out na nb
 if nb == 1 then return firstOfB out na nb
 let mut minGallop:=gallopOf (←get)
 for _ in [0:total] do
  let mut acount:=0
  let mut bcount:=0
  for _ in [0:total] do
   let some aWins ←lt' (←elem' b (nb - 1)) (←elem' a (na - 1)) | return done out na nb
   if aWins then
    na:=na - 1;out:=out.push (←elem' a na);acount:=acount+1;bcount:=0
    if na == 0 then return done out na nb
    if acount ≥ minGallop then break
   else
    nb:=nb - 1;out:=out.push (←elem' b nb);bcount:=bcount+1;acount:=0
    if nb == 1 then return firstOfB out na nb
    if bcount ≥ minGallop then break
  rule "list.sort.gallop"
  minGallop:=minGallop+1
  for _ in [0:total] do
   if minGallop > 1 then minGallop:=minGallop - 1
   a0X minGallop
   let some at_ ←gallop' false (←elem' b (nb - 1)) a 0 na (na - 1) | return done out na nb
   let k:=na - at_
   acount:=k
   if k > 0 then
    out:=out++(a.extract at_ na).reverse;na:=at_
    if na == 0 then return done out na nb
   nb:=nb - 1;out:=out.push (←elem' b nb)
   if nb == 1 then return firstOfB out na nb
   let some at_ ←gallop' true (←elem' a (na - 1)) b 0 nb (nb - 1) | return done out na nb
   let k:=nb - at_
   bcount:=k
   if k > 0 then
    out:=out++(b.extract at_ nb).reverse;nb:=at_
    if nb == 1 then return firstOfB out na nb
    if nb == 0 then return done out na nb
   na:=na - 1;out:=out.push (←elem' a na)
   if na == 0 then return done out na nb
   if acount < 7 && bcount < 7 then break
  minGallop:=minGallop+1
  a0X minGallop
 unsupported "internal:list.sort.merge-bound"):=rfl
structure HI (less:Keyed→Keyed→Bool) (a b out:Array Keyed) (na nb:Nat):Prop where
 pm:out.toList.Perm (a.toList.drop na++b.toList.drop nb)
 so:out.toList.Pairwise (fun x y=>Lt less y x)
 aa:∀ x∈out.toList,∀ j,j < na→Lt less (el a j) x
 ab:∀ x∈out.toList,∀ j,j < nb→Lt less (el b j) x
variable {less:Keyed→Keyed→Bool} {S:Keyed→Prop} {a b out:Array Keyed} {na nb:Nat}
theorem a3U {a:Array Keyed} {i:Nat} (h:i < a.size):a.toList.drop i=el a i :: a.toList.drop (i+1):=by
 have:a.toList[i]?=some (el a i):=by
  rw [Array.getElem?_toList]
  exact a3p h
 have hl:i < a.toList.length:=by rw [Array.length_toList];exact h
 rw [List.drop_eq_getElem_cons hl]
 rw [List.getElem?_eq_getElem hl] at this
 rw [Option.some.inj this]
theorem HI.pushA (m:HI less a b out (na+1) nb) (c:MC less S a b) (h:na < a.size) (hl:∀ j,j < nb→Lt less (el b j) (el a na)):HI less a b (out.push (el a na)) na nb:=by
 refine ⟨?_,?_,fun x hx j h1=>?_,fun x hx j h1=>?_⟩
 ·rw [Array.toList_push,a3U h]
  exact List.perm_append_comm.trans ((m.pm.cons _).trans (List.Perm.refl _))
 ·rw [Array.toList_push,List.pairwise_append]
  exact ⟨m.so,List.pairwise_singleton ..,fun x hx y hy=>by rw [List.mem_singleton.mp hy];exact m.aa x hx na (Nat.lt_succ_self _)⟩
 ·rw [Array.toList_push] at hx
  rcases List.mem_append.mp hx with z | z
  ·exact m.aa x z j (by omega)
  ·rw [List.mem_singleton.mp z];exact c.sa j na h1 h
 ·rw [Array.toList_push] at hx
  rcases List.mem_append.mp hx with z | z
  ·exact m.ab x z j h1
  ·rw [List.mem_singleton.mp z];exact hl j h1
theorem HI.pushB (m:HI less a b out na (nb+1)) (c:MC less S a b) (h:nb < b.size) (hl:∀ j,j < na→Lt less (el a j) (el b nb)):HI less a b (out.push (el b nb)) na nb:=by
 refine ⟨?_,?_,fun x hx j h1=>?_,fun x hx j h1=>?_⟩
 ·rw [Array.toList_push,a3U h]
  refine List.perm_append_comm.trans ((m.pm.cons _).trans ?_)
  exact List.perm_middle.symm
 ·rw [Array.toList_push,List.pairwise_append]
  exact ⟨m.so,List.pairwise_singleton ..,fun x hx y hy=>by rw [List.mem_singleton.mp hy];exact m.ab x hx nb (Nat.lt_succ_self _)⟩
 ·rw [Array.toList_push] at hx
  rcases List.mem_append.mp hx with z | z
  ·exact m.aa x z j h1
  ·rw [List.mem_singleton.mp z];exact hl j h1
 ·rw [Array.toList_push] at hx
  rcases List.mem_append.mp hx with z | z
  ·exact m.ab x z j (by omega)
  ·rw [List.mem_singleton.mp z];exact c.sb j nb h1 h
theorem a5V {a:Array Keyed} {i n:Nat} (h:i < n) (hn:n≤a.size):(a.extract i n).reverse=((a.extract (i+1) n).reverse).push (el a i):=by
 apply Array.toList_inj.mp
 rw [Array.toList_push,Array.toList_reverse,Array.toList_reverse,Array.toList_extract,Array.toList_extract,List.extract_eq_take_drop,List.extract_eq_take_drop,a3U (show i < a.size by omega)]
 have e:n - i=(n - (i+1))+1:=by omega
 rw [e,List.take_succ_cons,List.reverse_cons]
theorem HI.moreA (c:MC less S a b) (hn:na≤a.size) (m:HI less a b out na nb):∀ k,k≤na→(∀ i,na - k≤i→i < na→∀ j,j < nb→Lt less (el b j) (el a i))→HI less a b (out++(a.extract (na - k) na).reverse) (na - k) nb
 | 0,_,_=>by
  have e:(a.extract (na - 0) na).reverse=#[]:=by simp;omega
  rw [e,Array.append_empty]
  exact m
 | k+1,h,hl=>by
  have ih:=HI.moreA c hn m k (by omega) fun i hi=>hl i (by omega)
  have e:na - k=na - (k+1)+1:=by omega
  rw [a5V (show na - (k+1) < na by omega) hn,Array.append_push,←e]
  rw [e] at ih
  have:=ih.pushA c (by omega) (hl (na - (k+1)) (by omega) (by omega))
  rw [←e] at this
  exact this
theorem HI.moreB (c:MC less S a b) (hn:nb≤b.size) (m:HI less a b out na nb):∀ k,k≤nb→(∀ i,nb - k≤i→i < nb→∀ j,j < na→Lt less (el a j) (el b i))→HI less a b (out++(b.extract (nb - k) nb).reverse) na (nb - k)
 | 0,_,_=>by
  have e:(b.extract (nb - 0) nb).reverse=#[]:=by simp;omega
  rw [e,Array.append_empty]
  exact m
 | k+1,h,hl=>by
  have ih:=HI.moreB c hn m k (by omega) fun i hi=>hl i (by omega)
  have e:nb - k=nb - (k+1)+1:=by omega
  rw [a5V (show nb - (k+1) < nb by omega) hn,Array.append_push,←e]
  rw [e] at ih
  have:=ih.pushB c (by omega) (hl (nb - (k+1)) (by omega) (by omega))
  rw [←e] at this
  exact this
structure HF (less:Keyed→Keyed→Bool) (a b m:Array Keyed):Prop where
 pm:m.toList.Perm (a.toList++b.toList)
 so:m.toList.Pairwise (Lt less)
theorem HI.fin {x:Array Keyed} (m:HI less a b out na nb) (px:x.toList.Perm (a.toList.take na++b.toList.take nb)) (sx:x.toList.Pairwise (Lt less)) (ha:na≤a.size) (hb:nb≤b.size):HF less a b (x++out.reverse):=by
 have a2o:∀ {a:Array Keyed} {n:Nat} {y:Keyed},n≤a.size→y∈a.toList.take n→∃ j,j < n∧el a j=y:=fun {a n y} hn hy=>by
  obtain ⟨j,hj⟩:=List.getElem?_of_mem hy
  have lj:=(List.getElem?_eq_some_iff.mp hj).1
  rw [List.length_take] at lj
  rw [List.getElem?_take_of_lt (by omega),Array.getElem?_toList,a3p (by omega)] at hj
  exact ⟨j,by omega,Option.some.inj hj⟩
 refine ⟨?_,?_⟩
 ·rw [Array.toList_append,Array.toList_reverse]
  have p1:out.toList.reverse.Perm (a.toList.drop na++b.toList.drop nb):=(List.reverse_perm _).trans m.pm
  refine (px.append p1).trans ?_
  have:(a.toList.take na++b.toList.take nb++(a.toList.drop na++b.toList.drop nb)).Perm (a.toList.take na++a.toList.drop na++(b.toList.take nb++b.toList.drop nb)):=by
   rw [List.append_assoc,List.append_assoc]
   refine List.Perm.append_left _ ?_
   rw [←List.append_assoc,←List.append_assoc]
   exact List.Perm.append_right _ List.perm_append_comm
  rw [List.take_append_drop,List.take_append_drop] at this
  exact this
 ·rw [Array.toList_append,Array.toList_reverse,List.pairwise_append]
  refine ⟨sx,List.pairwise_reverse.mpr m.so,fun y hy z hz=>?_⟩
  rw [List.mem_reverse] at hz
  rcases List.mem_append.mp (px.mem_iff.mp hy) with q | q
  ·obtain ⟨j,hj,rfl⟩:=a2o ha q
   exact m.aa z hz j hj
  ·obtain ⟨j,hj,rfl⟩:=a2o hb q
   exact m.ab z hz j hj
theorem a3V {a:Array Keyed} (sa:∀ i j,i < j→j < a.size→Lt less (el a i) (el a j)) {n:Nat} (hn:n≤a.size):(a.toList.take n).Pairwise (Lt less):=by
 rw [List.pairwise_iff_getElem]
 intro i j hi hj hij
 rw [List.length_take,Array.length_toList] at hi hj
 have g:∀ {i:Nat} (h:i < (a.toList.take n).length),(a.toList.take n)[i]=el a i:=fun {i} h=>by
  have h':=h
  rw [List.length_take,Array.length_toList] at h'
  have e:(a.toList.take n)[i]?=some (el a i):=by rw [List.getElem?_take_of_lt (by omega),Array.getElem?_toList,a3p (by omega)]
  rw [List.getElem?_eq_getElem h] at e
  exact Option.some.inj e
 rw [g,g]
 exact sa i j hij (by omega)
theorem a1t (a:Array Keyed) (n:Nat):(a.extract 0 n).toList=a.toList.take n:=by
 rw [Array.toList_extract,List.extract_eq_take_drop]
 simp
theorem HI.doneA (c:MC less S a b) (m:HI less a b out 0 nb) (hb:nb≤b.size):HF less a b (a.extract 0 0++b.extract 0 nb++out.reverse):=by
 refine m.fin ?_ ?_ (Nat.zero_le _) hb
 ·rw [Array.toList_append,a1t,a1t]
 ·rw [Array.toList_append,a1t,a1t,List.take_zero,List.nil_append]
  exact a3V c.sb hb
theorem MC.fst2 (c:MC less S a b) {j:Nat} (h:j < a.size):less (el b 0) (el a j)=true:=by
 by_cases z:j=0
 ·rw [z];exact c.fst
 ·cases e:less (el b 0) (el a j) with
  | true=>rfl
  | false =>
   have:=c.fst
   rw [c.so.tr _ _ _ (c.sa 0 j (by omega) h) e] at this
   exact this
theorem HI.firstB (c:MC less S a b) (m:HI less a b out na 1) (ha:na≤a.size):HF less a b (b.extract 0 1++a.extract 0 na++out.reverse):=by
 refine m.fin ?_ ?_ ha c.nb
 ·rw [Array.toList_append,a1t,a1t]
  exact List.perm_append_comm
 ·rw [Array.toList_append,a1t,a1t,List.pairwise_append]
  refine ⟨a3V c.sb c.nb,a3V c.sa ha,fun x hx y hy=>?_⟩
  rw [a3S c.nb] at hx
  have ex:x=el b 0:=List.mem_singleton.mp hx
  obtain ⟨j,hj⟩:=List.getElem?_of_mem hy
  have lj:=(List.getElem?_eq_some_iff.mp hj).1
  rw [List.length_take] at lj
  rw [List.getElem?_take_of_lt (by omega),Array.getElem?_toList,a3p (by omega)] at hj
  rw [ex,←Option.some.inj hj]
  exact c.so.asym _ _ (c.fst2 (by omega))
section
variable {prog:Program} {w:World} {A:Around} {E:Value→Shared→Prop} {s:Shared} {κ:SortKind}
theorem a5p (C:Cmp prog w A E s κ less S) (c:MC less S a b) {st:SortSt} {Q:Array Keyed→SortSt→Prop} (hκ:kindOf st=κ)
  (h:∀ m st',a1j st st'→m.toList.Perm (a.toList++b.toList)→m.toList.Pairwise (Lt less)→Q m st'):wpS (model prog w) A E s (a3T a b) Q st:=by
 subst hκ
 have na1:=c.na
 have nb1:=c.nb
 have fin:∀ {m:Array Keyed} {st':SortSt},a1j st st'→HF less a b m→Q m st':=fun {m st'} k mi=>h m st' k mi.pm mi.so
 rw [a5o]
 refine wpS_bind (wpS_lift (wpAny_rule ⟨rfl,?_⟩))
 dsimp only
 refine wpS_bind (a0k (show a.size - 1 < a.size by omega) ?_)
 have m0:HI less a b #[el a (a.size - 1)] (a.size - 1) b.size:=by
  refine ⟨?_,List.pairwise_singleton ..,fun x hx j h2=>?_,fun x hx j h2=>?_⟩
  ·rw [a3U (show a.size - 1 < a.size by omega),show a.size - 1+1=a.size by omega,←Array.length_toList,List.drop_length,←Array.length_toList,List.drop_length]
   exact List.Perm.refl _
  ·rw [List.mem_singleton.mp hx];exact c.sa j _ h2 (by omega)
  ·rw [List.mem_singleton.mp hx];exact c.so.asym _ _ (c.lst j h2)
 by_cases g1:(a.size - 1 == 0)=true
 ·rw [if_pos g1]
  have g1:a.size - 1=0:=by simpa using g1
  exact wpS_pure (fin (a1j.refl _) (by rw [g1] at m0 ⊢;exact HI.doneA c m0 (by omega)))
 rw [if_neg g1]
 have g1:¬ a.size - 1=0:=by simpa using g1
 by_cases g2:(b.size == 1)=true
 ·rw [if_pos g2]
  have g2:b.size=1:=by simpa using g2
  exact wpS_pure (fin (a1j.refl _) (by rw [g2] at m0 ⊢;exact HI.firstB c m0 (by omega)))
 rw [if_neg g2]
 have g2:¬ b.size=1:=by simpa using g2
 refine wpS_bind (wpS_get ?_)
 refine wpS_bind (wpS_mono (wpS_forRange (I:=fun x cc st'=>a1j st st'∧∃ na nb out mg,cc=(none,na,nb,out,mg)∧HI less a b out na nb∧1≤na∧2≤nb∧na≤a.size∧nb≤b.size∧x+1+na+nb≤a.size+b.size)
  (Q:=fun cc st'=>a1j st st'∧∃ m i j o g,cc=(some m,i,j,o,g)∧HF less a b m) ?step ?ende ⟨a1j.refl _,_,_,_,_,rfl,m0,by omega,by omega,by omega,by omega,by omega⟩) ?post)
 case post =>
  rintro cc st' ⟨k,m,i,j,o,g,rfl,mi⟩
  exact wpS_pure (fin k mi)
 case ende =>
  rintro cc st' ⟨k,na,nb,out,mg,rfl,m,h1,h2,h4,h5,h3⟩
  exfalso
  omega
 case step =>
  rintro x cc st1 _ hx ⟨k1,na,nb,out,mg,rfl,m1,h1,h2,h4,h5,h3⟩
  dsimp only
  refine wpS_bind (wpS_mono (wpS_forRange (I:=fun y cc st'=>st'=st1∧∃ na2 nb2 out2 ac bc,cc=(none,na2,nb2,out2,ac,bc)∧HI less a b out2 na2 nb2∧1≤na2∧2≤nb2∧na2≤a.size∧nb2≤b.size∧na2+nb2+y≤na+nb)
   (Q:=fun cc st'=>st'=st1∧((∃ m i j o ac bc,cc=(some m,i,j,o,ac,bc)∧HF less a b m)∨∃ na2 nb2 out2 ac bc,cc=(none,na2,nb2,out2,ac,bc)∧HI less a b out2 na2 nb2∧1≤na2∧2≤nb2∧na2≤a.size∧nb2≤b.size∧na2+nb2+1≤na+nb)) ?istep ?iende ⟨rfl,_,_,_,_,_,rfl,m1,h1,h2,h4,h5,by omega⟩) ?ipost)
  case iende =>
   rintro cc st' ⟨rfl,na2,nb2,out2,ac,bc,rfl,m2,i1,i2,i4,i5,i3⟩
   exfalso
   omega
  case istep =>
   rintro y cc st' _ hy ⟨rfl,na2,nb2,out2,ac,bc,rfl,m2,i1,i2,i4,i5,i3⟩
   dsimp only
   refine wpS_bind (a0k (show nb2 - 1 < b.size by omega) (wpS_bind (a0k (show na2 - 1 < a.size by omega) ?_)))
   refine wpS_bind (C _ _ _ _ (c.xb _ (by omega)) (c.xa _ (by omega)) k1.k ?_)
   dsimp only
   cases e:less (el b (nb2 - 1)) (el a (na2 - 1)) with
   | true =>
    rw [if_pos rfl]
    refine wpS_bind (a0k (show na2 - 1 < a.size by omega) ?_)
    have m3:HI less a b _ (na2 - 1) nb2:=HI.pushA (na:=na2 - 1) (by rw [show na2 - 1+1=na2 by omega];exact m2) c (show na2 - 1 < a.size by omega) (fun j q1=>by
     by_cases z:j=nb2 - 1
     ·rw [z];exact c.so.asym _ _ e
     ·exact c.so.tr _ _ _ (c.sb _ _ (by omega) (by omega)) (c.so.asym _ _ e))
    by_cases g3:(na2 - 1 == 0)=true
    ·rw [if_pos g3]
     have g3:na2 - 1=0:=by simpa using g3
     exact wpS_pure ⟨rfl,.inl ⟨_,_,_,_,_,_,rfl,by rw [g3] at m3 ⊢;exact HI.doneA c m3 (by omega)⟩⟩
    ·rw [if_neg g3]
     have g3:¬ na2 - 1=0:=by simpa using g3
     split
     ·exact wpS_pure ⟨rfl,.inr ⟨_,_,_,_,_,rfl,m3,by omega,by omega,by omega,by omega,by omega⟩⟩
     ·exact wpS_pure ⟨rfl,_,_,_,_,_,rfl,m3,by omega,by omega,by omega,by omega,by omega⟩
   | false =>
    rw [if_neg (by decide)]
    refine wpS_bind (a0k (show nb2 - 1 < b.size by omega) ?_)
    have e2:=e
    have m3:HI less a b _ na2 (nb2 - 1):=HI.pushB (nb:=nb2 - 1) (by rw [show nb2 - 1+1=nb2 by omega];exact m2) c (show nb2 - 1 < b.size by omega) (fun j q1=>by
     by_cases z:j=na2 - 1
     ·rw [z];exact e2
     ·exact c.so.tr _ _ _ (c.sa _ _ (by omega) (by omega)) e2)
    by_cases g3:(nb2 - 1 == 1)=true
    ·rw [if_pos g3]
     have g3:nb2 - 1=1:=by simpa using g3
     exact wpS_pure ⟨rfl,.inl ⟨_,_,_,_,_,_,rfl,by rw [g3] at m3 ⊢;exact HI.firstB c m3 (by omega)⟩⟩
    ·rw [if_neg g3]
     have g3:¬ nb2 - 1=1:=by simpa using g3
     split
     ·exact wpS_pure ⟨rfl,.inr ⟨_,_,_,_,_,rfl,m3,by omega,by omega,by omega,by omega,by omega⟩⟩
     ·exact wpS_pure ⟨rfl,_,_,_,_,_,rfl,m3,by omega,by omega,by omega,by omega,by omega⟩
  case ipost =>
   rintro cc st' ⟨est,⟨m,i,j,o,ac,bc,rfl,mi⟩ | ⟨na2,nb2,out2,ac,bc,rfl,m2,i1,i2,i4,i5,i3⟩⟩
   ·subst est
    exact wpS_pure ⟨k1,_,_,_,_,_,rfl,mi⟩
   subst est
   dsimp only
   refine wpS_bind (wpS_lift (wpAny_rule ⟨rfl,?_⟩))
   refine wpS_bind (wpS_mono (wpS_forRange (I:=fun y cc st'=>a1j st st'∧∃ na3 nb3 out3 mg3 ac bc,cc=(none,na3,nb3,out3,mg3,ac,bc)∧HI less a b out3 na3 nb3∧1≤na3∧2≤nb3∧na3≤a.size∧nb3≤b.size∧na3+nb3+1≤na+nb)
    (Q:=fun cc st'=>a1j st st'∧((∃ m i j o g ac bc,cc=(some m,i,j,o,g,ac,bc)∧HF less a b m)∨∃ na3 nb3 out3 mg3 ac bc,cc=(none,na3,nb3,out3,mg3,ac,bc)∧HI less a b out3 na3 nb3∧1≤na3∧2≤nb3∧na3≤a.size∧nb3≤b.size∧na3+nb3+1≤na+nb)) ?gstep ?gende ⟨k1,_,_,_,_,_,_,rfl,m2,i1,i2,i4,i5,i3⟩) ?gpost)
   case gende =>
    rintro cc st' ⟨k,na3,nb3,out3,mg3,ac,bc,rfl,m3,j1,j2,j4,j5,j3⟩
    exact ⟨k,.inr ⟨_,_,_,_,_,_,rfl,m3,j1,j2,j4,j5,j3⟩⟩
   case gpost =>
    rintro cc st' ⟨k,⟨m,i,j,o,g,ac,bc,rfl,mi⟩ | ⟨na3,nb3,out3,mg3,ac,bc,rfl,m3,j1,j2,j4,j5,j3⟩⟩
    ·exact wpS_pure ⟨k,_,_,_,_,_,rfl,mi⟩
    dsimp only
    rw [a0G]
    exact wpS_bind (wpS_modify (wpS_pure ⟨k.set _,_,_,_,_,rfl,m3,j1,j2,j4,j5,by omega⟩))
   case gstep =>
    rintro y cc st3 _ hy ⟨ks0,na3,nb3,out3,mg3,ac,bc,rfl,m3,j1,j2,j4,j5,j3⟩
    dsimp only
    by_cases gg:mg3 > 1
    ·rw [if_pos gg]
     rw [a0G]
     refine wpS_bind (wpS_modify ?_)
     have ks:=ks0.set (mg3 - 1)
     generalize b1U st3 (mg3 - 1)=st4 at ks ⊢
     refine wpS_bind (a0k (show nb3 - 1 < b.size by omega) ?_)
     refine wpS_bind (a0C C (show na3 - 1 < na3 by omega) (by omega) (c.xb _ (by omega)) (fun i hi=>c.xa _ (by omega)) ks.k (fun i j hij hj hb=>?_) (fun k1 hk1 hk2 hk3=>?_))
     ·show (!less (el b (nb3 - 1)) (el a (0+i)))=true
      have hb:(!less (el b (nb3 - 1)) (el a (0+j)))=true:=hb
      rw [c.so.tr _ _ _ (c.sa (0+i) (0+j) (by omega) (by omega)) (show less (el b (nb3 - 1)) (el a (0+j))=false by simpa using hb)]
      rfl
     dsimp only
     have hk4:∀ i,i < k1→Lt less (el a i) (el b (nb3 - 1)):=fun i hi=>by
      have q:(!less (el b (nb3 - 1)) (el a (0+i)))=true:=hk2 i hi
      rw [Nat.zero_add] at q
      show less (el b (nb3 - 1)) (el a i)=false
      simpa using q
     have hk5:∀ i,k1≤i→i < na3→less (el b (nb3 - 1)) (el a i)=true:=fun i hi hi2=>by
      have q:(!less (el b (nb3 - 1)) (el a (0+i)))=false:=hk3 i hi hi2
      rw [Nat.zero_add] at q
      simpa using q
     by_cases g6:na3 - k1 > 0
     ·rw [if_pos g6]
      have m35:=HI.moreA c (show na3≤a.size by omega) m3 (na3 - k1) (by omega) (fun i hi hi2 j h1=>by
       have q:=c.so.asym _ _ (hk5 i (by omega) hi2)
       by_cases z:j=nb3 - 1
       ·rw [z];exact q
       ·exact c.so.tr _ _ _ (c.sb j (nb3 - 1) (by omega) (by omega)) q)
      rw [show na3 - (na3 - k1)=k1 by omega] at m35
      by_cases g7:(k1 == 0)=true
      ·rw [if_pos g7]
       have g7:k1=0:=by simpa using g7
       exact wpS_pure ⟨ks,.inl ⟨_,_,_,_,_,_,_,rfl,by rw [g7] at m35 ⊢;exact HI.doneA c m35 (by omega)⟩⟩
      ·rw [if_neg g7]
       have g7:¬ k1=0:=by simpa using g7
       have M3:=m35
       have HB3:∀ j,j < k1→Lt less (el a j) (el b (nb3 - 1)):=hk4
       clear hk2 hk3 hk4 hk5 m35
       refine wpS_bind (a0k (show nb3 - 1 < b.size by omega) ?_)
       try dsimp only
       have m4:HI less a b (_:Array Keyed) k1 (nb3 - 1):=HI.pushB (nb:=nb3 - 1) (by rw [show nb3 - 1+1=nb3 by omega];exact M3) c (show nb3 - 1 < b.size by omega) HB3
       by_cases g2:(nb3 - 1 == 1)=true
       ·rw [if_pos g2]
        have g2:nb3 - 1=1:=by simpa using g2
        exact wpS_pure ⟨ks,.inl ⟨_,_,_,_,_,_,_,rfl,by rw [g2] at m4 ⊢;exact HI.firstB c m4 (by omega)⟩⟩
       ·rw [if_neg g2]
        have g2:¬ nb3 - 1=1:=by simpa using g2
        refine wpS_bind (a0k (show k1 - 1 < a.size by omega) ?_)
        refine wpS_bind (a0C C (show nb3 - 1 - 1 < nb3 - 1 by omega) (by omega) (c.xa _ (by omega)) (fun i hi=>c.xb _ (by omega)) ks.k (fun i j hij hj hb=>?_) (fun k2 hk2 hk3 hk4=>?_))
        ·show less (el b (0+i)) (el a (k1 - 1))=true
         have hb:less (el b (0+j)) (el a (k1 - 1))=true:=hb
         cases e:less (el b (0+i)) (el a (k1 - 1)) with
         | true=>rfl
         | false=>rw [c.so.tr _ _ _ e (c.sb (0+i) (0+j) (by omega) (by omega))] at hb;exact hb
        dsimp only
        have hk5:∀ i,i < k2→less (el b i) (el a (k1 - 1))=true:=fun i hi=>by
         have q:less (el b (0+i)) (el a (k1 - 1))=true:=hk3 i hi
         rw [Nat.zero_add] at q
         exact q
        have hk6:∀ i,k2≤i→i < nb3 - 1→less (el b i) (el a (k1 - 1))=false:=fun i hi hi2=>by
         have q:less (el b (0+i)) (el a (k1 - 1))=false:=hk4 i hi hi2
         rw [Nat.zero_add] at q
         exact q
        have k21:1≤k2:=by
         rcases Nat.eq_zero_or_pos k2 with z | z
         ·have q:=hk6 0 (by omega) (by omega)
          have q2:less (el b 0) (el a (k1 - 1))=true:=by
           exact c.fst2 (by omega)
          rw [q2] at q
          cases q
         ·exact z
        by_cases g3:nb3 - 1 - k2 > 0
        ·rw [if_pos g3]
         have m45:=HI.moreB c (show nb3 - 1≤b.size by omega) m4 (nb3 - 1 - k2) (by omega) (fun i hi hi2 j h1=>by
          have q:=hk6 i (by omega) hi2
          by_cases z:j=k1 - 1
          ·rw [z];exact q
          ·exact c.so.tr _ _ _ (c.sa j (k1 - 1) (by omega) (by omega)) q)
         rw [show nb3 - 1 - (nb3 - 1 - k2)=k2 by omega] at m45
         by_cases g5:(k2 == 1)=true
         ·rw [if_pos g5]
          have g5:k2=1:=by simpa using g5
          exact wpS_pure ⟨ks,.inl ⟨_,_,_,_,_,_,_,rfl,by rw [g5] at m45 ⊢;exact HI.firstB c m45 (by omega)⟩⟩
         ·rw [if_neg g5]
          have g5:¬ k2=1:=by simpa using g5
          by_cases g9:(k2 == 0)=true
          ·exact absurd (by simpa using g9:k2=0) (by omega)
          ·rw [if_neg g9]
           have M4:=m45
           have HA4:=fun i hi=>c.so.asym _ _ (hk5 i hi)
           refine wpS_bind (a0k (show k1 - 1 < a.size by omega) ?_)
           try dsimp only
           have m5:HI less a b (_:Array Keyed) (k1 - 1) _:=HI.pushA (na:=k1 - 1) (by rw [show k1 - 1+1=k1 by omega];exact M4) c (show k1 - 1 < a.size by omega) HA4
           by_cases g4:(k1 - 1 == 0)=true
           ·rw [if_pos g4]
            have g4:k1 - 1=0:=by simpa using g4
            exact wpS_pure ⟨ks,.inl ⟨_,_,_,_,_,_,_,rfl,by rw [g4] at m5 ⊢;exact HI.doneA c m5 (by omega)⟩⟩
           ·rw [if_neg g4]
            have g4:¬ k1 - 1=0:=by simpa using g4
            split
            ·exact wpS_pure ⟨ks,.inr ⟨_,_,_,_,_,_,rfl,m5,by omega,by omega,by omega,by omega,by omega⟩⟩
            ·exact wpS_pure ⟨ks,_,_,_,_,_,_,rfl,m5,by omega,by omega,by omega,by omega,by omega⟩
        ·rw [if_neg g3]
         have z2:k2=nb3 - 1:=by omega
         have M4:=m4
         have HA4:∀ j,j < nb3 - 1→Lt less (el b j) (el a (k1 - 1)):=fun j h1=>c.so.asym _ _ (hk5 j (by omega))
         refine wpS_bind (a0k (show k1 - 1 < a.size by omega) ?_)
         try dsimp only
         have m5:HI less a b (_:Array Keyed) (k1 - 1) _:=HI.pushA (na:=k1 - 1) (by rw [show k1 - 1+1=k1 by omega];exact M4) c (show k1 - 1 < a.size by omega) HA4
         by_cases g4:(k1 - 1 == 0)=true
         ·rw [if_pos g4]
          have g4:k1 - 1=0:=by simpa using g4
          exact wpS_pure ⟨ks,.inl ⟨_,_,_,_,_,_,_,rfl,by rw [g4] at m5 ⊢;exact HI.doneA c m5 (by omega)⟩⟩
         ·rw [if_neg g4]
          have g4:¬ k1 - 1=0:=by simpa using g4
          split
          ·exact wpS_pure ⟨ks,.inr ⟨_,_,_,_,_,_,rfl,m5,by omega,by omega,by omega,by omega,by omega⟩⟩
          ·exact wpS_pure ⟨ks,_,_,_,_,_,_,rfl,m5,by omega,by omega,by omega,by omega,by omega⟩
     ·rw [if_neg g6]
      have z1:k1=na3:=by omega
      have M3:=m3
      have HB3:∀ j,j < na3→Lt less (el a j) (el b (nb3 - 1)):=fun j h1=>hk4 j (by omega)
      refine wpS_bind (a0k (show nb3 - 1 < b.size by omega) ?_)
      try dsimp only
      have m4:HI less a b (_:Array Keyed) na3 (nb3 - 1):=HI.pushB (nb:=nb3 - 1) (by rw [show nb3 - 1+1=nb3 by omega];exact M3) c (show nb3 - 1 < b.size by omega) HB3
      by_cases g2:(nb3 - 1 == 1)=true
      ·rw [if_pos g2]
       have g2:nb3 - 1=1:=by simpa using g2
       exact wpS_pure ⟨ks,.inl ⟨_,_,_,_,_,_,_,rfl,by rw [g2] at m4 ⊢;exact HI.firstB c m4 (by omega)⟩⟩
      ·rw [if_neg g2]
       have g2:¬ nb3 - 1=1:=by simpa using g2
       refine wpS_bind (a0k (show na3 - 1 < a.size by omega) ?_)
       refine wpS_bind (a0C C (show nb3 - 1 - 1 < nb3 - 1 by omega) (by omega) (c.xa _ (by omega)) (fun i hi=>c.xb _ (by omega)) ks.k (fun i j hij hj hb=>?_) (fun k2 hk2 hk3 hk4=>?_))
       ·show less (el b (0+i)) (el a (na3 - 1))=true
        have hb:less (el b (0+j)) (el a (na3 - 1))=true:=hb
        cases e:less (el b (0+i)) (el a (na3 - 1)) with
        | true=>rfl
        | false=>rw [c.so.tr _ _ _ e (c.sb (0+i) (0+j) (by omega) (by omega))] at hb;exact hb
       dsimp only
       have hk5:∀ i,i < k2→less (el b i) (el a (na3 - 1))=true:=fun i hi=>by
        have q:less (el b (0+i)) (el a (na3 - 1))=true:=hk3 i hi
        rw [Nat.zero_add] at q
        exact q
       have hk6:∀ i,k2≤i→i < nb3 - 1→less (el b i) (el a (na3 - 1))=false:=fun i hi hi2=>by
        have q:less (el b (0+i)) (el a (na3 - 1))=false:=hk4 i hi hi2
        rw [Nat.zero_add] at q
        exact q
       have k21:1≤k2:=by
        rcases Nat.eq_zero_or_pos k2 with z | z
        ·have q:=hk6 0 (by omega) (by omega)
         have q2:less (el b 0) (el a (na3 - 1))=true:=by
          exact c.fst2 (by omega)
         rw [q2] at q
         cases q
        ·exact z
       by_cases g3:nb3 - 1 - k2 > 0
       ·rw [if_pos g3]
        have m45:=HI.moreB c (show nb3 - 1≤b.size by omega) m4 (nb3 - 1 - k2) (by omega) (fun i hi hi2 j h1=>by
         have q:=hk6 i (by omega) hi2
         by_cases z:j=na3 - 1
         ·rw [z];exact q
         ·exact c.so.tr _ _ _ (c.sa j (na3 - 1) (by omega) (by omega)) q)
        rw [show nb3 - 1 - (nb3 - 1 - k2)=k2 by omega] at m45
        by_cases g5:(k2 == 1)=true
        ·rw [if_pos g5]
         have g5:k2=1:=by simpa using g5
         exact wpS_pure ⟨ks,.inl ⟨_,_,_,_,_,_,_,rfl,by rw [g5] at m45 ⊢;exact HI.firstB c m45 (by omega)⟩⟩
        ·rw [if_neg g5]
         have g5:¬ k2=1:=by simpa using g5
         by_cases g9:(k2 == 0)=true
         ·exact absurd (by simpa using g9:k2=0) (by omega)
         ·rw [if_neg g9]
          have M4:=m45
          have HA4:=fun i hi=>c.so.asym _ _ (hk5 i hi)
          refine wpS_bind (a0k (show na3 - 1 < a.size by omega) ?_)
          try dsimp only
          have m5:HI less a b (_:Array Keyed) (na3 - 1) _:=HI.pushA (na:=na3 - 1) (by rw [show na3 - 1+1=na3 by omega];exact M4) c (show na3 - 1 < a.size by omega) HA4
          by_cases g4:(na3 - 1 == 0)=true
          ·rw [if_pos g4]
           have g4:na3 - 1=0:=by simpa using g4
           exact wpS_pure ⟨ks,.inl ⟨_,_,_,_,_,_,_,rfl,by rw [g4] at m5 ⊢;exact HI.doneA c m5 (by omega)⟩⟩
          ·rw [if_neg g4]
           have g4:¬ na3 - 1=0:=by simpa using g4
           split
           ·exact wpS_pure ⟨ks,.inr ⟨_,_,_,_,_,_,rfl,m5,by omega,by omega,by omega,by omega,by omega⟩⟩
           ·exact wpS_pure ⟨ks,_,_,_,_,_,_,rfl,m5,by omega,by omega,by omega,by omega,by omega⟩
       ·rw [if_neg g3]
        have z2:k2=nb3 - 1:=by omega
        have M4:=m4
        have HA4:∀ j,j < nb3 - 1→Lt less (el b j) (el a (na3 - 1)):=fun j h1=>c.so.asym _ _ (hk5 j (by omega))
        refine wpS_bind (a0k (show na3 - 1 < a.size by omega) ?_)
        try dsimp only
        have m5:HI less a b (_:Array Keyed) (na3 - 1) _:=HI.pushA (na:=na3 - 1) (by rw [show na3 - 1+1=na3 by omega];exact M4) c (show na3 - 1 < a.size by omega) HA4
        by_cases g4:(na3 - 1 == 0)=true
        ·rw [if_pos g4]
         have g4:na3 - 1=0:=by simpa using g4
         exact wpS_pure ⟨ks,.inl ⟨_,_,_,_,_,_,_,rfl,by rw [g4] at m5 ⊢;exact HI.doneA c m5 (by omega)⟩⟩
        ·rw [if_neg g4]
         have g4:¬ na3 - 1=0:=by simpa using g4
         split
         ·exact wpS_pure ⟨ks,.inr ⟨_,_,_,_,_,_,rfl,m5,by omega,by omega,by omega,by omega,by omega⟩⟩
         ·exact wpS_pure ⟨ks,_,_,_,_,_,_,rfl,m5,by omega,by omega,by omega,by omega,by omega⟩
    ·rw [if_neg gg]
     rw [a0G]
     refine wpS_bind (wpS_modify ?_)
     have ks:=ks0.set mg3
     generalize b1U st3 mg3=st4 at ks ⊢
     refine wpS_bind (a0k (show nb3 - 1 < b.size by omega) ?_)
     refine wpS_bind (a0C C (show na3 - 1 < na3 by omega) (by omega) (c.xb _ (by omega)) (fun i hi=>c.xa _ (by omega)) ks.k (fun i j hij hj hb=>?_) (fun k1 hk1 hk2 hk3=>?_))
     ·show (!less (el b (nb3 - 1)) (el a (0+i)))=true
      have hb:(!less (el b (nb3 - 1)) (el a (0+j)))=true:=hb
      rw [c.so.tr _ _ _ (c.sa (0+i) (0+j) (by omega) (by omega)) (show less (el b (nb3 - 1)) (el a (0+j))=false by simpa using hb)]
      rfl
     dsimp only
     have hk4:∀ i,i < k1→Lt less (el a i) (el b (nb3 - 1)):=fun i hi=>by
      have q:(!less (el b (nb3 - 1)) (el a (0+i)))=true:=hk2 i hi
      rw [Nat.zero_add] at q
      show less (el b (nb3 - 1)) (el a i)=false
      simpa using q
     have hk5:∀ i,k1≤i→i < na3→less (el b (nb3 - 1)) (el a i)=true:=fun i hi hi2=>by
      have q:(!less (el b (nb3 - 1)) (el a (0+i)))=false:=hk3 i hi hi2
      rw [Nat.zero_add] at q
      simpa using q
     by_cases g6:na3 - k1 > 0
     ·rw [if_pos g6]
      have m35:=HI.moreA c (show na3≤a.size by omega) m3 (na3 - k1) (by omega) (fun i hi hi2 j h1=>by
       have q:=c.so.asym _ _ (hk5 i (by omega) hi2)
       by_cases z:j=nb3 - 1
       ·rw [z];exact q
       ·exact c.so.tr _ _ _ (c.sb j (nb3 - 1) (by omega) (by omega)) q)
      rw [show na3 - (na3 - k1)=k1 by omega] at m35
      by_cases g7:(k1 == 0)=true
      ·rw [if_pos g7]
       have g7:k1=0:=by simpa using g7
       exact wpS_pure ⟨ks,.inl ⟨_,_,_,_,_,_,_,rfl,by rw [g7] at m35 ⊢;exact HI.doneA c m35 (by omega)⟩⟩
      ·rw [if_neg g7]
       have g7:¬ k1=0:=by simpa using g7
       have M3:=m35
       have HB3:∀ j,j < k1→Lt less (el a j) (el b (nb3 - 1)):=hk4
       clear hk2 hk3 hk4 hk5 m35
       refine wpS_bind (a0k (show nb3 - 1 < b.size by omega) ?_)
       try dsimp only
       have m4:HI less a b (_:Array Keyed) k1 (nb3 - 1):=HI.pushB (nb:=nb3 - 1) (by rw [show nb3 - 1+1=nb3 by omega];exact M3) c (show nb3 - 1 < b.size by omega) HB3
       by_cases g2:(nb3 - 1 == 1)=true
       ·rw [if_pos g2]
        have g2:nb3 - 1=1:=by simpa using g2
        exact wpS_pure ⟨ks,.inl ⟨_,_,_,_,_,_,_,rfl,by rw [g2] at m4 ⊢;exact HI.firstB c m4 (by omega)⟩⟩
       ·rw [if_neg g2]
        have g2:¬ nb3 - 1=1:=by simpa using g2
        refine wpS_bind (a0k (show k1 - 1 < a.size by omega) ?_)
        refine wpS_bind (a0C C (show nb3 - 1 - 1 < nb3 - 1 by omega) (by omega) (c.xa _ (by omega)) (fun i hi=>c.xb _ (by omega)) ks.k (fun i j hij hj hb=>?_) (fun k2 hk2 hk3 hk4=>?_))
        ·show less (el b (0+i)) (el a (k1 - 1))=true
         have hb:less (el b (0+j)) (el a (k1 - 1))=true:=hb
         cases e:less (el b (0+i)) (el a (k1 - 1)) with
         | true=>rfl
         | false=>rw [c.so.tr _ _ _ e (c.sb (0+i) (0+j) (by omega) (by omega))] at hb;exact hb
        dsimp only
        have hk5:∀ i,i < k2→less (el b i) (el a (k1 - 1))=true:=fun i hi=>by
         have q:less (el b (0+i)) (el a (k1 - 1))=true:=hk3 i hi
         rw [Nat.zero_add] at q
         exact q
        have hk6:∀ i,k2≤i→i < nb3 - 1→less (el b i) (el a (k1 - 1))=false:=fun i hi hi2=>by
         have q:less (el b (0+i)) (el a (k1 - 1))=false:=hk4 i hi hi2
         rw [Nat.zero_add] at q
         exact q
        have k21:1≤k2:=by
         rcases Nat.eq_zero_or_pos k2 with z | z
         ·have q:=hk6 0 (by omega) (by omega)
          have q2:less (el b 0) (el a (k1 - 1))=true:=by
           exact c.fst2 (by omega)
          rw [q2] at q
          cases q
         ·exact z
        by_cases g3:nb3 - 1 - k2 > 0
        ·rw [if_pos g3]
         have m45:=HI.moreB c (show nb3 - 1≤b.size by omega) m4 (nb3 - 1 - k2) (by omega) (fun i hi hi2 j h1=>by
          have q:=hk6 i (by omega) hi2
          by_cases z:j=k1 - 1
          ·rw [z];exact q
          ·exact c.so.tr _ _ _ (c.sa j (k1 - 1) (by omega) (by omega)) q)
         rw [show nb3 - 1 - (nb3 - 1 - k2)=k2 by omega] at m45
         by_cases g5:(k2 == 1)=true
         ·rw [if_pos g5]
          have g5:k2=1:=by simpa using g5
          exact wpS_pure ⟨ks,.inl ⟨_,_,_,_,_,_,_,rfl,by rw [g5] at m45 ⊢;exact HI.firstB c m45 (by omega)⟩⟩
         ·rw [if_neg g5]
          have g5:¬ k2=1:=by simpa using g5
          by_cases g9:(k2 == 0)=true
          ·exact absurd (by simpa using g9:k2=0) (by omega)
          ·rw [if_neg g9]
           have M4:=m45
           have HA4:=fun i hi=>c.so.asym _ _ (hk5 i hi)
           refine wpS_bind (a0k (show k1 - 1 < a.size by omega) ?_)
           try dsimp only
           have m5:HI less a b (_:Array Keyed) (k1 - 1) _:=HI.pushA (na:=k1 - 1) (by rw [show k1 - 1+1=k1 by omega];exact M4) c (show k1 - 1 < a.size by omega) HA4
           by_cases g4:(k1 - 1 == 0)=true
           ·rw [if_pos g4]
            have g4:k1 - 1=0:=by simpa using g4
            exact wpS_pure ⟨ks,.inl ⟨_,_,_,_,_,_,_,rfl,by rw [g4] at m5 ⊢;exact HI.doneA c m5 (by omega)⟩⟩
           ·rw [if_neg g4]
            have g4:¬ k1 - 1=0:=by simpa using g4
            split
            ·exact wpS_pure ⟨ks,.inr ⟨_,_,_,_,_,_,rfl,m5,by omega,by omega,by omega,by omega,by omega⟩⟩
            ·exact wpS_pure ⟨ks,_,_,_,_,_,_,rfl,m5,by omega,by omega,by omega,by omega,by omega⟩
        ·rw [if_neg g3]
         have z2:k2=nb3 - 1:=by omega
         have M4:=m4
         have HA4:∀ j,j < nb3 - 1→Lt less (el b j) (el a (k1 - 1)):=fun j h1=>c.so.asym _ _ (hk5 j (by omega))
         refine wpS_bind (a0k (show k1 - 1 < a.size by omega) ?_)
         try dsimp only
         have m5:HI less a b (_:Array Keyed) (k1 - 1) _:=HI.pushA (na:=k1 - 1) (by rw [show k1 - 1+1=k1 by omega];exact M4) c (show k1 - 1 < a.size by omega) HA4
         by_cases g4:(k1 - 1 == 0)=true
         ·rw [if_pos g4]
          have g4:k1 - 1=0:=by simpa using g4
          exact wpS_pure ⟨ks,.inl ⟨_,_,_,_,_,_,_,rfl,by rw [g4] at m5 ⊢;exact HI.doneA c m5 (by omega)⟩⟩
         ·rw [if_neg g4]
          have g4:¬ k1 - 1=0:=by simpa using g4
          split
          ·exact wpS_pure ⟨ks,.inr ⟨_,_,_,_,_,_,rfl,m5,by omega,by omega,by omega,by omega,by omega⟩⟩
          ·exact wpS_pure ⟨ks,_,_,_,_,_,_,rfl,m5,by omega,by omega,by omega,by omega,by omega⟩
     ·rw [if_neg g6]
      have z1:k1=na3:=by omega
      have M3:=m3
      have HB3:∀ j,j < na3→Lt less (el a j) (el b (nb3 - 1)):=fun j h1=>hk4 j (by omega)
      refine wpS_bind (a0k (show nb3 - 1 < b.size by omega) ?_)
      try dsimp only
      have m4:HI less a b (_:Array Keyed) na3 (nb3 - 1):=HI.pushB (nb:=nb3 - 1) (by rw [show nb3 - 1+1=nb3 by omega];exact M3) c (show nb3 - 1 < b.size by omega) HB3
      by_cases g2:(nb3 - 1 == 1)=true
      ·rw [if_pos g2]
       have g2:nb3 - 1=1:=by simpa using g2
       exact wpS_pure ⟨ks,.inl ⟨_,_,_,_,_,_,_,rfl,by rw [g2] at m4 ⊢;exact HI.firstB c m4 (by omega)⟩⟩
      ·rw [if_neg g2]
       have g2:¬ nb3 - 1=1:=by simpa using g2
       refine wpS_bind (a0k (show na3 - 1 < a.size by omega) ?_)
       refine wpS_bind (a0C C (show nb3 - 1 - 1 < nb3 - 1 by omega) (by omega) (c.xa _ (by omega)) (fun i hi=>c.xb _ (by omega)) ks.k (fun i j hij hj hb=>?_) (fun k2 hk2 hk3 hk4=>?_))
       ·show less (el b (0+i)) (el a (na3 - 1))=true
        have hb:less (el b (0+j)) (el a (na3 - 1))=true:=hb
        cases e:less (el b (0+i)) (el a (na3 - 1)) with
        | true=>rfl
        | false=>rw [c.so.tr _ _ _ e (c.sb (0+i) (0+j) (by omega) (by omega))] at hb;exact hb
       dsimp only
       have hk5:∀ i,i < k2→less (el b i) (el a (na3 - 1))=true:=fun i hi=>by
        have q:less (el b (0+i)) (el a (na3 - 1))=true:=hk3 i hi
        rw [Nat.zero_add] at q
        exact q
       have hk6:∀ i,k2≤i→i < nb3 - 1→less (el b i) (el a (na3 - 1))=false:=fun i hi hi2=>by
        have q:less (el b (0+i)) (el a (na3 - 1))=false:=hk4 i hi hi2
        rw [Nat.zero_add] at q
        exact q
       have k21:1≤k2:=by
        rcases Nat.eq_zero_or_pos k2 with z | z
        ·have q:=hk6 0 (by omega) (by omega)
         have q2:less (el b 0) (el a (na3 - 1))=true:=by
          exact c.fst2 (by omega)
         rw [q2] at q
         cases q
        ·exact z
       by_cases g3:nb3 - 1 - k2 > 0
       ·rw [if_pos g3]
        have m45:=HI.moreB c (show nb3 - 1≤b.size by omega) m4 (nb3 - 1 - k2) (by omega) (fun i hi hi2 j h1=>by
         have q:=hk6 i (by omega) hi2
         by_cases z:j=na3 - 1
         ·rw [z];exact q
         ·exact c.so.tr _ _ _ (c.sa j (na3 - 1) (by omega) (by omega)) q)
        rw [show nb3 - 1 - (nb3 - 1 - k2)=k2 by omega] at m45
        by_cases g5:(k2 == 1)=true
        ·rw [if_pos g5]
         have g5:k2=1:=by simpa using g5
         exact wpS_pure ⟨ks,.inl ⟨_,_,_,_,_,_,_,rfl,by rw [g5] at m45 ⊢;exact HI.firstB c m45 (by omega)⟩⟩
        ·rw [if_neg g5]
         have g5:¬ k2=1:=by simpa using g5
         by_cases g9:(k2 == 0)=true
         ·exact absurd (by simpa using g9:k2=0) (by omega)
         ·rw [if_neg g9]
          have M4:=m45
          have HA4:=fun i hi=>c.so.asym _ _ (hk5 i hi)
          refine wpS_bind (a0k (show na3 - 1 < a.size by omega) ?_)
          try dsimp only
          have m5:HI less a b (_:Array Keyed) (na3 - 1) _:=HI.pushA (na:=na3 - 1) (by rw [show na3 - 1+1=na3 by omega];exact M4) c (show na3 - 1 < a.size by omega) HA4
          by_cases g4:(na3 - 1 == 0)=true
          ·rw [if_pos g4]
           have g4:na3 - 1=0:=by simpa using g4
           exact wpS_pure ⟨ks,.inl ⟨_,_,_,_,_,_,_,rfl,by rw [g4] at m5 ⊢;exact HI.doneA c m5 (by omega)⟩⟩
          ·rw [if_neg g4]
           have g4:¬ na3 - 1=0:=by simpa using g4
           split
           ·exact wpS_pure ⟨ks,.inr ⟨_,_,_,_,_,_,rfl,m5,by omega,by omega,by omega,by omega,by omega⟩⟩
           ·exact wpS_pure ⟨ks,_,_,_,_,_,_,rfl,m5,by omega,by omega,by omega,by omega,by omega⟩
       ·rw [if_neg g3]
        have z2:k2=nb3 - 1:=by omega
        have M4:=m4
        have HA4:∀ j,j < nb3 - 1→Lt less (el b j) (el a (na3 - 1)):=fun j h1=>c.so.asym _ _ (hk5 j (by omega))
        refine wpS_bind (a0k (show na3 - 1 < a.size by omega) ?_)
        try dsimp only
        have m5:HI less a b (_:Array Keyed) (na3 - 1) _:=HI.pushA (na:=na3 - 1) (by rw [show na3 - 1+1=na3 by omega];exact M4) c (show na3 - 1 < a.size by omega) HA4
        by_cases g4:(na3 - 1 == 0)=true
        ·rw [if_pos g4]
         have g4:na3 - 1=0:=by simpa using g4
         exact wpS_pure ⟨ks,.inl ⟨_,_,_,_,_,_,_,rfl,by rw [g4] at m5 ⊢;exact HI.doneA c m5 (by omega)⟩⟩
        ·rw [if_neg g4]
         have g4:¬ na3 - 1=0:=by simpa using g4
         split
         ·exact wpS_pure ⟨ks,.inr ⟨_,_,_,_,_,_,rfl,m5,by omega,by omega,by omega,by omega,by omega⟩⟩
         ·exact wpS_pure ⟨ks,_,_,_,_,_,_,rfl,m5,by omega,by omega,by omega,by omega,by omega⟩
end
theorem a5q (i:Nat):mergeAt' i=(do
 let s ←get
 let (some (sa,na,power),some (sb,nb,_)):=((pendingOf s)[i]?,(pendingOf s)[i+1]?) | unsupported "internal:list.sort.pending"
 set (setPending s (((pendingOf s).setIfInBounds i (sa,na+nb,power)).eraseIdxIfInBounds (i+1)))
 let some k ←gallop' false (←elem' (arrOf s) sb) (arrOf s) sa na 0 | return false
 let (sa,na):=(sa+k,na - k)
 if na == 0 then return true
 let some nb ←gallop' true (←elem' (arrOf s) (sa+na - 1)) (arrOf s) sb nb (nb - 1) | return false
 if nb == 0 then return true
 let x:=(arrOf s).extract sa sb
 let y:=(arrOf s).extract sb (sb+nb)
 let merged ←if na≤nb then a3R x y else a3T x y
 modify fun s=>setArr s (merged.toList.zipIdx.foldl (fun a (p,j)=>a.setIfInBounds (sa+j) p) (arrOf s))
 return (failedOf (←get)).isNone):=rfl
def Srt (less:Keyed→Keyed→Bool) (xs:Array Keyed) (lo hi:Nat):Prop:=∀ i j,lo≤i→i < j→j < hi→Lt less (el xs i) (el xs j)
theorem a7R (base:Nat):∀ (ms:List Keyed) (n:Nat) (arr:Array Keyed),base+n+ms.length≤arr.size→((ms.zipIdx n).foldl (fun a (q:Keyed × Nat)=>a.setIfInBounds (base+q.2) q.1) arr).toList=arr.toList.take (base+n)++ms++arr.toList.drop (base+n+ms.length)
 | [],n,arr,h=>by
  simp
 | p :: ms,n,arr,h=>by
  rw [List.length_cons] at h
  rw [List.zipIdx_cons,List.foldl_cons]
  show (List.foldl _ (arr.setIfInBounds (base+n) p) (ms.zipIdx (n+1))).toList=_
  have sz:(arr.setIfInBounds (base+n) p).size=arr.size:=by simp
  rw [a7R base ms (n+1) (arr.setIfInBounds (base+n) p) (by rw [sz];omega)]
  have e:(arr.setIfInBounds (base+n) p).toList=arr.toList.set (base+n) p:=by simp
  have hl:base+n < arr.toList.length:=by rw [Array.length_toList];omega
  rw [e,List.length_cons]
  have e1:(arr.toList.set (base+n) p).take (base+(n+1))=arr.toList.take (base+n)++[p]:=by
   rw [show base+(n+1)=base+n+1 by omega,List.take_add_one,List.getElem?_set_self hl,List.take_set_of_le (Nat.le_refl _)]
   rfl
  have e2:(arr.toList.set (base+n) p).drop (base+(n+1)+ms.length)=arr.toList.drop (base+n+(ms.length+1)):=by
   rw [List.drop_set_of_lt (by omega)]
   congr 1
   omega
  rw [e1,e2,List.append_assoc,List.append_assoc,List.append_assoc]
  rfl
theorem a1h {xs:Array Keyed} {i:Nat} (h:i < xs.size):xs.toList[i]?=some (el xs i):=by
 rw [Array.getElem?_toList]
 exact a3p h
structure Laid (arr arr' m:Array Keyed) (base:Nat):Prop where
 sz:arr'.size=arr.size
 lo:∀ j,j < base→el arr' j=el arr j
 mid:∀ j,j < m.size→el arr' (base+j)=el m j
 hi:∀ j,base+m.size≤j→j < arr.size→el arr' j=el arr j
theorem b0Y {arr m:Array Keyed} {base:Nat} (h:base+m.size≤arr.size):Laid arr (m.toList.zipIdx.foldl (fun a (q:Keyed × Nat)=>a.setIfInBounds (base+q.2) q.1) arr) m base ∧
  (m.toList.zipIdx.foldl (fun a (q:Keyed × Nat)=>a.setIfInBounds (base+q.2) q.1) arr).toList=arr.toList.take base++m.toList++arr.toList.drop (base+m.size):=by
 have e:=a7R base m.toList 0 arr (by rw [Array.length_toList];omega)
 rw [Nat.add_zero,Array.length_toList] at e
 generalize (m.toList.zipIdx.foldl (fun a (q:Keyed × Nat)=>a.setIfInBounds (base+q.2) q.1) arr)=arr' at e ⊢
 have ll:(arr.toList.take base).length=base:=by rw [List.length_take,Array.length_toList];omega
 have sz:arr'.size=arr.size:=by
  rw [←Array.length_toList,e,List.length_append,List.length_append,ll,Array.length_toList,List.length_drop,Array.length_toList]
  omega
 refine ⟨⟨sz,fun j hj=>?_,fun j hj=>?_,fun j hj hj2=>?_⟩,e⟩
 ·have q:=a1h (xs:=arr') (i:=j) (by omega)
  rw [e,List.append_assoc,List.getElem?_append_left (by omega),List.getElem?_take_of_lt hj,a1h (by omega)] at q
  exact (Option.some.inj q).symm
 ·have q:=a1h (xs:=arr') (i:=base+j) (by omega)
  rw [e,List.append_assoc,List.getElem?_append_right (by omega),ll,show base+j - base=j by omega,List.getElem?_append_left (by rw [Array.length_toList];exact hj),a1h hj] at q
  exact (Option.some.inj q).symm
 ·have q:=a1h (xs:=arr') (i:=j) (by omega)
  rw [e,List.append_assoc,List.getElem?_append_right (by omega),ll,List.getElem?_append_right (by rw [Array.length_toList];omega),Array.length_toList,List.getElem?_drop,show base+m.size+(j - base - m.size)=j by omega,a1h hj2] at q
  exact (Option.some.inj q).symm
theorem b0e {arr:Array Keyed} {i n j:Nat} (hn:n≤arr.size) (h:i+j < n):el (arr.extract i n) j=el arr (i+j):=by
 have q:=a1h (xs:=arr.extract i n) (i:=j) (by rw [Array.size_extract];omega)
 rw [Array.toList_extract,List.extract_eq_take_drop,List.getElem?_take_of_lt (by omega),List.getElem?_drop,a1h (by omega)] at q
 exact (Option.some.inj q).symm
theorem b0f {m:Array Keyed} {z:Keyed} (h:z∈m.toList):∃ j,j < m.size∧el m j=z:=by
 obtain ⟨j,hj⟩:=List.getElem?_of_mem h
 have lj:=(List.getElem?_eq_some_iff.mp hj).1
 rw [Array.length_toList] at lj
 rw [a1h lj] at hj
 exact ⟨j,lj,Option.some.inj hj⟩
theorem a2o {m:Array Keyed} {j:Nat} (h:j < m.size):el m j∈m.toList:=List.mem_of_getElem? (a1h h)
theorem a9m {less:Keyed→Keyed→Bool} {m:Array Keyed} (h:m.toList.Pairwise (Lt less)) {i j:Nat} (hij:i < j) (hj:j < m.size):Lt less (el m i) (el m j):=by
 rw [List.pairwise_iff_getElem] at h
 have q:=h i j (by rw [Array.length_toList];omega) (by rw [Array.length_toList];omega) hij
 have e1:=a1h (xs:=m) (i:=i) (by omega)
 have e2:=a1h (xs:=m) (i:=j) hj
 rw [List.getElem?_eq_getElem (by rw [Array.length_toList];omega)] at e1 e2
 rw [Option.some.inj e1,Option.some.inj e2] at q
 exact q
structure SB (κ:SortKind) (a₀:Array Keyed) (st:SortSt):Prop where
 perm:(arrOf st).Perm a₀
 kind:kindOf st=κ
 failed:failedOf st=none
theorem SB.size {κ:SortKind} {a₀:Array Keyed} {st:SortSt} (h:SB κ a₀ st):(arrOf st).size=a₀.size:=h.perm.size_eq
section
variable {prog:Program} {w:World} {A:Around} {E:Value→Shared→Prop} {s:Shared} {κ:SortKind} {less:Keyed→Keyed→Bool} {S:Keyed→Prop} {a₀:Array Keyed}
structure SA (less:Keyed→Keyed→Bool) (S:Keyed→Prop) (a₀:Array Keyed):Prop where
 so:SO less S
 xs:∀ x∈a₀.toList,S x
theorem SB.x {st:SortSt} (h:SB κ a₀ st) (sa:SA less S a₀) {i:Nat} (hi:i < a₀.size):S (el (arrOf st) i):=by
 have hm:el (arrOf st) i∈(arrOf st).toList:=a2o (by rw [h.size];exact hi)
 exact sa.xs _ ((Array.perm_iff_toList_perm.mp h.perm).mem_iff.mp hm)
theorem b0Z {σ:Type} {M:Model} {x:σ} {Q:PUnit→σ→Prop} {st:σ} (h:Q ⟨⟩ x):wpS M A E s (set x:StateT σ Sem PUnit) Q st:=by
 unfold wpS;rw [StateT.run_set];exact wpAny_pure ⟨rfl,h⟩
theorem a5r (C:Cmp prog w A E s κ less S) (sa':SA less S a₀) {st:SortSt} {i sa na pw nb pw2:Nat} {Q:Bool→SortSt→Prop} (hB:SB κ a₀ st) (p1:(pendingOf st)[i]?=some (sa,na,pw)) (p2:(pendingOf st)[i+1]?=some (sa+na,nb,pw2)) (n1:1≤na) (n2:1≤nb) (hz:sa+na+nb≤a₀.size)
  (s1:Srt less (arrOf st) sa (sa+na)) (s2:Srt less (arrOf st) (sa+na) (sa+na+nb))
  (h:∀ st',SB κ a₀ st'→pendingOf st'=((pendingOf st).setIfInBounds i (sa,na+nb,pw)).eraseIdxIfInBounds (i+1)→(∀ j,j < sa∨sa+na+nb≤j→j < a₀.size→el (arrOf st') j=el (arrOf st) j)→Srt less (arrOf st') sa (sa+na+nb)→Q true st') :
  wpS (model prog w) A E s (mergeAt' i) Q st:=by
 have so:=sa'.so
 have sz:=hB.size
 rw [a5q]
 refine wpS_bind (wpS_get ?_)
 rw [p1,p2]
 dsimp only
 refine wpS_bind (b0Z ?_)
 generalize ep:((pendingOf st).setIfInBounds i (sa,na+nb,pw)).eraseIdxIfInBounds (i+1)=p' at h ⊢
 have hB1:SB κ a₀ (setPending st p'):=⟨hB.perm,hB.kind,hB.failed⟩
 have arr1:arrOf (setPending st p')=arrOf st:=rfl
 have pe1:pendingOf (setPending st p')=p':=rfl
 generalize setPending st p'=st1 at hB1 arr1 pe1 ⊢
 have X:∀ j,j < a₀.size→S (el (arrOf st) j):=fun j hj=>hB.x sa' hj
 have PM:=Array.perm_iff_toList_perm.mp hB.perm
 clear p1 p2 ep hB
 generalize arrOf st=arr at *
 refine wpS_bind (a0k (by omega) ?_)
 refine wpS_bind (a0C C (show 0 < na by omega) (by omega) (X _ (by omega)) (fun i hi=>X _ (by omega)) hB1.kind (fun i j hij hj hb=>?_) (fun k hk1 hk2 hk3=>?_))
 ·show (!less (el arr (sa+na)) (el arr (sa+i)))=true
  have hb:(!less (el arr (sa+na)) (el arr (sa+j)))=true:=hb
  rw [so.tr _ _ _ (s1 (sa+i) (sa+j) (by omega) (by omega) (by omega)) (show less (el arr (sa+na)) (el arr (sa+j))=false by simpa using hb)]
  rfl
 dsimp only
 have A1:∀ i,sa≤i→i < sa+k→Lt less (el arr i) (el arr (sa+na)):=fun i h1 h2=>by
  have q:(!less (el arr (sa+na)) (el arr (sa+(i - sa))))=true:=hk2 (i - sa) (by omega)
  rw [show sa+(i - sa)=i by omega] at q
  show less (el arr (sa+na)) (el arr i)=false
  simpa using q
 have A2:∀ i,sa+k≤i→i < sa+na→less (el arr (sa+na)) (el arr i)=true:=fun i h1 h2=>by
  have q:(!less (el arr (sa+na)) (el arr (sa+(i - sa))))=false:=hk3 (i - sa) (by omega) (by omega)
  rw [show sa+(i - sa)=i by omega] at q
  simpa using q
 have A3:∀ i j,sa≤i→i < sa+k→sa+na≤j→j < sa+na+nb→Lt less (el arr i) (el arr j):=fun i j h1 h2 h3 h4=>by
  by_cases z:j=sa+na
  ·rw [z];exact A1 i h1 h2
  ·exact so.tr _ _ _ (A1 i h1 h2) (s2 _ _ (by omega) (by omega) h4)
 by_cases g1:(na - k == 0)=true
 ·rw [if_pos g1]
  have g1:na - k=0:=by simpa using g1
  refine wpS_pure (h st1 hB1 pe1 (fun j _ _=>by rw [arr1]) ?_)
  rw [arr1]
  intro i j h1 h2 h3
  by_cases z1:j < sa+na
  ·exact s1 i j h1 h2 z1
  ·by_cases z2:sa+na≤i
   ·exact s2 i j z2 h2 h3
   ·exact A3 i j h1 (by omega) (by omega) h3
 rw [if_neg g1]
 have g1:¬ na - k=0:=by simpa using g1
 rw [show sa+k+(na - k) - 1=sa+na - 1 by omega]
 refine wpS_bind (a0k (by omega) ?_)
 refine wpS_bind (a0C C (show nb - 1 < nb by omega) (by omega) (X _ (by omega)) (fun i hi=>X _ (by omega)) hB1.kind (fun i j hij hj hb=>?_) (fun k2 hk4 hk5 hk6=>?_))
 ·show less (el arr (sa+na+i)) (el arr (sa+na - 1))=true
  have hb:less (el arr (sa+na+j)) (el arr (sa+na - 1))=true:=hb
  cases e:less (el arr (sa+na+i)) (el arr (sa+na - 1)) with
  | true=>rfl
  | false=>rw [so.tr _ _ _ e (s2 (sa+na+i) (sa+na+j) (by omega) (by omega) (by omega))] at hb;exact hb
 dsimp only
 have B1:∀ j,sa+na≤j→j < sa+na+k2→less (el arr j) (el arr (sa+na - 1))=true:=fun j h1 h2=>by
  have q:less (el arr (sa+na+(j - (sa+na)))) (el arr (sa+na - 1))=true:=hk5 (j - (sa+na)) (by omega)
  rw [show sa+na+(j - (sa+na))=j by omega] at q
  exact q
 have B2:∀ j,sa+na+k2≤j→j < sa+na+nb→Lt less (el arr (sa+na - 1)) (el arr j):=fun j h1 h2=>by
  have q:less (el arr (sa+na+(j - (sa+na)))) (el arr (sa+na - 1))=false:=hk6 (j - (sa+na)) (by omega) (by omega)
  rw [show sa+na+(j - (sa+na))=j by omega] at q
  exact q
 have k21:1≤k2:=by
  rcases Nat.eq_zero_or_pos k2 with z | z
  ·have q:=B2 (sa+na) (by omega) (by omega)
   have q:less (el arr (sa+na)) (el arr (sa+na - 1))=false:=q
   rw [A2 (sa+na - 1) (by omega) (by omega)] at q
   cases q
  ·exact z
 by_cases g2:(k2 == 0)=true
 ·exact absurd (by simpa using g2:k2=0) (by omega)
 rw [if_neg g2]
 have xsz:(arr.extract (sa+k) (sa+na)).size=na - k:=by rw [Array.size_extract];omega
 have ysz:(arr.extract (sa+na) (sa+na+k2)).size=k2:=by rw [Array.size_extract];omega
 have xe:∀ j,j < na - k→el (arr.extract (sa+k) (sa+na)) j=el arr (sa+k+j):=fun j hj=>b0e (by omega) (by omega)
 have ye:∀ j,j < k2→el (arr.extract (sa+na) (sa+na+k2)) j=el arr (sa+na+j):=fun j hj=>b0e (by omega) (by omega)
 have B3:∀ j,sa+na≤j→j < sa+na+k2→less (el arr j) (el arr (sa+na - 1))=true:=B1
 have mc:MC less S (arr.extract (sa+k) (sa+na)) (arr.extract (sa+na) (sa+na+k2)):=by
  refine ⟨so,fun i j hij hj=>?_,fun i j hij hj=>?_,fun i hi=>?_,fun i hi=>?_,?_,fun j hj=>?_,by omega,by omega⟩
  ·rw [xsz] at hj
   rw [xe i (by omega),xe j hj]
   exact s1 _ _ (by omega) (by omega) (by omega)
  ·rw [ysz] at hj
   rw [ye i (by omega),ye j hj]
   exact s2 _ _ (by omega) (by omega) (by omega)
  ·rw [xsz] at hi
   rw [xe i hi]
   exact X _ (by omega)
  ·rw [ysz] at hi
   rw [ye i hi]
   exact X _ (by omega)
  ·rw [xe 0 (by omega),ye 0 (by omega)]
   exact A2 _ (by omega) (by omega)
  ·rw [ysz] at hj
   rw [xsz,xe _ (by omega),ye j hj,show sa+k+(na - k - 1)=sa+na - 1 by omega]
   exact B1 _ (by omega) (by omega)
 have whole:arr.toList.drop (sa+k)=(arr.extract (sa+k) (sa+na)).toList++(arr.extract (sa+na) (sa+na+k2)).toList++arr.toList.drop (sa+na+k2):=by
  rw [Array.toList_extract,Array.toList_extract,List.extract_eq_take_drop,List.extract_eq_take_drop]
  rw [show sa+na - (sa+k)=na - k by omega,show sa+na+k2 - (sa+na)=k2 by omega]
  have e1:arr.toList.drop (sa+na)=List.take k2 (arr.toList.drop (sa+na))++arr.toList.drop (sa+na+k2):=by
   conv=>lhs;rw [←List.take_append_drop k2 (arr.toList.drop (sa+na))]
   rw [List.drop_drop]
  have e2:arr.toList.drop (sa+k)=List.take (na - k) (arr.toList.drop (sa+k))++arr.toList.drop (sa+na):=by
   conv=>lhs;rw [←List.take_append_drop (na - k) (arr.toList.drop (sa+k))]
   rw [List.drop_drop,show sa+k+(na - k)=sa+na by omega]
  rw [List.append_assoc,←e1]
  exact e2
 have fin:∀ (m:Array Keyed) (st2:SortSt),a1j st1 st2→m.toList.Perm ((arr.extract (sa+k) (sa+na)).toList++(arr.extract (sa+na) (sa+na+k2)).toList)→m.toList.Pairwise (Lt less) →
   wpS (model prog w) A E s (do
    modify fun s=>setArr s (m.toList.zipIdx.foldl (fun a (q:Keyed × Nat)=>a.setIfInBounds (sa+k+q.2) q.1) (arrOf s))
    let __do_lift ←get
    pure (failedOf __do_lift).isNone) Q st2:=by
  intro m st2 kp pm pw'
  have msz:m.size=na - k+k2:=by
   have q:=pm.length_eq
   rw [List.length_append,Array.length_toList,Array.length_toList,Array.length_toList,xsz,ysz] at q
   exact q
  refine wpS_bind (wpS_modify (wpS_bind (wpS_get ?_)))
  have a2:arrOf st2=arr:=kp.a.trans arr1
  obtain ⟨ld,le⟩:=b0Y (arr:=arr) (m:=m) (base:=sa+k) (by omega)
  rw [a2]
  generalize (m.toList.zipIdx.foldl (fun a (q:Keyed × Nat)=>a.setIfInBounds (sa+k+q.2) q.1) arr)=arr' at ld le ⊢
  have hf:failedOf (setArr st2 arr')=none:=kp.f.trans hB1.failed
  have mm:∀ z∈m.toList,(∃ j,sa+k≤j∧j < sa+na∧el arr j=z)∨∃ j,sa+na≤j∧j < sa+na+k2∧el arr j=z:=fun z hz=>by
   rcases List.mem_append.mp (pm.mem_iff.mp hz) with q | q
   ·obtain ⟨j,hj,e⟩:=b0f q
    rw [xsz] at hj
    rw [xe j hj] at e
    exact .inl ⟨_,by omega,by omega,e⟩
   ·obtain ⟨j,hj,e⟩:=b0f q
    rw [ysz] at hj
    rw [ye j hj] at e
    exact .inr ⟨_,by omega,by omega,e⟩
  have F1:∀ i z,sa≤i→i < sa+k→z∈m.toList→Lt less (el arr i) z:=fun i z h1 h2 hz=>by
   rcases mm z hz with ⟨j,q1,q2,rfl⟩ | ⟨j,q1,q2,rfl⟩
   ·exact s1 _ _ h1 (by omega) q2
   ·exact A3 i j h1 h2 q1 (by omega)
  have F2:∀ z j,z∈m.toList→sa+na+k2≤j→j < sa+na+nb→Lt less z (el arr j):=fun z j hz h1 h2=>by
   rcases mm z hz with ⟨i,q1,q2,rfl⟩ | ⟨i,q1,q2,rfl⟩
   ·by_cases y:i=sa+na - 1
    ·rw [y];exact B2 j h1 h2
    ·exact so.tr _ _ _ (s1 i (sa+na - 1) (by omega) (by omega) (by omega)) (B2 j h1 h2)
   ·exact s2 _ _ q1 (by omega) h2
  show wpS _ _ _ _ (pure (failedOf (setArr st2 arr')).isNone) _ _
  rw [hf]
  refine wpS_pure (h (setArr st2 arr') ⟨?_,kp.k.trans hB1.kind,hf⟩ (kp.p.trans pe1) (fun j hj hj2=>?_) ?_)
  ·show arr'.Perm a₀
   rw [Array.perm_iff_toList_perm,le,show sa+k+m.size=sa+na+k2 by omega]
   refine List.Perm.trans ?_ PM
   have:arr.toList=arr.toList.take (sa+k)++((arr.extract (sa+k) (sa+na)).toList++(arr.extract (sa+na) (sa+na+k2)).toList)++arr.toList.drop (sa+na+k2):=by
    rw [List.append_assoc,←whole,List.take_append_drop]
   conv=>rhs;rw [this]
   exact List.Perm.append_right _ (List.Perm.append_left _ pm)
  ·show el arr' j=el arr j
   rcases hj with z | z
   ·exact ld.lo j (by omega)
   ·exact ld.hi j (by omega) (by omega)
  ·show Srt less arr' sa (sa+na+nb)
   intro i j h1 h2 h3
   have m1:∀ x,sa+k≤x→x < sa+na+k2→el arr' x=el m (x - (sa+k)):=fun x q1 q2=>by
    have q:=ld.mid (x - (sa+k)) (by omega)
    rw [show sa+k+(x - (sa+k))=x by omega] at q
    exact q
   have l1:∀ x,x < sa+k→el arr' x=el arr x:=fun x q=>ld.lo x q
   have r1:∀ x,sa+na+k2≤x→x < sa+na+nb→el arr' x=el arr x:=fun x q1 q2=>ld.hi x (by omega) (by omega)
   by_cases zi:i < sa+k
   ·rw [l1 i zi]
    by_cases zj:j < sa+k
    ·rw [l1 j zj];exact s1 i j h1 h2 (by omega)
    ·by_cases zj2:j < sa+na+k2
     ·rw [m1 j (by omega) zj2];exact F1 i _ h1 zi (a2o (by omega))
     ·rw [r1 j (by omega) h3];exact A3 i j h1 zi (by omega) h3
   ·by_cases zi2:i < sa+na+k2
    ·rw [m1 i (by omega) zi2]
     by_cases zj2:j < sa+na+k2
     ·rw [m1 j (by omega) zj2];exact a9m pw' (by omega) (by omega)
     ·rw [r1 j (by omega) h3];exact F2 _ j (a2o (by omega)) (by omega) h3
    ·rw [r1 i (by omega) (by omega),r1 j (by omega) h3]
     exact s2 i j (by omega) h2 h3
 by_cases g3:na - k≤k2
 ·rw [if_pos g3]
  exact wpS_bind (a5n C mc hB1.kind fun m st2 kp pm pw'=>fin m st2 kp pm pw')
 ·rw [if_neg g3]
  exact wpS_bind (a5p C mc hB1.kind fun m st2 kp pm pw'=>fin m st2 kp pm pw')
end
theorem a2p {xs ys:Array Keyed} {i j:Nat} (h:xs[i]?=ys[j]?):el xs i=el ys j:=by
 have g:∀ (zs:Array Keyed) (k:Nat),el zs k=(zs[k]?).getD nokey:=fun zs k=>by
  unfold el
  simp [Array.getD]
  split <;> simp [*]
 rw [g,g,h]
theorem a1p {xs:Array Keyed} {i j:Nat} (hj:j≤xs.size) (k:Nat):el (mirror xs i j ((j - i) / 2)) k=if i≤k∧k < j then el xs (i+j - 1 - k) else el xs k:=by
 have e:=getElem?_mirror_all (i:=i) hj k
 by_cases h1:i≤k∧k < j
 ·rw [if_pos h1] at e ⊢;exact a2p e
 ·rw [if_neg h1] at e ⊢;exact a2p e
theorem a7S {xs:Array Keyed} {src d:Nat} (hs:src < xs.size) (hd:d≤src) (k:Nat):el (bubble xs src d) k=if k=src - d then el xs src else if src - d < k∧k≤src then el xs (k - 1) else el xs k:=by
 have e:=getElem?_bubble hs d hd k
 by_cases h1:k=src - d
 ·rw [if_pos h1] at e ⊢;exact a2p e
 ·rw [if_neg h1] at e ⊢
  by_cases h2:src - d < k∧k≤src
  ·rw [if_pos h2] at e ⊢;exact a2p e
  ·rw [if_neg h2] at e ⊢;exact a2p e
theorem SB.setArr {κ:SortKind} {a₀:Array Keyed} {st:SortSt} (h:SB κ a₀ st) {xs:Array Keyed} (hp:xs.Perm (arrOf st)):SB κ a₀ (PyProof.Rows.setArr st xs):=⟨hp.trans h.perm,h.kind,h.failed⟩
section
variable {prog:Program} {w:World} {A:Around} {E:Value→Shared→Prop} {s:Shared} {κ:SortKind} {less:Keyed→Keyed→Bool} {S:Keyed→Prop} {a₀:Array Keyed}
theorem a2w (C:Cmp prog w A E s κ less S) (sa:SA less S a₀) {st:SortSt} {i j:Nat} {Q:Option Bool→SortSt→Prop} (hB:SB κ a₀ st) (hi:i < a₀.size) (hj:j < a₀.size) (h:Q (some (less (el (arrOf st) i) (el (arrOf st) j))) st):wpS (model prog w) A E s (ltAt' i j) Q st:=by
 rw [ltAt'_eq]
 refine wpS_bind (wpS_get ?_)
 show wpS _ _ _ _ (do let x ←elem' (arrOf st) i;let y ←elem' (arrOf st) j;lt' x y) Q st
 refine wpS_bind (a0k (by rw [hB.size];exact hi) (wpS_bind (a0k (by rw [hB.size];exact hj) ?_)))
 exact C _ _ _ _ (hB.x sa hi) (hB.x sa hj) hB.kind h
structure a3W (a₀:Array Keyed) (lo:Nat) (st st':SortSt):Prop where
 lo:∀ j,j < lo→el (arrOf st') j=el (arrOf st) j
 p:pendingOf st'=pendingOf st
theorem a3W.refl (lo:Nat) (st:SortSt):a3W a₀ lo st st:=⟨fun _ _=>rfl,rfl⟩
def Fal (less:Keyed→Keyed→Bool) (xs:Array Keyed) (lo hi:Nat):Prop:=∀ i j,lo≤i→i < j→j < hi→Lt less (el xs j) (el xs i)
def Tie (less:Keyed→Keyed→Bool) (xs:Array Keyed) (a b:Nat):Prop:=∀ i j,a≤i→i < b→a≤j→j < b→Lt less (el xs i) (el xs j)
theorem Fal.mir {xs:Array Keyed} {lo hi a b:Nat} (d:Fal less xs lo hi) (t:Tie less xs a b) (ha:lo≤a) (hb:b≤hi) (hs:hi≤xs.size):Fal less (mirror xs a b ((b - a) / 2)) lo hi:=fun i j h1 h2 h3=>by
 rw [a1p (by omega),a1p (by omega)]
 by_cases zi:a≤i∧i < b
 ·rw [if_pos zi]
  by_cases zj:a≤j∧j < b
  ·rw [if_pos zj]
   exact t _ _ (by omega) (by omega) (by omega) (by omega)
  ·rw [if_neg zj]
   exact d _ _ (by omega) (by omega) h3
 ·rw [if_neg zi]
  by_cases zj:a≤j∧j < b
  ·rw [if_pos zj]
   exact d _ _ h1 (by omega) (by omega)
  ·rw [if_neg zj]
   exact d _ _ h1 h2 h3
theorem SB.mir {st:SortSt} {a b:Nat} (h:SB κ a₀ st):SB κ a₀ (PyProof.Rows.setArr st (mirror (arrOf st) a b ((b - a) / 2))):=h.setArr (mirror_perm _ _ _ _)
theorem a3W.mir {st st1:SortSt} {lo a b:Nat} (h:a3W a₀ lo st st1) (hB:SB κ a₀ st1) (ha:lo≤a) (hb:b≤a₀.size):a3W a₀ lo st (PyProof.Rows.setArr st1 (mirror (arrOf st1) a b ((b - a) / 2))):=⟨fun j hj=>by
  show el (mirror (arrOf st1) a b ((b - a) / 2)) j=_
  rw [a1p (by rw [hB.size];exact hb),if_neg (by omega)]
  exact h.lo j hj,h.p⟩
theorem a5W (C:Cmp prog w A E s κ less S) (sa:SA less S a₀) {st st1:SortSt} {lo nrem n0:Nat} {Q:Option Nat→SortSt→Prop} (hB:SB κ a₀ st1) (fr:a3W a₀ lo st st1) (h1:1≤n0) (h2:n0+1≤nrem) (hz:lo+nrem≤a₀.size) (ds:Fal less (arrOf st1) lo (lo+n0+1))
  (h:∀ m st',SB κ a₀ st'→a3W a₀ lo st st'→1≤m→m≤nrem→Srt less (arrOf st') lo (lo+m)→Q (some m) st'):wpS (model prog w) A E s (do
 rule "list.sort.descending-run"
 let mut n:=n0+1
 let mut neq:=0
 for _ in [n:nrem] do
  let some smaller ←ltAt' (lo+n) (lo+n - 1) | return none
  if smaller then
   if neq > 0 then reverseSlice' (lo+n - (neq+1)) (lo+n)
   neq:=0
  else
   let some larger ←ltAt' (lo+n - 1) (lo+n) | return none
   if larger then break
   neq:=neq+1
  n:=n+1
 if neq > 0 then reverseSlice' (lo+n - (neq+1)) (lo+n)
 reverseSlice' lo (lo+n)
 for _ in [n:nrem] do
  let some smaller ←ltAt' (lo+n) (lo+n - 1) | return none
  if smaller then break
  n:=n+1
 return some n) Q st1:=by
 have so:=sa.so
 refine wpS_bind (wpS_lift (wpAny_rule ⟨rfl,?_⟩))
 dsimp only
 refine wpS_bind (wpS_mono (wpS_forRange (I:=fun x c st'=>SB κ a₀ st'∧a3W a₀ lo st st'∧∃ q,c=(none,x,q)∧q+1≤x∧Fal less (arrOf st') lo (lo+x)∧Tie less (arrOf st') (lo+x - (q+1)) (lo+x))
  (Q:=fun c st'=>SB κ a₀ st'∧a3W a₀ lo st st'∧∃ x q,c=(none,x,q)∧2≤x∧x≤nrem∧q+1≤x∧Fal less (arrOf st') lo (lo+x)∧Tie less (arrOf st') (lo+x - (q+1)) (lo+x)) ?_ ?_ ⟨hB,fr,0,rfl,by omega,ds,fun i j q1 q2 q3 q4=>?_⟩) ?_)
 ·rintro x c st' hx1 hx2 ⟨hB',fr',q,rfl,hq,dx,tx⟩
  have sz:=hB'.size
  dsimp only
  refine wpS_bind (a2w C sa hB' (by omega) (by omega) ?_)
  dsimp only
  cases e:less (el (arrOf st') (lo+x)) (el (arrOf st') (lo+x - 1)) with
  | true =>
   rw [if_pos rfl]
   have ext:∀ {st2:SortSt},Fal less (arrOf st2) lo (lo+x)→Lt less (el (arrOf st2) (lo+x)) (el (arrOf st2) (lo+x - 1))→Fal less (arrOf st2) lo (lo+(x+1)):=fun {st2} d2 l2 i j p1 p2 p3=>by
    by_cases z:j=lo+x
    ·rw [z] at p2 ⊢
     by_cases z2:i=lo+x - 1
     ·rw [z2];exact l2
     ·exact so.tr _ _ _ l2 (d2 i (lo+x - 1) p1 (by omega) (by omega))
    ·exact d2 i j p1 p2 (by omega)
   have one:∀ {st2:SortSt},Tie less (arrOf st2) (lo+(x+1) - (0+1)) (lo+(x+1)):=fun {st2} i j q1 q2 q3 q4=>by
    have:i=j:=by omega
    rw [this]
    cases e9:less (el (arrOf st2) j) (el (arrOf st2) j) with
    | false=>exact e9
    | true=>exact absurd (so.asym _ _ e9) (by rw [e9];decide)
   by_cases gq:q > 0
   ·rw [if_pos gq]
    rw [reverseSlice'_eq]
    refine wpS_bind (wpS_modify (wpS_pure ⟨hB'.mir,fr'.mir hB' (by omega) (by omega),0,rfl,by omega,?_,one⟩))
    refine ext (dx.mir tx (by omega) (Nat.le_refl _) (by omega)) ?_
    show Lt less (el (mirror (arrOf st') (lo+x - (q+1)) (lo+x) ((lo+x - (lo+x - (q+1))) / 2)) (lo+x)) (el (mirror (arrOf st') (lo+x - (q+1)) (lo+x) ((lo+x - (lo+x - (q+1))) / 2)) (lo+x - 1))
    rw [a1p (by omega),a1p (by omega),if_neg (by omega),if_pos (by omega)]
    exact so.tr _ _ _ (so.asym _ _ e) (tx _ _ (by omega) (by omega) (by omega) (by omega))
   ·rw [if_neg gq]
    exact wpS_pure ⟨hB',fr',0,rfl,by omega,ext dx (so.asym _ _ e),one⟩
  | false =>
   rw [if_neg (by decide)]
   refine wpS_bind (a2w C sa hB' (by omega) (by omega) ?_)
   dsimp only
   cases e2:less (el (arrOf st') (lo+x - 1)) (el (arrOf st') (lo+x)) with
   | true =>
    rw [if_pos rfl]
    exact wpS_pure ⟨hB',fr',x,q,rfl,by omega,by omega,hq,dx,tx⟩
   | false =>
    rw [if_neg (by decide)]
    refine wpS_pure ⟨hB',fr',q+1,rfl,by omega,fun i j p1 p2 p3=>?_,fun i j q1 q2 q3 q4=>?_⟩
    ·by_cases z:j=lo+x
     ·rw [z] at p2 ⊢
      by_cases z2:i=lo+x - 1
      ·rw [z2];exact e2
      ·exact so.tr _ _ _ e2 (dx i (lo+x - 1) p1 (by omega) (by omega))
     ·exact dx i j p1 p2 (by omega)
    ·by_cases zi:i=lo+x
     ·by_cases zj:j=lo+x
      ·rw [zi,zj]
       exact so.tr _ _ _ e2 e
      ·rw [zi]
       exact so.tr _ _ _ e2 (tx _ _ (by omega) (by omega) (by omega) (by omega))
     ·by_cases zj:j=lo+x
      ·rw [zj]
       exact so.tr _ (el (arrOf st') (lo+x - 1)) _ (tx _ _ (by omega) (by omega) (by omega) (by omega)) e
      ·exact tx _ _ (by omega) (by omega) (by omega) (by omega)
 ·rintro c st' ⟨hB',fr',q,rfl,hq,dx,tx⟩
  rw [show max (n0+1) nrem=nrem by omega] at *
  exact ⟨hB',fr',nrem,q,rfl,by omega,Nat.le_refl _,hq,dx,tx⟩
 ·have:i=j:=by omega
  rw [this]
  cases e9:less (el (arrOf st1) j) (el (arrOf st1) j) with
  | false=>exact e9
  | true=>exact absurd (so.asym _ _ e9) (by rw [e9];decide)
 rintro c st2 ⟨hB2,fr2,n,q,rfl,n1,n2,hq,dx,tx⟩
 dsimp only
 have fin:∀ {st3:SortSt},SB κ a₀ st3→a3W a₀ lo st st3→Fal less (arrOf st3) lo (lo+n)→wpS (model prog w) A E s (do
   reverseSlice' lo (lo+n)
   let mut n:=n
   for _ in [n:nrem] do
    let some smaller ←ltAt' (lo+n) (lo+n - 1) | return none
    if smaller then break
    n:=n+1
   return some n) Q st3:=fun {st3} hB3 fr3 d3=>by
  rw [reverseSlice'_eq]
  have sz:=hB3.size
  refine wpS_bind (wpS_modify ?_)
  have hM:=hB3.mir (a:=lo) (b:=lo+n)
  have fM:=fr3.mir hB3 (a:=lo) (b:=lo+n) (Nat.le_refl _) (by omega)
  have sM:Srt less (arrOf (PyProof.Rows.setArr st3 (mirror (arrOf st3) lo (lo+n) ((lo+n - lo) / 2)))) lo (lo+n):=fun i j q1 q2 q3=>by
   show Lt less (el (mirror (arrOf st3) lo (lo+n) ((lo+n - lo) / 2)) i) (el (mirror (arrOf st3) lo (lo+n) ((lo+n - lo) / 2)) j)
   rw [a1p (by omega),a1p (by omega),if_pos (by omega),if_pos (by omega)]
   exact d3 _ _ (by omega) (by omega) (by omega)
  generalize PyProof.Rows.setArr st3 (mirror (arrOf st3) lo (lo+n) ((lo+n - lo) / 2))=st4 at hM fM sM ⊢
  refine wpS_bind (wpS_mono (wpS_forRange (I:=fun x c st'=>st'=st4∧c=(none,x)∧Srt less (arrOf st4) lo (lo+x))
   (Q:=fun c st'=>st'=st4∧∃ n1,c=(none,n1)∧n≤n1∧n1≤nrem∧Srt less (arrOf st4) lo (lo+n1)) ?_ ?_ ⟨rfl,rfl,sM⟩) ?_)
  ·rintro x c st' hx1 hx2 ⟨est,rfl,sx⟩
   subst est
   dsimp only
   refine wpS_bind (a2w C sa hM (by omega) (by omega) ?_)
   dsimp only
   cases e:less (el (arrOf st') (lo+x)) (el (arrOf st') (lo+x - 1)) with
   | true =>
    rw [if_pos rfl]
    exact wpS_pure ⟨rfl,x,rfl,by omega,by omega,sx⟩
   | false =>
    rw [if_neg (by decide)]
    refine wpS_pure ⟨rfl,rfl,fun i j q1 q2 q3=>?_⟩
    by_cases z:j=lo+x
    ·rw [z] at q2 ⊢
     by_cases z2:i=lo+x - 1
     ·rw [z2];exact e
     ·exact so.tr _ _ _ (sx i (lo+x - 1) q1 (by omega) (by omega)) e
    ·exact sx i j q1 q2 (by omega)
  ·rintro c st' ⟨est,rfl,sx⟩
   refine ⟨est,max n nrem,rfl,Nat.le_max_left _ _,Nat.max_le.mpr ⟨by omega,Nat.le_refl _⟩,?_⟩
   exact sx
  rintro c st' ⟨est,n',rfl,n3,n4,sn'⟩
  have est:=est.symm
  subst est
  exact wpS_pure (h n' st4 hM fM (by omega) n4 sn')
 by_cases gq:q > 0
 ·rw [if_pos gq]
  rw [reverseSlice'_eq]
  refine wpS_bind (wpS_modify ?_)
  exact fin hB2.mir (fr2.mir hB2 (by omega) (by omega)) (dx.mir tx (by omega) (Nat.le_refl _) (by rw [hB2.size];omega))
 ·rw [if_neg gq]
  exact fin hB2 fr2 dx
theorem a7T (C:Cmp prog w A E s κ less S) (sa:SA less S a₀) {st:SortSt} {lo nrem:Nat} {Q:Option Nat→SortSt→Prop} (hB:SB κ a₀ st) (h1:1≤nrem) (hz:lo+nrem≤a₀.size)
  (h:∀ m st',SB κ a₀ st'→a3W a₀ lo st st'→1≤m→m≤nrem→Srt less (arrOf st') lo (lo+m)→Q (some m) st'):wpS (model prog w) A E s (countRun' lo nrem) Q st:=by
 have so:=sa.so
 have sz:=hB.size
 rw [countRun'_eq]
 dsimp only
 refine wpS_bind (wpS_mono (wpS_forRange (I:=fun x c st'=>st'=st∧c=(none,x)∧Srt less (arrOf st) lo (lo+x))
  (Q:=fun c st'=>st'=st∧∃ n1,c=(none,n1)∧1≤n1∧n1≤nrem∧Srt less (arrOf st) lo (lo+n1)∧(n1 < nrem→less (el (arrOf st) (lo+n1)) (el (arrOf st) (lo+n1 - 1))=true)) ?_ ?_ ⟨rfl,rfl,fun i j q1 q2 q3=>by omega⟩) ?_)
 ·rintro x c st' hx1 hx2 ⟨est,rfl,sx⟩
  subst est
  dsimp only
  refine wpS_bind (a2w C sa hB (by omega) (by omega) ?_)
  dsimp only
  cases e:less (el (arrOf st') (lo+x)) (el (arrOf st') (lo+x - 1)) with
  | true =>
   rw [if_pos rfl]
   exact wpS_pure ⟨rfl,x,rfl,by omega,by omega,sx,fun _=>e⟩
  | false =>
   rw [if_neg (by decide)]
   have e2:=e
   refine wpS_pure ⟨rfl,rfl,fun i j q1 q2 q3=>?_⟩
   by_cases z:j=lo+x
   ·rw [z] at q2 ⊢
    by_cases z2:i=lo+x - 1
    ·rw [z2];exact e2
    ·exact so.tr _ _ _ (sx i (lo+x - 1) q1 (by omega) (by omega)) e2
   ·exact sx i j q1 q2 (by omega)
 ·rintro c st' ⟨est,rfl,sx⟩
  refine ⟨est,max 1 nrem,rfl,Nat.le_max_left _ _,Nat.max_le.mpr ⟨by omega,Nat.le_refl _⟩,?_,fun q=>absurd q (by omega)⟩
  exact sx
 rintro c st' ⟨est,n,rfl,n1,n2,sn,brk⟩
 have est:=est.symm
 subst est
 dsimp only
 by_cases g1:(n == nrem)=true
 ·rw [if_pos g1]
  exact wpS_pure (h n st hB (a3W.refl _ _) n1 n2 sn)
 rw [if_neg g1]
 have g1:¬ n=nrem:=by simpa using g1
 have b0:=brk (by omega)
 by_cases g2:n > 1
 ·rw [if_pos g2]
  refine wpS_bind (a2w C sa hB (by omega) (by omega) ?_)
  dsimp only
  cases e:less (el (arrOf st) lo) (el (arrOf st) (lo+n - 1)) with
  | true =>
   rw [if_pos rfl]
   exact wpS_pure (h n st hB (a3W.refl _ _) n1 n2 sn)
  | false =>
   rw [if_neg (by decide)]
   have tie:Tie less (arrOf st) lo (lo+n):=fun i j q1 q2 q3 q4=>by
    have a1:Lt less (el (arrOf st) i) (el (arrOf st) (lo+n - 1)):=by
     by_cases z:i=lo+n - 1
     ·rw [z]
      cases e9:less (el (arrOf st) (lo+n - 1)) (el (arrOf st) (lo+n - 1)) with
      | false=>exact e9
      | true=>exact absurd (so.asym _ _ e9) (by rw [e9];decide)
     ·exact sn _ _ q1 (by omega) (by omega)
    have a2:Lt less (el (arrOf st) lo) (el (arrOf st) j):=by
     by_cases z:j=lo
     ·rw [z]
      cases e9:less (el (arrOf st) lo) (el (arrOf st) lo) with
      | false=>exact e9
      | true=>exact absurd (so.asym _ _ e9) (by rw [e9];decide)
     ·exact sn _ _ (Nat.le_refl _) (by omega) q4
    exact so.tr _ _ _ a1 (so.tr _ (el (arrOf st) lo) _ e a2)
   have d0:Fal less (arrOf st) lo (lo+n+1):=fun i j q1 q2 q3=>by
    by_cases z:j=lo+n
    ·rw [z]
     exact so.tr _ _ _ (so.asym _ _ b0) (tie _ _ (by omega) (by omega) q1 (by omega))
    ·exact tie _ _ (by omega) (by omega) q1 (by omega)
   rw [reverseSlice'_eq]
   refine wpS_bind (wpS_modify ?_)
   exact a5W C sa hB.mir ((a3W.refl lo st).mir hB (Nat.le_refl _) (by omega)) n1 (by omega) hz (d0.mir tie (Nat.le_refl _) (by omega) (by omega)) h
 rw [if_neg g2]
 have en:n=1:=by omega
 subst en
 refine a5W C sa hB (a3W.refl lo st) (Nat.le_refl _) (by omega) hz (fun i j q1 q2 q3=>?_) h
 have:i=lo:=by omega
 have:j=lo+1:=by omega
 subst i j
 exact so.asym _ _ b0
theorem a6L (C:Cmp prog w A E s κ less S) (sa:SA less S a₀) {st:SortSt} {lo n ok:Nat} {Q:Bool→SortSt→Prop} (hB:SB κ a₀ st) (hok:ok≤n) (hz:lo+n≤a₀.size) (hs:Srt less (arrOf st) lo (lo+ok))
  (h:∀ st',SB κ a₀ st'→a3W a₀ lo st st'→Srt less (arrOf st') lo (lo+n)→Q true st'):wpS (model prog w) A E s (binarySort' lo n ok) Q st:=by
 have so:=sa.so
 rw [binarySort'_eq]
 refine wpS_bind (wpS_mono (wpS_forRange (I:=fun k c st'=>c=(none,())∧SB κ a₀ st'∧a3W a₀ lo st st'∧Srt less (arrOf st') lo (lo+min k n))
  (Q:=fun c st'=>c=(none,())∧SB κ a₀ st'∧a3W a₀ lo st st'∧Srt less (arrOf st') lo (lo+n)) ?step ?fin ?init) ?post)
 case post =>
  rintro c st' ⟨rfl,hB',fr,hs'⟩
  exact wpS_pure (h st' hB' fr hs')
 case init =>
  refine ⟨rfl,hB,a3W.refl _ _,fun i j h1 h2 h3=>?_⟩
  exact hs i j h1 h2 (by omega)
 case fin =>
  rintro c st' ⟨hc,hB',fr,hs'⟩
  refine ⟨hc,hB',fr,?_⟩
  rwa [show min (max (max ok 1) n) n=n by omega] at hs'
 case step =>
  rintro k c st' hak hkn ⟨rfl,hB',fr,hs'⟩
  rw [show min k n=k by omega] at hs'
  have hk:lo+k < a₀.size:=by omega
  have sz:=hB'.size
  refine wpS_bind (wpS_mono (wpS_forRange (I:=fun x c st''=>st''=st'∧∃ l r,c=(none,l,r)∧l≤r∧r≤k∧r - l≤k - x ∧
    (∀ i,i < l→Lt less (el (arrOf st') (lo+i)) (el (arrOf st') (lo+k)))∧(∀ i,r≤i→i < k→Lt less (el (arrOf st') (lo+k)) (el (arrOf st') (lo+i))))
   (Q:=fun c st''=>st''=st'∧∃ l r,c=(none,l,r)∧l≤k ∧
    (∀ i,i < l→Lt less (el (arrOf st') (lo+i)) (el (arrOf st') (lo+k)))∧(∀ i,l≤i→i < k→Lt less (el (arrOf st') (lo+k)) (el (arrOf st') (lo+i)))) ?istep ?ifin ?iinit) ?ipost)
  case iinit=>exact ⟨rfl,0,k,rfl,by omega,by omega,by omega,fun i hi=>by omega,fun i h1 h2=>by omega⟩
  case ifin =>
   rintro c st'' ⟨rfl,l,r,rfl,hlr,hrk,hm,hlo,hhi⟩
   have:l=r:=by omega
   subst this
   exact ⟨rfl,l,l,rfl,hrk,hlo,hhi⟩
  case istep =>
   rintro x c st'' _ hxk ⟨rfl,l,r,rfl,hlr,hrk,hm,hlo,hhi⟩
   dsimp only
   by_cases hge:l ≥ r
   ·rw [if_pos hge]
    have:l=r:=by omega
    subst this
    exact wpS_pure ⟨rfl,l,l,rfl,hrk,hlo,hhi⟩
   ·rw [if_neg hge]
    refine wpS_bind (a2w C sa hB' hk (by omega) ?_)
    dsimp only
    cases e:less (el (arrOf st'') (lo+k)) (el (arrOf st'') (lo+(l+r) / 2)) with
    | true =>
     rw [if_pos rfl]
     refine wpS_pure ⟨rfl,l,(l+r) / 2,rfl,by omega,by omega,by omega,hlo,fun i h1 h2=>?_⟩
     by_cases z:i=(l+r) / 2
     ·rw [z];exact so.asym _ _ e
     ·exact so.tr _ _ _ (so.asym _ _ e) (hs' _ _ (by omega) (by omega) (by omega))
    | false =>
     rw [if_neg (by decide)]
     have e2:=e
     refine wpS_pure ⟨rfl,(l+r) / 2+1,r,rfl,by omega,by omega,by omega,fun i h1=>?_,hhi⟩
     by_cases z:i=(l+r) / 2
     ·rw [z];exact e2
     ·exact so.tr _ _ _ (hs' (lo+i) (lo+(l+r) / 2) (by omega) (by omega) (by omega)) e2
  case ipost =>
   rintro c st'' ⟨rfl,l,r,rfl,hlk,hlo,hhi⟩
   show wpS _ _ _ _ (do moveDown' (lo+k) (lo+l);pure (ForInStep.yield (none,()))) _ _
   rw [moveDown'_eq]
   have B:∀ x,el (bubble (arrOf st'') (lo+k) (lo+k - (lo+l))) x=if x=lo+l then el (arrOf st'') (lo+k) else if lo+l < x∧x≤lo+k then el (arrOf st'') (x - 1) else el (arrOf st'') x:=fun x=>by
    rw [a7S (by rw [sz];exact hk) (by omega),show lo+k - (lo+k - (lo+l))=lo+l by omega]
   refine wpS_bind (wpS_modify (wpS_pure ⟨rfl,hB'.setArr (bubble_perm _ _ _),⟨fun j hj=>?_,fr.p⟩,?_⟩))
   ·show el (bubble (arrOf st'') (lo+k) (lo+k - (lo+l))) j=_
    rw [B,if_neg (by omega),if_neg (by omega)]
    exact fr.lo j hj
   rw [show min (k+1) n=k+1 by omega]
   intro i j h1 h2 h3
   show Lt less (el (bubble (arrOf st'') (lo+k) (lo+k - (lo+l))) i) (el (bubble (arrOf st'') (lo+k) (lo+k - (lo+l))) j)
   rw [B,B]
   have hl2:∀ x,lo≤x→x < lo+l→Lt less (el (arrOf st'') x) (el (arrOf st'') (lo+k)):=fun x q1 q2=>by
    have q:=hlo (x - lo) (by omega)
    rw [show lo+(x - lo)=x by omega] at q
    exact q
   have hh2:∀ x,lo+l≤x→x < lo+k→Lt less (el (arrOf st'') (lo+k)) (el (arrOf st'') x):=fun x q1 q2=>by
    have q:=hhi (x - lo) (by omega) (by omega)
    rw [show lo+(x - lo)=x by omega] at q
    exact q
   repeat' split
   all_goals first
    | (exfalso;omega)
    | exact hl2 _ (by omega) (by omega)
    | exact hh2 _ (by omega) (by omega)
    | exact hs' _ _ (by omega) (by omega) (by omega)
end
def a1f (less:Keyed→Keyed→Bool) (arr:Array Keyed):List (Nat × Nat × Nat)→Nat→Nat→Prop
 | [],b,e=>b=e
 | q :: r,b,e=>q.1=b∧1≤q.2.1∧Srt less arr b (b+q.2.1)∧a1f less arr r (b+q.2.1) e
variable {less:Keyed→Keyed→Bool} {arr arr':Array Keyed}
theorem a1f.le:∀ {p:List (Nat × Nat × Nat)} {b e:Nat},a1f less arr p b e→b+p.length≤e
 | [],b,e,h=>by cases h;simp
 | q :: r,b,e,h=>by
  have:=a1f.le h.2.2.2
  have:=h.2.1
  rw [List.length_cons]
  omega
theorem a1f.congr:∀ {p:List (Nat × Nat × Nat)} {b e:Nat},(∀ j,b≤j→j < e→el arr' j=el arr j)→a1f less arr p b e→a1f less arr' p b e
 | [],b,e,_,h=>h
 | q :: r,b,e,hc,h=>by
  have l:=a1f.le h.2.2.2
  refine ⟨h.1,h.2.1,fun i j h1 h2 h3=>?_,a1f.congr (fun j h1 h2=>hc j (by omega) h2) h.2.2.2⟩
  rw [hc i h1 (by omega),hc j (by omega) (by omega)]
  exact h.2.2.1 i j h1 h2 h3
theorem a1f.app:∀ {p q:List (Nat × Nat × Nat)} {b e:Nat},a1f less arr (p++q) b e↔∃ m,a1f less arr p b m∧a1f less arr q m e
 | [],q,b,e=>⟨fun h=>⟨b,rfl,h⟩,fun ⟨m,h1,h2⟩=>by cases h1;exact h2⟩
 | x :: p,q,b,e=>by
  constructor
  ·rintro ⟨h1,h2,h3,h4⟩
   obtain ⟨m,g1,g2⟩:=a1f.app.mp h4
   exact ⟨m,⟨h1,h2,h3,g1⟩,g2⟩
  ·rintro ⟨m,⟨h1,h2,h3,h4⟩,g2⟩
   exact ⟨h1,h2,h3,a1f.app.mpr ⟨m,h4,g2⟩⟩
theorem a1f.at2 {p:List (Nat × Nat × Nat)} {b e i:Nat} (h:a1f less arr p b e) (hi:i+1 < p.length):∃ pre post sa na pw nb pw2,p=pre++(sa,na,pw) :: (sa+na,nb,pw2) :: post∧pre.length=i∧1≤na∧1≤nb∧Srt less arr sa (sa+na)∧Srt less arr (sa+na) (sa+na+nb)∧a1f less arr pre b sa∧a1f less arr post (sa+na+nb) e:=by
 have e1:p=p.take i++p.drop i:=(List.take_append_drop i p).symm
 have hd:p.drop i=p[i] :: p[i+1] :: p.drop (i+2):=by
  rw [List.drop_eq_getElem_cons (by omega),List.drop_eq_getElem_cons hi]
 rw [e1,hd] at h
 obtain ⟨m,h1,h2⟩:=a1f.app.mp h
 obtain ⟨a1,a2,a3,b1,b2,b3,b4⟩:=h2
 generalize p[i]=x at *
 generalize p[i+1]=y at *
 obtain ⟨x1,x2,x3⟩:=x
 obtain ⟨y1,y2,y3⟩:=y
 subst a1 b1
 refine ⟨p.take i,p.drop (i+2),x1,x2,x3,y2,y3,?_,by rw [List.length_take];omega,a2,b2,a3,b3,h1,b4⟩
 rw [←hd]
 exact e1
theorem a1f.same:∀ {p p':List (Nat × Nat × Nat)} {b e:Nat},p.map (fun q=>(q.1,q.2.1))=p'.map (fun q=>(q.1,q.2.1))→(a1f less arr p b e↔a1f less arr p' b e)
 | [],[],b,e,_=>Iff.rfl
 | [],_ :: _,b,e,h=>by cases h
 | _ :: _,[],b,e,h=>by cases h
 | q :: r,q' :: r',b,e,h=>by
  rw [List.map_cons,List.map_cons] at h
  obtain ⟨h1,h2⟩:=List.cons.inj h
  have e1:q.1=q'.1:=(Prod.mk.inj h1).1
  have e2:q.2.1=q'.2.1:=(Prod.mk.inj h1).2
  show (q.1=b∧1≤q.2.1∧Srt less arr b (b+q.2.1)∧a1f less arr r (b+q.2.1) e)↔(q'.1=b∧1≤q'.2.1∧Srt less arr b (b+q'.2.1)∧a1f less arr r' (b+q'.2.1) e)
  rw [e1,e2,a1f.same h2]
theorem lt_ite {c:Prop} [Decidable c] {a b n:Nat} (h1:a+1 < n) (h2:b+1 < n):(if c then a else b)+1 < n:=by split <;> assumption
theorem a2x {α β:Type} (g:α→β) (f:α→α) (h:∀ x,g (f x)=g x):∀ (l:List α) (i:Nat),(l.modify i f).map g=l.map g
 | [],i=>by simp
 | x :: l,0=>by simp [h]
 | x :: l,i+1=>by simp [a2x g f h l i]
section
variable {prog:Program} {w:World} {A:Around} {E:Value→Shared→Prop} {s:Shared} {κ:SortKind} {S:Keyed→Prop} {a₀:Array Keyed}
theorem a2y (C:Cmp prog w A E s κ less S) (sa':SA less S a₀) {st:SortSt} {i e:Nat} {Q:Bool→SortSt→Prop} (hB:SB κ a₀ st) (hR:a1f less (arrOf st) (pendingOf st).toList 0 e) (he:e≤a₀.size) (hi:i+1 < (pendingOf st).size)
  (h:∀ st',SB κ a₀ st'→(pendingOf st').size+1=(pendingOf st).size→a1f less (arrOf st') (pendingOf st').toList 0 e→(∀ j,e≤j→j < a₀.size→el (arrOf st') j=el (arrOf st) j)→Q true st') :
  wpS (model prog w) A E s (mergeAt' i) Q st:=by
 obtain ⟨pre,post,sa,na,pw,nb,pw2,ep,lp,n1,n2,s1,s2,r1,r2⟩:=hR.at2 (i:=i) (by rw [Array.length_toList];exact hi)
 have l2:=r2.le
 have g1:(pendingOf st)[i]?=some (sa,na,pw):=by
  rw [←Array.getElem?_toList,ep,List.getElem?_append_right (by omega),lp,Nat.sub_self]
  rfl
 have g2:(pendingOf st)[i+1]?=some (sa+na,nb,pw2):=by
  rw [←Array.getElem?_toList,ep,List.getElem?_append_right (by omega),lp,show i+1 - i=1 by omega]
  rfl
 refine a5r C sa' hB g1 g2 n1 n2 (by omega) s1 s2 fun st' hB' hp' hk hs=>?_
 have el1:(pendingOf st').toList=pre++(sa,na+nb,pw) :: post:=by
  rw [hp',Array.toList_eraseIdxIfInBounds,Array.toList_setIfInBounds,ep]
  rw [List.set_append_right _ _ (by omega),lp,Nat.sub_self,List.set_cons_zero,List.eraseIdx_append_of_length_le (by omega),lp,show i+1 - i=1 by omega]
  rfl
 have lr:=r1.le
 refine h st' hB' ?_ ?_ (fun j h1 h2=>hk j (by omega) h2)
 ·rw [←Array.length_toList,←Array.length_toList,el1,ep]
  simp
  omega
 ·rw [el1]
  refine a1f.app.mpr ⟨sa,a1f.congr (fun j q1 q2=>hk j (by omega) (by omega)) r1,rfl,by show 1≤na+nb;omega,?_,?_⟩
  ·show Srt less (arrOf st') sa (sa+(na+nb))
   rw [←Nat.add_assoc]
   exact hs
  ·show a1f less (arrOf st') post (sa+(na+nb)) e
   rw [←Nat.add_assoc]
   exact a1f.congr (fun j q1 q2=>hk j (by omega) (by omega)) r2
theorem a5X (C:Cmp prog w A E s κ less S) (sa':SA less S a₀) {st:SortSt} {Q:Unit→SortSt→Prop} (hB:SB κ a₀ st) (hp:pendingOf st=#[])
  (h:∀ st',SB κ a₀ st'→Srt less (arrOf st') 0 a₀.size→Q () st'):wpS (model prog w) A E s sortRuns' Q st:=by
 rw [sortRuns'_eq]
 refine wpS_bind (wpS_get ?_)
 dsimp only
 rw [hB.size]
 generalize minRun' a₀.size a₀.size 0=minrun
 refine wpS_bind (wpS_mono (wpS_forRange (I:=fun x c st'=>∃ lo,c=(none,lo)∧SB κ a₀ st'∧lo≤a₀.size∧x≤lo∧a1f less (arrOf st') (pendingOf st').toList 0 lo)
  (Q:=fun c st'=>c=(none,a₀.size)∧SB κ a₀ st'∧a1f less (arrOf st') (pendingOf st').toList 0 a₀.size) ?step ?fin ⟨0,rfl,hB,Nat.zero_le _,Nat.zero_le _,by rw [hp];rfl⟩) ?post)
 case fin =>
  rintro c st' ⟨lo,rfl,hB',h1,h2,hR⟩
  have:lo=a₀.size:=by omega
  subst this
  exact ⟨rfl,hB',hR⟩
 case step =>
  rintro x c st1 _ hx ⟨lo,rfl,hB1,h1,h2,hR1⟩
  dsimp only
  by_cases g:lo ≥ a₀.size
  ·rw [if_pos g]
   have:lo=a₀.size:=by omega
   subst this
   exact wpS_pure ⟨rfl,hB1,hR1⟩
  rw [if_neg g]
  refine wpS_bind (a7T C sa' hB1 (by omega) (by omega) fun m st2 hB2 fr2 m1 m2 sm=>?_)
  have hR2:a1f less (arrOf st2) (pendingOf st2).toList 0 lo:=by
   rw [fr2.p]
   exact a1f.congr (fun j _ q2=>fr2.lo j q2) hR1
  dsimp only
  by_cases g2:m < minrun
  ·rw [if_pos g2]
   refine wpS_bind (wpS_lift (wpAny_rule ⟨rfl,?_⟩))
   refine wpS_bind (a6L C sa' hB2 (by omega) (by omega) sm fun st3 hBc fr3 hSc=>?_)
   have hRc:a1f less (arrOf st3) (pendingOf st3).toList 0 lo:=by
    rw [fr3.p]
    exact a1f.congr (fun j _ q2=>fr3.lo j q2) hR2
   rw [if_neg (by decide)]
   refine wpS_bind (wpS_get ?_)
   cases hb:(pendingOf st3).back? with
   | none =>
    dsimp only
    refine wpS_bind (wpS_modify (wpS_pure ⟨lo+min (a₀.size - lo) minrun,rfl,⟨hBc.perm,hBc.kind,hBc.failed⟩,by omega,by omega,?_⟩))
    show a1f less (arrOf st3) ((pendingOf st3).push (lo,min (a₀.size - lo) minrun,0)).toList 0 (lo+min (a₀.size - lo) minrun)
    rw [Array.toList_push]
    exact a1f.app.mpr ⟨lo,hRc,rfl,by show 1≤min (a₀.size - lo) minrun;omega,hSc,rfl⟩
   | some q0 =>
    obtain ⟨t1,u1,pw0⟩:=q0
    dsimp only
    refine wpS_bind (wpS_mono (wpS_forRange (I:=fun y c st'=>c=(none,())∧SB κ a₀ st'∧a1f less (arrOf st') (pendingOf st').toList 0 lo∧Srt less (arrOf st') lo (lo+min (a₀.size - lo) minrun))
     (Q:=fun c st'=>c=(none,())∧SB κ a₀ st'∧a1f less (arrOf st') (pendingOf st').toList 0 lo∧Srt less (arrOf st') lo (lo+min (a₀.size - lo) minrun)) ?_ (fun c st' hh=>hh) ⟨rfl,hBc,hRc,hSc⟩) ?_)
    ·rintro y c st5 _ hy ⟨rfl,hB5,hR5,hS5⟩
     refine wpS_bind (wpS_get ?_)
     cases hm:(if (pendingOf st5).size > 1 then (pendingOf st5)[(pendingOf st5).size - 2]? else none) with
     | none=>exact wpS_pure ⟨rfl,hB5,hR5,hS5⟩
     | some q5 =>
      obtain ⟨x1,x2,older⟩:=q5
      dsimp only
      have gt1:(pendingOf st5).size > 1:=by
       by_cases z:(pendingOf st5).size > 1
       ·exact z
       ·rw [if_neg z] at hm;cases hm
      split
      ·exact wpS_pure ⟨rfl,hB5,hR5,hS5⟩
      ·refine wpS_bind (a2y C sa' hB5 hR5 (by omega) (by omega) fun st6 hB6 _ hR6 hk6=>?_)
       refine wpS_pure ⟨rfl,hB6,hR6,fun i j h1 h2 h3=>?_⟩
       rw [hk6 i h1 (by omega),hk6 j (by omega) (by omega)]
       exact hS5 i j h1 h2 h3
    ·rintro c st5 ⟨rfl,hB5,hR5,hS5⟩
     dsimp only
     refine wpS_bind (wpS_modify (wpS_bind (wpS_modify (wpS_pure ⟨lo+min (a₀.size - lo) minrun,rfl,⟨hB5.perm,hB5.kind,hB5.failed⟩,by omega,by omega,?_⟩))))
     show a1f less (arrOf st5) ((((pendingOf st5).modify ((pendingOf st5).size - 1) _)).push (lo,min (a₀.size - lo) minrun,0)).toList 0 (lo+min (a₀.size - lo) minrun)
     rw [Array.toList_push]
     refine a1f.app.mpr ⟨lo,?_,rfl,by show 1≤min (a₀.size - lo) minrun;omega,hS5,rfl⟩
     refine (a1f.same ?_).mp hR5
     rw [Array.toList_modify]
     refine (a2x _ _ ?_ _ _).symm
     intro x
     rfl
  ·rw [if_neg g2]
   have hBc:=hB2
   have hRc:=hR2
   have hSc:=sm
   refine wpS_bind (wpS_get ?_)
   cases hb:(pendingOf st2).back? with
   | none =>
    dsimp only
    refine wpS_bind (wpS_modify (wpS_pure ⟨lo+m,rfl,⟨hBc.perm,hBc.kind,hBc.failed⟩,by omega,by omega,?_⟩))
    show a1f less (arrOf st2) ((pendingOf st2).push (lo,m,0)).toList 0 (lo+m)
    rw [Array.toList_push]
    exact a1f.app.mpr ⟨lo,hRc,rfl,by show 1≤m;omega,hSc,rfl⟩
   | some q0 =>
    obtain ⟨t1,u1,pw0⟩:=q0
    dsimp only
    refine wpS_bind (wpS_mono (wpS_forRange (I:=fun y c st'=>c=(none,())∧SB κ a₀ st'∧a1f less (arrOf st') (pendingOf st').toList 0 lo∧Srt less (arrOf st') lo (lo+m))
     (Q:=fun c st'=>c=(none,())∧SB κ a₀ st'∧a1f less (arrOf st') (pendingOf st').toList 0 lo∧Srt less (arrOf st') lo (lo+m)) ?_ (fun c st' hh=>hh) ⟨rfl,hBc,hRc,hSc⟩) ?_)
    ·rintro y c st5 _ hy ⟨rfl,hB5,hR5,hS5⟩
     refine wpS_bind (wpS_get ?_)
     cases hm:(if (pendingOf st5).size > 1 then (pendingOf st5)[(pendingOf st5).size - 2]? else none) with
     | none=>exact wpS_pure ⟨rfl,hB5,hR5,hS5⟩
     | some q5 =>
      obtain ⟨x1,x2,older⟩:=q5
      dsimp only
      have gt1:(pendingOf st5).size > 1:=by
       by_cases z:(pendingOf st5).size > 1
       ·exact z
       ·rw [if_neg z] at hm;cases hm
      split
      ·exact wpS_pure ⟨rfl,hB5,hR5,hS5⟩
      ·refine wpS_bind (a2y C sa' hB5 hR5 (by omega) (by omega) fun st6 hB6 _ hR6 hk6=>?_)
       refine wpS_pure ⟨rfl,hB6,hR6,fun i j h1 h2 h3=>?_⟩
       rw [hk6 i h1 (by omega),hk6 j (by omega) (by omega)]
       exact hS5 i j h1 h2 h3
    ·rintro c st5 ⟨rfl,hB5,hR5,hS5⟩
     dsimp only
     refine wpS_bind (wpS_modify (wpS_bind (wpS_modify (wpS_pure ⟨lo+m,rfl,⟨hB5.perm,hB5.kind,hB5.failed⟩,by omega,by omega,?_⟩))))
     show a1f less (arrOf st5) ((((pendingOf st5).modify ((pendingOf st5).size - 1) _)).push (lo,m,0)).toList 0 (lo+m)
     rw [Array.toList_push]
     refine a1f.app.mpr ⟨lo,?_,rfl,by show 1≤m;omega,hS5,rfl⟩
     refine (a1f.same ?_).mp hR5
     rw [Array.toList_modify]
     refine (a2x _ _ ?_ _ _).symm
     intro x
     rfl
 case post =>
  rintro c st1 ⟨rfl,hB1,hR1⟩
  dsimp only
  have l1:=hR1.le
  rw [Array.length_toList] at l1
  refine wpS_bind (wpS_mono (wpS_forRange (I:=fun x c st'=>c=(none,())∧SB κ a₀ st'∧a1f less (arrOf st') (pendingOf st').toList 0 a₀.size∧(pendingOf st').size+x≤a₀.size)
   (Q:=fun c st'=>c=(none,())∧SB κ a₀ st'∧a1f less (arrOf st') (pendingOf st').toList 0 a₀.size∧(pendingOf st').size≤1) ?_ ?_ ⟨rfl,hB1,hR1,by omega⟩) ?_)
  ·rintro x c st2 _ hx ⟨rfl,hB2,hR2,l2⟩
   refine wpS_bind (wpS_get ?_)
   by_cases g:(pendingOf st2).size≤1
   ·rw [if_pos g]
    exact wpS_pure ⟨rfl,hB2,hR2,g⟩
   rw [if_neg g]
   refine wpS_bind (a2y C sa' hB2 hR2 (Nat.le_refl _) (lt_ite (by omega) (by omega)) fun st3 hB3 l3 hR3 _=>?_)
   exact wpS_pure ⟨rfl,hB3,hR3,by omega⟩
  ·rintro c st2 ⟨rfl,hB2,hR2,l2⟩
   exact ⟨rfl,hB2,hR2,by omega⟩
  ·rintro c st2 ⟨rfl,hB2,hR2,l2⟩
   refine wpS_pure (h st2 hB2 ?_)
   rw [←Array.length_toList] at l2
   match hq:(pendingOf st2).toList,l2,hR2 with
   | [],_,hR2 =>
    have:(0:Nat)=a₀.size:=hR2
    intro i j q1 q2 q3
    omega
   | [q],_,hR2 =>
    obtain ⟨r1,r2,r3,r4⟩:=hR2
    have r4:0+q.2.1=a₀.size:=r4
    rw [r4] at r3
    exact r3
   | q1 :: q2 :: r,l2,_=>simp at l2
end
theorem a1g:∀ u:List Int,HT.a0S u u=false
 | []=>rfl
 | x :: u=>by rw [HT.a1a,if_pos rfl];exact a1g u
theorem a1W:∀ u v w:List Int,HT.a0S u v=true→HT.a0S v w=true→HT.a0S u w=true
 | [],[],w,h,_=>by cases h
 | [],_ :: _,[],_,h=>by cases h
 | [],_ :: _,_ :: _,_,_=>rfl
 | _ :: _,[],w,h,_=>by cases h
 | _ :: _,_ :: _,[],_,h=>by cases h
 | x :: u,y :: v,z :: w,h1,h2=>by
  rw [HT.a1a] at h1 h2 ⊢
  by_cases e1:x=y
  ·subst e1
   rw [if_pos rfl] at h1
   by_cases e2:x=z
   ·subst e2
    rw [if_pos rfl] at h2 ⊢
    exact a1W u v w h1 h2
   ·rw [if_neg e2] at h2 ⊢;exact h2
  ·rw [if_neg e1] at h1
   have l1:=of_decide_eq_true h1
   by_cases e2:y=z
   ·subst e2
    rw [if_neg e1];exact h1
   ·rw [if_neg e2] at h2
    have l2:=of_decide_eq_true h2
    rw [if_neg (by omega)]
    exact decide_eq_true (by omega)
theorem a1Q:∀ u v:List Int,u≠v→HT.a0S u v=false→HT.a0S v u=true
 | [],[],h,_=>absurd rfl h
 | [],_ :: _,_,h=>by cases h
 | _ :: _,[],_,_=>rfl
 | x :: u,y :: v,h,h1=>by
  rw [HT.a1a] at h1 ⊢
  by_cases e:x=y
  ·subst e
   rw [if_pos rfl] at h1 ⊢
   exact a1Q u v (fun z=>h (by rw [z])) h1
  ·rw [if_neg e] at h1
   rw [if_neg (Ne.symm e)]
   have:=of_decide_eq_false h1
   exact decide_eq_true (by omega)
abbrev Lx (u v:List Int):Prop:=HT.a0S u v=true
theorem a3a:∀ {us vs:List (List Int)},us.Perm vs→us.Pairwise Lx→vs.Pairwise Lx→us=vs
 | [],vs,p,_,_=>(List.nil_perm.mp p).symm
 | u :: us,[],p,_,_=>absurd p.length_eq (by simp)
 | u :: us,v :: vs,p,h1,h2=>by
  rw [List.pairwise_cons] at h1 h2
  have e:u=v:=by
   by_cases z:u=v
   ·exact z
   ·have m1:u∈vs:=by
     have:=p.mem_iff.mp List.mem_cons_self
     rcases List.mem_cons.mp this with y | y
     ·exact absurd y z
     ·exact y
    have m2:v∈us:=by
     have:=p.mem_iff.mpr (List.mem_cons_self (a:=v) (l:=vs))
     rcases List.mem_cons.mp this with y | y
     ·exact absurd y.symm z
     ·exact y
    have a:=a1W _ _ _ (h1.1 v m2) (h2.1 u m1)
    rw [a1g] at a;cases a
  subst e
  rw [a3a (List.perm_cons u |>.mp p) h1.2 h2.2]
def ltK (ks:List (List Int)) (i j:Nat):Bool:=HT.a0S (ks.getD i []) (ks.getD j [])
theorem ordK {ks:List (List Int)} (nd:ks.Nodup):Ord ks.length (ltK ks) where
 tr:=fun i j k=>a1W _ _ _
 tot:=fun i j hi hj ne h=>by
  refine a1Q _ _ (fun z=>ne ?_) h
  rw [List.getD_eq_getElem?_getD,List.getD_eq_getElem?_getD,List.getElem?_eq_getElem hi,List.getElem?_eq_getElem hj] at z
  exact (List.getElem_inj nd).mp z
def b0g (ks:List (List Int)):Prop:=(∀ u r,ks=u :: r→u=[])∨∀ u∈ks,u≠[]
section
variable {prog:Program} {w:World} {A:Around} {E:Value→Shared→Prop} {s:Shared}
theorem a1R {n:Nat} {lt:Nat→Nat→Bool} {p:Array Nat} {α:Type} {f:Nat→α} {R:α→α→Prop} (o:Ord n lt) (pm:Pm n p) (a:Asc lt p n) (hR:∀ i j,lt i j=true→R (f i) (f j)):(p.toList.map f).Pairwise R:=by
 rw [List.pairwise_map,List.pairwise_iff_getElem]
 intro i j hi hj hij
 have sz:=pm.size
 simp only [Array.length_toList] at hi hj
 have z:=a.all o j i hij (by omega)
 have e1:p.getD i 0=p[i]:=by simp [Array.getD,hi]
 have e2:p.getD j 0=p[j]:=by simp [Array.getD,hj]
 rw [e1,e2] at z
 simpa using hR _ _ z
theorem a4I {M:Model} {vs:List Value} {Q:SortKind→Shared→Prop} (h1:1≤vs.length) (t:∀ v∈vs,∃ n ns,a4H s.heap v (n :: ns)) (h:Q (tuples' true) s):wpAny M A (keyKind' vs.toArray) Q E s:=by
 have ft:∀ v∈vs,∃ n tk,fst? s.heap v=some (.int n tk):=fun v hv=>by
  obtain ⟨n,ns,b,items,rfl,⟨o,ho,hc,k,hd⟩,hi⟩:=t v hv
  have e:fst? s.heap (.ref b)=items[0]?:=by unfold fst?;simp only [ho,hd]
  obtain ⟨l⟩:=items
  cases hi with
  | cons _ tk _=>exact ⟨n,tk,e⟩
 rw [kat_kind_eq,List.mapM_toArray,map_eq_pure_bind]
 refine wpAny_bind (wpAny_bind (a5k (g:=fst? s.heap) _ (fun v hv Q' hq=>?_) (wpAny_pure ?_)))
 ·obtain ⟨n,ns,tn⟩:=t v hv
  have ty:=tn.i.ty (M:=M)
  obtain ⟨b,items,rfl,⟨o,ho,hc,k,hd⟩,_⟩:=tn
  rw [kas_first_eq]
  refine wpAny_bind (ty.here ?_)
  rw [if_neg (by simp)]
  refine wpAny_bind (listItems_at ho hd (wpAny_pure ?_))
  have e:fst? s.heap (.ref b)=items[0]?:=by unfold fst?;simp only [ho,hd]
  rw [←e]
  exact hq
 ·have na:((List.map (fst? s.heap) vs).toArray.all fun x=>x.isSome)=true:=by
   simp only [List.all_toArray,List.all_map,List.all_eq_true]
   intro v hv
   obtain ⟨n,tk,e⟩:=ft v hv
   simp [e]
  rw [if_pos na]
  refine wpAny_bind (wpAny_rule ?_)
  rw [oneTypeOnly'_eq]
  have fm:Array.filterMap id (List.map (fst? s.heap) vs).toArray=(List.filterMap id (List.map (fst? s.heap) vs)).toArray:=by simp
  rw [fm,List.mapM_toArray,map_eq_pure_bind]
  have int_s:∀ v∈List.filterMap id (List.map (fst? s.heap) vs),∃ n tk,v=.int n tk:=fun v hv=>by
   obtain ⟨x,hx,e⟩:=List.mem_filterMap.mp hv
   obtain ⟨y,hy,rfl⟩:=List.mem_map.mp hx
   obtain ⟨n,tk,e2⟩:=ft y hy
   exact ⟨n,tk,by simp only [id] at e;rw [e2] at e;exact (Option.some.inj e).symm⟩
  have ne:1≤(List.filterMap id (List.map (fst? s.heap) vs)).length:=by
   cases vs with
   | nil=>simp at h1
   | cons v vr =>
    obtain ⟨n,tk,e⟩:=ft v List.mem_cons_self
    simp [e]
  refine wpAny_bind (wpAny_bind (wpAny_bind (kas_mapM (r:=Value.type "int") _ (fun v hv Q' hq=>?_) (wpAny_pure ?_))))
  ·obtain ⟨n,tk,rfl⟩:=int_s v hv
   exact wpAny_of_eq (a:=Value.type "int") rfl hq
  ·generalize List.filterMap id (List.map (fst? s.heap) vs)=fs at ne
   have e0:(List.map (fun _=>Value.type "int") fs).toArray[0]?=some (Value.type "int"):=by
    cases fs with
    | nil=>simp at ne
    | cons f fr=>simp
   have hall:((List.map (fun _=>Value.type "int") fs).toArray.all fun x=>x == Value.type "int")=true:=by simp
   rw [e0]
   simp only [hall,if_true]
   refine wpAny_pure (wpAny_pure ?_)
   exact h
end
theorem Paired.pick {α β:Type} {R:α→β→Prop} {xs:List α} {ys:List β} (h:Paired R xs ys) (d:α) (e:β):∀ is:List Nat,(∀ i∈is,i < xs.length)→Paired R (is.map fun i=>xs.getD i d) (is.map fun i=>ys.getD i e)
 | [],_=>.nil
 | i :: is,hi=>by
  have h1:=hi i (.head _)
  have hx:xs[i]?=some xs[i]:=List.getElem?_eq_getElem h1
  obtain ⟨y,hy,r⟩:=Paired.right_of h i _ hx
  have e1:xs.getD i d=xs[i]:=by rw [List.getD_eq_getElem?_getD,hx];rfl
  have e2:ys.getD i e=y:=by rw [List.getD_eq_getElem?_getD,hy];rfl
  refine .cons ?_ (Paired.pick h d e is fun j hj=>hi j (.tail _ hj))
  show R (xs.getD i d) (ys.getD i e)
  rw [e1,e2];exact r
theorem Pm.mem {n:Nat} {p:Array Nat} (h:Pm n p):∀ i∈p.toList,i < n:=fun i hi=>by
 have q:p.toList.Perm (List.range n):=by
  have:=Array.perm_iff_toList_perm.mp h
  simpa using this
 simpa using q.mem_iff.mp hi
theorem a3b {α:Type} {n:Nat} {p:Array Nat} {xs:List α} (d:α) (h:Pm n p) (hn:xs.length=n):(p.toList.map fun i=>xs.getD i d).Perm xs:=by
 have e:(List.range n).map (fun i=>xs.getD i d)=xs:=by
  subst hn
  refine List.ext_getElem (by simp) fun i h1 h2=>?_
  simp [List.getD_eq_getElem?_getD,List.getElem?_eq_getElem h2]
 have q:p.toList.Perm (List.range n):=by
  have:=Array.perm_iff_toList_perm.mp h
  simpa using this
 have q2:=q.map fun i=>xs.getD i d
 rw [e] at q2
 exact q2
theorem a3c {ns:List Int} {us:List Value} (r:a0J (ns.map V.int) us):IntsAre us ns:=by
 induction ns generalizing us with
 | nil=>cases r;exact .nil
 | cons n ns ih =>
  cases r with
  | cons r rr =>
   obtain ⟨t,rfl⟩:=r
   exact .cons _ _ (ih rr)
end L2
namespace L2
open PySem PySem.Spec PyProof.Rows PySem.W
open Classical in
noncomputable def ixv (vs:List Value) (v:Value):Nat:=if h:∃ i,vs[i]?=some v then Classical.choose h else 0
theorem a7U {vs:List Value} (nd:vs.Nodup) {v:Value} {i:Nat} (h:vs[i]?=some v):ixv vs v=i:=by
 have ex:∃ i,vs[i]?=some v:=⟨i,h⟩
 unfold ixv
 rw [dif_pos ex]
 have e:=Classical.choose_spec ex
 exact (List.getElem?_inj ((List.getElem?_eq_some_iff.mp e).1) nd).mp (e.trans h.symm)
theorem a3X {vs:List Value} (nd:vs.Nodup) {v:Value} (h:v∈vs):vs[ixv vs v]?=some v:=by
 obtain ⟨i,hi⟩:=List.getElem?_of_mem h
 rw [a7U nd hi]
 exact hi
theorem a7V {vs:List Value} (nd:vs.Nodup):vs.map (ixv vs)=List.range vs.length:=by
 refine List.ext_getElem? fun i=>?_
 rw [List.getElem?_map]
 by_cases hi:i < vs.length
 ·rw [List.getElem?_eq_getElem hi,List.getElem?_range hi]
  show some (ixv vs vs[i])=some i
  rw [a7U nd (List.getElem?_eq_getElem hi)]
 ·rw [List.getElem?_eq_none (by omega),List.getElem?_eq_none (by simp;omega)]
  rfl
structure WOrd (n:Nat) (lt:Nat→Nat→Bool):Prop where
 asym:∀ i j,i < n→j < n→lt i j=true→lt j i=false
 ntr:∀ i j k,i < n→j < n→k < n→lt j i=false→lt k j=false→lt k i=false
def ltA (n:Nat) (lt:Nat→Nat→Bool) (i j:Nat):Bool:=if i < n then (if j < n then lt i j else true) else false
theorem b0h {n:Nat} {lt:Nat→Nat→Bool} {i j:Nat} (hi:i < n) (hj:j < n):ltA n lt i j=lt i j:=by unfold ltA;rw [if_pos hi,if_pos hj]
theorem WOrd.all {n:Nat} {lt:Nat→Nat→Bool} (o:WOrd n lt):(∀ i j,ltA n lt i j=true→ltA n lt j i=false)∧∀ i j k,ltA n lt j i=false→ltA n lt k j=false→ltA n lt k i=false:=by
 refine ⟨fun i j h=>?_,fun i j k h1 h2=>?_⟩
 ·unfold ltA at h ⊢
  by_cases hi:i < n
  ·by_cases hj:j < n
   ·rw [if_pos hi,if_pos hj] at h
    rw [if_pos hi,if_pos hj]
    exact o.asym i j hi hj h
   ·rw [if_neg hj]
  ·rw [if_neg hi] at h;cases h
 ·unfold ltA at h1 h2 ⊢
  by_cases hk:k < n
  ·rw [if_pos hk] at h2 ⊢
   by_cases hj:j < n
   ·rw [if_pos hj] at h1 h2
    by_cases hi:i < n
    ·rw [if_pos hi] at h1 ⊢
     exact o.ntr i j k hi hj hk h1 h2
    ·rw [if_neg hi] at h1;cases h1
   ·rw [if_neg hj] at h2;cases h2
  ·rw [if_neg hk]
theorem Ord.weak {n:Nat} {lt:Nat→Nat→Bool} (o:Ord n lt) (irr:∀ i,lt i i=false):WOrd n lt where
 asym:=fun i j _ _ h=>by
  cases e:lt j i with
  | false=>rfl
  | true=>have z:=o.tr _ _ _ h e;rw [irr] at z;cases z
 ntr:=fun i j k hi hj hk h1 h2=>by
  by_cases z1:i=j
  ·rw [z1];exact h2
  ·by_cases z2:j=k
   ·rw [←z2];exact h1
   ·have a:=o.tr _ _ _ (o.tot j i hj hi (Ne.symm z1) h1) (o.tot k j hk hj (Ne.symm z2) h2)
    cases e:lt k i with
    | false=>rfl
    | true=>have z:=o.tr _ _ _ a e;rw [irr] at z;cases z
def WAsc (lt:Nat→Nat→Bool) (p:Array Nat) (m:Nat):Prop:=∀ i j,i < j→j < m→lt (p.getD j 0) (p.getD i 0)=false
section
variable {prog:Program} {w:World} {A:Around} {E:Value→Shared→Prop} {s:Shared}
theorem a9n {a:Addr} {vs:List Value} {n:Nat} {P:PySem.Fin→Shared→Prop} {κ:SortKind} {lt:Nat→Nat→Bool} (o:WOrd vs.length lt) (nd:vs.Nodup) (ho:s.heap.get? a=some (seqObj "list" vs.toArray n)) (hz:vs.length≤100000)
  (hk:2≤vs.length→∀ h1:Heap,(∀ b o,b≠a→s.heap.get? b=some o→h1.get? b=some o)→∀ Q:SortKind→Shared→Prop,Q κ { s with heap:=h1 }→wpAny (model prog w) A (keyKind' vs.toArray) Q E { s with heap:=h1 })
  (hlt:∀ h1:Heap,(∀ b o,b≠a→s.heap.get? b=some o→h1.get? b=some o)→∀ i j,i < vs.length→j < vs.length→∀ (C:Bool→Shared→Prop) (E':Value→Shared→Prop),C (lt i j) { s with heap:=h1 }→wpAny (model prog w) A (keyLt' κ (vs.getD i Value.none) (vs.getD j Value.none)) C E' { s with heap:=h1 })
  (h:∀ (h':Heap) (p:Array Nat) (c:Nat),Pm vs.length p→WAsc lt p vs.length→h'.get? a=some (seqObj "list" (p.toList.map fun i=>vs.getD i Value.none).toArray c)→(∀ b o,b≠a→s.heap.get? b=some o→h'.get? b=some o)→P (.done (.ret .none)) { s with heap:=h' }) :
  wpAny (model prog w) A (Builtin.«list.sort» ⟨[.ref a],[]⟩) P E s:=by
 have ha:a < s.heap.objs.size:=Heap.lt_size ho
 obtain ⟨e1,ho1⟩:∃ e1,(s.heap.update a (Obj.mapSeq fun _=>(#[]:Array Value))).get? a=some (seqObj "list" #[] e1):=⟨_,get?_update_seq ho fun _=>#[]⟩
 rw [list_sort_plain]
 refine wpAny_bind (listItems_at ho rfl (wpAny_bind (listUpdate_at ho rfl ?_ (by rw [List.size_toArray,sizeLine_eq];omega) (Nat.zero_le _))))
 refine wpAny_bind (seqEpoch_at ho1 rfl (wpAny_bind (wpAny_newTuple ?_ (by show vs.length≤_;rw [sizeLine_eq];omega))))
 refine wpAny_bind (wpAny_newList ?_ (Nat.zero_le _))
 refine wpAny_holding ?_
 have k1:∀ b o,b≠a→s.heap.get? b=some o→(((s.heap.update a (Obj.mapSeq fun _=>(#[]:Array Value))).push (seqObj "tuple" vs.toArray 0)).push (seqObj "list" #[] 0)).get? b=some o:=fun b o hb e =>
  Heap.get?_push_of_some _ (Heap.get?_push_of_some _ ((Heap.get?_update_ne _ _ _ _ hb).trans e))
 have ho6:(((s.heap.update a (Obj.mapSeq fun _=>(#[]:Array Value))).push (seqObj "tuple" vs.toArray 0)).push (seqObj "list" #[] 0)).get? a=some (seqObj "list" #[] e1):=Heap.get?_push_of_some _ (Heap.get?_push_of_some _ ho1)
 show wpAny (model prog w) A _ P E { s with heap:=((s.heap.update a (Obj.mapSeq fun _=>(#[]:Array Value))).push (seqObj "tuple" vs.toArray 0)).push (seqObj "list" #[] 0) }
 generalize (((s.heap.update a (Obj.mapSeq fun _=>(#[]:Array Value))).push (seqObj "tuple" vs.toArray 0)).push (seqObj "list" #[] 0))=h1 at k1 ho6 ⊢
 dsimp only
 have last:∀ (out:List Value),∃ c,(h1.update a (Obj.mapSeq fun _=>out.toArray)).get? a=some (seqObj "list" out.toArray c)∧(∀ b o,b≠a→s.heap.get? b=some o→(h1.update a (Obj.mapSeq fun _=>out.toArray)).get? b=some o):=fun out =>
  ⟨_,get?_update_seq ho6 fun _=>out.toArray,fun b o hb e=>(Heap.get?_update_ne _ _ _ _ hb).trans (k1 b o hb e)⟩
 by_cases h2:vs.toArray.size < 2
 ·rw [if_pos h2,if_pos h2]
  refine wpAny_bind (wpAny_pure ?_)
  rw [StateT.run_pure]
  refine wpAny_bind (wpAny_pure ?_)
  dsimp only
  refine wpAny_bind (seqEpoch_at ho6 rfl ?_)
  have e2:Array.map (fun x=>x.snd) (arrOf (SortSt.mk' general' (vs.toArray.zip vs.toArray) #[] 7 none))=vs.toArray:=by
   show Array.map (fun x=>x.snd) (vs.toArray.zip vs.toArray)=vs.toArray
   apply Array.toList_inj.mp
   simp [List.map_snd_zip]
  rw [e2]
  rw [List.size_toArray] at h2
  have er:((List.range vs.length).toArray.toList.map fun i=>vs.getD i Value.none)=vs:=by
   refine List.ext_getElem (by simp) fun i h1 h2=>?_
   simp [List.getD_eq_getElem?_getD,List.getElem?_eq_getElem h2]
  obtain ⟨c,hc,kk⟩:=last vs
  refine wpAny_bind (listUpdate_at ho6 rfl ?_ (Nat.zero_le _) (by rw [List.size_toArray,sizeLine_eq];omega))
  simp only [bne_self_eq_false,Bool.false_eq_true,if_false]
  exact wpAny_pure (h _ (List.range vs.length).toArray c (Array.Perm.refl _) (fun i j hi hj=>absurd hj (by omega)) (by rw [er];exact hc) kk)
 ·rw [if_neg h2,if_neg h2]
  rw [List.size_toArray] at h2
  refine wpAny_bind (hk (by omega) h1 k1 _ ?_)
  have za:(vs.toArray.zip vs.toArray).toList=vs.map fun v=>(v,v):=by
   rw [Array.toList_zip]
   induction vs with
   | nil=>rfl
   | cons v r ih=>simp [List.zip]
  have zs:(vs.toArray.zip vs.toArray).size=vs.length:=by simp
  have gv:∀ v∈vs,vs.getD (ixv vs v) Value.none=v:=fun v hv=>by rw [List.getD_eq_getElem?_getD,a3X nd hv];rfl
  have lv:∀ v∈vs,ixv vs v < vs.length:=fun v hv=>(List.getElem?_eq_some_iff.mp (a3X nd hv)).1
  have C:Cmp prog w A E { s with heap:=h1 } κ (fun x y=>ltA vs.length lt (ixv vs x.2) (ixv vs y.2)) (fun x=>x.1=x.2∧x.2∈vs):=by
   intro x y st Q hx hy hκ q
   rw [lt'_eq]
   refine wpS_bind (wpS_get ?_)
   rw [hκ]
   have e1:x.1=vs.getD (ixv vs x.2) Value.none:=by rw [gv _ hx.2];exact hx.1
   have e2:y.1=vs.getD (ixv vs y.2) Value.none:=by rw [gv _ hy.2];exact hy.1
   rw [e1,e2]
   refine wpS_bind (wpS_lift (wpAny_attempt (hlt h1 k1 _ _ (lv _ hx.2) (lv _ hy.2) _ _ ⟨rfl,?_⟩)))
   have q:Q (some (ltA vs.length lt (ixv vs x.2) (ixv vs y.2))) st:=q
   rw [b0h (lv _ hx.2) (lv _ hy.2)] at q
   exact wpS_pure q
  have sa:SA (fun x y=>ltA vs.length lt (ixv vs x.2) (ixv vs y.2)) (fun x=>x.1=x.2∧x.2∈vs) (vs.toArray.zip vs.toArray):=by
   refine ⟨⟨fun x y q=>o.all.1 _ _ q,fun x y z q1 q2=>o.all.2 _ _ _ q1 q2⟩,fun x hx=>?_⟩
   ·rw [za] at hx
    obtain ⟨v,hv,rfl⟩:=List.mem_map.mp hx
    exact ⟨rfl,hv⟩
  refine wpAny_bind (wpAny_mono (a5X C sa (st:=SortSt.mk' κ (vs.toArray.zip vs.toArray) #[] 7 none) (Q:=fun _ st'=>SB κ (vs.toArray.zip vs.toArray) st'∧Srt (fun x y=>ltA vs.length lt (ixv vs x.2) (ixv vs y.2)) (arrOf st') 0 (vs.toArray.zip vs.toArray).size) ⟨Array.Perm.refl _,rfl,rfl⟩ rfl fun st' a1 a2=>⟨a1,a2⟩) ?_ fun _ _ e=>e)
  rintro ⟨⟨⟩,st'⟩ s' ⟨rfl,hB,hS⟩
  dsimp only
  rw [zs] at hS
  have pm0:=Array.perm_iff_toList_perm.mp hB.perm
  rw [za] at pm0
  have sz:(arrOf st').size=vs.length:=by rw [hB.size,zs]
  have inv:∀ x∈(arrOf st').toList,x.2∈vs:=fun x hx=>by
   obtain ⟨v,hv,rfl⟩:=List.mem_map.mp (pm0.mem_iff.mp hx)
   exact hv
  have pl:((arrOf st').map fun x=>ixv vs x.2).toList=(arrOf st').toList.map fun x=>ixv vs x.2:=by simp
  have pm:Pm vs.length ((arrOf st').map fun x=>ixv vs x.2):=by
   show Array.Perm _ _
   rw [Array.perm_iff_toList_perm,pl]
   have q:=pm0.map fun x=>ixv vs x.2
   rw [List.map_map] at q
   have e:(vs.map ((fun x:Keyed=>ixv vs x.2) ∘ fun v=>(v,v)))=List.range vs.length:=a7V nd
   rw [e] at q
   exact q
  have pg:∀ i,i < vs.length→((arrOf st').map fun x=>ixv vs x.2).getD i 0=ixv vs (el (arrOf st') i).2:=fun i hi=>by
   rw [a5l]
   have:((arrOf st').map fun x=>ixv vs x.2)[i]?=some (ixv vs (el (arrOf st') i).2):=by
    rw [Array.getElem?_map,a3p (by rw [sz];exact hi)]
    rfl
   rw [this]
   rfl
  have ie:∀ i,i < vs.length→ixv vs (el (arrOf st') i).2 < vs.length:=fun i hi=>lv _ (inv _ (a2o (by rw [sz];exact hi)))
  have as:WAsc lt ((arrOf st').map fun x=>ixv vs x.2) vs.length:=fun i j hi hj=>by
   rw [pg i (by omega),pg j hj,←b0h (n:=vs.length) (lt:=lt) (ie j hj) (ie i (by omega))]
   exact hS i j (Nat.zero_le _) hi hj
  have hout:Array.map (fun x=>x.snd) (arrOf st')=(((arrOf st').map fun x=>ixv vs x.2).toList.map fun i=>vs.getD i Value.none).toArray:=by
   apply Array.toList_inj.mp
   rw [pl,List.map_map]
   show (Array.map (fun x=>x.snd) (arrOf st')).toList=List.map ((fun i=>vs.getD i Value.none) ∘ fun x:Keyed=>ixv vs x.snd) (arrOf st').toList
   rw [Array.toList_map]
   exact List.map_congr_left fun x hx=>(gv _ (inv x hx)).symm
  obtain ⟨c,hc,kk⟩:=last (((arrOf st').map fun x=>ixv vs x.2).toList.map fun i=>vs.getD i Value.none)
  refine wpAny_bind (seqEpoch_at ho6 rfl ?_)
  rw [hout]
  refine wpAny_bind (listUpdate_at ho6 rfl ?_ (Nat.zero_le _) (by rw [List.size_toArray,List.length_map,pl,List.length_map,Array.length_toList,sz,sizeLine_eq];omega))
  rw [hB.failed]
  simp only [bne_self_eq_false,Bool.false_eq_true,if_false]
  exact wpAny_pure (h _ _ c pm as hc kk)
theorem a3Y {a:Addr} {vs:List Value} {n:Nat} {P:PySem.Fin→Shared→Prop} {κ:SortKind} {lt:Nat→Nat→Bool} (o:Ord vs.length lt) (irr:∀ i,lt i i=false) (nd:vs.Nodup) (ho:s.heap.get? a=some (seqObj "list" vs.toArray n)) (hz:vs.length≤100000)
  (hk:2≤vs.length→∀ h1:Heap,(∀ b o,b≠a→s.heap.get? b=some o→h1.get? b=some o)→∀ Q:SortKind→Shared→Prop,Q κ { s with heap:=h1 }→wpAny (model prog w) A (keyKind' vs.toArray) Q E { s with heap:=h1 })
  (hlt:∀ h1:Heap,(∀ b o,b≠a→s.heap.get? b=some o→h1.get? b=some o)→∀ i j,i < vs.length→j < vs.length→∀ (C:Bool→Shared→Prop) (E':Value→Shared→Prop),C (lt i j) { s with heap:=h1 }→wpAny (model prog w) A (keyLt' κ (vs.getD i Value.none) (vs.getD j Value.none)) C E' { s with heap:=h1 })
  (h:∀ (h':Heap) (p:Array Nat) (c:Nat),Pm vs.length p→Asc lt p vs.length→h'.get? a=some (seqObj "list" (p.toList.map fun i=>vs.getD i Value.none).toArray c)→(∀ b o,b≠a→s.heap.get? b=some o→h'.get? b=some o)→P (.done (.ret .none)) { s with heap:=h' }) :
  wpAny (model prog w) A (Builtin.«list.sort» ⟨[.ref a],[]⟩) P E s:=by
 refine a9n (o.weak irr) nd ho hz hk hlt fun h' p c pm as hc kk=>h h' p c pm (fun i hi=>?_) hc kk
 have l:∀ i,i < vs.length→p.getD i 0 < vs.length:=fun i hi=>by
  refine pm.mem _ ?_
  have sz:=pm.size
  rw [a5l,Array.getElem?_eq_getElem (by omega)]
  exact Array.getElem_mem_toList (by omega)
 exact o.tot _ _ (l _ hi) (l i (by omega)) (pm.inj hi (by omega) (by omega)) (as i (i+1) (by omega) hi)
end
end L2
namespace L2
open PySem PySem.Spec PyProof.Rows PySem.W
theorem a5Y:∀ {l:List Value} {ns ms:List Int},IntsAre l ns→IntsAre l ms→ns=ms
 | _,_,_,.nil,.nil=>rfl
 | _,_,_,.cons _ _ h,.cons _ _ h2=>by rw [a5Y h h2]
theorem a3Z:∀ {l:List Value} {ns:List Int} {j:Nat} {n:Int},IntsAre l ns→ns[j]?=some n→∃ t,l[j]?=some (.int n t)
 | _,_,j,n,.nil,h=>by simp at h
 | _,_,0,n,.cons m t _,h=>by simp at h;subst h;exact ⟨t,rfl⟩
 | _,_,j+1,n,.cons m t r,h=>by
  obtain ⟨t',e⟩:=a3Z r (by simpa using h)
  exact ⟨t',by simpa using e⟩
theorem a4H.inj {h:Heap} {v:Value} {ns ms:List Int} (t1:a4H h v ns) (t2:a4H h v ms):ns=ms:=by
 obtain ⟨b,items,rfl,⟨o,ho,hc,n,hd⟩,hi⟩:=t1
 obtain ⟨b2,items2,e,⟨o2,ho2,hc2,n2,hd2⟩,hi2⟩:=t2
 cases e
 rw [ho] at ho2
 cases ho2
 rw [hd] at hd2
 cases hd2
 exact a5Y hi hi2
section
variable {prog:Program} {w:World} {A:Around} {E:Value→Shared→Prop} {s:Shared}
theorem a5s {a:Addr} {vs:List Value} {ks:List (List Int)} {n:Nat} {P:PySem.Fin→Shared→Prop} (ho:s.heap.get? a=some (seqObj "list" vs.toArray n)) (h64:vs.length≤10000) (hl:ks.length=vs.length) (t:∀ i,i < vs.length→a4H s.heap (vs.getD i Value.none) (ks.getD i []))
  (nd:ks.Nodup) (kd:b0g ks) (hu:A.units < cLine)
  (h:∀ (h':Heap) (p:Array Nat) (c:Nat),Pm vs.length p→(p.toList.map fun i=>ks.getD i []).Pairwise Lx→h'.get? a=some (seqObj "list" (p.toList.map fun i=>vs.getD i Value.none).toArray c)→(∀ b o,b≠a→s.heap.get? b=some o→h'.get? b=some o)→P (.done (.ret .none)) { s with heap:=h' }) :
  wpAny (model prog w) A (Builtin.«list.sort» ⟨[.ref a],[]⟩) P E s:=by
 have o:Ord vs.length (ltK ks):=by rw [←hl];exact ordK nd
 have at_:∀ v∈vs,∃ i,i < vs.length∧v=vs.getD i Value.none:=fun v hv=>by
  obtain ⟨i,hi⟩:=List.mem_iff_getElem?.mp hv
  exact ⟨i,(List.getElem?_eq_some_iff.mp hi).1,by rw [List.getD_eq_getElem?_getD,hi];rfl⟩
 have fin:∀ (h':Heap) (p:Array Nat) (c:Nat),Pm vs.length p→Asc (ltK ks) p vs.length→h'.get? a=some (seqObj "list" (p.toList.map fun i=>vs.getD i Value.none).toArray c)→(∀ b o,b≠a→s.heap.get? b=some o→h'.get? b=some o)→P (.done (.ret .none)) { s with heap:=h' } :=
  fun h' p c pm as e k=>h h' p c pm (a1R o pm as fun i j z=>z) e k
 have ndv:vs.Nodup:=by
  unfold List.Nodup
  rw [List.pairwise_iff_getElem]
  intro i j hi hj hij z
  have e1:vs.getD i Value.none=vs[i]:=by rw [List.getD_eq_getElem?_getD,List.getElem?_eq_getElem hi];rfl
  have e2:vs.getD j Value.none=vs[j]:=by rw [List.getD_eq_getElem?_getD,List.getElem?_eq_getElem hj];rfl
  have t1:=t i hi
  have t2:=t j hj
  rw [e1,z] at t1
  rw [e2] at t2
  have k:=t1.inj t2
  rw [List.getD_eq_getElem?_getD,List.getD_eq_getElem?_getD,List.getElem?_eq_getElem (by omega),List.getElem?_eq_getElem (by omega)] at k
  have:=(List.getElem_inj nd).mp k
  omega
 rcases kd with kd | kd
 ·refine a3Y (κ:=oneType') o (fun i=>a1g _) ndv ho (by omega) (fun h2 h1 k1 Q q=>?_) (fun h1 k1 i j hi hj C E' q=>?_) fin
  ·obtain ⟨v0,rest,rfl⟩:∃ v0 rest,vs=v0 :: rest:=by
    match vs,h2 with
    | [],h2=>simp at h2
    | v0 :: rest,_=>exact ⟨v0,rest,rfl⟩
   obtain ⟨k0,kr,rfl⟩:∃ k0 kr,ks=k0 :: kr:=by
    match ks,hl with
    | [],hl=>simp at hl
    | k0 :: kr,_=>exact ⟨k0,kr,rfl⟩
   have e0:=kd k0 kr rfl
   subst e0
   refine a9l (s:={ s with heap:=h1 }) (fun v hv=>?_) ?_ q
   ·obtain ⟨i,hi,rfl⟩:=at_ v hv
    exact ((t i hi).keep ho rfl k1).i
   ·have z:=(t 0 (by simp)).keep ho rfl k1
    obtain ⟨b,items,e,⟨ob,hb,hc,k,hd⟩,hi⟩:=z
    have e':v0=.ref b:=e
    subst e'
    obtain ⟨l⟩:=items
    cases hi
    unfold fst?
    simp only [hb,hd]
    rfl
  ·rw [keyLt'_oneType]
   exact a6I (s:={ s with heap:=h1 }) ((t i hi).keep ho rfl k1) ((t j hj).keep ho rfl k1) hu q
 ·refine a3Y (κ:=tuples' true) o (fun i=>a1g _) ndv ho (by omega) (fun h2 h1 k1 Q q=>?_) (fun h1 k1 i j hi hj C E' q=>?_) fin
  ·refine a4I (s:={ s with heap:=h1 }) (by omega) (fun v hv=>?_) q
   obtain ⟨i,hi,rfl⟩:=at_ v hv
   have z:=(t i hi).keep ho rfl k1
   have hk:ks[i]?=some (ks[i]'(by omega)):=List.getElem?_eq_getElem _
   have e:ks.getD i []=ks[i]'(by omega):=by rw [List.getD_eq_getElem?_getD,hk];rfl
   have ne:=kd _ (List.getElem_mem (by omega:i < ks.length))
   rw [e] at z
   cases hz:ks[i]'(by omega) with
   | nil=>exact absurd hz ne
   | cons n ns=>rw [hz] at z;exact ⟨n,ns,z⟩
  ·have z1:=(t i hi).keep ho rfl k1
   have z2:=(t j hj).keep ho rfl k1
   obtain ⟨b,items,e,⟨ob,hb,hc,k,hd⟩,hi1⟩:=z1
   obtain ⟨b2,items2,e2,⟨ob2,hb2,hc2,k2,hd2⟩,hi2⟩:=z2
   rw [e,e2]
   refine kat_lt (s:={ s with heap:=h1 }) hb hd hb2 hd2 (a3Q (s:={ s with heap:=h1 }) _ _ _ _ 0 hi1 hi2 ?_ q)
   have l1:=hi1.length
   have l2:=hi2.length
   simp only [Array.length_toList] at l1 l2
   rw [l1,l2]
end
def b1a:List V→Hp→VK→Prop:=fun xs H Q=>∃ l ys ws,xs=[.ref l]∧H l=some (.lst ys)∧Ws H ys ws∧ws.length≤10000∧ws.Nodup∧b0g ws ∧
 ∀ p H' out us,a0v H H'→H p=none→H' p=some (.lst out)→Ws H' out us→us.Perm ws→us.Pairwise Lx→Q (.ref p) H'
theorem a3u {X:Cx} (hc:X.calm=true) (hu:X.A.units+4 < cLine):a2l X (.builtin "sorted") b1a:=by
 intro pins s σ H xs us Q I r h
 obtain ⟨l,ys,ws,rfl,e,hw,h64,nd,kd,q⟩:=h
 obtain ⟨u,rfl,rx⟩:=a2H r
 cases rx
 obtain ⟨z,its,n,rv,he⟩:=(show a0A X.prog X.w H s.heap l (.lst ys) from I.hok l _ e)
 have ly:ys.length=ws.length:=hw.length
 have li:ys.length=its.length:=rv.length
 have tup:∀ i,i < its.length→a4H s.heap (its.getD i Value.none) (ws.getD i []):=fun i hi=>by
  have hy:ys[i]?=some (ys[i]'(by omega)):=List.getElem?_eq_getElem _
  obtain ⟨wd,hwd,rw'⟩:=Paired.right_of hw i _ hy
  obtain ⟨u,hu',ru⟩:=rv.get hy
  obtain ⟨b,eb,hb⟩:=Wd.ti rw'
  rw [eb] at ru
  cases ru
  obtain ⟨_,its2,rv2,it⟩:=a1b ((show a0A X.prog X.w H s.heap b (.tup (wd.map V.int)) from I.hok _ _ hb))
  have e1:its.getD i Value.none=.ref b:=by rw [List.getD_eq_getElem?_getD,hu'];rfl
  have e2:ws.getD i []=wd:=by rw [List.getD_eq_getElem?_getD,hwd];rfl
  rw [e1,e2]
  exact ⟨b,_,rfl,it,by simpa using a3c rv2⟩
 refine Calls.call_function_entry kind_sorted plain_sorted entry_sorted (args_sorted1 _) ?_
 unfold Builtin.«sorted»
 refine wpAny_bind (m:=checkCount "sorted" 1 1 _) (wpAny_pure ?_)
 refine wpAny_bind (collect_list ⟨_,he,rfl,n,rfl⟩ ?_ (by rw [sizeLine_eq];omega))
 have k1:∀ b o,s.heap.get? b=some o→((s.heap.push (seqObj "list" #[] 0)).update s.heap.objs.size (Obj.mapSeq (·++its.toArray))).get? b=some o:=fun b o q=>by
  have lt:b < s.heap.objs.size:=Heap.lt_size q
  rw [Heap.get?_update_ne _ _ _ _ (Nat.ne_of_lt lt),Heap.get?_push_ne _ _ _ (Nat.ne_of_lt lt)]
  exact q
 refine wpAny_bind (wpAny_newList ?_ (by rw [sizeLine_eq];omega))
 show wpAny _ _ _ _ _ { s with heap:=((s.heap.push (seqObj "list" #[] 0)).update s.heap.objs.size (Obj.mapSeq (·++its.toArray))).push (seqObj "list" its.toArray 0) }
 generalize (s.heap.push (seqObj "list" #[] 0)).update s.heap.objs.size (Obj.mapSeq (·++its.toArray))=h1 at k1 ⊢
 have hoL:(h1.push (seqObj "list" its.toArray 0)).get? h1.objs.size=some (seqObj "list" its.toArray 0):=Heap.get?_push_size _ rfl
 have k2:∀ b o,s.heap.get? b=some o→(h1.push (seqObj "list" its.toArray 0)).get? b=some o:=fun b o e=>Heap.get?_push_of_some _ (k1 b o e)
 have nL:∀ b o,h1.get? b=some o→b≠h1.objs.size:=fun b o e=>Nat.ne_of_lt (Heap.lt_size e)
 have I1:Inv X pins σ H { s with heap:=h1,toks:=s.toks }:=I.kept k1
 have hLn:H h1.objs.size=none:=I1.hok.fresh (Nat.le_refl _)
 refine wpAny_bind (wpAny_holding (wpAny_call_entry slot_list_sort ⟨_,hoL,rfl⟩ entry_list_sort (a5s (s:={ s with heap:=h1.push (seqObj "list" its.toArray 0) }) hoL (by omega) (by omega) (fun i hi=>?_) nd kd ?_ fun h' p c pm srt hL kp=>⟨_,rfl,?_⟩) (args_list_sort _)))
 ·obtain ⟨b,items,eb,⟨o,hb,rr⟩,hh⟩:=tup i hi
  exact ⟨b,items,eb,⟨o,k2 b o hb,rr⟩,hh⟩
 ·show X.A.units+1+1 < cLine
  omega
 ·have kh:∀ b o,h1.get? b=some o→h'.get? b=some o:=fun b o e=>kp b o (nL b o e) (Heap.get?_push_of_some _ e)
  have lt:∀ i∈p.toList,i < ys.length:=fun i hi=>by have:=pm.mem i hi;omega
  have pw:=a3b (xs:=ws) [] pm (by omega)
  have I2:Inv X pins σ (upd H h1.objs.size (.lst (p.toList.map fun i=>ys.getD i .non))) { s with heap:=h',toks:=s.toks }:=I1.laid (t':=s.toks) kh (Nat.le_refl _) ⟨by rw [List.length_map,←List.length_map (f:=fun i=>ws.getD i []),pw.length_eq,sizeLine_eq];omega,_,c,Paired.pick rv .non Value.none p.toList lt,hL⟩
  have sm:=a0d hLn (.lst (p.toList.map fun i=>ys.getD i .non))
  exact wpAny_pure ⟨_,rfl,.ref h1.objs.size,_,I2,rfl,q _ _ _ (p.toList.map fun i=>ws.getD i []) sm hLn a0b (Paired.pick (hw.same sm) .non [] p.toList lt) pw srt⟩
def PrN (h:Heap) (v:Value) (q:Int × List Int):Prop:=∃ (b:Addr) (items:Array Value) (t:Tok) (u:Value),v=.ref b∧IsTup h b items∧items.toList=[.int q.1 t,u]∧a4H h u q.2
theorem PrN.inj {h:Heap} {v:Value} {p q:Int × List Int} (t1:PrN h v p) (t2:PrN h v q):p=q:=by
 obtain ⟨b,items,t,u,rfl,⟨o,ho,hc,n,hd⟩,hi,hu⟩:=t1
 obtain ⟨b2,items2,t',u',e,⟨o2,ho2,hc2,n2,hd2⟩,hi2,hu2⟩:=t2
 cases e
 rw [ho] at ho2
 cases ho2
 rw [hd] at hd2
 cases hd2
 rw [hi] at hi2
 obtain ⟨z1,z2⟩:=List.cons.inj hi2
 obtain ⟨z3,_⟩:=List.cons.inj z2
 subst z3
 exact Prod.ext (Value.int.inj z1).1 (hu.inj hu2)
theorem PrN.keep {h h':Heap} {v:Value} {q:Int × List Int} {a:Addr} {o:Obj} (t:PrN h v q) (ho:h.get? a=some o) (hc:o.cls=.type "list") (k:∀ b o,b≠a→h.get? b=some o→h'.get? b=some o):PrN h' v q:=by
 obtain ⟨b,items,t,u,rfl,⟨ob,hb,hcb,n,hd⟩,hi,hu⟩:=t
 have ne:b≠a:=fun z=>by rw [z,ho] at hb;cases hb;rw [hc] at hcb;exact absurd (Value.type.inj hcb) (by decide)
 exact ⟨b,items,t,u,rfl,⟨ob,k b ob ne hb,hcb,n,hd⟩,hi,hu.keep ho hc k⟩
theorem PrN.keep2 {h h':Heap} {v:Value} {q:Int × List Int} (t:PrN h v q) (k:∀ b o,h.get? b=some o→h'.get? b=some o):PrN h' v q:=by
 obtain ⟨b,items,t,u,rfl,⟨ob,hb,hcb,n,hd⟩,hi,b2,it2,rfl,⟨ob2,hb2,hcb2,n2,hd2⟩,hi2⟩:=t
 exact ⟨b,items,t,_,rfl,⟨ob,k b ob hb,hcb,n,hd⟩,hi,b2,it2,rfl,⟨ob2,k b2 ob2 hb2,hcb2,n2,hd2⟩,hi2⟩
def a5t (p q:Int × List Int):Bool:=if p.1=q.1 then HT.a0S p.2 q.2 else decide (p.1 < q.1)
theorem a9o (p:Int × List Int):a5t p p=false:=by unfold a5t;rw [if_pos rfl];exact a1g _
theorem b1b (p q r:Int × List Int) (h1:a5t p q=true) (h2:a5t q r=true):a5t p r=true:=by
 unfold a5t at *
 by_cases a:p.1=q.1
 ·rw [if_pos a] at h1
  by_cases b:q.1=r.1
  ·rw [if_pos b] at h2
   rw [if_pos (a.trans b)]
   exact a1W _ _ _ h1 h2
  ·rw [if_neg b] at h2
   rw [if_neg (by rw [a];exact b),a]
   exact h2
 ·rw [if_neg a] at h1
  have h1:=of_decide_eq_true h1
  by_cases b:q.1=r.1
  ·rw [←b,if_neg a]
   exact decide_eq_true h1
  ·rw [if_neg b] at h2
   have h2:=of_decide_eq_true h2
   rw [if_neg (by omega)]
   exact decide_eq_true (by omega)
theorem a9p (p q:Int × List Int) (ne:p≠q) (h:a5t p q=false):a5t q p=true:=by
 unfold a5t at *
 by_cases a:p.1=q.1
 ·rw [if_pos a] at h
  rw [if_pos a.symm]
  exact a1Q _ _ (fun z=>ne (Prod.ext a z)) h
 ·rw [if_neg a] at h
  rw [if_neg (fun z=>a z.symm)]
  have h:=of_decide_eq_false h
  exact decide_eq_true (by omega)
abbrev LxP (p q:Int × List Int):Prop:=a5t p q=true
def ltKP (ks:List (Int × List Int)) (i j:Nat):Bool:=a5t (ks.getD i (0,[])) (ks.getD j (0,[]))
theorem ordKP {ks:List (Int × List Int)} (nd:ks.Nodup):Ord ks.length (ltKP ks) where
 tr:=fun i j k=>b1b _ _ _
 tot:=fun i j hi hj ne h=>by
  refine a9p _ _ (fun z=>ne ?_) h
  rw [List.getD_eq_getElem?_getD,List.getD_eq_getElem?_getD,List.getElem?_eq_getElem hi,List.getElem?_eq_getElem hj] at z
  exact (List.getElem_inj nd).mp z
section
variable {prog:Program} {w:World} {A:Around} {E:Value→Shared→Prop} {s:Shared}
theorem b1c {x y:Value} {ns ms:List Int} (hx:a4H s.heap x ns) (hy:a4H s.heap y ms) (hu:A.units+1 < cLine):SeqAt.EqAt A s x y (decide (ns=ms)):=by
 have hx0:=hx
 have hy0:=hy
 obtain ⟨a,items,rfl,ht,hi⟩:=hx
 obtain ⟨b,items2,rfl,ht2,hj⟩:=hy
 by_cases z:a=b
 ·subst z
  rw [decide_eq_true (hx0.inj hy0)]
  exact SeqAt.EqAt.same _
 ·have l1:=hi.length
  have l2:=hj.length
  rw [Array.length_toList] at l1 l2
  refine SeqAt.EqAt.of_refs z ?_
  have q:=SeqAt.RcAt.tuples (A:=A) (s:=s) (e:=fun j=>match ns[j]?,ms[j]? with | some d,some e=>decide (d=e) | _,_=>true) ht ht2 (by omega) (fun j h1 h2=>by
   obtain ⟨t1,e1⟩:=a3Z hi (List.getElem?_eq_getElem (show j < ns.length by omega))
   obtain ⟨t2,e2⟩:=a3Z hj (List.getElem?_eq_getElem (show j < ms.length by omega))
   have f1:items[j]=.int ns[j] t1:=by
    have:=(List.getElem?_eq_some_iff.mp e1).2
    simpa using this
   have f2:items2[j]=.int ms[j] t2:=by
    have:=(List.getElem?_eq_some_iff.mp e2).2
    simpa using this
   rw [f1,f2]
   have g:=SeqAt.EqAt.int_int (A:=A.in1) (s:=s) ns[j] t1 ms[j] t2
   rw [Bool.beq_eq_decide_eq] at g
   simp only [List.getElem?_eq_getElem (show j < ns.length by omega),List.getElem?_eq_getElem (show j < ms.length by omega)]
   exact g)
  have e:((List.range (min items.size items2.size)).all (fun j=>match ns[j]?,ms[j]? with | some d,some e=>decide (d=e) | _,_=>true) && items.size == items2.size)=decide (ns=ms):=by
   rw [l1,l2]
   exact a9Z ns ms _ fun j x y h1 h2=>by simp only [h1,h2]
  rw [e] at q
  exact q
theorem a6M {x y:Value} {p q:Int × List Int} {C:Bool→Shared→Prop} (hx:PrN s.heap x p) (hy:PrN s.heap y q) (hu:A.units+1 < cLine) (h:C (a5t p q) s):wpAny (model prog w) A (keyLt' (tuples' true) x y) C E s:=by
 obtain ⟨b,items,t,u,rfl,⟨o,ho,hc,n,hd⟩,hi,tu⟩:=hx
 obtain ⟨b2,items2,t2,u2,rfl,⟨o2,ho2,hc2,n2,hd2⟩,hi2,tu2⟩:=hy
 refine kat_lt ho hd ho2 hd2 ?_
 have z1:items.size=2:=by rw [←Array.length_toList,hi];rfl
 have z2:items2.size=2:=by rw [←Array.length_toList,hi2];rfl
 rw [hi,hi2,z1,z2]
 show KatLex prog w A true (decide (2 < 2)) C [(.int p.1 t,.int q.1 t2),(u,u2)] 0 s
 unfold a5t at h
 refine kat_cons (wpAny_eqBool_int ?_)
 by_cases e:p.1=q.1
 ·rw [if_pos e] at h
  rw [e,show (q.1 == q.1)=true by simp]
  refine kat_yes (kat_cons (b1c tu tu2 hu _ _ _ _ ?_))
  by_cases e2:p.2=q.2
  ·rw [decide_eq_true e2]
   refine kat_yes (kat_nil ?_)
   rw [e2,a1g] at h
   exact h
  ·rw [decide_eq_false e2]
   refine kat_no (kat_one _ _ ?_)
   obtain ⟨c,its,rfl,ht,hh⟩:=tu
   obtain ⟨c2,its2,rfl,ht2,hh2⟩:=tu2
   exact HT.a6v ht ht2 hh hh2 (by omega) h
 ·rw [if_neg e] at h
  rw [show (p.1 == q.1)=false by simpa using e]
  exact kat_no (oneLt_int h)
theorem a6N {M:Model} {vs:List Value} {Q:SortKind→Shared→Prop} (h1:1≤vs.length) (t:∀ v∈vs,∃ q,PrN s.heap v q) (h:Q (tuples' true) s):wpAny M A (keyKind' vs.toArray) Q E s:=by
 obtain ⟨fs,kt,fi⟩:∃ fs,KatTups s.heap vs fs∧fs.length=vs.length∧∀ v∈fs,∃ n tk,v=Value.int n tk:=by
  clear h1 h
  induction vs with
  | nil=>exact ⟨[],trivial,rfl,fun v hv=>by cases hv⟩
  | cons v r ih =>
   obtain ⟨fs,k1,k2,k3⟩:=ih fun v hv=>t v (.tail _ hv)
   obtain ⟨q,b,items,tk,u,rfl,⟨o,ho,hc,n,hd⟩,hi,_⟩:=t v (.head _)
   refine ⟨.int q.1 tk :: fs,KatTups.cons ho hc hd ?_ k1,by rw [List.length_cons,List.length_cons,k2],fun v hv=>?_⟩
   ·rw [←Array.getElem?_toList,hi]
    rfl
   ·rcases List.mem_cons.mp hv with rfl | hv
    ·exact ⟨_,_,rfl⟩
    ·exact k3 v hv
 refine kat_kind (T:=Value.type "int") kt (by omega) (fun v hv=>?_) rfl h
 obtain ⟨n,tk,rfl⟩:=fi.2 v hv
 exact Looks.of_pure rfl
theorem a3v {a:Addr} {vs:List Value} {ks:List (Int × List Int)} {n:Nat} {P:PySem.Fin→Shared→Prop} (ho:s.heap.get? a=some (seqObj "list" vs.toArray n)) (h64:vs.length≤10000) (hl:ks.length=vs.length) (t:∀ i,i < vs.length→PrN s.heap (vs.getD i Value.none) (ks.getD i (0,[])))
  (nd:ks.Nodup) (hu:A.units+1 < cLine)
  (h:∀ (h':Heap) (p:Array Nat) (c:Nat),Pm vs.length p→(p.toList.map fun i=>ks.getD i (0,[])).Pairwise LxP→h'.get? a=some (seqObj "list" (p.toList.map fun i=>vs.getD i Value.none).toArray c)→(∀ b o,b≠a→s.heap.get? b=some o→h'.get? b=some o)→P (.done (.ret .none)) { s with heap:=h' }) :
  wpAny (model prog w) A (Builtin.«list.sort» ⟨[.ref a],[]⟩) P E s:=by
 have o:Ord vs.length (ltKP ks):=by rw [←hl];exact ordKP nd
 have ndv:vs.Nodup:=by
  unfold List.Nodup
  rw [List.pairwise_iff_getElem]
  intro i j hi hj hij z
  have e1:vs.getD i Value.none=vs[i]:=by rw [List.getD_eq_getElem?_getD,List.getElem?_eq_getElem hi];rfl
  have e2:vs.getD j Value.none=vs[j]:=by rw [List.getD_eq_getElem?_getD,List.getElem?_eq_getElem hj];rfl
  have t1:=t i hi
  have t2:=t j hj
  rw [e1,z] at t1
  rw [e2] at t2
  have k:=t1.inj t2
  rw [List.getD_eq_getElem?_getD,List.getD_eq_getElem?_getD,List.getElem?_eq_getElem (by omega),List.getElem?_eq_getElem (by omega)] at k
  have:=(List.getElem_inj nd).mp k
  omega
 have at_:∀ v∈vs,∃ i,i < vs.length∧v=vs.getD i Value.none:=fun v hv=>by
  obtain ⟨i,hi⟩:=List.mem_iff_getElem?.mp hv
  exact ⟨i,(List.getElem?_eq_some_iff.mp hi).1,by rw [List.getD_eq_getElem?_getD,hi];rfl⟩
 refine a3Y (κ:=tuples' true) o (fun i=>a9o _) ndv ho (by omega) (fun h2 h1 k1 Q q=>?_) (fun h1 k1 i j hi hj C E' q=>?_) fun h' p c pm as e k=>h h' p c pm (a1R o pm as fun i j z=>z) e k
 ·refine a6N (s:={ s with heap:=h1 }) (by omega) (fun v hv=>?_) q
  obtain ⟨i,hi,rfl⟩:=at_ v hv
  exact ⟨_,(t i hi).keep ho rfl k1⟩
 ·exact a6M (s:={ s with heap:=h1 }) ((t i hi).keep ho rfl k1) ((t j hj).keep ho rfl k1) hu q
end
def RPw (H:Hp) (x:V) (q:Int × List Int):Prop:=∃ t u,x=.ref t∧H t=some (.tup [.int q.1,u])∧Wd H u q.2
theorem RPw.same {H H':Hp} {x:V} {q:Int × List Int} (sm:a0v H H') (h:RPw H x q):RPw H' x q:=by
 obtain ⟨t,u,e,ht,hu⟩:=h
 exact ⟨t,u,e,sm _ _ ht,hu.same sm⟩
def b1d:List V→Hp→VK→Prop:=fun xs H Q=>∃ l ys ws,xs=[.ref l]∧H l=some (.lst ys)∧Paired (RPw H) ys ws∧ws.length≤10000∧ws.Nodup ∧
 ∀ p H' out us,a0v H H'→H p=none→H' p=some (.lst out)→Paired (RPw H') out us→us.Perm ws→us.Pairwise LxP→Q (.ref p) H'
theorem a6O {X:Cx} (hc:X.calm=true) (hu:X.A.units+4 < cLine):a2l X (.builtin "sorted") b1d:=by
 intro pins s σ H xs us Q I r h
 obtain ⟨l,ys,ws,rfl,e,hw,h64,nd,q⟩:=h
 obtain ⟨u,rfl,rx⟩:=a2H r
 cases rx
 obtain ⟨z,its,n,rv,he⟩:=(show a0A X.prog X.w H s.heap l (.lst ys) from I.hok l _ e)
 have ly:ys.length=ws.length:=hw.length
 have li:ys.length=its.length:=rv.length
 have tup:∀ i,i < its.length→PrN s.heap (its.getD i Value.none) (ws.getD i (0,[])):=fun i hi=>by
  have hy:ys[i]?=some (ys[i]'(by omega)):=List.getElem?_eq_getElem _
  obtain ⟨wd,hwd,t,uu,et,ht,hu2⟩:=Paired.right_of hw i _ hy
  obtain ⟨u,hu',ru⟩:=rv.get hy
  rw [et] at ru
  cases ru
  obtain ⟨_,its2,rv2,it⟩:=a1b ((show a0A X.prog X.w H s.heap t (.tup [.int wd.1,uu]) from I.hok _ _ ht))
  obtain ⟨b,eb,hb⟩:=Wd.ti hu2
  subst eb
  obtain ⟨_,its3,rv3,it3⟩:=a1b ((show a0A X.prog X.w H s.heap b (.tup (wd.2.map V.int)) from I.hok _ _ hb))
  have e1:its.getD i Value.none=.ref t:=by rw [List.getD_eq_getElem?_getD,hu'];rfl
  have e2:ws.getD i (0,[])=wd:=by rw [List.getD_eq_getElem?_getD,hwd];rfl
  obtain ⟨u1,u2,rfl,r1,r2⟩:=rv2.two
  obtain ⟨tk,rfl⟩:=r1
  cases r2
  rw [e1,e2]
  exact ⟨t,_,tk,.ref b,rfl,it,rfl,b,_,rfl,it3,by simpa using a3c rv3⟩
 refine Calls.call_function_entry kind_sorted plain_sorted entry_sorted (args_sorted1 _) ?_
 unfold Builtin.«sorted»
 refine wpAny_bind (m:=checkCount "sorted" 1 1 _) (wpAny_pure ?_)
 refine wpAny_bind (collect_list ⟨_,he,rfl,n,rfl⟩ ?_ (by rw [sizeLine_eq];omega))
 have k1:∀ b o,s.heap.get? b=some o→((s.heap.push (seqObj "list" #[] 0)).update s.heap.objs.size (Obj.mapSeq (·++its.toArray))).get? b=some o:=fun b o q=>by
  have lt:b < s.heap.objs.size:=Heap.lt_size q
  rw [Heap.get?_update_ne _ _ _ _ (Nat.ne_of_lt lt),Heap.get?_push_ne _ _ _ (Nat.ne_of_lt lt)]
  exact q
 refine wpAny_bind (wpAny_newList ?_ (by rw [sizeLine_eq];omega))
 show wpAny _ _ _ _ _ { s with heap:=((s.heap.push (seqObj "list" #[] 0)).update s.heap.objs.size (Obj.mapSeq (·++its.toArray))).push (seqObj "list" its.toArray 0) }
 generalize (s.heap.push (seqObj "list" #[] 0)).update s.heap.objs.size (Obj.mapSeq (·++its.toArray))=h1 at k1 ⊢
 have hoL:(h1.push (seqObj "list" its.toArray 0)).get? h1.objs.size=some (seqObj "list" its.toArray 0):=Heap.get?_push_size _ rfl
 have k2:∀ b o,s.heap.get? b=some o→(h1.push (seqObj "list" its.toArray 0)).get? b=some o:=fun b o e=>Heap.get?_push_of_some _ (k1 b o e)
 have nL:∀ b o,h1.get? b=some o→b≠h1.objs.size:=fun b o e=>Nat.ne_of_lt (Heap.lt_size e)
 have I1:Inv X pins σ H { s with heap:=h1,toks:=s.toks }:=I.kept k1
 have hLn:H h1.objs.size=none:=I1.hok.fresh (Nat.le_refl _)
 refine wpAny_bind (wpAny_holding (wpAny_call_entry slot_list_sort ⟨_,hoL,rfl⟩ entry_list_sort (a3v (s:={ s with heap:=h1.push (seqObj "list" its.toArray 0) }) hoL (by omega) (by omega) (fun i hi=>?_) nd ?_ fun h' p c pm srt hL kp=>⟨_,rfl,?_⟩) (args_list_sort _)))
 ·exact (tup i hi).keep2 k2
 ·show X.A.units+1+1+1 < cLine
  omega
 ·have kh:∀ b o,h1.get? b=some o→h'.get? b=some o:=fun b o e=>kp b o (nL b o e) (Heap.get?_push_of_some _ e)
  have lt:∀ i∈p.toList,i < ys.length:=fun i hi=>by have:=pm.mem i hi;omega
  have pw:=a3b (xs:=ws) (0,[]) pm (by omega)
  have I2:Inv X pins σ (upd H h1.objs.size (.lst (p.toList.map fun i=>ys.getD i .non))) { s with heap:=h',toks:=s.toks }:=I1.laid (t':=s.toks) kh (Nat.le_refl _) ⟨by rw [List.length_map,←List.length_map (f:=fun i=>ws.getD i (0,[])),pw.length_eq,sizeLine_eq];omega,_,c,Paired.pick rv .non Value.none p.toList lt,hL⟩
  have sm:=a0d hLn (.lst (p.toList.map fun i=>ys.getD i .non))
  exact wpAny_pure ⟨_,rfl,.ref h1.objs.size,_,I2,rfl,q _ _ _ (p.toList.map fun i=>ws.getD i (0,[])) sm hLn a0b (Paired.pick (Paired.mapP hw fun _ _ q=>RPw.same sm q) .non (0,[]) p.toList lt) pw srt⟩
end L2
namespace L2
open PySem PySem.Spec PyProof.Rows
section
variable {X:Cx} {elt iter:Expr} {tg:Str} {tp:Pos} {cs:List Expr} {scope:Scope} {pos:Pos} {tc:TT} {te:TE} {M:List Str}
theorem a2N {tl:TE} {pos1 spos:Pos} {i:Nat} {x:Str} (hN:X.N.Nodup) (hix:X.N[i]?=some x) (hx:X.env.scope.names.lookup x=some .local) (hc:X.calm=true) (S:a0l scope X.env X.N M) (nd:(tg :: M).Nodup) (hl:scope.names.lookup tg=some .local) (hi:PE X iter tl) (mo:a3o tl)
  (hin:a5h X scope tg M cs elt tc te) (hw:swapsWith (.ListComp elt [⟨.Name tg tp,iter,cs,0⟩] scope pos) (some (.Name x pos1)) spos.line X.env=pure true:=by rfl) (hf:∀ x,foldedSetIterable iter X.env x=pure x:=by intro _;rfl) :
  PS X (.Assign [.Name x pos1] (.ListComp elt [⟨.Name tg tp,iter,cs,0⟩] scope pos) spos) (tAsg (b0b X.K tl tc te) (a2d i)):=by
 refine a9d hc S nd hl (a1G hi) hin (fun σ H Q h=>?_) hN hix hx hw hf
 refine mo σ H _ _ (fun v H1 q=>?_) h
 obtain ⟨a,xs,e,j1,q⟩:=q
 refine ⟨a,e,⟨xs,j1⟩,fun d hd=>?_⟩
 obtain ⟨Pv,h0,hl,hs,hd⟩:=q d hd
 exact a2X (k:=1) (g:=a2d 0) Pv h0 hl hs hd
end
def turnP (K:PySem.W.Frag) (tc:TT) (te:TE) (σ:St) (d:Addr) (z:V) (H:Hp) (Z:Hp→Prop):Prop:=∃ a x y,z=.ref a∧SqT K H a [x,y]∧a4F tc te σ d x y H Z
def tCompP (K:PySem.W.Frag) (tl:TE) (tc:TT) (te:TE):TE:=fun σ H Q=>tl σ H fun v H1=>∃ a xs,v=.ref a∧SqL K H1 a xs∧∀ d,H1 d=none →
 ∃ Pv:Nat→Hp→Prop,Pv 0 (upd H1 d (.lst []))∧(∀ i H,i≤xs.length→Pv i H→SqL K H a xs)∧(∀ i x H,xs[i]?=some x→Pv i H→turnP K tc te σ d x H (Pv (i+1)))∧∀ H,Pv xs.length H→Q (.ref d) H
theorem a9q {X:Cx} (K:PySem.W.Frag) {elt iter:Expr} {t1 t2:Str} {p1 p2 tp pos:Pos} {k:Nat} {cs:List Expr} {scope:Scope} {tc:TT} {te tl:TE} {M:List Str} (hc:X.calm=true) (S:a0l scope X.env X.N M) (nd:(t1 :: t2 :: M).Nodup) (hl1:scope.names.lookup t1=some .local) (hl2:scope.names.lookup t2=some .local)
  (hi:PE X iter tl) (mo:a3o tl)
  (hin:∀ (cl:List (Str × Addr)) (C:Addr) (s0:Shared) (H0:Hp) (fp:List Addr) (pins:List (Addr × Obj)) (σ:St),b1T X (cxC X scope cl C s0 H0 fp (t1 :: t2 :: M)) pins σ fp C s0 H0→PTs (cxC X scope cl C s0 H0 fp (t1 :: t2 :: M)) cs tc∧PE (cxC X scope cl C s0 H0 fp (t1 :: t2 :: M)) elt te)
  (hf:∀ x,foldedSetIterable iter X.env x=pure x:=by intro _;rfl) (hK:X.K=K:=by rfl) :
  PE X (.ListComp elt [⟨.Tuple [.Name t1 p1,.Name t2 p2] k tp,iter,cs,0⟩] scope pos) (tCompP K tl tc te):=by
 subst hK
 have hx1:(relabel scope X.env).names.lookup t1=some .local:=by rw [a0z,hl1];rfl
 have hx2:(relabel scope X.env).names.lookup t2=some .local:=by rw [a0z,hl2];rfl
 refine PE.imp (a3K (xs:=[t1,t2]) (M:=M) (g:=a4G X.K) hc S (a1G hi) (fun cl C s0 H0 fp pins σ bk=>⟨a7e hc (a1U (a0E (i:=0) nd rfl (Or.inl hx1) (Or.inr hx1)) (a1U (a0E (i:=1) nd rfl (Or.inl hx2) (Or.inr hx2)) a4Z)),hin cl C s0 H0 fp pins σ bk⟩) (fun v σ H Q h=>a2Z h) hf) (fun σ H Q h=>?_)
 refine mo σ H _ _ (fun v H1 q=>?_) h
 obtain ⟨a,xs,e,j1,q⟩:=q
 refine ⟨a,e,⟨xs,j1⟩,fun d hd=>?_⟩
 obtain ⟨Pv,h0,hl,hs,hd⟩:=q d hd
 refine a2X (k:=2) (g:=a4G X.K) Pv h0 hl (fun i x H hx hP=>?_) hd
 obtain ⟨b,y,z,rfl,hq,h⟩:=hs i x H hx hP
 exact ⟨b,[y,z],rfl,hq,rfl,y,[z],rfl,z,[],rfl,rfl,h⟩
section
variable {P:Program} {w:World} {A:Around} {H:Hp} {s:Shared} {n:Nat} {α β γ:Type} [DecidableEq α] [DecidableEq β] [DecidableEq γ]
def RTwo {α β:Type} (H:Hp) (R1:V→α→Prop) (R2:V→β→Prop) (x:V) (p:α × β):Prop:=∃ a y z,x=.ref a∧H a=some (.tup [y,z])∧R1 y p.1∧R2 z p.2
def RThr {α β γ:Type} (H:Hp) (R1:V→α→Prop) (R2:V→β→Prop) (R3:V→γ→Prop) (x:V) (p:α × β × γ):Prop:=∃ a y z t,x=.ref a∧H a=some (.tup [y,z,t])∧R1 y p.1∧R2 z p.2.1∧R3 t p.2.2
variable {R1:V→α→Prop} {R2:V→β→Prop} {R3:V→γ→Prop}
end
def srt (ns:List Int):List Int:=ns.mergeSort fun a b=>decide (a≤b)
theorem a0L (ns:List Int):(srt ns).Perm ns:=List.mergeSort_perm ns _
theorem a1C (ns:List Int):(srt ns).Pairwise (·≤·):=by
 have h:=List.pairwise_mergeSort (le:=fun a b:Int=>decide (a≤b)) (fun a b c h1 h2=>by simp at *;omega) (fun a b=>by simp;omega) ns
 exact h.imp fun h=>by simpa using h
theorem a1c (ns:List Int):(srt ns).length=ns.length:=(a0L ns).length_eq
theorem a4J {a b:List Int} (h:a.Perm b) (h1:a.Pairwise (·≤·)) (h2:b.Pairwise (·≤·)):a=b:=h.eq_of_pairwise (fun x y _ _ h3 h4=>by omega) h1 h2
theorem a2E {ns ms:List Int} (h:ms.Perm ns) (h1:ms.Pairwise (·≤·)):ms=srt ns:=a4J (h.trans (a0L ns).symm) h1 (a1C ns)
theorem a4K {ns ms:List Int} (h:ms.Perm ns):srt ms=srt ns:=a2E ((a0L ms).trans h) (a1C ms)
def SqI (H:Hp) (a:Addr) (ns:List Int):Prop:=H a=some (.lst (ns.map V.int))∨H a=some (.tup (ns.map V.int))
def b0i:List V→Hp→VK→Prop:=fun xs H Q=>∃ (a:Addr) (ns:List Int),xs=[.ref a]∧SqI H a ns∧ns.length < 64∧∀ p H',a0v H H'→H p=none→H' p=some (.lst ((srt ns).map V.int))→Q (.ref p) H'
theorem a1D {ns:List Int} {us:List Value} (r:a0J (ns.map V.int) us):IntsAre us ns:=by
 induction ns generalizing us with
 | nil=>cases r;exact .nil
 | cons n ns ih =>
  cases r with
  | cons r rr =>
   obtain ⟨t,rfl⟩:=r
   exact .cons _ _ (ih rr)
theorem a6P {ns:List Int} {us:List Value} (r:IntsAre us ns):a0J (ns.map V.int) us:=by
 induction r with
 | nil=>exact .nil
 | cons n t _ ih=>exact .cons ⟨t,rfl⟩ ih
theorem seq_at {X:Cx} {pins:List (Addr × Obj)} {σ:St} {H:Hp} {s:Shared} (I:Inv X pins σ H s) {a:Addr} {ns:List Int} (h:SqI H a ns):∃ (T:String) (o:Obj) (its:List Value) (n:Nat),(T="list"∨T="tuple")∧s.heap.get? a=some o∧o.cls=.type T∧o.data=.seq its.toArray n∧IntsAre its ns:=by
 rcases h with h | h
 ·obtain ⟨_,its,n,rv,he⟩:=(show a0A X.prog X.w H s.heap a (.lst (ns.map V.int)) from I.hok a _ h)
  exact ⟨"list",_,its,n,.inl rfl,he,rfl,rfl,a1D rv⟩
 ·obtain ⟨_,its,rv,⟨o,ho,hcl,n,hd⟩⟩:=a1b ((show a0A X.prog X.w H s.heap a (.tup (ns.map V.int)) from I.hok a _ h))
  exact ⟨"tuple",o,its,n,.inr rfl,ho,hcl,hd,a1D rv⟩
theorem a1q {vs:List Value} {ns:List Int} (h:IntsAre vs ns):vs.length=ns.length:=by
 induction h with
 | nil=>rfl
 | cons n t _ ih=>simp [ih]
theorem a1X {X:Cx}:a2l X (.builtin "sorted") b0i:=by
 intro pins s σ H xs us Q I r h
 obtain ⟨a,ns,rfl,e,h64,q⟩:=h
 obtain ⟨u,rfl,rx⟩:=a2H r
 cases rx
 obtain ⟨T,o,its,n,hT,ho,hcl,hdat,hI⟩:=seq_at I e
 have li:=a1q hI
 refine Calls.call_function_entry kind_sorted plain_sorted entry_sorted (args_sorted1 _) ?_
 unfold Builtin.«sorted»
 refine wpAny_bind (m:=checkCount "sorted" 1 1 _) (wpAny_pure ?_)
 refine wpAny_bind (wpAny_collect_seq a hT ho hcl hdat (fun h1 k1=>?_) (by rw [List.size_toArray,sizeLine_eq];omega))
 show wpAny _ _ _ _ _ { s with heap:=h1 }
 refine wpAny_bind (wpAny_newList ?_ (by show its.length≤sizeLine;rw [sizeLine_eq];omega))
 show wpAny _ _ _ _ _ { s with heap:=h1.push (seqObj "list" its.toArray 0) }
 have hoL:(h1.push (seqObj "list" its.toArray 0)).get? h1.objs.size=some (seqObj "list" its.toArray 0):=Heap.get?_push_size _ rfl
 have nL:∀ b o,h1.get? b=some o→b≠h1.objs.size:=fun b o e=>Nat.ne_of_lt (Heap.lt_size e)
 have I1:Inv X pins σ H { s with heap:=h1,toks:=s.toks }:=I.kept k1
 have hLn:H h1.objs.size=none:=I1.hok.fresh (Nat.le_refl _)
 refine wpAny_bind (wpAny_holding (wpAny_call_entry slot_list_sort ⟨_,hoL,rfl⟩ entry_list_sort (list_sort_tree (s:={ s with heap:=h1.push (seqObj "list" its.toArray 0) }) hoL hI (by omega) fun out ns' ho' pm srt'=>⟨_,rfl,?_⟩) (args_list_sort _)))
 have es:ns'=srt ns:=a2E pm srt'
 subst es
 have lo:out.toList.length=ns.length:=by rw [a1q ho',a1c]
 have hp:∃ c,(sortedHeap (h1.push (seqObj "list" its.toArray 0)) h1.objs.size its out).get? h1.objs.size=some { cls:=.type "list",data:=.seq out.toList.toArray c }:=by
  unfold sortedHeap
  have z1:=get?_update_seq hoL (fun _=>#[])
  have z2:=Heap.get?_push_of_some (seqObj "tuple" its.toArray 0) z1
  have z3:=Heap.get?_push_of_some (seqObj "list" #[] 0) z2
  have z4:=get?_update_seq z3 (fun _=>out)
  exact ⟨_,z4⟩
 obtain ⟨c,hp⟩:=hp
 have kh:∀ b o,h1.get? b=some o→(sortedHeap (h1.push (seqObj "list" its.toArray 0)) h1.objs.size its out).get? b=some o:=fun b o e=>by
  have ne:=nL b o e
  unfold sortedHeap
  rw [Heap.get?_update_ne _ _ _ _ ne]
  refine Heap.get?_push_of_some _ (Heap.get?_push_of_some _ ?_)
  rw [Heap.get?_update_ne _ _ _ _ ne]
  exact Heap.get?_push_of_some _ e
 have I2:Inv X pins σ (upd H h1.objs.size (.lst ((srt ns).map V.int))) { s with heap:=sortedHeap (h1.push (seqObj "list" its.toArray 0)) h1.objs.size its out,toks:=s.toks }:=I1.laid (t':=s.toks) kh (Nat.le_refl _) ⟨by rw [List.length_map,a1c,sizeLine_eq];omega,_,c,a6P ho',hp⟩
 have sm:=a0d hLn (.lst ((srt ns).map V.int))
 exact wpAny_pure ⟨_,rfl,.ref h1.objs.size,_,I2,rfl,q _ _ sm hLn a0b⟩
theorem a9r {ns:List Int} {m:Int} (h:m∈ns) (h1:∀ x∈ns,m≤x):(srt ns).headD 0=m:=by
 have p:=a0L ns
 have r:=a1C ns
 cases e:srt ns with
 | nil =>
  rw [e] at p
  have:=p.symm.mem_iff.mp h
  cases this
 | cons a t =>
  rw [e] at p r
  have ha:m≤a:=h1 a (p.mem_iff.mp (.head _))
  have hm:m∈a :: t:=p.symm.mem_iff.mp h
  show a=m
  cases hm with
  | head=>rfl
  | tail _ hm =>
   have:=(List.pairwise_cons.mp r).1 m hm
   omega
def rMinI:List V→Hp→VK→Prop:=fun xs H Q=>∃ (a:Addr) (ns:List Int),xs=[.ref a]∧SqI H a ns∧ns≠[]∧Q (.int ((srt ns).headD 0)) H
theorem a7W {its:List Value} {ns:List Int} (hI:IntsAre its ns) (ne:ns≠[]) {v:Value} (h:its.toArray[argBest (fun i j=>decide (ns.getD i 0 < ns.getD j 0)) (its.toArray.size - 1)]?=some v):∃ t,v=.int ((srt ns).headD 0) t:=by
 have li:=a1q hI
 have hb:=argBest_lt (fun i=>ns.getD i 0) (its.toArray.size - 1)
 have ez:its.toArray.size=its.length:=List.size_toArray
 have n0:0 < ns.length:=List.length_pos_iff.mpr ne
 have hv:its[argBest (fun i j=>decide (ns.getD i 0 < ns.getD j 0)) (its.toArray.size - 1)]?=some v:=by simpa using h
 obtain ⟨t,e⟩:=hI.int_at _ v hv
 refine ⟨t,?_⟩
 rw [e]
 congr 1
 refine (a9r ?_ fun x hx=>?_).symm
 ·rw [List.getD_eq_getElem?_getD,List.getElem?_eq_getElem (by have:=hb.1;omega)]
  exact List.getElem_mem _
 ·obtain ⟨j,hj⟩:=List.mem_iff_getElem?.mp hx
  have jl:=(List.getElem?_eq_some_iff.mp hj).1
  have:=hb.2 j (by omega)
  rw [show ns.getD j 0=x by rw [List.getD_eq_getElem?_getD,hj];rfl] at this
  exact this
theorem a7X {X:Cx} (hc:X.calm=true):a2l X (.builtin "min") rMinI:=by
 intro pins s σ H xs us Q I r h
 obtain ⟨a,ns,rfl,e,ne,q⟩:=h
 obtain ⟨u,rfl,ru⟩:=a2H r
 cases ru
 have n0:0 < ns.length:=List.length_pos_iff.mpr ne
 rcases e with e | e
 ·obtain ⟨_,its,n,rv,he⟩:=(show a0A X.prog X.w H s.heap a (.lst (ns.map V.int)) from I.hok a _ e)
  have hI:=a1D rv
  have li:=a1q hI
  have hlt:=Heap.lt_size he
  refine call_min_walk (wpAny_pyIter_list (a1s he) ?_)
  refine ⟨s.heap.objs.size,_,_,_,_,_,fun i j=>decide (ns.getD i 0 < ns.getD j 0),rfl,Walks.list (A:=X.A.in1) (by show X.A.handled=none;exact I.ok.hd hc) s.heap.objs.size a (Nat.ne_of_lt hlt) its.toArray,⟨⟨_,Heap.get?_push_size _ rfl,rfl,rfl⟩,a1s (Heap.get?_push_of_some _ he)⟩,?_,by rw [List.size_toArray];omega,CmpOf.ints_lt _ (fun i v hv=>hI.int_at i v (by simpa using hv)),fun v h' tk hv hk=>?_⟩
  ·intro b hb
   have hp:(s.heap.push { cls:=.type "list_iterator",data:=.fields #[.ref a,rawInt 0] }).objs.size=s.heap.objs.size+1:=Heap.size_push _ _
   simp only [List.mem_cons,List.not_mem_nil,or_false] at hb
   show b < (s.heap.push _).objs.size
   rw [Heap.size_push]
   rcases hb with rfl | rfl
   ·exact Nat.lt_succ_self _
   ·exact Nat.lt_succ_of_lt hlt
  ·obtain ⟨t,rfl⟩:=a7W hI ne hv
   exact ⟨.int _,H,I.kept (h':=h') (t':=tk) (fun b o eo=>hk b o (by simp;exact Nat.ne_of_lt (Heap.lt_size eo)) (Heap.get?_push_of_some _ eo)),⟨t,rfl⟩,q⟩
 ·obtain ⟨_,its,rv,ht⟩:=a1b ((show a0A X.prog X.w H s.heap a (.tup (ns.map V.int)) from I.hok a _ e))
  have hI:=a1D rv
  have li:=a1q hI
  have hlt:a < s.heap.objs.size:=by obtain ⟨o,ho,_⟩:=ht;exact Heap.lt_size ho
  refine call_min_walk (wpAny_pyIter_tuple ht ?_)
  refine ⟨s.heap.objs.size,_,_,_,_,_,fun i j=>decide (ns.getD i 0 < ns.getD j 0),rfl,Walks.tuple (A:=X.A.in1) (by show X.A.handled=none;exact I.ok.hd hc) s.heap.objs.size a (Nat.ne_of_lt hlt) its.toArray,⟨⟨_,Heap.get?_push_size _ rfl,rfl,rfl⟩,by obtain ⟨o,ho,r⟩:=ht;exact ⟨o,Heap.get?_push_of_some _ ho,r⟩⟩,?_,by rw [List.size_toArray];omega,CmpOf.ints_lt _ (fun i v hv=>hI.int_at i v (by simpa using hv)),fun v h' tk hv hk=>?_⟩
  ·intro b hb
   simp only [List.mem_cons,List.not_mem_nil,or_false] at hb
   show b < (s.heap.push _).objs.size
   rw [Heap.size_push]
   rcases hb with rfl | rfl
   ·exact Nat.lt_succ_self _
   ·exact Nat.lt_succ_of_lt hlt
  ·obtain ⟨t,rfl⟩:=a7W hI ne hv
   exact ⟨.int _,H,I.kept (h':=h') (t':=tk) (fun b o eo=>hk b o (by simp;exact Nat.ne_of_lt (Heap.lt_size eo)) (Heap.get?_push_of_some _ eo)),⟨t,rfl⟩,q⟩
theorem b0j:bootBuiltins "min"=some (.builtin "min"):=by decide +kernel
theorem a0M:bootBuiltins "sorted"=some (.builtin "sorted"):=by decide +kernel
def CDivC (_ j:Int):Prop:=0 < j∧j < 2 ^ 200
theorem a9s {X:Cx}:OpR X (binaryOp .FloorDiv) (rI CDivC fun i j=>.int (i / j)):=opI fun i j _ _ _ _ _ hc q=>by
 have h0:0≤j:=Int.le_of_lt hc.1
 have hn:j.natAbs.log2 < 9000:=by
  have h1:j.natAbs < 2 ^ 200:=by
   have e:((2 ^ 200:Nat):Int)=2 ^ 200:=by norm_cast
   have:=hc.2
   omega
  have h2:j.natAbs≠0:=by have:=hc.1;omega
  have h3:=(Nat.log2_lt h2).mpr h1
  omega
 refine floordiv_int (by have:=hc.1;omega) ?_ (.inl (PyProof.noPylong_of_log2 hn))
 rw [Int.fdiv_eq_ediv_of_nonneg _ h0]
 exact q
theorem mo_srt {ta:TA} (h1:a4A ta):a3o (tCB b0i ta):=fun σ H Q Q' h q=>h1 σ H _ _ (fun vs H1 ⟨a,ns,e,s,l,q1⟩=>⟨a,ns,e,s,l,fun p H' sm hn hp=>h _ _ (q1 p H' sm hn hp)⟩) q
def TK (H H':Hp):Prop:=∀ a xs,H a=some (.tup xs)→H' a=some (.tup xs)
theorem TK.of {H H':Hp} (s:a0v H H'):TK H H':=fun a xs e=>s _ _ e
theorem TK.upd {H:Hp} {l:Addr} {ys:List V} {o:HO} (h:H l=some (.lst ys)):TK H (L2.upd H l o):=fun a xs e=>by
 rw [a0n (fun z=>by rw [z,h] at e;cases e)]
 exact e
theorem TK.trans {H H1 H2:Hp} (h:TK H H1) (h2:TK H1 H2):TK H H2:=fun a xs e=>h2 a xs (h a xs e)
theorem a7G.tk {H H':Hp} {x:V} {ns:List Int} (k:TK H H') (h:a7G H a4Y x ns):a7G H' a4Y x ns:=by
 obtain ⟨a,xs,rfl,e,p⟩:=h
 exact ⟨a,xs,rfl,k _ _ e,p⟩
abbrev FrAt (H:Hp):V→Int × List Int→Prop:=RTwo H a4Y (a7G H a4Y)
abbrev a5u (H:Hp):V→Int × Int × (Int × List Int)→Prop:=RThr H a4Y a4Y (FrAt H)
theorem FrAt.tk {H H':Hp} {x:V} {p:Int × List Int} (k:TK H H') (h:FrAt H x p):FrAt H' x p:=by
 obtain ⟨a,y,z,rfl,e,h1,h2⟩:=h
 exact ⟨a,y,z,rfl,k _ _ e,h1,a7G.tk k h2⟩
theorem a5u.tk {H H':Hp} {x:V} {p:Int × Int × (Int × List Int)} (k:TK H H') (h:a5u H x p):a5u H' x p:=by
 obtain ⟨a,y,z,t,rfl,e,h1,h2,h3⟩:=h
 exact ⟨a,y,z,t,rfl,k _ _ e,h1,h2,FrAt.tk k h3⟩
abbrev Mvs (H:Hp) (xs:List V) (ms:List (Int × Int × (Int × List Int))):Prop:=Paired (a5u H) xs ms
theorem Mvs.tk {H H':Hp} {xs:List V} {ms:List (Int × Int × (Int × List Int))} (k:TK H H') (h:Mvs H xs ms):Mvs H' xs ms:=Paired.mapP h fun _ _ q=>a5u.tk k q
theorem a6Q {n:Nat} {g:Nat→Int} {acc:Array Value} (h:ItemsOf (fun i v=>∃ t,v=.int (g i) t) acc n):a0J ((List.range n).map fun i=>V.int (g i)) acc.toList:=by
 obtain ⟨h1,h2⟩:=h
 have key:∀ k,k≤n→a0J ((List.range k).map fun i=>V.int (g i)) (acc.toList.take k):=by
  intro k
  induction k with
  | zero=>intro _;rw [List.take_zero];exact .nil
  | succ k ih =>
   intro hk
   have hk':k < acc.toList.length:=by rw [Array.length_toList,h1];omega
   rw [List.range_succ,List.map_append,List.take_add_one,List.getElem?_eq_getElem hk']
   obtain ⟨t,ht⟩:=h2 k (acc.toList[k]) (by rw [←Array.getElem?_toList,List.getElem?_eq_getElem hk'])
   refine (ih (by omega)).append ?_
   rw [ht]
   exact .cons ⟨t,rfl⟩ .nil
 have:=key n (Nat.le_refl _)
 rw [List.take_of_length_le (by rw [Array.length_toList,h1];exact Nat.le_refl _)] at this
 exact this
abbrev exA (a:Addr) (o:Obj):HO:=.ext fun h=>h.get? a=some o
abbrev cdA (c:Addr) (q:Str):HO:=.ext fun h=>h.CodeRec (.ref c) q
def unt (as:List Addr) (H:Hp):Hp:=fun b=>if b∈as then none else H b
def rtk (as:List Addr) (H H':Hp):Hp:=fun b=>if b∈as then H b else H' b
theorem a3d {as:List Addr} {H:Hp} {b:Addr} (h:b∈as):unt as H b=none:=if_pos h
theorem a0H {as:List Addr} {H:Hp} {b:Addr} (h:b∉as):unt as H b=H b:=if_neg h
theorem b0k {as:List Addr} {H H':Hp} {b:Addr} (h:b∈as):rtk as H H' b=H b:=if_pos h
theorem a1I {as:List Addr} {H H':Hp} {b:Addr} (h:b∉as):rtk as H H' b=H' b:=if_neg h
def Exs (H:Hp) (as:List Addr):Prop:=∀ a∈as,∃ o,H a=some (exA a o)
section
variable {P:Program} {w:World} {H H':Hp} {h h':Heap} {as:List Addr} {fs ex:List Addr}
theorem Exs.out (x:Exs H as) {b:Addr} {u:HO} (e:H b=some u) (hn:∀ o,u≠exA b o):b∉as:=fun z=>by
 obtain ⟨o,e'⟩:=x b z
 rw [e] at e'
 exact hn o (Option.some.inj e')
theorem HOk.unt (x:HOk P w H h) (e:Exs H as):HOk P w (L2.unt as H) h:=fun a o q=>by
 have ne:a∉as:=fun z=>by rw [a3d z] at q;cases q
 rw [a0H ne] at q
 exact (x a o q).stay (fun b u _ r=>r) (fun b r=>by rw [a0H (e.out r fun o=>by intro z;cases z)];exact r) fun b xs r=>by rw [a0H (e.out r fun o=>by intro z;cases z)];exact r
theorem a5Z {a:Addr} {o:Obj} (e:h.get? a=some o):a0A P w H h a (exA a o):=⟨e,⟨o,e⟩,fun h1 h2 e1 k=>k o e1⟩
theorem cdA_ok {c:Addr} {q:Str} (e:h.CodeRec (.ref c) q):a0A P w H h c (cdA c q):=by
 obtain ⟨c2,o,vs,t,e1,g,r⟩:=e
 cases e1
 refine ⟨⟨c,o,vs,t,rfl,g,r⟩,⟨o,g⟩,fun h1 h2 x k=>?_⟩
 obtain ⟨c3,o',vs',t',e2,g',r'⟩:=x
 cases e2
 exact ⟨c,o',vs',t',rfl,k _ g',r'⟩
theorem Un.rtk (u:Un fs ex (L2.unt as H) H' h h') (e:Exs H as):Un fs ex H (L2.rtk as H H') h h':=by
 have no:∀ {b:Addr},H b=none→b∉as:=fun {b} n z=>by obtain ⟨o,q⟩:=e b z;rw [n] at q;cases q
 refine ⟨fun b o q n hb hx=>u.keep b o q (by rw [a0H (no n)];exact n) hb hx,fun b o q n hb hx=>u.slot b o q (by rw [a0H (no n)];exact n) hb hx,fun b o q n hx=>?_,u.there,fun b xs q=>?_,fun b o u' q=>?_,fun b ps q=>?_⟩
 ·rw [a1I (no n)];exact u.free b o q (by rw [a0H (no n)];exact n) hx
 ·have ne:=e.out q fun o=>by intro z;cases z
  rw [a1I ne];exact u.tups b xs (by rw [a0H ne];exact q)
 ·have ne:=e.out q fun o=>by intro z;cases z
  rw [a1I ne];exact u.frzs b o u' (by rw [a0H ne];exact q)
 ·have ne:=e.out q fun o=>by intro z;cases z
  rw [a1I ne];exact u.tbls b ps (by rw [a0H ne];exact q)
theorem HOk.rtk (x:HOk P w H' h') (u:Un fs ex (L2.unt as H) H' h h') (x0:HOk P w H h) (e:Exs H as) (nf:∀ a∈as,a∉fs∧a∉ex):HOk P w (L2.rtk as H H') h':=fun a o q=>by
 have no:∀ {b:Addr},b∈as→H' b=none∧∀ o,H b=some (exA b o)→h'.get? b=some o:=fun {b} z=>by
  obtain ⟨o1,q1⟩:=e b z
  have g1:h.get? b=some o1:=(x0 b _ q1).1
  refine ⟨u.free b o1 g1 (a3d z) (nf b z).2,fun o2 q2=>?_⟩
  have g2:h.get? b=some o2:=(x0 b _ q2).1
  exact u.keep b o2 g2 (a3d z) (nf b z).1 (nf b z).2
 by_cases z:a∈as
 ·rw [b0k z] at q
  obtain ⟨o1,q1⟩:=e a z
  rw [q1] at q;cases q
  exact a5Z ((no z).2 o1 q1)
 ·rw [a1I z] at q
  have st:∀ {b:Addr} {y:HO},H' b=some y→b∉as:=fun {b y} r k=>by rw [(no k).1] at r;cases r
  exact (x a o q).stay (fun b u _ r=>r) (fun b r=>by rw [a1I (st r)];exact r) fun b xs r=>by rw [a1I (st r)];exact r
end
def cxL (P:Program) (w:World) (K:PySem.W.Frag) (mg:Str→Option Value) (base:Heap) (N:List Str) (qual:Str) (scope:Scope) (g:Addr) (cd:Value) (cl:List (Str × Addr)) (A:Around) (outer:List Env) (s:Shared) (H:Hp) (xe:Value→Shared→Prop):Cx where
 prog:=P
 w:=w
 K:=K
 mg:=mg
 base:=base
 A:=A.deeper (PySem.W.envX qual scope s.heap.objs.size g cd cl)
 N:=N
 s₀:=s
 H₀:=H
 env:=PySem.W.envX qual scope s.heap.objs.size g cd cl
 outer:=outer
 stack:=PySem.W.envX qual scope s.heap.objs.size g cd cl :: outer
 ex:=[]
 calm:=true
 fn:=fun _=>false
 pn:=[]
 xe:=xe
structure a4a (scope:Scope) (ps:List Str) (cl:List (Str × Addr)):Prop where
 kind:scope.kind=.function
 co:scope.isCoroutine=false
 gen:scope.isGenerator=false
 nd:(ps++cl.map (·.1)).Nodup
 par:∀ x∈ps,scope.names.lookup x=some .local
 nocell:∀ y∈scope.names,y.2≠.cell
 fr:∀ y∈scope.names,y.2=.free→y.1∈cl.map (·.1)
 cap:∀ x∈cl.map (·.1),scope.names.lookup x=some .free
theorem a3e:∀ {cl:List (Str × Addr)} {i:Nat} {x:Str} {c:Addr},(cl.map (·.1)).Nodup→cl[i]?=some (x,c)→cl.lookup x=some c
 | [],_,_,_,_,h=>by simp at h
 | (y,d) :: cl,0,x,c,_,h=>by
  have h:y=x∧d=c:=by simpa using h
  obtain ⟨rfl,rfl⟩:=h
  simp [List.lookup]
 | (y,d) :: cl,i+1,x,c,nd,h=>by
  have h:cl[i]?=some (x,c):=by simpa using h
  have ne:x≠y:=fun z=>(List.nodup_cons.mp nd).1 (by rw [←z];exact List.mem_map.mpr ⟨_,List.mem_of_getElem? h,rfl⟩)
  have e:(x == y)=false:=by simpa using ne
  rw [List.lookup,e]
  exact a3e (List.nodup_cons.mp nd).2 h
theorem a1S:∀ {cl:List (Str × Addr)} {x:Str} {c:Addr},cl.lookup x=some c→∃ i:Nat,cl[i]?=some (x,c)
 | [],_,_,h=>by cases h
 | (y,d) :: cl,x,c,h=>by
  rw [List.lookup] at h
  cases e:(x == y) with
  | true =>
   rw [e] at h
   have:d=c:=by simpa using h
   have xy:x=y:=by simpa using e
   exact ⟨0,by rw [xy,this];rfl⟩
  | false =>
   rw [e] at h
   obtain ⟨i,hi⟩:=a1S h
   exact ⟨i+1,by simpa using hi⟩
theorem a6R {us:List Value}:∀ {ps:List Str},ps.Nodup→∀ {i:Nat} {x:Str} {u:Value},ps[i]?=some x→us[i]?=some u→(ps.zip us).reverse.lookup x=some u:=by
 induction us with
 | nil=>intro ps _ i x u _ h;simp at h
 | cons v us ih =>
  intro ps nd i x u h1 h2
  cases ps with
  | nil=>simp at h1
  | cons p ps =>
   rw [List.zip_cons_cons,List.reverse_cons,List.lookup_append]
   cases i with
   | zero =>
    have e1:p=x:=by simpa using h1
    have e2:v=u:=by simpa using h2
    subst e1 e2
    have:(ps.zip us).reverse.lookup p=none:=by
     cases e:(ps.zip us).reverse.lookup p with
     | none=>rfl
     | some y =>
      have:=PySem.mem_of_lookup e
      rw [List.mem_reverse] at this
      exact absurd (List.of_mem_zip this).1 (List.nodup_cons.mp nd).1
    rw [this]
    simp [List.lookup]
   | succ i =>
    rw [ih (List.nodup_cons.mp nd).2 (by simpa using h1) (by simpa using h2)]
    rfl
theorem a6a {P:Program} {w:World} {K:PySem.W.Frag} {mg:Str→Option Value} {base:Heap} {k:Nat} {name qual:Str} {params:Arguments} {body:Expr} {scope:Scope} {cl:List (Str × Addr)} {pm ctv:Value} {c' g:Addr} {ps:List Str} {A:Around} {outer:List Env} {s:Shared} {H:Hp} {us:List Value} {vs cvs:List V} {Q:VK} {E:XK}
  (S:a4a scope ps cl) (hr:a2s (k+1) A) (e0:a8O P w K mg base A outer s H) (ho:H g=some (exA g (PySem.W.kla_obj name qual params body scope cl pm c' ctv))) (hc:H c'=some (cdA c' qual)) (nda:(cl.map (·.2)).Nodup)
  (hcl:∀ (i:Nat) (x:Str) (c:Addr),cl[i]?=some (x,c)→∃ o u v,H c=some (exA c o)∧o.data=.cell (some u)∧cvs[i]?=some v∧a0T v u) (lcv:cvs.length=cl.length) (r:a0J vs us) (hl:vs.length=ps.length)
  (hb:bindArgs (PySem.W.kla_fn name qual params body scope cl pm (.ref c') ctv) ⟨us,[]⟩=pure (ps.zip us))
  (hbody:∀ xe,a2s k (A.deeper (PySem.W.envX qual scope s.heap.objs.size g (.ref c') cl))→∃ t,PE (cxL P w K mg base (ps++cl.map (·.1)) qual scope g (.ref c') cl A outer s (unt (cl.map (·.2)) H) xe) body t∧t ((vs++cvs).map some) (unt (cl.map (·.2)) H) fun v H'=>(∀ a∈cl.map (·.2),H' a=none)→Q v (rtk (cl.map (·.2)) H H')) :
  codeAny (model P w) A (.call (.ref g) ⟨us,[]⟩) (CR CX0 outer P w H s Q E) s:=by
 have lim:s.heap.NoLimit:=e0.mod.nolimit.keeps fun b o e=>(e0.bs b o e).1
 have eg:s.heap.get? g=some (PySem.W.kla_obj name qual params body scope cl pm c' ctv):=(e0.hok g _ ho).1
 have ec:s.heap.CodeRec (.ref c') qual:=(e0.hok c' _ hc).1
 have exs:Exs H (cl.map (·.2)):=fun a ha=>by
  obtain ⟨⟨x,c⟩,hm,rfl⟩:=List.mem_map.mp ha
  obtain ⟨i,hi⟩:=List.mem_iff_getElem?.mp hm
  obtain ⟨o,u,v,e1,_⟩:=hcl i x c hi
  exact ⟨o,e1⟩
 have ndp:ps.Nodup:=(List.nodup_append.mp S.nd).1
 have ndc:(cl.map (·.1)).Nodup:=(List.nodup_append.mp S.nd).2.1
 have lus:us.length=ps.length:=by rw [←r.length,hl]
 refine PySem.W.kla_callFunE hr.depth eg rfl S.co S.gen rfl ec ?_
 rw [hb]
 refine wpAny_pure (wpAny_newFunctionEnv S.nocell (fun y hy=>S.par y.1 (List.of_mem_zip hy).1) (fun h₁ hns hsb=>?_) S.kind)
 have hk₁:∀ b o,s.heap.get? b=some o→h₁.get? b=some o:=fun b o e=>hsb.extBut b o (Nat.ne_of_lt (Heap.lt_size e)) (Heap.get?_push_of_some _ e)
 refine ⟨lim.keeps hk₁,?_⟩
 show codeAny _ _ (.expr body (PySem.W.envX qual scope s.heap.objs.size g (.ref c') cl)) _ _
 refine PySem.W.kla_codeExpr ?_
 obtain ⟨t,ht,hq⟩:=hbody (fun e' s'=>wpAny (model P w) (A.deeper (PySem.W.envX qual scope s.heap.objs.size g (.ref c') cl)) (leaving (PySem.W.envX qual scope s.heap.objs.size g (.ref c') cl) e') (fun _ s''=>CR CX0 outer P w H s Q E (.error e') s'') (fun e'' s''=>CR CX0 outer P w H s Q E (.error e'') s'') s') (hr.deeper _)
 have cellAt:∀ x c,cl.lookup x=some c→∃ (i:Nat) (o:Obj) (u:Value) (v:V),cl[i]?=some (x,c)∧H c=some (exA c o)∧h₁.get? c=some o∧o.data=.cell (some u)∧cvs[i]?=some v∧a0T v u:=fun x c e=>by
  obtain ⟨i,hi⟩:=a1S e
  obtain ⟨o,u,v,e1,e2,e3,e4⟩:=hcl i x c hi
  exact ⟨i,o,u,v,hi,e1,hk₁ _ _ (e0.hok c _ e1).1,e2,e3,e4⟩
 have memA:∀ x c,cl.lookup x=some c→c∈cl.map (·.2):=fun x c e=>by
  obtain ⟨i,hi⟩:=a1S e
  exact List.mem_map.mpr ⟨_,List.mem_of_getElem? hi,rfl⟩
 have noA:∀ b:Addr,b∉([]:List Addr):=fun b z=>by cases z
 have utn:∀ {b:Addr},H b=none→unt (cl.map (·.2)) H b=none:=fun {b} n=>by
  by_cases z:b∈cl.map (·.2)
  ·exact a3d z
  ·rw [a0H z];exact n
 have I:Inv (cxL P w K mg base (ps++cl.map (·.1)) qual scope g (.ref c') cl A outer s (unt (cl.map (·.2)) H) (fun e' s'=>wpAny (model P w) (A.deeper (PySem.W.envX qual scope s.heap.objs.size g (.ref c') cl)) (leaving (PySem.W.envX qual scope s.heap.objs.size g (.ref c') cl) e') (fun _ s''=>CR CX0 outer P w H s Q E (.error e') s'') (fun e'' s''=>CR CX0 outer P w H s Q E (.error e'') s'') s')) [] ((vs++cvs).map some) (unt (cl.map (·.2)) H) { s with heap:=h₁,toks:=s.toks+(ps.zip us).length }:=by
  refine ⟨⟨e0.mod,S.kind,rfl,rfl,Nat.le_refl _,fun y z c h1 h2=>?_,fun y hy=>?_,fun y c z h=>(by cases z),fun _=>hr.hd,Around.frames_deeper e0.frames,.inr ⟨rfl,rfl⟩,fun b z=>absurd z (noA b),fun b o e=>⟨(e0.bs b o e).1,utn (e0.bs b o e).2⟩,e0.bsz,fun b _ _=>noA b,fun b z=>absurd z (noA b),e0.funs,fun b hb=>utn (e0.frf b hb)⟩,
   rfl,e0.bare,Un.kept hk₁,⟨_,hns,fun i y v h1 h2 h3=>?_⟩,fun y c h=>?_,utn (e0.hok.fresh (Nat.le_refl _)),fun y c h=>a3d (memA y c h),fun p hp=>absurd (show p∈([]:List (Addr × Obj)) from hp) (by simp),(e0.hok.unt exs).kept hk₁,?_⟩
  ·obtain ⟨i,hi⟩:=a1S (show cl.lookup y=some c from h1)
   obtain ⟨j,hj⟩:=a1S (show cl.lookup z=some c from h2)
   have e1:(cl.map (·.2))[i]?=some c:=by rw [List.getElem?_map,hi];rfl
   have e2:(cl.map (·.2))[j]?=some c:=by rw [List.getElem?_map,hj];rfl
   have il:=(List.getElem?_eq_some_iff.mp e1).1
   have ij:i=j:=(List.getElem?_inj il nda).mp (e1.trans e2.symm)
   subst ij
   rw [hi] at hj
   exact congrArg Prod.fst (Option.some.inj hj)
  ·have hy:scope.names.lookup y=some .cell∨scope.names.lookup y=some .free:=hy
   rcases hy with hy | hy
   ·exact absurd rfl (S.nocell _ (PySem.mem_of_lookup hy))
   ·have hm:=S.fr _ (PySem.mem_of_lookup hy) rfl
    obtain ⟨⟨x,c⟩,hx,e⟩:=List.mem_map.mp hm
    have e:x=y:=e
    subst e
    obtain ⟨i,hi⟩:=List.mem_iff_getElem?.mp hx
    exact ⟨c,a3e ndc hi⟩
  ·have h1:(ps++cl.map (·.1))[i]?=some y:=h1
   rw [List.getElem?_map] at h2
   by_cases hi:i < ps.length
   ·rw [List.getElem?_append_left hi] at h1
    rw [List.getElem?_append_left (by omega)] at h2
    cases ev:vs[i]? with
    | none=>rw [ev] at h2;cases h2
    | some v' =>
     rw [ev] at h2
     have:v'=v:=by simpa using h2
     subst this
     obtain ⟨u,hu,rv⟩:=r.get ev
     exact ⟨u,rv,.inl ⟨S.par y (List.mem_of_getElem? h1),a6R ndp h1 hu⟩⟩
   ·rw [List.getElem?_append_right (by omega),List.getElem?_map] at h1
    rw [List.getElem?_append_right (by omega)] at h2
    cases ec':cl[i - ps.length]? with
    | none=>rw [ec'] at h1;cases h1
    | some q =>
     obtain ⟨x,c⟩:=q
     rw [ec'] at h1
     have:x=y:=by simpa using h1
     subst this
     obtain ⟨o,u,v',e1,e2,e3,e4⟩:=hcl _ x c ec'
     rw [hl,e3] at h2
     have:v'=v:=by simpa using h2
     subst this
     exact ⟨u,e4,.inr ⟨.inr (S.cap x (List.mem_map.mpr ⟨_,List.mem_of_getElem? ec',rfl⟩)),c,a3e ndc ec',o,hk₁ _ _ (e0.hok c _ e1).1,e2⟩⟩
  ·obtain ⟨i,o,u,v,_,_,e3,e4,_⟩:=cellAt y c h
   exact ⟨_,o,e3,e4⟩
  ·show ((vs++cvs).map some).length=(ps++cl.map (·.1)).length
   rw [List.length_map,List.length_append,List.length_append,List.length_map,hl,lcv]
 refine wpAny_mono (ht [] _ _ _ _ I hq) (fun u s' hs=>?_) fun e s' hs=>hs
 obtain ⟨v,H',J,rv,q⟩:=hs
 have nf:∀ a∈cl.map (·.2),a∉frs outer∧a∉([]:List Addr):=fun a ha=>⟨fun z=>(by
  obtain ⟨o,e⟩:=exs a ha
  rw [e0.frf a z] at e
  cases e),noA a⟩
 have un:Un (frs outer) [] (unt (cl.map (·.2)) H) H' s.heap s'.heap:=J.base
 exact ⟨v,rtk (cl.map (·.2)) H H',J.os,J.bare,un.rtk exs,HOk.rtk J.hok un e0.hok exs nf,rv,q fun a ha=>(by
  obtain ⟨o,e⟩:=exs a ha
  exact un.free a o (e0.hok a _ e).1 (a3d ha) (noA a))⟩
structure b1e (P:Program) (w:World) (K:PySem.W.Frag) (mg:Str→Option Value) (base:Heap) (k:Nat) (R:Addr→List V→Hp→VK→Prop):Prop where
 at':∀ {g:Addr} {vs:List V} {H:Hp} {Q:VK},R g vs H Q→∃ oc od fd sl,H g=some (exA g ⟨oc,od,.func fd,sl⟩)
 run:∀ (A:Around) (outer:List Env) (s:Shared) (H:Hp) (g:Addr) (us:List Value) (vs:List V) (Q:VK),a2s k A→a8O P w K mg base A outer s H→a0J vs us→R g vs H Q→codeAny (model P w) A (.call (.ref g) ⟨us,[]⟩) (CR CX0 outer P w H s Q E0) s
abbrev a3q (lpos:Pos) (c':Addr):Array Value:=#[rawInt lpos.line,rawInt lpos.col,.ref c']
def a2J (H:Hp) (T:Addr) (lpos:Pos) (q:Str):Prop:=H T=some (.tbl #[])∨∃ c',H T=some (.tbl (a3q lpos c'))∧H c'=some (cdA c' q)
structure LamH (H H2:Hp) (T:Addr) (lpos:Pos) (q:Str) (c' g:Addr) (o:Obj):Prop where
 tb:H2 T=some (.tbl (a3q lpos c'))
 cd:H2 c'=some (cdA c' q)
 ob:H2 g=some (exA g o)
 ot:∀ b u,b≠T→H b=some u→H2 b=some u
 ng:H g=none
 sm:∀ c2,H T=some (.tbl (a3q lpos c2))→c2=c'
theorem b1f {lpos:Pos} {c c':Addr} (e:a3q lpos c=a3q lpos c'):c=c':=by
 have h2:=congrArg (fun z:Array Value=>z[2]?) e
 have h3:some (Value.ref c)=some (Value.ref c'):=h2
 cases h3
 rfl
theorem Un.lam {fs:List Addr} {P:Program} {w:World} {H H3:Hp} {h h3:Heap} {T:Addr} {ps more:Array Value} (hok:HOk P w H h) (k:∀ b u,b≠T→h.get? b=some u→h3.get? b=some u) (eT:∃ u,h3.get? T=some u) (e:H T=some (.tbl ps)) (e3:H3 T=some (.tbl (ps++more))) (ot:∀ b,b < h.objs.size→b≠T→H3 b=H b):Un fs [] H H3 h h3:=by
 have nT:∀ {b:Addr},H b=none→b≠T:=fun {b} n z=>by rw [z,e] at n;cases n
 refine ⟨fun b o q n _ _=>k b o (nT n) q,fun b o q n _ _=>⟨o.slots,k b o (nT n) q⟩,fun b o q n _=>?_,fun b o q _=>?_,fun b xs q=>?_,fun b o u q=>?_,fun b qs q=>?_⟩
 ·rw [ot b (Heap.lt_size q) (nT n)];exact n
 ·by_cases z:b=T
  ·subst z;exact eT
  ·exact ⟨o,k b o z q⟩
 ·rw [ot b (hok.lt q) (a2c q e (by intro z;cases z))];exact q
 ·rw [ot b (hok.lt q) (a2c q e (by intro z;cases z))];exact q
 ·by_cases z:b=T
  ·subst z
   rw [e] at q;cases q
   exact ⟨more,e3⟩
  ·exact ⟨#[],by rw [ot b (hok.lt q) z,q];simp⟩
theorem HOk.lam {P:Program} {w:World} {H H3:Hp} {h h3:Heap} {T:Addr} {ps:Array Value} (hok:HOk P w H h) (k:∀ b u,b≠T→h.get? b=some u→h3.get? b=some u) (e:H T=some (.tbl ps)) (ot:∀ b,b < h.objs.size→b≠T→H3 b=H b) (new:∀ a o,H3 a=some o→(a=T∨h.objs.size≤a)→a0A P w H3 h3 a o):HOk P w H3 h3:=fun a o q=>by
 by_cases z:a=T
 ·exact new a o q (.inl z)
 by_cases y:h.objs.size≤a
 ·exact new a o q (.inr y)
 have q':H a=some o:=by rw [←ot a (by omega) z];exact q
 refine (hok a o q').stay (fun b u hb r=>k b u ?_ r) (fun b r=>?_) fun b xs r=>?_
 ·rcases hb with rfl | hb
  ·exact z
  ·exact a2c hb e (by intro z;cases z)
 ·rw [ot b (hok.lt r) (a2c r e (by intro z;cases z))];exact r
 ·rw [ot b (hok.lt r) (a2c r e (by intro z;cases z))];exact r
structure b1g (X:Cx) (c T bm:Addr):Prop where
 code:X.env.code=.ref c
 hd:PySem.W.codeHdIn X.K c T=true
 hbm:X.mg "__builtins__"=some (.ref bm)
 bo:∃ o,X.base.get? bm=some o∧o.cls=.type "module"∧o.dict=some builtinsNs∧o.data=.plain
 b1:bm≠builtinsNs
 b2:bm≠mainGlobals
 b3:bm≠T
 b4:mainGlobals≠T
def tLam (T:Addr) (lpos:Pos) (q:Str) (mk:Addr→Value→Value→Obj):TE:=fun _ H Q=>a2J H T lpos q∧∀ c' pm ctv g H2,LamH H H2 T lpos q c' g (mk c' pm ctv)→Q (.ref g) H2
theorem b0l {X:Cx} {params:Arguments} {body:Expr} {lscope:Scope} {lpos:Pos} {c T bm:Addr} {clos:List (Str × Addr)} (M:b1g X c T bm) (hcl:closureFor lscope X.env=pure clos) (hdef:defaultsOf params X.env=([],[]):=by rfl) :
  PE X (.Lambda params body lscope lpos) (tLam T lpos (X.env.qual++"<lambda>") fun c' pm ctv=>PySem.W.kla_obj "<lambda>" (X.env.qual++"<lambda>") params body lscope clos pm c' ctv):=by
 intro pins s σ H Q I h
 obtain ⟨tab,h⟩:=h
 refine PySem.W.kla_eval hdef ?_
 have hg:s.heap.Ns mainGlobals X.mg:=I.mod.glob.keeps I.bk
 have C:=PySem.W.codeHd_of_K I.kIn M.hd
 obtain ⟨ob,lo,l1,l2,l3⟩:=M.bo
 have hB:s.heap.BuiltinsAt X.mg T:=⟨bm,ob,M.hbm,M.b1,M.b2,M.b3,I.bk _ _ lo,l1,l2,l3⟩
 rcases tab with e | ⟨c',e,ec⟩
 ·have hP:s.heap.get? T=some (PySem.W.tabObj #[]):=I.hok T _ e
  refine PySem.W.kla_makeFunction hcl I.ok.glob hg M.code C hP trivial rfl M.b4 hB fun c' ctv h' tk hx hge hlt hrec htb=>?_
  have ltT:T < s.heap.objs.size:=I.hok.lt e
  have gs:s.heap.objs.size≤h'.objs.size:=Nat.le_trans hge (Nat.le_of_lt hlt)
  have cg:c'≠h'.objs.size:=Nat.ne_of_lt hlt
  have cT:c'≠T:=fun z=>Nat.lt_irrefl _ (Nat.lt_of_lt_of_le ltT (z▸hge))
  have gT:h'.objs.size≠T:=fun z=>Nat.lt_irrefl _ (Nat.lt_of_lt_of_le ltT (z▸gs))
  generalize eo:PySem.W.kla_obj "<lambda>" (X.env.qual++"<lambda>") params body lscope clos ((X.mg "__name__").getD .none) c' ctv=o
  have hfr:o.isFreed=false:=by rw [←eo];rfl
  let H3:Hp:=upd (upd (upd H T (.tbl (a3q lpos c'))) c' (cdA c' (X.env.qual++"<lambda>"))) h'.objs.size (exA h'.objs.size o)
  have t3:H3 T=some (.tbl (a3q lpos c')):=by
   show upd _ _ _ T=_
   rw [a0n (Ne.symm gT),a0n (Ne.symm cT),a0b]
  have c3:H3 c'=some (cdA c' (X.env.qual++"<lambda>")):=by
   show upd _ _ _ c'=_
   rw [a0n cg,a0b]
  have g3:H3 h'.objs.size=some (exA h'.objs.size o):=a0b
  have ot:∀ b,b < s.heap.objs.size→b≠T→H3 b=H b:=fun b hb hT=>by
   show upd _ _ _ b=_
   rw [a0n (Nat.ne_of_lt (Nat.lt_of_lt_of_le hb gs)),a0n (Nat.ne_of_lt (Nat.lt_of_lt_of_le hb hge)),a0n hT]
  have k3:∀ b u,b≠T→s.heap.get? b=some u→(h'.push o).get? b=some u:=fun b u hb q=>Heap.get?_push_of_some _ (hx b u hb q)
  have un:Un X.fs [] H H3 s.heap (h'.push o):=Un.lam (more:=a3q lpos c') I.hok k3 ⟨_,Heap.get?_push_of_some _ htb⟩ e (by rw [t3];simp) ot
  have hk3:HOk X.prog X.w H3 (h'.push o):=HOk.lam I.hok k3 e ot fun a u q hq=>by
   by_cases z1:a=T
   ·subst z1
    rw [t3] at q;cases q
    have:(h'.push o).get? a=some (PySem.W.tabObj (#[]++#[rawInt lpos.line,rawInt lpos.col,.ref c'])):=Heap.get?_push_of_some _ htb
    show (h'.push o).get? a=some _
    simpa using this
   by_cases z2:a=c'
   ·subst z2
    rw [c3] at q;cases q
    exact cdA_ok (hrec.push _)
   by_cases z3:a=h'.objs.size
   ·subst z3
    rw [g3] at q;cases q
    exact a5Z (Heap.get?_push_size _ hfr)
   ·exfalso
    rcases hq with y | y
    ·exact z1 y
    ·have:H3 a=H a:=by
      show upd _ _ _ a=_
      rw [a0n z3,a0n z2,a0n z1]
     rw [this,I.hok.fresh y] at q
     cases q
  refine ⟨.ref h'.objs.size,H3,I.un (t':=tk) un hk3,rfl,h c' _ ctv h'.objs.size H3 ⟨t3,c3,by rw [g3,←eo],fun b u hb q=>by rw [ot b (I.hok.lt q) hb];exact q,I.hok.fresh gs,fun c2 e2=>by
   rw [e] at e2
   have h1:=HO.tbl.inj (Option.some.inj e2)
   have h2:=congrArg Array.size h1
   cases h2⟩⟩
 ·have hP:s.heap.get? T=some (PySem.W.tabObj (a3q lpos c')):=I.hok T _ e
  refine PySem.W.kla_makeFunctionHit (cv:=.ref c') hcl I.ok.glob hg M.code C hP (by exact trivial) (by simp [a3q,codeAmong,rawInt]) hB fun ctv h' tk hk hsz=>?_
  generalize eo:({ cls:=.type "function",data:=.func (PySem.W.kla_fn "<lambda>" (X.env.qual++"<lambda>") params body lscope clos ((X.mg "__name__").getD .none) (.ref c') ctv) }:Obj)=o
  have hfr:o.isFreed=false:=by rw [←eo];rfl
  have ltc:c' < s.heap.objs.size:=I.hok.lt ec
  have ltT:T < s.heap.objs.size:=I.hok.lt e
  refine ⟨.ref h'.objs.size,upd H h'.objs.size (exA h'.objs.size o),I.laid (t':=tk) (fun b u q=>Heap.get?_push_of_some _ (hk b u q)) hsz (a5Z (Heap.get?_push_size _ hfr)),rfl,h c' _ ctv h'.objs.size _ ⟨?_,?_,by rw [a0b,←eo],fun b u hb q=>?_,I.hok.fresh hsz,fun c2 e2=>?_⟩⟩
  ·rw [a0n (Nat.ne_of_lt (Nat.lt_of_lt_of_le ltT hsz))];exact e
  ·rw [a0n (Nat.ne_of_lt (Nat.lt_of_lt_of_le ltc hsz))];exact ec
  ·rw [a0n (Nat.ne_of_lt (Nat.lt_of_lt_of_le (I.hok.lt q) hsz))];exact q
  ·rw [e] at e2
   exact (b1f (HO.tbl.inj (Option.some.inj e2))).symm
def trk' (as:List Addr) (os:Addr→Obj) (H:Hp):Hp:=fun b=>if b∈as then some (exA b (os b)) else H b
theorem a7Y {as:List Addr} {os:Addr→Obj} {H:Hp} {b:Addr} (h:b∈as):trk' as os H b=some (exA b (os b)):=if_pos h
theorem a1d {as:List Addr} {os:Addr→Obj} {H:Hp} {b:Addr} (h:b∉as):trk' as os H b=H b:=if_neg h
section
variable {P:Program} {w:World} {H H3:Hp} {h h':Heap} {as:List Addr} {os:Addr→Obj} {fs ex:List Addr}
theorem HOk.trk (x:HOk P w H h) (n:∀ c∈as,H c=none) (g:∀ c∈as,h.get? c=some (os c)):HOk P w (trk' as os H) h:=fun a o q=>by
 by_cases z:a∈as
 ·rw [a7Y z] at q;cases q
  exact a5Z (g a z)
 ·rw [a1d z] at q
  have no:∀ {b:Addr} {y:HO},H b=some y→b∉as:=fun {b y} r k=>by rw [n b k] at r;cases r
  exact (x a o q).stay (fun b u _ r=>r) (fun b r=>by rw [a1d (no r)];exact r) fun b xs r=>by rw [a1d (no r)];exact r
theorem Un.untrk (u:Un fs ex (trk' as os H) H3 h h') (n:∀ c∈as,H c=none) (g:∀ c∈as,h.get? c=some (os c)) (g3:∀ c∈as,h'.get? c=some (os c)):Un fs ex H (unt as H3) h h':=by
 have no:∀ {b:Addr} {y:HO},H b=some y→b∉as:=fun {b y} r k=>by rw [n b k] at r;cases r
 refine ⟨fun b o q nb hb hx=>?_,fun b o q nb hb hx=>?_,fun b o q nb hx=>?_,fun b o q hx=>?_,fun b xs q=>?_,fun b o u' q=>?_,fun b ps q=>?_⟩
 ·by_cases z:b∈as
  ·rw [g b z] at q;cases q
   exact g3 b z
  ·exact u.keep b o q (by rw [a1d z];exact nb) hb hx
 ·by_cases z:b∈as
  ·rw [g b z] at q;cases q
   exact ⟨_,g3 b z⟩
  ·exact u.slot b o q (by rw [a1d z];exact nb) hb hx
 ·by_cases z:b∈as
  ·exact a3d z
  ·rw [a0H z];exact u.free b o q (by rw [a1d z];exact nb) hx
 ·by_cases z:b∈as
  ·exact ⟨_,g3 b z⟩
  ·exact u.there b o q hx
 ·rw [a0H (no q)];exact u.tups b xs (by rw [a1d (no q)];exact q)
 ·rw [a0H (no q)];exact u.frzs b o u' (by rw [a1d (no q)];exact q)
 ·rw [a0H (no q)];exact u.tbls b ps (by rw [a1d (no q)];exact q)
end
structure a5v (X:Cx) (cl:List (Str × Addr)):Prop where
 at':∀ q∈cl,X.env.cells.lookup q.1=some q.2
 fn:∀ q∈cl,X.fn q.1=true
 ki:∀ q∈cl,X.env.scope.names.lookup q.1=some .cell
theorem Fun.okC {P:Program} {w:World} {K:PySem.W.Frag} {mg:Str→Option Value} {base:Heap} {x qual:Str} {st:Stmt} {f:Addr} {fd:FuncData} {N ps:List Str} {k:Nat} {sp:Sp} (F:Fun K x qual st f fd) (S:a0w N ps (a0c st)) (len:∀ vs H Q E,sp vs H Q E→vs.length=ps.length)
  (hbody:∀ (A:Around) (outer:List Env) (s:Shared) (H:Hp) (vs:List V) (Q:VK) (E:XK),a2s k (A.deeper (envOfC qual (a0c st) s.heap.objs.size f fd.code))→sp vs H Q E →
   ∃ t,PSs (a7x CX0 P w K mg base N qual (a0c st) f fd.code A outer s H E).nox (a0p st) t∧t { nx:=fun _ H'=>Q .non H',rt:=Q } (start N vs) H):a1B P w K mg base CX0 (k+1) f fd ps sp:=by
 obtain ⟨oc,od,kV,doc,pm,an,cdv,ct,osl,rfl,lk,hcd⟩:=F.ex
 refine fn_of lk hcd S len fun A outer s H vs Q E hr hsp=>?_
 obtain ⟨t,h,q⟩:=hbody A outer s H vs Q E hr hsp
 exact ⟨t,h.nox,q⟩
structure BMod (mg:Str→Option Value) (base:Heap) (ts:List Addr) (bm:Addr):Prop where
 hbm:mg "__builtins__"=some (.ref bm)
 bo:∃ o,base.get? bm=some o∧o.cls=.type "module"∧o.dict=some builtinsNs∧o.data=.plain
 b1:bm≠builtinsNs
 b2:bm≠mainGlobals
 b3:∀ T∈ts,bm≠T
 b4:∀ T∈ts,mainGlobals≠T
theorem a7Z {P:Program} {w:World} {K:PySem.W.Frag} {mg mb:Str→Option Value} {CX:CXT} {k:Nat} {fa a:Addr} {fd:FuncData} {x:Str} {sp:Sp} {s₁:Shared} {vs:List Value} {ns:List Int} {ts:List Addr}
  (KX:K.In s₁.heap) (hns:s₁.heap.Ns mainGlobals mg) (hb:s₁.heap.Ns builtinsNs mb) (hbb:∀ x:Str,x≠"__name__"→mb x=bootBuiltins x) (hlim:s₁.heap.NoLimit) (hg:s₁.gens=#[])
  (ha:s₁.heap.get? a=some { cls:=.type "list",data:=.seq vs.toArray }) (hi:IntsAre vs ns) (hl:ns.length≤sizeLine) (hr:a2s k callerA)
  (ht:∀ T∈ts,s₁.heap.get? T=some (PySem.W.tabObj #[])∧(∃ c,PySem.W.CodeHd s₁.heap c T)∧K.lookup T=none)
  (hbm:∃ bm ob,mg "__builtins__"=some (.ref bm)∧bm≠builtinsNs∧s₁.heap.get? bm=some ob∧ob.cls=.type "module"∧ob.dict=some builtinsNs∧ob.data=.plain)
  (F:∀ base:Heap,K.In base→base.Ns mainGlobals mg→(∃ bm,BMod mg base ts bm)→a1B P w K mg base CX k fa fd [x] sp) (hbind:∀ (s:Shared) (u:Value),BindsTo s fd ⟨[u],[]⟩ [(x,u)])
  (hsp:∀ H:Hp,(∀ T∈ts,H T=some (.tbl #[]))→SqL K H a (ns.map V.int)→sp [.ref a] H (fun v _=>v=.bl true) fun _ _ _=>False)
  (hCX:∀ H e s',CX [] H s₁ (fun _ _ _=>False) e s'→False) :
  codeAny (model P w) callerA (.call (.ref fa) ⟨[.ref a],[]⟩) (fun r s'=>r=.ok (.ret (.bool true))∧OldK s₁.heap s'.heap∧s'.os=s₁.os∧AllBare s'.gens) s₁:=by
 have rv:=a4y hi
 have lenV:=hi.length
 have core:∀ H:Hp,(∀ b,H b=none∨(∃ o xs,H b=some (.frz o (.lst xs))∧b=a)∨(H b=some (.tbl #[])∧b∈ts))→(∀ T∈ts,H T=some (.tbl #[]))→SqL K H a (ns.map V.int)→HOk P w H s₁.heap→(∀ b,H b≠none→K.lookup b=none) →
   codeAny (model P w) callerA (.call (.ref fa) ⟨[.ref a],[]⟩) (fun r s'=>r=.ok (.ret (.bool true))∧OldK s₁.heap s'.heap∧s'.os=s₁.os∧AllBare s'.gens) s₁:=by
  intro H hO hT hS hok hK
  have base_of:∀ {b:Addr} {o:Obj},s₁.heap.get? b=some o→H b=none→(a8N s₁.heap H).get? b=some o:=fun e n=>a8P e n
  have noA:∀ {b:Addr} {o:Obj} {es:Array DictEntry} {ep:Nat},s₁.heap.get? b=some o→o.data=.dict es ep→H b=none:=fun {b o es ep} e d=>by
   rcases hO b with z | ⟨_,_,_,rfl⟩ | ⟨_,hb'⟩
   ·exact z
   ·rw [ha] at e;cases e
    have d':Data.seq vs.toArray _=Data.dict es ep:=d
    cases d'
   ·rw [(ht b hb').1] at e;cases e
    have d':Data.fields #[]=Data.dict es ep:=d
    cases d'
  have nsK:∀ {b:Addr} {m:Str→Option Value},s₁.heap.Ns b m→(a8N s₁.heap H).Ns b m:=fun {b m} ⟨o,es,ep,e,d,r⟩=>⟨o,es,ep,base_of e (noA e d),d,r⟩
  have hKb:K.In (a8N s₁.heap H):=fun b o e=>base_of (KX b o e) (by
   cases q:H b with
   | none=>rfl
   | some u =>
    rw [hK b (by rw [q];simp)] at e;cases e)
  have hM:Mod K mg (a8N s₁.heap H):=⟨hKb,nsK hns,⟨mb,nsK hb,hbb⟩,let ⟨mc,h1,h2⟩:=hlim;⟨mc,nsK h1,h2⟩⟩
  have e0:a8O P w K mg (a8N s₁.heap H) callerA [] s₁ H:=⟨rfl,hM,fun b o e=>b0v e,Nat.le_of_eq (a7c _ _),trivial,fun b hb=>absurd (show b∈([]:List Addr) from hb) (by simp),hok,.of_eq hg⟩
  have hBM:∃ bm,BMod mg (a8N s₁.heap H) ts bm:=by
   obtain ⟨bm,ob,h1,h2,h3,h4,h5,h6⟩:=hbm
   have n1:bm≠a:=fun z=>by
    rw [z,ha] at h3
    cases h3
    have h4:Value.type "list"=Value.type "module":=h4
    injection h4 with e
    exact absurd e (by decide)
   have n2:∀ T∈ts,bm≠T:=fun T hT' z=>by
    rw [z,(ht T hT').1] at h3
    cases h3
    cases h6
   have ng:∀ {o:Obj},s₁.heap.get? mainGlobals=some o→∃ es ep,o.data=.dict es ep:=fun {o} e=>by
    obtain ⟨o',es,ep,e',d,_⟩:=hns
    rw [e'] at e
    cases e
    exact ⟨es,ep,d⟩
   refine ⟨bm,h1,⟨ob,base_of h3 ?_,h4,h5,h6⟩,h2,fun z=>?_,n2,fun T hT' z=>?_⟩
   ·rcases hO bm with z | ⟨_,_,_,z⟩ | ⟨_,z⟩
    ·exact z
    ·exact absurd z n1
    ·exact absurd rfl (n2 bm z)
   ·rw [z] at h3
    obtain ⟨es,ep,d⟩:=ng h3
    rw [d] at h6
    cases h6
   ·have:=(ht T hT').1
    rw [←z] at this
    obtain ⟨es,ep,d⟩:=ng this
    cases d
  refine codeAny_mono ((F _ hKb (nsK hns) hBM).run callerA [] s₁ H ⟨[.ref a],[]⟩ [.ref a] [.ref a] _ _ hr e0 (hbind s₁ (.ref a)) (.cons rfl .nil) (hsp H hT hS)) fun r s' h=>?_
  cases r with
  | error e=>exact (hCX H e s' h).elim
  | ok fl =>
   cases fl with
   | next=>exact False.elim h
   | brk=>exact False.elim h
   | cont=>exact False.elim h
   | ret u =>
    obtain ⟨v,H',os,bare,un,hok',r',q⟩:=h
    have q':v=.bl true:=q
    subst q'
    obtain rfl:u=Value.bool true:=r'
    refine ⟨rfl,⟨fun b o e=>?_,fun b o e=>un.there b o e (by simp)⟩,os,bare⟩
    rcases hO b with z | ⟨ob,xs,z,_⟩ | ⟨z,hb'⟩
    ·exact .inl (un.keep b o e z (by intro z;exact absurd (show b∈([]:List Addr) from z) (by simp)) (by simp))
    ·have z2:=un.frzs b ob _ z
     obtain ⟨e1,_⟩:=hok b _ z
     obtain ⟨e2,_⟩:=hok' b _ z2
     rw [e] at e1;cases e1
     exact .inl e2
    ·obtain ⟨more,z2⟩:=un.tbls b _ z
     have e1:s₁.heap.get? b=some (PySem.W.tabObj #[]):=(ht b hb').1
     have e2:s'.heap.get? b=some { cls:=.none,data:=.fields (#[]++more) }:=hok' b _ z2
     rw [e1] at e;cases e
     obtain ⟨c,C⟩:=(ht b hb').2.1
     exact .inr (.inl ⟨(C.tab e1).isCodeTable,rfl,#[],more,rfl,e2⟩)
 have neA:∀ T∈ts,T≠a:=fun T hT z=>by
  have e:=(ht T hT).1
  rw [z,ha] at e
  cases e
 have tOk:∀ {H:Hp} {T:Addr},T∈ts→a0A P w H s₁.heap T (.tbl #[]):=fun {H T} hT=>(ht T hT).1
 cases hk:K.lookup a with
 | some o =>
  have e:=KX a o hk
  rw [ha] at e
  cases e
  refine core (fun b=>if b∈ts then some (.tbl #[]) else none) (fun b=>?_) (fun T hT=>if_pos hT) (.inr ⟨_,vs.toArray,_,hk,rfl,rfl,rfl,by rw [List.size_toArray,lenV];exact hl,by simpa using rv⟩) (fun b u z=>?_) fun b z=>?_
  ·by_cases y:b∈ts
   ·exact .inr (.inr ⟨if_pos y,y⟩)
   ·exact .inl (if_neg y)
  ·by_cases y:b∈ts
   ·have z':=(if_pos y).symm.trans z
    cases z'
    exact tOk y
   ·have z':=(if_neg y).symm.trans z
    cases z'
  ·by_cases y:b∈ts
   ·exact (ht b y).2.2
   ·exact absurd (if_neg y) z
 | none =>
  refine core (fun b=>if b∈ts then some (.tbl #[]) else if b=a then some (.frz { cls:=.type "list",data:=.seq vs.toArray } (.lst (ns.map V.int))) else none) (fun b=>?_) (fun T hT=>if_pos hT) (.inl (.inr ⟨{ cls:=.type "list",data:=.seq vs.toArray },?_⟩)) (fun b u z=>?_) fun b z=>?_
  ·by_cases y:b∈ts
   ·exact .inr (.inr ⟨if_pos y,y⟩)
   ·by_cases hb':b=a
    ·exact .inr (.inl ⟨_,_,(if_neg y).trans (if_pos hb'),hb'⟩)
    ·exact .inl ((if_neg y).trans (if_neg hb'))
  ·exact (if_neg fun y=>neA a y rfl).trans (if_pos rfl)
  ·by_cases y:b∈ts
   ·have z':=(if_pos y).symm.trans z
    cases z'
    exact tOk y
   ·by_cases hb':b=a
    ·have z':=((if_neg y).trans (if_pos hb')).symm.trans z
     cases z'
     subst hb'
     exact ⟨ha,by rw [List.length_map];exact hl,vs,_,rv,ha⟩
    ·have z':=((if_neg y).trans (if_neg hb')).symm.trans z
     cases z'
  ·by_cases y:b∈ts
   ·exact (ht b y).2.2
   ·by_cases hb':b=a
    ·rw [hb'];exact hk
    ·exact absurd ((if_neg y).trans (if_neg hb')) z
theorem a9t {l:PySem.W.OpenLaw} {n k:Nat} {q:Program} {loose:List Str} {XP:(Str→Option Value)→Heap→Prop} {YP:World→Heap→Prop} {d:DefRec} {K:Params→PySem.W.Frag} {CX:World→CXT} {sp:World→Sp} {x:Str} {ts:List Addr}
  (hn:l.most=some n) (hn2:n≤sizeLine) (hdf:d.params.defaults=[]) (hr:a2s k callerA)
  (hY:∀ (w:World) (h:Heap),YP w h→(K w.params).In h∧∀ T∈ts,h.get? T=some (PySem.W.tabObj #[]))
  (hT:∀ (w:World),∀ T∈ts,(∃ c,PySem.W.codeHdIn (K w.params) c T=true)∧(K w.params).lookup T=none)
  (F:∀ (w:World) (mg:Str→Option Value) (fa:Addr) (h:Heap),(K w.params).In h→h.Ns mainGlobals mg→mg d.name=some (.ref fa) →
   ∃ fd:FuncData,(∀ (s:Shared) (u:Value),BindsTo s fd ⟨[u],[]⟩ [(x,u)]) ∧
    ∀ base:Heap,(K w.params).In base→base.Ns mainGlobals mg→(∃ bm,BMod mg base ts bm)→a1B l.prog w (K w.params) mg base (CX w) k fa fd [x] (sp w))
  (hsp:∀ (w:World) (H:Hp) (a:Addr) (ns:List Int),ns.length≤n→(∀ T∈ts,H T=some (.tbl #[]))→SqL (K w.params) H a (ns.map V.int)→sp w [.ref a] H (fun v _=>v=.bl true) fun _ _ _=>False)
  (hCX:∀ (w:World) (H:Hp) (s:Shared) (e:Value) (s':Shared),CX w [] H s (fun _ _ _=>False) e s'→False) :
  PySem.W.WalkO q loose XP YP l.row.toRowW d [] (fun f vs=>PySem.call f vs):=by
 refine Att.a5d hn hdf fun w s₀ s₁ mg mb fa o pm cd doc a vs ns G Y ho hd hcd hmg hobj hints hlen hg=>?_
 obtain ⟨KX,KT⟩:=hY w _ Y
 obtain ⟨fd,hb,hF⟩:=F w mg fa _ KX G.T.g hmg
 exact a7Z KX G.T.g G.T.b G.T.builtins G.T.nolimit hg hobj hints (Nat.le_trans hlen hn2) hr (fun T hT'=>⟨KT T hT',(let ⟨c,e⟩:=(hT w T hT').1;⟨c,PySem.W.codeHd_of_K KX e⟩),(hT w T hT').2⟩) G.T.bmain hF hb (fun H hO hS=>hsp w H a ns hlen hO hS) fun H e s'=>hCX w H s₁ e s'
end L2
namespace L2
open PySem PySem.Spec PyProof.Rows PySem.W
def b1h (m:Nat):List Nat:=(List.range 8).filter fun i=>m.testBit i
structure SmT (b:Bool) (m:Nat) (t:SetTable):Prop where
 lt:m < 256
 place:t.place=(b1h m).toArray
 dum:t.dummies=#[]
 plain:t.plain=true
 led:t.led=!b
 mask:t.mask=7∧(b1h m).length < 5∨t.mask=31
structure SmE (m:Nat) (es:Array (Int × Value)):Prop where
 vals:es.toList.map (·.1)=(b1h m).map Int.ofNat
 int:∀ e∈es.toList,∃ tk,e.2=.int e.1 tk
section
variable {prog:Program} {w:World} {A:Around} {E:Value→Shared→Prop} {s:Shared} {b:Bool}
def SmAt (b:Bool) (m:Nat) (h:Heap) (a:Addr):Prop:=∃ o es ep t,h.get? a=some o∧o.ExactSet∧o.data=.set es ep t∧SmT b m t∧SmE m es
end
section
variable {prog:Program} {w:World} {A:Around} {E:Value→Shared→Prop} {s:Shared} {b:Bool} {m ep:Nat} {es:Array (Int × Value)} {t:SetTable} {a it:Addr}
end
def SetO (w:World) (a:Addr) (m:Nat):HO:=.ext fun h=>SmAt (w.params.followText "set-order") m h a
end L2
namespace L2
open PySem PySem.Spec PyProof.Rows
def tCompE (K:PySem.W.Frag) (k:Bool) (ta:TA) (tc:TT) (te:TE):TE:=fun σ H Q=>ta σ H fun vs H1=>∃ a xs,vs=[.ref a]∧SqK K k H1 a xs∧∀ d,H1 d=none →
 ∃ Pv:Nat→Hp→Prop,Pv 0 (upd H1 d (.lst []))∧(∀ i H,i≤xs.length→Pv i H→SqK K k H a xs)∧(∀ i x p H,xs[i]?=some x→Pv i H→H p=none→a4F tc te σ d (.int i) x (upd H p (.tup [.int i,x])) (Pv (i+1)))∧∀ H,Pv xs.length H→Q (.ref d) H
theorem a8a {K:PySem.W.Frag} {k:Bool} {a:Addr} {xs:List V} {tc:TT} {te:TE} {σ:St} {H:Hp} {Q:VK} {d:Addr} (Pv:Nat→Hp→Prop) (h0:Pv 0 (upd H d (.lst []))) (hl:∀ i H,i≤xs.length→Pv i H→SqK K k H a xs)
  (hs:∀ i x p H,xs[i]?=some x→Pv i H→H p=none→a4F tc te σ d (.int i) x (upd H p (.tup [.int i,x])) (Pv (i+1)))
  (hd:∀ H,Pv xs.length H→Q (.ref d) H) :
  ∃ W:Nat→Nat→Hp→Prop,(∃ m,W 0 m (upd H d (.lst [])))∧∀ i m H,W i m H →
   ((Ite K k a).stop i H∧Q (.ref d) H)∨((Ite K k a).go i H∧∃ N:Hp→Prop,(∀ H',N H'→∃ m',m' < m∧W (i+1) m' H')∧∀ x H',(Ite K k a).yld i H x H'→a4G K x (List.replicate 2 none++σ) H' fun σ2 H2 =>
    tc σ2 H2 fun b H3=>if b=true then te σ2 H3 fun y H4=>∃ ys,H4 d=some (.lst ys)∧ys.length < sizeLine∧N (upd H4 d (.lst (ys++[y]))) else N H3):=by
 refine ⟨fun i m H=>m=xs.length - i∧i≤xs.length∧Pv i H,⟨xs.length,by simp,Nat.zero_le _,h0⟩,?_⟩
 rintro i m H ⟨rfl,hi,p⟩
 have q1:=hl i H hi p
 by_cases hlt:i < xs.length
 ·refine .inr ⟨⟨xs,_,q1,List.getElem?_eq_getElem hlt⟩,Pv (i+1),fun H' n=>⟨xs.length - (i+1),by omega,rfl,by omega,n⟩,?_⟩
  rintro v H' ⟨p',x,rfl,hn,e1,rfl⟩
  exact ⟨p',[.int i,x],rfl,SqT.of a0b,rfl,.int i,[x],rfl,x,[],rfl,rfl,hs i x p' H (e1 _ q1) p hn⟩
 ·have e:i=xs.length:=by omega
  subst e
  exact .inl ⟨⟨xs,q1,Nat.le_refl _⟩,hd H p⟩
theorem a9u {X:Cx} (K:PySem.W.Frag) (k:Bool) {elt a:Expr} {t1 t2:Str} {p1 p2 tp p pos pos':Pos} {k':Nat} {cs:List Expr} {scope:Scope} {tc:TT} {te:TE} {ta:TA} {M:List Str} (hc:X.calm=true) (S:a0l scope X.env X.N M) (nd:(t1 :: t2 :: M).Nodup) (hl1:scope.names.lookup t1=some .local) (hl2:scope.names.lookup t2=some .local)
  (hg:Gl X "enumerate") (hm:X.mg "enumerate"=none) (ha:PA X [a] ta) (mo:a4A ta)
  (hin:∀ (cl:List (Str × Addr)) (C:Addr) (s0:Shared) (H0:Hp) (fp:List Addr) (pins:List (Addr × Obj)) (σ:St),b1T X (cxC X scope cl C s0 H0 fp (t1 :: t2 :: M)) pins σ fp C s0 H0→PTs (cxC X scope cl C s0 H0 fp (t1 :: t2 :: M)) cs tc∧PE (cxC X scope cl C s0 H0 fp (t1 :: t2 :: M)) elt te)
  (hs:starEach [a] X.env=[(false,eval a X.env)]:=by rfl) (hf:∀ x,foldedSetIterable (.Call (.Name "enumerate" p) [a] [] pos') X.env x=pure x:=by intro _;rfl) (hK:X.K=K:=by rfl) :
  PE X (.ListComp elt [⟨.Tuple [.Name t1 p1,.Name t2 p2] k' tp,.Call (.Name "enumerate" p) [a] [] pos',cs,0⟩] scope pos) (tCompE K k ta tc te):=by
 subst hK
 have hx1:(relabel scope X.env).names.lookup t1=some .local:=by rw [a0z,hl1];rfl
 have hx2:(relabel scope X.env).names.lookup t2=some .local:=by rw [a0z,hl2];rfl
 refine PE.imp (a3K (xs:=[t1,t2]) (M:=M) (g:=a4G X.K) hc S (b0W k hg hm ha hs) (fun cl C s0 H0 fp pins σ bk=>⟨a7e hc (a1U (a0E (i:=0) nd rfl (Or.inl hx1) (Or.inr hx1)) (a1U (a0E (i:=1) nd rfl (Or.inl hx2) (Or.inr hx2)) a4Z)),hin cl C s0 H0 fp pins σ bk⟩) (fun v σ H Q h=>a2Z h) hf) (fun σ H Q h=>?_)
 refine mo σ H _ _ (fun vs H1 q=>?_) h
 obtain ⟨a',xs,e,q1,q⟩:=q
 refine ⟨a',xs,e,q1,fun d hd=>?_⟩
 obtain ⟨Pv,h0,hl,hs,hd⟩:=q d hd
 exact a8a Pv h0 hl hs hd
def onK (ps:List Int) (q:Int × List Int):List (Int × List Int):=(List.range ps.length).map fun i=>(q.1+ps.getD i 0,q.2++[(i:Int)])
end L2
namespace HT
open PySem PySem.Spec PyProof.Rows
section
open PySem.SeqAt
open PySem.AutoSeq1 (wpAny_loadPart')
open PySem.MeetsSeq PySem.MeetsSeq2 PySem.MeetsSeq3
end
end HT
namespace L2
open PySem PySem.Spec PyProof.Rows
section
variable {prog:Program} {w:World} {A:Around} {E:Value→Shared→Prop} {s:Shared}
end
def rNePw:R2:=fun x y H Q=>∃ p q,RPw H x p∧RPw H y q∧Q (.bl (!decide (p=q))) H
section
variable {X:Cx} {k:Nat} {Rg:Addr→List V→Hp→VK→Prop} {pins:List (Addr × Obj)} {σ:St} {H:Hp} {a g I S:Addr} {xs:List V} {ks:Nat→List Int} {R:Result→Shared→Prop} {Q:VK}
abbrev btK (ks:Nat→List Int):Nat→Nat→Bool:=fun i j=>HT.a0S (ks i) (ks j)
abbrev kwK (g:Value):List (Str × Value):=[(Str.ofString "key",g)]
def rMinK (Rg:Addr→List V→Hp→VK→Prop) (vs zs:List V) (H:Hp) (Q:VK):Prop:=∃ (a g:Addr) (xs:List V) (ks:Nat→List Int),vs=[.ref a]∧zs=[.ref g]∧H a=some (.lst xs)∧0 < xs.length ∧
 (∀ i x H1 Q1,xs[i]?=some x→a0v H H1→(∀ t H2,a0v H1 H2→H2 t=some (.tup ((ks i).map V.int))→Q1 (.ref t) H2)→Rg g [x] H1 Q1)∧∀ x H',xs[argBest (btK ks) (xs.length - 1)]?=some x→a0v H H'→Q x H'
end
end L2
namespace L2
open PySem PySem.Spec PyProof.Rows PySem.W
theorem a3w (u v:List Int) (h:HT.a0S u v=true):HT.a0S v u=false:=by
 cases e:HT.a0S v u with
 | false=>rfl
 | true=>have z:=a1W _ _ _ h e;rw [a1g] at z;cases z
theorem a8b (u v w:List Int) (h1:HT.a0S v u=false) (h2:HT.a0S w v=false):HT.a0S w u=false:=by
 by_cases z1:v=u
 ·rw [←z1];exact h2
 ·by_cases z2:w=v
  ·rw [z2];exact h1
  ·exact a3w _ _ (a1W _ _ _ (a1Q _ _ z1 h1) (a1Q _ _ z2 h2))
section
variable {prog:Program} {w:World} {A:Around} {E:Value→Shared→Prop} {s:Shared}
theorem a8c {a kS:Addr} {vs kv:List Value} {ks:List (List Int)} {e1 e:Nat} {P:PySem.Fin→Shared→Prop} (ho:s.heap.get? a=some (seqObj "list" #[] e1)) (hS:s.heap.get? kS=some (seqObj "list" kv.toArray e)) (hne:kS≠a) (hz:vs.length≤1000) (hl:kv.length=vs.length) (hk:ks.length=vs.length) (t:∀ i,i < vs.length→a4H s.heap (kv.getD i Value.none) (ks.getD i [])) (nd:ks.Nodup) (nn:∀ k∈ks,k≠[])
  (h:∀ (h':Heap) (p:Array Nat) (c:Nat),Pm vs.length p→(p.toList.map fun i=>ks.getD i []).Pairwise Lx→h'.get? a=some (seqObj "list" (p.toList.map fun i=>vs.getD i Value.none).toArray c)→(∀ b o,b≠a→b≠kS→s.heap.get? b=some o→h'.get? b=some o)→P (.done (.ret .none)) { s with heap:=h' }) :
  wpAny (model prog w) A (ksk_end a false vs.toArray e1 (.ref kS) kv.toArray) P E s:=by
 have o:Ord vs.length (ltK ks):=by rw [←hk];exact ordK nd
 have ndv:kv.Nodup:=by
  unfold List.Nodup
  rw [List.pairwise_iff_getElem]
  intro i j hi hj hij z
  have q1:kv.getD i Value.none=kv[i]:=by rw [List.getD_eq_getElem?_getD,List.getElem?_eq_getElem hi];rfl
  have q2:kv.getD j Value.none=kv[j]:=by rw [List.getD_eq_getElem?_getD,List.getElem?_eq_getElem hj];rfl
  have t1:=t i (by omega)
  have t2:=t j (by omega)
  rw [q1,z] at t1
  rw [q2] at t2
  have k:=t1.inj t2
  rw [List.getD_eq_getElem?_getD,List.getD_eq_getElem?_getD,List.getElem?_eq_getElem (by omega),List.getElem?_eq_getElem (by omega)] at k
  have:=(List.getElem_inj nd).mp k
  omega
 obtain ⟨e2,hS2⟩:∃ e2,(s.heap.update kS (Obj.mapSeq fun _=>(#[]:Array Value))).get? kS=some (seqObj "list" #[] e2):=⟨_,get?_update_seq hS fun _=>#[]⟩
 have ho2:(s.heap.update kS (Obj.mapSeq fun _=>(#[]:Array Value))).get? a=some (seqObj "list" #[] e1):=by rw [Heap.get?_update_ne _ _ _ _ hne.symm];exact ho
 have kp:∀ b o,b≠kS→s.heap.get? b=some o→(s.heap.update kS (Obj.mapSeq fun _=>(#[]:Array Value))).get? b=some o:=fun b o hb e=>by rw [Heap.get?_update_ne _ _ _ _ hb];exact e
 have last:∀ (out:List Value),∃ c,((s.heap.update kS (Obj.mapSeq fun _=>(#[]:Array Value))).update a (Obj.mapSeq fun _=>out.toArray)).get? a=some (seqObj "list" out.toArray c)∧(∀ b o,b≠a→b≠kS→s.heap.get? b=some o→((s.heap.update kS (Obj.mapSeq fun _=>(#[]:Array Value))).update a (Obj.mapSeq fun _=>out.toArray)).get? b=some o):=fun out =>
  ⟨_,get?_update_seq ho2 fun _=>out.toArray,fun b o hb hb2 e=>(Heap.get?_update_ne _ _ _ _ hb).trans (kp b o hb2 e)⟩
 unfold ksk_end
 simp only [Bool.false_eq_true,if_false]
 by_cases h2:vs.toArray.size < 2
 ·rw [if_pos h2,if_pos h2]
  refine wpAny_bind (wpAny_pure ?_)
  rw [StateT.run_pure]
  refine wpAny_bind (wpAny_pure ?_)
  unfold ksk_tail
  dsimp only
  have e4:Array.map (fun x=>x.snd) (arrOf (SortSt.mk' general' (kv.toArray.zip vs.toArray) #[] 7 none))=vs.toArray:=by
   show Array.map (fun x=>x.snd) (kv.toArray.zip vs.toArray)=vs.toArray
   apply Array.toList_inj.mp
   simp [List.map_snd_zip,hl]
  rw [e4]
  rw [List.size_toArray] at h2
  have er:((List.range vs.length).toArray.toList.map fun i=>vs.getD i Value.none)=vs:=by
   refine List.ext_getElem (by simp) fun i h1 h2=>?_
   simp [List.getD_eq_getElem?_getD,List.getElem?_eq_getElem h2]
  obtain ⟨c,hc,kk⟩:=last vs
  refine wpAny_bind (listUpdate_at hS rfl ?_ (by rw [List.size_toArray,sizeLine_eq];omega) (Nat.zero_le _))
  refine wpAny_bind (wpAny_letGo ?_)
  refine wpAny_bind (seqEpoch_at ho2 rfl ?_)
  refine wpAny_bind (listUpdate_at ho2 rfl ?_ (Nat.zero_le _) (by simp [sizeLine_eq];omega))
  simp only [bne_self_eq_false,Bool.false_eq_true,if_false]
  refine wpAny_pure (h _ (List.range vs.length).toArray c (Array.Perm.refl _) ?_ (by rw [er];exact hc) kk)
  have:((List.range vs.length).toArray.toList.map fun i=>ks.getD i []).length≤1:=by simp;omega
  match ((List.range vs.length).toArray.toList.map fun i=>ks.getD i []),this with
  | [],_=>exact .nil
  | [x],_=>exact List.pairwise_singleton _ _
  | x :: y :: r,z=>simp at z
 ·rw [if_neg h2,if_neg h2]
  rw [List.size_toArray] at h2
  have at_:∀ v∈kv,∃ i,i < vs.length∧v=kv.getD i Value.none:=fun v hv=>by
   obtain ⟨i,hi⟩:=List.mem_iff_getElem?.mp hv
   exact ⟨i,by have:=(List.getElem?_eq_some_iff.mp hi).1;omega,by rw [List.getD_eq_getElem?_getD,hi];rfl⟩
  refine wpAny_bind (a4I (s:=s) (by omega) (fun v hv=>?_) ?_)
  ·obtain ⟨i,hi,rfl⟩:=at_ v hv
   have z:=t i hi
   have hki:ks[i]?=some (ks[i]'(by omega)):=List.getElem?_eq_getElem _
   have e:ks.getD i []=ks[i]'(by omega):=by rw [List.getD_eq_getElem?_getD,hki];rfl
   have ne:=nn _ (List.getElem_mem (by omega:i < ks.length))
   rw [e] at z
   cases hz:ks[i]'(by omega) with
   | nil=>exact absurd hz ne
   | cons n ns=>rw [hz] at z;exact ⟨n,ns,z⟩
  have za:(kv.toArray.zip vs.toArray).toList=kv.zip vs:=by rw [Array.toList_zip]
  have zs:(kv.toArray.zip vs.toArray).size=vs.length:=by simp [hl]
  have gv:∀ v∈kv,kv.getD (ixv kv v) Value.none=v:=fun v hv=>by rw [List.getD_eq_getElem?_getD,a3X ndv hv];rfl
  have lv:∀ v∈kv,ixv kv v < vs.length:=fun v hv=>by have:=(List.getElem?_eq_some_iff.mp (a3X ndv hv)).1;omega
  let S:Keyed→Prop:=fun x=>x.1∈kv∧x.2=vs.getD (ixv kv x.1) Value.none
  have zS:∀ x∈kv.zip vs,S x:=fun x hx=>by
   obtain ⟨i,hi⟩:=List.mem_iff_getElem?.mp hx
   rw [List.getElem?_zip_eq_some] at hi
   refine ⟨List.mem_of_getElem? hi.1,?_⟩
   rw [a7U ndv hi.1,List.getD_eq_getElem?_getD,hi.2]
   rfl
  have C:Cmp prog w A E s (tuples' true) (fun x y=>ltK ks (ixv kv x.1) (ixv kv y.1)) S:=by
   intro x y st Q hx hy hκ q
   rw [lt'_eq]
   refine wpS_bind (wpS_get ?_)
   rw [hκ]
   have z1:=t _ (lv _ hx.1)
   have z2:=t _ (lv _ hy.1)
   rw [gv _ hx.1] at z1
   rw [gv _ hy.1] at z2
   obtain ⟨b,items,e,⟨ob,hb,hc,k,hd⟩,hi1⟩:=z1
   obtain ⟨b2,items2,e2,⟨ob2,hb2,hc2,k2,hd2⟩,hi2⟩:=z2
   rw [e,e2]
   refine wpS_bind (wpS_lift (wpAny_attempt (kat_lt hb hd hb2 hd2 (a3Q _ _ _ _ 0 hi1 hi2 ?_ ⟨rfl,?_⟩))))
   ·have l1:=hi1.length
    have l2:=hi2.length
    simp only [Array.length_toList] at l1 l2
    rw [l1,l2]
   ·exact wpS_pure q
  have irr:∀ i,ltK ks i i=false:=fun i=>a1g _
  have sa:SA (fun x y=>ltK ks (ixv kv x.1) (ixv kv y.1)) S (kv.toArray.zip vs.toArray):=by
   refine ⟨⟨fun x y q=>a3w _ _ q,fun x y z q1 q2=>a8b _ _ _ q1 q2⟩,fun x hx=>?_⟩
   ·rw [za] at hx
    exact zS x hx
  refine wpAny_bind (wpAny_mono (a5X C sa (st:=SortSt.mk' (tuples' true) (kv.toArray.zip vs.toArray) #[] 7 none) (Q:=fun _ st'=>SB (tuples' true) (kv.toArray.zip vs.toArray) st'∧Srt (fun x y=>ltK ks (ixv kv x.1) (ixv kv y.1)) (arrOf st') 0 (kv.toArray.zip vs.toArray).size) ⟨Array.Perm.refl _,rfl,rfl⟩ rfl fun st' a1 a2=>⟨a1,a2⟩) ?_ fun _ _ e=>e)
  rintro ⟨⟨⟩,st'⟩ s' ⟨rfl,hB,hS'⟩
  dsimp only
  rw [zs] at hS'
  have pm0:=Array.perm_iff_toList_perm.mp hB.perm
  rw [za] at pm0
  have sz:(arrOf st').size=vs.length:=by rw [hB.size,zs]
  have inv:∀ x∈(arrOf st').toList,S x:=fun x hx=>zS x (pm0.mem_iff.mp hx)
  have pl:((arrOf st').map fun x=>ixv kv x.1).toList=(arrOf st').toList.map fun x=>ixv kv x.1:=by simp
  have pm:Pm vs.length ((arrOf st').map fun x=>ixv kv x.1):=by
   show Array.Perm _ _
   rw [Array.perm_iff_toList_perm,pl]
   have q:=pm0.map fun x=>ixv kv x.1
   have e:((kv.zip vs).map fun x:Keyed=>ixv kv x.1)=List.range vs.length:=by
    have:=a7V ndv
    rw [←hl,←this,←List.map_fst_zip (l₁:=kv) (l₂:=vs) (by omega),List.map_map]
    rw [List.map_fst_zip (l₁:=kv) (l₂:=vs) (by omega)]
    rfl
   rw [e] at q
   exact q
  have pg:∀ i,i < vs.length→((arrOf st').map fun x=>ixv kv x.1).getD i 0=ixv kv (el (arrOf st') i).1:=fun i hi=>by
   rw [a5l]
   have:((arrOf st').map fun x=>ixv kv x.1)[i]?=some (ixv kv (el (arrOf st') i).1):=by
    rw [Array.getElem?_map,a3p (by rw [sz];exact hi)]
    rfl
   rw [this]
   rfl
  have as:Asc (ltK ks) ((arrOf st').map fun x=>ixv kv x.1) vs.length:=fun i hi=>by
   have ne:=pm.inj (show i+1 < vs.length from hi) (show i < vs.length by omega) (by omega)
   rw [pg i (by omega),pg (i+1) hi] at *
   exact o.tot _ _ (lv _ (inv _ (a2o (by rw [sz];exact hi))).1) (lv _ (inv _ (a2o (by rw [sz];omega))).1) ne (hS' i (i+1) (Nat.zero_le _) (Nat.lt_succ_self _) hi)
  have hout:Array.map (fun x=>x.snd) (arrOf st')=(((arrOf st').map fun x=>ixv kv x.1).toList.map fun i=>vs.getD i Value.none).toArray:=by
   apply Array.toList_inj.mp
   rw [pl,List.map_map,Array.toList_map]
   exact List.map_congr_left fun x hx=>(inv x hx).2
  obtain ⟨c,hc,kk⟩:=last (((arrOf st').map fun x=>ixv kv x.1).toList.map fun i=>vs.getD i Value.none)
  unfold ksk_tail
  dsimp only
  refine wpAny_bind (listUpdate_at hS rfl ?_ (by rw [List.size_toArray,sizeLine_eq];omega) (Nat.zero_le _))
  refine wpAny_bind (wpAny_letGo ?_)
  refine wpAny_bind (seqEpoch_at ho2 rfl ?_)
  rw [hout]
  refine wpAny_bind (listUpdate_at ho2 rfl ?_ (Nat.zero_le _) (by simp [sz,sizeLine_eq];omega))
  rw [hB.failed]
  simp only [bne_self_eq_false,Bool.false_eq_true,if_false]
  exact wpAny_pure (h _ _ c pm (a1R o pm as fun i j z=>z) hc kk)
end
structure b1i (X:Cx) (σ:St) (Rg:Addr→List V→Hp→VK→Prop):Prop where
 run:∀ (pins:List (Addr × Obj)) (H:Hp) (s:Shared) (g:Addr) (us:List Value) (vs:List V) (Q:VK),Inv X pins σ H s→a0J vs us→Rg g vs H Q→codeAny (model X.prog X.w) X.A.in1.in1 (.call (.ref g) ⟨us,[]⟩) (CR CX0 X.stack X.prog X.w H s Q E0) s
def RgC (X:Cx) (cl:List (Str × Addr)) (R:Addr→List V→Hp→VK→Prop) (σ:St):Addr→List V→Hp→VK→Prop:=fun g vs H1 Q=>∀ os:Addr→Obj,(∀ (j i:Nat) (n:Str) (c:Addr) (v:V),cl[j]?=some (n,c)→X.N[i]?=some n→σ[i]?=some (some v)→∃ u,(os c).data=.cell (some u)∧a0T v u)→(∀ c∈cl.map (·.2),H1 c=none) →
 R g vs (trk' (cl.map (·.2)) os H1) (fun v H3=>(∀ c∈cl.map (·.2),H3 c=some (exA c (os c)))∧Q v (unt (cl.map (·.2)) H3))
theorem b1i.cells {X:Cx} {σ:St} {k:Nat} {cl:List (Str × Addr)} {R:Addr→List V→Hp→VK→Prop} (L:b1e X.prog X.w X.K X.mg X.base k R) (hr:a2s (k+2) X.A) (hc:a5v X cl):b1i X σ (RgC X cl R σ):=⟨fun pins H1 s1 g us vs Q I1 r q=>by
 have mem:∀ c∈cl.map (·.2),∃ n,(n,c)∈cl:=fun c hc=>by
  obtain ⟨⟨n,c'⟩,h1,rfl⟩:=List.mem_map.mp hc
  exact ⟨n,h1⟩
 let os:Addr→Obj:=fun c=>(s1.heap.get? c).getD ⟨.none,none,.plain,#[]⟩
 have gg:∀ c∈cl.map (·.2),s1.heap.get? c=some (os c):=fun c hc'=>by
  obtain ⟨n,hn⟩:=mem c hc'
  obtain ⟨v,o,ho,_⟩:=I1.cell n c (hc.at' _ hn)
  show _=some ((s1.heap.get? c).getD _)
  rw [ho]
  rfl
 have nn:∀ c∈cl.map (·.2),H1 c=none:=fun c hc'=>by
  obtain ⟨n,hn⟩:=mem c hc'
  exact I1.freeC n c (hc.at' _ hn)
 have above:∀ c∈cl.map (·.2),X.s₀.heap.objs.size≤c:=fun c hc'=>by
  obtain ⟨n,hn⟩:=mem c hc'
  exact I1.ok.cab n c (hc.fn _ hn) (hc.at' _ hn)
 have hq:=q os (fun j i n c v h1 h2 h3=>by
  have hmem:=List.mem_of_getElem? h1
  obtain ⟨m,hn,hl⟩:=I1.loc
  obtain ⟨u,rv,l⟩:=hl i n v h2 h3 (.inr (.inl (hc.ki _ hmem)))
  refine ⟨u,?_,rv⟩
  rcases l with ⟨hk',_⟩ | ⟨_,c0,e0,o,ho,hd⟩
  ·have z:some NameKind.cell=some .local:=(hc.ki _ hmem).symm.trans hk'
   cases z
  ·have ec:some c0=some c:=e0.symm.trans (hc.at' _ hmem)
   cases ec
   have:os c=o:=by
    show (s1.heap.get? c).getD _=o
    rw [ho]
    rfl
   rw [this]
   exact hd) nn
 have e0:=I1.env0
 have e1:a8O X.prog X.w X.K X.mg X.base X.A X.stack s1 (trk' (cl.map (·.2)) os H1):=⟨e0.frames,e0.mod,fun b o hb'=>⟨(e0.bs b o hb').1,by
  rw [a1d fun z=>Nat.lt_irrefl _ (Nat.lt_of_lt_of_le (Heap.lt_size hb') (Nat.le_trans I1.ok.bsz (above b z)))]
  exact (e0.bs b o hb').2⟩,e0.bsz,e0.funs,fun b hb'=>by
  rw [a1d fun z=>?_]
  ·exact e0.frf b hb'
  ·obtain ⟨n,hn⟩:=mem b z
   rcases List.mem_cons.mp (I1.stkSub b hb') with y | y
   ·exact I1.cne n b (hc.at' _ hn) y
   ·obtain ⟨_,o,ho,_⟩:=I1.ok.funs.mem y
    exact Nat.lt_irrefl _ (Nat.lt_of_lt_of_le (Heap.lt_size ho) (above b z)),e0.hok.trk nn gg,e0.bare⟩
 refine codeAny_mono (L.run X.A.in1.in1 X.stack s1 _ g us vs _ hr.in1.in1 e1.in1.in1 r hq) fun r s' hq'=>?_
 cases r with
 | error e=>exact False.elim hq'
 | ok fl =>
  cases fl with
  | ret u =>
   obtain ⟨v,H3,os',bare,un,hok3,rv,q3,q4⟩:=hq'
   have g3:∀ c∈cl.map (·.2),s'.heap.get? c=some (os c):=fun c hc'=>(hok3 c _ (q3 c hc')).1
   exact ⟨v,unt (cl.map (·.2)) H3,os',bare,un.untrk nn gg g3,hok3.unt fun a ha=>⟨_,q3 a ha⟩,rv,q4⟩
  | next=>exact False.elim hq'
  | brk=>exact False.elim hq'
  | cont=>exact False.elim hq'⟩
section
variable {X:Cx} {k:Nat} {Rg:Addr→List V→Hp→VK→Prop} {pins:List (Addr × Obj)} {σ:St} {H:Hp} {a g kS:Addr} {xs:List V} {ks:Nat→List Int} {s:Shared} {P:PySem.Fin→Shared→Prop} {E:Value→Shared→Prop}
theorem a4L {ks:Nat→List Int} {n i:Nat} (h:i < n):((List.range n).map ks).getD i []=ks i:=by
 rw [List.getD_eq_getElem?_getD,List.getElem?_map,List.getElem?_range h]
 rfl
theorem a6S (L:b1i X σ Rg) {vs:List Value} {e1:Nat} (J:Inv X pins σ H s) (ho:s.heap.get? a=some (seqObj "list" #[] e1)) (hS:s.heap.get? kS=some (seqObj "list" #[] 0)) (hne:kS≠a) (fa:∀ H',H' a=none→a4n X pins H' a) (fS:∀ H',H' kS=none→a4n X pins H' kS) (na:H a=none) (nS:H kS=none) (rv:a0J xs vs) (hz:vs.length≤1000)
  (hk:∀ i x H1 Q1,xs[i]?=some x→a0v H H1→(∀ t H2,a0v H1 H2→H2 t=some (.tup ((ks i).map V.int))→Q1 (.ref t) H2)→Rg g [x] H1 Q1) (nd:((List.range vs.length).map ks).Nodup) (nn:∀ i,i < vs.length→ks i≠[])
  (h:∀ (s':Shared) (H':Hp) (p:Array Nat) (c:Nat),Inv X pins σ H' s'→a0v H H'→H' a=none→Pm vs.length p→(p.toList.map ks).Pairwise Lx→s'.heap.get? a=some (seqObj "list" (p.toList.map fun i=>vs.getD i Value.none).toArray c)→P (.done (.ret .none)) s') :
  wpAny (model X.prog X.w) X.A.in1.in1 (ksk_rest a (.ref g) false vs.toArray e1 (.ref kS)) P E s:=by
 have hl:=rv.length
 unfold ksk_rest
 refine wpAny_bind (wpAny_rule ?_)
 first
  | rw [List.forIn_toArray]
  | (rw [←Array.forIn_toList];simp only [List.toList_toArray])
  | rw [←Array.forIn_toList]
 refine wpAny_bind (ksk_fold (fun i s'=>∃ (Hi:Hp) (ts:List Addr) (e:Nat),Inv X pins σ Hi s'∧a0v H Hi∧Hi a=none∧Hi kS=none∧s'.heap.get? a=some (seqObj "list" #[] e1)∧s'.heap.get? kS=some (seqObj "list" (ts.map Value.ref).toArray e)∧ts.length=i∧∀ j t,ts[j]?=some t→Hi t=some (.tup ((ks j).map V.int))) vs 0 s
  ⟨H,[],0,J,a0v.refl _,na,nS,ho,hS,rfl,fun j t z=>by simp at z⟩ ?step ?done)
 case step =>
  rintro j u s' hu ⟨Hi,ts,e,Ji,sm,nai,nSi,hoi,hSi,lt,hts⟩
  simp only [Nat.zero_add] at lt ⊢
  have hj:j < vs.length:=(List.getElem?_eq_some_iff.mp hu).1
  have hx:xs[j]?=some (xs[j]'(by omega)):=List.getElem?_eq_getElem _
  obtain ⟨u',hu',ru⟩:=rv.get hx
  rw [hu] at hu'
  cases hu'
  have J2:=Ji.pinned (fp:=[a,kS]) (fun b hb=>by
   rcases List.mem_cons.mp hb with rfl | hb
   ·exact fa Hi nai
   ·rw [List.mem_singleton.mp hb];exact fS Hi nSi) (fun b hb=>by
   rcases List.mem_cons.mp hb with rfl | hb
   ·exact ⟨_,hoi,fun v z=>by cases z⟩
   ·rw [List.mem_singleton.mp hb]
    exact ⟨_,hSi,fun v z=>by cases z⟩)
  refine wpAny_bind (wpAny_attempt (wpAny_call (codeAny_mono (L.run _ Hi _ g [u] [xs[j]'(by omega)] (fun v H2=>∃ t,v=.ref t∧a0v Hi H2∧H2 t=some (.tup ((ks j).map V.int))) J2 (.cons ru .nil) (hk _ _ _ _ hx sm fun t H2 s2 h2=>⟨t,rfl,s2,h2⟩)) fun r s3 hq=>?_)))
  cases r with
  | error e=>exact False.elim hq
  | ok fl =>
  cases fl with
  | next=>exact False.elim hq
  | brk=>exact False.elim hq
  | cont=>exact False.elim hq
  | ret uv =>
  obtain ⟨v,H2,J3,rv3,t,rfl,s2,h2⟩:=J2.after hq
  cases rv3
  have pa:=J3.pin (a,_) (List.mem_append_right _ (List.mem_append_right _ (a1k (by simp) hoi)))
  have pS:=J3.pin (kS,_) (List.mem_append_right _ (List.mem_append_right _ (a1k (by simp) hSi)))
  have J4:=J3.unpinned
  obtain ⟨g0,g1,g2,g3,g4,g5⟩:=fS H2 pS.2.1
  obtain ⟨c2,hc2⟩:∃ c2,(s3.heap.update kS (Obj.mapSeq (·.push (.ref t)))).get? kS=some (seqObj "list" ((ts.map Value.ref).toArray.push (.ref t)) c2):=⟨_,get?_update_seq pS.1 (·.push (.ref t))⟩
  try dsimp only
  refine wpAny_bind (listUpdate_at pS.1 rfl ?_ (by simp [sizeLine_eq];omega) (by simp [sizeLine_eq];omega))
  refine wpAny_pure ⟨rfl,H2,ts++[t],c2,J4.turned (t':=s3.toks) (fun b o hb e=>by rw [Heap.get?_update_ne _ _ _ _ hb];exact e) g0 g1 g3 g4 g5,sm.trans s2,pa.2.1,pS.2.1,?_,?_,by simp [lt],fun i t' hi=>?_⟩
  ·rw [Heap.get?_update_ne _ _ _ _ hne.symm];exact pa.1
  ·rw [hc2]
   congr 2
   simp
  ·by_cases z:i < ts.length
   ·rw [List.getElem?_append_left z] at hi
    exact s2 _ _ (hts i t' hi)
   ·have zi:i=j:=by
     have:=(List.getElem?_eq_some_iff.mp hi).1
     rw [List.length_append] at this
     have:i < ts.length+1:=this
     omega
    subst zi
    rw [List.getElem?_append_right (by omega),lt,Nat.sub_self] at hi
    cases hi
    exact h2
 case done =>
  rintro s' ⟨Hi,ts,e,Ji,sm,nai,nSi,hoi,hSi,lt,hts⟩
  rw [Nat.zero_add] at lt
  try dsimp only
  refine wpAny_bind (listItems_at hSi rfl ?_)
  refine a8c (ks:=(List.range vs.length).map ks) hoi hSi hne hz (by rw [List.length_map,lt]) (by simp) (fun i hi=>?_) nd (fun q hq=>?_) (fun h' p c pm pw hh kp=>?_)
  ·have ht:ts[i]?=some (ts[i]'(by omega)):=List.getElem?_eq_getElem _
   obtain ⟨_,i1,v1,t1⟩:=a1b (show a0A X.prog X.w Hi s'.heap (ts[i]'(by omega)) (.tup ((ks i).map V.int)) from Ji.hok _ _ (hts i _ ht))
   rw [a4L hi,List.getD_eq_getElem?_getD,List.getElem?_map,ht]
   exact ⟨_,_,rfl,t1,by simpa using a1D v1⟩
  ·obtain ⟨i,hi,rfl⟩:=List.mem_map.mp hq
   exact nn i (List.mem_range.mp hi)
  ·have Jf:Inv X pins σ Hi { s' with heap:=h' }:=Ji.turnedL (t':=s'.toks) (L:=[a,kS]) (fun b o hb e=>kp b o (fun z=>hb (by simp [z])) (fun z=>hb (by simp [z])) e) (fun b hb=>by
    rcases List.mem_cons.mp hb with rfl | hb
    ·exact fa Hi nai
    ·rw [List.mem_singleton.mp hb];exact fS Hi nSi)
   refine h _ Hi p c Jf sm nai pm ?_ hh
   have e:(p.toList.map fun i=>((List.range vs.length).map ks).getD i [])=p.toList.map ks:=List.map_congr_left fun i hi=>by
    have:=(Array.perm_iff_toList_perm.mp pm).mem_iff.mp hi
    exact a4L (by simpa using this)
   rw [e] at pw
   exact pw
end
theorem Inv.adopt {X:Cx} {pins:List (Addr × Obj)} {σ:St} {H:Hp} {s:Shared} {l:Addr} {o:HO} (I:Inv X pins σ H s) (f:a4n X pins H l) (new:a0A X.prog X.w (upd H l o) s.heap l o):Inv X pins σ (upd H l o) s:=by
 have hok:HOk X.prog X.w (upd H l o) s.heap:=fun b u e=>by
  by_cases hb:b=l
  ·subst hb;rw [a0b] at e;cases e;exact new
  ·rw [a0n hb] at e
   exact (I.hok b u e).stay (fun c v _ q=>q) (fun c q=>by rw [a0n (a0D q f.1)];exact q) fun c xs q=>by rw [a0n (a0D q f.1)];exact q
 exact I.step (g':=s.gens) (t':=s.toks) (d':=s.drawn) (h':=s.heap) (ch:=[l]) (fun b hb=>by rw [List.mem_singleton.mp hb];exact ⟨f.2.2.2.1,f.2.1,f.2.2.2.2.1,f.2.2.2.2.2⟩)
  (fun b o _ _ _ e _=>e) (fun b o _ _ _ e _=>⟨o.slots,e⟩) (fun b u hb e n=>by rw [a0n (fun z=>hb (by simp [z]))];exact n) (fun b u _ e=>⟨u,e⟩)
  (fun b xs e=>by rw [a0n (a0D e f.1)];exact e) (fun b u xs e=>by rw [a0n (a0D e f.1)];exact e) (fun b ps e=>⟨#[],by rw [a0n (a0D e f.1),e];simp⟩) (fun m h=>h) hok I.bare
section
variable {prog:Program} {w:World} {A:Around} {E:Value→Shared→Prop} {s:Shared}
theorem a4b {R:List Value→Shared→Prop} {r:Addr} {a b c:Int} {t u v:Tok} {n:Nat} (hh:A.handled=none) (hr:IsRange s.heap r a b c t u v) (hsmall:Builtin.Range.small a b c=true)
  (hn:Builtin.Range.rangeSize a b c=n) (hlen:n≤2 ^ 24)
  (h:∀ (h':Heap) (tk:Nat) (acc:Array Value),(∀ b o,s.heap.get? b=some o→h'.get? b=some o)→ItemsOf (fun i v=>∃ t,v=.int (a+i * c) t) acc n→R acc.toList { s with heap:=h',toks:=tk }) :
  wpAny (model prog w) A (collect (.ref r)) R E s:=by
 unfold collect
 refine wpAny_bind (wpAny_runValue (codeAny_builtin entry_proto_collect' ?_))
 rw [Around.under_plainId PySem.F.plain_proto_collect _]
 show wpAny _ A.in1 (newList [] >>= fun l=>again (.builtin "list.__iadd__" ⟨[l,.ref r],[]⟩)) _ _ s
 refine wpAny_bind (wpAny_newObj_type ?_)
 refine wpAny_pure ⟨plainId_quiet PySem.F.plain_list_iadd _,codeAny_builtin entry_list_iadd' ?_⟩
 rw [Around.under_plainId PySem.F.plain_list_iadd _]
 have hS₁:(s.heap.push { cls:=.type "list",data:=.seq ([]:List Value).toArray }).get? s.heap.objs.size=some { cls:=.type "list",data:=.seq #[] }:=Heap.get?_push_size _ rfl
 show wpAny _ A.in1 (Builtin.List.listExtendWith (.ref s.heap.objs.size) (.ref r) (.ref s.heap.objs.size)) _ _ _
 have key:=wpAny_extend_range (prog:=prog) (w:=w) (A:=A) (s:={ s with heap:=s.heap.push { cls:=.type "list",data:=.seq ([]:List Value).toArray } })
  (R:=fun (q:Result) (s':Shared)=>∃ (h':Heap) (tk:Nat) (acc':Array Value) (c':Nat),q=.ok (.ret (.ref s.heap.objs.size))∧s'={ s with heap:=h',toks:=tk } ∧
   (∀ b o,s.heap.get? b=some o→h'.get? b=some o)∧h'.get? s.heap.objs.size=some { cls:=.type "list",dict:=none,data:=.seq acc' c',slots:=#[] }∧ItemsOf (fun i v=>∃ t,v=.int (a+i * c) t) acc' n)
  hh (show IsRange _ r a b c t u v from Heap.get?_push_of_some _ hr) hsmall hn hlen s.heap.objs.size (.ref s.heap.objs.size) 0 hS₁
  (fun h' tk acc' c' hk hS' hacc=>⟨h',tk,acc',c',rfl,rfl,fun b o e=>hk b o (Nat.ne_of_lt (Heap.lt_size e)) (Heap.get?_push_of_some _ e),hS',hacc⟩)
 refine wpAny_mono key (fun fin s' x=>?_) fun e s' x=>?_
 ·cases fin with
  | done f =>
   obtain ⟨h',tk,acc',c',e,rfl,hk,hS',hacc⟩:=x
   cases e
   show wpAny _ A (load s.heap.objs.size >>= _) _ _ _
   refine wpAny_bind (wpAny_load hS' ?_)
   exact wpAny_pure (h h' tk acc' hk hacc)
  | again c₁ =>
   refine ⟨x.1,codeAny_mono x.2 fun q s₂ y=>?_⟩
   obtain ⟨h',tk,acc',c',rfl,rfl,hk,hS',hacc⟩:=y
   show wpAny _ A (load s.heap.objs.size >>= _) _ _ _
   refine wpAny_bind (wpAny_load hS' ?_)
   exact wpAny_pure (h h' tk acc' hk hacc)
 ·obtain ⟨_,_,_,_,e',_⟩:=x
  cases e'
end
section
variable {X:Cx} {k:Nat} {Rg:Addr→List V→Hp→VK→Prop} {pins:List (Addr × Obj)} {σ:St} {H:Hp} {g:Addr} {ks:Nat→List Int} {s:Shared} {Q:VK}
theorem a5w (L:b1i X σ Rg) (hc:X.calm=true) (J:Inv X pins σ H s) {r:Addr} {n:Nat} {t u v:Tok} (hR:IsRange s.heap r 0 (n:Int) 1 t u v) (hn:n≤900)
  (hk:∀ (i:Nat) H1 Q1,i < n→a0v H H1→(∀ t H2,a0v H1 H2→H2 t=some (.tup ((ks i).map V.int))→Q1 (.ref t) H2)→Rg g [.int (i:Int)] H1 Q1) (nd:((List.range n).map ks).Nodup) (nn:∀ i,i < n→ks i≠[])
  (q:∀ (d:Addr) (p:List Nat) H',a0v H H'→H' d=some (.lst (p.map fun i:Nat=>V.int (i:Int)))→p.Perm (List.range n)→(p.map ks).Pairwise Lx→Q (.ref d) H') :
  wpAny (model X.prog X.w) X.A (call (.builtin "sorted") [.ref r] (kwK (.ref g))) (EP X pins σ Q) X.xe s:=by
 refine call_function_entry_kw kind_sorted plain_sorted entry_sorted (ksk_s1 _ _) ?_
 unfold Builtin.«sorted»
 refine wpAny_bind (m:=checkCount "sorted" 1 1 _) (wpAny_pure ?_)
 have sm:=small_one (a:=0) (b:=(n:Int)) (by omega) (by omega) (by omega) (by omega)
 have z0:Builtin.Range.rangeSize 0 (n:Int) 1=(n:Int):=by rw [rangeSize_one];split <;> omega
 refine wpAny_bind (a4b (J.ok.hd hc) hR sm z0 (by omega) fun h1 tk1 acc k1 hacc=>?_)
 have er:=a6Q (g:=fun i=>(0:Int)+(i:Int) * 1) hacc
 have eg:((List.range n).map fun i:Nat=>V.int ((0:Int)+(i:Int) * 1))=(List.range n).map fun i:Nat=>V.int (i:Int):=List.map_congr_left fun i _=>by rw [Int.zero_add,Int.mul_one]
 rw [eg] at er
 generalize acc.toList=its at er
 have li:its.length=n:=by rw [←er.length,List.length_map,List.length_range]
 have J1:Inv X pins σ H { s with heap:=h1,toks:=tk1 }:=J.kept k1
 refine wpAny_bind (wpAny_newList ?_ (by show its.length≤sizeLine;rw [sizeLine_eq];omega))
 show wpAny _ _ _ _ _ { s with heap:=h1.push (seqObj "list" its.toArray 0),toks:=tk1 }
 have hoL:(h1.push (seqObj "list" its.toArray 0)).get? h1.objs.size=some (seqObj "list" its.toArray 0):=Heap.get?_push_size _ rfl
 have fl:∀ H',H' h1.objs.size=none→a4n X pins H' h1.objs.size:=fun H' hn'=>J1.fpOk (Nat.le_refl _) hn'
 have nl:H h1.objs.size=none:=J1.hok.fresh (Nat.le_refl _)
 have J2:Inv X pins σ H { s with heap:=h1.push (seqObj "list" its.toArray 0),toks:=tk1 }:=J1.kept fun b o e=>Heap.get?_push_of_some _ e
 refine wpAny_bind (wpAny_holding (wpAny_call_entry_kw slot_list_sort ⟨_,hoL,rfl⟩ entry_list_sort ?_ (ksk_l1 _ _)))
 show wpAny (model X.prog X.w) X.A.in1.in1 (Builtin.«list.sort» ⟨[.ref h1.objs.size],[(Str.ofString "key",.ref g)]⟩) _ _ _
 rw [ksk_t1]
 unfold ksk_tree
 generalize eh2:h1.push (seqObj "list" its.toArray 0)=h2 at hoL J2 ⊢
 have sz2:h2.objs.size=h1.objs.size+1:=by rw [←eh2];exact Heap.size_push _ _
 obtain ⟨e1,ho1⟩:∃ e1,(h2.update h1.objs.size (Obj.mapSeq fun _=>(#[]:Array Value))).get? h1.objs.size=some (seqObj "list" #[] e1):=⟨_,get?_update_seq hoL fun _=>#[]⟩
 refine wpAny_bind (listItems_at hoL rfl (wpAny_bind (listUpdate_at hoL rfl ?_ (by rw [List.size_toArray,sizeLine_eq];omega) (Nat.zero_le _))))
 refine wpAny_bind (seqEpoch_at ho1 rfl (wpAny_bind (wpAny_newTuple ?_ (by show its.length≤_;rw [sizeLine_eq];omega))))
 refine wpAny_bind (wpAny_newList ?_ (Nat.zero_le _))
 refine wpAny_holding ?_
 obtain ⟨g0,g1,g2,g3,g4,g5⟩:=fl H nl
 have J3:Inv X pins σ H { s with heap:=h2.update h1.objs.size (Obj.mapSeq fun _=>(#[]:Array Value)),toks:=tk1 }:=J2.turned (t':=tk1) (fun b o hb e=>by rw [Heap.get?_update_ne _ _ _ _ hb];exact e) g0 g1 g3 g4 g5
 generalize eh3:h2.update h1.objs.size (Obj.mapSeq fun _=>(#[]:Array Value))=h3 at ho1 J3 ⊢
 have sz3:h3.objs.size=h1.objs.size+1:=by rw [←eh3,Heap.size_update,sz2]
 have J4:Inv X pins σ H { s with heap:=(h3.push (seqObj "tuple" its.toArray 0)).push (seqObj "list" #[] 0),toks:=tk1 }:=J3.kept fun b o e=>Heap.get?_push_of_some _ (Heap.get?_push_of_some _ e)
 have szS:(h3.push (seqObj "tuple" its.toArray 0)).objs.size=h1.objs.size+2:=by rw [show (h3.push (seqObj "tuple" its.toArray 0)).objs.size=h3.objs.size+1 from Heap.size_push _ _,sz3]
 have fS:∀ H',H' (h3.push (seqObj "tuple" its.toArray 0)).objs.size=none→a4n X pins H' (h3.push (seqObj "tuple" its.toArray 0)).objs.size:=fun H' hn'=>J1.fpOk (by show h1.objs.size≤_;rw [szS];omega) hn'
 refine a6S L (ks:=ks) (g:=g) (xs:=(List.range n).map fun i:Nat=>V.int (i:Int)) J4 (Heap.get?_push_of_some _ (Heap.get?_push_of_some _ ho1)) (Heap.get?_push_size _ rfl) (by rw [szS];exact Nat.ne_of_gt (Nat.lt_add_of_pos_right (by decide))) fl fS nl (J1.hok.fresh (by show h1.objs.size≤_;rw [szS];omega)) er (by omega) (fun i x H1 Q1 hx sm hq=>?_) (by rw [li];exact nd) (fun i hi=>nn i (by omega)) (fun s' H' p c J5 sm na pm pw ho=>⟨_,rfl,?_⟩)
 ·have hi:i < n:=by
   have:=(List.getElem?_eq_some_iff.mp hx).1
   rw [List.length_map,List.length_range] at this
   exact this
  rw [List.getElem?_map,List.getElem?_range hi] at hx
  cases hx
  exact hk i H1 Q1 hi sm hq
 ·have pl:=Array.perm_iff_toList_perm.mp pm
  rw [li] at pl
  have hv:a0J (p.toList.map fun i:Nat=>V.int (i:Int)) (p.toList.map fun i=>its.getD i Value.none):=by
   have key:∀ ps:List Nat,(∀ i∈ps,i < n)→a0J (ps.map fun i:Nat=>V.int (i:Int)) (ps.map fun i=>its.getD i Value.none):=fun ps=>by
    induction ps with
    | nil=>intro _;exact .nil
    | cons i ps ih =>
     intro hi
     refine .cons ?_ (ih fun j hj=>hi j (.tail _ hj))
     have i1:=hi i (.head _)
     obtain ⟨u',hu',ru⟩:=er.get (i:=i) (x:=V.int (i:Int)) (by rw [List.getElem?_map,List.getElem?_range i1];rfl)
     show a0T (V.int (i:Int)) (its.getD i Value.none)
     rw [List.getD_eq_getElem?_getD,hu']
     exact ru
   exact key _ fun i hi=>by simpa using pl.mem_iff.mp hi
  have ok:a0A X.prog X.w (upd H' h1.objs.size (.lst (p.toList.map fun i:Nat=>V.int (i:Int)))) s'.heap h1.objs.size (.lst (p.toList.map fun i:Nat=>V.int (i:Int))):=⟨by rw [List.length_map,pl.length_eq,List.length_range,sizeLine_eq];omega,_,c,hv,ho⟩
  exact wpAny_pure ⟨_,rfl,.ref h1.objs.size,_,J5.adopt (fl H' na) ok,rfl,q _ p.toList _ (sm.trans (a0d na _)) a0b pl pw⟩
def b1j (Rg:St→Addr→List V→Hp→VK→Prop) (ta tk:TA):TE:=fun σ H Q=>ta σ H fun vs H1=>∃ n:Nat,vs=[.int (n:Int)]∧n≤900∧tk σ H1 fun zs H2=>∃ (g:Addr) (ks:Nat→List Int),zs=[.ref g] ∧
 (∀ (i:Nat) H3 Q1,i < n→a0v H2 H3→(∀ t H4,a0v H3 H4→H4 t=some (.tup ((ks i).map V.int))→Q1 (.ref t) H4)→Rg σ g [.int (i:Int)] H3 Q1)∧((List.range n).map ks).Nodup∧(∀ i,i < n→ks i≠[]) ∧
 ∀ (d:Addr) (p:List Nat) H',a0v H2 H'→H' d=some (.lst (p.map fun i:Nat=>V.int (i:Int)))→p.Perm (List.range n)→(p.map ks).Pairwise Lx→Q (.ref d) H'
theorem a4M {a e2:Expr} {p p2 pos pos2 kpos:Pos} {ta tk:TA} {Rg:St→Addr→List V→Hp→VK→Prop} (L:∀ σ,b1i X σ (Rg σ)) (hc:X.calm=true) (hg:Gl X "sorted") (hm:X.mg "sorted"=none) (hg2:Gl X "range") (hm2:X.mg "range"=none) (ha:PA X [a] ta) (hk:PK X [⟨some "key",e2,kpos⟩] tk)
  (h1:backTo pos (starEach [.Call (.Name "range" p2) [a] [] pos2] X.env)=(false,eval (.Call (.Name "range" p2) [a] [] pos2) X.env) :: backTo pos (starEach [] X.env):=by rfl) (hs2:starEach [a] X.env=(false,eval a X.env) :: starEach [] X.env:=by rfl)
  (h2:((backTo pos (starEach [.Call (.Name "range" p2) [a] [] pos2] X.env)).any (·.1))=false:=by rfl) (h3:(backToKw pos (keywordEach [⟨some "key",e2,kpos⟩] X.env)).all (·.1.isSome)=true:=by rfl) (h4:(backToKw pos (keywordEach [⟨some "key",e2,kpos⟩] X.env)).any (·.1.isNone)=false:=by rfl) (h5:(backToKw pos (keywordEach [⟨some "key",e2,kpos⟩] X.env)).filterMap (·.1)=[Str.ofString "key"]:=by rfl) :
  PE X (.Call (.Name "sorted" p) [.Call (.Name "range" p2) [a] [] pos2] [⟨some "key",e2,kpos⟩] pos) (b1j Rg ta tk):=by
 intro pins s σ H Q I h
 refine wpAny_Call_Name_kw (a1M I hg hm a0M ?_ (by decide) (by decide))
 refine callWith_kw ?_ h1 h2 h3 h4
 rw [h1]
 refine Calls.spliced_cons ?_
 refine wpAny_Call_Name_kw (a1M I hg2 hm2 boot_range ?_ (by decide) (by decide))
 refine PyProof.Rows.callWith_type1 (thn (ha pos2 pins s σ H _ I h) fun us s1 ⟨vs,H1,I1,r1,q1⟩=>?_) hs2 rfl
 obtain ⟨n,e,hn,q⟩:=q1
 subst e
 cases r1 with
 | cons r rr =>
  cases rr
  obtain ⟨t,rfl⟩:=r
  refine call_range_1 ?_
  refine Calls.spliced_nil ?_
  have I2:Inv X pins σ H1 { s1 with heap:=s1.heap.push { cls:=.type "range",data:=.fields #[.int 0 s1.toks,.int (n:Int) t,.int 1 (s1.toks+1)] },toks:=s1.toks+1+1 }:=I1.kept fun b o e=>Heap.get?_push_of_some _ e
  have hRg:(s1.heap.push { cls:=.type "range",data:=.fields #[.int 0 s1.toks,.int (n:Int) t,.int 1 (s1.toks+1)] }).get? s1.heap.objs.size=some { cls:=.type "range",data:=.fields #[.int 0 s1.toks,.int (n:Int) t,.int 1 (s1.toks+1)] }:=Heap.get?_push_size _ rfl
  have J2:=I2.pinned (fp:=[s1.heap.objs.size]) (fun b hb=>by rw [List.mem_singleton.mp hb];exact I1.fpOk (Nat.le_refl _) (I1.hok.fresh (Nat.le_refl _))) (fun b hb=>by
   rw [List.mem_singleton.mp hb]
   exact ⟨_,hRg,fun v z=>by cases z⟩)
  refine thn (hk pos _ _ σ H1 _ J2 q) fun ws s2 ⟨zs,H2,I3,rz,q2⟩=>?_
  rw [h5]
  obtain ⟨g,ks,rfl,hkk,nd,nn,q3⟩:=q2
  obtain ⟨u,rfl,ru⟩:=a2H rz
  cases ru
  have pr:=(I3.pin (s1.heap.objs.size,_) (List.mem_append_right _ (List.mem_append_right _ (a1k (by simp) hRg)))).1
  exact a5w (L σ) hc I3.unpinned (show IsRange s2.heap s1.heap.objs.size 0 (n:Int) 1 s1.toks t (s1.toks+1) from pr) hn hkk nd nn q3
end
end L2
namespace L2
open PySem PySem.Spec PyProof.Rows
abbrev ZnO (h:Heap) (z TI TO a:Addr) (fl:Bool):Prop:=h.get? z=some { cls:=.type "zip",dict:=none,data:=.fields #[rawInt a,.bool fl,.bool false,.ref TI,.ref TO],slots:=#[] }
section
variable {prog:Program} {w:World} {A:Around} {E:Value→Shared→Prop} {s:Shared} {ka kb:Bool} {z TI TO i1 i2 l1 l2 a:Addr} {n:Nat} {xs ys:Array Value} {x y:Value} {fl:Bool} {oa:Obj}
theorem a4N {M:Model} {a:Addr} {Q:Option Obj→Shared→Prop} (h:Q (s.heap.get? a) s):wpAny M A (loadIfAlive a) Q E s:=fun Γ p _=>by
 show Sem.wp M Γ (.loadIfAlive a .pure) _ _ p s
 rw [Sem.wp_loadIfAlive]
 simpa using h
theorem a8d {Q:Value→Shared→Prop} (D:ZipApart z TI TO i1 i2 l1 l2) (hz:ZnO s.heap z TI TO a fl) (hTI:IsPair s.heap TI (.ref i1) (.ref i2)) (ha:s.heap.get? a=some oa) (az:a≠z) (h1:SIt ka s.heap i1 l1 n) (h2:SIt kb s.heap i2 l2 n) (hl1:SAt ka s.heap l1 xs) (hl2:SAt kb s.heap l2 ys) (hx:xs[n]?=some x) (hy:ys[n]?=some y)
  (hQ:∀ h',ZnO h' z TI TO a true→SIt ka h' i1 l1 (n+1)→SIt kb h' i2 l2 (n+1)→IsPair h' s.heap.objs.size x y →
   (∀ c o,c≠z→c≠i1→c≠i2→s.heap.get? c=some o→h'.get? c=some o)→Q (.ref s.heap.objs.size) { s with heap:=h' }) :
  wpAny (model prog w) A (Builtin.«zip.__next__» ⟨[.ref z],[]⟩) (fun fin s'=>∃ v,fin=.done (.ret v)∧Q v s') E s:=by
 show wpAny _ _ (field (.ref z) 2 >>= _) _ _ _
 refine wpAny_bind (wpAny_field hz rfl (x:=.bool false) rfl ?_)
 show wpAny _ _ (field (.ref z) 3 >>= _) _ _ _
 refine wpAny_bind (wpAny_field hz rfl (x:=.ref TI) rfl (wpAny_bind (wpAny_seqItems hTI rfl ?_)))
 show wpAny _ _ (Builtin.SmallTypes.ownedTupleIsFree (.ref z) >>= _) _ _ _
 refine wpAny_bind ?_
 unfold Builtin.SmallTypes.ownedTupleIsFree
 refine wpAny_bind (wpAny_field hz rfl (x:=rawInt a) rfl ?_)
 show wpAny _ _ (loadIfAlive ((a:Int)).toNat >>= _) _ _ _
 refine wpAny_bind (a4N ?_)
 rw [show ((a:Int)).toNat=a by omega]
 show wpAny _ _ (if (s.heap.get? a).isNone=true then _ else _) _ _ _
 rw [ha,if_neg (by simp)]
 refine wpAny_bind (wpAny_field hz rfl (x:=.bool fl) rfl ?_)
 have fin:∀ g1 g2 g3,ZnO g1 z TI TO a true→Heap.SameBut z s.heap g1∨g1=s.heap→Heap.SameBut i1 g1 g2→SIt ka g2 i1 l1 (n+1)→Heap.SameBut i2 g2 g3→SIt kb g3 i2 l2 (n+1) →
   Q (.ref g3.objs.size) { s with heap:=g3.push { cls:=.type "tuple",data:=.seq #[x,y] } }:=fun g1 g2 g3 z1 b1 b2 h12 b3 h23=>by
  have sz1:g1.objs.size=s.heap.objs.size:=by rcases b1 with b | b;exact b.1;rw [b]
  have sz:g3.objs.size=s.heap.objs.size:=by rw [b3.1,b2.1,sz1]
  have k1:∀ c o,c≠z→s.heap.get? c=some o→g1.get? c=some o:=fun c o hc e=>by rcases b1 with b | b;exact b.extBut _ _ hc e;rw [b];exact e
  rw [sz]
  refine hQ _ (Heap.get?_push_of_some _ (b3.extBut _ _ D.i2z.symm (b2.extBut _ _ D.i1z.symm z1))) (h12.at fun o e=>Heap.get?_push_of_some _ (b3.extBut _ _ D.i12 e)) (h23.at fun o e=>Heap.get?_push_of_some _ e) ?_ fun c o c1 c2 c3 e=>Heap.get?_push_of_some _ (b3.extBut _ _ c3 (b2.extBut _ _ c2 (k1 c o c1 e)))
  rw [←sz]
  exact Heap.get?_push_size _ rfl
 cases fl with
 | true =>
  refine wpAny_pure ?_
  simp only [Bool.false_eq_true,if_false]
  refine wpAny_bind ?_
  rw [←Array.forIn_toList]
  simp only [List.forIn_cons,List.forIn_nil]
  refine wpAny_bind (wpAny_bind (wpAny_holding ?_))
  show wpAny _ _ (Builtin.SmallTypes.nextOf (.ref i1) >>= _) _ _ _
  refine wpAny_bind (a4C h1 hl1 hx fun g2 h12 b2=>wpAny_pure ?_)
  refine wpAny_pure ?_
  refine wpAny_bind (wpAny_bind (wpAny_holding ?_))
  show wpAny _ _ (Builtin.SmallTypes.nextOf (.ref i2) >>= _) _ _ _
  refine wpAny_bind (a4C (s:={ s with heap:=g2 }) (h2.at fun o e=>b2.extBut _ _ D.i12.symm e) (hl2.at fun o e=>b2.extBut _ _ D.l2i1 e) hy fun g3 h23 b3=>wpAny_pure ?_)
  refine wpAny_pure (wpAny_pure ?_)
  refine wpAny_bind (wpAny_newTuple ?_ (by show 2≤sizeLine;decide))
  exact wpAny_pure ⟨_,rfl,fin s.heap g2 g3 hz (.inr rfl) b2 h12 b3 h23⟩
 | false =>
  show wpAny _ _ (setField (.ref z) 1 (.bool true) >>= _) _ _ _
  refine wpAny_bind (wpAny_setField_rec hz (by simp) fun g1 z1 b1=>?_)
  replace z1:ZnO g1 z TI TO a true:=z1
  refine wpAny_pure ?_
  simp only [Bool.false_eq_true,if_false]
  refine wpAny_bind ?_
  rw [←Array.forIn_toList]
  simp only [List.forIn_cons,List.forIn_nil]
  refine wpAny_bind (wpAny_bind (wpAny_holding ?_))
  show wpAny _ _ (Builtin.SmallTypes.nextOf (.ref i1) >>= _) _ _ _
  refine wpAny_bind (a4C (s:={ s with heap:=g1 }) (h1.at fun o e=>b1.extBut _ _ D.i1z e) (hl1.at fun o e=>b1.extBut _ _ D.l1z e) hx fun g2 h12 b2=>wpAny_pure ?_)
  refine wpAny_pure ?_
  refine wpAny_bind (wpAny_bind (wpAny_holding ?_))
  show wpAny _ _ (Builtin.SmallTypes.nextOf (.ref i2) >>= _) _ _ _
  refine wpAny_bind (a4C (s:={ s with heap:=g2 }) (h2.at fun o e=>b2.extBut _ _ D.i12.symm (b1.extBut _ _ D.i2z e)) (hl2.at fun o e=>b2.extBut _ _ D.l2i1 (b1.extBut _ _ D.l2z e)) hy fun g3 h23 b3=>wpAny_pure ?_)
  refine wpAny_pure (wpAny_pure ?_)
  refine wpAny_bind (wpAny_newTuple ?_ (by show 2≤sizeLine;decide))
  exact wpAny_pure ⟨_,rfl,fin g1 g2 g3 z1 (.inl b1) b2 h12 b3 h23⟩
theorem a8e {Q:Option Value→Shared→Prop} (D:ZipApart z TI TO i1 i2 l1 l2) (hz:ZnO s.heap z TI TO a fl) (hTI:IsPair s.heap TI (.ref i1) (.ref i2)) (ha:s.heap.get? a=some oa) (az:a≠z) (h1:SIt ka s.heap i1 l1 n) (h2:SIt kb s.heap i2 l2 n) (hl1:SAt ka s.heap l1 xs) (hl2:SAt kb s.heap l2 ys) (hx:xs[n]?=some x) (hy:ys[n]?=some y)
  (hQ:∀ h',ZnO h' z TI TO a true→SIt ka h' i1 l1 (n+1)→SIt kb h' i2 l2 (n+1)→IsPair h' s.heap.objs.size x y →
   (∀ c o,c≠z→c≠i1→c≠i2→s.heap.get? c=some o→h'.get? c=some o)→Q (some (.ref s.heap.objs.size)) { s with heap:=h' }):wpAny (model prog w) A (pyNext (.ref z)) Q E s:=by
 have hT:s.TypeIs (.ref z) "zip":=⟨_,hz,rfl⟩
 unfold pyNext
 exact wpAny_bind (wpAny_attempt (wpAny_callSpecial?_slot (name:=Str.ofString "__next__") hT F.slot_zip_next (wpAny_call_entry F.slot_zip_next hT F.entry_zip_next
  (a8d D hz hTI ha az h1 h2 hl1 hl2 hx hy fun h' a1 a2 a3 a4 a5=>wpAny_pure (hQ h' a1 a2 a3 a4 a5)) (F.args_zip_next_1 _))))
theorem a8f {Q:Option Value→Shared→Prop} (hh:A.handled=none) (D:ZipApart z TI TO i1 i2 l1 l2) (hz:ZnO s.heap z TI TO a fl) (hTI:IsPair s.heap TI (.ref i1) (.ref i2)) (ha:s.heap.get? a=some oa) (az:a≠z) (h1:SIt ka s.heap i1 l1 n) (hl1:SAt ka s.heap l1 xs) (hx:xs[n]?=none)
  (hQ:∀ h',(∀ c o,c≠z→c≠i1→s.heap.get? c=some o→h'.get? c=some o)→Q none { s with heap:=h' }):wpAny (model prog w) A (pyNext (.ref z)) Q E s:=by
 have hT:s.TypeIs (.ref z) "zip":=⟨_,hz,rfl⟩
 unfold pyNext
 refine wpAny_bind (wpAny_attempt (wpAny_callSpecial?_slot (name:=Str.ofString "__next__") hT F.slot_zip_next (wpAny_call_entry F.slot_zip_next hT F.entry_zip_next ?_ (F.args_zip_next_1 _))))
 show wpAny _ _ (field (.ref z) 2 >>= _) _ _ _
 refine wpAny_bind (wpAny_field hz rfl (x:=.bool false) rfl ?_)
 show wpAny _ _ (field (.ref z) 3 >>= _) _ _ _
 refine wpAny_bind (wpAny_field hz rfl (x:=.ref TI) rfl (wpAny_bind (wpAny_seqItems hTI rfl ?_)))
 show wpAny _ _ (Builtin.SmallTypes.ownedTupleIsFree (.ref z) >>= _) _ _ _
 refine wpAny_bind ?_
 unfold Builtin.SmallTypes.ownedTupleIsFree
 refine wpAny_bind (wpAny_field hz rfl (x:=rawInt a) rfl ?_)
 show wpAny _ _ (loadIfAlive ((a:Int)).toNat >>= _) _ _ _
 refine wpAny_bind (a4N ?_)
 rw [show ((a:Int)).toNat=a by omega]
 show wpAny _ _ (if (s.heap.get? a).isNone=true then _ else _) _ _ _
 rw [ha,if_neg (by simp)]
 refine wpAny_bind (wpAny_field hz rfl (x:=.bool fl) rfl ?_)
 cases fl with
 | true =>
  refine wpAny_pure ?_
  simp only [Bool.false_eq_true,if_false]
  refine wpAny_bind ?_
  rw [←Array.forIn_toList]
  simp only [List.forIn_cons,List.forIn_nil]
  refine wpAny_bind (wpAny_bind (wpAny_holding ?_))
  show wpAny _ _ (Builtin.SmallTypes.nextOf (.ref i1) >>= _) _ _ _
  refine wpAny_bind (endS hh h1 hl1 hx fun g2 e b2 he=>?_)
  obtain ⟨o,ho,hc⟩:=he
  exact wpAny_bind (wpAny_isInstance (T:="StopIteration") (b:=true) ⟨o,ho,hc⟩ isSubtype_stop (wpAny_pure (hQ _ fun c o c1 c2 q=>b2 _ _ c2 q)))
 | false =>
  show wpAny _ _ (setField (.ref z) 1 (.bool true) >>= _) _ _ _
  refine wpAny_bind (wpAny_setField_rec hz (by simp) fun g1 z1 b1=>?_)
  refine wpAny_pure ?_
  simp only [Bool.false_eq_true,if_false]
  refine wpAny_bind ?_
  rw [←Array.forIn_toList]
  simp only [List.forIn_cons,List.forIn_nil]
  refine wpAny_bind (wpAny_bind (wpAny_holding ?_))
  show wpAny _ _ (Builtin.SmallTypes.nextOf (.ref i1) >>= _) _ _ _
  refine wpAny_bind (endS (s:={ s with heap:=g1 }) hh (h1.at fun o e=>b1.extBut _ _ D.i1z e) (hl1.at fun o e=>b1.extBut _ _ D.l1z e) hx fun g2 e b2 he=>?_)
  obtain ⟨o,ho,hc⟩:=he
  exact wpAny_bind (wpAny_isInstance (T:="StopIteration") (b:=true) ⟨o,ho,hc⟩ isSubtype_stop (wpAny_pure (hQ _ fun c o c1 c2 q=>b2 _ _ c2 (b1.extBut _ _ c1 q))))
end
section
variable {X:Cx} {pins:List (Addr × Obj)} {σ:St} {H:Hp} {ka kb:Bool} {z TI TO i1 i2 l1 l2 S:Addr} {xs ys:List V} {res:Value} {R:Result→Shared→Prop}
def ZnS (h:Heap) (z TI TO i1 i2 S:Addr):Prop:=(IsZip h z TI TO .none∧∃ a b,IsPair h TO a b)∨∃ a fl oa,ZnO h z TI TO a fl∧h.get? a=some oa∧a≠z∧a≠i1∧a≠i2∧a≠S
def PrsZ (H:Hp) (xs ys zs:List V):Prop:=∀ (i:Nat) q,zs[i]?=some q→∃ (t:Addr) (x y:V),q=.ref t∧xs[i]?=some x∧ys[i]?=some y∧H t=some (.tup [x,y])
theorem zl_go {A:Around} (hA:A.handled=none) (D:ZipApart z TI TO i1 i2 l1 l2) (hl9:xs.length≤1000) (hlen:xs.length=ys.length) (fp:∀ b∈[z,TI,TO,i1,i2,S],∀ H',H' b=none→a4n X pins H' b) (nS:S∉[z,TI,TO,i1,i2])
  (hK1:∀ {H':Hp},a0v H H'→SqK X.K ka H' l1 xs) (hK2:∀ {H':Hp},a0v H H'→SqK X.K kb H' l2 ys)
  (hR:∀ s' Hn zs (acc:Array Value) c,Inv X pins σ Hn s'→a0v H Hn→Hn S=none→s'.heap.get? S=some { cls:=.type "list",dict:=none,data:=.seq acc c,slots:=#[] }→a0J zs acc.toList→zs.length=xs.length→PrsZ Hn xs ys zs→R (.ok (.ret res)) s') :
  ∀ (m n:Nat) (s:Shared) (Hn:Hp) (zs:List V) (acc:Array Value) (c:Nat),xs.length - n=m→n≤xs.length→Inv X pins σ Hn s→a0v H Hn→ZnS s.heap z TI TO i1 i2 S→IsPair s.heap TI (.ref i1) (.ref i2)→SIt ka s.heap i1 l1 n→SIt kb s.heap i2 l2 n→(∀ b∈[z,TI,TO,i1,i2,S],Hn b=none∧b < s.heap.objs.size) →
   s.heap.get? S=some { cls:=.type "list",dict:=none,data:=.seq acc c,slots:=#[] }→a0J zs acc.toList→zs.length=n→PrsZ Hn xs ys zs →
   codeAny (model X.prog X.w) A (.builtin "list.extend.loop" ⟨[.ref S,.ref z,res],[]⟩) R s:=by
 have Sz:S≠z:=fun e=>nS (by simp [e])
 have STI:S≠TI:=fun e=>nS (by simp [e])
 have STO:S≠TO:=fun e=>nS (by simp [e])
 have Si1:S≠i1:=fun e=>nS (by simp [e])
 have Si2:S≠i2:=fun e=>nS (by simp [e])
 intro m
 induction m with
 | zero =>
  intro n s Hn zs acc c hm hn J sm zn hTI h1 h2 fr hS hv ly pr
  have en':n=xs.length:=by omega
  obtain ⟨us,r1,p1⟩:=a5j J (hK1 sm)
  obtain ⟨vs,r2,p2⟩:=a5j J (hK2 sm)
  have e1:=r1.length
  refine codeAny_builtin F.entry_extend_loop ?_
  rw [Around.under_plainId F.plain_extend_loop _]
  show wpAny _ A.in1 (pyNext (.ref z) >>= _) _ _ s
  have fin:∀ h',(∀ c o,c≠z→c≠TO→c≠i1→c≠i2→s.heap.get? c=some o→h'.get? c=some o)→R (.ok (.ret res)) { s with heap:=h' }:=fun h' kk=>by
   have J1:Inv X pins σ Hn { s with heap:=h' }:=J.turnedL (t':=s.toks) (L:=[z,TO,i1,i2]) (fun b o hb e=>by
    simp only [List.mem_cons,List.not_mem_nil,or_false,not_or] at hb
    exact kk b o hb.1 hb.2.1 hb.2.2.1 hb.2.2.2 e) (fun b hb=>fp b (by simp at hb ⊢;rcases hb with h | h | h | h <;> simp [h]) Hn (fr b (by simp at hb ⊢;rcases hb with h | h | h | h <;> simp [h])).1)
   exact hR _ Hn zs acc c J1 sm (fr S (by simp)).1 (kk S _ Sz STO Si1 Si2 hS) hv (by omega) pr
  rcases zn with ⟨hz,a,b,hTO⟩ | ⟨a,fl,oa,hz,ha,az,ai1,ai2,aS⟩
  ·exact wpAny_bind (a4E (by show A.handled=none;exact hA) D ⟨hz,hTI,⟨a,b,hTO⟩,h1,h2⟩ p1 p2 (.inl (by simp;omega)) fun h' kk=>wpAny_pure (fin h' kk))
  ·exact wpAny_bind (a8f (by show A.handled=none;exact hA) D hz hTI ha az h1 p1 (by simp;omega) fun h' kk=>wpAny_pure (fin h' fun c o c1 _ c3 _ e=>kk c o c1 c3 e))
 | succ m ih =>
  intro n s Hn zs acc c hm hn J sm zn hTI h1 h2 fr hS hv ly pr
  have hlt:n < xs.length:=by omega
  obtain ⟨us,r1,p1⟩:=a5j J (hK1 sm)
  obtain ⟨vs,r2,p2⟩:=a5j J (hK2 sm)
  have hx:xs[n]?=some xs[n]:=List.getElem?_eq_getElem hlt
  have hy:ys[n]?=some (ys[n]'(by omega)):=List.getElem?_eq_getElem _
  obtain ⟨u,hu,ru⟩:=r1.get hx
  obtain ⟨v,hv',rv⟩:=r2.get hy
  have hT:Hn s.heap.objs.size=none:=J.hok.fresh (Nat.le_refl _)
  refine codeAny_builtin F.entry_extend_loop ?_
  rw [Around.under_plainId F.plain_extend_loop _]
  show wpAny _ A.in1 (pyNext (.ref z) >>= _) _ _ s
  have go:∀ h',ZnS h' z TI TO i1 i2 S→SIt ka h' i1 l1 (n+1)→SIt kb h' i2 l2 (n+1)→IsPair h' s.heap.objs.size u v→(∀ c o,c≠z→c≠TO→c≠i1→c≠i2→s.heap.get? c=some o→h'.get? c=some o) →
    wpAny (model X.prog X.w) A.in1 (updateSeq S (·.push (.ref s.heap.objs.size)) >>= fun _=>(again (.builtin "list.extend.loop" ⟨[.ref S,.ref z,res],[]⟩):Sem Fin)) (fun fin s'=>match fin with | .done f=>R (.ok f) s' | .again c'=>c'.quiet=true∧codeAny (model X.prog X.w) A c' R s') (fun e s'=>R (.error e) s') { s with heap:=h' }:=fun h' zn' h1' h2' pr' kk=>by
   have hS':h'.get? S=some { cls:=.type "list",dict:=none,data:=.seq acc c,slots:=#[] }:=kk S _ Sz STO Si1 Si2 hS
   have I1:Inv X pins σ (upd Hn s.heap.objs.size (.tup [xs[n],ys[n]'(by omega)])) { s with heap:=s.heap.push { cls:=.type "tuple",data:=.seq #[u,v] } }:=J.laid (t':=s.toks) (fun b u e=>Heap.get?_push_of_some _ e) (Nat.le_refl _) ⟨by show 2≤sizeLine;decide,[u,v],.cons ru (.cons rv .nil),⟨_,Heap.get?_push_size _ rfl,_,rfl⟩⟩
   have zz:∀ {b:Addr},b∈[z,TI,TO,i1,i2,S]→upd Hn s.heap.objs.size (.tup [xs[n],ys[n]'(by omega)]) b=none:=fun {b} hb=>by rw [a0n (Nat.ne_of_lt (fr b hb).2)];exact (fr b hb).1
   have I2:=I1.turnedL (h':=h') (t':=s.toks) (L:=[z,TO,i1,i2]) (fun c o hc e=>by
    simp only [List.mem_cons,List.not_mem_nil,or_false,not_or] at hc
    by_cases zc:c=s.heap.objs.size
    ·subst zc
     rw [Heap.get?_push_size _ rfl] at e
     cases e
     exact pr'
    ·have e':s.heap.get? c=some o:=by rw [←e];exact (Heap.get?_push_ne _ _ _ zc).symm
     exact kk c o hc.1 hc.2.1 hc.2.2.1 hc.2.2.2 e') (fun b hb=>fp b (by simp at hb ⊢;rcases hb with h | h | h | h <;> simp [h]) _ (zz (by simp at hb ⊢;rcases hb with h | h | h | h <;> simp [h])))
   have s2:=a0d hT (.tup [xs[n],ys[n]'(by omega)])
   obtain ⟨g0,g1,g2,g3,g4,g5⟩:=fp S (by simp) _ (zz (by simp))
   have sz:acc.size=n:=by rw [←Array.length_toList,←hv.length,ly]
   refine wpAny_bind (wpAny_updateSeq hS' rfl (wpAny_pure ⟨plainId_quiet F.plain_extend_loop _,?_⟩) (by rw [sz];show n≤sizeLine;exact small (by omega)) (by show (acc.push _).size≤sizeLine+1;rw [Array.size_push,sz];have:=small (n:=n) (by omega);omega))
   have ltp:s.heap.objs.size < h'.objs.size:=Heap.lt_size pr'
   refine ih (n+1) _ _ (zs++[.ref s.heap.objs.size]) (acc.push (.ref s.heap.objs.size)) _ (by omega) (by omega) (I2.turned (t':=s.toks) (fun b o hb e=>by rw [Heap.get?_update_ne _ _ _ _ hb];exact e) g0 g1 g3 g4 g5) (sm.trans s2) ?_ ?_ (h1'.at fun o e=>by rw [Heap.get?_update_ne _ _ _ _ Si1.symm];exact e) (h2'.at fun o e=>by rw [Heap.get?_update_ne _ _ _ _ Si2.symm];exact e) (fun b hb=>⟨zz hb,?_⟩) (Heap.get?_update_self _ hS' rfl) ?_ (by rw [List.length_append,ly];rfl) ?_
   ·rcases zn' with ⟨hz,a,b,hTO⟩ | ⟨a,fl,oa,hz,ha,az,ai1,ai2,aS⟩
    ·exact .inl ⟨by rw [IsZip,Heap.get?_update_ne _ _ _ _ Sz.symm];exact hz,a,b,by rw [IsPair,Heap.get?_update_ne _ _ _ _ STO.symm];exact hTO⟩
    ·exact .inr ⟨a,fl,oa,by rw [ZnO,Heap.get?_update_ne _ _ _ _ Sz.symm];exact hz,by rw [Heap.get?_update_ne _ _ _ _ aS];exact ha,az,ai1,ai2,aS⟩
   ·rw [IsPair,Heap.get?_update_ne _ _ _ _ STI.symm]
    exact kk TI _ D.TIz D.TITO D.TIi1 D.TIi2 hTI
   ·rw [Heap.size_update]
    exact Nat.lt_trans (fr b hb).2 ltp
   ·rw [Array.toList_push]
    exact Paired.appendP hv (.cons rfl .nil)
   ·intro i q hq
    rcases Nat.lt_or_ge i zs.length with lt | ge
    ·rw [List.getElem?_append_left lt] at hq
     obtain ⟨t,x,y,e,hxi,hyi,ht⟩:=pr i q hq
     exact ⟨t,x,y,e,hxi,hyi,s2 _ _ ht⟩
    ·rw [List.getElem?_append_right ge] at hq
     have hk:i - zs.length=0:=by
      have:=(List.getElem?_eq_some_iff.mp hq).1
      simp at this
      omega
     rw [hk] at hq
     cases hq
     have:i=n:=by omega
     subst this
     exact ⟨_,_,_,rfl,hx,hy,a0b⟩
  rcases zn with ⟨hz,a,b,hTO⟩ | ⟨a,fl,oa,hz,ha,az,ai1,ai2,aS⟩
  ·exact wpAny_bind (a4D D ⟨hz,hTI,⟨a,b,hTO⟩,h1,h2⟩ p1 p2 (x:=u) (y:=v) (by simpa using hu) (by simpa using hv') fun h' z1 t1 a1 a2 pr' kk=>go h' (.inr ⟨_,false,_,z1,pr',Nat.ne_of_gt (fr z (by simp)).2,Nat.ne_of_gt (fr i1 (by simp)).2,Nat.ne_of_gt (fr i2 (by simp)).2,Nat.ne_of_gt (fr S (by simp)).2⟩) a1 a2 pr' kk)
  ·exact wpAny_bind (a8e D hz hTI ha az h1 h2 p1 p2 (x:=u) (y:=v) (by simpa using hu) (by simpa using hv') fun h' z1 a1 a2 pr' kk=>go h' (.inr ⟨a,true,oa,z1,kk a oa az ai1 ai2 ha,az,ai1,ai2,aS⟩) a1 a2 pr' fun c o c1 _ c3 c4 e=>kk c o c1 c3 c4 e)
end
theorem a8g:typeLookup (.type "zip") "__len__"=pure none:=by rw [typeLookup_type,builtinLookup_eq_fast];kernel_rfl
theorem a6T:typeLookup (.type "zip") "__length_hint__"=pure none:=by rw [typeLookup_type,builtinLookup_eq_fast];kernel_rfl
section
variable {X:Cx} {pins:List (Addr × Obj)} {σ:St} {H:Hp} {ka kb:Bool} {z TI TO i1 i2 l1 l2:Addr} {xs ys:List V} {s:Shared} {E:Value→Shared→Prop}
def CZ (X:Cx) (pins:List (Addr × Obj)) (σ:St) (H:Hp) (S:Addr) (xs ys:List V) (q:Result) (s':Shared):Prop:=∃ Hn zs acc c,q=.ok (.ret (.ref S))∧Inv X pins σ Hn s'∧a0v H Hn∧s'.heap.get? S=some { cls:=.type "list",dict:=none,data:=.seq acc c,slots:=#[] }∧a0J zs acc.toList∧zs.length=xs.length∧PrsZ Hn xs ys zs
theorem a5x {A:Around} {R:List Value→Shared→Prop} (hA:A.handled=none) (J:Inv X pins σ H s) (D:ZipApart z TI TO i1 i2 l1 l2) (Z:ZAt ka kb z TI TO i1 i2 l1 l2 0 s.heap) (hl9:xs.length≤1000) (hlen:xs.length=ys.length) (fp:∀ b∈[z,TI,TO,i1,i2],∀ H',H' b=none→a4n X pins H' b) (fr:∀ b∈[z,TI,TO,i1,i2],H b=none)
  (hK1:∀ {H':Hp},a0v H H'→SqK X.K ka H' l1 xs) (hK2:∀ {H':Hp},a0v H H'→SqK X.K kb H' l2 ys)
  (hR:∀ s' Hn zs its,Inv X pins σ Hn s'→a0v H Hn→a0J zs its→zs.length=xs.length→PrsZ Hn xs ys zs→R its s') :
  wpAny (model X.prog X.w) A (collect (.ref z)) R E s:=by
 have ltz:∀ b∈[z,TI,TO,i1,i2],b < s.heap.objs.size:=fun b hb=>by
  obtain ⟨o,ho,_⟩:=Z.obj b hb
  exact Heap.lt_size ho
 unfold collect
 refine wpAny_bind (wpAny_runValue (codeAny_builtin entry_proto_collect' ?_))
 rw [Around.under_plainId PySem.F.plain_proto_collect _]
 show wpAny _ A.in1 (newList [] >>= fun l=>again (.builtin "list.__iadd__" ⟨[l,.ref z],[]⟩)) _ _ s
 refine wpAny_bind (wpAny_newObj_type ?_)
 refine wpAny_pure ⟨plainId_quiet PySem.F.plain_list_iadd _,codeAny_builtin entry_list_iadd' ?_⟩
 rw [Around.under_plainId PySem.F.plain_list_iadd _]
 have hS1:(s.heap.push { cls:=.type "list",data:=.seq ([]:List Value).toArray }).get? s.heap.objs.size=some { cls:=.type "list",dict:=none,data:=.seq #[] 0,slots:=#[] }:=Heap.get?_push_size _ rfl
 show wpAny _ A.in1 (Builtin.List.listExtendWith (.ref s.heap.objs.size) (.ref z) (.ref s.heap.objs.size)) _ _ _
 have up:∀ b o,s.heap.get? b=some o→(s.heap.push { cls:=.type "list",data:=.seq ([]:List Value).toArray }).get? b=some o:=fun b o e=>Heap.get?_push_of_some _ e
 have key:wpAny (model X.prog X.w) A.in1 (Builtin.List.listExtendWith (.ref s.heap.objs.size) (.ref z) (.ref s.heap.objs.size))
   (fun fin s'=>match fin with | .done f=>CZ X pins σ H s.heap.objs.size xs ys (.ok f) s' | .again c'=>c'.quiet=true∧codeAny (model X.prog X.w) A c' (CZ X pins σ H s.heap.objs.size xs ys) s')
   (fun e s'=>False) { s with heap:=s.heap.push { cls:=.type "list",data:=.seq ([]:List Value).toArray } }:=by
  generalize eg:s.heap.push { cls:=.type "list",data:=.seq ([]:List Value).toArray }=g at hS1 up ⊢
  have hz2:IsZip g z TI TO .none:=up _ _ Z.zp
  have hT:Shared.TypeIs { s with heap:=g } (.ref z) "zip":=⟨_,hz2,rfl⟩
  have nSz:s.heap.objs.size≠z:=Nat.ne_of_gt (ltz z (by simp))
  have hsr:Builtin.List.listSameRef (.ref s.heap.objs.size) (.ref z)=false:=by simp [Builtin.List.listSameRef,nSz]
  unfold Builtin.List.listExtendWith
  refine wpAny_bind (wpAny_typeOf hT ?_)
  rw [if_neg (by rw [hsr];decide)]
  refine wpAny_bind (wpAny_pyIter_zip (s:={ s with heap:=g }) hz2 ?_)
  refine wpAny_bind (wpAny_holding ?_)
  unfold Builtin.List.listLengthHint
  refine wpAny_bind (wpAny_specialOf hT a8g ?_)
  show wpAny _ _ (specialOf (Value.ref z) (Str.ofString "__length_hint__") >>= _) _ _ _
  refine wpAny_bind (wpAny_specialOf hT a6T ?_)
  refine wpAny_pure ?_
  show wpAny _ _ (rule "list.extend.makes-room" >>= fun _=>Builtin.List.listTouch (.ref s.heap.objs.size) >>= fun _=>(again (.builtin "list.extend.loop" ⟨[.ref s.heap.objs.size,.ref z,.ref s.heap.objs.size],[]⟩):Sem Fin)) _ _ _
  refine wpAny_bind (wpAny_rule (wpAny_bind ?_))
  show wpAny _ _ (updateSeq s.heap.objs.size (·.push .none) >>= fun _=>updateSeq s.heap.objs.size (·.pop)) _ _ _
  refine wpAny_bind (wpAny_updateSeq hS1 rfl ?_)
  have hS3:=Heap.get?_update_self (Obj.mapSeq (fun a:Array Value=>a.push .none)) hS1 rfl
  refine wpAny_updateSeq hS3 rfl (wpAny_pure ⟨plainId_quiet F.plain_extend_loop _,?_⟩)
  have hS4:=Heap.get?_update_self (Obj.mapSeq (fun a:Array Value=>a.pop)) hS3 rfl
  have up4:∀ b o,s.heap.get? b=some o→((g.update s.heap.objs.size (Obj.mapSeq (fun a:Array Value=>a.push .none))).update s.heap.objs.size (Obj.mapSeq (fun a:Array Value=>a.pop))).get? b=some o:=fun b o e=>by
   have hb:b≠s.heap.objs.size:=Nat.ne_of_lt (Heap.lt_size e)
   rw [Heap.get?_update_ne _ _ _ _ hb,Heap.get?_update_ne _ _ _ _ hb]
   exact up b o e
  show codeAny _ _ _ _ { s with heap:=(g.update s.heap.objs.size (Obj.mapSeq (fun a:Array Value=>a.push .none))).update s.heap.objs.size (Obj.mapSeq (fun a:Array Value=>a.pop)) }
  have szg:((g.update s.heap.objs.size (Obj.mapSeq (fun a:Array Value=>a.push .none))).update s.heap.objs.size (Obj.mapSeq (fun a:Array Value=>a.pop))).objs.size=s.heap.objs.size+1:=by rw [Heap.size_update,Heap.size_update,←eg];exact Heap.size_push _ _
  generalize (g.update s.heap.objs.size (Obj.mapSeq (fun a:Array Value=>a.push .none))).update s.heap.objs.size (Obj.mapSeq (fun a:Array Value=>a.pop))=g' at hS4 up4 szg ⊢
  have J4:Inv X pins σ H { s with heap:=g' }:=J.kept (t':=s.toks) up4
  obtain ⟨to1,to2,hTO⟩:=Z.to_
  refine zl_go (A:=A) (H:=H) (S:=s.heap.objs.size) hA D hl9 hlen (fun b hb H' hn=>?_) (fun hb=>absurd (ltz _ hb) (Nat.lt_irrefl _)) (fun {H'} sm=>hK1 sm) (fun {H'} sm=>hK2 sm) (fun s' Hn zs acc c Jn sm nS gS hv ly pr=>⟨Hn,zs,acc,c,rfl,Jn,sm,gS,hv,ly,pr⟩) xs.length 0 { s with heap:=g' } H [] _ _ rfl (Nat.zero_le _) J4 (a0v.refl _) (.inl ⟨up4 _ _ Z.zp,to1,to2,up4 _ _ hTO⟩) (up4 _ _ Z.ti) (Z.a1.at fun o e=>up4 _ _ e) (Z.a2.at fun o e=>up4 _ _ e) (fun b hb=>?_) hS4 .nil rfl (fun i y hy=>by simp at hy)
  ·by_cases hbS:b=s.heap.objs.size
   ·rw [hbS];exact J.fpOk (Nat.le_refl _) (by rw [←hbS];exact hn)
   ·exact fp b (by simp at hb ⊢;rcases hb with h | h | h | h | h | h <;> first | exact absurd h hbS | simp [h]) H' hn
  ·by_cases hbS:b=s.heap.objs.size
   ·rw [hbS]
    exact ⟨J.hok.fresh (Nat.le_refl _),by show _ < g'.objs.size;rw [szg];exact Nat.lt_succ_self _⟩
   ·have hb':b∈[z,TI,TO,i1,i2]:=by simp at hb ⊢;rcases hb with h | h | h | h | h | h <;> first | exact absurd h hbS | simp [h]
    exact ⟨fr b hb',by show _ < g'.objs.size;rw [szg];exact Nat.lt_succ_of_lt (ltz b hb')⟩
 refine wpAny_mono key (fun fin s' x=>?_) fun e s' x=>x.elim
 cases fin with
 | done f =>
  obtain ⟨Hn,zs,acc,c,e,Jn,sm,gS,hv,ly,pr⟩:=x
  cases e
  show wpAny _ A (load s.heap.objs.size >>= _) _ _ _
  refine wpAny_bind (wpAny_load gS ?_)
  exact wpAny_pure (hR s' Hn zs acc.toList Jn sm hv ly pr)
 | again c₁ =>
  refine ⟨x.1,codeAny_mono x.2 fun q s₂ y=>?_⟩
  obtain ⟨Hn,zs,acc,c,rfl,Jn,sm,gS,hv,ly,pr⟩:=y
  show wpAny _ A (load s.heap.objs.size >>= _) _ _ _
  refine wpAny_bind (wpAny_load gS ?_)
  exact wpAny_pure (hR s₂ Hn zs acc.toList Jn sm hv ly pr)
end
theorem a3x {α β:Type} {R:α→β→Prop}:∀ {xs:List α} {ys:List β},xs.length=ys.length→(∀ (i:Nat) x y,xs[i]?=some x→ys[i]?=some y→R x y)→Paired R xs ys
 | [],[],_,_=>.nil
 | [],_ :: _,h,_=>by cases h
 | _ :: _,[],h,_=>by cases h
 | x :: xs,y :: ys,h,k=>.cons (k 0 x y rfl rfl) (a3x (by simpa using h) fun i a b ha hb=>k (i+1) a b (by simpa using ha) (by simpa using hb))
def tSortZ (K:PySem.W.Frag) (ka kb:Bool) (ta:TA):TE:=fun σ H Q=>ta σ H fun vs H1=>∃ (a b:Addr) (ys:List V) (ws:List (Int × List Int)),vs=[.ref a,.ref b]∧(∀ {H'},a0v H1 H'→SqK K ka H' a (ws.map fun q=>V.int q.1))∧(∀ {H'},a0v H1 H'→SqK K kb H' b ys)∧Ws H1 ys (ws.map Prod.snd)∧ws.length≤900∧ws.Nodup ∧
 ∀ p H' out us,a0v H1 H'→H' p=some (.lst out)→Paired (RPw H') out us→us.Perm ws→us.Pairwise LxP→Q (.ref p) H'
theorem a9v {X:Cx} {a b:Expr} {ta:TA} {p p2 pos pos2:Pos} (ka kb:Bool) (hc:X.calm=true) (hu:X.A.units+4 < cLine) (hg:Gl X "sorted") (hm:X.mg "sorted"=none) (hg2:Gl X "zip") (hm2:X.mg "zip"=none) (ha:PA X [a,b] ta)
  (hs:starEach [.Call (.Name "zip" p2) [a,b] [] pos2] X.env=(false,eval (.Call (.Name "zip" p2) [a,b] [] pos2) X.env) :: starEach [] X.env:=by rfl) (hs1:starEach [a,b] X.env=[(false,eval a X.env),(false,eval b X.env)]:=by rfl) (hs2:starEach [b] X.env=[(false,eval b X.env)]:=by rfl) :
  PE X (.Call (.Name "sorted" p) [.Call (.Name "zip" p2) [a,b] [] pos2] [] pos) (tSortZ X.K ka kb ta):=by
 intro pins s σ H Q I h
 refine wpAny_Call_Name_kw (a1M I hg hm a0M ?_ (by decide) (by decide))
 refine PyProof.Rows.callWith_builtin1 ?_ hs rfl
 rw [hs]
 refine Calls.spliced_cons ?_
 refine wpAny_Call_Name_kw (a1M I hg2 hm2 b_zip ?_ (by decide) (by decide))
 refine PyProof.Rows.callWith_type1 (thn (ha pos2 pins s σ H _ I h) fun us s1 ⟨vs,H1,I1,r1,q1⟩=>?_) (by rw [hs1,hs2]) (by rw [hs2];rfl)
 obtain ⟨a',b',ys,ws,e,hK1,hK2,hw,h9,nd,q⟩:=q1
 subst e
 obtain ⟨u,v,rfl,r1,r2⟩:=r1.two
 cases r1
 cases r2
 obtain ⟨us,e1,p1⟩:=a5j I1 (hK1 (a0v.refl _))
 obtain ⟨vs,e2,p2⟩:=a5j I1 (hK2 (a0v.refl _))
 have lt:∀ {k:Bool} {l:Addr} {zs:Array Value},SAt k s1.heap l zs→l < s1.heap.objs.size:=fun {k l zs} x=>by
  cases k with
  | true=>obtain ⟨o,ho,_⟩:=x;exact Heap.lt_size ho
  | false=>obtain ⟨o,ho,_⟩:=x;exact Heap.lt_size ho
 have t1:=lt p1
 have t2:=lt p2
 refine callS p1 p2 fun h' Z kp=>?_
 refine Calls.spliced_nil ?_
 have D:ZipApart (s1.heap.objs.size+4) (s1.heap.objs.size+2) (s1.heap.objs.size+3) s1.heap.objs.size (s1.heap.objs.size+1) a' b':=by
  have t1':@LT.lt Nat _ a' s1.heap.objs.size:=t1
  have t2':@LT.lt Nat _ b' s1.heap.objs.size:=t2
  constructor <;> (show ¬ (@Eq Nat _ _);omega)
 have J:Inv X pins σ H1 { s1 with heap:=h' }:=I1.kept (t':=s1.toks) kp
 have ge:∀ c∈[s1.heap.objs.size+4,s1.heap.objs.size+2,s1.heap.objs.size+3,s1.heap.objs.size,s1.heap.objs.size+1],s1.heap.objs.size≤c:=fun c hc=>by
  simp only [List.mem_cons,List.not_mem_nil,or_false] at hc
  rcases hc with rfl | rfl | rfl | rfl | rfl <;> omega
 have ly:ys.length=ws.length:=by rw [hw.length,List.length_map]
 refine Calls.call_function_entry kind_sorted plain_sorted entry_sorted (args_sorted1 _) ?_
 unfold Builtin.«sorted»
 refine wpAny_bind (m:=checkCount "sorted" 1 1 _) (wpAny_pure ?_)
 refine wpAny_bind (a5x (H:=H1) (xs:=ws.map fun q=>V.int q.1) (ys:=ys) (show X.A.in1.handled=none from I.ok.hd hc) J D Z (by rw [List.length_map];omega) (by rw [List.length_map,ly]) (fun c hc H' hn=>I1.fpOk (ge c hc) hn) (fun c hc=>I1.hok.fresh (ge c hc)) (fun {H'} sm=>hK1 sm) (fun {H'} sm=>hK2 sm) fun s2 Hn zs its Jn sm hv lz pr=>?_)
 rw [List.length_map] at lz
 have li:its.length=ws.length:=by rw [←hv.length,lz]
 have hp:Paired (RPw Hn) zs ws:=by
  refine a3x (by omega) fun i q w hq hwi=>?_
  obtain ⟨t,x,y,rfl,hx,hy,ht⟩:=pr i q hq
  rw [List.getElem?_map,hwi] at hx
  cases hx
  obtain ⟨w',hw',rw'⟩:=Paired.right_of hw i y hy
  rw [List.getElem?_map,hwi] at hw'
  cases hw'
  exact ⟨t,y,rfl,ht,Wd.same sm rw'⟩
 have tup:∀ i,i < its.length→PrN s2.heap (its.getD i Value.none) (ws.getD i (0,[])):=fun i hi=>by
  have hy:zs[i]?=some (zs[i]'(by omega)):=List.getElem?_eq_getElem _
  obtain ⟨wd,hwd,t,uu,et,ht,hu2⟩:=Paired.right_of hp i _ hy
  obtain ⟨u,hu',ru⟩:=hv.get hy
  rw [et] at ru
  cases ru
  obtain ⟨_,its2,rv2,it⟩:=a1b ((show a0A X.prog X.w Hn s2.heap t (.tup [.int wd.1,uu]) from Jn.hok _ _ ht))
  obtain ⟨b,eb,hb⟩:=Wd.ti hu2
  subst eb
  obtain ⟨_,its3,rv3,it3⟩:=a1b ((show a0A X.prog X.w Hn s2.heap b (.tup (wd.2.map V.int)) from Jn.hok _ _ hb))
  have e1:its.getD i Value.none=.ref t:=by rw [List.getD_eq_getElem?_getD,hu'];rfl
  have e2:ws.getD i (0,[])=wd:=by rw [List.getD_eq_getElem?_getD,hwd];rfl
  obtain ⟨u1,u2,rfl,r1,r2⟩:=rv2.two
  obtain ⟨tk,rfl⟩:=r1
  cases r2
  rw [e1,e2]
  exact ⟨t,_,tk,.ref b,rfl,it,rfl,b,_,rfl,it3,by simpa using a3c rv3⟩
 refine wpAny_bind (wpAny_newList ?_ (by rw [sizeLine_eq];omega))
 show wpAny _ _ _ _ _ { s2 with heap:=s2.heap.push (seqObj "list" its.toArray 0) }
 have hoL:(s2.heap.push (seqObj "list" its.toArray 0)).get? s2.heap.objs.size=some (seqObj "list" its.toArray 0):=Heap.get?_push_size _ rfl
 have k2:∀ b o,s2.heap.get? b=some o→(s2.heap.push (seqObj "list" its.toArray 0)).get? b=some o:=fun b o e=>Heap.get?_push_of_some _ e
 have nL:∀ b o,s2.heap.get? b=some o→b≠s2.heap.objs.size:=fun b o e=>Nat.ne_of_lt (Heap.lt_size e)
 have hLn:Hn s2.heap.objs.size=none:=Jn.hok.fresh (Nat.le_refl _)
 refine wpAny_bind (wpAny_holding (wpAny_call_entry slot_list_sort ⟨_,hoL,rfl⟩ entry_list_sort (a3v (s:={ s2 with heap:=s2.heap.push (seqObj "list" its.toArray 0) }) hoL (by omega) (by omega) (fun i hi=>?_) nd ?_ fun h3 p c pm srt hL kp3=>⟨_,rfl,?_⟩) (args_list_sort _)))
 ·exact (tup i hi).keep2 k2
 ·show X.A.units+1+1+1 < cLine
  omega
 ·have kh:∀ b o,s2.heap.get? b=some o→h3.get? b=some o:=fun b o e=>kp3 b o (nL b o e) (Heap.get?_push_of_some _ e)
  have lt:∀ i∈p.toList,i < zs.length:=fun i hi=>by have:=pm.mem i hi;omega
  have pw:=a3b (xs:=ws) (0,[]) pm (by omega)
  have I2:Inv X pins σ (upd Hn s2.heap.objs.size (.lst (p.toList.map fun i=>zs.getD i .non))) { s2 with heap:=h3,toks:=s2.toks }:=Jn.laid (t':=s2.toks) kh (Nat.le_refl _) ⟨by rw [List.length_map,←List.length_map (f:=fun i=>ws.getD i (0,[])),pw.length_eq,sizeLine_eq];omega,_,c,Paired.pick hv .non Value.none p.toList lt,hL⟩
  have sm2:=a0d hLn (.lst (p.toList.map fun i=>zs.getD i .non))
  exact wpAny_pure ⟨_,rfl,.ref s2.heap.objs.size,_,I2,rfl,q _ _ _ (p.toList.map fun i=>ws.getD i (0,[])) (sm.trans sm2) a0b (Paired.pick (Paired.mapP hp fun _ _ q=>RPw.same sm2 q) .non (0,[]) p.toList lt) pw srt⟩
end L2
namespace K72
open PySem L2
def left (ws:List Int) (k:Nat):Int:=((srt ws).take (ws.length - k)).sum
def heavy (ws:List Int):List Int:=(srt ws).reverse
def due (ws cs:List Int):Int:=(List.zipWith (fun w c=>w * c) (heavy ws) cs).sum
theorem a8h (ws:List Int):(heavy ws).length=ws.length:=by unfold heavy;rw [List.length_reverse,a1c]
theorem a4O {ws:List Int} {k:Nat} (h:k < ws.length):left ws k=(heavy ws).getD k 0+left ws (k+1):=by
 unfold left heavy
 have hl:=a1c ws
 obtain ⟨m,em⟩:∃ m,m=ws.length - (k+1):=⟨_,rfl⟩
 rw [←em,show ws.length - k=m+1 by omega,List.take_add_one,List.sum_append,List.getD_eq_getElem?_getD,List.getElem?_reverse (by omega),show (srt ws).length - 1 - k=m by omega,List.getElem?_eq_getElem (by omega)]
 show _+([_]:List Int).sum=_
 simp
 omega
theorem a9w (ws:List Int):left ws ws.length=0:=by unfold left;rw [Nat.sub_self];rfl
theorem b1k (ws:List Int):due ws []=0:=by unfold due;rw [List.zipWith_nil_right];rfl
theorem a6b:∀ (hs cs:List Int) (c:Int),cs.length < hs.length→(List.zipWith (fun w c=>w * c) hs (cs++[c])).sum=(List.zipWith (fun w c=>w * c) hs cs).sum+hs.getD cs.length 0 * c
 | [],cs,c,h=>by cases h
 | x :: hs,[],c,_=>by
  show (x * c :: List.zipWith _ hs []).sum=0+x * c
  rw [List.zipWith_nil_right]
  simp
 | x :: hs,y :: cs,c,h=>by
  have ih:=a6b hs cs c (by simpa using h)
  show (x * y :: List.zipWith _ hs (cs++[c])).sum=(x * y :: List.zipWith _ hs cs).sum+hs.getD cs.length 0 * c
  rw [List.sum_cons,List.sum_cons,ih]
  omega
theorem a6c {ws cs:List Int} {c:Int} (h:cs.length < ws.length):due ws (cs++[c])=due ws cs+(heavy ws).getD cs.length 0 * c:=a6b _ _ _ (by rw [a8h];exact h)
def a4P (ws:List Int) (spent c:Int) (cs:List Int):Prop:=spent=due ws cs+c * left ws cs.length
theorem a4P.opn {ws cs:List Int} {spent c r:Int} (h:a4P ws spent c cs):a4P ws (spent+r * left ws cs.length) (c+r) cs:=by
 unfold a4P at h ⊢
 rw [h,Int.add_mul]
 omega
theorem a4P.set {ws cs:List Int} {spent c r:Int} (h:a4P ws spent c cs) (hl:cs.length < ws.length):a4P ws (spent+r * left ws (cs.length+1)) (c+r) (cs++[c]):=by
 unfold a4P at h ⊢
 rw [a6c hl,List.length_append,h,a4O hl,Int.add_mul,Int.mul_add,Int.mul_comm c ((heavy ws).getD cs.length 0)]
 show _=_+(c * left ws (cs.length+1)+r * left ws (cs.length+1))
 omega
theorem a4P.fin {ws cs:List Int} {spent c:Int} (h:a4P ws spent c cs) (hl:cs.length+1=ws.length):spent=due ws (cs++[c]):=by
 unfold a4P at h
 rw [a6c (by omega),h,a4O (by omega),hl,a9w,Int.mul_add,Int.mul_comm c ((heavy ws).getD cs.length 0)]
 omega
theorem b1l (xs:List Int) (c:Int):srt (xs.map (· - c))=(srt xs).map (· - c):=by
 refine (a2E (ns:=xs.map (· - c)) ((a0L xs).map _) ?_).symm
 rw [List.pairwise_map]
 exact (a1C xs).imp fun h=>by omega
def gaps (P:List Int):List Int:=(srt P).map (· - (srt P).headD 0)
theorem a6d {P R:List Int} {c:Int} (pm:P.Perm (c :: R)) (le:∀ x∈R,c≤x):srt P=c :: srt R:=by
 refine (a2E (ns:=P) (ms:=c :: srt R) (((a0L R).cons c).trans pm.symm) ?_).symm
 rw [List.pairwise_cons]
 exact ⟨fun x hx=>le x ((a0L R).mem_iff.mp hx),a1C R⟩
theorem a8i {P R:List Int} {c:Int} (pm:P.Perm (c :: R)) (le:∀ x∈R,c≤x):(gaps P).tail=(srt R).map (· - c):=by
 unfold gaps
 rw [a6d pm le]
 rfl
theorem a8j {P R Q:List Int} {c:Int} (pm:P.Perm (c :: R)) (le:∀ x∈R,c≤x):srt ((gaps P).tail++Q)=(srt (R++Q.map (c+·))).map (· - c):=by
 rw [a8i pm le,←b1l (R++Q.map (c+·)) c]
 refine a4K ?_
 rw [List.map_append,List.map_map]
 refine List.Perm.append ((a0L R).map _) ?_
 have:(Q.map ((fun x=>x - c) ∘ fun x=>c+x))=Q:=by
  conv=>rhs;rw [←List.map_id Q]
  refine List.map_congr_left fun x _=>?_
  show c+x - c=x
  omega
 rw [this]
theorem a8k {N:List Int} {c:Int}:((srt N).map (· - c)).map (· - ((srt N).map (· - c)).headD 0)=gaps N∨N=[]:=by
 cases e:srt N with
 | nil =>
  refine .inr (List.length_eq_zero_iff.mp ?_)
  have:=a1c N
  rw [e] at this
  exact this.symm
 | cons x r =>
  refine .inl ?_
  unfold gaps
  rw [e,List.map_map]
  refine List.map_congr_left fun y _=>?_
  show y - c - (x - c)=y - x
  omega
def top (i:Nat):Stmt:=PySem.Challenge.pw_lettertoll_k72_whole_rows_make_codes.main.body.getD i (.Pass ⟨0,0,0,0⟩)
abbrev a3f:Stmt:=top 6
abbrev a2g:Stmt:=top 7
abbrev a2z:Stmt:=top 10
abbrev a3y:Stmt:=top 11
abbrev a5y:Stmt:=top 12
abbrev a6U:Stmt:=top 13
abbrev b1V:Stmt:=top 15
abbrev b1W:Stmt:=top 16
abbrev a1r:Stmt:=top 17
abbrev a1T:Stmt:=top 18
abbrev a7a:Stmt:=top 19
abbrev a6V:Stmt:=top 21
abbrev a3z:Stmt:=top 22
abbrev a2A:Stmt:=top 23
abbrev a2h:Stmt:=top 24
abbrev a1u:Stmt:=top 25
abbrev a3A:Stmt:=top 26
abbrev a2B:Stmt:=top 27
abbrev a6W:Stmt:=top 28
abbrev a1Y:Stmt:=top 29
abbrev a3B:Stmt:=top 30
abbrev a2i:Stmt:=top 31
abbrev b1m:Stmt:=top 32
abbrev a3g:Stmt:=top 33
abbrev a2F:Stmt:=top 34
abbrev a3r:Stmt:=top 35
abbrev a9x:Stmt:=top 36
section
variable {P:Program} {w:World} {K:PySem.W.Frag} {mg:Str→Option Value} {base:Heap} {f:Addr} {fd:FuncData}
def a6e (K:PySem.W.Frag):Sp:=fun vs H Q _=>∃ (a:Addr) (ns:List Int) (k:Int),vs=[.ref a,.int k]∧SqL K H a (ns.map V.int)∧0≤k∧∀ i,Q (.int i) H
theorem scCell:a0w ["script","k"] ["script","k"] (a0c a6V):=⟨rfl,rfl,rfl,by decide +kernel,rfl,by decide +kernel,by decide +kernel⟩
theorem b1n (F:Fun K "_law_cell_at" "_law_cell_at" a6V f fd) (ml:mg "len"=none):a1B P w K mg base CX0 1 f fd ["script","k"] (a6e K):=by
 refine F.ok (k:=0) scCell (fun vs H Q E h=>?_) (fun cdv A outer s H vs Q E hr h=>?_)
 ·obtain ⟨a,ns,k,rfl,_⟩:=h
  rfl
 obtain ⟨a,ns,k,rfl,hS,h0,q⟩:=h
 refine ⟨_,a0f (a0Y (a0o a7m (pv 1) (a0j a0i (by rfl) ml PySem.boot_len (a0a (pv 0) a0e)) (nomark _)) (a0h (a0x (a0P a1z (pv 0) (pv 1) (fun _ _=>rfl)))) a0B) (a0h (a0x a0g)),?_⟩
 refine ⟨_,rfl,_,rfl,a,_,rfl,.inl hS,_,_,rfl,rfl,_,rfl,?_⟩
 refine a2v (fun c=>?_) (fun c=>q 0)
 have c1:k < ((ns.map V.int).length:Int):=of_decide_eq_true c
 obtain ⟨n,rfl⟩:∃ n:Nat,k=n:=⟨k.toNat,by omega⟩
 have hn:n < ns.length:=by rw [List.length_map] at c1;omega
 exact ⟨_,rfl,_,rfl,a,_,_,_,rfl,rfl,hS,a2b (List.getElem?_eq_getElem hn),q _⟩
def a5z:Sp:=fun vs H Q _=>∃ i,vs=[.int i]∧Q (.bl true) H
theorem b1o:a0w ["found"] ["found"] (a0c a3z):=⟨rfl,rfl,rfl,by decide +kernel,rfl,by decide +kernel,by decide +kernel⟩
theorem a9y (F:Fun K "_law_whole" "_law_whole" a3z f fd) (mi:mg "isinstance"=none) (m1:mg "int"=none) (m2:mg "bool"=none):a1B P w K mg base CX0 1 f fd ["found"] a5z:=by
 refine F.ok (k:=0) b1o (fun vs H Q E h=>?_) (fun cdv A outer s H vs Q E hr h=>?_)
 ·obtain ⟨i,rfl,_⟩:=h
  rfl
 obtain ⟨i,rfl,q⟩:=h
 refine ⟨_,a0h (a0x (pe_and (a0j a2K (by rfl) mi a9b (a0a (pv 0) (a0a (a3E (v:=.ty "int") (by rfl) m1 b_int rfl) a0e)))
  (pe_one (a9U (a0j a2K (by rfl) mi a9b (a0a (pv 0) (a0a (a3E (v:=.ty "bool") (by rfl) m2 b_bool rfl) a0e))))))),?_⟩
 exact ⟨_,rfl,_,_,_,_,rfl,.int i,a5g _,_,rfl,iteT ⟨_,rfl,_,_,_,_,rfl,.int i,a4z _,_,rfl,q⟩⟩
def a2O:Sp:=fun vs H Q _=>∃ c:Int,vs=[.int c]∧∀ i,1≤i→i≤B30→Q (.int i) H
theorem a6f:a0w ["cell","rest"] ["cell"] (a0c a2A):=⟨rfl,rfl,rfl,by decide +kernel,rfl,by decide +kernel,by decide +kernel⟩
theorem a8l (F:Fun K "_law_amount" "_law_amount" a2A f fd):a1B P w K mg base CX0 1 f fd ["cell"] a2O:=by
 refine F.ok (k:=0) a6f (fun vs H Q E h=>?_) (fun cdv A outer s H vs Q E hr h=>?_)
 ·obtain ⟨c,rfl,_⟩:=h
  rfl
 obtain ⟨c,rfl,q⟩:=h
 refine ⟨_,a0f (a0u (i:=1) a6f.nd rfl (Or.inl rfl) (a0r a2r (pv 0) a0g))
  (a0f (a0Y (a0o a2e (a0r a0U (pv 0) a0g) a0g (nomark _)) (a0h (a0x (a0r a0R a0g (a0r a0U (pv 1) (a0r a7h a0g a0g))))) a0B)
  (a0f (a0Y (a0o a2e (a0r a0U (pv 0) a0g) a0g (nomark _)) (a0h (a0x (a0r a1Z (a0r a7h a0g a0g) (a0r a0U (pv 1) a0g)))) a0B)
  (a0f (a0Y (a0o a2e (a0r a0U (pv 0) a0g) a0g (nomark _)) (a0h (a0x (a0r a0R a0g (a0r a0U (pv 1) a0g)))) a0B)
  (a0h (a0x (a0r a0R a0g (a0r a0U (pv 1) a0g))))))),?_⟩
 refine ⟨_,rfl,_,_,rfl,rfl,⟨by decide,by decide⟩,?_⟩
 refine ⟨_,rfl,_,_,rfl,rfl,(by show (0:Int) < _;decide),rfl,_,rfl,?_⟩
 refine a2v (fun _=>⟨_,rfl,_,_,rfl,rfl,⟨by decide,by decide,by decide⟩,_,_,rfl,rfl,(by show (0:Int) < _;decide),_,_,rfl,rfl,q _ (by rw [e30];unfold B30;omega) (by rw [e30];unfold B30;omega)⟩) (fun _=>?_)
 refine ⟨_,rfl,_,_,rfl,rfl,(by show (0:Int) < _;decide),rfl,_,rfl,?_⟩
 refine a2v (fun _=>⟨_,_,rfl,rfl,⟨by decide,by decide,by decide⟩,_,rfl,_,_,rfl,rfl,(by show (0:Int) < _;decide),_,_,rfl,rfl,q _ (by rw [e30];unfold B30;omega) (by rw [e30];unfold B30;omega)⟩) (fun _=>?_)
 refine ⟨_,rfl,_,_,rfl,rfl,(by show (0:Int) < _;decide),rfl,_,rfl,?_⟩
 refine a2v (fun _=>⟨_,rfl,_,_,rfl,rfl,(by show (0:Int) < _;decide),_,_,rfl,rfl,q _ (by omega) (by unfold B30;omega)⟩) (fun _=>?_)
 exact ⟨_,rfl,_,_,rfl,rfl,(by show (0:Int) < _;decide),_,_,rfl,rfl,q _ (by omega) (by unfold B30;omega)⟩
end
abbrev Mv:=Int × Int × (Int × List Int)
abbrev Rw:=Int × Int × List Int
def wl (ws:List Int) (st:Int):Int:=((srt ws).take (ws.length - st.toNat)).sum
def fin (ws:List Int) (r:Rw):Mv:=if r.2.2=[] then (r.1,0,(r.2.1,[])) else (r.1,r.2.2.headD 0 * wl ws r.2.1,(r.2.1,r.2.2.map (· - r.2.2.headD 0)))
def rw1 (ws:List Int) (st:Int) (gs:List Int):List Rw:=if 1 < gs.length∨st=(ws.length:Int) - 1 then [(0,st+1,srt gs.tail)] else []
def rw2 (ps ws:List Int) (st:Int) (gs:List Int) (m:Nat):List Rw:=if st+(gs.length:Int) - 1+(m:Int)≤(ws.length:Int) then [((m:Int),st,srt (gs.tail++(srt ps).take m))] else []
def rws (ps ws:List Int) (st:Int) (gs:List Int):Nat→List Rw
 | 0=>rw1 ws st gs
 | n+1=>rws ps ws st gs n++rw2 ps ws st gs (n+2)
def mvs (ps ws:List Int) (st:Int) (gs:List Int):List Mv:=(rws ps ws st gs (ps.length - 1)).map (fin ws)
theorem a5A (ps ws:List Int) (st:Int) (gs:List Int):∀ n,(rws ps ws st gs n).length≤n+1
 | 0=>by unfold rws rw1;split <;> simp
 | n+1=>by
  unfold rws
  rw [List.length_append]
  have:=a5A ps ws st gs n
  unfold rw2
  split <;> simp <;> omega
def Bw (ns:List Int):Prop:=∀ x∈ns,0≤x∧x≤B30
def Bg (ns:List Int):Prop:=∀ x∈ns,0≤x∧x≤1000 * B30
theorem sum_bd {ns:List Int} (h:Bw ns):0≤ns.sum∧ns.sum≤ns.length * B30:=by
 induction ns with
 | nil=>simp
 | cons a t ih =>
  have h1:=h a (.head _)
  have h2:=ih fun x hx=>h x (.tail _ hx)
  rw [List.sum_cons,List.length_cons]
  have e:(((t.length+1:Nat):Int)) * B30=t.length * B30+B30:=by push_cast;rw [Int.add_mul];omega
  rw [e]
  omega
theorem wl_bd {ws:List Int} (h:Bw ws) (l:ws.length≤10) (st:Int):0≤wl ws st∧wl ws st≤10 * B30:=by
 have b:Bw ((srt ws).take (ws.length - st.toNat)):=fun x hx=>h x ((a0L ws).mem_iff.mp (List.mem_of_mem_take hx))
 have:=sum_bd b
 unfold wl
 have l2:((srt ws).take (ws.length - st.toNat)).length≤10:=by rw [List.length_take,a1c];omega
 refine ⟨this.1,Int.le_trans this.2 ?_⟩
 have:(((srt ws).take (ws.length - st.toNat)).length:Int)≤10:=by omega
 exact Int.mul_le_mul_of_nonneg_right this (by decide)
theorem a2j {ns:List Int}:srt ns=[]↔ns=[]:=by
 constructor
 ·intro h
  have:=a1c ns
  rw [h] at this
  exact List.length_eq_zero_iff.mp this.symm
 ·intro h;subst h;exact List.length_eq_zero_iff.mp (by rw [a1c];rfl)
theorem b1p {ns:List Int} (h:Bg ns):0≤(srt ns).headD 0∧(srt ns).headD 0≤1000 * B30:=by
 cases e:srt ns with
 | nil=>exact ⟨by show (0:Int)≤0;omega,by show (0:Int)≤1000 * B30;unfold B30;omega⟩
 | cons a t=>exact h a ((a0L ns).mem_iff.mp (by rw [e];exact .head _))
section
variable {P:Program} {w:World} {K:PySem.W.Frag} {mg:Str→Option Value} {base:Heap} {f:Addr} {fd:FuncData}
theorem a6g {X:Cx} {st:Stmt}:PS X st (fun _ _ _=>False):=fun _ _ _ _ _ _ h=>h.elim
def a2P:Sp:=fun vs H Q _=>∃ (p q:Addr) (ps ws:List Int),vs=[.ref p,.ref q]∧TW H p ps∧TW H q ws∧(ws.length:Int)≤(if ps.length=2 then 7 else 6)∧Q .non H
theorem a9z:a0w ["prices","weights"] ["prices","weights"] (a0c a2z):=⟨rfl,rfl,rfl,by decide +kernel,rfl,by decide +kernel,by decide +kernel⟩
theorem a8m (F:Fun K "refuse_many" "refuse_many" a2z f fd) (ml:mg "len"=none):a1B P w K mg base CX0 1 f fd ["prices","weights"] a2P:=by
 refine F.ok (k:=0) a9z (fun vs H Q E h=>?_) (fun cdv A outer s H vs Q E hr h=>?_)
 ·obtain ⟨p,q,ps,ws,rfl,_⟩:=h
  rfl
 obtain ⟨p,q,ps,ws,rfl,hp,hq,hl,qq⟩:=h
 refine ⟨_,a0h (a0Y (a0o a7n (a0j a0i (by rfl) ml PySem.boot_len (a0a (pv 1) a0e)) (a8Q (a0o a2e (a0j a0i (by rfl) ml PySem.boot_len (a0a (pv 0) a0e)) a0g (nomark _)) a0g a0g) (nomark _)) (a0h a6g) a0B),?_⟩
 refine ⟨_,rfl,q,_,rfl,.inr (SqT.of hq),_,rfl,p,_,rfl,.inr (SqT.of hp),rfl,_,rfl,?_⟩
 rw [List.length_map,List.length_map]
 refine a2v (fun z=>?_) (fun z=>?_)
 ·have z1:=V.int.inj (of_decide_eq_true z)
  rw [if_pos (by omega)] at hl
  refine ⟨_,_,rfl,rfl,_,rfl,?_⟩
  rw [decide_eq_false (by omega)]
  exact a3I qq
 ·have z1:ps.length≠2:=fun y=>z (decide_eq_true (by rw [y];rfl))
  rw [if_neg z1] at hl
  refine ⟨_,_,rfl,rfl,_,rfl,?_⟩
  rw [decide_eq_false (by omega)]
  exact a3I qq
def a8n:Sp:=fun vs H Q _=>∃ (q:Addr) (ws:List Int) (st:Int),vs=[.ref q,.int st]∧TW H q ws∧ws.length≤10∧0≤st∧st≤(ws.length:Int)∧∀ H',a0v H H'→Q (.int (wl ws st)) H'
theorem scLeft:a0w ["weights","settled"] ["weights","settled"] (a0c a6U):=⟨rfl,rfl,rfl,by decide +kernel,rfl,by decide +kernel,by decide +kernel⟩
theorem b1q (F:Fun K "weight_left" "weight_left" a6U f fd) (ml:mg "len"=none) (mS:mg "sorted"=none) (ms:mg "sum"=none):a1B P w K mg base CX0 1 f fd ["weights","settled"] a8n:=by
 refine F.ok (k:=0) scLeft (fun vs H Q E h=>?_) (fun cdv A outer s H vs Q E hr h=>?_)
 ·obtain ⟨q,ws,st,rfl,_⟩:=h
  rfl
 obtain ⟨q,ws,st,rfl,hq,l10,s0,s1,qq⟩:=h
 refine ⟨_,a0h (a0x (a0j (a2L rfl) (by rfl) ms a9c (a0a (a1e a2u (a0j a1X (by rfl) mS a0M (a0a (pv 0) a0e)) a1x (a1y (a0r a1Z (a0j a0i (by rfl) ml PySem.boot_len (a0a (pv 0) a0e)) (pv 1)))) a0e))),?_⟩
 refine ⟨_,rfl,q,ws,rfl,.inr hq,by omega,fun p1 H1 sm1 hn1 hp1=>?_⟩
 refine ⟨_,rfl,q,_,rfl,.inr (SqT.of (sm1 _ _ hq)),_,rfl,_,_,rfl,rfl,_,rfl,p1,_,rfl,SqL.of hp1,fun p2 hp2=>?_⟩
 have sm2:=a0d hp2 (.lst (((srt ws).take (ws.length - st.toNat)).map V.int))
 have e:a4j ((srt ws).map V.int) none (some (((ws.map V.int).length:Int) - st))=((srt ws).take (ws.length - st.toNat)).map V.int:=by
  rw [List.length_map,show ((ws.length:Int) - st)=((ws.length - st.toNat:Nat):Int) by omega,a3t,List.map_take]
 dsimp only
 rw [e]
 exact ⟨p2,_,rfl,a0b,qq _ (sm1.trans sm2)⟩
abbrev NM:List Str:=["weights","number","settled","gaps","least","counted_anew"]
def a8o:Sp:=fun vs H Q _=>∃ (q g:Addr) (ws gs:List Int) (nb st:Int),vs=[.ref q,.int nb,.int st,.ref g]∧TW H q ws∧TW H g gs∧ws.length≤10∧gs.length≤30∧0≤st∧st≤(ws.length:Int)∧Bw ws∧Bg gs ∧
 ∀ (t:Addr) H',a0v H H'→a5u H' (.ref t) (fin ws (nb,st,srt gs))→Q (.ref t) H'
theorem a8p:a0w NM ["weights","number","settled","gaps"] (a0c a5y):=⟨rfl,rfl,rfl,by decide +kernel,rfl,by decide +kernel,by decide +kernel⟩
theorem ndM:(("gap":Str) :: NM).Nodup:=by decide +kernel
theorem b1r (F:Fun K "move_to" "move_to" a5y f fd) (GL:Fns P w K mg base ["weights","settled"] "weight_left" a8n 1) (ml:mg "len"=none) (mS:mg "sorted"=none) (mn:mg "min"=none) (mt:mg "tuple"=none):a1B P w K mg base CX0 2 f fd ["weights","number","settled","gaps"] a8o:=by
 refine F.ok (k:=1) a8p (fun vs H Q E h=>?_) (fun cdv A outer s H vs Q E hr h=>?_)
 ·obtain ⟨q,g,ws,gs,nb,st,rfl,_⟩:=h
  rfl
 obtain ⟨q,g,ws,gs,nb,st,rfl,hq,hg,l10,l30,s0,s1,bw,bg,qq⟩:=h
 refine ⟨_,a0f (a0Y (a0o a2e (a0j a0i (by rfl) ml PySem.boot_len (a0a (pv 3) a0e)) a0g (nomark _)) (a0h (a0x (a0Z (a0a (pv 1) (a0a a0g (a0a (a0Z (a0a (pv 2) (a0a (a0Z a0e) a0e))) a0e)))))) a0B)
  (a0f (a0u (i:=4) a8p.nd rfl (Or.inr rfl) (a0j (a7X rfl) (by rfl) mn b0j (a0a (pv 3) a0e)))
  (a0f (a0u (i:=5) a8p.nd rfl (Or.inl rfl) (a1m a0V (by rfl) mt a2f (a0a (a5R (M:=NM) rfl (a0l.of (a0c a5y) NM rfl rfl rfl (by decide +kernel) (by decide +kernel) (by decide +kernel) rfl (by decide +kernel)) ndM rfl (a0j a1X (by rfl) mS a0M (a0a (pv 3) a0e)) (mo_srt (a1H a1o a2D))
   (fun cl C s0 H0 fp=>⟨a0Q,a0r a1Z (pv 0) (pv 5)⟩)) a0e)))
  (a0h (a0x (a0Z (a0a (pv 1) (a0a (a0r a7P (pv 4) (a0s GL.ok hr (by rfl) GL.m GL.kp GL.b .nil a0N (a0a (pv 0) (a0a (pv 2) a0e)))) (a0a (a0Z (a0a (pv 2) (a0a (pv 5) a0e))) a0e)))))))),?_⟩
 refine ⟨_,rfl,g,_,rfl,.inr (SqT.of hg),rfl,_,rfl,?_⟩
 rw [List.length_map]
 refine a2v (fun z=>?_) (fun z=>?_)
 ·have z1:gs=[]:=List.length_eq_zero_iff.mp (by have:=V.int.inj (of_decide_eq_true z);omega)
  subst z1
  have ef:fin ws (nb,st,srt [])=(nb,0,(st,[])):=by unfold fin;rw [if_pos (a2j.mpr rfl)]
  rw [ef] at qq
  refine ⟨_,rfl,_,rfl,(by show 0≤sizeLine;decide),fun a1 ha1=>?_⟩
  have sA:=a0d ha1 (.tup [])
  have gA:TW (upd H a1 (.tup [])) a1 []:=a0b
  generalize upd H a1 (.tup [])=HA at sA gA ⊢
  refine ⟨(by show 2≤sizeLine;decide),fun a2 ha2=>?_⟩
  have sB:=a0d ha2 (.tup [.int st,.ref a1])
  have gB:upd HA a2 (.tup [.int st,.ref a1]) a2=some (.tup [.int st,.ref a1]):=a0b
  generalize upd HA a2 (.tup [.int st,.ref a1])=HB at sB gB ⊢
  refine ⟨(by show 3≤sizeLine;decide),fun a3 ha3=>?_⟩
  have sC:=a0d ha3 (.tup [.int nb,.int 0,.ref a2])
  refine qq a3 _ ((sA.trans sB).trans sC) ⟨a3,_,_,_,rfl,a0b,rfl,rfl,a2,_,_,rfl,sC _ _ gB,rfl,a1n (sC _ _ (sB _ _ gA))⟩
 ·have ne:gs≠[]:=fun y=>z (by rw [y];rfl)
  have sn:srt gs≠[]:=fun y=>ne (a2j.mp y)
  have hb:=b1p bg
  have wb:=wl_bd bw l10 st
  refine ⟨_,rfl,g,gs,rfl,.inr hg,ne,?_⟩
  have ef:fin ws (nb,st,srt gs)=(nb,(srt gs).headD 0 * wl ws st,(st,(srt gs).map (· - (srt gs).headD 0))):=by unfold fin;rw [if_neg sn]
  rw [ef] at qq
  have lgs:=a1c gs
  generalize hle:(srt gs).headD 0=least at hb qq ⊢
  refine ⟨_,rfl,g,gs,rfl,.inr hg,by omega,fun p1 H1 sm1 hn1 hp1=>?_⟩
  refine ⟨p1,_,rfl,SqL.of hp1,fun d hd=>?_⟩
  refine ⟨fun i H'=>a0v H1 H'∧H' d=some (.lst ((((srt gs).take i).map (· - least)).map V.int)),⟨a0d hd _,a0b⟩,fun i H' _ hP=>SqL.of (hP.1 _ _ hp1),fun i x H' hx hP=>?_,fun H' hP=>?_⟩
  ·obtain ⟨s5,hd'⟩:=hP
   have il:=(List.getElem?_eq_some_iff.mp hx).1
   rw [List.length_map] at il
   rw [List.getElem?_map] at hx
   obtain ⟨z,hz,rfl⟩:=Option.map_eq_some_iff.mp hx
   refine a0O ⟨_,rfl,_,rfl,_,_,rfl,rfl,_,hd',?_,a0q hd s5,?_⟩
   ·rw [List.length_map,List.length_map,List.length_take];exact a0m (by omega)
   ·rw [a0b,List.take_add_one,hz,List.map_append,List.map_append];rfl
  ·obtain ⟨s5,hd'⟩:=hP
   rw [List.length_map,List.take_length] at hd'
   refine ⟨d,_,rfl,.inl ⟨SqL.of hd',fun c hc=>?_⟩⟩
   have s6:=a0d hc (.tup (((srt gs).map (· - least)).map V.int))
   have g6:TW (upd H' c (.tup (((srt gs).map (· - least)).map V.int))) c ((srt gs).map (· - least)):=a0b
   generalize upd H' c (.tup (((srt gs).map (· - least)).map V.int))=H6 at s6 g6 ⊢
   have t6:=(sm1.trans s5).trans s6
   refine ⟨_,rfl,_,rfl,_,rfl,_,rfl,q,ws,st,rfl,t6 _ _ hq,l10,s0,s1,fun H7 s7=>?_⟩
   refine ⟨_,_,rfl,rfl,⟨⟨hb.1,by unfold B30 at *;omega⟩,⟨wb.1,by unfold B30 at *;omega⟩⟩,?_⟩
   refine ⟨_,rfl,_,rfl,(by show 2≤sizeLine;decide),fun a2 ha2=>?_⟩
   have sB:=a0d ha2 (.tup [.int st,.ref c])
   have gB:upd H7 a2 (.tup [.int st,.ref c]) a2=some (.tup [.int st,.ref c]):=a0b
   generalize upd H7 a2 (.tup [.int st,.ref c])=HB at sB gB ⊢
   refine ⟨(by show 3≤sizeLine;decide),fun a3 ha3=>?_⟩
   have sC:=a0d ha3 (.tup [.int nb,.int (least * wl ws st),.ref a2])
   exact qq a3 _ (((t6.trans s7).trans sB).trans sC) ⟨a3,_,_,_,rfl,a0b,rfl,rfl,a2,_,_,rfl,sC _ _ gB,rfl,a1n (sC _ _ (sB _ _ (s7 _ _ g6)))⟩
theorem Bg.tail {gs:List Int} (h:Bg gs):Bg gs.tail:=fun x hx=>h x (List.mem_of_mem_tail hx)
theorem Bg.cat {gs ps:List Int} (h:Bg gs) (b:Bw ps) (m:Nat):Bg (gs.tail++(srt ps).take m):=fun x hx=>by
 rcases List.mem_append.mp hx with z | z
 ·exact h.tail x z
 ·have:=b x ((a0L ps).mem_iff.mp (List.mem_of_mem_take z))
  unfold B30 at *
  omega
theorem a4c (gs:List Int):a4j (gs.map V.int) (some 1) none=gs.tail.map V.int:=by
 have:=a3N (gs.map V.int) 1
 rw [←List.map_drop,List.drop_one] at this
 exact this
abbrev NMv:List Str:=["prices","weights","frontier","settled","gaps","found","many","opened"]
def Gp (K:PySem.W.Frag) (H:Hp) (g:Addr) (gs:List Int):Prop:=TW H g gs∨(SqT K H g (gs.map V.int)∧gs≠[])
theorem Gp.same {H H':Hp} {g:Addr} {gs:List Int} (s:a0v H H') (h:Gp K H g gs):Gp K H' g gs:=h.elim (fun e=>.inl (s _ _ e)) fun e=>.inr ⟨s.seqT e.1,e.2⟩
theorem Gp.sq {H:Hp} {g:Addr} {gs:List Int} (h:Gp K H g gs):SqT K H g (gs.map V.int):=h.elim (fun e=>SqT.of e) fun e=>e.1
def rSl1 (K:PySem.W.Frag):V→Option Int→Option Int→Hp→VK→Prop:=fun x lo hi H Q=>∃ (a:Addr) (gs:List Int),x=.ref a∧Gp K H a gs∧lo=some 1∧hi=none∧∀ p H',a0v H H'→H' p=some (.tup (a4j (gs.map V.int) lo hi))→Q (.ref p) H'
theorem a8q {X:Cx} (K:PySem.W.Frag) (hK:X.K=K:=by rfl):SlR X (rSl1 K):=by
 subst hK
 intro pins s σ H x v vl vu lo hi sl Q I rx hs pl pu h
 obtain ⟨a,gs,rfl,hg,rfl,rfl,q⟩:=h
 rcases hg with e | ⟨e,ne⟩
 ·exact a5f pins s σ H (.ref a) v vl vu (some 1) none sl Q I rx hs pl pu ⟨a,_,rfl,e,q⟩
 ·refine a9X pins s σ H (.ref a) v vl vu (some 1) none sl Q I rx hs pl pu ⟨a,_,rfl,e,fun hw=>?_,fun p hp=>q p _ (a0d hp _) a0b⟩
  have l1:0 < gs.length:=List.length_pos_iff.mpr ne
  have h1:=hw.1
  rw [List.length_map] at h1
  have h2:HT.sIx gs.length 0 (some 1)=min 1 gs.length:=HT.a5c gs.length 0 1
  rw [h2] at h1
  omega
structure Ask (K:PySem.W.Frag) (H:Hp) (p q fr g:Addr) (ps ws gs:List Int) (st:Int):Prop where
 hp:TW H p ps
 hq:TW H q ws
 hf:SqT K H fr [.int st,.ref g]
 hg:Gp K H g gs
 p2:2≤ps.length
 p6:ps.length≤6
 w7:(ws.length:Int)≤(if ps.length=2 then 7 else 6)
 s0:0≤st
 s1:st≤(ws.length:Int)
 s2:1 < gs.length→st < (ws.length:Int)
 g10:gs.length≤10
 bw:Bw ws
 bp:Bw ps
 bg:Bg gs
theorem Ask.w10 {H:Hp} {p q fr g:Addr} {ps ws gs:List Int} {st:Int} (a:Ask K H p q fr g ps ws gs st):ws.length≤7:=by
 have:=a.w7
 split at this <;> omega
def a4d (K:PySem.W.Frag):Sp:=fun vs H Q _=>∃ (p q fr g:Addr) (ps ws gs:List Int) (st:Int),vs=[.ref p,.ref q,.ref fr]∧Ask K H p q fr g ps ws gs st ∧
 ∀ (l:Addr) H' xs,a0v H H'→H l=none→H' l=some (.lst xs)→Mvs H' xs (mvs ps ws st gs)→Q (.ref l) H'
theorem a2C:a0w NMv ["prices","weights","frontier"] (a0c a3y):=⟨rfl,rfl,rfl,by decide +kernel,rfl,by decide +kernel,by decide +kernel⟩
theorem a9A (F:Fun K "moves" "moves" a3y f fd) (GR:Fns P w K mg base ["prices","weights"] "refuse_many" a2P 2) (GM:Fns P w K mg base ["weights","number","settled","gaps"] "move_to" a8o 2) (ml:mg "len"=none) (mr:mg "range"=none) (mS:mg "sorted"=none) (mt:mg "tuple"=none):a1B P w K mg base CX0 3 f fd ["prices","weights","frontier"] (a4d K):=by
 refine F.ok (k:=2) a2C (fun vs H Q E h=>?_) (fun cdv A outer s H vs Q E hr h=>?_)
 ·obtain ⟨p,q,fr,g,ps,ws,gs,st,rfl,_⟩:=h
  rfl
 obtain ⟨p,q,fr,g,ps,ws,gs,st,rfl,ak,qq⟩:=h
 have w10:=ak.w10
 obtain ⟨hp,hq,hf,hg,p2,p6,w7,s0,s1,s2,g10,bw,bp,bg⟩:=ak
 refine ⟨_,a0f (a1w (a0s GR.ok hr (by rfl) GR.m GR.kp GR.b .nil a0N (a0a (pv 0) (a0a (pv 1) a0e))))
  (a0f (a0u (i:=3) a2C.nd rfl (Or.inl rfl) (a0P a1L (pv 2) a0g (fun _ _=>rfl)))
  (a0f (a0u (i:=4) a2C.nd rfl (Or.inl rfl) (a0P a1L (pv 2) a0g (fun _ _=>rfl)))
  (a0f (a0u (i:=5) a2C.nd rfl (Or.inl rfl) (a2a a0e))
  (a0f (a4B (a0Y (PW.pt (a4m (a0o a7n (a0j a0i (by rfl) ml PySem.boot_len (a0a (pv 4) a0e)) a0g (nomark _)) (a2T (a0o a2e (pv 3) (a0r a1Z (a0j a0i (by rfl) ml PySem.boot_len (a0a (pv 1) a0e)) a0g) (nomark _)))))
   (a0h (a1w (a4w PySem.F.plainAttrs_list PySem.F.slot_list_append PySem.F.type_list_append a0W (pv 5) (a0a (a0s GM.ok hr (by rfl) GM.m GM.kp GM.b .nil a0N (a0a (pv 1) (a0a a0g (a0a (a0r a0R (pv 3) a0g) (a0a (a1e (a8q K) (pv 4) (a1y a0g) a1x) a0e))))) a0e)))) a0B))
  (a0f (a1l PassesOwn.never rfl (a4o (by rfl) mr (a0a a0g (a0a (a0r a0R (a0j a0i (by rfl) ml PySem.boot_len (a0a (pv 0) a0e)) a0g) a0e))) (a0E (i:=6) a2C.nd rfl (Or.inl rfl))
   (a0h (a0Y (a0o b0B (a0r a0R (a0r a1Z (a0r a0R (pv 3) (a0j a0i (by rfl) ml PySem.boot_len (a0a (pv 4) a0e))) a0g) (pv 6)) (a0j a0i (by rfl) ml PySem.boot_len (a0a (pv 1) a0e)) (nomark _))
    (a0f (a0u (i:=7) a2C.nd rfl (Or.inl rfl) (a1m a0V (by rfl) mt a2f (a0a (a1e a2u (a0j a1X (by rfl) mS a0M (a0a (pv 0) a0e)) a1x (a1y (pv 6))) a0e)))
    (a0h (a1w (a4w PySem.F.plainAttrs_list PySem.F.slot_list_append PySem.F.type_list_append a0W (pv 5) (a0a (a0s GM.ok hr (by rfl) GM.m GM.kp GM.b .nil a0N (a0a (pv 1) (a0a (pv 6) (a0a (pv 3) (a0a (a0r a7J (a1e (a8q K) (pv 4) (a1y a0g) a1x) (pv 7)) a0e))))) a0e))))) a0B)))
  (a0h (a0x (pv 5)))))))),?_⟩
 refine ⟨_,rfl,_,rfl,p,q,ps,ws,rfl,hp,hq,w7,?_⟩
 refine ⟨_,rfl,fr,_,_,_,rfl,rfl,hf,(rfl:atI [V.int st,.ref g] 0=_),?_⟩
 refine ⟨_,rfl,fr,_,_,_,rfl,rfl,hf,(rfl:atI [V.int st,.ref g] 1=_),?_⟩
 refine ⟨(by show 0≤sizeLine;decide),fun lf hlf=>?_⟩
 have s3:=a0d hlf (.lst [])
 have g3:upd H lf (.lst []) lf=some (.lst []):=a0b
 generalize upd H lf (.lst [])=H3 at s3 g3 ⊢
 refine ⟨fun σ' H'=>∃ xs,σ'=[some (.ref p),some (.ref q),some (.ref fr),some (.int st),some (.ref g),some (.ref lf),none,none]∧a0v H H'∧H' lf=some (.lst xs)∧Mvs H' xs ((rws ps ws st gs 0).map (fin ws)),?_,?_⟩
 ·refine ⟨_,rfl,g,_,rfl,.inr (hg.same s3).sq,_,_,rfl,rfl,_,rfl,?_⟩
  rw [List.length_map]
  refine a2v (fun c=>?_) (fun c=>?_)
  ·have c1:1 < gs.length:=by have:=of_decide_eq_true c;omega
   have ec:rws ps ws st gs 0=[(0,st+1,srt gs.tail)]:=if_pos (.inl c1)
   rw [ec]
   refine ⟨_,rfl,.inl ⟨rfl,_,SqL.of g3⟩,_,rfl,_,rfl,_,_,rfl,rfl,_,rfl,_,rfl,g,gs,rfl,hg.same s3,rfl,rfl,fun p4 H4 s4 hp4=>?_⟩
   have hp4':TW H4 p4 gs.tail:=by show H4 p4=_;rw [hp4];exact congrArg (fun z=>some (HO.tup z)) (a4c gs)
   refine ⟨q,p4,ws,gs.tail,0,st+1,rfl,(s3.trans s4) _ _ hq,hp4',by omega,by rw [List.length_tail];omega,by omega,by have:=s2 c1;omega,bw,bg.tail,fun t H5 s5 mv=>?_⟩
   have hl5:=(s4.trans s5) _ _ g3
   exact ⟨lf,_,_,rfl,rfl,hl5,a0m (by show 0≤1000;decide),_,rfl,a0q hlf ((s3.trans s4).trans s5),a0b,.cons (a5u.tk (TK.upd hl5) mv) .nil⟩
  ·have c1:¬ 1 < gs.length:=fun y=>c (decide_eq_true (by omega))
   refine ⟨_,rfl,_,rfl,q,_,rfl,.inr (SqT.of (s3 _ _ hq)),_,_,rfl,rfl,rfl,_,rfl,?_⟩
   rw [List.length_map]
   refine a2v (fun c2=>?_) (fun c2=>?_)
   ·have c3:st=(ws.length:Int) - 1:=V.int.inj (of_decide_eq_true c2)
    have ec:rws ps ws st gs 0=[(0,st+1,srt gs.tail)]:=if_pos (.inr c3)
    rw [ec]
    refine ⟨_,rfl,.inl ⟨rfl,_,SqL.of g3⟩,_,rfl,_,rfl,_,_,rfl,rfl,_,rfl,_,rfl,g,gs,rfl,hg.same s3,rfl,rfl,fun p4 H4 s4 hp4=>?_⟩
    have hp4':TW H4 p4 gs.tail:=by show H4 p4=_;rw [hp4];exact congrArg (fun z=>some (HO.tup z)) (a4c gs)
    refine ⟨q,p4,ws,gs.tail,0,st+1,rfl,(s3.trans s4) _ _ hq,hp4',by omega,by rw [List.length_tail];omega,by omega,by omega,bw,bg.tail,fun t H5 s5 mv=>?_⟩
    have hl5:=(s4.trans s5) _ _ g3
    exact ⟨lf,_,_,rfl,rfl,hl5,a0m (by show 0≤1000;decide),_,rfl,a0q hlf ((s3.trans s4).trans s5),a0b,.cons (a5u.tk (TK.upd hl5) mv) .nil⟩
   ·have c3:¬ st=(ws.length:Int) - 1:=fun y=>c2 (decide_eq_true (by rw [y]))
    have ec:rws ps ws st gs 0=[]:=if_neg (fun z=>z.elim c1 c3)
    rw [ec]
    exact ⟨[],rfl,s3,g3,.nil⟩
 rintro σ' H4 ⟨xs0,rfl,t4,hl4,hm4⟩
 refine ⟨_,rfl,p,_,rfl,.inr (SqT.of (t4 _ _ hp)),_,_,rfl,rfl,_,_,rfl,⟨by decide,by decide,by rw [List.length_map];omega,by rw [List.length_map];omega⟩,?_⟩
 refine a1A (fun i σ H'=>∃ (xs:List V) (x6 x7:Option V),σ=[some (.ref p),some (.ref q),some (.ref fr),some (.int st),some (.ref g),some (.ref lf),x6,x7]∧a0v H H'∧H' lf=some (.lst xs)∧Mvs H' xs ((rws ps ws st gs i).map (fin ws)))
  ⟨xs0,_,_,rfl,t4,hl4,hm4⟩ (fun i σ H5 hi hP=>?_) (fun σ H5 hP=>?_)
 ·obtain ⟨xs,x6,x7,rfl,t5,hl5,hm5⟩:=hP
  have i5:i < 5:=by
   have:(ps.map V.int).length=ps.length:=List.length_map ..
   omega
  have lx:xs.length≤i+1:=by
   have:=hm5.length
   rw [this,List.length_map]
   exact a5A ps ws st gs i
  have e2:(2:Int)+(i:Int)=((i+2:Nat):Int):=by push_cast;omega
  rw [e2]
  refine ⟨_,rfl,_,rfl,g,_,rfl,.inr (hg.same t5).sq,_,_,rfl,rfl,_,_,rfl,rfl,_,rfl,_,_,rfl,rfl,_,rfl,q,_,rfl,.inr (SqT.of (t5 _ _ hq)),_,_,rfl,rfl,_,rfl,?_⟩
  rw [List.length_map,List.length_map]
  have es:rws ps ws st gs (i+1)=rws ps ws st gs i++rw2 ps ws st gs (i+2):=rfl
  refine a2v (fun c=>?_) (fun c=>?_)
  ·have c1:=of_decide_eq_true c
   have e3:rw2 ps ws st gs (i+2)=[(((i+2:Nat):Int),st,srt (gs.tail++(srt ps).take (i+2)))]:=if_pos c1
   refine ⟨_,rfl,p,ps,rfl,.inr (t5 _ _ hp),by omega,fun p6 H6 s6 hn6 hp6=>?_⟩
   refine ⟨_,rfl,_,rfl,p6,_,rfl,SqL.of hp6,fun p7 hp7=>?_⟩
   rw [show a4j ((srt ps).map V.int) none (some ((i+2:Nat):Int))=((srt ps).take (i+2)).map V.int by rw [a3t,List.map_take]]
   have s7:=a0d hp7 (.lst (((srt ps).take (i+2)).map V.int))
   have g7:upd H6 p7 (.lst (((srt ps).take (i+2)).map V.int)) p7=some (.lst (((srt ps).take (i+2)).map V.int)):=a0b
   generalize upd H6 p7 (.lst (((srt ps).take (i+2)).map V.int))=H7 at s7 g7 ⊢
   refine ⟨p7,_,rfl,.inl ⟨SqL.of g7,fun p8 hp8=>?_⟩⟩
   have s8:=a0d hp8 (.tup (((srt ps).take (i+2)).map V.int))
   have g8:TW (upd H7 p8 (.tup (((srt ps).take (i+2)).map V.int))) p8 ((srt ps).take (i+2)):=a0b
   generalize upd H7 p8 (.tup (((srt ps).take (i+2)).map V.int))=H8 at s8 g8 ⊢
   have s58:=(s6.trans s7).trans s8
   have t8:=t5.trans s58
   refine ⟨_,rfl,.inl ⟨rfl,_,SqL.of (s58 _ _ hl5)⟩,_,rfl,_,rfl,_,rfl,_,rfl,_,rfl,g,gs,rfl,hg.same t8,rfl,rfl,fun p9 H9 s9 hp9=>?_⟩
   have hp9':TW H9 p9 gs.tail:=by show H9 p9=_;rw [hp9];exact congrArg (fun z=>some (HO.tup z)) (a4c gs)
   refine ⟨_,rfl,p9,p8,_,_,rfl,rfl,hp9',s9 _ _ g8,?_,fun pA HA sA hpA=>?_⟩
   ·rw [List.length_map,List.length_map,List.length_tail,List.length_take]
    exact Nat.le_of_lt (a0m (by omega))
   have hpA':TW HA pA (gs.tail++(srt ps).take (i+2)):=by show HA pA=_;rw [hpA,List.map_append]
   have t8A:=t8.trans (s9.trans sA)
   refine ⟨q,pA,ws,_,((i+2:Nat):Int),st,rfl,t8A _ _ hq,hpA',by omega,by rw [List.length_append,List.length_tail,List.length_take];omega,s0,s1,bw,bg.cat bp _,fun t HB sB mv=>?_⟩
   have s5B:=(s58.trans (s9.trans sA)).trans sB
   have hlB:=s5B _ _ hl5
   refine ⟨lf,_,_,rfl,rfl,hlB,a0m (by omega),_,_,_,rfl,a0q hlf (t5.trans s5B),a0b,?_⟩
   rw [es,e3,List.map_append]
   exact L2.Paired.appendP (Mvs.tk ((TK.of s5B).trans (TK.upd hlB)) hm5) (.cons (a5u.tk (TK.upd hlB) mv) .nil)
  ·have e3:rw2 ps ws st gs (i+2)=[]:=if_neg fun y=>c (decide_eq_true y)
   exact ⟨xs,_,_,rfl,t5,hl5,by rw [es,e3,List.append_nil];exact hm5⟩
 ·obtain ⟨xs,x6,x7,rfl,t5,hl5,hm5⟩:=hP
  have en:((((ps.map V.int).length:Nat):Int)+1 - 2).toNat=ps.length - 1:=by rw [List.length_map];omega
  rw [en] at hm5
  exact ⟨_,rfl,qq lf H5 xs t5 hlf hl5 hm5⟩
def Bo (ns:List Int):Prop:=∀ x∈ns,1≤x∧x≤B30
theorem Bo.bw {ns:List Int} (h:Bo ns):Bw ns:=fun x hx=>⟨by have:=h x hx;omega,(h x hx).2⟩
theorem Bo.add {ns:List Int} (h:Bo ns) {i:Int} (h1:1≤i) (h2:i≤B30):Bo (ns++[i]):=fun x hx=>by
 rcases List.mem_append.mp hx with z | z
 ·exact h x z
 ·rw [List.mem_singleton.mp z];exact ⟨h1,h2⟩
abbrev NP:List Str:=["script","letters"]
def a4e (K:PySem.W.Frag):Sp:=fun vs H Q _=>∃ (a:Addr) (ns:List Int),vs=[.ref a]∧SqL K H a (ns.map V.int)∧∀ (p:Addr) ps H',a0v H H'→TW H' p ps→2≤ps.length→ps.length≤6→Bo ps→Q (.ref p) H'
theorem a6h:a0w NP ["script"] (a0c a2h):=⟨rfl,rfl,rfl,by decide +kernel,rfl,by decide +kernel,by decide +kernel⟩
theorem ndP:(("k":Str) :: NP).Nodup:=by decide +kernel
theorem a8r (F:Fun K "_law_prices" "_law_prices" a2h f fd) (GC:Fns P w K mg base ["script","k"] "_law_cell_at" (a6e K) 1) (GA:Fns P w K mg base ["cell"] "_law_amount" a2O 1) (mr:mg "range"=none) (mt:mg "tuple"=none):a1B P w K mg base CX0 2 f fd ["script"] (a4e K):=by
 refine F.ok (k:=1) a6h (fun vs H Q E h=>?_) (fun cdv A outer s H vs Q E hr h=>?_)
 ·obtain ⟨a,ns,rfl,_⟩:=h
  rfl
 obtain ⟨a,ns,rfl,hS,q⟩:=h
 refine ⟨_,a0f (a0u (i:=1) a6h.nd rfl (Or.inl rfl) (a0r a0R a0g (a0r a0U (a0s GC.ok hr (by rfl) GC.m GC.kp GC.b .nil a0N (a0a (pv 0) (a0a a0g a0e))) a0g)))
  (a0h (a0x (a1m a0V (by rfl) mt a2f (a0a (a2n (M:=NP) rfl (a0l.of (a0c a2h) NP rfl rfl rfl (by decide +kernel) (by decide +kernel) (by decide +kernel) rfl (by decide +kernel)) ndP rfl (by rfl) mr (a0a (pv 1) a0e) (a1H a1o a2D)
   (fun cl C s0 H0 fp=>⟨a0Q,a0s GA.ok hr (by rfl) GA.m GA.kp GA.b .nil a0N (a0a (a0s GC.ok hr (by rfl) GC.m GC.kp GC.b .nil a0N (a0a (pv 1) (a0a (a0r a0R a0g (pv 0)) a0e))) a0e)⟩)) a0e)))),?_⟩
 refine ⟨_,rfl,a,ns,0,rfl,hS,by decide,fun c0=>?_⟩
 refine ⟨_,_,rfl,rfl,(by show (0:Int) < _;decide),_,_,rfl,rfl,?_⟩
 have b2:2≤2+c0 % 5:=by omega
 have b6:2+c0 % 5≤6:=by omega
 dsimp only
 generalize 2+c0 % 5=b at b2 b6 ⊢
 refine ⟨_,rfl,b,rfl,by omega,by omega,fun d hd=>?_⟩
 refine ⟨fun i H'=>a0v H H'∧∃ ps,H' d=some (.lst (ps.map V.int))∧ps.length=i∧Bo ps,⟨a0d hd _,[],a0b,rfl,fun x hx=>by cases hx⟩,fun i H' hi hP=>?_,fun H' hP=>?_⟩
 ·obtain ⟨s1,ps,hd',lp,bo⟩:=hP
  refine a0O ⟨_,rfl,_,rfl,_,_,rfl,rfl,a,ns,_,rfl,s1.seq hS,by omega,fun c=>⟨c,rfl,fun v v1 v2=>⟨_,hd',?_,a0q hd s1,ps++[v],?_,by rw [List.length_append,lp];rfl,bo.add v1 v2⟩⟩⟩
  ·rw [List.length_map];exact a0m (by omega)
  ·rw [a0b,List.map_append];rfl
 ·obtain ⟨s1,ps,hd',lp,bo⟩:=hP
  refine ⟨d,_,rfl,.inl ⟨SqL.of hd',fun c hc=>?_⟩⟩
  exact q c ps _ (s1.trans (a0d hc _)) a0b (by omega) (by omega) bo
abbrev NW:List Str:=["script","most","cell","things","weights"]
def a3h (K:PySem.W.Frag):Sp:=fun vs H Q _=>∃ (a:Addr) (ns:List Int) (m:Int),vs=[.ref a,.int m]∧SqL K H a (ns.map V.int)∧1≤m∧m≤7∧∀ (p:Addr) ws H',a0v H H'→TW H' p ws→1≤ws.length→(ws.length:Int)≤m→Bo ws→Q (.ref p) H'
theorem a1E:a0w NW ["script","most"] (a0c a1u):=⟨rfl,rfl,rfl,by decide +kernel,rfl,by decide +kernel,by decide +kernel⟩
theorem ndW:(("k":Str) :: NW).Nodup:=by decide +kernel
theorem reps (n:Nat) (x:Int):(List.replicate n [V.int x]).flatten=(List.replicate n x).map V.int:=by
 induction n with
 | zero=>rfl
 | succ n ih=>rw [List.replicate_succ,List.flatten_cons,ih,List.replicate_succ];rfl
theorem a6X (F:Fun K "_law_weights" "_law_weights" a1u f fd) (GC:Fns P w K mg base ["script","k"] "_law_cell_at" (a6e K) 1) (GA:Fns P w K mg base ["cell"] "_law_amount" a2O 1) (mr:mg "range"=none) (mt:mg "tuple"=none) (mn:mg "min"=none):a1B P w K mg base CX0 2 f fd ["script","most"] (a3h K):=by
 refine F.ok (k:=1) a1E (fun vs H Q E h=>?_) (fun cdv A outer s H vs Q E hr h=>?_)
 ·obtain ⟨a,ns,m,rfl,_⟩:=h
  rfl
 obtain ⟨a,ns,m,rfl,hS,m1,m7,q⟩:=h
 refine ⟨_,a0f (a0u (i:=2) a1E.nd rfl (Or.inl rfl) (a0s GC.ok hr (by rfl) GC.m GC.kp GC.b .nil a0N (a0a (pv 0) (a0a a0g a0e))))
  (a0f (a0u (i:=3) a1E.nd rfl (Or.inl rfl) (a0r a0R a0g (a0r a0U (pv 2) (pv 1))))
  (a0f (a0u (i:=4) a1E.nd rfl (Or.inr rfl) (a2n (M:=NW) rfl (a0l.of (a0c a1u) NW rfl rfl rfl (by decide +kernel) (by decide +kernel) (by decide +kernel) rfl (by decide +kernel)) ndW rfl (by rfl) mr (a0a (pv 3) a0e) (a1H a1o a2D)
   (fun cl C s0 H0 fp=>⟨a0Q,a0s GA.ok hr (by rfl) GA.m GA.kp GA.b .nil a0N (a0a (a0s GC.ok hr (by rfl) GC.m GC.kp GC.b .nil a0N (a0a (pv 1) (a0a (a0r a0R a0g (pv 0)) a0e))) a0e)⟩)))
  (a0f (a4B (a0Y (a0o a2e (a0r a0U (a0r a2r (pv 2) (pv 1)) a0g) a0g (nomark _)) (a0h (a0u (i:=4) a1E.nd rfl (Or.inr rfl) (a0r op_rep (a2a (a0a (a0P a1z (pv 4) a0g (fun _ _=>rfl)) a0e)) (pv 3)))) a0B))
  (a0f (a4B (a0Y (a0o a2e (a0r a0U (a0r a2r (pv 2) (pv 1)) a0g) a0g (nomark _)) (a0h (a0u (i:=4) a1E.nd rfl (Or.inr rfl) (a2n (M:=NW) rfl (a0l.of (a0c a1u) NW rfl rfl rfl (by decide +kernel) (by decide +kernel) (by decide +kernel) rfl (by decide +kernel)) ndW rfl (by rfl) mr (a0a (pv 3) a0e) (a1H a1o a2D)
   (fun cl C s0 H0 fp=>⟨a0Q,a0j (a7q rfl) (by rfl) mn b0j (a0a (a0r a7h a0g a0g) (a0a (a0r a0R (a0P (ixL K) (pv 5) a0g (fun _ _=>rfl)) (a0r a0U (pv 0) a0g)) a0e))⟩)))) a0B))
  (a0h (a0x (a1m a0V (by rfl) mt a2f (a0a (pv 4) a0e)))))))),?_⟩
 refine ⟨_,rfl,a,ns,1,rfl,hS,by decide,fun c0=>?_⟩
 refine ⟨_,rfl,_,rfl,_,_,rfl,rfl,(by show (0:Int) < _;omega),_,_,rfl,rfl,?_⟩
 have t1:1≤1+c0 % m:=by have:=Int.emod_nonneg c0 (show m≠0 by omega);omega
 have t2:1+c0 % m≤m:=by have:=Int.emod_lt_of_pos c0 (show 0 < m by omega);omega
 dsimp only
 generalize 1+c0 % m=b at t1 t2 ⊢
 refine ⟨_,rfl,b,rfl,by omega,by omega,fun d hd=>?_⟩
 refine ⟨fun i H'=>a0v H H'∧∃ ps,H' d=some (.lst (ps.map V.int))∧ps.length=i∧Bo ps,⟨a0d hd _,[],a0b,rfl,fun x hx=>by cases hx⟩,fun i H' hi hP=>?_,fun H1 hP=>?_⟩
 ·obtain ⟨s1,ps,hd',lp,bo⟩:=hP
  refine a0O ⟨_,rfl,_,rfl,_,_,rfl,rfl,a,ns,_,rfl,s1.seq hS,by omega,fun c=>⟨c,rfl,fun v v1 v2=>⟨_,hd',?_,a0q hd s1,ps++[v],?_,by rw [List.length_append,lp];rfl,bo.add v1 v2⟩⟩⟩
  ·rw [List.length_map];exact a0m (by omega)
  ·rw [a0b,List.map_append];rfl
 obtain ⟨s1,ps,hd',lp,bo⟩:=hP
 refine ⟨fun σ' H'=>∃ (d:Addr) (ps:List Int),σ'=[some (.ref a),some (.int m),some (.int c0),some (.int b),some (.ref d)]∧a0v H H'∧H' d=some (.lst (ps.map V.int))∧ps.length=b.toNat∧Bo ps,?_,?_⟩
 ·refine ⟨_,rfl,_,rfl,_,_,rfl,rfl,⟨by omega,by omega⟩,_,_,rfl,rfl,(by show (0:Int) < _;decide),rfl,_,rfl,?_⟩
  refine a2v (fun _=>?_) (fun _=>⟨d,ps,rfl,s1,hd',lp,bo⟩)
  have h0:ps[0]?=some (ps[0]'(by omega)):=List.getElem?_eq_getElem _
  have m0:ps[0]'(by omega)∈ps:=List.getElem_mem _
  generalize ps[0]'(by omega)=x0 at h0 m0
  refine ⟨_,rfl,d,_,_,_,rfl,rfl,SqL.of hd',a2b (k:=0) h0,(by show 1≤sizeLine;decide),fun e1 he1=>?_⟩
  have s2:=a0d he1 (.lst [.int x0])
  have g2:upd H1 e1 (.lst [.int x0]) e1=some (.lst [.int x0]):=a0b
  generalize upd H1 e1 (.lst [.int x0])=H2 at s2 g2 ⊢
  refine ⟨_,rfl,e1,b,_,rfl,rfl,g2,by omega,by omega,by show 1 * _≤_;exact Nat.le_of_lt (a0m (by omega)),fun e2 he2=>?_⟩
  rw [reps]
  exact ⟨e2,List.replicate b.toNat x0,rfl,(s1.trans s2).trans (a0d he2 _),a0b,List.length_replicate,fun x hx=>by rw [List.eq_of_mem_replicate hx];exact bo _ m0⟩
 rintro σ' H2 ⟨d,ps,rfl,s2,hd2,lp,bo⟩
 refine ⟨fun σ' H'=>∃ (d:Addr) (ps:List Int),σ'=[some (.ref a),some (.int m),some (.int c0),some (.int b),some (.ref d)]∧a0v H H'∧H' d=some (.lst (ps.map V.int))∧ps.length=b.toNat∧Bo ps,?_,?_⟩
 ·refine ⟨_,rfl,_,rfl,_,_,rfl,rfl,⟨by omega,by omega⟩,_,_,rfl,rfl,(by show (0:Int) < _;decide),rfl,_,rfl,?_⟩
  refine a2v (fun _=>?_) (fun _=>⟨d,ps,rfl,s2,hd2,lp,bo⟩)
  have h0:ps[0]?=some (ps[0]'(by omega)):=List.getElem?_eq_getElem _
  have m0:ps[0]'(by omega)∈ps:=List.getElem_mem _
  generalize ps[0]'(by omega)=x0 at h0 m0
  refine ⟨_,rfl,b,rfl,by omega,by omega,fun d4 hd4=>?_⟩
  refine ⟨fun i H'=>a0v H2 H'∧∃ qs,H' d4=some (.lst (qs.map V.int))∧qs.length=i∧Bo qs,⟨a0d hd4 _,[],a0b,rfl,fun x hx=>by cases hx⟩,fun i H' hi hP=>?_,fun H3 hP=>?_⟩
  ·obtain ⟨s4,qs,hd',lq,bq⟩:=hP
   have bx:=bo _ m0
   have hv:∃ v:Int,v=(if x0+(0+(i:Int)) % 2 < (10:Int) ^ (30:Int).toNat then x0+(0+(i:Int)) % 2 else (10:Int) ^ (30:Int).toNat)∧1≤v∧v≤B30:=⟨_,rfl,by rw [e30];split <;> (unfold B30 at *;omega),by rw [e30];split <;> (unfold B30 at *;omega)⟩
   obtain ⟨v,ev,v1,v2⟩:=hv
   refine a0O ⟨_,_,rfl,rfl,⟨by decide,by decide,by decide⟩,_,rfl,d,_,_,_,rfl,rfl,SqL.of (s4 _ _ hd2),a2b (k:=0) h0,_,rfl,_,_,rfl,rfl,(by show (0:Int) < _;decide),_,_,rfl,rfl,_,_,rfl,_,hd',?_,a0q hd4 s4,qs++[v],?_,by rw [List.length_append,lq];rfl,bq.add v1 v2⟩
   ·rw [List.length_map];exact a0m (by omega)
   ·rw [a0b,List.map_append,ev];rfl
  ·obtain ⟨s4,qs,hd',lq,bq⟩:=hP
   exact ⟨d4,qs,rfl,s2.trans s4,hd',lq,bq⟩
 rintro σ' H3 ⟨d,ps,rfl,s3,hd3,lp,bo⟩
 refine ⟨_,rfl,d,_,rfl,.inl ⟨SqL.of hd3,fun c hc=>?_⟩⟩
 exact q c ps _ (s3.trans (a0d hc _)) a0b (by omega) (by omega) bo
abbrev ND:List Str:=["cell","many","size","told","rest","k","near"]
def a5B:Sp:=fun vs H Q _=>∃ c m z:Int,vs=[.int c,.int m,.int z]∧0≤m∧m≤16∧1≤z∧z≤B30∧∀ (l:Addr) ns H',a0v H H'→H l=none→H' l=some (.lst (ns.map V.int))→(ns.length:Int)=m→Bw ns→Q (.ref l) H'
theorem a2k:a0w ND ["cell","many","size"] (a0c a3A):=⟨rfl,rfl,rfl,by decide +kernel,rfl,by decide +kernel,by decide +kernel⟩
theorem Bw.add {ns:List Int} (h:Bw ns) {i:Int} (h1:0≤i) (h2:i≤B30):Bw (ns++[i]):=fun x hx=>by
 rcases List.mem_append.mp hx with z | z
 ·exact h x z
 ·rw [List.mem_singleton.mp z];exact ⟨h1,h2⟩
theorem a9B (F:Fun K "_law_drawn" "_law_drawn" a3A f fd) (mr:mg "range"=none):a1B P w K mg base CX0 1 f fd ["cell","many","size"] a5B:=by
 refine F.ok (k:=0) a2k (fun vs H Q E h=>?_) (fun cdv A outer s H vs Q E hr h=>?_)
 ·obtain ⟨c,m,z,rfl,_⟩:=h
  rfl
 obtain ⟨c,m,z,rfl,m0,m10,z1,z2,q⟩:=h
 refine ⟨_,a0f (a0u (i:=3) a2k.nd rfl (Or.inl rfl) (a2a a0e))
  (a0f (a0u (i:=4) a2k.nd rfl (Or.inl rfl) (a0r a2r (pv 0) a0g))
  (a0f (a1l PassesOwn.never rfl (a1N (by rfl) mr (a0a (pv 1) a0e)) (a0E (i:=5) a2k.nd rfl (Or.inl rfl))
   (a0h (a0Y (PW.pt (a5K (a0o a2e (a0r a0U (pv 0) a0g) a0g (nomark _)) (a3F (a0o a7n (pv 4) a0g (nomark _)))))
    (a0f (a1w (a4w PySem.F.plainAttrs_list PySem.F.slot_list_append PySem.F.type_list_append a0W (pv 3) (a0a (a0r a0U (pv 4) (pv 2)) a0e))) (a0h (a0u (i:=4) a2k.nd rfl (Or.inl rfl) (a0r a9s (pv 4) (pv 2)))))
    (a0f (a0u (i:=6) a2k.nd rfl (Or.inl rfl) (a0r a0R (a0r a0R (a0r a0U (a0r a2r (pv 0) a0g) a0g) (a0r a5N a0g (pv 5))) a0g))
    (a0f (a0u (i:=6) a2k.nd rfl (Or.inl rfl) (a0r a0U (a0r a5N (pv 6) (pv 6)) a0g))
    (a0h (a1w (a4w PySem.F.plainAttrs_list PySem.F.slot_list_append PySem.F.type_list_append a0W (pv 3) (a0a (a0r a0U (a0r a2r (a0r a0U (a0r a0R (a0r a5N (pv 6) a0g) (a0r a5N a0g (pv 5))) a0g) a0g) (pv 2)) a0e)))))))))
  (a0h (a0x (pv 3))))),?_⟩
 refine ⟨(by show 0≤sizeLine;decide),fun lt hlt=>?_⟩
 have s1:=a0d hlt (.lst [])
 have g1:upd H lt (.lst []) lt=some (.lst (([]:List Int).map V.int)):=a0b
 generalize upd H lt (.lst [])=H1 at s1 g1 ⊢
 refine ⟨_,rfl,_,_,rfl,rfl,⟨by decide,by decide⟩,?_⟩
 refine ⟨_,rfl,_,rfl,by omega,by omega,?_⟩
 refine a1A (fun i σ H'=>a0v H H'∧∃ (ns:List Int) (r:Int) (x5 x6:Option V),H' lt=some (.lst (ns.map V.int))∧ns.length=i∧Bw ns∧σ=[some (.int c),some (.int m),some (.int z),some (.ref lt),some (.int r),x5,x6])
  ⟨s1,[],_,_,_,g1,rfl,fun x hx=>(by cases hx),rfl⟩ (fun i σ H2 hi hP=>?_) (fun σ H2 hP=>?_)
 ·obtain ⟨s2,ns,r,x5,x6,hl2,ln,bn,rfl⟩:=hP
  have i10:i < 16:=by omega
  have put:∀ v:Int,a0v H (upd H2 lt (.lst (ns.map V.int++[.int (v % z)])))∧upd H2 lt (.lst (ns.map V.int++[.int (v % z)])) lt=some (.lst ((ns++[v % z]).map V.int))∧(ns++[v % z]).length=i+1∧Bw (ns++[v % z]):=fun v=>by
   have v1:=Int.emod_nonneg v (show z≠0 by omega)
   have v2:=Int.emod_lt_of_pos v (show 0 < z by omega)
   exact ⟨a0q hlt s2,by rw [a0b,List.map_append];rfl,by rw [List.length_append,ln];rfl,bn.add v1 (by omega)⟩
  have els:∃ n1:Int,n1=c / 2 % 1000000007+7919 * (0+(i:Int))+11∧0≤n1∧n1≤2000000007:=⟨_,rfl,by omega,by omega⟩
  refine ⟨_,rfl,_,_,rfl,rfl,(by show (0:Int) < _;decide),rfl,_,rfl,?_⟩
  have other:∀ (G:Prop),(∀ n1:Int,n1=c / 2 % 1000000007+7919 * (0+(i:Int))+11→0≤n1→n1≤2000000007→G)→G:=fun G h=>by
   obtain ⟨n1,a,b,d⟩:=els
   exact h n1 a b d
  refine a2v (fun _=>?_) (fun _=>?_)
  ·refine ⟨_,rfl,_,_,rfl,rfl,_,rfl,?_⟩
   refine a2v (fun _=>?_) (fun _=>?_)
   ·refine ⟨_,rfl,.inl ⟨rfl,_,SqL.of hl2⟩,_,rfl,_,rfl,_,_,rfl,rfl,(by show (0:Int) < _;omega),lt,_,_,rfl,rfl,hl2,a0m (by rw [List.length_map];omega),?_⟩
    obtain ⟨p1,p2,p3,p4⟩:=put r
    refine ⟨_,rfl,_,rfl,_,_,rfl,rfl,⟨by omega,by unfold B30 at *;omega⟩,p1,_,_,_,_,p2,p3,p4,rfl⟩
   ·refine other _ fun n1 e1 a0 a1=>?_
    refine ⟨_,rfl,_,_,rfl,rfl,⟨by decide,by decide⟩,_,_,rfl,rfl,(by show (0:Int) < _;decide),_,rfl,_,_,rfl,rfl,.inl ⟨by decide,by decide⟩,_,_,rfl,rfl,_,_,rfl,rfl,?_⟩
    dsimp only
    rw [←e1]
    refine ⟨_,rfl,_,rfl,_,_,rfl,rfl,.inl ⟨by omega,by omega⟩,_,_,rfl,rfl,(by show (0:Int) < _;decide),?_⟩
    dsimp only
    have b0:0≤n1 * n1 % 998244353:=by omega
    have b1:n1 * n1 % 998244353 < 998244353:=by omega
    generalize n1 * n1 % 998244353=n2 at b0 b1 ⊢
    refine ⟨_,rfl,.inl ⟨rfl,_,SqL.of hl2⟩,_,rfl,_,_,rfl,rfl,.inl ⟨by omega,by omega⟩,_,rfl,_,_,rfl,rfl,.inl ⟨by decide,by decide⟩,_,_,rfl,rfl,_,_,rfl,rfl,(by show (0:Int) < _;decide),_,_,rfl,rfl,⟨by decide,by decide⟩,_,rfl,_,_,rfl,rfl,(by show (0:Int) < _;omega),lt,_,_,rfl,rfl,hl2,a0m (by rw [List.length_map];omega),?_⟩
    obtain ⟨p1,p2,p3,p4⟩:=put ((n2 * 48271+17 * (0+(i:Int))) % 2147483647 / 8)
    exact ⟨p1,_,_,_,_,p2,p3,p4,rfl⟩
  ·refine other _ fun n1 e1 a0 a1=>?_
   refine ⟨_,rfl,_,_,rfl,rfl,⟨by decide,by decide⟩,_,_,rfl,rfl,(by show (0:Int) < _;decide),_,rfl,_,_,rfl,rfl,.inl ⟨by decide,by decide⟩,_,_,rfl,rfl,_,_,rfl,rfl,?_⟩
   dsimp only
   rw [←e1]
   refine ⟨_,rfl,_,rfl,_,_,rfl,rfl,.inl ⟨by omega,by omega⟩,_,_,rfl,rfl,(by show (0:Int) < _;decide),?_⟩
   dsimp only
   have b0:0≤n1 * n1 % 998244353:=by omega
   have b1:n1 * n1 % 998244353 < 998244353:=by omega
   generalize n1 * n1 % 998244353=n2 at b0 b1 ⊢
   refine ⟨_,rfl,.inl ⟨rfl,_,SqL.of hl2⟩,_,rfl,_,_,rfl,rfl,.inl ⟨by omega,by omega⟩,_,rfl,_,_,rfl,rfl,.inl ⟨by decide,by decide⟩,_,_,rfl,rfl,_,_,rfl,rfl,(by show (0:Int) < _;decide),_,_,rfl,rfl,⟨by decide,by decide⟩,_,rfl,_,_,rfl,rfl,(by show (0:Int) < _;omega),lt,_,_,rfl,rfl,hl2,a0m (by rw [List.length_map];omega),?_⟩
   obtain ⟨p1,p2,p3,p4⟩:=put ((n2 * 48271+17 * (0+(i:Int))) % 2147483647 / 8)
   exact ⟨p1,_,_,_,_,p2,p3,p4,rfl⟩
 ·obtain ⟨s2,ns,r,x5,x6,hl2,ln,bn,rfl⟩:=hP
  exact ⟨_,rfl,q lt ns H2 s2 hlt hl2 (by omega) bn⟩
end
def a8s (n st kn:Int):Bool:=decide (kn > 1) || (decide (kn=1) && decide (st=n - 1))
def a8t (n st kn m:Int):Bool:=decide (kn > 0) && decide (st+kn - 1+m≤n)
def lawf (L:Nat) (n st kn:Int):List Int:=(if a8s n st kn=true then [0] else [])++((List.range (L - 1)).map fun i:Nat=>(2:Int)+(i:Int)).filter (a8t n st kn)
section
variable {P:Program} {w:World} {K:PySem.W.Frag} {mg:Str→Option Value} {base:Heap} {f:Addr} {fd:FuncData}
abbrev NLf:List Str:=["letters","things","settled","knots","some","many"]
abbrev PLf:List Str:=["letters","things","settled","knots"]
def spLf:Sp:=fun vs H Q _=>∃ (L:Nat) (n st kn:Int),vs=[.int (L:Int),.int n,.int st,.int kn]∧1≤L∧L≤100∧∀ (d:Addr) H',a0v H H'→H d=none→H' d=some (.lst ((lawf L n st kn).map V.int))→Q (.ref d) H'
theorem scLf:a0w NLf PLf (a0c a2B):=⟨rfl,rfl,rfl,by decide +kernel,rfl,by decide +kernel,by decide +kernel⟩
theorem a8u (F:Fun K "_law_lawful" "_law_lawful" a2B f fd) (mr:mg "range"=none):a1B P w K mg base CX0 1 f fd PLf spLf:=by
 refine F.ok (k:=0) scLf (fun vs H Q E h=>?_) (fun cdv A outer s H vs Q E hr h=>?_)
 ·obtain ⟨L,n,st,kn,rfl,_⟩:=h
  rfl
 obtain ⟨L,n,st,kn,rfl,L1,L100,q⟩:=h
 refine ⟨_,a0f (a0u (i:=4) scLf.nd rfl (Or.inl rfl) (a2a a0e))
   (a0f (a4B (a0Y (b0c (PW.pt (a4m (a0o a7n (pv 3) (a0g) (nomark _)) (a2T (PW.pt (a5K (a0o a2e (pv 3) (a0g) (nomark _)) (a3F (a0o a2e (pv 2) (a0r a1Z (pv 1) (a0g)) (nomark _))))))))) (a0h (a1w (a4w PySem.F.plainAttrs_list PySem.F.slot_list_append PySem.F.type_list_append a0W (pv 4) (a0a (a0g) (a0e))))) (a0B)))
   (a0f (a1l PassesOwn.never rfl (a4o (by rfl) mr (a0a (a0g) (a0a (a0r a0R (pv 0) (a0g)) (a0e)))) (a0E (i:=5) scLf.nd rfl (Or.inl rfl)) (a0h (a0Y (b0c (PW.pt (a5K (a0o a7n (pv 3) (a0g) (nomark _)) (a3F (a0o b0B (a0r a0R (a0r a1Z (a0r a0R (pv 2) (pv 3)) (a0g)) (pv 5)) (pv 1) (nomark _)))))) (a0h (a1w (a4w PySem.F.plainAttrs_list PySem.F.slot_list_append PySem.F.type_list_append a0W (pv 4) (a0a (pv 5) (a0e))))) (a0B))))
   (a0h (a0x (pv 4))))),?_⟩
 refine ⟨(by show 0≤sizeLine;decide),fun d hd=>?_⟩
 have s1:=a0d hd (.lst [])
 have g1:upd H d (.lst []) d=some (.lst []):=a0b
 generalize upd H d (.lst [])=H1 at s1 g1 ⊢
 refine ⟨fun σ H'=>a0v H H'∧H' d=some (.lst ((if a8s n st kn=true then [(0:Int)] else []).map V.int))∧σ=[some (.int (L:Int)),some (.int n),some (.int st),some (.int kn),some (.ref d),none],?_,?_⟩
 ·refine ⟨fun b H'=>b=a8s n st kn∧H'=H1,?_,?_⟩
  ·refine ⟨_,rfl,_,_,rfl,rfl,_,rfl,?_⟩
   refine a2v (fun y=>⟨?_,rfl⟩) (fun y=>?_)
   ·unfold a8s;rw [show decide (kn > 1)=true from y];rfl
   ·refine ⟨_,rfl,rfl,_,rfl,?_⟩
    have y1:decide (kn > 1)=false:=Bool.eq_false_iff.mpr y
    refine a2v (fun z=>?_) (fun z=>⟨?_,rfl⟩)
    ·have z1:kn=1:=V.int.inj (of_decide_eq_true z)
     refine ⟨_,rfl,_,rfl,_,_,rfl,rfl,rfl,_,rfl,?_,rfl⟩
     unfold a8s
     rw [y1,decide_eq_true z1]
     by_cases e:st=n - 1
     ·rw [decide_eq_true e];exact decide_eq_true (by rw [e])
     ·rw [decide_eq_false e];exact decide_eq_false fun x=>e (V.int.inj x)
    ·have z1:¬ kn=1:=fun x=>z (decide_eq_true (by rw [x]))
     unfold a8s
     rw [y1,decide_eq_false z1]
     rfl
  ·rintro b H2 ⟨rfl,rfl⟩
   refine a2v (fun y=>?_) (fun y=>?_)
   ·refine ⟨_,rfl,.inl ⟨rfl,_,SqL.of g1⟩,d,_,_,rfl,rfl,g1,a0m (by show 0≤1000;decide),a0q hd s1,?_,rfl⟩
    rw [a0b,if_pos y]
    rfl
   ·exact ⟨s1,by rw [g1,if_neg y];rfl,rfl⟩
 rintro σ H2 ⟨s2,g2,rfl⟩
 have l1:(if a8s n st kn=true then [(0:Int)] else []).length≤1:=by split <;> simp
 refine ⟨_,rfl,_,_,rfl,rfl,_,_,rfl,⟨by omega,by omega,by omega,by omega⟩,?_⟩
 have en:(((L:Int)+1) - 2).toNat=L - 1:=by omega
 rw [en]
 refine a1A (fun i σ H'=>a0v H H'∧H' d=some (.lst (((if a8s n st kn=true then [(0:Int)] else [])++((List.range i).map fun i:Nat=>(2:Int)+(i:Int)).filter (a8t n st kn)).map V.int))∧∃ x5:Option V,σ=[some (.int (L:Int)),some (.int n),some (.int st),some (.int kn),some (.ref d),x5]) ⟨s2,by rw [g2];simp,_,rfl⟩ (fun i σ H3 hi hP=>?_) (fun σ H3 hP=>?_)
 ·obtain ⟨s3,g3,x5,rfl⟩:=hP
  have et:((List.range (i+1)).map fun i:Nat=>(2:Int)+(i:Int)).filter (a8t n st kn)=((List.range i).map fun i:Nat=>(2:Int)+(i:Int)).filter (a8t n st kn)++[(2:Int)+(i:Int)].filter (a8t n st kn):=by rw [List.range_succ,List.map_append,List.filter_append];rfl
  refine ⟨fun b H'=>b=a8t n st kn (2+(i:Int))∧H'=H3,?_,?_⟩
  ·refine ⟨_,rfl,_,_,rfl,rfl,_,rfl,?_⟩
   refine a2v (fun y=>?_) (fun y=>⟨?_,rfl⟩)
   ·refine ⟨_,rfl,_,rfl,_,_,rfl,rfl,_,_,rfl,rfl,_,rfl,_,_,rfl,rfl,_,rfl,_,_,rfl,rfl,_,rfl,?_,rfl⟩
    unfold a8t
    rw [show decide (kn > 0)=true from y]
    rfl
   ·unfold a8t;rw [Bool.eq_false_iff.mpr y];rfl
  ·rintro b H4 ⟨rfl,rfl⟩
   refine a2v (fun y=>?_) (fun y=>?_)
   ·refine ⟨_,rfl,.inl ⟨rfl,_,SqL.of g3⟩,_,rfl,d,_,_,rfl,rfl,g3,?_,a0q hd s3,?_,_,rfl⟩
    ·rw [List.length_map,List.length_append]
     have:=List.length_filter_le (a8t n st kn) ((List.range i).map fun i:Nat=>(2:Int)+(i:Int))
     rw [List.length_map,List.length_range] at this
     exact a0m (by omega)
    ·rw [a0b,et,List.filter_cons,if_pos y,List.filter_nil,←List.append_assoc,List.map_append (l₂:=[(2:Int)+(i:Int)])]
     rfl
   ·refine ⟨s3,?_,_,rfl⟩
    rw [g3,et,List.filter_cons,if_neg y,List.filter_nil,List.append_nil]
 ·obtain ⟨s3,g3,x5,rfl⟩:=hP
  exact ⟨_,rfl,q d H3 s3 hd g3⟩
end
def nx (st r:Int):Int:=st+(if r=0 then 1 else 0)
def leads (L:Nat) (n:Int):List Int→Int→Int→Bool
 | [],_,kn=>decide (kn=0)
 | r :: rs,st,kn=>if r∈lawf L n st kn then leads L n rs (nx st r) (kn - 1+r) else false
theorem a6i {H H':Hp} {T:Addr} {lpos:Pos} {q:Str} (s:a0v H H') (x:a2J H T lpos q):a2J H' T lpos q:=by
 rcases x with e | ⟨c,e,ec⟩
 ·exact .inl (s _ _ e)
 ·exact .inr ⟨c,s _ _ e,s _ _ ec⟩
theorem b0m {H:Hp} {T:Addr} {lpos:Pos} {q:Str} (x:a2J H T lpos q):∃ ps,H T=some (.tbl ps):=by
 rcases x with e | ⟨c,e,_⟩
 ·exact ⟨_,e⟩
 ·exact ⟨_,e⟩
theorem a6j {as:List Addr} {H H':Hp} (s:a0v (unt as H) H'):a0v H (rtk as H H'):=fun b o e=>by
 by_cases z:b∈as
 ·rw [b0k z];exact e
 ·rw [a1I z];exact s b o (by rw [a0H z];exact e)
theorem a6k {as:List Addr} {H H':Hp} {b:Addr} {o:HO} (n:∀ c∈as,H' c=none) (e:H' b=some o):rtk as H H' b=some o:=by
 rw [a1I (fun z=>by rw [n b z] at e;cases e)]
 exact e
def a8v:Expr:=match a0p a1r with
 | [.Return (some (.Call _ _ [⟨_,e,_⟩] _)) _]=>e
 | _=>.Constant .none 0 ⟨0,0,0,0⟩
def lamP1:Arguments:=match a8v with | .Lambda p _ _ _=>p | _=>a0t a1r
def lamB1:Expr:=match a8v with | .Lambda _ b _ _=>b | e=>e
def a8w:Scope:=match a8v with | .Lambda _ _ s _=>s | _=>a0c a1r
def b1s:Pos:=match a8v with | .Lambda _ _ _ p=>p | _=>⟨0,0,0,0⟩
abbrev a9C:Str:=(("cheap_letters":Str)++".<locals>.")++"<lambda>"
abbrev lamK1 (c:Addr) (c':Addr) (pm ctv:Value):Obj:=PySem.W.kla_obj "<lambda>" a9C lamP1 lamB1 a8w [("prices",c)] pm c' ctv
example:a8v=.Lambda lamP1 lamB1 a8w b1s:=rfl
theorem scLam1 (c:Addr):a4a a8w ["letter"] [("prices",c)]:=⟨rfl,rfl,rfl,(by show (["letter","prices"]:List Str).Nodup;decide +kernel),by decide +kernel,by decide +kernel,(by show ∀ y∈a8w.names,y.2=.free→y.1∈(["prices"]:List Str);decide +kernel),(by show ∀ x∈(["prices"]:List Str),a8w.names.lookup x=some .free;decide +kernel)⟩
def lamR1:Addr→List V→Hp→VK→Prop:=fun g vs H Q=>∃ (c c':Addr) (pm ctv:Value) (o:Obj) (u:Value) (p:Addr) (ps:List Int) (i:Nat),H g=some (exA g (lamK1 c c' pm ctv))∧H c'=some (cdA c' a9C)∧H c=some (exA c o)∧o.data=.cell (some u)∧a0T (.ref p) u∧vs=[.int (i:Int)]∧TW H p ps∧i < ps.length ∧
 ∀ t H',a0v H H'→H' t=some (.tup [.int (ps.getD i 0),.int (i:Int)])→Q (.ref t) H'
section
variable {P:Program} {w:World} {K:PySem.W.Frag} {mg:Str→Option Value} {base:Heap} {f:Addr} {fd:FuncData}
theorem b1t:b1e P w K mg base 1 lamR1 where
 at':=fun ⟨c,c',pm,ctv,o,u,p,ps,i,e,_⟩=>⟨_,_,_,_,e⟩
 run:=fun A outer s H g us vs Q hr e0 r' h=>by
  obtain ⟨c,c',pm,ctv,o,u,p,ps,i,eg,ec',ecc,hd,rv,rfl,hp,hi,q⟩:=h
  have lu:us.length=1:=by rw [←r'.length];rfl
  have pc:p∉[c]:=fun z=>by
   rw [List.mem_singleton.mp z] at hp
   exact absurd (Option.some.inj (hp.symm.trans ecc)) (by intro z;cases z)
  refine a6a (k:=0) (cvs:=[.ref p]) (scLam1 c) hr e0 eg ec' (by simp) (fun j x c0 hj=>?_) rfl r' rfl ?_ fun xe hr'=>⟨_,a0Z (a0a (a0P (ixT K) (pv 1) (pv 0) (fun _ _=>rfl)) (a0a (pv 0) a0e)),?_⟩
  ·cases j with
   | zero =>
    have hj:(("prices":Str),c)=(x,c0):=Option.some.inj hj
    cases hj
    exact ⟨o,u,.ref p,ecc,hd,rfl,rv⟩
   | succ j=>simp at hj
  ·match us,lu with
   | [u1],_=>rfl
  ·have hp2:TW (unt [c] H) p ps:=(a0H pc).trans hp
   have h0:ps[i]?=some (ps.getD i 0):=by rw [List.getD_eq_getElem?_getD,List.getElem?_eq_getElem hi];rfl
   refine ⟨_,rfl,_,rfl,p,_,_,_,rfl,rfl,SqT.of hp2,a2b h0,_,rfl,(by show 2≤sizeLine;decide),fun t2 ht2 hn=>?_⟩
   exact q t2 _ (a6j (a0d ht2 _)) (a6k hn a0b)
end
def a8x:Expr:=match a0p a7a with
 | [.Assign _ (.Call _ _ [⟨_,e,_⟩] _) _,_]=>e
 | _=>.Constant .none 0 ⟨0,0,0,0⟩
def lamP2:Arguments:=match a8x with | .Lambda p _ _ _=>p | _=>a0t a7a
def lamB2:Expr:=match a8x with | .Lambda _ b _ _=>b | e=>e
def a8y:Scope:=match a8x with | .Lambda _ _ s _=>s | _=>a0c a7a
def b1u:Pos:=match a8x with | .Lambda _ _ _ p=>p | _=>⟨0,0,0,0⟩
abbrev a9D:Str:=(("in_own_order":Str)++".<locals>.")++"<lambda>"
abbrev lamK2 (c:Addr) (c':Addr) (pm ctv:Value):Obj:=PySem.W.kla_obj "<lambda>" a9D lamP2 lamB2 a8y [("weights",c)] pm c' ctv
example:a8x=.Lambda lamP2 lamB2 a8y b1u:=rfl
theorem scLam2 (c:Addr):a4a a8y ["thing"] [("weights",c)]:=⟨rfl,rfl,rfl,(by show (["thing","weights"]:List Str).Nodup;decide +kernel),by decide +kernel,by decide +kernel,(by show ∀ y∈a8y.names,y.2=.free→y.1∈(["weights"]:List Str);decide +kernel),(by show ∀ x∈(["weights"]:List Str),a8y.names.lookup x=some .free;decide +kernel)⟩
def lamR2:Addr→List V→Hp→VK→Prop:=fun g vs H Q=>∃ (c c':Addr) (pm ctv:Value) (o:Obj) (u:Value) (p:Addr) (ps:List Int) (i:Nat),H g=some (exA g (lamK2 c c' pm ctv))∧H c'=some (cdA c' a9D)∧H c=some (exA c o)∧o.data=.cell (some u)∧a0T (.ref p) u∧vs=[.int (i:Int)]∧TW H p ps∧i < ps.length ∧
 ∀ t H',a0v H H'→H' t=some (.tup [.int (-ps.getD i 0),.int (i:Int)])→Q (.ref t) H'
section
variable {P:Program} {w:World} {K:PySem.W.Frag} {mg:Str→Option Value} {base:Heap} {f:Addr} {fd:FuncData}
theorem b1v:b1e P w K mg base 1 lamR2 where
 at':=fun ⟨c,c',pm,ctv,o,u,p,ps,i,e,_⟩=>⟨_,_,_,_,e⟩
 run:=fun A outer s H g us vs Q hr e0 r' h=>by
  obtain ⟨c,c',pm,ctv,o,u,p,ps,i,eg,ec',ecc,hd,rv,rfl,hp,hi,q⟩:=h
  have lu:us.length=1:=by rw [←r'.length];rfl
  have pc:p∉[c]:=fun z=>by
   rw [List.mem_singleton.mp z] at hp
   exact absurd (Option.some.inj (hp.symm.trans ecc)) (by intro z;cases z)
  refine a6a (k:=0) (cvs:=[.ref p]) (scLam2 c) hr e0 eg ec' (by simp) (fun j x c0 hj=>?_) rfl r' rfl ?_ fun xe hr'=>⟨_,a0Z (a0a (b0A a7i (a0P (ixT K) (pv 1) (pv 0) (fun _ _=>rfl))) (a0a (pv 0) a0e)),?_⟩
  ·cases j with
   | zero =>
    have hj:(("weights":Str),c)=(x,c0):=Option.some.inj hj
    cases hj
    exact ⟨o,u,.ref p,ecc,hd,rfl,rv⟩
   | succ j=>simp at hj
  ·match us,lu with
   | [u1],_=>rfl
  ·have hp2:TW (unt [c] H) p ps:=(a0H pc).trans hp
   have h0:ps[i]?=some (ps.getD i 0):=by rw [List.getD_eq_getElem?_getD,List.getElem?_eq_getElem hi];rfl
   refine ⟨_,rfl,_,rfl,p,_,_,_,rfl,rfl,SqT.of hp2,a2b h0,_,rfl,_,rfl,(by show 2≤sizeLine;decide),fun t2 ht2 hn=>?_⟩
   exact q t2 _ (a6j (a0d ht2 _)) (a6k hn a0b)
end
def SameU (H H':Hp):Prop:=∀ a o,(∀ ps,o≠.tbl ps)→H a=some o→H' a=some o
def Tb (T1 T2:Addr) (H:Hp):Prop:=a2J H T1 b1s a9C∧a2J H T2 b1u a9D
structure Kp (T1 T2:Addr) (H H':Hp):Prop where
 sm:SameU H H'
 tb:Tb T1 T2 H'
theorem Kp.of {T1 T2:Addr} {H H':Hp} (t:Tb T1 T2 H) (s:a0v H H'):Kp T1 T2 H H':=⟨fun a o _ e=>s a o e,a6i s t.1,a6i s t.2⟩
theorem Kp.trans {T1 T2:Addr} {H H1 H2:Hp} (a:Kp T1 T2 H H1) (b:Kp T1 T2 H1 H2):Kp T1 T2 H H2:=⟨fun x o n e=>b.sm x o n (a.sm x o n e),b.tb⟩
theorem Kp.then {T1 T2:Addr} {H H1 H2:Hp} (a:Kp T1 T2 H H1) (b:a0v H1 H2):Kp T1 T2 H H2:=a.trans (.of a.tb b)
theorem Kp.tup {T1 T2:Addr} {H H':Hp} {a:Addr} {xs:List V} (k:Kp T1 T2 H H') (e:H a=some (.tup xs)):H' a=some (.tup xs):=k.sm _ _ (by intro _ z;cases z) e
theorem Kp.lst {T1 T2:Addr} {H H':Hp} {a:Addr} {xs:List V} (k:Kp T1 T2 H H') (e:H a=some (.lst xs)):H' a=some (.lst xs):=k.sm _ _ (by intro _ z;cases z) e
theorem a8z {H H2:Hp} {T T':Addr} {lpos lpos':Pos} {q q':Str} {c' g:Addr} {o:Obj} (ne:T'≠T) (x:a2J H T lpos q) (L:LamH H H2 T lpos q c' g o) (y:a2J H T' lpos' q'):a2J H2 T' lpos' q':=by
 obtain ⟨qs,hT⟩:=b0m x
 rcases y with e | ⟨c,e,ec⟩
 ·exact .inl (L.ot _ _ ne e)
 ·exact .inr ⟨c,L.ot _ _ ne e,L.ot _ _ (a2c ec hT (by intro z;cases z)) ec⟩
theorem a4Q {H H2:Hp} {T:Addr} {lpos:Pos} {q:Str} {c' g:Addr} {o:Obj} (x:a2J H T lpos q) (L:LamH H H2 T lpos q c' g o):SameU H H2:=fun a u n e=>by
 obtain ⟨qs,hT⟩:=b0m x
 exact L.ot a u (a2c e hT (n qs)) e
theorem Kp.lam1 {T1 T2:Addr} {H H2:Hp} {c' g:Addr} {o:Obj} (ne:T1≠T2) (t:Tb T1 T2 H) (L:LamH H H2 T1 b1s a9C c' g o):Kp T1 T2 H H2:=⟨a4Q t.1 L,.inr ⟨c',L.tb,L.cd⟩,a8z ne.symm t.1 L t.2⟩
theorem Kp.lam2 {T1 T2:Addr} {H H2:Hp} {c' g:Addr} {o:Obj} (ne:T1≠T2) (t:Tb T1 T2 H) (L:LamH H H2 T2 b1u a9D c' g o):Kp T1 T2 H H2:=⟨a4Q t.2 L,a8z ne t.2 L t.1,.inr ⟨c',L.tb,L.cd⟩⟩
structure LamC (K:PySem.W.Frag) (mg:Str→Option Value) (base:Heap) (c0 T bm:Addr):Prop where
 hd:PySem.W.codeHdIn K c0 T=true
 hbm:mg "__builtins__"=some (.ref bm)
 bo:∃ o,base.get? bm=some o∧o.cls=.type "module"∧o.dict=some builtinsNs∧o.data=.plain
 b1:bm≠builtinsNs
 b2:bm≠mainGlobals
 b3:bm≠T
 b4:mainGlobals≠T
section
variable {P:Program} {w:World} {K:PySem.W.Frag} {mg:Str→Option Value} {base:Heap} {f:Addr} {fd:FuncData}
abbrev NCl:List Str:=["prices"]
def kc (ps:List Int) (i:Nat):List Int:=[ps.getD i 0,(i:Int)]
theorem a2Q {ks:Nat→List Int} (n:Nat) (h:∀ i j,ks i=ks j→i=j):((List.range n).map ks).Nodup:=by
 rw [List.Nodup,List.pairwise_map]
 exact List.Pairwise.imp (fun {a b} (ne:a≠b) e=>ne (h a b e)) List.nodup_range
theorem b0n (ps:List Int) (i j:Nat) (h:kc ps i=kc ps j):i=j:=by
 unfold kc at h
 have:=(List.cons.inj (List.cons.inj h).2).1
 omega
def spCl (T1 T2:Addr):Sp:=fun vs H Q _=>∃ (p:Addr) (ps:List Int),vs=[.ref p]∧TW H p ps∧ps.length≤6∧Tb T1 T2 H ∧
 ∀ (d:Addr) (pm:List Nat) H',Kp T1 T2 H H'→H' d=some (.lst (pm.map fun i:Nat=>V.int (i:Int)))→pm.Perm (List.range ps.length)→(pm.map (kc ps)).Pairwise Lx→Q (.ref d) H'
theorem scCl:a0w NCl NCl (a0c a1r):=⟨rfl,rfl,rfl,by decide +kernel,rfl,by decide +kernel,by decide +kernel⟩
theorem a9E {T1 T2 c0 bm:Addr} (F:Fun K "cheap_letters" "cheap_letters" a1r f fd) (hcd:fd.code=.ref c0) (LC:LamC K mg base c0 T1 bm) (ne:T1≠T2) (ml:mg "len"=none) (mS:mg "sorted"=none) (mr:mg "range"=none):a1B P w K mg base CX0 4 f fd NCl (spCl T1 T2):=by
 refine F.okC (k:=3) scCl (fun vs H Q E h=>?_) (fun A outer s H vs Q E hr h=>?_)
 ·obtain ⟨p,ps,rfl,_⟩:=h
  rfl
 obtain ⟨p,ps,rfl,hp,l6,tab,q⟩:=h
 have LM:b1g (a7x CX0 P w K mg base NCl "cheap_letters" (a0c a1r) f fd.code A outer s H E).nox c0 T1 bm:=⟨hcd,LC.hd,LC.hbm,LC.bo,LC.b1,LC.b2,LC.b3,LC.b4⟩
 have hcl:a5v (a7x CX0 P w K mg base NCl "cheap_letters" (a0c a1r) f fd.code A outer s H E).nox [("prices",s.heap.objs.size+1)]:=⟨fun q hq=>by rw [List.mem_singleton.mp hq];rfl,fun q hq=>rfl,fun q hq=>by rw [List.mem_singleton.mp hq];rfl⟩
 refine ⟨_,a0h (a0x (a4M (Rg:=RgC _ [("prices",s.heap.objs.size+1)] lamR1) (fun σ=>b1i.cells b1t hr hcl) rfl (by rfl) mS (by rfl) mr (a0a (a0j a0i (by rfl) ml PySem.boot_len (a0a (pv 0) a0e)) a0e) (a7w (b0l LM (clos:=[("prices",s.heap.objs.size+1)]) rfl) a9W))),?_⟩
 refine ⟨_,rfl,p,_,rfl,.inr (SqT.of hp),ps.length,by rw [List.length_map],by omega,tab.1,fun c' pm ctv g H2 LH=>?_⟩
 have k2:Kp T1 T2 H H2:=Kp.lam1 ne tab LH
 have hp2:=k2.tup hp
 refine ⟨g,kc ps,rfl,fun i H3 Q1 hi s3 q1=>?_,a2Q _ (b0n ps),fun i _ z=>(by cases z),fun d pl H' s' g' perm pw=>q d pl H' (k2.then s') g' perm pw⟩
 intro os hos hnn
 have hn:H3 (s.heap.objs.size+1)=none:=hnn _ (by simp)
 obtain ⟨u,hu1,hu2⟩:=hos 0 0 "prices" (s.heap.objs.size+1) (.ref p) rfl rfl rfl
 have lob:=LH.ob
 generalize s.heap.objs.size+1=c at hn hu1 lob ⊢
 have st':a0v H3 (trk' [c] os H3):=fun b o e=>by
  rw [a1d (fun y=>by rw [List.mem_singleton.mp y,hn] at e;cases e)]
  exact e
 have ecc:trk' [c] os H3 c=some (exA c (os c)):=a7Y (by simp)
 refine ⟨c,c',pm,ctv,os c,u,p,ps,i,st' _ _ (s3 _ _ lob),st' _ _ (s3 _ _ LH.cd),ecc,hu1,hu2,rfl,st' _ _ (s3 _ _ hp2),hi,fun t H4 s4 h4=>⟨fun b hb=>?_,q1 t _ (fun b o e=>?_) ?_⟩⟩
 ·rw [List.mem_singleton.mp (show b∈[c] from hb)]
  exact s4 _ _ ecc
 ·have hb:b∉[c]:=fun y=>by rw [List.mem_singleton.mp y,hn] at e;cases e
  show unt [c] H4 b=_
  rw [a0H hb]
  exact s4 _ _ (st' _ _ e)
 ·have hb:t∉[c]:=fun y=>by
   rw [List.mem_singleton.mp y,s4 _ _ ecc] at h4
   cases h4
  show unt [c] H4 t=_
  rw [a0H hb]
  exact h4
abbrev NOp:List Str:=["prices","word","many","longer"]
abbrev POp:List Str:=["prices","word","many"]
def Lt (L:Nat) (ns:List Int):Prop:=∀ z∈ns,(0:Int)≤z∧z < (L:Int)
end
def pc (ps:List Int) (u:List Int):Int:=(u.map fun x=>ps.getD x.toNat 0).sum
section
variable {P:Program} {w:World} {K:PySem.W.Frag} {mg:Str→Option Value} {base:Heap} {f:Addr} {fd:FuncData}
def al (m x:Int):Bool:=decide (0≤x) && decide (x < m)
def alone (m:Int) (ns:List Int):Bool:=(ns.map (al m)).all id
def a5C:Sp:=fun vs H Q _=>∃ (x:V) (ns:List Int) (m:Int),vs=[x,.int m]∧Wd H x ns∧ns.length≤1000∧∀ H',a0v H H'→Q (.bl (alone m ns)) H'
theorem b1w:a0w ["word","letters"] ["word","letters"] (a0c a3f):=⟨rfl,rfl,rfl,by decide +kernel,rfl,by decide +kernel,by decide +kernel⟩
theorem ndA:(("letter":Str) :: ["word","letters"]).Nodup:=by decide +kernel
theorem a9F (F:Fun K "has_letters_alone" "has_letters_alone" a3f f fd) (ma:mg "all"=none):a1B P w K mg base CX0 1 f fd ["word","letters"] a5C:=by
 refine F.ok (k:=0) b1w (fun vs H Q E h=>?_) (fun cdv A outer s H vs Q E hr h=>?_)
 ·obtain ⟨x,ns,m,rfl,_⟩:=h
  rfl
 obtain ⟨x,ns,m,rfl,hx,hl,q⟩:=h
 obtain ⟨a,rfl,ha⟩:=hx.ti
 refine ⟨_,a0h (a0x (a0j (a8Z rfl) (by rfl) ma b_all (a0a (a3M (M:=["word","letters"]) rfl (a0l.of (a0c a3f) ["word","letters"] rfl rfl rfl (by decide +kernel) (by decide +kernel) (by decide +kernel) rfl (by decide +kernel)) ndA rfl (pv 0) a1o
  (fun cl C s0 H0 fp=>⟨a0Q,a8T b0B a7m a0g (pv 0) (pv 2)⟩)) a0e))),?_⟩
 refine ⟨_,rfl,a,_,rfl,SqT.of ha,fun d hd=>?_⟩
 refine ⟨fun k H'=>a0v H H'∧H' d=some (.lst (((ns.take k).map (al m)).map V.bl)),⟨a0d hd _,a0b⟩,fun k H' _ hP=>SqT.of (hP.1 _ _ ha),fun k x H' hx hP=>?_,fun H' hP=>?_⟩
 ·obtain ⟨sm,hd'⟩:=hP
  rw [List.getElem?_map] at hx
  cases hz:ns[k]? with
  | none=>rw [hz] at hx;cases hx
  | some z =>
   rw [hz] at hx;cases hx
   have hk:=(List.getElem?_eq_some_iff.mp hz).1
   have fin:∀ b,b=al m z→∃ ys,H' d=some (.lst ys)∧ys.length < sizeLine∧(a0v H (upd H' d (.lst (ys++[.bl b])))∧upd H' d (.lst (ys++[.bl b])) d=some (.lst (((ns.take (k+1)).map (al m)).map V.bl))):=fun b eb=>by
    refine ⟨_,hd',?_,a0q hd sm,?_⟩
    ·rw [List.length_map,List.length_map,List.length_take];exact a0m (by omega)
    ·rw [a0b,List.take_add_one,hz,List.map_append,List.map_append,eb];rfl
   refine a0O ⟨_,rfl,_,_,rfl,rfl,_,rfl,?_⟩
   refine a2v (fun c=>?_) (fun c=>?_)
   ·refine ⟨_,rfl,_,_,rfl,rfl,?_⟩
    exact fin _ (by unfold al;rw [c];rfl)
   ·exact fin _ (by unfold al;rw [Bool.eq_false_iff.mpr c];rfl)
 ·obtain ⟨sm,hd'⟩:=hP
  rw [List.length_map,List.take_length] at hd'
  exact ⟨d,_,rfl,hd',q H' sm⟩
theorem a6l {m:Int} {ns:List Int} (h:alone m ns=true):∀ x∈ns,0≤x∧x < m:=fun x hx=>by
 have q:=List.all_eq_true.mp h (al m x) (List.mem_map_of_mem hx)
 unfold al at q
 simp only [id,Bool.and_eq_true,decide_eq_true_eq] at q
 exact q
theorem a8A {m:Int} {ns:List Int}:alone m ns=true↔∀ x∈ns,0≤x∧x < m:=by
 refine ⟨a6l,fun h=>?_⟩
 unfold alone
 rw [List.all_eq_true]
 intro b hb
 obtain ⟨x,hx,rfl⟩:=List.mem_map.mp hb
 obtain ⟨h1,h2⟩:=h x hx
 unfold al
 simp [h1,h2]
def spPp:Sp:=fun vs H Q _=>∃ (x y:V) (ps ns:List Int),vs=[x,y]∧Wd H x ps∧Wd H y ns∧ns.length≤1000∧Lt ps.length ns∧∀ H',a0v H H'→Q (.int (pc ps ns)) H'
theorem scPp:a0w ["prices","word"] ["prices","word"] (a0c a2g):=⟨rfl,rfl,rfl,by decide +kernel,rfl,by decide +kernel,by decide +kernel⟩
theorem ndPp:(("letter":Str) :: ["prices","word"]).Nodup:=by decide +kernel
theorem a8B (F:Fun K "word_price" "word_price" a2g f fd) (G:Fns P w K mg base ["word","letters"] "has_letters_alone" a5C 1) (ml:mg "len"=none) (ms:mg "sum"=none):a1B P w K mg base CX0 2 f fd ["prices","word"] spPp:=by
 refine F.ok (k:=1) scPp (fun vs H Q E h=>?_) (fun cdv A outer s H vs Q E hr h=>?_)
 ·obtain ⟨x,y,ps,ns,rfl,_⟩:=h
  rfl
 obtain ⟨x,y,ps,ns,rfl,hx,hy,hl,lt,q1⟩:=h
 obtain ⟨p,rfl,hp⟩:=hx.ti
 obtain ⟨a,rfl,ha⟩:=hy.ti
 refine ⟨_,a0f (a0Y (a2U (a2S (a0s G.ok hr (by rfl) G.m G.kp G.b .nil a0N (a0a (pv 1) (a0a (a0j a0i (by rfl) ml PySem.boot_len (a0a (pv 0) a0e)) a0e))))) (a0h a6g) a0B)
  (a0h (a0x (a0j (a2L rfl) (by rfl) ms a9c (a0a (a3M (M:=["prices","word"]) rfl (a0l.of (a0c a2g) ["prices","word"] rfl rfl rfl (by decide +kernel) (by decide +kernel) (by decide +kernel) rfl (by decide +kernel)) ndPp rfl (pv 1) a1o
   (fun cl C s0 H0 fp=>⟨a0Q,a0P (ixT K) (pv 1) (pv 0) (fun _ _=>rfl)⟩)) a0e)))),?_⟩
 refine ⟨_,rfl,_,rfl,p,_,rfl,.inr (SqT.of hp),.ref a,ns,_,rfl,Wd.of ha,hl,fun H1 s1=>?_⟩
 rw [List.length_map]
 refine ⟨_,rfl,?_⟩
 have c1:alone (ps.length:Int) ns=true:=a8A.mpr lt
 rw [c1]
 refine a3I ?_
 have hn:=a6l c1
 refine ⟨_,rfl,a,_,rfl,SqT.of (s1 _ _ ha),fun d hd=>?_⟩
 refine ⟨fun k H'=>a0v H1 H'∧H' d=some (.lst (((ns.take k).map fun x=>ps.getD x.toNat 0).map V.int)),⟨a0d hd _,a0b⟩,fun k H' _ hP=>SqT.of (hP.1 _ _ (s1 _ _ ha)),fun k x H' hx hP=>?_,fun H' hP=>?_⟩
 ·obtain ⟨sm,hd'⟩:=hP
  rw [List.getElem?_map] at hx
  cases hz:ns[k]? with
  | none=>rw [hz] at hx;cases hx
  | some z =>
   rw [hz] at hx;cases hx
   have hk:=(List.getElem?_eq_some_iff.mp hz).1
   obtain ⟨z0,z1⟩:=hn z (List.mem_of_getElem? hz)
   obtain ⟨n,rfl⟩:∃ n:Nat,z=n:=⟨z.toNat,by omega⟩
   have hn':n < ps.length:=by omega
   refine a0O ⟨_,rfl,_,rfl,p,_,_,_,rfl,rfl,SqT.of (sm _ _ (s1 _ _ hp)),a2b (List.getElem?_eq_getElem hn'),_,hd',?_,a0q hd sm,?_⟩
   ·rw [List.length_map,List.length_map,List.length_take];exact a0m (by omega)
   ·rw [a0b,List.take_add_one,hz,List.map_append,List.map_append]
    simp [List.getD_eq_getElem?_getD,List.getElem?_eq_getElem hn']
 ·obtain ⟨sm,hd'⟩:=hP
  rw [List.length_map,List.take_length] at hd'
  exact ⟨d,_,rfl,hd',q1 H' (s1.trans sm)⟩
def wl1 (u:List Int) (a:Nat):List Int:=u++[(a:Int)]
def spOp (T1 T2:Addr):Sp:=fun vs H Q _=>∃ (p wd:Addr) (ps u:List Int) (m:Nat),vs=[.ref p,.ref wd,.int (m:Int)]∧TW H p ps∧TW H wd u∧ps.length≤6∧m≤ps.length∧Lt ps.length u∧u.length≤100∧Tb T1 T2 H ∧
 ∀ (l:Addr) (pm:List Nat) xs H',Kp T1 T2 H H'→H' l=some (.lst xs)→Paired (RPw H') xs ((pm.take m).map fun a=>(pc ps (wl1 u a),wl1 u a))→pm.Perm (List.range ps.length)→(pm.map (kc ps)).Pairwise Lx→Q (.ref l) H'
theorem scOp:a0w NOp POp (a0c a1T):=⟨rfl,rfl,rfl,by decide +kernel,rfl,by decide +kernel,by decide +kernel⟩
theorem ndOp1:(("letter":Str) :: NOp).Nodup:=by decide +kernel
theorem ndOp2:(("one":Str) :: NOp).Nodup:=by decide +kernel
theorem RPw.upd {H:Hp} {d:Addr} {ls ls':List V} {x:V} {q:Int × List Int} (hd:H d=some (.lst ls)) (h:RPw H x q):RPw (upd H d (.lst ls')) x q:=by
 obtain ⟨t,u,rfl,ht,hu⟩:=h
 exact ⟨t,u,rfl,by rw [a0n (a2c ht hd (by intro z;cases z))];exact ht,Wd.upd hd hu⟩
theorem a8C {T1 T2:Addr} (F:Fun K "opened" "opened" a1T f fd) (GC:Fns P w K mg base NCl "cheap_letters" (spCl T1 T2) 4) (GP:Fns P w K mg base ["prices","word"] "word_price" spPp 4):a1B P w K mg base CX0 5 f fd POp (spOp T1 T2):=by
 refine F.ok (k:=4) scOp (fun vs H Q E h=>?_) (fun cdv A outer s H vs Q E hr h=>?_)
 ·obtain ⟨p,wd,ps,u,m,rfl,_⟩:=h
  rfl
 obtain ⟨p,wd,ps,u,m,rfl,hp,hw,l6,ml,lt,l100,tab,q⟩:=h
 refine ⟨_,a0f (a2N (i:=3) (M:=NOp) scOp.nd rfl rfl rfl (a0l.of (a0c a1T) NOp rfl rfl rfl (by decide +kernel) (by decide +kernel) (by decide +kernel) rfl (by decide +kernel)) ndOp1 rfl (a5S (a1e a2u (a0s GC.ok hr (by rfl) GC.m GC.kp GC.b .nil a0N (a0a (pv 0) a0e)) a1x (a1y (pv 2)))) a5T (fun cl C s0 H0 fp=>⟨a0Q,a0r a7J (pv 2) (a0Z (a0a (pv 0) a0e))⟩))
   (a0h (a0x (a5R (M:=NOp) rfl (a0l.of (a0c a1T) NOp rfl rfl rfl (by decide +kernel) (by decide +kernel) (by decide +kernel) rfl (by decide +kernel)) ndOp2 rfl (pv 3) a1o (fun cl C s0 H0 fp=>⟨a0Q,a0Z (a0a (a0s GP.ok hr (by rfl) GP.m GP.kp GP.b .nil a0N (a0a (pv 1) (a0a (pv 0) a0e))) (a0a (pv 0) a0e))⟩)))),?_⟩
 refine ⟨fun vv H1=>∃ (e:Addr) (pm:List Nat),vv=.ref e∧Kp T1 T2 H H1∧H1 e=some (.lst ((pm.take m).map fun i:Nat=>V.int (i:Int)))∧pm.Perm (List.range ps.length)∧(pm.map (kc ps)).Pairwise Lx,?_,fun vv H1 hv=>?_⟩
 ·refine ⟨_,rfl,p,ps,rfl,hp,l6,tab,fun d pm H' kp g' perm pw=>?_⟩
  refine ⟨_,rfl,_,rfl,d,_,rfl,SqL.of g',fun e he=>⟨e,pm,rfl,kp.then (a0d he _),?_,perm,pw⟩⟩
  rw [a0b,a3t,List.map_take]
 obtain ⟨e,pm,rfl,k1,g1,perm,pw⟩:=hv
 have lpm:pm.length=ps.length:=by rw [perm.length_eq,List.length_range]
 have ltk:(pm.take m).length=m:=by rw [List.length_take];omega
 have ndt:(pm.take m).Nodup:=(perm.nodup_iff.mpr List.nodup_range).sublist (List.take_sublist _ _)
 have mem:∀ a∈pm.take m,a < ps.length:=fun a ha=>List.mem_range.mp (perm.mem_iff.mp (List.mem_of_mem_take ha))
 have q:=fun l=>q l pm
 generalize pm.take m=ls at g1 ltk ndt mem q
 have hp1:=k1.tup hp
 have hw1:=k1.tup hw
 refine ⟨e,_,rfl,SqL.of g1,fun d hd=>?_⟩
 refine ⟨fun i H'=>a0v H1 H'∧∃ ys,H' d=some (.lst ys)∧Ws H' ys ((ls.take i).map (wl1 u)),⟨a0d hd _,[],a0b,.nil⟩,fun i H' _ hP=>SqL.of (hP.1 _ _ g1),fun i x H' hx hP=>?_,fun H5 hP=>?_⟩
 ·obtain ⟨s5,ys,g5,w5⟩:=hP
  have il:=(List.getElem?_eq_some_iff.mp hx).1
  rw [List.length_map] at il
  rw [List.getElem?_map] at hx
  obtain ⟨a,ha,rfl⟩:=Option.map_eq_some_iff.mp hx
  refine a0O ⟨_,rfl,_,rfl,(by show 1≤sizeLine;decide),fun t ht=>?_⟩
  have s6:=a0d ht (.tup [.int (a:Int)])
  have g6:L2.upd H' t (.tup [.int (a:Int)]) t=some (.tup [.int (a:Int)]):=a0b
  generalize L2.upd H' t (.tup [.int (a:Int)])=H6 at s6 g6 ⊢
  refine ⟨wd,t,_,_,rfl,rfl,s6 _ _ (s5 _ _ hw1),g6,?_,fun p9 H9 s9 hp9=>?_⟩
  ·rw [List.length_map];exact Nat.le_of_lt (a0m (by show u.length+1≤1000;omega))
  have s69:=s6.trans s9
  have g9:=s69 _ _ g5
  refine ⟨ys,g9,a0m (by rw [w5.length,List.length_map,List.length_take];omega),a0q hd (s5.trans s69),_,a0b,?_⟩
  rw [List.take_add_one,ha,List.map_append]
  exact Paired.appendP (Ws.upd g9 (w5.same s69)) (.cons (Wd.upd g9 (Wd.of (w:=wl1 u a) (by show H9 p9=_;rw [hp9];unfold wl1;rw [List.map_append];rfl))) .nil)
 obtain ⟨s5,ys,g5,w5⟩:=hP
 rw [List.length_map,List.take_length] at w5
 have k5:=k1.then s5
 have ly:ys.length=ls.length:=by rw [w5.length,List.length_map]
 refine ⟨_,rfl,d,ys,rfl,SqL.of g5,fun d2 hd2=>?_⟩
 refine ⟨fun i H'=>a0v H5 H'∧∃ zs,H' d2=some (.lst zs)∧Paired (RPw H') zs ((ls.take i).map fun a=>(pc ps (wl1 u a),wl1 u a)),⟨a0d hd2 _,[],a0b,.nil⟩,fun i H' _ hP=>SqL.of (hP.1 _ _ g5),fun i x H' hx hP=>?_,fun H6 hP=>?_⟩
 ·obtain ⟨s6,zs,g6,w6⟩:=hP
  have il:=(List.getElem?_eq_some_iff.mp hx).1
  obtain ⟨v,hv,wv⟩:=Paired.right_of w5 i x hx
  rw [List.getElem?_map] at hv
  obtain ⟨a,ha,rfl⟩:=Option.map_eq_some_iff.mp hv
  have am:=mem a (List.mem_of_getElem? ha)
  have lt2:Lt ps.length (wl1 u a):=fun z hz=>by
   rcases List.mem_append.mp hz with hz | hz
   ·exact lt z hz
   ·rw [List.mem_singleton.mp hz];omega
  refine a0O ⟨_,rfl,_,rfl,.ref p,x,ps,wl1 u a,rfl,Wd.of (s6 _ _ (s5 _ _ hp1)),Wd.same s6 wv,by unfold wl1;rw [List.length_append];show u.length+1≤1000;omega,lt2,fun H7 s7=>?_⟩
  refine ⟨_,rfl,(by show 2≤sizeLine;decide),fun t ht=>?_⟩
  have s8:=a0d ht (.tup [.int (pc ps (wl1 u a)),x])
  have g8:L2.upd H7 t (.tup [.int (pc ps (wl1 u a)),x]) t=some (.tup [.int (pc ps (wl1 u a)),x]):=a0b
  generalize L2.upd H7 t (.tup [.int (pc ps (wl1 u a)),x])=H8 at s8 g8 ⊢
  have s68:=s7.trans s8
  have g9:=s68 _ _ g6
  refine ⟨zs,g9,a0m (by rw [w6.length,List.length_map,List.length_take];omega),a0q hd2 (s6.trans s68),_,a0b,?_⟩
  rw [List.take_add_one,ha,List.map_append]
  exact Paired.appendP (Paired.mapP w6 fun _ _ z=>RPw.upd g9 (z.same s68)) (.cons (RPw.upd g9 ⟨t,x,rfl,g8,Wd.same (s6.trans s68) wv⟩) .nil)
 obtain ⟨s6,zs,g6,w6⟩:=hP
 rw [ly,List.take_length] at w6
 exact q d2 zs H6 (k5.then s6) g6 w6 perm pw
abbrev NOw:List Str:=["weights","words","things"]
abbrev POw:List Str:=["weights","words"]
def ko (ws:List Int) (i:Nat):List Int:=[-ws.getD i 0,(i:Int)]
theorem b0o (ws:List Int) (i j:Nat) (h:ko ws i=ko ws j):i=j:=by
 unfold ko at h
 have:=(List.cons.inj (List.cons.inj h).2).1
 omega
structure Own (ws:List Int) (us:List (List Int)) (pl:List Nat) (cw:List (List Int)):Prop where
 perm:pl.Perm (List.range ws.length)
 pw:(pl.map (ko ws)).Pairwise Lx
 pu:cw.Perm us
 at_:∀ (i t:Nat) u,pl[i]?=some t→us[i]?=some u→cw[t]?=some u
theorem b1x {p q:Int × List Int} (h:LxP p q):p.1≤q.1:=by
 unfold LxP a5t at h
 split at h
 ·rename_i e
  exact Int.le_of_eq e
 ·exact Int.le_of_lt (of_decide_eq_true h)
def b1y (T1 T2:Addr):Sp:=fun vs H Q _=>∃ (p l:Addr) (ws:List Int) (ys:List V) (us:List (List Int)),vs=[.ref p,.ref l]∧TW H p ws∧H l=some (.lst ys)∧Ws H ys us∧us.length=ws.length∧ws.length≤7∧Tb T1 T2 H ∧
 ∀ (t:Addr) zs H' (pl:List Nat) (cw:List (List Int)),Kp T1 T2 H H'→H' t=some (.tup zs)→Ws H' zs cw→Own ws us pl cw→Q (.ref t) H'
theorem scOw:a0w NOw POw (a0c a7a):=⟨rfl,rfl,rfl,by decide +kernel,rfl,by decide +kernel,by decide +kernel⟩
theorem ndOw:(("thing":Str) :: "word" :: NOw).Nodup:=by decide +kernel
theorem a4f {α β:Type}:∀ {xs:List α} {ys:List β},xs.length=ys.length→(xs.zip ys).map Prod.fst=xs
 | [],_,_=>rfl
 | x :: xs,[],h=>by cases h
 | x :: xs,y :: ys,h=>by rw [List.zip_cons_cons,List.map_cons,a4f (by simpa using h)]
theorem a5D {α β:Type}:∀ {xs:List α} {ys:List β},xs.length=ys.length→(xs.zip ys).map Prod.snd=ys
 | [],[],_=>rfl
 | [],_ :: _,h=>by cases h
 | x :: xs,[],h=>by cases h
 | x :: xs,y :: ys,h=>by rw [List.zip_cons_cons,List.map_cons,a5D (by simpa using h)]
theorem a8D {α β:Type} {qs:List (α × β)} (h:(qs.map Prod.fst).Nodup):qs.Nodup:=by
 rw [List.Nodup,List.pairwise_map] at h
 exact h.imp fun ne e=>ne (by rw [e])
theorem own_of {n:Nat} {us:List (List Int)} {pl:List Nat} {vs:List (Int × List Int)} (lu:us.length=n) (perm:pl.Perm (List.range n)) (p4:vs.Perm ((pl.map fun i:Nat=>(i:Int)).zip us)) (w4:vs.Pairwise LxP):(vs.map Prod.snd).Perm us∧∀ (i t:Nat) u,pl[i]?=some t→us[i]?=some u→(vs.map Prod.snd)[t]?=some u:=by
 have lp:(pl.map fun i:Nat=>(i:Int)).length=us.length:=by rw [List.length_map,perm.length_eq,List.length_range,lu]
 refine ⟨?_,fun i t u h1 h2=>?_⟩
 ·have:=p4.map Prod.snd
  rw [a5D lp] at this
  exact this
 have ef:vs.map Prod.fst=(List.range n).map fun i:Nat=>(i:Int):=by
  refine a4J ?_ ?_ ?_
  ·have:=p4.map Prod.fst
   rw [a4f lp] at this
   exact this.trans (perm.map _)
  ·rw [List.pairwise_map];exact w4.imp b1x
  ·rw [List.pairwise_map]
   exact List.pairwise_lt_range.imp fun h=>by omega
 have hz:((t:Int),u)∈(pl.map fun i:Nat=>(i:Int)).zip us:=by
  refine List.mem_of_getElem? (i:=i) ?_
  rw [List.getElem?_zip_eq_some]
  exact ⟨by rw [List.getElem?_map,h1];rfl,h2⟩
 obtain ⟨j,hj⟩:=List.getElem?_of_mem (p4.mem_iff.mpr hz)
 have e1:(vs.map Prod.fst)[j]?=some (t:Int):=by rw [List.getElem?_map,hj];rfl
 rw [ef,List.getElem?_map] at e1
 obtain ⟨k,hk,e2⟩:=Option.map_eq_some_iff.mp e1
 obtain ⟨hl,e3⟩:=List.getElem?_eq_some_iff.mp hk
 rw [List.getElem_range] at e3
 have:t=j:=by omega
 rw [this,List.getElem?_map,hj]
 rfl
theorem ok_own {T1 T2 c0 bm:Addr} (F:Fun K "in_own_order" "in_own_order" a7a f fd) (hcd:fd.code=.ref c0) (LC:LamC K mg base c0 T2 bm) (ne:T1≠T2) (ml:mg "len"=none) (mS:mg "sorted"=none) (mr:mg "range"=none) (mz:mg "zip"=none) (mt:mg "tuple"=none):a1B P w K mg base CX0 4 f fd POw (b1y T1 T2):=by
 refine F.okC (k:=3) scOw (fun vs H Q E h=>?_) (fun A outer s H vs Q E hr h=>?_)
 ·obtain ⟨p,l,ws,ys,us,rfl,_⟩:=h
  rfl
 obtain ⟨p,l,ws,ys,us,rfl,hp,hl,hW,lu,l7,tab,q⟩:=h
 have LM:b1g (a7x CX0 P w K mg base NOw "in_own_order" (a0c a7a) f fd.code A outer s H E).nox c0 T2 bm:=⟨hcd,LC.hd,LC.hbm,LC.bo,LC.b1,LC.b2,LC.b3,LC.b4⟩
 have hcl:a5v (a7x CX0 P w K mg base NOw "in_own_order" (a0c a7a) f fd.code A outer s H E).nox [("weights",s.heap.objs.size+1)]:=⟨fun q hq=>by rw [List.mem_singleton.mp hq];rfl,fun q hq=>rfl,fun q hq=>by rw [List.mem_singleton.mp hq];rfl⟩
 refine ⟨_,a0f (a0u (i:=2) scOw.nd rfl (Or.inl rfl) (a4M (Rg:=RgC _ [("weights",s.heap.objs.size+1)] lamR2) (fun σ=>b1i.cells b1v hr hcl) rfl (by rfl) mS (by rfl) mr (a0a (a0j a0i (by rfl) ml PySem.boot_len (a0a (pv 0) a0e)) a0e) (a7w (b0l LM (clos:=[("weights",s.heap.objs.size+1)]) rfl) a9W)))
   (a0h (a0x (a1m a0V (by rfl) mt a2f (a0a (a9q K (M:=NOw) rfl (a0l.of (a0c a7a) NOw rfl rfl rfl (by decide +kernel) (by decide +kernel) (by decide +kernel) rfl (by decide +kernel)) ndOw rfl rfl (a5S (a9v false false rfl (hu4 hr) (by rfl) mS (by rfl) mz (a0a (pv 2) (a0a (pv 1) a0e)))) a5T (fun cl C s0 H0 fp pins σ bk=>⟨a0Q,pv 1⟩)) a0e)))),?_⟩
 refine ⟨_,rfl,p,_,rfl,.inr (SqT.of hp),ws.length,by rw [List.length_map],by omega,tab.2,fun c' pm ctv g H2 LH=>?_⟩
 have k2:Kp T1 T2 H H2:=Kp.lam2 ne tab LH
 have hp2:=k2.tup hp
 refine ⟨g,ko ws,rfl,fun i H3 Q1 hi s3 q1=>?_,a2Q _ (b0o ws),fun i _ z=>(by cases z),fun d pl H3 s3 g3 perm pw=>?_⟩
 ·intro os hos hnn
  have hn:H3 (s.heap.objs.size+1)=none:=hnn _ (by simp)
  obtain ⟨u,hu1,hu2⟩:=hos 0 0 "weights" (s.heap.objs.size+1) (.ref p) rfl rfl rfl
  have lob:=LH.ob
  generalize s.heap.objs.size+1=c at hn hu1 lob ⊢
  have st':a0v H3 (trk' [c] os H3):=fun b o e=>by
   rw [a1d (fun y=>by rw [List.mem_singleton.mp y,hn] at e;cases e)]
   exact e
  have ecc:trk' [c] os H3 c=some (exA c (os c)):=a7Y (by simp)
  refine ⟨c,c',pm,ctv,os c,u,p,ws,i,st' _ _ (s3 _ _ lob),st' _ _ (s3 _ _ LH.cd),ecc,hu1,hu2,rfl,st' _ _ (s3 _ _ hp2),hi,fun t H4 s4 h4=>⟨fun b hb=>?_,q1 t _ (fun b o e=>?_) ?_⟩⟩
  ·rw [List.mem_singleton.mp (show b∈[c] from hb)]
   exact s4 _ _ ecc
  ·have hb:b∉[c]:=fun y=>by rw [List.mem_singleton.mp y,hn] at e;cases e
   show unt [c] H4 b=_
   rw [a0H hb]
   exact s4 _ _ (st' _ _ e)
  ·have hb:t∉[c]:=fun y=>by
    rw [List.mem_singleton.mp y,s4 _ _ ecc] at h4
    cases h4
   show unt [c] H4 t=_
   rw [a0H hb]
   exact h4
 have k3:=k2.then s3
 have hl3:=k3.lst hl
 have hW3:Ws H3 ys us:=Paired.mapP hW fun x y z=>by
  obtain ⟨a,rfl,ha⟩:=Wd.ti z
  exact Wd.of (k3.tup ha)
 have lp:(pl.map fun i:Nat=>(i:Int)).length=us.length:=by rw [List.length_map,perm.length_eq,List.length_range,lu]
 have e1:(((pl.map fun i:Nat=>(i:Int)).zip us).map fun q=>V.int q.1)=pl.map fun i:Nat=>V.int (i:Int):=by
  rw [show (fun q:Int × List Int=>V.int q.1)=V.int ∘ Prod.fst from rfl,←List.map_map,a4f lp,List.map_map]
  rfl
 have nd:((pl.map fun i:Nat=>(i:Int)).zip us).Nodup:=a8D (by
  rw [a4f lp,List.Nodup,List.pairwise_map]
  exact (perm.nodup_iff.mpr List.nodup_range).imp fun ne e=>ne (by omega))
 refine ⟨fun vv H4=>∃ (e:Addr) (out:List V) (vs:List (Int × List Int)),vv=.ref e∧a0v H3 H4∧H4 e=some (.lst out)∧Paired (RPw H4) out vs∧vs.length≤7∧(vs.map Prod.snd).Perm us∧∀ (i t:Nat) u,pl[i]?=some t→us[i]?=some u→(vs.map Prod.snd)[t]?=some u,?_,fun vv H4 hv=>?_⟩
 ·refine ⟨_,rfl,_,rfl,d,l,ys,(pl.map fun i:Nat=>(i:Int)).zip us,rfl,fun {H'} s'=>?_,fun {H'} s'=>SqL.of (s' _ _ hl3),?_,?_,nd,fun e H4 out vs s4 g4 w4 perm4 pw4=>⟨e,out,vs,rfl,s4,g4,w4,?_,own_of lu perm perm4 pw4⟩⟩
  ·rw [e1];exact SqL.of (s' _ _ g3)
  ·rw [a5D lp];exact hW3
  ·rw [List.length_zip];omega
  ·rw [perm4.length_eq,List.length_zip];omega
 obtain ⟨e,out,vs,rfl,s4,g4,w4,l4,ow⟩:=hv
 have lo:out.length≤7:=by rw [w4.length];exact l4
 refine ⟨e,out,rfl,SqL.of g4,fun d2 hd2=>?_⟩
 refine ⟨fun i H'=>a0v H4 H'∧∃ ys,H' d2=some (.lst ys)∧Ws H' ys ((vs.map Prod.snd).take i),⟨a0d hd2 _,[],a0b,.nil⟩,fun i H' _ hP=>SqL.of (hP.1 _ _ g4),fun i x H' hx hP=>?_,fun H5 hP=>?_⟩
 ·obtain ⟨s5,ys,g5,w5⟩:=hP
  obtain ⟨q0,hq0',t0,u,rfl,ht0,hu⟩:=Paired.right_of w4 i x hx
  have li:=(List.getElem?_eq_some_iff.mp hx).1
  refine ⟨t0,_,_,rfl,SqT.of (s5 _ _ ht0),?_⟩
  unfold a4F a6z
  refine iteT ⟨_,rfl,ys,g5,a0m (by rw [w5.length,List.length_take];omega),a0q hd2 s5,_,a0b,?_⟩
  rw [List.take_add_one,List.getElem?_map,hq0']
  exact Paired.appendP (Ws.upd g5 w5) (.cons (Wd.upd g5 (Wd.same s5 hu)) .nil)
 obtain ⟨s5,ys',g5,w5⟩:=hP
 rw [w4.length,←List.length_map (f:=Prod.snd),List.take_length] at w5
 refine ⟨d2,_,rfl,.inl ⟨SqL.of g5,fun t ht=>q t _ _ pl _ ((k3.then (s4.trans s5)).then (a0d ht _)) a0b (w5.same (a0d ht _)) ⟨perm,pw,ow.1,ow.2⟩⟩⟩
end
theorem a4R (ws:List Int) (r:Rw):(fin ws r).1=r.1:=by unfold fin;split <;> rfl
theorem a8E (ws:List Int) (r:Rw):(fin ws r).2.2.1=r.2.1:=by unfold fin;split <;> rfl
theorem a8F (ws:List Int) (r:Rw):(fin ws r).2.2.2.length=r.2.2.length:=by
 unfold fin
 split
 ·rename_i h;rw [h]
 ·show (r.2.2.map _).length=_
  rw [List.length_map]
theorem b0p {ws:List Int} {r:Rw} {xs:List Int} (e:r.2.2=srt xs) (b:Bw xs):Bw (fin ws r).2.2.2:=by
 unfold fin
 split
 ·intro x hx;cases hx
 ·intro x hx
  have hx:x∈r.2.2.map (· - r.2.2.headD 0):=hx
  obtain ⟨y,hy,rfl⟩:=List.mem_map.mp hx
  have by1:0≤y∧y≤B30:=b y ((a0L xs).mem_iff.mp (by rw [←e];exact hy))
  have rise:=a1C xs
  rw [←e] at rise
  cases hr:r.2.2 with
  | nil=>rw [hr] at hy;cases hy
  | cons a t =>
   rw [hr] at hy rise
   have ba:0≤a:=(b a ((a0L xs).mem_iff.mp (by rw [←e,hr];exact .head _))).1
   have ay:a≤y:=by
    rcases List.mem_cons.mp hy with rfl | hy
    ·exact Int.le_refl _
    ·exact (List.pairwise_cons.mp rise).1 y hy
   show 0≤y - a∧y - a≤B30
   omega
theorem a3i {ps ws:List Int} {st:Int} {gs:List Int} {r:Rw}:∀ {n:Nat},r∈rws ps ws st gs n↔r∈rw1 ws st gs∨∃ i,i < n∧r∈rw2 ps ws st gs (i+2)
 | 0=>by
  show r∈rw1 ws st gs↔_
  exact ⟨.inl,fun h=>h.elim id fun ⟨i,hi,_⟩=>absurd hi (by omega)⟩
 | n+1=>by
  show r∈rws ps ws st gs n++rw2 ps ws st gs (n+2)↔_
  rw [List.mem_append,a3i]
  constructor
  ·rintro ((h | ⟨i,hi,h⟩) | h)
   ·exact .inl h
   ·exact .inr ⟨i,by omega,h⟩
   ·exact .inr ⟨n,by omega,h⟩
  ·rintro (h | ⟨i,hi,h⟩)
   ·exact .inl (.inl h)
   ·by_cases e:i=n
    ·subst e;exact .inr h
    ·exact .inl (.inr ⟨i,by omega,h⟩)
theorem a1v {L:Nat} {n st kn nb:Int}:nb∈lawf L n st kn↔(nb=0∧(1 < kn∨(kn=1∧st=n - 1)))∨∃ i:Nat,i < L - 1∧nb=2+(i:Int)∧0 < kn∧st+kn - 1+nb≤n:=by
 unfold lawf
 rw [List.mem_append,List.mem_filter,List.mem_map]
 constructor
 ·rintro (h | ⟨⟨i,hi,rfl⟩,h⟩)
  ·split at h
   ·rename_i c
    unfold a8s at c
    simp only [Bool.or_eq_true,Bool.and_eq_true,decide_eq_true_eq] at c
    exact .inl ⟨List.mem_singleton.mp h,c⟩
   ·cases h
  ·unfold a8t at h
   simp only [Bool.and_eq_true,decide_eq_true_eq] at h
   exact .inr ⟨i,List.mem_range.mp hi,rfl,h⟩
 ·rintro (⟨rfl,h⟩ | ⟨i,hi,rfl,h⟩)
  ·left
   have c:a8s n st kn=true:=by
    unfold a8s
    simp only [Bool.or_eq_true,Bool.and_eq_true,decide_eq_true_eq]
    exact h
   rw [if_pos c]
   exact .head _
  ·right
   refine ⟨⟨i,List.mem_range.mpr hi,rfl⟩,?_⟩
   unfold a8t
   simp only [Bool.and_eq_true,decide_eq_true_eq]
   exact h
structure Iv (n:Nat) (st kn:Int):Prop where
 s0:0≤st
 k0:0≤kn
 sk:st+kn≤n
 e0:kn=0→st=n
theorem Iv.step {L n:Nat} {st kn nb:Int} (h:Iv n st kn) (hm:nb∈lawf L n st kn):Iv n (nx st nb) (kn - 1+nb)∧1≤kn∧0≤nb∧nb≤L:=by
 obtain ⟨s0,k0,sk,e0⟩:=h
 rcases a1v.mp hm with ⟨rfl,c⟩ | ⟨i,hi,rfl,c1,c2⟩
 ·have e:nx st 0=st+1:=by unfold nx;rw [if_pos rfl]
  rw [e]
  exact ⟨⟨by omega,by omega,by omega,fun z=>by omega⟩,by omega,by omega,by omega⟩
 ·have e:nx st (2+(i:Int))=st:=by unfold nx;rw [if_neg (by omega)];omega
  rw [e]
  exact ⟨⟨by omega,by omega,by omega,fun z=>by omega⟩,by omega,by omega,by omega⟩
theorem mv_of {ps ws:List Int} {st:Int} {gs:List Int} {r:Rw} (l2:2≤ps.length) (h:Iv ws.length st gs.length) (bg:Bw gs) (bp:Bw ps) (hr:r∈rws ps ws st gs (ps.length - 1)) :
  r.1∈lawf ps.length ws.length st gs.length∧r.2.1=nx st r.1∧(r.2.2.length:Int)=(gs.length:Int) - 1+r.1∧∃ xs,r.2.2=srt xs∧Bw xs:=by
 obtain ⟨s0,k0,sk,e0⟩:=h
 have bt:Bw gs.tail:=fun x hx=>bg x (List.mem_of_mem_tail hx)
 rcases a3i.mp hr with hr | ⟨i,hi,hr⟩
 ·unfold rw1 at hr
  split at hr
  ·rename_i c
   rw [List.mem_singleton.mp hr]
   have k1:1≤gs.length:=by omega
   refine ⟨a1v.mpr (.inl ⟨rfl,by omega⟩),(by show st+1=nx st 0;unfold nx;rw [if_pos rfl]),?_,gs.tail,rfl,bt⟩
   show ((srt gs.tail).length:Int)=_
   rw [a1c,List.length_tail]
   show ((gs.length - 1:Nat):Int)=(gs.length:Int) - 1+0
   omega
  ·cases hr
 ·unfold rw2 at hr
  split at hr
  ·rename_i c
   rw [List.mem_singleton.mp hr]
   have k1:1≤gs.length:=by
    rcases Nat.eq_zero_or_pos gs.length with z | z
    ·have:=e0 (by omega)
     omega
    ·exact z
   refine ⟨a1v.mpr (.inr ⟨i,hi,by show ((i+2:Nat):Int)=_;omega,by omega,c⟩),?_,?_,_,rfl,fun x hx=>?_⟩
   ·show st=nx st ((i+2:Nat):Int)
    unfold nx
    rw [if_neg (by omega)]
    omega
   ·show ((srt (gs.tail++(srt ps).take (i+2))).length:Int)=(gs.length:Int) - 1+((i+2:Nat):Int)
    rw [a1c,List.length_append,List.length_tail,List.length_take,a1c]
    omega
   ·rcases List.mem_append.mp hx with z | z
    ·exact bt x z
    ·exact bp x ((a0L ps).mem_iff.mp (List.mem_of_mem_take z))
  ·cases hr
theorem mv_ex {ps ws:List Int} {st:Int} {gs:List Int} {nb:Int} (h:Iv ws.length st gs.length) (hm:nb∈lawf ps.length ws.length st gs.length):∃ r∈rws ps ws st gs (ps.length - 1),r.1=nb:=by
 obtain ⟨s0,k0,sk,e0⟩:=h
 rcases a1v.mp hm with ⟨rfl,c⟩ | ⟨i,hi,rfl,c1,c2⟩
 ·refine ⟨(0,st+1,srt gs.tail),a3i.mpr (.inl ?_),rfl⟩
  unfold rw1
  rw [if_pos (by omega)]
  exact .head _
 ·refine ⟨(((i+2:Nat):Int),st,srt (gs.tail++(srt ps).take (i+2))),a3i.mpr (.inr ⟨i,hi,?_⟩),by show ((i+2:Nat):Int)=_;omega⟩
  unfold rw2
  rw [if_pos (by omega)]
  exact .head _
section
variable {P:Program} {w:World} {K:PySem.W.Frag} {mg:Str→Option Value} {base:Heap} {f:Addr} {fd:FuncData}
abbrev NLe:List Str:=["prices","weights","frontier","number","move"]
abbrev PLe:List Str:=["prices","weights","frontier","number"]
def b1z (K:PySem.W.Frag):Sp:=fun vs H Q _=>∃ (p q fr g:Addr) (ps ws gs:List Int) (st nb:Int),vs=[.ref p,.ref q,.ref fr,.int nb]∧Ask K H p q fr g ps ws gs st ∧
 (∃ m∈mvs ps ws st gs,m.1=nb) ∧
 (∀ m∈mvs ps ws st gs,m.1=nb→∀ (f2 g2:Addr) H',a0v H H'→H' f2=some (.tup [.int m.2.2.1,.ref g2])→TW H' g2 m.2.2.2→Q (.ref f2) H')
theorem scLe:a0w NLe PLe (a0c b1W):=⟨rfl,rfl,rfl,by decide +kernel,rfl,by decide +kernel,by decide +kernel⟩
theorem a5u.same {H H':Hp} {x:V} {p:Int × Int × (Int × List Int)} (k:a0v H H') (h:a5u H x p):a5u H' x p:=a5u.tk (TK.of k) h
theorem ok_led (F:Fun K "led_to" "led_to" b1W f fd) (GM:Fns P w K mg base ["prices","weights","frontier"] "moves" (a4d K) 3):a1B P w K mg base CX0 4 f fd PLe (b1z K):=by
 refine F.ok (k:=3) scLe (fun vs H Q E h=>?_) (fun cdv A outer s H vs Q E hr h=>?_)
 ·obtain ⟨p,q,fr,g,ps,ws,gs,st,nb,rfl,_⟩:=h
  rfl
 obtain ⟨p,q,fr,g,ps,ws,gs,st,nb,rfl,ak,⟨m0,hm0,em0⟩,qQ⟩:=h
 refine ⟨_,a0f (a1l PassesOwn.never rfl (a1G (a0s GM.ok hr (by rfl) GM.m GM.kp GM.b .nil a0N (a0a (pv 0) (a0a (pv 1) (a0a (pv 2) a0e))))) (a0E (i:=4) scLe.nd rfl (Or.inl rfl))
   (a0h (a0Y (a0o a2e (a0P a1L (pv 4) a0g (fun _ _=>rfl)) (pv 3) (nomark _)) (a0h (a0x (a0P a1L (pv 4) a0g (fun _ _=>rfl)))) a0B)))
   (a0h a6g),?_⟩
 refine ⟨_,rfl,_,rfl,_,rfl,p,q,fr,g,ps,ws,gs,st,rfl,ak,fun l H1 xs s1 hl g1 m1=>?_⟩
 refine ⟨l,rfl,⟨_,SqL.of g1⟩,?_⟩
 refine a1V (xs:=xs) (fun i σ H'=>H'=H1∧(∀ m∈(mvs ps ws st gs).take i,m.1≠nb)∧∃ x4:Option V,σ=[some (.ref p),some (.ref q),some (.ref fr),some (.int nb),x4]) ⟨rfl,fun m hm=>(by rw [List.take_zero] at hm;cases hm),_,rfl⟩ (fun i σ H' _ hP=>by rw [hP.1];exact SqL.of g1) (fun i x σ H2 hx hP=>?_) (fun σ H2 hP=>?_)
 ·obtain ⟨rfl,hn,x4,rfl⟩:=hP
  obtain ⟨m,hm,mv⟩:=Paired.right_of m1 i x hx
  obtain ⟨a,y,z,t,rfl,ea,rfl,rfl,a2,u,v,rfl,e2,rfl,hv⟩:=mv
  refine ⟨_,rfl,a,_,_,_,rfl,rfl,SqT.of ea,rfl,_,rfl,rfl,_,rfl,?_⟩
  refine a2v (fun c=>?_) (fun c=>?_)
  ·have c1:m.1=nb:=V.int.inj (of_decide_eq_true c)
   obtain ⟨b,rfl,hb⟩:=Wd.ti hv
   exact ⟨_,rfl,a,_,_,_,rfl,rfl,SqT.of ea,rfl,qQ m (List.mem_of_getElem? hm) c1 a2 b H2 s1 e2 hb⟩
  ·have c1:m.1≠nb:=fun z=>c (decide_eq_true (by rw [z]))
   refine ⟨rfl,fun m' hm'=>?_,_,rfl⟩
   rw [List.take_add_one,hm] at hm'
   rcases List.mem_append.mp hm' with z | z
   ·exact hn m' z
   ·rw [List.mem_singleton.mp z];exact c1
 ·obtain ⟨rfl,hn,x4,rfl⟩:=hP
  rw [m1.length,List.take_length] at hn
  exact hn m0 hm0 em0
end
def mv (ps ws:List Int) (st:Int) (gs:List Int) (nb:Int):Mv:=fin ws (nb,nx st nb,srt (gs.tail++(srt ps).take nb.toNat))
def spR (ps ws:List Int):List Int→Int→List Int→Int
 | [],_,_=>0
 | r :: rs,st,gs=>(mv ps ws st gs r).2.1+spR ps ws rs (mv ps ws st gs r).2.2.1 (mv ps ws st gs r).2.2.2
theorem rw_eq {ps ws:List Int} {st:Int} {gs:List Int} {r:Rw} (hr:r∈rws ps ws st gs (ps.length - 1)):r=(r.1,nx st r.1,srt (gs.tail++(srt ps).take r.1.toNat)):=by
 rcases a3i.mp hr with hr | ⟨i,hi,hr⟩
 ·unfold rw1 at hr
  split at hr
  ·rw [List.mem_singleton.mp hr]
   show _=((0:Int),nx st 0,srt (gs.tail++(srt ps).take (0:Int).toNat))
   rw [show (0:Int).toNat=0 from rfl,List.take_zero,List.append_nil]
   unfold nx
   rw [if_pos rfl]
  ·cases hr
 ·unfold rw2 at hr
  split at hr
  ·rw [List.mem_singleton.mp hr]
   show _=(((i+2:Nat):Int),nx st ((i+2:Nat):Int),srt (gs.tail++(srt ps).take ((i+2:Nat):Int).toNat))
   rw [show ((i+2:Nat):Int).toNat=i+2 from rfl]
   unfold nx
   rw [if_neg (by omega),Int.add_zero]
  ·cases hr
theorem a8G (ps ws:List Int) (st:Int) (gs:List Int):∀ n,((rws ps ws st gs n).map (·.1)).Nodup∧∀ r∈rws ps ws st gs n,r.1 < (n:Int)+2
 | 0=>by
  unfold rws rw1
  split
  ·exact ⟨List.pairwise_singleton _ _,fun r hr=>by rw [List.mem_singleton.mp hr];show (0:Int) < _;omega⟩
  ·exact ⟨List.Pairwise.nil,fun r hr=>by cases hr⟩
 | n+1=>by
  obtain ⟨h1,h2⟩:=a8G ps ws st gs n
  unfold rws rw2
  split
  ·refine ⟨?_,fun r hr=>?_⟩
   ·rw [List.map_append]
    refine List.nodup_append.mpr ⟨h1,List.pairwise_singleton _ _,fun a ha b hb=>?_⟩
    obtain ⟨r,hr,rfl⟩:=List.mem_map.mp ha
    have:=h2 r hr
    have hb:b=((n+2:Nat):Int):=List.mem_singleton.mp hb
    rw [hb]
    omega
   ·rcases List.mem_append.mp hr with hr | hr
    ·have:=h2 r hr
     omega
    ·rw [List.mem_singleton.mp hr]
     show ((n+2:Nat):Int) < _
     omega
  ·rw [List.append_nil]
   exact ⟨h1,fun r hr=>by have:=h2 r hr;omega⟩
theorem filt1 {α:Type} (f:α→Int):∀ {l:List α} {a:α},(l.map f).Nodup→a∈l→l.filter (fun x=>decide (f x=f a))=[a]
 | [],a,_,h=>by cases h
 | x :: l,a,nd,h=>by
  rw [List.map_cons,List.nodup_cons] at nd
  rcases List.mem_cons.mp h with rfl | h
  ·rw [List.filter_cons,if_pos (decide_eq_true rfl),List.filter_eq_nil_iff.mpr fun y hy z=>nd.1 (by rw [←of_decide_eq_true z];exact List.mem_map_of_mem hy)]
  ·rw [List.filter_cons,if_neg (fun z=>nd.1 (by rw [of_decide_eq_true z];exact List.mem_map_of_mem h))]
   exact filt1 f nd.2 h
theorem b0q {ps ws:List Int} {st:Int} {gs:List Int} {m:Mv} (h:m∈mvs ps ws st gs):m=mv ps ws st gs m.1:=by
 obtain ⟨r,hr,rfl⟩:=List.mem_map.mp h
 rw [a4R]
 unfold mv
 rw [←rw_eq hr]
theorem a4S {ps ws:List Int} {st:Int} {gs:List Int} {nb:Int} (h:Iv ws.length st gs.length) (hm:nb∈lawf ps.length ws.length st gs.length):(mvs ps ws st gs).filter (fun m=>decide (m.1=nb))=[mv ps ws st gs nb]:=by
 obtain ⟨r,hr,e⟩:=mv_ex h hm
 have hf:fin ws r∈mvs ps ws st gs:=List.mem_map_of_mem hr
 have e1:(fin ws r).1=nb:=by rw [a4R];exact e
 have:=filt1 (fun m:Mv=>m.1) (l:=mvs ps ws st gs) (a:=fin ws r) (by
  unfold mvs
  rw [List.map_map]
  have:((fun m:Mv=>m.1) ∘ fin ws)=(·.1):=funext fun r=>a4R ws r
  rw [this]
  exact (a8G ps ws st gs _).1) hf
 rw [b0q hf,e1] at this
 have e2:(mv ps ws st gs nb).1=nb:=a4R _ _
 rw [e2] at this
 exact this
theorem mv_eq {ps ws P R:List Int} {st c nb:Int} (pm:P.Perm (c :: R)) (le:∀ x∈R,c≤x) :
  mv ps ws st (gaps P) nb=(nb,(if R++((srt ps).take nb.toNat).map (c+·)=[] then 0 else ((srt (R++((srt ps).take nb.toNat).map (c+·))).headD 0 - c) * wl ws (nx st nb)),(nx st nb,gaps (R++((srt ps).take nb.toNat).map (c+·)))):=by
 unfold mv
 rw [a8j pm le]
 generalize R++((srt ps).take nb.toNat).map (c+·)=N
 unfold fin
 by_cases e:N=[]
 ·rw [if_pos e,e,a2j.mpr rfl]
  unfold gaps
  rw [a2j.mpr rfl]
  rfl
 ·have e1:srt N≠[]:=fun z=>e (a2j.mp z)
  rw [if_neg e]
  cases h:srt N with
  | nil=>exact absurd h e1
  | cons x t =>
   rw [if_neg (by intro z;cases z)]
   show (nb,(x - c) * _,_,_)=(nb,(x - c) * _,_,_)
   have g:=(a8k (N:=N) (c:=c)).resolve_right e
   rw [h] at g
   rw [←g]
structure a4k (ps:List Int) (pm:List Nat):Prop where
 perm:pm.Perm (List.range ps.length)
 pw:(pm.map (kc ps)).Pairwise Lx
theorem lx2 {a b c d:Int} (h:Lx [a,b] [c,d]):a≤c∧(a=c→b < d):=by
 unfold Lx at h
 rw [HT.a1a] at h
 split at h
 ·rename_i e
  rw [HT.a1a] at h
  split at h
  ·cases h
  ·exact ⟨by omega,fun _=>of_decide_eq_true h⟩
 ·have:=of_decide_eq_true h
  exact ⟨by omega,fun z=>by omega⟩
theorem a4T (ps:List Int):(List.range ps.length).map (fun a=>ps.getD a 0)=ps:=by
 refine List.ext_getElem (by simp) fun i h1 h2=>?_
 simp [List.getD_eq_getElem?_getD,List.getElem?_eq_getElem h2]
theorem a4k.prices {ps:List Int} {pm:List Nat} (h:a4k ps pm):pm.map (fun a=>ps.getD a 0)=srt ps:=by
 refine a2E ?_ ?_
 ·have:=h.perm.map (fun a=>ps.getD a 0)
  rw [a4T] at this
  exact this
 ·have:=h.pw
  rw [List.pairwise_map] at this ⊢
  exact this.imp fun z=>(lx2 z).1
theorem a4k.uniq {ps:List Int} {pm pm':List Nat} (h:a4k ps pm) (h':a4k ps pm'):pm=pm':=by
 have e:=a3a ((h.perm.trans h'.perm.symm).map (kc ps)) h.pw h'.pw
 have e2:=congrArg (List.map fun u:List Int=>(u.getD 1 0).toNat) e
 rw [List.map_map,List.map_map] at e2
 have e3:((fun u:List Int=>(u.getD 1 0).toNat) ∘ kc ps)=id:=funext fun i=>rfl
 rw [e3,List.map_id,List.map_id] at e2
 exact e2
theorem a4k.nd {ps:List Int} {pm:List Nat} (h:a4k ps pm):pm.Nodup:=h.perm.nodup_iff.mpr List.nodup_range
theorem a4k.len {ps:List Int} {pm:List Nat} (h:a4k ps pm):pm.length=ps.length:=by rw [h.perm.length_eq,List.length_range]
theorem a4k.lt {ps:List Int} {pm:List Nat} (h:a4k ps pm) {m a:Nat} (ha:a∈pm.take m):a < ps.length:=List.mem_range.mp (h.perm.mem_iff.mp (List.mem_of_mem_take ha))
def Ch (W:List (List Int)) (p:List Int) (y:Int):Prop:=∃ v∈W,p++[y] <+: v
def WC (ps:List Int) (W:List (List Int)):Prop:=∀ p y,Ch W p y→∃ pm m,a4k ps pm∧2≤m∧m≤ps.length∧∀ z:Int,Ch W p z↔z∈(pm.take m).map fun a:Nat=>(a:Int)
theorem Ch.congr {W W':List (List Int)} (h:∀ v,v∈W↔v∈W') (p:List Int) (y:Int):Ch W p y↔Ch W' p y:=⟨fun ⟨v,a,b⟩=>⟨v,(h v).mp a,b⟩,fun ⟨v,a,b⟩=>⟨v,(h v).mpr a,b⟩⟩
theorem WC.congr {ps:List Int} {W W':List (List Int)} (h:∀ v,v∈W↔v∈W') (x:WC ps W):WC ps W':=fun p y c=>by
 obtain ⟨pm,m,i,m2,mL,e⟩:=x p y ((Ch.congr h p y).mpr c)
 exact ⟨pm,m,i,m2,mL,fun z=>by rw [←Ch.congr h p z];exact e z⟩
theorem WC.start (ps:List Int):WC ps [[]]:=fun p y ⟨v,hv,h⟩=>by
 rw [List.mem_singleton.mp hv] at h
 have:=h.length_le
 rw [List.length_append] at this
 simp at this
theorem WC.open {ps u:List Int} {W:List (List Int)} {pm:List Nat} {m:Nat} (pf:PF (u :: W)) (x:WC ps (u :: W)) (ic:a4k ps pm) (m2:2≤m) (mL:m≤ps.length):WC ps (W++(pm.take m).map (wl1 u)):=by
 have hu:=(List.pairwise_cons.mp pf).1
 have lt:(pm.take m).length=m:=by rw [List.length_take,ic.len];omega
 have A:∀ p,p≠u→∀ z,Ch (W++(pm.take m).map (wl1 u)) p z↔Ch (u :: W) p z:=fun p ne z=>by
  constructor
  ·rintro ⟨v,hv,h⟩
   rcases List.mem_append.mp hv with hv | hv
   ·exact ⟨v,.tail _ hv,h⟩
   ·obtain ⟨a,ha,rfl⟩:=List.mem_map.mp hv
    rcases List.prefix_concat_iff.mp h with e | h
    ·exact absurd (List.append_inj_left' e rfl) ne
    ·exact ⟨u,.head _,h⟩
  ·rintro ⟨v,hv,h⟩
   rcases List.mem_cons.mp hv with rfl | hv
   ·have:0 < (pm.take m).length:=by omega
    exact ⟨wl1 v ((pm.take m)[0]),List.mem_append_right _ (List.mem_map_of_mem (List.getElem_mem this)),h.trans (List.prefix_append _ _)⟩
   ·exact ⟨v,List.mem_append_left _ hv,h⟩
 have B:∀ z,Ch (W++(pm.take m).map (wl1 u)) u z↔z∈(pm.take m).map fun a:Nat=>(a:Int):=fun z=>by
  constructor
  ·rintro ⟨v,hv,h⟩
   rcases List.mem_append.mp hv with hv | hv
   ·exact absurd ((List.prefix_append _ _).trans h) (hu v hv).1
   ·obtain ⟨a,ha,rfl⟩:=List.mem_map.mp hv
    rcases List.prefix_concat_iff.mp h with e | h
    ·have:=List.append_inj_right' e rfl
     have:z=(a:Int):=(List.cons.inj this).1
     rw [this]
     exact List.mem_map_of_mem ha
    ·have:=h.length_le
     rw [List.length_append] at this
     have:u.length+1≤u.length:=this
     omega
  ·intro hz
   obtain ⟨a,ha,rfl⟩:=List.mem_map.mp hz
   exact ⟨wl1 u a,List.mem_append_right _ (List.mem_map_of_mem ha),List.prefix_rfl⟩
 intro p y c
 by_cases e:p=u
 ·subst e
  exact ⟨pm,m,ic,m2,mL,B⟩
 ·obtain ⟨pm',m',i,a,b,z⟩:=x p y ((A p e y).mp c)
  exact ⟨pm',m',i,a,b,fun y=>by rw [A p e y];exact z y⟩
theorem PF.open {u:List Int} {ws:List (List Int)} {ls:List Nat} (h:PF (u :: ws)) (nd:ls.Nodup):PF (ws++ls.map (wl1 u)):=by
 obtain ⟨h1,h2⟩:=List.pairwise_cons.mp h
 refine List.pairwise_append.mpr ⟨h2,?_,fun a ha b hb=>?_⟩
 ·rw [List.pairwise_map]
  exact List.Pairwise.imp (fun {a b} (ne:a≠b)=>a2I.sib (by omega)) nd
 ·obtain ⟨k,_,rfl⟩:=List.mem_map.mp hb
  exact ((h1 a ha).ext (k:Int)).symm
theorem PF.nd {ws:List (List Int)} (h:PF ws):ws.Nodup:=by
 refine List.Pairwise.imp (R:=a2I) ?_ h
 intro a b ap e
 exact ap.1 (by rw [e];exact List.prefix_rfl)
abbrev Kq:=List (Int × List Int)
def opn (ps u:List Int) (ls:List Nat):Kq:=ls.map fun a=>(pc ps (wl1 u a),wl1 u a)
structure Rn (ps ws rs rest:List Int) (st:Int) (gs:List Int) (kq:Kq) (us:List (List Int)):Prop where
 pr:∀ z∈kq,z.1=pc ps z.2
 gp:gs=gaps (kq.map Prod.fst)
 ln:(us.length:Int)=st
 sp:spR ps ws rs 0 [0]=due ws (us.map (pc ps))+(srt (kq.map Prod.fst)).headD 0 * left ws us.length+spR ps ws rest st gs
 up:(us.map (pc ps)).Pairwise (·≤·)
 lo:∀ z∈kq,∀ u∈us,pc ps u≤z.1
 pf:PF (us++kq.map Prod.snd)
 wc:WC ps (us++kq.map Prod.snd)
theorem srt1 (x:Int):srt [x]=[x]:=(a2E (List.Perm.refl _) (List.pairwise_singleton _ _)).symm
theorem Rn.start (ps ws rs:List Int):Rn ps ws rs rs 0 [0] [(0,[])] [] where
 pr:=fun z hz=>by rw [List.mem_singleton.mp hz];rfl
 gp:=by
  show _=gaps [0]
  unfold gaps
  rw [srt1]
  rfl
 ln:=rfl
 sp:=by
  show _=due ws []+(srt [0]).headD 0 * _+_
  rw [srt1,b1k]
  show _=0+0 * _+_
  omega
 up:=.nil
 lo:=fun z _ u hu=>by cases hu
 pf:=List.pairwise_singleton _ _
 wc:=WC.start ps
theorem b0r (ps u:List Int) (a:Nat):pc ps (wl1 u a)=pc ps u+ps.getD a 0:=by
 unfold pc wl1
 rw [List.map_append,List.sum_append]
 show _+(ps.getD ((a:Nat):Int).toNat 0+0)=_
 rw [Int.add_zero]
 rfl
theorem lo_of {c:Int} {u:List Int} {kt:Kq} (h:((c,u) :: kt).Pairwise LxP):∀ x∈kt.map Prod.fst,c≤x:=fun x hx=>by
 obtain ⟨z,hz,rfl⟩:=List.mem_map.mp hx
 have:=(List.pairwise_cons.mp h).1 z hz
 unfold LxP a5t at this
 split at this
 ·rename_i e
  exact Int.le_of_eq e
 ·exact Int.le_of_lt (of_decide_eq_true this)
theorem Rn.step {ps ws rs rest:List Int} {st nb c:Int} {gs u:List Int} {kq kt:Kq} {us:List (List Int)} {pm:List Nat} (bp:Bw ps) (h:Rn ps ws rs (nb :: rest) st gs kq us) (iv:Iv ws.length st gs.length) (hm:nb∈lawf ps.length ws.length st gs.length) (kl:kq.length=gs.length) (perm:((c,u) :: kt).Perm kq) (pw:((c,u) :: kt).Pairwise LxP) (ic:a4k ps pm) :
  Rn ps ws rs rest (mv ps ws st gs nb).2.2.1 (mv ps ws st gs nb).2.2.2 (kt++opn ps u (pm.take nb.toNat)) (if nb=0 then us++[u] else us):=by
 have lo1:=lo_of pw
 have pfm:(kq.map Prod.fst).Perm (c :: kt.map Prod.fst):=(perm.map Prod.fst).symm
 have psm:(kq.map Prod.snd).Perm (u :: kt.map Prod.snd):=(perm.map Prod.snd).symm
 have ec:c=pc ps u:=h.pr (c,u) (perm.mem_iff.mp (.head _))
 have hN:(kt++opn ps u (pm.take nb.toNat)).map Prod.fst=kt.map Prod.fst++((srt ps).take nb.toNat).map (c+·):=by
  rw [List.map_append,←ic.prices,←List.map_take,List.map_map]
  unfold opn
  rw [List.map_map]
  refine congrArg _ (List.map_congr_left fun a _=>?_)
  show pc ps (wl1 u a)=c+ps.getD a 0
  rw [b0r,ec]
 have hS:(kt++opn ps u (pm.take nb.toNat)).map Prod.snd=kt.map Prod.snd++(pm.take nb.toNat).map (wl1 u):=by
  rw [List.map_append]
  unfold opn
  rw [List.map_map]
  rfl
 have e:=mv_eq (ps:=ps) (ws:=ws) (st:=st) (nb:=nb) pfm lo1
 rw [←h.gp,←hN] at e
 have hd0:(srt (kq.map Prod.fst)).headD 0=c:=by rw [a6d pfm lo1];rfl
 have sp:=h.sp
 rw [hd0] at sp
 have sp:spR ps ws rs 0 [0]=due ws (us.map (pc ps))+c * left ws us.length+((mv ps ws st gs nb).2.1+spR ps ws rest (mv ps ws st gs nb).2.2.1 (mv ps ws st gs nb).2.2.2):=sp
 rw [e] at sp ⊢
 dsimp only at sp ⊢
 generalize hkq:kt++opn ps u (pm.take nb.toNat)=kq' at *
 have hpr:∀ z∈kq',z.1=pc ps z.2:=fun z hz=>by
  rw [←hkq] at hz
  rcases List.mem_append.mp hz with hz | hz
  ·exact h.pr z (perm.mem_iff.mp (.tail _ hz))
  ·obtain ⟨a,_,rfl⟩:=List.mem_map.mp hz
   rfl
 have hcl:∀ z∈kq',c≤z.1:=fun z hz=>by
  rw [←hkq] at hz
  rcases List.mem_append.mp hz with hz | hz
  ·exact lo1 _ (List.mem_map_of_mem hz)
  ·obtain ⟨a,ha,rfl⟩:=List.mem_map.mp hz
   show c≤pc ps (wl1 u a)
   rw [b0r,←ec]
   have la:=ic.lt ha
   have:ps.getD a 0∈ps:=by rw [List.getD_eq_getElem?_getD,List.getElem?_eq_getElem la];exact List.getElem_mem la
   have:=(bp _ this).1
   omega
 have huc:∀ v∈us,pc ps v≤c:=fun v hv=>h.lo (c,u) (perm.mem_iff.mp (.head _)) v hv
 have ln:=h.ln
 have len1:((us.map (pc ps)).length:Int)=st:=by rw [List.length_map];exact ln
 have w1:∀ k:Nat,wl ws (k:Int)=left ws k:=fun k=>rfl
 rcases a1v.mp hm with ⟨rfl,cc⟩ | ⟨i,hi,e2,c1,c2⟩
 ·have hk0:kq'=kt:=by
   rw [←hkq]
   show kt++opn ps u (pm.take 0)=kt
   unfold opn
   simp
  have n0:nx st 0=st+1:=by unfold nx;rw [if_pos rfl]
  rw [n0] at sp ⊢
  rw [if_pos rfl]
  have kn1:kt.length+1=gs.length:=by rw [←kl,←perm.length_eq];rfl
  have lw:us.length < ws.length:=by have:=iv.sk;omega
  have hsp:a4P ws (due ws (us.map (pc ps))+c * left ws us.length) c (us.map (pc ps)):=by unfold a4P;rw [List.length_map]
  have elen:((us++[u]).length:Int)=st+1:=by rw [List.length_append];show ((us.length+1:Nat):Int)=_;omega
  have emap:(us++[u]).map (pc ps)=us.map (pc ps)++[c]:=by rw [List.map_append,ec];rfl
  refine ⟨hpr,rfl,elen,?_,?_,?_,?_,?_⟩
  ·rw [sp,emap]
   have es:st+1=((us.length+1:Nat):Int):=by omega
   have el:(us++[u]).length=us.length+1:=by rw [List.length_append];rfl
   by_cases z:kq'.map Prod.fst=[]
   ·rw [if_pos z]
    have z1:kt=[]:=by rw [←hk0];exact List.map_eq_nil_iff.mp z
    have g1:gs.length=1:=by rw [←kn1,z1];rfl
    have l1:us.length+1=ws.length:=by omega
    have:=hsp.fin (by rw [List.length_map];exact l1)
    rw [this,z,a2j.mpr rfl,el]
    show _=_+0 * _+_
    omega
   ·rw [if_neg z]
    have:=hsp.set (r:=(srt (kq'.map Prod.fst)).headD 0 - c) (by rw [List.length_map];exact lw)
    unfold a4P at this
    rw [List.length_append,List.length_map] at this
    rw [el,show wl ws (st+1)=left ws (us.length+1) by rw [es];rfl]
    rw [show c+((srt (kq'.map Prod.fst)).headD 0 - c)=(srt (kq'.map Prod.fst)).headD 0 by omega] at this
    have this:due ws (us.map (pc ps))+c * left ws us.length+((srt (kq'.map Prod.fst)).headD 0 - c) * left ws (us.length+1)=due ws (us.map (pc ps)++[c])+(srt (kq'.map Prod.fst)).headD 0 * left ws (us.length+1):=this
    rw [←this]
    omega
  ·rw [emap]
   refine List.pairwise_append.mpr ⟨h.up,List.pairwise_singleton _ _,fun a ha b hb=>?_⟩
   obtain ⟨v,hv,rfl⟩:=List.mem_map.mp ha
   rw [List.mem_singleton.mp hb]
   exact huc v hv
  ·intro z hz v hv
   rcases List.mem_append.mp hv with hv | hv
   ·exact Int.le_trans (huc v hv) (hcl z hz)
   ·rw [List.mem_singleton.mp hv,←ec]
    exact hcl z hz
  ·rw [hk0,List.append_assoc]
   exact PF.perm h.pf (List.Perm.append_left us psm.symm)
  ·refine h.wc.congr fun v=>?_
   rw [hk0,List.append_assoc]
   exact (List.Perm.append_left us psm).mem_iff
 ·have n0:nx st nb=st:=by unfold nx;rw [if_neg (by omega),Int.add_zero]
  rw [n0] at sp ⊢
  rw [if_neg (by omega)]
  have hm2:nb.toNat=i+2:=by omega
  have mL:nb.toNat≤ps.length:=by omega
  have hsp:a4P ws (due ws (us.map (pc ps))+c * left ws us.length) c (us.map (pc ps)):=by unfold a4P;rw [List.length_map]
  have P1:(us++kq.map Prod.snd).Perm (u :: (us++kt.map Prod.snd)):=(List.Perm.append_left us psm).trans List.perm_middle
  have pf1:PF (u :: (us++kt.map Prod.snd)):=PF.perm h.pf P1.symm
  have wc1:WC ps (u :: (us++kt.map Prod.snd)):=h.wc.congr fun v=>P1.mem_iff
  have ndt:(pm.take nb.toNat).Nodup:=ic.nd.sublist (List.take_sublist _ _)
  refine ⟨hpr,rfl,ln,?_,h.up,fun z hz v hv=>Int.le_trans (huc v hv) (hcl z hz),?_,?_⟩
  ·have z:kq'.map Prod.fst≠[]:=fun z=>by
    have z1:=List.map_eq_nil_iff.mp z
    rw [←hkq] at z1
    have:=congrArg List.length z1
    unfold opn at this
    rw [List.length_append,List.length_map,List.length_take,ic.len,List.length_nil] at this
    omega
   rw [sp,if_neg z]
   have:=hsp.opn (r:=(srt (kq'.map Prod.fst)).headD 0 - c)
   unfold a4P at this
   rw [List.length_map,show c+((srt (kq'.map Prod.fst)).headD 0 - c)=(srt (kq'.map Prod.fst)).headD 0 by omega] at this
   rw [←this,show wl ws st=left ws us.length by rw [←ln];rfl]
   omega
  ·rw [hS,←List.append_assoc]
   exact PF.open pf1 ndt
  ·rw [hS,←List.append_assoc]
   exact WC.open pf1 wc1 ic (by omega) mL
theorem a8H {α β:Type} {qs:List (α × β)} (h:(qs.map Prod.snd).Nodup):qs.Nodup:=by
 rw [List.Nodup,List.pairwise_map] at h
 exact h.imp fun ne e=>ne (by rw [e])
section
variable {T1 T2:Addr} {H H':Hp}
theorem a8I {H:Hp} {d T:Addr} {ls ls':List V} {lpos:Pos} {q:Str} (hd:H d=some (.lst ls)) (x:a2J H T lpos q):a2J (upd H d (.lst ls')) T lpos q:=by
 rcases x with e | ⟨c,e,ec⟩
 ·exact .inl (by rw [a0n (a2c e hd (by intro z;cases z))];exact e)
 ·exact .inr ⟨c,by rw [a0n (a2c e hd (by intro z;cases z))];exact e,by rw [a0n (a2c ec hd (by intro z;cases z))];exact ec⟩
theorem Kp.upd {d:Addr} {ls ls':List V} (hn:H d=none) (hd:H' d=some (.lst ls)) (k:Kp T1 T2 H H'):Kp T1 T2 H (L2.upd H' d (.lst ls')):=⟨fun a o n e=>by rw [a0n (a0D e hn)];exact k.sm a o n e,a8I hd k.tb.1,a8I hd k.tb.2⟩
theorem Kp.tk (k:Kp T1 T2 H H'):TK H H':=fun _ _ e=>k.tup e
theorem wd_tk {x:V} {u:List Int} (k:TK H H') (h:Wd H x u):Wd H' x u:=by
 obtain ⟨a,rfl,ha⟩:=Wd.ti h
 exact Wd.of (k _ _ ha)
theorem b1A {xs:List V} {us:List (List Int)} (k:TK H H') (h:Ws H xs us):Ws H' xs us:=Paired.mapP h fun _ _ z=>wd_tk k z
theorem rpw_tk {x:V} {q:Int × List Int} (k:TK H H') (h:RPw H x q):RPw H' x q:=by
 obtain ⟨t,u,rfl,ht,hu⟩:=h
 exact ⟨t,u,rfl,k _ _ ht,wd_tk k hu⟩
theorem a5E {xs:List V} {qs:List (Int × List Int)} (k:TK H H') (h:Paired (RPw H) xs qs):Paired (RPw H') xs qs:=Paired.mapP h fun _ _ z=>rpw_tk k z
end
section
variable {P:Program} {w:World} {K:PySem.W.Frag} {mg:Str→Option Value} {base:Heap} {f:Addr} {fd:FuncData}
structure Fst (K:PySem.W.Frag) (mg:Str→Option Value) (aF bF:Addr):Prop where
 m:mg "FIRST"=some (.ref aF)
 a:∀ H,SqT K H aF [.int 0,.ref bF]
 b:∀ H,SqT K H bF [.int 0]
abbrev NCo:List Str:=["prices","weights","row","frontier","knots","words","number","word"]
abbrev PCo:List Str:=["prices","weights","row"]
structure Cd (ps ws rs:List Int) (us:List (List Int)):Prop where
 ln:us.length=ws.length
 sp:spR ps ws rs 0 [0]=due ws (us.map (pc ps))
 up:(us.map (pc ps)).Pairwise (·≤·)
 pf:PF us
 wc:WC ps us
 lt:∀ u∈us,Lt ps.length u∧u.length≤60
def b1B (T1 T2:Addr):Sp:=fun vs H Q _=>∃ (p q a:Addr) (ps ws rs:List Int),vs=[.ref p,.ref q,.ref a]∧TW H p ps∧TW H q ws∧H a=some (.lst (rs.map V.int))∧rs.length≤60∧2≤ps.length∧ps.length≤6∧1≤ws.length∧(ws.length:Int)≤(if ps.length=2 then 7 else 6)∧Bw ps∧Bw ws∧Tb T1 T2 H ∧
 leads ps.length ws.length rs 0 1=true∧∀ (t:Addr) zs us pl cw H',Kp T1 T2 H H'→H' t=some (.tup zs)→Ws H' zs cw→Own ws us pl cw→Cd ps ws rs us→Q (.ref t) H'
theorem a9G:a0w NCo PCo (a0c b1V):=⟨rfl,rfl,rfl,by decide +kernel,rfl,by decide +kernel,by decide +kernel⟩
theorem a6m {L:Nat} {n:Int} {r:Int} {rs:List Int} {st kn:Int} (h:r∉lawf L n st kn):leads L n (r :: rs) st kn=false:=by
 show (if r∈lawf L n st kn then _ else _)=_
 rw [if_neg h]
theorem a3j {L:Nat} {n:Int} {r:Int} {rs:List Int} {st kn:Int} (h:r∈lawf L n st kn):leads L n (r :: rs) st kn=leads L n rs (nx st r) (kn - 1+r):=by
 show (if r∈lawf L n st kn then _ else _)=_
 rw [if_pos h]
theorem ok_com {T1 T2 aF bF:Addr} (F:Fun K "code_of_moves" "code_of_moves" b1V f fd) (FS:Fst K mg aF bF) (GR:Fns P w K mg base ["prices","weights"] "refuse_many" a2P 5) (GL:Fns P w K mg base PLe "led_to" (b1z K) 5) (GO:Fns P w K mg base POp "opened" (spOp T1 T2) 5) (GW:Fns P w K mg base POw "in_own_order" (b1y T1 T2) 5) (ml:mg "len"=none) (mS:mg "sorted"=none):a1B P w K mg base CX0 6 f fd PCo (b1B T1 T2):=by
 refine F.ok (k:=5) a9G (fun vs H Q E h=>?_) (fun cdv A outer s H vs Q E hr h=>?_)
 ·obtain ⟨p,q,a,ps,ws,rs,rfl,_⟩:=h
  rfl
 obtain ⟨p,q,a,ps,ws,rs,rfl,hp,hq,ha,l60,p2,p6,w1,w7,bp,bw,tab,el0,qQ⟩:=h
 have w10:ws.length≤7:=by split at w7 <;> omega
 refine ⟨_,a0f (a1w (a0s GR.ok hr (by rfl) GR.m GR.kp GR.b .nil a0N (a0a (pv 0) (a0a (pv 1) a0e))))
   (a0f (a0u (i:=3) a9G.nd rfl (Or.inl rfl) (b0x (v:=.ref aF) (by rfl) FS.m rfl))
   (a0f (a0u (i:=4) a9G.nd rfl (Or.inl rfl) (a2a (a0a (a0Z (a0a (a0g) (a0a (a0Z (a0e)) (a0e)))) (a0e))))
   (a0f (a0u (i:=5) a9G.nd rfl (Or.inl rfl) (a2a a0e))
   (a0f (a1l PassesOwn.never rfl (a1G (pv 2)) (a0E (i:=6) a9G.nd rfl (Or.inl rfl))
    (a0f (a0u (i:=3) a9G.nd rfl (Or.inl rfl) (a0s GL.ok hr (by rfl) GL.m GL.kp GL.b .nil a0N (a0a (pv 0) (a0a (pv 1) (a0a (pv 3) (a0a (pv 6) a0e))))))
    (a0f (a0u (i:=4) a9G.nd rfl (Or.inl rfl) (a0j (a6O rfl (hu4 hr)) (by rfl) mS a0M (a0a (pv 4) a0e)))
    (a0f (a0u (i:=7) a9G.nd rfl (Or.inl rfl) (a0P a1L (a0P a1z (pv 4) a0g (fun _ _=>rfl)) a0g (fun _ _=>rfl)))
    (a0f (a4B (a0Y (a0o a2e (pv 6) a0g (nomark _)) (a0h (a1w (a4w PySem.F.plainAttrs_list PySem.F.slot_list_append PySem.F.type_list_append a0W (pv 5) (a0a (pv 7) a0e)))) a0B))
    (a0h (a0u (i:=4) a9G.nd rfl (Or.inl rfl) (a0r a9Y (a1e a2u (pv 4) (a1y a0g) a1x) (a0s GO.ok hr (by rfl) GO.m GO.kp GO.b .nil a0N (a0a (pv 0) (a0a (pv 7) (a0a (pv 6) a0e)))))))))))
   )
   (a0f (a0Y (a0o a7m (a0j a0i (by rfl) ml PySem.boot_len (a0a (pv 5) a0e)) (a0j a0i (by rfl) ml PySem.boot_len (a0a (pv 1) a0e)) (nomark _)) (a0h a6g) a0B)
   (a0h (a0x (a0s GW.ok hr (by rfl) GW.m GW.kp GW.b .nil a0N (a0a (pv 1) (a0a (pv 5) a0e)))))))))),?_⟩
 refine ⟨_,rfl,_,rfl,p,q,ps,ws,rfl,hp,hq,w7,?_⟩
 refine ⟨(by show 0≤sizeLine;decide),fun a1 ha1=>?_⟩
 have s1:=a0d ha1 (.tup [])
 have g1:upd H a1 (.tup []) a1=some (.tup []):=a0b
 generalize upd H a1 (.tup [])=H1 at s1 g1 ⊢
 refine ⟨(by show 2≤sizeLine;decide),fun a2 ha2=>?_⟩
 have s2:=a0d ha2 (.tup [.int 0,.ref a1])
 have g2:upd H1 a2 (.tup [.int 0,.ref a1]) a2=some (.tup [.int 0,.ref a1]):=a0b
 generalize upd H1 a2 (.tup [.int 0,.ref a1])=H2 at s2 g2 ⊢
 refine ⟨(by show 1≤sizeLine;decide),fun kA0 ha3=>?_⟩
 have s3:=a0d ha3 (.lst [.ref a2])
 have g3:upd H2 kA0 (.lst [.ref a2]) kA0=some (.lst [.ref a2]):=a0b
 generalize upd H2 kA0 (.lst [.ref a2])=H3 at s3 g3 ⊢
 refine ⟨(by show 0≤sizeLine;decide),fun wA ha4=>?_⟩
 have s4:=a0d ha4 (.lst [])
 have g4:upd H3 wA (.lst []) wA=some (.lst []):=a0b
 have s14:=((s1.trans s2).trans s3)
 have hwn:H wA=none:=s14.free ha4
 generalize upd H3 wA (.lst [])=H4 at s4 g4 ⊢
 have s0:a0v H H4:=s14.trans s4
 have k0:Kp T1 T2 H H4:=.of tab s0
 refine ⟨_,rfl,a,rfl,⟨_,SqL.of (s0 _ _ ha)⟩,?_⟩
 refine a1V (xs:=rs.map V.int) (fun i σ H'=>Kp T1 T2 H H'∧∃ (st:Int) (gs:List Int) (kq:List (Int × List Int)) (us:List (List Int)) (fr g kA:Addr) (xs ys:List V) (x6 x7:Option V),
   leads ps.length ws.length (rs.drop i) st gs.length=true∧Iv ws.length st gs.length∧Bw gs∧SqT K H' fr [.int st,.ref g]∧Gp K H' g gs∧H' kA=some (.lst xs)∧Paired (RPw H') xs kq∧kq.length=gs.length∧Rn ps ws rs (rs.drop i) st gs kq us∧(∀ z∈kq,Lt ps.length z.2∧z.2.length≤i)∧H' wA=some (.lst ys)∧Ws H' ys us∧(∀ v∈us,Lt ps.length v∧v.length≤i) ∧
   σ=[some (.ref p),some (.ref q),some (.ref a),some (.ref fr),some (.ref kA),some (.ref wA),x6,x7])
  ⟨k0,0,[0],[(0,[])],[],aF,bF,kA0,[.ref a2],[],_,_,el0,⟨by omega,by show (0:Int)≤1;omega,by show (0:Int)+1≤ws.length;omega,fun z=>by cases z⟩,fun x hx=>(by rw [List.mem_singleton.mp hx];unfold B30;omega),FS.a H4,.inr ⟨FS.b H4,by simp⟩,s4 _ _ g3,.cons ⟨a2,.ref a1,rfl,s4 _ _ (s3 _ _ g2),Wd.of (w:=[]) (s4 _ _ (s3 _ _ (s2 _ _ g1)))⟩ .nil,rfl,Rn.start ps ws rs,fun z hz=>(by rw [List.mem_singleton.mp hz];exact ⟨fun y hy=>(by cases hy),Nat.le_refl _⟩),g4,.nil,fun v hv=>(by cases hv),rfl⟩
  (fun i σ H' _ hP=>SqL.of (hP.1.lst ha)) (fun i x σ H5 hx hP=>?_) (fun σ H5 hP=>?_)
 ·obtain ⟨k5,st,gs,kq,us,fr,g,kA,xs,ys,x6,x7,el,iv,bg,hfr,hg,hkA,hkq,lkq,rn,wk,hwA,hus,wu,rfl⟩:=hP
  have pf:PF (kq.map Prod.snd):=(List.pairwise_append.mp rn.pf).2.1
  have lus:=rn.ln
  have il:=(List.getElem?_eq_some_iff.mp hx).1
  rw [List.length_map] at il
  rw [List.getElem?_map] at hx
  obtain ⟨nb,hnb,rfl⟩:=Option.map_eq_some_iff.mp hx
  have ed:rs.drop i=nb :: rs.drop (i+1):=by
   obtain ⟨hi,rfl⟩:=List.getElem?_eq_some_iff.mp hnb
   exact List.drop_eq_getElem_cons hi
  rw [ed] at el rn
  have hin:nb∈lawf ps.length ws.length st gs.length:=Classical.byContradiction fun z=>by rw [a6m z] at el;cases el
  have hs1:=iv.sk
  have hs0:=iv.s0
  have ak:Ask K H5 p q fr g ps ws gs st:=⟨k5.tup hp,k5.tup hq,hfr,hg,p2,p6,w7,iv.s0,by omega,fun z=>by omega,by omega,bw,bp,fun x hx=>⟨(bg x hx).1,by have:=(bg x hx).2;unfold B30 at *;omega⟩⟩
  refine ⟨_,rfl,_,rfl,_,rfl,_,rfl,p,q,fr,g,ps,ws,gs,st,nb,rfl,ak,?_,fun m hm em f2 g2' H6 s6 hf6 hg6=>?_⟩
  ·obtain ⟨r,hr',er⟩:=mv_ex iv hin
   exact ⟨fin ws r,List.mem_map_of_mem hr',by rw [a4R,er]⟩
  have emv:=b0q hm
  rw [em] at emv
  obtain ⟨r,hr',rfl⟩:=List.mem_map.mp hm
  rw [a4R] at em
  obtain ⟨_,e1,e2,xs2,e3,b3⟩:=mv_of p2 iv bg bp hr'
  rw [em] at e1 e2
  obtain ⟨iv2,kn1,nb0,nbL⟩:=iv.step hin
  rw [a8E,e1] at hf6
  have k6:=k5.then s6
  have lg2:((fin ws r).2.2.2.length:Int)=(gs.length:Int) - 1+nb:=by rw [a8F];exact e2
  have bg2:Bw (fin ws r).2.2.2:=b0p e3 b3
  have est:(mv ps ws st gs nb).2.2.1=nx st nb:=by rw [←emv,a8E,e1]
  have egs:(mv ps ws st gs nb).2.2.2=(fin ws r).2.2.2:=by rw [←emv]
  generalize (fin ws r).2.2.2=gs2 at hg6 lg2 bg2 egs
  have hkq6:=a5E (TK.of s6) hkq
  refine ⟨_,rfl,kA,xs,kq,rfl,s6 _ _ hkA,hkq6,by omega,a8H (PF.nd pf),fun kB H7 out kq2 s7 hn7 g7 w7' perm pw=>?_⟩
  have lk2:kq2.length=gs.length:=by rw [perm.length_eq,lkq]
  have pf2:PF (kq2.map Prod.snd):=PF.perm pf (perm.map _)
  have wk2:∀ z∈kq2,Lt ps.length z.2∧z.2.length≤i:=fun z hz=>wk z (perm.mem_iff.mp hz)
  cases kq2 with
  | nil=>rw [List.length_nil] at lk2;omega
  | cons cu kt =>
  obtain ⟨c,u⟩:=cu
  cases w7' with
  | cons h0 hT =>
  rename_i x0 xt
  obtain ⟨t,v,rfl,ht,hv⟩:=h0
  obtain ⟨wd,rfl,hwd⟩:=Wd.ti hv
  have k7:=k6.then s7
  have hwA7:=s7 _ _ (s6 _ _ hwA)
  have ne1:kB≠wA:=fun z=>by rw [z,s6 _ _ hwA] at hn7;cases hn7
  refine ⟨_,rfl,kB,_,_,_,rfl,rfl,SqL.of g7,(a2Y (i:=0) rfl:atI (V.ref t :: xt) 0=some (V.ref t)),t,_,_,_,rfl,rfl,SqT.of ht,(rfl:atI [V.int c,.ref wd] 1=some (V.ref wd)),?_⟩
  refine ⟨fun σ' H8=>Kp T1 T2 H H8∧TK H7 H8∧H8 kB=some (.lst (.ref t :: xt))∧(∃ ys',H8 wA=some (.lst ys')∧Ws H8 ys' (if nb=0 then us++[u] else us))∧σ'=[some (.ref p),some (.ref q),some (.ref a),some (.ref f2),some (.ref kB),some (.ref wA),some (.int nb),some (.ref wd)],?_,?_⟩
  ·refine ⟨_,rfl,rfl,_,rfl,?_⟩
   refine a2v (fun z=>?_) (fun z=>?_)
   ·have z1:nb=0:=V.int.inj (of_decide_eq_true z)
    refine ⟨_,rfl,.inl ⟨rfl,_,SqL.of hwA7⟩,_,rfl,wA,_,_,rfl,rfl,hwA7,a0m ?_,k7.upd hwn hwA7,TK.upd hwA7,by rw [a0n ne1];exact g7,⟨_,a0b,?_⟩,rfl⟩
    ·have:=hus.length;omega
    ·rw [if_pos z1]
     exact Paired.appendP (Ws.upd hwA7 (b1A ((TK.of s6).trans (TK.of s7)) hus)) (.cons (Wd.upd hwA7 (Wd.of hwd)) .nil)
   ·have z1:nb≠0:=fun y=>z (decide_eq_true (by rw [y]))
    refine ⟨k7,TK.of (a0v.refl _),g7,⟨ys,hwA7,?_⟩,rfl⟩
    rw [if_neg z1]
    exact b1A ((TK.of s6).trans (TK.of s7)) hus
  rintro σ' H8 ⟨k8,t8,g8,⟨ys',hwA8,hus8⟩,rfl⟩
  refine ⟨_,rfl,_,rfl,kB,_,rfl,SqL.of g8,fun e he=>?_⟩
  have ec:a4j (V.ref t :: xt) (some 1) none=xt:=a3N (V.ref t :: xt) 1
  rw [ec]
  have s9:=a0d he (.lst xt)
  have g9:upd H8 e (.lst xt) e=some (.lst xt):=a0b
  generalize upd H8 e (.lst xt)=H9 at s9 g9 ⊢
  have k9:=k8.then s9
  have t79:TK H7 H9:=t8.trans (TK.of s9)
  obtain ⟨m,rfl⟩:∃ m:Nat,nb=m:=⟨nb.toNat,by omega⟩
  have wu0:=wk2 (c,u) (.head _)
  refine ⟨_,rfl,_,rfl,_,rfl,p,wd,ps,u,m,rfl,k9.tup hp,t79 _ _ hwd,p6,by omega,wu0.1,by have:=wu0.2;show u.length≤100;have:u.length≤i:=wu0.2;omega,k9.tb,fun l pm zs HA kA' gA wA' pmP pmW=>?_⟩
  have ic:a4k ps pm:=⟨pmP,pmW⟩
  have lm:(pm.take m).length=m:=by rw [List.length_take,ic.len];omega
  have rn2:=rn.step bp iv hin lkq perm pw ic
  have tA:TK H7 HA:=t79.trans kA'.tk
  have lz:zs.length=m:=by rw [wA'.length,List.length_map,lm]
  have lt':xt.length=kt.length:=hT.length
  refine ⟨e,l,_,_,rfl,rfl,kA'.lst g9,gA,?_,fun kC hC=>?_⟩
  ·rw [lz,lt']
   have:kt.length+1=gs.length:=lk2
   exact Nat.le_of_lt (a0m (by omega))
  have sC:=a0d hC (.lst (xt++zs))
  have kC':=(k9.trans kA').then sC
  have tC:TK H7 (upd HA kC (.lst (xt++zs))):=tA.trans (TK.of sC)
  refine ⟨kC',nx st (m:Int),gs2,kt++opn ps u (pm.take m),_,f2,g2',kC,xt++zs,ys',_,_,?_,?_,bg2,SqT.of (tC _ _ (s7 _ _ hf6)),.inl (tC _ _ (s7 _ _ hg6)),a0b,?_,?_,?_,fun z hz=>?_,sC _ _ (kA'.lst (s9 _ _ hwA8)),b1A (((TK.of s9).trans kA'.tk).trans (TK.of sC)) hus8,fun v hv=>?_,rfl⟩
  ·rw [a3j hin] at el;rw [lg2];exact el
  ·rw [lg2];exact iv2
  ·exact Paired.appendP (a5E tC hT) (a5E (TK.of sC) wA')
  ·unfold opn
   rw [List.length_append,List.length_map,lm]
   have:kt.length+1=gs.length:=lk2
   omega
  ·rw [est,egs] at rn2
   exact rn2
  ·rcases List.mem_append.mp hz with z1 | z1
   ·have:=wk2 z (.tail _ z1)
    exact ⟨this.1,by omega⟩
   ·obtain ⟨b,hb,rfl⟩:=List.mem_map.mp z1
    refine ⟨fun y hy=>?_,?_⟩
    ·rcases List.mem_append.mp (show y∈u++[(b:Int)] from hy) with hy | hy
     ·exact wu0.1 y hy
     ·have:=ic.lt hb
      rw [List.mem_singleton.mp hy]
      omega
    ·show (u++[(b:Int)]).length≤i+1
     rw [List.length_append]
     have:u.length≤i:=wu0.2
     show u.length+1≤i+1
     omega
  ·by_cases z0:(m:Int)=0
   ·rw [if_pos z0] at hv
    rcases List.mem_append.mp hv with hv | hv
    ·exact ⟨(wu v hv).1,by have:=(wu v hv).2;omega⟩
    ·rw [List.mem_singleton.mp hv]
     exact ⟨wu0.1,by have:u.length≤i:=wu0.2;omega⟩
   ·rw [if_neg z0] at hv
    exact ⟨(wu v hv).1,by have:=(wu v hv).2;omega⟩
 ·obtain ⟨k5,st,gs,kq,us,fr,g,kA,xs,ys,x6,x7,el,iv,bg,hfr,hg,hkA,hkq,lkq,rn,wk,hwA,hus,wu,rfl⟩:=hP
  rw [List.length_map] at el rn wu
  rw [List.drop_length] at el rn
  have el:(gs.length:Int)=0:=of_decide_eq_true el
  have ly:ys.length=us.length:=hus.length
  have lus:=rn.ln
  obtain ⟨s0',k0',sk,e0⟩:=iv
  have est:=e0 el
  have g0:gs=[]:=List.length_eq_zero_iff.mp (by omega)
  have q0:kq=[]:=List.length_eq_zero_iff.mp (by omega)
  have lw:us.length=ws.length:=by omega
  subst q0
  refine ⟨_,rfl,wA,_,rfl,.inl (SqL.of hwA),_,rfl,q,_,rfl,.inr (SqT.of (k5.tup hq)),_,_,rfl,rfl,_,rfl,?_⟩
  rw [List.length_map,ly]
  rw [decide_eq_false (by omega)]
  refine a3I ⟨_,rfl,_,rfl,q,wA,ws,ys,us,rfl,k5.tup hq,hwA,hus,lw,w10,k5.tb,fun t zs H6 pl cw k6 g6 w6 ow=>qQ t zs us pl cw H6 (k5.trans k6) g6 w6 ow ⟨lw,?_,rn.up,(List.pairwise_append.mp rn.pf).1,?_,fun u hu=>⟨(wu u hu).1,by have:=(wu u hu).2;omega⟩⟩⟩
  ·rw [rn.sp]
   show _+(srt []).headD 0 * _+0=_
   rw [a2j.mpr rfl]
   show _+0 * _+0=_
   omega
  ·refine rn.wc.congr fun v=>?_
   show v∈us++[]↔_
   rw [List.append_nil]
end
theorem a9H {L n:Nat} {st kn:Int} (L2:2≤L) (iv:Iv n st kn) (h:lawf L n st kn=[]):kn=0:=by
 refine Classical.byContradiction fun z=>?_
 have k0:=iv.k0
 have sk:=iv.sk
 by_cases c:kn > 1∨(kn=1∧st=(n:Int) - 1)
 ·have:(0:Int)∈lawf L n st kn:=a1v.mpr (.inl ⟨rfl,c⟩)
  rw [h] at this
  cases this
 ·have:(2:Int)+((0:Nat):Int)∈lawf L n st kn:=a1v.mpr (.inr ⟨0,by omega,rfl,by omega,by omega⟩)
  rw [h] at this
  cases this
theorem low {L n:Nat} {st kn y i:Int} (iv:Iv n st kn) (hm:y∈lawf L n st kn) (h:kn=0∨i+(n - st)+(n - st - kn)≤2 * n - 1):i+1+(n - nx st y)+(n - nx st y - (kn - 1+y))≤2 * n - 1:=by
 obtain ⟨iv2,k1,y0,_⟩:=iv.step hm
 rcases a1v.mp hm with ⟨rfl,c⟩ | ⟨j,hj,rfl,c1,c2⟩
 ·have e:nx st 0=st+1:=by unfold nx;rw [if_pos rfl]
  rw [e]
  omega
 ·have e:nx st (2+(j:Int))=st:=by unfold nx;rw [if_neg (by omega)];omega
  rw [e]
  omega
theorem nx_eq (st y:Int):st+(if decide (V.int y=V.int 0)=true then (1:Int) else 0)=nx st y:=by
 unfold nx
 by_cases z:y=0
 ·rw [if_pos z,decide_eq_true (by rw [z]),if_pos rfl]
 ·rw [if_neg z,decide_eq_false (fun x=>z (V.int.inj x)),if_neg (by decide)]
section
variable {P:Program} {w:World} {K:PySem.W.Frag} {mg:Str→Option Value} {base:Heap} {f:Addr} {fd:FuncData}
abbrev NRo:List Str:=["letters","things","cell","row","settled","knots","number","some"]
abbrev PRo:List Str:=["letters","things","cell"]
def b1C:Sp:=fun vs H Q _=>∃ (L n:Nat) (c:Int),vs=[.int (L:Int),.int (n:Int),.int c]∧2≤L∧L≤100∧1≤n∧n≤7∧∀ (l:Addr) (ns:List Int) H',a0v H H'→H l=none→H' l=some (.lst (ns.map V.int))→ns.length≤16→leads L n ns 0 1=true→Q (.ref l) H'
theorem b0s:a0w NRo PRo (a0c a6W):=⟨rfl,rfl,rfl,by decide +kernel,rfl,by decide +kernel,by decide +kernel⟩
theorem ok_row (F:Fun K "_law_row" "_law_row" a6W f fd) (GD:Fns P w K mg base ["cell","many","size"] "_law_drawn" a5B 1) (GL:Fns P w K mg base PLf "_law_lawful" spLf 1) (ml:mg "len"=none) (mi:mg "int"=none):a1B P w K mg base CX0 2 f fd PRo b1C:=by
 refine F.ok (k:=1) b0s (fun vs H Q E h=>?_) (fun cdv A outer s H vs Q E hr h=>?_)
 ·obtain ⟨L,n,c,rfl,_⟩:=h
  rfl
 obtain ⟨L,n,c,rfl,L2',L100,n1,n7,q⟩:=h
 have L1:1≤L:=by omega
 refine ⟨_,a0f (a0u (i:=3) b0s.nd rfl (Or.inl rfl) (a2a a0e))
   (a0f (a0u (i:=4) b0s.nd rfl (Or.inl rfl) a0g)
   (a0f (a0u (i:=5) b0s.nd rfl (Or.inl rfl) a0g)
   (a0f (a1l PassesOwn.never rfl (a1G (a0s GD.ok hr (by rfl) GD.m GD.kp GD.b .nil a0N (a0a (pv 2) (a0a a0g (a0a a0g a0e))))) (a0E (i:=6) b0s.nd rfl (Or.inl rfl))
    (a0f (a0u (i:=7) b0s.nd rfl (Or.inl rfl) (a0s GL.ok hr (by rfl) GL.m GL.kp GL.b .nil a0N (a0a (pv 0) (a0a (pv 1) (a0a (pv 4) (a0a (pv 5) a0e))))))
    (a0h (a0Y (a0o (a5i (hu4 hr)) (pv 7) (a2a a0e) (nomark _))
     (a0f (a1w (a4w PySem.F.plainAttrs_list PySem.F.slot_list_append PySem.F.type_list_append a0W (pv 3) (a0a (a0P a1z (pv 7) (a0r a0U (pv 6) (a0j a0i (by rfl) ml PySem.boot_len (a0a (pv 7) a0e))) (fun _ _=>rfl)) a0e)))
     (a0f (a0u (i:=4) b0s.nd rfl (Or.inl rfl) (a0r a0R (pv 4) (a1m a7r (by rfl) mi b_int (a0a (a7o a2e (a0P a1z (pv 3) (b0A a7i a0g) (fun _ _=>rfl)) a0g (nomark _)) a0e))))
     (a0h (a0u (i:=5) b0s.nd rfl (Or.inl rfl) (a0r a0R (a0r a1Z (pv 5) a0g) (a0P a1z (pv 3) (b0A a7i a0g) (fun _ _=>rfl))))))) a0B))))
   (a0h (a0x (pv 3)))))),?_⟩
 refine ⟨(by show 0≤sizeLine;decide),fun d hd=>?_⟩
 have s1:=a0d hd (.lst [])
 have g1:upd H d (.lst []) d=some (.lst (([]:List Int).map V.int)):=a0b
 generalize upd H d (.lst [])=H1 at s1 g1 ⊢
 refine ⟨_,rfl,c,16,60,rfl,by omega,by omega,by omega,by unfold B30;omega,fun dr ds H2 s2 hdr g2 ln bn=>?_⟩
 have lds:ds.length=16:=by omega
 refine ⟨dr,rfl,⟨_,SqL.of g2⟩,?_⟩
 have s12:=s1.trans s2
 have dd:dr≠d:=fun z=>by rw [z,g1] at hdr;cases hdr
 refine a1V (xs:=ds.map V.int) (fun i σ H'=>a0v H H'∧H' dr=some (.lst (ds.map V.int))∧∃ (ns:List Int) (st kn:Int) (x6 x7:Option V),H' d=some (.lst (ns.map V.int))∧ns.length≤i∧(∀ tl,leads L n (ns++tl) 0 1=leads L n tl st kn)∧Iv n st kn∧(kn=0∨(i:Int)+(n - st)+(n - st - kn)≤2 * n - 1)∧σ=[some (.int (L:Int)),some (.int (n:Int)),some (.int c),some (.ref d),some (.int st),some (.int kn),x6,x7])
  ⟨s12,g2,[],0,1,_,_,s2 _ _ g1,Nat.le_refl _,fun tl=>rfl,⟨by omega,by omega,by omega,fun z=>(by cases z)⟩,.inr (by show (0:Int)+_+_≤_;omega),rfl⟩ (fun i σ H' _ hP=>SqL.of hP.2.1) (fun i x σ H3 hx hP=>?_) (fun σ H3 hP=>?_)
 ·obtain ⟨s3,gdr,ns,st,kn,x6,x7,g3,ln3,el,iv,lw,rfl⟩:=hP
  have il:=(List.getElem?_eq_some_iff.mp hx).1
  rw [List.length_map,lds] at il
  rw [List.getElem?_map] at hx
  obtain ⟨nb,hnb,rfl⟩:=Option.map_eq_some_iff.mp hx
  have b0:=(bn nb (List.mem_of_getElem? hnb)).1
  refine ⟨_,rfl,_,rfl,_,rfl,_,rfl,L,(n:Int),st,kn,rfl,L1,L100,fun e H4 s4 he g4=>?_⟩
  refine ⟨_,rfl,(by show 0≤sizeLine;decide),fun e2 he2=>?_⟩
  have s5:=a0d he2 (.lst [])
  have g5:upd H4 e2 (.lst []) e2=some (.lst (([]:List Int).map V.int)):=a0b
  generalize upd H4 e2 (.lst [])=H5 at s5 g5 ⊢
  have s35:=s4.trans s5
  have g4':=s5 _ _ g4
  generalize hla:lawf L n st kn=la at g4'
  refine ⟨e,e2,la,[],rfl,rfl,g4',g5,_,rfl,?_⟩
  refine a2v (fun z=>?_) (fun z=>?_)
  ·have ne:la≠[]:=fun y=>by
    rw [decide_eq_true y] at z
    cases z
   have pos:0 < la.length:=List.length_pos_iff.mpr ne
   have m0:=Int.emod_nonneg nb (show (la.length:Int)≠0 by omega)
   have m1:=Int.emod_lt_of_pos nb (show (0:Int) < (la.length:Int) by omega)
   obtain ⟨k,hk⟩:∃ k:Nat,nb % (la.length:Int)=k:=⟨(nb % (la.length:Int)).toNat,by omega⟩
   have hk1:k < la.length:=by omega
   have gd:=s35 _ _ g3
   have h0:=List.getElem?_eq_getElem hk1
   have hy:la[k]∈lawf L n st kn:=by rw [hla];exact List.getElem_mem hk1
   generalize la[k]=y at h0 hy
   refine ⟨_,rfl,.inl ⟨rfl,_,SqL.of gd⟩,_,rfl,_,rfl,_,rfl,e,_,rfl,.inl (SqL.of g4'),_,_,rfl,rfl,(by show (0:Int) < ((la.map V.int).length:Int);rw [List.length_map];omega),e,_,_,_,rfl,rfl,SqL.of g4',(by rw [List.length_map,hk];exact a2b h0),d,_,_,rfl,rfl,gd,a0m (by rw [List.length_map];omega),?_⟩
   have sM:a0v H (upd H5 d (.lst (ns.map V.int++[.int y]))):=a0q hd (s3.trans s35)
   have gM:upd H5 d (.lst (ns.map V.int++[.int y])) d=some (.lst (ns.map V.int++[.int y])):=a0b
   have gR:upd H5 d (.lst (ns.map V.int++[.int y])) dr=some (.lst (ds.map V.int)):=by rw [a0n dd];exact s35 _ _ gdr
   generalize upd H5 d (.lst (ns.map V.int++[.int y]))=HM at sM gM gR ⊢
   refine ⟨_,rfl,_,rfl,_,rfl,d,_,_,_,rfl,rfl,SqL.of gM,a5Q _ _,rfl,.inr ⟨_,rfl,_,_,rfl,rfl,?_⟩⟩
   refine ⟨_,rfl,_,_,rfl,rfl,_,rfl,_,rfl,d,_,_,_,rfl,rfl,SqL.of gM,a5Q _ _,_,_,rfl,rfl,sM,gR,ns++[y],nx st y,kn - 1+y,some (.int nb),some (.ref e),?_,?_,fun tl=>?_,(iv.step hy).1,.inr (by have:=low iv hy lw;push_cast;exact this),?_⟩
   ·rw [gM,List.map_append];rfl
   ·rw [List.length_append];show ns.length+1≤i+1;omega
   ·rw [List.append_assoc,el]
    exact a3j hy
   ·rw [←nx_eq];rfl
  ·have z1:la=[]:=Classical.byContradiction fun y=>z (by rw [decide_eq_false y];rfl)
   exact ⟨s3.trans s35,s35 _ _ gdr,ns,st,kn,_,_,s35 _ _ g3,by omega,el,iv,.inl (a9H L2' iv (hla.trans z1)),rfl⟩
 ·obtain ⟨s3,gdr,ns,st,kn,x6,x7,g3,ln3,el,iv,lw,rfl⟩:=hP
  rw [List.length_map,lds] at ln3
  have e:=el []
  rw [List.append_nil] at e
  refine ⟨_,rfl,q d ns H3 s3 hd g3 ln3 ?_⟩
  rw [e]
  refine decide_eq_true ?_
  rw [List.length_map,lds] at lw
  have sk:=iv.sk
  have k0:=iv.k0
  omega
abbrev NCs:List Str:=["code","one","other"]
def spCs:Sp:=fun vs H Q _=>∃ (c:Addr) (out:List V) (us:List (List Int)),vs=[.ref c]∧H c=some (.tup out)∧Ws H out us∧us.length≤100∧PF us∧∀ H',a0v H H'→Q (.bl false) H'
theorem scCs:a0w NCs ["code"] (a0c a1Y):=⟨rfl,rfl,rfl,by decide +kernel,rfl,by decide +kernel,by decide +kernel⟩
theorem a6Y (F:Fun K "_law_clashes" "_law_clashes" a1Y f fd) (ml:mg "len"=none) (mr:mg "range"=none):a1B P w K mg base CX0 1 f fd ["code"] spCs:=by
 refine F.ok (k:=0) scCs (fun vs H Q E h=>?_) (fun cdv A outer s H vs Q E hr h=>?_)
 ·obtain ⟨c,out,us,rfl,_⟩:=h
  rfl
 obtain ⟨c,out,us,rfl,hc,hW,l100,pf,q⟩:=h
 have lo:out.length=us.length:=hW.length
 refine ⟨_,a0f (a1l PassesOwn.never rfl (a1N (by rfl) mr (a0a (a0j a0i (by rfl) ml PySem.boot_len (a0a (pv 0) a0e)) a0e)) (a0E (i:=1) scCs.nd rfl (Or.inl rfl))
   (a0h (a1l PassesOwn.never rfl (a1N (by rfl) mr (a0a (a0j a0i (by rfl) ml PySem.boot_len (a0a (pv 0) a0e)) a0e)) (a0E (i:=2) scCs.nd rfl (Or.inl rfl))
    (a0h (a0Y (PW.pt (a5K (a0o a8S (pv 1) (pv 2) (nomark _)) (a3F (a0o (a7I (hu4 hr)) (a1e a5f (a0P a1L (pv 0) (pv 2) (fun _ _=>rfl)) a1x (a1y (a0j a0i (by rfl) ml PySem.boot_len (a0a (a0P a1L (pv 0) (pv 1) (fun _ _=>rfl)) a0e)))) (a0P a1L (pv 0) (pv 1) (fun _ _=>rfl)) (nomark _))))) (a0h (a0x a2G)) a0B)))))
   (a0h (a0x a2G)),?_⟩
 refine ⟨_,rfl,c,_,rfl,.inr (SqT.of hc),_,rfl,by omega,by omega,?_⟩
 refine a1A (fun i σ H'=>a0v H H'∧∃ x1 x2:Option V,σ=[some (.ref c),x1,x2]) ⟨a0v.refl _,_,_,rfl⟩ (fun i σ H1 hi hP=>?_) (fun σ H1 hP=>?_)
 ·obtain ⟨s1,x1,x2,rfl⟩:=hP
  have hi:i < us.length:=by omega
  have e0:(0:Int)+(i:Int)=((i:Nat):Int):=by omega
  rw [e0]
  have hu:us[i]?=some us[i]:=List.getElem?_eq_getElem hi
  obtain ⟨y,hy,ry⟩:=L2.Paired.left_of hW _ _ hu
  obtain ⟨ua,rfl,hua⟩:=Wd.ti ry
  refine ⟨_,rfl,c,_,rfl,.inr (SqT.of (s1 _ _ hc)),_,rfl,by omega,by omega,?_⟩
  refine a1A (fun j σ H'=>a0v H H'∧∃ x2:Option V,σ=[some (.ref c),some (.int (i:Int)),x2]) ⟨s1,_,rfl⟩ (fun j σ H2 hj hP=>?_) (fun σ H2 hP=>?_)
  ·obtain ⟨s2,x2,rfl⟩:=hP
   have hj:j < us.length:=by omega
   have e1:(0:Int)+(j:Int)=((j:Nat):Int):=by omega
   rw [e1]
   have hv:us[j]?=some us[j]:=List.getElem?_eq_getElem hj
   obtain ⟨z,hz,rz⟩:=L2.Paired.left_of hW _ _ hv
   obtain ⟨va,rfl,hva⟩:=Wd.ti rz
   refine ⟨_,rfl,_,rfl,rfl,_,rfl,?_⟩
   by_cases ij:i=j
   ·rw [decide_eq_true (by rw [ij])]
    exact a3I (a3I ⟨s2,_,rfl⟩)
   ·rw [decide_eq_false (fun x=>ij (by have:=V.int.inj x;omega))]
    refine iteT ?_
    have hc2:=s2 _ _ hc
    refine ⟨_,rfl,_,rfl,c,_,_,_,rfl,rfl,SqT.of hc2,a2Y hz,_,rfl,_,rfl,c,_,_,_,rfl,rfl,SqT.of hc2,a2Y hy,ua,_,rfl,.inr (SqT.of (s2 _ _ hua)),_,rfl,va,_,rfl,s2 _ _ hva,fun p3 H3 s3 hp3=>?_⟩
    rw [List.length_map,a3t,←List.map_take] at hp3
    have s23:=s2.trans s3
    refine ⟨_,rfl,_,rfl,c,_,_,_,rfl,rfl,SqT.of (s23 _ _ hc),a2Y hy,_,_,a1n hp3,a1n (s23 _ _ hua),_,rfl,?_⟩
    rw [decide_eq_false]
    ·exact a3I ⟨s23,_,rfl⟩
    ·intro e
     exact (PF.ne pf hu hv ij).1 (by rw [←e];exact List.take_prefix _ _)
  ·obtain ⟨s2,x2,rfl⟩:=hP
   exact ⟨s2,_,_,rfl⟩
 ·obtain ⟨s1,x1,x2,rfl⟩:=hP
  exact q H1 s1
abbrev NCr:List Str:=["code","letters","things","word","letter"]
def spCr:Sp:=fun vs H Q _=>∃ (c:Addr) (out:List V) (us:List (List Int)) (L th:Nat),vs=[.ref c,.int (L:Int),.int (th:Int)]∧H c=some (.tup out)∧Ws H out us∧us.length=th∧th≤60∧PF us∧(∀ u∈us,Lt L u)∧∀ H',a0v H H'→Q (.bl true) H'
theorem scCr:a0w NCr ["code","letters","things"] (a0c a3B):=⟨rfl,rfl,rfl,by decide +kernel,rfl,by decide +kernel,by decide +kernel⟩
theorem ok_cr (F:Fun K "_law_code_right" "_law_code_right" a3B f fd) (GH:Fns P w K mg base ["found"] "_law_whole" a5z 1) (GC:Fns P w K mg base ["code"] "_law_clashes" spCs 1) (ml:mg "len"=none) (mi:mg "isinstance"=none) (mt:mg "tuple"=none):a1B P w K mg base CX0 2 f fd ["code","letters","things"] spCr:=by
 refine F.ok (k:=1) scCr (fun vs H Q E h=>?_) (fun cdv A outer s H vs Q E hr h=>?_)
 ·obtain ⟨c,out,us,L,th,rfl,_⟩:=h
  rfl
 obtain ⟨c,out,us,L,th,rfl,hc,hW,lu,t60,pf,ok,q⟩:=h
 have lo:out.length=th:=by rw [hW.length,lu]
 refine ⟨_,a0f (a0Y (PW.pt (a4m (a2U (a2S (a0j a2K (by rfl) mi a9b (a0a (pv 0) (a0a (a3E (v:=.ty "tuple") (by rfl) mt a2f rfl) (a0e)))))) (a2T (a0o a8S (a0j a0i (by rfl) ml PySem.boot_len (a0a (pv 0) (a0e))) (pv 2) (nomark _))))) (a0h (a0x a2G)) (a0B))
   (a0f (a1l PassesOwn.never rfl (a5L (pv 0)) (a0E (i:=3) scCr.nd rfl (Or.inl rfl))
    (a0f (a0Y (a2U (a2S (a0j a2K (by rfl) mi a9b (a0a (pv 3) (a0a (a3E (v:=.ty "tuple") (by rfl) mt a2f rfl) (a0e)))))) (a0h (a0x a2G)) (a0B))
    (a0h (a1l PassesOwn.never rfl (a5L (pv 3)) (a0E (i:=4) scCr.nd rfl (Or.inl rfl)) (a0h (a0Y (PW.pt (a4m (a2U (a2S (a0s GH.ok hr (by rfl) GH.m GH.kp GH.b .nil a0N (a0a (pv 4) (a0e))))) (a4m (a0o a7m (pv 4) (a0g) (nomark _)) (a2T (a0o op_ge (pv 4) (pv 1) (nomark _)))))) (a0h (a0x a2G)) (a0B)))))))
   (a0h (a0x (a9U (a0s GC.ok hr (by rfl) GC.m GC.kp GC.b .nil a0N (a0a (pv 0) a0e)))))),?_⟩
 refine ⟨_,rfl,_,_,_,_,rfl,.tup hc,a1P _,_,rfl,a3I ?_⟩
 have en:V.int (out.length:Int)=V.int (th:Int):=by rw [lo]
 refine ⟨_,rfl,c,_,rfl,.inr (SqT.of hc),_,rfl,rfl,_,rfl,?_⟩
 rw [decide_eq_true en]
 refine a3I ?_
 refine ⟨_,rfl,c,rfl,⟨_,SqT.of hc⟩,?_⟩
 refine a5a (xs:=out) (fun i σ H'=>H'=H∧∃ x3 x4:Option V,σ=[some (.ref c),some (.int (L:Int)),some (.int (th:Int)),x3,x4]) ⟨rfl,_,_,rfl⟩ (fun i σ H' _ hP=>by rw [hP.1];exact SqT.of hc) (fun i y σ H1 hy hP=>?_) (fun σ H1 hP=>?_)
 ·obtain ⟨rfl,x3,x4,rfl⟩:=hP
  obtain ⟨u,hu,ry⟩:=Paired.right_of hW i y hy
  obtain ⟨ua,rfl,hua⟩:=Wd.ti ry
  have ux:=ok u (List.mem_of_getElem? hu)
  refine ⟨_,rfl,_,_,_,_,rfl,.tup hua,a1P _,_,rfl,a3I ?_⟩
  refine ⟨_,rfl,ua,rfl,⟨_,SqT.of hua⟩,?_⟩
  refine a5a (xs:=u.map V.int) (fun j σ H'=>H'=H1∧∃ x4:Option V,σ=[some (.ref c),some (.int (L:Int)),some (.int (th:Int)),some (.ref ua),x4]) ⟨rfl,_,rfl⟩ (fun j σ H' _ hP=>by rw [hP.1];exact SqT.of hua) (fun j y σ H8 hy8 hP=>?_) (fun σ H8 hP=>?_)
  ·obtain ⟨rfl,x4,rfl⟩:=hP
   rw [List.getElem?_map] at hy8
   obtain ⟨z,hz,rfl⟩:=Option.map_eq_some_iff.mp hy8
   have hz2:=ux z (List.mem_of_getElem? hz)
   refine ⟨_,rfl,_,rfl,_,rfl,a3I ?_⟩
   refine ⟨_,rfl,_,_,rfl,rfl,_,rfl,a2v (fun c=>absurd (of_decide_eq_true c) (by omega)) (fun _=>?_)⟩
   refine ⟨_,rfl,_,rfl,_,_,rfl,rfl,_,rfl,a2v (fun c=>absurd (of_decide_eq_true c) (by omega)) (fun _=>?_)⟩
   exact ⟨rfl,_,rfl⟩
  ·obtain ⟨rfl,x4,rfl⟩:=hP
   exact ⟨rfl,_,_,rfl⟩
 ·obtain ⟨rfl,x3,x4,rfl⟩:=hP
  exact ⟨_,rfl,c,out,us,rfl,hc,hW,by omega,pf,fun H2 s2=>⟨_,rfl,q H2 s2⟩⟩
end
theorem pc_bd {ps:List Int} (hp:∀ x∈ps,0≤x∧x≤B30):∀ ns:List Int,0≤pc ps ns∧pc ps ns≤(ns.length:Int) * B30
 | []=>⟨by show (0:Int)≤0;decide,by show (0:Int)≤0 * B30;decide⟩
 | n :: ns=>by
  obtain ⟨h1,h2⟩:=pc_bd hp ns
  have e:pc ps (n :: ns)=ps.getD n.toNat 0+pc ps ns:=by unfold pc;simp
  have b:0≤ps.getD n.toNat 0∧ps.getD n.toNat 0≤B30:=by
   rw [List.getD_eq_getElem?_getD]
   cases hz:ps[n.toNat]? with
   | none=>exact ⟨by decide,by decide⟩
   | some z=>exact hp z (List.mem_of_getElem? hz)
  rw [e]
  have e2:((n :: ns).length:Int) * B30=(ns.length:Int) * B30+B30:=by
   rw [List.length_cons]
   push_cast
   rw [Int.add_mul]
   simp
  omega
section
variable {P:Program} {w:World} {K:PySem.W.Frag} {mg:Str→Option Value} {base:Heap} {f:Addr} {fd:FuncData}
def a4g:Sp:=fun vs H Q _=>∃ (x y:V) (ps ns:List Int),vs=[x,y]∧Wd H x ps∧Wd H y ns∧Lt ps.length ns∧ns.length≤1000∧∀ H',a0v H H'→Q (.int (pc ps ns)) H'
theorem b1D:a0w ["prices","word"] ["prices","word"] (a0c a2i):=⟨rfl,rfl,rfl,by decide +kernel,rfl,by decide +kernel,by decide +kernel⟩
theorem ndPl:(("letter":Str) :: ["prices","word"]).Nodup:=by decide +kernel
theorem a9I (F:Fun K "_law_price" "_law_price" a2i f fd) (ms:mg "sum"=none):a1B P w K mg base CX0 1 f fd ["prices","word"] a4g:=by
 refine F.ok (k:=0) b1D (fun vs H Q E h=>?_) (fun cdv A outer s H vs Q E hr h=>?_)
 ·obtain ⟨x,y,ps,ns,rfl,_⟩:=h
  rfl
 obtain ⟨x,y,ps,ns,rfl,hx,hy,hn,hl,q1⟩:=h
 obtain ⟨p,rfl,hp⟩:=hx.ti
 obtain ⟨a,rfl,ha⟩:=hy.ti
 refine ⟨_,a0h (a0x (a0j (a2L rfl) (by rfl) ms a9c (a0a (a3M (M:=["prices","word"]) rfl (a0l.of (a0c a2i) ["prices","word"] rfl rfl rfl (by decide +kernel) (by decide +kernel) (by decide +kernel) rfl (by decide +kernel)) ndPl rfl (pv 1) a1o
   (fun cl C s0 H0 fp=>⟨a0Q,a0P (ixT K) (pv 1) (pv 0) (fun _ _=>rfl)⟩)) a0e))),?_⟩
 refine ⟨_,rfl,a,_,rfl,SqT.of ha,fun d hd=>?_⟩
 refine ⟨fun k H'=>a0v H H'∧H' d=some (.lst (((ns.take k).map fun x=>ps.getD x.toNat 0).map V.int)),⟨a0d hd _,a0b⟩,fun k H' _ hP=>SqT.of (hP.1 _ _ ha),fun k x H' hx hP=>?_,fun H' hP=>?_⟩
 ·obtain ⟨sm,hd'⟩:=hP
  rw [List.getElem?_map] at hx
  cases hz:ns[k]? with
  | none=>rw [hz] at hx;cases hx
  | some z =>
   rw [hz] at hx;cases hx
   have hk:=(List.getElem?_eq_some_iff.mp hz).1
   obtain ⟨z0,z1⟩:=hn z (List.mem_of_getElem? hz)
   obtain ⟨n,rfl⟩:∃ n:Nat,z=n:=⟨z.toNat,by omega⟩
   have hn':n < ps.length:=by omega
   refine a0O ⟨_,rfl,_,rfl,p,_,_,_,rfl,rfl,SqT.of (sm _ _ hp),a2b (List.getElem?_eq_getElem hn'),_,hd',?_,a0q hd sm,?_⟩
   ·rw [List.length_map,List.length_map,List.length_take];exact a0m (by omega)
   ·rw [a0b,List.take_add_one,hz,List.map_append,List.map_append]
    simp [List.getD_eq_getElem?_getD,List.getElem?_eq_getElem hn']
 ·obtain ⟨sm,hd'⟩:=hP
  rw [List.length_map,List.take_length] at hd'
  exact ⟨d,_,rfl,hd',q1 H' sm⟩
abbrev NC:List Str:=["prices","weights","code"]
def coZ (ps ws:List Int) (c:List (List Int)):Int:=(List.zipWith (fun x ns=>x * pc ps ns) ws c).sum
def a8J:Sp:=fun vs H Q _=>∃ (p wa:Addr) (ps ws:List Int) (x:V) (c:List (List Int)),vs=[.ref p,.ref wa,x]∧TW H p ps∧TW H wa ws∧(∃ (a:Addr) (zs:List V),x=.ref a∧H a=some (.tup zs)∧Ws H zs c)∧c.length=ws.length∧c.length≤100∧(∀ u∈c,Lt ps.length u∧u.length≤1000)∧Bw ps∧Bw ws∧∀ H',a0v H H'→Q (.int (coZ ps ws c)) H'
theorem scCost:a0w NC NC (a0c b1m):=⟨rfl,rfl,rfl,by decide +kernel,rfl,by decide +kernel,by decide +kernel⟩
theorem ndC:(("weight":Str) :: "word" :: NC).Nodup:=by decide +kernel
theorem zip_at {ps ws:List Int} {nss:List (List Int)} {i:Nat} {x:Int} {ns:List Int} (h1:ws[i]?=some x) (h2:nss[i]?=some ns):(List.zipWith (fun x ns=>x * pc ps ns) ws nss)[i]?=some (x * pc ps ns):=by
 rw [List.getElem?_zipWith,h1,h2]
theorem b1E (F:Fun K "_law_due_cost" "_law_due_cost" b1m f fd) (G:Fns P w K mg base ["prices","word"] "_law_price" a4g 1) (ms:mg "sum"=none) (mz:mg "zip"=none):a1B P w K mg base CX0 2 f fd NC a8J:=by
 refine F.ok (k:=1) scCost (fun vs H Q E h=>?_) (fun cdv A outer s H vs Q E hr h=>?_)
 ·obtain ⟨p,wa,ps,ws,x,c,rfl,_⟩:=h
  rfl
 obtain ⟨p,wa,ps,ws,x,nss,rfl,hp,hw,hc,el,l1,l2,bp,bw,q⟩:=h
 obtain ⟨c,xs,rfl,hc,hx⟩:=hc
 have lx:xs.length=nss.length:=hx.length
 refine ⟨_,a0h (a0x (a0j (a2L rfl) (by rfl) ms a9c (a0a (a9i K true true (M:=NC) rfl (a0l.of (a0c b1m) NC rfl rfl rfl (by decide +kernel) (by decide +kernel) (by decide +kernel) rfl (by decide +kernel)) ndC rfl rfl (by rfl) mz (a0a (pv 1) (a0a (pv 2) a0e)) (a1H a1o (a1H a1o a2D))
   (fun cl C s0 H0 fp pins σ bk=>⟨a0Q,a0r a7P (pv 0) (a0s G.ok hr (by rfl) G.m G.kp G.b .nil a0N (a0a (pv 2) (a0a (pv 1) a0e)))⟩)) a0e))),?_⟩
 refine ⟨_,rfl,_,rfl,wa,c,_,_,rfl,SqT.of hw,SqT.of hc,by rw [List.length_map];omega,fun d hd=>?_⟩
 refine ⟨fun i H'=>a0v H H'∧H' d=some (.lst (((List.zipWith (fun x ns=>x * pc ps ns) ws nss).take i).map V.int)),⟨a0d hd _,a0b⟩,
  fun i H' _ hP=>⟨SqT.of (hP.1 _ _ hw),SqT.of (hP.1 _ _ hc)⟩,fun i x y pp H' hx' hy' hP hpp=>?_,fun H' hP=>?_⟩
 ·obtain ⟨sm,hd'⟩:=hP
  rw [List.getElem?_map] at hx'
  cases hz:ws[i]? with
  | none=>rw [hz] at hx';cases hx'
  | some wt =>
  rw [hz] at hx';cases hx'
  obtain ⟨ns,hn,ry⟩:=Paired.right_of hx i y hy'
  have iw:=(List.getElem?_eq_some_iff.mp hz).1
  have s2:=a0d hpp (.tup [.int wt,y])
  obtain ⟨lt,l3⟩:=l2 ns (List.mem_of_getElem? hn)
  refine a7Q ⟨_,rfl,_,rfl,_,rfl,.ref p,y,ps,ns,rfl,Wd.of (s2 _ _ (sm _ _ hp)),Wd.same (sm.trans s2) ry,lt,l3,fun H3 s3=>?_⟩
  obtain ⟨b1,b2⟩:=pc_bd bp ns
  obtain ⟨b3,b4⟩:=bw wt (List.mem_of_getElem? hz)
  have b5:(ns.length:Int)≤1000:=by omega
  have b6:(ns.length:Int) * B30≤1000 * B30:=Int.mul_le_mul_of_nonneg_right b5 (by decide)
  refine ⟨_,_,rfl,rfl,⟨⟨b3,by unfold B30 at *;omega⟩,⟨b1,by unfold B30 at *;omega⟩⟩,_,s3 _ _ (s2 _ _ hd'),?_,a0q hd ((sm.trans s2).trans s3),?_⟩
  ·rw [List.length_map,List.length_take,List.length_zipWith];exact a0m (by omega)
  ·rw [a0b,List.take_add_one,zip_at hz hn,List.map_append];rfl
 ·obtain ⟨sm,hd'⟩:=hP
  rw [List.length_map] at hd'
  rw [List.take_of_length_le (by rw [List.length_zipWith];omega)] at hd'
  exact ⟨d,_,rfl,hd',q H' sm⟩
end
theorem b1F {X:Cx} (hu:X.A.units+4 < cLine):OpR X (compareOp .NotEq) rNePw:=by
 intro pins s σ H x y v u Q I rx ry h
 obtain ⟨a,b,h1,h2,k⟩:=h
 obtain ⟨t,z,rfl,e1,w1⟩:=h1
 obtain ⟨t',z',rfl,e2,w2⟩:=h2
 cases rx;cases ry
 obtain ⟨_,its,v1,t1⟩:=a1b (show a0A X.prog X.w H s.heap t (.tup [.int a.1,z]) from I.hok t _ e1)
 obtain ⟨_,its2,v2,t2⟩:=a1b (show a0A X.prog X.w H s.heap t' (.tup [.int b.1,z']) from I.hok t' _ e2)
 obtain ⟨i1,i2,rfl,q1,q2⟩:=v1.two
 obtain ⟨j1,j2,rfl,q3,q4⟩:=v2.two
 obtain ⟨k1,rfl⟩:=q1
 obtain ⟨k2,rfl⟩:=q3
 have KW:=EqK.tup (n:=0) (EqK.int (H:=H) (s:=s)) I.hok
 have q:=SeqAt.RcNeAt.tuples (A:=X.A) (s:=s) (e:=fun j=>if j=0 then decide (a.1=b.1) else decide (a.2=b.2)) t1 t2 (by omega) (fun j h1 h2=>by
  match j,h1,h2 with
  | 0,_,_ =>
   have g:=SeqAt.EqAt.int_int (A:=X.A.in1) (s:=s) a.1 k1 b.1 k2
   rw [Bool.beq_eq_decide_eq] at g
   exact g
  | 1,_,_=>exact KW.eq X.A.in1 _ _ _ _ _ _ (by show X.A.units+1+1 < cLine;omega) w1 w2 q2 q4
  | j+2,h,_=>exact absurd h (by show ¬ j+2 < 2;omega))
 have e:((List.range (min [Value.int a.1 k1,i2].toArray.size [Value.int b.1 k2,j2].toArray.size)).all (fun j=>if j=0 then decide (a.1=b.1) else decide (a.2=b.2)) && [Value.int a.1 k1,i2].toArray.size == [Value.int b.1 k2,j2].toArray.size)=decide (a=b):=by
  show ((List.range 2).all (fun j=>if j=0 then decide (a.1=b.1) else decide (a.2=b.2)) && true)=decide (a=b)
  obtain ⟨a1,a2⟩:=a
  obtain ⟨b1,b2⟩:=b
  by_cases z1:a1=b1 <;> by_cases z2:a2=b2 <;> simp [List.range,List.range.loop,z1,z2]
 rw [e] at q
 exact q _ _ _ _ ⟨.bl _,H,I,rfl,k⟩
section
variable {P:Program} {w:World} {K:PySem.W.Frag} {mg:Str→Option Value} {base:Heap} {f:Addr} {fd:FuncData}
abbrev NSn:List Str:=["prices","weights","row","frontier","total","number","fitting"]
def spSn (K:PySem.W.Frag):Sp:=fun vs H Q _=>∃ (p q a:Addr) (ps ws rs:List Int),vs=[.ref p,.ref q,.ref a]∧TW H p ps∧TW H q ws∧H a=some (.lst (rs.map V.int))∧rs.length≤60∧2≤ps.length∧ps.length≤6∧1≤ws.length∧(ws.length:Int)≤(if ps.length=2 then 7 else 6)∧Bw ps∧Bw ws∧leads ps.length ws.length rs 0 1=true∧∀ H',a0v H H'→Q (.int (spR ps ws rs 0 [0])) H'
theorem b1G:a0w NSn PCo (a0c a3g):=⟨rfl,rfl,rfl,by decide +kernel,rfl,by decide +kernel,by decide +kernel⟩
theorem ndSn:(("move":Str) :: NSn).Nodup:=by decide +kernel
theorem a9J (F:Fun K "_law_spent" "_law_spent" a3g f fd) (GM:Fns P w K mg base ["prices","weights","frontier"] "moves" (a4d K) 3) (ml:mg "len"=none):a1B P w K mg base CX0 4 f fd PCo (spSn K):=by
 refine F.ok (k:=3) b1G (fun vs H Q E h=>?_) (fun cdv A outer s H vs Q E hr h=>?_)
 ·obtain ⟨p,q,a,ps,ws,rs,rfl,_⟩:=h
  rfl
 obtain ⟨p,q,a,ps,ws,rs,rfl,hp,hq,ha,l60,p2,p6,w1,w7,bp,bw,el0,qq⟩:=h
 have w10:ws.length≤7:=by split at w7 <;> omega
 refine ⟨_,a0f (a0u (i:=3) b1G.nd rfl (Or.inl rfl) (a0Z (a0a a0g (a0a (a0Z (a0a a0g a0e)) a0e))))
   (a0f (a0u (i:=4) b1G.nd rfl (Or.inl rfl) a0g)
   (a0f (a1l PassesOwn.never rfl (a1G (pv 2)) (a0E (i:=5) b1G.nd rfl (Or.inr rfl))
    (a0f (a2N (i:=6) (M:=NSn) b1G.nd rfl rfl rfl (a0l.of (a0c a3g) NSn rfl rfl rfl (by decide +kernel) (by decide +kernel) (by decide +kernel) rfl (by decide +kernel)) ndSn rfl (a5S (a0s GM.ok hr (by rfl) GM.m GM.kp GM.b .nil a0N (a0a (pv 0) (a0a (pv 1) (a0a (pv 3) a0e))))) a5T (fun cl C s0 H0 fp=>⟨a7F (a0o a2e (a0P (ixT K) (pv 0) a0g (fun _ _=>rfl)) (pv 6) (nomark _)),pv 0⟩))
    (a0f (a0Y (a0o a8S (a0j a0i (by rfl) ml PySem.boot_len (a0a (pv 6) a0e)) a0g (nomark _)) (a0h (a0x a9T)) a0B)
    (a0f (a0u (i:=4) b1G.nd rfl (Or.inl rfl) (a0r a0R (pv 4) (a0P a1L (a0P a1z (pv 6) a0g (fun _ _=>rfl)) a0g (fun _ _=>rfl))))
    (a0h (a0u (i:=3) b1G.nd rfl (Or.inl rfl) (a0P a1L (a0P a1z (pv 6) a0g (fun _ _=>rfl)) a0g (fun _ _=>rfl))))))))
   (a0f (a0Y (a0o (b1F (hu4 hr)) (pv 3) (a0Z (a0a (a0j a0i (by rfl) ml PySem.boot_len (a0a (pv 1) a0e)) (a0a (a0Z a0e) a0e))) (nomark _)) (a0h (a0x a9T)) a0B)
   (a0h (a0x (pv 4)))))),?_⟩
 refine ⟨(by show 1≤sizeLine;decide),fun a1 ha1=>?_⟩
 have s1:=a0d ha1 (.tup [.int 0])
 have g1:upd H a1 (.tup [.int 0]) a1=some (.tup (([0]:List Int).map V.int)):=a0b
 generalize upd H a1 (.tup [.int 0])=H1 at s1 g1 ⊢
 refine ⟨(by show 2≤sizeLine;decide),fun a2 ha2=>?_⟩
 have s2:=a0d ha2 (.tup [.int 0,.ref a1])
 have g2:upd H1 a2 (.tup [.int 0,.ref a1]) a2=some (.tup [.int 0,.ref a1]):=a0b
 generalize upd H1 a2 (.tup [.int 0,.ref a1])=H2 at s2 g2 ⊢
 have s12:=s1.trans s2
 refine ⟨_,rfl,a,rfl,⟨_,SqL.of (s12 _ _ ha)⟩,?_⟩
 refine a1V (xs:=rs.map V.int) (fun i σ H'=>a0v H H'∧∃ (st tot:Int) (gs:List Int) (fr g:Addr) (x5 x6:Option V),
   leads ps.length ws.length (rs.drop i) st gs.length=true∧Iv ws.length st gs.length∧Bw gs∧H' fr=some (.tup [.int st,.ref g])∧TW H' g gs∧spR ps ws rs 0 [0]=tot+spR ps ws (rs.drop i) st gs ∧
   σ=[some (.ref p),some (.ref q),some (.ref a),some (.ref fr),some (.int tot),x5,x6])
  ⟨s12,0,0,[0],a2,a1,_,_,el0,⟨by omega,by show (0:Int)≤1;omega,by show (0:Int)+1≤ws.length;omega,fun z=>by cases z⟩,fun x hx=>(by rw [List.mem_singleton.mp hx];unfold B30;omega),g2,s2 _ _ g1,by rw [List.drop_zero];omega,rfl⟩
  (fun i σ H' _ hP=>SqL.of (hP.1 _ _ ha)) (fun i x σ H5 hx hP=>?_) (fun σ H5 hP=>?_)
 ·obtain ⟨s5,st,tot,gs,fr,g,x5,x6,el,iv,bg,hfr,hg,esp,rfl⟩:=hP
  have il:=(List.getElem?_eq_some_iff.mp hx).1
  rw [List.length_map] at il
  rw [List.getElem?_map] at hx
  obtain ⟨nb,hnb,rfl⟩:=Option.map_eq_some_iff.mp hx
  have ed:rs.drop i=nb :: rs.drop (i+1):=by
   obtain ⟨hi,rfl⟩:=List.getElem?_eq_some_iff.mp hnb
   exact List.drop_eq_getElem_cons hi
  rw [ed] at el esp
  have hin:nb∈lawf ps.length ws.length st gs.length:=Classical.byContradiction fun z=>by rw [a6m z] at el;cases el
  rw [a3j hin] at el
  have hs1:=iv.sk
  have hs0:=iv.s0
  obtain ⟨iv2,kn1,nb0,nbL⟩:=iv.step hin
  have ak:Ask K H5 p q fr g ps ws gs st:=⟨s5 _ _ hp,s5 _ _ hq,SqT.of hfr,.inl hg,p2,p6,w7,iv.s0,by omega,fun z=>by omega,by omega,bw,bp,fun x hx=>⟨(bg x hx).1,by have:=(bg x hx).2;unfold B30 at *;omega⟩⟩
  refine ⟨fun vv H6=>∃ (l:Addr) (xs:List V),vv=.ref l∧a0v H5 H6∧H6 l=some (.lst xs)∧Mvs H6 xs (mvs ps ws st gs),?_,fun vv H6 hv=>?_⟩
  ·exact ⟨_,rfl,_,rfl,_,rfl,p,q,fr,g,ps,ws,gs,st,rfl,ak,fun l H6 xs s6 hl g6 m6=>⟨l,xs,rfl,s6,g6,m6⟩⟩
  obtain ⟨l,xs,rfl,s6,g6,m6⟩:=hv
  refine ⟨l,xs,rfl,SqL.of g6,fun d hd=>?_⟩
  have lx:xs.length≤6:=by
   rw [m6.length]
   unfold mvs
   rw [List.length_map]
   have:=a5A ps ws st gs (ps.length - 1)
   omega
  refine ⟨fun k H'=>a0v H6 H'∧∃ ys,H' d=some (.lst ys)∧ys.length≤k∧Mvs H' ys (((mvs ps ws st gs).take k).filter fun m=>decide (m.1=nb)),⟨a0d hd _,[],a0b,Nat.le_refl _,.nil⟩,fun k H' _ hP=>SqL.of (hP.1 _ _ g6),fun k y H' hy hP=>?_,fun H7 hP=>?_⟩
  ·obtain ⟨s7,ys,g7,ly,m7⟩:=hP
   have kl:=(List.getElem?_eq_some_iff.mp hy).1
   obtain ⟨m,hm,mv0⟩:=Paired.right_of m6 k y hy
   have mv7:=a5u.same s7 mv0
   obtain ⟨ma,x1,x2,x3,rfl,ea,rfl,rfl,h3⟩:=id mv7
   refine ⟨_,rfl,ma,_,_,_,rfl,rfl,SqT.of ea,rfl,_,rfl,rfl,_,rfl,?_⟩
   have et:((mvs ps ws st gs).take (k+1)).filter (fun m=>decide (m.1=nb))=((mvs ps ws st gs).take k).filter (fun m=>decide (m.1=nb))++[m].filter fun m=>decide (m.1=nb):=by rw [List.take_add_one,hm,List.filter_append];rfl
   refine a2v (fun c=>?_) (fun c=>?_)
   ·have c1:m.1=nb:=V.int.inj (of_decide_eq_true c)
    refine ⟨_,rfl,ys,g7,a0m (by omega),a0q hd s7,_,a0b,by rw [List.length_append];show ys.length+1≤k+1;omega,?_⟩
    rw [et,List.filter_cons,if_pos (decide_eq_true c1),List.filter_nil]
    exact L2.Paired.appendP (Mvs.tk (TK.upd g7) m7) (.cons (a5u.tk (TK.upd g7) mv7) .nil)
   ·have c1:m.1≠nb:=fun z=>c (decide_eq_true (by rw [z]))
    refine ⟨s7,ys,g7,by omega,?_⟩
    rw [et,List.filter_cons,if_neg (fun z=>c1 (of_decide_eq_true z)),List.filter_nil,List.append_nil]
    exact m7
  ·obtain ⟨s7,ys,g7,ly,m7⟩:=hP
   rw [m6.length,List.take_length,a4S iv hin] at m7
   cases m7 with
   | cons h0 hT =>
   cases hT
   rename_i y
   obtain ⟨ma,x1,x2,x3,rfl,ea,rfl,rfl,a2',u,v,rfl,e2',rfl,hv⟩:=id h0
   obtain ⟨gb,rfl,hgb⟩:=Wd.ti hv
   refine ⟨_,rfl,d,_,rfl,.inl (SqL.of g7),rfl,_,rfl,?_⟩
   refine a3I ?_
   refine ⟨_,rfl,_,rfl,d,_,_,_,rfl,rfl,SqL.of g7,(a2Y (i:=0) rfl:atI [V.ref ma] 0=some (V.ref ma)),ma,_,_,_,rfl,rfl,SqT.of ea,rfl,_,_,rfl,rfl,?_⟩
   refine ⟨_,rfl,d,_,_,_,rfl,rfl,SqL.of g7,(a2Y (i:=0) rfl:atI [V.ref ma] 0=some (V.ref ma)),ma,_,_,_,rfl,rfl,SqT.of ea,rfl,?_⟩
   have hmem:mv ps ws st gs nb∈mvs ps ws st gs:=(List.mem_filter.mp (by rw [a4S iv hin];exact .head _)).1
   obtain ⟨r,hr',er⟩:=List.mem_map.mp hmem
   obtain ⟨_,e1,e2,xs2,e3,b3⟩:=mv_of p2 iv bg bp hr'
   have r1:r.1=nb:=by rw [←a4R ws r,er];exact a4R _ _
   rw [r1] at e1 e2
   have est:(mv ps ws st gs nb).2.2.1=nx st nb:=by rw [←er,a8E,e1]
   have egl:((mv ps ws st gs nb).2.2.2.length:Int)=(gs.length:Int) - 1+nb:=by rw [←er,a8F];exact e2
   have bg2:Bw (mv ps ws st gs nb).2.2.2:=by rw [←er];exact b0p e3 b3
   refine ⟨(s5.trans s6).trans s7,(mv ps ws st gs nb).2.2.1,_,(mv ps ws st gs nb).2.2.2,a2',gb,_,_,?_,?_,bg2,e2',hgb,?_,rfl⟩
   ·rw [est,egl];exact el
   ·rw [est,egl];exact iv2
   ·rw [esp]
    show tot+((mv ps ws st gs nb).2.1+_)=tot+(mv ps ws st gs nb).2.1+_
    omega
 ·obtain ⟨s5,st,tot,gs,fr,g,x5,x6,el,iv,bg,hfr,hg,esp,rfl⟩:=hP
  rw [List.length_map,List.drop_length] at el esp
  have el:(gs.length:Int)=0:=of_decide_eq_true el
  have est:=iv.e0 el
  have g0:gs=[]:=List.length_eq_zero_iff.mp (by omega)
  subst g0
  refine ⟨_,rfl,_,rfl,q,_,rfl,.inr (SqT.of (s5 _ _ hq)),(by show 0≤sizeLine;decide),fun b1 hb1=>?_⟩
  have s6:=a0d hb1 (.tup [])
  have g6:upd H5 b1 (.tup []) b1=some (.tup (([]:List Int).map V.int)):=a0b
  generalize upd H5 b1 (.tup [])=H6 at s6 g6 ⊢
  refine ⟨(by show 2≤sizeLine;decide),fun b2 hb2=>?_⟩
  rw [List.length_map]
  have s7:=a0d hb2 (.tup [.int (ws.length:Int),.ref b1])
  have g7:upd H6 b2 (.tup [.int (ws.length:Int),.ref b1]) b2=some (.tup [.int (ws.length:Int),.ref b1]):=a0b
  generalize upd H6 b2 (.tup [.int (ws.length:Int),.ref b1])=H7 at s7 g7 ⊢
  have s67:=s6.trans s7
  refine ⟨(st,[]),((ws.length:Int),[]),⟨fr,.ref g,rfl,s67 _ _ hfr,Wd.of (s67 _ _ hg)⟩,⟨b2,.ref b1,rfl,g7,Wd.of (s7 _ _ g6)⟩,_,rfl,?_⟩
  rw [decide_eq_true (by rw [est])]
  refine a3I ⟨_,rfl,?_⟩
  have e9:spR ps ws rs 0 [0]=tot:=by rw [esp];show tot+0=tot;omega
  have:=qq H7 (s5.trans s67)
  rw [e9] at this
  exact this
abbrev NIo:List Str:=["prices","weights","code","order","spent"]
abbrev PIo:List Str:=["prices","weights","code"]
def spIo:Sp:=fun vs H Q _=>∃ (p q c:Addr) (ps ws:List Int) (zs:List V) (us cw:List (List Int)) (pl:List Nat),vs=[.ref p,.ref q,.ref c]∧TW H p ps∧TW H q ws∧H c=some (.tup zs)∧Ws H zs cw∧ws.length≤7∧us.length=ws.length∧Own ws us pl cw∧(us.map (pc ps)).Pairwise (·≤·)∧(∀ u∈us,Lt ps.length u∧u.length≤60)∧∀ H',a0v H H'→Q (.bl true) H'
theorem scIo:a0w NIo PIo (a0c a2F):=⟨rfl,rfl,rfl,by decide +kernel,rfl,by decide +kernel,by decide +kernel⟩
theorem ndIo1:(("thing":Str) :: NIo).Nodup:=by decide +kernel
theorem ndIo2:(("pair":Str) :: NIo).Nodup:=by decide +kernel
theorem a9K (F:Fun K "_law_in_order" "_law_in_order" a2F f fd) (G:Fns P w K mg base ["prices","word"] "_law_price" a4g 1) (ml:mg "len"=none) (mr:mg "range"=none) (mS:mg "sorted"=none):a1B P w K mg base CX0 2 f fd PIo spIo:=by
 refine F.ok (k:=1) scIo (fun vs H Q E h=>?_) (fun cdv A outer s H vs Q E hr h=>?_)
 ·obtain ⟨p,q,c,ps,ws,zs,us,cw,pl,rfl,_⟩:=h
  rfl
 obtain ⟨p,q,c,ps,ws,zs,us,cw,pl,rfl,hp,hq,hc,hW,l7,lu,ow,up,ok,qq⟩:=h
 refine ⟨_,a0f (a0u (i:=3) scIo.nd rfl (Or.inl rfl) (a0j (a3u rfl (hu4 hr)) (by rfl) mS a0M (a0a (a2n (M:=NIo) rfl (a0l.of (a0c a2F) NIo rfl rfl rfl (by decide +kernel) (by decide +kernel) (by decide +kernel) rfl (by decide +kernel)) ndIo1 rfl (by rfl) mr (a0a (a0j a0i (by rfl) ml PySem.boot_len (a0a (pv 1) a0e)) a0e) (a1H (mo_len (a1H a1o a2D)) a2D)
    (fun cl C s0 H0 fp=>⟨a0Q,a0Z (a0a (a0r a1Z a0g (a0P (ixT K) (pv 2) (pv 0) (fun _ _=>rfl))) (a0a (pv 0) a0e))⟩)) a0e)))
   (a0f (a2N (i:=4) (M:=NIo) scIo.nd rfl rfl rfl (a0l.of (a0c a2F) NIo rfl rfl rfl (by decide +kernel) (by decide +kernel) (by decide +kernel) rfl (by decide +kernel)) ndIo2 rfl (pv 3) a1o (fun cl C s0 H0 fp=>⟨a0Q,a0s G.ok hr (by rfl) G.m G.kp G.b .nil a0N (a0a (pv 1) (a0a (a0P (ixT K) (pv 3) (a0P (ixT K) (pv 0) a0g (fun _ _=>rfl)) (fun _ _=>rfl)) a0e))⟩))
   (a0h (a0x (a7o (b0Q (hu4 hr)) (pv 4) (a0j a1X (by rfl) mS a0M (a0a (pv 4) a0e)) (nomark _))))),?_⟩
 refine ⟨_,rfl,q,_,rfl,.inr (SqT.of hq),_,rfl,by rw [List.length_map];omega,by rw [List.length_map];omega,fun d hd=>?_⟩
 have eN:(((ws.map V.int).length:Nat):Int).toNat=ws.length:=by rw [List.length_map];rfl
 rw [eN]
 refine ⟨fun i H'=>a0v H H'∧∃ ys,H' d=some (.lst ys)∧Ws H' ys ((List.range i).map (ko ws)),⟨a0d hd _,[],a0b,.nil⟩,fun i H' hi hP=>?_,fun H1 hP=>?_⟩
 ·obtain ⟨s1,ys,g1,w1⟩:=hP
  have e0:(0:Int)+(i:Int)=((i:Nat):Int):=by omega
  rw [e0]
  have hz:ws[i]?=some (ws.getD i 0):=by rw [List.getD_eq_getElem?_getD,List.getElem?_eq_getElem hi];rfl
  refine a0O ⟨_,rfl,_,rfl,q,_,_,_,rfl,rfl,SqT.of (s1 _ _ hq),a2b hz,_,_,rfl,rfl,_,rfl,(by show 2≤sizeLine;decide),fun t ht=>?_⟩
  have s2:=a0d ht (.tup [.int (0 - ws.getD i 0),.int (i:Int)])
  have g2:TW (upd H' t (.tup [.int (0 - ws.getD i 0),.int (i:Int)])) t (ko ws i):=by
   show upd H' t _ t=_
   rw [a0b]
   unfold ko
   rw [Int.zero_sub]
   rfl
  generalize upd H' t (.tup [.int (0 - ws.getD i 0),.int (i:Int)])=H2 at s2 g2 ⊢
  have g3:=s2 _ _ g1
  refine ⟨ys,g3,a0m (by rw [w1.length,List.length_map,List.length_range];omega),a0q hd (s1.trans s2),_,a0b,?_⟩
  rw [List.range_succ,List.map_append]
  exact Paired.appendP (Ws.upd g3 (w1.same s2)) (.cons (Wd.upd g3 (Wd.of g2)) .nil)
 obtain ⟨s1,ys,g1,w1⟩:=hP
 refine ⟨d,ys,_,rfl,g1,w1,by rw [List.length_map,List.length_range];omega,a2Q _ (b0o ws),.inr fun u hu=>?_,fun o H2 out us' s2 ho g2 w2 perm pw=>?_⟩
 ·obtain ⟨i,_,rfl⟩:=List.mem_map.mp hu
  unfold ko
  simp
 have eU:us'=pl.map (ko ws):=a3a (perm.trans (ow.perm.map _).symm) pw ow.pw
 subst eU
 have lpl:pl.length=ws.length:=by rw [ow.perm.length_eq,List.length_range]
 have s12:=s1.trans s2
 refine ⟨_,rfl,o,out,rfl,SqL.of g2,fun d2 hd2=>?_⟩
 refine ⟨fun i H'=>a0v H2 H'∧H' d2=some (.lst (((us.map (pc ps)).take i).map V.int)),⟨a0d hd2 _,a0b⟩,fun i H' _ hP=>SqL.of (hP.1 _ _ g2),fun i x H' hx hP=>?_,fun H3 hP=>?_⟩
 ·obtain ⟨s3,g3⟩:=hP
  obtain ⟨v,hv,wv⟩:=Paired.right_of w2 i x hx
  rw [List.getElem?_map] at hv
  obtain ⟨t,ht,rfl⟩:=Option.map_eq_some_iff.mp hv
  have il:=(List.getElem?_eq_some_iff.mp ht).1
  have hu:us[i]?=some (us[i]'(by omega)):=List.getElem?_eq_getElem _
  have hcw:=ow.at_ i t _ ht hu
  have oku:=ok _ (List.getElem_mem (show i < us.length by omega))
  generalize us[i]'(by omega)=u at hu hcw oku
  obtain ⟨y,hy,ry⟩:=L2.Paired.left_of hW _ _ hcw
  obtain ⟨a,rfl,ha⟩:=Wd.ti wv
  have s13:=s12.trans s3
  refine a0O ⟨_,rfl,_,rfl,_,rfl,a,_,_,_,rfl,rfl,SqT.of (s3 _ _ ha),(rfl:atI ((ko ws t).map V.int) 1=some (V.int (t:Int))),c,_,_,_,rfl,rfl,SqT.of (s13 _ _ hc),a2Y hy,.ref p,y,ps,u,rfl,Wd.of (s13 _ _ hp),Wd.same s13 ry,oku.1,by omega,fun H4 s4=>?_⟩
  refine ⟨_,s4 _ _ g3,a0m (by rw [List.length_map,List.length_take,List.length_map];omega),a0q hd2 (s3.trans s4),?_⟩
  rw [a0b,List.take_add_one,List.getElem?_map,hu,List.map_append]
  rfl
 obtain ⟨s3,g3⟩:=hP
 rw [w2.length,List.length_map,List.take_of_length_le (by rw [List.length_map];omega)] at g3
 have es:srt (us.map (pc ps))=us.map (pc ps):=(a2E (List.Perm.refl _) up).symm
 refine ⟨_,rfl,_,rfl,d2,us.map (pc ps),rfl,.inl g3,by rw [List.length_map];omega,fun o2 H4 s4 hn4 g4=>?_⟩
 rw [es] at g4
 refine ⟨d2,o2,_,_,rfl,rfl,s4 _ _ g3,g4,?_⟩
 rw [decide_eq_true rfl]
 exact qq H4 ((s12.trans s3).trans s4)
end
end K72
namespace L2
open PySem PySem.Spec PyProof.Rows
inductive Cell where
 | i (n:Int)
 | t (ks:List Int)
deriving DecidableEq
section
variable {prog:Program} {w:World}
def a1F (prog:Program) (w:World) (h:Heap):Value→Cell→Prop
 | v,.i n=>(intKind prog w).is n v=true
 | v,.t ks=>∃ b,v=.ref b∧IsTupleKey (intKind prog w) h ks b
def a1J (prog:Program) (w:World):Cell→Int
 | .i n=>(intKind prog w).hash n
 | .t ks=>tupleKeyHash (intKind prog w) ks
def a3k:Cell→Nat
 | .i _=>1
 | .t ks=>ks.length+1
def a1i (prog:Program) (w:World) (h:Heap) (cs:List Cell) (a:Addr):Prop:=∃ o items n,h.get? a=some o∧o.cls=.type "tuple"∧o.data=.seq items n∧Paired (a1F prog w h) items.toList cs
theorem a1F.inj {h:Heap} {v:Value} {x y:Cell} (hx:a1F prog w h v x) (hy:a1F prog w h v y):x=y:=by
 cases x with
 | i n =>
  cases y with
  | i m=>rw [(intKind prog w).inj v n m hx hy]
  | t ks =>
   obtain ⟨b,rfl,_⟩:=hy
   have:=(intKind prog w).byValue n _ hx
   simp [carriedByValue] at this
 | t ks =>
  obtain ⟨b,rfl,hb⟩:=hx
  cases y with
  | i m =>
   have:=(intKind prog w).byValue m _ hy
   simp [carriedByValue] at this
  | t ls =>
   obtain ⟨c,e,hc⟩:=hy
   cases e
   rw [hb.inj hc]
theorem a8K {h:Heap} {vs:List Value} {x y:List Cell} (hx:Paired (a1F prog w h) vs x):Paired (a1F prog w h) vs y→x=y:=by
 induction hx generalizing y with
 | nil=>intro hy;cases hy;rfl
 | cons h1 _ ih =>
  intro hy
  cases hy with
  | cons h2 t2=>rw [h1.inj h2,ih t2]
theorem a1i.typeIs {s:Shared} {cs:List Cell} {a:Addr} (x:a1i prog w s.heap cs a):s.TypeIs (.ref a) "tuple":=let ⟨o,_,_,ho,hc,_⟩:=x;⟨o,ho,hc⟩
theorem a1i.inj {h:Heap} {a:Addr} {x y:List Cell} (hx:a1i prog w h x a) (hy:a1i prog w h y a):x=y:=by
 obtain ⟨o,items,n,ho,_,hd,hi⟩:=hx
 obtain ⟨o',items',n',ho',_,hd',hi'⟩:=hy
 have e:o=o':=Option.some.inj (ho.symm.trans ho')
 subst e
 rw [hd] at hd'
 injection hd' with h1 _
 subst h1
 exact a8K hi hi'
theorem a1i.keeps {h h':Heap} {cs:List Cell} {a d:Addr} {o:Obj} {es ep} (x:a1i prog w h cs a) (ho:h.get? d=some o) (hd:o.data=.dict es ep) (hs:Heap.SameBut d h h'):a1i prog w h' cs a:=by
 obtain ⟨o',items,n,ho',hc,hd',hi⟩:=x
 have hne:a≠d:=fun z=>by
  rw [z,ho] at ho'
  cases ho'
  rw [hd] at hd'
  cases hd'
 refine ⟨o',items,n,(hs.2 a hne).trans ho',hc,hd',Paired.mapP hi fun v c hv=>?_⟩
 cases c with
 | i m=>exact hv
 | t ks =>
  obtain ⟨b,e,hb⟩:=hv
  exact ⟨b,e,hb.keeps ho hd hs⟩
def a2R (prog:Program) (w:World) (cs:List Cell):Int:=reduceHash (Builtin.Tuple.tupleHashOf (cs.map (a1J prog w)))
def a2q (cs:List Cell):Nat:=(cs.map a3k).sum+1
variable {A:Around} {E:Value→Shared→Prop} {s:Shared}
theorem a8L {v:Value} {c:Cell} {Q:Int→Shared→Prop} (hu:A.units < cLine) (hv:a1F prog w s.heap v c) (h:Q (a1J prog w c) { s with toks:=s.toks+a3k c }):wpAny (model prog w) A (pyHash v) Q E s:=by
 cases c with
 | i n=>exact (intKind prog w).pyHash hv h
 | t ks =>
  obtain ⟨b,rfl,hb⟩:=hv
  exact wpAny_pyHash_tuple hu hb h
theorem b1H {u v:Value} {c d:Cell} {Q:Bool→Shared→Prop} (hu:A.units < cLine) (h1:a1F prog w s.heap u c) (h2:a1F prog w s.heap v d) (hk:(∃ n m,c=.i n∧d=.i m)∨∃ k l,c=.t k∧d=.t l) (h:Q (decide (c=d)) s):wpAny (model prog w) A (eqBool u v) Q E s:=by
 rcases hk with ⟨n,m,rfl,rfl⟩ | ⟨k,l,rfl,rfl⟩
 ·refine (intKind prog w).eqBool (a:=n) (b:=m) h1 h2 ?_
  rw [show decide (n=m)=decide (Cell.i n=Cell.i m) from decide_eq_decide.mpr ⟨fun z=>by rw [z],fun z=>by cases z;rfl⟩]
  exact h
 ·obtain ⟨a,rfl,ha⟩:=h1
  obtain ⟨b,rfl,hb⟩:=h2
  refine wpAny_eqBool_tuple hu ha hb ?_
  rw [show decide (k=l)=decide (Cell.t k=Cell.t l) from decide_eq_decide.mpr ⟨fun z=>by rw [z],fun z=>by cases z;rfl⟩]
  exact h
theorem a4U {cs:List Cell} {a:Addr} {Q:Int→Shared→Prop} (hu:A.units+1 < cLine) (hk:a1i prog w s.heap cs a) (h:Q (a2R prog w cs) { s with toks:=s.toks+a2q cs }) :
  wpAny (model prog w) A (pyHash (.ref a)) Q E s:=by
 have hT:=hk.typeIs
 obtain ⟨o,items,n,ho,_,hd,hi⟩:=hk
 unfold pyHash
 first | unfold pyHashByItsType | skip
 first | refine wpAny_bind (wpAny_cRoomFor_or (.inr (show A.units < cLine by omega)) ?_) | skip
 refine wpAny_bind (wpAny_specialOf hT PySem.F.slot_tuple_hash.lookup ?_)
 show wpAny _ _ (if (some (Value.builtin "tuple.__hash__") == some Value.none)=true then _ else _) Q E s
 rw [if_neg (by rw [beq_builtin_none];exact Bool.false_ne_true)]
 refine wpAny_bind (wpAny_specialOf hT PySem.F.slot_tuple_hash.lookup ?_)
 show wpAny _ _ (callSpecialIfBoundUnlessNone? (.ref a) "__hash__" _ >>= _) Q E s
 refine wpAny_bind (wpAny_callSpecialIfBoundUnlessNone?_slot hT PySem.F.slot_tuple_hash (wpAny_call_entry PySem.F.slot_tuple_hash hT PySem.F.entry_tuple_hash ?_ (PySem.F.args_tuple_hash_1 _)))
 show wpAny _ _ (Builtin.Tuple.tupleItemsOf (.ref a) >>= _) _ _ s
 refine wpAny_bind (wpAny_tupleItemsOf ho hd ?_)
 refine wpAny_bind ?_
 rw [←Array.forIn_toList]
 refine wpAny_forIn_list _
  (fun rest (b:Array Int) s'=>∃ done left,cs=done++left∧Paired (a1F prog w s.heap) rest left∧b.toList=done.map (a1J prog w)∧s'={ s with toks:=s.toks+(done.map a3k).sum })
  _ ?_ ?_ _ _ ⟨[],cs,rfl,hi,rfl,rfl⟩
 ·rintro x rest b s' ⟨done,left,rfl,hl,hb,rfl⟩
  cases hl with
  | @cons _ k _ ks' h1 hl' =>
   refine wpAny_bind (a8L (A:=_) ?_ h1 ?_)
   ·show A.units+1 < cLine
    exact hu
   first
    | exact wpAny_pure ⟨done++[k],ks',by simp,hl',by simp [hb],by simp [Nat.add_assoc]⟩
    | exact wpAny_bind (wpAny_pure (wpAny_pure ⟨done++[k],ks',by simp,hl',by simp [hb],by simp [Nat.add_assoc]⟩))
 ·rintro b s' ⟨done,left,rfl,hl,hb,rfl⟩
  cases hl
  rw [List.append_nil] at h
  show wpAny _ _ (retInt (Builtin.Tuple.tupleHashOf b.toList)) _ _ _
  rw [hb]
  refine wpAny_ret_mkInt ?_
  show wpAny _ _ (if (decide (-(2:Int) ^ 63≤Builtin.Tuple.tupleHashOf (done.map (a1J prog w))) && decide (Builtin.Tuple.tupleHashOf (done.map (a1J prog w)) < 2 ^ 63))=true then _ else _) Q E _
  unfold a2R reduceHash a2q at h
  by_cases hr:(decide (-(2:Int) ^ 63≤Builtin.Tuple.tupleHashOf (done.map (a1J prog w))) && decide (Builtin.Tuple.tupleHashOf (done.map (a1J prog w)) < 2 ^ 63))=true
  ·rw [if_pos hr]
   rw [if_pos hr] at h
   exact wpAny_pure (by simpa [Nat.add_assoc] using h)
  ·rw [if_neg hr]
   rw [if_neg hr] at h
   exact wpAny_bind (wpAny_rule (wpAny_pure (by simpa [Nat.add_assoc] using h)))
def Like (c d:Cell):Prop:=(∃ n m,c=.i n∧d=.i m)∨∃ k l,c=.t k∧d=.t l
theorem a4V {x y:List Cell} {a b:Addr} {P:Fin→Shared→Prop} (hu:A.units < cLine) (lk:Paired Like x y) (hx:a1i prog w s.heap x a) (hy:a1i prog w s.heap y b) (h:P (.done (.ret (.bool (decide (x=y))))) s) :
  wpAny (model prog w) A (Builtin.«tuple.__eq__» ⟨[.ref a,.ref b],[]⟩) P E s:=by
 have hTb:=hy.typeIs
 obtain ⟨oa,xs,na,hoa,_,hda,hia⟩:=hx
 obtain ⟨ob,ys,nb,hob,_,hdb,hib⟩:=hy
 show wpAny _ _ (isInstance (.ref b) (.type "tuple") >>= _) _ _ s
 refine wpAny_bind (wpAny_isInstance hTb isSubtype_tuple_tuple ?_)
 simp only [Bool.not_true,Bool.false_eq_true,if_false]
 refine wpAny_bind (wpAny_tupleItemsOf hoa hda ?_)
 refine wpAny_bind (wpAny_tupleItemsOf hob hdb ?_)
 refine wpAny_bind ?_
 refine wpAny_forIn_list _
  (fun rest r s'=>r.1=none∧s'=s∧∃ x' y' xs' ys',rest=List.zip xs' ys'∧Paired Like x' y'∧Paired (a1F prog w s.heap) xs' x'∧Paired (a1F prog w s.heap) ys' y'∧decide (x'=y')=decide (x=y)∧(xs'.length == ys'.length)=(xs.size == ys.size))
  _ ?_ ?_ _ _ ⟨rfl,rfl,x,y,xs.toList,ys.toList,rfl,lk,hia,hib,rfl,by simp⟩
 ·rintro ⟨u,v⟩ rest r s' ⟨hr,rfl,x',y',xs',ys',hz,lk',hx',hy',hdec,hlen⟩
  cases hx' with
  | nil=>simp at hz
  | @cons u' k1 xs'' x'' h1 hx'' =>
   cases hy' with
   | nil=>simp at hz
   | @cons v' k2 ys'' y'' h2 hy'' =>
    simp only [List.zip_cons_cons,List.cons.injEq,Prod.mk.injEq] at hz
    obtain ⟨⟨rfl,rfl⟩,rfl⟩:=hz
    cases lk' with
    | cons l1 l2 =>
    refine wpAny_bind (b1H (c:=k1) (d:=k2) hu h1 h2 l1 ?_)
    by_cases hk:k1=k2
    ·subst hk
     rw [decide_eq_true rfl]
     simp only [Bool.not_true,Bool.false_eq_true,if_false]
     refine wpAny_pure ⟨rfl,rfl,x'',y'',xs'',ys'',rfl,l2,hx'',hy'',?_,by simpa using hlen⟩
     rw [←hdec]
     by_cases hxy:x''=y''
     ·simp [hxy]
     ·simp [hxy]
    ·rw [decide_eq_false hk]
     simp only [Bool.not_false,if_true]
     have hf:decide (x=y)=false:=by rw [←hdec];simp [hk]
     rw [hf] at h
     exact wpAny_bind (wpAny_pure (wpAny_pure (wpAny_pure h)))
 ·rintro ⟨r1,r2⟩ s' ⟨hr,rfl,x',y',xs',ys',hz,lk',hx',hy',hdec,hlen⟩
  simp only at hr
  subst hr
  refine wpAny_pure ?_
  have hfin:(xs.size == ys.size)=decide (x=y):=by
   rw [←hdec,←hlen]
   cases hx' with
   | nil =>
    cases hy' with
    | nil=>simp
    | cons _ _=>simp
   | cons _ _ =>
    cases hy' with
    | nil=>simp
    | cons _ _=>simp at hz
  show P (.done (.ret (.bool (xs.size == ys.size)))) s'
  rw [hfin];exact h
theorem a3l {x y:List Cell} {a b:Addr} {Q:Bool→Shared→Prop} (hu:A.units+1 < cLine) (lk:Paired Like x y) (hx:a1i prog w s.heap x a) (hy:a1i prog w s.heap y b) (h:Q (decide (x=y)) s) :
  wpAny (model prog w) A (eqBool (.ref a) (.ref b)) Q E s:=by
 unfold eqBool
 try with_reducible refine wpAny_holding ?_
 show wpAny _ _ (if (Value.ref a == Value.ref b)=true then _ else _) Q E s
 by_cases hab:(Value.ref a == Value.ref b)=true
 ·rw [if_pos hab]
  have e:a=b:=by have:=eq_of_beq hab;injection this
  subst e
  have e2:=hx.inj hy
  subst e2
  exact wpAny_bind (wpAny_rule (wpAny_pure (by simpa using h)))
 ·rw [if_neg hab]
  exact wpAny_bind (wpAny_richCompare_same_room (op:=.Eq) hx.typeIs hy.typeIs PySem.F.slot_tuple_eq
   (wpAny_call_entry PySem.F.slot_tuple_eq hx.typeIs PySem.F.entry_tuple_eq (a4V (by first | exact hu | (show A.units+1 < cLine;exact hu)) lk hx hy ⟨_,rfl,(fun e=>nomatch e),wpAny_truthy_bool h⟩) (PySem.F.args_tuple_eq_2 _ _)) (by omega))
theorem a5F {m:Nat} {ks:List Int} {a:Addr} {Q:Bool→Shared→Prop} (hk:IsTupleKey (intKind prog w) s.heap ks a) (h:Q true s):wpAny (model prog w) A (eqIsQuiet (m+1) (.ref a)) Q E s:=by
 have hT:=hk.typeIs
 obtain ⟨o,items,n,ho,_,hd,hi⟩:=hk
 unfold eqIsQuiet
 refine wpAny_bind (wpAny_specialOf hT PySem.F.slot_tuple_eq.lookup ?_)
 show wpAny _ _ (isInstance (.ref a) (.type "tuple") >>= _) _ _ s
 refine wpAny_bind (wpAny_isInstance hT isSubtype_tuple_tuple ?_)
 simp only [Bool.not_true,Bool.false_eq_true,if_false]
 refine wpAny_bind (wpAny_seqItems ho hd ?_)
 refine wpAny_bind ?_
 show wpAny _ _ (forIn items _ _) _ _ s
 rw [←Array.forIn_toList]
 refine wpAny_forIn_list _ (fun rest r s'=>r.1=none∧s'=s∧∀ v∈rest,carriedByValue v=true) _ ?_ ?_ _ _ ⟨rfl,rfl,hi.byValue⟩
 ·rintro v rest r s' ⟨hr,rfl,hall⟩
  rw [eqIsQuiet_byValue _ (hall v List.mem_cons_self)]
  refine wpAny_bind (wpAny_pure ?_)
  simp only [Bool.not_true,Bool.false_eq_true,if_false]
  exact wpAny_pure ⟨rfl,rfl,fun u hu'=>hall u (List.mem_cons_of_mem _ hu')⟩
 ·rintro ⟨r1,r2⟩ s' ⟨hr,rfl,_⟩
  simp only at hr
  subst hr
  exact wpAny_pure h
theorem a3C {cs:List Cell} {a:Addr} {Q:Bool→Shared→Prop} (hk:a1i prog w s.heap cs a) (h:Q true s):wpAny (model prog w) A (eqIsQuiet 8 (.ref a)) Q E s:=by
 have hT:=hk.typeIs
 obtain ⟨o,items,n,ho,_,hd,hi⟩:=hk
 unfold eqIsQuiet
 refine wpAny_bind (wpAny_specialOf hT PySem.F.slot_tuple_eq.lookup ?_)
 show wpAny _ _ (isInstance (.ref a) (.type "tuple") >>= _) _ _ s
 refine wpAny_bind (wpAny_isInstance hT isSubtype_tuple_tuple ?_)
 simp only [Bool.not_true,Bool.false_eq_true,if_false]
 refine wpAny_bind (wpAny_seqItems ho hd ?_)
 refine wpAny_bind ?_
 show wpAny _ _ (forIn items _ _) _ _ s
 rw [←Array.forIn_toList]
 refine wpAny_forIn_list _ (fun rest r s'=>r.1=none∧s'=s∧∃ left,Paired (a1F prog w s.heap) rest left) _ ?_ ?_ _ _ ⟨rfl,rfl,cs,hi⟩
 ·rintro v rest r s' ⟨hr,rfl,left,hall⟩
  cases hall with
  | @cons _ c _ left' h1 h2 =>
  refine wpAny_bind ?_
  have go:wpAny (model prog w) A (eqIsQuiet 7 v) (fun b s''=>b=true∧s''=s') E s':=by
   cases c with
   | i n =>
    rw [eqIsQuiet_byValue _ ((intKind prog w).byValue _ _ h1)]
    exact wpAny_pure ⟨rfl,rfl⟩
   | t ks =>
    obtain ⟨b,rfl,hb⟩:=h1
    exact a5F (m:=6) hb ⟨rfl,rfl⟩
  refine wpAny_mono go ?_ (fun _ _ z=>z)
  rintro b s'' ⟨rfl,rfl⟩
  simp only [Bool.not_true,Bool.false_eq_true,if_false]
  exact wpAny_pure ⟨rfl,rfl,left',h2⟩
 ·rintro ⟨r1,r2⟩ s' ⟨hr,rfl,_⟩
  simp only at hr
  subst hr
  exact wpAny_pure h
def a6n (prog:Program) (w:World):HeapKind prog w (Int × List Int) where
 is:=fun h k a=>a1i prog w h [.i k.1,.t k.2] a
 hash:=fun k=>a2R prog w [.i k.1,.t k.2]
 draws:=fun k=>a2q [.i k.1,.t k.2]
 room:=fun A=>A.units+1 < cLine
 inj:=fun {h a x y} hx hy=>by
  have:=hx.inj hy
  injection this with h1 h2
  injection h1 with h1
  injection h2 with h2 _
  injection h2 with h2
  exact Prod.ext h1 h2
 keeps:=fun x ho hd hs=>x.keeps ho hd hs
 pyHash:=fun hu hk h=>a4U hu hk h
 eqBool:=fun {A E s x y a b Q} hu hx hy h=>by
  refine a3l hu (.cons (.inl ⟨_,_,rfl,rfl⟩) (.cons (.inr ⟨_,_,rfl,rfl⟩) .nil)) hx hy ?_
  rw [show decide ([Cell.i x.1,.t x.2]=[Cell.i y.1,.t y.2])=decide (x=y) from decide_eq_decide.mpr ⟨fun z=>by
   injection z with h1 h2
   injection h1 with h1
   injection h2 with h2 _
   injection h2 with h2
   exact Prod.ext h1 h2,fun z=>by rw [z]⟩]
  exact h
 quiet:=fun hk h=>a3C hk h
def a0y (prog:Program) (w:World):HeapKind prog w (List Int × Int) where
 is:=fun h k a=>a1i prog w h [.t k.1,.i k.2] a
 hash:=fun k=>a2R prog w [.t k.1,.i k.2]
 draws:=fun k=>a2q [.t k.1,.i k.2]
 room:=fun A=>A.units+1 < cLine
 inj:=fun {h a x y} hx hy=>by
  have:=hx.inj hy
  injection this with h1 h2
  injection h1 with h1
  injection h2 with h2 _
  injection h2 with h2
  exact Prod.ext h1 h2
 keeps:=fun x ho hd hs=>x.keeps ho hd hs
 pyHash:=fun hu hk h=>a4U hu hk h
 eqBool:=fun {A E s x y a b Q} hu hx hy h=>by
  refine a3l hu (.cons (.inr ⟨_,_,rfl,rfl⟩) (.cons (.inl ⟨_,_,rfl,rfl⟩) .nil)) hx hy ?_
  rw [show decide ([Cell.t x.1,.i x.2]=[Cell.t y.1,.i y.2])=decide (x=y) from decide_eq_decide.mpr ⟨fun z=>by
   injection z with h1 h2
   injection h1 with h1
   injection h2 with h2 _
   injection h2 with h2
   exact Prod.ext h1 h2,fun z=>by rw [z]⟩]
  exact h
 quiet:=fun hk h=>a3C hk h
end
section
variable {P:Program} {w:World} {H:Hp} {h:Heap} {a b d:Addr}
theorem a8M {n:Int} {v:Value} (r:a0T (.int n) v):(intKind P w).is n v=true:=by
 obtain ⟨t,rfl⟩:=(show ∃ t,v=Value.int n t from r)
 show Value.isInt n (.int n t)=true
 simp [Value.isInt]
theorem a6o:∀ {ks:List Int} {vs:List Value},a0J (ks.map V.int) vs→ItemsAre (intKind P w) ks vs
 | [],_,r=>by cases r;exact .nil
 | k :: ks,_,r=>by
  cases r with
  | cons h1 h2=>exact .cons (a8M h1) (a6o h2)
theorem b0t {ks:List Int} (ok:HOk P w H h) (e:H a=some (.tup (ks.map V.int))):IsTupleKey (intKind P w) h ks a:=by
 obtain ⟨_,its,r,o,h1,h2,n,h3⟩:=a1b (show a0A P w H h a (.tup (ks.map V.int)) from ok a _ e)
 exact ⟨o,its.toArray,n,h1,h2,h3,by simpa using a6o r⟩
def NAt (H:Hp) (k:Int × List Int) (a:Addr):Prop:=∃ b,H a=some (.tup [.int k.1,.ref b])∧H b=some (.tup (k.2.map V.int))
def WAt (H:Hp) (k:List Int × Int) (a:Addr):Prop:=∃ b,H a=some (.tup [.ref b,.int k.2])∧H b=some (.tup (k.1.map V.int))
theorem NAt.is {k:Int × List Int} (ok:HOk P w H h) (x:NAt H k a):(a6n P w).is h k a:=by
 obtain ⟨b,e,eb⟩:=x
 obtain ⟨_,its,r,o,h1,h2,n,h3⟩:=a1b (show a0A P w H h a (.tup [.int k.1,.ref b]) from ok a _ e)
 refine ⟨o,its.toArray,n,h1,h2,h3,?_⟩
 cases r with
 | cons r1 r2 =>
  cases r2 with
  | cons r2 r3 =>
   cases r3
   exact .cons (a8M r1) (.cons ⟨b,r2,b0t ok eb⟩ .nil)
theorem WAt.is {k:List Int × Int} (ok:HOk P w H h) (x:WAt H k a):(a0y P w).is h k a:=by
 obtain ⟨b,e,eb⟩:=x
 obtain ⟨_,its,r,o,h1,h2,n,h3⟩:=a1b (show a0A P w H h a (.tup [.ref b,.int k.2]) from ok a _ e)
 refine ⟨o,its.toArray,n,h1,h2,h3,?_⟩
 cases r with
 | cons r1 r2 =>
  cases r2 with
  | cons r2 r3 =>
   cases r3
   exact .cons ⟨b,r1,b0t ok eb⟩ (.cons (a8M r2) .nil)
end
section
variable {P:Program} {w:World} {KK:Type} [DecidableEq KK] (knd:HeapKind P w KK)
def a6Z (kvs:List (KK × Addr × V)) (xs:List (KK × Addr × Value)):Prop:=Paired (fun p q=>p.1=q.1∧p.2.1=q.2.1∧a0T p.2.2 q.2.2) kvs xs
def NDx (d:Addr) (kvs:List (KK × Addr × V)) (h:Heap):Prop:=(d == sysModules)=false∧kvs.length≤sizeLine∧∃ xs:List (KK × Addr × Value),a6Z kvs xs∧∃ o es ep,h.get? d=some o∧o.ExactDict∧o.data=.dict es ep∧es.toList=xs.map (entryOfKey knd)∧(xs.map (·.1)).Nodup
def NDO (d:Addr) (kvs:List (KK × Addr × V)):HO:=.ext (NDx knd d kvs)
variable {knd}
theorem NDx.keep {d:Addr} {kvs:List (KK × Addr × V)} {h1 h2:Heap} (x:NDx knd d kvs h1) (k:∀ o,h1.get? d=some o→h2.get? d=some o):NDx knd d kvs h2:=by
 obtain ⟨h0,hl,xs,r,o,es,ep,e1,e2⟩:=x
 exact ⟨h0,hl,xs,r,o,es,ep,k _ e1,e2⟩
theorem NDx.ok {H:Hp} {h:Heap} {d:Addr} {kvs:List (KK × Addr × V)} (x:NDx knd d kvs h):a0A P w H h d (NDO knd d kvs):=⟨x,(let ⟨_,_,_,_,o,_,_,e,_⟩:=x;⟨o,e⟩),fun h1 h2 y k=>y.keep k⟩
theorem b1I {H:Hp} {h:Heap} {d:Addr} {kvs:List (KK × Addr × V)} (ok:HOk P w H h) (e:H d=some (NDO knd d kvs)) (ka:∀ p∈kvs,knd.is h p.1 p.2.1):(d == sysModules)=false∧kvs.length≤sizeLine∧∃ xs,a6Z kvs xs∧h.DictOfH knd d xs:=by
 have z0:=(show a0A P w H h d (NDO knd d kvs) from ok d _ e).1
 obtain ⟨h0,hl,xs,r,o,es,ep,e1,e2,e3,e4,e5⟩:=(show NDx knd d kvs h from z0)
 refine ⟨h0,hl,xs,r,o,es,ep,e1,e2,e3,e4,fun x hx=>?_,e5⟩
 clear e4 e5 e hl z0
 unfold a6Z at r
 induction r with
 | nil=>cases hx
 | cons h1 _ ih =>
  rcases List.mem_cons.mp hx with z | z
  ·subst z
   have:=ka _ (.head _)
   rw [h1.1,h1.2.1] at this
   exact this
  ·exact ih (fun p hp=>ka p (.tail _ hp)) z
def nval (kvs:List (KK × Addr × V)) (k:KK):Option V:=(kvs.find? fun x=>decide (x.1=k)).map (·.2.2)
theorem a6Z.val {kvs:List (KK × Addr × V)} {xs:List (KK × Addr × Value)} (r:a6Z kvs xs) (k:KK):b1S (nval kvs k) ((atKey xs k).map (·.2)):=by
 unfold a6Z at r
 induction r with
 | nil=>exact True.intro
 | cons h1 _ ih =>
  unfold nval atKey at ih ⊢
  rw [List.find?_cons,List.find?_cons,h1.1]
  split
  ·exact h1.2.2
  ·exact ih
end
section
variable {X:Cx} {KK:Type} [DecidableEq KK] {knd:HeapKind X.prog X.w KK} {pins:List (Addr × Obj)} {σ:St} {H:Hp} {s:Shared} {a d:Addr} {v:V} {r:Value} {A:Around} {E:Value→Shared→Prop} {kvs:List (KK × Addr × V)} {k:KK}
def nput (kvs:List (KK × Addr × V)) (k:KK) (a:Addr) (v:V):List (KK × Addr × V):=if (nval kvs k).isSome then kvs.map fun x=>if x.1=k then (x.1,x.2.1,v) else x else kvs++[(k,a,v)]
theorem a6Z.putm {xs:List (KK × Addr × Value)} {u:Value} (rel:a6Z kvs xs) (rv:a0T v u):a6Z (kvs.map fun x=>if x.1=k then (x.1,x.2.1,v) else x) (xs.map (putAt k u)):=by
 unfold a6Z at rel ⊢
 induction rel with
 | nil=>exact .nil
 | @cons x y _ _ h1 _ ih =>
  refine .cons ?_ ih
  unfold putAt
  dsimp only
  by_cases z:x.1=k
  ·rw [if_pos z,if_pos (h1.1.symm.trans z)]
   exact ⟨h1.1,h1.2.1,rv⟩
  ·rw [if_neg z,if_neg (fun y=>z (h1.1.trans y))]
   exact h1
theorem a6Z.put {xs:List (KK × Addr × Value)} {u:Value} (rel:a6Z kvs xs) (rv:a0T v u):a6Z (nput kvs k a v) (storedH xs k a u):=by
 have q:=(rel.val k).isSome_eq
 rw [Option.isSome_map] at q
 unfold nput
 cases e:atKey xs k with
 | none =>
  rw [e] at q
  rw [storedH_new e,if_neg (by rw [q];decide)]
  exact Paired.appendP rel (.cons ⟨rfl,rfl,rv⟩ .nil)
 | some p =>
  rw [e] at q
  rw [storedH_old e,if_pos (show (nval kvs k).isSome=true from q)]
  exact rel.putm rv
theorem a6p:(nput kvs k a v).length≤kvs.length+1:=by
 unfold nput
 split
 ·rw [List.length_map];omega
 ·rw [List.length_append];exact Nat.le_refl _
theorem nd_put {Q:Unit→Shared→Prop} (hu:knd.room A.in1) (I:Inv X pins σ H s) (e:H d=some (NDO knd d kvs)) (ka:∀ p∈kvs,knd.is s.heap p.1 p.2.1) (kk:knd.is s.heap k a) (hl:kvs.length < sizeLine) (rv:a0T v r) (h:∀ s',Inv X pins σ (upd H d (NDO knd d (nput kvs k a v))) s'→Q () s'):wpAny (model X.prog X.w) A (setItem (.ref d) (.ref a) r) Q E s:=by
 obtain ⟨hd,_,xs,rel,dd⟩:=b1I I.hok e ka
 have hz:xs.length≤sizeLine:=by rw [←Paired.length rel];omega
 refine wpAny_setItem_heap (hsz:=hz) hu kk dd fun h' dd' hs=>h _ ?_
 obtain ⟨q,es,ep,hq,h2,h3,h4,_,h5⟩:=dd'
 have hn:(nput kvs k a v).length≤sizeLine:=by have:=a6p (kvs:=kvs) (k:=k) (a:=a) (v:=v);omega
 exact b0R I (by rw [e];exact True.intro) hs ⟨q,hq⟩ (NDx.ok ⟨hd,hn,_,rel.put rv,q,es,ep,hq,h2,h3,h4,h5⟩)
theorem b0u (I:Inv X pins σ H s) (e:H d=some (.dK [])):Inv X pins σ (upd H d (NDO knd d [])) s:=by
 obtain ⟨_,hd,vs,rel,dd⟩:=dk_of I.hok e
 cases rel
 obtain ⟨o,es,ep,e1,e2,e3,_,e5,_⟩:=dd
 have em:es.toList=[]:=by cases hh:es.toList with
  | nil=>rfl
  | cons x l=>rw [hh] at e5;cases e5
 exact I.write (t':=s.toks) (x:=d) (e:=d) (by rw [e];exact True.intro) (.inl rfl) (fun b q hb z=>z) ⟨o,e1⟩ (NDx.ok ⟨hd,Nat.zero_le _,[],.nil,o,es,ep,e1,e2,e3,em,List.nodup_nil⟩)
end
structure NKd (X:Cx) (KK:Type) [DecidableEq KK] where
 knd:HeapKind X.prog X.w KK
 At:Hp→KK→Addr→Prop
 is:∀ {H:Hp} {h:Heap} {k:KK} {a:Addr},HOk X.prog X.w H h→At H k a→knd.is h k a
 rm:∀ {A:Around},A.units+2 < cLine→knd.room A.in1
def nkN (X:Cx):NKd X (Int × List Int):=⟨a6n X.prog X.w,NAt,fun ok x=>x.is ok,fun {A} h=>(show A.units+1+1 < cLine from h)⟩
def nkW (X:Cx):NKd X (List Int × Int):=⟨a0y X.prog X.w,WAt,fun ok x=>x.is ok,fun {A} h=>(show A.units+1+1 < cLine from h)⟩
section
variable {X:Cx} {KK:Type} [DecidableEq KK] (N:NKd X KK)
def NIs (H:Hp) (d:Addr) (kvs:List (KK × Addr × V)):Prop:=(H d=some (NDO N.knd d kvs)∨(H d=some (.dK [])∧kvs=[]))∧∀ p∈kvs,N.At H p.1 p.2.1
def sNPut (td ty tv:TE):TS:=fun D σ H=>tv σ H fun v H1=>td σ H1 fun x H2=>ty σ H2 fun y H3=>∃ d a k kvs,x=.ref d∧y=.ref a∧NIs N H3 d kvs∧N.At H3 k a∧kvs.length < sizeLine∧D.nx σ (upd H3 d (NDO N.knd d (nput kvs k a v)))
variable {N}
theorem a6q {H:Hp} {d:Addr} {o:HO} (h:H d=some o):upd H d o=H:=by
 funext b
 unfold upd
 split
 ·rename_i e;rw [e,h]
 ·rfl
theorem NIs.cast {pins:List (Addr × Obj)} {σ:St} {H:Hp} {s:Shared} {d:Addr} {kvs:List (KK × Addr × V)} (x:NIs N H d kvs) (I:Inv X pins σ H s):Inv X pins σ (upd H d (NDO N.knd d kvs)) s:=by
 rcases x.1 with e | ⟨e,rfl⟩
 ·rw [a6q e];exact I
 ·exact b0u I e
theorem b1J {o i value:Expr} {pos pos':Pos} {td ty tv:TE} (hu:X.A.units+2 < cLine) (ho:PE X o td) (hi:PE X i ty) (hv:PE X value tv) (hs:swapsWith value (some (.Subscript o i pos')) pos.line X.env=pure false) :
  PS X (.Assign [.Subscript o i pos'] value pos) (sNPut N td ty tv):=by
 intro pins s σ H D I h
 refine wpAny_Assign_Subscript (thn (hv pins s σ H _ I h) fun r s1 ⟨v,H1,I1,rv,q1⟩=>thn (ho pins s1 σ H1 _ I1 q1) fun u s2 ⟨x,H2,I2,rx,q2⟩=>thn (hi pins s2 σ H2 _ I2 q2) fun iv s3 ⟨y,H3,I3,ry,d,a,k,kvs,ex,ey,ni,ka,hl,q3⟩=>?_) hs
 subst ex
 subst ey
 have eu:u=Value.ref d:=rx
 have ei:iv=Value.ref a:=ry
 subst eu
 subst ei
 have I4:=ni.cast I3
 refine nd_put (N.rm hu) I4 a0b (fun p hp=>N.is I3.hok (ni.2 p hp)) (N.is I3.hok ka) hl rv fun s4 I5=>⟨σ,_,I5,?_⟩
 rw [a7b]
 exact q3
end
section
variable {P:Program} {w:World} {KK:Type} [DecidableEq KK]
def Itn (knd:HeapKind P w KK) (d:Addr) (ob:Obj) (kvs:List (KK × Addr × V)):It :=
 ⟨fun i H=>H d=some (.frz ob (NDO knd d kvs))∧i < kvs.length,fun i H x H'=>H'=H∧∃ p,kvs[i]?=some p∧x=.ref p.2.1,fun i H=>H d=some (.frz ob (NDO knd d kvs))∧kvs.length≤i⟩
def NW1 (knd:HeapKind P w KK) (H:Hp) (d:Addr) (kvs:List (KK × Addr × V)):Prop:=H d=some (NDO knd d kvs)∨∃ ob,H d=some (.frz ob (NDO knd d kvs))
def NW (knd:HeapKind P w KK) (H:Hp) (d:Addr) (kvs:List (KK × Addr × V)):Prop:=NW1 knd H d kvs∨(H d=some (.dK [])∧kvs=[])
end
theorem Inv.freezeN1 {X:Cx} {KK:Type} [DecidableEq KK] {knd:HeapKind X.prog X.w KK} {pins:List (Addr × Obj)} {σ:St} {H:Hp} {s:Shared} {d:Addr} {kvs:List (KK × Addr × V)} (I:Inv X pins σ H s) (e:NW1 knd H d kvs):∃ ob es ep,s.heap.get? d=some ob∧ob.ExactDict∧ob.data=.dict es ep∧es.size=kvs.length∧(d == sysModules)=false∧Inv X pins σ (upd H d (.frz ob (NDO knd d kvs))) s:=by
 rcases e with e | ⟨ob,e⟩
 ·have z0:=(show a0A X.prog X.w H s.heap d (NDO knd d kvs) from I.hok d _ e).1
  obtain ⟨hd,hl,xs,rel,ob,es,ep,ho,hx,hdat,he,hn⟩:=id (show NDx knd d kvs s.heap from z0)
  refine ⟨ob,es,ep,ho,hx,hdat,by rw [size_of_entries he];exact (Paired.length rel).symm,hd,?_⟩
  exact I.write (h':=s.heap) (t':=s.toks) (x:=d) (e:=d) (o:=.frz ob (NDO knd d kvs)) (by rw [e];exact True.intro) (.inl rfl) (fun b u _ q=>q) ⟨ob,ho⟩ ⟨ho,NDx.ok z0⟩
 ·obtain ⟨ho,z1⟩:=(show a0A X.prog X.w H s.heap d (.frz ob (NDO knd d kvs)) from I.hok d _ e)
  have z0:=(show a0A X.prog X.w H s.heap d (NDO knd d kvs) from z1).1
  obtain ⟨hd,hl,xs,rel,ob',es,ep,ho',hx,hdat,he,hn⟩:=id (show NDx knd d kvs s.heap from z0)
  rw [ho] at ho'
  cases ho'
  exact ⟨ob,es,ep,ho,hx,hdat,by rw [size_of_entries he];exact (Paired.length rel).symm,hd,by rw [a6q e];exact I⟩
theorem Inv.freezeN {X:Cx} {KK:Type} [DecidableEq KK] {knd:HeapKind X.prog X.w KK} {pins:List (Addr × Obj)} {σ:St} {H:Hp} {s:Shared} {d:Addr} {kvs:List (KK × Addr × V)} (I:Inv X pins σ H s) (e:NW knd H d kvs):∃ ob es ep,s.heap.get? d=some ob∧ob.ExactDict∧ob.data=.dict es ep∧es.size=kvs.length∧(d == sysModules)=false∧Inv X pins σ (upd H d (.frz ob (NDO knd d kvs))) s:=by
 rcases e with e | ⟨e,rfl⟩
 ·exact I.freezeN1 e
 ·obtain ⟨ob,es,ep,h1,h2,h3,h4,h5,h6⟩:=(b0u (knd:=knd) I e).freezeN1 (.inl a0b)
  rw [a7b] at h6
  exact ⟨ob,es,ep,h1,h2,h3,h4,h5,h6⟩
theorem b1K {P:Program} {w:World} {KK:Type} [DecidableEq KK] {knd:HeapKind P w KK} {K:PySem.W.Frag} {tg:Expr} (d it:Addr) {ob:Obj} {es:Array DictEntry} {ep:Nat} {kvs:List (KK × Addr × V)} (hx:ob.ExactDict) (hdat:ob.data=.dict es ep) (hsz:es.size=kvs.length) :
  b0z P w K tg (Itn knd d ob kvs) [it] it (fun i h=>h.IsKeyIter it d i es.size ep) where
 mem:=by simp
 obj:=fun i h st b hb=>by
  have e:b=it:=by simpa using hb
  subst e
  obtain ⟨o,e,c,dd⟩:=st
  exact ⟨o,e,fun v z=>by rw [dd] at z;cases z⟩
 keep:=fun i h h' st k=>st.at fun o e=>k it (by simp) o e
 item:=by
  intro X hP hw hK hc i pins s σ H E I hf st hg
  subst hP hw hK
  obtain ⟨e,hi⟩:=hg
  obtain ⟨ho,z1⟩:=(show a0A X.prog X.w H s.heap d (.frz ob (NDO knd d kvs)) from I.hok d _ e)
  have z0:=(show a0A X.prog X.w H s.heap d (NDO knd d kvs) from z1).1
  obtain ⟨hd,hl,xs,rel,ob',es',ep',ho',hx',hdat',he,hn⟩:=id (show NDx knd d kvs s.heap from z0)
  rw [ho] at ho'
  cases ho'
  rw [hdat] at hdat'
  cases hdat'
  obtain ⟨f0,f1,f2,f3,f4,f5⟩:=hf it (by simp)
  have hkv:kvs[i]?=some kvs[i]:=List.getElem?_eq_getElem hi
  obtain ⟨x,hx1,r1,r2,r3⟩:=Paired.right_of rel i _ hkv
  have hen:es[i]?=some (entryOfKey knd x):=by rw [entry_at he i,hx1];rfl
  refine b0T st ⟨ob,ho,hx,hdat⟩ hen fun h' st' sb=>?_
  have I1:Inv X pins σ H { s with heap:=h' }:=I.turned (t':=s.toks) (fun b o hb e=>(sb.2 b hb).trans e) f0 f1 f3 f4 f5
  obtain ⟨o,e',c,dd⟩:=id st'
  exact ⟨_,rfl,a8R (s:={ s with heap:=h' }) e' c dd (by decide) ⟨.ref x.2.1,H,I1,rfl,⟨rfl,kvs[i],hkv,by rw [r2]⟩,st',fun b hb=>(hf b hb).1⟩⟩
 done:=by
  intro X hP hw hK hc i pins s σ H E I hf st hg
  subst hP hw hK
  obtain ⟨e,hi⟩:=hg
  obtain ⟨ho,_⟩:=(show a0A X.prog X.w H s.heap d (.frz ob (NDO knd d kvs)) from I.hok d _ e)
  obtain ⟨f0,f1,f2,f3,f4,f5⟩:=hf it (by simp)
  exact b0U (I.ok.hd hc) st ⟨ob,ho,hx,hdat⟩ (Array.getElem?_eq_none (by omega)) fun h' eb=>⟨rfl,I.turned (t':=s.toks) (fun b o hb e=>eb b o hb e) f0 f1 f3 f4 f5⟩
 self:=fun _ _ _ _ _ st h=>wpAny_pyIter_keyiter st h
section
variable {X:Cx} {KK:Type} [DecidableEq KK] {knd:HeapKind X.prog X.w KK}
def iNDict (knd:HeapKind X.prog X.w KK) (td:TE):TI:=fun σ H R=>td σ H fun x H1=>∃ d kvs,x=.ref d∧NW knd H1 d kvs∧∀ ob,R (Itn knd d ob kvs) (upd H1 d (.frz ob (NDO knd d kvs)))
theorem pi_nd {tg l:Expr} {tl:TE} (hl:PE X l tl):PI X tg l (iNDict knd tl):=by
 intro pins s σ H R I h
 refine thn (hl pins s σ H _ I h) fun v s1 ⟨x,H1,I1,r1,q1⟩=>?_
 obtain ⟨d,kvs,e,hd,q⟩:=q1
 subst e
 cases r1
 obtain ⟨ob,es,ep,ho,hx,hdat,hsz,hsy,I2⟩:=I1.freezeN hd
 refine b0V hsy ⟨ob,ho,hx,hdat⟩ ?_
 refine ⟨s1.heap.objs.size,[s1.heap.objs.size],_,_,_,rfl,I2.kept (t':=s1.toks) fun b o e=>Heap.get?_push_of_some _ e,b1K d _ hx hdat hsz,⟨_,Heap.get?_push_size _ rfl,rfl,rfl⟩,fun b hb=>?_,q ob⟩
 have e:b=s1.heap.objs.size:=by simpa using hb
 subst e
 exact I2.fpOk (Nat.le_refl _) (I2.hok.fresh (Nat.le_refl _))
def tCompN (knd:HeapKind X.prog X.w KK) (td:TE) (tc:TT) (te:TE):TE:=fun σ H Q=>td σ H fun x H1=>∃ a kvs,x=.ref a∧NW knd H1 a kvs∧∀ ob d,upd H1 a (.frz ob (NDO knd a kvs)) d=none →
 ∃ Pv:Nat→Hp→Prop,Pv 0 (upd (upd H1 a (.frz ob (NDO knd a kvs))) d (.lst []))∧(∀ i H,i≤kvs.length→Pv i H→H a=some (.frz ob (NDO knd a kvs)))∧(∀ i p H,kvs[i]?=some p→Pv i H→a6E tc te σ d (.ref p.2.1) H (Pv (i+1)))∧∀ H,Pv kvs.length H→Q (.ref d) H
theorem a6r {elt iter:Expr} {tg:Str} {tp:Pos} {cs:List Expr} {scope:Scope} {pos:Pos} {tc:TT} {te:TE} {M:List Str} {td:TE} (hc:X.calm=true) (S:a0l scope X.env X.N M) (nd:(tg :: M).Nodup) (hl:scope.names.lookup tg=some .local) (hi:PE X iter td) (mo:a3o td)
  (hin:a5h X scope tg M cs elt tc te) (hf:∀ x,foldedSetIterable iter X.env x=pure x:=by intro _;rfl):PE X (.ListComp elt [⟨.Name tg tp,iter,cs,0⟩] scope pos) (tCompN knd td tc te):=by
 refine a2M hc S nd hl (pi_nd (knd:=knd) hi) hin (fun σ H Q h=>?_) hf
 refine mo σ H _ _ (fun v H1 q=>?_) h
 obtain ⟨a,kvs,e,ha,q⟩:=q
 refine ⟨a,kvs,e,ha,fun ob d hd=>?_⟩
 obtain ⟨Pv,h0,hk,hs,hq⟩:=q ob d hd
 refine ⟨fun i m H=>m=kvs.length - i∧i≤kvs.length∧Pv i H,⟨kvs.length,by simp,Nat.zero_le _,h0⟩,?_⟩
 rintro i m H ⟨rfl,hi,p⟩
 have g:=hk i H hi p
 by_cases hlt:i < kvs.length
 ·refine .inr ⟨⟨g,hlt⟩,Pv (i+1),fun H' p'=>⟨kvs.length - (i+1),by omega,rfl,hlt,p'⟩,?_⟩
  rintro x H' ⟨rfl,k,hkv,rfl⟩
  exact hs i k _ hkv p
 ·have e:i=kvs.length:=by omega
  subst e
  exact .inl ⟨⟨g,Nat.le_refl _⟩,hq H p⟩
end
end L2
namespace K72
open PySem L2
section
variable {KK:Type} [DecidableEq KK]
theorem a4W {kvs:List (KK × Addr × V)} {k:KK}:(nval kvs k).isSome=true↔k∈kvs.map (·.1):=by
 unfold nval
 rw [Option.isSome_map,List.find?_isSome,List.mem_map]
 exact ⟨fun ⟨x,h,e⟩=>⟨x,h,of_decide_eq_true e⟩,fun ⟨x,h,e⟩=>⟨x,h,decide_eq_true e⟩⟩
theorem a4X {kvs:List (KK × Addr × V)} {k:KK} {a:Addr} {v:V}:(nput kvs k a v).map (·.1)=if k∈kvs.map (·.1) then kvs.map (·.1) else kvs.map (·.1)++[k]:=by
 unfold nput
 by_cases c:k∈kvs.map (·.1)
 ·rw [if_pos c,if_pos (a4W.mpr c),List.map_map]
  refine List.map_congr_left fun x _=>?_
  show (if x.1=k then (x.1,x.2.1,v) else x).1=x.1
  split <;> rfl
 ·rw [if_neg c,if_neg (fun z=>c (a4W.mp z)),List.map_append]
  rfl
theorem a9L {kvs:List (KK × Addr × V)} {k k':KK} {a:Addr} {v:V}:k'∈(nput kvs k a v).map (·.1)↔k'∈kvs.map (·.1)∨k'=k:=by
 rw [a4X]
 split
 ·rename_i c
  exact ⟨.inl,fun h=>h.elim id fun e=>by rw [e];exact c⟩
 ·rw [List.mem_append,List.mem_singleton]
theorem b1L {kvs:List (KK × Addr × V)} {k:KK} {a:Addr} {v:V} (h:(kvs.map (·.1)).Nodup):((nput kvs k a v).map (·.1)).Nodup:=by
 rw [a4X]
 split
 ·exact h
 ·rename_i c
  exact List.nodup_append.mpr ⟨h,List.pairwise_singleton _ _,fun x hx y hy e=>c (by rw [←List.mem_singleton.mp hy,←e];exact hx)⟩
theorem b1M {kvs:List (KK × Addr × V)} {k:KK} {a:Addr} {v:V} {R:KK→Addr→Prop} (h:∀ p∈kvs,R p.1 p.2.1) (hk:R k a):∀ p∈nput kvs k a v,R p.1 p.2.1:=fun p hp=>by
 unfold nput at hp
 split at hp
 ·obtain ⟨x,hx,rfl⟩:=List.mem_map.mp hp
  have:=h x hx
  split <;> exact this
 ·rcases List.mem_append.mp hp with hp | hp
  ·exact h p hp
  ·rw [List.mem_singleton.mp hp]
   exact hk
end
theorem a9M {p q:List Int} {y z:Int}:p++[y]=q++[z]↔(p,y)=(q,z):=by
 constructor
 ·intro e
  have e1:=List.append_inj_left' e rfl
  have e2:=List.append_inj_right' e rfl
  rw [e1,(List.cons.inj e2).1]
 ·intro e
  rw [(Prod.mk.inj e).1,(Prod.mk.inj e).2]
theorem a9N {v p:List Int} {y:Int} {j:Nat} (h:j < v.length):p++[y] <+: v.take (j+1)↔(p,y)=(v.take j,v[j])∨p++[y] <+: v.take j:=by
 rw [List.take_add_one,List.getElem?_eq_getElem h]
 show p++[y] <+: v.take j++[v[j]]↔_
 rw [List.prefix_concat_iff,a9M]
theorem b1N {W:List (List Int)} {i:Nat} {v p:List Int} {y:Int} (h:W[i]?=some v):Ch (W.take (i+1)) p y↔Ch (W.take i) p y∨p++[y] <+: v:=by
 unfold Ch
 rw [List.take_add_one,h]
 constructor
 ·rintro ⟨u,hu,e⟩
  rcases List.mem_append.mp hu with hu | hu
  ·exact .inl ⟨u,hu,e⟩
  ·rw [List.mem_singleton.mp hu] at e
   exact .inr e
 ·rintro (⟨u,hu,e⟩ | e)
  ·exact ⟨u,List.mem_append_left _ hu,e⟩
  ·exact ⟨v,List.mem_append_right _ (.head _),e⟩
theorem no_pre {p:List Int} {y:Int}:¬ p++[y] <+: ([]:List Int):=fun h=>by
 have:=h.length_le
 rw [List.length_append] at this
 simp at this
abbrev Ky:=List Int × Int
def onL (kl:List Ky) (p:List Int):List Int:=(kl.filter fun k=>decide (k.1=p)).map Prod.snd
theorem a9O {ps:List Int} {W:List (List Int)} {kl:List Ky} (nd:kl.Nodup) (hk:∀ k:Ky,k∈kl↔Ch W k.1 k.2) (wc:WC ps W) {p:List Int} {y:Int} (hm:(p,y)∈kl):∃ pm m,a4k ps pm∧2≤m∧m≤ps.length∧(onL kl p).Perm ((pm.take m).map fun a:Nat=>(a:Int)):=by
 obtain ⟨pm,m,ic,m2,mL,e⟩:=wc p y ((hk (p,y)).mp hm)
 refine ⟨pm,m,ic,m2,mL,(List.perm_ext_iff_of_nodup ?_ ?_).mpr fun z=>?_⟩
 ·unfold onL
  rw [List.Nodup,List.pairwise_map]
  refine List.Pairwise.imp_of_mem ?_ (nd.sublist List.filter_sublist)
  intro a b ha hb ne e1
  have h1:=of_decide_eq_true (List.mem_filter.mp ha).2
  have h2:=of_decide_eq_true (List.mem_filter.mp hb).2
  exact ne (Prod.ext (h1.trans h2.symm) e1)
 ·rw [List.Nodup,List.pairwise_map]
  refine List.Pairwise.imp ?_ (ic.nd.sublist (List.take_sublist m pm))
  intro a b ne e
  have e:(a:Int)=(b:Int):=e
  exact ne (by omega)
 ·rw [←e z]
  unfold onL
  rw [List.mem_map]
  constructor
  ·rintro ⟨k,h,rfl⟩
   have h1:=List.mem_filter.mp h
   rw [←of_decide_eq_true h1.2]
   exact (hk k).mp h1.1
  ·intro h
   exact ⟨(p,z),List.mem_filter.mpr ⟨(hk (p,z)).mpr h,decide_eq_true rfl⟩,rfl⟩
theorem cl_of {ps:List Int} {us:List (List Int)} (perm:us.Perm ((List.range ps.length).map (kc ps))) (pw:us.Pairwise Lx):∃ pm,a4k ps pm∧us=pm.map (kc ps):=by
 have e:us=(us.map fun u=>(u.getD 1 0).toNat).map (kc ps):=by
  rw [List.map_map]
  conv=>lhs;rw [←List.map_id us]
  refine List.map_congr_left fun u hu=>?_
  obtain ⟨i,_,rfl⟩:=List.mem_map.mp (perm.mem_iff.mp hu)
  rfl
 refine ⟨us.map fun u=>(u.getD 1 0).toNat,⟨?_,by rw [←e];exact pw⟩,e⟩
 have:=perm.map fun u=>(u.getD 1 0).toNat
 rw [List.map_map] at this
 have e3:((fun u:List Int=>(u.getD 1 0).toNat) ∘ kc ps)=id:=funext fun i=>rfl
 rw [e3,List.map_id] at this
 exact this
section
variable {P:Program} {w:World} {K:PySem.W.Frag} {mg:Str→Option Value} {base:Heap} {f:Addr} {fd:FuncData}
abbrev NWy:List Str:=["prices","code","cheap","ways","word","at","knot","letters"]
abbrev PWy:List Str:=["prices","code"]
def spWy:Sp:=fun vs H Q _=>∃ (p c:Addr) (ps:List Int) (zs:List V) (cw:List (List Int)),vs=[.ref p,.ref c]∧TW H p ps∧H c=some (.tup zs)∧Ws H zs cw∧ps.length≤6∧cw.length≤7∧(∀ u∈cw,u.length≤60)∧WC ps cw∧∀ H',a0v H H'→Q (.bl true) H'
theorem b1O:a0w NWy PWy (a0c a3r):=⟨rfl,rfl,rfl,by decide +kernel,rfl,by decide +kernel,by decide +kernel⟩
theorem ndWy1:(("letter":Str) :: "price" :: NWy).Nodup:=by decide +kernel
theorem b1P:(("pair":Str) :: NWy).Nodup:=by decide +kernel
theorem hu2 {A:Around} {k:Nat} (hr:a2s k A):A.units+2 < cLine:=by have:=hu4 hr;omega
theorem a4h {H H':Hp} {k:Ky} {a:Addr} (s:a0v H H') (h:WAt H k a):WAt H' k a:=by
 obtain ⟨b,h1,h2⟩:=h
 exact ⟨b,s _ _ h1,s _ _ h2⟩
theorem a5G {H:Hp} {d:Addr} {o u:HO} {k:Ky} {a:Addr} (hd:H d=some o) (no:∀ xs,HO.tup xs≠o) (h:WAt H k a):WAt (upd H d u) k a:=by
 obtain ⟨b,h1,h2⟩:=h
 exact ⟨b,by rw [a0n (a2c h1 hd (no _))];exact h1,by rw [a0n (a2c h2 hd (no _))];exact h2⟩
def SX (d:Addr) (H H':Hp):Prop:=∀ b o,b≠d→H b=some o→H' b=some o
theorem SX.upd {d:Addr} {H H':Hp} {o:HO} (h:SX d H H'):SX d H (L2.upd H' d o):=fun b u n e=>by rw [a0n n];exact h b u n e
theorem SX.then {d:Addr} {H H1 H2:Hp} (h:SX d H H1) (s:a0v H1 H2):SX d H H2:=fun b u n e=>s _ _ (h b u n e)
theorem SX.at_ {d b:Addr} {H H':Hp} {o u:HO} (h:SX d H H') (hd:H d=some o) (n:u≠o) (e:H b=some u):H' b=some u:=h b u (a2c e hd n) e
def DW (P:Program) (w:World) (H:Hp) (d:Addr) (kvs:List (Ky × Addr × V)):Prop:=(H d=some (NDO (a0y P w) d kvs)∨(H d=some (.dK [])∧kvs=[]))∧∀ p∈kvs,WAt H p.1 p.2.1
theorem DW.same {H H':Hp} {d:Addr} {kvs:List (Ky × Addr × V)} (s:a0v H H') (h:DW P w H d kvs):DW P w H' d kvs:=⟨h.1.elim (fun e=>.inl (s _ _ e)) fun e=>.inr ⟨s _ _ e.1,e.2⟩,fun p hp=>a4h s (h.2 p hp)⟩
theorem DW.ob {H:Hp} {d:Addr} {kvs:List (Ky × Addr × V)} (h:DW P w H d kvs):∃ o,H d=some o∧∀ xs,HO.tup xs≠o:=by
 rcases h.1 with e | ⟨e,_⟩
 ·exact ⟨_,e,fun xs z=>by cases z⟩
 ·exact ⟨_,e,fun xs z=>by cases z⟩
theorem b1Q (F:Fun K "_law_ways_cheap" "_law_ways_cheap" a3r f fd) (ml:mg "len"=none) (mr:mg "range"=none) (mS:mg "sorted"=none) (me:mg "enumerate"=none):a1B P w K mg base CX0 1 f fd PWy spWy:=by
 refine F.ok (k:=0) b1O (fun vs H Q E h=>?_) (fun cdv A outer s H vs Q E hr h=>?_)
 ·obtain ⟨p,c,ps,zs,cw,rfl,_⟩:=h
  rfl
 obtain ⟨p,c,ps,zs,cw,rfl,hp,hc,hW,l6,l7,l60,wc,qq⟩:=h
 have lz:zs.length=cw.length:=hW.length
 refine ⟨_,a0f (a2N (i:=2) (M:=NWy) b1O.nd rfl rfl rfl (a0l.of (a0c a3r) NWy rfl rfl rfl (by decide +kernel) (by decide +kernel) (by decide +kernel) rfl (by decide +kernel)) b1P rfl (a5S (a0j (a3u rfl (hu4 hr)) (by rfl) mS a0M (a0a (a9u K true (M:=NWy) rfl (a0l.of (a0c a3r) NWy rfl rfl rfl (by decide +kernel) (by decide +kernel) (by decide +kernel) rfl (by decide +kernel)) ndWy1 rfl rfl (by rfl) me (a0a (pv 0) a0e) (a1H a1o a2D)
    (fun cl C s0 H0 fp pins σ bk=>⟨a0Q,a0Z (a0a (pv 1) (a0a (pv 0) a0e))⟩)) a0e))) a5T (fun cl C s0 H0 fp=>⟨a0Q,a0P (ixT K) (pv 0) a0g (fun _ _=>rfl)⟩))
   (a0f (a0u (i:=3) b1O.nd rfl (Or.inl rfl) a9k)
   (a0f (a1l PassesOwn.never rfl (a5L (pv 1)) (a0E (i:=4) b1O.nd rfl (Or.inl rfl))
    (a0h (a1l PassesOwn.never rfl (a1N (by rfl) mr (a0a (a0j a0i (by rfl) ml PySem.boot_len (a0a (pv 4) a0e)) a0e)) (a0E (i:=5) b1O.nd rfl (Or.inl rfl))
     (a0h (b1J (N:=nkW _) (hu2 hr) (pv 3) (a0Z (a0a (a1e a5f (pv 4) a1x (a1y (pv 5))) (a0a (a0P a1L (pv 4) (pv 5) (fun _ _=>rfl)) a0e))) a2G rfl)))))
   (a0f (a1l PassesOwn.never rfl (a1G (a6r (knd:=a0y P w) (M:=NWy) rfl (a0l.of (a0c a3r) NWy rfl rfl rfl (by decide +kernel) (by decide +kernel) (by decide +kernel) rfl (by decide +kernel)) b1P rfl (pv 3) a1o (fun cl C s0 H0 fp=>⟨a0Q,a0P (ixT K) (pv 0) a0g (fun _ _=>rfl)⟩))) (a0E (i:=6) b1O.nd rfl (Or.inr rfl))
    (a0f (a0u (i:=7) b1O.nd rfl (Or.inl rfl) (a0j a1X (by rfl) mS a0M (a0a (a6r (knd:=a0y P w) (M:=NWy) rfl (a0l.of (a0c a3r) NWy rfl rfl rfl (by decide +kernel) (by decide +kernel) (by decide +kernel) rfl (by decide +kernel)) b1P rfl (pv 3) a1o (fun cl C s0 H0 fp=>⟨a7F (a0o (a7I (hu4 hr)) (a0P (ixT K) (pv 0) a0g (fun _ _=>rfl)) (pv 7) (nomark _)),a0P (ixT K) (pv 0) a0g (fun _ _=>rfl)⟩)) a0e)))
    (a0h (a0Y (PW.pt (a4m (a0o a7m (a0j a0i (by rfl) ml PySem.boot_len (a0a (pv 7) a0e)) a0g (nomark _)) (a2T (a0o (a5i (hu4 hr)) (pv 7) (a0j a1X (by rfl) mS a0M (a0a (a1e a2u (pv 2) a1x (a1y (a0j a0i (by rfl) ml PySem.boot_len (a0a (pv 7) a0e)))) a0e)) (nomark _))))) (a0h (a0x a2G)) a0B))))
   (a0h (a0x a2G))))),?_⟩
 refine ⟨fun vv H1=>∃ (o:Addr) (out:List V) (pm:List Nat),vv=.ref o∧a0v H H1∧H1 o=some (.lst out)∧Ws H1 out (pm.map (kc ps))∧a4k ps pm,?_,fun vv H1 hv=>?_⟩
 ·refine ⟨_,rfl,p,_,rfl,SqT.of hp,fun d hd=>?_⟩
  refine ⟨fun i H'=>a0v H H'∧∃ ys,H' d=some (.lst ys)∧Ws H' ys ((List.range i).map (kc ps)),⟨a0d hd _,[],a0b,.nil⟩,fun i H' _ hP=>SqT.of (hP.1 _ _ hp),fun i x pp H1 hx hP hpp=>?_,fun H1 hP=>?_⟩
  ·obtain ⟨s1,ys,g1,w1⟩:=hP
   rw [List.getElem?_map] at hx
   obtain ⟨z,hz,rfl⟩:=Option.map_eq_some_iff.mp hx
   have hi:=(List.getElem?_eq_some_iff.mp hz).1
   have s2:=a0d hpp (.tup [.int i,.int z])
   generalize upd H1 pp (.tup [.int i,.int z])=H2 at s2 ⊢
   unfold a4F a6z
   refine iteT ?_
   refine ⟨_,rfl,_,rfl,(by show 2≤sizeLine;decide),fun t ht=>?_⟩
   have s3:=a0d ht (.tup [.int z,.int (i:Int)])
   have g3:TW (upd H2 t (.tup [.int z,.int (i:Int)])) t (kc ps i):=by
    show upd H2 t _ t=_
    rw [a0b]
    unfold kc
    rw [List.getD_eq_getElem?_getD,hz]
    rfl
   generalize upd H2 t (.tup [.int z,.int (i:Int)])=H3 at s3 g3 ⊢
   have s13:=s2.trans s3
   have g4:=s13 _ _ g1
   refine ⟨ys,g4,a0m (by rw [w1.length,List.length_map,List.length_range];omega),a0q hd (s1.trans s13),_,a0b,?_⟩
   rw [List.range_succ,List.map_append]
   exact Paired.appendP (Ws.upd g4 (w1.same s13)) (.cons (Wd.upd g4 (Wd.of g3)) .nil)
  ·obtain ⟨s1,ys,g1,w1⟩:=hP
   rw [List.length_map] at w1
   refine ⟨d,ys,_,rfl,g1,w1,by rw [List.length_map,List.length_range];omega,a2Q _ (b0n ps),.inr fun u hu=>?_,fun o H2 out us s2 ho g2 w2 perm pw=>?_⟩
   ·obtain ⟨i,_,rfl⟩:=List.mem_map.mp hu
    unfold kc
    simp
   ·obtain ⟨pm,ic,rfl⟩:=cl_of perm pw
    exact ⟨o,out,pm,rfl,s1.trans s2,g2,w2,ic⟩
 obtain ⟨o,out,pm,rfl,s1,g1,w1,ic⟩:=hv
 have lpm:=ic.len
 refine ⟨o,out,rfl,SqL.of g1,fun d hd=>?_⟩
 refine ⟨fun i H'=>a0v H1 H'∧H' d=some (.lst ((pm.take i).map fun a:Nat=>V.int (a:Int))),⟨a0d hd _,a0b⟩,fun i H' _ hP=>SqL.of (hP.1 _ _ g1),fun i x H' hx hP=>?_,fun H2 hP=>?_⟩
 ·obtain ⟨s2,g2⟩:=hP
  obtain ⟨v,hv,wv⟩:=Paired.right_of w1 i x hx
  rw [List.getElem?_map] at hv
  obtain ⟨t,ht,rfl⟩:=Option.map_eq_some_iff.mp hv
  obtain ⟨a,rfl,ha⟩:=Wd.ti wv
  refine a0O ⟨_,rfl,a,_,_,_,rfl,rfl,SqT.of (s2 _ _ ha),(rfl:atI ((kc ps t).map V.int) 1=some (V.int (t:Int))),_,g2,a0m (by rw [List.length_map,List.length_take];omega),a0q hd s2,?_⟩
  rw [a0b,List.take_add_one,ht,List.map_append]
  rfl
 obtain ⟨s2,g2⟩:=hP
 rw [w1.length,List.length_map,List.take_length] at g2
 have s02:=s1.trans s2
 clear s1 g1 w1 hd
 intro dw hdw
 have s3:=a0d hdw (.dK [])
 have g3:upd H2 dw (.dK []) dw=some (.dK []):=a0b
 generalize upd H2 dw (.dK [])=H3 at s3 g3 ⊢
 refine ⟨_,rfl,c,rfl,⟨_,SqT.of (s3 _ _ (s02 _ _ hc))⟩,?_⟩
 refine a5a (xs:=zs) (fun i σ H'=>a0v H2 H'∧∃ (kvs:List (Ky × Addr × V)) (x4 x5:Option V),DW P w H' dw kvs∧kvs.length≤60 * i∧(kvs.map (·.1)).Nodup∧(∀ k:Ky,k∈kvs.map (·.1)↔Ch (cw.take i) k.1 k.2)∧σ=[some (.ref p),some (.ref c),some (.ref d),some (.ref dw),x4,x5,none,none])
  ⟨s3,[],_,_,⟨.inr ⟨g3,rfl⟩,fun p hp=>(by cases hp)⟩,Nat.le_refl _,.nil,fun k=>⟨fun h=>(by cases h),fun ⟨v,hv,_⟩=>(by cases hv)⟩,rfl⟩ (fun i σ H' _ hP=>SqT.of (hP.1 _ _ (s02 _ _ hc))) (fun i y σ H4 hy hP=>?_) (fun σ H4 hP=>?_)
 ·obtain ⟨s4,kvs,x4,x5,dd,lk,nd,hk,rfl⟩:=hP
  obtain ⟨v,hv,ry⟩:=Paired.right_of hW i y hy
  obtain ⟨va,rfl,hva⟩:=Wd.ti ry
  have lv:=l60 v (List.mem_of_getElem? hv)
  have il:=(List.getElem?_eq_some_iff.mp hv).1
  have hva2:=s02 _ _ hva
  refine ⟨_,rfl,va,_,rfl,.inr (SqT.of (s4 _ _ hva2)),_,rfl,by rw [List.length_map];omega,by rw [List.length_map];omega,?_⟩
  have eN:(((v.map V.int).length:Nat):Int).toNat=v.length:=by rw [List.length_map];rfl
  rw [eN]
  refine a1A (fun j σ H'=>a0v H2 H'∧∃ (kvs:List (Ky × Addr × V)) (x5:Option V),DW P w H' dw kvs∧kvs.length≤60 * i+j∧(kvs.map (·.1)).Nodup∧(∀ k:Ky,k∈kvs.map (·.1)↔Ch (cw.take i) k.1 k.2∨k.1++[k.2] <+: v.take j)∧σ=[some (.ref p),some (.ref c),some (.ref d),some (.ref dw),some (.ref va),x5,none,none])
   ⟨s4,kvs,_,dd,lk,nd,fun k=>⟨fun h=>.inl ((hk k).mp h),fun h=>h.elim (fun h=>(hk k).mpr h) fun h=>absurd h (by rw [List.take_zero];exact no_pre)⟩,rfl⟩ (fun j σ H5 hj hP=>?_) (fun σ H5 hP=>?_)
  ·obtain ⟨s5,kvs,x5,dd,lk,nd,hk,rfl⟩:=hP
   have e0:(0:Int)+(j:Int)=((j:Nat):Int):=by omega
   rw [e0]
   have hva5:=s5 _ _ hva2
   refine ⟨_,rfl,_,rfl,_,rfl,_,rfl,va,_,rfl,hva5,fun p6 H6 s6 hp6=>?_⟩
   rw [a3t,←List.map_take] at hp6
   refine ⟨_,rfl,_,rfl,va,_,_,_,rfl,rfl,SqT.of (s6 _ _ hva5),a2b (List.getElem?_eq_getElem hj),(by show 2≤sizeLine;decide),fun t ht=>?_⟩
   have s7:=a0d ht (.tup [.ref p6,.int v[j]])
   have g7:upd H6 t (.tup [.ref p6,.int v[j]]) t=some (.tup [.ref p6,.int v[j]]):=a0b
   generalize upd H6 t (.tup [.ref p6,.int v[j]])=H7 at s7 g7 ⊢
   have s57:=s6.trans s7
   have at7:WAt H7 (v.take j,v[j]) t:=⟨p6,g7,s7 _ _ hp6⟩
   have dd7:=dd.same s57
   obtain ⟨ob,hob,nob⟩:=dd7.ob
   refine ⟨dw,t,(v.take j,v[j]),kvs,rfl,rfl,dd7,at7,a0m (by omega),a0q hdw (s5.trans s57),nput kvs (v.take j,v[j]) t (.bl true),_,⟨.inl a0b,?_⟩,?_,b1L nd,fun k=>?_,rfl⟩
   ·exact b1M (R:=fun k a=>WAt (upd H7 dw (NDO (a0y P w) dw (nput kvs (v.take j,v[j]) t (.bl true)))) k a) (fun p hp=>a5G hob nob (dd7.2 p hp)) (a5G hob nob at7)
   ·have:=a6p (kvs:=kvs) (k:=(v.take j,v[j])) (a:=t) (v:=.bl true)
    omega
   ·rw [a9L,hk k,a9N hj]
    show _↔_∨k=_∨_
    constructor
    ·rintro ((h | h) | h)
     ·exact .inl h
     ·exact .inr (.inr h)
     ·exact .inr (.inl h)
    ·rintro (h | h | h)
     ·exact .inl (.inl h)
     ·exact .inr h
     ·exact .inl (.inr h)
  ·obtain ⟨s5,kvs,x5,dd,lk,nd,hk,rfl⟩:=hP
   exact ⟨s5,kvs,_,_,dd,by omega,nd,fun k=>by rw [hk k,List.take_length,b1N hv],rfl⟩
 obtain ⟨s4,kvs,x4,x5,dd,lk,nd,hk,rfl⟩:=hP
 rw [lz,List.take_length] at hk
 rw [lz] at lk
 have lk:kvs.length≤420:=by omega
 have nw4:L2.NW (a0y P w) H4 dw kvs:=dd.1.elim (fun e=>.inl (.inl e)) fun e=>.inr e
 obtain ⟨ob0,hob0,nob0⟩:=dd.ob
 refine ⟨_,rfl,dw,kvs,rfl,nw4,fun ob d5 hd5=>?_⟩
 have s5:a0v H2 (upd H4 dw (.frz ob (NDO (a0y P w) dw kvs))):=a0q hdw s4
 have f5:upd H4 dw (.frz ob (NDO (a0y P w) dw kvs)) dw=some (.frz ob (NDO (a0y P w) dw kvs)):=a0b
 have a5:∀ p∈kvs,WAt (upd H4 dw (.frz ob (NDO (a0y P w) dw kvs))) p.1 p.2.1:=fun p hp=>a5G hob0 nob0 (dd.2 p hp)
 have hd5:upd H4 dw (.frz ob (NDO (a0y P w) dw kvs)) d5=none:=hd5
 have z5:a0v (upd H4 dw (.frz ob (NDO (a0y P w) dw kvs))) (upd (upd H4 dw (.frz ob (NDO (a0y P w) dw kvs))) d5 (.lst [])):=a0d hd5 _
 generalize e5:upd H4 dw (.frz ob (NDO (a0y P w) dw kvs))=H5 at hd5 s5 f5 a5 z5
 refine ⟨fun i H'=>a0v H5 H'∧∃ ys,H' d5=some (.lst ys)∧Ws H' ys ((kvs.map fun p=>p.1.1).take i),⟨by subst e5;exact z5,[],a0b,.nil⟩,fun i H' _ hP=>hP.1 _ _ f5,fun i q H' hq hP=>?_,fun H6 hP=>?_⟩
 ·obtain ⟨s6,ys,g6,w6⟩:=hP
  have il:=(List.getElem?_eq_some_iff.mp hq).1
  obtain ⟨b,h1,h2⟩:=a4h s6 (a5 q (List.mem_of_getElem? hq))
  refine a0O ⟨_,rfl,q.2.1,_,_,_,rfl,rfl,SqT.of h1,rfl,ys,g6,a0m (by rw [w6.length,List.length_take];omega),a0q hd5 s6,_,a0b,?_⟩
  rw [List.take_add_one,List.getElem?_map,hq]
  exact Paired.appendP (Ws.upd g6 w6) (.cons (Wd.upd g6 (Wd.of (w:=q.1.1) h2)) .nil)
 obtain ⟨s6,ys5,g6,w6⟩:=hP
 rw [List.take_of_length_le (by rw [List.length_map];omega)] at w6
 have f6:=s6 _ _ f5
 have a6:∀ p∈kvs,WAt H6 p.1 p.2.1:=fun p hp=>a4h s6 (a5 p hp)
 have s26:=s5.trans s6
 have g26:=s26 _ _ g2
 have ly5:ys5.length=kvs.length:=by rw [w6.length,List.length_map]
 refine ⟨d5,rfl,⟨_,SqL.of g6⟩,?_⟩
 refine a1V (xs:=ys5) (fun i σ H'=>SX dw H6 H'∧a0v H2 H'∧NW1 (a0y P w) H' dw kvs∧∃ x6 x7:Option V,σ=[some (.ref p),some (.ref c),some (.ref d),some (.ref dw),x4,x5,x6,x7])
  ⟨fun b o _ e=>e,s26,.inr ⟨ob,f6⟩,_,_,rfl⟩ (fun i σ H' _ hP=>SqL.of (hP.1.at_ f6 (by intro z;cases z) g6)) (fun i y σ H7 hy hP=>?_) (fun σ H7 hP=>?_)
 ·obtain ⟨x7,s7,n7,y6,y7,rfl⟩:=hP
  obtain ⟨pw,hpw,ry⟩:=Paired.right_of w6 i y hy
  rw [List.getElem?_map] at hpw
  obtain ⟨q0,hq0,rfl⟩:=Option.map_eq_some_iff.mp hpw
  obtain ⟨ya,rfl,hya⟩:=Wd.ti ry
  obtain ⟨pm',m,ic',m2,mL,per⟩:=a9O nd hk wc (p:=q0.1.1) (y:=q0.1.2) (List.mem_map_of_mem (List.mem_of_getElem? hq0))
  cases ic.uniq ic'
  refine ⟨_,rfl,dw,kvs,rfl,.inl n7,fun ob7 d8 hd8=>?_⟩
  have x8:SX dw H6 (upd H7 dw (.frz ob7 (NDO (a0y P w) dw kvs))):=x7.upd
  have s8:a0v H2 (upd H7 dw (.frz ob7 (NDO (a0y P w) dw kvs))):=a0q hdw s7
  have f8:upd H7 dw (.frz ob7 (NDO (a0y P w) dw kvs)) dw=some (.frz ob7 (NDO (a0y P w) dw kvs)):=a0b
  have hd8:upd H7 dw (.frz ob7 (NDO (a0y P w) dw kvs)) d8=none:=hd8
  have z8:a0v (upd H7 dw (.frz ob7 (NDO (a0y P w) dw kvs))) (upd (upd H7 dw (.frz ob7 (NDO (a0y P w) dw kvs))) d8 (.lst [])):=a0d hd8 _
  generalize e8:upd H7 dw (.frz ob7 (NDO (a0y P w) dw kvs))=H8 at hd8 x8 s8 f8 z8
  have hya8:=x8.at_ f6 (by intro z;cases z) hya
  refine ⟨fun j H'=>a0v H8 H'∧H' d8=some (.lst ((onL ((kvs.map (·.1)).take j) q0.1.1).map V.int)),⟨by subst e8;exact z8,a0b⟩,fun j H' _ hP=>hP.1 _ _ f8,fun j q H' hq hP=>?_,fun H9 hP=>?_⟩
  ·obtain ⟨s9,g9⟩:=hP
   have jl:=(List.getElem?_eq_some_iff.mp hq).1
   obtain ⟨b,h1,h2⟩:=a6 q (List.mem_of_getElem? hq)
   have h1:=s9 _ _ (x8.at_ f6 (by intro z;cases z) h1)
   have h2:=s9 _ _ (x8.at_ f6 (by intro z;cases z) h2)
   have et:onL ((kvs.map (·.1)).take (j+1)) q0.1.1=onL ((kvs.map (·.1)).take j) q0.1.1++(if q.1.1=q0.1.1 then [q.1.2] else []):=by
    unfold onL
    rw [List.take_add_one,List.getElem?_map,hq,List.filter_append,List.map_append]
    refine congrArg _ ?_
    show ([q.1].filter _).map _=_
    rw [List.filter_cons]
    by_cases z:q.1.1=q0.1.1
    ·rw [if_pos (decide_eq_true z),if_pos z];rfl
    ·rw [if_neg (fun y=>z (of_decide_eq_true y)),if_neg z];rfl
   refine ⟨_,rfl,q.2.1,_,_,_,rfl,rfl,SqT.of h1,rfl,_,rfl,_,_,a1n h2,a1n (s9 _ _ hya8),_,rfl,?_⟩
   refine a2v (fun z=>?_) (fun z=>?_)
   ·have z1:=of_decide_eq_true z
    refine ⟨_,rfl,q.2.1,_,_,_,rfl,rfl,SqT.of h1,rfl,_,g9,a0m ?_,a0q hd8 s9,?_⟩
    ·rw [List.length_map]
     unfold onL
     rw [List.length_map]
     refine Nat.le_trans (List.length_filter_le _ _) ?_
     rw [List.length_take,List.length_map]
     omega
    ·rw [a0b,et,if_pos z1,List.map_append]
     rfl
   ·have z1:¬ q.1.1=q0.1.1:=fun y=>z (decide_eq_true y)
    exact ⟨s9,by rw [g9,et,if_neg z1,List.append_nil]⟩
  obtain ⟨s9,g9⟩:=hP
  rw [List.take_of_length_le (by rw [List.length_map];omega)] at g9
  have lon:(onL (kvs.map (·.1)) q0.1.1).length=m:=by
   rw [per.length_eq,List.length_map,List.length_take,lpm]
   omega
  refine ⟨d8,_,rfl,.inl g9,by omega,fun o8 HA sA hnA gA=>?_⟩
  have sM:srt (onL (kvs.map (·.1)) q0.1.1)=srt ((pm.take m).map fun a:Nat=>(a:Int)):=a4K per
  have lsr:((srt (onL (kvs.map (·.1)) q0.1.1)).map V.int).length=m:=by rw [List.length_map,a1c,lon]
  have s2A:=(s8.trans s9).trans sA
  refine ⟨_,rfl,o8,_,rfl,.inl (SqL.of gA),_,_,rfl,rfl,_,rfl,?_⟩
  rw [lsr]
  refine a2v (fun z=>absurd (of_decide_eq_true z) (by omega)) (fun _=>?_)
  refine ⟨_,rfl,_,rfl,_,rfl,o8,_,rfl,.inl (SqL.of gA),_,rfl,d,_,rfl,SqL.of (s2A _ _ g2),fun eC hC=>?_⟩
  rw [lsr,a3t,←List.map_take]
  have sC:=a0d hC (.lst ((pm.take m).map fun a:Nat=>V.int (a:Int)))
  have gC:upd HA eC (.lst ((pm.take m).map fun a:Nat=>V.int (a:Int))) eC=some (.lst (((pm.take m).map fun a:Nat=>(a:Int)).map V.int)):=by rw [a0b,List.map_map];rfl
  generalize upd HA eC (.lst ((pm.take m).map fun a:Nat=>V.int (a:Int)))=HC at sC gC ⊢
  refine ⟨eC,_,rfl,.inl gC,by rw [List.length_map,List.length_take];omega,fun oD HD sD hnD gD=>?_⟩
  rw [←sM] at gD
  have sCD:=sC.trans sD
  refine ⟨o8,oD,_,_,rfl,rfl,sCD _ _ gA,gD,_,rfl,?_⟩
  rw [decide_eq_true rfl]
  have s9D:=(s9.trans sA).trans sCD
  exact a3I ⟨x8.then s9D,s8.trans s9D,.inr ⟨ob7,s9D _ _ f8⟩,_,_,rfl⟩
 ·exact qq H7 (s02.trans hP.2.1)
end
theorem a9P {xs ys:List Int} (h:xs.Perm ys):xs.sum=ys.sum:=by
 induction h with
 | nil=>rfl
 | cons x _ ih=>rw [List.sum_cons,List.sum_cons,ih]
 | swap x y l=>rw [List.sum_cons,List.sum_cons,List.sum_cons,List.sum_cons];omega
 | trans _ _ ih1 ih2=>exact ih1.trans ih2
theorem a9Q {ws:List Int} {pl:List Nat} (perm:pl.Perm (List.range ws.length)) (pw:(pl.map (ko ws)).Pairwise Lx):heavy ws=pl.map fun t=>ws.getD t 0:=by
 unfold heavy
 have:(pl.map fun t=>ws.getD t 0).reverse=srt ws:=by
  refine a2E ((List.reverse_perm _).trans ?_) ?_
  ·have:=perm.map fun t=>ws.getD t 0
   rw [a4T] at this
   exact this
  ·rw [List.pairwise_reverse,List.pairwise_map]
   rw [List.pairwise_map] at pw
   exact pw.imp fun z=>by have:=(lx2 z).1;omega
 rw [←this,List.reverse_reverse]
theorem b1R {ps ws:List Int} {us cw:List (List Int)} {pl:List Nat} (ow:Own ws us pl cw) (lu:us.length=ws.length):coZ ps ws cw=due ws (us.map (pc ps)):=by
 have lc:cw.length=ws.length:=by rw [ow.pu.length_eq,lu]
 have lp:pl.length=ws.length:=by rw [ow.perm.length_eq,List.length_range]
 unfold coZ due
 have e1:List.zipWith (fun x ns=>x * pc ps ns) ws cw=(List.range ws.length).map fun t=>ws.getD t 0 * pc ps (cw.getD t []):=by
  refine List.ext_getElem (by rw [List.length_zipWith,List.length_map,List.length_range];omega) fun i h1 h2=>?_
  rw [List.length_map,List.length_range] at h2
  rw [List.getElem_zipWith,List.getElem_map,List.getElem_range,List.getD_eq_getElem?_getD,List.getElem?_eq_getElem h2,List.getD_eq_getElem?_getD,List.getElem?_eq_getElem (by omega)]
  rfl
 have e2:List.zipWith (fun w c=>w * c) (heavy ws) (us.map (pc ps))=pl.map fun t=>ws.getD t 0 * pc ps (cw.getD t []):=by
  rw [a9Q ow.perm ow.pw]
  refine List.ext_getElem (by rw [List.length_zipWith,List.length_map,List.length_map,List.length_map];omega) fun i h1 h2=>?_
  rw [List.length_map] at h2
  have hc:=ow.at_ i _ _ (List.getElem?_eq_getElem h2) (List.getElem?_eq_getElem (show i < us.length by omega))
  rw [List.getElem_zipWith,List.getElem_map,List.getElem_map,List.getElem_map,List.getD_eq_getElem?_getD (l:=cw),hc]
  rfl
 rw [e1,e2]
 exact (a9P (ow.perm.map _)).symm
section
variable {P:Program} {w:World} {K:PySem.W.Frag} {mg:Str→Option Value} {base:Heap} {f:Addr} {fd:FuncData}
abbrev NLw:List Str:=["script","prices","weights","cell","row","handed","code"]
def a9R (K:PySem.W.Frag) (T1 T2:Addr):Sp:=fun vs H Q _=>∃ (a:Addr) (ns:List Int),vs=[.ref a]∧SqL K H a (ns.map V.int)∧ns.length≤63∧Tb T1 T2 H∧∀ H',Q (.bl true) H'
theorem a5H:a0w NLw ["script"] (a0c a9x):=⟨rfl,rfl,rfl,by decide +kernel,rfl,by decide +kernel,by decide +kernel⟩
theorem five {i:Int} (h0:0≤i) (h1:i < 5):atI [V.int 7,.int 6,.int 6,.int 6,.int 6] i=some (.int (if i=0 then 7 else 6)):=by
 have h:i=0∨i=1∨i=2∨i=3∨i=4:=by omega
 rcases h with h | h | h | h | h <;> subst h <;> rfl
theorem ok_law {e:Addr} {ed:FuncData} {T1 T2:Addr} (F:Fun K "law" "law" a9x e ed) (GP:Fns P w K mg base ["script"] "_law_prices" (a4e K) 7) (GW:Fns P w K mg base ["script","most"] "_law_weights" (a3h K) 7) (GR:Fns P w K mg base PRo "_law_row" b1C 7) (GO:Fns P w K mg base PCo "code_of_moves" (b1B T1 T2) 7) (GC:Fns P w K mg base ["code","letters","things"] "_law_code_right" spCr 7) (GD:Fns P w K mg base NC "_law_due_cost" a8J 7) (GS:Fns P w K mg base PCo "_law_spent" (spSn K) 7) (GI:Fns P w K mg base PIo "_law_in_order" spIo 7) (GY:Fns P w K mg base PWy "_law_ways_cheap" spWy 7) (ml:mg "len"=none) (mL:mg "list"=none):a1B P w K mg base CX0 8 e ed ["script"] (a9R K T1 T2):=by
 refine F.ok (k:=7) a5H (fun vs H Q E h=>?_) (fun cdv A outer s H vs Q E hr h=>?_)
 ·obtain ⟨a,ns,rfl,_⟩:=h
  rfl
 obtain ⟨a,ns,rfl,hS,h63,tab,q⟩:=h
 refine ⟨_,a0f (a0u (i:=1) a5H.nd rfl (Or.inl rfl) (a0s GP.ok hr (by rfl) GP.m GP.kp GP.b .nil a0N (a0a (pv 0) a0e)))
  (a0f (a0u (i:=2) a5H.nd rfl (Or.inl rfl) (a0s GW.ok hr (by rfl) GW.m GW.kp GW.b .nil a0N (a0a (pv 0) (a0a (a0P a1z (a2a (a0a a0g (a0a a0g (a0a a0g (a0a a0g (a0a a0g a0e)))))) (a0r a1Z (a0j a0i (by rfl) ml PySem.boot_len (a0a (pv 1) a0e)) a0g) (fun _ _=>rfl)) a0e))))
  (a0f (a1l PassesOwn.never rfl (a1G (a0r a9Y (a1e a2u (pv 0) (a1y a0g) a1x) (a2a (a0a a0g a0e)))) (a0E (i:=3) a5H.nd rfl (Or.inl rfl))
   (a0f (a0u (i:=4) a5H.nd rfl (Or.inl rfl) (a0s GR.ok hr (by rfl) GR.m GR.kp GR.b .nil a0N (a0a (a0j a0i (by rfl) ml PySem.boot_len (a0a (pv 1) a0e)) (a0a (a0j a0i (by rfl) ml PySem.boot_len (a0a (pv 2) a0e)) (a0a (pv 3) a0e)))))
   (a0f (a0u (i:=5) a5H.nd rfl (Or.inl rfl) (a1m a4v (by rfl) mL b_list (a0a (pv 4) a0e)))
   (a0f (a0u (i:=6) a5H.nd rfl (Or.inl rfl) (a0s GO.ok hr (by rfl) GO.m GO.kp GO.b .nil a0N (a0a (pv 1) (a0a (pv 2) (a0a (pv 5) a0e)))))
   (a0f (a0Y (PW.pt (a4m (a0o (a5i (hu4 hr)) (pv 5) (pv 4) (nomark _)) (a2T (a2U (a2S (a0s GC.ok hr (by rfl) GC.m GC.kp GC.b .nil a0N (a0a (pv 6) (a0a (a0j a0i (by rfl) ml PySem.boot_len (a0a (pv 1) a0e)) (a0a (a0j a0i (by rfl) ml PySem.boot_len (a0a (pv 2) a0e)) a0e))))))))) (a0h (a0x a2G)) a0B)
   (a0f (a0Y (a0o a8S (a0s GD.ok hr (by rfl) GD.m GD.kp GD.b .nil a0N (a0a (pv 1) (a0a (pv 2) (a0a (pv 6) a0e)))) (a0s GS.ok hr (by rfl) GS.m GS.kp GS.b .nil a0N (a0a (pv 1) (a0a (pv 2) (a0a (pv 4) a0e)))) (nomark _)) (a0h (a0x a2G)) a0B)
   (a0h (a0Y (PW.pt (a4m (a2U (a2S (a0s GI.ok hr (by rfl) GI.m GI.kp GI.b .nil a0N (a0a (pv 1) (a0a (pv 2) (a0a (pv 6) a0e)))))) (a2T (a2U (a2S (a0s GY.ok hr (by rfl) GY.m GY.kp GY.b .nil a0N (a0a (pv 1) (a0a (pv 6) a0e)))))))) (a0h (a0x a2G)) a0B))))))))
  (a0h (a0x a2G)))),?_⟩
 refine ⟨_,rfl,a,ns,rfl,hS,fun p ps H1 s1 hp p2 p6 bp=>?_⟩
 refine ⟨_,rfl,(by show 5≤sizeLine;decide),fun o1 ho1=>?_⟩
 have s2:=a0d ho1 (.lst [V.int 7,.int 6,.int 6,.int 6,.int 6])
 have g2:upd H1 o1 (.lst [V.int 7,.int 6,.int 6,.int 6,.int 6]) o1=some (.lst [V.int 7,.int 6,.int 6,.int 6,.int 6]):=a0b
 generalize upd H1 o1 (.lst [V.int 7,.int 6,.int 6,.int 6,.int 6])=H2 at s2 g2 ⊢
 have e5:=five (i:=(((ps.map V.int).length:Nat):Int) - 2) (by rw [List.length_map];omega) (by rw [List.length_map];omega)
 refine ⟨_,rfl,p,_,rfl,.inr (SqT.of (s2 _ _ hp)),_,_,rfl,rfl,o1,_,_,_,rfl,rfl,SqL.of g2,e5,?_⟩
 refine ⟨a,ns,_,rfl,(s1.trans s2).seq hS,by split <;> omega,by split <;> omega,fun q' ws H3 s3 hq w1 w7 bw=>?_⟩
 have hw7:(ws.length:Int)≤(if ps.length=2 then 7 else 6):=by
  refine Int.le_trans w7 ?_
  rw [List.length_map]
  split <;> split <;> omega
 have s23:=s2.trans s3
 have hp3:TW H3 p ps:=s23 _ _ hp
 have tD:=s1.trans s23
 clear w7 e5 g2
 have em:a4j (ns.map V.int) (some 15) none=(ns.drop 15).map V.int:=by rw [List.map_drop];exact a3N (ns.map V.int) 15
 refine ⟨_,rfl,_,rfl,a,_,rfl,tD.seq hS,fun c1 hc1=>?_⟩
 rw [em]
 have lm:(ns.drop 15).length≤63:=by rw [List.length_drop];omega
 generalize ns.drop 15=ms at lm
 have sE:=a0d hc1 (.lst (ms.map V.int))
 have gE:upd H3 c1 (.lst (ms.map V.int)) c1=some (.lst (ms.map V.int)):=a0b
 generalize upd H3 c1 (.lst (ms.map V.int))=HE at sE gE ⊢
 refine ⟨(by show 1≤sizeLine;decide),fun c2 hc2=>?_⟩
 have sF:=a0d hc2 (.lst [.int 0])
 have gF:upd HE c2 (.lst [.int 0]) c2=some (.lst (([0]:List Int).map V.int)):=a0b
 generalize upd HE c2 (.lst [.int 0])=HF at sF gF ⊢
 refine ⟨c1,c2,_,_,rfl,rfl,sF _ _ gE,gF,Nat.le_of_lt (a0m (by rw [List.length_map,List.length_map];show ms.length+1≤1000;omega)),fun c3 hc3=>?_⟩
 rw [←List.map_append]
 have sG:=a0d hc3 (.lst ((ms++[0]).map V.int))
 have gG:upd HF c3 (.lst ((ms++[0]).map V.int)) c3=some (.lst ((ms++[0]).map V.int)):=a0b
 generalize upd HF c3 (.lst ((ms++[0]).map V.int))=HG at sG gG ⊢
 have sDG:=(sE.trans sF).trans sG
 have kG:Kp T1 T2 H HG:=.of tab (tD.trans sDG)
 have hpG:TW HG p ps:=sDG _ _ hp3
 have hqG:TW HG q' ws:=sDG _ _ hq
 have lps:(ps.map V.int).length=ps.length:=List.length_map ..
 have lws:(ws.map V.int).length=ws.length:=List.length_map ..
 refine ⟨c3,rfl,⟨_,SqL.of gG⟩,?_⟩
 refine a1V (xs:=(ms++[0]).map V.int) (fun i σ H'=>Kp T1 T2 HG H'∧∃ (x3 x4 x5 x6:Option V),σ=[some (.ref a),some (.ref p),some (.ref q'),x3,x4,x5,x6])
  ⟨.of kG.tb (a0v.refl _),_,_,_,_,rfl⟩ (fun i σ H' _ hP=>SqL.of (hP.1.lst gG)) (fun i x σ H4 hx hP=>?_) (fun σ H4 hP=>q H4)
 obtain ⟨k4,x3,x4,x5,x6,rfl⟩:=hP
 rw [List.getElem?_map] at hx
 obtain ⟨c,hc,rfl⟩:=Option.map_eq_some_iff.mp hx
 have hp4:=k4.tup hpG
 have hq4:=k4.tup hqG
 refine ⟨_,rfl,p,_,rfl,.inr (SqT.of hp4),_,rfl,q',_,rfl,.inr (SqT.of hq4),_,rfl,?_⟩
 rw [lps,lws]
 refine ⟨ps.length,ws.length,c,rfl,p2,by omega,w1,by split at hw7 <;> omega,fun r rs H6 s6 n6 g6 l6 ld=>?_⟩
 have k6:=k4.then s6
 refine ⟨_,rfl,r,_,rfl,.inl (SqL.of g6),fun hd hhd=>?_⟩
 have s7:=a0d hhd (.lst (rs.map V.int))
 have g7:upd H6 hd (.lst (rs.map V.int)) hd=some (.lst (rs.map V.int)):=a0b
 generalize upd H6 hd (.lst (rs.map V.int))=H7 at s7 g7 ⊢
 have g6':=s7 _ _ g6
 have k7:=k6.then s7
 refine ⟨_,rfl,_,rfl,_,rfl,p,q',hd,ps,ws,rs,rfl,k7.tup hpG,k7.tup hqG,g7,by omega,p2,p6,w1,hw7,bp.bw,bw.bw,k7.tb,ld,fun t zs us pl cw H8 k78 ht hW ow cd=>?_⟩
 have k8:=k7.trans k78
 have lcw:cw.length=ws.length:=by rw [ow.pu.length_eq,cd.ln]
 have w7':ws.length≤7:=by split at hw7 <;> omega
 refine ⟨_,rfl,_,rfl,hd,r,rs,rs,rfl,rfl,k78.lst g7,k78.lst g6',_,rfl,?_⟩
 rw [show (!decide (rs=rs))=false by rw [decide_eq_true rfl];rfl]
 refine a3I ?_
 refine ⟨_,rfl,_,rfl,p,_,rfl,.inr (SqT.of (k8.tup hpG)),_,rfl,q',_,rfl,.inr (SqT.of (k8.tup hqG)),?_⟩
 rw [lps,lws]
 refine ⟨t,zs,cw,ps.length,ws.length,rfl,ht,hW,lcw,by omega,PF.perm cd.pf ow.pu,fun u hu=>(cd.lt u (ow.pu.mem_iff.mp hu)).1,fun H9 s9=>?_⟩
 refine ⟨_,rfl,a3I ?_⟩
 have k9:=k8.then s9
 have ht9:=s9 _ _ ht
 have hW9:=hW.same s9
 refine ⟨_,rfl,_,rfl,_,rfl,p,q',ps,ws,.ref t,cw,rfl,k9.tup hpG,k9.tup hqG,⟨t,zs,rfl,ht9,hW9⟩,lcw,by omega,fun u hu=>⟨(cd.lt u (ow.pu.mem_iff.mp hu)).1,by have:=(cd.lt u (ow.pu.mem_iff.mp hu)).2;omega⟩,bp.bw,bw.bw,fun HA sA=>?_⟩
 have kA:=k9.then sA
 refine ⟨_,rfl,_,rfl,_,rfl,p,q',r,ps,ws,rs,rfl,kA.tup hpG,kA.tup hqG,sA _ _ (s9 _ _ (k78.lst g6')),by omega,p2,p6,w1,hw7,bp.bw,bw.bw,ld,fun HB sB=>?_⟩
 have kB:=kA.then sB
 refine ⟨rfl,_,rfl,?_⟩
 rw [decide_eq_true (by rw [b1R ow cd.ln,cd.sp])]
 refine a3I ?_
 have s9B:=sA.trans sB
 have htB:=s9B _ _ ht9
 have hWB:=hW9.same s9B
 refine ⟨_,rfl,_,rfl,_,rfl,p,q',t,ps,ws,zs,us,cw,pl,rfl,kB.tup hpG,kB.tup hqG,htB,hWB,w7',cd.ln,ow,cd.up,cd.lt,fun HC sC=>?_⟩
 refine ⟨_,rfl,a3I ?_⟩
 have kC:=kB.then sC
 refine ⟨_,rfl,_,rfl,p,t,ps,zs,cw,rfl,kC.tup hpG,sC _ _ htB,hWB.same sC,p6,by omega,fun u hu=>(cd.lt u (ow.pu.mem_iff.mp hu)).2,cd.wc.congr fun v=>ow.pu.mem_iff.symm,fun HD sD=>?_⟩
 exact ⟨_,rfl,a3I ⟨kC.then sD,_,_,_,_,rfl⟩⟩
end
theorem al1 {α:Type} {P:List α→Prop} (h:∀ a0:α,P [a0]):∀ us:List α,us.length=1→P us
 | [a0],_=>h a0
theorem al2 {α:Type} {P:List α→Prop} (h:∀ a0 a1:α,P [a0,a1]):∀ us:List α,us.length=2→P us
 | [a0,a1],_=>h a0 a1
theorem al3 {α:Type} {P:List α→Prop} (h:∀ a0 a1 a2:α,P [a0,a1,a2]):∀ us:List α,us.length=3→P us
 | [a0,a1,a2],_=>h a0 a1 a2
theorem al4 {α:Type} {P:List α→Prop} (h:∀ a0 a1 a2 a3:α,P [a0,a1,a2,a3]):∀ us:List α,us.length=4→P us
 | [a0,a1,a2,a3],_=>h a0 a1 a2 a3
theorem all_mk {T1 T2:Addr} {ts:List Addr} (hT1:T1∈ts) (hT2:T2∈ts) (hne:T1≠T2) {l:PySem.W.OpenLaw} {w:World} {K:PySem.W.Frag} {h:Heap} {mg:Str→Option Value} {fa f1 f2 f3 f4 f5 f6 f7 f8 f9 f10 f11 f12 f13 f14 f15 f16 f17 f18 f19 f20 f21 f22 f23 f24 f25 f26 f27:Addr} (X:K.In h) (G:h.Ns mainGlobals mg) (hfa:mg "law"=some (.ref fa))
  {od1 an1 od2 an2 od3 an3 od4 an4 od5 an5 od6 an6 od7 an7 od8 an8 od9 an9 od10 an10 od11 an11 od12 an12 od13 an13 od14 an14 od15 an15 od16 an16 od17 an17 od18 an18 od19 an19 od20 an20 od21 an21 od22 an22 od23 an23 od24 an24 od25 an25 od26 an26 od27 an27:Option Addr} {sl1 sl2 sl3 sl4 sl5 sl6 sl7 sl8 sl9 sl10 sl11 sl12 sl13 sl14 sl15 sl16 sl17 sl18 sl19 sl20 sl21 sl22 sl23 sl24 sl25 sl26 sl27:Array (Option Value)}
  {oc1 kV1 dc1 pm1 cd1 ct1 oc2 kV2 dc2 pm2 cd2 ct2 oc3 kV3 dc3 pm3 cd3 ct3 oc4 kV4 dc4 pm4 cd4 ct4 oc5 kV5 dc5 pm5 cd5 ct5 oc6 kV6 dc6 pm6 cd6 ct6 oc7 kV7 dc7 pm7 cd7 ct7 oc8 kV8 dc8 pm8 cd8 ct8 oc9 kV9 dc9 pm9 cd9 ct9 oc10 kV10 dc10 pm10 cd10 ct10 oc11 kV11 dc11 pm11 cd11 ct11 oc12 kV12 dc12 pm12 cd12 ct12 oc13 kV13 dc13 pm13 cd13 ct13 oc14 kV14 dc14 pm14 cd14 ct14 oc15 kV15 dc15 pm15 cd15 ct15 oc16 kV16 dc16 pm16 cd16 ct16 oc17 kV17 dc17 pm17 cd17 ct17 oc18 kV18 dc18 pm18 cd18 ct18 oc19 kV19 dc19 pm19 cd19 ct19 oc20 kV20 dc20 pm20 cd20 ct20 oc21 kV21 dc21 pm21 cd21 ct21 oc22 kV22 dc22 pm22 cd22 ct22 oc23 kV23 dc23 pm23 cd23 ct23 oc24 kV24 dc24 pm24 cd24 ct24 oc25 kV25 dc25 pm25 cd25 ct25 oc26 kV26 dc26 pm26 cd26 ct26 oc27 kV27 dc27 pm27 cd27 ct27:Value}
  (a1:PySem.W.nsIn K mainGlobals "has_letters_alone"=some (some (.ref f1))) (l1:K.lookup f1=some ⟨oc1,od1,.func (PySem.W.fnOf "has_letters_alone" "has_letters_alone" (a0t a3f) (a0p a3f) (a0c a3f) .none kV1 dc1 pm1 an1 cd1 ct1),sl1⟩) (c1:PySem.W.codeIn K cd1 "has_letters_alone"=true) (k1:PySem.W.keepIn K (.ref f1)=true)
  (a2:PySem.W.nsIn K mainGlobals "word_price"=some (some (.ref f2))) (l2:K.lookup f2=some ⟨oc2,od2,.func (PySem.W.fnOf "word_price" "word_price" (a0t a2g) (a0p a2g) (a0c a2g) .none kV2 dc2 pm2 an2 cd2 ct2),sl2⟩) (c2:PySem.W.codeIn K cd2 "word_price"=true) (k2:PySem.W.keepIn K (.ref f2)=true)
  (a3:PySem.W.nsIn K mainGlobals "refuse_many"=some (some (.ref f3))) (l3:K.lookup f3=some ⟨oc3,od3,.func (PySem.W.fnOf "refuse_many" "refuse_many" (a0t a2z) (a0p a2z) (a0c a2z) .none kV3 dc3 pm3 an3 cd3 ct3),sl3⟩) (c3:PySem.W.codeIn K cd3 "refuse_many"=true) (k3:PySem.W.keepIn K (.ref f3)=true)
  (a4:PySem.W.nsIn K mainGlobals "moves"=some (some (.ref f4))) (l4:K.lookup f4=some ⟨oc4,od4,.func (PySem.W.fnOf "moves" "moves" (a0t a3y) (a0p a3y) (a0c a3y) .none kV4 dc4 pm4 an4 cd4 ct4),sl4⟩) (c4:PySem.W.codeIn K cd4 "moves"=true) (k4:PySem.W.keepIn K (.ref f4)=true)
  (a5:PySem.W.nsIn K mainGlobals "move_to"=some (some (.ref f5))) (l5:K.lookup f5=some ⟨oc5,od5,.func (PySem.W.fnOf "move_to" "move_to" (a0t a5y) (a0p a5y) (a0c a5y) .none kV5 dc5 pm5 an5 cd5 ct5),sl5⟩) (c5:PySem.W.codeIn K cd5 "move_to"=true) (k5:PySem.W.keepIn K (.ref f5)=true)
  (a6:PySem.W.nsIn K mainGlobals "weight_left"=some (some (.ref f6))) (l6:K.lookup f6=some ⟨oc6,od6,.func (PySem.W.fnOf "weight_left" "weight_left" (a0t a6U) (a0p a6U) (a0c a6U) .none kV6 dc6 pm6 an6 cd6 ct6),sl6⟩) (c6:PySem.W.codeIn K cd6 "weight_left"=true) (k6:PySem.W.keepIn K (.ref f6)=true)
  (a7:PySem.W.nsIn K mainGlobals "code_of_moves"=some (some (.ref f7))) (l7:K.lookup f7=some ⟨oc7,od7,.func (PySem.W.fnOf "code_of_moves" "code_of_moves" (a0t b1V) (a0p b1V) (a0c b1V) .none kV7 dc7 pm7 an7 cd7 ct7),sl7⟩) (c7:PySem.W.codeIn K cd7 "code_of_moves"=true) (k7:PySem.W.keepIn K (.ref f7)=true)
  (a8:PySem.W.nsIn K mainGlobals "led_to"=some (some (.ref f8))) (l8:K.lookup f8=some ⟨oc8,od8,.func (PySem.W.fnOf "led_to" "led_to" (a0t b1W) (a0p b1W) (a0c b1W) .none kV8 dc8 pm8 an8 cd8 ct8),sl8⟩) (c8:PySem.W.codeIn K cd8 "led_to"=true) (k8:PySem.W.keepIn K (.ref f8)=true)
  (a9:PySem.W.nsIn K mainGlobals "cheap_letters"=some (some (.ref f9))) (l9:K.lookup f9=some ⟨oc9,od9,.func (PySem.W.fnOf "cheap_letters" "cheap_letters" (a0t a1r) (a0p a1r) (a0c a1r) .none kV9 dc9 pm9 an9 cd9 ct9),sl9⟩) (c9:PySem.W.codeIn K cd9 "cheap_letters"=true) (k9:PySem.W.keepIn K (.ref f9)=true)
  (a10:PySem.W.nsIn K mainGlobals "opened"=some (some (.ref f10))) (l10:K.lookup f10=some ⟨oc10,od10,.func (PySem.W.fnOf "opened" "opened" (a0t a1T) (a0p a1T) (a0c a1T) .none kV10 dc10 pm10 an10 cd10 ct10),sl10⟩) (c10:PySem.W.codeIn K cd10 "opened"=true) (k10:PySem.W.keepIn K (.ref f10)=true)
  (a11:PySem.W.nsIn K mainGlobals "in_own_order"=some (some (.ref f11))) (l11:K.lookup f11=some ⟨oc11,od11,.func (PySem.W.fnOf "in_own_order" "in_own_order" (a0t a7a) (a0p a7a) (a0c a7a) .none kV11 dc11 pm11 an11 cd11 ct11),sl11⟩) (c11:PySem.W.codeIn K cd11 "in_own_order"=true) (k11:PySem.W.keepIn K (.ref f11)=true)
  (a12:PySem.W.nsIn K mainGlobals "_law_cell_at"=some (some (.ref f12))) (l12:K.lookup f12=some ⟨oc12,od12,.func (PySem.W.fnOf "_law_cell_at" "_law_cell_at" (a0t a6V) (a0p a6V) (a0c a6V) .none kV12 dc12 pm12 an12 cd12 ct12),sl12⟩) (c12:PySem.W.codeIn K cd12 "_law_cell_at"=true) (k12:PySem.W.keepIn K (.ref f12)=true)
  (a13:PySem.W.nsIn K mainGlobals "_law_amount"=some (some (.ref f13))) (l13:K.lookup f13=some ⟨oc13,od13,.func (PySem.W.fnOf "_law_amount" "_law_amount" (a0t a2A) (a0p a2A) (a0c a2A) .none kV13 dc13 pm13 an13 cd13 ct13),sl13⟩) (c13:PySem.W.codeIn K cd13 "_law_amount"=true) (k13:PySem.W.keepIn K (.ref f13)=true)
  (a14:PySem.W.nsIn K mainGlobals "_law_prices"=some (some (.ref f14))) (l14:K.lookup f14=some ⟨oc14,od14,.func (PySem.W.fnOf "_law_prices" "_law_prices" (a0t a2h) (a0p a2h) (a0c a2h) .none kV14 dc14 pm14 an14 cd14 ct14),sl14⟩) (c14:PySem.W.codeIn K cd14 "_law_prices"=true) (k14:PySem.W.keepIn K (.ref f14)=true)
  (a15:PySem.W.nsIn K mainGlobals "_law_weights"=some (some (.ref f15))) (l15:K.lookup f15=some ⟨oc15,od15,.func (PySem.W.fnOf "_law_weights" "_law_weights" (a0t a1u) (a0p a1u) (a0c a1u) .none kV15 dc15 pm15 an15 cd15 ct15),sl15⟩) (c15:PySem.W.codeIn K cd15 "_law_weights"=true) (k15:PySem.W.keepIn K (.ref f15)=true)
  (a16:PySem.W.nsIn K mainGlobals "_law_drawn"=some (some (.ref f16))) (l16:K.lookup f16=some ⟨oc16,od16,.func (PySem.W.fnOf "_law_drawn" "_law_drawn" (a0t a3A) (a0p a3A) (a0c a3A) .none kV16 dc16 pm16 an16 cd16 ct16),sl16⟩) (c16:PySem.W.codeIn K cd16 "_law_drawn"=true) (k16:PySem.W.keepIn K (.ref f16)=true)
  (a17:PySem.W.nsIn K mainGlobals "_law_lawful"=some (some (.ref f17))) (l17:K.lookup f17=some ⟨oc17,od17,.func (PySem.W.fnOf "_law_lawful" "_law_lawful" (a0t a2B) (a0p a2B) (a0c a2B) .none kV17 dc17 pm17 an17 cd17 ct17),sl17⟩) (c17:PySem.W.codeIn K cd17 "_law_lawful"=true) (k17:PySem.W.keepIn K (.ref f17)=true)
  (a18:PySem.W.nsIn K mainGlobals "_law_row"=some (some (.ref f18))) (l18:K.lookup f18=some ⟨oc18,od18,.func (PySem.W.fnOf "_law_row" "_law_row" (a0t a6W) (a0p a6W) (a0c a6W) .none kV18 dc18 pm18 an18 cd18 ct18),sl18⟩) (c18:PySem.W.codeIn K cd18 "_law_row"=true) (k18:PySem.W.keepIn K (.ref f18)=true)
  (a19:PySem.W.nsIn K mainGlobals "_law_whole"=some (some (.ref f19))) (l19:K.lookup f19=some ⟨oc19,od19,.func (PySem.W.fnOf "_law_whole" "_law_whole" (a0t a3z) (a0p a3z) (a0c a3z) .none kV19 dc19 pm19 an19 cd19 ct19),sl19⟩) (c19:PySem.W.codeIn K cd19 "_law_whole"=true) (k19:PySem.W.keepIn K (.ref f19)=true)
  (a20:PySem.W.nsIn K mainGlobals "_law_clashes"=some (some (.ref f20))) (l20:K.lookup f20=some ⟨oc20,od20,.func (PySem.W.fnOf "_law_clashes" "_law_clashes" (a0t a1Y) (a0p a1Y) (a0c a1Y) .none kV20 dc20 pm20 an20 cd20 ct20),sl20⟩) (c20:PySem.W.codeIn K cd20 "_law_clashes"=true) (k20:PySem.W.keepIn K (.ref f20)=true)
  (a21:PySem.W.nsIn K mainGlobals "_law_code_right"=some (some (.ref f21))) (l21:K.lookup f21=some ⟨oc21,od21,.func (PySem.W.fnOf "_law_code_right" "_law_code_right" (a0t a3B) (a0p a3B) (a0c a3B) .none kV21 dc21 pm21 an21 cd21 ct21),sl21⟩) (c21:PySem.W.codeIn K cd21 "_law_code_right"=true) (k21:PySem.W.keepIn K (.ref f21)=true)
  (a22:PySem.W.nsIn K mainGlobals "_law_price"=some (some (.ref f22))) (l22:K.lookup f22=some ⟨oc22,od22,.func (PySem.W.fnOf "_law_price" "_law_price" (a0t a2i) (a0p a2i) (a0c a2i) .none kV22 dc22 pm22 an22 cd22 ct22),sl22⟩) (c22:PySem.W.codeIn K cd22 "_law_price"=true) (k22:PySem.W.keepIn K (.ref f22)=true)
  (a23:PySem.W.nsIn K mainGlobals "_law_due_cost"=some (some (.ref f23))) (l23:K.lookup f23=some ⟨oc23,od23,.func (PySem.W.fnOf "_law_due_cost" "_law_due_cost" (a0t b1m) (a0p b1m) (a0c b1m) .none kV23 dc23 pm23 an23 cd23 ct23),sl23⟩) (c23:PySem.W.codeIn K cd23 "_law_due_cost"=true) (k23:PySem.W.keepIn K (.ref f23)=true)
  (a24:PySem.W.nsIn K mainGlobals "_law_spent"=some (some (.ref f24))) (l24:K.lookup f24=some ⟨oc24,od24,.func (PySem.W.fnOf "_law_spent" "_law_spent" (a0t a3g) (a0p a3g) (a0c a3g) .none kV24 dc24 pm24 an24 cd24 ct24),sl24⟩) (c24:PySem.W.codeIn K cd24 "_law_spent"=true) (k24:PySem.W.keepIn K (.ref f24)=true)
  (a25:PySem.W.nsIn K mainGlobals "_law_in_order"=some (some (.ref f25))) (l25:K.lookup f25=some ⟨oc25,od25,.func (PySem.W.fnOf "_law_in_order" "_law_in_order" (a0t a2F) (a0p a2F) (a0c a2F) .none kV25 dc25 pm25 an25 cd25 ct25),sl25⟩) (c25:PySem.W.codeIn K cd25 "_law_in_order"=true) (k25:PySem.W.keepIn K (.ref f25)=true)
  (a26:PySem.W.nsIn K mainGlobals "_law_ways_cheap"=some (some (.ref f26))) (l26:K.lookup f26=some ⟨oc26,od26,.func (PySem.W.fnOf "_law_ways_cheap" "_law_ways_cheap" (a0t a3r) (a0p a3r) (a0c a3r) .none kV26 dc26 pm26 an26 cd26 ct26),sl26⟩) (c26:PySem.W.codeIn K cd26 "_law_ways_cheap"=true) (k26:PySem.W.keepIn K (.ref f26)=true)
  (a27:PySem.W.nsIn K mainGlobals "law"=some (some (.ref f27))) (l27:K.lookup f27=some ⟨oc27,od27,.func (PySem.W.fnOf "law" "law" (a0t a9x) (a0p a9x) (a0c a9x) .none kV27 dc27 pm27 an27 cd27 ct27),sl27⟩) (c27:PySem.W.codeIn K cd27 "law"=true) (k27:PySem.W.keepIn K (.ref f27)=true)
  (z1:PySem.W.nsIn K mainGlobals "len"=some none)
  (z2:PySem.W.nsIn K mainGlobals "range"=some none)
  (z3:PySem.W.nsIn K mainGlobals "isinstance"=some none)
  (z4:PySem.W.nsIn K mainGlobals "int"=some none)
  (z5:PySem.W.nsIn K mainGlobals "tuple"=some none)
  (z6:PySem.W.nsIn K mainGlobals "list"=some none)
  (z7:PySem.W.nsIn K mainGlobals "sum"=some none)
  (z8:PySem.W.nsIn K mainGlobals "sorted"=some none)
  (z9:PySem.W.nsIn K mainGlobals "min"=some none)
  (z10:PySem.W.nsIn K mainGlobals "zip"=some none)
  (z11:PySem.W.nsIn K mainGlobals "all"=some none)
  (z12:PySem.W.nsIn K mainGlobals "enumerate"=some none)
  (z13:PySem.W.nsIn K mainGlobals "bool"=some none)
  {cA:Addr} (hcA:cd9=.ref cA)
  (lhA:PySem.W.codeHdIn K cA T1=true)
  {cB:Addr} (hcB:cd11=.ref cB)
  (lhB:PySem.W.codeHdIn K cB T2=true)
  {aF bF:Addr} (gF:PySem.W.nsIn K mainGlobals "FIRST"=some (some (.ref aF)))
  {dF:Option Addr} {tF:Tok} {nF:Nat} {eF:Array (Option Value)} (lF:K.lookup aF=some ⟨.type "tuple",dF,.seq #[.int 0 tF,.ref bF] nF,eF⟩)
  {dG:Option Addr} {tG:Tok} {nG:Nat} {eG:Array (Option Value)} (lG:K.lookup bF=some ⟨.type "tuple",dG,.seq #[.int 0 tG] nG,eG⟩) :
  ∃ fd:FuncData,(∀ (s:Shared) (v:Value),BindsTo s fd ⟨[v],[]⟩ [("script",v)])∧∀ base:Heap,K.In base→base.Ns mainGlobals mg→(∃ bm,L2.BMod mg base ts bm)→a1B l.prog w K mg base CX0 8 fa fd ["script"] (a9R K T1 T2):=by
 have e:=hfa.symm.trans (PySem.W.mg_of X G a27)
 cases e
 have F1:=a0I (st:=a3f) l1 c1 k1
 have m1:=PySem.W.mg_of X G a1
 have b1:=F1.binds (ps:=["word","letters"]) fun _ _ _ _ _ _=>al2 fun _ _=>rfl
 have F2:=a0I (st:=a2g) l2 c2 k2
 have m2:=PySem.W.mg_of X G a2
 have b2:=F2.binds (ps:=["prices","word"]) fun _ _ _ _ _ _=>al2 fun _ _=>rfl
 have F3:=a0I (st:=a2z) l3 c3 k3
 have m3:=PySem.W.mg_of X G a3
 have b3:=F3.binds (ps:=["prices","weights"]) fun _ _ _ _ _ _=>al2 fun _ _=>rfl
 have F4:=a0I (st:=a3y) l4 c4 k4
 have m4:=PySem.W.mg_of X G a4
 have b4:=F4.binds (ps:=["prices","weights","frontier"]) fun _ _ _ _ _ _=>al3 fun _ _ _=>rfl
 have F5:=a0I (st:=a5y) l5 c5 k5
 have m5:=PySem.W.mg_of X G a5
 have b5:=F5.binds (ps:=["weights","number","settled","gaps"]) fun _ _ _ _ _ _=>al4 fun _ _ _ _=>rfl
 have F6:=a0I (st:=a6U) l6 c6 k6
 have m6:=PySem.W.mg_of X G a6
 have b6:=F6.binds (ps:=["weights","settled"]) fun _ _ _ _ _ _=>al2 fun _ _=>rfl
 have F7:=a0I (st:=b1V) l7 c7 k7
 have m7:=PySem.W.mg_of X G a7
 have b7:=F7.binds (ps:=["prices","weights","row"]) fun _ _ _ _ _ _=>al3 fun _ _ _=>rfl
 have F8:=a0I (st:=b1W) l8 c8 k8
 have m8:=PySem.W.mg_of X G a8
 have b8:=F8.binds (ps:=["prices","weights","frontier","number"]) fun _ _ _ _ _ _=>al4 fun _ _ _ _=>rfl
 have F9:=a0I (st:=a1r) l9 c9 k9
 have m9:=PySem.W.mg_of X G a9
 have b9:=F9.binds (ps:=["prices"]) fun _ _ _ _ _ _=>al1 fun _=>rfl
 have F10:=a0I (st:=a1T) l10 c10 k10
 have m10:=PySem.W.mg_of X G a10
 have b10:=F10.binds (ps:=["prices","word","many"]) fun _ _ _ _ _ _=>al3 fun _ _ _=>rfl
 have F11:=a0I (st:=a7a) l11 c11 k11
 have m11:=PySem.W.mg_of X G a11
 have b11:=F11.binds (ps:=["weights","words"]) fun _ _ _ _ _ _=>al2 fun _ _=>rfl
 have F12:=a0I (st:=a6V) l12 c12 k12
 have m12:=PySem.W.mg_of X G a12
 have b12:=F12.binds (ps:=["script","k"]) fun _ _ _ _ _ _=>al2 fun _ _=>rfl
 have F13:=a0I (st:=a2A) l13 c13 k13
 have m13:=PySem.W.mg_of X G a13
 have b13:=F13.binds (ps:=["cell"]) fun _ _ _ _ _ _=>al1 fun _=>rfl
 have F14:=a0I (st:=a2h) l14 c14 k14
 have m14:=PySem.W.mg_of X G a14
 have b14:=F14.binds (ps:=["script"]) fun _ _ _ _ _ _=>al1 fun _=>rfl
 have F15:=a0I (st:=a1u) l15 c15 k15
 have m15:=PySem.W.mg_of X G a15
 have b15:=F15.binds (ps:=["script","most"]) fun _ _ _ _ _ _=>al2 fun _ _=>rfl
 have F16:=a0I (st:=a3A) l16 c16 k16
 have m16:=PySem.W.mg_of X G a16
 have b16:=F16.binds (ps:=["cell","many","size"]) fun _ _ _ _ _ _=>al3 fun _ _ _=>rfl
 have F17:=a0I (st:=a2B) l17 c17 k17
 have m17:=PySem.W.mg_of X G a17
 have b17:=F17.binds (ps:=["letters","things","settled","knots"]) fun _ _ _ _ _ _=>al4 fun _ _ _ _=>rfl
 have F18:=a0I (st:=a6W) l18 c18 k18
 have m18:=PySem.W.mg_of X G a18
 have b18:=F18.binds (ps:=["letters","things","cell"]) fun _ _ _ _ _ _=>al3 fun _ _ _=>rfl
 have F19:=a0I (st:=a3z) l19 c19 k19
 have m19:=PySem.W.mg_of X G a19
 have b19:=F19.binds (ps:=["found"]) fun _ _ _ _ _ _=>al1 fun _=>rfl
 have F20:=a0I (st:=a1Y) l20 c20 k20
 have m20:=PySem.W.mg_of X G a20
 have b20:=F20.binds (ps:=["code"]) fun _ _ _ _ _ _=>al1 fun _=>rfl
 have F21:=a0I (st:=a3B) l21 c21 k21
 have m21:=PySem.W.mg_of X G a21
 have b21:=F21.binds (ps:=["code","letters","things"]) fun _ _ _ _ _ _=>al3 fun _ _ _=>rfl
 have F22:=a0I (st:=a2i) l22 c22 k22
 have m22:=PySem.W.mg_of X G a22
 have b22:=F22.binds (ps:=["prices","word"]) fun _ _ _ _ _ _=>al2 fun _ _=>rfl
 have F23:=a0I (st:=b1m) l23 c23 k23
 have m23:=PySem.W.mg_of X G a23
 have b23:=F23.binds (ps:=["prices","weights","code"]) fun _ _ _ _ _ _=>al3 fun _ _ _=>rfl
 have F24:=a0I (st:=a3g) l24 c24 k24
 have m24:=PySem.W.mg_of X G a24
 have b24:=F24.binds (ps:=["prices","weights","row"]) fun _ _ _ _ _ _=>al3 fun _ _ _=>rfl
 have F25:=a0I (st:=a2F) l25 c25 k25
 have m25:=PySem.W.mg_of X G a25
 have b25:=F25.binds (ps:=["prices","weights","code"]) fun _ _ _ _ _ _=>al3 fun _ _ _=>rfl
 have F26:=a0I (st:=a3r) l26 c26 k26
 have m26:=PySem.W.mg_of X G a26
 have b26:=F26.binds (ps:=["prices","code"]) fun _ _ _ _ _ _=>al2 fun _ _=>rfl
 have F27:=a0I (st:=a9x) l27 c27 k27
 have m27:=PySem.W.mg_of X G a27
 have B_len:=PySem.W.mg_none_of X G z1
 have B_range:=PySem.W.mg_none_of X G z2
 have B_isinstance:=PySem.W.mg_none_of X G z3
 have B_int:=PySem.W.mg_none_of X G z4
 have B_tuple:=PySem.W.mg_none_of X G z5
 have B_list:=PySem.W.mg_none_of X G z6
 have B_sum:=PySem.W.mg_none_of X G z7
 have B_sorted:=PySem.W.mg_none_of X G z8
 have B_min:=PySem.W.mg_none_of X G z9
 have B_zip:=PySem.W.mg_none_of X G z10
 have B_all:=PySem.W.mg_none_of X G z11
 have B_enumerate:=PySem.W.mg_none_of X G z12
 have B_bool:=PySem.W.mg_none_of X G z13
 refine ⟨PySem.W.fnOf "law" "law" (a0t a9x) (a0p a9x) (a0c a9x) .none kV27 dc27 pm27 an27 cd27 ct27,fun s v=>.of_eq rfl,fun base _ _ hBM=>?_⟩
 have FS:Fst K mg aF bF:=⟨PySem.W.mg_of X G gF,fun H=>.inr ⟨_,_,_,lF,rfl,rfl,(by show 2≤sizeLine;decide),.cons ⟨_,rfl⟩ (.cons rfl .nil)⟩,fun H=>.inr ⟨_,_,_,lG,rfl,rfl,(by show 1≤sizeLine;decide),.cons ⟨_,rfl⟩ .nil⟩⟩
 have B1:Fns l.prog w K mg base ["word","letters"] "has_letters_alone" a5C 1:=⟨_,_,a9F F1 B_all,b1,k1,m1⟩
 have B2:Fns l.prog w K mg base ["prices","word"] "word_price" spPp 4:=⟨_,_,(a8B F2 B1 B_len B_sum).mono (by decide),b2,k2,m2⟩
 have B3:Fns l.prog w K mg base ["prices","weights"] "refuse_many" a2P 1:=⟨_,_,a8m F3 B_len,b3,k3,m3⟩
 have B6:Fns l.prog w K mg base ["weights","settled"] "weight_left" a8n 1:=⟨_,_,b1q F6 B_len B_sorted B_sum,b6,k6,m6⟩
 have B5:Fns l.prog w K mg base ["weights","number","settled","gaps"] "move_to" a8o 2:=⟨_,_,b1r F5 B6 B_len B_sorted B_min B_tuple,b5,k5,m5⟩
 have B4:Fns l.prog w K mg base ["prices","weights","frontier"] "moves" (a4d K) 3:=⟨_,_,a9A F4 (B3.up (by decide)) B5 B_len B_range B_sorted B_tuple,b4,k4,m4⟩
 have B8:Fns l.prog w K mg base PLe "led_to" (b1z K) 5:=⟨_,_,(ok_led F8 B4).mono (by decide),b8,k8,m8⟩
 obtain ⟨bm,BM⟩:=hBM
 have LC1:LamC K mg base cA T1 bm:=⟨lhA,BM.hbm,BM.bo,BM.b1,BM.b2,BM.b3 T1 hT1,BM.b4 T1 hT1⟩
 have LC2:LamC K mg base cB T2 bm:=⟨lhB,BM.hbm,BM.bo,BM.b1,BM.b2,BM.b3 T2 hT2,BM.b4 T2 hT2⟩
 have B9:Fns l.prog w K mg base NCl "cheap_letters" (spCl T1 T2) 4:=⟨_,_,a9E F9 hcA LC1 hne B_len B_sorted B_range,b9,k9,m9⟩
 have B10:Fns l.prog w K mg base POp "opened" (spOp T1 T2) 5:=⟨_,_,a8C F10 B9 B2,b10,k10,m10⟩
 have B11:Fns l.prog w K mg base POw "in_own_order" (b1y T1 T2) 5:=⟨_,_,(ok_own F11 hcB LC2 hne B_len B_sorted B_range B_zip B_tuple).mono (by decide),b11,k11,m11⟩
 have B7:Fns l.prog w K mg base PCo "code_of_moves" (b1B T1 T2) 7:=⟨_,_,(ok_com F7 FS (B3.up (by decide)) B8 B10 B11 B_len B_sorted).mono (by decide),b7,k7,m7⟩
 have B12:Fns l.prog w K mg base ["script","k"] "_law_cell_at" (a6e K) 1:=⟨_,_,b1n F12 B_len,b12,k12,m12⟩
 have B13:Fns l.prog w K mg base ["cell"] "_law_amount" a2O 1:=⟨_,_,a8l F13,b13,k13,m13⟩
 have B16:Fns l.prog w K mg base ["cell","many","size"] "_law_drawn" a5B 1:=⟨_,_,a9B F16 B_range,b16,k16,m16⟩
 have B17:Fns l.prog w K mg base PLf "_law_lawful" spLf 1:=⟨_,_,a8u F17 B_range,b17,k17,m17⟩
 have B14:Fns l.prog w K mg base ["script"] "_law_prices" (a4e K) 7:=⟨_,_,(a8r F14 B12 B13 B_range B_tuple).mono (by decide),b14,k14,m14⟩
 have B15:Fns l.prog w K mg base ["script","most"] "_law_weights" (a3h K) 7:=⟨_,_,(a6X F15 B12 B13 B_range B_tuple B_min).mono (by decide),b15,k15,m15⟩
 have B18:Fns l.prog w K mg base PRo "_law_row" b1C 7:=⟨_,_,(ok_row F18 B16 B17 B_len B_int).mono (by decide),b18,k18,m18⟩
 have B19:Fns l.prog w K mg base ["found"] "_law_whole" a5z 1:=⟨_,_,a9y F19 B_isinstance B_int B_bool,b19,k19,m19⟩
 have B20:Fns l.prog w K mg base ["code"] "_law_clashes" spCs 1:=⟨_,_,a6Y F20 B_len B_range,b20,k20,m20⟩
 have B21:Fns l.prog w K mg base ["code","letters","things"] "_law_code_right" spCr 7:=⟨_,_,(ok_cr F21 B19 B20 B_len B_isinstance B_tuple).mono (by decide),b21,k21,m21⟩
 have B22:Fns l.prog w K mg base ["prices","word"] "_law_price" a4g 1:=⟨_,_,a9I F22 B_sum,b22,k22,m22⟩
 have B23:Fns l.prog w K mg base NC "_law_due_cost" a8J 7:=⟨_,_,(b1E F23 B22 B_sum B_zip).mono (by decide),b23,k23,m23⟩
 have B24:Fns l.prog w K mg base PCo "_law_spent" (spSn K) 7:=⟨_,_,(a9J F24 B4 B_len).mono (by decide),b24,k24,m24⟩
 have B25:Fns l.prog w K mg base PIo "_law_in_order" spIo 7:=⟨_,_,(a9K F25 B22 B_len B_range B_sorted).mono (by decide),b25,k25,m25⟩
 have B26:Fns l.prog w K mg base PWy "_law_ways_cheap" spWy 7:=⟨_,_,(b1Q F26 B_len B_range B_sorted B_enumerate).mono (by decide),b26,k26,m26⟩
 exact ok_law F27 B14 B15 B18 B7 B21 B23 B24 B25 B26 B_len B_list
theorem walk {l:PySem.W.OpenLaw} {q:Program} {loose:List Str} {XP:(Str→Option Value)→Heap→Prop} {YP:World→Heap→Prop} {d:DefRec} {K:Params→PySem.W.Frag} {ts:List Addr} {T1 T2:Addr} (hT1:T1∈ts) (hT2:T2∈ts) (hn:l.most=some 63) (hdf:d.params.defaults=[])
  (hY:∀ (w:World) (h:Heap),YP w h→(K w.params).In h∧∀ T∈ts,h.get? T=some (PySem.W.tabObj #[]))
  (hC:∀ (w:World),∀ T∈ts,(∃ c,PySem.W.codeHdIn (K w.params) c T=true)∧(K w.params).lookup T=none)
  (F:∀ (w:World) (mg:Str→Option Value) (fa:Addr) (h:Heap),(K w.params).In h→h.Ns mainGlobals mg→mg d.name=some (.ref fa) →
   ∃ fd:FuncData,(∀ (s:Shared) (u:Value),BindsTo s fd ⟨[u],[]⟩ [("script",u)])∧∀ base:Heap,(K w.params).In base→base.Ns mainGlobals mg→(∃ bm,L2.BMod mg base ts bm)→a1B l.prog w (K w.params) mg base CX0 8 fa fd ["script"] (a9R (K w.params) T1 T2)) :
  PySem.W.WalkO q loose XP YP l.row.toRowW d [] (fun f vs=>PySem.call f vs) :=
 L2.a9t (n:=63) (k:=8) (x:="script") (ts:=ts) (CX:=fun _=>CX0) (sp:=fun w=>a9R (K w.params) T1 T2) hn (by decide) hdf ⟨rfl,by decide,by decide⟩ hY hC F (fun _ _ a ns hl hO hS=>⟨a,ns,rfl,hS,hl,⟨.inl (hO T1 hT1),.inl (hO T2 hT2)⟩,fun _=>rfl⟩) fun _ _ _ _ _ z=>z
end K72
namespace PySem.W.Fast
def tw10064521874563810419:=0
def tw10110220034499607202:=0
def tw10299216731285866874:=0
def tw10434211476406239300:=0
def tw10586607426912128625:=0
def tw10636763038785938511:=0
def tw10659722316906695102:=0
def tw10717492741275613795:=0
def tw10987476848475634652:=0
def tw10996826139252011875:=0
def tw11032499496415949519:=0
def tw11139632027758303229:=0
def tw112868408809059469:=0
def tw11302776943895133140:=0
def tw11670195501514804189:=0
def tw11699326724241284142:=0
def tw11958388407873305024:=0
def tw11960524908847111042:=0
def tw11995009487214099082:=0
def tw12028966084878687592:=0
def tw12091925248540280455:=0
def tw12101394773152444421:=0
def tw12172891424230984564:=0
def tw12242862244134227385:=0
def tw12277686953062688362:=0
def tw12397247897808434088:=0
def tw12475207744257944364:=0
def tw12631373068942267016:=0
def tw1273718410958546115:=0
def tw12834835941119039513:=0
def tw12843135819958679214:=0
def tw12881457070732218770:=0
def tw1299428601514010415:=0
def tw13021049666133694108:=0
def tw13082189307042388281:=0
def tw13115338619369824249:=0
def tw13141114214133737346:=0
def tw13313012630347341021:=0
def tw1336099733192694606:=0
def tw13423073186686067528:=0
def tw13519407979799217977:=0
def tw13519721708593722068:=0
def tw13671109238393831935:=0
def tw13678777326804305001:=0
def tw13683712426095634492:=0
def tw1380219065560144243:=0
def tw13807262219569212378:=0
def tw13863045592600156152:=0
def tw13867556702770207327:=0
def tw1393051505772167140:=0
def tw14003583292880521989:=0
def tw14020189571248857345:=0
def tw14118991008211880218:=0
def tw14122048452551744946:=0
def tw14449281904242019130:=0
def tw14533835652098654734:=0
def tw14561163067707468911:=0
def tw14723036107191210310:=0
def tw14808522330750696837:=0
def tw14827008297433930928:=0
def tw14875705263600388343:=0
def tw14882587446745740225:=0
def tw15144851492043594193:=0
def tw15155270300103948524:=0
def tw15203889405543996132:=0
def tw15206294553550133287:=0
def tw1522791644190495653:=0
def tw15312993604995381202:=0
def tw15688127904614143167:=0
def tw15763065110503409602:=0
def tw15901117418091994947:=0
def tw15920247831178212038:=0
def tw15938208152054705844:=0
def tw15954833381564436363:=0
def tw15966320949566315855:=0
def tw16046681018339882969:=0
def tw16145270844351125220:=0
def tw16259642604825718907:=0
def tw16267550757551072631:=0
def tw16335345692917125324:=0
def tw16394480070729282091:=0
def tw16528093009858200445:=0
def tw16555231510483384279:=0
def tw16591842453921105490:=0
def tw16633108842730933191:=0
def tw16789107778438701101:=0
def tw16841383750449064613:=0
def tw16845545102104305764:=0
def tw16944816796893130420:=0
def tw16981540456874414449:=0
def tw17024333650714609959:=0
def tw17173946934581015669:=0
def tw17202451803512010017:=0
def tw17208893490735828091:=0
def tw17244007704957513504:=0
def tw17321875683199970923:=0
def tw17331651804447891816:=0
def tw17403840435978911754:=0
def tw1748212950035801508:=0
def tw17550761966288601198:=0
def tw17687034577826168226:=0
def tw17687592006000515950:=0
def tw17759210978784663141:=0
def tw1777752525042637890:=0
def tw17979662355222049204:=0
def tw18059796055046241213:=0
def tw18244384755632686963:=0
def tw1922371267775609015:=0
def tw19604751556198362:=0
def tw1981634538261287833:=0
def tw2160725674738288928:=0
def tw2294898696846871404:=0
def tw235891207777137012:=0
def tw2546011236377016314:=0
def tw2688276036368529857:=0
def tw3134625841707074353:=0
def tw3182727638124569375:=0
def tw334453623180167672:=0
def tw3377357290316560027:=0
def tw3388575095843068043:=0
def tw3526558245201669982:=0
def tw3560480711009315137:=0
def tw3656314296797880506:=0
def tw3785666178351117242:=0
def tw3888119013777494440:=0
def tw3922822557217161755:=0
def tw4139767056797110022:=0
def tw4249204822445736122:=0
def tw4300445722580949749:=0
def tw4343211594534905710:=0
def tw4434264006614891042:=0
def tw4455453710595567075:=0
def tw4573433465914121310:=0
def tw4675648004468286328:=0
def tw4682111615693412713:=0
def tw4686738493507267060:=0
def tw4721157151838632362:=0
def tw4782160917656107888:=0
def tw4872638839081802285:=0
def tw489577554635109517:=0
def tw5006666496222721407:=0
def tw5049917945723279599:=0
def tw5113772576177234913:=0
def tw5143899751527648473:=0
def tw5147057941286105618:=0
def tw5163981676790650192:=0
def tw5190699837974877972:=0
def tw5243294917253482879:=0
def tw5270681988989336234:=0
def tw5270881391851485039:=0
def tw527191768979309201:=0
def tw5332356606378949277:=0
def tw5478958651235486172:=0
def tw5600932641449788195:=0
def tw5606152852357536242:=0
def tw5758494149712151379:=0
def tw5886085883656796448:=0
def tw5952192930183536427:=0
def tw5976798722518219481:=0
def tw6097373552196009259:=0
def tw6285182814084206465:=0
def tw6356982571173535340:=0
def tw6365642250894404603:=0
def tw6392162373496597577:=0
def tw6397789718369026666:=0
def tw6440187855017068295:=0
def tw6511922298338010783:=0
def tw6633430003445427496:=0
def tw6710769136678004046:=0
def tw6749191769515943651:=0
def tw6849799368019031131:=0
def tw6879394182325307570:=0
def tw6897271925878042936:=0
def tw6912054219931318709:=0
def tw6985081030181847532:=0
def tw7135605124999269820:=0
def tw7199680238022775943:=0
def tw7200615945573208815:=0
def tw7223594543377844693:=0
def tw7346299539167898868:=0
def tw7358021488831093844:=0
def tw7426104848658469773:=0
def tw7438394788769993742:=0
def tw7470293010118597336:=0
def tw749542553986160985:=0
def tw7639509735825540190:=0
def tw7800499182281383767:=0
def tw7827615760049867842:=0
def tw7846710792473017789:=0
def tw7882565916117039192:=0
def tw7985607841144759167:=0
def tw809818701933820001:=0
def tw8205338324351365640:=0
def tw8210276592463301218:=0
def tw8216935378022663805:=0
def tw822927072233310522:=0
def tw8249315311421174591:=0
def tw8298143896730190550:=0
def tw8367596568258818418:=0
def tw8487729439327772801:=0
def tw848807300244206743:=0
def tw850318563749261065:=0
def tw8530502246085475162:=0
def tw8589834904491908555:=0
def tw8637040802011079001:=0
def tw8717112528431318775:=0
def tw8722105342011984208:=0
def tw8768613843783818875:=0
def tw8817745749591691940:=0
def tw8842969657025370403:=0
def tw8872761635994570740:=0
def tw8898576943215339901:=0
def tw8917306101124218059:=0
def tw9131026193109232604:=0
def tw9343304604165890138:=0
def tw939039918840106544:=0
def tw9965286098843401716:=0
end PySem.W.Fast
open PySem PySem.W PyProof.Rows
set_option maxRecDepth 100000 in
set_option maxHeartbeats 0 in
theorem PySem.Challenge.cw_lettertoll_k72_whole_rows_make_codes_holds : PySem.Challenge.rw_lettertoll_k72_whole_rows_make_codes.Holds := by
 w_on;o_law;k_head;(case hw=>w_witness2)
 k_fill
 refine K72.walk (T1:=117) (T2:=129) (l:=PySem.Challenge.rw_lettertoll_k72_whole_rows_make_codes) ?hT1 ?hT2 rfl rfl (fun w h Y=>⟨PySem.W.km_in_of Y,PySem.W.km_tabs_of Y⟩) ?hC ?F
 (case hT1=>simp)
 (case hT2=>simp)
 case hC =>
  intro w T hT
  rcases List.mem_cons.mp hT with rfl | hT
  ·exact ⟨⟨131,by kernel_rfl⟩,by kernel_rfl⟩
  ·cases List.mem_singleton.mp hT;exact ⟨⟨121,by kernel_rfl⟩,by kernel_rfl⟩
 case F =>
  intro w mg fa h KX G hmg
  refine' K72.all_mk (T1:=117) (T2:=129) (by simp) (by simp) (by decide) KX G hmg ?a1 ?l1 ?c1 ?k1 ?a2 ?l2 ?c2 ?k2 ?a3 ?l3 ?c3 ?k3 ?a4 ?l4 ?c4 ?k4 ?a5 ?l5 ?c5 ?k5 ?a6 ?l6 ?c6 ?k6 ?a7 ?l7 ?c7 ?k7 ?a8 ?l8 ?c8 ?k8 ?a9 ?l9 ?c9 ?k9 ?a10 ?l10 ?c10 ?k10 ?a11 ?l11 ?c11 ?k11 ?a12 ?l12 ?c12 ?k12 ?a13 ?l13 ?c13 ?k13 ?a14 ?l14 ?c14 ?k14 ?a15 ?l15 ?c15 ?k15 ?a16 ?l16 ?c16 ?k16 ?a17 ?l17 ?c17 ?k17 ?a18 ?l18 ?c18 ?k18 ?a19 ?l19 ?c19 ?k19 ?a20 ?l20 ?c20 ?k20 ?a21 ?l21 ?c21 ?k21 ?a22 ?l22 ?c22 ?k22 ?a23 ?l23 ?c23 ?k23 ?a24 ?l24 ?c24 ?k24 ?a25 ?l25 ?c25 ?k25 ?a26 ?l26 ?c26 ?k26 ?a27 ?l27 ?c27 ?k27 ?z1 ?z2 ?z3 ?z4 ?z5 ?z6 ?z7 ?z8 ?z9 ?z10 ?z11 ?z12 ?z13 ?hcA ?lhA ?hcB ?lhB ?gF ?lF ?lG
  (case a1=>k_is);(case l1=>k_is);(case c1=>k_is);(case k1=>k_is)
  (case a2=>k_is);(case l2=>k_is);(case c2=>k_is);(case k2=>k_is)
  (case a3=>k_is);(case l3=>k_is);(case c3=>k_is);(case k3=>k_is)
  (case a4=>k_is);(case l4=>k_is);(case c4=>k_is);(case k4=>k_is)
  (case a5=>k_is);(case l5=>k_is);(case c5=>k_is);(case k5=>k_is)
  (case a6=>k_is);(case l6=>k_is);(case c6=>k_is);(case k6=>k_is)
  (case a7=>k_is);(case l7=>k_is);(case c7=>k_is);(case k7=>k_is)
  (case a8=>k_is);(case l8=>k_is);(case c8=>k_is);(case k8=>k_is)
  (case a9=>k_is);(case l9=>k_is);(case c9=>k_is);(case k9=>k_is)
  (case a10=>k_is);(case l10=>k_is);(case c10=>k_is);(case k10=>k_is)
  (case a11=>k_is);(case l11=>k_is);(case c11=>k_is);(case k11=>k_is)
  (case a12=>k_is);(case l12=>k_is);(case c12=>k_is);(case k12=>k_is)
  (case a13=>k_is);(case l13=>k_is);(case c13=>k_is);(case k13=>k_is)
  (case a14=>k_is);(case l14=>k_is);(case c14=>k_is);(case k14=>k_is)
  (case a15=>k_is);(case l15=>k_is);(case c15=>k_is);(case k15=>k_is)
  (case a16=>k_is);(case l16=>k_is);(case c16=>k_is);(case k16=>k_is)
  (case a17=>k_is);(case l17=>k_is);(case c17=>k_is);(case k17=>k_is)
  (case a18=>k_is);(case l18=>k_is);(case c18=>k_is);(case k18=>k_is)
  (case a19=>k_is);(case l19=>k_is);(case c19=>k_is);(case k19=>k_is)
  (case a20=>k_is);(case l20=>k_is);(case c20=>k_is);(case k20=>k_is)
  (case a21=>k_is);(case l21=>k_is);(case c21=>k_is);(case k21=>k_is)
  (case a22=>k_is);(case l22=>k_is);(case c22=>k_is);(case k22=>k_is)
  (case a23=>k_is);(case l23=>k_is);(case c23=>k_is);(case k23=>k_is)
  (case a24=>k_is);(case l24=>k_is);(case c24=>k_is);(case k24=>k_is)
  (case a25=>k_is);(case l25=>k_is);(case c25=>k_is);(case k25=>k_is)
  (case a26=>k_is);(case l26=>k_is);(case c26=>k_is);(case k26=>k_is)
  (case a27=>k_is);(case l27=>k_is);(case c27=>k_is);(case k27=>k_is)
  (case z1=>k_is)
  (case z2=>k_is)
  (case z3=>k_is)
  (case z4=>k_is)
  (case z5=>k_is)
  (case z6=>k_is)
  (case z7=>k_is)
  (case z8=>k_is)
  (case z9=>k_is)
  (case z10=>k_is)
  (case z11=>k_is)
  (case z12=>k_is)
  (case z13=>k_is)
  (case hcA=>rfl)
  (case lhA=>kernel_rfl)
  (case hcB=>rfl)
  (case lhB=>kernel_rfl)
  (case gF=>k_is)
  (case lF=>k_is)
  (case lG=>k_is)
