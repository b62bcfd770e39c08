import PyProof.Rows.All
import Wide.All
import OpenK.AllK
import Wide.FinOn
import Lean
import PyProof.EqAt
import PyProof.EqKinds
import PyProof.TupleCall
import PyProof.NeKinds
import PyProof.ConsumeWalk
import PyProof.SumAny
import PyProof.Rows.SumGenD
import PyProof.ZipIter
import PyProof.EnumMake
import KE.IntBitsLaws
import PyProof.WalkInts
import PyProof.MinMaxWalk
import PyProof.TupleOfSeq
import PyProof.Rows.SortShell
import PyProof.WalksS
import PyProof.SeqWrite
import PyProof.Rows.Range3
import KE.KLam
import KE.KNestM
import PySem.Challenge.RW_lettertoll_k66_no_stretches
set_option Elab.async false
set_option linter.all false
set_option maxRecDepth 100000
set_option maxHeartbeats 16000000
namespace L2
open PySem PySem.Spec PyProof.Rows
abbrev Key:=Sum Int Str
def a6Q:Key→Value→Bool
 | .inl k,v=>Value.isInt k v
 | .inr x,v=>Value.isStrOf x v
def keyH (w:World):Key→Int
 | .inl k=>hashInt k
 | .inr x=>hashStr w x
theorem a0W:∀ {k:Key} {v:Value},a6Q k v=true→(∃ i t,k=Sum.inl i∧v=Value.int i t)∨(∃ x t,k=Sum.inr x∧v=Value.str x t)
 | .inl i,v,h=>by
  obtain ⟨t,e⟩:=Value.isInt_shape (k:=i) (v:=v) h
  exact .inl ⟨i,t,rfl,e⟩
 | .inr x,v,h=>by
  obtain ⟨t,e⟩:=Value.isStrOf_shape (x:=x) (v:=v) h
  exact .inr ⟨x,t,rfl,e⟩
theorem a7E (i:Int) (t:Tok):a6Q (.inl i) (.int i t)=true:=by simp [a6Q,Value.isInt]
theorem a7F (x:Str) (t:Tok):a6Q (.inr x) (.str x t)=true:=by simp [a6Q,Value.isStrOf]
theorem key_ll (a b:Int):decide ((Sum.inl a:Key)=Sum.inl b)=(a == b):=by
 by_cases e:a=b
 ·subst e;simp
 ·have h:¬ (Sum.inl a:Key)=Sum.inl b:=fun q=>e (Sum.inl.inj q)
  rw [decide_eq_false h]
  exact (beq_eq_false_iff_ne.mpr e).symm
theorem key_rr (a b:Str):decide ((Sum.inr a:Key)=Sum.inr b)=decide (a=b):=by
 by_cases e:a=b
 ·subst e;simp
 ·have h:¬ (Sum.inr a:Key)=Sum.inr b:=fun q=>e (Sum.inr.inj q)
  rw [decide_eq_false h,decide_eq_false e]
theorem key_lr (a:Int) (b:Str):decide ((Sum.inl a:Key)=Sum.inr b)=false:=decide_eq_false (fun q=>nomatch q)
theorem key_rl (a:Str) (b:Int):decide ((Sum.inr a:Key)=Sum.inl b)=false:=decide_eq_false (fun q=>nomatch q)
def a1b (prog:Program) (w:World):PySem.KeyKind prog w Key where
 is:=a6Q
 hash:=keyH w
 inj:=fun v a b ha hb=>by
  rcases a0W ha with ⟨i,t,rfl,rfl⟩ | ⟨x,t,rfl,rfl⟩
  ·rcases a0W hb with ⟨j,u,rfl,e⟩ | ⟨y,u,rfl,e⟩
   ·injection e with e1 _;rw [e1]
   ·exact nomatch e
  ·rcases a0W hb with ⟨j,u,rfl,e⟩ | ⟨y,u,rfl,e⟩
   ·exact nomatch e
   ·injection e with e1 _;rw [e1]
 byValue:=fun k v h=>by
  rcases a0W h with ⟨i,t,rfl,rfl⟩ | ⟨x,t,rfl,rfl⟩ <;> rfl
 pyHash:=fun hv h=>by
  rcases a0W hv with ⟨i,t,rfl,rfl⟩ | ⟨x,t,rfl,rfl⟩
  ·exact wpAny_pyHash_int h
  ·exact wpAny_pyHash_str h
 eqBool:=fun hu hv h=>by
  rcases a0W hu with ⟨i,t,rfl,rfl⟩ | ⟨x,t,rfl,rfl⟩
  ·rcases a0W hv with ⟨j,u,rfl,rfl⟩ | ⟨y,u,rfl,rfl⟩
   ·rw [key_ll] at h;exact wpAny_eqBool_int h
   ·rw [key_lr] at h;exact SeqAt.EqAt.int_str i t y u _ _ _ _ h
  ·rcases a0W hv with ⟨j,u,rfl,rfl⟩ | ⟨y,u,rfl,rfl⟩
   ·rw [key_rl] at h;exact SeqAt.EqAt.str_int x t j u _ _ _ _ h
   ·rw [key_rr] at h;exact wpAny_eqBool_str h
 «strs»:=fun k x t v h=>by
  rcases a0W h with ⟨i,u,rfl,e⟩ | ⟨y,u,rfl,e⟩
  ·exact nomatch e
  ·injection e with e1 _
   subst e1
   cases v <;> rfl
theorem a5w (prog:Program) (w:World) (i:Int) (t:Tok):(a1b prog w).is (.inl i) (.int i t)=true:=a7E i t
theorem a5x (prog:Program) (w:World) (x:Str) (t:Tok):(a1b prog w).is (.inr x) (.str x t)=true:=a7F x t
inductive V where
 | non | bl (b:Bool) | int (i:Int) | str (x:Str) | byt (b:Array UInt8) | flt (b:UInt64) | ref (a:Addr) | ty (n:String)
 deriving DecidableEq
def a0U:V→Value→Prop
 | .non,u=>u=Value.none
 | .bl b,u=>u=Value.bool b
 | .int i,u=>∃ t,u=Value.int i t
 | .str x,u=>∃ t,u=Value.str x t
 | .byt b,u=>∃ t,u=Value.bytes b t
 | .flt b,u=>∃ t,u=Value.float b t
 | .ref a,u=>u=Value.ref a
 | .ty n,u=>u=Value.type n
abbrev a0K:List V→List Value→Prop:=Paired a0U
theorem a0K.length {xs:List V} {us:List Value} (r:a0K xs us):xs.length=us.length:=Paired.length r
theorem a0K.get:∀ {xs:List V} {us:List Value} {i:Nat} {x:V},a0K xs us→xs[i]?=some x→∃ u,us[i]?=some u∧a0U x u
 | _,_,_,_,.nil,e=>by simp at e
 | _,_,0,_,.cons r _,e=>by simp at e;subst e;exact ⟨_,rfl,r⟩
 | _,_,i+1,x,.cons _ t,e=>by
  obtain ⟨u,h1,h2⟩:=a0K.get (i:=i) (x:=x) t (by simpa using e)
  exact ⟨u,by simpa using h1,h2⟩
theorem a0K.set {x:V} {u:Value} (r:a0U x u):∀ {xs:List V} {us:List Value} (i:Nat),a0K xs us→a0K (xs.set i x) (us.set i u)
 | _,_,_,.nil=>.nil
 | _,_,0,.cons _ t=>.cons r t
 | _,_,i+1,.cons q t=>.cons q (a0K.set r i t)
theorem a0K.append:∀ {xs ys:List V} {us ws:List Value},a0K xs us→a0K ys ws→a0K (xs++ys) (us++ws)
 | _,_,_,_,.nil,s=>s
 | _,_,_,_,.cons r t,s=>.cons r (a0K.append t s)
theorem a0K.take:∀ {xs:List V} {us:List Value} (n:Nat),a0K xs us→a0K (xs.take n) (us.take n)
 | _,_,0,_=>.nil
 | _,_,_+1,.nil=>.nil
 | _,_,n+1,.cons r t=>.cons r (a0K.take n t)
theorem a0K.drop:∀ {xs:List V} {us:List Value} (n:Nat),a0K xs us→a0K (xs.drop n) (us.drop n)
 | _,_,0,r=>r
 | _,_,_+1,.nil=>.nil
 | _,_,n+1,.cons _ t=>a0K.drop n t
def a4L:Option V→Option Value→Prop
 | some v,some u=>a0U v u
 | none,none=>True
 | _,_=>False
def KV {κ:Type}:List (κ × V)→List (κ × Value)→Prop:=Paired fun (p:κ × V) (q:κ × Value)=>p.1=q.1∧a0U p.2 q.2
def kV:Key→V
 | .inl i=>.int i
 | .inr x=>.str x
inductive HO where
 | lst (xs:List V)
 | tup (xs:List V)
 | dK (kvs:List (Key × V)) | dT (kvs:List (List Key × V))
 | set (S:Int→Bool) (n:Nat)
 | ins (C dx:Addr) (fs:List (Str × V))
 | own (x:Addr)
 | xd (fs:List (Str × V))
 | met (f x:Addr)
 | rng (lo hi:Int)
 | frz (o:Obj) (u:HO)
 | tbl (ps:Array Value)
 | ext (φ:Heap→Prop)
abbrev Hp:=Addr→Option HO
def upd (H:Hp) (a:Addr) (o:HO):Hp:=fun b=>if b=a then some o else H b
theorem a0c {H:Hp} {a:Addr} {o:HO}:upd H a o a=some o:=by unfold upd;rw [if_pos rfl]
theorem a0j {H:Hp} {a b:Addr} {o:HO} (h:b≠a):upd H a o b=H b:=by unfold upd;rw [if_neg h]
theorem a0G {H:Hp} {a b:Addr} {o u:HO} (h:H a=some o) (h':H b=some u) (d:o≠u):a≠b:=by
 intro e;subst e;rw [h] at h';exact d (Option.some.inj h')
theorem a0J {H:Hp} {a b:Addr} {o:HO} (h:H a=some o) (h':H b=none):a≠b:=by
 intro e;subst e;rw [h] at h';cases h'
def a4M (h:Heap) (a:Addr) (items:Array Value):Prop:=∃ o,h.get? a=some o∧∃ n,o={ cls:=.type "tuple",data:=.seq items n }
theorem a4M.is {h:Heap} {a:Addr} {items:Array Value} (x:a4M h a items):IsTup h a items:=by
 obtain ⟨o,e,n,rfl⟩:=x
 exact ⟨_,e,rfl,n,rfl⟩
instance {h:Heap} {a:Addr} {items:Array Value}:Coe (a4M h a items) (IsTup h a items):=⟨a4M.is⟩
instance {h:Heap} {a:Addr} {items:Array Value}:Coe (a4M h a items) (Heap.IsTuple h a items):=⟨fun x=>x.is⟩
theorem a4M.lt {h:Heap} {a:Addr} {items:Array Value} (x:a4M h a items):a < h.objs.size:=x.is.lt
theorem a4M.new (h:Heap) (items:Array Value):a4M (h.push { cls:=.type "tuple",data:=.seq items }) h.objs.size items:=⟨_,Heap.get?_push_size _ rfl,_,rfl⟩
section
variable (P:Program) (w:World)
def a1d (H:Hp) (h:Heap) (a:Addr):HO→Prop
 | .lst xs=>xs.length≤sizeLine∧∃ (its:List Value) (n:Nat),a0K xs its∧h.get? a=some { cls:=.type "list",data:=.seq its.toArray n }
 | .tup xs=>xs.length≤sizeLine∧∃ its:List Value,a0K xs its∧a4M h a its.toArray
 | .dK kvs=>kvs.length≤sizeLine∧(a == sysModules)=false∧∃ vs,KV kvs vs∧h.DictOf (a1b P w) a vs
 | .dT kvs=>kvs.length≤sizeLine∧(a == sysModules)=false∧∃ xs:List (List Key × Addr × Value),
   Paired (fun (p:List Key × V) (q:List Key × Addr × Value)=>p.1=q.1∧H q.2.1=some (.tup (p.1.map kV))∧a0U p.2 q.2.2) kvs xs ∧
   ∃ o es ep,h.get? a=some o∧o.ExactDict∧o.data=.dict es ep∧es.toList=xs.map (entryOfKey (tupleKind (a1b P w)))∧(xs.map (·.1)).Nodup
 | .set S n=>h.SetOf (intKind P w) a S n
 | .ins C dx fs=>H dx=some (.own a)∧fs.length≤1000∧dx≠a∧h.get? a=some (PySem.W.instObj C dx) ∧
   ∃ mA,h.Ns1 dx mA∧(∀ f,a4L (fs.lookup f) (mA f))∧PySem.Within mA (fs.map (·.1))
 | .own _=>∃ o,h.get? a=some o
 | .xd fs=>∃ mA,h.Ns1 a mA∧∀ f,a4L (fs.lookup f) (mA f)
 | .rng lo hi=>∃ t u v,h.get? a=some { cls:=.type "range",data:=.fields #[.int lo t,.int hi u,.int 1 v] }
 | .frz o u=>h.get? a=some o∧a1d H h a u
 | .tbl ps=>h.get? a=some { cls:=.none,data:=.fields ps }
 | .met f x=>h.get? a=some (PySem.W.methodObj (.ref f) (.ref x))
 | .ext φ=>φ h∧(∃ o,h.get? a=some o)∧∀ h1 h2:Heap,φ h1→(∀ o,h1.get? a=some o→h2.get? a=some o)→φ h2
def HOk (H:Hp) (h:Heap):Prop:=∀ a o,H a=some o→a1d P w H h a o
end
section
variable {P:Program} {w:World} {H H':Hp} {h h':Heap} {a:Addr} {o:HO}
theorem a1d.lt (x:a1d P w H h a o):a < h.objs.size:=by
 cases o with
 | lst xs=>obtain ⟨_,_,_,_,e⟩:=x;exact Heap.lt_size e
 | tup xs=>obtain ⟨_,_,_,p⟩:=x;exact p.lt
 | dK kvs=>obtain ⟨_,_,_,_,o,_,_,e,_⟩:=x;exact Heap.lt_size e
 | dT kvs=>obtain ⟨_,_,_,_,o,_,_,e,_⟩:=x;exact Heap.lt_size e
 | set S n=>obtain ⟨o,_,_,_,e,_⟩:=x;exact Heap.lt_size e
 | ins C dx fs=>obtain ⟨_,_,_,e,_⟩:=x;exact Heap.lt_size e
 | own y=>obtain ⟨_,e⟩:=x;exact Heap.lt_size e
 | xd fs=>obtain ⟨_,⟨_,_,_,e,_⟩,_⟩:=x;exact Heap.lt_size e
 | rng lo hi=>obtain ⟨_,_,_,e⟩:=x;exact Heap.lt_size e
 | frz ob u=>obtain ⟨e,_⟩:=x;exact Heap.lt_size e
 | tbl ps=>exact Heap.lt_size (show h.get? a=some _ from x)
 | met f y=>exact Heap.lt_size (show h.get? a=some _ from x)
 | ext φ=>obtain ⟨_,⟨_,e⟩,_⟩:=x;exact Heap.lt_size e
theorem Paired.mapP {α β:Type} {F G:α→β→Prop}:∀ {l₁:List α} {l₂:List β},Paired F l₁ l₂→(∀ a b,F a b→G a b)→Paired G l₁ l₂
 | _,_,.nil,_=>.nil
 | _,_,.cons r t,f=>.cons (f _ _ r) (Paired.mapP t f)
theorem a1d.stay (x:a1d P w H h a o) (k:∀ b u,(b=a∨H b=some (.own a))→h.get? b=some u→h'.get? b=some u)
  (ho:∀ b,H b=some (.own a)→H' b=some (.own a)) (ht:∀ b xs,H b=some (.tup xs)→H' b=some (.tup xs)):a1d P w H' h' a o:=by
 induction o with
 | lst xs=>obtain ⟨z,its,n,r,e⟩:=x;exact ⟨z,its,n,r,k _ _ (.inl rfl) e⟩
 | tup xs=>obtain ⟨z,its,r,ob,e,c⟩:=x;exact ⟨z,its,r,ob,k _ _ (.inl rfl) e,c⟩
 | dK kvs=>obtain ⟨z,y,vs,r,ob,es,ep,e,c⟩:=x;exact ⟨z,y,vs,r,ob,es,ep,k _ _ (.inl rfl) e,c⟩
 | dT kvs =>
  obtain ⟨z,y,xs,r,ob,es,ep,e,c⟩:=x
  exact ⟨z,y,xs,Paired.mapP r fun p q z=>⟨z.1,ht _ _ z.2.1,z.2.2⟩,ob,es,ep,k _ _ (.inl rfl) e,c⟩
 | set S n=>obtain ⟨ob,es,ep,t,e,c⟩:=x;exact ⟨ob,es,ep,t,k _ _ (.inl rfl) e,c⟩
 | ins C dx fs =>
  obtain ⟨d,z,ne,e,mA,⟨od,es,ep,e2,c⟩,r⟩:=x
  exact ⟨ho _ d,z,ne,k _ _ (.inl rfl) e,mA,⟨od,es,ep,k _ _ (.inr d) e2,c⟩,r⟩
 | own y=>obtain ⟨ob,e⟩:=x;exact ⟨ob,k _ _ (.inl rfl) e⟩
 | xd fs=>obtain ⟨mA,⟨od,es,ep,e,c⟩,r⟩:=x;exact ⟨mA,⟨od,es,ep,k _ _ (.inl rfl) e,c⟩,r⟩
 | rng lo hi=>obtain ⟨t,u,v,e⟩:=x;exact ⟨t,u,v,k _ _ (.inl rfl) e⟩
 | frz ob u ih=>obtain ⟨e,q⟩:=x;exact ⟨k _ _ (.inl rfl) e,ih q⟩
 | tbl ps =>
  have e:h.get? a=some { cls:=.none,data:=.fields ps }:=x
  show h'.get? a=some { cls:=.none,data:=.fields ps }
  exact k a _ (.inl rfl) e
 | met f y =>
  have e:h.get? a=some (PySem.W.methodObj (.ref f) (.ref y)):=x
  show h'.get? a=some (PySem.W.methodObj (.ref f) (.ref y))
  exact k a _ (.inl rfl) e
 | ext φ=>obtain ⟨p,⟨o,e⟩,st⟩:=x;exact ⟨st _ _ p fun o q=>k _ _ (.inl rfl) q,⟨o,k _ _ (.inl rfl) e⟩,st⟩
theorem HOk.lt (x:HOk P w H h) (e:H a=some o):a < h.objs.size:=(x a o e).lt
theorem HOk.fresh (x:HOk P w H h) (e:h.objs.size≤a):H a=none:=by
 cases q:H a with
 | none=>rfl
 | some u=>exact absurd (Nat.lt_of_lt_of_le (x.lt q) e) (Nat.lt_irrefl _)
theorem HOk.kept (x:HOk P w H h) (k:∀ b u,h.get? b=some u→h'.get? b=some u):HOk P w H h':=fun a o e =>
 (x a o e).stay (fun b u _ q=>k b u q) (fun _ q=>q) fun _ _ q=>q
theorem HOk.laid (x:HOk P w H h) (k:∀ b u,h.get? b=some u→h'.get? b=some u) (hp:h.objs.size≤a) (new:a1d P w (upd H a o) h' a o):HOk P w (upd H a o) h':=fun b u e=>by
 have hn:=x.fresh hp
 by_cases hb:b=a
 ·subst hb;rw [a0c] at e;cases e;exact new
 ·rw [a0j hb] at e
  exact (x b u e).stay (fun c v _ q=>k c v q) (fun c q=>by rw [a0j (a0J q hn)];exact q) fun c xs q=>by rw [a0j (a0J q hn)];exact q
end
def Rd (H:Hp) (a:Addr) (u:HO):Prop:=H a=some u∨∃ o,H a=some (.frz o u)
theorem Rd.ok {P:Program} {w:World} {H:Hp} {h:Heap} {a:Addr} {u:HO} (r:Rd H a u) (x:HOk P w H h):a1d P w H h a u:=by
 rcases r with r | ⟨o,r⟩
 ·exact x a u r
 ·obtain ⟨_,q⟩:=x a _ r
  exact q
def Mut:Option HO→Prop
 | some (.lst _)=>True
 | some (.dK _)=>True
 | some (.dT _)=>True
 | some (.set _ _)=>True
 | some (.ins _ _ _)=>True
 | some (.ext _)=>True
 | _=>False
section
variable {P:Program} {w:World} {H:Hp} {h h':Heap} {x e:Addr} {o':HO}
theorem HOk.write (ok:HOk P w H h) (mu:Mut (H x)) (he:e=x∨H e=some (.own x)) (k:∀ b u,b≠e→h.get? b=some u→h'.get? b=some u) (heo:∃ u,h'.get? e=some u)
  (new:a1d P w (upd H x o') h' x o'):HOk P w (upd H x o') h':=fun b u q=>by
 have nown:∀ c y,H c=some (.own y)→c≠x:=fun c y r z=>by subst z;rw [r] at mu;exact mu
 have ntup:∀ c xs,H c=some (.tup xs)→c≠x:=fun c xs r z=>by subst z;rw [r] at mu;exact mu
 by_cases hb:b=x
 ·subst hb;rw [a0c] at q;cases q;exact new
 ·rw [a0j hb] at q
  by_cases hbe:b=e
  ·have q':H b=some (.own x):=by
    rcases he with z | z
    ·exact absurd (hbe.trans z) hb
    ·rw [hbe];exact z
   rw [q] at q';cases q'
   obtain ⟨v,hv⟩:=heo
   exact ⟨v,by rw [hbe];exact hv⟩
  ·refine (ok b u q).stay (fun c v hc r=>k c v ?_ r) (fun c r=>by rw [a0j (nown c b r)];exact r) fun c xs r=>by rw [a0j (ntup c xs r)];exact r
   rcases hc with rfl | hc
   ·exact hbe
   ·rintro rfl
    rcases he with z | z
    ·exact nown c b hc z
    ·rw [hc] at z;cases z;exact hb rfl
end
structure Un (fs ex:List Addr) (H H':Hp) (h h':Heap):Prop where
 keep:∀ b o,h.get? b=some o→H b=none→b∉fs→b∉ex→h'.get? b=some o
 slot:∀ b o,h.get? b=some o→H b=none→b∈fs→b∉ex→∃ sl,h'.get? b=some { o with slots:=sl }
 free:∀ b o,h.get? b=some o→H b=none→b∉ex→H' b=none
 there:∀ b o,h.get? b=some o→b∉ex→∃ o',h'.get? b=some o'
 tups:∀ b xs,H b=some (.tup xs)→H' b=some (.tup xs)
 frzs:∀ b o u,H b=some (.frz o u)→H' b=some (.frz o u)
 tbls:∀ b ps,H b=some (.tbl ps)→∃ more,H' b=some (.tbl (ps++more))
section
variable {fs fs' ex ex':List Addr} {H H1 H2:Hp} {h h1 h2 h':Heap} {a x e:Addr} {o:HO}
theorem Un.any (u:Un fs ex H H1 h h1) {b:Addr} {ob:Obj} (q:h.get? b=some ob) (n:H b=none) (hx:b∉ex):∃ sl,h1.get? b=some { ob with slots:=sl }:=by
 by_cases hb:b∈fs
 ·exact u.slot b ob q n hb hx
 ·exact ⟨ob.slots,u.keep b ob q n hb hx⟩
theorem Un.kept (k:∀ b u,h.get? b=some u→h'.get? b=some u):Un fs ex H H h h' :=
 ⟨fun b ob q _ _ _=>k b ob q,fun b ob q _ _ _=>⟨ob.slots,k b ob q⟩,fun _ _ _ n _=>n,fun b ob q _=>⟨ob,k b ob q⟩,fun _ _ q=>q,fun _ _ _ q=>q,fun _ ps q=>⟨#[],by rw [q];simp⟩⟩
theorem Un.refl:Un fs ex H H h h:=Un.kept fun _ _ q=>q
theorem Un.laid (k:∀ b u,h.get? b=some u→h'.get? b=some u) (hp:h.objs.size≤a) (hn:H a=none):Un fs ex H (upd H a o) h h' where
 keep:=fun b u q _ _ _=>k b u q
 slot:=fun b u q _ _ _=>⟨u.slots,k b u q⟩
 free:=fun b u q n _=>by rw [a0j (Nat.ne_of_lt (Nat.lt_of_lt_of_le (Heap.lt_size q) hp))];exact n
 there:=fun b u q _=>⟨u,k b u q⟩
 tups:=fun b xs q=>by rw [a0j (a0J q hn)];exact q
 frzs:=fun b u xs q=>by rw [a0j (a0J q hn)];exact q
 tbls:=fun b ps q=>⟨#[],by rw [a0j (a0J q hn),q];simp⟩
theorem Un.write (mu:Mut (H x)) (he:e=x∨H e=some (.own x)) (k:∀ b u,b≠e→h.get? b=some u→h'.get? b=some u) (heo:∃ u,h'.get? e=some u):Un fs ex H (upd H x o) h h':=by
 have hx:∀ b,H b=none→b≠x:=fun b n z=>by subst z;rw [n] at mu;exact mu
 have hb:∀ b,H b=none→b≠e:=fun b n z=>by
  subst z
  rcases he with r | r
  ·exact hx b n r
  ·rw [n] at r;cases r
 have hm:∀ b u,H b=some u→¬ Mut (some u)→b≠x:=fun b u q nm z=>by subst z;rw [q] at mu;exact nm mu
 refine ⟨fun b u q n _ _=>k b u (hb b n) q,fun b u q n _ _=>⟨u.slots,k b u (hb b n) q⟩,fun b u q n _=>by rw [a0j (hx b n)];exact n,fun b u q _=>?_,
  fun b xs q=>by rw [a0j (hm b _ q fun z=>z)];exact q,fun b u xs q=>by rw [a0j (hm b _ q fun z=>z)];exact q,fun b ps q=>⟨#[],by rw [a0j (hm b _ q fun z=>z),q];simp⟩⟩
 by_cases hbe:b=e
 ·subst hbe;exact heo
 ·exact ⟨u,k b u hbe q⟩
end
def trk (h:Heap) (H:Hp):List Addr:=(List.range h.objs.size).filter fun a=>(H a).isSome
def a9w (h:Heap) (H:Hp):Heap:=PySem.W.hideAll h (trk h H)
theorem a7G (h:Heap) (H:Hp):(a9w h H).objs.size=h.objs.size:=PySem.W.hideAll_size _ _
theorem a9D {h:Heap} {H:Hp} {b:Addr} {o:Obj} (e:h.get? b=some o) (n:H b=none):(a9w h H).get? b=some o :=
 PySem.W.hideAll_get _ e fun hm=>by
  have q:(H b).isSome=true:=(List.mem_filter.mp hm).2
  rw [n] at q;simp at q
theorem b1L {h:Heap} {H:Hp} {b:Addr} {o:Obj} (e:(a9w h H).get? b=some o):h.get? b=some o∧H b=none:=by
 have e':h.get? b=some o:=PySem.W.of_hideAll (trk h H) e
 refine ⟨e',?_⟩
 cases q:H b with
 | none=>rfl
 | some x =>
  have hm:b∈trk h H:=List.mem_filter.mpr ⟨List.mem_range.mpr (Heap.lt_size e'),by simp [q]⟩
  have z:(a9w h H).get? b=none:=PySem.W.hideAll_none (trk h H) hm
  rw [z] at e;cases e
def b1M (g h:Heap) (L:Addr):List (Addr × Obj):=(List.range h.objs.size).filterMap fun a=>if a=L∨(g.get? a).isSome=true then none else (h.get? a).map fun o=>(a,o)
def rest (g h:Heap) (L d:Addr):List (Addr × Obj):=(b1M g h L).filter fun p=>decide (p.1≠d)
structure Mod (K:PySem.W.Frag) (mg:Str→Option Value) (base:Heap):Prop where
 kin:K.In base
 glob:base.Ns mainGlobals mg
 blt:∃ mb,base.Ns builtinsNs mb∧∀ x:Str,x≠"__name__"→mb x=bootBuiltins x
 nolimit:base.NoLimit
structure Cx where
 prog:Program
 w:World
 K:PySem.W.Frag
 mg:Str→Option Value
 base:Heap
 A:Around
 N:List Str
 s₀:Shared
 H₀:Hp
 env:Env
 outer:List Env
 stack:List Env
 ex:List Addr
 fn:Str→Bool
 calm:Bool
 pn:List (Addr × Obj)
 xe:Value→Shared→Prop
def frs (l:List Env):List Addr:=l.filterMap (·.frame)
abbrev Cx.fs (X:Cx):List Addr:=frs X.outer
def Vis (sc:Scope) (x:Str):Prop:=sc.names.lookup x=some .local∨sc.names.lookup x=some .cell∨sc.names.lookup x=some .free
def Loc (sc:Scope) (x:Str):Prop:=sc.names.lookup x=some .local∨sc.names.lookup x=some .cell
def Look (env:Env) (h:Heap) (m:Str→Option Value) (x:Str) (u:Value):Prop :=
 (env.kindOf x=some .local∧m x=some u)∨((env.kindOf x=some .cell∨env.kindOf x=some .free)∧∃ c,env.cells.lookup x=some c∧h.IsCell c (some u))
structure Cx.Ok (X:Cx):Prop where
 mod:Mod X.K X.mg X.base
 kind:X.env.scope.kind=.function
 glob:X.env.globals=mainGlobals
 blt:X.env.builtins=builtinsNs
 above:X.s₀.heap.objs.size≤X.env.locals
 inj:∀ x y c,X.env.cells.lookup x=some c→X.env.cells.lookup y=some c→x=y
 has:∀ x,(X.env.kindOf x=some .cell∨X.env.kindOf x=some .free)→∃ c,X.env.cells.lookup x=some c
 cab:∀ x c,X.fn x=true→X.env.cells.lookup x=some c→X.s₀.heap.objs.size≤c
 hd:X.calm=true→X.A.handled=none
 frames:X.A.frames=some X.stack
 stk:X.stack=X.outer∨(X.stack=X.env :: X.outer∧X.env.frame=some X.env.locals)
 exf:∀ b∈X.ex,b≠X.env.locals∧∀ x c,X.env.cells.lookup x=some c→c≠b
 bs:∀ b o,X.base.get? b=some o→X.s₀.heap.get? b=some o∧X.H₀ b=none
 bsz:X.base.objs.size≤X.s₀.heap.objs.size
 noex:∀ b o,X.base.get? b=some o→b∉X.ex
 exfs:∀ b∈X.ex,b∉X.fs
 funs:X.s₀.heap.FunFrames X.base X.outer
 frf:∀ b∈X.fs,X.H₀ b=none
structure Inv (X:Cx) (pins:List (Addr × Obj)) (σ:List (Option V)) (H:Hp) (s:Shared):Prop where
 ok:X.Ok
 os:s.os=X.s₀.os
 bare:AllBare s.gens
 base:Un X.fs X.ex X.H₀ H X.s₀.heap s.heap
 loc:∃ m,s.heap.Ns X.env.locals m∧∀ (i:Nat) (x:Str) (v:V),X.N[i]?=some x→σ[i]?=some (some v)→Vis X.env.scope x→∃ u,a0U v u∧Look X.env s.heap m x u
 cell:∀ x c,X.env.cells.lookup x=some c→∃ v,s.heap.IsCell c v
 free:H X.env.locals=none
 freeC:∀ x c,X.env.cells.lookup x=some c→H c=none
 pin:∀ p∈X.pn++pins,s.heap.get? p.1=some p.2∧H p.1=none∧p.1≠X.env.locals∧p.1∉X.fs∧∀ v,p.2.data≠.cell v
 hok:HOk X.prog X.w H s.heap
 len:σ.length=X.N.length
section
variable {X:Cx} {pins:List (Addr × Obj)} {σ:List (Option V)} {H H':Hp} {s:Shared} {h':Heap}
theorem Cx.Ok.nofr (ok:X.Ok) {b:Addr} {o:Obj} (e:X.base.get? b=some o):b∉X.fs:=fun hb=>by
 have:=(ok.funs.mem hb).1
 rw [e] at this;cases this
theorem Inv.bs (I:Inv X pins σ H s):∀ b o,X.base.get? b=some o→s.heap.get? b=some o∧H b=none:=fun b o e =>
 ⟨I.base.keep b o (I.ok.bs b o e).1 (I.ok.bs b o e).2 (I.ok.nofr e) (I.ok.noex b o e),I.base.free b o (I.ok.bs b o e).1 (I.ok.bs b o e).2 (I.ok.noex b o e)⟩
theorem Inv.bk (I:Inv X pins σ H s):∀ b o,X.base.get? b=some o→s.heap.get? b=some o:=fun b o e=>(I.bs b o e).1
theorem Inv.mod (I:Inv X pins σ H s):Mod X.K X.mg X.base:=I.ok.mod
theorem Inv.kIn (I:Inv X pins σ H s):X.K.In s.heap:=I.ok.mod.kin.keeps I.bk
theorem Inv.lt (I:Inv X pins σ H s):X.env.locals < s.heap.objs.size:=let ⟨_,hn,_⟩:=I.loc;hn.lt
theorem Inv.sz (I:Inv X pins σ H s):X.s₀.heap.objs.size≤s.heap.objs.size:=Nat.le_trans I.ok.above (Nat.le_of_lt I.lt)
theorem Inv.nofs (I:Inv X pins σ H s) {a:Addr} (h:s.heap.objs.size≤a):a∉X.fs:=fun hb=>by
 obtain ⟨_,o,ho,_⟩:=I.ok.funs.mem hb
 exact absurd (Nat.lt_of_lt_of_le (Heap.lt_size ho) (Nat.le_trans I.sz h)) (Nat.lt_irrefl _)
theorem Inv.cne (I:Inv X pins σ H s):∀ x c,X.env.cells.lookup x=some c→c≠X.env.locals:=fun x c e z=>by
 obtain ⟨v,o,ho,hd⟩:=I.cell x c e
 obtain ⟨m,⟨o',es,ep,ho',hd',_⟩,_⟩:=I.loc
 rw [z,ho'] at ho;cases ho;rw [hd'] at hd;cases hd
theorem Inv.funs (I:Inv X pins σ H s):s.heap.FunFrames X.base X.outer:=by
 have all:∀ (l:List Env),(∀ b∈frs l,b∈X.fs)→X.s₀.heap.FunFrames X.base l→s.heap.FunFrames X.base l:=by
  intro l
  induction l with
  | nil=>intro _ _;trivial
  | cons env r ih =>
   intro hs hl
   obtain ⟨hk,⟨L,o,hf,hn,ho,hd⟩,hr⟩:=hl
   have hL:L∈X.fs:=hs L (by unfold frs;rw [List.filterMap_cons,hf];exact List.mem_cons_self)
   obtain ⟨sl,e⟩:=I.base.slot L o ho (I.ok.frf L hL) hL fun z=>I.ok.exfs L z hL
   exact ⟨hk,⟨L,_,hf,hn,e,hd⟩,ih (fun b hb=>hs b (by unfold frs;rw [List.filterMap_cons,hf];exact List.mem_cons_of_mem _ hb)) hr⟩
 exact all X.outer (fun _ hb=>hb) I.ok.funs
theorem Inv.stack (I:Inv X pins σ H s):s.heap.FunFrames X.base X.stack:=by
 rcases I.ok.stk with e | ⟨e,hf⟩
 ·rw [e];exact I.funs
 ·rw [e]
  obtain ⟨m,hn,_⟩:=I.loc
  refine .cons (by rw [I.ok.kind];decide) hf hn ?_ I.funs
  exact Heap.get?_none_of_le (Nat.le_trans I.ok.bsz I.ok.above)
theorem Inv.stkSub (I:Inv X pins σ H s):∀ b∈frs X.stack,b∈X.env.locals :: X.fs:=fun b hb=>by
 rcases I.ok.stk with e | ⟨e,hf⟩
 ·rw [e] at hb;exact List.mem_cons_of_mem _ hb
 ·rw [e] at hb
  unfold frs at hb
  rw [List.filterMap_cons,hf] at hb
  exact hb
theorem Inv.stkFree (I:Inv X pins σ H s):∀ b∈frs X.stack,H b=none:=fun b hb=>by
 rcases List.mem_cons.mp (I.stkSub b hb) with e | hb
 ·rw [e];exact I.free
 ·obtain ⟨_,o,ho,_⟩:=I.ok.funs.mem hb
  exact I.base.free b o ho (I.ok.frf b hb) fun z=>I.ok.exfs b z hb
theorem Inv.step {g':Array GenState} {t':Nat} {d':Drawn} {ch:List Addr} (I:Inv X pins σ H s)
  (hch:∀ b∈ch,(b∈X.ex∨X.s₀.heap.objs.size≤b)∧b≠X.env.locals∧(∀ x c,X.env.cells.lookup x=some c→c≠b)∧∀ p∈X.pn++pins,p.1≠b)
  (keep:∀ b o,b≠X.env.locals→b∉X.fs→b∉ch→s.heap.get? b=some o→H b=none→h'.get? b=some o)
  (slot:∀ b o,b≠X.env.locals→b∈X.fs→b∉ch→s.heap.get? b=some o→H b=none→∃ sl,h'.get? b=some { o with slots:=sl }) (free:∀ b o,b∉ch→s.heap.get? b=some o→H b=none→H' b=none)
  (there:∀ b o,b∉ch→s.heap.get? b=some o→∃ o',h'.get? b=some o')
  (tups:∀ b xs,H b=some (.tup xs)→H' b=some (.tup xs)) (frzs:∀ b o u,H b=some (.frz o u)→H' b=some (.frz o u)) (tbls:∀ b ps,H b=some (.tbl ps)→∃ more,H' b=some (.tbl (ps++more)))
  (ns:∀ m,s.heap.Ns X.env.locals m→h'.Ns X.env.locals m) (hok:HOk X.prog X.w H' h') (hg:AllBare g') :
  Inv X pins σ H' { s with heap:=h',gens:=g',drawn:=d',toks:=t' }:=by
 have neL:∀ b o,X.s₀.heap.get? b=some o→b≠X.env.locals:=fun b o e=>Nat.ne_of_lt (Nat.lt_of_lt_of_le (Heap.lt_size e) I.ok.above)
 have neC:∀ b o,X.s₀.heap.get? b=some o→b∉X.ex→b∉ch:=fun b o e hx hb=>by
  rcases (hch b hb).1 with z | z
  ·exact hx z
  ·exact absurd (Nat.lt_of_lt_of_le (Heap.lt_size e) z) (Nat.lt_irrefl _)
 have cellK:∀ x c,X.env.cells.lookup x=some c→∀ v,s.heap.IsCell c v→h'.IsCell c v:=fun x c e v ⟨o,ho,hd⟩=>by
  have nch:c∉ch:=fun z=>(hch c z).2.2.1 x c e rfl
  by_cases hc:c∈X.fs
  ·obtain ⟨sl,q⟩:=slot c o (I.cne x c e) hc nch ho (I.freeC x c e)
   exact ⟨_,q,hd⟩
  ·exact ⟨o,keep c o (I.cne x c e) hc nch ho (I.freeC x c e),hd⟩
 refine ⟨I.ok,I.os,hg,⟨fun b o e n hb hx=>?_,fun b o e n hb hx=>?_,fun b o e n hx=>?_,fun b o e hx=>?_,fun b xs e=>tups b xs (I.base.tups b xs e),fun b o xs e=>frzs b o xs (I.base.frzs b o xs e),fun b ps e=>?_⟩,?_,fun x c e=>?_,?_,fun x c e=>?_,fun p hp=>?_,hok,I.len⟩
 ·exact keep b o (neL b o e) hb (neC b o e hx) (I.base.keep b o e n hb hx) (I.base.free b o e n hx)
 ·obtain ⟨sl,e1⟩:=I.base.slot b o e n hb hx
  obtain ⟨sl',e2⟩:=slot b _ (neL b o e) hb (neC b o e hx) e1 (I.base.free b o e n hx)
  exact ⟨sl',e2⟩
 ·obtain ⟨o',e1⟩:=I.base.there b o e hx
  exact free b o' (neC b o e hx) e1 (I.base.free b o e n hx)
 ·obtain ⟨o',e1⟩:=I.base.there b o e hx
  exact there b o' (neC b o e hx) e1
 ·obtain ⟨m1,e1⟩:=I.base.tbls b ps e
  obtain ⟨m2,e2⟩:=tbls b _ e1
  exact ⟨m1++m2,by rw [e2,Array.append_assoc]⟩
 ·obtain ⟨m,hn,hl⟩:=I.loc
  refine ⟨m,ns m hn,fun i x v e1 e2 e3=>?_⟩
  obtain ⟨u,r,l⟩:=hl i x v e1 e2 e3
  refine ⟨u,r,?_⟩
  rcases l with l | ⟨k,c,e,z⟩
  ·exact .inl l
  ·exact .inr ⟨k,c,e,cellK x c e _ z⟩
 ·obtain ⟨v,z⟩:=I.cell x c e
  exact ⟨v,cellK x c e v z⟩
 ·obtain ⟨m,⟨o,_,_,ho,_⟩,_⟩:=I.loc
  exact free _ o (fun z=>(hch _ z).2.1 rfl) ho I.free
 ·obtain ⟨v,o,ho,hd⟩:=I.cell x c e
  exact free c o (fun z=>(hch c z).2.2.1 x c e rfl) ho (I.freeC x c e)
 ·obtain ⟨e,n,ne,nf,d⟩:=I.pin p hp
  have nch:p.1∉ch:=fun z=>(hch p.1 z).2.2.2 p hp rfl
  exact ⟨keep p.1 p.2 ne nf nch e n,free p.1 p.2 nch e n,ne,nf,d⟩
theorem Inv.un {t':Nat} (I:Inv X pins σ H s) (u:Un X.fs [] H H' s.heap h') (hok:HOk X.prog X.w H' h'):Inv X pins σ H' { s with heap:=h',toks:=t' }:=by
 obtain ⟨m,⟨o,es,ep,ho,r⟩,_⟩:=id I.loc
 obtain ⟨sl,hL⟩:=u.any ho I.free (by simp)
 exact I.step (g':=s.gens) (d':=s.drawn) (ch:=[]) (fun _ z=>nomatch z) (fun b o _ hb _ e n=>u.keep b o e n hb (by simp)) (fun b o _ hb _ e n=>u.slot b o e n hb (by simp)) (fun b o _ e n=>u.free b o e n (by simp)) (fun b o _ e=>u.there b o e (by simp)) u.tups u.frzs u.tbls (fun m' hm=>by
  obtain ⟨o',es',ep',ho',r'⟩:=hm
  rw [ho] at ho';cases ho'
  exact ⟨_,es',ep',hL,r'⟩) hok I.bare
theorem Inv.call {g':Array GenState} {t':Nat} {d':Drawn} {ch:List Addr} (I:Inv X pins σ H s) (u:Un (frs X.stack) ch H H' s.heap h') (hok:HOk X.prog X.w H' h') (hg:AllBare g')
  (hch:∀ b∈ch,(b∈X.ex∨X.s₀.heap.objs.size≤b)∧b≠X.env.locals∧(∀ x c,X.env.cells.lookup x=some c→c≠b)∧∀ p∈X.pn++pins,p.1≠b) :
  Inv X pins σ H' { s with heap:=h',gens:=g',drawn:=d',toks:=t' }:=by
 obtain ⟨m,⟨o,es,ep,ho,r⟩,_⟩:=id I.loc
 obtain ⟨sl,hL⟩:=u.any ho I.free fun z=>(hch _ z).2.1 rfl
 exact I.step (ch:=ch) hch (fun b o hL hb hc e n=>u.keep b o e n (fun z=>(List.mem_cons.mp (I.stkSub b z)).elim hL hb) hc) (fun b o _ _ hc e n=>u.any e n hc) (fun b o hc e n=>u.free b o e n hc) (fun b o hc e=>u.there b o e hc) u.tups u.frzs u.tbls (fun m' hm=>by
  obtain ⟨o',es',ep',ho',r'⟩:=hm
  rw [ho] at ho';cases ho'
  exact ⟨_,es',ep',hL,r'⟩) hok hg
theorem Inv.turned {t':Nat} {it:Addr} (I:Inv X pins σ H s) (k:∀ b o,b≠it→s.heap.get? b=some o→h'.get? b=some o) (hn:H it=none) (hL:it≠X.env.locals)
  (h1:it∈X.ex∨X.s₀.heap.objs.size≤it) (h2:∀ x c,X.env.cells.lookup x=some c→c≠it) (h3:∀ p∈X.pn++pins,p.1≠it):Inv X pins σ H { s with heap:=h',toks:=t' }:=by
 have nit:∀ b u,H b=some u→b≠it:=fun b u e z=>by rw [z,hn] at e;cases e
 refine I.step (g':=s.gens) (d':=s.drawn) (ch:=[it]) (fun b hb=>?_) (fun b o _ _ hc e _=>k b o (fun z=>hc (by simp [z])) e) (fun b o _ _ hc e _=>⟨o.slots,k b o (fun z=>hc (by simp [z])) e⟩) (fun _ _ _ _ n=>n)
  (fun b o hc e=>⟨o,k b o (fun z=>hc (by simp [z])) e⟩) (fun _ _ e=>e) (fun _ _ _ e=>e) (fun b ps e=>⟨#[],by rw [e];simp⟩) (fun m hm=>?_) (fun b u e=>?_) I.bare
 ·have e:b=it:=by simpa using hb
  subst e
  exact ⟨h1,hL,h2,h3⟩
 ·obtain ⟨o,es,ep,ho,r⟩:=hm
  exact ⟨o,es,ep,k _ o (Ne.symm hL) ho,r⟩
 ·refine (I.hok b u e).stay (fun c v hc q=>k c v ?_ q) (fun _ q=>q) fun _ _ q=>q
  rcases hc with z | z
  ·rw [z];exact nit b u e
  ·exact nit c _ z
theorem Inv.tok (I:Inv X pins σ H s) (t:Nat):Inv X pins σ H { s with toks:=t }:=I.un (h':=s.heap) (t':=t) Un.refl I.hok
theorem Inv.kept {t':Nat} (I:Inv X pins σ H s) (k:∀ b u,s.heap.get? b=some u→h'.get? b=some u):Inv X pins σ H { s with heap:=h',toks:=t' }:=I.un (Un.kept k) (I.hok.kept k)
theorem Inv.laid {a:Addr} {o:HO} {t':Nat} (I:Inv X pins σ H s) (k:∀ b u,s.heap.get? b=some u→h'.get? b=some u) (hp:s.heap.objs.size≤a) (new:a1d X.prog X.w (upd H a o) h' a o) :
  Inv X pins σ (upd H a o) { s with heap:=h',toks:=t' }:=I.un (Un.laid k hp (I.hok.fresh hp)) (I.hok.laid k hp new)
theorem Inv.write {x e:Addr} {o:HO} {t':Nat} (I:Inv X pins σ H s) (mu:Mut (H x)) (he:e=x∨H e=some (.own x)) (k:∀ b u,b≠e→s.heap.get? b=some u→h'.get? b=some u) (heo:∃ u,h'.get? e=some u)
  (new:a1d X.prog X.w (upd H x o) h' x o):Inv X pins σ (upd H x o) { s with heap:=h',toks:=t' }:=I.un (Un.write mu he k heo) (I.hok.write mu he k heo new)
theorem Inv.weak {σ':List (Option V)} (I:Inv X pins σ H s) (hl:σ'.length=σ.length) (w:∀ (i:Nat) v,σ'[i]?=some (some v)→σ[i]?=some (some v)):Inv X pins σ' H s :=
 ⟨I.ok,I.os,I.bare,I.base,let ⟨m,hn,hl'⟩:=I.loc;⟨m,hn,fun i x v e1 e2 e3=>hl' i x v e1 (w i v e2) e3⟩,I.cell,I.free,I.freeC,I.pin,I.hok,hl.trans I.len⟩
theorem Inv.pins_of {pins':List (Addr × Obj)} (I:Inv X pins σ H s) (h:∀ p∈pins',s.heap.get? p.1=some p.2∧H p.1=none∧p.1≠X.env.locals∧p.1∉X.fs∧∀ v,p.2.data≠.cell v):Inv X pins' σ H s :=
 ⟨I.ok,I.os,I.bare,I.base,I.loc,I.cell,I.free,I.freeC,fun p hp=>(List.mem_append.mp hp).elim (fun z=>I.pin p (List.mem_append_left _ z)) (h p),I.hok,I.len⟩
theorem a4k {N:List Str} (hN:N.Nodup) {i j:Nat} {x:Str} (a:N[i]?=some x) (b:N[j]?=some x):i=j:=by
 obtain ⟨h1,e1⟩:=List.getElem?_eq_some_iff.mp a
 obtain ⟨h2,e2⟩:=List.getElem?_eq_some_iff.mp b
 exact (List.getElem_inj hN).mp (e1.trans e2.symm)
theorem a3i {M:Model} {A:Around} {E:Value→Shared→Prop} {i:Nat} {x:Str} {v:V} {u:Value} {Q:Unit→Shared→Prop} (I:Inv X pins σ H s) (hN:X.N.Nodup) (hi:X.N[i]?=some x) (hx:Loc X.env.scope x) (r:a0U v u)
  (h:∀ s',Inv X pins (σ.set i (some v)) H s'→(∃ a,Heap.SameBut a s.heap s'.heap∧(a=X.env.locals∨X.env.cells.lookup x=some a))→Q () s') (hf:X.fn x=true∨X.env.scope.names.lookup x=some .local:=by first | exact .inl rfl | exact .inr rfl | assumption):wpAny M A (storeName X.env x u) Q E s:=by
 obtain ⟨m,hn,hl⟩:=id I.loc
 have hcls:(X.env.scope.kind == .class || (X.env.scope.kind == .module && X.env.locals != X.env.globals))=false:=by rw [I.ok.kind];rfl
 have hiσ:i < σ.length:=by rw [I.len];exact (List.getElem?_eq_some_iff.mp hi).1
 have cne:=I.cne
 have tracked:∀ {a:Addr} {h':Heap},(∃ o,s.heap.get? a=some o∧H a=none)→Heap.SameBut a s.heap h'→HOk X.prog X.w H h':=fun {a h'} ha hs b ob e=>by
  obtain ⟨_,_,hfree⟩:=ha
  refine (I.hok b ob e).stay (fun c w' hc q=>(hs.2 c ?_).trans q) (fun _ q=>q) fun _ _ q=>q
  rintro rfl
  rcases hc with rfl | hc
  ·rw [hfree] at e;cases e
  ·rw [hfree] at hc;cases hc
 rcases hx with hk | hk
 ·refine wpAny_storeName_local hk hn (fun h' hn' hs=>?_) hcls
  obtain ⟨oL,_,_,hoL,_⟩:=id hn
  refine h _ ⟨I.ok,I.os,I.bare,⟨fun b o e n hb hx=>?_,fun b o e n hb hx=>?_,I.base.free,fun b o e hx=>?_,I.base.tups,I.base.frzs,I.base.tbls⟩,⟨_,hn',fun j y v' e1 e2 e3=>?_⟩,fun y c e=>?_,I.free,I.freeC,fun p hp=>?_,tracked ⟨oL,hoL,I.free⟩ hs,by simpa using I.len⟩ ⟨_,hs,.inl rfl⟩
  ·exact (hs.2 b (Nat.ne_of_lt (Nat.lt_of_lt_of_le (Heap.lt_size e) I.ok.above))).trans (I.base.keep b o e n hb hx)
  ·obtain ⟨sl,e1⟩:=I.base.slot b o e n hb hx
   exact ⟨sl,(hs.2 b (Nat.ne_of_lt (Nat.lt_of_lt_of_le (Heap.lt_size e) I.ok.above))).trans e1⟩
  ·obtain ⟨o',e1⟩:=I.base.there b o e hx
   exact ⟨o',(hs.2 b (Nat.ne_of_lt (Nat.lt_of_lt_of_le (Heap.lt_size e) I.ok.above))).trans e1⟩
  ·by_cases hj:j=i
   ·subst hj
    rw [hi] at e1;cases e1
    rw [List.getElem?_set_self hiσ] at e2
    cases e2
    exact ⟨u,r,.inl ⟨hk,by simp⟩⟩
   ·rw [List.getElem?_set_ne (Ne.symm hj)] at e2
    obtain ⟨u',r',q⟩:=hl j y v' e1 e2 e3
    refine ⟨u',r',?_⟩
    rcases q with ⟨k,e⟩ | ⟨k,c,e,z⟩
    ·refine .inl ⟨k,?_⟩
     have:y≠x:=fun e=>hj (a4k hN e1 (e▸hi))
     simp [this,e]
    ·exact .inr ⟨k,c,e,z.sameBut hs (cne y c e)⟩
  ·obtain ⟨w',z⟩:=I.cell y c e
   exact ⟨w',z.sameBut hs (cne y c e)⟩
  ·obtain ⟨e,n,ne,nf,d⟩:=I.pin p hp
   exact ⟨(hs.2 p.1 ne).trans e,n,ne,nf,d⟩
 ·have hfn:X.fn x=true:=by
   rcases hf with z | z
   ·exact z
   ·rw [z] at hk;cases hk
  obtain ⟨c,hc⟩:=I.ok.has x (.inl hk)
  obtain ⟨w',z⟩:=I.cell x c hc
  refine wpAny_storeName_cell I.ok.kind hk hc z (fun h' hc' hs=>?_)
  obtain ⟨oc,hoc,hocd⟩:=id z
  refine h { s with heap:=h' } ⟨I.ok,I.os,I.bare,⟨fun b o e n hb hx=>?_,fun b o e n hb hx=>?_,I.base.free,fun b o e hx=>?_,I.base.tups,I.base.frzs,I.base.tbls⟩,⟨m,hn.sameBut hs (Ne.symm (cne x c hc)),fun j y v' e1 e2 e3=>?_⟩,fun y c' e=>?_,I.free,I.freeC,fun p hp=>?_,tracked ⟨oc,hoc,I.freeC x c hc⟩ hs,by simpa using I.len⟩ ⟨c,hs,.inr hc⟩
  ·exact (hs.2 b (Nat.ne_of_lt (Nat.lt_of_lt_of_le (Heap.lt_size e) (I.ok.cab x c hfn hc)))).trans (I.base.keep b o e n hb hx)
  ·obtain ⟨sl,e1⟩:=I.base.slot b o e n hb hx
   exact ⟨sl,(hs.2 b (Nat.ne_of_lt (Nat.lt_of_lt_of_le (Heap.lt_size e) (I.ok.cab x c hfn hc)))).trans e1⟩
  ·obtain ⟨o',e1⟩:=I.base.there b o e hx
   exact ⟨o',(hs.2 b (Nat.ne_of_lt (Nat.lt_of_lt_of_le (Heap.lt_size e) (I.ok.cab x c hfn hc)))).trans e1⟩
  ·by_cases hj:j=i
   ·subst hj
    rw [hi] at e1;cases e1
    rw [List.getElem?_set_self hiσ] at e2
    cases e2
    exact ⟨u,r,.inr ⟨.inl hk,c,hc,hc'⟩⟩
   ·rw [List.getElem?_set_ne (Ne.symm hj)] at e2
    obtain ⟨u',r',q⟩:=hl j y v' e1 e2 e3
    refine ⟨u',r',?_⟩
    rcases q with q | ⟨k,c',e,z'⟩
    ·exact .inl q
    ·refine .inr ⟨k,c',e,z'.sameBut hs ?_⟩
     rintro rfl
     exact hj (a4k hN e1 (I.ok.inj _ _ _ e hc▸hi))
  ·by_cases hcc:c'=c
   ·subst hcc;exact ⟨_,hc'⟩
   ·obtain ⟨w2,z2⟩:=I.cell y c' e
    exact ⟨w2,z2.sameBut hs hcc⟩
  ·obtain ⟨e,n,ne,nf,d⟩:=I.pin p hp
   refine ⟨(hs.2 p.1 ?_).trans e,n,ne,nf,d⟩
   intro q
   rw [q,hoc] at e
   have q':oc=p.2:=Option.some.inj e
   exact d w' (by rw [←q'];exact hocd)
theorem a6f {M:Model} {A:Around} {E:Value→Shared→Prop} {i:Nat} {x:Str} {v:V} {u:Value} {Q:Unit→Shared→Prop} (I:Inv X pins σ H s) (hN:X.N.Nodup) (hi:X.N[i]?=some x) (hx:Loc X.env.scope x) (r:a0U v u)
  (h:∀ s',Inv X pins (σ.set i (some v)) H s'→Q () s') (hf:X.fn x=true∨X.env.scope.names.lookup x=some .local:=by first | exact .inl rfl | exact .inr rfl | assumption):wpAny M A (storeName X.env x u) Q E s :=
 a3i I hN hi hx r (fun s' I' _=>h s' I') hf
theorem Inv.call' {s':Shared} {ch:List Addr} (I:Inv X pins σ H s) (ho:s'.os=s.os) (u:Un (frs X.stack) ch H H' s.heap s'.heap) (hok:HOk X.prog X.w H' s'.heap) (hg:AllBare s'.gens)
  (hch:∀ b∈ch,(b∈X.ex∨X.s₀.heap.objs.size≤b)∧b≠X.env.locals∧(∀ x c,X.env.cells.lookup x=some c→c≠b)∧∀ p∈X.pn++pins,p.1≠b):Inv X pins σ H' s':=by
 obtain ⟨h',g',d',t',o'⟩:=s'
 have e:o'=s.os:=ho
 subst e
 exact I.call (g':=g') (t':=t') (d':=d') u hok hg hch
end
abbrev XK:=Value→Option Addr→Hp→Prop
abbrev St:=List (Option V)
abbrev VK:=V→Hp→Prop
abbrev TE:=St→Hp→VK→Prop
abbrev TT:=St→Hp→(Bool→Hp→Prop)→Prop
abbrev TA:=St→Hp→(List V→Hp→Prop)→Prop
structure a9x where
 nx:St→Hp→Prop
 rt:VK
 bk:St→Hp→Prop:=fun _ _=>False
 ct:St→Hp→Prop:=fun _ _=>False
abbrev TS:=a9x→St→Hp→Prop
def EP (X:Cx) (pins:List (Addr × Obj)) (σ:St) (Q:VK) (u:Value) (s':Shared):Prop:=∃ v H',Inv X pins σ H' s'∧a0U v u∧Q v H'
def TP (X:Cx) (pins:List (Addr × Obj)) (σ:St) (Q:Bool→Hp→Prop) (b:Bool) (s':Shared):Prop:=∃ H',Inv X pins σ H' s'∧Q b H'
def AP (X:Cx) (pins:List (Addr × Obj)) (σ:St) (Q:List V→Hp→Prop) (us:List Value) (s':Shared):Prop:=∃ vs H',Inv X pins σ H' s'∧a0K vs us∧Q vs H'
def SP (X:Cx) (pins:List (Addr × Obj)) (D:a9x) (f:Flow) (s':Shared):Prop :=
 match f with
 | .next=>∃ σ' H',Inv X pins σ' H' s'∧D.nx σ' H'
 | .brk=>∃ σ' H',Inv X pins σ' H' s'∧D.bk σ' H'
 | .cont=>∃ σ' H',Inv X pins σ' H' s'∧D.ct σ' H'
 | .ret u=>∃ v σ' H',Inv X pins σ' H' s'∧a0U v u∧D.rt v H'
def PE (X:Cx) (e:Expr) (t:TE):Prop :=
 ∀ (pins:List (Addr × Obj)) (s:Shared) (σ:St) (H:Hp) (Q:VK),Inv X pins σ H s→t σ H Q→wpAny (model X.prog X.w) X.A (eval e X.env) (EP X pins σ Q) X.xe s
def PT (X:Cx) (e:Expr) (t:TT):Prop :=
 ∀ (pins:List (Addr × Obj)) (s:Shared) (σ:St) (H:Hp) (Q:Bool→Hp→Prop),Inv X pins σ H s→t σ H Q→wpAny (model X.prog X.w) X.A (isTrue e X.env (eval e X.env)) (TP X pins σ Q) X.xe s
def PW (X:Cx) (e:Expr) (t:TT):Prop :=
 ∀ (whole:Sem Value) (pins:List (Addr × Obj)) (s:Shared) (σ:St) (H:Hp) (Q:Bool→Hp→Prop),Inv X pins σ H s→t σ H Q→wpAny (model X.prog X.w) X.A (isTrue e X.env whole) (TP X pins σ Q) X.xe s
theorem PW.pt {X:Cx} {e:Expr} {t:TT} (h:PW X e t):PT X e t:=h _
def PA (X:Cx) (es:List Expr) (t:TA):Prop :=
 ∀ (pos:Pos) (pins:List (Addr × Obj)) (s:Shared) (σ:St) (H:Hp) (Q:List V→Hp→Prop),Inv X pins σ H s→t σ H Q→wpAny (model X.prog X.w) X.A (spliced (backTo pos (starEach es X.env))) (AP X pins σ Q) X.xe s
def PS (X:Cx) (st:Stmt) (t:TS):Prop :=
 ∀ (pins:List (Addr × Obj)) (s:Shared) (σ:St) (H:Hp) (D:a9x),Inv X pins σ H s→t D σ H→wpAny (model X.prog X.w) X.A (exec st X.env) (SP X pins D) X.xe s
def PSs (X:Cx) (st:List Stmt) (t:TS):Prop :=
 ∀ (pins:List (Addr × Obj)) (s:Shared) (σ:St) (H:Hp) (D:a9x),Inv X pins σ H s→t D σ H→wpAny (model X.prog X.w) X.A (execs st X.env) (SP X pins D) X.xe s
theorem thn {α:Type} {t:Sem α} {Q Q':α→Shared→Prop} {M:Model} {A:Around} {E:Value→Shared→Prop} {s:Shared} (h:wpAny M A t Q E s) (hQ:∀ a s,Q a s→Q' a s):wpAny M A t Q' E s:=wpAny_mono h hQ fun _ _ x=>x
section
variable {X:Cx}
def tVar (i:Nat):TE:=fun σ H Q=>∃ v,σ[i]?=some (some v)∧Q v H
def tC (v:V):TE:=fun _ H Q=>Q v H
theorem b1c {i:Nat} {x:Str} {pos:Pos} (hN:X.N[i]?=some x) (hv:Vis X.env.scope x) (hd:(x == ("__debug__":Str))=false:=by decide) (hcd:(x == ("__classdict__":Str))=false:=by decide):PE X (.Name x pos) (tVar i):=by
 intro pins s σ H Q I h
 obtain ⟨v,e,h⟩:=h
 obtain ⟨m,hn,hl⟩:=I.loc
 obtain ⟨u,r,l⟩:=hl i x v hN e hv
 have fin:EP X pins σ Q u s:=⟨v,H,I,r,h⟩
 rcases l with ⟨hk,hm⟩ | ⟨hk,c,hc,hcell⟩
 ·exact wpAny_Name (wpAny_loadName_local I.ok.kind hk hn hm fin) hd
 ·rcases hk with hk | hk
  ·exact wpAny_Name (wpAny_loadName_cell I.ok.kind hk hc hcell fin) hd
  ·exact wpAny_Name (wpAny_loadName_free I.ok.kind hk hc hcell fin hcd) hd
theorem a0g {i j pos}:PE X (.Constant (.int i) j pos) (tC (.int i)):=fun _ _ _ H _ I h=>wpAny_Constant_int ⟨.int i,H,I.tok _,⟨_,rfl⟩,h⟩
theorem a7H {b j pos}:PE X (.Constant (.bool b) j pos) (tC (.bl b)):=fun _ _ _ H _ I h=>Constant_bool ⟨.bl b,H,I,rfl,h⟩
theorem a3O {j pos}:PE X (.Constant .none j pos) (tC .non):=fun _ _ _ H _ I h=>Constant_none ⟨.non,H,I,rfl,h⟩
theorem a1o {x j pos}:PE X (.Constant (.str x) j pos) (tC (.str x)):=fun _ _ _ H _ I h=>Calls.Constant_str ⟨.str x,H,I.tok _,⟨_,rfl⟩,h⟩
def Gl (X:Cx) (x:Str):Prop:=X.env.kindOf x=some .globalImplicit
theorem a2m {E:Value→Shared→Prop} {pins:List (Addr × Obj)} {s:Shared} {σ:St} {H:Hp} {x:Str} {u:Value} {pos:Pos} {Q:Value→Shared→Prop} (I:Inv X pins σ H s) (hg:Gl X x) (hm:X.mg x=some u) (h:Q u s)
  (hd:(x == ("__debug__":Str))=false:=by decide):wpAny (model X.prog X.w) X.A (eval (.Name x pos) X.env) Q E s :=
 Calls.Name_function_global I.ok.kind hg (Calls.loadGlobal_global (by rw [I.ok.glob];exact I.mod.glob.keeps I.bk) hm h) hd
theorem a2u {E:Value→Shared→Prop} {pins:List (Addr × Obj)} {s:Shared} {σ:St} {H:Hp} {x:Str} {u:Value} {pos:Pos} {Q:Value→Shared→Prop} (I:Inv X pins σ H s) (hg:Gl X x) (hm:X.mg x=none) (hv:bootBuiltins x=some u) (h:Q u s)
  (hn:x≠"__name__":=by decide) (hd:(x == ("__debug__":Str))=false:=by decide):wpAny (model X.prog X.w) X.A (eval (.Name x pos) X.env) Q E s:=by
 obtain ⟨mb,h1,h2⟩:=I.mod.blt
 exact Calls.Name_function_global I.ok.kind hg (Calls.loadGlobal_builtin (by rw [I.ok.glob];exact I.mod.glob.keeps I.bk) hm (by rw [I.ok.blt];exact h1.keeps I.bk) ((h2 x hn).trans hv) h) hd
theorem a2G {x:Str} {v:V} {u:Value} {pos:Pos} (hg:Gl X x) (hm:X.mg x=some u) (r:a0U v u) (hd:(x == ("__debug__":Str))=false:=by decide):PE X (.Name x pos) (tC v) :=
 fun _ _ _ H _ I h=>a2m I hg hm ⟨v,H,I,r,h⟩ hd
theorem b1N {x:Str} {v:V} {u:Value} {pos:Pos} (hg:Gl X x) (hm:X.mg x=none) (hv:bootBuiltins x=some u) (r:a0U v u) (hn:x≠"__name__":=by decide) (hd:(x == ("__debug__":Str))=false:=by decide):PE X (.Name x pos) (tC v) :=
 fun _ _ _ H _ I h=>a2u I hg hm hv ⟨v,H,I,r,h⟩ hn hd
def t2I (ta tb:TE) (k:Int→Int→Hp→Prop):St→Hp→Prop:=fun σ H=>ta σ H fun x H1=>tb σ H1 fun y H2=>∃ i j,x=.int i∧y=.int j∧k i j H2
def tMul (ta tb:TE):TE:=fun σ H Q=>t2I ta tb (fun i j H2=>(-(2 ^ 64) < i∧i < 2 ^ 64)∧Q (.int (i * j)) H2) σ H
variable {a b:Expr} {ta tb:TE} {pos:Pos}
def PC (X:Cx) (op:CmpOp) (a b:Expr) (t:TE):Prop :=
 ∀ (pins:List (Addr × Obj)) (s:Shared) (σ:St) (H:Hp) (Q:VK),Inv X pins σ H s→t σ H Q →
  wpAny (model X.prog X.w) X.A (eval a X.env) (fun v s₁=>wpAny (model X.prog X.w) X.A (eval b X.env) (fun u s₂=>wpAny (model X.prog X.w) X.A (compareOp op v u) (EP X pins σ Q) X.xe s₂) X.xe s₁) X.xe s
theorem nobehind (b:Expr) {op:CmpOp} (h:op≠.In) (h2:op≠.NotIn):behindInMarks op b=false:=by
 have e1:(op == CmpOp.In)=false:=by cases op <;> first | rfl | exact absurd rfl h
 have e2:(op == CmpOp.NotIn)=false:=by cases op <;> first | rfl | exact absurd rfl h2
 cases b <;> simp [behindInMarks,e1,e2]
def tIsN (ta:TE):TE:=fun σ H Q=>ta σ H fun x H1=>Q (.bl (decide (x=.non))) H1
def tNotN (ta:TE):TE:=fun σ H Q=>ta σ H fun x H1=>Q (.bl (!decide (x=.non))) H1
theorem a0U.none_iff {x:V} {v:Value} (r:a0U x v):(v == Value.none)=decide (x=.non):=by
 cases x with
 | non=>cases r;rfl
 | bl _=>cases r;rfl
 | int _=>obtain ⟨t,rfl⟩:=r;rfl
 | str _=>obtain ⟨t,rfl⟩:=r;rfl
 | byt _=>obtain ⟨t,rfl⟩:=r;rfl
 | flt _=>obtain ⟨t,rfl⟩:=r;rfl
 | ref _=>cases r;rfl
 | ty _=>cases r;rfl
theorem a7I {j pos'} (ha:PE X a ta):PC X .Is a (.Constant .none j pos') (tIsN ta):=by
 intro pins s σ H Q I h
 refine thn (ha pins s σ H _ I h) fun v s1 ⟨x,H1,I1,r1,q1⟩=>?_
 exact Constant_none (is_none_gen ⟨.bl _,H1,I1,by rw [r1.none_iff];rfl,q1⟩)
theorem b1O {j pos'} (ha:PE X a ta):PC X .IsNot a (.Constant .none j pos') (tNotN ta):=by
 intro pins s σ H Q I h
 refine thn (ha pins s σ H _ I h) fun v s1 ⟨x,H1,I1,r1,q1⟩=>?_
 exact Constant_none (isnot_none_gen ⟨.bl _,H1,I1,by rw [r1.none_iff];rfl,q1⟩)
def tB (t:TE):TT:=fun σ H Q=>t σ H fun x H1=>∃ c,x=.bl c∧Q c H1
theorem pe_cmp {op:CmpOp} {t:TE} (h:PC X op a b t) (h1:behindInMarks op b=false:=by first | exact nobehind _ (by decide) (by decide) | rfl):PE X (.Compare a [op] [b] pos) t:=fun pins s σ H Q I hw=>wpAny_Compare1 (h pins s σ H Q I hw) h1
theorem a7J {op:CmpOp} {t:TE} (h:PC X op a b t) (h1:behindInMarks op b=false:=by first | exact nobehind _ (by decide) (by decide) | rfl):PT X (.Compare a [op] [b] pos) (tB t):=by
 intro pins s σ H Q I hw
 refine wpAny_isTrue_Compare1 (thn (h pins s σ H _ I hw) fun v s1 h1=>thn h1 fun u s2 h2=>thn h2 fun c s3 ⟨x,H1,I1,r1,q1⟩=>?_) h1
 obtain ⟨d,rfl,q⟩:=q1
 cases r1
 exact wpAny_truthy_bool ⟨H1,I1,q⟩
theorem a3P {e:Expr} {t:TE} (h:PE X e t) (he:∀ whole,isTrue e X.env whole=(do let v ←whole;standAt e.pos;holding [v] (truthy v)):=by intro _;rfl):PT X e (tB t):=by
 intro pins s σ H Q I hw
 refine isTrue_plain (thn (h pins s σ H _ I hw) fun v s1 ⟨x,H1,I1,r1,q1⟩=>?_) (he _)
 obtain ⟨d,rfl,q⟩:=q1
 cases r1
 exact wpAny_truthy_bool ⟨H1,I1,q⟩
variable {tA tB':TT} {rest:List Expr}
def tAnd (t u:TT):TT:=fun σ H Q=>t σ H fun c H1=>if c=true then u σ H1 Q else Q false H1
def tOr (t u:TT):TT:=fun σ H Q=>t σ H fun c H1=>if c=true then Q true H1 else u σ H1 Q
def tNot (t:TT):TT:=fun σ H Q=>t σ H fun c H1=>Q (!c) H1
theorem b1P (ha:PT X a tA):PW X (.BoolOp .And [a] pos) tA:=by
 intro wh pins s σ H Q I h
 refine isTrue_and (thn (ha pins s σ H Q I h) fun c s1 e=>?_)
 cases c with
 | true=>exact isTrue_and_nil e
 | false=>exact e
theorem a6g (ha:PT X a tA):PW X (.BoolOp .Or [a] pos) tA:=by
 intro wh pins s σ H Q I h
 refine isTrue_or (thn (ha pins s σ H Q I h) fun c s1 e=>?_)
 cases c with
 | false=>exact isTrue_or_nil e
 | true=>exact e
theorem pw_and (ha:PT X a tA) (hb:PW X (.BoolOp .And (b :: rest) pos) tB'):PW X (.BoolOp .And (a :: b :: rest) pos) (tAnd tA tB'):=by
 intro wh pins s σ H Q I h
 refine isTrue_and (thn (ha pins s σ H _ I h) fun c s1 ⟨H1,I1,q1⟩=>?_)
 cases c with
 | true=>exact hb wh pins s1 σ H1 Q I1 q1
 | false=>exact ⟨H1,I1,q1⟩
theorem a9E (ha:PT X a tA) (hb:PW X (.BoolOp .Or (b :: rest) pos) tB'):PW X (.BoolOp .Or (a :: b :: rest) pos) (tOr tA tB'):=by
 intro wh pins s σ H Q I h
 refine isTrue_or (thn (ha pins s σ H _ I h) fun c s1 ⟨H1,I1,q1⟩=>?_)
 cases c with
 | true=>exact ⟨H1,I1,q1⟩
 | false=>exact hb wh pins s1 σ H1 Q I1 q1
theorem a4O (ha:PT X a tA):PT X (.UnaryOp .Not a pos) (tNot tA):=by
 intro pins s σ H Q I h
 exact isTrue_not (ha pins s σ H (fun c H1=>Q (!c) H1) I h)
def tAndV (ta tb:TE):TE:=fun σ H Q=>ta σ H fun x H1=>∃ c,x=.bl c∧if c=true then tb σ H1 Q else Q (.bl false) H1
theorem b1d {op} {t:TE} (h:PE X a t):PE X (.BoolOp op [a] pos) t:=fun pins s σ H Q I hw=>BoolOp_one (h pins s σ H Q I hw)
theorem b1e (ha:PE X a ta) (hb:PE X (.BoolOp .And (b :: rest) pos) tb):PE X (.BoolOp .And (a :: b :: rest) pos) (tAndV ta tb):=by
 intro pins s σ H Q I h
 refine BoolOp_and (thn (ha pins s σ H _ I h) fun v s1 ⟨x,H1,I1,r1,q1⟩=>?_)
 obtain ⟨c,rfl,q1⟩:=q1
 cases r1
 refine wpAny_truthy_bool ?_
 cases c with
 | true=>exact hb pins s1 σ H1 Q I1 q1
 | false=>exact ⟨.bl false,H1,I1,rfl,q1⟩
def tIf (t:TT) (ta tb:TE):TE:=fun σ H Q=>t σ H fun c H1=>if c=true then ta σ H1 Q else tb σ H1 Q
theorem a4l {c:Expr} (hc:PT X c tA) (ha:PE X a ta) (hb:PE X b tb):PE X (.IfExp c a b pos) (tIf tA ta tb):=by
 intro pins s σ H Q I h
 refine wpAny_IfExp (thn (hc pins s σ H _ I h) fun d s1 ⟨H1,I1,q1⟩=>?_)
 cases d with
 | true=>exact ha pins s1 σ H1 Q I1 q1
 | false=>exact hb pins s1 σ H1 Q I1 q1
end
def SqL (K:PySem.W.Frag) (H:Hp) (a:Addr) (xs:List V):Prop :=
 Rd H a (.lst xs) ∨
  ∃ (o:Obj) (its:Array Value) (n:Nat),K.lookup a=some o∧o.cls=.type "list"∧o.dict=none∧o.data=.seq its n∧its.size≤sizeLine∧a0K xs its.toList
def SqT (K:PySem.W.Frag) (H:Hp) (a:Addr) (xs:List V):Prop :=
 Rd H a (.tup xs) ∨
  ∃ (o:Obj) (its:Array Value) (n:Nat),K.lookup a=some o∧o.cls=.type "tuple"∧o.data=.seq its n∧its.size≤sizeLine∧a0K xs its.toList
def absV:Value→Option V
 | .none=>some .non
 | .bool b=>some (.bl b)
 | .int i _=>some (.int i)
 | .str x _=>some (.str x)
 | .bytes b _=>some (.byt b)
 | .float b _=>some (.flt b)
 | .ref a=>some (.ref a)
 | .type n=>some (.ty n)
 | _=>none
theorem a0U.abs {x:V} {u:Value} (r:a0U x u):absV u=some x:=by
 cases x with
 | non=>cases r;rfl
 | bl _=>cases r;rfl
 | int _=>obtain ⟨t,rfl⟩:=r;rfl
 | str _=>obtain ⟨t,rfl⟩:=r;rfl
 | byt _=>obtain ⟨t,rfl⟩:=r;rfl
 | flt _=>obtain ⟨t,rfl⟩:=r;rfl
 | ref _=>cases r;rfl
 | ty _=>cases r;rfl
theorem a0U.inj {x y:V} {u:Value} (r:a0U x u) (q:a0U y u):x=y:=Option.some.inj (r.abs.symm.trans q.abs)
theorem a0K.inj:∀ {xs ys:List V} {us:List Value},a0K xs us→a0K ys us→xs=ys
 | _,_,_,.nil,.nil=>rfl
 | _,_,_,.cons r t,.cons r' t'=>by rw [r.inj r',a0K.inj t t']
section
variable {X:Cx} {pins:List (Addr × Obj)} {σ:St} {H:Hp} {s:Shared} {a:Addr} {xs ys:List V}
theorem SqL.of {K:PySem.W.Frag} (h:H a=some (.lst xs)):SqL K H a xs:=.inl (.inl h)
theorem SqT.of {K:PySem.W.Frag} (h:H a=some (.tup xs)):SqT K H a xs:=.inl (.inl h)
theorem Inv.list (I:Inv X pins σ H s) (h:SqL X.K H a xs):∃ its:List Value,a0K xs its∧PlainL s.heap a its.toArray∧xs.length≤sizeLine:=by
 rcases h with h | ⟨o,its,n,hk,hc,hd,hs,hz,r⟩
 ·obtain ⟨z,its,n,r,e⟩:=h.ok I.hok
  exact ⟨its,r,⟨_,n,e,rfl,rfl,rfl⟩,z⟩
 ·refine ⟨its.toList,r,⟨o,n,I.kIn a o hk,hc,hd,by simpa using hs⟩,?_⟩
  have e:=r.length
  simp only [Array.length_toList] at e
  omega
theorem Inv.tuple (I:Inv X pins σ H s) (h:SqT X.K H a xs):∃ its:List Value,a0K xs its∧IsTup s.heap a its.toArray∧xs.length≤sizeLine:=by
 rcases h with h | ⟨o,its,n,hk,hc,hs,hz,r⟩
 ·obtain ⟨z,its,r,p⟩:=h.ok I.hok
  exact ⟨its,r,p.is,z⟩
 ·refine ⟨its.toList,r,⟨o,I.kIn a o hk,hc,n,by simpa using hs⟩,?_⟩
  have e:=r.length
  simp only [Array.length_toList] at e
  omega
theorem Inv.list_inj (I:Inv X pins σ H s) (h:SqL X.K H a xs) (h':SqL X.K H a ys):xs=ys:=by
 obtain ⟨its,r,⟨o,n,e,_,_,d⟩,_⟩:=I.list h
 obtain ⟨its',r',⟨o',n',e',_,_,d'⟩,_⟩:=I.list h'
 rw [e] at e';cases e'
 rw [d] at d'
 injection d' with d1 _
 have:its=its':=by simpa using congrArg Array.toList d1
 subst this
 exact r.inj r'
theorem Inv.tuple_inj (I:Inv X pins σ H s) (h:SqT X.K H a xs) (h':SqT X.K H a ys):xs=ys:=by
 obtain ⟨its,r,⟨o,e,_,n,d⟩,_⟩:=I.tuple h
 obtain ⟨its',r',⟨o',e',_,n',d'⟩,_⟩:=I.tuple h'
 rw [e] at e';cases e'
 rw [d] at d'
 injection d' with d1 _
 have:its=its':=by simpa using congrArg Array.toList d1
 subst this
 exact r.inj r'
end
abbrev Cx.wish (X:Cx) (E:Value→Shared→Prop):Cx:={ X with xe:=E }
abbrev Cx.nox (X:Cx):Cx:=X.wish fun _ _=>False
theorem Cx.Ok.wish {X:Cx} (ok:X.Ok) (E:Value→Shared→Prop):(X.wish E).Ok :=
 ⟨ok.mod,ok.kind,ok.glob,ok.blt,ok.above,ok.inj,ok.has,ok.cab,ok.hd,ok.frames,ok.stk,ok.exf,ok.bs,ok.bsz,ok.noex,ok.exfs,ok.funs,ok.frf⟩
theorem Cx.Ok.unwish {X:Cx} {E:Value→Shared→Prop} (ok:(X.wish E).Ok):X.Ok :=
 ⟨ok.mod,ok.kind,ok.glob,ok.blt,ok.above,ok.inj,ok.has,ok.cab,ok.hd,ok.frames,ok.stk,ok.exf,ok.bs,ok.bsz,ok.noex,ok.exfs,ok.funs,ok.frf⟩
section
variable {X:Cx} {pins:List (Addr × Obj)} {σ:St} {H:Hp} {s:Shared} {E:Value→Shared→Prop}
theorem Inv.wish (I:Inv X pins σ H s) (E:Value→Shared→Prop):Inv (X.wish E) pins σ H s:=⟨I.ok.wish E,I.os,I.bare,I.base,I.loc,I.cell,I.free,I.freeC,I.pin,I.hok,I.len⟩
theorem Inv.unwish (I:Inv (X.wish E) pins σ H s):Inv X pins σ H s:=⟨I.ok.unwish,I.os,I.bare,I.base,I.loc,I.cell,I.free,I.freeC,I.pin,I.hok,I.len⟩
theorem SP.unwish {D:a9x} {f:Flow} {s':Shared} (h:SP (X.wish E) pins D f s'):SP X pins D f s':=by
 cases f with
 | next=>obtain ⟨σ',H',I,q⟩:=h;exact ⟨σ',H',I.unwish,q⟩
 | brk=>obtain ⟨σ',H',I,q⟩:=h;exact ⟨σ',H',I.unwish,q⟩
 | cont=>obtain ⟨σ',H',I,q⟩:=h;exact ⟨σ',H',I.unwish,q⟩
 | ret u=>obtain ⟨v,σ',H',I,r,q⟩:=h;exact ⟨v,σ',H',I.unwish,r,q⟩
theorem PSs.nox {st:List Stmt} {t:TS} (h:PSs X.nox st t):PSs X st t:=fun pins s σ H D I hw =>
 wpAny_mono (h pins s σ H D (I.wish _) hw) (fun _ _ q=>q.unwish) fun _ _ z=>False.elim z
end
section
variable {X:Cx} {st:Stmt} {rest:List Stmt} {t u:TS} {e:Expr} {te:TE} {pos:Pos}
def tNext:TS:=fun D σ H=>D.nx σ H
def tSeq (t u:TS):TS:=fun D σ H=>t { D with nx:=u D } σ H
theorem a0D:PSs X [] tNext:=fun _ _ σ H _ I h=>wpAny_execs_nil ⟨σ,H,I,h⟩
theorem a0f (h1:PS X st t) (h2:PSs X rest u):PSs X (st :: rest) (tSeq t u):=by
 intro pins s σ H D I h
 refine wpAny_execs_cons (thn (h1 pins s σ H { D with nx:=u D } I h) fun f s1 q=>?_)
 cases f with
 | next =>
  obtain ⟨σ',H',I',q⟩:=q
  exact h2 pins s1 σ' H' D I' q
 | ret v=>exact q
 | brk=>exact q
 | cont=>exact q
theorem a0h (h1:PS X st t):PSs X [st] t:=by
 intro pins s σ H D I h
 refine wpAny_execs_cons (thn (h1 pins s σ H D I h) fun f s1 q=>?_)
 cases f with
 | next=>exact wpAny_execs_nil q
 | ret v=>exact q
 | brk=>exact q
 | cont=>exact q
theorem Inv.quiet {pins:List (Addr × Obj)} {σ:St} {H:Hp} {s:Shared} (I:Inv X pins σ H s):interactive X.env=false:=by simp [interactive,I.ok.kind]
def tDrop (te:TE):TS:=fun D σ H=>te σ H fun _ H1=>D.nx σ H1
theorem a1c (he:PE X e te) (hs:swapsWith e none pos.line X.env=pure false:=by rfl):PS X (.Expr e pos) (tDrop te):=by
 intro pins s σ H D I h
 exact wpAny_Expr_any (thn (he pins s σ H _ I h) fun v s1 ⟨x,H1,I1,r1,q1⟩=>⟨σ,H1,I1,q1⟩) I.quiet hs
def tRet (te:TE):TS:=fun D σ H=>te σ H D.rt
theorem a0r (he:PE X e te):PS X (.Return (some e) pos) (tRet te):=by
 intro pins s σ H D I h
 exact wpAny_Return_some (thn (he pins s σ H _ I h) fun v s1 ⟨x,H1,I1,r1,q1⟩=>⟨x,σ,H1,I1,r1,q1⟩)
def tIfS (c:TT) (t u:TS):TS:=fun D σ H=>c σ H fun b H1=>if b=true then t D σ H1 else u D σ H1
theorem a1e {c:Expr} {a b:List Stmt} {tc:TT} (hc:PT X c tc) (ha:PSs X a t) (hb:PSs X b u):PS X (.If c a b pos) (tIfS tc t u):=by
 intro pins s σ H D I h
 refine wpAny_If (thn (hc pins s σ H _ I h) fun d s1 ⟨H1,I1,q1⟩=>?_)
 cases d with
 | true=>exact ha pins s1 σ H1 D I1 q1
 | false=>exact hb pins s1 σ H1 D I1 q1
def tNever:TS:=fun _ _ _=>False
end
abbrev TG:=V→St→Hp→(St→Hp→Prop)→Prop
abbrev TGs:=List V→St→Hp→(St→Hp→Prop)→Prop
def PG (X:Cx) (target:Expr) (t:TG):Prop :=
 ∀ (pins:List (Addr × Obj)) (s:Shared) (σ:St) (H:Hp) (v:V) (u:Value) (Q:St→Hp→Prop),Inv X pins σ H s→a0U v u→t v σ H Q →
  wpAny (model X.prog X.w) X.A (assign target X.env u) (fun _ s'=>∃ σ' H',Inv X pins σ' H' s'∧Q σ' H') X.xe s
def PGs (X:Cx) (ts:List Expr) (t:TGs):Prop :=
 ∀ (pins:List (Addr × Obj)) (s:Shared) (σ:St) (H:Hp) (vs:List V) (us:List Value) (Q:St→Hp→Prop),Inv X pins σ H s→a0K vs us→t vs σ H Q →
  wpAny (model X.prog X.w) X.A (assignInOrder ((assignEach ts X.env).map (·.2)) us) (fun _ s'=>∃ σ' H',Inv X pins σ' H' s'∧Q σ' H') X.xe s
abbrev TSet:=V→V→V→Hp→(Hp→Prop)→Prop
def PSet (X:Cx) (t:TSet):Prop :=
 ∀ (pins:List (Addr × Obj)) (s:Shared) (σ:St) (H:Hp) (o i v:V) (ov iv u:Value) (Q:Hp→Prop),Inv X pins σ H s→a0U o ov→a0U i iv→a0U v u→t o i v H Q →
  wpAny (model X.prog X.w) X.A (setItem ov iv u) (fun _ s'=>∃ H',Inv X pins σ H' s'∧Q H') X.xe s
abbrev TIp:=V→V→Hp→VK→Prop
section
variable {X:Cx} {pos:Pos}
def a2j (i:Nat):TG:=fun v σ H Q=>Q (σ.set i (some v)) H
theorem a0H {i:Nat} {x:Str} (hN:X.N.Nodup) (hi:X.N[i]?=some x) (hx:Loc X.env.scope x) (hf:X.fn x=true∨X.env.scope.names.lookup x=some .local:=by first | exact .inl rfl | exact .inr rfl | assumption):PG X (.Name x pos) (a2j i):=by
 intro pins s σ H v u Q I r h
 exact wpAny_assign_Name (a6f I hN hi hx r (fun s' I'=>⟨_,H,I',h⟩) hf)
def gNil:TGs:=fun vs σ H Q=>vs=[]∧Q σ H
def b1Q (t:TG) (u:TGs):TGs:=fun vs σ H Q=>∃ v r,vs=v :: r∧t v σ H fun σ' H'=>u r σ' H' Q
theorem a4m:PGs X [] gNil:=by
 intro pins s σ H vs us Q I r h
 obtain ⟨e,h⟩:=h
 subst e
 cases r
 exact assignInOrder_nil ⟨σ,H,I,h⟩
theorem a1y {e:Expr} {es:List Expr} {t:TG} {u:TGs} (h1:PG X e t) (h2:PGs X es u)
  (hs:(assignEach (e :: es) X.env).map (·.2)=assign e X.env :: (assignEach es X.env).map (·.2):=by rfl):PGs X (e :: es) (b1Q t u):=by
 intro pins s σ H vs us Q I r h
 obtain ⟨v,vr,e1,h⟩:=h
 subst e1
 cases r with
 | cons r rr =>
  rw [hs]
  refine assignInOrder_cons (thn (h1 pins s σ H _ _ _ I r h) fun _ s1 ⟨σ1,H1,I1,q1⟩=>?_)
  exact h2 pins s1 σ1 H1 _ _ Q I1 rr q1
def gTup (K:PySem.W.Frag) (n:Nat) (t:TGs):TG:=fun v σ H Q=>∃ a xs,v=.ref a∧SqT K H a xs∧xs.length=n∧t xs σ H Q
theorem a6h {es:List Expr} {k:Nat} {t:TGs} {n:Nat} (hc:X.calm=true) (h:PGs X es t)
  (hn:(assignEach es X.env).length=n:=by rfl) (hst:(assignEach es X.env).findIdx? (·.1)=none:=by rfl):PG X (.Tuple es k pos) (gTup X.K n t):=by
 intro pins s σ H v u Q I r hw
 obtain ⟨a,xs,e1,hq,hl,hw⟩:=hw
 subst e1
 cases r
 obtain ⟨its,rv,ht,hz⟩:=I.tuple hq
 refine assign_Tuple_tuple (I.ok.hd hc) ht (by simp [hn,←hl,rv.length]) hst fun h' hx=>?_
 have I1:Inv X pins σ H { s with heap:=h' }:=I.kept (t':=s.toks) fun b o e=>hx b o (Nat.ne_of_lt (Heap.lt_size e)) e
 exact h pins _ σ H xs _ Q I1 (by simpa using rv) hw
def gSub (to ti:TE) (t:TSet):TG:=fun v σ H Q=>to σ H fun o H1=>ti σ H1 fun i H2=>t o i v H2 fun H3=>Q σ H3
theorem a2W {o i:Expr} {to ti:TE} {t:TSet} (ho:PE X o to) (hi:PE X i ti) (hs:PSet X t)
  (ha:∀ v,assign (.Subscript o i pos) X.env v=(do
   let ov ←holding [v] (eval o X.env)
   let iv ←holding [v,ov] (eval i X.env)
   standAt pos
   holding [v,ov,iv] (setItem ov iv v)
   release [v,ov,iv] []):=by intro _;rfl):PG X (.Subscript o i pos) (gSub to ti t):=by
 intro pins s σ H v u Q I r h
 rw [ha]
 refine wpAny_bind (wpAny_holding (thn (ho pins s σ H _ I h) fun ov s1 ⟨x,H1,I1,r1,q1⟩=>?_))
 refine wpAny_bind (wpAny_holding (thn (hi pins s1 σ H1 _ I1 q1) fun iv s2 ⟨y,H2,I2,r2,q2⟩=>?_))
 refine wpAny_bind (wpAny_standAt (wpAny_bind (wpAny_holding (thn (hs pins s2 σ H2 x y v ov iv u _ I2 r1 r2 r q2) fun _ s3 ⟨H3,I3,q3⟩=>?_))))
 exact wpAny_release ⟨σ,H3,I3,q3⟩
def tAsg (te:TE) (g:TG):TS:=fun D σ H=>te σ H fun x H1=>g x σ H1 D.nx
theorem a2k {tg e:Expr} {te:TE} {g:TG} (he:PE X e te) (hg:PG X tg g) (hs:swapsWithSole [tg] e pos.line X.env=pure false:=by rfl) (hw:swappedStores [tg] e X.env=pure none:=by rfl)
  (h1:(assignEach [tg] X.env).map (·.2)=[assign tg X.env]:=by rfl):PS X (.Assign [tg] e pos) (tAsg te g):=by
 intro pins s σ H D I h
 refine wpAny_Assign_stores (thn (he pins s σ H _ I h) fun v s1 ⟨x,H1,I1,r1,q1⟩=>?_) hs hw
 rw [h1]
 exact thn (hg pins s1 σ H1 x v _ I1 r1 q1) fun _ s2 q=>q
theorem a0t {i:Nat} {x:Str} {e:Expr} {te:TE} {pos':Pos} (hN:X.N.Nodup) (hi:X.N[i]?=some x) (hx:Loc X.env.scope x) (he:PE X e te) (hs:swapsWith e (some (.Name x pos')) pos.line X.env=pure false:=by rfl) (hf:X.fn x=true∨X.env.scope.names.lookup x=some .local:=by first | exact .inl rfl | exact .inr rfl | assumption) :
  PS X (.Assign [.Name x pos'] e pos) (tAsg te (a2j i)):=by
 intro pins s σ H D I h
 refine wpAny_Assign_Name (thn (he pins s σ H _ I h) fun v s1 ⟨y,H1,I1,r1,q1⟩=>?_) hs
 exact a6f I1 hN hi hx r1 (fun s2 I2=>⟨_,H1,I2,q1⟩) hf
def tPar (i j:Nat) (ta:TA):TS:=fun D σ H=>ta σ H fun vs H1=>∃ v w,vs=[v,w]∧D.nx ((σ.set i (some v)).set j (some w)) H1
def tAug (i:Nat) (te:TE) (ti:TIp):TS:=fun D σ H=>∃ x,σ[i]?=some (some x)∧te σ H fun y H1=>ti x y H1 fun z H2=>D.nx (σ.set i (some z)) H2
def tAugS (to ti te:TE) (tget:V→V→Hp→VK→Prop) (tip:TIp) (tset:TSet):TS:=fun D σ H=>to σ H fun o H1=>ti σ H1 fun i H2=>tget o i H2 fun x H3=>te σ H3 fun y H4=>tip x y H4 fun z H5=>tset o i z H5 fun H6=>D.nx σ H6
def PGet (X:Cx) (t:V→V→Hp→VK→Prop):Prop :=
 ∀ (pins:List (Addr × Obj)) (s:Shared) (σ:St) (H:Hp) (o i:V) (ov iv:Value) (Q:VK),Inv X pins σ H s→a0U o ov→a0U i iv→t o i H Q →
  wpAny (model X.prog X.w) X.A (getItem ov iv) (EP X pins σ Q) X.xe s
def ipI (f:Int→Int→Int):TIp:=fun x y H Q=>∃ i j,x=.int i∧y=.int j∧Q (.int (f i j)) H
def tWhile (c:TT) (tb:TS):TS:=fun D σ H=>∃ W:Nat→St→Hp→Prop,(∃ m,W m σ H)∧∀ m σ H,W m σ H →
 c σ H fun b H1=>if b=true then ∃ N:St→Hp→Prop,(∀ σ' H',N σ' H'→∃ m',m' < m∧W m' σ' H')∧tb { D with nx:=N,ct:=N,bk:=D.nx } σ H1 else D.nx σ H1
theorem a6i {c:Expr} {body:List Stmt} {tc:TT} {tb:TS} (hp:PassesOwn (model X.prog X.w) X.A X.env X.xe) (hc:PT X c tc) (hb:PSs X body tb):PS X (.While c body [] pos) (tWhile tc tb):=by
 intro pins s σ H D I h
 obtain ⟨W,⟨m0,w0⟩,turn⟩:=h
 refine wpAny_While (codeAny_whileLoop (fun n s'=>∃ σ' H',Inv X pins σ' H' s'∧W n σ' H') ?_ m0 ⟨σ,H,I,w0⟩)
 rintro n s1 ⟨σ1,H1,I1,w1⟩
 refine wpAny_passesOwn hp (thn (hc pins s1 σ1 H1 _ I1 (turn n σ1 H1 w1)) fun b s2 ⟨H2,I2,q2⟩=>?_)
 cases b with
 | true =>
  obtain ⟨N,hN,q2⟩:=q2
  rw [if_pos rfl]
  refine wpAny_passesOwn hp (thn (hb pins s2 σ1 H2 _ I2 q2) fun f s3 q3=>?_)
  cases f with
  | next =>
   obtain ⟨σ3,H3,I3,n3⟩:=q3
   obtain ⟨m',hm,w3⟩:=hN σ3 H3 n3
   exact ⟨m',hm,σ3,H3,I3,w3⟩
  | cont =>
   obtain ⟨σ3,H3,I3,n3⟩:=q3
   obtain ⟨m',hm,w3⟩:=hN σ3 H3 n3
   exact ⟨m',hm,σ3,H3,I3,w3⟩
  | brk=>exact q3
  | ret v=>exact q3
 | false =>
  rw [if_neg Bool.false_ne_true]
  exact wpAny_execs_nil ⟨σ1,H2,I2,q2⟩
end
structure It where
 go:Nat→Hp→Prop
 yld:Nat→Hp→V→Hp→Prop
 stop:Nat→Hp→Prop
def a9y (X:Cx) (pins:List (Addr × Obj)) (H:Hp) (b:Addr):Prop :=
 H b=none∧b≠X.env.locals∧b∉X.fs∧(b∈X.ex∨X.s₀.heap.objs.size≤b)∧(∀ x c,X.env.cells.lookup x=some c→c≠b)∧∀ p∈X.pn++pins,p.1≠b
theorem Inv.fpOk {X:Cx} {pins:List (Addr × Obj)} {σ:St} {H H':Hp} {s:Shared} {b:Addr} (I:Inv X pins σ H s) (hb:s.heap.objs.size≤b) (hn:H' b=none):a9y X pins H' b:=by
 refine ⟨hn,Nat.ne_of_gt (Nat.lt_of_lt_of_le I.lt hb),I.nofs hb,.inr (Nat.le_trans I.sz hb),fun x c e z=>?_,fun p hp z=>?_⟩
 ·obtain ⟨v,q⟩:=I.cell x c e
  exact absurd (Nat.lt_of_lt_of_le q.lt (by rw [z];exact hb)) (Nat.lt_irrefl _)
 ·exact absurd (Nat.lt_of_lt_of_le (Heap.lt_size (I.pin p hp).1) (by rw [z];exact hb)) (Nat.lt_irrefl _)
structure b1R (P:Program) (w:World) (K:PySem.W.Frag) (tg:Expr) (J:It) (fp:List Addr) (it:Addr) (tn:Nat→Heap→Prop):Prop where
 mem:it∈fp
 obj:∀ i h,tn i h→∀ b∈fp,∃ o,h.get? b=some o∧∀ v,o.data≠.cell v
 keep:∀ i h h',tn i h→(∀ b∈fp,∀ o,h.get? b=some o→h'.get? b=some o)→tn i h'
 item:∀ (X:Cx),X.prog=P→X.w=w→X.K=K→X.calm=true→∀ (i:Nat) (pins:List (Addr × Obj)) (s:Shared) (σ:St) (H:Hp) (E:Value→Shared→Prop),Inv X pins σ H s→(∀ b∈fp,a9y X pins H b)→tn i s.heap→J.go i H →
  wpAny (model P w) X.A (pyNext (.ref it)) (fun r s1=>∃ u,r=some u ∧
   wpAny (model P w) X.A (letOwnedTupleGo tg (.ref it) u) (fun _ s2=>∃ x H',Inv X pins σ H' s2∧a0U x u∧J.yld i H x H'∧tn (i+1) s2.heap∧∀ b∈fp,H' b=none) E s1) E s
 done:∀ (X:Cx),X.prog=P→X.w=w→X.K=K→X.calm=true→∀ (i:Nat) (pins:List (Addr × Obj)) (s:Shared) (σ:St) (H:Hp) (E:Value→Shared→Prop),Inv X pins σ H s→(∀ b∈fp,a9y X pins H b)→tn i s.heap→J.stop i H →
  wpAny (model P w) X.A (pyNext (.ref it)) (fun r s1=>r=none∧Inv X pins σ H s1) E s
 self:∀ (A:Around) (i:Nat) (s:Shared) (Q:Value→Shared→Prop) (E:Value→Shared→Prop),tn i s.heap→Q (.ref it) s→wpAny (model P w) A (pyIter (.ref it)) Q E s
abbrev TI:=St→Hp→(It→Hp→Prop)→Prop
def PIE (X:Cx) (pins:List (Addr × Obj)) (σ:St) (tg:Expr) (R:It→Hp→Prop) (itv:Value) (s2:Shared):Prop :=
 ∃ (it:Addr) (fp:List Addr) (tn:Nat→Heap→Prop) (J:It) (H':Hp),itv=.ref it∧Inv X pins σ H' s2∧b1R X.prog X.w X.K tg J fp it tn∧tn 0 s2.heap∧(∀ b∈fp,a9y X pins H' b)∧R J H'
def PI (X:Cx) (tg iter:Expr) (wi:TI):Prop :=
 ∀ (pins:List (Addr × Obj)) (s:Shared) (σ:St) (H:Hp) (R:It→Hp→Prop),Inv X pins σ H s→wi σ H R →
  wpAny (model X.prog X.w) X.A (eval iter X.env) (fun v s1=>wpAny (model X.prog X.w) X.A (pyIter v) (PIE X pins σ tg R) X.xe s1) X.xe s
theorem a9F {M:Model} {A:Around} {E:Value→Shared→Prop} {s:Shared} {tg:Expr} {it:Addr} {u:Value} {o:Obj} {n:String} {vs:Array Value} {Q:Unit→Shared→Prop} (ho:s.heap.get? it=some o) (hc:o.cls=.type n) (hd:o.data=.fields vs)
  (hn:["enumerate","zip","dict_itemiterator","dict_reverseitemiterator","odict_iterator","itertools.zip_longest","itertools.pairwise"].contains n=false) (hQ:Q () s):wpAny M A (letOwnedTupleGo tg (.ref it) u) Q E s:=by
 unfold letOwnedTupleGo
 cases tg <;> first
  | exact wpAny_pure hQ
  | (cases u <;> first
    | exact wpAny_pure hQ
    | (refine wpAny_bind (wpAny_load ho ?_)
       rw [hc,hd]
       show wpAny M A (if (["enumerate","zip","dict_itemiterator","dict_reverseitemiterator","odict_iterator","itertools.zip_longest","itertools.pairwise"].contains n && vs[0]? == some (rawInt _))=true then _ else _) Q E s
       rw [if_neg (by intro h;rw [hn,Bool.false_and] at h;cases h)]
       exact wpAny_pure hQ))
def Itl (K:PySem.W.Frag) (a:Addr):It :=
 ⟨fun i H=>∃ xs x,SqL K H a xs∧xs[i]?=some x,fun i H x H'=>H'=H∧∀ xs,SqL K H a xs→xs[i]?=some x,fun i H=>∃ xs,SqL K H a xs∧xs.length≤i⟩
def Itt (K:PySem.W.Frag) (a:Addr):It :=
 ⟨fun i H=>∃ xs x,SqT K H a xs∧xs[i]?=some x,fun i H x H'=>H'=H∧∀ xs,SqT K H a xs→xs[i]?=some x,fun i H=>∃ xs,SqT K H a xs∧xs.length≤i⟩
def Itr (lo:Int) (n:Nat):It:=⟨fun i _=>i < n,fun i H x H'=>H'=H∧x=.int (lo+i),fun i _=>n≤i⟩
theorem a7K {P:Program} {w:World} {K:PySem.W.Frag} {tg:Expr} (a it:Addr):b1R P w K tg (Itl K a) [it] it (fun i h=>h.IsListIter it a i) where
 mem:=by simp
 obj:=fun i h st b hb=>by
  have e:b=it:=by simpa using hb
  subst e
  obtain ⟨o,e,c,d⟩:=st
  exact ⟨o,e,fun v z=>by rw [d] at z;cases z⟩
 keep:=fun i h h' st k=>st.at fun o e=>k it (by simp) o e
 item:=by
  intro X hP hw hK hc i pins s σ H E I hf st hg
  subst hP hw hK
  obtain ⟨xs,x,hq,hx⟩:=hg
  obtain ⟨its,rv,p,hz⟩:=I.list hq
  obtain ⟨u,hu,ru⟩:=rv.get hx
  obtain ⟨f0,f1,f2,f3,f4,f5⟩:=hf it (by simp)
  refine wpAny_pyNext_list_item st p.isList (x:=u) (by simpa using hu) fun h' st' sb=>?_
  have I1:Inv X pins σ H { s with heap:=h' }:=I.turned (t':=s.toks) (fun b o hb e=>(sb.2 b hb).trans e) f0 f1 f3 f4 f5
  obtain ⟨o,e,c,d⟩:=id st'
  exact ⟨u,rfl,a9F (s:={ s with heap:=h' }) e c d (by decide) ⟨x,H,I1,ru,⟨rfl,fun ys hy=>by rw [I.list_inj hy hq];exact hx⟩,st',fun b hb=>(hf b hb).1⟩⟩
 done:=by
  intro X hP hw hK hc i pins s σ H E I hf st hg
  subst hP hw hK
  obtain ⟨xs,hq,hx⟩:=hg
  obtain ⟨its,rv,p,hz⟩:=I.list hq
  obtain ⟨f0,f1,f2,f3,f4,f5⟩:=hf it (by simp)
  have hl:=rv.length
  exact wpAny_pyNext_list_end (I.ok.hd hc) st p.isList (by simp;omega) fun h' eb=>⟨rfl,I.turned (t':=s.toks) (fun b o hb e=>eb b o hb e) f0 f1 f3 f4 f5⟩
 self:=fun _ _ _ _ _ st h=>wpAny_pyIter_listiter st h
theorem a6R {P:Program} {w:World} {K:PySem.W.Frag} {tg:Expr} (a it:Addr):b1R P w K tg (Itt K a) [it] it (fun i h=>h.IsTupleIter it a i) where
 mem:=by simp
 obj:=fun i h st b hb=>by
  have e:b=it:=by simpa using hb
  subst e
  obtain ⟨o,e,c,d⟩:=st
  exact ⟨o,e,fun v z=>by rw [d] at z;cases z⟩
 keep:=fun i h h' st k=>st.at fun o e=>k it (by simp) o e
 item:=by
  intro X hP hw hK hc i pins s σ H E I hf st hg
  subst hP hw hK
  obtain ⟨xs,x,hq,hx⟩:=hg
  obtain ⟨its,rv,p,hz⟩:=I.tuple hq
  obtain ⟨u,hu,ru⟩:=rv.get hx
  obtain ⟨f0,f1,f2,f3,f4,f5⟩:=hf it (by simp)
  refine wpAny_pyNext_tuple_item st (show s.heap.IsTuple a its.toArray from p) (x:=u) (by simpa using hu) fun h' st' sb=>?_
  have I1:Inv X pins σ H { s with heap:=h' }:=I.turned (t':=s.toks) (fun b o hb e=>(sb.2 b hb).trans e) f0 f1 f3 f4 f5
  obtain ⟨o,e,c,d⟩:=id st'
  exact ⟨u,rfl,a9F (s:={ s with heap:=h' }) e c d (by decide) ⟨x,H,I1,ru,⟨rfl,fun ys hy=>by rw [I.tuple_inj hy hq];exact hx⟩,st',fun b hb=>(hf b hb).1⟩⟩
 done:=by
  intro X hP hw hK hc i pins s σ H E I hf st hg
  subst hP hw hK
  obtain ⟨xs,hq,hx⟩:=hg
  obtain ⟨its,rv,p,hz⟩:=I.tuple hq
  obtain ⟨f0,f1,f2,f3,f4,f5⟩:=hf it (by simp)
  have hl:=rv.length
  exact wpAny_pyNext_tuple_end (I.ok.hd hc) st (show s.heap.IsTuple a its.toArray from p) (by simp;omega) fun h' eb=>⟨rfl,I.turned (t':=s.toks) (fun b o hb e=>eb b o hb e) f0 f1 f3 f4 f5⟩
 self:=fun _ _ _ _ _ st h=>wpAny_pyIter_tupleiter st h
theorem a6S {P:Program} {w:World} {K:PySem.W.Frag} {tg:Expr} (it:Addr) (lo:Int) (n:Nat):b1R P w K tg (Itr lo n) [it] it (fun i h=>IsRangeIter h it (lo+(i:Nat) * 1) ((n:Int) - (i:Nat)) 1) where
 mem:=by simp
 obj:=fun i h st b hb=>by
  have e:b=it:=by simpa using hb
  subst e
  exact ⟨_,st,fun v z=>by
   have z':Data.fields _=Data.cell v:=z
   cases z'⟩
 keep:=fun i h h' st k=>k it (by simp) _ st
 item:=by
  intro X hP hw hK hc i pins s σ H E I hf st hg
  subst hP hw hK
  obtain ⟨f0,f1,f2,f3,f4,f5⟩:=hf it (by simp)
  have W:=Walks.range (prog:=X.prog) (w:=X.w) (I.ok.hd hc) it lo 1 n
  refine W.item i s _ _ hg st fun v h' tk hv st' kk=>?_
  obtain ⟨t,rfl⟩:=hv
  have I1:Inv X pins σ H { s with heap:=h',toks:=tk }:=I.turned (fun b o hb e=>kk b o (by simpa using hb) e) f0 f1 f3 f4 f5
  refine ⟨_,rfl,a9F (s:={ s with heap:=h',toks:=tk }) (n:="range_iterator") st' rfl rfl (by decide) ⟨.int (lo+i),H,I1,⟨t,?_⟩,⟨rfl,rfl⟩,st',fun b hb=>(hf b hb).1⟩⟩
  rw [Int.mul_one]
 done:=by
  intro X hP hw hK hc i pins s σ H E I hf st hg
  subst hP hw hK
  obtain ⟨f0,f1,f2,f3,f4,f5⟩:=hf it (by simp)
  exact wpAny_pyNext_range_end (I.ok.hd hc) st (by have:n≤i:=hg;omega) fun h' eb=>⟨rfl,I.turned (t':=s.toks) (fun b o hb e=>eb b o hb e) f0 f1 f3 f4 f5⟩
 self:=fun _ _ _ _ _ st h=>wpAny_pyIter_rangeiter st h
section
variable {X:Cx} {tg:Expr}
def iList (K:PySem.W.Frag) (tl:TE):TI:=fun σ H R=>tl σ H fun x H1=>∃ a,x=.ref a∧(∃ xs,SqL K H1 a xs)∧R (Itl K a) H1
def iTup (K:PySem.W.Frag) (tl:TE):TI:=fun σ H R=>tl σ H fun x H1=>∃ a,x=.ref a∧(∃ xs,SqT K H1 a xs)∧R (Itt K a) H1
theorem a4n {l:Expr} {tl:TE} (hl:PE X l tl):PI X tg l (iList X.K tl):=by
 intro pins s σ H R I h
 refine thn (hl pins s σ H _ I h) fun v s1 ⟨x,H1,I1,r1,q1⟩=>?_
 obtain ⟨a,e,⟨xs,hq⟩,q⟩:=q1
 subst e
 cases r1
 obtain ⟨its,rv,p,hz⟩:=I1.list hq
 refine wpAny_pyIter_list p.isList ?_
 refine ⟨s1.heap.objs.size,[s1.heap.objs.size],_,_,H1,rfl,I1.kept (t':=s1.toks) fun b o e=>Heap.get?_push_of_some _ e,a7K a _,⟨_,Heap.get?_push_size _ rfl,rfl,rfl⟩,fun b hb=>?_,q⟩
 have e:b=s1.heap.objs.size:=by simpa using hb
 subst e
 exact I1.fpOk (Nat.le_refl _) (I1.hok.fresh (Nat.le_refl _))
theorem a7L {l:Expr} {tl:TE} (hl:PE X l tl):PI X tg l (iTup X.K tl):=by
 intro pins s σ H R I h
 refine thn (hl pins s σ H _ I h) fun v s1 ⟨x,H1,I1,r1,q1⟩=>?_
 obtain ⟨a,e,⟨xs,hq⟩,q⟩:=q1
 subst e
 cases r1
 obtain ⟨its,rv,p,hz⟩:=I1.tuple hq
 refine wpAny_pyIter_tuple (show s1.heap.IsTuple a its.toArray from p) ?_
 refine ⟨s1.heap.objs.size,[s1.heap.objs.size],_,_,H1,rfl,I1.kept (t':=s1.toks) fun b o e=>Heap.get?_push_of_some _ e,a6R a _,⟨_,Heap.get?_push_size _ rfl,rfl,rfl⟩,fun b hb=>?_,q⟩
 have e:b=s1.heap.objs.size:=by simpa using hb
 subst e
 exact I1.fpOk (Nat.le_refl _) (I1.hok.fresh (Nat.le_refl _))
theorem a6j {pins:List (Addr × Obj)} {σ:St} {H:Hp} {s:Shared} {R:It→Hp→Prop} {E:Value→Shared→Prop} {lo hi:Int} {t u v:Tok} {tk:Nat} (I:Inv X pins σ H s) (h1:-(2 ^ 62)≤lo) (h2:lo < 2 ^ 62) (h3:-(2 ^ 62)≤hi) (h4:hi < 2 ^ 62)
  (q:R (Itr lo (hi - lo).toNat) H):wpAny (model X.prog X.w) X.A (pyIter (.ref s.heap.objs.size)) (PIE X pins σ tg R) E { s with heap:=s.heap.push { cls:=.type "range",data:=.fields #[.int lo t,.int hi u,.int 1 v] },toks:=tk }:=by
 refine wpAny_pyIter_range (IsRange.new ..) (small_one h1 h2 h3 h4) ?_
 have I1:Inv X pins σ H { s with heap:=s.heap.push { cls:=.type "range",data:=.fields #[.int lo t,.int hi u,.int 1 v] },toks:=tk }:=I.kept fun b o e=>Heap.get?_push_of_some _ e
 refine ⟨(s.heap.push { cls:=.type "range",data:=.fields #[.int lo t,.int hi u,.int 1 v] }).objs.size,[(s.heap.push { cls:=.type "range",data:=.fields #[.int lo t,.int hi u,.int 1 v] }).objs.size],_,_,H,rfl,
  I1.kept (t':=tk) fun b o e=>Heap.get?_push_of_some _ e,a6S _ lo (hi - lo).toNat,?_,fun b hb=>?_,q⟩
 ·have e1:lo+((0:Nat):Int) * 1=lo:=by simp
  have e2:(((hi - lo).toNat:Nat):Int) - ((0:Nat):Int)=Builtin.Range.rangeSize lo hi 1:=by rw [rangeSize_one];split <;> omega
  show IsRangeIter _ _ (lo+((0:Nat):Int) * 1) ((((hi - lo).toNat:Nat):Int) - ((0:Nat):Int)) 1
  rw [e1,e2]
  exact Heap.get?_push_size _ rfl
 ·have e:b=(s.heap.push { cls:=.type "range",data:=.fields #[.int lo t,.int hi u,.int 1 v] }).objs.size:=by simpa using hb
  subst e
  exact I1.fpOk (Nat.le_refl _) (I1.hok.fresh (Nat.le_refl _))
def iRng1 (ta:TA):TI:=fun σ H R=>ta σ H fun vs H1=>∃ j:Int,vs=[.int j]∧-(2 ^ 62)≤j∧j < 2 ^ 62∧R (Itr 0 j.toNat) H1
def iRng2 (ta:TA):TI:=fun σ H R=>ta σ H fun vs H1=>∃ i j:Int,vs=[.int i,.int j]∧(-(2 ^ 62)≤i∧i < 2 ^ 62∧-(2 ^ 62)≤j∧j < 2 ^ 62)∧R (Itr i (j - i).toNat) H1
theorem a2v {a:Expr} {ta:TA} {p pos:Pos} (hg:Gl X "range") (hm:X.mg "range"=none) (ha:PA X [a] ta) (hs:starEach [a] X.env=[(false,eval a X.env)]:=by rfl):PI X tg (.Call (.Name "range" p) [a] [] pos) (iRng1 ta):=by
 intro pins s σ H R I h
 refine Call_ (a2u I hg hm boot_range (PyProof.Rows.callWith_type1 (thn (ha pos pins s σ H _ I h) fun us s1 ⟨vs,H1,I1,r1,q1⟩=>?_) hs rfl))
 obtain ⟨j,e,q1,q2,q⟩:=q1
 subst e
 cases r1 with
 | cons r rr =>
  cases rr
  obtain ⟨t,rfl⟩:=r
  exact call_range_1 (a6j I1 (by omega) (by omega) q1 q2 (by simpa using q))
theorem a1p {a b:Expr} {ta:TA} {p pos:Pos} (hg:Gl X "range") (hm:X.mg "range"=none) (ha:PA X [a,b] ta) (hs:starEach [a,b] X.env=[(false,eval a X.env),(false,eval b X.env)]:=by rfl) (hs2:starEach [b] X.env=[(false,eval b X.env)]:=by rfl) :
  PI X tg (.Call (.Name "range" p) [a,b] [] pos) (iRng2 ta):=by
 intro pins s σ H R I h
 refine Call_ (a2u I hg hm boot_range (PyProof.Rows.callWith_type1 (thn (ha pos pins s σ H _ I h) fun us s1 ⟨vs,H1,I1,r1,q1⟩=>?_) (by rw [hs,hs2]) (by rw [hs2];rfl)))
 obtain ⟨i,j,e,⟨q1,q2,q3,q4⟩,q⟩:=q1
 subst e
 cases r1 with
 | cons r rr =>
  cases rr with
  | cons r' rr =>
   cases rr
   obtain ⟨t,rfl⟩:=r
   obtain ⟨t',rfl⟩:=r'
   exact call_range_2 (a6j I1 q1 q2 q3 q4 q)
def tFor (wi:TI) (g:TG) (tb:TS):TS:=fun D σ H=>wi σ H fun J H1=>∃ W:Nat→Nat→St→Hp→Prop,(∃ m,W 0 m σ H1)∧∀ i m σ H,W i m σ H →
 (J.stop i H∧D.nx σ H)∨(J.go i H∧∃ N:St→Hp→Prop,(∀ σ' H',N σ' H'→∃ m',m' < m∧W (i+1) m' σ' H')∧∀ x H',J.yld i H x H'→g x σ H' fun σ2 H2=>tb { D with nx:=N,ct:=N,bk:=D.nx } σ2 H2)
def a4P (fp:List Addr) (h:Heap):List (Addr × Obj):=fp.filterMap fun b=>(h.get? b).map fun o=>(b,o)
theorem a2H {fp:List Addr} {h:Heap} {b:Addr} {o:Obj} (hb:b∈fp) (e:h.get? b=some o):(b,o)∈a4P fp h:=List.mem_filterMap.mpr ⟨b,hb,by rw [e];rfl⟩
theorem a7M {fp:List Addr} {h:Heap} {p:Addr × Obj} (hp:p∈a4P fp h):p.1∈fp∧h.get? p.1=some p.2:=by
 obtain ⟨b,hb,e⟩:=List.mem_filterMap.mp hp
 cases q:h.get? b with
 | none=>rw [q] at e;cases e
 | some o =>
  rw [q] at e
  have e':(b,o)=p:=Option.some.inj e
  subst e'
  exact ⟨hb,q⟩
theorem Inv.pinned {pins:List (Addr × Obj)} {σ:St} {H:Hp} {s:Shared} {fp:List Addr} (I:Inv X pins σ H s) (hf:∀ b∈fp,a9y X pins H b) (ho:∀ b∈fp,∃ o,s.heap.get? b=some o∧∀ v,o.data≠.cell v):Inv X (pins++a4P fp s.heap) σ H s :=
 I.pins_of fun p hp=>(List.mem_append.mp hp).elim (fun z=>I.pin p (List.mem_append_right _ z)) fun z=>by
  obtain ⟨hb,e⟩:=a7M z
  obtain ⟨f0,f1,f2,_⟩:=hf p.1 hb
  obtain ⟨o,e',d⟩:=ho p.1 hb
  rw [e] at e';cases e'
  exact ⟨e,f0,f1,f2,d⟩
theorem Inv.unpinned {pins pl:List (Addr × Obj)} {σ:St} {H:Hp} {s:Shared} (I:Inv X (pins++pl) σ H s):Inv X pins σ H s:=I.pins_of fun p hp=>I.pin p (List.mem_append_right _ (List.mem_append_left _ hp))
theorem a1l {iter:Expr} {body:List Stmt} {wi:TI} {g:TG} {tb:TS} {pos:Pos} (hp:PassesOwn (model X.prog X.w) X.A X.env X.xe) (hc:X.calm=true) (hi:PI X tg iter wi) (hg:PG X tg g) (hb:PSs X body tb)
  (hs:∀ x,foldedSetIterable iter X.env x=pure x:=by intro _;rfl):PS X (.For tg iter body [] pos) (tFor wi g tb):=by
 intro pins s σ H D I h
 refine wpAny_For (thn (hi pins s σ H _ I h) fun v s1 h1=>thn h1 fun itv s2 h2=>?_) hs
 obtain ⟨it,fp,tn,J,H2,e,I2,T,st2,f2,W,⟨m0,w0⟩,turn⟩:=h2
 subst e
 have stat:∀ {H':Hp},(∀ b∈fp,H' b=none)→∀ b∈fp,a9y X pins H' b:=fun hn b hb=>⟨hn b hb,(f2 b hb).2⟩
 refine codeAny_forLoop_any (fun n s'=>∃ i σ' H',Inv X pins σ' H' s'∧tn i s'.heap∧(∀ b∈fp,H' b=none)∧W i n σ' H') ?_ m0 ⟨0,σ,H2,I2,st2,fun b hb=>(f2 b hb).1,w0⟩
 rintro n s3 ⟨i,σ3,H3,I3,st3,fr3,w3⟩
 rcases turn i n σ3 H3 w3 with ⟨stop,qn⟩ | ⟨go,N,hN,step⟩
 ·refine wpAny_passesOwn hp (thn (T.done X rfl rfl rfl hc i pins s3 σ3 H3 X.xe I3 (stat fr3) st3 stop) fun r s4 ⟨hr,I4⟩=>?_)
  subst hr
  exact wpAny_execs_nil ⟨σ3,H3,I4,qn⟩
 ·refine wpAny_passesOwn hp (thn (T.item X rfl rfl rfl hc i pins s3 σ3 H3 X.xe I3 (stat fr3) st3 go) fun r s4 ⟨u,hr,h4⟩=>?_)
  subst hr
  refine wpAny_passesOwn hp (thn h4 fun _ s5 ⟨x,H5,I5,r5,y5,st5,fr5⟩=>?_)
  have I5':=I5.pinned (stat fr5) (T.obj _ _ st5)
  refine wpAny_passesOwn hp (thn (hg _ s5 σ3 H5 x u _ I5' r5 (step x H5 y5)) fun _ s6 ⟨σ6,H6,I6,q6⟩=>?_)
  refine wpAny_passesOwn hp (thn (hb _ s6 σ6 H6 _ I6 q6) fun f s7 q7=>?_)
  have again:∀ {σ7:St} {H7:Hp},Inv X (pins++a4P fp s5.heap) σ7 H7 s7→N σ7 H7→∃ m,m < n∧∃ i σ' H',Inv X pins σ' H' s7∧tn i s7.heap∧(∀ b∈fp,H' b=none)∧W i m σ' H':=fun {σ7 H7} I7 n7=>by
   obtain ⟨m',hm,w7⟩:=hN σ7 H7 n7
   refine ⟨m',hm,i+1,σ7,H7,I7.unpinned,T.keep _ _ _ st5 fun b hb o e=>(I7.pin (b,o) (List.mem_append_right _ (List.mem_append_right _ (a2H hb e)))).1,fun b hb=>?_,w7⟩
   obtain ⟨o,e,d⟩:=T.obj _ _ st5 b hb
   exact (I7.pin (b,o) (List.mem_append_right _ (List.mem_append_right _ (a2H hb e)))).2.1
  cases f with
  | next=>obtain ⟨σ7,H7,I7,n7⟩:=q7;exact again I7 n7
  | cont=>obtain ⟨σ7,H7,I7,n7⟩:=q7;exact again I7 n7
  | brk=>obtain ⟨σ7,H7,I7,q7⟩:=q7;exact ⟨σ7,H7,I7.unpinned,q7⟩
  | ret v=>obtain ⟨x7,σ7,H7,I7,r7,q7⟩:=q7;exact ⟨x7,σ7,H7,I7.unpinned,r7,q7⟩
end
theorem a6k {K:PySem.W.Frag} {a:Addr} {xs:List V} {g:TG} {tb:TS} {D:a9x} {σ:St} {H:Hp} (Pv:Nat→St→Hp→Prop) (h0:Pv 0 σ H) (hl:∀ i σ H,i≤xs.length→Pv i σ H→SqL K H a xs)
  (hs:∀ i x σ H,xs[i]?=some x→Pv i σ H→g x σ H fun σ2 H2=>tb { D with nx:=Pv (i+1),ct:=Pv (i+1),bk:=D.nx } σ2 H2) (hd:∀ σ H,Pv xs.length σ H→D.nx σ H) :
  ∃ W:Nat→Nat→St→Hp→Prop,(∃ m,W 0 m σ H)∧∀ i m σ H,W i m σ H →
   ((Itl K a).stop i H∧D.nx σ H)∨((Itl K a).go i H∧∃ N:St→Hp→Prop,(∀ σ' H',N σ' H'→∃ m',m' < m∧W (i+1) m' σ' H')∧∀ x H',(Itl K a).yld i H x H'→g x σ H' fun σ2 H2=>tb { D with nx:=N,ct:=N,bk:=D.nx } σ2 H2):=by
 refine ⟨fun i m σ H=>m=xs.length - i∧i≤xs.length∧Pv i σ H,⟨xs.length,by simp,Nat.zero_le _,h0⟩,?_⟩
 rintro i m σ H ⟨rfl,hi,p⟩
 have q:=hl i σ H hi p
 by_cases hlt:i < xs.length
 ·refine .inr ⟨⟨xs,xs[i],q,by simp [hlt]⟩,Pv (i+1),fun σ' H' p'=>⟨xs.length - (i+1),by omega,rfl,hlt,p'⟩,fun x H' y=>?_⟩
  obtain ⟨e,y⟩:=y
  subst e
  exact hs i x σ _ (y xs q) p
 ·have e:i=xs.length:=by omega
  subst e
  exact .inl ⟨⟨xs,q,Nat.le_refl _⟩,hd σ H p⟩
theorem a7N {K:PySem.W.Frag} {a:Addr} {xs:List V} {g:TG} {tb:TS} {D:a9x} {σ:St} {H:Hp} (Pv:Nat→St→Hp→Prop) (h0:Pv 0 σ H) (hl:∀ i σ H,i≤xs.length→Pv i σ H→SqT K H a xs)
  (hs:∀ i x σ H,xs[i]?=some x→Pv i σ H→g x σ H fun σ2 H2=>tb { D with nx:=Pv (i+1),ct:=Pv (i+1),bk:=D.nx } σ2 H2) (hd:∀ σ H,Pv xs.length σ H→D.nx σ H) :
  ∃ W:Nat→Nat→St→Hp→Prop,(∃ m,W 0 m σ H)∧∀ i m σ H,W i m σ H →
   ((Itt K a).stop i H∧D.nx σ H)∨((Itt K a).go i H∧∃ N:St→Hp→Prop,(∀ σ' H',N σ' H'→∃ m',m' < m∧W (i+1) m' σ' H')∧∀ x H',(Itt K a).yld i H x H'→g x σ H' fun σ2 H2=>tb { D with nx:=N,ct:=N,bk:=D.nx } σ2 H2):=by
 refine ⟨fun i m σ H=>m=xs.length - i∧i≤xs.length∧Pv i σ H,⟨xs.length,by simp,Nat.zero_le _,h0⟩,?_⟩
 rintro i m σ H ⟨rfl,hi,p⟩
 have q:=hl i σ H hi p
 by_cases hlt:i < xs.length
 ·refine .inr ⟨⟨xs,xs[i],q,by simp [hlt]⟩,Pv (i+1),fun σ' H' p'=>⟨xs.length - (i+1),by omega,rfl,hlt,p'⟩,fun x H' y=>?_⟩
  obtain ⟨e,y⟩:=y
  subst e
  exact hs i x σ _ (y xs q) p
 ·have e:i=xs.length:=by omega
  subst e
  exact .inl ⟨⟨xs,q,Nat.le_refl _⟩,hd σ H p⟩
theorem a1f {lo:Int} {n:Nat} {g:TG} {tb:TS} {D:a9x} {σ:St} {H:Hp} (Pv:Nat→St→Hp→Prop) (h0:Pv 0 σ H)
  (hs:∀ i σ H,i < n→Pv i σ H→g (.int (lo+i)) σ H fun σ2 H2=>tb { D with nx:=Pv (i+1),ct:=Pv (i+1),bk:=D.nx } σ2 H2) (hd:∀ σ H,Pv n σ H→D.nx σ H) :
  ∃ W:Nat→Nat→St→Hp→Prop,(∃ m,W 0 m σ H)∧∀ i m σ H,W i m σ H →
   ((Itr lo n).stop i H∧D.nx σ H)∨((Itr lo n).go i H∧∃ N:St→Hp→Prop,(∀ σ' H',N σ' H'→∃ m',m' < m∧W (i+1) m' σ' H')∧∀ x H',(Itr lo n).yld i H x H'→g x σ H' fun σ2 H2=>tb { D with nx:=N,ct:=N,bk:=D.nx } σ2 H2):=by
 refine ⟨fun i m σ H=>m=n - i∧i≤n∧Pv i σ H,⟨n,by simp,Nat.zero_le _,h0⟩,?_⟩
 rintro i m σ H ⟨rfl,hi,p⟩
 by_cases hlt:i < n
 ·refine .inr ⟨hlt,Pv (i+1),fun σ' H' p'=>⟨n - (i+1),by omega,rfl,hlt,p'⟩,fun x H' y=>?_⟩
  obtain ⟨e,y⟩:=y
  subst e y
  exact hs i σ _ hlt p
 ·have e:i=n:=by omega
  subst e
  exact .inl ⟨Nat.le_refl _,hd σ H p⟩
abbrev R2:=V→V→Hp→VK→Prop
def OpR (X:Cx) (f:Value→Value→Sem Value) (r:R2):Prop :=
 ∀ (pins:List (Addr × Obj)) (s:Shared) (σ:St) (H:Hp) (x y:V) (v u:Value) (Q:VK),Inv X pins σ H s→a0U x v→a0U y u→r x y H Q →
  wpAny (model X.prog X.w) X.A (f v u) (EP X pins σ Q) X.xe s
def UnR (X:Cx) (f:Value→Sem Value) (r:V→Hp→VK→Prop):Prop :=
 ∀ (pins:List (Addr × Obj)) (s:Shared) (σ:St) (H:Hp) (x:V) (v:Value) (Q:VK),Inv X pins σ H s→a0U x v→r x H Q →
  wpAny (model X.prog X.w) X.A (f v) (EP X pins σ Q) X.xe s
def a2w (X:Cx) (f:Value) (r:List V→Hp→VK→Prop):Prop :=
 ∀ (pins:List (Addr × Obj)) (s:Shared) (σ:St) (H:Hp) (xs:List V) (us:List Value) (Q:VK),Inv X pins σ H s→a0K xs us→r xs H Q →
  wpAny (model X.prog X.w) X.A (call f us) (EP X pins σ Q) X.xe s
def TruR (X:Cx) (r:V→Hp→(Bool→Hp→Prop)→Prop):Prop :=
 ∀ (pins:List (Addr × Obj)) (s:Shared) (σ:St) (H:Hp) (x:V) (v:Value) (Q:Bool→Hp→Prop),Inv X pins σ H s→a0U x v→r x H Q →
  wpAny (model X.prog X.w) X.A (truthy v) (TP X pins σ Q) X.xe s
def tOp (r:R2) (ta tb:TE):TE:=fun σ H Q=>ta σ H fun x H1=>tb σ H1 fun y H2=>r x y H2 Q
def tUn (r:V→Hp→VK→Prop) (ta:TE):TE:=fun σ H Q=>ta σ H fun x H1=>r x H1 Q
def rI (C:Int→Int→Prop) (g:Int→Int→V):R2:=fun x y H Q=>∃ i j,x=.int i∧y=.int j∧C i j∧Q (g i j) H
def rI0 (g:Int→Int→V):R2:=fun x y H Q=>∃ i j,x=.int i∧y=.int j∧Q (g i j) H
def rU (g:Int→V):V→Hp→VK→Prop:=fun x H Q=>∃ i,x=.int i∧Q (g i) H
section
variable {X:Cx} {a b c:Expr} {ta tb tc:TE} {pos:Pos}
theorem binT (ha:PE X a ta) (hb:PE X b tb) {pins:List (Addr × Obj)} {s:Shared} {σ:St} {H:Hp} {R:V→V→Hp→Prop} (I:Inv X pins σ H s)
  (h:ta σ H fun x H1=>tb σ H1 fun y H2=>R x y H2) {Q:Value→Shared→Prop} {f:Value→Value→Sem Value}
  (hf:∀ v u s2 x y H2,Inv X pins σ H2 s2→a0U x v→a0U y u→R x y H2→wpAny (model X.prog X.w) X.A (f v u) Q X.xe s2) :
  wpAny (model X.prog X.w) X.A (eval a X.env) (fun v s₁=>wpAny (model X.prog X.w) X.A (eval b X.env) (fun u s₂=>wpAny (model X.prog X.w) X.A (f v u) Q X.xe s₂) X.xe s₁) X.xe s:=by
 refine thn (ha pins s σ H _ I h) fun v s1 ⟨x,H1,I1,r1,q1⟩=>?_
 refine thn (hb pins s1 σ H1 _ I1 q1) fun u s2 ⟨y,H2,I2,r2,q2⟩=>?_
 exact hf v u s2 x y H2 I2 r1 r2 q2
theorem a0p {op:Operator} {r:R2} (ho:OpR X (binaryOp op) r) (ha:PE X a ta) (hb:PE X b tb):PE X (.BinOp a op b pos) (tOp r ta tb):=by
 intro pins s σ H Q I h
 exact wpAny_BinOp (binT ha hb I h fun v u s2 x y H2 I2 rx ry q=>ho pins s2 σ H2 x y v u Q I2 rx ry q)
theorem a2x {op:UnaryOp} {r:V→Hp→VK→Prop} (ho:UnR X (unaryOp op) r) (ha:PE X a ta):PE X (.UnaryOp op a pos) (tUn r ta):=by
 intro pins s σ H Q I h
 exact UnaryOp_ (thn (ha pins s σ H _ I h) fun v s1 ⟨x,H1,I1,r1,q1⟩=>ho pins s1 σ H1 x v Q I1 r1 q1)
theorem opI {f:Value→Value→Sem Value} {C:Int→Int→Prop} {g:Int→Int→Int}
  (rule:∀ (i j:Int) (t u:Tok) (s:Shared) (Q:Value→Shared→Prop) (E:Value→Shared→Prop),C i j→Q (.int (g i j) s.toks) { s with toks:=s.toks+1 }→wpAny (model X.prog X.w) X.A (f (.int i t) (.int j u)) Q E s) :
  OpR X f (rI C fun i j=>.int (g i j)):=by
 intro pins s σ H x y v u Q I rx ry h
 obtain ⟨i,j,rfl,rfl,hc,q⟩:=h
 obtain ⟨t,rfl⟩:=rx
 obtain ⟨t',rfl⟩:=ry
 exact rule i j t t' s _ _ hc ⟨.int (g i j),H,I.tok _,⟨_,rfl⟩,q⟩
theorem opI0 {f:Value→Value→Sem Value} {g:Int→Int→Int}
  (rule:∀ (i j:Int) (t u:Tok) (s:Shared) (Q:Value→Shared→Prop) (E:Value→Shared→Prop),Q (.int (g i j) s.toks) { s with toks:=s.toks+1 }→wpAny (model X.prog X.w) X.A (f (.int i t) (.int j u)) Q E s) :
  OpR X f (rI0 fun i j=>.int (g i j)):=by
 intro pins s σ H x y v u Q I rx ry h
 obtain ⟨i,j,rfl,rfl,q⟩:=h
 obtain ⟨t,rfl⟩:=rx
 obtain ⟨t',rfl⟩:=ry
 exact rule i j t t' s _ _ ⟨.int (g i j),H,I.tok _,⟨_,rfl⟩,q⟩
theorem opB0 {f:Value→Value→Sem Value} {g:Int→Int→Bool}
  (rule:∀ (i j:Int) (t u:Tok) (s:Shared) (Q:Value→Shared→Prop) (E:Value→Shared→Prop),Q (.bool (g i j)) s→wpAny (model X.prog X.w) X.A (f (.int i t) (.int j u)) Q E s) :
  OpR X f (rI0 fun i j=>.bl (g i j)):=by
 intro pins s σ H x y v u Q I rx ry h
 obtain ⟨i,j,rfl,rfl,q⟩:=h
 obtain ⟨t,rfl⟩:=rx
 obtain ⟨t',rfl⟩:=ry
 exact rule i j t t' s _ _ ⟨.bl (g i j),H,I,rfl,q⟩
def CDiv (i j:Int):Prop:=0 < j∧j < 1073741824
def CPow (i j:Int):Prop:=0≤j∧j≤1000000∧i.natAbs < 2 ^ 64
def CMul (i j:Int):Prop:=(-(2 ^ 64) < i∧i < 2 ^ 64)∨(-(2 ^ 64) < j∧j < 2 ^ 64)
theorem CMul.ok {i j:Int} (h:CMul i j):IntMulOk i j:=by
 rcases h with ⟨h1,h2⟩ | ⟨h1,h2⟩
 ·exact .of_left (intBits_le_64 h1 h2)
 ·exact .of_right (intBits_le_64 h1 h2)
theorem a0I:OpR X (binaryOp .Add) (rI0 fun i j=>.int (i+j)):=opI0 fun _ _ _ _ _ _ _ q=>add_int q
theorem a1q:OpR X (binaryOp .Sub) (rI0 fun i j=>.int (i - j)):=opI0 fun _ _ _ _ _ _ _ q=>sub_int q
theorem a4Q:OpR X (binaryOp .Mult) (rI CMul fun i j=>.int (i * j)):=opI fun _ _ _ _ _ _ _ hc q=>mul_int q hc.ok
theorem a1i:OpR X (binaryOp .FloorDiv) (rI CDiv fun i j=>.int (i / j)):=opI fun i j _ _ _ _ _ hc q=>by
 have h1:(0:Int) < j:=hc.1
 have h2:j < 1073741824:=hc.2
 exact floordiv_int (by omega) (by rw [Int.fdiv_eq_ediv_of_nonneg i (by omega)];exact q) (.inl (PyProof.noPylong_small (by omega)))
theorem a0L:OpR X (binaryOp .Mod) (rI (fun _ j=>0 < j) fun i j=>.int (i % j)):=opI fun i j _ _ _ _ _ hc q=>by
 have h1:(0:Int) < j:=hc
 exact mod_int' (by omega) (by rw [Int.fmod_eq_emod_of_nonneg i (by omega)];exact q)
theorem a3Q:OpR X (binaryOp .Pow) (rI CPow fun i j=>.int (i ^ j.toNat)):=opI fun _ _ _ _ _ _ _ hc q=>pow_int_small hc.1 hc.2.1 hc.2.2 q
theorem unI {f:Value→Sem Value} {g:Int→Int}
  (rule:∀ (i:Int) (t:Tok) (s:Shared) (Q:Value→Shared→Prop) (E:Value→Shared→Prop),Q (.int (g i) s.toks) { s with toks:=s.toks+1 }→wpAny (model X.prog X.w) X.A (f (.int i t)) Q E s) :
  UnR X f (rU fun i=>.int (g i)):=by
 intro pins s σ H x v Q I rx h
 obtain ⟨i,rfl,q⟩:=h
 obtain ⟨t,rfl⟩:=rx
 exact rule i t s _ _ ⟨.int (g i),H,I.tok _,⟨_,rfl⟩,q⟩
theorem a1z:UnR X (unaryOp .USub) (rU fun i=>.int (-i)):=unI fun _ _ _ _ _ q=>neg_int q
end
def scal:V→V→Bool
 | .non,.non=>true | .non,.int _=>true | .int _,.non=>true | .non,.bl _=>true | .bl _,.non=>true | .non,.str _=>true | .str _,.non=>true
 | .int _,.int _=>true | .bl _,.bl _=>true | .str _,.str _=>true | .byt _,.byt _=>true
 | .int _,.str _=>true | .str _,.int _=>true | .bl _,.str _=>true | .str _,.bl _=>true
 | _,_=>false
def rEq:R2:=fun x y H Q=>scal x y=true∧Q (.bl (decide (x=y))) H
def rNe:R2:=fun x y H Q=>scal x y=true∧Q (.bl (!decide (x=y))) H
theorem a7O {i j:Int}:decide (V.int i=V.int j)=(i == j):=by
 rw [Bool.eq_iff_iff]
 simp
theorem b1f {i j:Bool}:decide (V.bl i=V.bl j)=(i == j):=by
 rw [Bool.eq_iff_iff]
 simp
theorem a7P {i j:Str}:decide (V.str i=V.str j)=(i == j):=by
 rw [Bool.eq_iff_iff]
 simp
theorem a7Q {i j:Array UInt8}:decide (V.byt i=V.byt j)=(i.toList == j.toList):=by
 rw [Bool.eq_iff_iff]
 cases i
 cases j
 simp
section
variable {X:Cx} {a b c:Expr} {ta tb tc:TE} {pos:Pos}
theorem a0M {pins:List (Addr × Obj)} {σ:St} {H:Hp} {s:Shared} {Q:VK} {k k':Bool} (I:Inv X pins σ H s) (q:Q (.bl k) H) (e:k=k'):EP X pins σ Q (.bool k') s:=by
 subst e
 exact ⟨.bl k,H,I,rfl,q⟩
theorem a1G:OpR X (compareOp .Eq) rEq:=by
 intro pins s σ H x y v u Q I rx ry h
 obtain ⟨hs,q⟩:=h
 cases x with
 | non =>
  cases rx
  cases y with
  | non=>cases ry;exact PySem.EqNone.eq_none_none (a0M I q (by simp))
  | bl j=>cases ry;exact PySem.EqNone.eq_none_bool (a0M I q (by simp))
  | int j=>obtain ⟨t',rfl⟩:=ry;exact PySem.EqNone.eq_none_int (a0M I q (by simp))
  | str j=>obtain ⟨t',rfl⟩:=ry;exact PySem.EqNone.eq_none_str (a0M I q (by simp))
  | _=>exact absurd (show false=true from hs) Bool.false_ne_true
 | bl i =>
  cases rx
  cases y with
  | non=>cases ry;exact PySem.EqNone.eq_bool_none (a0M I q (by simp))
  | bl j=>cases ry;exact eq_bool (a0M I q b1f)
  | str j=>obtain ⟨t',rfl⟩:=ry;exact PySem.EqMixed.eq_bool_str (a0M I q (by simp))
  | _=>exact absurd (show false=true from hs) Bool.false_ne_true
 | int i =>
  obtain ⟨t,rfl⟩:=rx
  cases y with
  | non=>cases ry;exact PySem.EqNone.eq_int_none (a0M I q (by simp))
  | int j=>obtain ⟨t',rfl⟩:=ry;exact eq_int (a0M I q a7O)
  | str j=>obtain ⟨t',rfl⟩:=ry;exact PySem.EqMixed.eq_int_str (a0M I q (by simp))
  | _=>exact absurd (show false=true from hs) Bool.false_ne_true
 | str i =>
  obtain ⟨t,rfl⟩:=rx
  cases y with
  | non=>cases ry;exact PySem.EqNone.eq_str_none (a0M I q (by simp))
  | bl j=>cases ry;exact PySem.EqMixed.eq_str_bool (a0M I q (by simp))
  | int j=>obtain ⟨t',rfl⟩:=ry;exact PySem.EqMixed.eq_str_int (a0M I q (by simp))
  | str j=>obtain ⟨t',rfl⟩:=ry;exact eq_str (a0M I q a7P)
  | _=>exact absurd (show false=true from hs) Bool.false_ne_true
 | byt i =>
  obtain ⟨t,rfl⟩:=rx
  cases y with
  | byt j=>obtain ⟨t',rfl⟩:=ry;exact PySem.W.eq_bytes (a0M I q a7Q)
  | _=>exact absurd (show false=true from hs) Bool.false_ne_true
 | _=>cases y <;> exact absurd (show false=true from hs) Bool.false_ne_true
theorem b1S:OpR X (compareOp .NotEq) rNe:=by
 intro pins s σ H x y v u Q I rx ry h
 obtain ⟨hs,q⟩:=h
 cases x with
 | non =>
  cases rx
  cases y with
  | non=>cases ry;exact PySem.EqNone.ne_none_none (a0M I q (by simp))
  | bl j=>cases ry;exact PySem.EqNone.ne_none_bool (a0M I q (by simp))
  | int j=>obtain ⟨t',rfl⟩:=ry;exact PySem.EqNone.ne_none_int (a0M I q (by simp))
  | str j=>obtain ⟨t',rfl⟩:=ry;exact PySem.EqNone.ne_none_str (a0M I q (by simp))
  | _=>exact absurd (show false=true from hs) Bool.false_ne_true
 | bl i =>
  cases rx
  cases y with
  | non=>cases ry;exact PySem.EqNone.ne_bool_none (a0M I q (by simp))
  | bl j=>cases ry;exact ne_bool (a0M I q (congrArg not b1f))
  | str j=>obtain ⟨t',rfl⟩:=ry;exact PySem.EqMixed.ne_bool_str (a0M I q (by simp))
  | _=>exact absurd (show false=true from hs) Bool.false_ne_true
 | int i =>
  obtain ⟨t,rfl⟩:=rx
  cases y with
  | non=>cases ry;exact PySem.EqNone.ne_int_none (a0M I q (by simp))
  | int j=>obtain ⟨t',rfl⟩:=ry;exact ne_int (a0M I q (congrArg not a7O))
  | str j=>obtain ⟨t',rfl⟩:=ry;exact PySem.EqMixed.ne_int_str (a0M I q (by simp))
  | _=>exact absurd (show false=true from hs) Bool.false_ne_true
 | str i =>
  obtain ⟨t,rfl⟩:=rx
  cases y with
  | non=>cases ry;exact PySem.EqNone.ne_str_none (a0M I q (by simp))
  | bl j=>cases ry;exact PySem.EqMixed.ne_str_bool (a0M I q (by simp))
  | int j=>obtain ⟨t',rfl⟩:=ry;exact PySem.EqMixed.ne_str_int (a0M I q (by simp))
  | str j=>obtain ⟨t',rfl⟩:=ry;exact ne_str (a0M I q (congrArg not a7P))
  | _=>exact absurd (show false=true from hs) Bool.false_ne_true
 | byt i =>
  obtain ⟨t,rfl⟩:=rx
  cases y with
  | byt j=>obtain ⟨t',rfl⟩:=ry;exact PySem.W.ne_bytes (a0M I q (congrArg not a7Q))
  | _=>exact absurd (show false=true from hs) Bool.false_ne_true
 | _=>cases y <;> exact absurd (show false=true from hs) Bool.false_ne_true
theorem a4o:OpR X (compareOp .Lt) (rI0 fun i j=>.bl (decide (i < j))):=opB0 fun _ _ _ _ _ _ _ q=>lt_int q
theorem a6T:OpR X (compareOp .LtE) (rI0 fun i j=>.bl (decide (i≤j))):=opB0 fun _ _ _ _ _ _ _ q=>le_int q
theorem a7R:OpR X (compareOp .Gt) (rI0 fun i j=>.bl (decide (j < i))):=opB0 fun _ _ _ _ _ _ _ q=>gt_int q
theorem op_ge:OpR X (compareOp .GtE) (rI0 fun i j=>.bl (decide (j≤i))):=opB0 fun _ _ _ _ _ _ _ q=>ge_int q
def isObj:HO→Bool
 | .lst _=>true
 | .ins _ _ _=>true
 | _=>false
theorem nomark (b:Expr) {op:CmpOp} (h:op≠.In:=by decide) (h2:op≠.NotIn:=by decide):behindInMarks op b=false:=by
 have e1:(op == CmpOp.In)=false:=by cases op <;> first | rfl | exact absurd rfl h
 have e2:(op == CmpOp.NotIn)=false:=by cases op <;> first | rfl | exact absurd rfl h2
 cases b <;> simp [behindInMarks,e1,e2]
theorem a2n {op:CmpOp} {r:R2} (ho:OpR X (compareOp op) r) (ha:PE X a ta) (hb:PE X b tb) (hm:behindInMarks op b=false):PE X (.Compare a [op] [b] pos) (tOp r ta tb):=by
 intro pins s σ H Q I h
 exact wpAny_Compare1 (binT ha hb I h fun v u s2 x y H2 I2 rx ry q=>ho pins s2 σ H2 x y v u Q I2 rx ry q) hm
def tTest (t:TE):TT:=fun σ H Q=>t σ H fun x H'=>∃ k,x=.bl k∧Q k H'
theorem a0B {op:CmpOp} {r:R2} (ho:OpR X (compareOp op) r) (ha:PE X a ta) (hb:PE X b tb) (hm:behindInMarks op b=false):PT X (.Compare a [op] [b] pos) (tTest (tOp r ta tb)):=by
 intro pins s σ H Q I h
 refine wpAny_isTrue_Compare1 (thn (ha pins s σ H _ I h) fun v s1 ⟨x,H1,I1,r1,q1⟩=>thn (hb pins s1 σ H1 _ I1 q1) fun u s2 ⟨y,H2,I2,r2,q2⟩ =>
  thn (ho pins s2 σ H2 x y v u _ I2 r1 r2 q2) fun c s3 ⟨z,H3,I3,r3,k,e,q3⟩=>?_) hm
 subst e
 cases r3
 exact wpAny_truthy_bool ⟨H3,I3,q3⟩
def b1g (r r':R2) (ta tb tc:TE):TE:=fun σ H Q=>ta σ H fun x H1=>tb σ H1 fun y H2=>r x y H2 fun z H3=>∃ k,z=.bl k ∧
 (if k=true then tc σ H3 fun w' H4=>r' y w' H4 Q else Q (.bl false) H3)
theorem a6l {op op':CmpOp} {r r':R2} (ho:OpR X (compareOp op) r) (ho':OpR X (compareOp op') r') (ha:PE X a ta) (hb:PE X b tb) (hc:PE X c tc)
  (hm:lastMarks [op,op'] [b,c]=false:=by with_unfolding_all rfl):PE X (.Compare a [op,op'] [b,c] pos) (b1g r r' ta tb tc):=by
 intro pins s σ H Q I h
 refine Compare_chain (thn (ha pins s σ H _ I h) fun v s1 ⟨x,H1,I1,r1,q1⟩=>chain_link (thn (hb pins s1 σ H1 _ I1 q1) fun u s2 ⟨y,H2,I2,r2,q2⟩ =>
  thn (ho pins s2 σ H2 x y v u _ I2 r1 r2 q2) fun d s3 ⟨z,H3,I3,r3,k,e,q3⟩=>?_)) hm
 subst e
 cases r3
 refine wpAny_truthy_bool ?_
 cases k with
 | false=>exact ite_ff ⟨.bl false,H3,I3,rfl,q3⟩
 | true=>exact ite_tt (chain_last (thn (hc pins s3 σ H3 _ I3 q3) fun w' s4 ⟨z',H4,I4,r4,q4⟩=>ho' pins s4 σ H4 y z' u w' Q I4 r2 r4 q4))
theorem a6m {op op':CmpOp} {r r':R2} (ho:OpR X (compareOp op) r) (ho':OpR X (compareOp op') r') (ha:PE X a ta) (hb:PE X b tb) (hc:PE X c tc)
  (hm:lastMarks [op,op'] [b,c]=false:=by with_unfolding_all rfl):PT X (.Compare a [op,op'] [b,c] pos) (tTest (b1g r r' ta tb tc)):=by
 intro pins s σ H Q I h
 refine isTrue_chain (thn (ha pins s σ H _ I h) fun v s1 ⟨x,H1,I1,r1,q1⟩=>test_link (thn (hb pins s1 σ H1 _ I1 q1) fun u s2 ⟨y,H2,I2,r2,q2⟩ =>
  thn (ho pins s2 σ H2 x y v u _ I2 r1 r2 q2) fun d s3 ⟨z,H3,I3,r3,k,e,q3⟩=>?_)) hm
 subst e
 cases r3
 refine wpAny_truthy_bool ?_
 cases k with
 | false =>
  obtain ⟨k',e',q'⟩:=q3
  cases e'
  exact ite_ff ⟨H3,I3,q'⟩
 | true =>
  refine ite_tt (test_last (thn (hc pins s3 σ H3 _ I3 q3) fun w' s4 ⟨z',H4,I4,r4,q4⟩=>thn (ho' pins s4 σ H4 y z' u w' _ I4 r2 r4 q4) fun d' s5 ⟨z2,H5,I5,r5,k2,e2,q5⟩=>?_))
  subst e2
  cases r5
  exact wpAny_truthy_bool ⟨H5,I5,q5⟩
def TruV (K:PySem.W.Frag) (x:V) (H:Hp) (k:Bool):Prop :=
 match x with
 | .non=>k=false
 | .bl b=>k=b
 | .int i=>k=(i != 0)
 | .str y=>y.length≤sizeLine∧k=((y.length:Int) != 0)
 | .byt y=>y.size≤sizeLine∧k=((y.size:Int) != 0)
 | .ref p=>(∃ xs,SqL K H p xs∧k=!xs.isEmpty)∨(∃ xs,SqT K H p xs∧k=!xs.isEmpty)∨∃ kvs,H p=some (.dK kvs)∧k=!kvs.isEmpty
 | _=>False
theorem a6n:(sizeLine:Nat) < 2 ^ 63:=by rw [sizeLine_eq];decide
theorem a4p {x:V} {us:List Value} (r:a0K [x] us):∃ u,us=[u]∧a0U x u:=by
 cases r with
 | cons r1 r2=>cases r2;exact ⟨_,rfl,r1⟩
theorem vals2 {x y:V} {us:List Value} (r:a0K [x,y] us):∃ u w',us=[u,w']∧a0U x u∧a0U y w':=by
 cases r with
 | cons r1 r2 =>
  cases r2 with
  | cons r3 r4=>cases r4;exact ⟨_,_,rfl,r1,r3⟩
theorem a9G:a2w X (.builtin "abs") (fun xs H Q=>∃ i,xs=[.int i]∧Q (.int (if i < 0 then -i else i)) H):=by
 intro pins s σ H xs us Q I r h
 obtain ⟨i,rfl,q⟩:=h
 obtain ⟨u,rfl,t,rfl⟩:=a4p r
 exact call_abs_int fun u tk=>⟨.int (if i < 0 then -i else i),H,I.tok _,⟨_,rfl⟩,q⟩
theorem a7S (hc:X.calm=true):a2w X (.builtin "max") (fun xs H Q=>∃ i j,xs=[.int i,.int j]∧Q (.int (if j > i then j else i)) H):=by
 intro pins s σ H xs us Q I r h
 obtain ⟨i,j,rfl,q⟩:=h
 obtain ⟨u,w',rfl,⟨t,rfl⟩,⟨t',rfl⟩⟩:=vals2 r
 refine max_two_ints (I.ok.hd hc) fun h' tk k=>⟨_,H,I.kept k,?_,q⟩
 by_cases hj:j > i
 ·rw [if_pos hj,if_pos hj];exact ⟨_,rfl⟩
 ·rw [if_neg hj,if_neg hj];exact ⟨_,rfl⟩
def LenV (K:PySem.W.Frag) (x:V) (H:Hp) (n:Nat):Prop :=
 match x with
 | .str y=>y.length≤sizeLine∧n=y.length
 | .byt y=>y.size≤sizeLine∧n=y.size
 | .ref p=>(∃ xs,SqL K H p xs∧n=xs.length)∨∃ xs,SqT K H p xs∧n=xs.length
 | _=>False
end
structure b1T (h:Heap) (x dx C:Addr) (mA:Str→Option Value):Prop where
 obj:h.get? x=some (PySem.W.instObj C dx)
 ns:h.Ns1 dx mA
 ne:dx≠x
theorem a7T {h:Heap} {dx:Addr} {mA:Str→Option Value} (n:h.Ns1 dx mA):∃ od,h.get? dx=some od∧∀ name,PySem.W.lookIn name od=some (mA name):=by
 obtain ⟨o,es,ep,ho,hd,hk,_,hm⟩:=n
 refine ⟨o,ho,fun name=>?_⟩
 have e:=hm name
 unfold nsFind findBy at e
 rw [←Array.find?_toList] at e
 unfold PySem.W.lookIn
 rw [hd]
 dsimp only
 split
 ·rename_i y q
  rw [q] at e
  exact congrArg some e
 ·rename_i q
  rw [q] at e
  have a:es.toList.any (·.refKey)=false:=by
   rw [List.any_eq_false]
   intro y hy
   obtain ⟨z,t,hkey⟩:=hk y (Array.mem_toList_iff.mp hy)
   simp [DictEntry.refKey,hkey]
  have a':¬ es.toList.any (·.refKey)=true:=by rw [a];exact Bool.false_ne_true
  rw [if_neg a']
  exact congrArg some e
theorem b1T.look {h:Heap} {x dx C:Addr} {mA:Str→Option Value} (I:b1T h x dx C mA):∃ od,PySem.W.InstAt h x (PySem.W.instObj C dx) C (some od)∧∀ name,PySem.W.lookIn name od=some (mA name) :=
 let ⟨od,ho,hl⟩:=a7T I.ns
 ⟨od,⟨I.obj,rfl,rfl,ho⟩,hl⟩
section
variable {prog:Program} {w:World} {A:Around} {E:Value→Shared→Prop} {s:Shared} {K:PySem.W.Frag} {x dx C f:Addr} {mA:Str→Option Value} {name:Str} {v:Value}
theorem b1U {expr:Bool} {Q:Value→Shared→Prop} (X:K.In s.heap) (I:b1T s.heap x dx C mA) (hg:PySem.W.plainGet K C name=true) (hh:PySem.W.hasDictIn K C=true)
  (ha:PySem.W.findIn K (.ref C) name=some none) (hv:mA name=some v) (hv':PySem.W.handedIn v=true) (h:Q v { s with toks:=s.toks+1 }) :
  wpAny (model prog w) A (getAttr (.ref x) name expr) Q E s:=by
 obtain ⟨od,J,hl⟩:=I.look
 exact PySem.W.get_value X J (PySem.W.plainGet_of hg).1 (PySem.W.findObj_own hh ha rfl (by rw [hl,hv])) hv' h
theorem a9H {pl:Sem Bool} {Q:Value × List Value→Shared→Prop} (X:K.In s.heap) (I:b1T s.heap x dx C mA) (hg:PySem.W.plainGet K C name=true)
  (hf:PySem.W.findIn K (.ref C) name=some (some (.ref f))) (ht:PySem.W.isFn K (.ref f)=true) (hv:mA name=none) (h:Q (.ref f,[.ref x]) s) :
  wpAny (model prog w) A (getMethod (.ref x) name pl) Q E s:=by
 obtain ⟨od,J,hl⟩:=I.look
 exact PySem.W.method_fn X J (PySem.W.plainGet_of hg).1 (PySem.W.plainGet_of hg).2 hf (beq_iff_eq.mp ht) (by show (PySem.W.lookIn name od).map (·.isSome)=some false;rw [hl,hv];rfl) h
theorem b1V {ns:List Str} {Q:Unit→Shared→Prop} (X:K.In s.heap) (I:b1T s.heap x dx C mA)
  (hs:PySem.W.findIn K (.ref C) "__setattr__"=some (some (.builtin "object.__setattr__"))) (hp:PySem.W.plainOver K C=true) (ht:PySem.W.takerIn K C name=some none) (hh:PySem.W.hasDictIn K C=true)
  (hw:PySem.Within mA ns) (hsz:ns.length≤sizeLine)
  (h:∀ h',b1T h' x dx C (fun y=>if y=name then some v else mA y)→Heap.SameBut dx s.heap h'→Q () { s with heap:=h',toks:=s.toks+2 }) :
  wpAny (model prog w) A (setAttr (.ref x) name v) Q E s:=by
 obtain ⟨od,J,hl⟩:=I.look
 refine PySem.W.set_plain X J hs (PySem.W.osa_open (s:={ s with toks:=s.toks+1 }) (r:=none) X J hp ht fun b=>?_)
 obtain ⟨cd,hc,hd'⟩:=PySem.W.any_some hh
 have hx:s.heap.get? x=some ⟨.ref C,some dx,.plain,#[]⟩:=I.obj
 refine wpAny_bind (wpAny_pure (wpAny_bind (wpAny_bind (wpAny_loadPart hx (wpAny_bind (PySem.W.Looks.here (s:={ s with toks:=s.toks+1 }) (PySem.W.looks_clsIn X hc) ?_))))))
 rw [hd']
 refine wpAny_pure (a:=some dx) (wpAny_bind (wpAny_pure (wpAny_bind ?_)))
 refine wpAny_nsSet1 (s:={ s with toks:=s.toks+1 }) I.ns fun h' hn2 hs2=>?_
 obtain ⟨oD,esD,epD,hoD,hdD,hcD⟩:=hn2.count (PySem.Within.cons name v hw)
 refine wpAny_bind (wpAny_lookBehind hoD (by rw [hdD];exact pastItsLine_dict (Nat.le_trans hcD (by rw [List.length_cons];omega))) ?_)
 exact wpAny_pure (h _ ⟨(hs2.2 _ (Ne.symm I.ne)).trans I.obj,hn2,I.ne⟩ hs2)
theorem a9I {R:Result→Shared→Prop} {vs:List Value} {kw:List (Str × Value)} (X:K.In s.heap) (hm:PySem.W.makesIn K C=true)
  (hi:PySem.W.findIn K (.ref C) "__init__"=some (some (.ref f))) (hf:PySem.W.typeIn K (.ref f)=some (.type "function"))
  (h:codeAny (model prog w) (A.under (.builtin "type.__call__" ⟨.ref C :: vs,kw⟩)) (.call (.ref f) ⟨.ref (s.heap.objs.size+1) :: vs,kw⟩) (PySem.W.InitBack (s.heap.objs.size+1) R)
   { s with heap:=(s.heap.push PySem.W.emptyDict).push (PySem.W.instObj C s.heap.objs.size) }) :
  codeAny (model prog w) A (.call (.ref C) ⟨vs,kw⟩) R s:=by
 obtain ⟨hh,g,d,t,os⟩:=s
 exact PySem.W.make_core (PySem.W.makes_of X hm) (PySem.W.looks_findIn X hi) (fun self=>PySem.W.bind_fn X self hf) (.inl rfl) h
end
def a2F (f:Str) (v:V):List (Str × V)→List (Str × V)
 | []=>[(f,v)]
 | (g,x) :: r=>if g=f then (g,v) :: r else (g,x) :: a2F f v r
theorem a3j (f g:Str) (v:V):∀ fs:List (Str × V),(a2F f v fs).lookup g=if g=f then some v else fs.lookup g
 | []=>by
  show List.lookup g [(f,v)]=_
  by_cases h:g=f
  ·have hb:(g == f)=true:=beq_iff_eq.mpr h
   simp only [List.lookup,hb,if_pos h]
  ·have hb:(g == f)=false:=beq_eq_false_iff_ne.mpr h
   simp only [List.lookup,hb,if_neg h]
 | (k,x) :: r=>by
  have ih:=a3j f g v r
  rw [show a2F f v ((k,x) :: r)=(if k=f then (k,v) :: r else (k,x) :: a2F f v r) from rfl]
  by_cases hk:k=f
  ·rw [if_pos hk]
   by_cases h:g=k
   ·have hb:(g == k)=true:=beq_iff_eq.mpr h
    simp only [List.lookup,hb,if_pos (h.trans hk)]
   ·have hb:(g == k)=false:=beq_eq_false_iff_ne.mpr h
    simp only [List.lookup,hb,if_neg (fun e:g=f=>h (e.trans hk.symm))]
  ·rw [if_neg hk]
   by_cases h:g=k
   ·have hb:(g == k)=true:=beq_iff_eq.mpr h
    simp only [List.lookup,hb,if_neg (fun e:g=f=>hk (h.symm.trans e))]
   ·have hb:(g == k)=false:=beq_eq_false_iff_ne.mpr h
    simp only [List.lookup,hb]
    exact ih
theorem a3k (f:Str) (v:V):∀ fs:List (Str × V),f∈(a2F f v fs).map (·.1)∧∀ g,g∈fs.map (·.1)→g∈(a2F f v fs).map (·.1)
 | []=>⟨by simp [a2F],fun g h=>by simp at h⟩
 | (k,x) :: r=>by
  obtain ⟨i1,i2⟩:=a3k f v r
  rw [show a2F f v ((k,x) :: r)=(if k=f then (k,v) :: r else (k,x) :: a2F f v r) from rfl]
  by_cases hk:k=f
  ·rw [if_pos hk]
   subst hk
   exact ⟨by simp,fun g h=>by simpa using h⟩
  ·rw [if_neg hk]
   refine ⟨?_,fun g h=>?_⟩
   ·rw [List.map_cons]
    exact List.mem_cons_of_mem _ i1
   ·rw [List.map_cons] at h ⊢
    rcases List.mem_cons.mp h with e | e
    ·exact List.mem_cons.mpr (.inl e)
    ·exact List.mem_cons_of_mem _ (i2 g e)
theorem a3l (f:Str) (v:V):∀ fs:List (Str × V),(a2F f v fs).length≤fs.length+1
 | []=>by simp [a2F]
 | (k,x) :: r=>by
  have ih:=a3l f v r
  rw [show a2F f v ((k,x) :: r)=(if k=f then (k,v) :: r else (k,x) :: a2F f v r) from rfl]
  by_cases hk:k=f
  ·rw [if_pos hk,List.length_cons,List.length_cons];omega
  ·rw [if_neg hk,List.length_cons,List.length_cons];omega
theorem a4L.some_of {v:V} {o:Option Value} (r:a4L (some v) o):∃ u,o=some u∧a0U v u:=by
 cases o with
 | none=>exact (show False from r).elim
 | some u=>exact ⟨u,rfl,r⟩
theorem a4L.none_of {o:Option Value} (r:a4L none o):o=none:=by
 cases o with
 | none=>rfl
 | some u=>exact (show False from r).elim
theorem a7U {v:V} {u:Value} (r:a0U v u):PySem.W.handedIn u=true:=by
 cases v with
 | non=>cases (show u=Value.none from r);rfl
 | bl b=>cases (show u=Value.bool b from r);rfl
 | int i=>obtain ⟨t,e⟩:=(show ∃ t,u=Value.int i t from r);cases e;rfl
 | str x=>obtain ⟨t,e⟩:=(show ∃ t,u=Value.str x t from r);cases e;rfl
 | byt b=>obtain ⟨t,e⟩:=(show ∃ t,u=Value.bytes b t from r);cases e;rfl
 | flt b=>obtain ⟨t,e⟩:=(show ∃ t,u=Value.float b t from r);cases e;rfl
 | ref a=>cases (show u=Value.ref a from r);rfl
 | ty n=>cases (show u=Value.type n from r);rfl
section
variable {P:Program} {w:World} {H H':Hp} {h h':Heap} {a C dx:Addr} {fs fs':List (Str × V)}
theorem a5y (hok:HOk P w H h) (e:H a=some (.ins C dx fs)):∃ mA,b1T h a dx C mA∧(∀ f,a4L (fs.lookup f) (mA f))∧PySem.Within mA (fs.map (·.1))∧fs.length≤1000∧H dx=some (.own a):=by
 obtain ⟨d,z,ne,ob,mA,n,r,q⟩:=(show a1d P w H h a (.ins C dx fs) from hok a _ e)
 exact ⟨mA,⟨ob,n,ne⟩,r,q,z,d⟩
end
structure Cls (K:PySem.W.Frag) (C:Addr):Prop where
 pg:PySem.W.plainGet K C Str.empty=true
 hd:PySem.W.hasDictIn K C=true
 po:PySem.W.plainOver K C=true
 sa:PySem.W.findIn K (.ref C) "__setattr__"=some (some (.builtin "object.__setattr__"))
theorem Cls.get {K:PySem.W.Frag} {C:Addr} (c:Cls K C) (f:Str):PySem.W.plainGet K C f=true:=c.pg
def a1v (K:PySem.W.Frag) (C:Addr) (f:Str):Prop:=PySem.W.findIn K (.ref C) f=some none
theorem a1v.taker {K:PySem.W.Frag} {C:Addr} {f:Str} (n:a1v K C f):PySem.W.takerIn K C f=some none:=by
 unfold PySem.W.takerIn
 rw [show PySem.W.findIn K (.ref C) f=some none from n]
 rfl
structure Con (K:PySem.W.Frag) (C:Addr) (f:Str) (v:V) (u:Value):Prop where
 at_:PySem.W.findIn K (.ref C) f=some (some u)
 rel:a0U v u
 get:PySem.W.specialIn K u "__get__"=some none
 cp:PySem.W.copiedNames.contains f=false
structure Meth (K:PySem.W.Frag) (C:Addr) (m:Str) (f:Addr):Prop where
 at_:PySem.W.findIn K (.ref C) m=some (some (.ref f))
 fn:PySem.W.isFn K (.ref f)=true
 kp:PySem.W.keepIn K (.ref f)=true
section
variable {X:Cx} {pins:List (Addr × Obj)} {σ:St} {H:Hp} {s:Shared} {a C dx:Addr} {fs:List (Str × V)} {f:Str} {v:V} {A:Around} {E:Value→Shared→Prop}
theorem a6U {b:Bool} {Q:Value→Shared→Prop} (I:Inv X pins σ H s) (e:H a=some (.ins C dx fs)) (c:Cls X.K C) (n:a1v X.K C f) (l:fs.lookup f=some v)
  (h:∀ u s',Inv X pins σ H s'→a0U v u→Q u s'):wpAny (model X.prog X.w) A (getAttr (.ref a) f b) Q E s:=by
 obtain ⟨mA,O,r,_,_,_⟩:=a5y I.hok e
 obtain ⟨u,hu,ru⟩:=a4L.some_of (v:=v) (o:=mA f) (by rw [←l];exact r f)
 exact b1U I.kIn O (c.get f) c.hd n hu (a7U ru) (h u _ (I.tok _) ru)
theorem a3R {m:Str} {g:Addr} {pl:Sem Bool} {Q:Value × List Value→Shared→Prop} (I:Inv X pins σ H s) (e:H a=some (.ins C dx fs)) (c:Cls X.K C) (k:Meth X.K C m g) (l:fs.lookup m=none)
  (h:Q (.ref g,[.ref a]) s):wpAny (model X.prog X.w) A (getMethod (.ref a) m pl) Q E s:=by
 obtain ⟨mA,O,r,_,_,_⟩:=a5y I.hok e
 have hn:mA m=none:=a4L.none_of (by rw [←l];exact r m)
 exact a9H I.kIn O (c.get m) k.at_ k.fn hn h
theorem a6V {y:V} {u:Value} {Q:Unit→Shared→Prop} (I:Inv X pins σ H s) (e:H a=some (.ins C dx fs)) (c:Cls X.K C) (n:a1v X.K C f) (hl:fs.length < 1000) (ry:a0U y u)
  (h:∀ s',Inv X pins σ (upd H a (.ins C dx (a2F f y fs))) s'→Q () s'):wpAny (model X.prog X.w) A (setAttr (.ref a) f u) Q E s:=by
 obtain ⟨mA,O,r,wi,_,ho⟩:=a5y I.hok e
 have hz:(fs.map (·.1)).length≤sizeLine:=by rw [List.length_map,sizeLine_eq];omega
 refine b1V I.kIn O c.sa c.po n.taker c.hd wi hz fun h' O' sb=>h _ ?_
 have hd:∃ o,h'.get? dx=some o:=let ⟨o,_,_,e',_⟩:=O'.ns;⟨o,e'⟩
 refine I.write (x:=a) (e:=dx) (by rw [e];exact True.intro) (.inr ho) (fun b q hb z=>(sb.2 b hb).trans z) hd ?_
 refine ⟨by rw [a0j O.ne];exact ho,?_,O.ne,O'.obj,_,O'.ns,fun g=>?_,fun g hg=>?_⟩
 ·have:=a3l f y fs;omega
 ·show a4L ((a2F f y fs).lookup g) (if g=f then some u else mA g)
  rw [a3j]
  by_cases q:g=f
  ·rw [if_pos q,if_pos q];exact ry
  ·rw [if_neg q,if_neg q];exact r g
 ·by_cases q:g=f
  ·rw [q];exact (a3k f y fs).1
  ·refine (a3k f y fs).2 g (wi g fun z=>hg ?_)
   show (if g=f then some u else mA g)=none
   rw [if_neg q];exact z
theorem Inv.made (I:Inv X pins σ H s):Inv X pins σ (upd (upd H s.heap.objs.size (.own (s.heap.objs.size+1))) (s.heap.objs.size+1) (.ins C s.heap.objs.size []))
  { s with heap:=(s.heap.push PySem.W.emptyDict).push (PySem.W.instObj C s.heap.objs.size) }:=by
 have e1:(s.heap.push PySem.W.emptyDict).get? s.heap.objs.size=some PySem.W.emptyDict:=Heap.get?_push_size s.heap rfl
 have e2:((s.heap.push PySem.W.emptyDict).push (PySem.W.instObj C s.heap.objs.size)).get? (s.heap.objs.size+1)=some (PySem.W.instObj C s.heap.objs.size):=by
  have:=Heap.get?_push_size (s.heap.push PySem.W.emptyDict) (o:=PySem.W.instObj C s.heap.objs.size) rfl
  rwa [Heap.size_push] at this
 have e3:(s.heap.push PySem.W.emptyDict).Ns s.heap.objs.size (fun _=>none):=⟨PySem.W.emptyDict,#[],_,e1,rfl,(fun e he=>absurd he (by simp)),fun _=>rfl⟩
 have I1:=I.laid (a:=s.heap.objs.size) (o:=.own (s.heap.objs.size+1)) (h':=s.heap.push PySem.W.emptyDict) (t':=s.toks) (fun b u q=>Heap.get?_push_of_some _ q) (Nat.le_refl _) ⟨_,e1⟩
 refine I1.laid (a:=s.heap.objs.size+1) (o:=.ins C s.heap.objs.size []) (t':=s.toks) (fun b u q=>Heap.get?_push_of_some _ q) (Nat.le_of_eq (Heap.size_push _ _)) ?_
 have ne:s.heap.objs.size≠s.heap.objs.size+1:=Nat.ne_of_lt (Nat.lt_succ_self _)
 refine ⟨by rw [a0j ne,a0c],Nat.zero_le _,ne,e2,fun _=>none,(Heap.Ns1.of_empty e3).at fun o q=>Heap.get?_push_of_some _ q,fun _=>True.intro,fun y hy=>absurd rfl hy⟩
theorem b1W {prog:Program} {w:World} {env:Env} {e:Expr} {f:Str} {pos:Pos} {s:Shared} {Q:Value→Shared→Prop} (hb:attributeBase e f env (eval e env)=eval e env)
  (h:wpAny (model prog w) A (eval e env) (fun o s₁=>wpAny (model prog w) A (getAttr o f true) Q E s₁) E s):wpAny (model prog w) A (eval (.Attribute e f pos) env) Q E s :=
 Attribute_any_ h (by rw [arm_eval_Attribute,hb])
end
def tFld (K:PySem.W.Frag) (ta:TE) (f:Str):TE:=fun σ H Q=>ta σ H fun x H1=>∃ a C dx fs v,x=.ref a∧H1 a=some (.ins C dx fs)∧Cls K C∧a1v K C f∧fs.lookup f=some v∧Q v H1
def tCon (K:PySem.W.Frag) (ta:TE) (f:Str):TE:=fun σ H Q=>ta σ H fun x H1=>∃ a C dx fs v u,x=.ref a∧H1 a=some (.ins C dx fs)∧Cls K C∧Con K C f v u∧fs.lookup f=none∧Q v H1
def sFld (K:PySem.W.Frag) (ta tv:TE) (f:Str):TS:=fun D σ H=>tv σ H fun y H1=>ta σ H1 fun x H2=>∃ a C dx fs,x=.ref a∧H2 a=some (.ins C dx fs)∧Cls K C∧a1v K C f∧fs.length < 1000 ∧
 D.nx σ (upd H2 a (.ins C dx (a2F f y fs)))
def InOp (X:Cx) (op:Operator) (rd:V→V→Hp→VK→Prop):Prop :=
 ∀ (pins:List (Addr × Obj)) (s:Shared) (σ:St) (H:Hp) (x y:V) (u v:Value) (Q:VK),Inv X pins σ H s→a0U x u→a0U y v→rd x y H Q→wpAny (model X.prog X.w) X.A (inplaceOp op u v) (EP X pins σ Q) X.xe s
def sFldAug (K:PySem.W.Frag) (ta tv:TE) (rd:V→V→Hp→VK→Prop) (f:Str):TS:=fun D σ H=>ta σ H fun x H1=>∃ a C dx fs v,x=.ref a∧H1 a=some (.ins C dx fs)∧Cls K C∧a1v K C f∧fs.lookup f=some v ∧
 tv σ H1 fun y H2=>rd v y H2 fun z H3=>∃ dx' fs',H3 a=some (.ins C dx' fs')∧fs'.length < 1000∧D.nx σ (upd H3 a (.ins C dx' (a2F f z fs')))
section
variable {X:Cx} {o e value:Expr} {f:Str} {pos pos' tpos:Pos} {ta tv:TE}
theorem a0F (he:PE X e ta) (hb:attributeBase e f X.env (eval e X.env)=eval e X.env):PE X (.Attribute e f pos) (tFld X.K ta f):=by
 intro pins s σ H Q I h
 refine b1W hb (thn (he pins s σ H _ I h) fun u s1 ⟨x,H1,I1,rx,a,C,dx,fs,v,ex,ea,c,n,l,q⟩=>?_)
 subst ex
 obtain rfl:u=Value.ref a:=rx
 exact a6U I1 ea c n l fun u' s2 I2 ru=>⟨v,H1,I2,ru,q⟩
theorem a1P (ha:PE X o ta) (hv:PE X value tv) (hs:swapsWith value (some (.Attribute o f pos')) pos.line X.env=pure false):PS X (.Assign [.Attribute o f pos'] value pos) (sFld X.K ta tv f):=by
 intro pins s σ H D I h
 refine plainObj_wpAny_Assign_Attribute (thn (hv pins s σ H _ I h) fun u s1 ⟨y,H1,I1,ry,q⟩=>thn (ha pins s1 σ H1 _ I1 q) fun ov s2 ⟨x,H2,I2,rx,a,C,dx,fs,ex,ea,c,n,l,q2⟩=>?_) hs
 subst ex
 obtain rfl:ov=Value.ref a:=rx
 exact a6V I2 ea c n l ry fun s3 I3=>⟨σ,_,I3,q2⟩
end
section
variable {X:Cx} {pins:List (Addr × Obj)} {σ:St} {H:Hp} {s:Shared} {A:Around} {E:Value→Shared→Prop} {Q:Value→Shared→Prop} {c:Value} {b:Bool}
inductive a7V (K:PySem.W.Frag) (H:Hp):V→Value→Prop where
 | non:a7V K H .non (.type "NoneType")
 | bl (x:Bool):a7V K H (.bl x) (.type "bool")
 | int (i:Int):a7V K H (.int i) (.type "int")
 | str (x:Str):a7V K H (.str x) (.type "str")
 | flt (x:UInt64):a7V K H (.flt x) (.type "float")
 | lst {a:Addr} {xs:List V} (e:H a=some (.lst xs)):a7V K H (.ref a) (.type "list")
 | frz {a:Addr} {o:Obj} {xs:List V} (e:H a=some (.frz o (.lst xs))):a7V K H (.ref a) (.type "list")
 | tup {a:Addr} {xs:List V} (e:H a=some (.tup xs)):a7V K H (.ref a) (.type "tuple")
 | dK {a:Addr} {kvs:List (Key × V)} (e:H a=some (.dK kvs)):a7V K H (.ref a) (.type "dict")
 | dT {a:Addr} {kvs:List (List Key × V)} (e:H a=some (.dT kvs)):a7V K H (.ref a) (.type "dict")
 | ins {a C dx:Addr} {fs:List (Str × V)} (e:H a=some (.ins C dx fs)) (cl:Cls K C) (ha:PySem.W.findIn K (.ref C) "__class__"=some (some (.builtin "object.__class__")))
   (hn:PySem.W.specialIn K (.builtin "object.__class__") "__get__"=some (some (.builtin "getset_descriptor.__get__"))) (htk:PySem.W.takesIn K (.builtin "object.__class__")=some true)
   (hm:PySem.W.mroIn K C (.type "object")=some true):a7V K H (.ref a) (.ref C)
end
structure a1Q (k:Nat) (A:Around):Prop where
 hd:A.handled=none
 dp:A.depth+3 * k+5 < recursionLimit
 un:A.units+16 * k+200 < cLine
theorem a1Q.mono {j k:Nat} {A:Around} (r:a1Q k A) (h:j≤k):a1Q j A:=⟨r.hd,by have:=r.dp;omega,by have:=r.un;omega⟩
theorem a1Q.deeper {k:Nat} {A:Around} (r:a1Q (k+1) A) (env:Env):a1Q k (A.deeper env) :=
 ⟨r.hd,by have:=r.dp;show A.depth+1+3 * k+5 < _;omega,by have:=r.un;show A.units+3+16 * k+200 < _;omega⟩
theorem a6W {A:Around} {C:Addr} {us:List Value} {kw:List (Str × Value)}:(A.under (.builtin "type.__call__" ⟨.ref C :: us,kw⟩)).depth=A.depth+1:=by
 first | rfl | simp [Around.under,a0z.weight,a0z.isCreation,a0z.isGuard,a0z.isCaller,a0z.frames,a0z.isFrame,guardIds]
theorem a6X {A:Around} {C:Addr} {us:List Value} {kw:List (Str × Value)}:(A.under (.builtin "type.__call__" ⟨.ref C :: us,kw⟩)).units=A.units+1:=by
 first | rfl | simp [Around.under,a0z.cUnits,a0z.frames,a0z.isFrame]
theorem a1Q.make {k:Nat} {A:Around} (r:a1Q (k+1) A) (C:Addr) (us:List Value) (kw:List (Str × Value)):a1Q k (A.under (.builtin "type.__call__" ⟨.ref C :: us,kw⟩)) :=
 ⟨r.hd,by have:=r.dp;rw [a6W];omega,by have:=r.un;rw [a6X];omega⟩
theorem a1Q.depth {k:Nat} {A:Around} (r:a1Q k A):A.depth < recursionLimit:=by have:=r.dp;omega
theorem a1Q.units {k:Nat} {A:Around} (r:a1Q k A):A.units+64 < cLine:=by have:=r.un;omega
def b3p:TA:=fun _ H Q=>Q [] H
def a6Y (ta:TE) (tr:TA):TA:=fun σ H Q=>ta σ H fun x H1=>tr σ H1 fun xs H2=>Q (x :: xs) H2
section
variable {X:Cx} {e:Expr} {es:List Expr} {te:TE} {t:TA} {pos:Pos}
theorem a0d:PA X [] b3p:=fun _ _ _ _ H Q I h=>Calls.spliced_nil ⟨[],H,I,.nil,h⟩
theorem a0a (ha:PE X e te) (hr:PA X es t) (hs:starEach (e :: es) X.env=(false,eval e X.env) :: starEach es X.env:=by rfl):PA X (e :: es) (a6Y te t):=by
 intro pos pins s σ H Q I h
 rw [hs]
 show wpAny _ _ (spliced ((false,eval e X.env) :: backTo pos (starEach es X.env))) _ _ s
 refine Calls.spliced_cons (thn (ha pins s σ H _ I h) fun u s1 ⟨x,H1,I1,r1,q1⟩=>?_)
 exact thn (hr pos pins s1 σ H1 _ I1 q1) fun us s2 ⟨xs,H2,I2,r2,q2⟩=>⟨x :: xs,H2,I2,.cons r1 r2,q2⟩
def tTup (t:TA):TE:=fun σ H Q=>t σ H fun xs H1=>xs.length≤sizeLine∧∀ p,H1 p=none→Q (.ref p) (upd H1 p (.tup xs))
def tLst (t:TA):TE:=fun σ H Q=>t σ H fun xs H1=>xs.length≤sizeLine∧∀ p,H1 p=none→Q (.ref p) (upd H1 p (.lst xs))
theorem a1h {x1} (h:PA X es t):PE X (.Tuple es x1 pos) (tTup t):=by
 intro pins s σ H Q I hq
 refine wpAny_Tuple_spliced (thn (h pos pins s σ H _ I hq) fun us s1 ⟨xs,H1,I1,r,z,q⟩=>⟨by rw [←r.length];exact z,?_⟩)
 have hf:H1 s1.heap.objs.size=none:=I1.hok.fresh (Nat.le_refl _)
 refine ⟨.ref s1.heap.objs.size,upd H1 s1.heap.objs.size (.tup xs),I1.laid (t':=s1.toks) (fun b u e=>Heap.get?_push_of_some _ e) (Nat.le_refl _) ?_,rfl,q _ hf⟩
 exact ⟨z,us,r,⟨_,Heap.get?_push_size _ rfl,_,rfl⟩⟩
theorem a0N (h:PA X es t):PE X (.List es pos) (tLst t):=by
 intro pins s σ H Q I hq
 refine wpAny_List_spliced (thn (h pos pins s σ H _ I hq) fun us s1 ⟨xs,H1,I1,r,z,q⟩=>⟨by rw [←r.length];exact z,?_⟩)
 have hf:H1 s1.heap.objs.size=none:=I1.hok.fresh (Nat.le_refl _)
 refine ⟨.ref s1.heap.objs.size,upd H1 s1.heap.objs.size (.lst xs),I1.laid (t':=s1.toks) (fun b u e=>Heap.get?_push_of_some _ e) (Nat.le_refl _) ?_,rfl,q _ hf⟩
 exact ⟨z,us,0,r,Heap.get?_push_size _ rfl⟩
end
abbrev Sp:=List V→Hp→VK→XK→Prop
abbrev CXT:=List Env→Hp→Shared→XK→Value→Shared→Prop
structure a9z (P:Program) (w:World) (K:PySem.W.Frag) (mg:Str→Option Value) (base:Heap) (A:Around) (outer:List Env) (s:Shared) (H:Hp):Prop where
 frames:A.frames=some outer
 mod:Mod K mg base
 bs:∀ b o,base.get? b=some o→s.heap.get? b=some o∧H b=none
 bsz:base.objs.size≤s.heap.objs.size
 funs:s.heap.FunFrames base outer
 frf:∀ b∈frs outer,H b=none
 hok:HOk P w H s.heap
 bare:AllBare s.gens
def CE (outer:List Env) (P:Program) (w:World) (H:Hp) (s:Shared) (Q:VK) (u:Value) (s':Shared):Prop :=
 ∃ v H',s'.os=s.os∧AllBare s'.gens∧Un (frs outer) [] H H' s.heap s'.heap∧HOk P w H' s'.heap∧a0U v u∧Q v H'
def CR (CX:CXT) (outer:List Env) (P:Program) (w:World) (H:Hp) (s:Shared) (Q:VK) (E:XK) (r:Result) (s':Shared):Prop :=
 match r with
 | .ok (.ret u)=>CE outer P w H s Q u s'
 | .ok _=>False
 | .error e=>CX outer H s E e s'
structure a0O (P:Program) (w:World) (K:PySem.W.Frag) (mg:Str→Option Value) (base:Heap) (CX:CXT) (k:Nat) (f:Addr) (fd:FuncData) (ps:List Str) (sp:Sp):Prop where
 len:∀ vs H Q E,sp vs H Q E→vs.length=ps.length
 run:∀ (A:Around) (outer:List Env) (s:Shared) (H:Hp) (args:Args) (us:List Value) (vs:List V) (Q:VK) (E:XK),a1Q k A→a9z P w K mg base A outer s H→BindsTo s fd args (ps.zip us)→a0K vs us→sp vs H Q E →
  codeAny (model P w) A (.call (.ref f) args) (CR CX outer P w H s Q E) s
theorem a0O.mono {P:Program} {w:World} {K:PySem.W.Frag} {mg:Str→Option Value} {base:Heap} {CX:CXT} {j k:Nat} {f:Addr} {fd:FuncData} {ps:List Str} {sp:Sp} (F:a0O P w K mg base CX j f fd ps sp) (h:j≤k) :
  a0O P w K mg base CX k f fd ps sp:=⟨F.len,fun A outer s H args us vs Q E hr=>F.run A outer s H args us vs Q E (hr.mono h)⟩
theorem a9z.make {P:Program} {w:World} {K:PySem.W.Frag} {mg:Str→Option Value} {base:Heap} {A:Around} {outer:List Env} {s:Shared} {H:Hp} (e:a9z P w K mg base A outer s H) (C:Addr) (us:List Value) (kw:List (Str × Value)) :
  a9z P w K mg base (A.under (.builtin "type.__call__" ⟨.ref C :: us,kw⟩)) outer s H:=⟨by first | exact e.frames | (simpa [Around.under,a0z.envs,a0z.isFrame,pushEnvs] using e.frames),e.mod,e.bs,e.bsz,e.funs,e.frf,e.hok,e.bare⟩
section
variable {X:Cx} {pins:List (Addr × Obj)} {σ:St} {H:Hp} {s s':Shared}
theorem Inv.env0 (I:Inv X pins σ H s):a9z X.prog X.w X.K X.mg X.base X.A X.stack s H :=
 ⟨I.ok.frames,I.ok.mod,I.bs,Nat.le_trans I.ok.bsz I.sz,I.stack,I.stkFree,I.hok,I.bare⟩
theorem Inv.after {Q:VK} {u:Value} (I:Inv X pins σ H s) (h:CE X.stack X.prog X.w H s Q u s'):EP X pins σ Q u s':=by
 obtain ⟨v,H',os,bare,un,hok,r,q⟩:=h
 obtain ⟨hh,g,d,t,os'⟩:=s'
 obtain rfl:os'=s.os:=os
 exact ⟨v,H',I.call (h':=hh) (g':=g) (d':=d) (t':=t) (ch:=[]) un hok bare (fun b z=>absurd z (by simp)),r,q⟩
end
def tCall (sp:Sp) (dvs:List V) (E:XK) (t:TA):TE:=fun σ H Q=>t σ H fun vs H1=>sp (vs++dvs) H1 Q E
def tMeth (C:Addr) (m:Str) (sp:Sp) (dvs:List V) (E:XK) (ta:TE) (t:TA):TE:=fun σ H Q=>ta σ H fun x H1=>∃ a dx fs,x=.ref a∧H1 a=some (.ins C dx fs)∧fs.lookup m=none ∧
 t σ H1 fun vs H2=>sp (x :: (vs++dvs)) H2 Q E
def tMake (C:Addr) (sp:Sp) (dvs:List V) (E:XK) (t:TA):TE:=fun σ H Q=>t σ H fun vs H1=>∀ x dx,H1 x=none→H1 dx=none→dx≠x →
 sp (.ref x :: (vs++dvs)) (upd (upd H1 dx (.own x)) x (.ins C dx [])) (fun v H2=>v=.non∧Q (.ref x) H2) E
def a1E (K:PySem.W.Frag) (fd:FuncData) (ps:List Str) (ds:List Value):Prop :=
 ∀ (s:Shared) (us:List Value),K.In s.heap→(us++ds).length=ps.length→BindsTo s fd ⟨us,[]⟩ (ps.zip (us++ds))
theorem a1E.all {K:PySem.W.Frag} {fd:FuncData} {ps:List Str} (h:∀ us:List Value,us.length=ps.length→bindArgs fd ⟨us,[]⟩=pure (ps.zip us)):a1E K fd ps []:=fun s us _ hl=>by
 rw [List.append_nil] at hl ⊢
 exact .of_eq (h us hl)
def a1R (CX:CXT) (X:Cx) (E:XK):Prop:=∀ (pins:List (Addr × Obj)) (σ:St) (H:Hp) (s:Shared) (e:Value) (s':Shared),Inv X pins σ H s→CX X.stack H s E e s'→X.xe e s'
section
variable {X:Cx} {CX:CXT} {k:Nat} {f C:Addr} {fd:FuncData} {ps:List Str} {sp:Sp} {dvs:List V} {ds:List Value} {E:XK} {x m:Str} {p pos apos:Pos} {e o:Expr} {es:List Expr} {ta:TE} {t:TA}
theorem a7W {pins:List (Addr × Obj)} {σ:St} {H:Hp} {s:Shared} {Q:VK} {us:List Value} {vs:List V} (F:a0O X.prog X.w X.K X.mg X.base CX k f fd ps sp) (hr:a1Q k X.A) (hb:a1E X.K fd ps ds) (hd:a0K dvs ds) (hx:a1R CX X E)
  (I:Inv X pins σ H s) (r:a0K vs us) (h:sp (vs++dvs) H Q E):wpAny (model X.prog X.w) X.A (call (.ref f) us) (EP X pins σ Q) X.xe s:=by
 have r2:a0K (vs++dvs) (us++ds):=r.append hd
 have hl:(us++ds).length=ps.length:=by rw [←r2.length];exact F.len _ _ _ _ h
 refine wpAny_call (codeAny_mono (F.run X.A X.stack s H ⟨us,[]⟩ (us++ds) (vs++dvs) Q E hr I.env0 (hb s us I.kIn hl) r2 h) fun r s' hq=>?_)
 cases r with
 | error e=>exact hx pins σ H s e s' I hq
 | ok fl =>
  cases fl with
  | ret u=>exact I.after hq
  | next=>exact False.elim hq
  | brk=>exact False.elim hq
  | cont=>exact False.elim hq
theorem a0l (F:a0O X.prog X.w X.K X.mg X.base CX k f fd ps sp) (hr:a1Q k X.A) (hg:Gl X x) (hm:X.mg x=some (.ref f)) (hk:PySem.W.keepIn X.K (.ref f)=true) (hb:a1E X.K fd ps ds) (hd:a0K dvs ds) (hx:a1R CX X E)
  (ha:PA X (e :: es) t) (hdb:(x == ("__debug__":Str))=false:=by decide) (he:starEach (e :: es) X.env=(false,eval e X.env) :: starEach es X.env:=by rfl) (hpl:(backTo pos (starEach es X.env)).any (·.1)=false:=by rfl) :
  PE X (.Call (.Name x p) (e :: es) [] pos) (tCall sp dvs E t):=by
 intro pins s σ H Q I h
 refine wpAny_Call_Name_kw (a2m I hg hm ?_ hdb)
 refine PySem.W.callWith_K (h₀:=X.base) I.ok.mod.kin hk (thn (ha pos pins s σ H _ I h) fun us s1 ⟨vs,H1,I1,r,q⟩=>⟨I1.kIn,?_⟩) he hpl
 exact a7W F hr hb hd hx I1 r q
theorem a1w {pl:Sem Bool} (he:PE X o ta) (c:Cls X.K C) (hm:Meth X.K C m f) (F:a0O X.prog X.w X.K X.mg X.base CX k f fd ps sp) (hr:a1Q k X.A) (hb:a1E X.K fd ps ds) (hd:a0K dvs ds) (hx:a1R CX X E) (ha:PA X (e :: es) t)
  (hst:starEach (e :: es) X.env=(false,eval e X.env) :: starEach es X.env:=by rfl) (hpl:(backTo pos (starEach es X.env)).any (·.1)=false:=by rfl)
  (ht:eval (.Call (.Attribute o m apos) (e :: es) [] pos) X.env=(do
   let ov ←eval o X.env
   standAt apos.atName
   let (f,first) ←holding [ov] (getMethod ov m pl)
   callWith pos f first (backTo pos (starEach (e :: es) X.env)) (backToKw pos (keywordEach [] X.env))):=by rfl) :
  PE X (.Call (.Attribute o m apos) (e :: es) [] pos) (tMeth C m sp dvs E ta t):=by
 intro pins s σ H Q I h
 refine PySem.W.methodCall_KW (pl:=pl) (thn (he pins s σ H _ I h) fun u s1 ⟨x,H1,I1,rx,a,dx,fs,ex,ea,l,q⟩=>?_) ht
 subst ex
 obtain rfl:u=Value.ref a:=rx
 refine a3R I1 ea c hm l ?_
 refine PySem.W.callWith_K (first:=[.ref a]) (h₀:=X.base) I.ok.mod.kin hm.kp (thn (ha pos pins s1 σ H1 _ I1 q) fun us s2 ⟨vs,H2,I2,r,q2⟩=>⟨I2.kIn,?_⟩) hst hpl
 exact a7W (us:=.ref a :: us) (vs:=.ref a :: vs) F hr hb hd hx I2 (.cons rfl r) q2
theorem a2y {pl:Sem Bool} (he:PE X o ta) (c:Cls X.K C) (hm:Meth X.K C m f) (F:a0O X.prog X.w X.K X.mg X.base CX k f fd ps sp) (hr:a1Q k X.A) (hb:a1E X.K fd ps ds) (hd:a0K dvs ds) (hx:a1R CX X E)
  (ht:eval (.Call (.Attribute o m apos) [] [] pos) X.env=(do
   let ov ←eval o X.env
   standAt apos.atName
   let (f,first) ←holding [ov] (getMethod ov m pl)
   callWith pos f first (backTo pos (starEach [] X.env)) (backToKw pos (keywordEach [] X.env))):=by rfl) :
  PE X (.Call (.Attribute o m apos) [] [] pos) (tMeth C m sp dvs E ta b3p):=by
 intro pins s σ H Q I h
 refine PySem.W.methodCall_KW (pl:=pl) (thn (he pins s σ H _ I h) fun u s1 ⟨x,H1,I1,rx,a,dx,fs,ex,ea,l,q⟩=>?_) ht
 subst ex
 obtain rfl:u=Value.ref a:=rx
 refine a3R I1 ea c hm l ?_
 exact PySem.W.callWith_K0 (first:=[.ref a]) I1.kIn hm.kp (a7W (us:=[.ref a]) (vs:=[.ref a]) F hr hb hd hx I1 (.cons rfl .nil) q)
structure Mk (K:PySem.W.Frag) (C f:Addr):Prop where
 makes:PySem.W.makesIn K C=true
 init:PySem.W.findIn K (.ref C) "__init__"=some (some (.ref f))
 fn:PySem.W.isFn K (.ref f)=true
 kp:PySem.W.keepIn K (.ref C)=true
theorem a9J {pins:List (Addr × Obj)} {σ:St} {H:Hp} {s:Shared} {Q:VK} {us:List Value} {vs:List V} (M:Mk X.K C f) (F:a0O X.prog X.w X.K X.mg X.base CX k f fd ps sp) (hr:a1Q (k+1) X.A) (hb:a1E X.K fd ps ds) (hd:a0K dvs ds)
  (hx:a1R CX X E) (I:Inv X pins σ H s) (r:a0K vs us)
  (h:∀ x dx,H x=none→H dx=none→dx≠x→sp (.ref x :: (vs++dvs)) (upd (upd H dx (.own x)) x (.ins C dx [])) (fun v H2=>v=.non∧Q (.ref x) H2) E) :
  wpAny (model X.prog X.w) X.A (call (.ref C) us) (EP X pins σ Q) X.xe s:=by
 have hq:=h (s.heap.objs.size+1) s.heap.objs.size (I.hok.fresh (Nat.le_succ _)) (I.hok.fresh (Nat.le_refl _)) (Nat.ne_of_lt (Nat.lt_succ_self _))
 have I2:=Inv.made (C:=C) I
 have r2:a0K (V.ref (s.heap.objs.size+1) :: (vs++dvs)) (Value.ref (s.heap.objs.size+1) :: (us++ds)):=.cons rfl (r.append hd)
 have hl:(Value.ref (s.heap.objs.size+1) :: us++ds).length=ps.length:=by
  have e:=r2.length
  rw [F.len _ _ _ _ hq] at e
  exact e.symm
 refine wpAny_call (a9I (f:=f) I.kIn M.makes M.init (beq_iff_eq.mp M.fn) (codeAny_mono (F.run _ X.stack _ _ ⟨Value.ref (s.heap.objs.size+1) :: us,[]⟩ (Value.ref (s.heap.objs.size+1) :: (us++ds)) _ _ E (hr.make C us [])
  (I2.env0.make C us []) (hb _ (Value.ref (s.heap.objs.size+1) :: us) I2.kIn hl) r2 hq) fun r s' hq'=>?_))
 cases r with
 | error e=>exact hx pins σ _ _ e s' I2 hq'
 | ok fl =>
  cases fl with
  | ret u =>
   obtain ⟨v,H',I3,rv,ev,q3⟩:=I2.after hq'
   subst ev
   exact ⟨rv,⟨V.ref (s.heap.objs.size+1),H',I3,rfl,q3⟩⟩
  | next=>exact False.elim hq'
  | brk=>exact False.elim hq'
  | cont=>exact False.elim hq'
theorem a3m (M:Mk X.K C f) (F:a0O X.prog X.w X.K X.mg X.base CX k f fd ps sp) (hr:a1Q (k+1) X.A) (hg:Gl X x) (hm:X.mg x=some (.ref C)) (hb:a1E X.K fd ps ds) (hd:a0K dvs ds) (hx:a1R CX X E)
  (ha:PA X (e :: es) t) (hdb:(x == ("__debug__":Str))=false:=by decide) (he:starEach (e :: es) X.env=(false,eval e X.env) :: starEach es X.env:=by rfl) (hpl:(backTo pos (starEach es X.env)).any (·.1)=false:=by rfl) :
  PE X (.Call (.Name x p) (e :: es) [] pos) (tMake C sp dvs E t):=by
 intro pins s σ H Q I h
 refine wpAny_Call_Name_kw (a2m I hg hm ?_ hdb)
 refine PySem.W.callWith_K (h₀:=X.base) I.ok.mod.kin M.kp (thn (ha pos pins s σ H _ I h) fun us s1 ⟨vs,H1,I1,r,q⟩=>⟨I1.kIn,?_⟩) he hpl
 exact a9J M F hr hb hd hx I1 r q
end
def PK (X:Cx) (kws:List Keyword) (t:TA):Prop :=
 ∀ (pos:Pos) (pins:List (Addr × Obj)) (s:Shared) (σ:St) (H:Hp) (Q:List V→Hp→Prop),Inv X pins σ H s→t σ H Q→wpAny (model X.prog X.w) X.A (evalAll ((backToKw pos (keywordEach kws X.env)).map (·.2))) (AP X pins σ Q) X.xe s
section
variable {X:Cx} {CX:CXT} {k:Nat} {f C:Addr} {fd:FuncData} {ps ks:List Str} {sp:Sp} {E:XK} {x m:Str} {p pos apos kpos:Pos} {e o:Expr} {es:List Expr} {kws:List Keyword} {te ta:TE} {t tk:TA} {nm:Option Str}
theorem pk_nil:PK X [] b3p:=fun _ _ _ _ H Q I h=>wpAny_evalAll_nil ⟨[],H,I,.nil,h⟩
theorem b1X (ha:PE X e te) (hr:PK X kws t):PK X (⟨nm,e,kpos⟩ :: kws) (a6Y te t):=by
 intro pos pins s σ H Q I h
 show wpAny _ _ (evalAll ((do let v ←eval e X.env;standAt pos;pure v) :: (backToKw pos (keywordEach kws X.env)).map (·.2))) _ _ s
 refine wpAny_evalAll_cons (wpAny_bind (thn (ha pins s σ H _ I h) fun u s1 ⟨x,H1,I1,r1,q1⟩=>wpAny_bind (wpAny_standAt (wpAny_pure ?_))))
 exact thn (hr pos pins s1 σ H1 _ I1 q1) fun us s2 ⟨xs,H2,I2,r2,q2⟩=>⟨x :: xs,H2,I2,.cons r1 r2,q2⟩
structure KBinds (K:PySem.W.Frag) (fd:FuncData) (ps ks:List Str) (g:List Value→List Value→List Value) (gV:List V→List V→List V):Prop where
 to:∀ (s:Shared) (us ws:List Value),K.In s.heap→(g us ws).length=ps.length→BindsTo s fd ⟨us,ks.zip ws⟩ (ps.zip (g us ws))
 rel:∀ {vs:List V} {us:List Value} {zs:List V} {ws:List Value},a0K vs us→a0K zs ws→a0K (gV vs zs) (g us ws)
variable {g:List Value→List Value→List Value} {gV:List V→List V→List V}
end
structure a0n (N P:List Str) (sc:Scope):Prop where
 kind:sc.kind=.function
 co:sc.isCoroutine=false
 gen:sc.isGenerator=false
 nd:N.Nodup
 pre:N.take P.length=P
 par:∀ x∈P,sc.names.lookup x=some .local∨sc.names.lookup x=some .cell
 nofree:∀ y∈sc.names,y.2≠.free
theorem a4R {kindOf:Str→Option NameKind} {x:Str}:∀ {binds:List (Str × Value)} {m:Str→Option Value},(∀ v,(x,v)∉binds)→bindL kindOf binds m x=m x
 | [],_,_=>rfl
 | (n,v) :: r,m,h=>by
  unfold bindL
  rw [a4R fun w hw=>h w (List.mem_cons_of_mem _ hw)]
  split
  ·have:x≠n:=by rintro rfl;exact h v List.mem_cons_self
   simp [this]
  ·rfl
theorem a4S {kindOf:Str→Option NameKind} {x:Str}:∀ {binds:List (Str × Value)} {m:Str→Option Value},(∀ v,(x,v)∉binds)→bindC kindOf binds m x=m x
 | [],_,_=>rfl
 | (n,v) :: r,m,h=>by
  unfold bindC
  rw [a4S fun w hw=>h w (List.mem_cons_of_mem _ hw)]
  split
  ·rfl
  ·have:x≠n:=by rintro rfl;exact h v List.mem_cons_self
   simp [this]
theorem a4T {kindOf:Str→Option NameKind} {x:Str} {v:Value}:∀ {P:List Str} {vs:List Value} {i:Nat} {m:Str→Option Value},P.Nodup→P[i]?=some x→vs[i]?=some v→kindOf x=some .local →
  bindL kindOf (P.zip vs) m x=some v
 | [],_,_,_,_,h,_,_=>by simp at h
 | _ :: _,[],_,_,_,_,h,_=>by simp at h
 | p :: P,w :: vs,0,m,nd,h1,h2,hk=>by
  simp at h1 h2;subst h1;subst h2
  show bindL kindOf ((p,w) :: P.zip vs) m p=_
  unfold bindL
  rw [a4R fun v hv=>(List.nodup_cons.mp nd).1 (List.of_mem_zip hv).1,if_pos hk]
  simp
 | p :: P,w :: vs,i+1,m,nd,h1,h2,hk=>by
  show bindL kindOf ((p,w) :: P.zip vs) m x=_
  unfold bindL
  exact a4T (i:=i) (List.nodup_cons.mp nd).2 (by simpa using h1) (by simpa using h2) hk
theorem a4U {kindOf:Str→Option NameKind} {x:Str} {v:Value}:∀ {P:List Str} {vs:List Value} {i:Nat} {m:Str→Option Value},P.Nodup→P[i]?=some x→vs[i]?=some v→kindOf x≠some .local →
  bindC kindOf (P.zip vs) m x=some v
 | [],_,_,_,_,h,_,_=>by simp at h
 | _ :: _,[],_,_,_,_,h,_=>by simp at h
 | p :: P,w :: vs,0,m,nd,h1,h2,hk=>by
  simp at h1 h2;subst h1;subst h2
  show bindC kindOf ((p,w) :: P.zip vs) m p=_
  unfold bindC
  rw [a4S fun v hv=>(List.nodup_cons.mp nd).1 (List.of_mem_zip hv).1,if_neg hk]
  simp
 | p :: P,w :: vs,i+1,m,nd,h1,h2,hk=>by
  show bindC kindOf ((p,w) :: P.zip vs) m x=_
  unfold bindC
  exact a4U (i:=i) (List.nodup_cons.mp nd).2 (by simpa using h1) (by simpa using h2) hk
def start (N:List Str) (vs:List V):St:=vs.map some++List.replicate (N.length - vs.length) none
def a5v (CX:CXT) (P:Program) (w:World) (K:PySem.W.Frag) (mg:Str→Option Value) (base:Heap) (N:List Str) (qual:Str) (scope:Scope) (f:Addr) (cd:Value) (A:Around) (outer:List Env) (s:Shared) (H:Hp) (E:XK):Cx where
 prog:=P
 w:=w
 K:=K
 mg:=mg
 base:=base
 A:=A.deeper (envOfC qual scope s.heap.objs.size f cd)
 N:=N
 s₀:=s
 H₀:=H
 env:=envOfC qual scope s.heap.objs.size f cd
 outer:=outer
 stack:=envOfC qual scope s.heap.objs.size f cd :: outer
 ex:=[]
 calm:=true
 fn:=fun _=>true
 pn:=[]
 xe:=fun e s'=>wpAny (model P w) (A.deeper (envOfC qual scope s.heap.objs.size f cd)) (leaving (envOfC qual scope s.heap.objs.size f cd) e) (fun _ s''=>CX outer H s E e s'') (fun e' s''=>CX outer H s E e' s'') s'
theorem a6o {sc:Scope} {n:Nat} {x:Str} (h:sc.names.lookup x=some .cell):∃ c,(cellsFrom n sc.names []).lookup x=some c:=by
 have q:=PySem.W.cellsFrom_some sc.names n [] (.inl h)
 exact Option.isSome_iff_exists.mp q
theorem a7X {CX:CXT} {P:Program} {w:World} {K:PySem.W.Frag} {mg:Str→Option Value} {base:Heap} {N ps:List Str} {qual:Str} {scope:Scope} {f:Addr} {cd:Value} {A:Around} {outer:List Env} {s s1:Shared} {H:Hp} {E:XK} {us:List Value} {vs:List V}
  (S:a0n N ps scope) (hd:A.handled=none) (e0:a9z P w K mg base A outer s H) (hl:vs.length=ps.length) (r:a0K vs us)
  (x:InCallC s s.heap.objs.size (bindL (envOfC qual scope s.heap.objs.size f cd).kindOf (ps.zip us) fun _=>none) (cellsFrom (s.heap.objs.size+1) scope.names []) (bindC (envOfC qual scope s.heap.objs.size f cd).kindOf (ps.zip us) fun _=>none) s1) :
  Inv (a5v CX P w K mg base N qual scope f cd A outer s H E) [] (start N vs) H s1:=by
 have hpl:ps.length≤N.length:=by have:=congrArg List.length S.pre;rw [List.length_take] at this;omega
 obtain ⟨h1,tk,rfl,hk⟩:=x.done
 have noA:∀ b:Addr,b∉(a5v CX P w K mg base N qual scope f cd A outer s H E).ex:=fun b z=>absurd (show b∈([]:List Addr) from z) (by simp)
 refine ⟨⟨e0.mod,S.kind,rfl,rfl,Nat.le_refl _,fun y z c h1 h2=>?_,fun y hy=>?_,fun y c _ h=>?_,fun _=>hd,Around.frames_deeper e0.frames,.inr ⟨rfl,rfl⟩,fun b z=>absurd z (noA b),e0.bs,e0.bsz,fun b _ _=>noA b,fun b z=>absurd z (noA b),e0.funs,e0.frf⟩,
  rfl,e0.bare,Un.kept hk,⟨_,x.toInCall.ns,fun i y v h1 h2 h3=>?_⟩,fun y c h=>⟨_,x.cell y c h⟩,e0.hok.fresh (Nat.le_refl _),fun y c h=>?_,fun p hp=>absurd (show p∈([]:List (Addr × Obj)) from hp) (by simp),e0.hok.kept hk,?_⟩
 ·exact name_of_addr x.apart (PySem.mem_of_lookup h1) (PySem.mem_of_lookup h2)
 ·have hy:scope.names.lookup y=some .cell∨scope.names.lookup y=some .free:=hy
  rcases hy with hy | hy
  ·exact a6o hy
  ·exact absurd rfl (S.nofree _ (PySem.mem_of_lookup hy))
 ·exact Nat.le_of_lt (x.above y c (PySem.mem_of_lookup h))
 ·have hi:i < vs.length:=by
   unfold start at h2
   by_cases hi:i < vs.length
   ·exact hi
   ·rw [List.getElem?_append_right (by simpa using hi)] at h2
    rw [List.getElem?_replicate] at h2
    split at h2 <;> cases h2
  have ha:vs[i]?=some v:=by
   unfold start at h2
   rw [List.getElem?_append_left (by simpa using hi),List.getElem?_map] at h2
   cases e:vs[i]? with
   | none=>rw [e] at h2;cases h2
   | some a=>rw [e] at h2;cases h2;rfl
  obtain ⟨u,hu,rv⟩:=r.get ha
  have hp:ps[i]?=some y:=by
   rw [←S.pre,List.getElem?_take_of_lt (by omega)];exact h1
  have ndP:ps.Nodup:=by rw [←S.pre];exact S.nd.sublist (List.take_sublist _ _)
  refine ⟨u,rv,?_⟩
  rcases S.par y (List.mem_of_getElem? hp) with k | k
  ·exact .inl ⟨k,a4T ndP hp hu k⟩
  ·obtain ⟨c,e⟩:=a6o (n:=s.heap.objs.size+1) k
   refine .inr ⟨.inl k,c,e,?_⟩
   have q:=x.cell y c e
   rw [a4U ndP hp hu (by show scope.names.lookup y≠_;rw [k];decide)] at q
   exact q
 ·exact e0.hok.fresh (Nat.le_of_lt (x.above y c (PySem.mem_of_lookup h)))
 ·unfold start
  show _=N.length
  rw [List.length_append,List.length_map,List.length_replicate]
  omega
theorem b1Y {CX:CXT} {P:Program} {w:World} {K:PySem.W.Frag} {mg:Str→Option Value} {base:Heap} {k:Nat} {f:Addr} {name qual:Str} {params:Arguments} {body:List Stmt} {scope:Scope} {dV kV doc pm cdv ct oc:Value} {an od:Option Addr}
  {osl:Array (Option Value)} {N ps:List Str} {sp:Sp} (lk:K.lookup f=some ⟨oc,od,.func (PySem.W.fnOf name qual params body scope dV kV doc pm an cdv ct),osl⟩) (hcd:PySem.W.codeIn K cdv qual=true) (S:a0n N ps scope)
  (len:∀ vs H Q E,sp vs H Q E→vs.length=ps.length)
  (hbody:∀ (A:Around) (outer:List Env) (s:Shared) (H:Hp) (vs:List V) (Q:VK) (E:XK),a1Q k (A.deeper (envOfC qual scope s.heap.objs.size f cdv))→sp vs H Q E →
   ∃ t,PSs (a5v CX P w K mg base N qual scope f cdv A outer s H E) body t∧t { nx:=fun _ H'=>Q .non H',rt:=Q } (start N vs) H) :
  a0O P w K mg base CX (k+1) f (PySem.W.fnOf name qual params body scope dV kV doc pm an cdv ct) ps sp:=by
 refine ⟨len,fun A outer s H args us vs Q E hr e0 hb r hsp=>?_⟩
 have hl:=len _ _ _ _ hsp
 have KX:K.In s.heap:=e0.mod.kin.keeps fun b o e=>(e0.bs b o e).1
 have lim:s.heap.NoLimit:=e0.mod.nolimit.keeps fun b o e=>(e0.bs b o e).1
 have hkind:∀ y∈ps.zip us,scope.names.lookup y.1=some .local∨(scope.names.lookup y.1=some .cell∧((cellsFrom (s.heap.objs.size+1) scope.names []).lookup y.1).isSome=true):=fun ⟨n,v⟩ hy=>by
  rcases S.par n (List.of_mem_zip hy).1 with q | q
  ·exact .inl q
  ·exact .inr ⟨q,PySem.W.cellsFrom_some _ _ _ (.inl q)⟩
 refine codeAny_call_function hr.depth (KX _ _ lk) rfl S.co S.gen rfl (PySem.W.codeRec_of KX hcd) (hb _ _ _ _ ?_)
 refine wpAny_newFunctionEnv_cells S.kind hkind fun env he s1 x=>?_
 subst he
 refine ⟨lim.keeps x.toInCall.keep,codeAny_func ?_⟩
 obtain ⟨t,ht,hq⟩:=hbody A outer s H vs Q E (hr.deeper _) hsp
 have I:Inv (a5v CX P w K mg base N qual scope f cdv A outer s H E) [] (start N vs) H s1:=a7X S hr.hd e0 hl r x
 refine wpAny_mono (ht [] s1 (start N vs) H _ I hq) (fun fl s' hs=>?_) fun e s' hs=>hs
 have fin:∀ {σ':St} {H':Hp} {v:V} {u:Value},Inv (a5v CX P w K mg base N qual scope f cdv A outer s H E) [] σ' H' s'→a0U v u→Q v H'→CE outer P w H s Q u s' :=
  fun {σ' H' v u} J rv q=>⟨v,H',J.os,J.bare,J.base,J.hok,rv,q⟩
 cases fl with
 | ret u =>
  obtain ⟨v,σ',H',J,rv,q⟩:=hs
  exact fin J rv q
 | next =>
  obtain ⟨σ',H',J,q⟩:=hs
  exact fin (v:=V.non) (u:=Value.none) J rfl q
 | brk =>
  obtain ⟨_,_,_,q⟩:=hs
  exact False.elim q
 | cont =>
  obtain ⟨_,_,_,q⟩:=hs
  exact False.elim q
section
variable {X:Cx} {x:Str} {p pos:Pos} {e:Expr} {es:List Expr} {t:TA} {id T:String} {r:List V→Hp→VK→Prop}
def tCB (r:List V→Hp→VK→Prop) (t:TA):TE:=fun σ H Q=>t σ H fun vs H1=>r vs H1 Q
theorem a0o (hc:a2w X (.builtin id) r) (hg:Gl X x) (hm:X.mg x=none) (hv:bootBuiltins x=some (.builtin id)) (ha:PA X (e :: es) t) (hn:x≠"__name__":=by decide) (hdb:(x == ("__debug__":Str))=false:=by decide)
  (he:starEach (e :: es) X.env=(false,eval e X.env) :: starEach es X.env:=by rfl) (hpl:(backTo pos (starEach es X.env)).any (·.1)=false:=by rfl):PE X (.Call (.Name x p) (e :: es) [] pos) (tCB r t):=by
 intro pins s σ H Q I h
 refine wpAny_Call_Name_kw (a2u I hg hm hv ?_ hn hdb)
 exact PyProof.Rows.callWith_builtin1 (thn (ha pos pins s σ H _ I h) fun us s1 ⟨vs,H1,I1,r1,q1⟩=>hc pins s1 σ H1 vs us Q I1 r1 q1) he hpl
theorem a1S (hc:a2w X (.type T) r) (hg:Gl X x) (hm:X.mg x=none) (hv:bootBuiltins x=some (.type T)) (ha:PA X (e :: es) t) (hn:x≠"__name__":=by decide) (hdb:(x == ("__debug__":Str))=false:=by decide)
  (he:starEach (e :: es) X.env=(false,eval e X.env) :: starEach es X.env:=by rfl) (hpl:(backTo pos (starEach es X.env)).any (·.1)=false:=by rfl):PE X (.Call (.Name x p) (e :: es) [] pos) (tCB r t):=by
 intro pins s σ H Q I h
 refine wpAny_Call_Name_kw (a2u I hg hm hv ?_ hn hdb)
 exact PyProof.Rows.callWith_type1 (thn (ha pos pins s σ H _ I h) fun us s1 ⟨vs,H1,I1,r1,q1⟩=>hc pins s1 σ H1 vs us Q I1 r1 q1) he hpl
end
end L2
namespace HT
open PySem PyProof.Rows
def a1m:List Int→List Int→Bool
 | [],[]=>false
 | [],_ :: _=>true
 | _ :: _,[]=>false
 | x :: xs,y :: ys=>if x=y then a1m xs ys else decide (x < y)
theorem a1n (x y:Int) (xs ys:List Int):a1m (x :: xs) (y :: ys)=if x=y then a1m xs ys else decide (x < y):=rfl
theorem a4q:a1m [] []=false:=rfl
theorem a3K (y:Int) (ys:List Int):a1m [] (y :: ys)=true:=rfl
theorem a3L (x:Int) (xs:List Int):a1m (x :: xs) []=false:=rfl
theorem a9K (A:Around) (s:Shared) (a:Int) (t:Tok) (c:Int) (u:Tok):∃ e,SeqAt.EqAt A s (.int a t) (.int c u) e∧(e=true↔a=c) :=
 ⟨(a == c),SeqAt.EqAt.int_int a t c u,by simp⟩
theorem a9L (A:Around) (s:Shared) (a:Int) (t:Tok) (c:Int) (u:Tok) (prog:Program) (w:World) (E:Value→Shared→Prop) (Q:Value→Shared→Prop) (h:Q (.bool (decide (a < c))) s) :
  wpAny (model prog w) A (richCompare .Lt (.int a t) (.int c u)) Q E s :=
 (PyProof.Rows.lt_int h:wpAny (model prog w) A (compareOp .Lt (.int a t) (.int c u)) Q E s)
section
open PySem.SeqAt
open PySem.AutoSeq1 (wpAny_loadPart')
open PySem.MeetsSeq PySem.MeetsSeq2 PySem.MeetsSeq3
theorem a4r (l b:Addr) (items items2:Array Value) (n n2:Nat) (dd dd2:Option Addr) (sl sl2:Array (Option Value)) (ns ms:List Int) (hi:IntsAre items.toList ns) (hj:IntsAre items2.toList ms) :
  Meets (Builtin.«tuple.__lt__» ⟨[.ref l,.ref b],[]⟩)
   (fun _ R s=>s.heap.get? l=some { cls:=.type "tuple",dict:=dd,data:=.seq items n,slots:=sl }∧s.heap.get? b=some { cls:=.type "tuple",dict:=dd2,data:=.seq items2 n2,slots:=sl2 } ∧
    R (.ok (.ret (.bool (a1m ns ms)))) s) :=
 .of_wp fun prog w A R s h=>by
  obtain ⟨hp,g,d,tk,os⟩:=s;obtain ⟨hl,hb,h⟩:=h
  have f2:=AutoSeq1.sub_tuple_tuple
  have z1:items.size=ns.length:=by rw [←hi.length];simp
  have z2:items2.size=ms.length:=by rw [←hj.length];simp
  wp_walk using wpAny_loadPart' hl,wpAny_loadPart' hb,wpAny_forIn_list _ (fun rest b s'=>b.1=none∧s'=⟨hp,g,d,tk,os⟩∧∃ (vs ws:List Value) (ns' ms':List Int),rest=vs.zip ws ∧
   IntsAre vs ns'∧IntsAre ws ms'∧ns'.length+items2.size=ms'.length+items.size∧R (.ok (.ret (.bool (a1m ns' ms')))) ⟨hp,g,d,tk,os⟩) _
  case turn =>
   rintro ⟨y,x⟩ rest b s' ⟨hb',rfl,vs,ws,ns',ms',hz,hvi,hwi,hlen,hR⟩
   cases hvi with
   | nil=>rw [List.zip_nil_left] at hz;cases hz
   | cons a t hvi' =>
    cases hwi with
    | nil=>rw [List.zip_nil_right] at hz;cases hz
    | cons c u hwi' =>
     rw [List.zip_cons_cons] at hz
     injection hz with hyx hrest
     injection hyx with hy hx
     subst hy hx
     rw [a1n] at hR
     simp only [List.length_cons] at hlen
     obtain ⟨e,he,hiff⟩:=a9K A.in1 ⟨hp,g,d,tk,os⟩ a t c u
     refine wpAny_bind (he prog w _ _ ?_)
     cases e with
     | true =>
      rw [if_pos (hiff.mp rfl)] at hR
      wp_walk
      exact ⟨rfl,rfl,_,_,_,_,hrest,hvi',hwi',by omega,hR⟩
     | false =>
      rw [if_neg (fun q=>absurd (hiff.mpr q) Bool.false_ne_true)] at hR
      have hri:=a9L A.in1 ⟨hp,g,d,tk,os⟩ a t c u prog w
      wp_walk using hri
      exact ⟨_,rfl,by simpa using hR⟩
  case fin =>
   rintro ⟨b1,b2⟩ s' ⟨hb',rfl,vs,ws,ns',ms',hz,hvi,hwi,hlen,hR⟩
   simp only at hb'
   subst hb'
   have hv:a1m ns' ms'=decide (items.size < items2.size):=by
    cases hvi with
    | nil =>
     cases hwi with
     | nil =>
      simp only [List.length_nil] at hlen
      rw [a4q]
      exact (decide_eq_false (by omega)).symm
     | cons c u hw =>
      simp only [List.length_nil,List.length_cons] at hlen
      rw [a3K]
      exact (decide_eq_true (by omega)).symm
    | cons a t hv =>
     cases hwi with
     | nil =>
      simp only [List.length_nil,List.length_cons] at hlen
      rw [a3L]
      exact (decide_eq_false (by omega)).symm
     | cons c u hw =>
      rw [List.zip_cons_cons] at hz
      cases hz
   rw [hv] at hR
   wp_walk
   exact ⟨_,rfl,by simpa [Builtin.Tuple.tupleCompareSizes] using hR⟩
  case h =>
   exact ⟨rfl,rfl,items.toList,items2.toList,ns,ms,rfl,hi,hj,by omega,h⟩
end
section
variable {prog:Program} {w:World} {A:Around} {E:Value→Shared→Prop} {s:Shared}
theorem a6Z {l b:Addr} {items items2:Array Value} {ns ms:List Int} {Q:Value→Shared→Prop} (hl:IsTup s.heap l items) (hb:IsTup s.heap b items2) (hi:IntsAre items.toList ns) (hj:IntsAre items2.toList ms)
  (hu:A.units < cLine) (h:Q (.bool (a1m ns ms)) s):wpAny (model prog w) A (compareOp .Lt (.ref l) (.ref b)) Q E s:=by
 obtain ⟨⟨cls,dd,data,sl⟩,ho,hc,n,hd⟩:=id hl
 obtain ⟨⟨cls2,dd2,data2,sl2⟩,ho2,hc2,n2,hd2⟩:=id hb
 simp only at hc hd hc2 hd2
 subst hc hd hc2 hd2
 exact richCompare_meets_room (op:=.Lt) ⟨_,ho,rfl⟩ ⟨_,ho2,rfl⟩ PySem.F.slot_tuple_lt PySem.F.entry_tuple_lt (PySem.F.args_tuple_lt_2 _ _) (a4r l b items items2 n n2 dd dd2 sl sl2 ns ms hi hj)
  ⟨ho,ho2,show Value.bool (a1m ns ms)≠Value.notImplemented∧Q (.bool (a1m ns ms)) s from ⟨(fun x=>nomatch x),h⟩⟩ hu
theorem b1Z {t b:Addr} {vs ws:List Value} {Q:Value→Shared→Prop} (ht:IsTup s.heap t vs.toArray) (hb:IsTup s.heap b ws.toArray) (hv:vs≠[])
  (h1:ws=[]→Q (.ref t) s) (h2:ws≠[]→Q (.ref s.heap.objs.size) { s with heap:=s.heap.push { cls:=.type "tuple",data:=.seq (vs++ws).toArray } })
  (hsz:vs.length+ws.length≤sizeLine):wpAny (model prog w) A (binaryOp .Add (.ref t) (.ref b)) Q E s:=by
 obtain ⟨⟨cls,dd,data,sl⟩,ho,hc,n,hd⟩:=id ht
 obtain ⟨⟨cls2,dd2,data2,sl2⟩,ho2,hc2,n2,hd2⟩:=id hb
 simp only at hc hd hc2 hd2
 subst hc hd hc2 hd2
 have e:vs.toArray++ws.toArray=(vs++ws).toArray:=by simp
 by_cases hw:ws=[]
 ·exact concat_meets ⟨_,ho,rfl⟩ ⟨_,ho2,rfl⟩ noFill_tuple_add seq_tuple_add PySem.F.slot_tuple_add PySem.F.entry_tuple_add (PySem.F.args_tuple_add_2 _ _)
   (tuple_addW1 t b vs.toArray ws.toArray n n2 dd dd2 sl sl2 (by simpa using hv) (by simp [hw])) ⟨ho,ho2,h1 hw⟩
 ·refine concat_meets ⟨_,ho,rfl⟩ ⟨_,ho2,rfl⟩ noFill_tuple_add seq_tuple_add PySem.F.slot_tuple_add PySem.F.entry_tuple_add (PySem.F.args_tuple_add_2 _ _)
   (tuple_addW2 t b vs.toArray ws.toArray n n2 dd dd2 sl sl2 (by simpa using hv) (by simpa using hw) (by rw [List.size_toArray,List.size_toArray];exact hsz)) ⟨ho,ho2,?_⟩
  rw [e]
  exact h2 hw
def sIx (n d:Nat):Option Int→Nat
 | none=>d
 | some v=>if v < 0 then (v+(n:Int)).toNat else min v.toNat n
theorem a6p (n d:Nat):sIx n d none=d:=rfl
theorem a7Y (n d k:Nat):sIx n d (some (k:Int))=min k n:=by
 show (if (k:Int) < 0 then ((k:Int)+(n:Int)).toNat else min (k:Int).toNat n)=min k n
 rw [if_neg (by omega),Int.toNat_natCast]
theorem sIx_le (n d:Nat) (hd:d≤n) (o:Option Int):sIx n d o≤n:=by
 cases o with
 | none=>exact hd
 | some v =>
  show (if v < 0 then (v+(n:Int)).toNat else min v.toNat n)≤n
  by_cases hv:v < 0
  ·rw [if_pos hv];omega
  ·rw [if_neg hv];exact Nat.min_le_right _ _
theorem a7Z (v:Int) (n d:Nat):(if v < 0 then max (v+(n:Int)) 0 else min v (n:Int))=((sIx n d (some v):Nat):Int):=by
 show (if v < 0 then max (v+(n:Int)) 0 else min v (n:Int))=(((if v < 0 then (v+(n:Int)).toNat else min v.toNat n):Nat):Int)
 by_cases hv:v < 0
 ·simp only [if_pos hv];omega
 ·simp only [if_neg hv];omega
theorem a7a (lo hi:Option Int) (n:Nat):Builtin.Slice.sliceAdjust lo hi 1 (n:Int)=(((sIx n 0 lo:Nat):Int),((sIx n n hi:Nat):Int)):=by
 have h1:¬ ((1:Int) < 0):=by omega
 unfold Builtin.Slice.sliceAdjust
 simp only [h1,if_false]
 refine Prod.ext ?_ ?_
 ·cases lo with
  | none=>rfl
  | some v=>exact a7Z v n 0
 ·cases hi with
  | none=>rfl
  | some v=>exact a7Z v n n
theorem a7b (i j:Nat):Builtin.Slice.slicePlaces (i:Int) (j:Int) 1=j - i:=by
 unfold Builtin.Slice.slicePlaces
 have h1:(1:Int) > 0:=by omega
 simp only [h1,if_true,Int.ediv_one]
 split <;> omega
theorem a3S {v:Value} {o:Option Int} {Q:Option Int→Shared→Prop} (p:IsPart v o) (h:Q o s):wpAny (model prog w) A (Builtin.Slice.slicePartIndex v) Q E s:=by
 cases p with
 | none=>exact slicePart_none h
 | int i t=>exact slicePart_int h
theorem a1N {sl:Addr} {vl vu:Value} {lo hi:Option Int} {n:Nat} {Q:Int × Int × Nat→Shared→Prop} (hs:s.heap.IsSliceOf sl vl vu .none) (pl:IsPart vl lo) (pu:IsPart vu hi)
  (h:Q (((sIx n 0 lo:Nat):Int),1,sIx n n hi - sIx n 0 lo) s):wpAny (model prog w) A (Builtin.Slice.sliceApplied (.ref sl) (pure (n:Int))) Q E s:=by
 obtain ⟨os,hos,hcs,hds⟩:=id hs
 unfold Builtin.Slice.sliceApplied Builtin.Slice.sliceFields
 refine wpAny_bind (wpAny_bind (wpAny_field hos hds (x:=vl) rfl (wpAny_bind (wpAny_field hos hds (x:=vu) rfl (wpAny_bind (wpAny_field hos hds (x:=.none) rfl (wpAny_pure ?_)))))))
 refine wpAny_bind (slicePart_none ?_)
 show wpAny _ _ (if ((1:Int) == 0)=true then _ else _) _ _ s
 rw [if_neg (by decide)]
 refine wpAny_bind (a3S pl (wpAny_bind (a3S pu (wpAny_bind (wpAny_pure ?_)))))
 show wpAny _ _ (match Builtin.Slice.sliceAdjust lo hi 1 (n:Int) with | (lo,hi)=>pure (lo,(1:Int),Builtin.Slice.slicePlaces lo hi 1)) _ _ s
 rw [a7a lo hi n]
 show wpAny _ _ (pure (((sIx n 0 lo:Nat):Int),(1:Int),Builtin.Slice.slicePlaces ((sIx n 0 lo:Nat):Int) ((sIx n n hi:Nat):Int) 1)) _ _ s
 rw [a7b]
 exact wpAny_pure h
theorem a9M (xs:Array Value) (i k:Nat):((List.range k).filterMap fun (m:Nat)=>xs[((i:Int)+(m:Int) * 1).toNat]?).toArray=((xs.toList.drop i).take k).toArray:=by
 have e:(fun (m:Nat)=>xs[((i:Int)+(m:Int) * 1).toNat]?)=fun m=>xs[i+m]?:=by
  funext m
  have:((i:Int)+(m:Int) * 1).toNat=i+m:=by omega
  rw [this]
 rw [e]
 have:=pick_run xs i k
 rw [List.filterMap_map] at this
 have e2:((fun x=>xs[x]?) ∘ fun x=>i+x)=fun m=>xs[i+m]?:=rfl
 rw [e2] at this
 rw [this]
theorem a2I {t sl:Addr} {items:Array Value} {vl vu:Value} {lo hi:Option Int} {Q:Value→Shared→Prop} (ht:IsTup s.heap t items) (hs:s.heap.IsSliceOf sl vl vu .none) (pl:IsPart vl lo) (pu:IsPart vu hi)
  (hw:¬ (sIx items.size 0 lo=0∧sIx items.size items.size hi=items.size))
  (h:Q (.ref s.heap.objs.size) { s with heap:=s.heap.push { cls:=.type "tuple",data:=.seq ((items.toList.drop (sIx items.size 0 lo)).take (sIx items.size items.size hi - sIx items.size 0 lo)).toArray } })
  (hsz:items.size≤sizeLine):wpAny (model prog w) A (getItem (.ref t) (.ref sl)) Q E s:=by
 have htake:sizeOk (.seq ((items.toList.drop (sIx items.size 0 lo)).take (sIx items.size items.size hi - sIx items.size 0 lo)).toArray):=by
  show ((items.toList.drop (sIx items.size 0 lo)).take (sIx items.size items.size hi - sIx items.size 0 lo)).toArray.size≤sizeLine
  rw [List.size_toArray,List.length_take,List.length_drop,Array.length_toList]
  omega
 have hj:sIx items.size items.size hi≤items.size:=sIx_le _ _ (Nat.le_refl _) hi
 obtain ⟨os,hos,hcs,hds⟩:=id hs
 have hTs:s.TypeIs (.ref sl) "slice":=⟨os,hos,hcs⟩
 unfold getItem
 try with_reducible refine wpAny_holding ?_
 first | refine wpAny_bind (wpAny_pure ?_) | skip
 refine wpAny_bind (wpAny_sequenceKey ht.typeIs (by decide) ?_)
 refine wpAny_bind (wpAny_callSpecial?_slot (name:=Str.ofString "__getitem__") ht.typeIs PyProof.Rows.slot_tuple_getitem
  (wpAny_call_entry PyProof.Rows.slot_tuple_getitem ht.typeIs entry_tuple_getitem ?_ (args_tuple_getitem _ _)))
 show wpAny _ _ (Builtin.Tuple.tupleItemsOf (.ref t) >>= _) _ _ s
 refine wpAny_bind (tupleItemsOf_ ht ?_)
 refine wpAny_bind (wpAny_typeOf hTs ?_)
 rw [if_pos (by decide)]
 refine wpAny_bind (a1N hs pl pu ?_)
 have hno:¬ ((((sIx items.size 0 lo:Nat):Int) == 0 && (1:Int) == 1 && (sIx items.size items.size hi - sIx items.size 0 lo) == items.size)=true):=by
  intro q
  rw [Bool.and_eq_true,Bool.and_eq_true] at q
  have q1:((sIx items.size 0 lo:Nat):Int)=0:=eq_of_beq q.1.1
  have q2:sIx items.size items.size hi - sIx items.size 0 lo=items.size:=eq_of_beq q.2
  exact hw ⟨by omega,by omega⟩
 show wpAny _ _ (if (((sIx items.size 0 lo:Nat):Int) == 0 && (1:Int) == 1 && (sIx items.size items.size hi - sIx items.size 0 lo) == items.size)=true then _ else _) _ _ s
 rw [if_neg hno,a9M]
 first
  | exact wpAny_bind (m:=Builtin.Tuple.tupleExact _) (wpAny_newObj_type (wpAny_pure ⟨_,rfl,wpAny_pure h⟩) htake)
  | exact wpAny_bind (m:=Builtin.Tuple.tupleExact _) (wpAny_newObj_type (wpAny_bind (wpAny_pure (wpAny_pure ⟨_,rfl,wpAny_pure h⟩))) htake)
  | exact wpAny_bind (wpAny_bind (m:=Builtin.Tuple.tupleExact _) (wpAny_newObj_type (wpAny_pure (wpAny_pure ⟨_,rfl,wpAny_pure h⟩)) htake))
  | exact wpAny_bind (wpAny_bind (m:=Builtin.Tuple.tupleExact _) (wpAny_newObj_type (wpAny_pure ⟨_,rfl,wpAny_pure h⟩) htake))
end
end HT
namespace L2
open PySem PySem.Spec PyProof.Rows
abbrev TO:=St→Hp→(Option Int→Hp→Prop)→Prop
def PO (X:Cx) (e:Option Expr) (t:TO):Prop :=
 ∀ (pins:List (Addr × Obj)) (s:Shared) (σ:St) (H:Hp) (Q:Option Int→Hp→Prop),Inv X pins σ H s→t σ H Q →
  wpAny (model X.prog X.w) X.A (evalPart e X.env) (fun u s'=>∃ o H',Inv X pins σ H' s'∧IsPart u o∧Q o H') X.xe s
def b2a:TO:=fun _ H Q=>Q none H
def tPart (t:TE):TO:=fun σ H Q=>t σ H fun x H1=>∃ i,x=.int i∧Q (some i) H1
theorem a3T {ns:List Int}:∀ {us:List Value},a0K (ns.map V.int) us→IntsAre us ns:=by
 induction ns with
 | nil=>intro us r;rw [List.map_nil] at r;cases r;exact .nil
 | cons n ns ih =>
  intro us r
  rw [List.map_cons] at r
  cases r with
  | cons r1 r2 =>
   obtain ⟨t,e⟩:=r1
   subst e
   exact .cons n t (ih r2)
section
variable {X:Cx} {e:Expr} {te:TE} {lo hi:Option Expr} {tl th:TO} {pos p2:Pos}
theorem a5z:PO X none b2a:=by
 intro pins s σ H Q I h
 rw [evalPart_none]
 exact wpAny_pure ⟨none,H,I,.none,h⟩
theorem a5A (h:PE X e te):PO X (some e) (tPart te):=by
 intro pins s σ H Q I hw
 rw [evalPart_some]
 refine thn (h pins s σ H _ I hw) fun u s1 ⟨x,H1,I1,r1,q1⟩=>?_
 obtain ⟨i,rfl,q⟩:=q1
 obtain ⟨t,rfl⟩:=r1
 exact ⟨some i,H1,I1,.int i t,q⟩
def SlR (X:Cx) (r:V→Option Int→Option Int→Hp→VK→Prop):Prop :=
 ∀ (pins:List (Addr × Obj)) (s:Shared) (σ:St) (H:Hp) (x:V) (v vl vu:Value) (lo hi:Option Int) (sl:Addr) (Q:VK),Inv X pins σ H s→a0U x v→s.heap.IsSliceOf sl vl vu .none→IsPart vl lo→IsPart vu hi→r x lo hi H Q →
  ∃ T id,typeLookup (.type T) "__getitem__"=pure (some (.builtin id))∧s.TypeIs v T∧wpAny (model X.prog X.w) X.A (getItem v (.ref sl)) (EP X pins σ Q) X.xe s
def tSl (r:V→Option Int→Option Int→Hp→VK→Prop) (te:TE) (tl th:TO):TE:=fun σ H Q=>te σ H fun x H1=>tl σ H1 fun l H2=>th σ H2 fun u H3=>r x l u H3 Q
theorem a4s {r:V→Option Int→Option Int→Hp→VK→Prop} (hr:SlR X r) (he:PE X e te) (hl:PO X lo tl) (hu:PO X hi th):PE X (.Subscript e (.Slice lo hi none p2) pos) (tSl r te tl th):=by
 intro pins s σ H Q I h
 refine Subscript_ (thn (he pins s σ H _ I h) fun v s1 ⟨x,H1,I1,r1,q1⟩=>?_)
 refine wpAny_Slice (thn (hl pins s1 σ H1 _ I1 q1) fun vl s2 ⟨l,H2,I2,pl,q2⟩=>thn (hu pins s2 σ H2 _ I2 q2) fun vu s3 ⟨u,H3,I3,pu,q3⟩=>?_)
 rw [evalPart_none]
 refine wpAny_pure ?_
 have I4:Inv X pins σ H3 { s3 with heap:=s3.heap.push { cls:=.type "slice",data:=.fields #[vl,vu,.none] } }:=I3.kept (t':=s3.toks) fun b ob q=>Heap.get?_push_of_some _ q
 obtain ⟨T,id,hT,ht,hg⟩:=hr pins { s3 with heap:=s3.heap.push { cls:=.type "slice",data:=.fields #[vl,vu,.none] } } σ H3 x v vl vu l u s3.heap.objs.size Q I4 r1 (Heap.IsSliceOf.new ..) pl pu q3
 show wpAny (model X.prog X.w) X.A (subscriptTail e (.Slice lo hi none p2) v (.ref s3.heap.objs.size)) (EP X pins σ Q) X.xe { s3 with heap:=s3.heap.push { cls:=.type "slice",data:=.fields #[vl,vu,.none] } }
 exact tail_any (ops:=[.ref s3.heap.objs.size,v]) ht hT hg (by with_unfolding_all rfl)
def a8a (xs:List V) (lo hi:Option Int):List V:=(xs.drop (HT.sIx xs.length 0 lo)).take (HT.sIx xs.length xs.length hi - HT.sIx xs.length 0 lo)
theorem a5B (xs:List V) (lo hi:Option Int):(a8a xs lo hi).length≤xs.length:=by
 unfold a8a
 rw [List.length_take,List.length_drop]
 omega
def rSlT (K:PySem.W.Frag):V→Option Int→Option Int→Hp→VK→Prop:=fun x lo hi H Q=>∃ a xs,x=.ref a∧SqT K H a xs ∧
 ¬ (HT.sIx xs.length 0 lo=0∧HT.sIx xs.length xs.length hi=xs.length)∧∀ p,H p=none→Q (.ref p) (upd H p (.tup (a8a xs lo hi)))
theorem sl_tup:SlR X (rSlT X.K):=by
 intro pins s σ H x v vl vu lo hi sl Q I rx hs pl pu h
 obtain ⟨a,xs,rfl,hx,hw,q⟩:=h
 cases rx
 obtain ⟨its,r,ht,hz⟩:=I.tuple hx
 have hlen:its.toArray.size=xs.length:=by rw [List.size_toArray];exact r.length.symm
 refine ⟨"tuple",_,PyProof.Rows.slot_tuple_getitem.lookup,ht.typeIs,?_⟩
 refine HT.a2I ht hs pl pu (by rw [hlen];exact hw) ?_ (by rw [hlen];exact hz)
 rw [hlen]
 refine ⟨.ref s.heap.objs.size,_,I.laid (t':=s.toks) (o:=.tup (a8a xs lo hi)) (fun b ob q=>Heap.get?_push_of_some _ q) (Nat.le_refl _) ?_,rfl,q _ (I.hok.fresh (Nat.le_refl _))⟩
 exact ⟨Nat.le_trans (a5B xs lo hi) hz,_,(r.drop (HT.sIx xs.length 0 lo)).take (HT.sIx xs.length xs.length hi - HT.sIx xs.length 0 lo),a4M.new _ _⟩
def rLtT (K:PySem.W.Frag):R2:=fun x y H Q=>∃ a b ns ms,x=.ref a∧y=.ref b∧SqT K H a (ns.map V.int)∧SqT K H b (ms.map V.int)∧Q (.bl (HT.a1m ns ms)) H
theorem op_ltT (hu:X.A.units < cLine):OpR X (compareOp .Lt) (rLtT X.K):=by
 intro pins s σ H x y v u Q I rx ry h
 obtain ⟨a,b,ns,ms,rfl,rfl,ha,hb,q⟩:=h
 cases rx
 cases ry
 obtain ⟨its,r1,p1,_⟩:=I.tuple ha
 obtain ⟨its2,r2,p2,_⟩:=I.tuple hb
 have i1:IntsAre its.toArray.toList ns:=a3T r1
 have i2:IntsAre its2.toArray.toList ms:=a3T r2
 exact HT.a6Z p1 p2 i1 i2 hu ⟨.bl (HT.a1m ns ms),H,I,rfl,q⟩
def rCatT (K:PySem.W.Frag):R2:=fun x y H Q=>∃ a b xs ys,x=.ref a∧y=.ref b∧SqT K H a xs∧SqT K H b ys∧xs≠[]∧xs.length+ys.length≤sizeLine ∧
 (ys=[]→Q (.ref a) H)∧(ys≠[]→∀ p,H p=none→Q (.ref p) (upd H p (.tup (xs++ys))))
theorem a0K.nil_iff {xs:List V} {us:List Value} (r:a0K xs us):us=[]↔xs=[]:=by
 cases r with
 | nil=>simp
 | cons _ _=>simp
theorem b2b:OpR X (binaryOp .Add) (rCatT X.K):=by
 intro pins s σ H x y v u Q I rx ry h
 obtain ⟨a,b,xs,ys,rfl,rfl,ha,hb,hx,hz,q1,q2⟩:=h
 cases rx
 cases ry
 obtain ⟨its,r1,p1,_⟩:=I.tuple ha
 obtain ⟨its2,r2,p2,_⟩:=I.tuple hb
 refine HT.b1Z p1 p2 (fun z=>hx (r1.nil_iff.mp z)) (fun z=>⟨.ref a,H,I,rfl,q1 (r2.nil_iff.mp z)⟩) (fun z=>?_) (by rw [←r1.length,←r2.length];exact hz)
 refine ⟨.ref s.heap.objs.size,_,I.laid (t':=s.toks) (o:=.tup (xs++ys)) (fun b ob q=>Heap.get?_push_of_some _ q) (Nat.le_refl _) ?_,rfl,q2 (fun w=>z (r2.nil_iff.mpr w)) _ (I.hok.fresh (Nat.le_refl _))⟩
 exact ⟨by rw [List.length_append];exact hz,_,r1.append r2,a4M.new _ _⟩
end
def ixN (n:Nat) (i:Int):Option Nat:=if 0≤i then (if i < n then some i.toNat else none) else if -(n:Int)≤i then some (i+n).toNat else none
def atI {α:Type} (xs:List α) (i:Int):Option α:=(ixN xs.length i).bind fun j=>xs[j]?
theorem a5C {n:Nat} {i:Int} {j:Nat} (h:ixN n i=some j):seqIndex? i n=some j∧j < n∧-(n:Int)≤i∧i < n:=by
 unfold ixN at h
 by_cases h0:0≤i
 ·rw [if_pos h0] at h
  by_cases h1:i < n
  ·rw [if_pos h1] at h
   have e:i.toNat=j:=Option.some.inj h
   exact ⟨by rw [seqIndex_of h0 h1,e],by omega,by omega,h1⟩
  ·rw [if_neg h1] at h;cases h
 ·rw [if_neg h0] at h
  by_cases h1:-(n:Int)≤i
  ·rw [if_pos h1] at h
   have e:(i+n).toNat=j:=Option.some.inj h
   exact ⟨by rw [seqIndex_neg (by omega) h1,e],by omega,h1,by omega⟩
  ·rw [if_neg h1] at h;cases h
theorem a8b {α:Type} {xs:List α} {i:Int} {v:α} (h:atI xs i=some v):∃ j,seqIndex? i xs.length=some j∧xs[j]?=some v∧j < xs.length∧-(xs.length:Int)≤i∧i < xs.length:=by
 unfold atI at h
 cases e:ixN xs.length i with
 | none=>rw [e] at h;cases h
 | some j =>
  rw [e] at h
  obtain ⟨h1,h2,h3,h4⟩:=a5C e
  exact ⟨j,h1,h,h2,h3,h4⟩
theorem a1T {α:Type} {xs:List α} {j:Nat} {v:α} (h:xs[j]?=some v):atI xs (j:Int)=some v:=by
 have hj:j < xs.length:=(List.getElem?_eq_some_iff.mp h).1
 have e:ixN xs.length (j:Int)=some j:=by
  unfold ixN
  rw [if_pos (by omega),if_pos (by omega)];simp
 unfold atI;rw [e];exact h
theorem a4t {α:Type} (xs:List α) (v:α):atI (xs++[v]) (-1)=some v:=by
 have hl:(xs++[v]).length=xs.length+1:=by simp
 have e:ixN (xs++[v]).length (-1)=some xs.length:=by
  unfold ixN
  rw [hl,if_neg (by decide),if_pos (by omega)]
  congr 1
  omega
 unfold atI
 rw [e]
 show (xs++[v])[xs.length]?=some v
 simp
def b2c (b:Expr):Prop:=∀ o i,subscripted b false o i=operate [o,i] (getItem o i)
def IxR (X:Cx) (r:R2):Prop :=
 ∀ (value slice:Expr) (pins:List (Addr × Obj)) (s:Shared) (σ:St) (H:Hp) (x y:V) (v u:Value) (Q:VK),Inv X pins σ H s→a0U x v→a0U y u→r x y H Q →
  subscripted slice false v u=operate [v,u] (getItem v u)→wpAny (model X.prog X.w) X.A (subscriptTail value slice v u) (EP X pins σ Q) X.xe s
def MtR (X:Cx) (id:String) (r:V→List V→Hp→VK→Prop):Prop :=
 ∀ (pins:List (Addr × Obj)) (s:Shared) (σ:St) (H:Hp) (x:V) (xs:List V) (v:Value) (us:List Value) (Q:VK),Inv X pins σ H s→a0U x v→a0K xs us→r x xs H Q →
  wpAny (model X.prog X.w) X.A (call (.builtin id) (v :: us)) (EP X pins σ Q) X.xe s
section
variable {X:Cx} {a b:Expr} {ta tb:TE} {pos:Pos}
theorem a0y {r:R2} (hr:IxR X r) (ha:PE X a ta) (hb:PE X b tb) (hs:b2c b):PE X (.Subscript a b pos) (tOp r ta tb):=by
 intro pins s σ H Q I h
 exact Subscript_ (binT ha hb I h fun v u s2 x y H2 I2 rx ry q=>hr a b pins s2 σ H2 x y v u Q I2 rx ry q (hs _ _))
def rIxL (K:PySem.W.Frag):R2:=fun x y H Q=>∃ p xs i v,x=.ref p∧y=.int i∧SqL K H p xs∧atI xs i=some v∧Q v H
def rIxT (K:PySem.W.Frag):R2:=fun x y H Q=>∃ p xs i v,x=.ref p∧y=.int i∧SqT K H p xs∧atI xs i=some v∧Q v H
def rIxS:R2:=fun x y H Q=>∃ z i c,x=.str z∧y=.int i∧z.length≤sizeLine∧atI z.cps.toList i=some c∧Q (.str ⟨#[c]⟩) H
theorem a0w:IxR X (rIxL X.K):=by
 intro value slice pins s σ H x y v u Q I rx ry h hs
 obtain ⟨p,xs,i,z,rfl,rfl,hq,he,q⟩:=h
 cases rx
 obtain ⟨t,rfl⟩:=ry
 obtain ⟨its,r,pl,hz⟩:=I.list hq
 obtain ⟨j,h1,h2,h3,h4,h5⟩:=a8b he
 obtain ⟨w,ew,rw'⟩:=r.get h2
 have hl:=r.length
 have hn:=a6n
 have fin:EP X pins σ Q w s:=⟨z,H,I,rw',q⟩
 by_cases h0:0≤i
 ·have hj:i.toNat=j:=by
   rw [seqIndex_of h0 h5] at h1
   exact Option.some.inj h1
  exact item_listR pl.isList h0 (by omega) (by rw [hj];simpa using ew) fin hs
 ·have hj:(i+(its.toArray.size:Int)).toNat=j:=by
   rw [seqIndex_neg (by omega) h4] at h1
   rw [List.size_toArray,←hl]
   exact Option.some.inj h1
  exact subscriptTail_builtinR (x:=w) pl.isList.typeIs slot_list_getitem.lookup
   (wpAny_getItem_list_neg (Q:=fun r s'=>r=w∧EP X pins σ Q r s') pl.isList (by omega) (by rw [List.size_toArray] <;> omega) (by omega) (by rw [hj];simpa using ew) ⟨rfl,fin⟩) hs
theorem a1a:IxR X (rIxT X.K):=by
 intro value slice pins s σ H x y v u Q I rx ry h hs
 obtain ⟨p,xs,i,z,rfl,rfl,hq,he,q⟩:=h
 cases rx
 obtain ⟨t,rfl⟩:=ry
 obtain ⟨its,r,pl,hz⟩:=I.tuple hq
 obtain ⟨j,h1,h2,h3,h4,h5⟩:=a8b he
 obtain ⟨w,ew,rw'⟩:=r.get h2
 have hl:=r.length
 have hn:=a6n
 have fin:EP X pins σ Q w s:=⟨z,H,I,rw',q⟩
 exact subscriptTail_builtinR (x:=w) pl.typeIs slot_tuple_getitem.lookup
  (getItem_tuple (j:=j) (Q:=fun r s'=>r=w∧EP X pins σ Q r s') pl (by omega) (by omega) (by rw [List.size_toArray,←hl];exact h1) (by simpa using ew) ⟨rfl,fin⟩) hs
def rIx (K:PySem.W.Frag):R2:=fun x y H Q=>rIxL K x y H Q∨rIxT K x y H Q∨rIxS x y H Q
theorem a7c (its:List Value) (n j:Nat) (u:Value):Obj.mapSeq (·.setIfInBounds j u) { cls:=.type "list",data:=.seq its.toArray n }={ cls:=.type "list",data:=.seq (its.set j u).toArray n }:=by
 simp [Obj.mapSeq]
theorem Inv.lst {pins:List (Addr × Obj)} {σ:St} {H:Hp} {s:Shared} {p:Addr} {xs:List V} (I:Inv X pins σ H s) (h:H p=some (.lst xs)) :
  ∃ (its:List Value) (n:Nat),a0K xs its∧s.heap.get? p=some { cls:=.type "list",data:=.seq its.toArray n }∧xs.length≤sizeLine:=by
 obtain ⟨z,its,n,r,e⟩:=I.hok p _ h
 exact ⟨its,n,r,e,z⟩
theorem Inv.lstUpd {pins:List (Addr × Obj)} {σ:St} {H:Hp} {s:Shared} {p:Addr} {xs ys:List V} {its its':List Value} {n n':Nat} {f:Obj→Obj} (I:Inv X pins σ H s) (h:H p=some (.lst xs))
  (ho:s.heap.get? p=some { cls:=.type "list",data:=.seq its.toArray n }) (hf:f { cls:=.type "list",data:=.seq its.toArray n }={ cls:=.type "list",data:=.seq its'.toArray n' }) (r:a0K ys its') (hz:ys.length≤sizeLine) (t:Nat) :
  Inv X pins σ (upd H p (.lst ys)) { s with heap:=s.heap.update p f,toks:=t }:=by
 have e:(s.heap.update p f).get? p=some { cls:=.type "list",data:=.seq its'.toArray n' }:=by
  rw [Heap.get?_update_self f ho (by rw [hf] <;> rfl),hf]
 refine I.write (x:=p) (e:=p) (by rw [h];trivial) (.inl rfl) (fun b u hb q=>(Heap.get?_update_other _ _ (Ne.symm hb)).trans q) ⟨_,e⟩ ?_
 exact ⟨hz,its',n',r,e⟩
def rSetL:V→V→V→Hp→(Hp→Prop)→Prop:=fun o i v H Q=>∃ p xs k j,o=.ref p∧i=.int k∧H p=some (.lst xs)∧ixN xs.length k=some j∧Q (upd H p (.lst (xs.set j v)))
theorem a1A:PSet X rSetL:=by
 intro pins s σ H o i v ov iv u Q I ro ri rv h
 obtain ⟨p,xs,k,j,rfl,rfl,hp,hj,q⟩:=h
 cases ro
 obtain ⟨t,rfl⟩:=ri
 obtain ⟨its,n,r,ho,hz⟩:=I.lst hp
 obtain ⟨h1,h2,h3,h4⟩:=a5C hj
 have hl:=r.length
 have hn:=a6n
 have I':Inv X pins σ (upd H p (.lst (xs.set j v))) { s with heap:=s.heap.update p (Obj.mapSeq (·.setIfInBounds j u)) } :=
  I.lstUpd hp ho (a7c its n j u) (r.set rv j) (by rw [List.length_set];exact hz) s.toks
 by_cases h0:0≤k
 ·have hk:k.toNat=j:=by
   rw [seqIndex_of h0 h4] at h1
   exact Option.some.inj h1
  exact PySem.W.ki_setAt ho h0 (by omega) (by rw [List.size_toArray,←hl];exact h4) (by rw [hk];exact ⟨_,I',q⟩)
 ·have hk:(k+(its.toArray.size:Int)).toNat=j:=by
   rw [seqIndex_neg (by omega) h3] at h1
   rw [List.size_toArray,←hl]
   exact Option.some.inj h1
  exact PySem.W.ki_setBack ho (by omega) (by rw [List.size_toArray,←hl];exact h3) (by omega) (by rw [hk];exact ⟨_,I',q⟩)
def rSlL (K:PySem.W.Frag):V→Option Int→Option Int→Hp→VK→Prop:=fun x lo hi H Q=>∃ a xs,x=.ref a∧SqL K H a xs∧∀ p,H p=none→Q (.ref p) (upd H p (.lst (a8a xs lo hi)))
def flatV:V→Bool
 | .non=>true
 | .bl _=>true
 | .int _=>true
 | .str _=>true
 | _=>false
def eqV:V→V→Bool
 | .non,.non=>true
 | .bl a,.bl b=>a == b
 | .bl a,.int b=>(if a then 1 else 0) == b
 | .int a,.bl b=>a == (if b then 1 else 0)
 | .int a,.int b=>a == b
 | .str a,.str b=>a == b
 | _,_=>false
def eqU (x:V) (u:Value):Bool:=match u with
 | .none=>eqV .non x
 | .bool b=>eqV (.bl b) x
 | .int i _=>eqV (.int i) x
 | .str z _=>eqV (.str z) x
 | _=>false
def inV (x:V) (xs:List V):Bool:=xs.any fun y=>eqV y x
def rIn (K:PySem.W.Frag) (neg:Bool):R2:=fun x y H Q=>∃ p xs,y=.ref p∧(SqL K H p xs∨SqT K H p xs)∧flatV x=true∧xs.all flatV=true∧Q (.bl (if neg then !inV x xs else inV x xs)) H
theorem a0i:a2w X (.builtin "len") (fun xs H Q=>∃ p ys,xs=[.ref p]∧(SqL X.K H p ys∨SqT X.K H p ys)∧Q (.int ys.length) H):=by
 intro pins s σ H xs us Q I r h
 obtain ⟨p,ys,rfl,hq,q⟩:=h
 obtain ⟨u,rfl,rx⟩:=a4p r
 cases rx
 have hn:=a6n
 rcases hq with hq | hq
 ·obtain ⟨its,r',pl,hz⟩:=I.list hq
  have hlen:=r'.length
  exact Calls.call_len_list pl.isList (by simp only [List.size_toArray] <;> omega) ⟨.int ys.length,H,I.tok _,⟨s.toks+1,by rw [List.size_toArray,hlen]⟩,q⟩
 ·obtain ⟨its,r',pl,hz⟩:=I.tuple hq
  have hlen:=r'.length
  exact len_tuple pl (by simp only [List.size_toArray] <;> omega) ⟨.int ys.length,H,I.tok _,⟨s.toks+1,by rw [List.size_toArray,hlen]⟩,q⟩
theorem a4V:a2w X (.type "list") (fun xs H Q=>∃ p ys,xs=[.ref p]∧(SqL X.K H p ys∨SqT X.K H p ys)∧∀ l,H l=none→Q (.ref l) (upd H l (.lst ys))):=by
 intro pins s σ H xs us Q I r h
 obtain ⟨p,ys,rfl,hq,q⟩:=h
 obtain ⟨u,rfl,rx⟩:=a4p r
 cases rx
 have fin:∀ (its:List Value),a0K ys its→ys.length≤sizeLine→∀ (h':Heap) (c':Nat),(∀ b o',s.heap.get? b=some o'→h'.get? b=some o') →
   h'.get? s.heap.objs.size=some { cls:=.type "list",dict:=none,data:=.seq its.toArray c',slots:=#[] }→EP X pins σ Q (.ref s.heap.objs.size) { s with heap:=h' }:=fun its r' hz h' c' kp e =>
  ⟨.ref s.heap.objs.size,_,I.laid (t':=s.toks) kp (Nat.le_refl _) (show a1d X.prog X.w _ h' _ (.lst ys) from ⟨hz,its,c',r',e⟩),rfl,q _ (I.hok.fresh (Nat.le_refl _))⟩
 rcases hq with hq | hq
 ·obtain ⟨its,r',pl,hz⟩:=I.list hq
  have hlen:=r'.length
  obtain ⟨o,ho,hc,n,hd⟩:=pl.isList
  exact call_list_seq p (.inl rfl) ho hc hd (fun h' c' kp e=>fin its r' hz h' c' kp e) (by simp only [List.size_toArray] <;> omega)
 ·obtain ⟨its,r',pl,hz⟩:=I.tuple hq
  have hlen:=r'.length
  obtain ⟨o,ho,hc,n,hd⟩:=pl
  exact call_list_seq p (.inr rfl) ho hc hd (fun h' c' kp e=>fin its r' hz h' c' kp e) (by simp only [List.size_toArray] <;> omega)
theorem a1u:a2w X (.type "tuple") (fun xs H Q=>∃ p ys,xs=[.ref p]∧((SqL X.K H p ys∧∀ l,H l=none→Q (.ref l) (upd H l (.tup ys)))∨(SqT X.K H p ys∧Q (.ref p) H))):=by
 intro pins s σ H xs us Q I r h
 obtain ⟨p,ys,rfl,h⟩:=h
 obtain ⟨u,rfl,rx⟩:=a4p r
 cases rx
 rcases h with ⟨hq,q⟩ | ⟨hq,q⟩
 ·obtain ⟨its,r',pl,hz⟩:=I.list hq
  have hlen:=r'.length
  refine call_tuple_list pl.isList (fun h' kp=>?_) (by simp only [List.size_toArray] <;> omega)
  have I1:Inv X pins σ H { s with heap:=h' }:=I.kept (t':=s.toks) kp
  have I2:Inv X pins σ (upd H h'.objs.size (.tup ys)) { s with heap:=h'.push { cls:=.type "tuple",data:=.seq its.toArray } } :=
   I1.laid (t':=s.toks) (fun b o e=>Heap.get?_push_of_some _ e) (Nat.le_refl _) (show a1d X.prog X.w _ _ _ (.tup ys) from ⟨hz,its,r',a4M.new _ _⟩)
  exact ⟨.ref h'.objs.size,_,I2,rfl,q _ (I1.hok.fresh (Nat.le_refl _))⟩
 ·obtain ⟨its,r',pl,hz⟩:=I.tuple hq
  exact call_tuple_same pl ⟨.ref p,H,I,rfl,q⟩
def tyV (K:PySem.W.Frag) (T:String) (x:V) (H:Hp):Prop:=match x with
 | .str _=>T="str"
 | .int _=>T="int"
 | .ref p=>(T="list"∧∃ xs,SqL K H p xs)∨(T="tuple"∧∃ o,K.lookup p=some o∧o.cls=.type "tuple"∧o.dict=none) ∨
   (T="dict"∧((∃ kvs,H p=some (.dK kvs))∨∃ kvs,H p=some (.dT kvs)))∨(T="set"∧∃ S n,H p=some (.set S n))
 | _=>False
theorem tyV_is {pins:List (Addr × Obj)} {σ:St} {H:Hp} {s:Shared} {T:String} {x:V} {v:Value} (I:Inv X pins σ H s) (r:a0U x v) (ty:tyV X.K T x H) :
  s.TypeIs v T∧∀ a,v=.ref a→∃ ob,s.heap.get? a=some ob∧ob.dict=none:=by
 cases x with
 | str z =>
  obtain ⟨t,rfl⟩:=r
  cases (show T="str" from ty)
  exact ⟨typeIs_str s z t,fun _ e=>nomatch e⟩
 | int i =>
  obtain ⟨t,rfl⟩:=r
  cases (show T="int" from ty)
  exact ⟨typeIs_int s i t,fun _ e=>nomatch e⟩
 | ref p =>
  cases r
  rcases ty with ⟨rfl,xs,hq⟩ | ⟨rfl,o,hk,hc,hd⟩ | ⟨rfl,hk⟩ | ⟨rfl,S,n,hk⟩
  ·obtain ⟨its,_,pl,_⟩:=I.list hq
   refine ⟨pl.isList.typeIs,fun a e=>?_⟩
   cases e
   obtain ⟨o,n,e,c,hd,_⟩:=pl
   exact ⟨o,e,hd⟩
  ·refine ⟨⟨o,I.kIn p o hk,hc⟩,fun a e=>?_⟩
   cases e
   exact ⟨o,I.kIn _ o hk,hd⟩
  ·have z:∃ o,s.heap.get? p=some o∧o.ExactDict:=by
    rcases hk with ⟨kvs,hk⟩ | ⟨kvs,hk⟩
    ·obtain ⟨_,_,_,_,o,_,_,e,ex,_⟩:=I.hok p _ hk
     exact ⟨o,e,ex⟩
    ·obtain ⟨_,_,_,_,o,_,_,e,ex,_⟩:=I.hok p _ hk
     exact ⟨o,e,ex⟩
   obtain ⟨o,e,ex⟩:=z
   refine ⟨⟨o,e,ex.1⟩,fun a e2=>?_⟩
   cases e2
   exact ⟨o,e,ex.2.1⟩
  ·obtain ⟨o,_,_,_,e,ex,_⟩:=I.hok p _ hk
   refine ⟨⟨o,e,ex.1⟩,fun a e2=>?_⟩
   cases e2
   exact ⟨o,e,ex.2.1⟩
 | _=>exact False.elim ty
def tBM (K:PySem.W.Frag) (T:String) (r:V→List V→Hp→VK→Prop) (to:TE) (t:TA):TE:=fun σ H Q=>to σ H fun x H1=>tyV K T x H1∧t σ H1 fun xs H2=>r x xs H2 Q
variable {o e:Expr} {es:List Expr} {to:TE} {t:TA} {name:Str} {apos cpos:Pos} {T id:String} {r:V→List V→Hp→VK→Prop}
theorem a4W (pa:PlainAttrs T) (slot:Slot T name id) (hty:typeOf (.builtin id)=pure (.type "method_descriptor")) (hm:MtR X id r) (ho:PE X o to) (ha:PA X (e :: es) t)
  (hbase:attributeBase o name X.env (eval o X.env)=eval o X.env:=by rfl)
  (hfew:((backTo cpos (starEach (e :: es) X.env)).all (fun x=>!x.1) && (backToKw cpos (keywordEach [] X.env)).all (fun x=>x.1.isSome)
   && decide ((e :: es).length+([]:List Keyword).length+(if ([]:List Keyword).isEmpty then 0 else 1) < 30))=true:=by rfl)
  (hline:(apos.endLine == cpos.line)=true:=by rfl) (hs:starEach (e :: es) X.env=(false,eval e X.env) :: starEach es X.env:=by rfl) (hplain:(backTo cpos (starEach es X.env)).any (·.1)=false:=by rfl) :
  PE X (.Call (.Attribute o name apos) (e :: es) [] cpos) (tBM X.K T r to t):=by
 intro pins s σ H Q I h
 refine wpAny_Call_method_late hbase hfew hline rfl (thn (ho pins s σ H _ I h) fun v s1 ⟨x,H1,I1,r1,ty,q1⟩=>?_)
 obtain ⟨h1,h2⟩:=tyV_is I1 r1 ty
 refine ⟨T,id,pa,slot,hty,h1,h2,?_⟩
 have hA:=ha cpos pins s1 σ H1 _ I1 q1
 rw [hs] at hA ⊢
 refine Calls.callWith_builtin (by show (false || (backTo cpos (starEach es X.env)).any (·.1))=false;rw [hplain] <;> rfl) (Calls.evalArgs_plain ?_)
 exact thn hA fun us s2 ⟨vs,H2,I2,r2,q2⟩=>hm pins s2 σ H2 x vs v us Q I2 r1 r2 q2
end
def MtM (X:Cx) (id:String) (r:V→List V→Hp→VK→Prop):Prop :=
 ∀ (pins:List (Addr × Obj)) (s:Shared) (σ:St) (H:Hp) (x:V) (xs:List V) (v:Value) (us:List Value) (Q:VK),Inv X pins σ H s→a0U x v→a0K xs us→r x xs H Q →
  wpAny (model X.prog X.w) X.A (call (.builtin id) (v :: us)) (EP X pins σ Q) X.xe s
theorem a0K.one:∀ {x:V} {us:List Value},a0K [x] us→∃ u,us=[u]∧a0U x u
 | _,_,.cons r .nil=>⟨_,rfl,r⟩
theorem a0K.two:∀ {x y:V} {us:List Value},a0K [x,y] us→∃ u v,us=[u,v]∧a0U x u∧a0U y v
 | _,_,_,.cons r (.cons q .nil)=>⟨_,_,rfl,r,q⟩
theorem a0K.eraseIdx:∀ {xs:List V} {us:List Value} (i:Nat),a0K xs us→a0K (xs.eraseIdx i) (us.eraseIdx i)
 | _,_,_,.nil=>.nil
 | _,_,0,.cons _ t=>t
 | _,_,i+1,.cons r t=>.cons r (a0K.eraseIdx i t)
theorem a0K.rep {xs:List V} {us:List Value} (h:a0K xs us):∀ k:Nat,a0K (List.replicate k xs).flatten (List.replicate k us).flatten
 | 0=>.nil
 | k+1=>by
  rw [List.replicate_succ,List.replicate_succ,List.flatten_cons,List.flatten_cons]
  exact a0K.append h (a0K.rep h k)
theorem a4X {α:Type}:∀ (l:List α) (i:Nat),(l.eraseIdx i).length≤l.length
 | [],_=>Nat.le_refl _
 | _ :: _,0=>Nat.le_succ _
 | _ :: r,i+1=>Nat.succ_le_succ (a4X r i)
theorem a4Y (its:List Value):∀ (k:Nat) (acc:List Value),
  List.foldl (fun x1 x2=>x1++x2) acc.toArray (List.replicate k its.toArray)=(acc++(List.replicate k its).flatten).toArray
 | 0,acc=>by simp
 | k+1,acc=>by
  have e:acc.toArray++its.toArray=(acc++its).toArray:=by simp
  have e2:(acc++its)++(List.replicate k its).flatten=acc++(List.replicate (k+1) its).flatten:=by
   rw [List.replicate_succ,List.flatten_cons,List.append_assoc]
  rw [←e2,←a4Y its k (acc++its),←e,List.replicate_succ,List.foldl_cons]
section
variable {X:Cx} {pins:List (Addr × Obj)} {σ:St} {H:Hp} {s:Shared} {l b:Addr} {xs ys zs:List V}
theorem Inv.lset {its its':List Value} {n:Nat} {f:Array Value→Array Value} {t':Nat} (I:Inv X pins σ H s) (hH:H l=some (.lst xs))
  (e:s.heap.get? l=some { cls:=.type "list",data:=.seq its.toArray n }) (hf:f its.toArray=its'.toArray) (hv:a0K ys its') (hz:ys.length≤sizeLine) :
  Inv X pins σ (upd H l (.lst ys)) { s with heap:=s.heap.update l (Obj.mapSeq f),toks:=t' }:=by
 have q:=PySem.IsL.update e f
 rw [hf] at q
 refine I.write (x:=l) (e:=l) (by rw [hH];exact trivial) (.inl rfl) (fun b' u hb hu=>(Heap.get?_update_other s.heap (Obj.mapSeq f) (Ne.symm hb)).trans hu) ⟨_,q⟩ ?_
 exact ⟨hz,its',_,hv,q⟩
theorem Inv.lnew {its:List Value} {t':Nat} (I:Inv X pins σ H s) (hv:a0K ys its) (hz:ys.length≤sizeLine) :
  Inv X pins σ (upd H s.heap.objs.size (.lst ys)) { s with heap:=s.heap.push { cls:=.type "list",data:=.seq its.toArray },toks:=t' } :=
 I.laid (fun _ _ q=>Heap.get?_push_of_some _ q) (Nat.le_refl _) ⟨hz,its,0,hv,Heap.get?_push_size _ rfl⟩
theorem Inv.fresh (I:Inv X pins σ H s):H s.heap.objs.size=none:=I.hok.fresh (Nat.le_refl _)
theorem Inv.lstM (I:Inv X pins σ H s) (hH:H l=some (.lst xs)):xs.length≤sizeLine∧∃ (its:List Value) (n:Nat),a0K xs its∧xs.length=its.length∧s.heap.get? l=some { cls:=.type "list",data:=.seq its.toArray n }:=by
 obtain ⟨z,its,n,r,e⟩:=I.hok l _ hH
 exact ⟨z,its,n,r,r.length,e⟩
theorem a6q {n:Nat} (h:n≤sizeLine):Builtin.List.listTooLong n=false:=by
 unfold Builtin.List.listTooLong
 exact decide_eq_false (by omega)
end
section
variable {X:Cx}
def b2d:V→List V→Hp→VK→Prop:=fun x vs H Q=>∃ l xs y,x=.ref l∧vs=[y]∧H l=some (.lst xs)∧xs.length < sizeLine∧Q .non (upd H l (.lst (xs++[y])))
theorem a1U:MtM X "list.append" b2d:=by
 intro pins s σ H x vs v us Q I rx rv h
 obtain ⟨l,xs,y,rfl,rfl,hH,hz,q⟩:=h
 cases rx
 obtain ⟨u,rfl,ru⟩:=rv.one
 obtain ⟨z,its,n,r,hl,e⟩:=I.lstM hH
 refine call_meets F.slot_list_append ⟨_,e,rfl⟩ F.entry_list_append (F.args_list_append_2 _ _) (PySem.list_append l its.toArray n u (by rw [List.size_toArray];omega)) ⟨e,?_⟩
 refine ⟨.non,_,I.lset (its':=its++[u]) hH e (by simp) (r.append (.cons ru .nil)) ?_,rfl,q⟩
 rw [List.length_append,List.length_singleton]
 omega
def b2e:V→List V→Hp→VK→Prop:=fun x vs H Q=>∃ l b xs zs,x=.ref l∧vs=[.ref b]∧H l=some (.lst xs)∧H b=some (.lst zs)∧xs.length+zs.length≤sizeLine∧Q .non (upd H l (.lst (xs++zs)))
theorem a4Z:MtM X "list.extend" b2e:=by
 intro pins s σ H x vs v us Q I rx rv h
 obtain ⟨l,b,xs,zs,rfl,rfl,hH,hB,hz,q⟩:=h
 cases rx
 obtain ⟨u,rfl,ru⟩:=rv.one
 cases ru
 obtain ⟨z,its,n,r,hl,e⟩:=I.lstM hH
 obtain ⟨z2,its2,n2,r2,hl2,e2⟩:=I.lstM hB
 have hsz:its.toArray.size+its2.toArray.size≤sizeLine:=by rw [List.size_toArray,List.size_toArray];omega
 have hlong:¬ (!its.toArray.isEmpty && Builtin.List.listTooLong (its.toArray.size+its2.toArray.size))=true:=by
  rw [a6q hsz,Bool.and_false]
  exact Bool.false_ne_true
 refine call_meets F.slot_list_extend ⟨_,e,rfl⟩ F.entry_list_extend (F.args_list_extend_2 _ _)
  (AutoSeq1.list_extend_list_list_0 l its.toArray n b its2.toArray n2 hlong (by rw [List.size_toArray];omega) (by omega)) ⟨e,e2,?_⟩
 refine ⟨.non,_,I.lset (its':=its++its2) hH e (by simp) (r.append r2) ?_,rfl,q⟩
 rw [List.length_append]
 omega
def rPopAt:V→List V→Hp→VK→Prop:=fun x vs H Q=>∃ l xs i k y,x=.ref l∧vs=[.int i]∧H l=some (.lst xs)∧-(2 ^ 63)≤i∧i < 2 ^ 63∧seqIndex? i xs.length=some k∧xs[k]?=some y∧Q y (upd H l (.lst (xs.eraseIdx k)))
theorem a9N:MtM X "list.pop" rPopAt:=by
 intro pins s σ H x vs v us Q I rx rv h
 obtain ⟨l,xs,i,k,y,rfl,rfl,hH,h1,h2,hk,hy,q⟩:=h
 cases rx
 obtain ⟨u,rfl,ru⟩:=rv.one
 obtain ⟨t,rfl⟩:=ru
 obtain ⟨z,its,n,r,hl,e⟩:=I.lstM hH
 obtain ⟨w,hw,rw'⟩:=r.get hy
 refine call_meets F.slot_list_pop ⟨_,e,rfl⟩ F.entry_list_pop (F.args_list_pop_2 _ _)
  (MeetsSeq.list_pop_at l its.toArray n i t k w (fitsIndex_both h1 h2) (by rw [List.size_toArray,←hl];exact hk) (by rw [←Array.getElem?_toList];exact hw) (by rw [List.size_toArray];omega)) ⟨e,?_⟩
 refine ⟨y,_,I.lset (its':=its.eraseIdx k) hH e ?_ (r.eraseIdx k) ?_,rw',q⟩
 ·show its.toArray.eraseIdxIfInBounds k=(its.eraseIdx k).toArray
  rw [List.eraseIdxIfInBounds_toArray]
 ·have:=a4X xs k
  omega
def rCat:R2:=fun x y H Q=>∃ l b xs zs,x=.ref l∧y=.ref b∧H l=some (.lst xs)∧H b=some (.lst zs)∧xs.length+zs.length≤sizeLine∧∀ p,H p=none→Q (.ref p) (upd H p (.lst (xs++zs)))
theorem b1h:OpR X (binaryOp .Add) rCat:=by
 intro pins s σ H x y v u Q I rx ry h
 obtain ⟨l,b,xs,zs,rfl,rfl,hH,hB,hz,q⟩:=h
 cases rx
 cases ry
 obtain ⟨z,its,n,r,hl,e⟩:=I.lstM hH
 obtain ⟨z2,its2,n2,r2,hl2,e2⟩:=I.lstM hB
 refine PySem.P.add_list e e2 ?_ (by rw [List.size_toArray,List.size_toArray];omega)
 have ea:its.toArray++its2.toArray=(its++its2).toArray:=by simp
 rw [ea]
 exact ⟨.ref _,_,I.lnew (t':=s.toks) (r.append r2) (by rw [List.length_append];omega),rfl,q _ I.fresh⟩
def rRep:R2:=fun x y H Q=>∃ l k xs,x=.ref l∧y=.int k∧H l=some (.lst xs)∧-(2 ^ 63)≤k∧k < 2 ^ 63∧xs.length * k.toNat≤sizeLine ∧
 ∀ p,H p=none→Q (.ref p) (upd H p (.lst (List.replicate k.toNat xs).flatten))
theorem b2f {α:Type} (xs:List α) (k:Nat):(List.replicate k xs).flatten.length=k * xs.length:=by
 induction k with
 | zero=>simp
 | succ k ih=>rw [List.replicate_succ,List.flatten_cons,List.length_append,ih,Nat.succ_mul,Nat.add_comm]
theorem b1i:OpR X (binaryOp .Mult) rRep:=by
 intro pins s σ H x y v u Q I rx ry h
 obtain ⟨l,k,xs,rfl,rfl,hH,h1,h2,hz,q⟩:=h
 cases rx
 obtain ⟨t,rfl⟩:=ry
 obtain ⟨z,its,n,r,hl,e⟩:=I.lstM hH
 have hlen:its.toArray.size * k.toNat≤sizeLine:=by rw [List.size_toArray,←hl];exact hz
 have hcap:¬ its.toArray.size * k.toNat > (2 ^ 63 - 1) / 8:=by
  have:(sizeLine:Nat)≤(2 ^ 63 - 1) / 8:=by decide
  omega
 have hfit:¬ (!Builtin.List.listFitsIndex k)=true:=by
  rw [fitsIndex_both h1 h2]
  exact Bool.false_ne_true
 have hlong:¬ Builtin.List.listTooLong (its.toArray.size * k.toNat)=true:=by
  rw [a6q hlen]
  exact Bool.false_ne_true
 have hnew:List.foldl (fun x1 x2=>x1++x2) #[] (List.replicate (if its.toArray.isEmpty=true then 0 else k.toNat) its.toArray)=(List.replicate k.toNat its).flatten.toArray:=by
  have f0:∀ m:Nat,List.foldl (fun x1 x2=>x1++x2) #[] (List.replicate m its.toArray)=(List.replicate m its).flatten.toArray:=fun m=>by
   have:=a4Y its m []
   rw [List.nil_append] at this
   exact this
  rw [f0]
  cases its with
  | nil=>simp
  | cons a r'=>rw [if_neg (by simp)]
 refine wpAny_binaryOp_repeat_ref (T:="list") (U:="int") (by decide) ⟨_,e,rfl⟩ (fun s'=>typeIs_int s' k t) noFill_list_mul F.fills_int_mul F.slot_int_rmul repeat_list F.slot_int_index.lookup
  (call_meets F.slot_int_rmul (typeIs_int s k t) F.entry_int_rmul (F.args_int_rmul_2 _ _) (int___rmul___int_list k t l its.toArray n)
   ⟨e,rfl,⟨_,e,rfl⟩,call_meets F.slot_list_mul ⟨_,e,rfl⟩ F.entry_list_mul (F.args_list_mul_2 _ _) (AutoListH.list___mul___list_int_3 l its.toArray n k t hfit hcap hlong) ⟨e,?_⟩⟩)
 rw [hnew]
 exact ⟨.ref _,_,I.lnew (t':=s.toks) (r.rep k.toNat) (by rw [b2f,Nat.mul_comm];exact hz),rfl,q _ I.fresh⟩
end
section
variable {prog:Program} {w:World} {A:Around} {E:Value→Shared→Prop} {s:Shared}
end
section
variable {X:Cx}
end
end L2
namespace Att
open PySem PySem.W PySem.Calls PyProof.Rows
theorem a3n {P:Params} {h:Heap}:∀ (ns:List Int) (vs:List Value),WellAll P h vs (ns.map WData.int)→IntsAre vs ns:=by
 intro ns
 induction ns with
 | nil =>
  intro vs w
  rw [List.map_nil] at w
  cases w
  exact .nil
 | cons n ns ih =>
  intro vs w
  rw [List.map_cons] at w
  cases w with
  | cons a b =>
   cases a
   exact .cons _ _ (ih _ b)
theorem a8c {l:OpenLaw} {n:Nat} (hn:l.most=some n) {P:Params} {h:Heap} {args:List WData} {vals:List Value}
  (hpre:l.row.toRowW.claim.pre args=true) (hwl:WellAll P h vals args) :
  ∃ a vs ns,vals=[Value.ref a]∧args=[WData.list (ns.map WData.int)]∧h.get? a=some { cls:=.type "list",data:=.seq vs.toArray }∧IntsAre vs ns∧ns.length≤n:=by
 have hsh:WShape.hasAll [] args [.list .int]=true:=(pre_splitW hpre).1
 have hc:l.pre.holds [] { args:=args }=true:=(pre_splitW hpre).2
 obtain ⟨d,r,rfl,h1,h2⟩:=hasAllW_cons hsh
 obtain rfl:=hasAllW_nil h2
 obtain ⟨xs,rfl,h3⟩:=hasW_list h1
 obtain ⟨ns,rfl⟩:=items_int h3
 have hlen:ns.length≤n:=by
  unfold OpenLaw.pre at hc
  have h4:(WTm.not (.lt (.lit (.int (n:Int))) (.len (.arg 0)))).holds [] { args:=[.list (ns.map .int)] }=true:=by
   have h4:=(holds_andW hc).1
   rw [hn] at h4
   exact h4
  have h5:=condW_of h4 (w_not (w_lt w_lit (w_len_list (w_arg rfl))))
  rw [List.length_map] at h5
  refine Nat.le_of_not_lt fun q=>?_
  have q':(n:Int) < ((ns.length:Nat):Int):=by omega
  first
   | (rw [decide_eq_true q'] at h5;exact absurd h5 (by decide))
   | (simp at h5;omega)
 cases hwl with
 | cons w1 w2 =>
  cases w2
  cases w1 with
  | list ho hall=>exact ⟨_,_,ns,rfl,rfl,ho,a3n ns _ hall,hlen⟩
theorem a8d (l:OpenLaw) (args:List WData):l.row.toRowW.claim.post args (.bool true) args=true :=
 postW_of (r:=l.row.toRowW) (X:=(true == true))
  (show WShape.has [] (.bool true) .bool=true by first | rfl | decide | simp [WShape.has,WShape.arms,WShape.armsAll])
  (show (WTm.eq .res (.lit (.bool true))).value [] { args:=args,res:=some (.bool true),after:=args }=some (.bool (true == true)) from w_eq_bool (w_res rfl) w_lit) rfl
theorem a5D {l:OpenLaw} {n:Nat} {q:Program} {loose:List Str} {XP:(Str→Option Value)→Heap→Prop} {YP:World→Heap→Prop} {d:DefRec}
  (hn:l.most=some n) (hdf:d.params.defaults=[])
  (call:∀ (w:World) (s₀ s₁:Shared) (mg mb:Str→Option Value) (fa:Addr) (o:Obj) (pm cd doc:Value) (a:Addr) (vs:List Value) (ns:List Int),
   Ground q loose [] XP w s₀ mg mb s₁.heap→YP w s₁.heap →
   s₁.heap.get? fa=some o→o.data=.func (docDef d.name d.params d.body d.scope pm cd doc)→s₁.heap.CodeRec cd d.name→mg d.name=some (.ref fa) →
   s₁.heap.get? a=some { cls:=.type "list",data:=.seq vs.toArray }→IntsAre vs ns→ns.length≤n→s₁.gens=#[] →
   codeAny (model l.prog w) callerA (.call (.ref fa) ⟨[.ref a],[]⟩) (fun r s'=>r=.ok (.ret (.bool true))∧OldK s₁.heap s'.heap∧s'.os=s₁.os∧AllBare s'.gens) s₁) :
  WalkO q loose XP YP l.row.toRowW d [] (fun f vs=>PySem.call f vs):=by
 intro w s₀ s₁ mg mb G Y fa o pm cd doc dV kV ho hd hcd hD hmg hg args vals as hpre hlay hrd hwl hlo
 obtain rfl:dV=.none:=Dflts.none hD hdf
 obtain rfl:kV=.none:=Dflts.noKw hD
 obtain ⟨a,vs,ns,rfl,rfl,hobj,hints,hlen⟩:=a8c hn hpre hwl
 refine enter_call (codeAny_mono (call w s₀ s₁ mg mb fa o pm cd doc a vs ns G Y ho (fd_plain hd) hcd hmg hobj hints hlen hg) fun r s' hq=>?_)
 obtain ⟨rfl,h2,h3,h4⟩:=hq
 exact ⟨.inl ⟨.bool true,.bool true,[],rfl,fun _=>rfl,.bool true,a8d l _,fun _=>⟨List.Pairwise.nil,fun _ hm=>(nomatch hm)⟩⟩,h2,h3,h4⟩
section
variable {prog:Program} {w:World} {A:Around} {E:Value→Shared→Prop} {s:Shared} {K:Frag}
def ledger (h:Heap) (L d:Addr):List (Addr × Obj):=(List.range h.objs.size).filterMap fun a=>if a=L∨a=d then none else (h.get? a).map fun o=>(a,o)
end
end Att
namespace L2
open PySem PySem.Spec PyProof.Rows
theorem a5a:∀ {vs:List Value} {ns:List Int},IntsAre vs ns→a0K (ns.map V.int) vs
 | _,_,.nil=>.nil
 | _,_,.cons n t h=>.cons ⟨t,rfl⟩ (a5a h)
def Only (H:Hp):Prop:=∀ b,H b=none∨∃ o xs,H b=some (.frz o (.lst xs))
abbrev KOf {K:PySem.W.Frag} {h:Heap} (_:K.In h):PySem.W.Frag:=K
def inClass (s:Stmt) (j:Nat):Stmt:=match s with
 | .ClassDef _ _ _ body _ _ _ _ _ _ _=>body.getD j (.Pass ⟨0,0,0,0⟩)
 | _=>.Pass ⟨0,0,0,0⟩
def a0m (s:Stmt):Arguments:=match s with
 | .FunctionDef _ a _ _ _ _ _ _ _ _=>a
 | _=>{ posonlyargs:=[],args:=[],vararg:=none,kwonlyargs:=[],kw_defaults:=[],kwarg:=none,defaults:=[] }
def a0k (s:Stmt):List Stmt:=match s with
 | .FunctionDef _ _ b _ _ _ _ _ _ _=>b
 | _=>[]
def a0b (s:Stmt):Scope:=match s with
 | .FunctionDef _ _ _ _ _ _ sc _ _ _=>sc
 | _=>{ kind:=.function,names:=[],isGenerator:=false,isCoroutine:=false }
abbrev CX0:CXT:=fun _ _ _ _ _ _=>False
abbrev E0:XK:=fun _ _ _=>False
theorem a0C {X:Cx}:a1R CX0 X E0:=fun _ _ _ _ _ _ _ h=>h.elim
structure Fun (K:PySem.W.Frag) (x qual:Str) (st:Stmt) (f:Addr) (fd:FuncData):Prop where
 ex:∃ (oc:Value) (od:Option Addr) (kV doc pm:Value) (an:Option Addr) (cdv ct:Value) (osl:Array (Option Value)),
  fd=PySem.W.fnOf x qual (a0m st) (a0k st) (a0b st) .none kV doc pm an cdv ct∧K.lookup f=some ⟨oc,od,.func fd,osl⟩∧PySem.W.codeIn K cdv qual=true
 kp:PySem.W.keepIn K (.ref f)=true
section
variable {P:Program} {w:World} {K:PySem.W.Frag} {mg:Str→Option Value} {base:Heap}
theorem Fun.ok {x qual:Str} {st:Stmt} {f:Addr} {fd:FuncData} {N ps:List Str} {k:Nat} {sp:Sp} (F:Fun K x qual st f fd) (S:a0n N ps (a0b st)) (len:∀ vs H Q E,sp vs H Q E→vs.length=ps.length)
  (hbody:∀ (cdv:Value) (A:Around) (outer:List Env) (s:Shared) (H:Hp) (vs:List V) (Q:VK) (E:XK),a1Q k (A.deeper (envOfC qual (a0b st) s.heap.objs.size f cdv))→sp vs H Q E →
   ∃ t,PSs (a5v CX0 P w K mg base N qual (a0b st) f cdv A outer s H E).nox (a0k st) t∧t { nx:=fun _ H'=>Q .non H',rt:=Q } (start N vs) H):a0O P w K mg base CX0 (k+1) f fd ps sp:=by
 obtain ⟨oc,od,kV,doc,pm,an,cdv,ct,osl,rfl,lk,hcd⟩:=F.ex
 refine b1Y lk hcd S len fun A outer s H vs Q E hr hsp=>?_
 obtain ⟨t,h,q⟩:=hbody cdv A outer s H vs Q E hr hsp
 exact ⟨t,h.nox,q⟩
theorem Fun.binds {x qual:Str} {st:Stmt} {f:Addr} {fd:FuncData} {ps:List Str} (F:Fun K x qual st f fd)
  (h:∀ (kV doc pm:Value) (an:Option Addr) (cdv ct:Value) (us:List Value),us.length=ps.length→bindArgs (PySem.W.fnOf x qual (a0m st) (a0k st) (a0b st) .none kV doc pm an cdv ct) ⟨us,[]⟩=pure (ps.zip us)):a1E K fd ps []:=by
 obtain ⟨oc,od,kV,doc,pm,an,cdv,ct,osl,rfl,lk,hcd⟩:=F.ex
 exact .all (h kV doc pm an cdv ct)
theorem a0u {x qual:Str} {st:Stmt} {f:Addr} {oc:Value} {od an:Option Addr} {osl:Array (Option Value)} {kV doc pm cdv ct:Value} (l:K.lookup f=some ⟨oc,od,.func (PySem.W.fnOf x qual (a0m st) (a0k st) (a0b st) .none kV doc pm an cdv ct),osl⟩)
  (c:PySem.W.codeIn K cdv qual=true) (k:PySem.W.keepIn K (.ref f)=true):Fun K x qual st f (PySem.W.fnOf x qual (a0m st) (a0k st) (a0b st) .none kV doc pm an cdv ct):=⟨⟨oc,od,kV,doc,pm,an,cdv,ct,osl,rfl,l,c⟩,k⟩
end
theorem a0s {n:Nat} (h:n≤1000):n < sizeLine:=Nat.lt_of_le_of_lt h (by decide)
section
variable {X:Cx}
theorem pv (i:Nat) {x:Str} {pos:Pos} (hN:X.N[i]?=some x:=by rfl) (hv:Vis X.env.scope x:=by first | exact Or.inl rfl | exact Or.inr (Or.inl rfl) | exact Or.inr (Or.inr rfl)) (hd:(x == ("__debug__":Str))=false:=by decide)
  (hcd:(x == ("__classdict__":Str))=false:=by decide):PE X (.Name x pos) (tVar i):=b1c hN hv hd hcd
end
theorem iteF {A B:Prop} (h:B):if false=true then A else B:=by
 rw [if_neg Bool.false_ne_true]
 exact h
theorem b2g {A B:Prop} (h:A):if true=true then A else B:=by
 rw [if_pos rfl]
 exact h
theorem a1C {c A B:Prop} [Decidable c] (h1:c→A) (h2:¬ c→B):if c then A else B:=by
 by_cases h:c
 ·rw [if_pos h]
  exact h1 h
 ·rw [if_neg h]
  exact h2 h
def a0x (H H':Hp):Prop:=∀ b o,H b=some o→H' b=some o
theorem a0x.refl (H:Hp):a0x H H:=fun _ _ h=>h
theorem a0x.trans {H H1 H2:Hp} (a:a0x H H1) (b:a0x H1 H2):a0x H H2:=fun c o h=>b c o (a c o h)
theorem a0x.free {H H':Hp} (e:a0x H H') {l:Addr} (h:H' l=Option.none):H l=Option.none:=by
 cases q:H l with
 | none=>rfl
 | some o =>
  rw [e l o q] at h
  cases h
theorem a0x.seq {K:PySem.W.Frag} {H H':Hp} {a:Addr} {xs:List V} (e:a0x H H') (h:SqL K H a xs):SqL K H' a xs:=by
 rcases h with (h | ⟨o,h⟩) | h
 ·exact .inl (.inl (e _ _ h))
 ·exact .inl (.inr ⟨o,e _ _ h⟩)
 ·exact .inr h
section
variable {prog:Program} {w:World} {A:Around} {R:Result→Shared→Prop} {s:Shared}
abbrev a8e (cs:List Expr) (en:Env):Sem Bool :=
 forIn cs true fun c r=>if r=true then do let ok ←isTrue c en (eval c en);pure (ForInStep.yield ok) else pure (ForInStep.yield r)
theorem a7d {elt tg iter:Expr} {cs:List Expr} {scope:Scope} {pos:Pos} {it acc:Value} {en:Env} {EE:Value→Shared→Prop} (hE:EE=notedBy (model prog w) A en fun e s'=>R (.error e) s') (J:Nat→Shared→Prop)
  (turn:∀ n s,J n s→wpAny (model prog w) A (pyNext it) (fun r s1=>match r with
   | none=>R (.ok .next) s1
   | some v=>wpAny (model prog w) A (letOwnedTupleGo tg it v) (fun _ sg=>wpAny (model prog w) A (assign tg en v) (fun _ s2=>wpAny (model prog w) A (a8e cs en) (fun ok s3 =>
     if ok=true then wpAny (model prog w) A (eval elt en) (fun y s4=>wpAny (model prog w) A (call (.builtin "list.append") [acc,y]) (fun _ s5=>∃ m,m < n∧J m s5) EE s4) EE s3
     else ∃ m,m < n∧J m s3) EE s2) EE sg) EE s1) EE s)
  (n:Nat) (h:J n s):codeAny (model prog w) A (.compLoop (.ListComp elt [⟨tg,iter,cs,0⟩] scope pos) 0 it acc en) R s:=by
 subst hE
 refine codeAny_loop rfl J (fun n s hJ=>?_) n h
 show wpAny _ A (Sem.onRaise (compTurn (.ListComp elt [⟨tg,iter,cs,0⟩] scope pos) 0 it acc en) (fun x=>do noteFrame x en;theTreesLotGoes x)) _ _ s
 refine wpAny_noted ?_
 rw [compTurn_list]
 refine wpAny_bind (wpAny_standAt (wpAny_bind (thn (turn n s hJ) fun r s1 q1=>?_)))
 cases r with
 | none=>exact wpAny_pure q1
 | some v =>
  refine wpAny_bind (thn q1 fun _ sg qg=>wpAny_bind (thn qg fun _ s2 q2=>wpAny_bind (thn q2 fun ok s3 q3=>?_)))
  cases ok with
  | false=>exact wpAny_pure ⟨rfl,q3⟩
  | true=>exact wpAny_bind (wpAny_bind (thn q3 fun y s4 q4=>wpAny_bind (thn q4 fun _ s5 q5=>wpAny_pure (wpAny_pure ⟨rfl,q5⟩))))
end
def PTs (X:Cx) (cs:List Expr) (t:TT):Prop :=
 ∀ (pins:List (Addr × Obj)) (s:Shared) (σ:St) (H:Hp) (Q:Bool→Hp→Prop),Inv X pins σ H s→t σ H Q→wpAny (model X.prog X.w) X.A (a8e cs X.env) (TP X pins σ Q) X.xe s
def a9O:TT:=fun _ H Q=>Q true H
theorem a0X {X:Cx}:PTs X [] a9O:=fun _ _ _ H _ I h=>wpAny_tests_nil ⟨H,I,h⟩
theorem a5E {X:Cx} {c:Expr} {t:TT} (h:PT X c t):PTs X [c] t:=fun pins s σ H Q I q=>wpAny_tests_one (h pins s σ H Q I q)
theorem a1V {en:Env}:∀ (names:List (Str × NameKind)) (acc:List (Str × Addr)),(∀ y,(y,NameKind.free)∈names→∃ c,en.cells.lookup y=some c) →
  (∀ y c,acc.lookup y=some c→en.cells.lookup y=some c) →
  ∃ cl,(forIn (m:=Sem) names acc fun p cs=>if (p.2 == .free)=true then (do let a ←cellOf en p.1;pure (ForInStep.yield ((p.1,a) :: cs))) else pure (ForInStep.yield cs))=pure cl ∧
   (∀ y c,cl.lookup y=some c→en.cells.lookup y=some c)∧(∀ y,((y,NameKind.free)∈names∨∃ c,acc.lookup y=some c)→∃ c,cl.lookup y=some c)
 | [],acc,_,h2=>⟨acc,rfl,h2,fun y h=>h.elim (fun z=>by simp at z) id⟩
 | (n,k) :: r,acc,h1,h2=>by
  by_cases hk:k=.free
  ·subst hk
   obtain ⟨c,hc⟩:=h1 n (by simp)
   obtain ⟨cl,e,a,b⟩:=a1V r ((n,c) :: acc) (fun y hy=>h1 y (List.mem_cons_of_mem _ hy)) (fun y d hd=>by
    rw [List.lookup_cons] at hd
    by_cases hy:y=n
    ·subst hy;simp at hd;subst hd;exact hc
    ·have:(y == n)=false:=by simpa using hy
     rw [this] at hd;exact h2 y d hd)
   refine ⟨cl,?_,a,fun y hy=>b y ?_⟩
   ·rw [List.forIn_cons]
    have e1:cellOf en n=pure c:=by unfold cellOf;rw [hc]
    simp only [beq_self_eq_true,if_true,e1,pure_bind]
    exact e
   ·rcases hy with hy | ⟨d,hd⟩
    ·rcases List.mem_cons.mp hy with z | z
     ·cases z;exact .inr ⟨c,by simp⟩
     ·exact .inl z
    ·by_cases hy:y=n
     ·subst hy;exact .inr ⟨c,by simp⟩
     ·have:(y == n)=false:=by simpa using hy
      exact .inr ⟨d,by rw [List.lookup_cons,this];exact hd⟩
  ·have hb:(k == NameKind.free)=false:=by simpa using hk
   obtain ⟨cl,e,a,b⟩:=a1V r acc (fun y hy=>h1 y (List.mem_cons_of_mem _ hy)) h2
   refine ⟨cl,?_,a,fun y hy=>b y ?_⟩
   ·rw [List.forIn_cons]
    simp only [hb,Bool.false_eq_true,if_false,pure_bind]
    exact e
   ·rcases hy with hy | hy
    ·rcases List.mem_cons.mp hy with z | z
     ·cases z;exact absurd rfl hk
     ·exact .inl z
    ·exact .inr hy
theorem a7e {scope:Scope} {en:Env} (h1:∀ y,(y,NameKind.free)∈scope.names→∃ c,en.cells.lookup y=some c) :
  ∃ cl,closureFor scope en=pure cl∧(∀ y c,cl.lookup y=some c→en.cells.lookup y=some c)∧(∀ y,(y,NameKind.free)∈scope.names→∃ c,cl.lookup y=some c):=by
 obtain ⟨cl,e,a,b⟩:=a1V (en:=en) scope.names [] h1 (fun y c h=>by simp at h)
 refine ⟨cl,?_,a,fun y hy=>b y (.inl hy)⟩
 have q:=congrArg (fun t:Sem (List (Str × Addr))=>t >>= fun c=>pure c) e
 exact q
def xeC (X:Cx) (en:Env) (C:Addr):Value→Shared→Prop :=
 notedBy (model X.prog X.w) X.A en fun e s'=>compPost (model X.prog X.w) X.A X.xe none (fun _ _=>False) Value.none C (.error e) s'
def cxC (X:Cx) (scope:Scope) (cl:List (Str × Addr)) (C:Addr) (s0:Shared) (H0:Hp) (fp:List Addr) (N:List Str):Cx where
 prog:=X.prog
 w:=X.w
 K:=X.K
 mg:=X.mg
 base:=X.base
 A:=X.A
 N:=N
 s₀:=s0
 H₀:=H0
 env:=compEnvC scope cl C X.env
 outer:=X.stack
 stack:=X.stack
 ex:=fp
 fn:=fun _=>false
 calm:=X.calm
 pn:=[]
 xe:=xeC X (compEnvC scope cl C X.env) C
structure a0q (scope:Scope) (en:Env) (N M:List Str):Prop where
 kind:scope.kind=.function
 nocell:∀ y∈scope.names,y.2≠.cell
 locs:∀ y∈scope.names,y.2=.local→scope.names.lookup y.1=some .local
 free:∀ y,(y,NameKind.free)∈scope.names→en.kindOf y=some .cell∨en.kindOf y=some .free
 len:M.length=N.length
 same:∀ (j:Nat) (y:Str),M[j]?=some y→Vis (relabel scope en) y→N[j]?=some y∧(y,NameKind.free)∈scope.names∧(relabel scope en).names.lookup y≠some .local
 relab:∀ y,((relabel scope en).names.lookup y=some .cell∨(relabel scope en).names.lookup y=some .free)→(y,NameKind.free)∈scope.names
def a7f (k:Nat) (wi:TI) (g:TG) (tc:TT) (te:TE):TE:=fun σ H Q=>wi σ H fun J H1=>∀ d,H1 d=none→∃ W:Nat→Nat→Hp→Prop,(∃ m,W 0 m (upd H1 d (.lst [])))∧∀ i m H,W i m H →
 (J.stop i H∧Q (.ref d) H)∨(J.go i H∧∃ N:Hp→Prop,(∀ H',N H'→∃ m',m' < m∧W (i+1) m' H')∧∀ x H',J.yld i H x H'→g x (List.replicate k none++σ) H' fun σ2 H2 =>
  tc σ2 H2 fun b H3=>if b=true then te σ2 H3 fun y H4=>∃ ys,H4 d=some (.lst ys)∧ys.length < sizeLine∧N (upd H4 d (.lst (ys++[y]))) else N H3)
structure Gone (X:Cx) (pins:List (Addr × Obj)) (H:Hp) (C:Addr):Prop where
 no:H C=none
 ne:C≠X.env.locals
 yg:X.s₀.heap.objs.size≤C
 cl:∀ x c,X.env.cells.lookup x=some c→c≠C
 pn:∀ p∈X.pn++pins,p.1≠C
theorem Inv.gone {X:Cx} {pins:List (Addr × Obj)} {σ:St} {H:Hp} {s:Shared} {C:Addr} {h':Heap} (I:Inv X pins σ H s) (g:Gone X pins H C) (hs:Heap.SameBut C s.heap h'):Inv X pins σ H { s with heap:=h' } :=
 I.turned (t':=s.toks) (it:=C) (fun b o hb e=>hs.extBut b o hb e) g.no g.ne (.inr g.yg) g.cl g.pn
structure Back (X Y:Cx) (pins:List (Addr × Obj)) (σ:St) (fp:List Addr) (C:Addr) (s3:Shared) (H3:Hp):Prop where
 i0:Inv X pins σ H3 s3
 fp:∀ b∈fp,(b∈X.ex∨X.s₀.heap.objs.size≤b)∧b≠X.env.locals∧(∀ x c,X.env.cells.lookup x=some c→c≠b)∧∀ p∈X.pn++pins,p.1≠b
 inv:∀ (pins':List (Addr × Obj)) (σ':St) (H':Hp) (s':Shared),Inv Y pins' σ' H' s'→Inv X pins σ H' s'∧Gone X pins H' C
theorem a4u {X:Cx} {elt tg iter:Expr} {cs:List Expr} {scope:Scope} {pos:Pos} {wi:TI} {g:TG} {tc:TT} {te:TE} {xs M:List Str} {use:Option (Value→Sem Unit)} {RR:Value→Shared→Prop} (hc:X.calm=true) (S:a0q scope X.env X.N M) (hi:PI X tg iter wi)
  (hin:∀ (cl:List (Str × Addr)) (C:Addr) (s0:Shared) (H0:Hp) (fp:List Addr) (pins:List (Addr × Obj)) (σ:St),Back X (cxC X scope cl C s0 H0 fp (xs++M)) pins σ fp C s0 H0→PG (cxC X scope cl C s0 H0 fp (xs++M)) tg g∧PTs (cxC X scope cl C s0 H0 fp (xs++M)) cs tc∧PE (cxC X scope cl C s0 H0 fp (xs++M)) elt te)
  (hg:∀ v σ H Q,g v (List.replicate xs.length none++σ) H Q→g v (List.replicate xs.length none++σ) H fun σ2 H2=>(∃ l:St,l.length=xs.length∧σ2=l++σ)∧Q σ2 H2)
  (hs:∀ x,foldedSetIterable iter X.env x=pure x) (pins:List (Addr × Obj)) (s:Shared) (σ:St) (H:Hp) (Q:VK) (I:Inv X pins σ H s) (h:a7f xs.length wi g tc te σ H Q)
  (fin:∀ (d C:Addr) (s6:Shared) (H6:Hp) (m:Str→Option Value),Q (.ref d) H6→Inv X pins σ H6 s6→s6.heap.Ns C m→Gone X pins H6 C→compPost (model X.prog X.w) X.A X.xe use RR (.ref d) C (.ok .next) s6) :
  wpAny (model X.prog X.w) X.A (comprehension (.ListComp elt [⟨tg,iter,cs,0⟩] scope pos) scope X.env (firstIterPos [⟨tg,iter,cs,0⟩] pos) (newList []) false (eval iter X.env) use) RR X.xe s:=by
 obtain ⟨cl,hcl,cl1,cl2⟩:=a7e (scope:=scope) (en:=X.env) fun y hy=>I.ok.has y (S.free y hy)
 refine wpAny_comprehension_free (use:=use) rfl hs hcl S.kind S.locs (thn (hi pins s σ H _ I h) fun v s1 h1=>thn h1 fun itv s2 h2=>?_)
 obtain ⟨it,fp,tn,J,H2,e,I2,T,st2,f2,h3⟩:=h2
 subst e
 have hf:H2 s2.heap.objs.size=none:=I2.fresh
 obtain ⟨W,⟨m0,w0⟩,turn⟩:=h3 _ hf
 refine wpAny_newObj_type (wpAny_newFunctionEnv S.nocell (by intro y hy;simp at hy) (fun h4 hns hsb=>?_) S.kind)
 have I3:Inv X pins σ (upd H2 s2.heap.objs.size (.lst [])) { s2 with heap:=s2.heap.push { cls:=.type "list",data:=.seq ([]:List Value).toArray } }:=I2.lnew (ys:=[]) (its:=[]) (t':=s2.toks) .nil (Nat.zero_le _)
 generalize hs3:({ s2 with heap:=s2.heap.push { cls:=.type "list",data:=.seq ([]:List Value).toArray } }:Shared)=s3 at I3
 generalize hH3:upd H2 s2.heap.objs.size (.lst [])=H3 at I3 w0
 have e3:s2.heap.push { cls:=.type "list",dict:=none,data:=.seq ([]:List Value).toArray }=s3.heap:=by rw [←hs3]
 dsimp only at hns hsb ⊢
 rw [e3] at hns hsb
 have old:∀ b o,s3.heap.get? b=some o→h4.get? b=some o:=fun b o e=>hsb.extBut b o (Nat.ne_of_lt (Heap.lt_size e)) (Heap.get?_push_of_some _ e)
 have keep2:∀ b o,s2.heap.get? b=some o→s3.heap.get? b=some o:=fun b o e=>by rw [←e3];exact Heap.get?_push_of_some _ e
 have lt3:∀ b∈fp,b < s3.heap.objs.size:=fun b hb=>by
  obtain ⟨o,e,_⟩:=T.obj _ _ st2 b hb
  exact Heap.lt_size (keep2 b o e)
 have n3:∀ b∈fp,H3 b=none:=fun b hb=>by
  obtain ⟨o,e,_⟩:=T.obj _ _ st2 b hb
  rw [←hH3,a0j (Nat.ne_of_lt (Heap.lt_size e))]
  exact (f2 b hb).1
 have st4:tn 0 h4:=T.keep _ _ _ st2 fun b _ o e=>old b o (keep2 b o e)
 let Y:Cx:=cxC X scope cl s3.heap.objs.size s3 H3 fp (xs++M)
 have relab:∀ y,((relabel scope X.env).names.lookup y=some .cell∨(relabel scope X.env).names.lookup y=some .free)→∃ c,cl.lookup y=some c:=fun y hy=>cl2 y (S.relab y hy)
 have Yok:Y.Ok:=by
  refine ⟨I3.ok.mod,S.kind,I3.ok.glob,I3.ok.blt,Nat.le_refl _,fun y z c h1 h2=>I3.ok.inj y z c (cl1 y c h1) (cl1 z c h2),fun y hy=>relab y hy,fun _ _ h _=>absurd (show false=true from h) (by decide),I3.ok.hd,I3.ok.frames,.inl rfl,
   fun b hb=>⟨Nat.ne_of_lt (lt3 b hb),fun y c e=>(f2 b hb).2.2.2.2.1 y c (cl1 y c e)⟩,I3.bs,Nat.le_trans I3.ok.bsz I3.sz,fun b o e hb=>?_,fun b hb z=>?_,I3.stack,I3.stkFree⟩
  ·rcases (f2 b hb).2.2.2.1 with z | z
   ·exact I3.ok.noex b o e z
   ·exact absurd (Nat.lt_of_lt_of_le (Heap.lt_size e) (Nat.le_trans I3.ok.bsz z)) (Nat.lt_irrefl _)
  ·rcases List.mem_cons.mp (I3.stkSub b z) with z | z
   ·exact (f2 b hb).2.1 z
   ·exact (f2 b hb).2.2.1 z
 have cells4:∀ y c,cl.lookup y=some c→∀ v,s3.heap.IsCell c v→h4.IsCell c v:=fun y c _ v ⟨o,ho,hd⟩=>⟨o,old c o ho,hd⟩
 have IY:∀ t',Inv Y [] (List.replicate xs.length none++σ) H3 { s3 with heap:=h4,toks:=t' }:=fun t'=>by
  refine ⟨Yok,rfl,I3.bare,Un.kept old,⟨_,hns,fun i y v e1 e2 e3=>?_⟩,fun y c e=>?_,I3.hok.fresh (Nat.le_refl _),fun y c e=>I3.freeC y c (cl1 y c e),fun p hp=>absurd (show p∈([]:List (Addr × Obj)) from hp) (by simp),I3.hok.kept old,?_⟩
  ·by_cases hi:i < xs.length
   ·rw [List.getElem?_append_left (by simpa using hi),List.getElem?_replicate] at e2
    split at e2 <;> cases e2
   ·obtain ⟨j,rfl⟩:∃ j,i=xs.length+j:=⟨i - xs.length,by omega⟩
    have e1':M[j]?=some y:=by
     have q:(xs++M)[xs.length+j]?=some y:=e1
     rw [List.getElem?_append_right (Nat.le_add_right _ _)] at q
     simpa using q
    have e2':σ[j]?=some (some v):=by
     rw [List.getElem?_append_right (by simp)] at e2
     simpa using e2
    obtain ⟨a1,a2,a3⟩:=S.same j y e1' e3
    have vis:Vis X.env.scope y:=by
     rcases S.free y a2 with z | z
     ·exact .inr (.inl z)
     ·exact .inr (.inr z)
    obtain ⟨m,_,hl⟩:=I3.loc
    obtain ⟨u,r,l⟩:=hl j y v a1 e2' vis
    refine ⟨u,r,?_⟩
    have kk:Y.env.kindOf y=some .cell∨Y.env.kindOf y=some .free:=by
     rcases e3 with z | z | z
     ·exact absurd z a3
     ·exact .inl z
     ·exact .inr z
    rcases l with ⟨k1,_⟩ | ⟨_,c,ec,ic⟩
    ·rcases S.free y a2 with z | z
     ·rw [z] at k1;cases k1
     ·rw [z] at k1;cases k1
    ·obtain ⟨c',ec'⟩:=cl2 y a2
     have:=cl1 y c' ec'
     rw [ec] at this
     cases this
     exact .inr ⟨kk,c,ec',cells4 y c ec' _ ic⟩
  ·obtain ⟨v,z⟩:=I3.cell y c (cl1 y c e)
   exact ⟨v,cells4 y c e v z⟩
  ·show (List.replicate xs.length none++σ).length=(xs++M).length
   rw [List.length_append,List.length_append,List.length_replicate,S.len,I3.len]
 have stat:∀ {pl:List (Addr × Obj)} {H':Hp},(∀ p∈pl,p.1∉fp)→(∀ b∈fp,H' b=none)→∀ b∈fp,a9y Y pl H' b:=fun hp hn b hb =>
  ⟨hn b hb,Nat.ne_of_lt (lt3 b hb),Yok.exfs b hb,.inl hb,fun y c e=>(f2 b hb).2.2.2.2.1 y c (cl1 y c e),fun p hp' z=>hp p (by simpa [Y,cxC] using hp') (z▸hb)⟩
 have bk:Back X Y pins σ fp s3.heap.objs.size s3 H3:=by
  refine ⟨I3,fun b hb=>⟨(f2 b hb).2.2.2.1,(f2 b hb).2.1,(f2 b hb).2.2.2.2.1,(f2 b hb).2.2.2.2.2⟩,fun pins' σ' H' s' J=>⟨?_,?_⟩⟩
  ·exact I3.call' (ch:=fp) J.os J.base J.hok J.bare fun b hb=>⟨(f2 b hb).2.2.2.1,(f2 b hb).2.1,(f2 b hb).2.2.2.2.1,(f2 b hb).2.2.2.2.2⟩
  ·refine ⟨J.free,Nat.ne_of_gt I3.lt,I3.sz,fun y c e z=>?_,fun p hp z=>?_⟩
   ·obtain ⟨v,q⟩:=I3.cell y c e
    have:=q.lt
    rw [z] at this
    exact Nat.lt_irrefl _ this
   ·have:=Heap.lt_size (I3.pin p hp).1
    rw [z] at this
    exact Nat.lt_irrefl _ this
 obtain ⟨hG,hT,hE⟩:=hin cl s3.heap.objs.size s3 H3 fp pins σ bk
 have loop:∀ t',codeAny (model X.prog X.w) X.A (.compLoop (.ListComp elt [⟨tg,iter,cs,0⟩] scope pos) 0 (.ref it) (.ref s2.heap.objs.size) Y.env) (compPost (model X.prog X.w) X.A X.xe use RR (.ref s2.heap.objs.size) s3.heap.objs.size) { s3 with heap:=h4,toks:=t' }:=by
  intro t'
  refine a7d (EE:=Y.xe) (by cases use <;> rfl) (fun n s'=>∃ i H',Inv Y [] (List.replicate xs.length none++σ) H' s'∧tn i s'.heap∧(∀ b∈fp,H' b=none)∧W i n H') ?_ m0 ⟨0,H3,IY t',st4,n3,w0⟩
  rintro n s5 ⟨i,H5,I5,st5,fr5,w5⟩
  rcases turn i n H5 w5 with ⟨stop,qn⟩ | ⟨go,N,hN,step⟩
  ·refine thn (T.done Y rfl rfl rfl hc i [] s5 (List.replicate xs.length none++σ) H5 _ I5 (stat (by simp) fr5) st5 stop) fun r s6 ⟨hr,I6⟩=>?_
   subst hr
   obtain ⟨m6,hn6,_⟩:=I6.loc
   have I8:Inv X pins σ H5 s6:=I3.call' (ch:=fp) I6.os I6.base I6.hok I6.bare fun b hb=>⟨(f2 b hb).2.2.2.1,(f2 b hb).2.1,(f2 b hb).2.2.2.2.1,(f2 b hb).2.2.2.2.2⟩
   have lt8:X.env.locals < s3.heap.objs.size:=I3.lt
   refine fin _ _ s6 H5 m6 qn I8 hn6 ⟨I6.free,Nat.ne_of_gt lt8,I3.sz,fun y c e z=>?_,fun p hp z=>?_⟩
   ·obtain ⟨v,q⟩:=I3.cell y c e
    have:=q.lt
    rw [z] at this
    exact Nat.lt_irrefl _ this
   ·have:=Heap.lt_size (I3.pin p hp).1
    rw [z] at this
    exact Nat.lt_irrefl _ this
  ·refine thn (T.item Y rfl rfl rfl hc i [] s5 (List.replicate xs.length none++σ) H5 _ I5 (stat (by simp) fr5) st5 go) fun r s6 ⟨u,hr,h6⟩=>?_
   subst hr
   refine thn h6 fun _ s7 ⟨x7,H7,I7,r7,y7,st7,fr7⟩=>?_
   have I7':=I7.pinned (stat (by simp) fr7) (T.obj _ _ st7)
   have again:∀ {σ8:St} {H8:Hp} {s8:Shared},(∃ l:St,l.length=xs.length∧σ8=l++σ)→Inv Y ([]++a4P fp s7.heap) σ8 H8 s8→N H8→∃ m,m < n∧∃ i H',Inv Y [] (List.replicate xs.length none++σ) H' s8∧tn i s8.heap∧(∀ b∈fp,H' b=none)∧W i m H':=fun {σ8 H8 s8} l8 I8 n8=>by
    obtain ⟨m',hm,w8⟩:=hN H8 n8
    obtain ⟨l,ll,rfl⟩:=l8
    have pin8:∀ b∈fp,∀ o,s7.heap.get? b=some o→s8.heap.get? b=some o∧H8 b=none:=fun b hb o e=>by
     have z:=I8.pin (b,o) (List.mem_append_right _ (List.mem_append_right _ (a2H hb e)))
     exact ⟨z.1,z.2.1⟩
    refine ⟨m',hm,i+1,H8,I8.unpinned.weak (by simp [ll]) (fun j v e=>?_),T.keep _ _ _ st7 fun b hb o e=>(pin8 b hb o e).1,fun b hb=>?_,w8⟩
    ·by_cases hj:j < xs.length
     ·rw [List.getElem?_append_left (by simpa using hj),List.getElem?_replicate] at e
      split at e <;> cases e
     ·rw [List.getElem?_append_right (by simpa using hj)] at e
      rw [List.getElem?_append_right (by omega),ll]
      simpa using e
    ·obtain ⟨o,e,_⟩:=T.obj _ _ st7 b hb
     exact (pin8 b hb o e).2
   refine thn (hG _ s7 (List.replicate xs.length none++σ) H7 x7 u _ I7' r7 (hg _ _ _ _ (step x7 H7 y7))) fun _ s8 ⟨σ8,H8,I8,l8,q8⟩=>?_
   refine thn (hT _ s8 σ8 H8 _ I8 q8) fun ok s9 ⟨H9,I9,q9⟩=>?_
   cases ok with
   | false=>exact again l8 I9 q9
   | true =>
    refine thn (hE _ s9 σ8 H9 _ I9 q9) fun y s10 ⟨y10,H10,I10,r10,ys,hd,hl,n10⟩=>?_
    refine thn (a1U _ s10 σ8 H10 (.ref s2.heap.objs.size) [y10] (.ref s2.heap.objs.size) [y] (fun _ H'=>N H') I10 rfl (.cons r10 .nil) ⟨_,ys,y10,rfl,rfl,hd,hl,n10⟩) fun _ s11 ⟨_,H11,I11,_,n11⟩=>?_
    exact again l8 I11 n11
 refine codeAny_compStart_list (loop _) (T.self _ 0 _ _ _ st4 (loop _))
theorem b2h {X:Cx} {elt tg iter:Expr} {cs:List Expr} {scope:Scope} {pos:Pos} {wi:TI} {g:TG} {tc:TT} {te:TE} {xs M:List Str} (hc:X.calm=true) (S:a0q scope X.env X.N M) (hi:PI X tg iter wi)
  (hin:∀ (cl:List (Str × Addr)) (C:Addr) (s0:Shared) (H0:Hp) (fp:List Addr),PG (cxC X scope cl C s0 H0 fp (xs++M)) tg g∧PTs (cxC X scope cl C s0 H0 fp (xs++M)) cs tc∧PE (cxC X scope cl C s0 H0 fp (xs++M)) elt te)
  (hg:∀ v σ H Q,g v (List.replicate xs.length none++σ) H Q→g v (List.replicate xs.length none++σ) H fun σ2 H2=>(∃ l:St,l.length=xs.length∧σ2=l++σ)∧Q σ2 H2)
  (hs:∀ x,foldedSetIterable iter X.env x=pure x:=by intro _;rfl):PE X (.ListComp elt [⟨tg,iter,cs,0⟩] scope pos) (a7f xs.length wi g tc te):=by
 intro pins s σ H Q I h
 rw [eval_ListComp]
 exact a4u (use:=none) hc S hi (fun cl C s0 H0 fp _ _ _=>hin cl C s0 H0 fp) hg hs pins s σ H Q I h fun d C s6 H6 m q I6 hn gn=>⟨m,hn,fun h' hs'=>⟨.ref d,H6,I6.gone gn hs',rfl,q⟩⟩
theorem b2i {X:Cx} {elt tg iter:Expr} {cs:List Expr} {scope:Scope} {pos pos' spos:Pos} {wi:TI} {g:TG} {tc:TT} {te:TE} {xs M:List Str} {i:Nat} {x:Str} (hc:X.calm=true) (S:a0q scope X.env X.N M) (hi:PI X tg iter wi)
  (hin:∀ (cl:List (Str × Addr)) (C:Addr) (s0:Shared) (H0:Hp) (fp:List Addr),PG (cxC X scope cl C s0 H0 fp (xs++M)) tg g∧PTs (cxC X scope cl C s0 H0 fp (xs++M)) cs tc∧PE (cxC X scope cl C s0 H0 fp (xs++M)) elt te)
  (hg:∀ v σ H Q,g v (List.replicate xs.length none++σ) H Q→g v (List.replicate xs.length none++σ) H fun σ2 H2=>(∃ l:St,l.length=xs.length∧σ2=l++σ)∧Q σ2 H2)
  (hN:X.N.Nodup) (hix:X.N[i]?=some x) (hx:X.env.scope.names.lookup x=some .local) (hw:swapsWith (.ListComp elt [⟨tg,iter,cs,0⟩] scope pos) (some (.Name x pos')) spos.line X.env=pure true)
  (hs:∀ x,foldedSetIterable iter X.env x=pure x:=by intro _;rfl):PS X (.Assign [.Name x pos'] (.ListComp elt [⟨tg,iter,cs,0⟩] scope pos) spos) (tAsg (a7f xs.length wi g tc te) (a2j i)):=by
 intro pins s σ H D I h
 rw [exec_Assign_Name_used _ _ _ _ hw]
 refine wpAny_bind (wpAny_standAt (wpAny_bind ?_))
 show wpAny _ X.A (comprehension (.ListComp elt [⟨tg,iter,cs,0⟩] scope pos) scope X.env _ (newList []) false (eval iter X.env) (some (assign (.Name x pos') X.env)) >>= fun _=>pure ()) _ _ s
 refine wpAny_bind (thn (a4u (use:=some (assign (.Name x pos') X.env)) (RR:=fun _ s'=>SP X pins D .next s') hc S hi (fun cl C s0 H0 fp _ _ _=>hin cl C s0 H0 fp) hg hs pins s σ H _ I h fun d C s6 H6 m q I6 hn gn=>?_) fun _ s' hq=>wpAny_pure (wpAny_pure hq))
 show wpAny _ X.A (assign (.Name x pos') X.env (.ref d)) _ _ s6
 refine wpAny_assign_Name (a3i I6 hN hix (.inl hx) (v:=.ref d) rfl (fun s7 I7 ch=>?_) (.inr hx))
 obtain ⟨a,hsb,ha⟩:=ch
 have ne:C≠a:=by
  rcases ha with z | z
  ·rw [z];exact gn.ne
  ·exact fun z'=>gn.cl x a z z'.symm
 exact ⟨m,hn.sameBut hsb ne,fun h' hs'=>⟨_,H6,I7.gone gn hs',q⟩⟩
theorem a9P {X:Cx} {elt tg iter:Expr} {cs:List Expr} {scope:Scope} {pos:Pos} {wi:TI} {g:TG} {tc:TT} {te:TE} {xs M:List Str} (hc:X.calm=true) (S:a0q scope X.env X.N M) (hi:PI X tg iter wi)
  (hin:∀ (cl:List (Str × Addr)) (C:Addr) (s0:Shared) (H0:Hp) (fp:List Addr) (pins:List (Addr × Obj)) (σ:St),Back X (cxC X scope cl C s0 H0 fp (xs++M)) pins σ fp C s0 H0→PG (cxC X scope cl C s0 H0 fp (xs++M)) tg g∧PTs (cxC X scope cl C s0 H0 fp (xs++M)) cs tc∧PE (cxC X scope cl C s0 H0 fp (xs++M)) elt te)
  (hg:∀ v σ H Q,g v (List.replicate xs.length none++σ) H Q→g v (List.replicate xs.length none++σ) H fun σ2 H2=>(∃ l:St,l.length=xs.length∧σ2=l++σ)∧Q σ2 H2)
  (hs:∀ x,foldedSetIterable iter X.env x=pure x:=by intro _;rfl):PE X (.ListComp elt [⟨tg,iter,cs,0⟩] scope pos) (a7f xs.length wi g tc te):=by
 intro pins s σ H Q I h
 rw [eval_ListComp]
 exact a4u (use:=none) hc S hi hin hg hs pins s σ H Q I h fun d C s6 H6 m q I6 hn gn=>⟨m,hn,fun h' hs'=>⟨.ref d,H6,I6.gone gn hs',rfl,q⟩⟩
structure EqK {α:Type} [DecidableEq α] (H:Hp) (s:Shared) (n:Nat) (R:V→α→Prop):Prop where
 inj:∀ x a b,R x a→R x b→a=b
 eq:∀ (A:Around) (x y:V) (a b:α) (u v:Value),A.units+n < cLine→R x a→R y b→a0U x u→a0U y v→SeqAt.EqAt A s u v (decide (a=b))
def a7g (x:V) (i:Int):Prop:=x=.int i
def RBl (x:V) (b:Bool):Prop:=x=.bl b
def a9A {α:Type} (H:Hp) (R:V→α→Prop) (x:V) (ds:List α):Prop:=∃ a xs,x=.ref a∧H a=some (.tup xs)∧Paired R xs ds
def RLst {α:Type} (H:Hp) (R:V→α→Prop) (x:V) (ds:List α):Prop:=∃ a xs,x=.ref a∧H a=some (.lst xs)∧Paired R xs ds
theorem all_eq {α:Type} [DecidableEq α]:∀ (as bs:List α) (e:Nat→Bool),(∀ j x y,as[j]?=some x→bs[j]?=some y→e j=decide (x=y)) →
  ((List.range (min as.length bs.length)).all e && as.length == bs.length)=decide (as=bs):=by
 intro as bs e h
 rw [Bool.eq_iff_iff]
 simp only [Bool.and_eq_true,List.all_eq_true,List.mem_range,beq_iff_eq,decide_eq_true_eq]
 constructor
 ·rintro ⟨h1,h2⟩
  refine List.ext_getElem? fun j=>?_
  by_cases hj:j < as.length
  ·have e1:as[j]?=some as[j]:=List.getElem?_eq_getElem hj
   have e2:bs[j]?=some (bs[j]'(by omega)):=List.getElem?_eq_getElem (by omega)
   have q:=h1 j (by omega)
   rw [h j _ _ e1 e2] at q
   rw [e1,e2,of_decide_eq_true q]
  ·rw [List.getElem?_eq_none (by omega),List.getElem?_eq_none (by omega)]
 ·rintro rfl
  refine ⟨fun j hj=>?_,rfl⟩
  have hj:j < as.length:=by omega
  have e1:as[j]?=some as[j]:=List.getElem?_eq_getElem hj
  rw [h j _ _ e1 e1]
  simp
theorem Paired.right_of {α β:Type} {R:α→β→Prop}:∀ {xs:List α} {ds:List β},Paired R xs ds→∀ (j:Nat) (x:α),xs[j]?=some x→∃ d,ds[j]?=some d∧R x d
 | _,_,.nil,j,x,e=>by simp at e
 | _,_,.cons r t,0,x,e=>by simp at e;subst e;exact ⟨_,rfl,r⟩
 | _,_,.cons r t,j+1,x,e=>by
  obtain ⟨d,e1,e2⟩:=Paired.right_of t j x (by simpa using e)
  exact ⟨d,by simpa using e1,e2⟩
theorem Paired.inj {α β:Type} {R:α→β→Prop} (h:∀ x a b,R x a→R x b→a=b):∀ {xs:List α} {ds es:List β},Paired R xs ds→Paired R xs es→ds=es
 | _,_,_,.nil,.nil=>rfl
 | _,_,_,.cons r t,.cons r' t'=>by rw [h _ _ _ r r',Paired.inj h t t']
theorem Paired.ints:∀ ns:List Int,Paired a7g (ns.map V.int) ns
 | []=>.nil
 | n :: ns=>.cons rfl (Paired.ints ns)
theorem Paired.ofInts:∀ {xs:List V} {ns:List Int},Paired a7g xs ns→xs=ns.map V.int
 | _,_,.nil=>rfl
 | _,_,.cons r t=>by rw [show _=_ from r,Paired.ofInts t];rfl
theorem Paired.bls:∀ ns:List Bool,Paired RBl (ns.map V.bl) ns
 | []=>.nil
 | n :: ns=>.cons rfl (Paired.bls ns)
theorem a3o {H:Hp} {a:Addr} {ns:List Int} (h:H a=some (.tup (ns.map V.int))):a9A H a7g (.ref a) ns:=⟨a,_,rfl,h,Paired.ints ns⟩
section
variable {α:Type} [DecidableEq α] {P:Program} {w:World} {H:Hp} {s:Shared} {n:Nat} {R:V→α→Prop} {A:Around}
theorem EqK.int:EqK H s n a7g:=⟨fun x a b h1 h2=>by unfold a7g at *;rw [h1] at h2;cases h2;rfl,fun A x y a b u v _ h1 h2 r1 r2=>by
 unfold a7g at *
 subst h1 h2
 obtain ⟨t,rfl⟩:=r1
 obtain ⟨t',rfl⟩:=r2
 have q:=SeqAt.EqAt.int_int (A:=A) (s:=s) a t b t'
 rw [Bool.beq_eq_decide_eq] at q
 exact q⟩
theorem EqK.bl:EqK H s n RBl:=⟨fun x a b h1 h2=>by unfold RBl at *;rw [h1] at h2;cases h2;rfl,fun A x y a b u v _ h1 h2 r1 r2=>by
 unfold RBl at *
 subst h1 h2
 cases r1
 cases r2
 have q:=SeqAt.EqAt.bool_bool (A:=A) (s:=s) a b
 rw [Bool.beq_eq_decide_eq] at q
 exact q⟩
theorem a6r (K:EqK H s n R) {xs ys:List V} {ds es:List α} {its its2:List Value} (p1:Paired R xs ds) (p2:Paired R ys es) (v1:a0K xs its) (v2:a0K ys its2) (hA:A.units+n < cLine) :
  ∃ e:Nat→Bool,(∀ j (h1:j < its.toArray.size) (h2:j < its2.toArray.size),SeqAt.EqAt A s its.toArray[j] its2.toArray[j] (e j))∧((List.range (min its.toArray.size its2.toArray.size)).all e && its.toArray.size == its2.toArray.size)=decide (ds=es):=by
 have l1:its.toArray.size=ds.length:=by rw [List.size_toArray,←v1.length];exact p1.length
 have l2:its2.toArray.size=es.length:=by rw [List.size_toArray,←v2.length];exact p2.length
 refine ⟨fun j=>match ds[j]?,es[j]? with | some d,some e=>decide (d=e) | _,_=>true,fun j h1 h2=>?_,?_⟩
 ·have hx:xs[j]?=some (xs[j]'(by rw [v1.length];simpa using h1)):=List.getElem?_eq_getElem _
  have hy:ys[j]?=some (ys[j]'(by rw [v2.length];simpa using h2)):=List.getElem?_eq_getElem _
  obtain ⟨d,e1,r1⟩:=Paired.right_of p1 j _ hx
  obtain ⟨e,e2,r2⟩:=Paired.right_of p2 j _ hy
  obtain ⟨u,e3,r3⟩:=v1.get hx
  obtain ⟨v,e4,r4⟩:=v2.get hy
  have q3:its.toArray[j]=u:=by
   have:=(List.getElem?_eq_some_iff.mp e3).2
   simpa using this
  have q4:its2.toArray[j]=v:=by
   have:=(List.getElem?_eq_some_iff.mp e4).2
   simpa using this
  simp only [e1,e2,q3,q4]
  exact K.eq A _ _ d e u v hA r1 r2 r3 r4
 ·rw [l1,l2]
  exact all_eq ds es _ fun j x y h1 h2=>by simp only [h1,h2]
theorem a8f (K:EqK H s n R) (ok:HOk P w H s.heap) {a b:Addr} {xs ys:List V} {ds es:List α} (ha:H a=some (.tup xs)) (hb:H b=some (.tup ys)) (p1:Paired R xs ds) (p2:Paired R ys es) (hA:A.units+(n+1) < cLine) :
  SeqAt.RcAt A s (.ref a) (.ref b) (decide (ds=es)):=by
 obtain ⟨_,its,v1,t1⟩:=ok a _ ha
 obtain ⟨_,its2,v2,t2⟩:=ok b _ hb
 obtain ⟨e,h1,h2⟩:=a6r (A:=A.in1) K p1 p2 v1 v2 (by show A.units+1+n < cLine;omega)
 rw [←h2]
 exact SeqAt.RcAt.tuples t1 t2 (by omega) h1
theorem a1O {h:Heap} {a:Addr} {its:List Value} {k:Nat} (e:h.get? a=some { cls:=.type "list",data:=.seq its.toArray k }):h.IsList a its.toArray:=⟨_,e,rfl,_,rfl⟩
theorem b2j (K:EqK H s n R) (ok:HOk P w H s.heap) {a b:Addr} {xs ys:List V} {ds es:List α} (ha:H a=some (.lst xs)) (hb:H b=some (.lst ys)) (p1:Paired R xs ds) (p2:Paired R ys es) (hA:A.units+(n+1) < cLine) :
  SeqAt.RcAt A s (.ref a) (.ref b) (decide (ds=es)):=by
 obtain ⟨_,its,k1,v1,t1⟩:=ok a _ ha
 obtain ⟨_,its2,k2,v2,t2⟩:=ok b _ hb
 obtain ⟨e,h1,h2⟩:=a6r (A:=A.in1) K p1 p2 v1 v2 (by show A.units+1+n < cLine;omega)
 by_cases hz:its.toArray.size=its2.toArray.size
 ·have q:=SeqAt.RcAt.lists (a1O t1) (a1O t2) hz (show A.units < cLine by omega) h1
  have z:(List.range its.toArray.size).all e=decide (ds=es):=by
   rw [←h2,←hz]
   simp
  rw [z] at q
  exact q
 ·have q:=SeqAt.RcAt.lists_lengths (A:=A) (a1O t1) (a1O t2) (by simpa using hz) (show A.units < cLine by omega)
  have z:false=decide (ds=es):=by
   rw [←h2]
   have:(its.toArray.size == its2.toArray.size)=false:=by simpa using hz
   rw [this,Bool.and_false]
  rw [z] at q
  exact q
theorem EqK.tup (K:EqK H s n R) (ok:HOk P w H s.heap):EqK H s (n+1) (a9A H R):=by
 refine ⟨fun x a b h1 h2=>?_,fun A x y a b u v hA h1 h2 r1 r2=>?_⟩
 ·obtain ⟨c,xs,rfl,e1,p1⟩:=h1
  obtain ⟨c',xs',z,e2,p2⟩:=h2
  cases z
  rw [e1] at e2;cases e2
  exact Paired.inj K.inj p1 p2
 ·obtain ⟨c,xs,rfl,e1,p1⟩:=h1
  obtain ⟨c',xs',rfl,e2,p2⟩:=h2
  cases r1;cases r2
  by_cases hc:c=c'
  ·subst hc
   rw [e1] at e2;cases e2
   have:=Paired.inj K.inj p1 p2
   subst this
   rw [decide_eq_true rfl]
   exact SeqAt.EqAt.same _
  ·exact SeqAt.EqAt.of_refs hc (a8f K ok e1 e2 p1 p2 hA)
end
section
variable {X:Cx} {α:Type} [DecidableEq α]
def rEqTI:R2:=fun x y H Q=>∃ ns ms,a9A H a7g x ns∧a9A H a7g y ms∧Q (.bl (decide (ns=ms))) H
theorem b2k (hu:X.A.units+4 < cLine):OpR X (compareOp .Eq) rEqTI:=by
 intro pins s σ H x y v u Q I rx ry h
 obtain ⟨ns,ms,⟨a,xs,rfl,e1,p1⟩,⟨b,ys,rfl,e2,p2⟩,q⟩:=h
 cases rx;cases ry
 exact a8f (A:=X.A) (n:=0) EqK.int I.hok e1 e2 p1 p2 (by omega) _ _ _ _ ⟨.bl _,H,I,rfl,q⟩
end
def rSlG:V→Option Int→Option Int→Hp→VK→Prop:=fun x lo hi H Q=>∃ a xs,x=.ref a∧H a=some (.tup xs)∧∀ p H',a0x H H'→H' p=some (.tup (a8a xs lo hi))→Q (.ref p) H'
theorem sixAll {n:Nat} {α:Type} (xs:List α) (lo hi:Option Int) (h1:HT.sIx xs.length 0 lo=0) (h2:HT.sIx xs.length xs.length hi=xs.length):(xs.drop (HT.sIx xs.length 0 lo)).take (HT.sIx xs.length xs.length hi - HT.sIx xs.length 0 lo)=xs:=by
 rw [h1,h2];simp
theorem a0e {H:Hp} {p:Addr} (h:H p=none) (o:HO):a0x H (upd H p o):=fun b u q=>by rw [a0j (a0J q h)];exact q
theorem a5F {prog:Program} {w:World} {A:Around} {E:Value→Shared→Prop} {s:Shared} {t sl:Addr} {items:Array Value} {vl vu:Value} {lo hi:Option Int} {Q:Value→Shared→Prop} (ht:IsTup s.heap t items) (hs:s.heap.IsSliceOf sl vl vu .none) (pl:IsPart vl lo) (pu:IsPart vu hi)
  (h1:HT.sIx items.size 0 lo=0) (h2:HT.sIx items.size items.size hi=items.size) (h:Q (.ref t) s):wpAny (model prog w) A (getItem (.ref t) (.ref sl)) Q E s:=by
 obtain ⟨os,hos,hcs,hds⟩:=id hs
 have hTs:s.TypeIs (.ref sl) "slice":=⟨os,hos,hcs⟩
 unfold getItem
 try with_reducible refine wpAny_holding ?_
 first | refine wpAny_bind (wpAny_pure ?_) | skip
 refine wpAny_bind (wpAny_sequenceKey ht.typeIs (by decide) ?_)
 refine wpAny_bind (wpAny_callSpecial?_slot (name:=Str.ofString "__getitem__") ht.typeIs PyProof.Rows.slot_tuple_getitem
  (wpAny_call_entry PyProof.Rows.slot_tuple_getitem ht.typeIs entry_tuple_getitem ?_ (args_tuple_getitem _ _)))
 show wpAny _ _ (Builtin.Tuple.tupleItemsOf (.ref t) >>= _) _ _ s
 refine wpAny_bind (tupleItemsOf_ ht ?_)
 refine wpAny_bind (wpAny_typeOf hTs ?_)
 rw [if_pos (by decide)]
 refine wpAny_bind (HT.a1N hs pl pu ?_)
 rw [h1,h2]
 show wpAny _ _ (if (((0:Nat):Int) == 0 && (1:Int) == 1 && (items.size - 0) == items.size)=true then _ else _) _ _ s
 rw [if_pos (by simp)]
 unfold Builtin.Tuple.tupleIsExact
 refine wpAny_bind (wpAny_bind (wpAny_typeOf ht.typeIs (wpAny_pure ?_)))
 rw [if_pos (by decide)]
 first
  | exact wpAny_bind (wpAny_rule (wpAny_bind (wpAny_pure (wpAny_pure ⟨_,rfl,wpAny_pure h⟩))))
  | exact wpAny_bind (wpAny_rule (wpAny_pure ⟨_,rfl,wpAny_pure h⟩))
  | exact wpAny_bind (wpAny_bind (wpAny_rule (wpAny_pure ⟨_,rfl,wpAny_pure h⟩)))
theorem a5G {X:Cx}:SlR X rSlG:=by
 intro pins s σ H x v vl vu lo hi sl Q I rx hs pl pu h
 obtain ⟨a,xs,rfl,hx,q⟩:=h
 by_cases hw:HT.sIx xs.length 0 lo=0∧HT.sIx xs.length xs.length hi=xs.length
 ·cases rx
  obtain ⟨hz,its,r,ht⟩:=I.hok a _ hx
  have hlen:its.toArray.size=xs.length:=by rw [List.size_toArray];exact r.length.symm
  refine ⟨"tuple",_,PyProof.Rows.slot_tuple_getitem.lookup,(a4M.is ht).typeIs,?_⟩
  refine a5F (a4M.is ht) hs pl pu (by rw [hlen];exact hw.1) (by rw [hlen];exact hw.2) ⟨.ref a,H,I,rfl,q a H (a0x.refl H) ?_⟩
  unfold a8a
  rw [sixAll (n:=0) xs lo hi hw.1 hw.2]
  exact hx
 ·exact sl_tup pins s σ H (.ref a) v vl vu lo hi sl Q I rx hs pl pu ⟨a,xs,rfl,.inl (.inl hx),hw,fun p hp=>q p _ (a0e hp _) a0c⟩
def rCatG:R2:=fun x y H Q=>∃ a b xs ys,x=.ref a∧y=.ref b∧H a=some (.tup xs)∧H b=some (.tup ys)∧xs.length+ys.length≤sizeLine∧∀ p H',a0x H H'→H' p=some (.tup (xs++ys))→Q (.ref p) H'
theorem a2J {X:Cx}:OpR X (binaryOp .Add) rCatG:=by
 intro pins s σ H x y v u Q I rx ry h
 obtain ⟨a,b,xs,ys,rfl,rfl,ha,hb,hz,q⟩:=h
 by_cases hx:xs=[]
 ·subst hx
  cases rx;cases ry
  obtain ⟨_,its,r1,p1⟩:=I.hok a _ ha
  obtain ⟨_,its2,r2,p2⟩:=I.hok b _ hb
  have e0:its=[]:=r1.nil_iff.mpr rfl
  subst e0
  obtain ⟨⟨cls,dd,data,sl⟩,ho,hc,n,hd⟩:=id (a4M.is p1)
  obtain ⟨⟨cls2,dd2,data2,sl2⟩,ho2,hc2,n2,hd2⟩:=id (a4M.is p2)
  simp only at hc hd hc2 hd2
  subst hc hd hc2 hd2
  exact concat_meets ⟨_,ho,rfl⟩ ⟨_,ho2,rfl⟩ noFill_tuple_add seq_tuple_add PySem.F.slot_tuple_add PySem.F.entry_tuple_add (PySem.F.args_tuple_add_2 _ _)
   (tuple_addW0 a b ([]:List Value).toArray its2.toArray n n2 dd dd2 sl sl2 (by simp)) ⟨ho,ho2,⟨.ref b,H,I,rfl,q b H (a0x.refl H) (by simpa using hb)⟩⟩
 ·exact b2b pins s σ H (.ref a) (.ref b) v u Q I rx ry ⟨a,b,xs,ys,rfl,rfl,.inl (.inl ha),.inl (.inl hb),hx,hz,fun z=>q a H (a0x.refl H) (by rw [z,List.append_nil];exact ha),fun _ p hp=>q p _ (a0e hp _) a0c⟩
def rAll:List V→Hp→VK→Prop:=fun xs H Q=>∃ (a:Addr) (bs:List Bool),xs=[.ref a]∧H a=some (.lst (bs.map V.bl))∧Q (.bl (bs.all id)) H
theorem a9Q:∀ {bs:List Bool} {us:List Value},a0K (bs.map V.bl) us→us=bs.map Value.bool:=by
 intro bs
 induction bs with
 | nil=>intro us r;rw [List.map_nil] at r;cases r;rfl
 | cons b bs ih =>
  intro us r
  rw [List.map_cons] at r
  cases r with
  | cons r1 r2=>rw [ih r2,show _=Value.bool b from r1];rfl
theorem a8g (bs:List Bool):(List.range bs.length).all (fun i=>bs.getD i true)=bs.all id:=by
 rw [Bool.eq_iff_iff]
 simp only [List.all_eq_true,List.mem_range,id]
 constructor
 ·intro h b hb
  obtain ⟨i,hi,rfl⟩:=List.mem_iff_getElem.mp hb
  have q:=h i hi
  rwa [List.getD_eq_getElem?_getD,List.getElem?_eq_getElem hi] at q
 ·intro h i hi
  rw [List.getD_eq_getElem?_getD,List.getElem?_eq_getElem hi]
  exact h _ (List.getElem_mem hi)
theorem a6s {X:Cx} (hc:X.calm=true):a2w X (.builtin "all") rAll:=by
 intro pins s σ H xs us Q I r h
 obtain ⟨a,bs,rfl,ha,q⟩:=h
 obtain ⟨u,rfl,ru⟩:=a4p r
 cases ru
 obtain ⟨hz,its,n,v,e⟩:=I.hok a _ ha
 have ei:=a9Q v
 subst ei
 refine call_all_walk (wpAny_pyIter_list (a1O e) ?_)
 have hlt:=Heap.lt_size e
 refine ⟨s.heap.objs.size,_,_,_,_,_,fun i=>bs.getD i true,rfl,Walks.list (A:=X.A.in1) (by show X.A.handled=none;exact I.ok.hd hc) s.heap.objs.size a (Nat.ne_of_lt hlt) (bs.map Value.bool).toArray,⟨⟨_,Heap.get?_push_size _ rfl,rfl,rfl⟩,a1O (Heap.get?_push_of_some _ e)⟩,?_,fun h' tk hk=>?_⟩
 ·intro i v s' Q' E' hv hq
  simp only [List.getElem?_toArray,List.getElem?_map] at hv
  cases hb:bs[i]? with
  | none=>rw [hb] at hv;cases hv
  | some b =>
   rw [hb] at hv;cases hv
   have hq':Q' (bs.getD i true) s':=hq
   rw [List.getD_eq_getElem?_getD,hb] at hq'
   exact wpAny_truthy_bool hq'
 ·have e1:(bs.map Value.bool).toArray.size=bs.length:=by simp
  rw [e1,a8g]
  exact ⟨.bl _,H,I.kept (h':=h') (t':=tk) (fun b o eo=>hk b o (by simp;exact Nat.ne_of_lt (Heap.lt_size eo)) (Heap.get?_push_of_some _ eo)),rfl,q⟩
def rSum:List V→Hp→VK→Prop:=fun xs H Q=>∃ (a:Addr) (ns:List Int),xs=[.ref a]∧H a=some (.lst (ns.map V.int))∧Q (.int ns.sum) H
theorem a7h:∀ {ns:List Int} {us:List Value},a0K (ns.map V.int) us→∀ (i:Nat) (v:Value),us[i]?=some v→∃ t,v=.int (ns.getD i 0) t:=by
 intro ns
 induction ns with
 | nil=>intro us r i v e;rw [List.map_nil] at r;cases r;simp at e
 | cons n ns ih =>
  intro us r i v e
  rw [List.map_cons] at r
  cases r with
  | cons r1 r2 =>
   cases i with
   | zero =>
    simp at e;subst e
    obtain ⟨t,z⟩:=r1
    exact ⟨t,by rw [z];simp⟩
   | succ i =>
    obtain ⟨t,z⟩:=ih r2 i v (by simpa using e)
    exact ⟨t,by rw [z];simp⟩
theorem a2z {X:Cx} (hc:X.calm=true):a2w X (.builtin "sum") rSum:=by
 intro pins s σ H xs us Q I r h
 obtain ⟨a,ns,rfl,ha,q⟩:=h
 obtain ⟨u,rfl,ru⟩:=a4p r
 cases ru
 obtain ⟨hz,its,n,v,e⟩:=I.hok a _ ha
 refine call_sum_walkAnyS (wpAny_pyIter_list (a1O e) ?_)
 have hlt:=Heap.lt_size e
 refine ⟨s.heap.objs.size,_,_,_,_,_,_,fun i=>ns.getD i 0,rfl,(Walks.list (A:=X.A.in1) (by show X.A.handled=none;exact I.ok.hd hc) s.heap.objs.size a (Nat.ne_of_lt hlt) its.toArray).toS,⟨⟨_,Heap.get?_push_size _ rfl,rfl,rfl⟩,a1O (Heap.get?_push_of_some _ e)⟩,?_,?_,fun s' t' mv=>?_⟩
 ·intro b hb
  have hp:(s.heap.push { cls:=.type "list_iterator",data:=.fields #[.ref a,rawInt 0] }).objs.size=s.heap.objs.size+1:=Heap.size_push _ _
  rcases List.mem_cons.mp hb with z | z
  ·subst z
   exact Heap.lt_size (Heap.get?_push_size _ rfl)
  ·have z':b=a:=by simpa using z
   subst z'
   exact Heap.lt_size (Heap.get?_push_of_some _ e)
 ·intro i v' hv
  exact a7h v i v' (by simpa using hv)
 ·have e1:its.toArray.size=ns.length:=by
   have:=v.length
   rw [List.length_map] at this
   simpa using this.symm
  rw [e1,preSum_getD]
  have e2:ns.take ns.length=ns:=List.take_length
  rw [e2]
  have k:∀ b o,s.heap.get? b=some o→s'.heap.get? b=some o:=fun b o eo=>mv.heap b o (by simp;exact Nat.ne_of_lt (Heap.lt_size eo)) (Heap.get?_push_of_some _ eo)
  obtain ⟨h',g',d',tk',os'⟩:=s'
  have z1:g'=s.gens:=mv.gens
  have z2:d'=s.drawn:=mv.drawn
  have z3:os'=s.os:=mv.os
  subst z1 z2 z3
  exact ⟨.int _,H,I.kept (h':=h') (t':=tk') k,⟨t',rfl⟩,q⟩
theorem a0Z (scope:Scope) (en:Env) (y:Str):(relabel scope en).names.lookup y=(scope.names.lookup y).map fun k=>if (k == NameKind.free && en.scope.kind == .function && en.kindOf y == some .cell)=true then .cell else k:=by
 show List.lookup y (scope.names.map fun (n,k)=>if (k == NameKind.free && en.scope.kind == .function && en.kindOf n == some .cell)=true then (n,NameKind.cell) else (n,k))=_
 generalize scope.names=l
 induction l with
 | nil=>rfl
 | cons p r ih =>
  obtain ⟨n,k⟩:=p
  rw [List.map_cons]
  by_cases hy:y=n
  ·subst hy
   show List.lookup y ((if (k == NameKind.free && en.scope.kind == .function && en.kindOf y == some .cell)=true then (y,NameKind.cell) else (y,k)) :: _)=_
   by_cases hc:(k == NameKind.free && en.scope.kind == .function && en.kindOf y == some .cell)=true
   ·rw [if_pos hc,List.lookup_cons,List.lookup_cons,beq_self_eq_true]
    show some NameKind.cell=some (if _ then _ else _)
    rw [if_pos hc]
   ·rw [if_neg hc,List.lookup_cons,List.lookup_cons,beq_self_eq_true]
    show some k=some (if _ then _ else _)
    rw [if_neg hc]
  ·have hb:(y == n)=false:=by simpa using hy
   show List.lookup y ((if (k == NameKind.free && en.scope.kind == .function && en.kindOf n == some .cell)=true then (n,NameKind.cell) else (n,k)) :: _)=_
   by_cases hc:(k == NameKind.free && en.scope.kind == .function && en.kindOf n == some .cell)=true
   ·rw [if_pos hc,List.lookup_cons,List.lookup_cons,hb];exact ih
   ·rw [if_neg hc,List.lookup_cons,List.lookup_cons,hb];exact ih
def a8h (scope:Scope) (p:Str × Str):Bool:=match scope.names.lookup p.1 with
 | none=>true
 | some .free=>p.1 == p.2
 | some .local=>false
 | some .cell=>false
 | some _=>true
theorem a0q.of' {scope:Scope} {en:Env} {N M:List Str} (sc:Scope) (N₀:List Str) (hsc:en.scope=sc) (hN:N=N₀) (kind:scope.kind=.function) (nocell:∀ y∈scope.names,y.2≠.cell) (locs:∀ y∈scope.names,y.2=.local→scope.names.lookup y.1=some .local)
  (free:∀ y∈scope.names,y.2=.free→sc.names.lookup y.1=some .cell∨sc.names.lookup y.1=some .free) (len:M.length=N₀.length) (same:((M.zip N₀).all (a8h scope))=true):a0q scope en N M:=by
 subst hsc hN
 refine ⟨kind,nocell,locs,fun y hy=>free _ hy rfl,len,fun j y e v=>?_,fun y h=>?_⟩
 ·have hj:j < N.length:=by rw [←len];exact (List.getElem?_eq_some_iff.mp e).1
  have e2:N[j]?=some N[j]:=List.getElem?_eq_getElem hj
  have hm:(y,N[j])∈M.zip N:=by
   refine List.mem_iff_getElem?.mpr ⟨j,?_⟩
   rw [List.getElem?_zip_eq_some]
   exact ⟨e,e2⟩
  have q:=List.all_eq_true.mp same _ hm
  unfold a8h at q
  unfold Vis at v
  rw [a0Z] at v ⊢
  cases hl:scope.names.lookup y with
  | none=>rw [hl] at v;simp at v
  | some k =>
   rw [hl] at v q
   simp only [Option.map_some] at v ⊢
   cases k with
   | free =>
    have z:y=N[j]:=by simpa using q
    refine ⟨by rw [e2,←z],PySem.mem_of_lookup hl,?_⟩
    split <;> simp
   | «local»=>simp at q
   | cell=>simp at q
   | _=>simp at v
 ·rw [a0Z] at h
  cases hl:scope.names.lookup y with
  | none=>rw [hl] at h;simp at h
  | some k =>
   rw [hl] at h
   have hm:=PySem.mem_of_lookup hl
   simp only [Option.map_some] at h
   cases k with
   | free=>exact hm
   | cell=>exact absurd rfl (nocell _ hm)
   | _=>simp at h
theorem a0q.of {scope:Scope} {en:Env} {N M:List Str} (sc:Scope) (N₀:List Str) (hsc:en.scope=sc) (hN:N=N₀) (kind:scope.kind=.function) (nocell:∀ y∈scope.names,y.2≠.cell) (locs:∀ y∈scope.names,y.2=.local→scope.names.lookup y.1=some .local)
  (free:∀ y∈scope.names,y.2=.free→sc.names.lookup y.1=some .cell∨sc.names.lookup y.1=some .free) (len:M.length=N₀.length) (same:((M.zip N₀).all (a8h scope))=true):a0q scope en N M:=a0q.of' sc N₀ hsc hN kind nocell locs free len same
theorem b1j {v:V} {σ:St} {H:Hp} {Q:St→Hp→Prop} (h:a2j 0 v (List.replicate 1 none++σ) H Q):a2j 0 v (List.replicate 1 none++σ) H fun σ2 H2=>(∃ l:St,l.length=1∧σ2=l++σ)∧Q σ2 H2 :=
 ⟨⟨[some v],rfl,rfl⟩,h⟩
theorem a3U {lo:Int} {n:Nat} {k:Nat} {g:TG} {tc:TT} {te:TE} {σ:St} {H:Hp} {Q:VK} {d:Addr} (Pv:Nat→Hp→Prop) (h0:Pv 0 (upd H d (.lst [])))
  (hs:∀ i H,i < n→Pv i H→g (.int (lo+i)) (List.replicate k none++σ) H fun σ2 H2=>tc σ2 H2 fun b H3=>if b=true then te σ2 H3 fun y H4=>∃ ys,H4 d=some (.lst ys)∧ys.length < sizeLine∧Pv (i+1) (upd H4 d (.lst (ys++[y]))) else Pv (i+1) H3)
  (hd:∀ H,Pv n H→Q (.ref d) H) :
  ∃ W:Nat→Nat→Hp→Prop,(∃ m,W 0 m (upd H d (.lst [])))∧∀ i m H,W i m H →
   ((Itr lo n).stop i H∧Q (.ref d) H)∨((Itr lo n).go i H∧∃ N:Hp→Prop,(∀ H',N H'→∃ m',m' < m∧W (i+1) m' H')∧∀ x H',(Itr lo n).yld i H x H'→g x (List.replicate k none++σ) H' fun σ2 H2 =>
    tc σ2 H2 fun b H3=>if b=true then te σ2 H3 fun y H4=>∃ ys,H4 d=some (.lst ys)∧ys.length < sizeLine∧N (upd H4 d (.lst (ys++[y]))) else N H3):=by
 refine ⟨fun i m H=>m=n - i∧i≤n∧Pv i H,⟨n,by simp,Nat.zero_le _,h0⟩,?_⟩
 rintro i m H ⟨rfl,hi,p⟩
 by_cases hlt:i < n
 ·refine .inr ⟨hlt,Pv (i+1),fun H' p'=>⟨n - (i+1),by omega,rfl,hlt,p'⟩,fun x H' y=>?_⟩
  obtain ⟨e,y⟩:=y
  subst e y
  exact hs i _ hlt p
 ·have e:i=n:=by omega
  subst e
  exact .inl ⟨Nat.le_refl _,hd H p⟩
theorem a9R {K:PySem.W.Frag} {a:Addr} {xs:List V} {k:Nat} {g:TG} {tc:TT} {te:TE} {σ:St} {H:Hp} {Q:VK} {d:Addr} (Pv:Nat→Hp→Prop) (h0:Pv 0 (upd H d (.lst []))) (hl:∀ i H,i≤xs.length→Pv i H→SqT K H a xs)
  (hs:∀ i x H,xs[i]?=some x→Pv i H→g x (List.replicate k none++σ) H fun σ2 H2=>tc σ2 H2 fun b H3=>if b=true then te σ2 H3 fun y H4=>∃ ys,H4 d=some (.lst ys)∧ys.length < sizeLine∧Pv (i+1) (upd H4 d (.lst (ys++[y]))) else Pv (i+1) H3)
  (hd:∀ H,Pv xs.length H→Q (.ref d) H) :
  ∃ W:Nat→Nat→Hp→Prop,(∃ m,W 0 m (upd H d (.lst [])))∧∀ i m H,W i m H →
   ((Itt K a).stop i H∧Q (.ref d) H)∨((Itt K a).go i H∧∃ N:Hp→Prop,(∀ H',N H'→∃ m',m' < m∧W (i+1) m' H')∧∀ x H',(Itt K a).yld i H x H'→g x (List.replicate k none++σ) H' fun σ2 H2 =>
    tc σ2 H2 fun b H3=>if b=true then te σ2 H3 fun y H4=>∃ ys,H4 d=some (.lst ys)∧ys.length < sizeLine∧N (upd H4 d (.lst (ys++[y]))) else N H3):=by
 refine ⟨fun i m H=>m=xs.length - i∧i≤xs.length∧Pv i H,⟨xs.length,by simp,Nat.zero_le _,h0⟩,?_⟩
 rintro i m H ⟨rfl,hi,p⟩
 have q:=hl i H hi p
 by_cases hlt:i < xs.length
 ·refine .inr ⟨⟨xs,xs[i],q,by simp [hlt]⟩,Pv (i+1),fun H' p'=>⟨xs.length - (i+1),by omega,rfl,hlt,p'⟩,fun x H' y=>?_⟩
  obtain ⟨e,y⟩:=y
  subst e
  exact hs i x _ (y xs q) p
 ·have e:i=xs.length:=by omega
  subst e
  exact .inl ⟨⟨xs,q,Nat.le_refl _⟩,hd H p⟩
theorem a5b {K:PySem.W.Frag} {a:Addr} {xs:List V} {k:Nat} {g:TG} {tc:TT} {te:TE} {σ:St} {H:Hp} {Q:VK} {d:Addr} (Pv:Nat→Hp→Prop) (h0:Pv 0 (upd H d (.lst []))) (hl:∀ i H,i≤xs.length→Pv i H→SqL K H a xs)
  (hs:∀ i x H,xs[i]?=some x→Pv i H→g x (List.replicate k none++σ) H fun σ2 H2=>tc σ2 H2 fun b H3=>if b=true then te σ2 H3 fun y H4=>∃ ys,H4 d=some (.lst ys)∧ys.length < sizeLine∧Pv (i+1) (upd H4 d (.lst (ys++[y]))) else Pv (i+1) H3)
  (hd:∀ H,Pv xs.length H→Q (.ref d) H) :
  ∃ W:Nat→Nat→Hp→Prop,(∃ m,W 0 m (upd H d (.lst [])))∧∀ i m H,W i m H →
   ((Itl K a).stop i H∧Q (.ref d) H)∨((Itl K a).go i H∧∃ N:Hp→Prop,(∀ H',N H'→∃ m',m' < m∧W (i+1) m' H')∧∀ x H',(Itl K a).yld i H x H'→g x (List.replicate k none++σ) H' fun σ2 H2 =>
    tc σ2 H2 fun b H3=>if b=true then te σ2 H3 fun y H4=>∃ ys,H4 d=some (.lst ys)∧ys.length < sizeLine∧N (upd H4 d (.lst (ys++[y]))) else N H3):=by
 refine ⟨fun i m H=>m=xs.length - i∧i≤xs.length∧Pv i H,⟨xs.length,by simp,Nat.zero_le _,h0⟩,?_⟩
 rintro i m H ⟨rfl,hi,p⟩
 have q:=hl i H hi p
 by_cases hlt:i < xs.length
 ·refine .inr ⟨⟨xs,xs[i],q,by simp [hlt]⟩,Pv (i+1),fun H' p'=>⟨xs.length - (i+1),by omega,rfl,hlt,p'⟩,fun x H' y=>?_⟩
  obtain ⟨e,y⟩:=y
  subst e
  exact hs i x _ (y xs q) p
 ·have e:i=xs.length:=by omega
  subst e
  exact .inl ⟨⟨xs,q,Nat.le_refl _⟩,hd H p⟩
theorem a7i:bootBuiltins "isinstance"=some (.builtin "isinstance"):=by decide +kernel
theorem b_all:bootBuiltins "all"=some (.builtin "all"):=by decide +kernel
theorem a8i:bootBuiltins "sum"=some (.builtin "sum"):=by decide +kernel
theorem b_min:bootBuiltins "min"=some (.builtin "min"):=by decide +kernel
theorem b_list:bootBuiltins "list"=some (.type "list"):=by decide +kernel
theorem a4v:bootBuiltins "tuple"=some (.type "tuple"):=by decide +kernel
theorem PE.imp {X:Cx} {e:Expr} {t t':TE} (h:PE X e t) (hi:∀ σ H Q,t' σ H Q→t σ H Q):PE X e t':=fun pins s σ H Q I q=>h pins s σ H Q I (hi σ H Q q)
def a7j (tc:TT) (te:TE) (σ:St) (d:Addr) (x:V) (H:Hp) (Z:Hp→Prop):Prop :=
 tc (some x :: σ) H fun b H3=>if b=true then te (some x :: σ) H3 fun y H4=>∃ ys,H4 d=some (.lst ys)∧ys.length < sizeLine∧Z (upd H4 d (.lst (ys++[y]))) else Z H3
def b2l (ta:TA) (tc:TT) (te:TE):TE:=fun σ H Q=>ta σ H fun vs H1=>∃ j:Int,vs=[.int j]∧-(2 ^ 62)≤j∧j < 2 ^ 62∧∀ d,H1 d=none →
 ∃ Pv:Nat→Hp→Prop,Pv 0 (upd H1 d (.lst []))∧(∀ i H,i < j.toNat→Pv i H→a7j tc te σ d (.int (0+i)) H (Pv (i+1)))∧∀ H,Pv j.toNat H→Q (.ref d) H
def b2m (ta:TA) (tc:TT) (te:TE):TE:=fun σ H Q=>ta σ H fun vs H1=>∃ lo hi:Int,vs=[.int lo,.int hi]∧(-(2 ^ 62)≤lo∧lo < 2 ^ 62∧-(2 ^ 62)≤hi∧hi < 2 ^ 62)∧∀ d,H1 d=none →
 ∃ Pv:Nat→Hp→Prop,Pv 0 (upd H1 d (.lst []))∧(∀ i H,i < (hi - lo).toNat→Pv i H→a7j tc te σ d (.int (lo+i)) H (Pv (i+1)))∧∀ H,Pv (hi - lo).toNat H→Q (.ref d) H
def b1k (K:PySem.W.Frag) (tl:TE) (tc:TT) (te:TE):TE:=fun σ H Q=>tl σ H fun v H1=>∃ a xs,v=.ref a∧SqL K H1 a xs∧∀ d,H1 d=none →
 ∃ Pv:Nat→Hp→Prop,Pv 0 (upd H1 d (.lst []))∧(∀ i H,i≤xs.length→Pv i H→SqL K H a xs)∧(∀ i x H,xs[i]?=some x→Pv i H→a7j tc te σ d x H (Pv (i+1)))∧∀ H,Pv xs.length H→Q (.ref d) H
def tCompT (K:PySem.W.Frag) (tl:TE) (tc:TT) (te:TE):TE:=fun σ H Q=>tl σ H fun v H1=>∃ a xs,v=.ref a∧SqT K H1 a xs∧∀ d,H1 d=none →
 ∃ Pv:Nat→Hp→Prop,Pv 0 (upd H1 d (.lst []))∧(∀ i H,i≤xs.length→Pv i H→SqT K H a xs)∧(∀ i x H,xs[i]?=some x→Pv i H→a7j tc te σ d x H (Pv (i+1)))∧∀ H,Pv xs.length H→Q (.ref d) H
def a2K (t:TE):Prop:=∀ σ H (Q Q':VK),(∀ v H1,Q v H1→Q' v H1)→t σ H Q→t σ H Q'
def a5H (t:TA):Prop:=∀ σ H (Q Q':List V→Hp→Prop),(∀ v H1,Q v H1→Q' v H1)→t σ H Q→t σ H Q'
section
variable {X:Cx} {elt iter:Expr} {tg:Str} {tp:Pos} {cs:List Expr} {scope:Scope} {pos:Pos} {tc:TT} {te:TE} {M:List Str}
abbrev a5I (X:Cx) (scope:Scope) (tg:Str) (M:List Str) (cs:List Expr) (elt:Expr) (tc:TT) (te:TE):Prop :=
 ∀ (cl:List (Str × Addr)) (C:Addr) (s0:Shared) (H0:Hp) (fp:List Addr),PTs (cxC X scope cl C s0 H0 fp (tg :: M)) cs tc∧PE (cxC X scope cl C s0 H0 fp (tg :: M)) elt te
theorem a3c {wi:TI} {t:TE} (hc:X.calm=true) (S:a0q scope X.env X.N M) (nd:(tg :: M).Nodup) (hl:scope.names.lookup tg=some .local) (hi:PI X (.Name tg tp) iter wi) (hin:a5I X scope tg M cs elt tc te)
  (ht:∀ σ H Q,t σ H Q→a7f 1 wi (a2j 0) tc te σ H Q) (hs:∀ x,foldedSetIterable iter X.env x=pure x):PE X (.ListComp elt [⟨.Name tg tp,iter,cs,0⟩] scope pos) t:=by
 have hx:(relabel scope X.env).names.lookup tg=some .local:=by
  rw [a0Z,hl]
  rfl
 exact PE.imp (b2h (xs:=[tg]) (M:=M) hc S hi (fun cl C s0 H0 fp=>⟨a0H (i:=0) nd rfl (Or.inl hx) (Or.inr hx),hin cl C s0 H0 fp⟩) (fun v σ H Q h=>b1j h) hs) ht
theorem a1W {a:Expr} {ta:TA} {p pos':Pos} (hc:X.calm=true) (S:a0q scope X.env X.N M) (nd:(tg :: M).Nodup) (hl:scope.names.lookup tg=some .local) (hg:Gl X "range") (hm:X.mg "range"=none) (ha:PA X [a] ta) (mo:a5H ta)
  (hin:a5I X scope tg M cs elt tc te) (hs:starEach [a] X.env=[(false,eval a X.env)]:=by rfl) (hf:∀ x,foldedSetIterable (.Call (.Name "range" p) [a] [] pos') X.env x=pure x:=by intro _;rfl) :
  PE X (.ListComp elt [⟨.Name tg tp,.Call (.Name "range" p) [a] [] pos',cs,0⟩] scope pos) (b2l ta tc te):=by
 refine a3c hc S nd hl (a2v hg hm ha hs) hin (fun σ H Q h=>?_) hf
 refine mo σ H _ _ (fun vs H1 q=>?_) h
 obtain ⟨j,e,j1,j2,q⟩:=q
 refine ⟨j,e,j1,j2,fun d hd=>?_⟩
 obtain ⟨Pv,h0,hs,hd⟩:=q d hd
 exact a3U (k:=1) (g:=a2j 0) Pv h0 hs hd
theorem a5c {a b:Expr} {ta:TA} {p pos':Pos} (hc:X.calm=true) (S:a0q scope X.env X.N M) (nd:(tg :: M).Nodup) (hl:scope.names.lookup tg=some .local) (hg:Gl X "range") (hm:X.mg "range"=none) (ha:PA X [a,b] ta) (mo:a5H ta)
  (hin:a5I X scope tg M cs elt tc te) (hs:starEach [a,b] X.env=[(false,eval a X.env),(false,eval b X.env)]:=by rfl) (hs2:starEach [b] X.env=[(false,eval b X.env)]:=by rfl) (hf:∀ x,foldedSetIterable (.Call (.Name "range" p) [a,b] [] pos') X.env x=pure x:=by intro _;rfl) :
  PE X (.ListComp elt [⟨.Name tg tp,.Call (.Name "range" p) [a,b] [] pos',cs,0⟩] scope pos) (b2m ta tc te):=by
 refine a3c hc S nd hl (a1p hg hm ha hs hs2) hin (fun σ H Q h=>?_) hf
 refine mo σ H _ _ (fun vs H1 q=>?_) h
 obtain ⟨lo,hi,e,j1,q⟩:=q
 refine ⟨lo,hi,e,j1,fun d hd=>?_⟩
 obtain ⟨Pv,h0,hs,hd⟩:=q d hd
 exact a3U (k:=1) (g:=a2j 0) Pv h0 hs hd
theorem a2A {tl:TE} (hc:X.calm=true) (S:a0q scope X.env X.N M) (nd:(tg :: M).Nodup) (hl:scope.names.lookup tg=some .local) (hi:PE X iter tl) (mo:a2K tl)
  (hin:a5I X scope tg M cs elt tc te) (hf:∀ x,foldedSetIterable iter X.env x=pure x:=by intro _;rfl):PE X (.ListComp elt [⟨.Name tg tp,iter,cs,0⟩] scope pos) (b1k X.K tl tc te):=by
 refine a3c hc S nd hl (a4n hi) hin (fun σ H Q h=>?_) hf
 refine mo σ H _ _ (fun v H1 q=>?_) h
 obtain ⟨a,xs,e,j1,q⟩:=q
 refine ⟨a,e,⟨xs,j1⟩,fun d hd=>?_⟩
 obtain ⟨Pv,h0,hl,hs,hd⟩:=q d hd
 exact a5b (k:=1) (g:=a2j 0) Pv h0 hl hs hd
theorem a2B {tl:TE} (hc:X.calm=true) (S:a0q scope X.env X.N M) (nd:(tg :: M).Nodup) (hl:scope.names.lookup tg=some .local) (hi:PE X iter tl) (mo:a2K tl)
  (hin:a5I X scope tg M cs elt tc te) (hf:∀ x,foldedSetIterable iter X.env x=pure x:=by intro _;rfl):PE X (.ListComp elt [⟨.Name tg tp,iter,cs,0⟩] scope pos) (tCompT X.K tl tc te):=by
 refine a3c hc S nd hl (a7L hi) hin (fun σ H Q h=>?_) hf
 refine mo σ H _ _ (fun v H1 q=>?_) h
 obtain ⟨a,xs,e,j1,q⟩:=q
 refine ⟨a,e,⟨xs,j1⟩,fun d hd=>?_⟩
 obtain ⟨Pv,h0,hl,hs,hd⟩:=q d hd
 exact a9R (k:=1) (g:=a2j 0) Pv h0 hl hs hd
theorem a9S {wi:TI} {t:TE} {i:Nat} {x:Str} {pos1 spos:Pos} (hc:X.calm=true) (S:a0q scope X.env X.N M) (nd:(tg :: M).Nodup) (hl:scope.names.lookup tg=some .local) (hi:PI X (.Name tg tp) iter wi) (hin:a5I X scope tg M cs elt tc te)
  (ht:∀ σ H Q,t σ H Q→a7f 1 wi (a2j 0) tc te σ H Q) (hN:X.N.Nodup) (hix:X.N[i]?=some x) (hx:X.env.scope.names.lookup x=some .local) (hw:swapsWith (.ListComp elt [⟨.Name tg tp,iter,cs,0⟩] scope pos) (some (.Name x pos1)) spos.line X.env=pure true) (hs:∀ x,foldedSetIterable iter X.env x=pure x) :
  PS X (.Assign [.Name x pos1] (.ListComp elt [⟨.Name tg tp,iter,cs,0⟩] scope pos) spos) (tAsg t (a2j i)):=by
 have hx':(relabel scope X.env).names.lookup tg=some .local:=by
  rw [a0Z,hl]
  rfl
 intro pins s σ H D I h
 exact b2i (xs:=[tg]) (M:=M) hc S hi (fun cl C s0 H0 fp=>⟨a0H (i:=0) nd rfl (Or.inl hx') (Or.inr hx'),hin cl C s0 H0 fp⟩) (fun v σ H Q h=>b1j h) hN hix hx hw hs pins s σ H D I (ht _ _ _ h)
end
theorem a0S {te:TE} {σ:St} {d:Addr} {x:V} {H:Hp} {Z:Hp→Prop} (h:te (some x :: σ) H fun y H4=>∃ ys,H4 d=some (.lst ys)∧ys.length < sizeLine∧Z (upd H4 d (.lst (ys++[y])))):a7j a9O te σ d x H Z:=by
 unfold a7j a9O
 exact b2g h
theorem a0V {i:Nat}:a2K (tVar i):=fun _ _ _ _ h ⟨v,e,q⟩=>⟨v,e,h _ _ q⟩
theorem b3q {v:V}:a2K (tC v):=fun _ _ _ _ h q=>h _ _ q
theorem a1B:a5H b3p:=fun _ _ _ _ h q=>h _ _ q
theorem a0T {te:TE} {ta:TA} (h1:a2K te) (h2:a5H ta):a5H (a6Y te ta):=fun σ H Q Q' h q=>h1 σ H _ _ (fun v H1 q1=>h2 σ H1 _ _ (fun vs H2 q2=>h _ _ q2) q1) q
theorem a7k {r:R2} {ta tb:TE} (hr:∀ x y H (Q Q':VK),(∀ v H1,Q v H1→Q' v H1)→r x y H Q→r x y H Q') (h1:a2K ta) (h2:a2K tb):a2K (tOp r ta tb):=fun σ H Q Q' h q =>
 h1 σ H _ _ (fun v H1 q1=>h2 σ H1 _ _ (fun u H2 q2=>hr _ _ _ _ _ h q2) q1) q
theorem a3V {g:Int→Int→V}:∀ x y H (Q Q':VK),(∀ v H1,Q v H1→Q' v H1)→rI0 g x y H Q→rI0 g x y H Q':=fun _ _ _ _ _ h ⟨i,j,e1,e2,q⟩=>⟨i,j,e1,e2,h _ _ q⟩
theorem a8j {K:PySem.W.Frag} {ta:TA} (h1:a5H ta):a2K (tCB (fun xs H Q=>∃ p ys,xs=[.ref p]∧(SqL K H p ys∨SqT K H p ys)∧Q (.int (ys.length:Nat)) H) ta):=fun σ H Q Q' h q =>
 h1 σ H _ _ (fun vs H1 ⟨p,ys,e,s,q1⟩=>⟨p,ys,e,s,h _ _ q1⟩) q
abbrev TW (H:Hp) (a:Addr) (ns:List Int):Prop:=H a=some (.tup (ns.map V.int))
abbrev Wd (H:Hp) (x:V) (w:List Int):Prop:=a9A H a7g x w
abbrev Ws (H:Hp) (xs:List V) (ws:List (List Int)):Prop:=Paired (a9A H a7g) xs ws
theorem Wd.ti {H:Hp} {x:V} {w:List Int} (h:Wd H x w):∃ a,x=.ref a∧TW H a w:=by
 obtain ⟨a,xs,rfl,e,p⟩:=h
 exact ⟨a,rfl,by show H a=_;rw [e,Paired.ofInts p]⟩
theorem Wd.of {H:Hp} {a:Addr} {w:List Int} (h:TW H a w):Wd H (.ref a) w:=a3o h
theorem Wd.same {H H':Hp} {x:V} {w:List Int} (sm:a0x H H') (h:Wd H x w):Wd H' x w:=by
 obtain ⟨a,xs,rfl,e,p⟩:=h
 exact ⟨a,xs,rfl,sm _ _ e,p⟩
theorem Ws.same {H H':Hp} {xs:List V} {ws:List (List Int)} (sm:a0x H H') (h:Ws H xs ws):Ws H' xs ws:=Paired.mapP h fun _ _ q=>Wd.same sm q
section
variable {α β:Type} {R:α→β→Prop}
theorem Paired.takeP:∀ {xs:List α} {ds:List β} (n:Nat),Paired R xs ds→Paired R (xs.take n) (ds.take n)
 | _,_,0,_=>by rw [List.take_zero,List.take_zero];exact .nil
 | _,_,_+1,.nil=>.nil
 | _,_,n+1,.cons r t=>.cons r (Paired.takeP n t)
theorem Paired.dropP:∀ {xs:List α} {ds:List β} (n:Nat),Paired R xs ds→Paired R (xs.drop n) (ds.drop n)
 | _,_,0,r=>r
 | _,_,_+1,.nil=>.nil
 | _,_,n+1,.cons _ t=>Paired.dropP n t
theorem Paired.appendP:∀ {xs ys:List α} {ds es:List β},Paired R xs ds→Paired R ys es→Paired R (xs++ys) (ds++es)
 | _,_,_,_,.nil,s=>s
 | _,_,_,_,.cons r t,s=>.cons r (Paired.appendP t s)
theorem Paired.eraseP:∀ {xs:List α} {ds:List β} (n:Nat),Paired R xs ds→Paired R (xs.eraseIdx n) (ds.eraseIdx n)
 | _,_,_,.nil=>.nil
 | _,_,0,.cons _ t=>t
 | _,_,n+1,.cons r t=>.cons r (Paired.eraseP n t)
theorem Paired.left_of:∀ {xs:List α} {ds:List β},Paired R xs ds→∀ (j:Nat) (d:β),ds[j]?=some d→∃ x,xs[j]?=some x∧R x d
 | _,_,.nil,j,x,e=>by simp at e
 | _,_,.cons r t,0,x,e=>by simp at e;subst e;exact ⟨_,rfl,r⟩
 | _,_,.cons r t,j+1,x,e=>by
  obtain ⟨d,e1,e2⟩:=Paired.left_of t j x (by simpa using e)
  exact ⟨d,by simpa using e1,e2⟩
end
theorem a2l {xs:List V} {i:Nat} {x:V} (h:xs[i]?=some x):atI xs (i:Int)=some x:=a1T h
theorem a2X {ns:List Int} {k:Nat} {x:Int} (h:ns[k]?=some x):atI (ns.map V.int) (k:Int)=some (.int x):=a1T (by rw [List.getElem?_map,h];rfl)
theorem hu4 {A:Around} {k:Nat} (hr:a1Q k A):A.units+4 < cLine:=by have:=hr.units;omega
theorem small {n:Nat} (h:n≤1000):n≤sizeLine:=Nat.le_of_lt (a0s h)
theorem b1l (xs:List V) (n:Nat):a8a xs none (some (n:Int))=xs.take n:=by
 unfold a8a
 rw [HT.a7Y,HT.a6p]
 simp [List.take_eq_take_iff]
theorem a9T (xs:List V) (n:Nat):a8a xs (some (n:Int)) none=xs.drop n:=by
 unfold a8a
 rw [HT.a7Y,HT.a6p]
 by_cases h:n≤xs.length
 ·rw [Nat.min_eq_left h]
  exact List.take_of_length_le (by rw [List.length_drop];omega)
 ·rw [Nat.min_eq_right (by omega),List.drop_eq_nil_of_le (Nat.le_refl _),List.drop_eq_nil_of_le (by omega)]
  simp
theorem a0v {H H1:Hp} {d:Addr} {o:HO} (h:H d=none) (sm:a0x H H1):a0x H (upd H1 d o):=fun b u q=>by rw [a0j (a0J q h)];exact sm b u q
structure Fns (P:Program) (w:World) (K:PySem.W.Frag) (mg:Str→Option Value) (base:Heap) (ps:List Str) (name:Str) (sp:Sp) (k:Nat) where
 g:Addr
 gd:FuncData
 ok:a0O P w K mg base CX0 k g gd ps sp
 b:a1E K gd ps []
 kp:PySem.W.keepIn K (.ref g)=true
 m:mg name=some (.ref g)
def Fns.up {P:Program} {w:World} {K:PySem.W.Frag} {mg:Str→Option Value} {base:Heap} {ps:List Str} {name:Str} {sp:Sp} {j k:Nat} (f:Fns P w K mg base ps name sp j) (h:j≤k):Fns P w K mg base ps name sp k:=⟨f.g,f.gd,f.ok.mono h,f.b,f.kp,f.m⟩
def tMid (t:TS):TS:=fun D σ H=>∃ Mid:St→Hp→Prop,t { D with nx:=Mid } σ H∧∀ σ' H',Mid σ' H'→D.nx σ' H'
theorem a1X {X:Cx} {st:Stmt} {t:TS} (h:PS X st t):PS X st (tMid t):=by
 intro pins s σ H D I ⟨Mid,h1,h2⟩
 refine thn (h pins s σ H _ I h1) fun fl s' q=>?_
 cases fl with
 | next=>obtain ⟨σ',H',I',m⟩:=q;exact ⟨σ',H',I',h2 _ _ m⟩
 | brk=>exact q
 | cont=>exact q
 | ret u=>exact q
def eMid (t:TE):TE:=fun σ H Q=>∃ Mid:V→Hp→Prop,t σ H Mid∧∀ v H',Mid v H'→Q v H'
theorem b1m {X:Cx} {e:Expr} {t:TE} (h:PE X e t):PE X e (eMid t):=by
 intro pins s σ H Q I ⟨Mid,h1,h2⟩
 exact thn (h pins s σ H _ I h1) fun u s' ⟨v,H',I',r,m⟩=>⟨v,H',I',r,h2 _ _ m⟩
theorem b1n {t:TE}:a2K (eMid t):=fun σ H Q Q' h ⟨Mid,h1,h2⟩=>⟨Mid,h1,fun v H' m=>h _ _ (h2 v H' m)⟩
theorem ixL {X:Cx} (K:PySem.W.Frag) (h:X.K=K:=by rfl):IxR X (rIxL K):=by subst h;exact a0w
theorem ixT {X:Cx} (K:PySem.W.Frag) (h:X.K=K:=by rfl):IxR X (rIxT K):=by subst h;exact a1a
def a9U (K:PySem.W.Frag):List V→Hp→VK→Prop:=fun xs H Q=>∃ p ys,xs=[.ref p]∧((SqL K H p ys∧∀ l,H l=none→Q (.ref l) (upd H l (.tup ys)))∨(SqT K H p ys∧Q (.ref p) H))
theorem tupleK {X:Cx} (K:PySem.W.Frag) (h:X.K=K:=by rfl):a2w X (.type "tuple") (a9U K):=by subst h;exact a1u
theorem Wd.upd {H:Hp} {l:Addr} {ls ls':List V} {x:V} {w:List Int} (hl:H l=some (.lst ls)) (h:Wd H x w):Wd (upd H l (.lst ls')) x w:=by
 obtain ⟨a,xs,rfl,e,p⟩:=h
 exact ⟨a,xs,rfl,by rw [a0j (a0G e hl (by intro z;cases z))];exact e,p⟩
theorem Ws.upd {H:Hp} {l:Addr} {ls ls' xs:List V} {ws:List (List Int)} (hl:H l=some (.lst ls)) (h:Ws H xs ws):Ws (upd H l (.lst ls')) xs ws:=Paired.mapP h fun _ _ q=>Wd.upd hl q
section
variable {X:Cx} {elt iter:Expr} {tg:Str} {tp:Pos} {cs:List Expr} {scope:Scope} {pos:Pos} {tc:TT} {te:TE} {M:List Str}
end
def a1Y (h:Heap) (e:Addr) (cls:Value) (od:Option Addr) (hd:Value):Prop:=∃ oe vs,h.get? e=some oe∧oe.cls=cls∧oe.dict=od∧oe.data=.fields vs∧vs[1]?=some hd
def a5J (h:Heap) (T:Addr) (fl:Value):Prop:=∃ oT ts,h.get? T=some oT∧oT.data=.fields ts∧ts[3]?=some fl
def Mv (S fs:List Addr) (h h':Heap):Prop:=∀ b o,h.get? b=some o→b∉S→(b∉fs→h'.get? b=some o)∧∃ sl,h'.get? b=some { o with slots:=sl }
section
variable {S S' fs:List Addr} {h h1 h2:Heap}
theorem Mv.refl:Mv S fs h h:=fun _ o e _=>⟨fun _=>e,o.slots,e⟩
theorem Mv.trans (a:Mv S fs h h1) (b:Mv S fs h1 h2):Mv S fs h h2:=fun c o e n=>by
 obtain ⟨k,sl,e1⟩:=a c o e n
 obtain ⟨_,sl2,e2⟩:=b c _ e1 n
 exact ⟨fun nf=>(b c o (k nf) n).1 nf,sl2,e2⟩
theorem Mv.mono (a:Mv S fs h h1) (hs:∀ b∈S,b∈S'):Mv S' fs h h1:=fun b o e n=>a b o e fun z=>n (hs b z)
theorem Mv.frames (a:Mv S fs h h1) {base:Heap} {l:List Env} (hl:h.FunFrames base l) (hS:∀ b∈S,∀ o,h.get? b=some o→∃ vs,o.data=.fields vs):h1.FunFrames base l :=
 hl.of_keeps fun b o hb hn=>by
  obtain ⟨_,sl,e⟩:=a b o hb fun z=>by
   obtain ⟨vs,q⟩:=hS b z o hb
   exact hn vs q
  exact ⟨_,e,rfl⟩
end
theorem a3M (f:Array Value→Array Value) (o:Obj):(Obj.mapFields f o).dict=o.dict:=by
 obtain ⟨c,d,dt,sl⟩:=o
 cases dt <;> rfl
section
variable {M:Model} {A:Around} {E:Value→Shared→Prop} {s:Shared} {env:Env} {outer:List Env} {base:Heap} {L e T:Addr} {cls hd fl head:Value} {od:Option Addr} {S:List Addr} {Q:Unit→Shared→Prop}
theorem a3p {hadNext:Bool} (hfr:A.frames=some (env :: outer)) (hl:s.heap.FunFrames base (env :: outer)) (hf:env.frame=some L) (x:a1Y s.heap e cls od hd)
  (h:∀ h' T,Mv [e] (frs (env :: outer)) s.heap h'→s.heap.objs.size≤T→T≠e→a1Y h' e cls od (.ref T)→a5J h' T (rawInt L)→Q () { s with heap:=h' }) :
  wpAny M A (do let a ←frameOf env;let pl ←entryPlaceOf L hadNext;let b ←EntryCells.newEntry head a .none (rawInt L) .none pl;setField (.ref e) 1 b) Q E s:=by
 obtain ⟨oe,vs,he,hc,hdd,hd1,h1⟩:=x
 have hsz:1 < vs.size:=(Array.getElem?_eq_some_iff.mp h1).1
 have ne:e∉frs (env :: outer):=fun hm=>by
  obtain ⟨_,o,ho,hn⟩:=hl.mem hm
  rw [he] at ho
  cases ho
  exact hn vs hd1
 refine wpAny_bind (wpAny_frameOf_fun hfr hl hf fun g so=>?_)
 refine wpAny_bind (wpAny_entryPlaceOf fun pl hp=>?_)
 unfold EntryCells.newEntry newFields
 refine wpAny_bind (wpAny_newObj_type ?_ (hp.sizeOk5 _ _ _ _ _))
 have e1:g.get? e=some oe:=(so.2.1 e ne).trans he
 have hTe:g.objs.size≠e:=Nat.ne_of_gt (Heap.lt_size e1)
 have t3:([head,.ref L,.none,rawInt L,.none]++(if pl.isEmpty then List.replicate 6 Value.none else pl)).toArray[3]?=some (rawInt L):=by simp
 generalize ([head,.ref L,.none,rawInt L,.none]++(if pl.isEmpty then List.replicate 6 Value.none else pl)).toArray=ts at t3 ⊢
 have e2:=Heap.get?_push_of_some (h:=g) { cls:=.type "traceback",dict:=none,data:=.fields ts } e1
 refine wpAny_setField e2 hd1 hsz (h _ g.objs.size (fun b o hb hn=>?_) (by rw [so.1];exact Nat.le_refl _) hTe ?_ ?_)
 ·have hbe:b≠e:=fun z=>hn (by rw [z];exact List.mem_cons_self)
  have mv:∀ o',g.get? b=some o'→((g.push { cls:=.type "traceback",dict:=none,data:=.fields ts }).update e (Obj.mapFields (·.setIfInBounds 1 (Value.ref g.objs.size)))).get? b=some o':=fun o' q=>by
   rw [Heap.get?_update_other _ _ (Ne.symm hbe)]
   exact Heap.get?_push_of_some _ q
  obtain ⟨sl,q⟩:=so.2.2 b o hb
  exact ⟨fun nf=>mv o ((so.2.1 b nf).trans hb),sl,mv _ q⟩
 ·exact ⟨_,_,Heap.get?_update_self _ e2 (Obj.isFreed_of_fields (Obj.data_mapFields hd1 _)),(Obj.cls_mapFields _ _).trans hc,(a3M _ _).trans hdd,Obj.data_mapFields hd1 _,by simp [hsz]⟩
 ·refine ⟨{ cls:=.type "traceback",dict:=none,data:=.fields ts },ts,?_,rfl,t3⟩
  rw [Heap.get?_update_other _ _ (Ne.symm hTe)]
  exact Heap.get?_push_size g rfl
def a7l (h:Heap) (e:Addr) (cls:Value) (od:Option Addr) (S:List Addr):Prop :=
 e∈S∧(∀ b∈S,∀ o,h.get? b=some o→∃ vs,o.data=.fields vs)∧∃ hd,a1Y h e cls od hd∧(hd=.none∨∃ T,T∈S∧hd=.ref T∧T≠e∧a5J h T .none)
theorem a6t {x:Value} (t:a5J s.heap T fl) (h:∀ h',h'.objs.size=s.heap.objs.size→a5J h' T x→(∀ b,b≠T→h'.get? b=s.heap.get? b)→Q () { s with heap:=h' }):wpAny M A (setField (.ref T) 3 x) Q E s:=by
 obtain ⟨oT,ts,hT,hdT,h3⟩:=t
 have hsz:3 < ts.size:=(Array.getElem?_eq_some_iff.mp h3).1
 exact wpAny_setField hT hdT hsz (h _ (Heap.size_after_update ..) ⟨_,_,Heap.get?_update_self _ hT (Obj.isFreed_of_fields (Obj.data_mapFields hdT _)),Obj.data_mapFields hdT _,by simp [hsz]⟩ fun b hb=>Heap.get?_update_other _ _ (Ne.symm hb))
theorem a1Y.other {h h':Heap} (x:a1Y h e cls od hd) (k:h'.get? e=h.get? e):a1Y h' e cls od hd:=by
 obtain ⟨oe,vs,he,r⟩:=x
 exact ⟨oe,vs,k.trans he,r⟩
theorem a8k (hfr:A.frames=some (env :: outer)) (hl:s.heap.FunFrames base (env :: outer)) (hf:env.frame=some L) (lo:a7l s.heap e cls od S)
  (h:∀ h' T,Mv S (frs (env :: outer)) s.heap h'→s.heap.objs.size≤T→T≠e→a1Y h' e cls od (.ref T)→a5J h' T (rawInt L)→Q () { s with heap:=h' }):wpAny M A (noteFrame (.ref e) env) Q E s:=by
 obtain ⟨heS,hSf,hd,x,hh⟩:=lo
 unfold noteFrame
 simp only [hf]
 obtain ⟨oe,vs,he,hc,hdd,hd1,h1⟩:=id x
 refine wpAny_bind (wpAny_field he hd1 h1 ?_)
 rcases hh with rfl | ⟨T,hTS,rfl,hTe,tb⟩
 ·rw [if_neg (by decide)]
  exact a3p hfr hl hf x fun h' T m hs hT x' t'=>h h' T (m.mono fun b hb=>by rw [List.mem_singleton.mp hb];exact heS) hs hT x' t'
 ·rw [if_pos (show (Value.ref T != Value.none)=true from by simp)]
  obtain ⟨oT,ts,hT,hdT,h3⟩:=id tb
  refine wpAny_bind (wpAny_field hT hdT h3 ?_)
  rw [if_neg (show ¬ ((Value.none == rawInt L)=true) from by simp [rawInt])]
  refine wpAny_bind (a6t tb fun g m1 t1 k1=>?_)
  have m2:Mv S (frs (env :: outer)) s.heap g:=fun b o hb hn=>by
   have hbT:b≠T:=fun z=>hn (by rw [z];exact hTS)
   have q:=(k1 b hbT).trans hb
   exact ⟨fun _=>q,o.slots,q⟩
  refine a3p (s:={ s with heap:=g }) hfr (m2.frames hl hSf) hf (x.other (k1 e (Ne.symm hTe))) fun h' T' m hs hT' x' t'=>?_
  exact h h' T' (m2.trans (m.mono fun b hb=>by rw [List.mem_singleton.mp hb];exact heS)) (by rw [←m1];exact hs) hT' x' t'
theorem a3q (x:a1Y s.heap e cls od (.ref T)) (t:a5J s.heap T fl) (hTe:T≠e) (h:∀ h',h'.objs.size=s.heap.objs.size→a1Y h' e cls od (.ref T)→a5J h' T .none→(∀ b,b≠T→h'.get? b=s.heap.get? b)→Q () { s with heap:=h' }) :
  wpAny M A (setFlight (.ref e) none) Q E s:=by
 obtain ⟨oe,vs,he,hc,hdd,hd1,h1⟩:=id x
 unfold setFlight
 refine wpAny_bind (wpAny_field he hd1 h1 ?_)
 rw [if_pos (show (Value.ref T != Value.none)=true from by simp)]
 exact a6t t fun g m1 t1 k1=>h g m1 (x.other (k1 e (Ne.symm hTe))) t1 k1
theorem a6u {h:Heap} (x:a1Y h e cls od (.ref T)) (t:a5J h T .none) (hT:T≠e):a7l h e cls od [T,e]:=by
 refine ⟨List.mem_cons_of_mem _ List.mem_cons_self,fun b hb o ho=>?_,.ref T,x,.inr ⟨T,List.mem_cons_self,rfl,hT,t⟩⟩
 rcases List.mem_cons.mp hb with hb | hb
 ·obtain ⟨oT,ts,q,hd,_⟩:=t
  rw [hb,q] at ho
  cases ho
  exact ⟨ts,hd⟩
 ·obtain ⟨oe,vs,q,_,_,hd,_⟩:=x
  rw [List.mem_singleton.mp hb,q] at ho
  cases ho
  exact ⟨vs,hd⟩
theorem a8l (hfr:A.frames=some (env :: outer)) (hl:s.heap.FunFrames base (env :: outer)) (hf:env.frame=some L) (lo:a7l s.heap e cls od S)
  (h:∀ h' T,Mv S (frs (env :: outer)) s.heap h'→s.heap.objs.size≤T→T≠e→a1Y h' e cls od (.ref T)→a5J h' T .none→Q () { s with heap:=h' }) :
  wpAny M A (noteFrame (.ref e) env) (fun _ s1=>wpAny M A (setFlight (.ref e) none) Q E s1) E s:=by
 refine a8k hfr hl hf lo fun g T m hs hT x t=>?_
 refine a3q (s:={ s with heap:=g }) x t hT fun h' m1 x' t' k1=>?_
 have mm:Mv S (frs (env :: outer)) s.heap h':=fun b o hb hn=>by
  have hbT:b≠T:=Nat.ne_of_lt (Nat.lt_of_lt_of_le (Heap.lt_size hb) hs)
  obtain ⟨q1,sl,q2⟩:=m b o hb hn
  exact ⟨fun nf=>(k1 b hbT).trans (q1 nf),sl,(k1 b hbT).trans q2⟩
 exact h h' T mm hs hT x' t'
theorem a9V (hfr:A.frames=some (env :: outer)) (hl:s.heap.FunFrames base (env :: outer)) (hf:env.frame=some L) (lo:a7l s.heap e cls od S)
  (h:∀ h' T,Mv S (frs (env :: outer)) s.heap h'→s.heap.objs.size≤T→a7l h' e cls od [T,e]→Q () { s with heap:=h' }):wpAny M A (leaving env (.ref e)) Q E s:=by
 unfold leaving
 exact wpAny_bind (a8l hfr hl hf lo fun h' T m hs hT x t=>h h' T m hs (a6u x t hT))
end
theorem a1d.obj {P:Program} {w:World} {H:Hp} {h:Heap} {a:Addr} {o:HO} (x:a1d P w H h a o):∃ ob,h.get? a=some ob:=by
 cases o with
 | lst xs=>obtain ⟨_,_,_,_,e⟩:=x;exact ⟨_,e⟩
 | tup xs=>obtain ⟨_,_,_,ob,e,_⟩:=x;exact ⟨_,e⟩
 | dK kvs=>obtain ⟨_,_,_,_,ob,_,_,e,_⟩:=x;exact ⟨_,e⟩
 | dT kvs=>obtain ⟨_,_,_,_,ob,_,_,e,_⟩:=x;exact ⟨_,e⟩
 | set S n=>obtain ⟨ob,_,_,_,e,_⟩:=x;exact ⟨_,e⟩
 | ins C dx fs=>obtain ⟨_,_,_,e,_⟩:=x;exact ⟨_,e⟩
 | own y=>exact x
 | xd fs=>obtain ⟨_,⟨ob,_,_,e,_⟩,_⟩:=x;exact ⟨_,e⟩
 | rng lo hi=>obtain ⟨_,_,_,e⟩:=x;exact ⟨_,e⟩
 | frz ob u=>obtain ⟨e,_⟩:=x;exact ⟨_,e⟩
 | tbl ps=>exact ⟨_,show h.get? a=some _ from x⟩
 | met f y=>exact ⟨_,show h.get? a=some _ from x⟩
 | ext φ=>obtain ⟨_,e,_⟩:=x;exact e
theorem HOk.none_of {P:Program} {w:World} {H:Hp} {h:Heap} (x:HOk P w H h) {a:Addr} (n:h.get? a=none):H a=none:=by
 cases e:H a with
 | none=>rfl
 | some o =>
  obtain ⟨ob,q⟩:=(x a o e).obj
  rw [n] at q
  cases q
section
variable {X:Cx} {pins:List (Addr × Obj)} {σ:St} {H H':Hp} {s:Shared} {h':Heap} {b:Addr} {S:List Addr}
def Off (X:Cx) (pins:List (Addr × Obj)) (b:Addr):Prop :=
 (∀ o,X.s₀.heap.get? b=some o→b∈X.ex)∧b≠X.env.locals∧(∀ x c,X.env.cells.lookup x=some c→c≠b)∧∀ p∈X.pn++pins,p.1≠b
theorem Inv.off (I:Inv X pins σ H s) (n:s.heap.get? b=none):Off X pins b:=by
 refine ⟨fun o e=>?_,fun z=>?_,fun x c e z=>?_,fun p hp z=>?_⟩
 ·by_cases hx:b∈X.ex
  ·exact hx
  ·obtain ⟨o',e'⟩:=I.base.there b o e hx
   rw [n] at e'
   cases e'
 ·obtain ⟨m,⟨o,_,_,ho,_⟩,_⟩:=I.loc
  rw [z,ho] at n
  cases n
 ·obtain ⟨v,o,ho,_⟩:=I.cell x c e
  rw [z,n] at ho
  cases ho
 ·have q:=(I.pin p hp).1
  rw [z,n] at q
  cases q
theorem Inv.moved {t':Nat} (I:Inv X pins σ H s) (m:Mv S (frs X.stack) s.heap h') (hS:∀ b∈S,Off X pins b∧H b=none):Inv X pins σ H { s with heap:=h',toks:=t' }:=by
 have neL:∀ b o,X.s₀.heap.get? b=some o→b≠X.env.locals:=fun b o e=>Nat.ne_of_lt (Nat.lt_of_lt_of_le (Heap.lt_size e) I.ok.above)
 have nS:∀ b o,X.s₀.heap.get? b=some o→b∉X.ex→b∉S:=fun b o e hx z=>hx ((hS b z).1.1 o e)
 have nst:∀ b,b≠X.env.locals→b∉X.fs→b∉frs X.stack:=fun b h1 h2 z=>(List.mem_cons.mp (I.stkSub b z)).elim h1 h2
 have cellM:∀ x c,X.env.cells.lookup x=some c→∀ v,s.heap.IsCell c v→h'.IsCell c v:=fun x c e v ⟨o,ho,hd⟩=>by
  obtain ⟨_,sl,q⟩:=m c o ho fun z=>(hS c z).1.2.2.1 x c e rfl
  exact ⟨_,q,hd⟩
 refine ⟨I.ok,I.os,I.bare,⟨fun b o e n hb hx=>?_,fun b o e n hb hx=>?_,I.base.free,fun b o e hx=>?_,I.base.tups,I.base.frzs,I.base.tbls⟩,?_,fun x c e=>?_,I.free,I.freeC,fun p hp=>?_,fun b u e=>?_,I.len⟩
 ·exact (m b o (I.base.keep b o e n hb hx) (nS b o e hx)).1 (nst b (neL b o e) hb)
 ·obtain ⟨sl,e1⟩:=I.base.slot b o e n hb hx
  obtain ⟨_,sl',e2⟩:=m b _ e1 (nS b o e hx)
  exact ⟨sl',e2⟩
 ·obtain ⟨o',e1⟩:=I.base.there b o e hx
  obtain ⟨_,sl,e2⟩:=m b _ e1 (nS b o e hx)
  exact ⟨_,e2⟩
 ·obtain ⟨mm,hn,hl⟩:=I.loc
  refine ⟨mm,?_,fun i x v e1 e2 e3=>?_⟩
  ·obtain ⟨o,es,ep,ho,r⟩:=hn
   obtain ⟨_,sl,q⟩:=m _ o ho fun z=>(hS _ z).1.2.1 rfl
   exact ⟨_,es,ep,q,r⟩
  ·obtain ⟨u,r,l⟩:=hl i x v e1 e2 e3
   refine ⟨u,r,?_⟩
   rcases l with l | ⟨k,c,e,z⟩
   ·exact .inl l
   ·exact .inr ⟨k,c,e,cellM x c e _ z⟩
 ·obtain ⟨v,z⟩:=I.cell x c e
  exact ⟨v,cellM x c e v z⟩
 ·obtain ⟨e,n,ne,nf,d⟩:=I.pin p hp
  exact ⟨(m _ _ e fun z=>(hS _ z).1.2.2.2 p hp rfl).1 (nst _ ne nf),n,ne,nf,d⟩
 ·refine (I.hok b u e).stay (fun c v hc q=>?_) (fun _ q=>q) fun _ _ q=>q
  have ht:H c≠none:=by
   rcases hc with rfl | hc
   ·rw [e];exact fun z=>nomatch z
   ·rw [hc];exact fun z=>nomatch z
  exact (m c v q fun z=>ht (hS c z).2).1 fun z=>ht (I.stkFree c z)
theorem Inv.track {φ:Heap→Prop} (I:Inv X pins σ H s) (ob:Off X pins b) (n:H b=none) (hφ:φ s.heap) (ho:∃ o,s.heap.get? b=some o) (st:∀ h1 h2:Heap,φ h1→(∀ o,h1.get? b=some o→h2.get? b=some o)→φ h2)
  (nf:b∉X.fs):Inv X pins σ (upd H b (.ext φ)) s:=by
 refine ⟨I.ok,I.os,I.bare,⟨I.base.keep,I.base.slot,fun c o e n' hx=>?_,I.base.there,fun c xs e=>?_,fun c o u e=>?_,fun c ps e=>?_⟩,I.loc,I.cell,?_,fun x c e=>?_,fun p hp=>?_,fun c u e=>?_,I.len⟩
 ·have hcb:c≠b:=fun z=>by
   subst z
   exact hx (ob.1 o e)
  rw [a0j hcb]
  exact I.base.free c o e n' hx
 ·rw [a0j (a0J (I.base.tups c xs e) n)]
  exact I.base.tups c xs e
 ·rw [a0j (a0J (I.base.frzs c o u e) n)]
  exact I.base.frzs c o u e
 ·obtain ⟨more,q⟩:=I.base.tbls c ps e
  exact ⟨more,by rw [a0j (a0J q n)];exact q⟩
 ·rw [a0j (Ne.symm ob.2.1)]
  exact I.free
 ·rw [a0j (ob.2.2.1 x c e)]
  exact I.freeC x c e
 ·obtain ⟨e,n',ne,nf',d⟩:=I.pin p hp
  exact ⟨e,by rw [a0j (ob.2.2.2 p hp)];exact n',ne,nf',d⟩
 ·by_cases hc:c=b
  ·subst hc
   rw [a0c] at e
   cases e
   exact ⟨hφ,ho,st⟩
  ·rw [a0j hc] at e
   refine (I.hok c u e).stay (fun _ _ _ q=>q) (fun d r=>?_) fun d xs r=>?_
   ·rw [a0j (a0J r n)];exact r
   ·rw [a0j (a0J r n)];exact r
end
def CXF (P:Program) (w:World):CXT:=fun outer H s E e s'=>∃ (ea:Addr) (cls:Value) (od:Option Addr) (S:List Addr) (H':Hp),e=.ref ea∧s'.os=s.os∧AllBare s'.gens ∧
 Un (frs outer) [] H H' s.heap s'.heap∧HOk P w H' s'.heap∧a7l s'.heap ea cls od S∧(∀ b∈S,s.heap.get? b=none∧H' b=none)∧E cls od H'
section
variable {P:Program} {w:World} {K:PySem.W.Frag} {mg:Str→Option Value} {base:Heap} {N:List Str} {qual:Str} {scope:Scope} {f:Addr} {cd:Value} {A:Around} {outer:List Env} {s₀:Shared} {H₀:Hp} {E:XK}
theorem a0A:a1R (CXF P w) (a5v (CXF P w) P w K mg base N qual scope f cd A outer s₀ H₀ E) E:=by
 intro pins σ H s e s' I h
 obtain ⟨ea,cls,od,S,H',rfl,os,bare,un,hok,lo,hS,q⟩:=h
 have I1:=I.call' (ch:=[]) os un hok bare (fun b z=>absurd z (by simp))
 show wpAny _ _ (leaving _ (.ref ea)) _ _ s'
 refine a9V I.ok.frames I1.stack rfl lo fun h' T m hs lo'=>?_
 have I2:Inv _ pins σ H' { s' with heap:=h',toks:=s'.toks }:=I1.moved (S:=S) m fun b hb=>⟨I.off (hS b hb).1,(hS b hb).2⟩
 have out:∀ b,Off (a5v (CXF P w) P w K mg base N qual scope f cd A outer s₀ H₀ E) pins b→s₀.heap.get? b=none:=fun b ob=>by
  cases e:s₀.heap.get? b with
  | none=>rfl
  | some o=>exact absurd (ob.1 o e) (by show b∉([]:List Addr);simp)
 refine ⟨ea,cls,od,[T,ea],H',rfl,I2.os,I2.bare,I2.base,I2.hok,lo',fun b hb=>?_,q⟩
 rcases List.mem_cons.mp hb with rfl | hb
 ·exact ⟨out _ (I1.off (Heap.get?_none_of_le hs)),I1.hok.fresh hs⟩
 ·rw [List.mem_singleton.mp hb]
  exact ⟨out _ (I.off (hS ea lo.1).1),(hS ea lo.1).2⟩
theorem Fun.okF {x qual:Str} {st:Stmt} {f:Addr} {fd:FuncData} {N ps:List Str} {k:Nat} {sp:Sp} (F:Fun K x qual st f fd) (S:a0n N ps (a0b st)) (len:∀ vs H Q E,sp vs H Q E→vs.length=ps.length)
  (hbody:∀ (cdv:Value) (A:Around) (outer:List Env) (s:Shared) (H:Hp) (vs:List V) (Q:VK) (E:XK),a1Q k (A.deeper (envOfC qual (a0b st) s.heap.objs.size f cdv))→sp vs H Q E →
   ∃ t,PSs (a5v (CXF P w) P w K mg base N qual (a0b st) f cdv A outer s H E) (a0k st) t∧t { nx:=fun _ H'=>Q .non H',rt:=Q } (start N vs) H):a0O P w K mg base (CXF P w) (k+1) f fd ps sp:=by
 obtain ⟨oc,od,kV,doc,pm,an,cdv,ct,osl,rfl,lk,hcd⟩:=F.ex
 exact b1Y lk hcd S len fun A outer s H vs Q E hr hsp=>hbody cdv A outer s H vs Q E hr hsp
end
abbrev b3r:List Value:=[.type "ValueError",.type "Exception",.type "BaseException",.type "object"]
abbrev a5K:String:="ValueError.__new__"
structure Ecl (K:PySem.W.Frag) (C:Addr):Prop where
 ex:PySem.W.excIn K C b3r a5K=true
theorem Ecl.obj {K:PySem.W.Frag} {C:Addr} (c:Ecl K C) {h:Heap} (X:K.In h):∃ bm N nm q bs hdct sn sub ab col dd k0 k1 k2 k3 k5 mN,h.get? C=some (excClassObj nm q C N bs bm hdct sn sub ab col dd k0 k1 k2 k3 k5 a5K)∧h.Ns N mN∧mN "__init__"=none∧OwnTail h b3r bm:=by
 have q:=c.ex
 unfold PySem.W.excIn at q
 split at q
 ·rename_i dd cd sl ho
  split at q
  ·rename_i C' bm k0 k1 k2 k3 n k5 hm hs
   simp only [Bool.and_eq_true,beq_iff_eq,Bool.not_eq_true'] at q
   obtain ⟨⟨⟨⟨⟨rfl,rfl⟩,hdel⟩,ht⟩,hok⟩,hni⟩:=q
   obtain ⟨nm,bs,mro,ns,qn,hd,sn,sub,ab,col,del⟩:=cd
   dsimp only at hm hdel hok hni
   subst hm hdel
   obtain ⟨l⟩:=sl
   have hl:l=[k0,k1,k2,k3,some (.builtin a5K),k5]:=hs
   subst hl
   exact ⟨bm,ns,nm,qn,bs,hd,sn,sub,ab,col,dd,k0,k1,k2,k3,k5,_,X _ _ ho,.of_isNs (PySem.W.isNs_of_in X hok),PySem.W.nsMap_none_of_in X hok hni,PySem.W.tail_of_in X ht⟩
  ·cases q
 ·cases q
def tRaise (C:Addr) (E:XK) (ta:TA):TS:=fun _ σ H=>ta σ H fun vs H1=>vs.length≤1000∧E (.ref C) none H1
theorem a2C {X:Cx} {E:XK} {x:Str} {C:Addr} {np cpos pos:Pos} {e:Expr} {es:List Expr} {ta:TA} (hx:a1R (CXF X.prog X.w) X E) (hc:X.calm=true) (hg:Gl X x) (hm:X.mg x=some (.ref C)) (hcl:Ecl X.K C) (ha:PA X (e :: es) ta)
  (hdb:(x == ("__debug__":Str))=false:=by decide) (he:starEach (e :: es) X.env=(false,eval e X.env) :: starEach es X.env:=by rfl) (hpl:(backTo cpos (starEach (e :: es) X.env)).any (·.1)=false:=by rfl) :
  PS X (.Raise (some (.Call (.Name x np) (e :: es) [] cpos)) none pos) (tRaise C E ta):=by
 intro pins s σ H D I h
 obtain ⟨bm,N,nm,q,bs,hdct,sn,sub,ab,col,dd,k0,k1,k2,k3,k5,mN,hC,hN,hni,T⟩:=hcl.obj I.ok.mod.kin
 refine wpAny_Raise_call_subT (C:=C) (nm:=nm) (q:=q) (N:=N) (bs:=bs) (bm:=bm) (hdct:=hdct) (sn:=sn) (sub:=sub) (ab:=ab) (col:=col) (dd:=dd) (k0:=k0) (k1:=k1) (k2:=k2) (k3:=k3) (k5:=k5) PySem.F.excBase_ValueError (T.hasType (by decide +kernel)) (I.ok.hd hc) hpl hni (a2m I hg hm ⟨rfl,?_⟩ hdb)
 have ha':=ha cpos pins s σ H _ I h
 rw [he] at ha' ⊢
 refine Calls.evalArgs_plain (thn ha' fun us s1 ⟨vs,H1,I1,r,hl,q⟩=>?_)
 have kb:=I1.bk
 refine ⟨rfl,?_,kb _ _ hC,hN.keeps kb,T.keeps kb,fun h' ea me=>?_⟩
 ·show us.length≤sizeLine
  rw [←r.length]
  exact small hl
 ·refine hx pins σ H1 s1 (.ref ea) _ I1 ⟨ea,.ref C,none,[ea],H1,rfl,rfl,I1.bare,Un.kept me.keeps,I1.hok.kept me.keeps,?_,fun b hb=>?_,q⟩
  ·obtain ⟨t,ht,_,_⟩:=me.there
   refine ⟨List.mem_cons_self,fun b hb o ho=>?_,.none,⟨_,_,ht,rfl,rfl,rfl,rfl⟩,.inl rfl⟩
   rw [List.mem_singleton.mp hb,ht] at ho
   cases ho
   exact ⟨_,rfl⟩
  ·rw [List.mem_singleton.mp hb]
   exact ⟨me.new,I1.hok.none_of me.new⟩
abbrev Cx.tryx (X:Cx) (pn:List (Addr × Obj)) (xe:Value→Shared→Prop):Cx:={ X with pn:=pn,xe:=xe }
abbrev Cx.hand (X:Cx) (ea:Addr):Cx:={ X with A:=X.A.mark (some (.ref ea)),calm:=false,xe:=fun _ _=>False }
section
variable {X:Cx} {pins pins':List (Addr × Obj)} {σ:St} {H:Hp} {s:Shared} {h':Heap} {ea:Addr} {xe:Value→Shared→Prop}
theorem Inv.tryx (I:Inv X pins σ H s) (xe:Value→Shared→Prop):Inv (X.tryx (X.pn++pins) xe) [] σ H s :=
 ⟨⟨I.ok.mod,I.ok.kind,I.ok.glob,I.ok.blt,I.ok.above,I.ok.inj,I.ok.has,I.ok.cab,I.ok.hd,I.ok.frames,I.ok.stk,I.ok.exf,I.ok.bs,I.ok.bsz,I.ok.noex,I.ok.exfs,I.ok.funs,I.ok.frf⟩,I.os,I.bare,I.base,I.loc,I.cell,I.free,I.freeC,
  fun p hp=>I.pin p (by rw [List.append_nil] at hp;exact hp),I.hok,I.len⟩
theorem Inv.untryx (ok:X.Ok) (I:Inv (X.tryx (X.pn++pins) xe) pins' σ H s):Inv X pins σ H s :=
 ⟨ok,I.os,I.bare,I.base,I.loc,I.cell,I.free,I.freeC,fun p hp=>I.pin p (List.mem_append_left _ hp),I.hok,I.len⟩
theorem Inv.hand (I:Inv X pins σ H s) (ea:Addr):Inv (X.hand ea) pins σ H s :=
 ⟨⟨I.ok.mod,I.ok.kind,I.ok.glob,I.ok.blt,I.ok.above,I.ok.inj,I.ok.has,I.ok.cab,fun z=>absurd (show false=true from z) (by decide),I.ok.frames,I.ok.stk,I.ok.exf,I.ok.bs,I.ok.bsz,I.ok.noex,I.ok.exfs,I.ok.funs,I.ok.frf⟩,I.os,I.bare,I.base,I.loc,I.cell,I.free,I.freeC,I.pin,I.hok,I.len⟩
theorem Inv.unhand (ok:X.Ok) (I:Inv (X.hand ea) pins σ H s):Inv X pins σ H s:=⟨ok,I.os,I.bare,I.base,I.loc,I.cell,I.free,I.freeC,I.pin,I.hok,I.len⟩
theorem Inv.unbind {i:Nat} {n:Str} {m:Str→Option Value} {v:Option Value} {t':Nat} (I:Inv X pins σ H s) (hN:X.N.Nodup) (hi:X.N[i]?=some n)
  (hm:∀ (i:Nat) (x:Str) (v:V),X.N[i]?=some x→σ[i]?=some (some v)→Vis X.env.scope x→∃ u,a0U v u∧Look X.env s.heap m x u)
  (hns:h'.Ns X.env.locals (fun x=>if x=n then v else m x)) (hs:Heap.SameBut X.env.locals s.heap h'):Inv X pins (σ.set i none) H { s with heap:=h',toks:=t' }:=by
 have k:∀ b o,b≠X.env.locals→s.heap.get? b=some o→h'.get? b=some o:=fun b o ne e=>(hs.2 b ne).trans e
 have neL:∀ b o,X.s₀.heap.get? b=some o→b≠X.env.locals:=fun b o e=>Nat.ne_of_lt (Nat.lt_of_lt_of_le (Heap.lt_size e) I.ok.above)
 have cellM:∀ x c,X.env.cells.lookup x=some c→∀ v,s.heap.IsCell c v→h'.IsCell c v:=fun x c e v ⟨o,ho,hd⟩=>⟨o,k c o (I.cne x c e) ho,hd⟩
 refine ⟨I.ok,I.os,I.bare,⟨fun b o e n hb hx=>?_,fun b o e n hb hx=>?_,I.base.free,fun b o e hx=>?_,I.base.tups,I.base.frzs,I.base.tbls⟩,⟨_,hns,fun j x w e1 e2 e3=>?_⟩,fun x c e=>?_,I.free,I.freeC,fun p hp=>?_,fun b u e=>?_,?_⟩
 ·exact k b o (neL b o e) (I.base.keep b o e n hb hx)
 ·obtain ⟨sl,q⟩:=I.base.slot b o e n hb hx
  exact ⟨sl,k b _ (neL b o e) q⟩
 ·obtain ⟨o',q⟩:=I.base.there b o e hx
  exact ⟨o',k b _ (neL b o e) q⟩
 ·have hji:j≠i:=fun z=>by
   subst z
   rw [List.getElem?_set] at e2
   split at e2
   ·split at e2 <;> cases e2
   ·contradiction
  rw [List.getElem?_set_ne (Ne.symm hji)] at e2
  have hxn:x≠n:=fun z=>hji (a4k hN (z▸e1) hi)
  obtain ⟨u,r,l⟩:=hm j x w e1 e2 e3
  refine ⟨u,r,?_⟩
  rcases l with ⟨l1,l2⟩ | ⟨l1,c,e,z⟩
  ·exact .inl ⟨l1,by show (if x=n then v else m x)=some u;rw [if_neg hxn];exact l2⟩
  ·exact .inr ⟨l1,c,e,cellM x c e _ z⟩
 ·obtain ⟨v,z⟩:=I.cell x c e
  exact ⟨v,cellM x c e v z⟩
 ·obtain ⟨e,n',ne,nf,d⟩:=I.pin p hp
  exact ⟨k _ _ ne e,n',ne,nf,d⟩
 ·refine (I.hok b u e).stay (fun c v hc q=>k c v (fun z=>?_) q) (fun _ q=>q) fun _ _ q=>q
  rcases hc with rfl | hc
  ·rw [z,I.free] at e;cases e
  ·rw [z,I.free] at hc;cases hc
 ·rw [List.length_set]
  exact I.len
end
def a3N (ea C:Addr) (od:Option Addr):HO:=.ext fun h=>∃ oe vs,h.get? ea=some oe∧oe.cls=.ref C∧oe.dict=od∧oe.data=.fields vs
structure Hcl (K:PySem.W.Frag) (D:Addr):Prop where
 ty:PySem.W.typeIn K (.ref D)=some (.type "type")
 cl:(PySem.W.clsIn K D).isSome=true
 be:PySem.W.subIn K (.ref D) (.type "BaseException")=some true
theorem a5L {K:PySem.W.Frag} {M:Model} {A:Around} {E:Value→Shared→Prop} {s:Shared} {ea C D:Addr} {oe:Obj} {Q:Bool→Shared→Prop} (X:K.In s.heap) (he:s.heap.get? ea=some oe) (hc:oe.cls=.ref C) (hD:Hcl K D)
  (sb:PySem.W.subIn K (.ref C) (.ref D)=some true) (h:Q true s):wpAny M A (excMatches (.ref ea) (.ref D)) Q E s:=by
 obtain ⟨hp,g,d,tk,os⟩:=s
 have L1:PySem.W.Looks M hp (typeOf (.ref D)) (.type "type"):=PySem.W.looks_typeIn X hD.ty
 have L2:PySem.W.Looks M hp (isType (.ref D)) true:=by
  have q:=hD.cl
  unfold PySem.W.clsIn at q
  split at q
  ·rename_i ho
   intro A' Q' E' s' k q
   unfold isType loadHead
   exact wpAny_bind (wpAny_loadPart (k _ _ (X _ _ ho)) (wpAny_pure q))
  ·cases q
 have L3:PySem.W.Looks M hp (isSubtype (.ref D) (.type "BaseException")) true:=PySem.W.looks_subIn X hD.be
 have L4:PySem.W.Looks M hp (isSubtype (.ref C) (.ref D)) true:=PySem.W.looks_subIn X sb
 have L5:PySem.W.Looks M hp (typeOf (.ref ea)) (.ref C):=hc▸(PySem.W.Looks.ld he).andThen .now
 have L6:PySem.W.Looks M hp (isSubtype (.type "type") (.type "tuple")) false:=.of_pure tc_notTuple
 unfold excMatches isInstance
 repeat (first | with_reducible refine PySem.W.Looks.at (by assumption) ?_ | wp_step)
 exact h
def a8m (X:Cx) (Ex:St→XK):Prop:=∀ (pins:List (Addr × Obj)) (σ:St) (H:Hp) (s:Shared) (e:Value) (s':Shared),Inv X pins σ H s→CXF X.prog X.w X.stack H s (Ex σ) e s'→X.xe e s'
def tCallX (sp:Sp) (Ex:St→XK) (t:TA):TE:=fun σ H Q=>t σ H fun vs H1=>sp vs H1 Q (Ex σ)
theorem a9W {X:Cx} {k:Nat} {f:Addr} {fd:FuncData} {ps:List Str} {sp:Sp} {Ex:St→XK} {x:Str} {p pos:Pos} {e:Expr} {es:List Expr} {t:TA} (F:a0O X.prog X.w X.K X.mg X.base (CXF X.prog X.w) k f fd ps sp) (hr:a1Q k X.A) (hg:Gl X x) (hm:X.mg x=some (.ref f))
  (hk:PySem.W.keepIn X.K (.ref f)=true) (hb:a1E X.K fd ps []) (hx:a8m X Ex) (ha:PA X (e :: es) t) (hdb:(x == ("__debug__":Str))=false:=by decide) (he:starEach (e :: es) X.env=(false,eval e X.env) :: starEach es X.env:=by rfl)
  (hpl:(backTo pos (starEach es X.env)).any (·.1)=false:=by rfl):PE X (.Call (.Name x p) (e :: es) [] pos) (tCallX sp Ex t):=by
 intro pins s σ H Q I h
 refine wpAny_Call_Name_kw (a2m I hg hm ?_ hdb)
 refine PySem.W.callWith_K (h₀:=X.base) I.ok.mod.kin hk (thn (ha pos pins s σ H _ I h) fun us s1 ⟨vs,H1,I1,r,q⟩=>⟨I1.kIn,?_⟩) he hpl
 have hl:us.length=ps.length:=by rw [←r.length];exact F.len _ _ _ _ q
 have hb':=hb s1 us I1.kIn (by rw [List.append_nil];exact hl)
 rw [List.append_nil] at hb'
 refine wpAny_call (codeAny_mono (F.run X.A X.stack s1 H1 ⟨us,[]⟩ us vs Q (Ex σ) hr I1.env0 hb' r q) fun r s' hq=>?_)
 cases r with
 | error e=>exact hx pins σ H1 s1 e s' I1 hq
 | ok fl =>
  cases fl with
  | ret u=>exact I1.after hq
  | next=>exact False.elim hq
  | brk=>exact False.elim hq
  | cont=>exact False.elim hq
def tTry (K:PySem.W.Frag) (D:Addr) (i:Nat) (tb:(St→XK)→TS) (ts:TS):TS:=fun G σ H=>tb (fun σ' cls od H'=>∃ C,cls=.ref C∧PySem.W.subIn K (.ref C) (.ref D)=some true ∧
 ∀ ea,H' ea=none→ts { G with nx:=fun σ2 H2=>G.nx (σ2.set i none) H2,bk:=fun _ _=>False,ct:=fun _ _=>False } (σ'.set i (some (.ref ea))) (upd H' ea (a3N ea C od))) G σ H
theorem ps_try {X:Cx} {body suite:List Stmt} {b₀:Stmt} {c n:Str} {D:Addr} {i:Nat} {np hpos pos:Pos} {tb:(St→XK)→TS} {ts:TS} (hc:X.calm=true) (hfrm:X.stack=X.env :: X.outer∧X.env.frame=some X.env.locals)
  (hb:∀ (pn:List (Addr × Obj)) (xe:Value→Shared→Prop) (Ex:St→XK),a8m (X.tryx pn xe) Ex→PSs (X.tryx pn xe) body (tb Ex)) (hs:∀ ea,PSs (X.hand ea) (b₀ :: suite) ts)
  (hN:X.N.Nodup) (hi:X.N[i]?=some n) (hn:X.env.scope.names.lookup n=some .local) (hg:Gl X c) (hm:X.mg c=some (.ref D)) (hD:Hcl X.K D) (hdb:(c == ("__debug__":Str))=false:=by decide) :
  PS X (.Try body [.ExceptHandler (some (.Name c np)) (some n) (b₀ :: suite) hpos] [] [] pos) (tTry X.K D i tb ts):=by
 intro pins s σ H G I h
 refine wpAny_Try_except ?_
 refine wpAny_mono (hb (X.pn++pins) (fun e s₁=>wpAny (model X.prog X.w) X.A (noteFrame e X.env) (fun _ s₂=>wpAny (model X.prog X.w) X.A (setFlight e none) (fun _ s₃ =>
   wpAny (model X.prog X.w) X.A (handleBy e X.env [.ExceptHandler (some (.Name c np)) (some n) (b₀ :: suite) hpos]) (SP X pins G) X.xe s₃) X.xe s₂) X.xe s₁) _ ?_ [] s σ H G (I.tryx _) h) (fun fl s1 q=>?_) fun _ _ z=>z
 ·intro pins' σ1 H1 s1 e s' I1 hx
  obtain ⟨ea,cls,od,S,H',rfl,os,bare,un,hok,lo,hS,C,rfl,sb,q⟩:=hx
  have J1:Inv X pins σ1 H1 s1:=I1.untryx I.ok
  have J2:Inv X pins σ1 H' s':=J1.call' (ch:=[]) os un hok bare (fun b z=>absurd z (by simp))
  show wpAny _ _ (noteFrame (.ref ea) X.env) _ _ s'
  have st:=J2.stack
  rw [hfrm.1] at st
  have hfr:=I.ok.frames
  rw [hfrm.1] at hfr
  refine a8l hfr st hfrm.2 lo fun h3 T m3 hs3 hT x3 t3=>?_
  rw [←hfrm.1] at m3
  have J3:Inv X pins σ1 H' { s' with heap:=h3,toks:=s'.toks }:=J2.moved (S:=S) m3 fun b hb=>⟨J1.off (hS b hb).1,(hS b hb).2⟩
  have oE:=J1.off (hS ea lo.1).1
  have nE:=(hS ea lo.1).2
  obtain ⟨oe,vs,he,hcls,hdd,hd1,h1⟩:=id x3
  refine wpAny_handleBy_cons (codeAny_handlers_test ?_) (by intro z;cases z)
  refine a2m (X:=X.hand ea) (J3.hand ea) hg hm ?_ hdb
  refine a5L (K:=X.K) J3.kIn he hcls hD sb (codeAny_handlers_suite_as ?_)
  refine a3q (s:={ s' with heap:=h3,toks:=s'.toks }) x3 t3 hT fun h4 m4 x4 t4 k4=>?_
  have J4:Inv X pins σ1 H' { s' with heap:=h4,toks:=s'.toks }:=J3.moved (S:=[T]) (fun b o hb hn=>by
   have hbT:b≠T:=fun z=>hn (by rw [z];exact List.mem_cons_self)
   have z:=(k4 b hbT).trans hb
   exact ⟨fun _=>z,o.slots,z⟩) fun b hb=>by
    rw [List.mem_singleton.mp hb]
    exact ⟨J2.off (Heap.get?_none_of_le hs3),J2.hok.fresh hs3⟩
  have nf:ea∉X.fs:=fun z=>by
   obtain ⟨_,o,ho,_⟩:=I.ok.funs.mem z
   exact I.ok.exfs ea (oE.1 o ho) z
  obtain ⟨oe4,vs4,he4,hcls4,hdd4,hd14,h14⟩:=id x4
  have J5:Inv X pins σ1 (upd H' ea (a3N ea C od)) { s' with heap:=h4,toks:=s'.toks }:=J4.track oE nE ⟨oe4,vs4,he4,hcls4,hdd4,hd14⟩ ⟨oe4,he4⟩ (fun g1 g2 ⟨o,v,q1,q2⟩ k=>⟨o,v,k o q1,q2⟩) nf
  refine a3i (X:=X.hand ea) (J5.hand ea) hN hi (.inl hn) (v:=.ref ea) rfl (fun s6 J6 _=>?_) (.inr hn)
  refine wpAny_mono (hs ea pins s6 _ _ _ J6 (q ea nE)) (fun f s7 z=>?_) fun _ _ z=>z.elim
  have fin:∀ {σ7:St} {H7:Hp} {R:Shared→Prop},Inv (X.hand ea) pins σ7 H7 s7→(∀ s8,Inv X pins (σ7.set i none) H7 s8→R s8)→wpAny (model X.prog X.w) X.A (do bindName X.env n .none;unbindBehindTheSuite X.env n hpos) (fun _ s8=>R s8) X.xe s7:=fun {σ7 H7 R} J7 k=>by
   have J7':=J7.unhand I.ok
   obtain ⟨m,hn7,hl7⟩:=id J7'.loc
   exact wpAny_nameGoes_keeps hn hn7 (by rw [I.ok.kind];rfl) fun h' v hns hsb=>k _ (J7'.unbind hN hi hl7 hns hsb)
  cases f with
  | next =>
   obtain ⟨σ7,H7,J7,z⟩:=z
   exact fin (R:=SP X pins G .next) J7 fun s8 J8=>⟨_,H7,J8,z⟩
  | brk =>
   obtain ⟨σ7,H7,J7,z⟩:=z
   exact z.elim
  | cont =>
   obtain ⟨σ7,H7,J7,z⟩:=z
   exact z.elim
  | ret u =>
   obtain ⟨v,σ7,H7,J7,r,z⟩:=z
   exact fin (R:=SP X pins G (.ret u)) J7 fun s8 J8=>⟨v,_,H7,J8,r,z⟩
 ·cases fl with
  | next =>
   obtain ⟨σ',H',J,z⟩:=q
   exact wpAny_execs_nil ⟨σ',H',J.untryx I.ok,z⟩
  | brk =>
   obtain ⟨σ',H',J,z⟩:=q
   exact ⟨σ',H',J.untryx I.ok,z⟩
  | cont =>
   obtain ⟨σ',H',J,z⟩:=q
   exact ⟨σ',H',J.untryx I.ok,z⟩
  | ret u =>
   obtain ⟨v,σ',H',J,r,z⟩:=q
   exact ⟨v,σ',H',J.untryx I.ok,r,z⟩
def tMidT (t:TT):TT:=fun σ H Q=>∃ Mid:Bool→Hp→Prop,t σ H Mid∧∀ b H',Mid b H'→Q b H'
theorem b1o {X:Cx} {e:Expr} {t:TT} (h:PT X e t):PT X e (tMidT t):=by
 intro pins s σ H Q I ⟨Mid,h1,h2⟩
 exact thn (h pins s σ H _ I h1) fun b s' ⟨H',I',m⟩=>⟨H',I',h2 _ _ m⟩
structure Ek (K:PySem.W.Frag) (C:Addr):Prop where
 cl:(PySem.W.clsIn K C).isSome=true
 ga:PySem.W.findIn K (.ref C) "__getattribute__"=some (some (.builtin "BaseException.__getattribute__"))
 gt:PySem.W.findIn K (.ref C) "__getattr__"=some none
 ca:PySem.W.findIn K (.ref C) "__class__"=some (some (.builtin "object.__class__"))
 be:PySem.W.subIn K (.ref C) (.type "BaseException")=some true
 ob:PySem.W.mroIn K C (.type "object")=some true
 cg:PySem.W.specialIn K (.builtin "object.__class__") "__get__"=some (some (.builtin "getset_descriptor.__get__"))
 ct:PySem.W.takesIn K (.builtin "object.__class__")=some true
section
variable {K:PySem.W.Frag} {prog:Program} {w:World} {A:Around} {E:Value→Shared→Prop} {s:Shared} {x C:Addr} {ox:Obj} {od:Option Obj} {name:Str} {tk:Tok}
theorem a8n {M:Model} {nv:Value} {Q:Unit→Shared→Prop} (X:K.In s.heap) (I:PySem.W.InstAt s.heap x ox C od) (G:Ek K C) (h:Q () s):wpAny M A (checkBuiltinCall "BaseException.__getattribute__" ⟨[.ref x,nv],[]⟩) Q E s:=by
 obtain ⟨hp,g,d,t,os⟩:=s
 have hk:builtinKind "BaseException.__getattribute__"=some .slot:=by decide +kernel
 have hsplit:splitId "BaseException.__getattribute__"=some ("BaseException","__getattribute__"):=by decide +kernel
 have L0:=I.type (M:=M)
 have L1:PySem.W.Looks M hp (isSubtype (.ref C) (.type "BaseException")) true:=PySem.W.looks_subIn X G.be
 have ha:=PySem.F.args_bexc_ga (.ref x) nv
 simp only [checkBuiltinCall,hk,hsplit]
 refine wpAny_bind ?_
 unfold isInstance
 repeat (first | with_reducible refine PySem.W.Looks.at (by assumption) ?_ | wp_step)
 exact h
theorem exc_by {fill expr:Bool} {Q:Value→Shared→Prop} (X:K.In s.heap) (I:PySem.W.InstAt s.heap x ox C od) (G:Ek K C)
  (h:wpAny (model prog w) A.in1 (Builtin.«object.__getattribute__» ⟨[.ref x,.str name tk],[]⟩) (fun fin s'=>match fin with | .done (.ret v)=>PySem.W.handedIn v=true∧Q v s' | .again c'=>c'.quiet=true∧codeAny (model prog w) A c' (fun r s''=>match r with | .ok (.ret v)=>PySem.W.handedIn v=true∧Q v s'' | _=>False) s' | _=>False) (fun _ _=>False) s) :
  wpAny (model prog w) A (getAttrBy (.ref x) (.str name tk) fill expr) Q E s:=by
 obtain ⟨hp,g,d,t,os⟩:=s
 have L0:=I.type (M:=model prog w)
 have L1:PySem.W.Looks (model prog w) hp (typeLookup (.ref C) "__getattribute__") (some (.builtin "BaseException.__getattribute__")):=PySem.W.looks_findIn X G.ga
 have L2:PySem.W.Looks (model prog w) hp (typeLookup (.ref C) "__getattr__") none:=PySem.W.looks_findIn X G.gt
 have f3:=PySem.F.attr_ValueError.ga.bind (.ref x)
 unfold getAttrBy
 refine wpAny_holding (wpAny_bind (L0.at (wpAny_bind (L1.at ?_))))
 show wpAny _ _ (if (onTheHeap (.ref C) && Value.builtin "BaseException.__getattribute__" == .builtin "object.__getattribute__")=true then _ else _) _ _ _
 have hb:(onTheHeap (Value.ref C) && Value.builtin "BaseException.__getattribute__" == Value.builtin "object.__getattribute__")=false:=by
  show (true && Value.builtin "BaseException.__getattribute__" == Value.builtin "object.__getattribute__")=false
  decide +kernel
 rw [hb,if_neg Bool.false_ne_true]
 unfold getAttrByItsOwn
 refine wpAny_bind ?_
 show wpAny _ _ (typeLookup (.ref C) "__getattr__") _ _ _
 refine L2.at ?_
 refine wpAny_bind (wpAny_attempt (wpAny_holding ?_))
 unfold callGetattribute
 rw [if_neg (by cases expr <;> decide)]
 unfold boundAndCalled
 refine wpAny_bind (wpAny_of_eq f3 ?_)
 show wpAny _ _ (call (.builtin "BaseException.__getattribute__") [.ref x,.str name tk]) _ _ _
 refine wpAny_call (codeAny_call_builtin PySem.F.attr_ValueError.ga.plain PySem.F.entry_bexc_ga (a8n X I G ?_))
 refine wpAny_mono h (fun fin s' z=>?_) fun _ _ z=>z.elim
 rcases fin with fl | c'
 ·cases fl with
  | ret v =>
   obtain ⟨z1,z2⟩:=z
   show wpAny _ _ (handedOut v) _ _ _
   exact PySem.W.handed_on z1 z2
  | _=>exact z.elim
 ·refine ⟨z.1,codeAny_mono z.2 fun r s'' y=>?_⟩
  rcases r with _ | fl
  ·exact y.elim
  ·cases fl with
   | ret v =>
    obtain ⟨z1,z2⟩:=y
    show wpAny _ _ (handedOut v) _ _ _
    exact PySem.W.handed_on z1 z2
   | _=>exact y.elim
theorem a8o {Q:Option Value→Shared→Prop} (X:K.In s.heap) (I:PySem.W.InstAt s.heap x ox C od) (G:Ek K C) (h:Q (some (.ref C)) { s with toks:=s.toks+1 }):wpAny (model prog w) A (getAttr? (.ref x) "__class__") Q E s:=by
 obtain ⟨hp,g,d,t,os⟩:=s
 have hf:PySem.W.findObj K C od "__class__"=some (.bind (.builtin "getset_descriptor.__get__") (.builtin "object.__class__")):=by
  obtain ⟨cd,hc⟩:=Option.isSome_iff_exists.mp G.cl
  unfold PySem.W.findObj
  rw [hc,Option.bind_some,G.ca,Option.bind_some]
  simp [G.cg,G.ct]
 have L0:=I.type (M:=model prog w)
 have L1:=PySem.W.looks_find (M:=model prog w) X I hf
 unfold getAttr? getAttrBy?
 refine wpAny_bind (wpAny_mkText (wpAny_bind (wpAny_attempt ?_)))
 refine exc_by (s:=⟨hp,g,d,t+1,os⟩) X I G ?_
 unfold Builtin.«object.__getattribute__»
 repeat (first | with_reducible refine PySem.W.Looks.at (by assumption) ?_ | wp_step)
 exact PySem.W.class_get (s:=⟨hp,g,d,t+1,os⟩) X I G.ob (wpAny_pure ⟨rfl,wpAny_pure h⟩)
end
def a9X (K:PySem.W.Frag) (C:Addr):Bool :=
 PySem.W.typeIn K (.ref C) == some (.type "type") && (PySem.W.clsIn K C).isSome && PySem.W.subIn K (.ref C) (.type "BaseException") == some true &&
 PySem.W.findIn K (.ref C) "__getattribute__" == some (some (.builtin "BaseException.__getattribute__")) && PySem.W.findIn K (.ref C) "__getattr__" == some none && PySem.W.findIn K (.ref C) "__class__" == some (some (.builtin "object.__class__")) &&
 PySem.W.mroIn K C (.type "object") == some true && PySem.W.specialIn K (.builtin "object.__class__") "__get__" == some (some (.builtin "getset_descriptor.__get__")) && PySem.W.takesIn K (.builtin "object.__class__") == some true &&
 PySem.W.subIn K (.ref C) (.ref C) == some true && PySem.W.subIn K (.ref C) (.type "ValueError") == some true
structure XC (K:PySem.W.Frag) (C:Addr):Prop where
 h:Hcl K C
 e:Ek K C
 sf:PySem.W.subIn K (.ref C) (.ref C)=some true
 ve:PySem.W.subIn K (.ref C) (.type "ValueError")=some true
theorem XC.of {K:PySem.W.Frag} {C:Addr} (q:a9X K C=true):XC K C:=by
 unfold a9X at q
 simp only [Bool.and_eq_true,beq_iff_eq] at q
 obtain ⟨⟨⟨⟨⟨⟨⟨⟨⟨⟨q1,q2⟩,q3⟩,q4⟩,q5⟩,q6⟩,q7⟩,q8⟩,q9⟩,q10⟩,q11⟩:=q
 exact ⟨⟨q1,q2,q3⟩,⟨q2,q4,q5,q6,q3,q7,q8,q9⟩,q10,q11⟩
section
variable {K:PySem.W.Frag} {C D:Addr}
theorem a9Y (hD:Hcl K D) (sb:PySem.W.subIn K (.ref C) (.ref D)=some true):PySem.W.kitOne K (.ref C) (.ref D)=some true:=by
 unfold PySem.W.kitOne
 split
 ·rfl
 ·unfold PySem.W.kitCls
  dsimp only
  rw [if_pos (by rw [hD.cl,hD.ty];rfl)]
  exact sb
theorem a1F (hC:XC K C) (hD:Hcl K D) (sb:PySem.W.subIn K (.ref C) (.ref D)=some false):PySem.W.kitOne K (.ref C) (.ref D)=some false:=by
 unfold PySem.W.kitOne
 split
 ·rename_i z
  have z':=beq_iff_eq.mp z
  rw [←z',hC.sf] at sb
  cases sb
 ·unfold PySem.W.kitCls
  dsimp only
  rw [if_pos (by rw [hD.cl,hD.ty];rfl)]
  exact sb
theorem a6v (hC:XC K C):PySem.W.kitOne K (.ref C) (.type "ValueError")=some true:=by
 unfold PySem.W.kitOne
 rw [if_neg (by intro z;cases beq_iff_eq.mp z)]
 unfold PySem.W.kitCls
 dsimp only
 rw [if_pos (show PySem.W.kitMeta "ValueError"=true by decide +kernel)]
 exact hC.ve
theorem a4w {x:Addr} (G:Ek K C):PySem.W.KitX K (.ref x) (.ref C) (fun h=>∃ ox od,PySem.W.InstAt h x ox C od) where
 ty:=fun _ _ _ ⟨_,_,I⟩=>I.type
 it:=fun _ _ X _=>by
  have q:=G.cl
  unfold PySem.W.clsIn at q
  split at q
  ·rename_i ho
   intro A' Q' E' s' k q
   unfold isType loadHead
   exact wpAny_bind (wpAny_loadPart (k _ _ (X _ _ ho)) (wpAny_pure q))
  ·cases q
 ne:=fun h tp dd its n sl X htp=>by
  refine Bool.eq_false_iff.mpr fun z=>?_
  have e:C=tp:=Value.ref.inj (beq_iff_eq.mp z)
  subst e
  have q:=G.cl
  unfold PySem.W.clsIn at q
  split at q
  ·rename_i ho
   have z:=(X _ _ ho).symm.trans htp
   cases z
  ·cases q
 ca:=fun X ⟨_,_,I⟩ k=>a8o X I G k
end
def rIsiE (K:PySem.W.Frag):List V→Hp→VK→Prop:=fun xs H Q=>∃ ea C od c b,xs=[.ref ea,c]∧H ea=some (a3N ea C od)∧Ek K C∧(od=none∨∃ dx fs,od=some dx∧H dx=some (.xd fs)) ∧
 ((∃ D,c=.ref D∧PySem.W.kitOne K (.ref C) (.ref D)=some b)∨∃ T,c=.ty T∧PySem.W.kitOne K (.ref C) (.type T)=some b)∧Q (.bl b) H
theorem a8p {X:Cx} {pins:List (Addr × Obj)} {σ:St} {H:Hp} {s:Shared} {ea C:Addr} {od:Option Addr} (I:Inv X pins σ H s) (h:H ea=some (a3N ea C od)) (hd:od=none∨∃ dx fs,od=some dx∧H dx=some (.xd fs)) :
  ∃ ox o,PySem.W.InstAt s.heap ea ox C o:=by
 obtain ⟨⟨oe,vs,he,hc,hdd,hdt⟩,_,_⟩:=I.hok ea _ h
 rcases hd with rfl | ⟨dx,fs,rfl,hx⟩
 ·exact ⟨oe,none,he,hc,by unfold PySem.W.notCls;rw [hdt],by rw [hdd];trivial⟩
 ·obtain ⟨ob,hob⟩:=(I.hok dx _ hx).obj
  exact ⟨oe,some ob,he,hc,by unfold PySem.W.notCls;rw [hdt],by rw [hdd];exact hob⟩
theorem isiE {X:Cx} (K:PySem.W.Frag) (hK:X.K=K:=by rfl):a2w X (.builtin "isinstance") (rIsiE K):=by
 subst hK
 intro pins s σ H xs us Q I r h
 obtain ⟨ea,C,od,c,b,rfl,he,G,hd,hc,q⟩:=h
 obtain ⟨u,v,rfl,r1,r2⟩:=r.two
 cases r1
 obtain ⟨ox,o,IA⟩:=a8p I he hd
 rcases hc with ⟨D,rfl,e⟩ | ⟨T,rfl,e⟩
 ·cases r2
  exact PySem.W.kia_one (a4w G) I.kIn ⟨ox,o,IA⟩ e (fun z=>nomatch z) fun tk=>⟨.bl b,H,I.tok tk,rfl,q⟩
 ·cases r2
  exact PySem.W.kia_one (a4w G) I.kIn ⟨ox,o,IA⟩ e (fun z=>nomatch z) fun tk=>⟨.bl b,H,I.tok tk,rfl,q⟩
theorem b_VE:bootBuiltins "ValueError"=some (.type "ValueError"):=by decide +kernel
structure a1D (P:Program) (w:World) (K:PySem.W.Frag) (mg:Str→Option Value) (base:Heap) (ps:List Str) (name:Str) (sp:Sp) (k:Nat) where
 g:Addr
 gd:FuncData
 ok:a0O P w K mg base (CXF P w) k g gd ps sp
 b:a1E K gd ps []
 kp:PySem.W.keepIn K (.ref g)=true
 m:mg name=some (.ref g)
theorem a5M {P:Program} {w:World} {X:Cx}:a1R (CXF P w) X E0:=fun _ _ _ _ _ _ _ ⟨_,_,_,_,_,_,_,_,_,_,_,_,z⟩=>z.elim
def rEqLB:R2:=fun x y H Q=>∃ (a b:Addr) (ns ms:List Bool),x=.ref a∧y=.ref b∧H a=some (.lst (ns.map V.bl))∧H b=some (.lst (ms.map V.bl))∧Q (.bl (decide (ns=ms))) H
theorem a8q {X:Cx} (hu:X.A.units+4 < cLine):OpR X (compareOp .Eq) rEqLB:=by
 intro pins s σ H x y v u Q I rx ry h
 obtain ⟨a,b,ns,ms,rfl,rfl,e1,e2,q⟩:=h
 cases rx;cases ry
 exact b2j (A:=X.A) (n:=0) EqK.bl I.hok e1 e2 (Paired.bls ns) (Paired.bls ms) (by omega) _ _ _ _ ⟨.bl _,H,I,rfl,q⟩
def a1D.up {P:Program} {w:World} {K:PySem.W.Frag} {mg:Str→Option Value} {base:Heap} {ps:List Str} {name:Str} {sp:Sp} {j k:Nat} (f:a1D P w K mg base ps name sp j) (h:j≤k):a1D P w K mg base ps name sp k:=⟨f.g,f.gd,f.ok.mono h,f.b,f.kp,f.m⟩
theorem a5N {P:Program} {w:World} {H:Hp} {h:Heap} {a:Addr} {xs:List V} (x:a1d P w H h a (.tup xs)):xs.length≤sizeLine∧∃ its:List Value,a0K xs its∧PyProof.Rows.IsTup h a its.toArray:=by
 obtain ⟨z,its,r,p⟩:=x
 exact ⟨z,its,r,a4M.is p⟩
theorem a6w {K:PySem.W.Frag} {t:Value}:∀ {cs:List Value},(∀ c∈cs,PySem.W.kitOne K t c=some false)→PySem.W.kitAny K t cs=some false
 | [],_=>rfl
 | c :: cs,h=>by
  unfold PySem.W.kitAny
  rw [h c List.mem_cons_self]
  exact a6w fun d hd=>h d (List.mem_cons_of_mem _ hd)
theorem a8r:∀ {ds:List Addr} {us:List Value},a0K (ds.map V.ref) us→us=ds.map Value.ref:=by
 intro ds
 induction ds with
 | nil=>intro us r;cases r;rfl
 | cons d ds ih =>
  intro us r
  cases r with
  | cons r1 r2=>rw [ih r2,show _=Value.ref d from r1];rfl
def rIsiT (K:PySem.W.Frag):List V→Hp→VK→Prop:=fun xs H Q=>∃ ea C od tp,∃ ds:List Addr,xs=[.ref ea,.ref tp]∧H ea=some (a3N ea C od)∧Ek K C∧(od=none∨∃ dx fs,od=some dx∧H dx=some (.xd fs))∧H tp=some (.tup (ds.map V.ref)) ∧
 (∀ D∈ds,PySem.W.kitOne K (.ref C) (.ref D)=some false)∧Q (.bl false) H
theorem isiT {X:Cx} (K:PySem.W.Frag) (hK:X.K=K:=by rfl):a2w X (.builtin "isinstance") (rIsiT K):=by
 subst hK
 intro pins s σ H xs us Q I r h
 obtain ⟨ea,C,od,tp,ds,rfl,he,G,hd,ht,hk,q⟩:=h
 obtain ⟨u,v,rfl,r1,r2⟩:=r.two
 cases r1
 cases r2
 obtain ⟨ox,o,IA⟩:=a8p I he hd
 obtain ⟨_,its,rv,⟨cls,dd,data,sl⟩,ho,hc,n,hdt⟩:=a5N (I.hok tp _ ht)
 simp only at hc hdt
 subst hc hdt
 rw [a8r rv] at ho
 exact PySem.W.kia_tup (a4w G) I.kIn ⟨ox,o,IA⟩ ho (a6w fun c hcm=>by
  obtain ⟨D,hD,rfl⟩:=List.mem_map.mp hcm
  exact hk D hD) (fun z=>nomatch z) fun tk=>⟨.bl false,H,I.tok tk,rfl,q⟩
def SIt:Bool→Heap→Addr→Addr→Nat→Prop
 | true,h,i,l,n=>h.IsTupleIter i l n
 | false,h,i,l,n=>h.IsListIter i l n
def SAt:Bool→Heap→Addr→Array Value→Prop
 | true,h,l,xs=>h.IsTuple l xs
 | false,h,l,xs=>h.IsList l xs
theorem SIt.at {k:Bool} {h h':Heap} {i l:Addr} {n:Nat} (x:SIt k h i l n) (e:∀ o,h.get? i=some o→h'.get? i=some o):SIt k h' i l n:=by
 cases k with
 | true=>obtain ⟨o,ho,r⟩:=x;exact ⟨o,e o ho,r⟩
 | false=>obtain ⟨o,ho,r⟩:=x;exact ⟨o,e o ho,r⟩
theorem SIt.obj {k:Bool} {h:Heap} {i l:Addr} {n:Nat} (x:SIt k h i l n):∃ o,h.get? i=some o∧∀ v,o.data≠.cell v:=by
 cases k with
 | true=>obtain ⟨o,ho,_,d⟩:=x;exact ⟨o,ho,fun v z=>by rw [d] at z;cases z⟩
 | false=>obtain ⟨o,ho,_,d⟩:=x;exact ⟨o,ho,fun v z=>by rw [d] at z;cases z⟩
theorem SAt.at {k:Bool} {h h':Heap} {l:Addr} {xs:Array Value} (x:SAt k h l xs) (e:∀ o,h.get? l=some o→h'.get? l=some o):SAt k h' l xs:=by
 cases k with
 | true=>obtain ⟨o,ho,r⟩:=x;exact ⟨o,e o ho,r⟩
 | false=>obtain ⟨o,ho,r⟩:=x;exact ⟨o,e o ho,r⟩
section
variable {prog:Program} {w:World} {A:Around} {E:Value→Shared→Prop} {s:Shared} {k:Bool} {it l:Addr} {i:Nat} {xs:Array Value} {x:Value} {Q:Value→Shared→Prop}
theorem a9Z (hit:SIt k s.heap it l i) (hl:SAt k s.heap l xs) (hx:xs[i]?=some x) (hQ:∀ h',SIt k h' it l (i+1)→Heap.SameBut it s.heap h'→Q x { s with heap:=h' }) :
  wpAny (model prog w) A (Builtin.SmallTypes.nextOf (.ref it)) Q E s:=by
 cases k with
 | false=>exact wpAny_nextOf_list_item hit hl hx hQ
 | true =>
  have hit':s.heap.IsTupleIter it l i:=hit
  obtain ⟨o,ho,hc,hd⟩:=id hit'
  obtain ⟨ol,hol,_,nl,hdl⟩:=hl
  unfold Builtin.SmallTypes.nextOf
  refine wpAny_bind (wpAny_callSpecial?_slot (name:=Str.ofString "__next__") hit'.typeIs F.slot_tuple_iterator_next (wpAny_call_entry F.slot_tuple_iterator_next hit'.typeIs F.entry_tuple_iterator_next ?_ (F.args_tuple_iterator_next_1 _)))
  show wpAny _ _ (field (.ref it) 0 >>= _) _ _ s
  refine wpAny_bind (wpAny_field ho hd (x:=.ref l) rfl ?_)
  show wpAny _ _ (if (Value.ref l == Value.none)=true then _ else _) _ _ s
  rw [if_neg (show ¬ ((Value.ref l == Value.none)=true) from Bool.false_ne_true)]
  show wpAny _ _ (field (.ref it) 1 >>= _) _ _ s
  refine wpAny_bind (wpAny_field ho hd (x:=.int i 0) rfl (show wpAny _ _ (seqItems? (.ref l) >>= _) _ _ s from wpAny_bind (wpAny_seqItems hol hdl ?_)))
  simp only [Int.toNat_natCast,hx]
  refine wpAny_bind (wpAny_setField ho hd (by simp) (wpAny_pure ⟨x,rfl,wpAny_pure (hQ _ ?_ (Heap.SameBut.update ..))⟩))
  exact ⟨_,Heap.get?_update_self _ ho (Obj.isFreed_of_fields (Obj.data_mapFields hd _)),(Obj.cls_mapFields ..).trans hc,by rw [Obj.data_mapFields hd];simp [rawInt]⟩
theorem endS (hh:A.handled=none) (hit:SIt k s.heap it l i) (hl:SAt k s.heap l xs) (hx:xs[i]?=none) (hE:∀ h' e,Heap.ExtBut it s.heap h'→(∃ o,h'.get? e=some o∧o.cls=.type "StopIteration")→E (.ref e) { s with heap:=h' }) :
  wpAny (model prog w) A (Builtin.SmallTypes.nextOf (.ref it)) Q E s:=by
 cases k with
 | false=>exact wpAny_nextOf_list_end hh hit hl hx hE
 | true =>
  have hit':s.heap.IsTupleIter it l i:=hit
  obtain ⟨o,ho,hc,hd⟩:=id hit'
  obtain ⟨ol,hol,_,nl,hdl⟩:=hl
  unfold Builtin.SmallTypes.nextOf
  refine wpAny_bind (wpAny_callSpecial?_slot (name:=Str.ofString "__next__") hit'.typeIs F.slot_tuple_iterator_next (wpAny_call_entry F.slot_tuple_iterator_next hit'.typeIs F.entry_tuple_iterator_next ?_ (F.args_tuple_iterator_next_1 _)))
  show wpAny _ _ (field (.ref it) 0 >>= _) _ _ s
  refine wpAny_bind (wpAny_field ho hd (x:=.ref l) rfl ?_)
  show wpAny _ _ (if (Value.ref l == Value.none)=true then _ else _) _ _ s
  rw [if_neg (show ¬ ((Value.ref l == Value.none)=true) from Bool.false_ne_true)]
  show wpAny _ _ (field (.ref it) 1 >>= _) _ _ s
  refine wpAny_bind (wpAny_field ho hd (x:=.int i 0) rfl (show wpAny _ _ (seqItems? (.ref l) >>= _) _ _ s from wpAny_bind (wpAny_seqItems hol hdl ?_)))
  simp only [Int.toNat_natCast,hx]
  refine wpAny_bind (wpAny_rule (wpAny_bind (wpAny_setField ho hd (by simp) ?_)))
  show wpAny _ _ (newExc (.type "StopIteration") [] >>= _) _ _ _
  refine wpAny_bind ?_
  simp only [newExc,newTuple]
  refine wpAny_bind (wpAny_newObj_type ?_ (by size_fits))
  refine wpAny_bind (m:=firstArgMember _ _) (wpAny_of_eq (a:=Value.none) (by first | rfl | (simp only [firstArgMember];rfl)) ?_)
  refine wpAny_newObj_type ?_ (by size_fits)
  simp only [raiseNew]
  refine wpAny_bind (wpAny_handled ?_)
  rw [show A.in1.handled=none from hh]
  refine wpAny_bind (wpAny_pure (wpAny_throw ?_))
  exact hE _ _ (((Heap.SameBut.update ..).extBut.push _).push _) ⟨_,Heap.get?_push_size _ rfl,rfl⟩
end
structure ZAt (ka kb:Bool) (z TI TO i1 i2 l1 l2:Addr) (n:Nat) (h:Heap):Prop where
 zp:IsZip h z TI TO .none
 ti:IsPair h TI (.ref i1) (.ref i2)
 to_:∃ a b,IsPair h TO a b
 a1:SIt ka h i1 l1 n
 a2:SIt kb h i2 l2 n
section
variable {prog:Program} {w:World} {A:Around} {E:Value→Shared→Prop} {s:Shared} {ka kb:Bool} {z TI TO i1 i2 l1 l2:Addr} {n:Nat} {xs ys:Array Value} {x y:Value}
theorem a8s {Q:Value→Shared→Prop} (D:ZipApart z TI TO i1 i2 l1 l2) (Z:ZAt ka kb z TI TO i1 i2 l1 l2 n s.heap) (hl1:SAt ka s.heap l1 xs) (hl2:SAt kb s.heap l2 ys) (hx:xs[n]?=some x) (hy:ys[n]?=some y)
  (hQ:∀ h',IsZip h' z TI TO (rawInt s.heap.objs.size)→IsPair h' TO x y→SIt ka h' i1 l1 (n+1)→SIt kb h' i2 l2 (n+1)→IsPair h' s.heap.objs.size x y →
   (∀ c o,c≠z→c≠TO→c≠i1→c≠i2→s.heap.get? c=some o→h'.get? c=some o)→Q (.ref s.heap.objs.size) { s with heap:=h' }) :
  wpAny (model prog w) A (Builtin.«zip.__next__» ⟨[.ref z],[]⟩) (fun fin s'=>∃ v,fin=.done (.ret v)∧Q v s') E s:=by
 obtain ⟨hz,hTI,⟨a,b,hTO⟩,h1,h2⟩:=Z
 show wpAny _ _ (field (.ref z) 2 >>= _) _ _ _
 refine wpAny_bind (wpAny_field hz rfl (x:=.bool false) rfl ?_)
 show wpAny _ _ (field (.ref z) 3 >>= _) _ _ _
 refine wpAny_bind (wpAny_field hz rfl (x:=.ref TI) rfl (wpAny_bind (wpAny_seqItems hTI rfl ?_)))
 show wpAny _ _ (Builtin.SmallTypes.ownedTupleIsFree (.ref z) >>= _) _ _ _
 refine wpAny_bind ?_
 unfold Builtin.SmallTypes.ownedTupleIsFree
 refine wpAny_bind (wpAny_field hz rfl (x:=.none) rfl (wpAny_pure ?_))
 simp only [if_true]
 refine wpAny_bind (wpAny_rule (wpAny_bind (wpAny_field hz rfl (x:=.ref TO) rfl (wpAny_bind (wpAny_setField_rec hz (by simp) fun g1 z1 b1=>?_)))))
 have z1':IsZip g1 z TI TO .ellipsis:=z1
 have k1:∀ c o,c≠z→s.heap.get? c=some o→g1.get? c=some o:=fun c o hc e=>b1.extBut _ _ hc e
 refine wpAny_bind ?_
 simp only [List.zipIdx_cons,List.zipIdx_nil,List.forIn_cons,List.forIn_nil]
 refine wpAny_bind (wpAny_bind (wpAny_onRaise ?_))
 show wpAny _ _ (Builtin.SmallTypes.nextOf (.ref i1) >>= _) _ _ _
 refine wpAny_bind (a9Z (s:={ s with heap:=g1 }) (h1.at fun o e=>k1 _ o D.i1z e) (hl1.at fun o e=>k1 _ o D.l1z e) hx fun g2 h12 b2=>wpAny_pure ?_)
 have k2:∀ c o,c≠z→c≠i1→s.heap.get? c=some o→g2.get? c=some o:=fun c o hc hd e=>b2.extBut _ _ hd (k1 c o hc e)
 have o2:IsPair g2 TO a b:=k2 _ _ D.TOz D.TOi1 hTO
 refine wpAny_bind (wpAny_seqItems o2 rfl (wpAny_bind (wpAny_updateSeq_pair (s:={ s with heap:=g2 }) o2 fun g3 o3 b3=>?_)))
 have o3':IsPair g3 TO x b:=o3
 refine wpAny_bind (wpAny_letGo (wpAny_pure ?_))
 refine wpAny_bind (wpAny_bind (wpAny_onRaise ?_))
 show wpAny _ _ (Builtin.SmallTypes.nextOf (.ref i2) >>= _) _ _ _
 have k3:∀ c o,c≠z→c≠i1→c≠TO→s.heap.get? c=some o→g3.get? c=some o:=fun c o hc hd he e=>b3.extBut _ _ he (k2 c o hc hd e)
 refine wpAny_bind (a9Z (s:={ s with heap:=g3 }) (h2.at fun o e=>k3 _ o D.i2z D.i12.symm D.TOi2.symm e) (hl2.at fun o e=>k3 _ o D.l2z D.l2i1 D.l2TO e) hy fun g4 h24 b4=>wpAny_pure ?_)
 have o4:IsPair g4 TO x b:=b4.extBut _ _ D.TOi2 o3'
 refine wpAny_bind (wpAny_seqItems o4 rfl (wpAny_bind (wpAny_updateSeq_pair (s:={ s with heap:=g4 }) o4 fun g5 o5 b5=>?_)))
 have o5':IsPair g5 TO x y:=o5
 refine wpAny_bind (wpAny_letGo (wpAny_pure (wpAny_pure ?_)))
 refine wpAny_bind (wpAny_seqItems o5' rfl (wpAny_bind (wpAny_newTuple ?_)))
 have sz:g5.objs.size=s.heap.objs.size:=by rw [b5.1,b4.1,b3.1,b2.1,b1.1]
 have z5:IsZip g5 z TI TO .ellipsis:=b5.extBut _ _ D.TOz.symm (b4.extBut _ _ D.i2z.symm (b3.extBut _ _ D.TOz.symm (b2.extBut _ _ D.i1z.symm z1')))
 have k5:∀ c o,c≠z→c≠TO→c≠i1→c≠i2→s.heap.get? c=some o→g5.get? c=some o:=fun c o c1 c2 c3 c4 e=>b5.extBut _ _ c2 (b4.extBut _ _ c4 (k3 c o c1 c3 c2 e))
 have h15:SIt ka g5 i1 l1 (n+1):=h12.at fun o e=>b5.extBut _ _ D.TOi1.symm (b4.extBut _ _ D.i12 (b3.extBut _ _ D.TOi1.symm e))
 have h25:SIt kb g5 i2 l2 (n+1):=h24.at fun o e=>b5.extBut _ _ D.TOi2.symm e
 have zl:z < g5.objs.size:=Heap.lt_size z5
 show wpAny _ _ (Builtin.SmallTypes.ownedTupleHandOut (.ref z) (.ref g5.objs.size) >>= _) _ _ _
 refine wpAny_bind ?_
 unfold Builtin.SmallTypes.ownedTupleHandOut
 have z6:IsZip (g5.push { cls:=.type "tuple",data:=.seq #[x,y] }) z TI TO .ellipsis:=Heap.get?_push_of_some _ z5
 refine wpAny_bind (wpAny_setField_rec z6 (by simp) fun g7 z7 b7=>?_)
 replace z7:IsZip g7 z TI TO (rawInt g5.objs.size):=z7
 refine wpAny_setField_rec z7 (by simp) fun g8 z8 b8=>?_
 replace z8:IsZip g8 z TI TO (rawInt g5.objs.size):=z8
 have up:∀ c o,c≠z→g5.get? c=some o→g8.get? c=some o:=fun c o c1 e=>b8.extBut _ _ c1 (b7.extBut _ _ c1 (Heap.get?_push_of_some _ e))
 have p8:IsPair g8 g5.objs.size x y:=b8.extBut _ _ (Nat.ne_of_gt zl) (b7.extBut _ _ (Nat.ne_of_gt zl) (Heap.get?_push_size _ rfl))
 rw [sz] at z8 p8
 refine wpAny_pure ⟨_,rfl,?_⟩
 show Q (.ref g5.objs.size) _
 rw [sz]
 exact hQ g8 z8 (up _ _ D.TOz o5') (h15.at fun o e=>up _ o D.i1z e) (h25.at fun o e=>up _ o D.i2z e) p8 fun c o c1 c2 c3 c4 e=>up c o c1 (k5 c o c1 c2 c3 c4 e)
theorem b0a {Q:Fin→Shared→Prop} (hh:A.handled=none) (D:ZipApart z TI TO i1 i2 l1 l2) (Z:ZAt ka kb z TI TO i1 i2 l1 l2 n s.heap) (hl1:SAt ka s.heap l1 xs) (hl2:SAt kb s.heap l2 ys) (hend:xs[n]?=none∨ys[n]?=none)
  (hE:∀ h' e,(∀ c o,c≠z→c≠TO→c≠i1→c≠i2→s.heap.get? c=some o→h'.get? c=some o)→(∃ o,h'.get? e=some o∧o.cls=.type "StopIteration")→E (.ref e) { s with heap:=h' }) :
  wpAny (model prog w) A (Builtin.«zip.__next__» ⟨[.ref z],[]⟩) Q E s:=by
 obtain ⟨hz,hTI,⟨a,b,hTO⟩,h1,h2⟩:=Z
 show wpAny _ _ (field (.ref z) 2 >>= _) _ _ _
 refine wpAny_bind (wpAny_field hz rfl (x:=.bool false) rfl ?_)
 show wpAny _ _ (field (.ref z) 3 >>= _) _ _ _
 refine wpAny_bind (wpAny_field hz rfl (x:=.ref TI) rfl (wpAny_bind (wpAny_seqItems hTI rfl ?_)))
 show wpAny _ _ (Builtin.SmallTypes.ownedTupleIsFree (.ref z) >>= _) _ _ _
 refine wpAny_bind ?_
 unfold Builtin.SmallTypes.ownedTupleIsFree
 refine wpAny_bind (wpAny_field hz rfl (x:=.none) rfl (wpAny_pure ?_))
 simp only [if_true]
 refine wpAny_bind (wpAny_rule (wpAny_bind (wpAny_field hz rfl (x:=.ref TO) rfl (wpAny_bind (wpAny_setField_rec hz (by simp) fun g1 z1 b1=>?_)))))
 have z1':IsZip g1 z TI TO .ellipsis:=z1
 have k1:∀ c o,c≠z→s.heap.get? c=some o→g1.get? c=some o:=fun c o hc e=>b1.extBut _ _ hc e
 refine wpAny_bind ?_
 simp only [List.zipIdx_cons,List.zipIdx_nil,List.forIn_cons,List.forIn_nil]
 refine wpAny_bind (wpAny_bind (wpAny_onRaise ?_))
 show wpAny _ _ (Builtin.SmallTypes.nextOf (.ref i1) >>= _) _ _ _
 cases hx:xs[n]? with
 | none =>
  refine wpAny_bind (endS (s:={ s with heap:=g1 }) hh (h1.at fun o e=>k1 _ o D.i1z e) (hl1.at fun o e=>k1 _ o D.l1z e) hx fun g2 e b2 ⟨oe,he,ce⟩=>?_)
  have z2:IsZip g2 z TI TO .ellipsis:=b2 _ _ D.i1z.symm z1'
  have ez:e≠z:=fun q=>by subst q;rw [z2] at he;cases he;simp at ce
  exact wpAny_setField_rec z2 (by simp) fun g3 _ b3=>hE g3 e (fun c o c1 _ c3 _ q=>b3.extBut _ _ c1 (b2 _ _ c3 (k1 c o c1 q))) ⟨oe,b3.extBut _ _ ez he,ce⟩
 | some x =>
  have hy:ys[n]?=none:=hend.resolve_left fun q=>by rw [hx] at q;cases q
  refine wpAny_bind (a9Z (s:={ s with heap:=g1 }) (h1.at fun o e=>k1 _ o D.i1z e) (hl1.at fun o e=>k1 _ o D.l1z e) hx fun g2 h12 b2=>wpAny_pure ?_)
  have k2:∀ c o,c≠z→c≠i1→s.heap.get? c=some o→g2.get? c=some o:=fun c o hc hd e=>b2.extBut _ _ hd (k1 c o hc e)
  have o2:IsPair g2 TO a b:=k2 _ _ D.TOz D.TOi1 hTO
  refine wpAny_bind (wpAny_seqItems o2 rfl (wpAny_bind (wpAny_updateSeq_pair (s:={ s with heap:=g2 }) o2 fun g3 o3 b3=>?_)))
  refine wpAny_bind (wpAny_letGo (wpAny_pure ?_))
  refine wpAny_bind (wpAny_bind (wpAny_onRaise ?_))
  show wpAny _ _ (Builtin.SmallTypes.nextOf (.ref i2) >>= _) _ _ _
  have k3:∀ c o,c≠z→c≠i1→c≠TO→s.heap.get? c=some o→g3.get? c=some o:=fun c o hc hd he e=>b3.extBut _ _ he (k2 c o hc hd e)
  refine wpAny_bind (endS (s:={ s with heap:=g3 }) hh (h2.at fun o e=>k3 _ o D.i2z D.i12.symm D.TOi2.symm e) (hl2.at fun o e=>k3 _ o D.l2z D.l2i1 D.l2TO e) hy fun g4 e b4 ⟨oe,he,ce⟩=>?_)
  have z4:IsZip g4 z TI TO .ellipsis:=b4 _ _ D.i2z.symm (b3.extBut _ _ D.TOz.symm (b2.extBut _ _ D.i1z.symm z1'))
  have ez:e≠z:=fun q=>by subst q;rw [z4] at he;cases he;simp at ce
  exact wpAny_setField_rec z4 (by simp) fun g5 _ b5=>hE g5 e (fun c o c1 c2 c3 c4 q=>b5.extBut _ _ c1 (b4 _ _ c4 (k3 c o c1 c3 c2 q))) ⟨oe,b5.extBut _ _ ez he,ce⟩
theorem a8t {Q:Option Value→Shared→Prop} (D:ZipApart z TI TO i1 i2 l1 l2) (Z:ZAt ka kb z TI TO i1 i2 l1 l2 n s.heap) (hl1:SAt ka s.heap l1 xs) (hl2:SAt kb s.heap l2 ys) (hx:xs[n]?=some x) (hy:ys[n]?=some y)
  (hQ:∀ h',IsZip h' z TI TO (rawInt s.heap.objs.size)→IsPair h' TO x y→SIt ka h' i1 l1 (n+1)→SIt kb h' i2 l2 (n+1)→IsPair h' s.heap.objs.size x y →
   (∀ c o,c≠z→c≠TO→c≠i1→c≠i2→s.heap.get? c=some o→h'.get? c=some o)→Q (some (.ref s.heap.objs.size)) { s with heap:=h' }):wpAny (model prog w) A (pyNext (.ref z)) Q E s:=by
 have hT:s.TypeIs (.ref z) "zip":=⟨_,Z.zp,rfl⟩
 unfold pyNext
 exact wpAny_bind (wpAny_attempt (wpAny_callSpecial?_slot (name:=Str.ofString "__next__") hT F.slot_zip_next (wpAny_call_entry F.slot_zip_next hT F.entry_zip_next
  (a8s D Z hl1 hl2 hx hy fun h' a1 a2 a3 a4 a5 a7=>wpAny_pure (hQ h' a1 a2 a3 a4 a5 a7)) (F.args_zip_next_1 _))))
theorem a8u {Q:Option Value→Shared→Prop} (hh:A.handled=none) (D:ZipApart z TI TO i1 i2 l1 l2) (Z:ZAt ka kb z TI TO i1 i2 l1 l2 n s.heap) (hl1:SAt ka s.heap l1 xs) (hl2:SAt kb s.heap l2 ys) (hend:xs[n]?=none∨ys[n]?=none)
  (hQ:∀ h',(∀ c o,c≠z→c≠TO→c≠i1→c≠i2→s.heap.get? c=some o→h'.get? c=some o)→Q none { s with heap:=h' }):wpAny (model prog w) A (pyNext (.ref z)) Q E s:=by
 have hT:s.TypeIs (.ref z) "zip":=⟨_,Z.zp,rfl⟩
 unfold pyNext
 refine wpAny_bind (wpAny_attempt (wpAny_callSpecial?_slot (name:=Str.ofString "__next__") hT F.slot_zip_next (wpAny_call_entry F.slot_zip_next hT F.entry_zip_next (b0a hh D Z hl1 hl2 hend fun h' e hk he=>?_) (F.args_zip_next_1 _))))
 obtain ⟨o,ho,hc⟩:=he
 exact wpAny_bind (wpAny_isInstance (T:="StopIteration") (b:=true) ⟨o,ho,hc⟩ isSubtype_stop (wpAny_pure (hQ _ hk)))
end
def SqK (K:PySem.W.Frag):Bool→Hp→Addr→List V→Prop
 | true,H,a,xs=>SqT K H a xs
 | false,H,a,xs=>SqL K H a xs
theorem b0b {X:Cx} {pins:List (Addr × Obj)} {σ:St} {H:Hp} {s:Shared} {k:Bool} {a:Addr} {xs:List V} (I:Inv X pins σ H s) (h:SqK X.K k H a xs):∃ us,a0K xs us∧SAt k s.heap a us.toArray:=by
 cases k with
 | true =>
  obtain ⟨its,rv,p,hz⟩:=I.tuple h
  exact ⟨its,rv,p⟩
 | false =>
  obtain ⟨its,rv,p,hz⟩:=I.list h
  exact ⟨its,rv,p.isList⟩
theorem a4x {X:Cx} {pins:List (Addr × Obj)} {σ:St} {H:Hp} {s:Shared} {k:Bool} {a:Addr} {xs ys:List V} (I:Inv X pins σ H s) (h:SqK X.K k H a xs) (h2:SqK X.K k H a ys):xs=ys:=by
 cases k with
 | true=>exact I.tuple_inj h h2
 | false=>exact I.list_inj h h2
theorem Inv.turnedL {X:Cx} {pins:List (Addr × Obj)} {σ:St} {H:Hp} {s:Shared} {h':Heap} {t':Nat} {L:List Addr} (I:Inv X pins σ H s) (k:∀ b o,b∉L→s.heap.get? b=some o→h'.get? b=some o) (hf:∀ b∈L,a9y X pins H b):Inv X pins σ H { s with heap:=h',toks:=t' }:=by
 have nit:∀ b u,H b=some u→b∉L:=fun b u e z=>by rw [(hf b z).1] at e;cases e
 have nl:X.env.locals∉L:=fun z=>(hf _ z).2.1 rfl
 refine I.step (g':=s.gens) (d':=s.drawn) (ch:=L) (fun b hb=>?_) (fun b o _ _ hc e _=>k b o hc e) (fun b o _ _ hc e _=>⟨o.slots,k b o hc e⟩) (fun _ _ _ _ n=>n)
  (fun b o hc e=>⟨o,k b o hc e⟩) (fun _ _ e=>e) (fun _ _ _ e=>e) (fun b ps e=>⟨#[],by rw [e];simp⟩) (fun m hm=>?_) (fun b u e=>?_) I.bare
 ·obtain ⟨f0,f1,f2,f3,f4,f5⟩:=hf b hb
  exact ⟨f3,f1,f4,f5⟩
 ·obtain ⟨o,es,ep,ho,r⟩:=hm
  exact ⟨o,es,ep,k _ o nl ho,r⟩
 ·refine (I.hok b u e).stay (fun c v hc q=>k c v ?_ q) (fun _ q=>q) fun _ _ q=>q
  rcases hc with z | z
  ·rw [z];exact nit b u e
  ·exact nit c _ z
def Itz (K:PySem.W.Frag) (ka kb:Bool) (a b:Addr):It :=
 ⟨fun i H=>∃ xs ys x y,SqK K ka H a xs∧SqK K kb H b ys∧xs[i]?=some x∧ys[i]?=some y,
  fun i H v H'=>∃ p x y,v=.ref p∧H p=none∧(∀ xs,SqK K ka H a xs→xs[i]?=some x)∧(∀ ys,SqK K kb H b ys→ys[i]?=some y)∧H'=upd H p (.tup [x,y]),
  fun i H=>∃ xs ys,SqK K ka H a xs∧SqK K kb H b ys∧(xs.length≤i∨ys.length≤i)⟩
theorem ZAt.obj {ka kb:Bool} {z TI TO i1 i2 l1 l2:Addr} {n:Nat} {h:Heap} (Z:ZAt ka kb z TI TO i1 i2 l1 l2 n h):∀ b∈[z,TI,TO,i1,i2],∃ o,h.get? b=some o∧∀ v,o.data≠.cell v:=fun b hb=>by
 obtain ⟨hz,hTI,⟨x,y,hTO⟩,h1,h2⟩:=Z
 simp only [List.mem_cons,List.not_mem_nil,or_false] at hb
 rcases hb with rfl | rfl | rfl | rfl | rfl
 ·exact ⟨_,hz,fun v z=>by cases z⟩
 ·exact ⟨_,hTI,fun v z=>by cases z⟩
 ·exact ⟨_,hTO,fun v z=>by cases z⟩
 ·exact h1.obj
 ·exact h2.obj
theorem b0c {P:Program} {w:World} {K:PySem.W.Frag} {elts:List Expr} {x1} {pos:Pos} {ka kb:Bool} {z TI TO i1 i2 a b:Addr} (D:ZipApart z TI TO i1 i2 a b):b1R P w K (.Tuple elts x1 pos) (Itz K ka kb a b) [z,TI,TO,i1,i2] z (fun n h=>ZAt ka kb z TI TO i1 i2 a b n h) where
 mem:=by simp
 obj:=fun i h st=>st.obj
 keep:=fun i h h' ⟨hz,hTI,⟨x,y,hTO⟩,h1,h2⟩ k=>⟨k z (by simp) _ hz,k TI (by simp) _ hTI,⟨x,y,k TO (by simp) _ hTO⟩,h1.at fun o e=>k i1 (by simp) o e,h2.at fun o e=>k i2 (by simp) o e⟩
 item:=by
  intro X hP hw hK hc i pins s σ H E I hf st hg
  subst hP hw hK
  obtain ⟨xs,ys,x,y,q1,q2,hx,hy⟩:=hg
  obtain ⟨us,r1,p1⟩:=b0b I q1
  obtain ⟨vs,r2,p2⟩:=b0b I q2
  obtain ⟨u,hu,ru⟩:=r1.get hx
  obtain ⟨v,hv,rv⟩:=r2.get hy
  have lt:∀ b∈[z,TI,TO,i1,i2],b < s.heap.objs.size:=fun b hb=>by
   obtain ⟨o,ho,_⟩:=st.obj b hb
   exact Heap.lt_size ho
  refine a8t D st p1 p2 (x:=u) (y:=v) (by simpa using hu) (by simpa using hv) fun h' z1 o1 a1 a2 pr kk=>?_
  refine ⟨_,rfl,wpAny_letOwnedTupleGo_zip (s:={ s with heap:=h' }) z1 fun h2 z2 b2=>?_⟩
  have hT:H s.heap.objs.size=none:=I.hok.fresh (Nat.le_refl _)
  have I1:Inv X pins σ (upd H s.heap.objs.size (.tup [x,y])) { s with heap:=s.heap.push { cls:=.type "tuple",data:=.seq #[u,v] } }:=I.laid (t':=s.toks) (fun b u e=>Heap.get?_push_of_some _ e) (Nat.le_refl _) ⟨by show 2≤sizeLine;decide,[u,v],.cons ru (.cons rv .nil),⟨_,Heap.get?_push_size _ rfl,_,rfl⟩⟩
  have Tz:s.heap.objs.size≠z:=Nat.ne_of_gt (lt z (by simp))
  have fp:∀ b∈[z,TI,TO,i1,i2],a9y X pins (upd H s.heap.objs.size (.tup [x,y])) b:=fun b hb=>by
   obtain ⟨f0,f1,f2,f3,f4,f5⟩:=hf b hb
   exact ⟨by rw [a0j (Nat.ne_of_lt (lt b hb))];exact f0,f1,f2,f3,f4,f5⟩
  have I2:=I1.turnedL (h':=h2) (t':=s.toks) (fun c o hc e=>by
   simp only [List.mem_cons,List.not_mem_nil,or_false,not_or] at hc
   by_cases zc:c=s.heap.objs.size
   ·subst zc
    rw [Heap.get?_push_size _ rfl] at e
    cases e
    exact b2.extBut _ _ Tz pr
   ·have e':s.heap.get? c=some o:=by rw [←e];exact (Heap.get?_push_ne _ _ _ zc).symm
    exact b2.extBut _ _ hc.1 (kk c o hc.1 hc.2.2.1 hc.2.2.2.1 hc.2.2.2.2 e')) fp
  refine ⟨.ref s.heap.objs.size,_,I2,rfl,⟨_,x,y,rfl,hT,fun zs hz=>?_,fun zs hz=>?_,rfl⟩,⟨z2,b2.extBut _ _ D.TIz (kk _ _ D.TIz D.TITO D.TIi1 D.TIi2 st.ti),⟨u,v,b2.extBut _ _ D.TOz o1⟩,a1.at fun o e=>b2.extBut _ _ D.i1z e,a2.at fun o e=>b2.extBut _ _ D.i2z e⟩,fun b hb=>(fp b hb).1⟩
  ·rw [a4x I hz q1];exact hx
  ·rw [a4x I hz q2];exact hy
 done:=by
  intro X hP hw hK hc i pins s σ H E I hf st hg
  subst hP hw hK
  obtain ⟨xs,ys,q1,q2,hl⟩:=hg
  obtain ⟨us,r1,p1⟩:=b0b I q1
  obtain ⟨vs,r2,p2⟩:=b0b I q2
  have e1:=r1.length
  have e2:=r2.length
  refine a8u (I.ok.hd hc) D st p1 p2 (hl.elim (fun q=>.inl (by simp;omega)) fun q=>.inr (by simp;omega)) fun h' kk=>⟨rfl,I.turnedL (t':=s.toks) (fun c o hc e=>?_) hf⟩
  simp only [List.mem_cons,List.not_mem_nil,or_false,not_or] at hc
  exact kk c o hc.1 hc.2.2.1 hc.2.2.2.1 hc.2.2.2.2 e
 self:=fun _ _ _ _ _ st h=>wpAny_pyIter_zip st.zp h
def itO (k:Bool) (l:Addr):Obj:=match k with
 | true=>{ cls:=.type "tuple_iterator",data:=.fields #[.ref l,.int 0 0] }
 | false=>{ cls:=.type "list_iterator",data:=.fields #[.ref l,.int 0 0] }
theorem a8v {prog:Program} {w:World} {A:Around} {E:Value→Shared→Prop} {s:Shared} {k:Bool} {l:Addr} {xs:Array Value} {Q:Value→Shared→Prop} (h:SAt k s.heap l xs) (hQ:Q (.ref s.heap.objs.size) { s with heap:=s.heap.push (itO k l) }) :
  wpAny (model prog w) A (pyIter (.ref l)) Q E s:=by
 cases k with
 | true=>exact wpAny_pyIter_tuple h hQ
 | false=>exact wpAny_pyIter_list h hQ
theorem a4y {k:Bool} {l:Addr}:(itO k l).isFreed=false:=by cases k <;> rfl
theorem SIt.new {k:Bool} {l i:Addr} {h:Heap} (e:h.get? i=some (itO k l)):SIt k h i l 0:=by
 cases k with
 | true=>exact ⟨_,e,rfl,rfl⟩
 | false=>exact ⟨_,e,rfl,rfl⟩
def b0d (h:Heap) (ka kb:Bool) (l1 l2:Addr):Heap:=((((h.push (itO ka l1)).push (itO kb l2)).push { cls:=.type "tuple",data:=.seq #[.ref h.objs.size,.ref (h.push (itO ka l1)).objs.size] }).push { cls:=.type "tuple",data:=.seq #[.none,.none] }).push
 { cls:=.type "zip",data:=.fields #[.none,.bool false,.bool false,.ref ((h.push (itO ka l1)).push (itO kb l2)).objs.size,.ref (((h.push (itO ka l1)).push (itO kb l2)).push { cls:=.type "tuple",data:=.seq #[.ref h.objs.size,.ref (h.push (itO ka l1)).objs.size] }).objs.size] }
theorem meetsS (ka kb:Bool) (l1 l2:Addr) (xs ys:Array Value) :
  Meets (Builtin.«zip.__new__» ⟨[.type "zip",.ref l1,.ref l2],[]⟩) (fun _ R s=>SAt ka s.heap l1 xs∧SAt kb s.heap l2 ys∧R (.ok (.ret (.ref (s.heap.objs.size+4)))) { s with heap:=b0d s.heap ka kb l1 l2 }) :=
 .of_wp fun prog w A R s h=>by
  obtain ⟨hp,g,d,tk,os⟩:=s
  obtain ⟨hl1,hl2,h⟩:=h
  have hsub:=sub_zip
  have hL1:SAt ka (Shared.heap ⟨hp,g,d,tk,os⟩) l1 xs:=hl1
  have hL2:SAt kb (Shared.heap ⟨hp.push (itO ka l1),g,d,tk,os⟩) l2 ys:=hl2.at fun o e=>Heap.get?_push_of_some _ e
  wp_walk using a8v hL1,a8v hL2
  refine ⟨_,rfl,?_⟩
  have z:((((hp.push (itO ka l1)).push (itO kb l2)).push { cls:=.type "tuple",data:=.seq #[.ref hp.objs.size,.ref (hp.push (itO ka l1)).objs.size] }).push { cls:=.type "tuple",data:=.seq #[.none,.none] }).objs.size=hp.objs.size+4:=by
   rw [Heap.size_push,Heap.size_push,Heap.size_push,Heap.size_push]
  rw [←z] at h
  exact h
theorem callS {prog:Program} {w:World} {A:Around} {E:Value→Shared→Prop} {s:Shared} {ka kb:Bool} {l1 l2:Addr} {xs ys:Array Value} {Q:Value→Shared→Prop} (h1:SAt ka s.heap l1 xs) (h2:SAt kb s.heap l2 ys)
  (h:∀ h',ZAt ka kb (s.heap.objs.size+4) (s.heap.objs.size+2) (s.heap.objs.size+3) s.heap.objs.size (s.heap.objs.size+1) l1 l2 0 h'→(∀ c o,s.heap.get? c=some o→h'.get? c=some o)→Q (.ref (s.heap.objs.size+4)) { s with heap:=h' }) :
  wpAny (model prog w) A (call (.type "zip") [.ref l1,.ref l2]) Q E s:=by
 refine callType_new F.called_zip (by decide) (F.typeCall_zip_2 _ _) (F.newCall_zip_2 _ _) (fun obj=>F.args_object_init_3 obj _ _) F.entry_zip_new (meetsS ka kb l1 l2 xs ys) ⟨h1,h2,?_⟩
 have kp:∀ c o,s.heap.get? c=some o→(b0d s.heap ka kb l1 l2).get? c=some o:=fun c o x=>Heap.get?_push_of_some _ (Heap.get?_push_of_some _ (Heap.get?_push_of_some _ (Heap.get?_push_of_some _ (Heap.get?_push_of_some _ x))))
 have z1:(s.heap.push (itO ka l1)).objs.size=s.heap.objs.size+1:=Heap.size_push ..
 have z2:((s.heap.push (itO ka l1)).push (itO kb l2)).objs.size=s.heap.objs.size+2:=by rw [Heap.size_push,z1]
 have z3:(((s.heap.push (itO ka l1)).push (itO kb l2)).push { cls:=.type "tuple",data:=.seq #[.ref s.heap.objs.size,.ref (s.heap.push (itO ka l1)).objs.size] }).objs.size=s.heap.objs.size+3:=by rw [Heap.size_push,z2]
 have z4:((((s.heap.push (itO ka l1)).push (itO kb l2)).push { cls:=.type "tuple",data:=.seq #[.ref s.heap.objs.size,.ref (s.heap.push (itO ka l1)).objs.size] }).push { cls:=.type "tuple",data:=.seq #[.none,.none] }).objs.size=s.heap.objs.size+4:=by rw [Heap.size_push,z3]
 have g1:(b0d s.heap ka kb l1 l2).get? s.heap.objs.size=some (itO ka l1):=Heap.get?_push_of_some _ (Heap.get?_push_of_some _ (Heap.get?_push_of_some _ (Heap.get?_push_of_some _ (Heap.get?_push_size _ a4y))))
 have g2:(b0d s.heap ka kb l1 l2).get? (s.heap.objs.size+1)=some (itO kb l2):=by rw [←z1];exact Heap.get?_push_of_some _ (Heap.get?_push_of_some _ (Heap.get?_push_of_some _ (Heap.get?_push_size _ a4y)))
 have g3:(b0d s.heap ka kb l1 l2).get? (s.heap.objs.size+2)=some { cls:=.type "tuple",data:=.seq #[.ref s.heap.objs.size,.ref (s.heap.objs.size+1)] }:=by
  rw [←z2]
  have q:(b0d s.heap ka kb l1 l2).get? ((s.heap.push (itO ka l1)).push (itO kb l2)).objs.size=some { cls:=.type "tuple",data:=.seq #[.ref s.heap.objs.size,.ref (s.heap.push (itO ka l1)).objs.size] }:=Heap.get?_push_of_some _ (Heap.get?_push_of_some _ (Heap.get?_push_size _ rfl))
  rw [z1] at q
  exact q
 have g4:(b0d s.heap ka kb l1 l2).get? (s.heap.objs.size+3)=some { cls:=.type "tuple",data:=.seq #[.none,.none] }:=by rw [←z3];exact Heap.get?_push_of_some _ (Heap.get?_push_size _ rfl)
 have g5:(b0d s.heap ka kb l1 l2).get? (s.heap.objs.size+4)=some { cls:=.type "zip",data:=.fields #[.none,.bool false,.bool false,.ref (s.heap.objs.size+2),.ref (s.heap.objs.size+3)] }:=by
  rw [←z4]
  have q:(b0d s.heap ka kb l1 l2).get? ((((s.heap.push (itO ka l1)).push (itO kb l2)).push { cls:=.type "tuple",data:=.seq #[.ref s.heap.objs.size,.ref (s.heap.push (itO ka l1)).objs.size] }).push { cls:=.type "tuple",data:=.seq #[.none,.none] }).objs.size=some { cls:=.type "zip",data:=.fields #[.none,.bool false,.bool false,.ref ((s.heap.push (itO ka l1)).push (itO kb l2)).objs.size,.ref (((s.heap.push (itO ka l1)).push (itO kb l2)).push { cls:=.type "tuple",data:=.seq #[.ref s.heap.objs.size,.ref (s.heap.push (itO ka l1)).objs.size] }).objs.size] }:=Heap.get?_push_size _ rfl
  rw [z2,z3] at q
  exact q
 show _∧_
 exact ⟨⟨_,g5,rfl⟩,h _ ⟨g5,g3,⟨_,_,g4⟩,.new g1,.new g2⟩ kp⟩
theorem b_zip:bootBuiltins "zip"=some (.type "zip"):=by decide +kernel
def iZip (K:PySem.W.Frag) (ka kb:Bool) (ta:TA):TI:=fun σ H R=>ta σ H fun vs H1=>∃ a b xs ys,vs=[.ref a,.ref b]∧SqK K ka H1 a xs∧SqK K kb H1 b ys∧R (Itz K ka kb a b) H1
theorem pi_zip {X:Cx} {elts:List Expr} {x1} {tp:Pos} {a b:Expr} {ta:TA} {p pos:Pos} (ka kb:Bool) (hg:Gl X "zip") (hm:X.mg "zip"=none) (ha:PA X [a,b] ta) (hs:starEach [a,b] X.env=[(false,eval a X.env),(false,eval b X.env)]:=by rfl) (hs2:starEach [b] X.env=[(false,eval b X.env)]:=by rfl) :
  PI X (.Tuple elts x1 tp) (.Call (.Name "zip" p) [a,b] [] pos) (iZip X.K ka kb ta):=by
 intro pins s σ H R I h
 refine Call_ (a2u I hg hm b_zip (PyProof.Rows.callWith_type1 (thn (ha pos pins s σ H _ I h) fun us s1 ⟨vs,H1,I1,r1,q1⟩=>?_) (by rw [hs,hs2]) (by rw [hs2];rfl)))
 obtain ⟨a',b',xs,ys,e,q1,q2,q⟩:=q1
 subst e
 obtain ⟨u,v,rfl,r1,r2⟩:=r1.two
 cases r1
 cases r2
 obtain ⟨us,e1,p1⟩:=b0b I1 q1
 obtain ⟨vs,e2,p2⟩:=b0b I1 q2
 have lt:∀ {k:Bool} {l:Addr} {zs:Array Value},SAt k s1.heap l zs→l < s1.heap.objs.size:=fun {k l zs} x=>by
  cases k with
  | true=>obtain ⟨o,ho,_⟩:=x;exact Heap.lt_size ho
  | false=>obtain ⟨o,ho,_⟩:=x;exact Heap.lt_size ho
 have t1:=lt p1
 have t2:=lt p2
 refine callS p1 p2 fun h' Z kp=>wpAny_pyIter_zip (s:={ s1 with heap:=h' }) Z.zp ?_
 have D:ZipApart (s1.heap.objs.size+4) (s1.heap.objs.size+2) (s1.heap.objs.size+3) s1.heap.objs.size (s1.heap.objs.size+1) a' b':=by
  have t1':@LT.lt Nat _ a' s1.heap.objs.size:=t1
  have t2':@LT.lt Nat _ b' s1.heap.objs.size:=t2
  constructor <;> (show ¬ (@Eq Nat _ _);omega)
 refine ⟨_,[s1.heap.objs.size+4,s1.heap.objs.size+2,s1.heap.objs.size+3,s1.heap.objs.size,s1.heap.objs.size+1],_,_,H1,rfl,I1.kept (t':=s1.toks) kp,b0c D,Z,fun c hc=>?_,q⟩
 have ge:s1.heap.objs.size≤c:=by
  simp only [List.mem_cons,List.not_mem_nil,or_false] at hc
  rcases hc with rfl | rfl | rfl | rfl | rfl <;> omega
 exact I1.fpOk ge (I1.hok.fresh ge)
section
variable {M:Model} {A:Around} {E:Value→Shared→Prop} {s:Shared} {env:Env} {outer:List Env} {base:Heap} {L e T:Addr} {cls fl:Value} {od:Option Addr} {Q:Unit→Shared→Prop}
theorem b0e (hfr:A.frames=some (env :: outer)) (hl:s.heap.FunFrames base (env :: outer)) (hf:env.frame=some L) (x:a1Y s.heap e cls od (.ref T)) (t:a5J s.heap T fl) (hT:T≠e)
  (h:∀ h' T',Mv [T,e] (frs (env :: outer)) s.heap h'→(T'=T∨s.heap.objs.size≤T')→T'≠e→a1Y h' e cls od (.ref T')→a5J h' T' (rawInt L)→Q () { s with heap:=h' }):wpAny M A (noteFrame (.ref e) env) Q E s:=by
 unfold noteFrame
 simp only [hf]
 obtain ⟨oe,vs,he,hc,hdd,hd1,h1⟩:=id x
 obtain ⟨oT,ts,hTT,hdT,h3⟩:=id t
 refine wpAny_bind (wpAny_field he hd1 h1 ?_)
 rw [if_pos (show (Value.ref T != Value.none)=true from by simp)]
 refine wpAny_bind (wpAny_field hTT hdT h3 ?_)
 by_cases hz:fl=rawInt L
 ·subst hz
  rw [if_pos (by simp)]
  exact wpAny_pure (h s.heap T Mv.refl (.inl rfl) hT x t)
 ·rw [if_neg (by simpa using hz)]
  refine wpAny_bind (a6t t fun g m1 t1 k1=>?_)
  have hSf:∀ b∈[T,e],∀ o,s.heap.get? b=some o→∃ vs,o.data=.fields vs:=fun b hb o ho=>by
   rcases List.mem_cons.mp hb with hb | hb
   ·rw [hb,hTT] at ho;cases ho;exact ⟨ts,hdT⟩
   ·rw [List.mem_singleton.mp hb,he] at ho;cases ho;exact ⟨vs,hd1⟩
  have m2:Mv [T,e] (frs (env :: outer)) s.heap g:=fun b o hb hn=>by
   have hbT:b≠T:=fun z=>hn (by rw [z];exact List.mem_cons_self)
   have q:=(k1 b hbT).trans hb
   exact ⟨fun _=>q,o.slots,q⟩
  refine a3p (s:={ s with heap:=g }) hfr (m2.frames hl hSf) hf (x.other (k1 e (Ne.symm hT))) fun h' T' m hs hT' x' t'=>?_
  exact h h' T' (m2.trans (m.mono fun b hb=>by rw [List.mem_singleton.mp hb];exact List.mem_cons_of_mem _ List.mem_cons_self)) (.inr (by rw [←m1];exact hs)) hT' x' t'
theorem a7m {fr:Option Addr} (x:a1Y s.heap e cls od (.ref T)) (t:a5J s.heap T fl) (hTe:T≠e) (h:∀ h' fl',h'.objs.size=s.heap.objs.size→a1Y h' e cls od (.ref T)→a5J h' T fl'→(∀ b,b≠T→h'.get? b=s.heap.get? b)→Q () { s with heap:=h' }) :
  wpAny M A (setFlight (.ref e) fr) Q E s:=by
 obtain ⟨oe,vs,he,hc,hdd,hd1,h1⟩:=id x
 unfold setFlight
 refine wpAny_bind (wpAny_field he hd1 h1 ?_)
 rw [if_pos (show (Value.ref T != Value.none)=true from by simp)]
 exact a6t t fun g m1 t1 k1=>h g _ m1 (x.other (k1 e (Ne.symm hTe))) t1 k1
end
def a8w (X:Cx) (E:XK):Prop:=∀ (pins:List (Addr × Obj)) (σ:St) (H:Hp) (s:Shared) (ea T:Addr) (cls fl:Value) (od:Option Addr),Inv X pins σ H s→a1Y s.heap ea cls od (.ref T)→a5J s.heap T fl→T≠ea →
 (∀ b∈[T,ea],Off X pins b∧H b=none)→E cls od H→X.xe (.ref ea) s
section
variable {P:Program} {w:World} {K:PySem.W.Frag} {mg:Str→Option Value} {base:Heap} {N:List Str} {qual:Str} {scope:Scope} {f:Addr} {cd:Value} {A:Around} {outer:List Env} {s₀:Shared} {H₀:Hp} {E:XK}
theorem a7n:a8w (a5v (CXF P w) P w K mg base N qual scope f cd A outer s₀ H₀ E) E:=by
 intro pins σ H s ea T cls fl od I x t hT hS q
 show wpAny _ _ (leaving _ (.ref ea)) _ _ s
 unfold leaving
 refine wpAny_bind (b0e I.ok.frames I.stack rfl x t hT fun h1 T' m1 hs1 hT1 x1 t1=>?_)
 refine a3q (s:={ s with heap:=h1 }) x1 t1 hT1 fun h2 sz2 x2 t2 k2=>?_
 have out:∀ b,Off (a5v (CXF P w) P w K mg base N qual scope f cd A outer s₀ H₀ E) pins b→s₀.heap.get? b=none:=fun b ob=>by
  cases e:s₀.heap.get? b with
  | none=>rfl
  | some o=>exact absurd (ob.1 o e) (by show b∉([]:List Addr);simp)
 have oT:Off (a5v (CXF P w) P w K mg base N qual scope f cd A outer s₀ H₀ E) pins T'∧H T'=none:=by
  rcases hs1 with rfl | hs1
  ·exact hS _ List.mem_cons_self
  ·exact ⟨I.off (Heap.get?_none_of_le hs1),I.hok.fresh hs1⟩
 have oE:=hS ea (List.mem_cons_of_mem _ List.mem_cons_self)
 have I1:Inv _ pins σ H { s with heap:=h1,toks:=s.toks }:=I.moved (S:=[T,ea]) m1 hS
 have I2:Inv _ pins σ H { s with heap:=h2,toks:=s.toks }:=I1.moved (S:=[T']) (fun b o hb hn=>by
  have hbT:b≠T':=fun z=>hn (by rw [z];exact List.mem_cons_self)
  have z:=(k2 b hbT).trans hb
  exact ⟨fun _=>z,o.slots,z⟩) fun b hb=>by rw [List.mem_singleton.mp hb];exact oT
 refine ⟨ea,cls,od,[T',ea],H,rfl,I2.os,I2.bare,I2.base,I2.hok,a6u x2 t2 hT1,fun b hb=>?_,q⟩
 rcases List.mem_cons.mp hb with rfl | hb
 ·exact ⟨out _ oT.1,oT.2⟩
 ·rw [List.mem_singleton.mp hb]
  exact ⟨out _ oE.1,oE.2⟩
end
theorem a5O {X:Cx} {E:XK} {scope:Scope} {cl:List (Str × Addr)} {C:Addr} {s0:Shared} {H0:Hp} {fp:List Addr} {N:List Str} {pins:List (Addr × Obj)} {σ:St} (bk:Back X (cxC X scope cl C s0 H0 fp N) pins σ fp C s0 H0) (hfrm:X.stack=X.env :: X.outer∧X.env.frame=some X.env.locals) (hx:a8w X E) :
  a1R (CXF X.prog X.w) (cxC X scope cl C s0 H0 fp N) E:=by
 intro pins' σ' H s e s' I h
 obtain ⟨ea,cls,od,S,H',rfl,os,bare,un,hok,lo,hS,q⟩:=h
 have I1:=I.call' (ch:=[]) os un hok bare (fun b z=>absurd z (by simp))
 have X1:=(bk.inv _ _ _ _ I1).1
 show notedBy (model X.prog X.w) X.A (compEnvC scope cl C X.env) (fun e s'=>compPost (model X.prog X.w) X.A X.xe none (fun _ _=>False) Value.none C (.error e) s') (.ref ea) s'
 show wpAny (model X.prog X.w) X.A (noteFrame (.ref ea) X.env) _ _ s'
 have st:=X1.stack
 rw [hfrm.1] at st
 have hfr:=bk.i0.ok.frames
 rw [hfrm.1] at hfr
 refine a8k hfr st hfrm.2 lo fun h3 T m3 hs3 hT x3 t3=>?_
 rw [←hfrm.1] at m3
 have offS:∀ b,s.heap.get? b=none→Off X pins b:=fun b hb=>by
  by_cases hf:b∈fp
  ·obtain ⟨f1,f2,f3,f4⟩:=bk.fp b hf
   refine ⟨fun o ho=>f1.elim id fun z=>?_,f2,f3,f4⟩
   exact absurd (Nat.lt_of_lt_of_le (Heap.lt_size ho) z) (Nat.lt_irrefl _)
  ·refine bk.i0.off (b:=b) ?_
   cases e:s0.heap.get? b with
   | none=>rfl
   | some o=>exact absurd ((I.off hb).1 o e) hf
 have I3:Inv _ pins' σ' H' { s' with heap:=h3,toks:=s'.toks }:=I1.moved (S:=S) m3 fun b hb=>⟨I.off (hS b hb).1,(hS b hb).2⟩
 obtain ⟨X3,gn⟩:=bk.inv _ _ _ _ I3
 obtain ⟨m,hn,_⟩:=I3.loc
 have oT:=X1.off (Heap.get?_none_of_le hs3)
 have nT:=X1.hok.fresh hs3
 have oE:=offS ea (hS ea lo.1).1
 have nE:=(hS ea lo.1).2
 refine ⟨m,hn,fun h4 sb cenv hcl=>?_⟩
 obtain ⟨oc,es,ep,hoc,hdc,_⟩:=id hn
 have eC:ea≠C:=fun z=>by
  obtain ⟨oe,vs,he,_,_,hd,_⟩:=x3
  rw [z] at he
  have hoc':h3.get? C=some oc:=hoc
  rw [he] at hoc'
  cases hoc'
  rw [hd] at hdc
  cases hdc
 have tC:T≠C:=fun z=>by
  obtain ⟨oe,vs,he,hd,_⟩:=t3
  rw [z] at he
  have hoc':h3.get? C=some oc:=hoc
  rw [he] at hoc'
  cases hoc'
  rw [hd] at hdc
  cases hdc
 have X4:Inv X pins σ H' { s' with heap:=h4 }:=X3.gone gn sb
 have x4:a1Y h4 ea cls od (.ref T):=x3.other (sb.2 ea eC)
 have t4:a5J h4 T (rawInt X.env.locals):=by
  obtain ⟨oT,ts,e,r⟩:=t3
  exact ⟨oT,ts,(sb.2 T tC).trans e,r⟩
 unfold PySem.passOn
 obtain ⟨oe,vs,he,hc,hdd,hd1,h1⟩:=id x4
 refine wpAny_bind (wpAny_field (s:={ s' with heap:=h4 }) he hd1 h1 ?_)
 rw [if_neg (by simp)]
 refine wpAny_bind (a7m (s:={ s' with heap:=h4 }) x4 t4 hT fun h5 fl5 sz5 x5 t5 k5=>wpAny_throw ?_)
 have X5:Inv X pins σ H' { s' with heap:=h5,toks:=s'.toks }:=X4.moved (S:=[T]) (fun b o hb hn=>by
  have hbT:b≠T:=fun z=>hn (by rw [z];exact List.mem_cons_self)
  have z:=(k5 b hbT).trans hb
  exact ⟨fun _=>z,o.slots,z⟩) fun b hb=>by rw [List.mem_singleton.mp hb];exact ⟨oT,nT⟩
 exact hx pins σ H' { s' with heap:=h5,toks:=s'.toks } ea T cls fl5 od X5 x5 t5 hT (fun b hb=>by
  rcases List.mem_cons.mp hb with rfl | hb
  ·exact ⟨oT,nT⟩
  ·rw [List.mem_singleton.mp hb];exact ⟨oE,nE⟩) q
def b2n (tc:TT) (te:TE) (σ:St) (d:Addr) (x y:V) (H:Hp) (Z:Hp→Prop):Prop :=
 tc (some x :: some y :: σ) H fun b H3=>if b=true then te (some x :: some y :: σ) H3 fun v H4=>∃ ys,H4 d=some (.lst ys)∧ys.length < sizeLine∧Z (upd H4 d (.lst (ys++[v]))) else Z H3
def tCompZ (K:PySem.W.Frag) (ka kb:Bool) (ta:TA) (tc:TT) (te:TE):TE:=fun σ H Q=>ta σ H fun vs H1=>∃ a b xs ys,vs=[.ref a,.ref b]∧SqK K ka H1 a xs∧SqK K kb H1 b ys∧xs.length=ys.length∧∀ d,H1 d=none →
 ∃ Pv:Nat→Hp→Prop,Pv 0 (upd H1 d (.lst []))∧(∀ i H,i≤xs.length→Pv i H→SqK K ka H a xs∧SqK K kb H b ys)∧(∀ i x y p H,xs[i]?=some x→ys[i]?=some y→Pv i H→H p=none→b2n tc te σ d x y (upd H p (.tup [x,y])) (Pv (i+1)))∧∀ H,Pv xs.length H→Q (.ref d) H
def b0f (K:PySem.W.Frag):TG:=gTup K 2 (b1Q (a2j 0) (b1Q (a2j 1) gNil))
theorem a8x {K:PySem.W.Frag} {v:V} {σ:St} {H:Hp} {Q:St→Hp→Prop} (h:b0f K v (List.replicate 2 none++σ) H Q):b0f K v (List.replicate 2 none++σ) H fun σ2 H2=>(∃ l:St,l.length=2∧σ2=l++σ)∧Q σ2 H2:=by
 obtain ⟨a,xs,e,hq,hl,v1,r1,e1,v2,r2,e2,e3,q⟩:=h
 exact ⟨a,xs,e,hq,hl,v1,r1,e1,v2,r2,e2,e3,⟨[some v1,some v2],rfl,rfl⟩,q⟩
theorem b0g {K:PySem.W.Frag} {ka kb:Bool} {a b:Addr} {xs ys:List V} {tc:TT} {te:TE} {σ:St} {H:Hp} {Q:VK} {d:Addr} (hlen:xs.length=ys.length) (Pv:Nat→Hp→Prop) (h0:Pv 0 (upd H d (.lst []))) (hl:∀ i H,i≤xs.length→Pv i H→SqK K ka H a xs∧SqK K kb H b ys)
  (hs:∀ i x y p H,xs[i]?=some x→ys[i]?=some y→Pv i H→H p=none→b2n tc te σ d x y (upd H p (.tup [x,y])) (Pv (i+1)))
  (hd:∀ H,Pv xs.length H→Q (.ref d) H) :
  ∃ W:Nat→Nat→Hp→Prop,(∃ m,W 0 m (upd H d (.lst [])))∧∀ i m H,W i m H →
   ((Itz K ka kb a b).stop i H∧Q (.ref d) H)∨((Itz K ka kb a b).go i H∧∃ N:Hp→Prop,(∀ H',N H'→∃ m',m' < m∧W (i+1) m' H')∧∀ x H',(Itz K ka kb a b).yld i H x H'→b0f K x (List.replicate 2 none++σ) H' fun σ2 H2 =>
    tc σ2 H2 fun b H3=>if b=true then te σ2 H3 fun y H4=>∃ ys,H4 d=some (.lst ys)∧ys.length < sizeLine∧N (upd H4 d (.lst (ys++[y]))) else N H3):=by
 refine ⟨fun i m H=>m=xs.length - i∧i≤xs.length∧Pv i H,⟨xs.length,by simp,Nat.zero_le _,h0⟩,?_⟩
 rintro i m H ⟨rfl,hi,p⟩
 obtain ⟨q1,q2⟩:=hl i H hi p
 by_cases hlt:i < xs.length
 ·refine .inr ⟨⟨xs,ys,_,_,q1,q2,List.getElem?_eq_getElem hlt,List.getElem?_eq_getElem (by omega)⟩,Pv (i+1),fun H' n=>⟨xs.length - (i+1),by omega,rfl,by omega,n⟩,?_⟩
  rintro v H' ⟨p',x,y,rfl,hn,e1,e2,rfl⟩
  exact ⟨p',[x,y],rfl,SqT.of a0c,rfl,x,[y],rfl,y,[],rfl,rfl,hs i x y p' H (e1 _ q1) (e2 _ q2) p hn⟩
 ·have e:i=xs.length:=by omega
  subst e
  exact .inl ⟨⟨xs,ys,q1,q2,.inl (Nat.le_refl _)⟩,hd H p⟩
theorem a3d {X:Cx} (K:PySem.W.Frag) (ka kb:Bool) {elt a b:Expr} {t1 t2:Str} {p1 p2 tp p pos pos':Pos} {k:Nat} {cs:List Expr} {scope:Scope} {tc:TT} {te:TE} {ta:TA} {M:List Str} (hc:X.calm=true) (S:a0q scope X.env X.N M) (nd:(t1 :: t2 :: M).Nodup) (hl1:scope.names.lookup t1=some .local) (hl2:scope.names.lookup t2=some .local)
  (hg:Gl X "zip") (hm:X.mg "zip"=none) (ha:PA X [a,b] ta) (mo:a5H ta)
  (hin:∀ (cl:List (Str × Addr)) (C:Addr) (s0:Shared) (H0:Hp) (fp:List Addr) (pins:List (Addr × Obj)) (σ:St),Back X (cxC X scope cl C s0 H0 fp (t1 :: t2 :: M)) pins σ fp C s0 H0→PTs (cxC X scope cl C s0 H0 fp (t1 :: t2 :: M)) cs tc∧PE (cxC X scope cl C s0 H0 fp (t1 :: t2 :: M)) elt te)
  (hs:starEach [a,b] X.env=[(false,eval a X.env),(false,eval b X.env)]:=by rfl) (hs2:starEach [b] X.env=[(false,eval b X.env)]:=by rfl) (hf:∀ x,foldedSetIterable (.Call (.Name "zip" p) [a,b] [] pos') X.env x=pure x:=by intro _;rfl) (hK:X.K=K:=by rfl) :
  PE X (.ListComp elt [⟨.Tuple [.Name t1 p1,.Name t2 p2] k tp,.Call (.Name "zip" p) [a,b] [] pos',cs,0⟩] scope pos) (tCompZ K ka kb ta tc te):=by
 subst hK
 have hx1:(relabel scope X.env).names.lookup t1=some .local:=by rw [a0Z,hl1];rfl
 have hx2:(relabel scope X.env).names.lookup t2=some .local:=by rw [a0Z,hl2];rfl
 refine PE.imp (a9P (xs:=[t1,t2]) (M:=M) (g:=b0f X.K) hc S (pi_zip ka kb hg hm ha hs hs2) (fun cl C s0 H0 fp pins σ bk=>⟨a6h hc (a1y (a0H (i:=0) nd rfl (Or.inl hx1) (Or.inr hx1)) (a1y (a0H (i:=1) nd rfl (Or.inl hx2) (Or.inr hx2)) a4m)),hin cl C s0 H0 fp pins σ bk⟩) (fun v σ H Q h=>a8x h) hf) (fun σ H Q h=>?_)
 refine mo σ H _ _ (fun vs H1 q=>?_) h
 obtain ⟨a',b',xs,ys,e,q1,q2,hlen,q⟩:=q
 refine ⟨a',b',xs,ys,e,q1,q2,fun d hd=>?_⟩
 obtain ⟨Pv,h0,hl,hs,hd⟩:=q d hd
 exact b0g hlen Pv h0 hl hs hd
section
variable {κ:Type} [DecidableEq κ]
def a2t (kvs:List (κ × V)) (k:κ):Option V:=(kvs.find? fun kv=>decide (kv.1=k)).map (·.2)
def a3W (kvs:List (κ × V)) (k:κ) (v:V):List (κ × V) :=
 if (kvs.any fun kv=>decide (kv.1=k))=true then kvs.map (fun kv=>if kv.1=k then (kv.1,v) else kv) else kvs++[(k,v)]
def dropK (kvs:List (κ × V)) (k:κ):List (κ × V):=kvs.filter fun kv=>decide (kv.1≠k)
theorem a1j {p:κ × V} {r:List (κ × V)} {k:κ} (e:p.1=k):a2t (p :: r) k=some p.2:=by simp [a2t,List.find?_cons,e]
theorem a1k {p:κ × V} {r:List (κ × V)} {k:κ} (e:¬ p.1=k):a2t (p :: r) k=a2t r k:=by simp [a2t,List.find?_cons,e]
theorem a3e (k:κ):∀ kvs:List (κ × V),(kvs.any fun kv=>decide (kv.1=k))=(a2t kvs k).isSome
 | []=>rfl
 | p :: r=>by
  rw [List.any_cons]
  by_cases e:p.1=k
  ·simp only [a1j e,decide_eq_true e,Bool.true_or,Option.isSome_some]
  ·rw [a1k e,decide_eq_false e,Bool.false_or];exact a3e k r
theorem a6x (k j:κ) (y:V):∀ kvs:List (κ × V),a2t (kvs.map fun kv=>if kv.1=k then (kv.1,y) else kv) j=(a2t kvs j).map fun x=>if j=k then y else x
 | []=>rfl
 | p :: r=>by
  have ih:=a6x k j y r
  rw [List.map_cons]
  by_cases h:p.1=k
  ·rw [if_pos h]
   by_cases e:p.1=j
   ·rw [a1j (p:=(p.1,y)) e,a1j e,Option.map_some,if_pos (e.symm.trans h)]
   ·rw [a1k (p:=(p.1,y)) e,a1k e,ih]
  ·rw [if_neg h]
   by_cases e:p.1=j
   ·rw [a1j (p:=p) e,a1j e,Option.map_some,if_neg (fun z=>h (e.trans z))]
   ·rw [a1k (p:=p) e,a1k e,ih]
theorem a5d (k j:κ) (y:V):∀ kvs:List (κ × V),a2t kvs k=none→a2t (kvs++[(k,y)]) j=if j=k then some y else a2t kvs j
 | [],_=>by
  by_cases e:k=j
  ·rw [if_pos e.symm];exact a1j (p:=(k,y)) e
  ·rw [if_neg (fun z=>e z.symm)];exact a1k (p:=(k,y)) e
 | p :: r,hn=>by
  rw [List.cons_append]
  have hk:¬ p.1=k:=fun z=>by rw [a1j z] at hn;cases hn
  rw [a1k hk] at hn
  have ih:=a5d k j y r hn
  by_cases e:p.1=j
  ·rw [a1j e,a1j e,if_neg (fun z=>hk (e.trans z))]
  ·rw [a1k e,a1k e,ih]
theorem a4z (kvs:List (κ × V)) (k j:κ) (y:V):a2t (a3W kvs k y) j=if j=k then some y else a2t kvs j:=by
 unfold a3W
 by_cases a:(kvs.any fun kv=>decide (kv.1=k))=true
 ·rw [if_pos a,a6x]
  rw [a3e] at a
  by_cases e:j=k
  ·obtain ⟨x,hx⟩:=Option.isSome_iff_exists.mp a
   rw [if_pos e,e,hx,Option.map_some,if_pos rfl]
  ·rw [if_neg e]
   cases a2t kvs j with
   | none=>rfl
   | some x=>rw [Option.map_some,if_neg e]
 ·rw [if_neg a]
  refine a5d k j y kvs ?_
  rw [a3e] at a
  cases q:a2t kvs k with
  | none=>rfl
  | some x=>rw [q] at a;exact (a rfl).elim
theorem a1x (kvs:List (κ × V)) (k:κ) (v:V):(a3W kvs k v).length≤kvs.length+1:=by
 unfold a3W
 split
 ·rw [List.length_map];omega
 ·rw [List.length_append,List.length_cons,List.length_nil];omega
theorem a4L.isSome_eq {o:Option V} {u:Option Value} (r:a4L o u):o.isSome=u.isSome:=by
 cases o with
 | none=>cases u with
  | none=>rfl
  | some _=>exact (show False from r).elim
 | some _=>cases u with
  | none=>exact (show False from r).elim
  | some _=>rfl
theorem a4L.getD {o:Option V} {u:Option Value} {d:V} {d':Value} (r:a4L o u) (rd:a0U d d'):a0U (o.getD d) (u.getD d'):=by
 cases o with
 | none=>cases u with
  | none=>exact rd
  | some _=>exact (show False from r).elim
 | some _=>cases u with
  | none=>exact (show False from r).elim
  | some _=>exact r
theorem KV.val {kvs:List (κ × V)} {vs:List (κ × Value)} (r:KV kvs vs) (k:κ):a4L (a2t kvs k) (valueAt vs k):=by
 unfold KV at r
 induction r with
 | nil=>exact True.intro
 | @cons p q ps qs h t ih =>
  obtain ⟨h1,h2⟩:=h
  by_cases e:p.1=k
  ·have e':q.1=k:=h1.symm.trans e
   have b:valueAt (q :: qs) k=some q.2:=by simp [valueAt,List.find?_cons,e']
   rw [a1j e,b];exact h2
  ·have e':¬ q.1=k:=fun z=>e (h1.trans z)
   have b:valueAt (q :: qs) k=valueAt qs k:=by simp [valueAt,List.find?_cons,e']
   rw [a1k e,b];exact ih
theorem KV.any {kvs:List (κ × V)} {vs:List (κ × Value)} (r:KV kvs vs) (k:κ):(kvs.any fun kv=>decide (kv.1=k))=vs.any fun kv=>decide (kv.1=k):=by
 unfold KV at r
 induction r with
 | nil=>rfl
 | cons h t ih=>rw [List.any_cons,List.any_cons,ih,h.1]
theorem KV.repl {kvs:List (κ × V)} {vs:List (κ × Value)} (r:KV kvs vs) (k:κ) {y:V} {u:Value} (ry:a0U y u) :
  KV (kvs.map fun kv=>if kv.1=k then (kv.1,y) else kv) (vs.map fun kv=>if kv.1=k then (kv.1,u) else kv):=by
 unfold KV at r ⊢
 induction r with
 | nil=>exact .nil
 | @cons p q ps qs h t ih =>
  rw [List.map_cons,List.map_cons]
  refine .cons ?_ ih
  obtain ⟨h1,h2⟩:=h
  by_cases e:p.1=k
  ·rw [if_pos e,if_pos (h1.symm.trans e)];exact ⟨h1,ry⟩
  ·rw [if_neg e,if_neg (fun z=>e (h1.trans z))];exact ⟨h1,h2⟩
theorem KV.put {kvs:List (κ × V)} {vs:List (κ × Value)} (r:KV kvs vs) (k:κ) {y:V} {u:Value} (ry:a0U y u):KV (a3W kvs k y) (stored vs k u):=by
 unfold a3W stored
 rw [r.any k]
 by_cases e:(vs.any fun kv=>decide (kv.1=k))=true
 ·rw [if_pos e,if_pos e];exact r.repl k ry
 ·rw [if_neg e,if_neg e];exact Paired.snoc r ⟨rfl,ry⟩
theorem KV.length {kvs:List (κ × V)} {vs:List (κ × Value)} (r:KV kvs vs):kvs.length=vs.length:=Paired.length r
end
theorem a8y {P:Program} {w:World} {k:Key} {u:Value} (r:a0U (kV k) u):(a1b P w).is k u=true:=by
 cases k with
 | inl i=>obtain ⟨t,e⟩:=(show ∃ t,u=Value.int i t from r);subst e;exact a5w P w i t
 | inr x=>obtain ⟨t,e⟩:=(show ∃ t,u=Value.str x t from r);subst e;exact a5x P w x t
theorem a5e {P:Program} {w:World}:∀ {ks:List Key} {us:List Value},a0K (ks.map kV) us→ItemsAre (a1b P w) ks us
 | [],_,r=>by rw [List.map_nil] at r;cases r;exact .nil
 | k :: ks,_,r=>by
  rw [List.map_cons] at r
  cases r with
  | cons h t=>exact .cons (a8y h) (a5e t)
abbrev KT (H:Hp):List (List Key × V)→List (List Key × Addr × Value)→Prop:=Paired fun p q=>p.1=q.1∧H q.2.1=some (.tup (p.1.map kV))∧a0U p.2 q.2.2
theorem KT.val {H:Hp} {kvs:List (List Key × V)} {xs:List (List Key × Addr × Value)} (r:KT H kvs xs) (k:List Key):a4L (a2t kvs k) ((atKey xs k).map (·.2)):=by
 induction r with
 | nil=>exact True.intro
 | @cons p q ps qs h t ih =>
  obtain ⟨h1,_,h2⟩:=h
  by_cases e:p.1=k
  ·have e':q.1=k:=h1.symm.trans e
   have b:atKey (q :: qs) k=some q.2:=by simp [atKey,List.find?_cons,e']
   rw [a1j e,b];exact h2
  ·have e':¬ q.1=k:=fun z=>e (h1.trans z)
   have b:atKey (q :: qs) k=atKey qs k:=by simp [atKey,List.find?_cons,e']
   rw [a1k e,b];exact ih
theorem KT.repl {H:Hp} {kvs:List (List Key × V)} {xs:List (List Key × Addr × Value)} (r:KT H kvs xs) (k:List Key) {y:V} {u:Value} (ry:a0U y u) :
  KT H (kvs.map fun kv=>if kv.1=k then (kv.1,y) else kv) (xs.map (putAt k u)):=by
 induction r with
 | nil=>exact .nil
 | @cons p q ps qs h t ih =>
  rw [List.map_cons,List.map_cons]
  refine .cons ?_ ih
  obtain ⟨h1,h2,h3⟩:=h
  unfold putAt
  by_cases e:p.1=k
  ·rw [if_pos e,if_pos (h1.symm.trans e)];exact ⟨h1,h2,ry⟩
  ·rw [if_neg e,if_neg (fun z=>e (h1.trans z))];exact ⟨h1,h2,h3⟩
theorem KT.put {H:Hp} {kvs:List (List Key × V)} {xs:List (List Key × Addr × Value)} (r:KT H kvs xs) (k:List Key) {b:Addr} {y:V} {u:Value} (hb:H b=some (.tup (k.map kV))) (ry:a0U y u) :
  KT H (a3W kvs k y) (storedH xs k b u):=by
 have e:(kvs.any fun kv=>decide (kv.1=k))=(atKey xs k).isSome:=by
  rw [a3e,(r.val k).isSome_eq,Option.isSome_map]
 unfold a3W storedH
 rw [e]
 by_cases q:(atKey xs k).isSome=true
 ·rw [if_pos q,if_pos q];exact r.repl k ry
 ·rw [if_neg q,if_neg q];exact Paired.snoc r ⟨rfl,hb,ry⟩
theorem KT.keeps {H H':Hp} {kvs:List (List Key × V)} {xs:List (List Key × Addr × Value)} (r:KT H kvs xs) (ht:∀ b ys,H b=some (.tup ys)→H' b=some (.tup ys)):KT H' kvs xs :=
 Paired.mapP r fun _ _ z=>⟨z.1,ht _ _ z.2.1,z.2.2⟩
section
variable {P:Program} {w:World} {H:Hp} {h:Heap} {a:Addr}
theorem rd_of {u:HO} (ok:HOk P w H h) (e:Rd H a u):a1d P w H h a u:=e.ok ok
theorem a8z {kvs:List (Key × V)} (ok:HOk P w H h) (e:Rd H a (.dK kvs)):kvs.length≤sizeLine∧(a == sysModules)=false∧∃ vs,KV kvs vs∧h.DictOf (a1b P w) a vs :=
 show a1d P w H h a (.dK kvs) from rd_of ok e
theorem dk_of {kvs:List (Key × V)} (ok:HOk P w H h) (e:H a=some (.dK kvs)):kvs.length≤sizeLine∧(a == sysModules)=false∧∃ vs,KV kvs vs∧h.DictOf (a1b P w) a vs:=a8z ok (.inl e)
theorem a6y {ks:List Key} (ok:HOk P w H h) (e:H a=some (.tup (ks.map kV))):(tupleKind (a1b P w)).is h ks a:=by
 obtain ⟨_,its,r,o,h1,h2,n,h3⟩:=a5N (show a1d P w H h a (.tup (ks.map kV)) from ok a _ e)
 exact ⟨o,its.toArray,n,h1,h2,h3,by simpa using a5e r⟩
theorem a8A {kvs:List (List Key × V)} (ok:HOk P w H h) (e:Rd H a (.dT kvs)):kvs.length≤sizeLine∧(a == sysModules)=false ∧
  ∃ xs,KT H kvs xs∧h.DictOfH (tupleKind (a1b P w)) a xs:=by
 obtain ⟨z,y,xs,r,o,es,ep,h1,h2,h3,h4,h5⟩:=(show a1d P w H h a (.dT kvs) from rd_of ok e)
 refine ⟨z,y,xs,r,o,es,ep,h1,h2,h3,h4,fun x hx=>?_,h5⟩
 have all:∀ {l:List (List Key × V)} {m:List (List Key × Addr × Value)},KT H l m→∀ x∈m,(tupleKind (a1b P w)).is h x.1 x.2.1:=by
  intro l m q
  induction q with
  | nil=>intro x hx;exact nomatch hx
  | @cons p q ps qs hq t ih =>
   intro x hx
   rcases List.mem_cons.mp hx with e | hx
   ·subst e
    exact a6y ok (by rw [←hq.1];exact hq.2.1)
   ·exact ih x hx
 exact all r x hx
theorem dt_of {kvs:List (List Key × V)} (ok:HOk P w H h) (e:H a=some (.dT kvs)):kvs.length≤sizeLine∧(a == sysModules)=false ∧
  ∃ xs,KT H kvs xs∧h.DictOfH (tupleKind (a1b P w)) a xs:=a8A ok (.inl e)
end
def a6z (H:Hp) (a:Addr) (y:V) (r:Option V):Prop :=
 (∃ kvs k,Rd H a (.dK kvs)∧y=kV k∧r=a2t kvs k)∨∃ kvs k b,Rd H a (.dT kvs)∧y=.ref b∧H b=some (.tup (k.map kV))∧r=a2t kvs k
def b0h (H:Hp) (a:Addr) (y v:V) (H':Hp):Prop :=
 (∃ kvs k,H a=some (.dK kvs)∧y=kV k∧kvs.length < sizeLine∧H'=upd H a (.dK (a3W kvs k v))) ∨
 ∃ kvs k b,H a=some (.dT kvs)∧y=.ref b∧H b=some (.tup (k.map kV))∧kvs.length < sizeLine∧H'=upd H a (.dT (a3W kvs k v))
theorem a6z.k {H:Hp} {a:Addr} {kvs:List (Key × V)} {k:Key} (e:H a=some (.dK kvs)):a6z H a (kV k) (a2t kvs k):=.inl ⟨kvs,k,.inl e,rfl,rfl⟩
theorem a6z.t {H:Hp} {a b:Addr} {kvs:List (List Key × V)} {k:List Key} (e:H a=some (.dT kvs)) (eb:H b=some (.tup (k.map kV))):a6z H a (.ref b) (a2t kvs k):=.inr ⟨kvs,k,b,.inl e,rfl,eb,rfl⟩
theorem b0h.k {H:Hp} {a:Addr} {kvs:List (Key × V)} {k:Key} {v:V} (e:H a=some (.dK kvs)) (hl:kvs.length < sizeLine):b0h H a (kV k) v (upd H a (.dK (a3W kvs k v))):=.inl ⟨kvs,k,e,rfl,hl,rfl⟩
theorem b0h.t {H:Hp} {a b:Addr} {kvs:List (List Key × V)} {k:List Key} {v:V} (e:H a=some (.dT kvs)) (eb:H b=some (.tup (k.map kV))) (hl:kvs.length < sizeLine) :
  b0h H a (.ref b) v (upd H a (.dT (a3W kvs k v))):=.inr ⟨kvs,k,b,e,rfl,eb,hl,rfl⟩
section
variable {X:Cx} {pins:List (Addr × Obj)} {σ:St} {H:Hp} {s:Shared} {a:Addr} {y v:V} {u r:Value} {o:Option V} {A:Around} {E:Value→Shared→Prop}
theorem Inv.big (I:Inv X pins σ H s):sysModules < s.heap.objs.size:=by
 have h:mainGlobals < s.heap.objs.size:=(I.mod.glob.keeps I.bk).lt
 exact Nat.lt_trans (by decide) h
theorem a8B {Q:Value→Shared→Prop} (hu:A.units+1 < cLine) (I:Inv X pins σ H s) (g:a6z H a y (some v)) (ry:a0U y u) (h:∀ w' s',Inv X pins σ H s'→a0U v w'→Q w' s') :
  wpAny (model X.prog X.w) A (getItem (.ref a) u) Q E s:=by
 rcases g with ⟨kvs,k,e,ey,l⟩ | ⟨kvs,k,b,e,ey,eb,l⟩
 ·subst ey
  obtain ⟨z,hd,vs,rel,dd⟩:=a8z I.hok e
  obtain ⟨w',hw,rw'⟩:=a4L.some_of (v:=v) (o:=valueAt vs k) (by rw [l];exact rel.val k)
  exact wpAny_getItem_of (a8y ry) dd.mapOf hw (h w' _ (I.tok _) rw')
 ·subst ey
  cases (show u=Value.ref b from ry)
  obtain ⟨z,hd,xs,rel,dd⟩:=a8A I.hok e
  obtain ⟨w',hw,rw'⟩:=a4L.some_of (v:=v) (o:=(atKey xs k).map (·.2)) (by rw [l];exact rel.val k)
  obtain ⟨p,hp,hp2⟩:=Option.map_eq_some_iff.mp hw
  refine wpAny_getItem_heap (tupleKind_room_in1 hu) (a6y I.hok eb) dd hp ?_
  rw [hp2]
  exact h w' _ (I.tok _) rw'
theorem a5P {h':Heap} {t':Nat} {ob:HO} (I:Inv X pins σ H s) (mu:Mut (H a)) (hs:Heap.SameBut a s.heap h') (he:∃ q,h'.get? a=some q) (new:a1d X.prog X.w (upd H a ob) h' a ob) :
  Inv X pins σ (upd H a ob) { s with heap:=h',toks:=t' } :=
 I.write (x:=a) (e:=a) mu (.inl rfl) (fun b q hb z=>(hs.2 b hb).trans z) he new
theorem b1p {P:Program} {w:World} {H':Hp} {h':Heap} {kvs:List (Key × V)} {vs:List (Key × Value)} (z:kvs.length≤sizeLine) (hd:(a == sysModules)=false) (rel:KV kvs vs) (dd:h'.DictOf (a1b P w) a vs) :
  a1d P w H' h' a (.dK kvs):=⟨z,hd,vs,rel,dd⟩
theorem a8C {H':Hp} {Q:Unit→Shared→Prop} (hu:A.units+1 < cLine) (I:Inv X pins σ H s) (g:b0h H a y v H') (ry:a0U y u) (rv:a0U v r) (h:∀ s',Inv X pins σ H' s'→Q () s') :
  wpAny (model X.prog X.w) A (setItem (.ref a) u r) Q E s:=by
 rcases g with ⟨kvs,k,e,ey,l,eH⟩ | ⟨kvs,k,b,e,ey,eb,l,eH⟩
 ·subst ey eH
  obtain ⟨z,hd,vs,rel,dd⟩:=dk_of I.hok e
  have hz:vs.length≤sizeLine:=by rw [←rel.length];exact z
  have hl:(a3W kvs k v).length≤sizeLine:=by have:=a1x kvs k v;omega
  refine wpAny_setItem_pairs (hsz:=hz) (a8y ry) dd fun h' dd' hs=>h _ ?_
  have he:∃ q,h'.get? a=some q:=let ⟨q,_,_,hq,_⟩:=dd';⟨q,hq⟩
  exact a5P I (by rw [e];exact True.intro) hs he (b1p hl hd (rel.put k rv) dd')
 ·subst ey eH
  cases (show u=Value.ref b from ry)
  obtain ⟨z,hd,xs,rel,dd⟩:=dt_of I.hok e
  have hz:xs.length≤sizeLine:=by rw [←Paired.length rel];exact z
  have hl:(a3W kvs k v).length≤sizeLine:=by have:=a1x kvs k v;omega
  refine wpAny_setItem_heap (hsz:=hz) (tupleKind_room_in1 hu) (a6y I.hok eb) dd fun h' dd' hs=>h _ ?_
  obtain ⟨q,es,ep,hq,h2,h3,h4,_,h5⟩:=dd'
  refine a5P I (by rw [e];exact True.intro) hs ⟨q,hq⟩ ⟨hl,hd,_,(rel.put k eb rv).keeps fun c ys ec=>?_,q,es,ep,hq,h2,h3,h4,h5⟩
  rw [a0j (a0G ec e (fun z=>nomatch z))]
  exact ec
end
section
variable {X:Cx} {pins:List (Addr × Obj)} {σ:St} {H:Hp} {s:Shared} {a:Addr} {kvs:List (Key × V)} {k:Key} {u:Value} {A:Around} {E:Value→Shared→Prop}
end
def NoSl (i:Expr):Prop:=∀ ov iv,subscripted i false ov iv=operate [ov,iv] (getItem ov iv)
theorem b2o {prog:Program} {w:World} {A:Around} {E:Value→Shared→Prop} {s:Shared} {env:Env} {value slice:Expr} {pos:Pos} {T id:String} {Q:Value→Shared→Prop}
  (hl:typeLookup (.type T) "__getitem__"=pure (some (.builtin id))) (hs:NoSl slice)
  (h:wpAny (model prog w) A (eval value env) (fun o s₁=>wpAny (model prog w) A (eval slice env) (fun i s₂=>s₂.TypeIs o T∧wpAny (model prog w) A (getItem o i) Q E s₂) E s₁) E s) :
  wpAny (model prog w) A (eval (.Subscript value slice pos) env) Q E s:=by
 refine Subscript_ (wpAny_mono h (fun o s₁ h₁=>wpAny_mono h₁ (fun i s₂ h₂=>?_) fun _ _ x=>x) fun _ _ x=>x)
 obtain ⟨hT,h₂⟩:=h₂
 unfold subscriptTail
 refine wpAny_bind ?_
 rw [getitemInPython_of_ne hT.not_modules]
 refine wpAny_bind (wpAny_specialOf hT hl ?_)
 have fin:wpAny (model prog w) A (subscripted slice false o i) (fun r s₃=>wpAny (model prog w) A (letTemporaryGo value o r >>= fun _=>pure r) Q E s₃) E s₂:=by
  rw [hs o i]
  exact wpAny_operating (wpAny_mono h₂ (fun r s₃ h₃=>wpAny_bind (wpAny_letTemporaryGo (wpAny_pure h₃))) fun _ _ x=>x)
 first
  | exact wpAny_pure (wpAny_bind fin)
  | exact wpAny_bind (wpAny_pure (wpAny_bind fin))
  | exact wpAny_bind fin
theorem a5Q {X:Cx} {pins:List (Addr × Obj)} {σ:St} {H:Hp} {s:Shared} {a:Addr} {y:V} {o:Option V} (I:Inv X pins σ H s) (g:a6z H a y o):s.TypeIs (.ref a) "dict":=by
 rcases g with ⟨kvs,k,e,_,_⟩ | ⟨kvs,k,b,e,_,_,_⟩
 ·obtain ⟨_,_,vs,_,dd⟩:=a8z I.hok e
  exact dd.typeIs
 ·obtain ⟨_,_,xs,_,dd⟩:=a8A I.hok e
  exact dd.typeIs
def tDGet (td ty:TE):TE:=fun σ H Q=>td σ H fun x H1=>ty σ H1 fun y H2=>∃ a v,x=.ref a∧a6z H2 a y (some v)∧Q v H2
def tDIn (ty td:TE):TE:=fun σ H Q=>ty σ H fun y H1=>td σ H1 fun x H2=>∃ a o,x=.ref a∧a6z H2 a y o∧Q (.bl o.isSome) H2
def sDPut (td ty tv:TE):TS:=fun D σ H=>tv σ H fun v H1=>td σ H1 fun x H2=>ty σ H2 fun y H3=>∃ a H4,x=.ref a∧b0h H3 a y v H4∧D.nx σ H4
def sDAug (td ty tv:TE) (rd:V→V→Hp→VK→Prop):TS:=fun D σ H=>td σ H fun x H1=>ty σ H1 fun y H2=>∃ a v,x=.ref a∧a6z H2 a y (some v) ∧
 tv σ H2 fun y2 H3=>rd v y2 H3 fun z H4=>∃ H5,b0h H4 a y z H5∧D.nx σ H5
def sDDel (td ty:TE):TS:=fun D σ H=>td σ H fun x H1=>ty σ H1 fun y H2=>∃ a kvs k,x=.ref a∧H2 a=some (.dK kvs)∧y=kV k∧(a2t kvs k).isSome=true∧D.nx σ (upd H2 a (.dK (dropK kvs k)))
section
variable {X:Cx} {o i e value:Expr} {pos pos' tpos:Pos} {td ty tv:TE}
theorem a8D (hu:X.A.units+1 < cLine) (ho:PE X o td) (hi:PE X i ty) (hs:NoSl i):PE X (.Subscript o i pos) (tDGet td ty):=by
 intro pins s σ H Q I h
 refine b2o PySem.F.slot_dict_getitem.lookup hs (thn (ho pins s σ H _ I h) fun u s1 ⟨x,H1,I1,rx,q1⟩=>thn (hi pins s1 σ H1 _ I1 q1) fun iv s2 ⟨y,H2,I2,ry,a,v,ex,g,q2⟩=>?_)
 subst ex
 obtain rfl:u=Value.ref a:=rx
 exact ⟨a5Q I2 g,a8B hu I2 g ry fun w' s3 I3 rw'=>⟨v,H2,I3,rw',q2⟩⟩
theorem a8E (hu:X.A.units+1 < cLine) (ho:PE X o td) (hi:PE X i ty) (hv:PE X value tv) (hs:swapsWith value (some (.Subscript o i pos')) pos.line X.env=pure false) :
  PS X (.Assign [.Subscript o i pos'] value pos) (sDPut td ty tv):=by
 intro pins s σ H D I h
 refine wpAny_Assign_Subscript (thn (hv pins s σ H _ I h) fun r s1 ⟨v,H1,I1,rv,q1⟩=>thn (ho pins s1 σ H1 _ I1 q1) fun u s2 ⟨x,H2,I2,rx,q2⟩=>thn (hi pins s2 σ H2 _ I2 q2) fun iv s3 ⟨y,H3,I3,ry,a,H4,ex,g,q3⟩=>?_) hs
 subst ex
 obtain rfl:u=Value.ref a:=rx
 exact a8C hu I3 g ry rv fun s4 I4=>⟨σ,H4,I4,q3⟩
end
theorem b0i {P:Program} {w:World} {H:Hp} (h:Heap) (hb:sysModules < h.objs.size):a1d P w H (h.push { cls:=.type "dict",data:=.dict #[] }) h.objs.size (.dK []) :=
 ⟨Nat.zero_le _,beq_eq_false_iff_ne.mpr (Ne.symm (Nat.ne_of_lt hb)),[],.nil,Heap.DictOf.new h⟩
theorem b0j {P:Program} {w:World} {H:Hp} (h:Heap) (hb:sysModules < h.objs.size):a1d P w H (h.push { cls:=.type "dict",data:=.dict #[] }) h.objs.size (.dT []) :=
 ⟨Nat.zero_le _,beq_eq_false_iff_ne.mpr (Ne.symm (Nat.ne_of_lt hb)),[],.nil,_,#[],0,Heap.get?_push_size _ rfl,⟨rfl,rfl,rfl⟩,rfl,rfl,List.nodup_nil⟩
def tDNewK:TE:=fun _ H Q=>∀ p,H p=none→Q (.ref p) (upd H p (.dK []))
def tDNewT:TE:=fun _ H Q=>∀ p,H p=none→Q (.ref p) (upd H p (.dT []))
section
variable {X:Cx} {pos:Pos}
theorem b0k:PE X (.Dict [] [] pos) tDNewT:=fun pins s σ H Q I h =>
 wpAny_Dict_empty ⟨.ref s.heap.objs.size,_,I.laid (a:=s.heap.objs.size) (o:=.dT []) (t':=s.toks) (fun _ _ q=>Heap.get?_push_of_some _ q) (Nat.le_refl _) (b0j s.heap I.big),rfl,h _ (I.hok.fresh (Nat.le_refl _))⟩
end
def a8F:List (TE × TE)→St→Hp→(List (V × V)→Hp→Prop)→Prop
 | [],_,H,Q=>Q [] H
 | (tk,tv) :: r,σ,H,Q=>tk σ H fun x H1=>tv σ H1 fun y H2=>a8F r σ H2 fun ps H3=>Q ((x,y) :: ps) H3
abbrev VV:List (V × V)→List (Value × Value)→Prop:=Paired fun p q=>a0U p.1 q.1∧a0U p.2 q.2
def PPs (X:Cx) (pos:Pos) (keys:List (Option Expr)) (values:List Expr) (trs:List (TE × TE)):Prop :=
 ∀ (pins:List (Addr × Obj)) (s:Shared) (σ:St) (H:Hp) (Q:List (V × V)→Hp→Prop),Inv X pins σ H s→a8F trs σ H Q →
  wpAny (model X.prog X.w) X.A (evalPairs (pairTrees keys values X.env pos)) (fun vs s'=>∃ ps H',Inv X pins σ H' s'∧VV ps vs∧Q ps H') X.xe s
theorem b2p {X:Cx} {pos:Pos}:PPs X pos [] [] []:=fun pins s σ H Q I h=>pairTrees_nil_walk ⟨[],H,I,.nil,h⟩
theorem b0l {X:Cx} {pos:Pos} {k v:Expr} {ks:List (Option Expr)} {vs:List Expr} {tk tv:TE} {trs:List (TE × TE)} (hk:PE X k tk) (hv:PE X v tv) (hr:PPs X pos ks vs trs) :
  PPs X pos (some k :: ks) (v :: vs) ((tk,tv) :: trs):=fun pins s σ H Q I h =>
 pairTrees_cons_walk (thn (hk pins s σ H _ I h) fun u s1 ⟨x,H1,I1,rx,q1⟩=>thn (hv pins s1 σ H1 _ I1 q1) fun w2 s2 ⟨y,H2,I2,ry,q2⟩ =>
  thn (hr pins s2 σ H2 _ I2 q2) fun ws s3 ⟨ps,H3,I3,rel,q3⟩=>⟨(x,y) :: ps,H3,I3,.cons ⟨rx,ry⟩ rel,q3⟩)
def a2Y (kvs more:List (Key × V)):List (Key × V):=more.foldl (fun acc kv=>a3W acc kv.1 kv.2) kvs
theorem KV.merge:∀ {more:List (Key × V)} {rs:List (Key × Value)} {kvs:List (Key × V)} {vs:List (Key × Value)},KV more rs→KV kvs vs→KV (a2Y kvs more) (merged vs rs):=by
 intro more rs kvs vs r
 unfold KV at r
 induction r generalizing kvs vs with
 | nil=>intro q;exact q
 | @cons p q ps qs h t ih =>
  intro r0
  have e:KV (a3W kvs p.1 p.2) (stored vs q.1 q.2):=by
   have:=r0.put p.1 h.2
   rw [←h.1];exact this
  exact ih e
theorem a2D:∀ (more kvs:List (Key × V)),(a2Y kvs more).length≤kvs.length+more.length
 | [],kvs=>by show kvs.length≤kvs.length+0;omega
 | p :: r,kvs=>by
  have h1:=a2D r (a3W kvs p.1 p.2)
  have h2:=a1x kvs p.1 p.2
  show (a2Y (a3W kvs p.1 p.2) r).length≤_
  rw [List.length_cons];omega
theorem a3X {P:Program} {w:World}:∀ {kvs:List (Key × V)} {ws:List (Value × Value)},VV (kvs.map fun kv=>(kV kv.1,kv.2)) ws→∃ rs,Carries (a1b P w) ws rs∧KV kvs rs
 | [],_,r=>by rw [List.map_nil] at r;cases r;exact ⟨[],True.intro,.nil⟩
 | p :: kvs,_,r=>by
  rw [List.map_cons] at r
  cases r with
  | @cons a b as bs h t =>
   obtain ⟨rs,c,q⟩:=a3X (P:=P) (w:=w) t
   obtain ⟨b1,b2⟩:=b
   exact ⟨(p.1,b2) :: rs,⟨a8y h.1,rfl,c⟩,.cons ⟨rfl,h.2⟩ q⟩
def tDisp (trs:List (TE × TE)):TE:=fun σ H Q=>∀ p,H p=none→a8F trs σ (upd H p (.dK [])) fun ps H2=>H2 p=some (.dK [])∧∃ kvs:List (Key × V),ps=kvs.map (fun kv=>(kV kv.1,kv.2))∧kvs.length≤15∧Q (.ref p) (upd H2 p (.dK (a2Y [] kvs)))
theorem b2q {X:Cx} {pos:Pos} {keys:List (Option Expr)} {values:List Expr} {trs:List (TE × TE)} (h:PPs X pos keys values trs) (hall:keys.all (·.isSome)=true) (hl:keys.length=values.length) (h0:keys≠[])
  (h15:keys.length≤15):PE X (.Dict keys values pos) (tDisp trs):=by
 intro pins s σ H Q I q
 have hn:=I.hok.fresh (Nat.le_refl s.heap.objs.size)
 have I1:=I.laid (a:=s.heap.objs.size) (o:=.dK []) (h':=s.heap.push { cls:=.type "dict",data:=.dict #[] }) (t':=s.toks) (fun _ _ q=>Heap.get?_push_of_some _ q) (Nat.le_refl _) (b0i s.heap I.big)
 refine wpAny_Dict_walk (knd:=a1b X.prog X.w) hall hl h0 h15 (thn (h pins _ σ _ _ I1 (q _ hn)) fun ws s2 ⟨ps,H2,I2,rel,e,kvs,ep,lk,q2⟩=>?_)
 subst ep
 obtain ⟨rs,c,rk⟩:=a3X (P:=X.prog) (w:=X.w) rel
 obtain ⟨z,hd,vs0,r0,dd⟩:=dk_of I2.hok e
 cases r0
 refine ⟨rs,c,dd,fun h' dd' hs=>⟨.ref s.heap.objs.size,_,?_,rfl,q2⟩⟩
 have hz:(a2Y [] kvs).length≤sizeLine:=by
  have h1:=a2D kvs []
  rw [List.length_nil] at h1
  rw [sizeLine_eq];omega
 have he:∃ q,h'.get? s.heap.objs.size=some q:=let ⟨q,_,_,hq,_⟩:=dd';⟨q,hq⟩
 exact a5P I2 (by rw [e];exact True.intro) hs he (b1p hz hd (rk.merge .nil) dd')
structure M1 (X:Cx) (o:Expr) (m:Str) (apos:Pos) (e:Expr) (cpos:Pos):Prop where
 base:attributeBase o m X.env (eval o X.env)=eval o X.env
 few:((backTo cpos (starEach [e] X.env)).all (fun x=>!x.1) && (backToKw cpos (keywordEach [] X.env)).all (fun x=>x.1.isSome)
  && decide (([e]:List Expr).length+([]:List Keyword).length+(if ([]:List Keyword).isEmpty then 0 else 1) < 30))=true
 line:(apos.endLine == cpos.line)=true
 trees:backTo cpos (starEach [e] X.env)=[(false,eval e X.env)]
structure M2 (X:Cx) (o:Expr) (m:Str) (apos:Pos) (e f:Expr) (cpos:Pos):Prop where
 base:attributeBase o m X.env (eval o X.env)=eval o X.env
 few:((backTo cpos (starEach [e,f] X.env)).all (fun x=>!x.1) && (backToKw cpos (keywordEach [] X.env)).all (fun x=>x.1.isSome)
  && decide (([e,f]:List Expr).length+([]:List Keyword).length+(if ([]:List Keyword).isEmpty then 0 else 1) < 30))=true
 line:(apos.endLine == cpos.line)=true
 trees:backTo cpos (starEach [e,f] X.env)=[(false,eval e X.env),(false,eval f X.env)]
def IsD (H:Hp) (a:Addr):Prop:=(∃ kvs,Rd H a (.dK kvs))∨∃ kvs,Rd H a (.dT kvs)
theorem isD_at {X:Cx} {pins:List (Addr × Obj)} {σ:St} {H:Hp} {s:Shared} {a:Addr} (I:Inv X pins σ H s) (d:IsD H a) :
  s.TypeIs (.ref a) "dict"∧(∀ b,Value.ref a=.ref b→∃ ob,s.heap.get? b=some ob∧ob.dict=none)∧(a == sysModules)=false:=by
 rcases d with ⟨kvs,e⟩ | ⟨kvs,e⟩
 ·obtain ⟨_,hd,vs,_,dd⟩:=a8z I.hok e
  refine ⟨dd.typeIs,fun b q=>?_,hd⟩
  cases q
  obtain ⟨ob,_,_,h1,h2,_⟩:=dd
  exact ⟨ob,h1,h2.2.1⟩
 ·obtain ⟨_,hd,xs,_,dd⟩:=a8A I.hok e
  refine ⟨dd.typeIs,fun b q=>?_,hd⟩
  cases q
  obtain ⟨ob,_,_,h1,h2,_⟩:=dd
  exact ⟨ob,h1,h2.2.1⟩
section
variable {X:Cx} {pins:List (Addr × Obj)} {σ:St} {H:Hp} {s:Shared} {a:Addr} {y d:V} {u r:Value} {o:Option V} {A:Around} {E:Value→Shared→Prop}
theorem d_get2 {Q:Value→Shared→Prop} (hu:A.units+1 < cLine) (I:Inv X pins σ H s) (g:a6z H a y o) (ry:a0U y u) (rd:a0U d r) (h:∀ w' s',Inv X pins σ H s'→a0U (o.getD d) w'→Q w' s') :
  wpAny (model X.prog X.w) A (call (.builtin "dict.get") [.ref a,u,r]) Q E s:=by
 rcases g with ⟨kvs,k,e,ey,l⟩ | ⟨kvs,k,b,e,ey,eb,l⟩
 ·subst ey
  obtain ⟨z,hd,vs,rel,dd⟩:=a8z I.hok e
  refine call_meetsIn PySem.F.slot_dict_get dd.typeIs PySem.F.entry_dict_get (PySem.F.args_dict_get_3 _ _ _) (meets_dict_get_default (a1b X.prog X.w) a (a8y ry) hd r) ⟨_,dd.mapOf,h _ _ (I.tok _) ?_⟩
  rw [l]
  exact (rel.val k).getD rd
 ·subst ey
  cases (show u=Value.ref b from ry)
  obtain ⟨z,hd,xs,rel,dd⟩:=a8A I.hok e
  refine call_meetsIn PySem.F.slot_dict_get dd.typeIs PySem.F.entry_dict_get (PySem.F.args_dict_get_3 _ _ _) (meetsH_dict_get_default (tupleKind (a1b X.prog X.w)) a b hd r) ⟨tupleKind_room_in1 hu,k,xs,a6y I.hok eb,dd,h _ _ (I.tok _) ?_⟩
  rw [l]
  exact (rel.val k).getD rd
end
def tDGet2 (td ty tx:TE):TE:=fun σ H Q=>td σ H fun x H1=>∃ a,x=.ref a∧IsD H1 a∧ty σ H1 fun y H2=>tx σ H2 fun z H3=>∃ o,a6z H3 a y o∧Q (o.getD z) H3
def tDPop1 (td ty:TE):TE:=fun σ H Q=>td σ H fun x H1=>∃ a,x=.ref a∧IsD H1 a∧ty σ H1 fun y H2=>∃ kvs k v,H2 a=some (.dK kvs)∧y=kV k∧a2t kvs k=some v∧Q v (upd H2 a (.dK (dropK kvs k)))
section
variable {X:Cx} {o e f:Expr} {apos cpos:Pos} {td ty tx:TE}
theorem b0m (hu:X.A.units+1 < cLine) (ho:PE X o td) (he:PE X e ty) (hf:PE X f tx) (m:M2 X o "get" apos e f cpos):PE X (.Call (.Attribute o "get" apos) [e,f] [] cpos) (tDGet2 td ty tx):=by
 intro pins s σ H Q I h
 refine wpAny_Call_method m.base m.few m.line PySem.F.plainAttrs_dict PySem.F.slot_dict_get PySem.F.type_dict_get (thn (ho pins s σ H _ I h) fun u s1 ⟨x,H1,I1,rx,a,ex,d,q1⟩=>?_)
 subst ex
 obtain rfl:u=Value.ref a:=rx
 obtain ⟨t1,t2,_⟩:=isD_at I1 d
 refine ⟨t1,t2,?_⟩
 rw [m.trees]
 refine Calls.callWith_builtin rfl (Calls.evalArgs_plain (Calls.spliced_cons (thn (he pins s1 σ H1 _ I1 q1) fun iv s2 ⟨y,H2,I2,ry,q2⟩ =>
  Calls.spliced_cons (thn (hf pins s2 σ H2 _ I2 q2) fun fv s3 ⟨z,H3,I3,rz,ov,g,q3⟩=>Calls.spliced_nil ?_))))
 exact d_get2 hu I3 g ry rz fun w' s4 I4 rw'=>⟨_,H3,I4,rw',q3⟩
end
section
variable {X:Cx} {pins:List (Addr × Obj)} {σ:St} {H:Hp} {s:Shared} {a:Addr} {kvs:List (Key × V)} {A:Around} {E:Value→Shared→Prop}
end
section
variable {X:Cx} {pins:List (Addr × Obj)} {σ:St} {H:Hp} {s:Shared} {a:Addr} {y:V} {u:Value} {A:Around} {E:Value→Shared→Prop}
end
section
variable {prog:Program} {w:World} {A:Around} {E:Value→Shared→Prop} {s:Shared} {k:Bool} {ee it l:Addr} {n:Nat} {xs:Array Value} {x old:Value}
theorem a7o {Q:Value→Shared→Prop} (he:IsEnum s.heap ee it n old) (hi:SIt k s.heap it l n) (hl:SAt k s.heap l xs) (hx:xs[n]?=some x) (hne:ee≠it)
  (hQ:∀ h',IsEnumOut h' ee it ((n:Int)+1) x s.heap.objs.size→SIt k h' it l (n+1)→h'.get? s.heap.objs.size=some { cls:=.type "tuple",data:=.seq #[.int n s.toks,x] } →
   (∀ b o,b≠ee→b≠it→s.heap.get? b=some o→h'.get? b=some o)→Q (.ref s.heap.objs.size) { s with heap:=h',toks:=s.toks+1 }) :
  wpAny (model prog w) A (Builtin.«enumerate.__next__» ⟨[.ref ee],[]⟩) (fun fin s'=>∃ v,fin=.done (.ret v)∧Q v s') E s:=by
 obtain ⟨hp,g,d,tk,os⟩:=s
 show wpAny _ _ (field (.ref ee) 2 >>= _) _ _ _
 refine wpAny_bind (wpAny_field he rfl (x:=.ref it) rfl (wpAny_bind (a9Z hi hl hx fun g1 i1 b1=>?_)))
 replace b1:Heap.SameBut it hp g1:=b1
 have e1:IsEnum g1 ee it n old:=(b1.2 ee hne).trans he
 show wpAny _ _ (field (.ref ee) 3 >>= _) _ _ ⟨g1,g,d,tk,os⟩
 refine wpAny_bind (wpAny_field e1 rfl (x:=rawInt n) rfl ?_)
 show wpAny _ _ (field (.ref ee) 4 >>= _) _ _ ⟨g1,g,d,tk,os⟩
 refine wpAny_bind (wpAny_field e1 rfl (x:=.none) rfl ?_)
 show wpAny _ _ (mkInt n >>= _) _ _ ⟨g1,g,d,tk,os⟩
 refine wpAny_bind (wpAny_mkInt ?_)
 show wpAny _ _ (setField (.ref ee) 3 (rawInt ((n:Int)+1)) >>= _) _ _ ⟨g1,g,d,tk+1,os⟩
 refine wpAny_bind (wpAny_setField_rec e1 (by simp) fun g2 e2 b2=>?_)
 replace b2:Heap.SameBut ee g1 g2:=b2
 replace e2:IsEnum g2 ee it ((n:Int)+1) old:=e2
 show wpAny _ _ (setField (.ref ee) 4 .none >>= _) _ _ ⟨g2,g,d,tk+1,os⟩
 refine wpAny_bind (wpAny_setField_rec e2 (by simp) fun g3 e3 b3=>?_)
 replace b3:Heap.SameBut ee g2 g3:=b3
 replace e3:IsEnum g3 ee it ((n:Int)+1) old:=e3
 show wpAny _ _ (newTuple [.int n tk,x] >>= _) _ _ ⟨g3,g,d,tk+1,os⟩
 refine wpAny_bind (wpAny_newTuple ?_)
 have e4:IsEnum (g3.push { cls:=.type "tuple",data:=.seq #[.int n tk,x] }) ee it ((n:Int)+1) old:=Heap.get?_push_of_some _ e3
 generalize q4:g3.push { cls:=.type "tuple",data:=.seq #[.int n tk,x] }=g4 at e4
 have sz:g3.objs.size=hp.objs.size:=by rw [b3.1,b2.1,b1.1]
 have lt:ee < hp.objs.size:=Heap.lt_size he
 have t4:g4.get? hp.objs.size=some { cls:=.type "tuple",data:=.seq #[.int n tk,x] }:=by rw [←q4,←sz];exact Heap.get?_push_size _ rfl
 have k4:∀ b o,b≠ee→b≠it→hp.get? b=some o→g4.get? b=some o:=fun b o c1 c2 hb=>by
  rw [←q4];exact Heap.get?_push_of_some _ (b3.extBut b o c1 (b2.extBut b o c1 (b1.extBut b o c2 hb)))
 have i4:SIt k g4 it l (n+1):=i1.at fun o e=>by
  rw [←q4];exact Heap.get?_push_of_some _ (b3.extBut _ _ (Ne.symm hne) (b2.extBut _ _ (Ne.symm hne) e))
 show wpAny _ _ (Builtin.SmallTypes.ownedTupleIsFree (.ref ee) >>= _) _ _ ⟨g4,g,d,tk+1,os⟩
 rw [sz]
 clear q4 e3 b3 e2 b2 e1 b1 i1 sz g3 g2 g1
 refine wpAny_bind ?_
 unfold Builtin.SmallTypes.ownedTupleIsFree
 refine wpAny_bind (wpAny_field e4 rfl (x:=.none) rfl (wpAny_pure ?_))
 simp only [if_true]
 refine wpAny_bind (wpAny_rule (wpAny_bind (wpAny_field e4 rfl (x:=old) rfl (wpAny_bind (wpAny_setField_rec e4 (by simp) fun g5 e5 b5=>?_)))))
 replace b5:Heap.SameBut ee g4 g5:=b5
 replace e5:IsEnum g5 ee it ((n:Int)+1) x:=e5
 show wpAny _ _ (Builtin.SmallTypes.ownedTupleHandOut (.ref ee) (.ref hp.objs.size) >>= _) _ _ ⟨g5,g,d,tk+1,os⟩
 refine wpAny_bind ?_
 unfold Builtin.SmallTypes.ownedTupleHandOut
 refine wpAny_bind (wpAny_setField_rec e5 (by simp) fun g6 e6 b6=>?_)
 replace b6:Heap.SameBut ee g5 g6:=b6
 replace e6:IsEnumOut g6 ee it ((n:Int)+1) x hp.objs.size:=e6
 refine wpAny_setField_rec e6 (by simp) fun g7 e7 b7=>?_
 replace b7:Heap.SameBut ee g6 g7:=b7
 replace e7:IsEnumOut g7 ee it ((n:Int)+1) x hp.objs.size:=e7
 have up:∀ b o,b≠ee→g4.get? b=some o→g7.get? b=some o:=fun b o c1 e=>b7.extBut b o c1 (b6.extBut b o c1 (b5.extBut b o c1 e))
 exact wpAny_bind (wpAny_letGo (wpAny_pure ⟨_,rfl,hQ g7 e7 (i4.at fun o e=>up _ o (Ne.symm hne) e) (up _ _ (Nat.ne_of_gt lt) t4) fun b o c1 c2 e=>up b o c1 (k4 b o c1 c2 e)⟩))
theorem a7p {Q:Option Value→Shared→Prop} (he:IsEnum s.heap ee it n old) (hi:SIt k s.heap it l n) (hl:SAt k s.heap l xs) (hx:xs[n]?=some x) (hne:ee≠it)
  (hQ:∀ h',IsEnumOut h' ee it ((n:Int)+1) x s.heap.objs.size→SIt k h' it l (n+1)→h'.get? s.heap.objs.size=some { cls:=.type "tuple",data:=.seq #[.int n s.toks,x] } →
   (∀ b o,b≠ee→b≠it→s.heap.get? b=some o→h'.get? b=some o)→Q (some (.ref s.heap.objs.size)) { s with heap:=h',toks:=s.toks+1 }):wpAny (model prog w) A (pyNext (.ref ee)) Q E s:=by
 have hT:s.TypeIs (.ref ee) "enumerate":=⟨_,he,rfl⟩
 unfold pyNext
 exact wpAny_bind (wpAny_attempt (wpAny_callSpecial?_slot (name:=Str.ofString "__next__") hT F.slot_enumerate_next (wpAny_call_entry F.slot_enumerate_next hT F.entry_enumerate_next
  (a7o he hi hl hx hne fun h' a b c d=>wpAny_pure (hQ h' a b c d)) (F.args_enumerate_next_1 _))))
theorem a7q {Q:Option Value→Shared→Prop} (hh:A.handled=none) (he:IsEnum s.heap ee it n old) (hi:SIt k s.heap it l n) (hl:SAt k s.heap l xs) (hx:xs[n]?=none)
  (hQ:∀ h',Heap.ExtBut it s.heap h'→Q none { s with heap:=h' }):wpAny (model prog w) A (pyNext (.ref ee)) Q E s:=by
 have hT:s.TypeIs (.ref ee) "enumerate":=⟨_,he,rfl⟩
 unfold pyNext
 refine wpAny_bind (wpAny_attempt (wpAny_callSpecial?_slot (name:=Str.ofString "__next__") hT F.slot_enumerate_next (wpAny_call_entry F.slot_enumerate_next hT F.entry_enumerate_next ?_ (F.args_enumerate_next_1 _))))
 show wpAny _ _ (field (.ref ee) 2 >>= _) _ _ _
 refine wpAny_bind (wpAny_field he rfl (x:=.ref it) rfl (wpAny_bind (endS hh hi hl hx fun h' e b he'=>?_)))
 obtain ⟨o,ho,hc⟩:=he'
 exact wpAny_bind (wpAny_isInstance (T:="StopIteration") (b:=true) ⟨o,ho,hc⟩ isSubtype_stop (wpAny_pure (hQ _ b)))
theorem meetsE (l:Addr) (xs:Array Value) (n:Nat) (dct:Option Addr) (sl:Array (Option Value)) :
  Meets (Builtin.«enumerate.__new__» ⟨[.type "enumerate",.ref l],[]⟩) (fun _ R s=>s.heap.get? l=some { cls:=.type "tuple",dict:=dct,data:=.seq xs n,slots:=sl } ∧
   R (.ok (.ret (.ref (s.heap.push (itO true l)).objs.size))) { s with heap:=(s.heap.push (itO true l)).push { cls:=.type "enumerate",data:=.fields #[.none,.bool false,.ref s.heap.objs.size,rawInt 0,.none,.none] } }) :=
 .of_wp fun prog w A R s h=>by
  obtain ⟨hp,g,d,tk,os⟩:=s
  obtain ⟨hl,h⟩:=h
  have hsub:=sub_enumerate
  have hL:Heap.IsTuple (Shared.heap ⟨hp,g,d,tk,os⟩) l xs:=⟨_,hl,rfl,n,rfl⟩
  wp_walk using AutoSeq1.wpAny_loadPart' hl
  refine wpAny_stack_any fun st=>wpAny_pure ?_
  split
  ·rename_i c _ _ _ _ _
   cases (c == Value.type "enumerate") <;> (wp_walk using AutoSeq1.wpAny_loadPart' hl,wpAny_pyIter_tuple hL) <;> exact ⟨_,rfl,h⟩
  ·wp_walk using AutoSeq1.wpAny_loadPart' hl,wpAny_pyIter_tuple hL
   exact ⟨_,rfl,h⟩
structure EAt (k:Bool) (ee it l:Addr) (n:Nat) (h:Heap):Prop where
 en:∃ old,IsEnum h ee it n old
 a1:SIt k h it l n
theorem callE {Q:Value→Shared→Prop} (h1:SAt k s.heap l xs) (h:∀ h',EAt k (s.heap.objs.size+1) s.heap.objs.size l 0 h'→(∀ c o,s.heap.get? c=some o→h'.get? c=some o)→Q (.ref (s.heap.objs.size+1)) { s with heap:=h' }) :
  wpAny (model prog w) A (call (.type "enumerate") [.ref l]) Q E s:=by
 cases k with
 | false=>exact call_enumerate_list h1 fun h' he hi _ kp=>h h' ⟨⟨_,he⟩,hi⟩ kp
 | true =>
  obtain ⟨⟨c,dct,dt,sl⟩,hl,hc,n,hd⟩:=h1
  replace hc:c=.type "tuple":=hc
  replace hd:dt=.seq xs n:=hd
  subst hc hd
  refine callType_new F.called_enumerate (by decide) (F.typeCall_enumerate_1 _) (F.newCall_enumerate_1 _) (fun obj=>F.args_object_init_2 obj _) F.entry_enumerate_new (meetsE l xs n dct sl) ⟨hl,?_⟩
  have z1:(s.heap.push (itO true l)).objs.size=s.heap.objs.size+1:=Heap.size_push ..
  show _∧_
  rw [z1]
  have g1:IsEnum ((s.heap.push (itO true l)).push { cls:=.type "enumerate",data:=.fields #[.none,.bool false,.ref s.heap.objs.size,rawInt 0,.none,.none] }) (s.heap.objs.size+1) s.heap.objs.size 0 .none:=by
   have q:=Heap.get?_push_size (s.heap.push (itO true l)) (o:={ cls:=.type "enumerate",data:=.fields #[.none,.bool false,.ref s.heap.objs.size,rawInt 0,.none,.none] }) rfl
   rw [z1] at q
   exact q
  exact ⟨⟨_,g1,rfl⟩,h _ ⟨⟨_,g1⟩,.new (Heap.get?_push_of_some _ (Heap.get?_push_size _ a4y))⟩ fun c o e=>Heap.get?_push_of_some _ (Heap.get?_push_of_some _ e)⟩
end
def Ite (K:PySem.W.Frag) (k:Bool) (a:Addr):It :=
 ⟨fun i H=>∃ xs x,SqK K k H a xs∧xs[i]?=some x,
  fun i H v H'=>∃ p x,v=.ref p∧H p=none∧(∀ xs,SqK K k H a xs→xs[i]?=some x)∧H'=upd H p (.tup [.int i,x]),
  fun i H=>∃ xs,SqK K k H a xs∧xs.length≤i⟩
theorem EAt.obj {k:Bool} {ee it l:Addr} {n:Nat} {h:Heap} (Z:EAt k ee it l n h):∀ b∈[ee,it],∃ o,h.get? b=some o∧∀ v,o.data≠.cell v:=fun b hb=>by
 obtain ⟨⟨old,he⟩,h1⟩:=Z
 simp only [List.mem_cons,List.not_mem_nil,or_false] at hb
 rcases hb with rfl | rfl
 ·exact ⟨_,he,fun v z=>by cases z⟩
 ·exact h1.obj
theorem a8G {P:Program} {w:World} {K:PySem.W.Frag} {elts:List Expr} {x1} {pos:Pos} {k:Bool} {ee it a:Addr} (hne:ee≠it):b1R P w K (.Tuple elts x1 pos) (Ite K k a) [ee,it] ee (fun n h=>EAt k ee it a n h) where
 mem:=by simp
 obj:=fun i h st=>st.obj
 keep:=fun i h h' ⟨⟨old,he⟩,h1⟩ kp=>⟨⟨old,kp ee (by simp) _ he⟩,h1.at fun o e=>kp it (by simp) o e⟩
 item:=by
  intro X hP hw hK hc i pins s σ H E I hf st hg
  subst hP hw hK
  obtain ⟨xs,x,q1,hx⟩:=hg
  obtain ⟨us,r1,p1⟩:=b0b I q1
  obtain ⟨u,hu,ru⟩:=r1.get hx
  have lt:∀ b∈[ee,it],b < s.heap.objs.size:=fun b hb=>by
   obtain ⟨o,ho,_⟩:=st.obj b hb
   exact Heap.lt_size ho
  obtain ⟨⟨old,he⟩,h1⟩:=st
  refine a7p he h1 p1 (x:=u) (by simpa using hu) hne fun h' z1 a1 pr kk=>?_
  refine ⟨_,rfl,wpAny_letOwnedTupleGo_enum (s:={ s with heap:=h',toks:=s.toks+1 }) z1 fun h2 z2 b2=>?_⟩
  replace b2:Heap.SameBut ee h' h2:=b2
  have hT:H s.heap.objs.size=none:=I.hok.fresh (Nat.le_refl _)
  have I1:Inv X pins σ (upd H s.heap.objs.size (.tup [.int i,x])) { s with heap:=s.heap.push { cls:=.type "tuple",data:=.seq #[.int i s.toks,u] },toks:=s.toks+1 }:=I.laid (t':=s.toks+1) (fun b u e=>Heap.get?_push_of_some _ e) (Nat.le_refl _) ⟨by show 2≤sizeLine;decide,[.int i s.toks,u],.cons ⟨_,rfl⟩ (.cons ru .nil),⟨_,Heap.get?_push_size _ rfl,_,rfl⟩⟩
  have Tz:s.heap.objs.size≠ee:=Nat.ne_of_gt (lt ee (by simp))
  have fp:∀ b∈[ee,it],a9y X pins (upd H s.heap.objs.size (.tup [.int i,x])) b:=fun b hb=>by
   obtain ⟨f0,f1,f2,f3,f4,f5⟩:=hf b hb
   exact ⟨by rw [a0j (Nat.ne_of_lt (lt b hb))];exact f0,f1,f2,f3,f4,f5⟩
  have I2:=I1.turnedL (h':=h2) (t':=s.toks+1) (fun c o hc e=>by
   simp only [List.mem_cons,List.not_mem_nil,or_false,not_or] at hc
   by_cases zc:c=s.heap.objs.size
   ·subst zc
    rw [Heap.get?_push_size _ rfl] at e
    cases e
    exact b2.extBut _ _ Tz pr
   ·have e':s.heap.get? c=some o:=by rw [←e];exact (Heap.get?_push_ne _ _ _ zc).symm
    exact b2.extBut _ _ hc.1 (kk c o hc.1 hc.2 e')) fp
  refine ⟨.ref s.heap.objs.size,_,I2,rfl,⟨_,x,rfl,hT,fun zs hz=>?_,rfl⟩,⟨⟨_,z2⟩,a1.at fun o e=>b2.extBut _ _ (Ne.symm hne) e⟩,fun b hb=>(fp b hb).1⟩
  rw [a4x I hz q1];exact hx
 done:=by
  intro X hP hw hK hc i pins s σ H E I hf st hg
  subst hP hw hK
  obtain ⟨xs,q1,hl⟩:=hg
  obtain ⟨us,r1,p1⟩:=b0b I q1
  have e1:=r1.length
  obtain ⟨⟨old,he⟩,h1⟩:=st
  refine a7q (I.ok.hd hc) he h1 p1 (by simp;omega) fun h' kk=>⟨rfl,I.turnedL (t':=s.toks) (fun c o hc e=>?_) hf⟩
  simp only [List.mem_cons,List.not_mem_nil,or_false,not_or] at hc
  exact kk c o hc.2 e
 self:=fun _ _ _ _ _ ⟨⟨_,he⟩,_⟩ h=>wpAny_pyIter_enum he h
theorem b_enum:bootBuiltins "enumerate"=some (.type "enumerate"):=by decide +kernel
def iEnum (K:PySem.W.Frag) (k:Bool) (ta:TA):TI:=fun σ H R=>ta σ H fun vs H1=>∃ a xs,vs=[.ref a]∧SqK K k H1 a xs∧R (Ite K k a) H1
theorem b2r {X:Cx} {elts:List Expr} {x1} {tp:Pos} {a:Expr} {ta:TA} {p pos:Pos} (k:Bool) (hg:Gl X "enumerate") (hm:X.mg "enumerate"=none) (ha:PA X [a] ta) (hs:starEach [a] X.env=[(false,eval a X.env)]:=by rfl) :
  PI X (.Tuple elts x1 tp) (.Call (.Name "enumerate" p) [a] [] pos) (iEnum X.K k ta):=by
 intro pins s σ H R I h
 refine Call_ (a2u I hg hm b_enum (PyProof.Rows.callWith_type1 (thn (ha pos pins s σ H _ I h) fun us s1 ⟨vs,H1,I1,r1,q1⟩=>?_) (by rw [hs];rfl) rfl))
 obtain ⟨a',xs,e,q1,q⟩:=q1
 subst e
 obtain ⟨u,rfl,ru⟩:=r1.one
 cases ru
 obtain ⟨us,e1,p1⟩:=b0b I1 q1
 refine callE p1 fun h' Z kp=>?_
 obtain ⟨old,he⟩:=Z.en
 refine wpAny_pyIter_enum (s:={ s1 with heap:=h' }) he ?_
 refine ⟨_,[s1.heap.objs.size+1,s1.heap.objs.size],_,_,H1,rfl,I1.kept (t':=s1.toks) kp,a8G (Nat.succ_ne_self _),Z,fun c hc=>?_,q⟩
 have ge:s1.heap.objs.size≤c:=by
  simp only [List.mem_cons,List.not_mem_nil,or_false] at hc
  rcases hc with rfl | rfl <;> omega
 exact I1.fpOk ge (I1.hok.fresh ge)
theorem b0n {K:PySem.W.Frag} {k:Bool} {a:Addr} {xs:List V} {g:TG} {tb:TS} {D:a9x} {σ:St} {H:Hp} (Pv:Nat→St→Hp→Prop) (h0:Pv 0 σ H) (hl:∀ i σ H,i≤xs.length→Pv i σ H→SqK K k H a xs)
  (hs:∀ i x p σ H,xs[i]?=some x→Pv i σ H→H p=none→g (.ref p) σ (upd H p (.tup [.int i,x])) fun σ2 H2=>tb { D with nx:=Pv (i+1),ct:=Pv (i+1),bk:=D.nx } σ2 H2) (hd:∀ σ H,Pv xs.length σ H→D.nx σ H) :
  ∃ W:Nat→Nat→St→Hp→Prop,(∃ m,W 0 m σ H)∧∀ i m σ H,W i m σ H →
   ((Ite K k a).stop i H∧D.nx σ H)∨((Ite K k a).go i H∧∃ N:St→Hp→Prop,(∀ σ' H',N σ' H'→∃ m',m' < m∧W (i+1) m' σ' H')∧∀ x H',(Ite K k a).yld i H x H'→g x σ H' fun σ2 H2=>tb { D with nx:=N,ct:=N,bk:=D.nx } σ2 H2):=by
 refine ⟨fun i m σ H=>m=xs.length - i∧i≤xs.length∧Pv i σ H,⟨xs.length,by simp,Nat.zero_le _,h0⟩,?_⟩
 rintro i m σ H ⟨rfl,hi,p⟩
 have q1:=hl i σ H hi p
 by_cases hlt:i < xs.length
 ·refine .inr ⟨⟨xs,_,q1,List.getElem?_eq_getElem hlt⟩,Pv (i+1),fun σ' H' n=>⟨xs.length - (i+1),by omega,rfl,by omega,n⟩,?_⟩
  rintro v H' ⟨p',x,rfl,hn,e1,rfl⟩
  exact hs i x p' σ H (e1 _ q1) p hn
 ·have e:i=xs.length:=by omega
  subst e
  exact .inl ⟨⟨xs,q1,Nat.le_refl _⟩,hd σ H p⟩
abbrev B30:Int:=1000000000000000000000000000000
theorem e30:(10:Int) ^ (30:Int).toNat=B30:=by decide
def b2s (i j:Int):Prop:=(0≤i∧i≤10000000000 * B30)∧(0≤j∧j≤10000000000 * B30)
theorem b2s.ok {i j:Int} (h:b2s i j):IntMulOk i j:=by
 have q:∀ k:Int,0≤k∧k≤10000000000 * B30→PySem.Builtin.Int.intBits k≤140:=fun k hk=>intBits_le_iff.mpr (by
  have e:(2:Nat) ^ 140=1393796574908163946345982392040522594123776:=by decide
  rw [e]
  unfold B30 at hk
  omega)
 exact IntMulOk.of_le (q i h.1) (q j h.2) (by decide)
theorem a2L {X:Cx}:OpR X (binaryOp .Mult) (rI b2s fun i j=>.int (i * j)):=opI fun _ _ _ _ _ _ _ hc q=>PyProof.Rows.mul_int q hc.ok
theorem b_max:bootBuiltins "max"=some (.builtin "max"):=by decide +kernel
theorem a3r {te:TE} {σ:St} {d:Addr} {x y:V} {H:Hp} {Z:Hp→Prop} (h:te (some x :: some y :: σ) H fun v H4=>∃ ys,H4 d=some (.lst ys)∧ys.length < sizeLine∧Z (upd H4 d (.lst (ys++[v])))):b2n a9O te σ d x y H Z:=by
 show (if true=true then (te (some x :: some y :: σ) H fun v H4=>∃ ys,H4 d=some (.lst ys)∧ys.length < sizeLine∧Z (upd H4 d (.lst (ys++[v])))) else Z H)
 rw [if_pos rfl]
 exact h
section
variable {X:Cx} {elt iter:Expr} {tg:Str} {tp:Pos} {cs:List Expr} {scope:Scope} {pos:Pos} {tc:TT} {te:TE} {M:List Str}
theorem b0o {tl:TE} {pos1 spos:Pos} {i:Nat} {x:Str} (hN:X.N.Nodup) (hix:X.N[i]?=some x) (hx:X.env.scope.names.lookup x=some .local) (hc:X.calm=true) (S:a0q scope X.env X.N M) (nd:(tg :: M).Nodup) (hl:scope.names.lookup tg=some .local) (hi:PE X iter tl) (mo:a2K tl)
  (hin:a5I X scope tg M cs elt tc te) (hw:swapsWith (.ListComp elt [⟨.Name tg tp,iter,cs,0⟩] scope pos) (some (.Name x pos1)) spos.line X.env=pure true:=by rfl) (hf:∀ x,foldedSetIterable iter X.env x=pure x:=by intro _;rfl) :
  PS X (.Assign [.Name x pos1] (.ListComp elt [⟨.Name tg tp,iter,cs,0⟩] scope pos) spos) (tAsg (b1k X.K tl tc te) (a2j i)):=by
 refine a9S hc S nd hl (a4n hi) hin (fun σ H Q h=>?_) hN hix hx hw hf
 refine mo σ H _ _ (fun v H1 q=>?_) h
 obtain ⟨a,xs,e,j1,q⟩:=q
 refine ⟨a,e,⟨xs,j1⟩,fun d hd=>?_⟩
 obtain ⟨Pv,h0,hl,hs,hd⟩:=q d hd
 exact a5b (k:=1) (g:=a2j 0) Pv h0 hl hs hd
end
section
variable {P:Program} {w:World} {A:Around} {H:Hp} {s:Shared} {n:Nat} {α β γ:Type} [DecidableEq α] [DecidableEq β] [DecidableEq γ]
variable {R1:V→α→Prop} {R2:V→β→Prop} {R3:V→γ→Prop}
end
def srt (ns:List Int):List Int:=ns.mergeSort fun a b=>decide (a≤b)
theorem a6A (ns:List Int):(srt ns).Perm ns:=List.mergeSort_perm ns _
theorem a5f (ns:List Int):(srt ns).Pairwise (·≤·):=by
 have h:=List.pairwise_mergeSort (le:=fun a b:Int=>decide (a≤b)) (fun a b c h1 h2=>by simp at *;omega) (fun a b=>by simp;omega) ns
 exact h.imp fun h=>by simpa using h
def SqI (H:Hp) (a:Addr) (ns:List Int):Prop:=H a=some (.lst (ns.map V.int))∨H a=some (.tup (ns.map V.int))
theorem a2M {ns:List Int} {us:List Value} (r:a0K (ns.map V.int) us):IntsAre us ns:=by
 induction ns generalizing us with
 | nil=>cases r;exact .nil
 | cons n ns ih =>
  cases r with
  | cons r rr =>
   obtain ⟨t,rfl⟩:=r
   exact .cons _ _ (ih rr)
theorem a1H {vs:List Value} {ns:List Int} (h:IntsAre vs ns):vs.length=ns.length:=by
 induction h with
 | nil=>rfl
 | cons n t _ ih=>simp [ih]
theorem b0p {ns:List Int} {m:Int} (h:m∈ns) (h1:∀ x∈ns,m≤x):(srt ns).headD 0=m:=by
 have p:=a6A ns
 have r:=a5f ns
 cases e:srt ns with
 | nil =>
  rw [e] at p
  have:=p.symm.mem_iff.mp h
  cases this
 | cons a t =>
  rw [e] at p r
  have ha:m≤a:=h1 a (p.mem_iff.mp (.head _))
  have hm:m∈a :: t:=p.symm.mem_iff.mp h
  show a=m
  cases hm with
  | head=>rfl
  | tail _ hm =>
   have:=(List.pairwise_cons.mp r).1 m hm
   omega
def rMinI:List V→Hp→VK→Prop:=fun xs H Q=>∃ (a:Addr) (ns:List Int),xs=[.ref a]∧SqI H a ns∧ns≠[]∧Q (.int ((srt ns).headD 0)) H
theorem a5R {its:List Value} {ns:List Int} (hI:IntsAre its ns) (ne:ns≠[]) {v:Value} (h:its.toArray[argBest (fun i j=>decide (ns.getD i 0 < ns.getD j 0)) (its.toArray.size - 1)]?=some v):∃ t,v=.int ((srt ns).headD 0) t:=by
 have li:=a1H hI
 have hb:=argBest_lt (fun i=>ns.getD i 0) (its.toArray.size - 1)
 have ez:its.toArray.size=its.length:=List.size_toArray
 have n0:0 < ns.length:=List.length_pos_iff.mpr ne
 have hv:its[argBest (fun i j=>decide (ns.getD i 0 < ns.getD j 0)) (its.toArray.size - 1)]?=some v:=by simpa using h
 obtain ⟨t,e⟩:=hI.int_at _ v hv
 refine ⟨t,?_⟩
 rw [e]
 congr 1
 refine (b0p ?_ fun x hx=>?_).symm
 ·rw [List.getD_eq_getElem?_getD,List.getElem?_eq_getElem (by have:=hb.1;omega)]
  exact List.getElem_mem _
 ·obtain ⟨j,hj⟩:=List.mem_iff_getElem?.mp hx
  have jl:=(List.getElem?_eq_some_iff.mp hj).1
  have:=hb.2 j (by omega)
  rw [show ns.getD j 0=x by rw [List.getD_eq_getElem?_getD,hj];rfl] at this
  exact this
theorem a8H {X:Cx} (hc:X.calm=true):a2w X (.builtin "min") rMinI:=by
 intro pins s σ H xs us Q I r h
 obtain ⟨a,ns,rfl,e,ne,q⟩:=h
 obtain ⟨u,rfl,ru⟩:=a4p r
 cases ru
 have n0:0 < ns.length:=List.length_pos_iff.mpr ne
 rcases e with e | e
 ·obtain ⟨_,its,n,rv,he⟩:=(show a1d X.prog X.w H s.heap a (.lst (ns.map V.int)) from I.hok a _ e)
  have hI:=a2M rv
  have li:=a1H hI
  have hlt:=Heap.lt_size he
  refine call_min_walk (wpAny_pyIter_list (a1O he) ?_)
  refine ⟨s.heap.objs.size,_,_,_,_,_,fun i j=>decide (ns.getD i 0 < ns.getD j 0),rfl,Walks.list (A:=X.A.in1) (by show X.A.handled=none;exact I.ok.hd hc) s.heap.objs.size a (Nat.ne_of_lt hlt) its.toArray,⟨⟨_,Heap.get?_push_size _ rfl,rfl,rfl⟩,a1O (Heap.get?_push_of_some _ he)⟩,?_,by rw [List.size_toArray];omega,CmpOf.ints_lt _ (fun i v hv=>hI.int_at i v (by simpa using hv)),fun v h' tk hv hk=>?_⟩
  ·intro b hb
   have hp:(s.heap.push { cls:=.type "list_iterator",data:=.fields #[.ref a,rawInt 0] }).objs.size=s.heap.objs.size+1:=Heap.size_push _ _
   simp only [List.mem_cons,List.not_mem_nil,or_false] at hb
   show b < (s.heap.push _).objs.size
   rw [Heap.size_push]
   rcases hb with rfl | rfl
   ·exact Nat.lt_succ_self _
   ·exact Nat.lt_succ_of_lt hlt
  ·obtain ⟨t,rfl⟩:=a5R hI ne hv
   exact ⟨.int _,H,I.kept (h':=h') (t':=tk) (fun b o eo=>hk b o (by simp;exact Nat.ne_of_lt (Heap.lt_size eo)) (Heap.get?_push_of_some _ eo)),⟨t,rfl⟩,q⟩
 ·obtain ⟨_,its,rv,ht⟩:=a5N ((show a1d X.prog X.w H s.heap a (.tup (ns.map V.int)) from I.hok a _ e))
  have hI:=a2M rv
  have li:=a1H hI
  have hlt:a < s.heap.objs.size:=by obtain ⟨o,ho,_⟩:=ht;exact Heap.lt_size ho
  refine call_min_walk (wpAny_pyIter_tuple ht ?_)
  refine ⟨s.heap.objs.size,_,_,_,_,_,fun i j=>decide (ns.getD i 0 < ns.getD j 0),rfl,Walks.tuple (A:=X.A.in1) (by show X.A.handled=none;exact I.ok.hd hc) s.heap.objs.size a (Nat.ne_of_lt hlt) its.toArray,⟨⟨_,Heap.get?_push_size _ rfl,rfl,rfl⟩,by obtain ⟨o,ho,r⟩:=ht;exact ⟨o,Heap.get?_push_of_some _ ho,r⟩⟩,?_,by rw [List.size_toArray];omega,CmpOf.ints_lt _ (fun i v hv=>hI.int_at i v (by simpa using hv)),fun v h' tk hv hk=>?_⟩
  ·intro b hb
   simp only [List.mem_cons,List.not_mem_nil,or_false] at hb
   show b < (s.heap.push _).objs.size
   rw [Heap.size_push]
   rcases hb with rfl | rfl
   ·exact Nat.lt_succ_self _
   ·exact Nat.lt_succ_of_lt hlt
  ·obtain ⟨t,rfl⟩:=a5R hI ne hv
   exact ⟨.int _,H,I.kept (h':=h') (t':=tk) (fun b o eo=>hk b o (by simp;exact Nat.ne_of_lt (Heap.lt_size eo)) (Heap.get?_push_of_some _ eo)),⟨t,rfl⟩,q⟩
theorem b_min':bootBuiltins "min"=some (.builtin "min"):=by decide +kernel
def CDivC (_ j:Int):Prop:=0 < j∧j < 2 ^ 200
theorem b0q {X:Cx}:OpR X (binaryOp .FloorDiv) (rI CDivC fun i j=>.int (i / j)):=opI fun i j _ _ _ _ _ hc q=>by
 have h0:0≤j:=Int.le_of_lt hc.1
 have hn:j.natAbs.log2 < 9000:=by
  have h1:j.natAbs < 2 ^ 200:=by
   have e:((2 ^ 200:Nat):Int)=2 ^ 200:=by norm_cast
   have:=hc.2
   omega
  have h2:j.natAbs≠0:=by have:=hc.1;omega
  have h3:=(Nat.log2_lt h2).mpr h1
  omega
 refine floordiv_int (by have:=hc.1;omega) ?_ (.inl (PyProof.noPylong_of_log2 hn))
 rw [Int.fdiv_eq_ediv_of_nonneg _ h0]
 exact q
section
variable {prog:Program} {w:World} {A:Around} {R:Result→Shared→Prop} {I:Addr} {fp wr:List Addr} {n:Nat} {P:Nat→Value→Prop} {St:Nat→Heap→Prop}
abbrev kwD (d:Value):List (Str × Value):=[(Str.ofString "default",d)]
theorem b2t (W:Walks prog w A.in1 I fp wr n P St) (bt:Nat→Nat→Bool) (C:CmpOf prog w A.in1 .Lt P bt) (S:Addr) (hS:S∉fp) (d:Value) :
  ∀ (k j:Nat) (s:Shared) (vb:Value) (c:Nat),n - (j+1)=k→j+1≤n→St (j+1) s.heap→P (argBest bt j) vb→s.heap.get? S=some { cls:=.type "list",data:=.seq #[vb,vb] c } →
   (∀ (v:Value) (h':Heap) (tk:Nat),P (argBest bt (n - 1)) v→(∀ (b:Addr) (o:Obj),b∉wr→b≠S→s.heap.get? b=some o→h'.get? b=some o)→R (.ok (.ret v)) { s with heap:=h',toks:=tk }) →
   codeAny (model prog w) A (.builtin "min.loop" ⟨[.ref I,.none,.ref S],kwD d⟩) R s:=by
 intro k
 induction k with
 | zero =>
  intro j s vb c hk hj st pv hs q
  have ej:j+1=n:=by omega
  refine codeAny_builtin F.entry_min_loop ?_
  rw [Around.under_plainId F.plain_min_loop _]
  show wpAny _ A.in1 (seqItems? (.ref S) >>= _) _ _ s
  refine wpAny_bind (wpAny_seqItems hs rfl ?_)
  refine wpAny_bind (wpAny_tryCatch ?_)
  subst ej
  refine W.done s _ _ st fun h' tk hk'=>?_
  have hs':=hk' S _ (fun z=>hS (W.sub _ z)) hs
  show wpAny _ A.in1 (updateSeq S _ >>= _) _ _ _
  refine wpAny_bind (wpAny_updateSeq hs' rfl ?_)
  refine wpAny_bind (wpAny_letGo ?_)
  refine wpAny_pure ?_
  refine q vb _ tk pv fun b o hb hne e=>?_
  rw [Heap.get?_update_ne _ _ _ _ hne]
  exact hk' b o hb e
 | succ k ih =>
  intro j s vb c hk hj st pv hs q
  have hlt:j+1 < n:=by omega
  refine codeAny_builtin F.entry_min_loop ?_
  rw [Around.under_plainId F.plain_min_loop _]
  show wpAny _ A.in1 (seqItems? (.ref S) >>= _) _ _ s
  refine wpAny_bind (wpAny_seqItems hs rfl ?_)
  refine wpAny_bind (wpAny_tryCatch ?_)
  refine W.item (j+1) s _ _ hlt st fun v h' tk hv st' hk'=>?_
  have hs':=hk' S _ (fun z=>hS (W.sub _ z)) hs
  show wpAny _ A.in1 (tryCatch (holding [v,v] (richCompare .Lt v vb >>= _)) _ >>= _) _ _ _
  refine wpAny_bind (wpAny_tryCatch (wpAny_holding (wpAny_bind ?_)))
  refine C (j+1) (argBest bt j) v vb _ _ _ hv pv ?_
  refine wpAny_bind (wpAny_holding (wpAny_truthy_bool ?_))
  refine wpAny_bind (wpAny_letGo (wpAny_pure ?_))
  have eb:argBest bt (j+1)=if bt (j+1) (argBest bt j)=true then j+1 else argBest bt j:=rfl
  cases hb:bt (j+1) (argBest bt j) with
  | true =>
   rw [hb,if_pos rfl] at eb
   show wpAny _ A.in1 (updateSeq S _ >>= _) _ _ _
   refine wpAny_bind (wpAny_updateSeq hs' rfl ?_)
   refine wpAny_bind (wpAny_letGo ?_)
   refine wpAny_pure ⟨plainId_quiet F.plain_min_loop _,?_⟩
   have hs2:=get?_update_seq (c:="list") hs' (fun _=>#[v,v])
   refine ih (j+1) _ v _ (by omega) (by omega) ?_ (by rw [eb];exact hv) hs2 fun v2 h2 tk2 hv2 hk2=>?_
   ·refine W.frame (j+2) h' _ st' fun b hb2 o e=>?_
    rw [Heap.get?_update_ne _ _ _ _ (fun z=>hS (by rw [←z];exact hb2))]
    exact e
   ·refine q v2 h2 tk2 hv2 fun b o hb2 hne e=>hk2 b o hb2 hne ?_
    rw [Heap.get?_update_ne _ _ _ _ hne]
    exact hk' b o hb2 e
  | false =>
   rw [hb,if_neg (by decide)] at eb
   show wpAny _ A.in1 (letGo _ _ >>= _) _ _ _
   refine wpAny_bind (wpAny_letGo ?_)
   refine wpAny_pure ⟨plainId_quiet F.plain_min_loop _,?_⟩
   exact ih (j+1) _ vb c (by omega) (by omega) st' (by rw [eb];exact pv) hs' fun v2 h2 tk2 hv2 hk2=>q v2 h2 tk2 hv2 fun b o hb2 hne e=>hk2 b o hb2 hne (hk' b o hb2 e)
theorem a7r (W:Walks prog w A.in1 I fp wr n P St) (bt:Nat→Nat→Bool) (C:CmpOf prog w A.in1 .Lt P bt) (S:Addr) (hS:S∉fp) (d:Value) {s:Shared} {c:Nat} (st:St 0 s.heap) (hs:s.heap.get? S=some { cls:=.type "list",data:=.seq #[] c })
  (q0:n=0→∀ (h':Heap) (tk:Nat),(∀ (b:Addr) (o:Obj),b∉wr→b≠S→s.heap.get? b=some o→h'.get? b=some o)→R (.ok (.ret d)) { s with heap:=h',toks:=tk })
  (q:0 < n→∀ (v:Value) (h':Heap) (tk:Nat),P (argBest bt (n - 1)) v→(∀ (b:Addr) (o:Obj),b∉wr→b≠S→s.heap.get? b=some o→h'.get? b=some o)→R (.ok (.ret v)) { s with heap:=h',toks:=tk }) :
  codeAny (model prog w) A (.builtin "min.loop" ⟨[.ref I,.none,.ref S],kwD d⟩) R s:=by
 refine codeAny_builtin F.entry_min_loop ?_
 rw [Around.under_plainId F.plain_min_loop _]
 show wpAny _ A.in1 (seqItems? (.ref S) >>= _) _ _ s
 refine wpAny_bind (wpAny_seqItems hs rfl ?_)
 refine wpAny_bind (wpAny_tryCatch ?_)
 by_cases n0:n=0
 ·subst n0
  refine W.done s _ _ st fun h' tk hk'=>?_
  show wpAny _ A.in1 (rule _ >>= _) _ _ _
  refine wpAny_bind (wpAny_rule (wpAny_pure ?_))
  exact q0 rfl h' tk fun b o hb _ e=>hk' b o hb e
 ·have hlt:0 < n:=by omega
  refine W.item 0 s _ _ hlt st fun v h' tk hv st' hk'=>?_
  have hs':=hk' S _ (fun z=>hS (W.sub _ z)) hs
  show wpAny _ A.in1 (updateSeq S _ >>= _) _ _ _
  refine wpAny_bind (wpAny_updateSeq hs' rfl ?_)
  refine wpAny_pure ⟨plainId_quiet F.plain_min_loop _,?_⟩
  have hs2:=get?_update_seq (c:="list") hs' (fun _=>#[v,v])
  refine b2t W bt C S hS d (n - 1) 0 _ v _ rfl hlt ?_ hv hs2 fun v2 h2 tk2 hv2 hk2=>?_
  ·refine W.frame 1 h' _ st' fun b hb2 o e=>?_
   rw [Heap.get?_update_ne _ _ _ _ (fun z=>hS (by rw [←z];exact hb2))]
   exact e
  ·refine q hlt v2 h2 tk2 hv2 fun b o hb2 hne e=>hk2 b o hb2 hne ?_
   rw [Heap.get?_update_ne _ _ _ _ hne]
   exact hk' b o hb2 e
end
def rMinD (xs zs:List V) (H:Hp) (Q:VK):Prop:=∃ (a:Addr) (ns:List Int),xs=[.ref a]∧zs=[.non]∧H a=some (.lst (ns.map V.int))∧Q (if ns=[] then .non else .int ((srt ns).headD 0)) H
theorem a8I (a d:Value):argsOk "min" { pos:=[a],kw:=kwD d }:=rfl
theorem b0r {X:Cx} (hc:X.calm=true) {pins:List (Addr × Obj)} {s:Shared} {σ:St} {H:Hp} {vs zs:List V} {us ws:List Value} {Q:VK} (I:Inv X pins σ H s) (r:a0K vs us) (rz:a0K zs ws) (h:rMinD vs zs H Q) :
  wpAny (model X.prog X.w) X.A (call (.builtin "min") us (([Str.ofString "default"]:List Str).zip ws)) (EP X pins σ Q) X.xe s:=by
 obtain ⟨a,ns,rfl,rfl,e,q⟩:=h
 obtain ⟨u,rfl,ru⟩:=a4p r
 obtain ⟨d,rfl,rd⟩:=a4p rz
 cases ru
 cases rd
 obtain ⟨_,its,n,rv,he⟩:=(show a1d X.prog X.w H s.heap a (.lst (ns.map V.int)) from I.hok a _ e)
 have hI:=a2M rv
 have li:=a1H hI
 have hlt:=Heap.lt_size he
 show wpAny _ _ (call (.builtin "min") [.ref a] (kwD .none)) _ _ _
 refine kmb_tree F.kind_min F.plain_min F.entry_min (a8I _ _) ?_
 have eB:Builtin.Builtins.bindParams "min" ["key","default"] 0 { kw:=kwD .none }=pure [none,some .none]:=rfl
 show wpAny _ X.A.in1 (Builtin.Builtins.bindParams "min" ["key","default"] 0 { kw:=kwD .none } >>= _) _ _ s
 rw [eB]
 show wpAny _ X.A.in1 (pyIter (.ref a) >>= _) _ _ s
 refine wpAny_bind (wpAny_pyIter_list (a1O he) ?_)
 refine wpAny_bind (wpAny_newList ?_ (Nat.zero_le _))
 refine wpAny_pure ⟨plainId_quiet F.plain_min_loop _,?_⟩
 have sz:(s.heap.push { cls:=.type "list_iterator",data:=.fields #[.ref a,rawInt 0] }).objs.size=s.heap.objs.size+1:=Heap.size_push _ _
 have hS:(s.heap.push { cls:=.type "list_iterator",data:=.fields #[.ref a,rawInt 0] }).objs.size∉[s.heap.objs.size,a]:=fun z=>by
  rw [sz] at z
  simp only [List.mem_cons,List.not_mem_nil,or_false] at z
  rcases z with z | z
  ·exact absurd z (Nat.ne_of_gt (Nat.lt_succ_self _))
  ·rw [←z] at hlt
   exact absurd hlt (Nat.not_lt.mpr (Nat.le_succ _))
 have up:∀ b o,s.heap.get? b=some o→((s.heap.push { cls:=.type "list_iterator",data:=.fields #[.ref a,rawInt 0] }).push { cls:=.type "list",data:=.seq (([]:List Value).toArray) }).get? b=some o:=fun b o eo=>Heap.get?_push_of_some _ (Heap.get?_push_of_some _ eo)
 have ne1:∀ b o,s.heap.get? b=some o→b∉[s.heap.objs.size]:=fun b o eo z=>by
  rw [List.mem_singleton.mp z] at eo
  exact absurd (Heap.lt_size eo) (Nat.lt_irrefl _)
 have ne2:∀ b o,s.heap.get? b=some o→b≠(s.heap.push { cls:=.type "list_iterator",data:=.fields #[.ref a,rawInt 0] }).objs.size:=fun b o eo z=>by
  rw [sz] at z
  rw [z] at eo
  exact absurd (Heap.lt_size eo) (Nat.not_lt.mpr (Nat.le_succ _))
 refine a7r (A:=X.A) (c:=0) (Walks.list (A:=X.A.in1) (by show X.A.handled=none;exact I.ok.hd hc) s.heap.objs.size a (Nat.ne_of_lt hlt) its.toArray) (fun i j=>decide (ns.getD i 0 < ns.getD j 0)) (CmpOf.ints_lt _ (fun i v hv=>hI.int_at i v (by simpa using hv))) _ hS .none
  ⟨⟨_,Heap.get?_push_of_some _ (Heap.get?_push_size _ rfl),rfl,rfl⟩,a1O (up _ _ he)⟩ (Heap.get?_push_size _ rfl) (fun n0 h' tk hk=>?_) (fun n0 v h' tk hv hk=>?_)
 ·have e0:ns=[]:=List.length_eq_zero_iff.mp (by rw [←li];rw [List.size_toArray] at n0;exact n0)
  rw [if_pos e0] at q
  exact ⟨.non,H,I.kept (h':=h') (t':=tk) (fun b o eo=>hk b o (ne1 b o eo) (ne2 b o eo) (up b o eo)),rfl,q⟩
 ·have e0:ns≠[]:=fun z=>by
   rw [z] at li
   rw [List.size_toArray] at n0
   simp at li
   rw [li] at n0
   simp at n0
  rw [if_neg e0] at q
  obtain ⟨t,rfl⟩:=a5R hI e0 hv
  exact ⟨.int _,H,I.kept (h':=h') (t':=tk) (fun b o eo=>hk b o (ne1 b o eo) (ne2 b o eo) (up b o eo)),⟨t,rfl⟩,q⟩
def tMinD (t tk:TA):TE:=fun σ H Q=>t σ H fun vs H1=>tk σ H1 fun zs H2=>rMinD vs zs H2 Q
theorem b2u {X:Cx} {e e2:Expr} {p pos kpos:Pos} {t tk:TA} (hc:X.calm=true) (hg:Gl X "min") (hm:X.mg "min"=none) (ha:PA X [e] t) (hk:PK X [⟨some "default",e2,kpos⟩] tk) (h1:backTo pos (starEach [e] X.env)=(false,eval e X.env) :: backTo pos (starEach [] X.env):=by rfl)
  (h2:((backTo pos (starEach [e] X.env)).any (·.1))=false:=by rfl) (h3:(backToKw pos (keywordEach [⟨some "default",e2,kpos⟩] X.env)).all (·.1.isSome)=true:=by rfl) (h4:(backToKw pos (keywordEach [⟨some "default",e2,kpos⟩] X.env)).any (·.1.isNone)=false:=by rfl) (h5:(backToKw pos (keywordEach [⟨some "default",e2,kpos⟩] X.env)).filterMap (·.1)=[Str.ofString "default"]:=by rfl) :
  PE X (.Call (.Name "min" p) [e] [⟨some "default",e2,kpos⟩] pos) (tMinD t tk):=by
 intro pins s σ H Q I h
 refine wpAny_Call_Name_kw (a2u I hg hm b_min' ?_)
 refine callWith_kw (thn (ha pos pins s σ H _ I h) fun us s1 ⟨vs,H1,I1,r,q⟩=>?_) h1 h2 h3 h4
 refine thn (hk pos pins s1 σ H1 _ I1 q) fun ws s2 ⟨zs,H2,I2,rz,q2⟩=>?_
 rw [h5]
 exact b0r hc I2 r rz q2
def Itr3 (lo st:Int) (n:Nat):It:=⟨fun i _=>i < n,fun i H x H'=>H'=H∧x=.int (lo+i * st),fun i _=>n≤i⟩
theorem a5S {P:Program} {w:World} {K:PySem.W.Frag} {tg:Expr} (it:Addr) (lo st:Int) (n:Nat):b1R P w K tg (Itr3 lo st n) [it] it (fun i h=>IsRangeIter h it (lo+(i:Nat) * st) ((n:Int) - (i:Nat)) st) where
 mem:=by simp
 obj:=fun i h st b hb=>by
  have e:b=it:=by simpa using hb
  subst e
  exact ⟨_,st,fun v z=>by
   have z':Data.fields _=Data.cell v:=z
   cases z'⟩
 keep:=fun i h h' st k=>k it (by simp) _ st
 item:=by
  intro X hP hw hK hc i pins s σ H E I hf st0 hg
  subst hP hw hK
  obtain ⟨f0,f1,f2,f3,f4,f5⟩:=hf it (by simp)
  have W:=Walks.range (prog:=X.prog) (w:=X.w) (I.ok.hd hc) it lo st n
  refine W.item i s _ _ hg st0 fun v h' tk hv st' kk=>?_
  obtain ⟨t,rfl⟩:=hv
  have I1:Inv X pins σ H { s with heap:=h',toks:=tk }:=I.turned (fun b o hb e=>kk b o (by simpa using hb) e) f0 f1 f3 f4 f5
  exact ⟨_,rfl,a9F (s:={ s with heap:=h',toks:=tk }) (n:="range_iterator") st' rfl rfl (by decide) ⟨.int (lo+i * st),H,I1,⟨t,rfl⟩,⟨rfl,rfl⟩,st',fun b hb=>(hf b hb).1⟩⟩
 done:=by
  intro X hP hw hK hc i pins s σ H E I hf st0 hg
  subst hP hw hK
  obtain ⟨f0,f1,f2,f3,f4,f5⟩:=hf it (by simp)
  exact wpAny_pyNext_range_end (I.ok.hd hc) st0 (by have:n≤i:=hg;omega) fun h' eb=>⟨rfl,I.turned (t':=s.toks) (fun b o hb e=>eb b o hb e) f0 f1 f3 f4 f5⟩
 self:=fun _ _ _ _ _ st h=>wpAny_pyIter_rangeiter st h
theorem a2N {lo st:Int} {n:Nat} {g:TG} {tb:TS} {D:a9x} {σ:St} {H:Hp} (Pv:Nat→St→Hp→Prop) (h0:Pv 0 σ H) (hs:∀ i σ H,i < n→Pv i σ H→g (.int (lo+i * st)) σ H fun σ2 H2=>tb { D with nx:=Pv (i+1),ct:=Pv (i+1),bk:=D.nx } σ2 H2) (hd:∀ σ H,Pv n σ H→D.nx σ H) :
  ∃ W:Nat→Nat→St→Hp→Prop,(∃ m,W 0 m σ H)∧∀ i m σ H,W i m σ H →
   ((Itr3 lo st n).stop i H∧D.nx σ H)∨((Itr3 lo st n).go i H∧∃ N:St→Hp→Prop,(∀ σ' H',N σ' H'→∃ m',m' < m∧W (i+1) m' σ' H')∧∀ x H',(Itr3 lo st n).yld i H x H'→g x σ H' fun σ2 H2=>tb { D with nx:=N,ct:=N,bk:=D.nx } σ2 H2):=by
 refine ⟨fun i m σ H=>m=n - i∧i≤n∧Pv i σ H,⟨n,by simp,Nat.zero_le _,h0⟩,?_⟩
 rintro i m σ H ⟨rfl,hi,p⟩
 by_cases hlt:i < n
 ·refine .inr ⟨hlt,Pv (i+1),fun σ' H' q=>⟨n - (i+1),by omega,rfl,by omega,q⟩,?_⟩
  rintro v H' ⟨rfl,rfl⟩
  exact hs i σ _ hlt p
 ·have e:i=n:=by omega
  subst e
  exact .inl ⟨Nat.le_refl _,hd σ H p⟩
theorem smallD {a:Int} (h1:-1≤a) (h2:a < 1000000):Builtin.Range.small a (-1) (-1)=true∧Builtin.Range.rangeSize a (-1) (-1)=a+1:=by
 have z:Builtin.Range.rangeSize a (-1) (-1)=a+1:=by
  unfold Builtin.Range.rangeSize
  rw [if_neg (by decide)]
  have e1:(a - -1 - 1) / - -1=a:=by
   rw [show (- -1:Int)=1 from rfl,Int.ediv_one]
   omega
  split
  ·rw [e1]
  ·omega
 refine ⟨?_,z⟩
 have f:∀ i:Int,-2≤i→i≤1000000→Builtin.Range.rangeFitsLong i=true:=fun i h3 h4=>by
  unfold Builtin.Range.rangeFitsLong
  rw [Bool.and_eq_true,decide_eq_true_eq,decide_eq_true_eq]
  omega
 unfold Builtin.Range.small
 rw [z,f a (by omega) (by omega),f (-1) (by omega) (by omega),f (a+1) (by omega) (by omega),if_neg (by decide),f (-1+(-1+1)) (by omega) (by omega)]
 simp
def iRngD (ta:TA):TI:=fun σ H R=>ta σ H fun vs H1=>∃ a:Int,vs=[.int a,.int (-1),.int (-1)]∧(-1≤a∧a < 1000000)∧R (Itr3 a (-1) (a+1).toNat) H1
theorem a3s {X:Cx} {tg:Expr} {a b c:Expr} {ta:TA} {p pos:Pos} (hg:Gl X "range") (hm:X.mg "range"=none) (ha:PA X [a,b,c] ta) (hs:starEach [a,b,c] X.env=(false,eval a X.env) :: starEach [b,c] X.env:=by rfl) (hs2:(backTo pos (starEach [b,c] X.env)).any (·.1)=false:=by rfl) :
  PI X tg (.Call (.Name "range" p) [a,b,c] [] pos) (iRngD ta):=by
 intro pins s σ H R I h
 refine Call_ (a2u I hg hm boot_range (PyProof.Rows.callWith_type1 (thn (ha pos pins s σ H _ I h) fun us s1 ⟨vs,H1,I1,r1,q1⟩=>?_) hs hs2))
 obtain ⟨i,e,⟨h1,h2⟩,q⟩:=q1
 subst e
 cases r1 with
 | cons r rr =>
  cases rr with
  | cons r' rr =>
   cases rr with
   | cons r'' rr =>
    cases rr
    obtain ⟨t,rfl⟩:=r
    obtain ⟨t',rfl⟩:=r'
    obtain ⟨t'',rfl⟩:=r''
    obtain ⟨sm,z0⟩:=smallD h1 h2
    refine call_range_3 (by decide) ?_ (.inl (PyProof.noPylong_small (by decide)))
    refine wpAny_pyIter_range (IsRange.new ..) sm ?_
    have I2:Inv X pins σ H1 { s1 with heap:=s1.heap.push { cls:=.type "range",data:=.fields #[.int i t,.int (-1) t',.int (-1) t''] },toks:=s1.toks }:=I1.kept fun b o e=>Heap.get?_push_of_some _ e
    refine ⟨_,[_],_,_,H1,rfl,I2.kept (t':=s1.toks) fun b o e=>Heap.get?_push_of_some _ e,a5S _ i (-1) (i+1).toNat,?_,fun b hb=>?_,q⟩
    ·have e1:i+((0:Nat):Int) * (-1)=i:=by simp
     have e2:((((i+1).toNat:Nat):Int)) - ((0:Nat):Int)=Builtin.Range.rangeSize i (-1) (-1):=by rw [z0];omega
     show IsRangeIter _ _ (i+((0:Nat):Int) * (-1)) ((((i+1).toNat:Nat):Int) - ((0:Nat):Int)) (-1)
     rw [e1,e2]
     exact Heap.get?_push_size _ rfl
    ·have e:=List.mem_singleton.mp hb
     subst e
     exact I2.fpOk (Nat.le_refl _) (I2.hok.fresh (Nat.le_refl _))
def rIns:V→List V→Hp→VK→Prop:=fun x vs H Q=>∃ (l:Addr) (xs:List V) (i:Int) (k:Nat) (y:V),x=.ref l∧vs=[.int i,y]∧i=(k:Int)∧H l=some (.lst xs)∧k≤xs.length∧xs.length < 1000∧Q .non (upd H l (.lst (xs.take k++y :: xs.drop k)))
theorem b2v (its:List Value) (y:Value) (k:Nat) (h:k≤its.length):(its.toArray.extract 0 k).push y++its.toArray.extract k=(its.take k++y :: its.drop k).toArray:=by
 simp [List.extract_toArray,List.extract_eq_drop_take]
 exact List.take_of_length_le (by rw [List.length_drop];omega)
theorem a8J {X:Cx}:MtM X "list.insert" rIns:=by
 intro pins s σ H x vs v us Q I rx rv h
 obtain ⟨l,xs,i,k,y,rfl,rfl,hi,hH,hk,hz,q⟩:=h
 cases rx
 obtain ⟨u,u2,rfl,ru,ru2⟩:=rv.two
 obtain ⟨t,rfl⟩:=ru
 obtain ⟨z,its,n,r,hl,e⟩:=I.lstM hH
 have li:xs.length=its.length:=r.length
 have hs:=a0s hz
 have fe:Builtin.List.listFitsIndex i=true:=by
  unfold Builtin.List.listFitsIndex
  rw [Bool.and_eq_true]
  exact ⟨decide_eq_true (by omega),decide_eq_true (by omega)⟩
 have fe':¬ (!Builtin.List.listFitsIndex i)=true:=by rw [fe];exact Bool.false_ne_true
 have sz:its.toArray.size≤sizeLine:=by rw [List.size_toArray];omega
 have M:=AutoSeq1.list_insert_list_int_val_1 l its.toArray n i t u2 fe' sz
 refine call_meets F.slot_list_insert ⟨_,e,rfl⟩ F.entry_list_insert (F.args_list_insert_3 _ _ _) M ⟨e,?_⟩
 refine ⟨.non,_,I.lset (its':=its.take k++u2 :: its.drop k) hH e ?_ ((r.take k).append (.cons ru2 (r.drop k))) ?_,rfl,q⟩
 ·show (its.toArray.extract 0 (if i < 0 then (i+(its.toArray.size:Int)).toNat else min i.toNat its.toArray.size)).push u2++its.toArray.extract (if i < 0 then (i+(its.toArray.size:Int)).toNat else min i.toNat its.toArray.size)=_
  have ei:i.toNat=k:=by omega
  have en:¬ i < 0:=by omega
  rw [if_neg en,ei,List.size_toArray,Nat.min_eq_left (by omega)]
  exact b2v its u2 k (by omega)
 ·rw [List.length_append,List.length_cons,List.length_take,List.length_drop];omega
section
variable {X:Cx} {pins:List (Addr × Obj)} {σ:St} {H:Hp} {s:Shared}
theorem Inv.tup0 {a:Addr} {xs:List V} (I:Inv X pins σ H s) (e:H a=some (.tup xs)):xs.length≤sizeLine∧∃ (its:List Value) (n:Nat),a0K xs its∧s.heap.get? a=some { cls:=.type "tuple",data:=.seq its.toArray n }:=by
 obtain ⟨z,its,r,o,e1,n,rfl⟩:=(show a1d X.prog X.w H s.heap a (.tup xs) from I.hok a _ e)
 exact ⟨z,its,n,r,e1⟩
end
def tBMT (r:V→List V→Hp→VK→Prop) (to:TE) (t:TA):TE:=fun σ H Q=>to σ H fun x H1=>(∃ a xs,x=.ref a∧H1 a=some (.tup xs))∧t σ H1 fun xs H2=>r x xs H2 Q
theorem pe_bmT {X:Cx} {id:String} {name:Str} {o e:Expr} {es:List Expr} {apos cpos:Pos} {to:TE} {t:TA} {r:V→List V→Hp→VK→Prop} (slot:Slot "tuple" name id) (hty:typeOf (.builtin id)=pure (.type "method_descriptor")) (hm:MtR X id r) (ho:PE X o to) (ha:PA X (e :: es) t)
  (hbase:attributeBase o name X.env (eval o X.env)=eval o X.env:=by rfl)
  (hfew:((backTo cpos (starEach (e :: es) X.env)).all (fun x=>!x.1) && (backToKw cpos (keywordEach [] X.env)).all (fun x=>x.1.isSome) && decide ((e :: es).length+([]:List Keyword).length+(if ([]:List Keyword).isEmpty then 0 else 1) < 30))=true:=by rfl)
  (hline:(apos.endLine == cpos.line)=true:=by rfl) (hs:starEach (e :: es) X.env=(false,eval e X.env) :: starEach es X.env:=by rfl) (hplain:(backTo cpos (starEach es X.env)).any (·.1)=false:=by rfl) :
  PE X (.Call (.Attribute o name apos) (e :: es) [] cpos) (tBMT r to t):=by
 intro pins s σ H Q I h
 refine wpAny_Call_method_late hbase hfew hline rfl (thn (ho pins s σ H _ I h) fun v s1 ⟨x,H1,I1,r1,ty,q1⟩=>?_)
 obtain ⟨a,xs,rfl,ea⟩:=ty
 cases r1
 obtain ⟨_,its,n,_,e1⟩:=I1.tup0 ea
 refine ⟨"tuple",id,PySem.F.plainAttrs_tuple,slot,hty,⟨_,e1,rfl⟩,fun b eb=>?_,?_⟩
 ·cases eb
  exact ⟨_,e1,rfl⟩
 have hA:=ha cpos pins s1 σ H1 _ I1 q1
 rw [hs] at hA ⊢
 refine Calls.callWith_builtin (by show (false || (backTo cpos (starEach es X.env)).any (·.1))=false;rw [hplain] <;> rfl) (Calls.evalArgs_plain ?_)
 exact thn hA fun us s2 ⟨vs,H2,I2,r2,q2⟩=>hm pins s2 σ H2 (.ref a) vs _ us Q I2 rfl r2 q2
def eqI (k:Int):Value→Bool
 | .int i _=>i == k
 | _=>false
theorem a6B (k:Int):∀ {ns:List Int} {its:List Value},a0K (ns.map V.int) its→its.countP (eqI k)=ns.count k
 | [],_,.nil=>rfl
 | n :: ns,_,.cons r t=>by
  obtain ⟨u,rfl⟩:=r
  rw [List.countP_cons,List.count_cons,a6B k t]
  rfl
theorem b0s {ns:List Int} {its:List Value} (h:a0K (ns.map V.int) its):∀ y∈its,∃ i t,y=.int i t:=by
 induction ns generalizing its with
 | nil=>cases h;intro y hy;cases hy
 | cons n ns ih =>
  cases h with
  | cons r t =>
   obtain ⟨u,rfl⟩:=r
   intro y hy
   rcases List.mem_cons.mp hy with z | z
   ·exact ⟨n,u,z⟩
   ·exact ih t y z
def rCntT:V→List V→Hp→VK→Prop:=fun x vs H Q=>∃ (a:Addr) (ns:List Int) (k:Int),x=.ref a∧vs=[.int k]∧H a=some (.tup (ns.map V.int))∧Q (.int ((ns.count k:Nat):Int)) H
theorem a8K {X:Cx}:MtM X "tuple.count" rCntT:=by
 intro pins s σ H x vs v us Q I rx rv h
 obtain ⟨a,ns,k,rfl,rfl,hH,q⟩:=h
 cases rx
 obtain ⟨y',rfl,ry⟩:=rv.one
 obtain ⟨t,rfl⟩:=ry
 obtain ⟨z,its,n,r,e0⟩:=I.tup0 hH
 refine call_meets PySem.F.slot_tuple_count ⟨_,e0,rfl⟩ PySem.F.entry_tuple_count (PySem.F.args_tuple_count_2 _ _) (SeqAt.tuple_countAt a its.toArray n none #[] (.int k t) (eqI k)) ⟨e0,fun y hy=>?_,?_⟩
 ·obtain ⟨i,u,rfl⟩:=b0s r y (by simpa using hy)
  exact SeqAt.EqAt.int_int i u k t
 ·refine ⟨.int _,H,I.tok _,⟨_,rfl⟩,?_⟩
  have e:(its.toArray.toList.countP (eqI k))=ns.count k:=by rw [List.toList_toArray];exact a6B k r
  rw [e]
  exact q
theorem a8L {X:Cx} (K:PySem.W.Frag) (hK:X.K=K:=by rfl):a2w X (.builtin "len") (fun xs H Q=>∃ p ys,xs=[.ref p]∧(SqL K H p ys∨SqT K H p ys)∧Q (.int (ys.length:Nat)) H):=by
 subst hK
 exact a0i
def b2w (i j:Int):Prop:=(-(100000000 * B30)≤i∧i≤100000000 * B30)∧(-(100000000 * B30)≤j∧j≤100000000 * B30)
theorem b2w.ok {i j:Int} (h:b2w i j):IntMulOk i j:=by
 have q:∀ k:Int,-(100000000 * B30)≤k∧k≤100000000 * B30→PySem.Builtin.Int.intBits k≤140:=fun k hk=>intBits_le_iff.mpr (by
  have e:(2:Nat) ^ 140=1393796574908163946345982392040522594123776:=by decide
  rw [e]
  unfold B30 at hk
  omega)
 exact IntMulOk.of_le (q i h.1) (q j h.2) (by decide)
theorem b2x {X:Cx}:OpR X (binaryOp .Mult) (rI b2w fun i j=>.int (i * j)):=opI fun _ _ _ _ _ _ _ hc q=>PyProof.Rows.mul_int q hc.ok
abbrev exA (a:Addr) (o:Obj):HO:=.ext fun h=>h.get? a=some o
abbrev cdA (c:Addr) (q:Str):HO:=.ext fun h=>h.CodeRec (.ref c) q
def unt (as:List Addr) (H:Hp):Hp:=fun b=>if b∈as then none else H b
def rtk (as:List Addr) (H H':Hp):Hp:=fun b=>if b∈as then H b else H' b
theorem a3t {as:List Addr} {H:Hp} {b:Addr} (h:b∈as):unt as H b=none:=if_pos h
theorem a0P {as:List Addr} {H:Hp} {b:Addr} (h:b∉as):unt as H b=H b:=if_neg h
theorem b1q {as:List Addr} {H H':Hp} {b:Addr} (h:b∈as):rtk as H H' b=H b:=if_pos h
theorem a1I {as:List Addr} {H H':Hp} {b:Addr} (h:b∉as):rtk as H H' b=H' b:=if_neg h
def Exs (H:Hp) (as:List Addr):Prop:=∀ a∈as,∃ o,H a=some (exA a o)
section
variable {P:Program} {w:World} {H H':Hp} {h h':Heap} {as:List Addr} {fs ex:List Addr}
theorem Exs.out (x:Exs H as) {b:Addr} {u:HO} (e:H b=some u) (hn:∀ o,u≠exA b o):b∉as:=fun z=>by
 obtain ⟨o,e'⟩:=x b z
 rw [e] at e'
 exact hn o (Option.some.inj e')
theorem HOk.unt (x:HOk P w H h) (e:Exs H as):HOk P w (L2.unt as H) h:=fun a o q=>by
 have ne:a∉as:=fun z=>by rw [a3t z] at q;cases q
 rw [a0P ne] at q
 exact (x a o q).stay (fun b u _ r=>r) (fun b r=>by rw [a0P (e.out r fun o=>by intro z;cases z)];exact r) fun b xs r=>by rw [a0P (e.out r fun o=>by intro z;cases z)];exact r
theorem a6C {a:Addr} {o:Obj} (e:h.get? a=some o):a1d P w H h a (exA a o):=⟨e,⟨o,e⟩,fun h1 h2 e1 k=>k o e1⟩
theorem cdA_ok {c:Addr} {q:Str} (e:h.CodeRec (.ref c) q):a1d P w H h c (cdA c q):=by
 obtain ⟨c2,o,vs,t,e1,g,r⟩:=e
 cases e1
 refine ⟨⟨c,o,vs,t,rfl,g,r⟩,⟨o,g⟩,fun h1 h2 x k=>?_⟩
 obtain ⟨c3,o',vs',t',e2,g',r'⟩:=x
 cases e2
 exact ⟨c,o',vs',t',rfl,k _ g',r'⟩
theorem Un.rtk (u:Un fs ex (L2.unt as H) H' h h') (e:Exs H as):Un fs ex H (L2.rtk as H H') h h':=by
 have no:∀ {b:Addr},H b=none→b∉as:=fun {b} n z=>by obtain ⟨o,q⟩:=e b z;rw [n] at q;cases q
 refine ⟨fun b o q n hb hx=>u.keep b o q (by rw [a0P (no n)];exact n) hb hx,fun b o q n hb hx=>u.slot b o q (by rw [a0P (no n)];exact n) hb hx,fun b o q n hx=>?_,u.there,fun b xs q=>?_,fun b o u' q=>?_,fun b ps q=>?_⟩
 ·rw [a1I (no n)];exact u.free b o q (by rw [a0P (no n)];exact n) hx
 ·have ne:=e.out q fun o=>by intro z;cases z
  rw [a1I ne];exact u.tups b xs (by rw [a0P ne];exact q)
 ·have ne:=e.out q fun o=>by intro z;cases z
  rw [a1I ne];exact u.frzs b o u' (by rw [a0P ne];exact q)
 ·have ne:=e.out q fun o=>by intro z;cases z
  rw [a1I ne];exact u.tbls b ps (by rw [a0P ne];exact q)
theorem HOk.rtk (x:HOk P w H' h') (u:Un fs ex (L2.unt as H) H' h h') (x0:HOk P w H h) (e:Exs H as) (nf:∀ a∈as,a∉fs∧a∉ex):HOk P w (L2.rtk as H H') h':=fun a o q=>by
 have no:∀ {b:Addr},b∈as→H' b=none∧∀ o,H b=some (exA b o)→h'.get? b=some o:=fun {b} z=>by
  obtain ⟨o1,q1⟩:=e b z
  have g1:h.get? b=some o1:=(x0 b _ q1).1
  refine ⟨u.free b o1 g1 (a3t z) (nf b z).2,fun o2 q2=>?_⟩
  have g2:h.get? b=some o2:=(x0 b _ q2).1
  exact u.keep b o2 g2 (a3t z) (nf b z).1 (nf b z).2
 by_cases z:a∈as
 ·rw [b1q z] at q
  obtain ⟨o1,q1⟩:=e a z
  rw [q1] at q;cases q
  exact a6C ((no z).2 o1 q1)
 ·rw [a1I z] at q
  have st:∀ {b:Addr} {y:HO},H' b=some y→b∉as:=fun {b y} r k=>by rw [(no k).1] at r;cases r
  exact (x a o q).stay (fun b u _ r=>r) (fun b r=>by rw [a1I (st r)];exact r) fun b xs r=>by rw [a1I (st r)];exact r
end
def cxL (P:Program) (w:World) (K:PySem.W.Frag) (mg:Str→Option Value) (base:Heap) (N:List Str) (qual:Str) (scope:Scope) (g:Addr) (cd:Value) (cl:List (Str × Addr)) (A:Around) (outer:List Env) (s:Shared) (H:Hp) (xe:Value→Shared→Prop):Cx where
 prog:=P
 w:=w
 K:=K
 mg:=mg
 base:=base
 A:=A.deeper (PySem.W.envX qual scope s.heap.objs.size g cd cl)
 N:=N
 s₀:=s
 H₀:=H
 env:=PySem.W.envX qual scope s.heap.objs.size g cd cl
 outer:=outer
 stack:=PySem.W.envX qual scope s.heap.objs.size g cd cl :: outer
 ex:=[]
 calm:=true
 fn:=fun _=>false
 pn:=[]
 xe:=xe
structure a6D (scope:Scope) (ps:List Str) (cl:List (Str × Addr)):Prop where
 kind:scope.kind=.function
 co:scope.isCoroutine=false
 gen:scope.isGenerator=false
 nd:(ps++cl.map (·.1)).Nodup
 par:∀ x∈ps,scope.names.lookup x=some .local
 nocell:∀ y∈scope.names,y.2≠.cell
 fr:∀ y∈scope.names,y.2=.free→y.1∈cl.map (·.1)
 cap:∀ x∈cl.map (·.1),scope.names.lookup x=some .free
theorem a3u:∀ {cl:List (Str × Addr)} {i:Nat} {x:Str} {c:Addr},(cl.map (·.1)).Nodup→cl[i]?=some (x,c)→cl.lookup x=some c
 | [],_,_,_,_,h=>by simp at h
 | (y,d) :: cl,0,x,c,_,h=>by
  have h:y=x∧d=c:=by simpa using h
  obtain ⟨rfl,rfl⟩:=h
  simp [List.lookup]
 | (y,d) :: cl,i+1,x,c,nd,h=>by
  have h:cl[i]?=some (x,c):=by simpa using h
  have ne:x≠y:=fun z=>(List.nodup_cons.mp nd).1 (by rw [←z];exact List.mem_map.mpr ⟨_,List.mem_of_getElem? h,rfl⟩)
  have e:(x == y)=false:=by simpa using ne
  rw [List.lookup,e]
  exact a3u (List.nodup_cons.mp nd).2 h
theorem a1Z:∀ {cl:List (Str × Addr)} {x:Str} {c:Addr},cl.lookup x=some c→∃ i:Nat,cl[i]?=some (x,c)
 | [],_,_,h=>by cases h
 | (y,d) :: cl,x,c,h=>by
  rw [List.lookup] at h
  cases e:(x == y) with
  | true =>
   rw [e] at h
   have:d=c:=by simpa using h
   have xy:x=y:=by simpa using e
   exact ⟨0,by rw [xy,this];rfl⟩
  | false =>
   rw [e] at h
   obtain ⟨i,hi⟩:=a1Z h
   exact ⟨i+1,by simpa using hi⟩
theorem a7s {us:List Value}:∀ {ps:List Str},ps.Nodup→∀ {i:Nat} {x:Str} {u:Value},ps[i]?=some x→us[i]?=some u→(ps.zip us).reverse.lookup x=some u:=by
 induction us with
 | nil=>intro ps _ i x u _ h;simp at h
 | cons v us ih =>
  intro ps nd i x u h1 h2
  cases ps with
  | nil=>simp at h1
  | cons p ps =>
   rw [List.zip_cons_cons,List.reverse_cons,List.lookup_append]
   cases i with
   | zero =>
    have e1:p=x:=by simpa using h1
    have e2:v=u:=by simpa using h2
    subst e1 e2
    have:(ps.zip us).reverse.lookup p=none:=by
     cases e:(ps.zip us).reverse.lookup p with
     | none=>rfl
     | some y =>
      have:=PySem.mem_of_lookup e
      rw [List.mem_reverse] at this
      exact absurd (List.of_mem_zip this).1 (List.nodup_cons.mp nd).1
    rw [this]
    simp [List.lookup]
   | succ i =>
    rw [ih (List.nodup_cons.mp nd).2 (by simpa using h1) (by simpa using h2)]
    rfl
theorem b0t {P:Program} {w:World} {K:PySem.W.Frag} {mg:Str→Option Value} {base:Heap} {k:Nat} {name qual:Str} {params:Arguments} {body:Expr} {scope:Scope} {cl:List (Str × Addr)} {pm ctv:Value} {c' g:Addr} {ps:List Str} {A:Around} {outer:List Env} {s:Shared} {H:Hp} {us:List Value} {vs cvs:List V} {Q:VK} {E:XK}
  (S:a6D scope ps cl) (hr:a1Q (k+1) A) (e0:a9z P w K mg base A outer s H) (ho:H g=some (exA g (PySem.W.kla_obj name qual params body scope cl pm c' ctv))) (hc:H c'=some (cdA c' qual)) (nda:(cl.map (·.2)).Nodup)
  (hcl:∀ (i:Nat) (x:Str) (c:Addr),cl[i]?=some (x,c)→∃ o u v,H c=some (exA c o)∧o.data=.cell (some u)∧cvs[i]?=some v∧a0U v u) (lcv:cvs.length=cl.length) (r:a0K vs us) (hl:vs.length=ps.length)
  (hb:bindArgs (PySem.W.kla_fn name qual params body scope cl pm (.ref c') ctv) ⟨us,[]⟩=pure (ps.zip us))
  (hbody:∀ xe,a1Q k (A.deeper (PySem.W.envX qual scope s.heap.objs.size g (.ref c') cl))→∃ t,PE (cxL P w K mg base (ps++cl.map (·.1)) qual scope g (.ref c') cl A outer s (unt (cl.map (·.2)) H) xe) body t∧t ((vs++cvs).map some) (unt (cl.map (·.2)) H) fun v H'=>(∀ a∈cl.map (·.2),H' a=none)→Q v (rtk (cl.map (·.2)) H H')) :
  codeAny (model P w) A (.call (.ref g) ⟨us,[]⟩) (CR CX0 outer P w H s Q E) s:=by
 have lim:s.heap.NoLimit:=e0.mod.nolimit.keeps fun b o e=>(e0.bs b o e).1
 have eg:s.heap.get? g=some (PySem.W.kla_obj name qual params body scope cl pm c' ctv):=(e0.hok g _ ho).1
 have ec:s.heap.CodeRec (.ref c') qual:=(e0.hok c' _ hc).1
 have exs:Exs H (cl.map (·.2)):=fun a ha=>by
  obtain ⟨⟨x,c⟩,hm,rfl⟩:=List.mem_map.mp ha
  obtain ⟨i,hi⟩:=List.mem_iff_getElem?.mp hm
  obtain ⟨o,u,v,e1,_⟩:=hcl i x c hi
  exact ⟨o,e1⟩
 have ndp:ps.Nodup:=(List.nodup_append.mp S.nd).1
 have ndc:(cl.map (·.1)).Nodup:=(List.nodup_append.mp S.nd).2.1
 have lus:us.length=ps.length:=by rw [←r.length,hl]
 refine PySem.W.kla_callFunE hr.depth eg rfl S.co S.gen rfl ec ?_
 rw [hb]
 refine wpAny_pure (wpAny_newFunctionEnv S.nocell (fun y hy=>S.par y.1 (List.of_mem_zip hy).1) (fun h₁ hns hsb=>?_) S.kind)
 have hk₁:∀ b o,s.heap.get? b=some o→h₁.get? b=some o:=fun b o e=>hsb.extBut b o (Nat.ne_of_lt (Heap.lt_size e)) (Heap.get?_push_of_some _ e)
 refine ⟨lim.keeps hk₁,?_⟩
 show codeAny _ _ (.expr body (PySem.W.envX qual scope s.heap.objs.size g (.ref c') cl)) _ _
 refine PySem.W.kla_codeExpr ?_
 obtain ⟨t,ht,hq⟩:=hbody (fun e' s'=>wpAny (model P w) (A.deeper (PySem.W.envX qual scope s.heap.objs.size g (.ref c') cl)) (leaving (PySem.W.envX qual scope s.heap.objs.size g (.ref c') cl) e') (fun _ s''=>CR CX0 outer P w H s Q E (.error e') s'') (fun e'' s''=>CR CX0 outer P w H s Q E (.error e'') s'') s') (hr.deeper _)
 have cellAt:∀ x c,cl.lookup x=some c→∃ (i:Nat) (o:Obj) (u:Value) (v:V),cl[i]?=some (x,c)∧H c=some (exA c o)∧h₁.get? c=some o∧o.data=.cell (some u)∧cvs[i]?=some v∧a0U v u:=fun x c e=>by
  obtain ⟨i,hi⟩:=a1Z e
  obtain ⟨o,u,v,e1,e2,e3,e4⟩:=hcl i x c hi
  exact ⟨i,o,u,v,hi,e1,hk₁ _ _ (e0.hok c _ e1).1,e2,e3,e4⟩
 have memA:∀ x c,cl.lookup x=some c→c∈cl.map (·.2):=fun x c e=>by
  obtain ⟨i,hi⟩:=a1Z e
  exact List.mem_map.mpr ⟨_,List.mem_of_getElem? hi,rfl⟩
 have noA:∀ b:Addr,b∉([]:List Addr):=fun b z=>by cases z
 have utn:∀ {b:Addr},H b=none→unt (cl.map (·.2)) H b=none:=fun {b} n=>by
  by_cases z:b∈cl.map (·.2)
  ·exact a3t z
  ·rw [a0P z];exact n
 have I:Inv (cxL P w K mg base (ps++cl.map (·.1)) qual scope g (.ref c') cl A outer s (unt (cl.map (·.2)) H) (fun e' s'=>wpAny (model P w) (A.deeper (PySem.W.envX qual scope s.heap.objs.size g (.ref c') cl)) (leaving (PySem.W.envX qual scope s.heap.objs.size g (.ref c') cl) e') (fun _ s''=>CR CX0 outer P w H s Q E (.error e') s'') (fun e'' s''=>CR CX0 outer P w H s Q E (.error e'') s'') s')) [] ((vs++cvs).map some) (unt (cl.map (·.2)) H) { s with heap:=h₁,toks:=s.toks+(ps.zip us).length }:=by
  refine ⟨⟨e0.mod,S.kind,rfl,rfl,Nat.le_refl _,fun y z c h1 h2=>?_,fun y hy=>?_,fun y c z h=>(by cases z),fun _=>hr.hd,Around.frames_deeper e0.frames,.inr ⟨rfl,rfl⟩,fun b z=>absurd z (noA b),fun b o e=>⟨(e0.bs b o e).1,utn (e0.bs b o e).2⟩,e0.bsz,fun b _ _=>noA b,fun b z=>absurd z (noA b),e0.funs,fun b hb=>utn (e0.frf b hb)⟩,
   rfl,e0.bare,Un.kept hk₁,⟨_,hns,fun i y v h1 h2 h3=>?_⟩,fun y c h=>?_,utn (e0.hok.fresh (Nat.le_refl _)),fun y c h=>a3t (memA y c h),fun p hp=>absurd (show p∈([]:List (Addr × Obj)) from hp) (by simp),(e0.hok.unt exs).kept hk₁,?_⟩
  ·obtain ⟨i,hi⟩:=a1Z (show cl.lookup y=some c from h1)
   obtain ⟨j,hj⟩:=a1Z (show cl.lookup z=some c from h2)
   have e1:(cl.map (·.2))[i]?=some c:=by rw [List.getElem?_map,hi];rfl
   have e2:(cl.map (·.2))[j]?=some c:=by rw [List.getElem?_map,hj];rfl
   have il:=(List.getElem?_eq_some_iff.mp e1).1
   have ij:i=j:=(List.getElem?_inj il nda).mp (e1.trans e2.symm)
   subst ij
   rw [hi] at hj
   exact congrArg Prod.fst (Option.some.inj hj)
  ·have hy:scope.names.lookup y=some .cell∨scope.names.lookup y=some .free:=hy
   rcases hy with hy | hy
   ·exact absurd rfl (S.nocell _ (PySem.mem_of_lookup hy))
   ·have hm:=S.fr _ (PySem.mem_of_lookup hy) rfl
    obtain ⟨⟨x,c⟩,hx,e⟩:=List.mem_map.mp hm
    have e:x=y:=e
    subst e
    obtain ⟨i,hi⟩:=List.mem_iff_getElem?.mp hx
    exact ⟨c,a3u ndc hi⟩
  ·have h1:(ps++cl.map (·.1))[i]?=some y:=h1
   rw [List.getElem?_map] at h2
   by_cases hi:i < ps.length
   ·rw [List.getElem?_append_left hi] at h1
    rw [List.getElem?_append_left (by omega)] at h2
    cases ev:vs[i]? with
    | none=>rw [ev] at h2;cases h2
    | some v' =>
     rw [ev] at h2
     have:v'=v:=by simpa using h2
     subst this
     obtain ⟨u,hu,rv⟩:=r.get ev
     exact ⟨u,rv,.inl ⟨S.par y (List.mem_of_getElem? h1),a7s ndp h1 hu⟩⟩
   ·rw [List.getElem?_append_right (by omega),List.getElem?_map] at h1
    rw [List.getElem?_append_right (by omega)] at h2
    cases ec':cl[i - ps.length]? with
    | none=>rw [ec'] at h1;cases h1
    | some q =>
     obtain ⟨x,c⟩:=q
     rw [ec'] at h1
     have:x=y:=by simpa using h1
     subst this
     obtain ⟨o,u,v',e1,e2,e3,e4⟩:=hcl _ x c ec'
     rw [hl,e3] at h2
     have:v'=v:=by simpa using h2
     subst this
     exact ⟨u,e4,.inr ⟨.inr (S.cap x (List.mem_map.mpr ⟨_,List.mem_of_getElem? ec',rfl⟩)),c,a3u ndc ec',o,hk₁ _ _ (e0.hok c _ e1).1,e2⟩⟩
  ·obtain ⟨i,o,u,v,_,_,e3,e4,_⟩:=cellAt y c h
   exact ⟨_,o,e3,e4⟩
  ·show ((vs++cvs).map some).length=(ps++cl.map (·.1)).length
   rw [List.length_map,List.length_append,List.length_append,List.length_map,hl,lcv]
 refine wpAny_mono (ht [] _ _ _ _ I hq) (fun u s' hs=>?_) fun e s' hs=>hs
 obtain ⟨v,H',J,rv,q⟩:=hs
 have nf:∀ a∈cl.map (·.2),a∉frs outer∧a∉([]:List Addr):=fun a ha=>⟨fun z=>(by
  obtain ⟨o,e⟩:=exs a ha
  rw [e0.frf a z] at e
  cases e),noA a⟩
 have un:Un (frs outer) [] (unt (cl.map (·.2)) H) H' s.heap s'.heap:=J.base
 exact ⟨v,rtk (cl.map (·.2)) H H',J.os,J.bare,un.rtk exs,HOk.rtk J.hok un e0.hok exs nf,rv,q fun a ha=>(by
  obtain ⟨o,e⟩:=exs a ha
  exact un.free a o (e0.hok a _ e).1 (a3t ha) (noA a))⟩
structure b2y (P:Program) (w:World) (K:PySem.W.Frag) (mg:Str→Option Value) (base:Heap) (k:Nat) (R:Addr→List V→Hp→VK→Prop):Prop where
 at':∀ {g:Addr} {vs:List V} {H:Hp} {Q:VK},R g vs H Q→∃ oc od fd sl,H g=some (exA g ⟨oc,od,.func fd,sl⟩)
 run:∀ (A:Around) (outer:List Env) (s:Shared) (H:Hp) (g:Addr) (us:List Value) (vs:List V) (Q:VK),a1Q k A→a9z P w K mg base A outer s H→a0K vs us→R g vs H Q→codeAny (model P w) A (.call (.ref g) ⟨us,[]⟩) (CR CX0 outer P w H s Q E0) s
def tCallV (i:Nat) (R:Addr→List V→Hp→VK→Prop) (t:TA):TE:=fun σ H Q=>∃ g oc od fd sl,σ[i]?=some (some (.ref g))∧H g=some (exA g ⟨oc,od,.func fd,sl⟩)∧t σ H fun vs H1=>R g vs H1 Q
theorem b0u {X:Cx} {i k:Nat} {x:Str} {R:Addr→List V→Hp→VK→Prop} {e:Expr} {es:List Expr} {t:TA} {p pos:Pos} (L:b2y X.prog X.w X.K X.mg X.base k R) (hr:a1Q k X.A) (hN:X.N[i]?=some x) (hv:Vis X.env.scope x) (ha:PA X (e :: es) t)
  (hd:(x == ("__debug__":Str))=false:=by decide) (hcd:(x == ("__classdict__":Str))=false:=by decide) (he:starEach (e :: es) X.env=(false,eval e X.env) :: starEach es X.env:=by rfl) (hpl:(backTo pos (starEach es X.env)).any (·.1)=false:=by rfl) :
  PE X (.Call (.Name x p) (e :: es) [] pos) (tCallV i R t):=by
 intro pins s σ H Q I h
 obtain ⟨g,oc,od,fd,sl,e1,e2,h⟩:=h
 refine wpAny_Call_Name_kw (thn ((b1c (pos:=p) hN hv hd hcd) pins s σ H (fun v H'=>v=.ref g∧H'=H) I ⟨_,e1,rfl,rfl⟩) fun u s1 hu=>?_)
 obtain ⟨v,H',I1,rv,rfl,rfl⟩:=hu
 obtain rfl:u=Value.ref g:=rv
 refine PySem.W.callWith_F ⟨oc,od,fd,sl,(I1.hok g _ e2).1⟩ (thn (ha pos pins s1 σ H' _ I1 h) fun us s2 ⟨vs,H1,I2,r,q⟩=>⟨?_,?_⟩) he hpl
 ·obtain ⟨oc',od',fd',sl',e3⟩:=L.at' q
  exact ⟨oc',od',fd',sl',(I2.hok g _ e3).1⟩
 ·refine wpAny_call (codeAny_mono (L.run X.A X.stack s2 H1 g us vs Q hr I2.env0 r q) fun r s' hq=>?_)
  cases r with
  | error e=>exact False.elim hq
  | ok fl =>
   cases fl with
   | ret u=>exact I2.after hq
   | next=>exact False.elim hq
   | brk=>exact False.elim hq
   | cont=>exact False.elim hq
abbrev a1J (lpos:Pos) (c':Addr):Array Value:=#[rawInt lpos.line,rawInt lpos.col,.ref c']
def a0R (H:Hp) (T:Addr) (lpos:Pos) (q:Str):Prop:=H T=some (.tbl #[])∨∃ c',H T=some (.tbl (a1J lpos c'))∧H c'=some (cdA c' q)
structure LamH (H H2:Hp) (T:Addr) (lpos:Pos) (q:Str) (c' g:Addr) (o:Obj):Prop where
 tb:H2 T=some (.tbl (a1J lpos c'))
 cd:H2 c'=some (cdA c' q)
 ob:H2 g=some (exA g o)
 ot:∀ b u,b≠T→H b=some u→H2 b=some u
 ng:H g=none
 sm:∀ c2,H T=some (.tbl (a1J lpos c2))→c2=c'
theorem b2z {lpos:Pos} {c c':Addr} (e:a1J lpos c=a1J lpos c'):c=c':=by
 have h2:=congrArg (fun z:Array Value=>z[2]?) e
 have h3:some (Value.ref c)=some (Value.ref c'):=h2
 cases h3
 rfl
theorem Un.lam {fs:List Addr} {P:Program} {w:World} {H H3:Hp} {h h3:Heap} {T:Addr} {ps more:Array Value} (hok:HOk P w H h) (k:∀ b u,b≠T→h.get? b=some u→h3.get? b=some u) (eT:∃ u,h3.get? T=some u) (e:H T=some (.tbl ps)) (e3:H3 T=some (.tbl (ps++more))) (ot:∀ b,b < h.objs.size→b≠T→H3 b=H b):Un fs [] H H3 h h3:=by
 have nT:∀ {b:Addr},H b=none→b≠T:=fun {b} n z=>by rw [z,e] at n;cases n
 refine ⟨fun b o q n _ _=>k b o (nT n) q,fun b o q n _ _=>⟨o.slots,k b o (nT n) q⟩,fun b o q n _=>?_,fun b o q _=>?_,fun b xs q=>?_,fun b o u q=>?_,fun b qs q=>?_⟩
 ·rw [ot b (Heap.lt_size q) (nT n)];exact n
 ·by_cases z:b=T
  ·subst z;exact eT
  ·exact ⟨o,k b o z q⟩
 ·rw [ot b (hok.lt q) (a0G q e (by intro z;cases z))];exact q
 ·rw [ot b (hok.lt q) (a0G q e (by intro z;cases z))];exact q
 ·by_cases z:b=T
  ·subst z
   rw [e] at q;cases q
   exact ⟨more,e3⟩
  ·exact ⟨#[],by rw [ot b (hok.lt q) z,q];simp⟩
theorem HOk.lam {P:Program} {w:World} {H H3:Hp} {h h3:Heap} {T:Addr} {ps:Array Value} (hok:HOk P w H h) (k:∀ b u,b≠T→h.get? b=some u→h3.get? b=some u) (e:H T=some (.tbl ps)) (ot:∀ b,b < h.objs.size→b≠T→H3 b=H b) (new:∀ a o,H3 a=some o→(a=T∨h.objs.size≤a)→a1d P w H3 h3 a o):HOk P w H3 h3:=fun a o q=>by
 by_cases z:a=T
 ·exact new a o q (.inl z)
 by_cases y:h.objs.size≤a
 ·exact new a o q (.inr y)
 have q':H a=some o:=by rw [←ot a (by omega) z];exact q
 refine (hok a o q').stay (fun b u hb r=>k b u ?_ r) (fun b r=>?_) fun b xs r=>?_
 ·rcases hb with rfl | hb
  ·exact z
  ·exact a0G hb e (by intro z;cases z)
 ·rw [ot b (hok.lt r) (a0G r e (by intro z;cases z))];exact r
 ·rw [ot b (hok.lt r) (a0G r e (by intro z;cases z))];exact r
structure LamMk (X:Cx) (c T bm:Addr):Prop where
 code:X.env.code=.ref c
 hd:PySem.W.codeHdIn X.K c T=true
 hbm:X.mg "__builtins__"=some (.ref bm)
 bo:∃ o,X.base.get? bm=some o∧o.cls=.type "module"∧o.dict=some builtinsNs∧o.data=.plain
 b1:bm≠builtinsNs
 b2:bm≠mainGlobals
 b3:bm≠T
 b4:mainGlobals≠T
def tLam (T:Addr) (lpos:Pos) (q:Str) (mk:Addr→Value→Value→Obj):TE:=fun _ H Q=>a0R H T lpos q∧∀ c' pm ctv g H2,LamH H H2 T lpos q c' g (mk c' pm ctv)→Q (.ref g) H2
theorem pe_lam {X:Cx} {params:Arguments} {body:Expr} {lscope:Scope} {lpos:Pos} {c T bm:Addr} {clos:List (Str × Addr)} (M:LamMk X c T bm) (hcl:closureFor lscope X.env=pure clos) (hdef:defaultsOf params X.env=([],[]):=by rfl) :
  PE X (.Lambda params body lscope lpos) (tLam T lpos (X.env.qual++"<lambda>") fun c' pm ctv=>PySem.W.kla_obj "<lambda>" (X.env.qual++"<lambda>") params body lscope clos pm c' ctv):=by
 intro pins s σ H Q I h
 obtain ⟨tab,h⟩:=h
 refine PySem.W.kla_eval hdef ?_
 have hg:s.heap.Ns mainGlobals X.mg:=I.mod.glob.keeps I.bk
 have C:=PySem.W.codeHd_of_K I.kIn M.hd
 obtain ⟨ob,lo,l1,l2,l3⟩:=M.bo
 have hB:s.heap.BuiltinsAt X.mg T:=⟨bm,ob,M.hbm,M.b1,M.b2,M.b3,I.bk _ _ lo,l1,l2,l3⟩
 rcases tab with e | ⟨c',e,ec⟩
 ·have hP:s.heap.get? T=some (PySem.W.tabObj #[]):=I.hok T _ e
  refine PySem.W.kla_makeFunction hcl I.ok.glob hg M.code C hP trivial rfl M.b4 hB fun c' ctv h' tk hx hge hlt hrec htb=>?_
  have ltT:T < s.heap.objs.size:=I.hok.lt e
  have gs:s.heap.objs.size≤h'.objs.size:=Nat.le_trans hge (Nat.le_of_lt hlt)
  have cg:c'≠h'.objs.size:=Nat.ne_of_lt hlt
  have cT:c'≠T:=fun z=>Nat.lt_irrefl _ (Nat.lt_of_lt_of_le ltT (z▸hge))
  have gT:h'.objs.size≠T:=fun z=>Nat.lt_irrefl _ (Nat.lt_of_lt_of_le ltT (z▸gs))
  generalize eo:PySem.W.kla_obj "<lambda>" (X.env.qual++"<lambda>") params body lscope clos ((X.mg "__name__").getD .none) c' ctv=o
  have hfr:o.isFreed=false:=by rw [←eo];rfl
  let H3:Hp:=upd (upd (upd H T (.tbl (a1J lpos c'))) c' (cdA c' (X.env.qual++"<lambda>"))) h'.objs.size (exA h'.objs.size o)
  have t3:H3 T=some (.tbl (a1J lpos c')):=by
   show upd _ _ _ T=_
   rw [a0j (Ne.symm gT),a0j (Ne.symm cT),a0c]
  have c3:H3 c'=some (cdA c' (X.env.qual++"<lambda>")):=by
   show upd _ _ _ c'=_
   rw [a0j cg,a0c]
  have g3:H3 h'.objs.size=some (exA h'.objs.size o):=a0c
  have ot:∀ b,b < s.heap.objs.size→b≠T→H3 b=H b:=fun b hb hT=>by
   show upd _ _ _ b=_
   rw [a0j (Nat.ne_of_lt (Nat.lt_of_lt_of_le hb gs)),a0j (Nat.ne_of_lt (Nat.lt_of_lt_of_le hb hge)),a0j hT]
  have k3:∀ b u,b≠T→s.heap.get? b=some u→(h'.push o).get? b=some u:=fun b u hb q=>Heap.get?_push_of_some _ (hx b u hb q)
  have un:Un X.fs [] H H3 s.heap (h'.push o):=Un.lam (more:=a1J lpos c') I.hok k3 ⟨_,Heap.get?_push_of_some _ htb⟩ e (by rw [t3];simp) ot
  have hk3:HOk X.prog X.w H3 (h'.push o):=HOk.lam I.hok k3 e ot fun a u q hq=>by
   by_cases z1:a=T
   ·subst z1
    rw [t3] at q;cases q
    have:(h'.push o).get? a=some (PySem.W.tabObj (#[]++#[rawInt lpos.line,rawInt lpos.col,.ref c'])):=Heap.get?_push_of_some _ htb
    show (h'.push o).get? a=some _
    simpa using this
   by_cases z2:a=c'
   ·subst z2
    rw [c3] at q;cases q
    exact cdA_ok (hrec.push _)
   by_cases z3:a=h'.objs.size
   ·subst z3
    rw [g3] at q;cases q
    exact a6C (Heap.get?_push_size _ hfr)
   ·exfalso
    rcases hq with y | y
    ·exact z1 y
    ·have:H3 a=H a:=by
      show upd _ _ _ a=_
      rw [a0j z3,a0j z2,a0j z1]
     rw [this,I.hok.fresh y] at q
     cases q
  refine ⟨.ref h'.objs.size,H3,I.un (t':=tk) un hk3,rfl,h c' _ ctv h'.objs.size H3 ⟨t3,c3,by rw [g3,←eo],fun b u hb q=>by rw [ot b (I.hok.lt q) hb];exact q,I.hok.fresh gs,fun c2 e2=>by
   rw [e] at e2
   have h1:=HO.tbl.inj (Option.some.inj e2)
   have h2:=congrArg Array.size h1
   cases h2⟩⟩
 ·have hP:s.heap.get? T=some (PySem.W.tabObj (a1J lpos c')):=I.hok T _ e
  refine PySem.W.kla_makeFunctionHit (cv:=.ref c') hcl I.ok.glob hg M.code C hP (by exact trivial) (by simp [a1J,codeAmong,rawInt]) hB fun ctv h' tk hk hsz=>?_
  generalize eo:({ cls:=.type "function",data:=.func (PySem.W.kla_fn "<lambda>" (X.env.qual++"<lambda>") params body lscope clos ((X.mg "__name__").getD .none) (.ref c') ctv) }:Obj)=o
  have hfr:o.isFreed=false:=by rw [←eo];rfl
  have ltc:c' < s.heap.objs.size:=I.hok.lt ec
  have ltT:T < s.heap.objs.size:=I.hok.lt e
  refine ⟨.ref h'.objs.size,upd H h'.objs.size (exA h'.objs.size o),I.laid (t':=tk) (fun b u q=>Heap.get?_push_of_some _ (hk b u q)) hsz (a6C (Heap.get?_push_size _ hfr)),rfl,h c' _ ctv h'.objs.size _ ⟨?_,?_,by rw [a0c,←eo],fun b u hb q=>?_,I.hok.fresh hsz,fun c2 e2=>?_⟩⟩
  ·rw [a0j (Nat.ne_of_lt (Nat.lt_of_lt_of_le ltT hsz))];exact e
  ·rw [a0j (Nat.ne_of_lt (Nat.lt_of_lt_of_le ltc hsz))];exact ec
  ·rw [a0j (Nat.ne_of_lt (Nat.lt_of_lt_of_le (I.hok.lt q) hsz))];exact q
  ·rw [e] at e2
   exact (b2z (HO.tbl.inj (Option.some.inj e2))).symm
def trk' (as:List Addr) (os:Addr→Obj) (H:Hp):Hp:=fun b=>if b∈as then some (exA b (os b)) else H b
theorem b1r {as:List Addr} {os:Addr→Obj} {H:Hp} {b:Addr} (h:b∈as):trk' as os H b=some (exA b (os b)):=if_pos h
theorem a1s {as:List Addr} {os:Addr→Obj} {H:Hp} {b:Addr} (h:b∉as):trk' as os H b=H b:=if_neg h
section
variable {P:Program} {w:World} {H H3:Hp} {h h':Heap} {as:List Addr} {os:Addr→Obj} {fs ex:List Addr}
theorem HOk.trk (x:HOk P w H h) (n:∀ c∈as,H c=none) (g:∀ c∈as,h.get? c=some (os c)):HOk P w (trk' as os H) h:=fun a o q=>by
 by_cases z:a∈as
 ·rw [b1r z] at q;cases q
  exact a6C (g a z)
 ·rw [a1s z] at q
  have no:∀ {b:Addr} {y:HO},H b=some y→b∉as:=fun {b y} r k=>by rw [n b k] at r;cases r
  exact (x a o q).stay (fun b u _ r=>r) (fun b r=>by rw [a1s (no r)];exact r) fun b xs r=>by rw [a1s (no r)];exact r
theorem Un.untrk (u:Un fs ex (trk' as os H) H3 h h') (n:∀ c∈as,H c=none) (g:∀ c∈as,h.get? c=some (os c)) (g3:∀ c∈as,h'.get? c=some (os c)):Un fs ex H (unt as H3) h h':=by
 have no:∀ {b:Addr} {y:HO},H b=some y→b∉as:=fun {b y} r k=>by rw [n b k] at r;cases r
 refine ⟨fun b o q nb hb hx=>?_,fun b o q nb hb hx=>?_,fun b o q nb hx=>?_,fun b o q hx=>?_,fun b xs q=>?_,fun b o u' q=>?_,fun b ps q=>?_⟩
 ·by_cases z:b∈as
  ·rw [g b z] at q;cases q
   exact g3 b z
  ·exact u.keep b o q (by rw [a1s z];exact nb) hb hx
 ·by_cases z:b∈as
  ·rw [g b z] at q;cases q
   exact ⟨_,g3 b z⟩
  ·exact u.slot b o q (by rw [a1s z];exact nb) hb hx
 ·by_cases z:b∈as
  ·exact a3t z
  ·rw [a0P z];exact u.free b o q (by rw [a1s z];exact nb) hx
 ·by_cases z:b∈as
  ·exact ⟨_,g3 b z⟩
  ·exact u.there b o q hx
 ·rw [a0P (no q)];exact u.tups b xs (by rw [a1s (no q)];exact q)
 ·rw [a0P (no q)];exact u.frzs b o u' (by rw [a1s (no q)];exact q)
 ·rw [a0P (no q)];exact u.tbls b ps (by rw [a1s (no q)];exact q)
end
structure a8M (X:Cx) (cl:List (Str × Addr)):Prop where
 at':∀ q∈cl,X.env.cells.lookup q.1=some q.2
 fn:∀ q∈cl,X.fn q.1=true
 ki:∀ q∈cl,X.env.scope.names.lookup q.1=some .cell
def tCallT (X:Cx) (cl:List (Str × Addr)) (sp:Sp) (t:TA):TE:=fun σ H Q=>t σ H fun vs H1=>∀ os:Addr→Obj,(∀ (j i:Nat) (n:Str) (c:Addr) (v:V),cl[j]?=some (n,c)→X.N[i]?=some n→σ[i]?=some (some v)→∃ u,(os c).data=.cell (some u)∧a0U v u)→(∀ c∈cl.map (·.2),H1 c=none) →
 sp vs (trk' (cl.map (·.2)) os H1) (fun v H3=>(∀ c∈cl.map (·.2),H3 c=some (exA c (os c)))∧Q v (unt (cl.map (·.2)) H3)) E0
theorem b0v {X:Cx} {k:Nat} {f:Addr} {fd:FuncData} {ps:List Str} {sp:Sp} {x:Str} {p pos:Pos} {e:Expr} {es:List Expr} {t:TA} {cl:List (Str × Addr)} (F:a0O X.prog X.w X.K X.mg X.base CX0 k f fd ps sp) (hr:a1Q k X.A) (hg:Gl X x) (hm:X.mg x=some (.ref f)) (hk:PySem.W.keepIn X.K (.ref f)=true) (hb:a1E X.K fd ps []) (hc:a8M X cl)
  (ha:PA X (e :: es) t) (hdb:(x == ("__debug__":Str))=false:=by decide) (he:starEach (e :: es) X.env=(false,eval e X.env) :: starEach es X.env:=by rfl) (hpl:(backTo pos (starEach es X.env)).any (·.1)=false:=by rfl) :
  PE X (.Call (.Name x p) (e :: es) [] pos) (tCallT X cl sp t):=by
 intro pins s σ H Q I h
 refine wpAny_Call_Name_kw (a2m I hg hm ?_ hdb)
 refine PySem.W.callWith_K (h₀:=X.base) I.ok.mod.kin hk (thn (ha pos pins s σ H _ I h) fun us s1 ⟨vs,H1,I1,r,q⟩=>⟨I1.kIn,?_⟩) he hpl
 have mem:∀ c∈cl.map (·.2),∃ n,(n,c)∈cl:=fun c hc=>by
  obtain ⟨⟨n,c'⟩,h1,rfl⟩:=List.mem_map.mp hc
  exact ⟨n,h1⟩
 let os:Addr→Obj:=fun c=>(s1.heap.get? c).getD ⟨.none,none,.plain,#[]⟩
 have g:∀ c∈cl.map (·.2),s1.heap.get? c=some (os c):=fun c hc'=>by
  obtain ⟨n,hn⟩:=mem c hc'
  obtain ⟨v,o,ho,_⟩:=I1.cell n c (hc.at' _ hn)
  show _=some ((s1.heap.get? c).getD _)
  rw [ho]
  rfl
 have nn:∀ c∈cl.map (·.2),H1 c=none:=fun c hc'=>by
  obtain ⟨n,hn⟩:=mem c hc'
  exact I1.freeC n c (hc.at' _ hn)
 have above:∀ c∈cl.map (·.2),X.s₀.heap.objs.size≤c:=fun c hc'=>by
  obtain ⟨n,hn⟩:=mem c hc'
  exact I1.ok.cab n c (hc.fn _ hn) (hc.at' _ hn)
 have hq:=q os (fun j i n c v h1 h2 h3=>by
  have hmem:=List.mem_of_getElem? h1
  obtain ⟨m,hn,hl⟩:=I1.loc
  obtain ⟨u,rv,l⟩:=hl i n v h2 h3 (.inr (.inl (hc.ki _ hmem)))
  refine ⟨u,?_,rv⟩
  rcases l with ⟨hk',_⟩ | ⟨_,c0,e0,o,ho,hd⟩
  ·have z:some NameKind.cell=some .local:=(hc.ki _ hmem).symm.trans hk'
   cases z
  ·have ec:some c0=some c:=e0.symm.trans (hc.at' _ hmem)
   cases ec
   have:os c=o:=by
    show (s1.heap.get? c).getD _=o
    rw [ho]
    rfl
   rw [this]
   exact hd) nn
 have e0:=I1.env0
 have e1:a9z X.prog X.w X.K X.mg X.base X.A X.stack s1 (trk' (cl.map (·.2)) os H1):=⟨e0.frames,e0.mod,fun b o hb'=>⟨(e0.bs b o hb').1,by
  rw [a1s fun z=>Nat.lt_irrefl _ (Nat.lt_of_lt_of_le (Heap.lt_size hb') (Nat.le_trans I1.ok.bsz (above b z)))]
  exact (e0.bs b o hb').2⟩,e0.bsz,e0.funs,fun b hb'=>by
  rw [a1s fun z=>?_]
  ·exact e0.frf b hb'
  ·obtain ⟨n,hn⟩:=mem b z
   rcases List.mem_cons.mp (I1.stkSub b hb') with y | y
   ·exact I1.cne n b (hc.at' _ hn) y
   ·obtain ⟨_,o,ho,_⟩:=I1.ok.funs.mem y
    exact Nat.lt_irrefl _ (Nat.lt_of_lt_of_le (Heap.lt_size ho) (above b z)),e0.hok.trk nn g,e0.bare⟩
 have hl:(us++([]:List Value)).length=ps.length:=by rw [List.append_nil,←r.length];exact F.len _ _ _ _ hq
 have hb1:=hb s1 us I1.kIn hl
 rw [List.append_nil] at hb1
 refine wpAny_call (codeAny_mono (F.run X.A X.stack s1 _ ⟨us,[]⟩ us vs _ E0 hr e1 hb1 r hq) fun r s' hq'=>?_)
 cases r with
 | error e=>exact False.elim hq'
 | ok fl =>
  cases fl with
  | ret u =>
   obtain ⟨v,H3,os',bare,un,hok3,rv,q3,q4⟩:=hq'
   have g3:∀ c∈cl.map (·.2),s'.heap.get? c=some (os c):=fun c hc'=>(hok3 c _ (q3 c hc')).1
   exact I1.after ⟨v,unt (cl.map (·.2)) H3,os',bare,un.untrk nn g g3,hok3.unt fun a ha=>⟨_,q3 a ha⟩,rv,q4⟩
  | next=>exact False.elim hq'
  | brk=>exact False.elim hq'
  | cont=>exact False.elim hq'
theorem Fun.okC {P:Program} {w:World} {K:PySem.W.Frag} {mg:Str→Option Value} {base:Heap} {x qual:Str} {st:Stmt} {f:Addr} {fd:FuncData} {N ps:List Str} {k:Nat} {sp:Sp} (F:Fun K x qual st f fd) (S:a0n N ps (a0b st)) (len:∀ vs H Q E,sp vs H Q E→vs.length=ps.length)
  (hbody:∀ (A:Around) (outer:List Env) (s:Shared) (H:Hp) (vs:List V) (Q:VK) (E:XK),a1Q k (A.deeper (envOfC qual (a0b st) s.heap.objs.size f fd.code))→sp vs H Q E →
   ∃ t,PSs (a5v CX0 P w K mg base N qual (a0b st) f fd.code A outer s H E).nox (a0k st) t∧t { nx:=fun _ H'=>Q .non H',rt:=Q } (start N vs) H):a0O P w K mg base CX0 (k+1) f fd ps sp:=by
 obtain ⟨oc,od,kV,doc,pm,an,cdv,ct,osl,rfl,lk,hcd⟩:=F.ex
 refine b1Y lk hcd S len fun A outer s H vs Q E hr hsp=>?_
 obtain ⟨t,h,q⟩:=hbody A outer s H vs Q E hr hsp
 exact ⟨t,h.nox,q⟩
structure BMod (mg:Str→Option Value) (base:Heap) (ts:List Addr) (bm:Addr):Prop where
 hbm:mg "__builtins__"=some (.ref bm)
 bo:∃ o,base.get? bm=some o∧o.cls=.type "module"∧o.dict=some builtinsNs∧o.data=.plain
 b1:bm≠builtinsNs
 b2:bm≠mainGlobals
 b3:∀ T∈ts,bm≠T
 b4:∀ T∈ts,mainGlobals≠T
theorem a8N {P:Program} {w:World} {K:PySem.W.Frag} {mg mb:Str→Option Value} {CX:CXT} {k:Nat} {fa a:Addr} {fd:FuncData} {x:Str} {sp:Sp} {s₁:Shared} {vs:List Value} {ns:List Int} {ts:List Addr}
  (KX:K.In s₁.heap) (hns:s₁.heap.Ns mainGlobals mg) (hb:s₁.heap.Ns builtinsNs mb) (hbb:∀ x:Str,x≠"__name__"→mb x=bootBuiltins x) (hlim:s₁.heap.NoLimit) (hg:s₁.gens=#[])
  (ha:s₁.heap.get? a=some { cls:=.type "list",data:=.seq vs.toArray }) (hi:IntsAre vs ns) (hl:ns.length≤sizeLine) (hr:a1Q k callerA)
  (ht:∀ T∈ts,s₁.heap.get? T=some (PySem.W.tabObj #[])∧(∃ c,PySem.W.CodeHd s₁.heap c T)∧K.lookup T=none)
  (hbm:∃ bm ob,mg "__builtins__"=some (.ref bm)∧bm≠builtinsNs∧s₁.heap.get? bm=some ob∧ob.cls=.type "module"∧ob.dict=some builtinsNs∧ob.data=.plain)
  (F:∀ base:Heap,K.In base→base.Ns mainGlobals mg→(∃ bm,BMod mg base ts bm)→a0O P w K mg base CX k fa fd [x] sp) (hbind:∀ (s:Shared) (u:Value),BindsTo s fd ⟨[u],[]⟩ [(x,u)])
  (hsp:∀ H:Hp,(∀ T∈ts,H T=some (.tbl #[]))→SqL K H a (ns.map V.int)→sp [.ref a] H (fun v _=>v=.bl true) fun _ _ _=>False)
  (hCX:∀ H e s',CX [] H s₁ (fun _ _ _=>False) e s'→False) :
  codeAny (model P w) callerA (.call (.ref fa) ⟨[.ref a],[]⟩) (fun r s'=>r=.ok (.ret (.bool true))∧OldK s₁.heap s'.heap∧s'.os=s₁.os∧AllBare s'.gens) s₁:=by
 have rv:=a5a hi
 have lenV:=hi.length
 have core:∀ H:Hp,(∀ b,H b=none∨(∃ o xs,H b=some (.frz o (.lst xs))∧b=a)∨(H b=some (.tbl #[])∧b∈ts))→(∀ T∈ts,H T=some (.tbl #[]))→SqL K H a (ns.map V.int)→HOk P w H s₁.heap→(∀ b,H b≠none→K.lookup b=none) →
   codeAny (model P w) callerA (.call (.ref fa) ⟨[.ref a],[]⟩) (fun r s'=>r=.ok (.ret (.bool true))∧OldK s₁.heap s'.heap∧s'.os=s₁.os∧AllBare s'.gens) s₁:=by
  intro H hO hT hS hok hK
  have base_of:∀ {b:Addr} {o:Obj},s₁.heap.get? b=some o→H b=none→(a9w s₁.heap H).get? b=some o:=fun e n=>a9D e n
  have noA:∀ {b:Addr} {o:Obj} {es:Array DictEntry} {ep:Nat},s₁.heap.get? b=some o→o.data=.dict es ep→H b=none:=fun {b o es ep} e d=>by
   rcases hO b with z | ⟨_,_,_,rfl⟩ | ⟨_,hb'⟩
   ·exact z
   ·rw [ha] at e;cases e
    have d':Data.seq vs.toArray _=Data.dict es ep:=d
    cases d'
   ·rw [(ht b hb').1] at e;cases e
    have d':Data.fields #[]=Data.dict es ep:=d
    cases d'
  have nsK:∀ {b:Addr} {m:Str→Option Value},s₁.heap.Ns b m→(a9w s₁.heap H).Ns b m:=fun {b m} ⟨o,es,ep,e,d,r⟩=>⟨o,es,ep,base_of e (noA e d),d,r⟩
  have hKb:K.In (a9w s₁.heap H):=fun b o e=>base_of (KX b o e) (by
   cases q:H b with
   | none=>rfl
   | some u =>
    rw [hK b (by rw [q];simp)] at e;cases e)
  have hM:Mod K mg (a9w s₁.heap H):=⟨hKb,nsK hns,⟨mb,nsK hb,hbb⟩,let ⟨mc,h1,h2⟩:=hlim;⟨mc,nsK h1,h2⟩⟩
  have e0:a9z P w K mg (a9w s₁.heap H) callerA [] s₁ H:=⟨rfl,hM,fun b o e=>b1L e,Nat.le_of_eq (a7G _ _),trivial,fun b hb=>absurd (show b∈([]:List Addr) from hb) (by simp),hok,.of_eq hg⟩
  have hBM:∃ bm,BMod mg (a9w s₁.heap H) ts bm:=by
   obtain ⟨bm,ob,h1,h2,h3,h4,h5,h6⟩:=hbm
   have n1:bm≠a:=fun z=>by
    rw [z,ha] at h3
    cases h3
    have h4:Value.type "list"=Value.type "module":=h4
    injection h4 with e
    exact absurd e (by decide)
   have n2:∀ T∈ts,bm≠T:=fun T hT' z=>by
    rw [z,(ht T hT').1] at h3
    cases h3
    cases h6
   have ng:∀ {o:Obj},s₁.heap.get? mainGlobals=some o→∃ es ep,o.data=.dict es ep:=fun {o} e=>by
    obtain ⟨o',es,ep,e',d,_⟩:=hns
    rw [e'] at e
    cases e
    exact ⟨es,ep,d⟩
   refine ⟨bm,h1,⟨ob,base_of h3 ?_,h4,h5,h6⟩,h2,fun z=>?_,n2,fun T hT' z=>?_⟩
   ·rcases hO bm with z | ⟨_,_,_,z⟩ | ⟨_,z⟩
    ·exact z
    ·exact absurd z n1
    ·exact absurd rfl (n2 bm z)
   ·rw [z] at h3
    obtain ⟨es,ep,d⟩:=ng h3
    rw [d] at h6
    cases h6
   ·have:=(ht T hT').1
    rw [←z] at this
    obtain ⟨es,ep,d⟩:=ng this
    cases d
  refine codeAny_mono ((F _ hKb (nsK hns) hBM).run callerA [] s₁ H ⟨[.ref a],[]⟩ [.ref a] [.ref a] _ _ hr e0 (hbind s₁ (.ref a)) (.cons rfl .nil) (hsp H hT hS)) fun r s' h=>?_
  cases r with
  | error e=>exact (hCX H e s' h).elim
  | ok fl =>
   cases fl with
   | next=>exact False.elim h
   | brk=>exact False.elim h
   | cont=>exact False.elim h
   | ret u =>
    obtain ⟨v,H',os,bare,un,hok',r',q⟩:=h
    have q':v=.bl true:=q
    subst q'
    obtain rfl:u=Value.bool true:=r'
    refine ⟨rfl,⟨fun b o e=>?_,fun b o e=>un.there b o e (by simp)⟩,os,bare⟩
    rcases hO b with z | ⟨ob,xs,z,_⟩ | ⟨z,hb'⟩
    ·exact .inl (un.keep b o e z (by intro z;exact absurd (show b∈([]:List Addr) from z) (by simp)) (by simp))
    ·have z2:=un.frzs b ob _ z
     obtain ⟨e1,_⟩:=hok b _ z
     obtain ⟨e2,_⟩:=hok' b _ z2
     rw [e] at e1;cases e1
     exact .inl e2
    ·obtain ⟨more,z2⟩:=un.tbls b _ z
     have e1:s₁.heap.get? b=some (PySem.W.tabObj #[]):=(ht b hb').1
     have e2:s'.heap.get? b=some { cls:=.none,data:=.fields (#[]++more) }:=hok' b _ z2
     rw [e1] at e;cases e
     obtain ⟨c,C⟩:=(ht b hb').2.1
     exact .inr (.inl ⟨(C.tab e1).isCodeTable,rfl,#[],more,rfl,e2⟩)
 have neA:∀ T∈ts,T≠a:=fun T hT z=>by
  have e:=(ht T hT).1
  rw [z,ha] at e
  cases e
 have tOk:∀ {H:Hp} {T:Addr},T∈ts→a1d P w H s₁.heap T (.tbl #[]):=fun {H T} hT=>(ht T hT).1
 cases hk:K.lookup a with
 | some o =>
  have e:=KX a o hk
  rw [ha] at e
  cases e
  refine core (fun b=>if b∈ts then some (.tbl #[]) else none) (fun b=>?_) (fun T hT=>if_pos hT) (.inr ⟨_,vs.toArray,_,hk,rfl,rfl,rfl,by rw [List.size_toArray,lenV];exact hl,by simpa using rv⟩) (fun b u z=>?_) fun b z=>?_
  ·by_cases y:b∈ts
   ·exact .inr (.inr ⟨if_pos y,y⟩)
   ·exact .inl (if_neg y)
  ·by_cases y:b∈ts
   ·have z':=(if_pos y).symm.trans z
    cases z'
    exact tOk y
   ·have z':=(if_neg y).symm.trans z
    cases z'
  ·by_cases y:b∈ts
   ·exact (ht b y).2.2
   ·exact absurd (if_neg y) z
 | none =>
  refine core (fun b=>if b∈ts then some (.tbl #[]) else if b=a then some (.frz { cls:=.type "list",data:=.seq vs.toArray } (.lst (ns.map V.int))) else none) (fun b=>?_) (fun T hT=>if_pos hT) (.inl (.inr ⟨{ cls:=.type "list",data:=.seq vs.toArray },?_⟩)) (fun b u z=>?_) fun b z=>?_
  ·by_cases y:b∈ts
   ·exact .inr (.inr ⟨if_pos y,y⟩)
   ·by_cases hb':b=a
    ·exact .inr (.inl ⟨_,_,(if_neg y).trans (if_pos hb'),hb'⟩)
    ·exact .inl ((if_neg y).trans (if_neg hb'))
  ·exact (if_neg fun y=>neA a y rfl).trans (if_pos rfl)
  ·by_cases y:b∈ts
   ·have z':=(if_pos y).symm.trans z
    cases z'
    exact tOk y
   ·by_cases hb':b=a
    ·have z':=((if_neg y).trans (if_pos hb')).symm.trans z
     cases z'
     subst hb'
     exact ⟨ha,by rw [List.length_map];exact hl,vs,_,rv,ha⟩
    ·have z':=((if_neg y).trans (if_neg hb')).symm.trans z
     cases z'
  ·by_cases y:b∈ts
   ·exact (ht b y).2.2
   ·by_cases hb':b=a
    ·rw [hb'];exact hk
    ·exact absurd ((if_neg y).trans (if_neg hb')) z
theorem b0w {l:PySem.W.OpenLaw} {n k:Nat} {q:Program} {loose:List Str} {XP:(Str→Option Value)→Heap→Prop} {YP:World→Heap→Prop} {d:DefRec} {K:Params→PySem.W.Frag} {CX:World→CXT} {sp:World→Sp} {x:Str} {ts:List Addr}
  (hn:l.most=some n) (hn2:n≤sizeLine) (hdf:d.params.defaults=[]) (hr:a1Q k callerA)
  (hY:∀ (w:World) (h:Heap),YP w h→(K w.params).In h∧∀ T∈ts,h.get? T=some (PySem.W.tabObj #[]))
  (hT:∀ (w:World),∀ T∈ts,(∃ c,PySem.W.codeHdIn (K w.params) c T=true)∧(K w.params).lookup T=none)
  (F:∀ (w:World) (mg:Str→Option Value) (fa:Addr) (h:Heap),(K w.params).In h→h.Ns mainGlobals mg→mg d.name=some (.ref fa) →
   ∃ fd:FuncData,(∀ (s:Shared) (u:Value),BindsTo s fd ⟨[u],[]⟩ [(x,u)]) ∧
    ∀ base:Heap,(K w.params).In base→base.Ns mainGlobals mg→(∃ bm,BMod mg base ts bm)→a0O l.prog w (K w.params) mg base (CX w) k fa fd [x] (sp w))
  (hsp:∀ (w:World) (H:Hp) (a:Addr) (ns:List Int),ns.length≤n→(∀ T∈ts,H T=some (.tbl #[]))→SqL (K w.params) H a (ns.map V.int)→sp w [.ref a] H (fun v _=>v=.bl true) fun _ _ _=>False)
  (hCX:∀ (w:World) (H:Hp) (s:Shared) (e:Value) (s':Shared),CX w [] H s (fun _ _ _=>False) e s'→False) :
  PySem.W.WalkO q loose XP YP l.row.toRowW d [] (fun f vs=>PySem.call f vs):=by
 refine Att.a5D hn hdf fun w s₀ s₁ mg mb fa o pm cd doc a vs ns G Y ho hd hcd hmg hobj hints hlen hg=>?_
 obtain ⟨KX,KT⟩:=hY w _ Y
 obtain ⟨fd,hb,hF⟩:=F w mg fa _ KX G.T.g hmg
 exact a8N KX G.T.g G.T.b G.T.builtins G.T.nolimit hg hobj hints (Nat.le_trans hlen hn2) hr (fun T hT'=>⟨KT T hT',(let ⟨c,e⟩:=(hT w T hT').1;⟨c,PySem.W.codeHd_of_K KX e⟩),(hT w T hT').2⟩) G.T.bmain hF hb (fun H hO hS=>hsp w H a ns hlen hO hS) fun H e s'=>hCX w H s₁ e s'
theorem eqs_of {α:Type} [DecidableEq α] {X:Cx} {pins:List (Addr × Obj)} {s:Shared} {σ:St} {H:Hp} {n:Nat} {R:V→α→Prop} (I:Inv X pins σ H s) (EK:EqK H s n R) (hr:∀ x a,R x a→∃ b,x=.ref b) {A:Around} (hA:A.units+n < cLine) {x:V} {v:Value} {u:α} {xs:List V} {its:List Value} {ws:List α} (hx:R x u) (rx:a0U x v) (r:a0K xs its) (hw:Paired R xs ws) :
  ∃ e:Value→Bool,(∀ z∈its,SeqAt.EqAt A s z v (e z))∧∀ (i:Nat) (z:Value),its[i]?=some z→e z=decide (ws[i]?=some u):=by
 have li:xs.length=its.length:=r.length
 have one:∀ (i:Nat) (z:Value),its[i]?=some z→∃ wd,ws[i]?=some wd∧(∃ xi,R xi wd∧a0U xi z):=fun i z hi=>by
  have il:i < its.length:=(List.getElem?_eq_some_iff.mp hi).1
  have hxi:xs[i]?=some (xs[i]'(by omega)):=List.getElem?_eq_getElem _
  obtain ⟨wd,hwd,rw'⟩:=Paired.right_of hw i _ hxi
  obtain ⟨z',hz',rz⟩:=r.get hxi
  rw [hi] at hz'
  cases hz'
  exact ⟨wd,hwd,_,rw',rz⟩
 refine ⟨fun z=>@decide (∃ i:Nat,its[i]?=some z∧ws[i]?=some u) (Classical.propDecidable _),?_⟩
 have val:∀ (i:Nat) (z:Value) (wd:α),its[i]?=some z→ws[i]?=some wd→@decide (∃ i:Nat,its[i]?=some z∧ws[i]?=some u) (Classical.propDecidable _)=decide (wd=u):=fun i z wd hi hwd=>by
  rw [Bool.eq_iff_iff]
  simp only [decide_eq_true_eq]
  refine ⟨fun ⟨j,h1,h2⟩=>?_,fun h=>⟨i,hi,by rw [hwd,h]⟩⟩
  obtain ⟨w1,e1,x1,p1,q1⟩:=one i z hi
  obtain ⟨w2,e2,x2,p2,q2⟩:=one j z h1
  rw [hwd] at e1
  rw [h2] at e2
  cases e1
  cases e2
  obtain ⟨a1,rfl⟩:=hr _ _ p1
  obtain ⟨a2,rfl⟩:=hr _ _ p2
  have g1:z=.ref a1:=q1
  have g2:z=.ref a2:=q2
  rw [g1] at g2
  cases g2
  exact EK.inj _ _ _ p1 p2
 refine ⟨fun z hz=>?_,fun i z hi=>?_⟩
 ·obtain ⟨i,hi⟩:=List.mem_iff_getElem?.mp hz
  obtain ⟨wd,hwd,xi,p,rz⟩:=one i z hi
  show SeqAt.EqAt A s z v (@decide _ (Classical.propDecidable _))
  rw [val i z wd hi hwd]
  exact EK.eq A _ _ wd u z v hA p hx rz rx
 ·obtain ⟨wd,hwd,_⟩:=one i z hi
  show @decide _ (Classical.propDecidable _)=_
  rw [val i z wd hi hwd,hwd]
  rw [Bool.eq_iff_iff]
  simp
def rNotInLL:R2:=fun x y H Q=>∃ (c:Addr) (xs:List V) (cs:List (List (List Int))) (u:List (List Int)),y=.ref c∧RLst H (a9A H a7g) x u∧H c=some (.lst xs)∧Paired (RLst H (a9A H a7g)) xs cs∧Q (.bl (!decide (u∈cs))) H
def a2a:List Expr→Option (List (Int × Int))
 | []=>some []
 | .Tuple [.Constant (.int i) _ _,.Constant (.int j) _ _] _ _ :: es=>(a2a es).map fun qs=>(i,j) :: qs
 | _ :: _=>none
def tPs:List (Int × Int)→TA
 | []=>b3p
 | q :: qs=>a6Y (tTup (a6Y (tC (.int q.1)) (a6Y (tC (.int q.2)) b3p))) (tPs qs)
theorem a7t {e:Expr} {es:List Expr} {qs:List (Int × Int)} (h:a2a (e :: es)=some qs):∃ i j k1 p1 k2 p2 k p qs',e=.Tuple [.Constant (.int i) k1 p1,.Constant (.int j) k2 p2] k p∧a2a es=some qs'∧qs=(i,j) :: qs':=by
 unfold a2a at h
 split at h
 ·rename_i heq
  cases heq
 ·rename_i heq
  cases heq
  cases hq:a2a es with
  | none=>rw [hq] at h;cases h
  | some qs'=>rw [hq] at h;cases h;exact ⟨_,_,_,_,_,_,_,_,qs',rfl,rfl,rfl⟩
 ·cases h
section
variable {X:Cx}
theorem a6E:∀ {es:List Expr} {qs:List (Int × Int)},a2a es=some qs→PA X es (tPs qs)
 | [],qs,h=>by cases h;exact a0d
 | e :: es,qs,h=>by
  obtain ⟨i,j,k1,p1,k2,p2,k,p,qs',rfl,h2,rfl⟩:=a7t h
  exact a0a (a1h (a0a a0g (a0a a0g a0d (by rfl)) (by rfl))) (a6E h2) (by rfl)
def RPr (H:Hp) (x:V) (q:Int × Int):Prop:=∃ t,x=.ref t∧H t=some (.tup [.int q.1,.int q.2])
theorem b1s:∀ (qs:List (Int × Int)) {σ:St} {H:Hp} {Q:List V→Hp→Prop},(∀ ts H',a0x H H'→Paired (RPr H') ts qs→Q ts H')→tPs qs σ H Q
 | [],σ,H,Q,h=>h [] H (a0x.refl _) .nil
 | q :: qs,σ,H,Q,h=>by
  refine ⟨(by show 2≤sizeLine;decide),fun p hp=>b1s qs fun ts H' s pp=>?_⟩
  exact h _ H' ((a0e hp _).trans s) (.cons ⟨p,rfl,s _ _ a0c⟩ pp)
def tPrs (qs:List (Int × Int)):TE:=fun _ H Q=>qs.length≤1000∧∀ d ts H',a0x H H'→H d=none→H' d=some (.lst ts)→Paired (RPr H') ts qs→Q (.ref d) H'
theorem b0x {es:List Expr} {pos:Pos} {qs:List (Int × Int)} (h:a2a es=some qs:=by rfl):PE X (.List es pos) (tPrs qs):=by
 refine (a0N (a6E h)).imp fun σ H Q q=>?_
 obtain ⟨l,q⟩:=q
 refine b1s qs fun ts H1 s pp=>⟨Nat.le_of_lt (a0s (by rw [pp.length];exact l)),fun d hd=>?_⟩
 have s2:=a0e hd (.lst ts)
 exact q d ts _ (s.trans s2) (s.free hd) a0c (Paired.mapP pp fun _ _ ⟨t,e,g⟩=>⟨t,e,s2 _ _ g⟩)
end
end L2
namespace K66
open PySem L2
abbrev OI:=Option Int
def lo (xs:List OI):OI:=if xs.filterMap id=[] then none else some ((srt (xs.filterMap id)).headD 0)
def oadd:OI→OI→OI
 | some a,some b=>some (a+b)
 | _,_=>none
theorem a3v {xs:List OI} {k:Int}:k∈xs.filterMap id↔some k∈xs:=by
 rw [List.mem_filterMap]
 constructor
 ·rintro ⟨a,h,e⟩
  have e':a=some k:=e
  rw [←e'];exact h
 ·intro h
  exact ⟨some k,h,rfl⟩
theorem a8O {ns:List Int} (h:ns≠[]):(srt ns).headD 0∈ns∧∀ x∈ns,(srt ns).headD 0≤x:=by
 have p:=a6A ns
 have r:=a5f ns
 cases e:srt ns with
 | nil =>
  rw [e] at p
  exact absurd p.symm.eq_nil h
 | cons a t =>
  rw [e] at p r
  refine ⟨p.mem_iff.mp (.head _),fun x hx=>?_⟩
  show a≤x
  rcases List.mem_cons.mp (p.symm.mem_iff.mp hx) with z | z
  ·rw [z];exact Int.le_refl _
  ·exact (List.pairwise_cons.mp r).1 x z
theorem a1t {xs:List OI} {m:Int}:lo xs=some m↔some m∈xs∧∀ k,some k∈xs→m≤k:=by
 unfold lo
 split
 ·rename_i h
  constructor
  ·intro z;cases z
  ·rintro ⟨z,_⟩
   have:=a3v.mpr z
   rw [h] at this
   cases this
 ·rename_i h
  obtain ⟨h1,h2⟩:=a8O h
  constructor
  ·intro z
   cases z
   exact ⟨a3v.mp h1,fun k hk=>h2 k (a3v.mpr hk)⟩
  ·rintro ⟨z1,z2⟩
   have a1:=h2 m (a3v.mpr z1)
   have a2:=z2 _ (a3v.mp h1)
   congr 1
   omega
theorem a1K {xs:List OI}:lo xs=none↔∀ k,some k∉xs:=by
 unfold lo
 split
 ·rename_i h
  refine ⟨fun _ k hk=>?_,fun _=>rfl⟩
  have:=a3v.mpr hk
  rw [h] at this
  cases this
 ·rename_i h
  refine ⟨fun z=>(by cases z),fun z=>?_⟩
  exact absurd (a3v.mp (a8O h).1) (z _)
theorem lo_eq {xs ys:List OI} (h1:∀ m,some m∈xs→∃ k,k≤m∧some k∈ys) (h2:∀ m,some m∈ys→∃ k,k≤m∧some k∈xs):lo xs=lo ys:=by
 cases e:lo ys with
 | none =>
  rw [a1K] at e ⊢
  intro k hk
  obtain ⟨k',_,h⟩:=h1 k hk
  exact e k' h
 | some m =>
  rw [a1t] at e ⊢
  obtain ⟨k,hk,hm⟩:=h2 m e.1
  obtain ⟨k',hk',hm'⟩:=h1 k hm
  have:=e.2 k' hm'
  have ek:k=m:=by omega
  subst ek
  refine ⟨hm,fun x hx=>?_⟩
  obtain ⟨y,hy,hy'⟩:=h1 x hx
  have:=e.2 y hy'
  omega
theorem b0y {xs:List OI} {k:Int} (h:some k∈xs):∃ m,lo xs=some m∧m≤k:=by
 cases e:lo xs with
 | none=>exact absurd h (a1K.mp e k)
 | some m=>exact ⟨m,rfl,(a1t.mp e).2 k h⟩
theorem a5g (xs ys:List OI):lo (xs++ys)=lo [lo xs,lo ys]:=by
 refine lo_eq (fun m hm=>?_) (fun m hm=>?_)
 ·rcases List.mem_append.mp hm with h | h
  ·obtain ⟨k,e,hk⟩:=b0y h
   exact ⟨k,hk,by rw [e];exact .head _⟩
  ·obtain ⟨k,e,hk⟩:=b0y h
   exact ⟨k,hk,by rw [e];exact .tail _ (.head _)⟩
 ·simp only [List.mem_cons,List.not_mem_nil,or_false] at hm
  rcases hm with h | h
  ·exact ⟨m,Int.le_refl _,List.mem_append.mpr (.inl (a1t.mp h.symm).1)⟩
  ·exact ⟨m,Int.le_refl _,List.mem_append.mpr (.inr (a1t.mp h.symm).1)⟩
theorem a3w {α:Type} (xs:List α) (f:α→List OI):lo (xs.flatMap f)=lo (xs.map fun x=>lo (f x)):=by
 refine lo_eq (fun m hm=>?_) (fun m hm=>?_)
 ·obtain ⟨x,hx,h⟩:=List.mem_flatMap.mp hm
  obtain ⟨k,e,hk⟩:=b0y h
  exact ⟨k,hk,List.mem_map.mpr ⟨x,hx,e⟩⟩
 ·obtain ⟨x,hx,h⟩:=List.mem_map.mp hm
  exact ⟨m,Int.le_refl _,List.mem_flatMap.mpr ⟨x,hx,(a1t.mp h).1⟩⟩
theorem lo_add (a:Int) (xs:List OI):oadd (some a) (lo xs)=lo (xs.map (oadd (some a))):=by
 cases e:lo xs with
 | none =>
  symm
  show lo _=none
  rw [a1K] at e ⊢
  intro k hk
  obtain ⟨x,hx,h⟩:=List.mem_map.mp hk
  cases x with
  | none=>cases h
  | some y=>exact e y hx
 | some m =>
  symm
  show lo _=some (a+m)
  rw [a1t] at e ⊢
  refine ⟨List.mem_map.mpr ⟨some m,e.1,rfl⟩,fun k hk=>?_⟩
  obtain ⟨x,hx,h⟩:=List.mem_map.mp hk
  cases x with
  | none=>cases h
  | some y =>
   have:=e.2 y hx
   cases h
   omega
theorem a8P (x:OI) (xs:List OI):oadd x (lo xs)=lo (xs.map (oadd x)):=by
 cases x with
 | some a=>exact lo_add a xs
 | none =>
  symm
  show lo _=none
  rw [a1K]
  intro k hk
  obtain ⟨x,hx,h⟩:=List.mem_map.mp hk
  cases h
theorem b1t (x:OI):lo [x]=x:=by
 cases x with
 | none=>exact a1K.mpr fun k hk=>by simp at hk
 | some m=>exact a1t.mpr ⟨.head _,fun k hk=>by simp at hk;omega⟩
theorem a6F:lo []=none:=a1K.mpr fun k hk=>by cases hk
abbrev Pa:=List (Nat × Nat × Nat)
def P:Nat→Nat→Nat→Nat→List Pa
 | 0,_,i,j=>if i=j then [[]] else []
 | m+1,l,i,j=>if i=j then [[]] else ((List.range (j - i)).flatMap fun b=>(P m (l+1) (i+b+1) j).map fun r=>(i,i+b+1,l) :: r)++P m (l+1) i j
theorem b1u (m l i j:Nat):P (m+1) l i j=if i=j then [[]] else ((List.range (j - i)).flatMap fun b=>(P m (l+1) (i+b+1) j).map fun r=>(i,i+b+1,l) :: r)++P m (l+1) i j:=rfl
theorem a6G (m l i:Nat):P m l i i=[[]]:=by
 cases m <;> (unfold P;rw [if_pos rfl])
section
variable (p:Nat→Int) (W:Nat→Nat→Int) (F:Nat→Nat→OI)
def part (q:Nat × Nat × Nat):OI:=oadd (some (p q.2.2 * W q.1 q.2.1)) (F q.1 q.2.1)
def cost:Pa→OI
 | []=>some 0
 | q :: r=>oadd (part p W F q) (cost r)
structure Eqs (L:Nat) (h t:Nat→Nat→Nat→OI) (i j:Nat):Prop where
 eh:∀ l,l < L→h l i j=oadd (some (p l * W i j)) (F i j)
 et:∀ l,l < L→t l i j=lo [lo ((List.range (j - i)).map fun b=>oadd (h l i (i+b+1)) (t (l+1) (i+b+1) j)),t (l+1) i j]
variable {p W F} {L n:Nat} {h t:Nat→Nat→Nat→OI}
theorem a3x {i0:Nat} (dg:∀ l i,l≤L→i≤n→t l i i=some 0) (ed:∀ i j,i < j→j≤n→t L i j=none) (eq:∀ i j,i0≤i→i < j→j≤n→Eqs p W F L h t i j) :
  ∀ m l i j,l+m=L→i0≤i→i≤j→j≤n→t l i j=lo ((P m l i j).map fun r=>cost p W F r)
 | 0,l,i,j,hl,h0,hij,hj=>by
  have el:l=L:=by omega
  subst el
  by_cases e:i=j
  ·subst e
   rw [dg l i (Nat.le_refl _) hj,a6G]
   exact (b1t _).symm
  ·rw [ed i j (by omega) hj]
   unfold P
   rw [if_neg e]
   exact a6F.symm
 | m+1,l,i,j,hl,h0,hij,hj=>by
  by_cases e:i=j
  ·subst e
   rw [dg l i (by omega) hj,a6G]
   exact (b1t _).symm
  ·have E:=eq i j h0 (by omega) hj
   rw [E.et l (by omega)]
   unfold P
   rw [if_neg e,List.map_append,a5g,←a3x dg ed eq m (l+1) i j (by omega) h0 hij hj]
   congr 2
   rw [List.map_flatMap,a3w]
   congr 1
   refine List.map_congr_left fun b hb=>?_
   have hb':=List.mem_range.mp hb
   rw [(eq i (i+b+1) h0 (by omega) (by omega)).eh l (by omega),a3x dg ed eq m (l+1) (i+b+1) j (by omega) (by omega) (by omega) hj,a8P,List.map_map,List.map_map]
   congr 1
def bnd (L:Nat) (h t:Nat→Nat→Nat→OI) (i j:Nat):OI:=if j - i=1 then some 0 else lo ((List.range L).map fun l=>lo ((List.range (j - 1 - i)).map fun b=>oadd (h l i (i+b+1)) (t (l+1) (i+b+1) j)))
theorem P_ne {m l i j:Nat} (hij:i < j):∀ r∈P m l i j,r≠[]:=by
 induction m generalizing l i with
 | zero =>
  intro r hr
  unfold P at hr
  rw [if_neg (by omega)] at hr
  cases hr
 | succ m ih =>
  intro r hr
  unfold P at hr
  rw [if_neg (by omega)] at hr
  rcases List.mem_append.mp hr with z | z
  ·obtain ⟨b,_,z⟩:=List.mem_flatMap.mp z
   obtain ⟨r',_,rfl⟩:=List.mem_map.mp z
   intro y;cases y
  ·exact ih hij r z
theorem P_some {m l i j:Nat} (hij:i < j):P (m+1) l i j≠[]:=by
 unfold P
 rw [if_neg (by omega)]
 intro z
 have z1:=(List.append_eq_nil_iff.mp z).1
 have:(i,i+(j - i - 1)+1,l) :: []∈(List.range (j - i)).flatMap fun b=>(P m (l+1) (i+b+1) j).map fun r=>(i,i+b+1,l) :: r:=by
  refine List.mem_flatMap.mpr ⟨j - i - 1,List.mem_range.mpr (by omega),List.mem_map.mpr ⟨[],?_,rfl⟩⟩
  rw [show i+(j - i - 1)+1=j by omega,a6G]
  exact .head _
 rw [z1] at this
 cases this
theorem a6H {i j:Nat} (hij:i < j):∀ m l,(P m l i j).filter (fun r=>decide (1 < r.length))=(List.range m).flatMap fun a=>(List.range (j - 1 - i)).flatMap fun b=>(P (m - 1 - a) (l+a+1) (i+b+1) j).map fun r=>(i,i+b+1,l+a) :: r
 | 0,l=>by
  unfold P
  rw [if_neg (by omega)]
  rfl
 | m+1,l=>by
  have ih:=a6H hij m (l+1)
  rw [b1u m l i j,if_neg (by omega),List.filter_append,ih,List.range_succ_eq_map,List.flatMap_cons,List.flatMap_map]
  congr 1
  ·rw [show j - i=(j - 1 - i)+1 by omega,List.range_succ,List.flatMap_append,List.filter_append]
   have e2:([j - 1 - i].flatMap fun b=>(P m (l+1) (i+b+1) j).map fun r=>(i,i+b+1,l) :: r).filter (fun r=>decide (1 < r.length))=[]:=by
    rw [List.flatMap_cons,List.flatMap_nil,List.append_nil,show i+(j - 1 - i)+1=j by omega,a6G]
    rfl
   rw [e2,List.append_nil,List.filter_eq_self.mpr]
   ·rfl
   ·intro r hr
    obtain ⟨b,hb,z⟩:=List.mem_flatMap.mp hr
    obtain ⟨r',hr',rfl⟩:=List.mem_map.mp z
    have hb':=List.mem_range.mp hb
    have:=P_ne (by omega) r' hr'
    rw [decide_eq_true_eq,List.length_cons]
    have:=List.length_pos_iff.mpr this
    omega
  ·refine congrArg (fun f=>(List.range m).flatMap f) (funext fun a=>?_)
   show _=(List.range (j - 1 - i)).flatMap fun b=>(P (m+1 - 1 - (a+1)) (l+(a+1)+1) (i+b+1) j).map fun r=>(i,i+b+1,l+(a+1)) :: r
   rw [show m+1 - 1 - (a+1)=m - 1 - a by omega,show l+(a+1)=l+1+a by omega]
theorem b0z {i j:Nat} (dg:∀ l i,l≤L→i≤n→t l i i=some 0) (ed:∀ i j,i < j→j≤n→t L i j=none) (hh:∀ l c,l < L→i < c→c < j→h l i c=oadd (some (p l * W i c)) (F i c)) (eq:∀ a b,i+1≤a→a < b→b≤n→Eqs p W F L h t a b) (hij:i+1 < j) (hj:j≤n) :
  bnd L h t i j=lo (((P L 0 i j).filter fun r=>decide (1 < r.length)).map fun r=>cost p W F r):=by
 unfold bnd
 rw [if_neg (by omega),a6H (by omega),List.map_flatMap,a3w]
 congr 1
 refine List.map_congr_left fun l hl=>?_
 have hl':=List.mem_range.mp hl
 rw [List.map_flatMap,a3w]
 congr 1
 refine List.map_congr_left fun b hb=>?_
 have hb':=List.mem_range.mp hb
 rw [hh l (i+b+1) hl' (by omega) (by omega),a3x dg ed eq (L - 1 - l) (l+1) (i+b+1) j (by omega) (by omega) (by omega) hj,a8P,List.map_map,List.map_map,Nat.zero_add]
 congr 1
theorem b2A {L i j:Nat} (hL:2≤L) (hij:i+1 < j):(P L 0 i j).filter (fun r=>decide (1 < r.length))≠[]:=by
 rw [a6H (by omega)]
 obtain ⟨L,rfl⟩:∃ K,L=K+2:=⟨L - 2,by omega⟩
 intro z
 have h1:P (L+1) 1 (i+1) j≠[]:=P_some (by omega)
 obtain ⟨r,hr⟩:=List.exists_mem_of_ne_nil _ h1
 have:(i,i+0+1,0) :: r∈(List.range (L+2)).flatMap fun a=>(List.range (j - 1 - i)).flatMap fun b=>(P (L+2 - 1 - a) (0+a+1) (i+b+1) j).map fun r=>(i,i+b+1,0+a) :: r:=by
  refine List.mem_flatMap.mpr ⟨0,List.mem_range.mpr (by omega),List.mem_flatMap.mpr ⟨0,List.mem_range.mpr (by omega),List.mem_map.mpr ⟨r,?_,rfl⟩⟩⟩
  exact hr
 rw [z] at this
 cases this
end
theorem P_in:∀ m l i j,i≤j→∀ r∈P m l i j,∀ q∈r,i≤q.1∧q.1 < q.2.1∧q.2.1≤j∧l≤q.2.2∧q.2.2 < l+m
 | 0,l,i,j,h,r,hr,q,hq=>by
  unfold P at hr
  split at hr
  ·rw [List.mem_singleton.mp hr] at hq;cases hq
  ·cases hr
 | m+1,l,i,j,h,r,hr,q,hq=>by
  rw [b1u] at hr
  split at hr
  ·rw [List.mem_singleton.mp hr] at hq;cases hq
  ·rcases List.mem_append.mp hr with z | z
   ·obtain ⟨b,hb,z⟩:=List.mem_flatMap.mp z
    have hb':=List.mem_range.mp hb
    obtain ⟨r',hr',rfl⟩:=List.mem_map.mp z
    rcases List.mem_cons.mp hq with y | y
    ·rw [y];exact ⟨Nat.le_refl _,by show i < i+b+1;omega,by show i+b+1≤j;omega,Nat.le_refl _,by show l < l+(m+1);omega⟩
    ·have:=P_in m (l+1) (i+b+1) j (by omega) r' hr' q y
     omega
   ·have:=P_in m (l+1) i j h r z q hq
    omega
theorem b2B {L i j:Nat} (hij:i < j):∀ r∈(P L 0 i j).filter (fun r=>decide (1 < r.length)),∀ q∈r,i≤q.1∧q.1 < q.2.1∧q.2.1≤j∧q.2.1 - q.1 < j - i∧q.2.2 < L:=fun r hr q hq=>by
 have hP:=P_in L 0 i j (by omega) r (List.mem_filter.mp hr).1 q hq
 rw [a6H hij] at hr
 obtain ⟨a,ha,z⟩:=List.mem_flatMap.mp hr
 obtain ⟨b,hb,z⟩:=List.mem_flatMap.mp z
 have hb':=List.mem_range.mp hb
 obtain ⟨r',hr',rfl⟩:=List.mem_map.mp z
 rcases List.mem_cons.mp hq with y | y
 ·rw [y] at hP ⊢
  exact ⟨Nat.le_refl _,by show i < i+b+1;omega,by show i+b+1≤j;omega,by show i+b+1 - i < j - i;omega,by have:=hP.2.2.2.2;omega⟩
 ·have:=P_in _ _ _ j (by omega) r' hr' q y
  omega
def top (i:Nat):Stmt:=PySem.Challenge.pw_lettertoll_k66_no_stretches.main.body.getD i (.Pass ⟨0,0,0,0⟩)
def a5T (n:Nat):Stmt→Stmt
 | .ClassDef _ _ _ b ..=>b.getD n (.Pass ⟨0,0,0,0⟩)
 | s=>s
abbrev a7u:Stmt:=top 19
abbrev b3s:Stmt:=top 20
abbrev a2o:Stmt:=top 21
abbrev a3y:Stmt:=top 22
abbrev a3Y:Stmt:=top 23
abbrev sPl:Stmt:=top 25
abbrev sPw:Stmt:=top 26
abbrev sLf:Stmt:=top 28
abbrev sCk:Stmt:=top 29
abbrev sKw:Stmt:=top 30
abbrev b3t:Stmt:=top 31
abbrev a3z:Stmt:=top 10
abbrev a2p:Stmt:=top 11
abbrev a2O:Stmt:=top 12
abbrev a3Z:Stmt:=top 14
abbrev a3A:Stmt:=top 15
abbrev a2P:Stmt:=top 16
abbrev a3B:Stmt:=top 17
abbrev sIs:Stmt:=top 9
abbrev sPM:Stmt:=top 33
abbrev sWM:Stmt:=top 34
abbrev sRL:Stmt:=top 35
abbrev sRT:Stmt:=top 36
abbrev sWN:Stmt:=top 37
abbrev sPS:Stmt:=top 38
abbrev sWS:Stmt:=top 39
abbrev sEt:Stmt:=top 42
abbrev sBe:Stmt:=top 43
abbrev sSo:Stmt:=top 44
abbrev sBo:Stmt:=top 45
abbrev b3u:Stmt:=top 46
abbrev b3v:Stmt:=top 47
abbrev a7v:Stmt:=top 51
abbrev a2Q:Stmt:=top 52
abbrev a2g:Stmt:=top 53
abbrev a2b:Stmt:=top 54
abbrev a5h:Stmt:=top 55
abbrev a3C:Stmt:=top 56
abbrev a3D:Stmt:=top 57
abbrev a5U:Stmt:=top 58
abbrev a2Z:Stmt:=top 59
abbrev b0A:Stmt:=top 64
abbrev a2c:Stmt:=a5T 0 (top 24)
abbrev b3w:Stmt:=a5T 1 (top 24)
abbrev sLs:Stmt:=a5T 2 (top 24)
abbrev a3E:Stmt:=a5T 3 (top 24)
abbrev a5V:Stmt:=a5T 4 (top 24)
abbrev a2q:Stmt:=a5T 5 (top 24)
abbrev a7w:Stmt:=a5T 6 (top 24)
abbrev iPm:Stmt:=a5T 0 (top 40)
abbrev b3x:Stmt:=a5T 1 (top 40)
abbrev a4a:Stmt:=a5T 2 (top 40)
abbrev sAt:Stmt:=a5T 3 (top 40)
abbrev iWm:Stmt:=a5T 0 (top 41)
abbrev a7x:Stmt:=a5T 1 (top 41)
abbrev a2R:Stmt:=a5T 2 (top 41)
abbrev b3y:Stmt:=a5T 3 (top 41)
def oV:OI→V
 | none=>.non
 | some i=>.int i
section
variable {P:Program} {w:World} {K:PySem.W.Frag} {mg:Str→Option Value} {base:Heap} {f:Addr} {fd:FuncData}
def sums (ws:List Int) (k:Nat):List Int:=(List.range (k+1)).map fun i=>(ws.take i).sum
def a8Q:Sp:=fun vs H Q _=>∃ (q:Addr) (ws:List Int),vs=[.ref q]∧TW H q ws∧ws.length≤100∧∀ (p:Addr) H',a0x H H'→H p=none→H' p=some (.lst ((sums ws ws.length).map V.int))→Q (.ref p) H'
theorem a8R:a0n ["weights","sums","weight"] ["weights"] (a0b a7u):=⟨rfl,rfl,rfl,by decide +kernel,rfl,by decide +kernel,by decide +kernel⟩
theorem a8S {ws:List Int} {k:Nat}:sums ws (k+1)=sums ws k++[(ws.take (k+1)).sum]:=by
 unfold sums
 rw [List.range_succ (n:=k+1),List.map_append]
 rfl
theorem a8T {ws:List Int} {k:Nat}:∃ xs,sums ws k=xs++[(ws.take k).sum]:=by
 unfold sums
 rw [List.range_succ,List.map_append]
 exact ⟨_,rfl⟩
theorem b0B {ws:List Int} {k:Nat}:(sums ws k).length=k+1:=by unfold sums;rw [List.length_map,List.length_range]
theorem b2C (F:Fun K "weight_sums" "weight_sums" a7u f fd):a0O P w K mg base CX0 1 f fd ["weights"] a8Q:=by
 refine F.ok (k:=0) a8R (fun vs H Q E h=>?_) (fun cdv A outer s H vs Q E hr h=>?_)
 ·obtain ⟨q,ws,rfl,_⟩:=h
  rfl
 obtain ⟨q,ws,rfl,hq,l1,qq⟩:=h
 refine ⟨_,a0f (a0t (i:=1) a8R.nd rfl (Or.inl rfl) (a0N (a0a a0g a0d)))
  (a0f (a1l PassesOwn.never rfl (a7L (pv 0)) (a0H (i:=2) a8R.nd rfl (Or.inl rfl))
   (a0h (a1c (a4W PySem.F.plainAttrs_list PySem.F.slot_list_append PySem.F.type_list_append a1U (pv 1) (a0a (a0p a0I (a0y a0w (pv 1) (a2x a1z a0g) (fun _ _=>rfl)) (pv 2)) a0d)))))
  (a0h (a0r (pv 1)))),?_⟩
 refine ⟨(by show 1≤sizeLine;decide),fun l hl=>?_⟩
 have s1:=a0e hl (.lst [.int 0])
 have g1:upd H l (.lst [.int 0]) l=some (.lst ((sums ws 0).map V.int)):=a0c
 generalize upd H l (.lst [.int 0])=H1 at s1 g1 ⊢
 refine ⟨_,rfl,q,rfl,⟨_,SqT.of (s1 _ _ hq)⟩,?_⟩
 refine a7N (xs:=ws.map V.int) (fun i σ H'=>a0x H H'∧H' l=some (.lst ((sums ws i).map V.int))∧∃ x2:Option V,σ=[some (.ref q),some (.ref l),x2]) ⟨s1,g1,_,rfl⟩ (fun i σ H' _ hP=>SqT.of (hP.1 _ _ hq)) (fun i x σ H2 hx hP=>?_) (fun σ H2 hP=>?_)
 ·obtain ⟨s2,g2,x2,rfl⟩:=hP
  have il:=(List.getElem?_eq_some_iff.mp hx).1
  rw [List.length_map] at il
  rw [List.getElem?_map] at hx
  obtain ⟨z,hz,rfl⟩:=Option.map_eq_some_iff.mp hx
  obtain ⟨xs,ex⟩:=a8T (ws:=ws) (k:=i)
  refine ⟨_,rfl,.inl ⟨rfl,_,SqL.of g2⟩,_,rfl,_,rfl,l,_,_,_,rfl,rfl,SqL.of g2,(by rw [ex,List.map_append];exact a4t _ _),_,rfl,_,_,rfl,rfl,l,_,_,rfl,rfl,g2,a0s (by rw [List.length_map,b0B];omega),a0v hl s2,?_,_,rfl⟩
  rw [a0c,a8S,List.map_append,List.take_add_one,hz]
  simp
 ·obtain ⟨s2,g2,x2,rfl⟩:=hP
  rw [List.length_map] at g2
  exact ⟨_,rfl,qq l H2 s2 hl g2⟩
def b2D (s i:Nat) (o:OI):List V:=(List.range s).map fun j=>oV (if j=i then o else none)
theorem b2E {s i:Nat} {o:OI}:(List.replicate s V.non).set i (oV o)=b2D s i o:=by
 refine List.ext_getElem? fun j=>?_
 unfold b2D
 rw [List.getElem?_map]
 by_cases hj:j < s
 ·rw [List.getElem?_range hj]
  by_cases e:i=j
  ·subst e
   rw [List.getElem?_set_self (by rw [List.length_replicate];exact hj)]
   simp
  ·rw [List.getElem?_set_ne e,List.getElem?_replicate,if_pos hj]
   show some V.non=some (oV (if j=i then o else none))
   rw [if_neg (fun z=>e z.symm)]
   rfl
 ·rw [List.getElem?_eq_none (by rw [List.length_set,List.length_replicate];omega),List.getElem?_eq_none (by rw [List.length_range];omega)]
  rfl
theorem b0C (n:Nat):(List.replicate n [V.non]).flatten=List.replicate n V.non:=by
 induction n with
 | zero=>rfl
 | succ n ih=>rw [List.replicate_succ,List.flatten_cons,ih,List.replicate_succ];rfl
def b2F:Sp:=fun vs H Q _=>∃ (s i:Nat) (o:OI),vs=[.int (s:Int),.int (i:Int),oV o]∧i < s∧s≤100∧∀ (p:Addr) H',a0x H H'→H p=none→H' p=some (.lst (b2D s i o))→Q (.ref p) H'
theorem scRow:a0n ["side","at","number","row"] ["side","at","number"] (a0b b3s):=⟨rfl,rfl,rfl,by decide +kernel,rfl,by decide +kernel,by decide +kernel⟩
theorem a1L {n j:Nat} (h:j < n):ixN n (j:Int)=some j:=by
 unfold ixN
 rw [if_pos (by omega),if_pos (by omega)]
 rfl
theorem ok_row (F:Fun K "row_with" "row_with" b3s f fd):a0O P w K mg base CX0 1 f fd ["side","at","number"] b2F:=by
 refine F.ok (k:=0) scRow (fun vs H Q E h=>?_) (fun cdv A outer s H vs Q E hr h=>?_)
 ·obtain ⟨s,i,o,rfl,_⟩:=h
  rfl
 obtain ⟨n,i,o,rfl,hi,hn,qq⟩:=h
 refine ⟨_,a0f (a0t (i:=3) scRow.nd rfl (Or.inl rfl) (a0p b1i (a0N (a0a a3O a0d)) (pv 0)))
  (a0f (a2k (pv 2) (a2W (pv 3) (pv 1) a1A))
  (a0h (a0r (pv 3)))),?_⟩
 refine ⟨(by show 1≤sizeLine;decide),fun l hl=>?_⟩
 have s1:=a0e hl (.lst [.non])
 have g1:upd H l (.lst [.non]) l=some (.lst [.non]):=a0c
 generalize upd H l (.lst [.non])=H1 at s1 g1 ⊢
 refine ⟨_,rfl,l,(n:Int),_,rfl,rfl,g1,by omega,by omega,by show 1 * _≤_;exact Nat.le_of_lt (a0s (by omega)),fun p hp=>?_⟩
 rw [b0C,Int.toNat_natCast]
 have s2:=a0e hp (.lst (List.replicate n V.non))
 have g2:upd H1 p (.lst (List.replicate n V.non)) p=some (.lst (List.replicate n V.non)):=a0c
 generalize upd H1 p (.lst (List.replicate n V.non))=H2 at s2 g2 ⊢
 have hpn:=s1.free hp
 refine ⟨_,rfl,_,rfl,_,rfl,p,_,_,i,rfl,rfl,g2,(by rw [List.length_replicate];exact a1L hi),?_⟩
 rw [b2E]
 exact ⟨_,rfl,qq p _ (a0v hpn (s1.trans s2)) hpn a0c⟩
def ext {α:Type} (ca:Nat→α) (i:Nat) (p:α):Nat→α:=fun k=>if k=i then p else ca k
theorem a0E {α:Type} {ca:Nat→α} {i k:Nat} {p:α} (h:k=i):ext ca i p k=p:=if_pos h
theorem a0Q {α:Type} {ca:Nat→α} {i k:Nat} {p:α} (h:¬ k=i):ext ca i p k=ca k:=if_neg h
def a4A:Sp:=fun vs H Q _=>∃ (s:Nat) (o:OI),vs=[.int (s:Int),oV o]∧s≤100∧∀ (b:Addr) (ca:Nat→Addr) H',a0x H H'→H b=none→(∀ i,i < s→H (ca i)=none)→(∀ i j,i < s→j < s→ca i=ca j→i=j)→(∀ i,i < s→ca i≠b) →
 H' b=some (.lst ((List.range s).map fun i=>.ref (ca i)))→(∀ i,i < s→H' (ca i)=some (.lst (b2D s i o)))→Q (.ref b) H'
theorem b0D:a0n ["side","diagonal"] ["side","diagonal"] (a0b a2o):=⟨rfl,rfl,rfl,by decide +kernel,rfl,by decide +kernel,by decide +kernel⟩
theorem ndSq:(("at":Str) :: ["side","diagonal"]).Nodup:=by decide +kernel
theorem a8U (F:Fun K "square" "square" a2o f fd) (GR:Fns P w K mg base ["side","at","number"] "row_with" b2F 1) (mr:mg "range"=none):a0O P w K mg base CX0 2 f fd ["side","diagonal"] a4A:=by
 refine F.ok (k:=1) b0D (fun vs H Q E h=>?_) (fun cdv A outer s H vs Q E hr h=>?_)
 ·obtain ⟨s,o,rfl,_⟩:=h
  rfl
 obtain ⟨n,o,rfl,hn,qq⟩:=h
 refine ⟨_,a0h (a0r (a1W (M:=["side","diagonal"]) rfl (a0q.of (a0b a2o) ["side","diagonal"] rfl rfl rfl (by decide +kernel) (by decide +kernel) (by decide +kernel) rfl (by decide +kernel)) ndSq rfl (by rfl) mr (a0a (pv 0) a0d) (a0T a0V a1B)
   (fun cl C s0 H0 fp=>⟨a0X,a0l GR.ok hr (by rfl) GR.m GR.kp GR.b .nil a0C (a0a (pv 1) (a0a (pv 0) (a0a (pv 2) a0d)))⟩))),?_⟩
 refine ⟨_,rfl,(n:Int),rfl,by omega,by omega,fun d hd=>?_⟩
 refine ⟨fun i H'=>a0x H H'∧∃ ca:Nat→Addr,(∀ k,k < i→H (ca k)=none)∧(∀ j k,j < i→k < i→ca j=ca k→j=k)∧(∀ k,k < i→ca k≠d)∧H' d=some (.lst ((List.range i).map fun k=>.ref (ca k)))∧∀ k,k < i→H' (ca k)=some (.lst (b2D n k o)),⟨a0e hd _,fun _=>d,fun k hk=>absurd hk (Nat.not_lt_zero _),fun j k hj=>absurd hj (Nat.not_lt_zero _),fun k hk=>absurd hk (Nat.not_lt_zero _),a0c,fun k hk=>absurd hk (Nat.not_lt_zero _)⟩,fun i H1 hi hP=>?_,fun H1 hP=>?_⟩
 ·obtain ⟨s1,ca,c1,c2,c3,c4,c5⟩:=hP
  have i':i < n:=by omega
  rw [show (0:Int)+(i:Int)=(i:Int) from Int.zero_add _]
  refine a0S ⟨_,rfl,_,rfl,_,rfl,n,i,o,rfl,i',hn,fun p H2 s2 hp2 g2=>?_⟩
  have pd:p≠d:=fun z=>by rw [z,c4] at hp2;cases hp2
  have pk:∀ k,k < i→ca k≠p:=fun k hk z=>by rw [←z,c5 k hk] at hp2;cases hp2
  refine ⟨_,s2 _ _ c4,?_,a0v hd (s1.trans s2),ext ca i p,fun k hk=>?_,fun j k hj hk e=>?_,fun k hk=>?_,?_,fun k hk=>?_⟩
  ·rw [List.length_map,List.length_range];exact a0s (by omega)
  ·by_cases z:k=i
   ·rw [a0E z];exact s1.free hp2
   ·rw [a0Q z];exact c1 k (by omega)
  ·by_cases z1:j=i <;> by_cases z2:k=i
   ·omega
   ·rw [a0E z1,a0Q z2] at e
    exact absurd e.symm (pk k (by omega))
   ·rw [a0Q z1,a0E z2] at e
    exact absurd e (pk j (by omega))
   ·rw [a0Q z1,a0Q z2] at e
    exact c2 j k (by omega) (by omega) e
  ·by_cases z:k=i
   ·rw [a0E z];exact pd
   ·rw [a0Q z];exact c3 k (by omega)
  ·rw [a0c,List.range_succ,List.map_append]
   refine congrArg (fun z=>some (HO.lst z)) ?_
   congr 1
   ·refine List.map_congr_left fun k hk=>?_
    rw [a0Q (by have:=List.mem_range.mp hk;omega)]
   ·show [V.ref p]=[V.ref (ext ca i p i)]
    rw [a0E rfl]
  ·by_cases z:k=i
   ·rw [a0E z,a0j pd,z];exact g2
   ·rw [a0Q z,a0j (c3 k (by omega))];exact s2 _ _ (c5 k (by omega))
 ·obtain ⟨s1,ca,c1,c2,c3,c4,c5⟩:=hP
  rw [Int.toNat_natCast] at c1 c2 c3 c4 c5
  exact qq d ca H1 s1 hd c1 c2 c3 c4 c5
def a3F:Sp:=fun vs H Q _=>∃ (a:Addr) (xs:List OI),vs=[.ref a]∧H a=some (.lst (xs.map oV))∧xs.length≤100∧∀ H',a0x H H'→Q (oV (lo xs)) H'
theorem b2G:a0n ["numbers"] ["numbers"] (a0b a3y):=⟨rfl,rfl,rfl,by decide +kernel,rfl,by decide +kernel,by decide +kernel⟩
theorem ndLe:(("number":Str) :: ["numbers"]).Nodup:=by decide +kernel
theorem b0E (F:Fun K "least" "least" a3y f fd) (mn:mg "min"=none):a0O P w K mg base CX0 1 f fd ["numbers"] a3F:=by
 refine F.ok (k:=0) b2G (fun vs H Q E h=>?_) (fun cdv A outer s H vs Q E hr h=>?_)
 ·obtain ⟨a,xs,rfl,_⟩:=h
  rfl
 obtain ⟨a,xs,rfl,ha,l1,qq⟩:=h
 refine ⟨_,a0h (a0r (b2u rfl (by rfl) mn (a0a (a2A (M:=["numbers"]) rfl (a0q.of (a0b a3y) ["numbers"] rfl rfl rfl (by decide +kernel) (by decide +kernel) (by decide +kernel) rfl (by decide +kernel)) ndLe rfl (pv 0) a0V
   (fun cl C s0 H0 fp=>⟨a5E (a7J (b1O (pv 0))),pv 0⟩)) a0d) (b1X a3O pk_nil))),?_⟩
 refine ⟨_,rfl,a,_,rfl,SqL.of ha,fun d hd=>?_⟩
 refine ⟨fun i H'=>a0x H H'∧H' d=some (.lst (((xs.take i).filterMap id).map V.int)),⟨a0e hd _,a0c⟩,fun i H' _ hP=>SqL.of (hP.1 _ _ ha),fun i x H' hx hP=>?_,fun H' hP=>?_⟩
 ·obtain ⟨s5,hd'⟩:=hP
  have il:=(List.getElem?_eq_some_iff.mp hx).1
  rw [List.length_map] at il
  rw [List.getElem?_map] at hx
  obtain ⟨z,hz,rfl⟩:=Option.map_eq_some_iff.mp hx
  have et:(xs.take (i+1)).filterMap id=(xs.take i).filterMap id++[z].filterMap id:=by rw [List.take_add_one,hz,List.filterMap_append];rfl
  refine ⟨_,rfl,_,rfl,?_⟩
  cases z with
  | none=>exact ⟨s5,by rw [et];simpa using hd'⟩
  | some v =>
   refine ⟨_,rfl,_,hd',?_,a0v hd s5,?_⟩
   ·rw [List.length_map]
    have:=List.length_filterMap_le id (xs.take i)
    rw [List.length_take] at this
    exact a0s (by omega)
   ·rw [a0c,et,List.map_append]
    rfl
 ·obtain ⟨s5,hd'⟩:=hP
  rw [List.length_map,List.take_length] at hd'
  refine ⟨d,_,rfl,rfl,hd',?_⟩
  have:=qq H' s5
  unfold lo at this
  split
  ·rename_i h
   rw [if_pos h] at this
   exact this
  ·rename_i h
   rw [if_neg h] at this
   exact this
def a3G:Sp:=fun vs H Q _=>∃ a b:OI,vs=[oV a,oV b]∧Q (oV (oadd a b)) H
theorem b2H:a0n ["one","other"] ["one","other"] (a0b a3Y):=⟨rfl,rfl,rfl,by decide +kernel,rfl,by decide +kernel,by decide +kernel⟩
theorem b0F (F:Fun K "added" "added" a3Y f fd):a0O P w K mg base CX0 1 f fd ["one","other"] a3G:=by
 refine F.ok (k:=0) b2H (fun vs H Q E h=>?_) (fun cdv A outer s H vs Q E hr h=>?_)
 ·obtain ⟨a,b,rfl,_⟩:=h
  rfl
 obtain ⟨a,b,rfl,q⟩:=h
 refine ⟨_,a0f (a1e (PW.pt (a9E (a7J (a7I (pv 0))) (a6g (a7J (a7I (pv 1)))))) (a0h (a0r a3O)) a0D) (a0h (a0r (a0p a0I (pv 0) (pv 1)))),?_⟩
 refine ⟨_,rfl,_,rfl,?_⟩
 cases a with
 | none=>exact q
 | some i =>
  refine iteF ?_
  refine ⟨_,rfl,_,rfl,?_⟩
  cases b with
  | none=>exact q
  | some j=>exact iteF ⟨_,rfl,_,rfl,_,_,rfl,rfl,q⟩
end
structure Tb (H:Hp) (a:Addr) (ba:Nat→Addr) (ca:Nat→Nat→Addr) (L s:Nat) (T:Nat→Nat→Nat→OI):Prop where
 o:H a=some (.lst ((List.range L).map fun l=>.ref (ba l)))
 b:∀ l,l < L→H (ba l)=some (.lst ((List.range s).map fun i=>.ref (ca l i)))
 c:∀ l i,l < L→i < s→H (ca l i)=some (.lst ((List.range s).map fun j=>oV (T l i j)))
theorem Tb.same {H H':Hp} {a:Addr} {ba:Nat→Addr} {ca:Nat→Nat→Addr} {L s:Nat} {T:Nat→Nat→Nat→OI} (h:Tb H a ba ca L s T) (k:a0x H H'):Tb H' a ba ca L s T:=⟨k _ _ h.o,fun l hl=>k _ _ (h.b l hl),fun l i hl hi=>k _ _ (h.c l i hl hi)⟩
structure Ad where
 su:Addr
 th:Addr
 tt:Addr
 bh:Nat→Addr
 ch:Nat→Nat→Addr
 bt:Nat→Addr
 ct:Nat→Nat→Addr
def Z (X:Ad) (L s:Nat) (a:Addr):Prop:=(∃ l i,l < L∧i < s∧a=X.ch l i)∨∃ l i,l < L+1∧i < s∧a=X.ct l i
abbrev pf (p:Addr) (n:Int) (X:Ad):List (Str × V):=[("prices",.ref p),("things",.int n),("sums",.ref X.su),("heads",.ref X.th),("tails",.ref X.tt)]
structure PAt (C:Addr) (H:Hp) (r p:Addr) (ps ws:List Int) (X:Ad) (h t:Nat→Nat→Nat→OI):Prop where
 ob:∃ dx,H r=some (.ins C dx (pf p (ws.length:Int) X))
 hp:TW H p ps
 su:H X.su=some (.lst ((sums ws ws.length).map V.int))
 hd:Tb H X.th X.bh X.ch ps.length (ws.length+1) h
 tl:Tb H X.tt X.bt X.ct (ps.length+1) (ws.length+1) t
 ih:∀ l i l' i',l < ps.length→l' < ps.length→i < ws.length+1→i' < ws.length+1→X.ch l i=X.ch l' i'→l=l'∧i=i'
 it:∀ l i l' i',l < ps.length+1→l' < ps.length+1→i < ws.length+1→i' < ws.length+1→X.ct l i=X.ct l' i'→l=l'∧i=i'
 ix:∀ l i l' i',l < ps.length→l' < ps.length+1→i < ws.length+1→i' < ws.length+1→X.ch l i≠X.ct l' i'
 ns:¬ Z X ps.length (ws.length+1) X.su
theorem PAt.same {C:Addr} {H H':Hp} {r p:Addr} {ps ws:List Int} {X:Ad} {h t:Nat→Nat→Nat→OI} (a:PAt C H r p ps ws X h t) (k:a0x H H'):PAt C H' r p ps ws X h t:=by
 obtain ⟨dx,ho⟩:=a.ob
 exact ⟨⟨dx,k _ _ ho⟩,k _ _ a.hp,k _ _ a.su,a.hd.same k,a.tl.same k,a.ih,a.it,a.ix,a.ns⟩
structure PC (K:PySem.W.Frag) (C:Addr):Prop where
 c:Cls K C
 np:a1v K C "prices"
 nn:a1v K C "things"
 ns:a1v K C "sums"
 nh:a1v K C "heads"
 nt:a1v K C "tails"
abbrev pf1 (p:Addr):List (Str × V):=[("prices",.ref p)]
abbrev pf2 (p:Addr) (n:Int):List (Str × V):=[("prices",.ref p),("things",.int n)]
abbrev pf3 (p:Addr) (n:Int) (su:Addr):List (Str × V):=[("prices",.ref p),("things",.int n),("sums",.ref su)]
abbrev pf4 (p:Addr) (n:Int) (su th:Addr):List (Str × V):=[("prices",.ref p),("things",.int n),("sums",.ref su),("heads",.ref th)]
structure b0G (H0 H':Hp) (s:Nat) (o:OI) (i:Nat) (ba:Nat→Addr) (ca:Nat→Nat→Addr) (d:Addr):Prop where
 same:a0x H0 H'
 fb:∀ l,l < i→H0 (ba l)=none
 fc:∀ l k,l < i→k < s→H0 (ca l k)=none
 inj:∀ l k l' k',l < i→l' < i→k < s→k' < s→ca l k=ca l' k'→l=l'∧k=k'
 nb:∀ l,l < i→ba l≠d
 nc:∀ l k,l < i→k < s→ca l k≠d
 lo_:H' d=some (.lst ((List.range i).map fun l=>.ref (ba l)))
 lb:∀ l,l < i→H' (ba l)=some (.lst ((List.range s).map fun k=>.ref (ca l k)))
 lc:∀ l k,l < i→k < s→H' (ca l k)=some (.lst (b2D s k o))
theorem b0G.start {H0:Hp} {s:Nat} {o:OI} {d:Addr} (hd:H0 d=none):b0G H0 (upd H0 d (.lst [])) s o 0 (fun _=>d) (fun _ _=>d) d :=
 ⟨a0e hd _,fun l hl=>absurd hl (Nat.not_lt_zero _),fun l k hl=>absurd hl (Nat.not_lt_zero _),fun l k l' k' hl=>absurd hl (Nat.not_lt_zero _),fun l hl=>absurd hl (Nat.not_lt_zero _),fun l k hl=>absurd hl (Nat.not_lt_zero _),a0c,fun l hl=>absurd hl (Nat.not_lt_zero _),fun l k hl=>absurd hl (Nat.not_lt_zero _)⟩
theorem b0G.step {H0 H1 H2:Hp} {s:Nat} {o:OI} {i:Nat} {ba:Nat→Addr} {ca:Nat→Nat→Addr} {d b:Addr} {c':Nat→Addr} (hd:H0 d=none) (g:b0G H0 H1 s o i ba ca d) (k:a0x H1 H2) (fb:H1 b=none) (fc:∀ k,k < s→H1 (c' k)=none) (ij:∀ j k,j < s→k < s→c' j=c' k→j=k) (hb:H2 b=some (.lst ((List.range s).map fun k=>.ref (c' k)))) (hc:∀ k,k < s→H2 (c' k)=some (.lst (b2D s k o))) :
  b0G H0 (upd H2 d (.lst (((List.range i).map fun l=>V.ref (ba l))++[.ref b]))) s o (i+1) (ext ba i b) (ext ca i c') d:=by
 have bd:b≠d:=fun z=>by rw [z,g.lo_] at fb;cases fb
 have cd:∀ k,k < s→c' k≠d:=fun k hk z=>by
  have:=fc k hk
  rw [z,g.lo_] at this;cases this
 have cc:∀ l k k',l < i→k < s→k' < s→ca l k≠c' k':=fun l k k' hl hk hk' z=>by
  have:=fc k' hk'
  rw [←z,g.lc l k hl hk] at this;cases this
 refine ⟨a0v hd (g.same.trans k),fun l hl=>?_,fun l m hl hm=>?_,fun l m l' m' hl hl' hm hm' e=>?_,fun l hl=>?_,fun l m hl hm=>?_,?_,fun l hl=>?_,fun l m hl hm=>?_⟩
 ·by_cases z:l=i
  ·rw [a0E z];exact g.same.free fb
  ·rw [a0Q z];exact g.fb l (by omega)
 ·by_cases z:l=i
  ·rw [a0E z];exact g.same.free (fc m hm)
  ·rw [a0Q z];exact g.fc l m (by omega) hm
 ·by_cases z1:l=i <;> by_cases z2:l'=i
  ·rw [a0E z1,a0E z2] at e
   exact ⟨by omega,ij m m' hm hm' e⟩
  ·rw [a0E z1,a0Q z2] at e
   exact absurd e.symm (cc l' m' m (by omega) hm' hm)
  ·rw [a0Q z1,a0E z2] at e
   exact absurd e (cc l m m' (by omega) hm hm')
  ·rw [a0Q z1,a0Q z2] at e
   exact g.inj l m l' m' (by omega) (by omega) hm hm' e
 ·by_cases z:l=i
  ·rw [a0E z];exact bd
  ·rw [a0Q z];exact g.nb l (by omega)
 ·by_cases z:l=i
  ·rw [a0E z];exact cd m hm
  ·rw [a0Q z];exact g.nc l m (by omega) hm
 ·rw [a0c,List.range_succ,List.map_append]
  refine congrArg (fun z=>some (HO.lst z)) ?_
  congr 1
  ·refine List.map_congr_left fun l hl=>?_
   rw [a0Q (by have:=List.mem_range.mp hl;omega)]
  ·show [V.ref b]=[V.ref (ext ba i b i)]
   rw [a0E rfl]
 ·by_cases z:l=i
  ·rw [a0E z,a0E z,a0j bd];exact hb
  ·rw [a0Q z,a0Q z,a0j (g.nb l (by omega))];exact k _ _ (g.lb l (by omega))
 ·by_cases z:l=i
  ·rw [a0E z,a0j (cd m hm)];exact hc m hm
  ·rw [a0Q z,a0j (g.nc l m (by omega) hm)];exact k _ _ (g.lc l m (by omega) hm)
def a7y (r:Addr) (H H':Hp):Prop:=∀ a o,a≠r→H a=some o→H' a=some o
section
variable {P:Program} {w:World} {K:PySem.W.Frag} {mg:Str→Option Value} {base:Heap} {f:Addr} {fd:FuncData}
abbrev NI:List Str:=["self","prices","weights","side"]
abbrev h0:Nat→Nat→Nat→OI:=fun _ a b=>if b=a then none else none
abbrev t0:Nat→Nat→Nat→OI:=fun _ a b=>if b=a then some 0 else none
def a8V (C:Addr):Sp:=fun vs H Q _=>∃ (r dx p q:Addr) (ps ws:List Int),vs=[.ref r,.ref p,.ref q]∧H r=some (.ins C dx [])∧TW H p ps∧TW H q ws∧1≤ps.length∧ps.length≤10∧ws.length≤20 ∧
 ∀ H' X,a7y r H H'→PAt C H' r p ps ws X h0 t0→(∀ a,Z X ps.length (ws.length+1) a→H a=none)→Q .non H'
theorem a8W:a0n NI ["self","prices","weights"] (a0b a2c):=⟨rfl,rfl,rfl,by decide +kernel,rfl,by decide +kernel,by decide +kernel⟩
theorem ndI1:(("price":Str) :: NI).Nodup:=by decide +kernel
theorem ndI2:(("letter":Str) :: NI).Nodup:=by decide +kernel
theorem b0H {C:Addr} (F:Fun K "__init__" "Parted.__init__" a2c f fd) (GS:Fns P w K mg base ["weights"] "weight_sums" a8Q 2) (GQ:Fns P w K mg base ["side","diagonal"] "square" a4A 2) (rc:PC K C) (ml:mg "len"=none) (mr:mg "range"=none):a0O P w K mg base CX0 3 f fd ["self","prices","weights"] (a8V C):=by
 refine F.ok (k:=2) a8W (fun vs H Q E h=>?_) (fun cdv A outer s H vs Q E hr h=>?_)
 ·obtain ⟨r,dx,p,q,ps,ws,rfl,_⟩:=h
  rfl
 obtain ⟨r,dx,p,q,ps,ws,rfl,hr0,hp,hq,p1,p10,w20,qq⟩:=h
 refine ⟨_,a0f (a1P (pv 0) (pv 1) rfl)
  (a0f (a1P (pv 0) (a0o a0i (by rfl) ml PySem.boot_len (a0a (pv 2) a0d)) rfl)
  (a0f (a1P (pv 0) (a0l GS.ok hr (by rfl) GS.m GS.kp GS.b .nil a0C (a0a (pv 2) a0d)) rfl)
  (a0f (a0t (i:=3) a8W.nd rfl (Or.inr rfl) (a0p a0I (a0F (pv 0) rfl) a0g))
  (a0f (a1P (pv 0) (a2B (M:=NI) rfl (a0q.of (a0b a2c) NI rfl rfl rfl (by decide +kernel) (by decide +kernel) (by decide +kernel) rfl (by decide +kernel)) ndI1 rfl (pv 1) a0V
   (fun cl C s0 H0 fp=>⟨a0X,a0l GQ.ok hr (by rfl) GQ.m GQ.kp GQ.b .nil a0C (a0a (pv 4) (a0a a3O a0d))⟩)) rfl)
  (a0h (a1P (pv 0) (a1W (M:=NI) rfl (a0q.of (a0b a2c) NI rfl rfl rfl (by decide +kernel) (by decide +kernel) (by decide +kernel) rfl (by decide +kernel)) ndI2 rfl (by rfl) mr (a0a (a0p a0I (a0o a0i (by rfl) ml PySem.boot_len (a0a (pv 1) a0d)) a0g) a0d) (a0T (a7k a3V (a8j (a0T a0V a1B)) b3q) a1B)
   (fun cl C s0 H0 fp=>⟨a0X,a0l GQ.ok hr (by rfl) GQ.m GQ.kp GQ.b .nil a0C (a0a (pv 4) (a0a a0g a0d))⟩)) rfl)))))),?_⟩
 have pr:p≠r:=a0G hp hr0 (by intro z;cases z)
 have qr:q≠r:=a0G hq hr0 (by intro z;cases z)
 refine ⟨_,rfl,_,rfl,r,C,dx,_,rfl,hr0,rc.c,rc.np,(by show 0 < 1000;decide),?_⟩
 rw [show a2F "prices" (V.ref p) []=(pf1 p) from rfl]
 have g1:upd H r (.ins C dx (pf1 p)) r=some (.ins C dx (pf1 p)):=a0c
 have k1:a7y r H (upd H r (.ins C dx (pf1 p))):=fun a o ha e=>by rw [a0j ha];exact e
 have f1:∀ a,upd H r (.ins C dx (pf1 p)) a=none→H a=none:=fun a e=>by
  by_cases z:a=r
  ·subst z;rw [a0c] at e;cases e
  ·rw [a0j z] at e;exact e
 generalize upd H r (.ins C dx (pf1 p))=H1 at g1 k1 f1 ⊢
 refine ⟨_,rfl,q,_,rfl,.inr (SqT.of (k1 _ _ qr hq)),_,rfl,r,C,dx,_,rfl,g1,rc.c,rc.nn,(by show 1 < 1000;decide),?_⟩
 rw [List.length_map,show a2F "things" (V.int (ws.length:Int)) (pf1 p)=(pf2 p (ws.length:Int)) from rfl]
 have g2:upd H1 r (.ins C dx (pf2 p (ws.length:Int))) r=some (.ins C dx (pf2 p (ws.length:Int))):=a0c
 have k2:a7y r H (upd H1 r (.ins C dx (pf2 p (ws.length:Int)))):=fun a o ha e=>by rw [a0j ha];exact k1 a o ha e
 have f2:∀ a,upd H1 r (.ins C dx (pf2 p (ws.length:Int))) a=none→H a=none:=fun a e=>by
  by_cases z:a=r
  ·subst z;rw [a0c] at e;cases e
  ·rw [a0j z] at e;exact f1 a e
 generalize upd H1 r (.ins C dx (pf2 p (ws.length:Int)))=H2 at g2 k2 f2 ⊢
 refine ⟨_,rfl,q,ws,rfl,k2 _ _ qr hq,by omega,fun su H3 s3 hn3 hs3=>?_⟩
 have g3:=s3 _ _ g2
 refine ⟨_,rfl,r,C,dx,_,rfl,g3,rc.c,rc.ns,(by show 2 < 1000;decide),?_⟩
 have sr:su≠r:=a0G hs3 g3 (by intro z;cases z)
 rw [show a2F "sums" (V.ref su) (pf2 p (ws.length:Int))=(pf3 p (ws.length:Int) su) from rfl]
 have g4:upd H3 r (.ins C dx (pf3 p (ws.length:Int) su)) r=some (.ins C dx (pf3 p (ws.length:Int) su)):=a0c
 have k4:a7y r H (upd H3 r (.ins C dx (pf3 p (ws.length:Int) su))):=fun a o ha e=>by rw [a0j ha];exact s3 _ _ (k2 a o ha e)
 have f4:∀ a,upd H3 r (.ins C dx (pf3 p (ws.length:Int) su)) a=none→H a=none:=fun a e=>by
  by_cases z:a=r
  ·subst z;rw [a0c] at e;cases e
  ·rw [a0j z] at e;exact f2 a (s3.free e)
 have hs4:upd H3 r (.ins C dx (pf3 p (ws.length:Int) su)) su=some (.lst ((sums ws ws.length).map V.int)):=by rw [a0j sr];exact hs3
 generalize upd H3 r (.ins C dx (pf3 p (ws.length:Int) su))=H4 at g4 k4 f4 hs4 ⊢
 refine ⟨_,rfl,r,C,dx,_,_,rfl,g4,rc.c,rc.nn,rfl,_,_,rfl,rfl,?_⟩
 have hp4:TW H4 p ps:=k4 _ _ pr hp
 refine ⟨_,rfl,p,_,rfl,SqT.of hp4,fun th hth=>?_⟩
 refine ⟨fun i H'=>∃ ba ca,b0G H4 H' (ws.length+1) none i ba ca th,⟨_,_,b0G.start hth⟩,fun i H' _ hP=>(by obtain ⟨ba,ca,g⟩:=hP;exact SqT.of (g.same _ _ hp4)),fun i x H' hx hP=>?_,fun H5 hP=>?_⟩
 ·obtain ⟨ba,ca,g⟩:=hP
  have il:=(List.getElem?_eq_some_iff.mp hx).1
  rw [List.length_map] at il
  refine a0S ⟨_,rfl,ws.length+1,none,rfl,by omega,fun b c' H6 s6 fb fc ij cb hb hc=>⟨_,s6 _ _ g.lo_,?_,_,_,g.step hth s6 fb fc ij hb hc⟩⟩
  rw [List.length_map,List.length_range];exact a0s (by omega)
 obtain ⟨bh,ch,gh⟩:=hP
 rw [List.length_map] at gh
 have g5:=gh.same _ _ g4
 refine ⟨_,rfl,r,C,dx,_,rfl,g5,rc.c,rc.nh,(by show 3 < 1000;decide),?_⟩
 rw [show a2F "heads" (V.ref th) (pf3 p (ws.length:Int) su)=(pf4 p (ws.length:Int) su th) from rfl]
 have rh1:th≠r:=a0G gh.lo_ g5 (by intro z;cases z)
 have rh2:∀ l,l < ps.length→bh l≠r:=fun l hl=>a0G (gh.lb l hl) g5 (by intro z;cases z)
 have rh3:∀ l k,l < ps.length→k < ws.length+1→ch l k≠r:=fun l k hl hk=>a0G (gh.lc l k hl hk) g5 (by intro z;cases z)
 have tb6:Tb (upd H5 r (.ins C dx (pf4 p (ws.length:Int) su th))) th bh ch ps.length (ws.length+1) h0:=⟨by rw [a0j rh1];exact gh.lo_,fun l hl=>by rw [a0j (rh2 l hl)];exact gh.lb l hl,fun l k hl hk=>by rw [a0j (rh3 l k hl hk)];exact gh.lc l k hl hk⟩
 have g6:upd H5 r (.ins C dx (pf4 p (ws.length:Int) su th)) r=some (.ins C dx (pf4 p (ws.length:Int) su th)):=a0c
 have k46:a7y r H4 (upd H5 r (.ins C dx (pf4 p (ws.length:Int) su th))):=fun a o ha e=>by rw [a0j ha];exact gh.same _ _ e
 have f6:∀ a,upd H5 r (.ins C dx (pf4 p (ws.length:Int) su th)) a=none→H4 a=none:=fun a e=>by
  by_cases z:a=r
  ·subst z;rw [a0c] at e;cases e
  ·rw [a0j z] at e;exact gh.same.free e
 generalize upd H5 r (.ins C dx (pf4 p (ws.length:Int) su th))=H6 at tb6 g6 k46 f6 ⊢
 have hp6:TW H6 p ps:=k46 _ _ pr hp4
 have hs6:=k46 _ _ sr hs4
 refine ⟨_,rfl,p,_,rfl,.inr (SqT.of hp6),_,_,rfl,rfl,_,rfl,by rw [List.length_map];omega,by rw [List.length_map];omega,fun tt htt=>?_⟩
 have en:((((ps.map V.int).length:Nat):Int)+1).toNat=ps.length+1:=by rw [List.length_map];omega
 rw [en]
 refine ⟨fun i H'=>∃ ba ca,b0G H6 H' (ws.length+1) (some 0) i ba ca tt,⟨_,_,b0G.start htt⟩,fun i H' hi hP=>?_,fun H7 hP=>?_⟩
 ·obtain ⟨ba,ca,g⟩:=hP
  refine a0S ⟨_,rfl,ws.length+1,some 0,rfl,by omega,fun b c' H8 s8 fb fc ij cb hb hc=>⟨_,s8 _ _ g.lo_,?_,_,_,g.step htt s8 fb fc ij hb hc⟩⟩
  rw [List.length_map,List.length_range];exact a0s (by omega)
 obtain ⟨bt,ct,gt⟩:=hP
 have g7:=gt.same _ _ g6
 refine ⟨_,rfl,r,C,dx,_,rfl,g7,rc.c,rc.nt,(by show 4 < 1000;decide),?_⟩
 rw [show a2F "tails" (V.ref tt) (pf4 p (ws.length:Int) su th)=pf p (ws.length:Int) ⟨su,th,tt,bh,ch,bt,ct⟩ from rfl]
 have rt1:tt≠r:=a0G gt.lo_ g7 (by intro z;cases z)
 have rt2:∀ l,l < ps.length+1→bt l≠r:=fun l hl=>a0G (gt.lb l hl) g7 (by intro z;cases z)
 have rt3:∀ l k,l < ps.length+1→k < ws.length+1→ct l k≠r:=fun l k hl hk=>a0G (gt.lc l k hl hk) g7 (by intro z;cases z)
 have k68:a7y r H6 (upd H7 r (.ins C dx (pf p (ws.length:Int) ⟨su,th,tt,bh,ch,bt,ct⟩))):=fun a o ha e=>by rw [a0j ha];exact gt.same _ _ e
 refine qq _ ⟨su,th,tt,bh,ch,bt,ct⟩ (fun a o ha e=>k68 a o ha (k46 a o ha (k4 a o ha e))) ⟨⟨dx,a0c⟩,k68 _ _ pr hp6,k68 _ _ sr hs6,⟨k68 _ _ rh1 tb6.o,fun l hl=>k68 _ _ (rh2 l hl) (tb6.b l hl),fun l k hl hk=>k68 _ _ (rh3 l k hl hk) (tb6.c l k hl hk)⟩,⟨by rw [a0j rt1];exact gt.lo_,fun l hl=>by rw [a0j (rt2 l hl)];exact gt.lb l hl,fun l k hl hk=>by rw [a0j (rt3 l k hl hk)];exact gt.lc l k hl hk⟩,fun l i l' i' hl hl' hi hi' e=>gh.inj l i l' i' hl hl' hi hi' e,fun l i l' i' hl hl' hi hi' e=>gt.inj l i l' i' hl hl' hi hi' e,fun l i l' i' hl hl' hi hi' e=>?_,fun z=>?_⟩ fun a hz=>?_
 ·have e1:=gt.fc l' i' hl' hi'
  have e:ch l i=ct l' i':=e
  rw [←e,tb6.c l i hl hi] at e1
  cases e1
 ·rcases z with ⟨l,i,hl,hi,e⟩ | ⟨l,i,hl,hi,e⟩
  ·have e1:=gh.fc l i hl hi
   have e:su=ch l i:=e
   rw [←e,hs4] at e1
   cases e1
  ·have e1:=gt.fc l i hl hi
   have e:su=ct l i:=e
   rw [←e,hs6] at e1
   cases e1
 ·rcases hz with ⟨l,i,hl,hi,e⟩ | ⟨l,i,hl,hi,e⟩
  ·have e:a=ch l i:=e
   rw [e]
   exact f4 _ (gh.fc l i hl hi)
  ·have e:a=ct l i:=e
   rw [e]
   exact f4 _ (f6 _ (gt.fc l i hl hi))
end
theorem a0Y {f:Nat→V} {n k:Nat} (h:k < n):atI ((List.range n).map f) (k:Int)=some (f k):=a1T (by rw [List.getElem?_map,List.getElem?_range h];rfl)
theorem a8X {K:PySem.W.Frag} {ta:TE} {f:Str} (h:a2K ta):a2K (tFld K ta f):=fun σ H Q Q' hq q=>h σ H _ _ (fun v H1 ⟨a,C,dx,fs,u,e1,e2,e3,e4,e5,q1⟩=>⟨a,C,dx,fs,u,e1,e2,e3,e4,e5,hq _ _ q1⟩) q
structure Mt (P:Program) (w:World) (K:PySem.W.Frag) (mg:Str→Option Value) (base:Heap) (C:Addr) (name:Str) (ps:List Str) (sp:Sp) (k:Nat) where
 f:Addr
 fd:FuncData
 m:Meth K C name f
 ok:a0O P w K mg base CX0 k f fd ps sp
 b:a1E K fd ps []
def Mt.up {P:Program} {w:World} {K:PySem.W.Frag} {mg:Str→Option Value} {base:Heap} {C:Addr} {name:Str} {ps:List Str} {sp:Sp} {j k:Nat} (f:Mt P w K mg base C name ps sp j) (h:j≤k):Mt P w K mg base C name ps sp k:=⟨f.f,f.fd,f.m,f.ok.mono h,f.b⟩
def up3 (T:Nat→Nat→Nat→OI) (l i j:Nat) (v:OI):Nat→Nat→Nat→OI:=fun l' i' j'=>if l'=l∧i'=i∧j'=j then v else T l' i' j'
theorem a8Y {T:Nat→Nat→Nat→OI} {l i j:Nat} {v:OI}:up3 T l i j v l i j=v:=if_pos ⟨rfl,rfl,rfl⟩
theorem a4b {T:Nat→Nat→Nat→OI} {l i j l' i' j':Nat} {v:OI} (h:¬ (l'=l∧i'=i∧j'=j)):up3 T l i j v l' i' j'=T l' i' j':=if_neg h
theorem b2I {T:Nat→Nat→Nat→OI} {l i j s:Nat} {v:OI} (hj:j < s):((List.range s).map fun k=>oV (T l i k)).set j (oV v)=(List.range s).map fun k=>oV (up3 T l i j v l i k):=by
 refine List.ext_getElem? fun k=>?_
 rw [List.getElem?_map]
 by_cases hk:k < s
 ·rw [List.getElem?_range hk]
  by_cases e:j=k
  ·subst e
   rw [List.getElem?_set_self (by rw [List.length_map,List.length_range];exact hk)]
   show some (oV v)=some (oV (up3 T l i j v l i j))
   rw [a8Y]
  ·rw [List.getElem?_set_ne e,List.getElem?_map,List.getElem?_range hk]
   show some (oV (T l i k))=some (oV (up3 T l i j v l i k))
   rw [a4b fun z=>e z.2.2.symm]
 ·rw [List.getElem?_eq_none (by rw [List.length_set,List.length_map,List.length_range];omega),List.getElem?_eq_none (by rw [List.length_range];omega)]
  rfl
theorem a4B {f:Nat→Addr} {g:Nat→OI} {m n:Nat} (hm:0 < m) (hn:0 < n):(List.range m).map (fun l=>V.ref (f l))≠(List.range n).map fun j=>oV (g j):=fun z=>by
 have h1:((List.range m).map (fun l=>V.ref (f l)))[0]?=some (V.ref (f 0)):=by rw [List.getElem?_map,List.getElem?_range hm];rfl
 have h2:((List.range n).map fun j=>oV (g j))[0]?=some (oV (g 0)):=by rw [List.getElem?_map,List.getElem?_range hn];rfl
 rw [z,h2] at h1
 cases hg:g 0 <;> (rw [hg] at h1;cases h1)
theorem Tb.keep {H:Hp} {a c:Addr} {ba:Nat→Addr} {ca:Nat→Nat→Addr} {L s:Nat} {T:Nat→Nat→Nat→OI} {g:Nat→OI} {n:Nat} {o:HO} (h:Tb H a ba ca L s T) (hL:0 < L) (hs:0 < s) (hn:0 < n) (hc:H c=some (.lst ((List.range n).map fun j=>oV (g j)))) (nc:∀ l i,l < L→i < s→ca l i≠c):Tb (upd H c o) a ba ca L s T:=by
 refine ⟨?_,fun l hl=>?_,fun l i hl hi=>?_⟩
 ·rw [a0j (a0G h.o hc (fun z=>a4B hL hn (HO.lst.inj z)))]
  exact h.o
 ·rw [a0j (a0G (h.b l hl) hc (fun z=>a4B hs hn (HO.lst.inj z)))]
  exact h.b l hl
 ·rw [a0j (nc l i hl hi)]
  exact h.c l i hl hi
theorem Tb.put {H:Hp} {a:Addr} {ba:Nat→Addr} {ca:Nat→Nat→Addr} {L s:Nat} {T:Nat→Nat→Nat→OI} {l i j:Nat} {v:OI} (h:Tb H a ba ca L s T) (inj:∀ l i l' i',l < L→l' < L→i < s→i' < s→ca l i=ca l' i'→l=l'∧i=i') (hl:l < L) (hi:i < s) (hj:j < s) :
  Tb (upd H (ca l i) (.lst (((List.range s).map fun k=>oV (T l i k)).set j (oV v)))) a ba ca L s (up3 T l i j v):=by
 rw [b2I hj]
 have hc:=h.c l i hl hi
 refine ⟨?_,fun l' hl'=>?_,fun l' i' hl' hi'=>?_⟩
 ·rw [a0j (a0G h.o hc (fun z=>a4B (m:=L) (n:=s) (by omega) (by omega) (HO.lst.inj z)))]
  exact h.o
 ·rw [a0j (a0G (h.b l' hl') hc (fun z=>a4B (m:=s) (n:=s) (by omega) (by omega) (HO.lst.inj z)))]
  exact h.b l' hl'
 ·by_cases e:l'=l∧i'=i
  ·obtain ⟨rfl,rfl⟩:=e
   rw [a0c]
  ·rw [a0j (fun z=>e (inj l' i' l i hl' hl hi' hi z)),h.c l' i' hl' hi']
   refine congrArg (fun z=>some (HO.lst z)) (List.map_congr_left fun k _=>?_)
   rw [a4b fun z=>e ⟨z.1,z.2.1⟩]
theorem PAt.puth {C:Addr} {H:Hp} {r p:Addr} {ps ws:List Int} {X:Ad} {h t:Nat→Nat→Nat→OI} {l i j:Nat} {v:OI} (a:PAt C H r p ps ws X h t) (hl:l < ps.length) (hi:i < ws.length+1) (hj:j < ws.length+1) :
  PAt C (upd H (X.ch l i) (.lst (((List.range (ws.length+1)).map fun k=>oV (h l i k)).set j (oV v)))) r p ps ws X (up3 h l i j v) t:=by
 obtain ⟨dx,ho⟩:=a.ob
 have hc:=a.hd.c l i hl hi
 refine ⟨⟨dx,?_⟩,?_,?_,a.hd.put a.ih hl hi hj,a.tl.keep (by omega) (by omega) (by omega) hc fun l' i' hl' hi'=>Ne.symm (a.ix l i l' i' hl hl' hi hi'),a.ih,a.it,a.ix,a.ns⟩
 ·rw [a0j (a0G ho hc (by intro z;cases z))];exact ho
 ·show upd _ _ _ p=_
  rw [a0j (a0G a.hp hc (by intro z;cases z))];exact a.hp
 ·rw [a0j (fun z=>a.ns (.inl ⟨l,i,hl,hi,z⟩))];exact a.su
theorem PAt.putt {C:Addr} {H:Hp} {r p:Addr} {ps ws:List Int} {X:Ad} {h t:Nat→Nat→Nat→OI} {l i j:Nat} {v:OI} (a:PAt C H r p ps ws X h t) (hL:0 < ps.length) (hl:l < ps.length+1) (hi:i < ws.length+1) (hj:j < ws.length+1) :
  PAt C (upd H (X.ct l i) (.lst (((List.range (ws.length+1)).map fun k=>oV (t l i k)).set j (oV v)))) r p ps ws X h (up3 t l i j v):=by
 obtain ⟨dx,ho⟩:=a.ob
 have hc:=a.tl.c l i hl hi
 refine ⟨⟨dx,?_⟩,?_,?_,a.hd.keep hL (by omega) (by omega) hc fun l' i' hl' hi'=>a.ix l' i' l i hl' hl hi' hi,a.tl.put a.it hl hi hj,a.ih,a.it,a.ix,a.ns⟩
 ·rw [a0j (a0G ho hc (by intro z;cases z))];exact ho
 ·show upd _ _ _ p=_
  rw [a0j (a0G a.hp hc (by intro z;cases z))];exact a.hp
 ·rw [a0j (fun z=>a.ns (.inr ⟨l,i,hl,hi,z⟩))];exact a.su
def KZ (X:Ad) (L s:Nat) (H H':Hp):Prop:=∀ a o,¬ Z X L s a→H a=some o→H' a=some o
section
variable {P:Program} {w:World} {K:PySem.W.Frag} {mg:Str→Option Value} {base:Heap} {f:Addr} {fd:FuncData}
abbrev lsum (h t:Nat→Nat→Nat→OI) (l i j k:Nat):OI:=lo ((List.range (k - i)).map fun b=>oadd (h l i (i+b+1)) (t (l+1) (i+b+1) j))
abbrev NLs:List Str:=["self","letter","first","end","last","heads","tails"]
def spLs (C:Addr):Sp:=fun vs H Q _=>∃ (r p:Addr) (ps ws:List Int) (X:Ad) (h t:Nat→Nat→Nat→OI) (l i j k:Nat),vs=[.ref r,.int (l:Int),.int (i:Int),.int (j:Int),.int (k:Int)]∧PAt C H r p ps ws X h t∧ws.length≤20∧l < ps.length∧i≤k∧k≤ws.length∧j≤ws.length∧∀ H',a0x H H'→Q (oV (lsum h t l i j k)) H'
theorem scLs:a0n NLs ["self","letter","first","end","last"] (a0b sLs):=⟨rfl,rfl,rfl,by decide +kernel,rfl,by decide +kernel,by decide +kernel⟩
theorem ndLs:(("cut":Str) :: NLs).Nodup:=by decide +kernel
theorem ok_ls {C:Addr} (F:Fun K "least_sum" "Parted.least_sum" sLs f fd) (GL:Fns P w K mg base ["numbers"] "least" a3F 1) (GA:Fns P w K mg base ["one","other"] "added" a3G 1) (rc:PC K C) (mr:mg "range"=none):a0O P w K mg base CX0 2 f fd ["self","letter","first","end","last"] (spLs C):=by
 refine F.ok (k:=1) scLs (fun vs H Q E h=>?_) (fun cdv A outer s H vs Q E hr h=>?_)
 ·obtain ⟨r,p,ps,ws,X,h,t,l,i,j,k,rfl,_⟩:=h
  rfl
 obtain ⟨r,p,ps,ws,X,h,t,l,i,j,k,rfl,pa,w20,hl,hik,hk,hj,q⟩:=h
 refine ⟨_,a0f (a0t (i:=5) scLs.nd rfl (Or.inr rfl) (a0y a0w (a0y a0w (a0F (pv 0) rfl) (pv 1) (fun _ _=>rfl)) (pv 2) (fun _ _=>rfl)))
  (a0f (a0t (i:=6) scLs.nd rfl (Or.inr rfl) (a0y a0w (a0F (pv 0) rfl) (a0p a0I (pv 1) a0g) (fun _ _=>rfl)))
  (a0h (a0r (a0l GL.ok hr (by rfl) GL.m GL.kp GL.b .nil a0C (a0a (a5c (M:=NLs) rfl (a0q.of (a0b sLs) NLs rfl rfl rfl (by decide +kernel) (by decide +kernel) (by decide +kernel) rfl (by decide +kernel)) ndLs rfl (by rfl) mr (a0a (a0p a0I (pv 2) a0g) (a0a (a0p a0I (pv 4) a0g) a0d)) (a0T (a7k a3V a0V b3q) (a0T (a7k a3V a0V b3q) a1B))
   (fun cl C s0 H0 fp=>⟨a0X,a0l GA.ok hr (by rfl) GA.m GA.kp GA.b .nil a0C (a0a (a0y (ixL K) (pv 6) (pv 0) (fun _ _=>rfl)) (a0a (a0y (ixL K) (a0y (ixL K) (pv 7) (pv 0) (fun _ _=>rfl)) (pv 4) (fun _ _=>rfl)) a0d))⟩)) a0d))))),?_⟩
 obtain ⟨dx,ho⟩:=pa.ob
 have i1:i < ws.length+1:=by omega
 have hT:=pa.hd
 have tT:=pa.tl
 refine ⟨_,rfl,r,C,dx,_,_,rfl,ho,rc.c,rc.nh,rfl,_,rfl,X.th,_,_,_,rfl,rfl,SqL.of hT.o,a0Y hl,_,rfl,X.bh l,_,_,_,rfl,rfl,SqL.of (hT.b l hl),a0Y i1,?_⟩
 refine ⟨_,rfl,r,C,dx,_,_,rfl,ho,rc.c,rc.nt,rfl,_,rfl,_,_,rfl,rfl,X.tt,_,_,_,rfl,rfl,SqL.of tT.o,a0Y (k:=l+1) (by omega),?_⟩
 refine ⟨_,rfl,_,_,rfl,rfl,_,rfl,_,_,rfl,rfl,_,_,rfl,⟨by omega,by omega,by omega,by omega⟩,fun d hd=>?_⟩
 have en:(((k:Int)+1) - ((i:Int)+1)).toNat=k - i:=by omega
 dsimp only
 rw [en]
 refine ⟨fun b H'=>a0x H H'∧H' d=some (.lst (((List.range b).map fun b=>oadd (h l i (i+b+1)) (t (l+1) (i+b+1) j)).map oV)),⟨a0e hd _,a0c⟩,fun b H' hb hP=>?_,fun H' hP=>?_⟩
 ·obtain ⟨s5,hd'⟩:=hP
  have eb:(i:Int)+1+(b:Int)=((i+b+1:Nat):Int):=by push_cast;omega
  rw [eb]
  have hb1:i+b+1 < ws.length+1:=by omega
  refine a0S ⟨_,rfl,_,rfl,X.ch l i,_,_,_,rfl,rfl,SqL.of (s5 _ _ (hT.c l i hl i1)),a0Y hb1,_,rfl,_,rfl,X.bt (l+1),_,_,_,rfl,rfl,SqL.of (s5 _ _ (tT.b (l+1) (by omega))),a0Y hb1,_,rfl,X.ct (l+1) (i+b+1),_,_,_,rfl,rfl,SqL.of (s5 _ _ (tT.c (l+1) (i+b+1) (by omega) hb1)),a0Y (k:=j) (by omega),_,_,rfl,_,hd',?_,a0v hd s5,?_⟩
  ·rw [List.length_map,List.length_map,List.length_range];exact a0s (by omega)
  ·rw [a0c,List.range_succ,List.map_append,List.map_append];rfl
 ·obtain ⟨s5,hd'⟩:=hP
  exact ⟨d,_,rfl,hd',by rw [List.length_map,List.length_range];omega,fun H6 s6=>q H6 (s5.trans s6)⟩
abbrev NB:List Str:=["self","first","end"]
def a4C (C:Addr):Sp:=fun vs H Q _=>∃ (r p:Addr) (ps ws:List Int) (X:Ad) (h t:Nat→Nat→Nat→OI) (i j:Nat),vs=[.ref r,.int (i:Int),.int (j:Int)]∧PAt C H r p ps ws X h t∧ws.length≤20∧ps.length≤10∧i < j∧j≤ws.length∧∀ H',a0x H H'→Q (oV (bnd ps.length h t i j)) H'
theorem b2J:a0n NB ["self","first","end"] (a0b a3E):=⟨rfl,rfl,rfl,by decide +kernel,rfl,by decide +kernel,by decide +kernel⟩
theorem ndB:(("letter":Str) :: NB).Nodup:=by decide +kernel
theorem b0I {C:Addr} (F:Fun K "bound" "Parted.bound" a3E f fd) (GL:Fns P w K mg base ["numbers"] "least" a3F 2) (M:Mt P w K mg base C "least_sum" ["self","letter","first","end","last"] (spLs C) 2) (rc:PC K C) (ml:mg "len"=none) (mr:mg "range"=none):a0O P w K mg base CX0 3 f fd ["self","first","end"] (a4C C):=by
 refine F.ok (k:=2) b2J (fun vs H Q E h=>?_) (fun cdv A outer s H vs Q E hr h=>?_)
 ·obtain ⟨r,p,ps,ws,X,h,t,i,j,rfl,_⟩:=h
  rfl
 obtain ⟨r,p,ps,ws,X,h,t,i,j,rfl,pa,w20,p10,hij,hj,q⟩:=h
 refine ⟨_,a0f (a1e (a0B a1G (a0p a1q (pv 2) (pv 1)) a0g (nomark _)) (a0h (a0r a0g)) a0D)
  (a0h (a0r (a0l GL.ok hr (by rfl) GL.m GL.kp GL.b .nil a0C (a0a (a1W (M:=NB) rfl (a0q.of (a0b a3E) NB rfl rfl rfl (by decide +kernel) (by decide +kernel) (by decide +kernel) rfl (by decide +kernel)) ndB rfl (by rfl) mr (a0a (a0o a0i (by rfl) ml PySem.boot_len (a0a (a0F (pv 0) rfl) a0d)) a0d) (a0T (a8j (a0T (a8X a0V) a1B)) a1B)
   (fun cl C s0 H0 fp=>⟨a0X,a1w (pv 1) rc.c M.m M.ok hr M.b .nil a0C (a0a (pv 0) (a0a (pv 2) (a0a (pv 3) (a0a (a0p a1q (pv 3) a0g) a0d))))⟩)) a0d)))),?_⟩
 obtain ⟨dx,ho⟩:=pa.ob
 refine ⟨_,rfl,_,rfl,_,_,rfl,rfl,rfl,_,rfl,?_⟩
 refine a1C (fun z=>?_) (fun z=>?_)
 ·have z1:j - i=1:=by
   have y:V.int ((j:Int) - (i:Int))=V.int 1:=of_decide_eq_true z
   have:=V.int.inj y
   omega
  have:=q H (a0x.refl _)
  unfold bnd at this
  rw [if_pos z1] at this
  exact this
 ·have z1:¬ j - i=1:=fun y=>z (decide_eq_true (by show V.int ((j:Int) - (i:Int))=V.int 1;congr 1;omega))
  unfold bnd at q
  rw [if_neg z1] at q
  refine ⟨_,rfl,r,C,dx,_,_,rfl,ho,rc.c,rc.np,rfl,p,_,rfl,.inr (SqT.of pa.hp),_,rfl,by rw [List.length_map];omega,by rw [List.length_map];omega,fun d hd=>?_⟩
  rw [List.length_map,Int.toNat_natCast]
  refine ⟨fun l H'=>a0x H H'∧H' d=some (.lst (((List.range l).map fun l=>lsum h t l i j (j - 1)).map oV)),⟨a0e hd _,a0c⟩,fun l H' hl hP=>?_,fun H' hP=>?_⟩
  ·obtain ⟨s5,hd'⟩:=hP
   rw [show (0:Int)+(l:Int)=(l:Int) from Int.zero_add _]
   have ej:(j:Int) - 1=((j - 1:Nat):Int):=by omega
   refine a0S ⟨_,rfl,r,dx,_,rfl,s5 _ _ ho,rfl,_,rfl,_,rfl,_,rfl,_,rfl,_,_,rfl,rfl,r,p,ps,ws,X,h,t,l,i,j,j - 1,(by show V.ref r :: ([V.int (l:Int),V.int (i:Int),V.int (j:Int),V.int ((j:Int) - 1)]++[])=_;rw [ej];rfl),pa.same s5,w20,hl,by omega,by omega,hj,fun H6 s6=>⟨_,s6 _ _ hd',?_,a0v hd (s5.trans s6),?_⟩⟩
   ·rw [List.length_map,List.length_map,List.length_range];exact a0s (by omega)
   ·rw [a0c,List.range_succ,List.map_append,List.map_append];rfl
  ·obtain ⟨s5,hd'⟩:=hP
   exact ⟨d,_,rfl,hd',by rw [List.length_map,List.length_range];omega,fun H6 s6=>q H6 (s5.trans s6)⟩
end
def Wt (ws:List Int) (i j:Nat):Int:=(ws.take j).sum - (ws.take i).sum
abbrev pl (ps:List Int) (l:Nat):Int:=ps.getD l 0
def Bw (ns:List Int):Prop:=∀ x∈ns,0≤x∧x≤B30
theorem sum_bd {ns:List Int} (h:Bw ns):0≤ns.sum∧ns.sum≤ns.length * B30:=by
 induction ns with
 | nil=>simp
 | cons a t ih =>
  have h1:=h a (.head _)
  have h2:=ih fun x hx=>h x (.tail _ hx)
  rw [List.sum_cons,List.length_cons]
  have e:(((t.length+1:Nat):Int)) * B30=t.length * B30+B30:=by push_cast;rw [Int.add_mul];omega
  rw [e]
  omega
theorem Wt_is {ws:List Int} {i j:Nat} (h:i≤j):Wt ws i j=((ws.take j).drop i).sum:=by
 have e:ws.take j=ws.take i++(ws.take j).drop i:=by
  have:=(List.take_append_drop i (ws.take j)).symm
  rw [List.take_take,Nat.min_eq_left h] at this
  exact this
 unfold Wt
 have e2:(ws.take j).sum=(ws.take i).sum+((ws.take j).drop i).sum:=by rw [←List.sum_append,←e]
 omega
theorem Wt_bd {ws:List Int} {i j:Nat} (h:i≤j) (b:Bw ws) (l:ws.length≤20):0≤Wt ws i j∧Wt ws i j≤20 * B30:=by
 rw [Wt_is h]
 have b2:Bw ((ws.take j).drop i):=fun x hx=>b x (List.mem_of_mem_take (List.mem_of_mem_drop hx))
 have:=sum_bd b2
 have l2:((ws.take j).drop i).length≤20:=by rw [List.length_drop,List.length_take];omega
 refine ⟨this.1,Int.le_trans this.2 ?_⟩
 exact Int.mul_le_mul_of_nonneg_right (by omega) (by decide)
theorem a2h {h1 h2 t1 t2:Nat→Nat→Nat→OI} {l i j k:Nat} (eh:∀ b,i < b→b≤k→h1 l i b=h2 l i b) (et:∀ a,i < a→a≤k→t1 (l+1) a j=t2 (l+1) a j):lsum h1 t1 l i j k=lsum h2 t2 l i j k:=by
 show lo _=lo _
 congr 1
 refine List.map_congr_left fun b hb=>?_
 have:=List.mem_range.mp hb
 rw [eh _ (by omega) (by omega),et _ (by omega) (by omega)]
structure Put (ps ws:List Int) (h t h' t':Nat→Nat→Nat→OI) (i j:Nat) (fl:OI) (m:Nat):Prop where
 oh:∀ l a b,¬ (a=i∧b=j)→h' l a b=h l a b
 ot:∀ l a b,¬ (a=i∧b=j)→t' l a b=t l a b
 oe:t' ps.length i j=t ps.length i j
 eh:∀ l,ps.length - m≤l→l < ps.length→h' l i j=oadd (some (pl ps l * Wt ws i j)) fl
 et:∀ l,ps.length - m≤l→l < ps.length→t' l i j=lo [lsum h' t' l i j j,t' (l+1) i j]
theorem Put.step {ps ws:List Int} {h t h' t':Nat→Nat→Nat→OI} {i j:Nat} {fl:OI} {m l:Nat} (u:Put ps ws h t h' t' i j fl m) (hm:m < ps.length) (el:l=ps.length - 1 - m) :
  Put ps ws h t (up3 h' l i j (oadd (some (pl ps l * Wt ws i j)) fl)) (up3 t' l i j (lo [lsum (up3 h' l i j (oadd (some (pl ps l * Wt ws i j)) fl)) t' l i j j,t' (l+1) i j])) i j fl (m+1):=by
 generalize ev:oadd (some (pl ps l * Wt ws i j)) fl=v
 have hT:∀ l',l'≠l→∀ v2 a b,up3 t' l i j v2 l' a b=t' l' a b:=fun l' hne v2 a b=>a4b fun z=>hne z.1
 have hH:∀ l',l'≠l→∀ a b,up3 h' l i j v l' a b=h' l' a b:=fun l' hne a b=>a4b fun z=>hne z.1
 generalize ev2:lo [lsum (up3 h' l i j v) t' l i j j,t' (l+1) i j]=v2
 refine ⟨fun l' a b z=>?_,fun l' a b z=>?_,?_,fun l' h1 h2=>?_,fun l' h1 h2=>?_⟩
 ·rw [a4b fun y=>z ⟨y.2.1,y.2.2⟩];exact u.oh l' a b z
 ·rw [a4b fun y=>z ⟨y.2.1,y.2.2⟩];exact u.ot l' a b z
 ·rw [hT _ (by omega)];exact u.oe
 ·by_cases e:l'=l
  ·subst e;rw [a8Y];exact ev.symm
  ·rw [hH l' e];exact u.eh l' (by omega) h2
 ·by_cases e:l'=l
  ·subst e
   rw [a8Y,←ev2,hT (l'+1) (by omega)]
   congr 2
   exact a2h (fun _ _ _=>rfl) fun a _ _=>(hT (l'+1) (by omega) _ a j).symm
  ·rw [hT l' e,u.et l' (by omega) h2,hT (l'+1) (by omega)]
   congr 2
   exact a2h (fun b _ _=>(hH l' e i b).symm) fun a _ _=>(hT (l'+1) (by omega) v2 a j).symm
section
variable {P:Program} {w:World} {K:PySem.W.Frag} {mg:Str→Option Value} {base:Heap} {f:Addr} {fd:FuncData}
abbrev NPt:List Str:=["self","first","end","floor","weight","letter","with_letter"]
def b2K (C:Addr):Sp:=fun vs H Q _=>∃ (r p:Addr) (ps ws:List Int) (X:Ad) (h t:Nat→Nat→Nat→OI) (i j:Nat) (fl:OI),vs=[.ref r,.int (i:Int),.int (j:Int),oV fl]∧PAt C H r p ps ws X h t∧ws.length≤20∧1≤ps.length∧ps.length≤10∧Bw ps∧Bw ws∧i < j∧j≤ws.length ∧
 ∀ H' h' t',KZ X ps.length (ws.length+1) H H'→PAt C H' r p ps ws X h' t'→Put ps ws h t h' t' i j fl ps.length→Q .non H'
theorem b0J:a0n NPt ["self","first","end","floor"] (a0b b3w):=⟨rfl,rfl,rfl,by decide +kernel,rfl,by decide +kernel,by decide +kernel⟩
theorem a8Z {ws:List Int} {k:Nat} (h:k≤ws.length):atI ((sums ws ws.length).map V.int) (k:Int)=some (.int (ws.take k).sum):=by
 unfold sums
 rw [List.map_map]
 exact a0Y (f:=fun i=>V.int (ws.take i).sum) (by omega)
theorem at_pl {ps:List Int} {l:Nat} (h:l < ps.length):atI (ps.map V.int) (l:Int)=some (.int (pl ps l)):=by
 rw [a2X (List.getElem?_eq_getElem h)]
 unfold pl
 rw [List.getD_eq_getElem?_getD,List.getElem?_eq_getElem h]
 rfl
theorem pl_bd {ps:List Int} (b:Bw ps) (l:Nat):0≤pl ps l∧pl ps l≤B30:=by
 unfold pl
 rw [List.getD_eq_getElem?_getD]
 cases e:ps[l]? with
 | none=>exact ⟨by show (0:Int)≤0;omega,by show (0:Int)≤B30;decide⟩
 | some x=>exact b x (List.mem_of_getElem? e)
theorem ok_put {C:Addr} (F:Fun K "put" "Parted.put" b3w f fd) (GL:Fns P w K mg base ["numbers"] "least" a3F 2) (GA:Fns P w K mg base ["one","other"] "added" a3G 2) (M:Mt P w K mg base C "least_sum" ["self","letter","first","end","last"] (spLs C) 2) (rc:PC K C) (ml:mg "len"=none) (mr:mg "range"=none):a0O P w K mg base CX0 3 f fd ["self","first","end","floor"] (b2K C):=by
 refine F.ok (k:=2) b0J (fun vs H Q E h=>?_) (fun cdv A outer s H vs Q E hr h=>?_)
 ·obtain ⟨r,p,ps,ws,X,h,t,i,j,fl,rfl,_⟩:=h
  rfl
 obtain ⟨r,p,ps,ws,X,h,t,i,j,fl,rfl,pa,w20,p1,p10,bp,bw,hij,hj,q⟩:=h
 refine ⟨_,a0f (a0t (i:=4) b0J.nd rfl (Or.inl rfl) (a0p a1q (a0y a0w (a0F (pv 0) rfl) (pv 2) (fun _ _=>rfl)) (a0y a0w (a0F (pv 0) rfl) (pv 1) (fun _ _=>rfl))))
  (a0h (a1l PassesOwn.never rfl (a3s (by rfl) mr (a0a (a0p a1q (a0o a0i (by rfl) ml PySem.boot_len (a0a (a0F (pv 0) rfl) a0d)) a0g) (a0a (a2x a1z a0g) (a0a (a2x a1z a0g) a0d)))) (a0H (i:=5) b0J.nd rfl (Or.inl rfl))
   (a0f (a2k (a0l GA.ok hr (by rfl) GA.m GA.kp GA.b .nil a0C (a0a (a0p a2L (a0y a1a (a0F (pv 0) rfl) (pv 5) (fun _ _=>rfl)) (pv 4)) (a0a (pv 3) a0d))) (a2W (a0y a0w (a0y a0w (a0F (pv 0) rfl) (pv 5) (fun _ _=>rfl)) (pv 1) (fun _ _=>rfl)) (pv 2) a1A))
   (a0f (a0t (i:=6) b0J.nd rfl (Or.inl rfl) (a1w (pv 0) rc.c M.m M.ok hr M.b .nil a0C (a0a (pv 5) (a0a (pv 1) (a0a (pv 2) (a0a (pv 2) a0d))))))
   (a0h (a2k (a0l GL.ok hr (by rfl) GL.m GL.kp GL.b .nil a0C (a0a (a0N (a0a (pv 6) (a0a (a0y a0w (a0y a0w (a0y a0w (a0F (pv 0) rfl) (a0p a0I (pv 5) a0g) (fun _ _=>rfl)) (pv 1) (fun _ _=>rfl)) (pv 2) (fun _ _=>rfl)) a0d))) a0d)) (a2W (a0y a0w (a0y a0w (a0F (pv 0) rfl) (pv 5) (fun _ _=>rfl)) (pv 1) (fun _ _=>rfl)) (pv 2) a1A))))))),?_⟩
 obtain ⟨dx,ho⟩:=pa.ob
 refine ⟨_,rfl,r,C,dx,_,_,rfl,ho,rc.c,rc.ns,rfl,_,rfl,X.su,_,_,_,rfl,rfl,SqL.of pa.su,a8Z hj,_,rfl,r,C,dx,_,_,rfl,ho,rc.c,rc.ns,rfl,_,rfl,X.su,_,_,_,rfl,rfl,SqL.of pa.su,a8Z (k:=i) (by omega),_,_,rfl,rfl,?_⟩
 have eW:(fun (x y:Int)=>V.int (x - y)) (ws.take j).sum (ws.take i).sum=.int (Wt ws i j):=rfl
 dsimp only at eW ⊢
 rw [eW]
 have wb:=Wt_bd (Nat.le_of_lt hij) bw w20
 refine ⟨_,rfl,r,C,dx,_,_,rfl,ho,rc.c,rc.np,rfl,p,_,rfl,.inr (SqT.of pa.hp),_,_,rfl,rfl,_,rfl,_,rfl,_,rfl,⟨by rw [List.length_map];omega,by rw [List.length_map];omega⟩,?_⟩
 rw [List.length_map,show ((ps.length:Int) - 1+1).toNat=ps.length by omega]
 have i1:i < ws.length+1:=by omega
 have j1:j < ws.length+1:=by omega
 refine a2N (fun m σ H'=>KZ X ps.length (ws.length+1) H H'∧(∃ h' t',PAt C H' r p ps ws X h' t'∧Put ps ws h t h' t' i j fl m)∧∃ x5 x6:Option V,σ=[some (.ref r),some (.int (i:Int)),some (.int (j:Int)),some (oV fl),some (.int (Wt ws i j)),x5,x6])
  ⟨fun _ _ _ e=>e,⟨h,t,pa,fun _ _ _ _=>rfl,fun _ _ _ _=>rfl,rfl,fun l a b=>by omega,fun l a b=>by omega⟩,_,_,rfl⟩ (fun m σ H1 hm hP=>?_) (fun σ H1 hP=>?_)
 ·obtain ⟨k1,⟨h',t',pa1,u⟩,x5,x6,rfl⟩:=hP
  obtain ⟨l,el⟩:∃ l,l=ps.length - 1 - m:=⟨_,rfl⟩
  have ev:(ps.length:Int) - 1+(m:Int) * (-1)=(l:Int):=by omega
  rw [ev]
  have hl:l < ps.length:=by omega
  obtain ⟨dx1,ho1⟩:=pa1.ob
  have pb:=pl_bd bp l
  refine ⟨_,rfl,r,C,dx1,_,_,rfl,ho1,rc.c,rc.np,rfl,_,rfl,p,_,_,_,rfl,rfl,SqT.of pa1.hp,at_pl hl,_,rfl,_,_,rfl,rfl,⟨⟨pb.1,by unfold B30 at *;omega⟩,⟨wb.1,by unfold B30 at *;omega⟩⟩,_,rfl,some (pl ps l * Wt ws i j),fl,rfl,?_⟩
  refine ⟨_,rfl,r,C,dx1,_,_,rfl,ho1,rc.c,rc.nh,rfl,_,rfl,X.th,_,_,_,rfl,rfl,SqL.of pa1.hd.o,a0Y hl,_,rfl,X.bh l,_,_,_,rfl,rfl,SqL.of (pa1.hd.b l hl),a0Y i1,_,rfl,X.ch l i,_,_,j,rfl,rfl,pa1.hd.c l i hl i1,(by rw [List.length_map,List.length_range];exact a1L j1),?_⟩
  have pa2:=pa1.puth (v:=oadd (some (pl ps l * Wt ws i j)) fl) hl i1 j1
  have k2:KZ X ps.length (ws.length+1) H (upd H1 (X.ch l i) (.lst (((List.range (ws.length+1)).map fun k=>oV (h' l i k)).set j (oV (oadd (some (pl ps l * Wt ws i j)) fl))))):=fun a o hz e=>by
   rw [a0j (fun z=>hz (.inl ⟨l,i,hl,i1,z⟩))]
   exact k1 a o hz e
  generalize upd H1 (X.ch l i) (.lst (((List.range (ws.length+1)).map fun k=>oV (h' l i k)).set j (oV (oadd (some (pl ps l * Wt ws i j)) fl))))=H2 at pa2 k2 ⊢
  obtain ⟨dx2,ho2⟩:=pa2.ob
  refine ⟨_,rfl,r,dx2,_,rfl,ho2,rfl,_,rfl,_,rfl,_,rfl,_,rfl,r,p,ps,ws,X,_,t',l,i,j,j,rfl,pa2,w20,hl,by omega,hj,hj,fun H3 s3=>?_⟩
  have pa3:=pa2.same s3
  have k3:KZ X ps.length (ws.length+1) H H3:=fun a o hz e=>s3 _ _ (k2 a o hz e)
  obtain ⟨dx3,ho3⟩:=pa3.ob
  have l1:l+1 < ps.length+1:=by omega
  refine ⟨_,rfl,_,rfl,r,C,dx3,_,_,rfl,ho3,rc.c,rc.nt,rfl,_,rfl,_,_,rfl,rfl,X.tt,_,_,_,rfl,rfl,SqL.of pa3.tl.o,a0Y l1,_,rfl,X.bt (l+1),_,_,_,rfl,rfl,SqL.of (pa3.tl.b _ l1),a0Y i1,_,rfl,X.ct (l+1) i,_,_,_,rfl,rfl,SqL.of (pa3.tl.c _ i l1 i1),a0Y j1,(by show 2≤sizeLine;decide),fun e1 he1=>?_⟩
  have s4:=a0e he1 (.lst [oV (lsum (up3 h' l i j (oadd (some (pl ps l * Wt ws i j)) fl)) t' l i j j),oV (t' (l+1) i j)])
  have g4:upd H3 e1 (.lst [oV (lsum (up3 h' l i j (oadd (some (pl ps l * Wt ws i j)) fl)) t' l i j j),oV (t' (l+1) i j)]) e1=some (.lst (([lsum (up3 h' l i j (oadd (some (pl ps l * Wt ws i j)) fl)) t' l i j j,t' (l+1) i j]:List OI).map oV)):=a0c
  generalize upd H3 e1 (.lst [oV (lsum (up3 h' l i j (oadd (some (pl ps l * Wt ws i j)) fl)) t' l i j j),oV (t' (l+1) i j)])=H4 at s4 g4 ⊢
  refine ⟨e1,_,rfl,g4,by show 2≤100;decide,fun H5 s5=>?_⟩
  have pa5:=pa3.same (s4.trans s5)
  have k5:KZ X ps.length (ws.length+1) H H5:=fun a o hz e=>(s4.trans s5) _ _ (k3 a o hz e)
  obtain ⟨dx5,ho5⟩:=pa5.ob
  have l2:l < ps.length+1:=by omega
  refine ⟨_,rfl,r,C,dx5,_,_,rfl,ho5,rc.c,rc.nt,rfl,_,rfl,X.tt,_,_,_,rfl,rfl,SqL.of pa5.tl.o,a0Y l2,_,rfl,X.bt l,_,_,_,rfl,rfl,SqL.of (pa5.tl.b _ l2),a0Y i1,_,rfl,X.ct l i,_,_,j,rfl,rfl,pa5.tl.c l i l2 i1,(by rw [List.length_map,List.length_range];exact a1L j1),?_⟩
  refine ⟨fun a o hz e=>?_,⟨_,_,pa5.putt p1 l2 i1 j1,u.step hm el⟩,_,_,rfl⟩
  rw [a0j (fun z=>hz (.inr ⟨l,i,l2,i1,z⟩))]
  exact k5 a o hz e
 ·obtain ⟨k1,⟨h',t',pa1,u⟩,x5,x6,rfl⟩:=hP
  exact q H1 h' t' k1 pa1 u
end
def Dn (f e i j:Nat):Prop:=f < i∨(i=f∧j < e)
abbrev most (ps ws:List Int) (F:Nat→Nat→OI) (i j:Nat):OI:=lo (((P ps.length 0 i j).filter fun r=>decide (1 < r.length)).map fun r=>cost (pl ps) (Wt ws) F r)
def bdO (ps ws:List Int) (F:Nat→Nat→OI) (i j:Nat):OI:=if j - i=1 then some 0 else most ps ws F i j
theorem a5i {L:Nat} {h t h' t':Nat→Nat→Nat→OI} {i j:Nat} (hij:i < j) (eh:∀ l b,i < b→b < j→h' l i b=h l i b) (et:∀ l a,i < a→a < j→t' l a j=t l a j):bnd L h' t' i j=bnd L h t i j:=by
 unfold bnd
 split
 ·rfl
 ·congr 1
  refine List.map_congr_left fun l _=>?_
  exact a2h (k:=j - 1) (fun b h1 h2=>eh l b h1 (by omega)) fun a h1 h2=>et (l+1) a h1 (by omega)
section
variable {P:Program} {w:World} {K:PySem.W.Frag} {mg:Str→Option Value} {base:Heap} {f:Addr} {fd:FuncData}
def a9a (C:Addr):Sp:=fun vs H Q _=>∃ (r p:Addr) (ps ws:List Int) (X:Ad) (h t:Nat→Nat→Nat→OI) (i:Nat),vs=[.ref r,.int (i:Int)]∧PAt C H r p ps ws X h t∧ws.length≤20∧ps.length≤10∧i < ws.length ∧
 ∀ (a:Addr) H',a0x H H'→H a=none→H' a=some (.lst ((List.range (ws.length - i)).map fun b=>oV (bnd ps.length h t i (i+b+1))))→Q (.ref a) H'
theorem scBrow:a0n ["self","first"] ["self","first"] (a0b a5V):=⟨rfl,rfl,rfl,by decide +kernel,rfl,by decide +kernel,by decide +kernel⟩
theorem ndBr:(("end":Str) :: ["self","first"]).Nodup:=by decide +kernel
theorem b2L {C:Addr} (F:Fun K "bound_row" "Parted.bound_row" a5V f fd) (M:Mt P w K mg base C "bound" ["self","first","end"] (a4C C) 3) (rc:PC K C) (mr:mg "range"=none):a0O P w K mg base CX0 4 f fd ["self","first"] (a9a C):=by
 refine F.ok (k:=3) scBrow (fun vs H Q E h=>?_) (fun cdv A outer s H vs Q E hr h=>?_)
 ·obtain ⟨r,p,ps,ws,X,h,t,i,rfl,_⟩:=h
  rfl
 obtain ⟨r,p,ps,ws,X,h,t,i,rfl,pa,w20,p10,hi,q⟩:=h
 refine ⟨_,a0h (a0r (a5c (M:=["self","first"]) rfl (a0q.of (a0b a5V) ["self","first"] rfl rfl rfl (by decide +kernel) (by decide +kernel) (by decide +kernel) rfl (by decide +kernel)) ndBr rfl (by rfl) mr (a0a (a0p a0I (pv 1) a0g) (a0a (a0p a0I (a0F (pv 0) rfl) a0g) a0d)) (a0T (a7k a3V a0V b3q) (a0T (a7k a3V (a8X a0V) b3q) a1B))
   (fun cl C s0 H0 fp=>⟨a0X,a1w (pv 1) rc.c M.m M.ok hr M.b .nil a0C (a0a (pv 2) (a0a (pv 0) a0d))⟩))),?_⟩
 obtain ⟨dx,ho⟩:=pa.ob
 refine ⟨_,rfl,_,_,rfl,rfl,_,rfl,r,C,dx,_,_,rfl,ho,rc.c,rc.nn,rfl,_,_,rfl,rfl,_,_,rfl,⟨by omega,by omega,by omega,by omega⟩,fun d hd=>?_⟩
 have en:(((ws.length:Int)+1) - ((i:Int)+1)).toNat=ws.length - i:=by omega
 dsimp only
 rw [en]
 refine ⟨fun b H'=>a0x H H'∧H' d=some (.lst ((List.range b).map fun b=>oV (bnd ps.length h t i (i+b+1)))),⟨a0e hd _,a0c⟩,fun b H' hb hP=>?_,fun H' hP=>?_⟩
 ·obtain ⟨s5,hd'⟩:=hP
  have eb:(i:Int)+1+(b:Int)=((i+b+1:Nat):Int):=by push_cast;omega
  rw [eb]
  refine a0S ⟨_,rfl,r,dx,_,rfl,s5 _ _ ho,rfl,_,rfl,_,rfl,r,p,ps,ws,X,h,t,i,i+b+1,rfl,pa.same s5,w20,p10,by omega,by omega,fun H6 s6=>⟨_,s6 _ _ hd',?_,a0v hd (s5.trans s6),?_⟩⟩
  ·rw [List.length_map,List.length_range];exact a0s (by omega)
  ·rw [a0c,List.range_succ,List.map_append];rfl
 ·obtain ⟨s5,hd'⟩:=hP
  exact q d H' s5 hd hd'
def a3f (C:Addr):Sp:=fun vs H Q _=>∃ (r p:Addr) (ps ws:List Int) (X:Ad) (h t:Nat→Nat→Nat→OI),vs=[.ref r]∧PAt C H r p ps ws X h t∧ws.length≤20∧ps.length≤10 ∧
 ∀ (d:Addr) (ra:Nat→Addr) H',a0x H H'→H d=none→(∀ i,i < ws.length→H (ra i)=none)→(∀ i j,i < ws.length→j < ws.length→ra i=ra j→i=j)→(∀ i,i < ws.length→ra i≠d) →
  H' d=some (.lst ((List.range ws.length).map fun i=>.ref (ra i)))→(∀ i,i < ws.length→H' (ra i)=some (.lst ((List.range (ws.length - i)).map fun b=>oV (bnd ps.length h t i (i+b+1)))))→Q (.ref d) H'
theorem b0K:a0n ["self"] ["self"] (a0b a2q):=⟨rfl,rfl,rfl,by decide +kernel,rfl,by decide +kernel,by decide +kernel⟩
theorem ndBs:(("first":Str) :: ["self"]).Nodup:=by decide +kernel
theorem a9b {C:Addr} (F:Fun K "bounds" "Parted.bounds" a2q f fd) (M:Mt P w K mg base C "bound_row" ["self","first"] (a9a C) 4) (rc:PC K C) (mr:mg "range"=none):a0O P w K mg base CX0 5 f fd ["self"] (a3f C):=by
 refine F.ok (k:=4) b0K (fun vs H Q E h=>?_) (fun cdv A outer s H vs Q E hr h=>?_)
 ·obtain ⟨r,p,ps,ws,X,h,t,rfl,_⟩:=h
  rfl
 obtain ⟨r,p,ps,ws,X,h,t,rfl,pa,w20,p10,qq⟩:=h
 refine ⟨_,a0h (a0r (a1W (M:=["self"]) rfl (a0q.of (a0b a2q) ["self"] rfl rfl rfl (by decide +kernel) (by decide +kernel) (by decide +kernel) rfl (by decide +kernel)) ndBs rfl (by rfl) mr (a0a (a0F (pv 0) rfl) a0d) (a0T (a8X a0V) a1B)
   (fun cl C s0 H0 fp=>⟨a0X,a1w (pv 1) rc.c M.m M.ok hr M.b .nil a0C (a0a (pv 0) a0d)⟩))),?_⟩
 obtain ⟨dx,ho⟩:=pa.ob
 refine ⟨_,rfl,r,C,dx,_,_,rfl,ho,rc.c,rc.nn,rfl,_,rfl,by omega,by omega,fun d hd=>?_⟩
 rw [Int.toNat_natCast]
 refine ⟨fun i H'=>a0x H H'∧∃ ra:Nat→Addr,(∀ k,k < i→H (ra k)=none)∧(∀ j k,j < i→k < i→ra j=ra k→j=k)∧(∀ k,k < i→ra k≠d)∧H' d=some (.lst ((List.range i).map fun k=>.ref (ra k)))∧∀ k,k < i→H' (ra k)=some (.lst ((List.range (ws.length - k)).map fun b=>oV (bnd ps.length h t k (k+b+1)))),⟨a0e hd _,fun _=>d,fun k hk=>absurd hk (Nat.not_lt_zero _),fun j k hj=>absurd hj (Nat.not_lt_zero _),fun k hk=>absurd hk (Nat.not_lt_zero _),a0c,fun k hk=>absurd hk (Nat.not_lt_zero _)⟩,fun i H1 hi hP=>?_,fun H1 hP=>?_⟩
 ·obtain ⟨s1,ca,c1,c2,c3,c4,c5⟩:=hP
  rw [show (0:Int)+(i:Int)=(i:Int) from Int.zero_add _]
  refine a0S ⟨_,rfl,r,dx,_,rfl,s1 _ _ ho,rfl,_,rfl,r,p,ps,ws,X,h,t,i,rfl,pa.same s1,w20,p10,hi,fun a H2 s2 hp2 g2=>?_⟩
  have pd:a≠d:=fun z=>by rw [z,c4] at hp2;cases hp2
  have pk:∀ k,k < i→ca k≠a:=fun k hk z=>by rw [←z,c5 k hk] at hp2;cases hp2
  refine ⟨_,s2 _ _ c4,?_,a0v hd (s1.trans s2),ext ca i a,fun k hk=>?_,fun j k hj hk e=>?_,fun k hk=>?_,?_,fun k hk=>?_⟩
  ·rw [List.length_map,List.length_range];exact a0s (by omega)
  ·by_cases z:k=i
   ·rw [a0E z];exact s1.free hp2
   ·rw [a0Q z];exact c1 k (by omega)
  ·by_cases z1:j=i <;> by_cases z2:k=i
   ·omega
   ·rw [a0E z1,a0Q z2] at e
    exact absurd e.symm (pk k (by omega))
   ·rw [a0Q z1,a0E z2] at e
    exact absurd e (pk j (by omega))
   ·rw [a0Q z1,a0Q z2] at e
    exact c2 j k (by omega) (by omega) e
  ·by_cases z:k=i
   ·rw [a0E z];exact pd
   ·rw [a0Q z];exact c3 k (by omega)
  ·rw [a0c,List.range_succ,List.map_append]
   refine congrArg (fun z=>some (HO.lst z)) ?_
   congr 1
   ·refine List.map_congr_left fun k hk=>?_
    rw [a0Q (by have:=List.mem_range.mp hk;omega)]
   ·show [V.ref a]=[V.ref (ext ca i a i)]
    rw [a0E rfl]
  ·by_cases z:k=i
   ·rw [a0E z,a0j pd,z];exact g2
   ·rw [a0Q z,a0j (c3 k (by omega))];exact s2 _ _ (c5 k (by omega))
 ·obtain ⟨s1,ca,c1,c2,c3,c4,c5⟩:=hP
  exact qq d ca H1 s1 hd c1 c2 c3 c4 c5
structure Num (ps ws:List Int):Prop where
 p2:2≤ps.length
 p10:ps.length≤10
 w1:1≤ws.length
 w20:ws.length≤20
 bp:Bw ps
 bw:Bw ws
structure Cl (P:Program) (w:World) (K:PySem.W.Frag) (mg:Str→Option Value) (base:Heap) (C:Addr) where
 rc:PC K C
 g:mg "Parted"=some (.ref C)
 fi:Addr
 di:FuncData
 mkk:Mk K C fi
 oki:a0O P w K mg base CX0 3 fi di ["self","prices","weights"] (a8V C)
 bi:a1E K di ["self","prices","weights"] []
end
structure Fin (ps ws:List Int) (h t:Nat→Nat→Nat→OI) (F:Nat→Nat→OI) (pr:Nat→Nat→Prop):Prop where
 dg:∀ l i,l≤ps.length→i≤ws.length→t l i i=some 0
 ed:∀ i j,i < j→j≤ws.length→t ps.length i j=none
 eq:∀ i j,i < j→j≤ws.length→pr i j→Eqs (pl ps) (Wt ws) F ps.length h t i j
theorem Fin.weak {ps ws:List Int} {h t:Nat→Nat→Nat→OI} {F:Nat→Nat→OI} {pr pr':Nat→Nat→Prop} (a:Fin ps ws h t F pr) (h1:∀ i j,i < j→j≤ws.length→pr' i j→pr i j):Fin ps ws h t F pr' :=
 ⟨a.dg,a.ed,fun i j hij hj hp=>a.eq i j hij hj (h1 i j hij hj hp)⟩
theorem Fin.step {ps ws:List Int} {h t h' t':Nat→Nat→Nat→OI} {F:Nat→Nat→OI} {f e:Nat} (a:Fin ps ws h t F (Dn f e)) (hfe:f < e) (he:e≤ws.length) (u:Put ps ws h t h' t' f e (F f e) ps.length):Fin ps ws h' t' F (Dn f (e+1)):=by
 refine ⟨fun l i hl hi=>?_,fun i j hij hj=>?_,fun i j hij hj hp=>?_⟩
 ·rw [u.ot l i i (by omega)];exact a.dg l i hl hi
 ·by_cases z:i=f∧j=e
  ·rw [z.1,z.2,u.oe];exact a.ed f e hfe he
  ·rw [u.ot _ i j z];exact a.ed i j hij hj
 ·by_cases z:i=f∧j=e
  ·obtain ⟨rfl,rfl⟩:=z
   refine ⟨fun l hl=>?_,fun l hl=>u.et l (by omega) hl⟩
   rw [u.eh l (by omega) hl]
  ·have d:Dn f e i j:=by
    rcases hp with y | y
    ·exact .inl y
    ·exact .inr ⟨y.1,by omega⟩
   have E:=a.eq i j hij hj d
   have nh:∀ b,i < b→b≤j→¬ (i=f∧b=e):=fun b h1 h2 y=>by
    rcases d with w | w <;> omega
   have nt:∀ x,i < x→x≤j→¬ (x=f∧j=e):=fun x h1 h2 y=>by
    rcases d with w | w <;> omega
   refine ⟨fun l hl=>?_,fun l hl=>?_⟩
   ·rw [u.oh l i j z];exact E.eh l hl
   ·rw [u.ot l i j z,u.ot (l+1) i j z,E.et l hl]
    congr 2
    exact (a2h (k:=j) (fun b h1 h2=>u.oh l i b (nh b h1 h2)) fun x h1 h2=>u.ot (l+1) x j (nt x h1 h2)).symm
theorem Fin.bdO {ps ws:List Int} {h t:Nat→Nat→Nat→OI} {F:Nat→Nat→OI} (a:Fin ps ws h t F (fun _ _=>True)):∀ i j,i < j→j≤ws.length→bnd ps.length h t i j=bdO ps ws F i j:=fun f e hfe he=>by
 unfold K66.bdO
 by_cases e1:e - f=1
 ·unfold bnd;rw [if_pos e1,if_pos e1]
 ·rw [if_neg e1]
  exact b0z (p:=pl ps) (W:=Wt ws) (F:=F) a.dg a.ed (fun l c hl h1 h2=>(a.eq f c h1 (by omega) trivial).eh l hl) (fun x y h1 h2 h3=>a.eq x y h2 h3 trivial) (by omega) he
def up2 (F:Nat→Nat→OI) (i j:Nat) (v:OI):Nat→Nat→OI:=fun a b=>if a=i∧b=j then v else F a b
theorem a5j {p:Nat→Int} {W:Nat→Nat→Int} {F:Nat→Nat→OI}:∀ {r:Pa},cost p W F r=none↔∃ q∈r,F q.1 q.2.1=none
 | []=>⟨fun z=>(by cases z),fun ⟨q,h,_⟩=>(by cases h)⟩
 | q :: r=>by
  have ih:=a5j (p:=p) (W:=W) (F:=F) (r:=r)
  show oadd (part p W F q) (cost p W F r)=none↔_
  unfold part
  cases e1:F q.1 q.2.1 with
  | none=>exact ⟨fun _=>⟨q,.head _,e1⟩,fun _=>rfl⟩
  | some v =>
   cases e2:cost p W F r with
   | none =>
    obtain ⟨q',h',e'⟩:=ih.mp e2
    exact ⟨fun _=>⟨q',.tail _ h',e'⟩,fun _=>rfl⟩
   | some u =>
    refine ⟨fun z=>(by cases z),fun ⟨q',h',e'⟩=>?_⟩
    rcases List.mem_cons.mp h' with z | z
    ·rw [z,e1] at e';cases e'
    ·rw [ih.mpr ⟨q',z,e'⟩] at e2;cases e2
structure Fln (ps ws:List Int) (h t:Nat→Nat→Nat→OI) (F:Nat→Nat→OI) (pr:Nat→Nat→Prop):Prop where
 fin:Fin ps ws h t F pr
 bd:∀ i j,i < j→j≤ws.length→pr i j→bnd ps.length h t i j=F i j
theorem Fln.weak {ps ws:List Int} {h t:Nat→Nat→Nat→OI} {F:Nat→Nat→OI} {pr pr':Nat→Nat→Prop} (a:Fln ps ws h t F pr) (h1:∀ i j,i < j→j≤ws.length→pr' i j→pr i j):Fln ps ws h t F pr' :=
 ⟨a.fin.weak h1,fun i j hij hj hp=>a.bd i j hij hj (h1 i j hij hj hp)⟩
theorem Fln.step {ps ws:List Int} {h t h' t':Nat→Nat→Nat→OI} {F:Nat→Nat→OI} {f e:Nat} (a:Fln ps ws h t F (Dn f e)) (hfe:f < e) (he:e≤ws.length) (u:Put ps ws h t h' t' f e (bnd ps.length h t f e) ps.length):∃ F',Fln ps ws h' t' F' (Dn f (e+1)):=by
 have nd:∀ {i j},Dn f e i j→¬ (i=f∧j=e):=fun d z=>by rcases d with w | w <;> omega
 have ef:up2 F f e (bnd ps.length h t f e) f e=bnd ps.length h t f e:=by unfold up2;rw [if_pos ⟨rfl,rfl⟩]
 have a':Fin ps ws h t (up2 F f e (bnd ps.length h t f e)) (Dn f e):=⟨a.fin.dg,a.fin.ed,fun i j hij hj hp=>⟨fun l hl=>by
  unfold up2
  rw [if_neg (nd hp)]
  exact (a.fin.eq i j hij hj hp).eh l hl,(a.fin.eq i j hij hj hp).et⟩⟩
 refine ⟨up2 F f e (bnd ps.length h t f e),a'.step hfe he (by rw [ef];exact u),fun i j hij hj hp=>?_⟩
 by_cases z:i=f∧j=e
 ·obtain ⟨rfl,rfl⟩:=z
  rw [ef,a5i hij (fun l b h1 h2=>u.oh l i b (by omega)) (fun l x h1 h2=>u.ot l x j (by omega))]
 ·have d:Dn f e i j:=by
   rcases hp with y | y
   ·exact .inl y
   ·exact .inr ⟨y.1,by omega⟩
  unfold up2
  rw [if_neg z,a5i hij (fun l b h1 h2=>u.oh l i b (fun y=>by rcases d with w | w <;> omega)) (fun l x h1 h2=>u.ot l x j (fun y=>by rcases d with w | w <;> omega))]
  exact a.bd i j hij hj d
theorem Fln.own {ps ws:List Int} {h t:Nat→Nat→Nat→OI} {F:Nat→Nat→OI} (a:Fln ps ws h t F (fun _ _=>True)):∀ i j,i < j→j≤ws.length→F i j=bdO ps ws F i j:=fun i j hij hj=>by
 rw [←a.bd i j hij hj trivial]
 exact a.fin.bdO i j hij hj
abbrev rowO (F:Nat→Nat→OI) (n i:Nat):List OI:=(List.range (n - i)).map fun b=>F i (i+b+1)
structure FlO (H:Hp) (d:Addr) (ra:Nat→Addr) (n:Nat) (F:Nat→Nat→OI):Prop where
 o:H d=some (.lst ((List.range n).map fun i=>.ref (ra i)))
 r:∀ i,i < n→H (ra i)=some (.lst ((rowO F n i).map oV))
theorem FlO.same {H H':Hp} {d:Addr} {ra:Nat→Addr} {n:Nat} {F:Nat→Nat→OI} (h:FlO H d ra n F) (s:a0x H H'):FlO H' d ra n F:=⟨s _ _ h.o,fun i hi=>s _ _ (h.r i hi)⟩
section
variable {P:Program} {w:World} {K:PySem.W.Frag} {mg:Str→Option Value} {base:Heap} {f:Addr} {fd:FuncData}
abbrev NPl:List Str:=["prices","weights","parted","first","end"]
def spPl (C:Addr):Sp:=fun vs H Q _=>∃ (p q:Addr) (ps ws:List Int),vs=[.ref p,.ref q]∧TW H p ps∧TW H q ws∧Num ps ws∧∀ (r:Addr) X h t F H',a0x H H'→PAt C H' r p ps ws X h t→Fln ps ws h t F (fun _ _=>True)→Q (.ref r) H'
theorem scPl:a0n NPl ["prices","weights"] (a0b sPl):=⟨rfl,rfl,rfl,by decide +kernel,rfl,by decide +kernel,by decide +kernel⟩
theorem ok_pl {C:Addr} (F:Fun K "parted_least" "parted_least" sPl f fd) (cl:Cl P w K mg base C) (MP:Mt P w K mg base C "put" ["self","first","end","floor"] (b2K C) 4) (MB:Mt P w K mg base C "bound" ["self","first","end"] (a4C C) 4) (ml:mg "len"=none) (mr:mg "range"=none):a0O P w K mg base CX0 5 f fd ["prices","weights"] (spPl C):=by
 refine F.ok (k:=4) scPl (fun vs H Q E h=>?_) (fun cdv A outer s H vs Q E hr h=>?_)
 ·obtain ⟨p,q,ps,ws,rfl,_⟩:=h
  rfl
 obtain ⟨p,q,ps,ws,rfl,hp,hq,nu,qq⟩:=h
 obtain ⟨p2,p10,w1,w20,bp,bw⟩:=nu
 refine ⟨_,a0f (a0t (i:=2) scPl.nd rfl (Or.inl rfl) (a3m cl.mkk cl.oki hr (by rfl) cl.g cl.bi .nil a0C (a0a (pv 0) (a0a (pv 1) a0d))))
  (a0f (a1l PassesOwn.never rfl (a3s (by rfl) mr (a0a (a0p a1q (a0o a0i (by rfl) ml PySem.boot_len (a0a (pv 1) a0d)) a0g) (a0a (a2x a1z a0g) (a0a (a2x a1z a0g) a0d)))) (a0H (i:=3) scPl.nd rfl (Or.inl rfl))
   (a0h (a1l PassesOwn.never rfl (a1p (by rfl) mr (a0a (a0p a0I (pv 3) a0g) (a0a (a0p a0I (a0o a0i (by rfl) ml PySem.boot_len (a0a (pv 1) a0d)) a0g) a0d))) (a0H (i:=4) scPl.nd rfl (Or.inl rfl))
    (a0h (a1c (a1w (pv 2) cl.rc.c MP.m MP.ok hr MP.b .nil a0C (a0a (pv 3) (a0a (pv 4) (a0a (a1w (pv 2) cl.rc.c MB.m MB.ok hr MB.b .nil a0C (a0a (pv 3) (a0a (pv 4) a0d))) a0d)))))))))
  (a0h (a0r (pv 2)))),?_⟩
 refine ⟨_,rfl,_,rfl,fun r dx rn hdx _=>?_⟩
 have sm:a0x H (upd (upd H dx (.own r)) r (.ins C dx [])):=a0v rn (a0e hdx _)
 refine ⟨r,dx,p,q,ps,ws,rfl,a0c,sm _ _ hp,sm _ _ hq,by omega,p10,w20,fun H1 X k1 pa1 fz=>⟨rfl,?_⟩⟩
 have s1:a0x H H1:=fun a o e=>k1 a o (fun z=>by rw [z,rn] at e;cases e) (sm a o e)
 have fz':∀ a,Z X ps.length (ws.length+1) a→H a=none:=fun a hz=>sm.free (fz a hz)
 have nz:∀ {a o},H a=some o→¬ Z X ps.length (ws.length+1) a:=fun e hz=>by rw [fz' _ hz] at e;cases e
 have st0:∃ F,Fln ps ws h0 t0 F (fun i _=>ws.length≤i):=⟨fun _ _=>none,⟨fun l i _ _=>if_pos rfl,fun i j hij _=>if_neg (by omega),fun i j hij hj hp=>absurd hp (by show ¬ ws.length≤i;omega)⟩,fun i j hij hj hp=>absurd hp (by show ¬ ws.length≤i;omega)⟩
 refine ⟨_,rfl,q,_,rfl,.inr (SqT.of (s1 _ _ hq)),_,_,rfl,rfl,_,rfl,_,rfl,_,rfl,⟨by rw [List.length_map];omega,by rw [List.length_map];omega⟩,?_⟩
 rw [List.length_map,show ((ws.length:Int) - 1+1).toNat=ws.length by omega]
 refine a2N (fun m σ H'=>a0x H H'∧(∃ h t F,PAt C H' r p ps ws X h t∧Fln ps ws h t F (fun i _=>ws.length - m≤i))∧∃ x3 x4:Option V,σ=[some (.ref p),some (.ref q),some (.ref r),x3,x4])
  ⟨s1,(by obtain ⟨F,hF⟩:=st0;exact ⟨h0,t0,F,pa1,hF⟩),_,_,rfl⟩ (fun m σ H2 hm hP=>?_) (fun σ H2 hP=>?_)
 ·obtain ⟨s2,⟨h,t,F,pa2,fn2⟩,x3,x4,rfl⟩:=hP
  obtain ⟨f,ef⟩:∃ f,f=ws.length - 1 - m:=⟨_,rfl⟩
  have ev:(ws.length:Int) - 1+(m:Int) * (-1)=(f:Int):=by omega
  rw [ev]
  have hf:f < ws.length:=by omega
  refine ⟨_,rfl,_,_,rfl,rfl,_,rfl,q,_,rfl,.inr (SqT.of (s2 _ _ hq)),_,_,rfl,rfl,_,_,rfl,⟨by omega,by omega,by rw [List.length_map];omega,by rw [List.length_map];omega⟩,?_⟩
  refine a1f (fun k σ H'=>a0x H H'∧(∃ h t F,PAt C H' r p ps ws X h t∧Fln ps ws h t F (Dn f (f+1+k)))∧∃ x4:Option V,σ=[some (.ref p),some (.ref q),some (.ref r),some (.int (f:Int)),x4])
   ⟨s2,⟨h,t,F,pa2,fn2.weak fun i j hij hj d=>by show ws.length - m≤i;rcases d with z | z <;> omega⟩,_,rfl⟩ (fun k σ H3 hk hP=>?_) (fun σ H3 hP=>?_)
  ·obtain ⟨s3,⟨h3,t3,F3,pa3,fn3⟩,x4,rfl⟩:=hP
   have hk':f+1+k≤ws.length:=by
    have:(ws.map V.int).length=ws.length:=List.length_map ..
    omega
   have ee:(f:Int)+1+(k:Int)=((f+1+k:Nat):Int):=by push_cast;omega
   rw [ee]
   obtain ⟨dx3,ho3⟩:=pa3.ob
   refine ⟨_,rfl,r,dx3,_,rfl,ho3,rfl,_,rfl,_,rfl,_,rfl,r,dx3,_,rfl,ho3,rfl,_,rfl,_,rfl,r,p,ps,ws,X,h3,t3,f,f+1+k,rfl,pa3,w20,p10,by omega,hk',fun H4 s4=>?_⟩
   refine ⟨r,p,ps,ws,X,h3,t3,f,f+1+k,_,rfl,pa3.same s4,w20,by omega,p10,bp,bw,by omega,hk',fun H5 h5 t5 k5 pa5 u=>?_⟩
   obtain ⟨F5,fn5⟩:=fn3.step (by omega) hk' u
   exact ⟨fun a o e=>k5 a o (nz e) (s4 _ _ (s3 _ _ e)),⟨h5,t5,F5,pa5,fn5⟩,_,rfl⟩
  ·obtain ⟨s3,⟨h3,t3,F3,pa3,fn3⟩,x4,rfl⟩:=hP
   have en:(((((ws.map V.int).length:Nat):Int)+1) - ((f:Int)+1)).toNat=ws.length - f:=by rw [List.length_map];omega
   rw [en] at fn3
   exact ⟨s3,⟨h3,t3,F3,pa3,fn3.weak fun i j hij hj d=>by
    have d:ws.length - (m+1)≤i:=d
    by_cases z:f < i
    ·exact .inl z
    ·exact .inr ⟨by omega,by omega⟩⟩,_,_,rfl⟩
 ·obtain ⟨s2,⟨h,t,F,pa2,fn2⟩,x3,x4,rfl⟩:=hP
  exact ⟨_,rfl,qq r X h t F H2 s2 pa2 (fn2.weak fun i j _ _ _=>by show ws.length - ws.length≤i;omega)⟩
theorem scLf:a0n ["prices","weights"] ["prices","weights"] (a0b sLf):=⟨rfl,rfl,rfl,by decide +kernel,rfl,by decide +kernel,by decide +kernel⟩
end
namespace CT
def mi (xs:List Int):OI:=lo (xs.map some)
def ct (xs:List Int):Nat:=match mi xs with
 | none=>0
 | some m=>xs.count m
theorem a1M {xs:List Int} {m:Int}:mi xs=some m↔m∈xs∧∀ k∈xs,m≤k:=by
 unfold mi
 rw [a1t]
 constructor
 ·rintro ⟨h1,h2⟩
  obtain ⟨x,hx,e⟩:=List.mem_map.mp h1
  cases e
  exact ⟨hx,fun k hk=>h2 k (List.mem_map.mpr ⟨k,hk,rfl⟩)⟩
 ·rintro ⟨h1,h2⟩
  refine ⟨List.mem_map.mpr ⟨m,h1,rfl⟩,fun k hk=>?_⟩
  obtain ⟨x,hx,e⟩:=List.mem_map.mp hk
  cases e
  exact h2 _ hx
theorem a2S {xs:List Int}:mi xs=none↔xs=[]:=by
 unfold mi
 rw [a1K]
 constructor
 ·intro h
  cases xs with
  | nil=>rfl
  | cons x xs=>exact absurd (.head _) (h x)
 ·rintro rfl k hk
  cases hk
theorem b2M {α:Type} (B:List α) (X:α→List Int):mi (B.flatMap X)=lo (B.map fun b=>mi (X b)):=by
 unfold mi
 rw [List.map_flatMap,a3w]
def sums (k:Int) (as bs:List Int):List Int:=as.flatMap fun a=>bs.map fun b=>k+a+b
theorem b2N (k:Int) (as bs:List Int):mi (sums k as bs)=oadd (oadd (some k) (mi as)) (mi bs):=by
 cases ea:mi as with
 | none =>
  rw [a2S.mp ea]
  exact a2S.mpr rfl
 | some a =>
  cases eb:mi bs with
  | none =>
   rw [a2S.mp eb]
   refine a2S.mpr ?_
   unfold sums
   rw [List.flatMap_eq_nil_iff]
   intro x _
   rfl
  | some b =>
   obtain ⟨a1,a2⟩:=a1M.mp ea
   obtain ⟨b1,b2⟩:=a1M.mp eb
   refine a1M.mpr ⟨List.mem_flatMap.mpr ⟨a,a1,List.mem_map.mpr ⟨b,b1,rfl⟩⟩,fun x hx=>?_⟩
   obtain ⟨a',ha,hx⟩:=List.mem_flatMap.mp hx
   obtain ⟨b',hb,rfl⟩:=List.mem_map.mp hx
   have:=a2 a' ha
   have:=b2 b' hb
   omega
abbrev a0z:=List (List Int)
def Bk (L l m:Nat):List (Nat × Nat):=(List.range (L - l)).flatMap fun a=>(List.range m).map fun b=>(l+a,b)
theorem a1r {L l m:Nat} {q:Nat × Nat}:q∈Bk L l m↔l≤q.1∧q.1 < L∧q.2 < m:=by
 unfold Bk
 constructor
 ·intro h
  obtain ⟨a,ha,h⟩:=List.mem_flatMap.mp h
  obtain ⟨b,hb,rfl⟩:=List.mem_map.mp h
  have:=List.mem_range.mp ha
  have:=List.mem_range.mp hb
  exact ⟨by show l≤l+a;omega,by show l+a < L;omega,by assumption⟩
 ·rintro ⟨h1,h2,h3⟩
  refine List.mem_flatMap.mpr ⟨q.1 - l,List.mem_range.mpr (by omega),List.mem_map.mpr ⟨q.2,List.mem_range.mpr h3,?_⟩⟩
  rw [show l+(q.1 - l)=q.1 by omega]
section
variable (L n:Nat) (h t:Nat→Nat→Nat→OI) (F:Nat→Nat→OI) (p:Nat→Int) (W:Nat→Nat→Int)
def vl (i j:Nat) (q:Nat × Nat):OI:=oadd (h q.1 i (i+q.2+1)) (t (q.1+1) (i+q.2+1) j)
structure Tb:Prop where
 dg:∀ l j,l≤L→j≤n→t l j j=some 0
 tt:∀ l i j,l≤L→i < j→j≤n→t l i j=lo ((Bk L l (j - i)).map (vl h t i j))
 ff:∀ i j,i < j→j≤n→F i j=if j - i=1 then some 0 else lo ((Bk L 0 (j - 1 - i)).map (vl h t i j))
 hh:∀ l i j,l < L→i < j→j≤n→h l i j=oadd (some (p l * W i j)) (F i j)
 tn:∀ l i j,l < L→i < j→j≤n→t l i j≠none
 fn:∀ i j,i < j→j≤n→F i j≠none
 pw:∀ l i j,l < L→i < j→j≤n→0 < p l * W i j
variable (cd:Nat→Nat→Nat) (tl:Nat→Nat→Nat→Nat)
def ovr (l i j:Nat):Nat:=(((Bk L l (j - i)).filter fun q=>decide (vl h t i j q=t l i j)).map fun q=>cd i (i+q.2+1) * tl (q.1+1) (i+q.2+1) j).sum
structure Cn:Prop where
 cdE:∀ i j,i < j→j≤n→cd i j=if j - i=1 then 1 else ovr L h t cd tl 0 i j
 tlE:∀ l i j,l < L→i < j→j≤n→tl l i j=ovr L h t cd tl l i j
 td:∀ l j,l≤L→j≤n→tl l j j=1
variable (Cs:Nat→List a0z) (Rs:Nat→Nat→List a0z) (co:Nat→a0z→Int)
def ahd (l:Nat) (c:a0z):a0z:=c.map fun w=>(l:Int) :: w
def bhd (many:Nat) (q:Nat × Nat):List a0z:=if q.2+1 < many then Rs (many - (q.2+1)) (q.1+1) else [[]]
def rw' (many low most:Nat):List a0z:=(Bk L low most).flatMap fun q=>(Cs (q.2+1)).flatMap fun c=>(bhd Rs many q).map fun r=>ahd q.1 c++r
structure En:Prop where
 c1:Cs 1=[[[]]]
 cs:∀ m,1 < m→Cs m=rw' L Cs Rs m 0 (m - 1)
 rs:∀ m l,1≤m→l < L→Rs m l=rw' L Cs Rs m l m
 rL:∀ m,Rs m L=[]
 nil:∀ i,co i []=0
 one:∀ i,co i [[]]=0
 app:∀ i l m c r,c∈Cs m→co i (ahd l c++r)=p l * W i (i+m)+co i c+co (i+m) r
variable {L n h t F p W cd tl Cs Rs co}
theorem a4c {α β:Type} {f g:α→List β}:∀ {xs:List α},(∀ x∈xs,f x=g x)→xs.flatMap f=xs.flatMap g
 | [],_=>rfl
 | x :: xs,h=>by rw [List.flatMap_cons,List.flatMap_cons,h x (.head _),a4c fun y hy=>h y (.tail _ hy)]
end
end CT
end K66
namespace K66
open PySem L2
abbrev Po (ns:List Int):Prop:=∀ x∈ns,(1:Int)≤x
theorem a9c {ws:List Int} {i j:Nat} (bw:Po ws) (hij:i < j) (hj:j≤ws.length):1≤Wt ws i j:=by
 rw [Wt_is (by omega)]
 have:∀ xs:List Int,xs≠[]→(∀ x∈xs,1≤x)→1≤xs.sum:=by
  intro xs
  induction xs with
  | nil=>intro h;exact absurd rfl h
  | cons x xs ih =>
   intro _ h
   rw [List.sum_cons]
   have h1:=h x (.head _)
   by_cases e:xs=[]
   ·rw [e,List.sum_nil];omega
   ·have:=ih e fun y hy=>h y (.tail _ hy)
    omega
 refine this _ (fun z=>?_) fun x hx=>bw x (List.mem_of_mem_take (List.mem_of_mem_drop hx))
 have:=congrArg List.length z
 rw [List.length_drop,List.length_take,List.length_nil] at this
 omega
theorem a9d {ps:List Int} {l:Nat} (bp:Po ps) (hl:l < ps.length):1≤pl ps l:=by
 have:pl ps l=ps[l]'hl:=by
  unfold pl
  rw [List.getD_eq_getElem?_getD,List.getElem?_eq_getElem hl]
  rfl
 rw [this]
 exact bp _ (List.getElem_mem hl)
theorem b1v {ps ws:List Int} {F:Nat→Nat→OI} (hL:2≤ps.length) (own:∀ i j,i < j→j≤ws.length→F i j=bdO ps ws F i j):∀ d i j,j - i≤d→i < j→j≤ws.length→F i j≠none
 | 0,i,j,hd,hij,hj=>by omega
 | d+1,i,j,hd,hij,hj=>by
  rw [own i j hij hj]
  unfold bdO
  split
  ·intro z;cases z
  ·rename_i e
   intro z
   obtain ⟨r,hr⟩:=List.exists_mem_of_ne_nil _ (b2A (L:=ps.length) (i:=i) (j:=j) hL (by omega))
   cases ec:cost (pl ps) (Wt ws) F r with
   | some v=>exact absurd (List.mem_map.mpr ⟨r,hr,ec⟩) (a1K.mp z v)
   | none =>
    obtain ⟨q,hq,e'⟩:=a5j.mp ec
    have hin:=b2B hij r hr q hq
    exact b1v hL own d q.1 q.2.1 (by omega) hin.2.1 (by omega) e'
theorem b2O {L l m:Nat} (h:l < L):CT.Bk L l m=((List.range m).map fun b=>(l,b))++CT.Bk L (l+1) m:=by
 unfold CT.Bk
 obtain ⟨k,hk⟩:∃ k,L - l=k+1:=⟨L - l - 1,by omega⟩
 rw [hk,show L - (l+1)=k by omega,List.range_succ_eq_map,List.flatMap_cons,List.flatMap_map]
 congr 1
 refine CT.a4c fun a _=>?_
 refine List.map_congr_left fun b _=>?_
 rw [show l+(a+1)=l+1+a by omega]
theorem b2P (xs ys:List OI):lo (xs++ys)=lo [lo xs,lo ys]:=a5g xs ys
theorem Fln.tt {ps ws:List Int} {h t:Nat→Nat→Nat→OI} {F:Nat→Nat→OI} (a:Fln ps ws h t F (fun _ _=>True)):∀ k l i j,l+k=ps.length→i < j→j≤ws.length→t l i j=lo ((CT.Bk ps.length l (j - i)).map (CT.vl h t i j))
 | 0,l,i,j,hl,hij,hj=>by
  have e:l=ps.length:=by omega
  subst e
  rw [a.fin.ed i j hij hj]
  unfold CT.Bk
  rw [Nat.sub_self]
  exact a6F.symm
 | k+1,l,i,j,hl,hij,hj=>by
  rw [(a.fin.eq i j hij hj trivial).et l (by omega),b2O (by omega),List.map_append,b2P,a.tt k (l+1) i j (by omega) hij hj,List.map_map]
  rfl
theorem Fln.tb {ps ws:List Int} {h t:Nat→Nat→Nat→OI} {F:Nat→Nat→OI} (a:Fln ps ws h t F (fun _ _=>True)) (hL:2≤ps.length) (bp:Po ps) (bw:Po ws):CT.Tb ps.length ws.length h t F (pl ps) (Wt ws):=by
 have own:=a.own
 have fn:∀ i j,i < j→j≤ws.length→F i j≠none:=fun i j hij hj=>b1v hL own (j - i) i j (Nat.le_refl _) hij hj
 have hh:∀ l i j,l < ps.length→i < j→j≤ws.length→h l i j=oadd (some (pl ps l * Wt ws i j)) (F i j):=fun l i j hl hij hj=>(a.fin.eq i j hij hj trivial).eh l hl
 have tt:∀ l i j,l≤ps.length→i < j→j≤ws.length→t l i j=lo ((CT.Bk ps.length l (j - i)).map (CT.vl h t i j)):=fun l i j hl hij hj=>a.tt (ps.length - l) l i j (by omega) hij hj
 refine ⟨a.fin.dg,tt,fun i j hij hj=>?_,hh,fun l i j hl hij hj=>?_,fn,fun l i j hl hij hj=>?_⟩
 ·rw [←a.bd i j hij hj trivial]
  unfold bnd
  split
  ·rfl
  ·unfold CT.Bk
   rw [Nat.sub_zero,List.map_flatMap,a3w]
   congr 1
   refine List.map_congr_left fun l _=>?_
   rw [List.map_map,Nat.zero_add]
   rfl
 ·rw [tt l i j (by omega) hij hj]
  intro z
  have hm:CT.vl h t i j (l,j - i - 1)∈(CT.Bk ps.length l (j - i)).map (CT.vl h t i j):=List.mem_map.mpr ⟨_,CT.a1r.mpr ⟨Nat.le_refl _,hl,by show j - i - 1 < j - i;omega⟩,rfl⟩
  have ev:CT.vl h t i j (l,j - i - 1)=oadd (oadd (some (pl ps l * Wt ws i j)) (F i j)) (some 0):=by
   unfold CT.vl
   show oadd (h l i (i+(j - i - 1)+1)) (t (l+1) (i+(j - i - 1)+1) j)=_
   rw [show i+(j - i - 1)+1=j by omega,hh l i j hl hij hj,a.fin.dg (l+1) j (by omega) hj]
  rw [ev] at hm
  cases f:F i j with
  | none=>exact fn i j hij hj f
  | some x =>
   rw [f] at hm
   exact a1K.mp z _ hm
 ·have h1:=a9d bp hl
  have h2:=a9c bw hij hj
  exact Int.mul_pos (by omega) (by omega)
section
variable {P':Program} {w:World} {K:PySem.W.Frag} {mg:Str→Option Value} {base:Heap} {f:Addr} {fd:FuncData}
def Way (H:Hp) (i:Nat) (x:V) (q:Nat × Nat):Prop:=∃ a,x=.ref a∧H a=some (.tup [.int (q.1:Int),.int ((i+q.2+1:Nat):Int)])
theorem Way.same {H H':Hp} {i:Nat} {x:V} {q:Nat × Nat} (s:a0x H H') (h:Way H i x q):Way H' i x q:=by
 obtain ⟨a,rfl,e⟩:=h
 exact ⟨a,rfl,s _ _ e⟩
theorem Way.upd {H:Hp} {i:Nat} {x:V} {q:Nat × Nat} {d:Addr} {zs:List V} {o:HO} (hd:H d=some (.lst zs)) (h:Way H i x q):Way (L2.upd H d o) i x q:=by
 obtain ⟨a,rfl,e⟩:=h
 exact ⟨a,rfl,by rw [a0j (a0G e hd (by intro z;cases z))];exact e⟩
abbrev NWy:List Str:=["self","letter","first","end","goal","found","way","cut"]
def wys (L:Nat) (h t:Nat→Nat→Nat→OI) (l i j:Nat):List (Nat × Nat):=(CT.Bk L l (j - i)).filter fun q=>decide (CT.vl h t i j q=t l i j)
def a6I (C:Addr):Sp:=fun vs H Q _=>∃ (r p:Addr) (ps ws:List Int) (X:Ad) (h t:Nat→Nat→Nat→OI) (l i j:Nat),vs=[.ref r,.int (l:Int),.int (i:Int),.int (j:Int)]∧PAt C H r p ps ws X h t∧ws.length≤20∧ps.length≤10∧l < ps.length∧i < j∧j≤ws.length ∧
 ∀ (d:Addr) xs H',a0x H H'→H' d=some (.lst xs)→Paired (Way H' i) xs (wys ps.length h t l i j)→Q (.ref d) H'
theorem a5k:a0n NWy ["self","letter","first","end"] (a0b a7w):=⟨rfl,rfl,rfl,by decide +kernel,rfl,by decide +kernel,by decide +kernel⟩
theorem b1w (a b:OI):scal (oV a) (oV b)=true:=by cases a <;> cases b <;> rfl
theorem b1x {a b:OI} (h:oV a=oV b):a=b:=by
 cases a <;> cases b <;> first | rfl | cases h | skip
 rfl
theorem b2Q {C:Addr} (F:Fun K "ways" "Parted.ways" a7w f fd) (GA:Fns P' w K mg base ["one","other"] "added" a3G 2) (rc:PC K C) (ml:mg "len"=none) (mr:mg "range"=none):a0O P' w K mg base CX0 3 f fd ["self","letter","first","end"] (a6I C):=by
 refine F.ok (k:=2) a5k (fun vs H Q E h=>?_) (fun cdv A outer s H vs Q E hr h=>?_)
 ·obtain ⟨r,p,ps,ws,X,h,t,l,i,j,rfl,_⟩:=h
  rfl
 obtain ⟨r,p,ps,ws,X,h,t,l,i,j,rfl,pa,w20,p10,hl,hij,hj,q⟩:=h
 refine ⟨_,a0f (a0t (i:=4) a5k.nd rfl (Or.inl rfl) (a0y a0w (a0y a0w (a0y a0w (a0F (pv 0) rfl) (pv 1) (fun _ _=>rfl)) (pv 2) (fun _ _=>rfl)) (pv 3) (fun _ _=>rfl)))
  (a0f (a0t (i:=5) a5k.nd rfl (Or.inl rfl) (a0N a0d))
  (a0f (a1l PassesOwn.never rfl (a1p (by rfl) mr (a0a (pv 1) (a0a (a0o a0i (by rfl) ml PySem.boot_len (a0a (a0F (pv 0) rfl) a0d)) a0d))) (a0H (i:=6) a5k.nd rfl (Or.inl rfl))
   (a0h (a1l PassesOwn.never rfl (a1p (by rfl) mr (a0a (a0p a0I (pv 2) a0g) (a0a (a0p a0I (pv 3) a0g) a0d))) (a0H (i:=7) a5k.nd rfl (Or.inl rfl))
    (a0h (a1e (a0B a1G (a0l GA.ok hr (by rfl) GA.m GA.kp GA.b .nil a0C (a0a (a0y a0w (a0y a0w (a0y a0w (a0F (pv 0) rfl) (pv 6) (fun _ _=>rfl)) (pv 2) (fun _ _=>rfl)) (pv 7) (fun _ _=>rfl)) (a0a (a0y a0w (a0y a0w (a0y a0w (a0F (pv 0) rfl) (a0p a0I (pv 6) a0g) (fun _ _=>rfl)) (pv 7) (fun _ _=>rfl)) (pv 3) (fun _ _=>rfl)) a0d))) (pv 4) (nomark _))
     (a0h (a1c (a4W PySem.F.plainAttrs_list PySem.F.slot_list_append PySem.F.type_list_append a1U (pv 5) (a0a (a1h (a0a (pv 6) (a0a (pv 7) a0d))) a0d)))) a0D)))))
  (a0h (a0r (pv 5))))),?_⟩
 obtain ⟨dx,ho⟩:=pa.ob
 have i1:i < ws.length+1:=by omega
 have j1:j < ws.length+1:=by omega
 refine ⟨_,rfl,r,C,dx,_,_,rfl,ho,rc.c,rc.nt,rfl,_,rfl,X.tt,_,_,_,rfl,rfl,SqL.of pa.tl.o,a0Y (k:=l) (by omega),_,rfl,X.bt l,_,_,_,rfl,rfl,SqL.of (pa.tl.b l (by omega)),a0Y i1,_,rfl,X.ct l i,_,_,_,rfl,rfl,SqL.of (pa.tl.c l i (by omega) i1),a0Y j1,?_⟩
 refine ⟨(by show 0≤sizeLine;decide),fun d hd=>?_⟩
 have s1:=a0e hd (.lst [])
 have g1:upd H d (.lst []) d=some (.lst []):=a0c
 generalize upd H d (.lst [])=H1 at s1 g1 ⊢
 refine ⟨_,rfl,_,rfl,r,C,dx,_,_,rfl,s1 _ _ ho,rc.c,rc.np,rfl,p,_,rfl,.inr (SqT.of (s1 _ _ pa.hp)),?_⟩
 rw [List.length_map]
 refine ⟨_,_,rfl,⟨by omega,by omega,by omega,by omega⟩,?_⟩
 have e0:((ps.length:Int) - (l:Int)).toNat=ps.length - l:=by omega
 rw [e0]
 let pw:Nat × Nat→Bool:=fun q=>decide (CT.vl h t i j q=t l i j)
 have fin:∀ a,(((List.range a).flatMap fun a=>(List.range (j - i)).map fun b=>(l+a,b)).filter pw).length≤a * (j - i):=fun a=>by
  refine Nat.le_trans (List.length_filter_le _ _) ?_
  induction a with
  | zero=>simp
  | succ a ih=>rw [List.range_succ,List.flatMap_append,List.length_append,Nat.succ_mul];simp;simp at ih;omega
 refine a1f (fun a σ H'=>a0x H H'∧(∃ xs,H' d=some (.lst xs)∧Paired (Way H' i) xs (((List.range a).flatMap fun a=>(List.range (j - i)).map fun b=>(l+a,b)).filter pw))∧∃ x6 x7:Option V,σ=[some (.ref r),some (.int (l:Int)),some (.int (i:Int)),some (.int (j:Int)),some (oV (t l i j)),some (.ref d),x6,x7])
  ⟨s1,⟨[],g1,.nil⟩,_,_,rfl⟩ (fun a σ H2 ha hP=>?_) (fun σ H2 hP=>?_)
 ·obtain ⟨s2,⟨xs2,g2,w2⟩,x6,x7,rfl⟩:=hP
  have ea:(l:Int)+(a:Int)=((l+a:Nat):Int):=by push_cast;rfl
  rw [ea]
  refine ⟨_,rfl,_,_,rfl,rfl,_,rfl,_,_,rfl,rfl,_,_,rfl,⟨by omega,by omega,by omega,by omega⟩,?_⟩
  have e1:(((j:Int)+1) - ((i:Int)+1)).toNat=j - i:=by omega
  rw [e1]
  refine a1f (fun b σ H'=>a0x H H'∧(∃ xs,H' d=some (.lst xs)∧Paired (Way H' i) xs ((((List.range a).flatMap fun a=>(List.range (j - i)).map fun b=>(l+a,b))++(List.range b).map fun b=>(l+a,b)).filter pw))∧∃ x7:Option V,σ=[some (.ref r),some (.int (l:Int)),some (.int (i:Int)),some (.int (j:Int)),some (oV (t l i j)),some (.ref d),some (.int ((l+a:Nat):Int)),x7])
   ⟨s2,⟨xs2,g2,by rw [List.range_zero,List.map_nil,List.append_nil];exact w2⟩,_,rfl⟩ (fun b σ H3 hb hP=>?_) (fun σ H3 hP=>?_)
  ·obtain ⟨s3,⟨xs,g3,w3⟩,x7,rfl⟩:=hP
   have eb:(i:Int)+1+(b:Int)=((i+b+1:Nat):Int):=by push_cast;omega
   rw [eb]
   have pa3:=pa.same s3
   have hla:l+a < ps.length:=by omega
   have hb1:i+b+1 < ws.length+1:=by omega
   have lx:xs.length≤500:=by
    rw [w3.length]
    have h1:=fin a
    have h2:a * (j - i)≤10 * 20:=Nat.mul_le_mul (by omega) (by omega)
    rw [List.filter_append,List.length_append]
    have h3:=List.length_filter_le pw ((List.range b).map fun b=>(l+a,b))
    rw [List.length_map,List.length_range] at h3
    omega
   refine ⟨_,rfl,r,C,dx,_,_,rfl,s3 _ _ ho,rc.c,rc.nh,rfl,_,rfl,X.th,_,_,_,rfl,rfl,SqL.of pa3.hd.o,a0Y hla,_,rfl,X.bh (l+a),_,_,_,rfl,rfl,SqL.of (pa3.hd.b (l+a) hla),a0Y i1,_,rfl,X.ch (l+a) i,_,_,_,rfl,rfl,SqL.of (pa3.hd.c (l+a) i hla i1),a0Y hb1,?_⟩
   refine ⟨_,rfl,r,C,dx,_,_,rfl,s3 _ _ ho,rc.c,rc.nt,rfl,_,rfl,_,_,rfl,rfl,X.tt,_,_,_,rfl,rfl,SqL.of pa3.tl.o,a0Y (k:=l+a+1) (by omega),_,rfl,X.bt (l+a+1),_,_,_,rfl,rfl,SqL.of (pa3.tl.b (l+a+1) (by omega)),a0Y hb1,_,rfl,X.ct (l+a+1) (i+b+1),_,_,_,rfl,rfl,SqL.of (pa3.tl.c (l+a+1) (i+b+1) (by omega) hb1),a0Y j1,?_⟩
   refine ⟨_,_,rfl,_,rfl,b1w _ _,_,rfl,?_⟩
   have ef:(((List.range a).flatMap fun a=>(List.range (j - i)).map fun b=>(l+a,b))++(List.range (b+1)).map fun b=>(l+a,b)).filter pw=(((List.range a).flatMap fun a=>(List.range (j - i)).map fun b=>(l+a,b))++(List.range b).map fun b=>(l+a,b)).filter pw++(if pw (l+a,b)=true then [(l+a,b)] else []):=by
    rw [List.range_succ,List.map_append,←List.append_assoc,List.filter_append]
    congr 1
    show [(l+a,b)].filter pw=_
    rw [List.filter_cons]
    rfl
   refine a1C (fun y=>?_) (fun y=>?_)
   ·have y1:pw (l+a,b)=true:=decide_eq_true (b1x (of_decide_eq_true y))
    refine ⟨_,rfl,.inl ⟨rfl,_,SqL.of g3⟩,_,rfl,_,rfl,(by show 2≤sizeLine;decide),fun tt htt=>?_⟩
    have s4:=a0e htt (.tup [.int ((l+a:Nat):Int),.int ((i+b+1:Nat):Int)])
    have g4:=s4 _ _ g3
    have ht4:upd H3 tt (.tup [.int ((l+a:Nat):Int),.int ((i+b+1:Nat):Int)]) tt=some (.tup [.int ((l+a:Nat):Int),.int ((i+b+1:Nat):Int)]):=a0c
    generalize upd H3 tt (.tup [.int ((l+a:Nat):Int),.int ((i+b+1:Nat):Int)])=H4 at s4 g4 ht4 ⊢
    refine ⟨d,_,_,rfl,rfl,g4,a0s (by omega),a0v hd (s3.trans s4),⟨_,a0c,?_⟩,_,rfl⟩
    rw [ef,if_pos y1]
    exact L2.Paired.appendP (Paired.mapP w3 fun _ _ r=>(r.same s4).upd g4) (.cons (Way.upd g4 ⟨tt,rfl,ht4⟩) .nil)
   ·have y1:¬ pw (l+a,b)=true:=fun z=>y (decide_eq_true (congrArg oV (of_decide_eq_true z)))
    exact ⟨s3,⟨xs,g3,by rw [ef,if_neg y1,List.append_nil];exact w3⟩,_,rfl⟩
  ·obtain ⟨s3,⟨xs,g3,w3⟩,x7,rfl⟩:=hP
   refine ⟨s3,⟨xs,g3,?_⟩,_,_,rfl⟩
   rw [List.range_succ,List.flatMap_append]
   simpa using w3
 ·obtain ⟨s2,⟨xs2,g2,w2⟩,x6,x7,rfl⟩:=hP
  exact ⟨_,rfl,q d xs2 H2 s2 g2 w2⟩
end
namespace CT
section
variable {L n:Nat} {h t:Nat→Nat→Nat→OI} {F:Nat→Nat→OI} {p:Nat→Int} {W:Nat→Nat→Int}
theorem only (T:Tb L n h t F p W) {i w:Nat} (hw:i+w≤n) (h2:2≤w):∀ q∈Bk L 0 w,vl h t i (i+w) q=t 0 i (i+w)→q.2 < w - 1:=by
 intro q hq ev
 by_cases z:q.2 < w - 1
 ·exact z
 exfalso
 obtain ⟨_,q2,q3⟩:=a1r.mp hq
 have e3:i+q.2+1=i+w:=by omega
 have es:vl h t i (i+w) q=oadd (oadd (some (p q.1 * W i (i+w))) (F i (i+w))) (some 0):=by
  unfold vl
  rw [e3,T.hh q.1 i (i+w) q2 (by omega) hw,T.dg (q.1+1) (i+w) (by omega) hw]
 have et:=T.tt 0 i (i+w) (Nat.zero_le _) (by omega) hw
 rw [show i+w - i=w by omega] at et
 have eF:F i (i+w)=lo ((Bk L 0 (w - 1)).map (vl h t i (i+w))):=by
  rw [T.ff i (i+w) (by omega) hw,if_neg (by omega),show i+w - 1 - i=w - 1 by omega]
 cases f:F i (i+w) with
 | none=>exact T.fn i (i+w) (by omega) hw f
 | some x =>
  have hx:=(a1t.mp (eF.symm.trans f)).1
  obtain ⟨r,hr,er⟩:=List.mem_map.mp hx
  obtain ⟨a,b,c⟩:=a1r.mp hr
  obtain ⟨m,em,hm⟩:=b0y (List.mem_map.mpr ⟨r,a1r.mpr ⟨a,b,(by omega:r.2 < w)⟩,er⟩:some x∈(Bk L 0 w).map (vl h t i (i+w)))
  rw [←et] at em
  rw [es,f,em] at ev
  have ev:some (p q.1 * W i (i+w)+x+0)=some m:=ev
  have:=Option.some.inj ev
  have pos:=T.pw q.1 i (i+w) q2 (by omega) hw
  omega
end
end CT
theorem a2d {L l i j:Nat} {h t:Nat→Nat→Nat→OI} {q:Nat × Nat}:q∈wys L h t l i j↔q∈CT.Bk L l (j - i)∧CT.vl h t i j q=t l i j:=by
 unfold wys
 rw [List.mem_filter,decide_eq_true_eq]
section
variable {L n:Nat} {h t:Nat→Nat→Nat→OI} {F:Nat→Nat→OI} {p:Nat→Int} {W:Nat→Nat→Int}
theorem a9e (T:CT.Tb L n h t F p W) {l i j:Nat} (hl:l < L) (hij:i < j) (hj:j≤n) {q:Nat × Nat} (hq:q∈wys L h t l i j):l≤q.1∧q.1 < L∧q.2+1≤j - i∧(q.2+1 < j - i→q.1+1 < L):=by
 obtain ⟨h1,h2⟩:=a2d.mp hq
 obtain ⟨a,b,c⟩:=CT.a1r.mp h1
 refine ⟨a,b,by omega,fun hlt=>?_⟩
 by_cases e:q.1+1 < L
 ·exact e
 ·exfalso
  have eL:q.1+1=L:=by omega
  have en:t (q.1+1) (i+q.2+1) j=none:=by
   rw [T.tt (q.1+1) (i+q.2+1) j (by omega) (by omega) hj,eL]
   unfold CT.Bk
   rw [Nat.sub_self]
   exact a6F
  refine T.tn l i j hl hij hj ?_
  rw [←h2]
  unfold CT.vl
  rw [en]
  cases h q.1 i (i+q.2+1) <;> rfl
theorem wys_ne (T:CT.Tb L n h t F p W) {l i j:Nat} (hl:l < L) (hij:i < j) (hj:j≤n):∃ q r,wys L h t l i j=q :: r:=by
 cases e:t l i j with
 | none=>exact absurd e (T.tn l i j hl hij hj)
 | some x =>
  have et:=T.tt l i j (by omega) hij hj
  have hx:=(a1t.mp (et.symm.trans e)).1
  obtain ⟨q,hq,ev⟩:=List.mem_map.mp hx
  have hm:q∈wys L h t l i j:=a2d.mpr ⟨hq,by rw [ev,e]⟩
  cases eq:wys L h t l i j with
  | nil=>rw [eq] at hm;cases hm
  | cons q r=>exact ⟨q,r,rfl⟩
mutual
inductive Kc (L:Nat) (h t:Nat→Nat→Nat→OI):Nat→Nat→CT.a0z→Prop
 | one (i:Nat):Kc L h t i (i+1) [[]]
 | more (i j:Nat) (c:CT.a0z):i+2≤j→Kt L h t 0 i j c→Kc L h t i j c
inductive Kt (L:Nat) (h t:Nat→Nat→Nat→OI):Nat→Nat→Nat→CT.a0z→Prop
 | nil (l j:Nat):Kt L h t l j j []
 | cons (l i j:Nat) (q:Nat × Nat) (c r:CT.a0z):q∈wys L h t l i j→Kc L h t i (i+q.2+1) c→Kt L h t (q.1+1) (i+q.2+1) j r→Kt L h t l i j (CT.ahd q.1 c++r)
end
end
def a1g (T:Addr) (H H':Hp):Prop:=∀ a o,a≠T→H a=some o→H' a=some o
theorem a1g.trans {T:Addr} {H H1 H2:Hp} (a:a1g T H H1) (b:a1g T H1 H2):a1g T H H2:=fun x o n e=>b x o n (a x o n e)
theorem a1g.of {T:Addr} {H H':Hp} (s:a0x H H'):a1g T H H':=fun a o _ e=>s a o e
theorem a0R.same {H H':Hp} {T:Addr} {lpos:Pos} {q:Str} (s:a0x H H') (x:a0R H T lpos q):a0R H' T lpos q:=by
 rcases x with e | ⟨c,e,ec⟩
 ·exact .inl (s _ _ e)
 ·exact .inr ⟨c,s _ _ e,s _ _ ec⟩
theorem a0R.tb {H:Hp} {T:Addr} {lpos:Pos} {q:Str} (x:a0R H T lpos q):∃ ps,H T=some (.tbl ps):=by
 rcases x with e | ⟨c,e,_⟩
 ·exact ⟨_,e⟩
 ·exact ⟨_,e⟩
theorem PAt.sameT {C:Addr} {H H':Hp} {r p T:Addr} {ps ws:List Int} {X:Ad} {h t:Nat→Nat→Nat→OI} {qs:Array Value} (a:PAt C H r p ps ws X h t) (hT:H T=some (.tbl qs)) (k:a1g T H H'):PAt C H' r p ps ws X h t:=by
 obtain ⟨dx,ho⟩:=a.ob
 refine ⟨⟨dx,k _ _ (a0G ho hT (by intro z;cases z)) ho⟩,k _ _ (a0G a.hp hT (by intro z;cases z)) a.hp,k _ _ (a0G a.su hT (by intro z;cases z)) a.su,⟨k _ _ (a0G a.hd.o hT (by intro z;cases z)) a.hd.o,fun l hl=>k _ _ (a0G (a.hd.b l hl) hT (by intro z;cases z)) (a.hd.b l hl),fun l i hl hi=>k _ _ (a0G (a.hd.c l i hl hi) hT (by intro z;cases z)) (a.hd.c l i hl hi)⟩,⟨k _ _ (a0G a.tl.o hT (by intro z;cases z)) a.tl.o,fun l hl=>k _ _ (a0G (a.tl.b l hl) hT (by intro z;cases z)) (a.tl.b l hl),fun l i hl hi=>k _ _ (a0G (a.tl.c l i hl hi) hT (by intro z;cases z)) (a.tl.c l i hl hi)⟩,a.ih,a.it,a.ix,a.ns⟩
def lamE:Expr:=match a0k sKw with
 | [_,.Return (some (.Call _ [_,_,_,e] _ _)) _]=>e
 | _=>.Constant .none 0 ⟨0,0,0,0⟩
def lamP:Arguments:=match lamE with | .Lambda p _ _ _=>p | _=>a0m sKw
def lamB:Expr:=match lamE with | .Lambda _ b _ _=>b | e=>e
def lamS:Scope:=match lamE with | .Lambda _ _ s _=>s | _=>a0b sKw
def a3g:Pos:=match lamE with | .Lambda _ _ _ p=>p | _=>⟨0,0,0,0⟩
abbrev a4N:Str:=(("kept_words":Str)++".<locals>.")++"<lambda>"
abbrev lamK (c:Addr) (c':Addr) (pm ctv:Value):Obj:=PySem.W.kla_obj "<lambda>" a4N lamP lamB lamS [("parted",c)] pm c' ctv
example:lamE=.Lambda lamP lamB lamS a3g:=rfl
theorem scLam (c:Addr):a6D lamS ["start","stop"] [("parted",c)]:=⟨rfl,rfl,rfl,(by show (["start","stop","parted"]:List Str).Nodup;decide +kernel),by decide +kernel,by decide +kernel,(by show ∀ y∈lamS.names,y.2=.free→y.1∈(["parted"]:List Str);decide +kernel),(by show ∀ x∈(["parted"]:List Str),lamS.names.lookup x=some .free;decide +kernel)⟩
end K66
namespace K66
open PySem L2
section
variable {P':Program} {w:World} {K:PySem.W.Frag} {mg:Str→Option Value} {base:Heap} {f:Addr} {fd:FuncData}
structure Cok (L:Nat) (h t:Nat→Nat→Nat→OI) (i j:Nat) (c:CT.a0z):Prop where
 k:Kc L h t i j c
 ln:c.length=j - i
 wd:∀ u∈c,u.length≤j - i - 1
def b2R (T:Addr) (H H':Hp):Prop:=a0R H' T a3g a4N∧∀ c',H T=some (.tbl (a1J a3g c'))→H' T=some (.tbl (a1J a3g c'))
abbrev NKw:List Str:=["parted","first","end"]
abbrev PPw:List Str:=["parted","first","end","words_of"]
abbrev NPw:List Str:=["parted","first","end","words_of","words","letter","start","way"]
def spKw (C T:Addr) (d:Nat):Sp:=fun vs H Q _=>∃ (r p:Addr) (ps ws:List Int) (X:Ad) (h t:Nat→Nat→Nat→OI) (F:Nat→Nat→OI) (i j:Nat),vs=[.ref r,.int (i:Int),.int (j:Int)]∧PAt C H r p ps ws X h t∧CT.Tb ps.length ws.length h t F (pl ps) (Wt ws)∧2≤ps.length∧ps.length≤10∧ws.length≤20∧i < j∧j≤ws.length∧j - i≤d∧a0R H T a3g a4N ∧
 ∀ (a:Addr) xs cde H',a1g T H H'→b2R T H H'→H' a=some (.lst xs)→Ws H' xs cde→Cok ps.length h t i j cde→Q (.ref a) H'
def lamR (C T:Addr) (d:Nat):Addr→List V→Hp→VK→Prop:=fun g vs H Q=>∃ (c c':Addr) (pm ctv:Value) (oc:Obj) (u:Value) (r:Addr),H g=some (exA g (lamK c c' pm ctv))∧H c'=some (cdA c' a4N)∧H c=some (exA c oc)∧oc.data=.cell (some u)∧a0U (.ref r) u∧vs.length=2 ∧
 spKw C T d (.ref r :: vs) (unt [c] H) (fun v H'=>H' c=none→Q v (rtk [c] H H')) E0
theorem lam_ok {C T:Addr} {d k:Nat} (OK:a0O P' w K mg base CX0 k f fd NKw (spKw C T d)) (mk:mg "kept_words"=some (.ref f)) (kk:PySem.W.keepIn K (.ref f)=true) (bk:a1E K fd NKw []):b2y P' w K mg base (k+1) (lamR C T d) where
 at':=fun ⟨c,c',pm,ctv,oc,u,r,e,_⟩=>⟨_,_,_,_,e⟩
 run:=fun A outer s H g us vs Q hr e0 r' h=>by
  obtain ⟨c,c',pm,ctv,oc,u,r,eg,ec',ec,ed,rv,lv,hsp⟩:=h
  have lu:us.length=2:=by rw [←r'.length];exact lv
  refine b0t (k:=k) (cvs:=[.ref r]) (scLam c) hr e0 eg ec' (by simp) (fun i x c0 hi=>?_) rfl r' lv ?_ fun xe hr'=>⟨_,a0l OK hr' (by rfl) mk kk bk .nil a0C (a0a (pv 2) (a0a (pv 0) (a0a (pv 1) a0d))),?_⟩
  ·cases i with
   | zero =>
    have hi:(("parted":Str),c)=(x,c0):=Option.some.inj hi
    cases hi
    exact ⟨oc,u,.ref r,ec,ed,rfl,rv⟩
   | succ i=>simp at hi
  ·match us,lu with
   | [u1,u2],_=>rfl
  ·match vs,lv,hsp with
   | [v1,v2],_,hsp =>
    refine ⟨_,rfl,_,rfl,_,rfl,?_⟩
    obtain ⟨r0,p,ps,ws,X,h,t,F,i,j,e,pa,T',p2,p10,w20,hij,hj,hd,tab,q⟩:=hsp
    refine ⟨r0,p,ps,ws,X,h,t,F,i,j,e,pa,T',p2,p10,w20,hij,hj,hd,tab,fun a xs cde H' s' tb' g' w' k' hn=>?_⟩
    exact q a xs cde H' s' tb' g' w' k' (hn c (by simp))
theorem a1g.upd {T d:Addr} {H H':Hp} {o:HO} (hd:H d=none) (s:a1g T H H'):a1g T H (L2.upd H' d o):=fun a u n e=>by
 rw [a0j (fun z=>by rw [z,hd] at e;cases e)]
 exact s a u n e
theorem a1g.rtk {T c:Addr} {H H':Hp} (s:a1g T (unt [c] H) H'):a1g T H (L2.rtk [c] H H'):=fun a o n e=>by
 by_cases z:a∈[c]
 ·rw [b1q z];exact e
 ·rw [a1I z];exact s a o n (by rw [a0P z];exact e)
theorem b0L {c:Addr} {H H':Hp} (n:H' c=none):a0x H' (L2.rtk [c] H H'):=fun a o e=>by
 rw [a1I (fun z=>by rw [List.mem_singleton.mp z,n] at e;cases e)]
 exact e
theorem PAt.unt {C:Addr} {H:Hp} {r p c:Addr} {ps ws:List Int} {X:Ad} {h t:Nat→Nat→Nat→OI} {oc:Obj} (a:PAt C H r p ps ws X h t) (hc:H c=some (exA c oc)):PAt C (L2.unt [c] H) r p ps ws X h t:=by
 obtain ⟨dx,ho⟩:=a.ob
 have u:∀ {b:Addr} {o:HO},H b=some o→o≠exA c oc→L2.unt [c] H b=some o:=fun {b o} e n=>by
  rw [a0P (fun z=>by rw [List.mem_singleton.mp z,hc] at e;exact n (Option.some.inj e).symm)]
  exact e
 refine ⟨⟨dx,u ho (by intro z;cases z)⟩,u a.hp (by intro z;cases z),u a.su (by intro z;cases z),⟨u a.hd.o (by intro z;cases z),fun l hl=>u (a.hd.b l hl) (by intro z;cases z),fun l i hl hi=>u (a.hd.c l i hl hi) (by intro z;cases z)⟩,⟨u a.tl.o (by intro z;cases z),fun l hl=>u (a.tl.b l hl) (by intro z;cases z),fun l i hl hi=>u (a.tl.c l i hl hi) (by intro z;cases z)⟩,a.ih,a.it,a.ix,a.ns⟩
structure Clo (H:Hp) (g c c' r:Addr):Prop where
 ex:∃ (pm ctv:Value) (oc:Obj) (u:Value),H g=some (exA g (lamK c c' pm ctv))∧H c'=some (cdA c' a4N)∧H c=some (exA c oc)∧oc.data=.cell (some u)∧a0U (.ref r) u
 ne:c'≠c
theorem Clo.same {H H':Hp} {g c c' r T:Addr} {qs:Array Value} (a:Clo H g c c' r) (hT:H T=some (.tbl qs)) (s:a1g T H H'):Clo H' g c c' r:=by
 obtain ⟨pm,ctv,oc,u,e1,e2,e3,e4,e5⟩:=a.ex
 exact ⟨⟨pm,ctv,oc,u,s _ _ (a0G e1 hT (by intro z;cases z)) e1,s _ _ (a0G e2 hT (by intro z;cases z)) e2,s _ _ (a0G e3 hT (by intro z;cases z)) e3,e4,e5⟩,a.ne⟩
theorem a0R.unt {H:Hp} {T c:Addr} {lpos:Pos} {q:Str} {oc:Obj} (x:a0R H T lpos q) (hc:H c=some (exA c oc)) (hn:∀ c',H T=some (.tbl (a1J lpos c'))→c'≠c):a0R (L2.unt [c] H) T lpos q:=by
 obtain ⟨ps,e0⟩:=a0R.tb x
 have nT:T∉[c]:=fun z=>(a0G e0 hc (by intro z;cases z)) (List.mem_singleton.mp z)
 rcases x with e | ⟨c',e,ec⟩
 ·exact .inl (by rw [a0P nT];exact e)
 ·exact .inr ⟨c',by rw [a0P nT];exact e,by rw [a0P (fun z=>hn c' e (List.mem_singleton.mp z))];exact ec⟩
def spPw (C T:Addr) (d:Nat):Sp:=fun vs H Q _=>∃ (r p g c c':Addr) (ps ws:List Int) (X:Ad) (h t:Nat→Nat→Nat→OI) (F:Nat→Nat→OI) (i j:Nat),vs=[.ref r,.int (i:Int),.int (j:Int),.ref g]∧PAt C H r p ps ws X h t∧CT.Tb ps.length ws.length h t F (pl ps) (Wt ws)∧2≤ps.length∧ps.length≤10∧ws.length≤20∧i+2≤j∧j≤ws.length∧j - i≤d+1∧H T=some (.tbl (a1J a3g c'))∧Clo H g c c' r ∧
 ∀ (a:Addr) xs cde H',a1g T H H'→H' T=some (.tbl (a1J a3g c'))→H' a=some (.lst xs)→Ws H' xs cde→Kt ps.length h t 0 i j cde→cde.length=j - i→(∀ u∈cde,u.length≤j - i - 1)→Q (.ref a) H'
theorem b2S:a0n NPw PPw (a0b sPw):=⟨rfl,rfl,rfl,by decide +kernel,rfl,by decide +kernel,by decide +kernel⟩
theorem ndPw:(("word":Str) :: NPw).Nodup:=by decide +kernel
theorem ok_pw {C T:Addr} {d k:Nat} (hk:3≤k) (F:Fun K "parted_words" "parted_words" sPw f fd) (LO:b2y P' w K mg base k (lamR C T d)) (MW':Mt P' w K mg base C "ways" ["self","letter","first","end"] (a6I C) 3) (rcP:PC K C):a0O P' w K mg base CX0 (k+1) f fd PPw (spPw C T d):=by
 refine F.ok (k:=k) b2S (fun vs H Q E h=>?_) (fun cdv A outer s H vs Q E hr h=>?_)
 ·obtain ⟨r,p,g,c,c',ps,ws,X,h,t,Fl,i,j,rfl,_⟩:=h
  rfl
 obtain ⟨r,p,g,c,c',ps,ws,X,h,t,Fl,i,j,rfl,pa,T',p2,p10,w20,hij,hj,hd,tab,clo,q⟩:=h
 have MW:=MW'.up hk
 refine ⟨_,a0f (a0t (i:=4) b2S.nd rfl (Or.inl rfl) (a0N a0d))
  (a0f (a0t (i:=5) b2S.nd rfl (Or.inl rfl) a0g)
  (a0f (a0t (i:=6) b2S.nd rfl (Or.inl rfl) (pv 1))
  (a0f (a6i PassesOwn.never (a0B a4o (pv 6) (pv 2) (nomark _))
   (a0f (a0t (i:=7) b2S.nd rfl (Or.inr rfl) (a0y a0w (a1w (pv 0) rcP.c MW.m MW.ok hr MW.b .nil a0C (a0a (pv 5) (a0a (pv 6) (a0a (pv 2) a0d)))) a0g (fun _ _=>rfl)))
   (a0f (a1c (a4W PySem.F.plainAttrs_list PySem.F.slot_list_extend PySem.F.type_list_extend a4Z (pv 4) (a0a (a2A (M:=NPw) rfl (a0q.of (a0b sPw) NPw rfl rfl rfl (by decide +kernel) (by decide +kernel) (by decide +kernel) rfl (by decide +kernel)) ndPw rfl (b1m (b0u (i:=3) LO hr rfl (Or.inl rfl) (a0a (pv 6) (a0a (a0y a1a (pv 7) a0g (fun _ _=>rfl)) a0d)))) b1n
    (fun cl C s0 H0 fp=>⟨a0X,a0p a2J (a1h (a0a (a0y (ixT K) (pv 8) a0g (fun _ _=>rfl)) a0d)) (pv 0)⟩)) a0d)))
   (a0f (a0t (i:=5) b2S.nd rfl (Or.inl rfl) (a0p a0I (a0y a1a (pv 7) a0g (fun _ _=>rfl)) a0g))
   (a0h (a0t (i:=6) b2S.nd rfl (Or.inl rfl) (a0y a1a (pv 7) a0g (fun _ _=>rfl)))))))
  )
  (a0h (a0r (pv 4)))))),?_⟩
 refine ⟨(by show 0≤sizeLine;decide),fun d1 hd1=>?_⟩
 have s1:a0x H (upd H d1 (.lst [])):=a0e hd1 _
 have g1:upd H d1 (.lst []) d1=some (.lst []):=a0c
 generalize upd H d1 (.lst [])=H1 at s1 g1 ⊢
 refine ⟨_,rfl,?_⟩
 refine ⟨fun m σ H'=>a1g T H H'∧H' T=some (.tbl (a1J a3g c'))∧∃ (l a:Nat) (acc:CT.a0z) (xs:List V) (x7:Option V),m=j - a∧i≤a∧a≤j∧(a < j→l < ps.length)∧(a=i→l=0)∧acc.length=a - i∧(∀ u∈acc,u.length≤j - i - 1)∧(∀ rr,Kt ps.length h t l a j rr→Kt ps.length h t 0 i j (acc++rr))∧H' d1=some (.lst xs)∧Ws H' xs acc∧σ=[some (.ref r),some (.int (i:Int)),some (.int (j:Int)),some (.ref g),some (.ref d1),some (.int (l:Int)),some (.int (a:Int)),x7],
  ⟨_,a1g.of s1,s1 _ _ tab,0,i,[],[],_,rfl,Nat.le_refl _,by omega,fun _=>by omega,fun _=>rfl,by simp,fun u hu=>(by cases hu),fun rr hr=>hr,g1,.nil,rfl⟩,?_⟩
 rintro m σ H2 ⟨s2,tab2,l,a,acc,xs,x7,rfl,hia,haj,hl,hl0,lac,wac,kac,g2,w2,rfl⟩
 refine ⟨_,rfl,_,rfl,_,_,rfl,rfl,_,rfl,?_⟩
 refine a1C (fun z=>?_) (fun z=>?_)
 rotate_left
 ·have z1:a=j:=by
   have:¬ (a:Int) < (j:Int):=fun y=>z (decide_eq_true y)
   omega
  subst z1
  have kt:=kac [] (.nil l a)
  rw [List.append_nil] at kt
  exact ⟨_,rfl,q d1 xs acc H2 s2 tab2 g2 w2 kt lac wac⟩
 have z1:a < j:=by
  have:(a:Int) < (j:Int):=of_decide_eq_true z
  omega
 have hl':=hl z1
 have pa2:=pa.sameT tab s2
 have clo2:=clo.same tab s2
 obtain ⟨dp,hop⟩:=pa2.ob
 obtain ⟨q0,qr,eqs⟩:=wys_ne T' hl' z1 hj
 have hq0:q0∈wys ps.length h t l a j:=by rw [eqs];exact .head _
 obtain ⟨b1,b2,b3,b4⟩:=a9e T' hl' z1 hj hq0
 have cut:a+q0.2+1 - a≤d:=by
  by_cases y:a=i
  ·have l0:=hl0 y
   subst y l0
   have hm:=a2d.mp hq0
   have:=CT.only T' (i:=a) (w:=j - a) (by omega) (by omega) q0 hm.1 (by rw [show a+(j - a)=j by omega];exact hm.2)
   omega
  ·omega
 refine ⟨_,fun σ' H' n'=>n',?_⟩
 refine ⟨_,rfl,r,dp,_,rfl,hop,rfl,_,rfl,_,rfl,_,rfl,r,p,ps,ws,X,h,t,l,a,j,rfl,pa2,w20,p10,hl',z1,hj,fun d2 ys H3 s3 g3 w3=>?_⟩
 rw [eqs] at w3
 cases w3 with
 | cons rw0 wr =>
 obtain ⟨wt,rfl,hwt⟩:=rw0
 refine ⟨d2,_,_,_,rfl,rfl,SqL.of g3,(show atI (V.ref wt :: _) 0=some (V.ref wt) from a2l (i:=0) rfl),?_⟩
 have g23:=s3 _ _ g2
 have tab3:=s3 _ _ tab2
 have clo3:=clo2.same tab2 (a1g.of s3)
 obtain ⟨pm,ctv,oc,u,e1,e2,e3,e4,e5⟩:=clo3.ex
 have pa3:=pa2.same s3
 have s03:a1g T H H3:=s2.trans (a1g.of s3)
 refine ⟨_,rfl,.inl ⟨rfl,_,SqL.of g23⟩,?_⟩
 refine ⟨fun v H'=>∃ al ws' cde,v=.ref al∧a1g T H3 H'∧H' T=some (.tbl (a1J a3g c'))∧H' al=some (.lst ws')∧Ws H' ws' cde∧Cok ps.length h t a (a+q0.2+1) cde,?_,fun v H4 hv=>?_⟩
 ·refine ⟨g,_,_,_,_,rfl,e1,_,rfl,_,rfl,wt,_,_,_,rfl,rfl,SqT.of hwt,rfl,?_⟩
  refine ⟨c,c',pm,ctv,oc,u,r,e1,e2,e3,e4,e5,rfl,?_⟩
  have tu:a0R (unt [c] H3) T a3g a4N:=a0R.unt (.inr ⟨c',tab3,e2⟩) e3 fun c2 e=>by
   rw [tab3] at e
   have:c'=c2:=by
    have h1:=HO.tbl.inj (Option.some.inj e)
    have h2:=congrArg (fun z:Array Value=>z[2]?) h1
    have h3:some (Value.ref c')=some (Value.ref c2):=h2
    cases h3
    rfl
   rw [←this]
   exact clo3.ne
  refine ⟨r,p,ps,ws,X,h,t,Fl,a,a+q0.2+1,rfl,pa3.unt e3,T',p2,p10,w20,by omega,by omega,cut,tu,fun al ws' cde H' s' tb' g' w' k' hn=>?_⟩
  have sk:=b0L (H:=H3) hn
  have nT:T∉[c]:=fun z=>(a0G tab3 e3 (by intro z;cases z)) (List.mem_singleton.mp z)
  exact ⟨al,ws',cde,rfl,s'.rtk,sk _ _ (tb'.2 c' (by rw [a0P nT];exact tab3)),sk _ _ g',Ws.same sk w',k'⟩
 obtain ⟨al,ws',cde,rfl,s4,tab4,g4,w4,k4⟩:=hv
 have neT:∀ {b:Addr} {o:HO},H3 b=some o→(∀ qs,o≠.tbl qs)→H4 b=some o:=fun {b o} e n=>s4 _ _ (a0G e tab3 (n _)) e
 have g24:H4 d1=some (.lst xs):=neT g23 fun qs=>by intro z;cases z
 have hwt4:H4 wt=some (.tup [.int (q0.1:Int),.int ((a+q0.2+1:Nat):Int)]):=neT hwt fun qs=>by intro z;cases z
 have w24:Ws H4 xs acc:=Paired.mapP (Ws.same s3 w2) fun x y hx=>by
  obtain ⟨b,zs,rfl,e,pp⟩:=hx
  exact ⟨b,zs,rfl,neT e (fun qs=>by intro z;cases z),pp⟩
 have s04:a1g T H H4:=s03.trans s4
 have lw:ws'.length=cde.length:=w4.length
 refine ⟨al,_,rfl,SqL.of g4,fun e3' he3=>?_⟩
 refine ⟨fun kk H'=>a0x H4 H'∧∃ zs,H' e3'=some (.lst zs)∧Ws H' zs ((cde.take kk).map fun u=>((q0.1:Nat):Int) :: u),⟨a0e he3 _,[],a0c,.nil⟩,fun kk H' _ hP=>SqL.of (hP.1 _ _ g4),fun kk y H' hy hP=>?_,fun H5 hP=>?_⟩
 ·obtain ⟨s5,zs,g5,w5⟩:=hP
  obtain ⟨o,ho2,ru⟩:=Paired.right_of w4 kk y hy
  obtain ⟨ua,rfl,hua⟩:=Wd.ti ru
  have kl:=(List.getElem?_eq_some_iff.mp ho2).1
  have lu:=k4.wd o (List.mem_of_getElem? ho2)
  refine a0S ⟨_,rfl,wt,_,_,_,rfl,rfl,SqT.of (s5 _ _ hwt4),rfl,(by show 1≤sizeLine;decide),fun t1 ht1=>?_⟩
  have s6:=a0e ht1 (.tup [.int (q0.1:Int)])
  have h6:upd H' t1 (.tup [.int (q0.1:Int)]) t1=some (.tup [.int (q0.1:Int)]):=a0c
  generalize upd H' t1 (.tup [.int (q0.1:Int)])=H6 at s6 h6 ⊢
  refine ⟨_,rfl,t1,ua,_,_,rfl,rfl,h6,s6 _ _ (s5 _ _ hua),small (by rw [List.length_map,List.length_singleton];omega),fun p5 H7 s7 hp5=>?_⟩
  refine ⟨zs,s7 _ _ (s6 _ _ g5),a0s (by rw [w5.length,List.length_map,List.length_take,k4.ln];omega),a0v he3 ((s5.trans s6).trans s7),_,a0c,?_⟩
  rw [List.take_add_one,ho2,List.map_append]
  exact Paired.appendP (Ws.upd (s7 _ _ (s6 _ _ g5)) (Ws.same (s6.trans s7) w5)) (.cons (Wd.upd (s7 _ _ (s6 _ _ g5)) (Wd.of hp5)) .nil)
 obtain ⟨s5,zs5,g5,w5⟩:=hP
 rw [lw,List.take_length] at w5
 have lz:zs5.length=cde.length:=by rw [w5.length,List.length_map]
 have lx:xs.length=acc.length:=w2.length
 have g25:=s5 _ _ g24
 have hwt5:=s5 _ _ hwt4
 refine ⟨d1,e3',_,_,rfl,rfl,g25,g5,small (by rw [lx,lz,lac,k4.ln];omega),?_⟩
 have hwt6:upd H5 d1 (.lst (xs++zs5)) wt=some (.tup [.int (q0.1:Int),.int ((a+q0.2+1:Nat):Int)]):=by rw [a0j (a0G hwt5 g25 (by intro z;cases z))];exact hwt5
 have tab6:upd H5 d1 (.lst (xs++zs5)) T=some (.tbl (a1J a3g c')):=by rw [a0j (a0G (s5 _ _ tab4) g25 (by intro z;cases z))];exact s5 _ _ tab4
 have s06:a1g T H (upd H5 d1 (.lst (xs++zs5))):=(s04.trans (a1g.of s5)).upd hd1
 refine ⟨_,rfl,wt,_,_,_,rfl,rfl,SqT.of hwt6,rfl,_,_,rfl,rfl,?_⟩
 refine ⟨_,rfl,wt,_,_,_,rfl,rfl,SqT.of hwt6,rfl,?_⟩
 refine ⟨_,(by omega:j - (a+q0.2+1) < j - a),s06,tab6,q0.1+1,a+q0.2+1,acc++CT.ahd q0.1 cde,xs++zs5,_,rfl,by omega,by omega,fun y=>b4 (by omega),fun y=>absurd y (by omega),?_,fun u hu=>?_,fun rr hrr=>?_,a0c,?_,rfl⟩
 ·rw [List.length_append,lac]
  unfold CT.ahd
  rw [List.length_map,k4.ln]
  omega
 ·rcases List.mem_append.mp hu with y | y
  ·exact wac u y
  ·unfold CT.ahd at y
   obtain ⟨v,hv,rfl⟩:=List.mem_map.mp y
   have:=k4.wd v hv
   rw [List.length_cons]
   by_cases ya:a=i
   ·have l0:=hl0 ya
    subst ya l0
    have hm:=a2d.mp hq0
    have:=CT.only T' (i:=a) (w:=j - a) (by omega) (by omega) q0 hm.1 (by rw [show a+(j - a)=j by omega];exact hm.2)
    omega
   ·omega
 ·rw [List.append_assoc]
  exact kac _ (.cons l a j q0 cde rr hq0 k4.k hrr)
 ·exact Ws.upd g25 (Paired.appendP (Ws.same s5 w24) w5)
structure LamC (K:PySem.W.Frag) (mg:Str→Option Value) (base:Heap) (c0 T bm:Addr):Prop where
 hd:PySem.W.codeHdIn K c0 T=true
 hbm:mg "__builtins__"=some (.ref bm)
 bo:∃ o,base.get? bm=some o∧o.cls=.type "module"∧o.dict=some builtinsNs∧o.data=.plain
 b1:bm≠builtinsNs
 b2:bm≠mainGlobals
 b3:bm≠T
 b4:mainGlobals≠T
theorem scKw:a0n NKw NKw (a0b sKw):=⟨rfl,rfl,rfl,by decide +kernel,rfl,by decide +kernel,by decide +kernel⟩
theorem ok_kw {C T c0 bm:Addr} {f2:Addr} {fd2:FuncData} (FK:Fun K "kept_words" "kept_words" sKw f fd) (hcd:fd.code=.ref c0) (LC:LamC K mg base c0 T bm) (mk:mg "kept_words"=some (.ref f)) (kk:PySem.W.keepIn K (.ref f)=true) (bk:a1E K fd NKw []) (FP:Fun K "parted_words" "parted_words" sPw f2 fd2) (mp:mg "parted_words"=some (.ref f2)) (kp:PySem.W.keepIn K (.ref f2)=true) (bp:a1E K fd2 PPw []) (MW:Mt P' w K mg base C "ways" ["self","letter","first","end"] (a6I C) 3) (rcP:PC K C):∀ d,a0O P' w K mg base CX0 (3 * d+4) f fd NKw (spKw C T d):=by
 intro d
 induction d with
 | zero =>
  refine FK.okC (k:=3) scKw (fun vs H Q E h=>?_) (fun A outer s H vs Q E hr h=>?_)
  all_goals exfalso
  all_goals (obtain ⟨r,p,ps,ws,X,h,t,F,i,j,rfl,_,_,_,_,_,h1,_,h2,_⟩:=h;omega)
 | succ d ih =>
  have LO:=lam_ok ih mk kk bk
  have OP:=ok_pw (by omega) FP LO MW rcP
  refine FK.okC (k:=3 * d+6) scKw (fun vs H Q E h=>?_) (fun A outer s H vs Q E hr h=>?_)
  ·obtain ⟨r,p,ps,ws,X,h,t,F,i,j,rfl,_⟩:=h
   rfl
  obtain ⟨r,p,ps,ws,X,h,t,F,i,j,rfl,pa,T',p2,p10,w20,hij,hj,hd,tab,q⟩:=h
  have hcl:a8M (a5v CX0 P' w K mg base NKw "kept_words" (a0b sKw) f fd.code A outer s H E).nox [("parted",s.heap.objs.size+1)]:=⟨fun q hq=>by rw [List.mem_singleton.mp hq];rfl,fun q hq=>rfl,fun q hq=>by rw [List.mem_singleton.mp hq];rfl⟩
  have LM:LamMk (a5v CX0 P' w K mg base NKw "kept_words" (a0b sKw) f fd.code A outer s H E).nox c0 T bm:=⟨hcd,LC.hd,LC.hbm,LC.bo,LC.b1,LC.b2,LC.b3,LC.b4⟩
  refine ⟨_,a0f (a1e (a0B a1G (a0p a1q (pv 2) (pv 1)) a0g (nomark _)) (a0h (a0r (a0N (a0a (a1h a0d) a0d)))) a0D)
   (a0h (a0r (b0v OP hr (by rfl) mp kp bp hcl (a0a (pv 0) (a0a (pv 1) (a0a (pv 2) (a0a (pe_lam LM (clos:=[("parted",s.heap.objs.size+1)]) rfl) a0d))))))),?_⟩
  refine ⟨_,rfl,_,rfl,_,_,rfl,rfl,rfl,_,rfl,?_⟩
  refine a1C (fun z=>?_) (fun z=>?_)
  ·have z1:j=i+1:=by
    have y:V.int ((j:Int) - (i:Int))=V.int 1:=of_decide_eq_true z
    have:=V.int.inj y
    omega
   subst z1
   refine ⟨(by show 0≤sizeLine;decide),fun t0 ht0=>?_⟩
   have s1:=a0e ht0 (.tup [])
   have h1:upd H t0 (.tup []) t0=some (.tup []):=a0c
   generalize upd H t0 (.tup [])=H1 at s1 h1 ⊢
   refine ⟨(by show 1≤sizeLine;decide),fun l1 hl1=>?_⟩
   have s2:=a0e hl1 (.lst [.ref t0])
   have s12:=s1.trans s2
   exact q l1 [.ref t0] [[]] _ (a1g.of s12) ⟨a0R.same s12 tab,fun c' e=>s12 _ _ e⟩ a0c (.cons (Wd.of (w:=[]) (s2 _ _ h1)) .nil) ⟨.one i,by simp,fun u hu=>by
    have:u=[]:=by simpa using hu
    subst this
    simp⟩
  have z1:¬ j - i=1:=fun y=>z (decide_eq_true (by show V.int ((j:Int) - (i:Int))=V.int 1;congr 1;omega))
  refine ⟨_,rfl,_,rfl,_,rfl,tab,fun c' pm ctv g H2 L=>?_⟩
  intro os hos hnn
  have hn:H2 (s.heap.objs.size+1)=none:=hnn _ (by simp)
  obtain ⟨u,hu1,hu2⟩:=hos 0 0 "parted" (s.heap.objs.size+1) (.ref r) rfl rfl rfl
  generalize s.heap.objs.size+1=c at hn hu1 L ⊢
  have st:a0x H2 (trk' [c] os H2):=fun b o e=>by
   rw [a1s (fun y=>by rw [List.mem_singleton.mp y,hn] at e;cases e)]
   exact e
  have sT:a1g T H H2:=fun b o n e=>L.ot b o n e
  obtain ⟨qs,etb⟩:=a0R.tb tab
  have tab2:trk' [c] os H2 T=some (.tbl (a1J a3g c')):=st _ _ L.tb
  have ec:trk' [c] os H2 c=some (exA c (os c)):=b1r (by simp)
  have ecd:=st _ _ L.cd
  refine ⟨r,p,g,c,c',ps,ws,X,h,t,F,i,j,rfl,(pa.sameT etb sT).same st,T',p2,p10,w20,by omega,hj,by omega,tab2,⟨⟨pm,ctv,os c,u,st _ _ L.ob,ecd,ec,hu1,hu2⟩,fun y=>by
   have:=L.cd
   rw [y,hn] at this
   cases this⟩,fun a xs cde H3 s3 tab3 g3 w3 k3 l3 wd3=>?_⟩
  have e3:H3 c=some (exA c (os c)):=s3 _ _ (a0G ec tab2 (by intro y;cases y)) ec
  have out:∀ {b:Addr} {o:HO},H3 b=some o→b≠c→unt [c] H3 b=some o:=fun {b o} e n=>by
   rw [a0P (fun y=>n (List.mem_singleton.mp y))]
   exact e
  have nec:∀ {b:Addr} {o:HO},H2 b=some o→b≠c:=fun {b o} e y=>by rw [y,hn] at e;cases e
  refine ⟨fun c2 hc2=>by rw [List.mem_singleton.mp hc2];exact e3,q a xs cde _ (fun b o n e=>?_) ⟨.inr ⟨c',out tab3 (nec L.tb),out (s3 _ _ (a0G ecd tab2 (by intro y;cases y)) ecd) (nec L.cd)⟩,fun c2 e=>?_⟩ ?_ ?_ ⟨.more i j cde (by omega) k3,l3,wd3⟩⟩
  ·have e2:=L.ot b o n e
   exact out (s3 _ _ n (st _ _ e2)) (nec e2)
  ·rw [L.sm c2 e];exact out tab3 (nec L.tb)
  ·exact out g3 (a0G g3 e3 (by intro y;cases y))
  ·exact Paired.mapP w3 fun x y hx=>by
    obtain ⟨b,zs,rfl,e,pp⟩:=hx
    exact ⟨b,zs,rfl,out e (a0G e e3 (by intro y;cases y)),pp⟩
abbrev NCk:List Str:=["prices","weights","parted","floors","code"]
structure Fnd (H:Hp) (a ca d:Addr) (ra:Nat→Addr) (ps ws:List Int) (h t:Nat→Nat→Nat→OI) (F:Nat→Nat→OI) (cde:CT.a0z):Prop where
 o:H a=some (.tup [oV (F 0 ws.length),.ref ca,.ref d])
 fl:FlO H d ra ws.length F
 own:∀ i j,i < j→j≤ws.length→F i j=bdO ps ws F i j
 cd:∃ xs,H ca=some (.tup xs)∧Ws H xs cde
 ok:Cok ps.length h t 0 ws.length cde
 T:CT.Tb ps.length ws.length h t F (pl ps) (Wt ws)
def spCk (T:Addr):Sp:=fun vs H Q _=>∃ (p q:Addr) (ps ws:List Int),vs=[.ref p,.ref q]∧TW H p ps∧TW H q ws∧Num ps ws∧Po ps∧Po ws∧a0R H T a3g a4N ∧
 ∀ (a ca d:Addr) ra h t F cde H',a1g T H H'→b2R T H H'→Fnd H' a ca d ra ps ws h t F cde→Q (.ref a) H'
theorem scCk:a0n NCk ["prices","weights"] (a0b sCk):=⟨rfl,rfl,rfl,by decide +kernel,rfl,by decide +kernel,by decide +kernel⟩
theorem ok_ck {C T:Addr} {k:Nat} (hk:7≤k) (F:Fun K "cheapest_kept" "cheapest_kept" sCk f fd) (G:Fns P' w K mg base ["prices","weights"] "parted_least" (spPl C) 5) (M:Mt P' w K mg base C "bounds" ["self"] (a3f C) 5) (GK:Fns P' w K mg base NKw "kept_words" (spKw C T 20) k) (rc:PC K C) (ml:mg "len"=none) (mt:mg "tuple"=none):a0O P' w K mg base CX0 (k+1) f fd ["prices","weights"] (spCk T):=by
 refine F.ok (k:=k) scCk (fun vs H Q E h=>?_) (fun cdv A outer s H vs Q E hr h=>?_)
 ·obtain ⟨p,q,ps,ws,rfl,_⟩:=h
  rfl
 obtain ⟨p,q,ps,ws,rfl,hp,hq,nu,pp,pw,tab,qq⟩:=h
 have G:=G.up (show 5≤k by omega)
 have M:=M.up (show 5≤k by omega)
 have w1:=nu.w1
 refine ⟨_,a0f (a0t (i:=2) scCk.nd rfl (Or.inl rfl) (a0l G.ok hr (by rfl) G.m G.kp G.b .nil a0C (a0a (pv 0) (a0a (pv 1) a0d))))
  (a0f (a0t (i:=3) scCk.nd rfl (Or.inl rfl) (a2y (pv 2) rc.c M.m M.ok hr M.b .nil a0C))
  (a0f (a0t (i:=4) scCk.nd rfl (Or.inl rfl) (a1S a1u (by rfl) mt a4v (a0a (a0l GK.ok hr (by rfl) GK.m GK.kp GK.b .nil a0C (a0a (pv 2) (a0a a0g (a0a (a0o a0i (by rfl) ml PySem.boot_len (a0a (pv 1) a0d)) a0d)))) a0d)))
  (a0h (a0r (a1h (a0a (a0y a0w (a0y a0w (pv 3) a0g (fun _ _=>rfl)) (a2x a1z a0g) (fun _ _=>rfl)) (a0a (pv 4) (a0a (pv 3) a0d)))))))),?_⟩
 refine ⟨_,rfl,_,rfl,p,q,ps,ws,rfl,hp,hq,nu,fun r X h t Fl H1 s1 pa fn=>?_⟩
 have T':=fn.tb nu.p2 pp pw
 obtain ⟨dx,ho⟩:=pa.ob
 refine ⟨_,rfl,r,dx,_,rfl,ho,rfl,r,p,ps,ws,X,h,t,rfl,pa,nu.w20,nu.p10,fun d ra H2 s2 hd h1 h2 h3 h4 h5=>?_⟩
 have fl2:FlO H2 d ra ws.length Fl:=⟨h4,fun i hi=>by
  rw [h5 i hi,List.map_map]
  refine congrArg (fun z=>some (HO.lst z)) (List.map_congr_left fun b hb=>?_)
  have:=List.mem_range.mp hb
  show oV (bnd ps.length h t i (i+b+1))=oV (Fl i (i+b+1))
  rw [fn.bd i (i+b+1) (by omega) (by omega) trivial]⟩
 have s12:=s1.trans s2
 have pa2:=pa.same s2
 have tab2:=a0R.same s12 tab
 refine ⟨_,rfl,_,rfl,q,_,rfl,.inr (SqT.of (s12 _ _ hq)),?_⟩
 rw [List.length_map]
 refine ⟨r,p,ps,ws,X,h,t,Fl,0,ws.length,rfl,pa2,T',nu.p2,nu.p10,nu.w20,by omega,Nat.le_refl _,by have:=nu.w20;omega,tab2,fun al xs cde H3 s3 tb3 g3 w3 k3=>?_⟩
 refine ⟨al,_,rfl,.inl ⟨SqL.of g3,fun ca hca=>?_⟩⟩
 have s4:=a0e hca (.tup xs)
 have g4:upd H3 ca (.tup xs) ca=some (.tup xs):=a0c
 generalize upd H3 ca (.tup xs)=H4 at s4 g4 ⊢
 obtain ⟨qs,etb⟩:=a0R.tb tab2
 have k34:∀ {b:Addr} {zs:List V},H2 b=some (.lst zs)→H4 b=some (.lst zs):=fun {b zs} e=>s4 _ _ (s3 _ _ (a0G e etb (by intro z;cases z)) e)
 have fl4:FlO H4 d ra ws.length Fl:=⟨k34 fl2.o,fun i hi=>k34 (fl2.r i hi)⟩
 have e0:atI ((rowO Fl ws.length 0).map oV) (-1)=some (oV (Fl 0 ws.length)):=by
  have hr0:rowO Fl ws.length 0=(List.range (ws.length - 1)).map (fun b=>Fl 0 (0+b+1))++[Fl 0 ws.length]:=by
   show (List.range (ws.length - 0)).map _=_
   rw [show ws.length - 0=(ws.length - 1)+1 by omega,List.range_succ,List.map_append]
   show _++[Fl 0 (0+(ws.length - 1)+1)]=_
   rw [show 0+(ws.length - 1)+1=ws.length by omega]
  rw [hr0,List.map_append]
  exact a4t _ _
 refine ⟨_,rfl,d,_,_,_,rfl,rfl,SqL.of fl4.o,a0Y (k:=0) (by omega),_,rfl,ra 0,_,_,_,rfl,rfl,SqL.of (fl4.r 0 (by omega)),e0,_,rfl,_,rfl,(by show 3≤sizeLine;decide),fun a ha=>?_⟩
 have s5:=a0e ha (.tup [oV (Fl 0 ws.length),.ref ca,.ref d])
 have s45:=s4.trans s5
 refine qq a ca d ra h t Fl cde _ ?_ ?_ ⟨a0c,fl4.same s5,fn.own,⟨xs,s5 _ _ g4,Ws.same s45 w3⟩,k3,T'⟩
 ·exact ((a1g.of s12).trans s3).trans (a1g.of s45)
 ·exact ⟨a0R.same s45 tb3.1,fun c' e=>s45 _ _ (tb3.2 c' (s12 _ _ e))⟩
end
end K66
namespace K66
namespace CT
def tabs (L:Nat):Nat→(Nat→List a0z) × (Nat→Nat→List a0z)
 | 0=>(fun _=>[],fun _ _=>[])
 | m+1=>(fun k=>if k=m+1 then (if m=0 then [[[]]] else rw' L (tabs L m).1 (tabs L m).2 (m+1) 0 m) else (tabs L m).1 k,
   fun k l=>if k=m+1 then (if l < L then rw' L (fun k=>if k=m+1 then (if m=0 then [[[]]] else rw' L (tabs L m).1 (tabs L m).2 (m+1) 0 m) else (tabs L m).1 k) (tabs L m).2 (m+1) l (m+1) else []) else (tabs L m).2 k l)
def Cs (L m:Nat):List a0z:=(tabs L m).1 m
def Rs (L m l:Nat):List a0z:=(tabs L m).2 m l
theorem a2r {α β:Type} {f g:α→List β}:∀ {xs:List α},(∀ x∈xs,f x=g x)→xs.flatMap f=xs.flatMap g
 | [],_=>rfl
 | x :: xs,h=>by rw [List.flatMap_cons,List.flatMap_cons,h x (.head _),a2r fun y hy=>h y (.tail _ hy)]
theorem a6J {L many low most:Nat} {C C':Nat→List a0z} {R R':Nat→Nat→List a0z} (hC:∀ k,1≤k→k≤most→C k=C' k) (hR:∀ k l,1≤k→k < many→R k l=R' k l):rw' L C R many low most=rw' L C' R' many low most:=by
 unfold rw'
 refine a2r fun q hq=>?_
 obtain ⟨_,_,h3⟩:=a1r.mp hq
 rw [hC (q.2+1) (by omega) (by omega)]
 have:bhd R many q=bhd R' many q:=by
  unfold bhd
  split
  ·exact hR _ _ (by omega) (by omega)
  ·rfl
 rw [this]
theorem a9f {L k:Nat}:∀ {m:Nat},k≤m→(tabs L m).1 k=Cs L k
 | 0,h=>by
  have:k=0:=by omega
  subst this;rfl
 | m+1,h=>by
  by_cases e:k=m+1
  ·subst e;rfl
  ·show (if k=m+1 then _ else (tabs L m).1 k)=_
   rw [if_neg e]
   exact a9f (by omega)
theorem a9g {L k l:Nat}:∀ {m:Nat},k≤m→(tabs L m).2 k l=Rs L k l
 | 0,h=>by
  have:k=0:=by omega
  subst this;rfl
 | m+1,h=>by
  by_cases e:k=m+1
  ·subst e;rfl
  ·show (if k=m+1 then _ else (tabs L m).2 k l)=_
   rw [if_neg e]
   exact a9g (by omega)
theorem a4d {L:Nat}:Cs L 1=[[[]]]:=rfl
theorem a7z {L m:Nat} (h:1 < m):Cs L m=rw' L (Cs L) (Rs L) m 0 (m - 1):=by
 obtain ⟨k,rfl⟩:∃ k,m=k+1:=⟨m - 1,by omega⟩
 show (if k+1=k+1 then (if k=0 then [[[]]] else rw' L (tabs L k).1 (tabs L k).2 (k+1) 0 k) else _)=_
 rw [if_pos rfl,if_neg (by omega)]
 exact a6J (fun j _ hj=>a9f hj) fun j l _ hj=>a9g (by omega)
theorem a7A {L m l:Nat} (h:1≤m) (hl:l < L):Rs L m l=rw' L (Cs L) (Rs L) m l m:=by
 obtain ⟨k,rfl⟩:∃ k,m=k+1:=⟨m - 1,by omega⟩
 show (if k+1=k+1 then (if l < L then rw' L (tabs L (k+1)).1 (tabs L k).2 (k+1) l (k+1) else []) else _)=_
 rw [if_pos rfl,if_pos hl]
 exact a6J (fun j _ hj=>a9f hj) fun j l _ hj=>a9g (by omega)
theorem a5l {L m l:Nat} (hl:¬ l < L):Rs L m l=[]:=by
 cases m with
 | zero=>rfl
 | succ k =>
  show (if k+1=k+1 then (if l < L then _ else []) else _)=_
  rw [if_pos rfl,if_neg hl]
structure Gd (L m B:Nat) (c:a0z):Prop where
 ln:c.length=m
 wd:∀ u∈c,u.length≤B∧∀ x∈u,(0:Int)≤x∧x < (L:Int)
theorem rw_gd {L many low most:Nat} {C:Nat→List a0z} {R:Nat→Nat→List a0z} {B:Nat} (hm:most≤many) (hB:most≤B) (hB2:many≤B+1) (hC:∀ k,1≤k→k≤most→∀ c∈C k,Gd L k (k - 1) c) (hR:∀ k l,1≤k→k < many→∀ r∈R k l,Gd L k k r):∀ c∈rw' L C R many low most,Gd L many B c:=by
 intro c hc
 unfold rw' at hc
 obtain ⟨q,hq,hc⟩:=List.mem_flatMap.mp hc
 obtain ⟨b,hb,hc⟩:=List.mem_flatMap.mp hc
 obtain ⟨r,hr,rfl⟩:=List.mem_map.mp hc
 obtain ⟨_,h2,h3⟩:=a1r.mp hq
 have g1:=hC (q.2+1) (by omega) (by omega) b hb
 have g2:Gd L (many - (q.2+1)) B r:=by
  unfold bhd at hr
  split at hr
  ·have:=hR _ _ (by omega) (by omega) r hr
   exact ⟨this.ln,fun u hu=>⟨by have:=(this.wd u hu).1;omega,(this.wd u hu).2⟩⟩
  ·have e:r=[]:=by simpa using hr
   subst e
   exact ⟨by simp;omega,fun u hu=>by cases hu⟩
 refine ⟨?_,fun u hu=>?_⟩
 ·rw [List.length_append,g2.ln]
  unfold ahd
  rw [List.length_map,g1.ln]
  omega
 ·rcases List.mem_append.mp hu with z | z
  ·unfold ahd at z
   obtain ⟨v,hv,rfl⟩:=List.mem_map.mp z
   have:=g1.wd v hv
   refine ⟨by rw [List.length_cons];omega,fun x hx=>?_⟩
   rcases List.mem_cons.mp hx with z | z
   ·rw [z];exact ⟨by omega,by omega⟩
   ·exact this.2 x z
  ·exact g2.wd u z
theorem a6K {L:Nat}:∀ d m,m≤d→1≤m→(∀ c∈Cs L m,Gd L m (m - 1) c)∧∀ l,∀ r∈Rs L m l,Gd L m m r
 | 0,m,h,h1=>by omega
 | d+1,m,h,h1=>by
  have ihC:∀ k,1≤k→k < m→∀ c∈Cs L k,Gd L k (k - 1) c:=fun k a b=>(a6K d k (by omega) a).1
  have ihR:∀ k l,1≤k→k < m→∀ r∈Rs L k l,Gd L k k r:=fun k l a b=>(a6K d k (by omega) a).2 l
  have hC:∀ c∈Cs L m,Gd L m (m - 1) c:=by
   by_cases e:m=1
   ·subst e
    rw [a4d]
    intro c hc
    have:c=[[]]:=by simpa using hc
    subst this
    refine ⟨rfl,fun u hu=>?_⟩
    have:u=[]:=by simpa using hu
    subst this
    exact ⟨by simp,fun x hx=>by cases hx⟩
   ·rw [a7z (by omega)]
    exact rw_gd (by omega) (by omega) (by omega) (fun k a b=>ihC k a (by omega)) ihR
  refine ⟨hC,fun l=>?_⟩
  by_cases hl:l < L
  ·rw [a7A h1 hl]
   refine rw_gd (by omega) (by omega) (by omega) (fun k a b=>?_) ihR
   by_cases e:k=m
   ·subst e;exact hC
   ·exact ihC k a (by omega)
  ·rw [a5l hl]
   intro r hr
   cases hr
theorem a5W {L m:Nat} (h:1≤m):∀ c∈Cs L m,Gd L m (m - 1) c:=(a6K m m (Nat.le_refl _) h).1
theorem Rs_gd {L m l:Nat} (h:1≤m):∀ c∈Rs L m l,Gd L m m c:=(a6K m m (Nat.le_refl _) h).2 l
def a4e (L m:Nat):Bool:=decide ((Cs L m).length≤900) && (List.range (L+1)).all fun l=>decide ((Rs L m l).length≤900)
def inL (L m:Nat):Prop:=(L=2∧m≤6)∨(L=3∧m≤4)∨(L=4∧m≤3)
theorem small2:((List.range 7).all fun m=>a4e 2 m)=true:=by decide +kernel
theorem small3:((List.range 5).all fun m=>a4e 3 m)=true:=by decide +kernel
theorem small4:((List.range 4).all fun m=>a4e 4 m)=true:=by decide +kernel
theorem a6L {L m:Nat} (h:inL L m):a4e L m=true:=by
 rcases h with ⟨rfl,h⟩ | ⟨rfl,h⟩ | ⟨rfl,h⟩
 ·exact List.all_eq_true.mp small2 m (List.mem_range.mpr (by omega))
 ·exact List.all_eq_true.mp small3 m (List.mem_range.mpr (by omega))
 ·exact List.all_eq_true.mp small4 m (List.mem_range.mpr (by omega))
theorem a9h {L m:Nat} (h:inL L m):(Cs L m).length≤900:=by
 have:=a6L h
 unfold a4e at this
 rw [Bool.and_eq_true] at this
 exact of_decide_eq_true this.1
theorem b1y {L m l:Nat} (h:inL L m):(Rs L m l).length≤900:=by
 by_cases hl:l < L
 ·have:=a6L h
  unfold a4e at this
  rw [Bool.and_eq_true] at this
  exact of_decide_eq_true (List.all_eq_true.mp this.2 l (List.mem_range.mpr (by omega)))
 ·rw [a5l hl];simp
theorem ne2:((List.range 6).all fun m=>decide (0 < (Cs 2 (m+1)).length))=true:=by decide +kernel
theorem ne3:((List.range 4).all fun m=>decide (0 < (Cs 3 (m+1)).length))=true:=by decide +kernel
theorem ne4:((List.range 3).all fun m=>decide (0 < (Cs 4 (m+1)).length))=true:=by decide +kernel
theorem b2T {L m:Nat} (h:inL L m) (hm:1≤m):0 < (Cs L m).length:=by
 obtain ⟨k,rfl⟩:∃ k,m=k+1:=⟨m - 1,by omega⟩
 rcases h with ⟨rfl,h⟩ | ⟨rfl,h⟩ | ⟨rfl,h⟩
 ·exact of_decide_eq_true (List.all_eq_true.mp ne2 k (List.mem_range.mpr (by omega)))
 ·exact of_decide_eq_true (List.all_eq_true.mp ne3 k (List.mem_range.mpr (by omega)))
 ·exact of_decide_eq_true (List.all_eq_true.mp ne4 k (List.mem_range.mpr (by omega)))
def blk (L many l b:Nat):List a0z:=(Cs L (b+1)).flatMap fun c=>(bhd (Rs L) many (l,b)).map fun r=>ahd l c++r
theorem b1z {L many low most:Nat}:rw' L (Cs L) (Rs L) many low most=(List.range (L - low)).flatMap fun a=>(List.range most).flatMap fun b=>blk L many (low+a) b:=by
 unfold rw' Bk
 rw [List.flatMap_assoc]
 refine a2r fun a _=>?_
 rw [List.flatMap_map]
 rfl
theorem a4D {α:Type} (g:Nat→List α) (a:Nat):(List.range (a+1)).flatMap g=(List.range a).flatMap g++g a:=by
 rw [List.range_succ,List.flatMap_append,List.flatMap_singleton]
theorem b2U {α:Type} {g:Nat→List α} {a:Nat}:∀ {A:Nat},a≤A→((List.range a).flatMap g).length≤((List.range A).flatMap g).length
 | 0,h=>by
  have:a=0:=by omega
  subst this;exact Nat.le_refl _
 | A+1,h=>by
  by_cases e:a=A+1
  ·subst e;exact Nat.le_refl _
  ·rw [a4D,List.length_append]
   have:=b2U (g:=g) (a:=a) (A:=A) (by omega)
   omega
theorem tk_le {α β:Type} {f:α→List β} (k:Nat) (xs:List α):((xs.take k).flatMap f).length≤(xs.flatMap f).length:=by
 have:xs.flatMap f=(xs.take k).flatMap f++(xs.drop k).flatMap f:=by rw [←List.flatMap_append,List.take_append_drop]
 rw [this,List.length_append]
 omega
theorem b0M {L many low most a b k:Nat} (ha:a < L - low) (hb:b < most):((List.range a).flatMap (fun a=>(List.range most).flatMap fun b=>blk L many (low+a) b)).length+((List.range b).flatMap fun b=>blk L many (low+a) b).length+(((Cs L (b+1)).take k).flatMap fun c=>(bhd (Rs L) many (low+a,b)).map fun r=>ahd (low+a) c++r).length≤(rw' L (Cs L) (Rs L) many low most).length:=by
 have h1:=b2U (g:=fun a=>(List.range most).flatMap fun b=>blk L many (low+a) b) (a:=a+1) (A:=L - low) (by omega)
 have h2:=b2U (g:=fun b=>blk L many (low+a) b) (a:=b+1) (A:=most) (by omega)
 have h3:=tk_le (f:=fun c=>(bhd (Rs L) many (low+a,b)).map fun r=>ahd (low+a) c++r) k (Cs L (b+1))
 rw [a4D,List.length_append] at h1 h2
 rw [b1z]
 have:(blk L many (low+a) b).length=((Cs L (b+1)).flatMap fun c=>(bhd (Rs L) many (low+a,b)).map fun r=>ahd (low+a) c++r).length:=rfl
 omega
def pc (ps:List Int) (u:List Int):Int:=(u.map fun x=>ps.getD x.toNat 0).sum
def co (ps ws:List Int) (i:Nat) (c:a0z):Int:=(List.zipWith (fun w u=>w * pc ps u) (ws.drop i) c).sum
theorem a5m {ps ws:List Int} {i:Nat}:co ps ws i []=0:=by unfold co;rw [List.zipWith_nil_right];rfl
theorem a4f (ws:List Int) (i:Nat):(ws.length≤i∧ws.drop i=[])∨∃ w,i < ws.length∧ws.drop i=w :: ws.drop (i+1)∧(ws.take (i+1)).sum=(ws.take i).sum+w:=by
 by_cases h:i < ws.length
 ·refine .inr ⟨ws[i],h,List.drop_eq_getElem_cons h,?_⟩
  rw [List.take_succ_eq_append_getElem h,List.sum_append]
  simp
 ·exact .inl ⟨by omega,List.drop_eq_nil_of_le (by omega)⟩
theorem b1A {ps ws:List Int} {i:Nat}:co ps ws i [[]]=0:=by
 unfold co
 rcases a4f ws i with ⟨_,e⟩ | ⟨w,_,e,_⟩
 ·rw [e];rfl
 ·rw [e]
  show (w * pc ps [] :: List.zipWith _ _ []).sum=0
  rw [List.zipWith_nil_right]
  show w * 0+0=0
  omega
theorem a4g {ps ws:List Int} {l:Nat} {r:a0z}:∀ (c:a0z) (i:Nat),co ps ws i (ahd l c++r)=pl ps l * Wt ws i (i+c.length)+co ps ws i c+co ps ws (i+c.length) r
 | [],i=>by
  rw [a5m]
  show co ps ws i r=pl ps l * Wt ws i (i+0)+0+co ps ws (i+0) r
  unfold Wt
  rw [Nat.add_zero,Int.sub_self,Int.mul_zero]
  omega
 | u :: c,i=>by
  have ih:=a4g (ps:=ps) (ws:=ws) (l:=l) (r:=r) c (i+1)
  rw [show i+1+c.length=i+(u :: c).length by rw [List.length_cons];omega] at ih
  rcases a4f ws i with ⟨hn,e⟩ | ⟨w,hn,e,es⟩
  ·have e2:ws.drop (i+(u :: c).length)=[]:=List.drop_eq_nil_of_le (by omega)
   unfold co
   rw [e,e2,List.zipWith_nil_left,List.zipWith_nil_left,List.zipWith_nil_left]
   unfold Wt
   rw [List.take_of_length_le (by omega),List.take_of_length_le (by omega),Int.sub_self,Int.mul_zero]
   rfl
  ·have e1:co ps ws i (ahd l (u :: c)++r)=w * pc ps ((l:Int) :: u)+co ps ws (i+1) (ahd l c++r):=by
    unfold co
    rw [e]
    exact List.sum_cons
   have e2:co ps ws i (u :: c)=w * pc ps u+co ps ws (i+1) c:=by
    unfold co
    rw [e]
    exact List.sum_cons
   have e3:pc ps ((l:Int) :: u)=pl ps l+pc ps u:=by
    unfold pc
    rw [List.map_cons,List.sum_cons]
    rfl
   have e4:Wt ws i (i+(u :: c).length)=w+Wt ws (i+1) (i+(u :: c).length):=by
    unfold Wt
    omega
   rw [e1,e2,e3,e4,ih,Int.mul_add,Int.mul_add,Int.mul_comm w (pl ps l)]
   omega
theorem en {ps ws:List Int}:En ps.length (pl ps) (Wt ws) (Cs ps.length) (Rs ps.length) (co ps ws) where
 c1:=a4d
 cs:=fun m h=>a7z h
 rs:=fun m l h hl=>a7A h hl
 rL:=fun m=>a5l (by omega)
 nil:=fun i=>a5m
 one:=fun i=>b1A
 app:=fun i l m c r hc=>by
  have hm:1≤m:=by
   cases m with
   | zero=>cases hc
   | succ k=>omega
  have:=(a5W hm c hc).ln
  have h:=a4g (ps:=ps) (ws:=ws) (l:=l) (r:=r) c i
  rw [this] at h
  exact h
end CT
end K66
namespace K66
open PySem L2
section
variable {P:Program} {w:World} {K:PySem.W.Frag} {mg:Str→Option Value} {base:Heap} {f:Addr} {fd:FuncData}
def a5n (K:PySem.W.Frag):Sp:=fun vs H Q _=>∃ (a:Addr) (ns:List Int) (k:Int),vs=[.ref a,.int k]∧SqL K H a (ns.map V.int)∧0≤k∧k≤1000∧∀ i,0≤i→Q (.int i) H
theorem a4h:a0n ["script","k","near"] ["script","k"] (a0b a7v):=⟨rfl,rfl,rfl,by decide +kernel,rfl,by decide +kernel,by decide +kernel⟩
theorem e60:(0:Int) < (10:Int) ^ (60:Int).toNat:=by decide
theorem b2V (F:Fun K "_law_cell" "_law_cell" a7v f fd) (ml:mg "len"=none):a0O P w K mg base CX0 1 f fd ["script","k"] (a5n K):=by
 refine F.ok (k:=0) a4h (fun vs H Q E h=>?_) (fun cdv A outer s H vs Q E hr h=>?_)
 ·obtain ⟨a,ns,k,rfl,_⟩:=h
  rfl
 obtain ⟨a,ns,k,rfl,hS,h0,h1,q⟩:=h
 refine ⟨_,a0f (a1e (a0B a4o (pv 1) (a0o a0i (by rfl) ml PySem.boot_len (a0a (pv 0) a0d)) (nomark _)) (a0h (a0r (a0p a0L (a0y a0w (pv 0) (pv 1) (fun _ _=>rfl)) (a0p a3Q a0g a0g)))) a0D)
  (a0f (a0t (i:=2) a4h.nd rfl (Or.inl rfl) a0g)
  (a0f (a1X (a1e (a0B a7R (a0o a0i (by rfl) ml PySem.boot_len (a0a (pv 0) a0d)) a0g (nomark _)) (a0h (a0t (i:=2) a4h.nd rfl (Or.inl rfl) (a0p a0L (a0y a0w (pv 0) a0g (fun _ _=>rfl)) (a0p a3Q a0g a0g)))) a0D))
  (a0f (a0t (i:=2) a4h.nd rfl (Or.inl rfl) (a0p a0L (a0p a0I (a0p a0I (pv 2) (a0p a4Q a0g (pv 1))) a0g) a0g))
  (a0f (a0t (i:=2) a4h.nd rfl (Or.inl rfl) (a0p a0L (a0p a2L (pv 2) (pv 2)) a0g))
  (a0f (a0t (i:=2) a4h.nd rfl (Or.inl rfl) (a0p a0L (a0p a4Q (a0p a0I (pv 2) (a0p a4Q a0g (pv 1))) a0g) a0g))
  (a0h (a0r (a0p a1i (a0p a0L (a0p a2L (pv 2) (pv 2)) a0g) a0g)))))))),?_⟩
 refine ⟨_,rfl,_,rfl,a,_,rfl,.inl hS,_,_,rfl,rfl,_,rfl,?_⟩
 refine a1C (fun c=>?_) (fun c=>?_)
 ·have c1:k < ((ns.map V.int).length:Int):=of_decide_eq_true c
  obtain ⟨n,rfl⟩:∃ n:Nat,k=n:=⟨k.toNat,by omega⟩
  have hn:n < ns.length:=by rw [List.length_map] at c1;omega
  exact ⟨_,rfl,_,rfl,a,_,_,_,rfl,rfl,hS,a2X (List.getElem?_eq_getElem hn),_,_,rfl,rfl,⟨by decide,by decide,by decide⟩,_,_,rfl,rfl,e60,q _ (Int.emod_nonneg _ (Int.ne_of_gt e60))⟩
 refine ⟨fun σ' H'=>H'=H∧∃ n:Int,σ'=[some (.ref a),some (.int k),some (.int n)],?_,?_⟩
 ·refine ⟨_,rfl,a,_,rfl,.inl hS,_,_,rfl,rfl,_,rfl,?_⟩
  refine a1C (fun d=>?_) (fun d=>⟨rfl,_,rfl⟩)
  have d1:((ns.map V.int).length:Int) > 0:=of_decide_eq_true d
  have hn:0 < ns.length:=by rw [List.length_map] at d1;omega
  exact ⟨_,rfl,a,_,_,_,rfl,rfl,hS,a2X (k:=0) (List.getElem?_eq_getElem hn),_,_,rfl,rfl,⟨by decide,by decide,by decide⟩,_,_,rfl,rfl,e60,rfl,_,rfl⟩
 rintro σ' H' ⟨rfl,n,rfl⟩
 refine ⟨_,rfl,_,rfl,_,_,rfl,rfl,.inl ⟨by decide,by decide⟩,_,_,rfl,rfl,_,_,rfl,rfl,_,_,rfl,rfl,(by show (0:Int) < _;decide),?_⟩
 dsimp only
 have n0:0≤(n+104729 * k+17) % 618970019642690137449562111:=Int.emod_nonneg _ (by decide)
 have n1:(n+104729 * k+17) % 618970019642690137449562111 < 618970019642690137449562111:=Int.emod_lt_of_pos _ (by decide)
 generalize (n+104729 * k+17) % 618970019642690137449562111=n' at n0 n1 ⊢
 refine ⟨_,rfl,_,rfl,_,_,rfl,rfl,⟨⟨n0,by unfold B30;omega⟩,⟨n0,by unfold B30;omega⟩⟩,_,_,rfl,rfl,(by show (0:Int) < _;decide),?_⟩
 dsimp only
 generalize n' * n' % 618970019642690137449562111=n2
 refine ⟨_,rfl,_,rfl,_,_,rfl,rfl,.inl ⟨by decide,by decide⟩,_,_,rfl,rfl,_,_,rfl,rfl,.inr ⟨by decide,by decide⟩,_,_,rfl,rfl,(by show (0:Int) < _;decide),?_⟩
 dsimp only
 have m0:0≤(n2+7919 * k) * 48271 % 2305843009213693951:=Int.emod_nonneg _ (by decide)
 have m1:(n2+7919 * k) * 48271 % 2305843009213693951 < 2305843009213693951:=Int.emod_lt_of_pos _ (by decide)
 generalize (n2+7919 * k) * 48271 % 2305843009213693951=m at m0 m1 ⊢
 refine ⟨_,rfl,_,rfl,_,_,rfl,rfl,⟨⟨m0,by unfold B30;omega⟩,⟨m0,by unfold B30;omega⟩⟩,_,_,rfl,rfl,(by show (0:Int) < _;decide),_,_,rfl,rfl,⟨by decide,by decide⟩,q _ ?_⟩
 have z:0≤m * m % 2305843009213693951:=Int.emod_nonneg _ (by decide)
 omega
def a4E:Sp:=fun vs H Q _=>∃ c i:Int,vs=[.int c,.int i]∧0≤i∧i < 4∧∀ v H',a0x H H'→1≤v→v≤B30→Q (.int v) H'
theorem b0N:a0n ["cell","way"] ["cell","way"] (a0b a2Q):=⟨rfl,rfl,rfl,by decide +kernel,rfl,by decide +kernel,by decide +kernel⟩
theorem four {a b c d i:Int} (i0:0≤i) (i1:i < 4) (ha:1≤a∧a≤B30) (hb:1≤b∧b≤B30) (hc:1≤c∧c≤B30) (hd:1≤d∧d≤B30):∃ v,atI [V.int a,.int b,.int c,.int d] i=some (.int v)∧1≤v∧v≤B30:=by
 have h:i=0∨i=1∨i=2∨i=3:=by omega
 rcases h with h | h | h | h <;> subst h
 ·exact ⟨a,rfl,ha⟩
 ·exact ⟨b,rfl,hb⟩
 ·exact ⟨c,rfl,hc⟩
 ·exact ⟨d,rfl,hd⟩
theorem a9i (F:Fun K "_law_number" "_law_number" a2Q f fd):a0O P w K mg base CX0 1 f fd ["cell","way"] a4E:=by
 refine F.ok (k:=0) b0N (fun vs H Q E h=>?_) (fun cdv A outer s H vs Q E hr h=>?_)
 ·obtain ⟨c,i,rfl,_⟩:=h
  rfl
 obtain ⟨c,i,rfl,i0,i1,q⟩:=h
 refine ⟨_,a0h (a0r (a0y a0w (a0N (a0a (a0p a0I a0g (a0p a0L (pv 0) (a0p a3Q a0g a0g))) (a0a (a0p a0I a0g (a0p a0L (pv 0) a0g)) (a0a (a0p a0I a0g (a0p a0L (pv 0) a0g))
  (a0a (a0p a1q (a0p a3Q a0g a0g) (a0p a0L (pv 0) a0g)) a0d))))) (pv 1) (fun _ _=>rfl))),?_⟩
 refine ⟨_,rfl,_,_,rfl,rfl,⟨by decide,by decide,by decide⟩,_,_,rfl,rfl,(by show (0:Int) < _;decide),_,_,rfl,rfl,?_⟩
 refine ⟨_,rfl,_,_,rfl,rfl,(by show (0:Int) < _;decide),_,_,rfl,rfl,?_⟩
 refine ⟨_,rfl,_,_,rfl,rfl,(by show (0:Int) < _;decide),_,_,rfl,rfl,?_⟩
 refine ⟨_,_,rfl,rfl,⟨by decide,by decide,by decide⟩,_,rfl,_,_,rfl,rfl,(by show (0:Int) < _;decide),_,_,rfl,rfl,(by show 4≤sizeLine;decide),fun l hl=>?_⟩
 have s1:=a0e hl (.lst [.int (1+c % 10 ^ (30:Int).toNat),.int (1+c % 3),.int (1+c % 50),.int (10 ^ (30:Int).toNat - c % 3)])
 obtain ⟨v,hv,v0,v1⟩:=four (a:=1+c % 10 ^ (30:Int).toNat) (b:=1+c % 3) (c:=1+c % 50) (d:=10 ^ (30:Int).toNat - c % 3) i0 i1 (by rw [e30];unfold B30;omega) (by unfold B30;omega) (by unfold B30;omega) (by rw [e30];unfold B30;omega)
 exact ⟨_,rfl,l,_,_,_,rfl,rfl,SqL.of a0c,hv,q v _ s1 v0 v1⟩
abbrev NN:List Str:=["script","at","many","way","numbers","k","cell"]
def Bd (ns:List Int):Prop:=∀ x∈ns,1≤x∧x≤B30
def a3H (K:PySem.W.Frag):Sp:=fun vs H Q _=>∃ (a:Addr) (ns:List Int) (i m y:Int),vs=[.ref a,.int i,.int m,.int y]∧SqL K H a (ns.map V.int)∧0≤i∧i≤100∧1≤m∧m≤100∧0≤y∧y < 6∧∀ p H' ms,a0x H H'→TW H' p ms→(ms.length:Int)=m→Bd ms→Q (.ref p) H'
theorem a2e:a0n NN ["script","at","many","way"] (a0b a2g):=⟨rfl,rfl,rfl,by decide +kernel,rfl,by decide +kernel,by decide +kernel⟩
theorem a7B (F:Fun K "_law_numbers" "_law_numbers" a2g f fd) (GC:Fns P w K mg base ["script","k"] "_law_cell" (a5n K) 1) (GN:Fns P w K mg base ["cell","way"] "_law_number" a4E 1) (mr:mg "range"=none) (mt:mg "tuple"=none):a0O P w K mg base CX0 2 f fd ["script","at","many","way"] (a3H K):=by
 refine F.ok (k:=1) a2e (fun vs H Q E h=>?_) (fun cdv A outer s H vs Q E hr h=>?_)
 ·obtain ⟨a,ns,i,m,y,rfl,_⟩:=h
  rfl
 obtain ⟨a,ns,i,m,y,rfl,hS,i0,i1,m0,m1,y0,y1,q⟩:=h
 refine ⟨_,a0f (a0t (i:=4) a2e.nd rfl (Or.inl rfl) (a0N a0d))
  (a0f (a1l PassesOwn.never rfl (a2v (by rfl) mr (a0a (pv 2) a0d)) (a0H (i:=5) a2e.nd rfl (Or.inl rfl))
   (a0f (a0t (i:=6) a2e.nd rfl (Or.inl rfl) (a0l GC.ok hr (by rfl) GC.m GC.kp GC.b .nil a0C (a0a (pv 0) (a0a (a0p a0I (pv 1) (pv 5)) a0d))))
   (a0h (a1e (a0B a4o (pv 3) a0g (nomark _))
    (a0h (a1c (a4W PySem.F.plainAttrs_list PySem.F.slot_list_append PySem.F.type_list_append a1U (pv 4) (a0a (a0l GN.ok hr (by rfl) GN.m GN.kp GN.b .nil a0C (a0a (pv 6) (a0a (pv 3) a0d))) a0d))))
    (a0h (a1c (a4W PySem.F.plainAttrs_list PySem.F.slot_list_append PySem.F.type_list_append a1U (pv 4) (a0a (a0l GN.ok hr (by rfl) GN.m GN.kp GN.b .nil a0C (a0a (a0p a1i (pv 6) a0g) (a0a (a0p a0L (pv 6) a0g) a0d))) a0d))))))))
  (a0f (a1X (a1e (a0B a1G (pv 3) a0g (nomark _)) (a0h (a0t (i:=4) a2e.nd rfl (Or.inl rfl) (a0p b1i (a0N (a0a (a0y a0w (pv 4) a0g (fun _ _=>rfl)) a0d)) (pv 2)))) a0D))
  (a0h (a0r (a1S a1u (by rfl) mt a4v (a0a (pv 4) a0d)))))),?_⟩
 refine ⟨(by show 0≤sizeLine;decide),fun l hl=>?_⟩
 have s0:=a0e hl (.lst [])
 refine ⟨_,rfl,m,rfl,by omega,by omega,?_⟩
 refine a1f (fun j σ H'=>∃ (ms:List Int) (x5 x6:Option V),ms.length=j∧σ=[some (.ref a),some (.int i),some (.int m),some (.int y),some (.ref l),x5,x6]∧H' l=some (.lst (ms.map V.int))∧a0x H H'∧Bd ms) ⟨[],none,none,rfl,rfl,a0c,s0,by intro x hx;cases hx⟩ (fun j σ H1 hj hP=>?_) (fun σ H1 hP=>?_)
 ·obtain ⟨ms,x5,x6,lm,rfl,hm,sm,bm⟩:=hP
  have e0:(0:Int)+(j:Int)=((j:Nat):Int):=by omega
  rw [e0]
  refine ⟨_,rfl,_,rfl,_,rfl,_,_,rfl,rfl,a,ns,i+(j:Int),rfl,sm.seq hS,by omega,by omega,fun c c0=>?_⟩
  refine ⟨_,rfl,_,_,rfl,rfl,_,rfl,?_⟩
  have fin:∀ (v:Int) (H2:Hp),a0x H1 H2→1≤v→v≤B30→∃ l' xs v',V.ref l=.ref l'∧[V.int v]=[v']∧H2 l'=some (.lst xs)∧xs.length < sizeLine∧∃ (ms:List Int) (x5 x6:Option V),ms.length=j+1∧([some (.ref a),some (.int i),some (.int m),some (.int y),some (.ref l),some (.int (j:Int)),some (.int c)]:St)=[some (.ref a),some (.int i),some (.int m),some (.int y),some (.ref l),x5,x6]∧upd H2 l' (.lst (xs++[v'])) l=some (.lst (ms.map V.int))∧a0x H (upd H2 l' (.lst (xs++[v'])))∧Bd ms:=fun v H2 s2 v0 v1=>by
   refine ⟨l,_,_,rfl,rfl,s2 _ _ hm,a0s (by rw [List.length_map];omega),ms++[v],_,_,by rw [List.length_append,lm];rfl,rfl,by rw [a0c,List.map_append];rfl,a0v hl (sm.trans s2),fun x hx=>?_⟩
   rcases List.mem_append.mp hx with z | z
   ·exact bm x z
   ·rw [List.mem_singleton.mp z];exact ⟨v0,v1⟩
  refine a1C (fun d=>?_) (fun d=>?_)
  ·have d1:y < 4:=of_decide_eq_true d
   exact ⟨_,rfl,.inl ⟨rfl,_,SqL.of hm⟩,_,rfl,_,rfl,c,y,rfl,y0,d1,fin⟩
  ·exact ⟨_,rfl,.inl ⟨rfl,_,SqL.of hm⟩,_,rfl,_,_,rfl,rfl,⟨by decide,by decide⟩,_,rfl,_,_,rfl,rfl,(by show (0:Int) < _;decide),c / 4,c % 4,rfl,by omega,by omega,fin⟩
 ·obtain ⟨ms,x5,x6,lm,rfl,hm,sm,bm⟩:=hP
  refine ⟨fun σ' H'=>∃ (l':Addr) (ms:List Int),σ'=[some (.ref a),some (.int i),some (.int m),some (.int y),some (.ref l'),x5,x6]∧(ms.length:Int)=m∧H' l'=some (.lst (ms.map V.int))∧a0x H H'∧Bd ms,?_,?_⟩
  ·refine ⟨_,rfl,rfl,_,rfl,?_⟩
   refine a1C (fun d=>?_) (fun d=>⟨l,ms,rfl,by omega,hm,sm,bm⟩)
   have l0:0 < ms.length:=by omega
   refine ⟨_,rfl,l,_,_,_,rfl,rfl,SqL.of hm,a2X (k:=0) (List.getElem?_eq_getElem l0),(by show 1≤sizeLine;decide),fun p1 hp1=>?_⟩
   have s1:=a0e hp1 (.lst [.int ms[0]])
   refine ⟨_,rfl,p1,m,_,rfl,rfl,a0c,by omega,by omega,small (by show 1 * m.toNat≤1000;omega),fun p2 hp2=>?_⟩
   have s2:=a0e hp2 (.lst (List.replicate m.toNat [V.int ms[0]]).flatten)
   refine ⟨p2,List.replicate m.toNat ms[0],rfl,by rw [List.length_replicate];omega,?_,(sm.trans s1).trans s2,fun x hx=>?_⟩
   ·rw [a0c,List.flatten_replicate_singleton,List.map_replicate]
   ·rw [List.eq_of_mem_replicate hx];exact bm _ (List.getElem_mem l0)
  ·rintro σ' H' ⟨l',ms',rfl,lm',hm',sm',bm'⟩
   exact ⟨_,rfl,l',_,rfl,.inl ⟨SqL.of hm',fun t ht=>q t _ ms' (sm'.trans (a0e ht _)) a0c lm' bm'⟩⟩
abbrev NIn:List Str:=["script","head","letters","most","things","prices","weights"]
def a5X (K:PySem.W.Frag):Sp:=fun vs H Q _=>∃ (a:Addr) (ns:List Int),vs=[.ref a]∧SqL K H a (ns.map V.int)∧∀ (r p q:Addr) H' ps ws,a0x H H'→H' r=some (.tup [.ref p,.ref q])→TW H' p ps→TW H' q ws→Bd ps→Bd ws→CT.inL ps.length ws.length→1≤ws.length→Q (.ref r) H'
def mkI (st:Stmt) (es:List Expr):Stmt:=match st with
 | .Assign tg (.Subscript (.List _ p) i p2) pos=>.Assign tg (.Subscript (.List es p) i p2) pos
 | s=>s
def esI (st:Stmt):List Expr:=match st with
 | .Assign _ (.Subscript (.List es _) _ _) _=>es
 | _=>[]
def inP:List (Int × Int):=[(2,6),(3,4),(4,3),(2,5)]
theorem inP_ok:∀ q∈inP,(q.1=2∧1≤q.2∧q.2≤6)∨(q.1=3∧q.2=4)∨(q.1=4∧q.2=3):=by decide
theorem a2s:a0n NIn ["script"] (a0b a2b):=⟨rfl,rfl,rfl,by decide +kernel,rfl,by decide +kernel,by decide +kernel⟩
theorem b0O (F:Fun K "_law_input" "_law_input" a2b f fd) (GC:Fns P w K mg base ["script","k"] "_law_cell" (a5n K) 2) (GN:Fns P w K mg base ["script","at","many","way"] "_law_numbers" (a3H K) 2):a0O P w K mg base CX0 3 f fd ["script"] (a5X K):=by
 refine F.ok (k:=2) a2s (fun vs H Q E h=>?_) (fun cdv A outer s H vs Q E hr h=>?_)
 ·obtain ⟨a,ns,rfl,_⟩:=h
  rfl
 obtain ⟨a,ns,rfl,hS,q⟩:=h
 have key:∀ es:List Expr,a2a es=some inP→∃ t,PSs (a5v CX0 P w K mg base NIn (Str.ofString "_law_input") (a0b a2b) f cdv A outer s H E).nox ((a0k a2b).getD 0 (.Pass ⟨0,0,0,0⟩) :: mkI ((a0k a2b).getD 1 (.Pass ⟨0,0,0,0⟩)) es :: (a0k a2b).drop 2) t∧t { nx:=fun x H'=>Q V.non H',rt:=Q } (L2.start NIn [V.ref a]) H:=by
  intro es hes
  refine ⟨_,a0f (a0t (i:=1) a2s.nd rfl (Or.inl rfl) (a0l GC.ok hr (by rfl) GC.m GC.kp GC.b .nil a0C (a0a (pv 0) (a0a a0g a0d))))
    (a0f (a2k (a0y a0w (b0x (qs:=inP) hes) (a0p a0L (pv 1) a0g) (fun _ _=>rfl)) (a6h rfl (a1y (a0H (i:=2) a2s.nd rfl (Or.inl rfl)) (a1y (a0H (i:=3) a2s.nd rfl (Or.inl rfl)) a4m))))
    (a0f (a0t (i:=4) a2s.nd rfl (Or.inl rfl) (a0p a0I a0g (a0p a0L (a0p a1i (pv 1) a0g) (pv 3))))
    (a0f (a0t (i:=5) a2s.nd rfl (Or.inl rfl) (a0l GN.ok hr (by rfl) GN.m GN.kp GN.b .nil a0C (a0a (pv 0) (a0a a0g (a0a (pv 2) (a0a (a0p a0L (a0p a1i (pv 1) a0g) a0g) a0d))))))
    (a0f (a0t (i:=6) a2s.nd rfl (Or.inl rfl) (a0l GN.ok hr (by rfl) GN.m GN.kp GN.b .nil a0C (a0a (pv 0) (a0a (a0p a0I a0g (pv 2)) (a0a (pv 4) (a0a (a0p a0L (a0p a1i (pv 1) a0g) a0g) a0d))))))
    (a0h (a0r (a1h (a0a (pv 5) (a0a (pv 6) a0d))))))))),?_⟩
  refine ⟨_,rfl,a,ns,0,rfl,hS,by decide,by decide,fun hd hd0=>?_⟩
  refine ⟨by show 4≤1000;decide,fun l ts H7 s06 _ e7 pp=>?_⟩
  have lt:ts.length=4:=pp.length
  obtain ⟨j,hj⟩:∃ j:Nat,hd % 4=(j:Int):=⟨(hd % 4).toNat,by omega⟩
  have hv:ts[j]?=some (ts[j]'(by omega)):=List.getElem?_eq_getElem _
  obtain ⟨⟨L,m⟩,hq,t,et,ht⟩:=Paired.right_of pp j _ hv
  rw [et] at hv
  have hc:(L=2∧1≤m∧m≤6)∨(L=3∧m=4)∨(L=4∧m=3):=inP_ok _ (List.mem_of_getElem? hq)
  refine ⟨_,rfl,_,_,rfl,rfl,(by show (0:Int) < _;decide),?_⟩
  dsimp only
  rw [hj]
  refine ⟨l,_,_,_,rfl,rfl,SqL.of e7,a2l hv,?_⟩
  refine ⟨t,_,rfl,SqT.of ht,rfl,_,_,rfl,_,_,rfl,rfl,?_⟩
  have m0:(0:Int) < m:=by omega
  refine ⟨_,rfl,_,_,rfl,rfl,⟨by decide,by decide⟩,_,rfl,_,_,rfl,rfl,m0,_,_,rfl,rfl,?_⟩
  have b0:0≤hd / 4 % m:=Int.emod_nonneg _ (by omega)
  have b1:hd / 4 % m < m:=Int.emod_lt_of_pos _ m0
  refine ⟨_,rfl,_,rfl,_,rfl,_,_,rfl,rfl,⟨by decide,by decide⟩,_,_,rfl,rfl,(by show (0:Int) < _;decide),?_⟩
  refine ⟨a,ns,1,L,hd / 120 % 6,rfl,s06.seq hS,by decide,by decide,by omega,by omega,by omega,by omega,fun p1 H8 ps s8 hp1 lp bp=>?_⟩
  refine ⟨_,rfl,_,rfl,_,_,rfl,rfl,_,rfl,_,rfl,_,_,rfl,rfl,⟨by decide,by decide⟩,_,_,rfl,rfl,(by show (0:Int) < _;decide),?_⟩
  refine ⟨a,ns,1+L,1+hd / 4 % m,hd / 720 % 6,rfl,(s06.trans s8).seq hS,by omega,by omega,by omega,by omega,by omega,by omega,fun p2 H9 ws s9 hp2 lw bw=>?_⟩
  refine ⟨_,rfl,_,rfl,(by show 2≤sizeLine;decide),fun r hr=>?_⟩
  have s10:=a0e hr (.tup [.ref p1,.ref p2])
  exact q r p1 p2 _ ps ws (((s06.trans s8).trans s9).trans s10) a0c (s10 _ _ (s9 _ _ hp1)) (s10 _ _ hp2) bp bw (by
    unfold CT.inL
    rcases hc with ⟨z1,z2,z3⟩ | ⟨z1,z2⟩ | ⟨z1,z2⟩
    ·exact .inl ⟨by omega,by omega⟩
    ·exact .inr (.inl ⟨by omega,by omega⟩)
    ·exact .inr (.inr ⟨by omega,by omega⟩)) (by omega)
 exact key (esI ((a0k a2b).getD 1 (.Pass ⟨0,0,0,0⟩))) rfl
end
def Cd (H:Hp) (x:V) (c:CT.a0z):Prop:=∃ a xs,x=.ref a∧H a=some (.lst xs)∧Ws H xs c
def CL (H:Hp) (x:V) (cs:List CT.a0z):Prop:=∃ a xs,x=.ref a∧H a=some (.lst xs)∧Paired (Cd H) xs cs
theorem Cd.same {H H':Hp} {x:V} {c:CT.a0z} (s:a0x H H') (h:Cd H x c):Cd H' x c:=by
 obtain ⟨a,xs,rfl,e,w⟩:=h
 exact ⟨a,xs,rfl,s _ _ e,w.same s⟩
theorem CL.same {H H':Hp} {x:V} {cs:List CT.a0z} (s:a0x H H') (h:CL H x cs):CL H' x cs:=by
 obtain ⟨a,xs,rfl,e,w⟩:=h
 exact ⟨a,xs,rfl,s _ _ e,Paired.mapP w fun _ _ r=>r.same s⟩
def a3b (H H':Hp):Prop:=(∀ a xs,H a=some (.lst xs)→H' a=some (.lst xs))∧∀ a xs,H a=some (.tup xs)→H' a=some (.tup xs)
theorem a3b.dK {H:Hp} {d:Addr} {kvs:List (Key × V)} {o:HO} (hd:H d=some (.dK kvs)):a3b H (upd H d o) :=
 ⟨fun a xs e=>by rw [a0j (a0G e hd (by intro z;cases z))];exact e,fun a xs e=>by rw [a0j (a0G e hd (by intro z;cases z))];exact e⟩
theorem a3b.dT {H:Hp} {d:Addr} {kvs:List (List Key × V)} {o:HO} (hd:H d=some (.dT kvs)):a3b H (upd H d o) :=
 ⟨fun a xs e=>by rw [a0j (a0G e hd (by intro z;cases z))];exact e,fun a xs e=>by rw [a0j (a0G e hd (by intro z;cases z))];exact e⟩
theorem Ws.keep {H H':Hp} {xs:List V} {ws:List (List Int)} (k:a3b H H') (h:Ws H xs ws):Ws H' xs ws:=Paired.mapP h fun _ _ q=>by
 obtain ⟨a,ys,rfl,e,p⟩:=q
 exact ⟨a,ys,rfl,k.2 _ _ e,p⟩
theorem CL.keep {H H':Hp} {x:V} {cs:List CT.a0z} (k:a3b H H') (h:CL H x cs):CL H' x cs:=by
 obtain ⟨a,xs,rfl,e,w⟩:=h
 refine ⟨a,xs,rfl,k.1 _ _ e,Paired.mapP w fun _ _ r=>?_⟩
 obtain ⟨b,ys,rfl,e2,w2⟩:=r
 exact ⟨b,ys,rfl,k.1 _ _ e2,Ws.keep k w2⟩
def Cn (H:Hp) (d:Addr) (x:V) (c:CT.a0z):Prop:=Cd H x c∧x≠.ref d
theorem Cn.upd {H:Hp} {d:Addr} {x:V} {c:CT.a0z} {ls ls':List V} (hd:H d=some (.lst ls)) (h:Cn H d x c):Cn (L2.upd H d (.lst ls')) d x c:=by
 obtain ⟨⟨a,xs,rfl,e,w⟩,ne⟩:=h
 exact ⟨⟨a,xs,rfl,by rw [a0j (fun z=>ne (by rw [z]))];exact e,Ws.upd hd w⟩,ne⟩
theorem Cn.same {H H':Hp} {d:Addr} {x:V} {c:CT.a0z} (s:a0x H H') (h:Cn H d x c):Cn H' d x c:=⟨h.1.same s,h.2⟩
def CLn (H:Hp) (d:Addr) (b:Addr) (cs:List CT.a0z):Prop:=b≠d∧∃ xs,H b=some (.lst xs)∧Paired (Cn H d) xs cs
theorem CLn.same {H H':Hp} {d b:Addr} {cs:List CT.a0z} (s:a0x H H') (h:CLn H d b cs):CLn H' d b cs:=by
 obtain ⟨n,xs,e,w⟩:=h
 exact ⟨n,xs,s _ _ e,Paired.mapP w fun _ _ r=>r.same s⟩
theorem CLn.upd {H:Hp} {d b:Addr} {cs:List CT.a0z} {ls ls':List V} (hd:H d=some (.lst ls)) (h:CLn H d b cs):CLn (L2.upd H d (.lst ls')) d b cs:=by
 obtain ⟨n,xs,e,w⟩:=h
 exact ⟨n,xs,by rw [a0j n];exact e,Paired.mapP w fun _ _ r=>r.upd hd⟩
theorem CL.cln {H0 H:Hp} {d:Addr} {x:V} {cs:List CT.a0z} (hd:H0 d=none) (s:a0x H0 H) (h:CL H0 x cs):∃ b,x=.ref b∧CLn H d b cs:=by
 obtain ⟨b,xs,rfl,e,w⟩:=h
 refine ⟨b,rfl,fun z=>(by rw [z,hd] at e;cases e),xs,s _ _ e,Paired.mapP w fun x c r=>⟨r.same s,fun z=>?_⟩⟩
 obtain ⟨a,ys,rfl,e2,_⟩:=r
 have:a=d:=V.ref.inj z
 rw [this,hd] at e2
 cases e2
theorem hu1 {A:Around} {k:Nat} (hr:a1Q k A):A.units+1 < cLine:=by have:=hr.un;omega
section
variable {P:Program} {w:World} {K:PySem.W.Frag} {mg:Str→Option Value} {base:Heap} {f:Addr} {fd:FuncData}
abbrev NRw:List Str:=["codes","rows","many","low","letters","most","found","letter","size","behind","inner","ahead"]
abbrev k2 (a b:Nat):List Key:=[.inl (a:Int),.inl (b:Int)]
structure Rdy (H:Hp) (ca ra:Addr) (kc:List (Key × V)) (kr:List (List Key × V)) (L most many:Nat):Prop where
 hc:H ca=some (.dK kc)
 hr:H ra=some (.dT kr)
 c:∀ k,1≤k→k≤most→∃ v,a2t kc (.inl (k:Int))=some v∧CL H v (CT.Cs L k)
 r:∀ k l,1≤k→k < many→l < L→∃ v,a2t kr (k2 k l)=some v∧CL H v (CT.Rs L k l)
 e:∀ k,a2t kr (k2 k L)=none
theorem Rdy.same {H H':Hp} {ca ra:Addr} {kc:List (Key × V)} {kr:List (List Key × V)} {L most many:Nat} (s:a0x H H') (h:Rdy H ca ra kc kr L most many):Rdy H' ca ra kc kr L most many :=
 ⟨s _ _ h.hc,s _ _ h.hr,fun k a b=>by obtain ⟨v,e,x⟩:=h.c k a b;exact ⟨v,e,x.same s⟩,fun k l a b c=>by obtain ⟨v,e,x⟩:=h.r k l a b c;exact ⟨v,e,x.same s⟩,h.e⟩
def a9j:Sp:=fun vs H Q _=>∃ (ca ra:Addr) (kc:List (Key × V)) (kr:List (List Key × V)) (L many low most:Nat),vs=[.ref ca,.ref ra,.int (many:Int),.int (low:Int),.int (L:Int),.int (most:Int)]∧Rdy H ca ra kc kr L most many∧most≤many∧low < L∧CT.inL L many∧(CT.rw' L (CT.Cs L) (CT.Rs L) many low most).length≤900 ∧
 ∀ (d:Addr) H',a0x H H'→CL H' (.ref d) (CT.rw' L (CT.Cs L) (CT.Rs L) many low most)→Q (.ref d) H'
theorem a3a:a0n NRw ["codes","rows","many","low","letters","most"] (a0b a5h):=⟨rfl,rfl,rfl,by decide +kernel,rfl,by decide +kernel,by decide +kernel⟩
theorem ndRw1:(("word":Str) :: NRw).Nodup:=by decide +kernel
theorem ndRw2:(("rest":Str) :: NRw).Nodup:=by decide +kernel
theorem a9k {L m:Nat} (h:CT.inL L m):2≤L∧L≤4∧m≤6:=by
 rcases h with ⟨rfl,h⟩ | ⟨rfl,h⟩ | ⟨rfl,h⟩ <;> omega
theorem b1B {L m k:Nat} (h:CT.inL L m) (hk:k≤m):CT.inL L k:=by
 rcases h with ⟨rfl,h⟩ | ⟨rfl,h⟩ | ⟨rfl,h⟩
 ·exact .inl ⟨rfl,by omega⟩
 ·exact .inr (.inl ⟨rfl,by omega⟩)
 ·exact .inr (.inr ⟨rfl,by omega⟩)
theorem bhd_gd {L many l b:Nat} (hb:b < many):∀ r∈CT.bhd (CT.Rs L) many (l,b),CT.Gd L (many - (b+1)) many r:=fun r hr=>by
 unfold CT.bhd at hr
 split at hr
 ·rename_i h
  have:=CT.Rs_gd (L:=L) (m:=many - (b+1)) (l:=l+1) (by show 1≤many - (b+1);have h:b+1 < many:=h;omega) r hr
  exact ⟨this.ln,fun u hu=>⟨by have:=(this.wd u hu).1;omega,(this.wd u hu).2⟩⟩
 ·rename_i h
  have h:¬ b+1 < many:=h
  have e:r=[]:=by simpa using hr
  subst e
  exact ⟨by simp;omega,fun u hu=>by cases hu⟩
theorem b2W {L many l b:Nat} (h:CT.inL L many):(CT.bhd (CT.Rs L) many (l,b)).length≤900:=by
 unfold CT.bhd
 split
 ·exact CT.b1y (b1B h (by omega))
 ·show 1≤900;decide
theorem b2X (F:Fun K "_law_rows" "_law_rows" a5h f fd) (mr:mg "range"=none):a0O P w K mg base CX0 1 f fd ["codes","rows","many","low","letters","most"] a9j:=by
 refine F.ok (k:=0) a3a (fun vs H Q E h=>?_) (fun cdv A outer s H vs Q E hr h=>?_)
 ·obtain ⟨ca,ra,kc,kr,L,many,low,most,rfl,_⟩:=h
  rfl
 obtain ⟨ca,ra,kc,kr,L,many,low,most,rfl,rd,hm,hlow,hin,len,q⟩:=h
 obtain ⟨L2',L4,m6⟩:=a9k hin
 refine ⟨_,a0f (a0t (i:=6) a3a.nd rfl (Or.inl rfl) (a0N a0d))
  (a0f (a1l PassesOwn.never rfl (a1p (by rfl) mr (a0a (pv 3) (a0a (pv 4) a0d))) (a0H (i:=7) a3a.nd rfl (Or.inr rfl))
   (a0h (a1l PassesOwn.never rfl (a1p (by rfl) mr (a0a a0g (a0a (a0p a0I (pv 5) a0g) a0d))) (a0H (i:=8) a3a.nd rfl (Or.inl rfl))
    (a0f (a0t (i:=9) a3a.nd rfl (Or.inl rfl) (a0N (a0a (a0N a0d) a0d)))
    (a0f (a1X (a1e (a0B a4o (pv 8) (pv 2) (nomark _)) (a0h (a0t (i:=9) a3a.nd rfl (Or.inl rfl) (b0m (hu1 hr) (pv 1) (a1h (a0a (a0p a1q (pv 2) (pv 8)) (a0a (a0p a0I (pv 7) a0g) a0d))) (a0N a0d) ⟨rfl,rfl,rfl,rfl⟩))) a0D))
    (a0h (a1l PassesOwn.never rfl (a4n (a8D (hu1 hr) (pv 0) (pv 8) (fun _ _=>rfl))) (a0H (i:=10) a3a.nd rfl (Or.inl rfl))
     (a0f (a0t (i:=11) a3a.nd rfl (Or.inr rfl) (a2A (M:=NRw) rfl (a0q.of (a0b a5h) NRw rfl rfl rfl (by decide +kernel) (by decide +kernel) (by decide +kernel) rfl (by decide +kernel)) ndRw1 rfl (pv 10) a0V
      (fun cl C s0 H0 fp=>⟨a0X,a0p a2J (a1h (a0a (pv 8) a0d)) (pv 0)⟩)))
     (a0h (a1c (a4W PySem.F.plainAttrs_list PySem.F.slot_list_extend PySem.F.type_list_extend a4Z (pv 6) (a0a (a2A (M:=NRw) rfl (a0q.of (a0b a5h) NRw rfl rfl rfl (by decide +kernel) (by decide +kernel) (by decide +kernel) rfl (by decide +kernel)) ndRw2 rfl (pv 9) a0V
      (fun cl C s0 H0 fp=>⟨a0X,a0p b1h (pv 12) (pv 0)⟩)) a0d))))))))))))
  (a0h (a0r (pv 6)))),?_⟩
 refine ⟨(by show 0≤sizeLine;decide),fun d hd=>?_⟩
 have s1:=a0e hd (.lst [])
 have g1:upd H d (.lst []) d=some (.lst []):=a0c
 generalize upd H d (.lst [])=H1 at s1 g1 ⊢
 refine ⟨_,rfl,_,rfl,_,_,rfl,⟨by omega,by omega,by omega,by omega⟩,?_⟩
 rw [show ((L:Int) - (low:Int)).toNat=L - low by omega]
 let ga:Nat→List CT.a0z:=fun a=>(List.range most).flatMap fun b=>CT.blk L many (low+a) b
 have ega:CT.rw' L (CT.Cs L) (CT.Rs L) many low most=(List.range (L - low)).flatMap ga:=CT.b1z
 refine a1f (fun a σ H'=>a0x H H'∧(∃ xs,H' d=some (.lst xs)∧Paired (Cn H' d) xs ((List.range a).flatMap ga))∧∃ x7 x8 x9 x10 x11:Option V,σ=[some (.ref ca),some (.ref ra),some (.int (many:Int)),some (.int (low:Int)),some (.int (L:Int)),some (.int (most:Int)),some (.ref d),x7,x8,x9,x10,x11])
  ⟨s1,⟨[],g1,.nil⟩,_,_,_,_,_,rfl⟩ (fun a σ H2 ha hP=>?_) (fun σ H2 hP=>?_)
 rotate_left
 ·obtain ⟨s2,⟨xs,g2,w2⟩,x7,x8,x9,x10,x11,rfl⟩:=hP
  refine ⟨_,rfl,q d H2 s2 ⟨d,xs,rfl,g2,?_⟩⟩
  rw [ega]
  exact Paired.mapP w2 fun _ _ r=>r.1
 obtain ⟨s2,⟨xs2,g2,w2⟩,x7,x8,x9,x10,x11,rfl⟩:=hP
 have ea:(low:Int)+(a:Int)=((low+a:Nat):Int):=by push_cast;rfl
 rw [ea]
 have hla:low+a < L:=by omega
 refine ⟨_,rfl,_,_,rfl,rfl,_,_,rfl,⟨by omega,by omega,by omega,by omega⟩,?_⟩
 rw [show ((most:Int)+1 - 1).toNat=most by omega]
 refine a1f (fun b σ H'=>a0x H H'∧(∃ xs,H' d=some (.lst xs)∧Paired (Cn H' d) xs ((List.range a).flatMap ga++(List.range b).flatMap fun b=>CT.blk L many (low+a) b))∧∃ x8 x9 x10 x11:Option V,σ=[some (.ref ca),some (.ref ra),some (.int (many:Int)),some (.int (low:Int)),some (.int (L:Int)),some (.int (most:Int)),some (.ref d),some (.int ((low+a:Nat):Int)),x8,x9,x10,x11])
  ⟨s2,⟨xs2,g2,by rw [List.range_zero,List.flatMap_nil,List.append_nil];exact w2⟩,_,_,_,_,rfl⟩ (fun b σ H3 hb hP=>?_) (fun σ H3 hP=>?_)
 rotate_left
 ·obtain ⟨s3,⟨xs,g3,w3⟩,x8,x9,x10,x11,rfl⟩:=hP
  refine ⟨s3,⟨xs,g3,?_⟩,_,_,_,_,_,rfl⟩
  rw [CT.a4D]
  exact w3
 obtain ⟨s3,⟨xs3,g3,w3⟩,x8,x9,x10,x11,rfl⟩:=hP
 have eb:(1:Int)+(b:Int)=((b+1:Nat):Int):=by push_cast;omega
 rw [eb]
 refine ⟨(by show 0≤sizeLine;decide),fun e0 he0=>?_⟩
 have s4:=a0e he0 (.lst [])
 have g4:=s4 _ _ g3
 have e0d:e0≠d:=fun z=>by rw [z,g3] at he0;cases he0
 have h4:upd H3 e0 (.lst []) e0=some (.lst []):=a0c
 have w4:=Paired.mapP w3 fun _ _ r=>Cn.same s4 r
 generalize upd H3 e0 (.lst [])=H4 at s4 g4 h4 w4 ⊢
 refine ⟨(by show 1≤sizeLine;decide),fun e1 he1=>?_⟩
 have s5:=a0e he1 (.lst [.ref e0])
 have g5:=s5 _ _ g4
 have e1d:e1≠d:=fun z=>by rw [z,g4] at he1;cases he1
 have h5:upd H4 e1 (.lst [.ref e0]) e1=some (.lst [.ref e0]):=a0c
 have w5:=Paired.mapP w4 fun _ _ r=>Cn.same s5 r
 have h50:=s5 _ _ h4
 generalize upd H4 e1 (.lst [.ref e0])=H5 at s5 g5 h5 w5 h50 ⊢
 have s05:a0x H H5:=(s3.trans s4).trans s5
 refine ⟨fun σ' H'=>a0x H H'∧(∃ xs,H' d=some (.lst xs)∧Paired (Cn H' d) xs ((List.range a).flatMap ga++(List.range b).flatMap fun b=>CT.blk L many (low+a) b))∧∃ bl,CLn H' d bl (CT.bhd (CT.Rs L) many (low+a,b))∧σ'=[some (.ref ca),some (.ref ra),some (.int (many:Int)),some (.int (low:Int)),some (.int (L:Int)),some (.int (most:Int)),some (.ref d),some (.int ((low+a:Nat):Int)),some (.int ((b+1:Nat):Int)),some (.ref bl),x10,x11],?_,?_⟩
 ·refine ⟨_,rfl,_,rfl,_,_,rfl,rfl,_,rfl,?_⟩
  refine a1C (fun z=>?_) (fun z=>?_)
  ·have z1:((b+1:Nat):Int) < (many:Int):=of_decide_eq_true z
   have z2:b+1 < many:=by omega
   have rd5:=rd.same s05
   refine ⟨_,rfl,ra,rfl,.inr ⟨kr,.inl rd5.hr⟩,_,rfl,_,rfl,_,_,rfl,rfl,_,rfl,_,_,rfl,rfl,(by show 2≤sizeLine;decide),fun tk htk=>?_⟩
   have ek:(many:Int) - ((b+1:Nat):Int)=((many - (b+1):Nat):Int):=by omega
   have el:((low+a:Nat):Int)+1=((low+a+1:Nat):Int):=by push_cast;rfl
   dsimp only
   rw [ek,el]
   have s6:=a0e htk (.tup [.int ((many - (b+1):Nat):Int),.int ((low+a+1:Nat):Int)])
   have hk6:upd H5 tk (.tup [.int ((many - (b+1):Nat):Int),.int ((low+a+1:Nat):Int)]) tk=some (.tup ((k2 (many - (b+1)) (low+a+1)).map kV)):=a0c
   have g6:=s6 _ _ g5
   have w6:=Paired.mapP w5 fun _ _ r=>Cn.same s6 r
   generalize upd H5 tk (.tup [.int ((many - (b+1):Nat):Int),.int ((low+a+1:Nat):Int)])=H6 at s6 hk6 g6 w6 ⊢
   refine ⟨(by show 0≤sizeLine;decide),fun e2 he2=>?_⟩
   have s7:=a0e he2 (.lst [])
   have g7:=s7 _ _ g6
   have e2d:e2≠d:=fun z=>by rw [z,g6] at he2;cases he2
   have w7:=Paired.mapP w6 fun _ _ r=>Cn.same s7 r
   have h7:upd H6 e2 (.lst []) e2=some (.lst []):=a0c
   have hk7:=s7 _ _ hk6
   generalize upd H6 e2 (.lst [])=H7 at s7 g7 w7 h7 hk7 ⊢
   have s07:a0x H H7:=(s05.trans s6).trans s7
   have rd7:=rd.same s07
   refine ⟨_,a6z.t rd7.hr hk7,?_⟩
   obtain ⟨bl,ebl,hbl⟩:∃ bl,(a2t kr (k2 (many - (b+1)) (low+a+1))).getD (.ref e2)=.ref bl∧CLn H7 d bl (CT.bhd (CT.Rs L) many (low+a,b)):=by
    have eB:CT.bhd (CT.Rs L) many (low+a,b)=CT.Rs L (many - (b+1)) (low+a+1):=if_pos z2
    rw [eB]
    by_cases y:low+a+1 < L
    ·obtain ⟨v,ev,cv⟩:=rd.r (many - (b+1)) (low+a+1) (by omega) (by omega) y
     obtain ⟨bl,rfl,c⟩:=cv.cln hd s07
     exact ⟨bl,by rw [ev];rfl,c⟩
    ·have yl:low+a+1=L:=by omega
     refine ⟨e2,by rw [yl,rd.e];rfl,e2d,[],h7,?_⟩
     rw [CT.a5l y]
     exact .nil
   rw [ebl]
   exact ⟨s07,⟨_,g7,w7⟩,bl,hbl,rfl⟩
  ·have z2:¬ b+1 < many:=fun y=>z (decide_eq_true (by show ((b+1:Nat):Int) < (many:Int);omega))
   refine ⟨s05,⟨_,g5,w5⟩,e1,⟨e1d,_,h5,?_⟩,rfl⟩
   have eB:CT.bhd (CT.Rs L) many (low+a,b)=[[]]:=if_neg z2
   rw [eB]
   exact .cons ⟨⟨e0,[],rfl,h50,.nil⟩,fun z=>e0d (V.ref.inj z)⟩ .nil
 rintro σ' H6 ⟨s6,⟨xs6,g6,w6⟩,bl,hbl,rfl⟩
 obtain ⟨v,ev,cv⟩:=rd.c (b+1) (by omega) (by omega)
 obtain ⟨ia,is_,rfl,hia,wia⟩:=cv
 have lia:is_.length=(CT.Cs L (b+1)).length:=wia.length
 refine ⟨_,rfl,_,rfl,ca,_,rfl,(by have:=a6z.k (k:=.inl ((b+1:Nat):Int)) (rd.same s6).hc;rw [ev] at this;exact this),ia,rfl,⟨_,SqL.of (s6 _ _ hia)⟩,?_⟩
 refine a6k (xs:=is_) (fun k σ H'=>a0x H H'∧(∃ xs,H' d=some (.lst xs)∧Paired (Cn H' d) xs (((List.range a).flatMap ga++(List.range b).flatMap fun b=>CT.blk L many (low+a) b)++((CT.Cs L (b+1)).take k).flatMap fun c=>(CT.bhd (CT.Rs L) many (low+a,b)).map fun r=>CT.ahd (low+a) c++r))∧CLn H' d bl (CT.bhd (CT.Rs L) many (low+a,b))∧∃ x10 x11:Option V,σ=[some (.ref ca),some (.ref ra),some (.int (many:Int)),some (.int (low:Int)),some (.int (L:Int)),some (.int (most:Int)),some (.ref d),some (.int ((low+a:Nat):Int)),some (.int ((b+1:Nat):Int)),some (.ref bl),x10,x11])
  ⟨s6,⟨xs6,g6,by rw [List.take_zero,List.flatMap_nil,List.append_nil];exact w6⟩,hbl,_,_,rfl⟩ (fun k σ H' _ hP=>SqL.of (hP.1 _ _ hia)) (fun k x σ H7 hx hP=>?_) (fun σ H7 hP=>?_)
 rotate_left
 ·obtain ⟨s7,⟨xs,g7,w7⟩,_,x10,x11,rfl⟩:=hP
  refine ⟨s7,⟨xs,g7,?_⟩,_,_,_,_,rfl⟩
  rw [lia,List.take_length] at w7
  rw [CT.a4D,←List.append_assoc]
  exact w7
 obtain ⟨s7,⟨xs7,g7,w7⟩,hbl7,x10,x11,rfl⟩:=hP
 obtain ⟨c,hc,rc⟩:=Paired.right_of wia k x hx
 have hcm:=List.mem_of_getElem? hc
 have gdc:=CT.a5W (L:=L) (m:=b+1) (by omega) c hcm
 obtain ⟨xa,ys,rfl,hxa,wxa⟩:=rc
 have lys:ys.length=c.length:=wxa.length
 refine ⟨_,rfl,xa,_,rfl,SqL.of (s7 _ _ hxa),fun e3 he3=>?_⟩
 refine ⟨fun j H'=>a0x H7 H'∧∃ zs,H' e3=some (.lst zs)∧Ws H' zs ((c.take j).map fun u=>((low+a:Nat):Int) :: u),⟨a0e he3 _,[],a0c,.nil⟩,fun j H' _ hP=>SqL.of (hP.1 _ _ (s7 _ _ hxa)),fun j x H' hx hP=>?_,fun H8 hP=>?_⟩
 ·obtain ⟨s8,zs,g8,w8⟩:=hP
  obtain ⟨u,hu,ru⟩:=Paired.right_of wxa j x hx
  obtain ⟨ua,rfl,hua⟩:=Wd.ti ru
  have jl:=(List.getElem?_eq_some_iff.mp hu).1
  have lu:=(gdc.wd u (List.mem_of_getElem? hu)).1
  refine a0S ⟨_,rfl,(by show 1≤sizeLine;decide),fun t1 ht1=>?_⟩
  have s9:=a0e ht1 (.tup [.int ((low+a:Nat):Int)])
  have h9:upd H' t1 (.tup [.int ((low+a:Nat):Int)]) t1=some (.tup [.int ((low+a:Nat):Int)]):=a0c
  generalize upd H' t1 (.tup [.int ((low+a:Nat):Int)])=H9 at s9 h9 ⊢
  refine ⟨_,rfl,t1,ua,_,_,rfl,rfl,h9,s9 _ _ (s8 _ _ (s7 _ _ hua)),small (by rw [List.length_map,List.length_singleton];omega),fun p H10 s10 hp=>?_⟩
  refine ⟨zs,s10 _ _ (s9 _ _ g8),a0s (by rw [w8.length,List.length_map,List.length_take,gdc.ln];omega),a0v he3 ((s8.trans s9).trans s10),_,a0c,?_⟩
  rw [List.take_add_one,hu,List.map_append]
  exact Paired.appendP (Ws.upd (s10 _ _ (s9 _ _ g8)) (Ws.same (s9.trans s10) w8)) (.cons (Wd.upd (s10 _ _ (s9 _ _ g8)) (Wd.of hp)) .nil)
 obtain ⟨s8,zs8,g8,w8⟩:=hP
 rw [lys,List.take_length] at w8
 have e3d:e3≠d:=fun z=>by rw [z,g7] at he3;cases he3
 have hbl8:=hbl7.same s8
 have w78:=Paired.mapP w7 fun _ _ r=>Cn.same s8 r
 have g78:=s8 _ _ g7
 have s08:=s7.trans s8
 obtain ⟨bd,bxs,hb8,wb8⟩:=hbl8
 have lbx:bxs.length=(CT.bhd (CT.Rs L) many (low+a,b)).length:=wb8.length
 have lb9:=b2W (l:=low+a) (b:=b) hin
 have lz8:zs8.length≤6:=by rw [w8.length,List.length_map,gdc.ln];omega
 refine ⟨_,rfl,.inl ⟨rfl,_,SqL.of g78⟩,_,rfl,bl,_,rfl,SqL.of hb8,fun e4 he4=>?_⟩
 have e4d:e4≠d:=fun z=>by rw [z,g78] at he4;cases he4
 refine ⟨fun j H'=>a0x H8 H'∧∃ zs,H' e4=some (.lst zs)∧Paired (fun x c=>Cn H' e4 x c∧x≠.ref d) zs (((CT.bhd (CT.Rs L) many (low+a,b)).take j).map fun r=>CT.ahd (low+a) c++r),⟨a0e he4 _,[],a0c,.nil⟩,fun j H' _ hP=>SqL.of (hP.1 _ _ hb8),fun j x H' hx hP=>?_,fun H9 hP=>?_⟩
 ·obtain ⟨s9,zs,g9,w9⟩:=hP
  obtain ⟨r,hr',rr⟩:=Paired.right_of wb8 j x hx
  have jl:=(List.getElem?_eq_some_iff.mp hr').1
  have gr:=bhd_gd (L:=L) (l:=low+a) (show b < many by omega) r (List.mem_of_getElem? hr')
  obtain ⟨⟨ra',rs,rfl,hra,wra⟩,_⟩:=rr
  have lrs:rs.length≤6:=by rw [wra.length,gr.ln];omega
  refine a0S ⟨_,rfl,_,rfl,e3,ra',_,_,rfl,rfl,s9 _ _ g8,s9 _ _ hra,small (by omega),fun p hp=>?_⟩
  have s10:=a0e hp (.lst (zs8++rs))
  have h10:upd H' p (.lst (zs8++rs)) p=some (.lst (zs8++rs)):=a0c
  have pe4:V.ref p≠.ref e4:=fun z=>by rw [V.ref.inj z,g9] at hp;cases hp
  have pd:V.ref p≠.ref d:=fun z=>by rw [V.ref.inj z,s9 _ _ g78] at hp;cases hp
  generalize upd H' p (.lst (zs8++rs))=H10 at s10 h10 ⊢
  have w10:Ws H10 (zs8++rs) (CT.ahd (low+a) c++r):=Paired.appendP (Ws.same (s9.trans s10) w8) (Ws.same (s9.trans s10) wra)
  refine ⟨zs,s10 _ _ g9,a0s (by rw [w9.length,List.length_map,List.length_take];omega),a0v he4 (s9.trans s10),_,a0c,?_⟩
  rw [List.take_add_one,hr',List.map_append]
  exact Paired.appendP (Paired.mapP w9 fun _ _ q=>⟨(Cn.same s10 q.1).upd (s10 _ _ g9),q.2⟩) (.cons ⟨Cn.upd (s10 _ _ g9) ⟨⟨p,_,rfl,h10,w10⟩,pe4⟩,pd⟩ .nil)
 obtain ⟨s9,zs9,g9,w9⟩:=hP
 rw [lbx,List.take_length] at w9
 have kl:=(List.getElem?_eq_some_iff.mp hc).1
 have pl:=CT.b0M (L:=L) (many:=many) (low:=low) (most:=most) (a:=a) (b:=b) (k:=k+1) ha hb
 have et:((CT.Cs L (b+1)).take (k+1)).flatMap (fun c=>(CT.bhd (CT.Rs L) many (low+a,b)).map fun r=>CT.ahd (low+a) c++r)=((CT.Cs L (b+1)).take k).flatMap (fun c=>(CT.bhd (CT.Rs L) many (low+a,b)).map fun r=>CT.ahd (low+a) c++r)++(CT.bhd (CT.Rs L) many (low+a,b)).map fun r=>CT.ahd (low+a) c++r:=by
  rw [List.take_add_one,hc,List.flatMap_append]
  congr 1
  exact List.flatMap_singleton _ _
 have g79:=s9 _ _ g78
 refine ⟨d,e4,_,_,rfl,rfl,g79,g9,small ?_,a0v hd ((s7.trans s8).trans s9),⟨_,a0c,?_⟩,CLn.upd g79 (CLn.same s9 ⟨bd,_,hb8,wb8⟩),_,_,rfl⟩
 ·rw [w7.length,w9.length,List.length_map]
  rw [et,List.length_append,List.length_map] at pl
  rw [List.length_append,List.length_append]
  have e2:((List.range a).flatMap ga).length=((List.range a).flatMap fun a=>(List.range most).flatMap fun b=>CT.blk L many (low+a) b).length:=rfl
  omega
 ·rw [et,←List.append_assoc]
  exact Paired.appendP (Paired.mapP w78 fun _ _ r=>(Cn.same s9 r).upd g79) (Paired.mapP w9 fun _ _ r=>Cn.upd g79 ⟨r.1.1,r.2⟩)
end
def CoD (H:Hp) (ca:Addr) (L b N:Nat):Prop:=∃ kc:List (Key × V),H ca=some (.dK kc)∧kc.length≤N∧∀ k,1≤k→k≤b→∃ v,a2t kc (.inl (k:Int))=some v∧CL H v (CT.Cs L k)
def RoD (H:Hp) (ra:Addr) (L N:Nat) (dn:Nat→Nat→Prop):Prop:=∃ kr:List (List Key × V),H ra=some (.dT kr)∧kr.length≤N∧(∀ k l,dn k l→∃ v,a2t kr (k2 k l)=some v∧CL H v (CT.Rs L k l))∧∀ k,a2t kr (k2 k L)=none
theorem CoD.same {H H':Hp} {ca:Addr} {L b N:Nat} (s:a0x H H') (h:CoD H ca L b N):CoD H' ca L b N:=by
 obtain ⟨kc,e,n,c⟩:=h
 exact ⟨kc,s _ _ e,n,fun k a b=>by obtain ⟨v,x,y⟩:=c k a b;exact ⟨v,x,y.same s⟩⟩
theorem RoD.same {H H':Hp} {ra:Addr} {L N:Nat} {dn:Nat→Nat→Prop} (s:a0x H H') (h:RoD H ra L N dn):RoD H' ra L N dn:=by
 obtain ⟨kr,e,n,c,z⟩:=h
 exact ⟨kr,s _ _ e,n,fun k l a=>by obtain ⟨v,x,y⟩:=c k l a;exact ⟨v,x,y.same s⟩,z⟩
theorem b1C {a b c d:Nat} (h:k2 a b=k2 c d):a=c∧b=d:=by
 have h1:(Sum.inl (a:Int):Key)=.inl (c:Int):=(List.cons.inj h).1
 have h2:(Sum.inl (b:Int):Key)=.inl (d:Int):=(List.cons.inj (List.cons.inj h).2).1
 have h3:=Sum.inl.inj h1
 have h4:=Sum.inl.inj h2
 omega
theorem CoD.put {H:Hp} {ca:Addr} {L b N:Nat} {v:V} (h:CoD H ca L b N) (hv:CL H v (CT.Cs L (b+1))):∃ kc:List (Key × V),H ca=some (.dK kc)∧kc.length≤N∧CoD (upd H ca (.dK (a3W kc (.inl ((b+1:Nat):Int)) v))) ca L (b+1) (N+1):=by
 obtain ⟨kc,e,n,c⟩:=h
 refine ⟨kc,e,n,_,a0c,Nat.le_trans (a1x _ _ _) (by omega),fun k h1 h2=>?_⟩
 rw [a4z]
 by_cases z:k=b+1
 ·subst z
  rw [if_pos rfl]
  exact ⟨v,rfl,hv.keep (a3b.dK e)⟩
 ·rw [if_neg (fun y=>z (by have:=Sum.inl.inj y;omega))]
  obtain ⟨v',x,y⟩:=c k h1 (by omega)
  exact ⟨v',x,y.keep (a3b.dK e)⟩
theorem RoD.put {H:Hp} {ra:Addr} {L N m l:Nat} {dn dn':Nat→Nat→Prop} {v:V} (h:RoD H ra L N dn) (hl:l < L) (hv:CL H v (CT.Rs L m l)) (hd:∀ k j,dn' k j→dn k j∨(k=m∧j=l)):∃ kr:List (List Key × V),H ra=some (.dT kr)∧kr.length≤N∧RoD (upd H ra (.dT (a3W kr (k2 m l) v))) ra L (N+1) dn':=by
 obtain ⟨kr,e,n,c,zz⟩:=h
 refine ⟨kr,e,n,_,a0c,Nat.le_trans (a1x _ _ _) (by omega),fun k j hkj=>?_,fun k=>?_⟩
 ·rw [a4z]
  by_cases z:k2 k j=k2 m l
  ·obtain ⟨rfl,rfl⟩:=b1C z
   rw [if_pos rfl]
   exact ⟨v,rfl,hv.keep (a3b.dT e)⟩
  ·rw [if_neg z]
   rcases hd k j hkj with y | y
   ·obtain ⟨v',x,y⟩:=c k j y
    exact ⟨v',x,y.keep (a3b.dT e)⟩
   ·exact absurd (by rw [y.1,y.2]) z
 ·rw [a4z,if_neg (fun y=>by have:=(b1C y).2;omega)]
  exact zz k
theorem CoD.other {H:Hp} {ca ra:Addr} {L b N:Nat} {kr:List (List Key × V)} {o:HO} (h:CoD H ca L b N) (hr:H ra=some (.dT kr)):CoD (upd H ra o) ca L b N:=by
 obtain ⟨kc,e,n,c⟩:=h
 exact ⟨kc,by rw [a0j (a0G e hr (by intro z;cases z))];exact e,n,fun k a b=>by obtain ⟨v,x,y⟩:=c k a b;exact ⟨v,x,y.keep (a3b.dT hr)⟩⟩
theorem RoD.other {H:Hp} {ca ra:Addr} {L N:Nat} {dn:Nat→Nat→Prop} {kc:List (Key × V)} {o:HO} (h:RoD H ra L N dn) (hc:H ca=some (.dK kc)):RoD (upd H ca o) ra L N dn:=by
 obtain ⟨kr,e,n,c,z⟩:=h
 exact ⟨kr,by rw [a0j (a0G e hc (by intro z;cases z))];exact e,n,fun k l a=>by obtain ⟨v,x,y⟩:=c k l a;exact ⟨v,x,y.keep (a3b.dK hc)⟩,z⟩
theorem RoD.weak {H:Hp} {ra:Addr} {L N N':Nat} {dn dn':Nat→Nat→Prop} (h:RoD H ra L N dn) (hN:N≤N') (hd:∀ k l,dn' k l→dn k l):RoD H ra L N' dn':=by
 obtain ⟨kr,e,n,c,z⟩:=h
 exact ⟨kr,e,by omega,fun k l a=>c k l (hd k l a),z⟩
def Tw (H:Hp) (x:V) (c:CT.a0z):Prop:=∃ a xs,x=.ref a∧H a=some (.tup xs)∧Ws H xs c
theorem Tw.same {H H':Hp} {x:V} {c:CT.a0z} (s:a0x H H') (h:Tw H x c):Tw H' x c:=by
 obtain ⟨a,xs,rfl,e,w⟩:=h
 exact ⟨a,xs,rfl,s _ _ e,w.same s⟩
theorem Tw.upd {H:Hp} {d:Addr} {x:V} {c:CT.a0z} {ls ls':List V} (hd:H d=some (.lst ls)) (h:Tw H x c):Tw (L2.upd H d (.lst ls')) x c:=by
 obtain ⟨a,xs,rfl,e,w⟩:=h
 exact ⟨a,xs,rfl,by rw [a0j (a0G e hd (by intro z;cases z))];exact e,Ws.upd hd w⟩
section
variable {P:Program} {w:World} {K:PySem.W.Frag} {mg:Str→Option Value} {base:Heap} {f:Addr} {fd:FuncData}
abbrev NCo:List Str:=["things","letters","codes","rows","many","letter"]
def a4F:Sp:=fun vs H Q _=>∃ n L:Nat,vs=[.int (n:Int),.int (L:Int)]∧CT.inL L n∧1≤n∧∀ (d:Addr) xs H',a0x H H'→H' d=some (.lst xs)→Paired (Tw H') xs (CT.Cs L n)→Q (.ref d) H'
theorem a3I:a0n NCo ["things","letters"] (a0b a3C):=⟨rfl,rfl,rfl,by decide +kernel,rfl,by decide +kernel,by decide +kernel⟩
theorem ndCo:(("words":Str) :: NCo).Nodup:=by decide +kernel
theorem b0P (F:Fun K "_law_codes" "_law_codes" a3C f fd) (GR:Fns P w K mg base ["codes","rows","many","low","letters","most"] "_law_rows" a9j 1) (mr:mg "range"=none) (mt:mg "tuple"=none):a0O P w K mg base CX0 2 f fd ["things","letters"] a4F:=by
 refine F.ok (k:=1) a3I (fun vs H Q E h=>?_) (fun cdv A outer s H vs Q E hr h=>?_)
 ·obtain ⟨n,L,rfl,_⟩:=h
  rfl
 obtain ⟨n,L,rfl,hin,n1,q⟩:=h
 obtain ⟨L2',L4,m6⟩:=a9k hin
 refine ⟨_,a0f (a0t (i:=2) a3I.nd rfl (Or.inl rfl) (b2q (b0l a0g (a0N (a0a (a0N (a0a (a1h a0d) a0d)) a0d)) b2p) rfl rfl (by intro z;cases z) (by decide)))
  (a0f (a0t (i:=3) a3I.nd rfl (Or.inl rfl) b0k)
  (a0f (a1l PassesOwn.never rfl (a1p (by rfl) mr (a0a a0g (a0a (a0p a0I (pv 0) a0g) a0d))) (a0H (i:=4) a3I.nd rfl (Or.inl rfl))
   (a0f (a1X (a1e (a0B a7R (pv 4) a0g (nomark _)) (a0h (a8E (hu1 hr) (pv 2) (pv 4) (a0l GR.ok hr (by rfl) GR.m GR.kp GR.b .nil a0C (a0a (pv 2) (a0a (pv 3) (a0a (pv 4) (a0a a0g (a0a (pv 1) (a0a (a0p a1q (pv 4) a0g) a0d))))))) rfl)) a0D))
   (a0h (a1l PassesOwn.never rfl (a3s (by rfl) mr (a0a (a0p a1q (pv 1) a0g) (a0a (a2x a1z a0g) (a0a (a2x a1z a0g) a0d)))) (a0H (i:=5) a3I.nd rfl (Or.inl rfl))
    (a0h (a8E (hu1 hr) (pv 3) (a1h (a0a (pv 4) (a0a (pv 5) a0d))) (a0l GR.ok hr (by rfl) GR.m GR.kp GR.b .nil a0C (a0a (pv 2) (a0a (pv 3) (a0a (pv 4) (a0a (pv 5) (a0a (pv 1) (a0a (pv 4) a0d))))))) rfl))))))
  (a0h (a0r (a2A (M:=NCo) rfl (a0q.of (a0b a3C) NCo rfl rfl rfl (by decide +kernel) (by decide +kernel) (by decide +kernel) rfl (by decide +kernel)) ndCo rfl (b1m (a8D (hu1 hr) (pv 2) (pv 0) (fun _ _=>rfl))) b1n
   (fun cl C s0 H0 fp=>⟨a0X,a1S (tupleK K) (by rfl) mt a4v (a0a (pv 0) a0d)⟩)))))),?_⟩
 refine fun ca hca=>?_
 have s1:=a0e hca (.dK [])
 have g1:upd H ca (.dK []) ca=some (.dK []):=a0c
 generalize upd H ca (.dK [])=H1 at s1 g1 ⊢
 refine ⟨(by show 0≤sizeLine;decide),fun t0 ht0=>?_⟩
 have s2:=a0e ht0 (.tup [])
 have h2:upd H1 t0 (.tup []) t0=some (.tup []):=a0c
 generalize upd H1 t0 (.tup [])=H2 at s2 h2 ⊢
 refine ⟨(by show 1≤sizeLine;decide),fun l1 hl1=>?_⟩
 have s3:=a0e hl1 (.lst [.ref t0])
 have h3:upd H2 l1 (.lst [.ref t0]) l1=some (.lst [.ref t0]):=a0c
 generalize upd H2 l1 (.lst [.ref t0])=H3 at s3 h3 ⊢
 refine ⟨(by show 1≤sizeLine;decide),fun l2 hl2=>?_⟩
 have s4:=a0e hl2 (.lst [.ref l1])
 have h4:upd H3 l2 (.lst [.ref l1]) l2=some (.lst [.ref l1]):=a0c
 generalize upd H3 l2 (.lst [.ref l1])=H4 at s4 h4 ⊢
 have g4:=s4 _ _ (s3 _ _ (s2 _ _ g1))
 have c1:CL H4 (.ref l2) (CT.Cs L 1):=⟨l2,_,rfl,h4,.cons ⟨l1,_,rfl,s4 _ _ h3,.cons (Wd.of (w:=[]) (s4 _ _ (s3 _ _ h2))) .nil⟩ .nil⟩
 have cd0:CoD H4 ca L 0 0:=⟨[],g4,Nat.le_refl _,fun k a b=>by omega⟩
 have s14:=(s2.trans s3).trans s4
 obtain ⟨kc0,ek0,_,cd1⟩:=cd0.put c1
 have ek1:kc0=[]:=by rw [g4] at ek0;cases ek0;rfl
 subst ek1
 refine ⟨g4,[(.inl 1,.ref l2)],rfl,(by show 1≤15;decide),?_⟩
 have s5:a0x H (upd H4 ca (.dK (a2Y [] [(.inl 1,.ref l2)]))):=a0v hca (s1.trans s14)
 have cd5:CoD (upd H4 ca (.dK (a2Y [] [(.inl 1,.ref l2)]))) ca L 1 1:=cd1
 generalize upd H4 ca (.dK (a2Y [] [(.inl 1,.ref l2)]))=H5 at s5 cd5 ⊢
 refine fun ra hra=>?_
 have s6:=a0e hra (.dT [])
 have g6:upd H5 ra (.dT []) ra=some (.dT []):=a0c
 have rn:H ra=none:=s5.free hra
 have cd6:=cd5.same s6
 have s06:=s5.trans s6
 generalize upd H5 ra (.dT [])=H6 at s6 g6 cd6 s06 ⊢
 have rd6:RoD H6 ra L 0 (fun k l=>1≤k∧k≤0∧l < L):=⟨[],g6,Nat.le_refl _,fun k l a=>by omega,fun k=>rfl⟩
 refine ⟨_,rfl,_,_,rfl,rfl,_,_,rfl,⟨by omega,by omega,by omega,by omega⟩,?_⟩
 rw [show ((n:Int)+1 - 1).toNat=n by omega]
 refine a1f (fun m σ H'=>a0x H H'∧CoD H' ca L (if m=0 then 1 else m) (m+1)∧RoD H' ra L (4 * m) (fun k l=>1≤k∧k≤m∧l < L)∧∃ x4 x5:Option V,σ=[some (.int (n:Int)),some (.int (L:Int)),some (.ref ca),some (.ref ra),x4,x5])
  ⟨s06,cd6,rd6,_,_,rfl⟩ (fun m σ H7 hm hP=>?_) (fun σ H7 hP=>?_)
 ·obtain ⟨s7,cd7,rd7,x4,x5,rfl⟩:=hP
  have em:(1:Int)+(m:Int)=((m+1:Nat):Int):=by push_cast;omega
  rw [em]
  have hinm:CT.inL L (m+1):=b1B hin (by omega)
  refine ⟨fun σ' H'=>a0x H H'∧CoD H' ca L (m+1) (m+2)∧RoD H' ra L (4 * m) (fun k l=>1≤k∧k≤m∧l < L)∧σ'=[some (.int (n:Int)),some (.int (L:Int)),some (.ref ca),some (.ref ra),some (.int ((m+1:Nat):Int)),x5],?_,?_⟩
  ·refine ⟨_,rfl,_,_,rfl,rfl,_,rfl,?_⟩
   refine a1C (fun z=>?_) (fun z=>?_)
   ·have z1:((m+1:Nat):Int) > 1:=of_decide_eq_true z
    have m1:m≠0:=by omega
    rw [if_neg m1] at cd7
    obtain ⟨kc,ekc,nkc,ckc⟩:=cd7
    obtain ⟨kr,ekr,nkr,ckr,zkr⟩:=rd7
    have ee:((m+1:Nat):Int) - 1=(m:Int):=by omega
    have eC:CT.rw' L (CT.Cs L) (CT.Rs L) (m+1) 0 m=CT.Cs L (m+1):=(CT.a7z (L:=L) (m:=m+1) (by omega)).symm
    refine ⟨_,rfl,_,rfl,_,rfl,_,rfl,_,rfl,_,_,rfl,rfl,ca,ra,kc,kr,L,m+1,0,m,(by dsimp only;rw [ee];rfl),⟨ekc,ekr,ckc,fun k l a b c=>ckr k l ⟨a,by omega,c⟩,zkr⟩,by omega,by omega,hinm,(by rw [eC];exact CT.a9h hinm),fun d H8 s8 c8=>?_⟩
    rw [eC] at c8
    have cd8:CoD H8 ca L m (m+1):=CoD.same s8 ⟨kc,ekc,nkc,ckc⟩
    have rd8:RoD H8 ra L (4 * m) (fun k l=>1≤k∧k≤m∧l < L):=RoD.same s8 ⟨kr,ekr,nkr,ckr,zkr⟩
    obtain ⟨kc',ekc',nkc',cd9⟩:=cd8.put c8
    refine ⟨_,rfl,_,rfl,ca,_,rfl,b0h.k (k:=.inl ((m+1:Nat):Int)) ekc' (a0s (by omega)),a0v hca (s7.trans s8),cd9,rd8.other ekc',rfl⟩
   ·have z1:¬ ((m+1:Nat):Int) > 1:=fun y=>z (decide_eq_true y)
    have m0:m=0:=by omega
    subst m0
    obtain ⟨kc,ekc,nkc,ckc⟩:=cd7
    exact ⟨s7,⟨kc,ekc,by omega,ckc⟩,rd7,rfl⟩
  rintro σ' H8 ⟨s8,cd8,rd8,rfl⟩
  refine ⟨_,rfl,_,_,rfl,rfl,_,rfl,_,rfl,_,rfl,⟨by omega,by omega⟩,?_⟩
  rw [show ((L:Int) - 1+1).toNat=L by omega]
  refine a2N (fun j σ H'=>a0x H H'∧CoD H' ca L (m+1) (m+2)∧RoD H' ra L (4 * m+j) (fun k l=>(1≤k∧k≤m∧l < L)∨(k=m+1∧L - j≤l∧l < L))∧∃ x5:Option V,σ=[some (.int (n:Int)),some (.int (L:Int)),some (.ref ca),some (.ref ra),some (.int ((m+1:Nat):Int)),x5])
   ⟨s8,cd8,rd8.weak (by omega) (fun k l a=>by rcases a with y | y <;> omega),_,rfl⟩ (fun j σ H9 hj hP=>?_) (fun σ H9 hP=>?_)
  ·obtain ⟨s9,cd9,rd9,x5',rfl⟩:=hP
   obtain ⟨l,el⟩:∃ l,l=L - 1 - j:=⟨_,rfl⟩
   have ev:(L:Int) - 1+(j:Int) * (-1)=(l:Int):=by omega
   rw [ev]
   have hl:l < L:=by omega
   obtain ⟨kc,ekc,nkc,ckc⟩:=cd9
   obtain ⟨kr,ekr,nkr,ckr,zkr⟩:=rd9
   have eR:CT.rw' L (CT.Cs L) (CT.Rs L) (m+1) l (m+1)=CT.Rs L (m+1) l:=(CT.a7A (L:=L) (m:=m+1) (by omega) hl).symm
   refine ⟨_,rfl,_,rfl,_,rfl,_,rfl,_,rfl,_,rfl,ca,ra,kc,kr,L,m+1,l,m+1,rfl,⟨ekc,ekr,ckc,fun k l a b c=>ckr k l (.inl ⟨a,by omega,c⟩),zkr⟩,by omega,hl,hinm,(by rw [eR];exact CT.b1y hinm),fun d H10 s10 c10=>?_⟩
   rw [eR] at c10
   refine ⟨_,rfl,_,rfl,_,rfl,(by show 2≤sizeLine;decide),fun tk htk=>?_⟩
   have s11:=a0e htk (.tup [.int ((m+1:Nat):Int),.int (l:Int)])
   have hk:upd H10 tk (.tup [.int ((m+1:Nat):Int),.int (l:Int)]) tk=some (.tup ((k2 (m+1) l).map kV)):=a0c
   generalize upd H10 tk (.tup [.int ((m+1:Nat):Int),.int (l:Int)])=H11 at s11 hk ⊢
   have s911:=s10.trans s11
   have cd11:CoD H11 ca L (m+1) (m+2):=CoD.same s911 ⟨kc,ekc,nkc,ckc⟩
   have rd11:RoD H11 ra L (4 * m+j) _:=RoD.same s911 ⟨kr,ekr,nkr,ckr,zkr⟩
   obtain ⟨kr',ekr',nkr',rd12⟩:=rd11.put (dn':=fun k j'=>(1≤k∧k≤m∧j' < L)∨(k=m+1∧L - (j+1)≤j'∧j' < L)) hl (c10.same s11) (fun k j' a=>by
    rcases a with y | y
    ·exact .inl (.inl y)
    ·by_cases e:j'=l
     ·exact .inr ⟨y.1,e⟩
     ·exact .inl (.inr ⟨y.1,by omega,y.2.2⟩))
   refine ⟨ra,_,rfl,b0h.t ekr' hk (a0s (by omega)),a0v rn (s9.trans s911),cd11.other ekr',rd12,_,rfl⟩
  ·obtain ⟨s9,cd9,rd9,x5',rfl⟩:=hP
   refine ⟨s9,?_,rd9.weak (by omega) (fun k l a=>?_),_,_,rfl⟩
   ·rw [if_neg (by omega)];exact cd9
   ·by_cases e:k=m+1
    ·exact .inr ⟨e,by omega,a.2.2⟩
    ·exact .inl ⟨a.1,by omega,a.2.2⟩
 ·obtain ⟨s7,cd7,rd7,x4,x5,rfl⟩:=hP
  rw [if_neg (by omega)] at cd7
  obtain ⟨kc,ekc,nkc,ckc⟩:=cd7
  obtain ⟨v,ev,cv⟩:=ckc n n1 (Nat.le_refl _)
  obtain ⟨ia,is_,rfl,hia,wia⟩:=cv
  have lia:is_.length=(CT.Cs L n).length:=wia.length
  have l9:=CT.a9h hin
  refine ⟨fun v H'=>v=.ref ia∧H'=H7,⟨_,rfl,_,rfl,ca,_,rfl,(by have:=a6z.k (k:=.inl (n:Int)) ekc;rw [ev] at this;exact this),rfl,rfl⟩,?_⟩
  rintro v H' ⟨rfl,rfl⟩
  refine ⟨ia,_,rfl,SqL.of hia,fun e he=>?_⟩
  refine ⟨fun k H''=>a0x H' H''∧∃ zs,H'' e=some (.lst zs)∧Paired (Tw H'') zs ((CT.Cs L n).take k),⟨a0e he _,[],a0c,.nil⟩,fun k H'' _ hP=>SqL.of (hP.1 _ _ hia),fun k x H8 hx hP=>?_,fun H8 hP=>?_⟩
  ·obtain ⟨s8,zs,g8,w8⟩:=hP
   obtain ⟨c,hc,xa,ys,rfl,hxa,wxa⟩:=Paired.right_of wia k x hx
   have kl:=(List.getElem?_eq_some_iff.mp hc).1
   refine a0S ⟨_,rfl,xa,_,rfl,.inl ⟨SqL.of (s8 _ _ hxa),fun l hl=>?_⟩⟩
   have s9:=a0e hl (.tup ys)
   have h9:upd H8 l (.tup ys) l=some (.tup ys):=a0c
   generalize upd H8 l (.tup ys)=H9 at s9 h9 ⊢
   refine ⟨zs,s9 _ _ g8,a0s (by rw [w8.length,List.length_take];omega),a0v he (s8.trans s9),_,a0c,?_⟩
   rw [List.take_add_one,hc]
   exact Paired.appendP (Paired.mapP w8 fun _ _ r=>(Tw.same s9 r).upd (s9 _ _ g8)) (.cons (Tw.upd (s9 _ _ g8) ⟨l,_,rfl,h9,Ws.same (s8.trans s9) wxa⟩) .nil)
  ·obtain ⟨s8,zs,g8,w8⟩:=hP
   rw [lia,List.take_length] at w8
   exact q e zs H8 (s7.trans s8) g8 w8
end
theorem a7C {ps:List Int} (hp:∀ x∈ps,0≤x∧x≤B30):∀ ns:List Int,0≤CT.pc ps ns∧CT.pc ps ns≤(ns.length:Int) * B30
 | []=>⟨by show (0:Int)≤0;decide,by show (0:Int)≤0 * B30;decide⟩
 | n :: ns=>by
  obtain ⟨h1,h2⟩:=a7C hp ns
  have e:CT.pc ps (n :: ns)=ps.getD n.toNat 0+CT.pc ps ns:=by unfold CT.pc;simp
  have b:0≤ps.getD n.toNat 0∧ps.getD n.toNat 0≤B30:=by
   rw [List.getD_eq_getElem?_getD]
   cases hz:ps[n.toNat]? with
   | none=>exact ⟨by decide,by decide⟩
   | some z=>exact hp z (List.mem_of_getElem? hz)
  rw [e]
  have e2:((n :: ns).length:Int) * B30=(ns.length:Int) * B30+B30:=by
   rw [List.length_cons]
   push_cast
   rw [Int.add_mul]
   simp
  omega
section
variable {P:Program} {w:World} {K:PySem.W.Frag} {mg:Str→Option Value} {base:Heap} {f:Addr} {fd:FuncData}
def Lt (L:Nat) (ns:List Int):Prop:=∀ z∈ns,(0:Int)≤z∧z < (L:Int)
def a2f:Sp:=fun vs H Q _=>∃ (x y:V) (ps ns:List Int),vs=[x,y]∧Wd H x ps∧Wd H y ns∧Lt ps.length ns∧ns.length≤1000∧∀ H',a0x H H'→Q (.int (CT.pc ps ns)) H'
theorem a5Y:a0n ["prices","word"] ["prices","word"] (a0b a3D):=⟨rfl,rfl,rfl,by decide +kernel,rfl,by decide +kernel,by decide +kernel⟩
theorem ndP:(("letter":Str) :: ["prices","word"]).Nodup:=by decide +kernel
theorem a4G (F:Fun K "_law_price" "_law_price" a3D f fd) (ms:mg "sum"=none):a0O P w K mg base CX0 1 f fd ["prices","word"] a2f:=by
 refine F.ok (k:=0) a5Y (fun vs H Q E h=>?_) (fun cdv A outer s H vs Q E hr h=>?_)
 ·obtain ⟨x,y,ps,ns,rfl,_⟩:=h
  rfl
 obtain ⟨x,y,ps,ns,rfl,hx,hy,hn,hl,q1⟩:=h
 obtain ⟨p,rfl,hp⟩:=hx.ti
 obtain ⟨a,rfl,ha⟩:=hy.ti
 refine ⟨_,a0h (a0r (a0o (a2z rfl) (by rfl) ms a8i (a0a (a2B (M:=["prices","word"]) rfl (a0q.of (a0b a3D) ["prices","word"] rfl rfl rfl (by decide +kernel) (by decide +kernel) (by decide +kernel) rfl (by decide +kernel)) ndP rfl (pv 1) a0V
   (fun cl C s0 H0 fp=>⟨a0X,a0y (ixT K) (pv 1) (pv 0) (fun _ _=>rfl)⟩)) a0d))),?_⟩
 refine ⟨_,rfl,a,_,rfl,SqT.of ha,fun d hd=>?_⟩
 refine ⟨fun k H'=>a0x H H'∧H' d=some (.lst (((ns.take k).map fun x=>ps.getD x.toNat 0).map V.int)),⟨a0e hd _,a0c⟩,fun k H' _ hP=>SqT.of (hP.1 _ _ ha),fun k x H' hx hP=>?_,fun H' hP=>?_⟩
 ·obtain ⟨sm,hd'⟩:=hP
  rw [List.getElem?_map] at hx
  cases hz:ns[k]? with
  | none=>rw [hz] at hx;cases hx
  | some z =>
   rw [hz] at hx;cases hx
   have hk:=(List.getElem?_eq_some_iff.mp hz).1
   obtain ⟨z0,z1⟩:=hn z (List.mem_of_getElem? hz)
   obtain ⟨n,rfl⟩:∃ n:Nat,z=n:=⟨z.toNat,by omega⟩
   have hn':n < ps.length:=by omega
   refine a0S ⟨_,rfl,_,rfl,p,_,_,_,rfl,rfl,SqT.of (sm _ _ hp),a2X (List.getElem?_eq_getElem hn'),_,hd',?_,a0v hd sm,?_⟩
   ·rw [List.length_map,List.length_map,List.length_take];exact a0s (by omega)
   ·rw [a0c,List.take_add_one,hz,List.map_append,List.map_append]
    simp [List.getD_eq_getElem?_getD,List.getElem?_eq_getElem hn']
 ·obtain ⟨sm,hd'⟩:=hP
  rw [List.length_map,List.take_length] at hd'
  exact ⟨d,_,rfl,hd',q1 H' sm⟩
abbrev NC:List Str:=["prices","weights","code"]
def Bd0 (ns:List Int):Prop:=∀ x∈ns,0≤x∧x≤B30
def a9l:Sp:=fun vs H Q _=>∃ (p wa:Addr) (ps ws:List Int) (x:V) (c:CT.a0z),vs=[.ref p,.ref wa,x]∧TW H p ps∧TW H wa ws∧Tw H x c∧c.length=ws.length∧c.length≤100∧(∀ u∈c,Lt ps.length u∧u.length≤1000)∧Bd0 ps∧Bd0 ws∧∀ H',a0x H H'→Q (.int (CT.co ps ws 0 c)) H'
theorem scCost:a0n NC NC (a0b a5U):=⟨rfl,rfl,rfl,by decide +kernel,rfl,by decide +kernel,by decide +kernel⟩
theorem ndC:(("weight":Str) :: "word" :: NC).Nodup:=by decide +kernel
theorem a9m {ps ws:List Int} {nss:List (List Int)} {i:Nat} {x:Int} {ns:List Int} (h1:ws[i]?=some x) (h2:nss[i]?=some ns):(List.zipWith (fun x ns=>x * CT.pc ps ns) ws nss)[i]?=some (x * CT.pc ps ns):=by
 rw [List.getElem?_zipWith,h1,h2]
theorem b2Y (F:Fun K "_law_cost" "_law_cost" a5U f fd) (G:Fns P w K mg base ["prices","word"] "_law_price" a2f 1) (ms:mg "sum"=none) (mz:mg "zip"=none):a0O P w K mg base CX0 2 f fd NC a9l:=by
 refine F.ok (k:=1) scCost (fun vs H Q E h=>?_) (fun cdv A outer s H vs Q E hr h=>?_)
 ·obtain ⟨p,wa,ps,ws,x,c,rfl,_⟩:=h
  rfl
 obtain ⟨p,wa,ps,ws,x,nss,rfl,hp,hw,hc,el,l1,l2,bp,bw,q⟩:=h
 obtain ⟨c,xs,rfl,hc,hx⟩:=hc
 have lx:xs.length=nss.length:=hx.length
 refine ⟨_,a0h (a0r (a0o (a2z rfl) (by rfl) ms a8i (a0a (a3d K true true (M:=NC) rfl (a0q.of (a0b a5U) NC rfl rfl rfl (by decide +kernel) (by decide +kernel) (by decide +kernel) rfl (by decide +kernel)) ndC rfl rfl (by rfl) mz (a0a (pv 1) (a0a (pv 2) a0d)) (a0T a0V (a0T a0V a1B))
   (fun cl C s0 H0 fp pins σ bk=>⟨a0X,a0p a2L (pv 0) (a0l G.ok hr (by rfl) G.m G.kp G.b .nil a0C (a0a (pv 2) (a0a (pv 1) a0d)))⟩)) a0d))),?_⟩
 refine ⟨_,rfl,_,rfl,wa,c,_,_,rfl,SqT.of hw,SqT.of hc,by rw [List.length_map];omega,fun d hd=>?_⟩
 refine ⟨fun i H'=>a0x H H'∧H' d=some (.lst (((List.zipWith (fun x ns=>x * CT.pc ps ns) ws nss).take i).map V.int)),⟨a0e hd _,a0c⟩,
  fun i H' _ hP=>⟨SqT.of (hP.1 _ _ hw),SqT.of (hP.1 _ _ hc)⟩,fun i x y pp H' hx' hy' hP hpp=>?_,fun H' hP=>?_⟩
 ·obtain ⟨sm,hd'⟩:=hP
  rw [List.getElem?_map] at hx'
  cases hz:ws[i]? with
  | none=>rw [hz] at hx';cases hx'
  | some wt =>
  rw [hz] at hx';cases hx'
  obtain ⟨ns,hn,ry⟩:=Paired.right_of hx i y hy'
  have iw:=(List.getElem?_eq_some_iff.mp hz).1
  have s2:=a0e hpp (.tup [.int wt,y])
  obtain ⟨lt,l3⟩:=l2 ns (List.mem_of_getElem? hn)
  refine a3r ⟨_,rfl,_,rfl,_,rfl,.ref p,y,ps,ns,rfl,Wd.of (s2 _ _ (sm _ _ hp)),Wd.same (sm.trans s2) ry,lt,l3,fun H3 s3=>?_⟩
  obtain ⟨b1,b2⟩:=a7C bp ns
  obtain ⟨b3,b4⟩:=bw wt (List.mem_of_getElem? hz)
  have b5:(ns.length:Int)≤1000:=by omega
  have b6:(ns.length:Int) * B30≤1000 * B30:=Int.mul_le_mul_of_nonneg_right b5 (by decide)
  refine ⟨_,_,rfl,rfl,⟨⟨b3,by unfold B30 at *;omega⟩,⟨b1,by unfold B30 at *;omega⟩⟩,_,s3 _ _ (s2 _ _ hd'),?_,a0v hd ((sm.trans s2).trans s3),?_⟩
  ·rw [List.length_map,List.length_take,List.length_zipWith];exact a0s (by omega)
  ·rw [a0c,List.take_add_one,a9m hz hn,List.map_append];rfl
 ·obtain ⟨sm,hd'⟩:=hP
  rw [List.length_map] at hd'
  rw [List.take_of_length_le (by rw [List.length_zipWith];omega)] at hd'
  exact ⟨d,_,rfl,hd',q H' sm⟩
abbrev NCh:List Str:=["prices","weights","codes","costs","least_v"]
def chp (ps ws:List Int):List CT.a0z:=(CT.Cs ps.length ws.length).filter fun c=>decide (some (CT.co ps ws 0 c)=CT.mi ((CT.Cs ps.length ws.length).map (CT.co ps ws 0)))
def a5Z:Sp:=fun vs H Q _=>∃ (p wa:Addr) (ps ws:List Int),vs=[.ref p,.ref wa]∧TW H p ps∧TW H wa ws∧CT.inL ps.length ws.length∧1≤ws.length∧Bd0 ps∧Bd0 ws∧∀ (d:Addr) ys H',a0x H H'→H' d=some (.lst ys)→Paired (Tw H') ys (chp ps ws)→Q (.ref d) H'
theorem a4H:a0n NCh ["prices","weights"] (a0b a2Z):=⟨rfl,rfl,rfl,by decide +kernel,rfl,by decide +kernel,by decide +kernel⟩
theorem ndCh1:(("code":Str) :: NCh).Nodup:=by decide +kernel
theorem ndCh2:(("code":Str) :: "due" :: NCh).Nodup:=by decide +kernel
theorem mi_is {xs:List Int} (h:xs≠[]):CT.mi xs=some ((srt xs).headD 0):=by
 have e:(xs.map some).filterMap id=xs:=by
  clear h
  induction xs with
  | nil=>rfl
  | cons x xs ih=>rw [List.map_cons,List.filterMap_cons];simp only [id];rw [ih]
 unfold CT.mi lo
 rw [e,if_neg h]
theorem b0Q (F:Fun K "_law_cheapest" "_law_cheapest" a2Z f fd) (GC:Fns P w K mg base ["things","letters"] "_law_codes" a4F 2) (GK:Fns P w K mg base NC "_law_cost" a9l 2) (ml:mg "len"=none) (mn:mg "min"=none) (mz:mg "zip"=none):a0O P w K mg base CX0 3 f fd ["prices","weights"] a5Z:=by
 refine F.ok (k:=2) a4H (fun vs H Q E h=>?_) (fun cdv A outer s H vs Q E hr h=>?_)
 ·obtain ⟨p,wa,ps,ws,rfl,_⟩:=h
  rfl
 obtain ⟨p,wa,ps,ws,rfl,hp,hw,hin,n1,bp,bw,q⟩:=h
 obtain ⟨L2',L4,m6⟩:=a9k hin
 refine ⟨_,a0f (a0t (i:=2) a4H.nd rfl (Or.inl rfl) (a0l GC.ok hr (by rfl) GC.m GC.kp GC.b .nil a0C (a0a (a0o a0i (by rfl) ml PySem.boot_len (a0a (pv 1) a0d)) (a0a (a0o a0i (by rfl) ml PySem.boot_len (a0a (pv 0) a0d)) a0d))))
  (a0f (b0o (i:=3) (M:=NCh) a4H.nd rfl rfl rfl (a0q.of (a0b a2Z) NCh rfl rfl rfl (by decide +kernel) (by decide +kernel) (by decide +kernel) rfl (by decide +kernel)) ndCh1 rfl (pv 2) a0V
   (fun cl C s0 H0 fp=>⟨a0X,a0l GK.ok hr (by rfl) GK.m GK.kp GK.b .nil a0C (a0a (pv 1) (a0a (pv 2) (a0a (pv 0) a0d)))⟩))
  (a0f (a0t (i:=4) a4H.nd rfl (Or.inr rfl) (a0o (a8H rfl) (by rfl) mn b_min (a0a (pv 3) a0d)))
  (a0h (a0r (a3d K false false (M:=NCh) rfl (a0q.of (a0b a2Z) NCh rfl rfl rfl (by decide +kernel) (by decide +kernel) (by decide +kernel) rfl (by decide +kernel)) ndCh2 rfl rfl (by rfl) mz (a0a (pv 2) (a0a (pv 3) a0d)) (a0T a0V (a0T a0V a1B))
   (fun cl C s0 H0 fp pins σ bk=>⟨a5E (a0B a1G (pv 1) (pv 6) (nomark _)),pv 0⟩)))))),?_⟩
 refine ⟨_,rfl,wa,_,rfl,.inr (SqT.of hw),_,rfl,p,_,rfl,.inr (SqT.of hp),?_⟩
 rw [List.length_map,List.length_map]
 refine ⟨ws.length,ps.length,rfl,hin,n1,fun d xs H1 s1 hd wd=>?_⟩
 have lxs:xs.length=(CT.Cs ps.length ws.length).length:=wd.length
 have l9:=CT.a9h hin
 have gd:=CT.a5W (L:=ps.length) (m:=ws.length) n1
 refine ⟨_,rfl,d,_,rfl,SqL.of hd,fun e he=>?_⟩
 refine ⟨fun k H'=>a0x H1 H'∧H' e=some (.lst ((((CT.Cs ps.length ws.length).take k).map (CT.co ps ws 0)).map V.int)),⟨a0e he _,a0c⟩,fun k H' _ hP=>SqL.of (hP.1 _ _ hd),fun k x H2 hx hP=>?_,fun H2 hP=>?_⟩
 ·obtain ⟨s2,g2⟩:=hP
  obtain ⟨c,hc,rc⟩:=Paired.right_of wd k x hx
  have kl:=(List.getElem?_eq_some_iff.mp hc).1
  have gc:=gd c (List.mem_of_getElem? hc)
  refine a0S ⟨_,rfl,_,rfl,_,rfl,p,wa,ps,ws,x,c,rfl,s2 _ _ (s1 _ _ hp),s2 _ _ (s1 _ _ hw),rc.same s2,gc.ln,by rw [gc.ln];omega,fun u hu=>⟨(gc.wd u hu).2,by have:=(gc.wd u hu).1;omega⟩,bp,bw,fun H3 s3=>⟨_,s3 _ _ g2,?_,a0v he (s2.trans s3),?_⟩⟩
  ·rw [List.length_map,List.length_map,List.length_take];exact a0s (by omega)
  ·rw [a0c,List.take_add_one,hc,List.map_append,List.map_append];rfl
 obtain ⟨s2,g2⟩:=hP
 rw [lxs,List.take_length] at g2
 have eQ:∀ cc:List CT.a0z,cc=chp ps ws→cc=(CT.Cs ps.length ws.length).filter fun c=>decide (some (CT.co ps ws 0 c)=CT.mi ((CT.Cs ps.length ws.length).map (CT.co ps ws 0))):=fun _ h=>h
 generalize ecs:(CT.Cs ps.length ws.length).map (CT.co ps ws 0)=cs at g2 eQ
 have lcs:cs.length=(CT.Cs ps.length ws.length).length:=by rw [←ecs,List.length_map]
 have ne:cs≠[]:=fun z=>by
  have:=CT.b2T hin n1
  rw [z] at lcs
  rw [←lcs] at this
  cases this
 refine ⟨_,rfl,e,cs,rfl,.inl g2,ne,?_⟩
 generalize em:(srt cs).headD 0=m
 have mm:CT.mi cs=some m:=by rw [mi_is ne,em]
 refine ⟨_,rfl,_,rfl,d,e,_,_,rfl,SqL.of (s2 _ _ hd),SqL.of g2,by rw [List.length_map,lcs];exact lxs,fun r hr'=>?_⟩
 refine ⟨fun i H'=>a0x H2 H'∧∃ ys,H' r=some (.lst ys)∧Paired (Tw H') ys (((CT.Cs ps.length ws.length).take i).filter fun c=>decide (some (CT.co ps ws 0 c)=some m)),⟨a0e hr' _,[],a0c,.nil⟩,fun i H' _ hP=>⟨SqL.of (hP.1 _ _ (s2 _ _ hd)),SqL.of (hP.1 _ _ g2)⟩,fun i x y pp H3 hx hy hP hpp=>?_,fun H3 hP=>?_⟩
 ·obtain ⟨s3,ys,g3,ly⟩:=hP
  obtain ⟨c,hc,rc⟩:=Paired.right_of wd i x hx
  have ic:=(List.getElem?_eq_some_iff.mp hc).1
  rw [List.getElem?_map,←ecs,List.getElem?_map,hc] at hy
  have hy:y=.int (CT.co ps ws 0 c):=(Option.some.inj hy).symm
  subst hy
  have s4:=a0e hpp (.tup [x,.int (CT.co ps ws 0 c)])
  have et:((CT.Cs ps.length ws.length).take (i+1)).filter (fun c=>decide (some (CT.co ps ws 0 c)=some m))=((CT.Cs ps.length ws.length).take i).filter (fun c=>decide (some (CT.co ps ws 0 c)=some m))++if CT.co ps ws 0 c=m then [c] else []:=by
   rw [List.take_add_one,hc,List.filter_append]
   congr 1
   show [c].filter _=_
   rw [List.filter_cons]
   by_cases y:CT.co ps ws 0 c=m
   ·rw [if_pos y,if_pos (decide_eq_true (by rw [y]))];rfl
   ·rw [if_neg y,if_neg (fun k=>y (Option.some.inj (of_decide_eq_true k)))];rfl
  have lt:ys.length≤900:=by
   rw [ly.length]
   refine Nat.le_trans (List.length_filter_le _ _) ?_
   rw [List.length_take]
   omega
  refine ⟨_,rfl,_,rfl,rfl,_,rfl,?_⟩
  refine a1C (fun y=>?_) (fun y=>?_)
  ·have y1:CT.co ps ws 0 c=m:=V.int.inj (of_decide_eq_true y)
   refine ⟨_,rfl,ys,s4 _ _ g3,a0s (by omega),a0v hr' (s3.trans s4),_,a0c,?_⟩
   rw [et,if_pos y1]
   exact Paired.appendP (Paired.mapP ly fun _ _ r=>(Tw.same s4 r).upd (s4 _ _ g3)) (.cons ((rc.same ((s2.trans s3).trans s4)).upd (s4 _ _ g3)) .nil)
  ·have y1:¬ CT.co ps ws 0 c=m:=fun k=>y (decide_eq_true (by rw [k]))
   exact ⟨s3.trans s4,ys,s4 _ _ g3,by rw [et,if_neg y1,List.append_nil];exact Paired.mapP ly fun _ _ r=>Tw.same s4 r⟩
 ·obtain ⟨s3,ys,g3,ly⟩:=hP
  rw [lxs,List.take_length] at ly
  have eq1:=eQ _ rfl
  rw [mm] at eq1
  rw [←eq1] at ly
  exact q r ys H3 ((s1.trans s2).trans s3) g3 ly
end
end K66
namespace K66
theorem b2Z {L n:Nat} {h t:Nat→Nat→Nat→OI} {F:Nat→Nat→OI} {p:Nat→Int} {W:Nat→Nat→Int} (T:CT.Tb L n h t F p W) (hL:0 < L) {i j:Nat} (hij:i+2≤j) (hj:j≤n):t 0 i j=F i j:=by
 obtain ⟨w,rfl⟩:∃ w,j=i+w:=⟨j - i,by omega⟩
 have eF:F i (i+w)=lo ((CT.Bk L 0 (w - 1)).map (CT.vl h t i (i+w))):=by
  rw [T.ff i (i+w) (by omega) hj,if_neg (by omega),show i+w - 1 - i=w - 1 by omega]
 have et:=T.tt 0 i (i+w) (Nat.zero_le _) (by omega) hj
 rw [show i+w - i=w by omega] at et
 cases e:t 0 i (i+w) with
 | none=>exact absurd e (T.tn 0 i (i+w) hL (by omega) hj)
 | some x =>
  have hx:=a1t.mp (et.symm.trans e)
  obtain ⟨q,hq,ev⟩:=List.mem_map.mp hx.1
  have:=CT.only T hj (by omega) q hq (by rw [ev,e])
  obtain ⟨a,b,c⟩:=CT.a1r.mp hq
  rw [eF]
  refine (a1t.mpr ⟨List.mem_map.mpr ⟨q,CT.a1r.mpr ⟨a,b,this⟩,ev⟩,fun k hk=>?_⟩).symm
  obtain ⟨q',hq',ev'⟩:=List.mem_map.mp hk
  obtain ⟨a',b',c'⟩:=CT.a1r.mp hq'
  exact hx.2 k (List.mem_map.mpr ⟨q',CT.a1r.mpr ⟨a',b',by omega⟩,ev'⟩)
theorem b3a {ps ws:List Int} {h t:Nat→Nat→Nat→OI} {F:Nat→Nat→OI} (T:CT.Tb ps.length ws.length h t F (pl ps) (Wt ws)) (hL:0 < ps.length) {i j:Nat} {c:CT.a0z} (k:Kc ps.length h t i j c):c.length=j - i∧i < j∧(∀ u∈c,∀ x∈u,(0:Int)≤x∧x < (ps.length:Int))∧(j≤ws.length→some (CT.co ps ws i c)=F i j):=by
 refine Kc.rec (motive_1:=fun i j c _=>c.length=j - i∧i < j∧(∀ u∈c,∀ x∈u,(0:Int)≤x∧x < (ps.length:Int))∧(j≤ws.length→some (CT.co ps ws i c)=F i j)) (motive_2:=fun l i j r _=>r.length=j - i∧i≤j∧(l≤ps.length→(i < j→l < ps.length)→j≤ws.length→(∀ u∈r,∀ x∈u,(0:Int)≤x∧x < (ps.length:Int))∧some (CT.co ps ws i r)=t l i j)∧(∀ u∈r,∀ x∈u,(0:Int)≤x∧x < (ps.length:Int))) ?_ ?_ ?_ ?_ k
 ·intro i
  refine ⟨by simp,by omega,fun u hu=>?_,fun hj=>?_⟩
  ·have:u=[]:=by simpa using hu
   subst this
   intro x hx
   cases hx
  ·rw [CT.b1A,T.ff i (i+1) (by omega) hj,if_pos (by omega)]
 ·intro i j c hij kt ih
  refine ⟨ih.1,by omega,ih.2.2.2,fun hj=>?_⟩
  have:=(ih.2.2.1 (Nat.zero_le _) (fun _=>hL) hj).2
  rw [this]
  exact b2Z T hL hij hj
 ·intro l j
  refine ⟨by simp,Nat.le_refl _,fun hl _ hj=>⟨fun u hu=>(by cases hu),?_⟩,fun u hu=>(by cases hu)⟩
  rw [CT.a5m,T.dg l j hl hj]
 ·intro l i j q c r hq kc kt ih1 ih2
  have hb:=CT.a1r.mp (a2d.mp hq).1
  have lt:∀ u∈CT.ahd q.1 c++r,∀ x∈u,(0:Int)≤x∧x < (ps.length:Int):=fun u hu=>by
   rcases List.mem_append.mp hu with y | y
   ·unfold CT.ahd at y
    obtain ⟨v,hv,rfl⟩:=List.mem_map.mp y
    intro x hx
    rcases List.mem_cons.mp hx with z | z
    ·rw [z];exact ⟨by omega,by omega⟩
    ·exact ih1.2.2.1 v hv x z
   ·exact ih2.2.2.2 u y
  refine ⟨?_,by have:=ih1.2.1;have:=ih2.2.1;omega,fun hl hlt hj=>⟨lt,?_⟩,lt⟩
  ·rw [List.length_append,ih2.1]
   unfold CT.ahd
   rw [List.length_map,ih1.1]
   have:=ih1.2.1;have:=ih2.2.1
   omega
  ·have hij:i < j:=by have:=ih1.2.1;have:=ih2.2.1;omega
   obtain ⟨b1,b2,b3,b4⟩:=a9e T (hlt hij) hij hj hq
   have e1:=ih1.2.2.2 (by omega)
   have e2:=(ih2.2.2.1 (by omega) (fun y=>b4 (by omega)) hj).2
   have ev:=(a2d.mp hq).2
   unfold CT.vl at ev
   rw [T.hh q.1 i (i+q.2+1) b2 (by omega) (by omega),←e1,←e2] at ev
   rw [CT.a4g,ih1.1,show i+(i+q.2+1 - i)=i+q.2+1 by omega,←ev]
   rfl
namespace CT
section
variable {L n:Nat} {h t:Nat→Nat→Nat→OI} {F:Nat→Nat→OI} {p:Nat→Int} {W:Nat→Nat→Int} {Cs:Nat→List a0z} {Rs:Nat→Nat→List a0z} {co:Nat→a0z→Int}
theorem row_mi (T:Tb L n h t F p W) (E:En L p W Cs Rs co) {i w low most:Nat} (hw:i+w≤n) (hm:most≤w) (hl:low≤L)
  (ihC:∀ m,1≤m→m≤most→mi ((Cs m).map (co i))=F i (i+m))
  (ihR:∀ m l k,1≤m→m < w→l < L→k+m≤n→mi ((Rs m l).map (co k))=t l k (k+m)) :
  ∀ q∈Bk L low most,mi (((Cs (q.2+1)).flatMap fun c=>(bhd Rs w q).map fun r=>ahd q.1 c++r).map (co i))=vl h t i (i+w) q:=by
 intro q hq
 obtain ⟨q1,q2,q3⟩:=a1r.mp hq
 have e:((Cs (q.2+1)).flatMap fun c=>(bhd Rs w q).map fun r=>ahd q.1 c++r).map (co i)=sums (p q.1 * W i (i+q.2+1)) ((Cs (q.2+1)).map (co i)) ((bhd Rs w q).map (co (i+q.2+1))):=by
  unfold sums
  rw [List.map_flatMap,List.flatMap_map]
  have:∀ c∈Cs (q.2+1),((bhd Rs w q).map fun r=>ahd q.1 c++r).map (co i)=((bhd Rs w q).map (co (i+q.2+1))).map fun b=>p q.1 * W i (i+q.2+1)+co i c+b:=fun c hc=>by
   rw [List.map_map,List.map_map]
   refine List.map_congr_left fun r _=>?_
   show co i (ahd q.1 c++r)=_
   rw [E.app i q.1 (q.2+1) c r hc]
   rfl
  clear hq
  generalize Cs (q.2+1)=xs at this
  induction xs with
  | nil=>rfl
  | cons x xs ih =>
   rw [List.flatMap_cons,List.flatMap_cons,this x (.head _),ih fun c hc=>this c (.tail _ hc)]
 have c1:=ihC (q.2+1) (by omega) (by omega)
 have hB:mi ((bhd Rs w q).map (co (i+q.2+1)))=t (q.1+1) (i+q.2+1) (i+w):=by
  by_cases z:q.2+1 < w
  ·unfold bhd
   rw [if_pos z]
   by_cases hL:q.1+1 < L
   ·have r1:=ihR (w - (q.2+1)) (q.1+1) (i+q.2+1) (by omega) (by omega) hL (by omega)
    rw [show i+q.2+1+(w - (q.2+1))=i+w by omega] at r1
    exact r1
   ·have eL:q.1+1=L:=by omega
    have en:t (q.1+1) (i+q.2+1) (i+w)=none:=by
     rw [T.tt (q.1+1) (i+q.2+1) (i+w) (by omega) (by omega) hw,eL]
     unfold Bk
     rw [Nat.sub_self]
     exact a6F
    rw [en,eL,E.rL]
    exact a2S.mpr rfl
  ·unfold bhd
   rw [if_neg z]
   have ee:i+q.2+1=i+w:=by omega
   rw [ee,T.dg (q.1+1) (i+w) (by omega) hw]
   have e1:[([]:a0z)].map (co (i+w))=[0]:=by rw [List.map_singleton,E.nil]
   rw [e1]
   exact a1M.mpr ⟨.head _,fun k hk=>by simp at hk;omega⟩
 rw [e,b2N,hB,c1]
 show oadd (oadd (some (p q.1 * W i (i+q.2+1))) (F i (i+(q.2+1)))) _=vl h t i (i+w) q
 unfold vl
 rw [T.hh q.1 i (i+q.2+1) q2 (by omega) (by omega)]
 rfl
theorem least (T:Tb L n h t F p W) (E:En L p W Cs Rs co):∀ d w i,w≤d→1≤w→i+w≤n →
  mi ((Cs w).map (co i))=F i (i+w)∧∀ l,l < L→mi ((Rs w l).map (co i))=t l i (i+w)
 | 0,w,i,hd,h1,hw=>by omega
 | d+1,w,i,hd,h1,hw=>by
  have ih:=least T E d
  have hC':∀ m,1≤m→m < w→mi ((Cs m).map (co i))=F i (i+m):=fun m a b=>(ih m i (by omega) a (by omega)).1
  have hR':∀ m l k,1≤m→m < w→l < L→k+m≤n→mi ((Rs m l).map (co k))=t l k (k+m):=fun m l k a b c e=>(ih m k (by omega) a e).2 l c
  have blk:∀ low most,most≤w→low≤L→(∀ m,1≤m→m≤most→mi ((Cs m).map (co i))=F i (i+m))→mi ((rw' L Cs Rs w low most).map (co i))=lo ((Bk L low most).map (vl h t i (i+w))):=by
   intro low most hm hl hC
   have R:=row_mi T E hw hm hl hC hR'
   unfold rw'
   rw [List.map_flatMap,b2M]
   congr 1
   exact List.map_congr_left fun q hq=>R q hq
  have hCw:mi ((Cs w).map (co i))=F i (i+w):=by
   by_cases e:w=1
   ·subst e
    rw [E.c1,T.ff i (i+1) (by omega) hw,if_pos (by omega)]
    have e1:[([[]]:a0z)].map (co i)=[0]:=by rw [List.map_singleton,E.one]
    rw [e1]
    exact a1M.mpr ⟨.head _,fun k hk=>by simp at hk;omega⟩
   ·rw [E.cs w (by omega),blk 0 (w - 1) (by omega) (Nat.zero_le _) fun m a b=>hC' m a (by omega),T.ff i (i+w) (by omega) hw,if_neg (by omega),show i+w - 1 - i=w - 1 by omega]
  refine ⟨hCw,fun l hl=>?_⟩
  rw [E.rs w l h1 hl,blk l w (Nat.le_refl _) (by omega) fun m a b=>?_,T.tt l i (i+w) (by omega) (by omega) hw,show i+w - i=w by omega]
  by_cases e:m=w
  ·subst e;exact hCw
  ·exact hC' m a (by omega)
end
end CT
theorem kc_in {ps ws:List Int} {h t:Nat→Nat→Nat→OI} {F:Nat→Nat→OI} (T:CT.Tb ps.length ws.length h t F (pl ps) (Wt ws)) (hL:0 < ps.length) {i j:Nat} {c:CT.a0z} (k:Kc ps.length h t i j c):i < j∧(j≤ws.length→c∈CT.Cs ps.length (j - i)):=by
 refine Kc.rec (motive_1:=fun i j c _=>i < j∧(j≤ws.length→c∈CT.Cs ps.length (j - i))) (motive_2:=fun l i j r _=>i≤j∧(j≤ws.length→(i=j→r=[])∧(i < j→l < ps.length→∃ q c' r',q∈wys ps.length h t l i j∧r=CT.ahd q.1 c'++r'∧c'∈CT.Cs ps.length (q.2+1)∧r'∈CT.bhd (CT.Rs ps.length) (j - i) q))) ?_ ?_ ?_ ?_ k
 ·intro i
  refine ⟨by omega,fun _=>?_⟩
  rw [show i+1 - i=1 by omega,CT.a4d]
  exact .head _
 ·intro i j c hij kt ih
  refine ⟨by omega,fun hj=>?_⟩
  obtain ⟨q,c',r',hq,rfl,hc,hr⟩:=(ih.2 hj).2 (by omega) hL
  obtain ⟨w,rfl⟩:∃ w,j=i+w:=⟨j - i,by omega⟩
  rw [show i+w - i=w by omega] at hr ⊢
  obtain ⟨hb,ev⟩:=a2d.mp hq
  rw [show i+w - i=w by omega] at hb
  have lt:=CT.only T hj (by omega) q hb ev
  obtain ⟨b1,b2,b3⟩:=CT.a1r.mp hb
  rw [CT.a7z (by omega)]
  unfold CT.rw'
  exact List.mem_flatMap.mpr ⟨q,CT.a1r.mpr ⟨b1,b2,lt⟩,List.mem_flatMap.mpr ⟨c',hc,List.mem_map.mpr ⟨r',hr,rfl⟩⟩⟩
 ·intro l j
  exact ⟨Nat.le_refl _,fun _=>⟨fun _=>rfl,fun z=>absurd z (Nat.lt_irrefl _)⟩⟩
 ·intro l i j q c r hq kc kt ih1 ih2
  have i1:=ih1.1
  have i2:=ih2.1
  refine ⟨by omega,fun hj=>⟨fun z=>by omega,fun hij hl=>⟨q,c,r,hq,rfl,?_,?_⟩⟩⟩
  ·have:=ih1.2 (by omega)
   rw [show i+q.2+1 - i=q.2+1 by omega] at this
   exact this
  ·obtain ⟨b1,b2,b3,b4⟩:=a9e T hl hij hj hq
   unfold CT.bhd
   by_cases z:q.2+1 < j - i
   ·rw [if_pos z]
    obtain ⟨q2,c2,r2,hq2,rfl,hc2,hr2⟩:=(ih2.2 hj).2 (by omega) (b4 z)
    rw [show j - i - (q.2+1)=j - (i+q.2+1) by omega,CT.a7A (by omega) (b4 z)]
    unfold CT.rw'
    exact List.mem_flatMap.mpr ⟨q2,(a2d.mp hq2).1,List.mem_flatMap.mpr ⟨c2,hc2,List.mem_map.mpr ⟨r2,hr2,rfl⟩⟩⟩
   ·rw [if_neg z,(ih2.2 hj).1 (by omega)]
    exact .head _
def pm (ps:List Int) (l:Nat) (x:Int):List Int:=ps.take l++[x]++ps.drop (l+1)
theorem a6M {ps:List Int} {l:Nat} {x:Int} (h:l < ps.length):(pm ps l x).length=ps.length:=by
 unfold pm
 rw [List.length_append,List.length_append,List.length_take,List.length_drop]
 show min l ps.length+1+(ps.length - (l+1))=ps.length
 omega
def sh (ws:List Int) (l:Int) (c:CT.a0z):Int:=(List.zipWith (fun w u=>w * ((u.count l:Nat):Int)) ws c).sum
def sW (ps:List Int) (l:Nat) (c:CT.a0z):Int:=CT.pc ps (c.getD l [])
end K66
namespace K66
open PySem L2
namespace CT
def Af (u v:List Int):Prop:=HT.a1m u v=true∧v.take u.length≠u
def KP (c:a0z):Prop:=c.Pairwise Af
def InL (L:Nat) (c:a0z):Prop:=∀ u∈c,∀ x∈u,(0:Int)≤x∧x < (L:Int)
def sz (c:a0z):Nat:=(c.map fun u=>u.length+1).sum
def Fr (l:Nat) (c:a0z):Prop:=∀ u∈c,∃ x w,u=x :: w∧(l:Int)≤x
theorem a9n {x:Int} {u v:List Int}:Af (x :: u) (x :: v)↔Af u v:=by
 unfold Af
 rw [HT.a1n,if_pos rfl,List.length_cons,List.take_succ_cons]
 constructor
 ·rintro ⟨a,b⟩;exact ⟨a,fun z=>b (by rw [z])⟩
 ·rintro ⟨a,b⟩;exact ⟨a,fun z=>by injection z with _ z;exact b z⟩
theorem af_lt {x y:Int} {u v:List Int} (h:x < y):Af (x :: u) (y :: v):=by
 unfold Af
 rw [HT.a1n,if_neg (by omega),List.length_cons,List.take_succ_cons]
 exact ⟨decide_eq_true h,fun z=>by injection z with z _;omega⟩
theorem af_le {x y:Int} {u v:List Int} (h:Af (x :: u) (y :: v)):x≤y:=by
 have h:=h.1
 rw [HT.a1n] at h
 split at h
 ·omega
 ·have:=of_decide_eq_true h;omega
theorem b1D {l:Nat} {c:a0z}:KP (ahd l c)↔KP c:=by
 unfold KP ahd
 rw [List.pairwise_map]
 constructor
 ·intro h;exact h.imp fun z=>a9n.mp z
 ·intro h;exact h.imp fun z=>a9n.mpr z
theorem sz_app (a b:a0z):sz (a++b)=sz a+sz b:=by unfold sz;rw [List.map_append,List.sum_append]
theorem b1E {l:Nat}:∀ c:a0z,sz (ahd l c)=sz c+c.length
 | []=>rfl
 | u :: c=>by
  have:=b1E (l:=l) c
  unfold sz ahd at *
  rw [List.map_cons,List.map_cons,List.sum_cons,List.map_cons,List.sum_cons,this,List.length_cons,List.length_cons]
  omega
theorem a5o:∀ (r:a0z) (x:Int),KP r→(∀ u∈r,∃ y w,u=y :: w∧x≤y)→∃ c r2:a0z,r=c.map (fun w=>x :: w)++r2∧∀ u∈r2,∃ y w,u=y :: w∧x < y
 | [],x,_,_=>⟨[],[],rfl,fun u hu=>by cases hu⟩
 | u :: r,x,k,h=>by
  obtain ⟨y,w,rfl,hy⟩:=h u (.head _)
  have kk:=List.pairwise_cons.mp k
  by_cases e:x=y
  ·subst e
   obtain ⟨c,r2,e1,e2⟩:=a5o r x kk.2 fun v hv=>h v (.tail _ hv)
   exact ⟨w :: c,r2,by rw [e1];rfl,e2⟩
  ·refine ⟨[],(y :: w) :: r,rfl,fun v hv=>?_⟩
   rcases List.mem_cons.mp hv with rfl | hv
   ·exact ⟨y,w,rfl,by omega⟩
   ·obtain ⟨z,w',rfl,hz⟩:=h v (.tail _ hv)
    have:=af_le (kk.1 _ hv)
    exact ⟨z,w',rfl,by omega⟩
theorem split {L l:Nat} {r:a0z} (k:KP r) (i:InL L r) (f:Fr l r) (ne:r≠[]):∃ (l1:Nat) (c r2:a0z),r=ahd l1 c++r2∧c≠[]∧l≤l1∧l1 < L∧KP c∧InL L c∧KP r2∧InL L r2∧Fr (l1+1) r2∧sz c < sz r∧sz r2 < sz r:=by
 cases r with
 | nil=>exact absurd rfl ne
 | cons u r =>
  obtain ⟨x,w,rfl,hx⟩:=f u (.head _)
  obtain ⟨x0,x1⟩:=i _ (.head _) x (.head _)
  obtain ⟨l1,rfl⟩:∃ l1:Nat,x=l1:=⟨x.toNat,by omega⟩
  have kk:=List.pairwise_cons.mp k
  obtain ⟨c,r2,e1,e2⟩:=a5o r (l1:Int) kk.2 fun v hv=>by
   obtain ⟨z,w',rfl,hz⟩:=f v (.tail _ hv)
   exact ⟨z,w',rfl,af_le (kk.1 _ hv)⟩
  have e:(((l1:Int) :: w) :: r:a0z)=ahd l1 (w :: c)++r2:=by rw [e1];rfl
  rw [e] at k i ⊢
  have k':=List.pairwise_append.mp k
  have s:=sz_app (ahd l1 (w :: c)) r2
  have s2:=b1E (l:=l1) (w :: c)
  refine ⟨l1,w :: c,r2,rfl,by simp,by omega,by omega,b1D.mp k'.1,fun u hu y hy=>i ((l1:Int) :: u) (List.mem_append_left _ (List.mem_map_of_mem hu)) y (.tail _ hy),k'.2.1,fun u hu=>i u (List.mem_append_right _ hu),fun v hv=>?_,?_,?_⟩
  ·obtain ⟨y,w',rfl,hy⟩:=e2 v hv
   exact ⟨y,w',rfl,by omega⟩
  ·rw [s,s2,List.length_cons];omega
  ·rw [s,s2,List.length_cons];omega
def Bst (S:List a0z) (f:a0z→Int) (c:a0z):Prop:=c∈S∨∃ c'∈S,f c' < f c
theorem a6N {L many low most l1 a:Nat} {C:Nat→List a0z} {R:Nat→Nat→List a0z} {c r:a0z} (h1:low≤l1) (h2:l1 < L) (ha:1≤a) (hm:a≤most) (hc:c∈C a) (hr:r∈bhd R many (l1,a - 1)):ahd l1 c++r∈rw' L C R many low most:=by
 unfold rw'
 refine List.mem_flatMap.mpr ⟨(l1,a - 1),a1r.mpr ⟨h1,h2,by show a - 1 < most;omega⟩,List.mem_flatMap.mpr ⟨c,?_,List.mem_map.mpr ⟨r,hr,rfl⟩⟩⟩
 show c∈C (a - 1+1)
 rw [show a - 1+1=a by omega]
 exact hc
theorem join {ps ws:List Int} {many low most l1 i:Nat} {c r:a0z} (h1:low≤l1) (h2:l1 < ps.length) (ha:1≤c.length) (hm:c.length≤most) (hc:Bst (Cs ps.length c.length) (co ps ws i) c) (hr:Bst (bhd (Rs ps.length) many (l1,c.length - 1)) (co ps ws (i+c.length)) r):Bst (rw' ps.length (Cs ps.length) (Rs ps.length) many low most) (co ps ws i) (ahd l1 c++r):=by
 have ap:=fun (c' r':a0z) (e:c'.length=c.length)=>(show co ps ws i (ahd l1 c'++r')=pl ps l1 * Wt ws i (i+c.length)+co ps ws i c'+co ps ws (i+c.length) r' from by rw [←e];exact a4g c' i)
 rcases hc with hc | ⟨c',hc,lc⟩
 ·rcases hr with hr | ⟨r',hr,lr⟩
  ·exact .inl (a6N h1 h2 ha hm hc hr)
  ·refine .inr ⟨_,a6N h1 h2 ha hm hc hr,?_⟩
   rw [ap c r' rfl,ap c r rfl]
   omega
 ·have e:=(a5W ha c' hc).ln
  rcases hr with hr | ⟨r',hr,lr⟩
  ·refine .inr ⟨_,a6N h1 h2 ha hm hc hr,?_⟩
   rw [ap c' r e,ap c r rfl]
   omega
  ·refine .inr ⟨_,a6N h1 h2 ha hm hc hr,?_⟩
   rw [ap c' r' e,ap c r rfl]
   omega
theorem fr_of {c:a0z} (k:KP c) {L:Nat} (i:InL L c) (h:2≤c.length):Fr 0 c:=by
 intro u hu
 cases u with
 | cons x w =>
  exact ⟨x,w,rfl,by have:=(i _ hu x (.head _)).1;omega⟩
 | nil =>
  exfalso
  obtain ⟨j,hj,e⟩:=List.mem_iff_getElem.mp hu
  have kk:=List.pairwise_iff_getElem.mp k
  by_cases z:j=0
  ·subst z
   have:=(kk 0 1 hj (by omega) (by omega)).2
   rw [e] at this
   exact this rfl
  ·have:=(kk 0 j (by omega) hj (by omega)).1
   rw [e] at this
   cases h0:c[0]'(by omega) with
   | nil=>rw [h0] at this;cases this
   | cons x w=>rw [h0] at this;cases this
theorem best {ps ws:List Int} (bp:Po ps) (bw:Po ws):∀ (d:Nat) (r:a0z) (i:Nat),sz r≤d→r≠[]→i+r.length≤ws.length→KP r→InL ps.length r →
  (∀ l,Fr l r→Bst (Rs ps.length r.length l) (co ps ws i) r)∧Bst (Cs ps.length r.length) (co ps ws i) r
 | 0,r,i,hd,ne,hi,k,il=>by
  cases r with
  | nil=>exact absurd rfl ne
  | cons u r=>unfold sz at hd;rw [List.map_cons,List.sum_cons] at hd;omega
 | d+1,r,i,hd,ne,hi,k,il=>by
  have ih:=best bp bw d
  have beh:∀ (l1:Nat) (c r2:a0z),r=ahd l1 c++r2→c≠[]→KP r2→InL ps.length r2→Fr (l1+1) r2→sz r2 < sz r→Bst (bhd (Rs ps.length) r.length (l1,c.length - 1)) (co ps ws (i+c.length)) r2:=by
   intro l1 c r2 e nc k2 i2 f2 s2
   have lc:1≤c.length:=by cases c with | nil=>exact absurd rfl nc | cons=>rw [List.length_cons];omega
   have lr:r.length=c.length+r2.length:=by rw [e,List.length_append];unfold ahd;rw [List.length_map]
   unfold bhd
   show Bst (if c.length - 1+1 < r.length then Rs ps.length (r.length - (c.length - 1+1)) (l1+1) else [[]]) _ r2
   rw [show c.length - 1+1=c.length by omega]
   by_cases z:r2=[]
   ·subst z
    rw [List.length_nil] at lr
    rw [if_neg (by omega)]
    exact .inl (.head _)
   ·have:1≤r2.length:=by cases r2 with | nil=>exact absurd rfl z | cons=>rw [List.length_cons];omega
    rw [if_pos (by omega),show r.length - c.length=r2.length by omega]
    exact (ih r2 (i+c.length) (by omega) z (by omega) k2 i2).1 (l1+1) f2
  refine ⟨fun l f=>?_,?_⟩
  ·obtain ⟨l1,c,r2,e,nc,h1,h2,kc,ic,k2,i2,f2,s1,s2⟩:=split k il f ne
   have lc:1≤c.length:=by cases c with | nil=>exact absurd rfl nc | cons=>rw [List.length_cons];omega
   have lr:r.length=c.length+r2.length:=by rw [e,List.length_append];unfold ahd;rw [List.length_map]
   have b:=beh l1 c r2 e nc k2 i2 f2 s2
   rw [a7A (by omega) (by omega)]
   have:=join (ps:=ps) (ws:=ws) (many:=r.length) (low:=l) (most:=r.length) (i:=i) h1 h2 lc (by omega) (ih c i (by omega) nc (by omega) kc ic).2 b
   rw [←e] at this
   exact this
  ·by_cases l2:2≤r.length
   ·obtain ⟨l1,c,r2,e,nc,h1,h2,kc,ic,k2,i2,f2,s1,s2⟩:=split k il (fr_of k il l2) ne
    have lc:1≤c.length:=by cases c with | nil=>exact absurd rfl nc | cons=>rw [List.length_cons];omega
    have lr:r.length=c.length+r2.length:=by rw [e,List.length_append];unfold ahd;rw [List.length_map]
    by_cases z:r2=[]
    ·subst z
     rw [List.length_nil] at lr
     have b:=(ih c i (by omega) nc (by omega) kc ic).2
     have hc:co ps ws i r=pl ps l1 * Wt ws i (i+c.length)+co ps ws i c+co ps ws (i+c.length) []:=by rw [e];exact a4g c i
     rw [a5m] at hc
     have p1:=a9d bp h2
     have p2:=a9c (ws:=ws) (i:=i) (j:=i+c.length) bw (by omega) (by omega)
     have p3:0 < pl ps l1 * Wt ws i (i+c.length):=Int.mul_pos (by omega) (by omega)
     rw [show r.length=c.length by omega]
     rcases b with b | ⟨c',b,lb⟩
     ·exact .inr ⟨c,b,by omega⟩
     ·exact .inr ⟨c',b,by omega⟩
    ·have:1≤r2.length:=by cases r2 with | nil=>exact absurd rfl z | cons=>rw [List.length_cons];omega
     have b:=beh l1 c r2 e nc k2 i2 f2 s2
     rw [a7z (by omega)]
     have:=join (ps:=ps) (ws:=ws) (many:=r.length) (low:=0) (most:=r.length - 1) (i:=i) h1 h2 lc (by omega) (ih c i (by omega) nc (by omega) kc ic).2 b
     rw [←e] at this
     exact this
   ·cases r with
    | nil=>exact absurd rfl ne
    | cons u r =>
     have er:r=[]:=by
      cases r with
      | nil=>rfl
      | cons=>exfalso;apply l2;simp
     subst er
     rw [show ([u]:a0z).length=1 from rfl,a4d]
     cases u with
     | nil=>exact .inl (.head _)
     | cons x u =>
      obtain ⟨x0,x1⟩:=il _ (.head _) x (.head _)
      obtain ⟨l1,rfl⟩:∃ l1:Nat,x=l1:=⟨x.toNat,by omega⟩
      have hc:co ps ws i [(l1:Int) :: u]=pl ps l1 * Wt ws i (i+1)+co ps ws i [u]+co ps ws (i+1) []:=a4g (l:=l1) (r:=[]) [u] i
      rw [a5m] at hc
      have hi:i+1≤ws.length:=hi
      have p1:=a9d (l:=l1) bp (by omega)
      have p2:=a9c (ws:=ws) (i:=i) (j:=i+1) bw (by omega) (by omega)
      have p3:0 < pl ps l1 * Wt ws i (i+1):=Int.mul_pos (by omega) (by omega)
      have b:=(ih [u] i (by unfold sz at *;simp at hd ⊢;omega) (by simp) hi (List.pairwise_singleton _ _) (fun v hv y hy=>by
       rcases List.mem_cons.mp hv with rfl | hv
       ·exact il _ (.head _) y (.tail _ hy)
       ·cases hv)).2
      rw [show ([u]:a0z).length=1 from rfl,a4d] at b
      rcases b with b | ⟨c',b,lb⟩
      ·have:([u]:a0z)=[[]]:=by simpa using b
       exact .inr ⟨[[]],.head _,by rw [←this];omega⟩
      ·exact .inr ⟨c',b,by omega⟩
theorem rw_kp {L many low most:Nat} {C:Nat→List a0z} {R:Nat→Nat→List a0z} (hC:∀ k,1≤k→k≤most→∀ c∈C k,KP c) (hR:∀ k l,1≤k→k < many→∀ r∈R k l,KP r∧Fr l r):∀ c∈rw' L C R many low most,KP c∧Fr low c:=by
 intro c hc
 unfold rw' at hc
 obtain ⟨q,hq,hc⟩:=List.mem_flatMap.mp hc
 obtain ⟨c1,hc1,hc⟩:=List.mem_flatMap.mp hc
 obtain ⟨r,hr,rfl⟩:=List.mem_map.mp hc
 obtain ⟨q1,q2,q3⟩:=a1r.mp hq
 have k1:=hC (q.2+1) (by omega) (by omega) c1 hc1
 have k2:KP r∧Fr (q.1+1) r:=by
  unfold bhd at hr
  split at hr
  ·exact hR _ _ (by omega) (by omega) r hr
  ·have:r=[]:=by simpa using hr
   subst this
   exact ⟨List.Pairwise.nil,fun u hu=>by cases hu⟩
 refine ⟨List.pairwise_append.mpr ⟨b1D.mpr k1,k2.1,fun u hu v hv=>?_⟩,fun u hu=>?_⟩
 ·obtain ⟨u',_,rfl⟩:=List.mem_map.mp hu
  obtain ⟨y,w,rfl,hy⟩:=k2.2 v hv
  exact af_lt (by omega)
 ·rcases List.mem_append.mp hu with hu | hu
  ·obtain ⟨u',_,rfl⟩:=List.mem_map.mp hu
   exact ⟨_,_,rfl,by omega⟩
  ·obtain ⟨y,w,rfl,hy⟩:=k2.2 u hu
   exact ⟨_,_,rfl,by omega⟩
theorem b1F {L:Nat}:∀ d m,m≤d→1≤m→(∀ c∈Cs L m,KP c)∧∀ l,∀ r∈Rs L m l,KP r∧Fr l r
 | 0,m,h,h1=>by omega
 | d+1,m,h,h1=>by
  have ih:=b1F (L:=L) d
  have hc:∀ c∈Cs L m,KP c:=by
   by_cases e:m=1
   ·subst e
    intro c hc
    rw [a4d] at hc
    have:c=[[]]:=by simpa using hc
    subst this
    exact List.pairwise_singleton _ _
   ·rw [a7z (by omega)]
    intro c hc
    exact (rw_kp (fun k a b=>(ih k (by omega) a).1) (fun k l a b=>(ih k (by omega) a).2 l) c hc).1
  refine ⟨hc,fun l r hr=>?_⟩
  by_cases hl:l < L
  ·rw [a7A h1 hl] at hr
   refine rw_kp (fun k a b=>?_) (fun k l a b=>(ih k (by omega) a).2 l) r hr
   by_cases e:k=m
   ·subst e;exact hc
   ·exact (ih k (by omega) a).1
  ·rw [a5l hl] at hr
   cases hr
theorem Cs_kp {L m:Nat} (h:1≤m):∀ c∈Cs L m,KP c:=(b1F m m (Nat.le_refl _) h).1
theorem b0R {ps ws:List Int} {h t:Nat→Nat→Nat→OI} {F:Nat→Nat→OI} (T:Tb ps.length ws.length h t F (pl ps) (Wt ws)) (bp:Po ps) (bw:Po ws) (n1:1≤ws.length) {c:a0z} (hl:c.length=ws.length) (il:InL ps.length c) :
  (KP c∧some (co ps ws 0 c)=F 0 ws.length)↔c∈(Cs ps.length ws.length).filter fun c=>decide (some (co ps ws 0 c)=mi ((Cs ps.length ws.length).map (co ps ws 0))):=by
 have key:=(least T (en (ps:=ps) (ws:=ws)) ws.length ws.length 0 (Nat.le_refl _) n1 (by omega)).1
 rw [Nat.zero_add] at key
 rw [List.mem_filter,key]
 constructor
 ·rintro ⟨k,e⟩
  refine ⟨?_,decide_eq_true e⟩
  have ne:c≠[]:=by intro z;rw [z,List.length_nil] at hl;omega
  have b:=(best bp bw (sz c) c 0 (Nat.le_refl _) ne (by omega) k il).2
  rw [hl] at b
  rcases b with b | ⟨c',hc',lt⟩
  ·exact b
  ·exfalso
   rw [←e] at key
   have:=(a1M.mp key).2 _ (List.mem_map_of_mem hc')
   omega
 ·rintro ⟨hc,e⟩
  exact ⟨Cs_kp n1 c hc,of_decide_eq_true e⟩
end CT
end K66
namespace K66
namespace Q
open PySem L2
theorem hu0 {A:Around} {k:Nat} (hr:a1Q k A):A.units < cLine:=by have:=hu4 hr;omega
theorem a7C {ps:List Int} (hp:Bw ps):∀ ns:List Int,0≤CT.pc ps ns∧CT.pc ps ns≤(ns.length:Int) * B30
 | []=>⟨by show (0:Int)≤0;decide,by show (0:Int)≤0 * B30;decide⟩
 | n :: ns=>by
  obtain ⟨h1,h2⟩:=a7C hp ns
  have e:CT.pc ps (n :: ns)=ps.getD n.toNat 0+CT.pc ps ns:=by unfold CT.pc;simp
  have b:0≤ps.getD n.toNat 0∧ps.getD n.toNat 0≤B30:=by
   rw [List.getD_eq_getElem?_getD]
   cases hz:ps[n.toNat]? with
   | none=>exact ⟨by decide,by decide⟩
   | some z=>exact hp z (List.mem_of_getElem? hz)
  rw [e]
  have e2:((n :: ns).length:Int) * B30=(ns.length:Int) * B30+B30:=by
   rw [List.length_cons]
   push_cast
   rw [Int.add_mul]
   simp
  omega
def Lt (L:Nat) (ns:List Int):Prop:=∀ z∈ns,(0:Int)≤z∧z < (L:Int)
theorem ps_nv {X:Cx} {st:Stmt}:PS X st (fun _ _ _=>False):=fun _ _ _ _ _ _ h=>h.elim
abbrev PCo:List Str:=["prices","weights","code"]
theorem a9m {ps ws:List Int} {nss:List (List Int)} {i:Nat} {x:Int} {ns:List Int} (h1:ws[i]?=some x) (h2:nss[i]?=some ns):(List.zipWith (fun x ns=>x * CT.pc ps ns) ws nss)[i]?=some (x * CT.pc ps ns):=by
 rw [List.getElem?_zipWith,h1,h2]
theorem op_ltK {X:Cx} (K:PySem.W.Frag) (hu:X.A.units < cLine) (h:X.K=K:=by rfl):OpR X (compareOp .Lt) (rLtT K):=by subst h;exact op_ltT hu
section
variable {P':Program} {w:World} {K:PySem.W.Frag} {mg:Str→Option Value} {base:Heap} {f:Addr} {fd:FuncData}
def al (m x:Int):Bool:=decide (0≤x) && decide (x < m)
def alone (m:Int) (ns:List Int):Bool:=(ns.map (al m)).all id
def a6a:Sp:=fun vs H Q _=>∃ (x:V) (ns:List Int) (m:Int),vs=[x,.int m]∧Wd H x ns∧ns.length≤1000∧∀ H',a0x H H'→Q (.bl (alone m ns)) H'
theorem b3b:a0n ["word","letters"] ["word","letters"] (a0b a3z):=⟨rfl,rfl,rfl,by decide +kernel,rfl,by decide +kernel,by decide +kernel⟩
theorem ndA:(("letter":Str) :: ["word","letters"]).Nodup:=by decide +kernel
theorem b0S (F:Fun K "has_letters_alone" "has_letters_alone" a3z f fd) (ma:mg "all"=none):a0O P' w K mg base CX0 1 f fd ["word","letters"] a6a:=by
 refine F.ok (k:=0) b3b (fun vs H Q E h=>?_) (fun cdv A outer s H vs Q E hr h=>?_)
 ·obtain ⟨x,ns,m,rfl,_⟩:=h
  rfl
 obtain ⟨x,ns,m,rfl,hx,hl,q⟩:=h
 obtain ⟨a,rfl,ha⟩:=hx.ti
 refine ⟨_,a0h (a0r (a0o (a6s rfl) (by rfl) ma b_all (a0a (a2B (M:=["word","letters"]) rfl (a0q.of (a0b a3z) ["word","letters"] rfl rfl rfl (by decide +kernel) (by decide +kernel) (by decide +kernel) rfl (by decide +kernel)) ndA rfl (pv 0) a0V
  (fun cl C s0 H0 fp=>⟨a0X,a6l a6T a4o a0g (pv 0) (pv 2)⟩)) a0d))),?_⟩
 refine ⟨_,rfl,a,_,rfl,SqT.of ha,fun d hd=>?_⟩
 refine ⟨fun k H'=>a0x H H'∧H' d=some (.lst (((ns.take k).map (al m)).map V.bl)),⟨a0e hd _,a0c⟩,fun k H' _ hP=>SqT.of (hP.1 _ _ ha),fun k x H' hx hP=>?_,fun H' hP=>?_⟩
 ·obtain ⟨sm,hd'⟩:=hP
  rw [List.getElem?_map] at hx
  cases hz:ns[k]? with
  | none=>rw [hz] at hx;cases hx
  | some z =>
   rw [hz] at hx;cases hx
   have hk:=(List.getElem?_eq_some_iff.mp hz).1
   have fin:∀ b,b=al m z→∃ ys,H' d=some (.lst ys)∧ys.length < sizeLine∧(a0x H (upd H' d (.lst (ys++[.bl b])))∧upd H' d (.lst (ys++[.bl b])) d=some (.lst (((ns.take (k+1)).map (al m)).map V.bl))):=fun b eb=>by
    refine ⟨_,hd',?_,a0v hd sm,?_⟩
    ·rw [List.length_map,List.length_map,List.length_take];exact a0s (by omega)
    ·rw [a0c,List.take_add_one,hz,List.map_append,List.map_append,eb];rfl
   refine a0S ⟨_,rfl,_,_,rfl,rfl,_,rfl,?_⟩
   refine a1C (fun c=>?_) (fun c=>?_)
   ·refine ⟨_,rfl,_,_,rfl,rfl,?_⟩
    exact fin _ (by unfold al;rw [c];rfl)
   ·exact fin _ (by unfold al;rw [Bool.eq_false_iff.mpr c];rfl)
 ·obtain ⟨sm,hd'⟩:=hP
  rw [List.length_map,List.take_length] at hd'
  exact ⟨d,_,rfl,hd',q H' sm⟩
theorem a3h {m:Int} {ns:List Int} (h:alone m ns=true):∀ x∈ns,0≤x∧x < m:=fun x hx=>by
 have q:=List.all_eq_true.mp h (al m x) (List.mem_map_of_mem hx)
 unfold al at q
 simp only [id,Bool.and_eq_true,decide_eq_true_eq] at q
 exact q
theorem a5p {m:Int} {ns:List Int}:alone m ns=true↔∀ x∈ns,0≤x∧x < m:=by
 refine ⟨a3h,fun h=>?_⟩
 unfold alone
 rw [List.all_eq_true]
 intro b hb
 obtain ⟨x,hx,rfl⟩:=List.mem_map.mp hb
 obtain ⟨h1,h2⟩:=h x hx
 unfold al
 simp [h1,h2]
def a2f (CB:Addr):Sp:=fun vs H Q E=>∃ (x y:V) (ps ns:List Int),vs=[x,y]∧Wd H x ps∧Wd H y ns∧ns.length≤1000∧(alone (ps.length:Int) ns=true→∀ H',a0x H H'→Q (.int (CT.pc ps ns)) H')∧(alone (ps.length:Int) ns=false→∀ H',a0x H H'→E (.ref CB) none H')
theorem a5Y:a0n ["prices","word"] ["prices","word"] (a0b a2p):=⟨rfl,rfl,rfl,by decide +kernel,rfl,by decide +kernel,by decide +kernel⟩
theorem ndP:(("letter":Str) :: ["prices","word"]).Nodup:=by decide +kernel
theorem a4G {CB:Addr} (F:Fun K "word_price" "word_price" a2p f fd) (G:Fns P' w K mg base ["word","letters"] "has_letters_alone" a6a 1) (ml:mg "len"=none) (ms:mg "sum"=none) (mB:mg "BadWord"=some (.ref CB)) (eB:Ecl K CB) :
  a0O P' w K mg base (CXF P' w) 2 f fd ["prices","word"] (a2f CB):=by
 refine F.okF (k:=1) a5Y (fun vs H Q E h=>?_) (fun cdv A outer s H vs Q E hr h=>?_)
 ·obtain ⟨x,y,ps,ns,rfl,_⟩:=h
  rfl
 obtain ⟨x,y,ps,ns,rfl,hx,hy,hl,q1,q2⟩:=h
 obtain ⟨p,rfl,hp⟩:=hx.ti
 obtain ⟨a,rfl,ha⟩:=hy.ti
 refine ⟨_,a0f (a1e (a4O (a3P (a0l G.ok hr (by rfl) G.m G.kp G.b .nil a0C (a0a (pv 1) (a0a (a0o a0i (by rfl) ml PySem.boot_len (a0a (pv 0) a0d)) a0d))))) (a0h (a2C a0A rfl (by rfl) mB eB (a0a a1o a0d))) a0D)
  (a0h (a0r (a0o (a2z rfl) (by rfl) ms a8i (a0a (a2B (M:=["prices","word"]) rfl (a0q.of (a0b a2p) ["prices","word"] rfl rfl rfl (by decide +kernel) (by decide +kernel) (by decide +kernel) rfl (by decide +kernel)) ndP rfl (pv 1) a0V
   (fun cl C s0 H0 fp=>⟨a0X,a0y (ixT K) (pv 1) (pv 0) (fun _ _=>rfl)⟩)) a0d)))),?_⟩
 refine ⟨_,rfl,_,rfl,p,_,rfl,.inr (SqT.of hp),.ref a,ns,_,rfl,Wd.of ha,hl,fun H1 s1=>?_⟩
 rw [List.length_map]
 refine ⟨_,rfl,?_⟩
 refine a1C (fun c=>?_) (fun c=>?_)
 ·have c1:alone (ps.length:Int) ns=false:=by
   cases hb:alone (ps.length:Int) ns with
   | false=>rfl
   | true=>rw [hb] at c;cases c
  exact ⟨by decide,q2 c1 H1 s1⟩
 have c1:alone (ps.length:Int) ns=true:=by
  cases hb:alone (ps.length:Int) ns with
  | true=>rfl
  | false=>rw [hb] at c;exact absurd rfl c
 have hn:=a3h c1
 refine ⟨_,rfl,a,_,rfl,SqT.of (s1 _ _ ha),fun d hd=>?_⟩
 refine ⟨fun k H'=>a0x H1 H'∧H' d=some (.lst (((ns.take k).map fun x=>ps.getD x.toNat 0).map V.int)),⟨a0e hd _,a0c⟩,fun k H' _ hP=>SqT.of (hP.1 _ _ (s1 _ _ ha)),fun k x H' hx hP=>?_,fun H' hP=>?_⟩
 ·obtain ⟨sm,hd'⟩:=hP
  rw [List.getElem?_map] at hx
  cases hz:ns[k]? with
  | none=>rw [hz] at hx;cases hx
  | some z =>
   rw [hz] at hx;cases hx
   have hk:=(List.getElem?_eq_some_iff.mp hz).1
   obtain ⟨z0,z1⟩:=hn z (List.mem_of_getElem? hz)
   obtain ⟨n,rfl⟩:∃ n:Nat,z=n:=⟨z.toNat,by omega⟩
   have hn':n < ps.length:=by omega
   refine a0S ⟨_,rfl,_,rfl,p,_,_,_,rfl,rfl,SqT.of (sm _ _ (s1 _ _ hp)),a2X (List.getElem?_eq_getElem hn'),_,hd',?_,a0v hd sm,?_⟩
   ·rw [List.length_map,List.length_map,List.length_take];exact a0s (by omega)
   ·rw [a0c,List.take_add_one,hz,List.map_append,List.map_append]
    simp [List.getD_eq_getElem?_getD,List.getElem?_eq_getElem hn']
 ·obtain ⟨sm,hd'⟩:=hP
  rw [List.length_map,List.take_length] at hd'
  exact ⟨d,_,rfl,hd',q1 c1 H' (s1.trans sm)⟩
def a2T (CU CB:Addr):Sp:=fun vs H Q E=>∃ (p wa c:Addr) (ps ws:List Int) (xs:List V) (nss:List (List Int)),vs=[.ref p,.ref wa,.ref c]∧TW H p ps∧TW H wa ws∧H c=some (.tup xs)∧Ws H xs nss∧nss.length≤100∧(∀ ns∈nss,ns.length≤1000)∧Bw ps∧Bw ws ∧
 (nss.length≠ws.length→∀ H',a0x H H'→E (.ref CU) none H')∧(nss.length=ws.length→(∀ ns∈nss,alone (ps.length:Int) ns=true)→∀ H',a0x H H'→Q (.int (CT.co ps ws 0 nss)) H') ∧
 (nss.length=ws.length→(∃ ns∈nss,alone (ps.length:Int) ns=false)→∀ H',a0x H H'→E (.ref CB) none H')
theorem scPCst:a0n PCo PCo (a0b a3B):=⟨rfl,rfl,rfl,by decide +kernel,rfl,by decide +kernel,by decide +kernel⟩
theorem ndPC:(("weight":Str) :: "word" :: PCo).Nodup:=by decide +kernel
theorem b0T {CU CB:Addr} (F:Fun K "cost" "cost" a3B f fd) (G:a1D P' w K mg base ["prices","word"] "word_price" (a2f CB) 2) (ml:mg "len"=none) (ms:mg "sum"=none) (mz:mg "zip"=none) (mU:mg "Unlike"=some (.ref CU)) (eU:Ecl K CU) :
  a0O P' w K mg base (CXF P' w) 3 f fd PCo (a2T CU CB):=by
 refine F.okF (k:=2) scPCst (fun vs H Q E h=>?_) (fun cdv A outer s H vs Q E hr h=>?_)
 ·obtain ⟨p,wa,c,ps,ws,xs,nss,rfl,_⟩:=h
  rfl
 obtain ⟨p,wa,c,ps,ws,xs,nss,rfl,hp,hw,hc,hx,l1,l2,bp,bw,q1,q2,q3⟩:=h
 have lx:xs.length=nss.length:=hx.length
 refine ⟨_,a0f (a1e (a0B b1S (a0o a0i (by rfl) ml PySem.boot_len (a0a (pv 2) a0d)) (a0o a0i (by rfl) ml PySem.boot_len (a0a (pv 1) a0d)) (nomark _)) (a0h (a2C a0A rfl (by rfl) mU eU (a0a a1o a0d))) a0D)
  (a0h (a0r (a0o (a2z rfl) (by rfl) ms a8i (a0a (a3d K true true (M:=PCo) rfl (a0q.of (a0b a3B) PCo rfl rfl rfl (by decide +kernel) (by decide +kernel) (by decide +kernel) rfl (by decide +kernel)) ndPC rfl rfl (by rfl) mz (a0a (pv 1) (a0a (pv 2) a0d)) (a0T a0V (a0T a0V a1B))
   (fun cl C s0 H0 fp pins σ bk=>⟨a0X,a0p a2L (pv 0) (a0l G.ok hr (by rfl) G.m G.kp G.b .nil (a5O bk ⟨rfl,rfl⟩ a7n) (a0a (pv 2) (a0a (pv 1) a0d)))⟩)) a0d)))),?_⟩
 refine ⟨_,rfl,c,_,rfl,.inr (SqT.of hc),_,rfl,wa,_,rfl,.inr (SqT.of hw),rfl,_,rfl,?_⟩
 rw [List.length_map,lx]
 refine a1C (fun b=>?_) (fun b=>?_)
 ·refine ⟨by decide,q1 (fun z=>?_) H (a0x.refl _)⟩
  rw [z] at b
  simp at b
 have el:nss.length=ws.length:=by
  by_cases z:nss.length=ws.length
  ·exact z
  ·refine absurd ?_ b
   rw [Bool.not_eq_true',decide_eq_false_iff_not]
   intro y
   have:=V.int.inj y
   omega
 refine ⟨_,rfl,_,rfl,wa,c,_,_,rfl,SqT.of hw,SqT.of hc,by rw [List.length_map];omega,fun d hd=>?_⟩
 refine ⟨fun i H'=>a0x H H'∧H' d=some (.lst (((List.zipWith (fun x ns=>x * CT.pc ps ns) ws nss).take i).map V.int))∧∀ j,j < i→∀ ns,nss[j]?=some ns→alone (ps.length:Int) ns=true,⟨a0e hd _,a0c,fun j hj=>absurd hj (by omega)⟩,
  fun i H' _ hP=>⟨SqT.of (hP.1 _ _ hw),SqT.of (hP.1 _ _ hc)⟩,fun i x y pp H' hx' hy' hP hpp=>?_,fun H' hP=>?_⟩
 ·obtain ⟨sm,hd',al⟩:=hP
  rw [List.getElem?_map] at hx'
  cases hz:ws[i]? with
  | none=>rw [hz] at hx';cases hx'
  | some wt =>
  rw [hz] at hx';cases hx'
  obtain ⟨ns,hn,ry⟩:=Paired.right_of hx i y hy'
  have iw:=(List.getElem?_eq_some_iff.mp hz).1
  have s2:=a0e hpp (.tup [.int wt,y])
  have dn:d≠pp:=a0J hd' hpp
  refine a3r ⟨_,rfl,_,rfl,_,rfl,.ref p,y,ps,ns,rfl,Wd.of (s2 _ _ (sm _ _ hp)),Wd.same (sm.trans s2) ry,l2 ns (List.mem_of_getElem? hn),fun ok H3 s3=>?_,fun bad H3 s3=>?_⟩
  ·obtain ⟨b1,b2⟩:=a7C bp ns
   obtain ⟨b3,b4⟩:=bw wt (List.mem_of_getElem? hz)
   have b5:(ns.length:Int)≤1000:=by have:=l2 ns (List.mem_of_getElem? hn);omega
   have b6:(ns.length:Int) * B30≤1000 * B30:=Int.mul_le_mul_of_nonneg_right b5 (by decide)
   refine ⟨_,_,rfl,rfl,⟨⟨b3,by unfold B30 at *;omega⟩,⟨b1,by unfold B30 at *;omega⟩⟩,_,s3 _ _ (s2 _ _ hd'),?_,a0v hd ((sm.trans s2).trans s3),?_,fun j hj ms hm=>?_⟩
   ·rw [List.length_map,List.length_take,List.length_zipWith];exact a0s (by omega)
   ·rw [a0c,List.take_add_one,a9m hz hn,List.map_append];rfl
   ·rcases Nat.lt_succ_iff_lt_or_eq.mp hj with z | z
    ·exact al j z ms hm
    ·rw [z,hn] at hm;cases hm;exact ok
  ·exact q3 el ⟨ns,List.mem_of_getElem? hn,bad⟩ H3 ((sm.trans s2).trans s3)
 ·obtain ⟨sm,hd',al⟩:=hP
  rw [List.length_map] at hd' al
  rw [List.take_of_length_le (by rw [List.length_zipWith];omega)] at hd'
  refine ⟨d,_,rfl,hd',q2 el (fun ns hns=>?_) H' sm⟩
  obtain ⟨j,hj⟩:=List.mem_iff_getElem?.mp hns
  exact al j (by have:=(List.getElem?_eq_some_iff.mp hj).1;omega) ns hj
def b3z (ws:List (List Int)):List Bool:=(List.range (ws.length - 1)).map fun i=>HT.a1m (ws.getD i []) (ws.getD (i+1) [])
def rises (ws:List (List Int)):Bool:=(b3z ws).all id
def a6b:Sp:=fun vs H Q _=>∃ c xs ws,vs=[.ref c]∧H c=some (.tup xs)∧Ws H xs ws∧ws.length≤100∧∀ H',a0x H H'→Q (.bl (rises ws)) H'
theorem b3c:a0n ["code"] ["code"] (a0b a3A):=⟨rfl,rfl,rfl,by decide +kernel,rfl,by decide +kernel,by decide +kernel⟩
theorem ndT:(("thing":Str) :: ["code"]).Nodup:=by decide +kernel
theorem b0U (F:Fun K "rises" "rises" a3A f fd) (ml:mg "len"=none) (mr:mg "range"=none) (ma:mg "all"=none):a0O P' w K mg base CX0 1 f fd ["code"] a6b:=by
 refine F.ok (k:=0) b3c (fun vs H Q E h=>?_) (fun cdv A outer s H vs Q E hr h=>?_)
 ·obtain ⟨c,xs,ws,rfl,_⟩:=h
  rfl
 obtain ⟨c,xs,ws,rfl,hc,hw,l1,q⟩:=h
 have lx:xs.length=ws.length:=hw.length
 refine ⟨_,a0h (a0r (a0o (a6s rfl) (by rfl) ma b_all (a0a (a1W (M:=["code"]) rfl (a0q.of (a0b a3A) ["code"] rfl rfl rfl (by decide +kernel) (by decide +kernel) (by decide +kernel) rfl (by decide +kernel)) ndT rfl (by rfl) mr
  (a0a (a0p a1q (a0o a0i (by rfl) ml PySem.boot_len (a0a (pv 0) a0d)) a0g) a0d) (a0T (a7k a3V (a8j (a0T a0V a1B)) b3q) a1B)
  (fun cl C s0 H0 fp=>⟨a0X,a2n (op_ltK K (hu0 hr)) (a0y (ixT K) (pv 1) (pv 0) (fun _ _=>rfl)) (a0y (ixT K) (pv 1) (a0p a0I (pv 0) a0g) (fun _ _=>rfl)) (nomark _)⟩)) a0d))),?_⟩
 refine ⟨_,rfl,c,_,rfl,.inr (SqT.of hc),_,_,rfl,rfl,_,rfl,by omega,by omega,fun d hd=>?_⟩
 have en:((xs.length:Int) - 1).toNat=ws.length - 1:=by omega
 dsimp only
 rw [en]
 refine ⟨fun i H'=>a0x H H'∧H' d=some (.lst (((b3z ws).take i).map V.bl)),⟨a0e hd _,a0c⟩,fun i H' hi hP=>?_,fun H' hP=>?_⟩
 ·obtain ⟨sm,hd'⟩:=hP
  have e0:(0:Int)+(i:Int)=((i:Nat):Int):=by omega
  have e1:((i:Nat):Int)+1=((i+1:Nat):Int):=by omega
  have u1:ws[i]?=some ws[i]:=List.getElem?_eq_getElem (by omega)
  have u2:ws[i+1]?=some ws[i+1]:=List.getElem?_eq_getElem (by omega)
  obtain ⟨y1,hy1,r1⟩:=L2.Paired.left_of hw _ _ u1
  obtain ⟨y2,hy2,r2⟩:=L2.Paired.left_of hw _ _ u2
  obtain ⟨a1,rfl,t1⟩:=Wd.ti r1
  obtain ⟨a2,rfl,t2⟩:=Wd.ti r2
  rw [e0]
  refine a0S ⟨_,rfl,_,rfl,c,_,_,_,rfl,rfl,SqT.of (sm _ _ hc),a2l hy1,_,rfl,_,rfl,_,_,rfl,rfl,c,_,_,_,rfl,rfl,SqT.of (sm _ _ hc),(by rw [e1];exact a2l hy2),a1,a2,_,_,rfl,rfl,SqT.of (sm _ _ t1),SqT.of (sm _ _ t2),_,hd',?_,a0v hd sm,?_⟩
  ·rw [List.length_map,List.length_take];exact a0s (by omega)
  ·have ri:(b3z ws)[i]?=some (HT.a1m ws[i] ws[i+1]):=by
    unfold b3z
    rw [List.getElem?_map,List.getElem?_range hi]
    simp [List.getD_eq_getElem?_getD,u1,u2]
   rw [a0c,List.take_add_one,ri,List.map_append]
   rfl
 ·obtain ⟨sm,hd'⟩:=hP
  rw [List.take_of_length_le (by unfold b3z;simp)] at hd'
  exact ⟨d,_,rfl,hd',q H' sm⟩
def a4I:Sp:=fun vs H Q _=>∃ (a b:Addr) (u v':List Int),vs=[.ref a,.ref b]∧TW H a u∧TW H b v'∧∀ H',a0x H H'→Q (.bl (decide (v'.take u.length=u))) H'
theorem b0V:a0n ["one","other"] ["one","other"] (a0b a2O):=⟨rfl,rfl,rfl,by decide +kernel,rfl,by decide +kernel,by decide +kernel⟩
theorem a9o (F:Fun K "begins" "begins" a2O f fd) (ml:mg "len"=none):a0O P' w K mg base CX0 1 f fd ["one","other"] a4I:=by
 refine F.ok (k:=0) b0V (fun vs H Q E h=>?_) (fun cdv A outer s H vs Q E hr h=>?_)
 ·obtain ⟨a,b,u,v',rfl,_⟩:=h
  rfl
 obtain ⟨a,b,u,v',rfl,ha,hb,q⟩:=h
 refine ⟨_,a0h (a0r (a2n (b2k (hu4 hr)) (a4s a5G (pv 1) a5z (a5A (a0o a0i (by rfl) ml PySem.boot_len (a0a (pv 0) (a0d))))) (pv 0) (nomark _))),?_⟩
 refine ⟨_,rfl,_,rfl,a,_,rfl,.inr (SqT.of ha),_,rfl,b,_,rfl,hb,fun p1 H1 s1 h1=>?_⟩
 rw [List.length_map,b1l,←List.map_take] at h1
 exact ⟨_,rfl,_,_,a3o h1,a3o (s1 _ _ ha),q _ s1⟩
def Apt (c:CT.a0z):Prop:=∀ (i j:Nat) u v',i < j→c[i]?=some u→c[j]?=some v'→v'.take u.length≠u∧u.take v'.length≠v'
abbrev NCc:List Str:=["code","one","other"]
def a6c:Sp:=fun vs H Q _=>∃ (a:Addr) (xs:List V) (c:CT.a0z),vs=[.ref a]∧H a=some (.tup xs)∧Ws H xs c∧c.length≤100∧∀ H' y,a0x H H'→(Apt c→y=.non)→(¬ Apt c→∃ t,y=.ref t)→Q y H'
theorem a6d:a0n NCc ["code"] (a0b a3Z):=⟨rfl,rfl,rfl,by decide +kernel,rfl,by decide +kernel,by decide +kernel⟩
theorem b0W (F:Fun K "clash" "clash" a3Z f fd) (GB:Fns P' w K mg base ["one","other"] "begins" a4I 1) (ml:mg "len"=none) (mr:mg "range"=none):a0O P' w K mg base CX0 2 f fd ["code"] a6c:=by
 refine F.ok (k:=1) a6d (fun vs H Q E h=>?_) (fun cdv A outer s H vs Q E hr h=>?_)
 ·obtain ⟨a,xs,c,rfl,_⟩:=h
  rfl
 obtain ⟨a,xs,c,rfl,ha,hx,lc,q⟩:=h
 have lx:xs.length=c.length:=hx.length
 refine ⟨_,a0f (a1l PassesOwn.never rfl (a2v (by rfl) mr (a0a (a0o a0i (by rfl) ml PySem.boot_len (a0a (pv 0) (a0d))) (a0d))) (a0H (i:=1) a6d.nd rfl (Or.inl rfl)) (a0h (a1l PassesOwn.never rfl (a1p (by rfl) mr (a0a (a0p a0I (pv 1) (a0g)) (a0a (a0o a0i (by rfl) ml PySem.boot_len (a0a (pv 0) (a0d))) (a0d)))) (a0H (i:=2) a6d.nd rfl (Or.inl rfl)) (a0h (a1e (PW.pt (a9E (a3P (a0l GB.ok hr (by rfl) GB.m GB.kp GB.b .nil a0C (a0a (a0y a1a (pv 0) (pv 1) (fun _ _=>rfl)) (a0a (a0y a1a (pv 0) (pv 2) (fun _ _=>rfl)) (a0d))))) (a6g (a3P (a0l GB.ok hr (by rfl) GB.m GB.kp GB.b .nil a0C (a0a (a0y a1a (pv 0) (pv 2) (fun _ _=>rfl)) (a0a (a0y a1a (pv 0) (pv 1) (fun _ _=>rfl)) (a0d)))))))) (a0h (a0r (a1h (a0a (pv 1) (a0a (pv 2) a0d))))) (a0D))))))
   (a0h (a0r (a3O))),?_⟩
 refine ⟨_,rfl,a,_,rfl,.inr (SqT.of ha),_,rfl,by omega,by omega,?_⟩
 rw [Int.toNat_natCast]
 refine a1f (fun i σ H'=>a0x H H'∧(∀ (i' j':Nat) u v',i' < i→i' < j'→c[i']?=some u→c[j']?=some v'→v'.take u.length≠u∧u.take v'.length≠v')∧∃ x1 x2:Option V,σ=[some (.ref a),x1,x2]) ⟨a0x.refl _,fun i' j' u v' h=>absurd h (Nat.not_lt_zero _),_,_,rfl⟩ (fun i σ H1 hi hP=>?_) (fun σ H1 hP=>?_)
 rotate_left
 ·obtain ⟨s1,al,x1,x2,rfl⟩:=hP
  exact q _ _ s1 (fun _=>rfl) fun z=>absurd (fun i j u v' hij hu hv=>al i j u v' (by have:=(List.getElem?_eq_some_iff.mp hu).1;omega) hij hu hv) z
 obtain ⟨s1,al,x1,x2,rfl⟩:=hP
 rw [show (0:Int)+(i:Int)=(i:Int) from Int.zero_add _]
 refine ⟨_,rfl,_,_,rfl,rfl,_,rfl,a,_,rfl,.inr (SqT.of (s1 _ _ ha)),_,_,rfl,⟨by omega,by omega,by omega,by omega⟩,?_⟩
 refine a1f (fun k σ H'=>a0x H H'∧(∀ (j':Nat) u v',i < j'→j' < i+1+k→c[i]?=some u→c[j']?=some v'→v'.take u.length≠u∧u.take v'.length≠v')∧∃ x2:Option V,σ=[some (.ref a),some (.int (i:Int)),x2]) ⟨s1,fun j' u v' h1 h2=>by omega,_,rfl⟩ (fun k σ H2 hk hP=>?_) (fun σ H2 hP=>?_)
 rotate_left
 ·obtain ⟨s2,al2,x2,rfl⟩:=hP
  refine ⟨s2,fun i' j' u v' h1 h2 hu hv=>?_,_,_,rfl⟩
  by_cases z:i'=i
  ·subst z
   exact al2 j' u v' h2 (by have:=(List.getElem?_eq_some_iff.mp hv).1;omega) hu hv
  ·exact al i' j' u v' (by omega) h2 hu hv
 obtain ⟨s2,al2,x2,rfl⟩:=hP
 obtain ⟨j,ej⟩:∃ j,j=i+1+k:=⟨_,rfl⟩
 have ek:(i:Int)+1+(k:Int)=(j:Int):=by omega
 rw [ek]
 have hj:j < xs.length:=by omega
 have hi':i < xs.length:=by omega
 have xi:xs[i]?=some xs[i]:=List.getElem?_eq_getElem hi'
 have xj:xs[j]?=some xs[j]:=List.getElem?_eq_getElem hj
 obtain ⟨u,hu,ru⟩:=Paired.right_of hx i _ xi
 obtain ⟨v',hv,rv⟩:=Paired.right_of hx j _ xj
 obtain ⟨ua,eu,hua⟩:=Wd.ti ru
 obtain ⟨va,ev,hva⟩:=Wd.ti rv
 rw [eu] at xi
 rw [ev] at xj
 have ha2:=s2 _ _ ha
 refine ⟨_,rfl,_,rfl,a,_,_,_,rfl,rfl,SqT.of ha2,a1T xi,_,rfl,_,rfl,a,_,_,_,rfl,rfl,SqT.of ha2,a1T xj,ua,va,u,v',rfl,s2 _ _ hua,s2 _ _ hva,fun H3 s3=>?_⟩
 have no:∀ H5,a0x H H5→(v'.take u.length=u∨u.take v'.length=v')→2≤sizeLine∧∀ t,H5 t=none→Q (.ref t) (upd H5 t (.tup [.int (i:Int),.int (j:Int)])):=fun H5 s5 bad=>⟨by decide,fun t ht=>q _ _ (s5.trans (a0e ht _)) (fun z=>by
  obtain ⟨z1,z2⟩:=z i j u v' (by omega) hu hv
  rcases bad with w | w
  ·exact absurd w z1
  ·exact absurd w z2) fun _=>⟨t,rfl⟩⟩
 refine ⟨_,rfl,?_⟩
 refine a1C (fun y=>?_) (fun y=>?_)
 ·exact b2g ⟨_,rfl,_,rfl,no H3 (s2.trans s3) (.inl (of_decide_eq_true y))⟩
 have p1:v'.take u.length≠u:=fun z=>y (decide_eq_true z)
 have ha3:=s3 _ _ ha2
 have s23:=s2.trans s3
 refine ⟨_,rfl,_,rfl,a,_,_,_,rfl,rfl,SqT.of ha3,a1T xj,_,rfl,_,rfl,a,_,_,_,rfl,rfl,SqT.of ha3,a1T xi,va,ua,v',u,rfl,s23 _ _ hva,s23 _ _ hua,fun H4 s4=>?_⟩
 refine ⟨_,rfl,?_⟩
 refine a1C (fun y=>?_) (fun y=>?_)
 ·exact ⟨_,rfl,_,rfl,no H4 (s23.trans s4) (.inr (of_decide_eq_true y))⟩
 have p2:u.take v'.length≠v':=fun z=>y (decide_eq_true z)
 refine ⟨s23.trans s4,fun j' u' v2 h1 h2 hu' hv'=>?_,_,rfl⟩
 by_cases z:j'=j
 ·subst z
  rw [hu] at hu'
  rw [hv] at hv'
  cases hu'
  cases hv'
  exact ⟨p1,p2⟩
 ·exact al2 j' u' v2 h1 (by omega) hu' hv'
end
theorem a6O:∀ u v w:List Int,HT.a1m u v=true→HT.a1m v w=true→HT.a1m u w=true
 | [],[],w,h,_=>by cases h
 | [],_ :: _,[],_,h=>by cases h
 | [],_ :: _,_ :: _,_,_=>rfl
 | _ :: _,[],w,h,_=>by cases h
 | _ :: _,_ :: _,[],_,h=>by cases h
 | x :: u,y :: v,z :: w,h1,h2=>by
  rw [HT.a1n] at h1 h2 ⊢
  by_cases e1:x=y
  ·subst e1
   rw [if_pos rfl] at h1
   by_cases e2:x=z
   ·subst e2
    rw [if_pos rfl] at h2 ⊢
    exact a6O u v w h1 h2
   ·rw [if_neg e2] at h2 ⊢;exact h2
  ·rw [if_neg e1] at h1
   have l1:=of_decide_eq_true h1
   by_cases e2:y=z
   ·subst e2
    rw [if_neg e1];exact h1
   ·rw [if_neg e2] at h2
    have l2:=of_decide_eq_true h2
    rw [if_neg (by omega)]
    exact decide_eq_true (by omega)
theorem a5q:∀ u w:List Int,u.take w.length=w→HT.a1m u w=false
 | [],[],_=>rfl
 | [],_ :: _,h=>by cases h
 | _ :: _,[],_=>rfl
 | x :: u,y :: w,h=>by
  rw [List.length_cons,List.take_succ_cons] at h
  injection h with h1 h2
  rw [HT.a1n,if_pos h1]
  exact a5q u w h2
theorem a5r:∀ u v w:List Int,HT.a1m u v=true→HT.a1m v w=true→w.take u.length=u→v.take u.length=u
 | [],v,w,_,_,_=>by rw [List.length_nil,List.take_zero]
 | _ :: _,[],w,h,_,_=>by cases h
 | _ :: _,_ :: _,[],_,h,_=>by cases h
 | x :: u,y :: v,z :: w,h1,h2,h=>by
  rw [List.length_cons,List.take_succ_cons] at h
  injection h with e h
  subst e
  rw [HT.a1n] at h1 h2
  by_cases e1:z=y
  ·subst e1
   rw [if_pos rfl] at h1 h2
   rw [List.length_cons,List.take_succ_cons,a5r u v w h1 h2 h]
  ·rw [if_neg e1] at h1
   rw [if_neg (Ne.symm e1)] at h2
   have:=of_decide_eq_true h1
   have:=of_decide_eq_true h2
   omega
def Kadj (c:CT.a0z):Prop:=∀ (k:Nat) u v',c[k]?=some u→c[k+1]?=some v'→HT.a1m u v'=true∧v'.take u.length≠u
theorem a5s {c:CT.a0z}:rises c=true↔∀ (k:Nat) u v',c[k]?=some u→c[k+1]?=some v'→HT.a1m u v'=true:=by
 unfold rises b3z
 rw [List.all_eq_true]
 constructor
 ·intro h k u v' hu hv
  have l:=(List.getElem?_eq_some_iff.mp hv).1
  have:=h _ (List.mem_map.mpr ⟨k,List.mem_range.mpr (by omega),rfl⟩)
  rw [List.getD_eq_getElem?_getD,List.getD_eq_getElem?_getD,hu,hv] at this
  exact this
 ·intro h b hb
  obtain ⟨k,hk,rfl⟩:=List.mem_map.mp hb
  have hk:=List.mem_range.mp hk
  have h1:c[k]?=some (c[k]'(by omega)):=List.getElem?_eq_getElem _
  have h2:c[k+1]?=some (c[k+1]'(by omega)):=List.getElem?_eq_getElem _
  show HT.a1m (c.getD k []) (c.getD (k+1) [])=true
  rw [List.getD_eq_getElem?_getD,List.getD_eq_getElem?_getD,h1,h2]
  exact h k _ _ h1 h2
theorem a9p {c:CT.a0z} (h:Kadj c):∀ (d i:Nat) u v',c[i]?=some u→c[i+d+1]?=some v'→HT.a1m u v'=true∧v'.take u.length≠u
 | 0,i,u,v',hu,hv=>h i u v' hu hv
 | d+1,i,u,v',hu,hv=>by
  have l:=(List.getElem?_eq_some_iff.mp hv).1
  have hm:c[i+d+1]?=some (c[i+d+1]'(by omega)):=List.getElem?_eq_getElem _
  obtain ⟨a1,a2⟩:=a9p h d i u _ hu hm
  obtain ⟨b1,b2⟩:=h (i+d+1) _ v' hm hv
  exact ⟨a6O _ _ _ a1 b1,fun z=>a2 (a5r _ _ _ a1 b1 z)⟩
theorem a4J {c:CT.a0z}:Kadj c↔rises c=true∧Apt c:=by
 constructor
 ·intro h
  refine ⟨a5s.mpr fun k u v' hu hv=>(h k u v' hu hv).1,fun i j u v' hij hu hv=>?_⟩
  obtain ⟨h1,h2⟩:=a9p h (j - i - 1) i u v' hu (by rw [show i+(j - i - 1)+1=j by omega];exact hv)
  refine ⟨h2,fun z=>?_⟩
  rw [a5q u v' z] at h1
  cases h1
 ·rintro ⟨h1,h2⟩ k u v' hu hv
  exact ⟨a5s.mp h1 k u v' hu hv,(h2 k (k+1) u v' (by omega) hu hv).1⟩
theorem last_O {F:Nat→Nat→OI} {n:Nat} (hn:1≤n):atI ((rowO F n 0).map oV) (-1)=some (oV (F 0 n)):=by
 have hr0:rowO F n 0=(List.range (n - 1)).map (fun b=>F 0 (0+b+1))++[F 0 n]:=by
  show (List.range (n - 0)).map _=_
  rw [show n - 0=(n - 1)+1 by omega,List.range_succ,List.map_append]
  show _++[F 0 (0+(n - 1)+1)]=_
  rw [show 0+(n - 1)+1=n by omega]
 rw [hr0,List.map_append]
 exact a4t _ _
section
variable {P':Program} {w:World} {K:PySem.W.Frag} {mg:Str→Option Value} {base:Heap} {f:Addr} {fd:FuncData}
def a9q:Sp:=fun vs H Q _=>∃ (a:Addr) (xs:List V) (c:CT.a0z),vs=[.ref a]∧H a=some (.tup xs)∧Ws H xs c∧c.length≤100∧∀ H' b,a0x H H'→(b=true↔Kadj c)→Q (.bl b) H'
theorem scKept:a0n ["code"] ["code"] (a0b a2P):=⟨rfl,rfl,rfl,by decide +kernel,rfl,by decide +kernel,by decide +kernel⟩
theorem b3d (F:Fun K "is_kept" "is_kept" a2P f fd) (GI:Fns P' w K mg base ["code"] "rises" a6b 2) (GC:Fns P' w K mg base ["code"] "clash" a6c 2):a0O P' w K mg base CX0 3 f fd ["code"] a9q:=by
 refine F.ok (k:=2) scKept (fun vs H Q E h=>?_) (fun cdv A outer s H vs Q E hr h=>?_)
 ·obtain ⟨c,xs,ws,rfl,_⟩:=h
  rfl
 obtain ⟨c,xs,ws,rfl,hc,hw,l1,q⟩:=h
 refine ⟨_,a0h (a0r (b1e (a0l GI.ok hr (by rfl) GI.m GI.kp GI.b .nil a0C (a0a (pv 0) a0d)) (b1d (pe_cmp (a7I (a0l GC.ok hr (by rfl) GC.m GC.kp GC.b .nil a0C (a0a (pv 0) a0d))))))),?_⟩
 refine ⟨_,rfl,c,xs,ws,rfl,hc,hw,l1,fun H1 s1=>⟨_,rfl,?_⟩⟩
 refine a1C (fun y=>?_) (fun y=>?_)
 ·refine ⟨_,rfl,c,xs,ws,rfl,s1 _ _ hc,Ws.same s1 hw,l1,fun H2 v s2 h1 h2=>?_⟩
  by_cases ap:Apt ws
  ·rw [h1 ap]
   exact q H2 true (s1.trans s2) ⟨fun _=>a4J.mpr ⟨y,ap⟩,fun _=>rfl⟩
  ·obtain ⟨t,rfl⟩:=h2 ap
   exact q H2 false (s1.trans s2) ⟨(fun z=>by cases z),fun z=>absurd (a4J.mp z).2 ap⟩
 ·refine q H1 _ s1 ⟨(fun z=>by first | cases z | exact absurd z y),fun z=>absurd (a4J.mp z).1 y⟩
end
end Q
end K66
namespace K66
open PySem L2
namespace Q
def fN:Bool→Str
 | true=>"letter"
 | false=>"thing"
def cN:Bool→Str
 | true=>"PriceMove"
 | false=>"WeightMove"
def nw:Bool→List Int→List Int→Nat→Int
 | true,ps,_,l=>ps.getD l 0
 | false,_,ws,l=>ws.getD l 0
def sR:Bool→List Int→List Int→Nat→CT.a0z→Int
 | true,_,ws,l,c=>sh ws (l:Int) c
 | false,ps,_,l,c=>sW ps l c
def nL:Bool→List Int→List Int→Nat
 | true,ps,_=>ps.length
 | false,_,ws=>ws.length
def mP:Bool→List Int→Nat→Int→List Int
 | true,ps,l,x=>pm ps l x
 | false,ps,_,_=>ps
def mW:Bool→List Int→Nat→Int→List Int
 | true,ws,_,_=>ws
 | false,ws,l,x=>pm ws l x
def kd (b:Bool) (ps ws:List Int) (c:CT.a0z) (i:Int):Nat:=if c.length=ws.length then (if c.all (alone (ps.length:Int))=true then (if 0≤i∧i < (nL b ps ws:Int) then (if c∈chp ps ws then 4 else 3) else (if b=true then 1 else 2)) else 1) else 0
theorem b0X {b:Bool} {ps ws:List Int} {c:CT.a0z} {i:Int} (h:c.length≠ws.length):kd b ps ws c i=0:=if_neg h
theorem a9r {b:Bool} {ps ws:List Int} {c:CT.a0z} {i:Int} (h:c.length=ws.length) (h2:∃ u∈c,alone (ps.length:Int) u=false):kd b ps ws c i=1:=by
 obtain ⟨u,hu,e⟩:=h2
 unfold kd
 rw [if_pos h,if_neg fun z=>by have:=List.all_eq_true.mp z u hu;rw [e] at this;cases this]
theorem a9s {b:Bool} {ps ws:List Int} {c:CT.a0z} {i:Int} (h:c.length=ws.length) (h2:∀ u∈c,alone (ps.length:Int) u=true):kd b ps ws c i=if 0≤i∧i < (nL b ps ws:Int) then (if c∈chp ps ws then 4 else 3) else (if b=true then 1 else 2):=by
 unfold kd
 rw [if_pos h,if_pos (List.all_eq_true.mpr h2)]
theorem a6P {b:Bool} {ps ws:List Int} {c:CT.a0z} {i:Int} (h:c.length=ws.length) (h2:∀ u∈c,alone (ps.length:Int) u=true) (h3:¬ (0≤i∧i < (nL b ps ws:Int))):kd b ps ws c i=if b=true then 1 else 2:=by rw [a9s h h2,if_neg h3]
theorem b0Y {b:Bool} {ps ws:List Int} {c:CT.a0z} {i:Int} (h:c.length=ws.length) (h2:∀ u∈c,alone (ps.length:Int) u=true) (h3:0≤i∧i < (nL b ps ws:Int)):kd b ps ws c i=if c∈chp ps ws then 4 else 3:=by rw [a9s h h2,if_pos h3]
theorem kd_3 {b:Bool} {ps ws:List Int} {c:CT.a0z} {i:Int} (h:c.length=ws.length) (h2:∀ u∈c,alone (ps.length:Int) u=true) (h3:0≤i∧i < (nL b ps ws:Int)):3≤kd b ps ws c i:=by
 rw [b0Y h h2 h3]
 split <;> omega
theorem kd_ge {b:Bool} {ps ws:List Int} {c:CT.a0z} {i:Int} (k:3≤kd b ps ws c i):c.length=ws.length∧(∀ u∈c,alone (ps.length:Int) u=true)∧0≤i∧i < (nL b ps ws:Int):=by
 by_cases h:c.length=ws.length
 ·by_cases h2:c.all (alone (ps.length:Int))=true
  ·by_cases h3:0≤i∧i < (nL b ps ws:Int)
   ·exact ⟨h,List.all_eq_true.mp h2,h3⟩
   ·rw [a6P h (List.all_eq_true.mp h2) h3] at k
    split at k <;> omega
  ·unfold kd at k
   rw [if_pos h,if_neg h2] at k
   omega
 ·rw [b0X h] at k
  omega
theorem kd_le {b:Bool} {ps ws:List Int} {c:CT.a0z} {i:Int}:kd b ps ws c i≤4:=by
 unfold kd
 repeat' split
 all_goals omega
def Rf (CU CB CV:Addr) (H:Hp) (E:Value→Option Addr→Hp→Prop) (k:Nat):Prop:=(k=0→∀ H',a0x H H'→E (.ref CU) none H')∧(k=1→∀ H',a0x H H'→E (.ref CB) none H')∧(k=2→∀ H',a0x H H'→E (.ref CV) none H')
theorem rf_no {CU CB CV:Addr} {H:Hp} {E:Value→Option Addr→Hp→Prop} {k:Nat} (h:3≤k):Rf CU CB CV H E k:=⟨fun z=>by omega,fun z=>by omega,fun z=>by omega⟩
theorem Rf.same {CU CB CV:Addr} {H H':Hp} {E:Value→Option Addr→Hp→Prop} {k:Nat} (r:Rf CU CB CV H E k) (s:a0x H H'):Rf CU CB CV H' E k:=⟨fun z H2 s2=>r.1 z H2 (s.trans s2),fun z H2 s2=>r.2.1 z H2 (s.trans s2),fun z H2 s2=>r.2.2 z H2 (s.trans s2)⟩
def In (i:Int) (ns:List Int):Prop:=0≤i∧i < (ns.length:Int)
section
variable {P':Program} {w:World} {K:PySem.W.Frag} {mg:Str→Option Value} {base:Heap} {f:Addr} {fd:FuncData}
def spIs:Sp:=fun vs H Q _=>∃ n:Int,vs=[.int n]∧1≤n∧n≤B30∧Q (.bl true) H
theorem scIs:a0n ["number"] ["number"] (a0b sIs):=⟨rfl,rfl,rfl,by decide +kernel,rfl,by decide +kernel,by decide +kernel⟩
theorem ok_is (F:Fun K "is_amount" "is_amount" sIs f fd):a0O P' w K mg base CX0 1 f fd ["number"] spIs:=by
 refine F.ok (k:=0) scIs (fun vs H Q E h=>?_) (fun cdv A outer s H vs Q E hr h=>?_)
 ·obtain ⟨n,rfl,_⟩:=h
  rfl
 obtain ⟨n,rfl,n1,n2,q⟩:=h
 refine ⟨_,a0h (a0r (a6l a6T a6T a0g (pv 0) (a0p a3Q a0g a0g))),?_⟩
 refine ⟨_,rfl,_,_,rfl,rfl,_,rfl,?_⟩
 rw [decide_eq_true n1]
 refine b2g ⟨_,_,rfl,rfl,⟨by decide,by decide,by decide⟩,_,_,rfl,rfl,?_⟩
 have e:decide (n≤(10:Int) ^ (30:Int).toNat)=true:=decide_eq_true (by rw [e30];exact n2)
 show Q (.bl (decide (n≤(10:Int) ^ (30:Int).toNat))) H
 rw [e]
 exact q
def a5t (C:Addr):Sp:=fun vs H Q E=>∃ (p:Addr) (ns:List Int) (i:Int),vs=[.ref p,.int i]∧TW H p ns∧(In i ns→Q .non H)∧(¬ In i ns→E (.ref C) none H)
theorem scRL:a0n ["prices","letter"] ["prices","letter"] (a0b sRL):=⟨rfl,rfl,rfl,by decide +kernel,rfl,by decide +kernel,by decide +kernel⟩
theorem scRT:a0n ["weights","thing"] ["weights","thing"] (a0b sRT):=⟨rfl,rfl,rfl,by decide +kernel,rfl,by decide +kernel,by decide +kernel⟩
theorem ok_RL {C:Addr} (F:Fun K "refuse_letter" "refuse_letter" sRL f fd) (ml:mg "len"=none) (mC:mg "BadWord"=some (.ref C)) (eC:Ecl K C):a0O P' w K mg base (CXF P' w) 1 f fd ["prices","letter"] (a5t C):=by
 refine F.okF (k:=0) scRL (fun vs H Q E h=>?_) (fun cdv A outer s H vs Q E hr h=>?_)
 ·obtain ⟨p,ns,i,rfl,_⟩:=h
  rfl
 obtain ⟨p,ns,i,rfl,hp,q1,q2⟩:=h
 refine ⟨_,a0h (a1e (a4O (a6m a6T a4o a0g (pv 1) (a0o a0i (by rfl) ml PySem.boot_len (a0a (pv 0) a0d)))) (a0h (a2C a0A rfl (by rfl) mC eC (a0a a1o a0d))) a0D),?_⟩
 refine ⟨_,rfl,_,_,rfl,rfl,_,rfl,?_⟩
 refine a1C (fun c=>?_) (fun c=>?_)
 ·refine ⟨_,rfl,p,_,rfl,.inr (SqT.of hp),_,_,rfl,rfl,_,rfl,?_⟩
  rw [List.length_map]
  refine a1C (fun d=>?_) (fun d=>?_)
  ·exact ⟨by decide,q2 fun z=>by rw [decide_eq_true z.2] at d;cases d⟩
  ·exact q1 ⟨of_decide_eq_true c,by
    cases hb:decide (i < (ns.length:Int)) with
    | true=>exact of_decide_eq_true hb
    | false=>rw [hb] at d;exact absurd rfl d⟩
 ·exact ⟨_,rfl,b2g ⟨by decide,q2 fun z=>c (decide_eq_true z.1)⟩⟩
theorem ok_RT {C:Addr} (F:Fun K "refuse_thing" "refuse_thing" sRT f fd) (ml:mg "len"=none) (mC:mg "NoThing"=some (.ref C)) (eC:Ecl K C):a0O P' w K mg base (CXF P' w) 1 f fd ["weights","thing"] (a5t C):=by
 refine F.okF (k:=0) scRT (fun vs H Q E h=>?_) (fun cdv A outer s H vs Q E hr h=>?_)
 ·obtain ⟨p,ns,i,rfl,_⟩:=h
  rfl
 obtain ⟨p,ns,i,rfl,hp,q1,q2⟩:=h
 refine ⟨_,a0h (a1e (a4O (a6m a6T a4o a0g (pv 1) (a0o a0i (by rfl) ml PySem.boot_len (a0a (pv 0) a0d)))) (a0h (a2C a0A rfl (by rfl) mC eC (a0a a1o a0d))) a0D),?_⟩
 refine ⟨_,rfl,_,_,rfl,rfl,_,rfl,?_⟩
 refine a1C (fun c=>?_) (fun c=>?_)
 ·refine ⟨_,rfl,p,_,rfl,.inr (SqT.of hp),_,_,rfl,rfl,_,rfl,?_⟩
  rw [List.length_map]
  refine a1C (fun d=>?_) (fun d=>?_)
  ·exact ⟨by decide,q2 fun z=>by rw [decide_eq_true z.2] at d;cases d⟩
  ·exact q1 ⟨of_decide_eq_true c,by
    cases hb:decide (i < (ns.length:Int)) with
    | true=>exact of_decide_eq_true hb
    | false=>rw [hb] at d;exact absurd rfl d⟩
 ·exact ⟨_,rfl,b2g ⟨by decide,q2 fun z=>c (decide_eq_true z.1)⟩⟩
def a9B:Sp:=fun vs H Q _=>∃ (p:Addr) (ns:List Int) (l:Nat) (n:Int),vs=[.ref p,.int (l:Int),.int n]∧TW H p ns∧ns.length≤900∧l < ns.length∧1≤n∧n≤B30∧∀ p' H',a0x H H'→TW H' p' (pm ns l n)→Q (.ref p') H'
theorem scWN:a0n ["numbers","at","number"] ["numbers","at","number"] (a0b sWN):=⟨rfl,rfl,rfl,by decide +kernel,rfl,by decide +kernel,by decide +kernel⟩
theorem ok_WN (F:Fun K "with_number" "with_number" sWN f fd) (G:Fns P' w K mg base ["number"] "is_amount" spIs 1):a0O P' w K mg base CX0 2 f fd ["numbers","at","number"] a9B:=by
 refine F.ok (k:=1) scWN (fun vs H Q E h=>?_) (fun cdv A outer s H vs Q E hr h=>?_)
 ·obtain ⟨p,ns,l,n,rfl,_⟩:=h
  rfl
 obtain ⟨p,ns,l,n,rfl,hp,l9,hl,n1,n2,q⟩:=h
 refine ⟨_,a0f (a1e (a4O (a3P (a0l G.ok hr (by rfl) G.m G.kp G.b .nil a0C (a0a (pv 2) a0d)))) (a0h ps_nv) a0D)
  (a0h (a0r (a0p a2J (a0p a2J (a4s a5G (pv 0) a5z (a5A (pv 1))) (a1h (a0a (pv 2) a0d))) (a4s a5G (pv 0) (a5A (a0p a0I (pv 1) a0g)) a5z)))),?_⟩
 refine ⟨_,rfl,n,rfl,n1,n2,_,rfl,iteF ?_⟩
 refine ⟨_,rfl,_,rfl,_,rfl,p,_,rfl,hp,fun p1 H1 s1 hp1=>?_⟩
 rw [b1l,←List.map_take] at hp1
 refine ⟨_,rfl,(by show 1≤sizeLine;decide),fun p2 hp2=>?_⟩
 have s2:=a0e hp2 (.tup [.int n])
 refine ⟨p1,p2,_,_,rfl,rfl,s2 _ _ hp1,a0c,?_,fun p3 H3 s3 hp3=>?_⟩
 ·rw [List.length_map,List.length_take];exact Nat.le_of_lt (a0s (by show min _ _+1≤1000;omega))
 refine ⟨_,rfl,_,rfl,_,_,rfl,rfl,_,rfl,p,_,rfl,s3 _ _ (s2 _ _ (s1 _ _ hp)),fun p4 H4 s4 hp4=>?_⟩
 rw [show ((l:Int)+1)=((l+1:Nat):Int) by push_cast;rfl,a9T,←List.map_drop] at hp4
 refine ⟨p3,p4,_,_,rfl,rfl,s4 _ _ hp3,hp4,?_,fun p5 H5 s5 hp5=>?_⟩
 ·rw [List.length_append,List.length_map,List.length_map,List.length_take,List.length_drop];exact Nat.le_of_lt (a0s (by show min _ _+1+_≤1000;omega))
 refine q p5 H5 ((((s1.trans s2).trans s3).trans s4).trans s5) ?_
 show H5 p5=_
 rw [hp5]
 unfold pm
 rw [List.map_append,List.map_append]
 rfl
theorem scPM:a0n ["prices","letter","number"] ["prices","letter","number"] (a0b sPM):=⟨rfl,rfl,rfl,by decide +kernel,rfl,by decide +kernel,by decide +kernel⟩
theorem ok_PM (F:Fun K "price_moved" "price_moved" sPM f fd) {C:Addr} (GR:a1D P' w K mg base ["prices","letter"] "refuse_letter" (a5t C) 2) (GW:Fns P' w K mg base ["numbers","at","number"] "with_number" a9B 2):a0O P' w K mg base CX0 3 f fd ["prices","letter","number"] a9B:=by
 refine F.ok (k:=2) scPM (fun vs H Q E h=>?_) (fun cdv A outer s H vs Q E hr h=>?_)
 ·obtain ⟨p,ns,l,n,rfl,_⟩:=h
  rfl
 obtain ⟨p,ns,l,n,rfl,hp,l9,hl,n1,n2,q⟩:=h
 refine ⟨_,a0f (a1c (a0l GR.ok hr (by rfl) GR.m GR.kp GR.b .nil a5M (a0a (pv 0) (a0a (pv 1) a0d))))
  (a0h (a0r (a0l GW.ok hr (by rfl) GW.m GW.kp GW.b .nil a0C (a0a (pv 0) (a0a (pv 1) (a0a (pv 2) a0d)))))),?_⟩
 exact ⟨_,rfl,_,rfl,p,ns,(l:Int),rfl,hp,fun _=>⟨_,rfl,_,rfl,_,rfl,p,ns,l,n,rfl,hp,l9,hl,n1,n2,q⟩,fun z=>absurd ⟨by omega,by omega⟩ z⟩
theorem scWM:a0n ["weights","thing","number"] ["weights","thing","number"] (a0b sWM):=⟨rfl,rfl,rfl,by decide +kernel,rfl,by decide +kernel,by decide +kernel⟩
theorem ok_WM (F:Fun K "weight_moved" "weight_moved" sWM f fd) {C:Addr} (GR:a1D P' w K mg base ["weights","thing"] "refuse_thing" (a5t C) 2) (GW:Fns P' w K mg base ["numbers","at","number"] "with_number" a9B 2):a0O P' w K mg base CX0 3 f fd ["weights","thing","number"] a9B:=by
 refine F.ok (k:=2) scWM (fun vs H Q E h=>?_) (fun cdv A outer s H vs Q E hr h=>?_)
 ·obtain ⟨p,ns,l,n,rfl,_⟩:=h
  rfl
 obtain ⟨p,ns,l,n,rfl,hp,l9,hl,n1,n2,q⟩:=h
 refine ⟨_,a0f (a1c (a0l GR.ok hr (by rfl) GR.m GR.kp GR.b .nil a5M (a0a (pv 0) (a0a (pv 1) a0d))))
  (a0h (a0r (a0l GW.ok hr (by rfl) GW.m GW.kp GW.b .nil a0C (a0a (pv 0) (a0a (pv 1) (a0a (pv 2) a0d)))))),?_⟩
 exact ⟨_,rfl,_,rfl,p,ns,(l:Int),rfl,hp,fun _=>⟨_,rfl,_,rfl,_,rfl,p,ns,l,n,rfl,hp,l9,hl,n1,n2,q⟩,fun z=>absurd ⟨by omega,by omega⟩ z⟩
structure Cd (H:Hp) (p wa c:Addr) (ps ws:List Int) (nss:CT.a0z):Prop where
 hp:TW H p ps
 hw:TW H wa ws
 hc:∃ xs,H c=some (.tup xs)∧Ws H xs nss
 ln:nss.length=ws.length
 l1:nss.length≤100
 l2:∀ ns∈nss,Lt ps.length ns∧ns.length≤1000
 bp:Bw ps
 bw:Bw ws
theorem Cd.same {H H':Hp} {p wa c:Addr} {ps ws:List Int} {nss:CT.a0z} (x:Cd H p wa c ps ws nss) (s:a0x H H'):Cd H' p wa c ps ws nss:=by
 obtain ⟨xs,h1,h2⟩:=x.hc
 exact ⟨s _ _ x.hp,s _ _ x.hw,⟨xs,s _ _ h1,Ws.same s h2⟩,x.ln,x.l1,x.l2,x.bp,x.bw⟩
structure Cg (H:Hp) (p wa c:Addr) (ps ws:List Int) (nss:CT.a0z):Prop where
 hp:TW H p ps
 hw:TW H wa ws
 hc:∃ xs,H c=some (.tup xs)∧Ws H xs nss
 l1:nss.length≤100
 l2:∀ ns∈nss,ns.length≤1000
 bp:Bw ps
 bw:Bw ws
theorem Cg.same {H H':Hp} {p wa c:Addr} {ps ws:List Int} {nss:CT.a0z} (x:Cg H p wa c ps ws nss) (s:a0x H H'):Cg H' p wa c ps ws nss:=by
 obtain ⟨xs,h1,h2⟩:=x.hc
 exact ⟨s _ _ x.hp,s _ _ x.hw,⟨xs,s _ _ h1,Ws.same s h2⟩,x.l1,x.l2,x.bp,x.bw⟩
theorem Cd.cg {H:Hp} {p wa c:Addr} {ps ws:List Int} {nss:CT.a0z} (x:Cd H p wa c ps ws nss):Cg H p wa c ps ws nss:=⟨x.hp,x.hw,x.hc,x.l1,fun u hu=>(x.l2 u hu).2,x.bp,x.bw⟩
theorem Cd.al {H:Hp} {p wa c:Addr} {ps ws:List Int} {nss:CT.a0z} (x:Cd H p wa c ps ws nss):∀ u∈nss,alone (ps.length:Int) u=true:=fun u hu=>a5p.mpr (x.l2 u hu).1
theorem Cg.cd {H:Hp} {p wa c:Addr} {ps ws:List Int} {nss:CT.a0z} (x:Cg H p wa c ps ws nss) (el:nss.length=ws.length) (al:∀ u∈nss,alone (ps.length:Int) u=true):Cd H p wa c ps ws nss:=⟨x.hp,x.hw,x.hc,el,x.l1,fun u hu=>⟨a3h (al u hu),x.l2 u hu⟩,x.bp,x.bw⟩
abbrev NPS:List Str:=["prices","weights","code","letter"]
abbrev NWS:List Str:=["prices","weights","code","thing"]
def b3A (b:Bool) (CU CB CV:Addr):Sp:=fun vs H Q E=>∃ (p wa c:Addr) (ps ws:List Int) (nss:CT.a0z) (i:Int) (l:Nat),vs=[.ref p,.ref wa,.ref c,.int i]∧l=i.toNat∧Cg H p wa c ps ws nss∧Rf CU CB CV H E (kd b ps ws nss i)∧(3≤kd b ps ws nss i→∀ H',a0x H H'→Q (.int (sR b ps ws l nss)) H')
theorem scPS:a0n NPS NPS (a0b sPS):=⟨rfl,rfl,rfl,by decide +kernel,rfl,by decide +kernel,by decide +kernel⟩
theorem scWS:a0n NWS NWS (a0b sWS):=⟨rfl,rfl,rfl,by decide +kernel,rfl,by decide +kernel,by decide +kernel⟩
theorem ndPS:(("weight":Str) :: "word" :: NPS).Nodup:=by decide +kernel
theorem b3e {ws:List Int} {nss:List (List Int)} {i:Nat} {x j:Int} {ns:List Int} (h1:ws[i]?=some x) (h2:nss[i]?=some ns):(List.zipWith (fun x ns=>x * ((List.count j ns:Nat):Int)) ws nss)[i]?=some (x * ((List.count j ns:Nat):Int)):=by
 rw [List.getElem?_zipWith,h1,h2]
theorem ok_ps {CU CB CV:Addr} (F:Fun K "price_share" "price_share" sPS f fd) (GC:a1D P' w K mg base PCo "cost" (a2T CU CB) 3) (GR:a1D P' w K mg base ["prices","letter"] "refuse_letter" (a5t CB) 3) (ms:mg "sum"=none) (mz:mg "zip"=none):a0O P' w K mg base (CXF P' w) 4 f fd NPS (b3A true CU CB CV):=by
 refine F.okF (k:=3) scPS (fun vs H Q E h=>?_) (fun cdv A outer s H vs Q E hr h=>?_)
 ·obtain ⟨p,wa,c,ps,ws,nss,i,l,rfl,_⟩:=h
  rfl
 obtain ⟨p,wa,c,ps,ws,nss,i,l,rfl,hl,cd,⟨r0,r1,r2⟩,out⟩:=h
 obtain ⟨hp,hw,⟨xs,hc,hx⟩,l1,l2,bp,bw⟩:=cd
 have lx:xs.length=nss.length:=hx.length
 refine ⟨_,a0f (a1c (a0l GC.ok hr (by rfl) GC.m GC.kp GC.b .nil a0A (a0a (pv 0) (a0a (pv 1) (a0a (pv 2) a0d)))))
  (a0f (a1c (a0l GR.ok hr (by rfl) GR.m GR.kp GR.b .nil a0A (a0a (pv 0) (a0a (pv 3) a0d))))
  (a0h (a0r (a0o (a2z rfl) (by rfl) ms a8i (a0a (a3d K true true (M:=NPS) rfl (a0q.of (a0b sPS) NPS rfl rfl rfl (by decide +kernel) (by decide +kernel) (by decide +kernel) rfl (by decide +kernel)) ndPS rfl rfl (by rfl) mz (a0a (pv 1) (a0a (pv 2) a0d)) (a0T a0V (a0T a0V a1B))
   (fun cl C s0 H0 fp pins σ bk=>⟨a0X,a0p a2L (pv 0) (pe_bmT PySem.F.slot_tuple_count PySem.F.type_tuple_count a8K (pv 1) (a0a (pv 5) a0d))⟩)) a0d))))),?_⟩
 refine ⟨_,rfl,_,rfl,_,rfl,p,wa,c,ps,ws,xs,nss,rfl,hp,hw,hc,hx,l1,l2,bp,bw,fun ne H' s=>?_,fun el al H1 s1=>?_,fun el bad H' s=>?_⟩
 ·exact r0 (b0X ne) H' s
 ·refine ⟨_,rfl,_,rfl,p,ps,i,rfl,s1 _ _ hp,fun hin=>?_,fun hno=>?_⟩
  ·have out:=out (kd_3 el al hin)
   have el2:((l:Nat):Int)=i:=by have:=hin.1;omega
   have hw1:TW H1 wa ws:=s1 _ _ hw
   have hc1:=s1 _ _ hc
   have hx1:=Ws.same s1 hx
   refine ⟨_,rfl,_,rfl,wa,c,_,_,rfl,SqT.of hw1,SqT.of hc1,by rw [List.length_map];omega,fun d hd=>?_⟩
   refine ⟨fun k H'=>a0x H1 H'∧H' d=some (.lst (((List.zipWith (fun x ns=>x * ((List.count i ns:Nat):Int)) ws nss).take k).map V.int)),⟨a0e hd _,a0c⟩,
    fun k H' _ hP=>⟨SqT.of (hP.1 _ _ hw1),SqT.of (hP.1 _ _ hc1)⟩,fun k x y pp H' hx' hy' hP hpp=>?_,fun H' hP=>?_⟩
   ·obtain ⟨sm,hd'⟩:=hP
    rw [List.getElem?_map] at hx'
    obtain ⟨wt,hz,rfl⟩:=Option.map_eq_some_iff.mp hx'
    obtain ⟨ns,hn,ry⟩:=Paired.right_of hx1 k y hy'
    obtain ⟨ya,rfl,hya⟩:=Wd.ti ry
    have iw:=(List.getElem?_eq_some_iff.mp hz).1
    have s2:=a0e hpp (.tup [.int wt,.ref ya])
    have hya2:=s2 _ _ (sm _ _ hya)
    obtain ⟨b3,b4⟩:=bw wt (List.mem_of_getElem? hz)
    have b5:=l2 ns (List.mem_of_getElem? hn)
    have b6:List.count i ns≤ns.length:=List.count_le_length
    refine a3r ⟨_,rfl,_,rfl,⟨ya,_,rfl,hya2⟩,_,rfl,ya,ns,i,rfl,rfl,hya2,_,_,rfl,rfl,⟨⟨b3,by unfold B30 at *;omega⟩,⟨by omega,by unfold B30 at *;omega⟩⟩,_,s2 _ _ hd',?_,a0v hd (sm.trans s2),?_⟩
    ·rw [List.length_map,List.length_take,List.length_zipWith];exact a0s (by omega)
    ·rw [a0c,List.take_add_one,b3e hz hn,List.map_append];rfl
   ·obtain ⟨sm,hd'⟩:=hP
    rw [List.length_map] at hd'
    rw [List.take_of_length_le (by rw [List.length_zipWith];omega)] at hd'
    refine ⟨d,_,rfl,hd',?_⟩
    have:=out H' (s1.trans sm)
    rw [show sR true ps ws l nss=sh ws ((l:Nat):Int) nss from rfl,el2] at this
    exact this
  ·exact r1 (a6P el al hno) H1 s1
 ·exact r1 (a9r el bad) H' s
theorem ok_ws {CU CB CV:Addr} (F:Fun K "weight_share" "weight_share" sWS f fd) (GC:a1D P' w K mg base PCo "cost" (a2T CU CB) 3) (GR:a1D P' w K mg base ["weights","thing"] "refuse_thing" (a5t CV) 3) (GP:a1D P' w K mg base ["prices","word"] "word_price" (a2f CB) 3):a0O P' w K mg base (CXF P' w) 4 f fd NWS (b3A false CU CB CV):=by
 refine F.okF (k:=3) scWS (fun vs H Q E h=>?_) (fun cdv A outer s H vs Q E hr h=>?_)
 ·obtain ⟨p,wa,c,ps,ws,nss,i,l,rfl,_⟩:=h
  rfl
 obtain ⟨p,wa,c,ps,ws,nss,i,l,rfl,hl,cd,⟨r0,r1,r2⟩,out⟩:=h
 obtain ⟨hp,hw,⟨xs,hc,hx⟩,l1,l2,bp,bw⟩:=cd
 refine ⟨_,a0f (a1c (a0l GC.ok hr (by rfl) GC.m GC.kp GC.b .nil a0A (a0a (pv 0) (a0a (pv 1) (a0a (pv 2) a0d)))))
  (a0f (a1c (a0l GR.ok hr (by rfl) GR.m GR.kp GR.b .nil a0A (a0a (pv 1) (a0a (pv 3) a0d))))
  (a0h (a0r (a0l GP.ok hr (by rfl) GP.m GP.kp GP.b .nil a0A (a0a (pv 0) (a0a (a0y a1a (pv 2) (pv 3) (fun _ _=>rfl)) a0d)))))),?_⟩
 refine ⟨_,rfl,_,rfl,_,rfl,p,wa,c,ps,ws,xs,nss,rfl,hp,hw,hc,hx,l1,l2,bp,bw,fun ne H' s=>?_,fun el al H1 s1=>?_,fun el bad H' s=>?_⟩
 ·exact r0 (b0X ne) H' s
 ·refine ⟨_,rfl,_,rfl,wa,ws,i,rfl,s1 _ _ hw,fun hin=>?_,fun hno=>?_⟩
  ·have out2:=out (kd_3 el al hin)
   obtain ⟨i0,i1⟩:=hin
   obtain ⟨k,rfl⟩:∃ k:Nat,i=(k:Int):=⟨i.toNat,by omega⟩
   have e2:l=k:=by omega
   subst e2
   have hk:l < nss.length:=by omega
   have hn:nss[l]?=some (nss[l]'hk):=List.getElem?_eq_getElem hk
   obtain ⟨x,hxk,rx⟩:=Paired.left_of hx l _ hn
   obtain ⟨ya,rfl,hya⟩:=Wd.ti rx
   have eg:sR false ps ws l nss=CT.pc ps (nss[l]'hk):=by show CT.pc ps (nss.getD l [])=_;rw [List.getD_eq_getElem?_getD,hn];rfl
   rw [eg] at out2
   have xk:l < xs.length:=(List.getElem?_eq_some_iff.mp hxk).1
   refine ⟨_,rfl,_,rfl,_,rfl,c,xs,(l:Int),.ref ya,rfl,rfl,SqT.of (s1 _ _ hc),?_,.ref p,.ref ya,ps,nss[l]'hk,rfl,Wd.of (s1 _ _ hp),Wd.of (s1 _ _ hya),l2 _ (List.getElem_mem hk),fun _ H' s'=>out2 H' (s1.trans s'),fun ba=>?_⟩
   ·exact a1T hxk
   ·rw [al _ (List.getElem_mem hk)] at ba;cases ba
  ·exact r2 (a6P el al hno) H1 s1
 ·exact r1 (a9r el bad) H' s
end
end Q
end K66
namespace K66
open PySem L2
namespace Q
def Mn (ps ws:List Int) (c:CT.a0z):Prop:=c∈CT.Cs ps.length ws.length∧∀ d∈CT.Cs ps.length ws.length,CT.co ps ws 0 c≤CT.co ps ws 0 d
theorem mi_F {ps ws:List Int} {h t:Nat→Nat→Nat→OI} {F:Nat→Nat→OI} (T:CT.Tb ps.length ws.length h t F (pl ps) (Wt ws)) (hn:1≤ws.length):CT.mi ((CT.Cs ps.length ws.length).map (CT.co ps ws 0))=F 0 ws.length:=by
 have:=(CT.least T CT.en ws.length ws.length 0 (Nat.le_refl _) hn (by omega)).1
 rw [Nat.zero_add] at this
 exact this
theorem b1G {H:Hp} {a ca d:Addr} {ra:Nat→Addr} {ps ws:List Int} {h t:Nat→Nat→Nat→OI} {F:Nat→Nat→OI} {c:CT.a0z} (f:Fnd H a ca d ra ps ws h t F c) (hL:0 < ps.length) (hn:1≤ws.length):Mn ps ws c:=by
 have i1:=(kc_in f.T hL f.ok.k).2 (Nat.le_refl _)
 rw [Nat.sub_zero] at i1
 have e:=(b3a f.T hL f.ok.k).2.2.2 (Nat.le_refl _)
 refine ⟨i1,fun d hd=>?_⟩
 rw [←mi_F f.T hn] at e
 exact (CT.a1M.mp e.symm).2 _ (List.mem_map_of_mem hd)
theorem mn_chp {ps ws:List Int} {c:CT.a0z} (h:c∈chp ps ws):Mn ps ws c:=by
 unfold chp at h
 obtain ⟨h1,h2⟩:=List.mem_filter.mp h
 have e:=of_decide_eq_true h2
 exact ⟨h1,fun d hd=>(CT.a1M.mp e.symm).2 _ (List.mem_map_of_mem hd)⟩
section
variable {P':Program} {w:World} {K:PySem.W.Frag} {mg:Str→Option Value} {base:Heap} {f:Addr} {fd:FuncData}
def b3f:Sp:=fun vs H Q _=>∃ (p q:Addr) (ps ws:List Int),vs=[.ref p,.ref q]∧TW H p ps∧TW H q ws∧Num ps ws∧Po ps∧Po ws ∧
 ∀ (d:Addr) (ra:Nat→Addr) h t F H',a0x H H'→FlO H' d ra ws.length F→CT.Tb ps.length ws.length h t F (pl ps) (Wt ws)→Q (.ref d) H'
theorem ok_lf2 {C:Addr} (F:Fun K "least_floors" "least_floors" sLf f fd) (G:Fns P' w K mg base ["prices","weights"] "parted_least" (spPl C) 5) (M:Mt P' w K mg base C "bounds" ["self"] (a3f C) 5) (rc:PC K C):a0O P' w K mg base CX0 6 f fd ["prices","weights"] b3f:=by
 refine F.ok (k:=5) scLf (fun vs H Q E h=>?_) (fun cdv A outer s H vs Q E hr h=>?_)
 ·obtain ⟨p,q,ps,ws,rfl,_⟩:=h
  rfl
 obtain ⟨p,q,ps,ws,rfl,hp,hq,nu,pp,pw,qq⟩:=h
 refine ⟨_,a0h (a0r (a2y (a0l G.ok hr (by rfl) G.m G.kp G.b .nil a0C (a0a (pv 0) (a0a (pv 1) a0d))) rc.c M.m M.ok hr M.b .nil a0C)),?_⟩
 refine ⟨_,rfl,_,rfl,p,q,ps,ws,rfl,hp,hq,nu,fun r X h t F H1 s1 pa fn=>?_⟩
 obtain ⟨dx,ho⟩:=pa.ob
 refine ⟨r,dx,_,rfl,ho,rfl,r,p,ps,ws,X,h,t,rfl,pa,nu.w20,nu.p10,fun d ra H2 s2 hd h1 h2 h3 h4 h5=>?_⟩
 refine qq d ra h t F H2 (s1.trans s2) ⟨h4,fun i hi=>?_⟩ (fn.tb nu.p2 pp pw)
 rw [h5 i hi,List.map_map]
 refine congrArg (fun z=>some (HO.lst z)) (List.map_congr_left fun b hb=>?_)
 have:=List.mem_range.mp hb
 show oV (bnd ps.length h t i (i+b+1))=oV (F i (i+b+1))
 rw [fn.bd i (i+b+1) (by omega) (by omega) trivial]
theorem b3g {c:CT.a0z}:Kadj c↔CT.KP c:=by
 constructor
 ·intro h
  refine List.pairwise_iff_getElem.mpr fun i j hi hj hij=>?_
  have:=a9p h (j - i - 1) i c[i] c[j] (List.getElem?_eq_getElem hi) (by rw [show i+(j - i - 1)+1=j by omega];exact List.getElem?_eq_getElem hj)
  exact this
 ·intro h k u v' hu hv
  obtain ⟨hi,rfl⟩:=List.getElem?_eq_some_iff.mp hu
  obtain ⟨hj,rfl⟩:=List.getElem?_eq_some_iff.mp hv
  exact List.pairwise_iff_getElem.mp h k (k+1) hi hj (by omega)
def b3h:Sp:=fun vs H Q _=>∃ (p wa c:Addr) (ps ws:List Int) (nss:CT.a0z),vs=[.ref p,.ref wa,.ref c]∧Cg H p wa c ps ws nss∧Num ps ws∧Po ps∧Po ws∧nss.length=ws.length∧(∀ u∈nss,alone (ps.length:Int) u=true)∧∀ H' b,a0x H H'→(b=true↔nss∈chp ps ws)→Q (.bl b) H'
theorem scIck:a0n PCo PCo (a0b b3t):=⟨rfl,rfl,rfl,by decide +kernel,rfl,by decide +kernel,by decide +kernel⟩
theorem ok_ick {CU CB:Addr} (F:Fun K "is_cheapest_kept" "is_cheapest_kept" b3t f fd) (GC:a1D P' w K mg base PCo "cost" (a2T CU CB) 6) (GL:Fns P' w K mg base ["prices","weights"] "least_floors" b3f 6) (GK:Fns P' w K mg base ["code"] "is_kept" a9q 6):a0O P' w K mg base CX0 7 f fd PCo b3h:=by
 refine F.ok (k:=6) scIck (fun vs H Q E h=>?_) (fun cdv A outer s H vs Q E hr h=>?_)
 ·obtain ⟨p,wa,c,ps,ws,nss,rfl,_⟩:=h
  rfl
 obtain ⟨p,wa,c,ps,ws,nss,rfl,cd,nu,pp,pw,el,al,q⟩:=h
 obtain ⟨hp,hw,⟨xs,hc,hx⟩,l1,l2,bp,bw⟩:=cd
 refine ⟨_,a0h (a0r (b1e (a2n a1G (a0l GC.ok hr (by rfl) GC.m GC.kp GC.b .nil a5M (a0a (pv 0) (a0a (pv 1) (a0a (pv 2) a0d)))) (a0y a0w (a0y a0w (a0l GL.ok hr (by rfl) GL.m GL.kp GL.b .nil a0C (a0a (pv 0) (a0a (pv 1) a0d))) a0g (fun _ _=>rfl)) (a2x a1z a0g) (fun _ _=>rfl)) (nomark _)) (b1d (a0l GK.ok hr (by rfl) GK.m GK.kp GK.b .nil a0C (a0a (pv 2) a0d))))),?_⟩
 have n1:=nu.w1
 refine ⟨_,rfl,_,rfl,_,rfl,p,wa,c,ps,ws,xs,nss,rfl,hp,hw,hc,hx,l1,l2,bp,bw,fun ne=>absurd el ne,fun _ _ H1 s1=>?_,fun _ bad=>?_⟩
 ·refine ⟨_,rfl,_,rfl,p,wa,ps,ws,rfl,s1 _ _ hp,s1 _ _ hw,nu,pp,pw,fun d ra h t F H2 s2 fl T=>?_⟩
  have s12:=s1.trans s2
  refine ⟨d,_,_,_,rfl,rfl,SqL.of fl.o,a0Y (k:=0) (by omega),_,rfl,ra 0,_,_,_,rfl,rfl,SqL.of (fl.r 0 (by omega)),last_O n1,b1w (some _) (F 0 ws.length),_,rfl,?_⟩
  have il:CT.InL ps.length nss:=fun u hu=>a3h (al u hu)
  have key:=CT.b0R T pp pw n1 el il
  have ee:(V.int (CT.co ps ws 0 nss)=oV (F 0 ws.length))↔some (CT.co ps ws 0 nss)=F 0 ws.length:=⟨fun z=>b1x (a:=some (CT.co ps ws 0 nss)) z,fun z=>congrArg oV z⟩
  refine a1C (fun y=>?_) (fun y=>?_)
  ·have y1:=ee.mp (of_decide_eq_true y)
   refine ⟨_,rfl,c,xs,nss,rfl,s12 _ _ hc,Ws.same s12 hx,l1,fun H3 b s3 hb=>q H3 b (s12.trans s3) ?_⟩
   rw [hb,b3g]
   exact ⟨fun z=>key.mp ⟨z,y1⟩,fun z=>(key.mpr z).1⟩
  ·refine q H2 _ s12 ⟨(fun z=>by first | cases z | exact absurd z y),fun z=>absurd (decide_eq_true (ee.mpr (key.mpr z).2)) y⟩
 ·obtain ⟨u,hu,e⟩:=bad
  rw [al u hu] at e
  cases e
structure Mt' (P:Program) (w:World) (K:PySem.W.Frag) (mg:Str→Option Value) (base:Heap) (C:Addr) (name:Str) (ps:List Str) (sp:Sp) (k:Nat) where
 f:Addr
 fd:FuncData
 m:Meth K C name f
 ok:a0O P w K mg base (CXF P w) k f fd ps sp
 b:a1E K fd ps []
def Mt'.up {P:Program} {w:World} {K:PySem.W.Frag} {mg:Str→Option Value} {base:Heap} {C:Addr} {name:Str} {ps:List Str} {sp:Sp} {j k:Nat} (f:Mt' P w K mg base C name ps sp j) (h:j≤k):Mt' P w K mg base C name ps sp k:=⟨f.f,f.fd,f.m,f.ok.mono h,f.b⟩
structure MC (b:Bool) (K:PySem.W.Frag) (M:Addr):Prop where
 c:Cls K M
 np:a1v K M "prices"
 nw:a1v K M "weights"
 nl:a1v K M (fN b)
abbrev mf1 (p:Addr):List (Str × V):=[("prices",.ref p)]
abbrev mf2 (p wa:Addr):List (Str × V):=[("prices",.ref p),("weights",.ref wa)]
abbrev mf (b:Bool) (p wa:Addr) (l:Int):List (Str × V):=[("prices",.ref p),("weights",.ref wa),(fN b,.int l)]
abbrev PMi (b:Bool):List Str:=["self","prices","weights",fN b]
def a6e (b:Bool) (M:Addr):Sp:=fun vs H Q _=>∃ (r dx p wa:Addr) (l:Int),vs=[.ref r,.ref p,.ref wa,.int l]∧H r=some (.ins M dx [])∧∀ H',(∀ a o,a≠r→H a=some o→H' a=some o)→H' r=some (.ins M dx (mf b p wa l))→Q .non H'
theorem scMiP:a0n (PMi true) (PMi true) (a0b iPm):=⟨rfl,rfl,rfl,by decide +kernel,rfl,by decide +kernel,by decide +kernel⟩
theorem a9t {M:Addr} (F:Fun K "__init__" "PriceMove.__init__" iPm f fd) (rc:MC true K M):a0O P' w K mg base CX0 1 f fd (PMi true) (a6e true M):=by
 refine F.ok (k:=0) scMiP (fun vs H Q E h=>?_) (fun cdv A outer s H vs Q E' hr h=>?_)
 ·obtain ⟨r,dx,p,wa,l,rfl,_⟩:=h
  rfl
 obtain ⟨r,dx,p,wa,l,rfl,h0,q⟩:=h
 refine ⟨_,a0f (a1P (pv 0) (pv 1) rfl) (a0f (a1P (pv 0) (pv 2) rfl) (a0h (a1P (pv 0) (pv 3) rfl))),?_⟩
 refine ⟨_,rfl,_,rfl,r,M,dx,_,rfl,h0,rc.c,rc.np,(by show 0 < 1000;decide),?_⟩
 rw [show a2F "prices" (V.ref p) []=mf1 p from rfl]
 have g1:upd H r (.ins M dx (mf1 p)) r=some (.ins M dx (mf1 p)):=a0c
 have k1:∀ a o,a≠r→H a=some o→upd H r (.ins M dx (mf1 p)) a=some o:=fun a o ha e=>by rw [a0j ha];exact e
 generalize upd H r (.ins M dx (mf1 p))=H1 at g1 k1 ⊢
 refine ⟨_,rfl,_,rfl,r,M,dx,_,rfl,g1,rc.c,rc.nw,(by show 1 < 1000;decide),?_⟩
 rw [show a2F "weights" (V.ref wa) (mf1 p)=mf2 p wa from rfl]
 have g2:upd H1 r (.ins M dx (mf2 p wa)) r=some (.ins M dx (mf2 p wa)):=a0c
 have k2:∀ a o,a≠r→H a=some o→upd H1 r (.ins M dx (mf2 p wa)) a=some o:=fun a o ha e=>by rw [a0j ha];exact k1 a o ha e
 generalize upd H1 r (.ins M dx (mf2 p wa))=H2 at g2 k2 ⊢
 refine ⟨_,rfl,_,rfl,r,M,dx,_,rfl,g2,rc.c,rc.nl,(by show 2 < 1000;decide),?_⟩
 rw [show a2F "letter" (V.int l) (mf2 p wa)=mf true p wa l from rfl]
 exact q _ (fun a o ha e=>by rw [a0j ha];exact k2 a o ha e) a0c
theorem scMiW:a0n (PMi false) (PMi false) (a0b iWm):=⟨rfl,rfl,rfl,by decide +kernel,rfl,by decide +kernel,by decide +kernel⟩
theorem a9u {M:Addr} (F:Fun K "__init__" "WeightMove.__init__" iWm f fd) (rc:MC false K M):a0O P' w K mg base CX0 1 f fd (PMi false) (a6e false M):=by
 refine F.ok (k:=0) scMiW (fun vs H Q E h=>?_) (fun cdv A outer s H vs Q E' hr h=>?_)
 ·obtain ⟨r,dx,p,wa,l,rfl,_⟩:=h
  rfl
 obtain ⟨r,dx,p,wa,l,rfl,h0,q⟩:=h
 refine ⟨_,a0f (a1P (pv 0) (pv 1) rfl) (a0f (a1P (pv 0) (pv 2) rfl) (a0h (a1P (pv 0) (pv 3) rfl))),?_⟩
 refine ⟨_,rfl,_,rfl,r,M,dx,_,rfl,h0,rc.c,rc.np,(by show 0 < 1000;decide),?_⟩
 rw [show a2F "prices" (V.ref p) []=mf1 p from rfl]
 have g1:upd H r (.ins M dx (mf1 p)) r=some (.ins M dx (mf1 p)):=a0c
 have k1:∀ a o,a≠r→H a=some o→upd H r (.ins M dx (mf1 p)) a=some o:=fun a o ha e=>by rw [a0j ha];exact e
 generalize upd H r (.ins M dx (mf1 p))=H1 at g1 k1 ⊢
 refine ⟨_,rfl,_,rfl,r,M,dx,_,rfl,g1,rc.c,rc.nw,(by show 1 < 1000;decide),?_⟩
 rw [show a2F "weights" (V.ref wa) (mf1 p)=mf2 p wa from rfl]
 have g2:upd H1 r (.ins M dx (mf2 p wa)) r=some (.ins M dx (mf2 p wa)):=a0c
 have k2:∀ a o,a≠r→H a=some o→upd H1 r (.ins M dx (mf2 p wa)) a=some o:=fun a o ha e=>by rw [a0j ha];exact k1 a o ha e
 generalize upd H1 r (.ins M dx (mf2 p wa))=H2 at g2 k2 ⊢
 refine ⟨_,rfl,_,rfl,r,M,dx,_,rfl,g2,rc.c,rc.nl,(by show 2 < 1000;decide),?_⟩
 rw [show a2F "thing" (V.int l) (mf2 p wa)=mf false p wa l from rfl]
 exact q _ (fun a o ha e=>by rw [a0j ha];exact k2 a o ha e) a0c
structure ClM (b:Bool) (P:Program) (w:World) (K:PySem.W.Frag) (mg:Str→Option Value) (base:Heap) (M:Addr) where
 rc:MC b K M
 g:mg (cN b)=some (.ref M)
 fi:Addr
 di:FuncData
 mkk:Mk K M fi
 oki:a0O P w K mg base CX0 1 fi di (PMi b) (a6e b M)
 bi:a1E K di (PMi b) []
def SameU (H H':Hp):Prop:=∀ a o,(∀ ps,o≠.tbl ps)→H a=some o→H' a=some o
structure Kq (T:Addr) (H H':Hp):Prop where
 sm:SameU H H'
 tb:a0R H' T a3g a4N
theorem Kq.of {T:Addr} {H H':Hp} (t:a0R H T a3g a4N) (s:a0x H H'):Kq T H H':=⟨fun a o _ e=>s a o e,a0R.same s t⟩
theorem Kq.trans {T:Addr} {H H1 H2:Hp} (a:Kq T H H1) (b:Kq T H1 H2):Kq T H H2:=⟨fun x o n e=>b.sm x o n (a.sm x o n e),b.tb⟩
theorem Kq.then {T:Addr} {H H1 H2:Hp} (a:Kq T H H1) (b:a0x H1 H2):Kq T H H2:=a.trans (.of a.tb b)
theorem Kq.tup {T:Addr} {H H':Hp} {a:Addr} {xs:List V} (k:Kq T H H') (e:H a=some (.tup xs)):H' a=some (.tup xs):=k.sm _ _ (by intro _ z;cases z) e
theorem Kq.lst {T:Addr} {H H':Hp} {a:Addr} {xs:List V} (k:Kq T H H') (e:H a=some (.lst xs)):H' a=some (.lst xs):=k.sm _ _ (by intro _ z;cases z) e
theorem Kq.ws {T:Addr} {H H':Hp} {xs:List V} {us:List (List Int)} (k:Kq T H H') (h:Ws H xs us):Ws H' xs us:=Paired.mapP h fun x y z=>by
 obtain ⟨a,rfl,ha⟩:=Wd.ti z
 exact Wd.of (k.tup ha)
theorem Kq.found {T:Addr} {H H':Hp} (t:a0R H T a3g a4N) (s:a1g T H H') (b:b2R T H H'):Kq T H H':=⟨fun a o n e=>by
 obtain ⟨qs,hT⟩:=a0R.tb t
 exact s a o (a0G e hT (n qs)) e,b.1⟩
theorem Cd.kq {T:Addr} {H H':Hp} {p wa c:Addr} {ps ws:List Int} {nss:CT.a0z} (x:Cd H p wa c ps ws nss) (k:Kq T H H'):Cd H' p wa c ps ws nss:=by
 obtain ⟨xs,h1,h2⟩:=x.hc
 exact ⟨k.tup x.hp,k.tup x.hw,⟨xs,k.tup h1,k.ws h2⟩,x.ln,x.l1,x.l2,x.bp,x.bw⟩
theorem Cg.kq {T:Addr} {H H':Hp} {p wa c:Addr} {ps ws:List Int} {nss:CT.a0z} (x:Cg H p wa c ps ws nss) (k:Kq T H H'):Cg H' p wa c ps ws nss:=by
 obtain ⟨xs,h1,h2⟩:=x.hc
 exact ⟨k.tup x.hp,k.tup x.hw,⟨xs,k.tup h1,k.ws h2⟩,x.l1,x.l2,x.bp,x.bw⟩
structure Mg (b:Bool) (M:Addr) (H:Hp) (r p wa:Addr) (ps ws:List Int) (i:Int):Prop where
 ob:∃ dx,H r=some (.ins M dx (mf b p wa i))
 hp:TW H p ps
 hw:TW H wa ws
 nu:Num ps ws
 pp:Po ps
 pw:Po ws
structure Mv (b:Bool) (M:Addr) (H:Hp) (r p wa:Addr) (ps ws:List Int) (l:Nat):Prop where
 ob:∃ dx,H r=some (.ins M dx (mf b p wa l))
 hp:TW H p ps
 hw:TW H wa ws
 nu:Num ps ws
 pp:Po ps
 pw:Po ws
 hl:l < nL b ps ws
theorem Mv.gn {b:Bool} {M:Addr} {H:Hp} {r p wa:Addr} {ps ws:List Int} {l:Nat} (x:Mv b M H r p wa ps ws l):Mg b M H r p wa ps ws (l:Int):=⟨x.ob,x.hp,x.hw,x.nu,x.pp,x.pw⟩
theorem Mg.mv {b:Bool} {M:Addr} {H:Hp} {r p wa:Addr} {ps ws:List Int} {l:Nat} (x:Mg b M H r p wa ps ws (l:Int)) (h:l < nL b ps ws):Mv b M H r p wa ps ws l:=⟨x.ob,x.hp,x.hw,x.nu,x.pp,x.pw,h⟩
theorem Mv.kq {b:Bool} {M T:Addr} {H H':Hp} {r p wa:Addr} {ps ws:List Int} {l:Nat} (x:Mv b M H r p wa ps ws l) (k:Kq T H H'):Mv b M H' r p wa ps ws l:=by
 obtain ⟨dx,h⟩:=x.ob
 exact ⟨⟨dx,k.sm _ _ (by intro _ z;cases z) h⟩,k.tup x.hp,k.tup x.hw,x.nu,x.pp,x.pw,x.hl⟩
theorem a4K {ps:List Int} {l:Nat} (h:l < ps.length):ps[l]?=some (ps.getD l 0):=by rw [List.getD_eq_getElem?_getD,List.getElem?_eq_getElem h];rfl
theorem nw_bd {b:Bool} {ps ws:List Int} {l:Nat} (nu:Num ps ws) (pp:Po ps) (pw:Po ws) (hl:l < nL b ps ws):1≤nw b ps ws l∧nw b ps ws l≤B30:=by
 cases b with
 | true =>
  have hm:ps.getD l 0∈ps:=List.mem_of_getElem? (a4K hl)
  exact ⟨by have:=pp _ hm;show 1≤ps.getD l 0;omega,(nu.bp _ hm).2⟩
 | false =>
  have hm:ws.getD l 0∈ws:=List.mem_of_getElem? (a4K hl)
  exact ⟨by have:=pw _ hm;show 1≤ws.getD l 0;omega,(nu.bw _ hm).2⟩
def a9v (b:Bool) (M:Addr):Sp:=fun vs H Q _=>∃ (r p wa:Addr) (ps ws:List Int) (l:Nat),vs=[.ref r]∧Mv b M H r p wa ps ws l∧Q (.int (nw b ps ws l)) H
theorem scNowP:a0n ["self"] ["self"] (a0b b3x):=⟨rfl,rfl,rfl,by decide +kernel,rfl,by decide +kernel,by decide +kernel⟩
theorem b3i {M:Addr} (F:Fun K "now" "PriceMove.now" b3x f fd) (rc:MC true K M):a0O P' w K mg base CX0 1 f fd ["self"] (a9v true M):=by
 refine F.ok (k:=0) scNowP (fun vs H Q E h=>?_) (fun cdv A outer s H vs Q E hr h=>?_)
 ·obtain ⟨r,p,wa,ps,ws,l,rfl,_⟩:=h
  rfl
 obtain ⟨r,p,wa,ps,ws,l,rfl,mv,q⟩:=h
 obtain ⟨dx,ho⟩:=mv.ob
 refine ⟨_,a0h (a0r (a0y a1a (a0F (pv 0) rfl) (a0F (pv 0) rfl) (fun _ _=>rfl))),?_⟩
 exact ⟨_,rfl,r,M,dx,_,_,rfl,ho,rc.c,rc.np,rfl,_,rfl,r,M,dx,_,_,rfl,ho,rc.c,rc.nl,rfl,p,_,_,_,rfl,rfl,SqT.of mv.hp,a2X (a4K mv.hl),q⟩
theorem scNowW:a0n ["self"] ["self"] (a0b a7x):=⟨rfl,rfl,rfl,by decide +kernel,rfl,by decide +kernel,by decide +kernel⟩
theorem b3j {M:Addr} (F:Fun K "now" "WeightMove.now" a7x f fd) (rc:MC false K M):a0O P' w K mg base CX0 1 f fd ["self"] (a9v false M):=by
 refine F.ok (k:=0) scNowW (fun vs H Q E h=>?_) (fun cdv A outer s H vs Q E hr h=>?_)
 ·obtain ⟨r,p,wa,ps,ws,l,rfl,_⟩:=h
  rfl
 obtain ⟨r,p,wa,ps,ws,l,rfl,mv,q⟩:=h
 obtain ⟨dx,ho⟩:=mv.ob
 refine ⟨_,a0h (a0r (a0y a1a (a0F (pv 0) rfl) (a0F (pv 0) rfl) (fun _ _=>rfl))),?_⟩
 exact ⟨_,rfl,r,M,dx,_,_,rfl,ho,rc.c,rc.nw,rfl,_,rfl,r,M,dx,_,_,rfl,ho,rc.c,rc.nl,rfl,wa,_,_,_,rfl,rfl,SqT.of mv.hw,a2X (a4K mv.hl),q⟩
def a7D (b:Bool) (M CU CB CV:Addr):Sp:=fun vs H Q E=>∃ (r c p wa:Addr) (ps ws:List Int) (i:Int) (l:Nat) (nss:CT.a0z),vs=[.ref r,.ref c]∧l=i.toNat∧Mg b M H r p wa ps ws i∧Cg H p wa c ps ws nss∧Rf CU CB CV H E (kd b ps ws nss i)∧(3≤kd b ps ws nss i→∀ H',a0x H H'→Q (.int (sR b ps ws l nss)) H')
theorem scShrP:a0n ["self","code"] ["self","code"] (a0b a4a):=⟨rfl,rfl,rfl,by decide +kernel,rfl,by decide +kernel,by decide +kernel⟩
theorem b3k {M CU CB CV:Addr} (F:Fun K "share" "PriceMove.share" a4a f fd) (rc:MC true K M) (G:a1D P' w K mg base NPS "price_share" (b3A true CU CB CV) 4):a0O P' w K mg base (CXF P' w) 5 f fd ["self","code"] (a7D true M CU CB CV):=by
 refine F.okF (k:=4) scShrP (fun vs H Q E h=>?_) (fun cdv A outer s H vs Q E hr h=>?_)
 ·obtain ⟨r,c,p,wa,ps,ws,i,l,nss,rfl,_⟩:=h
  rfl
 obtain ⟨r,c,p,wa,ps,ws,i,l,nss,rfl,hl,mv,cd,rf,q⟩:=h
 obtain ⟨dx,ho⟩:=mv.ob
 refine ⟨_,a0h (a0r (a0l G.ok hr (by rfl) G.m G.kp G.b .nil a0A (a0a (a0F (pv 0) rfl) (a0a (a0F (pv 0) rfl) (a0a (pv 1) (a0a (a0F (pv 0) rfl) a0d)))))),?_⟩
 exact ⟨_,rfl,r,M,dx,_,_,rfl,ho,rc.c,rc.np,rfl,_,rfl,r,M,dx,_,_,rfl,ho,rc.c,rc.nw,rfl,_,rfl,_,rfl,r,M,dx,_,_,rfl,ho,rc.c,rc.nl,rfl,p,wa,c,ps,ws,nss,i,l,rfl,hl,cd,rf,q⟩
theorem scShrW:a0n ["self","code"] ["self","code"] (a0b a2R):=⟨rfl,rfl,rfl,by decide +kernel,rfl,by decide +kernel,by decide +kernel⟩
theorem b3l {M CU CB CV:Addr} (F:Fun K "share" "WeightMove.share" a2R f fd) (rc:MC false K M) (G:a1D P' w K mg base NWS "weight_share" (b3A false CU CB CV) 4):a0O P' w K mg base (CXF P' w) 5 f fd ["self","code"] (a7D false M CU CB CV):=by
 refine F.okF (k:=4) scShrW (fun vs H Q E h=>?_) (fun cdv A outer s H vs Q E hr h=>?_)
 ·obtain ⟨r,c,p,wa,ps,ws,i,l,nss,rfl,_⟩:=h
  rfl
 obtain ⟨r,c,p,wa,ps,ws,i,l,nss,rfl,hl,mv,cd,rf,q⟩:=h
 obtain ⟨dx,ho⟩:=mv.ob
 refine ⟨_,a0h (a0r (a0l G.ok hr (by rfl) G.m G.kp G.b .nil a0A (a0a (a0F (pv 0) rfl) (a0a (a0F (pv 0) rfl) (a0a (pv 1) (a0a (a0F (pv 0) rfl) a0d)))))),?_⟩
 exact ⟨_,rfl,r,M,dx,_,_,rfl,ho,rc.c,rc.np,rfl,_,rfl,r,M,dx,_,_,rfl,ho,rc.c,rc.nw,rfl,_,rfl,_,rfl,r,M,dx,_,_,rfl,ho,rc.c,rc.nl,rfl,p,wa,c,ps,ws,nss,i,l,rfl,hl,cd,rf,q⟩
theorem pm_bw {ps:List Int} {l:Nat} {x:Int} (h:Bw ps) (h1:1≤x) (h2:x≤B30):Bw (pm ps l x):=fun z hz=>by
 unfold pm at hz
 rcases List.mem_append.mp hz with hz | hz
 ·rcases List.mem_append.mp hz with hz | hz
  ·exact h z (List.mem_of_mem_take hz)
  ·rw [List.mem_singleton.mp hz];exact ⟨by omega,h2⟩
 ·exact h z (List.mem_of_mem_drop hz)
theorem pm_po {ps:List Int} {l:Nat} {x:Int} (h:Po ps) (h1:1≤x):Po (pm ps l x):=fun z hz=>by
 unfold pm at hz
 rcases List.mem_append.mp hz with hz | hz
 ·rcases List.mem_append.mp hz with hz | hz
  ·exact h z (List.mem_of_mem_take hz)
  ·rw [List.mem_singleton.mp hz];omega
 ·exact h z (List.mem_of_mem_drop hz)
def spAt (b:Bool) (M T:Addr):Sp:=fun vs H Q _=>∃ (r p wa:Addr) (ps ws:List Int) (l:Nat) (x:Int),vs=[.ref r,.int x]∧Mv b M H r p wa ps ws l∧1≤x∧x≤B30∧a0R H T a3g a4N ∧
 ∀ (ca:Addr) (o:CT.a0z) H',Kq T H H'→(∃ xs,H' ca=some (.tup xs)∧Ws H' xs o)→Mn (mP b ps l x) (mW b ws l x) o→Q (.ref ca) H'
theorem scAtP:a0n ["self","number"] ["self","number"] (a0b sAt):=⟨rfl,rfl,rfl,by decide +kernel,rfl,by decide +kernel,by decide +kernel⟩
theorem ok_atP {M T:Addr} {k:Nat} (hk:3≤k) (F:Fun K "cheapest_at" "PriceMove.cheapest_at" sAt f fd) (rc:MC true K M) (GP:Fns P' w K mg base ["prices","letter","number"] "price_moved" a9B 3) (GK:Fns P' w K mg base ["prices","weights"] "cheapest_kept" (spCk T) k):a0O P' w K mg base CX0 (k+1) f fd ["self","number"] (spAt true M T):=by
 refine F.ok (k:=k) scAtP (fun vs H Q E h=>?_) (fun cdv A outer s H vs Q E hr h=>?_)
 ·obtain ⟨r,p,wa,ps,ws,l,x,rfl,_⟩:=h
  rfl
 obtain ⟨r,p,wa,ps,ws,l,x,rfl,mv,x1,x2,tab,q⟩:=h
 have GP:=GP.up hk
 obtain ⟨dx,ho⟩:=mv.ob
 have p6:=mv.nu.p10
 refine ⟨_,a0h (a0r (a0y a1a (a0l GK.ok hr (by rfl) GK.m GK.kp GK.b .nil a0C (a0a (a0l GP.ok hr (by rfl) GP.m GP.kp GP.b .nil a0C (a0a (a0F (pv 0) rfl) (a0a (a0F (pv 0) rfl) (a0a (pv 1) a0d)))) (a0a (a0F (pv 0) rfl) a0d))) a0g (fun _ _=>rfl))),?_⟩
 refine ⟨_,rfl,r,M,dx,_,_,rfl,ho,rc.c,rc.np,rfl,_,rfl,r,M,dx,_,_,rfl,ho,rc.c,rc.nl,rfl,_,rfl,p,ps,l,x,rfl,mv.hp,by omega,mv.hl,x1,x2,fun p' H1 s1 hp'=>?_⟩
 have el:(pm ps l x).length=ps.length:=a6M mv.hl
 have nu':Num (pm ps l x) ws:=⟨by rw [el];exact mv.nu.p2,by rw [el];exact mv.nu.p10,mv.nu.w1,mv.nu.w20,pm_bw mv.nu.bp x1 x2,mv.nu.bw⟩
 refine ⟨_,rfl,r,M,dx,_,_,rfl,s1 _ _ ho,rc.c,rc.nw,rfl,p',wa,pm ps l x,ws,rfl,hp',s1 _ _ mv.hw,nu',pm_po mv.pp x1,mv.pw,a0R.same s1 tab,fun a ca d ra h t F cde H2 s2 tb2 fnd=>?_⟩
 have k2:Kq T H H2:=(Kq.of tab s1).trans (Kq.found (a0R.same s1 tab) s2 tb2)
 refine ⟨a,_,_,_,rfl,rfl,SqT.of fnd.o,rfl,q ca cde H2 k2 fnd.cd (b1G fnd (by show 0 < (pm ps l x).length;rw [el];have:=mv.nu.p2;omega) mv.nu.w1)⟩
theorem scAtW:a0n ["self","number"] ["self","number"] (a0b b3y):=⟨rfl,rfl,rfl,by decide +kernel,rfl,by decide +kernel,by decide +kernel⟩
theorem ok_atW {M T:Addr} {k:Nat} (hk:3≤k) (F:Fun K "cheapest_at" "WeightMove.cheapest_at" b3y f fd) (rc:MC false K M) (GP:Fns P' w K mg base ["weights","thing","number"] "weight_moved" a9B 3) (GK:Fns P' w K mg base ["prices","weights"] "cheapest_kept" (spCk T) k):a0O P' w K mg base CX0 (k+1) f fd ["self","number"] (spAt false M T):=by
 refine F.ok (k:=k) scAtW (fun vs H Q E h=>?_) (fun cdv A outer s H vs Q E hr h=>?_)
 ·obtain ⟨r,p,wa,ps,ws,l,x,rfl,_⟩:=h
  rfl
 obtain ⟨r,p,wa,ps,ws,l,x,rfl,mv,x1,x2,tab,q⟩:=h
 have GP:=GP.up hk
 obtain ⟨dx,ho⟩:=mv.ob
 have n6:=mv.nu.w20
 refine ⟨_,a0h (a0r (a0y a1a (a0l GK.ok hr (by rfl) GK.m GK.kp GK.b .nil a0C (a0a (a0F (pv 0) rfl) (a0a (a0l GP.ok hr (by rfl) GP.m GP.kp GP.b .nil a0C (a0a (a0F (pv 0) rfl) (a0a (a0F (pv 0) rfl) (a0a (pv 1) a0d)))) a0d))) a0g (fun _ _=>rfl))),?_⟩
 refine ⟨_,rfl,r,M,dx,_,_,rfl,ho,rc.c,rc.np,rfl,_,rfl,r,M,dx,_,_,rfl,ho,rc.c,rc.nw,rfl,_,rfl,r,M,dx,_,_,rfl,ho,rc.c,rc.nl,rfl,_,rfl,wa,ws,l,x,rfl,mv.hw,by omega,mv.hl,x1,x2,fun p' H1 s1 hp'=>?_⟩
 have el:(pm ws l x).length=ws.length:=a6M mv.hl
 have nu':Num ps (pm ws l x):=⟨mv.nu.p2,mv.nu.p10,by rw [el];exact mv.nu.w1,by rw [el];exact mv.nu.w20,mv.nu.bp,pm_bw mv.nu.bw x1 x2⟩
 refine ⟨p,p',ps,pm ws l x,rfl,s1 _ _ mv.hp,hp',nu',mv.pp,pm_po mv.pw x1,a0R.same s1 tab,fun a ca d ra h t F cde H2 s2 tb2 fnd=>?_⟩
 have k2:Kq T H H2:=(Kq.of tab s1).trans (Kq.found (a0R.same s1 tab) s2 tb2)
 exact ⟨a,_,_,_,rfl,rfl,SqT.of fnd.o,rfl,q ca cde H2 k2 fnd.cd (b1G fnd (by show 0 < ps.length;have:=mv.nu.p2;omega) (by show 1≤(pm ws l x).length;rw [el];exact mv.nu.w1))⟩
end
end Q
end K66
namespace K66
open PySem L2
namespace Q
theorem b_abs:bootBuiltins "abs"=some (.builtin "abs"):=by decide +kernel
theorem b0Z (a p q k:Int):a * (p - q) * k=p * (a * k) - q * (a * k):=by
 rw [Int.mul_sub,Int.sub_mul,Int.mul_comm a p,Int.mul_comm a q,Int.mul_assoc,Int.mul_assoc]
theorem sh_bd {l:Int}:∀ {ws:List Int} {c:CT.a0z},Bw ws→(∀ u∈c,u.length≤1000)→0≤sh ws l c∧sh ws l c≤(ws.length:Int) * (1000 * B30)
 | [],c,_,_=>⟨by unfold sh;simp,by unfold sh;simp⟩
 | w :: ws,[],_,_=>⟨by unfold sh;simp,by
   have:(0:Int)≤((w :: ws).length:Int) * (1000 * B30):=Int.mul_nonneg (by omega) (by decide)
   unfold sh
   simpa using this⟩
 | w :: ws,u :: c,hw,hu=>by
  obtain ⟨i1,i2⟩:=sh_bd (l:=l) (fun x hx=>hw x (.tail _ hx)) fun v hv=>hu v (.tail _ hv)
  have e:sh (w :: ws) l (u :: c)=w * ((u.count l:Nat):Int)+sh ws l c:=rfl
  obtain ⟨w0,w1⟩:=hw w (.head _)
  have hc:u.count l≤1000:=Nat.le_trans List.count_le_length (hu u (.head _))
  have b1:0≤w * ((u.count l:Nat):Int):=Int.mul_nonneg w0 (by omega)
  have b2:w * ((u.count l:Nat):Int)≤B30 * 1000:=Int.mul_le_mul w1 (by omega) (by omega) (by decide)
  have e2:((w :: ws).length:Int) * (1000 * B30)=(ws.length:Int) * (1000 * B30)+1000 * B30:=by
   rw [List.length_cons]
   push_cast
   rw [Int.add_mul]
   omega
  rw [e,e2]
  have:B30 * 1000=1000 * B30:=Int.mul_comm _ _
  omega
theorem sW_bd {ps ws:List Int} {l:Nat} {c:CT.a0z} (hp:Bw ps) (hn:1≤ws.length) (hu:∀ u∈c,u.length≤1000):0≤sW ps l c∧sW ps l c≤(ws.length:Int) * (1000 * B30):=by
 have hb:(c.getD l []).length≤1000:=by
  rw [List.getD_eq_getElem?_getD]
  cases e:c[l]? with
  | none=>exact Nat.zero_le _
  | some u=>exact hu u (List.mem_of_getElem? e)
 obtain ⟨b1,b2⟩:=a7C hp (c.getD l [])
 have b3:((c.getD l []).length:Int) * B30≤1000 * B30:=Int.mul_le_mul_of_nonneg_right (by omega) (by decide)
 have b4:1 * (1000 * B30)≤(ws.length:Int) * (1000 * B30):=Int.mul_le_mul_of_nonneg_right (by omega) (by decide)
 unfold sW
 exact ⟨b1,by omega⟩
theorem mn_mem {b:Bool} {ps ws:List Int} {l:Nat} {x:Int} {o:CT.a0z} (hl:l < nL b ps ws) (m:Mn (mP b ps l x) (mW b ws l x) o):o∈CT.Cs ps.length ws.length:=by
 have h:=m.1
 cases b with
 | true=>rw [show (mP true ps l x).length=ps.length from a6M hl] at h;exact h
 | false=>rw [show (mW false ws l x).length=ws.length from a6M hl] at h;exact h
theorem b1H {m:Int} {c:CT.a0z} {P:Prop} (al:∀ u∈c,alone m u=true) (bad:∃ u∈c,alone m u=false):P:=by
 obtain ⟨u,hu,e⟩:=bad
 rw [al u hu] at e
 cases e
theorem sR_bd {b:Bool} {ps ws:List Int} {l:Nat} {c:CT.a0z} (hp:Bw ps) (hw:Bw ws) (hn:1≤ws.length) (hu:∀ u∈c,u.length≤1000):0≤sR b ps ws l c∧sR b ps ws l c≤(ws.length:Int) * (1000 * B30):=by
 cases b with
 | true=>exact sh_bd hw hu
 | false=>exact sW_bd hp hn hu
theorem lkN (b:Bool) {p wa:Addr} {l:Int}:List.lookup ("now":Str) (mf b p wa l)=none:=by cases b <;> rfl
theorem lkS (b:Bool) {p wa:Addr} {l:Int}:List.lookup ("share":Str) (mf b p wa l)=none:=by cases b <;> rfl
theorem lkA (b:Bool) {p wa:Addr} {l:Int}:List.lookup ("cheapest_at":Str) (mf b p wa l)=none:=by cases b <;> rfl
section
variable {P':Program} {w:World} {K:PySem.W.Frag} {mg:Str→Option Value} {base:Heap} {f:Addr} {fd:FuncData}
abbrev NEt:List Str:=["move","code","far","ahead","number","cheaper","other","lead","loss"]
abbrev PEt:List Str:=["move","code","far"]
def spEt (b:Bool) (M T:Addr):Sp:=fun vs H Q _=>∃ (r c p wa:Addr) (ps ws:List Int) (l:Nat) (cde:CT.a0z) (far:Int),vs=[.ref r,.ref c,.int far]∧Mv b M H r p wa ps ws l∧Cd H p wa c ps ws cde∧Mn ps ws cde∧1≤far∧far≤B30∧a0R H T a3g a4N ∧
 ∀ (t:Addr) (u v:V) H',Kq T H H'→H' t=some (.tup [u,v])→Q (.ref t) H'
theorem b1a:a0n NEt PEt (a0b sEt):=⟨rfl,rfl,rfl,by decide +kernel,rfl,by decide +kernel,by decide +kernel⟩
theorem ok_et {b:Bool} {M T CU CB CV:Addr} {k:Nat} (hk:5≤k) (F:Fun K "end_towards" "end_towards" sEt f fd) (rc:MC b K M) (MN:Mt P' w K mg base M "now" ["self"] (a9v b M) 1) (MS:Mt' P' w K mg base M "share" ["self","code"] (a7D b M CU CB CV) 5) (MA:Mt P' w K mg base M "cheapest_at" ["self","number"] (spAt b M T) k) (GC:a1D P' w K mg base PCo "cost" (a2T CU CB) 3) (mb:mg "abs"=none):a0O P' w K mg base CX0 (k+1) f fd PEt (spEt b M T):=by
 refine F.ok (k:=k) b1a (fun vs H Q E h=>?_) (fun cdv A outer s H vs Q E hr h=>?_)
 ·obtain ⟨r,c,p,wa,ps,ws,l,cde,far,rfl,_⟩:=h
  rfl
 obtain ⟨r,c,p,wa,ps,ws,l,cde,far,rfl,mv,cd,mn,f1,f2,tab,q⟩:=h
 have MN:=MN.up (show 1≤k by omega)
 have MS:=MS.up hk
 have GC:=GC.up (show 3≤k by omega)
 refine ⟨_,a0f (a0t (i:=3) b1a.nd rfl (Or.inl rfl) (a4l (a0B a7R (pv 2) (a2y (pv 0) rc.c MN.m MN.ok hr MN.b .nil a0C) (nomark _)) a0g (a2x a1z a0g)))
   (a0f (a0t (i:=4) b1a.nd rfl (Or.inl rfl) (pv 2))
   (a0f (a0t (i:=5) b1a.nd rfl (Or.inl rfl) a3O)
   (a0h (a6i PassesOwn.never (a3P a7H)
    (a0f (a0t (i:=6) b1a.nd rfl (Or.inl rfl) (a1w (pv 0) rc.c MA.m MA.ok hr MA.b .nil a0C (a0a (pv 4) a0d)))
    (a0f (a0t (i:=7) b1a.nd rfl (Or.inl rfl) (a0p a1q (a0l GC.ok hr (by rfl) GC.m GC.kp GC.b .nil a5M (a0a (a0F (pv 0) rfl) (a0a (a0F (pv 0) rfl) (a0a (pv 6) a0d)))) (a0l GC.ok hr (by rfl) GC.m GC.kp GC.b .nil a5M (a0a (a0F (pv 0) rfl) (a0a (a0F (pv 0) rfl) (a0a (pv 1) a0d))))))
    (a0f (a0t (i:=8) b1a.nd rfl (Or.inl rfl) (a0p a4Q (pv 3) (a0p a1q (a1w (pv 0) rc.c MS.m MS.ok hr MS.b .nil a5M (a0a (pv 1) a0d)) (a1w (pv 0) rc.c MS.m MS.ok hr MS.b .nil a5M (a0a (pv 6) a0d)))))
    (a0f (a1e (a0B a6T (a0p b2x (pv 8) (a0o a9G (by rfl) mb b_abs (a0a (a0p a1q (pv 4) (a2y (pv 0) rc.c MN.m MN.ok hr MN.b .nil a0C)) a0d))) (pv 7) (nomark _)) (a0h (a0r (a1h (a0a (pv 4) (a0a (pv 5) a0d))))) a0D)
    (a0f (a0t (i:=4) b1a.nd rfl (Or.inl rfl) (a0p a0I (a2y (pv 0) rc.c MN.m MN.ok hr MN.b .nil a0C) (a0p a4Q (pv 3) (a0p b0q (pv 7) (pv 8)))))
    (a0h (a0t (i:=5) b1a.nd rfl (Or.inl rfl) (pv 6)))))))))))),?_⟩
 obtain ⟨dx,ho⟩:=mv.ob
 obtain ⟨sB,sC⟩:=nw_bd mv.nu mv.pp mv.pw mv.hl
 have hn:=mv.nu.w1
 have n6:=mv.nu.w20
 obtain ⟨m,hm0⟩:∃ m:Nat,(nw b ps ws l < far→far=nw b ps ws l+1 * (m:Int))∧(¬ nw b ps ws l < far→far=nw b ps ws l+(-1) * (m:Int)):=by
  by_cases z:nw b ps ws l < far
  ·exact ⟨(far - nw b ps ws l).toNat,fun _=>by omega,fun y=>absurd z y⟩
  ·exact ⟨(nw b ps ws l - far).toNat,fun y=>absurd y z,fun _=>by omega⟩
 have dirm:∀ a:Int,((nw b ps ws l < far∧a=1)∨(¬ nw b ps ws l < far∧a=-1))→far=nw b ps ws l+a * (m:Int)∧(a=1∨a=-1):=fun a h=>by
  rcases h with ⟨h,rfl⟩ | ⟨h,rfl⟩
  ·exact ⟨hm0.1 h,.inl rfl⟩
  ·exact ⟨hm0.2 h,.inr rfl⟩
 have lin:0≤(l:Int)∧(l:Int) < (nL b ps ws:Int):=by have:=mv.hl;omega
 have sb1:=sR_bd (b:=b) (l:=l) mv.nu.bp mv.nu.bw hn fun u hu=>(cd.l2 u hu).2
 refine ⟨_,rfl,_,rfl,r,dx,_,rfl,ho,(by first | exact lkN b | exact lkS b | exact lkA b),r,p,wa,ps,ws,l,rfl,mv,_,_,rfl,rfl,_,rfl,?_⟩
 refine a1C (fun y=>?_) (fun y=>⟨_,rfl,?_⟩)
 all_goals
  refine ⟨_,rfl,⟨fun n σ H'=>Kq T H H'∧∃ (a:Int) (k':Nat) (v:V) (x6 x7 x8:Option V),((nw b ps ws l < far∧a=1)∨(¬ nw b ps ws l < far∧a=-1))∧n=k'∧k'≤m∧σ=[some (.ref r),some (.ref c),some (.int far),some (.int a),some (.int (nw b ps ws l+a * (k':Int))),some v,x6,x7,x8],?_,?_⟩⟩
 ·have y1:nw b ps ws l < far:=of_decide_eq_true y
  refine ⟨m,.of tab (a0x.refl _),1,m,.non,none,none,none,.inl ⟨y1,rfl⟩,rfl,Nat.le_refl _,?_⟩
  rw [←hm0.1 y1]
  rfl
 rotate_left
 ·have y1:¬ nw b ps ws l < far:=fun z=>y (decide_eq_true z)
  refine ⟨m,.of tab (a0x.refl _),-1,m,.non,none,none,none,.inr ⟨y1,rfl⟩,rfl,Nat.le_refl _,?_⟩
  rw [←hm0.2 y1]
  rfl
 all_goals
  rintro n σ H2 ⟨k2,a,k',v,x6,x7,x8,dir,rfl,km,rfl⟩
  obtain ⟨em,ha⟩:=dirm a dir
  have hmB:(m:Int)≤B30:=by rcases ha with rfl | rfl <;> omega
  have hx:1≤nw b ps ws l+a * (n:Int)∧nw b ps ws l+a * (n:Int)≤B30:=by rcases ha with rfl | rfl <;> omega
  have mv2:=mv.kq k2
  obtain ⟨dx2,ho2⟩:=mv2.ob
  refine ⟨_,rfl,b2g ⟨_,fun σ' H' n'=>n',?_⟩⟩
  refine ⟨_,rfl,r,dx2,_,rfl,ho2,(by first | exact lkN b | exact lkS b | exact lkA b),_,rfl,r,p,wa,ps,ws,l,_,rfl,mv2,hx.1,hx.2,k2.tb,fun ca o H3 k3 hco mno=>?_⟩
  have k03:=k2.trans k3
  have mv3:=mv.kq k03
  have cd3:=cd.kq k03
  obtain ⟨dx3,ho3⟩:=mv3.ob
  have oin:=mn_mem mv.hl mno
  have god:=CT.a5W hn o oin
  have cdo:Cd H3 p wa ca ps ws o:=⟨mv3.hp,mv3.hw,hco,god.ln,by rw [god.ln];omega,fun u hu=>⟨(god.wd u hu).2,by have:=(god.wd u hu).1;omega⟩,cd.bp,cd.bw⟩
  have sb2:=sR_bd (b:=b) (l:=l) mv.nu.bp mv.nu.bw hn fun u hu=>(cdo.l2 u hu).2
  obtain ⟨xo,ho1,wo1⟩:=cdo.hc
  refine ⟨_,rfl,r,M,dx3,_,_,rfl,ho3,rc.c,rc.np,rfl,_,rfl,r,M,dx3,_,_,rfl,ho3,rc.c,rc.nw,rfl,_,rfl,p,wa,ca,ps,ws,xo,o,rfl,cdo.hp,cdo.hw,ho1,wo1,cdo.l1,(fun u hu=>(cdo.l2 u hu).2),cd.bp,cd.bw,(fun ne=>absurd cdo.ln ne),fun _ _ H4 s4=>?_,fun _ bad=>b1H cdo.al bad⟩
  have cd4:=cd3.same s4
  obtain ⟨xc,hc1,wc1⟩:=cd4.hc
  refine ⟨_,rfl,r,M,dx3,_,_,rfl,s4 _ _ ho3,rc.c,rc.np,rfl,_,rfl,r,M,dx3,_,_,rfl,s4 _ _ ho3,rc.c,rc.nw,rfl,_,rfl,p,wa,c,ps,ws,xc,cde,rfl,cd4.hp,cd4.hw,hc1,wc1,cd.l1,(fun u hu=>(cd.l2 u hu).2),cd.bp,cd.bw,(fun ne=>absurd cd.ln ne),fun _ _ H5 s5=>?_,fun _ bad=>b1H cd.al bad⟩
  refine ⟨_,_,rfl,rfl,?_⟩
  have k5:=(k03.then s4).then s5
  have mv5:=mv.kq k5
  obtain ⟨dx5,ho5⟩:=mv5.ob
  refine ⟨_,rfl,_,rfl,r,dx5,_,rfl,ho5,(by first | exact lkN b | exact lkS b | exact lkA b),_,rfl,r,c,p,wa,ps,ws,(l:Int),l,cde,rfl,rfl,mv5.gn,(cd.kq k5).cg,rf_no (kd_3 cd.ln cd.al lin),fun _ H6 s6=>?_⟩
  have k6:=k5.then s6
  have mv6:=mv.kq k6
  obtain ⟨dx6,ho6⟩:=mv6.ob
  refine ⟨_,rfl,r,dx6,_,rfl,ho6,(by first | exact lkN b | exact lkS b | exact lkA b),_,rfl,r,ca,p,wa,ps,ws,(l:Int),l,o,rfl,rfl,mv6.gn,(((cdo.same s4).same s5).same s6).cg,rf_no (kd_3 cdo.ln cdo.al lin),fun _ H7 s7=>?_⟩
  have k7:=k6.then s7
  have mv7:=mv.kq k7
  obtain ⟨dx7,ho7⟩:=mv7.ob
  refine ⟨_,_,rfl,rfl,_,_,rfl,rfl,.inl ?_,?_⟩
  ·rcases ha with rfl | rfl <;> exact ⟨by decide,by decide⟩
  have lead0:0≤CT.co ps ws 0 o - CT.co ps ws 0 cde:=by have:=mn.2 o oin;omega
  have eabs:(if nw b ps ws l+a * (n:Int) - nw b ps ws l < 0 then -(nw b ps ws l+a * (n:Int) - nw b ps ws l) else nw b ps ws l+a * (n:Int) - nw b ps ws l)=(n:Int):=by
   rcases ha with rfl | rfl <;> split <;> omega
  have sbd:sR b ps ws l cde≤20 * (1000 * B30)∧sR b ps ws l o≤20 * (1000 * B30):=by
   have e6:(ws.length:Int) * (1000 * B30)≤20 * (1000 * B30):=Int.mul_le_mul_of_nonneg_right (by omega) (by decide)
   omega
  have lbd:-(100000000 * B30)≤a * (sR b ps ws l cde - sR b ps ws l o)∧a * (sR b ps ws l cde - sR b ps ws l o)≤100000000 * B30:=by
   rcases ha with rfl | rfl <;> (unfold B30 at *;omega)
  refine ⟨_,rfl,_,rfl,_,rfl,r,dx7,_,rfl,ho7,(by first | exact lkN b | exact lkS b | exact lkA b),r,p,wa,ps,ws,l,rfl,mv7,_,_,rfl,rfl,_,rfl,?_⟩
  dsimp only
  rw [eabs]
  refine ⟨_,_,rfl,rfl,⟨lbd,⟨by omega,by unfold B30 at *;omega⟩⟩,_,rfl,_,_,rfl,rfl,_,rfl,?_⟩
  have lm:=b0Z a (sR b ps ws l cde) (sR b ps ws l o) (n:Int)
  refine a1C (fun z=>?_) (fun z=>?_)
  ·refine ⟨_,rfl,_,rfl,(by show 2≤sizeLine;decide),fun t ht=>?_⟩
   exact q t _ _ _ (k7.then (a0e ht _)) a0c
  ·have z1:CT.co ps ws 0 o - CT.co ps ws 0 cde < a * (sR b ps ws l cde - sR b ps ws l o) * (n:Int):=by
    have:¬ a * (sR b ps ws l cde - sR b ps ws l o) * (n:Int)≤CT.co ps ws 0 o - CT.co ps ws 0 cde:=fun y=>z (decide_eq_true y)
    omega
   generalize CT.co ps ws 0 o - CT.co ps ws 0 cde=lead at lead0 z1 ⊢
   generalize a * (sR b ps ws l cde - sR b ps ws l o)=loss at lbd z1 ⊢
   have lpos:0 < loss:=by
    by_cases y:0 < loss
    ·exact y
    ·have:loss * (n:Int)≤0:=Int.mul_nonpos_of_nonpos_of_nonneg (by omega) (by omega)
     omega
   have d0:0≤lead / loss:=Int.ediv_nonneg lead0 (by omega)
   have d1:lead / loss < (n:Int):=Int.ediv_lt_of_lt_mul lpos (by rw [Int.mul_comm];exact z1)
   have d2:lead < loss * (lead / loss)+loss:=Int.lt_mul_ediv_self_add lpos
   refine ⟨_,rfl,r,dx7,_,rfl,ho7,(by first | exact lkN b | exact lkS b | exact lkA b),r,p,wa,ps,ws,l,rfl,mv7,_,rfl,_,rfl,_,rfl,_,_,rfl,rfl,⟨lpos,by unfold B30 at *;omega⟩,_,_,rfl,rfl,.inl ?_,_,_,rfl,rfl,?_⟩
   ·rcases ha with rfl | rfl <;> exact ⟨by decide,by decide⟩
   obtain ⟨k1,hk1⟩:∃ k1:Nat,lead / loss=(k1:Int):=⟨(lead / loss).toNat,by omega⟩
   dsimp only
   rw [hk1] at d1 d2 ⊢
   exact ⟨_,rfl,k1,by omega,k7,a,k1,.ref ca,_,_,_,dir,rfl,by omega,rfl⟩
end
end Q
end K66
namespace K66
open PySem L2
namespace Q
section
variable {P':Program} {w:World} {K:PySem.W.Frag} {mg:Str→Option Value} {base:Heap} {f:Addr} {fd:FuncData}
def Rg (CU CB CV CN:Addr) (H:Hp) (E:Value→Option Addr→Hp→Prop) (k:Nat):Prop:=Rf CU CB CV H E k∧(k=3→∀ H',a0x H H'→E (.ref CN) none H')
theorem Rg.same {CU CB CV CN:Addr} {H H':Hp} {E:Value→Option Addr→Hp→Prop} {k:Nat} (r:Rg CU CB CV CN H E k) (s:a0x H H'):Rg CU CB CV CN H' E k:=⟨r.1.same s,fun z H2 s2=>r.2 z H2 (s.trans s2)⟩
abbrev NBe:List Str:=["move","code"]
def spBe (b:Bool) (M T CU CB CV CN:Addr):Sp:=fun vs H Q E=>∃ (r c p wa:Addr) (ps ws:List Int) (i:Int) (cde:CT.a0z),vs=[.ref r,.ref c]∧Mg b M H r p wa ps ws i∧Cg H p wa c ps ws cde∧a0R H T a3g a4N∧Rg CU CB CV CN H E (kd b ps ws cde i) ∧
 (kd b ps ws cde i=4→∀ (t t1 t2:Addr) (u1 v1 u2 v2:V) H',Kq T H H'→H' t=some (.tup [.ref t1,.ref t2])→H' t1=some (.tup [u1,v1])→H' t2=some (.tup [u2,v2])→Q (.ref t) H')
theorem scBe:a0n NBe NBe (a0b sBe):=⟨rfl,rfl,rfl,by decide +kernel,rfl,by decide +kernel,by decide +kernel⟩
theorem ok_be {b:Bool} {M T CU CB CV CN:Addr} {k:Nat} (hk:7≤k) (F:Fun K "both_ends" "both_ends" sBe f fd) (rc:MC b K M) (MS:Mt' P' w K mg base M "share" ["self","code"] (a7D b M CU CB CV) 5) (GI:Fns P' w K mg base PCo "is_cheapest_kept" b3h 7) (GE:Fns P' w K mg base PEt "end_towards" (spEt b M T) k) (mN:mg "NotCheapest"=some (.ref CN)) (eN:Ecl K CN):a0O P' w K mg base (CXF P' w) (k+1) f fd NBe (spBe b M T CU CB CV CN):=by
 refine F.okF (k:=k) scBe (fun vs H Q E h=>?_) (fun cdv A outer s H vs Q E hr h=>?_)
 ·obtain ⟨r,c,p,wa,ps,ws,i,cde,rfl,_⟩:=h
  rfl
 obtain ⟨r,c,p,wa,ps,ws,i,cde,rfl,mg1,cg,tab,rg,q⟩:=h
 have MS:=MS.up (show 5≤k by omega)
 have GI:=GI.up hk
 refine ⟨_,a0f (a1c (a1w (pv 0) rc.c MS.m MS.ok hr MS.b .nil a0A (a0a (pv 1) a0d)))
   (a0f (a1e (a4O (a3P (a0l GI.ok hr (by rfl) GI.m GI.kp GI.b .nil a0C (a0a (a0F (pv 0) rfl) (a0a (a0F (pv 0) rfl) (a0a (pv 1) a0d)))))) (a0h (a2C a0A rfl (by rfl) mN eN (a0a a1o a0d))) a0D)
   (a0h (a0r (a1h (a0a (a0l GE.ok hr (by rfl) GE.m GE.kp GE.b .nil a0C (a0a (pv 0) (a0a (pv 1) (a0a a0g a0d)))) (a0a (a0l GE.ok hr (by rfl) GE.m GE.kp GE.b .nil a0C (a0a (pv 0) (a0a (pv 1) (a0a (a0p a3Q a0g a0g) a0d)))) a0d)))))),?_⟩
 obtain ⟨dx,ho⟩:=mg1.ob
 refine ⟨_,rfl,r,dx,_,rfl,ho,lkS b,_,rfl,r,c,p,wa,ps,ws,i,i.toNat,cde,rfl,rfl,mg1,cg,rg.1,fun k3 H1 s1=>?_⟩
 obtain ⟨el,al,i0,i1⟩:=kd_ge k3
 have k1:Kq T H H1:=.of tab s1
 refine ⟨_,rfl,r,M,dx,_,_,rfl,s1 _ _ ho,rc.c,rc.np,rfl,_,rfl,r,M,dx,_,_,rfl,s1 _ _ ho,rc.c,rc.nw,rfl,_,rfl,p,wa,c,ps,ws,cde,rfl,cg.same s1,mg1.nu,mg1.pp,mg1.pw,el,al,fun H2 bb s2 hb=>⟨_,rfl,?_⟩⟩
 refine a1C (fun y=>?_) (fun y=>?_)
 ·refine ⟨by decide,rg.2 ?_ H2 (s1.trans s2)⟩
  rw [b0Y el al ⟨i0,i1⟩,if_neg fun z=>by rw [hb.mpr z] at y;cases y]
 have hin:cde∈chp ps ws:=hb.mp (by
  cases bb with
  | true=>rfl
  | false=>exact absurd rfl y)
 have q4:=q (by rw [b0Y el al ⟨i0,i1⟩,if_pos hin])
 obtain ⟨l,rfl⟩:∃ l:Nat,i=(l:Int):=⟨i.toNat,by omega⟩
 have hl:l < nL b ps ws:=by omega
 have mv:=mg1.mv hl
 have cd:=cg.cd el al
 have mn:=mn_chp hin
 have k2:=k1.then s2
 refine ⟨_,rfl,_,rfl,r,c,p,wa,ps,ws,l,cde,1,rfl,mv.kq k2,cd.kq k2,mn,by omega,by unfold B30;omega,k2.tb,fun t1 u1 v1 H3 k3 g3=>?_⟩
 have k03:=k2.trans k3
 refine ⟨_,rfl,_,rfl,_,_,rfl,rfl,⟨by decide,by decide,by decide⟩,?_⟩
 dsimp only
 rw [e30]
 refine ⟨r,c,p,wa,ps,ws,l,cde,B30,rfl,mv.kq k03,cd.kq k03,mn,by unfold B30;omega,Int.le_refl _,k03.tb,fun t2 u2 v2 H4 k4 g4=>?_⟩
 refine ⟨(by show 2≤sizeLine;decide),fun t ht=>?_⟩
 have s5:=a0e ht (.tup [.ref t1,.ref t2])
 exact q4 t t1 t2 u1 v1 u2 v2 _ ((k03.trans k4).then s5) a0c (s5 _ _ (k4.tup g3)) (s5 _ _ g4)
abbrev NSo:List Str:=["move","code","ends"]
def a9C (b:Bool) (M T CU CB CV CN:Addr):Sp:=fun vs H Q E=>∃ (r c p wa:Addr) (ps ws:List Int) (i:Int) (cde:CT.a0z),vs=[.ref r,.ref c]∧Mg b M H r p wa ps ws i∧Cg H p wa c ps ws cde∧a0R H T a3g a4N∧Rg CU CB CV CN H E (kd b ps ws cde i) ∧
 (kd b ps ws cde i=4→∀ (t:Addr) H',Kq T H H'→Q (.ref t) H')
theorem scso:a0n NSo NBe (a0b sSo):=⟨rfl,rfl,rfl,by decide +kernel,rfl,by decide +kernel,by decide +kernel⟩
theorem ok_so {b:Bool} {M T CU CB CV CN:Addr} {k:Nat} (F:Fun K "stretch_of" "stretch_of" sSo f fd) (GB:a1D P' w K mg base NBe "both_ends" (spBe b M T CU CB CV CN) k):a0O P' w K mg base (CXF P' w) (k+1) f fd NBe (a9C b M T CU CB CV CN):=by
 refine F.okF (k:=k) scso (fun vs H Q E h=>?_) (fun cdv A outer s H vs Q E hr h=>?_)
 ·obtain ⟨r,c,p,wa,ps,ws,i,cde,rfl,_⟩:=h
  rfl
 obtain ⟨r,c,p,wa,ps,ws,i,cde,rfl,mv,cd,tab,rg,q⟩:=h
 refine ⟨_,a0f (a0t (i:=2) scso.nd rfl (Or.inl rfl) (a0l GB.ok hr (by rfl) GB.m GB.kp GB.b .nil a0A (a0a (pv 0) (a0a (pv 1) a0d))))
   (a0h (a0r (a1h (a0a (a0y a1a (a0y a1a (pv 2) a0g (fun _ _=>rfl)) a0g (fun _ _=>rfl)) (a0a (a0y a1a (a0y a1a (pv 2) a0g (fun _ _=>rfl)) a0g (fun _ _=>rfl)) a0d))))),?_⟩
 refine ⟨_,rfl,_,rfl,r,c,p,wa,ps,ws,i,cde,rfl,mv,cd,tab,rg,fun k4 t t1 t2 u1 v1 u2 v2 H1 k1 g g1 g2=>?_⟩
 refine ⟨_,rfl,t,_,_,_,rfl,rfl,SqT.of g,rfl,t1,_,_,_,rfl,rfl,SqT.of g1,rfl,_,rfl,t,_,_,_,rfl,rfl,SqT.of g,rfl,t2,_,_,_,rfl,rfl,SqT.of g2,rfl,(by show 2≤sizeLine;decide),fun t3 ht3=>?_⟩
 exact q k4 t3 _ (k1.then (a0e ht3 _))
theorem scbo:a0n NSo NBe (a0b sBo):=⟨rfl,rfl,rfl,by decide +kernel,rfl,by decide +kernel,by decide +kernel⟩
theorem ok_bo {b:Bool} {M T CU CB CV CN:Addr} {k:Nat} (F:Fun K "beyond_of" "beyond_of" sBo f fd) (GB:a1D P' w K mg base NBe "both_ends" (spBe b M T CU CB CV CN) k):a0O P' w K mg base (CXF P' w) (k+1) f fd NBe (a9C b M T CU CB CV CN):=by
 refine F.okF (k:=k) scbo (fun vs H Q E h=>?_) (fun cdv A outer s H vs Q E hr h=>?_)
 ·obtain ⟨r,c,p,wa,ps,ws,i,cde,rfl,_⟩:=h
  rfl
 obtain ⟨r,c,p,wa,ps,ws,i,cde,rfl,mv,cd,tab,rg,q⟩:=h
 refine ⟨_,a0f (a0t (i:=2) scbo.nd rfl (Or.inl rfl) (a0l GB.ok hr (by rfl) GB.m GB.kp GB.b .nil a0A (a0a (pv 0) (a0a (pv 1) a0d))))
   (a0h (a0r (a1h (a0a (a0y a1a (a0y a1a (pv 2) a0g (fun _ _=>rfl)) a0g (fun _ _=>rfl)) (a0a (a0y a1a (a0y a1a (pv 2) a0g (fun _ _=>rfl)) a0g (fun _ _=>rfl)) a0d))))),?_⟩
 refine ⟨_,rfl,_,rfl,r,c,p,wa,ps,ws,i,cde,rfl,mv,cd,tab,rg,fun k4 t t1 t2 u1 v1 u2 v2 H1 k1 g g1 g2=>?_⟩
 refine ⟨_,rfl,t,_,_,_,rfl,rfl,SqT.of g,rfl,t1,_,_,_,rfl,rfl,SqT.of g1,rfl,_,rfl,t,_,_,_,rfl,rfl,SqT.of g,rfl,t2,_,_,_,rfl,rfl,SqT.of g2,rfl,(by show 2≤sizeLine;decide),fun t3 ht3=>?_⟩
 exact q k4 t3 _ (k1.then (a0e ht3 _))
abbrev b3B:Stmt:=top 48
abbrev b3C:Stmt:=top 49
abbrev a4i:Stmt:=top 60
abbrev a2i:Stmt:=top 61
abbrev b3m:Stmt:=top 62
abbrev a2U:Stmt:=top 63
def a2V (b:Bool) (T CU CB CV CN:Addr):Sp:=fun vs H Q E=>∃ (p wa c:Addr) (ps ws:List Int) (cde:CT.a0z) (i:Int),vs=[.ref p,.ref wa,.ref c,.int i]∧Cg H p wa c ps ws cde∧Num ps ws∧Po ps∧Po ws∧a0R H T a3g a4N∧Rg CU CB CV CN H E (kd b ps ws cde i) ∧
 (kd b ps ws cde i=4→∀ (t:Addr) H',Kq T H H'→Q (.ref t) H')
theorem scpst:a0n NPS NPS (a0b b3u):=⟨rfl,rfl,rfl,by decide +kernel,rfl,by decide +kernel,by decide +kernel⟩
theorem ok_pst {M T CU CB CV CN:Addr} {k:Nat} (hk:2≤k) (F:Fun K "price_stretch" "price_stretch" b3u f fd) (cl:ClM true P' w K mg base M) (GS:a1D P' w K mg base NBe "stretch_of" (a9C true M T CU CB CV CN) k):a0O P' w K mg base (CXF P' w) (k+1) f fd NPS (a2V true T CU CB CV CN):=by
 refine F.okF (k:=k) scpst (fun vs H Q E h=>?_) (fun cdv A outer s H vs Q E hr h=>?_)
 ·obtain ⟨p,wa,c,ps,ws,cde,i,rfl,_⟩:=h
  rfl
 obtain ⟨p,wa,c,ps,ws,cde,i,rfl,cd,nu,pp,pw,tab,rg,q⟩:=h
 have oki:=cl.oki.mono (show 1≤k - 1 by omega)
 refine ⟨_,a0h (a0r (a0l GS.ok hr (by rfl) GS.m GS.kp GS.b .nil a0A (a0a (a3m cl.mkk oki (hr.mono (by omega)) (by rfl) cl.g cl.bi .nil a0C (a0a (pv 0) (a0a (pv 1) (a0a (pv 3) a0d)))) (a0a (pv 2) a0d)))),?_⟩
 refine ⟨_,rfl,_,rfl,_,rfl,fun r dx rn hdx _=>?_⟩
 have sm:a0x H (upd (upd H dx (.own r)) r (.ins M dx [])):=a0v rn (a0e hdx _)
 refine ⟨r,dx,p,wa,i,rfl,a0c,fun H1 k1 ho1=>⟨rfl,?_⟩⟩
 have s1:a0x H H1:=fun a o e=>k1 a o (fun z=>by rw [z,rn] at e;cases e) (sm a o e)
 exact ⟨_,rfl,r,c,p,wa,ps,ws,i,cde,rfl,⟨⟨dx,ho1⟩,s1 _ _ cd.hp,s1 _ _ cd.hw,nu,pp,pw⟩,cd.same s1,a0R.same s1 tab,rg.same s1,fun k4 t H2 k2=>q k4 t H2 ((Kq.of tab s1).trans k2)⟩
theorem scwst:a0n NWS NWS (a0b b3v):=⟨rfl,rfl,rfl,by decide +kernel,rfl,by decide +kernel,by decide +kernel⟩
theorem ok_wst {M T CU CB CV CN:Addr} {k:Nat} (hk:2≤k) (F:Fun K "weight_stretch" "weight_stretch" b3v f fd) (cl:ClM false P' w K mg base M) (GS:a1D P' w K mg base NBe "stretch_of" (a9C false M T CU CB CV CN) k):a0O P' w K mg base (CXF P' w) (k+1) f fd NWS (a2V false T CU CB CV CN):=by
 refine F.okF (k:=k) scwst (fun vs H Q E h=>?_) (fun cdv A outer s H vs Q E hr h=>?_)
 ·obtain ⟨p,wa,c,ps,ws,cde,i,rfl,_⟩:=h
  rfl
 obtain ⟨p,wa,c,ps,ws,cde,i,rfl,cd,nu,pp,pw,tab,rg,q⟩:=h
 have oki:=cl.oki.mono (show 1≤k - 1 by omega)
 refine ⟨_,a0h (a0r (a0l GS.ok hr (by rfl) GS.m GS.kp GS.b .nil a0A (a0a (a3m cl.mkk oki (hr.mono (by omega)) (by rfl) cl.g cl.bi .nil a0C (a0a (pv 0) (a0a (pv 1) (a0a (pv 3) a0d)))) (a0a (pv 2) a0d)))),?_⟩
 refine ⟨_,rfl,_,rfl,_,rfl,fun r dx rn hdx _=>?_⟩
 have sm:a0x H (upd (upd H dx (.own r)) r (.ins M dx [])):=a0v rn (a0e hdx _)
 refine ⟨r,dx,p,wa,i,rfl,a0c,fun H1 k1 ho1=>⟨rfl,?_⟩⟩
 have s1:a0x H H1:=fun a o e=>k1 a o (fun z=>by rw [z,rn] at e;cases e) (sm a o e)
 exact ⟨_,rfl,r,c,p,wa,ps,ws,i,cde,rfl,⟨⟨dx,ho1⟩,s1 _ _ cd.hp,s1 _ _ cd.hw,nu,pp,pw⟩,cd.same s1,a0R.same s1 tab,rg.same s1,fun k4 t H2 k2=>q k4 t H2 ((Kq.of tab s1).trans k2)⟩
theorem scpby:a0n NPS NPS (a0b b3B):=⟨rfl,rfl,rfl,by decide +kernel,rfl,by decide +kernel,by decide +kernel⟩
theorem ok_pby {M T CU CB CV CN:Addr} {k:Nat} (hk:2≤k) (F:Fun K "price_beyond" "price_beyond" b3B f fd) (cl:ClM true P' w K mg base M) (GS:a1D P' w K mg base NBe "beyond_of" (a9C true M T CU CB CV CN) k):a0O P' w K mg base (CXF P' w) (k+1) f fd NPS (a2V true T CU CB CV CN):=by
 refine F.okF (k:=k) scpby (fun vs H Q E h=>?_) (fun cdv A outer s H vs Q E hr h=>?_)
 ·obtain ⟨p,wa,c,ps,ws,cde,i,rfl,_⟩:=h
  rfl
 obtain ⟨p,wa,c,ps,ws,cde,i,rfl,cd,nu,pp,pw,tab,rg,q⟩:=h
 have oki:=cl.oki.mono (show 1≤k - 1 by omega)
 refine ⟨_,a0h (a0r (a0l GS.ok hr (by rfl) GS.m GS.kp GS.b .nil a0A (a0a (a3m cl.mkk oki (hr.mono (by omega)) (by rfl) cl.g cl.bi .nil a0C (a0a (pv 0) (a0a (pv 1) (a0a (pv 3) a0d)))) (a0a (pv 2) a0d)))),?_⟩
 refine ⟨_,rfl,_,rfl,_,rfl,fun r dx rn hdx _=>?_⟩
 have sm:a0x H (upd (upd H dx (.own r)) r (.ins M dx [])):=a0v rn (a0e hdx _)
 refine ⟨r,dx,p,wa,i,rfl,a0c,fun H1 k1 ho1=>⟨rfl,?_⟩⟩
 have s1:a0x H H1:=fun a o e=>k1 a o (fun z=>by rw [z,rn] at e;cases e) (sm a o e)
 exact ⟨_,rfl,r,c,p,wa,ps,ws,i,cde,rfl,⟨⟨dx,ho1⟩,s1 _ _ cd.hp,s1 _ _ cd.hw,nu,pp,pw⟩,cd.same s1,a0R.same s1 tab,rg.same s1,fun k4 t H2 k2=>q k4 t H2 ((Kq.of tab s1).trans k2)⟩
theorem scwby:a0n NWS NWS (a0b b3C):=⟨rfl,rfl,rfl,by decide +kernel,rfl,by decide +kernel,by decide +kernel⟩
theorem ok_wby {M T CU CB CV CN:Addr} {k:Nat} (hk:2≤k) (F:Fun K "weight_beyond" "weight_beyond" b3C f fd) (cl:ClM false P' w K mg base M) (GS:a1D P' w K mg base NBe "beyond_of" (a9C false M T CU CB CV CN) k):a0O P' w K mg base (CXF P' w) (k+1) f fd NWS (a2V false T CU CB CV CN):=by
 refine F.okF (k:=k) scwby (fun vs H Q E h=>?_) (fun cdv A outer s H vs Q E hr h=>?_)
 ·obtain ⟨p,wa,c,ps,ws,cde,i,rfl,_⟩:=h
  rfl
 obtain ⟨p,wa,c,ps,ws,cde,i,rfl,cd,nu,pp,pw,tab,rg,q⟩:=h
 have oki:=cl.oki.mono (show 1≤k - 1 by omega)
 refine ⟨_,a0h (a0r (a0l GS.ok hr (by rfl) GS.m GS.kp GS.b .nil a0A (a0a (a3m cl.mkk oki (hr.mono (by omega)) (by rfl) cl.g cl.bi .nil a0C (a0a (pv 0) (a0a (pv 1) (a0a (pv 3) a0d)))) (a0a (pv 2) a0d)))),?_⟩
 refine ⟨_,rfl,_,rfl,_,rfl,fun r dx rn hdx _=>?_⟩
 have sm:a0x H (upd (upd H dx (.own r)) r (.ins M dx [])):=a0v rn (a0e hdx _)
 refine ⟨r,dx,p,wa,i,rfl,a0c,fun H1 k1 ho1=>⟨rfl,?_⟩⟩
 have s1:a0x H H1:=fun a o e=>k1 a o (fun z=>by rw [z,rn] at e;cases e) (sm a o e)
 exact ⟨_,rfl,r,c,p,wa,ps,ws,i,cde,rfl,⟨⟨dx,ho1⟩,s1 _ _ cd.hp,s1 _ _ cd.hw,nu,pp,pw⟩,cd.same s1,a0R.same s1 tab,rg.same s1,fun k4 t H2 k2=>q k4 t H2 ((Kq.of tab s1).trans k2)⟩
end
end Q
end K66
namespace K66
open PySem L2
namespace Q
theorem fourS {a b c d i:Int} (i0:0≤i) (i1:i < 4):∃ v,atI [V.int a,.int b,.int c,.int d] i=some (.int v):=by
 have h:i=0∨i=1∨i=2∨i=3:=by omega
 rcases h with h | h | h | h <;> subst h <;> exact ⟨_,rfl⟩
theorem a4j {α β:Type} {R:α→β→Prop} {x:α} {u:β}:∀ {xs:List α} {ds:List β} (n:Nat),Paired R xs ds→R x u→Paired R (xs.set n x) (ds.set n u)
 | _,_,_,.nil,_=>.nil
 | _,_,0,.cons _ h,r=>.cons r h
 | _,_,n+1,.cons h1 h,r=>.cons h1 (a4j n h r)
theorem b3n {x:Int} {n:Nat} (h:1≤n):∃ k:Nat,x % (n:Int)=(k:Int)∧k < n:=by
 have h1:0≤x % (n:Int):=Int.emod_nonneg _ (by omega)
 have h2:x % (n:Int) < (n:Int):=Int.emod_lt_of_pos _ (by omega)
 exact ⟨(x % (n:Int)).toNat,by omega,by omega⟩
abbrev RCd (H:Hp):V→List (List Int)→Prop:=a9A H (a9A H a7g)
def rInC:R2:=fun x y H Q=>∃ (c:Addr) (xs:List V) (cs:List (List (List Int))) (u:List (List Int)),y=.ref c∧RCd H x u∧H c=some (.lst xs)∧Paired (RCd H) xs cs∧Q (.bl (decide (u∈cs))) H
theorem op_inC {X:Cx} (hu:X.A.units+4 < cLine):OpR X (compareOp .In) rInC:=by
 intro pins s σ H x y v w' Q I rx ry h
 obtain ⟨c,xs,ws,u,rfl,hx,hc,hw,q⟩:=h
 cases ry
 obtain ⟨z,its,n,r,hl,e0⟩:=I.lstM hc
 obtain ⟨e,at_,ev⟩:=eqs_of I (EqK.tup (EqK.tup (H:=H) (s:=s) (n:=0) EqK.int I.hok) I.hok) (fun x a ⟨b,_,e,_⟩=>⟨b,e⟩) (A:=X.A.in1) (by show X.A.units+1+(0+1+1) < cLine;omega) hx rx r hw
 have lw:xs.length=ws.length:=hw.length
 have li:xs.length=its.length:=r.length
 refine SeqAt.in_listAt e ⟨_,e0,rfl,_,rfl⟩ (fun z hz=>at_ z (by simpa using hz)) ⟨.bl _,H,I,rfl,?_⟩
 have ea:its.toArray.any e=decide (u∈ws):=by
  rw [show its.toArray.any e=its.any e by simp,Bool.eq_iff_iff]
  simp only [List.any_eq_true,decide_eq_true_eq]
  constructor
  ·rintro ⟨z,hz,hz'⟩
   obtain ⟨i,hi⟩:=List.mem_iff_getElem?.mp hz
   rw [ev i z hi] at hz'
   exact List.mem_of_getElem? (of_decide_eq_true hz')
  ·intro hm
   obtain ⟨i,hi⟩:=List.mem_iff_getElem?.mp hm
   have il:i < ws.length:=(List.getElem?_eq_some_iff.mp hi).1
   have hi2:its[i]?=some (its[i]'(by omega)):=List.getElem?_eq_getElem _
   exact ⟨its[i]'(by omega),List.getElem_mem _,by rw [ev i _ hi2];exact decide_eq_true hi⟩
 rw [ea]
 exact q
def bad (m x:Int):Bool:=decide (x < 0) || decide (x ≥ m)
theorem a3J {m x:Int}:bad m x=true↔x < 0∨x ≥ m:=by
 unfold bad
 rw [Bool.or_eq_true,decide_eq_true_iff,decide_eq_true_iff]
theorem b1I {m:Int} {u:List Int}:(u.filter (bad m)).length > 0↔¬ alone m u=true:=by
 rw [a5p,gt_iff_lt,List.length_pos_iff,ne_eq,List.filter_eq_nil_iff]
 constructor
 ·intro h z
  refine h fun x hx y=>?_
  have:=z x hx
  rcases a3J.mp y with y | y <;> omega
 ·intro h z
  refine h fun x hx=>?_
  have:=z x hx
  rw [a3J] at this
  omega
theorem chp_ne {ps ws:List Int} (il:CT.inL ps.length ws.length) (w1:1≤ws.length):chp ps ws≠[]:=by
 have hne:=CT.b2T il w1
 cases e:CT.mi ((CT.Cs ps.length ws.length).map (CT.co ps ws 0)) with
 | none =>
  have z:=CT.a2S.mp e
  rw [List.map_eq_nil_iff] at z
  rw [z] at hne
  cases hne
 | some m =>
  obtain ⟨hm,_⟩:=CT.a1M.mp e
  obtain ⟨c,hc,ec⟩:=List.mem_map.mp hm
  intro z
  have:c∈chp ps ws:=List.mem_filter.mpr ⟨hc,decide_eq_true (by rw [e,ec])⟩
  rw [z] at this
  cases this
theorem sqL_q {K:PySem.W.Frag} {T:Addr} {H H':Hp} {a:Addr} {xs:List V} (k:Kq T H H') (h:SqL K H a xs):SqL K H' a xs:=by
 rcases h with (e | ⟨o,e⟩) | r
 ·exact .inl (.inl (k.lst e))
 ·exact .inl (.inr ⟨o,k.sm _ _ (by intro _ z;cases z) e⟩)
 ·exact .inr r
theorem tw_q {T:Addr} {H H':Hp} {x:V} {c:CT.a0z} (k:Kq T H H') (h:Tw H x c):Tw H' x c:=by
 obtain ⟨a,xs,rfl,e,w⟩:=h
 exact ⟨a,xs,rfl,k.tup e,k.ws w⟩
theorem tws_q {T:Addr} {H H':Hp} {xs:List V} {cs:List CT.a0z} (k:Kq T H H') (h:Paired (Tw H) xs cs):Paired (Tw H') xs cs:=Paired.mapP h fun _ _ z=>tw_q k z
def wI:Bool→Int
 | true=>0
 | false=>1
theorem b1J {p wa:Addr} (b:Bool):atI [V.ref p,V.ref wa] (wI b)=some (.ref (cond b p wa)):=by cases b <;> rfl
theorem at_str {x y:Str} (b:Bool):atI [V.str x,V.str y] (wI b)=some (.str (cond b x y)):=by cases b <;> rfl
theorem tw_pk {H:Hp} {p wa:Addr} {ps ws:List Int} (b:Bool) (h1:TW H p ps) (h2:TW H wa ws):TW H (cond b p wa) (cond b ps ws):=by cases b <;> assumption
theorem b1K {ps ws:List Int} (b:Bool):(cond b ps ws).length=nL b ps ws:=by cases b <;> rfl
def nm (c:Nat):Str:=match c with
 | 0=>"unlike"
 | 1=>"word"
 | 2=>"thing"
 | 3=>"cheapest"
 | _=>"told"
theorem nm_pk (b:Bool):nm (if b=true then 1 else 2)=cond b ("word":Str) ("thing":Str):=by cases b <;> rfl
section
variable {P':Program} {w:World} {K:PySem.W.Frag} {mg:Str→Option Value} {base:Heap} {f:Addr} {fd:FuncData}
abbrev NSp:List Str:=["code","letters","cell","made","at","other","strange"]
abbrev PSp:List Str:=["code","letters","cell"]
theorem scSp:a0n NSp PSp (a0b a2U):=⟨rfl,rfl,rfl,by decide +kernel,rfl,by decide +kernel,by decide +kernel⟩
def spSp:Sp:=fun vs H Q _=>∃ (a:Addr) (xs:List V) (c:CT.a0z) (L:Nat) (cl:Int),vs=[.ref a,.int (L:Int),.int cl]∧H a=some (.tup xs)∧Ws H xs c∧1≤c.length∧c.length≤30∧(∀ u∈c,u.length≤400)∧2≤L∧L≤100∧∀ (b:Addr) c' H',a0x H H'→(∃ ys,H' b=some (.tup ys)∧Ws H' ys c')→c'.length≤100→(∀ u∈c',u.length≤1000)→Q (.ref b) H'
def Md (H:Hp) (a d:Addr) (L:Nat) (cl:Int) (k k2 n j:Nat) (σ:St) (H':Hp):Prop:=∃ (ys:List V) (mss:CT.a0z) (x6:Option V),σ=[some (.ref a),some (.int (L:Int)),some (.int cl),some (.ref d),some (.int (k:Int)),some (.int (k2:Int)),x6]∧a0x H H'∧H' d=some (.lst ys)∧Ws H' ys mss∧(cl % 16≠2→n≤mss.length)∧mss.length≤40∧∀ ns∈mss,ns.length≤400+j
theorem Md.next {H H':Hp} {a d:Addr} {L:Nat} {cl:Int} {k k2 n j:Nat} {σ:St} (m:Md H a d L cl k k2 n j σ H'):Md H a d L cl k k2 n (j+1) σ H':=by
 obtain ⟨ys,mss,x6,h1,h2,h3,h4,h5,h6,h7⟩:=m
 exact ⟨ys,mss,x6,h1,h2,h3,h4,h5,h6,fun ns h=>by have:=h7 ns h;omega⟩
theorem a5u {H H7:Hp} {a d:Addr} {L:Nat} {cl:Int} {k k2 n j:Nat} {ys:List V} {mss:CT.a0z} {x6:Option V} (hd:H d=none) (s:a0x H H7) (g7:H7 d=some (.lst ys)) (w7:Ws H7 ys mss) (c1:cl % 16≠2→n≤mss.length) (l40:mss.length≤40) (b:∀ ns∈mss,ns.length≤400+j) {x:V} {u:List Int} (hx:Wd H7 x u) (lu:u.length≤400+j) (i:Nat):Md H a d L cl k k2 n j [some (.ref a),some (.int (L:Int)),some (.int cl),some (.ref d),some (.int (k:Int)),some (.int (k2:Int)),x6] (upd H7 d (.lst (ys.set i x))) :=
 ⟨ys.set i x,mss.set i u,x6,rfl,a0v hd s,a0c,Ws.upd g7 (a4j i w7 hx),by rw [List.length_set];exact c1,by rw [List.length_set];exact l40,fun ns hns=>by
  rcases List.mem_or_eq_of_mem_set hns with z | z
  ·exact b ns z
  ·rw [z];exact lu⟩
theorem ok_sp (F:Fun K "_law_spoilt" "_law_spoilt" a2U f fd) (ml:mg "len"=none) (mL:mg "list"=none) (mt:mg "tuple"=none):a0O P' w K mg base CX0 1 f fd PSp spSp:=by
 refine F.ok (k:=0) scSp (fun vs H Q E h=>?_) (fun cdv A outer s H vs Q E hr h=>?_)
 ·obtain ⟨a,xs,c,L,cl,rfl,_⟩:=h
  rfl
 obtain ⟨a,xs,c,L,cl,rfl,ha,hx,c1,c30,b9,L2',L100,q⟩:=h
 have lx:xs.length=c.length:=hx.length
 refine ⟨_,a0f (a0t (i:=3) scSp.nd rfl (Or.inl rfl) (a1S a4V (by rfl) mL b_list (a0a (pv 0) (a0d))))
   (a0f (a0t (i:=4) scSp.nd rfl (Or.inl rfl) (a0p a0L (a0p a1i (pv 2) (a0g)) (a0o a0i (by rfl) ml PySem.boot_len (a0a (pv 3) (a0d)))))
   (a0f (a0t (i:=5) scSp.nd rfl (Or.inl rfl) (a0p a0L (a0p a1i (pv 2) (a0g)) (a0o a0i (by rfl) ml PySem.boot_len (a0a (pv 3) (a0d)))))
   (a0f (a1X (a1e (a0B a1G (a0p a0L (pv 2) (a0g)) (a0g) (nomark _)) (a0h (a1c (a4W PySem.F.plainAttrs_list PySem.F.slot_list_insert PySem.F.type_list_insert a8J (pv 3) (a0a (pv 4) (a0a (a1h a0d) (a0d)))))) (a0D)))
   (a0f (a1X (a1e (PW.pt (pw_and (a0B a1G (a0p a0L (pv 2) (a0g)) (a0g) (nomark _)) (b1P (a0B a7R (a0o a0i (by rfl) ml PySem.boot_len (a0a (pv 3) (a0d))) (a0g) (nomark _))))) (a0h (a1c (a4W PySem.F.plainAttrs_list PySem.F.slot_list_pop PySem.F.type_list_pop a9N (pv 3) (a0a (pv 4) (a0d))))) (a0D)))
   (a0f (a1X (a1e (a0B a1G (a0p a0L (pv 2) (a0g)) (a0g) (nomark _)) (a0f (a0t (i:=6) scSp.nd rfl (Or.inl rfl) (a0y a0w (a0N (a0a (a2x a1z a0g) (a0a (pv 1) (a0a (a0p a0I (pv 1) (pv 2)) (a0a (a0p a1q (a2x a1z a0g) (pv 2)) (a0d)))))) (a0p a0L (a0p a1i (pv 2) (a0g)) (a0g)) (fun _ _=>rfl)))
   (a0h (a2k (a0p a2J (a0y a0w (pv 3) (pv 4) (fun _ _=>rfl)) (a1h (a0a (pv 6) (a0d)))) (a2W (pv 3) (pv 4) a1A)))) (a0D)))
   (a0f (a1X (a1e (a0B a1G (a0p a0L (pv 2) (a0g)) (a0g) (nomark _)) (a0h (a2k (a0p a2J (a0y a0w (pv 3) (pv 4) (fun _ _=>rfl)) (a1h (a0a (a0p a0L (a0p a1i (pv 2) (a0g)) (pv 1)) (a0d)))) (a2W (pv 3) (pv 4) a1A))) (a0D)))
   (a0f (a1X (a1e (a0B a1G (a0p a0L (pv 2) (a0g)) (a0g) (nomark _)) (a0f (a2k (a0y a1a (pv 0) (pv 5) (fun _ _=>rfl)) (a2W (pv 3) (pv 4) a1A))
   (a0h (a2k (a0y a1a (pv 0) (pv 4) (fun _ _=>rfl)) (a2W (pv 3) (pv 5) a1A)))) (a0D)))
   (a0f (a1X (a1e (a0B a1G (a0p a0L (pv 2) (a0g)) (a0g) (nomark _)) (a0h (a2k (a0y a0w (pv 3) (pv 5) (fun _ _=>rfl)) (a2W (pv 3) (pv 4) a1A))) (a0D)))
   (a0h (a0r (a1S a1u (by rfl) mt a4v (a0a (pv 3) (a0d))))))))))))),?_⟩
 refine ⟨_,rfl,a,_,rfl,.inr (SqT.of ha),fun d hd=>?_⟩
 have s1:=a0e hd (.lst xs)
 have g1:upd H d (.lst xs) d=some (.lst xs):=a0c
 have hx1:=Ws.same s1 hx
 generalize upd H d (.lst xs)=H1 at s1 g1 hx1 ⊢
 obtain ⟨k,ek,hk⟩:=b3n (x:=cl / 16) c1
 obtain ⟨k2,ek2,hk2⟩:=b3n (x:=cl / 400) c1
 have ek':(fun (i j:Int)=>V.int (i % j)) (cl / 16) (c.length:Int)=.int (k:Int):=congrArg V.int ek
 have ek2':(fun (i j:Int)=>V.int (i % j)) (cl / 400) (c.length:Int)=.int (k2:Int):=congrArg V.int ek2
 refine ⟨_,rfl,_,_,rfl,rfl,⟨by decide,by decide⟩,_,rfl,d,_,rfl,.inl (SqL.of g1),?_⟩
 rw [lx]
 refine ⟨_,_,rfl,rfl,(by show (0:Int) < _;omega),?_⟩
 rw [ek']
 refine ⟨_,rfl,_,_,rfl,rfl,⟨by decide,by decide⟩,_,rfl,d,_,rfl,.inl (SqL.of g1),?_⟩
 rw [lx]
 refine ⟨_,_,rfl,rfl,(by show (0:Int) < _;omega),?_⟩
 rw [ek2']
 have hx0:xs[k]?=some (xs[k]'(by omega)):=List.getElem?_eq_getElem _
 obtain ⟨u,hu,ru⟩:=Paired.right_of hx k _ hx0
 obtain ⟨ua,eu,hua⟩:=Wd.ti ru
 rw [eu] at hx0
 have hx2:xs[k2]?=some (xs[k2]'(by omega)):=List.getElem?_eq_getElem _
 obtain ⟨u2,hu2,ru2⟩:=Paired.right_of hx k2 _ hx2
 obtain ⟨ua2,eu2,hua2⟩:=Wd.ti ru2
 rw [eu2] at hx2
 have lu:=b9 u (List.mem_of_getElem? hu)
 have lu2:=b9 u2 (List.mem_of_getElem? hu2)
 refine ⟨fun σ H'=>Md H a d L cl k k2 c.length 1 σ H'∧∀ zs,H' d=some (.lst zs)→c.length≤zs.length,?_,?_⟩
 ·refine ⟨_,rfl,_,_,rfl,rfl,(by show (0:Int) < _;decide),rfl,_,rfl,?_⟩
  refine a1C (fun _=>?_) (fun _=>⟨⟨xs,c,_,rfl,s1,g1,hx1,fun _=>Nat.le_refl _,by omega,fun ns h=>by have:=b9 ns h;omega⟩,fun zs hz=>by rw [g1] at hz;cases hz;omega⟩)
  refine ⟨_,rfl,.inl ⟨rfl,_,SqL.of g1⟩,_,rfl,(by show 0≤sizeLine;decide),fun t ht=>?_⟩
  have s2:=a0e ht (.tup [])
  have g2:=s2 _ _ g1
  have ht2:TW (upd H1 t (.tup [])) t []:=a0c
  have hx2:=Ws.same s2 hx1
  generalize upd H1 t (.tup [])=H2 at s2 g2 ht2 hx2 ⊢
  refine ⟨d,_,(k:Int),k,_,rfl,rfl,rfl,g2,by omega,by omega,⟨_,c.take k++[] :: c.drop k,_,rfl,a0v hd (s1.trans s2),a0c,Ws.upd g2 (L2.Paired.appendP (Paired.takeP k hx2) (.cons (Wd.of ht2) (Paired.dropP k hx2))),fun _=>?_,?_,fun ns hns=>?_⟩,fun zs hz=>?_⟩
  ·rw [List.length_append,List.length_cons,List.length_take,List.length_drop];omega
  ·rw [List.length_append,List.length_cons,List.length_take,List.length_drop];omega
  ·rcases List.mem_append.mp hns with z | z
   ·have:=b9 ns (List.mem_of_mem_take z);omega
   ·rcases List.mem_cons.mp z with z | z
    ·rw [z];exact Nat.zero_le _
    ·have:=b9 ns (List.mem_of_mem_drop z);omega
  ·rw [a0c] at hz
   cases hz
   rw [List.length_append,List.length_cons,List.length_take,List.length_drop];omega
 rintro σ H2 ⟨⟨ys,mss,x6,rfl,s2,g2,w2,n2,m2,b2⟩,hn1⟩
 have n1:=hn1 ys g2
 have ly:ys.length=mss.length:=w2.length
 refine ⟨Md H a d L cl k k2 c.length 2,?_,?_⟩
 ·have go:Md H a d L cl k k2 c.length 2 [some (.ref a),some (.int (L:Int)),some (.int cl),some (.ref d),some (.int (k:Int)),some (.int (k2:Int)),x6] H2:=⟨ys,mss,x6,rfl,s2,g2,w2,n2,m2,fun ns h=>by have:=b2 ns h;omega⟩
  refine ⟨_,rfl,_,_,rfl,rfl,(by show (0:Int) < _;decide),rfl,_,rfl,?_⟩
  refine a1C (fun y=>?_) (fun _=>go)
  have y1:cl % 16=2:=V.int.inj (of_decide_eq_true y)
  refine ⟨_,rfl,d,_,rfl,.inl (SqL.of g2),_,_,rfl,rfl,_,rfl,?_⟩
  refine a1C (fun z=>?_) (fun _=>go)
  have z1:(ys.length:Int) > 1:=of_decide_eq_true z
  have hk3:k < ys.length:=by have:=n1;omega
  ·refine ⟨_,rfl,.inl ⟨rfl,_,SqL.of g2⟩,_,rfl,d,_,(k:Int),k,ys[k]'hk3,rfl,rfl,g2,by omega,by omega,(a5C (a1L hk3)).1,List.getElem?_eq_getElem hk3,_,mss.eraseIdx k,_,rfl,a0v hd s2,a0c,Ws.upd g2 (Paired.eraseP k w2),fun z=>absurd y1 z,?_,fun ns hns=>by have:=b2 ns (List.mem_of_mem_eraseIdx hns);omega⟩
   rw [List.length_eraseIdx]
   split <;> omega
 rintro σ H3 ⟨ys3,mss3,x63,rfl,s3,g3,w3,n3,m3,b3⟩
 refine ⟨Md H a d L cl k k2 c.length 3,?_,?_⟩
 ·refine ⟨_,rfl,_,_,rfl,rfl,(by show (0:Int) < _;decide),rfl,_,rfl,?_⟩
  refine a1C (fun y=>?_) (fun _=>Md.next ⟨ys3,mss3,x63,rfl,s3,g3,w3,n3,m3,b3⟩)
  have y1:cl % 16=3:=V.int.inj (of_decide_eq_true y)
  have hk3:k < mss3.length:=by have:=n3 (by omega);omega
  have hn:mss3[k]?=some (mss3[k]'hk3):=List.getElem?_eq_getElem hk3
  obtain ⟨x,hxk,rx⟩:=Paired.left_of w3 k _ hn
  obtain ⟨ya,rfl,hya⟩:=Wd.ti rx
  have bk:=b3 _ (List.getElem_mem hk3)
  generalize mss3[k]'hk3=ns3 at hya bk hn
  have lk:k < ys3.length:=(List.getElem?_eq_some_iff.mp hxk).1
  refine ⟨_,rfl,_,rfl,_,rfl,_,rfl,_,_,rfl,rfl,_,rfl,_,rfl,_,_,rfl,rfl,(by show 4≤sizeLine;decide),fun lL hL=>?_⟩
  dsimp only
  obtain ⟨sv,hsv⟩:=fourS (a:=-1) (b:=(L:Int)) (c:=(L:Int)+cl) (d:=-1 - cl) (i:=cl / 10000 % 4) (by omega) (by omega)
  have s4:=a0e hL (.lst [V.int (-1),.int (L:Int),.int ((L:Int)+cl),.int (-1 - cl)])
  have h4:upd H3 lL (.lst [V.int (-1),.int (L:Int),.int ((L:Int)+cl),.int (-1 - cl)]) lL=some (.lst [V.int (-1),.int (L:Int),.int ((L:Int)+cl),.int (-1 - cl)]):=a0c
  generalize upd H3 lL (.lst [V.int (-1),.int (L:Int),.int ((L:Int)+cl),.int (-1 - cl)])=H5 at s4 h4 ⊢
  refine ⟨_,rfl,_,_,rfl,rfl,⟨by decide,by decide⟩,_,_,rfl,rfl,(by show (0:Int) < _;decide),lL,_,_,_,rfl,rfl,SqL.of h4,hsv,?_⟩
  refine ⟨_,rfl,_,rfl,d,_,_,_,rfl,rfl,SqL.of (s4 _ _ g3),a2l hxk,_,rfl,(by show 1≤sizeLine;decide),fun t1 ht1=>?_⟩
  have s6:=a0e ht1 (.tup [V.int sv])
  have s46:=s4.trans s6
  refine ⟨ya,t1,_,_,rfl,rfl,s46 _ _ hya,a0c,small (by rw [List.length_map];show _+1≤1000;omega),fun p7 H7 s7 hp7=>?_⟩
  have s47:=s46.trans s7
  have g7:=s47 _ _ g3
  have hw:TW H7 p7 (ns3++[sv]):=by show H7 p7=_;rw [hp7,List.map_append];rfl
  exact ⟨_,rfl,_,rfl,d,_,(k:Int),k,rfl,rfl,g7,a1L lk,a5u hd (s3.trans s47) g7 (Ws.same s47 w3) n3 m3 (fun ns h=>by have:=b3 ns h;omega) (Wd.of hw) (by rw [List.length_append];show _+1≤_;omega) k⟩
 rintro σ H4 ⟨ys4,mss4,x64,rfl,s4,g4,w4,n4,m4,b4⟩
 refine ⟨Md H a d L cl k k2 c.length 4,?_,?_⟩
 ·refine ⟨_,rfl,_,_,rfl,rfl,(by show (0:Int) < _;decide),rfl,_,rfl,?_⟩
  refine a1C (fun y=>?_) (fun _=>Md.next ⟨ys4,mss4,x64,rfl,s4,g4,w4,n4,m4,b4⟩)
  have y1:cl % 16=4:=V.int.inj (of_decide_eq_true y)
  have hk3:k < mss4.length:=by have:=n4 (by omega);omega
  have hn:mss4[k]?=some (mss4[k]'hk3):=List.getElem?_eq_getElem hk3
  obtain ⟨x,hxk,rx⟩:=Paired.left_of w4 k _ hn
  obtain ⟨ya,rfl,hya⟩:=Wd.ti rx
  have bk:=b4 _ (List.getElem_mem hk3)
  generalize mss4[k]'hk3=ns3 at hya bk hn
  have lk:k < ys4.length:=(List.getElem?_eq_some_iff.mp hxk).1
  refine ⟨_,rfl,_,rfl,d,_,_,_,rfl,rfl,SqL.of g4,a2l hxk,_,rfl,_,_,rfl,rfl,⟨by decide,by decide⟩,_,rfl,_,_,rfl,rfl,(by show (0:Int) < _;omega),(by show 1≤sizeLine;decide),fun t1 ht1=>?_⟩
  have s6:=a0e ht1 (.tup [.int (cl / 10000 % (L:Int))])
  refine ⟨ya,t1,_,_,rfl,rfl,s6 _ _ hya,a0c,small (by rw [List.length_map];show _+1≤1000;omega),fun p7 H7 s7 hp7=>?_⟩
  have s47:=s6.trans s7
  have g7:=s47 _ _ g4
  have hw:TW H7 p7 (ns3++[cl / 10000 % (L:Int)]):=by show H7 p7=_;rw [hp7,List.map_append];rfl
  exact ⟨_,rfl,_,rfl,d,_,(k:Int),k,rfl,rfl,g7,a1L lk,a5u hd (s4.trans s47) g7 (Ws.same s47 w4) n4 m4 (fun ns h=>by have:=b4 ns h;omega) (Wd.of hw) (by rw [List.length_append];show _+1≤_;omega) k⟩
 rintro σ H5 ⟨ys5,mss5,x65,rfl,s5,g5,w5,n5,m5,b5⟩
 have ly5:ys5.length=mss5.length:=w5.length
 refine ⟨Md H a d L cl k k2 c.length 5,?_,?_⟩
 ·refine ⟨_,rfl,_,_,rfl,rfl,(by show (0:Int) < _;decide),rfl,_,rfl,?_⟩
  refine a1C (fun y=>?_) (fun _=>Md.next ⟨ys5,mss5,x65,rfl,s5,g5,w5,n5,m5,b5⟩)
  have y1:cl % 16=5:=V.int.inj (of_decide_eq_true y)
  have nn:=n5 (by omega)
  refine ⟨_,rfl,_,rfl,a,_,_,_,rfl,rfl,SqT.of (s5 _ _ ha),a2l hx2,_,rfl,_,rfl,d,_,(k:Int),k,rfl,rfl,g5,a1L (by omega),?_⟩
  obtain ⟨zs,zss,z6,ez,t1,t2,t3,t4,t5,t6⟩:=a5u (a:=a) (L:=L) (k:=k) (k2:=k2) (j:=5) (x6:=x65) hd s5 g5 w5 n5 m5 (fun ns h=>by have:=b5 ns h;omega) (Wd.of (s5 _ _ hua2)) (by omega) k
  have lz:zs.length=zss.length:=t3.length
  generalize upd H5 d (.lst (ys5.set k (.ref ua2)))=H6 at t1 t2 t3 ⊢
  exact ⟨_,rfl,_,rfl,a,_,_,_,rfl,rfl,SqT.of (t1 _ _ ha),a2l hx0,_,rfl,_,rfl,d,_,(k2:Int),k2,rfl,rfl,t2,a1L (by have:=t4 (by omega);omega),a5u hd t1 t2 t3 t4 t5 t6 (Wd.of (t1 _ _ hua)) (by omega) k2⟩
 rintro σ H6 ⟨ys6,mss6,x66,rfl,s6,g6,w6,n6,m6,b6⟩
 have ly6:ys6.length=mss6.length:=w6.length
 refine ⟨Md H a d L cl k k2 c.length 6,?_,?_⟩
 ·refine ⟨_,rfl,_,_,rfl,rfl,(by show (0:Int) < _;decide),rfl,_,rfl,?_⟩
  refine a1C (fun y=>?_) (fun _=>Md.next ⟨ys6,mss6,x66,rfl,s6,g6,w6,n6,m6,b6⟩)
  have y1:cl % 16=6:=V.int.inj (of_decide_eq_true y)
  have nn:=n6 (by omega)
  have hk3:k2 < mss6.length:=by omega
  have hn:mss6[k2]?=some (mss6[k2]'hk3):=List.getElem?_eq_getElem hk3
  obtain ⟨x,hxk,rx⟩:=Paired.left_of w6 k2 _ hn
  have bk:=b6 _ (List.getElem_mem hk3)
  exact ⟨_,rfl,_,rfl,d,_,_,_,rfl,rfl,SqL.of g6,a2l hxk,_,rfl,_,rfl,d,_,(k:Int),k,rfl,rfl,g6,a1L (by omega),a5u hd s6 g6 w6 n6 m6 (fun ns h=>by have:=b6 ns h;omega) rx (by omega) k⟩
 rintro σ H7 ⟨ys7,mss7,x67,rfl,s7,g7,w7,n7,m7,b7⟩
 refine ⟨_,rfl,d,_,rfl,.inl ⟨SqL.of g7,fun t ht=>?_⟩⟩
 have s8:=a0e ht (.tup ys7)
 exact q t mss7 _ (s7.trans s8) ⟨ys7,a0c,Ws.same s8 w7⟩ (by omega) fun ns h=>by have:=b7 ns h;omega
abbrev NDu:List Str:=["which","prices","weights","code","at","cheapest","word"]
abbrev PDu:List Str:=["which","prices","weights","code","at","cheapest"]
def spDu:Sp:=fun vs H Q _=>∃ (b:Bool) (p wa a ch:Addr) (ps ws:List Int) (c:CT.a0z) (i:Int) (ys:List V),vs=[.int (wI b),.ref p,.ref wa,.ref a,.int i,.ref ch]∧Cg H p wa a ps ws c∧H ch=some (.lst ys)∧Paired (Tw H) ys (chp ps ws)∧∀ H',a0x H H'→Q (.str (nm (kd b ps ws c i))) H'
theorem scDu:a0n NDu PDu (a0b b3m):=⟨rfl,rfl,rfl,by decide +kernel,rfl,by decide +kernel,by decide +kernel⟩
theorem ndDu:(("letter":Str) :: NDu).Nodup:=by decide +kernel
theorem ok_du (F:Fun K "_law_due" "_law_due" b3m f fd) (ml:mg "len"=none):a0O P' w K mg base CX0 1 f fd PDu spDu:=by
 refine F.ok (k:=0) scDu (fun vs H Q E h=>?_) (fun cdv A outer s H vs Q E hr h=>?_)
 ·obtain ⟨b,p,wa,a,ch,ps,ws,c,i,ys,rfl,_⟩:=h
  rfl
 obtain ⟨b,p,wa,a,ch,ps,ws,c,i,ys,rfl,cd,hch,hys,q⟩:=h
 obtain ⟨xs,ha,hx⟩:=cd.hc
 have lx:xs.length=c.length:=hx.length
 refine ⟨_,a0f (a1e (a0B b1S (a0o a0i (by rfl) ml PySem.boot_len (a0a (pv 3) (a0d))) (a0o a0i (by rfl) ml PySem.boot_len (a0a (pv 2) (a0d))) (nomark _)) (a0h (a0r (a1o))) (a0D))
   (a0f (a1l PassesOwn.never rfl (a7L (pv 3)) (a0H (i:=6) scDu.nd rfl (Or.inl rfl)) (a0h (a1e (a0B a7R (a0o a0i (by rfl) ml PySem.boot_len (a0a (a2B (M:=NDu) rfl (a0q.of (a0b b3m) NDu rfl rfl rfl (by decide +kernel) (by decide +kernel) (by decide +kernel) rfl (by decide +kernel)) ndDu rfl (pv 6) a0V
   (fun cl C s0 H0 fp=>⟨a5E (b1o (PW.pt (a9E (a0B a4o (pv 0) a0g (nomark _)) (a6g (a0B op_ge (pv 0) (a0o (a8L K) (by rfl) ml PySem.boot_len (a0a (pv 2) a0d)) (nomark _)))))),pv 0⟩)) (a0d))) (a0g) (nomark _)) (a0h (a0r (a1o))) (a0D))))
   (a0f (a1e (b1o (PW.pt (a9E (a0B a4o (pv 4) (a0g) (nomark _)) (a6g (a0B op_ge (pv 4) (a0o a0i (by rfl) ml PySem.boot_len (a0a (a0y a0w (a0N (a0a (pv 1) (a0a (pv 2) (a0d)))) (pv 0) (fun _ _=>rfl)) (a0d))) (nomark _)))))) (a0h (a0r (a0y a0w (a0N (a0a (a1o) (a0a (a1o) (a0d)))) (pv 0) (fun _ _=>rfl)))) (a0D))
   (a0h (a0r (a4l (a0B (op_inC (hu4 hr)) (pv 3) (pv 5) rfl) a1o a1o))))),?_⟩
 refine ⟨_,rfl,a,_,rfl,.inr (SqT.of ha),_,rfl,wa,_,rfl,.inr (SqT.of cd.hw),rfl,_,rfl,?_⟩
 rw [List.length_map,lx]
 refine a1C (fun y=>?_) (fun y=>?_)
 ·have ne:c.length≠ws.length:=fun z=>by rw [z] at y;simp at y
  have:=q H (a0x.refl _)
  rw [b0X ne] at this
  exact this
 have el:c.length=ws.length:=by
  by_cases z:c.length=ws.length
  ·exact z
  ·refine absurd ?_ y
   rw [Bool.not_eq_true',decide_eq_false_iff_not]
   intro x
   have:=V.int.inj x
   omega
 refine ⟨_,rfl,a,rfl,⟨_,SqT.of ha⟩,?_⟩
 refine a7N (xs:=xs) (fun j σ H'=>a0x H H'∧(∀ u∈c.take j,alone (ps.length:Int) u=true)∧∃ x6:Option V,σ=[some (.int (wI b)),some (.ref p),some (.ref wa),some (.ref a),some (.int i),some (.ref ch),x6]) ⟨a0x.refl _,(fun u hu=>by rw [List.take_zero] at hu;cases hu),_,rfl⟩ (fun i σ H' _ hP=>SqT.of (hP.1 _ _ ha)) (fun j x σ H1 hxi hP=>?_) (fun σ H1 hP=>?_)
 ·obtain ⟨s1,al,x6,rfl⟩:=hP
  obtain ⟨v,hv,rv⟩:=Paired.right_of hx j x hxi
  obtain ⟨wo,rfl,hwo0⟩:=Wd.ti rv
  have hwo:=s1 _ _ hwo0
  have lv:=cd.l2 v (List.mem_of_getElem? hv)
  refine ⟨_,rfl,wo,_,rfl,SqT.of hwo,fun d1 hd1=>?_⟩
  refine ⟨fun m H'=>a0x H1 H'∧H' d1=some (.lst (((v.take m).filter (bad (ps.length:Int))).map V.int)),⟨a0e hd1 _,a0c⟩,fun m H' _ hP=>SqT.of (hP.1 _ _ hwo),fun m y H' hy hP=>?_,fun H' hP=>?_⟩
  ·obtain ⟨sm,hd'⟩:=hP
   rw [List.getElem?_map] at hy
   obtain ⟨z,hz,rfl⟩:=Option.map_eq_some_iff.mp hy
   have et:(v.take (m+1)).filter (bad (ps.length:Int))=(v.take m).filter (bad (ps.length:Int))++(if bad (ps.length:Int) z=true then [z] else []):=by
    rw [List.take_add_one,hz,List.filter_append]
    congr 1
    show [z].filter _=_
    rw [List.filter_cons]
    rfl
   refine ⟨fun b H2=>b=bad (ps.length:Int) z∧H2=H',?_,?_⟩
   ·refine ⟨_,rfl,_,_,rfl,rfl,_,rfl,?_⟩
    refine a1C (fun y=>⟨?_,rfl⟩) (fun y=>?_)
    ·exact (a3J.mpr (.inl (of_decide_eq_true y))).symm
    ·refine ⟨_,rfl,_,rfl,p,_,rfl,.inr (SqT.of (sm _ _ (s1 _ _ cd.hp))),_,_,rfl,rfl,_,rfl,?_,rfl⟩
     rw [List.length_map]
     have y1:¬ z < 0:=fun w=>y (decide_eq_true w)
     by_cases g:z ≥ (ps.length:Int)
     ·rw [a3J.mpr (.inr g)];exact decide_eq_true g
     ·rw [show bad (ps.length:Int) z=false from Bool.eq_false_iff.mpr fun w=>by rcases a3J.mp w with w | w <;> omega];exact decide_eq_false g
   ·rintro b H2 ⟨rfl,rfl⟩
    refine a1C (fun y=>?_) (fun y=>?_)
    ·refine ⟨_,rfl,_,hd',?_,a0v hd1 sm,?_⟩
     ·rw [List.length_map]
      have:=List.length_filter_le (bad (ps.length:Int)) (v.take m)
      rw [List.length_take] at this
      exact a0s (by omega)
     ·rw [a0c,et,if_pos y,List.map_append];rfl
    ·exact ⟨sm,by rw [hd',et,if_neg y,List.append_nil]⟩
  obtain ⟨sm,hd'⟩:=hP
  rw [List.length_map,List.take_length] at hd'
  refine ⟨d1,_,rfl,.inl (SqL.of hd'),_,_,rfl,rfl,_,rfl,?_⟩
  rw [List.length_map]
  refine a1C (fun y=>?_) (fun y=>?_)
  ·have y1:((v.filter (bad (ps.length:Int))).length:Int) > 0:=of_decide_eq_true y
   have nb:=b1I.mp (show (v.filter (bad (ps.length:Int))).length > 0 by omega)
   have:=q H' (s1.trans sm)
   rw [a9r el ⟨v,List.mem_of_getElem? hv,Bool.eq_false_iff.mpr nb⟩] at this
   exact this
  ·refine ⟨s1.trans sm,fun u hu=>?_,_,rfl⟩
   rw [List.take_add_one,hv] at hu
   rcases List.mem_append.mp hu with z | z
   ·exact al u z
   ·have:u=v:=by simpa using z
    subst this
    by_cases g:alone (ps.length:Int) u=true
    ·exact g
    ·have:=b1I.mpr g
     exact absurd (decide_eq_true (show ((u.filter (bad (ps.length:Int))).length:Int) > 0 by omega)) y
 obtain ⟨s1,al,x6,rfl⟩:=hP
 rw [lx,List.take_length] at al
 refine ⟨fun bb H'=>a0x H1 H'∧(bb=true↔¬ (0≤i∧i < (nL b ps ws:Int))),?_,?_⟩
 ·refine ⟨_,rfl,_,_,rfl,rfl,_,rfl,?_⟩
  refine a1C (fun y=>⟨a0x.refl _,?_⟩) (fun y=>?_)
  ·have y1:i < 0:=of_decide_eq_true y
   exact ⟨fun _=>by omega,fun _=>rfl⟩
  ·have y1:¬ i < 0:=fun z=>y (decide_eq_true z)
   refine ⟨_,rfl,_,rfl,_,rfl,(by show 2≤sizeLine;decide),fun l7 hl7=>?_⟩
   have s7:=a0e hl7 (.lst [.ref p,.ref wa])
   have h7:upd H1 l7 (.lst [.ref p,.ref wa]) l7=some (.lst [.ref p,.ref wa]):=a0c
   generalize upd H1 l7 (.lst [.ref p,.ref wa])=H7 at s7 h7 ⊢
   refine ⟨_,rfl,l7,_,_,_,rfl,rfl,SqL.of h7,b1J b,_,_,rfl,.inr (SqT.of (tw_pk b ((s1.trans s7) _ _ cd.hp) ((s1.trans s7) _ _ cd.hw))),_,_,rfl,rfl,_,rfl,s7,?_⟩
   rw [List.length_map,b1K]
   exact ⟨fun z=>by have:=of_decide_eq_true z;omega,fun z=>decide_eq_true (by omega)⟩
 rintro bb H2 ⟨s2,hbb⟩
 have s12:=s1.trans s2
 refine a1C (fun y=>?_) (fun y=>?_)
 ·refine ⟨(by show 2≤sizeLine;decide),fun l7 hl7=>?_⟩
  have s7:=a0e hl7 (.lst [.str "word",.str "thing"])
  have:=q _ (s12.trans s7)
  rw [a6P el al (hbb.mp y),nm_pk] at this
  exact ⟨_,rfl,l7,_,_,_,rfl,rfl,SqL.of a0c,at_str b,this⟩
 have hin:0≤i∧i < (nL b ps ws:Int):=by
  by_cases z:0≤i∧i < (nL b ps ws:Int)
  ·exact z
  ·exact absurd (hbb.mpr z) y
 have:=q H2 s12
 rw [b0Y el al hin] at this
 refine ⟨_,rfl,_,rfl,ch,ys,chp ps ws,c,rfl,⟨a,xs,rfl,s12 _ _ ha,Ws.same s12 hx⟩,s12 _ _ hch,Paired.mapP hys fun x c h=>Tw.same s12 h,_,rfl,?_⟩
 refine a1C (fun y=>?_) (fun y=>?_)
 ·rw [if_pos (of_decide_eq_true y)] at this
  exact this
 ·rw [if_neg fun z=>y (decide_eq_true z)] at this
  exact this
end
end Q
end K66
namespace K66
open PySem L2
namespace Q
def kinds (c:Nat):List Bool:=if c < 4 then [decide (c=0),decide (c=1),decide (c=2),decide (c=3),true,false] else []
theorem kne:∀ j g:Nat,j < 4→g≤4→(kinds g=[decide (V.int (j:Int)=V.int 0),decide (V.int (j:Int)=V.int 1),decide (V.int (j:Int)=V.int 2),decide (V.int (j:Int)=V.int 3),true,false]↔g=j):=by
 intro j g hj hg
 have h1:j=0∨j=1∨j=2∨j=3:=by omega
 have h2:g=0∨g=1∨g=2∨g=3∨g=4:=by omega
 rcases h1 with rfl | rfl | rfl | rfl <;> rcases h2 with rfl | rfl | rfl | rfl | rfl <;> decide
section
variable {P':Program} {w:World} {K:PySem.W.Frag} {mg:Str→Option Value} {base:Heap} {f:Addr} {fd:FuncData} {D CU CB CV CN CP CW:Addr}
structure Cl4 (K:PySem.W.Frag) (mg:Str→Option Value) (D CU CB CV CN CP CW:Addr):Prop where
 gD:mg "TollError"=some (.ref D)
 gCU:mg "Unlike"=some (.ref CU)
 gCB:mg "BadWord"=some (.ref CB)
 gCV:mg "NoThing"=some (.ref CV)
 gCN:mg "NotCheapest"=some (.ref CN)
 gCP:mg "BadNumber"=some (.ref CP)
 gCW:mg "Clash"=some (.ref CW)
 gV:mg "ValueError"=none
 xD:XC K D
 xCU:XC K CU
 xCB:XC K CB
 xCV:XC K CV
 xCN:XC K CN
 xCP:XC K CP
 xCW:XC K CW
 eCU:Ecl K CU
 eCB:Ecl K CB
 eCV:Ecl K CV
 eCN:Ecl K CN
 dCU:PySem.W.subIn K (.ref CU) (.ref D)=some true
 dCB:PySem.W.subIn K (.ref CB) (.ref D)=some true
 dCV:PySem.W.subIn K (.ref CV) (.ref D)=some true
 dCN:PySem.W.subIn K (.ref CN) (.ref D)=some true
 nCUCB:PySem.W.subIn K (.ref CU) (.ref CB)=some false
 nCUCV:PySem.W.subIn K (.ref CU) (.ref CV)=some false
 nCUCN:PySem.W.subIn K (.ref CU) (.ref CN)=some false
 nCUCP:PySem.W.subIn K (.ref CU) (.ref CP)=some false
 nCUCW:PySem.W.subIn K (.ref CU) (.ref CW)=some false
 nCBCU:PySem.W.subIn K (.ref CB) (.ref CU)=some false
 nCBCV:PySem.W.subIn K (.ref CB) (.ref CV)=some false
 nCBCN:PySem.W.subIn K (.ref CB) (.ref CN)=some false
 nCBCP:PySem.W.subIn K (.ref CB) (.ref CP)=some false
 nCBCW:PySem.W.subIn K (.ref CB) (.ref CW)=some false
 nCVCU:PySem.W.subIn K (.ref CV) (.ref CU)=some false
 nCVCB:PySem.W.subIn K (.ref CV) (.ref CB)=some false
 nCVCN:PySem.W.subIn K (.ref CV) (.ref CN)=some false
 nCVCP:PySem.W.subIn K (.ref CV) (.ref CP)=some false
 nCVCW:PySem.W.subIn K (.ref CV) (.ref CW)=some false
 nCNCU:PySem.W.subIn K (.ref CN) (.ref CU)=some false
 nCNCB:PySem.W.subIn K (.ref CN) (.ref CB)=some false
 nCNCV:PySem.W.subIn K (.ref CN) (.ref CV)=some false
 nCNCP:PySem.W.subIn K (.ref CN) (.ref CP)=some false
 nCNCW:PySem.W.subIn K (.ref CN) (.ref CW)=some false
structure Kd4 (K:PySem.W.Frag) (D CU CB CV CN CP CW C:Addr) (c:Nat):Prop where
 x:XC K C
 d:PySem.W.subIn K (.ref C) (.ref D)=some true
 k0:PySem.W.kitOne K (.ref C) (.ref CU)=some (decide (c=0))
 k1:PySem.W.kitOne K (.ref C) (.ref CB)=some (decide (c=1))
 k2:PySem.W.kitOne K (.ref C) (.ref CV)=some (decide (c=2))
 k3:PySem.W.kitOne K (.ref C) (.ref CN)=some (decide (c=3))
 no:∀ E∈[CP,CW],PySem.W.kitOne K (.ref C) (.ref E)=some false
theorem no2 {K:PySem.W.Frag} {C a b:Addr} (ha:PySem.W.kitOne K (.ref C) (.ref a)=some false) (hb:PySem.W.kitOne K (.ref C) (.ref b)=some false):∀ E∈[a,b],PySem.W.kitOne K (.ref C) (.ref E)=some false:=fun E hE=>by
 rcases List.mem_cons.mp hE with rfl | hE
 ·exact ha
 ·rw [List.mem_singleton.mp hE];exact hb
theorem Cl4.kCU (c:Cl4 K mg D CU CB CV CN CP CW):Kd4 K D CU CB CV CN CP CW CU 0:=⟨c.xCU,c.dCU,a9Y c.xCU.h c.xCU.sf,a1F c.xCU c.xCB.h c.nCUCB,a1F c.xCU c.xCV.h c.nCUCV,a1F c.xCU c.xCN.h c.nCUCN,no2 (a1F c.xCU c.xCP.h c.nCUCP) (a1F c.xCU c.xCW.h c.nCUCW)⟩
theorem Cl4.kCB (c:Cl4 K mg D CU CB CV CN CP CW):Kd4 K D CU CB CV CN CP CW CB 1:=⟨c.xCB,c.dCB,a1F c.xCB c.xCU.h c.nCBCU,a9Y c.xCB.h c.xCB.sf,a1F c.xCB c.xCV.h c.nCBCV,a1F c.xCB c.xCN.h c.nCBCN,no2 (a1F c.xCB c.xCP.h c.nCBCP) (a1F c.xCB c.xCW.h c.nCBCW)⟩
theorem Cl4.kCV (c:Cl4 K mg D CU CB CV CN CP CW):Kd4 K D CU CB CV CN CP CW CV 2:=⟨c.xCV,c.dCV,a1F c.xCV c.xCU.h c.nCVCU,a1F c.xCV c.xCB.h c.nCVCB,a9Y c.xCV.h c.xCV.sf,a1F c.xCV c.xCN.h c.nCVCN,no2 (a1F c.xCV c.xCP.h c.nCVCP) (a1F c.xCV c.xCW.h c.nCVCW)⟩
theorem Cl4.kCN (c:Cl4 K mg D CU CB CV CN CP CW):Kd4 K D CU CB CV CN CP CW CN 3:=⟨c.xCN,c.dCN,a1F c.xCN c.xCU.h c.nCNCU,a1F c.xCN c.xCB.h c.nCNCB,a1F c.xCN c.xCV.h c.nCNCV,a9Y c.xCN.h c.xCN.sf,no2 (a1F c.xCN c.xCP.h c.nCNCP) (a1F c.xCN c.xCW.h c.nCNCW)⟩
abbrev NA:List Str:=["way","prices","weights","code","at"]
def wy (b:Bool) (y:Int):Prop:=y=wI b∨y=wI b+2
def spAk (T CU CB CV CN:Addr):Sp:=fun vs H Q E=>∃ (b:Bool) (y:Int) (p wa c:Addr) (ps ws:List Int) (cde:CT.a0z) (i:Int),vs=[.int y,.ref p,.ref wa,.ref c,.int i]∧wy b y∧Cg H p wa c ps ws cde∧Num ps ws∧Po ps∧Po ws∧a0R H T a3g a4N∧Rg CU CB CV CN H E (kd b ps ws cde i) ∧
 (kd b ps ws cde i=4→∀ (t:Addr) H',Kq T H H'→Q (.ref t) H')
theorem scAk:a0n NA NA (a0b a4i):=⟨rfl,rfl,rfl,by decide +kernel,rfl,by decide +kernel,by decide +kernel⟩
theorem ok_ak {T:Addr} {k:Nat} (F:Fun K "_law_asked" "_law_asked" a4i f fd) (G0:a1D P' w K mg base NPS "price_stretch" (a2V true T CU CB CV CN) k) (G1:a1D P' w K mg base NWS "weight_stretch" (a2V false T CU CB CV CN) k) (G2:a1D P' w K mg base NPS "price_beyond" (a2V true T CU CB CV CN) k) (G3:a1D P' w K mg base NWS "weight_beyond" (a2V false T CU CB CV CN) k):a0O P' w K mg base (CXF P' w) (k+1) f fd NA (spAk T CU CB CV CN):=by
 refine F.okF (k:=k) scAk (fun vs H Q E h=>?_) (fun cdv A outer s H vs Q E hr h=>?_)
 ·obtain ⟨b,y,p,wa,c,ps,ws,cde,i,rfl,_⟩:=h
  rfl
 obtain ⟨b,y,p,wa,c,ps,ws,cde,i,rfl,hy,cd,nu,pp,pw,tab,rg,q⟩:=h
 refine ⟨_,a0f (a1e (a0B a1G (pv 0) (a0g) (nomark _)) (a0h (a0r (a0l G0.ok hr (by rfl) G0.m G0.kp G0.b .nil a0A (a0a (pv 1) (a0a (pv 2) (a0a (pv 3) (a0a (pv 4) (a0d)))))))) (a0D))
   (a0f (a1e (a0B a1G (pv 0) (a0g) (nomark _)) (a0h (a0r (a0l G1.ok hr (by rfl) G1.m G1.kp G1.b .nil a0A (a0a (pv 1) (a0a (pv 2) (a0a (pv 3) (a0a (pv 4) (a0d)))))))) (a0D))
   (a0f (a1e (a0B a1G (pv 0) (a0g) (nomark _)) (a0h (a0r (a0l G2.ok hr (by rfl) G2.m G2.kp G2.b .nil a0A (a0a (pv 1) (a0a (pv 2) (a0a (pv 3) (a0a (pv 4) (a0d)))))))) (a0D))
   (a0h (a0r (a0l G3.ok hr (by rfl) G3.m G3.kp G3.b .nil a0A (a0a (pv 1) (a0a (pv 2) (a0a (pv 3) (a0a (pv 4) (a0d)))))))))),?_⟩
 have fin:∀ b',b'=b→_:=fun b' e=>(⟨p,wa,c,ps,ws,cde,i,rfl,cd,nu,pp,pw,tab,e▸rg,e▸q⟩:a2V b' T CU CB CV CN [.ref p,.ref wa,.ref c,.int i] H Q E)
 have cs:(b=true∧(y=0∨y=2))∨(b=false∧(y=1∨y=3)):=by
  cases b with
  | true=>exact .inl ⟨rfl,hy⟩
  | false=>exact .inr ⟨rfl,hy⟩
 refine ⟨_,rfl,rfl,_,rfl,?_⟩
 refine a1C (fun z=>?_) (fun z=>?_)
 ·have e:y=0:=V.int.inj (of_decide_eq_true z)
  exact ⟨_,rfl,_,rfl,_,rfl,_,rfl,fin true (by rcases cs with ⟨h,_⟩ | ⟨_,h⟩ <;> first | exact h.symm | omega)⟩
 have n0:y≠0:=fun e=>z (decide_eq_true (by rw [e]))
 refine ⟨_,rfl,rfl,_,rfl,?_⟩
 refine a1C (fun z=>?_) (fun z=>?_)
 ·have e:y=1:=V.int.inj (of_decide_eq_true z)
  exact ⟨_,rfl,_,rfl,_,rfl,_,rfl,fin false (by rcases cs with ⟨_,h⟩ | ⟨h,_⟩ <;> first | exact h.symm | omega)⟩
 have n1:y≠1:=fun e=>z (decide_eq_true (by rw [e]))
 refine ⟨_,rfl,rfl,_,rfl,?_⟩
 refine a1C (fun z=>?_) (fun z=>?_)
 ·have e:y=2:=V.int.inj (of_decide_eq_true z)
  exact ⟨_,rfl,_,rfl,_,rfl,_,rfl,fin true (by rcases cs with ⟨h,_⟩ | ⟨_,h⟩ <;> first | exact h.symm | omega)⟩
 have n2:y≠2:=fun e=>z (decide_eq_true (by rw [e]))
 exact ⟨_,rfl,_,rfl,_,rfl,_,rfl,fin false (by rcases cs with ⟨_,h⟩ | ⟨h,_⟩ <;> first | exact h.symm | omega)⟩
abbrev NRf:List Str:=["way","prices","weights","code","at","kinds","e","k","word"]
def spRf (T:Addr):Sp:=fun vs H Q _=>∃ (b:Bool) (y:Int) (p wa c:Addr) (ps ws:List Int) (cde:CT.a0z) (i:Int),vs=[.int y,.ref p,.ref wa,.ref c,.int i]∧wy b y∧Cg H p wa c ps ws cde∧Num ps ws∧Po ps∧Po ws∧a0R H T a3g a4N∧∀ H',Kq T H H'→Q (.str (nm (kd b ps ws cde i))) H'
theorem b3o:a0n NRf NA (a0b a2i):=⟨rfl,rfl,rfl,by decide +kernel,rfl,by decide +kernel,by decide +kernel⟩
theorem ok_rf {T:Addr} {k:Nat} (F:Fun K "_law_refusal" "_law_refusal" a2i f fd) (GN:a1D P' w K mg base NA "_law_asked" (spAk T CU CB CV CN) k) (c:Cl4 K mg D CU CB CV CN CP CW) (mi:mg "isinstance"=none) (me:mg "enumerate"=none):a0O P' w K mg base CX0 (k+1) f fd NA (spRf T):=by
 refine F.ok (k:=k) b3o (fun vs H Q E h=>?_) (fun cdv A outer s H vs Q E hr h=>?_)
 ·obtain ⟨b,y,p,q,a,ps,ws,cc,i,rfl,_⟩:=h
  rfl
 obtain ⟨b,y,p,q,a,ps,ws,cc,i,rfl,hy,cd,nu,pp',pw',tab,fin⟩:=h
 refine ⟨_,a0f (a0t (i:=5) b3o.nd rfl (Or.inl rfl) (a0N a0d))
   (a0f (a1X (ps_try (i:=6) rfl ⟨rfl,rfl⟩ (fun pn xe Ex hx=>a0h (a1c (a9W GN.ok hr (by rfl) GN.m GN.kp GN.b hx (a0a (pv 0) (a0a (pv 1) (a0a (pv 2) (a0a (pv 3) (a0a (pv 4) (a0d)))))))))
   (fun ea=>a0f (a0t (i:=5) b3o.nd rfl (Or.inl rfl) (a0N (a0a (a0o (isiE K) (by rfl) mi a7i (a0a (pv 6) (a0a (a2G (v:=.ref CU) (by rfl) c.gCU rfl) a0d))) (a0a (a0o (isiE K) (by rfl) mi a7i (a0a (pv 6) (a0a (a2G (v:=.ref CB) (by rfl) c.gCB rfl) a0d))) (a0a (a0o (isiE K) (by rfl) mi a7i (a0a (pv 6) (a0a (a2G (v:=.ref CV) (by rfl) c.gCV rfl) a0d))) (a0a (a0o (isiE K) (by rfl) mi a7i (a0a (pv 6) (a0a (a2G (v:=.ref CN) (by rfl) c.gCN rfl) a0d))) (a0d)))))))
   (a0h (a0t (i:=5) b3o.nd rfl (Or.inl rfl) (a0p b1h (pv 5) (a0N (a0a (a0o (isiE K) (by rfl) mi a7i (a0a (pv 6) (a0a (b1N (v:=.ty "ValueError") (by rfl) c.gV b_VE rfl) a0d))) (a0a (a0o (isiT K) (by rfl) mi a7i (a0a (pv 6) (a0a (a1h (a0a (a2G (v:=.ref CP) (by rfl) c.gCP rfl) (a0a (a2G (v:=.ref CW) (by rfl) c.gCW rfl) a0d))) a0d))) (a0d))))))))
   b3o.nd rfl rfl (by rfl) c.gD c.xD.h))
   (a0f (a1l PassesOwn.never rfl (b2r false (by rfl) me (a0a (a0N (a0a (a1o) (a0a (a1o) (a0a (a1o) (a0a (a1o) (a0d)))))) a0d)) (a6h rfl (a1y (a0H (i:=7) b3o.nd rfl (Or.inl rfl)) (a1y (a0H (i:=8) b3o.nd rfl (Or.inl rfl)) (a4m)))) (a0h (a1e (a0B (a8q (hu4 hr)) (pv 5) (a0N (a0a (a2n a1G (pv 7) a0g (nomark _)) (a0a (a2n a1G (pv 7) a0g (nomark _)) (a0a (a2n a1G (pv 7) a0g (nomark _)) (a0a (a2n a1G (pv 7) a0g (nomark _)) (a0a (a7H) (a0a (a7H) (a0d)))))))) (nomark _)) (a0h (a0r (pv 8))) (a0D))))
   (a0h (a0r (a4l (a0B (a8q (hu4 hr)) (pv 5) (a0N a0d) (nomark _)) a1o a1o))))),?_⟩
 refine ⟨(by show 0≤sizeLine;decide),fun t0 ht0=>?_⟩
 have s1:=a0e ht0 (.lst [])
 have h0:upd H t0 (.lst []) t0=some (.lst []):=a0c
 generalize upd H t0 (.lst [])=H1 at s1 h0 ⊢
 refine ⟨fun σ' H'=>∃ (kl:Addr) (g:Nat),σ'=[some (.int y),some (.ref p),some (.ref q),some (.ref a),some (.int i),some (.ref kl),none,none,none]∧Kq T H H'∧H' kl=some (.lst ((kinds g).map V.bl))∧kd b ps ws cc i=g,?_,?_⟩
 ·refine ⟨_,rfl,_,rfl,_,rfl,_,rfl,_,rfl,b,y,p,q,a,ps,ws,cc,i,rfl,hy,cd.same s1,nu,pp',pw',a0R.same s1 tab,⟨⟨fun kg H3 s3=>?_,fun kg H3 s3=>?_,fun kg H3 s3=>?_⟩,fun kg H3 s3=>?_⟩,fun kg t H3 k3=>?_⟩
  ·have kd':=c.kCU
   refine ⟨CU,rfl,kd'.d,fun ea hea=>?_⟩
   have s4:=a0e hea (a3N ea CU none)
   have hE:upd H3 ea (a3N ea CU none) ea=some (a3N ea CU none):=a0c
   generalize upd H3 ea (a3N ea CU none)=H4 at s4 hE ⊢
   refine ⟨_,rfl,ea,CU,none,_,_,rfl,hE,kd'.x.e,.inl rfl,.inl ⟨CU,rfl,kd'.k0⟩,?_⟩
   refine ⟨_,rfl,ea,CU,none,_,_,rfl,hE,kd'.x.e,.inl rfl,.inl ⟨CB,rfl,kd'.k1⟩,?_⟩
   refine ⟨_,rfl,ea,CU,none,_,_,rfl,hE,kd'.x.e,.inl rfl,.inl ⟨CV,rfl,kd'.k2⟩,?_⟩
   refine ⟨_,rfl,ea,CU,none,_,_,rfl,hE,kd'.x.e,.inl rfl,.inl ⟨CN,rfl,kd'.k3⟩,(by show 4≤sizeLine;decide),fun t3 ht3=>?_⟩
   have s5:=a0e ht3 (.lst [.bl (decide ((0:Nat)=0)),.bl (decide ((0:Nat)=1)),.bl (decide ((0:Nat)=2)),.bl (decide ((0:Nat)=3))])
   have h5:upd H4 t3 (.lst [.bl (decide ((0:Nat)=0)),.bl (decide ((0:Nat)=1)),.bl (decide ((0:Nat)=2)),.bl (decide ((0:Nat)=3))]) t3=some (.lst [.bl (decide ((0:Nat)=0)),.bl (decide ((0:Nat)=1)),.bl (decide ((0:Nat)=2)),.bl (decide ((0:Nat)=3))]):=a0c
   generalize upd H4 t3 (.lst [.bl (decide ((0:Nat)=0)),.bl (decide ((0:Nat)=1)),.bl (decide ((0:Nat)=2)),.bl (decide ((0:Nat)=3))])=H5 at s5 h5 ⊢
   refine ⟨_,rfl,_,rfl,ea,CU,none,_,true,rfl,s5 _ _ hE,kd'.x.e,.inl rfl,.inr ⟨"ValueError",rfl,a6v kd'.x⟩,?_⟩
   refine ⟨_,rfl,(by show 2≤sizeLine;decide),fun tp htp=>?_⟩
   have s6:=a0e htp (.tup [.ref CP,.ref CW])
   refine ⟨ea,CU,none,tp,[CP,CW],rfl,s6 _ _ (s5 _ _ hE),kd'.x.e,.inl rfl,a0c,kd'.no,(by show 2≤sizeLine;decide),fun t7 ht7=>?_⟩
   have s7:=a0e ht7 (.lst [.bl true,.bl false])
   refine ⟨t3,t7,_,_,rfl,rfl,s7 _ _ (s6 _ _ h5),a0c,(by show 4+2≤sizeLine;decide),fun t8 ht8=>?_⟩
   have s8:=a0e ht8 (.lst ([.bl (decide ((0:Nat)=0)),.bl (decide ((0:Nat)=1)),.bl (decide ((0:Nat)=2)),.bl (decide ((0:Nat)=3))]++[.bl true,.bl false]))
   exact ⟨t8,0,rfl,.of tab ((((((s1.trans s3).trans s4).trans s5).trans s6).trans s7).trans s8),a0c,kg⟩
  ·have kd':=c.kCB
   refine ⟨CB,rfl,kd'.d,fun ea hea=>?_⟩
   have s4:=a0e hea (a3N ea CB none)
   have hE:upd H3 ea (a3N ea CB none) ea=some (a3N ea CB none):=a0c
   generalize upd H3 ea (a3N ea CB none)=H4 at s4 hE ⊢
   refine ⟨_,rfl,ea,CB,none,_,_,rfl,hE,kd'.x.e,.inl rfl,.inl ⟨CU,rfl,kd'.k0⟩,?_⟩
   refine ⟨_,rfl,ea,CB,none,_,_,rfl,hE,kd'.x.e,.inl rfl,.inl ⟨CB,rfl,kd'.k1⟩,?_⟩
   refine ⟨_,rfl,ea,CB,none,_,_,rfl,hE,kd'.x.e,.inl rfl,.inl ⟨CV,rfl,kd'.k2⟩,?_⟩
   refine ⟨_,rfl,ea,CB,none,_,_,rfl,hE,kd'.x.e,.inl rfl,.inl ⟨CN,rfl,kd'.k3⟩,(by show 4≤sizeLine;decide),fun t3 ht3=>?_⟩
   have s5:=a0e ht3 (.lst [.bl (decide ((1:Nat)=0)),.bl (decide ((1:Nat)=1)),.bl (decide ((1:Nat)=2)),.bl (decide ((1:Nat)=3))])
   have h5:upd H4 t3 (.lst [.bl (decide ((1:Nat)=0)),.bl (decide ((1:Nat)=1)),.bl (decide ((1:Nat)=2)),.bl (decide ((1:Nat)=3))]) t3=some (.lst [.bl (decide ((1:Nat)=0)),.bl (decide ((1:Nat)=1)),.bl (decide ((1:Nat)=2)),.bl (decide ((1:Nat)=3))]):=a0c
   generalize upd H4 t3 (.lst [.bl (decide ((1:Nat)=0)),.bl (decide ((1:Nat)=1)),.bl (decide ((1:Nat)=2)),.bl (decide ((1:Nat)=3))])=H5 at s5 h5 ⊢
   refine ⟨_,rfl,_,rfl,ea,CB,none,_,true,rfl,s5 _ _ hE,kd'.x.e,.inl rfl,.inr ⟨"ValueError",rfl,a6v kd'.x⟩,?_⟩
   refine ⟨_,rfl,(by show 2≤sizeLine;decide),fun tp htp=>?_⟩
   have s6:=a0e htp (.tup [.ref CP,.ref CW])
   refine ⟨ea,CB,none,tp,[CP,CW],rfl,s6 _ _ (s5 _ _ hE),kd'.x.e,.inl rfl,a0c,kd'.no,(by show 2≤sizeLine;decide),fun t7 ht7=>?_⟩
   have s7:=a0e ht7 (.lst [.bl true,.bl false])
   refine ⟨t3,t7,_,_,rfl,rfl,s7 _ _ (s6 _ _ h5),a0c,(by show 4+2≤sizeLine;decide),fun t8 ht8=>?_⟩
   have s8:=a0e ht8 (.lst ([.bl (decide ((1:Nat)=0)),.bl (decide ((1:Nat)=1)),.bl (decide ((1:Nat)=2)),.bl (decide ((1:Nat)=3))]++[.bl true,.bl false]))
   exact ⟨t8,1,rfl,.of tab ((((((s1.trans s3).trans s4).trans s5).trans s6).trans s7).trans s8),a0c,kg⟩
  ·have kd':=c.kCV
   refine ⟨CV,rfl,kd'.d,fun ea hea=>?_⟩
   have s4:=a0e hea (a3N ea CV none)
   have hE:upd H3 ea (a3N ea CV none) ea=some (a3N ea CV none):=a0c
   generalize upd H3 ea (a3N ea CV none)=H4 at s4 hE ⊢
   refine ⟨_,rfl,ea,CV,none,_,_,rfl,hE,kd'.x.e,.inl rfl,.inl ⟨CU,rfl,kd'.k0⟩,?_⟩
   refine ⟨_,rfl,ea,CV,none,_,_,rfl,hE,kd'.x.e,.inl rfl,.inl ⟨CB,rfl,kd'.k1⟩,?_⟩
   refine ⟨_,rfl,ea,CV,none,_,_,rfl,hE,kd'.x.e,.inl rfl,.inl ⟨CV,rfl,kd'.k2⟩,?_⟩
   refine ⟨_,rfl,ea,CV,none,_,_,rfl,hE,kd'.x.e,.inl rfl,.inl ⟨CN,rfl,kd'.k3⟩,(by show 4≤sizeLine;decide),fun t3 ht3=>?_⟩
   have s5:=a0e ht3 (.lst [.bl (decide ((2:Nat)=0)),.bl (decide ((2:Nat)=1)),.bl (decide ((2:Nat)=2)),.bl (decide ((2:Nat)=3))])
   have h5:upd H4 t3 (.lst [.bl (decide ((2:Nat)=0)),.bl (decide ((2:Nat)=1)),.bl (decide ((2:Nat)=2)),.bl (decide ((2:Nat)=3))]) t3=some (.lst [.bl (decide ((2:Nat)=0)),.bl (decide ((2:Nat)=1)),.bl (decide ((2:Nat)=2)),.bl (decide ((2:Nat)=3))]):=a0c
   generalize upd H4 t3 (.lst [.bl (decide ((2:Nat)=0)),.bl (decide ((2:Nat)=1)),.bl (decide ((2:Nat)=2)),.bl (decide ((2:Nat)=3))])=H5 at s5 h5 ⊢
   refine ⟨_,rfl,_,rfl,ea,CV,none,_,true,rfl,s5 _ _ hE,kd'.x.e,.inl rfl,.inr ⟨"ValueError",rfl,a6v kd'.x⟩,?_⟩
   refine ⟨_,rfl,(by show 2≤sizeLine;decide),fun tp htp=>?_⟩
   have s6:=a0e htp (.tup [.ref CP,.ref CW])
   refine ⟨ea,CV,none,tp,[CP,CW],rfl,s6 _ _ (s5 _ _ hE),kd'.x.e,.inl rfl,a0c,kd'.no,(by show 2≤sizeLine;decide),fun t7 ht7=>?_⟩
   have s7:=a0e ht7 (.lst [.bl true,.bl false])
   refine ⟨t3,t7,_,_,rfl,rfl,s7 _ _ (s6 _ _ h5),a0c,(by show 4+2≤sizeLine;decide),fun t8 ht8=>?_⟩
   have s8:=a0e ht8 (.lst ([.bl (decide ((2:Nat)=0)),.bl (decide ((2:Nat)=1)),.bl (decide ((2:Nat)=2)),.bl (decide ((2:Nat)=3))]++[.bl true,.bl false]))
   exact ⟨t8,2,rfl,.of tab ((((((s1.trans s3).trans s4).trans s5).trans s6).trans s7).trans s8),a0c,kg⟩
  ·have kd':=c.kCN
   refine ⟨CN,rfl,kd'.d,fun ea hea=>?_⟩
   have s4:=a0e hea (a3N ea CN none)
   have hE:upd H3 ea (a3N ea CN none) ea=some (a3N ea CN none):=a0c
   generalize upd H3 ea (a3N ea CN none)=H4 at s4 hE ⊢
   refine ⟨_,rfl,ea,CN,none,_,_,rfl,hE,kd'.x.e,.inl rfl,.inl ⟨CU,rfl,kd'.k0⟩,?_⟩
   refine ⟨_,rfl,ea,CN,none,_,_,rfl,hE,kd'.x.e,.inl rfl,.inl ⟨CB,rfl,kd'.k1⟩,?_⟩
   refine ⟨_,rfl,ea,CN,none,_,_,rfl,hE,kd'.x.e,.inl rfl,.inl ⟨CV,rfl,kd'.k2⟩,?_⟩
   refine ⟨_,rfl,ea,CN,none,_,_,rfl,hE,kd'.x.e,.inl rfl,.inl ⟨CN,rfl,kd'.k3⟩,(by show 4≤sizeLine;decide),fun t3 ht3=>?_⟩
   have s5:=a0e ht3 (.lst [.bl (decide ((3:Nat)=0)),.bl (decide ((3:Nat)=1)),.bl (decide ((3:Nat)=2)),.bl (decide ((3:Nat)=3))])
   have h5:upd H4 t3 (.lst [.bl (decide ((3:Nat)=0)),.bl (decide ((3:Nat)=1)),.bl (decide ((3:Nat)=2)),.bl (decide ((3:Nat)=3))]) t3=some (.lst [.bl (decide ((3:Nat)=0)),.bl (decide ((3:Nat)=1)),.bl (decide ((3:Nat)=2)),.bl (decide ((3:Nat)=3))]):=a0c
   generalize upd H4 t3 (.lst [.bl (decide ((3:Nat)=0)),.bl (decide ((3:Nat)=1)),.bl (decide ((3:Nat)=2)),.bl (decide ((3:Nat)=3))])=H5 at s5 h5 ⊢
   refine ⟨_,rfl,_,rfl,ea,CN,none,_,true,rfl,s5 _ _ hE,kd'.x.e,.inl rfl,.inr ⟨"ValueError",rfl,a6v kd'.x⟩,?_⟩
   refine ⟨_,rfl,(by show 2≤sizeLine;decide),fun tp htp=>?_⟩
   have s6:=a0e htp (.tup [.ref CP,.ref CW])
   refine ⟨ea,CN,none,tp,[CP,CW],rfl,s6 _ _ (s5 _ _ hE),kd'.x.e,.inl rfl,a0c,kd'.no,(by show 2≤sizeLine;decide),fun t7 ht7=>?_⟩
   have s7:=a0e ht7 (.lst [.bl true,.bl false])
   refine ⟨t3,t7,_,_,rfl,rfl,s7 _ _ (s6 _ _ h5),a0c,(by show 4+2≤sizeLine;decide),fun t8 ht8=>?_⟩
   have s8:=a0e ht8 (.lst ([.bl (decide ((3:Nat)=0)),.bl (decide ((3:Nat)=1)),.bl (decide ((3:Nat)=2)),.bl (decide ((3:Nat)=3))]++[.bl true,.bl false]))
   exact ⟨t8,3,rfl,.of tab ((((((s1.trans s3).trans s4).trans s5).trans s6).trans s7).trans s8),a0c,kg⟩
  ·exact ⟨t0,4,rfl,(Kq.of tab s1).trans k3,k3.lst h0,kg⟩
 rintro σ' H1' ⟨kl,g,rfl,sm,hk,kg⟩
 have g3:g≤4:=by rw [←kg];exact kd_le
 rw [kg] at fin
 refine ⟨(by show 4≤sizeLine;decide),fun l hl=>?_⟩
 have s2:=a0e hl (.lst [.str "unlike",.str "word",.str "thing",.str "cheapest"])
 refine ⟨l,_,rfl,SqL.of a0c,?_⟩
 have hl2:upd H1' l (.lst [.str "unlike",.str "word",.str "thing",.str "cheapest"]) l=some (.lst [.str "unlike",.str "word",.str "thing",.str "cheapest"]):=a0c
 generalize upd H1' l (.lst [.str "unlike",.str "word",.str "thing",.str "cheapest"])=H2 at s2 hl2 ⊢
 refine b0n (k:=false) (xs:=[.str "unlike",.str "word",.str "thing",.str "cheapest"]) (fun j σ H'=>j≤g∧a0x H2 H'∧∃ x7 x8:Option V,σ=[some (.int y),some (.ref p),some (.ref q),some (.ref a),some (.int i),some (.ref kl),none,x7,x8]) ⟨by omega,a0x.refl _,_,_,rfl⟩ (fun j σ H' _ hP=>SqL.of (hP.2.1 _ _ hl2)) (fun j x pp σ H3 hx hP hpp=>?_) (fun σ H3 hP=>?_)
 ·obtain ⟨jg,s3,x7,x8,rfl⟩:=hP
  have s4:=a0e hpp (.tup [.int (j:Int),x])
  refine ⟨pp,_,rfl,SqT.of a0c,rfl,_,_,rfl,_,_,rfl,rfl,?_⟩
  refine ⟨_,rfl,_,rfl,rfl,_,rfl,rfl,_,rfl,rfl,_,rfl,rfl,(by show 6≤sizeLine;decide),fun t5 ht5=>?_⟩
  have s5:=a0e ht5 (.lst [.bl (decide (V.int (j:Int)=V.int 0)),.bl (decide (V.int (j:Int)=V.int 1)),.bl (decide (V.int (j:Int)=V.int 2)),.bl (decide (V.int (j:Int)=V.int 3)),.bl true,.bl false])
  have g5:a0x H1' _:=((s2.trans s3).trans s4).trans s5
  refine ⟨kl,t5,kinds g,[decide (V.int (j:Int)=V.int 0),decide (V.int (j:Int)=V.int 1),decide (V.int (j:Int)=V.int 2),decide (V.int (j:Int)=V.int 3),true,false],rfl,rfl,g5 _ _ hk,a0c,_,rfl,?_⟩
  have hj:j < 4:=(List.getElem?_eq_some_iff.mp hx).1
  refine a1C (fun z=>?_) (fun z=>⟨?_,(s3.trans s4).trans s5,_,_,rfl⟩)
  ·have e:=(kne j g hj g3).mp (of_decide_eq_true z)
   subst e
   refine ⟨_,rfl,?_⟩
   have:=fin _ (sm.then g5)
   have h1:g=0∨g=1∨g=2∨g=3:=by omega
   rcases h1 with rfl | rfl | rfl | rfl <;> cases hx <;> exact this
  ·have ne:g≠j:=fun e=>z (decide_eq_true ((kne j g hj g3).mpr e))
   omega
 ·obtain ⟨jg,s3,x7,x8,rfl⟩:=hP
  have jg':4≤g:=jg
  have g3':g=4:=by omega
  subst g3'
  refine ⟨_,rfl,(by show 0≤sizeLine;decide),fun t6 ht6=>?_⟩
  have s6:=a0e ht6 (.lst [])
  have g6:a0x H1' _:=(s2.trans s3).trans s6
  refine ⟨kl,t6,[],[],rfl,rfl,g6 _ _ hk,a0c,_,rfl,?_⟩
  rw [decide_eq_true rfl]
  exact b2g (fin _ (sm.then g6))
end
end Q
end K66
namespace K66
open PySem L2
namespace Q
theorem five {a b c d e i:Int} (i0:0≤i) (i1:i < 5):∃ v,atI [V.int a,.int b,.int c,.int d,.int e] i=some (.int v):=by
 have h:i=0∨i=1∨i=2∨i=3∨i=4:=by omega
 rcases h with h | h | h | h | h <;> subst h <;> exact ⟨_,rfl⟩
section
variable {P':Program} {w:World} {K:PySem.W.Frag} {mg:Str→Option Value} {base:Heap} {f:Addr} {fd:FuncData}
abbrev NL:List Str:=["script","prices","weights","codes","cheapest","k","cell","some","code","which","many","at","due","way"]
def b1b (K:PySem.W.Frag) (T:Addr):Sp:=fun vs H Q _=>∃ (a:Addr) (ns:List Int),vs=[.ref a]∧SqL K H a (ns.map V.int)∧ns.length≤63∧a0R H T a3g a4N∧∀ H',Q (.bl true) H'
theorem a2E:a0n NL ["script"] (a0b b0A):=⟨rfl,rfl,rfl,by decide +kernel,rfl,by decide +kernel,by decide +kernel⟩
theorem ok_law {T e:Addr} {ed:FuncData} {k:Nat} (F:Fun K "law" "law" b0A e ed) (GI:Fns P' w K mg base ["script"] "_law_input" (a5X K) k) (GO:Fns P' w K mg base ["things","letters"] "_law_codes" a4F k) (GC:Fns P' w K mg base ["prices","weights"] "_law_cheapest" a5Z k) (GA:Fns P' w K mg base ["script","k"] "_law_cell" (a5n K) k) (GS:Fns P' w K mg base PSp "_law_spoilt" spSp k) (GD:Fns P' w K mg base PDu "_law_due" spDu k) (GR:Fns P' w K mg base NA "_law_refusal" (spRf T) k) (ml:mg "len"=none) (mr:mg "range"=none) (mm:mg "max"=none):a0O P' w K mg base CX0 (k+1) e ed ["script"] (b1b K T):=by
 refine F.ok (k:=k) a2E (fun vs H Q E h=>?_) (fun cdv A outer s H vs Q E hr h=>?_)
 ·obtain ⟨a,ns,rfl,_⟩:=h
  rfl
 obtain ⟨a,ns,rfl,hS,h63,tab,q⟩:=h
 refine ⟨_,a0f (a2k (a0l GI.ok hr (by rfl) GI.m GI.kp GI.b .nil a0C (a0a (pv 0) (a0d))) (a6h rfl (a1y (a0H (i:=1) a2E.nd rfl (Or.inl rfl)) (a1y (a0H (i:=2) a2E.nd rfl (Or.inl rfl)) (a4m)))))
   (a0f (a0t (i:=3) a2E.nd rfl (Or.inl rfl) (a0l GO.ok hr (by rfl) GO.m GO.kp GO.b .nil a0C (a0a (a0o a0i (by rfl) ml PySem.boot_len (a0a (pv 2) (a0d))) (a0a (a0o a0i (by rfl) ml PySem.boot_len (a0a (pv 1) (a0d))) (a0d)))))
   (a0f (a0t (i:=4) a2E.nd rfl (Or.inl rfl) (a0l GC.ok hr (by rfl) GC.m GC.kp GC.b .nil a0C (a0a (pv 1) (a0a (pv 2) (a0d)))))
   (a0f (a1l PassesOwn.never rfl (a2v (by rfl) mr (a0a (a0g) (a0d))) (a0H (i:=5) a2E.nd rfl (Or.inl rfl)) (a0f (a0t (i:=6) a2E.nd rfl (Or.inl rfl) (a0l GA.ok hr (by rfl) GA.m GA.kp GA.b .nil a0C (a0a (pv 0) (a0a (a0p a0I (a0g) (pv 5)) (a0d)))))
   (a0f (a0t (i:=7) a2E.nd rfl (Or.inl rfl) (a0y a0w (a0N (a0a (pv 3) (a0a (pv 4) (a0a (pv 4) (a0a (pv 4) (a0d)))))) (a0p a0L (a0p a1i (pv 6) (a0g)) (a0g)) (fun _ _=>rfl)))
   (a0f (a0t (i:=8) a2E.nd rfl (Or.inl rfl) (a0l GS.ok hr (by rfl) GS.m GS.kp GS.b .nil a0C (a0a (a0y a0w (pv 7) (a0p a0L (a0p a1i (pv 6) (a0g)) (a0o a0i (by rfl) ml PySem.boot_len (a0a (pv 7) (a0d)))) (fun _ _=>rfl)) (a0a (a0o a0i (by rfl) ml PySem.boot_len (a0a (pv 1) (a0d))) (a0a (pv 6) (a0d))))))
   (a0f (a0t (i:=9) a2E.nd rfl (Or.inl rfl) (a0p a0L (a0p a1i (pv 6) (a0g)) (a0g)))
   (a0f (a0t (i:=10) a2E.nd rfl (Or.inl rfl) (a0o a0i (by rfl) ml PySem.boot_len (a0a (a0y a0w (a0N (a0a (pv 1) (a0a (pv 2) (a0d)))) (pv 9) (fun _ _=>rfl)) (a0d))))
   (a0f (a0t (i:=11) a2E.nd rfl (Or.inl rfl) (a0y a0w (a0N (a0a (a0p a0L (a0p a1i (pv 6) (a0g)) (pv 10)) (a0a (a2x a1z a0g) (a0a (pv 10) (a0a (a0p a0I (pv 10) (pv 6)) (a0a (a0p a1q (a2x a1z a0g) (pv 6)) (a0d))))))) (a0o (a7S rfl) (by rfl) mm b_max (a0a (a0g) (a0a (a0p a1q (a0p a0L (a0p a1i (pv 6) (a0g)) (a0g)) (a0g)) (a0d)))) (fun _ _=>rfl)))
   (a0f (a0t (i:=12) a2E.nd rfl (Or.inl rfl) (a0l GD.ok hr (by rfl) GD.m GD.kp GD.b .nil a0C (a0a (pv 9) (a0a (pv 1) (a0a (pv 2) (a0a (pv 8) (a0a (pv 11) (a0a (pv 4) (a0d)))))))))
   (a0h (a1l PassesOwn.never rfl (a4n (a0N (a0a (pv 9) (a0a (a0p a0I (pv 9) (a0g)) (a0d))))) (a0H (i:=13) a2E.nd rfl (Or.inl rfl)) (a0h (a1e (a0B b1S (a0l GR.ok hr (by rfl) GR.m GR.kp GR.b .nil a0C (a0a (pv 13) (a0a (pv 1) (a0a (pv 2) (a0a (pv 8) (a0a (pv 11) (a0d))))))) (pv 12) (nomark _)) (a0h (a0r (a7H))) (a0D)))))))))))))
   (a0h (a0r (a7H)))))),?_⟩
 refine ⟨_,rfl,a,ns,rfl,hS,fun r p q' H1 ps ws s1 g1 hp hq bp bw il n1=>?_⟩
 refine ⟨r,_,rfl,SqT.of g1,rfl,_,_,rfl,_,_,rfl,rfl,?_⟩
 have bwp:Bw ps:=fun x hx=>⟨by have:=bp x hx;omega,(bp x hx).2⟩
 have bww:Bw ws:=fun x hx=>⟨by have:=bw x hx;omega,(bw x hx).2⟩
 have pop:Po ps:=fun x hx=>by have:=bp x hx;omega
 have pow:Po ws:=fun x hx=>by have:=bw x hx;omega
 have szs:2≤ps.length∧ps.length≤6∧ws.length≤6:=by rcases il with ⟨h1,h2⟩ | ⟨h1,h2⟩ | ⟨h1,h2⟩ <;> omega
 obtain ⟨p2,p6,n6⟩:=szs
 have nu:Num ps ws:=⟨p2,by omega,n1,by omega,bwp,bww⟩
 refine ⟨_,rfl,q',_,rfl,.inr (SqT.of hq),_,rfl,p,_,rfl,.inr (SqT.of hp),ws.length,ps.length,by rw [List.length_map,List.length_map];rfl,il,n1,fun d0 xs0 H2 s2 gd0 tw0=>?_⟩
 refine ⟨_,rfl,_,rfl,p,q',ps,ws,rfl,s2 _ _ hp,s2 _ _ hq,il,n1,bwp,bww,fun d2 ys H3 s3 gd2 hy=>?_⟩
 have k3:Kq T H H3:=.of tab ((s1.trans s2).trans s3)
 have hp3:TW H3 p ps:=s3 _ _ (s2 _ _ hp)
 have hq3:TW H3 q' ws:=s3 _ _ (s2 _ _ hq)
 have hS3:SqL K H3 a (ns.map V.int):=sqL_q k3 hS
 have gd03:=s3 _ _ gd0
 have tw03:Paired (Tw H3) xs0 (CT.Cs ps.length ws.length):=Paired.mapP tw0 fun _ _ z=>Tw.same s3 z
 have yp:0 < (chp ps ws).length:=List.length_pos_iff.mpr (chp_ne il n1)
 have xp:=CT.b2T il n1
 refine ⟨8,rfl,by decide,by decide,?_⟩
 refine a1f (fun i σ H'=>Kq T H3 H'∧∃ (x5 x6 x7 x8 x9 x10 x11 x12 x13:Option V),σ=[some (.ref a),some (.ref p),some (.ref q'),some (.ref d0),some (.ref d2),x5,x6,x7,x8,x9,x10,x11,x12,x13])
  ⟨.of k3.tb (a0x.refl _),none,none,none,none,none,none,none,none,none,rfl⟩ (fun i σ H4 hi hP=>?_) (fun σ H4 hP=>q H4)
 obtain ⟨k4,x5,x6,x7,x8,x9,x10,x11,x12,x13,rfl⟩:=hP
 refine ⟨_,rfl,_,rfl,_,_,rfl,rfl,a,ns,_,rfl,sqL_q k4 hS3,by omega,by omega,fun cl c0=>?_⟩
 refine ⟨_,rfl,_,rfl,_,rfl,_,rfl,(by show 4≤sizeLine;decide),fun l4 hl4=>?_⟩
 have s5:=a0e hl4 (.lst [.ref d0,.ref d2,.ref d2,.ref d2])
 have h5:upd H4 l4 (.lst [.ref d0,.ref d2,.ref d2,.ref d2]) l4=some (.lst [.ref d0,.ref d2,.ref d2,.ref d2]):=a0c
 generalize upd H4 l4 (.lst [.ref d0,.ref d2,.ref d2,.ref d2])=H5 at s5 h5 ⊢
 have k5:=k4.then s5
 obtain ⟨dd,zs,cs,hdd,gdd,wdd,cp,cg⟩:∃ (dd:Addr) (zs:List V) (cs:List CT.a0z),atI [V.ref d0,.ref d2,.ref d2,.ref d2] (cl / 7 % 4)=some (.ref dd)∧H3 dd=some (.lst zs)∧Paired (Tw H3) zs cs∧0 < cs.length∧∀ c∈cs,CT.Gd ps.length ws.length (ws.length - 1) c:=by
  have h:cl / 7 % 4=0∨cl / 7 % 4=1∨cl / 7 % 4=2∨cl / 7 % 4=3:=by omega
  have g2:∀ c∈chp ps ws,CT.Gd ps.length ws.length (ws.length - 1) c:=fun c hc=>CT.a5W n1 c (List.mem_filter.mp hc).1
  rcases h with h | h | h | h <;> rw [h]
  ·exact ⟨d0,xs0,_,rfl,gd03,tw03,xp,CT.a5W n1⟩
  ·exact ⟨d2,ys,_,rfl,gd2,hy,yp,g2⟩
  ·exact ⟨d2,ys,_,rfl,gd2,hy,yp,g2⟩
  ·exact ⟨d2,ys,_,rfl,gd2,hy,yp,g2⟩
 refine ⟨_,rfl,_,_,rfl,rfl,⟨by decide,by decide⟩,_,_,rfl,rfl,(by show (0:Int) < _;decide),l4,_,_,_,rfl,rfl,SqL.of h5,hdd,?_⟩
 have lz:zs.length=cs.length:=wdd.length
 obtain ⟨j,ej,hj⟩:=b3n (x:=cl / 30) (n:=zs.length) (by omega)
 have hz0:zs[j]?=some (zs[j]'hj):=List.getElem?_eq_getElem _
 obtain ⟨c,hc,rc⟩:=Paired.right_of wdd j _ hz0
 have gc:=cg c (List.mem_of_getElem? hc)
 obtain ⟨ca,xc,ec,hca,hxc⟩:=rc
 rw [ec] at hz0
 refine ⟨_,rfl,_,rfl,_,_,rfl,rfl,⟨by decide,by decide⟩,_,rfl,dd,_,rfl,.inl (SqL.of (k5.lst gdd)),_,_,rfl,rfl,(by show (0:Int) < _;omega),?_⟩
 rw [show (fun (i j:Int)=>V.int (i % j)) (cl / 30) (zs.length:Int)=.int (j:Int) from congrArg V.int ej]
 refine ⟨dd,_,_,_,rfl,rfl,SqL.of (k5.lst gdd),a2l hz0,_,rfl,p,_,rfl,.inr (SqT.of (k5.tup hp3)),_,rfl,ca,xc,c,ps.length,cl,by rw [List.length_map];rfl,k5.tup hca,k5.ws hxc,by have:=gc.ln;omega,by have:=gc.ln;omega,fun u hu=>by have:=(gc.wd u hu).1;omega,p2,by omega,fun b c' H6 s6 hb6 lb lw=>?_⟩
 have k6:=k5.then s6
 have cd6:Cg H6 p q' b ps ws c':=⟨k6.tup hp3,k6.tup hq3,hb6,lb,lw,bwp,bww⟩
 obtain ⟨bb,hbb⟩:∃ bb:Bool,cl / 3 % 2=wI bb:=by
  have h:cl / 3 % 2=0∨cl / 3 % 2=1:=by omega
  rcases h with h | h
  ·exact ⟨true,h⟩
  ·exact ⟨false,h⟩
 have hbb':(fun (i j:Int)=>V.int (i % j)) (cl / 3) 2=.int (wI bb):=congrArg V.int hbb
 refine ⟨_,rfl,_,_,rfl,rfl,⟨by decide,by decide⟩,_,_,rfl,rfl,(by show (0:Int) < _;decide),?_⟩
 rw [hbb']
 refine ⟨_,rfl,_,rfl,(by show 2≤sizeLine;decide),fun l7 hl7=>?_⟩
 have s7:=a0e hl7 (.lst [.ref p,.ref q'])
 have h7:upd H6 l7 (.lst [.ref p,.ref q']) l7=some (.lst [.ref p,.ref q']):=a0c
 generalize upd H6 l7 (.lst [.ref p,.ref q'])=H7 at s7 h7 ⊢
 have cd7:=cd6.same s7
 have k7:=k6.then s7
 refine ⟨_,rfl,l7,_,_,_,rfl,rfl,SqL.of h7,b1J bb,_,_,rfl,.inr (SqT.of (tw_pk bb cd7.hp cd7.hw)),?_⟩
 rw [List.length_map,b1K]
 have nl1:1≤nL bb ps ws:=by
  cases bb with
  | true=>show 1≤ps.length;omega
  | false=>exact n1
 refine ⟨_,rfl,_,_,rfl,rfl,⟨by decide,by decide⟩,_,rfl,_,_,rfl,rfl,(by show (0:Int) < _;omega),_,rfl,_,rfl,_,rfl,_,rfl,_,_,rfl,rfl,_,rfl,_,rfl,_,_,rfl,rfl,(by show 5≤sizeLine;decide),fun lA hlA=>?_⟩
 obtain ⟨v,hv⟩:=five (a:=cl / 90000 % (nL bb ps ws:Int)) (b:=-1) (c:=(nL bb ps ws:Int)) (d:=(nL bb ps ws:Int)+cl) (e:=-1 - cl) (i:=if cl / 5 % 16 - 11 > 0 then cl / 5 % 16 - 11 else 0) (by split <;> omega) (by split <;> omega)
 refine ⟨_,rfl,_,_,rfl,rfl,⟨by decide,by decide⟩,_,_,rfl,rfl,(by show (0:Int) < _;decide),_,_,rfl,rfl,_,_,rfl,lA,_,_,_,rfl,rfl,SqL.of a0c,hv,?_⟩
 have sA:=a0e hlA (.lst [V.int (cl / 90000 % (nL bb ps ws:Int)),.int (-1),.int (nL bb ps ws:Int),.int ((nL bb ps ws:Int)+cl),.int (-1 - cl)])
 have cdA:=cd7.same sA
 have kA:=k7.then sA
 generalize upd H7 lA (.lst [V.int (cl / 90000 % (nL bb ps ws:Int)),.int (-1),.int (nL bb ps ws:Int),.int ((nL bb ps ws:Int)+cl),.int (-1 - cl)])=HA at sA cdA kA ⊢
 refine ⟨_,rfl,_,rfl,_,rfl,_,rfl,_,rfl,_,rfl,bb,p,q',b,d2,ps,ws,c',v,ys,rfl,cdA,kA.lst gd2,tws_q kA hy,fun HB sB=>?_⟩
 have cdB:=cdA.same sB
 have kB:=kA.then sB
 refine ⟨_,rfl,_,rfl,_,_,rfl,rfl,(by show 2≤sizeLine;decide),fun lB hlB=>?_⟩
 have sC:=a0e hlB (.lst [.int (wI bb),.int (wI bb+2)])
 have hC:upd HB lB (.lst [.int (wI bb),.int (wI bb+2)]) lB=some (.lst [.int (wI bb),.int (wI bb+2)]):=a0c
 generalize upd HB lB (.lst [.int (wI bb),.int (wI bb+2)])=HC at sC hC ⊢
 have cdC:=cdB.same sC
 have kC:=kB.then sC
 refine ⟨_,rfl,⟨_,SqL.of hC⟩,?_⟩
 refine a6k (xs:=[.int (wI bb),.int (wI bb+2)]) (fun m σ H'=>Kq T HC H'∧∃ x13:Option V,σ=[some (.ref a),some (.ref p),some (.ref q'),some (.ref d0),some (.ref d2),some (.int (0+(i:Int))),some (.int cl),some (.ref dd),some (.ref b),some (.int (wI bb)),some (.int (nL bb ps ws:Int)),some (.int v),some (.str (nm (kd bb ps ws c' v))),x13]) ⟨.of kC.tb (a0x.refl _),_,rfl⟩ (fun m σ H' _ hP=>SqL.of (hP.1.lst hC)) (fun m x σ HD hx hP=>?_) (fun σ HD hP=>?_)
 ·obtain ⟨kD,x13',rfl⟩:=hP
  obtain ⟨y,rfl,hy2⟩:∃ y,x=.int y∧wy bb y:=by
   match m,hx with
   | 0,hx=>cases hx;exact ⟨_,rfl,.inl rfl⟩
   | 1,hx=>cases hx;exact ⟨_,rfl,.inr rfl⟩
   | m+2,hx=>simp at hx
  refine ⟨_,rfl,_,rfl,_,rfl,_,rfl,_,rfl,bb,y,p,q',b,ps,ws,c',v,rfl,hy2,cdC.kq kD,nu,pop,pow,kD.tb,fun HE kE=>?_⟩
  refine ⟨_,rfl,rfl,_,rfl,?_⟩
  rw [decide_eq_true rfl]
  exact iteF ⟨kD.trans kE,_,rfl⟩
 ·obtain ⟨kD,x13',rfl⟩:=hP
  exact ⟨kC.trans kD,_,_,_,_,_,_,_,_,_,rfl⟩
end
end Q
end K66
namespace K66.Q
open PySem L2
theorem al1 {α:Type} {P:List α→Prop} (h:∀ a0:α,P [a0]):∀ us:List α,us.length=1→P us
 | [a0],_=>h a0
theorem al2 {α:Type} {P:List α→Prop} (h:∀ a0 a1:α,P [a0,a1]):∀ us:List α,us.length=2→P us
 | [a0,a1],_=>h a0 a1
theorem al3 {α:Type} {P:List α→Prop} (h:∀ a0 a1 a2:α,P [a0,a1,a2]):∀ us:List α,us.length=3→P us
 | [a0,a1,a2],_=>h a0 a1 a2
theorem al4 {α:Type} {P:List α→Prop} (h:∀ a0 a1 a2 a3:α,P [a0,a1,a2,a3]):∀ us:List α,us.length=4→P us
 | [a0,a1,a2,a3],_=>h a0 a1 a2 a3
theorem al5 {α:Type} {P:List α→Prop} (h:∀ a0 a1 a2 a3 a4:α,P [a0,a1,a2,a3,a4]):∀ us:List α,us.length=5→P us
 | [a0,a1,a2,a3,a4],_=>h a0 a1 a2 a3 a4
theorem al6 {α:Type} {P:List α→Prop} (h:∀ a0 a1 a2 a3 a4 a5:α,P [a0,a1,a2,a3,a4,a5]):∀ us:List α,us.length=6→P us
 | [a0,a1,a2,a3,a4,a5],_=>h a0 a1 a2 a3 a4 a5
theorem all_mk {T:Addr} {ts:List Addr} (hT:T∈ts) {l:PySem.W.OpenLaw} {w:World} {K:PySem.W.Frag} {h:Heap} {mg:Str→Option Value} {fa f1 f2 f3 f4 f5 f6 f7 f8 f9 f10 f11 f12 f13 f14 f15 f16 f17 f18 f19 f20 f21 f22 f23 f24 f25 f26 f27 f28 f29 f30 f31 f32 f33 f34 f35 f36 f37 f38 f39 f40 f41 f42 f43 f44 f45 f46 f47 f48:Addr} (X:K.In h) (G:h.Ns mainGlobals mg) (hfa:mg "law"=some (.ref fa))
  {od1 an1 od2 an2 od3 an3 od4 an4 od5 an5 od6 an6 od7 an7 od8 an8 od9 an9 od10 an10 od11 an11 od12 an12 od13 an13 od14 an14 od15 an15 od16 an16 od17 an17 od18 an18 od19 an19 od20 an20 od21 an21 od22 an22 od23 an23 od24 an24 od25 an25 od26 an26 od27 an27 od28 an28 od29 an29 od30 an30 od31 an31 od32 an32 od33 an33 od34 an34 od35 an35 od36 an36 od37 an37 od38 an38 od39 an39 od40 an40 od41 an41 od42 an42 od43 an43 od44 an44 od45 an45 od46 an46 od47 an47 od48 an48:Option Addr} {sl1 sl2 sl3 sl4 sl5 sl6 sl7 sl8 sl9 sl10 sl11 sl12 sl13 sl14 sl15 sl16 sl17 sl18 sl19 sl20 sl21 sl22 sl23 sl24 sl25 sl26 sl27 sl28 sl29 sl30 sl31 sl32 sl33 sl34 sl35 sl36 sl37 sl38 sl39 sl40 sl41 sl42 sl43 sl44 sl45 sl46 sl47 sl48:Array (Option Value)}
  {oc1 kV1 dc1 pm1 cd1 ct1 oc2 kV2 dc2 pm2 cd2 ct2 oc3 kV3 dc3 pm3 cd3 ct3 oc4 kV4 dc4 pm4 cd4 ct4 oc5 kV5 dc5 pm5 cd5 ct5 oc6 kV6 dc6 pm6 cd6 ct6 oc7 kV7 dc7 pm7 cd7 ct7 oc8 kV8 dc8 pm8 cd8 ct8 oc9 kV9 dc9 pm9 cd9 ct9 oc10 kV10 dc10 pm10 cd10 ct10 oc11 kV11 dc11 pm11 cd11 ct11 oc12 kV12 dc12 pm12 cd12 ct12 oc13 kV13 dc13 pm13 cd13 ct13 oc14 kV14 dc14 pm14 cd14 ct14 oc15 kV15 dc15 pm15 cd15 ct15 oc16 kV16 dc16 pm16 cd16 ct16 oc17 kV17 dc17 pm17 cd17 ct17 oc18 kV18 dc18 pm18 cd18 ct18 oc19 kV19 dc19 pm19 cd19 ct19 oc20 kV20 dc20 pm20 cd20 ct20 oc21 kV21 dc21 pm21 cd21 ct21 oc22 kV22 dc22 pm22 cd22 ct22 oc23 kV23 dc23 pm23 cd23 ct23 oc24 kV24 dc24 pm24 cd24 ct24 oc25 kV25 dc25 pm25 cd25 ct25 oc26 kV26 dc26 pm26 cd26 ct26 oc27 kV27 dc27 pm27 cd27 ct27 oc28 kV28 dc28 pm28 cd28 ct28 oc29 kV29 dc29 pm29 cd29 ct29 oc30 kV30 dc30 pm30 cd30 ct30 oc31 kV31 dc31 pm31 cd31 ct31 oc32 kV32 dc32 pm32 cd32 ct32 oc33 kV33 dc33 pm33 cd33 ct33 oc34 kV34 dc34 pm34 cd34 ct34 oc35 kV35 dc35 pm35 cd35 ct35 oc36 kV36 dc36 pm36 cd36 ct36 oc37 kV37 dc37 pm37 cd37 ct37 oc38 kV38 dc38 pm38 cd38 ct38 oc39 kV39 dc39 pm39 cd39 ct39 oc40 kV40 dc40 pm40 cd40 ct40 oc41 kV41 dc41 pm41 cd41 ct41 oc42 kV42 dc42 pm42 cd42 ct42 oc43 kV43 dc43 pm43 cd43 ct43 oc44 kV44 dc44 pm44 cd44 ct44 oc45 kV45 dc45 pm45 cd45 ct45 oc46 kV46 dc46 pm46 cd46 ct46 oc47 kV47 dc47 pm47 cd47 ct47 oc48 kV48 dc48 pm48 cd48 ct48:Value}
  (a1:PySem.W.nsIn K mainGlobals "is_amount"=some (some (.ref f1))) (l1:K.lookup f1=some ⟨oc1,od1,.func (PySem.W.fnOf "is_amount" "is_amount" (a0m sIs) (a0k sIs) (a0b sIs) .none kV1 dc1 pm1 an1 cd1 ct1),sl1⟩) (c1:PySem.W.codeIn K cd1 "is_amount"=true) (k1:PySem.W.keepIn K (.ref f1)=true)
  (a2:PySem.W.nsIn K mainGlobals "has_letters_alone"=some (some (.ref f2))) (l2:K.lookup f2=some ⟨oc2,od2,.func (PySem.W.fnOf "has_letters_alone" "has_letters_alone" (a0m a3z) (a0k a3z) (a0b a3z) .none kV2 dc2 pm2 an2 cd2 ct2),sl2⟩) (c2:PySem.W.codeIn K cd2 "has_letters_alone"=true) (k2:PySem.W.keepIn K (.ref f2)=true)
  (a3:PySem.W.nsIn K mainGlobals "word_price"=some (some (.ref f3))) (l3:K.lookup f3=some ⟨oc3,od3,.func (PySem.W.fnOf "word_price" "word_price" (a0m a2p) (a0k a2p) (a0b a2p) .none kV3 dc3 pm3 an3 cd3 ct3),sl3⟩) (c3:PySem.W.codeIn K cd3 "word_price"=true) (k3:PySem.W.keepIn K (.ref f3)=true)
  (a4:PySem.W.nsIn K mainGlobals "begins"=some (some (.ref f4))) (l4:K.lookup f4=some ⟨oc4,od4,.func (PySem.W.fnOf "begins" "begins" (a0m a2O) (a0k a2O) (a0b a2O) .none kV4 dc4 pm4 an4 cd4 ct4),sl4⟩) (c4:PySem.W.codeIn K cd4 "begins"=true) (k4:PySem.W.keepIn K (.ref f4)=true)
  (a5:PySem.W.nsIn K mainGlobals "clash"=some (some (.ref f5))) (l5:K.lookup f5=some ⟨oc5,od5,.func (PySem.W.fnOf "clash" "clash" (a0m a3Z) (a0k a3Z) (a0b a3Z) .none kV5 dc5 pm5 an5 cd5 ct5),sl5⟩) (c5:PySem.W.codeIn K cd5 "clash"=true) (k5:PySem.W.keepIn K (.ref f5)=true)
  (a6:PySem.W.nsIn K mainGlobals "rises"=some (some (.ref f6))) (l6:K.lookup f6=some ⟨oc6,od6,.func (PySem.W.fnOf "rises" "rises" (a0m a3A) (a0k a3A) (a0b a3A) .none kV6 dc6 pm6 an6 cd6 ct6),sl6⟩) (c6:PySem.W.codeIn K cd6 "rises"=true) (k6:PySem.W.keepIn K (.ref f6)=true)
  (a7:PySem.W.nsIn K mainGlobals "is_kept"=some (some (.ref f7))) (l7:K.lookup f7=some ⟨oc7,od7,.func (PySem.W.fnOf "is_kept" "is_kept" (a0m a2P) (a0k a2P) (a0b a2P) .none kV7 dc7 pm7 an7 cd7 ct7),sl7⟩) (c7:PySem.W.codeIn K cd7 "is_kept"=true) (k7:PySem.W.keepIn K (.ref f7)=true)
  (a8:PySem.W.nsIn K mainGlobals "cost"=some (some (.ref f8))) (l8:K.lookup f8=some ⟨oc8,od8,.func (PySem.W.fnOf "cost" "cost" (a0m a3B) (a0k a3B) (a0b a3B) .none kV8 dc8 pm8 an8 cd8 ct8),sl8⟩) (c8:PySem.W.codeIn K cd8 "cost"=true) (k8:PySem.W.keepIn K (.ref f8)=true)
  (a9:PySem.W.nsIn K mainGlobals "weight_sums"=some (some (.ref f9))) (l9:K.lookup f9=some ⟨oc9,od9,.func (PySem.W.fnOf "weight_sums" "weight_sums" (a0m a7u) (a0k a7u) (a0b a7u) .none kV9 dc9 pm9 an9 cd9 ct9),sl9⟩) (c9:PySem.W.codeIn K cd9 "weight_sums"=true) (k9:PySem.W.keepIn K (.ref f9)=true)
  (a10:PySem.W.nsIn K mainGlobals "row_with"=some (some (.ref f10))) (l10:K.lookup f10=some ⟨oc10,od10,.func (PySem.W.fnOf "row_with" "row_with" (a0m b3s) (a0k b3s) (a0b b3s) .none kV10 dc10 pm10 an10 cd10 ct10),sl10⟩) (c10:PySem.W.codeIn K cd10 "row_with"=true) (k10:PySem.W.keepIn K (.ref f10)=true)
  (a11:PySem.W.nsIn K mainGlobals "square"=some (some (.ref f11))) (l11:K.lookup f11=some ⟨oc11,od11,.func (PySem.W.fnOf "square" "square" (a0m a2o) (a0k a2o) (a0b a2o) .none kV11 dc11 pm11 an11 cd11 ct11),sl11⟩) (c11:PySem.W.codeIn K cd11 "square"=true) (k11:PySem.W.keepIn K (.ref f11)=true)
  (a12:PySem.W.nsIn K mainGlobals "least"=some (some (.ref f12))) (l12:K.lookup f12=some ⟨oc12,od12,.func (PySem.W.fnOf "least" "least" (a0m a3y) (a0k a3y) (a0b a3y) .none kV12 dc12 pm12 an12 cd12 ct12),sl12⟩) (c12:PySem.W.codeIn K cd12 "least"=true) (k12:PySem.W.keepIn K (.ref f12)=true)
  (a13:PySem.W.nsIn K mainGlobals "added"=some (some (.ref f13))) (l13:K.lookup f13=some ⟨oc13,od13,.func (PySem.W.fnOf "added" "added" (a0m a3Y) (a0k a3Y) (a0b a3Y) .none kV13 dc13 pm13 an13 cd13 ct13),sl13⟩) (c13:PySem.W.codeIn K cd13 "added"=true) (k13:PySem.W.keepIn K (.ref f13)=true)
  (a14:PySem.W.nsIn K mainGlobals "parted_least"=some (some (.ref f14))) (l14:K.lookup f14=some ⟨oc14,od14,.func (PySem.W.fnOf "parted_least" "parted_least" (a0m sPl) (a0k sPl) (a0b sPl) .none kV14 dc14 pm14 an14 cd14 ct14),sl14⟩) (c14:PySem.W.codeIn K cd14 "parted_least"=true) (k14:PySem.W.keepIn K (.ref f14)=true)
  (a15:PySem.W.nsIn K mainGlobals "parted_words"=some (some (.ref f15))) (l15:K.lookup f15=some ⟨oc15,od15,.func (PySem.W.fnOf "parted_words" "parted_words" (a0m sPw) (a0k sPw) (a0b sPw) .none kV15 dc15 pm15 an15 cd15 ct15),sl15⟩) (c15:PySem.W.codeIn K cd15 "parted_words"=true) (k15:PySem.W.keepIn K (.ref f15)=true)
  (a16:PySem.W.nsIn K mainGlobals "least_floors"=some (some (.ref f16))) (l16:K.lookup f16=some ⟨oc16,od16,.func (PySem.W.fnOf "least_floors" "least_floors" (a0m sLf) (a0k sLf) (a0b sLf) .none kV16 dc16 pm16 an16 cd16 ct16),sl16⟩) (c16:PySem.W.codeIn K cd16 "least_floors"=true) (k16:PySem.W.keepIn K (.ref f16)=true)
  (a17:PySem.W.nsIn K mainGlobals "cheapest_kept"=some (some (.ref f17))) (l17:K.lookup f17=some ⟨oc17,od17,.func (PySem.W.fnOf "cheapest_kept" "cheapest_kept" (a0m sCk) (a0k sCk) (a0b sCk) .none kV17 dc17 pm17 an17 cd17 ct17),sl17⟩) (c17:PySem.W.codeIn K cd17 "cheapest_kept"=true) (k17:PySem.W.keepIn K (.ref f17)=true)
  (a18:PySem.W.nsIn K mainGlobals "kept_words"=some (some (.ref f18))) (l18:K.lookup f18=some ⟨oc18,od18,.func (PySem.W.fnOf "kept_words" "kept_words" (a0m sKw) (a0k sKw) (a0b sKw) .none kV18 dc18 pm18 an18 cd18 ct18),sl18⟩) (c18:PySem.W.codeIn K cd18 "kept_words"=true) (k18:PySem.W.keepIn K (.ref f18)=true)
  (a19:PySem.W.nsIn K mainGlobals "is_cheapest_kept"=some (some (.ref f19))) (l19:K.lookup f19=some ⟨oc19,od19,.func (PySem.W.fnOf "is_cheapest_kept" "is_cheapest_kept" (a0m b3t) (a0k b3t) (a0b b3t) .none kV19 dc19 pm19 an19 cd19 ct19),sl19⟩) (c19:PySem.W.codeIn K cd19 "is_cheapest_kept"=true) (k19:PySem.W.keepIn K (.ref f19)=true)
  (a20:PySem.W.nsIn K mainGlobals "price_moved"=some (some (.ref f20))) (l20:K.lookup f20=some ⟨oc20,od20,.func (PySem.W.fnOf "price_moved" "price_moved" (a0m sPM) (a0k sPM) (a0b sPM) .none kV20 dc20 pm20 an20 cd20 ct20),sl20⟩) (c20:PySem.W.codeIn K cd20 "price_moved"=true) (k20:PySem.W.keepIn K (.ref f20)=true)
  (a21:PySem.W.nsIn K mainGlobals "weight_moved"=some (some (.ref f21))) (l21:K.lookup f21=some ⟨oc21,od21,.func (PySem.W.fnOf "weight_moved" "weight_moved" (a0m sWM) (a0k sWM) (a0b sWM) .none kV21 dc21 pm21 an21 cd21 ct21),sl21⟩) (c21:PySem.W.codeIn K cd21 "weight_moved"=true) (k21:PySem.W.keepIn K (.ref f21)=true)
  (a22:PySem.W.nsIn K mainGlobals "refuse_letter"=some (some (.ref f22))) (l22:K.lookup f22=some ⟨oc22,od22,.func (PySem.W.fnOf "refuse_letter" "refuse_letter" (a0m sRL) (a0k sRL) (a0b sRL) .none kV22 dc22 pm22 an22 cd22 ct22),sl22⟩) (c22:PySem.W.codeIn K cd22 "refuse_letter"=true) (k22:PySem.W.keepIn K (.ref f22)=true)
  (a23:PySem.W.nsIn K mainGlobals "refuse_thing"=some (some (.ref f23))) (l23:K.lookup f23=some ⟨oc23,od23,.func (PySem.W.fnOf "refuse_thing" "refuse_thing" (a0m sRT) (a0k sRT) (a0b sRT) .none kV23 dc23 pm23 an23 cd23 ct23),sl23⟩) (c23:PySem.W.codeIn K cd23 "refuse_thing"=true) (k23:PySem.W.keepIn K (.ref f23)=true)
  (a24:PySem.W.nsIn K mainGlobals "with_number"=some (some (.ref f24))) (l24:K.lookup f24=some ⟨oc24,od24,.func (PySem.W.fnOf "with_number" "with_number" (a0m sWN) (a0k sWN) (a0b sWN) .none kV24 dc24 pm24 an24 cd24 ct24),sl24⟩) (c24:PySem.W.codeIn K cd24 "with_number"=true) (k24:PySem.W.keepIn K (.ref f24)=true)
  (a25:PySem.W.nsIn K mainGlobals "price_share"=some (some (.ref f25))) (l25:K.lookup f25=some ⟨oc25,od25,.func (PySem.W.fnOf "price_share" "price_share" (a0m sPS) (a0k sPS) (a0b sPS) .none kV25 dc25 pm25 an25 cd25 ct25),sl25⟩) (c25:PySem.W.codeIn K cd25 "price_share"=true) (k25:PySem.W.keepIn K (.ref f25)=true)
  (a26:PySem.W.nsIn K mainGlobals "weight_share"=some (some (.ref f26))) (l26:K.lookup f26=some ⟨oc26,od26,.func (PySem.W.fnOf "weight_share" "weight_share" (a0m sWS) (a0k sWS) (a0b sWS) .none kV26 dc26 pm26 an26 cd26 ct26),sl26⟩) (c26:PySem.W.codeIn K cd26 "weight_share"=true) (k26:PySem.W.keepIn K (.ref f26)=true)
  (a27:PySem.W.nsIn K mainGlobals "end_towards"=some (some (.ref f27))) (l27:K.lookup f27=some ⟨oc27,od27,.func (PySem.W.fnOf "end_towards" "end_towards" (a0m sEt) (a0k sEt) (a0b sEt) .none kV27 dc27 pm27 an27 cd27 ct27),sl27⟩) (c27:PySem.W.codeIn K cd27 "end_towards"=true) (k27:PySem.W.keepIn K (.ref f27)=true)
  (a28:PySem.W.nsIn K mainGlobals "both_ends"=some (some (.ref f28))) (l28:K.lookup f28=some ⟨oc28,od28,.func (PySem.W.fnOf "both_ends" "both_ends" (a0m sBe) (a0k sBe) (a0b sBe) .none kV28 dc28 pm28 an28 cd28 ct28),sl28⟩) (c28:PySem.W.codeIn K cd28 "both_ends"=true) (k28:PySem.W.keepIn K (.ref f28)=true)
  (a29:PySem.W.nsIn K mainGlobals "stretch_of"=some (some (.ref f29))) (l29:K.lookup f29=some ⟨oc29,od29,.func (PySem.W.fnOf "stretch_of" "stretch_of" (a0m sSo) (a0k sSo) (a0b sSo) .none kV29 dc29 pm29 an29 cd29 ct29),sl29⟩) (c29:PySem.W.codeIn K cd29 "stretch_of"=true) (k29:PySem.W.keepIn K (.ref f29)=true)
  (a30:PySem.W.nsIn K mainGlobals "beyond_of"=some (some (.ref f30))) (l30:K.lookup f30=some ⟨oc30,od30,.func (PySem.W.fnOf "beyond_of" "beyond_of" (a0m sBo) (a0k sBo) (a0b sBo) .none kV30 dc30 pm30 an30 cd30 ct30),sl30⟩) (c30:PySem.W.codeIn K cd30 "beyond_of"=true) (k30:PySem.W.keepIn K (.ref f30)=true)
  (a31:PySem.W.nsIn K mainGlobals "price_stretch"=some (some (.ref f31))) (l31:K.lookup f31=some ⟨oc31,od31,.func (PySem.W.fnOf "price_stretch" "price_stretch" (a0m b3u) (a0k b3u) (a0b b3u) .none kV31 dc31 pm31 an31 cd31 ct31),sl31⟩) (c31:PySem.W.codeIn K cd31 "price_stretch"=true) (k31:PySem.W.keepIn K (.ref f31)=true)
  (a32:PySem.W.nsIn K mainGlobals "weight_stretch"=some (some (.ref f32))) (l32:K.lookup f32=some ⟨oc32,od32,.func (PySem.W.fnOf "weight_stretch" "weight_stretch" (a0m b3v) (a0k b3v) (a0b b3v) .none kV32 dc32 pm32 an32 cd32 ct32),sl32⟩) (c32:PySem.W.codeIn K cd32 "weight_stretch"=true) (k32:PySem.W.keepIn K (.ref f32)=true)
  (a33:PySem.W.nsIn K mainGlobals "price_beyond"=some (some (.ref f33))) (l33:K.lookup f33=some ⟨oc33,od33,.func (PySem.W.fnOf "price_beyond" "price_beyond" (a0m b3B) (a0k b3B) (a0b b3B) .none kV33 dc33 pm33 an33 cd33 ct33),sl33⟩) (c33:PySem.W.codeIn K cd33 "price_beyond"=true) (k33:PySem.W.keepIn K (.ref f33)=true)
  (a34:PySem.W.nsIn K mainGlobals "weight_beyond"=some (some (.ref f34))) (l34:K.lookup f34=some ⟨oc34,od34,.func (PySem.W.fnOf "weight_beyond" "weight_beyond" (a0m b3C) (a0k b3C) (a0b b3C) .none kV34 dc34 pm34 an34 cd34 ct34),sl34⟩) (c34:PySem.W.codeIn K cd34 "weight_beyond"=true) (k34:PySem.W.keepIn K (.ref f34)=true)
  (a35:PySem.W.nsIn K mainGlobals "_law_cell"=some (some (.ref f35))) (l35:K.lookup f35=some ⟨oc35,od35,.func (PySem.W.fnOf "_law_cell" "_law_cell" (a0m a7v) (a0k a7v) (a0b a7v) .none kV35 dc35 pm35 an35 cd35 ct35),sl35⟩) (c35:PySem.W.codeIn K cd35 "_law_cell"=true) (k35:PySem.W.keepIn K (.ref f35)=true)
  (a36:PySem.W.nsIn K mainGlobals "_law_number"=some (some (.ref f36))) (l36:K.lookup f36=some ⟨oc36,od36,.func (PySem.W.fnOf "_law_number" "_law_number" (a0m a2Q) (a0k a2Q) (a0b a2Q) .none kV36 dc36 pm36 an36 cd36 ct36),sl36⟩) (c36:PySem.W.codeIn K cd36 "_law_number"=true) (k36:PySem.W.keepIn K (.ref f36)=true)
  (a37:PySem.W.nsIn K mainGlobals "_law_numbers"=some (some (.ref f37))) (l37:K.lookup f37=some ⟨oc37,od37,.func (PySem.W.fnOf "_law_numbers" "_law_numbers" (a0m a2g) (a0k a2g) (a0b a2g) .none kV37 dc37 pm37 an37 cd37 ct37),sl37⟩) (c37:PySem.W.codeIn K cd37 "_law_numbers"=true) (k37:PySem.W.keepIn K (.ref f37)=true)
  (a38:PySem.W.nsIn K mainGlobals "_law_input"=some (some (.ref f38))) (l38:K.lookup f38=some ⟨oc38,od38,.func (PySem.W.fnOf "_law_input" "_law_input" (a0m a2b) (a0k a2b) (a0b a2b) .none kV38 dc38 pm38 an38 cd38 ct38),sl38⟩) (c38:PySem.W.codeIn K cd38 "_law_input"=true) (k38:PySem.W.keepIn K (.ref f38)=true)
  (a39:PySem.W.nsIn K mainGlobals "_law_rows"=some (some (.ref f39))) (l39:K.lookup f39=some ⟨oc39,od39,.func (PySem.W.fnOf "_law_rows" "_law_rows" (a0m a5h) (a0k a5h) (a0b a5h) .none kV39 dc39 pm39 an39 cd39 ct39),sl39⟩) (c39:PySem.W.codeIn K cd39 "_law_rows"=true) (k39:PySem.W.keepIn K (.ref f39)=true)
  (a40:PySem.W.nsIn K mainGlobals "_law_codes"=some (some (.ref f40))) (l40:K.lookup f40=some ⟨oc40,od40,.func (PySem.W.fnOf "_law_codes" "_law_codes" (a0m a3C) (a0k a3C) (a0b a3C) .none kV40 dc40 pm40 an40 cd40 ct40),sl40⟩) (c40:PySem.W.codeIn K cd40 "_law_codes"=true) (k40:PySem.W.keepIn K (.ref f40)=true)
  (a41:PySem.W.nsIn K mainGlobals "_law_price"=some (some (.ref f41))) (l41:K.lookup f41=some ⟨oc41,od41,.func (PySem.W.fnOf "_law_price" "_law_price" (a0m a3D) (a0k a3D) (a0b a3D) .none kV41 dc41 pm41 an41 cd41 ct41),sl41⟩) (c41:PySem.W.codeIn K cd41 "_law_price"=true) (k41:PySem.W.keepIn K (.ref f41)=true)
  (a42:PySem.W.nsIn K mainGlobals "_law_cost"=some (some (.ref f42))) (l42:K.lookup f42=some ⟨oc42,od42,.func (PySem.W.fnOf "_law_cost" "_law_cost" (a0m a5U) (a0k a5U) (a0b a5U) .none kV42 dc42 pm42 an42 cd42 ct42),sl42⟩) (c42:PySem.W.codeIn K cd42 "_law_cost"=true) (k42:PySem.W.keepIn K (.ref f42)=true)
  (a43:PySem.W.nsIn K mainGlobals "_law_cheapest"=some (some (.ref f43))) (l43:K.lookup f43=some ⟨oc43,od43,.func (PySem.W.fnOf "_law_cheapest" "_law_cheapest" (a0m a2Z) (a0k a2Z) (a0b a2Z) .none kV43 dc43 pm43 an43 cd43 ct43),sl43⟩) (c43:PySem.W.codeIn K cd43 "_law_cheapest"=true) (k43:PySem.W.keepIn K (.ref f43)=true)
  (a44:PySem.W.nsIn K mainGlobals "_law_asked"=some (some (.ref f44))) (l44:K.lookup f44=some ⟨oc44,od44,.func (PySem.W.fnOf "_law_asked" "_law_asked" (a0m a4i) (a0k a4i) (a0b a4i) .none kV44 dc44 pm44 an44 cd44 ct44),sl44⟩) (c44:PySem.W.codeIn K cd44 "_law_asked"=true) (k44:PySem.W.keepIn K (.ref f44)=true)
  (a45:PySem.W.nsIn K mainGlobals "_law_refusal"=some (some (.ref f45))) (l45:K.lookup f45=some ⟨oc45,od45,.func (PySem.W.fnOf "_law_refusal" "_law_refusal" (a0m a2i) (a0k a2i) (a0b a2i) .none kV45 dc45 pm45 an45 cd45 ct45),sl45⟩) (c45:PySem.W.codeIn K cd45 "_law_refusal"=true) (k45:PySem.W.keepIn K (.ref f45)=true)
  (a46:PySem.W.nsIn K mainGlobals "_law_due"=some (some (.ref f46))) (l46:K.lookup f46=some ⟨oc46,od46,.func (PySem.W.fnOf "_law_due" "_law_due" (a0m b3m) (a0k b3m) (a0b b3m) .none kV46 dc46 pm46 an46 cd46 ct46),sl46⟩) (c46:PySem.W.codeIn K cd46 "_law_due"=true) (k46:PySem.W.keepIn K (.ref f46)=true)
  (a47:PySem.W.nsIn K mainGlobals "_law_spoilt"=some (some (.ref f47))) (l47:K.lookup f47=some ⟨oc47,od47,.func (PySem.W.fnOf "_law_spoilt" "_law_spoilt" (a0m a2U) (a0k a2U) (a0b a2U) .none kV47 dc47 pm47 an47 cd47 ct47),sl47⟩) (c47:PySem.W.codeIn K cd47 "_law_spoilt"=true) (k47:PySem.W.keepIn K (.ref f47)=true)
  (a48:PySem.W.nsIn K mainGlobals "law"=some (some (.ref f48))) (l48:K.lookup f48=some ⟨oc48,od48,.func (PySem.W.fnOf "law" "law" (a0m b0A) (a0k b0A) (a0b b0A) .none kV48 dc48 pm48 an48 cd48 ct48),sl48⟩) (c48:PySem.W.codeIn K cd48 "law"=true) (k48:PySem.W.keepIn K (.ref f48)=true)
  (z1:PySem.W.nsIn K mainGlobals "len"=some none)
  (z2:PySem.W.nsIn K mainGlobals "range"=some none)
  (z3:PySem.W.nsIn K mainGlobals "sum"=some none)
  (z4:PySem.W.nsIn K mainGlobals "min"=some none)
  (z5:PySem.W.nsIn K mainGlobals "tuple"=some none)
  (z6:PySem.W.nsIn K mainGlobals "list"=some none)
  (z7:PySem.W.nsIn K mainGlobals "zip"=some none)
  (z8:PySem.W.nsIn K mainGlobals "all"=some none)
  (z9:PySem.W.nsIn K mainGlobals "abs"=some none)
  (z10:PySem.W.nsIn K mainGlobals "isinstance"=some none)
  (z11:PySem.W.nsIn K mainGlobals "ValueError"=some none)
  (z12:PySem.W.nsIn K mainGlobals "enumerate"=some none)
  (z13:PySem.W.nsIn K mainGlobals "max"=some none)
  {DT:Addr} (gDT:PySem.W.nsIn K mainGlobals "TollError"=some (some (.ref DT)))
  (xDT:a9X K DT=true)
  {TU:Addr} (gTU:PySem.W.nsIn K mainGlobals "Unlike"=some (some (.ref TU)))
  (xTU:a9X K TU=true)
  (eTU:PySem.W.excIn K TU b3r a5K=true)
  {TW:Addr} (gTW:PySem.W.nsIn K mainGlobals "BadWord"=some (some (.ref TW)))
  (xTW:a9X K TW=true)
  (eTW:PySem.W.excIn K TW b3r a5K=true)
  {TV:Addr} (gTV:PySem.W.nsIn K mainGlobals "NoThing"=some (some (.ref TV)))
  (xTV:a9X K TV=true)
  (eTV:PySem.W.excIn K TV b3r a5K=true)
  {TN:Addr} (gTN:PySem.W.nsIn K mainGlobals "NotCheapest"=some (some (.ref TN)))
  (xTN:a9X K TN=true)
  (eTN:PySem.W.excIn K TN b3r a5K=true)
  {CP:Addr} (gCP:PySem.W.nsIn K mainGlobals "BadNumber"=some (some (.ref CP)))
  (xCP:a9X K CP=true)
  {CW:Addr} (gCW:PySem.W.nsIn K mainGlobals "Clash"=some (some (.ref CW)))
  (xCW:a9X K CW=true)
  (sTUDT:PySem.W.subIn K (.ref TU) (.ref DT)=some true)
  (sTWDT:PySem.W.subIn K (.ref TW) (.ref DT)=some true)
  (sTVDT:PySem.W.subIn K (.ref TV) (.ref DT)=some true)
  (sTNDT:PySem.W.subIn K (.ref TN) (.ref DT)=some true)
  (sTUTW:PySem.W.subIn K (.ref TU) (.ref TW)=some false)
  (sTUTV:PySem.W.subIn K (.ref TU) (.ref TV)=some false)
  (sTUTN:PySem.W.subIn K (.ref TU) (.ref TN)=some false)
  (sTUCP:PySem.W.subIn K (.ref TU) (.ref CP)=some false)
  (sTUCW:PySem.W.subIn K (.ref TU) (.ref CW)=some false)
  (sTWTU:PySem.W.subIn K (.ref TW) (.ref TU)=some false)
  (sTWTV:PySem.W.subIn K (.ref TW) (.ref TV)=some false)
  (sTWTN:PySem.W.subIn K (.ref TW) (.ref TN)=some false)
  (sTWCP:PySem.W.subIn K (.ref TW) (.ref CP)=some false)
  (sTWCW:PySem.W.subIn K (.ref TW) (.ref CW)=some false)
  (sTVTU:PySem.W.subIn K (.ref TV) (.ref TU)=some false)
  (sTVTW:PySem.W.subIn K (.ref TV) (.ref TW)=some false)
  (sTVTN:PySem.W.subIn K (.ref TV) (.ref TN)=some false)
  (sTVCP:PySem.W.subIn K (.ref TV) (.ref CP)=some false)
  (sTVCW:PySem.W.subIn K (.ref TV) (.ref CW)=some false)
  (sTNTU:PySem.W.subIn K (.ref TN) (.ref TU)=some false)
  (sTNTW:PySem.W.subIn K (.ref TN) (.ref TW)=some false)
  (sTNTV:PySem.W.subIn K (.ref TN) (.ref TV)=some false)
  (sTNCP:PySem.W.subIn K (.ref TN) (.ref CP)=some false)
  (sTNCW:PySem.W.subIn K (.ref TN) (.ref CW)=some false)
  {C:Addr} (gC:PySem.W.nsIn K mainGlobals "Parted"=some (some (.ref C)))
  {qCinit:Addr} (faCinit:PySem.W.findIn K (.ref C) "__init__"=some (some (.ref qCinit)))
  (fiCinit:PySem.W.isFn K (.ref qCinit)=true)
  {oiCinit:Value} {diCinit:Option Addr} {kiCinit:Value} {uiCinit:Value} {miCinit:Value} {niCinit:Option Addr} {viCinit:Value} {tiCinit:Value} {siCinit:Array (Option Value)} (liCinit:K.lookup qCinit=some ⟨oiCinit,diCinit,.func (PySem.W.fnOf "__init__" "Parted.__init__" (a0m a2c) (a0k a2c) (a0b a2c) .none kiCinit uiCinit miCinit niCinit viCinit tiCinit),siCinit⟩)
  (ciCinit:PySem.W.codeIn K viCinit "Parted.__init__"=true)
  (kkCinit:PySem.W.keepIn K (.ref qCinit)=true)
  {qCput:Addr} (faCput:PySem.W.findIn K (.ref C) "put"=some (some (.ref qCput)))
  (fiCput:PySem.W.isFn K (.ref qCput)=true)
  {oiCput:Value} {diCput:Option Addr} {kiCput:Value} {uiCput:Value} {miCput:Value} {niCput:Option Addr} {viCput:Value} {tiCput:Value} {siCput:Array (Option Value)} (liCput:K.lookup qCput=some ⟨oiCput,diCput,.func (PySem.W.fnOf "put" "Parted.put" (a0m b3w) (a0k b3w) (a0b b3w) .none kiCput uiCput miCput niCput viCput tiCput),siCput⟩)
  (ciCput:PySem.W.codeIn K viCput "Parted.put"=true)
  (kkCput:PySem.W.keepIn K (.ref qCput)=true)
  {qCleast_sum:Addr} (faCleast_sum:PySem.W.findIn K (.ref C) "least_sum"=some (some (.ref qCleast_sum)))
  (fiCleast_sum:PySem.W.isFn K (.ref qCleast_sum)=true)
  {oiCleast_sum:Value} {diCleast_sum:Option Addr} {kiCleast_sum:Value} {uiCleast_sum:Value} {miCleast_sum:Value} {niCleast_sum:Option Addr} {viCleast_sum:Value} {tiCleast_sum:Value} {siCleast_sum:Array (Option Value)} (liCleast_sum:K.lookup qCleast_sum=some ⟨oiCleast_sum,diCleast_sum,.func (PySem.W.fnOf "least_sum" "Parted.least_sum" (a0m sLs) (a0k sLs) (a0b sLs) .none kiCleast_sum uiCleast_sum miCleast_sum niCleast_sum viCleast_sum tiCleast_sum),siCleast_sum⟩)
  (ciCleast_sum:PySem.W.codeIn K viCleast_sum "Parted.least_sum"=true)
  (kkCleast_sum:PySem.W.keepIn K (.ref qCleast_sum)=true)
  {qCbound:Addr} (faCbound:PySem.W.findIn K (.ref C) "bound"=some (some (.ref qCbound)))
  (fiCbound:PySem.W.isFn K (.ref qCbound)=true)
  {oiCbound:Value} {diCbound:Option Addr} {kiCbound:Value} {uiCbound:Value} {miCbound:Value} {niCbound:Option Addr} {viCbound:Value} {tiCbound:Value} {siCbound:Array (Option Value)} (liCbound:K.lookup qCbound=some ⟨oiCbound,diCbound,.func (PySem.W.fnOf "bound" "Parted.bound" (a0m a3E) (a0k a3E) (a0b a3E) .none kiCbound uiCbound miCbound niCbound viCbound tiCbound),siCbound⟩)
  (ciCbound:PySem.W.codeIn K viCbound "Parted.bound"=true)
  (kkCbound:PySem.W.keepIn K (.ref qCbound)=true)
  {qCbound_row:Addr} (faCbound_row:PySem.W.findIn K (.ref C) "bound_row"=some (some (.ref qCbound_row)))
  (fiCbound_row:PySem.W.isFn K (.ref qCbound_row)=true)
  {oiCbound_row:Value} {diCbound_row:Option Addr} {kiCbound_row:Value} {uiCbound_row:Value} {miCbound_row:Value} {niCbound_row:Option Addr} {viCbound_row:Value} {tiCbound_row:Value} {siCbound_row:Array (Option Value)} (liCbound_row:K.lookup qCbound_row=some ⟨oiCbound_row,diCbound_row,.func (PySem.W.fnOf "bound_row" "Parted.bound_row" (a0m a5V) (a0k a5V) (a0b a5V) .none kiCbound_row uiCbound_row miCbound_row niCbound_row viCbound_row tiCbound_row),siCbound_row⟩)
  (ciCbound_row:PySem.W.codeIn K viCbound_row "Parted.bound_row"=true)
  (kkCbound_row:PySem.W.keepIn K (.ref qCbound_row)=true)
  {qCbounds:Addr} (faCbounds:PySem.W.findIn K (.ref C) "bounds"=some (some (.ref qCbounds)))
  (fiCbounds:PySem.W.isFn K (.ref qCbounds)=true)
  {oiCbounds:Value} {diCbounds:Option Addr} {kiCbounds:Value} {uiCbounds:Value} {miCbounds:Value} {niCbounds:Option Addr} {viCbounds:Value} {tiCbounds:Value} {siCbounds:Array (Option Value)} (liCbounds:K.lookup qCbounds=some ⟨oiCbounds,diCbounds,.func (PySem.W.fnOf "bounds" "Parted.bounds" (a0m a2q) (a0k a2q) (a0b a2q) .none kiCbounds uiCbounds miCbounds niCbounds viCbounds tiCbounds),siCbounds⟩)
  (ciCbounds:PySem.W.codeIn K viCbounds "Parted.bounds"=true)
  (kkCbounds:PySem.W.keepIn K (.ref qCbounds)=true)
  {qCways:Addr} (faCways:PySem.W.findIn K (.ref C) "ways"=some (some (.ref qCways)))
  (fiCways:PySem.W.isFn K (.ref qCways)=true)
  {oiCways:Value} {diCways:Option Addr} {kiCways:Value} {uiCways:Value} {miCways:Value} {niCways:Option Addr} {viCways:Value} {tiCways:Value} {siCways:Array (Option Value)} (liCways:K.lookup qCways=some ⟨oiCways,diCways,.func (PySem.W.fnOf "ways" "Parted.ways" (a0m a7w) (a0k a7w) (a0b a7w) .none kiCways uiCways miCways niCways viCways tiCways),siCways⟩)
  (ciCways:PySem.W.codeIn K viCways "Parted.ways"=true)
  (kkCways:PySem.W.keepIn K (.ref qCways)=true)
  (pgC:PySem.W.plainGet K C Str.empty=true)
  (hdC:PySem.W.hasDictIn K C=true)
  (poC:PySem.W.plainOver K C=true)
  (saC:PySem.W.findIn K (.ref C) "__setattr__"=some (some (.builtin "object.__setattr__")))
  (mkC:PySem.W.makesIn K C=true)
  (kcC:PySem.W.keepIn K (.ref C)=true)
  (naCprices:PySem.W.findIn K (.ref C) "prices"=some none)
  (naCthings:PySem.W.findIn K (.ref C) "things"=some none)
  (naCsums:PySem.W.findIn K (.ref C) "sums"=some none)
  (naCheads:PySem.W.findIn K (.ref C) "heads"=some none)
  (naCtails:PySem.W.findIn K (.ref C) "tails"=some none)
  {M:Addr} (gM:PySem.W.nsIn K mainGlobals "PriceMove"=some (some (.ref M)))
  {qMinit:Addr} (faMinit:PySem.W.findIn K (.ref M) "__init__"=some (some (.ref qMinit)))
  (fiMinit:PySem.W.isFn K (.ref qMinit)=true)
  {oiMinit:Value} {diMinit:Option Addr} {kiMinit:Value} {uiMinit:Value} {miMinit:Value} {niMinit:Option Addr} {viMinit:Value} {tiMinit:Value} {siMinit:Array (Option Value)} (liMinit:K.lookup qMinit=some ⟨oiMinit,diMinit,.func (PySem.W.fnOf "__init__" "PriceMove.__init__" (a0m iPm) (a0k iPm) (a0b iPm) .none kiMinit uiMinit miMinit niMinit viMinit tiMinit),siMinit⟩)
  (ciMinit:PySem.W.codeIn K viMinit "PriceMove.__init__"=true)
  (kkMinit:PySem.W.keepIn K (.ref qMinit)=true)
  {qMnow:Addr} (faMnow:PySem.W.findIn K (.ref M) "now"=some (some (.ref qMnow)))
  (fiMnow:PySem.W.isFn K (.ref qMnow)=true)
  {oiMnow:Value} {diMnow:Option Addr} {kiMnow:Value} {uiMnow:Value} {miMnow:Value} {niMnow:Option Addr} {viMnow:Value} {tiMnow:Value} {siMnow:Array (Option Value)} (liMnow:K.lookup qMnow=some ⟨oiMnow,diMnow,.func (PySem.W.fnOf "now" "PriceMove.now" (a0m b3x) (a0k b3x) (a0b b3x) .none kiMnow uiMnow miMnow niMnow viMnow tiMnow),siMnow⟩)
  (ciMnow:PySem.W.codeIn K viMnow "PriceMove.now"=true)
  (kkMnow:PySem.W.keepIn K (.ref qMnow)=true)
  {qMshare:Addr} (faMshare:PySem.W.findIn K (.ref M) "share"=some (some (.ref qMshare)))
  (fiMshare:PySem.W.isFn K (.ref qMshare)=true)
  {oiMshare:Value} {diMshare:Option Addr} {kiMshare:Value} {uiMshare:Value} {miMshare:Value} {niMshare:Option Addr} {viMshare:Value} {tiMshare:Value} {siMshare:Array (Option Value)} (liMshare:K.lookup qMshare=some ⟨oiMshare,diMshare,.func (PySem.W.fnOf "share" "PriceMove.share" (a0m a4a) (a0k a4a) (a0b a4a) .none kiMshare uiMshare miMshare niMshare viMshare tiMshare),siMshare⟩)
  (ciMshare:PySem.W.codeIn K viMshare "PriceMove.share"=true)
  (kkMshare:PySem.W.keepIn K (.ref qMshare)=true)
  {qMcheapest_at:Addr} (faMcheapest_at:PySem.W.findIn K (.ref M) "cheapest_at"=some (some (.ref qMcheapest_at)))
  (fiMcheapest_at:PySem.W.isFn K (.ref qMcheapest_at)=true)
  {oiMcheapest_at:Value} {diMcheapest_at:Option Addr} {kiMcheapest_at:Value} {uiMcheapest_at:Value} {miMcheapest_at:Value} {niMcheapest_at:Option Addr} {viMcheapest_at:Value} {tiMcheapest_at:Value} {siMcheapest_at:Array (Option Value)} (liMcheapest_at:K.lookup qMcheapest_at=some ⟨oiMcheapest_at,diMcheapest_at,.func (PySem.W.fnOf "cheapest_at" "PriceMove.cheapest_at" (a0m sAt) (a0k sAt) (a0b sAt) .none kiMcheapest_at uiMcheapest_at miMcheapest_at niMcheapest_at viMcheapest_at tiMcheapest_at),siMcheapest_at⟩)
  (ciMcheapest_at:PySem.W.codeIn K viMcheapest_at "PriceMove.cheapest_at"=true)
  (kkMcheapest_at:PySem.W.keepIn K (.ref qMcheapest_at)=true)
  (pgM:PySem.W.plainGet K M Str.empty=true)
  (hdM:PySem.W.hasDictIn K M=true)
  (poM:PySem.W.plainOver K M=true)
  (saM:PySem.W.findIn K (.ref M) "__setattr__"=some (some (.builtin "object.__setattr__")))
  (mkM:PySem.W.makesIn K M=true)
  (kcM:PySem.W.keepIn K (.ref M)=true)
  (naMprices:PySem.W.findIn K (.ref M) "prices"=some none)
  (naMweights:PySem.W.findIn K (.ref M) "weights"=some none)
  (naMletter:PySem.W.findIn K (.ref M) "letter"=some none)
  {N:Addr} (gN:PySem.W.nsIn K mainGlobals "WeightMove"=some (some (.ref N)))
  {qNinit:Addr} (faNinit:PySem.W.findIn K (.ref N) "__init__"=some (some (.ref qNinit)))
  (fiNinit:PySem.W.isFn K (.ref qNinit)=true)
  {oiNinit:Value} {diNinit:Option Addr} {kiNinit:Value} {uiNinit:Value} {miNinit:Value} {niNinit:Option Addr} {viNinit:Value} {tiNinit:Value} {siNinit:Array (Option Value)} (liNinit:K.lookup qNinit=some ⟨oiNinit,diNinit,.func (PySem.W.fnOf "__init__" "WeightMove.__init__" (a0m iWm) (a0k iWm) (a0b iWm) .none kiNinit uiNinit miNinit niNinit viNinit tiNinit),siNinit⟩)
  (ciNinit:PySem.W.codeIn K viNinit "WeightMove.__init__"=true)
  (kkNinit:PySem.W.keepIn K (.ref qNinit)=true)
  {qNnow:Addr} (faNnow:PySem.W.findIn K (.ref N) "now"=some (some (.ref qNnow)))
  (fiNnow:PySem.W.isFn K (.ref qNnow)=true)
  {oiNnow:Value} {diNnow:Option Addr} {kiNnow:Value} {uiNnow:Value} {miNnow:Value} {niNnow:Option Addr} {viNnow:Value} {tiNnow:Value} {siNnow:Array (Option Value)} (liNnow:K.lookup qNnow=some ⟨oiNnow,diNnow,.func (PySem.W.fnOf "now" "WeightMove.now" (a0m a7x) (a0k a7x) (a0b a7x) .none kiNnow uiNnow miNnow niNnow viNnow tiNnow),siNnow⟩)
  (ciNnow:PySem.W.codeIn K viNnow "WeightMove.now"=true)
  (kkNnow:PySem.W.keepIn K (.ref qNnow)=true)
  {qNshare:Addr} (faNshare:PySem.W.findIn K (.ref N) "share"=some (some (.ref qNshare)))
  (fiNshare:PySem.W.isFn K (.ref qNshare)=true)
  {oiNshare:Value} {diNshare:Option Addr} {kiNshare:Value} {uiNshare:Value} {miNshare:Value} {niNshare:Option Addr} {viNshare:Value} {tiNshare:Value} {siNshare:Array (Option Value)} (liNshare:K.lookup qNshare=some ⟨oiNshare,diNshare,.func (PySem.W.fnOf "share" "WeightMove.share" (a0m a2R) (a0k a2R) (a0b a2R) .none kiNshare uiNshare miNshare niNshare viNshare tiNshare),siNshare⟩)
  (ciNshare:PySem.W.codeIn K viNshare "WeightMove.share"=true)
  (kkNshare:PySem.W.keepIn K (.ref qNshare)=true)
  {qNcheapest_at:Addr} (faNcheapest_at:PySem.W.findIn K (.ref N) "cheapest_at"=some (some (.ref qNcheapest_at)))
  (fiNcheapest_at:PySem.W.isFn K (.ref qNcheapest_at)=true)
  {oiNcheapest_at:Value} {diNcheapest_at:Option Addr} {kiNcheapest_at:Value} {uiNcheapest_at:Value} {miNcheapest_at:Value} {niNcheapest_at:Option Addr} {viNcheapest_at:Value} {tiNcheapest_at:Value} {siNcheapest_at:Array (Option Value)} (liNcheapest_at:K.lookup qNcheapest_at=some ⟨oiNcheapest_at,diNcheapest_at,.func (PySem.W.fnOf "cheapest_at" "WeightMove.cheapest_at" (a0m b3y) (a0k b3y) (a0b b3y) .none kiNcheapest_at uiNcheapest_at miNcheapest_at niNcheapest_at viNcheapest_at tiNcheapest_at),siNcheapest_at⟩)
  (ciNcheapest_at:PySem.W.codeIn K viNcheapest_at "WeightMove.cheapest_at"=true)
  (kkNcheapest_at:PySem.W.keepIn K (.ref qNcheapest_at)=true)
  (pgN:PySem.W.plainGet K N Str.empty=true)
  (hdN:PySem.W.hasDictIn K N=true)
  (poN:PySem.W.plainOver K N=true)
  (saN:PySem.W.findIn K (.ref N) "__setattr__"=some (some (.builtin "object.__setattr__")))
  (mkN:PySem.W.makesIn K N=true)
  (kcN:PySem.W.keepIn K (.ref N)=true)
  (naNprices:PySem.W.findIn K (.ref N) "prices"=some none)
  (naNweights:PySem.W.findIn K (.ref N) "weights"=some none)
  (naNthing:PySem.W.findIn K (.ref N) "thing"=some none)
  {c0:Addr} (hcd:cd18=.ref c0)
  (lhd:PySem.W.codeHdIn K c0 T=true) :
  ∃ fd:FuncData,(∀ (s:Shared) (v:Value),BindsTo s fd ⟨[v],[]⟩ [("script",v)])∧∀ base:Heap,K.In base→base.Ns mainGlobals mg→(∃ bm,L2.BMod mg base ts bm)→a0O l.prog w K mg base CX0 73 fa fd ["script"] (b1b K T):=by
 have e:=hfa.symm.trans (PySem.W.mg_of X G a48)
 cases e
 have F1:=a0u (st:=sIs) l1 c1 k1
 have m1:=PySem.W.mg_of X G a1
 have b1:=F1.binds (ps:=["number"]) fun _ _ _ _ _ _=>al1 fun _=>rfl
 have F2:=a0u (st:=a3z) l2 c2 k2
 have m2:=PySem.W.mg_of X G a2
 have b2:=F2.binds (ps:=["word","letters"]) fun _ _ _ _ _ _=>al2 fun _ _=>rfl
 have F3:=a0u (st:=a2p) l3 c3 k3
 have m3:=PySem.W.mg_of X G a3
 have b3:=F3.binds (ps:=["prices","word"]) fun _ _ _ _ _ _=>al2 fun _ _=>rfl
 have F4:=a0u (st:=a2O) l4 c4 k4
 have m4:=PySem.W.mg_of X G a4
 have b4:=F4.binds (ps:=["one","other"]) fun _ _ _ _ _ _=>al2 fun _ _=>rfl
 have F5:=a0u (st:=a3Z) l5 c5 k5
 have m5:=PySem.W.mg_of X G a5
 have b5:=F5.binds (ps:=["code"]) fun _ _ _ _ _ _=>al1 fun _=>rfl
 have F6:=a0u (st:=a3A) l6 c6 k6
 have m6:=PySem.W.mg_of X G a6
 have b6:=F6.binds (ps:=["code"]) fun _ _ _ _ _ _=>al1 fun _=>rfl
 have F7:=a0u (st:=a2P) l7 c7 k7
 have m7:=PySem.W.mg_of X G a7
 have b7:=F7.binds (ps:=["code"]) fun _ _ _ _ _ _=>al1 fun _=>rfl
 have F8:=a0u (st:=a3B) l8 c8 k8
 have m8:=PySem.W.mg_of X G a8
 have b8:=F8.binds (ps:=["prices","weights","code"]) fun _ _ _ _ _ _=>al3 fun _ _ _=>rfl
 have F9:=a0u (st:=a7u) l9 c9 k9
 have m9:=PySem.W.mg_of X G a9
 have b9:=F9.binds (ps:=["weights"]) fun _ _ _ _ _ _=>al1 fun _=>rfl
 have F10:=a0u (st:=b3s) l10 c10 k10
 have m10:=PySem.W.mg_of X G a10
 have b10:=F10.binds (ps:=["side","at","number"]) fun _ _ _ _ _ _=>al3 fun _ _ _=>rfl
 have F11:=a0u (st:=a2o) l11 c11 k11
 have m11:=PySem.W.mg_of X G a11
 have b11:=F11.binds (ps:=["side","diagonal"]) fun _ _ _ _ _ _=>al2 fun _ _=>rfl
 have F12:=a0u (st:=a3y) l12 c12 k12
 have m12:=PySem.W.mg_of X G a12
 have b12:=F12.binds (ps:=["numbers"]) fun _ _ _ _ _ _=>al1 fun _=>rfl
 have F13:=a0u (st:=a3Y) l13 c13 k13
 have m13:=PySem.W.mg_of X G a13
 have b13:=F13.binds (ps:=["one","other"]) fun _ _ _ _ _ _=>al2 fun _ _=>rfl
 have F14:=a0u (st:=sPl) l14 c14 k14
 have m14:=PySem.W.mg_of X G a14
 have b14:=F14.binds (ps:=["prices","weights"]) fun _ _ _ _ _ _=>al2 fun _ _=>rfl
 have F15:=a0u (st:=sPw) l15 c15 k15
 have m15:=PySem.W.mg_of X G a15
 have b15:=F15.binds (ps:=["parted","first","end","words_of"]) fun _ _ _ _ _ _=>al4 fun _ _ _ _=>rfl
 have F16:=a0u (st:=sLf) l16 c16 k16
 have m16:=PySem.W.mg_of X G a16
 have b16:=F16.binds (ps:=["prices","weights"]) fun _ _ _ _ _ _=>al2 fun _ _=>rfl
 have F17:=a0u (st:=sCk) l17 c17 k17
 have m17:=PySem.W.mg_of X G a17
 have b17:=F17.binds (ps:=["prices","weights"]) fun _ _ _ _ _ _=>al2 fun _ _=>rfl
 have F18:=a0u (st:=sKw) l18 c18 k18
 have m18:=PySem.W.mg_of X G a18
 have b18:=F18.binds (ps:=["parted","first","end"]) fun _ _ _ _ _ _=>al3 fun _ _ _=>rfl
 have F19:=a0u (st:=b3t) l19 c19 k19
 have m19:=PySem.W.mg_of X G a19
 have b19:=F19.binds (ps:=["prices","weights","code"]) fun _ _ _ _ _ _=>al3 fun _ _ _=>rfl
 have F20:=a0u (st:=sPM) l20 c20 k20
 have m20:=PySem.W.mg_of X G a20
 have b20:=F20.binds (ps:=["prices","letter","number"]) fun _ _ _ _ _ _=>al3 fun _ _ _=>rfl
 have F21:=a0u (st:=sWM) l21 c21 k21
 have m21:=PySem.W.mg_of X G a21
 have b21:=F21.binds (ps:=["weights","thing","number"]) fun _ _ _ _ _ _=>al3 fun _ _ _=>rfl
 have F22:=a0u (st:=sRL) l22 c22 k22
 have m22:=PySem.W.mg_of X G a22
 have b22:=F22.binds (ps:=["prices","letter"]) fun _ _ _ _ _ _=>al2 fun _ _=>rfl
 have F23:=a0u (st:=sRT) l23 c23 k23
 have m23:=PySem.W.mg_of X G a23
 have b23:=F23.binds (ps:=["weights","thing"]) fun _ _ _ _ _ _=>al2 fun _ _=>rfl
 have F24:=a0u (st:=sWN) l24 c24 k24
 have m24:=PySem.W.mg_of X G a24
 have b24:=F24.binds (ps:=["numbers","at","number"]) fun _ _ _ _ _ _=>al3 fun _ _ _=>rfl
 have F25:=a0u (st:=sPS) l25 c25 k25
 have m25:=PySem.W.mg_of X G a25
 have b25:=F25.binds (ps:=["prices","weights","code","letter"]) fun _ _ _ _ _ _=>al4 fun _ _ _ _=>rfl
 have F26:=a0u (st:=sWS) l26 c26 k26
 have m26:=PySem.W.mg_of X G a26
 have b26:=F26.binds (ps:=["prices","weights","code","thing"]) fun _ _ _ _ _ _=>al4 fun _ _ _ _=>rfl
 have F27:=a0u (st:=sEt) l27 c27 k27
 have m27:=PySem.W.mg_of X G a27
 have b27:=F27.binds (ps:=["move","code","far"]) fun _ _ _ _ _ _=>al3 fun _ _ _=>rfl
 have F28:=a0u (st:=sBe) l28 c28 k28
 have m28:=PySem.W.mg_of X G a28
 have b28:=F28.binds (ps:=["move","code"]) fun _ _ _ _ _ _=>al2 fun _ _=>rfl
 have F29:=a0u (st:=sSo) l29 c29 k29
 have m29:=PySem.W.mg_of X G a29
 have b29:=F29.binds (ps:=["move","code"]) fun _ _ _ _ _ _=>al2 fun _ _=>rfl
 have F30:=a0u (st:=sBo) l30 c30 k30
 have m30:=PySem.W.mg_of X G a30
 have b30:=F30.binds (ps:=["move","code"]) fun _ _ _ _ _ _=>al2 fun _ _=>rfl
 have F31:=a0u (st:=b3u) l31 c31 k31
 have m31:=PySem.W.mg_of X G a31
 have b31:=F31.binds (ps:=["prices","weights","code","letter"]) fun _ _ _ _ _ _=>al4 fun _ _ _ _=>rfl
 have F32:=a0u (st:=b3v) l32 c32 k32
 have m32:=PySem.W.mg_of X G a32
 have b32:=F32.binds (ps:=["prices","weights","code","thing"]) fun _ _ _ _ _ _=>al4 fun _ _ _ _=>rfl
 have F33:=a0u (st:=b3B) l33 c33 k33
 have m33:=PySem.W.mg_of X G a33
 have b33:=F33.binds (ps:=["prices","weights","code","letter"]) fun _ _ _ _ _ _=>al4 fun _ _ _ _=>rfl
 have F34:=a0u (st:=b3C) l34 c34 k34
 have m34:=PySem.W.mg_of X G a34
 have b34:=F34.binds (ps:=["prices","weights","code","thing"]) fun _ _ _ _ _ _=>al4 fun _ _ _ _=>rfl
 have F35:=a0u (st:=a7v) l35 c35 k35
 have m35:=PySem.W.mg_of X G a35
 have b35:=F35.binds (ps:=["script","k"]) fun _ _ _ _ _ _=>al2 fun _ _=>rfl
 have F36:=a0u (st:=a2Q) l36 c36 k36
 have m36:=PySem.W.mg_of X G a36
 have b36:=F36.binds (ps:=["cell","way"]) fun _ _ _ _ _ _=>al2 fun _ _=>rfl
 have F37:=a0u (st:=a2g) l37 c37 k37
 have m37:=PySem.W.mg_of X G a37
 have b37:=F37.binds (ps:=["script","at","many","way"]) fun _ _ _ _ _ _=>al4 fun _ _ _ _=>rfl
 have F38:=a0u (st:=a2b) l38 c38 k38
 have m38:=PySem.W.mg_of X G a38
 have b38:=F38.binds (ps:=["script"]) fun _ _ _ _ _ _=>al1 fun _=>rfl
 have F39:=a0u (st:=a5h) l39 c39 k39
 have m39:=PySem.W.mg_of X G a39
 have b39:=F39.binds (ps:=["codes","rows","many","low","letters","most"]) fun _ _ _ _ _ _=>al6 fun _ _ _ _ _ _=>rfl
 have F40:=a0u (st:=a3C) l40 c40 k40
 have m40:=PySem.W.mg_of X G a40
 have b40:=F40.binds (ps:=["things","letters"]) fun _ _ _ _ _ _=>al2 fun _ _=>rfl
 have F41:=a0u (st:=a3D) l41 c41 k41
 have m41:=PySem.W.mg_of X G a41
 have b41:=F41.binds (ps:=["prices","word"]) fun _ _ _ _ _ _=>al2 fun _ _=>rfl
 have F42:=a0u (st:=a5U) l42 c42 k42
 have m42:=PySem.W.mg_of X G a42
 have b42:=F42.binds (ps:=["prices","weights","code"]) fun _ _ _ _ _ _=>al3 fun _ _ _=>rfl
 have F43:=a0u (st:=a2Z) l43 c43 k43
 have m43:=PySem.W.mg_of X G a43
 have b43:=F43.binds (ps:=["prices","weights"]) fun _ _ _ _ _ _=>al2 fun _ _=>rfl
 have F44:=a0u (st:=a4i) l44 c44 k44
 have m44:=PySem.W.mg_of X G a44
 have b44:=F44.binds (ps:=["way","prices","weights","code","at"]) fun _ _ _ _ _ _=>al5 fun _ _ _ _ _=>rfl
 have F45:=a0u (st:=a2i) l45 c45 k45
 have m45:=PySem.W.mg_of X G a45
 have b45:=F45.binds (ps:=["way","prices","weights","code","at"]) fun _ _ _ _ _ _=>al5 fun _ _ _ _ _=>rfl
 have F46:=a0u (st:=b3m) l46 c46 k46
 have m46:=PySem.W.mg_of X G a46
 have b46:=F46.binds (ps:=["which","prices","weights","code","at","cheapest"]) fun _ _ _ _ _ _=>al6 fun _ _ _ _ _ _=>rfl
 have F47:=a0u (st:=a2U) l47 c47 k47
 have m47:=PySem.W.mg_of X G a47
 have b47:=F47.binds (ps:=["code","letters","cell"]) fun _ _ _ _ _ _=>al3 fun _ _ _=>rfl
 have F48:=a0u (st:=b0A) l48 c48 k48
 have m48:=PySem.W.mg_of X G a48
 have B_len:=PySem.W.mg_none_of X G z1
 have B_range:=PySem.W.mg_none_of X G z2
 have B_sum:=PySem.W.mg_none_of X G z3
 have B_min:=PySem.W.mg_none_of X G z4
 have B_tuple:=PySem.W.mg_none_of X G z5
 have B_list:=PySem.W.mg_none_of X G z6
 have B_zip:=PySem.W.mg_none_of X G z7
 have B_all:=PySem.W.mg_none_of X G z8
 have B_abs:=PySem.W.mg_none_of X G z9
 have B_isinstance:=PySem.W.mg_none_of X G z10
 have B_ValueError:=PySem.W.mg_none_of X G z11
 have B_enumerate:=PySem.W.mg_none_of X G z12
 have B_max:=PySem.W.mg_none_of X G z13
 refine ⟨PySem.W.fnOf "law" "law" (a0m b0A) (a0k b0A) (a0b b0A) .none kV48 dc48 pm48 an48 cd48 ct48,fun s v=>.of_eq rfl,fun base _ _ hBM=>?_⟩
 have rc:PC K C:=⟨⟨pgC,hdC,poC,saC⟩,naCprices,naCthings,naCsums,naCheads,naCtails⟩
 have rcM:MC true K M:=⟨⟨pgM,hdM,poM,saM⟩,naMprices,naMweights,naMletter⟩
 have rcN:MC false K N:=⟨⟨pgN,hdN,poN,saN⟩,naNprices,naNweights,naNthing⟩
 have FI:=a0u (st:=a2c) liCinit ciCinit kkCinit
 have bI:=FI.binds (ps:=["self","prices","weights"]) fun _ _ _ _ _ _=>al3 fun _ _ _=>rfl
 have FP:=a0u (st:=b3w) liCput ciCput kkCput
 have bP:=FP.binds (ps:=["self","first","end","floor"]) fun _ _ _ _ _ _=>al4 fun _ _ _ _=>rfl
 have FL:=a0u (st:=sLs) liCleast_sum ciCleast_sum kkCleast_sum
 have bL:=FL.binds (ps:=["self","letter","first","end","last"]) fun _ _ _ _ _ _=>al5 fun _ _ _ _ _=>rfl
 have FB:=a0u (st:=a3E) liCbound ciCbound kkCbound
 have bB:=FB.binds (ps:=["self","first","end"]) fun _ _ _ _ _ _=>al3 fun _ _ _=>rfl
 have FR:=a0u (st:=a5V) liCbound_row ciCbound_row kkCbound_row
 have bR:=FR.binds (ps:=["self","first"]) fun _ _ _ _ _ _=>al2 fun _ _=>rfl
 have FS:=a0u (st:=a2q) liCbounds ciCbounds kkCbounds
 have bS:=FS.binds (ps:=["self"]) fun _ _ _ _ _ _=>al1 fun _=>rfl
 have FW:=a0u (st:=a7w) liCways ciCways kkCways
 have bW:=FW.binds (ps:=["self","letter","first","end"]) fun _ _ _ _ _ _=>al4 fun _ _ _ _=>rfl
 have FMI:=a0u (st:=iPm) liMinit ciMinit kkMinit
 have bMI:=FMI.binds (ps:=["self","prices","weights","letter"]) fun _ _ _ _ _ _=>al4 fun _ _ _ _=>rfl
 have FMN:=a0u (st:=b3x) liMnow ciMnow kkMnow
 have bMN:=FMN.binds (ps:=["self"]) fun _ _ _ _ _ _=>al1 fun _=>rfl
 have FMH:=a0u (st:=a4a) liMshare ciMshare kkMshare
 have bMH:=FMH.binds (ps:=["self","code"]) fun _ _ _ _ _ _=>al2 fun _ _=>rfl
 have FMA:=a0u (st:=sAt) liMcheapest_at ciMcheapest_at kkMcheapest_at
 have bMA:=FMA.binds (ps:=["self","number"]) fun _ _ _ _ _ _=>al2 fun _ _=>rfl
 have FNI:=a0u (st:=iWm) liNinit ciNinit kkNinit
 have bNI:=FNI.binds (ps:=["self","prices","weights","thing"]) fun _ _ _ _ _ _=>al4 fun _ _ _ _=>rfl
 have FNN:=a0u (st:=a7x) liNnow ciNnow kkNnow
 have bNN:=FNN.binds (ps:=["self"]) fun _ _ _ _ _ _=>al1 fun _=>rfl
 have FNH:=a0u (st:=a2R) liNshare ciNshare kkNshare
 have bNH:=FNH.binds (ps:=["self","code"]) fun _ _ _ _ _ _=>al2 fun _ _=>rfl
 have FNA:=a0u (st:=b3y) liNcheapest_at ciNcheapest_at kkNcheapest_at
 have bNA:=FNA.binds (ps:=["self","number"]) fun _ _ _ _ _ _=>al2 fun _ _=>rfl
 have B9:Fns l.prog w K mg base ["weights"] "weight_sums" a8Q 2:=⟨_,_,(b2C F9).mono (by decide),b9,k9,m9⟩
 have B10:Fns l.prog w K mg base ["side","at","number"] "row_with" b2F 1:=⟨_,_,ok_row F10,b10,k10,m10⟩
 have B11:Fns l.prog w K mg base ["side","diagonal"] "square" a4A 2:=⟨_,_,a8U F11 B10 B_range,b11,k11,m11⟩
 have B12:Fns l.prog w K mg base ["numbers"] "least" a3F 1:=⟨_,_,b0E F12 B_min,b12,k12,m12⟩
 have B13:Fns l.prog w K mg base ["one","other"] "added" a3G 1:=⟨_,_,b0F F13,b13,k13,m13⟩
 have ML:Mt l.prog w K mg base C "least_sum" ["self","letter","first","end","last"] (spLs C) 2:=⟨_,_,⟨faCleast_sum,fiCleast_sum,kkCleast_sum⟩,ok_ls FL B12 B13 rc B_range,bL⟩
 have MB:Mt l.prog w K mg base C "bound" ["self","first","end"] (a4C C) 3:=⟨_,_,⟨faCbound,fiCbound,kkCbound⟩,b0I FB (B12.up (by decide)) ML rc B_len B_range,bB⟩
 have MP:Mt l.prog w K mg base C "put" ["self","first","end","floor"] (b2K C) 3:=⟨_,_,⟨faCput,fiCput,kkCput⟩,ok_put FP (B12.up (by decide)) (B13.up (by decide)) ML rc B_len B_range,bP⟩
 have MR:Mt l.prog w K mg base C "bound_row" ["self","first"] (a9a C) 4:=⟨_,_,⟨faCbound_row,fiCbound_row,kkCbound_row⟩,b2L FR MB rc B_range,bR⟩
 have MS:Mt l.prog w K mg base C "bounds" ["self"] (a3f C) 5:=⟨_,_,⟨faCbounds,fiCbounds,kkCbounds⟩,a9b FS MR rc B_range,bS⟩
 have MW:Mt l.prog w K mg base C "ways" ["self","letter","first","end"] (a6I C) 3:=⟨_,_,⟨faCways,fiCways,kkCways⟩,(b2Q FW (B13.up (by decide)) rc B_len B_range).mono (by decide),bW⟩
 have cl:Cl l.prog w K mg base C:=⟨rc,PySem.W.mg_of X G gC,_,_,⟨mkC,faCinit,fiCinit,kcC⟩,b0H FI B9 B11 rc B_len B_range,bI⟩
 have B14:Fns l.prog w K mg base ["prices","weights"] "parted_least" (spPl C) 5:=⟨_,_,ok_pl F14 cl (MP.up (by decide)) (MB.up (by decide)) B_len B_range,b14,k14,m14⟩
 have B16:Fns l.prog w K mg base ["prices","weights"] "least_floors" b3f 6:=⟨_,_,ok_lf2 F16 B14 MS rc,b16,k16,m16⟩
 obtain ⟨bm,BM⟩:=hBM
 have LC:LamC K mg base c0 T bm:=⟨lhd,BM.hbm,BM.bo,BM.b1,BM.b2,BM.b3 T hT,BM.b4 T hT⟩
 have B18:Fns l.prog w K mg base ["parted","first","end"] "kept_words" (spKw C T 20) 64:=⟨_,_,ok_kw F18 hcd LC m18 k18 b18 F15 m15 k15 b15 MW rc 20,b18,k18,m18⟩
 have B17:Fns l.prog w K mg base ["prices","weights"] "cheapest_kept" (spCk T) 65:=⟨_,_,ok_ck (by decide) F17 B14 MS B18 rc B_len B_tuple,b17,k17,m17⟩
 have B1:Fns l.prog w K mg base ["number"] "is_amount" spIs 1:=⟨_,_,ok_is F1,b1,k1,m1⟩
 have B2:Fns l.prog w K mg base ["word","letters"] "has_letters_alone" a6a 1:=⟨_,_,b0S F2 B_all,b2,k2,m2⟩
 have xDT:=XC.of xDT
 have xTU:=XC.of xTU
 have xTW:=XC.of xTW
 have xTV:=XC.of xTV
 have xTN:=XC.of xTN
 have xCP:=XC.of xCP
 have xCW:=XC.of xCW
 have cc:Cl4 K mg DT TU TW TV TN CP CW:=⟨PySem.W.mg_of X G gDT,PySem.W.mg_of X G gTU,PySem.W.mg_of X G gTW,PySem.W.mg_of X G gTV,PySem.W.mg_of X G gTN,PySem.W.mg_of X G gCP,PySem.W.mg_of X G gCW,B_ValueError,xDT,xTU,xTW,xTV,xTN,xCP,xCW,⟨eTU⟩,⟨eTW⟩,⟨eTV⟩,⟨eTN⟩,sTUDT,sTWDT,sTVDT,sTNDT,sTUTW,sTUTV,sTUTN,sTUCP,sTUCW,sTWTU,sTWTV,sTWTN,sTWCP,sTWCW,sTVTU,sTVTW,sTVTN,sTVCP,sTVCW,sTNTU,sTNTW,sTNTV,sTNCP,sTNCW⟩
 have B3:a1D l.prog w K mg base ["prices","word"] "word_price" (K66.Q.a2f TW) 2:=⟨_,_,K66.Q.a4G F3 B2 B_len B_sum cc.gCB cc.eCB,b3,k3,m3⟩
 have B8:a1D l.prog w K mg base ["prices","weights","code"] "cost" (a2T TU TW) 3:=⟨_,_,b0T F8 B3 B_len B_sum B_zip cc.gCU cc.eCU,b8,k8,m8⟩
 have B4:Fns l.prog w K mg base ["one","other"] "begins" a4I 1:=⟨_,_,a9o F4 B_len,b4,k4,m4⟩
 have B5:Fns l.prog w K mg base ["code"] "clash" a6c 2:=⟨_,_,b0W F5 B4 B_len B_range,b5,k5,m5⟩
 have B6:Fns l.prog w K mg base ["code"] "rises" a6b 2:=⟨_,_,(b0U F6 B_len B_range B_all).mono (by decide),b6,k6,m6⟩
 have B7:Fns l.prog w K mg base ["code"] "is_kept" a9q 6:=⟨_,_,(b3d F7 B6 B5).mono (by decide),b7,k7,m7⟩
 have B19:Fns l.prog w K mg base ["prices","weights","code"] "is_cheapest_kept" b3h 7:=⟨_,_,ok_ick F19 (B8.up (by decide)) B16 B7,b19,k19,m19⟩
 have B22:a1D l.prog w K mg base ["prices","letter"] "refuse_letter" (a5t TW) 2:=⟨_,_,(ok_RL F22 B_len cc.gCB cc.eCB).mono (by decide),b22,k22,m22⟩
 have B23:a1D l.prog w K mg base ["weights","thing"] "refuse_thing" (a5t TV) 2:=⟨_,_,(ok_RT F23 B_len cc.gCV cc.eCV).mono (by decide),b23,k23,m23⟩
 have B24:Fns l.prog w K mg base ["numbers","at","number"] "with_number" a9B 2:=⟨_,_,ok_WN F24 B1,b24,k24,m24⟩
 have B20:Fns l.prog w K mg base ["prices","letter","number"] "price_moved" a9B 3:=⟨_,_,ok_PM F20 B22 B24,b20,k20,m20⟩
 have B21:Fns l.prog w K mg base ["weights","thing","number"] "weight_moved" a9B 3:=⟨_,_,ok_WM F21 B23 B24,b21,k21,m21⟩
 have B25:a1D l.prog w K mg base ["prices","weights","code","letter"] "price_share" (b3A true TU TW TV) 4:=⟨_,_,ok_ps F25 B8 (B22.up (by decide)) B_sum B_zip,b25,k25,m25⟩
 have B26:a1D l.prog w K mg base ["prices","weights","code","thing"] "weight_share" (b3A false TU TW TV) 4:=⟨_,_,ok_ws F26 B8 (B23.up (by decide)) (B3.up (by decide)),b26,k26,m26⟩
 have clM:ClM true l.prog w K mg base M:=⟨rcM,PySem.W.mg_of X G gM,_,_,⟨mkM,faMinit,fiMinit,kcM⟩,a9t FMI rcM,bMI⟩
 have MTN:Mt l.prog w K mg base M "now" ["self"] (a9v true M) 1:=⟨_,_,⟨faMnow,fiMnow,kkMnow⟩,b3i FMN rcM,bMN⟩
 have MTS:Mt' l.prog w K mg base M "share" ["self","code"] (a7D true M TU TW TV) 5:=⟨_,_,⟨faMshare,fiMshare,kkMshare⟩,b3k FMH rcM B25,bMH⟩
 have MTA:Mt l.prog w K mg base M "cheapest_at" ["self","number"] (spAt true M T) 66:=⟨_,_,⟨faMcheapest_at,fiMcheapest_at,kkMcheapest_at⟩,ok_atP (by decide) FMA rcM B20 B17,bMA⟩
 have B27M:Fns l.prog w K mg base ["move","code","far"] "end_towards" (spEt true M T) 67:=⟨_,_,ok_et (by decide) F27 rcM MTN MTS MTA B8 B_abs,b27,k27,m27⟩
 have B28M:a1D l.prog w K mg base ["move","code"] "both_ends" (spBe true M T TU TW TV TN) 68:=⟨_,_,ok_be (by decide) F28 rcM MTS B19 B27M cc.gCN cc.eCN,b28,k28,m28⟩
 have B29M:a1D l.prog w K mg base ["move","code"] "stretch_of" (a9C true M T TU TW TV TN) 69:=⟨_,_,ok_so F29 B28M,b29,k29,m29⟩
 have B30M:a1D l.prog w K mg base ["move","code"] "beyond_of" (a9C true M T TU TW TV TN) 69:=⟨_,_,ok_bo F30 B28M,b30,k30,m30⟩
 have clN:ClM false l.prog w K mg base N:=⟨rcN,PySem.W.mg_of X G gN,_,_,⟨mkN,faNinit,fiNinit,kcN⟩,a9u FNI rcN,bNI⟩
 have NTN:Mt l.prog w K mg base N "now" ["self"] (a9v false N) 1:=⟨_,_,⟨faNnow,fiNnow,kkNnow⟩,b3j FNN rcN,bNN⟩
 have NTS:Mt' l.prog w K mg base N "share" ["self","code"] (a7D false N TU TW TV) 5:=⟨_,_,⟨faNshare,fiNshare,kkNshare⟩,b3l FNH rcN B26,bNH⟩
 have NTA:Mt l.prog w K mg base N "cheapest_at" ["self","number"] (spAt false N T) 66:=⟨_,_,⟨faNcheapest_at,fiNcheapest_at,kkNcheapest_at⟩,ok_atW (by decide) FNA rcN B21 B17,bNA⟩
 have B27N:Fns l.prog w K mg base ["move","code","far"] "end_towards" (spEt false N T) 67:=⟨_,_,ok_et (by decide) F27 rcN NTN NTS NTA B8 B_abs,b27,k27,m27⟩
 have B28N:a1D l.prog w K mg base ["move","code"] "both_ends" (spBe false N T TU TW TV TN) 68:=⟨_,_,ok_be (by decide) F28 rcN NTS B19 B27N cc.gCN cc.eCN,b28,k28,m28⟩
 have B29N:a1D l.prog w K mg base ["move","code"] "stretch_of" (a9C false N T TU TW TV TN) 69:=⟨_,_,ok_so F29 B28N,b29,k29,m29⟩
 have B30N:a1D l.prog w K mg base ["move","code"] "beyond_of" (a9C false N T TU TW TV TN) 69:=⟨_,_,ok_bo F30 B28N,b30,k30,m30⟩
 have B31:a1D l.prog w K mg base ["prices","weights","code","letter"] "price_stretch" (a2V true T TU TW TV TN) 70:=⟨_,_,ok_pst (by decide) F31 clM B29M,b31,k31,m31⟩
 have B32:a1D l.prog w K mg base ["prices","weights","code","thing"] "weight_stretch" (a2V false T TU TW TV TN) 70:=⟨_,_,ok_wst (by decide) F32 clN B29N,b32,k32,m32⟩
 have B33:a1D l.prog w K mg base ["prices","weights","code","letter"] "price_beyond" (a2V true T TU TW TV TN) 70:=⟨_,_,ok_pby (by decide) F33 clM B30M,b33,k33,m33⟩
 have B34:a1D l.prog w K mg base ["prices","weights","code","thing"] "weight_beyond" (a2V false T TU TW TV TN) 70:=⟨_,_,ok_wby (by decide) F34 clN B30N,b34,k34,m34⟩
 have B35:Fns l.prog w K mg base ["script","k"] "_law_cell" (a5n K) 1:=⟨_,_,b2V F35 B_len,b35,k35,m35⟩
 have B36:Fns l.prog w K mg base ["cell","way"] "_law_number" a4E 1:=⟨_,_,a9i F36,b36,k36,m36⟩
 have B37:Fns l.prog w K mg base ["script","at","many","way"] "_law_numbers" (a3H K) 2:=⟨_,_,a7B F37 B35 B36 B_range B_tuple,b37,k37,m37⟩
 have B38:Fns l.prog w K mg base ["script"] "_law_input" (a5X K) 3:=⟨_,_,b0O F38 (B35.up (by decide)) B37,b38,k38,m38⟩
 have B39:Fns l.prog w K mg base ["codes","rows","many","low","letters","most"] "_law_rows" a9j 1:=⟨_,_,b2X F39 B_range,b39,k39,m39⟩
 have B40:Fns l.prog w K mg base ["things","letters"] "_law_codes" a4F 2:=⟨_,_,b0P F40 B39 B_range B_tuple,b40,k40,m40⟩
 have B41:Fns l.prog w K mg base ["prices","word"] "_law_price" K66.a2f 1:=⟨_,_,K66.a4G F41 B_sum,b41,k41,m41⟩
 have B42:Fns l.prog w K mg base ["prices","weights","code"] "_law_cost" a9l 2:=⟨_,_,b2Y F42 B41 B_sum B_zip,b42,k42,m42⟩
 have B43:Fns l.prog w K mg base ["prices","weights"] "_law_cheapest" a5Z 3:=⟨_,_,b0Q F43 B40 B42 B_len B_min B_zip,b43,k43,m43⟩
 have B47:Fns l.prog w K mg base ["code","letters","cell"] "_law_spoilt" spSp 1:=⟨_,_,ok_sp F47 B_len B_list B_tuple,b47,k47,m47⟩
 have B46:Fns l.prog w K mg base ["which","prices","weights","code","at","cheapest"] "_law_due" spDu 1:=⟨_,_,ok_du F46 B_len,b46,k46,m46⟩
 have B44:a1D l.prog w K mg base ["way","prices","weights","code","at"] "_law_asked" (spAk T TU TW TV TN) 71:=⟨_,_,ok_ak F44 B31 B32 B33 B34,b44,k44,m44⟩
 have B45:Fns l.prog w K mg base ["way","prices","weights","code","at"] "_law_refusal" (spRf T) 72:=⟨_,_,ok_rf F45 B44 cc B_isinstance B_enumerate,b45,k45,m45⟩
 exact ok_law F48 (k:=72) (B38.up (by decide)) (B40.up (by decide)) (B43.up (by decide)) (B35.up (by decide)) (B47.up (by decide)) (B46.up (by decide)) B45 B_len B_range B_max
theorem walk {l:PySem.W.OpenLaw} {q:Program} {loose:List Str} {XP:(Str→Option Value)→Heap→Prop} {YP:World→Heap→Prop} {d:DefRec} {K:Params→PySem.W.Frag} {ts:List Addr} {T:Addr} (hT:T∈ts) (hn:l.most=some 63) (hdf:d.params.defaults=[])
  (hY:∀ (w:World) (h:Heap),YP w h→(K w.params).In h∧∀ T∈ts,h.get? T=some (PySem.W.tabObj #[]))
  (hC:∀ (w:World),∀ T∈ts,(∃ c,PySem.W.codeHdIn (K w.params) c T=true)∧(K w.params).lookup T=none)
  (F:∀ (w:World) (mg:Str→Option Value) (fa:Addr) (h:Heap),(K w.params).In h→h.Ns mainGlobals mg→mg d.name=some (.ref fa) →
   ∃ fd:FuncData,(∀ (s:Shared) (u:Value),BindsTo s fd ⟨[u],[]⟩ [("script",u)])∧∀ base:Heap,(K w.params).In base→base.Ns mainGlobals mg→(∃ bm,L2.BMod mg base ts bm)→a0O l.prog w (K w.params) mg base CX0 73 fa fd ["script"] (b1b (K w.params) T)) :
  PySem.W.WalkO q loose XP YP l.row.toRowW d [] (fun f vs=>PySem.call f vs) :=
 L2.b0w (n:=63) (k:=73) (x:="script") (ts:=ts) (CX:=fun _=>CX0) (sp:=fun w=>b1b (K w.params) T) hn (by decide) hdf ⟨rfl,by decide,by decide⟩ hY hC F (fun _ _ a ns hl hO hS=>⟨a,ns,rfl,hS,hl,.inl (hO T hT),fun _=>rfl⟩) fun _ _ _ _ _ z=>z
end K66.Q
namespace PySem.W.Fast
def tw2162579338092985870:=0
def tw604798581010103575:=0
def tw11246113772368314948:=0
def tw4268534321442268193:=0
def tw5801118382142039749:=0
def tw11298885498677389439:=0
def tw7601586628840038282:=0
def tw252321874704044777:=0
def tw17007583299707686792:=0
def tw2467654647279252899:=0
def tw6933995931551444531:=0
def tw17687369657235341573:=0
def tw11911955417131679443:=0
def tw3737711999612556454:=0
def tw15028668029544119509:=0
def tw16120089914708796502:=0
def tw16712764551716056586:=0
def tw203419786170203400:=0
def tw12731455267813038954:=0
def tw2526182900580895561:=0
def tw15655324524060908484:=0
def tw2658640301583947720:=0
def tw12844430634137476648:=0
def tw2224670979023635509:=0
def tw3592619352464586726:=0
def tw6461899865864044178:=0
def tw16905068666472905658:=0
def tw14344112900188388121:=0
def tw2151214971372728906:=0
def tw14620988182799529549:=0
def tw3088229245450443292:=0
def tw16123144337931882862:=0
def tw4019313351058375481:=0
def tw18004887832041119611:=0
def tw11250518632248075803:=0
def tw4336428130562428584:=0
def tw7364263871835190527:=0
def tw9151184173395953090:=0
def tw1772579797956624402:=0
def tw4212857933073482593:=0
def tw13536327480041892708:=0
def tw15373243977965686362:=0
def tw5850797468448224063:=0
def tw11304942739617435269:=0
def tw7884078425762126768:=0
def tw16591716511908755786:=0
def tw5084920326531827475:=0
def tw600028495311478893:=0
def tw11056238690793598170:=0
def tw15044725447451854075:=0
def tw14775666751366861791:=0
def tw6094970322160710105:=0
def tw18027160019776915915:=0
def tw15503916165615529561:=0
def tw12168838895974814749:=0
def tw16167846928132330689:=0
def tw16234285696579723084:=0
def tw11979457864137914110:=0
def tw15039486496070899555:=0
def tw8485962647536593548:=0
def tw14030752767620712225:=0
def tw9631052377857834469:=0
def tw15016966302178417642:=0
def tw4474969179838387382:=0
def tw11621282426787071918:=0
def tw17578796660040638839:=0
def tw5929351972231488976:=0
def tw14555949674269376709:=0
def tw9582619238465661150:=0
def tw15173677668298371620:=0
def tw6582815188308066954:=0
def tw15550288530337663685:=0
def tw6743775446694708072:=0
def tw9492977828446083010:=0
def tw14755398388487521269:=0
def tw15031788774395352059:=0
def tw11637896049047540436:=0
def tw1930390087936823505:=0
def tw7833324211113773617:=0
def tw16393484737381254815:=0
def tw8652975767764275466:=0
def tw12563562164313981823:=0
def tw16743014023884289490:=0
def tw14217427960586249563:=0
def tw6737100151970318393:=0
def tw2834665784893497401:=0
def tw6547749554026227863:=0
def tw784664897359369217:=0
def tw5673369917873921055:=0
def tw15451325639462865272:=0
def tw9539300203683542362:=0
def tw9955580339520737585:=0
def tw12003440239699146418:=0
def tw1250433206851874245:=0
def tw1673984383030440994:=0
def tw13708037244758941629:=0
def tw11996986528452434982:=0
def tw4267130001872685114:=0
def tw4413833332622153735:=0
def tw5701761762660169375:=0
def tw17589900265790183206:=0
def tw18222927965517467268:=0
def tw2490164358246601780:=0
def tw1859756480073943538:=0
def tw3882778681441529925:=0
def tw14303865492096796844:=0
def tw16024550471727863273:=0
def tw10439943863772802205:=0
def tw10283019400438799375:=0
def tw6600017705435884131:=0
def tw5111215847836577475:=0
def tw12040103178326399442:=0
def tw7079054480839444748:=0
def tw655633965706373835:=0
def tw3624182351150567672:=0
def tw13497271642942752280:=0
def tw4057465630031821857:=0
def tw15769800399347961712:=0
def tw1518575729969055386:=0
def tw13306188394143026291:=0
def tw494392021259703845:=0
def tw55279962317530656:=0
def tw17068735851166019367:=0
def tw13471793984127280824:=0
def tw5703468743859672401:=0
def tw10609606576561370157:=0
def tw7220276989511576770:=0
def tw6814483231123018919:=0
def tw10373880323968391346:=0
def tw12754233049506029922:=0
def tw8439709411625834038:=0
def tw17579994520745807922:=0
def tw9001258913471278400:=0
def tw7385086585760359094:=0
def tw5718507875354842958:=0
def tw2955151799206581399:=0
def tw3621774672221767576:=0
def tw3370988244368163746:=0
def tw9781341092798374662:=0
def tw16192245385312885935:=0
def tw854791165609366533:=0
def tw9888561578291114659:=0
def tw1532608444852758089:=0
def tw8961238881616942112:=0
def tw10596254119453069507:=0
def tw5167405370805579142:=0
def tw18340269984460675872:=0
def tw6931571583312799994:=0
def tw5595558490320609802:=0
def tw3574019065887478208:=0
def tw713510720899034840:=0
def tw12223377547089191711:=0
def tw8503326805048750596:=0
def tw654833365979711319:=0
def tw17949052108811899222:=0
def tw512509303724399376:=0
def tw3946684702651826595:=0
def tw18310033929942176989:=0
def tw8156213323255712023:=0
def tw7317531427942087238:=0
def tw15309134098548241569:=0
def tw15382111168563449859:=0
def tw17262657640079794916:=0
def tw17547347292170654213:=0
def tw13022607951069401921:=0
def tw8156930152038171834:=0
def tw6805385988621870705:=0
def tw1336263282267917802:=0
def tw8873264391473966196:=0
def tw1355289376054762533:=0
def tw6548517696734448639:=0
def tw2851083662128737286:=0
def tw7651069401673539402:=0
def tw15433924518403695417:=0
def tw15641234924409945204:=0
def tw8569650244549681481:=0
def tw8668583049195421217:=0
def tw8206097258534711080:=0
def tw3280826404273363038:=0
def tw12482700683996391163:=0
def tw14857299772019441650:=0
def tw12547964905752608217:=0
def tw11950618068889820589:=0
def tw2914694607727808309:=0
def tw15521001211612588632:=0
def tw14347319681135441273:=0
def tw1702388490615282516:=0
def tw16642179017109560236:=0
def tw1588065536534711173:=0
def tw2059705143102027482:=0
def tw16395101120240468146:=0
def tw483770141616275245:=0
def tw12926564353779799673:=0
def tw9277511868205884928:=0
def tw8946921999198192449:=0
def tw11016847007566428308:=0
def tw10523020838005518704:=0
def tw8443915552204581043:=0
def tw6439884219809697951:=0
def tw6401198449438126822:=0
def tw9934881873268584354:=0
def tw10556872096445832477:=0
def tw8449916223807996553:=0
def tw10320837067536431277:=0
def tw1733352729123770607:=0
def tw8474925597384543320:=0
def tw5442057621059784984:=0
def tw14676893635716953311:=0
def tw13941089781123431839:=0
def tw11826469240454411347:=0
def tw7905489151853201578:=0
def tw14064293730693375696:=0
def tw13587903082484101610:=0
def tw6407562681140342879:=0
def tw7906745728533847096:=0
def tw8226199677615693745:=0
def tw10088506243372014199:=0
def tw16278545960681242779:=0
def tw9901684454582333080:=0
def tw382475068471688246:=0
def tw14953303411566635035:=0
def tw13638073682865457559:=0
def tw8579830409580328154:=0
def tw12519707057538541191:=0
def tw7992595429055588950:=0
def tw17025746716412675643:=0
def tw13709442942665940482:=0
def tw675669645635476349:=0
def tw3304734177385374916:=0
def tw16330097349660673964:=0
def tw15090796937767449275:=0
def tw13127662591701382212:=0
def tw11100812585098512705:=0
def tw10310241424950038846:=0
def tw9007361809892491484:=0
def tw17465021311350079193:=0
def tw89094553249762233:=0
def tw2810330678886299737:=0
def tw16567788878901910581:=0
def tw5918689665828401574:=0
def tw2252716018171426932:=0
def tw1075269280010796873:=0
def tw3425433408705812101:=0
def tw7482801655297232335:=0
def tw7469566820325910388:=0
def tw7214594958557774212:=0
def tw307240440708601420:=0
def tw1948440603954033490:=0
def tw15573732322285175345:=0
def tw1455089398493264100:=0
def tw13374132064376432459:=0
def tw11453817530573111478:=0
def tw10815161113325412900:=0
def tw10423180594126905328:=0
def tw12762938882037057783:=0
def tw6360877919831158583:=0
def tw5883679057289213582:=0
def tw3840042283514713876:=0
def tw8611544480441386876:=0
def tw9065678262721273726:=0
def tw9290907169486144282:=0
def tw8041558563820465446:=0
def tw1504525954116387622:=0
def tw8733795965271263643:=0
def tw7207071490111697377:=0
def tw5606813395119001652:=0
def tw2476020900958502031:=0
def tw17412518008680055819:=0
def tw16875328736984720380:=0
def tw16627474529980925777:=0
def tw16210327040261388224:=0
def tw14613357277904891625:=0
def tw13563120086190747560:=0
def tw15837399025886176303:=0
def tw7388271511885984146:=0
def tw5315814721627829730:=0
def tw4446985053810100795:=0
def tw17760591813392689470:=0
def tw17401745084803301364:=0
def tw12365561690510676087:=0
def tw1034987670920154399:=0
def tw4241120009945378548:=0
def tw9871373061171404966:=0
def tw9857167390614094644:=0
def tw7970698764259629173:=0
def tw7940759689280783703:=0
def tw6944667201899899559:=0
def tw5755033718866042568:=0
def tw5709144953100372510:=0
def tw5086037442254794704:=0
def tw4969740066005335569:=0
def tw4956320055067174570:=0
def tw444931045577436501:=0
def tw3891003810952812147:=0
def tw3847346359069184552:=0
def tw3140354115624549471:=0
def tw2996692624344332560:=0
def tw265825462264135137:=0
def tw2043991511704349312:=0
def tw2031979291468525103:=0
end PySem.W.Fast
open PySem PySem.W PyProof.Rows
set_option maxRecDepth 100000 in
set_option maxHeartbeats 0 in
theorem PySem.Challenge.cw_lettertoll_k66_no_stretches_holds : PySem.Challenge.rw_lettertoll_k66_no_stretches.Holds := by
 w_on;o_law;k_head;(case hw=>w_witness2)
 k_fill
 refine K66.Q.walk (T:=266) (l:=PySem.Challenge.rw_lettertoll_k66_no_stretches) ?hT rfl rfl (fun w h Y=>⟨PySem.W.km_in_of Y,PySem.W.km_tabs_of Y⟩) ?hC ?F
 (case hT=>exact List.mem_singleton.mpr rfl)
 (case hC=>intro w T hT;cases List.mem_singleton.mp hT;exact ⟨⟨270,by kernel_rfl⟩,by kernel_rfl⟩)
 case F =>
  intro w mg fa h KX G hmg
  refine' K66.Q.all_mk (List.mem_singleton.mpr rfl) KX G hmg ?a1 ?l1 ?c1 ?k1 ?a2 ?l2 ?c2 ?k2 ?a3 ?l3 ?c3 ?k3 ?a4 ?l4 ?c4 ?k4 ?a5 ?l5 ?c5 ?k5 ?a6 ?l6 ?c6 ?k6 ?a7 ?l7 ?c7 ?k7 ?a8 ?l8 ?c8 ?k8 ?a9 ?l9 ?c9 ?k9 ?a10 ?l10 ?c10 ?k10 ?a11 ?l11 ?c11 ?k11 ?a12 ?l12 ?c12 ?k12 ?a13 ?l13 ?c13 ?k13 ?a14 ?l14 ?c14 ?k14 ?a15 ?l15 ?c15 ?k15 ?a16 ?l16 ?c16 ?k16 ?a17 ?l17 ?c17 ?k17 ?a18 ?l18 ?c18 ?k18 ?a19 ?l19 ?c19 ?k19 ?a20 ?l20 ?c20 ?k20 ?a21 ?l21 ?c21 ?k21 ?a22 ?l22 ?c22 ?k22 ?a23 ?l23 ?c23 ?k23 ?a24 ?l24 ?c24 ?k24 ?a25 ?l25 ?c25 ?k25 ?a26 ?l26 ?c26 ?k26 ?a27 ?l27 ?c27 ?k27 ?a28 ?l28 ?c28 ?k28 ?a29 ?l29 ?c29 ?k29 ?a30 ?l30 ?c30 ?k30 ?a31 ?l31 ?c31 ?k31 ?a32 ?l32 ?c32 ?k32 ?a33 ?l33 ?c33 ?k33 ?a34 ?l34 ?c34 ?k34 ?a35 ?l35 ?c35 ?k35 ?a36 ?l36 ?c36 ?k36 ?a37 ?l37 ?c37 ?k37 ?a38 ?l38 ?c38 ?k38 ?a39 ?l39 ?c39 ?k39 ?a40 ?l40 ?c40 ?k40 ?a41 ?l41 ?c41 ?k41 ?a42 ?l42 ?c42 ?k42 ?a43 ?l43 ?c43 ?k43 ?a44 ?l44 ?c44 ?k44 ?a45 ?l45 ?c45 ?k45 ?a46 ?l46 ?c46 ?k46 ?a47 ?l47 ?c47 ?k47 ?a48 ?l48 ?c48 ?k48 ?z1 ?z2 ?z3 ?z4 ?z5 ?z6 ?z7 ?z8 ?z9 ?z10 ?z11 ?z12 ?z13 ?gDT ?xDT ?gTU ?xTU ?eTU ?gTW ?xTW ?eTW ?gTV ?xTV ?eTV ?gTN ?xTN ?eTN ?gCP ?xCP ?gCW ?xCW ?sTUDT ?sTWDT ?sTVDT ?sTNDT ?sTUTW ?sTUTV ?sTUTN ?sTUCP ?sTUCW ?sTWTU ?sTWTV ?sTWTN ?sTWCP ?sTWCW ?sTVTU ?sTVTW ?sTVTN ?sTVCP ?sTVCW ?sTNTU ?sTNTW ?sTNTV ?sTNCP ?sTNCW ?gC ?faCinit ?fiCinit ?liCinit ?ciCinit ?kkCinit ?faCput ?fiCput ?liCput ?ciCput ?kkCput ?faCleast_sum ?fiCleast_sum ?liCleast_sum ?ciCleast_sum ?kkCleast_sum ?faCbound ?fiCbound ?liCbound ?ciCbound ?kkCbound ?faCbound_row ?fiCbound_row ?liCbound_row ?ciCbound_row ?kkCbound_row ?faCbounds ?fiCbounds ?liCbounds ?ciCbounds ?kkCbounds ?faCways ?fiCways ?liCways ?ciCways ?kkCways ?pgC ?hdC ?poC ?saC ?mkC ?kcC ?naCprices ?naCthings ?naCsums ?naCheads ?naCtails ?gM ?faMinit ?fiMinit ?liMinit ?ciMinit ?kkMinit ?faMnow ?fiMnow ?liMnow ?ciMnow ?kkMnow ?faMshare ?fiMshare ?liMshare ?ciMshare ?kkMshare ?faMcheapest_at ?fiMcheapest_at ?liMcheapest_at ?ciMcheapest_at ?kkMcheapest_at ?pgM ?hdM ?poM ?saM ?mkM ?kcM ?naMprices ?naMweights ?naMletter ?gN ?faNinit ?fiNinit ?liNinit ?ciNinit ?kkNinit ?faNnow ?fiNnow ?liNnow ?ciNnow ?kkNnow ?faNshare ?fiNshare ?liNshare ?ciNshare ?kkNshare ?faNcheapest_at ?fiNcheapest_at ?liNcheapest_at ?ciNcheapest_at ?kkNcheapest_at ?pgN ?hdN ?poN ?saN ?mkN ?kcN ?naNprices ?naNweights ?naNthing ?hcd ?lhd
  (case a1=>k_is);(case l1=>k_is);(case c1=>k_is);(case k1=>k_is)
  (case a2=>k_is);(case l2=>k_is);(case c2=>k_is);(case k2=>k_is)
  (case a3=>k_is);(case l3=>k_is);(case c3=>k_is);(case k3=>k_is)
  (case a4=>k_is);(case l4=>k_is);(case c4=>k_is);(case k4=>k_is)
  (case a5=>k_is);(case l5=>k_is);(case c5=>k_is);(case k5=>k_is)
  (case a6=>k_is);(case l6=>k_is);(case c6=>k_is);(case k6=>k_is)
  (case a7=>k_is);(case l7=>k_is);(case c7=>k_is);(case k7=>k_is)
  (case a8=>k_is);(case l8=>k_is);(case c8=>k_is);(case k8=>k_is)
  (case a9=>k_is);(case l9=>k_is);(case c9=>k_is);(case k9=>k_is)
  (case a10=>k_is);(case l10=>k_is);(case c10=>k_is);(case k10=>k_is)
  (case a11=>k_is);(case l11=>k_is);(case c11=>k_is);(case k11=>k_is)
  (case a12=>k_is);(case l12=>k_is);(case c12=>k_is);(case k12=>k_is)
  (case a13=>k_is);(case l13=>k_is);(case c13=>k_is);(case k13=>k_is)
  (case a14=>k_is);(case l14=>k_is);(case c14=>k_is);(case k14=>k_is)
  (case a15=>k_is);(case l15=>k_is);(case c15=>k_is);(case k15=>k_is)
  (case a16=>k_is);(case l16=>k_is);(case c16=>k_is);(case k16=>k_is)
  (case a17=>k_is);(case l17=>k_is);(case c17=>k_is);(case k17=>k_is)
  (case a18=>k_is);(case l18=>k_is);(case c18=>k_is);(case k18=>k_is)
  (case a19=>k_is);(case l19=>k_is);(case c19=>k_is);(case k19=>k_is)
  (case a20=>k_is);(case l20=>k_is);(case c20=>k_is);(case k20=>k_is)
  (case a21=>k_is);(case l21=>k_is);(case c21=>k_is);(case k21=>k_is)
  (case a22=>k_is);(case l22=>k_is);(case c22=>k_is);(case k22=>k_is)
  (case a23=>k_is);(case l23=>k_is);(case c23=>k_is);(case k23=>k_is)
  (case a24=>k_is);(case l24=>k_is);(case c24=>k_is);(case k24=>k_is)
  (case a25=>k_is);(case l25=>k_is);(case c25=>k_is);(case k25=>k_is)
  (case a26=>k_is);(case l26=>k_is);(case c26=>k_is);(case k26=>k_is)
  (case a27=>k_is);(case l27=>k_is);(case c27=>k_is);(case k27=>k_is)
  (case a28=>k_is);(case l28=>k_is);(case c28=>k_is);(case k28=>k_is)
  (case a29=>k_is);(case l29=>k_is);(case c29=>k_is);(case k29=>k_is)
  (case a30=>k_is);(case l30=>k_is);(case c30=>k_is);(case k30=>k_is)
  (case a31=>k_is);(case l31=>k_is);(case c31=>k_is);(case k31=>k_is)
  (case a32=>k_is);(case l32=>k_is);(case c32=>k_is);(case k32=>k_is)
  (case a33=>k_is);(case l33=>k_is);(case c33=>k_is);(case k33=>k_is)
  (case a34=>k_is);(case l34=>k_is);(case c34=>k_is);(case k34=>k_is)
  (case a35=>k_is);(case l35=>k_is);(case c35=>k_is);(case k35=>k_is)
  (case a36=>k_is);(case l36=>k_is);(case c36=>k_is);(case k36=>k_is)
  (case a37=>k_is);(case l37=>k_is);(case c37=>k_is);(case k37=>k_is)
  (case a38=>k_is);(case l38=>k_is);(case c38=>k_is);(case k38=>k_is)
  (case a39=>k_is);(case l39=>k_is);(case c39=>k_is);(case k39=>k_is)
  (case a40=>k_is);(case l40=>k_is);(case c40=>k_is);(case k40=>k_is)
  (case a41=>k_is);(case l41=>k_is);(case c41=>k_is);(case k41=>k_is)
  (case a42=>k_is);(case l42=>k_is);(case c42=>k_is);(case k42=>k_is)
  (case a43=>k_is);(case l43=>k_is);(case c43=>k_is);(case k43=>k_is)
  (case a44=>k_is);(case l44=>k_is);(case c44=>k_is);(case k44=>k_is)
  (case a45=>k_is);(case l45=>k_is);(case c45=>k_is);(case k45=>k_is)
  (case a46=>k_is);(case l46=>k_is);(case c46=>k_is);(case k46=>k_is)
  (case a47=>k_is);(case l47=>k_is);(case c47=>k_is);(case k47=>k_is)
  (case a48=>k_is);(case l48=>k_is);(case c48=>k_is);(case k48=>k_is)
  (case z1=>k_is)
  (case z2=>k_is)
  (case z3=>k_is)
  (case z4=>k_is)
  (case z5=>k_is)
  (case z6=>k_is)
  (case z7=>k_is)
  (case z8=>k_is)
  (case z9=>k_is)
  (case z10=>k_is)
  (case z11=>k_is)
  (case z12=>k_is)
  (case z13=>k_is)
  (case gDT=>k_is)
  (case xDT=>kernel_rfl)
  (case gTU=>k_is)
  (case xTU=>kernel_rfl)
  (case eTU=>kernel_rfl)
  (case gTW=>k_is)
  (case xTW=>kernel_rfl)
  (case eTW=>kernel_rfl)
  (case gTV=>k_is)
  (case xTV=>kernel_rfl)
  (case eTV=>kernel_rfl)
  (case gTN=>k_is)
  (case xTN=>kernel_rfl)
  (case eTN=>kernel_rfl)
  (case gCP=>k_is)
  (case xCP=>kernel_rfl)
  (case gCW=>k_is)
  (case xCW=>kernel_rfl)
  (case sTUDT=>k_is)
  (case sTWDT=>k_is)
  (case sTVDT=>k_is)
  (case sTNDT=>k_is)
  (case sTUTW=>k_is)
  (case sTUTV=>k_is)
  (case sTUTN=>k_is)
  (case sTUCP=>k_is)
  (case sTUCW=>k_is)
  (case sTWTU=>k_is)
  (case sTWTV=>k_is)
  (case sTWTN=>k_is)
  (case sTWCP=>k_is)
  (case sTWCW=>k_is)
  (case sTVTU=>k_is)
  (case sTVTW=>k_is)
  (case sTVTN=>k_is)
  (case sTVCP=>k_is)
  (case sTVCW=>k_is)
  (case sTNTU=>k_is)
  (case sTNTW=>k_is)
  (case sTNTV=>k_is)
  (case sTNCP=>k_is)
  (case sTNCW=>k_is)
  (case gC=>k_is)
  (case faCinit=>k_is)
  (case fiCinit=>k_is)
  (case liCinit=>k_is)
  (case ciCinit=>k_is)
  (case kkCinit=>k_is)
  (case faCput=>k_is)
  (case fiCput=>k_is)
  (case liCput=>k_is)
  (case ciCput=>k_is)
  (case kkCput=>k_is)
  (case faCleast_sum=>k_is)
  (case fiCleast_sum=>k_is)
  (case liCleast_sum=>k_is)
  (case ciCleast_sum=>k_is)
  (case kkCleast_sum=>k_is)
  (case faCbound=>k_is)
  (case fiCbound=>k_is)
  (case liCbound=>k_is)
  (case ciCbound=>k_is)
  (case kkCbound=>k_is)
  (case faCbound_row=>k_is)
  (case fiCbound_row=>k_is)
  (case liCbound_row=>k_is)
  (case ciCbound_row=>k_is)
  (case kkCbound_row=>k_is)
  (case faCbounds=>k_is)
  (case fiCbounds=>k_is)
  (case liCbounds=>k_is)
  (case ciCbounds=>k_is)
  (case kkCbounds=>k_is)
  (case faCways=>k_is)
  (case fiCways=>k_is)
  (case liCways=>k_is)
  (case ciCways=>k_is)
  (case kkCways=>k_is)
  (case pgC=>k_is)
  (case hdC=>k_is)
  (case poC=>k_is)
  (case saC=>k_is)
  (case mkC=>k_is)
  (case kcC=>k_is)
  (case naCprices=>k_is)
  (case naCthings=>k_is)
  (case naCsums=>k_is)
  (case naCheads=>k_is)
  (case naCtails=>k_is)
  (case gM=>k_is)
  (case faMinit=>k_is)
  (case fiMinit=>k_is)
  (case liMinit=>k_is)
  (case ciMinit=>k_is)
  (case kkMinit=>k_is)
  (case faMnow=>k_is)
  (case fiMnow=>k_is)
  (case liMnow=>k_is)
  (case ciMnow=>k_is)
  (case kkMnow=>k_is)
  (case faMshare=>k_is)
  (case fiMshare=>k_is)
  (case liMshare=>k_is)
  (case ciMshare=>k_is)
  (case kkMshare=>k_is)
  (case faMcheapest_at=>k_is)
  (case fiMcheapest_at=>k_is)
  (case liMcheapest_at=>k_is)
  (case ciMcheapest_at=>k_is)
  (case kkMcheapest_at=>k_is)
  (case pgM=>k_is)
  (case hdM=>k_is)
  (case poM=>k_is)
  (case saM=>k_is)
  (case mkM=>k_is)
  (case kcM=>k_is)
  (case naMprices=>k_is)
  (case naMweights=>k_is)
  (case naMletter=>k_is)
  (case gN=>k_is)
  (case faNinit=>k_is)
  (case fiNinit=>k_is)
  (case liNinit=>k_is)
  (case ciNinit=>k_is)
  (case kkNinit=>k_is)
  (case faNnow=>k_is)
  (case fiNnow=>k_is)
  (case liNnow=>k_is)
  (case ciNnow=>k_is)
  (case kkNnow=>k_is)
  (case faNshare=>k_is)
  (case fiNshare=>k_is)
  (case liNshare=>k_is)
  (case ciNshare=>k_is)
  (case kkNshare=>k_is)
  (case faNcheapest_at=>k_is)
  (case fiNcheapest_at=>k_is)
  (case liNcheapest_at=>k_is)
  (case ciNcheapest_at=>k_is)
  (case kkNcheapest_at=>k_is)
  (case pgN=>k_is)
  (case hdN=>k_is)
  (case poN=>k_is)
  (case saN=>k_is)
  (case mkN=>k_is)
  (case kcN=>k_is)
  (case naNprices=>k_is)
  (case naNweights=>k_is)
  (case naNthing=>k_is)
  (case hcd=>rfl)
  (case lhd=>kernel_rfl)
