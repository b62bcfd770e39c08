import PyProof.Rows.All
import Wide.All
import OpenK.AllK
import Wide.FinOn
import Lean
import PyProof.EqAt
import PyProof.EqKinds
import PyProof.TupleCall
import PyProof.NeKinds
import PyProof.ConsumeWalk
import PyProof.SumAny
import PyProof.Rows.SumGenD
import PyProof.ExcInit
import PyProof.InstStoreFacts
import PyProof.ZipIter
import PyProof.DictWalks
import KE.KSortTup
import KE.KDictList
import PyProof.EnumMake
import KE.IntBitsLaws
import KE.KRevIter
import PyProof.CollectIter
import PyProof.WalkInts
import PyProof.MinMaxWalk
import PyProof.TupleOfSeq
import PyProof.Rows.SortShell
import PyProof.Rows.Range3
import PyProof.Rows.SetFrom
import PyProof.Rows.SortLt
import PyProof.Rows.SortRuns
import PySem.Challenge.RW_lettertoll_k18_whole_spellings_and_costs
set_option Elab.async false
set_option linter.all false
set_option maxRecDepth 100000
set_option maxHeartbeats 16000000
namespace L2
open PySem PySem.Spec PyProof.Rows
abbrev Key:=Sum Int Str
def a6W:Key→Value→Bool
 | .inl k,v=>Value.isInt k v
 | .inr x,v=>Value.isStrOf x v
def keyH (w:World):Key→Int
 | .inl k=>hashInt k
 | .inr x=>hashStr w x
theorem a0H:∀ {k:Key} {v:Value},a6W k v=true→(∃ i t,k=Sum.inl i∧v=Value.int i t)∨(∃ x t,k=Sum.inr x∧v=Value.str x t)
 | .inl i,v,h=>by
  obtain ⟨t,e⟩:=Value.isInt_shape (k:=i) (v:=v) h
  exact .inl ⟨i,t,rfl,e⟩
 | .inr x,v,h=>by
  obtain ⟨t,e⟩:=Value.isStrOf_shape (x:=x) (v:=v) h
  exact .inr ⟨x,t,rfl,e⟩
theorem a7X (i:Int) (t:Tok):a6W (.inl i) (.int i t)=true:=by simp [a6W,Value.isInt]
theorem a7Y (x:Str) (t:Tok):a6W (.inr x) (.str x t)=true:=by simp [a6W,Value.isStrOf]
theorem key_ll (a b:Int):decide ((Sum.inl a:Key)=Sum.inl b)=(a == b):=by
 by_cases e:a=b
 ·subst e;simp
 ·have h:¬ (Sum.inl a:Key)=Sum.inl b:=fun q=>e (Sum.inl.inj q)
  rw [decide_eq_false h]
  exact (beq_eq_false_iff_ne.mpr e).symm
theorem key_rr (a b:Str):decide ((Sum.inr a:Key)=Sum.inr b)=decide (a=b):=by
 by_cases e:a=b
 ·subst e;simp
 ·have h:¬ (Sum.inr a:Key)=Sum.inr b:=fun q=>e (Sum.inr.inj q)
  rw [decide_eq_false h,decide_eq_false e]
theorem key_lr (a:Int) (b:Str):decide ((Sum.inl a:Key)=Sum.inr b)=false:=decide_eq_false (fun q=>nomatch q)
theorem key_rl (a:Str) (b:Int):decide ((Sum.inr a:Key)=Sum.inl b)=false:=decide_eq_false (fun q=>nomatch q)
def a0Z (prog:Program) (w:World):PySem.KeyKind prog w Key where
 is:=a6W
 hash:=keyH w
 inj:=fun v a b ha hb=>by
  rcases a0H ha with ⟨i,t,rfl,rfl⟩ | ⟨x,t,rfl,rfl⟩
  ·rcases a0H hb with ⟨j,u,rfl,e⟩ | ⟨y,u,rfl,e⟩
   ·injection e with e1 _;rw [e1]
   ·exact nomatch e
  ·rcases a0H hb with ⟨j,u,rfl,e⟩ | ⟨y,u,rfl,e⟩
   ·exact nomatch e
   ·injection e with e1 _;rw [e1]
 byValue:=fun k v h=>by
  rcases a0H h with ⟨i,t,rfl,rfl⟩ | ⟨x,t,rfl,rfl⟩ <;> rfl
 pyHash:=fun hv h=>by
  rcases a0H hv with ⟨i,t,rfl,rfl⟩ | ⟨x,t,rfl,rfl⟩
  ·exact wpAny_pyHash_int h
  ·exact wpAny_pyHash_str h
 eqBool:=fun hu hv h=>by
  rcases a0H hu with ⟨i,t,rfl,rfl⟩ | ⟨x,t,rfl,rfl⟩
  ·rcases a0H hv with ⟨j,u,rfl,rfl⟩ | ⟨y,u,rfl,rfl⟩
   ·rw [key_ll] at h;exact wpAny_eqBool_int h
   ·rw [key_lr] at h;exact SeqAt.EqAt.int_str i t y u _ _ _ _ h
  ·rcases a0H hv with ⟨j,u,rfl,rfl⟩ | ⟨y,u,rfl,rfl⟩
   ·rw [key_rl] at h;exact SeqAt.EqAt.str_int x t j u _ _ _ _ h
   ·rw [key_rr] at h;exact wpAny_eqBool_str h
 «strs»:=fun k x t v h=>by
  rcases a0H h with ⟨i,u,rfl,e⟩ | ⟨y,u,rfl,e⟩
  ·exact nomatch e
  ·injection e with e1 _
   subst e1
   cases v <;> rfl
theorem a5l (prog:Program) (w:World) (i:Int) (t:Tok):(a0Z prog w).is (.inl i) (.int i t)=true:=a7X i t
theorem a5m (prog:Program) (w:World) (x:Str) (t:Tok):(a0Z prog w).is (.inr x) (.str x t)=true:=a7Y x t
inductive V where
 | non | bl (b:Bool) | int (i:Int) | str (x:Str) | byt (b:Array UInt8) | flt (b:UInt64) | ref (a:Addr) | ty (n:String)
 deriving DecidableEq
def a0O:V→Value→Prop
 | .non,u=>u=Value.none
 | .bl b,u=>u=Value.bool b
 | .int i,u=>∃ t,u=Value.int i t
 | .str x,u=>∃ t,u=Value.str x t
 | .byt b,u=>∃ t,u=Value.bytes b t
 | .flt b,u=>∃ t,u=Value.float b t
 | .ref a,u=>u=Value.ref a
 | .ty n,u=>u=Value.type n
abbrev a0D:List V→List Value→Prop:=Paired a0O
theorem a0D.length {xs:List V} {us:List Value} (r:a0D xs us):xs.length=us.length:=Paired.length r
theorem a0D.get:∀ {xs:List V} {us:List Value} {i:Nat} {x:V},a0D xs us→xs[i]?=some x→∃ u,us[i]?=some u∧a0O x u
 | _,_,_,_,.nil,e=>by simp at e
 | _,_,0,_,.cons r _,e=>by simp at e;subst e;exact ⟨_,rfl,r⟩
 | _,_,i+1,x,.cons _ t,e=>by
  obtain ⟨u,h1,h2⟩:=a0D.get (i:=i) (x:=x) t (by simpa using e)
  exact ⟨u,by simpa using h1,h2⟩
theorem a0D.set {x:V} {u:Value} (r:a0O x u):∀ {xs:List V} {us:List Value} (i:Nat),a0D xs us→a0D (xs.set i x) (us.set i u)
 | _,_,_,.nil=>.nil
 | _,_,0,.cons _ t=>.cons r t
 | _,_,i+1,.cons q t=>.cons q (a0D.set r i t)
theorem a0D.append:∀ {xs ys:List V} {us ws:List Value},a0D xs us→a0D ys ws→a0D (xs++ys) (us++ws)
 | _,_,_,_,.nil,s=>s
 | _,_,_,_,.cons r t,s=>.cons r (a0D.append t s)
theorem a0D.take:∀ {xs:List V} {us:List Value} (n:Nat),a0D xs us→a0D (xs.take n) (us.take n)
 | _,_,0,_=>.nil
 | _,_,_+1,.nil=>.nil
 | _,_,n+1,.cons r t=>.cons r (a0D.take n t)
theorem a0D.drop:∀ {xs:List V} {us:List Value} (n:Nat),a0D xs us→a0D (xs.drop n) (us.drop n)
 | _,_,0,r=>r
 | _,_,_+1,.nil=>.nil
 | _,_,n+1,.cons _ t=>a0D.drop n t
def a5j:Option V→Option Value→Prop
 | some v,some u=>a0O v u
 | none,none=>True
 | _,_=>False
def KV {κ:Type}:List (κ × V)→List (κ × Value)→Prop:=Paired fun (p:κ × V) (q:κ × Value)=>p.1=q.1∧a0O p.2 q.2
def kV:Key→V
 | .inl i=>.int i
 | .inr x=>.str x
inductive HO where
 | lst (xs:List V)
 | tup (xs:List V)
 | dK (kvs:List (Key × V)) | dT (kvs:List (List Key × V))
 | set (S:Int→Bool) (n:Nat)
 | ins (C dx:Addr) (fs:List (Str × V))
 | own (x:Addr)
 | xd (fs:List (Str × V))
 | met (f x:Addr)
 | rng (lo hi:Int)
 | frz (o:Obj) (u:HO)
 | tbl (ps:Array Value)
 | ext (φ:Heap→Prop)
abbrev Hp:=Addr→Option HO
def upd (H:Hp) (a:Addr) (o:HO):Hp:=fun b=>if b=a then some o else H b
theorem a0b {H:Hp} {a:Addr} {o:HO}:upd H a o a=some o:=by unfold upd;rw [if_pos rfl]
theorem a0l {H:Hp} {a b:Addr} {o:HO} (h:b≠a):upd H a o b=H b:=by unfold upd;rw [if_neg h]
theorem a4s {H:Hp} {a b:Addr} {o u:HO} (h:H a=some o) (h':H b=some u) (d:o≠u):a≠b:=by
 intro e;subst e;rw [h] at h';exact d (Option.some.inj h')
theorem a0r {H:Hp} {a b:Addr} {o:HO} (h:H a=some o) (h':H b=none):a≠b:=by
 intro e;subst e;rw [h] at h';cases h'
def a4o (h:Heap) (a:Addr) (items:Array Value):Prop:=∃ o,h.get? a=some o∧∃ n,o={ cls:=.type "tuple",data:=.seq items n }
theorem a4o.is {h:Heap} {a:Addr} {items:Array Value} (x:a4o h a items):IsTup h a items:=by
 obtain ⟨o,e,n,rfl⟩:=x
 exact ⟨_,e,rfl,n,rfl⟩
instance {h:Heap} {a:Addr} {items:Array Value}:Coe (a4o h a items) (IsTup h a items):=⟨a4o.is⟩
instance {h:Heap} {a:Addr} {items:Array Value}:Coe (a4o h a items) (Heap.IsTuple h a items):=⟨fun x=>x.is⟩
theorem a4o.lt {h:Heap} {a:Addr} {items:Array Value} (x:a4o h a items):a < h.objs.size:=x.is.lt
theorem a4o.new (h:Heap) (items:Array Value):a4o (h.push { cls:=.type "tuple",data:=.seq items }) h.objs.size items:=⟨_,Heap.get?_push_size _ rfl,_,rfl⟩
section
variable (P:Program) (w:World)
def a0F (H:Hp) (h:Heap) (a:Addr):HO→Prop
 | .lst xs=>xs.length≤sizeLine∧∃ (its:List Value) (n:Nat),a0D xs its∧h.get? a=some { cls:=.type "list",data:=.seq its.toArray n }
 | .tup xs=>xs.length≤sizeLine∧∃ its:List Value,a0D xs its∧a4o h a its.toArray
 | .dK kvs=>kvs.length≤sizeLine∧(a == sysModules)=false∧∃ vs,KV kvs vs∧h.DictOf (a0Z P w) a vs
 | .dT kvs=>kvs.length≤sizeLine∧(a == sysModules)=false∧∃ xs:List (List Key × Addr × Value),
   Paired (fun (p:List Key × V) (q:List Key × Addr × Value)=>p.1=q.1∧H q.2.1=some (.tup (p.1.map kV))∧a0O p.2 q.2.2) kvs xs ∧
   ∃ o es ep,h.get? a=some o∧o.ExactDict∧o.data=.dict es ep∧es.toList=xs.map (entryOfKey (tupleKind (a0Z P w)))∧(xs.map (·.1)).Nodup
 | .set S n=>h.SetOf (intKind P w) a S n
 | .ins C dx fs=>H dx=some (.own a)∧fs.length≤1000∧dx≠a∧h.get? a=some (PySem.W.instObj C dx) ∧
   ∃ mA,h.Ns1 dx mA∧(∀ f,a5j (fs.lookup f) (mA f))∧PySem.Within mA (fs.map (·.1))
 | .own _=>∃ o,h.get? a=some o
 | .xd fs=>∃ mA,h.Ns1 a mA∧∀ f,a5j (fs.lookup f) (mA f)
 | .rng lo hi=>∃ t u v,h.get? a=some { cls:=.type "range",data:=.fields #[.int lo t,.int hi u,.int 1 v] }
 | .frz o u=>h.get? a=some o∧a0F H h a u
 | .tbl ps=>h.get? a=some { cls:=.none,data:=.fields ps }
 | .met f x=>h.get? a=some (PySem.W.methodObj (.ref f) (.ref x))
 | .ext φ=>φ h∧(∃ o,h.get? a=some o)∧∀ h1 h2:Heap,φ h1→(∀ o,h1.get? a=some o→h2.get? a=some o)→φ h2
def HOk (H:Hp) (h:Heap):Prop:=∀ a o,H a=some o→a0F P w H h a o
end
section
variable {P:Program} {w:World} {H H':Hp} {h h':Heap} {a:Addr} {o:HO}
theorem a0F.lt (x:a0F P w H h a o):a < h.objs.size:=by
 cases o with
 | lst xs=>obtain ⟨_,_,_,_,e⟩:=x;exact Heap.lt_size e
 | tup xs=>obtain ⟨_,_,_,p⟩:=x;exact p.lt
 | dK kvs=>obtain ⟨_,_,_,_,o,_,_,e,_⟩:=x;exact Heap.lt_size e
 | dT kvs=>obtain ⟨_,_,_,_,o,_,_,e,_⟩:=x;exact Heap.lt_size e
 | set S n=>obtain ⟨o,_,_,_,e,_⟩:=x;exact Heap.lt_size e
 | ins C dx fs=>obtain ⟨_,_,_,e,_⟩:=x;exact Heap.lt_size e
 | own y=>obtain ⟨_,e⟩:=x;exact Heap.lt_size e
 | xd fs=>obtain ⟨_,⟨_,_,_,e,_⟩,_⟩:=x;exact Heap.lt_size e
 | rng lo hi=>obtain ⟨_,_,_,e⟩:=x;exact Heap.lt_size e
 | frz ob u=>obtain ⟨e,_⟩:=x;exact Heap.lt_size e
 | tbl ps=>exact Heap.lt_size (show h.get? a=some _ from x)
 | met f y=>exact Heap.lt_size (show h.get? a=some _ from x)
 | ext φ=>obtain ⟨_,⟨_,e⟩,_⟩:=x;exact Heap.lt_size e
theorem Paired.mapP {α β:Type} {F G:α→β→Prop}:∀ {l₁:List α} {l₂:List β},Paired F l₁ l₂→(∀ a b,F a b→G a b)→Paired G l₁ l₂
 | _,_,.nil,_=>.nil
 | _,_,.cons r t,f=>.cons (f _ _ r) (Paired.mapP t f)
theorem a0F.stay (x:a0F P w H h a o) (k:∀ b u,(b=a∨H b=some (.own a))→h.get? b=some u→h'.get? b=some u)
  (ho:∀ b,H b=some (.own a)→H' b=some (.own a)) (ht:∀ b xs,H b=some (.tup xs)→H' b=some (.tup xs)):a0F P w H' h' a o:=by
 induction o with
 | lst xs=>obtain ⟨z,its,n,r,e⟩:=x;exact ⟨z,its,n,r,k _ _ (.inl rfl) e⟩
 | tup xs=>obtain ⟨z,its,r,ob,e,c⟩:=x;exact ⟨z,its,r,ob,k _ _ (.inl rfl) e,c⟩
 | dK kvs=>obtain ⟨z,y,vs,r,ob,es,ep,e,c⟩:=x;exact ⟨z,y,vs,r,ob,es,ep,k _ _ (.inl rfl) e,c⟩
 | dT kvs =>
  obtain ⟨z,y,xs,r,ob,es,ep,e,c⟩:=x
  exact ⟨z,y,xs,Paired.mapP r fun p q z=>⟨z.1,ht _ _ z.2.1,z.2.2⟩,ob,es,ep,k _ _ (.inl rfl) e,c⟩
 | set S n=>obtain ⟨ob,es,ep,t,e,c⟩:=x;exact ⟨ob,es,ep,t,k _ _ (.inl rfl) e,c⟩
 | ins C dx fs =>
  obtain ⟨d,z,ne,e,mA,⟨od,es,ep,e2,c⟩,r⟩:=x
  exact ⟨ho _ d,z,ne,k _ _ (.inl rfl) e,mA,⟨od,es,ep,k _ _ (.inr d) e2,c⟩,r⟩
 | own y=>obtain ⟨ob,e⟩:=x;exact ⟨ob,k _ _ (.inl rfl) e⟩
 | xd fs=>obtain ⟨mA,⟨od,es,ep,e,c⟩,r⟩:=x;exact ⟨mA,⟨od,es,ep,k _ _ (.inl rfl) e,c⟩,r⟩
 | rng lo hi=>obtain ⟨t,u,v,e⟩:=x;exact ⟨t,u,v,k _ _ (.inl rfl) e⟩
 | frz ob u ih=>obtain ⟨e,q⟩:=x;exact ⟨k _ _ (.inl rfl) e,ih q⟩
 | tbl ps =>
  have e:h.get? a=some { cls:=.none,data:=.fields ps }:=x
  show h'.get? a=some { cls:=.none,data:=.fields ps }
  exact k a _ (.inl rfl) e
 | met f y =>
  have e:h.get? a=some (PySem.W.methodObj (.ref f) (.ref y)):=x
  show h'.get? a=some (PySem.W.methodObj (.ref f) (.ref y))
  exact k a _ (.inl rfl) e
 | ext φ=>obtain ⟨p,⟨o,e⟩,st⟩:=x;exact ⟨st _ _ p fun o q=>k _ _ (.inl rfl) q,⟨o,k _ _ (.inl rfl) e⟩,st⟩
theorem HOk.lt (x:HOk P w H h) (e:H a=some o):a < h.objs.size:=(x a o e).lt
theorem HOk.fresh (x:HOk P w H h) (e:h.objs.size≤a):H a=none:=by
 cases q:H a with
 | none=>rfl
 | some u=>exact absurd (Nat.lt_of_lt_of_le (x.lt q) e) (Nat.lt_irrefl _)
theorem HOk.kept (x:HOk P w H h) (k:∀ b u,h.get? b=some u→h'.get? b=some u):HOk P w H h':=fun a o e =>
 (x a o e).stay (fun b u _ q=>k b u q) (fun _ q=>q) fun _ _ q=>q
theorem HOk.laid (x:HOk P w H h) (k:∀ b u,h.get? b=some u→h'.get? b=some u) (hp:h.objs.size≤a) (new:a0F P w (upd H a o) h' a o):HOk P w (upd H a o) h':=fun b u e=>by
 have hn:=x.fresh hp
 by_cases hb:b=a
 ·subst hb;rw [a0b] at e;cases e;exact new
 ·rw [a0l hb] at e
  exact (x b u e).stay (fun c v _ q=>k c v q) (fun c q=>by rw [a0l (a0r q hn)];exact q) fun c xs q=>by rw [a0l (a0r q hn)];exact q
end
def Rd (H:Hp) (a:Addr) (u:HO):Prop:=H a=some u∨∃ o,H a=some (.frz o u)
theorem Rd.ok {P:Program} {w:World} {H:Hp} {h:Heap} {a:Addr} {u:HO} (r:Rd H a u) (x:HOk P w H h):a0F P w H h a u:=by
 rcases r with r | ⟨o,r⟩
 ·exact x a u r
 ·obtain ⟨_,q⟩:=x a _ r
  exact q
def Mut:Option HO→Prop
 | some (.lst _)=>True
 | some (.dK _)=>True
 | some (.dT _)=>True
 | some (.set _ _)=>True
 | some (.ins _ _ _)=>True
 | some (.ext _)=>True
 | _=>False
section
variable {P:Program} {w:World} {H:Hp} {h h':Heap} {x e:Addr} {o':HO}
theorem HOk.write (ok:HOk P w H h) (mu:Mut (H x)) (he:e=x∨H e=some (.own x)) (k:∀ b u,b≠e→h.get? b=some u→h'.get? b=some u) (heo:∃ u,h'.get? e=some u)
  (new:a0F P w (upd H x o') h' x o'):HOk P w (upd H x o') h':=fun b u q=>by
 have nown:∀ c y,H c=some (.own y)→c≠x:=fun c y r z=>by subst z;rw [r] at mu;exact mu
 have ntup:∀ c xs,H c=some (.tup xs)→c≠x:=fun c xs r z=>by subst z;rw [r] at mu;exact mu
 by_cases hb:b=x
 ·subst hb;rw [a0b] at q;cases q;exact new
 ·rw [a0l hb] at q
  by_cases hbe:b=e
  ·have q':H b=some (.own x):=by
    rcases he with z | z
    ·exact absurd (hbe.trans z) hb
    ·rw [hbe];exact z
   rw [q] at q';cases q'
   obtain ⟨v,hv⟩:=heo
   exact ⟨v,by rw [hbe];exact hv⟩
  ·refine (ok b u q).stay (fun c v hc r=>k c v ?_ r) (fun c r=>by rw [a0l (nown c b r)];exact r) fun c xs r=>by rw [a0l (ntup c xs r)];exact r
   rcases hc with rfl | hc
   ·exact hbe
   ·rintro rfl
    rcases he with z | z
    ·exact nown c b hc z
    ·rw [hc] at z;cases z;exact hb rfl
end
structure Un (fs ex:List Addr) (H H':Hp) (h h':Heap):Prop where
 keep:∀ b o,h.get? b=some o→H b=none→b∉fs→b∉ex→h'.get? b=some o
 slot:∀ b o,h.get? b=some o→H b=none→b∈fs→b∉ex→∃ sl,h'.get? b=some { o with slots:=sl }
 free:∀ b o,h.get? b=some o→H b=none→b∉ex→H' b=none
 there:∀ b o,h.get? b=some o→b∉ex→∃ o',h'.get? b=some o'
 tups:∀ b xs,H b=some (.tup xs)→H' b=some (.tup xs)
 frzs:∀ b o u,H b=some (.frz o u)→H' b=some (.frz o u)
 tbls:∀ b ps,H b=some (.tbl ps)→∃ more,H' b=some (.tbl (ps++more))
section
variable {fs fs' ex ex':List Addr} {H H1 H2:Hp} {h h1 h2 h':Heap} {a x e:Addr} {o:HO}
theorem Un.any (u:Un fs ex H H1 h h1) {b:Addr} {ob:Obj} (q:h.get? b=some ob) (n:H b=none) (hx:b∉ex):∃ sl,h1.get? b=some { ob with slots:=sl }:=by
 by_cases hb:b∈fs
 ·exact u.slot b ob q n hb hx
 ·exact ⟨ob.slots,u.keep b ob q n hb hx⟩
theorem Un.kept (k:∀ b u,h.get? b=some u→h'.get? b=some u):Un fs ex H H h h' :=
 ⟨fun b ob q _ _ _=>k b ob q,fun b ob q _ _ _=>⟨ob.slots,k b ob q⟩,fun _ _ _ n _=>n,fun b ob q _=>⟨ob,k b ob q⟩,fun _ _ q=>q,fun _ _ _ q=>q,fun _ ps q=>⟨#[],by rw [q];simp⟩⟩
theorem Un.refl:Un fs ex H H h h:=Un.kept fun _ _ q=>q
theorem Un.laid (k:∀ b u,h.get? b=some u→h'.get? b=some u) (hp:h.objs.size≤a) (hn:H a=none):Un fs ex H (upd H a o) h h' where
 keep:=fun b u q _ _ _=>k b u q
 slot:=fun b u q _ _ _=>⟨u.slots,k b u q⟩
 free:=fun b u q n _=>by rw [a0l (Nat.ne_of_lt (Nat.lt_of_lt_of_le (Heap.lt_size q) hp))];exact n
 there:=fun b u q _=>⟨u,k b u q⟩
 tups:=fun b xs q=>by rw [a0l (a0r q hn)];exact q
 frzs:=fun b u xs q=>by rw [a0l (a0r q hn)];exact q
 tbls:=fun b ps q=>⟨#[],by rw [a0l (a0r q hn),q];simp⟩
theorem Un.write (mu:Mut (H x)) (he:e=x∨H e=some (.own x)) (k:∀ b u,b≠e→h.get? b=some u→h'.get? b=some u) (heo:∃ u,h'.get? e=some u):Un fs ex H (upd H x o) h h':=by
 have hx:∀ b,H b=none→b≠x:=fun b n z=>by subst z;rw [n] at mu;exact mu
 have hb:∀ b,H b=none→b≠e:=fun b n z=>by
  subst z
  rcases he with r | r
  ·exact hx b n r
  ·rw [n] at r;cases r
 have hm:∀ b u,H b=some u→¬ Mut (some u)→b≠x:=fun b u q nm z=>by subst z;rw [q] at mu;exact nm mu
 refine ⟨fun b u q n _ _=>k b u (hb b n) q,fun b u q n _ _=>⟨u.slots,k b u (hb b n) q⟩,fun b u q n _=>by rw [a0l (hx b n)];exact n,fun b u q _=>?_,
  fun b xs q=>by rw [a0l (hm b _ q fun z=>z)];exact q,fun b u xs q=>by rw [a0l (hm b _ q fun z=>z)];exact q,fun b ps q=>⟨#[],by rw [a0l (hm b _ q fun z=>z),q];simp⟩⟩
 by_cases hbe:b=e
 ·subst hbe;exact heo
 ·exact ⟨u,k b u hbe q⟩
end
def trk (h:Heap) (H:Hp):List Addr:=(List.range h.objs.size).filter fun a=>(H a).isSome
def a9Z (h:Heap) (H:Hp):Heap:=PySem.W.hideAll h (trk h H)
theorem a7Z (h:Heap) (H:Hp):(a9Z h H).objs.size=h.objs.size:=PySem.W.hideAll_size _ _
theorem b0a {h:Heap} {H:Hp} {b:Addr} {o:Obj} (e:h.get? b=some o) (n:H b=none):(a9Z h H).get? b=some o :=
 PySem.W.hideAll_get _ e fun hm=>by
  have q:(H b).isSome=true:=(List.mem_filter.mp hm).2
  rw [n] at q;simp at q
theorem b1W {h:Heap} {H:Hp} {b:Addr} {o:Obj} (e:(a9Z h H).get? b=some o):h.get? b=some o∧H b=none:=by
 have e':h.get? b=some o:=PySem.W.of_hideAll (trk h H) e
 refine ⟨e',?_⟩
 cases q:H b with
 | none=>rfl
 | some x =>
  have hm:b∈trk h H:=List.mem_filter.mpr ⟨List.mem_range.mpr (Heap.lt_size e'),by simp [q]⟩
  have z:(a9Z h H).get? b=none:=PySem.W.hideAll_none (trk h H) hm
  rw [z] at e;cases e
def b1X (g h:Heap) (L:Addr):List (Addr × Obj):=(List.range h.objs.size).filterMap fun a=>if a=L∨(g.get? a).isSome=true then none else (h.get? a).map fun o=>(a,o)
def rest (g h:Heap) (L d:Addr):List (Addr × Obj):=(b1X g h L).filter fun p=>decide (p.1≠d)
structure Mod (K:PySem.W.Frag) (mg:Str→Option Value) (base:Heap):Prop where
 kin:K.In base
 glob:base.Ns mainGlobals mg
 blt:∃ mb,base.Ns builtinsNs mb∧∀ x:Str,x≠"__name__"→mb x=bootBuiltins x
 nolimit:base.NoLimit
structure Cx where
 prog:Program
 w:World
 K:PySem.W.Frag
 mg:Str→Option Value
 base:Heap
 A:Around
 N:List Str
 s₀:Shared
 H₀:Hp
 env:Env
 outer:List Env
 stack:List Env
 ex:List Addr
 fn:Str→Bool
 calm:Bool
 pn:List (Addr × Obj)
 xe:Value→Shared→Prop
def frs (l:List Env):List Addr:=l.filterMap (·.frame)
abbrev Cx.fs (X:Cx):List Addr:=frs X.outer
def Vis (sc:Scope) (x:Str):Prop:=sc.names.lookup x=some .local∨sc.names.lookup x=some .cell∨sc.names.lookup x=some .free
def Loc (sc:Scope) (x:Str):Prop:=sc.names.lookup x=some .local∨sc.names.lookup x=some .cell
def Look (env:Env) (h:Heap) (m:Str→Option Value) (x:Str) (u:Value):Prop :=
 (env.kindOf x=some .local∧m x=some u)∨((env.kindOf x=some .cell∨env.kindOf x=some .free)∧∃ c,env.cells.lookup x=some c∧h.IsCell c (some u))
structure Cx.Ok (X:Cx):Prop where
 mod:Mod X.K X.mg X.base
 kind:X.env.scope.kind=.function
 glob:X.env.globals=mainGlobals
 blt:X.env.builtins=builtinsNs
 above:X.s₀.heap.objs.size≤X.env.locals
 inj:∀ x y c,X.env.cells.lookup x=some c→X.env.cells.lookup y=some c→x=y
 has:∀ x,(X.env.kindOf x=some .cell∨X.env.kindOf x=some .free)→∃ c,X.env.cells.lookup x=some c
 cab:∀ x c,X.fn x=true→X.env.cells.lookup x=some c→X.s₀.heap.objs.size≤c
 hd:X.calm=true→X.A.handled=none
 frames:X.A.frames=some X.stack
 stk:X.stack=X.outer∨(X.stack=X.env :: X.outer∧X.env.frame=some X.env.locals)
 exf:∀ b∈X.ex,b≠X.env.locals∧∀ x c,X.env.cells.lookup x=some c→c≠b
 bs:∀ b o,X.base.get? b=some o→X.s₀.heap.get? b=some o∧X.H₀ b=none
 bsz:X.base.objs.size≤X.s₀.heap.objs.size
 noex:∀ b o,X.base.get? b=some o→b∉X.ex
 exfs:∀ b∈X.ex,b∉X.fs
 funs:X.s₀.heap.FunFrames X.base X.outer
 frf:∀ b∈X.fs,X.H₀ b=none
structure Inv (X:Cx) (pins:List (Addr × Obj)) (σ:List (Option V)) (H:Hp) (s:Shared):Prop where
 ok:X.Ok
 os:s.os=X.s₀.os
 bare:AllBare s.gens
 base:Un X.fs X.ex X.H₀ H X.s₀.heap s.heap
 loc:∃ m,s.heap.Ns X.env.locals m∧∀ (i:Nat) (x:Str) (v:V),X.N[i]?=some x→σ[i]?=some (some v)→Vis X.env.scope x→∃ u,a0O v u∧Look X.env s.heap m x u
 cell:∀ x c,X.env.cells.lookup x=some c→∃ v,s.heap.IsCell c v
 free:H X.env.locals=none
 freeC:∀ x c,X.env.cells.lookup x=some c→H c=none
 pin:∀ p∈X.pn++pins,s.heap.get? p.1=some p.2∧H p.1=none∧p.1≠X.env.locals∧p.1∉X.fs∧∀ v,p.2.data≠.cell v
 hok:HOk X.prog X.w H s.heap
 len:σ.length=X.N.length
section
variable {X:Cx} {pins:List (Addr × Obj)} {σ:List (Option V)} {H H':Hp} {s:Shared} {h':Heap}
theorem Cx.Ok.nofr (ok:X.Ok) {b:Addr} {o:Obj} (e:X.base.get? b=some o):b∉X.fs:=fun hb=>by
 have:=(ok.funs.mem hb).1
 rw [e] at this;cases this
theorem Inv.bs (I:Inv X pins σ H s):∀ b o,X.base.get? b=some o→s.heap.get? b=some o∧H b=none:=fun b o e =>
 ⟨I.base.keep b o (I.ok.bs b o e).1 (I.ok.bs b o e).2 (I.ok.nofr e) (I.ok.noex b o e),I.base.free b o (I.ok.bs b o e).1 (I.ok.bs b o e).2 (I.ok.noex b o e)⟩
theorem Inv.bk (I:Inv X pins σ H s):∀ b o,X.base.get? b=some o→s.heap.get? b=some o:=fun b o e=>(I.bs b o e).1
theorem Inv.mod (I:Inv X pins σ H s):Mod X.K X.mg X.base:=I.ok.mod
theorem Inv.kIn (I:Inv X pins σ H s):X.K.In s.heap:=I.ok.mod.kin.keeps I.bk
theorem Inv.lt (I:Inv X pins σ H s):X.env.locals < s.heap.objs.size:=let ⟨_,hn,_⟩:=I.loc;hn.lt
theorem Inv.sz (I:Inv X pins σ H s):X.s₀.heap.objs.size≤s.heap.objs.size:=Nat.le_trans I.ok.above (Nat.le_of_lt I.lt)
theorem Inv.nofs (I:Inv X pins σ H s) {a:Addr} (h:s.heap.objs.size≤a):a∉X.fs:=fun hb=>by
 obtain ⟨_,o,ho,_⟩:=I.ok.funs.mem hb
 exact absurd (Nat.lt_of_lt_of_le (Heap.lt_size ho) (Nat.le_trans I.sz h)) (Nat.lt_irrefl _)
theorem Inv.cne (I:Inv X pins σ H s):∀ x c,X.env.cells.lookup x=some c→c≠X.env.locals:=fun x c e z=>by
 obtain ⟨v,o,ho,hd⟩:=I.cell x c e
 obtain ⟨m,⟨o',es,ep,ho',hd',_⟩,_⟩:=I.loc
 rw [z,ho'] at ho;cases ho;rw [hd'] at hd;cases hd
theorem Inv.funs (I:Inv X pins σ H s):s.heap.FunFrames X.base X.outer:=by
 have all:∀ (l:List Env),(∀ b∈frs l,b∈X.fs)→X.s₀.heap.FunFrames X.base l→s.heap.FunFrames X.base l:=by
  intro l
  induction l with
  | nil=>intro _ _;trivial
  | cons env r ih =>
   intro hs hl
   obtain ⟨hk,⟨L,o,hf,hn,ho,hd⟩,hr⟩:=hl
   have hL:L∈X.fs:=hs L (by unfold frs;rw [List.filterMap_cons,hf];exact List.mem_cons_self)
   obtain ⟨sl,e⟩:=I.base.slot L o ho (I.ok.frf L hL) hL fun z=>I.ok.exfs L z hL
   exact ⟨hk,⟨L,_,hf,hn,e,hd⟩,ih (fun b hb=>hs b (by unfold frs;rw [List.filterMap_cons,hf];exact List.mem_cons_of_mem _ hb)) hr⟩
 exact all X.outer (fun _ hb=>hb) I.ok.funs
theorem Inv.stack (I:Inv X pins σ H s):s.heap.FunFrames X.base X.stack:=by
 rcases I.ok.stk with e | ⟨e,hf⟩
 ·rw [e];exact I.funs
 ·rw [e]
  obtain ⟨m,hn,_⟩:=I.loc
  refine .cons (by rw [I.ok.kind];decide) hf hn ?_ I.funs
  exact Heap.get?_none_of_le (Nat.le_trans I.ok.bsz I.ok.above)
theorem Inv.stkSub (I:Inv X pins σ H s):∀ b∈frs X.stack,b∈X.env.locals :: X.fs:=fun b hb=>by
 rcases I.ok.stk with e | ⟨e,hf⟩
 ·rw [e] at hb;exact List.mem_cons_of_mem _ hb
 ·rw [e] at hb
  unfold frs at hb
  rw [List.filterMap_cons,hf] at hb
  exact hb
theorem Inv.stkFree (I:Inv X pins σ H s):∀ b∈frs X.stack,H b=none:=fun b hb=>by
 rcases List.mem_cons.mp (I.stkSub b hb) with e | hb
 ·rw [e];exact I.free
 ·obtain ⟨_,o,ho,_⟩:=I.ok.funs.mem hb
  exact I.base.free b o ho (I.ok.frf b hb) fun z=>I.ok.exfs b z hb
theorem Inv.step {g':Array GenState} {t':Nat} {d':Drawn} {ch:List Addr} (I:Inv X pins σ H s)
  (hch:∀ b∈ch,(b∈X.ex∨X.s₀.heap.objs.size≤b)∧b≠X.env.locals∧(∀ x c,X.env.cells.lookup x=some c→c≠b)∧∀ p∈X.pn++pins,p.1≠b)
  (keep:∀ b o,b≠X.env.locals→b∉X.fs→b∉ch→s.heap.get? b=some o→H b=none→h'.get? b=some o)
  (slot:∀ b o,b≠X.env.locals→b∈X.fs→b∉ch→s.heap.get? b=some o→H b=none→∃ sl,h'.get? b=some { o with slots:=sl }) (free:∀ b o,b∉ch→s.heap.get? b=some o→H b=none→H' b=none)
  (there:∀ b o,b∉ch→s.heap.get? b=some o→∃ o',h'.get? b=some o')
  (tups:∀ b xs,H b=some (.tup xs)→H' b=some (.tup xs)) (frzs:∀ b o u,H b=some (.frz o u)→H' b=some (.frz o u)) (tbls:∀ b ps,H b=some (.tbl ps)→∃ more,H' b=some (.tbl (ps++more)))
  (ns:∀ m,s.heap.Ns X.env.locals m→h'.Ns X.env.locals m) (hok:HOk X.prog X.w H' h') (hg:AllBare g') :
  Inv X pins σ H' { s with heap:=h',gens:=g',drawn:=d',toks:=t' }:=by
 have neL:∀ b o,X.s₀.heap.get? b=some o→b≠X.env.locals:=fun b o e=>Nat.ne_of_lt (Nat.lt_of_lt_of_le (Heap.lt_size e) I.ok.above)
 have neC:∀ b o,X.s₀.heap.get? b=some o→b∉X.ex→b∉ch:=fun b o e hx hb=>by
  rcases (hch b hb).1 with z | z
  ·exact hx z
  ·exact absurd (Nat.lt_of_lt_of_le (Heap.lt_size e) z) (Nat.lt_irrefl _)
 have cellK:∀ x c,X.env.cells.lookup x=some c→∀ v,s.heap.IsCell c v→h'.IsCell c v:=fun x c e v ⟨o,ho,hd⟩=>by
  have nch:c∉ch:=fun z=>(hch c z).2.2.1 x c e rfl
  by_cases hc:c∈X.fs
  ·obtain ⟨sl,q⟩:=slot c o (I.cne x c e) hc nch ho (I.freeC x c e)
   exact ⟨_,q,hd⟩
  ·exact ⟨o,keep c o (I.cne x c e) hc nch ho (I.freeC x c e),hd⟩
 refine ⟨I.ok,I.os,hg,⟨fun b o e n hb hx=>?_,fun b o e n hb hx=>?_,fun b o e n hx=>?_,fun b o e hx=>?_,fun b xs e=>tups b xs (I.base.tups b xs e),fun b o xs e=>frzs b o xs (I.base.frzs b o xs e),fun b ps e=>?_⟩,?_,fun x c e=>?_,?_,fun x c e=>?_,fun p hp=>?_,hok,I.len⟩
 ·exact keep b o (neL b o e) hb (neC b o e hx) (I.base.keep b o e n hb hx) (I.base.free b o e n hx)
 ·obtain ⟨sl,e1⟩:=I.base.slot b o e n hb hx
  obtain ⟨sl',e2⟩:=slot b _ (neL b o e) hb (neC b o e hx) e1 (I.base.free b o e n hx)
  exact ⟨sl',e2⟩
 ·obtain ⟨o',e1⟩:=I.base.there b o e hx
  exact free b o' (neC b o e hx) e1 (I.base.free b o e n hx)
 ·obtain ⟨o',e1⟩:=I.base.there b o e hx
  exact there b o' (neC b o e hx) e1
 ·obtain ⟨m1,e1⟩:=I.base.tbls b ps e
  obtain ⟨m2,e2⟩:=tbls b _ e1
  exact ⟨m1++m2,by rw [e2,Array.append_assoc]⟩
 ·obtain ⟨m,hn,hl⟩:=I.loc
  refine ⟨m,ns m hn,fun i x v e1 e2 e3=>?_⟩
  obtain ⟨u,r,l⟩:=hl i x v e1 e2 e3
  refine ⟨u,r,?_⟩
  rcases l with l | ⟨k,c,e,z⟩
  ·exact .inl l
  ·exact .inr ⟨k,c,e,cellK x c e _ z⟩
 ·obtain ⟨v,z⟩:=I.cell x c e
  exact ⟨v,cellK x c e v z⟩
 ·obtain ⟨m,⟨o,_,_,ho,_⟩,_⟩:=I.loc
  exact free _ o (fun z=>(hch _ z).2.1 rfl) ho I.free
 ·obtain ⟨v,o,ho,hd⟩:=I.cell x c e
  exact free c o (fun z=>(hch c z).2.2.1 x c e rfl) ho (I.freeC x c e)
 ·obtain ⟨e,n,ne,nf,d⟩:=I.pin p hp
  have nch:p.1∉ch:=fun z=>(hch p.1 z).2.2.2 p hp rfl
  exact ⟨keep p.1 p.2 ne nf nch e n,free p.1 p.2 nch e n,ne,nf,d⟩
theorem Inv.un {t':Nat} (I:Inv X pins σ H s) (u:Un X.fs [] H H' s.heap h') (hok:HOk X.prog X.w H' h'):Inv X pins σ H' { s with heap:=h',toks:=t' }:=by
 obtain ⟨m,⟨o,es,ep,ho,r⟩,_⟩:=id I.loc
 obtain ⟨sl,hL⟩:=u.any ho I.free (by simp)
 exact I.step (g':=s.gens) (d':=s.drawn) (ch:=[]) (fun _ z=>nomatch z) (fun b o _ hb _ e n=>u.keep b o e n hb (by simp)) (fun b o _ hb _ e n=>u.slot b o e n hb (by simp)) (fun b o _ e n=>u.free b o e n (by simp)) (fun b o _ e=>u.there b o e (by simp)) u.tups u.frzs u.tbls (fun m' hm=>by
  obtain ⟨o',es',ep',ho',r'⟩:=hm
  rw [ho] at ho';cases ho'
  exact ⟨_,es',ep',hL,r'⟩) hok I.bare
theorem Inv.call {g':Array GenState} {t':Nat} {d':Drawn} {ch:List Addr} (I:Inv X pins σ H s) (u:Un (frs X.stack) ch H H' s.heap h') (hok:HOk X.prog X.w H' h') (hg:AllBare g')
  (hch:∀ b∈ch,(b∈X.ex∨X.s₀.heap.objs.size≤b)∧b≠X.env.locals∧(∀ x c,X.env.cells.lookup x=some c→c≠b)∧∀ p∈X.pn++pins,p.1≠b) :
  Inv X pins σ H' { s with heap:=h',gens:=g',drawn:=d',toks:=t' }:=by
 obtain ⟨m,⟨o,es,ep,ho,r⟩,_⟩:=id I.loc
 obtain ⟨sl,hL⟩:=u.any ho I.free fun z=>(hch _ z).2.1 rfl
 exact I.step (ch:=ch) hch (fun b o hL hb hc e n=>u.keep b o e n (fun z=>(List.mem_cons.mp (I.stkSub b z)).elim hL hb) hc) (fun b o _ _ hc e n=>u.any e n hc) (fun b o hc e n=>u.free b o e n hc) (fun b o hc e=>u.there b o e hc) u.tups u.frzs u.tbls (fun m' hm=>by
  obtain ⟨o',es',ep',ho',r'⟩:=hm
  rw [ho] at ho';cases ho'
  exact ⟨_,es',ep',hL,r'⟩) hok hg
theorem Inv.turned {t':Nat} {it:Addr} (I:Inv X pins σ H s) (k:∀ b o,b≠it→s.heap.get? b=some o→h'.get? b=some o) (hn:H it=none) (hL:it≠X.env.locals)
  (h1:it∈X.ex∨X.s₀.heap.objs.size≤it) (h2:∀ x c,X.env.cells.lookup x=some c→c≠it) (h3:∀ p∈X.pn++pins,p.1≠it):Inv X pins σ H { s with heap:=h',toks:=t' }:=by
 have nit:∀ b u,H b=some u→b≠it:=fun b u e z=>by rw [z,hn] at e;cases e
 refine I.step (g':=s.gens) (d':=s.drawn) (ch:=[it]) (fun b hb=>?_) (fun b o _ _ hc e _=>k b o (fun z=>hc (by simp [z])) e) (fun b o _ _ hc e _=>⟨o.slots,k b o (fun z=>hc (by simp [z])) e⟩) (fun _ _ _ _ n=>n)
  (fun b o hc e=>⟨o,k b o (fun z=>hc (by simp [z])) e⟩) (fun _ _ e=>e) (fun _ _ _ e=>e) (fun b ps e=>⟨#[],by rw [e];simp⟩) (fun m hm=>?_) (fun b u e=>?_) I.bare
 ·have e:b=it:=by simpa using hb
  subst e
  exact ⟨h1,hL,h2,h3⟩
 ·obtain ⟨o,es,ep,ho,r⟩:=hm
  exact ⟨o,es,ep,k _ o (Ne.symm hL) ho,r⟩
 ·refine (I.hok b u e).stay (fun c v hc q=>k c v ?_ q) (fun _ q=>q) fun _ _ q=>q
  rcases hc with z | z
  ·rw [z];exact nit b u e
  ·exact nit c _ z
theorem Inv.tok (I:Inv X pins σ H s) (t:Nat):Inv X pins σ H { s with toks:=t }:=I.un (h':=s.heap) (t':=t) Un.refl I.hok
theorem Inv.kept {t':Nat} (I:Inv X pins σ H s) (k:∀ b u,s.heap.get? b=some u→h'.get? b=some u):Inv X pins σ H { s with heap:=h',toks:=t' }:=I.un (Un.kept k) (I.hok.kept k)
theorem Inv.laid {a:Addr} {o:HO} {t':Nat} (I:Inv X pins σ H s) (k:∀ b u,s.heap.get? b=some u→h'.get? b=some u) (hp:s.heap.objs.size≤a) (new:a0F X.prog X.w (upd H a o) h' a o) :
  Inv X pins σ (upd H a o) { s with heap:=h',toks:=t' }:=I.un (Un.laid k hp (I.hok.fresh hp)) (I.hok.laid k hp new)
theorem Inv.write {x e:Addr} {o:HO} {t':Nat} (I:Inv X pins σ H s) (mu:Mut (H x)) (he:e=x∨H e=some (.own x)) (k:∀ b u,b≠e→s.heap.get? b=some u→h'.get? b=some u) (heo:∃ u,h'.get? e=some u)
  (new:a0F X.prog X.w (upd H x o) h' x o):Inv X pins σ (upd H x o) { s with heap:=h',toks:=t' }:=I.un (Un.write mu he k heo) (I.hok.write mu he k heo new)
theorem Inv.weak {σ':List (Option V)} (I:Inv X pins σ H s) (hl:σ'.length=σ.length) (w:∀ (i:Nat) v,σ'[i]?=some (some v)→σ[i]?=some (some v)):Inv X pins σ' H s :=
 ⟨I.ok,I.os,I.bare,I.base,let ⟨m,hn,hl'⟩:=I.loc;⟨m,hn,fun i x v e1 e2 e3=>hl' i x v e1 (w i v e2) e3⟩,I.cell,I.free,I.freeC,I.pin,I.hok,hl.trans I.len⟩
theorem Inv.pins_of {pins':List (Addr × Obj)} (I:Inv X pins σ H s) (h:∀ p∈pins',s.heap.get? p.1=some p.2∧H p.1=none∧p.1≠X.env.locals∧p.1∉X.fs∧∀ v,p.2.data≠.cell v):Inv X pins' σ H s :=
 ⟨I.ok,I.os,I.bare,I.base,I.loc,I.cell,I.free,I.freeC,fun p hp=>(List.mem_append.mp hp).elim (fun z=>I.pin p (List.mem_append_left _ z)) (h p),I.hok,I.len⟩
theorem a5Q {N:List Str} (hN:N.Nodup) {i j:Nat} {x:Str} (a:N[i]?=some x) (b:N[j]?=some x):i=j:=by
 obtain ⟨h1,e1⟩:=List.getElem?_eq_some_iff.mp a
 obtain ⟨h2,e2⟩:=List.getElem?_eq_some_iff.mp b
 exact (List.getElem_inj hN).mp (e1.trans e2.symm)
theorem a4t {M:Model} {A:Around} {E:Value→Shared→Prop} {i:Nat} {x:Str} {v:V} {u:Value} {Q:Unit→Shared→Prop} (I:Inv X pins σ H s) (hN:X.N.Nodup) (hi:X.N[i]?=some x) (hx:Loc X.env.scope x) (r:a0O v u)
  (h:∀ s',Inv X pins (σ.set i (some v)) H s'→(∃ a,Heap.SameBut a s.heap s'.heap∧(a=X.env.locals∨X.env.cells.lookup x=some a))→Q () s') (hf:X.fn x=true∨X.env.scope.names.lookup x=some .local:=by first | exact .inl rfl | exact .inr rfl | assumption):wpAny M A (storeName X.env x u) Q E s:=by
 obtain ⟨m,hn,hl⟩:=id I.loc
 have hcls:(X.env.scope.kind == .class || (X.env.scope.kind == .module && X.env.locals != X.env.globals))=false:=by rw [I.ok.kind];rfl
 have hiσ:i < σ.length:=by rw [I.len];exact (List.getElem?_eq_some_iff.mp hi).1
 have cne:=I.cne
 have tracked:∀ {a:Addr} {h':Heap},(∃ o,s.heap.get? a=some o∧H a=none)→Heap.SameBut a s.heap h'→HOk X.prog X.w H h':=fun {a h'} ha hs b ob e=>by
  obtain ⟨_,_,hfree⟩:=ha
  refine (I.hok b ob e).stay (fun c w' hc q=>(hs.2 c ?_).trans q) (fun _ q=>q) fun _ _ q=>q
  rintro rfl
  rcases hc with rfl | hc
  ·rw [hfree] at e;cases e
  ·rw [hfree] at hc;cases hc
 rcases hx with hk | hk
 ·refine wpAny_storeName_local hk hn (fun h' hn' hs=>?_) hcls
  obtain ⟨oL,_,_,hoL,_⟩:=id hn
  refine h _ ⟨I.ok,I.os,I.bare,⟨fun b o e n hb hx=>?_,fun b o e n hb hx=>?_,I.base.free,fun b o e hx=>?_,I.base.tups,I.base.frzs,I.base.tbls⟩,⟨_,hn',fun j y v' e1 e2 e3=>?_⟩,fun y c e=>?_,I.free,I.freeC,fun p hp=>?_,tracked ⟨oL,hoL,I.free⟩ hs,by simpa using I.len⟩ ⟨_,hs,.inl rfl⟩
  ·exact (hs.2 b (Nat.ne_of_lt (Nat.lt_of_lt_of_le (Heap.lt_size e) I.ok.above))).trans (I.base.keep b o e n hb hx)
  ·obtain ⟨sl,e1⟩:=I.base.slot b o e n hb hx
   exact ⟨sl,(hs.2 b (Nat.ne_of_lt (Nat.lt_of_lt_of_le (Heap.lt_size e) I.ok.above))).trans e1⟩
  ·obtain ⟨o',e1⟩:=I.base.there b o e hx
   exact ⟨o',(hs.2 b (Nat.ne_of_lt (Nat.lt_of_lt_of_le (Heap.lt_size e) I.ok.above))).trans e1⟩
  ·by_cases hj:j=i
   ·subst hj
    rw [hi] at e1;cases e1
    rw [List.getElem?_set_self hiσ] at e2
    cases e2
    exact ⟨u,r,.inl ⟨hk,by simp⟩⟩
   ·rw [List.getElem?_set_ne (Ne.symm hj)] at e2
    obtain ⟨u',r',q⟩:=hl j y v' e1 e2 e3
    refine ⟨u',r',?_⟩
    rcases q with ⟨k,e⟩ | ⟨k,c,e,z⟩
    ·refine .inl ⟨k,?_⟩
     have:y≠x:=fun e=>hj (a5Q hN e1 (e▸hi))
     simp [this,e]
    ·exact .inr ⟨k,c,e,z.sameBut hs (cne y c e)⟩
  ·obtain ⟨w',z⟩:=I.cell y c e
   exact ⟨w',z.sameBut hs (cne y c e)⟩
  ·obtain ⟨e,n,ne,nf,d⟩:=I.pin p hp
   exact ⟨(hs.2 p.1 ne).trans e,n,ne,nf,d⟩
 ·have hfn:X.fn x=true:=by
   rcases hf with z | z
   ·exact z
   ·rw [z] at hk;cases hk
  obtain ⟨c,hc⟩:=I.ok.has x (.inl hk)
  obtain ⟨w',z⟩:=I.cell x c hc
  refine wpAny_storeName_cell I.ok.kind hk hc z (fun h' hc' hs=>?_)
  obtain ⟨oc,hoc,hocd⟩:=id z
  refine h { s with heap:=h' } ⟨I.ok,I.os,I.bare,⟨fun b o e n hb hx=>?_,fun b o e n hb hx=>?_,I.base.free,fun b o e hx=>?_,I.base.tups,I.base.frzs,I.base.tbls⟩,⟨m,hn.sameBut hs (Ne.symm (cne x c hc)),fun j y v' e1 e2 e3=>?_⟩,fun y c' e=>?_,I.free,I.freeC,fun p hp=>?_,tracked ⟨oc,hoc,I.freeC x c hc⟩ hs,by simpa using I.len⟩ ⟨c,hs,.inr hc⟩
  ·exact (hs.2 b (Nat.ne_of_lt (Nat.lt_of_lt_of_le (Heap.lt_size e) (I.ok.cab x c hfn hc)))).trans (I.base.keep b o e n hb hx)
  ·obtain ⟨sl,e1⟩:=I.base.slot b o e n hb hx
   exact ⟨sl,(hs.2 b (Nat.ne_of_lt (Nat.lt_of_lt_of_le (Heap.lt_size e) (I.ok.cab x c hfn hc)))).trans e1⟩
  ·obtain ⟨o',e1⟩:=I.base.there b o e hx
   exact ⟨o',(hs.2 b (Nat.ne_of_lt (Nat.lt_of_lt_of_le (Heap.lt_size e) (I.ok.cab x c hfn hc)))).trans e1⟩
  ·by_cases hj:j=i
   ·subst hj
    rw [hi] at e1;cases e1
    rw [List.getElem?_set_self hiσ] at e2
    cases e2
    exact ⟨u,r,.inr ⟨.inl hk,c,hc,hc'⟩⟩
   ·rw [List.getElem?_set_ne (Ne.symm hj)] at e2
    obtain ⟨u',r',q⟩:=hl j y v' e1 e2 e3
    refine ⟨u',r',?_⟩
    rcases q with q | ⟨k,c',e,z'⟩
    ·exact .inl q
    ·refine .inr ⟨k,c',e,z'.sameBut hs ?_⟩
     rintro rfl
     exact hj (a5Q hN e1 (I.ok.inj _ _ _ e hc▸hi))
  ·by_cases hcc:c'=c
   ·subst hcc;exact ⟨_,hc'⟩
   ·obtain ⟨w2,z2⟩:=I.cell y c' e
    exact ⟨w2,z2.sameBut hs hcc⟩
  ·obtain ⟨e,n,ne,nf,d⟩:=I.pin p hp
   refine ⟨(hs.2 p.1 ?_).trans e,n,ne,nf,d⟩
   intro q
   rw [q,hoc] at e
   have q':oc=p.2:=Option.some.inj e
   exact d w' (by rw [←q'];exact hocd)
theorem a5R {M:Model} {A:Around} {E:Value→Shared→Prop} {i:Nat} {x:Str} {v:V} {u:Value} {Q:Unit→Shared→Prop} (I:Inv X pins σ H s) (hN:X.N.Nodup) (hi:X.N[i]?=some x) (hx:Loc X.env.scope x) (r:a0O v u)
  (h:∀ s',Inv X pins (σ.set i (some v)) H s'→Q () s') (hf:X.fn x=true∨X.env.scope.names.lookup x=some .local:=by first | exact .inl rfl | exact .inr rfl | assumption):wpAny M A (storeName X.env x u) Q E s :=
 a4t I hN hi hx r (fun s' I' _=>h s' I') hf
theorem Inv.call' {s':Shared} {ch:List Addr} (I:Inv X pins σ H s) (ho:s'.os=s.os) (u:Un (frs X.stack) ch H H' s.heap s'.heap) (hok:HOk X.prog X.w H' s'.heap) (hg:AllBare s'.gens)
  (hch:∀ b∈ch,(b∈X.ex∨X.s₀.heap.objs.size≤b)∧b≠X.env.locals∧(∀ x c,X.env.cells.lookup x=some c→c≠b)∧∀ p∈X.pn++pins,p.1≠b):Inv X pins σ H' s':=by
 obtain ⟨h',g',d',t',o'⟩:=s'
 have e:o'=s.os:=ho
 subst e
 exact I.call (g':=g') (t':=t') (d':=d') u hok hg hch
end
abbrev XK:=Value→Option Addr→Hp→Prop
abbrev St:=List (Option V)
abbrev VK:=V→Hp→Prop
abbrev TE:=St→Hp→VK→Prop
abbrev TT:=St→Hp→(Bool→Hp→Prop)→Prop
abbrev TA:=St→Hp→(List V→Hp→Prop)→Prop
structure b0b where
 nx:St→Hp→Prop
 rt:VK
 bk:St→Hp→Prop:=fun _ _=>False
 ct:St→Hp→Prop:=fun _ _=>False
abbrev TS:=b0b→St→Hp→Prop
def EP (X:Cx) (pins:List (Addr × Obj)) (σ:St) (Q:VK) (u:Value) (s':Shared):Prop:=∃ v H',Inv X pins σ H' s'∧a0O v u∧Q v H'
def TP (X:Cx) (pins:List (Addr × Obj)) (σ:St) (Q:Bool→Hp→Prop) (b:Bool) (s':Shared):Prop:=∃ H',Inv X pins σ H' s'∧Q b H'
def AP (X:Cx) (pins:List (Addr × Obj)) (σ:St) (Q:List V→Hp→Prop) (us:List Value) (s':Shared):Prop:=∃ vs H',Inv X pins σ H' s'∧a0D vs us∧Q vs H'
def SP (X:Cx) (pins:List (Addr × Obj)) (D:b0b) (f:Flow) (s':Shared):Prop :=
 match f with
 | .next=>∃ σ' H',Inv X pins σ' H' s'∧D.nx σ' H'
 | .brk=>∃ σ' H',Inv X pins σ' H' s'∧D.bk σ' H'
 | .cont=>∃ σ' H',Inv X pins σ' H' s'∧D.ct σ' H'
 | .ret u=>∃ v σ' H',Inv X pins σ' H' s'∧a0O v u∧D.rt v H'
def PE (X:Cx) (e:Expr) (t:TE):Prop :=
 ∀ (pins:List (Addr × Obj)) (s:Shared) (σ:St) (H:Hp) (Q:VK),Inv X pins σ H s→t σ H Q→wpAny (model X.prog X.w) X.A (eval e X.env) (EP X pins σ Q) X.xe s
def PT (X:Cx) (e:Expr) (t:TT):Prop :=
 ∀ (pins:List (Addr × Obj)) (s:Shared) (σ:St) (H:Hp) (Q:Bool→Hp→Prop),Inv X pins σ H s→t σ H Q→wpAny (model X.prog X.w) X.A (isTrue e X.env (eval e X.env)) (TP X pins σ Q) X.xe s
def PW (X:Cx) (e:Expr) (t:TT):Prop :=
 ∀ (whole:Sem Value) (pins:List (Addr × Obj)) (s:Shared) (σ:St) (H:Hp) (Q:Bool→Hp→Prop),Inv X pins σ H s→t σ H Q→wpAny (model X.prog X.w) X.A (isTrue e X.env whole) (TP X pins σ Q) X.xe s
theorem PW.pt {X:Cx} {e:Expr} {t:TT} (h:PW X e t):PT X e t:=h _
def PA (X:Cx) (es:List Expr) (t:TA):Prop :=
 ∀ (pos:Pos) (pins:List (Addr × Obj)) (s:Shared) (σ:St) (H:Hp) (Q:List V→Hp→Prop),Inv X pins σ H s→t σ H Q→wpAny (model X.prog X.w) X.A (spliced (backTo pos (starEach es X.env))) (AP X pins σ Q) X.xe s
def PS (X:Cx) (st:Stmt) (t:TS):Prop :=
 ∀ (pins:List (Addr × Obj)) (s:Shared) (σ:St) (H:Hp) (D:b0b),Inv X pins σ H s→t D σ H→wpAny (model X.prog X.w) X.A (exec st X.env) (SP X pins D) X.xe s
def PSs (X:Cx) (st:List Stmt) (t:TS):Prop :=
 ∀ (pins:List (Addr × Obj)) (s:Shared) (σ:St) (H:Hp) (D:b0b),Inv X pins σ H s→t D σ H→wpAny (model X.prog X.w) X.A (execs st X.env) (SP X pins D) X.xe s
theorem thn {α:Type} {t:Sem α} {Q Q':α→Shared→Prop} {M:Model} {A:Around} {E:Value→Shared→Prop} {s:Shared} (h:wpAny M A t Q E s) (hQ:∀ a s,Q a s→Q' a s):wpAny M A t Q' E s:=wpAny_mono h hQ fun _ _ x=>x
section
variable {X:Cx}
def tVar (i:Nat):TE:=fun σ H Q=>∃ v,σ[i]?=some (some v)∧Q v H
def tC (v:V):TE:=fun _ H Q=>Q v H
theorem pe_var {i:Nat} {x:Str} {pos:Pos} (hN:X.N[i]?=some x) (hv:Vis X.env.scope x) (hd:(x == ("__debug__":Str))=false:=by decide) (hcd:(x == ("__classdict__":Str))=false:=by decide):PE X (.Name x pos) (tVar i):=by
 intro pins s σ H Q I h
 obtain ⟨v,e,h⟩:=h
 obtain ⟨m,hn,hl⟩:=I.loc
 obtain ⟨u,r,l⟩:=hl i x v hN e hv
 have fin:EP X pins σ Q u s:=⟨v,H,I,r,h⟩
 rcases l with ⟨hk,hm⟩ | ⟨hk,c,hc,hcell⟩
 ·exact wpAny_Name (wpAny_loadName_local I.ok.kind hk hn hm fin) hd
 ·rcases hk with hk | hk
  ·exact wpAny_Name (wpAny_loadName_cell I.ok.kind hk hc hcell fin) hd
  ·exact wpAny_Name (wpAny_loadName_free I.ok.kind hk hc hcell fin hcd) hd
theorem a0h {i j pos}:PE X (.Constant (.int i) j pos) (tC (.int i)):=fun _ _ _ H _ I h=>wpAny_Constant_int ⟨.int i,H,I.tok _,⟨_,rfl⟩,h⟩
theorem a3E {b j pos}:PE X (.Constant (.bool b) j pos) (tC (.bl b)):=fun _ _ _ H _ I h=>Constant_bool ⟨.bl b,H,I,rfl,h⟩
theorem a5S {j pos}:PE X (.Constant .none j pos) (tC .non):=fun _ _ _ H _ I h=>Constant_none ⟨.non,H,I,rfl,h⟩
theorem a3n {x j pos}:PE X (.Constant (.str x) j pos) (tC (.str x)):=fun _ _ _ H _ I h=>Calls.Constant_str ⟨.str x,H,I.tok _,⟨_,rfl⟩,h⟩
def Gl (X:Cx) (x:Str):Prop:=X.env.kindOf x=some .globalImplicit
theorem a5n {E:Value→Shared→Prop} {pins:List (Addr × Obj)} {s:Shared} {σ:St} {H:Hp} {x:Str} {u:Value} {pos:Pos} {Q:Value→Shared→Prop} (I:Inv X pins σ H s) (hg:Gl X x) (hm:X.mg x=some u) (h:Q u s)
  (hd:(x == ("__debug__":Str))=false:=by decide):wpAny (model X.prog X.w) X.A (eval (.Name x pos) X.env) Q E s :=
 Calls.Name_function_global I.ok.kind hg (Calls.loadGlobal_global (by rw [I.ok.glob];exact I.mod.glob.keeps I.bk) hm h) hd
theorem a1t {E:Value→Shared→Prop} {pins:List (Addr × Obj)} {s:Shared} {σ:St} {H:Hp} {x:Str} {u:Value} {pos:Pos} {Q:Value→Shared→Prop} (I:Inv X pins σ H s) (hg:Gl X x) (hm:X.mg x=none) (hv:bootBuiltins x=some u) (h:Q u s)
  (hn:x≠"__name__":=by decide) (hd:(x == ("__debug__":Str))=false:=by decide):wpAny (model X.prog X.w) X.A (eval (.Name x pos) X.env) Q E s:=by
 obtain ⟨mb,h1,h2⟩:=I.mod.blt
 exact Calls.Name_function_global I.ok.kind hg (Calls.loadGlobal_builtin (by rw [I.ok.glob];exact I.mod.glob.keeps I.bk) hm (by rw [I.ok.blt];exact h1.keeps I.bk) ((h2 x hn).trans hv) h) hd
theorem b1Y {x:Str} {v:V} {u:Value} {pos:Pos} (hg:Gl X x) (hm:X.mg x=none) (hv:bootBuiltins x=some u) (r:a0O v u) (hn:x≠"__name__":=by decide) (hd:(x == ("__debug__":Str))=false:=by decide):PE X (.Name x pos) (tC v) :=
 fun _ _ _ H _ I h=>a1t I hg hm hv ⟨v,H,I,r,h⟩ hn hd
def t2I (ta tb:TE) (k:Int→Int→Hp→Prop):St→Hp→Prop:=fun σ H=>ta σ H fun x H1=>tb σ H1 fun y H2=>∃ i j,x=.int i∧y=.int j∧k i j H2
def tMul (ta tb:TE):TE:=fun σ H Q=>t2I ta tb (fun i j H2=>(-(2 ^ 64) < i∧i < 2 ^ 64)∧Q (.int (i * j)) H2) σ H
variable {a b:Expr} {ta tb:TE} {pos:Pos}
def PC (X:Cx) (op:CmpOp) (a b:Expr) (t:TE):Prop :=
 ∀ (pins:List (Addr × Obj)) (s:Shared) (σ:St) (H:Hp) (Q:VK),Inv X pins σ H s→t σ H Q →
  wpAny (model X.prog X.w) X.A (eval a X.env) (fun v s₁=>wpAny (model X.prog X.w) X.A (eval b X.env) (fun u s₂=>wpAny (model X.prog X.w) X.A (compareOp op v u) (EP X pins σ Q) X.xe s₂) X.xe s₁) X.xe s
theorem nobehind (b:Expr) {op:CmpOp} (h:op≠.In) (h2:op≠.NotIn):behindInMarks op b=false:=by
 have e1:(op == CmpOp.In)=false:=by cases op <;> first | rfl | exact absurd rfl h
 have e2:(op == CmpOp.NotIn)=false:=by cases op <;> first | rfl | exact absurd rfl h2
 cases b <;> simp [behindInMarks,e1,e2]
def tIsN (ta:TE):TE:=fun σ H Q=>ta σ H fun x H1=>Q (.bl (decide (x=.non))) H1
def tNotN (ta:TE):TE:=fun σ H Q=>ta σ H fun x H1=>Q (.bl (!decide (x=.non))) H1
theorem a0O.none_iff {x:V} {v:Value} (r:a0O x v):(v == Value.none)=decide (x=.non):=by
 cases x with
 | non=>cases r;rfl
 | bl _=>cases r;rfl
 | int _=>obtain ⟨t,rfl⟩:=r;rfl
 | str _=>obtain ⟨t,rfl⟩:=r;rfl
 | byt _=>obtain ⟨t,rfl⟩:=r;rfl
 | flt _=>obtain ⟨t,rfl⟩:=r;rfl
 | ref _=>cases r;rfl
 | ty _=>cases r;rfl
theorem pc_isN {j pos'} (ha:PE X a ta):PC X .Is a (.Constant .none j pos') (tIsN ta):=by
 intro pins s σ H Q I h
 refine thn (ha pins s σ H _ I h) fun v s1 ⟨x,H1,I1,r1,q1⟩=>?_
 exact Constant_none (is_none_gen ⟨.bl _,H1,I1,by rw [r1.none_iff];rfl,q1⟩)
theorem b1Z {j pos'} (ha:PE X a ta):PC X .IsNot a (.Constant .none j pos') (tNotN ta):=by
 intro pins s σ H Q I h
 refine thn (ha pins s σ H _ I h) fun v s1 ⟨x,H1,I1,r1,q1⟩=>?_
 exact Constant_none (isnot_none_gen ⟨.bl _,H1,I1,by rw [r1.none_iff];rfl,q1⟩)
def tB (t:TE):TT:=fun σ H Q=>t σ H fun x H1=>∃ c,x=.bl c∧Q c H1
theorem pe_cmp {op:CmpOp} {t:TE} (h:PC X op a b t) (h1:behindInMarks op b=false:=by first | exact nobehind _ (by decide) (by decide) | rfl):PE X (.Compare a [op] [b] pos) t:=fun pins s σ H Q I hw=>wpAny_Compare1 (h pins s σ H Q I hw) h1
theorem pt_cmp {op:CmpOp} {t:TE} (h:PC X op a b t) (h1:behindInMarks op b=false:=by first | exact nobehind _ (by decide) (by decide) | rfl):PT X (.Compare a [op] [b] pos) (tB t):=by
 intro pins s σ H Q I hw
 refine wpAny_isTrue_Compare1 (thn (h pins s σ H _ I hw) fun v s1 h1=>thn h1 fun u s2 h2=>thn h2 fun c s3 ⟨x,H1,I1,r1,q1⟩=>?_) h1
 obtain ⟨d,rfl,q⟩:=q1
 cases r1
 exact wpAny_truthy_bool ⟨H1,I1,q⟩
theorem a1q {e:Expr} {t:TE} (h:PE X e t) (he:∀ whole,isTrue e X.env whole=(do let v ←whole;standAt e.pos;holding [v] (truthy v)):=by intro _;rfl):PT X e (tB t):=by
 intro pins s σ H Q I hw
 refine isTrue_plain (thn (h pins s σ H _ I hw) fun v s1 ⟨x,H1,I1,r1,q1⟩=>?_) (he _)
 obtain ⟨d,rfl,q⟩:=q1
 cases r1
 exact wpAny_truthy_bool ⟨H1,I1,q⟩
variable {tA tB':TT} {rest:List Expr}
def tAnd (t u:TT):TT:=fun σ H Q=>t σ H fun c H1=>if c=true then u σ H1 Q else Q false H1
def tOr (t u:TT):TT:=fun σ H Q=>t σ H fun c H1=>if c=true then Q true H1 else u σ H1 Q
def tNot (t:TT):TT:=fun σ H Q=>t σ H fun c H1=>Q (!c) H1
theorem a8a (ha:PT X a tA):PW X (.BoolOp .And [a] pos) tA:=by
 intro wh pins s σ H Q I h
 refine isTrue_and (thn (ha pins s σ H Q I h) fun c s1 e=>?_)
 cases c with
 | true=>exact isTrue_and_nil e
 | false=>exact e
theorem a3o (ha:PT X a tA):PW X (.BoolOp .Or [a] pos) tA:=by
 intro wh pins s σ H Q I h
 refine isTrue_or (thn (ha pins s σ H Q I h) fun c s1 e=>?_)
 cases c with
 | false=>exact isTrue_or_nil e
 | true=>exact e
theorem b1t (ha:PT X a tA) (hb:PW X (.BoolOp .And (b :: rest) pos) tB'):PW X (.BoolOp .And (a :: b :: rest) pos) (tAnd tA tB'):=by
 intro wh pins s σ H Q I h
 refine isTrue_and (thn (ha pins s σ H _ I h) fun c s1 ⟨H1,I1,q1⟩=>?_)
 cases c with
 | true=>exact hb wh pins s1 σ H1 Q I1 q1
 | false=>exact ⟨H1,I1,q1⟩
theorem a6X (ha:PT X a tA) (hb:PW X (.BoolOp .Or (b :: rest) pos) tB'):PW X (.BoolOp .Or (a :: b :: rest) pos) (tOr tA tB'):=by
 intro wh pins s σ H Q I h
 refine isTrue_or (thn (ha pins s σ H _ I h) fun c s1 ⟨H1,I1,q1⟩=>?_)
 cases c with
 | true=>exact ⟨H1,I1,q1⟩
 | false=>exact hb wh pins s1 σ H1 Q I1 q1
theorem a2r (ha:PT X a tA):PT X (.UnaryOp .Not a pos) (tNot tA):=by
 intro pins s σ H Q I h
 exact isTrue_not (ha pins s σ H (fun c H1=>Q (!c) H1) I h)
def tAndV (ta tb:TE):TE:=fun σ H Q=>ta σ H fun x H1=>∃ c,x=.bl c∧if c=true then tb σ H1 Q else Q (.bl false) H1
theorem a8b {op} {t:TE} (h:PE X a t):PE X (.BoolOp op [a] pos) t:=fun pins s σ H Q I hw=>BoolOp_one (h pins s σ H Q I hw)
theorem a8c (ha:PE X a ta) (hb:PE X (.BoolOp .And (b :: rest) pos) tb):PE X (.BoolOp .And (a :: b :: rest) pos) (tAndV ta tb):=by
 intro pins s σ H Q I h
 refine BoolOp_and (thn (ha pins s σ H _ I h) fun v s1 ⟨x,H1,I1,r1,q1⟩=>?_)
 obtain ⟨c,rfl,q1⟩:=q1
 cases r1
 refine wpAny_truthy_bool ?_
 cases c with
 | true=>exact hb pins s1 σ H1 Q I1 q1
 | false=>exact ⟨.bl false,H1,I1,rfl,q1⟩
def tIf (t:TT) (ta tb:TE):TE:=fun σ H Q=>t σ H fun c H1=>if c=true then ta σ H1 Q else tb σ H1 Q
end
def SqL (K:PySem.W.Frag) (H:Hp) (a:Addr) (xs:List V):Prop :=
 Rd H a (.lst xs) ∨
  ∃ (o:Obj) (its:Array Value) (n:Nat),K.lookup a=some o∧o.cls=.type "list"∧o.dict=none∧o.data=.seq its n∧its.size≤sizeLine∧a0D xs its.toList
def SqT (K:PySem.W.Frag) (H:Hp) (a:Addr) (xs:List V):Prop :=
 Rd H a (.tup xs) ∨
  ∃ (o:Obj) (its:Array Value) (n:Nat),K.lookup a=some o∧o.cls=.type "tuple"∧o.data=.seq its n∧its.size≤sizeLine∧a0D xs its.toList
def absV:Value→Option V
 | .none=>some .non
 | .bool b=>some (.bl b)
 | .int i _=>some (.int i)
 | .str x _=>some (.str x)
 | .bytes b _=>some (.byt b)
 | .float b _=>some (.flt b)
 | .ref a=>some (.ref a)
 | .type n=>some (.ty n)
 | _=>none
theorem a0O.abs {x:V} {u:Value} (r:a0O x u):absV u=some x:=by
 cases x with
 | non=>cases r;rfl
 | bl _=>cases r;rfl
 | int _=>obtain ⟨t,rfl⟩:=r;rfl
 | str _=>obtain ⟨t,rfl⟩:=r;rfl
 | byt _=>obtain ⟨t,rfl⟩:=r;rfl
 | flt _=>obtain ⟨t,rfl⟩:=r;rfl
 | ref _=>cases r;rfl
 | ty _=>cases r;rfl
theorem a0O.inj {x y:V} {u:Value} (r:a0O x u) (q:a0O y u):x=y:=Option.some.inj (r.abs.symm.trans q.abs)
theorem a0D.inj:∀ {xs ys:List V} {us:List Value},a0D xs us→a0D ys us→xs=ys
 | _,_,_,.nil,.nil=>rfl
 | _,_,_,.cons r t,.cons r' t'=>by rw [r.inj r',a0D.inj t t']
section
variable {X:Cx} {pins:List (Addr × Obj)} {σ:St} {H:Hp} {s:Shared} {a:Addr} {xs ys:List V}
theorem SqL.of {K:PySem.W.Frag} (h:H a=some (.lst xs)):SqL K H a xs:=.inl (.inl h)
theorem SqT.of {K:PySem.W.Frag} (h:H a=some (.tup xs)):SqT K H a xs:=.inl (.inl h)
theorem Inv.list (I:Inv X pins σ H s) (h:SqL X.K H a xs):∃ its:List Value,a0D xs its∧PlainL s.heap a its.toArray∧xs.length≤sizeLine:=by
 rcases h with h | ⟨o,its,n,hk,hc,hd,hs,hz,r⟩
 ·obtain ⟨z,its,n,r,e⟩:=h.ok I.hok
  exact ⟨its,r,⟨_,n,e,rfl,rfl,rfl⟩,z⟩
 ·refine ⟨its.toList,r,⟨o,n,I.kIn a o hk,hc,hd,by simpa using hs⟩,?_⟩
  have e:=r.length
  simp only [Array.length_toList] at e
  omega
theorem Inv.tuple (I:Inv X pins σ H s) (h:SqT X.K H a xs):∃ its:List Value,a0D xs its∧IsTup s.heap a its.toArray∧xs.length≤sizeLine:=by
 rcases h with h | ⟨o,its,n,hk,hc,hs,hz,r⟩
 ·obtain ⟨z,its,r,p⟩:=h.ok I.hok
  exact ⟨its,r,p.is,z⟩
 ·refine ⟨its.toList,r,⟨o,I.kIn a o hk,hc,n,by simpa using hs⟩,?_⟩
  have e:=r.length
  simp only [Array.length_toList] at e
  omega
theorem Inv.list_inj (I:Inv X pins σ H s) (h:SqL X.K H a xs) (h':SqL X.K H a ys):xs=ys:=by
 obtain ⟨its,r,⟨o,n,e,_,_,d⟩,_⟩:=I.list h
 obtain ⟨its',r',⟨o',n',e',_,_,d'⟩,_⟩:=I.list h'
 rw [e] at e';cases e'
 rw [d] at d'
 injection d' with d1 _
 have:its=its':=by simpa using congrArg Array.toList d1
 subst this
 exact r.inj r'
theorem Inv.tuple_inj (I:Inv X pins σ H s) (h:SqT X.K H a xs) (h':SqT X.K H a ys):xs=ys:=by
 obtain ⟨its,r,⟨o,e,_,n,d⟩,_⟩:=I.tuple h
 obtain ⟨its',r',⟨o',e',_,n',d'⟩,_⟩:=I.tuple h'
 rw [e] at e';cases e'
 rw [d] at d'
 injection d' with d1 _
 have:its=its':=by simpa using congrArg Array.toList d1
 subst this
 exact r.inj r'
end
abbrev Cx.wish (X:Cx) (E:Value→Shared→Prop):Cx:={ X with xe:=E }
abbrev Cx.nox (X:Cx):Cx:=X.wish fun _ _=>False
theorem Cx.Ok.wish {X:Cx} (ok:X.Ok) (E:Value→Shared→Prop):(X.wish E).Ok :=
 ⟨ok.mod,ok.kind,ok.glob,ok.blt,ok.above,ok.inj,ok.has,ok.cab,ok.hd,ok.frames,ok.stk,ok.exf,ok.bs,ok.bsz,ok.noex,ok.exfs,ok.funs,ok.frf⟩
theorem Cx.Ok.unwish {X:Cx} {E:Value→Shared→Prop} (ok:(X.wish E).Ok):X.Ok :=
 ⟨ok.mod,ok.kind,ok.glob,ok.blt,ok.above,ok.inj,ok.has,ok.cab,ok.hd,ok.frames,ok.stk,ok.exf,ok.bs,ok.bsz,ok.noex,ok.exfs,ok.funs,ok.frf⟩
section
variable {X:Cx} {pins:List (Addr × Obj)} {σ:St} {H:Hp} {s:Shared} {E:Value→Shared→Prop}
theorem Inv.wish (I:Inv X pins σ H s) (E:Value→Shared→Prop):Inv (X.wish E) pins σ H s:=⟨I.ok.wish E,I.os,I.bare,I.base,I.loc,I.cell,I.free,I.freeC,I.pin,I.hok,I.len⟩
theorem Inv.unwish (I:Inv (X.wish E) pins σ H s):Inv X pins σ H s:=⟨I.ok.unwish,I.os,I.bare,I.base,I.loc,I.cell,I.free,I.freeC,I.pin,I.hok,I.len⟩
theorem SP.unwish {D:b0b} {f:Flow} {s':Shared} (h:SP (X.wish E) pins D f s'):SP X pins D f s':=by
 cases f with
 | next=>obtain ⟨σ',H',I,q⟩:=h;exact ⟨σ',H',I.unwish,q⟩
 | brk=>obtain ⟨σ',H',I,q⟩:=h;exact ⟨σ',H',I.unwish,q⟩
 | cont=>obtain ⟨σ',H',I,q⟩:=h;exact ⟨σ',H',I.unwish,q⟩
 | ret u=>obtain ⟨v,σ',H',I,r,q⟩:=h;exact ⟨v,σ',H',I.unwish,r,q⟩
theorem PSs.nox {st:List Stmt} {t:TS} (h:PSs X.nox st t):PSs X st t:=fun pins s σ H D I hw =>
 wpAny_mono (h pins s σ H D (I.wish _) hw) (fun _ _ q=>q.unwish) fun _ _ z=>False.elim z
end
section
variable {X:Cx} {st:Stmt} {rest:List Stmt} {t u:TS} {e:Expr} {te:TE} {pos:Pos}
def tNext:TS:=fun D σ H=>D.nx σ H
def tSeq (t u:TS):TS:=fun D σ H=>t { D with nx:=u D } σ H
theorem a0x:PSs X [] tNext:=fun _ _ σ H _ I h=>wpAny_execs_nil ⟨σ,H,I,h⟩
theorem a0f (h1:PS X st t) (h2:PSs X rest u):PSs X (st :: rest) (tSeq t u):=by
 intro pins s σ H D I h
 refine wpAny_execs_cons (thn (h1 pins s σ H { D with nx:=u D } I h) fun f s1 q=>?_)
 cases f with
 | next =>
  obtain ⟨σ',H',I',q⟩:=q
  exact h2 pins s1 σ' H' D I' q
 | ret v=>exact q
 | brk=>exact q
 | cont=>exact q
theorem a0i (h1:PS X st t):PSs X [st] t:=by
 intro pins s σ H D I h
 refine wpAny_execs_cons (thn (h1 pins s σ H D I h) fun f s1 q=>?_)
 cases f with
 | next=>exact wpAny_execs_nil q
 | ret v=>exact q
 | brk=>exact q
 | cont=>exact q
theorem Inv.quiet {pins:List (Addr × Obj)} {σ:St} {H:Hp} {s:Shared} (I:Inv X pins σ H s):interactive X.env=false:=by simp [interactive,I.ok.kind]
def tDrop (te:TE):TS:=fun D σ H=>te σ H fun _ H1=>D.nx σ H1
theorem a1m (he:PE X e te) (hs:swapsWith e none pos.line X.env=pure false:=by rfl):PS X (.Expr e pos) (tDrop te):=by
 intro pins s σ H D I h
 exact wpAny_Expr_any (thn (he pins s σ H _ I h) fun v s1 ⟨x,H1,I1,r1,q1⟩=>⟨σ,H1,I1,q1⟩) I.quiet hs
def tRet (te:TE):TS:=fun D σ H=>te σ H D.rt
theorem a0s (he:PE X e te):PS X (.Return (some e) pos) (tRet te):=by
 intro pins s σ H D I h
 exact wpAny_Return_some (thn (he pins s σ H _ I h) fun v s1 ⟨x,H1,I1,r1,q1⟩=>⟨x,σ,H1,I1,r1,q1⟩)
def tIfS (c:TT) (t u:TS):TS:=fun D σ H=>c σ H fun b H1=>if b=true then t D σ H1 else u D σ H1
theorem a0U {c:Expr} {a b:List Stmt} {tc:TT} (hc:PT X c tc) (ha:PSs X a t) (hb:PSs X b u):PS X (.If c a b pos) (tIfS tc t u):=by
 intro pins s σ H D I h
 refine wpAny_If (thn (hc pins s σ H _ I h) fun d s1 ⟨H1,I1,q1⟩=>?_)
 cases d with
 | true=>exact ha pins s1 σ H1 D I1 q1
 | false=>exact hb pins s1 σ H1 D I1 q1
def tNever:TS:=fun _ _ _=>False
end
abbrev TG:=V→St→Hp→(St→Hp→Prop)→Prop
abbrev TGs:=List V→St→Hp→(St→Hp→Prop)→Prop
def PG (X:Cx) (target:Expr) (t:TG):Prop :=
 ∀ (pins:List (Addr × Obj)) (s:Shared) (σ:St) (H:Hp) (v:V) (u:Value) (Q:St→Hp→Prop),Inv X pins σ H s→a0O v u→t v σ H Q →
  wpAny (model X.prog X.w) X.A (assign target X.env u) (fun _ s'=>∃ σ' H',Inv X pins σ' H' s'∧Q σ' H') X.xe s
def PGs (X:Cx) (ts:List Expr) (t:TGs):Prop :=
 ∀ (pins:List (Addr × Obj)) (s:Shared) (σ:St) (H:Hp) (vs:List V) (us:List Value) (Q:St→Hp→Prop),Inv X pins σ H s→a0D vs us→t vs σ H Q →
  wpAny (model X.prog X.w) X.A (assignInOrder ((assignEach ts X.env).map (·.2)) us) (fun _ s'=>∃ σ' H',Inv X pins σ' H' s'∧Q σ' H') X.xe s
abbrev TSet:=V→V→V→Hp→(Hp→Prop)→Prop
def PSet (X:Cx) (t:TSet):Prop :=
 ∀ (pins:List (Addr × Obj)) (s:Shared) (σ:St) (H:Hp) (o i v:V) (ov iv u:Value) (Q:Hp→Prop),Inv X pins σ H s→a0O o ov→a0O i iv→a0O v u→t o i v H Q →
  wpAny (model X.prog X.w) X.A (setItem ov iv u) (fun _ s'=>∃ H',Inv X pins σ H' s'∧Q H') X.xe s
abbrev TIp:=V→V→Hp→VK→Prop
section
variable {X:Cx} {pos:Pos}
def a1g (i:Nat):TG:=fun v σ H Q=>Q (σ.set i (some v)) H
theorem a0I {i:Nat} {x:Str} (hN:X.N.Nodup) (hi:X.N[i]?=some x) (hx:Loc X.env.scope x) (hf:X.fn x=true∨X.env.scope.names.lookup x=some .local:=by first | exact .inl rfl | exact .inr rfl | assumption):PG X (.Name x pos) (a1g i):=by
 intro pins s σ H v u Q I r h
 exact wpAny_assign_Name (a5R I hN hi hx r (fun s' I'=>⟨_,H,I',h⟩) hf)
def gNil:TGs:=fun vs σ H Q=>vs=[]∧Q σ H
def b2a (t:TG) (u:TGs):TGs:=fun vs σ H Q=>∃ v r,vs=v :: r∧t v σ H fun σ' H'=>u r σ' H' Q
theorem a2F:PGs X [] gNil:=by
 intro pins s σ H vs us Q I r h
 obtain ⟨e,h⟩:=h
 subst e
 cases r
 exact assignInOrder_nil ⟨σ,H,I,h⟩
theorem a1a {e:Expr} {es:List Expr} {t:TG} {u:TGs} (h1:PG X e t) (h2:PGs X es u)
  (hs:(assignEach (e :: es) X.env).map (·.2)=assign e X.env :: (assignEach es X.env).map (·.2):=by rfl):PGs X (e :: es) (b2a t u):=by
 intro pins s σ H vs us Q I r h
 obtain ⟨v,vr,e1,h⟩:=h
 subst e1
 cases r with
 | cons r rr =>
  rw [hs]
  refine assignInOrder_cons (thn (h1 pins s σ H _ _ _ I r h) fun _ s1 ⟨σ1,H1,I1,q1⟩=>?_)
  exact h2 pins s1 σ1 H1 _ _ Q I1 rr q1
def gTup (K:PySem.W.Frag) (n:Nat) (t:TGs):TG:=fun v σ H Q=>∃ a xs,v=.ref a∧SqT K H a xs∧xs.length=n∧t xs σ H Q
theorem a4u {es:List Expr} {k:Nat} {t:TGs} {n:Nat} (hc:X.calm=true) (h:PGs X es t)
  (hn:(assignEach es X.env).length=n:=by rfl) (hst:(assignEach es X.env).findIdx? (·.1)=none:=by rfl):PG X (.Tuple es k pos) (gTup X.K n t):=by
 intro pins s σ H v u Q I r hw
 obtain ⟨a,xs,e1,hq,hl,hw⟩:=hw
 subst e1
 cases r
 obtain ⟨its,rv,ht,hz⟩:=I.tuple hq
 refine assign_Tuple_tuple (I.ok.hd hc) ht (by simp [hn,←hl,rv.length]) hst fun h' hx=>?_
 have I1:Inv X pins σ H { s with heap:=h' }:=I.kept (t':=s.toks) fun b o e=>hx b o (Nat.ne_of_lt (Heap.lt_size e)) e
 exact h pins _ σ H xs _ Q I1 (by simpa using rv) hw
def gSub (to ti:TE) (t:TSet):TG:=fun v σ H Q=>to σ H fun o H1=>ti σ H1 fun i H2=>t o i v H2 fun H3=>Q σ H3
theorem pg_sub {o i:Expr} {to ti:TE} {t:TSet} (ho:PE X o to) (hi:PE X i ti) (hs:PSet X t)
  (ha:∀ v,assign (.Subscript o i pos) X.env v=(do
   let ov ←holding [v] (eval o X.env)
   let iv ←holding [v,ov] (eval i X.env)
   standAt pos
   holding [v,ov,iv] (setItem ov iv v)
   release [v,ov,iv] []):=by intro _;rfl):PG X (.Subscript o i pos) (gSub to ti t):=by
 intro pins s σ H v u Q I r h
 rw [ha]
 refine wpAny_bind (wpAny_holding (thn (ho pins s σ H _ I h) fun ov s1 ⟨x,H1,I1,r1,q1⟩=>?_))
 refine wpAny_bind (wpAny_holding (thn (hi pins s1 σ H1 _ I1 q1) fun iv s2 ⟨y,H2,I2,r2,q2⟩=>?_))
 refine wpAny_bind (wpAny_standAt (wpAny_bind (wpAny_holding (thn (hs pins s2 σ H2 x y v ov iv u _ I2 r1 r2 r q2) fun _ s3 ⟨H3,I3,q3⟩=>?_))))
 exact wpAny_release ⟨σ,H3,I3,q3⟩
def b2b (te:TE) (g:TG):TS:=fun D σ H=>te σ H fun x H1=>g x σ H1 D.nx
theorem ps_asg {tg e:Expr} {te:TE} {g:TG} (he:PE X e te) (hg:PG X tg g) (hs:swapsWithSole [tg] e pos.line X.env=pure false:=by rfl) (hw:swappedStores [tg] e X.env=pure none:=by rfl)
  (h1:(assignEach [tg] X.env).map (·.2)=[assign tg X.env]:=by rfl):PS X (.Assign [tg] e pos) (b2b te g):=by
 intro pins s σ H D I h
 refine wpAny_Assign_stores (thn (he pins s σ H _ I h) fun v s1 ⟨x,H1,I1,r1,q1⟩=>?_) hs hw
 rw [h1]
 exact thn (hg pins s1 σ H1 x v _ I1 r1 q1) fun _ s2 q=>q
theorem a0y {i:Nat} {x:Str} {e:Expr} {te:TE} {pos':Pos} (hN:X.N.Nodup) (hi:X.N[i]?=some x) (hx:Loc X.env.scope x) (he:PE X e te) (hs:swapsWith e (some (.Name x pos')) pos.line X.env=pure false:=by rfl) (hf:X.fn x=true∨X.env.scope.names.lookup x=some .local:=by first | exact .inl rfl | exact .inr rfl | assumption) :
  PS X (.Assign [.Name x pos'] e pos) (b2b te (a1g i)):=by
 intro pins s σ H D I h
 refine wpAny_Assign_Name (thn (he pins s σ H _ I h) fun v s1 ⟨y,H1,I1,r1,q1⟩=>?_) hs
 exact a5R I1 hN hi hx r1 (fun s2 I2=>⟨_,H1,I2,q1⟩) hf
def tPar (i j:Nat) (ta:TA):TS:=fun D σ H=>ta σ H fun vs H1=>∃ v w,vs=[v,w]∧D.nx ((σ.set i (some v)).set j (some w)) H1
def tAug (i:Nat) (te:TE) (ti:TIp):TS:=fun D σ H=>∃ x,σ[i]?=some (some x)∧te σ H fun y H1=>ti x y H1 fun z H2=>D.nx (σ.set i (some z)) H2
def tAugS (to ti te:TE) (tget:V→V→Hp→VK→Prop) (tip:TIp) (tset:TSet):TS:=fun D σ H=>to σ H fun o H1=>ti σ H1 fun i H2=>tget o i H2 fun x H3=>te σ H3 fun y H4=>tip x y H4 fun z H5=>tset o i z H5 fun H6=>D.nx σ H6
def PGet (X:Cx) (t:V→V→Hp→VK→Prop):Prop :=
 ∀ (pins:List (Addr × Obj)) (s:Shared) (σ:St) (H:Hp) (o i:V) (ov iv:Value) (Q:VK),Inv X pins σ H s→a0O o ov→a0O i iv→t o i H Q →
  wpAny (model X.prog X.w) X.A (getItem ov iv) (EP X pins σ Q) X.xe s
def ipI (f:Int→Int→Int):TIp:=fun x y H Q=>∃ i j,x=.int i∧y=.int j∧Q (.int (f i j)) H
def tWhile (c:TT) (tb:TS):TS:=fun D σ H=>∃ W:Nat→St→Hp→Prop,(∃ m,W m σ H)∧∀ m σ H,W m σ H →
 c σ H fun b H1=>if b=true then ∃ N:St→Hp→Prop,(∀ σ' H',N σ' H'→∃ m',m' < m∧W m' σ' H')∧tb { D with nx:=N,ct:=N,bk:=D.nx } σ H1 else D.nx σ H1
theorem a5T {c:Expr} {body:List Stmt} {tc:TT} {tb:TS} (hp:PassesOwn (model X.prog X.w) X.A X.env X.xe) (hc:PT X c tc) (hb:PSs X body tb):PS X (.While c body [] pos) (tWhile tc tb):=by
 intro pins s σ H D I h
 obtain ⟨W,⟨m0,w0⟩,turn⟩:=h
 refine wpAny_While (codeAny_whileLoop (fun n s'=>∃ σ' H',Inv X pins σ' H' s'∧W n σ' H') ?_ m0 ⟨σ,H,I,w0⟩)
 rintro n s1 ⟨σ1,H1,I1,w1⟩
 refine wpAny_passesOwn hp (thn (hc pins s1 σ1 H1 _ I1 (turn n σ1 H1 w1)) fun b s2 ⟨H2,I2,q2⟩=>?_)
 cases b with
 | true =>
  obtain ⟨N,hN,q2⟩:=q2
  rw [if_pos rfl]
  refine wpAny_passesOwn hp (thn (hb pins s2 σ1 H2 _ I2 q2) fun f s3 q3=>?_)
  cases f with
  | next =>
   obtain ⟨σ3,H3,I3,n3⟩:=q3
   obtain ⟨m',hm,w3⟩:=hN σ3 H3 n3
   exact ⟨m',hm,σ3,H3,I3,w3⟩
  | cont =>
   obtain ⟨σ3,H3,I3,n3⟩:=q3
   obtain ⟨m',hm,w3⟩:=hN σ3 H3 n3
   exact ⟨m',hm,σ3,H3,I3,w3⟩
  | brk=>exact q3
  | ret v=>exact q3
 | false =>
  rw [if_neg Bool.false_ne_true]
  exact wpAny_execs_nil ⟨σ1,H2,I2,q2⟩
end
structure It where
 go:Nat→Hp→Prop
 yld:Nat→Hp→V→Hp→Prop
 stop:Nat→Hp→Prop
def a6Y (X:Cx) (pins:List (Addr × Obj)) (H:Hp) (b:Addr):Prop :=
 H b=none∧b≠X.env.locals∧b∉X.fs∧(b∈X.ex∨X.s₀.heap.objs.size≤b)∧(∀ x c,X.env.cells.lookup x=some c→c≠b)∧∀ p∈X.pn++pins,p.1≠b
theorem Inv.fpOk {X:Cx} {pins:List (Addr × Obj)} {σ:St} {H H':Hp} {s:Shared} {b:Addr} (I:Inv X pins σ H s) (hb:s.heap.objs.size≤b) (hn:H' b=none):a6Y X pins H' b:=by
 refine ⟨hn,Nat.ne_of_gt (Nat.lt_of_lt_of_le I.lt hb),I.nofs hb,.inr (Nat.le_trans I.sz hb),fun x c e z=>?_,fun p hp z=>?_⟩
 ·obtain ⟨v,q⟩:=I.cell x c e
  exact absurd (Nat.lt_of_lt_of_le q.lt (by rw [z];exact hb)) (Nat.lt_irrefl _)
 ·exact absurd (Nat.lt_of_lt_of_le (Heap.lt_size (I.pin p hp).1) (by rw [z];exact hb)) (Nat.lt_irrefl _)
structure b3p (P:Program) (w:World) (K:PySem.W.Frag) (tg:Expr) (J:It) (fp:List Addr) (it:Addr) (tn:Nat→Heap→Prop):Prop where
 mem:it∈fp
 obj:∀ i h,tn i h→∀ b∈fp,∃ o,h.get? b=some o∧∀ v,o.data≠.cell v
 keep:∀ i h h',tn i h→(∀ b∈fp,∀ o,h.get? b=some o→h'.get? b=some o)→tn i h'
 item:∀ (X:Cx),X.prog=P→X.w=w→X.K=K→X.calm=true→∀ (i:Nat) (pins:List (Addr × Obj)) (s:Shared) (σ:St) (H:Hp) (E:Value→Shared→Prop),Inv X pins σ H s→(∀ b∈fp,a6Y X pins H b)→tn i s.heap→J.go i H →
  wpAny (model P w) X.A (pyNext (.ref it)) (fun r s1=>∃ u,r=some u ∧
   wpAny (model P w) X.A (letOwnedTupleGo tg (.ref it) u) (fun _ s2=>∃ x H',Inv X pins σ H' s2∧a0O x u∧J.yld i H x H'∧tn (i+1) s2.heap∧∀ b∈fp,H' b=none) E s1) E s
 done:∀ (X:Cx),X.prog=P→X.w=w→X.K=K→X.calm=true→∀ (i:Nat) (pins:List (Addr × Obj)) (s:Shared) (σ:St) (H:Hp) (E:Value→Shared→Prop),Inv X pins σ H s→(∀ b∈fp,a6Y X pins H b)→tn i s.heap→J.stop i H →
  wpAny (model P w) X.A (pyNext (.ref it)) (fun r s1=>r=none∧Inv X pins σ H s1) E s
 self:∀ (A:Around) (i:Nat) (s:Shared) (Q:Value→Shared→Prop) (E:Value→Shared→Prop),tn i s.heap→Q (.ref it) s→wpAny (model P w) A (pyIter (.ref it)) Q E s
abbrev TI:=St→Hp→(It→Hp→Prop)→Prop
def PIE (X:Cx) (pins:List (Addr × Obj)) (σ:St) (tg:Expr) (R:It→Hp→Prop) (itv:Value) (s2:Shared):Prop :=
 ∃ (it:Addr) (fp:List Addr) (tn:Nat→Heap→Prop) (J:It) (H':Hp),itv=.ref it∧Inv X pins σ H' s2∧b3p X.prog X.w X.K tg J fp it tn∧tn 0 s2.heap∧(∀ b∈fp,a6Y X pins H' b)∧R J H'
def PI (X:Cx) (tg iter:Expr) (wi:TI):Prop :=
 ∀ (pins:List (Addr × Obj)) (s:Shared) (σ:St) (H:Hp) (R:It→Hp→Prop),Inv X pins σ H s→wi σ H R →
  wpAny (model X.prog X.w) X.A (eval iter X.env) (fun v s1=>wpAny (model X.prog X.w) X.A (pyIter v) (PIE X pins σ tg R) X.xe s1) X.xe s
theorem b2c {M:Model} {A:Around} {E:Value→Shared→Prop} {s:Shared} {tg:Expr} {it:Addr} {u:Value} {o:Obj} {n:String} {vs:Array Value} {Q:Unit→Shared→Prop} (ho:s.heap.get? it=some o) (hc:o.cls=.type n) (hd:o.data=.fields vs)
  (hn:["enumerate","zip","dict_itemiterator","dict_reverseitemiterator","odict_iterator","itertools.zip_longest","itertools.pairwise"].contains n=false) (hQ:Q () s):wpAny M A (letOwnedTupleGo tg (.ref it) u) Q E s:=by
 unfold letOwnedTupleGo
 cases tg <;> first
  | exact wpAny_pure hQ
  | (cases u <;> first
    | exact wpAny_pure hQ
    | (refine wpAny_bind (wpAny_load ho ?_)
       rw [hc,hd]
       show wpAny M A (if (["enumerate","zip","dict_itemiterator","dict_reverseitemiterator","odict_iterator","itertools.zip_longest","itertools.pairwise"].contains n && vs[0]? == some (rawInt _))=true then _ else _) Q E s
       rw [if_neg (by intro h;rw [hn,Bool.false_and] at h;cases h)]
       exact wpAny_pure hQ))
def Itl (K:PySem.W.Frag) (a:Addr):It :=
 ⟨fun i H=>∃ xs x,SqL K H a xs∧xs[i]?=some x,fun i H x H'=>H'=H∧∀ xs,SqL K H a xs→xs[i]?=some x,fun i H=>∃ xs,SqL K H a xs∧xs.length≤i⟩
def Itt (K:PySem.W.Frag) (a:Addr):It :=
 ⟨fun i H=>∃ xs x,SqT K H a xs∧xs[i]?=some x,fun i H x H'=>H'=H∧∀ xs,SqT K H a xs→xs[i]?=some x,fun i H=>∃ xs,SqT K H a xs∧xs.length≤i⟩
def Itr (lo:Int) (n:Nat):It:=⟨fun i _=>i < n,fun i H x H'=>H'=H∧x=.int (lo+i),fun i _=>n≤i⟩
theorem a4v {P:Program} {w:World} {K:PySem.W.Frag} {tg:Expr} (a it:Addr):b3p P w K tg (Itl K a) [it] it (fun i h=>h.IsListIter it a i) where
 mem:=by simp
 obj:=fun i h st b hb=>by
  have e:b=it:=by simpa using hb
  subst e
  obtain ⟨o,e,c,d⟩:=st
  exact ⟨o,e,fun v z=>by rw [d] at z;cases z⟩
 keep:=fun i h h' st k=>st.at fun o e=>k it (by simp) o e
 item:=by
  intro X hP hw hK hc i pins s σ H E I hf st hg
  subst hP hw hK
  obtain ⟨xs,x,hq,hx⟩:=hg
  obtain ⟨its,rv,p,hz⟩:=I.list hq
  obtain ⟨u,hu,ru⟩:=rv.get hx
  obtain ⟨f0,f1,f2,f3,f4,f5⟩:=hf it (by simp)
  refine wpAny_pyNext_list_item st p.isList (x:=u) (by simpa using hu) fun h' st' sb=>?_
  have I1:Inv X pins σ H { s with heap:=h' }:=I.turned (t':=s.toks) (fun b o hb e=>(sb.2 b hb).trans e) f0 f1 f3 f4 f5
  obtain ⟨o,e,c,d⟩:=id st'
  exact ⟨u,rfl,b2c (s:={ s with heap:=h' }) e c d (by decide) ⟨x,H,I1,ru,⟨rfl,fun ys hy=>by rw [I.list_inj hy hq];exact hx⟩,st',fun b hb=>(hf b hb).1⟩⟩
 done:=by
  intro X hP hw hK hc i pins s σ H E I hf st hg
  subst hP hw hK
  obtain ⟨xs,hq,hx⟩:=hg
  obtain ⟨its,rv,p,hz⟩:=I.list hq
  obtain ⟨f0,f1,f2,f3,f4,f5⟩:=hf it (by simp)
  have hl:=rv.length
  exact wpAny_pyNext_list_end (I.ok.hd hc) st p.isList (by simp;omega) fun h' eb=>⟨rfl,I.turned (t':=s.toks) (fun b o hb e=>eb b o hb e) f0 f1 f3 f4 f5⟩
 self:=fun _ _ _ _ _ st h=>wpAny_pyIter_listiter st h
theorem a3p {P:Program} {w:World} {K:PySem.W.Frag} {tg:Expr} (a it:Addr):b3p P w K tg (Itt K a) [it] it (fun i h=>h.IsTupleIter it a i) where
 mem:=by simp
 obj:=fun i h st b hb=>by
  have e:b=it:=by simpa using hb
  subst e
  obtain ⟨o,e,c,d⟩:=st
  exact ⟨o,e,fun v z=>by rw [d] at z;cases z⟩
 keep:=fun i h h' st k=>st.at fun o e=>k it (by simp) o e
 item:=by
  intro X hP hw hK hc i pins s σ H E I hf st hg
  subst hP hw hK
  obtain ⟨xs,x,hq,hx⟩:=hg
  obtain ⟨its,rv,p,hz⟩:=I.tuple hq
  obtain ⟨u,hu,ru⟩:=rv.get hx
  obtain ⟨f0,f1,f2,f3,f4,f5⟩:=hf it (by simp)
  refine wpAny_pyNext_tuple_item st (show s.heap.IsTuple a its.toArray from p) (x:=u) (by simpa using hu) fun h' st' sb=>?_
  have I1:Inv X pins σ H { s with heap:=h' }:=I.turned (t':=s.toks) (fun b o hb e=>(sb.2 b hb).trans e) f0 f1 f3 f4 f5
  obtain ⟨o,e,c,d⟩:=id st'
  exact ⟨u,rfl,b2c (s:={ s with heap:=h' }) e c d (by decide) ⟨x,H,I1,ru,⟨rfl,fun ys hy=>by rw [I.tuple_inj hy hq];exact hx⟩,st',fun b hb=>(hf b hb).1⟩⟩
 done:=by
  intro X hP hw hK hc i pins s σ H E I hf st hg
  subst hP hw hK
  obtain ⟨xs,hq,hx⟩:=hg
  obtain ⟨its,rv,p,hz⟩:=I.tuple hq
  obtain ⟨f0,f1,f2,f3,f4,f5⟩:=hf it (by simp)
  have hl:=rv.length
  exact wpAny_pyNext_tuple_end (I.ok.hd hc) st (show s.heap.IsTuple a its.toArray from p) (by simp;omega) fun h' eb=>⟨rfl,I.turned (t':=s.toks) (fun b o hb e=>eb b o hb e) f0 f1 f3 f4 f5⟩
 self:=fun _ _ _ _ _ st h=>wpAny_pyIter_tupleiter st h
theorem a6Z {P:Program} {w:World} {K:PySem.W.Frag} {tg:Expr} (it:Addr) (lo:Int) (n:Nat):b3p P w K tg (Itr lo n) [it] it (fun i h=>IsRangeIter h it (lo+(i:Nat) * 1) ((n:Int) - (i:Nat)) 1) where
 mem:=by simp
 obj:=fun i h st b hb=>by
  have e:b=it:=by simpa using hb
  subst e
  exact ⟨_,st,fun v z=>by
   have z':Data.fields _=Data.cell v:=z
   cases z'⟩
 keep:=fun i h h' st k=>k it (by simp) _ st
 item:=by
  intro X hP hw hK hc i pins s σ H E I hf st hg
  subst hP hw hK
  obtain ⟨f0,f1,f2,f3,f4,f5⟩:=hf it (by simp)
  have W:=Walks.range (prog:=X.prog) (w:=X.w) (I.ok.hd hc) it lo 1 n
  refine W.item i s _ _ hg st fun v h' tk hv st' kk=>?_
  obtain ⟨t,rfl⟩:=hv
  have I1:Inv X pins σ H { s with heap:=h',toks:=tk }:=I.turned (fun b o hb e=>kk b o (by simpa using hb) e) f0 f1 f3 f4 f5
  refine ⟨_,rfl,b2c (s:={ s with heap:=h',toks:=tk }) (n:="range_iterator") st' rfl rfl (by decide) ⟨.int (lo+i),H,I1,⟨t,?_⟩,⟨rfl,rfl⟩,st',fun b hb=>(hf b hb).1⟩⟩
  rw [Int.mul_one]
 done:=by
  intro X hP hw hK hc i pins s σ H E I hf st hg
  subst hP hw hK
  obtain ⟨f0,f1,f2,f3,f4,f5⟩:=hf it (by simp)
  exact wpAny_pyNext_range_end (I.ok.hd hc) st (by have:n≤i:=hg;omega) fun h' eb=>⟨rfl,I.turned (t':=s.toks) (fun b o hb e=>eb b o hb e) f0 f1 f3 f4 f5⟩
 self:=fun _ _ _ _ _ st h=>wpAny_pyIter_rangeiter st h
section
variable {X:Cx} {tg:Expr}
def iList (K:PySem.W.Frag) (tl:TE):TI:=fun σ H R=>tl σ H fun x H1=>∃ a,x=.ref a∧(∃ xs,SqL K H1 a xs)∧R (Itl K a) H1
def iTup (K:PySem.W.Frag) (tl:TE):TI:=fun σ H R=>tl σ H fun x H1=>∃ a,x=.ref a∧(∃ xs,SqT K H1 a xs)∧R (Itt K a) H1
theorem a1J {l:Expr} {tl:TE} (hl:PE X l tl):PI X tg l (iList X.K tl):=by
 intro pins s σ H R I h
 refine thn (hl pins s σ H _ I h) fun v s1 ⟨x,H1,I1,r1,q1⟩=>?_
 obtain ⟨a,e,⟨xs,hq⟩,q⟩:=q1
 subst e
 cases r1
 obtain ⟨its,rv,p,hz⟩:=I1.list hq
 refine wpAny_pyIter_list p.isList ?_
 refine ⟨s1.heap.objs.size,[s1.heap.objs.size],_,_,H1,rfl,I1.kept (t':=s1.toks) fun b o e=>Heap.get?_push_of_some _ e,a4v a _,⟨_,Heap.get?_push_size _ rfl,rfl,rfl⟩,fun b hb=>?_,q⟩
 have e:b=s1.heap.objs.size:=by simpa using hb
 subst e
 exact I1.fpOk (Nat.le_refl _) (I1.hok.fresh (Nat.le_refl _))
theorem b1u {l:Expr} {tl:TE} (hl:PE X l tl):PI X tg l (iTup X.K tl):=by
 intro pins s σ H R I h
 refine thn (hl pins s σ H _ I h) fun v s1 ⟨x,H1,I1,r1,q1⟩=>?_
 obtain ⟨a,e,⟨xs,hq⟩,q⟩:=q1
 subst e
 cases r1
 obtain ⟨its,rv,p,hz⟩:=I1.tuple hq
 refine wpAny_pyIter_tuple (show s1.heap.IsTuple a its.toArray from p) ?_
 refine ⟨s1.heap.objs.size,[s1.heap.objs.size],_,_,H1,rfl,I1.kept (t':=s1.toks) fun b o e=>Heap.get?_push_of_some _ e,a3p a _,⟨_,Heap.get?_push_size _ rfl,rfl,rfl⟩,fun b hb=>?_,q⟩
 have e:b=s1.heap.objs.size:=by simpa using hb
 subst e
 exact I1.fpOk (Nat.le_refl _) (I1.hok.fresh (Nat.le_refl _))
theorem a5U {pins:List (Addr × Obj)} {σ:St} {H:Hp} {s:Shared} {R:It→Hp→Prop} {E:Value→Shared→Prop} {lo hi:Int} {t u v:Tok} {tk:Nat} (I:Inv X pins σ H s) (h1:-(2 ^ 62)≤lo) (h2:lo < 2 ^ 62) (h3:-(2 ^ 62)≤hi) (h4:hi < 2 ^ 62)
  (q:R (Itr lo (hi - lo).toNat) H):wpAny (model X.prog X.w) X.A (pyIter (.ref s.heap.objs.size)) (PIE X pins σ tg R) E { s with heap:=s.heap.push { cls:=.type "range",data:=.fields #[.int lo t,.int hi u,.int 1 v] },toks:=tk }:=by
 refine wpAny_pyIter_range (IsRange.new ..) (small_one h1 h2 h3 h4) ?_
 have I1:Inv X pins σ H { s with heap:=s.heap.push { cls:=.type "range",data:=.fields #[.int lo t,.int hi u,.int 1 v] },toks:=tk }:=I.kept fun b o e=>Heap.get?_push_of_some _ e
 refine ⟨(s.heap.push { cls:=.type "range",data:=.fields #[.int lo t,.int hi u,.int 1 v] }).objs.size,[(s.heap.push { cls:=.type "range",data:=.fields #[.int lo t,.int hi u,.int 1 v] }).objs.size],_,_,H,rfl,
  I1.kept (t':=tk) fun b o e=>Heap.get?_push_of_some _ e,a6Z _ lo (hi - lo).toNat,?_,fun b hb=>?_,q⟩
 ·have e1:lo+((0:Nat):Int) * 1=lo:=by simp
  have e2:(((hi - lo).toNat:Nat):Int) - ((0:Nat):Int)=Builtin.Range.rangeSize lo hi 1:=by rw [rangeSize_one];split <;> omega
  show IsRangeIter _ _ (lo+((0:Nat):Int) * 1) ((((hi - lo).toNat:Nat):Int) - ((0:Nat):Int)) 1
  rw [e1,e2]
  exact Heap.get?_push_size _ rfl
 ·have e:b=(s.heap.push { cls:=.type "range",data:=.fields #[.int lo t,.int hi u,.int 1 v] }).objs.size:=by simpa using hb
  subst e
  exact I1.fpOk (Nat.le_refl _) (I1.hok.fresh (Nat.le_refl _))
def iRng1 (ta:TA):TI:=fun σ H R=>ta σ H fun vs H1=>∃ j:Int,vs=[.int j]∧-(2 ^ 62)≤j∧j < 2 ^ 62∧R (Itr 0 j.toNat) H1
def iRng2 (ta:TA):TI:=fun σ H R=>ta σ H fun vs H1=>∃ i j:Int,vs=[.int i,.int j]∧(-(2 ^ 62)≤i∧i < 2 ^ 62∧-(2 ^ 62)≤j∧j < 2 ^ 62)∧R (Itr i (j - i).toNat) H1
theorem a1S {a:Expr} {ta:TA} {p pos:Pos} (hg:Gl X "range") (hm:X.mg "range"=none) (ha:PA X [a] ta) (hs:starEach [a] X.env=[(false,eval a X.env)]:=by rfl):PI X tg (.Call (.Name "range" p) [a] [] pos) (iRng1 ta):=by
 intro pins s σ H R I h
 refine Call_ (a1t I hg hm boot_range (PyProof.Rows.callWith_type1 (thn (ha pos pins s σ H _ I h) fun us s1 ⟨vs,H1,I1,r1,q1⟩=>?_) hs rfl))
 obtain ⟨j,e,q1,q2,q⟩:=q1
 subst e
 cases r1 with
 | cons r rr =>
  cases rr
  obtain ⟨t,rfl⟩:=r
  exact call_range_1 (a5U I1 (by omega) (by omega) q1 q2 (by simpa using q))
theorem a8d {a b:Expr} {ta:TA} {p pos:Pos} (hg:Gl X "range") (hm:X.mg "range"=none) (ha:PA X [a,b] ta) (hs:starEach [a,b] X.env=[(false,eval a X.env),(false,eval b X.env)]:=by rfl) (hs2:starEach [b] X.env=[(false,eval b X.env)]:=by rfl) :
  PI X tg (.Call (.Name "range" p) [a,b] [] pos) (iRng2 ta):=by
 intro pins s σ H R I h
 refine Call_ (a1t I hg hm boot_range (PyProof.Rows.callWith_type1 (thn (ha pos pins s σ H _ I h) fun us s1 ⟨vs,H1,I1,r1,q1⟩=>?_) (by rw [hs,hs2]) (by rw [hs2];rfl)))
 obtain ⟨i,j,e,⟨q1,q2,q3,q4⟩,q⟩:=q1
 subst e
 cases r1 with
 | cons r rr =>
  cases rr with
  | cons r' rr =>
   cases rr
   obtain ⟨t,rfl⟩:=r
   obtain ⟨t',rfl⟩:=r'
   exact call_range_2 (a5U I1 q1 q2 q3 q4 q)
def tFor (wi:TI) (g:TG) (tb:TS):TS:=fun D σ H=>wi σ H fun J H1=>∃ W:Nat→Nat→St→Hp→Prop,(∃ m,W 0 m σ H1)∧∀ i m σ H,W i m σ H →
 (J.stop i H∧D.nx σ H)∨(J.go i H∧∃ N:St→Hp→Prop,(∀ σ' H',N σ' H'→∃ m',m' < m∧W (i+1) m' σ' H')∧∀ x H',J.yld i H x H'→g x σ H' fun σ2 H2=>tb { D with nx:=N,ct:=N,bk:=D.nx } σ2 H2)
def a4w (fp:List Addr) (h:Heap):List (Addr × Obj):=fp.filterMap fun b=>(h.get? b).map fun o=>(b,o)
theorem a2f {fp:List Addr} {h:Heap} {b:Addr} {o:Obj} (hb:b∈fp) (e:h.get? b=some o):(b,o)∈a4w fp h:=List.mem_filterMap.mpr ⟨b,hb,by rw [e];rfl⟩
theorem a8e {fp:List Addr} {h:Heap} {p:Addr × Obj} (hp:p∈a4w fp h):p.1∈fp∧h.get? p.1=some p.2:=by
 obtain ⟨b,hb,e⟩:=List.mem_filterMap.mp hp
 cases q:h.get? b with
 | none=>rw [q] at e;cases e
 | some o =>
  rw [q] at e
  have e':(b,o)=p:=Option.some.inj e
  subst e'
  exact ⟨hb,q⟩
theorem Inv.pinned {pins:List (Addr × Obj)} {σ:St} {H:Hp} {s:Shared} {fp:List Addr} (I:Inv X pins σ H s) (hf:∀ b∈fp,a6Y X pins H b) (ho:∀ b∈fp,∃ o,s.heap.get? b=some o∧∀ v,o.data≠.cell v):Inv X (pins++a4w fp s.heap) σ H s :=
 I.pins_of fun p hp=>(List.mem_append.mp hp).elim (fun z=>I.pin p (List.mem_append_right _ z)) fun z=>by
  obtain ⟨hb,e⟩:=a8e z
  obtain ⟨f0,f1,f2,_⟩:=hf p.1 hb
  obtain ⟨o,e',d⟩:=ho p.1 hb
  rw [e] at e';cases e'
  exact ⟨e,f0,f1,f2,d⟩
theorem Inv.unpinned {pins pl:List (Addr × Obj)} {σ:St} {H:Hp} {s:Shared} (I:Inv X (pins++pl) σ H s):Inv X pins σ H s:=I.pins_of fun p hp=>I.pin p (List.mem_append_right _ (List.mem_append_left _ hp))
theorem a1T {iter:Expr} {body:List Stmt} {wi:TI} {g:TG} {tb:TS} {pos:Pos} (hp:PassesOwn (model X.prog X.w) X.A X.env X.xe) (hc:X.calm=true) (hi:PI X tg iter wi) (hg:PG X tg g) (hb:PSs X body tb)
  (hs:∀ x,foldedSetIterable iter X.env x=pure x:=by intro _;rfl):PS X (.For tg iter body [] pos) (tFor wi g tb):=by
 intro pins s σ H D I h
 refine wpAny_For (thn (hi pins s σ H _ I h) fun v s1 h1=>thn h1 fun itv s2 h2=>?_) hs
 obtain ⟨it,fp,tn,J,H2,e,I2,T,st2,f2,W,⟨m0,w0⟩,turn⟩:=h2
 subst e
 have stat:∀ {H':Hp},(∀ b∈fp,H' b=none)→∀ b∈fp,a6Y X pins H' b:=fun hn b hb=>⟨hn b hb,(f2 b hb).2⟩
 refine codeAny_forLoop_any (fun n s'=>∃ i σ' H',Inv X pins σ' H' s'∧tn i s'.heap∧(∀ b∈fp,H' b=none)∧W i n σ' H') ?_ m0 ⟨0,σ,H2,I2,st2,fun b hb=>(f2 b hb).1,w0⟩
 rintro n s3 ⟨i,σ3,H3,I3,st3,fr3,w3⟩
 rcases turn i n σ3 H3 w3 with ⟨stop,qn⟩ | ⟨go,N,hN,step⟩
 ·refine wpAny_passesOwn hp (thn (T.done X rfl rfl rfl hc i pins s3 σ3 H3 X.xe I3 (stat fr3) st3 stop) fun r s4 ⟨hr,I4⟩=>?_)
  subst hr
  exact wpAny_execs_nil ⟨σ3,H3,I4,qn⟩
 ·refine wpAny_passesOwn hp (thn (T.item X rfl rfl rfl hc i pins s3 σ3 H3 X.xe I3 (stat fr3) st3 go) fun r s4 ⟨u,hr,h4⟩=>?_)
  subst hr
  refine wpAny_passesOwn hp (thn h4 fun _ s5 ⟨x,H5,I5,r5,y5,st5,fr5⟩=>?_)
  have I5':=I5.pinned (stat fr5) (T.obj _ _ st5)
  refine wpAny_passesOwn hp (thn (hg _ s5 σ3 H5 x u _ I5' r5 (step x H5 y5)) fun _ s6 ⟨σ6,H6,I6,q6⟩=>?_)
  refine wpAny_passesOwn hp (thn (hb _ s6 σ6 H6 _ I6 q6) fun f s7 q7=>?_)
  have again:∀ {σ7:St} {H7:Hp},Inv X (pins++a4w fp s5.heap) σ7 H7 s7→N σ7 H7→∃ m,m < n∧∃ i σ' H',Inv X pins σ' H' s7∧tn i s7.heap∧(∀ b∈fp,H' b=none)∧W i m σ' H':=fun {σ7 H7} I7 n7=>by
   obtain ⟨m',hm,w7⟩:=hN σ7 H7 n7
   refine ⟨m',hm,i+1,σ7,H7,I7.unpinned,T.keep _ _ _ st5 fun b hb o e=>(I7.pin (b,o) (List.mem_append_right _ (List.mem_append_right _ (a2f hb e)))).1,fun b hb=>?_,w7⟩
   obtain ⟨o,e,d⟩:=T.obj _ _ st5 b hb
   exact (I7.pin (b,o) (List.mem_append_right _ (List.mem_append_right _ (a2f hb e)))).2.1
  cases f with
  | next=>obtain ⟨σ7,H7,I7,n7⟩:=q7;exact again I7 n7
  | cont=>obtain ⟨σ7,H7,I7,n7⟩:=q7;exact again I7 n7
  | brk=>obtain ⟨σ7,H7,I7,q7⟩:=q7;exact ⟨σ7,H7,I7.unpinned,q7⟩
  | ret v=>obtain ⟨x7,σ7,H7,I7,r7,q7⟩:=q7;exact ⟨x7,σ7,H7,I7.unpinned,r7,q7⟩
end
theorem a2x {K:PySem.W.Frag} {a:Addr} {xs:List V} {g:TG} {tb:TS} {D:b0b} {σ:St} {H:Hp} (Pv:Nat→St→Hp→Prop) (h0:Pv 0 σ H) (hl:∀ i σ H,i≤xs.length→Pv i σ H→SqL K H a xs)
  (hs:∀ i x σ H,xs[i]?=some x→Pv i σ H→g x σ H fun σ2 H2=>tb { D with nx:=Pv (i+1),ct:=Pv (i+1),bk:=D.nx } σ2 H2) (hd:∀ σ H,Pv xs.length σ H→D.nx σ H) :
  ∃ W:Nat→Nat→St→Hp→Prop,(∃ m,W 0 m σ H)∧∀ i m σ H,W i m σ H →
   ((Itl K a).stop i H∧D.nx σ H)∨((Itl K a).go i H∧∃ N:St→Hp→Prop,(∀ σ' H',N σ' H'→∃ m',m' < m∧W (i+1) m' σ' H')∧∀ x H',(Itl K a).yld i H x H'→g x σ H' fun σ2 H2=>tb { D with nx:=N,ct:=N,bk:=D.nx } σ2 H2):=by
 refine ⟨fun i m σ H=>m=xs.length - i∧i≤xs.length∧Pv i σ H,⟨xs.length,by simp,Nat.zero_le _,h0⟩,?_⟩
 rintro i m σ H ⟨rfl,hi,p⟩
 have q:=hl i σ H hi p
 by_cases hlt:i < xs.length
 ·refine .inr ⟨⟨xs,xs[i],q,by simp [hlt]⟩,Pv (i+1),fun σ' H' p'=>⟨xs.length - (i+1),by omega,rfl,hlt,p'⟩,fun x H' y=>?_⟩
  obtain ⟨e,y⟩:=y
  subst e
  exact hs i x σ _ (y xs q) p
 ·have e:i=xs.length:=by omega
  subst e
  exact .inl ⟨⟨xs,q,Nat.le_refl _⟩,hd σ H p⟩
theorem b2d {K:PySem.W.Frag} {a:Addr} {xs:List V} {g:TG} {tb:TS} {D:b0b} {σ:St} {H:Hp} (Pv:Nat→St→Hp→Prop) (h0:Pv 0 σ H) (hl:∀ i σ H,i≤xs.length→Pv i σ H→SqT K H a xs)
  (hs:∀ i x σ H,xs[i]?=some x→Pv i σ H→g x σ H fun σ2 H2=>tb { D with nx:=Pv (i+1),ct:=Pv (i+1),bk:=D.nx } σ2 H2) (hd:∀ σ H,Pv xs.length σ H→D.nx σ H) :
  ∃ W:Nat→Nat→St→Hp→Prop,(∃ m,W 0 m σ H)∧∀ i m σ H,W i m σ H →
   ((Itt K a).stop i H∧D.nx σ H)∨((Itt K a).go i H∧∃ N:St→Hp→Prop,(∀ σ' H',N σ' H'→∃ m',m' < m∧W (i+1) m' σ' H')∧∀ x H',(Itt K a).yld i H x H'→g x σ H' fun σ2 H2=>tb { D with nx:=N,ct:=N,bk:=D.nx } σ2 H2):=by
 refine ⟨fun i m σ H=>m=xs.length - i∧i≤xs.length∧Pv i σ H,⟨xs.length,by simp,Nat.zero_le _,h0⟩,?_⟩
 rintro i m σ H ⟨rfl,hi,p⟩
 have q:=hl i σ H hi p
 by_cases hlt:i < xs.length
 ·refine .inr ⟨⟨xs,xs[i],q,by simp [hlt]⟩,Pv (i+1),fun σ' H' p'=>⟨xs.length - (i+1),by omega,rfl,hlt,p'⟩,fun x H' y=>?_⟩
  obtain ⟨e,y⟩:=y
  subst e
  exact hs i x σ _ (y xs q) p
 ·have e:i=xs.length:=by omega
  subst e
  exact .inl ⟨⟨xs,q,Nat.le_refl _⟩,hd σ H p⟩
theorem a2G {lo:Int} {n:Nat} {g:TG} {tb:TS} {D:b0b} {σ:St} {H:Hp} (Pv:Nat→St→Hp→Prop) (h0:Pv 0 σ H)
  (hs:∀ i σ H,i < n→Pv i σ H→g (.int (lo+i)) σ H fun σ2 H2=>tb { D with nx:=Pv (i+1),ct:=Pv (i+1),bk:=D.nx } σ2 H2) (hd:∀ σ H,Pv n σ H→D.nx σ H) :
  ∃ W:Nat→Nat→St→Hp→Prop,(∃ m,W 0 m σ H)∧∀ i m σ H,W i m σ H →
   ((Itr lo n).stop i H∧D.nx σ H)∨((Itr lo n).go i H∧∃ N:St→Hp→Prop,(∀ σ' H',N σ' H'→∃ m',m' < m∧W (i+1) m' σ' H')∧∀ x H',(Itr lo n).yld i H x H'→g x σ H' fun σ2 H2=>tb { D with nx:=N,ct:=N,bk:=D.nx } σ2 H2):=by
 refine ⟨fun i m σ H=>m=n - i∧i≤n∧Pv i σ H,⟨n,by simp,Nat.zero_le _,h0⟩,?_⟩
 rintro i m σ H ⟨rfl,hi,p⟩
 by_cases hlt:i < n
 ·refine .inr ⟨hlt,Pv (i+1),fun σ' H' p'=>⟨n - (i+1),by omega,rfl,hlt,p'⟩,fun x H' y=>?_⟩
  obtain ⟨e,y⟩:=y
  subst e y
  exact hs i σ _ hlt p
 ·have e:i=n:=by omega
  subst e
  exact .inl ⟨Nat.le_refl _,hd σ H p⟩
abbrev R2:=V→V→Hp→VK→Prop
def OpR (X:Cx) (f:Value→Value→Sem Value) (r:R2):Prop :=
 ∀ (pins:List (Addr × Obj)) (s:Shared) (σ:St) (H:Hp) (x y:V) (v u:Value) (Q:VK),Inv X pins σ H s→a0O x v→a0O y u→r x y H Q →
  wpAny (model X.prog X.w) X.A (f v u) (EP X pins σ Q) X.xe s
def UnR (X:Cx) (f:Value→Sem Value) (r:V→Hp→VK→Prop):Prop :=
 ∀ (pins:List (Addr × Obj)) (s:Shared) (σ:St) (H:Hp) (x:V) (v:Value) (Q:VK),Inv X pins σ H s→a0O x v→r x H Q →
  wpAny (model X.prog X.w) X.A (f v) (EP X pins σ Q) X.xe s
def a1K (X:Cx) (f:Value) (r:List V→Hp→VK→Prop):Prop :=
 ∀ (pins:List (Addr × Obj)) (s:Shared) (σ:St) (H:Hp) (xs:List V) (us:List Value) (Q:VK),Inv X pins σ H s→a0D xs us→r xs H Q →
  wpAny (model X.prog X.w) X.A (call f us) (EP X pins σ Q) X.xe s
def TruR (X:Cx) (r:V→Hp→(Bool→Hp→Prop)→Prop):Prop :=
 ∀ (pins:List (Addr × Obj)) (s:Shared) (σ:St) (H:Hp) (x:V) (v:Value) (Q:Bool→Hp→Prop),Inv X pins σ H s→a0O x v→r x H Q →
  wpAny (model X.prog X.w) X.A (truthy v) (TP X pins σ Q) X.xe s
def tOp (r:R2) (ta tb:TE):TE:=fun σ H Q=>ta σ H fun x H1=>tb σ H1 fun y H2=>r x y H2 Q
def tUn (r:V→Hp→VK→Prop) (ta:TE):TE:=fun σ H Q=>ta σ H fun x H1=>r x H1 Q
def rI (C:Int→Int→Prop) (g:Int→Int→V):R2:=fun x y H Q=>∃ i j,x=.int i∧y=.int j∧C i j∧Q (g i j) H
def rI0 (g:Int→Int→V):R2:=fun x y H Q=>∃ i j,x=.int i∧y=.int j∧Q (g i j) H
def rU (g:Int→V):V→Hp→VK→Prop:=fun x H Q=>∃ i,x=.int i∧Q (g i) H
section
variable {X:Cx} {a b c:Expr} {ta tb tc:TE} {pos:Pos}
theorem binT (ha:PE X a ta) (hb:PE X b tb) {pins:List (Addr × Obj)} {s:Shared} {σ:St} {H:Hp} {R:V→V→Hp→Prop} (I:Inv X pins σ H s)
  (h:ta σ H fun x H1=>tb σ H1 fun y H2=>R x y H2) {Q:Value→Shared→Prop} {f:Value→Value→Sem Value}
  (hf:∀ v u s2 x y H2,Inv X pins σ H2 s2→a0O x v→a0O y u→R x y H2→wpAny (model X.prog X.w) X.A (f v u) Q X.xe s2) :
  wpAny (model X.prog X.w) X.A (eval a X.env) (fun v s₁=>wpAny (model X.prog X.w) X.A (eval b X.env) (fun u s₂=>wpAny (model X.prog X.w) X.A (f v u) Q X.xe s₂) X.xe s₁) X.xe s:=by
 refine thn (ha pins s σ H _ I h) fun v s1 ⟨x,H1,I1,r1,q1⟩=>?_
 refine thn (hb pins s1 σ H1 _ I1 q1) fun u s2 ⟨y,H2,I2,r2,q2⟩=>?_
 exact hf v u s2 x y H2 I2 r1 r2 q2
theorem a0v {op:Operator} {r:R2} (ho:OpR X (binaryOp op) r) (ha:PE X a ta) (hb:PE X b tb):PE X (.BinOp a op b pos) (tOp r ta tb):=by
 intro pins s σ H Q I h
 exact wpAny_BinOp (binT ha hb I h fun v u s2 x y H2 I2 rx ry q=>ho pins s2 σ H2 x y v u Q I2 rx ry q)
theorem b0c {op:UnaryOp} {r:V→Hp→VK→Prop} (ho:UnR X (unaryOp op) r) (ha:PE X a ta):PE X (.UnaryOp op a pos) (tUn r ta):=by
 intro pins s σ H Q I h
 exact UnaryOp_ (thn (ha pins s σ H _ I h) fun v s1 ⟨x,H1,I1,r1,q1⟩=>ho pins s1 σ H1 x v Q I1 r1 q1)
theorem opI {f:Value→Value→Sem Value} {C:Int→Int→Prop} {g:Int→Int→Int}
  (rule:∀ (i j:Int) (t u:Tok) (s:Shared) (Q:Value→Shared→Prop) (E:Value→Shared→Prop),C i j→Q (.int (g i j) s.toks) { s with toks:=s.toks+1 }→wpAny (model X.prog X.w) X.A (f (.int i t) (.int j u)) Q E s) :
  OpR X f (rI C fun i j=>.int (g i j)):=by
 intro pins s σ H x y v u Q I rx ry h
 obtain ⟨i,j,rfl,rfl,hc,q⟩:=h
 obtain ⟨t,rfl⟩:=rx
 obtain ⟨t',rfl⟩:=ry
 exact rule i j t t' s _ _ hc ⟨.int (g i j),H,I.tok _,⟨_,rfl⟩,q⟩
theorem opI0 {f:Value→Value→Sem Value} {g:Int→Int→Int}
  (rule:∀ (i j:Int) (t u:Tok) (s:Shared) (Q:Value→Shared→Prop) (E:Value→Shared→Prop),Q (.int (g i j) s.toks) { s with toks:=s.toks+1 }→wpAny (model X.prog X.w) X.A (f (.int i t) (.int j u)) Q E s) :
  OpR X f (rI0 fun i j=>.int (g i j)):=by
 intro pins s σ H x y v u Q I rx ry h
 obtain ⟨i,j,rfl,rfl,q⟩:=h
 obtain ⟨t,rfl⟩:=rx
 obtain ⟨t',rfl⟩:=ry
 exact rule i j t t' s _ _ ⟨.int (g i j),H,I.tok _,⟨_,rfl⟩,q⟩
theorem opB0 {f:Value→Value→Sem Value} {g:Int→Int→Bool}
  (rule:∀ (i j:Int) (t u:Tok) (s:Shared) (Q:Value→Shared→Prop) (E:Value→Shared→Prop),Q (.bool (g i j)) s→wpAny (model X.prog X.w) X.A (f (.int i t) (.int j u)) Q E s) :
  OpR X f (rI0 fun i j=>.bl (g i j)):=by
 intro pins s σ H x y v u Q I rx ry h
 obtain ⟨i,j,rfl,rfl,q⟩:=h
 obtain ⟨t,rfl⟩:=rx
 obtain ⟨t',rfl⟩:=ry
 exact rule i j t t' s _ _ ⟨.bl (g i j),H,I,rfl,q⟩
def CDiv (i j:Int):Prop:=0 < j∧j < 1073741824
def CPow (i j:Int):Prop:=0≤j∧j≤1000000∧i.natAbs < 2 ^ 64
theorem a0P:OpR X (binaryOp .Add) (rI0 fun i j=>.int (i+j)):=opI0 fun _ _ _ _ _ _ _ q=>add_int q
theorem a2s:OpR X (binaryOp .Sub) (rI0 fun i j=>.int (i - j)):=opI0 fun _ _ _ _ _ _ _ q=>sub_int q
theorem a1L:OpR X (binaryOp .FloorDiv) (rI CDiv fun i j=>.int (i / j)):=opI fun i j _ _ _ _ _ hc q=>by
 have h1:(0:Int) < j:=hc.1
 have h2:j < 1073741824:=hc.2
 exact floordiv_int (by omega) (by rw [Int.fdiv_eq_ediv_of_nonneg i (by omega)];exact q) (.inl (PyProof.noPylong_small (by omega)))
theorem a1k:OpR X (binaryOp .Mod) (rI (fun _ j=>0 < j) fun i j=>.int (i % j)):=opI fun i j _ _ _ _ _ hc q=>by
 have h1:(0:Int) < j:=hc
 exact mod_int' (by omega) (by rw [Int.fmod_eq_emod_of_nonneg i (by omega)];exact q)
theorem b1v:OpR X (binaryOp .Pow) (rI CPow fun i j=>.int (i ^ j.toNat)):=opI fun _ _ _ _ _ _ _ hc q=>pow_int_small hc.1 hc.2.1 hc.2.2 q
theorem unI {f:Value→Sem Value} {g:Int→Int}
  (rule:∀ (i:Int) (t:Tok) (s:Shared) (Q:Value→Shared→Prop) (E:Value→Shared→Prop),Q (.int (g i) s.toks) { s with toks:=s.toks+1 }→wpAny (model X.prog X.w) X.A (f (.int i t)) Q E s) :
  UnR X f (rU fun i=>.int (g i)):=by
 intro pins s σ H x v Q I rx h
 obtain ⟨i,rfl,q⟩:=h
 obtain ⟨t,rfl⟩:=rx
 exact rule i t s _ _ ⟨.int (g i),H,I.tok _,⟨_,rfl⟩,q⟩
theorem a5V:UnR X (unaryOp .USub) (rU fun i=>.int (-i)):=unI fun _ _ _ _ _ q=>neg_int q
end
def scal:V→V→Bool
 | .non,.non=>true | .non,.int _=>true | .int _,.non=>true | .non,.bl _=>true | .bl _,.non=>true | .non,.str _=>true | .str _,.non=>true
 | .int _,.int _=>true | .bl _,.bl _=>true | .str _,.str _=>true | .byt _,.byt _=>true
 | .int _,.str _=>true | .str _,.int _=>true | .bl _,.str _=>true | .str _,.bl _=>true
 | _,_=>false
def rEq:R2:=fun x y H Q=>scal x y=true∧Q (.bl (decide (x=y))) H
def rNe:R2:=fun x y H Q=>scal x y=true∧Q (.bl (!decide (x=y))) H
theorem a8f {i j:Int}:decide (V.int i=V.int j)=(i == j):=by
 rw [Bool.eq_iff_iff]
 simp
theorem b1w {i j:Bool}:decide (V.bl i=V.bl j)=(i == j):=by
 rw [Bool.eq_iff_iff]
 simp
theorem a8g {i j:Str}:decide (V.str i=V.str j)=(i == j):=by
 rw [Bool.eq_iff_iff]
 simp
theorem a8h {i j:Array UInt8}:decide (V.byt i=V.byt j)=(i.toList == j.toList):=by
 rw [Bool.eq_iff_iff]
 cases i
 cases j
 simp
section
variable {X:Cx} {a b c:Expr} {ta tb tc:TE} {pos:Pos}
theorem a0B {pins:List (Addr × Obj)} {σ:St} {H:Hp} {s:Shared} {Q:VK} {k k':Bool} (I:Inv X pins σ H s) (q:Q (.bl k) H) (e:k=k'):EP X pins σ Q (.bool k') s:=by
 subst e
 exact ⟨.bl k,H,I,rfl,q⟩
theorem a1u:OpR X (compareOp .Eq) rEq:=by
 intro pins s σ H x y v u Q I rx ry h
 obtain ⟨hs,q⟩:=h
 cases x with
 | non =>
  cases rx
  cases y with
  | non=>cases ry;exact PySem.EqNone.eq_none_none (a0B I q (by simp))
  | bl j=>cases ry;exact PySem.EqNone.eq_none_bool (a0B I q (by simp))
  | int j=>obtain ⟨t',rfl⟩:=ry;exact PySem.EqNone.eq_none_int (a0B I q (by simp))
  | str j=>obtain ⟨t',rfl⟩:=ry;exact PySem.EqNone.eq_none_str (a0B I q (by simp))
  | _=>exact absurd (show false=true from hs) Bool.false_ne_true
 | bl i =>
  cases rx
  cases y with
  | non=>cases ry;exact PySem.EqNone.eq_bool_none (a0B I q (by simp))
  | bl j=>cases ry;exact eq_bool (a0B I q b1w)
  | str j=>obtain ⟨t',rfl⟩:=ry;exact PySem.EqMixed.eq_bool_str (a0B I q (by simp))
  | _=>exact absurd (show false=true from hs) Bool.false_ne_true
 | int i =>
  obtain ⟨t,rfl⟩:=rx
  cases y with
  | non=>cases ry;exact PySem.EqNone.eq_int_none (a0B I q (by simp))
  | int j=>obtain ⟨t',rfl⟩:=ry;exact eq_int (a0B I q a8f)
  | str j=>obtain ⟨t',rfl⟩:=ry;exact PySem.EqMixed.eq_int_str (a0B I q (by simp))
  | _=>exact absurd (show false=true from hs) Bool.false_ne_true
 | str i =>
  obtain ⟨t,rfl⟩:=rx
  cases y with
  | non=>cases ry;exact PySem.EqNone.eq_str_none (a0B I q (by simp))
  | bl j=>cases ry;exact PySem.EqMixed.eq_str_bool (a0B I q (by simp))
  | int j=>obtain ⟨t',rfl⟩:=ry;exact PySem.EqMixed.eq_str_int (a0B I q (by simp))
  | str j=>obtain ⟨t',rfl⟩:=ry;exact eq_str (a0B I q a8g)
  | _=>exact absurd (show false=true from hs) Bool.false_ne_true
 | byt i =>
  obtain ⟨t,rfl⟩:=rx
  cases y with
  | byt j=>obtain ⟨t',rfl⟩:=ry;exact PySem.W.eq_bytes (a0B I q a8h)
  | _=>exact absurd (show false=true from hs) Bool.false_ne_true
 | _=>cases y <;> exact absurd (show false=true from hs) Bool.false_ne_true
theorem b0d:OpR X (compareOp .NotEq) rNe:=by
 intro pins s σ H x y v u Q I rx ry h
 obtain ⟨hs,q⟩:=h
 cases x with
 | non =>
  cases rx
  cases y with
  | non=>cases ry;exact PySem.EqNone.ne_none_none (a0B I q (by simp))
  | bl j=>cases ry;exact PySem.EqNone.ne_none_bool (a0B I q (by simp))
  | int j=>obtain ⟨t',rfl⟩:=ry;exact PySem.EqNone.ne_none_int (a0B I q (by simp))
  | str j=>obtain ⟨t',rfl⟩:=ry;exact PySem.EqNone.ne_none_str (a0B I q (by simp))
  | _=>exact absurd (show false=true from hs) Bool.false_ne_true
 | bl i =>
  cases rx
  cases y with
  | non=>cases ry;exact PySem.EqNone.ne_bool_none (a0B I q (by simp))
  | bl j=>cases ry;exact ne_bool (a0B I q (congrArg not b1w))
  | str j=>obtain ⟨t',rfl⟩:=ry;exact PySem.EqMixed.ne_bool_str (a0B I q (by simp))
  | _=>exact absurd (show false=true from hs) Bool.false_ne_true
 | int i =>
  obtain ⟨t,rfl⟩:=rx
  cases y with
  | non=>cases ry;exact PySem.EqNone.ne_int_none (a0B I q (by simp))
  | int j=>obtain ⟨t',rfl⟩:=ry;exact ne_int (a0B I q (congrArg not a8f))
  | str j=>obtain ⟨t',rfl⟩:=ry;exact PySem.EqMixed.ne_int_str (a0B I q (by simp))
  | _=>exact absurd (show false=true from hs) Bool.false_ne_true
 | str i =>
  obtain ⟨t,rfl⟩:=rx
  cases y with
  | non=>cases ry;exact PySem.EqNone.ne_str_none (a0B I q (by simp))
  | bl j=>cases ry;exact PySem.EqMixed.ne_str_bool (a0B I q (by simp))
  | int j=>obtain ⟨t',rfl⟩:=ry;exact PySem.EqMixed.ne_str_int (a0B I q (by simp))
  | str j=>obtain ⟨t',rfl⟩:=ry;exact ne_str (a0B I q (congrArg not a8g))
  | _=>exact absurd (show false=true from hs) Bool.false_ne_true
 | byt i =>
  obtain ⟨t,rfl⟩:=rx
  cases y with
  | byt j=>obtain ⟨t',rfl⟩:=ry;exact PySem.W.ne_bytes (a0B I q (congrArg not a8h))
  | _=>exact absurd (show false=true from hs) Bool.false_ne_true
 | _=>cases y <;> exact absurd (show false=true from hs) Bool.false_ne_true
theorem a4x:OpR X (compareOp .Lt) (rI0 fun i j=>.bl (decide (i < j))):=opB0 fun _ _ _ _ _ _ _ q=>lt_int q
theorem a7a:OpR X (compareOp .LtE) (rI0 fun i j=>.bl (decide (i≤j))):=opB0 fun _ _ _ _ _ _ _ q=>le_int q
theorem op_gt:OpR X (compareOp .Gt) (rI0 fun i j=>.bl (decide (j < i))):=opB0 fun _ _ _ _ _ _ _ q=>gt_int q
theorem op_ge:OpR X (compareOp .GtE) (rI0 fun i j=>.bl (decide (j≤i))):=opB0 fun _ _ _ _ _ _ _ q=>ge_int q
theorem op_isN:OpR X (compareOp .Is) (fun x y H Q=>y=.non∧Q (.bl (decide (x=.non))) H):=by
 intro pins s σ H x y v u Q I rx ry h
 obtain ⟨rfl,q⟩:=h
 cases ry
 refine is_none_gen (a0B I q ?_)
 cases x <;> first
  | (cases rx;rfl)
  | (obtain ⟨t,rfl⟩:=rx;rfl)
theorem b2e:OpR X (compareOp .IsNot) (fun x y H Q=>y=.non∧Q (.bl (!decide (x=.non))) H):=by
 intro pins s σ H x y v u Q I rx ry h
 obtain ⟨rfl,q⟩:=h
 cases ry
 refine isnot_none_gen (a0B I q ?_)
 cases x <;> first
  | (cases rx;rfl)
  | (obtain ⟨t,rfl⟩:=rx;rfl)
def isObj:HO→Bool
 | .lst _=>true
 | .ins _ _ _=>true
 | _=>false
theorem nomark (b:Expr) {op:CmpOp} (h:op≠.In:=by decide) (h2:op≠.NotIn:=by decide):behindInMarks op b=false:=by
 have e1:(op == CmpOp.In)=false:=by cases op <;> first | rfl | exact absurd rfl h
 have e2:(op == CmpOp.NotIn)=false:=by cases op <;> first | rfl | exact absurd rfl h2
 cases b <;> simp [behindInMarks,e1,e2]
theorem a1M {op:CmpOp} {r:R2} (ho:OpR X (compareOp op) r) (ha:PE X a ta) (hb:PE X b tb) (hm:behindInMarks op b=false):PE X (.Compare a [op] [b] pos) (tOp r ta tb):=by
 intro pins s σ H Q I h
 exact wpAny_Compare1 (binT ha hb I h fun v u s2 x y H2 I2 rx ry q=>ho pins s2 σ H2 x y v u Q I2 rx ry q) hm
def tTest (t:TE):TT:=fun σ H Q=>t σ H fun x H'=>∃ k,x=.bl k∧Q k H'
theorem a0u {op:CmpOp} {r:R2} (ho:OpR X (compareOp op) r) (ha:PE X a ta) (hb:PE X b tb) (hm:behindInMarks op b=false):PT X (.Compare a [op] [b] pos) (tTest (tOp r ta tb)):=by
 intro pins s σ H Q I h
 refine wpAny_isTrue_Compare1 (thn (ha pins s σ H _ I h) fun v s1 ⟨x,H1,I1,r1,q1⟩=>thn (hb pins s1 σ H1 _ I1 q1) fun u s2 ⟨y,H2,I2,r2,q2⟩ =>
  thn (ho pins s2 σ H2 x y v u _ I2 r1 r2 q2) fun c s3 ⟨z,H3,I3,r3,k,e,q3⟩=>?_) hm
 subst e
 cases r3
 exact wpAny_truthy_bool ⟨H3,I3,q3⟩
def tChain (r r':R2) (ta tb tc:TE):TE:=fun σ H Q=>ta σ H fun x H1=>tb σ H1 fun y H2=>r x y H2 fun z H3=>∃ k,z=.bl k ∧
 (if k=true then tc σ H3 fun w' H4=>r' y w' H4 Q else Q (.bl false) H3)
theorem a2y {op op':CmpOp} {r r':R2} (ho:OpR X (compareOp op) r) (ho':OpR X (compareOp op') r') (ha:PE X a ta) (hb:PE X b tb) (hc:PE X c tc)
  (hm:lastMarks [op,op'] [b,c]=false:=by with_unfolding_all rfl):PE X (.Compare a [op,op'] [b,c] pos) (tChain r r' ta tb tc):=by
 intro pins s σ H Q I h
 refine Compare_chain (thn (ha pins s σ H _ I h) fun v s1 ⟨x,H1,I1,r1,q1⟩=>chain_link (thn (hb pins s1 σ H1 _ I1 q1) fun u s2 ⟨y,H2,I2,r2,q2⟩ =>
  thn (ho pins s2 σ H2 x y v u _ I2 r1 r2 q2) fun d s3 ⟨z,H3,I3,r3,k,e,q3⟩=>?_)) hm
 subst e
 cases r3
 refine wpAny_truthy_bool ?_
 cases k with
 | false=>exact ite_ff ⟨.bl false,H3,I3,rfl,q3⟩
 | true=>exact ite_tt (chain_last (thn (hc pins s3 σ H3 _ I3 q3) fun w' s4 ⟨z',H4,I4,r4,q4⟩=>ho' pins s4 σ H4 y z' u w' Q I4 r2 r4 q4))
def TruV (K:PySem.W.Frag) (x:V) (H:Hp) (k:Bool):Prop :=
 match x with
 | .non=>k=false
 | .bl b=>k=b
 | .int i=>k=(i != 0)
 | .str y=>y.length≤sizeLine∧k=((y.length:Int) != 0)
 | .byt y=>y.size≤sizeLine∧k=((y.size:Int) != 0)
 | .ref p=>(∃ xs,SqL K H p xs∧k=!xs.isEmpty)∨(∃ xs,SqT K H p xs∧k=!xs.isEmpty)∨∃ kvs,H p=some (.dK kvs)∧k=!kvs.isEmpty
 | _=>False
theorem a5W:(sizeLine:Nat) < 2 ^ 63:=by rw [sizeLine_eq];decide
theorem a2H {x:V} {us:List Value} (r:a0D [x] us):∃ u,us=[u]∧a0O x u:=by
 cases r with
 | cons r1 r2=>cases r2;exact ⟨_,rfl,r1⟩
theorem vals2 {x y:V} {us:List Value} (r:a0D [x,y] us):∃ u w',us=[u,w']∧a0O x u∧a0O y w':=by
 cases r with
 | cons r1 r2 =>
  cases r2 with
  | cons r3 r4=>cases r4;exact ⟨_,_,rfl,r1,r3⟩
theorem a8i (hc:X.calm=true):a1K X (.builtin "min") (fun xs H Q=>∃ i j,xs=[.int i,.int j]∧Q (.int (if j < i then j else i)) H):=by
 intro pins s σ H xs us Q I r h
 obtain ⟨i,j,rfl,q⟩:=h
 obtain ⟨u,w',rfl,⟨t,rfl⟩,⟨t',rfl⟩⟩:=vals2 r
 refine min_two_ints (I.ok.hd hc) fun h' tk k=>⟨_,H,I.kept k,?_,q⟩
 by_cases hj:j < i
 ·rw [if_pos hj,if_pos hj];exact ⟨_,rfl⟩
 ·rw [if_neg hj,if_neg hj];exact ⟨_,rfl⟩
def LenV (K:PySem.W.Frag) (x:V) (H:Hp) (n:Nat):Prop :=
 match x with
 | .str y=>y.length≤sizeLine∧n=y.length
 | .byt y=>y.size≤sizeLine∧n=y.size
 | .ref p=>(∃ xs,SqL K H p xs∧n=xs.length)∨∃ xs,SqT K H p xs∧n=xs.length
 | _=>False
end
structure ObjM (h:Heap) (x dx C:Addr) (mA:Str→Option Value):Prop where
 obj:h.get? x=some (PySem.W.instObj C dx)
 ns:h.Ns1 dx mA
 ne:dx≠x
theorem a8j {h:Heap} {dx:Addr} {mA:Str→Option Value} (n:h.Ns1 dx mA):∃ od,h.get? dx=some od∧∀ name,PySem.W.lookIn name od=some (mA name):=by
 obtain ⟨o,es,ep,ho,hd,hk,_,hm⟩:=n
 refine ⟨o,ho,fun name=>?_⟩
 have e:=hm name
 unfold nsFind findBy at e
 rw [←Array.find?_toList] at e
 unfold PySem.W.lookIn
 rw [hd]
 dsimp only
 split
 ·rename_i y q
  rw [q] at e
  exact congrArg some e
 ·rename_i q
  rw [q] at e
  have a:es.toList.any (·.refKey)=false:=by
   rw [List.any_eq_false]
   intro y hy
   obtain ⟨z,t,hkey⟩:=hk y (Array.mem_toList_iff.mp hy)
   simp [DictEntry.refKey,hkey]
  have a':¬ es.toList.any (·.refKey)=true:=by rw [a];exact Bool.false_ne_true
  rw [if_neg a']
  exact congrArg some e
theorem ObjM.look {h:Heap} {x dx C:Addr} {mA:Str→Option Value} (I:ObjM h x dx C mA):∃ od,PySem.W.InstAt h x (PySem.W.instObj C dx) C (some od)∧∀ name,PySem.W.lookIn name od=some (mA name) :=
 let ⟨od,ho,hl⟩:=a8j I.ns
 ⟨od,⟨I.obj,rfl,rfl,ho⟩,hl⟩
section
variable {prog:Program} {w:World} {A:Around} {E:Value→Shared→Prop} {s:Shared} {K:PySem.W.Frag} {x dx C f:Addr} {mA:Str→Option Value} {name:Str} {v:Value}
end
def a5X (f:Str) (v:V):List (Str × V)→List (Str × V)
 | []=>[(f,v)]
 | (g,x) :: r=>if g=f then (g,v) :: r else (g,x) :: a5X f v r
theorem a2I (f g:Str) (v:V):∀ fs:List (Str × V),(a5X f v fs).lookup g=if g=f then some v else fs.lookup g
 | []=>by
  show List.lookup g [(f,v)]=_
  by_cases h:g=f
  ·have hb:(g == f)=true:=beq_iff_eq.mpr h
   simp only [List.lookup,hb,if_pos h]
  ·have hb:(g == f)=false:=beq_eq_false_iff_ne.mpr h
   simp only [List.lookup,hb,if_neg h]
 | (k,x) :: r=>by
  have ih:=a2I f g v r
  rw [show a5X f v ((k,x) :: r)=(if k=f then (k,v) :: r else (k,x) :: a5X f v r) from rfl]
  by_cases hk:k=f
  ·rw [if_pos hk]
   by_cases h:g=k
   ·have hb:(g == k)=true:=beq_iff_eq.mpr h
    simp only [List.lookup,hb,if_pos (h.trans hk)]
   ·have hb:(g == k)=false:=beq_eq_false_iff_ne.mpr h
    simp only [List.lookup,hb,if_neg (fun e:g=f=>h (e.trans hk.symm))]
  ·rw [if_neg hk]
   by_cases h:g=k
   ·have hb:(g == k)=true:=beq_iff_eq.mpr h
    simp only [List.lookup,hb,if_neg (fun e:g=f=>hk (h.symm.trans e))]
   ·have hb:(g == k)=false:=beq_eq_false_iff_ne.mpr h
    simp only [List.lookup,hb]
    exact ih
theorem a2J (f:Str) (v:V):∀ fs:List (Str × V),f∈(a5X f v fs).map (·.1)∧∀ g,g∈fs.map (·.1)→g∈(a5X f v fs).map (·.1)
 | []=>⟨by simp [a5X],fun g h=>by simp at h⟩
 | (k,x) :: r=>by
  obtain ⟨i1,i2⟩:=a2J f v r
  rw [show a5X f v ((k,x) :: r)=(if k=f then (k,v) :: r else (k,x) :: a5X f v r) from rfl]
  by_cases hk:k=f
  ·rw [if_pos hk]
   subst hk
   exact ⟨by simp,fun g h=>by simpa using h⟩
  ·rw [if_neg hk]
   refine ⟨?_,fun g h=>?_⟩
   ·rw [List.map_cons]
    exact List.mem_cons_of_mem _ i1
   ·rw [List.map_cons] at h ⊢
    rcases List.mem_cons.mp h with e | e
    ·exact List.mem_cons.mpr (.inl e)
    ·exact List.mem_cons_of_mem _ (i2 g e)
theorem a5j.some_of {v:V} {o:Option Value} (r:a5j (some v) o):∃ u,o=some u∧a0O v u:=by
 cases o with
 | none=>exact (show False from r).elim
 | some u=>exact ⟨u,rfl,r⟩
section
variable {P:Program} {w:World} {H H':Hp} {h h':Heap} {a C dx:Addr} {fs fs':List (Str × V)}
theorem b2f (hok:HOk P w H h) (e:H a=some (.ins C dx fs)):∃ mA,ObjM h a dx C mA∧(∀ f,a5j (fs.lookup f) (mA f))∧PySem.Within mA (fs.map (·.1))∧fs.length≤1000∧H dx=some (.own a):=by
 obtain ⟨d,z,ne,ob,mA,n,r,q⟩:=(show a0F P w H h a (.ins C dx fs) from hok a _ e)
 exact ⟨mA,⟨ob,n,ne⟩,r,q,z,d⟩
end
structure Cls (K:PySem.W.Frag) (C:Addr):Prop where
 pg:PySem.W.plainGet K C Str.empty=true
 hd:PySem.W.hasDictIn K C=true
 po:PySem.W.plainOver K C=true
 sa:PySem.W.findIn K (.ref C) "__setattr__"=some (some (.builtin "object.__setattr__"))
theorem Cls.get {K:PySem.W.Frag} {C:Addr} (c:Cls K C) (f:Str):PySem.W.plainGet K C f=true:=c.pg
def a2K (K:PySem.W.Frag) (C:Addr) (f:Str):Prop:=PySem.W.findIn K (.ref C) f=some none
theorem a2K.taker {K:PySem.W.Frag} {C:Addr} {f:Str} (n:a2K K C f):PySem.W.takerIn K C f=some none:=by
 unfold PySem.W.takerIn
 rw [show PySem.W.findIn K (.ref C) f=some none from n]
 rfl
structure Con (K:PySem.W.Frag) (C:Addr) (f:Str) (v:V) (u:Value):Prop where
 at_:PySem.W.findIn K (.ref C) f=some (some u)
 rel:a0O v u
 get:PySem.W.specialIn K u "__get__"=some none
 cp:PySem.W.copiedNames.contains f=false
structure Meth (K:PySem.W.Frag) (C:Addr) (m:Str) (f:Addr):Prop where
 at_:PySem.W.findIn K (.ref C) m=some (some (.ref f))
 fn:PySem.W.isFn K (.ref f)=true
 kp:PySem.W.keepIn K (.ref f)=true
section
variable {X:Cx} {pins:List (Addr × Obj)} {σ:St} {H:Hp} {s:Shared} {a C dx:Addr} {fs:List (Str × V)} {f:Str} {v:V} {A:Around} {E:Value→Shared→Prop}
end
def tFld (K:PySem.W.Frag) (ta:TE) (f:Str):TE:=fun σ H Q=>ta σ H fun x H1=>∃ a C dx fs v,x=.ref a∧H1 a=some (.ins C dx fs)∧Cls K C∧a2K K C f∧fs.lookup f=some v∧Q v H1
def tCon (K:PySem.W.Frag) (ta:TE) (f:Str):TE:=fun σ H Q=>ta σ H fun x H1=>∃ a C dx fs v u,x=.ref a∧H1 a=some (.ins C dx fs)∧Cls K C∧Con K C f v u∧fs.lookup f=none∧Q v H1
def sFld (K:PySem.W.Frag) (ta tv:TE) (f:Str):TS:=fun D σ H=>tv σ H fun y H1=>ta σ H1 fun x H2=>∃ a C dx fs,x=.ref a∧H2 a=some (.ins C dx fs)∧Cls K C∧a2K K C f∧fs.length < 1000 ∧
 D.nx σ (upd H2 a (.ins C dx (a5X f y fs)))
def InOp (X:Cx) (op:Operator) (rd:V→V→Hp→VK→Prop):Prop :=
 ∀ (pins:List (Addr × Obj)) (s:Shared) (σ:St) (H:Hp) (x y:V) (u v:Value) (Q:VK),Inv X pins σ H s→a0O x u→a0O y v→rd x y H Q→wpAny (model X.prog X.w) X.A (inplaceOp op u v) (EP X pins σ Q) X.xe s
def sFldAug (K:PySem.W.Frag) (ta tv:TE) (rd:V→V→Hp→VK→Prop) (f:Str):TS:=fun D σ H=>ta σ H fun x H1=>∃ a C dx fs v,x=.ref a∧H1 a=some (.ins C dx fs)∧Cls K C∧a2K K C f∧fs.lookup f=some v ∧
 tv σ H1 fun y H2=>rd v y H2 fun z H3=>∃ dx' fs',H3 a=some (.ins C dx' fs')∧fs'.length < 1000∧D.nx σ (upd H3 a (.ins C dx' (a5X f z fs')))
section
variable {X:Cx} {o e value:Expr} {f:Str} {pos pos' tpos:Pos} {ta tv:TE}
end
section
variable {X:Cx} {pins:List (Addr × Obj)} {σ:St} {H:Hp} {s:Shared} {A:Around} {E:Value→Shared→Prop} {Q:Value→Shared→Prop} {c:Value} {b:Bool}
inductive a7b (K:PySem.W.Frag) (H:Hp):V→Value→Prop where
 | non:a7b K H .non (.type "NoneType")
 | bl (x:Bool):a7b K H (.bl x) (.type "bool")
 | int (i:Int):a7b K H (.int i) (.type "int")
 | str (x:Str):a7b K H (.str x) (.type "str")
 | flt (x:UInt64):a7b K H (.flt x) (.type "float")
 | lst {a:Addr} {xs:List V} (e:H a=some (.lst xs)):a7b K H (.ref a) (.type "list")
 | frz {a:Addr} {o:Obj} {xs:List V} (e:H a=some (.frz o (.lst xs))):a7b K H (.ref a) (.type "list")
 | tup {a:Addr} {xs:List V} (e:H a=some (.tup xs)):a7b K H (.ref a) (.type "tuple")
 | dK {a:Addr} {kvs:List (Key × V)} (e:H a=some (.dK kvs)):a7b K H (.ref a) (.type "dict")
 | dT {a:Addr} {kvs:List (List Key × V)} (e:H a=some (.dT kvs)):a7b K H (.ref a) (.type "dict")
 | ins {a C dx:Addr} {fs:List (Str × V)} (e:H a=some (.ins C dx fs)) (cl:Cls K C) (ha:PySem.W.findIn K (.ref C) "__class__"=some (some (.builtin "object.__class__")))
   (hn:PySem.W.specialIn K (.builtin "object.__class__") "__get__"=some (some (.builtin "getset_descriptor.__get__"))) (htk:PySem.W.takesIn K (.builtin "object.__class__")=some true)
   (hm:PySem.W.mroIn K C (.type "object")=some true):a7b K H (.ref a) (.ref C)
theorem a8k {x:V} {u t:Value} (I:Inv X pins σ H s) (rx:a0O x u) (ty:a7b X.K H x t) (e:PySem.W.kitOne X.K t c=some b) (h:∀ tk,Q (.bool b) { s with toks:=tk }) :
  wpAny (model X.prog X.w) A (call (.builtin "isinstance") [u,c]) Q E s:=by
 cases ty with
 | non=>cases (show u=Value.none from rx);exact PySem.W.kia_one PySem.W.kitx_none I.kIn True.intro e (fun z=>nomatch z) h
 | bl y=>cases (show u=Value.bool y from rx);exact PySem.W.kia_one PySem.W.kitx_bool I.kIn True.intro e (fun z=>nomatch z) h
 | int i=>obtain ⟨t,q⟩:=(show ∃ t,u=Value.int i t from rx);cases q;exact PySem.W.kia_one PySem.W.kitx_int I.kIn True.intro e (fun z=>nomatch z) h
 | str y=>obtain ⟨t,q⟩:=(show ∃ t,u=Value.str y t from rx);cases q;exact PySem.W.kia_one PySem.W.kitx_str I.kIn True.intro e (fun z=>nomatch z) h
 | flt y=>obtain ⟨t,q⟩:=(show ∃ t,u=Value.float y t from rx);cases q;exact PySem.W.kia_one PySem.W.kitx_float I.kIn True.intro e (fun z=>nomatch z) h
 | @lst a xs ea =>
  cases (show u=Value.ref a from rx)
  obtain ⟨_,_,n,_,h1⟩:=(show a0F X.prog X.w H s.heap a (.lst xs) from I.hok a _ ea)
  exact PySem.W.kia_one PySem.W.kitx_list I.kIn ⟨_,h1,rfl⟩ e (fun z=>nomatch z) h
 | @frz a ob xs ea =>
  cases (show u=Value.ref a from rx)
  obtain ⟨_,_,_,n,_,h1⟩:=(show a0F X.prog X.w H s.heap a (.frz ob (.lst xs)) from I.hok a _ ea)
  exact PySem.W.kia_one PySem.W.kitx_list I.kIn ⟨_,h1,rfl⟩ e (fun z=>nomatch z) h
 | @tup a xs ea =>
  cases (show u=Value.ref a from rx)
  obtain ⟨_,_,_,p⟩:=(show a0F X.prog X.w H s.heap a (.tup xs) from I.hok a _ ea)
  obtain ⟨o,h1,h2,_⟩:=p.is
  exact PySem.W.kia_one PySem.W.kitx_tuple I.kIn ⟨o,h1,h2⟩ e (fun z=>nomatch z) h
 | @dK a kvs ea =>
  cases (show u=Value.ref a from rx)
  obtain ⟨_,_,vs,_,p⟩:=(show a0F X.prog X.w H s.heap a (.dK kvs) from I.hok a _ ea)
  obtain ⟨o,es,ep,h1,h2,_⟩:=p
  exact PySem.W.kia_one PySem.W.kitx_dict I.kIn ⟨o,h1,h2.1⟩ e (fun z=>nomatch z) h
 | @dT a kvs ea =>
  cases (show u=Value.ref a from rx)
  obtain ⟨_,_,xs,_,o,es,ep,h1,h2,_⟩:=(show a0F X.prog X.w H s.heap a (.dT kvs) from I.hok a _ ea)
  exact PySem.W.kia_one PySem.W.kitx_dict I.kIn ⟨o,h1,h2.1⟩ e (fun z=>nomatch z) h
 | @ins a C dx fs ea cl ha hn htk hm =>
  cases (show u=Value.ref a from rx)
  obtain ⟨mA,O,_⟩:=b2f I.hok ea
  obtain ⟨od,J,_⟩:=O.look
  exact PySem.W.kia_one (PySem.W.kitx_own (cl.get _) cl.hd ha hn htk hm) I.kIn J e (fun z=>nomatch z) h
end
structure a2t (k:Nat) (A:Around):Prop where
 hd:A.handled=none
 dp:A.depth+3 * k+5 < recursionLimit
 un:A.units+16 * k+200 < cLine
theorem a2t.mono {j k:Nat} {A:Around} (r:a2t k A) (h:j≤k):a2t j A:=⟨r.hd,by have:=r.dp;omega,by have:=r.un;omega⟩
theorem a2t.deeper {k:Nat} {A:Around} (r:a2t (k+1) A) (env:Env):a2t k (A.deeper env) :=
 ⟨r.hd,by have:=r.dp;show A.depth+1+3 * k+5 < _;omega,by have:=r.un;show A.units+3+16 * k+200 < _;omega⟩
theorem a7c {A:Around} {C:Addr} {us:List Value} {kw:List (Str × Value)}:(A.under (.builtin "type.__call__" ⟨.ref C :: us,kw⟩)).depth=A.depth+1:=by
 first | rfl | simp [Around.under,Code.weight,Code.isCreation,Code.isGuard,Code.isCaller,Code.frames,Code.isFrame,guardIds]
theorem a7d {A:Around} {C:Addr} {us:List Value} {kw:List (Str × Value)}:(A.under (.builtin "type.__call__" ⟨.ref C :: us,kw⟩)).units=A.units+1:=by
 first | rfl | simp [Around.under,Code.cUnits,Code.frames,Code.isFrame]
theorem a2t.make {k:Nat} {A:Around} (r:a2t (k+1) A) (C:Addr) (us:List Value) (kw:List (Str × Value)):a2t k (A.under (.builtin "type.__call__" ⟨.ref C :: us,kw⟩)) :=
 ⟨r.hd,by have:=r.dp;rw [a7c];omega,by have:=r.un;rw [a7d];omega⟩
theorem a2t.depth {k:Nat} {A:Around} (r:a2t k A):A.depth < recursionLimit:=by have:=r.dp;omega
theorem a2t.units {k:Nat} {A:Around} (r:a2t k A):A.units+64 < cLine:=by have:=r.un;omega
def tNil:TA:=fun _ H Q=>Q [] H
def tCons (ta:TE) (tr:TA):TA:=fun σ H Q=>ta σ H fun x H1=>tr σ H1 fun xs H2=>Q (x :: xs) H2
section
variable {X:Cx} {e:Expr} {es:List Expr} {te:TE} {t:TA} {pos:Pos}
theorem a0c:PA X [] tNil:=fun _ _ _ _ H Q I h=>Calls.spliced_nil ⟨[],H,I,.nil,h⟩
theorem a0a (ha:PE X e te) (hr:PA X es t) (hs:starEach (e :: es) X.env=(false,eval e X.env) :: starEach es X.env:=by rfl):PA X (e :: es) (tCons te t):=by
 intro pos pins s σ H Q I h
 rw [hs]
 show wpAny _ _ (spliced ((false,eval e X.env) :: backTo pos (starEach es X.env))) _ _ s
 refine Calls.spliced_cons (thn (ha pins s σ H _ I h) fun u s1 ⟨x,H1,I1,r1,q1⟩=>?_)
 exact thn (hr pos pins s1 σ H1 _ I1 q1) fun us s2 ⟨xs,H2,I2,r2,q2⟩=>⟨x :: xs,H2,I2,.cons r1 r2,q2⟩
def tTup (t:TA):TE:=fun σ H Q=>t σ H fun xs H1=>xs.length≤sizeLine∧∀ p,H1 p=none→Q (.ref p) (upd H1 p (.tup xs))
def tLst (t:TA):TE:=fun σ H Q=>t σ H fun xs H1=>xs.length≤sizeLine∧∀ p,H1 p=none→Q (.ref p) (upd H1 p (.lst xs))
theorem a1l {x1} (h:PA X es t):PE X (.Tuple es x1 pos) (tTup t):=by
 intro pins s σ H Q I hq
 refine wpAny_Tuple_spliced (thn (h pos pins s σ H _ I hq) fun us s1 ⟨xs,H1,I1,r,z,q⟩=>⟨by rw [←r.length];exact z,?_⟩)
 have hf:H1 s1.heap.objs.size=none:=I1.hok.fresh (Nat.le_refl _)
 refine ⟨.ref s1.heap.objs.size,upd H1 s1.heap.objs.size (.tup xs),I1.laid (t':=s1.toks) (fun b u e=>Heap.get?_push_of_some _ e) (Nat.le_refl _) ?_,rfl,q _ hf⟩
 exact ⟨z,us,r,⟨_,Heap.get?_push_size _ rfl,_,rfl⟩⟩
theorem a1h (h:PA X es t):PE X (.List es pos) (tLst t):=by
 intro pins s σ H Q I hq
 refine wpAny_List_spliced (thn (h pos pins s σ H _ I hq) fun us s1 ⟨xs,H1,I1,r,z,q⟩=>⟨by rw [←r.length];exact z,?_⟩)
 have hf:H1 s1.heap.objs.size=none:=I1.hok.fresh (Nat.le_refl _)
 refine ⟨.ref s1.heap.objs.size,upd H1 s1.heap.objs.size (.lst xs),I1.laid (t':=s1.toks) (fun b u e=>Heap.get?_push_of_some _ e) (Nat.le_refl _) ?_,rfl,q _ hf⟩
 exact ⟨z,us,0,r,Heap.get?_push_size _ rfl⟩
end
abbrev Sp:=List V→Hp→VK→XK→Prop
abbrev CXT:=List Env→Hp→Shared→XK→Value→Shared→Prop
structure b2g (P:Program) (w:World) (K:PySem.W.Frag) (mg:Str→Option Value) (base:Heap) (A:Around) (outer:List Env) (s:Shared) (H:Hp):Prop where
 frames:A.frames=some outer
 mod:Mod K mg base
 bs:∀ b o,base.get? b=some o→s.heap.get? b=some o∧H b=none
 bsz:base.objs.size≤s.heap.objs.size
 funs:s.heap.FunFrames base outer
 frf:∀ b∈frs outer,H b=none
 hok:HOk P w H s.heap
 bare:AllBare s.gens
def CE (outer:List Env) (P:Program) (w:World) (H:Hp) (s:Shared) (Q:VK) (u:Value) (s':Shared):Prop :=
 ∃ v H',s'.os=s.os∧AllBare s'.gens∧Un (frs outer) [] H H' s.heap s'.heap∧HOk P w H' s'.heap∧a0O v u∧Q v H'
def CR (CX:CXT) (outer:List Env) (P:Program) (w:World) (H:Hp) (s:Shared) (Q:VK) (E:XK) (r:Result) (s':Shared):Prop :=
 match r with
 | .ok (.ret u)=>CE outer P w H s Q u s'
 | .ok _=>False
 | .error e=>CX outer H s E e s'
structure a1c (P:Program) (w:World) (K:PySem.W.Frag) (mg:Str→Option Value) (base:Heap) (CX:CXT) (k:Nat) (f:Addr) (fd:FuncData) (ps:List Str) (sp:Sp):Prop where
 len:∀ vs H Q E,sp vs H Q E→vs.length=ps.length
 run:∀ (A:Around) (outer:List Env) (s:Shared) (H:Hp) (args:Args) (us:List Value) (vs:List V) (Q:VK) (E:XK),a2t k A→b2g P w K mg base A outer s H→BindsTo s fd args (ps.zip us)→a0D vs us→sp vs H Q E →
  codeAny (model P w) A (.call (.ref f) args) (CR CX outer P w H s Q E) s
theorem a1c.mono {P:Program} {w:World} {K:PySem.W.Frag} {mg:Str→Option Value} {base:Heap} {CX:CXT} {j k:Nat} {f:Addr} {fd:FuncData} {ps:List Str} {sp:Sp} (F:a1c P w K mg base CX j f fd ps sp) (h:j≤k) :
  a1c P w K mg base CX k f fd ps sp:=⟨F.len,fun A outer s H args us vs Q E hr=>F.run A outer s H args us vs Q E (hr.mono h)⟩
theorem b2g.make {P:Program} {w:World} {K:PySem.W.Frag} {mg:Str→Option Value} {base:Heap} {A:Around} {outer:List Env} {s:Shared} {H:Hp} (e:b2g P w K mg base A outer s H) (C:Addr) (us:List Value) (kw:List (Str × Value)) :
  b2g P w K mg base (A.under (.builtin "type.__call__" ⟨.ref C :: us,kw⟩)) outer s H:=⟨by first | exact e.frames | (simpa [Around.under,Code.envs,Code.isFrame,pushEnvs] using e.frames),e.mod,e.bs,e.bsz,e.funs,e.frf,e.hok,e.bare⟩
section
variable {X:Cx} {pins:List (Addr × Obj)} {σ:St} {H:Hp} {s s':Shared}
theorem Inv.env0 (I:Inv X pins σ H s):b2g X.prog X.w X.K X.mg X.base X.A X.stack s H :=
 ⟨I.ok.frames,I.ok.mod,I.bs,Nat.le_trans I.ok.bsz I.sz,I.stack,I.stkFree,I.hok,I.bare⟩
theorem Inv.after {Q:VK} {u:Value} (I:Inv X pins σ H s) (h:CE X.stack X.prog X.w H s Q u s'):EP X pins σ Q u s':=by
 obtain ⟨v,H',os,bare,un,hok,r,q⟩:=h
 obtain ⟨hh,g,d,t,os'⟩:=s'
 obtain rfl:os'=s.os:=os
 exact ⟨v,H',I.call (h':=hh) (g':=g) (d':=d) (t':=t) (ch:=[]) un hok bare (fun b z=>absurd z (by simp)),r,q⟩
end
def tCall (sp:Sp) (dvs:List V) (E:XK) (t:TA):TE:=fun σ H Q=>t σ H fun vs H1=>sp (vs++dvs) H1 Q E
def tMeth (C:Addr) (m:Str) (sp:Sp) (dvs:List V) (E:XK) (ta:TE) (t:TA):TE:=fun σ H Q=>ta σ H fun x H1=>∃ a dx fs,x=.ref a∧H1 a=some (.ins C dx fs)∧fs.lookup m=none ∧
 t σ H1 fun vs H2=>sp (x :: (vs++dvs)) H2 Q E
def tMake (C:Addr) (sp:Sp) (dvs:List V) (E:XK) (t:TA):TE:=fun σ H Q=>t σ H fun vs H1=>∀ x dx,H1 x=none→H1 dx=none→dx≠x →
 sp (.ref x :: (vs++dvs)) (upd (upd H1 dx (.own x)) x (.ins C dx [])) (fun v H2=>v=.non∧Q (.ref x) H2) E
def a1I (K:PySem.W.Frag) (fd:FuncData) (ps:List Str) (ds:List Value):Prop :=
 ∀ (s:Shared) (us:List Value),K.In s.heap→(us++ds).length=ps.length→BindsTo s fd ⟨us,[]⟩ (ps.zip (us++ds))
theorem a1I.all {K:PySem.W.Frag} {fd:FuncData} {ps:List Str} (h:∀ us:List Value,us.length=ps.length→bindArgs fd ⟨us,[]⟩=pure (ps.zip us)):a1I K fd ps []:=fun s us _ hl=>by
 rw [List.append_nil] at hl ⊢
 exact .of_eq (h us hl)
def a2u (CX:CXT) (X:Cx) (E:XK):Prop:=∀ (pins:List (Addr × Obj)) (σ:St) (H:Hp) (s:Shared) (e:Value) (s':Shared),Inv X pins σ H s→CX X.stack H s E e s'→X.xe e s'
section
variable {X:Cx} {CX:CXT} {k:Nat} {f C:Addr} {fd:FuncData} {ps:List Str} {sp:Sp} {dvs:List V} {ds:List Value} {E:XK} {x m:Str} {p pos apos:Pos} {e o:Expr} {es:List Expr} {ta:TE} {t:TA}
theorem run_fn {pins:List (Addr × Obj)} {σ:St} {H:Hp} {s:Shared} {Q:VK} {us:List Value} {vs:List V} (F:a1c X.prog X.w X.K X.mg X.base CX k f fd ps sp) (hr:a2t k X.A) (hb:a1I X.K fd ps ds) (hd:a0D dvs ds) (hx:a2u CX X E)
  (I:Inv X pins σ H s) (r:a0D vs us) (h:sp (vs++dvs) H Q E):wpAny (model X.prog X.w) X.A (call (.ref f) us) (EP X pins σ Q) X.xe s:=by
 have r2:a0D (vs++dvs) (us++ds):=r.append hd
 have hl:(us++ds).length=ps.length:=by rw [←r2.length];exact F.len _ _ _ _ h
 refine wpAny_call (codeAny_mono (F.run X.A X.stack s H ⟨us,[]⟩ (us++ds) (vs++dvs) Q E hr I.env0 (hb s us I.kIn hl) r2 h) fun r s' hq=>?_)
 cases r with
 | error e=>exact hx pins σ H s e s' I hq
 | ok fl =>
  cases fl with
  | ret u=>exact I.after hq
  | next=>exact False.elim hq
  | brk=>exact False.elim hq
  | cont=>exact False.elim hq
theorem a0m (F:a1c X.prog X.w X.K X.mg X.base CX k f fd ps sp) (hr:a2t k X.A) (hg:Gl X x) (hm:X.mg x=some (.ref f)) (hk:PySem.W.keepIn X.K (.ref f)=true) (hb:a1I X.K fd ps ds) (hd:a0D dvs ds) (hx:a2u CX X E)
  (ha:PA X (e :: es) t) (hdb:(x == ("__debug__":Str))=false:=by decide) (he:starEach (e :: es) X.env=(false,eval e X.env) :: starEach es X.env:=by rfl) (hpl:(backTo pos (starEach es X.env)).any (·.1)=false:=by rfl) :
  PE X (.Call (.Name x p) (e :: es) [] pos) (tCall sp dvs E t):=by
 intro pins s σ H Q I h
 refine wpAny_Call_Name_kw (a5n I hg hm ?_ hdb)
 refine PySem.W.callWith_K (h₀:=X.base) I.ok.mod.kin hk (thn (ha pos pins s σ H _ I h) fun us s1 ⟨vs,H1,I1,r,q⟩=>⟨I1.kIn,?_⟩) he hpl
 exact run_fn F hr hb hd hx I1 r q
structure Mk (K:PySem.W.Frag) (C f:Addr):Prop where
 makes:PySem.W.makesIn K C=true
 init:PySem.W.findIn K (.ref C) "__init__"=some (some (.ref f))
 fn:PySem.W.isFn K (.ref f)=true
 kp:PySem.W.keepIn K (.ref C)=true
end
def PK (X:Cx) (kws:List Keyword) (t:TA):Prop :=
 ∀ (pos:Pos) (pins:List (Addr × Obj)) (s:Shared) (σ:St) (H:Hp) (Q:List V→Hp→Prop),Inv X pins σ H s→t σ H Q→wpAny (model X.prog X.w) X.A (evalAll ((backToKw pos (keywordEach kws X.env)).map (·.2))) (AP X pins σ Q) X.xe s
section
variable {X:Cx} {CX:CXT} {k:Nat} {f C:Addr} {fd:FuncData} {ps ks:List Str} {sp:Sp} {E:XK} {x m:Str} {p pos apos kpos:Pos} {e o:Expr} {es:List Expr} {kws:List Keyword} {te ta:TE} {t tk:TA} {nm:Option Str}
structure KBinds (K:PySem.W.Frag) (fd:FuncData) (ps ks:List Str) (g:List Value→List Value→List Value) (gV:List V→List V→List V):Prop where
 to:∀ (s:Shared) (us ws:List Value),K.In s.heap→(g us ws).length=ps.length→BindsTo s fd ⟨us,ks.zip ws⟩ (ps.zip (g us ws))
 rel:∀ {vs:List V} {us:List Value} {zs:List V} {ws:List Value},a0D vs us→a0D zs ws→a0D (gV vs zs) (g us ws)
variable {g:List Value→List Value→List Value} {gV:List V→List V→List V}
end
structure a0o (N P:List Str) (sc:Scope):Prop where
 kind:sc.kind=.function
 co:sc.isCoroutine=false
 gen:sc.isGenerator=false
 nd:N.Nodup
 pre:N.take P.length=P
 par:∀ x∈P,sc.names.lookup x=some .local∨sc.names.lookup x=some .cell
 nofree:∀ y∈sc.names,y.2≠.free
theorem a4y {kindOf:Str→Option NameKind} {x:Str}:∀ {binds:List (Str × Value)} {m:Str→Option Value},(∀ v,(x,v)∉binds)→bindL kindOf binds m x=m x
 | [],_,_=>rfl
 | (n,v) :: r,m,h=>by
  unfold bindL
  rw [a4y fun w hw=>h w (List.mem_cons_of_mem _ hw)]
  split
  ·have:x≠n:=by rintro rfl;exact h v List.mem_cons_self
   simp [this]
  ·rfl
theorem a4z {kindOf:Str→Option NameKind} {x:Str}:∀ {binds:List (Str × Value)} {m:Str→Option Value},(∀ v,(x,v)∉binds)→bindC kindOf binds m x=m x
 | [],_,_=>rfl
 | (n,v) :: r,m,h=>by
  unfold bindC
  rw [a4z fun w hw=>h w (List.mem_cons_of_mem _ hw)]
  split
  ·rfl
  ·have:x≠n:=by rintro rfl;exact h v List.mem_cons_self
   simp [this]
theorem a4A {kindOf:Str→Option NameKind} {x:Str} {v:Value}:∀ {P:List Str} {vs:List Value} {i:Nat} {m:Str→Option Value},P.Nodup→P[i]?=some x→vs[i]?=some v→kindOf x=some .local →
  bindL kindOf (P.zip vs) m x=some v
 | [],_,_,_,_,h,_,_=>by simp at h
 | _ :: _,[],_,_,_,_,h,_=>by simp at h
 | p :: P,w :: vs,0,m,nd,h1,h2,hk=>by
  simp at h1 h2;subst h1;subst h2
  show bindL kindOf ((p,w) :: P.zip vs) m p=_
  unfold bindL
  rw [a4y fun v hv=>(List.nodup_cons.mp nd).1 (List.of_mem_zip hv).1,if_pos hk]
  simp
 | p :: P,w :: vs,i+1,m,nd,h1,h2,hk=>by
  show bindL kindOf ((p,w) :: P.zip vs) m x=_
  unfold bindL
  exact a4A (i:=i) (List.nodup_cons.mp nd).2 (by simpa using h1) (by simpa using h2) hk
theorem a4B {kindOf:Str→Option NameKind} {x:Str} {v:Value}:∀ {P:List Str} {vs:List Value} {i:Nat} {m:Str→Option Value},P.Nodup→P[i]?=some x→vs[i]?=some v→kindOf x≠some .local →
  bindC kindOf (P.zip vs) m x=some v
 | [],_,_,_,_,h,_,_=>by simp at h
 | _ :: _,[],_,_,_,_,h,_=>by simp at h
 | p :: P,w :: vs,0,m,nd,h1,h2,hk=>by
  simp at h1 h2;subst h1;subst h2
  show bindC kindOf ((p,w) :: P.zip vs) m p=_
  unfold bindC
  rw [a4z fun v hv=>(List.nodup_cons.mp nd).1 (List.of_mem_zip hv).1,if_neg hk]
  simp
 | p :: P,w :: vs,i+1,m,nd,h1,h2,hk=>by
  show bindC kindOf ((p,w) :: P.zip vs) m x=_
  unfold bindC
  exact a4B (i:=i) (List.nodup_cons.mp nd).2 (by simpa using h1) (by simpa using h2) hk
def start (N:List Str) (vs:List V):St:=vs.map some++List.replicate (N.length - vs.length) none
def a7R (CX:CXT) (P:Program) (w:World) (K:PySem.W.Frag) (mg:Str→Option Value) (base:Heap) (N:List Str) (qual:Str) (scope:Scope) (f:Addr) (cd:Value) (A:Around) (outer:List Env) (s:Shared) (H:Hp) (E:XK):Cx where
 prog:=P
 w:=w
 K:=K
 mg:=mg
 base:=base
 A:=A.deeper (envOfC qual scope s.heap.objs.size f cd)
 N:=N
 s₀:=s
 H₀:=H
 env:=envOfC qual scope s.heap.objs.size f cd
 outer:=outer
 stack:=envOfC qual scope s.heap.objs.size f cd :: outer
 ex:=[]
 calm:=true
 fn:=fun _=>true
 pn:=[]
 xe:=fun e s'=>wpAny (model P w) (A.deeper (envOfC qual scope s.heap.objs.size f cd)) (leaving (envOfC qual scope s.heap.objs.size f cd) e) (fun _ s''=>CX outer H s E e s'') (fun e' s''=>CX outer H s E e' s'') s'
theorem a5Y {sc:Scope} {n:Nat} {x:Str} (h:sc.names.lookup x=some .cell):∃ c,(cellsFrom n sc.names []).lookup x=some c:=by
 have q:=PySem.W.cellsFrom_some sc.names n [] (.inl h)
 exact Option.isSome_iff_exists.mp q
theorem a8l {CX:CXT} {P:Program} {w:World} {K:PySem.W.Frag} {mg:Str→Option Value} {base:Heap} {N ps:List Str} {qual:Str} {scope:Scope} {f:Addr} {cd:Value} {A:Around} {outer:List Env} {s s1:Shared} {H:Hp} {E:XK} {us:List Value} {vs:List V}
  (S:a0o N ps scope) (hd:A.handled=none) (e0:b2g P w K mg base A outer s H) (hl:vs.length=ps.length) (r:a0D vs us)
  (x:InCallC s s.heap.objs.size (bindL (envOfC qual scope s.heap.objs.size f cd).kindOf (ps.zip us) fun _=>none) (cellsFrom (s.heap.objs.size+1) scope.names []) (bindC (envOfC qual scope s.heap.objs.size f cd).kindOf (ps.zip us) fun _=>none) s1) :
  Inv (a7R CX P w K mg base N qual scope f cd A outer s H E) [] (start N vs) H s1:=by
 have hpl:ps.length≤N.length:=by have:=congrArg List.length S.pre;rw [List.length_take] at this;omega
 obtain ⟨h1,tk,rfl,hk⟩:=x.done
 have noA:∀ b:Addr,b∉(a7R CX P w K mg base N qual scope f cd A outer s H E).ex:=fun b z=>absurd (show b∈([]:List Addr) from z) (by simp)
 refine ⟨⟨e0.mod,S.kind,rfl,rfl,Nat.le_refl _,fun y z c h1 h2=>?_,fun y hy=>?_,fun y c _ h=>?_,fun _=>hd,Around.frames_deeper e0.frames,.inr ⟨rfl,rfl⟩,fun b z=>absurd z (noA b),e0.bs,e0.bsz,fun b _ _=>noA b,fun b z=>absurd z (noA b),e0.funs,e0.frf⟩,
  rfl,e0.bare,Un.kept hk,⟨_,x.toInCall.ns,fun i y v h1 h2 h3=>?_⟩,fun y c h=>⟨_,x.cell y c h⟩,e0.hok.fresh (Nat.le_refl _),fun y c h=>?_,fun p hp=>absurd (show p∈([]:List (Addr × Obj)) from hp) (by simp),e0.hok.kept hk,?_⟩
 ·exact name_of_addr x.apart (PySem.mem_of_lookup h1) (PySem.mem_of_lookup h2)
 ·have hy:scope.names.lookup y=some .cell∨scope.names.lookup y=some .free:=hy
  rcases hy with hy | hy
  ·exact a5Y hy
  ·exact absurd rfl (S.nofree _ (PySem.mem_of_lookup hy))
 ·exact Nat.le_of_lt (x.above y c (PySem.mem_of_lookup h))
 ·have hi:i < vs.length:=by
   unfold start at h2
   by_cases hi:i < vs.length
   ·exact hi
   ·rw [List.getElem?_append_right (by simpa using hi)] at h2
    rw [List.getElem?_replicate] at h2
    split at h2 <;> cases h2
  have ha:vs[i]?=some v:=by
   unfold start at h2
   rw [List.getElem?_append_left (by simpa using hi),List.getElem?_map] at h2
   cases e:vs[i]? with
   | none=>rw [e] at h2;cases h2
   | some a=>rw [e] at h2;cases h2;rfl
  obtain ⟨u,hu,rv⟩:=r.get ha
  have hp:ps[i]?=some y:=by
   rw [←S.pre,List.getElem?_take_of_lt (by omega)];exact h1
  have ndP:ps.Nodup:=by rw [←S.pre];exact S.nd.sublist (List.take_sublist _ _)
  refine ⟨u,rv,?_⟩
  rcases S.par y (List.mem_of_getElem? hp) with k | k
  ·exact .inl ⟨k,a4A ndP hp hu k⟩
  ·obtain ⟨c,e⟩:=a5Y (n:=s.heap.objs.size+1) k
   refine .inr ⟨.inl k,c,e,?_⟩
   have q:=x.cell y c e
   rw [a4B ndP hp hu (by show scope.names.lookup y≠_;rw [k];decide)] at q
   exact q
 ·exact e0.hok.fresh (Nat.le_of_lt (x.above y c (PySem.mem_of_lookup h)))
 ·unfold start
  show _=N.length
  rw [List.length_append,List.length_map,List.length_replicate]
  omega
theorem fn_of {CX:CXT} {P:Program} {w:World} {K:PySem.W.Frag} {mg:Str→Option Value} {base:Heap} {k:Nat} {f:Addr} {name qual:Str} {params:Arguments} {body:List Stmt} {scope:Scope} {dV kV doc pm cdv ct oc:Value} {an od:Option Addr}
  {osl:Array (Option Value)} {N ps:List Str} {sp:Sp} (lk:K.lookup f=some ⟨oc,od,.func (PySem.W.fnOf name qual params body scope dV kV doc pm an cdv ct),osl⟩) (hcd:PySem.W.codeIn K cdv qual=true) (S:a0o N ps scope)
  (len:∀ vs H Q E,sp vs H Q E→vs.length=ps.length)
  (hbody:∀ (A:Around) (outer:List Env) (s:Shared) (H:Hp) (vs:List V) (Q:VK) (E:XK),a2t k (A.deeper (envOfC qual scope s.heap.objs.size f cdv))→sp vs H Q E →
   ∃ t,PSs (a7R CX P w K mg base N qual scope f cdv A outer s H E) body t∧t { nx:=fun _ H'=>Q .non H',rt:=Q } (start N vs) H) :
  a1c P w K mg base CX (k+1) f (PySem.W.fnOf name qual params body scope dV kV doc pm an cdv ct) ps sp:=by
 refine ⟨len,fun A outer s H args us vs Q E hr e0 hb r hsp=>?_⟩
 have hl:=len _ _ _ _ hsp
 have KX:K.In s.heap:=e0.mod.kin.keeps fun b o e=>(e0.bs b o e).1
 have lim:s.heap.NoLimit:=e0.mod.nolimit.keeps fun b o e=>(e0.bs b o e).1
 have hkind:∀ y∈ps.zip us,scope.names.lookup y.1=some .local∨(scope.names.lookup y.1=some .cell∧((cellsFrom (s.heap.objs.size+1) scope.names []).lookup y.1).isSome=true):=fun ⟨n,v⟩ hy=>by
  rcases S.par n (List.of_mem_zip hy).1 with q | q
  ·exact .inl q
  ·exact .inr ⟨q,PySem.W.cellsFrom_some _ _ _ (.inl q)⟩
 refine codeAny_call_function hr.depth (KX _ _ lk) rfl S.co S.gen rfl (PySem.W.codeRec_of KX hcd) (hb _ _ _ _ ?_)
 refine wpAny_newFunctionEnv_cells S.kind hkind fun env he s1 x=>?_
 subst he
 refine ⟨lim.keeps x.toInCall.keep,codeAny_func ?_⟩
 obtain ⟨t,ht,hq⟩:=hbody A outer s H vs Q E (hr.deeper _) hsp
 have I:Inv (a7R CX P w K mg base N qual scope f cdv A outer s H E) [] (start N vs) H s1:=a8l S hr.hd e0 hl r x
 refine wpAny_mono (ht [] s1 (start N vs) H _ I hq) (fun fl s' hs=>?_) fun e s' hs=>hs
 have fin:∀ {σ':St} {H':Hp} {v:V} {u:Value},Inv (a7R CX P w K mg base N qual scope f cdv A outer s H E) [] σ' H' s'→a0O v u→Q v H'→CE outer P w H s Q u s' :=
  fun {σ' H' v u} J rv q=>⟨v,H',J.os,J.bare,J.base,J.hok,rv,q⟩
 cases fl with
 | ret u =>
  obtain ⟨v,σ',H',J,rv,q⟩:=hs
  exact fin J rv q
 | next =>
  obtain ⟨σ',H',J,q⟩:=hs
  exact fin (v:=V.non) (u:=Value.none) J rfl q
 | brk =>
  obtain ⟨_,_,_,q⟩:=hs
  exact False.elim q
 | cont =>
  obtain ⟨_,_,_,q⟩:=hs
  exact False.elim q
section
variable {X:Cx} {x:Str} {p pos:Pos} {e:Expr} {es:List Expr} {t:TA} {id T:String} {r:List V→Hp→VK→Prop}
def tCB (r:List V→Hp→VK→Prop) (t:TA):TE:=fun σ H Q=>t σ H fun vs H1=>r vs H1 Q
theorem a0j (hc:a1K X (.builtin id) r) (hg:Gl X x) (hm:X.mg x=none) (hv:bootBuiltins x=some (.builtin id)) (ha:PA X (e :: es) t) (hn:x≠"__name__":=by decide) (hdb:(x == ("__debug__":Str))=false:=by decide)
  (he:starEach (e :: es) X.env=(false,eval e X.env) :: starEach es X.env:=by rfl) (hpl:(backTo pos (starEach es X.env)).any (·.1)=false:=by rfl):PE X (.Call (.Name x p) (e :: es) [] pos) (tCB r t):=by
 intro pins s σ H Q I h
 refine wpAny_Call_Name_kw (a1t I hg hm hv ?_ hn hdb)
 exact PyProof.Rows.callWith_builtin1 (thn (ha pos pins s σ H _ I h) fun us s1 ⟨vs,H1,I1,r1,q1⟩=>hc pins s1 σ H1 vs us Q I1 r1 q1) he hpl
theorem a0K (hc:a1K X (.type T) r) (hg:Gl X x) (hm:X.mg x=none) (hv:bootBuiltins x=some (.type T)) (ha:PA X (e :: es) t) (hn:x≠"__name__":=by decide) (hdb:(x == ("__debug__":Str))=false:=by decide)
  (he:starEach (e :: es) X.env=(false,eval e X.env) :: starEach es X.env:=by rfl) (hpl:(backTo pos (starEach es X.env)).any (·.1)=false:=by rfl):PE X (.Call (.Name x p) (e :: es) [] pos) (tCB r t):=by
 intro pins s σ H Q I h
 refine wpAny_Call_Name_kw (a1t I hg hm hv ?_ hn hdb)
 exact PyProof.Rows.callWith_type1 (thn (ha pos pins s σ H _ I h) fun us s1 ⟨vs,H1,I1,r1,q1⟩=>hc pins s1 σ H1 vs us Q I1 r1 q1) he hpl
end
end L2
namespace HT
open PySem PyProof.Rows
def a1b:List Int→List Int→Bool
 | [],[]=>false
 | [],_ :: _=>true
 | _ :: _,[]=>false
 | x :: xs,y :: ys=>if x=y then a1b xs ys else decide (x < y)
theorem a1e (x y:Int) (xs ys:List Int):a1b (x :: xs) (y :: ys)=if x=y then a1b xs ys else decide (x < y):=rfl
theorem a3F:a1b [] []=false:=rfl
theorem a3j (y:Int) (ys:List Int):a1b [] (y :: ys)=true:=rfl
theorem a3k (x:Int) (xs:List Int):a1b (x :: xs) []=false:=rfl
theorem b0e (A:Around) (s:Shared) (a:Int) (t:Tok) (c:Int) (u:Tok):∃ e,SeqAt.EqAt A s (.int a t) (.int c u) e∧(e=true↔a=c) :=
 ⟨(a == c),SeqAt.EqAt.int_int a t c u,by simp⟩
theorem b0f (A:Around) (s:Shared) (a:Int) (t:Tok) (c:Int) (u:Tok) (prog:Program) (w:World) (E:Value→Shared→Prop) (Q:Value→Shared→Prop) (h:Q (.bool (decide (a < c))) s) :
  wpAny (model prog w) A (richCompare .Lt (.int a t) (.int c u)) Q E s :=
 (PyProof.Rows.lt_int h:wpAny (model prog w) A (compareOp .Lt (.int a t) (.int c u)) Q E s)
section
open PySem.SeqAt
open PySem.AutoSeq1 (wpAny_loadPart')
open PySem.MeetsSeq PySem.MeetsSeq2 PySem.MeetsSeq3
theorem a1U (l b:Addr) (items items2:Array Value) (n n2:Nat) (dd dd2:Option Addr) (sl sl2:Array (Option Value)) (ns ms:List Int) (hi:IntsAre items.toList ns) (hj:IntsAre items2.toList ms) :
  Meets (Builtin.«tuple.__lt__» ⟨[.ref l,.ref b],[]⟩)
   (fun _ R s=>s.heap.get? l=some { cls:=.type "tuple",dict:=dd,data:=.seq items n,slots:=sl }∧s.heap.get? b=some { cls:=.type "tuple",dict:=dd2,data:=.seq items2 n2,slots:=sl2 } ∧
    R (.ok (.ret (.bool (a1b ns ms)))) s) :=
 .of_wp fun prog w A R s h=>by
  obtain ⟨hp,g,d,tk,os⟩:=s;obtain ⟨hl,hb,h⟩:=h
  have f2:=AutoSeq1.sub_tuple_tuple
  have z1:items.size=ns.length:=by rw [←hi.length];simp
  have z2:items2.size=ms.length:=by rw [←hj.length];simp
  wp_walk using wpAny_loadPart' hl,wpAny_loadPart' hb,wpAny_forIn_list _ (fun rest b s'=>b.1=none∧s'=⟨hp,g,d,tk,os⟩∧∃ (vs ws:List Value) (ns' ms':List Int),rest=vs.zip ws ∧
   IntsAre vs ns'∧IntsAre ws ms'∧ns'.length+items2.size=ms'.length+items.size∧R (.ok (.ret (.bool (a1b ns' ms')))) ⟨hp,g,d,tk,os⟩) _
  case turn =>
   rintro ⟨y,x⟩ rest b s' ⟨hb',rfl,vs,ws,ns',ms',hz,hvi,hwi,hlen,hR⟩
   cases hvi with
   | nil=>rw [List.zip_nil_left] at hz;cases hz
   | cons a t hvi' =>
    cases hwi with
    | nil=>rw [List.zip_nil_right] at hz;cases hz
    | cons c u hwi' =>
     rw [List.zip_cons_cons] at hz
     injection hz with hyx hrest
     injection hyx with hy hx
     subst hy hx
     rw [a1e] at hR
     simp only [List.length_cons] at hlen
     obtain ⟨e,he,hiff⟩:=b0e A.in1 ⟨hp,g,d,tk,os⟩ a t c u
     refine wpAny_bind (he prog w _ _ ?_)
     cases e with
     | true =>
      rw [if_pos (hiff.mp rfl)] at hR
      wp_walk
      exact ⟨rfl,rfl,_,_,_,_,hrest,hvi',hwi',by omega,hR⟩
     | false =>
      rw [if_neg (fun q=>absurd (hiff.mpr q) Bool.false_ne_true)] at hR
      have hri:=b0f A.in1 ⟨hp,g,d,tk,os⟩ a t c u prog w
      wp_walk using hri
      exact ⟨_,rfl,by simpa using hR⟩
  case fin =>
   rintro ⟨b1,b2⟩ s' ⟨hb',rfl,vs,ws,ns',ms',hz,hvi,hwi,hlen,hR⟩
   simp only at hb'
   subst hb'
   have hv:a1b ns' ms'=decide (items.size < items2.size):=by
    cases hvi with
    | nil =>
     cases hwi with
     | nil =>
      simp only [List.length_nil] at hlen
      rw [a3F]
      exact (decide_eq_false (by omega)).symm
     | cons c u hw =>
      simp only [List.length_nil,List.length_cons] at hlen
      rw [a3j]
      exact (decide_eq_true (by omega)).symm
    | cons a t hv =>
     cases hwi with
     | nil =>
      simp only [List.length_nil,List.length_cons] at hlen
      rw [a3k]
      exact (decide_eq_false (by omega)).symm
     | cons c u hw =>
      rw [List.zip_cons_cons] at hz
      cases hz
   rw [hv] at hR
   wp_walk
   exact ⟨_,rfl,by simpa [Builtin.Tuple.tupleCompareSizes] using hR⟩
  case h =>
   exact ⟨rfl,rfl,items.toList,items2.toList,ns,ms,rfl,hi,hj,by omega,h⟩
end
section
variable {prog:Program} {w:World} {A:Around} {E:Value→Shared→Prop} {s:Shared}
theorem a3q {l b:Addr} {items items2:Array Value} {ns ms:List Int} {Q:Value→Shared→Prop} (hl:IsTup s.heap l items) (hb:IsTup s.heap b items2) (hi:IntsAre items.toList ns) (hj:IntsAre items2.toList ms)
  (hu:A.units < cLine) (h:Q (.bool (a1b ns ms)) s):wpAny (model prog w) A (compareOp .Lt (.ref l) (.ref b)) Q E s:=by
 obtain ⟨⟨cls,dd,data,sl⟩,ho,hc,n,hd⟩:=id hl
 obtain ⟨⟨cls2,dd2,data2,sl2⟩,ho2,hc2,n2,hd2⟩:=id hb
 simp only at hc hd hc2 hd2
 subst hc hd hc2 hd2
 exact richCompare_meets_room (op:=.Lt) ⟨_,ho,rfl⟩ ⟨_,ho2,rfl⟩ PySem.F.slot_tuple_lt PySem.F.entry_tuple_lt (PySem.F.args_tuple_lt_2 _ _) (a1U l b items items2 n n2 dd dd2 sl sl2 ns ms hi hj)
  ⟨ho,ho2,show Value.bool (a1b ns ms)≠Value.notImplemented∧Q (.bool (a1b ns ms)) s from ⟨(fun x=>nomatch x),h⟩⟩ hu
theorem b2h {t b:Addr} {vs ws:List Value} {Q:Value→Shared→Prop} (ht:IsTup s.heap t vs.toArray) (hb:IsTup s.heap b ws.toArray) (hv:vs≠[])
  (h1:ws=[]→Q (.ref t) s) (h2:ws≠[]→Q (.ref s.heap.objs.size) { s with heap:=s.heap.push { cls:=.type "tuple",data:=.seq (vs++ws).toArray } })
  (hsz:vs.length+ws.length≤sizeLine):wpAny (model prog w) A (binaryOp .Add (.ref t) (.ref b)) Q E s:=by
 obtain ⟨⟨cls,dd,data,sl⟩,ho,hc,n,hd⟩:=id ht
 obtain ⟨⟨cls2,dd2,data2,sl2⟩,ho2,hc2,n2,hd2⟩:=id hb
 simp only at hc hd hc2 hd2
 subst hc hd hc2 hd2
 have e:vs.toArray++ws.toArray=(vs++ws).toArray:=by simp
 by_cases hw:ws=[]
 ·exact concat_meets ⟨_,ho,rfl⟩ ⟨_,ho2,rfl⟩ noFill_tuple_add seq_tuple_add PySem.F.slot_tuple_add PySem.F.entry_tuple_add (PySem.F.args_tuple_add_2 _ _)
   (tuple_addW1 t b vs.toArray ws.toArray n n2 dd dd2 sl sl2 (by simpa using hv) (by simp [hw])) ⟨ho,ho2,h1 hw⟩
 ·refine concat_meets ⟨_,ho,rfl⟩ ⟨_,ho2,rfl⟩ noFill_tuple_add seq_tuple_add PySem.F.slot_tuple_add PySem.F.entry_tuple_add (PySem.F.args_tuple_add_2 _ _)
   (tuple_addW2 t b vs.toArray ws.toArray n n2 dd dd2 sl sl2 (by simpa using hv) (by simpa using hw) (by rw [List.size_toArray,List.size_toArray];exact hsz)) ⟨ho,ho2,?_⟩
  rw [e]
  exact h2 hw
def sIx (n d:Nat):Option Int→Nat
 | none=>d
 | some v=>if v < 0 then (v+(n:Int)).toNat else min v.toNat n
theorem a5Z (n d:Nat):sIx n d none=d:=rfl
theorem a3G (n d k:Nat):sIx n d (some (k:Int))=min k n:=by
 show (if (k:Int) < 0 then ((k:Int)+(n:Int)).toNat else min (k:Int).toNat n)=min k n
 rw [if_neg (by omega),Int.toNat_natCast]
theorem sIx_le (n d:Nat) (hd:d≤n) (o:Option Int):sIx n d o≤n:=by
 cases o with
 | none=>exact hd
 | some v =>
  show (if v < 0 then (v+(n:Int)).toNat else min v.toNat n)≤n
  by_cases hv:v < 0
  ·rw [if_pos hv];omega
  ·rw [if_neg hv];exact Nat.min_le_right _ _
theorem a8m (v:Int) (n d:Nat):(if v < 0 then max (v+(n:Int)) 0 else min v (n:Int))=((sIx n d (some v):Nat):Int):=by
 show (if v < 0 then max (v+(n:Int)) 0 else min v (n:Int))=(((if v < 0 then (v+(n:Int)).toNat else min v.toNat n):Nat):Int)
 by_cases hv:v < 0
 ·simp only [if_pos hv];omega
 ·simp only [if_neg hv];omega
theorem a7e (lo hi:Option Int) (n:Nat):Builtin.Slice.sliceAdjust lo hi 1 (n:Int)=(((sIx n 0 lo:Nat):Int),((sIx n n hi:Nat):Int)):=by
 have h1:¬ ((1:Int) < 0):=by omega
 unfold Builtin.Slice.sliceAdjust
 simp only [h1,if_false]
 refine Prod.ext ?_ ?_
 ·cases lo with
  | none=>rfl
  | some v=>exact a8m v n 0
 ·cases hi with
  | none=>rfl
  | some v=>exact a8m v n n
theorem a7f (i j:Nat):Builtin.Slice.slicePlaces (i:Int) (j:Int) 1=j - i:=by
 unfold Builtin.Slice.slicePlaces
 have h1:(1:Int) > 0:=by omega
 simp only [h1,if_true,Int.ediv_one]
 split <;> omega
theorem a3r {v:Value} {o:Option Int} {Q:Option Int→Shared→Prop} (p:IsPart v o) (h:Q o s):wpAny (model prog w) A (Builtin.Slice.slicePartIndex v) Q E s:=by
 cases p with
 | none=>exact slicePart_none h
 | int i t=>exact slicePart_int h
theorem a1r {sl:Addr} {vl vu:Value} {lo hi:Option Int} {n:Nat} {Q:Int × Int × Nat→Shared→Prop} (hs:s.heap.IsSliceOf sl vl vu .none) (pl:IsPart vl lo) (pu:IsPart vu hi)
  (h:Q (((sIx n 0 lo:Nat):Int),1,sIx n n hi - sIx n 0 lo) s):wpAny (model prog w) A (Builtin.Slice.sliceApplied (.ref sl) (pure (n:Int))) Q E s:=by
 obtain ⟨os,hos,hcs,hds⟩:=id hs
 unfold Builtin.Slice.sliceApplied Builtin.Slice.sliceFields
 refine wpAny_bind (wpAny_bind (wpAny_field hos hds (x:=vl) rfl (wpAny_bind (wpAny_field hos hds (x:=vu) rfl (wpAny_bind (wpAny_field hos hds (x:=.none) rfl (wpAny_pure ?_)))))))
 refine wpAny_bind (slicePart_none ?_)
 show wpAny _ _ (if ((1:Int) == 0)=true then _ else _) _ _ s
 rw [if_neg (by decide)]
 refine wpAny_bind (a3r pl (wpAny_bind (a3r pu (wpAny_bind (wpAny_pure ?_)))))
 show wpAny _ _ (match Builtin.Slice.sliceAdjust lo hi 1 (n:Int) with | (lo,hi)=>pure (lo,(1:Int),Builtin.Slice.slicePlaces lo hi 1)) _ _ s
 rw [a7e lo hi n]
 show wpAny _ _ (pure (((sIx n 0 lo:Nat):Int),(1:Int),Builtin.Slice.slicePlaces ((sIx n 0 lo:Nat):Int) ((sIx n n hi:Nat):Int) 1)) _ _ s
 rw [a7f]
 exact wpAny_pure h
theorem b0g (xs:Array Value) (i k:Nat):((List.range k).filterMap fun (m:Nat)=>xs[((i:Int)+(m:Int) * 1).toNat]?).toArray=((xs.toList.drop i).take k).toArray:=by
 have e:(fun (m:Nat)=>xs[((i:Int)+(m:Int) * 1).toNat]?)=fun m=>xs[i+m]?:=by
  funext m
  have:((i:Int)+(m:Int) * 1).toNat=i+m:=by omega
  rw [this]
 rw [e]
 have:=pick_run xs i k
 rw [List.filterMap_map] at this
 have e2:((fun x=>xs[x]?) ∘ fun x=>i+x)=fun m=>xs[i+m]?:=rfl
 rw [e2] at this
 rw [this]
theorem a2g {t sl:Addr} {items:Array Value} {vl vu:Value} {lo hi:Option Int} {Q:Value→Shared→Prop} (ht:IsTup s.heap t items) (hs:s.heap.IsSliceOf sl vl vu .none) (pl:IsPart vl lo) (pu:IsPart vu hi)
  (hw:¬ (sIx items.size 0 lo=0∧sIx items.size items.size hi=items.size))
  (h:Q (.ref s.heap.objs.size) { s with heap:=s.heap.push { cls:=.type "tuple",data:=.seq ((items.toList.drop (sIx items.size 0 lo)).take (sIx items.size items.size hi - sIx items.size 0 lo)).toArray } })
  (hsz:items.size≤sizeLine):wpAny (model prog w) A (getItem (.ref t) (.ref sl)) Q E s:=by
 have htake:sizeOk (.seq ((items.toList.drop (sIx items.size 0 lo)).take (sIx items.size items.size hi - sIx items.size 0 lo)).toArray):=by
  show ((items.toList.drop (sIx items.size 0 lo)).take (sIx items.size items.size hi - sIx items.size 0 lo)).toArray.size≤sizeLine
  rw [List.size_toArray,List.length_take,List.length_drop,Array.length_toList]
  omega
 have hj:sIx items.size items.size hi≤items.size:=sIx_le _ _ (Nat.le_refl _) hi
 obtain ⟨os,hos,hcs,hds⟩:=id hs
 have hTs:s.TypeIs (.ref sl) "slice":=⟨os,hos,hcs⟩
 unfold getItem
 try with_reducible refine wpAny_holding ?_
 first | refine wpAny_bind (wpAny_pure ?_) | skip
 refine wpAny_bind (wpAny_sequenceKey ht.typeIs (by decide) ?_)
 refine wpAny_bind (wpAny_callSpecial?_slot (name:=Str.ofString "__getitem__") ht.typeIs PyProof.Rows.slot_tuple_getitem
  (wpAny_call_entry PyProof.Rows.slot_tuple_getitem ht.typeIs entry_tuple_getitem ?_ (args_tuple_getitem _ _)))
 show wpAny _ _ (Builtin.Tuple.tupleItemsOf (.ref t) >>= _) _ _ s
 refine wpAny_bind (tupleItemsOf_ ht ?_)
 refine wpAny_bind (wpAny_typeOf hTs ?_)
 rw [if_pos (by decide)]
 refine wpAny_bind (a1r hs pl pu ?_)
 have hno:¬ ((((sIx items.size 0 lo:Nat):Int) == 0 && (1:Int) == 1 && (sIx items.size items.size hi - sIx items.size 0 lo) == items.size)=true):=by
  intro q
  rw [Bool.and_eq_true,Bool.and_eq_true] at q
  have q1:((sIx items.size 0 lo:Nat):Int)=0:=eq_of_beq q.1.1
  have q2:sIx items.size items.size hi - sIx items.size 0 lo=items.size:=eq_of_beq q.2
  exact hw ⟨by omega,by omega⟩
 show wpAny _ _ (if (((sIx items.size 0 lo:Nat):Int) == 0 && (1:Int) == 1 && (sIx items.size items.size hi - sIx items.size 0 lo) == items.size)=true then _ else _) _ _ s
 rw [if_neg hno,b0g]
 first
  | exact wpAny_bind (m:=Builtin.Tuple.tupleExact _) (wpAny_newObj_type (wpAny_pure ⟨_,rfl,wpAny_pure h⟩) htake)
  | exact wpAny_bind (m:=Builtin.Tuple.tupleExact _) (wpAny_newObj_type (wpAny_bind (wpAny_pure (wpAny_pure ⟨_,rfl,wpAny_pure h⟩))) htake)
  | exact wpAny_bind (wpAny_bind (m:=Builtin.Tuple.tupleExact _) (wpAny_newObj_type (wpAny_pure (wpAny_pure ⟨_,rfl,wpAny_pure h⟩)) htake))
  | exact wpAny_bind (wpAny_bind (m:=Builtin.Tuple.tupleExact _) (wpAny_newObj_type (wpAny_pure ⟨_,rfl,wpAny_pure h⟩) htake))
end
end HT
namespace L2
open PySem PySem.Spec PyProof.Rows
abbrev TO:=St→Hp→(Option Int→Hp→Prop)→Prop
def PO (X:Cx) (e:Option Expr) (t:TO):Prop :=
 ∀ (pins:List (Addr × Obj)) (s:Shared) (σ:St) (H:Hp) (Q:Option Int→Hp→Prop),Inv X pins σ H s→t σ H Q →
  wpAny (model X.prog X.w) X.A (evalPart e X.env) (fun u s'=>∃ o H',Inv X pins σ H' s'∧IsPart u o∧Q o H') X.xe s
def b2i:TO:=fun _ H Q=>Q none H
def tPart (t:TE):TO:=fun σ H Q=>t σ H fun x H1=>∃ i,x=.int i∧Q (some i) H1
theorem a3s {ns:List Int}:∀ {us:List Value},a0D (ns.map V.int) us→IntsAre us ns:=by
 induction ns with
 | nil=>intro us r;rw [List.map_nil] at r;cases r;exact .nil
 | cons n ns ih =>
  intro us r
  rw [List.map_cons] at r
  cases r with
  | cons r1 r2 =>
   obtain ⟨t,e⟩:=r1
   subst e
   exact .cons n t (ih r2)
section
variable {X:Cx} {e:Expr} {te:TE} {lo hi:Option Expr} {tl th:TO} {pos p2:Pos}
theorem a2h:PO X none b2i:=by
 intro pins s σ H Q I h
 rw [evalPart_none]
 exact wpAny_pure ⟨none,H,I,.none,h⟩
theorem a1j (h:PE X e te):PO X (some e) (tPart te):=by
 intro pins s σ H Q I hw
 rw [evalPart_some]
 refine thn (h pins s σ H _ I hw) fun u s1 ⟨x,H1,I1,r1,q1⟩=>?_
 obtain ⟨i,rfl,q⟩:=q1
 obtain ⟨t,rfl⟩:=r1
 exact ⟨some i,H1,I1,.int i t,q⟩
def SlR (X:Cx) (r:V→Option Int→Option Int→Hp→VK→Prop):Prop :=
 ∀ (pins:List (Addr × Obj)) (s:Shared) (σ:St) (H:Hp) (x:V) (v vl vu:Value) (lo hi:Option Int) (sl:Addr) (Q:VK),Inv X pins σ H s→a0O x v→s.heap.IsSliceOf sl vl vu .none→IsPart vl lo→IsPart vu hi→r x lo hi H Q →
  ∃ T id,typeLookup (.type T) "__getitem__"=pure (some (.builtin id))∧s.TypeIs v T∧wpAny (model X.prog X.w) X.A (getItem v (.ref sl)) (EP X pins σ Q) X.xe s
def tSl (r:V→Option Int→Option Int→Hp→VK→Prop) (te:TE) (tl th:TO):TE:=fun σ H Q=>te σ H fun x H1=>tl σ H1 fun l H2=>th σ H2 fun u H3=>r x l u H3 Q
theorem a1i {r:V→Option Int→Option Int→Hp→VK→Prop} (hr:SlR X r) (he:PE X e te) (hl:PO X lo tl) (hu:PO X hi th):PE X (.Subscript e (.Slice lo hi none p2) pos) (tSl r te tl th):=by
 intro pins s σ H Q I h
 refine Subscript_ (thn (he pins s σ H _ I h) fun v s1 ⟨x,H1,I1,r1,q1⟩=>?_)
 refine wpAny_Slice (thn (hl pins s1 σ H1 _ I1 q1) fun vl s2 ⟨l,H2,I2,pl,q2⟩=>thn (hu pins s2 σ H2 _ I2 q2) fun vu s3 ⟨u,H3,I3,pu,q3⟩=>?_)
 rw [evalPart_none]
 refine wpAny_pure ?_
 have I4:Inv X pins σ H3 { s3 with heap:=s3.heap.push { cls:=.type "slice",data:=.fields #[vl,vu,.none] } }:=I3.kept (t':=s3.toks) fun b ob q=>Heap.get?_push_of_some _ q
 obtain ⟨T,id,hT,ht,hg⟩:=hr pins { s3 with heap:=s3.heap.push { cls:=.type "slice",data:=.fields #[vl,vu,.none] } } σ H3 x v vl vu l u s3.heap.objs.size Q I4 r1 (Heap.IsSliceOf.new ..) pl pu q3
 show wpAny (model X.prog X.w) X.A (subscriptTail e (.Slice lo hi none p2) v (.ref s3.heap.objs.size)) (EP X pins σ Q) X.xe { s3 with heap:=s3.heap.push { cls:=.type "slice",data:=.fields #[vl,vu,.none] } }
 exact tail_any (ops:=[.ref s3.heap.objs.size,v]) ht hT hg (by with_unfolding_all rfl)
def a3H (xs:List V) (lo hi:Option Int):List V:=(xs.drop (HT.sIx xs.length 0 lo)).take (HT.sIx xs.length xs.length hi - HT.sIx xs.length 0 lo)
theorem a2L (xs:List V) (lo hi:Option Int):(a3H xs lo hi).length≤xs.length:=by
 unfold a3H
 rw [List.length_take,List.length_drop]
 omega
def rSlT (K:PySem.W.Frag):V→Option Int→Option Int→Hp→VK→Prop:=fun x lo hi H Q=>∃ a xs,x=.ref a∧SqT K H a xs ∧
 ¬ (HT.sIx xs.length 0 lo=0∧HT.sIx xs.length xs.length hi=xs.length)∧∀ p,H p=none→Q (.ref p) (upd H p (.tup (a3H xs lo hi)))
theorem sl_tup:SlR X (rSlT X.K):=by
 intro pins s σ H x v vl vu lo hi sl Q I rx hs pl pu h
 obtain ⟨a,xs,rfl,hx,hw,q⟩:=h
 cases rx
 obtain ⟨its,r,ht,hz⟩:=I.tuple hx
 have hlen:its.toArray.size=xs.length:=by rw [List.size_toArray];exact r.length.symm
 refine ⟨"tuple",_,PyProof.Rows.slot_tuple_getitem.lookup,ht.typeIs,?_⟩
 refine HT.a2g ht hs pl pu (by rw [hlen];exact hw) ?_ (by rw [hlen];exact hz)
 rw [hlen]
 refine ⟨.ref s.heap.objs.size,_,I.laid (t':=s.toks) (o:=.tup (a3H xs lo hi)) (fun b ob q=>Heap.get?_push_of_some _ q) (Nat.le_refl _) ?_,rfl,q _ (I.hok.fresh (Nat.le_refl _))⟩
 exact ⟨Nat.le_trans (a2L xs lo hi) hz,_,(r.drop (HT.sIx xs.length 0 lo)).take (HT.sIx xs.length xs.length hi - HT.sIx xs.length 0 lo),a4o.new _ _⟩
def rLtT (K:PySem.W.Frag):R2:=fun x y H Q=>∃ a b ns ms,x=.ref a∧y=.ref b∧SqT K H a (ns.map V.int)∧SqT K H b (ms.map V.int)∧Q (.bl (HT.a1b ns ms)) H
theorem op_ltT (hu:X.A.units < cLine):OpR X (compareOp .Lt) (rLtT X.K):=by
 intro pins s σ H x y v u Q I rx ry h
 obtain ⟨a,b,ns,ms,rfl,rfl,ha,hb,q⟩:=h
 cases rx
 cases ry
 obtain ⟨its,r1,p1,_⟩:=I.tuple ha
 obtain ⟨its2,r2,p2,_⟩:=I.tuple hb
 have i1:IntsAre its.toArray.toList ns:=a3s r1
 have i2:IntsAre its2.toArray.toList ms:=a3s r2
 exact HT.a3q p1 p2 i1 i2 hu ⟨.bl (HT.a1b ns ms),H,I,rfl,q⟩
def rCatT (K:PySem.W.Frag):R2:=fun x y H Q=>∃ a b xs ys,x=.ref a∧y=.ref b∧SqT K H a xs∧SqT K H b ys∧xs≠[]∧xs.length+ys.length≤sizeLine ∧
 (ys=[]→Q (.ref a) H)∧(ys≠[]→∀ p,H p=none→Q (.ref p) (upd H p (.tup (xs++ys))))
theorem a0D.nil_iff {xs:List V} {us:List Value} (r:a0D xs us):us=[]↔xs=[]:=by
 cases r with
 | nil=>simp
 | cons _ _=>simp
theorem b2j:OpR X (binaryOp .Add) (rCatT X.K):=by
 intro pins s σ H x y v u Q I rx ry h
 obtain ⟨a,b,xs,ys,rfl,rfl,ha,hb,hx,hz,q1,q2⟩:=h
 cases rx
 cases ry
 obtain ⟨its,r1,p1,_⟩:=I.tuple ha
 obtain ⟨its2,r2,p2,_⟩:=I.tuple hb
 refine HT.b2h p1 p2 (fun z=>hx (r1.nil_iff.mp z)) (fun z=>⟨.ref a,H,I,rfl,q1 (r2.nil_iff.mp z)⟩) (fun z=>?_) (by rw [←r1.length,←r2.length];exact hz)
 refine ⟨.ref s.heap.objs.size,_,I.laid (t':=s.toks) (o:=.tup (xs++ys)) (fun b ob q=>Heap.get?_push_of_some _ q) (Nat.le_refl _) ?_,rfl,q2 (fun w=>z (r2.nil_iff.mpr w)) _ (I.hok.fresh (Nat.le_refl _))⟩
 exact ⟨by rw [List.length_append];exact hz,_,r1.append r2,a4o.new _ _⟩
end
def ixN (n:Nat) (i:Int):Option Nat:=if 0≤i then (if i < n then some i.toNat else none) else if -(n:Int)≤i then some (i+n).toNat else none
def atI {α:Type} (xs:List α) (i:Int):Option α:=(ixN xs.length i).bind fun j=>xs[j]?
theorem a8n {n:Nat} {i:Int} {j:Nat} (h:ixN n i=some j):seqIndex? i n=some j∧j < n∧-(n:Int)≤i∧i < n:=by
 unfold ixN at h
 by_cases h0:0≤i
 ·rw [if_pos h0] at h
  by_cases h1:i < n
  ·rw [if_pos h1] at h
   have e:i.toNat=j:=Option.some.inj h
   exact ⟨by rw [seqIndex_of h0 h1,e],by omega,by omega,h1⟩
  ·rw [if_neg h1] at h;cases h
 ·rw [if_neg h0] at h
  by_cases h1:-(n:Int)≤i
  ·rw [if_pos h1] at h
   have e:(i+n).toNat=j:=Option.some.inj h
   exact ⟨by rw [seqIndex_neg (by omega) h1,e],by omega,h1,by omega⟩
  ·rw [if_neg h1] at h;cases h
theorem a8o {α:Type} {xs:List α} {i:Int} {v:α} (h:atI xs i=some v):∃ j,seqIndex? i xs.length=some j∧xs[j]?=some v∧j < xs.length∧-(xs.length:Int)≤i∧i < xs.length:=by
 unfold atI at h
 cases e:ixN xs.length i with
 | none=>rw [e] at h;cases h
 | some j =>
  rw [e] at h
  obtain ⟨h1,h2,h3,h4⟩:=a8n e
  exact ⟨j,h1,h,h2,h3,h4⟩
theorem a2i {α:Type} {xs:List α} {j:Nat} {v:α} (h:xs[j]?=some v):atI xs (j:Int)=some v:=by
 have hj:j < xs.length:=(List.getElem?_eq_some_iff.mp h).1
 have e:ixN xs.length (j:Int)=some j:=by
  unfold ixN
  rw [if_pos (by omega),if_pos (by omega)];simp
 unfold atI;rw [e];exact h
def b2k (b:Expr):Prop:=∀ o i,subscripted b false o i=operate [o,i] (getItem o i)
def IxR (X:Cx) (r:R2):Prop :=
 ∀ (value slice:Expr) (pins:List (Addr × Obj)) (s:Shared) (σ:St) (H:Hp) (x y:V) (v u:Value) (Q:VK),Inv X pins σ H s→a0O x v→a0O y u→r x y H Q →
  subscripted slice false v u=operate [v,u] (getItem v u)→wpAny (model X.prog X.w) X.A (subscriptTail value slice v u) (EP X pins σ Q) X.xe s
def MtR (X:Cx) (id:String) (r:V→List V→Hp→VK→Prop):Prop :=
 ∀ (pins:List (Addr × Obj)) (s:Shared) (σ:St) (H:Hp) (x:V) (xs:List V) (v:Value) (us:List Value) (Q:VK),Inv X pins σ H s→a0O x v→a0D xs us→r x xs H Q →
  wpAny (model X.prog X.w) X.A (call (.builtin id) (v :: us)) (EP X pins σ Q) X.xe s
section
variable {X:Cx} {a b:Expr} {ta tb:TE} {pos:Pos}
theorem a0G {r:R2} (hr:IxR X r) (ha:PE X a ta) (hb:PE X b tb) (hs:b2k b):PE X (.Subscript a b pos) (tOp r ta tb):=by
 intro pins s σ H Q I h
 exact Subscript_ (binT ha hb I h fun v u s2 x y H2 I2 rx ry q=>hr a b pins s2 σ H2 x y v u Q I2 rx ry q (hs _ _))
def rIxL (K:PySem.W.Frag):R2:=fun x y H Q=>∃ p xs i v,x=.ref p∧y=.int i∧SqL K H p xs∧atI xs i=some v∧Q v H
def rIxT (K:PySem.W.Frag):R2:=fun x y H Q=>∃ p xs i v,x=.ref p∧y=.int i∧SqT K H p xs∧atI xs i=some v∧Q v H
def rIxS:R2:=fun x y H Q=>∃ z i c,x=.str z∧y=.int i∧z.length≤sizeLine∧atI z.cps.toList i=some c∧Q (.str ⟨#[c]⟩) H
theorem a0S:IxR X (rIxL X.K):=by
 intro value slice pins s σ H x y v u Q I rx ry h hs
 obtain ⟨p,xs,i,z,rfl,rfl,hq,he,q⟩:=h
 cases rx
 obtain ⟨t,rfl⟩:=ry
 obtain ⟨its,r,pl,hz⟩:=I.list hq
 obtain ⟨j,h1,h2,h3,h4,h5⟩:=a8o he
 obtain ⟨w,ew,rw'⟩:=r.get h2
 have hl:=r.length
 have hn:=a5W
 have fin:EP X pins σ Q w s:=⟨z,H,I,rw',q⟩
 by_cases h0:0≤i
 ·have hj:i.toNat=j:=by
   rw [seqIndex_of h0 h5] at h1
   exact Option.some.inj h1
  exact item_listR pl.isList h0 (by omega) (by rw [hj];simpa using ew) fin hs
 ·have hj:(i+(its.toArray.size:Int)).toNat=j:=by
   rw [seqIndex_neg (by omega) h4] at h1
   rw [List.size_toArray,←hl]
   exact Option.some.inj h1
  exact subscriptTail_builtinR (x:=w) pl.isList.typeIs slot_list_getitem.lookup
   (wpAny_getItem_list_neg (Q:=fun r s'=>r=w∧EP X pins σ Q r s') pl.isList (by omega) (by rw [List.size_toArray] <;> omega) (by omega) (by rw [hj];simpa using ew) ⟨rfl,fin⟩) hs
theorem a0V:IxR X (rIxT X.K):=by
 intro value slice pins s σ H x y v u Q I rx ry h hs
 obtain ⟨p,xs,i,z,rfl,rfl,hq,he,q⟩:=h
 cases rx
 obtain ⟨t,rfl⟩:=ry
 obtain ⟨its,r,pl,hz⟩:=I.tuple hq
 obtain ⟨j,h1,h2,h3,h4,h5⟩:=a8o he
 obtain ⟨w,ew,rw'⟩:=r.get h2
 have hl:=r.length
 have hn:=a5W
 have fin:EP X pins σ Q w s:=⟨z,H,I,rw',q⟩
 exact subscriptTail_builtinR (x:=w) pl.typeIs slot_tuple_getitem.lookup
  (getItem_tuple (j:=j) (Q:=fun r s'=>r=w∧EP X pins σ Q r s') pl (by omega) (by omega) (by rw [List.size_toArray,←hl];exact h1) (by simpa using ew) ⟨rfl,fin⟩) hs
def rIx (K:PySem.W.Frag):R2:=fun x y H Q=>rIxL K x y H Q∨rIxT K x y H Q∨rIxS x y H Q
theorem a7g (its:List Value) (n j:Nat) (u:Value):Obj.mapSeq (·.setIfInBounds j u) { cls:=.type "list",data:=.seq its.toArray n }={ cls:=.type "list",data:=.seq (its.set j u).toArray n }:=by
 simp [Obj.mapSeq]
theorem Inv.lst {pins:List (Addr × Obj)} {σ:St} {H:Hp} {s:Shared} {p:Addr} {xs:List V} (I:Inv X pins σ H s) (h:H p=some (.lst xs)) :
  ∃ (its:List Value) (n:Nat),a0D xs its∧s.heap.get? p=some { cls:=.type "list",data:=.seq its.toArray n }∧xs.length≤sizeLine:=by
 obtain ⟨z,its,n,r,e⟩:=I.hok p _ h
 exact ⟨its,n,r,e,z⟩
theorem Inv.lstUpd {pins:List (Addr × Obj)} {σ:St} {H:Hp} {s:Shared} {p:Addr} {xs ys:List V} {its its':List Value} {n n':Nat} {f:Obj→Obj} (I:Inv X pins σ H s) (h:H p=some (.lst xs))
  (ho:s.heap.get? p=some { cls:=.type "list",data:=.seq its.toArray n }) (hf:f { cls:=.type "list",data:=.seq its.toArray n }={ cls:=.type "list",data:=.seq its'.toArray n' }) (r:a0D ys its') (hz:ys.length≤sizeLine) (t:Nat) :
  Inv X pins σ (upd H p (.lst ys)) { s with heap:=s.heap.update p f,toks:=t }:=by
 have e:(s.heap.update p f).get? p=some { cls:=.type "list",data:=.seq its'.toArray n' }:=by
  rw [Heap.get?_update_self f ho (by rw [hf] <;> rfl),hf]
 refine I.write (x:=p) (e:=p) (by rw [h];trivial) (.inl rfl) (fun b u hb q=>(Heap.get?_update_other _ _ (Ne.symm hb)).trans q) ⟨_,e⟩ ?_
 exact ⟨hz,its',n',r,e⟩
def rSetL:V→V→V→Hp→(Hp→Prop)→Prop:=fun o i v H Q=>∃ p xs k j,o=.ref p∧i=.int k∧H p=some (.lst xs)∧ixN xs.length k=some j∧Q (upd H p (.lst (xs.set j v)))
theorem b0h:PSet X rSetL:=by
 intro pins s σ H o i v ov iv u Q I ro ri rv h
 obtain ⟨p,xs,k,j,rfl,rfl,hp,hj,q⟩:=h
 cases ro
 obtain ⟨t,rfl⟩:=ri
 obtain ⟨its,n,r,ho,hz⟩:=I.lst hp
 obtain ⟨h1,h2,h3,h4⟩:=a8n hj
 have hl:=r.length
 have hn:=a5W
 have I':Inv X pins σ (upd H p (.lst (xs.set j v))) { s with heap:=s.heap.update p (Obj.mapSeq (·.setIfInBounds j u)) } :=
  I.lstUpd hp ho (a7g its n j u) (r.set rv j) (by rw [List.length_set];exact hz) s.toks
 by_cases h0:0≤k
 ·have hk:k.toNat=j:=by
   rw [seqIndex_of h0 h4] at h1
   exact Option.some.inj h1
  exact PySem.W.ki_setAt ho h0 (by omega) (by rw [List.size_toArray,←hl];exact h4) (by rw [hk];exact ⟨_,I',q⟩)
 ·have hk:(k+(its.toArray.size:Int)).toNat=j:=by
   rw [seqIndex_neg (by omega) h3] at h1
   rw [List.size_toArray,←hl]
   exact Option.some.inj h1
  exact PySem.W.ki_setBack ho (by omega) (by rw [List.size_toArray,←hl];exact h3) (by omega) (by rw [hk];exact ⟨_,I',q⟩)
theorem a4C (lo hi:Option Int) (n:Nat):(sliceBounds lo hi none n).1=((HT.sIx n 0 lo:Nat):Int)∧(sliceBounds lo hi none n).2.1=((HT.sIx n n hi:Nat):Int)∧(sliceBounds lo hi none n).2.2=1:=by
 refine ⟨?_,?_,rfl⟩
 ·cases lo with
  | none=>simp [sliceBounds,HT.sIx]
  | some i =>
   simp only [sliceBounds,HT.sIx,Option.getD_none,show (1:Int) > 0 by decide,if_true]
   by_cases h:i < 0
   ·simp only [h,if_true] <;> omega
   ·simp only [h,if_false] <;> omega
 ·cases hi with
  | none=>simp [sliceBounds,HT.sIx]
  | some i =>
   simp only [sliceBounds,HT.sIx,Option.getD_none,show (1:Int) > 0 by decide,if_true]
   by_cases h:i < 0
   ·simp only [h,if_true] <;> omega
   ·simp only [h,if_false] <;> omega
theorem a3I (its:List Value) (lo hi:Option Int):slicePick its.toArray lo hi none=((its.drop (HT.sIx its.length 0 lo)).take (HT.sIx its.length its.length hi - HT.sIx its.length 0 lo)).toArray:=by
 obtain ⟨h1,h2,h3⟩:=a4C lo hi its.toArray.size
 unfold slicePick
 rw [h1,h2,h3]
 simp only [sliceRange_one,pick_run,List.size_toArray] <;> rfl
def rSlL (K:PySem.W.Frag):V→Option Int→Option Int→Hp→VK→Prop:=fun x lo hi H Q=>∃ a xs,x=.ref a∧SqL K H a xs∧∀ p,H p=none→Q (.ref p) (upd H p (.lst (a3H xs lo hi)))
theorem a5o:SlR X (rSlL X.K):=by
 intro pins s σ H x v vl vu lo hi sl Q I rx hs pl pu h
 obtain ⟨a,xs,rfl,hx,q⟩:=h
 cases rx
 obtain ⟨its,r,ht,hz⟩:=I.list hx
 have hlen:=r.length
 refine ⟨"list",_,slot_list_getitem.lookup,ht.isList.typeIs,?_⟩
 refine wpAny_getItem_list_slice ht.isList hs pl pu .none (by simp) ?_ (by rw [List.size_toArray] <;> omega)
 rw [a3I,←hlen]
 refine ⟨.ref s.heap.objs.size,_,I.laid (t':=s.toks) (o:=.lst (a3H xs lo hi)) (fun b ob q=>Heap.get?_push_of_some _ q) (Nat.le_refl _) ?_,rfl,q _ (I.hok.fresh (Nat.le_refl _))⟩
 exact ⟨Nat.le_trans (a2L xs lo hi) hz,_,0,(r.drop (HT.sIx xs.length 0 lo)).take (HT.sIx xs.length xs.length hi - HT.sIx xs.length 0 lo),Heap.get?_push_size _ rfl⟩
def flatV:V→Bool
 | .non=>true
 | .bl _=>true
 | .int _=>true
 | .str _=>true
 | _=>false
def eqV:V→V→Bool
 | .non,.non=>true
 | .bl a,.bl b=>a == b
 | .bl a,.int b=>(if a then 1 else 0) == b
 | .int a,.bl b=>a == (if b then 1 else 0)
 | .int a,.int b=>a == b
 | .str a,.str b=>a == b
 | _,_=>false
def eqU (x:V) (u:Value):Bool:=match u with
 | .none=>eqV .non x
 | .bool b=>eqV (.bl b) x
 | .int i _=>eqV (.int i) x
 | .str z _=>eqV (.str z) x
 | _=>false
def inV (x:V) (xs:List V):Bool:=xs.any fun y=>eqV y x
def rIn (K:PySem.W.Frag) (neg:Bool):R2:=fun x y H Q=>∃ p xs,y=.ref p∧(SqL K H p xs∨SqT K H p xs)∧flatV x=true∧xs.all flatV=true∧Q (.bl (if neg then !inV x xs else inV x xs)) H
theorem a0g:a1K X (.builtin "len") (fun xs H Q=>∃ p ys,xs=[.ref p]∧(SqL X.K H p ys∨SqT X.K H p ys)∧Q (.int ys.length) H):=by
 intro pins s σ H xs us Q I r h
 obtain ⟨p,ys,rfl,hq,q⟩:=h
 obtain ⟨u,rfl,rx⟩:=a2H r
 cases rx
 have hn:=a5W
 rcases hq with hq | hq
 ·obtain ⟨its,r',pl,hz⟩:=I.list hq
  have hlen:=r'.length
  exact Calls.call_len_list pl.isList (by simp only [List.size_toArray] <;> omega) ⟨.int ys.length,H,I.tok _,⟨s.toks+1,by rw [List.size_toArray,hlen]⟩,q⟩
 ·obtain ⟨its,r',pl,hz⟩:=I.tuple hq
  have hlen:=r'.length
  exact len_tuple pl (by simp only [List.size_toArray] <;> omega) ⟨.int ys.length,H,I.tok _,⟨s.toks+1,by rw [List.size_toArray,hlen]⟩,q⟩
theorem a4D:a1K X (.type "list") (fun xs H Q=>∃ p ys,xs=[.ref p]∧(SqL X.K H p ys∨SqT X.K H p ys)∧∀ l,H l=none→Q (.ref l) (upd H l (.lst ys))):=by
 intro pins s σ H xs us Q I r h
 obtain ⟨p,ys,rfl,hq,q⟩:=h
 obtain ⟨u,rfl,rx⟩:=a2H r
 cases rx
 have fin:∀ (its:List Value),a0D ys its→ys.length≤sizeLine→∀ (h':Heap) (c':Nat),(∀ b o',s.heap.get? b=some o'→h'.get? b=some o') →
   h'.get? s.heap.objs.size=some { cls:=.type "list",dict:=none,data:=.seq its.toArray c',slots:=#[] }→EP X pins σ Q (.ref s.heap.objs.size) { s with heap:=h' }:=fun its r' hz h' c' kp e =>
  ⟨.ref s.heap.objs.size,_,I.laid (t':=s.toks) kp (Nat.le_refl _) (show a0F X.prog X.w _ h' _ (.lst ys) from ⟨hz,its,c',r',e⟩),rfl,q _ (I.hok.fresh (Nat.le_refl _))⟩
 rcases hq with hq | hq
 ·obtain ⟨its,r',pl,hz⟩:=I.list hq
  have hlen:=r'.length
  obtain ⟨o,ho,hc,n,hd⟩:=pl.isList
  exact call_list_seq p (.inl rfl) ho hc hd (fun h' c' kp e=>fin its r' hz h' c' kp e) (by simp only [List.size_toArray] <;> omega)
 ·obtain ⟨its,r',pl,hz⟩:=I.tuple hq
  have hlen:=r'.length
  obtain ⟨o,ho,hc,n,hd⟩:=pl
  exact call_list_seq p (.inr rfl) ho hc hd (fun h' c' kp e=>fin its r' hz h' c' kp e) (by simp only [List.size_toArray] <;> omega)
theorem a0A:a1K X (.type "tuple") (fun xs H Q=>∃ p ys,xs=[.ref p]∧((SqL X.K H p ys∧∀ l,H l=none→Q (.ref l) (upd H l (.tup ys)))∨(SqT X.K H p ys∧Q (.ref p) H))):=by
 intro pins s σ H xs us Q I r h
 obtain ⟨p,ys,rfl,h⟩:=h
 obtain ⟨u,rfl,rx⟩:=a2H r
 cases rx
 rcases h with ⟨hq,q⟩ | ⟨hq,q⟩
 ·obtain ⟨its,r',pl,hz⟩:=I.list hq
  have hlen:=r'.length
  refine call_tuple_list pl.isList (fun h' kp=>?_) (by simp only [List.size_toArray] <;> omega)
  have I1:Inv X pins σ H { s with heap:=h' }:=I.kept (t':=s.toks) kp
  have I2:Inv X pins σ (upd H h'.objs.size (.tup ys)) { s with heap:=h'.push { cls:=.type "tuple",data:=.seq its.toArray } } :=
   I1.laid (t':=s.toks) (fun b o e=>Heap.get?_push_of_some _ e) (Nat.le_refl _) (show a0F X.prog X.w _ _ _ (.tup ys) from ⟨hz,its,r',a4o.new _ _⟩)
  exact ⟨.ref h'.objs.size,_,I2,rfl,q _ (I1.hok.fresh (Nat.le_refl _))⟩
 ·obtain ⟨its,r',pl,hz⟩:=I.tuple hq
  exact call_tuple_same pl ⟨.ref p,H,I,rfl,q⟩
def tyV (K:PySem.W.Frag) (T:String) (x:V) (H:Hp):Prop:=match x with
 | .str _=>T="str"
 | .int _=>T="int"
 | .ref p=>(T="list"∧∃ xs,SqL K H p xs)∨(T="tuple"∧∃ o,K.lookup p=some o∧o.cls=.type "tuple"∧o.dict=none) ∨
   (T="dict"∧((∃ kvs,H p=some (.dK kvs))∨∃ kvs,H p=some (.dT kvs)))∨(T="set"∧∃ S n,H p=some (.set S n))
 | _=>False
theorem b1x {pins:List (Addr × Obj)} {σ:St} {H:Hp} {s:Shared} {T:String} {x:V} {v:Value} (I:Inv X pins σ H s) (r:a0O x v) (ty:tyV X.K T x H) :
  s.TypeIs v T∧∀ a,v=.ref a→∃ ob,s.heap.get? a=some ob∧ob.dict=none:=by
 cases x with
 | str z =>
  obtain ⟨t,rfl⟩:=r
  cases (show T="str" from ty)
  exact ⟨typeIs_str s z t,fun _ e=>nomatch e⟩
 | int i =>
  obtain ⟨t,rfl⟩:=r
  cases (show T="int" from ty)
  exact ⟨typeIs_int s i t,fun _ e=>nomatch e⟩
 | ref p =>
  cases r
  rcases ty with ⟨rfl,xs,hq⟩ | ⟨rfl,o,hk,hc,hd⟩ | ⟨rfl,hk⟩ | ⟨rfl,S,n,hk⟩
  ·obtain ⟨its,_,pl,_⟩:=I.list hq
   refine ⟨pl.isList.typeIs,fun a e=>?_⟩
   cases e
   obtain ⟨o,n,e,c,hd,_⟩:=pl
   exact ⟨o,e,hd⟩
  ·refine ⟨⟨o,I.kIn p o hk,hc⟩,fun a e=>?_⟩
   cases e
   exact ⟨o,I.kIn _ o hk,hd⟩
  ·have z:∃ o,s.heap.get? p=some o∧o.ExactDict:=by
    rcases hk with ⟨kvs,hk⟩ | ⟨kvs,hk⟩
    ·obtain ⟨_,_,_,_,o,_,_,e,ex,_⟩:=I.hok p _ hk
     exact ⟨o,e,ex⟩
    ·obtain ⟨_,_,_,_,o,_,_,e,ex,_⟩:=I.hok p _ hk
     exact ⟨o,e,ex⟩
   obtain ⟨o,e,ex⟩:=z
   refine ⟨⟨o,e,ex.1⟩,fun a e2=>?_⟩
   cases e2
   exact ⟨o,e,ex.2.1⟩
  ·obtain ⟨o,_,_,_,e,ex,_⟩:=I.hok p _ hk
   refine ⟨⟨o,e,ex.1⟩,fun a e2=>?_⟩
   cases e2
   exact ⟨o,e,ex.2.1⟩
 | _=>exact False.elim ty
def tBM0 (K:PySem.W.Frag) (T:String) (r:V→List V→Hp→VK→Prop) (to:TE):TE:=fun σ H Q=>to σ H fun x H1=>tyV K T x H1∧r x [] H1 Q
def tBM (K:PySem.W.Frag) (T:String) (r:V→List V→Hp→VK→Prop) (to:TE) (t:TA):TE:=fun σ H Q=>to σ H fun x H1=>tyV K T x H1∧t σ H1 fun xs H2=>r x xs H2 Q
variable {o e:Expr} {es:List Expr} {to:TE} {t:TA} {name:Str} {apos cpos:Pos} {T id:String} {r:V→List V→Hp→VK→Prop}
theorem pe_bm0 (pa:PlainAttrs T) (slot:Slot T name id) (hty:typeOf (.builtin id)=pure (.type "method_descriptor")) (hm:MtR X id r) (ho:PE X o to)
  (hbase:attributeBase o name X.env (eval o X.env)=eval o X.env:=by rfl) (hline:(apos.endLine == cpos.line)=true:=by rfl):PE X (.Call (.Attribute o name apos) [] [] cpos) (tBM0 X.K T r to):=by
 intro pins s σ H Q I h
 refine wpAny_Call_method0_late hbase hline (thn (ho pins s σ H _ I h) fun v s1 ⟨x,H1,I1,r1,ty,q1⟩=>?_)
 obtain ⟨h1,h2⟩:=b1x I1 r1 ty
 exact ⟨T,id,pa,slot,hty,h1,h2,Calls.callWith_builtin rfl (PySem.evalArgs_none (hm pins s1 σ H1 x [] v [] Q I1 r1 .nil q1))⟩
theorem a8p (pa:PlainAttrs T) (slot:Slot T name id) (hty:typeOf (.builtin id)=pure (.type "method_descriptor")) (hm:MtR X id r) (ho:PE X o to) (ha:PA X (e :: es) t)
  (hbase:attributeBase o name X.env (eval o X.env)=eval o X.env:=by rfl)
  (hfew:((backTo cpos (starEach (e :: es) X.env)).all (fun x=>!x.1) && (backToKw cpos (keywordEach [] X.env)).all (fun x=>x.1.isSome)
   && decide ((e :: es).length+([]:List Keyword).length+(if ([]:List Keyword).isEmpty then 0 else 1) < 30))=true:=by rfl)
  (hline:(apos.endLine == cpos.line)=true:=by rfl) (hs:starEach (e :: es) X.env=(false,eval e X.env) :: starEach es X.env:=by rfl) (hplain:(backTo cpos (starEach es X.env)).any (·.1)=false:=by rfl) :
  PE X (.Call (.Attribute o name apos) (e :: es) [] cpos) (tBM X.K T r to t):=by
 intro pins s σ H Q I h
 refine wpAny_Call_method_late hbase hfew hline rfl (thn (ho pins s σ H _ I h) fun v s1 ⟨x,H1,I1,r1,ty,q1⟩=>?_)
 obtain ⟨h1,h2⟩:=b1x I1 r1 ty
 refine ⟨T,id,pa,slot,hty,h1,h2,?_⟩
 have hA:=ha cpos pins s1 σ H1 _ I1 q1
 rw [hs] at hA ⊢
 refine Calls.callWith_builtin (by show (false || (backTo cpos (starEach es X.env)).any (·.1))=false;rw [hplain] <;> rfl) (Calls.evalArgs_plain ?_)
 exact thn hA fun us s2 ⟨vs,H2,I2,r2,q2⟩=>hm pins s2 σ H2 x vs v us Q I2 r1 r2 q2
end
def MtM (X:Cx) (id:String) (r:V→List V→Hp→VK→Prop):Prop :=
 ∀ (pins:List (Addr × Obj)) (s:Shared) (σ:St) (H:Hp) (x:V) (xs:List V) (v:Value) (us:List Value) (Q:VK),Inv X pins σ H s→a0O x v→a0D xs us→r x xs H Q →
  wpAny (model X.prog X.w) X.A (call (.builtin id) (v :: us)) (EP X pins σ Q) X.xe s
theorem a0D.one:∀ {x:V} {us:List Value},a0D [x] us→∃ u,us=[u]∧a0O x u
 | _,_,.cons r .nil=>⟨_,rfl,r⟩
theorem a0D.two:∀ {x y:V} {us:List Value},a0D [x,y] us→∃ u v,us=[u,v]∧a0O x u∧a0O y v
 | _,_,_,.cons r (.cons q .nil)=>⟨_,_,rfl,r,q⟩
theorem a0D.zero:∀ {us:List Value},a0D [] us→us=[]
 | _,.nil=>rfl
theorem a0D.dropLast {xs:List V} {us:List Value} (h:a0D xs us):a0D xs.dropLast us.dropLast:=by
 induction h with
 | nil=>exact .nil
 | cons r t ih =>
  cases t with
  | nil=>exact .nil
  | cons q t'=>exact .cons r ih
theorem a7h {α:Type} (l:List α):l.eraseIdx (l.length - 1)=l.dropLast:=by
 induction l with
 | nil=>rfl
 | cons a r ih =>
  cases r with
  | nil=>rfl
  | cons b r =>
   have e:(a :: b :: r).length - 1=((b :: r).length - 1)+1:=by
    have h1:(a :: b :: r).length=r.length+2:=rfl
    have h2:(b :: r).length=r.length+1:=rfl
    omega
   rw [e,List.eraseIdx_cons_succ,ih]
   all_goals rfl
section
variable {X:Cx} {pins:List (Addr × Obj)} {σ:St} {H:Hp} {s:Shared} {l b:Addr} {xs ys zs:List V}
theorem Inv.lset {its its':List Value} {n:Nat} {f:Array Value→Array Value} {t':Nat} (I:Inv X pins σ H s) (hH:H l=some (.lst xs))
  (e:s.heap.get? l=some { cls:=.type "list",data:=.seq its.toArray n }) (hf:f its.toArray=its'.toArray) (hv:a0D ys its') (hz:ys.length≤sizeLine) :
  Inv X pins σ (upd H l (.lst ys)) { s with heap:=s.heap.update l (Obj.mapSeq f),toks:=t' }:=by
 have q:=PySem.IsL.update e f
 rw [hf] at q
 refine I.write (x:=l) (e:=l) (by rw [hH];exact trivial) (.inl rfl) (fun b' u hb hu=>(Heap.get?_update_other s.heap (Obj.mapSeq f) (Ne.symm hb)).trans hu) ⟨_,q⟩ ?_
 exact ⟨hz,its',_,hv,q⟩
theorem Inv.lnew {its:List Value} {t':Nat} (I:Inv X pins σ H s) (hv:a0D ys its) (hz:ys.length≤sizeLine) :
  Inv X pins σ (upd H s.heap.objs.size (.lst ys)) { s with heap:=s.heap.push { cls:=.type "list",data:=.seq its.toArray },toks:=t' } :=
 I.laid (fun _ _ q=>Heap.get?_push_of_some _ q) (Nat.le_refl _) ⟨hz,its,0,hv,Heap.get?_push_size _ rfl⟩
theorem Inv.fresh (I:Inv X pins σ H s):H s.heap.objs.size=none:=I.hok.fresh (Nat.le_refl _)
theorem Inv.lstM (I:Inv X pins σ H s) (hH:H l=some (.lst xs)):xs.length≤sizeLine∧∃ (its:List Value) (n:Nat),a0D xs its∧xs.length=its.length∧s.heap.get? l=some { cls:=.type "list",data:=.seq its.toArray n }:=by
 obtain ⟨z,its,n,r,e⟩:=I.hok l _ hH
 exact ⟨z,its,n,r,r.length,e⟩
theorem b0i {n:Nat} (h:n≤sizeLine):Builtin.List.listTooLong n=false:=by
 unfold Builtin.List.listTooLong
 exact decide_eq_false (by omega)
end
section
variable {X:Cx}
def b2l:V→List V→Hp→VK→Prop:=fun x vs H Q=>∃ l xs y,x=.ref l∧vs=[y]∧H l=some (.lst xs)∧xs.length < sizeLine∧Q .non (upd H l (.lst (xs++[y])))
theorem a2M:MtM X "list.append" b2l:=by
 intro pins s σ H x vs v us Q I rx rv h
 obtain ⟨l,xs,y,rfl,rfl,hH,hz,q⟩:=h
 cases rx
 obtain ⟨u,rfl,ru⟩:=rv.one
 obtain ⟨z,its,n,r,hl,e⟩:=I.lstM hH
 refine call_meets F.slot_list_append ⟨_,e,rfl⟩ F.entry_list_append (F.args_list_append_2 _ _) (PySem.list_append l its.toArray n u (by rw [List.size_toArray];omega)) ⟨e,?_⟩
 refine ⟨.non,_,I.lset (its':=its++[u]) hH e (by simp) (r.append (.cons ru .nil)) ?_,rfl,q⟩
 rw [List.length_append,List.length_singleton]
 omega
def b2m:V→List V→Hp→VK→Prop:=fun x vs H Q=>∃ l b xs zs,x=.ref l∧vs=[.ref b]∧H l=some (.lst xs)∧H b=some (.lst zs)∧xs.length+zs.length≤sizeLine∧Q .non (upd H l (.lst (xs++zs)))
theorem a2N:MtM X "list.extend" b2m:=by
 intro pins s σ H x vs v us Q I rx rv h
 obtain ⟨l,b,xs,zs,rfl,rfl,hH,hB,hz,q⟩:=h
 cases rx
 obtain ⟨u,rfl,ru⟩:=rv.one
 cases ru
 obtain ⟨z,its,n,r,hl,e⟩:=I.lstM hH
 obtain ⟨z2,its2,n2,r2,hl2,e2⟩:=I.lstM hB
 have hsz:its.toArray.size+its2.toArray.size≤sizeLine:=by rw [List.size_toArray,List.size_toArray];omega
 have hlong:¬ (!its.toArray.isEmpty && Builtin.List.listTooLong (its.toArray.size+its2.toArray.size))=true:=by
  rw [b0i hsz,Bool.and_false]
  exact Bool.false_ne_true
 refine call_meets F.slot_list_extend ⟨_,e,rfl⟩ F.entry_list_extend (F.args_list_extend_2 _ _)
  (AutoSeq1.list_extend_list_list_0 l its.toArray n b its2.toArray n2 hlong (by rw [List.size_toArray];omega) (by omega)) ⟨e,e2,?_⟩
 refine ⟨.non,_,I.lset (its':=its++its2) hH e (by simp) (r.append r2) ?_,rfl,q⟩
 rw [List.length_append]
 omega
def rPop:V→List V→Hp→VK→Prop:=fun x vs H Q=>∃ l xs y,x=.ref l∧vs=[]∧H l=some (.lst xs)∧xs[xs.length - 1]?=some y∧Q y (upd H l (.lst xs.dropLast))
theorem mt_pop:MtM X "list.pop" rPop:=by
 intro pins s σ H x vs v us Q I rx rv h
 obtain ⟨l,xs,y,rfl,rfl,hH,hy,q⟩:=h
 cases rx
 have hus:=rv.zero
 subst hus
 obtain ⟨z,its,n,r,hl,e⟩:=I.lstM hH
 obtain ⟨u,hu,ru⟩:=r.get hy
 have hy':its.toArray[its.toArray.size - 1]?=some u:=by
  show its.toArray[its.length - 1]?=some u
  rw [←Array.getElem?_toList,←hl]
  exact hu
 refine call_meets F.slot_list_pop ⟨_,e,rfl⟩ F.entry_list_pop (F.args_list_pop_1 _) (MeetsSeq.list_pop_last l its.toArray n u hy' (by rw [List.size_toArray];omega)) ⟨e,?_⟩
 refine ⟨y,_,I.lset (its':=its.dropLast) hH e ?_ r.dropLast ?_,ru,q⟩
 ·show its.toArray.eraseIdxIfInBounds (its.toArray.size - 1)=its.dropLast.toArray
  rw [List.size_toArray,List.eraseIdxIfInBounds_toArray,a7h]
 ·rw [List.length_dropLast]
  omega
def rCat:R2:=fun x y H Q=>∃ l b xs zs,x=.ref l∧y=.ref b∧H l=some (.lst xs)∧H b=some (.lst zs)∧xs.length+zs.length≤sizeLine∧∀ p,H p=none→Q (.ref p) (upd H p (.lst (xs++zs)))
theorem b1y:OpR X (binaryOp .Add) rCat:=by
 intro pins s σ H x y v u Q I rx ry h
 obtain ⟨l,b,xs,zs,rfl,rfl,hH,hB,hz,q⟩:=h
 cases rx
 cases ry
 obtain ⟨z,its,n,r,hl,e⟩:=I.lstM hH
 obtain ⟨z2,its2,n2,r2,hl2,e2⟩:=I.lstM hB
 refine PySem.P.add_list e e2 ?_ (by rw [List.size_toArray,List.size_toArray];omega)
 have ea:its.toArray++its2.toArray=(its++its2).toArray:=by simp
 rw [ea]
 exact ⟨.ref _,_,I.lnew (t':=s.toks) (r.append r2) (by rw [List.length_append];omega),rfl,q _ I.fresh⟩
def rRep:R2:=fun x y H Q=>∃ l k xs,x=.ref l∧y=.int k∧H l=some (.lst xs)∧-(2 ^ 63)≤k∧k < 2 ^ 63∧xs.length * k.toNat≤sizeLine ∧
 ∀ p,H p=none→Q (.ref p) (upd H p (.lst (List.replicate k.toNat xs).flatten))
end
section
variable {prog:Program} {w:World} {A:Around} {E:Value→Shared→Prop} {s:Shared}
end
section
variable {X:Cx}
end
end L2
namespace Att
open PySem PySem.W PySem.Calls PyProof.Rows
theorem a2O {P:Params} {h:Heap}:∀ (ns:List Int) (vs:List Value),WellAll P h vs (ns.map WData.int)→IntsAre vs ns:=by
 intro ns
 induction ns with
 | nil =>
  intro vs w
  rw [List.map_nil] at w
  cases w
  exact .nil
 | cons n ns ih =>
  intro vs w
  rw [List.map_cons] at w
  cases w with
  | cons a b =>
   cases a
   exact .cons _ _ (ih _ b)
theorem a8q {l:OpenLaw} {n:Nat} (hn:l.most=some n) {P:Params} {h:Heap} {args:List WData} {vals:List Value}
  (hpre:l.row.toRowW.claim.pre args=true) (hwl:WellAll P h vals args) :
  ∃ a vs ns,vals=[Value.ref a]∧args=[WData.list (ns.map WData.int)]∧h.get? a=some { cls:=.type "list",data:=.seq vs.toArray }∧IntsAre vs ns∧ns.length≤n:=by
 have hsh:WShape.hasAll [] args [.list .int]=true:=(pre_splitW hpre).1
 have hc:l.pre.holds [] { args:=args }=true:=(pre_splitW hpre).2
 obtain ⟨d,r,rfl,h1,h2⟩:=hasAllW_cons hsh
 obtain rfl:=hasAllW_nil h2
 obtain ⟨xs,rfl,h3⟩:=hasW_list h1
 obtain ⟨ns,rfl⟩:=items_int h3
 have hlen:ns.length≤n:=by
  unfold OpenLaw.pre at hc
  have h4:(WTm.not (.lt (.lit (.int (n:Int))) (.len (.arg 0)))).holds [] { args:=[.list (ns.map .int)] }=true:=by
   have h4:=(holds_andW hc).1
   rw [hn] at h4
   exact h4
  have h5:=condW_of h4 (w_not (w_lt w_lit (w_len_list (w_arg rfl))))
  rw [List.length_map] at h5
  refine Nat.le_of_not_lt fun q=>?_
  have q':(n:Int) < ((ns.length:Nat):Int):=by omega
  first
   | (rw [decide_eq_true q'] at h5;exact absurd h5 (by decide))
   | (simp at h5;omega)
 cases hwl with
 | cons w1 w2 =>
  cases w2
  cases w1 with
  | list ho hall=>exact ⟨_,_,ns,rfl,rfl,ho,a2O ns _ hall,hlen⟩
theorem a8r (l:OpenLaw) (args:List WData):l.row.toRowW.claim.post args (.bool true) args=true :=
 postW_of (r:=l.row.toRowW) (X:=(true == true))
  (show WShape.has [] (.bool true) .bool=true by first | rfl | decide | simp [WShape.has,WShape.arms,WShape.armsAll])
  (show (WTm.eq .res (.lit (.bool true))).value [] { args:=args,res:=some (.bool true),after:=args }=some (.bool (true == true)) from w_eq_bool (w_res rfl) w_lit) rfl
theorem a5p {l:OpenLaw} {n:Nat} {q:Program} {loose:List Str} {XP:(Str→Option Value)→Heap→Prop} {YP:World→Heap→Prop} {d:DefRec}
  (hn:l.most=some n) (hdf:d.params.defaults=[])
  (call:∀ (w:World) (s₀ s₁:Shared) (mg mb:Str→Option Value) (fa:Addr) (o:Obj) (pm cd doc:Value) (a:Addr) (vs:List Value) (ns:List Int),
   Ground q loose [] XP w s₀ mg mb s₁.heap→YP w s₁.heap →
   s₁.heap.get? fa=some o→o.data=.func (docDef d.name d.params d.body d.scope pm cd doc)→s₁.heap.CodeRec cd d.name→mg d.name=some (.ref fa) →
   s₁.heap.get? a=some { cls:=.type "list",data:=.seq vs.toArray }→IntsAre vs ns→ns.length≤n→s₁.gens=#[] →
   codeAny (model l.prog w) callerA (.call (.ref fa) ⟨[.ref a],[]⟩) (fun r s'=>r=.ok (.ret (.bool true))∧OldK s₁.heap s'.heap∧s'.os=s₁.os∧AllBare s'.gens) s₁) :
  WalkO q loose XP YP l.row.toRowW d [] (fun f vs=>PySem.call f vs):=by
 intro w s₀ s₁ mg mb G Y fa o pm cd doc dV kV ho hd hcd hD hmg hg args vals as hpre hlay hrd hwl hlo
 obtain rfl:dV=.none:=Dflts.none hD hdf
 obtain rfl:kV=.none:=Dflts.noKw hD
 obtain ⟨a,vs,ns,rfl,rfl,hobj,hints,hlen⟩:=a8q hn hpre hwl
 refine enter_call (codeAny_mono (call w s₀ s₁ mg mb fa o pm cd doc a vs ns G Y ho (fd_plain hd) hcd hmg hobj hints hlen hg) fun r s' hq=>?_)
 obtain ⟨rfl,h2,h3,h4⟩:=hq
 exact ⟨.inl ⟨.bool true,.bool true,[],rfl,fun _=>rfl,.bool true,a8r l _,fun _=>⟨List.Pairwise.nil,fun _ hm=>(nomatch hm)⟩⟩,h2,h3,h4⟩
section
variable {prog:Program} {w:World} {A:Around} {E:Value→Shared→Prop} {s:Shared} {K:Frag}
def ledger (h:Heap) (L d:Addr):List (Addr × Obj):=(List.range h.objs.size).filterMap fun a=>if a=L∨a=d then none else (h.get? a).map fun o=>(a,o)
end
end Att
namespace L2
open PySem PySem.Spec PyProof.Rows
theorem a4E:∀ {vs:List Value} {ns:List Int},IntsAre vs ns→a0D (ns.map V.int) vs
 | _,_,.nil=>.nil
 | _,_,.cons n t h=>.cons ⟨t,rfl⟩ (a4E h)
def Only (H:Hp):Prop:=∀ b,H b=none∨∃ o xs,H b=some (.frz o (.lst xs))
theorem b0j {P:Program} {w:World} {K:PySem.W.Frag} {mg mb:Str→Option Value} {CX:CXT} {k:Nat} {fa a:Addr} {fd:FuncData} {x:Str} {sp:Sp} {s₁:Shared} {vs:List Value} {ns:List Int}
  (KX:K.In s₁.heap) (hns:s₁.heap.Ns mainGlobals mg) (hb:s₁.heap.Ns builtinsNs mb) (hbb:∀ x:Str,x≠"__name__"→mb x=bootBuiltins x) (hlim:s₁.heap.NoLimit) (hg:s₁.gens=#[])
  (ha:s₁.heap.get? a=some { cls:=.type "list",data:=.seq vs.toArray }) (hi:IntsAre vs ns) (hl:ns.length≤sizeLine) (hr:a2t k callerA)
  (F:∀ base:Heap,K.In base→base.Ns mainGlobals mg→a1c P w K mg base CX k fa fd [x] sp) (hbind:∀ (s:Shared) (u:Value),BindsTo s fd ⟨[u],[]⟩ [(x,u)])
  (hsp:∀ H:Hp,Only H→SqL K H a (ns.map V.int)→sp [.ref a] H (fun v _=>v=.bl true) fun _ _ _=>False)
  (hCX:∀ H e s',CX [] H s₁ (fun _ _ _=>False) e s'→False) :
  codeAny (model P w) callerA (.call (.ref fa) ⟨[.ref a],[]⟩) (fun r s'=>r=.ok (.ret (.bool true))∧OldK s₁.heap s'.heap∧s'.os=s₁.os∧AllBare s'.gens) s₁:=by
 have rv:=a4E hi
 have lenV:=hi.length
 have core:∀ H:Hp,Only H→SqL K H a (ns.map V.int)→HOk P w H s₁.heap→(∀ b,H b≠none→b=a)→(H a≠none→K.lookup a=none) →
   codeAny (model P w) callerA (.call (.ref fa) ⟨[.ref a],[]⟩) (fun r s'=>r=.ok (.ret (.bool true))∧OldK s₁.heap s'.heap∧s'.os=s₁.os∧AllBare s'.gens) s₁:=by
  intro H hO hS hok hA hK
  have base_of:∀ {b:Addr} {o:Obj},s₁.heap.get? b=some o→H b=none→(a9Z s₁.heap H).get? b=some o:=fun e n=>b0a e n
  have noA:∀ {b:Addr} {o:Obj} {es:Array DictEntry} {ep:Nat},s₁.heap.get? b=some o→o.data=.dict es ep→H b=none:=fun {b o es ep} e d=>by
   cases q:H b with
   | none=>rfl
   | some u =>
    have e':b=a:=hA b (by rw [q];simp)
    subst e'
    rw [ha] at e;cases e
    have d':Data.seq vs.toArray _=Data.dict es ep:=d
    cases d'
  have nsK:∀ {b:Addr} {m:Str→Option Value},s₁.heap.Ns b m→(a9Z s₁.heap H).Ns b m:=fun {b m} ⟨o,es,ep,e,d,r⟩=>⟨o,es,ep,base_of e (noA e d),d,r⟩
  have hKb:K.In (a9Z s₁.heap H):=fun b o e=>base_of (KX b o e) (by
   cases q:H b with
   | none=>rfl
   | some u =>
    have e':b=a:=hA b (by rw [q];simp)
    subst e'
    rw [hK (by rw [q];simp)] at e;cases e)
  have hM:Mod K mg (a9Z s₁.heap H):=⟨hKb,nsK hns,⟨mb,nsK hb,hbb⟩,let ⟨mc,h1,h2⟩:=hlim;⟨mc,nsK h1,h2⟩⟩
  have e0:b2g P w K mg (a9Z s₁.heap H) callerA [] s₁ H:=⟨rfl,hM,fun b o e=>b1W e,Nat.le_of_eq (a7Z _ _),trivial,fun b hb=>absurd (show b∈([]:List Addr) from hb) (by simp),hok,.of_eq hg⟩
  refine codeAny_mono ((F _ hKb (nsK hns)).run callerA [] s₁ H ⟨[.ref a],[]⟩ [.ref a] [.ref a] _ _ hr e0 (hbind s₁ (.ref a)) (.cons rfl .nil) (hsp H hO hS)) fun r s' h=>?_
  cases r with
  | error e=>exact (hCX H e s' h).elim
  | ok fl =>
   cases fl with
   | next=>exact False.elim h
   | brk=>exact False.elim h
   | cont=>exact False.elim h
   | ret u =>
    obtain ⟨v,H',os,bare,un,hok',r',q⟩:=h
    have q':v=.bl true:=q
    subst q'
    obtain rfl:u=Value.bool true:=r'
    refine ⟨rfl,OldK.of_keep fun b o e=>?_,os,bare⟩
    cases q:H b with
    | none=>exact un.keep b o e q (by intro z;exact absurd (show b∈([]:List Addr) from z) (by simp)) (by simp)
    | some u =>
     rcases hO b with z | ⟨ob,xs,z⟩
     ·rw [q] at z;cases z
     ·have z2:=un.frzs b ob _ z
      obtain ⟨e1,_⟩:=hok b _ z
      obtain ⟨e2,_⟩:=hok' b _ z2
      rw [e] at e1;cases e1
      exact e2
 cases hk:K.lookup a with
 | some o =>
  have e:=KX a o hk
  rw [ha] at e
  cases e
  refine core (fun _=>none) (fun _=>.inl rfl) (.inr ⟨_,vs.toArray,_,hk,rfl,rfl,rfl,by rw [List.size_toArray,lenV];exact hl,by simpa using rv⟩) (fun b u z=>by have z':(none:Option HO)=some u:=z;cases z') (fun b z=>absurd rfl z) fun z=>absurd rfl z
 | none =>
  refine core (fun b=>if b=a then some (.frz { cls:=.type "list",data:=.seq vs.toArray } (.lst (ns.map V.int))) else none) (fun b=>?_) (.inl (.inr ⟨{ cls:=.type "list",data:=.seq vs.toArray },if_pos rfl⟩)) (fun b u z=>?_) (fun b z=>?_) fun _=>hk
  ·by_cases hb:b=a
   ·exact .inr ⟨_,_,if_pos hb⟩
   ·exact .inl (if_neg hb)
  ·by_cases hb:b=a
   ·have z':=(if_pos hb).symm.trans z
    cases z'
    subst hb
    exact ⟨ha,by rw [List.length_map];exact hl,vs,_,rv,ha⟩
   ·have z':=(if_neg hb).symm.trans z
    cases z'
  ·by_cases hb:b=a
   ·exact hb
   ·exact absurd (if_neg hb) z
abbrev KOf {K:PySem.W.Frag} {h:Heap} (_:K.In h):PySem.W.Frag:=K
theorem b2n {l:PySem.W.OpenLaw} {n k:Nat} {q:Program} {loose:List Str} {XP:(Str→Option Value)→Heap→Prop} {YP:World→Heap→Prop} {d:DefRec} {K:Params→PySem.W.Frag} {CX:World→CXT} {sp:World→Sp} {x:Str}
  (hn:l.most=some n) (hn2:n≤sizeLine) (hdf:d.params.defaults=[]) (hr:a2t k callerA)
  (hY:∀ (w:World) (h:Heap),YP w h→(K w.params).In h)
  (F:∀ (w:World) (mg:Str→Option Value) (fa:Addr) (h:Heap),(K w.params).In h→h.Ns mainGlobals mg→mg d.name=some (.ref fa) →
   ∃ fd:FuncData,(∀ (s:Shared) (u:Value),BindsTo s fd ⟨[u],[]⟩ [(x,u)]) ∧
    ∀ base:Heap,(K w.params).In base→base.Ns mainGlobals mg→a1c l.prog w (K w.params) mg base (CX w) k fa fd [x] (sp w))
  (hsp:∀ (w:World) (H:Hp) (a:Addr) (ns:List Int),ns.length≤n→Only H→SqL (K w.params) H a (ns.map V.int)→sp w [.ref a] H (fun v _=>v=.bl true) fun _ _ _=>False)
  (hCX:∀ (w:World) (H:Hp) (s:Shared) (e:Value) (s':Shared),CX w [] H s (fun _ _ _=>False) e s'→False) :
  PySem.W.WalkO q loose XP YP l.row.toRowW d [] (fun f vs=>PySem.call f vs):=by
 refine Att.a5p hn hdf fun w s₀ s₁ mg mb fa o pm cd doc a vs ns G Y ho hd hcd hmg hobj hints hlen hg=>?_
 have KX:=hY w _ Y
 obtain ⟨fd,hb,hF⟩:=F w mg fa _ KX G.T.g hmg
 exact b0j KX G.T.g G.T.b G.T.builtins G.T.nolimit hg hobj hints (Nat.le_trans hlen hn2) hr hF hb (fun H hO hS=>hsp w H a ns hlen hO hS) fun H e s'=>hCX w H s₁ e s'
def inClass (s:Stmt) (j:Nat):Stmt:=match s with
 | .ClassDef _ _ _ body _ _ _ _ _ _ _=>body.getD j (.Pass ⟨0,0,0,0⟩)
 | _=>.Pass ⟨0,0,0,0⟩
def a0p (s:Stmt):Arguments:=match s with
 | .FunctionDef _ a _ _ _ _ _ _ _ _=>a
 | _=>{ posonlyargs:=[],args:=[],vararg:=none,kwonlyargs:=[],kw_defaults:=[],kwarg:=none,defaults:=[] }
def a0n (s:Stmt):List Stmt:=match s with
 | .FunctionDef _ _ b _ _ _ _ _ _ _=>b
 | _=>[]
def a0e (s:Stmt):Scope:=match s with
 | .FunctionDef _ _ _ _ _ _ sc _ _ _=>sc
 | _=>{ kind:=.function,names:=[],isGenerator:=false,isCoroutine:=false }
abbrev CX0:CXT:=fun _ _ _ _ _ _=>False
abbrev E0:XK:=fun _ _ _=>False
theorem a0L {X:Cx}:a2u CX0 X E0:=fun _ _ _ _ _ _ _ h=>h.elim
structure Fun (K:PySem.W.Frag) (x qual:Str) (st:Stmt) (f:Addr) (fd:FuncData):Prop where
 ex:∃ (oc:Value) (od:Option Addr) (kV doc pm:Value) (an:Option Addr) (cdv ct:Value) (osl:Array (Option Value)),
  fd=PySem.W.fnOf x qual (a0p st) (a0n st) (a0e st) .none kV doc pm an cdv ct∧K.lookup f=some ⟨oc,od,.func fd,osl⟩∧PySem.W.codeIn K cdv qual=true
 kp:PySem.W.keepIn K (.ref f)=true
section
variable {P:Program} {w:World} {K:PySem.W.Frag} {mg:Str→Option Value} {base:Heap}
theorem Fun.ok {x qual:Str} {st:Stmt} {f:Addr} {fd:FuncData} {N ps:List Str} {k:Nat} {sp:Sp} (F:Fun K x qual st f fd) (S:a0o N ps (a0e st)) (len:∀ vs H Q E,sp vs H Q E→vs.length=ps.length)
  (hbody:∀ (cdv:Value) (A:Around) (outer:List Env) (s:Shared) (H:Hp) (vs:List V) (Q:VK) (E:XK),a2t k (A.deeper (envOfC qual (a0e st) s.heap.objs.size f cdv))→sp vs H Q E →
   ∃ t,PSs (a7R CX0 P w K mg base N qual (a0e st) f cdv A outer s H E).nox (a0n st) t∧t { nx:=fun _ H'=>Q .non H',rt:=Q } (start N vs) H):a1c P w K mg base CX0 (k+1) f fd ps sp:=by
 obtain ⟨oc,od,kV,doc,pm,an,cdv,ct,osl,rfl,lk,hcd⟩:=F.ex
 refine fn_of lk hcd S len fun A outer s H vs Q E hr hsp=>?_
 obtain ⟨t,h,q⟩:=hbody cdv A outer s H vs Q E hr hsp
 exact ⟨t,h.nox,q⟩
theorem Fun.binds {x qual:Str} {st:Stmt} {f:Addr} {fd:FuncData} {ps:List Str} (F:Fun K x qual st f fd)
  (h:∀ (kV doc pm:Value) (an:Option Addr) (cdv ct:Value) (us:List Value),us.length=ps.length→bindArgs (PySem.W.fnOf x qual (a0p st) (a0n st) (a0e st) .none kV doc pm an cdv ct) ⟨us,[]⟩=pure (ps.zip us)):a1I K fd ps []:=by
 obtain ⟨oc,od,kV,doc,pm,an,cdv,ct,osl,rfl,lk,hcd⟩:=F.ex
 exact .all (h kV doc pm an cdv ct)
theorem a0E {x qual:Str} {st:Stmt} {f:Addr} {oc:Value} {od an:Option Addr} {osl:Array (Option Value)} {kV doc pm cdv ct:Value} (l:K.lookup f=some ⟨oc,od,.func (PySem.W.fnOf x qual (a0p st) (a0n st) (a0e st) .none kV doc pm an cdv ct),osl⟩)
  (c:PySem.W.codeIn K cdv qual=true) (k:PySem.W.keepIn K (.ref f)=true):Fun K x qual st f (PySem.W.fnOf x qual (a0p st) (a0n st) (a0e st) .none kV doc pm an cdv ct):=⟨⟨oc,od,kV,doc,pm,an,cdv,ct,osl,rfl,l,c⟩,k⟩
end
theorem a0z {n:Nat} (h:n≤1000):n < sizeLine:=Nat.lt_of_le_of_lt h (by decide)
section
variable {X:Cx}
theorem pv (i:Nat) {x:Str} {pos:Pos} (hN:X.N[i]?=some x:=by rfl) (hv:Vis X.env.scope x:=by first | exact Or.inl rfl | exact Or.inr (Or.inl rfl) | exact Or.inr (Or.inr rfl)) (hd:(x == ("__debug__":Str))=false:=by decide)
  (hcd:(x == ("__classdict__":Str))=false:=by decide):PE X (.Name x pos) (tVar i):=pe_var hN hv hd hcd
end
theorem a4p {A B:Prop} (h:B):if false=true then A else B:=by
 rw [if_neg Bool.false_ne_true]
 exact h
theorem a9X {A B:Prop} (h:A):if true=true then A else B:=by
 rw [if_pos rfl]
 exact h
theorem a1s {c A B:Prop} [Decidable c] (h1:c→A) (h2:¬ c→B):if c then A else B:=by
 by_cases h:c
 ·rw [if_pos h]
  exact h1 h
 ·rw [if_neg h]
  exact h2 h
theorem iteNS {c A B:Prop} [Decidable c] (hc:c) (h:B):if (!decide c)=true then A else B:=by
 rw [decide_eq_true hc]
 exact a4p h
def a0t (H H':Hp):Prop:=∀ b o,H b=some o→H' b=some o
theorem a0t.refl (H:Hp):a0t H H:=fun _ _ h=>h
theorem a0t.trans {H H1 H2:Hp} (a:a0t H H1) (b:a0t H1 H2):a0t H H2:=fun c o h=>b c o (a c o h)
theorem a0t.free {H H':Hp} (e:a0t H H') {l:Addr} (h:H' l=Option.none):H l=Option.none:=by
 cases q:H l with
 | none=>rfl
 | some o =>
  rw [e l o q] at h
  cases h
theorem a0t.seq {K:PySem.W.Frag} {H H':Hp} {a:Addr} {xs:List V} (e:a0t H H') (h:SqL K H a xs):SqL K H' a xs:=by
 rcases h with (h | ⟨o,h⟩) | h
 ·exact .inl (.inl (e _ _ h))
 ·exact .inl (.inr ⟨o,e _ _ h⟩)
 ·exact .inr h
section
variable {prog:Program} {w:World} {A:Around} {R:Result→Shared→Prop} {s:Shared}
abbrev a8s (cs:List Expr) (en:Env):Sem Bool :=
 forIn cs true fun c r=>if r=true then do let ok ←isTrue c en (eval c en);pure (ForInStep.yield ok) else pure (ForInStep.yield r)
theorem a7i {elt tg iter:Expr} {cs:List Expr} {scope:Scope} {pos:Pos} {it acc:Value} {en:Env} {EE:Value→Shared→Prop} (hE:EE=notedBy (model prog w) A en fun e s'=>R (.error e) s') (J:Nat→Shared→Prop)
  (turn:∀ n s,J n s→wpAny (model prog w) A (pyNext it) (fun r s1=>match r with
   | none=>R (.ok .next) s1
   | some v=>wpAny (model prog w) A (letOwnedTupleGo tg it v) (fun _ sg=>wpAny (model prog w) A (assign tg en v) (fun _ s2=>wpAny (model prog w) A (a8s cs en) (fun ok s3 =>
     if ok=true then wpAny (model prog w) A (eval elt en) (fun y s4=>wpAny (model prog w) A (call (.builtin "list.append") [acc,y]) (fun _ s5=>∃ m,m < n∧J m s5) EE s4) EE s3
     else ∃ m,m < n∧J m s3) EE s2) EE sg) EE s1) EE s)
  (n:Nat) (h:J n s):codeAny (model prog w) A (.compLoop (.ListComp elt [⟨tg,iter,cs,0⟩] scope pos) 0 it acc en) R s:=by
 subst hE
 refine codeAny_loop rfl J (fun n s hJ=>?_) n h
 show wpAny _ A (Sem.onRaise (compTurn (.ListComp elt [⟨tg,iter,cs,0⟩] scope pos) 0 it acc en) (fun x=>do noteFrame x en;theTreesLotGoes x)) _ _ s
 refine wpAny_noted ?_
 rw [compTurn_list]
 refine wpAny_bind (wpAny_standAt (wpAny_bind (thn (turn n s hJ) fun r s1 q1=>?_)))
 cases r with
 | none=>exact wpAny_pure q1
 | some v =>
  refine wpAny_bind (thn q1 fun _ sg qg=>wpAny_bind (thn qg fun _ s2 q2=>wpAny_bind (thn q2 fun ok s3 q3=>?_)))
  cases ok with
  | false=>exact wpAny_pure ⟨rfl,q3⟩
  | true=>exact wpAny_bind (wpAny_bind (thn q3 fun y s4 q4=>wpAny_bind (thn q4 fun _ s5 q5=>wpAny_pure (wpAny_pure ⟨rfl,q5⟩))))
end
def PTs (X:Cx) (cs:List Expr) (t:TT):Prop :=
 ∀ (pins:List (Addr × Obj)) (s:Shared) (σ:St) (H:Hp) (Q:Bool→Hp→Prop),Inv X pins σ H s→t σ H Q→wpAny (model X.prog X.w) X.A (a8s cs X.env) (TP X pins σ Q) X.xe s
def a8t:TT:=fun _ H Q=>Q true H
theorem a0W {X:Cx}:PTs X [] a8t:=fun _ _ _ H _ I h=>wpAny_tests_nil ⟨H,I,h⟩
theorem a3J {X:Cx} {c:Expr} {t:TT} (h:PT X c t):PTs X [c] t:=fun pins s σ H Q I q=>wpAny_tests_one (h pins s σ H Q I q)
theorem a1v {en:Env}:∀ (names:List (Str × NameKind)) (acc:List (Str × Addr)),(∀ y,(y,NameKind.free)∈names→∃ c,en.cells.lookup y=some c) →
  (∀ y c,acc.lookup y=some c→en.cells.lookup y=some c) →
  ∃ cl,(forIn (m:=Sem) names acc fun p cs=>if (p.2 == .free)=true then (do let a ←cellOf en p.1;pure (ForInStep.yield ((p.1,a) :: cs))) else pure (ForInStep.yield cs))=pure cl ∧
   (∀ y c,cl.lookup y=some c→en.cells.lookup y=some c)∧(∀ y,((y,NameKind.free)∈names∨∃ c,acc.lookup y=some c)→∃ c,cl.lookup y=some c)
 | [],acc,_,h2=>⟨acc,rfl,h2,fun y h=>h.elim (fun z=>by simp at z) id⟩
 | (n,k) :: r,acc,h1,h2=>by
  by_cases hk:k=.free
  ·subst hk
   obtain ⟨c,hc⟩:=h1 n (by simp)
   obtain ⟨cl,e,a,b⟩:=a1v r ((n,c) :: acc) (fun y hy=>h1 y (List.mem_cons_of_mem _ hy)) (fun y d hd=>by
    rw [List.lookup_cons] at hd
    by_cases hy:y=n
    ·subst hy;simp at hd;subst hd;exact hc
    ·have:(y == n)=false:=by simpa using hy
     rw [this] at hd;exact h2 y d hd)
   refine ⟨cl,?_,a,fun y hy=>b y ?_⟩
   ·rw [List.forIn_cons]
    have e1:cellOf en n=pure c:=by unfold cellOf;rw [hc]
    simp only [beq_self_eq_true,if_true,e1,pure_bind]
    exact e
   ·rcases hy with hy | ⟨d,hd⟩
    ·rcases List.mem_cons.mp hy with z | z
     ·cases z;exact .inr ⟨c,by simp⟩
     ·exact .inl z
    ·by_cases hy:y=n
     ·subst hy;exact .inr ⟨c,by simp⟩
     ·have:(y == n)=false:=by simpa using hy
      exact .inr ⟨d,by rw [List.lookup_cons,this];exact hd⟩
  ·have hb:(k == NameKind.free)=false:=by simpa using hk
   obtain ⟨cl,e,a,b⟩:=a1v r acc (fun y hy=>h1 y (List.mem_cons_of_mem _ hy)) h2
   refine ⟨cl,?_,a,fun y hy=>b y ?_⟩
   ·rw [List.forIn_cons]
    simp only [hb,Bool.false_eq_true,if_false,pure_bind]
    exact e
   ·rcases hy with hy | hy
    ·rcases List.mem_cons.mp hy with z | z
     ·cases z;exact absurd rfl hk
     ·exact .inl z
    ·exact .inr hy
theorem a7j {scope:Scope} {en:Env} (h1:∀ y,(y,NameKind.free)∈scope.names→∃ c,en.cells.lookup y=some c) :
  ∃ cl,closureFor scope en=pure cl∧(∀ y c,cl.lookup y=some c→en.cells.lookup y=some c)∧(∀ y,(y,NameKind.free)∈scope.names→∃ c,cl.lookup y=some c):=by
 obtain ⟨cl,e,a,b⟩:=a1v (en:=en) scope.names [] h1 (fun y c h=>by simp at h)
 refine ⟨cl,?_,a,fun y hy=>b y (.inl hy)⟩
 have q:=congrArg (fun t:Sem (List (Str × Addr))=>t >>= fun c=>pure c) e
 exact q
def xeC (X:Cx) (en:Env) (C:Addr):Value→Shared→Prop :=
 notedBy (model X.prog X.w) X.A en fun e s'=>compPost (model X.prog X.w) X.A X.xe none (fun _ _=>False) Value.none C (.error e) s'
def cxC (X:Cx) (scope:Scope) (cl:List (Str × Addr)) (C:Addr) (s0:Shared) (H0:Hp) (fp:List Addr) (N:List Str):Cx where
 prog:=X.prog
 w:=X.w
 K:=X.K
 mg:=X.mg
 base:=X.base
 A:=X.A
 N:=N
 s₀:=s0
 H₀:=H0
 env:=compEnvC scope cl C X.env
 outer:=X.stack
 stack:=X.stack
 ex:=fp
 fn:=fun _=>false
 calm:=X.calm
 pn:=[]
 xe:=xeC X (compEnvC scope cl C X.env) C
structure a0k (scope:Scope) (en:Env) (N M:List Str):Prop where
 kind:scope.kind=.function
 nocell:∀ y∈scope.names,y.2≠.cell
 locs:∀ y∈scope.names,y.2=.local→scope.names.lookup y.1=some .local
 free:∀ y,(y,NameKind.free)∈scope.names→en.kindOf y=some .cell∨en.kindOf y=some .free
 len:M.length=N.length
 same:∀ (j:Nat) (y:Str),M[j]?=some y→Vis (relabel scope en) y→N[j]?=some y∧(y,NameKind.free)∈scope.names∧(relabel scope en).names.lookup y≠some .local
 relab:∀ y,((relabel scope en).names.lookup y=some .cell∨(relabel scope en).names.lookup y=some .free)→(y,NameKind.free)∈scope.names
def a7k (k:Nat) (wi:TI) (g:TG) (tc:TT) (te:TE):TE:=fun σ H Q=>wi σ H fun J H1=>∀ d,H1 d=none→∃ W:Nat→Nat→Hp→Prop,(∃ m,W 0 m (upd H1 d (.lst [])))∧∀ i m H,W i m H →
 (J.stop i H∧Q (.ref d) H)∨(J.go i H∧∃ N:Hp→Prop,(∀ H',N H'→∃ m',m' < m∧W (i+1) m' H')∧∀ x H',J.yld i H x H'→g x (List.replicate k none++σ) H' fun σ2 H2 =>
  tc σ2 H2 fun b H3=>if b=true then te σ2 H3 fun y H4=>∃ ys,H4 d=some (.lst ys)∧ys.length < sizeLine∧N (upd H4 d (.lst (ys++[y]))) else N H3)
structure Gone (X:Cx) (pins:List (Addr × Obj)) (H:Hp) (C:Addr):Prop where
 no:H C=none
 ne:C≠X.env.locals
 yg:X.s₀.heap.objs.size≤C
 cl:∀ x c,X.env.cells.lookup x=some c→c≠C
 pn:∀ p∈X.pn++pins,p.1≠C
theorem Inv.gone {X:Cx} {pins:List (Addr × Obj)} {σ:St} {H:Hp} {s:Shared} {C:Addr} {h':Heap} (I:Inv X pins σ H s) (g:Gone X pins H C) (hs:Heap.SameBut C s.heap h'):Inv X pins σ H { s with heap:=h' } :=
 I.turned (t':=s.toks) (it:=C) (fun b o hb e=>hs.extBut b o hb e) g.no g.ne (.inr g.yg) g.cl g.pn
structure b3q (X Y:Cx) (pins:List (Addr × Obj)) (σ:St) (fp:List Addr) (C:Addr) (s3:Shared) (H3:Hp):Prop where
 i0:Inv X pins σ H3 s3
 fp:∀ b∈fp,(b∈X.ex∨X.s₀.heap.objs.size≤b)∧b≠X.env.locals∧(∀ x c,X.env.cells.lookup x=some c→c≠b)∧∀ p∈X.pn++pins,p.1≠b
 inv:∀ (pins':List (Addr × Obj)) (σ':St) (H':Hp) (s':Shared),Inv Y pins' σ' H' s'→Inv X pins σ H' s'∧Gone X pins H' C
theorem a3K {X:Cx} {elt tg iter:Expr} {cs:List Expr} {scope:Scope} {pos:Pos} {wi:TI} {g:TG} {tc:TT} {te:TE} {xs M:List Str} {use:Option (Value→Sem Unit)} {RR:Value→Shared→Prop} (hc:X.calm=true) (S:a0k scope X.env X.N M) (hi:PI X tg iter wi)
  (hin:∀ (cl:List (Str × Addr)) (C:Addr) (s0:Shared) (H0:Hp) (fp:List Addr) (pins:List (Addr × Obj)) (σ:St),b3q X (cxC X scope cl C s0 H0 fp (xs++M)) pins σ fp C s0 H0→PG (cxC X scope cl C s0 H0 fp (xs++M)) tg g∧PTs (cxC X scope cl C s0 H0 fp (xs++M)) cs tc∧PE (cxC X scope cl C s0 H0 fp (xs++M)) elt te)
  (hg:∀ v σ H Q,g v (List.replicate xs.length none++σ) H Q→g v (List.replicate xs.length none++σ) H fun σ2 H2=>(∃ l:St,l.length=xs.length∧σ2=l++σ)∧Q σ2 H2)
  (hs:∀ x,foldedSetIterable iter X.env x=pure x) (pins:List (Addr × Obj)) (s:Shared) (σ:St) (H:Hp) (Q:VK) (I:Inv X pins σ H s) (h:a7k xs.length wi g tc te σ H Q)
  (fin:∀ (d C:Addr) (s6:Shared) (H6:Hp) (m:Str→Option Value),Q (.ref d) H6→Inv X pins σ H6 s6→s6.heap.Ns C m→Gone X pins H6 C→compPost (model X.prog X.w) X.A X.xe use RR (.ref d) C (.ok .next) s6) :
  wpAny (model X.prog X.w) X.A (comprehension (.ListComp elt [⟨tg,iter,cs,0⟩] scope pos) scope X.env (firstIterPos [⟨tg,iter,cs,0⟩] pos) (newList []) false (eval iter X.env) use) RR X.xe s:=by
 obtain ⟨cl,hcl,cl1,cl2⟩:=a7j (scope:=scope) (en:=X.env) fun y hy=>I.ok.has y (S.free y hy)
 refine wpAny_comprehension_free (use:=use) rfl hs hcl S.kind S.locs (thn (hi pins s σ H _ I h) fun v s1 h1=>thn h1 fun itv s2 h2=>?_)
 obtain ⟨it,fp,tn,J,H2,e,I2,T,st2,f2,h3⟩:=h2
 subst e
 have hf:H2 s2.heap.objs.size=none:=I2.fresh
 obtain ⟨W,⟨m0,w0⟩,turn⟩:=h3 _ hf
 refine wpAny_newObj_type (wpAny_newFunctionEnv S.nocell (by intro y hy;simp at hy) (fun h4 hns hsb=>?_) S.kind)
 have I3:Inv X pins σ (upd H2 s2.heap.objs.size (.lst [])) { s2 with heap:=s2.heap.push { cls:=.type "list",data:=.seq ([]:List Value).toArray } }:=I2.lnew (ys:=[]) (its:=[]) (t':=s2.toks) .nil (Nat.zero_le _)
 generalize hs3:({ s2 with heap:=s2.heap.push { cls:=.type "list",data:=.seq ([]:List Value).toArray } }:Shared)=s3 at I3
 generalize hH3:upd H2 s2.heap.objs.size (.lst [])=H3 at I3 w0
 have e3:s2.heap.push { cls:=.type "list",dict:=none,data:=.seq ([]:List Value).toArray }=s3.heap:=by rw [←hs3]
 dsimp only at hns hsb ⊢
 rw [e3] at hns hsb
 have old:∀ b o,s3.heap.get? b=some o→h4.get? b=some o:=fun b o e=>hsb.extBut b o (Nat.ne_of_lt (Heap.lt_size e)) (Heap.get?_push_of_some _ e)
 have keep2:∀ b o,s2.heap.get? b=some o→s3.heap.get? b=some o:=fun b o e=>by rw [←e3];exact Heap.get?_push_of_some _ e
 have lt3:∀ b∈fp,b < s3.heap.objs.size:=fun b hb=>by
  obtain ⟨o,e,_⟩:=T.obj _ _ st2 b hb
  exact Heap.lt_size (keep2 b o e)
 have n3:∀ b∈fp,H3 b=none:=fun b hb=>by
  obtain ⟨o,e,_⟩:=T.obj _ _ st2 b hb
  rw [←hH3,a0l (Nat.ne_of_lt (Heap.lt_size e))]
  exact (f2 b hb).1
 have st4:tn 0 h4:=T.keep _ _ _ st2 fun b _ o e=>old b o (keep2 b o e)
 let Y:Cx:=cxC X scope cl s3.heap.objs.size s3 H3 fp (xs++M)
 have relab:∀ y,((relabel scope X.env).names.lookup y=some .cell∨(relabel scope X.env).names.lookup y=some .free)→∃ c,cl.lookup y=some c:=fun y hy=>cl2 y (S.relab y hy)
 have Yok:Y.Ok:=by
  refine ⟨I3.ok.mod,S.kind,I3.ok.glob,I3.ok.blt,Nat.le_refl _,fun y z c h1 h2=>I3.ok.inj y z c (cl1 y c h1) (cl1 z c h2),fun y hy=>relab y hy,fun _ _ h _=>absurd (show false=true from h) (by decide),I3.ok.hd,I3.ok.frames,.inl rfl,
   fun b hb=>⟨Nat.ne_of_lt (lt3 b hb),fun y c e=>(f2 b hb).2.2.2.2.1 y c (cl1 y c e)⟩,I3.bs,Nat.le_trans I3.ok.bsz I3.sz,fun b o e hb=>?_,fun b hb z=>?_,I3.stack,I3.stkFree⟩
  ·rcases (f2 b hb).2.2.2.1 with z | z
   ·exact I3.ok.noex b o e z
   ·exact absurd (Nat.lt_of_lt_of_le (Heap.lt_size e) (Nat.le_trans I3.ok.bsz z)) (Nat.lt_irrefl _)
  ·rcases List.mem_cons.mp (I3.stkSub b z) with z | z
   ·exact (f2 b hb).2.1 z
   ·exact (f2 b hb).2.2.1 z
 have cells4:∀ y c,cl.lookup y=some c→∀ v,s3.heap.IsCell c v→h4.IsCell c v:=fun y c _ v ⟨o,ho,hd⟩=>⟨o,old c o ho,hd⟩
 have IY:∀ t',Inv Y [] (List.replicate xs.length none++σ) H3 { s3 with heap:=h4,toks:=t' }:=fun t'=>by
  refine ⟨Yok,rfl,I3.bare,Un.kept old,⟨_,hns,fun i y v e1 e2 e3=>?_⟩,fun y c e=>?_,I3.hok.fresh (Nat.le_refl _),fun y c e=>I3.freeC y c (cl1 y c e),fun p hp=>absurd (show p∈([]:List (Addr × Obj)) from hp) (by simp),I3.hok.kept old,?_⟩
  ·by_cases hi:i < xs.length
   ·rw [List.getElem?_append_left (by simpa using hi),List.getElem?_replicate] at e2
    split at e2 <;> cases e2
   ·obtain ⟨j,rfl⟩:∃ j,i=xs.length+j:=⟨i - xs.length,by omega⟩
    have e1':M[j]?=some y:=by
     have q:(xs++M)[xs.length+j]?=some y:=e1
     rw [List.getElem?_append_right (Nat.le_add_right _ _)] at q
     simpa using q
    have e2':σ[j]?=some (some v):=by
     rw [List.getElem?_append_right (by simp)] at e2
     simpa using e2
    obtain ⟨a1,a2,a3⟩:=S.same j y e1' e3
    have vis:Vis X.env.scope y:=by
     rcases S.free y a2 with z | z
     ·exact .inr (.inl z)
     ·exact .inr (.inr z)
    obtain ⟨m,_,hl⟩:=I3.loc
    obtain ⟨u,r,l⟩:=hl j y v a1 e2' vis
    refine ⟨u,r,?_⟩
    have kk:Y.env.kindOf y=some .cell∨Y.env.kindOf y=some .free:=by
     rcases e3 with z | z | z
     ·exact absurd z a3
     ·exact .inl z
     ·exact .inr z
    rcases l with ⟨k1,_⟩ | ⟨_,c,ec,ic⟩
    ·rcases S.free y a2 with z | z
     ·rw [z] at k1;cases k1
     ·rw [z] at k1;cases k1
    ·obtain ⟨c',ec'⟩:=cl2 y a2
     have:=cl1 y c' ec'
     rw [ec] at this
     cases this
     exact .inr ⟨kk,c,ec',cells4 y c ec' _ ic⟩
  ·obtain ⟨v,z⟩:=I3.cell y c (cl1 y c e)
   exact ⟨v,cells4 y c e v z⟩
  ·show (List.replicate xs.length none++σ).length=(xs++M).length
   rw [List.length_append,List.length_append,List.length_replicate,S.len,I3.len]
 have stat:∀ {pl:List (Addr × Obj)} {H':Hp},(∀ p∈pl,p.1∉fp)→(∀ b∈fp,H' b=none)→∀ b∈fp,a6Y Y pl H' b:=fun hp hn b hb =>
  ⟨hn b hb,Nat.ne_of_lt (lt3 b hb),Yok.exfs b hb,.inl hb,fun y c e=>(f2 b hb).2.2.2.2.1 y c (cl1 y c e),fun p hp' z=>hp p (by simpa [Y,cxC] using hp') (z▸hb)⟩
 have bk:b3q X Y pins σ fp s3.heap.objs.size s3 H3:=by
  refine ⟨I3,fun b hb=>⟨(f2 b hb).2.2.2.1,(f2 b hb).2.1,(f2 b hb).2.2.2.2.1,(f2 b hb).2.2.2.2.2⟩,fun pins' σ' H' s' J=>⟨?_,?_⟩⟩
  ·exact I3.call' (ch:=fp) J.os J.base J.hok J.bare fun b hb=>⟨(f2 b hb).2.2.2.1,(f2 b hb).2.1,(f2 b hb).2.2.2.2.1,(f2 b hb).2.2.2.2.2⟩
  ·refine ⟨J.free,Nat.ne_of_gt I3.lt,I3.sz,fun y c e z=>?_,fun p hp z=>?_⟩
   ·obtain ⟨v,q⟩:=I3.cell y c e
    have:=q.lt
    rw [z] at this
    exact Nat.lt_irrefl _ this
   ·have:=Heap.lt_size (I3.pin p hp).1
    rw [z] at this
    exact Nat.lt_irrefl _ this
 obtain ⟨hG,hT,hE⟩:=hin cl s3.heap.objs.size s3 H3 fp pins σ bk
 have loop:∀ t',codeAny (model X.prog X.w) X.A (.compLoop (.ListComp elt [⟨tg,iter,cs,0⟩] scope pos) 0 (.ref it) (.ref s2.heap.objs.size) Y.env) (compPost (model X.prog X.w) X.A X.xe use RR (.ref s2.heap.objs.size) s3.heap.objs.size) { s3 with heap:=h4,toks:=t' }:=by
  intro t'
  refine a7i (EE:=Y.xe) (by cases use <;> rfl) (fun n s'=>∃ i H',Inv Y [] (List.replicate xs.length none++σ) H' s'∧tn i s'.heap∧(∀ b∈fp,H' b=none)∧W i n H') ?_ m0 ⟨0,H3,IY t',st4,n3,w0⟩
  rintro n s5 ⟨i,H5,I5,st5,fr5,w5⟩
  rcases turn i n H5 w5 with ⟨stop,qn⟩ | ⟨go,N,hN,step⟩
  ·refine thn (T.done Y rfl rfl rfl hc i [] s5 (List.replicate xs.length none++σ) H5 _ I5 (stat (by simp) fr5) st5 stop) fun r s6 ⟨hr,I6⟩=>?_
   subst hr
   obtain ⟨m6,hn6,_⟩:=I6.loc
   have I8:Inv X pins σ H5 s6:=I3.call' (ch:=fp) I6.os I6.base I6.hok I6.bare fun b hb=>⟨(f2 b hb).2.2.2.1,(f2 b hb).2.1,(f2 b hb).2.2.2.2.1,(f2 b hb).2.2.2.2.2⟩
   have lt8:X.env.locals < s3.heap.objs.size:=I3.lt
   refine fin _ _ s6 H5 m6 qn I8 hn6 ⟨I6.free,Nat.ne_of_gt lt8,I3.sz,fun y c e z=>?_,fun p hp z=>?_⟩
   ·obtain ⟨v,q⟩:=I3.cell y c e
    have:=q.lt
    rw [z] at this
    exact Nat.lt_irrefl _ this
   ·have:=Heap.lt_size (I3.pin p hp).1
    rw [z] at this
    exact Nat.lt_irrefl _ this
  ·refine thn (T.item Y rfl rfl rfl hc i [] s5 (List.replicate xs.length none++σ) H5 _ I5 (stat (by simp) fr5) st5 go) fun r s6 ⟨u,hr,h6⟩=>?_
   subst hr
   refine thn h6 fun _ s7 ⟨x7,H7,I7,r7,y7,st7,fr7⟩=>?_
   have I7':=I7.pinned (stat (by simp) fr7) (T.obj _ _ st7)
   have again:∀ {σ8:St} {H8:Hp} {s8:Shared},(∃ l:St,l.length=xs.length∧σ8=l++σ)→Inv Y ([]++a4w fp s7.heap) σ8 H8 s8→N H8→∃ m,m < n∧∃ i H',Inv Y [] (List.replicate xs.length none++σ) H' s8∧tn i s8.heap∧(∀ b∈fp,H' b=none)∧W i m H':=fun {σ8 H8 s8} l8 I8 n8=>by
    obtain ⟨m',hm,w8⟩:=hN H8 n8
    obtain ⟨l,ll,rfl⟩:=l8
    have pin8:∀ b∈fp,∀ o,s7.heap.get? b=some o→s8.heap.get? b=some o∧H8 b=none:=fun b hb o e=>by
     have z:=I8.pin (b,o) (List.mem_append_right _ (List.mem_append_right _ (a2f hb e)))
     exact ⟨z.1,z.2.1⟩
    refine ⟨m',hm,i+1,H8,I8.unpinned.weak (by simp [ll]) (fun j v e=>?_),T.keep _ _ _ st7 fun b hb o e=>(pin8 b hb o e).1,fun b hb=>?_,w8⟩
    ·by_cases hj:j < xs.length
     ·rw [List.getElem?_append_left (by simpa using hj),List.getElem?_replicate] at e
      split at e <;> cases e
     ·rw [List.getElem?_append_right (by simpa using hj)] at e
      rw [List.getElem?_append_right (by omega),ll]
      simpa using e
    ·obtain ⟨o,e,_⟩:=T.obj _ _ st7 b hb
     exact (pin8 b hb o e).2
   refine thn (hG _ s7 (List.replicate xs.length none++σ) H7 x7 u _ I7' r7 (hg _ _ _ _ (step x7 H7 y7))) fun _ s8 ⟨σ8,H8,I8,l8,q8⟩=>?_
   refine thn (hT _ s8 σ8 H8 _ I8 q8) fun ok s9 ⟨H9,I9,q9⟩=>?_
   cases ok with
   | false=>exact again l8 I9 q9
   | true =>
    refine thn (hE _ s9 σ8 H9 _ I9 q9) fun y s10 ⟨y10,H10,I10,r10,ys,hd,hl,n10⟩=>?_
    refine thn (a2M _ s10 σ8 H10 (.ref s2.heap.objs.size) [y10] (.ref s2.heap.objs.size) [y] (fun _ H'=>N H') I10 rfl (.cons r10 .nil) ⟨_,ys,y10,rfl,rfl,hd,hl,n10⟩) fun _ s11 ⟨_,H11,I11,_,n11⟩=>?_
    exact again l8 I11 n11
 refine codeAny_compStart_list (loop _) (T.self _ 0 _ _ _ st4 (loop _))
theorem b2o {X:Cx} {elt tg iter:Expr} {cs:List Expr} {scope:Scope} {pos:Pos} {wi:TI} {g:TG} {tc:TT} {te:TE} {xs M:List Str} (hc:X.calm=true) (S:a0k scope X.env X.N M) (hi:PI X tg iter wi)
  (hin:∀ (cl:List (Str × Addr)) (C:Addr) (s0:Shared) (H0:Hp) (fp:List Addr),PG (cxC X scope cl C s0 H0 fp (xs++M)) tg g∧PTs (cxC X scope cl C s0 H0 fp (xs++M)) cs tc∧PE (cxC X scope cl C s0 H0 fp (xs++M)) elt te)
  (hg:∀ v σ H Q,g v (List.replicate xs.length none++σ) H Q→g v (List.replicate xs.length none++σ) H fun σ2 H2=>(∃ l:St,l.length=xs.length∧σ2=l++σ)∧Q σ2 H2)
  (hs:∀ x,foldedSetIterable iter X.env x=pure x:=by intro _;rfl):PE X (.ListComp elt [⟨tg,iter,cs,0⟩] scope pos) (a7k xs.length wi g tc te):=by
 intro pins s σ H Q I h
 rw [eval_ListComp]
 exact a3K (use:=none) hc S hi (fun cl C s0 H0 fp _ _ _=>hin cl C s0 H0 fp) hg hs pins s σ H Q I h fun d C s6 H6 m q I6 hn gn=>⟨m,hn,fun h' hs'=>⟨.ref d,H6,I6.gone gn hs',rfl,q⟩⟩
theorem a8u {X:Cx} {elt tg iter:Expr} {cs:List Expr} {scope:Scope} {pos pos' spos:Pos} {wi:TI} {g:TG} {tc:TT} {te:TE} {xs M:List Str} {i:Nat} {x:Str} (hc:X.calm=true) (S:a0k scope X.env X.N M) (hi:PI X tg iter wi)
  (hin:∀ (cl:List (Str × Addr)) (C:Addr) (s0:Shared) (H0:Hp) (fp:List Addr),PG (cxC X scope cl C s0 H0 fp (xs++M)) tg g∧PTs (cxC X scope cl C s0 H0 fp (xs++M)) cs tc∧PE (cxC X scope cl C s0 H0 fp (xs++M)) elt te)
  (hg:∀ v σ H Q,g v (List.replicate xs.length none++σ) H Q→g v (List.replicate xs.length none++σ) H fun σ2 H2=>(∃ l:St,l.length=xs.length∧σ2=l++σ)∧Q σ2 H2)
  (hN:X.N.Nodup) (hix:X.N[i]?=some x) (hx:X.env.scope.names.lookup x=some .local) (hw:swapsWith (.ListComp elt [⟨tg,iter,cs,0⟩] scope pos) (some (.Name x pos')) spos.line X.env=pure true)
  (hs:∀ x,foldedSetIterable iter X.env x=pure x:=by intro _;rfl):PS X (.Assign [.Name x pos'] (.ListComp elt [⟨tg,iter,cs,0⟩] scope pos) spos) (b2b (a7k xs.length wi g tc te) (a1g i)):=by
 intro pins s σ H D I h
 rw [exec_Assign_Name_used _ _ _ _ hw]
 refine wpAny_bind (wpAny_standAt (wpAny_bind ?_))
 show wpAny _ X.A (comprehension (.ListComp elt [⟨tg,iter,cs,0⟩] scope pos) scope X.env _ (newList []) false (eval iter X.env) (some (assign (.Name x pos') X.env)) >>= fun _=>pure ()) _ _ s
 refine wpAny_bind (thn (a3K (use:=some (assign (.Name x pos') X.env)) (RR:=fun _ s'=>SP X pins D .next s') hc S hi (fun cl C s0 H0 fp _ _ _=>hin cl C s0 H0 fp) hg hs pins s σ H _ I h fun d C s6 H6 m q I6 hn gn=>?_) fun _ s' hq=>wpAny_pure (wpAny_pure hq))
 show wpAny _ X.A (assign (.Name x pos') X.env (.ref d)) _ _ s6
 refine wpAny_assign_Name (a4t I6 hN hix (.inl hx) (v:=.ref d) rfl (fun s7 I7 ch=>?_) (.inr hx))
 obtain ⟨a,hsb,ha⟩:=ch
 have ne:C≠a:=by
  rcases ha with z | z
  ·rw [z];exact gn.ne
  ·exact fun z'=>gn.cl x a z z'.symm
 exact ⟨m,hn.sameBut hsb ne,fun h' hs'=>⟨_,H6,I7.gone gn hs',q⟩⟩
theorem a6a {X:Cx} {elt tg iter:Expr} {cs:List Expr} {scope:Scope} {pos:Pos} {wi:TI} {g:TG} {tc:TT} {te:TE} {xs M:List Str} (hc:X.calm=true) (S:a0k scope X.env X.N M) (hi:PI X tg iter wi)
  (hin:∀ (cl:List (Str × Addr)) (C:Addr) (s0:Shared) (H0:Hp) (fp:List Addr) (pins:List (Addr × Obj)) (σ:St),b3q X (cxC X scope cl C s0 H0 fp (xs++M)) pins σ fp C s0 H0→PG (cxC X scope cl C s0 H0 fp (xs++M)) tg g∧PTs (cxC X scope cl C s0 H0 fp (xs++M)) cs tc∧PE (cxC X scope cl C s0 H0 fp (xs++M)) elt te)
  (hg:∀ v σ H Q,g v (List.replicate xs.length none++σ) H Q→g v (List.replicate xs.length none++σ) H fun σ2 H2=>(∃ l:St,l.length=xs.length∧σ2=l++σ)∧Q σ2 H2)
  (hs:∀ x,foldedSetIterable iter X.env x=pure x:=by intro _;rfl):PE X (.ListComp elt [⟨tg,iter,cs,0⟩] scope pos) (a7k xs.length wi g tc te):=by
 intro pins s σ H Q I h
 rw [eval_ListComp]
 exact a3K (use:=none) hc S hi hin hg hs pins s σ H Q I h fun d C s6 H6 m q I6 hn gn=>⟨m,hn,fun h' hs'=>⟨.ref d,H6,I6.gone gn hs',rfl,q⟩⟩
structure EqK {α:Type} [DecidableEq α] (H:Hp) (s:Shared) (n:Nat) (R:V→α→Prop):Prop where
 inj:∀ x a b,R x a→R x b→a=b
 eq:∀ (A:Around) (x y:V) (a b:α) (u v:Value),A.units+n < cLine→R x a→R y b→a0O x u→a0O y v→SeqAt.EqAt A s u v (decide (a=b))
def a8v (x:V) (i:Int):Prop:=x=.int i
def b2p {α:Type} (H:Hp) (R:V→α→Prop) (x:V) (ds:List α):Prop:=∃ a xs,x=.ref a∧H a=some (.tup xs)∧Paired R xs ds
def ROpt {α:Type} (R:V→α→Prop) (x:V):Option α→Prop
 | none=>x=.non
 | some d=>R x d∧∃ a,x=.ref a
theorem b1z {α:Type} [DecidableEq α]:∀ (as bs:List α) (e:Nat→Bool),(∀ j x y,as[j]?=some x→bs[j]?=some y→e j=decide (x=y)) →
  ((List.range (min as.length bs.length)).all e && as.length == bs.length)=decide (as=bs):=by
 intro as bs e h
 rw [Bool.eq_iff_iff]
 simp only [Bool.and_eq_true,List.all_eq_true,List.mem_range,beq_iff_eq,decide_eq_true_eq]
 constructor
 ·rintro ⟨h1,h2⟩
  refine List.ext_getElem? fun j=>?_
  by_cases hj:j < as.length
  ·have e1:as[j]?=some as[j]:=List.getElem?_eq_getElem hj
   have e2:bs[j]?=some (bs[j]'(by omega)):=List.getElem?_eq_getElem (by omega)
   have q:=h1 j (by omega)
   rw [h j _ _ e1 e2] at q
   rw [e1,e2,of_decide_eq_true q]
  ·rw [List.getElem?_eq_none (by omega),List.getElem?_eq_none (by omega)]
 ·rintro rfl
  refine ⟨fun j hj=>?_,rfl⟩
  have hj:j < as.length:=by omega
  have e1:as[j]?=some as[j]:=List.getElem?_eq_getElem hj
  rw [h j _ _ e1 e1]
  simp
theorem Paired.right_of {α β:Type} {R:α→β→Prop}:∀ {xs:List α} {ds:List β},Paired R xs ds→∀ (j:Nat) (x:α),xs[j]?=some x→∃ d,ds[j]?=some d∧R x d
 | _,_,.nil,j,x,e=>by simp at e
 | _,_,.cons r t,0,x,e=>by simp at e;subst e;exact ⟨_,rfl,r⟩
 | _,_,.cons r t,j+1,x,e=>by
  obtain ⟨d,e1,e2⟩:=Paired.right_of t j x (by simpa using e)
  exact ⟨d,by simpa using e1,e2⟩
theorem Paired.inj {α β:Type} {R:α→β→Prop} (h:∀ x a b,R x a→R x b→a=b):∀ {xs:List α} {ds es:List β},Paired R xs ds→Paired R xs es→ds=es
 | _,_,_,.nil,.nil=>rfl
 | _,_,_,.cons r t,.cons r' t'=>by rw [h _ _ _ r r',Paired.inj h t t']
theorem Paired.ints:∀ ns:List Int,Paired a8v (ns.map V.int) ns
 | []=>.nil
 | n :: ns=>.cons rfl (Paired.ints ns)
theorem Paired.ofInts:∀ {xs:List V} {ns:List Int},Paired a8v xs ns→xs=ns.map V.int
 | _,_,.nil=>rfl
 | _,_,.cons r t=>by rw [show _=_ from r,Paired.ofInts t];rfl
theorem a1w {H:Hp} {a:Addr} {ns:List Int} (h:H a=some (.tup (ns.map V.int))):b2p H a8v (.ref a) ns:=⟨a,_,rfl,h,Paired.ints ns⟩
section
variable {α:Type} [DecidableEq α] {P:Program} {w:World} {H:Hp} {s:Shared} {n:Nat} {R:V→α→Prop} {A:Around}
theorem EqK.int:EqK H s n a8v:=⟨fun x a b h1 h2=>by unfold a8v at *;rw [h1] at h2;cases h2;rfl,fun A x y a b u v _ h1 h2 r1 r2=>by
 unfold a8v at *
 subst h1 h2
 obtain ⟨t,rfl⟩:=r1
 obtain ⟨t',rfl⟩:=r2
 have q:=SeqAt.EqAt.int_int (A:=A) (s:=s) a t b t'
 rw [Bool.beq_eq_decide_eq] at q
 exact q⟩
theorem a3L (K:EqK H s n R) {xs ys:List V} {ds es:List α} {its its2:List Value} (p1:Paired R xs ds) (p2:Paired R ys es) (v1:a0D xs its) (v2:a0D ys its2) (hA:A.units+n < cLine) :
  ∃ e:Nat→Bool,(∀ j (h1:j < its.toArray.size) (h2:j < its2.toArray.size),SeqAt.EqAt A s its.toArray[j] its2.toArray[j] (e j))∧((List.range (min its.toArray.size its2.toArray.size)).all e && its.toArray.size == its2.toArray.size)=decide (ds=es):=by
 have l1:its.toArray.size=ds.length:=by rw [List.size_toArray,←v1.length];exact p1.length
 have l2:its2.toArray.size=es.length:=by rw [List.size_toArray,←v2.length];exact p2.length
 refine ⟨fun j=>match ds[j]?,es[j]? with | some d,some e=>decide (d=e) | _,_=>true,fun j h1 h2=>?_,?_⟩
 ·have hx:xs[j]?=some (xs[j]'(by rw [v1.length];simpa using h1)):=List.getElem?_eq_getElem _
  have hy:ys[j]?=some (ys[j]'(by rw [v2.length];simpa using h2)):=List.getElem?_eq_getElem _
  obtain ⟨d,e1,r1⟩:=Paired.right_of p1 j _ hx
  obtain ⟨e,e2,r2⟩:=Paired.right_of p2 j _ hy
  obtain ⟨u,e3,r3⟩:=v1.get hx
  obtain ⟨v,e4,r4⟩:=v2.get hy
  have q3:its.toArray[j]=u:=by
   have:=(List.getElem?_eq_some_iff.mp e3).2
   simpa using this
  have q4:its2.toArray[j]=v:=by
   have:=(List.getElem?_eq_some_iff.mp e4).2
   simpa using this
  simp only [e1,e2,q3,q4]
  exact K.eq A _ _ d e u v hA r1 r2 r3 r4
 ·rw [l1,l2]
  exact b1z ds es _ fun j x y h1 h2=>by simp only [h1,h2]
theorem a8w (K:EqK H s n R) (ok:HOk P w H s.heap) {a b:Addr} {xs ys:List V} {ds es:List α} (ha:H a=some (.tup xs)) (hb:H b=some (.tup ys)) (p1:Paired R xs ds) (p2:Paired R ys es) (hA:A.units+(n+1) < cLine) :
  SeqAt.RcAt A s (.ref a) (.ref b) (decide (ds=es)):=by
 obtain ⟨_,its,v1,t1⟩:=ok a _ ha
 obtain ⟨_,its2,v2,t2⟩:=ok b _ hb
 obtain ⟨e,h1,h2⟩:=a3L (A:=A.in1) K p1 p2 v1 v2 (by show A.units+1+n < cLine;omega)
 rw [←h2]
 exact SeqAt.RcAt.tuples t1 t2 (by omega) h1
theorem b2q (K:EqK H s n R) (ok:HOk P w H s.heap) {a b:Addr} {xs ys:List V} {ds es:List α} (ha:H a=some (.tup xs)) (hb:H b=some (.tup ys)) (p1:Paired R xs ds) (p2:Paired R ys es) (hA:A.units+(n+1) < cLine) :
  SeqAt.RcNeAt A s (.ref a) (.ref b) (!decide (ds=es)):=by
 obtain ⟨_,its,v1,t1⟩:=ok a _ ha
 obtain ⟨_,its2,v2,t2⟩:=ok b _ hb
 obtain ⟨e,h1,h2⟩:=a3L (A:=A.in1) K p1 p2 v1 v2 (by show A.units+1+n < cLine;omega)
 rw [←h2]
 exact SeqAt.RcNeAt.tuples t1 t2 (by omega) h1
theorem a2v {h:Heap} {a:Addr} {its:List Value} {k:Nat} (e:h.get? a=some { cls:=.type "list",data:=.seq its.toArray k }):h.IsList a its.toArray:=⟨_,e,rfl,_,rfl⟩
theorem b2r (K:EqK H s n R) (ok:HOk P w H s.heap) {a b:Addr} {xs ys:List V} {ds es:List α} (ha:H a=some (.lst xs)) (hb:H b=some (.lst ys)) (p1:Paired R xs ds) (p2:Paired R ys es) (hA:A.units+(n+1) < cLine) :
  SeqAt.RcAt A s (.ref a) (.ref b) (decide (ds=es)):=by
 obtain ⟨_,its,k1,v1,t1⟩:=ok a _ ha
 obtain ⟨_,its2,k2,v2,t2⟩:=ok b _ hb
 obtain ⟨e,h1,h2⟩:=a3L (A:=A.in1) K p1 p2 v1 v2 (by show A.units+1+n < cLine;omega)
 by_cases hz:its.toArray.size=its2.toArray.size
 ·have q:=SeqAt.RcAt.lists (a2v t1) (a2v t2) hz (show A.units < cLine by omega) h1
  have z:(List.range its.toArray.size).all e=decide (ds=es):=by
   rw [←h2,←hz]
   simp
  rw [z] at q
  exact q
 ·have q:=SeqAt.RcAt.lists_lengths (A:=A) (a2v t1) (a2v t2) (by simpa using hz) (show A.units < cLine by omega)
  have z:false=decide (ds=es):=by
   rw [←h2]
   have:(its.toArray.size == its2.toArray.size)=false:=by simpa using hz
   rw [this,Bool.and_false]
  rw [z] at q
  exact q
theorem EqK.tup (K:EqK H s n R) (ok:HOk P w H s.heap):EqK H s (n+1) (b2p H R):=by
 refine ⟨fun x a b h1 h2=>?_,fun A x y a b u v hA h1 h2 r1 r2=>?_⟩
 ·obtain ⟨c,xs,rfl,e1,p1⟩:=h1
  obtain ⟨c',xs',z,e2,p2⟩:=h2
  cases z
  rw [e1] at e2;cases e2
  exact Paired.inj K.inj p1 p2
 ·obtain ⟨c,xs,rfl,e1,p1⟩:=h1
  obtain ⟨c',xs',rfl,e2,p2⟩:=h2
  cases r1;cases r2
  by_cases hc:c=c'
  ·subst hc
   rw [e1] at e2;cases e2
   have:=Paired.inj K.inj p1 p2
   subst this
   rw [decide_eq_true rfl]
   exact SeqAt.EqAt.same _
  ·exact SeqAt.EqAt.of_refs hc (a8w K ok e1 e2 p1 p2 hA)
end
section
variable {X:Cx} {α:Type} [DecidableEq α]
def rEqTI:R2:=fun x y H Q=>∃ ns ms,b2p H a8v x ns∧b2p H a8v y ms∧Q (.bl (decide (ns=ms))) H
theorem b2s (hu:X.A.units+4 < cLine):OpR X (compareOp .Eq) rEqTI:=by
 intro pins s σ H x y v u Q I rx ry h
 obtain ⟨ns,ms,⟨a,xs,rfl,e1,p1⟩,⟨b,ys,rfl,e2,p2⟩,q⟩:=h
 cases rx;cases ry
 exact a8w (A:=X.A) (n:=0) EqK.int I.hok e1 e2 p1 p2 (by omega) _ _ _ _ ⟨.bl _,H,I,rfl,q⟩
end
def rIsi (K:PySem.W.Frag):List V→Hp→VK→Prop:=fun xs H Q=>∃ x t T b,xs=[x,.ty T]∧a7b K H x t∧PySem.W.kitOne K t (.type T)=some b∧Q (.bl b) H
theorem b0k {X:Cx}:a1K X (.builtin "isinstance") (rIsi X.K):=by
 intro pins s σ H xs us Q I r h
 obtain ⟨x,t,T,b,rfl,ty,e,q⟩:=h
 obtain ⟨u,v,rfl,r1,r2⟩:=r.two
 cases r2
 exact a8k I r1 ty e fun tk=>⟨.bl b,H,I.tok tk,rfl,q⟩
def rSlG:V→Option Int→Option Int→Hp→VK→Prop:=fun x lo hi H Q=>∃ a xs,x=.ref a∧H a=some (.tup xs)∧∀ p H',a0t H H'→H' p=some (.tup (a3H xs lo hi))→Q (.ref p) H'
theorem sixAll {n:Nat} {α:Type} (xs:List α) (lo hi:Option Int) (h1:HT.sIx xs.length 0 lo=0) (h2:HT.sIx xs.length xs.length hi=xs.length):(xs.drop (HT.sIx xs.length 0 lo)).take (HT.sIx xs.length xs.length hi - HT.sIx xs.length 0 lo)=xs:=by
 rw [h1,h2];simp
theorem a0d {H:Hp} {p:Addr} (h:H p=none) (o:HO):a0t H (upd H p o):=fun b u q=>by rw [a0l (a0r q h)];exact q
theorem a5q {prog:Program} {w:World} {A:Around} {E:Value→Shared→Prop} {s:Shared} {t sl:Addr} {items:Array Value} {vl vu:Value} {lo hi:Option Int} {Q:Value→Shared→Prop} (ht:IsTup s.heap t items) (hs:s.heap.IsSliceOf sl vl vu .none) (pl:IsPart vl lo) (pu:IsPart vu hi)
  (h1:HT.sIx items.size 0 lo=0) (h2:HT.sIx items.size items.size hi=items.size) (h:Q (.ref t) s):wpAny (model prog w) A (getItem (.ref t) (.ref sl)) Q E s:=by
 obtain ⟨os,hos,hcs,hds⟩:=id hs
 have hTs:s.TypeIs (.ref sl) "slice":=⟨os,hos,hcs⟩
 unfold getItem
 try with_reducible refine wpAny_holding ?_
 first | refine wpAny_bind (wpAny_pure ?_) | skip
 refine wpAny_bind (wpAny_sequenceKey ht.typeIs (by decide) ?_)
 refine wpAny_bind (wpAny_callSpecial?_slot (name:=Str.ofString "__getitem__") ht.typeIs PyProof.Rows.slot_tuple_getitem
  (wpAny_call_entry PyProof.Rows.slot_tuple_getitem ht.typeIs entry_tuple_getitem ?_ (args_tuple_getitem _ _)))
 show wpAny _ _ (Builtin.Tuple.tupleItemsOf (.ref t) >>= _) _ _ s
 refine wpAny_bind (tupleItemsOf_ ht ?_)
 refine wpAny_bind (wpAny_typeOf hTs ?_)
 rw [if_pos (by decide)]
 refine wpAny_bind (HT.a1r hs pl pu ?_)
 rw [h1,h2]
 show wpAny _ _ (if (((0:Nat):Int) == 0 && (1:Int) == 1 && (items.size - 0) == items.size)=true then _ else _) _ _ s
 rw [if_pos (by simp)]
 unfold Builtin.Tuple.tupleIsExact
 refine wpAny_bind (wpAny_bind (wpAny_typeOf ht.typeIs (wpAny_pure ?_)))
 rw [if_pos (by decide)]
 first
  | exact wpAny_bind (wpAny_rule (wpAny_bind (wpAny_pure (wpAny_pure ⟨_,rfl,wpAny_pure h⟩))))
  | exact wpAny_bind (wpAny_rule (wpAny_pure ⟨_,rfl,wpAny_pure h⟩))
  | exact wpAny_bind (wpAny_bind (wpAny_rule (wpAny_pure ⟨_,rfl,wpAny_pure h⟩)))
theorem a2P {X:Cx}:SlR X rSlG:=by
 intro pins s σ H x v vl vu lo hi sl Q I rx hs pl pu h
 obtain ⟨a,xs,rfl,hx,q⟩:=h
 by_cases hw:HT.sIx xs.length 0 lo=0∧HT.sIx xs.length xs.length hi=xs.length
 ·cases rx
  obtain ⟨hz,its,r,ht⟩:=I.hok a _ hx
  have hlen:its.toArray.size=xs.length:=by rw [List.size_toArray];exact r.length.symm
  refine ⟨"tuple",_,PyProof.Rows.slot_tuple_getitem.lookup,(a4o.is ht).typeIs,?_⟩
  refine a5q (a4o.is ht) hs pl pu (by rw [hlen];exact hw.1) (by rw [hlen];exact hw.2) ⟨.ref a,H,I,rfl,q a H (a0t.refl H) ?_⟩
  unfold a3H
  rw [sixAll (n:=0) xs lo hi hw.1 hw.2]
  exact hx
 ·exact sl_tup pins s σ H (.ref a) v vl vu lo hi sl Q I rx hs pl pu ⟨a,xs,rfl,.inl (.inl hx),hw,fun p hp=>q p _ (a0d hp _) a0b⟩
def rCatG:R2:=fun x y H Q=>∃ a b xs ys,x=.ref a∧y=.ref b∧H a=some (.tup xs)∧H b=some (.tup ys)∧xs.length+ys.length≤sizeLine∧∀ p H',a0t H H'→H' p=some (.tup (xs++ys))→Q (.ref p) H'
theorem a3M {X:Cx}:OpR X (binaryOp .Add) rCatG:=by
 intro pins s σ H x y v u Q I rx ry h
 obtain ⟨a,b,xs,ys,rfl,rfl,ha,hb,hz,q⟩:=h
 by_cases hx:xs=[]
 ·subst hx
  cases rx;cases ry
  obtain ⟨_,its,r1,p1⟩:=I.hok a _ ha
  obtain ⟨_,its2,r2,p2⟩:=I.hok b _ hb
  have e0:its=[]:=r1.nil_iff.mpr rfl
  subst e0
  obtain ⟨⟨cls,dd,data,sl⟩,ho,hc,n,hd⟩:=id (a4o.is p1)
  obtain ⟨⟨cls2,dd2,data2,sl2⟩,ho2,hc2,n2,hd2⟩:=id (a4o.is p2)
  simp only at hc hd hc2 hd2
  subst hc hd hc2 hd2
  exact concat_meets ⟨_,ho,rfl⟩ ⟨_,ho2,rfl⟩ noFill_tuple_add seq_tuple_add PySem.F.slot_tuple_add PySem.F.entry_tuple_add (PySem.F.args_tuple_add_2 _ _)
   (tuple_addW0 a b ([]:List Value).toArray its2.toArray n n2 dd dd2 sl sl2 (by simp)) ⟨ho,ho2,⟨.ref b,H,I,rfl,q b H (a0t.refl H) (by simpa using hb)⟩⟩
 ·exact b2j pins s σ H (.ref a) (.ref b) v u Q I rx ry ⟨a,b,xs,ys,rfl,rfl,.inl (.inl ha),.inl (.inl hb),hx,hz,fun z=>q a H (a0t.refl H) (by rw [z,List.append_nil];exact ha),fun _ p hp=>q p _ (a0d hp _) a0b⟩
def rAll:List V→Hp→VK→Prop:=fun xs H Q=>∃ (a:Addr) (bs:List Bool),xs=[.ref a]∧H a=some (.lst (bs.map V.bl))∧Q (.bl (bs.all id)) H
theorem b0l:∀ {bs:List Bool} {us:List Value},a0D (bs.map V.bl) us→us=bs.map Value.bool:=by
 intro bs
 induction bs with
 | nil=>intro us r;rw [List.map_nil] at r;cases r;rfl
 | cons b bs ih =>
  intro us r
  rw [List.map_cons] at r
  cases r with
  | cons r1 r2=>rw [ih r2,show _=Value.bool b from r1];rfl
theorem a8x (bs:List Bool):(List.range bs.length).all (fun i=>bs.getD i true)=bs.all id:=by
 rw [Bool.eq_iff_iff]
 simp only [List.all_eq_true,List.mem_range,id]
 constructor
 ·intro h b hb
  obtain ⟨i,hi,rfl⟩:=List.mem_iff_getElem.mp hb
  have q:=h i hi
  rwa [List.getD_eq_getElem?_getD,List.getElem?_eq_getElem hi] at q
 ·intro h i hi
  rw [List.getD_eq_getElem?_getD,List.getElem?_eq_getElem hi]
  exact h _ (List.getElem_mem hi)
theorem a2z {X:Cx} (hc:X.calm=true):a1K X (.builtin "all") rAll:=by
 intro pins s σ H xs us Q I r h
 obtain ⟨a,bs,rfl,ha,q⟩:=h
 obtain ⟨u,rfl,ru⟩:=a2H r
 cases ru
 obtain ⟨hz,its,n,v,e⟩:=I.hok a _ ha
 have ei:=b0l v
 subst ei
 refine call_all_walk (wpAny_pyIter_list (a2v e) ?_)
 have hlt:=Heap.lt_size e
 refine ⟨s.heap.objs.size,_,_,_,_,_,fun i=>bs.getD i true,rfl,Walks.list (A:=X.A.in1) (by show X.A.handled=none;exact I.ok.hd hc) s.heap.objs.size a (Nat.ne_of_lt hlt) (bs.map Value.bool).toArray,⟨⟨_,Heap.get?_push_size _ rfl,rfl,rfl⟩,a2v (Heap.get?_push_of_some _ e)⟩,?_,fun h' tk hk=>?_⟩
 ·intro i v s' Q' E' hv hq
  simp only [List.getElem?_toArray,List.getElem?_map] at hv
  cases hb:bs[i]? with
  | none=>rw [hb] at hv;cases hv
  | some b =>
   rw [hb] at hv;cases hv
   have hq':Q' (bs.getD i true) s':=hq
   rw [List.getD_eq_getElem?_getD,hb] at hq'
   exact wpAny_truthy_bool hq'
 ·have e1:(bs.map Value.bool).toArray.size=bs.length:=by simp
  rw [e1,a8x]
  exact ⟨.bl _,H,I.kept (h':=h') (t':=tk) (fun b o eo=>hk b o (by simp;exact Nat.ne_of_lt (Heap.lt_size eo)) (Heap.get?_push_of_some _ eo)),rfl,q⟩
def rSum:List V→Hp→VK→Prop:=fun xs H Q=>∃ (a:Addr) (ns:List Int),xs=[.ref a]∧H a=some (.lst (ns.map V.int))∧Q (.int ns.sum) H
theorem a3t:∀ {ns:List Int} {us:List Value},a0D (ns.map V.int) us→∀ (i:Nat) (v:Value),us[i]?=some v→∃ t,v=.int (ns.getD i 0) t:=by
 intro ns
 induction ns with
 | nil=>intro us r i v e;rw [List.map_nil] at r;cases r;simp at e
 | cons n ns ih =>
  intro us r i v e
  rw [List.map_cons] at r
  cases r with
  | cons r1 r2 =>
   cases i with
   | zero =>
    simp at e;subst e
    obtain ⟨t,z⟩:=r1
    exact ⟨t,by rw [z];simp⟩
   | succ i =>
    obtain ⟨t,z⟩:=ih r2 i v (by simpa using e)
    exact ⟨t,by rw [z];simp⟩
theorem a6b {X:Cx} (hc:X.calm=true):a1K X (.builtin "sum") rSum:=by
 intro pins s σ H xs us Q I r h
 obtain ⟨a,ns,rfl,ha,q⟩:=h
 obtain ⟨u,rfl,ru⟩:=a2H r
 cases ru
 obtain ⟨hz,its,n,v,e⟩:=I.hok a _ ha
 refine call_sum_walkAnyS (wpAny_pyIter_list (a2v e) ?_)
 have hlt:=Heap.lt_size e
 refine ⟨s.heap.objs.size,_,_,_,_,_,_,fun i=>ns.getD i 0,rfl,(Walks.list (A:=X.A.in1) (by show X.A.handled=none;exact I.ok.hd hc) s.heap.objs.size a (Nat.ne_of_lt hlt) its.toArray).toS,⟨⟨_,Heap.get?_push_size _ rfl,rfl,rfl⟩,a2v (Heap.get?_push_of_some _ e)⟩,?_,?_,fun s' t' mv=>?_⟩
 ·intro b hb
  have hp:(s.heap.push { cls:=.type "list_iterator",data:=.fields #[.ref a,rawInt 0] }).objs.size=s.heap.objs.size+1:=Heap.size_push _ _
  rcases List.mem_cons.mp hb with z | z
  ·subst z
   exact Heap.lt_size (Heap.get?_push_size _ rfl)
  ·have z':b=a:=by simpa using z
   subst z'
   exact Heap.lt_size (Heap.get?_push_of_some _ e)
 ·intro i v' hv
  exact a3t v i v' (by simpa using hv)
 ·have e1:its.toArray.size=ns.length:=by
   have:=v.length
   rw [List.length_map] at this
   simpa using this.symm
  rw [e1,preSum_getD]
  have e2:ns.take ns.length=ns:=List.take_length
  rw [e2]
  have k:∀ b o,s.heap.get? b=some o→s'.heap.get? b=some o:=fun b o eo=>mv.heap b o (by simp;exact Nat.ne_of_lt (Heap.lt_size eo)) (Heap.get?_push_of_some _ eo)
  obtain ⟨h',g',d',tk',os'⟩:=s'
  have z1:g'=s.gens:=mv.gens
  have z2:d'=s.drawn:=mv.drawn
  have z3:os'=s.os:=mv.os
  subst z1 z2 z3
  exact ⟨.int _,H,I.kept (h':=h') (t':=tk') k,⟨t',rfl⟩,q⟩
theorem a0w (scope:Scope) (en:Env) (y:Str):(relabel scope en).names.lookup y=(scope.names.lookup y).map fun k=>if (k == NameKind.free && en.scope.kind == .function && en.kindOf y == some .cell)=true then .cell else k:=by
 show List.lookup y (scope.names.map fun (n,k)=>if (k == NameKind.free && en.scope.kind == .function && en.kindOf n == some .cell)=true then (n,NameKind.cell) else (n,k))=_
 generalize scope.names=l
 induction l with
 | nil=>rfl
 | cons p r ih =>
  obtain ⟨n,k⟩:=p
  rw [List.map_cons]
  by_cases hy:y=n
  ·subst hy
   show List.lookup y ((if (k == NameKind.free && en.scope.kind == .function && en.kindOf y == some .cell)=true then (y,NameKind.cell) else (y,k)) :: _)=_
   by_cases hc:(k == NameKind.free && en.scope.kind == .function && en.kindOf y == some .cell)=true
   ·rw [if_pos hc,List.lookup_cons,List.lookup_cons,beq_self_eq_true]
    show some NameKind.cell=some (if _ then _ else _)
    rw [if_pos hc]
   ·rw [if_neg hc,List.lookup_cons,List.lookup_cons,beq_self_eq_true]
    show some k=some (if _ then _ else _)
    rw [if_neg hc]
  ·have hb:(y == n)=false:=by simpa using hy
   show List.lookup y ((if (k == NameKind.free && en.scope.kind == .function && en.kindOf n == some .cell)=true then (n,NameKind.cell) else (n,k)) :: _)=_
   by_cases hc:(k == NameKind.free && en.scope.kind == .function && en.kindOf n == some .cell)=true
   ·rw [if_pos hc,List.lookup_cons,List.lookup_cons,hb];exact ih
   ·rw [if_neg hc,List.lookup_cons,List.lookup_cons,hb];exact ih
def a8y (scope:Scope) (p:Str × Str):Bool:=match scope.names.lookup p.1 with
 | none=>true
 | some .free=>p.1 == p.2
 | some .local=>false
 | some .cell=>false
 | some _=>true
theorem a0k.of' {scope:Scope} {en:Env} {N M:List Str} (sc:Scope) (N₀:List Str) (hsc:en.scope=sc) (hN:N=N₀) (kind:scope.kind=.function) (nocell:∀ y∈scope.names,y.2≠.cell) (locs:∀ y∈scope.names,y.2=.local→scope.names.lookup y.1=some .local)
  (free:∀ y∈scope.names,y.2=.free→sc.names.lookup y.1=some .cell∨sc.names.lookup y.1=some .free) (len:M.length=N₀.length) (same:((M.zip N₀).all (a8y scope))=true):a0k scope en N M:=by
 subst hsc hN
 refine ⟨kind,nocell,locs,fun y hy=>free _ hy rfl,len,fun j y e v=>?_,fun y h=>?_⟩
 ·have hj:j < N.length:=by rw [←len];exact (List.getElem?_eq_some_iff.mp e).1
  have e2:N[j]?=some N[j]:=List.getElem?_eq_getElem hj
  have hm:(y,N[j])∈M.zip N:=by
   refine List.mem_iff_getElem?.mpr ⟨j,?_⟩
   rw [List.getElem?_zip_eq_some]
   exact ⟨e,e2⟩
  have q:=List.all_eq_true.mp same _ hm
  unfold a8y at q
  unfold Vis at v
  rw [a0w] at v ⊢
  cases hl:scope.names.lookup y with
  | none=>rw [hl] at v;simp at v
  | some k =>
   rw [hl] at v q
   simp only [Option.map_some] at v ⊢
   cases k with
   | free =>
    have z:y=N[j]:=by simpa using q
    refine ⟨by rw [e2,←z],PySem.mem_of_lookup hl,?_⟩
    split <;> simp
   | «local»=>simp at q
   | cell=>simp at q
   | _=>simp at v
 ·rw [a0w] at h
  cases hl:scope.names.lookup y with
  | none=>rw [hl] at h;simp at h
  | some k =>
   rw [hl] at h
   have hm:=PySem.mem_of_lookup hl
   simp only [Option.map_some] at h
   cases k with
   | free=>exact hm
   | cell=>exact absurd rfl (nocell _ hm)
   | _=>simp at h
theorem a0k.of {scope:Scope} {en:Env} {N M:List Str} (sc:Scope) (N₀:List Str) (hsc:en.scope=sc) (hN:N=N₀) (kind:scope.kind=.function) (nocell:∀ y∈scope.names,y.2≠.cell) (locs:∀ y∈scope.names,y.2=.local→scope.names.lookup y.1=some .local)
  (free:∀ y∈scope.names,y.2=.free→sc.names.lookup y.1=some .cell∨sc.names.lookup y.1=some .free) (len:M.length=N₀.length) (same:((M.zip N₀).all (a8y scope))=true):a0k scope en N M:=a0k.of' sc N₀ hsc hN kind nocell locs free len same
theorem b1A {v:V} {σ:St} {H:Hp} {Q:St→Hp→Prop} (h:a1g 0 v (List.replicate 1 none++σ) H Q):a1g 0 v (List.replicate 1 none++σ) H fun σ2 H2=>(∃ l:St,l.length=1∧σ2=l++σ)∧Q σ2 H2 :=
 ⟨⟨[some v],rfl,rfl⟩,h⟩
theorem a3u {lo:Int} {n:Nat} {k:Nat} {g:TG} {tc:TT} {te:TE} {σ:St} {H:Hp} {Q:VK} {d:Addr} (Pv:Nat→Hp→Prop) (h0:Pv 0 (upd H d (.lst [])))
  (hs:∀ i H,i < n→Pv i H→g (.int (lo+i)) (List.replicate k none++σ) H fun σ2 H2=>tc σ2 H2 fun b H3=>if b=true then te σ2 H3 fun y H4=>∃ ys,H4 d=some (.lst ys)∧ys.length < sizeLine∧Pv (i+1) (upd H4 d (.lst (ys++[y]))) else Pv (i+1) H3)
  (hd:∀ H,Pv n H→Q (.ref d) H) :
  ∃ W:Nat→Nat→Hp→Prop,(∃ m,W 0 m (upd H d (.lst [])))∧∀ i m H,W i m H →
   ((Itr lo n).stop i H∧Q (.ref d) H)∨((Itr lo n).go i H∧∃ N:Hp→Prop,(∀ H',N H'→∃ m',m' < m∧W (i+1) m' H')∧∀ x H',(Itr lo n).yld i H x H'→g x (List.replicate k none++σ) H' fun σ2 H2 =>
    tc σ2 H2 fun b H3=>if b=true then te σ2 H3 fun y H4=>∃ ys,H4 d=some (.lst ys)∧ys.length < sizeLine∧N (upd H4 d (.lst (ys++[y]))) else N H3):=by
 refine ⟨fun i m H=>m=n - i∧i≤n∧Pv i H,⟨n,by simp,Nat.zero_le _,h0⟩,?_⟩
 rintro i m H ⟨rfl,hi,p⟩
 by_cases hlt:i < n
 ·refine .inr ⟨hlt,Pv (i+1),fun H' p'=>⟨n - (i+1),by omega,rfl,hlt,p'⟩,fun x H' y=>?_⟩
  obtain ⟨e,y⟩:=y
  subst e y
  exact hs i _ hlt p
 ·have e:i=n:=by omega
  subst e
  exact .inl ⟨Nat.le_refl _,hd H p⟩
theorem a3N {K:PySem.W.Frag} {a:Addr} {xs:List V} {k:Nat} {g:TG} {tc:TT} {te:TE} {σ:St} {H:Hp} {Q:VK} {d:Addr} (Pv:Nat→Hp→Prop) (h0:Pv 0 (upd H d (.lst []))) (hl:∀ i H,i≤xs.length→Pv i H→SqT K H a xs)
  (hs:∀ i x H,xs[i]?=some x→Pv i H→g x (List.replicate k none++σ) H fun σ2 H2=>tc σ2 H2 fun b H3=>if b=true then te σ2 H3 fun y H4=>∃ ys,H4 d=some (.lst ys)∧ys.length < sizeLine∧Pv (i+1) (upd H4 d (.lst (ys++[y]))) else Pv (i+1) H3)
  (hd:∀ H,Pv xs.length H→Q (.ref d) H) :
  ∃ W:Nat→Nat→Hp→Prop,(∃ m,W 0 m (upd H d (.lst [])))∧∀ i m H,W i m H →
   ((Itt K a).stop i H∧Q (.ref d) H)∨((Itt K a).go i H∧∃ N:Hp→Prop,(∀ H',N H'→∃ m',m' < m∧W (i+1) m' H')∧∀ x H',(Itt K a).yld i H x H'→g x (List.replicate k none++σ) H' fun σ2 H2 =>
    tc σ2 H2 fun b H3=>if b=true then te σ2 H3 fun y H4=>∃ ys,H4 d=some (.lst ys)∧ys.length < sizeLine∧N (upd H4 d (.lst (ys++[y]))) else N H3):=by
 refine ⟨fun i m H=>m=xs.length - i∧i≤xs.length∧Pv i H,⟨xs.length,by simp,Nat.zero_le _,h0⟩,?_⟩
 rintro i m H ⟨rfl,hi,p⟩
 have q:=hl i H hi p
 by_cases hlt:i < xs.length
 ·refine .inr ⟨⟨xs,xs[i],q,by simp [hlt]⟩,Pv (i+1),fun H' p'=>⟨xs.length - (i+1),by omega,rfl,hlt,p'⟩,fun x H' y=>?_⟩
  obtain ⟨e,y⟩:=y
  subst e
  exact hs i x _ (y xs q) p
 ·have e:i=xs.length:=by omega
  subst e
  exact .inl ⟨⟨xs,q,Nat.le_refl _⟩,hd H p⟩
theorem a1x {K:PySem.W.Frag} {a:Addr} {xs:List V} {k:Nat} {g:TG} {tc:TT} {te:TE} {σ:St} {H:Hp} {Q:VK} {d:Addr} (Pv:Nat→Hp→Prop) (h0:Pv 0 (upd H d (.lst []))) (hl:∀ i H,i≤xs.length→Pv i H→SqL K H a xs)
  (hs:∀ i x H,xs[i]?=some x→Pv i H→g x (List.replicate k none++σ) H fun σ2 H2=>tc σ2 H2 fun b H3=>if b=true then te σ2 H3 fun y H4=>∃ ys,H4 d=some (.lst ys)∧ys.length < sizeLine∧Pv (i+1) (upd H4 d (.lst (ys++[y]))) else Pv (i+1) H3)
  (hd:∀ H,Pv xs.length H→Q (.ref d) H) :
  ∃ W:Nat→Nat→Hp→Prop,(∃ m,W 0 m (upd H d (.lst [])))∧∀ i m H,W i m H →
   ((Itl K a).stop i H∧Q (.ref d) H)∨((Itl K a).go i H∧∃ N:Hp→Prop,(∀ H',N H'→∃ m',m' < m∧W (i+1) m' H')∧∀ x H',(Itl K a).yld i H x H'→g x (List.replicate k none++σ) H' fun σ2 H2 =>
    tc σ2 H2 fun b H3=>if b=true then te σ2 H3 fun y H4=>∃ ys,H4 d=some (.lst ys)∧ys.length < sizeLine∧N (upd H4 d (.lst (ys++[y]))) else N H3):=by
 refine ⟨fun i m H=>m=xs.length - i∧i≤xs.length∧Pv i H,⟨xs.length,by simp,Nat.zero_le _,h0⟩,?_⟩
 rintro i m H ⟨rfl,hi,p⟩
 have q:=hl i H hi p
 by_cases hlt:i < xs.length
 ·refine .inr ⟨⟨xs,xs[i],q,by simp [hlt]⟩,Pv (i+1),fun H' p'=>⟨xs.length - (i+1),by omega,rfl,hlt,p'⟩,fun x H' y=>?_⟩
  obtain ⟨e,y⟩:=y
  subst e
  exact hs i x _ (y xs q) p
 ·have e:i=xs.length:=by omega
  subst e
  exact .inl ⟨⟨xs,q,Nat.le_refl _⟩,hd H p⟩
theorem b_isi:bootBuiltins "isinstance"=some (.builtin "isinstance"):=by decide +kernel
theorem b0m:bootBuiltins "all"=some (.builtin "all"):=by decide +kernel
theorem b0n:bootBuiltins "sum"=some (.builtin "sum"):=by decide +kernel
theorem b_int:bootBuiltins "int"=some (.type "int"):=by decide +kernel
theorem a8z:bootBuiltins "list"=some (.type "list"):=by decide +kernel
theorem a1n:bootBuiltins "tuple"=some (.type "tuple"):=by decide +kernel
theorem a5r (K:PySem.W.Frag):PySem.W.kitOne K (.type "int") (.type "int")=some true:=by rfl
theorem PE.imp {X:Cx} {e:Expr} {t t':TE} (h:PE X e t) (hi:∀ σ H Q,t' σ H Q→t σ H Q):PE X e t':=fun pins s σ H Q I q=>h pins s σ H Q I (hi σ H Q q)
def a5s (tc:TT) (te:TE) (σ:St) (d:Addr) (x:V) (H:Hp) (Z:Hp→Prop):Prop :=
 tc (some x :: σ) H fun b H3=>if b=true then te (some x :: σ) H3 fun y H4=>∃ ys,H4 d=some (.lst ys)∧ys.length < sizeLine∧Z (upd H4 d (.lst (ys++[y]))) else Z H3
def a8A (ta:TA) (tc:TT) (te:TE):TE:=fun σ H Q=>ta σ H fun vs H1=>∃ j:Int,vs=[.int j]∧-(2 ^ 62)≤j∧j < 2 ^ 62∧∀ d,H1 d=none →
 ∃ Pv:Nat→Hp→Prop,Pv 0 (upd H1 d (.lst []))∧(∀ i H,i < j.toNat→Pv i H→a5s tc te σ d (.int (0+i)) H (Pv (i+1)))∧∀ H,Pv j.toNat H→Q (.ref d) H
def tCompL (K:PySem.W.Frag) (tl:TE) (tc:TT) (te:TE):TE:=fun σ H Q=>tl σ H fun v H1=>∃ a xs,v=.ref a∧SqL K H1 a xs∧∀ d,H1 d=none →
 ∃ Pv:Nat→Hp→Prop,Pv 0 (upd H1 d (.lst []))∧(∀ i H,i≤xs.length→Pv i H→SqL K H a xs)∧(∀ i x H,xs[i]?=some x→Pv i H→a5s tc te σ d x H (Pv (i+1)))∧∀ H,Pv xs.length H→Q (.ref d) H
def tCompT (K:PySem.W.Frag) (tl:TE) (tc:TT) (te:TE):TE:=fun σ H Q=>tl σ H fun v H1=>∃ a xs,v=.ref a∧SqT K H1 a xs∧∀ d,H1 d=none →
 ∃ Pv:Nat→Hp→Prop,Pv 0 (upd H1 d (.lst []))∧(∀ i H,i≤xs.length→Pv i H→SqT K H a xs)∧(∀ i x H,xs[i]?=some x→Pv i H→a5s tc te σ d x H (Pv (i+1)))∧∀ H,Pv xs.length H→Q (.ref d) H
def a1V (t:TE):Prop:=∀ σ H (Q Q':VK),(∀ v H1,Q v H1→Q' v H1)→t σ H Q→t σ H Q'
def a5t (t:TA):Prop:=∀ σ H (Q Q':List V→Hp→Prop),(∀ v H1,Q v H1→Q' v H1)→t σ H Q→t σ H Q'
section
variable {X:Cx} {elt iter:Expr} {tg:Str} {tp:Pos} {cs:List Expr} {scope:Scope} {pos:Pos} {tc:TT} {te:TE} {M:List Str}
abbrev a4F (X:Cx) (scope:Scope) (tg:Str) (M:List Str) (cs:List Expr) (elt:Expr) (tc:TT) (te:TE):Prop :=
 ∀ (cl:List (Str × Addr)) (C:Addr) (s0:Shared) (H0:Hp) (fp:List Addr),PTs (cxC X scope cl C s0 H0 fp (tg :: M)) cs tc∧PE (cxC X scope cl C s0 H0 fp (tg :: M)) elt te
theorem a2A {wi:TI} {t:TE} (hc:X.calm=true) (S:a0k scope X.env X.N M) (nd:(tg :: M).Nodup) (hl:scope.names.lookup tg=some .local) (hi:PI X (.Name tg tp) iter wi) (hin:a4F X scope tg M cs elt tc te)
  (ht:∀ σ H Q,t σ H Q→a7k 1 wi (a1g 0) tc te σ H Q) (hs:∀ x,foldedSetIterable iter X.env x=pure x):PE X (.ListComp elt [⟨.Name tg tp,iter,cs,0⟩] scope pos) t:=by
 have hx:(relabel scope X.env).names.lookup tg=some .local:=by
  rw [a0w,hl]
  rfl
 exact PE.imp (b2o (xs:=[tg]) (M:=M) hc S hi (fun cl C s0 H0 fp=>⟨a0I (i:=0) nd rfl (Or.inl hx) (Or.inr hx),hin cl C s0 H0 fp⟩) (fun v σ H Q h=>b1A h) hs) ht
theorem a1W {a:Expr} {ta:TA} {p pos':Pos} (hc:X.calm=true) (S:a0k scope X.env X.N M) (nd:(tg :: M).Nodup) (hl:scope.names.lookup tg=some .local) (hg:Gl X "range") (hm:X.mg "range"=none) (ha:PA X [a] ta) (mo:a5t ta)
  (hin:a4F X scope tg M cs elt tc te) (hs:starEach [a] X.env=[(false,eval a X.env)]:=by rfl) (hf:∀ x,foldedSetIterable (.Call (.Name "range" p) [a] [] pos') X.env x=pure x:=by intro _;rfl) :
  PE X (.ListComp elt [⟨.Name tg tp,.Call (.Name "range" p) [a] [] pos',cs,0⟩] scope pos) (a8A ta tc te):=by
 refine a2A hc S nd hl (a1S hg hm ha hs) hin (fun σ H Q h=>?_) hf
 refine mo σ H _ _ (fun vs H1 q=>?_) h
 obtain ⟨j,e,j1,j2,q⟩:=q
 refine ⟨j,e,j1,j2,fun d hd=>?_⟩
 obtain ⟨Pv,h0,hs,hd⟩:=q d hd
 exact a3u (k:=1) (g:=a1g 0) Pv h0 hs hd
theorem a3O {tl:TE} (hc:X.calm=true) (S:a0k scope X.env X.N M) (nd:(tg :: M).Nodup) (hl:scope.names.lookup tg=some .local) (hi:PE X iter tl) (mo:a1V tl)
  (hin:a4F X scope tg M cs elt tc te) (hf:∀ x,foldedSetIterable iter X.env x=pure x:=by intro _;rfl):PE X (.ListComp elt [⟨.Name tg tp,iter,cs,0⟩] scope pos) (tCompL X.K tl tc te):=by
 refine a2A hc S nd hl (a1J hi) hin (fun σ H Q h=>?_) hf
 refine mo σ H _ _ (fun v H1 q=>?_) h
 obtain ⟨a,xs,e,j1,q⟩:=q
 refine ⟨a,e,⟨xs,j1⟩,fun d hd=>?_⟩
 obtain ⟨Pv,h0,hl,hs,hd⟩:=q d hd
 exact a1x (k:=1) (g:=a1g 0) Pv h0 hl hs hd
theorem a1X {tl:TE} (hc:X.calm=true) (S:a0k scope X.env X.N M) (nd:(tg :: M).Nodup) (hl:scope.names.lookup tg=some .local) (hi:PE X iter tl) (mo:a1V tl)
  (hin:a4F X scope tg M cs elt tc te) (hf:∀ x,foldedSetIterable iter X.env x=pure x:=by intro _;rfl):PE X (.ListComp elt [⟨.Name tg tp,iter,cs,0⟩] scope pos) (tCompT X.K tl tc te):=by
 refine a2A hc S nd hl (b1u hi) hin (fun σ H Q h=>?_) hf
 refine mo σ H _ _ (fun v H1 q=>?_) h
 obtain ⟨a,xs,e,j1,q⟩:=q
 refine ⟨a,e,⟨xs,j1⟩,fun d hd=>?_⟩
 obtain ⟨Pv,h0,hl,hs,hd⟩:=q d hd
 exact a3N (k:=1) (g:=a1g 0) Pv h0 hl hs hd
theorem a6c {wi:TI} {t:TE} {i:Nat} {x:Str} {pos1 spos:Pos} (hc:X.calm=true) (S:a0k scope X.env X.N M) (nd:(tg :: M).Nodup) (hl:scope.names.lookup tg=some .local) (hi:PI X (.Name tg tp) iter wi) (hin:a4F X scope tg M cs elt tc te)
  (ht:∀ σ H Q,t σ H Q→a7k 1 wi (a1g 0) tc te σ H Q) (hN:X.N.Nodup) (hix:X.N[i]?=some x) (hx:X.env.scope.names.lookup x=some .local) (hw:swapsWith (.ListComp elt [⟨.Name tg tp,iter,cs,0⟩] scope pos) (some (.Name x pos1)) spos.line X.env=pure true) (hs:∀ x,foldedSetIterable iter X.env x=pure x) :
  PS X (.Assign [.Name x pos1] (.ListComp elt [⟨.Name tg tp,iter,cs,0⟩] scope pos) spos) (b2b t (a1g i)):=by
 have hx':(relabel scope X.env).names.lookup tg=some .local:=by
  rw [a0w,hl]
  rfl
 intro pins s σ H D I h
 exact a8u (xs:=[tg]) (M:=M) hc S hi (fun cl C s0 H0 fp=>⟨a0I (i:=0) nd rfl (Or.inl hx') (Or.inr hx'),hin cl C s0 H0 fp⟩) (fun v σ H Q h=>b1A h) hN hix hx hw hs pins s σ H D I (ht _ _ _ h)
theorem a8B {a:Expr} {ta:TA} {p pos' pos1 spos:Pos} {i:Nat} {x:Str} (hN:X.N.Nodup) (hix:X.N[i]?=some x) (hx:X.env.scope.names.lookup x=some .local) (hc:X.calm=true) (S:a0k scope X.env X.N M) (nd:(tg :: M).Nodup) (hl:scope.names.lookup tg=some .local) (hg:Gl X "range") (hm:X.mg "range"=none) (ha:PA X [a] ta) (mo:a5t ta)
  (hin:a4F X scope tg M cs elt tc te) (hw:swapsWith (.ListComp elt [⟨.Name tg tp,.Call (.Name "range" p) [a] [] pos',cs,0⟩] scope pos) (some (.Name x pos1)) spos.line X.env=pure true:=by rfl)
  (hs:starEach [a] X.env=[(false,eval a X.env)]:=by rfl) (hf:∀ x,foldedSetIterable (.Call (.Name "range" p) [a] [] pos') X.env x=pure x:=by intro _;rfl) :
  PS X (.Assign [.Name x pos1] (.ListComp elt [⟨.Name tg tp,.Call (.Name "range" p) [a] [] pos',cs,0⟩] scope pos) spos) (b2b (a8A ta tc te) (a1g i)):=by
 refine a6c hc S nd hl (a1S hg hm ha hs) hin (fun σ H Q h=>?_) hN hix hx hw hf
 refine mo σ H _ _ (fun vs H1 q=>?_) h
 obtain ⟨j,e,j1,j2,q⟩:=q
 refine ⟨j,e,j1,j2,fun d hd=>?_⟩
 obtain ⟨Pv,h0,hs,hd⟩:=q d hd
 exact a3u (k:=1) (g:=a1g 0) Pv h0 hs hd
end
theorem a0R {te:TE} {σ:St} {d:Addr} {x:V} {H:Hp} {Z:Hp→Prop} (h:te (some x :: σ) H fun y H4=>∃ ys,H4 d=some (.lst ys)∧ys.length < sizeLine∧Z (upd H4 d (.lst (ys++[y])))):a5s a8t te σ d x H Z:=by
 unfold a5s a8t
 exact a9X h
theorem a1f {i:Nat}:a1V (tVar i):=fun _ _ _ _ h ⟨v,e,q⟩=>⟨v,e,h _ _ q⟩
theorem mo_c {v:V}:a1V (tC v):=fun _ _ _ _ h q=>h _ _ q
theorem a2Q:a5t tNil:=fun _ _ _ _ h q=>h _ _ q
theorem a1y {te:TE} {ta:TA} (h1:a1V te) (h2:a5t ta):a5t (tCons te ta):=fun σ H Q Q' h q=>h1 σ H _ _ (fun v H1 q1=>h2 σ H1 _ _ (fun vs H2 q2=>h _ _ q2) q1) q
theorem mo_op {r:R2} {ta tb:TE} (hr:∀ x y H (Q Q':VK),(∀ v H1,Q v H1→Q' v H1)→r x y H Q→r x y H Q') (h1:a1V ta) (h2:a1V tb):a1V (tOp r ta tb):=fun σ H Q Q' h q =>
 h1 σ H _ _ (fun v H1 q1=>h2 σ H1 _ _ (fun u H2 q2=>hr _ _ _ _ _ h q2) q1) q
theorem mo_rI0 {g:Int→Int→V}:∀ x y H (Q Q':VK),(∀ v H1,Q v H1→Q' v H1)→rI0 g x y H Q→rI0 g x y H Q':=fun _ _ _ _ _ h ⟨i,j,e1,e2,q⟩=>⟨i,j,e1,e2,h _ _ q⟩
theorem mo_len {K:PySem.W.Frag} {ta:TA} (h1:a5t ta):a1V (tCB (fun xs H Q=>∃ p ys,xs=[.ref p]∧(SqL K H p ys∨SqT K H p ys)∧Q (.int (ys.length:Nat)) H) ta):=fun σ H Q Q' h q =>
 h1 σ H _ _ (fun vs H1 ⟨p,ys,e,s,q1⟩=>⟨p,ys,e,s,h _ _ q1⟩) q
abbrev TW (H:Hp) (a:Addr) (ns:List Int):Prop:=H a=some (.tup (ns.map V.int))
abbrev Wd (H:Hp) (x:V) (w:List Int):Prop:=b2p H a8v x w
abbrev Ws (H:Hp) (xs:List V) (ws:List (List Int)):Prop:=Paired (b2p H a8v) xs ws
theorem Wd.ti {H:Hp} {x:V} {w:List Int} (h:Wd H x w):∃ a,x=.ref a∧TW H a w:=by
 obtain ⟨a,xs,rfl,e,p⟩:=h
 exact ⟨a,rfl,by show H a=_;rw [e,Paired.ofInts p]⟩
theorem Wd.of {H:Hp} {a:Addr} {w:List Int} (h:TW H a w):Wd H (.ref a) w:=a1w h
theorem Wd.same {H H':Hp} {x:V} {w:List Int} (sm:a0t H H') (h:Wd H x w):Wd H' x w:=by
 obtain ⟨a,xs,rfl,e,p⟩:=h
 exact ⟨a,xs,rfl,sm _ _ e,p⟩
theorem Ws.same {H H':Hp} {xs:List V} {ws:List (List Int)} (sm:a0t H H') (h:Ws H xs ws):Ws H' xs ws:=Paired.mapP h fun _ _ q=>Wd.same sm q
section
variable {α β:Type} {R:α→β→Prop}
theorem Paired.takeP:∀ {xs:List α} {ds:List β} (n:Nat),Paired R xs ds→Paired R (xs.take n) (ds.take n)
 | _,_,0,_=>by rw [List.take_zero,List.take_zero];exact .nil
 | _,_,_+1,.nil=>.nil
 | _,_,n+1,.cons r t=>.cons r (Paired.takeP n t)
theorem Paired.dropP:∀ {xs:List α} {ds:List β} (n:Nat),Paired R xs ds→Paired R (xs.drop n) (ds.drop n)
 | _,_,0,r=>r
 | _,_,_+1,.nil=>.nil
 | _,_,n+1,.cons _ t=>Paired.dropP n t
theorem Paired.appendP:∀ {xs ys:List α} {ds es:List β},Paired R xs ds→Paired R ys es→Paired R (xs++ys) (ds++es)
 | _,_,_,_,.nil,s=>s
 | _,_,_,_,.cons r t,s=>.cons r (Paired.appendP t s)
theorem Paired.left_of:∀ {xs:List α} {ds:List β},Paired R xs ds→∀ (j:Nat) (d:β),ds[j]?=some d→∃ x,xs[j]?=some x∧R x d
 | _,_,.nil,j,x,e=>by simp at e
 | _,_,.cons r t,0,x,e=>by simp at e;subst e;exact ⟨_,rfl,r⟩
 | _,_,.cons r t,j+1,x,e=>by
  obtain ⟨d,e1,e2⟩:=Paired.left_of t j x (by simpa using e)
  exact ⟨d,by simpa using e1,e2⟩
theorem Paired.oneP {a:α} {b:β} (r:R a b):Paired R [a] [b]:=.cons r .nil
end
theorem a1z {xs:List V} {i:Nat} {x:V} (h:xs[i]?=some x):atI xs (i:Int)=some x:=a2i h
theorem a6d {ns:List Int} {k:Nat} {x:Int} (h:ns[k]?=some x):atI (ns.map V.int) (k:Int)=some (.int x):=a2i (by rw [List.getElem?_map,h];rfl)
theorem at_of {xs:List V} {i:Int} (h0:0≤i) (h1:i < (xs.length:Int)):∃ x,xs[i.toNat]?=some x∧atI xs i=some x:=by
 obtain ⟨n,rfl⟩:∃ n:Nat,i=n:=⟨i.toNat,by omega⟩
 have:n < xs.length:=by omega
 exact ⟨xs[n],List.getElem?_eq_getElem this,a2i (List.getElem?_eq_getElem this)⟩
theorem hu4 {A:Around} {k:Nat} (hr:a2t k A):A.units+4 < cLine:=by have:=hr.units;omega
theorem small {n:Nat} (h:n≤1000):n≤sizeLine:=Nat.le_of_lt (a0z h)
theorem a8C (xs:List V) (n:Nat):a3H xs none (some (n:Int))=xs.take n:=by
 unfold a3H
 rw [HT.a3G,HT.a5Z]
 simp [List.take_eq_take_iff]
theorem a6e (xs:List V) (n:Nat):a3H xs (some (n:Int)) none=xs.drop n:=by
 unfold a3H
 rw [HT.a3G,HT.a5Z]
 by_cases h:n≤xs.length
 ·rw [Nat.min_eq_left h]
  exact List.take_of_length_le (by rw [List.length_drop];omega)
 ·rw [Nat.min_eq_right (by omega),List.drop_eq_nil_of_le (Nat.le_refl _),List.drop_eq_nil_of_le (by omega)]
  simp
theorem cutLit (xs:List V) (i:Int) (h:0≤i):a3H xs none (some i)=xs.take i.toNat:=by
 obtain ⟨n,rfl⟩:∃ n:Nat,i=n:=⟨i.toNat,by omega⟩
 rw [a8C];rfl
theorem a8D (xs:List V) (i:Int) (h:0≤i):a3H xs (some i) none=xs.drop i.toNat:=by
 obtain ⟨n,rfl⟩:∃ n:Nat,i=n:=⟨i.toNat,by omega⟩
 rw [a6e];rfl
theorem a0q {H H1:Hp} {d:Addr} {o:HO} (h:H d=none) (sm:a0t H H1):a0t H (upd H1 d o):=fun b u q=>by rw [a0l (a0r q h)];exact sm b u q
structure Fns (P:Program) (w:World) (K:PySem.W.Frag) (mg:Str→Option Value) (base:Heap) (ps:List Str) (name:Str) (sp:Sp) (k:Nat) where
 g:Addr
 gd:FuncData
 ok:a1c P w K mg base CX0 k g gd ps sp
 b:a1I K gd ps []
 kp:PySem.W.keepIn K (.ref g)=true
 m:mg name=some (.ref g)
def Fns.up {P:Program} {w:World} {K:PySem.W.Frag} {mg:Str→Option Value} {base:Heap} {ps:List Str} {name:Str} {sp:Sp} {j k:Nat} (f:Fns P w K mg base ps name sp j) (h:j≤k):Fns P w K mg base ps name sp k:=⟨f.g,f.gd,f.ok.mono h,f.b,f.kp,f.m⟩
def rNeTW:R2:=fun x y H Q=>∃ a b xs ys ws vs,x=.ref a∧y=.ref b∧H a=some (.tup xs)∧H b=some (.tup ys)∧Ws H xs ws∧Ws H ys vs∧Q (.bl (!decide (ws=vs))) H
theorem a8E {X:Cx} (hu:X.A.units+4 < cLine):OpR X (compareOp .NotEq) rNeTW:=by
 intro pins s σ H x y v u Q I rx ry h
 obtain ⟨a,b,xs,ys,ws,vs,rfl,rfl,e1,e2,p1,p2,q⟩:=h
 cases rx;cases ry
 exact b2q (A:=X.A) (n:=1) (EqK.tup EqK.int I.hok) I.hok e1 e2 p1 p2 (by omega) _ _ _ _ ⟨.bl _,H,I,rfl,q⟩
def tMid (t:TS):TS:=fun D σ H=>∃ Mid:St→Hp→Prop,t { D with nx:=Mid } σ H∧∀ σ' H',Mid σ' H'→D.nx σ' H'
theorem a6f {X:Cx} {st:Stmt} {t:TS} (h:PS X st t):PS X st (tMid t):=by
 intro pins s σ H D I ⟨Mid,h1,h2⟩
 refine thn (h pins s σ H _ I h1) fun fl s' q=>?_
 cases fl with
 | next=>obtain ⟨σ',H',I',m⟩:=q;exact ⟨σ',H',I',h2 _ _ m⟩
 | brk=>exact q
 | cont=>exact q
 | ret u=>exact q
def eMid (t:TE):TE:=fun σ H Q=>∃ Mid:V→Hp→Prop,t σ H Mid∧∀ v H',Mid v H'→Q v H'
theorem a6g {X:Cx} {e:Expr} {t:TE} (h:PE X e t):PE X e (eMid t):=by
 intro pins s σ H Q I ⟨Mid,h1,h2⟩
 exact thn (h pins s σ H _ I h1) fun u s' ⟨v,H',I',r,m⟩=>⟨v,H',I',r,h2 _ _ m⟩
theorem a6h {t:TE}:a1V (eMid t):=fun σ H Q Q' h ⟨Mid,h1,h2⟩=>⟨Mid,h1,fun v H' m=>h _ _ (h2 v H' m)⟩
theorem at6 {i:Nat} (h:i < 6):∃ v,atI [V.int 1,V.int 2,V.int 4,V.int 8,V.int 16,V.int 32] (i:Int)=some (.int v)∧0 < v∧v≤32:=by
 match i,h with
 | 0,_=>exact ⟨1,rfl,by decide,by decide⟩
 | 1,_=>exact ⟨2,rfl,by decide,by decide⟩
 | 2,_=>exact ⟨4,rfl,by decide,by decide⟩
 | 3,_=>exact ⟨8,rfl,by decide,by decide⟩
 | 4,_=>exact ⟨16,rfl,by decide,by decide⟩
 | 5,_=>exact ⟨32,rfl,by decide,by decide⟩
structure Wok (b:Int) (m:Nat) (ws:List (List Int)):Prop where
 len:∀ w∈ws,w.length≤m
 let':∀ w∈ws,∀ x∈w,0≤x∧x < b
theorem Wok.sub {b:Int} {m:Nat} {ws vs:List (List Int)} (h:Wok b m ws) (s:∀ w∈vs,w∈ws):Wok b m vs:=⟨fun w hw=>h.len w (s w hw),fun w hw=>h.let' w (s w hw)⟩
theorem Wok.app {b:Int} {m:Nat} {ws vs:List (List Int)} (h:Wok b m ws) (h':Wok b m vs):Wok b m (ws++vs) :=
 ⟨fun w hw=>(List.mem_append.mp hw).elim (h.len w) (h'.len w),fun w hw=>(List.mem_append.mp hw).elim (h.let' w) (h'.let' w)⟩
theorem ixL {X:Cx} (K:PySem.W.Frag) (h:X.K=K:=by rfl):IxR X (rIxL K):=by subst h;exact a0S
theorem ixT {X:Cx} (K:PySem.W.Frag) (h:X.K=K:=by rfl):IxR X (rIxT K):=by subst h;exact a0V
theorem Wd.upd {H:Hp} {l:Addr} {ls ls':List V} {x:V} {w:List Int} (hl:H l=some (.lst ls)) (h:Wd H x w):Wd (upd H l (.lst ls')) x w:=by
 obtain ⟨a,xs,rfl,e,p⟩:=h
 exact ⟨a,xs,rfl,by rw [a0l (a4s e hl (by intro z;cases z))];exact e,p⟩
theorem Ws.upd {H:Hp} {l:Addr} {ls ls' xs:List V} {ws:List (List Int)} (hl:H l=some (.lst ls)) (h:Ws H xs ws):Ws (upd H l (.lst ls')) xs ws:=Paired.mapP h fun _ _ q=>Wd.upd hl q
section
variable {X:Cx} {elt iter:Expr} {tg:Str} {tp:Pos} {cs:List Expr} {scope:Scope} {pos:Pos} {tc:TT} {te:TE} {M:List Str}
end
def a1A (h:Heap) (e:Addr) (cls:Value) (od:Option Addr) (hd:Value):Prop:=∃ oe vs,h.get? e=some oe∧oe.cls=cls∧oe.dict=od∧oe.data=.fields vs∧vs[1]?=some hd
def a5u (h:Heap) (T:Addr) (fl:Value):Prop:=∃ oT ts,h.get? T=some oT∧oT.data=.fields ts∧ts[3]?=some fl
def Mv (S fs:List Addr) (h h':Heap):Prop:=∀ b o,h.get? b=some o→b∉S→(b∉fs→h'.get? b=some o)∧∃ sl,h'.get? b=some { o with slots:=sl }
section
variable {S S' fs:List Addr} {h h1 h2:Heap}
theorem Mv.refl:Mv S fs h h:=fun _ o e _=>⟨fun _=>e,o.slots,e⟩
theorem Mv.trans (a:Mv S fs h h1) (b:Mv S fs h1 h2):Mv S fs h h2:=fun c o e n=>by
 obtain ⟨k,sl,e1⟩:=a c o e n
 obtain ⟨_,sl2,e2⟩:=b c _ e1 n
 exact ⟨fun nf=>(b c o (k nf) n).1 nf,sl2,e2⟩
theorem Mv.mono (a:Mv S fs h h1) (hs:∀ b∈S,b∈S'):Mv S' fs h h1:=fun b o e n=>a b o e fun z=>n (hs b z)
theorem Mv.frames (a:Mv S fs h h1) {base:Heap} {l:List Env} (hl:h.FunFrames base l) (hS:∀ b∈S,∀ o,h.get? b=some o→∃ vs,o.data=.fields vs):h1.FunFrames base l :=
 hl.of_keeps fun b o hb hn=>by
  obtain ⟨_,sl,e⟩:=a b o hb fun z=>by
   obtain ⟨vs,q⟩:=hS b z o hb
   exact hn vs q
  exact ⟨_,e,rfl⟩
end
theorem a3l (f:Array Value→Array Value) (o:Obj):(Obj.mapFields f o).dict=o.dict:=by
 obtain ⟨c,d,dt,sl⟩:=o
 cases dt <;> rfl
section
variable {M:Model} {A:Around} {E:Value→Shared→Prop} {s:Shared} {env:Env} {outer:List Env} {base:Heap} {L e T:Addr} {cls hd fl head:Value} {od:Option Addr} {S:List Addr} {Q:Unit→Shared→Prop}
theorem a2R {hadNext:Bool} (hfr:A.frames=some (env :: outer)) (hl:s.heap.FunFrames base (env :: outer)) (hf:env.frame=some L) (x:a1A s.heap e cls od hd)
  (h:∀ h' T,Mv [e] (frs (env :: outer)) s.heap h'→s.heap.objs.size≤T→T≠e→a1A h' e cls od (.ref T)→a5u h' T (rawInt L)→Q () { s with heap:=h' }) :
  wpAny M A (do let a ←frameOf env;let pl ←entryPlaceOf L hadNext;let b ←EntryCells.newEntry head a .none (rawInt L) .none pl;setField (.ref e) 1 b) Q E s:=by
 obtain ⟨oe,vs,he,hc,hdd,hd1,h1⟩:=x
 have hsz:1 < vs.size:=(Array.getElem?_eq_some_iff.mp h1).1
 have ne:e∉frs (env :: outer):=fun hm=>by
  obtain ⟨_,o,ho,hn⟩:=hl.mem hm
  rw [he] at ho
  cases ho
  exact hn vs hd1
 refine wpAny_bind (wpAny_frameOf_fun hfr hl hf fun g so=>?_)
 refine wpAny_bind (wpAny_entryPlaceOf fun pl hp=>?_)
 unfold EntryCells.newEntry newFields
 refine wpAny_bind (wpAny_newObj_type ?_ (hp.sizeOk5 _ _ _ _ _))
 have e1:g.get? e=some oe:=(so.2.1 e ne).trans he
 have hTe:g.objs.size≠e:=Nat.ne_of_gt (Heap.lt_size e1)
 have t3:([head,.ref L,.none,rawInt L,.none]++(if pl.isEmpty then List.replicate 6 Value.none else pl)).toArray[3]?=some (rawInt L):=by simp
 generalize ([head,.ref L,.none,rawInt L,.none]++(if pl.isEmpty then List.replicate 6 Value.none else pl)).toArray=ts at t3 ⊢
 have e2:=Heap.get?_push_of_some (h:=g) { cls:=.type "traceback",dict:=none,data:=.fields ts } e1
 refine wpAny_setField e2 hd1 hsz (h _ g.objs.size (fun b o hb hn=>?_) (by rw [so.1];exact Nat.le_refl _) hTe ?_ ?_)
 ·have hbe:b≠e:=fun z=>hn (by rw [z];exact List.mem_cons_self)
  have mv:∀ o',g.get? b=some o'→((g.push { cls:=.type "traceback",dict:=none,data:=.fields ts }).update e (Obj.mapFields (·.setIfInBounds 1 (Value.ref g.objs.size)))).get? b=some o':=fun o' q=>by
   rw [Heap.get?_update_other _ _ (Ne.symm hbe)]
   exact Heap.get?_push_of_some _ q
  obtain ⟨sl,q⟩:=so.2.2 b o hb
  exact ⟨fun nf=>mv o ((so.2.1 b nf).trans hb),sl,mv _ q⟩
 ·exact ⟨_,_,Heap.get?_update_self _ e2 (Obj.isFreed_of_fields (Obj.data_mapFields hd1 _)),(Obj.cls_mapFields _ _).trans hc,(a3l _ _).trans hdd,Obj.data_mapFields hd1 _,by simp [hsz]⟩
 ·refine ⟨{ cls:=.type "traceback",dict:=none,data:=.fields ts },ts,?_,rfl,t3⟩
  rw [Heap.get?_update_other _ _ (Ne.symm hTe)]
  exact Heap.get?_push_size g rfl
def a7l (h:Heap) (e:Addr) (cls:Value) (od:Option Addr) (S:List Addr):Prop :=
 e∈S∧(∀ b∈S,∀ o,h.get? b=some o→∃ vs,o.data=.fields vs)∧∃ hd,a1A h e cls od hd∧(hd=.none∨∃ T,T∈S∧hd=.ref T∧T≠e∧a5u h T .none)
theorem a6i {x:Value} (t:a5u s.heap T fl) (h:∀ h',h'.objs.size=s.heap.objs.size→a5u h' T x→(∀ b,b≠T→h'.get? b=s.heap.get? b)→Q () { s with heap:=h' }):wpAny M A (setField (.ref T) 3 x) Q E s:=by
 obtain ⟨oT,ts,hT,hdT,h3⟩:=t
 have hsz:3 < ts.size:=(Array.getElem?_eq_some_iff.mp h3).1
 exact wpAny_setField hT hdT hsz (h _ (Heap.size_after_update ..) ⟨_,_,Heap.get?_update_self _ hT (Obj.isFreed_of_fields (Obj.data_mapFields hdT _)),Obj.data_mapFields hdT _,by simp [hsz]⟩ fun b hb=>Heap.get?_update_other _ _ (Ne.symm hb))
theorem a1A.other {h h':Heap} (x:a1A h e cls od hd) (k:h'.get? e=h.get? e):a1A h' e cls od hd:=by
 obtain ⟨oe,vs,he,r⟩:=x
 exact ⟨oe,vs,k.trans he,r⟩
theorem a8F (hfr:A.frames=some (env :: outer)) (hl:s.heap.FunFrames base (env :: outer)) (hf:env.frame=some L) (lo:a7l s.heap e cls od S)
  (h:∀ h' T,Mv S (frs (env :: outer)) s.heap h'→s.heap.objs.size≤T→T≠e→a1A h' e cls od (.ref T)→a5u h' T (rawInt L)→Q () { s with heap:=h' }):wpAny M A (noteFrame (.ref e) env) Q E s:=by
 obtain ⟨heS,hSf,hd,x,hh⟩:=lo
 unfold noteFrame
 simp only [hf]
 obtain ⟨oe,vs,he,hc,hdd,hd1,h1⟩:=id x
 refine wpAny_bind (wpAny_field he hd1 h1 ?_)
 rcases hh with rfl | ⟨T,hTS,rfl,hTe,tb⟩
 ·rw [if_neg (by decide)]
  exact a2R hfr hl hf x fun h' T m hs hT x' t'=>h h' T (m.mono fun b hb=>by rw [List.mem_singleton.mp hb];exact heS) hs hT x' t'
 ·rw [if_pos (show (Value.ref T != Value.none)=true from by simp)]
  obtain ⟨oT,ts,hT,hdT,h3⟩:=id tb
  refine wpAny_bind (wpAny_field hT hdT h3 ?_)
  rw [if_neg (show ¬ ((Value.none == rawInt L)=true) from by simp [rawInt])]
  refine wpAny_bind (a6i tb fun g m1 t1 k1=>?_)
  have m2:Mv S (frs (env :: outer)) s.heap g:=fun b o hb hn=>by
   have hbT:b≠T:=fun z=>hn (by rw [z];exact hTS)
   have q:=(k1 b hbT).trans hb
   exact ⟨fun _=>q,o.slots,q⟩
  refine a2R (s:={ s with heap:=g }) hfr (m2.frames hl hSf) hf (x.other (k1 e (Ne.symm hTe))) fun h' T' m hs hT' x' t'=>?_
  exact h h' T' (m2.trans (m.mono fun b hb=>by rw [List.mem_singleton.mp hb];exact heS)) (by rw [←m1];exact hs) hT' x' t'
theorem a4G (x:a1A s.heap e cls od (.ref T)) (t:a5u s.heap T fl) (hTe:T≠e) (h:∀ h',h'.objs.size=s.heap.objs.size→a1A h' e cls od (.ref T)→a5u h' T .none→(∀ b,b≠T→h'.get? b=s.heap.get? b)→Q () { s with heap:=h' }) :
  wpAny M A (setFlight (.ref e) none) Q E s:=by
 obtain ⟨oe,vs,he,hc,hdd,hd1,h1⟩:=id x
 unfold setFlight
 refine wpAny_bind (wpAny_field he hd1 h1 ?_)
 rw [if_pos (show (Value.ref T != Value.none)=true from by simp)]
 exact a6i t fun g m1 t1 k1=>h g m1 (x.other (k1 e (Ne.symm hTe))) t1 k1
theorem a6j {h:Heap} (x:a1A h e cls od (.ref T)) (t:a5u h T .none) (hT:T≠e):a7l h e cls od [T,e]:=by
 refine ⟨List.mem_cons_of_mem _ List.mem_cons_self,fun b hb o ho=>?_,.ref T,x,.inr ⟨T,List.mem_cons_self,rfl,hT,t⟩⟩
 rcases List.mem_cons.mp hb with hb | hb
 ·obtain ⟨oT,ts,q,hd,_⟩:=t
  rw [hb,q] at ho
  cases ho
  exact ⟨ts,hd⟩
 ·obtain ⟨oe,vs,q,_,_,hd,_⟩:=x
  rw [List.mem_singleton.mp hb,q] at ho
  cases ho
  exact ⟨vs,hd⟩
theorem b2t (hfr:A.frames=some (env :: outer)) (hl:s.heap.FunFrames base (env :: outer)) (hf:env.frame=some L) (lo:a7l s.heap e cls od S)
  (h:∀ h' T,Mv S (frs (env :: outer)) s.heap h'→s.heap.objs.size≤T→T≠e→a1A h' e cls od (.ref T)→a5u h' T .none→Q () { s with heap:=h' }) :
  wpAny M A (noteFrame (.ref e) env) (fun _ s1=>wpAny M A (setFlight (.ref e) none) Q E s1) E s:=by
 refine a8F hfr hl hf lo fun g T m hs hT x t=>?_
 refine a4G (s:={ s with heap:=g }) x t hT fun h' m1 x' t' k1=>?_
 have mm:Mv S (frs (env :: outer)) s.heap h':=fun b o hb hn=>by
  have hbT:b≠T:=Nat.ne_of_lt (Nat.lt_of_lt_of_le (Heap.lt_size hb) hs)
  obtain ⟨q1,sl,q2⟩:=m b o hb hn
  exact ⟨fun nf=>(k1 b hbT).trans (q1 nf),sl,(k1 b hbT).trans q2⟩
 exact h h' T mm hs hT x' t'
theorem b0o (hfr:A.frames=some (env :: outer)) (hl:s.heap.FunFrames base (env :: outer)) (hf:env.frame=some L) (lo:a7l s.heap e cls od S)
  (h:∀ h' T,Mv S (frs (env :: outer)) s.heap h'→s.heap.objs.size≤T→a7l h' e cls od [T,e]→Q () { s with heap:=h' }):wpAny M A (leaving env (.ref e)) Q E s:=by
 unfold leaving
 exact wpAny_bind (b2t hfr hl hf lo fun h' T m hs hT x t=>h h' T m hs (a6j x t hT))
end
theorem a0F.obj {P:Program} {w:World} {H:Hp} {h:Heap} {a:Addr} {o:HO} (x:a0F P w H h a o):∃ ob,h.get? a=some ob:=by
 cases o with
 | lst xs=>obtain ⟨_,_,_,_,e⟩:=x;exact ⟨_,e⟩
 | tup xs=>obtain ⟨_,_,_,ob,e,_⟩:=x;exact ⟨_,e⟩
 | dK kvs=>obtain ⟨_,_,_,_,ob,_,_,e,_⟩:=x;exact ⟨_,e⟩
 | dT kvs=>obtain ⟨_,_,_,_,ob,_,_,e,_⟩:=x;exact ⟨_,e⟩
 | set S n=>obtain ⟨ob,_,_,_,e,_⟩:=x;exact ⟨_,e⟩
 | ins C dx fs=>obtain ⟨_,_,_,e,_⟩:=x;exact ⟨_,e⟩
 | own y=>exact x
 | xd fs=>obtain ⟨_,⟨ob,_,_,e,_⟩,_⟩:=x;exact ⟨_,e⟩
 | rng lo hi=>obtain ⟨_,_,_,e⟩:=x;exact ⟨_,e⟩
 | frz ob u=>obtain ⟨e,_⟩:=x;exact ⟨_,e⟩
 | tbl ps=>exact ⟨_,show h.get? a=some _ from x⟩
 | met f y=>exact ⟨_,show h.get? a=some _ from x⟩
 | ext φ=>obtain ⟨_,e,_⟩:=x;exact e
theorem HOk.none_of {P:Program} {w:World} {H:Hp} {h:Heap} (x:HOk P w H h) {a:Addr} (n:h.get? a=none):H a=none:=by
 cases e:H a with
 | none=>rfl
 | some o =>
  obtain ⟨ob,q⟩:=(x a o e).obj
  rw [n] at q
  cases q
section
variable {X:Cx} {pins:List (Addr × Obj)} {σ:St} {H H':Hp} {s:Shared} {h':Heap} {b:Addr} {S:List Addr}
def Off (X:Cx) (pins:List (Addr × Obj)) (b:Addr):Prop :=
 (∀ o,X.s₀.heap.get? b=some o→b∈X.ex)∧b≠X.env.locals∧(∀ x c,X.env.cells.lookup x=some c→c≠b)∧∀ p∈X.pn++pins,p.1≠b
theorem Inv.off (I:Inv X pins σ H s) (n:s.heap.get? b=none):Off X pins b:=by
 refine ⟨fun o e=>?_,fun z=>?_,fun x c e z=>?_,fun p hp z=>?_⟩
 ·by_cases hx:b∈X.ex
  ·exact hx
  ·obtain ⟨o',e'⟩:=I.base.there b o e hx
   rw [n] at e'
   cases e'
 ·obtain ⟨m,⟨o,_,_,ho,_⟩,_⟩:=I.loc
  rw [z,ho] at n
  cases n
 ·obtain ⟨v,o,ho,_⟩:=I.cell x c e
  rw [z,n] at ho
  cases ho
 ·have q:=(I.pin p hp).1
  rw [z,n] at q
  cases q
theorem Inv.moved {t':Nat} (I:Inv X pins σ H s) (m:Mv S (frs X.stack) s.heap h') (hS:∀ b∈S,Off X pins b∧H b=none):Inv X pins σ H { s with heap:=h',toks:=t' }:=by
 have neL:∀ b o,X.s₀.heap.get? b=some o→b≠X.env.locals:=fun b o e=>Nat.ne_of_lt (Nat.lt_of_lt_of_le (Heap.lt_size e) I.ok.above)
 have nS:∀ b o,X.s₀.heap.get? b=some o→b∉X.ex→b∉S:=fun b o e hx z=>hx ((hS b z).1.1 o e)
 have nst:∀ b,b≠X.env.locals→b∉X.fs→b∉frs X.stack:=fun b h1 h2 z=>(List.mem_cons.mp (I.stkSub b z)).elim h1 h2
 have cellM:∀ x c,X.env.cells.lookup x=some c→∀ v,s.heap.IsCell c v→h'.IsCell c v:=fun x c e v ⟨o,ho,hd⟩=>by
  obtain ⟨_,sl,q⟩:=m c o ho fun z=>(hS c z).1.2.2.1 x c e rfl
  exact ⟨_,q,hd⟩
 refine ⟨I.ok,I.os,I.bare,⟨fun b o e n hb hx=>?_,fun b o e n hb hx=>?_,I.base.free,fun b o e hx=>?_,I.base.tups,I.base.frzs,I.base.tbls⟩,?_,fun x c e=>?_,I.free,I.freeC,fun p hp=>?_,fun b u e=>?_,I.len⟩
 ·exact (m b o (I.base.keep b o e n hb hx) (nS b o e hx)).1 (nst b (neL b o e) hb)
 ·obtain ⟨sl,e1⟩:=I.base.slot b o e n hb hx
  obtain ⟨_,sl',e2⟩:=m b _ e1 (nS b o e hx)
  exact ⟨sl',e2⟩
 ·obtain ⟨o',e1⟩:=I.base.there b o e hx
  obtain ⟨_,sl,e2⟩:=m b _ e1 (nS b o e hx)
  exact ⟨_,e2⟩
 ·obtain ⟨mm,hn,hl⟩:=I.loc
  refine ⟨mm,?_,fun i x v e1 e2 e3=>?_⟩
  ·obtain ⟨o,es,ep,ho,r⟩:=hn
   obtain ⟨_,sl,q⟩:=m _ o ho fun z=>(hS _ z).1.2.1 rfl
   exact ⟨_,es,ep,q,r⟩
  ·obtain ⟨u,r,l⟩:=hl i x v e1 e2 e3
   refine ⟨u,r,?_⟩
   rcases l with l | ⟨k,c,e,z⟩
   ·exact .inl l
   ·exact .inr ⟨k,c,e,cellM x c e _ z⟩
 ·obtain ⟨v,z⟩:=I.cell x c e
  exact ⟨v,cellM x c e v z⟩
 ·obtain ⟨e,n,ne,nf,d⟩:=I.pin p hp
  exact ⟨(m _ _ e fun z=>(hS _ z).1.2.2.2 p hp rfl).1 (nst _ ne nf),n,ne,nf,d⟩
 ·refine (I.hok b u e).stay (fun c v hc q=>?_) (fun _ q=>q) fun _ _ q=>q
  have ht:H c≠none:=by
   rcases hc with rfl | hc
   ·rw [e];exact fun z=>nomatch z
   ·rw [hc];exact fun z=>nomatch z
  exact (m c v q fun z=>ht (hS c z).2).1 fun z=>ht (I.stkFree c z)
theorem Inv.track {φ:Heap→Prop} (I:Inv X pins σ H s) (ob:Off X pins b) (n:H b=none) (hφ:φ s.heap) (ho:∃ o,s.heap.get? b=some o) (st:∀ h1 h2:Heap,φ h1→(∀ o,h1.get? b=some o→h2.get? b=some o)→φ h2)
  (nf:b∉X.fs):Inv X pins σ (upd H b (.ext φ)) s:=by
 refine ⟨I.ok,I.os,I.bare,⟨I.base.keep,I.base.slot,fun c o e n' hx=>?_,I.base.there,fun c xs e=>?_,fun c o u e=>?_,fun c ps e=>?_⟩,I.loc,I.cell,?_,fun x c e=>?_,fun p hp=>?_,fun c u e=>?_,I.len⟩
 ·have hcb:c≠b:=fun z=>by
   subst z
   exact hx (ob.1 o e)
  rw [a0l hcb]
  exact I.base.free c o e n' hx
 ·rw [a0l (a0r (I.base.tups c xs e) n)]
  exact I.base.tups c xs e
 ·rw [a0l (a0r (I.base.frzs c o u e) n)]
  exact I.base.frzs c o u e
 ·obtain ⟨more,q⟩:=I.base.tbls c ps e
  exact ⟨more,by rw [a0l (a0r q n)];exact q⟩
 ·rw [a0l (Ne.symm ob.2.1)]
  exact I.free
 ·rw [a0l (ob.2.2.1 x c e)]
  exact I.freeC x c e
 ·obtain ⟨e,n',ne,nf',d⟩:=I.pin p hp
  exact ⟨e,by rw [a0l (ob.2.2.2 p hp)];exact n',ne,nf',d⟩
 ·by_cases hc:c=b
  ·subst hc
   rw [a0b] at e
   cases e
   exact ⟨hφ,ho,st⟩
  ·rw [a0l hc] at e
   refine (I.hok c u e).stay (fun _ _ _ q=>q) (fun d r=>?_) fun d xs r=>?_
   ·rw [a0l (a0r r n)];exact r
   ·rw [a0l (a0r r n)];exact r
end
def CXF (P:Program) (w:World):CXT:=fun outer H s E e s'=>∃ (ea:Addr) (cls:Value) (od:Option Addr) (S:List Addr) (H':Hp),e=.ref ea∧s'.os=s.os∧AllBare s'.gens ∧
 Un (frs outer) [] H H' s.heap s'.heap∧HOk P w H' s'.heap∧a7l s'.heap ea cls od S∧(∀ b∈S,s.heap.get? b=none∧H' b=none)∧E cls od H'
section
variable {P:Program} {w:World} {K:PySem.W.Frag} {mg:Str→Option Value} {base:Heap} {N:List Str} {qual:Str} {scope:Scope} {f:Addr} {cd:Value} {A:Around} {outer:List Env} {s₀:Shared} {H₀:Hp} {E:XK}
theorem a0M:a2u (CXF P w) (a7R (CXF P w) P w K mg base N qual scope f cd A outer s₀ H₀ E) E:=by
 intro pins σ H s e s' I h
 obtain ⟨ea,cls,od,S,H',rfl,os,bare,un,hok,lo,hS,q⟩:=h
 have I1:=I.call' (ch:=[]) os un hok bare (fun b z=>absurd z (by simp))
 show wpAny _ _ (leaving _ (.ref ea)) _ _ s'
 refine b0o I.ok.frames I1.stack rfl lo fun h' T m hs lo'=>?_
 have I2:Inv _ pins σ H' { s' with heap:=h',toks:=s'.toks }:=I1.moved (S:=S) m fun b hb=>⟨I.off (hS b hb).1,(hS b hb).2⟩
 have out:∀ b,Off (a7R (CXF P w) P w K mg base N qual scope f cd A outer s₀ H₀ E) pins b→s₀.heap.get? b=none:=fun b ob=>by
  cases e:s₀.heap.get? b with
  | none=>rfl
  | some o=>exact absurd (ob.1 o e) (by show b∉([]:List Addr);simp)
 refine ⟨ea,cls,od,[T,ea],H',rfl,I2.os,I2.bare,I2.base,I2.hok,lo',fun b hb=>?_,q⟩
 rcases List.mem_cons.mp hb with rfl | hb
 ·exact ⟨out _ (I1.off (Heap.get?_none_of_le hs)),I1.hok.fresh hs⟩
 ·rw [List.mem_singleton.mp hb]
  exact ⟨out _ (I.off (hS ea lo.1).1),(hS ea lo.1).2⟩
theorem Fun.okF {x qual:Str} {st:Stmt} {f:Addr} {fd:FuncData} {N ps:List Str} {k:Nat} {sp:Sp} (F:Fun K x qual st f fd) (S:a0o N ps (a0e st)) (len:∀ vs H Q E,sp vs H Q E→vs.length=ps.length)
  (hbody:∀ (cdv:Value) (A:Around) (outer:List Env) (s:Shared) (H:Hp) (vs:List V) (Q:VK) (E:XK),a2t k (A.deeper (envOfC qual (a0e st) s.heap.objs.size f cdv))→sp vs H Q E →
   ∃ t,PSs (a7R (CXF P w) P w K mg base N qual (a0e st) f cdv A outer s H E) (a0n st) t∧t { nx:=fun _ H'=>Q .non H',rt:=Q } (start N vs) H):a1c P w K mg base (CXF P w) (k+1) f fd ps sp:=by
 obtain ⟨oc,od,kV,doc,pm,an,cdv,ct,osl,rfl,lk,hcd⟩:=F.ex
 exact fn_of lk hcd S len fun A outer s H vs Q E hr hsp=>hbody cdv A outer s H vs Q E hr hsp
end
abbrev a7S:List Value:=[.type "ValueError",.type "Exception",.type "BaseException",.type "object"]
abbrev a2S:String:="ValueError.__new__"
structure Ecl (K:PySem.W.Frag) (C:Addr):Prop where
 ex:PySem.W.excIn K C a7S a2S=true
theorem Ecl.obj {K:PySem.W.Frag} {C:Addr} (c:Ecl K C) {h:Heap} (X:K.In h):∃ bm N nm q bs hdct sn sub ab col dd k0 k1 k2 k3 k5 mN,h.get? C=some (excClassObj nm q C N bs bm hdct sn sub ab col dd k0 k1 k2 k3 k5 a2S)∧h.Ns N mN∧mN "__init__"=none∧OwnTail h a7S bm:=by
 have q:=c.ex
 unfold PySem.W.excIn at q
 split at q
 ·rename_i dd cd sl ho
  split at q
  ·rename_i C' bm k0 k1 k2 k3 n k5 hm hs
   simp only [Bool.and_eq_true,beq_iff_eq,Bool.not_eq_true'] at q
   obtain ⟨⟨⟨⟨⟨rfl,rfl⟩,hdel⟩,ht⟩,hok⟩,hni⟩:=q
   obtain ⟨nm,bs,mro,ns,qn,hd,sn,sub,ab,col,del⟩:=cd
   dsimp only at hm hdel hok hni
   subst hm hdel
   obtain ⟨l⟩:=sl
   have hl:l=[k0,k1,k2,k3,some (.builtin a2S),k5]:=hs
   subst hl
   exact ⟨bm,ns,nm,qn,bs,hd,sn,sub,ab,col,dd,k0,k1,k2,k3,k5,_,X _ _ ho,.of_isNs (PySem.W.isNs_of_in X hok),PySem.W.nsMap_none_of_in X hok hni,PySem.W.tail_of_in X ht⟩
  ·cases q
 ·cases q
def tRaise (C:Addr) (E:XK) (ta:TA):TS:=fun _ σ H=>ta σ H fun vs H1=>vs.length≤1000∧E (.ref C) none H1
theorem a1F {X:Cx} {E:XK} {x:Str} {C:Addr} {np cpos pos:Pos} {e:Expr} {es:List Expr} {ta:TA} (hx:a2u (CXF X.prog X.w) X E) (hc:X.calm=true) (hg:Gl X x) (hm:X.mg x=some (.ref C)) (hcl:Ecl X.K C) (ha:PA X (e :: es) ta)
  (hdb:(x == ("__debug__":Str))=false:=by decide) (he:starEach (e :: es) X.env=(false,eval e X.env) :: starEach es X.env:=by rfl) (hpl:(backTo cpos (starEach (e :: es) X.env)).any (·.1)=false:=by rfl) :
  PS X (.Raise (some (.Call (.Name x np) (e :: es) [] cpos)) none pos) (tRaise C E ta):=by
 intro pins s σ H D I h
 obtain ⟨bm,N,nm,q,bs,hdct,sn,sub,ab,col,dd,k0,k1,k2,k3,k5,mN,hC,hN,hni,T⟩:=hcl.obj I.ok.mod.kin
 refine wpAny_Raise_call_subT (C:=C) (nm:=nm) (q:=q) (N:=N) (bs:=bs) (bm:=bm) (hdct:=hdct) (sn:=sn) (sub:=sub) (ab:=ab) (col:=col) (dd:=dd) (k0:=k0) (k1:=k1) (k2:=k2) (k3:=k3) (k5:=k5) PySem.F.excBase_ValueError (T.hasType (by decide +kernel)) (I.ok.hd hc) hpl hni (a5n I hg hm ⟨rfl,?_⟩ hdb)
 have ha':=ha cpos pins s σ H _ I h
 rw [he] at ha' ⊢
 refine Calls.evalArgs_plain (thn ha' fun us s1 ⟨vs,H1,I1,r,hl,q⟩=>?_)
 have kb:=I1.bk
 refine ⟨rfl,?_,kb _ _ hC,hN.keeps kb,T.keeps kb,fun h' ea me=>?_⟩
 ·show us.length≤sizeLine
  rw [←r.length]
  exact small hl
 ·refine hx pins σ H1 s1 (.ref ea) _ I1 ⟨ea,.ref C,none,[ea],H1,rfl,rfl,I1.bare,Un.kept me.keeps,I1.hok.kept me.keeps,?_,fun b hb=>?_,q⟩
  ·obtain ⟨t,ht,_,_⟩:=me.there
   refine ⟨List.mem_cons_self,fun b hb o ho=>?_,.none,⟨_,_,ht,rfl,rfl,rfl,rfl⟩,.inl rfl⟩
   rw [List.mem_singleton.mp hb,ht] at ho
   cases ho
   exact ⟨_,rfl⟩
  ·rw [List.mem_singleton.mp hb]
   exact ⟨me.new,I1.hok.none_of me.new⟩
abbrev Cx.hand (X:Cx) (ea:Addr):Cx:={ X with A:=X.A.mark (some (.ref ea)),calm:=false,xe:=fun _ _=>False }
section
variable {X:Cx} {pins pins':List (Addr × Obj)} {σ:St} {H:Hp} {s:Shared} {h':Heap} {ea:Addr} {xe:Value→Shared→Prop}
end
structure Hcl (K:PySem.W.Frag) (D:Addr):Prop where
 ty:PySem.W.typeIn K (.ref D)=some (.type "type")
 cl:(PySem.W.clsIn K D).isSome=true
 be:PySem.W.subIn K (.ref D) (.type "BaseException")=some true
structure Ek (K:PySem.W.Frag) (C:Addr):Prop where
 cl:(PySem.W.clsIn K C).isSome=true
 ga:PySem.W.findIn K (.ref C) "__getattribute__"=some (some (.builtin "BaseException.__getattribute__"))
 gt:PySem.W.findIn K (.ref C) "__getattr__"=some none
 ca:PySem.W.findIn K (.ref C) "__class__"=some (some (.builtin "object.__class__"))
 be:PySem.W.subIn K (.ref C) (.type "BaseException")=some true
 ob:PySem.W.mroIn K C (.type "object")=some true
 cg:PySem.W.specialIn K (.builtin "object.__class__") "__get__"=some (some (.builtin "getset_descriptor.__get__"))
 ct:PySem.W.takesIn K (.builtin "object.__class__")=some true
section
variable {K:PySem.W.Frag} {prog:Program} {w:World} {A:Around} {E:Value→Shared→Prop} {s:Shared} {x C:Addr} {ox:Obj} {od:Option Obj} {name:Str} {tk:Tok}
end
def b3r (K:PySem.W.Frag) (C:Addr):Bool :=
 PySem.W.typeIn K (.ref C) == some (.type "type") && (PySem.W.clsIn K C).isSome && PySem.W.subIn K (.ref C) (.type "BaseException") == some true &&
 PySem.W.findIn K (.ref C) "__getattribute__" == some (some (.builtin "BaseException.__getattribute__")) && PySem.W.findIn K (.ref C) "__getattr__" == some none && PySem.W.findIn K (.ref C) "__class__" == some (some (.builtin "object.__class__")) &&
 PySem.W.mroIn K C (.type "object") == some true && PySem.W.specialIn K (.builtin "object.__class__") "__get__" == some (some (.builtin "getset_descriptor.__get__")) && PySem.W.takesIn K (.builtin "object.__class__") == some true &&
 PySem.W.subIn K (.ref C) (.ref C) == some true && PySem.W.subIn K (.ref C) (.type "ValueError") == some true
structure XC (K:PySem.W.Frag) (C:Addr):Prop where
 h:Hcl K C
 e:Ek K C
 sf:PySem.W.subIn K (.ref C) (.ref C)=some true
 ve:PySem.W.subIn K (.ref C) (.type "ValueError")=some true
theorem XC.of {K:PySem.W.Frag} {C:Addr} (q:b3r K C=true):XC K C:=by
 unfold b3r at q
 simp only [Bool.and_eq_true,beq_iff_eq] at q
 obtain ⟨⟨⟨⟨⟨⟨⟨⟨⟨⟨q1,q2⟩,q3⟩,q4⟩,q5⟩,q6⟩,q7⟩,q8⟩,q9⟩,q10⟩,q11⟩:=q
 exact ⟨⟨q1,q2,q3⟩,⟨q2,q4,q5,q6,q3,q7,q8,q9⟩,q10,q11⟩
section
variable {K:PySem.W.Frag} {C D:Addr}
end
structure a3i (P:Program) (w:World) (K:PySem.W.Frag) (mg:Str→Option Value) (base:Heap) (ps:List Str) (name:Str) (sp:Sp) (k:Nat) where
 g:Addr
 gd:FuncData
 ok:a1c P w K mg base (CXF P w) k g gd ps sp
 b:a1I K gd ps []
 kp:PySem.W.keepIn K (.ref g)=true
 m:mg name=some (.ref g)
theorem a4H {P:Program} {w:World} {X:Cx}:a2u (CXF P w) X E0:=fun _ _ _ _ _ _ _ ⟨_,_,_,_,_,_,_,_,_,_,_,_,z⟩=>z.elim
def a3i.up {P:Program} {w:World} {K:PySem.W.Frag} {mg:Str→Option Value} {base:Heap} {ps:List Str} {name:Str} {sp:Sp} {j k:Nat} (f:a3i P w K mg base ps name sp j) (h:j≤k):a3i P w K mg base ps name sp k:=⟨f.g,f.gd,f.ok.mono h,f.b,f.kp,f.m⟩
theorem a2j {P:Program} {w:World} {H:Hp} {h:Heap} {a:Addr} {xs:List V} (x:a0F P w H h a (.tup xs)):xs.length≤sizeLine∧∃ its:List Value,a0D xs its∧PyProof.Rows.IsTup h a its.toArray:=by
 obtain ⟨z,its,r,p⟩:=x
 exact ⟨z,its,r,a4o.is p⟩
def SqB (b:Bool) (K:PySem.W.Frag) (H:Hp) (a:Addr) (xs:List V):Prop:=match b with
 | true=>SqL K H a xs
 | false=>SqT K H a xs
theorem SqB.or {b:Bool} {K:PySem.W.Frag} {H:Hp} {a:Addr} {xs:List V} (h:SqB b K H a xs):SqL K H a xs∨SqT K H a xs:=by
 cases b with
 | true=>exact .inl h
 | false=>exact .inr h
theorem a0t.seqT {K:PySem.W.Frag} {H H':Hp} {a:Addr} {xs:List V} (e:a0t H H') (h:SqT K H a xs):SqT K H' a xs:=by
 rcases h with (h | ⟨o,h⟩) | h
 ·exact .inl (.inl (e _ _ h))
 ·exact .inl (.inr ⟨o,e _ _ h⟩)
 ·exact .inr h
theorem SqB.same {b:Bool} {K:PySem.W.Frag} {H H':Hp} {a:Addr} {xs:List V} (sm:a0t H H') (h:SqB b K H a xs):SqB b K H' a xs:=by
 cases b with
 | true=>exact sm.seq h
 | false=>exact sm.seqT h
def Itb (b:Bool) (K:PySem.W.Frag) (a:Addr):It:=match b with
 | true=>Itl K a
 | false=>Itt K a
def iSeq (K:PySem.W.Frag) (tl:TE):TI:=fun σ H R=>tl σ H fun x H1=>∃ a b,x=.ref a∧(∃ xs,SqB b K H1 a xs)∧R (Itb b K a) H1
theorem b1B {X:Cx} {tg:Expr} {l:Expr} {tl:TE} (hl:PE X l tl):PI X tg l (iSeq X.K tl):=by
 intro pins s σ H R I h
 refine thn (hl pins s σ H _ I h) fun v s1 ⟨x,H1,I1,r1,q1⟩=>?_
 obtain ⟨a,b,e,⟨xs,hq⟩,q⟩:=q1
 subst e
 cases r1
 cases b with
 | true =>
  obtain ⟨its,rv,p,hz⟩:=I1.list hq
  refine wpAny_pyIter_list p.isList ?_
  refine ⟨s1.heap.objs.size,[s1.heap.objs.size],_,_,H1,rfl,I1.kept (t':=s1.toks) fun b o e=>Heap.get?_push_of_some _ e,a4v a _,⟨_,Heap.get?_push_size _ rfl,rfl,rfl⟩,fun b hb=>?_,q⟩
  have e:b=s1.heap.objs.size:=by simpa using hb
  subst e
  exact I1.fpOk (Nat.le_refl _) (I1.hok.fresh (Nat.le_refl _))
 | false =>
  obtain ⟨its,rv,p,hz⟩:=I1.tuple hq
  refine wpAny_pyIter_tuple (show s1.heap.IsTuple a its.toArray from p) ?_
  refine ⟨s1.heap.objs.size,[s1.heap.objs.size],_,_,H1,rfl,I1.kept (t':=s1.toks) fun b o e=>Heap.get?_push_of_some _ e,a3p a _,⟨_,Heap.get?_push_size _ rfl,rfl,rfl⟩,fun b hb=>?_,q⟩
  have e:b=s1.heap.objs.size:=by simpa using hb
  subst e
  exact I1.fpOk (Nat.le_refl _) (I1.hok.fresh (Nat.le_refl _))
def b1C (K:PySem.W.Frag) (tl:TE) (tc:TT) (te:TE):TE:=fun σ H Q=>tl σ H fun v H1=>∃ a xs b,v=.ref a∧SqB b K H1 a xs∧∀ d,H1 d=none →
 ∃ Pv:Nat→Hp→Prop,Pv 0 (upd H1 d (.lst []))∧(∀ i H,i≤xs.length→Pv i H→SqB b K H a xs)∧(∀ i x H,xs[i]?=some x→Pv i H→a5s tc te σ d x H (Pv (i+1)))∧∀ H,Pv xs.length H→Q (.ref d) H
theorem b0p {X:Cx} {elt iter:Expr} {tg:Str} {tp:Pos} {cs:List Expr} {scope:Scope} {pos:Pos} {tc:TT} {te:TE} {M:List Str} {tl:TE} (hc:X.calm=true) (S:a0k scope X.env X.N M) (nd:(tg :: M).Nodup) (hl:scope.names.lookup tg=some .local) (hi:PE X iter tl) (mo:a1V tl)
  (hin:a4F X scope tg M cs elt tc te) (hf:∀ x,foldedSetIterable iter X.env x=pure x:=by intro _;rfl):PE X (.ListComp elt [⟨.Name tg tp,iter,cs,0⟩] scope pos) (b1C X.K tl tc te):=by
 refine a2A hc S nd hl (b1B hi) hin (fun σ H Q h=>?_) hf
 refine mo σ H _ _ (fun v H1 q=>?_) h
 obtain ⟨a,xs,b,e,j1,q⟩:=q
 refine ⟨a,b,e,⟨xs,j1⟩,fun d hd=>?_⟩
 obtain ⟨Pv,h0,hl,hs,hd⟩:=q d hd
 cases b with
 | true=>exact a1x (k:=1) (g:=a1g 0) Pv h0 hl hs hd
 | false=>exact a3N (k:=1) (g:=a1g 0) Pv h0 hl hs hd
def b2u (K:PySem.W.Frag) (C fI:Addr):Bool:=match K.lookup C with
 | some ⟨.type "type",_,.cls k,sl⟩=>match k.mro,sl.toList with
  | .ref C' :: bm,[_,_,_,_,some (.builtin n),_]=>C' == C && n == a2S && !k.hasDel && k.hasDict && PySem.W.tailIn K a7S bm && PySem.W.nsOkIn K k.ns && PySem.W.nsIn K k.ns "__init__" == some (some (.ref fI)) && PySem.W.typeIn K (.ref fI) == some (.type "function")
  | _,_=>false
 | _=>false
structure Eci (K:PySem.W.Frag) (C fI:Addr):Prop where
 ex:b2u K C fI=true
theorem a7m {K:PySem.W.Frag} {h:Heap} {N:Addr} {x:Str} {v:Value} (X:K.In h) (e:PySem.W.nsOkIn K N=true) (q:PySem.W.nsIn K N x=some (some v)):h.nsMap N x=some v:=by
 obtain ⟨o,es,ep,ho,hd,_,hf⟩:=Heap.Ns.of_isNs (PySem.W.isNs_of_in X e)
 unfold PySem.W.nsIn at q
 split at q
 ·rename_i c d es' n' sl q'
  have z:=X _ _ q'
  rw [ho] at z
  cases z
  cases hd
  split at q
  ·rename_i en he
   cases q
   rw [←hf]
   unfold nsFind findBy
   rw [←Array.find?_toList,he]
   rfl
  ·split at q <;> cases q
 ·cases q
theorem Eci.obj {K:PySem.W.Frag} {C fI:Addr} (c:Eci K C fI) {h:Heap} (X:K.In h):∃ bm N nm q bs sn sub ab col dd k0 k1 k2 k3 k5 mN oI,h.get? C=some (excClassObj nm q C N bs bm true sn sub ab col dd k0 k1 k2 k3 k5 a2S)∧h.Ns N mN∧mN "__init__"=some (.ref fI)∧OwnTail h a7S bm ∧
  h.get? fI=some oI∧oI.cls=.type "function":=by
 have q:=c.ex
 unfold b2u at q
 split at q
 ·rename_i dd cd sl ho
  split at q
  ·rename_i C' bm k0 k1 k2 k3 n k5 hm hs
   simp only [Bool.and_eq_true,beq_iff_eq,Bool.not_eq_true'] at q
   obtain ⟨⟨⟨⟨⟨⟨⟨e1,e2⟩,e3⟩,e4⟩,e5⟩,e6⟩,e7⟩,e8⟩:=q
   subst e1 e2
   obtain ⟨nm,bs,mro,ns,qn,hd,sn,sub,ab,col,del⟩:=cd
   dsimp only at hm e3 e4 e6 e7
   subst hm e3 e4
   obtain ⟨l⟩:=sl
   have hl:l=[k0,k1,k2,k3,some (.builtin a2S),k5]:=hs
   subst hl
   obtain ⟨oI,hoI,hcI⟩:=Option.map_eq_some_iff.mp e8
   exact ⟨bm,ns,nm,qn,bs,sn,sub,ab,col,dd,k0,k1,k2,k3,k5,_,oI,X _ _ ho,.of_isNs (PySem.W.isNs_of_in X e6),a7m X e6 e7,PySem.W.tail_of_in X e5,X _ _ hoI,hcI⟩
  ·cases q
 ·cases q
section
variable {prog:Program} {w:World} {A:Around} {E:Value→Shared→Prop} {h:Heap} {g:Array GenState} {d:Drawn} {t:Nat} {os:OsState}
variable {nm q:Str} {C N:Addr} {bs bm:List Value} {hdct:Bool} {sn:List Str} {sub:List Value} {ab:Bool} {col:Option Bool} {dd:Option Addr} {k0 k1 k2 k3 k5:Option Value}
theorem a7n (T:OwnTail h a7S bm) {mN:Str→Option Value} {us:List Value} {fI:Addr} {oI:Obj} {Q:Fin→Shared→Prop} (hC:h.get? C=some (excClassObj nm q C N bs bm hdct sn sub ab col dd k0 k1 k2 k3 k5 a2S)) (hn:h.Ns N mN)
  (hi:mN "__init__"=some (.ref fI)) (hfI:h.get? fI=some oI) (hfc:oI.cls=.type "function")
  (hq:∀ h' e,Heap.MadeExcOf h h' e (.ref C) us→wpAny (model prog w) A (call (.ref fI) (.ref e :: us)) (fun r s'=>r=.none∧Q (.done (.ret (.ref e))) s') E ⟨h',g,d,t,os⟩) (hus:us.length≤sizeLine) :
  wpAny (model prog w) A (Builtin.«type.__call__» ⟨.ref C :: us,[]⟩) Q E ⟨h,g,d,t,os⟩:=by
 have F:=PySem.F.excBase_ValueError
 repeat (first | with_reducible refine wpAny_loadPart_at hC ?_ | with_reducible refine wpAny_madeBy_exc hC ?_ | wp_step)
 refine codeAny_call_builtin_code (Code.quiet_builtin _ F.quiet) (wpAny_check_new_subT F T hC (codeAny_exc_new_subT F T hC ?_ hus))
 show wpAny _ _ _ _ _ _
 generalize hp:((h.push { cls:=.type "tuple",data:=.seq us.toArray }).push { cls:=.ref C,data:=.fields #[.ref h.objs.size,.none,.none,.none,.bool false,.none] })=h2
 have kp:∀ b o,h.get? b=some o→h2.get? b=some o:=fun b o e=>by rw [←hp];exact Heap.get?_push_of_some _ (Heap.get?_push_of_some _ e)
 have hC1:=kp _ _ hC
 have hget:h2.get? (h.objs.size+1)=some { cls:=.ref C,data:=.fields #[.ref h.objs.size,.none,.none,.none,.bool false,.none] }:=by rw [←hp];heap_get
 have htup:h2.get? h.objs.size=some { cls:=.type "tuple",data:=.seq us.toArray }:=by rw [←hp];exact Heap.get?_push_of_some _ (Heap.get?_push_at rfl rfl)
 have hcC:(Value.ref C :: bm).contains (.ref C)=true:=by simp
 unfold isInstance
 repeat (first | with_reducible refine wpAny_loadPart_at hget ?_ | (with_reducible refine wpAny_isSubtype_exc hC1 ?_;rw [hcC]) | wp_step)
 show wpAny _ _ (typeLookup (.ref C) _) _ _ _
 refine wpAny_typeLookup_tail hC1 (hn.keeps kp) (T.keeps kp) F.mroIs F.init.lookup ?_
 rw [hi]
 refine wpAny_holding (wpAny_bind ?_)
 unfold bindSpecial
 refine wpAny_bind (wpAny_typeOf (T:="function") ⟨_,kp _ _ hfI,hfc⟩ ?_)
 rw [if_pos (by decide)]
 refine wpAny_pure (wpAny_bind (wpAny_mono (hq h2 (h.objs.size+1) ⟨kp,Heap.get?_none_of_le (Nat.le_succ _),h.objs.size,hget,Heap.get?_none_of_le (Nat.le_refl _),htup⟩) (fun r s' hr=>?_) fun _ _ x=>x))
 obtain ⟨rfl,hQ⟩:=hr
 wp_walk
 exact hQ
theorem a8G (T:OwnTail h a7S bm) {mN:Str→Option Value} {us:List Value} {fI:Addr} {oI:Obj} {Q:Value→Shared→Prop} (hC:h.get? C=some (excClassObj nm q C N bs bm hdct sn sub ab col dd k0 k1 k2 k3 k5 a2S)) (hn:h.Ns N mN)
  (hi:mN "__init__"=some (.ref fI)) (hfI:h.get? fI=some oI) (hfc:oI.cls=.type "function")
  (hq:∀ h' e,Heap.MadeExcOf h h' e (.ref C) us→wpAny (model prog w) (A.under (.builtin "type.__call__" ⟨.ref C :: us,[]⟩)) (call (.ref fI) (.ref e :: us)) (fun r s'=>r=.none∧Q (.ref e) s') E ⟨h',g,d,t,os⟩) (hus:us.length≤sizeLine) :
  wpAny (model prog w) A (call (.ref C) us) Q E ⟨h,g,d,t,os⟩:=by
 have f1:=tc_lookup
 have f2:=tc_bind (.ref C)
 have hT:(⟨h,g,d,t,os⟩:Shared).TypeIs (.ref C) "type":=⟨_,hC,rfl⟩
 refine wpAny_call (codeAny_of_tree ?_)
 show wpAny _ _ (callAny (.ref C) _) _ _ _
 repeat (any_goals (first | assumption | with_reducible refine wpAny_loadPart_at hC ?_ | wp_step))
 exact ⟨rfl,codeAny_call_builtin_at (Code.quiet_builtin _ (by decide +kernel)) entry_typeCall (wpAny_check_type_call_sub hC (a7n T hC hn hi hfI hfc (fun h' e hm=>hq h' e hm) hus))⟩
end
end L2
namespace L2
open PySem PySem.Spec PyProof.Rows PySem.Calls PySem.Builtin PySem.Builtin.ObjectAttr
def a5k (ea C:Addr) (od:Option Addr):HO:=.ext fun h=>∃ oe vs,h.get? ea=some oe∧oe.cls=.ref C∧oe.dict=od∧oe.data=.fields vs∧vs[1]?=some .none
def xdO (d:Addr) (fs:List (Str × V)):HO:=.ext fun h=>∃ mA,h.Ns1 d mA∧(∀ f,a5j (fs.lookup f) (mA f))∧PySem.Within mA (fs.map (·.1))
theorem a4I {ea C:Addr} {od:Option Addr}:∀ h1 h2:Heap,(∃ oe vs,h1.get? ea=some oe∧oe.cls=.ref C∧oe.dict=od∧oe.data=.fields vs∧vs[1]?=some .none)→(∀ o,h1.get? ea=some o→h2.get? ea=some o)→∃ oe vs,h2.get? ea=some oe∧oe.cls=.ref C∧oe.dict=od∧oe.data=.fields vs∧vs[1]?=some .none :=
 fun _ _ ⟨oe,vs,he,r⟩ k=>⟨oe,vs,k oe he,r⟩
theorem a3P {d:Addr} {mA:Str→Option Value} {h1 h2:Heap} (n:h1.Ns1 d mA) (k:∀ o,h1.get? d=some o→h2.get? d=some o):h2.Ns1 d mA:=by
 obtain ⟨o,es,ep,ho,r⟩:=n
 exact ⟨o,es,ep,k o ho,r⟩
theorem a5v {d:Addr} {mA:Str→Option Value} {h1:Heap} (n:h1.Ns1 d mA):∃ o,h1.get? d=some o:=by
 obtain ⟨o,es,ep,ho,r⟩:=n
 exact ⟨o,ho⟩
def b2v (K:PySem.W.Frag) (C:Addr):Bool:=PySem.W.findIn K (.ref C) "__setattr__" == some (some (.builtin "object.__setattr__")) && PySem.W.mroIn K C (.type "object") == some true &&
 (PySem.W.clsIn K C).any fun k=>k.hasDict && match k.mro with
  | .ref _ :: .ref _ :: r=>r == a7S
  | _=>false
structure Est (K:PySem.W.Frag) (C:Addr):Prop where
 sa:PySem.W.findIn K (.ref C) "__setattr__"=some (some (.builtin "object.__setattr__"))
 ob:PySem.W.mroIn K C (.type "object")=some true
 cd:∃ k a b,PySem.W.clsIn K C=some k∧k.hasDict=true∧k.mro=.ref a :: .ref b :: a7S
theorem Est.of {K:PySem.W.Frag} {C:Addr} (q:b2v K C=true):Est K C:=by
 unfold b2v at q
 simp only [Bool.and_eq_true,beq_iff_eq] at q
 obtain ⟨⟨q1,q2⟩,q3⟩:=q
 refine ⟨q1,q2,?_⟩
 cases hk:PySem.W.clsIn K C with
 | none=>rw [hk] at q3;cases q3
 | some k =>
  rw [hk] at q3
  have q4:(k.hasDict && match k.mro with
   | .ref _ :: .ref _ :: r=>r == a7S
   | _=>false)=true:=q3
  rw [Bool.and_eq_true] at q4
  obtain ⟨q5,q6⟩:=q4
  split at q6
  ·rename_i a b r hm
   exact ⟨k,a,b,rfl,q5,by rw [hm,beq_iff_eq.mp q6]⟩
  ·cases q6
section
variable {K:PySem.W.Frag} {prog:Program} {w:World} {A:Around} {E:Value→Shared→Prop} {s:Shared} {x C:Addr} {ox:Obj} {od:Option Obj} {name:Str} {tk:Tok} {v:Value}
theorem a6k {R:Result→Shared→Prop} (X:K.In s.heap) (I:PySem.W.InstAt s.heap x ox C od) (G:Est K C) (ht:PySem.W.takerIn K C name=some none)
  (h:∀ b,wpAny (model prog w) A.in1 (storeInOwnDict (.ref x) (.ref C) (.str name tk) name v b) (fun fin s'=>match fin with | .done f=>R (.ok f) s' | .again c'=>c'.quiet=true∧codeAny (model prog w) A c' R s') (fun e s'=>R (.error e) s') s) :
  codeAny (model prog w) A (.call (.builtin "object.__setattr__") ⟨[.ref x,.str name tk,v],[]⟩) R s:=by
 have SF:=PySem.F.store_object
 obtain ⟨k,a,b,hc,hh,hm⟩:=G.cd
 have sub:PySem.W.Looks (model prog w) s.heap (isInstance (.ref x) (.type "object")) true:=I.type.andThen (PySem.W.looks_mroIn X G.ob)
 refine codeAny_call_builtin SF.slot.plain SF.entry (@PySem.W.check_slot (model prog w) _ _ s "object.__setattr__" "object" "__setattr__" (.ref x) [.str name tk,v] [] _ SF.kind SF.split sub (SF.args (.ref x) (.str name tk) v) ?_)
 obtain ⟨attr,ha,hr⟩:=Option.bind_eq_some_iff.mp ht
 have hml:PySem.W.Looks (model prog w) s.heap (mroOf (.ref C)) k.mro:=(PySem.W.looks_clsIn X hc).andThen .now
 have L3:PySem.W.Looks (model prog w) s.heap (storeTaker? attr) none:=by
  cases attr with
  | none=>exact .now
  | some y =>
   obtain ⟨b',hb,e'⟩:=Option.map_eq_some_iff.mp hr
   refine (PySem.W.looks_takesIn X hb).andThen ?_
   cases b' with
   | true=>cases e'
   | false=>exact .now
 rw [PySem.W.osa_eq,refuse_eq]
 refine wpAny_bind (wpAny_bind (I.type.here (wpAny_bind (hml.here ?_))))
 rw [hm,refuseLoop_ref,refuseLoop_ref,PySem.F.store_ValueError.passes]
 exact wpAny_pure (wpAny_bind (I.type.here (wpAny_bind ((PySem.W.looks_findIn X ha).here (wpAny_bind (L3.here (h _)))))))
theorem a5w {Q:Fin→Shared→Prop} {b:Bool} (X:K.In s.heap) (G:Est K C) (hx:s.heap.get? x=some ox) (hc:ox.cls=.ref C) (hd:ox.dict=none) {vs:Array Value} (hdt:ox.data=.fields vs)
  (h:∀ h' tk' od',h'.Ns1 s.heap.objs.size (fun y=>if y=name then some v else none)→h'.get? x=some { ox with dict:=some s.heap.objs.size }→h'.get? s.heap.objs.size=some od'→(∀ b o,b≠x→s.heap.get? b=some o→h'.get? b=some o)→Q (.done (.ret .none)) { s with heap:=h',toks:=tk' }) :
  wpAny (model prog w) A (storeInOwnDict (.ref x) (.ref C) (.str name tk) name v b) Q E s:=by
 obtain ⟨k,a,b',hk,hh,hm⟩:=G.cd
 refine wpAny_bind (wpAny_pure (wpAny_bind (wpAny_bind (wpAny_loadPart hx ?_))))
 obtain ⟨oc,odi,oda,osl⟩:=ox
 dsimp only at hc hd hdt
 subst hc hd hdt
 refine wpAny_bind ((PySem.W.looks_clsIn X hk).here ?_)
 rw [hh]
 have hx1:(s.heap.push { cls:=.type "dict",data:=.dict #[] }).get? x=some ⟨.ref C,none,.fields vs,osl⟩:=Heap.get?_push_of_some _ hx
 have hxs:x≠s.heap.objs.size:=Nat.ne_of_lt (Heap.lt_size hx)
 refine wpAny_bind (wpAny_alloc' ?_)
 refine wpAny_bind (wpAny_update' hx1 ?_)
 refine wpAny_pure (wpAny_bind (wpAny_pure ?_))
 have e1:((s.heap.push { cls:=.type "dict",data:=.dict #[] }).update x fun o=>{ cls:=o.cls,dict:=some s.heap.objs.size,data:=o.data,slots:=o.slots }).get? s.heap.objs.size=some { cls:=.type "dict",data:=.dict #[] } :=
  (Heap.get?_update_ne _ _ _ _ hxs.symm).trans (Heap.get?_push_at rfl rfl)
 have e2:((s.heap.push { cls:=.type "dict",data:=.dict #[] }).update x fun o=>{ cls:=o.cls,dict:=some s.heap.objs.size,data:=o.data,slots:=o.slots }).get? x=some ⟨.ref C,some s.heap.objs.size,.fields vs,osl⟩:=Heap.get?_update_self _ hx1 rfl
 have e3:∀ b o,b≠x→s.heap.get? b=some o→((s.heap.push { cls:=.type "dict",data:=.dict #[] }).update x fun o=>{ cls:=o.cls,dict:=some s.heap.objs.size,data:=o.data,slots:=o.slots }).get? b=some o:=fun b o hb e=>(Heap.get?_update_ne _ _ _ _ hb).trans (Heap.get?_push_of_some _ e)
 generalize ((s.heap.push { cls:=.type "dict",data:=.dict #[] }).update x fun o=>{ cls:=o.cls,dict:=some s.heap.objs.size,data:=o.data,slots:=o.slots })=h1 at e1 e2 e3 ⊢
 have n0:h1.Ns s.heap.objs.size (fun _=>none):=⟨_,#[],_,e1,rfl,fun e he=>absurd he (by simp),fun _=>rfl⟩
 refine wpAny_bind (wpAny_nsSet1 (s:={ s with heap:=h1 }) (Heap.Ns1.of_empty n0) fun h' hn' hs=>?_)
 obtain ⟨oD,esD,epD,hoD,hdD,hcD⟩:=hn'.count (PySem.Within.cons name v PySem.Within.nil)
 refine wpAny_bind (wpAny_lookBehind hoD (by rw [hdD];exact pastItsLine_dict (Nat.le_trans hcD (by rw [List.length_cons,List.length_nil,sizeLine_eq];omega))) ?_)
 exact wpAny_pure (h h' _ oD hn' ((hs.2 x hxs).trans e2) hoD fun b o hb e=>(hs.2 b (Nat.ne_of_lt (Heap.lt_size e))).trans (e3 b o hb e))
theorem a7o {Q:Fin→Shared→Prop} {b:Bool} {dx:Addr} {mA:Str→Option Value} {ns:List Str} (X:K.In s.heap) (G:Est K C) (hx:s.heap.get? x=some ox) (hc:ox.cls=.ref C) (hd:ox.dict=some dx) (hn:s.heap.Ns1 dx mA) (hw:PySem.Within mA ns) (hsz:ns.length≤1000)
  (h:∀ h' tk',h'.Ns1 dx (fun y=>if y=name then some v else mA y)→Heap.SameBut dx s.heap h'→Q (.done (.ret .none)) { s with heap:=h',toks:=tk' }) :
  wpAny (model prog w) A (storeInOwnDict (.ref x) (.ref C) (.str name tk) name v b) Q E s:=by
 obtain ⟨k,a,b',hk,hh,hm⟩:=G.cd
 refine wpAny_bind (wpAny_pure (wpAny_bind (wpAny_bind (wpAny_loadPart hx ?_))))
 obtain ⟨oc,odi,oda,osl⟩:=ox
 dsimp only at hc hd
 subst hc hd
 refine wpAny_bind ((PySem.W.looks_clsIn X hk).here ?_)
 rw [hh]
 refine wpAny_pure (a:=some dx) (wpAny_bind (wpAny_pure (wpAny_bind ?_)))
 refine wpAny_nsSet1 hn fun h' hn' hs=>?_
 obtain ⟨oD,esD,epD,hoD,hdD,hcD⟩:=hn'.count (PySem.Within.cons name v hw)
 refine wpAny_bind (wpAny_lookBehind hoD (by rw [hdD];exact pastItsLine_dict (Nat.le_trans hcD (by rw [List.length_cons,sizeLine_eq];omega))) ?_)
 exact wpAny_pure (h h' _ hn' hs)
end
theorem b0q {fs:List (Str × V)} {mA:Str→Option Value} {f:Str} {y:V} {u:Value} (r:∀ f,a5j (fs.lookup f) (mA f)) (ry:a0O y u):∀ g,a5j ((a5X f y fs).lookup g) (if g=f then some u else mA g):=fun g=>by
 rw [a2I]
 by_cases hg:g=f
 ·rw [if_pos hg,if_pos hg];exact ry
 ·rw [if_neg hg,if_neg hg];exact r g
def sXfld (K:PySem.W.Frag) (ta tv:TE) (f:Str):TS:=fun D σ H=>tv σ H fun y H1=>ta σ H1 fun x H2=>∃ e C,x=.ref e∧Est K C∧PySem.W.takerIn K C f=some none ∧
 ((H2 e=some (a5k e C none)∧∀ d,H2 d=none→d≠e→D.nx σ (upd (upd H2 d (xdO d [(f,y)])) e (a5k e C (some d)))) ∨
  (∃ dx fs,H2 e=some (a5k e C (some dx))∧H2 dx=some (xdO dx fs)∧dx≠e∧fs.length≤100∧D.nx σ (upd H2 dx (xdO dx (a5X f y fs)))))
theorem a8H {X:Cx} {o value:Expr} {f:Str} {pos pos':Pos} {ta tv:TE} (ha:PE X o ta) (hv:PE X value tv) (hs:swapsWith value (some (.Attribute o f pos')) pos.line X.env=pure false:=by rfl):PS X (.Assign [.Attribute o f pos'] value pos) (sXfld X.K ta tv f):=by
 intro pins s σ H D I h
 refine plainObj_wpAny_Assign_Attribute (thn (hv pins s σ H _ I h) fun u s1 ⟨y,H1,I1,ry,q⟩=>thn (ha pins s1 σ H1 _ I1 q) fun ov s2 ⟨x,H2,I2,rx,e,C,ex,G,ht,hcase⟩=>?_) hs
 subst ex
 obtain rfl:ov=Value.ref e:=rx
 rcases hcase with ⟨he,q⟩ | ⟨dx,fs,he,hdx,hne,hl,q⟩
 ·obtain ⟨⟨oe,vs,ho,hc,hd,hdt,h1⟩,_,_⟩:=I2.hok e _ he
  have IA:PySem.W.InstAt s2.heap e oe C none:=⟨ho,hc,by unfold PySem.W.notCls;rw [hdt],by rw [hd];trivial⟩
  refine PySem.W.set_plain I2.kIn IA G.sa (a6k (s:={ s2 with toks:=s2.toks+1 }) I2.kIn IA G ht fun b=>?_)
  refine a5w (s:={ s2 with toks:=s2.toks+1 }) I2.kIn G ho hc hd hdt fun h' tk' od' hns hx' hod kp=>?_
  have nd:H2 s2.heap.objs.size=none:=I2.hok.fresh (Nat.le_refl _)
  have dne:s2.heap.objs.size≠e:=Nat.ne_of_gt (Heap.lt_size ho)
  have e1:(h'.update e fun _=>oe).get? e=some oe:=Heap.get?_update_self _ hx' (Heap.get?_some_iff.mp ho).2
  have e2:∀ b,b≠e→(h'.update e fun _=>oe).get? b=h'.get? b:=fun b hb=>Heap.get?_update_other _ _ (Ne.symm hb)
  have I3:Inv X pins σ (upd H2 s2.heap.objs.size (xdO s2.heap.objs.size [(f,y)])) { s2 with heap:=h'.update e fun _=>oe,toks:=tk' }:=I2.laid (fun b v eb=>by
    by_cases hb:b=e
    ·subst hb
     rw [ho] at eb
     cases eb
     exact e1
    ·exact (e2 b hb).trans (kp b v hb eb)) (Nat.le_refl _) (by
    have hns':(h'.update e fun _=>oe).Ns1 s2.heap.objs.size (fun z=>if z=f then some u else none):=a3P hns fun o eo=>(e2 _ dne).trans eo
    refine ⟨⟨_,hns',fun g=>?_,fun g hg=>?_⟩,a5v hns',fun g1 g2 ⟨mA,z1,z2,z3⟩ k=>⟨mA,a3P z1 k,z2,z3⟩⟩
    ·show a5j (List.lookup g [(f,y)]) (if g=f then some u else none)
     by_cases hg:g=f
     ·rw [if_pos hg,hg]
      show a5j (List.lookup f [(f,y)]) _
      rw [List.lookup_cons,beq_self_eq_true]
      exact ry
     ·rw [if_neg hg]
      have:(g == f)=false:=by simpa using hg
      rw [List.lookup_cons,this]
      trivial
    ·by_cases hgf:g=f
     ·rw [hgf];exact List.mem_cons_self
     ·exact absurd (if_neg hgf) hg)
  have I4:Inv X pins σ (upd (upd H2 s2.heap.objs.size (xdO s2.heap.objs.size [(f,y)])) e (a5k e C (some s2.heap.objs.size))) { s2 with heap:=h',toks:=tk' } :=
   I3.write (x:=e) (e:=e) (by rw [a0l (Ne.symm dne),he];trivial) (.inl rfl) (fun b v hb eb=>(e2 b hb).symm.trans eb) ⟨_,hx'⟩ ⟨⟨_,vs,hx',hc,rfl,hdt,h1⟩,⟨_,hx'⟩,a4I⟩
  exact ⟨σ,_,I4,q _ nd dne⟩
 ·obtain ⟨⟨oe,vs,ho,hc,hd,hdt,h1⟩,_,_⟩:=I2.hok e _ he
  obtain ⟨⟨mA,hn,hr,hw⟩,⟨obd,hobd⟩,_⟩:=I2.hok dx _ hdx
  have IA:PySem.W.InstAt s2.heap e oe C (some obd):=⟨ho,hc,by unfold PySem.W.notCls;rw [hdt],by rw [hd];exact hobd⟩
  refine PySem.W.set_plain I2.kIn IA G.sa (a6k (s:={ s2 with toks:=s2.toks+1 }) I2.kIn IA G ht fun b=>?_)
  refine a7o (s:={ s2 with toks:=s2.toks+1 }) I2.kIn G ho hc hd hn hw (by rw [List.length_map];omega) fun h' tk' hns hsb=>?_
  have I4:Inv X pins σ (upd H2 dx (xdO dx (a5X f y fs))) { s2 with heap:=h',toks:=tk' } :=
   I2.write (x:=dx) (e:=dx) (by rw [hdx];trivial) (.inl rfl) (fun b v hb eb=>(hsb.2 b hb).trans eb) (a5v hns) ⟨⟨_,hns,b0q hr ry,fun g hg=>by
    by_cases hgf:g=f
    ·rw [hgf];exact (a2J f y fs).1
    ·refine (a2J f y fs).2 g (hw g fun z=>hg ?_)
     show (if g=f then some u else mA g)=none
     rw [if_neg hgf];exact z⟩,a5v hns,fun g1 g2 ⟨mA,z1,z2,z3⟩ k=>⟨mA,a3P z1 k,z2,z3⟩⟩
  exact ⟨σ,_,I4,q⟩
end L2
namespace L2
open PySem PySem.Spec PyProof.Rows
theorem Inv.nfs {X:Cx} {pins:List (Addr × Obj)} {σ:St} {H:Hp} {s:Shared} {b:Addr} (I:Inv X pins σ H s) (ob:Off X pins b):b∉X.fs:=fun z=>by
 obtain ⟨_,o,ho,_⟩:=I.ok.funs.mem z
 exact I.ok.exfs b (ob.1 o ho) z
theorem Inv.newExc {X:Cx} {pins:List (Addr × Obj)} {σ:St} {H:Hp} {s:Shared} {h':Heap} {ea C:Addr} {us:List Value} {t':Nat} (I:Inv X pins σ H s) (me:Heap.MadeExcOf s.heap h' ea (.ref C) us):Inv X pins σ (upd H ea (a5k ea C none)) { s with heap:=h',toks:=t' }:=by
 obtain ⟨t,ht,_,_⟩:=me.there
 have ob:=I.off me.new
 exact (I.kept (h':=h') (t':=t') me.keeps).track ob (I.hok.none_of me.new) ⟨_,_,ht,rfl,rfl,rfl,rfl⟩ ⟨_,ht⟩ a4I (I.nfs ob)
theorem b0r {X:Cx} {C fI:Addr} {k:Nat} {fd:FuncData} {ps:List Str} {sp:Sp} {pins:List (Addr × Obj)} {σ:St} {H:Hp} {s:Shared} {QQ:Value→Shared→Prop} {EE:Value→Shared→Prop} {us:List Value} {vs:List V} {Q:Addr→VK} (hcl:Eci X.K C fI) (F:a1c X.prog X.w X.K X.mg X.base CX0 k fI fd ps sp) (hr:a2t (k+1) X.A) (hb:a1I X.K fd ps [])
  (I:Inv X pins σ H s) (r:a0D vs us) (hl:vs.length≤1000) (h:∀ ea,H ea=none→sp (.ref ea :: vs) (upd H ea (a5k ea C none)) (Q ea) E0)
  (fin:∀ ea h' s' u,Heap.MadeExcOf s.heap h' ea (.ref C) us→CE X.stack X.prog X.w (upd H ea (a5k ea C none)) { s with heap:=h' } (Q ea) u s'→u=.none∧QQ (.ref ea) s') :
  wpAny (model X.prog X.w) X.A (call (.ref C) us) QQ EE s:=by
 obtain ⟨bm,N,nm,qq,bs,sn,sub,ab,col,dd,k0,k1,k2,k3,k5,mN,oI,hC,hN,hi,T,hfI,hfc⟩:=hcl.obj I.kIn
 obtain ⟨hp,g,d,t,os⟩:=s
 refine a8G T hC hN hi hfI hfc (fun h' ea me=>?_) (by rw [←r.length];exact small hl)
 have I2:Inv X pins σ (upd H ea (a5k ea C none)) ⟨h',g,d,t,os⟩:=I.newExc (t':=t) me
 have hq:=h ea (I.hok.none_of me.new)
 have r2:a0D (V.ref ea :: vs) (Value.ref ea :: us):=.cons rfl r
 have hl2:(Value.ref ea :: us).length=ps.length:=by
  have e:=r2.length
  rw [F.len _ _ _ _ hq] at e
  exact e.symm
 have hb':=hb ⟨h',g,d,t,os⟩ (Value.ref ea :: us) I2.kIn (by rw [List.append_nil];exact hl2)
 rw [List.append_nil] at hb'
 refine wpAny_call (codeAny_mono (F.run _ X.stack _ _ ⟨Value.ref ea :: us,[]⟩ (Value.ref ea :: us) _ _ E0 (hr.make C us []) (I2.env0.make C us []) hb' r2 hq) fun rr s' hq'=>?_)
 cases rr with
 | error e=>exact False.elim hq'
 | ok fl =>
  cases fl with
  | ret u=>exact fin ea h' s' u me hq'
  | next=>exact False.elim hq'
  | brk=>exact False.elim hq'
  | cont=>exact False.elim hq'
def SIt:Bool→Heap→Addr→Addr→Nat→Prop
 | true,h,i,l,n=>h.IsTupleIter i l n
 | false,h,i,l,n=>h.IsListIter i l n
def SAt:Bool→Heap→Addr→Array Value→Prop
 | true,h,l,xs=>h.IsTuple l xs
 | false,h,l,xs=>h.IsList l xs
theorem SIt.at {k:Bool} {h h':Heap} {i l:Addr} {n:Nat} (x:SIt k h i l n) (e:∀ o,h.get? i=some o→h'.get? i=some o):SIt k h' i l n:=by
 cases k with
 | true=>obtain ⟨o,ho,r⟩:=x;exact ⟨o,e o ho,r⟩
 | false=>obtain ⟨o,ho,r⟩:=x;exact ⟨o,e o ho,r⟩
theorem SIt.obj {k:Bool} {h:Heap} {i l:Addr} {n:Nat} (x:SIt k h i l n):∃ o,h.get? i=some o∧∀ v,o.data≠.cell v:=by
 cases k with
 | true=>obtain ⟨o,ho,_,d⟩:=x;exact ⟨o,ho,fun v z=>by rw [d] at z;cases z⟩
 | false=>obtain ⟨o,ho,_,d⟩:=x;exact ⟨o,ho,fun v z=>by rw [d] at z;cases z⟩
theorem SAt.at {k:Bool} {h h':Heap} {l:Addr} {xs:Array Value} (x:SAt k h l xs) (e:∀ o,h.get? l=some o→h'.get? l=some o):SAt k h' l xs:=by
 cases k with
 | true=>obtain ⟨o,ho,r⟩:=x;exact ⟨o,e o ho,r⟩
 | false=>obtain ⟨o,ho,r⟩:=x;exact ⟨o,e o ho,r⟩
section
variable {prog:Program} {w:World} {A:Around} {E:Value→Shared→Prop} {s:Shared} {k:Bool} {it l:Addr} {i:Nat} {xs:Array Value} {x:Value} {Q:Value→Shared→Prop}
theorem a8I (hit:SIt k s.heap it l i) (hl:SAt k s.heap l xs) (hx:xs[i]?=some x) (hQ:∀ h',SIt k h' it l (i+1)→Heap.SameBut it s.heap h'→Q x { s with heap:=h' }) :
  wpAny (model prog w) A (Builtin.SmallTypes.nextOf (.ref it)) Q E s:=by
 cases k with
 | false=>exact wpAny_nextOf_list_item hit hl hx hQ
 | true =>
  have hit':s.heap.IsTupleIter it l i:=hit
  obtain ⟨o,ho,hc,hd⟩:=id hit'
  obtain ⟨ol,hol,_,nl,hdl⟩:=hl
  unfold Builtin.SmallTypes.nextOf
  refine wpAny_bind (wpAny_callSpecial?_slot (name:=Str.ofString "__next__") hit'.typeIs F.slot_tuple_iterator_next (wpAny_call_entry F.slot_tuple_iterator_next hit'.typeIs F.entry_tuple_iterator_next ?_ (F.args_tuple_iterator_next_1 _)))
  show wpAny _ _ (field (.ref it) 0 >>= _) _ _ s
  refine wpAny_bind (wpAny_field ho hd (x:=.ref l) rfl ?_)
  show wpAny _ _ (if (Value.ref l == Value.none)=true then _ else _) _ _ s
  rw [if_neg (show ¬ ((Value.ref l == Value.none)=true) from Bool.false_ne_true)]
  show wpAny _ _ (field (.ref it) 1 >>= _) _ _ s
  refine wpAny_bind (wpAny_field ho hd (x:=.int i 0) rfl (show wpAny _ _ (seqItems? (.ref l) >>= _) _ _ s from wpAny_bind (wpAny_seqItems hol hdl ?_)))
  simp only [Int.toNat_natCast,hx]
  refine wpAny_bind (wpAny_setField ho hd (by simp) (wpAny_pure ⟨x,rfl,wpAny_pure (hQ _ ?_ (Heap.SameBut.update ..))⟩))
  exact ⟨_,Heap.get?_update_self _ ho (Obj.isFreed_of_fields (Obj.data_mapFields hd _)),(Obj.cls_mapFields ..).trans hc,by rw [Obj.data_mapFields hd];simp [rawInt]⟩
theorem endS (hh:A.handled=none) (hit:SIt k s.heap it l i) (hl:SAt k s.heap l xs) (hx:xs[i]?=none) (hE:∀ h' e,Heap.ExtBut it s.heap h'→(∃ o,h'.get? e=some o∧o.cls=.type "StopIteration")→E (.ref e) { s with heap:=h' }) :
  wpAny (model prog w) A (Builtin.SmallTypes.nextOf (.ref it)) Q E s:=by
 cases k with
 | false=>exact wpAny_nextOf_list_end hh hit hl hx hE
 | true =>
  have hit':s.heap.IsTupleIter it l i:=hit
  obtain ⟨o,ho,hc,hd⟩:=id hit'
  obtain ⟨ol,hol,_,nl,hdl⟩:=hl
  unfold Builtin.SmallTypes.nextOf
  refine wpAny_bind (wpAny_callSpecial?_slot (name:=Str.ofString "__next__") hit'.typeIs F.slot_tuple_iterator_next (wpAny_call_entry F.slot_tuple_iterator_next hit'.typeIs F.entry_tuple_iterator_next ?_ (F.args_tuple_iterator_next_1 _)))
  show wpAny _ _ (field (.ref it) 0 >>= _) _ _ s
  refine wpAny_bind (wpAny_field ho hd (x:=.ref l) rfl ?_)
  show wpAny _ _ (if (Value.ref l == Value.none)=true then _ else _) _ _ s
  rw [if_neg (show ¬ ((Value.ref l == Value.none)=true) from Bool.false_ne_true)]
  show wpAny _ _ (field (.ref it) 1 >>= _) _ _ s
  refine wpAny_bind (wpAny_field ho hd (x:=.int i 0) rfl (show wpAny _ _ (seqItems? (.ref l) >>= _) _ _ s from wpAny_bind (wpAny_seqItems hol hdl ?_)))
  simp only [Int.toNat_natCast,hx]
  refine wpAny_bind (wpAny_rule (wpAny_bind (wpAny_setField ho hd (by simp) ?_)))
  show wpAny _ _ (newExc (.type "StopIteration") [] >>= _) _ _ _
  refine wpAny_bind ?_
  simp only [newExc,newTuple]
  refine wpAny_bind (wpAny_newObj_type ?_ (by size_fits))
  refine wpAny_bind (m:=firstArgMember _ _) (wpAny_of_eq (a:=Value.none) (by first | rfl | (simp only [firstArgMember];rfl)) ?_)
  refine wpAny_newObj_type ?_ (by size_fits)
  simp only [raiseNew]
  refine wpAny_bind (wpAny_handled ?_)
  rw [show A.in1.handled=none from hh]
  refine wpAny_bind (wpAny_pure (wpAny_throw ?_))
  exact hE _ _ (((Heap.SameBut.update ..).extBut.push _).push _) ⟨_,Heap.get?_push_size _ rfl,rfl⟩
end
structure ZAt (ka kb:Bool) (z TI TO i1 i2 l1 l2:Addr) (n:Nat) (h:Heap):Prop where
 zp:IsZip h z TI TO .none
 ti:IsPair h TI (.ref i1) (.ref i2)
 to_:∃ a b,IsPair h TO a b
 a1:SIt ka h i1 l1 n
 a2:SIt kb h i2 l2 n
section
variable {prog:Program} {w:World} {A:Around} {E:Value→Shared→Prop} {s:Shared} {ka kb:Bool} {z TI TO i1 i2 l1 l2:Addr} {n:Nat} {xs ys:Array Value} {x y:Value}
theorem a8J {Q:Value→Shared→Prop} (D:ZipApart z TI TO i1 i2 l1 l2) (Z:ZAt ka kb z TI TO i1 i2 l1 l2 n s.heap) (hl1:SAt ka s.heap l1 xs) (hl2:SAt kb s.heap l2 ys) (hx:xs[n]?=some x) (hy:ys[n]?=some y)
  (hQ:∀ h',IsZip h' z TI TO (rawInt s.heap.objs.size)→IsPair h' TO x y→SIt ka h' i1 l1 (n+1)→SIt kb h' i2 l2 (n+1)→IsPair h' s.heap.objs.size x y →
   (∀ c o,c≠z→c≠TO→c≠i1→c≠i2→s.heap.get? c=some o→h'.get? c=some o)→Q (.ref s.heap.objs.size) { s with heap:=h' }) :
  wpAny (model prog w) A (Builtin.«zip.__next__» ⟨[.ref z],[]⟩) (fun fin s'=>∃ v,fin=.done (.ret v)∧Q v s') E s:=by
 obtain ⟨hz,hTI,⟨a,b,hTO⟩,h1,h2⟩:=Z
 show wpAny _ _ (field (.ref z) 2 >>= _) _ _ _
 refine wpAny_bind (wpAny_field hz rfl (x:=.bool false) rfl ?_)
 show wpAny _ _ (field (.ref z) 3 >>= _) _ _ _
 refine wpAny_bind (wpAny_field hz rfl (x:=.ref TI) rfl (wpAny_bind (wpAny_seqItems hTI rfl ?_)))
 show wpAny _ _ (Builtin.SmallTypes.ownedTupleIsFree (.ref z) >>= _) _ _ _
 refine wpAny_bind ?_
 unfold Builtin.SmallTypes.ownedTupleIsFree
 refine wpAny_bind (wpAny_field hz rfl (x:=.none) rfl (wpAny_pure ?_))
 simp only [if_true]
 refine wpAny_bind (wpAny_rule (wpAny_bind (wpAny_field hz rfl (x:=.ref TO) rfl (wpAny_bind (wpAny_setField_rec hz (by simp) fun g1 z1 b1=>?_)))))
 have z1':IsZip g1 z TI TO .ellipsis:=z1
 have k1:∀ c o,c≠z→s.heap.get? c=some o→g1.get? c=some o:=fun c o hc e=>b1.extBut _ _ hc e
 refine wpAny_bind ?_
 simp only [List.zipIdx_cons,List.zipIdx_nil,List.forIn_cons,List.forIn_nil]
 refine wpAny_bind (wpAny_bind (wpAny_onRaise ?_))
 show wpAny _ _ (Builtin.SmallTypes.nextOf (.ref i1) >>= _) _ _ _
 refine wpAny_bind (a8I (s:={ s with heap:=g1 }) (h1.at fun o e=>k1 _ o D.i1z e) (hl1.at fun o e=>k1 _ o D.l1z e) hx fun g2 h12 b2=>wpAny_pure ?_)
 have k2:∀ c o,c≠z→c≠i1→s.heap.get? c=some o→g2.get? c=some o:=fun c o hc hd e=>b2.extBut _ _ hd (k1 c o hc e)
 have o2:IsPair g2 TO a b:=k2 _ _ D.TOz D.TOi1 hTO
 refine wpAny_bind (wpAny_seqItems o2 rfl (wpAny_bind (wpAny_updateSeq_pair (s:={ s with heap:=g2 }) o2 fun g3 o3 b3=>?_)))
 have o3':IsPair g3 TO x b:=o3
 refine wpAny_bind (wpAny_letGo (wpAny_pure ?_))
 refine wpAny_bind (wpAny_bind (wpAny_onRaise ?_))
 show wpAny _ _ (Builtin.SmallTypes.nextOf (.ref i2) >>= _) _ _ _
 have k3:∀ c o,c≠z→c≠i1→c≠TO→s.heap.get? c=some o→g3.get? c=some o:=fun c o hc hd he e=>b3.extBut _ _ he (k2 c o hc hd e)
 refine wpAny_bind (a8I (s:={ s with heap:=g3 }) (h2.at fun o e=>k3 _ o D.i2z D.i12.symm D.TOi2.symm e) (hl2.at fun o e=>k3 _ o D.l2z D.l2i1 D.l2TO e) hy fun g4 h24 b4=>wpAny_pure ?_)
 have o4:IsPair g4 TO x b:=b4.extBut _ _ D.TOi2 o3'
 refine wpAny_bind (wpAny_seqItems o4 rfl (wpAny_bind (wpAny_updateSeq_pair (s:={ s with heap:=g4 }) o4 fun g5 o5 b5=>?_)))
 have o5':IsPair g5 TO x y:=o5
 refine wpAny_bind (wpAny_letGo (wpAny_pure (wpAny_pure ?_)))
 refine wpAny_bind (wpAny_seqItems o5' rfl (wpAny_bind (wpAny_newTuple ?_)))
 have sz:g5.objs.size=s.heap.objs.size:=by rw [b5.1,b4.1,b3.1,b2.1,b1.1]
 have z5:IsZip g5 z TI TO .ellipsis:=b5.extBut _ _ D.TOz.symm (b4.extBut _ _ D.i2z.symm (b3.extBut _ _ D.TOz.symm (b2.extBut _ _ D.i1z.symm z1')))
 have k5:∀ c o,c≠z→c≠TO→c≠i1→c≠i2→s.heap.get? c=some o→g5.get? c=some o:=fun c o c1 c2 c3 c4 e=>b5.extBut _ _ c2 (b4.extBut _ _ c4 (k3 c o c1 c3 c2 e))
 have h15:SIt ka g5 i1 l1 (n+1):=h12.at fun o e=>b5.extBut _ _ D.TOi1.symm (b4.extBut _ _ D.i12 (b3.extBut _ _ D.TOi1.symm e))
 have h25:SIt kb g5 i2 l2 (n+1):=h24.at fun o e=>b5.extBut _ _ D.TOi2.symm e
 have zl:z < g5.objs.size:=Heap.lt_size z5
 show wpAny _ _ (Builtin.SmallTypes.ownedTupleHandOut (.ref z) (.ref g5.objs.size) >>= _) _ _ _
 refine wpAny_bind ?_
 unfold Builtin.SmallTypes.ownedTupleHandOut
 have z6:IsZip (g5.push { cls:=.type "tuple",data:=.seq #[x,y] }) z TI TO .ellipsis:=Heap.get?_push_of_some _ z5
 refine wpAny_bind (wpAny_setField_rec z6 (by simp) fun g7 z7 b7=>?_)
 replace z7:IsZip g7 z TI TO (rawInt g5.objs.size):=z7
 refine wpAny_setField_rec z7 (by simp) fun g8 z8 b8=>?_
 replace z8:IsZip g8 z TI TO (rawInt g5.objs.size):=z8
 have up:∀ c o,c≠z→g5.get? c=some o→g8.get? c=some o:=fun c o c1 e=>b8.extBut _ _ c1 (b7.extBut _ _ c1 (Heap.get?_push_of_some _ e))
 have p8:IsPair g8 g5.objs.size x y:=b8.extBut _ _ (Nat.ne_of_gt zl) (b7.extBut _ _ (Nat.ne_of_gt zl) (Heap.get?_push_size _ rfl))
 rw [sz] at z8 p8
 refine wpAny_pure ⟨_,rfl,?_⟩
 show Q (.ref g5.objs.size) _
 rw [sz]
 exact hQ g8 z8 (up _ _ D.TOz o5') (h15.at fun o e=>up _ o D.i1z e) (h25.at fun o e=>up _ o D.i2z e) p8 fun c o c1 c2 c3 c4 e=>up c o c1 (k5 c o c1 c2 c3 c4 e)
theorem b0s {Q:Fin→Shared→Prop} (hh:A.handled=none) (D:ZipApart z TI TO i1 i2 l1 l2) (Z:ZAt ka kb z TI TO i1 i2 l1 l2 n s.heap) (hl1:SAt ka s.heap l1 xs) (hl2:SAt kb s.heap l2 ys) (hend:xs[n]?=none∨ys[n]?=none)
  (hE:∀ h' e,(∀ c o,c≠z→c≠TO→c≠i1→c≠i2→s.heap.get? c=some o→h'.get? c=some o)→(∃ o,h'.get? e=some o∧o.cls=.type "StopIteration")→E (.ref e) { s with heap:=h' }) :
  wpAny (model prog w) A (Builtin.«zip.__next__» ⟨[.ref z],[]⟩) Q E s:=by
 obtain ⟨hz,hTI,⟨a,b,hTO⟩,h1,h2⟩:=Z
 show wpAny _ _ (field (.ref z) 2 >>= _) _ _ _
 refine wpAny_bind (wpAny_field hz rfl (x:=.bool false) rfl ?_)
 show wpAny _ _ (field (.ref z) 3 >>= _) _ _ _
 refine wpAny_bind (wpAny_field hz rfl (x:=.ref TI) rfl (wpAny_bind (wpAny_seqItems hTI rfl ?_)))
 show wpAny _ _ (Builtin.SmallTypes.ownedTupleIsFree (.ref z) >>= _) _ _ _
 refine wpAny_bind ?_
 unfold Builtin.SmallTypes.ownedTupleIsFree
 refine wpAny_bind (wpAny_field hz rfl (x:=.none) rfl (wpAny_pure ?_))
 simp only [if_true]
 refine wpAny_bind (wpAny_rule (wpAny_bind (wpAny_field hz rfl (x:=.ref TO) rfl (wpAny_bind (wpAny_setField_rec hz (by simp) fun g1 z1 b1=>?_)))))
 have z1':IsZip g1 z TI TO .ellipsis:=z1
 have k1:∀ c o,c≠z→s.heap.get? c=some o→g1.get? c=some o:=fun c o hc e=>b1.extBut _ _ hc e
 refine wpAny_bind ?_
 simp only [List.zipIdx_cons,List.zipIdx_nil,List.forIn_cons,List.forIn_nil]
 refine wpAny_bind (wpAny_bind (wpAny_onRaise ?_))
 show wpAny _ _ (Builtin.SmallTypes.nextOf (.ref i1) >>= _) _ _ _
 cases hx:xs[n]? with
 | none =>
  refine wpAny_bind (endS (s:={ s with heap:=g1 }) hh (h1.at fun o e=>k1 _ o D.i1z e) (hl1.at fun o e=>k1 _ o D.l1z e) hx fun g2 e b2 ⟨oe,he,ce⟩=>?_)
  have z2:IsZip g2 z TI TO .ellipsis:=b2 _ _ D.i1z.symm z1'
  have ez:e≠z:=fun q=>by subst q;rw [z2] at he;cases he;simp at ce
  exact wpAny_setField_rec z2 (by simp) fun g3 _ b3=>hE g3 e (fun c o c1 _ c3 _ q=>b3.extBut _ _ c1 (b2 _ _ c3 (k1 c o c1 q))) ⟨oe,b3.extBut _ _ ez he,ce⟩
 | some x =>
  have hy:ys[n]?=none:=hend.resolve_left fun q=>by rw [hx] at q;cases q
  refine wpAny_bind (a8I (s:={ s with heap:=g1 }) (h1.at fun o e=>k1 _ o D.i1z e) (hl1.at fun o e=>k1 _ o D.l1z e) hx fun g2 h12 b2=>wpAny_pure ?_)
  have k2:∀ c o,c≠z→c≠i1→s.heap.get? c=some o→g2.get? c=some o:=fun c o hc hd e=>b2.extBut _ _ hd (k1 c o hc e)
  have o2:IsPair g2 TO a b:=k2 _ _ D.TOz D.TOi1 hTO
  refine wpAny_bind (wpAny_seqItems o2 rfl (wpAny_bind (wpAny_updateSeq_pair (s:={ s with heap:=g2 }) o2 fun g3 o3 b3=>?_)))
  refine wpAny_bind (wpAny_letGo (wpAny_pure ?_))
  refine wpAny_bind (wpAny_bind (wpAny_onRaise ?_))
  show wpAny _ _ (Builtin.SmallTypes.nextOf (.ref i2) >>= _) _ _ _
  have k3:∀ c o,c≠z→c≠i1→c≠TO→s.heap.get? c=some o→g3.get? c=some o:=fun c o hc hd he e=>b3.extBut _ _ he (k2 c o hc hd e)
  refine wpAny_bind (endS (s:={ s with heap:=g3 }) hh (h2.at fun o e=>k3 _ o D.i2z D.i12.symm D.TOi2.symm e) (hl2.at fun o e=>k3 _ o D.l2z D.l2i1 D.l2TO e) hy fun g4 e b4 ⟨oe,he,ce⟩=>?_)
  have z4:IsZip g4 z TI TO .ellipsis:=b4 _ _ D.i2z.symm (b3.extBut _ _ D.TOz.symm (b2.extBut _ _ D.i1z.symm z1'))
  have ez:e≠z:=fun q=>by subst q;rw [z4] at he;cases he;simp at ce
  exact wpAny_setField_rec z4 (by simp) fun g5 _ b5=>hE g5 e (fun c o c1 c2 c3 c4 q=>b5.extBut _ _ c1 (b4 _ _ c4 (k3 c o c1 c3 c2 q))) ⟨oe,b5.extBut _ _ ez he,ce⟩
theorem a8K {Q:Option Value→Shared→Prop} (D:ZipApart z TI TO i1 i2 l1 l2) (Z:ZAt ka kb z TI TO i1 i2 l1 l2 n s.heap) (hl1:SAt ka s.heap l1 xs) (hl2:SAt kb s.heap l2 ys) (hx:xs[n]?=some x) (hy:ys[n]?=some y)
  (hQ:∀ h',IsZip h' z TI TO (rawInt s.heap.objs.size)→IsPair h' TO x y→SIt ka h' i1 l1 (n+1)→SIt kb h' i2 l2 (n+1)→IsPair h' s.heap.objs.size x y →
   (∀ c o,c≠z→c≠TO→c≠i1→c≠i2→s.heap.get? c=some o→h'.get? c=some o)→Q (some (.ref s.heap.objs.size)) { s with heap:=h' }):wpAny (model prog w) A (pyNext (.ref z)) Q E s:=by
 have hT:s.TypeIs (.ref z) "zip":=⟨_,Z.zp,rfl⟩
 unfold pyNext
 exact wpAny_bind (wpAny_attempt (wpAny_callSpecial?_slot (name:=Str.ofString "__next__") hT F.slot_zip_next (wpAny_call_entry F.slot_zip_next hT F.entry_zip_next
  (a8J D Z hl1 hl2 hx hy fun h' a1 a2 a3 a4 a5 a7=>wpAny_pure (hQ h' a1 a2 a3 a4 a5 a7)) (F.args_zip_next_1 _))))
theorem a8L {Q:Option Value→Shared→Prop} (hh:A.handled=none) (D:ZipApart z TI TO i1 i2 l1 l2) (Z:ZAt ka kb z TI TO i1 i2 l1 l2 n s.heap) (hl1:SAt ka s.heap l1 xs) (hl2:SAt kb s.heap l2 ys) (hend:xs[n]?=none∨ys[n]?=none)
  (hQ:∀ h',(∀ c o,c≠z→c≠TO→c≠i1→c≠i2→s.heap.get? c=some o→h'.get? c=some o)→Q none { s with heap:=h' }):wpAny (model prog w) A (pyNext (.ref z)) Q E s:=by
 have hT:s.TypeIs (.ref z) "zip":=⟨_,Z.zp,rfl⟩
 unfold pyNext
 refine wpAny_bind (wpAny_attempt (wpAny_callSpecial?_slot (name:=Str.ofString "__next__") hT F.slot_zip_next (wpAny_call_entry F.slot_zip_next hT F.entry_zip_next (b0s hh D Z hl1 hl2 hend fun h' e hk he=>?_) (F.args_zip_next_1 _))))
 obtain ⟨o,ho,hc⟩:=he
 exact wpAny_bind (wpAny_isInstance (T:="StopIteration") (b:=true) ⟨o,ho,hc⟩ isSubtype_stop (wpAny_pure (hQ _ hk)))
end
def SqK (K:PySem.W.Frag):Bool→Hp→Addr→List V→Prop
 | true,H,a,xs=>SqT K H a xs
 | false,H,a,xs=>SqL K H a xs
theorem a7T {X:Cx} {pins:List (Addr × Obj)} {σ:St} {H:Hp} {s:Shared} {k:Bool} {a:Addr} {xs:List V} (I:Inv X pins σ H s) (h:SqK X.K k H a xs):∃ us,a0D xs us∧SAt k s.heap a us.toArray:=by
 cases k with
 | true =>
  obtain ⟨its,rv,p,hz⟩:=I.tuple h
  exact ⟨its,rv,p⟩
 | false =>
  obtain ⟨its,rv,p,hz⟩:=I.list h
  exact ⟨its,rv,p.isList⟩
theorem a3Q {X:Cx} {pins:List (Addr × Obj)} {σ:St} {H:Hp} {s:Shared} {k:Bool} {a:Addr} {xs ys:List V} (I:Inv X pins σ H s) (h:SqK X.K k H a xs) (h2:SqK X.K k H a ys):xs=ys:=by
 cases k with
 | true=>exact I.tuple_inj h h2
 | false=>exact I.list_inj h h2
theorem Inv.turnedL {X:Cx} {pins:List (Addr × Obj)} {σ:St} {H:Hp} {s:Shared} {h':Heap} {t':Nat} {L:List Addr} (I:Inv X pins σ H s) (k:∀ b o,b∉L→s.heap.get? b=some o→h'.get? b=some o) (hf:∀ b∈L,a6Y X pins H b):Inv X pins σ H { s with heap:=h',toks:=t' }:=by
 have nit:∀ b u,H b=some u→b∉L:=fun b u e z=>by rw [(hf b z).1] at e;cases e
 have nl:X.env.locals∉L:=fun z=>(hf _ z).2.1 rfl
 refine I.step (g':=s.gens) (d':=s.drawn) (ch:=L) (fun b hb=>?_) (fun b o _ _ hc e _=>k b o hc e) (fun b o _ _ hc e _=>⟨o.slots,k b o hc e⟩) (fun _ _ _ _ n=>n)
  (fun b o hc e=>⟨o,k b o hc e⟩) (fun _ _ e=>e) (fun _ _ _ e=>e) (fun b ps e=>⟨#[],by rw [e];simp⟩) (fun m hm=>?_) (fun b u e=>?_) I.bare
 ·obtain ⟨f0,f1,f2,f3,f4,f5⟩:=hf b hb
  exact ⟨f3,f1,f4,f5⟩
 ·obtain ⟨o,es,ep,ho,r⟩:=hm
  exact ⟨o,es,ep,k _ o nl ho,r⟩
 ·refine (I.hok b u e).stay (fun c v hc q=>k c v ?_ q) (fun _ q=>q) fun _ _ q=>q
  rcases hc with z | z
  ·rw [z];exact nit b u e
  ·exact nit c _ z
def Itz (K:PySem.W.Frag) (ka kb:Bool) (a b:Addr):It :=
 ⟨fun i H=>∃ xs ys x y,SqK K ka H a xs∧SqK K kb H b ys∧xs[i]?=some x∧ys[i]?=some y,
  fun i H v H'=>∃ p x y,v=.ref p∧H p=none∧(∀ xs,SqK K ka H a xs→xs[i]?=some x)∧(∀ ys,SqK K kb H b ys→ys[i]?=some y)∧H'=upd H p (.tup [x,y]),
  fun i H=>∃ xs ys,SqK K ka H a xs∧SqK K kb H b ys∧(xs.length≤i∨ys.length≤i)⟩
theorem ZAt.obj {ka kb:Bool} {z TI TO i1 i2 l1 l2:Addr} {n:Nat} {h:Heap} (Z:ZAt ka kb z TI TO i1 i2 l1 l2 n h):∀ b∈[z,TI,TO,i1,i2],∃ o,h.get? b=some o∧∀ v,o.data≠.cell v:=fun b hb=>by
 obtain ⟨hz,hTI,⟨x,y,hTO⟩,h1,h2⟩:=Z
 simp only [List.mem_cons,List.not_mem_nil,or_false] at hb
 rcases hb with rfl | rfl | rfl | rfl | rfl
 ·exact ⟨_,hz,fun v z=>by cases z⟩
 ·exact ⟨_,hTI,fun v z=>by cases z⟩
 ·exact ⟨_,hTO,fun v z=>by cases z⟩
 ·exact h1.obj
 ·exact h2.obj
theorem b0t {P:Program} {w:World} {K:PySem.W.Frag} {elts:List Expr} {x1} {pos:Pos} {ka kb:Bool} {z TI TO i1 i2 a b:Addr} (D:ZipApart z TI TO i1 i2 a b):b3p P w K (.Tuple elts x1 pos) (Itz K ka kb a b) [z,TI,TO,i1,i2] z (fun n h=>ZAt ka kb z TI TO i1 i2 a b n h) where
 mem:=by simp
 obj:=fun i h st=>st.obj
 keep:=fun i h h' ⟨hz,hTI,⟨x,y,hTO⟩,h1,h2⟩ k=>⟨k z (by simp) _ hz,k TI (by simp) _ hTI,⟨x,y,k TO (by simp) _ hTO⟩,h1.at fun o e=>k i1 (by simp) o e,h2.at fun o e=>k i2 (by simp) o e⟩
 item:=by
  intro X hP hw hK hc i pins s σ H E I hf st hg
  subst hP hw hK
  obtain ⟨xs,ys,x,y,q1,q2,hx,hy⟩:=hg
  obtain ⟨us,r1,p1⟩:=a7T I q1
  obtain ⟨vs,r2,p2⟩:=a7T I q2
  obtain ⟨u,hu,ru⟩:=r1.get hx
  obtain ⟨v,hv,rv⟩:=r2.get hy
  have lt:∀ b∈[z,TI,TO,i1,i2],b < s.heap.objs.size:=fun b hb=>by
   obtain ⟨o,ho,_⟩:=st.obj b hb
   exact Heap.lt_size ho
  refine a8K D st p1 p2 (x:=u) (y:=v) (by simpa using hu) (by simpa using hv) fun h' z1 o1 a1 a2 pr kk=>?_
  refine ⟨_,rfl,wpAny_letOwnedTupleGo_zip (s:={ s with heap:=h' }) z1 fun h2 z2 b2=>?_⟩
  have hT:H s.heap.objs.size=none:=I.hok.fresh (Nat.le_refl _)
  have I1:Inv X pins σ (upd H s.heap.objs.size (.tup [x,y])) { s with heap:=s.heap.push { cls:=.type "tuple",data:=.seq #[u,v] } }:=I.laid (t':=s.toks) (fun b u e=>Heap.get?_push_of_some _ e) (Nat.le_refl _) ⟨by show 2≤sizeLine;decide,[u,v],.cons ru (.cons rv .nil),⟨_,Heap.get?_push_size _ rfl,_,rfl⟩⟩
  have Tz:s.heap.objs.size≠z:=Nat.ne_of_gt (lt z (by simp))
  have fp:∀ b∈[z,TI,TO,i1,i2],a6Y X pins (upd H s.heap.objs.size (.tup [x,y])) b:=fun b hb=>by
   obtain ⟨f0,f1,f2,f3,f4,f5⟩:=hf b hb
   exact ⟨by rw [a0l (Nat.ne_of_lt (lt b hb))];exact f0,f1,f2,f3,f4,f5⟩
  have I2:=I1.turnedL (h':=h2) (t':=s.toks) (fun c o hc e=>by
   simp only [List.mem_cons,List.not_mem_nil,or_false,not_or] at hc
   by_cases zc:c=s.heap.objs.size
   ·subst zc
    rw [Heap.get?_push_size _ rfl] at e
    cases e
    exact b2.extBut _ _ Tz pr
   ·have e':s.heap.get? c=some o:=by rw [←e];exact (Heap.get?_push_ne _ _ _ zc).symm
    exact b2.extBut _ _ hc.1 (kk c o hc.1 hc.2.2.1 hc.2.2.2.1 hc.2.2.2.2 e')) fp
  refine ⟨.ref s.heap.objs.size,_,I2,rfl,⟨_,x,y,rfl,hT,fun zs hz=>?_,fun zs hz=>?_,rfl⟩,⟨z2,b2.extBut _ _ D.TIz (kk _ _ D.TIz D.TITO D.TIi1 D.TIi2 st.ti),⟨u,v,b2.extBut _ _ D.TOz o1⟩,a1.at fun o e=>b2.extBut _ _ D.i1z e,a2.at fun o e=>b2.extBut _ _ D.i2z e⟩,fun b hb=>(fp b hb).1⟩
  ·rw [a3Q I hz q1];exact hx
  ·rw [a3Q I hz q2];exact hy
 done:=by
  intro X hP hw hK hc i pins s σ H E I hf st hg
  subst hP hw hK
  obtain ⟨xs,ys,q1,q2,hl⟩:=hg
  obtain ⟨us,r1,p1⟩:=a7T I q1
  obtain ⟨vs,r2,p2⟩:=a7T I q2
  have e1:=r1.length
  have e2:=r2.length
  refine a8L (I.ok.hd hc) D st p1 p2 (hl.elim (fun q=>.inl (by simp;omega)) fun q=>.inr (by simp;omega)) fun h' kk=>⟨rfl,I.turnedL (t':=s.toks) (fun c o hc e=>?_) hf⟩
  simp only [List.mem_cons,List.not_mem_nil,or_false,not_or] at hc
  exact kk c o hc.1 hc.2.2.1 hc.2.2.2.1 hc.2.2.2.2 e
 self:=fun _ _ _ _ _ st h=>wpAny_pyIter_zip st.zp h
def itO (k:Bool) (l:Addr):Obj:=match k with
 | true=>{ cls:=.type "tuple_iterator",data:=.fields #[.ref l,.int 0 0] }
 | false=>{ cls:=.type "list_iterator",data:=.fields #[.ref l,.int 0 0] }
theorem a8M {prog:Program} {w:World} {A:Around} {E:Value→Shared→Prop} {s:Shared} {k:Bool} {l:Addr} {xs:Array Value} {Q:Value→Shared→Prop} (h:SAt k s.heap l xs) (hQ:Q (.ref s.heap.objs.size) { s with heap:=s.heap.push (itO k l) }) :
  wpAny (model prog w) A (pyIter (.ref l)) Q E s:=by
 cases k with
 | true=>exact wpAny_pyIter_tuple h hQ
 | false=>exact wpAny_pyIter_list h hQ
theorem a3R {k:Bool} {l:Addr}:(itO k l).isFreed=false:=by cases k <;> rfl
theorem SIt.new {k:Bool} {l i:Addr} {h:Heap} (e:h.get? i=some (itO k l)):SIt k h i l 0:=by
 cases k with
 | true=>exact ⟨_,e,rfl,rfl⟩
 | false=>exact ⟨_,e,rfl,rfl⟩
def b0u (h:Heap) (ka kb:Bool) (l1 l2:Addr):Heap:=((((h.push (itO ka l1)).push (itO kb l2)).push { cls:=.type "tuple",data:=.seq #[.ref h.objs.size,.ref (h.push (itO ka l1)).objs.size] }).push { cls:=.type "tuple",data:=.seq #[.none,.none] }).push
 { cls:=.type "zip",data:=.fields #[.none,.bool false,.bool false,.ref ((h.push (itO ka l1)).push (itO kb l2)).objs.size,.ref (((h.push (itO ka l1)).push (itO kb l2)).push { cls:=.type "tuple",data:=.seq #[.ref h.objs.size,.ref (h.push (itO ka l1)).objs.size] }).objs.size] }
theorem meetsS (ka kb:Bool) (l1 l2:Addr) (xs ys:Array Value) :
  Meets (Builtin.«zip.__new__» ⟨[.type "zip",.ref l1,.ref l2],[]⟩) (fun _ R s=>SAt ka s.heap l1 xs∧SAt kb s.heap l2 ys∧R (.ok (.ret (.ref (s.heap.objs.size+4)))) { s with heap:=b0u s.heap ka kb l1 l2 }) :=
 .of_wp fun prog w A R s h=>by
  obtain ⟨hp,g,d,tk,os⟩:=s
  obtain ⟨hl1,hl2,h⟩:=h
  have hsub:=sub_zip
  have hL1:SAt ka (Shared.heap ⟨hp,g,d,tk,os⟩) l1 xs:=hl1
  have hL2:SAt kb (Shared.heap ⟨hp.push (itO ka l1),g,d,tk,os⟩) l2 ys:=hl2.at fun o e=>Heap.get?_push_of_some _ e
  wp_walk using a8M hL1,a8M hL2
  refine ⟨_,rfl,?_⟩
  have z:((((hp.push (itO ka l1)).push (itO kb l2)).push { cls:=.type "tuple",data:=.seq #[.ref hp.objs.size,.ref (hp.push (itO ka l1)).objs.size] }).push { cls:=.type "tuple",data:=.seq #[.none,.none] }).objs.size=hp.objs.size+4:=by
   rw [Heap.size_push,Heap.size_push,Heap.size_push,Heap.size_push]
  rw [←z] at h
  exact h
theorem callS {prog:Program} {w:World} {A:Around} {E:Value→Shared→Prop} {s:Shared} {ka kb:Bool} {l1 l2:Addr} {xs ys:Array Value} {Q:Value→Shared→Prop} (h1:SAt ka s.heap l1 xs) (h2:SAt kb s.heap l2 ys)
  (h:∀ h',ZAt ka kb (s.heap.objs.size+4) (s.heap.objs.size+2) (s.heap.objs.size+3) s.heap.objs.size (s.heap.objs.size+1) l1 l2 0 h'→(∀ c o,s.heap.get? c=some o→h'.get? c=some o)→Q (.ref (s.heap.objs.size+4)) { s with heap:=h' }) :
  wpAny (model prog w) A (call (.type "zip") [.ref l1,.ref l2]) Q E s:=by
 refine callType_new F.called_zip (by decide) (F.typeCall_zip_2 _ _) (F.newCall_zip_2 _ _) (fun obj=>F.args_object_init_3 obj _ _) F.entry_zip_new (meetsS ka kb l1 l2 xs ys) ⟨h1,h2,?_⟩
 have kp:∀ c o,s.heap.get? c=some o→(b0u s.heap ka kb l1 l2).get? c=some o:=fun c o x=>Heap.get?_push_of_some _ (Heap.get?_push_of_some _ (Heap.get?_push_of_some _ (Heap.get?_push_of_some _ (Heap.get?_push_of_some _ x))))
 have z1:(s.heap.push (itO ka l1)).objs.size=s.heap.objs.size+1:=Heap.size_push ..
 have z2:((s.heap.push (itO ka l1)).push (itO kb l2)).objs.size=s.heap.objs.size+2:=by rw [Heap.size_push,z1]
 have z3:(((s.heap.push (itO ka l1)).push (itO kb l2)).push { cls:=.type "tuple",data:=.seq #[.ref s.heap.objs.size,.ref (s.heap.push (itO ka l1)).objs.size] }).objs.size=s.heap.objs.size+3:=by rw [Heap.size_push,z2]
 have z4:((((s.heap.push (itO ka l1)).push (itO kb l2)).push { cls:=.type "tuple",data:=.seq #[.ref s.heap.objs.size,.ref (s.heap.push (itO ka l1)).objs.size] }).push { cls:=.type "tuple",data:=.seq #[.none,.none] }).objs.size=s.heap.objs.size+4:=by rw [Heap.size_push,z3]
 have g1:(b0u s.heap ka kb l1 l2).get? s.heap.objs.size=some (itO ka l1):=Heap.get?_push_of_some _ (Heap.get?_push_of_some _ (Heap.get?_push_of_some _ (Heap.get?_push_of_some _ (Heap.get?_push_size _ a3R))))
 have g2:(b0u s.heap ka kb l1 l2).get? (s.heap.objs.size+1)=some (itO kb l2):=by rw [←z1];exact Heap.get?_push_of_some _ (Heap.get?_push_of_some _ (Heap.get?_push_of_some _ (Heap.get?_push_size _ a3R)))
 have g3:(b0u s.heap ka kb l1 l2).get? (s.heap.objs.size+2)=some { cls:=.type "tuple",data:=.seq #[.ref s.heap.objs.size,.ref (s.heap.objs.size+1)] }:=by
  rw [←z2]
  have q:(b0u s.heap ka kb l1 l2).get? ((s.heap.push (itO ka l1)).push (itO kb l2)).objs.size=some { cls:=.type "tuple",data:=.seq #[.ref s.heap.objs.size,.ref (s.heap.push (itO ka l1)).objs.size] }:=Heap.get?_push_of_some _ (Heap.get?_push_of_some _ (Heap.get?_push_size _ rfl))
  rw [z1] at q
  exact q
 have g4:(b0u s.heap ka kb l1 l2).get? (s.heap.objs.size+3)=some { cls:=.type "tuple",data:=.seq #[.none,.none] }:=by rw [←z3];exact Heap.get?_push_of_some _ (Heap.get?_push_size _ rfl)
 have g5:(b0u s.heap ka kb l1 l2).get? (s.heap.objs.size+4)=some { cls:=.type "zip",data:=.fields #[.none,.bool false,.bool false,.ref (s.heap.objs.size+2),.ref (s.heap.objs.size+3)] }:=by
  rw [←z4]
  have q:(b0u s.heap ka kb l1 l2).get? ((((s.heap.push (itO ka l1)).push (itO kb l2)).push { cls:=.type "tuple",data:=.seq #[.ref s.heap.objs.size,.ref (s.heap.push (itO ka l1)).objs.size] }).push { cls:=.type "tuple",data:=.seq #[.none,.none] }).objs.size=some { cls:=.type "zip",data:=.fields #[.none,.bool false,.bool false,.ref ((s.heap.push (itO ka l1)).push (itO kb l2)).objs.size,.ref (((s.heap.push (itO ka l1)).push (itO kb l2)).push { cls:=.type "tuple",data:=.seq #[.ref s.heap.objs.size,.ref (s.heap.push (itO ka l1)).objs.size] }).objs.size] }:=Heap.get?_push_size _ rfl
  rw [z2,z3] at q
  exact q
 show _∧_
 exact ⟨⟨_,g5,rfl⟩,h _ ⟨g5,g3,⟨_,_,g4⟩,.new g1,.new g2⟩ kp⟩
theorem b_zip:bootBuiltins "zip"=some (.type "zip"):=by decide +kernel
def iZip (K:PySem.W.Frag) (ka kb:Bool) (ta:TA):TI:=fun σ H R=>ta σ H fun vs H1=>∃ a b xs ys,vs=[.ref a,.ref b]∧SqK K ka H1 a xs∧SqK K kb H1 b ys∧R (Itz K ka kb a b) H1
theorem pi_zip {X:Cx} {elts:List Expr} {x1} {tp:Pos} {a b:Expr} {ta:TA} {p pos:Pos} (ka kb:Bool) (hg:Gl X "zip") (hm:X.mg "zip"=none) (ha:PA X [a,b] ta) (hs:starEach [a,b] X.env=[(false,eval a X.env),(false,eval b X.env)]:=by rfl) (hs2:starEach [b] X.env=[(false,eval b X.env)]:=by rfl) :
  PI X (.Tuple elts x1 tp) (.Call (.Name "zip" p) [a,b] [] pos) (iZip X.K ka kb ta):=by
 intro pins s σ H R I h
 refine Call_ (a1t I hg hm b_zip (PyProof.Rows.callWith_type1 (thn (ha pos pins s σ H _ I h) fun us s1 ⟨vs,H1,I1,r1,q1⟩=>?_) (by rw [hs,hs2]) (by rw [hs2];rfl)))
 obtain ⟨a',b',xs,ys,e,q1,q2,q⟩:=q1
 subst e
 obtain ⟨u,v,rfl,r1,r2⟩:=r1.two
 cases r1
 cases r2
 obtain ⟨us,e1,p1⟩:=a7T I1 q1
 obtain ⟨vs,e2,p2⟩:=a7T I1 q2
 have lt:∀ {k:Bool} {l:Addr} {zs:Array Value},SAt k s1.heap l zs→l < s1.heap.objs.size:=fun {k l zs} x=>by
  cases k with
  | true=>obtain ⟨o,ho,_⟩:=x;exact Heap.lt_size ho
  | false=>obtain ⟨o,ho,_⟩:=x;exact Heap.lt_size ho
 have t1:=lt p1
 have t2:=lt p2
 refine callS p1 p2 fun h' Z kp=>wpAny_pyIter_zip (s:={ s1 with heap:=h' }) Z.zp ?_
 have D:ZipApart (s1.heap.objs.size+4) (s1.heap.objs.size+2) (s1.heap.objs.size+3) s1.heap.objs.size (s1.heap.objs.size+1) a' b':=by
  have t1':@LT.lt Nat _ a' s1.heap.objs.size:=t1
  have t2':@LT.lt Nat _ b' s1.heap.objs.size:=t2
  constructor <;> (show ¬ (@Eq Nat _ _);omega)
 refine ⟨_,[s1.heap.objs.size+4,s1.heap.objs.size+2,s1.heap.objs.size+3,s1.heap.objs.size,s1.heap.objs.size+1],_,_,H1,rfl,I1.kept (t':=s1.toks) kp,b0t D,Z,fun c hc=>?_,q⟩
 have ge:s1.heap.objs.size≤c:=by
  simp only [List.mem_cons,List.not_mem_nil,or_false] at hc
  rcases hc with rfl | rfl | rfl | rfl | rfl <;> omega
 exact I1.fpOk ge (I1.hok.fresh ge)
section
variable {M:Model} {A:Around} {E:Value→Shared→Prop} {s:Shared} {env:Env} {outer:List Env} {base:Heap} {L e T:Addr} {cls fl:Value} {od:Option Addr} {Q:Unit→Shared→Prop}
theorem b0v (hfr:A.frames=some (env :: outer)) (hl:s.heap.FunFrames base (env :: outer)) (hf:env.frame=some L) (x:a1A s.heap e cls od (.ref T)) (t:a5u s.heap T fl) (hT:T≠e)
  (h:∀ h' T',Mv [T,e] (frs (env :: outer)) s.heap h'→(T'=T∨s.heap.objs.size≤T')→T'≠e→a1A h' e cls od (.ref T')→a5u h' T' (rawInt L)→Q () { s with heap:=h' }):wpAny M A (noteFrame (.ref e) env) Q E s:=by
 unfold noteFrame
 simp only [hf]
 obtain ⟨oe,vs,he,hc,hdd,hd1,h1⟩:=id x
 obtain ⟨oT,ts,hTT,hdT,h3⟩:=id t
 refine wpAny_bind (wpAny_field he hd1 h1 ?_)
 rw [if_pos (show (Value.ref T != Value.none)=true from by simp)]
 refine wpAny_bind (wpAny_field hTT hdT h3 ?_)
 by_cases hz:fl=rawInt L
 ·subst hz
  rw [if_pos (by simp)]
  exact wpAny_pure (h s.heap T Mv.refl (.inl rfl) hT x t)
 ·rw [if_neg (by simpa using hz)]
  refine wpAny_bind (a6i t fun g m1 t1 k1=>?_)
  have hSf:∀ b∈[T,e],∀ o,s.heap.get? b=some o→∃ vs,o.data=.fields vs:=fun b hb o ho=>by
   rcases List.mem_cons.mp hb with hb | hb
   ·rw [hb,hTT] at ho;cases ho;exact ⟨ts,hdT⟩
   ·rw [List.mem_singleton.mp hb,he] at ho;cases ho;exact ⟨vs,hd1⟩
  have m2:Mv [T,e] (frs (env :: outer)) s.heap g:=fun b o hb hn=>by
   have hbT:b≠T:=fun z=>hn (by rw [z];exact List.mem_cons_self)
   have q:=(k1 b hbT).trans hb
   exact ⟨fun _=>q,o.slots,q⟩
  refine a2R (s:={ s with heap:=g }) hfr (m2.frames hl hSf) hf (x.other (k1 e (Ne.symm hT))) fun h' T' m hs hT' x' t'=>?_
  exact h h' T' (m2.trans (m.mono fun b hb=>by rw [List.mem_singleton.mp hb];exact List.mem_cons_of_mem _ List.mem_cons_self)) (.inr (by rw [←m1];exact hs)) hT' x' t'
theorem a7p {fr:Option Addr} (x:a1A s.heap e cls od (.ref T)) (t:a5u s.heap T fl) (hTe:T≠e) (h:∀ h' fl',h'.objs.size=s.heap.objs.size→a1A h' e cls od (.ref T)→a5u h' T fl'→(∀ b,b≠T→h'.get? b=s.heap.get? b)→Q () { s with heap:=h' }) :
  wpAny M A (setFlight (.ref e) fr) Q E s:=by
 obtain ⟨oe,vs,he,hc,hdd,hd1,h1⟩:=id x
 unfold setFlight
 refine wpAny_bind (wpAny_field he hd1 h1 ?_)
 rw [if_pos (show (Value.ref T != Value.none)=true from by simp)]
 exact a6i t fun g m1 t1 k1=>h g _ m1 (x.other (k1 e (Ne.symm hTe))) t1 k1
end
def a8N (X:Cx) (E:XK):Prop:=∀ (pins:List (Addr × Obj)) (σ:St) (H:Hp) (s:Shared) (ea T:Addr) (cls fl:Value) (od:Option Addr),Inv X pins σ H s→a1A s.heap ea cls od (.ref T)→a5u s.heap T fl→T≠ea →
 (∀ b∈[T,ea],Off X pins b∧H b=none)→E cls od H→X.xe (.ref ea) s
section
variable {P:Program} {w:World} {K:PySem.W.Frag} {mg:Str→Option Value} {base:Heap} {N:List Str} {qual:Str} {scope:Scope} {f:Addr} {cd:Value} {A:Around} {outer:List Env} {s₀:Shared} {H₀:Hp} {E:XK}
theorem a7q:a8N (a7R (CXF P w) P w K mg base N qual scope f cd A outer s₀ H₀ E) E:=by
 intro pins σ H s ea T cls fl od I x t hT hS q
 show wpAny _ _ (leaving _ (.ref ea)) _ _ s
 unfold leaving
 refine wpAny_bind (b0v I.ok.frames I.stack rfl x t hT fun h1 T' m1 hs1 hT1 x1 t1=>?_)
 refine a4G (s:={ s with heap:=h1 }) x1 t1 hT1 fun h2 sz2 x2 t2 k2=>?_
 have out:∀ b,Off (a7R (CXF P w) P w K mg base N qual scope f cd A outer s₀ H₀ E) pins b→s₀.heap.get? b=none:=fun b ob=>by
  cases e:s₀.heap.get? b with
  | none=>rfl
  | some o=>exact absurd (ob.1 o e) (by show b∉([]:List Addr);simp)
 have oT:Off (a7R (CXF P w) P w K mg base N qual scope f cd A outer s₀ H₀ E) pins T'∧H T'=none:=by
  rcases hs1 with rfl | hs1
  ·exact hS _ List.mem_cons_self
  ·exact ⟨I.off (Heap.get?_none_of_le hs1),I.hok.fresh hs1⟩
 have oE:=hS ea (List.mem_cons_of_mem _ List.mem_cons_self)
 have I1:Inv _ pins σ H { s with heap:=h1,toks:=s.toks }:=I.moved (S:=[T,ea]) m1 hS
 have I2:Inv _ pins σ H { s with heap:=h2,toks:=s.toks }:=I1.moved (S:=[T']) (fun b o hb hn=>by
  have hbT:b≠T':=fun z=>hn (by rw [z];exact List.mem_cons_self)
  have z:=(k2 b hbT).trans hb
  exact ⟨fun _=>z,o.slots,z⟩) fun b hb=>by rw [List.mem_singleton.mp hb];exact oT
 refine ⟨ea,cls,od,[T',ea],H,rfl,I2.os,I2.bare,I2.base,I2.hok,a6j x2 t2 hT1,fun b hb=>?_,q⟩
 rcases List.mem_cons.mp hb with rfl | hb
 ·exact ⟨out _ oT.1,oT.2⟩
 ·rw [List.mem_singleton.mp hb]
  exact ⟨out _ oE.1,oE.2⟩
end
theorem a5x {X:Cx} {E:XK} {scope:Scope} {cl:List (Str × Addr)} {C:Addr} {s0:Shared} {H0:Hp} {fp:List Addr} {N:List Str} {pins:List (Addr × Obj)} {σ:St} (bk:b3q X (cxC X scope cl C s0 H0 fp N) pins σ fp C s0 H0) (hfrm:X.stack=X.env :: X.outer∧X.env.frame=some X.env.locals) (hx:a8N X E) :
  a2u (CXF X.prog X.w) (cxC X scope cl C s0 H0 fp N) E:=by
 intro pins' σ' H s e s' I h
 obtain ⟨ea,cls,od,S,H',rfl,os,bare,un,hok,lo,hS,q⟩:=h
 have I1:=I.call' (ch:=[]) os un hok bare (fun b z=>absurd z (by simp))
 have X1:=(bk.inv _ _ _ _ I1).1
 show notedBy (model X.prog X.w) X.A (compEnvC scope cl C X.env) (fun e s'=>compPost (model X.prog X.w) X.A X.xe none (fun _ _=>False) Value.none C (.error e) s') (.ref ea) s'
 show wpAny (model X.prog X.w) X.A (noteFrame (.ref ea) X.env) _ _ s'
 have st:=X1.stack
 rw [hfrm.1] at st
 have hfr:=bk.i0.ok.frames
 rw [hfrm.1] at hfr
 refine a8F hfr st hfrm.2 lo fun h3 T m3 hs3 hT x3 t3=>?_
 rw [←hfrm.1] at m3
 have offS:∀ b,s.heap.get? b=none→Off X pins b:=fun b hb=>by
  by_cases hf:b∈fp
  ·obtain ⟨f1,f2,f3,f4⟩:=bk.fp b hf
   refine ⟨fun o ho=>f1.elim id fun z=>?_,f2,f3,f4⟩
   exact absurd (Nat.lt_of_lt_of_le (Heap.lt_size ho) z) (Nat.lt_irrefl _)
  ·refine bk.i0.off (b:=b) ?_
   cases e:s0.heap.get? b with
   | none=>rfl
   | some o=>exact absurd ((I.off hb).1 o e) hf
 have I3:Inv _ pins' σ' H' { s' with heap:=h3,toks:=s'.toks }:=I1.moved (S:=S) m3 fun b hb=>⟨I.off (hS b hb).1,(hS b hb).2⟩
 obtain ⟨X3,gn⟩:=bk.inv _ _ _ _ I3
 obtain ⟨m,hn,_⟩:=I3.loc
 have oT:=X1.off (Heap.get?_none_of_le hs3)
 have nT:=X1.hok.fresh hs3
 have oE:=offS ea (hS ea lo.1).1
 have nE:=(hS ea lo.1).2
 refine ⟨m,hn,fun h4 sb cenv hcl=>?_⟩
 obtain ⟨oc,es,ep,hoc,hdc,_⟩:=id hn
 have eC:ea≠C:=fun z=>by
  obtain ⟨oe,vs,he,_,_,hd,_⟩:=x3
  rw [z] at he
  have hoc':h3.get? C=some oc:=hoc
  rw [he] at hoc'
  cases hoc'
  rw [hd] at hdc
  cases hdc
 have tC:T≠C:=fun z=>by
  obtain ⟨oe,vs,he,hd,_⟩:=t3
  rw [z] at he
  have hoc':h3.get? C=some oc:=hoc
  rw [he] at hoc'
  cases hoc'
  rw [hd] at hdc
  cases hdc
 have X4:Inv X pins σ H' { s' with heap:=h4 }:=X3.gone gn sb
 have x4:a1A h4 ea cls od (.ref T):=x3.other (sb.2 ea eC)
 have t4:a5u h4 T (rawInt X.env.locals):=by
  obtain ⟨oT,ts,e,r⟩:=t3
  exact ⟨oT,ts,(sb.2 T tC).trans e,r⟩
 unfold PySem.passOn
 obtain ⟨oe,vs,he,hc,hdd,hd1,h1⟩:=id x4
 refine wpAny_bind (wpAny_field (s:={ s' with heap:=h4 }) he hd1 h1 ?_)
 rw [if_neg (by simp)]
 refine wpAny_bind (a7p (s:={ s' with heap:=h4 }) x4 t4 hT fun h5 fl5 sz5 x5 t5 k5=>wpAny_throw ?_)
 have X5:Inv X pins σ H' { s' with heap:=h5,toks:=s'.toks }:=X4.moved (S:=[T]) (fun b o hb hn=>by
  have hbT:b≠T:=fun z=>hn (by rw [z];exact List.mem_cons_self)
  have z:=(k5 b hbT).trans hb
  exact ⟨fun _=>z,o.slots,z⟩) fun b hb=>by rw [List.mem_singleton.mp hb];exact ⟨oT,nT⟩
 exact hx pins σ H' { s' with heap:=h5,toks:=s'.toks } ea T cls fl5 od X5 x5 t5 hT (fun b hb=>by
  rcases List.mem_cons.mp hb with rfl | hb
  ·exact ⟨oT,nT⟩
  ·rw [List.mem_singleton.mp hb];exact ⟨oE,nE⟩) q
def a7r (tc:TT) (te:TE) (σ:St) (d:Addr) (x y:V) (H:Hp) (Z:Hp→Prop):Prop :=
 tc (some x :: some y :: σ) H fun b H3=>if b=true then te (some x :: some y :: σ) H3 fun v H4=>∃ ys,H4 d=some (.lst ys)∧ys.length < sizeLine∧Z (upd H4 d (.lst (ys++[v]))) else Z H3
def tCompZ (K:PySem.W.Frag) (ka kb:Bool) (ta:TA) (tc:TT) (te:TE):TE:=fun σ H Q=>ta σ H fun vs H1=>∃ a b xs ys,vs=[.ref a,.ref b]∧SqK K ka H1 a xs∧SqK K kb H1 b ys∧xs.length=ys.length∧∀ d,H1 d=none →
 ∃ Pv:Nat→Hp→Prop,Pv 0 (upd H1 d (.lst []))∧(∀ i H,i≤xs.length→Pv i H→SqK K ka H a xs∧SqK K kb H b ys)∧(∀ i x y p H,xs[i]?=some x→ys[i]?=some y→Pv i H→H p=none→a7r tc te σ d x y (upd H p (.tup [x,y])) (Pv (i+1)))∧∀ H,Pv xs.length H→Q (.ref d) H
def a4J (K:PySem.W.Frag):TG:=gTup K 2 (b2a (a1g 0) (b2a (a1g 1) gNil))
theorem a2T {K:PySem.W.Frag} {v:V} {σ:St} {H:Hp} {Q:St→Hp→Prop} (h:a4J K v (List.replicate 2 none++σ) H Q):a4J K v (List.replicate 2 none++σ) H fun σ2 H2=>(∃ l:St,l.length=2∧σ2=l++σ)∧Q σ2 H2:=by
 obtain ⟨a,xs,e,hq,hl,v1,r1,e1,v2,r2,e2,e3,q⟩:=h
 exact ⟨a,xs,e,hq,hl,v1,r1,e1,v2,r2,e2,e3,⟨[some v1,some v2],rfl,rfl⟩,q⟩
theorem b0w {K:PySem.W.Frag} {ka kb:Bool} {a b:Addr} {xs ys:List V} {tc:TT} {te:TE} {σ:St} {H:Hp} {Q:VK} {d:Addr} (hlen:xs.length=ys.length) (Pv:Nat→Hp→Prop) (h0:Pv 0 (upd H d (.lst []))) (hl:∀ i H,i≤xs.length→Pv i H→SqK K ka H a xs∧SqK K kb H b ys)
  (hs:∀ i x y p H,xs[i]?=some x→ys[i]?=some y→Pv i H→H p=none→a7r tc te σ d x y (upd H p (.tup [x,y])) (Pv (i+1)))
  (hd:∀ H,Pv xs.length H→Q (.ref d) H) :
  ∃ W:Nat→Nat→Hp→Prop,(∃ m,W 0 m (upd H d (.lst [])))∧∀ i m H,W i m H →
   ((Itz K ka kb a b).stop i H∧Q (.ref d) H)∨((Itz K ka kb a b).go i H∧∃ N:Hp→Prop,(∀ H',N H'→∃ m',m' < m∧W (i+1) m' H')∧∀ x H',(Itz K ka kb a b).yld i H x H'→a4J K x (List.replicate 2 none++σ) H' fun σ2 H2 =>
    tc σ2 H2 fun b H3=>if b=true then te σ2 H3 fun y H4=>∃ ys,H4 d=some (.lst ys)∧ys.length < sizeLine∧N (upd H4 d (.lst (ys++[y]))) else N H3):=by
 refine ⟨fun i m H=>m=xs.length - i∧i≤xs.length∧Pv i H,⟨xs.length,by simp,Nat.zero_le _,h0⟩,?_⟩
 rintro i m H ⟨rfl,hi,p⟩
 obtain ⟨q1,q2⟩:=hl i H hi p
 by_cases hlt:i < xs.length
 ·refine .inr ⟨⟨xs,ys,_,_,q1,q2,List.getElem?_eq_getElem hlt,List.getElem?_eq_getElem (by omega)⟩,Pv (i+1),fun H' n=>⟨xs.length - (i+1),by omega,rfl,by omega,n⟩,?_⟩
  rintro v H' ⟨p',x,y,rfl,hn,e1,e2,rfl⟩
  exact ⟨p',[x,y],rfl,SqT.of a0b,rfl,x,[y],rfl,y,[],rfl,rfl,hs i x y p' H (e1 _ q1) (e2 _ q2) p hn⟩
 ·have e:i=xs.length:=by omega
  subst e
  exact .inl ⟨⟨xs,ys,q1,q2,.inl (Nat.le_refl _)⟩,hd H p⟩
theorem b0x {X:Cx} (K:PySem.W.Frag) (ka kb:Bool) {elt a b:Expr} {t1 t2:Str} {p1 p2 tp p pos pos':Pos} {k:Nat} {cs:List Expr} {scope:Scope} {tc:TT} {te:TE} {ta:TA} {M:List Str} (hc:X.calm=true) (S:a0k scope X.env X.N M) (nd:(t1 :: t2 :: M).Nodup) (hl1:scope.names.lookup t1=some .local) (hl2:scope.names.lookup t2=some .local)
  (hg:Gl X "zip") (hm:X.mg "zip"=none) (ha:PA X [a,b] ta) (mo:a5t ta)
  (hin:∀ (cl:List (Str × Addr)) (C:Addr) (s0:Shared) (H0:Hp) (fp:List Addr) (pins:List (Addr × Obj)) (σ:St),b3q X (cxC X scope cl C s0 H0 fp (t1 :: t2 :: M)) pins σ fp C s0 H0→PTs (cxC X scope cl C s0 H0 fp (t1 :: t2 :: M)) cs tc∧PE (cxC X scope cl C s0 H0 fp (t1 :: t2 :: M)) elt te)
  (hs:starEach [a,b] X.env=[(false,eval a X.env),(false,eval b X.env)]:=by rfl) (hs2:starEach [b] X.env=[(false,eval b X.env)]:=by rfl) (hf:∀ x,foldedSetIterable (.Call (.Name "zip" p) [a,b] [] pos') X.env x=pure x:=by intro _;rfl) (hK:X.K=K:=by rfl) :
  PE X (.ListComp elt [⟨.Tuple [.Name t1 p1,.Name t2 p2] k tp,.Call (.Name "zip" p) [a,b] [] pos',cs,0⟩] scope pos) (tCompZ K ka kb ta tc te):=by
 subst hK
 have hx1:(relabel scope X.env).names.lookup t1=some .local:=by rw [a0w,hl1];rfl
 have hx2:(relabel scope X.env).names.lookup t2=some .local:=by rw [a0w,hl2];rfl
 refine PE.imp (a6a (xs:=[t1,t2]) (M:=M) (g:=a4J X.K) hc S (pi_zip ka kb hg hm ha hs hs2) (fun cl C s0 H0 fp pins σ bk=>⟨a4u hc (a1a (a0I (i:=0) nd rfl (Or.inl hx1) (Or.inr hx1)) (a1a (a0I (i:=1) nd rfl (Or.inl hx2) (Or.inr hx2)) a2F)),hin cl C s0 H0 fp pins σ bk⟩) (fun v σ H Q h=>a2T h) hf) (fun σ H Q h=>?_)
 refine mo σ H _ _ (fun vs H1 q=>?_) h
 obtain ⟨a',b',xs,ys,e,q1,q2,hlen,q⟩:=q
 refine ⟨a',b',xs,ys,e,q1,q2,fun d hd=>?_⟩
 obtain ⟨Pv,h0,hl,hs,hd⟩:=q d hd
 exact b0w hlen Pv h0 hl hs hd
def untr (H:Hp) (e:Addr):Hp:=fun b=>if b=e then none else H b
theorem a1o {H:Hp} {e b:Addr} (h:b≠e):untr H e b=H b:=by unfold untr;rw [if_neg h]
theorem a4K {H:Hp} {e:Addr}:untr H e e=none:=by unfold untr;rw [if_pos rfl]
theorem a8O {M:Model} {A:Around} {E:Value→Shared→Prop} {K:PySem.W.Frag} {env:Env} {s:Shared} {x:Sem Value} {Q:Flow→Shared→Prop} (hh:A.handled=none)
  (h:wpAny M A x (fun v s₁=>∃ e C oe vs,v=.ref e∧K.In s₁.heap∧Hcl K C∧s₁.heap.get? e=some oe∧oe.cls=.ref C∧oe.data=.fields vs∧vs[1]?=some .none∧E (.ref e) s₁) E s) :
  wpAny M A (raiseStmt env (some x) none) Q E s:=by
 unfold raiseStmt
 refine wpAny_bind (wpAny_mono h (fun v s₁ h₁=>?_) fun _ _ z=>z)
 obtain ⟨e,C,oe,vs,rfl,X,hC,he,hc,hd,h1,hE⟩:=h₁
 obtain ⟨hp,g,d,tk,os⟩:=s₁
 have L1:PySem.W.Looks M hp (typeOf (.ref e)) (.ref C):=hc▸(PySem.W.Looks.ld he).andThen .now
 have L2:PySem.W.Looks M hp (isSubtype (.ref C) (.type "BaseException")) true:=PySem.W.looks_subIn X hC.be
 have L3:PySem.W.Looks M hp (typeOf (.ref C)) (.type "type"):=PySem.W.looks_typeIn X hC.ty
 have L4:PySem.W.Looks M hp (isType (.ref e)) false:=by
  unfold isType
  intro A' Q' E' s' k q
  unfold loadHead
  refine wpAny_bind (wpAny_loadPart (k _ _ he) (wpAny_pure ?_))
  show Q' (match oe.data with | .cls _=>true | _=>false) s'
  rw [hd]
  exact q
 unfold excFromValue isExcClass raisedInstance setFlight
 repeat (first | with_reducible refine PySem.W.Looks.at (by assumption) ?_ | with_reducible refine wpAny_field he hd h1 ?_ | with_reducible refine wpAny_raiseNew_none hh hE | wp_step)
def b2w (C:Addr) (sp:Sp) (E:XK) (ta:TA):TS:=fun _ σ H=>ta σ H fun vs H1=>vs.length≤1000∧∀ ea,H1 ea=none→sp (.ref ea :: vs) (upd H1 ea (a5k ea C none)) (fun v H2=>v=.non∧∃ od,H2 ea=some (a5k ea C od)∧E (.ref C) od (untr H2 ea)) E0
theorem HOk.untr {P:Program} {w:World} {H:Hp} {h:Heap} {ea C:Addr} {od:Option Addr} (x:HOk P w H h) (e:H ea=some (a5k ea C od)):HOk P w (untr H ea) h:=fun b u hb=>by
 have ne:b≠ea:=fun z=>by rw [z,a4K] at hb;cases hb
 rw [a1o ne] at hb
 refine (x b u hb).stay (fun _ _ _ q=>q) (fun c q=>?_) fun c xs q=>?_
 ·rw [a1o (fun z=>by rw [z,e] at q;cases q)];exact q
 ·rw [a1o (fun z=>by rw [z,e] at q;cases q)];exact q
theorem a8P {X:Cx} {E:XK} {x:Str} {C fI:Addr} {k:Nat} {fd:FuncData} {ps:List Str} {sp:Sp} {np cpos pos:Pos} {e:Expr} {es:List Expr} {ta:TA} (hx:a2u (CXF X.prog X.w) X E) (hc:X.calm=true) (hg:Gl X x) (hm:X.mg x=some (.ref C)) (hcl:Eci X.K C fI) (hH:Hcl X.K C) (hk:PySem.W.keepIn X.K (.ref C)=true)
  (F:a1c X.prog X.w X.K X.mg X.base CX0 k fI fd ps sp) (hr:a2t (k+1) X.A) (hb:a1I X.K fd ps []) (ha:PA X (e :: es) ta)
  (hdb:(x == ("__debug__":Str))=false:=by decide) (he:starEach (e :: es) X.env=(false,eval e X.env) :: starEach es X.env:=by rfl) (hpl:(backTo cpos (starEach es X.env)).any (·.1)=false:=by rfl) :
  PS X (.Raise (some (.Call (.Name x np) (e :: es) [] cpos)) none pos) (b2w C sp E ta):=by
 intro pins s σ H D I h
 rw [arm_exec_Raise]
 refine wpAny_bind (wpAny_standAt ?_)
 show wpAny (model X.prog X.w) X.A (raiseStmt X.env (some (do let v ←eval (.Call (.Name x np) (e :: es) [] cpos) X.env;standAt pos;pure v)) none) _ _ _
 refine a8O (K:=X.K) (I.ok.hd hc) (wpAny_bind (wpAny_mono ?_ (fun v s' hv=>wpAny_bind (wpAny_standAt (wpAny_pure hv))) fun _ _ z=>z))
 refine wpAny_Call_Name_kw (a5n I hg hm ?_ hdb)
 refine PySem.W.callWith_K (h₀:=X.base) I.ok.mod.kin hk (thn (ha cpos pins s σ H _ I h) fun us s1 ⟨vs,H1,I1,r,hl,q⟩=>⟨I1.kIn,?_⟩) he hpl
 refine b0r hcl F hr hb I1 r hl q fun ea h' s' u me ce=>?_
 obtain ⟨v,H2,I3,rv,⟨rfl,od,hE,q3⟩⟩:=(I1.newExc (t':=s1.toks) me).after ce
 obtain ⟨v',H2',os,bare,un,hok,rv',⟨e1,od',hE',q'⟩⟩:=ce
 subst e1
 refine ⟨rv',ea,C,?_⟩
 obtain ⟨⟨oe,ws,ho,hcl',hdd,hdt,h1⟩,_,_⟩:=hok ea _ hE'
 have kin:X.K.In s'.heap:=I3.kIn
 refine ⟨oe,ws,rfl,kin,hH,ho,hcl',hdt,h1,?_⟩
 have nea:∀ b o,s1.heap.get? b=some o→b≠ea:=fun b o q z=>by rw [z,me.new] at q;cases q
 have nH:=I1.hok.none_of me.new
 have tne:∀ b o,H1 b=some o→b≠ea:=fun b o q z=>by rw [z,nH] at q;cases q
 refine hx pins σ H1 s1 (.ref ea) s' I1 ⟨ea,.ref C,od',[ea],untr H2' ea,rfl,os,bare,⟨fun b o g n hb hx=>?_,fun b o g n hb hx=>?_,fun b o g n hx=>?_,fun b o g hx=>?_,fun b xs g=>?_,fun b o u g=>?_,fun b ps g=>?_⟩,HOk.untr hok hE',?_,fun b hb=>?_,q'⟩
 ·exact un.keep b o (me.keeps b o g) (by rw [a0l (nea b o g)];exact n) hb hx
 ·exact un.slot b o (me.keeps b o g) (by rw [a0l (nea b o g)];exact n) hb hx
 ·rw [a1o (nea b o g)]
  exact un.free b o (me.keeps b o g) (by rw [a0l (nea b o g)];exact n) hx
 ·exact un.there b o (me.keeps b o g) hx
 ·rw [a1o (tne b _ g)]
  exact un.tups b xs (by rw [a0l (tne b _ g)];exact g)
 ·rw [a1o (tne b _ g)]
  exact un.frzs b o u (by rw [a0l (tne b _ g)];exact g)
 ·obtain ⟨more,z⟩:=un.tbls b ps (by rw [a0l (tne b _ g)];exact g)
  exact ⟨more,by rw [a1o (tne b _ g)];exact z⟩
 ·refine ⟨List.mem_cons_self,fun b hb o ho'=>?_,.none,⟨oe,ws,ho,hcl',hdd,hdt,h1⟩,.inl rfl⟩
  rw [List.mem_singleton.mp hb,ho] at ho'
  cases ho'
  exact ⟨ws,hdt⟩
 ·rw [List.mem_singleton.mp hb]
  exact ⟨me.new,a4K⟩
theorem a8Q {H0 H2:Hp} {e:Addr} {o:HO} (hn:H0 e=none) (h:∀ a o',a≠e→upd H0 e o a=some o'→H2 a=some o'):a0t H0 (untr H2 e):=fun a o' ho=>by
 have ne:a≠e:=fun z=>by rw [z,hn] at ho;cases ho
 rw [a1o ne]
 exact h a o' ne (by rw [a0l ne];exact ho)
def Exg (H:Hp) (e C:Addr) (fs:List (Str × V)):Prop:=∃ dx,dx≠e∧H e=some (a5k e C (some dx))∧H dx=some (xdO dx fs)
def spJ2 (C:Addr) (f g:Str):Sp:=fun vs H Q _=>∃ e v u,vs=[.ref e,v,u]∧H e=some (a5k e C none)∧∀ H',(∀ a o,a≠e→H a=some o→H' a=some o)→Exg H' e C [(f,v),(g,u)]→Q .non H'
theorem a8R {H1 H2:Hp} {ea C:Addr} {fs:List (Str × V)} {E:XK} (hn:H1 ea=none) (kp:∀ a o,a≠ea→upd H1 ea (a5k ea C none) a=some o→H2 a=some o) (x:Exg H2 ea C fs) (h:∀ dx H',a0t H1 H'→H' dx=some (xdO dx fs)→E (.ref C) (some dx) H') :
  ∃ od,H2 ea=some (a5k ea C od)∧E (.ref C) od (untr H2 ea):=by
 obtain ⟨dx,ne,h1,h2⟩:=x
 exact ⟨some dx,h1,h dx _ (a8Q hn kp) (by rw [a1o ne];exact h2)⟩
section
variable {κ:Type} [DecidableEq κ]
def a2B (kvs:List (κ × V)) (k:κ):Option V:=(kvs.find? fun kv=>decide (kv.1=k)).map (·.2)
def a3m (kvs:List (κ × V)) (k:κ) (v:V):List (κ × V) :=
 if (kvs.any fun kv=>decide (kv.1=k))=true then kvs.map (fun kv=>if kv.1=k then (kv.1,v) else kv) else kvs++[(k,v)]
def dropK (kvs:List (κ × V)) (k:κ):List (κ × V):=kvs.filter fun kv=>decide (kv.1≠k)
theorem a1G {p:κ × V} {r:List (κ × V)} {k:κ} (e:p.1=k):a2B (p :: r) k=some p.2:=by simp [a2B,List.find?_cons,e]
theorem a1H {p:κ × V} {r:List (κ × V)} {k:κ} (e:¬ p.1=k):a2B (p :: r) k=a2B r k:=by simp [a2B,List.find?_cons,e]
theorem a3S (k:κ):∀ kvs:List (κ × V),(kvs.any fun kv=>decide (kv.1=k))=(a2B kvs k).isSome
 | []=>rfl
 | p :: r=>by
  rw [List.any_cons]
  by_cases e:p.1=k
  ·simp only [a1G e,decide_eq_true e,Bool.true_or,Option.isSome_some]
  ·rw [a1H e,decide_eq_false e,Bool.false_or];exact a3S k r
theorem a1N (kvs:List (κ × V)) (k:κ) (v:V):(a3m kvs k v).length≤kvs.length+1:=by
 unfold a3m
 split
 ·rw [List.length_map];omega
 ·rw [List.length_append,List.length_cons,List.length_nil];omega
theorem a6l {kvs:List (κ × V)} {k:κ} (v:V) (h:a2B kvs k=none):a3m kvs k v=kvs++[(k,v)]:=by
 unfold a3m
 rw [a3S,h]
 exact if_neg (by decide)
theorem a5j.isSome_eq {o:Option V} {u:Option Value} (r:a5j o u):o.isSome=u.isSome:=by
 cases o with
 | none=>cases u with
  | none=>rfl
  | some _=>exact (show False from r).elim
 | some _=>cases u with
  | none=>exact (show False from r).elim
  | some _=>rfl
theorem KV.val {kvs:List (κ × V)} {vs:List (κ × Value)} (r:KV kvs vs) (k:κ):a5j (a2B kvs k) (valueAt vs k):=by
 unfold KV at r
 induction r with
 | nil=>exact True.intro
 | @cons p q ps qs h t ih =>
  obtain ⟨h1,h2⟩:=h
  by_cases e:p.1=k
  ·have e':q.1=k:=h1.symm.trans e
   have b:valueAt (q :: qs) k=some q.2:=by simp [valueAt,List.find?_cons,e']
   rw [a1G e,b];exact h2
  ·have e':¬ q.1=k:=fun z=>e (h1.trans z)
   have b:valueAt (q :: qs) k=valueAt qs k:=by simp [valueAt,List.find?_cons,e']
   rw [a1H e,b];exact ih
theorem KV.any {kvs:List (κ × V)} {vs:List (κ × Value)} (r:KV kvs vs) (k:κ):(kvs.any fun kv=>decide (kv.1=k))=vs.any fun kv=>decide (kv.1=k):=by
 unfold KV at r
 induction r with
 | nil=>rfl
 | cons h t ih=>rw [List.any_cons,List.any_cons,ih,h.1]
theorem KV.repl {kvs:List (κ × V)} {vs:List (κ × Value)} (r:KV kvs vs) (k:κ) {y:V} {u:Value} (ry:a0O y u) :
  KV (kvs.map fun kv=>if kv.1=k then (kv.1,y) else kv) (vs.map fun kv=>if kv.1=k then (kv.1,u) else kv):=by
 unfold KV at r ⊢
 induction r with
 | nil=>exact .nil
 | @cons p q ps qs h t ih =>
  rw [List.map_cons,List.map_cons]
  refine .cons ?_ ih
  obtain ⟨h1,h2⟩:=h
  by_cases e:p.1=k
  ·rw [if_pos e,if_pos (h1.symm.trans e)];exact ⟨h1,ry⟩
  ·rw [if_neg e,if_neg (fun z=>e (h1.trans z))];exact ⟨h1,h2⟩
theorem KV.put {kvs:List (κ × V)} {vs:List (κ × Value)} (r:KV kvs vs) (k:κ) {y:V} {u:Value} (ry:a0O y u):KV (a3m kvs k y) (stored vs k u):=by
 unfold a3m stored
 rw [r.any k]
 by_cases e:(vs.any fun kv=>decide (kv.1=k))=true
 ·rw [if_pos e,if_pos e];exact r.repl k ry
 ·rw [if_neg e,if_neg e];exact Paired.snoc r ⟨rfl,ry⟩
theorem KV.length {kvs:List (κ × V)} {vs:List (κ × Value)} (r:KV kvs vs):kvs.length=vs.length:=Paired.length r
end
theorem b2x {P:Program} {w:World} {k:Key} {u:Value} (r:a0O (kV k) u):(a0Z P w).is k u=true:=by
 cases k with
 | inl i=>obtain ⟨t,e⟩:=(show ∃ t,u=Value.int i t from r);subst e;exact a5l P w i t
 | inr x=>obtain ⟨t,e⟩:=(show ∃ t,u=Value.str x t from r);subst e;exact a5m P w x t
theorem a4L {P:Program} {w:World}:∀ {ks:List Key} {us:List Value},a0D (ks.map kV) us→ItemsAre (a0Z P w) ks us
 | [],_,r=>by rw [List.map_nil] at r;cases r;exact .nil
 | k :: ks,_,r=>by
  rw [List.map_cons] at r
  cases r with
  | cons h t=>exact .cons (b2x h) (a4L t)
abbrev KT (H:Hp):List (List Key × V)→List (List Key × Addr × Value)→Prop:=Paired fun p q=>p.1=q.1∧H q.2.1=some (.tup (p.1.map kV))∧a0O p.2 q.2.2
theorem KT.val {H:Hp} {kvs:List (List Key × V)} {xs:List (List Key × Addr × Value)} (r:KT H kvs xs) (k:List Key):a5j (a2B kvs k) ((atKey xs k).map (·.2)):=by
 induction r with
 | nil=>exact True.intro
 | @cons p q ps qs h t ih =>
  obtain ⟨h1,_,h2⟩:=h
  by_cases e:p.1=k
  ·have e':q.1=k:=h1.symm.trans e
   have b:atKey (q :: qs) k=some q.2:=by simp [atKey,List.find?_cons,e']
   rw [a1G e,b];exact h2
  ·have e':¬ q.1=k:=fun z=>e (h1.trans z)
   have b:atKey (q :: qs) k=atKey qs k:=by simp [atKey,List.find?_cons,e']
   rw [a1H e,b];exact ih
theorem KT.repl {H:Hp} {kvs:List (List Key × V)} {xs:List (List Key × Addr × Value)} (r:KT H kvs xs) (k:List Key) {y:V} {u:Value} (ry:a0O y u) :
  KT H (kvs.map fun kv=>if kv.1=k then (kv.1,y) else kv) (xs.map (putAt k u)):=by
 induction r with
 | nil=>exact .nil
 | @cons p q ps qs h t ih =>
  rw [List.map_cons,List.map_cons]
  refine .cons ?_ ih
  obtain ⟨h1,h2,h3⟩:=h
  unfold putAt
  by_cases e:p.1=k
  ·rw [if_pos e,if_pos (h1.symm.trans e)];exact ⟨h1,h2,ry⟩
  ·rw [if_neg e,if_neg (fun z=>e (h1.trans z))];exact ⟨h1,h2,h3⟩
theorem KT.put {H:Hp} {kvs:List (List Key × V)} {xs:List (List Key × Addr × Value)} (r:KT H kvs xs) (k:List Key) {b:Addr} {y:V} {u:Value} (hb:H b=some (.tup (k.map kV))) (ry:a0O y u) :
  KT H (a3m kvs k y) (storedH xs k b u):=by
 have e:(kvs.any fun kv=>decide (kv.1=k))=(atKey xs k).isSome:=by
  rw [a3S,(r.val k).isSome_eq,Option.isSome_map]
 unfold a3m storedH
 rw [e]
 by_cases q:(atKey xs k).isSome=true
 ·rw [if_pos q,if_pos q];exact r.repl k ry
 ·rw [if_neg q,if_neg q];exact Paired.snoc r ⟨rfl,hb,ry⟩
theorem KT.keeps {H H':Hp} {kvs:List (List Key × V)} {xs:List (List Key × Addr × Value)} (r:KT H kvs xs) (ht:∀ b ys,H b=some (.tup ys)→H' b=some (.tup ys)):KT H' kvs xs :=
 Paired.mapP r fun _ _ z=>⟨z.1,ht _ _ z.2.1,z.2.2⟩
section
variable {P:Program} {w:World} {H:Hp} {h:Heap} {a:Addr}
theorem rd_of {u:HO} (ok:HOk P w H h) (e:Rd H a u):a0F P w H h a u:=e.ok ok
theorem a8S {kvs:List (Key × V)} (ok:HOk P w H h) (e:Rd H a (.dK kvs)):kvs.length≤sizeLine∧(a == sysModules)=false∧∃ vs,KV kvs vs∧h.DictOf (a0Z P w) a vs :=
 show a0F P w H h a (.dK kvs) from rd_of ok e
theorem dk_of {kvs:List (Key × V)} (ok:HOk P w H h) (e:H a=some (.dK kvs)):kvs.length≤sizeLine∧(a == sysModules)=false∧∃ vs,KV kvs vs∧h.DictOf (a0Z P w) a vs:=a8S ok (.inl e)
theorem a6m {ks:List Key} (ok:HOk P w H h) (e:H a=some (.tup (ks.map kV))):(tupleKind (a0Z P w)).is h ks a:=by
 obtain ⟨_,its,r,o,h1,h2,n,h3⟩:=a2j (show a0F P w H h a (.tup (ks.map kV)) from ok a _ e)
 exact ⟨o,its.toArray,n,h1,h2,h3,by simpa using a4L r⟩
theorem b0y {kvs:List (List Key × V)} (ok:HOk P w H h) (e:Rd H a (.dT kvs)):kvs.length≤sizeLine∧(a == sysModules)=false ∧
  ∃ xs,KT H kvs xs∧h.DictOfH (tupleKind (a0Z P w)) a xs:=by
 obtain ⟨z,y,xs,r,o,es,ep,h1,h2,h3,h4,h5⟩:=(show a0F P w H h a (.dT kvs) from rd_of ok e)
 refine ⟨z,y,xs,r,o,es,ep,h1,h2,h3,h4,fun x hx=>?_,h5⟩
 have all:∀ {l:List (List Key × V)} {m:List (List Key × Addr × Value)},KT H l m→∀ x∈m,(tupleKind (a0Z P w)).is h x.1 x.2.1:=by
  intro l m q
  induction q with
  | nil=>intro x hx;exact nomatch hx
  | @cons p q ps qs hq t ih =>
   intro x hx
   rcases List.mem_cons.mp hx with e | hx
   ·subst e
    exact a6m ok (by rw [←hq.1];exact hq.2.1)
   ·exact ih x hx
 exact all r x hx
theorem dt_of {kvs:List (List Key × V)} (ok:HOk P w H h) (e:H a=some (.dT kvs)):kvs.length≤sizeLine∧(a == sysModules)=false ∧
  ∃ xs,KT H kvs xs∧h.DictOfH (tupleKind (a0Z P w)) a xs:=b0y ok (.inl e)
end
def b0z (H:Hp) (a:Addr) (y:V) (r:Option V):Prop :=
 (∃ kvs k,Rd H a (.dK kvs)∧y=kV k∧r=a2B kvs k)∨∃ kvs k b,Rd H a (.dT kvs)∧y=.ref b∧H b=some (.tup (k.map kV))∧r=a2B kvs k
def b2y (H:Hp) (a:Addr) (y v:V) (H':Hp):Prop :=
 (∃ kvs k,H a=some (.dK kvs)∧y=kV k∧kvs.length < sizeLine∧H'=upd H a (.dK (a3m kvs k v))) ∨
 ∃ kvs k b,H a=some (.dT kvs)∧y=.ref b∧H b=some (.tup (k.map kV))∧kvs.length < sizeLine∧H'=upd H a (.dT (a3m kvs k v))
theorem b0z.t {H:Hp} {a b:Addr} {kvs:List (List Key × V)} {k:List Key} (e:H a=some (.dT kvs)) (eb:H b=some (.tup (k.map kV))):b0z H a (.ref b) (a2B kvs k):=.inr ⟨kvs,k,b,.inl e,rfl,eb,rfl⟩
theorem b2y.k {H:Hp} {a:Addr} {kvs:List (Key × V)} {k:Key} {v:V} (e:H a=some (.dK kvs)) (hl:kvs.length < sizeLine):b2y H a (kV k) v (upd H a (.dK (a3m kvs k v))):=.inl ⟨kvs,k,e,rfl,hl,rfl⟩
section
variable {X:Cx} {pins:List (Addr × Obj)} {σ:St} {H:Hp} {s:Shared} {a:Addr} {y v:V} {u r:Value} {o:Option V} {A:Around} {E:Value→Shared→Prop}
theorem Inv.big (I:Inv X pins σ H s):sysModules < s.heap.objs.size:=by
 have h:mainGlobals < s.heap.objs.size:=(I.mod.glob.keeps I.bk).lt
 exact Nat.lt_trans (by decide) h
theorem a8T {Q:Value→Shared→Prop} (hu:A.units+1 < cLine) (I:Inv X pins σ H s) (g:b0z H a y (some v)) (ry:a0O y u) (h:∀ w' s',Inv X pins σ H s'→a0O v w'→Q w' s') :
  wpAny (model X.prog X.w) A (getItem (.ref a) u) Q E s:=by
 rcases g with ⟨kvs,k,e,ey,l⟩ | ⟨kvs,k,b,e,ey,eb,l⟩
 ·subst ey
  obtain ⟨z,hd,vs,rel,dd⟩:=a8S I.hok e
  obtain ⟨w',hw,rw'⟩:=a5j.some_of (v:=v) (o:=valueAt vs k) (by rw [l];exact rel.val k)
  exact wpAny_getItem_of (b2x ry) dd.mapOf hw (h w' _ (I.tok _) rw')
 ·subst ey
  cases (show u=Value.ref b from ry)
  obtain ⟨z,hd,xs,rel,dd⟩:=b0y I.hok e
  obtain ⟨w',hw,rw'⟩:=a5j.some_of (v:=v) (o:=(atKey xs k).map (·.2)) (by rw [l];exact rel.val k)
  obtain ⟨p,hp,hp2⟩:=Option.map_eq_some_iff.mp hw
  refine wpAny_getItem_heap (tupleKind_room_in1 hu) (a6m I.hok eb) dd hp ?_
  rw [hp2]
  exact h w' _ (I.tok _) rw'
theorem a5y {h':Heap} {t':Nat} {ob:HO} (I:Inv X pins σ H s) (mu:Mut (H a)) (hs:Heap.SameBut a s.heap h') (he:∃ q,h'.get? a=some q) (new:a0F X.prog X.w (upd H a ob) h' a ob) :
  Inv X pins σ (upd H a ob) { s with heap:=h',toks:=t' } :=
 I.write (x:=a) (e:=a) mu (.inl rfl) (fun b q hb z=>(hs.2 b hb).trans z) he new
theorem dk_new {P:Program} {w:World} {H':Hp} {h':Heap} {kvs:List (Key × V)} {vs:List (Key × Value)} (z:kvs.length≤sizeLine) (hd:(a == sysModules)=false) (rel:KV kvs vs) (dd:h'.DictOf (a0Z P w) a vs) :
  a0F P w H' h' a (.dK kvs):=⟨z,hd,vs,rel,dd⟩
theorem a8U {H':Hp} {Q:Unit→Shared→Prop} (hu:A.units+1 < cLine) (I:Inv X pins σ H s) (g:b2y H a y v H') (ry:a0O y u) (rv:a0O v r) (h:∀ s',Inv X pins σ H' s'→Q () s') :
  wpAny (model X.prog X.w) A (setItem (.ref a) u r) Q E s:=by
 rcases g with ⟨kvs,k,e,ey,l,eH⟩ | ⟨kvs,k,b,e,ey,eb,l,eH⟩
 ·subst ey eH
  obtain ⟨z,hd,vs,rel,dd⟩:=dk_of I.hok e
  have hz:vs.length≤sizeLine:=by rw [←rel.length];exact z
  have hl:(a3m kvs k v).length≤sizeLine:=by have:=a1N kvs k v;omega
  refine wpAny_setItem_pairs (hsz:=hz) (b2x ry) dd fun h' dd' hs=>h _ ?_
  have he:∃ q,h'.get? a=some q:=let ⟨q,_,_,hq,_⟩:=dd';⟨q,hq⟩
  exact a5y I (by rw [e];exact True.intro) hs he (dk_new hl hd (rel.put k rv) dd')
 ·subst ey eH
  cases (show u=Value.ref b from ry)
  obtain ⟨z,hd,xs,rel,dd⟩:=dt_of I.hok e
  have hz:xs.length≤sizeLine:=by rw [←Paired.length rel];exact z
  have hl:(a3m kvs k v).length≤sizeLine:=by have:=a1N kvs k v;omega
  refine wpAny_setItem_heap (hsz:=hz) (tupleKind_room_in1 hu) (a6m I.hok eb) dd fun h' dd' hs=>h _ ?_
  obtain ⟨q,es,ep,hq,h2,h3,h4,_,h5⟩:=dd'
  refine a5y I (by rw [e];exact True.intro) hs ⟨q,hq⟩ ⟨hl,hd,_,(rel.put k eb rv).keeps fun c ys ec=>?_,q,es,ep,hq,h2,h3,h4,h5⟩
  rw [a0l (a4s ec e (fun z=>nomatch z))]
  exact ec
end
section
variable {X:Cx} {pins:List (Addr × Obj)} {σ:St} {H:Hp} {s:Shared} {a:Addr} {kvs:List (Key × V)} {k:Key} {u:Value} {A:Around} {E:Value→Shared→Prop}
theorem d_len {Q:Value→Shared→Prop} (I:Inv X pins σ H s) (e:Rd H a (.dK kvs)) (h:∀ t s',Inv X pins σ H s'→Q (.int kvs.length t) s'):wpAny (model X.prog X.w) A (call (.builtin "len") [.ref a]) Q E s:=by
 obtain ⟨z,hd,vs,rel,dd⟩:=a8S I.hok e
 refine call_len_dict hd dd (by rw [←rel.length];rw [sizeLine_eq] at z;omega) ?_
 rw [←rel.length]
 exact h _ _ (I.tok _)
end
def NoSl (i:Expr):Prop:=∀ ov iv,subscripted i false ov iv=operate [ov,iv] (getItem ov iv)
theorem b2z {prog:Program} {w:World} {A:Around} {E:Value→Shared→Prop} {s:Shared} {env:Env} {value slice:Expr} {pos:Pos} {T id:String} {Q:Value→Shared→Prop}
  (hl:typeLookup (.type T) "__getitem__"=pure (some (.builtin id))) (hs:NoSl slice)
  (h:wpAny (model prog w) A (eval value env) (fun o s₁=>wpAny (model prog w) A (eval slice env) (fun i s₂=>s₂.TypeIs o T∧wpAny (model prog w) A (getItem o i) Q E s₂) E s₁) E s) :
  wpAny (model prog w) A (eval (.Subscript value slice pos) env) Q E s:=by
 refine Subscript_ (wpAny_mono h (fun o s₁ h₁=>wpAny_mono h₁ (fun i s₂ h₂=>?_) fun _ _ x=>x) fun _ _ x=>x)
 obtain ⟨hT,h₂⟩:=h₂
 unfold subscriptTail
 refine wpAny_bind ?_
 rw [getitemInPython_of_ne hT.not_modules]
 refine wpAny_bind (wpAny_specialOf hT hl ?_)
 have fin:wpAny (model prog w) A (subscripted slice false o i) (fun r s₃=>wpAny (model prog w) A (letTemporaryGo value o r >>= fun _=>pure r) Q E s₃) E s₂:=by
  rw [hs o i]
  exact wpAny_operating (wpAny_mono h₂ (fun r s₃ h₃=>wpAny_bind (wpAny_letTemporaryGo (wpAny_pure h₃))) fun _ _ x=>x)
 first
  | exact wpAny_pure (wpAny_bind fin)
  | exact wpAny_bind (wpAny_pure (wpAny_bind fin))
  | exact wpAny_bind fin
theorem a5z {X:Cx} {pins:List (Addr × Obj)} {σ:St} {H:Hp} {s:Shared} {a:Addr} {y:V} {o:Option V} (I:Inv X pins σ H s) (g:b0z H a y o):s.TypeIs (.ref a) "dict":=by
 rcases g with ⟨kvs,k,e,_,_⟩ | ⟨kvs,k,b,e,_,_,_⟩
 ·obtain ⟨_,_,vs,_,dd⟩:=a8S I.hok e
  exact dd.typeIs
 ·obtain ⟨_,_,xs,_,dd⟩:=b0y I.hok e
  exact dd.typeIs
def tDGet (td ty:TE):TE:=fun σ H Q=>td σ H fun x H1=>ty σ H1 fun y H2=>∃ a v,x=.ref a∧b0z H2 a y (some v)∧Q v H2
def tDIn (ty td:TE):TE:=fun σ H Q=>ty σ H fun y H1=>td σ H1 fun x H2=>∃ a o,x=.ref a∧b0z H2 a y o∧Q (.bl o.isSome) H2
def sDPut (td ty tv:TE):TS:=fun D σ H=>tv σ H fun v H1=>td σ H1 fun x H2=>ty σ H2 fun y H3=>∃ a H4,x=.ref a∧b2y H3 a y v H4∧D.nx σ H4
def sDAug (td ty tv:TE) (rd:V→V→Hp→VK→Prop):TS:=fun D σ H=>td σ H fun x H1=>ty σ H1 fun y H2=>∃ a v,x=.ref a∧b0z H2 a y (some v) ∧
 tv σ H2 fun y2 H3=>rd v y2 H3 fun z H4=>∃ H5,b2y H4 a y z H5∧D.nx σ H5
def sDDel (td ty:TE):TS:=fun D σ H=>td σ H fun x H1=>ty σ H1 fun y H2=>∃ a kvs k,x=.ref a∧H2 a=some (.dK kvs)∧y=kV k∧(a2B kvs k).isSome=true∧D.nx σ (upd H2 a (.dK (dropK kvs k)))
section
variable {X:Cx} {o i e value:Expr} {pos pos' tpos:Pos} {td ty tv:TE}
theorem b2A (hu:X.A.units+1 < cLine) (ho:PE X o td) (hi:PE X i ty) (hs:NoSl i):PE X (.Subscript o i pos) (tDGet td ty):=by
 intro pins s σ H Q I h
 refine b2z PySem.F.slot_dict_getitem.lookup hs (thn (ho pins s σ H _ I h) fun u s1 ⟨x,H1,I1,rx,q1⟩=>thn (hi pins s1 σ H1 _ I1 q1) fun iv s2 ⟨y,H2,I2,ry,a,v,ex,g,q2⟩=>?_)
 subst ex
 obtain rfl:u=Value.ref a:=rx
 exact ⟨a5z I2 g,a8T hu I2 g ry fun w' s3 I3 rw'=>⟨v,H2,I3,rw',q2⟩⟩
theorem b2B (hu:X.A.units+1 < cLine) (ho:PE X o td) (hi:PE X i ty) (hv:PE X value tv) (hs:swapsWith value (some (.Subscript o i pos')) pos.line X.env=pure false) :
  PS X (.Assign [.Subscript o i pos'] value pos) (sDPut td ty tv):=by
 intro pins s σ H D I h
 refine wpAny_Assign_Subscript (thn (hv pins s σ H _ I h) fun r s1 ⟨v,H1,I1,rv,q1⟩=>thn (ho pins s1 σ H1 _ I1 q1) fun u s2 ⟨x,H2,I2,rx,q2⟩=>thn (hi pins s2 σ H2 _ I2 q2) fun iv s3 ⟨y,H3,I3,ry,a,H4,ex,g,q3⟩=>?_) hs
 subst ex
 obtain rfl:u=Value.ref a:=rx
 exact a8U hu I3 g ry rv fun s4 I4=>⟨σ,H4,I4,q3⟩
end
theorem b0A {P:Program} {w:World} {H:Hp} (h:Heap) (hb:sysModules < h.objs.size):a0F P w H (h.push { cls:=.type "dict",data:=.dict #[] }) h.objs.size (.dK []) :=
 ⟨Nat.zero_le _,beq_eq_false_iff_ne.mpr (Ne.symm (Nat.ne_of_lt hb)),[],.nil,Heap.DictOf.new h⟩
theorem b0B {P:Program} {w:World} {H:Hp} (h:Heap) (hb:sysModules < h.objs.size):a0F P w H (h.push { cls:=.type "dict",data:=.dict #[] }) h.objs.size (.dT []) :=
 ⟨Nat.zero_le _,beq_eq_false_iff_ne.mpr (Ne.symm (Nat.ne_of_lt hb)),[],.nil,_,#[],0,Heap.get?_push_size _ rfl,⟨rfl,rfl,rfl⟩,rfl,rfl,List.nodup_nil⟩
def tDNewK:TE:=fun _ H Q=>∀ p,H p=none→Q (.ref p) (upd H p (.dK []))
def tDNewT:TE:=fun _ H Q=>∀ p,H p=none→Q (.ref p) (upd H p (.dT []))
section
variable {X:Cx} {pos:Pos}
theorem b0C:PE X (.Dict [] [] pos) tDNewK:=fun pins s σ H Q I h =>
 wpAny_Dict_empty ⟨.ref s.heap.objs.size,_,I.laid (a:=s.heap.objs.size) (o:=.dK []) (t':=s.toks) (fun _ _ q=>Heap.get?_push_of_some _ q) (Nat.le_refl _) (b0A s.heap I.big),rfl,h _ (I.hok.fresh (Nat.le_refl _))⟩
theorem b0D:PE X (.Dict [] [] pos) tDNewT:=fun pins s σ H Q I h =>
 wpAny_Dict_empty ⟨.ref s.heap.objs.size,_,I.laid (a:=s.heap.objs.size) (o:=.dT []) (t':=s.toks) (fun _ _ q=>Heap.get?_push_of_some _ q) (Nat.le_refl _) (b0B s.heap I.big),rfl,h _ (I.hok.fresh (Nat.le_refl _))⟩
end
def b1D:List (TE × TE)→St→Hp→(List (V × V)→Hp→Prop)→Prop
 | [],_,H,Q=>Q [] H
 | (tk,tv) :: r,σ,H,Q=>tk σ H fun x H1=>tv σ H1 fun y H2=>b1D r σ H2 fun ps H3=>Q ((x,y) :: ps) H3
def mergeK (kvs more:List (Key × V)):List (Key × V):=more.foldl (fun acc kv=>a3m acc kv.1 kv.2) kvs
def tDisp (trs:List (TE × TE)):TE:=fun σ H Q=>∀ p,H p=none→b1D trs σ (upd H p (.dK [])) fun ps H2=>H2 p=some (.dK [])∧∃ kvs:List (Key × V),ps=kvs.map (fun kv=>(kV kv.1,kv.2))∧kvs.length≤15∧Q (.ref p) (upd H2 p (.dK (mergeK [] kvs)))
structure M1 (X:Cx) (o:Expr) (m:Str) (apos:Pos) (e:Expr) (cpos:Pos):Prop where
 base:attributeBase o m X.env (eval o X.env)=eval o X.env
 few:((backTo cpos (starEach [e] X.env)).all (fun x=>!x.1) && (backToKw cpos (keywordEach [] X.env)).all (fun x=>x.1.isSome)
  && decide (([e]:List Expr).length+([]:List Keyword).length+(if ([]:List Keyword).isEmpty then 0 else 1) < 30))=true
 line:(apos.endLine == cpos.line)=true
 trees:backTo cpos (starEach [e] X.env)=[(false,eval e X.env)]
structure M2 (X:Cx) (o:Expr) (m:Str) (apos:Pos) (e f:Expr) (cpos:Pos):Prop where
 base:attributeBase o m X.env (eval o X.env)=eval o X.env
 few:((backTo cpos (starEach [e,f] X.env)).all (fun x=>!x.1) && (backToKw cpos (keywordEach [] X.env)).all (fun x=>x.1.isSome)
  && decide (([e,f]:List Expr).length+([]:List Keyword).length+(if ([]:List Keyword).isEmpty then 0 else 1) < 30))=true
 line:(apos.endLine == cpos.line)=true
 trees:backTo cpos (starEach [e,f] X.env)=[(false,eval e X.env),(false,eval f X.env)]
def IsD (H:Hp) (a:Addr):Prop:=(∃ kvs,Rd H a (.dK kvs))∨∃ kvs,Rd H a (.dT kvs)
theorem isD_at {X:Cx} {pins:List (Addr × Obj)} {σ:St} {H:Hp} {s:Shared} {a:Addr} (I:Inv X pins σ H s) (d:IsD H a) :
  s.TypeIs (.ref a) "dict"∧(∀ b,Value.ref a=.ref b→∃ ob,s.heap.get? b=some ob∧ob.dict=none)∧(a == sysModules)=false:=by
 rcases d with ⟨kvs,e⟩ | ⟨kvs,e⟩
 ·obtain ⟨_,hd,vs,_,dd⟩:=a8S I.hok e
  refine ⟨dd.typeIs,fun b q=>?_,hd⟩
  cases q
  obtain ⟨ob,_,_,h1,h2,_⟩:=dd
  exact ⟨ob,h1,h2.2.1⟩
 ·obtain ⟨_,hd,xs,_,dd⟩:=b0y I.hok e
  refine ⟨dd.typeIs,fun b q=>?_,hd⟩
  cases q
  obtain ⟨ob,_,_,h1,h2,_⟩:=dd
  exact ⟨ob,h1,h2.2.1⟩
section
variable {X:Cx} {pins:List (Addr × Obj)} {σ:St} {H:Hp} {s:Shared} {a:Addr} {y d:V} {u r:Value} {o:Option V} {A:Around} {E:Value→Shared→Prop}
end
def tDPop1 (td ty:TE):TE:=fun σ H Q=>td σ H fun x H1=>∃ a,x=.ref a∧IsD H1 a∧ty σ H1 fun y H2=>∃ kvs k v,H2 a=some (.dK kvs)∧y=kV k∧a2B kvs k=some v∧Q v (upd H2 a (.dK (dropK kvs k)))
section
variable {X:Cx} {o e f:Expr} {apos cpos:Pos} {td ty tx:TE}
end
section
variable {X:Cx} {pins:List (Addr × Obj)} {σ:St} {H:Hp} {s:Shared} {a:Addr} {kvs:List (Key × V)} {A:Around} {E:Value→Shared→Prop}
end
section
variable {X:Cx} {pins:List (Addr × Obj)} {σ:St} {H:Hp} {s:Shared} {a:Addr} {y:V} {u:Value} {A:Around} {E:Value→Shared→Prop}
end
section
variable {prog:Program} {w:World} {K:Type} [DecidableEq K] {knd:HeapKind prog w K} {A:Around} {E:Value→Shared→Prop} {s:Shared} {d a:Addr} {k:K} {xs:List (K × Addr × Value)} {v:Value}
theorem a5A {Q:Value→Shared→Prop} (hu:knd.room A) (hkey:knd.is s.heap k a) (hm:s.heap.DictOfH knd d xs) (h1:∀ p,atKey xs k=some p→Q p.2 { s with toks:=s.toks+knd.draws k })
  (h2:atKey xs k=none→∀ h',h'.DictOfH knd d (storedH xs k a v)→Heap.SameBut d s.heap h'→Q v { s with heap:=h',toks:=s.toks+knd.draws k }) (hsz:xs.length≤sizeLine) :
  wpAny (model prog w) A (dictSetDefault d (.ref a) v) Q E s:=by
 obtain ⟨o,es,ep,ho,hc,hd,he,his,hn⟩:=hm
 unfold dictSetDefault
 try with_reducible refine wpAny_holding ?_
 refine wpAny_bind (knd.pyHash hu hkey (wpAny_bind (wpAny_dictFind_heap (s:={ s with toks:=s.toks+knd.draws k }) hu hkey ho hd he his hn (fun hno=>?_) fun j p hj=>?_)))
 ·have e0:=atKey_none_of_get hno
  have hnot:k∉xs.map (·.1):=not_mem_keys_of_get hno
  refine wpAny_bind (wpAny_rule (wpAny_bind (wpAny_updateDictKeys (hz:=by have e:=size_of_entries he;omega) (s:={ s with toks:=s.toks+knd.draws k }) ho hd (wpAny_pure (h2 e0 _ ⟨_,_,ep+1,Heap.get?_update_self _ ho (Obj.isFreed_of_dict (Obj.data_mapDictKeys hd _)),hc.mapDictKeys _,Obj.data_mapDictKeys hd _,?_,?_,?_⟩ (Heap.SameBut.update ..))))))
  ·rw [storedH_new e0]
   simp [he,entryOfKey]
  ·rw [storedH_new e0]
   intro x hx
   rcases List.mem_append.mp hx with hx | hx
   ·exact knd.keeps (his x hx) ho hd (Heap.SameBut.update ..)
   ·rw [List.mem_singleton.mp hx]
    exact knd.keeps hkey ho hd (Heap.SameBut.update ..)
  ·rw [storedH_new e0,List.map_append,List.nodup_append]
   refine ⟨hn,by simp,fun x hx y hy=>?_⟩
   rw [List.map_cons,List.map_nil,List.mem_singleton] at hy
   subst hy
   exact fun e=>hnot (e▸hx)
 ·refine wpAny_bind (wpAny_dictEntries (s:={ s with toks:=s.toks+knd.draws k }) ho hd ?_)
  rw [entry_at he j,hj]
  exact wpAny_bind (wpAny_rule (wpAny_pure (h1 _ (atKey_of_get hn hj))))
end
def tDSetd (td ty tx:TE):TE:=fun σ H Q=>td σ H fun x H1=>∃ a,x=.ref a∧IsD H1 a∧ty σ H1 fun y H2=>tx σ H2 fun z H3=>∃ kvs k b,H3 a=some (.dT kvs)∧y=.ref b∧H3 b=some (.tup (k.map kV))∧kvs.length < sizeLine∧(∀ v,a2B kvs k=some v→Q v H3)∧(a2B kvs k=none→Q z (upd H3 a (.dT (a3m kvs k z))))
theorem b0E {X:Cx} {o e f:Expr} {apos cpos:Pos} {td ty tx:TE} (hu:X.A.units+1 < cLine) (ho:PE X o td) (he:PE X e ty) (hf:PE X f tx) (m:M2 X o "setdefault" apos e f cpos):PE X (.Call (.Attribute o "setdefault" apos) [e,f] [] cpos) (tDSetd td ty tx):=by
 intro pins s σ H Q I h
 refine wpAny_Call_method m.base m.few m.line PySem.F.plainAttrs_dict PySem.F.slot_dict_setdefault PySem.F.type_dict_setdefault (thn (ho pins s σ H _ I h) fun u s1 ⟨x,H1,I1,rx,a,ex,d,q1⟩=>?_)
 subst ex
 obtain rfl:u=Value.ref a:=rx
 obtain ⟨t1,t2,_⟩:=isD_at I1 d
 refine ⟨t1,t2,?_⟩
 rw [m.trees]
 refine Calls.callWith_builtin rfl (Calls.evalArgs_plain (Calls.spliced_cons (thn (he pins s1 σ H1 _ I1 q1) fun iv s2 ⟨y,H2,I2,ry,q2⟩ =>
  Calls.spliced_cons (thn (hf pins s2 σ H2 _ I2 q2) fun fv s3 ⟨z,H3,I3,rz,kvs,k,b,e3,ey,eb,l,qs,qn⟩=>Calls.spliced_nil ?_))))
 subst ey
 cases (show iv=Value.ref b from ry)
 obtain ⟨z3,hd,xs,rel,dd⟩:=dt_of I3.hok e3
 have hz:xs.length≤sizeLine:=by rw [←Paired.length rel];exact z3
 have hl:(a3m kvs k z).length≤sizeLine:=by have:=a1N kvs k z;omega
 refine wpAny_call (codeAny_call_builtin PySem.F.slot_dict_setdefault.plain PySem.F.entry_dict_setdefault (PySem.F.slot_dict_setdefault.check _ _ _ _ _ _ _ _ dd.typeIs (PySem.F.args_dict_setdefault_3 _ _ _) ?_))
 show wpAny _ _ (Builtin.«dict.setdefault» ⟨[.ref a,.ref b,fv],[]⟩) _ _ s3
 unfold Builtin.«dict.setdefault»
 refine wpAny_bind ?_
 unfold Builtin.Dict.keyAndDefault
 refine wpAny_bind (wpAny_notOrdered_dict dd.typeIs ?_)
 show wpAny _ _ (pure (a,Value.ref b,some fv)) _ _ s3
 refine wpAny_pure ?_
 show wpAny _ _ (if (a == sysModules)=true then _ else (dictSetDefault a (.ref b) fv >>= _)) _ _ s3
 rw [if_neg (by rw [hd];exact Bool.false_ne_true)]
 refine wpAny_bind (a5A (tupleKind_room_in1 hu) (a6m I3.hok eb) dd (fun p hp=>wpAny_pure ?_) (fun hn h' dd' hs=>wpAny_pure ?_) hz)
 ·have r:=rel.val k
  rw [hp] at r
  cases hv:a2B kvs k with
  | none=>rw [hv] at r;exact False.elim r
  | some v =>
   rw [hv] at r
   exact ⟨v,H3,I3.tok _,r,qs v hv⟩
 ·have r:=rel.val k
  rw [hn] at r
  have e0:a2B kvs k=none:=by
   cases hv:a2B kvs k with
   | none=>rfl
   | some v=>rw [hv] at r;exact False.elim r
  obtain ⟨q,es,ep,hq,h2,h3,h4,_,h5⟩:=dd'
  refine ⟨z,upd H3 a (.dT (a3m kvs k z)),a5y I3 (ob:=.dT (a3m kvs k z)) (by rw [e3];exact True.intro) hs ⟨q,hq⟩ ⟨hl,hd,_,(rel.put k eb rz).keeps fun c ys ec=>?_,q,es,ep,hq,h2,h3,h4,h5⟩,rz,qn e0⟩
  rw [a0l (a4s ec e3 (fun z=>nomatch z))]
  exact ec
def a3T (h:Heap) (d:Addr) (es:Array DictEntry) (ep:Nat):Prop:=∃ o,h.get? d=some o∧o.ExactDict∧o.data=.dict es ep
section
variable {prog:Program} {w:World} {A:Around} {E:Value→Shared→Prop} {s:Shared} {it d:Addr} {i ep:Nat} {es:Array DictEntry}
theorem b2C {e:DictEntry} {Q:Option Value→Shared→Prop} (hit:s.heap.IsKeyIter it d i es.size ep) (hm:a3T s.heap d es ep) (hx:es[i]?=some e)
  (hQ:∀ h',h'.IsKeyIter it d (i+1) es.size ep→Heap.SameBut it s.heap h'→Q (some e.key) { s with heap:=h' }):wpAny (model prog w) A (pyNext (.ref it)) Q E s:=by
 obtain ⟨o,ho,hc,hd⟩:=id hit
 obtain ⟨od,hod,hcd,hdd⟩:=hm
 have hT:=hit.typeIs
 unfold pyNext
 refine wpAny_bind (wpAny_attempt (wpAny_callSpecial?_slot (name:=Str.ofString "__next__") hT F.slot_dict_keyiterator_next (wpAny_call_entry F.slot_dict_keyiterator_next hT F.entry_dict_keyiterator_next ?_ (F.args_dict_keyiterator_next_1 _))))
 unfold Builtin.«dict_keyiterator.__next__»
 repeat (first | with_reducible refine wpAny_typeNameOfWhole_keyiter hT ?_ | with_reducible refine wpAny_fieldsOf ho hd ?_ | with_reducible refine wpAny_dictEntries hod hdd ?_ | with_reducible refine wpAny_dictEpoch hod hdd ?_ | with_reducible refine wpAny_isOneOf_keyiter hT ?_ | wp_step)
 have em:(if (i:Int) < 0 then none else es[(i:Int).toNat]?)=some e:=by rw [if_neg (by omega),Int.toNat_natCast,hx]
 rw [em]
 refine wpAny_bind (wpAny_bind (wpAny_typeNameOfWhole_keyiter hT (wpAny_pure ?_)))
 refine wpAny_bind (wpAny_isOneOf_keyiter hT ?_)
 show wpAny _ _ (setField (.ref it) 1 (rawInt ((i:Int)+1)) >>= _) _ _ s
 refine wpAny_bind (wpAny_setField ho hd (by simp) ?_)
 have hit':(s.heap.update it (Obj.mapFields (·.setIfInBounds 1 (rawInt ((i:Int)+1))))).IsKeyIter it d (i+1) es.size ep :=
  ⟨_,Heap.get?_update_self _ ho (Obj.isFreed_of_fields (Obj.data_mapFields hd _)),(Obj.cls_mapFields ..).trans hc,by rw [Obj.data_mapFields hd];simp [rawInt]⟩
 refine wpAny_bind (wpAny_holding (wpAny_bind (wpAny_isOneOf_keyiter (s:={ s with heap:=s.heap.update it (Obj.mapFields (·.setIfInBounds 1 (rawInt ((i:Int)+1)))) }) hit'.typeIs ?_)))
 show wpAny _ _ (pure e.key) _ _ _
 exact wpAny_pure (wpAny_pure ⟨_,rfl,wpAny_pure (hQ _ hit' (Heap.SameBut.update ..))⟩)
theorem b2D {Q:Option Value→Shared→Prop} (hh:A.handled=none) (hit:s.heap.IsKeyIter it d i es.size ep) (hm:a3T s.heap d es ep) (hx:es[i]?=none) (hQ:∀ h',Heap.ExtBut it s.heap h'→Q none { s with heap:=h' }) :
  wpAny (model prog w) A (pyNext (.ref it)) Q E s:=by
 obtain ⟨o,ho,hc,hd⟩:=id hit
 obtain ⟨od,hod,hcd,hdd⟩:=hm
 have hT:=hit.typeIs
 unfold pyNext
 refine wpAny_bind (wpAny_attempt (wpAny_callSpecial?_slot (name:=Str.ofString "__next__") hT F.slot_dict_keyiterator_next (wpAny_call_entry F.slot_dict_keyiterator_next hT F.entry_dict_keyiterator_next ?_ (F.args_dict_keyiterator_next_1 _))))
 unfold Builtin.«dict_keyiterator.__next__»
 repeat (first | with_reducible refine wpAny_typeNameOfWhole_keyiter hT ?_ | with_reducible refine wpAny_fieldsOf ho hd ?_ | with_reducible refine wpAny_dictEntries hod hdd ?_ | with_reducible refine wpAny_dictEpoch hod hdd ?_ | with_reducible refine wpAny_isOneOf_keyiter hT ?_ | wp_step)
 have em:(if (i:Int) < 0 then none else es[(i:Int).toNat]?)=none:=by rw [if_neg (by omega),Int.toNat_natCast,hx]
 rw [em]
 refine wpAny_bind (wpAny_bind (wpAny_typeNameOfWhole_keyiter hT (wpAny_pure ?_)))
 show wpAny _ _ (setField (.ref it) 0 .none >>= _) _ _ s
 refine wpAny_bind (wpAny_setField ho hd (by simp) ?_)
 show wpAny _ _ (newExc (.type "StopIteration") [] >>= _) _ _ _
 refine wpAny_bind ?_
 simp only [newExc,newTuple]
 refine wpAny_bind (wpAny_newObj_type ?_ (by size_fits))
 refine wpAny_bind (m:=firstArgMember _ _) (wpAny_of_eq (a:=Value.none) (by first | rfl | (simp only [firstArgMember];rfl)) ?_)
 refine wpAny_newObj_type ?_ (by size_fits)
 simp only [raiseNew]
 refine wpAny_bind (wpAny_handled ?_)
 rw [show A.in1.handled=none from hh]
 refine wpAny_bind (wpAny_pure (wpAny_throw ?_))
 refine wpAny_bind (wpAny_isInstance (T:="StopIteration") (b:=true) ⟨_,Heap.get?_push_size _ rfl,rfl⟩ isSubtype_stop ?_)
 exact wpAny_pure (hQ _ (((Heap.SameBut.update ..).extBut.push _).push _))
theorem b2E {Q:Value→Shared→Prop} (hd:(d == sysModules)=false) (hm:a3T s.heap d es ep) (hQ:Q (.ref s.heap.objs.size) { s with heap:=s.heap.push { cls:=.type "dict_keyiterator",data:=.fields #[.ref d,.int 0 0,.int es.size 0,.int ep 0] } }) :
  wpAny (model prog w) A (pyIter (.ref d)) Q E s:=by
 obtain ⟨o,ho,hc,hdat⟩:=hm
 have hT:s.TypeIs (.ref d) "dict":=⟨o,ho,hc.1⟩
 refine wpAny_pyIter_slot hT F.slot_dict_iter (wpAny_call_entry F.slot_dict_iter hT F.entry_dict_iter ?_ (F.args_dict_iter_1 _))
 unfold Builtin.«dict.__iter__»
 refine wpAny_bind ?_
 unfold Builtin.Dict.dictSlotNone
 refine wpAny_bind (wpAny_notOrdered_dict hT ?_)
 show wpAny _ _ (pure (Value.ref d)) _ _ s
 refine wpAny_pure ?_
 show wpAny _ _ (Builtin.Dict.showsAll d >>= _) _ _ s
 unfold Builtin.Dict.showsAll
 rw [if_neg (by rw [hd];exact Bool.false_ne_true)]
 refine wpAny_bind (wpAny_pure (wpAny_bind (wpAny_dictEntries ho hdat (wpAny_bind (wpAny_dictEpoch ho hdat ?_)))))
 refine wpAny_bind (wpAny_newObj_type (wpAny_pure ⟨_,rfl,"dict_keyiterator",_,⟨_,Heap.get?_push_size _ rfl,rfl⟩,F.slot_dict_keyiterator_next.lookup,?_⟩))
 simpa [rawInt] using hQ
end
def rLenD:List V→Hp→VK→Prop:=fun xs H Q=>∃ a kvs,xs=[V.ref a]∧H a=some (.dK kvs)∧Q (.int kvs.length) H
theorem len_dK {X:Cx}:a1K X (.builtin "len") rLenD:=by
 intro pins s σ H xs us Q I r h
 obtain ⟨a,kvs,rfl,e,q⟩:=h
 obtain ⟨u,rfl,rx⟩:=a2H r
 cases rx
 exact d_len I (.inl e) fun t s' I'=>⟨.int kvs.length,H,I',⟨t,rfl⟩,q⟩
end L2
namespace L2
open PySem PySem.Spec PyProof.Rows PySem.W
def Lf {α:Type} (n:Nat) (P:α→Prop):KasT α→Prop
 | .ret a=>P a
 | .ask i j k=>i < n∧j < n∧∀ b,Lf n P (k b)
theorem Lf.bind {α β:Type} {n:Nat} {P:α→Prop} {Q:β→Prop} {f:α→KasT β} (hf:∀ a,P a→Lf n Q (f a)):∀ {t:KasT α},Lf n P t→Lf n Q (t.bind f)
 | .ret a,h=>hf a h
 | .ask i j k,⟨h1,h2,h3⟩=>⟨h1,h2,fun b=>Lf.bind hf (h3 b)⟩
def Pm (n:Nat) (p:Array Nat):Prop:=p.Perm (List.range n).toArray
theorem Pm.lt {n:Nat} {p:Array Nat} (h:Pm n p) (hn:0 < n) (i:Nat):p.getD i 0 < n:=by
 by_cases hi:i < p.size
 ·have e:p.getD i 0=p[i]:=by simp [Array.getD,hi]
  rw [e]
  have m:p[i]∈(List.range n).toArray:=h.mem_iff.mp (Array.getElem_mem hi)
  simpa using m
 ·have e:p.getD i 0=0:=by simp [Array.getD,hi]
  rw [e];exact hn
theorem Pm.rev {n:Nat} {p:Array Nat} (h:Pm n p) (i j:Nat):Pm n (kas_rev p i j):=(mirror_perm p i j _).trans h
theorem a8V {n:Nat} {p:Array Nat} (hn:0 < n) (h:Pm n p):∀ f m,Lf n (fun _=>True) (kas_asc p f m)
 | 0,_=>trivial
 | f+1,m=>⟨h.lt hn _,h.lt hn _,fun b=>by
  cases b with
  | true=>show Lf n _ (if true=true then _ else _);rw [if_pos rfl];trivial
  | false=>show Lf n _ (if false=true then _ else _);rw [if_neg (by decide)];exact a8V hn h f (m+1)⟩
theorem a3U {n:Nat} (hn:0 < n):∀ f p m q,Pm n p→Lf n (fun r=>Pm n r.1) (kas_desc f p m q)
 | 0,_,_,_,h=>h
 | f+1,p,m,q,h=>⟨h.lt hn _,h.lt hn _,fun b=>by
  cases b with
  | true =>
   show Lf n _ (if true=true then _ else _)
   rw [if_pos rfl]
   by_cases hq:q > 0
   ·rw [if_pos hq];exact a3U hn f _ _ _ (h.rev _ _)
   ·rw [if_neg hq];exact a3U hn f _ _ _ h
  | false =>
   show Lf n _ (if false=true then _ else _)
   rw [if_neg (by decide)]
   refine ⟨h.lt hn _,h.lt hn _,fun c=>?_⟩
   cases c with
   | true=>show Lf n _ (if true=true then _ else _);rw [if_pos rfl];exact h
   | false=>show Lf n _ (if false=true then _ else _);rw [if_neg (by decide)];exact a3U hn f _ _ _ h⟩
theorem a6n {n:Nat} {p:Array Nat} (hn:0 < n) (h:Pm n p) (m r:Nat):Lf n (fun x=>Pm n x.2) (kas_tail3 m r p):=by
 refine Lf.bind (fun a _=>?_) (a8V hn (h.rev 0 m) (r - m) m)
 exact h.rev 0 m
theorem a2U {n:Nat} {p:Array Nat} (hn:0 < n) (h:Pm n p) (m r:Nat):Lf n (fun x=>Pm n x.2) (kas_descPart m r p):=by
 refine Lf.bind (fun x hx=>?_) (a3U hn _ _ _ _ h)
 show Lf n _ (if x.2.2 > 0 then _ else _)
 by_cases hq:x.2.2 > 0
 ·rw [if_pos hq];exact a6n hn (hx.rev _ _) _ _
 ·rw [if_neg hq];exact a6n hn hx _ _
theorem b0F {n:Nat} {p:Array Nat} (hn:0 < n) (h:Pm n p) (r:Nat):Lf n (fun x=>Pm n x.2) (kas_count r p):=by
 refine Lf.bind (fun m _=>?_) (a8V hn h _ _)
 show Lf n _ (if (m == r)=true then _ else if m > 1 then _ else _)
 by_cases h1:(m == r)=true
 ·rw [if_pos h1];exact h
 ·rw [if_neg h1]
  by_cases h2:m > 1
  ·rw [if_pos h2]
   refine ⟨h.lt hn _,h.lt hn _,fun c=>?_⟩
   cases c with
   | true=>show Lf n _ (if true=true then _ else _);rw [if_pos rfl];exact h
   | false=>show Lf n _ (if false=true then _ else _);rw [if_neg (by decide)];exact a2U hn (h.rev _ _) _ _
  ·rw [if_neg h2];exact a2U hn h _ _
theorem a3V {n:Nat} {p:Array Nat} (hn:0 < n) (h:Pm n p) (k:Nat):∀ f l r,Lf n (fun _=>True) (kas_place p k f l r)
 | 0,_,_=>trivial
 | f+1,l,r=>by
  show Lf n _ (if l ≥ r then _ else _)
  by_cases hl:l ≥ r
  ·rw [if_pos hl];trivial
  ·rw [if_neg hl]
   refine ⟨h.lt hn _,h.lt hn _,fun c=>?_⟩
   cases c with
   | true=>show Lf n _ (if true=true then _ else _);rw [if_pos rfl];exact a3V hn h k f _ _
   | false=>show Lf n _ (if false=true then _ else _);rw [if_neg (by decide)];exact a3V hn h k f _ _
theorem b1E {n:Nat} (hn:0 < n):∀ f p k,Pm n p→Lf n (Pm n) (kas_bin f p k)
 | 0,_,_,h=>h
 | f+1,p,k,h=>Lf.bind (fun l _=>b1E hn f _ _ ((bubble_perm p k _).trans h)) (a3V hn h k k 0 k)
theorem a8W {n:Nat} (hn:0 < n):Lf n (Pm n) (kas_sort n):=by
 refine Lf.bind (fun r hr=>?_) (b0F hn (Array.Perm.refl _) n)
 show Lf n _ (if r.1 < n then _ else _)
 by_cases h:r.1 < n
 ·rw [if_pos h];exact b1E hn _ _ _ hr
 ·rw [if_neg h];exact hr
theorem a6o {α:Type} {n:Nat} {P:α→Prop} {cmp:Nat→Nat→(Bool→Shared→Prop)→Shared→Prop} {I:Shared→Prop} (hc:∀ i j C s,I s→i < n→j < n→(∀ b s',I s'→C b s')→cmp i j C s) :
  ∀ {t:KasT α} {s:Shared},Lf n P t→I s→t.kasWp cmp (fun a s'=>P a∧I s') s
 | .ret a,s,h,hI=>⟨h,hI⟩
 | .ask i j k,s,⟨h1,h2,h3⟩,hI=>hc i j _ s hI h1 h2 fun b s' hI'=>a6o hc (h3 b) hI'
section
variable {prog:Program} {w:World} {A:Around} {E:Value→Shared→Prop} {s:Shared}
def a7s (h:Heap) (v:Value):Prop:=∃ (b:Addr) (items:Array Value) (ns:List Int),v=.ref b∧IsTup h b items∧IntsAre items.toList ns
theorem a7s.ty {M:Model} {h:Heap} {v:Value} (t:a7s h v):Looks M h (typeOf v) (.type "tuple"):=by
 obtain ⟨b,items,ns,rfl,⟨o,ho,hc,_⟩,_⟩:=t
 exact hc▸(Looks.ld ho).andThen .now
theorem a8X {x y:Value} {Q:Bool→Shared→Prop} (hx:a7s s.heap x) (hy:a7s s.heap y) (hu:A.units < cLine) (h:∀ b,Q b s):wpAny (model prog w) A (oneLt' true x y) Q E s:=by
 obtain ⟨a,items,ns,rfl,ht,hi⟩:=hx
 obtain ⟨b,items2,ms,rfl,ht2,hj⟩:=hy
 obtain ⟨⟨cls,dd,data,sl⟩,ho,hc,n,hd⟩:=id ht
 obtain ⟨⟨cls2,dd2,data2,sl2⟩,ho2,hc2,n2,hd2⟩:=id ht2
 simp only at hc hd hc2 hd2
 subst hc hd hc2 hd2
 rw [oneLt'_eq]
 simp only [if_true]
 refine wpAny_bind (wpAny_cRoomFor hu ?_)
 refine wpAny_bind (wpAny_callSpecialIfBound?_slot (T:="tuple") ⟨_,ho,rfl⟩ PySem.F.slot_tuple_lt (call_meets PySem.F.slot_tuple_lt ⟨_,ho,rfl⟩ PySem.F.entry_tuple_lt (PySem.F.args_tuple_lt_2 _ _) (HT.a1U a b items items2 n n2 dd dd2 sl sl2 ns ms hi hj) ⟨ho,ho2,?_⟩))
 exact wpAny_truthy_bool (h _)
theorem a8Y {α β:Type} {M:Model} {f:α→Sem β} {g:α→β}:∀ (l:List α) {Q:List β→Shared→Prop},(∀ v∈l,∀ (Q':β→Shared→Prop),Q' (g v) s→wpAny M A (f v) Q' E s)→Q (l.map g) s→wpAny M A (l.mapM f) Q E s
 | [],_,_,h=>by rw [List.mapM_nil];exact wpAny_pure h
 | x :: l,Q,hf,h=>by
  rw [List.mapM_cons]
  exact wpAny_bind (hf x (.head _) _ (wpAny_bind (a8Y l (Q:=fun bs s'=>wpAny M A (pure (g x :: bs)) Q E s') (fun v hv=>hf v (.tail _ hv)) (wpAny_pure h))))
def fst? (h:Heap):Value→Option Value
 | .ref b=>match h.get? b with
  | some o=>match o.data with
   | .seq xs _=>xs[0]?
   | _=>none
  | none=>none
 | _=>none
theorem b0G {M:Model} {v0:Value} {vs:List Value} {Q:SortKind→Shared→Prop} (t:∀ v∈v0 :: vs,a7s s.heap v) (h0:fst? s.heap v0=none) (h:Q oneType' s):wpAny M A (keyKind' (v0 :: vs).toArray) Q E s:=by
 rw [kat_kind_eq,List.mapM_toArray,map_eq_pure_bind]
 refine wpAny_bind (wpAny_bind (a8Y (g:=fst? s.heap) _ (fun v hv Q' hq=>?_) (wpAny_pure ?_)))
 ·have ty:=(t v hv).ty (M:=M)
  obtain ⟨b,items,ns,rfl,⟨o,ho,hc,n,hd⟩,_⟩:=t v hv
  rw [kas_first_eq]
  refine wpAny_bind (ty.here ?_)
  rw [if_neg (by simp)]
  refine wpAny_bind (listItems_at ho hd (wpAny_pure ?_))
  have e:fst? s.heap (.ref b)=items[0]?:=by unfold fst?;simp only [ho,hd]
  rw [←e]
  exact hq
 ·have na:((List.map (fst? s.heap) (v0 :: vs)).toArray.all fun x=>x.isSome)=false:=by
   simp [h0]
  have n0:((List.map (fst? s.heap) (v0 :: vs)).toArray[0]?.bind id).isSome=false:=by simp [h0]
  rw [if_neg (by rw [na];decide),if_neg (by rw [n0];decide)]
  rw [oneTypeOnly'_eq,List.mapM_toArray,map_eq_pure_bind]
  refine wpAny_bind (wpAny_bind (wpAny_bind (kas_mapM (r:=Value.type "tuple") _ (fun v hv Q' hq=>((t v hv).ty (M:=M)).here hq) (wpAny_pure ?_))))
  have hall:((List.map (fun _=>Value.type "tuple") (v0 :: vs)).toArray.all fun x=>x == Value.type "tuple")=true:=by
   simp
  have e0:(List.map (fun _=>Value.type "tuple") (v0 :: vs)).toArray[0]?=some (Value.type "tuple"):=by simp
  rw [e0]
  simp only [hall,if_true]
  exact wpAny_pure (wpAny_pure h)
theorem a7s.keep {h h':Heap} {v:Value} {a:Addr} {o:Obj} (t:a7s h v) (ho:h.get? a=some o) (hc:o.cls=.type "list") (k:∀ b o,b≠a→h.get? b=some o→h'.get? b=some o):a7s h' v∧fst? h' v=fst? h v:=by
 obtain ⟨b,items,ns,rfl,⟨ob,hb,hcb,n,hd⟩,hi⟩:=t
 have ne:b≠a:=fun z=>by rw [z,ho] at hb;cases hb;rw [hc] at hcb;exact absurd (Value.type.inj hcb) (by decide)
 have hb':=k b ob ne hb
 refine ⟨⟨b,items,ns,rfl,⟨ob,hb',hcb,n,hd⟩,hi⟩,?_⟩
 unfold fst?
 simp only [hb,hb']
theorem a6p {n:Nat} {p:Array Nat} {vs:List Value} (h:Pm n p) (hn:vs.length=n):(p.toList.map fun i=>vs.getD i Value.none).Perm vs:=by
 have e:(List.range n).map (fun i=>vs.getD i Value.none)=vs:=by
  subst hn
  refine List.ext_getElem (by simp) fun i h1 h2=>?_
  simp [List.getD_eq_getElem?_getD,List.getElem?_eq_getElem h2]
 have q:p.toList.Perm (List.range n):=by
  have:=h.toList
  simpa using this
 have q2:=q.map fun i=>vs.getD i Value.none
 rw [e] at q2
 exact q2
theorem b0H {a:Addr} {vs:List Value} {n:Nat} {P:PySem.Fin→Shared→Prop} (ho:s.heap.get? a=some (seqObj "list" vs.toArray n)) (h64:vs.length < 64) (t:∀ v∈vs,a7s s.heap v) (h0:∀ v0 rest,vs=v0 :: rest→fst? s.heap v0=none) (hu:A.units < cLine)
  (h:∀ (h':Heap) (out:List Value) (c:Nat),out.Perm vs→h'.get? a=some (seqObj "list" out.toArray c)→(∀ b o,b≠a→s.heap.get? b=some o→h'.get? b=some o)→P (.done (.ret .none)) { s with heap:=h' }) :
  wpAny (model prog w) A (Builtin.«list.sort» ⟨[.ref a],[]⟩) P E s:=by
 have ha:a < s.heap.objs.size:=Heap.lt_size ho
 obtain ⟨e1,ho1⟩:∃ e1,(s.heap.update a (Obj.mapSeq fun _=>(#[]:Array Value))).get? a=some (seqObj "list" #[] e1):=⟨_,get?_update_seq ho fun _=>#[]⟩
 rw [list_sort_plain]
 refine wpAny_bind (listItems_at ho rfl (wpAny_bind (listUpdate_at ho rfl ?_ (by rw [List.size_toArray,sizeLine_eq];omega) (Nat.zero_le _))))
 refine wpAny_bind (seqEpoch_at ho1 rfl (wpAny_bind (wpAny_newTuple ?_ (by show vs.length≤_;rw [sizeLine_eq];omega))))
 refine wpAny_bind (wpAny_newList ?_ (Nat.zero_le _))
 refine wpAny_holding ?_
 have k1:∀ b o,b≠a→s.heap.get? b=some o→(((s.heap.update a (Obj.mapSeq fun _=>(#[]:Array Value))).push (seqObj "tuple" vs.toArray 0)).push (seqObj "list" #[] 0)).get? b=some o:=fun b o hb e =>
  Heap.get?_push_of_some _ (Heap.get?_push_of_some _ ((Heap.get?_update_ne _ _ _ _ hb).trans e))
 have ho6:(((s.heap.update a (Obj.mapSeq fun _=>(#[]:Array Value))).push (seqObj "tuple" vs.toArray 0)).push (seqObj "list" #[] 0)).get? a=some (seqObj "list" #[] e1):=Heap.get?_push_of_some _ (Heap.get?_push_of_some _ ho1)
 show wpAny (model prog w) A _ P E { s with heap:=((s.heap.update a (Obj.mapSeq fun _=>(#[]:Array Value))).push (seqObj "tuple" vs.toArray 0)).push (seqObj "list" #[] 0) }
 generalize (((s.heap.update a (Obj.mapSeq fun _=>(#[]:Array Value))).push (seqObj "tuple" vs.toArray 0)).push (seqObj "list" #[] 0))=h1 at k1 ho6 ⊢
 dsimp only
 have last:∀ (out:List Value),out.Perm vs→∃ c,(h1.update a (Obj.mapSeq fun _=>out.toArray)).get? a=some (seqObj "list" out.toArray c)∧(∀ b o,b≠a→s.heap.get? b=some o→(h1.update a (Obj.mapSeq fun _=>out.toArray)).get? b=some o):=fun out hp =>
  ⟨_,get?_update_seq ho6 fun _=>out.toArray,fun b o hb e=>(Heap.get?_update_ne _ _ _ _ hb).trans (k1 b o hb e)⟩
 by_cases h2:vs.toArray.size < 2
 ·rw [if_pos h2,if_pos h2]
  refine wpAny_bind (wpAny_pure ?_)
  rw [StateT.run_pure]
  refine wpAny_bind (wpAny_pure ?_)
  dsimp only
  refine wpAny_bind (seqEpoch_at ho6 rfl ?_)
  have e2:Array.map (fun x=>x.snd) (arrOf (SortSt.mk' general' (vs.toArray.zip vs.toArray) #[] 7 none))=vs.toArray:=by
   show Array.map (fun x=>x.snd) (vs.toArray.zip vs.toArray)=vs.toArray
   apply Array.toList_inj.mp
   simp [List.map_snd_zip]
  rw [e2]
  obtain ⟨c,hc,kk⟩:=last vs (List.Perm.refl _)
  refine wpAny_bind (listUpdate_at ho6 rfl ?_ (Nat.zero_le _) (by rw [List.size_toArray,sizeLine_eq];omega))
  simp only [bne_self_eq_false,Bool.false_eq_true,if_false]
  exact wpAny_pure (h _ vs c (List.Perm.refl _) hc kk)
 ·rw [if_neg h2,if_neg h2]
  rw [List.size_toArray] at h2
  obtain ⟨v0,rest,rfl⟩:∃ v0 rest,vs=v0 :: rest:=by
   match vs,h2 with
   | [],h2=>simp at h2
   | v0 :: rest,_=>exact ⟨v0,rest,rfl⟩
  have tk:=fun v hv=>a7s.keep (t v hv) ho rfl k1
  refine wpAny_bind (b0G (s:={ s with heap:=h1 }) (fun v hv=>(tk v hv).1) (by rw [(tk v0 (.head _)).2];exact h0 v0 rest rfl) ?_)
  have tree:(kas_sort (v0 :: rest).length).kasWp (kas_ask prog w A oneType' (v0 :: rest)) (fun p s'=>Pm (v0 :: rest).length p∧s'={ s with heap:=h1 }) { s with heap:=h1 }:=by
   refine a6o (I:=fun s'=>s'={ s with heap:=h1 }) (fun i j C s' hI hi hj hC=>?_) (a8W (by omega)) rfl
   subst hI
   have at_:∀ i,i < (v0 :: rest).length→a7s h1 ((v0 :: rest).getD i Value.none):=fun i hi=>by
    rw [List.getD_eq_getElem?_getD,List.getElem?_eq_getElem hi]
    exact (tk _ (List.getElem_mem hi)).1
   show wpAny (model prog w) A (keyLt' oneType' _ _) C _ _
   rw [keyLt'_oneType]
   exact a8X (at_ i hi) (at_ j hj) hu fun b=>hC b _ rfl
  refine wpAny_bind (wpAny_mono (kat_run (Q:=fun st' s'=>∃ p:Array Nat,arrOf st'=p.map (kas_item ((v0 :: rest).toArray.zip (v0 :: rest).toArray))∧failedOf st'=none∧Pm (v0 :: rest).length p∧s'={ s with heap:=h1 }) rfl (by omega) h64 (fun p' st' s' a1 a2 a3 a4=>⟨p',a2,a3,a4.1,a4.2⟩) tree) ?_ fun _ _ e=>e)
  rintro ⟨⟨⟩,st'⟩ s' ⟨p,har,hf,hp,rfl⟩
  dsimp only
  have hout:=kat_snds rfl har
  have po:=a6p hp rfl
  obtain ⟨c,hc,kk⟩:=last _ po
  refine wpAny_bind (seqEpoch_at ho6 rfl ?_)
  rw [hout]
  refine wpAny_bind (listUpdate_at ho6 rfl ?_ (Nat.zero_le _) (by rw [List.size_toArray,po.length_eq,sizeLine_eq];omega))
  rw [hf]
  simp only [bne_self_eq_false,Bool.false_eq_true,if_false]
  exact wpAny_pure (h _ _ c po hc kk)
end
section
variable {prog:Program} {w:World} {A:Around} {E:Value→Shared→Prop} {s:Shared} {d:Addr} {es:Array DictEntry} {ep:Nat}
theorem a3T.at {h h':Heap} (x:a3T h d es ep) (e:∀ o,h.get? d=some o→h'.get? d=some o):a3T h' d es ep:=by
 obtain ⟨o,ho,r⟩:=x
 exact ⟨o,e o ho,r⟩
theorem a8Z (hh:A.handled=none) (I:Addr) (hne:d≠I):Walks prog w A I [I,d] [I] es.size (fun i v=>∃ e,es[i]?=some e∧v=e.key) (fun i h=>h.IsKeyIter I d i es.size ep∧a3T h d es ep) where
 sub:=fun b hb=>by simp at hb;simp [hb]
 frame:=fun _ _ _ st hk=>⟨st.1.at fun o e=>hk I (by simp) o e,st.2.at fun o e=>hk d (by simp) o e⟩
 item:=fun i s Q E hi st hQ=>by
  have he:es[i]?=some es[i]:=Array.getElem?_eq_getElem hi
  refine b2C st.1 st.2 he fun h' hit' hs'=>?_
  exact hQ _ h' s.toks ⟨_,he,rfl⟩ ⟨hit',st.2.at fun o e=>(hs'.2 d hne).trans e⟩ fun b o hb e=>hs'.extBut b o (fun h=>hb (by simp [h])) e
 done:=fun s Q E st hQ=>b2D hh st.1 st.2 (by simp) fun h' he'=>hQ h' s.toks fun b o hb e=>he' b o (fun h=>hb (by simp [h])) e
 self:=fun _ _ _ _ st hQ=>wpAny_pyIter_keyiter st.1 hQ
theorem b0I (hd:(d == sysModules)=false):KdlSrc prog w "dict" d d es.size (fun i v=>∃ e,es[i]?=some e∧v=e.key) (fun h=>a3T h d es ep) where
 type:=fun s ⟨o,ho,hx,_⟩=>⟨o,ho,hx.1⟩
 there:=fun h ⟨o,ho,_⟩=>⟨Heap.lt_size ho,Heap.lt_size ho⟩
 keep:=fun h h' x k=>x.at fun o e=>k d (.inl rfl) o e
 notList:=by decide
 notTuple:=by decide
 hint:=fun A E s Q ⟨o,ho,hx,_⟩ h=>kdl_hint_dict ⟨o,ho,hx.1⟩ h
 iter:=fun A s hh hok=>by
  have lt:d < s.heap.objs.size:=by obtain ⟨o,ho,_⟩:=hok;exact Heap.lt_size ho
  exact ⟨_,_,fun E Q hQ=>b2E hd hok hQ,a8Z hh _ (Nat.ne_of_lt lt),⟨_,Heap.get?_push_size _ rfl,rfl,rfl⟩,hok.at fun o e=>Heap.get?_push_of_some _ e⟩
theorem a4M {Q:List Value→Shared→Prop} (hh:A.handled=none) (hd:(d == sysModules)=false) (hok:a3T s.heap d es ep) (hn:es.size≤sizeLine)
  (h:∀ h' tk,(∀ b o,s.heap.get? b=some o→h'.get? b=some o)→Q (es.toList.map (·.key)) { s with heap:=h',toks:=tk }):wpAny (model prog w) A (collect (.ref d)) Q E s:=by
 have lt:d < s.heap.objs.size:=by obtain ⟨o,ho,_⟩:=hok;exact Heap.lt_size ho
 have ne:s.heap.objs.size≠d:=Nat.ne_of_gt lt
 unfold collect
 refine wpAny_bind (wpAny_runValue (codeAny_builtin F.entry_proto_collect ?_))
 rw [Around.under_plainId F.plain_proto_collect _]
 show wpAny _ A.in1 (newList [] >>= fun l=>again (.builtin "list.__iadd__" ⟨[l,.ref d],[]⟩)) _ _ s
 refine wpAny_bind (wpAny_newObj_type ?_)
 refine wpAny_pure ⟨plainId_quiet F.plain_list_iadd _,codeAny_builtin F.entry_list_iadd ?_⟩
 rw [Around.under_plainId F.plain_list_iadd _]
 show wpAny _ A.in1 (Builtin.List.listExtendWith (.ref s.heap.objs.size) (.ref d) (.ref s.heap.objs.size)) _ _ _
 have hS0:(s.heap.push { cls:=.type "list",data:=.seq #[] }).get? s.heap.objs.size=some { cls:=.type "list",data:=.seq #[] }:=Heap.get?_push_size _ rfl
 have fin:∀ s':Shared,(∃ acc c,s'.heap.get? s.heap.objs.size=some { cls:=.type "list",dict:=none,data:=.seq acc c,slots:=#[] }∧acc.toList=es.toList.map (·.key)∧Q (es.toList.map (·.key)) s') →
   wpAny (model prog w) A (match Value.ref s.heap.objs.size with
    | .ref a=>do
     let o ←load a
     match o.data with
     | .seq xs _=>pure xs.toList
     | _=>unsupported "internal:collect"
    | _=>unsupported "internal:collect") Q E s':=fun s' ⟨acc,c,hS,ea,q⟩=>by
  show wpAny _ A (load s.heap.objs.size >>= _) _ _ _
  refine wpAny_bind (wpAny_load hS (wpAny_pure ?_))
  show Q acc.toList _
  rw [ea]
  exact q
 refine wpAny_mono (kdl_extend (s:={ s with heap:=s.heap.push { cls:=.type "list",data:=.seq #[] } }) (A:=A)
  (R:=fun r s'=>r=.ok (.ret (.ref s.heap.objs.size))∧∃ acc c,s'.heap.get? s.heap.objs.size=some { cls:=.type "list",dict:=none,data:=.seq acc c,slots:=#[] }∧acc.toList=es.toList.map (·.key)∧Q (es.toList.map (·.key)) s')
  (b0I (es:=es) (ep:=ep) hd) hh (hok.at fun o e=>Heap.get?_push_of_some _ e) s.heap.objs.size ne ne (.ref s.heap.objs.size) 0 hS0 (fun h' tk acc c kp hS hacc=>⟨rfl,acc,c,hS,?_,?_⟩) hn) (fun fn s' hz=>?_) (fun e s' hz=>?_)
 ·refine List.ext_getElem? fun i=>?_
  rw [Array.getElem?_toList,List.getElem?_map,Array.getElem?_toList]
  cases hi:acc[i]? with
  | none =>
   have:acc.size≤i:=Array.getElem?_eq_none_iff.mp hi
   rw [Array.getElem?_eq_none (by rw [←hacc.1];exact this)]
   rfl
  | some v =>
   obtain ⟨e,he,rfl⟩:=hacc.2 i v hi
   rw [he]
   rfl
 ·exact h h' tk fun b o e=>kp b o (Nat.ne_of_lt (Heap.lt_size e)) (Heap.get?_push_of_some _ e)
 ·rcases fn with f | c'
  ·obtain ⟨e,z⟩:=hz
   cases e
   exact fin s' z
  ·refine ⟨hz.1,codeAny_mono hz.2 fun r s'' z=>?_⟩
   obtain ⟨e,z⟩:=z
   subst e
   exact fin s'' z
 ·obtain ⟨z,_⟩:=hz
  cases z
end
def b2F (H:Hp) (x:V) (k:List Key):Prop:=∃ b,x=.ref b∧H b=some (.tup (k.map kV))
def rSortD:List V→Hp→VK→Prop:=fun xs H Q=>∃ d kvs,xs=[.ref d]∧H d=some (.dT kvs)∧kvs.length < 64∧(∀ kv∈kvs,∃ ns:List Int,kv.1=ns.map Sum.inl)∧(∀ k v r,kvs=(k,v) :: r→k=[]) ∧
 ∀ p H' out ks,a0t H H'→H p=none→H' p=some (.lst out)→ks.Perm (kvs.map (·.1))→Paired (b2F H') out ks→Q (.ref p) H'
theorem a7t {ns:List Int} {us:List Value} (r:a0D ((ns.map Sum.inl).map kV) us):IntsAre us ns:=by
 induction ns generalizing us with
 | nil=>cases r;exact .nil
 | cons n ns ih =>
  cases r with
  | cons r rr =>
   obtain ⟨t,rfl⟩:=r
   exact .cons _ _ (ih rr)
theorem unmap {α β:Type} {f:α→β} {l m:List β} (h:l.Perm m):∀ xs,m=xs.map f→∃ ys:List α,ys.Perm xs∧l=ys.map f:=by
 induction h with
 | nil=>exact fun xs e=>⟨[],by cases xs with | nil=>exact .nil | cons a t=>simp at e,rfl⟩
 | cons x h ih =>
  intro xs e
  cases xs with
  | nil=>simp at e
  | cons a t =>
   simp only [List.map_cons,List.cons.injEq] at e
   obtain ⟨ys,p,rfl⟩:=ih t e.2
   exact ⟨a :: ys,.cons _ p,by rw [e.1];rfl⟩
 | swap x y l =>
  intro xs e
  match xs,e with
  | [],e=>simp at e
  | [_],e=>simp at e
  | a :: b :: t,e =>
   simp only [List.map_cons,List.cons.injEq] at e
   exact ⟨b :: a :: t,.swap _ _ _,by rw [e.1,e.2.1,e.2.2];rfl⟩
 | trans h1 h2 ih1 ih2 =>
  intro xs e
  obtain ⟨ys,p,rfl⟩:=ih2 xs e
  obtain ⟨zs,p2,rfl⟩:=ih1 ys rfl
  exact ⟨zs,p2.trans p,rfl⟩
theorem a2V {α:Type} (g:α→Addr):∀ ys:List α,a0D (ys.map fun x=>V.ref (g x)) (ys.map fun x=>Value.ref (g x))
 | []=>.nil
 | y :: ys=>.cons rfl (a2V g ys)
theorem a2W {H':Hp}:∀ ys:List (List Key × Addr × Value),(∀ y∈ys,H' y.2.1=some (.tup (y.1.map kV)))→Paired (b2F H') (ys.map fun x=>V.ref x.2.1) (ys.map (·.1))
 | [],_=>.nil
 | y :: ys,h=>.cons ⟨_,rfl,h y (.head _)⟩ (a2W ys fun z hz=>h z (.tail _ hz))
theorem fst_eq {H:Hp} {kvs:List (List Key × V)} {xs:List (List Key × Addr × Value)} (r:Paired (fun (p:List Key × V) (q:List Key × Addr × Value)=>p.1=q.1∧H q.2.1=some (.tup (p.1.map kV))∧a0O p.2 q.2.2) kvs xs):kvs.map (·.1)=xs.map (·.1):=by
 induction r with
 | nil=>rfl
 | cons a _ ih=>rw [List.map_cons,List.map_cons,a.1,ih]
theorem b0J {X:Cx} (hc:X.calm=true) (hu:X.A.units+4 < cLine):a1K X (.builtin "sorted") rSortD:=by
 intro pins s σ H xs us Q I r h
 obtain ⟨d,kvs,rfl,e,h64,hi,h0,q⟩:=h
 obtain ⟨u,rfl,rx⟩:=a2H r
 cases rx
 obtain ⟨z,hd,xs,rel,ob,es,ep,ho,hx,hdat,he,hn⟩:=(show a0F X.prog X.w H s.heap d (.dT kvs) from I.hok d _ e)
 have lx:kvs.length=xs.length:=Paired.length rel
 have sz:es.size=xs.length:=size_of_entries he
 have hk:es.toList.map (·.key)=xs.map fun x=>Value.ref x.2.1:=by
  rw [he,List.map_map]
  rfl
 have tup:∀ x∈xs,a7s s.heap (.ref x.2.1)∧∃ k,H x.2.1=some (.tup (k.map kV))∧k=x.1:=fun x hxm=>by
  obtain ⟨i,hi'⟩:=List.mem_iff_getElem?.mp hxm
  obtain ⟨kv,hkv,r1,r2,r3⟩:=L2.Paired.left_of rel i x hi'
  obtain ⟨ns,en⟩:=hi kv (List.mem_of_getElem? hkv)
  obtain ⟨_,its,rv,it⟩:=a2j ((show a0F X.prog X.w H s.heap x.2.1 (.tup (kv.1.map kV)) from I.hok _ _ r2))
  rw [en] at rv
  exact ⟨⟨_,_,ns,rfl,it,by simpa using a7t rv⟩,kv.1,r2,r1⟩
 refine Calls.call_function_entry kind_sorted plain_sorted entry_sorted (args_sorted1 _) ?_
 unfold Builtin.«sorted»
 refine wpAny_bind (m:=checkCount "sorted" 1 1 _) (wpAny_pure ?_)
 refine wpAny_bind (a4M (I.ok.hd hc) hd ⟨ob,ho,hx,hdat⟩ (by rw [sz,←lx,sizeLine_eq];omega) fun h1 tk1 k1=>?_)
 rw [hk]
 refine wpAny_bind (wpAny_newList ?_ (by rw [List.length_map,←lx,sizeLine_eq];omega))
 have hoL:(h1.push (seqObj "list" (xs.map fun x=>Value.ref x.2.1).toArray 0)).get? h1.objs.size=some (seqObj "list" (xs.map fun x=>Value.ref x.2.1).toArray 0):=Heap.get?_push_size _ rfl
 have k2:∀ b o,s.heap.get? b=some o→(h1.push (seqObj "list" (xs.map fun x=>Value.ref x.2.1).toArray 0)).get? b=some o:=fun b o e=>Heap.get?_push_of_some _ (k1 b o e)
 show wpAny _ _ _ _ _ { s with heap:=h1.push (seqObj "list" (xs.map fun x=>Value.ref x.2.1).toArray 0),toks:=tk1 }
 have nL:∀ b o,h1.get? b=some o→b≠h1.objs.size:=fun b o e=>Nat.ne_of_lt (Heap.lt_size e)
 have I1:Inv X pins σ H { s with heap:=h1,toks:=tk1 }:=I.kept k1
 have hLn:H h1.objs.size=none:=I1.hok.fresh (Nat.le_refl _)
 have tk:∀ v∈xs.map (fun x=>Value.ref x.2.1),a7s (h1.push (seqObj "list" (xs.map fun x=>Value.ref x.2.1).toArray 0)) v:=fun v hv=>by
  obtain ⟨x,hxm,rfl⟩:=List.mem_map.mp hv
  obtain ⟨b,items,ns,eb,⟨o,hb,rr⟩,hh⟩:=(tup x hxm).1
  exact ⟨b,items,ns,eb,⟨o,k2 b o hb,rr⟩,hh⟩
 refine wpAny_bind (wpAny_holding (wpAny_call_entry slot_list_sort ⟨_,hoL,rfl⟩ entry_list_sort (b0H (s:={ s with heap:=h1.push (seqObj "list" (xs.map fun x=>Value.ref x.2.1).toArray 0),toks:=tk1 }) hoL (by rw [List.length_map,←lx];exact h64) tk (fun v0 rest ev=>?_) ?_ fun h' out c po hL kp=>⟨_,rfl,?_⟩) (args_list_sort _)))
 ·cases hxs:xs with
  | nil=>rw [hxs] at ev;simp at ev
  | cons x0 xr =>
   rw [hxs] at ev
   simp only [List.map_cons,List.cons.injEq] at ev
   obtain ⟨rfl,_⟩:=ev
   obtain ⟨kv0,hkv,r1,r2,r3⟩:=L2.Paired.left_of rel 0 x0 (by rw [hxs];rfl)
   have ek:kv0.1=[]:=by
    cases hkk:kvs with
    | nil=>rw [hkk] at hkv;simp at hkv
    | cons p pr =>
     rw [hkk] at hkv
     simp at hkv
     subst hkv
     exact h0 p.1 p.2 pr hkk
   rw [ek] at r2
   obtain ⟨_,its,rv,⟨o,hb,hcl,n,hdd⟩⟩:=a2j ((show a0F X.prog X.w H s.heap x0.2.1 (.tup []) from I.hok _ _ r2))
   cases rv
   have hb':=k2 _ _ hb
   rw [hxs] at hb'
   unfold fst?
   simp only [hb',hdd]
   rfl
 ·show X.A.units+1+1 < cLine
  omega
 ·obtain ⟨ys,py,rfl⟩:=unmap po xs rfl
  have kh:∀ b o,h1.get? b=some o→h'.get? b=some o:=fun b o e=>kp b o (nL b o e) (Heap.get?_push_of_some _ e)
  have I2:Inv X pins σ (upd H h1.objs.size (.lst (ys.map fun x=>V.ref x.2.1))) { s with heap:=h',toks:=tk1 }:=I1.laid (t':=tk1) kh (Nat.le_refl _) ⟨by rw [List.length_map,py.length_eq,←lx,sizeLine_eq];omega,_,c,a2V (fun x:List Key × Addr × Value=>x.2.1) ys,hL⟩
  have sm:=a0d hLn (.lst (ys.map fun x=>V.ref x.2.1))
  refine wpAny_pure ⟨_,rfl,.ref h1.objs.size,_,I2,rfl,q _ _ _ (ys.map (·.1)) sm hLn a0b (by rw [fst_eq rel];exact py.map _) (a2W ys fun y hy=>sm _ _ ?_)⟩
  obtain ⟨k,hk2,rfl⟩:=(tup y (py.mem_iff.mp hy)).2
  exact hk2
end L2
namespace L2
open PySem PySem.Spec
def a4q (ls:List Int):List (Key × V):=ls.map fun l=>((Sum.inl l:Key),V.bl true)
def a7u (l:Int) (ls:List Int):List Int:=if l∈ls then ls else ls++[l]
def a1B (k:List Int) (l:Int):List (List Int × List Int)→List (List Int × List Int)
 | []=>[(k,[l])]
 | (k',ls) :: r=>if k'=k then (k',a7u l ls) :: r else (k',ls) :: a1B k l r
abbrev kI (k:List Int):List Key:=k.map Sum.inl
def a4N (H:Hp) (kvs:List (List Key × V)) (wy:List (List Int × List Int)):Prop:=Paired (fun (kv:List Key × V) (q:List Int × List Int)=>kv.1=kI q.1∧∃ dx,kv.2=.ref dx∧H dx=some (.dK (a4q q.2))) kvs wy
theorem b1F {a b:List Int} (h:kI a=kI b):a=b:=by
 induction a generalizing b with
 | nil=>cases b with
  | nil=>rfl
  | cons y ys=>simp [kI] at h
 | cons x xs ih=>cases b with
  | nil=>simp [kI] at h
  | cons y ys =>
   simp only [kI,List.map_cons,List.cons.injEq,Sum.inl.injEq] at h
   rw [h.1,ih h.2]
theorem a9a (l:Int):∀ ls,a3m (a4q ls) (Sum.inl l) (.bl true)=a4q (a7u l ls):=fun ls=>by
 by_cases hm:l∈ls
 ·have hv:∀ ls:List Int,l∈ls→(a4q ls).any (fun kv=>decide (kv.1=Sum.inl l))=true:=fun ls h=>by
   rw [List.any_eq_true]
   exact ⟨(Sum.inl l,.bl true),List.mem_map.mpr ⟨l,h,rfl⟩,by simp⟩
  unfold a7u
  rw [if_pos hm]
  unfold a3m
  rw [if_pos (hv ls hm)]
  refine List.ext_getElem? fun i=>?_
  rw [List.getElem?_map]
  unfold a4q
  rw [List.getElem?_map]
  cases ls[i]? with
  | none=>rfl
  | some y =>
   simp only [Option.map_some]
   split <;> rfl
 ·have hv:a2B (a4q ls) (Sum.inl l)=none:=by
   unfold a2B
   rw [Option.map_eq_none_iff,List.find?_eq_none]
   intro x hx
   obtain ⟨y,hy,rfl⟩:=List.mem_map.mp hx
   simp only [decide_eq_true_eq,Sum.inl.injEq]
   exact fun z=>hm (z▸hy)
  rw [a6l _ hv]
  unfold a7u
  rw [if_neg hm]
  unfold a4q
  rw [List.map_append]
  rfl
theorem a4N.ups {H:Hp} {kvs:List (List Key × V)} {wy:List (List Int × List Int)} {dx:Addr} {o:HO} (h:a4N H kvs wy) (hn:V.ref dx∉kvs.map (·.2)):a4N (upd H dx o) kvs wy:=by
 induction h with
 | nil=>exact .nil
 | cons r t ih =>
  rw [List.map_cons,List.mem_cons,not_or] at hn
  obtain ⟨e1,d1,e2,e3⟩:=r
  exact .cons ⟨e1,d1,e2,by rw [a0l (fun z=>hn.1 (by rw [e2,z]))];exact e3⟩ (ih hn.2)
theorem wy_old {H:Hp} {k:List Int} {l:Int} {v:V} {kvs:List (List Key × V)} {wy:List (List Int × List Int)} (h:a4N H kvs wy):(kvs.map (·.2)).Nodup→a2B kvs (kI k)=some v →
  ∃ dx ls,v=.ref dx∧v∈kvs.map (·.2)∧(∃ q∈wy,q.2=ls)∧H dx=some (.dK (a4q ls))∧a4N (upd H dx (.dK (a4q (a7u l ls)))) kvs (a1B k l wy):=by
 induction h with
 | nil=>intro _ z;cases z
 | @cons kv q kvs wy r t ih =>
  intro nd hv
  rw [List.map_cons,List.nodup_cons] at nd
  obtain ⟨e1,d1,e2,e3⟩:=r
  obtain ⟨qk,qs⟩:=q
  by_cases hk:kv.1=kI k
  ·rw [a1G hk] at hv
   have ek:qk=k:=b1F (e1.symm.trans hk)
   cases hv
   refine ⟨d1,qs,e2,by rw [List.map_cons];exact .head _,⟨_,.head _,rfl⟩,e3,?_⟩
   unfold a1B
   rw [if_pos ek]
   exact .cons ⟨e1,d1,e2,a0b⟩ (a4N.ups t (by rw [←e2];exact nd.1))
  ·rw [a1H hk] at hv
   obtain ⟨dx,ls,rfl,hm,⟨q1,hq1,eq1⟩,hd,hw⟩:=ih nd.2 hv
   refine ⟨dx,ls,rfl,by rw [List.map_cons];exact .tail _ hm,⟨q1,.tail _ hq1,eq1⟩,hd,?_⟩
   unfold a1B
   rw [if_neg (fun z=>hk (by rw [e1,z]))]
   exact .cons ⟨e1,d1,e2,by rw [a0l (fun z=>nd.1 (by rw [e2,z];exact hm))];exact e3⟩ hw
theorem wy_new {H:Hp} {k:List Int} {l:Int} {dx:Addr} {kvs:List (List Key × V)} {wy:List (List Int × List Int)} (h:a4N H kvs wy):a2B kvs (kI k)=none→H dx=some (.dK (a4q [l])) →
  a4N H (kvs++[(kI k,.ref dx)]) (a1B k l wy):=by
 induction h with
 | nil=>exact fun _ hd=>.cons ⟨rfl,dx,rfl,hd⟩ .nil
 | @cons kv q kvs wy r t ih =>
  intro hv hd
  obtain ⟨e1,d1,e2,e3⟩:=r
  obtain ⟨qk,qs⟩:=q
  by_cases hk:kv.1=kI k
  ·rw [a1G hk] at hv;cases hv
  ·rw [a1H hk] at hv
   unfold a1B
   rw [if_neg (fun z=>hk (by rw [e1,z]))]
   exact .cons ⟨e1,d1,e2,e3⟩ (ih hv hd)
end L2
namespace L2
open PySem PySem.Spec PyProof.Rows
section
variable {prog:Program} {w:World} {A:Around} {E:Value→Shared→Prop} {s:Shared} {k:Bool} {ee it l:Addr} {n:Nat} {xs:Array Value} {x old:Value}
theorem a7v {Q:Value→Shared→Prop} (he:IsEnum s.heap ee it n old) (hi:SIt k s.heap it l n) (hl:SAt k s.heap l xs) (hx:xs[n]?=some x) (hne:ee≠it)
  (hQ:∀ h',IsEnumOut h' ee it ((n:Int)+1) x s.heap.objs.size→SIt k h' it l (n+1)→h'.get? s.heap.objs.size=some { cls:=.type "tuple",data:=.seq #[.int n s.toks,x] } →
   (∀ b o,b≠ee→b≠it→s.heap.get? b=some o→h'.get? b=some o)→Q (.ref s.heap.objs.size) { s with heap:=h',toks:=s.toks+1 }) :
  wpAny (model prog w) A (Builtin.«enumerate.__next__» ⟨[.ref ee],[]⟩) (fun fin s'=>∃ v,fin=.done (.ret v)∧Q v s') E s:=by
 obtain ⟨hp,g,d,tk,os⟩:=s
 show wpAny _ _ (field (.ref ee) 2 >>= _) _ _ _
 refine wpAny_bind (wpAny_field he rfl (x:=.ref it) rfl (wpAny_bind (a8I hi hl hx fun g1 i1 b1=>?_)))
 replace b1:Heap.SameBut it hp g1:=b1
 have e1:IsEnum g1 ee it n old:=(b1.2 ee hne).trans he
 show wpAny _ _ (field (.ref ee) 3 >>= _) _ _ ⟨g1,g,d,tk,os⟩
 refine wpAny_bind (wpAny_field e1 rfl (x:=rawInt n) rfl ?_)
 show wpAny _ _ (field (.ref ee) 4 >>= _) _ _ ⟨g1,g,d,tk,os⟩
 refine wpAny_bind (wpAny_field e1 rfl (x:=.none) rfl ?_)
 show wpAny _ _ (mkInt n >>= _) _ _ ⟨g1,g,d,tk,os⟩
 refine wpAny_bind (wpAny_mkInt ?_)
 show wpAny _ _ (setField (.ref ee) 3 (rawInt ((n:Int)+1)) >>= _) _ _ ⟨g1,g,d,tk+1,os⟩
 refine wpAny_bind (wpAny_setField_rec e1 (by simp) fun g2 e2 b2=>?_)
 replace b2:Heap.SameBut ee g1 g2:=b2
 replace e2:IsEnum g2 ee it ((n:Int)+1) old:=e2
 show wpAny _ _ (setField (.ref ee) 4 .none >>= _) _ _ ⟨g2,g,d,tk+1,os⟩
 refine wpAny_bind (wpAny_setField_rec e2 (by simp) fun g3 e3 b3=>?_)
 replace b3:Heap.SameBut ee g2 g3:=b3
 replace e3:IsEnum g3 ee it ((n:Int)+1) old:=e3
 show wpAny _ _ (newTuple [.int n tk,x] >>= _) _ _ ⟨g3,g,d,tk+1,os⟩
 refine wpAny_bind (wpAny_newTuple ?_)
 have e4:IsEnum (g3.push { cls:=.type "tuple",data:=.seq #[.int n tk,x] }) ee it ((n:Int)+1) old:=Heap.get?_push_of_some _ e3
 generalize q4:g3.push { cls:=.type "tuple",data:=.seq #[.int n tk,x] }=g4 at e4
 have sz:g3.objs.size=hp.objs.size:=by rw [b3.1,b2.1,b1.1]
 have lt:ee < hp.objs.size:=Heap.lt_size he
 have t4:g4.get? hp.objs.size=some { cls:=.type "tuple",data:=.seq #[.int n tk,x] }:=by rw [←q4,←sz];exact Heap.get?_push_size _ rfl
 have k4:∀ b o,b≠ee→b≠it→hp.get? b=some o→g4.get? b=some o:=fun b o c1 c2 hb=>by
  rw [←q4];exact Heap.get?_push_of_some _ (b3.extBut b o c1 (b2.extBut b o c1 (b1.extBut b o c2 hb)))
 have i4:SIt k g4 it l (n+1):=i1.at fun o e=>by
  rw [←q4];exact Heap.get?_push_of_some _ (b3.extBut _ _ (Ne.symm hne) (b2.extBut _ _ (Ne.symm hne) e))
 show wpAny _ _ (Builtin.SmallTypes.ownedTupleIsFree (.ref ee) >>= _) _ _ ⟨g4,g,d,tk+1,os⟩
 rw [sz]
 clear q4 e3 b3 e2 b2 e1 b1 i1 sz g3 g2 g1
 refine wpAny_bind ?_
 unfold Builtin.SmallTypes.ownedTupleIsFree
 refine wpAny_bind (wpAny_field e4 rfl (x:=.none) rfl (wpAny_pure ?_))
 simp only [if_true]
 refine wpAny_bind (wpAny_rule (wpAny_bind (wpAny_field e4 rfl (x:=old) rfl (wpAny_bind (wpAny_setField_rec e4 (by simp) fun g5 e5 b5=>?_)))))
 replace b5:Heap.SameBut ee g4 g5:=b5
 replace e5:IsEnum g5 ee it ((n:Int)+1) x:=e5
 show wpAny _ _ (Builtin.SmallTypes.ownedTupleHandOut (.ref ee) (.ref hp.objs.size) >>= _) _ _ ⟨g5,g,d,tk+1,os⟩
 refine wpAny_bind ?_
 unfold Builtin.SmallTypes.ownedTupleHandOut
 refine wpAny_bind (wpAny_setField_rec e5 (by simp) fun g6 e6 b6=>?_)
 replace b6:Heap.SameBut ee g5 g6:=b6
 replace e6:IsEnumOut g6 ee it ((n:Int)+1) x hp.objs.size:=e6
 refine wpAny_setField_rec e6 (by simp) fun g7 e7 b7=>?_
 replace b7:Heap.SameBut ee g6 g7:=b7
 replace e7:IsEnumOut g7 ee it ((n:Int)+1) x hp.objs.size:=e7
 have up:∀ b o,b≠ee→g4.get? b=some o→g7.get? b=some o:=fun b o c1 e=>b7.extBut b o c1 (b6.extBut b o c1 (b5.extBut b o c1 e))
 exact wpAny_bind (wpAny_letGo (wpAny_pure ⟨_,rfl,hQ g7 e7 (i4.at fun o e=>up _ o (Ne.symm hne) e) (up _ _ (Nat.ne_of_gt lt) t4) fun b o c1 c2 e=>up b o c1 (k4 b o c1 c2 e)⟩))
theorem a3v {Q:Option Value→Shared→Prop} (he:IsEnum s.heap ee it n old) (hi:SIt k s.heap it l n) (hl:SAt k s.heap l xs) (hx:xs[n]?=some x) (hne:ee≠it)
  (hQ:∀ h',IsEnumOut h' ee it ((n:Int)+1) x s.heap.objs.size→SIt k h' it l (n+1)→h'.get? s.heap.objs.size=some { cls:=.type "tuple",data:=.seq #[.int n s.toks,x] } →
   (∀ b o,b≠ee→b≠it→s.heap.get? b=some o→h'.get? b=some o)→Q (some (.ref s.heap.objs.size)) { s with heap:=h',toks:=s.toks+1 }):wpAny (model prog w) A (pyNext (.ref ee)) Q E s:=by
 have hT:s.TypeIs (.ref ee) "enumerate":=⟨_,he,rfl⟩
 unfold pyNext
 exact wpAny_bind (wpAny_attempt (wpAny_callSpecial?_slot (name:=Str.ofString "__next__") hT F.slot_enumerate_next (wpAny_call_entry F.slot_enumerate_next hT F.entry_enumerate_next
  (a7v he hi hl hx hne fun h' a b c d=>wpAny_pure (hQ h' a b c d)) (F.args_enumerate_next_1 _))))
theorem a3w {Q:Option Value→Shared→Prop} (hh:A.handled=none) (he:IsEnum s.heap ee it n old) (hi:SIt k s.heap it l n) (hl:SAt k s.heap l xs) (hx:xs[n]?=none)
  (hQ:∀ h',Heap.ExtBut it s.heap h'→Q none { s with heap:=h' }):wpAny (model prog w) A (pyNext (.ref ee)) Q E s:=by
 have hT:s.TypeIs (.ref ee) "enumerate":=⟨_,he,rfl⟩
 unfold pyNext
 refine wpAny_bind (wpAny_attempt (wpAny_callSpecial?_slot (name:=Str.ofString "__next__") hT F.slot_enumerate_next (wpAny_call_entry F.slot_enumerate_next hT F.entry_enumerate_next ?_ (F.args_enumerate_next_1 _))))
 show wpAny _ _ (field (.ref ee) 2 >>= _) _ _ _
 refine wpAny_bind (wpAny_field he rfl (x:=.ref it) rfl (wpAny_bind (endS hh hi hl hx fun h' e b he'=>?_)))
 obtain ⟨o,ho,hc⟩:=he'
 exact wpAny_bind (wpAny_isInstance (T:="StopIteration") (b:=true) ⟨o,ho,hc⟩ isSubtype_stop (wpAny_pure (hQ _ b)))
theorem meetsE (l:Addr) (xs:Array Value) (n:Nat) (dct:Option Addr) (sl:Array (Option Value)) :
  Meets (Builtin.«enumerate.__new__» ⟨[.type "enumerate",.ref l],[]⟩) (fun _ R s=>s.heap.get? l=some { cls:=.type "tuple",dict:=dct,data:=.seq xs n,slots:=sl } ∧
   R (.ok (.ret (.ref (s.heap.push (itO true l)).objs.size))) { s with heap:=(s.heap.push (itO true l)).push { cls:=.type "enumerate",data:=.fields #[.none,.bool false,.ref s.heap.objs.size,rawInt 0,.none,.none] } }) :=
 .of_wp fun prog w A R s h=>by
  obtain ⟨hp,g,d,tk,os⟩:=s
  obtain ⟨hl,h⟩:=h
  have hsub:=sub_enumerate
  have hL:Heap.IsTuple (Shared.heap ⟨hp,g,d,tk,os⟩) l xs:=⟨_,hl,rfl,n,rfl⟩
  wp_walk using AutoSeq1.wpAny_loadPart' hl
  refine wpAny_stack_any fun st=>wpAny_pure ?_
  split
  ·rename_i c _ _ _ _ _
   cases (c == Value.type "enumerate") <;> (wp_walk using AutoSeq1.wpAny_loadPart' hl,wpAny_pyIter_tuple hL) <;> exact ⟨_,rfl,h⟩
  ·wp_walk using AutoSeq1.wpAny_loadPart' hl,wpAny_pyIter_tuple hL
   exact ⟨_,rfl,h⟩
structure EAt (k:Bool) (ee it l:Addr) (n:Nat) (h:Heap):Prop where
 en:∃ old,IsEnum h ee it n old
 a1:SIt k h it l n
theorem callE {Q:Value→Shared→Prop} (h1:SAt k s.heap l xs) (h:∀ h',EAt k (s.heap.objs.size+1) s.heap.objs.size l 0 h'→(∀ c o,s.heap.get? c=some o→h'.get? c=some o)→Q (.ref (s.heap.objs.size+1)) { s with heap:=h' }) :
  wpAny (model prog w) A (call (.type "enumerate") [.ref l]) Q E s:=by
 cases k with
 | false=>exact call_enumerate_list h1 fun h' he hi _ kp=>h h' ⟨⟨_,he⟩,hi⟩ kp
 | true =>
  obtain ⟨⟨c,dct,dt,sl⟩,hl,hc,n,hd⟩:=h1
  replace hc:c=.type "tuple":=hc
  replace hd:dt=.seq xs n:=hd
  subst hc hd
  refine callType_new F.called_enumerate (by decide) (F.typeCall_enumerate_1 _) (F.newCall_enumerate_1 _) (fun obj=>F.args_object_init_2 obj _) F.entry_enumerate_new (meetsE l xs n dct sl) ⟨hl,?_⟩
  have z1:(s.heap.push (itO true l)).objs.size=s.heap.objs.size+1:=Heap.size_push ..
  show _∧_
  rw [z1]
  have g1:IsEnum ((s.heap.push (itO true l)).push { cls:=.type "enumerate",data:=.fields #[.none,.bool false,.ref s.heap.objs.size,rawInt 0,.none,.none] }) (s.heap.objs.size+1) s.heap.objs.size 0 .none:=by
   have q:=Heap.get?_push_size (s.heap.push (itO true l)) (o:={ cls:=.type "enumerate",data:=.fields #[.none,.bool false,.ref s.heap.objs.size,rawInt 0,.none,.none] }) rfl
   rw [z1] at q
   exact q
  exact ⟨⟨_,g1,rfl⟩,h _ ⟨⟨_,g1⟩,.new (Heap.get?_push_of_some _ (Heap.get?_push_size _ a3R))⟩ fun c o e=>Heap.get?_push_of_some _ (Heap.get?_push_of_some _ e)⟩
end
def Ite (K:PySem.W.Frag) (k:Bool) (a:Addr):It :=
 ⟨fun i H=>∃ xs x,SqK K k H a xs∧xs[i]?=some x,
  fun i H v H'=>∃ p x,v=.ref p∧H p=none∧(∀ xs,SqK K k H a xs→xs[i]?=some x)∧H'=upd H p (.tup [.int i,x]),
  fun i H=>∃ xs,SqK K k H a xs∧xs.length≤i⟩
theorem EAt.obj {k:Bool} {ee it l:Addr} {n:Nat} {h:Heap} (Z:EAt k ee it l n h):∀ b∈[ee,it],∃ o,h.get? b=some o∧∀ v,o.data≠.cell v:=fun b hb=>by
 obtain ⟨⟨old,he⟩,h1⟩:=Z
 simp only [List.mem_cons,List.not_mem_nil,or_false] at hb
 rcases hb with rfl | rfl
 ·exact ⟨_,he,fun v z=>by cases z⟩
 ·exact h1.obj
theorem a9b {P:Program} {w:World} {K:PySem.W.Frag} {elts:List Expr} {x1} {pos:Pos} {k:Bool} {ee it a:Addr} (hne:ee≠it):b3p P w K (.Tuple elts x1 pos) (Ite K k a) [ee,it] ee (fun n h=>EAt k ee it a n h) where
 mem:=by simp
 obj:=fun i h st=>st.obj
 keep:=fun i h h' ⟨⟨old,he⟩,h1⟩ kp=>⟨⟨old,kp ee (by simp) _ he⟩,h1.at fun o e=>kp it (by simp) o e⟩
 item:=by
  intro X hP hw hK hc i pins s σ H E I hf st hg
  subst hP hw hK
  obtain ⟨xs,x,q1,hx⟩:=hg
  obtain ⟨us,r1,p1⟩:=a7T I q1
  obtain ⟨u,hu,ru⟩:=r1.get hx
  have lt:∀ b∈[ee,it],b < s.heap.objs.size:=fun b hb=>by
   obtain ⟨o,ho,_⟩:=st.obj b hb
   exact Heap.lt_size ho
  obtain ⟨⟨old,he⟩,h1⟩:=st
  refine a3v he h1 p1 (x:=u) (by simpa using hu) hne fun h' z1 a1 pr kk=>?_
  refine ⟨_,rfl,wpAny_letOwnedTupleGo_enum (s:={ s with heap:=h',toks:=s.toks+1 }) z1 fun h2 z2 b2=>?_⟩
  replace b2:Heap.SameBut ee h' h2:=b2
  have hT:H s.heap.objs.size=none:=I.hok.fresh (Nat.le_refl _)
  have I1:Inv X pins σ (upd H s.heap.objs.size (.tup [.int i,x])) { s with heap:=s.heap.push { cls:=.type "tuple",data:=.seq #[.int i s.toks,u] },toks:=s.toks+1 }:=I.laid (t':=s.toks+1) (fun b u e=>Heap.get?_push_of_some _ e) (Nat.le_refl _) ⟨by show 2≤sizeLine;decide,[.int i s.toks,u],.cons ⟨_,rfl⟩ (.cons ru .nil),⟨_,Heap.get?_push_size _ rfl,_,rfl⟩⟩
  have Tz:s.heap.objs.size≠ee:=Nat.ne_of_gt (lt ee (by simp))
  have fp:∀ b∈[ee,it],a6Y X pins (upd H s.heap.objs.size (.tup [.int i,x])) b:=fun b hb=>by
   obtain ⟨f0,f1,f2,f3,f4,f5⟩:=hf b hb
   exact ⟨by rw [a0l (Nat.ne_of_lt (lt b hb))];exact f0,f1,f2,f3,f4,f5⟩
  have I2:=I1.turnedL (h':=h2) (t':=s.toks+1) (fun c o hc e=>by
   simp only [List.mem_cons,List.not_mem_nil,or_false,not_or] at hc
   by_cases zc:c=s.heap.objs.size
   ·subst zc
    rw [Heap.get?_push_size _ rfl] at e
    cases e
    exact b2.extBut _ _ Tz pr
   ·have e':s.heap.get? c=some o:=by rw [←e];exact (Heap.get?_push_ne _ _ _ zc).symm
    exact b2.extBut _ _ hc.1 (kk c o hc.1 hc.2 e')) fp
  refine ⟨.ref s.heap.objs.size,_,I2,rfl,⟨_,x,rfl,hT,fun zs hz=>?_,rfl⟩,⟨⟨_,z2⟩,a1.at fun o e=>b2.extBut _ _ (Ne.symm hne) e⟩,fun b hb=>(fp b hb).1⟩
  rw [a3Q I hz q1];exact hx
 done:=by
  intro X hP hw hK hc i pins s σ H E I hf st hg
  subst hP hw hK
  obtain ⟨xs,q1,hl⟩:=hg
  obtain ⟨us,r1,p1⟩:=a7T I q1
  have e1:=r1.length
  obtain ⟨⟨old,he⟩,h1⟩:=st
  refine a3w (I.ok.hd hc) he h1 p1 (by simp;omega) fun h' kk=>⟨rfl,I.turnedL (t':=s.toks) (fun c o hc e=>?_) hf⟩
  simp only [List.mem_cons,List.not_mem_nil,or_false,not_or] at hc
  exact kk c o hc.2 e
 self:=fun _ _ _ _ _ ⟨⟨_,he⟩,_⟩ h=>wpAny_pyIter_enum he h
theorem b1G:bootBuiltins "enumerate"=some (.type "enumerate"):=by decide +kernel
def iEnum (K:PySem.W.Frag) (k:Bool) (ta:TA):TI:=fun σ H R=>ta σ H fun vs H1=>∃ a xs,vs=[.ref a]∧SqK K k H1 a xs∧R (Ite K k a) H1
theorem b2G {X:Cx} {elts:List Expr} {x1} {tp:Pos} {a:Expr} {ta:TA} {p pos:Pos} (k:Bool) (hg:Gl X "enumerate") (hm:X.mg "enumerate"=none) (ha:PA X [a] ta) (hs:starEach [a] X.env=[(false,eval a X.env)]:=by rfl) :
  PI X (.Tuple elts x1 tp) (.Call (.Name "enumerate" p) [a] [] pos) (iEnum X.K k ta):=by
 intro pins s σ H R I h
 refine Call_ (a1t I hg hm b1G (PyProof.Rows.callWith_type1 (thn (ha pos pins s σ H _ I h) fun us s1 ⟨vs,H1,I1,r1,q1⟩=>?_) (by rw [hs];rfl) rfl))
 obtain ⟨a',xs,e,q1,q⟩:=q1
 subst e
 obtain ⟨u,rfl,ru⟩:=r1.one
 cases ru
 obtain ⟨us,e1,p1⟩:=a7T I1 q1
 refine callE p1 fun h' Z kp=>?_
 obtain ⟨old,he⟩:=Z.en
 refine wpAny_pyIter_enum (s:={ s1 with heap:=h' }) he ?_
 refine ⟨_,[s1.heap.objs.size+1,s1.heap.objs.size],_,_,H1,rfl,I1.kept (t':=s1.toks) kp,a9b (Nat.succ_ne_self _),Z,fun c hc=>?_,q⟩
 have ge:s1.heap.objs.size≤c:=by
  simp only [List.mem_cons,List.not_mem_nil,or_false] at hc
  rcases hc with rfl | rfl <;> omega
 exact I1.fpOk ge (I1.hok.fresh ge)
theorem b0K {K:PySem.W.Frag} {k:Bool} {a:Addr} {xs:List V} {g:TG} {tb:TS} {D:b0b} {σ:St} {H:Hp} (Pv:Nat→St→Hp→Prop) (h0:Pv 0 σ H) (hl:∀ i σ H,i≤xs.length→Pv i σ H→SqK K k H a xs)
  (hs:∀ i x p σ H,xs[i]?=some x→Pv i σ H→H p=none→g (.ref p) σ (upd H p (.tup [.int i,x])) fun σ2 H2=>tb { D with nx:=Pv (i+1),ct:=Pv (i+1),bk:=D.nx } σ2 H2) (hd:∀ σ H,Pv xs.length σ H→D.nx σ H) :
  ∃ W:Nat→Nat→St→Hp→Prop,(∃ m,W 0 m σ H)∧∀ i m σ H,W i m σ H →
   ((Ite K k a).stop i H∧D.nx σ H)∨((Ite K k a).go i H∧∃ N:St→Hp→Prop,(∀ σ' H',N σ' H'→∃ m',m' < m∧W (i+1) m' σ' H')∧∀ x H',(Ite K k a).yld i H x H'→g x σ H' fun σ2 H2=>tb { D with nx:=N,ct:=N,bk:=D.nx } σ2 H2):=by
 refine ⟨fun i m σ H=>m=xs.length - i∧i≤xs.length∧Pv i σ H,⟨xs.length,by simp,Nat.zero_le _,h0⟩,?_⟩
 rintro i m σ H ⟨rfl,hi,p⟩
 have q1:=hl i σ H hi p
 by_cases hlt:i < xs.length
 ·refine .inr ⟨⟨xs,_,q1,List.getElem?_eq_getElem hlt⟩,Pv (i+1),fun σ' H' n=>⟨xs.length - (i+1),by omega,rfl,by omega,n⟩,?_⟩
  rintro v H' ⟨p',x,rfl,hn,e1,rfl⟩
  exact hs i x p' σ H (e1 _ q1) p hn
 ·have e:i=xs.length:=by omega
  subst e
  exact .inl ⟨⟨xs,q1,Nat.le_refl _⟩,hd σ H p⟩
abbrev B30:Int:=1000000000000000000000000000000
def b0L (i j:Int):Prop:=(0≤i∧i≤10000000000 * B30)∧(0≤j∧j≤10000000000 * B30)
end L2
namespace L2
open PySem
inductive Gr (b:Int) (lo:Bool):Nat→List (List Int)→Prop
 | zero:Gr b lo 0 [[]]
 | stay {n:Nat} {ws:List (List Int)}:Gr b lo n ws→Gr b lo (n+1) ws
 | grow {n:Nat} {ws:List (List Int)} (t:Nat) (u:List Int) (ss:List Int):Gr b lo n ws→ws[t]?=some u→ss.Pairwise (· < ·)→1≤ss.length→(lo=false→2≤ss.length)→(∀ x∈ss,0≤x∧x < b)→u.length < 50 →
   Gr b lo (n+1) (ws.take t++ss.map (fun k=>u++[k])++ws.drop (t+1))
def a7w (u v:List Int):Prop:=¬ u <+: v∧¬ v <+: u
theorem a7w.symm {u v:List Int} (h:a7w u v):a7w v u:=⟨h.2,h.1⟩
abbrev PF (ws:List (List Int)):Prop:=ws.Pairwise a7w
variable {b:Int} {lo:Bool} {n:Nat} {ws:List (List Int)}
theorem PF.ne {ws:List (List Int)} (h:PF ws) {i j:Nat} {u v:List Int} (hi:ws[i]?=some u) (hj:ws[j]?=some v) (ne:i≠j):a7w u v:=by
 have w:=List.pairwise_iff_getElem.mp h
 obtain ⟨i1,rfl⟩:=List.getElem?_eq_some_iff.mp hi
 obtain ⟨j1,rfl⟩:=List.getElem?_eq_some_iff.mp hj
 rcases Nat.lt_or_gt_of_ne ne with z | z
 ·exact w i j i1 j1 z
 ·exact (w j i j1 i1 z).symm
end L2
namespace L2
open PySem PySem.Spec PyProof.Rows
section
variable {X:Cx} {k:Nat} {f C:Addr} {fd:FuncData} {ps:List Str} {sp:Sp} {Ex:St→XK} {x m:Str} {p pos apos:Pos} {e o:Expr} {es:List Expr} {ta:TE} {t:TA}
end
def rEqLW:R2:=fun x y H Q=>∃ a b xs ys ws vs,x=.ref a∧y=.ref b∧H a=some (.lst xs)∧H b=some (.lst ys)∧Ws H xs ws∧Ws H ys vs∧Q (.bl (decide (ws=vs))) H
theorem a9c {X:Cx} (hu:X.A.units+4 < cLine):OpR X (compareOp .Eq) rEqLW:=by
 intro pins s σ H x y v u Q I rx ry h
 obtain ⟨a,b,xs,ys,ws,vs,rfl,rfl,e1,e2,p1,p2,q⟩:=h
 cases rx;cases ry
 exact b2r (A:=X.A) (n:=1) (EqK.tup EqK.int I.hok) I.hok e1 e2 p1 p2 (by omega) _ _ _ _ ⟨.bl _,H,I,rfl,q⟩
end L2
namespace L2
open PySem PySem.Spec PyProof.Rows PySem.W
theorem a9d:typeLookup (.type "list_reverseiterator") "__len__"=pure none:=by rw [typeLookup_type,builtinLookup_eq_fast];kernel_rfl
theorem b0M:typeLookup (.type "list_reverseiterator") "__length_hint__"=pure (some (.builtin "list_reverseiterator.__length_hint__")):=by rw [typeLookup_type,builtinLookup_eq_fast];kernel_rfl
section
variable {prog:Program} {w:World} {A:Around} {E:Value→Shared→Prop} {s:Shared}
theorem a7x {I l S:Addr} {items:Array Value} {R:Result→Shared→Prop} (hh:A.handled=none) (hne:l≠I) (hSI:S≠I) (hSl:S≠l) (hit:s.heap.IsRevIter I l ((items.size:Int) - 1)) (hl:s.heap.IsList l items) (res:Value) (c₀:Nat)
  (hS:s.heap.get? S=some { cls:=.type "list",data:=.seq #[] c₀ }) (hn:items.size≤sizeLine)
  (hR:∀ h' tk acc' c',(∀ b o,b≠S→b≠I→s.heap.get? b=some o→h'.get? b=some o)→h'.get? S=some { cls:=.type "list",dict:=none,data:=.seq acc' c',slots:=#[] }→ItemsOf (fun i v=>items[items.size - 1 - i]?=some v) acc' items.size→R (.ok (.ret res)) { s with heap:=h',toks:=tk }) :
  wpAny (model prog w) A.in1 (Builtin.List.listExtendWith (.ref S) (.ref I) res)
   (fun fin s'=>match fin with | .done f=>R (.ok f) s' | .again c'=>c'.quiet=true∧codeAny (model prog w) A c' R s') (fun e s'=>R (.error e) s') s:=by
 have W:=Walks.listRev (prog:=prog) (w:=w) (A:=A.in1) hh I l hne items
 have hSf:S∉[I,l]:=by simp only [List.mem_cons,List.not_mem_nil,or_false,not_or];exact ⟨hSI,hSl⟩
 have st:0≤items.size∧s.heap.IsRevIter I l ((items.size:Int) - 1 - ((0:Nat):Int))∧s.heap.IsList l items:=⟨Nat.zero_le _,by simpa using hit,hl⟩
 have h1:Builtin.List.listSameRef (.ref S) (.ref I)=false:=by simp [Builtin.List.listSameRef,hSI]
 unfold Builtin.List.listExtendWith
 refine wpAny_bind (wpAny_typeOf hit.typeIs ?_)
 rw [if_neg (by rw [h1];decide)]
 refine wpAny_bind (wpAny_pyIter_revIter hit ?_)
 refine wpAny_bind (wpAny_holding ?_)
 unfold Builtin.List.listLengthHint
 refine wpAny_bind (wpAny_specialOf hit.typeIs a9d ?_)
 show wpAny _ A.in1 (specialOf (Value.ref I) (Str.ofString "__length_hint__") >>= _) _ _ _
 refine wpAny_bind (wpAny_specialOf hit.typeIs b0M ?_)
 generalize hid:("list_reverseiterator.__length_hint__":String)=id0
 wp_delta
 rw [show splitId id0=some ("list_reverseiterator","__length_hint__") from by subst hid;decide +kernel]
 subst hid
 refine wpAny_bind (wpAny_isInstance (b:=true) hit.typeIs (by rw [isSubtype_type];kernel_rfl) ?_)
 refine wpAny_pure ?_
 rw [if_neg (by decide)]
 refine wpAny_pure ⟨plainId_quiet F.plain_extend_loop _,codeAny_extend_loopS W.toS hn S hSf res items.size 0 _ #[] c₀ rfl (Nat.zero_le _) st hS (ItemsOf.nil _) fun s' acc' c' hm hS' hacc=>?_⟩
 rw [Moved.eq_with hm]
 refine hR s'.heap s'.toks acc' c' (fun b o hb hb2 e=>hm.heap b o (fun hmem=>?_) e) hS' hacc
 rcases List.mem_cons.mp hmem with e' | hmem
 ·exact hb e'
 ·exact hb2 (List.mem_singleton.mp hmem)
theorem b0N {I l S:Addr} {items:Array Value} {R:Result→Shared→Prop} (hh:A.handled=none) (hne:l≠I) (hSI:S≠I) (hSl:S≠l) (hit:s.heap.IsRevIter I l ((items.size:Int) - 1)) (hl:s.heap.IsList l items)
  (hS:s.heap.get? S=some { cls:=.type "list",data:=.seq #[] }) (hn:items.size≤sizeLine)
  (hR:∀ h' tk acc' c',(∀ b o,b≠S→b≠I→s.heap.get? b=some o→h'.get? b=some o)→h'.get? S=some { cls:=.type "list",dict:=none,data:=.seq acc' c',slots:=#[] }→ItemsOf (fun i v=>items[items.size - 1 - i]?=some v) acc' items.size→R (.ok (.ret .none)) { s with heap:=h',toks:=tk }) :
  wpAny (model prog w) A.in1 (Builtin.«list.__init__» ⟨[.ref S,.ref I],[]⟩)
   (fun fin s'=>match fin with | .done f=>R (.ok f) s' | .again c'=>c'.quiet=true∧codeAny (model prog w) A c' R s') (fun e s'=>R (.error e) s') s:=by
 show wpAny _ _ (do let old ←Builtin.List.listItems (.ref S);Builtin.List.listUpdate (.ref S) (fun _=>#[]);letGo old.toList.reverse;Builtin.List.listExtendWith (.ref S) (.ref I) .none) _ _ s
 refine wpAny_bind ?_
 unfold Builtin.List.listItems
 refine wpAny_bind (wpAny_seqItems hS rfl (wpAny_pure ?_))
 show wpAny _ _ (updateSeq S (fun _=>#[]) >>= fun _=>letGo (#[]:Array Value).toList.reverse >>= fun _=>Builtin.List.listExtendWith (.ref S) (.ref I) .none) _ _ s
 refine wpAny_bind (wpAny_updateSeq hS rfl ?_)
 have hS₂:=Heap.get?_update_self (Obj.mapSeq (fun _=>(#[]:Array Value))) hS rfl
 have oth:∀ b o,b≠S→s.heap.get? b=some o→(s.heap.update S (Obj.mapSeq (fun _=>(#[]:Array Value)))).get? b=some o :=
  fun b o hb e=>(Heap.get?_update_other _ _ (Ne.symm hb)).trans e
 refine wpAny_bind (wpAny_letGo ?_)
 refine a7x (items:=items) hh hne hSI hSl (hit.at fun o e=>oth I o hSI.symm e) (hl.at fun o e=>oth l o hSl.symm e) .none _ hS₂ hn (fun h' tk acc' c' hk hS' hacc=>?_)
 exact hR h' tk acc' c' (fun b o hb hb2 e=>hk b o hb hb2 (oth b o hb e)) hS' hacc
theorem b0O {I l:Addr} {items:Array Value} {Q:Value→Shared→Prop} (hh:A.handled=none) (hne:l≠I) (hit:s.heap.IsRevIter I l ((items.size:Int) - 1)) (hl:s.heap.IsList l items) (hn:items.size≤sizeLine)
  (hQ:∀ h' tk acc' c',(∀ b o,b≠I→s.heap.get? b=some o→h'.get? b=some o)→h'.get? s.heap.objs.size=some { cls:=.type "list",dict:=none,data:=.seq acc' c',slots:=#[] }→ItemsOf (fun i v=>items[items.size - 1 - i]?=some v) acc' items.size→Q (.ref s.heap.objs.size) { s with heap:=h',toks:=tk }) :
  wpAny (model prog w) A (call (.type "list") [.ref I]) Q E s:=by
 refine callType_codes (Q₁:=fun obj s₁=>obj=.ref s.heap.objs.size∧s₁={ s with heap:=s.heap.push { cls:=.type "list",data:=.seq #[] } }) PySem.F.called_list (PySem.F.typeCall_list_1 _) PySem.F.entry_list_init
  (code_list_new _ ⟨rfl,rfl⟩) fun obj s₁ h₁=>?_
 obtain ⟨rfl,rfl⟩:=h₁
 have hS:(s.heap.push { cls:=.type "list",data:=.seq #[] }).get? s.heap.objs.size=some { cls:=.type "list",data:=.seq #[] }:=Heap.get?_push_size _ rfl
 obtain ⟨oI,eI,_⟩:=id hit
 obtain ⟨ol,el,_⟩:=id hl
 refine ⟨⟨_,hS,rfl⟩,PySem.F.args_list_init_2 _ _,b0N (A:=A.in1) (items:=items) hh hne (Nat.ne_of_gt (Heap.lt_size eI)) (Nat.ne_of_gt (Heap.lt_size el)) (hit.at fun o e=>Heap.get?_push_of_some _ e) (hl.at fun o e=>Heap.get?_push_of_some _ e) hS hn (fun h' tk acc' c' hk hS' hacc=>?_)⟩
 exact ⟨rfl,hQ h' tk acc' c' (fun b o hb e=>hk b o (Nat.ne_of_lt (Heap.lt_size e)) hb (Heap.get?_push_of_some _ e)) hS' hacc⟩
end
theorem a6q:∀ {xs:List V} {its:List Value},a0D xs its→a0D xs.reverse its.reverse
 | _,_,.nil=>.nil
 | _,_,.cons r t=>by
  rw [List.reverse_cons,List.reverse_cons]
  exact (a6q t).append (.cons r .nil)
theorem a7y:bootBuiltins "reversed"=some (.type "reversed"):=by decide +kernel
def tRev (te:TE):TE:=fun σ H Q=>te σ H fun x H1=>∃ l xs,x=.ref l∧H1 l=some (.lst xs)∧∀ p,H1 p=none→Q (.ref p) (upd H1 p (.lst xs.reverse))
theorem a7z {X:Cx} {e:Expr} {te:TE} {p p2 pos pos2:Pos} (hc:X.calm=true) (hg:Gl X "list") (hm:X.mg "list"=none) (hg2:Gl X "reversed") (hm2:X.mg "reversed"=none) (he:PE X e te)
  (hs:starEach [.Call (.Name "reversed" p2) [e] [] pos2] X.env=(false,eval (.Call (.Name "reversed" p2) [e] [] pos2) X.env) :: starEach [] X.env:=by rfl) (hs2:starEach [e] X.env=(false,eval e X.env) :: starEach [] X.env:=by rfl) :
  PE X (.Call (.Name "list" p) [.Call (.Name "reversed" p2) [e] [] pos2] [] pos) (tRev te):=by
 intro pins s σ H Q I h
 refine wpAny_Call_Name_kw (a1t I hg hm a8z ?_ (by decide) (by decide))
 refine PyProof.Rows.callWith_type1 ?_ hs rfl
 rw [hs]
 refine Calls.spliced_cons ?_
 refine wpAny_Call_Name_kw (a1t I hg2 hm2 a7y ?_ (by decide) (by decide))
 refine PyProof.Rows.callWith_type1 ?_ hs2 rfl
 rw [hs2]
 refine Calls.spliced_cons (thn (he pins s σ H _ I h) fun u s1 ⟨x,H1,I1,r1,q1⟩=>?_)
 refine Calls.spliced_nil ?_
 obtain ⟨l,xs,rfl,hl,q⟩:=q1
 cases r1
 obtain ⟨z,its,n,r,hlen,e0⟩:=I1.lstM hl
 refine call_reversed_list (items:=its.toArray) ⟨_,e0,rfl,_,rfl⟩ ?_
 refine Calls.spliced_nil ?_
 have li:xs.length=its.length:=r.length
 have e1:=Heap.get?_push_of_some (revObj l ((its.toArray.size:Int) - 1)) e0
 have nl:l≠s1.heap.objs.size:=Nat.ne_of_lt (Heap.lt_size e0)
 refine b0O (items:=its.toArray) (I.ok.hd hc) nl ⟨_,Heap.get?_push_size _ rfl,rfl,rfl⟩ ⟨_,e1,rfl,_,rfl⟩ (by rw [List.size_toArray];omega) (fun h' tk acc c' hk hS hacc=>?_)
 have ea:acc=its.reverse.toArray:=by
  obtain ⟨a1,a2⟩:=hacc
  refine Array.ext (by rw [a1];simp) fun i h1 h2=>?_
  have q1:its.toArray[its.toArray.size - 1 - i]?=some acc[i]:=a2 i acc[i] (Array.getElem?_eq_getElem h1)
  have h3:i < its.length:=by rw [a1,List.size_toArray] at h1;exact h1
  rw [List.getElem?_toArray,List.size_toArray,List.getElem?_eq_getElem (by omega)] at q1
  have q2:=Option.some.inj q1
  rw [←q2]
  simp
 subst ea
 have er:a0D xs.reverse its.reverse:=a6q r
 refine ⟨.ref _,_,I1.laid (t':=tk) (fun b o eo=>hk b o (Nat.ne_of_lt (Heap.lt_size eo)) (Heap.get?_push_of_some _ eo)) (by show s1.heap.objs.size≤_;rw [show (s1.heap.push _).objs.size=s1.heap.objs.size+1 from by simp [Heap.push]];omega) (show a0F X.prog X.w _ h' _ (.lst xs.reverse) from ⟨by rw [List.length_reverse];omega,its.reverse,c',er,hS⟩),rfl,q _ (I1.hok.fresh (by rw [show (s1.heap.push _).objs.size=s1.heap.objs.size+1 from by simp [Heap.push]];omega))⟩
end L2
namespace L2
open PySem PySem.Spec PyProof.Rows
def turnP (K:PySem.W.Frag) (tc:TT) (te:TE) (σ:St) (d:Addr) (z:V) (H:Hp) (Z:Hp→Prop):Prop:=∃ a x y,z=.ref a∧SqT K H a [x,y]∧a7r tc te σ d x y H Z
def b1H (K:PySem.W.Frag) (tl:TE) (tc:TT) (te:TE):TE:=fun σ H Q=>tl σ H fun v H1=>∃ a xs,v=.ref a∧SqL K H1 a xs∧∀ d,H1 d=none →
 ∃ Pv:Nat→Hp→Prop,Pv 0 (upd H1 d (.lst []))∧(∀ i H,i≤xs.length→Pv i H→SqL K H a xs)∧(∀ i x H,xs[i]?=some x→Pv i H→turnP K tc te σ d x H (Pv (i+1)))∧∀ H,Pv xs.length H→Q (.ref d) H
theorem b0P {X:Cx} (K:PySem.W.Frag) {elt iter:Expr} {t1 t2:Str} {p1 p2 tp pos:Pos} {k:Nat} {cs:List Expr} {scope:Scope} {tc:TT} {te tl:TE} {M:List Str} (hc:X.calm=true) (S:a0k scope X.env X.N M) (nd:(t1 :: t2 :: M).Nodup) (hl1:scope.names.lookup t1=some .local) (hl2:scope.names.lookup t2=some .local)
  (hi:PE X iter tl) (mo:a1V tl)
  (hin:∀ (cl:List (Str × Addr)) (C:Addr) (s0:Shared) (H0:Hp) (fp:List Addr) (pins:List (Addr × Obj)) (σ:St),b3q X (cxC X scope cl C s0 H0 fp (t1 :: t2 :: M)) pins σ fp C s0 H0→PTs (cxC X scope cl C s0 H0 fp (t1 :: t2 :: M)) cs tc∧PE (cxC X scope cl C s0 H0 fp (t1 :: t2 :: M)) elt te)
  (hf:∀ x,foldedSetIterable iter X.env x=pure x:=by intro _;rfl) (hK:X.K=K:=by rfl) :
  PE X (.ListComp elt [⟨.Tuple [.Name t1 p1,.Name t2 p2] k tp,iter,cs,0⟩] scope pos) (b1H K tl tc te):=by
 subst hK
 have hx1:(relabel scope X.env).names.lookup t1=some .local:=by rw [a0w,hl1];rfl
 have hx2:(relabel scope X.env).names.lookup t2=some .local:=by rw [a0w,hl2];rfl
 refine PE.imp (a6a (xs:=[t1,t2]) (M:=M) (g:=a4J X.K) hc S (a1J hi) (fun cl C s0 H0 fp pins σ bk=>⟨a4u hc (a1a (a0I (i:=0) nd rfl (Or.inl hx1) (Or.inr hx1)) (a1a (a0I (i:=1) nd rfl (Or.inl hx2) (Or.inr hx2)) a2F)),hin cl C s0 H0 fp pins σ bk⟩) (fun v σ H Q h=>a2T h) hf) (fun σ H Q h=>?_)
 refine mo σ H _ _ (fun v H1 q=>?_) h
 obtain ⟨a,xs,e,j1,q⟩:=q
 refine ⟨a,e,⟨xs,j1⟩,fun d hd=>?_⟩
 obtain ⟨Pv,h0,hl,hs,hd⟩:=q d hd
 refine a1x (k:=2) (g:=a4J X.K) Pv h0 hl (fun i x H hx hP=>?_) hd
 obtain ⟨b,y,z,rfl,hq,h⟩:=hs i x H hx hP
 exact ⟨b,[y,z],rfl,hq,rfl,y,[z],rfl,z,[],rfl,rfl,h⟩
section
variable {P:Program} {w:World} {A:Around} {H:Hp} {s:Shared} {n:Nat} {α β γ:Type} [DecidableEq α] [DecidableEq β] [DecidableEq γ]
variable {R1:V→α→Prop} {R2:V→β→Prop} {R3:V→γ→Prop}
end
def srt (ns:List Int):List Int:=ns.mergeSort fun a b=>decide (a≤b)
theorem a9e {a b:List Int} (h:a.Perm b) (h1:a.Pairwise (·≤·)) (h2:b.Pairwise (·≤·)):a=b:=h.eq_of_pairwise (fun x y _ _ h3 h4=>by omega) h1 h2
def SqI (H:Hp) (a:Addr) (ns:List Int):Prop:=H a=some (.lst (ns.map V.int))∨H a=some (.tup (ns.map V.int))
theorem a7A {ns:List Int} {us:List Value} (r:a0D (ns.map V.int) us):IntsAre us ns:=by
 induction ns generalizing us with
 | nil=>cases r;exact .nil
 | cons n ns ih =>
  cases r with
  | cons r rr =>
   obtain ⟨t,rfl⟩:=r
   exact .cons _ _ (ih rr)
theorem a7B {ns:List Int} {us:List Value} (r:IntsAre us ns):a0D (ns.map V.int) us:=by
 induction r with
 | nil=>exact .nil
 | cons n t _ ih=>exact .cons ⟨t,rfl⟩ ih
theorem a5B {vs:List Value} {ns:List Int} (h:IntsAre vs ns):vs.length=ns.length:=by
 induction h with
 | nil=>rfl
 | cons n t _ ih=>simp [ih]
theorem b_min':bootBuiltins "min"=some (.builtin "min"):=by decide +kernel
theorem a4O:bootBuiltins "sorted"=some (.builtin "sorted"):=by decide +kernel
def rSumT:List V→Hp→VK→Prop:=fun xs H Q=>∃ (a:Addr) (ns:List Int),xs=[.ref a]∧H a=some (.tup (ns.map V.int))∧Q (.int ns.sum) H
theorem a4P {X:Cx} (hc:X.calm=true):a1K X (.builtin "sum") rSumT:=by
 intro pins s σ H xs us Q I r h
 obtain ⟨a,ns,rfl,ha,q⟩:=h
 obtain ⟨u,rfl,ru⟩:=a2H r
 cases ru
 obtain ⟨hz,its,v,ht⟩:=a2j ((show a0F X.prog X.w H s.heap a (.tup (ns.map V.int)) from I.hok a _ ha))
 have hlt:a < s.heap.objs.size:=by obtain ⟨o,ho,_⟩:=ht;exact Heap.lt_size ho
 refine call_sum_walkAnyS (wpAny_pyIter_tuple ht ?_)
 refine ⟨s.heap.objs.size,_,_,_,_,_,_,fun i=>ns.getD i 0,rfl,(Walks.tuple (A:=X.A.in1) (by show X.A.handled=none;exact I.ok.hd hc) s.heap.objs.size a (Nat.ne_of_lt hlt) its.toArray).toS,⟨⟨_,Heap.get?_push_size _ rfl,rfl,rfl⟩,by obtain ⟨o,ho,r⟩:=ht;exact ⟨o,Heap.get?_push_of_some _ ho,r⟩⟩,?_,?_,fun s' t' mv=>?_⟩
 ·intro b hb
  simp only [List.mem_cons,List.not_mem_nil,or_false] at hb
  show b < (s.heap.push _).objs.size
  rw [Heap.size_push]
  rcases hb with rfl | rfl
  ·exact Nat.lt_succ_self _
  ·exact Nat.lt_succ_of_lt hlt
 ·intro i v' hv
  exact a3t v i v' (by simpa using hv)
 ·have e1:its.toArray.size=ns.length:=by
   have:=v.length
   rw [List.length_map] at this
   simpa using this.symm
  rw [e1,preSum_getD]
  have e2:ns.take ns.length=ns:=List.take_length
  rw [e2]
  have k:∀ b o,s.heap.get? b=some o→s'.heap.get? b=some o:=fun b o eo=>mv.heap b o (by simp;exact Nat.ne_of_lt (Heap.lt_size eo)) (Heap.get?_push_of_some _ eo)
  obtain ⟨h',g',d',tk',os'⟩:=s'
  have z1:g'=s.gens:=mv.gens
  have z2:d'=s.drawn:=mv.drawn
  have z3:os'=s.os:=mv.os
  subst z1 z2 z3
  exact ⟨.int _,H,I.kept (h':=h') (t':=tk') k,⟨t',rfl⟩,q⟩
section
variable {X:Cx}
def RPr (H:Hp) (x:V) (q:Int × Int):Prop:=∃ t,x=.ref t∧H t=some (.tup [.int q.1,.int q.2])
end
end L2
namespace L2
open PySem PySem.Spec PyProof.Rows PySem.W
def a0C (m:Nat):List Nat:=(List.range 8).filter fun i=>m.testBit i
def nxL (m:Nat):Nat→Nat
 | 0=>0
 | i+1=>(a0C m).getD i 0+1
theorem a6r:∀ m < 256,∀ x < 8,m.testBit x=false→SetTable.insertAt (a0C m).toArray (SetTable.below (a0C m).toArray x) x=(a0C (m ||| 1 <<< x)).toArray:=by decide +kernel
theorem b2H:∀ m < 256,∀ i < 9,i≤(a0C m).length→SetTable.below (a0C m).toArray (nxL m i)=i:=by decide +kernel
theorem a9f:∀ m < 256,(a0C m).length=5→SetTable.laid 31 0 0 true true ((a0C m).map Int.ofNat).toArray=some (⟨31,(a0C m).toArray,#[],0,true,0,true⟩,#[0,1,2,3,4]):=by decide +kernel
theorem a6s:∀ m < 256,∀ x < 8,m.testBit x=false→(a0C (m ||| 1 <<< x)).length=(a0C m).length+1∧(m ||| 1 <<< x) < 256:=by decide +kernel
theorem a2C {m x:Nat}:x∈a0C m↔x < 8∧m.testBit x=true:=by
 unfold a0C
 rw [List.mem_filter,List.mem_range]
theorem b0Q (f mv:Nat) (l p:Bool) (hs:Array Int) (k:Nat):SetTable.laid k f mv l p hs=(SetTable.laid k 0 0 true true hs).map fun q=>(⟨q.1.mask,q.1.place,q.1.dummies,f,l,mv,p⟩,q.2):=by
 unfold SetTable.laid
 cases SetTable.layClean k hs <;> rfl
structure SmT (b:Bool) (m:Nat) (t:SetTable):Prop where
 lt:m < 256
 place:t.place=(a0C m).toArray
 dum:t.dummies=#[]
 plain:t.plain=true
 led:t.led=!b
 mask:t.mask=7∧(a0C m).length < 5∨t.mask=31
structure SmE (m:Nat) (es:Array (Int × Value)):Prop where
 vals:es.toList.map (·.1)=(a0C m).map Int.ofNat
 int:∀ e∈es.toList,∃ tk,e.2=.int e.1 tk
theorem SmE.size {m:Nat} {es:Array (Int × Value)} (h:SmE m es):es.size=(a0C m).length:=by
 have:=congrArg List.length h.vals
 simpa using this
theorem a2k (m:Nat):(a0C m).length≤8:=by
 unfold a0C
 exact Nat.le_trans (List.length_filter_le _ _) (by simp)
theorem SmT.fits {b:Bool} {m:Nat} {t:SetTable} (h:SmT b m t):t.fits (a0C m).length=true:=by
 have:=a2k m
 unfold SetTable.fits SetTable.fill
 rw [h.place,h.dum]
 rcases h.mask with ⟨e,l⟩ | e <;> rw [e] <;> simp <;> omega
theorem SmT.free {b:Bool} {m:Nat} {t:SetTable} (h:SmT b m t) {x:Nat} (hx:x < 8) (hn:m.testBit x=false):t.freeSlot (x:Int)=some (x,false):=by
 have hb:SetTable.bits (x:Int) % (t.mask+1)=x:=by
  have k7:∀ x < 8,SetTable.bits (x:Nat) % (7+1)=x:=by decide +kernel
  have k31:∀ x < 8,SetTable.bits (x:Nat) % (31+1)=x:=by decide +kernel
  rcases h.mask with ⟨e,_⟩ | e <;> rw [e]
  ·exact k7 x hx
  ·exact k31 x hx
 have hs:t.slot x=.empty:=by
  unfold SetTable.slot SetTable.has
  rw [h.place,h.dum]
  have:((a0C m).toArray[SetTable.below (a0C m).toArray x]? == some x)=false:=by
   rw [beq_eq_false_iff_ne]
   intro e
   have:=Array.mem_of_getElem? e
   rw [List.mem_toArray,a2C] at this
   rw [hn] at this
   exact Bool.noConfusion this.2
  dsimp only
  rw [this]
  rfl
 have hp:(t.probeStart (x:Int)).j=x:=hb
 have hd:(t.probeStart (x:Int)).dummy=none:=rfl
 unfold SetTable.freeSlot SetTable.probe
 have hf:10 * SetTable.turns t.mask=(10 * SetTable.turns t.mask - 1)+1:=by unfold SetTable.turns;omega
 rw [hf]
 unfold SetTable.probe.go
 rw [hp,hs,hd]
 rfl
theorem a3W {α:Type} (xs:Array α) (p:Nat) (x:α):(SetTable.insertAt xs p x).toList=xs.toList.take p++x :: xs.toList.drop p:=by
 unfold SetTable.insertAt
 simp [Array.toList_extract,List.extract_eq_take_drop]
 rw [List.take_of_length_le]
 simp
theorem SmE.ins {m:Nat} {es:Array (Int × Value)} (h:SmE m es) (hm:m < 256) {x:Nat} (hx:x < 8) (hn:m.testBit x=false) (tk:Nat) :
  SmE (m ||| 1 <<< x) (SetTable.insertAt es (SetTable.below (a0C m).toArray x) ((x:Int),.int (x:Int) tk)):=by
 have hp:=congrArg Array.toList (a6r m hm x hx hn)
 rw [a3W] at hp
 simp only at hp
 refine ⟨?_,fun e he=>?_⟩
 ·rw [a3W,List.map_append,List.map_take,List.map_cons,List.map_drop,h.vals,←hp,List.map_append,List.map_take,List.map_cons,List.map_drop]
  rfl
 ·rw [a3W] at he
  rcases List.mem_append.mp he with z | z
  ·exact h.int e (List.mem_of_mem_take z)
  ·rcases List.mem_cons.mp z with rfl | z
   ·exact ⟨tk,rfl⟩
   ·exact h.int e (List.mem_of_mem_drop z)
theorem lay_sm {b:Bool} {m:Nat} {t:SetTable} {es:Array (Int × Value)} (T:SmT b m t) (Es:SmE m es) {x:Nat} (hx:x < 8) (hn:m.testBit x=false) (tk:Nat) :
  ∃ es' t',layNew t es (x:Int) (.int (x:Int) tk)=(es',t',false,false)∧SmE (m ||| 1 <<< x) es'∧t'.place=(a0C (m ||| 1 <<< x)).toArray∧t'.dummies=#[]∧t'.plain=true∧t'.led=!b∧t'.mask=t.mask:=by
 have hE:=Es.ins T.lt hx hn tk
 have hl:=a6s m T.lt x hx hn
 have h8:=a2k (m ||| 1 <<< x)
 have pp:=a6r m T.lt x hx hn
 have hd:SetTable.has #[] x=false:=rfl
 refine ⟨_,⟨t.mask,(a0C (m ||| 1 <<< x)).toArray,#[],t.finger,t.led,t.moves,t.plain⟩,?_,hE,rfl,rfl,T.plain,T.led,rfl⟩
 have fit:SetTable.fits ⟨t.mask,(a0C (m ||| 1 <<< x)).toArray,#[],t.finger,t.led,t.moves,t.plain⟩ (a0C (m ||| 1 <<< x)).length=true:=by
  unfold SetTable.fits SetTable.fill
  rcases T.mask with ⟨e,l⟩ | e <;> rw [e] <;> simp <;> omega
 unfold layNew
 rw [T.free hx hn]
 unfold SetTable.put
 simp only [hd,T.place,pp,T.dum,hE.size,SetTable.orStandIn,fit,Bool.false_eq_true,if_false,if_true,Bool.not_true]
theorem all5 {α:Type} (es:Array α) (h:es.size=5):(#[0,1,2,3,4]:Array Nat).filterMap (es[·]?)=es:=by
 obtain ⟨l⟩:=es
 match l,h with
 | [a,b,c,d,e],_=>rfl
theorem b0R {b:Bool} {m:Nat} {t:SetTable} {es:Array (Int × Value)} (Es:SmE m es) (hm:m < 256) (h5:(a0C m).length=5) (hp:t.plain=true) (hl:t.led=!b) (h7:t.mask=7) :
  ∃ t',relayAll t es (SetTable.grown es.size)=(es,t',false)∧SmT b m t':=by
 have sz:es.size=5:=by rw [Es.size,h5]
 have hh:es.map (·.1)=((a0C m).map Int.ofNat).toArray:=by
  rw [←Es.vals]
  cases es
  simp
 have ab:SetTable.sizeAbove (SetTable.grown 5) - 1=31:=by decide
 unfold relayAll SetTable.relaid
 rw [sz,ab,b0Q,hh,a9f m hm h5]
 refine ⟨⟨31,(a0C m).toArray,#[],t.finger,t.led,t.movedTo 31,t.plain⟩,?_,⟨hm,rfl,rfl,hp,hl,.inr rfl⟩⟩
 simp only [Option.map_some]
 rw [all5 es sz,sz]
 have fit:SetTable.fits ⟨31,(a0C m).toArray,#[],t.finger,t.led,t.movedTo 31,t.plain⟩ 5=true:=by
  unfold SetTable.fits SetTable.fill
  simp [h5]
 rw [fit]
 rfl
section
variable {prog:Program} {w:World} {A:Around} {E:Value→Shared→Prop} {s:Shared} {b:Bool}
def a7U (b:Bool) (m:Nat) (h:Heap) (a:Addr):Prop:=∃ o es ep t,h.get? a=some o∧o.ExactSet∧o.data=.set es ep t∧SmT b m t∧SmE m es
theorem a7U.at {m:Nat} {h h':Heap} {a:Addr} (x:a7U b m h a) (e:∀ o,h.get? a=some o→h'.get? a=some o):a7U b m h' a:=by
 obtain ⟨o,es,ep,t,ho,r⟩:=x
 exact ⟨o,es,ep,t,e o ho,r⟩
theorem a9g:∀ x < 8,hashInt (x:Nat)=x:=by decide +kernel
theorem SmE.mem {m:Nat} {es:Array (Int × Value)} (h:SmE m es) {e:Int × Value} (he:e∈es.toList):∃ y tk,y < 8∧m.testBit y=true∧e=((y:Int),.int (y:Int) tk):=by
 obtain ⟨tk,et⟩:=h.int e he
 have:e.1∈(a0C m).map Int.ofNat:=by rw [←h.vals];exact List.mem_map_of_mem he
 obtain ⟨y,hy,e1⟩:=List.mem_map.mp this
 obtain ⟨h8,hb⟩:=a2C.mp hy
 obtain ⟨e1',e2'⟩:=e
 simp only at e1 et
 subst e1
 exact ⟨y,tk,h8,hb,by rw [et];rfl⟩
theorem SmE.elems {m:Nat} {es:Array (Int × Value)} (h:SmE m es):ElemsOf (intKind prog w) es.toList:=fun e he=>by
 obtain ⟨y,tk,h8,_,rfl⟩:=h.mem he
 exact ⟨⟨y,intKind_is _ _ _ _,(a9g y h8).symm⟩,rfl⟩
theorem SmE.has {m:Nat} {es:Array (Int × Value)} (h:SmE m es) {x:Nat} (hx:x < 8) (hb:m.testBit x=true):∃ e∈es.toList,(intKind prog w).is (x:Int) e.2=true:=by
 have:Int.ofNat x∈es.toList.map (·.1):=by rw [h.vals];exact List.mem_map_of_mem (a2C.mpr ⟨hx,hb⟩)
 obtain ⟨e,he,e1⟩:=List.mem_map.mp this
 obtain ⟨tk,et⟩:=h.int e he
 refine ⟨e,he,?_⟩
 rw [et,e1]
 exact intKind_is _ _ _ _
theorem b2I:∀ m < 256,∀ x < 8,m.testBit x=true→m ||| 1 <<< x=m:=by decide +kernel
theorem add_sm {a:Addr} {m x tk:Nat} {Q:Bool→Shared→Prop} (hS:a7U b m s.heap a) (hx:x < 8)
  (h:∀ h' r,Heap.SameBut a s.heap h'→a7U b (m ||| 1 <<< x) h' a→Q r { s with heap:=h' }):wpAny (model prog w) A (setAddHashed a (.int (x:Int) tk) ((intKind prog w).hash (x:Int))) Q E s:=by
 obtain ⟨o,es,ep,t,ho,hex,hd,T,Es⟩:=hS
 have hel:ElemsOf (intKind prog w) es.toList:=Es.elems
 have hf:t.fits es.size=true:=by rw [Es.size];exact T.fits
 have sz8:es.size≤8:=by rw [Es.size];exact a2k m
 have hb8:es.size < scanBound:=by unfold scanBound;omega
 have hk:(intKind prog w).is (x:Int) (.int (x:Int) tk)=true:=intKind_is _ _ _ _
 have hhx:(intKind prog w).hash (x:Int)=(x:Int):=a9g x hx
 unfold setAddHashed setAddHashedIn
 refine wpAny_holding (wpAny_bind (wpAny_setState_of ho hd hf ?_))
 simp only [byScan_of (knd:=intKind prog w) (x:=.int (x:Int) tk) rfl hb8 hel,↓reduceIte]
 unfold setAddByScan
 refine wpAny_bind (wpAny_bind (wpAny_rule (wpAny_bind (wpAny_setScan_of hk ho hd hf hel ?_))))
 cases hr:List.findIdx? (fun e=>(intKind prog w).is (x:Int) e.2) es.toList with
 | some j =>
  obtain ⟨hj,hpj,_⟩:=List.findIdx?_eq_some_iff_getElem.mp hr
  obtain ⟨y,tk',h8,hb,ey⟩:=Es.mem (List.getElem_mem hj)
  have exy:x=y:=by
   rw [ey] at hpj
   have:=(intKind prog w).inj _ _ _ hpj (intKind_is _ _ (y:Int) _)
   exact Int.ofNat.inj this
  subst exy
  refine wpAny_pure (wpAny_pure ?_)
  have:=h s.heap false (Heap.SameBut.refl a s.heap) (by rw [b2I m T.lt x hx hb];exact ⟨o,es,ep,t,ho,hex,hd,T,Es⟩)
  exact this
 | none =>
  have hn:m.testBit x=false:=by
   cases hb:m.testBit x with
   | false=>rfl
   | true =>
    obtain ⟨e,he,z⟩:=Es.has (prog:=prog) (w:=w) hx hb
    have:=List.findIdx?_eq_none_iff.mp hr e he
    rw [z] at this
    exact Bool.noConfusion this
  obtain ⟨es1,t1,e1,E1,p1,d1,pl1,l1,m1⟩:=lay_sm T Es hx hn tk
  have hl:=a6s m T.lt x hx hn
  have h8':=a2k (m ||| 1 <<< x)
  have sz1:es1.size≤8:=by rw [E1.size];exact h8'
  have fit1:es1.size≤sizeLine:=by rw [sizeLine_eq];omega
  simp only [hhx,e1]
  refine wpAny_bind (wpAny_pure ?_)
  simp only [pl1,if_true]
  refine wpAny_bind (wpAny_of_eq (hashByValue_scannable 8 rfl) ?_)
  simp only [show plainKind (.int (x:Int) tk)=true from rfl,if_true]
  refine wpAny_bind (wpAny_storeSet_of ho hd ?_ fit1)
  have hg:(s.heap.update a (Obj.putSet es1 t1)).get? a=some { o with data:=.set es1 (ep+1) t1 }:=by
   have:=Heap.get?_update_self (Obj.putSet es1 t1) ho (by rw [putSet_of es1 t1 hd];rfl)
   rwa [putSet_of es1 t1 hd] at this
  have sb:=Heap.SameBut.update s.heap a (Obj.putSet es1 t1)
  have nf:t1.fill=(a0C (m ||| 1 <<< x)).length:=by
   unfold SetTable.fill
   rw [p1,d1]
   simp
  by_cases h5:t1.tooFull=true
  ·have h7:t1.mask=7∧(a0C (m ||| 1 <<< x)).length=5:=by
    unfold SetTable.tooFull at h5
    rw [nf] at h5
    simp only [ge_iff_le,decide_eq_true_eq] at h5
    rcases T.mask with ⟨e,l⟩ | e <;> rw [m1,e] at h5 <;> rw [m1,e] <;> omega
   obtain ⟨t2,e2,T2⟩:=b0R (b:=b) E1 hl.2 h7.2 pl1 l1 h7.1
   simp only [h5,e2,Bool.not_false,Bool.and_self,if_true]
   refine wpAny_bind (wpAny_pure (wpAny_bind (wpAny_storeSet_of hg rfl ?_ fit1)))
   have hg2:((s.heap.update a (Obj.putSet es1 t1)).update a (Obj.putSet es1 t2)).get? a=some { o with data:=.set es1 (ep+1+1) t2 }:=by
    have:=Heap.get?_update_self (Obj.putSet es1 t2) hg (by rw [putSet_of es1 t2 rfl];rfl)
    rwa [putSet_of es1 t2 rfl] at this
   exact wpAny_pure (wpAny_pure (h _ true (sb.trans (Heap.SameBut.update _ a _)) ⟨_,es1,_,t2,hg2,hex,rfl,T2,E1⟩))
  ·simp only [Bool.not_eq_true] at h5
   simp only [h5,Bool.and_false,Bool.false_eq_true,if_false]
   have h7:t1.mask=7∧(a0C (m ||| 1 <<< x)).length < 5∨t1.mask=31:=by
    unfold SetTable.tooFull at h5
    rw [nf] at h5
    simp only [ge_iff_le,decide_eq_false_iff_not] at h5
    rcases T.mask with ⟨e,l⟩ | e
    ·rw [m1,e] at h5
     exact .inl ⟨by rw [m1,e],by omega⟩
    ·exact .inr (by rw [m1,e])
   exact wpAny_pure (wpAny_pure (h _ true sb ⟨_,es1,_,t1,hg,hex,rfl,⟨hl.2,p1,d1,pl1,l1,h7⟩,E1⟩))
end
theorem a6t {α:Type} (next:Nat→Nat):∀ (f k:Nat) (l:List α) (out:Array α),l.length=f→(pickOrder.go next f k l out).toList.Perm (out.toList++l)
 | 0,k,l,out,h=>by
  obtain rfl:=List.eq_nil_of_length_eq_zero h
  unfold pickOrder.go
  simp
 | f+1,k,l,out,h=>by
  have hi:next k % l.length < l.length:=Nat.mod_lt _ (by omega)
  unfold pickOrder.go
  rw [List.getElem?_eq_getElem hi]
  dsimp only
  refine (a6t next f (k+1) _ _ (by rw [List.length_eraseIdx_of_lt hi];omega)).trans ?_
  rw [Array.toList_push,List.append_assoc]
  refine List.Perm.append_left _ ?_
  rw [List.eraseIdx_eq_take_drop_succ]
  have e:l=l.take (next k % l.length)++l[next k % l.length] :: l.drop (next k % l.length+1):=by rw [List.getElem_cons_drop,List.take_append_drop]
  have p:(l[next k % l.length] :: (l.take (next k % l.length)++l.drop (next k % l.length+1))).Perm (l.take (next k % l.length)++l[next k % l.length] :: l.drop (next k % l.length+1)):=List.perm_middle.symm
  rw [←e] at p
  exact p
theorem a7C {α:Type} (next:Nat→Nat) (xs:Array α):(pickOrder next xs).toList.Perm xs.toList:=by
 unfold pickOrder
 simpa using a6t next xs.size 0 xs.toList #[] (by simp)
theorem a0T:Slot "set_iterator" "__next__" "set_iterator.__next__":=.of (owner:="set_iterator") (n:="__next__") (by rw [typeLookup_type,builtinLookup_eq_fast];kernel_rfl) (by decide +kernel) (by decide +kernel) (by decide +kernel) (by first | exact .inl (by decide +kernel) | exact .inr (by decide +kernel)) (by rw [isSubtype_type];kernel_rfl)
theorem a4Q:∃ id,Slot "set_iterator" "__iter__" id∧id="set_iterator.__iter__":=⟨_,.of (owner:="set_iterator") (n:="__iter__") (by rw [typeLookup_type,builtinLookup_eq_fast];kernel_rfl) (by decide +kernel) (by decide +kernel) (by decide +kernel) (by first | exact .inl (by decide +kernel) | exact .inr (by decide +kernel)) (by rw [isSubtype_type];kernel_rfl),rfl⟩
theorem a1Y:entryFor table "set_iterator.__next__"=some Builtin.«set_iterator.__next__»:=entryFor_of_tree (by kernel_rfl)
theorem a3X:entryFor table "set.__iter__"=some Builtin.«frozenset.__iter__»:=entryFor_alias (id':="frozenset.__iter__") (by kernel_rfl) rfl (by decide +kernel) (by kernel_rfl)
section
variable {prog:Program} {w:World} {A:Around} {E:Value→Shared→Prop} {s:Shared} {b:Bool} {m ep:Nat} {es:Array (Int × Value)} {t:SetTable} {a it:Addr}
def a7V (b:Bool) (m:Nat) (h:Heap) (a:Addr) (es:Array (Int × Value)) (ep:Nat) (t:SetTable):Prop:=∃ o,h.get? a=some o∧o.ExactSet∧o.data=.set es ep t∧SmT b m t∧SmE m es
theorem a7V.at {h h':Heap} (x:a7V b m h a es ep t) (e:∀ o,h.get? a=some o→h'.get? a=some o):a7V b m h' a es ep t:=by
 obtain ⟨o,ho,r⟩:=x
 exact ⟨o,e o ho,r⟩
theorem a7V.fits {h:Heap} (x:a7V b m h a es ep t):t.fits es.size=true:=by
 obtain ⟨o,_,_,_,T,Es⟩:=x
 rw [Es.size]
 exact T.fits
def a4R (w:World) (a:Addr) (ep:Nat) (es:Array (Int × Value)):Array (Int × Value):=if w.params.followText "set-order" then pickOrder (w.params.setOrder a ep) es else es
theorem a3Y:(a4R w a ep es).toList.Perm es.toList:=by
 unfold a4R
 split
 ·exact a7C _ _
 ·exact .refl _
theorem a1Z:(a4R w a ep es).size=es.size:=by
 have:=(a3Y (w:=w) (a:=a) (ep:=ep) (es:=es)).length_eq
 simpa using this
theorem b0S {Q:Bool→Shared→Prop} (x:a7V b m s.heap a es ep t) (h:Q false s):wpAny (model prog w) A (setDrawn a) Q E s:=by
 have hf:=x.fits
 obtain ⟨o,ho,hx,hd,T,Es⟩:=x
 unfold setDrawn setsByText
 refine wpAny_bind (wpAny_setState_of ho hd hf (wpAny_bind (wpAny_bind (wpAny_askSetting (wpAny_pure (wpAny_pure ?_))))))
 have e:(!w.params.followText "set-order" && (!t.plain && decide (es.size > 1)))=false:=by rw [T.plain];simp
 show Q (!w.params.followText "set-order" && (!t.plain && decide (es.size > 1))) s
 rw [e]
 exact h
def SWk (b:Bool) (m:Nat) (h:Heap) (it a:Addr) (i n ep:Nat):Prop:=∃ o sl,h.get? it=some o∧o.cls=.type "set_iterator"∧o.data=.fields #[.int (sl:Nat) 0,.int i 0,.ref a,.int n 0,.int ep 0]∧(b=false→sl=nxL m i)
theorem SWk.at {h h':Heap} {i n:Nat} (x:SWk b m h it a i n ep) (e:∀ o,h.get? it=some o→h'.get? it=some o):SWk b m h' it a i n ep:=by
 obtain ⟨o,sl,ho,r⟩:=x
 exact ⟨o,sl,e o ho,r⟩
theorem b2J {Q:Value→Shared→Prop} (x:a7V b m s.heap a es ep t) (hQ:Q (.ref s.heap.objs.size) { s with heap:=s.heap.push { cls:=.type "set_iterator",data:=.fields #[.int 0 0,.int 0 0,.ref a,.int es.size 0,.int ep 0] } }) :
  wpAny (model prog w) A (pyIter (.ref a)) Q E s:=by
 have hf:=x.fits
 obtain ⟨o,ho,hx,hd,T,Es⟩:=id x
 have hT:s.TypeIs (.ref a) "set":=⟨o,ho,hx.1⟩
 refine wpAny_pyIter_slot hT F.slot_set_iter (wpAny_call_entry F.slot_set_iter hT a3X ?_ (F.args_set_iter_1 _))
 unfold Builtin.«frozenset.__iter__»
 show wpAny _ _ (Builtin.Frozenset.sizeOf a >>= _) _ _ s
 unfold Builtin.Frozenset.sizeOf
 refine wpAny_bind (wpAny_bind (wpAny_setEntries_of ho hd hf (wpAny_pure ?_)))
 refine wpAny_bind (b0S x ?_)
 simp only [Bool.false_eq_true,if_false]
 refine wpAny_bind (wpAny_pure (wpAny_bind (wpAny_setEpoch_of ho hd hf ?_)))
 refine wpAny_bind (wpAny_newObj_type (wpAny_pure ⟨_,rfl,"set_iterator",_,⟨_,Heap.get?_push_size _ rfl,rfl⟩,a0T.lookup,?_⟩))
 simpa [rawInt] using hQ
end
theorem a6u:Manifest.owners.lookup (String.ofList ['r','o','t','a','r','e','t','i','_','t','e','s'].reverse)=some Manifest.sig_set_iterator:=by kernel_rfl
theorem a2w (a:Value):argsOk "set_iterator.__next__" ⟨[a],[]⟩:=by
 unfold argsOk;rw [signature?_of (id:="set_iterator.__next__") (n:=['_','_','t','x','e','n','_','_']) (o:=['r','o','t','a','r','e','t','i','_','t','e','s']) (by kernel_rfl) a6u];kernel_rfl
theorem a4S (a:Value):argsOk "set_iterator.__iter__" ⟨[a],[]⟩:=by
 unfold argsOk;rw [signature?_of (id:="set_iterator.__iter__") (n:=['_','_','r','e','t','i','_','_']) (o:=['r','o','t','a','r','e','t','i','_','t','e','s']) (by kernel_rfl) a6u];kernel_rfl
theorem a3Z:entryFor table "set_iterator.__iter__"=some Builtin.«dict_keyiterator.__iter__»:=entryFor_alias (id':="dict_keyiterator.__iter__") (by kernel_rfl) rfl (by decide +kernel) (by kernel_rfl)
section
variable {prog:Program} {w:World} {A:Around} {E:Value→Shared→Prop} {s:Shared} {b:Bool} {m ep:Nat} {es:Array (Int × Value)} {t:SetTable} {a it:Addr}
theorem a9h {i sl:Nat} {Q:Option (Value × Nat)→Shared→Prop} (x:a7V b m s.heap a es ep t) (hb:b=w.params.followText "set-order") (hsl:b=false→sl=nxL m i) (hi:i≤es.size)
  (h:∀ sl',(b=false→i < es.size→sl'=nxL m (i+1))→Q (((a4R w a ep es)[i]?).map fun e=>(e.2,sl')) s):wpAny (model prog w) A (setNext a sl i ep) Q E s:=by
 have hf:=x.fits
 obtain ⟨o,ho,hx,hd,T,Es⟩:=id x
 unfold setNext setsByText
 refine wpAny_bind (wpAny_setState_of ho hd hf ?_)
 refine wpAny_bind (wpAny_bind (wpAny_askSetting (wpAny_pure ?_)))
 cases hw:w.params.followText "set-order" with
 | true =>
  have hw':(model prog w).w.params.followText "set-order"=true:=hw
  simp only [hw',if_true,bne_self_eq_false,Bool.false_eq_true,if_false]
  unfold setWalk setsByText
  refine wpAny_bind (wpAny_bind (wpAny_setState_of ho hd hf (wpAny_bind (wpAny_bind (wpAny_askSetting (wpAny_pure ?_))))))
  simp only [hw',if_true]
  refine wpAny_bind (wpAny_askSetting (wpAny_pure (wpAny_pure ?_)))
  have:=h sl (fun z=>by rw [hb,hw] at z;cases z)
  unfold a4R at this
  rw [hw] at this
  exact this
 | false =>
  have hw':(model prog w).w.params.followText "set-order"=false:=hw
  have hb0:b=false:=hb.trans hw
  have hl:t.led=true:=by rw [T.led,hb0];rfl
  simp only [hw',Bool.false_eq_true,if_false]
  have np:¬ ((!t.plain && decide (es.size > 1))=true):=by rw [T.plain];simp
  refine wpAny_ite_split (fun z=>absurd z np) fun _=>?_
  refine wpAny_bind (m:=(if (!t.led && !es.isEmpty)=true then unsupported "set:maker-not-led" else pure ())) ?_
  rw [if_neg (show ¬ ((!t.led && !es.isEmpty)=true) from by rw [hl];simp)]
  refine wpAny_pure (wpAny_pure ?_)
  have bl:SetTable.below t.place sl=i:=by
   rw [T.place,hsl hb0]
   have:=a2k m
   exact b2H m T.lt i (by have:=Es.size;omega) (by rw [←Es.size];exact hi)
  rw [bl,T.place]
  by_cases hlt:i < es.size
  ·have hl2:i < (a0C m).length:=by rw [←Es.size];exact hlt
   have:=h (nxL m (i+1)) (fun _ _=>rfl)
   unfold a4R at this
   rw [hw] at this
   simp only [Bool.false_eq_true,if_false,Array.getElem?_eq_getElem hlt,Option.map_some] at this
   rw [Array.getElem?_eq_getElem hlt,List.getElem?_toArray,List.getElem?_eq_getElem hl2]
   have e:nxL m (i+1)=(a0C m)[i]+1:=by
    show (a0C m).getD i 0+1=_
    simp [List.getD,List.getElem?_eq_getElem hl2]
   rw [e] at this
   exact this
  ·have:=h 0 (fun _ z=>absurd z hlt)
   unfold a4R at this
   rw [hw] at this
   simp only [Bool.false_eq_true,if_false,Array.getElem?_eq_none (Nat.le_of_not_lt hlt),Option.map_none] at this
   rw [Array.getElem?_eq_none (Nat.le_of_not_lt hlt)]
   exact this
theorem SWk.typeIs {i n:Nat} (y:SWk b m s.heap it a i n ep):s.TypeIs (.ref it) "set_iterator":=by
 obtain ⟨o,sl,ho,hc,_⟩:=y
 exact ⟨o,ho,hc⟩
theorem b0T {i:Nat} {e:Int × Value} {Q:Option Value→Shared→Prop} (x:a7V b m s.heap a es ep t) (hb:b=w.params.followText "set-order") (y:SWk b m s.heap it a i es.size ep) (he:(a4R w a ep es)[i]?=some e)
  (hQ:∀ h',SWk b m h' it a (i+1) es.size ep→Heap.SameBut it s.heap h'→Q (some e.2) { s with heap:=h' }):wpAny (model prog w) A (pyNext (.ref it)) Q E s:=by
 have hf:=x.fits
 have hT:=y.typeIs
 have hlt:i < es.size:=by
  rw [←a1Z (w:=w) (a:=a) (ep:=ep)]
  exact (Array.getElem?_eq_some_iff.mp he).1
 obtain ⟨od,hod,hx,hdd,T,Es⟩:=id x
 obtain ⟨o,sl,ho,hc,hd,hsl⟩:=y
 unfold pyNext
 refine wpAny_bind (wpAny_attempt (wpAny_callSpecial?_slot (name:=Str.ofString "__next__") hT a0T (wpAny_call_entry a0T hT a1Y ?_ (a2w _))))
 unfold Builtin.«set_iterator.__next__»
 refine wpAny_bind (wpAny_pure ?_)
 refine wpAny_bind (wpAny_fieldsOf ho hd ?_)
 refine wpAny_bind (wpAny_setEntries_of hod hdd hf ?_)
 refine wpAny_ite_split (fun z=>absurd z (by simp)) fun _=>?_
 simp only [Int.toNat_natCast]
 refine wpAny_bind (a9h x hb hsl (Nat.le_of_lt hlt) fun sl' hs'=>?_)
 rw [he]
 simp only [Option.map_some]
 refine wpAny_bind (wpAny_setField ho hd (by simp) ?_)
 have ho1:(s.heap.update it (Obj.mapFields (·.setIfInBounds 0 (rawInt (sl':Int))))).get? it=some _:=Heap.get?_update_self _ ho (Obj.isFreed_of_fields (Obj.data_mapFields hd _))
 have hd1:(Obj.mapFields (·.setIfInBounds 0 (rawInt (sl':Int))) o).data=.fields #[.int (sl':Nat) 0,.int i 0,.ref a,.int es.size 0,.int ep 0]:=by
  rw [Obj.data_mapFields hd]
  simp [rawInt]
 refine wpAny_bind (wpAny_setField (s:={ s with heap:=s.heap.update it (Obj.mapFields (·.setIfInBounds 0 (rawInt (sl':Int)))) }) ho1 hd1 (by simp) ?_)
 have hd2:(Obj.mapFields (·.setIfInBounds 1 (rawInt ((i:Int)+1))) (Obj.mapFields (·.setIfInBounds 0 (rawInt (sl':Int))) o)).data=.fields #[.int (sl':Nat) 0,.int (i+1:Nat) 0,.ref a,.int es.size 0,.int ep 0]:=by
  rw [Obj.data_mapFields hd1]
  simp [rawInt]
 have ho2:=Heap.get?_update_self (Obj.mapFields (·.setIfInBounds 1 (rawInt ((i:Int)+1)))) ho1 (Obj.isFreed_of_fields hd2)
 refine wpAny_pure ⟨_,rfl,wpAny_pure (hQ _ ⟨_,sl',ho2,?_,hd2,fun z=>hs' z hlt⟩ ((Heap.SameBut.update ..).trans (Heap.SameBut.update ..)))⟩
 rw [Obj.cls_mapFields,Obj.cls_mapFields]
 exact hc
theorem b2K {Q:Option Value→Shared→Prop} (hh:A.handled=none) (x:a7V b m s.heap a es ep t) (hb:b=w.params.followText "set-order") (y:SWk b m s.heap it a es.size es.size ep)
  (hQ:∀ h',Heap.ExtBut it s.heap h'→Q none { s with heap:=h' }):wpAny (model prog w) A (pyNext (.ref it)) Q E s:=by
 have hf:=x.fits
 have hT:=y.typeIs
 have he:(a4R w a ep es)[es.size]?=none:=Array.getElem?_eq_none (by rw [a1Z];exact Nat.le_refl _)
 obtain ⟨od,hod,hx,hdd,T,Es⟩:=id x
 obtain ⟨o,sl,ho,hc,hd,hsl⟩:=y
 unfold pyNext
 refine wpAny_bind (wpAny_attempt (wpAny_callSpecial?_slot (name:=Str.ofString "__next__") hT a0T (wpAny_call_entry a0T hT a1Y ?_ (a2w _))))
 unfold Builtin.«set_iterator.__next__»
 refine wpAny_bind (wpAny_pure (wpAny_bind (wpAny_fieldsOf ho hd ?_)))
 refine wpAny_bind (wpAny_setEntries_of hod hdd hf ?_)
 refine wpAny_ite_split (fun z=>absurd z (by simp)) fun _=>?_
 simp only [Int.toNat_natCast]
 refine wpAny_bind (a9h x hb hsl (Nat.le_refl _) fun sl' hs'=>?_)
 rw [he]
 simp only [Option.map_none]
 refine wpAny_bind (wpAny_setField ho hd (by simp) (wpAny_bind ?_))
 simp only [newExc,newTuple]
 refine wpAny_bind (wpAny_newObj_type ?_ (by size_fits))
 refine wpAny_bind (m:=firstArgMember _ _) (wpAny_of_eq (a:=Value.none) (by first | rfl | (simp only [firstArgMember];rfl)) (wpAny_newObj_type ?_ (by size_fits)))
 simp only [raiseNew]
 refine wpAny_bind (wpAny_handled ?_)
 rw [show A.in1.handled=none from hh]
 refine wpAny_bind (wpAny_pure (wpAny_throw ?_))
 refine wpAny_bind (wpAny_isInstance (T:="StopIteration") (b:=true) ⟨_,Heap.get?_push_size _ rfl,rfl⟩ isSubtype_stop ?_)
 exact wpAny_pure (hQ _ (((Heap.SameBut.update ..).extBut.push _).push _))
theorem b0U {i n:Nat} {Q:Value→Shared→Prop} (y:SWk b m s.heap it a i n ep) (h:Q (.ref it) s):wpAny (model prog w) A (pyIter (.ref it)) Q E s:=by
 obtain ⟨id,sl,rfl⟩:=a4Q
 refine wpAny_pyIter_slot y.typeIs sl (wpAny_call_entry sl y.typeIs a3Z ?_ (a4S _))
 show wpAny _ _ (ret (.ref it)) _ _ s
 exact wpAny_pure ⟨_,rfl,"set_iterator",_,y.typeIs,a0T.lookup,h⟩
theorem b0V (hh:A.handled=none) (I:Addr) (hne:a≠I) (hb:b=w.params.followText "set-order"):Walks prog w A I [I,a] [I] es.size (fun i v=>∃ e,(a4R w a ep es)[i]?=some e∧v=e.2) (fun i h=>SWk b m h I a i es.size ep∧a7V b m h a es ep t) where
 sub:=fun c hc=>by simp at hc;simp [hc]
 frame:=fun _ _ _ st hk=>⟨st.1.at fun o e=>hk I (by simp) o e,st.2.at fun o e=>hk a (by simp) o e⟩
 item:=fun i s Q E hi st hQ=>by
  have he:(a4R w a ep es)[i]?=some _:=Array.getElem?_eq_getElem (by rw [a1Z];exact hi)
  refine b0T st.2 hb st.1 he fun h' hit' hs'=>?_
  exact hQ _ h' s.toks ⟨_,he,rfl⟩ ⟨hit',st.2.at fun o e=>(hs'.2 a hne).trans e⟩ fun b o hb e=>hs'.extBut b o (fun h=>hb (by simp [h])) e
 done:=fun s Q E st hQ=>b2K hh st.2 hb st.1 fun h' he'=>hQ h' s.toks fun b o hb e=>he' b o (fun h=>hb (by simp [h])) e
 self:=fun _ _ _ _ st hQ=>b0U st.1 hQ
end
theorem bit_or (m x y:Nat):(m ||| 1 <<< x).testBit y=(m.testBit y || decide (x=y)):=by
 rw [Nat.testBit_or,Nat.one_shiftLeft,Nat.testBit_two_pow]
section
variable {prog:Program} {w:World} {A:Around} {E:Value→Shared→Prop} {s:Shared} {b:Bool}
theorem b2L {R:Result→Shared→Prop} {I S:Addr} {fp wr:List Addr} {n:Nat} {P:Nat→Value→Prop} {St:Nat→Heap→Prop} (W:Walks prog w A.in1 I fp wr n P St) (hSf:S∉fp) (val:Nat→Nat)
  (hval:∀ i v,i < n→P i v→val i < 8∧∃ tk,v=.int (val i:Nat) tk):∀ (k i m:Nat) (s:Shared),n - i=k→i≤n→St i s.heap→a7U b m s.heap S →
   (∀ h' tk m',(∀ c o,c∉S :: wr→s.heap.get? c=some o→h'.get? c=some o)→(∀ x,m'.testBit x=true↔m.testBit x=true∨∃ j,i≤j∧j < n∧val j=x)→a7U b m' h' S→R (.ok (.ret .none)) { s with heap:=h',toks:=tk }) →
   codeAny (model prog w) A (.builtin "set.update.loop" ⟨[.ref S,.ref I],[]⟩) R s:=by
 have hSw:S∉wr:=fun z=>hSf (W.sub _ z)
 intro k
 induction k with
 | zero =>
  intro i m s hk hi st hS hR
  obtain rfl:i=n:=by omega
  refine codeAny_builtin F.entry_set_update_loop ?_
  rw [Around.under_plainId F.plain_set_update_loop _]
  show wpAny _ A.in1 (pyNext (.ref I) >>= fun _=>_) _ _ s
  refine wpAny_bind (W.done s _ _ st fun h' tk kp=>?_)
  show wpAny _ A.in1 (ret Value.none) _ _ _
  refine wpAny_pure (hR h' tk m (fun c o hc e=>kp c o (fun z=>hc (List.mem_cons_of_mem _ z)) e) (fun x=>⟨.inl,fun z=>z.elim id fun ⟨j,h1,h2,_⟩=>by omega⟩) (hS.at fun o e=>kp S o hSw e))
 | succ k ih =>
  intro i m s hk hi st hS hR
  have hlt:i < n:=by omega
  refine codeAny_builtin F.entry_set_update_loop ?_
  rw [Around.under_plainId F.plain_set_update_loop _]
  show wpAny _ A.in1 (pyNext (.ref I) >>= fun _=>_) _ _ s
  refine wpAny_bind (W.item i s _ _ hlt st fun v h1 tk1 hP st1 kp=>?_)
  obtain ⟨h8,tk,rfl⟩:=hval i v hlt hP
  have hS1:a7U b m h1 S:=hS.at fun o e=>kp S o hSw e
  show wpAny _ A.in1 (holding [Value.int (val i:Nat) tk] (setAdd S (.int (val i:Nat) tk)) >>= fun _=>_) _ _ _
  unfold setAdd
  refine wpAny_bind (wpAny_holding (wpAny_holding (wpAny_bind ((intKind prog w).pyHash (k:=((val i:Nat):Int)) (intKind_is _ _ _ _) ?_))))
  refine add_sm (b:=b) (m:=m) (s:={ s with heap:=h1,toks:=tk1+1 }) hS1 h8 fun h2 r sb hS2=>?_
  refine wpAny_pure ⟨plainId_quiet F.plain_set_update_loop _,ih (i+1) _ _ (by omega) hlt (W.frame _ _ _ st1 fun c hc o e=>?_) hS2 fun h' tk' m' kp' hm' hS'=>?_⟩
  ·rw [sb.2 c (fun z=>hSf (z▸hc))]
   exact e
  ·refine hR h' tk' m' (fun c o hc e=>kp' c o hc ?_) (fun x=>?_) hS'
   ·show h2.get? c=some o
    rw [sb.2 c (fun z=>hc (by rw [z];exact List.mem_cons_self))]
    exact kp c o (fun z=>hc (List.mem_cons_of_mem _ z)) e
   ·rw [hm' x,bit_or,Bool.or_eq_true,decide_eq_true_eq]
    constructor
    ·rintro ((z | z) | ⟨j,z1,z2,z3⟩)
     ·exact .inl z
     ·exact .inr ⟨i,Nat.le_refl _,hlt,z⟩
     ·exact .inr ⟨j,by omega,z2,z3⟩
    ·rintro (z | ⟨j,z1,z2,z3⟩)
     ·exact .inl (.inl z)
     ·by_cases e:j=i
      ·subst e
       exact .inl (.inr z3)
      ·exact .inr ⟨j,by omega,z2,z3⟩
def a9Y (w:World):Obj:={ cls:=.type "set",dict:=none,data:=.set #[] 0 (.fresh 0 0 (!w.params.followText "set-order")) }
theorem new_sm (a:Value) {Q1:Value→Shared→Prop} (h:Q1 (.ref s.heap.objs.size) { s with heap:=s.heap.push (a9Y w) }) :
  codeAny (model prog w) A (.call (.builtin "set.__new__") ⟨[.type "set",a],[]⟩) (wants Q1 E) s:=by
 refine codeAny_of_tree (A:=A) ?_
 show wpAny _ A.in1 (checkBuiltinCall "set.__new__" ⟨[.type "set",a],[]⟩ >>= fun _=>again (.builtin "set.__new__" ⟨[.type "set",a],[]⟩)) _ _ s
 refine wpAny_bind (wpAny_of_eq (PySem.F.newCall_set_1 a) (wpAny_pure ⟨plainId_quiet PySem.F.plain_set_new _,codeAny_builtin PySem.F.entry_set_new ?_⟩))
 rw [Around.under_plainId PySem.F.plain_set_new _]
 unfold Builtin.«set.__new__» Builtin.Frozenset.newClass
 have sbs:=PySem.sub_set_self
 obtain ⟨hp,g,d,tk,os⟩:=s
 dsimp only;wp_walk
 refine wpAny_askSetting (wpAny_pure ?_)
 dsimp only;simp only [newObj]
 exact wpAny_bind (wpAny_alloc (wpAny_pure (wpAny_pure h)))
theorem b2M {h:Heap} {a:Addr} (e:h.get? a=some (a9Y w)):a7U (w.params.followText "set-order") 0 h a :=
 ⟨_,#[],0,_,e,⟨rfl,rfl,rfl⟩,rfl,⟨by decide,rfl,rfl,rfl,rfl,.inl ⟨rfl,by decide⟩⟩,⟨rfl,fun e he=>by simp at he⟩⟩
theorem a9i {l:Addr} {items:Array Value} {ns:List Nat} {Q:Value→Shared→Prop} (hh:A.handled=none) (hl:s.heap.IsList l items) (hi:IntsAre items.toList (ns.map Int.ofNat)) (h8:∀ x∈ns,x < 8)
  (h:∀ h' tk m,a7U (w.params.followText "set-order") m h' s.heap.objs.size→(∀ x,m.testBit x=true↔x∈ns)→(∀ c o,s.heap.get? c=some o→h'.get? c=some o)→Q (.ref s.heap.objs.size) { s with heap:=h',toks:=tk }) :
  wpAny (model prog w) A (call (.type "set") [.ref l]) Q E s:=by
 obtain ⟨c,tl,hmro⟩:=PySem.F.called_set.mro
 have hmade:=PySem.F.called_set.made
 have hsub:=PySem.F.called_set.sub
 refine wpAny_call (codeAny_of_tree (A:=A) ?_)
 show wpAny _ _ (callAny (.type "set") _) _ _ _
 refine wpAny_pure ⟨Code.quiet_builtin _ (by decide +kernel),codeAny_builtin PySem.F.entry_type_call ?_⟩
 rw [Around.under_plain (weight_type_call_type "set" [.ref l] []) rfl]
 have h1:=PySem.F.called_set.notType
 have h2:=PySem.F.called_set.canCreate
 have hct:=PySem.F.typeCall_set_1 (.ref l)
 repeat (any_goals (first | assumption | wp_step))
 refine codeAny_mono (new_sm (.ref l) (E:=E) (Q1:=fun obj s1=>obj=.ref s.heap.objs.size∧s1={ s with heap:=s.heap.push (a9Y w) }) ⟨rfl,rfl⟩) fun r s1 hr=>?_
 cases r with
 | error e=>exact hr
 | ok fl =>
  cases fl with
  | ret obj =>
   obtain ⟨rfl,rfl⟩:=hr
   have hS:(s.heap.push (a9Y w)).get? s.heap.objs.size=some (a9Y w):=Heap.get?_push_size _ rfl
   have hT:Shared.TypeIs { s with heap:=s.heap.push (a9Y w) } (.ref s.heap.objs.size) "set":=⟨_,hS,rfl⟩
   have hli:=PySem.F.called_set.init.lookup
   have hbi:=PySem.F.called_set.init.bind (.ref s.heap.objs.size)
   repeat (any_goals (first | assumption | wp_step))
   refine codeAny_mono (codeAny_call_builtin (R:=wants (fun r s2=>r=.none∧∃ h' tk m,s2={ s with heap:=h',toks:=tk }∧a7U (w.params.followText "set-order") m h' s.heap.objs.size∧(∀ x,m.testBit x=true↔x∈ns)∧(∀ c o,s.heap.get? c=some o→h'.get? c=some o)) E) PySem.F.called_set.init.plain PySem.F.entry_set_init (check_set_init_1 hT ?_)) fun r2 s2 hr2=>?_
   ·obtain ⟨ol,hol,hcl,nl,hdl⟩:=hl
    obtain ⟨ocls,odict,odata,oslots⟩:=ol
    simp only at hcl hdl
    subst hcl hdl
    have hol1:(s.heap.push (a9Y w)).get? l=some { cls:=.type "list",dict:=odict,data:=.seq items nl,slots:=oslots }:=Heap.get?_push_of_some _ hol
    have q1:=PySem.F.sub_list_set
    have q2:=PySem.F.sub_list_frozenset
    have q3:(Value.type "list" == Value.type "dict")=false:=by decide
    have hl1:(s.heap.push (a9Y w)).IsList l items:=⟨_,hol1,rfl,nl,rfl⟩
    unfold Builtin.«set.__init__» noKeywords Builtin.Frozenset.updateFrom
    generalize hPI:pyIter=PI
    wp_walk
    subst hPI
    refine wpAny_pyIter_list hl1 (wpAny_bind (wpAny_runValue ?_))
    have lS:l < s.heap.objs.size:=Heap.lt_size hol
    have ne:l≠(s.heap.push (a9Y w)).objs.size:=by rw [Heap.size_push];exact Nat.ne_of_lt (Nat.lt_succ_of_lt lS)
    have nf:s.heap.objs.size∉[(s.heap.push (a9Y w)).objs.size,l]:=by
     rw [Heap.size_push]
     intro z
     rcases List.mem_cons.mp z with z | z
     ·exact absurd z (Nat.ne_of_lt (Nat.lt_succ_self _))
     ·exact absurd (List.mem_singleton.mp z) (Nat.ne_of_gt lS)
    have len:items.size=ns.length:=by
     have:=IntsAre.length hi
     simpa using this
    refine b2L (b:=w.params.followText "set-order") (Walks.list (by simp [hh]) _ l ne items) nf (fun i=>ns.getD i 0) (fun i v hlt hv=>?_) (items.size - 0) 0 0 _ rfl (Nat.zero_le _) ⟨⟨_,Heap.get?_push_size _ rfl,rfl,rfl⟩,hl1.push _⟩ (b2M (Heap.get?_push_of_some _ hS)) fun h' tk m kp hm hS'=>?_
    ·have hl:i < ns.length:=by rw [←len];exact hlt
     obtain ⟨tk,e⟩:=IntsAre.int_at hi i v (by rw [Array.getElem?_toList];exact hv)
     have e1:ns.getD i 0=ns[i]:=by simp [List.getD,List.getElem?_eq_getElem hl]
     have e2:(ns.map Int.ofNat).getD i 0=(ns[i]:Int):=by simp [List.getD,List.getElem?_eq_getElem hl]
     refine ⟨by show ns.getD i 0 < 8;rw [e1];exact h8 _ (List.getElem_mem hl),tk,?_⟩
     show v=.int ((ns.getD i 0:Nat):Int) tk
     rw [e,e1,e2]
    ·show wpAny _ _ _ _ _ _
     refine wpAny_pure (show wpAny _ _ (ret Value.none) _ _ _ from wpAny_pure ⟨rfl,h',tk,m,rfl,hS',fun x=>?_,fun c o e=>kp c o (fun z=>?_) (Heap.get?_push_of_some _ (Heap.get?_push_of_some _ e))⟩)
     ·rw [hm x]
      constructor
      ·rintro (z | ⟨j,_,z2,rfl⟩)
       ·simp at z
       ·have hl:j < ns.length:=by rw [←len];exact z2
        have e1:ns.getD j 0=ns[j]:=by simp [List.getD,List.getElem?_eq_getElem hl]
        rw [e1]
        exact List.getElem_mem hl
      ·intro z
       obtain ⟨j,hl,e1⟩:=List.mem_iff_getElem.mp z
       exact .inr ⟨j,Nat.zero_le _,by rw [len];exact hl,by simp [List.getD,List.getElem?_eq_getElem hl,e1]⟩
     ·have lc:=Heap.lt_size e
      rcases List.mem_cons.mp z with z | z
      ·exact absurd z (Nat.ne_of_lt lc)
      ·have:=List.mem_singleton.mp z
       rw [Heap.size_push] at this
       exact absurd this (Nat.ne_of_lt (Nat.lt_succ_of_lt lc))
   ·cases r2 with
    | error e=>exact hr2
    | ok fl2 =>
     cases fl2 with
     | ret r =>
      obtain ⟨rfl,h',tk,m,rfl,hS',hm,hk'⟩:=hr2
      repeat (any_goals (first | assumption | wp_step))
      exact h _ _ m hS' hm hk'
     | _=>exact hr2.elim
  | _=>exact hr.elim
end
section
variable {prog:Program} {w:World} {A:Around} {E:Value→Shared→Prop} {s:Shared} {b:Bool} {m ep:Nat} {es:Array (Int × Value)} {t:SetTable} {a it:Addr}
theorem b0W {r:Addr} {Q:Bool→Shared→Prop} (hT:s.TypeIs (.ref r) "set") (h:Q false s):wpAny (model prog w) A (Builtin.List.listLengthHint (.ref r)) Q E s:=by
 unfold Builtin.List.listLengthHint
 refine wpAny_bind (wpAny_specialOf hT PySem.F.slot_set_len.lookup ?_)
 generalize hid:("set.__len__":String)=id0
 wp_delta
 rw [show splitId id0=some ("set","__len__") from by subst hid;decide +kernel]
 subst hid
 refine wpAny_bind (wpAny_isInstance (T:="set") (b:=true) hT (by rw [isSubtype_type];kernel_rfl) ?_)
 refine wpAny_ite_split (fun z=>absurd z (by decide)) (fun _=>wpAny_ite_split (fun _=>?_) (fun z=>absurd (by decide +kernel) z))
 exact wpAny_bind (wpAny_typeOf hT (wpAny_pure h))
theorem b2N (hb:b=w.params.followText "set-order"):KdlSrc prog w "set" a a es.size (fun i v=>∃ e,(a4R w a ep es)[i]?=some e∧v=e.2) (fun h=>a7V b m h a es ep t) where
 type:=fun s ⟨o,ho,hx,_⟩=>⟨o,ho,hx.1⟩
 there:=fun h ⟨o,ho,_⟩=>⟨Heap.lt_size ho,Heap.lt_size ho⟩
 keep:=fun h h' x k=>x.at fun o e=>k a (.inl rfl) o e
 notList:=by decide
 notTuple:=by decide
 hint:=fun A E s Q ⟨o,ho,hx,_⟩ h=>b0W ⟨o,ho,hx.1⟩ h
 iter:=fun A s hh hok=>by
  have lt:a < s.heap.objs.size:=by obtain ⟨o,ho,_⟩:=hok;exact Heap.lt_size ho
  exact ⟨_,_,fun E Q hQ=>b2J hok hQ,b0V (m:=m) hh _ (Nat.ne_of_lt lt) hb,⟨_,0,Heap.get?_push_size _ rfl,rfl,rfl,fun _=>rfl⟩,hok.at fun o e=>Heap.get?_push_of_some _ e⟩
theorem a5C {T:String} {r d:Addr} {n:Nat} {P:Nat→Value→Prop} {OK:Heap→Prop} {Q:List Value→Shared→Prop} (K:KdlSrc prog w T r d n P OK) (hh:A.handled=none) (hok:OK s.heap) (hn:n≤sizeLine)
  (h:∀ h' tk (acc:Array Value),(∀ b o,s.heap.get? b=some o→h'.get? b=some o)→ItemsOf P acc n→Q acc.toList { s with heap:=h',toks:=tk }):wpAny (model prog w) A (collect (.ref r)) Q E s:=by
 have lr:=(K.there _ hok).1
 have ld:=(K.there _ hok).2
 unfold collect
 refine wpAny_bind (wpAny_runValue (codeAny_builtin F.entry_proto_collect ?_))
 rw [Around.under_plainId F.plain_proto_collect _]
 show wpAny _ A.in1 (newList [] >>= fun l=>again (.builtin "list.__iadd__" ⟨[l,.ref r],[]⟩)) _ _ s
 refine wpAny_bind (wpAny_newObj_type (wpAny_pure ⟨plainId_quiet F.plain_list_iadd _,codeAny_builtin F.entry_list_iadd ?_⟩))
 rw [Around.under_plainId F.plain_list_iadd _]
 show wpAny _ A.in1 (Builtin.List.listExtendWith (.ref s.heap.objs.size) (.ref r) (.ref s.heap.objs.size)) _ _ _
 have hS0:(s.heap.push { cls:=.type "list",data:=.seq #[] }).get? s.heap.objs.size=some { cls:=.type "list",data:=.seq #[] }:=Heap.get?_push_size _ rfl
 have fin:∀ s':Shared,(∃ acc c,s'.heap.get? s.heap.objs.size=some { cls:=.type "list",dict:=none,data:=.seq acc c,slots:=#[] }∧Q acc.toList s') →
   wpAny (model prog w) A (match Value.ref s.heap.objs.size with
    | .ref a=>do
     let o ←load a
     match o.data with
     | .seq xs _=>pure xs.toList
     | _=>unsupported "internal:collect"
    | _=>unsupported "internal:collect") Q E s':=fun s' ⟨acc,c,hS,q⟩=>by
  show wpAny _ A (load s.heap.objs.size >>= _) _ _ _
  exact wpAny_bind (wpAny_load hS (wpAny_pure q))
 refine wpAny_mono (kdl_extend (s:={ s with heap:=s.heap.push { cls:=.type "list",data:=.seq #[] } }) (A:=A)
  (R:=fun r s'=>r=.ok (.ret (.ref s.heap.objs.size))∧∃ acc c,s'.heap.get? s.heap.objs.size=some { cls:=.type "list",dict:=none,data:=.seq acc c,slots:=#[] }∧Q acc.toList s')
  K hh (K.keep _ _ hok fun c _ o e=>Heap.get?_push_of_some _ e) s.heap.objs.size (Nat.ne_of_gt lr) (Nat.ne_of_gt ld) (.ref s.heap.objs.size) 0 hS0 (fun h' tk acc c kp hS hacc=>⟨rfl,acc,c,hS,?_⟩) hn) (fun fn s' hz=>?_) (fun e s' hz=>?_)
 ·exact h h' tk acc (fun b o e=>kp b o (Nat.ne_of_lt (Heap.lt_size e)) (Heap.get?_push_of_some _ e)) hacc
 ·rcases fn with f | c'
  ·obtain ⟨e,z⟩:=hz
   cases e
   exact fin s' z
  ·refine ⟨hz.1,codeAny_mono hz.2 fun r s'' z=>?_⟩
   obtain ⟨e,z⟩:=z
   subst e
   exact fin s'' z
 ·obtain ⟨z,_⟩:=hz
  cases z
theorem b0X (Es:SmE m es) {vs:List Value} (h:vs=(a4R w a ep es).toList.map (·.2)):∃ ns:List Int,IntsAre vs ns∧ns.Perm ((a0C m).map Int.ofNat):=by
 refine ⟨(a4R w a ep es).toList.map (·.1),?_,?_⟩
 ·subst h
  have all:∀ e∈(a4R w a ep es).toList,∃ tk,e.2=.int e.1 tk:=fun e he=>Es.int e (a3Y.mem_iff.mp he)
  generalize (a4R w a ep es).toList=l at all
  induction l with
  | nil=>exact .nil
  | cons e l ih =>
   obtain ⟨tk,et⟩:=all e (.head _)
   rw [List.map_cons,List.map_cons,et]
   exact .cons _ _ (ih fun e he=>all e (.tail _ he))
 ·rw [←Es.vals]
  exact a3Y.map _
end
def SetO (w:World) (a:Addr) (m:Nat):HO:=.ext fun h=>a7U (w.params.followText "set-order") m h a
def rSetS (w:World):List V→Hp→VK→Prop:=fun xs H Q=>∃ (l:Addr) (ns:List Nat),xs=[.ref l]∧H l=some (.lst (ns.map fun n=>V.int (Int.ofNat n)))∧(∀ x∈ns,x < 8) ∧
 ∀ p H' m,a0t H H'→H p=none→H' p=some (SetO w p m)→(∀ x,m.testBit x=true↔x∈ns)→Q (.ref p) H'
theorem a9j {X:Cx} (hc:X.calm=true):a1K X (.type "set") (rSetS X.w):=by
 intro pins s σ H xs us Q I r h
 obtain ⟨l,ns,rfl,e,h8,q⟩:=h
 obtain ⟨u,rfl,rx⟩:=a2H r
 cases rx
 obtain ⟨_,its,n,rv,he⟩:=(show a0F X.prog X.w H s.heap l (.lst (ns.map fun n=>V.int (Int.ofNat n))) from I.hok l _ e)
 have hI:IntsAre its (ns.map Int.ofNat):=a7A (by rw [List.map_map];exact rv)
 have hLn:H s.heap.objs.size=none:=I.hok.fresh (Nat.le_refl _)
 refine a9i (I.ok.hd hc) ⟨_,he,rfl,n,rfl⟩ hI h8 fun h' tk m hS hm kp=>?_
 have I2:Inv X pins σ (upd H s.heap.objs.size (SetO X.w s.heap.objs.size m)) { s with heap:=h',toks:=tk }:=I.laid (t':=tk) kp (Nat.le_refl _) ⟨hS,by obtain ⟨o,_,_,_,ho,_⟩:=hS;exact ⟨o,ho⟩,fun h1 h2 z k=>z.at k⟩
 exact ⟨.ref s.heap.objs.size,_,I2,rfl,q _ _ m (a0d hLn _) hLn a0b hm⟩
def rSortS (w:World):List V→Hp→VK→Prop:=fun xs H Q=>∃ (d:Addr) (m:Nat),xs=[.ref d]∧H d=some (SetO w d m)∧∀ p H',a0t H H'→H p=none→H' p=some (.lst ((a0C m).map fun n=>V.int (Int.ofNat n)))→Q (.ref p) H'
theorem a9k (m:Nat):((a0C m).map Int.ofNat).Pairwise (·≤·):=by
 rw [List.pairwise_map]
 unfold a0C
 refine List.Pairwise.filter _ ?_
 exact (List.pairwise_lt_range (n:=8)).imp fun h=>by
  show ((_:Nat):Int)≤((_:Nat):Int)
  omega
theorem b2O {X:Cx} (hc:X.calm=true):a1K X (.builtin "sorted") (rSortS X.w):=by
 intro pins s σ H xs us Q I r h
 obtain ⟨d,m,rfl,e,q⟩:=h
 obtain ⟨u,rfl,rx⟩:=a2H r
 cases rx
 obtain ⟨⟨o,es,ep,t,ho,hx,hd,T,Es⟩,_,_⟩:=(show a0F X.prog X.w H s.heap d (SetO X.w d m) from I.hok d _ e)
 have h8:=a2k m
 have sz:=Es.size
 refine Calls.call_function_entry kind_sorted plain_sorted entry_sorted (args_sorted1 _) ?_
 unfold Builtin.«sorted»
 refine wpAny_bind (m:=checkCount "sorted" 1 1 _) (wpAny_pure ?_)
 refine wpAny_bind (a5C (b2N (m:=m) (es:=es) (ep:=ep) (t:=t) rfl) (I.ok.hd hc) ⟨o,ho,hx,hd,T,Es⟩ (by rw [sizeLine_eq];omega) fun h1 tk1 acc k1 hacc=>?_)
 have hvs:acc.toList=(a4R X.w d ep es).toList.map (·.2):=by
  refine List.ext_getElem? fun i=>?_
  rw [Array.getElem?_toList,List.getElem?_map,Array.getElem?_toList]
  cases hi:acc[i]? with
  | none =>
   have:acc.size≤i:=Array.getElem?_eq_none_iff.mp hi
   rw [Array.getElem?_eq_none (by rw [a1Z,←hacc.1];exact this)]
   rfl
  | some v =>
   obtain ⟨e,he,rfl⟩:=hacc.2 i v hi
   rw [he]
   rfl
 obtain ⟨ns,hI,pm0⟩:=b0X Es hvs
 have len:acc.toList.length=es.size:=by rw [hvs,List.length_map,Array.length_toList,a1Z]
 generalize acc.toList=its at hI len ⊢
 have li:=a5B hI
 refine wpAny_bind (wpAny_newList ?_ (by show its.length≤sizeLine;rw [sizeLine_eq];omega))
 show wpAny _ _ _ _ _ { s with heap:=h1.push (seqObj "list" its.toArray 0),toks:=tk1 }
 have hoL:(h1.push (seqObj "list" its.toArray 0)).get? h1.objs.size=some (seqObj "list" its.toArray 0):=Heap.get?_push_size _ rfl
 have nL:∀ b o,h1.get? b=some o→b≠h1.objs.size:=fun b o e=>Nat.ne_of_lt (Heap.lt_size e)
 have I1:Inv X pins σ H { s with heap:=h1,toks:=tk1 }:=I.kept k1
 have hLn:H h1.objs.size=none:=I1.hok.fresh (Nat.le_refl _)
 refine wpAny_bind (wpAny_holding (wpAny_call_entry slot_list_sort ⟨_,hoL,rfl⟩ entry_list_sort (list_sort_tree (s:={ s with heap:=h1.push (seqObj "list" its.toArray 0),toks:=tk1 }) hoL hI (by omega) fun out ns' ho' pm srt'=>⟨_,rfl,?_⟩) (args_list_sort _)))
 have es':ns'=(a0C m).map Int.ofNat:=a9e (pm.trans pm0) srt' (a9k m)
 subst es'
 have hp:∃ c,(sortedHeap (h1.push (seqObj "list" its.toArray 0)) h1.objs.size its out).get? h1.objs.size=some { cls:=.type "list",data:=.seq out.toList.toArray c }:=by
  unfold sortedHeap
  have z1:=get?_update_seq hoL (fun _=>#[])
  have z3:=Heap.get?_push_of_some (seqObj "list" #[] 0) (Heap.get?_push_of_some (seqObj "tuple" its.toArray 0) z1)
  exact ⟨_,get?_update_seq z3 (fun _=>out)⟩
 obtain ⟨c,hp⟩:=hp
 have kh:∀ b o,h1.get? b=some o→(sortedHeap (h1.push (seqObj "list" its.toArray 0)) h1.objs.size its out).get? b=some o:=fun b o e=>by
  have ne:=nL b o e
  unfold sortedHeap
  rw [Heap.get?_update_ne _ _ _ _ ne]
  refine Heap.get?_push_of_some _ (Heap.get?_push_of_some _ ?_)
  rw [Heap.get?_update_ne _ _ _ _ ne]
  exact Heap.get?_push_of_some _ e
 have rv:a0D ((a0C m).map fun n=>V.int (Int.ofNat n)) out.toList:=by
  have:=a7B ho'
  rw [List.map_map] at this
  exact this
 have I2:Inv X pins σ (upd H h1.objs.size (.lst ((a0C m).map fun n=>V.int (Int.ofNat n)))) { s with heap:=sortedHeap (h1.push (seqObj "list" its.toArray 0)) h1.objs.size its out,toks:=tk1 }:=I1.laid (t':=tk1) kh (Nat.le_refl _) ⟨by rw [List.length_map,sizeLine_eq];omega,_,c,rv,hp⟩
 exact wpAny_pure ⟨_,rfl,.ref h1.objs.size,_,I2,rfl,q _ _ (a0d hLn _) hLn a0b⟩
end L2
namespace K18
open PySem L2
def top (i:Nat):Stmt:=PySem.Challenge.pw_lettertoll_k18_whole_spellings_and_costs.main.body.getD i (.Pass ⟨0,0,0,0⟩)
abbrev a7D:Stmt:=top 16
def kid:Stmt→Stmt
 | .ClassDef _ _ _ b ..=>b.getD 0 (.Pass ⟨0,0,0,0⟩)
 | s=>s
abbrev a3x:Stmt:=kid (top 5)
def a4r (word:List Int) (n:Nat) (wy:List (List Int × List Int)):List (List Int × List Int):=(List.range n).foldl (fun wy i=>a1B (word.take i) (word.getD i 0) wy) wy
theorem a0J (word:List Int) (n:Nat) (wy:List (List Int × List Int)):a4r word (n+1) wy=a1B (word.take n) (word.getD n 0) (a4r word n wy):=by
 unfold a4r
 rw [List.range_succ,List.foldl_append]
 rfl
def a0X (ws:List (List Int)) (n:Nat):List (List Int × List Int):=(ws.take n).foldl (fun wy word=>a4r word word.length wy) []
theorem a0N {ws:List (List Int)} {n:Nat} {word:List Int} (h:ws[n]?=some word):a0X ws (n+1)=a4r word word.length (a0X ws n):=by
 unfold a0X
 rw [List.take_add_one,h,List.foldl_append]
 rfl
def a0Y (ws:List (List Int)):List (List Int × List Int):=a0X ws ws.length
theorem a6v (k:List Int) (l:Int):∀ wy,(a1B k l wy).length≤wy.length+1
 | []=>Nat.le_refl _
 | (k',ls) :: r=>by
  unfold a1B
  split
  ·simp
  ·have:=a6v k l r
   simp only [List.length_cons]
   omega
def Few (n:Nat) (wy:List (List Int × List Int)):Prop:=∀ q∈wy,q.2.length≤n
theorem a6w {n:Nat} (k:List Int) (l:Int):∀ {wy:List (List Int × List Int)},Few n wy→Few (n+1) (a1B k l wy)
 | [],_=>fun q hq=>by
  rw [show a1B k l []=[(k,[l])] from rfl] at hq
  rw [List.mem_singleton.mp hq]
  exact Nat.le_add_left 1 n
 | (k',ls) :: r,h=>fun q hq=>by
  unfold a1B at hq
  have hr:Few n r:=fun q hq=>h q (.tail _ hq)
  split at hq
  ·rcases List.mem_cons.mp hq with z | z
   ·rw [z]
    have hz:ls.length≤n:=h (k',ls) (.head _)
    show (a7u l ls).length≤n+1
    unfold a7u
    split
    ·omega
    ·rw [List.length_append];show ls.length+1≤n+1;omega
   ·have:=hr q z;omega
  ·rcases List.mem_cons.mp hq with z | z
   ·rw [z];have:=h _ (.head _);omega
   ·exact a6w k l hr q z
theorem a4N.same {H H':Hp} {kvs:List (List Key × V)} {wy:List (List Int × List Int)} (h:a4N H kvs wy) (sm:a0t H H'):a4N H' kvs wy:=Paired.mapP h fun _ _ ⟨e1,dx,e2,e3⟩=>⟨e1,dx,e2,sm _ _ e3⟩
def WAt (H H':Hp) (d:Addr) (wy:List (List Int × List Int)):Prop:=H d=none∧a0t H H'∧∃ kvs,H' d=some (.dT kvs)∧a4N H' kvs wy∧(kvs.map (·.2)).Nodup∧∀ dx,V.ref dx∈kvs.map (·.2)→H dx=none∧dx≠d∧∃ o,H' dx=some o
section
variable {P:Program} {w:World} {K:PySem.W.Frag} {mg:Str→Option Value} {base:Heap} {f:Addr} {fd:FuncData}
def a9l:Sp:=fun vs H Q _=>∃ c xs ws,vs=[.ref c]∧H c=some (.tup xs)∧Ws H xs ws∧ws.length≤100∧(∀ x∈ws,x.length≤100)∧∀ d H',WAt H H' d (a0Y ws)→Q (.ref d) H'
abbrev NY:List Str:=["code","ways","word","size","letters"]
theorem a4T:a0o NY ["code"] (a0e a7D):=⟨rfl,rfl,rfl,by decide +kernel,rfl,by decide +kernel,by decide +kernel⟩
theorem hu1 {A:Around} {k:Nat} (hr:a2t k A):A.units+1 < cLine:=by have:=hu4 hr;omega
theorem b2P (F:Fun K "ways_on" "ways_on" a7D f fd) (ml:mg "len"=none) (mr:mg "range"=none):a1c P w K mg base CX0 1 f fd ["code"] a9l:=by
 refine F.ok (k:=0) a4T (fun vs H Q E h=>?_) (fun cdv A outer s H vs Q E hr h=>?_)
 ·obtain ⟨c,xs,ws,rfl,_⟩:=h
  rfl
 obtain ⟨c,xs,ws,rfl,hc,hw,l1,l2,q⟩:=h
 refine ⟨_,a0f (a0y (i:=1) a4T.nd rfl (Or.inl rfl) b0D)
  (a0f (a1T PassesOwn.never rfl (b1u (pv 0)) (a0I (i:=2) a4T.nd rfl (Or.inl rfl))
   (a0i (a1T PassesOwn.never rfl (a1S (by rfl) mr (a0a (a0j a0g (by rfl) ml PySem.boot_len (a0a (pv 2) a0c)) a0c)) (a0I (i:=3) a4T.nd rfl (Or.inl rfl))
    (a0f (a0y (i:=4) a4T.nd rfl (Or.inl rfl) (b0E (hu1 hr) (pv 1) (a1i a2P (pv 2) a2h (a1j (pv 3))) b0C ⟨rfl,rfl,rfl,rfl⟩))
    (a0i (b2B (hu1 hr) (pv 4) (a0G (ixT K) (pv 2) (pv 3) (fun _ _=>rfl)) a3E rfl))))))
  (a0i (a0s (pv 1)))),?_⟩
 have lx:xs.length=ws.length:=hw.length
 refine fun d hd=>?_
 refine ⟨_,rfl,c,rfl,⟨_,SqT.of (a0d hd _ _ _ hc)⟩,?_⟩
 refine b2d (xs:=xs) (fun i σ H'=>((a0X ws i).length≤i * 100∧Few (i * 100) (a0X ws i))∧WAt H H' d (a0X ws i)∧∃ x2 x3 x4:Option V,σ=[some (.ref c),some (.ref d),x2,x3,x4]) ⟨⟨Nat.zero_le _,fun q hq=>nomatch hq⟩,⟨hd,a0d hd _,[],a0b,.nil,List.nodup_nil,fun dx h=>by simp at h⟩,none,none,none,rfl⟩ (fun i σ H' _ hP=>SqT.of (hP.2.1.2.1 _ _ hc)) (fun i x σ H1 hx hP=>?_) (fun σ H1 hP=>?_)
 ·obtain ⟨lw,wt,x2,x3,x4,rfl⟩:=hP
  obtain ⟨ns,hn,rx⟩:=Paired.right_of hw i x hx
  have ln:=l2 ns (List.mem_of_getElem? hn)
  have iw:=(List.getElem?_eq_some_iff.mp hn).1
  obtain ⟨a,rfl,ha⟩:=Wd.ti rx
  refine ⟨_,rfl,a,_,rfl,.inr (SqT.of (wt.2.1 _ _ ha)),_,rfl,by rw [List.length_map];omega,by rw [List.length_map];omega,?_⟩
  rw [List.length_map]
  refine a2G (fun j σ H'=>((a4r ns j (a0X ws i)).length≤i * 100+j∧Few (i * 100+j) (a4r ns j (a0X ws i)))∧WAt H H' d (a4r ns j (a0X ws i))∧∃ x3 x4:Option V,σ=[some (.ref c),some (.ref d),some (.ref a),x3,x4]) ⟨lw,wt,_,_,rfl⟩ (fun j σ H2 hj hP=>?_) (fun σ H2 hP=>?_)
  ·obtain ⟨⟨lj,fw⟩,⟨_,sm,kvs,hdk,wy,nd,young⟩,x3,x4,rfl⟩:=hP
   have hj':j < ns.length:=by omega
   have e0:(0:Int)+(j:Int)=((j:Nat):Int):=by omega
   rw [e0]
   have lk:kvs.length=(a4r ns j (a0X ws i)).length:=Paired.length wy
   refine ⟨_,rfl,d,rfl,.inr ⟨kvs,.inl hdk⟩,_,rfl,_,rfl,_,rfl,a,_,rfl,sm _ _ ha,fun p H3 s3 hp3=>?_⟩
   rw [a8C,←List.map_take] at hp3
   refine fun dn hdn=>?_
   have s4:=a0d hdn (.dK [])
   have g4:=(sm.trans s3).trans s4
   have kp:upd H3 dn (.dK []) p=some (.tup ((kI (ns.take j)).map kV)):=by
    rw [s4 _ _ hp3,List.map_map]
    rfl
   have ndn:H dn=none:=(sm.trans s3).free hdn
   have hd4:upd H3 dn (.dK []) d=some (.dT kvs):=s4 _ _ (s3 _ _ hdk)
   have wy4:=a4N.same wy (s3.trans s4)
   have dnd:dn≠d:=fun z=>by rw [z,s3 _ _ hdk] at hdn;cases hdn
   have dnv:V.ref dn∉kvs.map (·.2):=fun z=>by
    obtain ⟨_,_,o,ho⟩:=young dn z
    rw [s3 _ _ ho] at hdn;cases hdn
   have hj2:ns[j]?=some ns[j]:=List.getElem?_eq_getElem hj'
   have gD:ns.getD j 0=ns[j]:=by rw [List.getD_eq_getElem?_getD,hj2];rfl
   have fa:=a6w (ns.take j) (ns.getD j 0) fw
   have la:=a6v (ns.take j) (ns.getD j 0) (a4r ns j (a0X ws i))
   have hdn4:upd H3 dn (.dK []) dn=some (.dK []):=a0b
   generalize upd H3 dn (.dK [])=H4 at s4 g4 kp hd4 wy4 hdn4 ⊢
   refine ⟨kvs,kI (ns.take j),p,hd4,rfl,kp,by rw [sizeLine_eq];omega,fun v hv=>?_,fun hv=>?_⟩
   ·obtain ⟨dx,ls,rfl,hm,⟨q1,hq1,rfl⟩,hdx,hw'⟩:=wy_old (l:=ns.getD j 0) wy4 nd hv
    obtain ⟨y1,y2,_⟩:=young dx hm
    refine ⟨_,rfl,_,rfl,_,rfl,a,_,_,_,rfl,rfl,SqT.of (g4 _ _ ha),L2.a6d hj2,dx,_,rfl,b2y.k (k:=Sum.inl ns[j]) hdx ?_,?_⟩
    ·have:=fw q1 hq1
     unfold a4q
     rw [List.length_map,sizeLine_eq]
     omega
    ·rw [a9a,←gD]
     refine ⟨⟨by rw [a0J];omega,by rw [a0J];exact fa⟩,⟨hd,a0q y1 g4,kvs,by rw [a0l (Ne.symm y2)];exact hd4,by rw [a0J];exact hw',nd,fun dy hy=>?_⟩,_,_,rfl⟩
     obtain ⟨z1,z2,o,ho⟩:=young dy hy
     refine ⟨z1,z2,?_⟩
     by_cases zz:dy=dx
     ·rw [zz];exact ⟨_,a0b⟩
     ·rw [a0l zz];exact ⟨o,s4 _ _ (s3 _ _ ho)⟩
   ·rw [a6l _ hv]
    have hdn5:upd H4 d (.dT (kvs++[(kI (ns.take j),.ref dn)])) dn=some (.dK []):=by rw [a0l dnd];exact hdn4
    have g5:=a0q (o:=.dT (kvs++[(kI (ns.take j),.ref dn)])) hd g4
    have dv:V.ref d∉kvs.map (·.2):=fun z=>(young d z).2.1 rfl
    refine ⟨_,rfl,_,rfl,_,rfl,a,_,_,_,rfl,rfl,SqT.of (g5 _ _ ha),L2.a6d hj2,dn,_,rfl,b2y.k (k:=Sum.inl ns[j]) hdn5 (by show 0 < sizeLine;decide),?_⟩
    have ep:a3m ([]:List (Key × V)) (Sum.inl ns[j]) (.bl true)=a4q [ns.getD j 0]:=by rw [gD];exact a9a ns[j] []
    rw [ep]
    refine ⟨⟨by rw [a0J];omega,by rw [a0J];exact fa⟩,⟨hd,a0q ndn g5,kvs++[(kI (ns.take j),.ref dn)],by rw [a0l (Ne.symm dnd),a0b],?_,?_,fun dy hy=>?_⟩,_,_,rfl⟩
    ·rw [a0J]
     exact wy_new (a4N.ups (a4N.ups wy4 dv) dnv) hv a0b
    ·rw [List.map_append,List.nodup_append]
     refine ⟨nd,by simp,fun x hx y hy z=>?_⟩
     simp only [List.map_cons,List.map_nil,List.mem_singleton] at hy
     exact dnv (by rw [←hy,←z];exact hx)
    ·rw [List.map_append] at hy
     rcases List.mem_append.mp hy with m | m
     ·obtain ⟨z1,z2,o,ho⟩:=young dy m
      refine ⟨z1,z2,o,?_⟩
      rw [a0l (fun z=>dnv (by rw [←z];exact m)),a0l z2]
      exact s4 _ _ (s3 _ _ ho)
     ·simp only [List.map_cons,List.map_nil,List.mem_singleton] at m
      cases m
      exact ⟨ndn,dnd,_,a0b⟩
  ·obtain ⟨⟨lj,fw⟩,wt,x3,x4,rfl⟩:=hP
   rw [show ((ns.length:Int)).toNat=ns.length from by omega] at lj fw wt
   refine ⟨⟨by rw [a0N hn];omega,fun q hq=>?_⟩,by rw [a0N hn];exact wt,_,_,_,rfl⟩
   rw [a0N hn] at hq
   have:=fw q hq
   omega
 ·obtain ⟨_,wt,x2,x3,x4,rfl⟩:=hP
  rw [lx] at wt
  exact ⟨_,rfl,q d H1 wt⟩
end
abbrev a5D:Stmt:=top 17
abbrev a1C:Stmt:=top 12
theorem b2Q (k:List Int) (l:Int):∀ wy,a1B k l wy≠[]
 | []=>by unfold a1B;simp
 | (k',ls) :: r=>by unfold a1B;split <;> simp
theorem a2X (k:List Int) (l:Int):∀ wy,((a1B k l wy).map (·.1)=wy.map (·.1)∧k∈wy.map (·.1))∨((a1B k l wy).map (·.1)=wy.map (·.1)++[k]∧k∉wy.map (·.1))
 | []=>.inr ⟨rfl,by simp⟩
 | (k',ls) :: r=>by
  unfold a1B
  by_cases h:k'=k
  ·rw [if_pos h]
   exact .inl ⟨rfl,by rw [List.map_cons];exact h▸.head _⟩
  ·rw [if_neg h]
   rcases a2X k l r with ⟨e,m⟩ | ⟨e,m⟩
   ·exact .inl ⟨by rw [List.map_cons,List.map_cons,e],by rw [List.map_cons];exact .tail _ m⟩
   ·refine .inr ⟨by rw [List.map_cons,List.map_cons,e];rfl,?_⟩
    rw [List.map_cons,List.mem_cons,not_or]
    exact ⟨fun z=>h z.symm,m⟩
structure Wok (wy:List (List Int × List Int)):Prop where
 nd:(wy.map (·.1)).Nodup
 hd:∀ q r,wy=q :: r→q.1=[]
theorem Wok.add {wy:List (List Int × List Int)} (h:Wok wy) {k:List Int} (l:Int) (hk:wy=[]→k=[]):Wok (a1B k l wy):=by
 refine ⟨?_,fun q r e=>?_⟩
 ·rcases a2X k l wy with ⟨e,_⟩ | ⟨e,m⟩
  ·rw [e];exact h.nd
  ·rw [e,List.nodup_append]
   refine ⟨h.nd,by simp,fun x hx y hy z=>m ?_⟩
   rw [List.mem_singleton.mp hy] at z
   rw [←z];exact hx
 ·cases wy with
  | nil =>
   rw [show a1B k l []=[(k,[l])] from rfl] at e
   cases e
   exact hk rfl
  | cons q' r' =>
   have hq:=h.hd q' r' rfl
   obtain ⟨k',ls⟩:=q'
   unfold a1B at e
   split at e
   ·cases e;exact hq
   ·cases e;exact hq
theorem a9m (word:List Int) {wy:List (List Int × List Int)} (h:Wok wy):∀ n,Wok (a4r word n wy)∧(a4r word n wy=[]→n=0)
 | 0=>⟨h,fun _=>rfl⟩
 | n+1=>by
  obtain ⟨a,b⟩:=a9m word h n
  rw [a0J]
  exact ⟨a.add _ fun z=>by rw [b z];rfl,fun z=>absurd z (b2Q _ _ _)⟩
theorem a4U (ws:List (List Int)):∀ n,n≤ws.length→Wok (a0X ws n)
 | 0,_=>⟨List.nodup_nil,fun _ _ e=>by cases e⟩
 | n+1,h=>by
  rw [a0N (List.getElem?_eq_getElem (show n < ws.length by omega))]
  exact (a9m _ (a4U ws n (by omega)) _).1
theorem a4V (ws:List (List Int)):Wok (a0Y ws):=a4U ws _ (Nat.le_refl _)
theorem wy_at {H:Hp} {kvs:List (List Key × V)} {wy:List (List Int × List Int)} (h:a4N H kvs wy):(wy.map (·.1)).Nodup→∀ q∈wy,∃ dx,a2B kvs (kI q.1)=some (.ref dx)∧H dx=some (.dK (a4q q.2)):=by
 induction h with
 | nil=>intro _ q hq;cases hq
 | @cons kv q0 kvs wy r t ih =>
  intro nd q hq
  rw [List.map_cons,List.nodup_cons] at nd
  obtain ⟨e1,d1,e2,e3⟩:=r
  rcases List.mem_cons.mp hq with rfl | hq
  ·exact ⟨d1,by rw [a1G e1,e2],e3⟩
  ·have ne:¬ kv.1=kI q.1:=fun z=>nd.1 (by rw [b1F (e1.symm.trans z)];exact List.mem_map_of_mem hq)
   obtain ⟨dx,a,b⟩:=ih nd.2 q hq
   exact ⟨dx,by rw [a1H ne];exact a,b⟩
theorem a9n {H:Hp} {kvs:List (List Key × V)} {wy:List (List Int × List Int)} (h:a4N H kvs wy):kvs.map (·.1)=wy.map fun q=>kI q.1:=by
 induction h with
 | nil=>rfl
 | cons r _ ih=>rw [List.map_cons,List.map_cons,r.1,ih]
section
variable {P:Program} {w:World} {K:PySem.W.Frag} {mg:Str→Option Value} {base:Heap} {f:Addr} {fd:FuncData}
def spRC (NC:List (List Int)→Prop):Sp:=fun vs H Q _=>∃ c xs ws,vs=[.ref c]∧H c=some (.tup xs)∧Ws H xs ws∧ws.length≤100∧NC ws∧∀ H',a0t H H'→Q .non H'
def a9o (NC:List (List Int)→Prop):Sp:=fun vs H Q _=>∃ c xs ws,vs=[.ref c]∧H c=some (.tup xs)∧Ws H xs ws∧ws.length≤100∧(∀ x∈ws,x.length≤100)∧NC ws∧(a0Y ws).length < 64∧∀ p m H',a0t H H'→H' p=some (.lst m)→(m=[]↔∀ q∈a0Y ws,q.2.length≠1)→Q (.ref p) H'
theorem b1I:a0o ["code","ways"] ["code"] (a0e a5D):=⟨rfl,rfl,rfl,by decide +kernel,rfl,by decide +kernel,by decide +kernel⟩
theorem ndO:(("knot":Str) :: ["code","ways"]).Nodup:=by decide +kernel
theorem b2R {NC:List (List Int)→Prop} {k:Nat} (F:Fun K "lone_knots" "lone_knots" a5D f fd) (GR:Fns P w K mg base ["code"] "refuse_clash" (spRC NC) k) (GY:Fns P w K mg base ["code"] "ways_on" a9l k) (ml:mg "len"=none) (ms:mg "sorted"=none):a1c P w K mg base CX0 (k+1) f fd ["code"] (a9o NC):=by
 refine F.ok (k:=k) b1I (fun vs H Q E h=>?_) (fun cdv A outer s H vs Q E hr h=>?_)
 ·obtain ⟨c,xs,ws,rfl,_⟩:=h
  rfl
 obtain ⟨c,xs,ws,rfl,hc,hw,l1,l2,nc,h64,q⟩:=h
 refine ⟨_,a0f (a1m (a0m GR.ok hr (by rfl) GR.m GR.kp GR.b .nil a0L (a0a (pv 0) a0c)))
  (a0f (a0y (i:=1) b1I.nd rfl (Or.inr rfl) (a0m GY.ok hr (by rfl) GY.m GY.kp GY.b .nil a0L (a0a (pv 0) a0c)))
  (a0i (a0s (a3O (M:=["code","ways"]) rfl (a0k.of (a0e a5D) ["code","ways"] rfl rfl rfl (by decide +kernel) (by decide +kernel) (by decide +kernel) rfl (by decide +kernel)) ndO rfl (a6g (a0j (b0J rfl (hu4 hr)) (by rfl) ms PyProof.Rows.boot_sorted (a0a (pv 1) a0c))) a6h
   (fun cl C s0 H0 fp=>⟨a3J (a0u a1u (a0j len_dK (by rfl) ml PySem.boot_len (a0a (b2A (hu1 hr) (pv 2) (pv 0) (fun _ _=>rfl)) a0c)) a0h (nomark _)),pv 0⟩))))),?_⟩
 refine ⟨_,rfl,c,xs,ws,rfl,hc,hw,l1,nc,fun H1 s1=>?_⟩
 refine ⟨_,rfl,c,xs,ws,rfl,s1 _ _ hc,Ws.same s1 hw,l1,l2,fun d H2 wt=>?_⟩
 obtain ⟨hd,s2,kvs,hdk,wy,nd,young⟩:=wt
 have wok:=a4V ws
 have lk:kvs.length=(a0Y ws).length:=Paired.length wy
 refine ⟨fun v H3=>∃ p out ks,v=.ref p∧a0t H2 H3∧H2 p=none∧H3 p=some (.lst out)∧ks.Perm (kvs.map (·.1))∧Paired (b2F H3) out ks,?_,?_⟩
 ·refine ⟨_,rfl,d,kvs,rfl,hdk,by omega,fun kv hkv=>?_,fun k0 v0 r0 e0=>?_,fun p H3 out ks s3 hpn hp3 pk pd=>⟨p,out,ks,rfl,s3,hpn,hp3,pk,pd⟩⟩
  ·obtain ⟨i,hi⟩:=List.mem_iff_getElem?.mp hkv
   obtain ⟨q0,_,e1,_⟩:=Paired.right_of wy i kv hi
   exact ⟨q0.1,e1⟩
  ·rw [e0] at wy
   cases hwy:a0Y ws with
   | nil=>rw [hwy] at wy;cases wy
   | cons q0 r =>
    rw [hwy] at wy
    cases wy with
    | cons a _ =>
     rw [show k0=kI q0.1 from a.1,wok.hd q0 r hwy]
     rfl
 ·rintro v H3 ⟨p,out,ks,rfl,s3,hpn,hp3,pk,pd⟩
  refine ⟨p,out,rfl,SqL.of hp3,fun e he=>?_⟩
  have kin:∀ i k',ks[i]?=some k'→∃ q0∈a0Y ws,k'=kI q0.1:=fun i k' hk'=>by
   have m:k'∈kvs.map (·.1):=pk.mem_iff.mp (List.mem_of_getElem? hk')
   rw [a9n wy] at m
   obtain ⟨q0,hq0,rfl⟩:=List.mem_map.mp m
   exact ⟨q0,hq0,rfl⟩
  refine ⟨fun i H'=>a0t H3 H'∧∃ m,H' e=some (.lst m)∧m.length≤i∧(m=[]↔∀ j k',j < i→ks[j]?=some k'→∀ q0∈a0Y ws,k'=kI q0.1→q0.2.length≠1),⟨a0d he _,[],a0b,Nat.le_refl _,by simp⟩,fun i H' _ hP=>SqL.of (hP.1 _ _ hp3),fun i x H' hx hP=>?_,fun H' hP=>?_⟩
  ·obtain ⟨sm,m,hm,lm,im⟩:=hP
   obtain ⟨k',hk',b,rfl,hb⟩:=Paired.right_of pd i x hx
   obtain ⟨q0,hq0,rfl⟩:=kin i k' hk'
   obtain ⟨dx,hv,hdx⟩:=wy_at wy wok.nd q0 hq0
   have g:=s3.trans sm
   have dg:b0z H' d (.ref b) (some (.ref dx)):=by
    rw [←hv]
    exact b0z.t (g _ _ hdk) (sm _ _ hb)
   have le:(a4q q0.2).length=q0.2.length:=by unfold a4q;rw [List.length_map]
   have li:i < ks.length:=(List.getElem?_eq_some_iff.mp hk').1
   have lks:ks.length=(a0Y ws).length:=by rw [pk.length_eq,List.length_map,lk]
   refine ⟨_,rfl,_,rfl,d,_,rfl,dg,dx,_,rfl,g _ _ hdx,rfl,_,rfl,?_⟩
   rw [le]
   refine a1s (fun c=>?_) (fun c=>?_)
   ·have c1:((q0.2.length:Nat):Int)=1:=V.int.inj (of_decide_eq_true c)
    refine ⟨_,rfl,m,hm,a0z (by omega),a0q he sm,m++[.ref b],a0b,by rw [List.length_append,List.length_singleton];omega,⟨fun z=>by simp at z,fun z=>?_⟩⟩
    exact absurd (show q0.2.length=1 by omega) (z i _ (Nat.lt_succ_self _) hk' q0 hq0 rfl)
   ·have c1:q0.2.length≠1:=fun z=>c (decide_eq_true (by rw [z];rfl))
    refine ⟨sm,m,hm,by omega,im.trans ⟨fun z j k' hj hk2 q' hq' ek=>?_,fun z j k' hj hk2=>z j k' (by omega) hk2⟩⟩
    rcases Nat.lt_succ_iff_lt_or_eq.mp hj with y | y
    ·exact z j k' y hk2 q' hq' ek
    ·rw [y,hk'] at hk2
     cases hk2
     obtain ⟨dx',hv',hdx'⟩:=wy_at wy wok.nd q' hq'
     rw [←ek,hv] at hv'
     cases hv'
     rw [hdx] at hdx'
     have e2:a4q q0.2=a4q q'.2:=HO.dK.inj (Option.some.inj hdx')
     have e3:=congrArg List.length e2
     unfold a4q at e3
     rw [List.length_map,List.length_map] at e3
     omega
  ·obtain ⟨sm,m,hm,lm,im⟩:=hP
   refine q e m H' (((s1.trans s2).trans s3).trans sm) hm (im.trans ⟨fun z q0 hq0=>?_,fun z j k' _ _ q0 hq0 _=>z q0 hq0⟩)
   have mem:kI q0.1∈ks:=pk.mem_iff.mpr (by rw [a9n wy];exact List.mem_map.mpr ⟨q0,hq0,rfl⟩)
   obtain ⟨j,hj⟩:=List.mem_iff_getElem?.mp mem
   exact z j _ (by rw [Paired.length pd];exact (List.getElem?_eq_some_iff.mp hj).1) hj q0 hq0 rfl
end
abbrev a2l:Stmt:=top 9
abbrev a3y:Stmt:=top 11
abbrev a2Y:Stmt:=top 13
abbrev a7E:Stmt:=top 14
abbrev a7F:Stmt:=top 15
abbrev a4W:Stmt:=top 31
section
variable {P:Program} {w:World} {K:PySem.W.Frag} {mg:Str→Option Value} {base:Heap} {f:Addr} {fd:FuncData}
def a9p (K:PySem.W.Frag):Sp:=fun vs H Q _=>∃ (a:Addr) (ns:List Int) (k:Int),vs=[.ref a,.int k]∧SqL K H a (ns.map V.int)∧0≤k∧∀ i,Q (.int i) H
theorem scCell:a0o ["script","k"] ["script","k"] (a0e a4W):=⟨rfl,rfl,rfl,by decide +kernel,rfl,by decide +kernel,by decide +kernel⟩
theorem b2S (F:Fun K "_law_cell_at" "_law_cell_at" a4W f fd) (ml:mg "len"=none):a1c P w K mg base CX0 1 f fd ["script","k"] (a9p K):=by
 refine F.ok (k:=0) scCell (fun vs H Q E h=>?_) (fun cdv A outer s H vs Q E hr h=>?_)
 ·obtain ⟨a,ns,k,rfl,_⟩:=h
  rfl
 obtain ⟨a,ns,k,rfl,hS,h0,q⟩:=h
 refine ⟨_,a0f (a0U (a0u a4x (pv 1) (a0j a0g (by rfl) ml PySem.boot_len (a0a (pv 0) a0c)) (nomark _)) (a0i (a0s (a0G a0S (pv 0) (pv 1) (fun _ _=>rfl)))) a0x) (a0i (a0s a0h)),?_⟩
 refine ⟨_,rfl,_,rfl,a,_,rfl,.inl hS,_,_,rfl,rfl,_,rfl,?_⟩
 refine a1s (fun c=>?_) (fun c=>q 0)
 have c1:k < ((ns.map V.int).length:Int):=of_decide_eq_true c
 obtain ⟨n,rfl⟩:∃ n:Nat,k=n:=⟨k.toNat,by omega⟩
 have hn:n < ns.length:=by rw [List.length_map] at c1;omega
 exact ⟨_,rfl,_,rfl,a,_,_,_,rfl,rfl,hS,a6d (List.getElem?_eq_getElem hn),q _⟩
def b2T:Sp:=fun vs H Q _=>∃ x y ns ms,vs=[x,y]∧Wd H x ns∧Wd H y ms∧∀ H',a0t H H'→Q (.bl (decide (ms.take ns.length=ns))) H'
theorem b0Y:a0o ["one","other"] ["one","other"] (a0e a2l):=⟨rfl,rfl,rfl,by decide +kernel,rfl,by decide +kernel,by decide +kernel⟩
theorem a9q (F:Fun K "begins" "begins" a2l f fd) (ml:mg "len"=none):a1c P w K mg base CX0 1 f fd ["one","other"] b2T:=by
 refine F.ok (k:=0) b0Y (fun vs H Q E h=>?_) (fun cdv A outer s H vs Q E hr h=>?_)
 ·obtain ⟨x,y,ns,ms,rfl,_⟩:=h
  rfl
 obtain ⟨x,y,ns,ms,rfl,hx,hy,q⟩:=h
 obtain ⟨a,rfl,ha⟩:=hx.ti
 obtain ⟨b,rfl,hb⟩:=hy.ti
 refine ⟨_,a0i (a0s (a1M (b2s (hu4 hr)) (a1i a2P (pv 1) a2h (a1j (a0j a0g rfl ml PySem.boot_len (a0a (pv 0) a0c)))) (pv 0) (nomark _))),?_⟩
 refine ⟨_,rfl,_,rfl,a,_,rfl,.inr (SqT.of ha),_,rfl,b,_,rfl,hb,fun p H' sm hp=>?_⟩
 rw [List.length_map,a8C,←List.map_take] at hp
 exact ⟨_,rfl,_,_,a1w hp,a1w (sm _ _ ha),q H' sm⟩
end
def cAt (ws:List (List Int)) (i j:Nat):Prop:=∃ u v,ws[i]?=some u∧ws[j]?=some v∧(v.take u.length=u∨u.take v.length=v)
def a9r (ws:List (List Int)) (i j:Nat):Prop:=∀ a b,a < b→(a < i∨(a=i∧b < j))→¬ cAt ws a b
def isF (ws:List (List Int)):Option (List Int)→Prop
 | none=>∀ a b,a < b→¬ cAt ws a b
 | some r=>∃ i j:Nat,i < j∧r=[(i:Int),(j:Int)]∧cAt ws i j∧a9r ws i j
theorem a4a {ws:List (List Int)} {o o':Option (List Int)} (h:isF ws o) (h':isF ws o'):o=o':=by
 cases o with
 | none =>
  cases o' with
  | none=>rfl
  | some r =>
   obtain ⟨i,j,hij,_,c,_⟩:=h'
   exact absurd c (h i j hij)
 | some r =>
  obtain ⟨i,j,hij,rfl,c,fr⟩:=h
  cases o' with
  | none=>exact absurd c (h' i j hij)
  | some r' =>
   obtain ⟨i',j',hij',rfl,c',fr'⟩:=h'
   have h1:¬ (i < i'∨(i=i'∧j < j')):=fun z=>fr' i j hij z c
   have h2:¬ (i' < i∨(i'=i∧j' < j)):=fun z=>fr i' j' hij' z c'
   have e1:i=i':=by omega
   have e2:j=j':=by omega
   subst e1 e2
   rfl
theorem b1J {ws:List (List Int)} {i j:Nat} (h:cAt ws i j):j < ws.length:=by
 obtain ⟨u,v,_,e,_⟩:=h
 exact (List.getElem?_eq_some_iff.mp e).1
section
variable {P:Program} {w:World} {K:PySem.W.Frag} {mg:Str→Option Value} {base:Heap} {f:Addr} {fd:FuncData}
def a2Z:Sp:=fun vs H Q _=>∃ c xs ws,vs=[.ref c]∧H c=some (.tup xs)∧Ws H xs ws∧ws.length≤1000∧∀ r H' o,a0t H H'→ROpt (b2p H' a8v) r o→isF ws o→Q r H'
theorem a3a:a0o ["code","one","other"] ["code"] (a0e a3y):=⟨rfl,rfl,rfl,by decide +kernel,rfl,by decide +kernel,by decide +kernel⟩
theorem a7G (F:Fun K "clash" "clash" a3y f fd) (G:Fns P w K mg base ["one","other"] "begins" b2T 1) (ml:mg "len"=none) (mr:mg "range"=none):a1c P w K mg base CX0 2 f fd ["code"] a2Z:=by
 refine F.ok (k:=1) a3a (fun vs H Q E h=>?_) (fun cdv A outer s H vs Q E hr h=>?_)
 ·obtain ⟨c,xs,ws,rfl,_⟩:=h
  rfl
 obtain ⟨c,xs,ws,rfl,hc,hw,hl,q⟩:=h
 refine ⟨_,a0f (a1T PassesOwn.never rfl (a1S (by rfl) mr (a0a (a0j a0g (by rfl) ml PySem.boot_len (a0a (pv 0) a0c)) a0c)) (a0I (i:=1) a3a.nd rfl (Or.inl rfl))
   (a0i (a1T PassesOwn.never rfl (a8d (by rfl) mr (a0a (a0v a0P (pv 1) a0h) (a0a (a0j a0g (by rfl) ml PySem.boot_len (a0a (pv 0) a0c)) a0c))) (a0I (i:=2) a3a.nd rfl (Or.inl rfl))
    (a0i (a0U (a6X (a1q (a0m G.ok hr (by rfl) G.m G.kp G.b .nil a0L (a0a (a0G a0V (pv 0) (pv 1) (fun _ _=>rfl)) (a0a (a0G a0V (pv 0) (pv 2) (fun _ _=>rfl)) a0c))))
      (a3o (a1q (a0m G.ok hr (by rfl) G.m G.kp G.b .nil a0L (a0a (a0G a0V (pv 0) (pv 2) (fun _ _=>rfl)) (a0a (a0G a0V (pv 0) (pv 1) (fun _ _=>rfl)) a0c)))))).pt
     (a0i (a0s (a1l (a0a (pv 1) (a0a (pv 2) a0c))))) a0x)))))
  (a0i (a0s a5S)),?_⟩
 have ll:xs.length=ws.length:=hw.length
 refine ⟨_,rfl,c,_,rfl,.inr (SqT.of hc),_,rfl,by omega,by omega,?_⟩
 refine a2G (fun i σ H'=>a0t H H'∧a9r ws i 0∧∃ x1 x2:Option V,σ=[some (.ref c),x1,x2]) ⟨a0t.refl _,fun a b h1 h2=>by omega,_,_,rfl⟩ (fun i σ H1 hi hP=>?_) (fun σ H1 hP=>?_)
 ·obtain ⟨sm,fr,x1,x2,rfl⟩:=hP
  have hi':i < ws.length:=by omega
  have e0:(0:Int)+(i:Int)=((i:Nat):Int):=by omega
  rw [e0]
  refine ⟨_,rfl,_,_,rfl,rfl,_,rfl,c,_,rfl,.inr (SqT.of (sm _ _ hc)),_,_,rfl,by omega,?_⟩
  refine a2G (fun j σ H'=>a0t H H'∧a9r ws i (i+1+j)∧∃ x2:Option V,σ=[some (.ref c),some (.int i),x2]) ⟨sm,fun a b h1 h2=>fr a b h1 (by omega),_,rfl⟩ (fun j σ H2 hj hP=>?_) (fun σ H2 hP=>?_)
  ·obtain ⟨sm2,fr2,x2,rfl⟩:=hP
   have hj':i+1+j < ws.length:=by omega
   have e1:(i:Int)+1+(j:Int)=((i+1+j:Nat):Int):=by omega
   rw [e1]
   have u1:ws[i]?=some ws[i]:=List.getElem?_eq_getElem hi'
   have u2:ws[i+1+j]?=some ws[i+1+j]:=List.getElem?_eq_getElem hj'
   obtain ⟨y1,hy1,r1⟩:=Paired.left_of hw _ _ u1
   obtain ⟨y2,hy2,r2⟩:=Paired.left_of hw _ _ u2
   have yes:∀ H3,a0t H H3→cAt ws i (i+1+j)→(∃ v,([some (.ref c),some (.int i),some (.int ((i+1+j:Nat):Int))]:St)[1]?=some (some v)∧∃ v',([some (.ref c),some (.int i),some (.int ((i+1+j:Nat):Int))]:St)[2]?=some (some v')∧([v,v']:List V).length≤sizeLine∧∀ p,H3 p=none→Q (.ref p) (upd H3 p (.tup [v,v']))):=fun H3 sm3 c3 =>
    ⟨_,rfl,_,rfl,(by show 2≤sizeLine;decide),fun p hp=>q _ _ (some [(i:Int),((i+1+j:Nat):Int)]) (sm3.trans (a0d hp _)) ⟨⟨p,_,rfl,a0b,.cons rfl (.cons rfl .nil)⟩,p,rfl⟩ ⟨i,i+1+j,by omega,rfl,c3,fr2⟩⟩
   refine ⟨_,rfl,_,rfl,c,_,_,_,rfl,rfl,SqT.of (sm2 _ _ hc),a1z hy1,_,rfl,_,rfl,c,_,_,_,rfl,rfl,SqT.of (sm2 _ _ hc),a1z hy2,y1,y2,_,_,rfl,Wd.same sm2 r1,Wd.same sm2 r2,fun H3 sm3=>?_⟩
   refine ⟨_,rfl,?_⟩
   refine a1s (fun c1=>?_) (fun c1=>?_)
   ·exact a9X (yes H3 (sm2.trans sm3) ⟨_,_,u1,u2,.inl (of_decide_eq_true c1)⟩)
   ·refine ⟨_,rfl,_,rfl,c,_,_,_,rfl,rfl,SqT.of (sm3 _ _ (sm2 _ _ hc)),a1z hy2,_,rfl,_,rfl,c,_,_,_,rfl,rfl,SqT.of (sm3 _ _ (sm2 _ _ hc)),a1z hy1,y2,y1,_,_,rfl,Wd.same (sm2.trans sm3) r2,Wd.same (sm2.trans sm3) r1,fun H4 sm4=>?_⟩
    refine ⟨_,rfl,?_⟩
    refine a1s (fun c2=>?_) (fun c2=>?_)
    ·exact yes H4 ((sm2.trans sm3).trans sm4) ⟨_,_,u1,u2,.inr (of_decide_eq_true c2)⟩
    ·refine ⟨(sm2.trans sm3).trans sm4,fun a b h1 h2=>?_,_,rfl⟩
     by_cases hb:b < i+1+j∨a < i
     ·exact fr2 a b h1 (by omega)
     ·have ea:a=i:=by omega
      have eb:b=i+1+j:=by omega
      subst ea eb
      rintro ⟨u,v,g1,g2,g3⟩
      rw [u1] at g1;rw [u2] at g2
      cases g1;cases g2
      rcases g3 with g3 | g3
      ·exact c1 (decide_eq_true g3)
      ·exact c2 (decide_eq_true g3)
  ·obtain ⟨sm2,fr2,x2,rfl⟩:=hP
   refine ⟨sm2,fun a b h1 h2 c3=>?_,_,_,rfl⟩
   have:=b1J c3
   exact fr2 a b h1 (by omega) c3
 ·obtain ⟨sm,fr,x1,x2,rfl⟩:=hP
  refine q .non H1 none sm rfl fun a b h1 c3=>?_
  have:=b1J c3
  exact fr a b h1 (by omega) c3
end
theorem b0Z {X:Cx} {st:Stmt}:PS X st (fun _ _ _=>False):=fun _ _ _ _ _ _ h=>h.elim
theorem op_ltK {X:Cx} (K:PySem.W.Frag) (hu:X.A.units < cLine) (h:X.K=K:=by rfl):OpR X (compareOp .Lt) (rLtT K):=by subst h;exact op_ltT hu
def noC (ws:List (List Int)):Prop:=isF ws none
section
variable {P:Program} {w:World} {K:PySem.W.Frag} {mg:Str→Option Value} {base:Heap} {f:Addr} {fd:FuncData}
theorem a6x:a0o ["code","pair"] ["code"] (a0e a1C):=⟨rfl,rfl,rfl,by decide +kernel,rfl,by decide +kernel,by decide +kernel⟩
theorem a9s (F:Fun K "refuse_clash" "refuse_clash" a1C f fd) (G:Fns P w K mg base ["code"] "clash" a2Z 2):a1c P w K mg base CX0 3 f fd ["code"] (spRC noC):=by
 refine F.ok (k:=2) a6x (fun vs H Q E h=>?_) (fun cdv A outer s H vs Q E hr h=>?_)
 ·obtain ⟨c,xs,ws,rfl,_⟩:=h
  rfl
 obtain ⟨c,xs,ws,rfl,hc,hw,l1,nc,q⟩:=h
 refine ⟨_,a0f (a0y (i:=1) a6x.nd rfl (Or.inl rfl) (a0m G.ok hr (by rfl) G.m G.kp G.b .nil a0L (a0a (pv 0) a0c)))
  (a0i (a0U (pt_cmp (b1Z (pv 1))) (a0i b0Z) a0x)),?_⟩
 refine ⟨_,rfl,c,xs,ws,rfl,hc,hw,by omega,fun r H' o sm ro fo=>?_⟩
 have e:o=none:=a4a fo nc
 subst e
 obtain rfl:r=.non:=ro
 exact ⟨_,rfl,_,rfl,iteNS rfl (q H' sm)⟩
def b3s (ws:List (List Int)):List Bool:=(List.range (ws.length - 1)).map fun i=>HT.a1b (ws.getD i []) (ws.getD (i+1) [])
def rises (ws:List (List Int)):Bool:=(b3s ws).all id
def a5E:Sp:=fun vs H Q _=>∃ c xs ws,vs=[.ref c]∧H c=some (.tup xs)∧Ws H xs ws∧ws.length≤100∧∀ H',a0t H H'→Q (.bl (rises ws)) H'
theorem b2U:a0o ["code"] ["code"] (a0e a2Y):=⟨rfl,rfl,rfl,by decide +kernel,rfl,by decide +kernel,by decide +kernel⟩
theorem ndT:(("thing":Str) :: ["code"]).Nodup:=by decide +kernel
theorem hu0 {A:Around} {k:Nat} (hr:a2t k A):A.units < cLine:=by have:=hu4 hr;omega
theorem b1a (F:Fun K "rises" "rises" a2Y f fd) (ml:mg "len"=none) (mr:mg "range"=none) (ma:mg "all"=none):a1c P w K mg base CX0 1 f fd ["code"] a5E:=by
 refine F.ok (k:=0) b2U (fun vs H Q E h=>?_) (fun cdv A outer s H vs Q E hr h=>?_)
 ·obtain ⟨c,xs,ws,rfl,_⟩:=h
  rfl
 obtain ⟨c,xs,ws,rfl,hc,hw,l1,q⟩:=h
 have lx:xs.length=ws.length:=hw.length
 refine ⟨_,a0i (a0s (a0j (a2z rfl) (by rfl) ma b0m (a0a (a1W (M:=["code"]) rfl (a0k.of (a0e a2Y) ["code"] rfl rfl rfl (by decide +kernel) (by decide +kernel) (by decide +kernel) rfl (by decide +kernel)) ndT rfl (by rfl) mr
  (a0a (a0v a2s (a0j a0g (by rfl) ml PySem.boot_len (a0a (pv 0) a0c)) a0h) a0c) (a1y (mo_op mo_rI0 (mo_len (a1y a1f a2Q)) mo_c) a2Q)
  (fun cl C s0 H0 fp=>⟨a0W,a1M (op_ltK K (hu0 hr)) (a0G (ixT K) (pv 1) (pv 0) (fun _ _=>rfl)) (a0G (ixT K) (pv 1) (a0v a0P (pv 0) a0h) (fun _ _=>rfl)) (nomark _)⟩)) a0c))),?_⟩
 refine ⟨_,rfl,c,_,rfl,.inr (SqT.of hc),_,_,rfl,rfl,_,rfl,by omega,by omega,fun d hd=>?_⟩
 have en:((xs.length:Int) - 1).toNat=ws.length - 1:=by omega
 dsimp only
 rw [en]
 refine ⟨fun i H'=>a0t H H'∧H' d=some (.lst (((b3s ws).take i).map V.bl)),⟨a0d hd _,a0b⟩,fun i H' hi hP=>?_,fun H' hP=>?_⟩
 ·obtain ⟨sm,hd'⟩:=hP
  have e0:(0:Int)+(i:Int)=((i:Nat):Int):=by omega
  have e1:((i:Nat):Int)+1=((i+1:Nat):Int):=by omega
  have u1:ws[i]?=some ws[i]:=List.getElem?_eq_getElem (by omega)
  have u2:ws[i+1]?=some ws[i+1]:=List.getElem?_eq_getElem (by omega)
  obtain ⟨y1,hy1,r1⟩:=L2.Paired.left_of hw _ _ u1
  obtain ⟨y2,hy2,r2⟩:=L2.Paired.left_of hw _ _ u2
  obtain ⟨a1,rfl,t1⟩:=Wd.ti r1
  obtain ⟨a2,rfl,t2⟩:=Wd.ti r2
  rw [e0]
  refine a0R ⟨_,rfl,_,rfl,c,_,_,_,rfl,rfl,SqT.of (sm _ _ hc),a1z hy1,_,rfl,_,rfl,_,_,rfl,rfl,c,_,_,_,rfl,rfl,SqT.of (sm _ _ hc),(by rw [e1];exact a1z hy2),a1,a2,_,_,rfl,rfl,SqT.of (sm _ _ t1),SqT.of (sm _ _ t2),_,hd',?_,a0q hd sm,?_⟩
  ·rw [List.length_map,List.length_take];exact a0z (by omega)
  ·have ri:(b3s ws)[i]?=some (HT.a1b ws[i] ws[i+1]):=by
    unfold b3s
    rw [List.getElem?_map,List.getElem?_range hi]
    simp [List.getD_eq_getElem?_getD,u1,u2]
   rw [a0b,List.take_add_one,ri,List.map_append]
   rfl
 ·obtain ⟨sm,hd'⟩:=hP
  rw [List.take_of_length_le (by unfold b3s;simp)] at hd'
  exact ⟨d,_,rfl,hd',q H' sm⟩
def a6y:Sp:=fun vs H Q _=>∃ c xs ws,vs=[.ref c]∧H c=some (.tup xs)∧Ws H xs ws∧ws.length≤100∧∀ b H',a0t H H'→(b=true↔rises ws=true∧noC ws)→Q (.bl b) H'
theorem scKept:a0o ["code"] ["code"] (a0e a7E):=⟨rfl,rfl,rfl,by decide +kernel,rfl,by decide +kernel,by decide +kernel⟩
theorem b2V (F:Fun K "is_kept" "is_kept" a7E f fd) (GI:Fns P w K mg base ["code"] "rises" a5E 2) (GC:Fns P w K mg base ["code"] "clash" a2Z 2):a1c P w K mg base CX0 3 f fd ["code"] a6y:=by
 refine F.ok (k:=2) scKept (fun vs H Q E h=>?_) (fun cdv A outer s H vs Q E hr h=>?_)
 ·obtain ⟨c,xs,ws,rfl,_⟩:=h
  rfl
 obtain ⟨c,xs,ws,rfl,hc,hw,l1,q⟩:=h
 refine ⟨_,a0i (a0s (a8c (a0m GI.ok hr (by rfl) GI.m GI.kp GI.b .nil a0L (a0a (pv 0) a0c)) (a8b (pe_cmp (pc_isN (a0m GC.ok hr (by rfl) GC.m GC.kp GC.b .nil a0L (a0a (pv 0) a0c))))))),?_⟩
 refine ⟨_,rfl,c,xs,ws,rfl,hc,hw,l1,fun H1 s1=>⟨_,rfl,?_⟩⟩
 refine a1s (fun b=>?_) (fun b=>q _ H1 s1 ?_)
 ·refine ⟨_,rfl,c,xs,ws,rfl,s1 _ _ hc,Ws.same s1 hw,by omega,fun r H2 o s2 ro fo=>q _ H2 (s1.trans s2) ?_⟩
  cases o with
  | none =>
   obtain rfl:r=.non:=ro
   rw [decide_eq_true rfl]
   exact ⟨fun _=>⟨b,fo⟩,fun _=>rfl⟩
  | some d =>
   obtain ⟨_,a,rfl⟩:=ro
   rw [decide_eq_false (by intro z;cases z)]
   exact ⟨fun z=>(by cases z),fun z=>by cases a4a fo z.2⟩
 ·exact ⟨fun z=>(by cases z),fun z=>absurd z.1 b⟩
def a6z:Sp:=fun vs H Q _=>∃ c xs ws,vs=[.ref c]∧H c=some (.tup xs)∧Ws H xs ws∧ws.length≤100∧(∀ x∈ws,x.length≤100)∧(rises ws=true→noC ws→(a0Y ws).length < 64)∧∀ b H',a0t H H'→(b=true↔(rises ws=true∧noC ws)∧∀ q∈a0Y ws,q.2.length≠1)→Q (.bl b) H'
theorem scLean:a0o ["code"] ["code"] (a0e a7F):=⟨rfl,rfl,rfl,by decide +kernel,rfl,by decide +kernel,by decide +kernel⟩
theorem b2W (F:Fun K "is_lean" "is_lean" a7F f fd) (GK:Fns P w K mg base ["code"] "is_kept" a6y 4) (GL:Fns P w K mg base ["code"] "lone_knots" (a9o noC) 4) (ml:mg "len"=none):a1c P w K mg base CX0 5 f fd ["code"] a6z:=by
 refine F.ok (k:=4) scLean (fun vs H Q E h=>?_) (fun cdv A outer s H vs Q E hr h=>?_)
 ·obtain ⟨c,xs,ws,rfl,_⟩:=h
  rfl
 obtain ⟨c,xs,ws,rfl,hc,hw,l1,l2,h64,q⟩:=h
 refine ⟨_,a0i (a0s (a8c (a0m GK.ok hr (by rfl) GK.m GK.kp GK.b .nil a0L (a0a (pv 0) a0c)) (a8b (a1M a1u (a0j a0g (by rfl) ml PySem.boot_len (a0a (a0m GL.ok hr (by rfl) GL.m GL.kp GL.b .nil a0L (a0a (pv 0) a0c)) a0c)) a0h (nomark _))))),?_⟩
 refine ⟨_,rfl,c,xs,ws,rfl,hc,hw,l1,fun b H1 s1 hb=>⟨_,rfl,?_⟩⟩
 refine a1s (fun b1=>?_) (fun b1=>q _ H1 s1 ⟨fun z=>(by cases z),fun z=>absurd (hb.mpr z.1) b1⟩)
 have k1:=hb.mp b1
 refine ⟨_,rfl,c,xs,ws,rfl,s1 _ _ hc,Ws.same s1 hw,l1,l2,k1.2,h64 k1.1 k1.2,fun p m H2 s2 hp im=>?_⟩
 refine ⟨p,_,rfl,.inl (SqL.of hp),rfl,q _ H2 (s1.trans s2) ⟨fun z=>⟨k1,im.mp ?_⟩,fun z=>decide_eq_true (by rw [im.mpr z.2];rfl)⟩⟩
 have e:=V.int.inj (of_decide_eq_true z)
 exact List.length_eq_zero_iff.mp (by omega)
end
def Kn (S:List (List Int)) (ws:List (List Int)):Prop:=∀ x∈ws,∀ n,n < x.length→x.take n∈S
theorem a6A {S:List (List Int)} {word:List Int} {wy:List (List Int × List Int)} (h:∀ k∈wy.map (·.1),k∈S):∀ n,n≤word.length→(∀ m,m < word.length→word.take m∈S)→∀ k∈(a4r word n wy).map (·.1),k∈S
 | 0,_,_=>h
 | n+1,hn,hw=>fun k hk=>by
  rw [a0J] at hk
  have ih:=a6A h n (by omega) hw
  rcases a2X (word.take n) (word.getD n 0) (a4r word n wy) with ⟨e,_⟩ | ⟨e,_⟩
  ·rw [e] at hk;exact ih k hk
  ·rw [e] at hk
   rcases List.mem_append.mp hk with z | z
   ·exact ih k z
   ·rw [List.mem_singleton.mp z];exact hw n (by omega)
theorem a3z {S ws:List (List Int)} (h:Kn S ws):∀ n,n≤ws.length→∀ k∈(a0X ws n).map (·.1),k∈S
 | 0,_=>fun k hk=>by
  rw [show a0X ws 0=[] from rfl] at hk
  cases hk
 | n+1,hn=>by
  rw [a0N (List.getElem?_eq_getElem (show n < ws.length by omega))]
  exact a6A (a3z h n (by omega)) _ (Nat.le_refl _) fun m hm=>h _ (List.getElem_mem _) m hm
theorem a4X {α:Type} [DecidableEq α]:∀ {l S:List α},l.Nodup→(∀ x∈l,x∈S)→l.length≤S.length
 | [],_,_,_=>Nat.zero_le _
 | x :: l,S,n,h=>by
  rw [List.nodup_cons] at n
  have m:x∈S:=h x (.head _)
  have q:=a4X (S:=S.erase x) n.2 fun y hy=>by
   have ne:y≠x:=fun z=>n.1 (by rw [←z];exact hy)
   exact (List.mem_erase_of_ne ne).mpr (h y (.tail _ hy))
  have e:=List.length_erase_of_mem m
  have p:0 < S.length:=List.length_pos_of_mem m
  simp only [List.length_cons]
  omega
theorem a6B {S ws:List (List Int)} (h:Kn S ws):(a0Y ws).length≤S.length:=by
 have q:=a4X (a4V ws).nd (a3z h _ (Nat.le_refl _))
 rw [List.length_map] at q
 exact q
theorem Kn.mono {S S' ws:List (List Int)} (h:Kn S ws) (hs:∀ x∈S,x∈S'):Kn S' ws:=fun x hx n hn=>hs _ (h x hx n hn)
theorem Kn.grow {S ws:List (List Int)} (h:Kn S ws) {u:List Int} (hu:u∈ws) (k:Int):Kn (u :: S) [u++[k]]:=fun x hx n hn=>by
 rw [List.mem_singleton.mp hx] at hn ⊢
 rw [List.length_append,List.length_singleton] at hn
 by_cases z:n=u.length
 ·rw [z,List.take_left']
  ·exact .head _
  ·rfl
 ·rw [List.take_append_of_le_length (by omega)]
  exact .tail _ (h u hu n (by omega))
abbrev a2a:Stmt:=top 33
section
variable {P:Program} {w:World} {K:PySem.W.Frag} {mg:Str→Option Value} {base:Heap} {f:Addr} {fd:FuncData}
abbrev NG:List Str:=["cells","letters","most","lone","words","cell","at","bits","some"]
def a5F (K:PySem.W.Frag):Sp:=fun vs H Q _=>∃ (c:Addr) (cs:List Int) (b m:Int) (lo:Bool),vs=[.ref c,.int b,.int m,.bl lo]∧SqL K H c (cs.map V.int)∧2≤b∧b≤6∧1≤m∧m≤23 ∧
 ∀ p H' xs ws,a0t H H'→H' p=some (.lst xs)→Ws H' xs ws→1≤ws.length→ws.length≤23→L2.Wok b 50 ws→Gr b lo cs.length ws→Q (.ref p) H'
theorem a1p:a0o NG ["cells","letters","most","lone"] (a0e a2a):=⟨rfl,rfl,rfl,by decide +kernel,rfl,by decide +kernel,by decide +kernel⟩
theorem ndG:(("k":Str) :: NG).Nodup:=by decide +kernel
theorem b1b (F:Fun K "_law_grown" "_law_grown" a2a f fd) (ml:mg "len"=none) (mr:mg "range"=none):a1c P w K mg base CX0 1 f fd ["cells","letters","most","lone"] (a5F K):=by
 refine F.ok (k:=0) a1p (fun vs H Q E h=>?_) (fun cdv A outer s H vs Q E hr h=>?_)
 ·obtain ⟨c,cs,b,m,lo,rfl,_⟩:=h
  rfl
 obtain ⟨c,cs,b,m,lo,rfl,hS,b2,b6,m1,m2,q⟩:=h
 refine ⟨_,a0f (a0y (i:=4) a1p.nd rfl (Or.inr rfl) (a1h (a0a (a1l a0c) a0c)))
  (a0f (a1T PassesOwn.never rfl (a1J (pv 0)) (a0I (i:=5) a1p.nd rfl (Or.inl rfl))
   (a0f (a0y (i:=6) a1p.nd rfl (Or.inr rfl) (a0v a1k (pv 5) (a0j a0g (by rfl) ml PySem.boot_len (a0a (pv 4) a0c))))
   (a0f (a0y (i:=7) a1p.nd rfl (Or.inr rfl) (a0v a1L (pv 5) a0h))
   (a0f (a8B (i:=8) (M:=NG) a1p.nd rfl rfl rfl (a0k.of (a0e a2a) NG rfl rfl rfl (by decide +kernel) (by decide +kernel) (by decide +kernel) rfl (by decide +kernel)) ndG rfl (by rfl) mr (a0a (pv 1) a0c) (a1y a1f a2Q)
    (fun cl C s0 H0 fp=>⟨a3J (a0u a1u (a0v a1k (a0v a1L (pv 8) (a0G (ixL K) (a1h (a0a a0h (a0a a0h (a0a a0h (a0a a0h (a0a a0h (a0a a0h a0c))))))) (pv 0) (fun _ _=>rfl))) a0h) a0h (nomark _)),pv 0⟩))
   (a0f (a6f (a0U (a0u a1u (a0j a0g (by rfl) ml PySem.boot_len (a0a (pv 8) a0c)) a0h (nomark _)) (a0i (a0y (i:=8) a1p.nd rfl (Or.inl rfl) (a1h (a0a (a0v a1k (a0v a1L (pv 7) a0h) (pv 1)) a0c)))) a0x))
   (a0f (a6f (a0U (b1t (a0u a1u (a0j a0g (by rfl) ml PySem.boot_len (a0a (pv 8) a0c)) a0h (nomark _)) (a8a (a2r (a1q (pv 3))))).pt
     (a0i (a0y (i:=8) a1p.nd rfl (Or.inl rfl) (a1h (a0a a0h (a0a (a0v a0P a0h (a0v a1k (a0v a1L (pv 7) a0h) (a0v a2s (pv 1) a0h))) a0c))))) a0x))
   (a0i (a0U (b1t (a0u a7a (a0v a2s (a0v a0P (a0j a0g (by rfl) ml PySem.boot_len (a0a (pv 4) a0c)) (a0j a0g (by rfl) ml PySem.boot_len (a0a (pv 8) a0c))) a0h) (pv 2) (nomark _))
      (a8a (a0u a4x (a0j a0g (by rfl) ml PySem.boot_len (a0a (a0G a0S (pv 4) (pv 6) (fun _ _=>rfl)) a0c)) a0h (nomark _)))).pt
     (a0i (a0y (i:=4) a1p.nd rfl (Or.inr rfl) (a0v b1y (a0v b1y (a1i a5o (pv 4) a2h (a1j (pv 6)))
      (a3O (M:=NG) rfl (a0k.of (a0e a2a) NG rfl rfl rfl (by decide +kernel) (by decide +kernel) (by decide +kernel) rfl (by decide +kernel)) ndG rfl (pv 8) a1f
       (fun cl C s0 H0 fp=>⟨a0W,a0v a3M (a0G (ixL K) (pv 5) (pv 7) (fun _ _=>rfl)) (a1l (a0a (pv 0) a0c))⟩))) (a1i a5o (pv 4) (a1j (a0v a0P (pv 6) a0h)) a2h)))) a0x))))))))
  (a0i (a0s (pv 4)))),?_⟩
 refine ⟨(by show 0≤sizeLine;decide),fun p0 hp0=>?_⟩
 refine ⟨(by show 1≤sizeLine;decide),fun p1 hp1=>?_⟩
 have s0:=a0d hp0 (.tup [])
 have s1:=a0d hp1 (.lst [.ref p0])
 refine ⟨_,rfl,c,rfl,⟨_,(s0.trans s1).seq hS⟩,?_⟩
 refine a2x (xs:=cs.map V.int) (fun i σ H'=>a0t H H'∧∃ (x5 x6 x7 x8:Option V) (wl:Addr) (xs:List V) (ws:List (List Int)),σ=[some (.ref c),some (.int b),some (.int m),some (.bl lo),some (.ref wl),x5,x6,x7,x8]∧H' wl=some (.lst xs)∧Ws H' xs ws∧1≤ws.length∧ws.length≤23∧L2.Wok b 50 ws∧Gr b lo i ws)
  ⟨s0.trans s1,_,_,_,_,p1,_,[[]],rfl,a0b,.cons (a1w (ns:=[]) (s1 _ _ a0b)) .nil,Nat.le_refl _,by decide,⟨by simp,by simp⟩,.zero⟩ (fun i σ H' _ hP=>hP.1.seq hS) (fun i x σ H1 hx hP=>?_) (fun σ H1 hP=>?_)
 ·obtain ⟨sm,x5,x6,x7,x8,wl,xs,ws,rfl,hwl,hW,l1,l2,ok,gr⟩:=hP
  rw [List.getElem?_map] at hx
  cases hcell:cs[i]? with
  | none=>rw [hcell] at hx;cases hx
  | some cell =>
  rw [hcell] at hx;cases hx
  have lx:xs.length=ws.length:=hW.length
  refine ⟨_,rfl,_,rfl,wl,_,rfl,.inl (SqL.of hwl),_,_,rfl,rfl,(by show (0:Int) < _;omega),?_⟩
  refine ⟨_,rfl,_,_,rfl,rfl,⟨by decide,by decide⟩,?_⟩
  have t0:0≤cell % (xs.length:Int):=Int.emod_nonneg _ (by omega)
  have t1:cell % (xs.length:Int) < (xs.length:Int):=Int.emod_lt_of_pos _ (by omega)
  dsimp only
  generalize cell % (xs.length:Int)=t at t0 t1 ⊢
  generalize cell / 24=bits
  refine ⟨_,rfl,b,rfl,by omega,by omega,fun d hd=>?_⟩
  refine ⟨fun j H'=>a0t H1 H'∧∃ ss:List Int,H' d=some (.lst (ss.map V.int))∧ss.length≤j∧(∀ x∈ss,0≤x∧x < b)∧ss.Pairwise (· < ·)∧∀ x∈ss,x < (j:Int),⟨a0d hd _,[],a0b,Nat.le_refl _,by simp,.nil,by simp⟩,fun j H2 hj hP=>?_,fun H2 hP=>?_⟩
  ·obtain ⟨sm2,ss,hd2,lss,hss,pss,jss⟩:=hP
   have e0:(0:Int)+(j:Int)=((j:Nat):Int):=by omega
   rw [e0]
   refine ⟨_,rfl,(by show 6≤sizeLine;decide),fun p hp=>?_⟩
   have sp:=a0d hp (.lst [.int 1,.int 2,.int 4,.int 8,.int 16,.int 32])
   obtain ⟨v,hv,v0,v1⟩:=at6 (i:=j) (by omega)
   refine ⟨_,rfl,p,_,_,_,rfl,rfl,SqL.of a0b,hv,_,_,rfl,rfl,⟨v0,by omega⟩,_,_,rfl,rfl,(by show (0:Int) < _;decide),rfl,_,rfl,?_⟩
   refine a1s (fun _=>?_) (fun _=>?_)
   ·refine ⟨_,rfl,_,sp _ _ hd2,?_,a0q hd (sm2.trans sp),ss++[(j:Int)],?_,?_,?_,?_,?_⟩
    ·rw [List.length_map];exact a0z (by omega)
    ·rw [a0b,List.map_append];rfl
    ·rw [List.length_append,List.length_singleton];omega
    ·intro x hx
     rcases List.mem_append.mp hx with z | z
     ·exact hss x z
     ·have:x=(j:Int):=by simpa using z
      omega
    ·rw [List.pairwise_append]
     exact ⟨pss,List.pairwise_singleton _ _,fun x hx y hy=>by rw [List.mem_singleton.mp hy];exact jss x hx⟩
    ·intro x hx
     rcases List.mem_append.mp hx with z | z
     ·have:=jss x z
      omega
     ·have:x=(j:Int):=by simpa using z
      omega
   ·exact ⟨sm2.trans sp,ss,sp _ _ hd2,by omega,hss,pss,fun x hx=>by have:=jss x hx;omega⟩
  ·obtain ⟨sm2,ss,hd2,lss,hss,pss,_⟩:=hP
   have ls0:(ss.map V.int).length=ss.length:=List.length_map _
   refine ⟨fun σ' H'=>∃ (l:Addr) (ss:List Int),a0t H1 H'∧σ'=[some (.ref c),some (.int b),some (.int m),some (.bl lo),some (.ref wl),some (.int cell),some (.int t),some (.int bits),some (.ref l)]∧H' l=some (.lst (ss.map V.int))∧ss.length≤6∧1≤ss.length∧(∀ x∈ss,0≤x∧x < b)∧ss.Pairwise (· < ·),?_,?_⟩
   ·refine ⟨_,rfl,d,_,rfl,.inl (SqL.of hd2),rfl,_,rfl,?_⟩
    refine a1s (fun c1=>?_) (fun c1=>?_)
    ·refine ⟨_,rfl,_,_,rfl,rfl,⟨by decide,by decide⟩,_,rfl,_,_,rfl,rfl,(by show (0:Int) < _;omega),(by show 1≤sizeLine;decide),fun p hp=>?_⟩
     refine ⟨p,[bits / 64 % b],sm2.trans (a0d hp _),rfl,a0b,by simp,by simp,?_,List.pairwise_singleton _ _⟩
     intro x hx
     have e:x=bits / 64 % b:=by simpa using hx
     rw [e]
     exact ⟨Int.emod_nonneg _ (by omega),Int.emod_lt_of_pos _ (by omega)⟩
    ·have c2:¬ V.int ((ss.map V.int).length:Int)=V.int 0:=fun z=>c1 (decide_eq_true z)
     have c3:ss.length≠0:=fun z=>c2 (by rw [ls0,z];rfl)
     exact ⟨d,ss,sm2,rfl,hd2,by omega,by omega,hss,pss⟩
   rintro σ' H3 ⟨l,ss,sm3,rfl,hl3,ls1,ls2,hss,pss⟩
   have ls0:(ss.map V.int).length=ss.length:=List.length_map _
   refine ⟨fun σ' H'=>∃ (l:Addr) (ss:List Int),a0t H1 H'∧σ'=[some (.ref c),some (.int b),some (.int m),some (.bl lo),some (.ref wl),some (.int cell),some (.int t),some (.int bits),some (.ref l)]∧H' l=some (.lst (ss.map V.int))∧ss.length≤6∧1≤ss.length∧(∀ x∈ss,0≤x∧x < b)∧ss.Pairwise (· < ·)∧(lo=false→2≤ss.length),?_,?_⟩
   ·refine ⟨_,rfl,l,_,rfl,.inl (SqL.of hl3),rfl,_,rfl,?_⟩
    refine a1s (fun c1=>?_) (fun c1=>a4p ⟨l,ss,sm3,rfl,hl3,ls1,ls2,hss,pss,fun _=>?_⟩)
    rotate_left
    ·have c3:ss.length≠1:=fun z=>c1 (decide_eq_true (by rw [ls0,z];rfl))
     omega
    refine ⟨_,rfl,_,rfl,?_⟩
    refine a1s (fun c1=>?_) (fun c1=>⟨l,ss,sm3,rfl,hl3,ls1,ls2,hss,pss,fun z=>absurd (by rw [z];rfl) c1⟩)
    refine ⟨_,rfl,_,_,rfl,rfl,⟨by decide,by decide⟩,_,rfl,_,_,rfl,rfl,_,_,rfl,rfl,(by show (0:Int) < _;omega),_,_,rfl,rfl,(by show 2≤sizeLine;decide),fun p hp=>?_⟩
    have z0:0≤bits / 64 % (b - 1):=Int.emod_nonneg _ (by omega)
    have z1:bits / 64 % (b - 1) < b - 1:=Int.emod_lt_of_pos _ (by omega)
    refine ⟨p,[0,1+bits / 64 % (b - 1)],sm3.trans (a0d hp _),rfl,a0b,by simp,by simp,?_,?_,fun _=>by simp⟩
    rotate_left
    ·exact .cons (fun x hx=>by rw [List.mem_singleton.mp hx];omega) (List.pairwise_singleton _ _)
    intro x hx
    rcases List.mem_cons.mp hx with e | e
    ·omega
    ·have e:x=1+bits / 64 % (b - 1):=by simpa using e
     omega
   clear ls0 hss pss ls2 ls1 hl3 sm3 H3 ss l
   rintro σ' H3 ⟨l,ss,sm3,rfl,hl3,ls1,ls2,hss,pss,lss2⟩
   have ls0:(ss.map V.int).length=ss.length:=List.length_map _
   have same:∀ H',a0t H1 H'→a0t H H'∧∃ (x5 x6 x7 x8:Option V) (wl':Addr) (xs:List V) (ws:List (List Int)),[some (V.ref c),some (.int b),some (.int m),some (.bl lo),some (.ref wl),some (.int cell),some (.int t),some (.int bits),some (.ref l)]=[some (V.ref c),some (.int b),some (.int m),some (.bl lo),some (.ref wl'),x5,x6,x7,x8]∧H' wl'=some (.lst xs)∧Ws H' xs ws∧1≤ws.length∧ws.length≤23∧L2.Wok b 50 ws∧Gr b lo (i+1) ws :=
    fun H' sm'=>⟨sm.trans sm',_,_,_,_,wl,xs,ws,rfl,sm' _ _ hwl,hW.same sm',l1,l2,ok,gr.stay⟩
   refine ⟨_,rfl,wl,_,rfl,.inl (SqL.of (sm3 _ _ hwl)),_,rfl,l,_,rfl,.inl (SqL.of hl3),_,_,rfl,rfl,_,_,rfl,rfl,_,rfl,_,_,rfl,rfl,_,rfl,?_⟩
   refine a1s (fun c1=>?_) (fun c1=>a4p (same H3 sm3))
   have c1:(xs.length:Int)+((ss.map V.int).length:Int) - 1≤m:=of_decide_eq_true c1
   obtain ⟨y,hy,hya⟩:=at_of t0 t1
   obtain ⟨u,hu,ru⟩:=Paired.right_of hW _ _ hy
   obtain ⟨a,rfl,ha⟩:=Wd.ti ru
   refine ⟨_,rfl,_,rfl,wl,_,_,_,rfl,rfl,SqL.of (sm3 _ _ hwl),hya,a,_,rfl,.inr (SqT.of (sm3 _ _ ha)),_,_,rfl,rfl,_,rfl,?_⟩
   refine a1s (fun c2=>?_) (fun c2=>same H3 sm3)
   have c2:((u.map V.int).length:Int) < 50:=of_decide_eq_true c2
   rw [List.length_map] at c2
   have mu:u∈ws:=List.mem_of_getElem? hu
   refine ⟨_,rfl,_,rfl,_,rfl,wl,_,rfl,SqL.of (sm3 _ _ hwl),fun p4 hp4=>?_⟩
   rw [cutLit _ _ t0]
   have s4:=a0d hp4 (.lst (xs.take t.toNat))
   refine ⟨_,rfl,l,_,rfl,SqL.of (s4 _ _ hl3),fun d2 hd2=>?_⟩
   refine ⟨fun j H'=>a0t (upd H3 p4 (.lst (xs.take t.toNat))) H'∧∃ (zs:List V) (vs:List (List Int)),H' d2=some (.lst zs)∧Ws H' zs vs∧vs.length=j∧L2.Wok b 50 vs∧vs=(ss.take j).map (fun k=>u++[k]),⟨a0d hd2 _,[],[],a0b,.nil,rfl,⟨by simp,by simp⟩,rfl⟩,fun j H' _ hP=>SqL.of (hP.1 _ _ (s4 _ _ hl3)),fun j x H5 hx hP=>?_,fun H5 hP=>?_⟩
   ·obtain ⟨sm5,zs,vs,hd5,hV,lv,okv,kv⟩:=hP
    rw [List.getElem?_map] at hx
    cases hss2:ss[j]? with
    | none=>rw [hss2] at hx;cases hx
    | some k =>
    rw [hss2] at hx;cases hx
    have hk:=hss k (List.mem_of_getElem? hss2)
    have hj:=(List.getElem?_eq_some_iff.mp hss2).1
    have lz:zs.length=vs.length:=hV.length
    refine a0R ⟨_,rfl,_,rfl,wl,_,_,_,rfl,rfl,SqL.of (sm5 _ _ (s4 _ _ (sm3 _ _ hwl))),hya,_,rfl,(by show 1≤sizeLine;decide),fun p6 hp6=>?_⟩
    have s6:=a0d hp6 (.tup [.int k])
    refine ⟨a,p6,_,_,rfl,rfl,s6 _ _ (sm5 _ _ (s4 _ _ (sm3 _ _ ha))),a0b,small (by rw [List.length_map,List.length_singleton];omega),fun p7 H7 s7 hp7=>?_⟩
    have hp7':TW H7 p7 (u++[k]):=by show H7 p7=_;rw [hp7,List.map_append];rfl
    have g7:a0t H5 H7:=s6.trans s7
    refine ⟨zs,g7 _ _ hd5,?_,?_⟩
    ·exact a0z (by omega)
    ·have g8:a0t H7 (upd H7 d2 (.lst (zs++[.ref p7])))∨True:=.inr trivial
     have keep:∀ {y:V} {z:List Int},Wd H7 y z→Wd (upd H7 d2 (.lst (zs++[.ref p7]))) y z:=fun {y z} h=>by
      obtain ⟨a',xs',rfl,e',p'⟩:=h
      refine ⟨a',xs',rfl,?_,p'⟩
      rw [a0l (a4s e' (g7 _ _ hd5) (by intro z;cases z))]
      exact e'
     refine ⟨a0q hd2 (sm5.trans g7),zs++[.ref p7],vs++[u++[k]],a0b,Paired.mapP (L2.Paired.appendP (hV.same g7) (L2.Paired.oneP (Wd.of hp7'))) (fun _ _ h=>keep h),by rw [List.length_append,lv];rfl,okv.app ⟨fun w hw=>?_,fun w hw x hx=>?_⟩,by rw [List.take_add_one,hss2,List.map_append,←kv];rfl⟩
     ·have e:w=u++[k]:=by simpa using hw
      rw [e,List.length_append,List.length_singleton]
      omega
     ·have e:w=u++[k]:=by simpa using hw
      rw [e] at hx
      rcases List.mem_append.mp hx with z | z
      ·exact ok.let' u mu x z
      ·have:x=k:=by simpa using z
       rw [this];exact hk
   ·obtain ⟨sm5,zs,vs,hd5,hV,lv,okv,kv⟩:=hP
    have lz:zs.length=vs.length:=hV.length
    rw [ls0] at lv c1
    have lt4:(xs.take t.toNat).length≤xs.length:=by rw [List.length_take];omega
    refine ⟨p4,d2,_,_,rfl,rfl,sm5 _ _ a0b,hd5,small (by omega),fun p8 hp8=>?_⟩
    have s8:=a0d hp8 (.lst (xs.take t.toNat++zs))
    refine ⟨_,rfl,_,rfl,_,_,rfl,rfl,_,rfl,wl,_,rfl,SqL.of (s8 _ _ (sm5 _ _ (s4 _ _ (sm3 _ _ hwl)))),fun p9 hp9=>?_⟩
    rw [a8D _ _ (by omega)]
    have s9:=a0d hp9 (.lst (xs.drop (t+1).toNat))
    refine ⟨p8,p9,_,_,rfl,rfl,s9 _ _ a0b,a0b,small (by rw [List.length_append,List.length_drop];omega),fun p10 hp10=>?_⟩
    have s10:=a0d hp10 (.lst (xs.take t.toNat++zs++xs.drop (t+1).toNat))
    have g:a0t H1 (upd (upd (upd H5 p8 (.lst (xs.take t.toNat++zs))) p9 (.lst (xs.drop (t+1).toNat))) p10 (.lst (xs.take t.toNat++zs++xs.drop (t+1).toNat))):=fun b o e=>s10 b o (s9 b o (s8 b o (sm5 b o (s4 b o (sm3 b o e)))))
    have g5:a0t H5 (upd (upd (upd H5 p8 (.lst (xs.take t.toNat++zs))) p9 (.lst (xs.drop (t+1).toNat))) p10 (.lst (xs.take t.toNat++zs++xs.drop (t+1).toNat))):=fun b o e=>s10 b o (s9 b o (s8 b o e))
    refine ⟨sm.trans g,_,_,_,_,p10,_,ws.take t.toNat++vs++ws.drop (t+1).toNat,rfl,a0b,L2.Paired.appendP (L2.Paired.appendP (L2.Paired.takeP _ (hW.same g)) (hV.same g5)) (L2.Paired.dropP _ (hW.same g)),?_,?_,?_,?_⟩
    ·rw [List.length_append,List.length_append];omega
    ·rw [List.length_append,List.length_append,List.length_take,List.length_drop];omega
    ·exact ((ok.sub fun w hw=>List.mem_of_mem_take hw).app okv).app (ok.sub fun w hw=>List.mem_of_mem_drop hw)
    ·rw [ls0,List.take_length] at kv
     rw [kv,show (t+1).toNat=t.toNat+1 by omega]
     exact gr.grow t.toNat u ss hu pss ls2 lss2 hss (by omega)
 ·obtain ⟨sm,x5,x6,x7,x8,wl,xs,ws,rfl,hwl,hW,l1,l2,ok,gr⟩:=hP
  rw [List.length_map] at gr
  exact ⟨_,rfl,q wl H1 xs ws sm hwl hW l1 l2 ok gr⟩
theorem scInit:a0o ["self","one","other"] ["self","one","other"] (a0e a3x):=⟨rfl,rfl,rfl,by decide +kernel,rfl,by decide +kernel,by decide +kernel⟩
theorem b2X {C:Addr} (F:Fun K "__init__" "Clash.__init__" a3x f fd) (es:Est K C) (n1:a2K K C "one") (n2:a2K K C "other"):a1c P w K mg base CX0 1 f fd ["self","one","other"] (spJ2 C "one" "other"):=by
 refine F.ok (k:=0) scInit (fun vs H Q E h=>?_) (fun cdv A outer s H vs Q E hr h=>?_)
 ·obtain ⟨e,v,u,rfl,_⟩:=h
  rfl
 obtain ⟨e,v,u,rfl,he,q⟩:=h
 refine ⟨_,a0f (a8H (pv 0) (pv 1)) (a0i (a8H (pv 0) (pv 2))),?_⟩
 refine ⟨_,rfl,_,rfl,e,C,rfl,es,n1.taker,.inl ⟨he,fun d hd hne=>?_⟩⟩
 have e2:upd (upd H d (xdO d [("one",v)])) e (a5k e C (some d)) d=some (xdO d [("one",v)]):=by rw [a0l hne,a0b]
 refine ⟨_,rfl,_,rfl,e,C,rfl,es,n2.taker,.inr ⟨d,_,a0b,e2,hne,(by show 1≤100;decide),?_⟩⟩
 refine q _ (fun a o ne ho=>?_) ⟨d,hne,?_,?_⟩
 ·have nd:a≠d:=fun z=>by rw [z,hd] at ho;cases ho
  rw [a0l nd,a0l ne,a0l nd];exact ho
 ·rw [a0l hne.symm,a0b]
 ·rw [a0b];rfl
structure ClC (P:Program) (w:World) (K:PySem.W.Frag) (mg:Str→Option Value) (base:Heap) (C:Addr):Prop where
 g:mg "Clash"=some (.ref C)
 h:Hcl K C
 kp:PySem.W.keepIn K (.ref C)=true
 i:∃ fI fd,Eci K C fI∧a1c P w K mg base CX0 1 fI fd ["self","one","other"] (spJ2 C "one" "other")∧a1I K fd ["self","one","other"] []
def clF (i j:Nat):List (Str × V):=[("one",.int (i:Int)),("other",.int (j:Int))]
def spRX (C:Addr):Sp:=fun vs H Q E=>∃ c xs ws,vs=[.ref c]∧H c=some (.tup xs)∧Ws H xs ws∧ws.length≤1000∧(isF ws none→∀ H',a0t H H'→Q .non H') ∧
 ∀ i j:Nat,isF ws (some [(i:Int),(j:Int)])→∀ dx H',a0t H H'→H' dx=some (xdO dx (clF i j))→E (.ref C) (some dx) H'
theorem b1K:a0o ["code","pair"] ["code"] (a0e a1C):=⟨rfl,rfl,rfl,by decide +kernel,rfl,by decide +kernel,by decide +kernel⟩
theorem a3A {C:Addr} (F:Fun K "refuse_clash" "refuse_clash" a1C f fd) (G:Fns P w K mg base ["code"] "clash" a2Z 2) (c:ClC P w K mg base C):a1c P w K mg base (CXF P w) 3 f fd ["code"] (spRX C):=by
 obtain ⟨fI,fdI,eI,okI,bI⟩:=c.i
 refine F.okF (k:=2) b1K (fun vs H Q E h=>?_) (fun cdv A outer s H vs Q E hr h=>?_)
 ·obtain ⟨c,xs,ws,rfl,_⟩:=h
  rfl
 obtain ⟨p,xs,ws,rfl,hp,hw,l1,q1,q2⟩:=h
 refine ⟨_,a0f (a0y (i:=1) b1K.nd rfl (Or.inl rfl) (a0m G.ok hr (by rfl) G.m G.kp G.b .nil a0L (a0a (pv 0) a0c)))
  (a0i (a0U (a0u b2e (pv 1) a5S (nomark _)) (a0i (a8P a0M rfl (by rfl) c.g eI c.h c.kp okI hr bI (a0a (a0G a0V (pv 1) a0h (fun _ _=>rfl)) (a0a (a0G a0V (pv 1) a0h (fun _ _=>rfl)) a0c)))) a0x)),?_⟩
 refine ⟨_,rfl,p,xs,ws,rfl,hp,hw,by omega,fun r H1 o s1 ro io=>?_⟩
 cases o with
 | none =>
  have e:r=.non:=ro
  subst e
  exact ⟨_,rfl,rfl,_,rfl,a4p (q1 io H1 s1)⟩
 | some d =>
  obtain ⟨⟨pr,xr,er,hpr,hpp⟩,_⟩:=ro
  subst er
  obtain ⟨i,j,hij,rfl,c1,c2⟩:=io
  have exr:xr=[.int (i:Int),.int (j:Int)]:=Paired.ofInts hpp
  subst exr
  refine ⟨_,rfl,rfl,_,rfl,a9X ?_⟩
  refine ⟨_,rfl,pr,_,_,_,rfl,rfl,SqT.of hpr,rfl,_,rfl,pr,_,_,_,rfl,rfl,SqT.of hpr,rfl,(by show 2≤1000;decide),fun ea hea=>?_⟩
  exact ⟨ea,_,_,rfl,a0b,fun H2 kp x=>⟨rfl,a8R hea kp x fun dx H' sm hdx=>q2 i j ⟨i,j,hij,rfl,c1,c2⟩ dx H' (s1.trans sm) hdx⟩⟩
theorem b1L {ws:List (List Int)} (h:PF ws):isF ws none:=fun a b hab z=>by
 obtain ⟨u,v,h1,h2,h3⟩:=z
 have ap:=PF.ne h h1 h2 (by omega)
 rcases h3 with e | e
 ·exact ap.1 (List.prefix_iff_eq_take.mpr e.symm)
 ·exact ap.2 (List.prefix_iff_eq_take.mpr e.symm)
end
section
variable {P':Program} {w:World} {K:PySem.W.Frag} {mg:Str→Option Value} {base:Heap} {f:Addr} {fd:FuncData}
def PrL (H:Hp) (s:Addr) (ps:List (Int × Int)):Prop:=∃ xs:List V,H s=some (.lst xs)∧Paired (RPr H) xs ps
theorem RPr.same {H H':Hp} {x:V} {q:Int × Int} (sm:a0t H H') (h:RPr H x q):RPr H' x q:=by
 obtain ⟨t,e,ht⟩:=h
 exact ⟨t,e,sm _ _ ht⟩
def pw (p:Int × Int):List Int:=[p.1,p.2]
theorem a9t {H:Hp}:∀ {xs:List V} {ps:List (Int × Int)},Paired (RPr H) xs ps→Ws H xs (ps.map pw)
 | [],[],.nil=>.nil
 | _ :: _,p :: ps,.cons h t=>.cons (by
   obtain ⟨a,rfl,e⟩:=h
   exact Wd.of (w:=[p.1,p.2]) e) (a9t t)
theorem smallL {n:Nat} (h:n≤10000):n≤sizeLine:=Nat.le_trans h (by decide)
theorem b_set:bootBuiltins "set"=some (.type "set"):=by decide +kernel
def tot (ws:List (List Int)):Nat:=(ws.map List.length).sum
def a0Q (ws:List (List Int)) (l:Int):List (List Int):=(ws.filter fun u=>decide (u.headD 0=l)).map List.tail
theorem b2Y {ws:List (List Int)} (h:PF ws) (ne:ws≠[[]]):∀ u∈ws,u≠[]:=by
 intro u hu z
 subst z
 obtain ⟨i,hi⟩:=List.getElem?_of_mem hu
 have li:=(List.getElem?_eq_some_iff.mp hi).1
 by_cases l1:ws.length=1
 ·obtain ⟨x,rfl⟩:=List.length_eq_one_iff.mp l1
  exact ne (by rw [List.mem_singleton.mp hu])
 ·have lj:(if i=0 then 1 else 0) < ws.length:=by split <;> omega
  have hne:i≠(if i=0 then 1 else 0):=by split <;> omega
  exact (PF.ne h hi (List.getElem?_eq_getElem lj) hne).1 List.nil_prefix
theorem pf_go {ws:List (List Int)} (h:PF ws) (f:∀ u∈ws,u≠[]) (l:Int):PF (a0Q ws l):=by
 unfold a0Q PF
 rw [List.pairwise_map]
 refine List.Pairwise.imp_of_mem (fun {u v} hu hv a=>?_) (List.Pairwise.sublist List.filter_sublist h)
 obtain ⟨hu1,hu2⟩:=List.mem_filter.mp hu
 obtain ⟨hv1,hv2⟩:=List.mem_filter.mp hv
 cases u with
 | nil=>exact absurd rfl (f _ hu1)
 | cons x u =>
  cases v with
  | nil=>exact absurd rfl (f _ hv1)
  | cons y v =>
   have ex:x=l:=of_decide_eq_true hu2
   have ey:y=l:=of_decide_eq_true hv2
   subst ex ey
   exact ⟨fun z=>a.1 (List.cons_prefix_cons.mpr ⟨rfl,z⟩),fun z=>a.2 (List.cons_prefix_cons.mpr ⟨rfl,z⟩)⟩
theorem a6C:∀ (vs:List (List Int)),(∀ u∈vs,u≠[])→tot (vs.map List.tail)+vs.length=tot vs
 | [],_=>rfl
 | u :: vs,h=>by
  have e:=a6C vs fun v hv=>h v (.tail _ hv)
  have hu:=h u (.head _)
  cases u with
  | nil=>exact absurd rfl hu
  | cons x u =>
   unfold tot at e ⊢
   simp only [List.map_cons,List.sum_cons,List.length_cons,List.tail_cons] at e ⊢
   omega
theorem a4Y (p q:List Int→Bool) (d:∀ u,p u=true→q u=true→False):∀ (vs:List (List Int)),tot (vs.filter fun u=>p u || q u)=tot (vs.filter p)+tot (vs.filter q)
 | []=>rfl
 | u :: vs=>by
  have e:=a4Y p q d vs
  have du:=d u
  unfold tot at e ⊢
  rw [List.filter_cons,List.filter_cons,List.filter_cons]
  cases hp:p u <;> cases hq:q u
  ·simpa using e
  ·simp;omega
  ·simp;omega
  ·exact (du hp hq).elim
theorem a2m (p:List Int→Bool):∀ (vs:List (List Int)),tot (vs.filter p)≤tot vs
 | []=>Nat.le_refl _
 | u :: vs=>by
  have e:=a2m p vs
  unfold tot at e ⊢
  rw [List.filter_cons]
  split
  ·simp only [List.map_cons,List.sum_cons];omega
  ·simp only [List.map_cons,List.sum_cons];omega
theorem a9u {k:Nat}:∀ (vs:List (List Int)),(∀ u∈vs,u.length≤k)→tot vs≤vs.length * k
 | [],_=>by simp [tot]
 | u :: vs,h=>by
  have e:=a9u vs fun v hv=>h v (.tail _ hv)
  have:=h u (.head _)
  unfold tot at e ⊢
  simp only [List.map_cons,List.sum_cons,List.length_cons,Nat.succ_mul]
  omega
def lets (ws:List (List Int)):List Int:=((List.range 8).filter fun i=>decide (i∈ws.map fun u=>(u.headD 0).toNat)).map Int.ofNat
def spl:Nat→List (List Int)→List (Int × Int)
 | 0,_=>[]
 | fu+1,ws=>if ws=[[]] then [] else (lets ws).flatMap fun l=>(l,((a0Q ws l).length:Int)) :: spl fu (a0Q ws l)
theorem a4Z {m:Nat} {ws:List (List Int)} (h:∀ x,m.testBit x=true↔x∈ws.map fun u=>(u.headD 0).toNat):(a0C m).map Int.ofNat=lets ws:=by
 unfold a0C lets
 congr 1
 apply List.filter_congr
 intro x _
 by_cases hx:x∈ws.map fun u=>(u.headD 0).toNat
 ·rw [(h x).mpr hx,decide_eq_true hx]
 ·rw [decide_eq_false hx]
  cases hb:m.testBit x with
  | false=>rfl
  | true=>exact absurd ((h x).mp hb) hx
def NoL (ws:List (List Int)):Prop:=∀ (q:List Int) (x:Int) (r:List Int),q++x :: r∈ws→∃ y r',y≠x∧q++y :: r'∈ws
theorem a2b {ws:List (List Int)} {l:Int} (full:∀ u∈ws,u≠[]) {u:List Int}:u∈a0Q ws l↔l :: u∈ws:=by
 unfold a0Q
 constructor
 ·intro hu
  obtain ⟨v,hv,rfl⟩:=List.mem_map.mp hu
  obtain ⟨hv1,hv2⟩:=List.mem_filter.mp hv
  cases v with
  | nil=>exact absurd rfl (full _ hv1)
  | cons x v =>
   have:x=l:=of_decide_eq_true hv2
   subst this
   exact hv1
 ·intro h
  exact List.mem_map.mpr ⟨l :: u,List.mem_filter.mpr ⟨h,decide_eq_true rfl⟩,rfl⟩
theorem b1M {ws:List (List Int)} (h:NoL ws) (full:∀ u∈ws,u≠[]) (l:Int):NoL (a0Q ws l):=by
 intro q x r hm
 obtain ⟨y,r',ne,hy⟩:=h (l :: q) x r ((a2b full).mp hm)
 exact ⟨y,r',ne,(a2b full).mpr hy⟩
theorem a9v {u:List Int} (h:NoL [u]):u=[]:=by
 cases u with
 | nil=>rfl
 | cons x r =>
  obtain ⟨y,r',ne,hy⟩:=h [] x r (.head _)
  have:=List.mem_singleton.mp hy
  exact absurd (List.cons.inj this).1 ne
theorem RPr.upd {H:Hp} {d:Addr} {ls ls':List V} {x:V} {q:Int × Int} (hl:H d=some (.lst ls)) (h:RPr H x q):RPr (upd H d (.lst ls')) x q:=by
 obtain ⟨t,e,ht⟩:=h
 exact ⟨t,e,by rw [a0l (a4s ht hl (by intro z;cases z))];exact ht⟩
theorem b1c {X:Cx} {elt iter:Expr} {tg:Str} {tp:Pos} {cs:List Expr} {scope:Scope} {pos:Pos} {tc:TT} {te:TE} {M:List Str} {tl:TE} {pos1 spos:Pos} {i:Nat} {x:Str} (hN:X.N.Nodup) (hix:X.N[i]?=some x) (hx:X.env.scope.names.lookup x=some .local) (hc:X.calm=true) (S:a0k scope X.env X.N M) (nd:(tg :: M).Nodup) (hl:scope.names.lookup tg=some .local) (hi:PE X iter tl) (mo:a1V tl)
  (hin:a4F X scope tg M cs elt tc te) (hw:swapsWith (.ListComp elt [⟨.Name tg tp,iter,cs,0⟩] scope pos) (some (.Name x pos1)) spos.line X.env=pure true:=by rfl) (hf:∀ x,foldedSetIterable iter X.env x=pure x:=by intro _;rfl) :
  PS X (.Assign [.Name x pos1] (.ListComp elt [⟨.Name tg tp,iter,cs,0⟩] scope pos) spos) (b2b (b1C X.K tl tc te) (a1g i)):=by
 refine a6c hc S nd hl (b1B hi) hin (fun σ H Q h=>?_) hN hix hx hw hf
 refine mo σ H _ _ (fun v H1 q=>?_) h
 obtain ⟨a,xs,b,e,j1,q⟩:=q
 refine ⟨a,b,e,⟨xs,j1⟩,fun d hd=>?_⟩
 obtain ⟨Pv,h0,hl,hs,hd⟩:=q d hd
 cases b with
 | true=>exact a1x (k:=1) (g:=a1g 0) Pv h0 hl hs hd
 | false=>exact a3N (k:=1) (g:=a1g 0) Pv h0 hl hs hd
abbrev sPl:Stmt:=top 26
abbrev NPl:List Str:=["words","spelling","letter","inside"]
def b3t (K:PySem.W.Frag) (fu:Nat):Sp:=fun vs H Q _=>∃ (a:Addr) (b:Bool) (xs:List V) (ws:List (List Int)),vs=[.ref a]∧SqB b K H a xs∧Ws H xs ws∧PF ws∧NoL ws∧ws≠[]∧ws.length≤24∧(∀ u∈ws,u.length < fu)∧(∀ u∈ws,∀ x∈u,0≤x∧x < 8)∧fu≤60 ∧
 ∀ p H',a0t H H'→H p=none→PrL H' p (spl fu ws)→(spl fu ws).length≤tot ws→Q (.ref p) H'
theorem scPl:a0o NPl ["words"] (a0e sPl):=⟨rfl,rfl,rfl,by decide +kernel,rfl,by decide +kernel,by decide +kernel⟩
theorem ndPl:(("word":Str) :: NPl).Nodup:=by decide +kernel
theorem ok_pl (fu:Nat) (F:Fun K "spelled" "spelled" sPl f fd) (GR:Fns P' w K mg base ["words"] "spelled" (b3t K fu) (fu+1)) (ml:mg "len"=none) (mS:mg "sorted"=none) (mT:mg "set"=none) :
  a1c P' w K mg base CX0 (fu+2) f fd ["words"] (b3t K (fu+1)):=by
 refine F.ok (k:=fu+1) scPl (fun vs H Q E h=>?_) (fun cdv A outer s H vs Q E hr h=>?_)
 ·obtain ⟨a,b,xs,ws,rfl,_⟩:=h
  rfl
 obtain ⟨a,b,xs,ws,rfl,ha,hW,pf,nol,ne,l24,wl,wx,f60,q⟩:=h
 have lx:xs.length=ws.length:=hW.length
 have tw:tot ws≤24 * 60:=Nat.le_trans (a9u (k:=60) ws fun u hu=>by have:=wl u hu;omega) (Nat.mul_le_mul_right 60 l24)
 refine ⟨_,a0f (a0y (i:=1) scPl.nd rfl (Or.inl rfl) (a1h (a0c)))
   (a0f (a0U (a0u a1u (a0j a0g (by rfl) ml PySem.boot_len (a0a (pv 0) (a0c))) (a0h) (nomark _)) (a0i (a0s (pv 1))) (a0x))
   (a0f (a1T PassesOwn.never rfl (a1J (a0j (b2O rfl) (by rfl) mS a4O (a0a (a0K (a9j rfl) (by rfl) mT b_set (a0a (b0p (M:=NPl) rfl (a0k.of (a0e sPl) NPl rfl rfl rfl (by decide +kernel) (by decide +kernel) (by decide +kernel) rfl (by decide +kernel)) ndPl rfl (pv 0) a1f
    (fun cl C s0 H0 fp=>⟨a0W,a0G (ixT K) (pv 0) a0h (fun _ _=>rfl)⟩)) (a0c))) (a0c)))) (a0I (i:=2) scPl.nd rfl (Or.inr rfl)) (a0f (b1c (i:=3) (M:=NPl) scPl.nd rfl rfl rfl (a0k.of (a0e sPl) NPl rfl rfl rfl (by decide +kernel) (by decide +kernel) (by decide +kernel) rfl (by decide +kernel)) ndPl rfl (pv 0) a1f
    (fun cl C s0 H0 fp=>⟨a3J (a0u a1u (a0G (ixT K) (pv 0) a0h (fun _ _=>rfl)) (pv 3) (nomark _)),a1i a2P (pv 0) (a1j a0h) a2h⟩))
   (a0f (a1m (a8p PySem.F.plainAttrs_list PySem.F.slot_list_append PySem.F.type_list_append a2M (pv 1) (a0a (a1l (a0a (pv 2) (a0a (a0j a0g (by rfl) ml PySem.boot_len (a0a (pv 3) (a0c))) (a0c)))) (a0c))))
   (a0i (a1m (a8p PySem.F.plainAttrs_list PySem.F.slot_list_extend PySem.F.type_list_extend a2N (pv 1) (a0a (a0m GR.ok hr (by rfl) GR.m GR.kp GR.b .nil a0L (a0a (pv 3) (a0c))) (a0c))))))))
   (a0i (a0s (pv 1))))),?_⟩
 refine ⟨(by show 0≤sizeLine;decide),fun p0 hp0=>?_⟩
 have s0:=a0d hp0 (.lst [])
 have g0:upd H p0 (.lst []) p0=some (.lst []):=a0b
 generalize upd H p0 (.lst [])=H1 at s0 g0 ⊢
 refine ⟨_,rfl,a,_,rfl,(SqB.same s0 ha).or,rfl,_,rfl,a1s (fun c=>?_) (fun c=>?_)⟩
 ·have l1:ws.length=1:=by
   have:=V.int.inj (of_decide_eq_true c)
   omega
  obtain ⟨u,rfl⟩:=List.length_eq_one_iff.mp l1
  have eu:=a9v nol
  subst eu
  exact ⟨_,rfl,q p0 H1 s0 hp0 ⟨[],g0,.nil⟩ (Nat.zero_le _)⟩
 have ne1:ws≠[[]]:=fun z=>c (decide_eq_true (by rw [lx,z];rfl))
 have full:=b2Y pf ne1
 have ha1:=SqB.same s0 ha
 have hW1:=hW.same s0
 refine ⟨_,rfl,a,_,b,rfl,ha1,fun d hd=>?_⟩
 refine ⟨fun kk H'=>a0t H1 H'∧H' d=some (.lst ((ws.take kk).map fun u=>V.int (Int.ofNat (u.headD 0).toNat))),⟨a0d hd _,a0b⟩,fun kk H' _ hP=>SqB.same hP.1 ha1,fun kk y H' hy hP=>?_,fun H5 hP=>?_⟩
 ·obtain ⟨s5,g5⟩:=hP
  obtain ⟨o,ho2,ru⟩:=Paired.right_of hW1 kk y hy
  obtain ⟨ua,rfl,hua⟩:=Wd.ti ru
  have mo:=List.mem_of_getElem? ho2
  have kl:=(List.getElem?_eq_some_iff.mp ho2).1
  cases o with
  | nil=>exact absurd rfl (full _ mo)
  | cons x o =>
  have hx:=wx _ mo x (.head _)
  refine a0R ⟨_,rfl,ua,_,_,_,rfl,rfl,SqT.of (s5 _ _ hua),(show atI ((x :: o).map V.int) 0=some (V.int x) from a1z (i:=0) rfl),_,g5,a0z (by rw [List.length_map,List.length_take];omega),a0q hd s5,?_⟩
  rw [a0b,List.take_add_one,ho2,List.map_append]
  show some (HO.lst (_++[V.int x]))=some (HO.lst (_++[V.int ((x.toNat:Nat):Int)]))
  rw [Int.toNat_of_nonneg hx.1]
 obtain ⟨s5,g5⟩:=hP
 rw [lx,List.take_length] at g5
 refine ⟨d,ws.map (fun u=>(u.headD 0).toNat),rfl,by rw [List.map_map];exact g5,fun x hx=>?_,fun sp H6 m s6 hn6 g6 hm=>?_⟩
 ·obtain ⟨u,hu,rfl⟩:=List.mem_map.mp hx
  cases u with
  | nil=>exact absurd rfl (full _ hu)
  | cons y u =>
   have:=wx _ hu y (.head _)
   show y.toNat < 8
   omega
 refine ⟨sp,m,rfl,g6,fun lp H7 s7 hn7 g7=>?_⟩
 have lm:∀ l∈lets ws,∃ u∈ws,u.headD 0=l:=by
  intro l hl
  rw [←a4Z hm] at hl
  obtain ⟨n,hn,rfl⟩:=List.mem_map.mp hl
  obtain ⟨u,hu,eu⟩:=List.mem_map.mp ((hm n).mp (a2C.mp hn).2)
  refine ⟨u,hu,?_⟩
  cases u with
  | nil=>exact absurd rfl (full _ hu)
  | cons y u =>
   have hy:=wx _ hu y (.head _)
   have ey:y.toNat=n:=eu
   show y=((n:Nat):Int)
   omega
 have lnd:(lets ws).Nodup:=by
  unfold List.Nodup lets
  rw [List.pairwise_map]
  exact List.Pairwise.imp (fun h z=>h (Int.ofNat.inj z)) (List.Pairwise.filter _ List.nodup_range)
 have g7:H7 lp=some (.lst ((lets ws).map V.int)):=by
  rw [←a4Z hm,List.map_map]
  exact g7
 have s17:=(s5.trans s6).trans s7
 have h70:H7 p0=some (.lst []):=s17 _ _ g0
 have np:∀ {x:Addr} {o:HO},H x=some o→x≠p0:=fun {x o} e z=>by rw [z,hp0] at e;cases e
 have lpn:lp≠p0:=fun z=>by
  rw [z] at hn7
  have:=s6 _ _ (s5 _ _ g0)
  rw [hn7] at this
  cases this
 clear hm g6 hn6 hn7 g5
 generalize eL:lets ws=ls at lm lnd g7
 refine ⟨lp,rfl,⟨_,SqL.of g7⟩,?_⟩
 refine a2x (xs:=ls.map V.int) (fun i σ H'=>(∀ x o,x≠p0→H7 x=some o→H' x=some o)∧∃ (x2 x3:Option V) (ys:List V),σ=[some (.ref a),some (.ref p0),x2,x3]∧H' p0=some (.lst ys)∧Paired (RPr H') ys ((ls.take i).flatMap fun l=>(l,((a0Q ws l).length:Int)) :: spl fu (a0Q ws l))∧((ls.take i).flatMap fun l=>(l,((a0Q ws l).length:Int)) :: spl fu (a0Q ws l)).length≤tot (ws.filter fun u=>decide (u.headD 0∈ls.take i)))
  ⟨fun _ _ _ e=>e,_,_,[],rfl,h70,.nil,Nat.zero_le _⟩ (fun i σ H' _ hP=>SqL.of (hP.1 _ _ lpn g7)) (fun i x σ H3 hx hP=>?_) (fun σ H3 hP=>?_)
 ·obtain ⟨k3,x2,x3,ys0,rfl,h30,hps,lps⟩:=hP
  rw [List.getElem?_map] at hx
  cases hl:ls[i]? with
  | none=>rw [hl] at hx;cases hx
  | some l =>
  rw [hl] at hx;cases hx
  have li:=(List.getElem?_eq_some_iff.mp hl).1
  have hm:=List.mem_of_getElem? hl
  obtain ⟨u0,hu0,eu0⟩:=lm l hm
  have s03:a0t H H3:=fun x o e=>k3 x o (np e) (s17 _ _ (s0 _ _ e))
  have ha3:=SqB.same s03 ha
  have hW3:=hW.same s03
  refine ⟨_,rfl,a,_,b,rfl,ha3,fun d hd=>?_⟩
  refine ⟨fun kk H'=>a0t H3 H'∧∃ ys,H' d=some (.lst ys)∧Ws H' ys (a0Q (ws.take kk) l),⟨a0d hd _,[],a0b,.nil⟩,fun kk H' _ hP=>SqB.same hP.1 ha3,fun kk y H' hy hP=>?_,fun H5 hP=>?_⟩
  ·obtain ⟨s5,ys,g5,w5⟩:=hP
   obtain ⟨o,ho2,ru⟩:=Paired.right_of hW3 kk y hy
   obtain ⟨ua,rfl,hua⟩:=Wd.ti ru
   have mo:=List.mem_of_getElem? ho2
   have kl:=(List.getElem?_eq_some_iff.mp ho2).1
   have ly:ys.length≤24:=by
    rw [w5.length]
    unfold a0Q
    rw [List.length_map]
    exact Nat.le_trans (List.length_filter_le _ _) (by rw [List.length_take];omega)
   cases o with
   | nil=>exact absurd rfl (full _ mo)
   | cons x o =>
   have eg:a0Q (ws.take (kk+1)) l=a0Q (ws.take kk) l++(if x=l then [o] else []):=by
    unfold a0Q
    rw [List.take_add_one,ho2,List.filter_append,List.map_append]
    show _++List.map List.tail (List.filter _ [x :: o])=_
    rw [List.filter_cons]
    by_cases h:x=l
    ·rw [if_pos h,if_pos (show decide ((x :: o).headD 0=l)=true from decide_eq_true h)]
     rfl
    ·rw [if_neg h,if_neg (show ¬ decide ((x :: o).headD 0=l)=true from fun z=>h (of_decide_eq_true z))]
     rfl
   unfold a5s
   refine ⟨_,rfl,ua,_,_,_,rfl,rfl,SqT.of (s5 _ _ hua),(show atI ((x :: o).map V.int) 0=some (V.int x) from a1z (i:=0) rfl),_,rfl,rfl,_,rfl,a1s (fun c=>?_) (fun c=>?_)⟩
   ·have ex:x=l:=V.int.inj (of_decide_eq_true c)
    refine ⟨_,rfl,_,rfl,ua,_,rfl,s5 _ _ hua,fun p5 H6 s6 hp5=>?_⟩
    have hp6:TW H6 p5 o:=hp5.trans (by rw [show (some (1:Int))=some ((1:Nat):Int) from rfl,a6e];rfl)
    refine ⟨ys,s6 _ _ g5,a0z (by omega),a0q hd (s5.trans s6),_,a0b,?_⟩
    rw [eg,if_pos ex]
    exact Paired.appendP (Ws.upd (s6 _ _ g5) (w5.same s6)) (.cons (Wd.upd (s6 _ _ g5) (Wd.of hp6)) .nil)
   ·have ex:¬ x=l:=fun z=>c (decide_eq_true (by rw [z]))
    refine ⟨s5,ys,g5,?_⟩
    rw [eg,if_neg ex,List.append_nil]
    exact w5
  obtain ⟨s5,ys,g5,w5⟩:=hP
  rw [lx,List.take_length] at w5
  have ly:ys.length=(a0Q ws l).length:=w5.length
  have lg:(a0Q ws l).length≤ws.length:=by
   unfold a0Q
   rw [List.length_map]
   exact List.length_filter_le _ _
  have hin:u0∈ws.filter fun u=>decide (u.headD 0=l):=List.mem_filter.mpr ⟨hu0,decide_eq_true eu0⟩
  have tg:tot (a0Q ws l)+(ws.filter fun u=>decide (u.headD 0=l)).length=tot (ws.filter fun u=>decide (u.headD 0=l)):=a6C _ fun u hu=>full u (List.mem_filter.mp hu).1
  have lf1:1≤(ws.filter fun u=>decide (u.headD 0=l)).length:=List.length_pos_of_mem hin
  have tsp:tot (ws.filter fun u=>decide (u.headD 0∈ls.take (i+1)))=tot (ws.filter fun u=>decide (u.headD 0∈ls.take i))+tot (ws.filter fun u=>decide (u.headD 0=l)):=by
   rw [←a4Y (fun u=>decide (u.headD 0∈ls.take i)) (fun u=>decide (u.headD 0=l))]
   ·congr 2
    funext u
    rw [List.take_add_one,hl]
    simp
   ·intro u h1 h2
    have e1:=of_decide_eq_true h1
    rw [of_decide_eq_true h2] at e1
    obtain ⟨j,hj⟩:=List.getElem?_of_mem e1
    have lj:=(List.getElem?_eq_some_iff.mp hj).1
    rw [List.length_take] at lj
    rw [List.getElem?_take_of_lt (by omega)] at hj
    have:=(List.getElem?_inj (by omega) lnd).mp (hj.trans hl.symm)
    omega
  have tle:=a2m (fun u=>decide (u.headD 0∈ls.take (i+1))) ws
  have eF:((ls.take (i+1)).flatMap fun l=>(l,((a0Q ws l).length:Int)) :: spl fu (a0Q ws l))=((ls.take i).flatMap fun l=>(l,((a0Q ws l).length:Int)) :: spl fu (a0Q ws l))++([(l,((a0Q ws l).length:Int))]++spl fu (a0Q ws l)):=by
   rw [List.take_add_one,hl,List.flatMap_append]
   simp
  generalize eP:((ls.take i).flatMap fun l=>(l,((a0Q ws l).length:Int)) :: spl fu (a0Q ws l))=ps at hps lps eF
  have lz:ys0.length=ps.length:=hps.length
  have h50:=s5 _ _ h30
  have dn:d≠p0:=fun z=>by rw [z,h30] at hd;cases hd
  refine ⟨_,rfl,.inl ⟨rfl,_,SqL.of h50⟩,_,rfl,_,rfl,d,_,rfl,.inl (SqL.of g5),(by show 2≤sizeLine;decide),fun t1 ht1=>?_⟩
  have s6:=a0d ht1 (.tup [.int l,.int (ys.length:Int)])
  have g6:upd H5 t1 (.tup [.int l,.int (ys.length:Int)]) t1=some (.tup [.int l,.int (ys.length:Int)]):=a0b
  generalize upd H5 t1 (.tup [.int l,.int (ys.length:Int)])=H6 at s6 g6 ⊢
  have h60:=s6 _ _ h50
  have hps6:Paired (RPr H6) ys0 ps:=Paired.mapP hps fun _ _ q=>RPr.same (s5.trans s6) q
  refine ⟨p0,ys0,.ref t1,rfl,rfl,h60,Nat.lt_of_le_of_lt (show ys0.length≤10000 by omega) (by decide),?_⟩
  have h70':upd H6 p0 (.lst (ys0++[.ref t1])) p0=some (.lst (ys0++[.ref t1])):=a0b
  have w7:Paired (RPr (upd H6 p0 (.lst (ys0++[.ref t1])))) (ys0++[.ref t1]) (ps++[(l,((a0Q ws l).length:Int))]):=Paired.appendP (Paired.mapP hps6 fun _ _ q=>RPr.upd h60 q) (.cons (RPr.upd h60 ⟨t1,rfl,by rw [←ly];exact g6⟩) .nil)
  have hd7:upd H6 p0 (.lst (ys0++[.ref t1])) d=some (.lst ys):=by rw [a0l dn];exact s6 _ _ g5
  have wd7:Ws (upd H6 p0 (.lst (ys0++[.ref t1]))) ys (a0Q ws l):=Ws.upd h60 (w5.same s6)
  have k7:∀ x o,x≠p0→H3 x=some o→upd H6 p0 (.lst (ys0++[.ref t1])) x=some o:=fun x o n e=>by rw [a0l n];exact s6 _ _ (s5 _ _ e)
  generalize upd H6 p0 (.lst (ys0++[.ref t1]))=H8 at h70' w7 hd7 wd7 k7 ⊢
  refine ⟨_,rfl,.inl ⟨rfl,_,SqL.of h70'⟩,_,rfl,?_⟩
  refine ⟨d,true,ys,a0Q ws l,rfl,SqL.of hd7,wd7,pf_go pf full l,b1M nol full l,?_,by omega,?_,?_,by omega,fun p H9 s9 hpn hp9 l9=>?_⟩
  ·intro z
   have:(a0Q ws l).length=(ws.filter fun u=>decide (u.headD 0=l)).length:=by unfold a0Q;rw [List.length_map]
   rw [z,List.length_nil] at this
   omega
  ·intro u hu
   have:=wl _ ((a2b full).mp hu)
   rw [List.length_cons] at this
   omega
  ·intro u hu x hx
   exact wx _ ((a2b full).mp hu) x (.tail _ hx)
  obtain ⟨ys2,hy2,hyp⟩:=hp9
  have ly2:ys2.length=(spl fu (a0Q ws l)).length:=hyp.length
  have h90:=s9 _ _ h70'
  refine ⟨p0,p,_,_,rfl,rfl,h90,hy2,smallL (by rw [List.length_append,lz,ly2];show ps.length+1+_≤_;omega),?_⟩
  refine ⟨fun x o n e=>?_,_,_,ys0++[.ref t1]++ys2,rfl,a0b,?_,?_⟩
  ·rw [a0l n]
   exact s9 _ _ (k7 x o n (k3 x o n e))
  ·rw [eF,←List.append_assoc]
   exact Paired.appendP (Paired.mapP w7 fun _ _ q=>RPr.upd h90 (RPr.same s9 q)) (Paired.mapP hyp fun _ _ q=>RPr.upd h90 q)
  ·rw [eF,List.length_append,List.length_append,List.length_singleton]
   omega
 ·obtain ⟨k3,x2,x3,ys0,rfl,h30,hps,lps⟩:=hP
  rw [List.length_map,List.take_length] at hps lps
  have efin:(ls.flatMap fun l=>(l,((a0Q ws l).length:Int)) :: spl fu (a0Q ws l))=spl (fu+1) ws:=by
   rw [spl,if_neg ne1,eL]
  rw [efin] at hps lps
  exact ⟨_,rfl,q p0 H3 (fun x o e=>k3 x o (np e) (s17 _ _ (s0 _ _ e))) hp0 ⟨ys0,h30,hps⟩ (Nat.le_trans lps (a2m _ _))⟩
theorem b2Z (F:Fun K "spelled" "spelled" sPl f fd):a1c P' w K mg base CX0 1 f fd ["words"] (b3t K 0):=by
 refine F.ok (k:=0) scPl (fun vs H Q E h=>?_) (fun cdv A outer s H vs Q E hr h=>?_)
 ·obtain ⟨a,b,xs,ws,rfl,_⟩:=h
  rfl
 obtain ⟨a,b,xs,ws,rfl,ha,hW,pf,nol,ne,l24,wl,_⟩:=h
 cases ws with
 | nil=>exact absurd rfl ne
 | cons u ws=>exact absurd (wl u (.head _)) (Nat.not_lt_zero _)
theorem b1N (F:Fun K "spelled" "spelled" sPl f fd) (hb:a1I K fd ["words"] []) (kp:PySem.W.keepIn K (.ref f)=true) (hm:mg "spelled"=some (.ref f)) (ml:mg "len"=none) (mS:mg "sorted"=none) (mT:mg "set"=none) :
  ∀ fu:Nat,a1c P' w K mg base CX0 (fu+1) f fd ["words"] (b3t K fu)
 | 0=>b2Z F
 | fu+1=>ok_pl fu F ⟨f,fd,b1N F hb kp hm ml mS mT fu,hb,kp,hm⟩ ml mS mT
end
theorem pf_of {ws:List (List Int)} (h:isF ws none):PF ws:=by
 unfold PF
 rw [List.pairwise_iff_getElem]
 intro i j hi hj hij
 have n:=h i j hij
 refine ⟨fun z=>n ⟨ws[i],ws[j],List.getElem?_eq_getElem hi,List.getElem?_eq_getElem hj,.inl ?_⟩,fun z=>n ⟨ws[i],ws[j],List.getElem?_eq_getElem hi,List.getElem?_eq_getElem hj,.inr ?_⟩⟩
 ·exact (List.prefix_iff_eq_take.mp z).symm
 ·exact (List.prefix_iff_eq_take.mp z).symm
def WI (S:List Int→Int→Prop) (wy:List (List Int × List Int)):Prop:=∀ q∈wy,q.2.Nodup∧∀ y∈q.2,S q.1 y
def Has (wy:List (List Int × List Int)) (k:List Int) (l:Int):Prop:=∃ q∈wy,q.1=k∧l∈q.2
theorem a9w {S:List Int→Int→Prop} {k:List Int} {l:Int} (hs:S k l):∀ {wy:List (List Int × List Int)},WI S wy→WI S (a1B k l wy)
 | [],_=>fun q hq=>by
  rw [show a1B k l []=[(k,[l])] from rfl] at hq
  rw [List.mem_singleton.mp hq]
  exact ⟨by simp,fun y hy=>by rw [List.mem_singleton.mp hy];exact hs⟩
 | (k',ls) :: r,h=>fun q hq=>by
  unfold a1B at hq
  have hr:WI S r:=fun q hq=>h q (.tail _ hq)
  have h0:=h (k',ls) (.head _)
  split at hq
  ·next e =>
   rcases List.mem_cons.mp hq with z | z
   ·rw [z]
    show (a7u l ls).Nodup∧∀ y∈a7u l ls,S k' y
    unfold a7u
    split
    ·exact h0
    ·next nl =>
     refine ⟨?_,fun y hy=>?_⟩
     ·rw [List.nodup_append]
      refine ⟨h0.1,by simp,fun a ha b hb z=>nl ?_⟩
      rw [List.mem_singleton.mp hb] at z
      rw [←z];exact ha
     ·rcases List.mem_append.mp hy with z | z
      ·exact h0.2 y z
      ·rw [List.mem_singleton.mp z,e];exact hs
   ·exact hr q z
  ·rcases List.mem_cons.mp hq with z | z
   ·rw [z];exact h0
   ·exact a9w hs hr q z
theorem a6D (l:Int) (ls:List Int):l∈a7u l ls∧∀ y∈ls,y∈a7u l ls:=by
 unfold a7u
 split
 ·next h=>exact ⟨h,fun y hy=>hy⟩
 ·exact ⟨List.mem_append.mpr (.inr (.head _)),fun y hy=>List.mem_append.mpr (.inl hy)⟩
theorem a6E (k:List Int) (l:Int):∀ wy,Has (a1B k l wy) k l
 | []=>⟨(k,[l]),by rw [show a1B k l []=[(k,[l])] from rfl];exact .head _,rfl,.head _⟩
 | (k',ls) :: r=>by
  unfold a1B
  split
  ·next e=>exact ⟨_,.head _,e,(a6D l ls).1⟩
  ·obtain ⟨q,hq,e1,e2⟩:=a6E k l r
   exact ⟨q,.tail _ hq,e1,e2⟩
theorem a3b (k:List Int) (l:Int) {k':List Int} {l':Int}:∀ wy,Has wy k' l'→Has (a1B k l wy) k' l'
 | [],h=>by obtain ⟨q,hq,_⟩:=h;cases hq
 | (k2,ls) :: r,h=>by
  obtain ⟨q,hq,e1,e2⟩:=h
  unfold a1B
  split
  ·rcases List.mem_cons.mp hq with z | z
   ·subst z;exact ⟨_,.head _,e1,(a6D l ls).2 _ e2⟩
   ·exact ⟨q,.tail _ z,e1,e2⟩
  ·rcases List.mem_cons.mp hq with z | z
   ·subst z;exact ⟨_,.head _,e1,e2⟩
   ·obtain ⟨q',hq',e1',e2'⟩:=a3b k l r ⟨q,z,e1,e2⟩
    exact ⟨q',.tail _ hq',e1',e2'⟩
theorem a9x {S:List Int→Int→Prop} {word:List Int} {wy:List (List Int × List Int)} (h:WI S wy):∀ n,(∀ i,i < n→S (word.take i) (word.getD i 0))→WI S (a4r word n wy)
 | 0,_=>h
 | n+1,hs=>by
  rw [a0J]
  exact a9w (hs n (Nat.lt_succ_self _)) (a9x h n fun i hi=>hs i (by omega))
theorem a5a {word:List Int} {wy:List (List Int × List Int)} {k:List Int} {l:Int} (h:Has wy k l):∀ n,Has (a4r word n wy) k l
 | 0=>h
 | n+1=>by rw [a0J];exact a3b _ _ _ (a5a h n)
theorem a6F {word:List Int} {wy:List (List Int × List Int)}:∀ n i,i < n→Has (a4r word n wy) (word.take i) (word.getD i 0)
 | 0,i,h=>absurd h (by omega)
 | n+1,i,h=>by
  rw [a0J]
  by_cases e:i=n
  ·subst e;exact a6E _ _ _
  ·exact a3b _ _ _ (a6F n i (by omega))
theorem a3c {S:List Int→Int→Prop} {ws:List (List Int)} (hs:∀ word∈ws,∀ i,i < word.length→S (word.take i) (word.getD i 0)):∀ n,n≤ws.length→WI S (a0X ws n)
 | 0,_=>fun q hq=>by cases hq
 | n+1,h=>by
  have e:ws[n]?=some (ws[n]'(by omega)):=List.getElem?_eq_getElem (by omega)
  rw [a0N e]
  exact a9x (a3c hs n (by omega)) _ fun i hi=>hs _ (List.getElem_mem _) i hi
theorem a2n {ws:List (List Int)} {j:Nat} {word:List Int} (hj:ws[j]?=some word) {i:Nat} (hi:i < word.length):∀ n,j < n→n≤ws.length→Has (a0X ws n) (word.take i) (word.getD i 0)
 | 0,h,_=>absurd h (by omega)
 | n+1,h,hn=>by
  have e:ws[n]?=some (ws[n]'(by omega)):=List.getElem?_eq_getElem (by omega)
  rw [a0N e]
  by_cases z:j=n
  ·subst z
   rw [e] at hj
   have hj:=Option.some.inj hj
   rw [hj]
   exact a6F _ i hi
  ·exact a5a (a2n hj hi n (by omega) (by omega)) _
theorem nol_of {ws:List (List Int)} (h:∀ q∈a0Y ws,q.2.length≠1):NoL ws:=by
 intro q x r hm
 have wi:WI (fun k y=>∃ r,k++y :: r∈ws) (a0Y ws):=a3c (fun word hw i hi=>⟨word.drop (i+1),by
  have e:word.getD i 0=word[i]:=by rw [List.getD_eq_getElem?_getD,List.getElem?_eq_getElem hi];rfl
  rw [e,List.getElem_cons_drop,List.take_append_drop]
  exact hw⟩) _ (Nat.le_refl _)
 obtain ⟨j,hj⟩:=List.getElem?_of_mem hm
 have hi:q.length < (q++x :: r).length:=by rw [List.length_append,List.length_cons];omega
 obtain ⟨e,he,e1,e2⟩:=a2n hj hi ws.length (List.getElem?_eq_some_iff.mp hj).1 (Nat.le_refl _)
 rw [List.take_left] at e1
 have eg:(q++x :: r).getD q.length 0=x:=by
  rw [List.getD_eq_getElem?_getD,List.getElem?_append_right (Nat.le_refl _),Nat.sub_self]
  rfl
 rw [eg] at e2
 obtain ⟨nd,src⟩:=wi e he
 have l1:=h e he
 have:∃ y∈e.2,y≠x:=by
  cases el:e.2 with
  | nil=>rw [el] at e2;cases e2
  | cons a t =>
   cases t with
   | nil=>rw [el] at l1;exact absurd rfl l1
   | cons b t =>
    rw [el] at nd
    by_cases z:a=x
    ·refine ⟨b,.tail _ (.head _),fun y=>?_⟩
     rw [List.nodup_cons] at nd
     exact nd.1 (by rw [z,←y];exact .head _)
    ·exact ⟨a,.head _,z⟩
 obtain ⟨y,hy,ne⟩:=this
 obtain ⟨r',hr'⟩:=src y hy
 rw [e1] at hr'
 exact ⟨y,r',ne,hr'⟩
def a9y (ws:List (List Int)):Prop:=rises ws=true∧∀ q∈a0Y ws,q.2.length≠1
structure b1O (ws:List (List Int)):Prop where
 ne:ws≠[]
 l24:ws.length≤24
 wl:∀ u∈ws,u.length≤52
 wx:∀ u∈ws,∀ x∈u,0≤x∧x < 8
 h64:(a0Y ws).length < 64
section
variable {P':Program} {w:World} {K:PySem.W.Frag} {mg:Str→Option Value} {base:Heap} {f:Addr} {fd:FuncData}
abbrev sOf:Stmt:=top 25
def spOf (CC CU:Addr):Sp:=fun vs H Q E=>∃ (c:Addr) (xs:List V) (ws:List (List Int)),vs=[.ref c]∧H c=some (.tup xs)∧Ws H xs ws∧b1O ws ∧
 (∀ i j:Nat,isF ws (some [(i:Int),(j:Int)])→∀ dx H',a0t H H'→H' dx=some (xdO dx (clF i j))→E (.ref CC) (some dx) H') ∧
 (isF ws none→¬ a9y ws→∀ H',a0t H H'→E (.ref CU) none H') ∧
 (isF ws none→a9y ws→∀ p H',a0t H H'→H p=none→PrL H' p (spl 53 ws)→(spl 53 ws).length≤2000→Q (.ref p) H')
theorem scOf:a0o ["code"] ["code"] (a0e sOf):=⟨rfl,rfl,rfl,by decide +kernel,rfl,by decide +kernel,by decide +kernel⟩
theorem ok_of {CC CU:Addr} (F:Fun K "spelling_of" "spelling_of" sOf f fd) (GX:a3i P' w K mg base ["code"] "refuse_clash" (spRX CC) 54) (GL:Fns P' w K mg base ["code"] "is_lean" a6z 54) (GP:Fns P' w K mg base ["words"] "spelled" (b3t K 53) 54) (mU:mg "Unlike"=some (.ref CU)) (eU:Ecl K CU) :
  a1c P' w K mg base (CXF P' w) 55 f fd ["code"] (spOf CC CU):=by
 refine F.okF (k:=54) scOf (fun vs H Q E h=>?_) (fun cdv A outer s H vs Q E hr h=>?_)
 ·obtain ⟨c,xs,ws,rfl,_⟩:=h
  rfl
 obtain ⟨c,xs,ws,rfl,hc,hw,ok,qC,qU,qQ⟩:=h
 have l24:=ok.l24
 refine ⟨_,a0f (a1m (a0m GX.ok hr (by rfl) GX.m GX.kp GX.b .nil a0M (a0a (pv 0) (a0c))))
   (a0f (a0U (a2r (a1q (a0m GL.ok hr (by rfl) GL.m GL.kp GL.b .nil a0L (a0a (pv 0) (a0c))))) (a0i (a1F a0M rfl (by rfl) mU eU (a0a a3n a0c))) (a0x))
   (a0i (a0s (a0m GP.ok hr (by rfl) GP.m GP.kp GP.b .nil a0L (a0a (pv 0) (a0c)))))),?_⟩
 refine ⟨_,rfl,c,xs,ws,rfl,hc,hw,by omega,fun nf H1 s1=>?_,fun i j io dx H' sH hdx=>qC i j io dx H' sH hdx⟩
 refine ⟨_,rfl,c,xs,ws,rfl,s1 _ _ hc,hw.same s1,by omega,fun u hu=>by have:=ok.wl u hu;omega,fun _ _=>ok.h64,fun b H2 s2 hb=>⟨_,rfl,?_⟩⟩
 cases b with
 | false =>
  refine a9X ⟨by show 1≤1000;decide,qU nf (fun z=>?_) _ (s1.trans s2)⟩
  have:=hb.mpr ⟨⟨z.1,nf⟩,z.2⟩
  cases this
 | true =>
  have le:=hb.mp rfl
  have s12:=s1.trans s2
  refine a4p ⟨_,rfl,c,false,xs,ws,rfl,SqT.of (s12 _ _ hc),hw.same s12,pf_of nf,nol_of le.2,ok.ne,l24,fun u hu=>by have:=ok.wl u hu;omega,ok.wx,by omega,fun p H3 s3 hpn hp3 l3=>?_⟩
  refine qQ nf ⟨le.1.1,le.2⟩ p H3 (s12.trans s3) ?_ hp3 ?_
  ·cases hp:H p with
   | none=>rfl
   | some o=>rw [s12 _ _ hp] at hpn;cases hpn
  ·have:tot ws≤24 * 52:=Nat.le_trans (a9u (k:=52) ws ok.wl) (Nat.mul_le_mul_right 52 l24)
   omega
end
end K18
namespace L2
open PySem PySem.Spec PyProof.Rows PySem.W
def ev {α:Type} (lt:Nat→Nat→Bool):KasT α→α
 | .ret a=>a
 | .ask i j k=>ev lt (k (lt i j))
theorem a2o {α β:Type} (lt:Nat→Nat→Bool) (f:α→KasT β):∀ t:KasT α,ev lt (t.bind f)=ev lt (f (ev lt t))
 | .ret _=>rfl
 | .ask i j k=>a2o lt f (k (lt i j))
structure Ord (n:Nat) (lt:Nat→Nat→Bool):Prop where
 tr:∀ i j k,lt i j=true→lt j k=true→lt i k=true
 tot:∀ i j,i < n→j < n→i≠j→lt i j=false→lt j i=true
def Asc (lt:Nat→Nat→Bool) (p:Array Nat) (m:Nat):Prop:=∀ i,i+1 < m→lt (p.getD i 0) (p.getD (i+1) 0)=true
def Dsc (lt:Nat→Nat→Bool) (p:Array Nat) (m:Nat):Prop:=∀ i,i+1 < m→lt (p.getD (i+1) 0) (p.getD i 0)=true
variable {n:Nat} {lt:Nat→Nat→Bool} {p:Array Nat} {m:Nat}
theorem Pm.size (h:Pm n p):p.size=n:=by
 have e:=h.size_eq
 simpa using e
theorem a1O (p:Array Nat) (i:Nat):p.getD i 0=(p[i]?).getD 0:=by simp [Array.getD];split <;> simp [*]
theorem Pm.inj (h:Pm n p) {i j:Nat} (hi:i < n) (hj:j < n) (ne:i≠j):p.getD i 0≠p.getD j 0:=by
 have sz:=h.size
 have nd:p.toList.Nodup:=by
  have q:p.toList.Perm (List.range n):=by
   have:=Array.perm_iff_toList_perm.mp h
   simpa using this
  exact q.nodup_iff.mpr List.nodup_range
 have e1:p.getD i 0=p.toList[i]'(by simpa [sz] using hi):=by simp [Array.getD,sz,hi]
 have e2:p.getD j 0=p.toList[j]'(by simpa [sz] using hj):=by simp [Array.getD,sz,hj]
 rw [e1,e2]
 intro z
 exact ne ((List.getElem_inj nd).mp z)
theorem Asc.all (o:Ord n lt) (h:Asc lt p m):∀ j i,i < j→j < m→lt (p.getD i 0) (p.getD j 0)=true
 | 0,i,hi,_=>absurd hi (Nat.not_lt_zero _)
 | j+1,i,hi,hj=>by
  by_cases e:i=j
  ·subst e;exact h i hj
  ·exact o.tr _ _ _ (Asc.all o h j i (by omega) (by omega)) (h j hj)
theorem a9z (o:Ord n lt) (h:Pm n p):∀ f m,1≤m→m+f≤n→Asc lt p m→m≤ev lt (kas_asc p f m)∧ev lt (kas_asc p f m)≤m+f∧Asc lt p (ev lt (kas_asc p f m))∧(ev lt (kas_asc p f m) < m+f→lt (p.getD (ev lt (kas_asc p f m)) 0) (p.getD (ev lt (kas_asc p f m) - 1) 0)=true)
 | 0,m,_,_,a=>⟨Nat.le_refl _,Nat.le_refl _,a,fun z=>absurd z (Nat.lt_irrefl _)⟩
 | f+1,m,h1,h2,a=>by
  have e:ev lt (kas_asc p (f+1) m)=ev lt (if lt (p.getD m 0) (p.getD (m - 1) 0)=true then .ret m else kas_asc p f (m+1)):=rfl
  cases hb:lt (p.getD m 0) (p.getD (m - 1) 0) with
  | true =>
   rw [hb,if_pos rfl] at e
   have e':ev lt (kas_asc p (f+1) m)=m:=e
   rw [e']
   exact ⟨Nat.le_refl _,by omega,a,fun _=>hb⟩
  | false =>
   rw [hb,if_neg (by decide)] at e
   rw [e]
   have t:=o.tot _ _ (h.lt (by omega) m) (h.lt (by omega) (m - 1)) (h.inj (i:=m) (j:=m - 1) (by omega) (by omega) (by omega)) hb
   have a':Asc lt p (m+1):=fun i hi=>by
    by_cases z:i+1=m
    ·have z2:i=m - 1:=by omega
     subst z2
     have z3:m - 1+1=m:=by omega
     rw [z3];exact t
    ·exact a i (by omega)
   have ih:=a9z o h f (m+1) (by omega) (by omega) a'
   exact ⟨by omega,by omega,ih.2.2.1,fun z=>ih.2.2.2 (by omega)⟩
theorem a9A (o:Ord n lt) (h:Pm n p):∀ f m,2≤m→m+f≤n→Dsc lt p m→∃ r,ev lt (kas_desc f p m 0)=(p,r,0)∧m≤r∧r≤m+f∧Dsc lt p r
 | 0,m,_,_,a=>⟨m,rfl,Nat.le_refl _,Nat.le_refl _,a⟩
 | f+1,m,h1,h2,a=>by
  have e:ev lt (kas_desc (f+1) p m 0)=ev lt (if lt (p.getD m 0) (p.getD (m - 1) 0)=true then (if 0 > 0 then kas_desc f (kas_rev p (m - (0+1)) m) (m+1) 0 else kas_desc f p (m+1) 0)
   else .ask (p.getD (m - 1) 0) (p.getD m 0) fun d=>if d=true then .ret (p,m,0) else kas_desc f p (m+1) (0+1)):=rfl
  cases hb:lt (p.getD m 0) (p.getD (m - 1) 0) with
  | true =>
   rw [hb,if_pos rfl,if_neg (by omega)] at e
   have a':Dsc lt p (m+1):=fun i hi=>by
    by_cases z:i+1=m
    ·have z2:i=m - 1:=by omega
     subst z2
     have z3:m - 1+1=m:=by omega
     rw [z3];exact hb
    ·exact a i (by omega)
   obtain ⟨r,er,r1,r2,r3⟩:=a9A o h f (m+1) (by omega) (by omega) a'
   exact ⟨r,by rw [e,er],by omega,by omega,r3⟩
  | false =>
   rw [hb,if_neg (by decide)] at e
   have t:=o.tot _ _ (h.lt (by omega) m) (h.lt (by omega) (m - 1)) (h.inj (i:=m) (j:=m - 1) (by omega) (by omega) (by omega)) hb
   have e2:ev lt (kas_desc (f+1) p m 0)=ev lt (if lt (p.getD (m - 1) 0) (p.getD m 0)=true then KasT.ret (p,m,0) else kas_desc f p (m+1) (0+1)):=e
   rw [t,if_pos rfl] at e2
   exact ⟨m,e2,Nat.le_refl _,by omega,a⟩
theorem a6G (h:Pm n p) (hm:m≤n) (i:Nat):(kas_rev p 0 m).getD i 0=if i < m then p.getD (m - 1 - i) 0 else p.getD i 0:=by
 rw [a1O,a1O,a1O]
 unfold kas_rev
 rw [getElem?_mirror_all (by rw [h.size];exact hm)]
 by_cases z:i < m
 ·rw [if_pos ⟨Nat.zero_le _,z⟩,if_pos z,Nat.zero_add]
 ·rw [if_neg (by omega),if_neg z]
theorem b1d (o:Ord n lt) (h:Pm n p) (hn:1≤n):∃ m q,ev lt (kas_count n p)=(m,q)∧Pm n q∧1≤m∧m≤n∧Asc lt q m:=by
 unfold kas_count
 rw [a2o]
 obtain ⟨a1,a2,a3,a4⟩:=a9z o h (n - 1) 1 (Nat.le_refl _) (by omega) (fun i hi=>absurd hi (by omega))
 generalize ev lt (kas_asc p (n - 1) 1)=r at a1 a2 a3 a4
 by_cases e:r=n
 ·subst e
  rw [if_pos (by simp)]
  exact ⟨r,p,rfl,h,a1,by omega,a3⟩
 rw [if_neg (by simpa using e)]
 have part:∀ q,Pm n q→r=1→lt (q.getD 1 0) (q.getD 0 0)=true→∃ m q',ev lt (kas_descPart r n q)=(m,q')∧Pm n q'∧1≤m∧m≤n∧Asc lt q' m:=by
  intro q hq er hl
  subst er
  unfold kas_descPart
  rw [a2o]
  obtain ⟨r,er,r1,r2,r3⟩:=a9A o hq (n - (1+1)) (1+1) (by omega) (by omega) (fun i hi=>by
   have z:i=0:=by omega
   subst z;exact hl)
  rw [er]
  show ∃ m q',ev lt (if (0:Nat) > 0 then _ else kas_tail3 r n q)=(m,q')∧_
  rw [if_neg (by omega)]
  unfold kas_tail3
  rw [a2o]
  have hrn:r≤n:=by omega
  have hr:=hq.rev 0 r
  have ar:Asc lt (kas_rev q 0 r) r:=fun i hi=>by
   rw [a6G hq hrn,a6G hq hrn,if_pos (by omega),if_pos (by omega)]
   have z:=r3 (r - 1 - (i+1)) (by omega)
   have z2:r - 1 - (i+1)+1=r - 1 - i:=by omega
   rw [z2] at z
   exact z
  obtain ⟨b1,b2,b3,_⟩:=a9z o hr (n - r) r (by omega) (by omega) ar
  exact ⟨_,_,rfl,hr,by omega,by omega,b3⟩
 by_cases e1:r > 1
 ·rw [if_pos e1]
  show ∃ m q,ev lt (if lt (p.getD 0 0) (p.getD (r - 1) 0)=true then .ret (r,p) else _)=(m,q)∧_
  rw [a3.all o (r - 1) 0 (by omega) (by omega),if_pos rfl]
  exact ⟨r,p,rfl,h,by omega,by omega,a3⟩
 ·rw [if_neg e1]
  have er:r=1:=by omega
  have z:=a4 (by omega)
  rw [er] at z
  exact part p h er z
theorem a4b (o:Ord n lt) (k:Nat) (a:Asc lt p k):∀ f l r,l≤r→r≤k→r≤l+f→(∀ i,i < l→lt (p.getD k 0) (p.getD i 0)=false)→(∀ i,r≤i→i < k→lt (p.getD k 0) (p.getD i 0)=true) →
  ev lt (kas_place p k f l r)≤k∧(∀ i,i < ev lt (kas_place p k f l r)→lt (p.getD k 0) (p.getD i 0)=false)∧∀ i,ev lt (kas_place p k f l r)≤i→i < k→lt (p.getD k 0) (p.getD i 0)=true
 | 0,l,r,h1,h2,h3,hl,hr=>by
  have e:l=r:=by omega
  subst e
  exact ⟨h2,hl,hr⟩
 | f+1,l,r,h1,h2,h3,hl,hr=>by
  by_cases z:l ≥ r
  ·have e:ev lt (kas_place p k (f+1) l r)=l:=by unfold kas_place;rw [if_pos z];rfl
   rw [e]
   exact ⟨by omega,hl,fun i h h'=>hr i (by omega) h'⟩
  ·have e:ev lt (kas_place p k (f+1) l r)=ev lt (if lt (p.getD k 0) (p.getD ((l+r) / 2) 0)=true then kas_place p k f l ((l+r) / 2) else kas_place p k f ((l+r) / 2+1) r):=by
    conv=>lhs;unfold kas_place
    rw [if_neg z];rfl
   have m1:l≤(l+r) / 2:=by omega
   have m2:(l+r) / 2 < r:=by omega
   rw [e]
   cases hb:lt (p.getD k 0) (p.getD ((l+r) / 2) 0) with
   | true =>
    rw [if_pos rfl]
    refine a4b o k a f l ((l+r) / 2) m1 (by omega) (by omega) hl fun i h h'=>?_
    by_cases y:i=(l+r) / 2
    ·subst y;exact hb
    ·exact o.tr _ _ _ hb (a.all o i _ (by omega) h')
   | false =>
    rw [if_neg (by decide)]
    refine a4b o k a f ((l+r) / 2+1) r (by omega) h2 (by omega) (fun i h=>?_) hr
    by_cases y:i=(l+r) / 2
    ·subst y;exact hb
    ·cases hc:lt (p.getD k 0) (p.getD i 0) with
     | false=>rfl
     | true=>rw [o.tr _ _ _ hc (a.all o ((l+r) / 2) i (by omega) (by omega))] at hb;cases hb
theorem a6H (h:Pm n p) {k l:Nat} (hk:k < n) (hl:l≤k) (i:Nat):(bubble p k (k - l)).getD i 0=if i=l then p.getD k 0 else if l < i∧i≤k then p.getD (i - 1) 0 else p.getD i 0:=by
 rw [a1O,a1O,a1O,a1O,getElem?_bubble (by rw [h.size];exact hk) (k - l) (by omega)]
 have e:k - (k - l)=l:=by omega
 rw [e]
 repeat' split
 all_goals rfl
theorem b1P (o:Ord n lt):∀ f p k,Pm n p→1≤k→k+f=n→Asc lt p k→Pm n (ev lt (kas_bin f p k))∧Asc lt (ev lt (kas_bin f p k)) n
 | 0,p,k,h,_,h2,a=>by
  have e:k=n:=by omega
  subst e
  exact ⟨h,a⟩
 | f+1,p,k,h,h1,h2,a=>by
  have e:ev lt (kas_bin (f+1) p k)=ev lt (kas_bin f (bubble p k (k - ev lt (kas_place p k k 0 k))) (k+1)):=by
   conv=>lhs;unfold kas_bin
   rw [a2o]
  rw [e]
  obtain ⟨b1,b2,b3⟩:=a4b o k a k 0 k (Nat.zero_le _) (Nat.le_refl _) (by omega) (fun i hi=>absurd hi (Nat.not_lt_zero _)) (fun i hi hi'=>absurd hi' (by omega))
  generalize ev lt (kas_place p k k 0 k)=l at b1 b2 b3
  have hb:Pm n (bubble p k (k - l)):=(bubble_perm p k (k - l)).trans h
  refine b1P o f _ (k+1) hb (by omega) (by omega) fun i hi=>?_
  rw [a6H h (by omega) b1,a6H h (by omega) b1]
  have low:∀ i,i < l→lt (p.getD i 0) (p.getD k 0)=true:=fun i hi=>o.tot _ _ (h.lt (by omega) k) (h.lt (by omega) i) (h.inj (i:=k) (j:=i) (by omega) (by omega) (by omega)) (b2 i hi)
  by_cases c1:i+1 < l
  ·rw [if_neg (by omega),if_neg (by omega),if_neg (by omega),if_neg (by omega)]
   exact a i (by omega)
  by_cases c2:i+1=l
  ·rw [if_neg (by omega),if_neg (by omega),if_pos c2]
   exact low i (by omega)
  by_cases c3:i=l
  ·rw [if_pos c3,if_neg (by omega),if_pos (by omega)]
   have z:i+1 - 1=i:=by omega
   rw [z]
   exact b3 i (by omega) (by omega)
  ·rw [if_neg c3,if_pos (by omega),if_neg (by omega),if_pos (by omega)]
   have z:=a (i - 1) (by omega)
   have z2:i - 1+1=i:=by omega
   have z3:i+1 - 1=i:=by omega
   rw [z2] at z
   rw [z3]
   exact z
theorem b3a (o:Ord n lt) (hn:1≤n):Pm n (ev lt (kas_sort n))∧Asc lt (ev lt (kas_sort n)) n:=by
 unfold kas_sort
 rw [a2o]
 obtain ⟨m,q,e,hq,m1,m2,a⟩:=b1d o (p:=(List.range n).toArray) (Array.Perm.refl _) hn
 rw [e]
 show Pm n (ev lt (if m < n then kas_bin (n - max m 1) q (max m 1) else .ret q))∧Asc lt (ev lt (if m < n then kas_bin (n - max m 1) q (max m 1) else .ret q)) n
 have mm:max m 1=m:=by omega
 rw [mm]
 by_cases c:m < n
 ·rw [if_pos c]
  exact b1P o (n - m) q m hq m1 (by omega) a
 ·rw [if_neg c]
  have e:m=n:=by omega
  subst e
  exact ⟨hq,a⟩
theorem a6I {α:Type} {n:Nat} {P:α→Prop} {lt:Nat→Nat→Bool} {cmp:Nat→Nat→(Bool→Shared→Prop)→Shared→Prop} {I:Shared→Prop} (hc:∀ i j C s,I s→i < n→j < n→(∀ s',I s'→C (lt i j) s')→cmp i j C s) :
  ∀ {t:KasT α} {s:Shared},Lf n P t→I s→t.kasWp cmp (fun a s'=>a=ev lt t∧I s') s
 | .ret a,s,h,hI=>⟨rfl,hI⟩
 | .ask i j k,s,⟨h1,h2,h3⟩,hI=>hc i j _ s hI h1 h2 fun s' hI'=>a6I hc (h3 (lt i j)) hI'
section
variable {prog:Program} {w:World} {A:Around} {E:Value→Shared→Prop} {s:Shared}
theorem b3b {a:Addr} {vs:List Value} {n:Nat} {P:PySem.Fin→Shared→Prop} {κ:SortKind} {lt:Nat→Nat→Bool} (o:Ord vs.length lt) (ho:s.heap.get? a=some (seqObj "list" vs.toArray n)) (h64:vs.length < 64)
  (hk:2≤vs.length→∀ h1:Heap,(∀ b o,b≠a→s.heap.get? b=some o→h1.get? b=some o)→∀ Q:SortKind→Shared→Prop,Q κ { s with heap:=h1 }→wpAny (model prog w) A (keyKind' vs.toArray) Q E { s with heap:=h1 })
  (hlt:∀ h1:Heap,(∀ b o,b≠a→s.heap.get? b=some o→h1.get? b=some o)→∀ i j,i < vs.length→j < vs.length→∀ (C:Bool→Shared→Prop) (E':Value→Shared→Prop),C (lt i j) { s with heap:=h1 }→wpAny (model prog w) A (keyLt' κ (vs.getD i Value.none) (vs.getD j Value.none)) C E' { s with heap:=h1 })
  (h:∀ (h':Heap) (p:Array Nat) (c:Nat),Pm vs.length p→Asc lt p vs.length→h'.get? a=some (seqObj "list" (p.toList.map fun i=>vs.getD i Value.none).toArray c)→(∀ b o,b≠a→s.heap.get? b=some o→h'.get? b=some o)→P (.done (.ret .none)) { s with heap:=h' }) :
  wpAny (model prog w) A (Builtin.«list.sort» ⟨[.ref a],[]⟩) P E s:=by
 have ha:a < s.heap.objs.size:=Heap.lt_size ho
 obtain ⟨e1,ho1⟩:∃ e1,(s.heap.update a (Obj.mapSeq fun _=>(#[]:Array Value))).get? a=some (seqObj "list" #[] e1):=⟨_,get?_update_seq ho fun _=>#[]⟩
 rw [list_sort_plain]
 refine wpAny_bind (listItems_at ho rfl (wpAny_bind (listUpdate_at ho rfl ?_ (by rw [List.size_toArray,sizeLine_eq];omega) (Nat.zero_le _))))
 refine wpAny_bind (seqEpoch_at ho1 rfl (wpAny_bind (wpAny_newTuple ?_ (by show vs.length≤_;rw [sizeLine_eq];omega))))
 refine wpAny_bind (wpAny_newList ?_ (Nat.zero_le _))
 refine wpAny_holding ?_
 have k1:∀ b o,b≠a→s.heap.get? b=some o→(((s.heap.update a (Obj.mapSeq fun _=>(#[]:Array Value))).push (seqObj "tuple" vs.toArray 0)).push (seqObj "list" #[] 0)).get? b=some o:=fun b o hb e =>
  Heap.get?_push_of_some _ (Heap.get?_push_of_some _ ((Heap.get?_update_ne _ _ _ _ hb).trans e))
 have ho6:(((s.heap.update a (Obj.mapSeq fun _=>(#[]:Array Value))).push (seqObj "tuple" vs.toArray 0)).push (seqObj "list" #[] 0)).get? a=some (seqObj "list" #[] e1):=Heap.get?_push_of_some _ (Heap.get?_push_of_some _ ho1)
 show wpAny (model prog w) A _ P E { s with heap:=((s.heap.update a (Obj.mapSeq fun _=>(#[]:Array Value))).push (seqObj "tuple" vs.toArray 0)).push (seqObj "list" #[] 0) }
 generalize (((s.heap.update a (Obj.mapSeq fun _=>(#[]:Array Value))).push (seqObj "tuple" vs.toArray 0)).push (seqObj "list" #[] 0))=h1 at k1 ho6 ⊢
 dsimp only
 have last:∀ (out:List Value),∃ c,(h1.update a (Obj.mapSeq fun _=>out.toArray)).get? a=some (seqObj "list" out.toArray c)∧(∀ b o,b≠a→s.heap.get? b=some o→(h1.update a (Obj.mapSeq fun _=>out.toArray)).get? b=some o):=fun out =>
  ⟨_,get?_update_seq ho6 fun _=>out.toArray,fun b o hb e=>(Heap.get?_update_ne _ _ _ _ hb).trans (k1 b o hb e)⟩
 by_cases h2:vs.toArray.size < 2
 ·rw [if_pos h2,if_pos h2]
  refine wpAny_bind (wpAny_pure ?_)
  rw [StateT.run_pure]
  refine wpAny_bind (wpAny_pure ?_)
  dsimp only
  refine wpAny_bind (seqEpoch_at ho6 rfl ?_)
  have e2:Array.map (fun x=>x.snd) (arrOf (SortSt.mk' general' (vs.toArray.zip vs.toArray) #[] 7 none))=vs.toArray:=by
   show Array.map (fun x=>x.snd) (vs.toArray.zip vs.toArray)=vs.toArray
   apply Array.toList_inj.mp
   simp [List.map_snd_zip]
  rw [e2]
  rw [List.size_toArray] at h2
  have er:((List.range vs.length).toArray.toList.map fun i=>vs.getD i Value.none)=vs:=by
   refine List.ext_getElem (by simp) fun i h1 h2=>?_
   simp [List.getD_eq_getElem?_getD,List.getElem?_eq_getElem h2]
  obtain ⟨c,hc,kk⟩:=last vs
  refine wpAny_bind (listUpdate_at ho6 rfl ?_ (Nat.zero_le _) (by rw [List.size_toArray,sizeLine_eq];omega))
  simp only [bne_self_eq_false,Bool.false_eq_true,if_false]
  exact wpAny_pure (h _ (List.range vs.length).toArray c (Array.Perm.refl _) (fun i hi=>absurd hi (by omega)) (by rw [er];exact hc) kk)
 ·rw [if_neg h2,if_neg h2]
  rw [List.size_toArray] at h2
  refine wpAny_bind (hk (by omega) h1 k1 _ ?_)
  have tree:(kas_sort vs.length).kasWp (kas_ask prog w A κ vs) (fun p s'=>p=ev lt (kas_sort vs.length)∧s'={ s with heap:=h1 }) { s with heap:=h1 }:=by
   refine a6I (I:=fun s'=>s'={ s with heap:=h1 }) (fun i j C s' hI hi hj hC=>?_) (a8W (by omega)) rfl
   subst hI
   exact hlt h1 k1 i j hi hj C _ (hC _ rfl)
  refine wpAny_bind (wpAny_mono (kat_run (Q:=fun st' s'=>∃ p:Array Nat,arrOf st'=p.map (kas_item (vs.toArray.zip vs.toArray))∧failedOf st'=none∧p=ev lt (kas_sort vs.length)∧s'={ s with heap:=h1 }) rfl (by omega) h64 (fun p' st' s' a1 a2 a3 a4=>⟨p',a2,a3,a4.1,a4.2⟩) tree) ?_ fun _ _ e=>e)
  rintro ⟨⟨⟩,st'⟩ s' ⟨p,har,hf,hp,rfl⟩
  dsimp only
  have hout:=kat_snds rfl har
  obtain ⟨pm,as⟩:=b3a o (by omega)
  rw [←hp] at pm as
  have po:=a6p pm rfl
  obtain ⟨c,hc,kk⟩:=last (p.toList.map fun i=>vs.getD i Value.none)
  refine wpAny_bind (seqEpoch_at ho6 rfl ?_)
  rw [hout]
  refine wpAny_bind (listUpdate_at ho6 rfl ?_ (Nat.zero_le _) (by rw [List.size_toArray,po.length_eq,sizeLine_eq];omega))
  rw [hf]
  simp only [bne_self_eq_false,Bool.false_eq_true,if_false]
  exact wpAny_pure (h _ p c pm as hc kk)
def b1e (h:Heap) (v:Value) (ns:List Int):Prop:=∃ (b:Addr) (items:Array Value),v=.ref b∧IsTup h b items∧IntsAre items.toList ns
theorem b1e.keep {h h':Heap} {v:Value} {ns:List Int} {a:Addr} {o:Obj} (t:b1e h v ns) (ho:h.get? a=some o) (hc:o.cls=.type "list") (k:∀ b o,b≠a→h.get? b=some o→h'.get? b=some o):b1e h' v ns:=by
 obtain ⟨b,items,rfl,⟨ob,hb,hcb,n,hd⟩,hi⟩:=t
 have ne:b≠a:=fun z=>by rw [z,ho] at hb;cases hb;rw [hc] at hcb;exact absurd (Value.type.inj hcb) (by decide)
 exact ⟨b,items,rfl,⟨ob,k b ob ne hb,hcb,n,hd⟩,hi⟩
end
def nokey:Keyed:=(Value.none,Value.none)
def el (xs:Array Keyed) (i:Nat):Keyed:=xs.getD i nokey
structure SO (less:Keyed→Keyed→Bool) (S:Keyed→Prop):Prop where
 asym:∀ x y,less x y=true→less y x=false
 tr:∀ x y z,less y x=false→less z y=false→less z x=false
section
variable {prog:Program} {w:World} {A:Around} {E:Value→Shared→Prop} {s:Shared}
variable {κ:SortKind} {less:Keyed→Keyed→Bool} {S:Keyed→Prop}
def Bey (less:Keyed→Keyed→Bool) (left:Bool) (key:Keyed) (arr:Array Keyed) (base i:Nat):Bool:=if left then less (el arr (base+i)) key else !less key (el arr (base+i))
end
abbrev Lt (less:Keyed→Keyed→Bool) (x y:Keyed):Prop:=less y x=false
structure MC (less:Keyed→Keyed→Bool) (S:Keyed→Prop) (a b:Array Keyed):Prop where
 so:SO less S
 sa:∀ i j,i < j→j < a.size→Lt less (el a i) (el a j)
 sb:∀ i j,i < j→j < b.size→Lt less (el b i) (el b j)
 xa:∀ i,i < a.size→S (el a i)
 xb:∀ i,i < b.size→S (el b i)
 fst:less (el b 0) (el a 0)=true
 lst:∀ j,j < b.size→less (el b j) (el a (a.size - 1))=true
 na:1≤a.size
 nb:1≤b.size
variable {less:Keyed→Keyed→Bool} {S:Keyed→Prop} {a b out:Array Keyed} {ia ib:Nat}
structure Keep1 (st st':SortSt):Prop where
 k:kindOf st'=kindOf st
 a:arrOf st'=arrOf st
 p:pendingOf st'=pendingOf st
 f:failedOf st'=failedOf st
section
variable {prog:Program} {w:World} {A:Around} {E:Value→Shared→Prop} {s:Shared} {κ:SortKind}
end
theorem a3d:∀ u:List Int,HT.a1b u u=false
 | []=>rfl
 | x :: u=>by rw [HT.a1e,if_pos rfl];exact a3d u
theorem a6J:∀ u v w:List Int,HT.a1b u v=true→HT.a1b v w=true→HT.a1b u w=true
 | [],[],w,h,_=>by cases h
 | [],_ :: _,[],_,h=>by cases h
 | [],_ :: _,_ :: _,_,_=>rfl
 | _ :: _,[],w,h,_=>by cases h
 | _ :: _,_ :: _,[],_,h=>by cases h
 | x :: u,y :: v,z :: w,h1,h2=>by
  rw [HT.a1e] at h1 h2 ⊢
  by_cases e1:x=y
  ·subst e1
   rw [if_pos rfl] at h1
   by_cases e2:x=z
   ·subst e2
    rw [if_pos rfl] at h2 ⊢
    exact a6J u v w h1 h2
   ·rw [if_neg e2] at h2 ⊢;exact h2
  ·rw [if_neg e1] at h1
   have l1:=of_decide_eq_true h1
   by_cases e2:y=z
   ·subst e2
    rw [if_neg e1];exact h1
   ·rw [if_neg e2] at h2
    have l2:=of_decide_eq_true h2
    rw [if_neg (by omega)]
    exact decide_eq_true (by omega)
theorem a5b:∀ u v:List Int,u≠v→HT.a1b u v=false→HT.a1b v u=true
 | [],[],h,_=>absurd rfl h
 | [],_ :: _,_,h=>by cases h
 | _ :: _,[],_,_=>rfl
 | x :: u,y :: v,h,h1=>by
  rw [HT.a1e] at h1 ⊢
  by_cases e:x=y
  ·subst e
   rw [if_pos rfl] at h1 ⊢
   exact a5b u v (fun z=>h (by rw [z])) h1
  ·rw [if_neg e] at h1
   rw [if_neg (Ne.symm e)]
   have:=of_decide_eq_false h1
   exact decide_eq_true (by omega)
section
variable {prog:Program} {w:World} {A:Around} {E:Value→Shared→Prop} {s:Shared}
theorem a5c {n:Nat} {lt:Nat→Nat→Bool} {p:Array Nat} {α:Type} {f:Nat→α} {R:α→α→Prop} (o:Ord n lt) (pm:Pm n p) (a:Asc lt p n) (hR:∀ i j,lt i j=true→R (f i) (f j)):(p.toList.map f).Pairwise R:=by
 rw [List.pairwise_map,List.pairwise_iff_getElem]
 intro i j hi hj hij
 have sz:=pm.size
 simp only [Array.length_toList] at hi hj
 have z:=a.all o j i hij (by omega)
 have e1:p.getD i 0=p[i]:=by simp [Array.getD,hi]
 have e2:p.getD j 0=p[j]:=by simp [Array.getD,hj]
 rw [e1,e2] at z
 simpa using hR _ _ z
end
theorem Paired.pick {α β:Type} {R:α→β→Prop} {xs:List α} {ys:List β} (h:Paired R xs ys) (d:α) (e:β):∀ is:List Nat,(∀ i∈is,i < xs.length)→Paired R (is.map fun i=>xs.getD i d) (is.map fun i=>ys.getD i e)
 | [],_=>.nil
 | i :: is,hi=>by
  have h1:=hi i (.head _)
  have hx:xs[i]?=some xs[i]:=List.getElem?_eq_getElem h1
  obtain ⟨y,hy,r⟩:=Paired.right_of h i _ hx
  have e1:xs.getD i d=xs[i]:=by rw [List.getD_eq_getElem?_getD,hx];rfl
  have e2:ys.getD i e=y:=by rw [List.getD_eq_getElem?_getD,hy];rfl
  refine .cons ?_ (Paired.pick h d e is fun j hj=>hi j (.tail _ hj))
  show R (xs.getD i d) (ys.getD i e)
  rw [e1,e2];exact r
theorem Pm.mem {n:Nat} {p:Array Nat} (h:Pm n p):∀ i∈p.toList,i < n:=fun i hi=>by
 have q:p.toList.Perm (List.range n):=by
  have:=Array.perm_iff_toList_perm.mp h
  simpa using this
 simpa using q.mem_iff.mp hi
theorem a9B {α:Type} {n:Nat} {p:Array Nat} {xs:List α} (d:α) (h:Pm n p) (hn:xs.length=n):(p.toList.map fun i=>xs.getD i d).Perm xs:=by
 have e:(List.range n).map (fun i=>xs.getD i d)=xs:=by
  subst hn
  refine List.ext_getElem (by simp) fun i h1 h2=>?_
  simp [List.getD_eq_getElem?_getD,List.getElem?_eq_getElem h2]
 have q:p.toList.Perm (List.range n):=by
  have:=Array.perm_iff_toList_perm.mp h
  simpa using this
 have q2:=q.map fun i=>xs.getD i d
 rw [e] at q2
 exact q2
theorem a9C {ns:List Int} {us:List Value} (r:a0D (ns.map V.int) us):IntsAre us ns:=by
 induction ns generalizing us with
 | nil=>cases r;exact .nil
 | cons n ns ih =>
  cases r with
  | cons r rr =>
   obtain ⟨t,rfl⟩:=r
   exact .cons _ _ (ih rr)
theorem a6K:∀ {l:List Value} {ns ms:List Int},IntsAre l ns→IntsAre l ms→ns=ms
 | _,_,_,.nil,.nil=>rfl
 | _,_,_,.cons _ _ h,.cons _ _ h2=>by rw [a6K h h2]
theorem a4c:∀ {l:List Value} {ns:List Int} {j:Nat} {n:Int},IntsAre l ns→ns[j]?=some n→∃ t,l[j]?=some (.int n t)
 | _,_,j,n,.nil,h=>by simp at h
 | _,_,0,n,.cons m t _,h=>by simp at h;subst h;exact ⟨t,rfl⟩
 | _,_,j+1,n,.cons m t r,h=>by
  obtain ⟨t',e⟩:=a4c r (by simpa using h)
  exact ⟨t',by simpa using e⟩
theorem b1e.inj {h:Heap} {v:Value} {ns ms:List Int} (t1:b1e h v ns) (t2:b1e h v ms):ns=ms:=by
 obtain ⟨b,items,rfl,⟨o,ho,hc,n,hd⟩,hi⟩:=t1
 obtain ⟨b2,items2,e,⟨o2,ho2,hc2,n2,hd2⟩,hi2⟩:=t2
 cases e
 rw [ho] at ho2
 cases ho2
 rw [hd] at hd2
 cases hd2
 exact a6K hi hi2
section
variable {prog:Program} {w:World} {A:Around} {E:Value→Shared→Prop} {s:Shared}
end
def PrN (h:Heap) (v:Value) (q:Int × List Int):Prop:=∃ (b:Addr) (items:Array Value) (t:Tok) (u:Value),v=.ref b∧IsTup h b items∧items.toList=[.int q.1 t,u]∧b1e h u q.2
theorem PrN.keep {h h':Heap} {v:Value} {q:Int × List Int} {a:Addr} {o:Obj} (t:PrN h v q) (ho:h.get? a=some o) (hc:o.cls=.type "list") (k:∀ b o,b≠a→h.get? b=some o→h'.get? b=some o):PrN h' v q:=by
 obtain ⟨b,items,t,u,rfl,⟨ob,hb,hcb,n,hd⟩,hi,hu⟩:=t
 have ne:b≠a:=fun z=>by rw [z,ho] at hb;cases hb;rw [hc] at hcb;exact absurd (Value.type.inj hcb) (by decide)
 exact ⟨b,items,t,u,rfl,⟨ob,k b ob ne hb,hcb,n,hd⟩,hi,hu.keep ho hc k⟩
theorem PrN.keep2 {h h':Heap} {v:Value} {q:Int × List Int} (t:PrN h v q) (k:∀ b o,h.get? b=some o→h'.get? b=some o):PrN h' v q:=by
 obtain ⟨b,items,t,u,rfl,⟨ob,hb,hcb,n,hd⟩,hi,b2,it2,rfl,⟨ob2,hb2,hcb2,n2,hd2⟩,hi2⟩:=t
 exact ⟨b,items,t,_,rfl,⟨ob,k b ob hb,hcb,n,hd⟩,hi,b2,it2,rfl,⟨ob2,k b2 ob2 hb2,hcb2,n2,hd2⟩,hi2⟩
def a4d (p q:Int × List Int):Bool:=if p.1=q.1 then HT.a1b p.2 q.2 else decide (p.1 < q.1)
theorem a6L (p:Int × List Int):a4d p p=false:=by unfold a4d;rw [if_pos rfl];exact a3d _
theorem a9D (p q r:Int × List Int) (h1:a4d p q=true) (h2:a4d q r=true):a4d p r=true:=by
 unfold a4d at *
 by_cases a:p.1=q.1
 ·rw [if_pos a] at h1
  by_cases b:q.1=r.1
  ·rw [if_pos b] at h2
   rw [if_pos (a.trans b)]
   exact a6J _ _ _ h1 h2
  ·rw [if_neg b] at h2
   rw [if_neg (by rw [a];exact b),a]
   exact h2
 ·rw [if_neg a] at h1
  have h1:=of_decide_eq_true h1
  by_cases b:q.1=r.1
  ·rw [←b,if_neg a]
   exact decide_eq_true h1
  ·rw [if_neg b] at h2
   have h2:=of_decide_eq_true h2
   rw [if_neg (by omega)]
   exact decide_eq_true (by omega)
theorem b1f (p q:Int × List Int) (ne:p≠q) (h:a4d p q=false):a4d q p=true:=by
 unfold a4d at *
 by_cases a:p.1=q.1
 ·rw [if_pos a] at h
  rw [if_pos a.symm]
  exact a5b _ _ (fun z=>ne (Prod.ext a z)) h
 ·rw [if_neg a] at h
  rw [if_neg (fun z=>a z.symm)]
  have h:=of_decide_eq_false h
  exact decide_eq_true (by omega)
abbrev LxP (p q:Int × List Int):Prop:=a4d p q=true
def ltKP (ks:List (Int × List Int)) (i j:Nat):Bool:=a4d (ks.getD i (0,[])) (ks.getD j (0,[]))
theorem ordKP {ks:List (Int × List Int)} (nd:ks.Nodup):Ord ks.length (ltKP ks) where
 tr:=fun i j k=>a9D _ _ _
 tot:=fun i j hi hj ne h=>by
  refine b1f _ _ (fun z=>ne ?_) h
  rw [List.getD_eq_getElem?_getD,List.getD_eq_getElem?_getD,List.getElem?_eq_getElem hi,List.getElem?_eq_getElem hj] at z
  exact (List.getElem_inj nd).mp z
section
variable {prog:Program} {w:World} {A:Around} {E:Value→Shared→Prop} {s:Shared}
theorem b3c {x y:Value} {ns ms:List Int} (hx:b1e s.heap x ns) (hy:b1e s.heap y ms) (hu:A.units+1 < cLine):SeqAt.EqAt A s x y (decide (ns=ms)):=by
 have hx0:=hx
 have hy0:=hy
 obtain ⟨a,items,rfl,ht,hi⟩:=hx
 obtain ⟨b,items2,rfl,ht2,hj⟩:=hy
 by_cases z:a=b
 ·subst z
  rw [decide_eq_true (hx0.inj hy0)]
  exact SeqAt.EqAt.same _
 ·have l1:=hi.length
  have l2:=hj.length
  rw [Array.length_toList] at l1 l2
  refine SeqAt.EqAt.of_refs z ?_
  have q:=SeqAt.RcAt.tuples (A:=A) (s:=s) (e:=fun j=>match ns[j]?,ms[j]? with | some d,some e=>decide (d=e) | _,_=>true) ht ht2 (by omega) (fun j h1 h2=>by
   obtain ⟨t1,e1⟩:=a4c hi (List.getElem?_eq_getElem (show j < ns.length by omega))
   obtain ⟨t2,e2⟩:=a4c hj (List.getElem?_eq_getElem (show j < ms.length by omega))
   have f1:items[j]=.int ns[j] t1:=by
    have:=(List.getElem?_eq_some_iff.mp e1).2
    simpa using this
   have f2:items2[j]=.int ms[j] t2:=by
    have:=(List.getElem?_eq_some_iff.mp e2).2
    simpa using this
   rw [f1,f2]
   have g:=SeqAt.EqAt.int_int (A:=A.in1) (s:=s) ns[j] t1 ms[j] t2
   rw [Bool.beq_eq_decide_eq] at g
   simp only [List.getElem?_eq_getElem (show j < ns.length by omega),List.getElem?_eq_getElem (show j < ms.length by omega)]
   exact g)
  have e:((List.range (min items.size items2.size)).all (fun j=>match ns[j]?,ms[j]? with | some d,some e=>decide (d=e) | _,_=>true) && items.size == items2.size)=decide (ns=ms):=by
   rw [l1,l2]
   exact b1z ns ms _ fun j x y h1 h2=>by simp only [h1,h2]
  rw [e] at q
  exact q
theorem a7H {x y:Value} {p q:Int × List Int} {C:Bool→Shared→Prop} (hx:PrN s.heap x p) (hy:PrN s.heap y q) (hu:A.units+1 < cLine) (h:C (a4d p q) s):wpAny (model prog w) A (keyLt' (tuples' true) x y) C E s:=by
 obtain ⟨b,items,t,u,rfl,⟨o,ho,hc,n,hd⟩,hi,tu⟩:=hx
 obtain ⟨b2,items2,t2,u2,rfl,⟨o2,ho2,hc2,n2,hd2⟩,hi2,tu2⟩:=hy
 refine kat_lt ho hd ho2 hd2 ?_
 have z1:items.size=2:=by rw [←Array.length_toList,hi];rfl
 have z2:items2.size=2:=by rw [←Array.length_toList,hi2];rfl
 rw [hi,hi2,z1,z2]
 show KatLex prog w A true (decide (2 < 2)) C [(.int p.1 t,.int q.1 t2),(u,u2)] 0 s
 unfold a4d at h
 refine kat_cons (wpAny_eqBool_int ?_)
 by_cases e:p.1=q.1
 ·rw [if_pos e] at h
  rw [e,show (q.1 == q.1)=true by simp]
  refine kat_yes (kat_cons (b3c tu tu2 hu _ _ _ _ ?_))
  by_cases e2:p.2=q.2
  ·rw [decide_eq_true e2]
   refine kat_yes (kat_nil ?_)
   rw [e2,a3d] at h
   exact h
  ·rw [decide_eq_false e2]
   refine kat_no (kat_one _ _ ?_)
   obtain ⟨c,its,rfl,ht,hh⟩:=tu
   obtain ⟨c2,its2,rfl,ht2,hh2⟩:=tu2
   exact HT.a3q ht ht2 hh hh2 (by omega) h
 ·rw [if_neg e] at h
  rw [show (p.1 == q.1)=false by simpa using e]
  exact kat_no (oneLt_int h)
theorem a7I {M:Model} {vs:List Value} {Q:SortKind→Shared→Prop} (h1:1≤vs.length) (t:∀ v∈vs,∃ q,PrN s.heap v q) (h:Q (tuples' true) s):wpAny M A (keyKind' vs.toArray) Q E s:=by
 obtain ⟨fs,kt,fi⟩:∃ fs,KatTups s.heap vs fs∧fs.length=vs.length∧∀ v∈fs,∃ n tk,v=Value.int n tk:=by
  clear h1 h
  induction vs with
  | nil=>exact ⟨[],trivial,rfl,fun v hv=>by cases hv⟩
  | cons v r ih =>
   obtain ⟨fs,k1,k2,k3⟩:=ih fun v hv=>t v (.tail _ hv)
   obtain ⟨q,b,items,tk,u,rfl,⟨o,ho,hc,n,hd⟩,hi,_⟩:=t v (.head _)
   refine ⟨.int q.1 tk :: fs,KatTups.cons ho hc hd ?_ k1,by rw [List.length_cons,List.length_cons,k2],fun v hv=>?_⟩
   ·rw [←Array.getElem?_toList,hi]
    rfl
   ·rcases List.mem_cons.mp hv with rfl | hv
    ·exact ⟨_,_,rfl⟩
    ·exact k3 v hv
 refine kat_kind (T:=Value.type "int") kt (by omega) (fun v hv=>?_) rfl h
 obtain ⟨n,tk,rfl⟩:=fi.2 v hv
 exact Looks.of_pure rfl
end
def RPw (H:Hp) (x:V) (q:Int × List Int):Prop:=∃ t u,x=.ref t∧H t=some (.tup [.int q.1,u])∧Wd H u q.2
theorem RPw.same {H H':Hp} {x:V} {q:Int × List Int} (sm:a0t H H') (h:RPw H x q):RPw H' x q:=by
 obtain ⟨t,u,e,ht,hu⟩:=h
 exact ⟨t,u,e,sm _ _ ht,hu.same sm⟩
end L2
namespace L2
open PySem PySem.Spec PyProof.Rows
theorem a9E {p q:Int × List Int} (h:a4d p q=true):a4d q p=false:=by
 cases e:a4d q p with
 | false=>rfl
 | true=>have:=a9D _ _ _ h e;rw [a6L] at this;cases this
theorem a3B:∀ {us vs:List (Int × List Int)},us.Perm vs→us.Pairwise LxP→vs.Pairwise LxP→us=vs
 | [],vs,p,_,_=>(List.nil_perm.mp p).symm
 | u :: us,[],p,_,_=>by have:=p.length_eq;simp at this
 | u :: us,v :: vs,p,h1,h2=>by
  rw [List.pairwise_cons] at h1 h2
  have e:u=v:=by
   by_cases z:u=v
   ·exact z
   ·have m1:u∈vs:=(List.mem_cons.mp (p.mem_iff.mp (.head _))).resolve_left z
    have m2:v∈us:=(List.mem_cons.mp (p.mem_iff.mpr (.head _))).resolve_left (fun y=>z y.symm)
    have a:=h2.1 u m1
    have b:=h1.1 v m2
    have c:=a9E a
    rw [b] at c
    cases c
  subst e
  rw [a3B (List.perm_cons _ |>.mp p) h1.2 h2.2]
def onK (ps:List Int) (q:Int × List Int):List (Int × List Int):=(List.range ps.length).map fun i=>(q.1+ps.getD i 0,q.2++[(i:Int)])
end L2
namespace K18
open PySem L2
theorem b1g {X:Cx} (K:PySem.W.Frag) {elt iter:Expr} {t1 t2 x:Str} {p1 p2 tp pos pos1 spos:Pos} {k i:Nat} {cs:List Expr} {scope:Scope} {tc:TT} {te tl:TE} {M:List Str} (hN:X.N.Nodup) (hix:X.N[i]?=some x) (hx:X.env.scope.names.lookup x=some .local) (hc:X.calm=true) (S:a0k scope X.env X.N M) (nd:(t1 :: t2 :: M).Nodup) (hl1:scope.names.lookup t1=some .local) (hl2:scope.names.lookup t2=some .local)
  (hi:PE X iter tl) (mo:a1V tl)
  (hin:∀ (cl:List (Str × Addr)) (C:Addr) (s0:Shared) (H0:Hp) (fp:List Addr),PTs (cxC X scope cl C s0 H0 fp (t1 :: t2 :: M)) cs tc∧PE (cxC X scope cl C s0 H0 fp (t1 :: t2 :: M)) elt te)
  (hw:swapsWith (.ListComp elt [⟨.Tuple [.Name t1 p1,.Name t2 p2] k tp,iter,cs,0⟩] scope pos) (some (.Name x pos1)) spos.line X.env=pure true:=by rfl)
  (hf:∀ x,foldedSetIterable iter X.env x=pure x:=by intro _;rfl) (hK:X.K=K:=by rfl) :
  PS X (.Assign [.Name x pos1] (.ListComp elt [⟨.Tuple [.Name t1 p1,.Name t2 p2] k tp,iter,cs,0⟩] scope pos) spos) (b2b (b1H K tl tc te) (a1g i)):=by
 subst hK
 have hx1:(relabel scope X.env).names.lookup t1=some .local:=by rw [a0w,hl1];rfl
 have hx2:(relabel scope X.env).names.lookup t2=some .local:=by rw [a0w,hl2];rfl
 intro pins s σ H D I h
 refine a8u (xs:=[t1,t2]) (M:=M) (g:=a4J X.K) hc S (a1J hi) (fun cl C s0 H0 fp=>⟨a4u hc (a1a (a0I (i:=0) nd rfl (Or.inl hx1) (Or.inr hx1)) (a1a (a0I (i:=1) nd rfl (Or.inl hx2) (Or.inr hx2)) a2F)),hin cl C s0 H0 fp⟩) (fun v σ H Q h=>a2T h) hN hix hx hw hf pins s σ H D I ?_
 refine mo σ H _ _ (fun v H1 q=>?_) h
 obtain ⟨a,xs,e,j1,q⟩:=q
 refine ⟨a,e,⟨xs,j1⟩,fun d hd=>?_⟩
 obtain ⟨Pv,h0,hl,hs,hd⟩:=q d hd
 refine a1x (k:=2) (g:=a4J X.K) (Q:=fun x H1=>a1g i x σ H1 D.nx) Pv h0 hl (fun i x H hx hP=>?_) hd
 obtain ⟨b,y,z,rfl,hq,h⟩:=hs i x H hx hP
 exact ⟨b,[y,z],rfl,hq,rfl,y,[z],rfl,z,[],rfl,rfl,h⟩
abbrev sTp:Stmt:=top 21
abbrev a1D:Stmt:=top 22
abbrev Prs:=List (Int × List Int)
def goP (prs:Prs) (k:Int):Prs:=(prs.filter fun q=>decide (q.2.headD 0=k)).map fun q=>(q.1,q.2.tail)
def a1d (H:Hp) (L:Nat):Nat→V→Prs→Prop
 | 0,_,_=>False
 | n+1,x,prs=>(prs=[]∧x=.non)∨(∃ t,prs=[(t,[])]∧x=.int t) ∨
  (prs≠[]∧(∀ q∈prs,q.2≠[])∧∃ a xs,x=.ref a∧H a=some (.tup xs)∧xs.length=L∧∀ (k:Nat) y,xs[k]?=some y→a1d H L n y (goP prs (k:Int)))
theorem a1d.keep {H H':Hp} {L:Nat} (h:∀ a xs,H a=some (.tup xs)→H' a=some (.tup xs)):∀ {n:Nat} {x:V} {prs:Prs},a1d H L n x prs→a1d H' L n x prs
 | 0,_,_,z=>z.elim
 | n+1,x,prs,z=>by
  rcases z with z | z | ⟨z1,z2,a,xs,e,g,l,al⟩
  ·exact .inl z
  ·exact .inr (.inl z)
  ·exact .inr (.inr ⟨z1,z2,a,xs,e,h a xs g,l,fun k y hy=>a1d.keep h (al k y hy)⟩)
theorem a1d.same {H H':Hp} {L n:Nat} {x:V} {prs:Prs} (s:a0t H H') (h:a1d H L n x prs):a1d H' L n x prs:=a1d.keep (fun a xs e=>s _ _ e) h
theorem a1d.upd {H:Hp} {L n:Nat} {x:V} {prs:Prs} {d:Addr} {ls ls':List V} (g:H d=some (.lst ls)) (h:a1d H L n x prs):a1d (upd H d (.lst ls')) L n x prs :=
 a1d.keep (fun a xs e=>by rw [a0l (a4s e g (by intro z;cases z))];exact e) h
theorem at0 {α:Type} (x:α) (xs:List α):atI (x :: xs) 0=some x:=a2i (xs:=x :: xs) (j:=0) rfl
theorem a9F {prs:Prs} (k:Int):(goP prs k).length≤prs.length:=by
 unfold goP
 rw [List.length_map]
 exact List.length_filter_le _ _
theorem a4e {prs:Prs} {n:Nat} (h:∀ q∈prs,q.2.length < n+1) (f:∀ q∈prs,q.2≠[]) (k:Int):∀ q∈goP prs k,q.2.length < n:=fun q hq=>by
 unfold goP at hq
 obtain ⟨r,hr,rfl⟩:=List.mem_map.mp hq
 have hm:=(List.mem_filter.mp hr).1
 have h1:=h r hm
 have h2:=f r hm
 cases e:r.2 with
 | nil=>exact absurd e h2
 | cons x u=>rw [e] at h1;simp at h1 ⊢;omega
theorem b3d {prs:Prs} (h:PF (prs.map (·.2))) (f:∀ q∈prs,q.2≠[]) (k:Int):PF ((goP prs k).map (·.2)):=by
 unfold goP PF
 rw [List.map_map,List.pairwise_map]
 unfold PF at h
 rw [List.pairwise_map] at h
 refine List.Pairwise.imp_of_mem (fun {u v} hu hv a=>?_) (List.Pairwise.sublist List.filter_sublist h)
 obtain ⟨hu1,hu2⟩:=List.mem_filter.mp hu
 obtain ⟨hv1,hv2⟩:=List.mem_filter.mp hv
 have fu:=f u hu1
 have fv:=f v hv1
 obtain ⟨t,u⟩:=u
 obtain ⟨t',v⟩:=v
 cases u with
 | nil=>exact absurd rfl fu
 | cons x u =>
  cases v with
  | nil=>exact absurd rfl fv
  | cons y v =>
   have ex:x=k:=of_decide_eq_true hu2
   have ey:y=k:=of_decide_eq_true hv2
   subst ex ey
   exact ⟨fun z=>a.1 (List.cons_prefix_cons.mpr ⟨rfl,z⟩),fun z=>a.2 (List.cons_prefix_cons.mpr ⟨rfl,z⟩)⟩
theorem pf_one {q:Int × List Int} {r:Prs} (h:PF ((q :: r).map (·.2))) (e:q.2=[]):r=[]:=by
 cases r with
 | nil=>rfl
 | cons a r=>exact absurd (by show q.2 <+: a.2;rw [e];exact List.nil_prefix) ((List.pairwise_cons.mp h).1 a.2 (by simp)).1
theorem b1h {q:Int × List Int} {r:Prs} (h:PF ((q :: r).map (·.2))) (e:q.2≠[]):∀ p∈q :: r,p.2≠[]:=fun p hp z=>by
 rcases List.mem_cons.mp hp with rfl | hp
 ·exact e z
 ·exact ((List.pairwise_cons.mp h).1 p.2 (List.mem_map_of_mem hp)).2 (by rw [z];exact List.nil_prefix)
theorem a4f {H:Hp} {d:Addr} {ls ls':List V} {x:V} {q:Int × List Int} (hl:H d=some (.lst ls)) (h:RPw H x q):RPw (upd H d (.lst ls')) x q:=by
 obtain ⟨t,u,e,ht,hu⟩:=h
 exact ⟨t,u,e,by rw [a0l (a4s ht hl (by intro z;cases z))];exact ht,Wd.upd hl hu⟩
section
variable {P:Program} {w:World} {K:PySem.W.Frag} {mg:Str→Option Value} {base:Heap} {f:Addr} {fd:FuncData}
def b3u (n:Nat):Sp:=fun vs H Q _=>∃ (a:Addr) (xs:List V) (prs:Prs) (L:Nat),vs=[.ref a,.int (L:Int)]∧H a=some (.lst xs)∧Paired (RPw H) xs prs∧prs≠[]∧PF (prs.map (·.2))∧(∀ q∈prs,q.2.length < n)∧prs.length≤100∧n≤100∧L≤10∧∀ x H',a0t H H'→a1d H' L n x prs→Q x H'
def spBr (n:Nat):Sp:=fun vs H Q _=>∃ (a:Addr) (xs:List V) (prs:Prs) (k:Int) (L:Nat),vs=[.ref a,.int k,.int (L:Int)]∧H a=some (.lst xs)∧Paired (RPw H) xs prs∧prs≠[]∧PF (prs.map (·.2))∧(∀ q∈prs,q.2≠[])∧(∀ q∈prs,q.2.length < n+1)∧prs.length≤100∧n < 100∧L≤10∧∀ x H',a0t H H'→a1d H' L n x (goP prs k)→Q x H'
abbrev NBr:List Str:=["pairs","letter","letters","inside"]
theorem scBr:a0o NBr ["pairs","letter","letters"] (a0e a1D):=⟨rfl,rfl,rfl,by decide +kernel,rfl,by decide +kernel,by decide +kernel⟩
theorem ndBr:(("thing":Str) :: "word" :: NBr).Nodup:=by decide +kernel
theorem br_of {n k:Nat} (F:Fun K "branch_of" "branch_of" a1D f fd) (GT:Fns P w K mg base ["pairs","letters"] "tree_of_pairs" (b3u n) k) (ml:mg "len"=none):a1c P w K mg base CX0 (k+1) f fd ["pairs","letter","letters"] (spBr n):=by
 refine F.ok (k:=k) scBr (fun vs H Q E h=>?_) (fun cdv A outer s H vs Q E hr h=>?_)
 ·obtain ⟨a,xs,prs,c,L,rfl,_⟩:=h
  rfl
 obtain ⟨a,xs,prs,c,L,rfl,ha,hw,ne,pf,full,short,l100,n100,l10,q⟩:=h
 refine ⟨_,a0f (b1g K (i:=3) (M:=NBr) scBr.nd rfl rfl rfl (a0k.of (a0e a1D) NBr rfl rfl rfl (by decide +kernel) (by decide +kernel) (by decide +kernel) rfl (by decide +kernel)) ndBr rfl rfl (pv 0) a1f (fun cl C s0 H0 fp=>⟨a3J (a0u a1u (a0G (ixT K) (pv 1) (a0h) (fun _ _=>rfl)) (pv 3) (nomark _)),a1l (a0a (pv 0) (a0a (a1i a2P (pv 1) (a1j a0h) a2h) (a0c)))⟩))
   (a0f (a0U (a0u a1u (a0j a0g (by rfl) ml PySem.boot_len (a0a (pv 3) (a0c))) (a0h) (nomark _)) (a0i (a0s a5S)) (a0x))
   (a0i (a0s (a0m GT.ok hr (by rfl) GT.m GT.kp GT.b .nil a0L (a0a (pv 3) (a0a (pv 2) (a0c))))))),?_⟩
 have n1:1≤n:=by
  obtain ⟨q0,hq0⟩:=List.exists_mem_of_ne_nil prs ne
  have h1:=short q0 hq0
  have h2:=List.length_pos_iff.mpr (full q0 hq0)
  omega
 refine ⟨_,rfl,a,xs,rfl,SqL.of ha,fun d hd=>?_⟩
 refine ⟨fun i H'=>a0t H H'∧∃ ys,H' d=some (.lst ys)∧Paired (RPw H') ys (goP (prs.take i) c),⟨a0d hd _,[],a0b,.nil⟩,fun i H' _ hP=>SqL.of (hP.1 _ _ ha),fun i x H' hx hP=>?_,fun H5 hP=>?_⟩
 ·obtain ⟨s2,ys,g2,w2⟩:=hP
  obtain ⟨q0,hq0,t,u,rfl,ht,hu⟩:=Paired.right_of hw i x hx
  obtain ⟨ua,rfl,hua⟩:=Wd.ti hu
  have hm:=List.mem_of_getElem? hq0
  have li:=(List.getElem?_eq_some_iff.mp hq0).1
  have ly:ys.length≤100:=by
   have:=a9F (prs:=prs.take i) c
   rw [w2.length]
   rw [List.length_take] at this
   omega
  have hua2:TW H' ua q0.2:=s2 _ _ hua
  obtain ⟨y0,yr,ey⟩:∃ y0 yr,q0.2=y0 :: yr:=by
   cases e:q0.2 with
   | nil=>exact absurd e (full _ hm)
   | cons y0 yr=>exact ⟨y0,yr,rfl⟩
  have hat:atI (q0.2.map V.int) 0=some (V.int y0):=by rw [ey];exact at0 _ _
  have et:prs.take (i+1)=prs.take i++[q0]:=by rw [List.take_add_one,hq0];rfl
  refine ⟨t,_,_,rfl,SqT.of (s2 _ _ ht),?_⟩
  unfold a7r
  refine ⟨_,rfl,ua,_,_,_,rfl,rfl,SqT.of hua2,hat,_,rfl,rfl,_,rfl,a1s (fun z=>?_) (fun z=>?_)⟩
  ·have z1:y0=c:=V.int.inj (of_decide_eq_true z)
   refine ⟨_,rfl,_,rfl,_,rfl,ua,_,rfl,hua2,fun p3 H3 s3 hp3=>?_⟩
   refine ⟨(by show 2≤sizeLine;decide),fun t4 ht4=>?_⟩
   have s4:=a0d ht4 (.tup [.int q0.1,.ref p3])
   have g4:L2.upd H3 t4 (.tup [.int q0.1,.ref p3]) t4=some (.tup [.int q0.1,.ref p3]):=a0b
   generalize L2.upd H3 t4 (.tup [.int q0.1,.ref p3])=H4 at s4 g4 ⊢
   have s34:=s3.trans s4
   have gd:=s34 _ _ g2
   have wp:Wd H4 (.ref p3) q0.2.tail:=Wd.of (s4 _ _ (by rw [hp3,a8D _ 1 (by decide),ey];rfl))
   refine ⟨ys,gd,a0z (by omega),a0q hd (s2.trans s34),_,a0b,?_⟩
   have e:goP (prs.take (i+1)) c=goP (prs.take i) c++[(q0.1,q0.2.tail)]:=by
    rw [et]
    unfold goP
    rw [List.filter_append,List.map_append]
    congr 1
    rw [List.filter_cons,if_pos (by rw [ey];exact decide_eq_true z1)]
    rfl
   rw [e]
   exact Paired.appendP (Paired.mapP w2 fun _ _ y=>a4f gd (RPw.same s34 y)) (.cons (a4f gd ⟨t4,_,rfl,g4,wp⟩) .nil)
  ·have z1:¬ y0=c:=fun y=>z (by rw [y];exact decide_eq_true rfl)
   refine ⟨s2,ys,g2,?_⟩
   have e:goP (prs.take (i+1)) c=goP (prs.take i) c:=by
    rw [et]
    unfold goP
    rw [List.filter_append,List.map_append,List.filter_cons,if_neg (by rw [ey];exact fun y=>z1 (of_decide_eq_true y))]
    simp
   rw [e]
   exact w2
 obtain ⟨s5,ys,g5,w5⟩:=hP
 rw [hw.length,List.take_length] at w5
 refine ⟨_,rfl,d,_,rfl,.inl (SqL.of g5),rfl,_,rfl,a1s (fun z=>?_) (fun z=>?_)⟩
 ·have z1:=of_decide_eq_true z
  have z2:ys.length=0:=by
   have:=V.int.inj z1
   omega
  have e:goP prs c=[]:=List.length_eq_zero_iff.mp (by rw [←w5.length];exact z2)
  obtain ⟨m,rfl⟩:∃ m,n=m+1:=⟨n - 1,by omega⟩
  exact q .non H5 s5 (.inl ⟨e,rfl⟩)
 ·refine ⟨_,rfl,_,rfl,d,ys,goP prs c,L,rfl,g5,w5,fun e=>z ?_,b3d pf full c,a4e short full c,Nat.le_trans (a9F c) l100,by omega,l10,fun x H' sm tr=>q x H' (s5.trans sm) tr⟩
  have:=w5.length
  rw [e] at this
  have e0:ys=[]:=List.length_eq_zero_iff.mp this
  rw [e0]
  rfl
abbrev NTp:List Str:=["pairs","letters"]
theorem scTp:a0o NTp NTp (a0e sTp):=⟨rfl,rfl,rfl,by decide +kernel,rfl,by decide +kernel,by decide +kernel⟩
theorem ndTp:(("letter":Str) :: NTp).Nodup:=by decide +kernel
theorem tp_of {n k:Nat} (F:Fun K "tree_of_pairs" "tree_of_pairs" sTp f fd) (GB:Fns P w K mg base ["pairs","letter","letters"] "branch_of" (spBr n) k) (ml:mg "len"=none) (mr:mg "range"=none) (mt:mg "tuple"=none):a1c P w K mg base CX0 (k+1) f fd ["pairs","letters"] (b3u (n+1)):=by
 refine F.ok (k:=k) scTp (fun vs H Q E h=>?_) (fun cdv A outer s H vs Q E hr h=>?_)
 ·obtain ⟨a,xs,prs,L,rfl,_⟩:=h
  rfl
 obtain ⟨a,xs,prs,L,rfl,ha,hw,ne,pf,short,l100,n100,l10,q⟩:=h
 refine ⟨_,a0f (a0U (a0u a1u (a0j a0g (by rfl) ml PySem.boot_len (a0a (a0G a0V (a0G a0S (pv 0) (a0h) (fun _ _=>rfl)) (a0h) (fun _ _=>rfl)) (a0c))) (a0h) (nomark _)) (a0i (a0s (a0G a0V (a0G a0S (pv 0) (a0h) (fun _ _=>rfl)) (a0h) (fun _ _=>rfl)))) (a0x))
   (a0i (a0s (a0K a0A (by rfl) mt a1n (a0a (a1W (M:=NTp) rfl (a0k.of (a0e sTp) NTp rfl rfl rfl (by decide +kernel) (by decide +kernel) (by decide +kernel) rfl (by decide +kernel)) ndTp rfl (by rfl) mr (a0a (pv 1) (a0c)) (a1y a1f a2Q)
   (fun cl C s0 H0 fp=>⟨a0W,a0m GB.ok hr (by rfl) GB.m GB.kp GB.b .nil a0L (a0a (pv 1) (a0a (pv 0) (a0a (pv 2) (a0c))))⟩)) (a0c))))),?_⟩
 match xs,prs,hw with
 | [],[],_=>exact absurd rfl ne
 | x0 :: xr,q0 :: r,.cons h0 hr' =>
 obtain ⟨t,u,rfl,ht,hu⟩:=id h0
 obtain ⟨ua,rfl,hua⟩:=Wd.ti hu
 refine ⟨_,rfl,a,_,_,_,rfl,rfl,SqL.of ha,at0 _ _,t,_,_,_,rfl,rfl,SqT.of ht,rfl,ua,_,rfl,.inr (SqT.of hua),rfl,_,rfl,a1s (fun z=>?_) (fun z=>?_)⟩
 ·have z1:=V.int.inj (of_decide_eq_true z)
  rw [List.length_map] at z1
  have e:q0.2=[]:=List.length_eq_zero_iff.mp (by omega)
  have er:=pf_one pf e
  subst er
  exact ⟨_,rfl,a,_,_,_,rfl,rfl,SqL.of ha,at0 _ _,t,_,_,_,rfl,rfl,SqT.of ht,rfl,q _ H (a0t.refl _) (.inr (.inl ⟨q0.1,by rw [←e],rfl⟩))⟩
 have e:q0.2≠[]:=fun y=>z (by rw [y];rfl)
 have full:=b1h pf e
 generalize hgp:q0 :: r=prs at *
 generalize hgx:V.ref t :: xr=xs at *
 have hw:Paired (RPw H) xs prs:=by rw [←hgp,←hgx];exact .cons h0 hr'
 refine ⟨_,rfl,(L:Int),rfl,by omega,by omega,fun d hd=>?_⟩
 refine ⟨fun i H'=>a0t H H'∧∃ ys,H' d=some (.lst ys)∧ys.length=i∧∀ (k:Nat) y,ys[k]?=some y→a1d H' L n y (goP prs (k:Int)),⟨a0d hd _,[],a0b,rfl,fun k y hy=>by simp at hy⟩,fun i H' hi hP=>?_,fun H5 hP=>?_⟩
 ·obtain ⟨s2,ys,g2,l2,tr⟩:=hP
  rw [show (0:Int)+(i:Int)=(i:Int) by omega]
  refine a0R ⟨_,rfl,_,rfl,_,rfl,a,xs,prs,(i:Int),L,rfl,s2 _ _ ha,Paired.mapP hw fun _ _ y=>RPw.same s2 y,ne,pf,full,short,l100,by omega,l10,fun x H3 s3 t3=>?_⟩
  have gd:=s3 _ _ g2
  refine ⟨ys,gd,a0z (by omega),a0q hd (s2.trans s3),_,a0b,by rw [List.length_append,l2];rfl,fun k y hy=>?_⟩
  rcases Nat.lt_or_ge k ys.length with lt | ge
  ·rw [List.getElem?_append_left lt] at hy
   exact a1d.upd gd (a1d.same s3 (tr k y hy))
  ·rw [List.getElem?_append_right ge] at hy
   have hk:k - ys.length=0:=by
    have:=(List.getElem?_eq_some_iff.mp hy).1
    simp at this
    omega
   rw [hk] at hy
   cases hy
   have:k=i:=by omega
   subst this
   exact a1d.upd gd t3
 obtain ⟨s5,ys,g5,l5,tr⟩:=hP
 refine ⟨d,_,rfl,.inl ⟨SqL.of g5,fun ta hta=>?_⟩⟩
 have s6:=a0d hta (.tup ys)
 exact q _ _ (s5.trans s6) (.inr (.inr ⟨ne,full,ta,ys,rfl,a0b,by omega,fun k y hy=>a1d.same s6 (tr k y hy)⟩))
theorem a9G {f':Addr} {fd':FuncData} (F:Fun K "tree_of_pairs" "tree_of_pairs" sTp f fd) (F':Fun K "branch_of" "branch_of" a1D f' fd') (b:a1I K fd ["pairs","letters"] []) (kp:PySem.W.keepIn K (.ref f)=true) (m:mg "tree_of_pairs"=some (.ref f)) (b':a1I K fd' ["pairs","letter","letters"] []) (kp':PySem.W.keepIn K (.ref f')=true) (m':mg "branch_of"=some (.ref f'))
  (ml:mg "len"=none) (mr:mg "range"=none) (mt:mg "tuple"=none):∀ n:Nat,a1c P w K mg base CX0 (2 * n+1) f fd ["pairs","letters"] (b3u n)
 | 0=>by
  have no:∀ vs H Q E,b3u 0 vs H Q E→False:=fun vs H Q E h=>by
   obtain ⟨a,xs,prs,L,rfl,_,_,ne,_,sh,_⟩:=h
   obtain ⟨q,hq⟩:=List.exists_mem_of_ne_nil prs ne
   exact absurd (sh q hq) (Nat.not_lt_zero _)
  exact ⟨fun vs H Q E h=>(no vs H Q E h).elim,fun A outer s H args us vs Q E hr e0 hb r h=>(no vs H Q E h).elim⟩
 | n+1=>by
  have T:=a9G F F' b kp m b' kp' m' ml mr mt n
  have B:=br_of (n:=n) F' ⟨_,_,T,b,kp,m⟩ ml
  exact tp_of (n:=n) F ⟨_,_,B,b',kp',m'⟩ ml mr mt
end
def flat (L:Nat):Nat→Prs→List Int→Prs
 | 0,_,_=>[]
 | n+1,prs,path=>if prs.any (fun q=>q.2.isEmpty)=true then prs.map (fun q=>(q.1,path)) else (List.range L).flatMap fun (k:Nat)=>flat L n (goP prs (k:Int)) (path++[(k:Int)])
theorem a6M (L:Nat):∀ (n:Nat) (path:List Int),flat L n [] path=[]
 | 0,_=>rfl
 | n+1,path=>by
  show (if ([]:Prs).any (fun q=>q.2.isEmpty)=true then _ else _)=_
  rw [if_neg (by simp)]
  have:∀ k:Nat,goP [] (k:Int)=[]:=fun k=>rfl
  simp only [this,a6M L n]
  induction L with
  | zero=>rfl
  | succ L ih=>simp
theorem a9H {α β:Type} {f g:α→List β}:∀ {l:List α},(∀ a∈l,(f a).Perm (g a))→(l.flatMap f).Perm (l.flatMap g)
 | [],_=>.nil
 | a :: l,h=>by
  rw [List.flatMap_cons,List.flatMap_cons]
  exact (h a List.mem_cons_self).append (a9H fun b hb=>h b (List.mem_cons_of_mem _ hb))
theorem a2D {α β:Type} {f g:α→List β}:∀ {l:List α},(∀ a∈l,f a=g a)→l.flatMap f=l.flatMap g
 | [],_=>rfl
 | a :: l,h=>by rw [List.flatMap_cons,List.flatMap_cons,h a List.mem_cons_self,a2D fun b hb=>h b (List.mem_cons_of_mem _ hb)]
theorem a3C {L:Nat}:∀ prs:Prs,(∀ q∈prs,0≤q.2.headD 0∧q.2.headD 0 < (L:Int))→((List.range L).flatMap fun (k:Nat)=>prs.filter fun q=>decide (q.2.headD 0=(k:Int))).Perm prs
 | [],_=>by simp
 | q :: prs,h=>by
  have ih:=a3C prs fun p hp=>h p (List.mem_cons_of_mem _ hp)
  obtain ⟨h0,h1⟩:=h q List.mem_cons_self
  obtain ⟨m,hm⟩:∃ m:Nat,q.2.headD 0=(m:Int):=⟨(q.2.headD 0).toNat,by omega⟩
  have mL:m < L:=by omega
  have e0:List.range L=List.range m++m :: (List.range (L - m - 1)).map (fun i=>m+1+i):=by
   have:L=m+(1+(L - m - 1)):=by omega
   conv=>lhs;rw [this]
   rw [List.range_add,List.range_add,List.map_append]
   simp [List.map_map,Function.comp_def,Nat.add_assoc]
  have no:∀ k:Nat,k≠m→(q :: prs).filter (fun q=>decide (q.2.headD 0=(k:Int)))=prs.filter (fun q=>decide (q.2.headD 0=(k:Int))):=fun k hk=>by
   rw [List.filter_cons,if_neg (by rw [decide_eq_true_eq,hm];omega)]
  have yes:(q :: prs).filter (fun q=>decide (q.2.headD 0=(m:Int)))=q :: prs.filter (fun q=>decide (q.2.headD 0=(m:Int))):=by
   rw [List.filter_cons,if_pos (by rw [decide_eq_true_eq];exact hm)]
  rw [e0,List.flatMap_append,List.flatMap_cons] at ih ⊢
  rw [yes]
  have ea:((List.range m).flatMap fun (k:Nat)=>(q :: prs).filter fun q=>decide (q.2.headD 0=(k:Int)))=(List.range m).flatMap fun (k:Nat)=>prs.filter fun q=>decide (q.2.headD 0=(k:Int)) :=
   a2D fun k hk=>no k (by have:=List.mem_range.mp hk;omega)
  have eb:(((List.range (L - m - 1)).map (fun i=>m+1+i)).flatMap fun (k:Nat)=>(q :: prs).filter fun q=>decide (q.2.headD 0=(k:Int)))=((List.range (L - m - 1)).map (fun i=>m+1+i)).flatMap fun (k:Nat)=>prs.filter fun q=>decide (q.2.headD 0=(k:Int)) :=
   a2D fun k hk=>no k (by obtain ⟨i,_,rfl⟩:=List.mem_map.mp hk;omega)
  rw [ea,eb]
  exact List.perm_middle.trans (ih.cons q)
theorem b1Q {prs:Prs} {L:Nat} (h:∀ q∈prs,∀ x∈q.2,0≤x∧x < (L:Int)) (k:Int):∀ q∈goP prs k,∀ x∈q.2,0≤x∧x < (L:Int):=fun q hq x hx=>by
 unfold goP at hq
 obtain ⟨r,hr,rfl⟩:=List.mem_map.mp hq
 exact h r (List.mem_filter.mp hr).1 x (List.mem_of_mem_tail hx)
theorem a3e {L:Nat}:∀ (n:Nat) (prs:Prs) (path:List Int),PF (prs.map (·.2))→(∀ q∈prs,q.2.length < n)→(∀ q∈prs,∀ x∈q.2,0≤x∧x < (L:Int))→(flat L n prs path).Perm (prs.map fun q=>(q.1,path++q.2))
 | 0,prs,path,_,sh,_=>by
  have:prs=[]:=List.eq_nil_iff_forall_not_mem.mpr fun q hq=>absurd (sh q hq) (Nat.not_lt_zero _)
  subst this
  exact .nil
 | n+1,prs,path,pf,sh,lt=>by
  show (if prs.any (fun q=>q.2.isEmpty)=true then _ else _:Prs).Perm _
  by_cases c:prs.any (fun q=>q.2.isEmpty)=true
  ·rw [if_pos c]
   obtain ⟨q,hq,he⟩:=List.any_eq_true.mp c
   have e:q.2=[]:=List.isEmpty_iff.mp he
   have all:∀ p∈prs,p.2=[]:=fun p hp=>by
    by_cases z:p.2=q.2
    ·rw [z,e]
    ·obtain ⟨i,hi⟩:=List.getElem?_of_mem (List.mem_map_of_mem (f:=fun q:Int × List Int=>q.2) hp)
     obtain ⟨j,hj⟩:=List.getElem?_of_mem (List.mem_map_of_mem (f:=fun q:Int × List Int=>q.2) hq)
     have:=PF.ne pf hj hi fun ij=>z (by rw [ij,hi] at hj;exact Option.some.inj hj)
     exact absurd (by rw [e];exact List.nil_prefix) this.1
   refine List.Perm.of_eq (List.map_congr_left fun p hp=>?_)
   rw [all p hp,List.append_nil]
  ·rw [if_neg c]
   have full:∀ q∈prs,q.2≠[]:=fun q hq z=>c (List.any_eq_true.mpr ⟨q,hq,List.isEmpty_iff.mpr z⟩)
   have p1:=a3C (L:=L) prs fun q hq=>by
    cases e:q.2 with
    | nil=>exact absurd e (full q hq)
    | cons x u=>exact lt q hq x (by rw [e];exact List.mem_cons_self)
   have p2:=p1.map fun q:Int × List Int=>(q.1,path++q.2)
   rw [List.map_flatMap] at p2
   refine List.Perm.trans ?_ p2
   refine a9H fun k hk=>?_
   refine (a3e n (goP prs (k:Int)) (path++[(k:Int)]) (b3d pf full _) (a4e sh full _) (b1Q lt _)).trans (List.Perm.of_eq ?_)
   unfold goP
   rw [List.map_map]
   refine List.map_congr_left fun q hq=>?_
   obtain ⟨hm,hd⟩:=List.mem_filter.mp hq
   cases e:q.2 with
   | nil=>exact absurd e (full q hm)
   | cons x u =>
    rw [e] at hd
    have:x=(k:Int):=of_decide_eq_true hd
    simp [Function.comp,e,this]
theorem a4g (K:PySem.W.Frag):PySem.W.kitOne K (.type "tuple") (.type "int")=some false:=by rfl
theorem b1i {β:Type} (g:Nat→List β) {j L:Nat} (h:j≤L):((List.range j).flatMap g).length≤((List.range L).flatMap g).length:=by
 have e:List.range L=List.range j++(List.range (L - j)).map fun i=>j+i:=by rw [←List.range_add,show j+(L - j)=L by omega]
 rw [e,List.flatMap_append,List.length_append]
 omega
abbrev sPo:Stmt:=top 24
section
variable {P:Program} {w:World} {K:PySem.W.Frag} {mg:Str→Option Value} {base:Heap} {f:Addr} {fd:FuncData}
def spPo (n:Nat):Sp:=fun vs H Q _=>∃ (x u:V) (prs:Prs) (path:List Int) (L:Nat),vs=[x,u]∧a1d H L n x prs∧Wd H u path∧PF (prs.map (·.2))∧(∀ q∈prs,q.2.length < n)∧(∀ q∈prs,∀ x∈q.2,0≤x∧x < (L:Int))∧prs.length≤100∧path.length+n≤200∧L≤10 ∧
 ∀ p ys H',a0t H H'→H p=none→H' p=some (.lst ys)→Paired (RPw H') ys (flat L n prs path)→Q (.ref p) H'
abbrev NPo:List Str:=["tree","word","pairs","letter","branch"]
theorem scPo:a0o NPo ["tree","word"] (a0e sPo):=⟨rfl,rfl,rfl,by decide +kernel,rfl,by decide +kernel,by decide +kernel⟩
theorem ok_po (F:Fun K "pairs_of" "pairs_of" sPo f fd) (b:a1I K fd ["tree","word"] []) (kp:PySem.W.keepIn K (.ref f)=true) (m:mg "pairs_of"=some (.ref f)) (mi:mg "isinstance"=none) (mI:mg "int"=none) (me:mg "enumerate"=none):∀ n:Nat,a1c P w K mg base CX0 (n+1) f fd ["tree","word"] (spPo n)
 | 0=>by
  have no:∀ vs H Q E,spPo 0 vs H Q E→False:=fun vs H Q E h=>by
   obtain ⟨x,u,prs,path,L,rfl,tr,_⟩:=h
   exact tr
  exact ⟨fun vs H Q E h=>(no vs H Q E h).elim,fun A outer s H args us vs Q E hr e0 hb r h=>(no vs H Q E h).elim⟩
 | n+1=>by
  have GR:Fns P w K mg base ["tree","word"] "pairs_of" (spPo n) (n+1):=⟨_,_,ok_po F b kp m mi mI me n,b,kp,m⟩
  refine F.ok (k:=n+1) scPo (fun vs H Q E h=>?_) (fun cdv A outer s H vs Q E hr h=>?_)
  ·obtain ⟨x,u,prs,path,L,rfl,_⟩:=h
   rfl
  obtain ⟨x,u,prs,path,L,rfl,tr,hu,pf,sh,lt,l100,p200,l10,q⟩:=h
  obtain ⟨wa,rfl,hwa⟩:=Wd.ti hu
  refine ⟨_,a0f (a0U (a0u op_isN (pv 0) a5S (nomark _)) (a0i (a0s (a1h (a0c)))) (a0x))
   (a0f (a0U (a1q (a0j b0k (by rfl) mi b_isi (a0a (pv 0) (a0a (b1Y (v:=.ty "int") (by rfl) mI b_int rfl) (a0c))))) (a0i (a0s (a1h (a0a (a1l (a0a (pv 0) (a0a (pv 1) (a0c)))) (a0c))))) (a0x))
   (a0f (a0y (i:=2) scPo.nd rfl (Or.inl rfl) (a1h (a0c)))
   (a0f (a1T PassesOwn.never rfl (b2G true (by rfl) me (a0a (pv 0) (a0c))) (a4u rfl (a1a (a0I (i:=3) scPo.nd rfl (Or.inl rfl)) (a1a (a0I (i:=4) scPo.nd rfl (Or.inl rfl)) (a2F)))) (a0i (a1m (a8p PySem.F.plainAttrs_list PySem.F.slot_list_extend PySem.F.type_list_extend a2N (pv 2) (a0a (a0m GR.ok hr (by rfl) GR.m GR.kp GR.b .nil a0L (a0a (pv 4) (a0a (a0v a3M (pv 1) (a1l (a0a (pv 3) (a0c)))) (a0c)))) (a0c))))))
   (a0i (a0s (pv 2)))))),?_⟩
  rcases tr with ⟨rfl,rfl⟩ | ⟨t,rfl,rfl⟩ | ⟨ne,full,ta,ts,rfl,gt,lts,al⟩
  ·refine ⟨_,rfl,rfl,_,rfl,a9X ?_⟩
   refine ⟨(by show 0≤sizeLine;decide),fun l hl=>q l [] _ (a0d hl _) hl a0b ?_⟩
   rw [a6M]
   exact .nil
  ·refine ⟨_,rfl,rfl,_,rfl,a4p ?_⟩
   refine ⟨_,rfl,_,_,_,_,rfl,.int t,a5r _,_,rfl,a9X ?_⟩
   refine ⟨_,rfl,_,rfl,(by show 2≤sizeLine;decide),fun t4 ht4=>?_⟩
   have s4:=a0d ht4 (.tup [.int t,.ref wa])
   have g4:upd H t4 (.tup [.int t,.ref wa]) t4=some (.tup [.int t,.ref wa]):=a0b
   refine ⟨(by show 1≤sizeLine;decide),fun l hl=>?_⟩
   have s5:=a0d hl (.lst [.ref t4])
   refine q l [.ref t4] _ (s4.trans s5) (s4.free hl) a0b ?_
   show Paired _ _ (if _ then _ else _)
   rw [if_pos (show (([(t,[])]:Prs).any fun q=>q.2.isEmpty)=true from rfl)]
   exact .cons ⟨t4,.ref wa,rfl,s5 _ _ g4,Wd.of ((s4.trans s5) _ _ hwa)⟩ .nil
  ·have fe:flat L (n+1) prs path=(List.range L).flatMap fun (k:Nat)=>flat L n (goP prs (k:Int)) (path++[(k:Int)]):=by
    show (if _ then _ else _)=_
    rw [if_neg]
    intro z
    obtain ⟨q,hq,he⟩:=List.any_eq_true.mp z
    exact full q hq (List.isEmpty_iff.mp he)
   have fl:((List.range L).flatMap fun (k:Nat)=>flat L n (goP prs (k:Int)) (path++[(k:Int)])).length≤100:=by
    rw [←fe,(a3e (n+1) prs path pf sh lt).length_eq,List.length_map]
    exact l100
   rw [fe] at q
   refine ⟨_,rfl,rfl,_,rfl,a4p ?_⟩
   refine ⟨_,rfl,_,_,_,_,rfl,.tup gt,a4g _,_,rfl,a4p ?_⟩
   refine ⟨(by show 0≤sizeLine;decide),fun l hl=>?_⟩
   have s1:=a0d hl (.lst [])
   refine ⟨_,rfl,ta,ts,rfl,SqT.of (s1 _ _ gt),?_⟩
   refine b0K (k:=true) (xs:=ts) (fun j σ H'=>a0t H H'∧∃ (ys:List V) (x3 x4:Option V),H' l=some (.lst ys)∧Paired (RPw H') ys ((List.range j).flatMap fun (k:Nat)=>flat L n (goP prs (k:Int)) (path++[(k:Int)]))∧σ=[some (.ref ta),some (.ref wa),some (.ref l),x3,x4])
    ⟨s1,[],_,_,a0b,.nil,rfl⟩ (fun j σ H' _ hP=>SqT.of (hP.1 _ _ gt)) (fun j x pp σ H2 hx hP hpp=>?_) (fun σ H2 hP=>?_)
   ·obtain ⟨s2,ys,x3,x4,g2,w2,rfl⟩:=hP
    have jl:=(List.getElem?_eq_some_iff.mp hx).1
    have s3:=a0d hpp (.tup [.int (j:Int),x])
    have g3:upd H2 pp (.tup [.int (j:Int),x]) pp=some (.tup [.int (j:Int),x]):=a0b
    generalize upd H2 pp (.tup [.int (j:Int),x])=H3 at s3 g3 ⊢
    refine ⟨pp,_,rfl,SqT.of g3,rfl,_,_,rfl,_,_,rfl,rfl,?_⟩
    refine ⟨_,rfl,.inl ⟨rfl,_,SqL.of (s3 _ _ g2)⟩,_,rfl,_,rfl,_,rfl,(by show 1≤sizeLine;decide),fun b5 hb5=>?_⟩
    have s5:=a0d hb5 (.tup [.int (j:Int)])
    refine ⟨wa,b5,_,_,rfl,rfl,s5 _ _ (s3 _ _ (s2 _ _ hwa)),a0b,small (by rw [List.length_map];show _+1≤1000;omega),fun p6 H6 s6 hp6=>?_⟩
    have s26:=(s3.trans s5).trans s6
    have t6:TW H6 p6 (path++[(j:Int)]):=by rw [TW,hp6,List.map_append];rfl
    refine ⟨x,_,goP prs (j:Int),path++[(j:Int)],L,rfl,a1d.same (s2.trans s26) (al j x hx),Wd.of t6,b3d pf full _,a4e sh full _,b1Q lt _,Nat.le_trans (a9F _) l100,by rw [List.length_append];show path.length+1+n≤200;omega,l10,fun p7 zs H7 s7 n7 g7 w7=>?_⟩
    have s27:=s26.trans s7
    have gl:=s27 _ _ g2
    have lz:=b1i (fun (k:Nat)=>flat L n (goP prs (k:Int)) (path++[(k:Int)])) (show j+1≤L by omega)
    have ej:((List.range (j+1)).flatMap fun (k:Nat)=>flat L n (goP prs (k:Int)) (path++[(k:Int)]))=((List.range j).flatMap fun (k:Nat)=>flat L n (goP prs (k:Int)) (path++[(k:Int)]))++flat L n (goP prs (j:Int)) (path++[(j:Int)]):=by
     rw [List.range_succ,List.flatMap_append,List.flatMap_singleton]
    rw [ej,List.length_append,←w2.length,←w7.length] at lz
    refine ⟨l,p7,ys,zs,rfl,rfl,gl,g7,small (by omega),?_⟩
    refine ⟨a0q hl (s2.trans s27),ys++zs,_,_,a0b,?_,rfl⟩
    rw [ej]
    exact Paired.appendP (Paired.mapP w2 fun _ _ y=>a4f gl (RPw.same s27 y)) (Paired.mapP w7 fun _ _ y=>a4f gl y)
   ·obtain ⟨s2,ys,x3,x4,g2,w2,rfl⟩:=hP
    rw [lts] at w2
    exact ⟨_,rfl,q l ys H2 s2 hl g2 w2⟩
end
end K18
namespace L2
open PySem PySem.Spec PyProof.Rows PySem.W
section
variable {prog:Program} {w:World} {A:Around} {E:Value→Shared→Prop} {s:Shared}
theorem a5G {a:Addr} {vs:List Value} {ks:List (Int × List Int)} {n:Nat} {P:PySem.Fin→Shared→Prop} (ho:s.heap.get? a=some (seqObj "list" vs.toArray n)) (h64:vs.length < 64) (hl:ks.length=vs.length) (t:∀ i,i < vs.length→PrN s.heap (vs.getD i Value.none) (ks.getD i (0,[])))
  (nd:ks.Nodup) (hu:A.units+1 < cLine)
  (h:∀ (h':Heap) (p:Array Nat) (c:Nat),Pm vs.length p→(p.toList.map fun i=>ks.getD i (0,[])).Pairwise LxP→h'.get? a=some (seqObj "list" (p.toList.map fun i=>vs.getD i Value.none).toArray c)→(∀ b o,b≠a→s.heap.get? b=some o→h'.get? b=some o)→P (.done (.ret .none)) { s with heap:=h' }) :
  wpAny (model prog w) A (Builtin.«list.sort» ⟨[.ref a],[]⟩) P E s:=by
 have o:Ord vs.length (ltKP ks):=by rw [←hl];exact ordKP nd
 have at_:∀ v∈vs,∃ i,i < vs.length∧v=vs.getD i Value.none:=fun v hv=>by
  obtain ⟨i,hi⟩:=List.mem_iff_getElem?.mp hv
  exact ⟨i,(List.getElem?_eq_some_iff.mp hi).1,by rw [List.getD_eq_getElem?_getD,hi];rfl⟩
 refine b3b (κ:=tuples' true) o ho h64 (fun h2 h1 k1 Q q=>?_) (fun h1 k1 i j hi hj C E' q=>?_) fun h' p c pm as e k=>h h' p c pm (a5c o pm as fun i j z=>z) e k
 ·refine a7I (s:={ s with heap:=h1 }) (by omega) (fun v hv=>?_) q
  obtain ⟨i,hi,rfl⟩:=at_ v hv
  exact ⟨_,(t i hi).keep ho rfl k1⟩
 ·exact a7H (s:={ s with heap:=h1 }) ((t i hi).keep ho rfl k1) ((t j hj).keep ho rfl k1) hu q
end
def b3e:List V→Hp→VK→Prop:=fun xs H Q=>∃ l ys ws,xs=[.ref l]∧H l=some (.lst ys)∧Paired (RPw H) ys ws∧ws.length < 64∧ws.Nodup ∧
 ∀ p H' out us,a0t H H'→H p=none→H' p=some (.lst out)→Paired (RPw H') out us→us.Perm ws→us.Pairwise LxP→Q (.ref p) H'
theorem a7J {X:Cx} (hc:X.calm=true) (hu:X.A.units+4 < cLine):a1K X (.builtin "sorted") b3e:=by
 intro pins s σ H xs us Q I r h
 obtain ⟨l,ys,ws,rfl,e,hw,h64,nd,q⟩:=h
 obtain ⟨u,rfl,rx⟩:=a2H r
 cases rx
 obtain ⟨z,its,n,rv,he⟩:=(show a0F X.prog X.w H s.heap l (.lst ys) from I.hok l _ e)
 have ly:ys.length=ws.length:=hw.length
 have li:ys.length=its.length:=rv.length
 have tup:∀ i,i < its.length→PrN s.heap (its.getD i Value.none) (ws.getD i (0,[])):=fun i hi=>by
  have hy:ys[i]?=some (ys[i]'(by omega)):=List.getElem?_eq_getElem _
  obtain ⟨wd,hwd,t,uu,et,ht,hu2⟩:=Paired.right_of hw i _ hy
  obtain ⟨u,hu',ru⟩:=rv.get hy
  rw [et] at ru
  cases ru
  obtain ⟨_,its2,rv2,it⟩:=a2j ((show a0F X.prog X.w H s.heap t (.tup [.int wd.1,uu]) from I.hok _ _ ht))
  obtain ⟨b,eb,hb⟩:=Wd.ti hu2
  subst eb
  obtain ⟨_,its3,rv3,it3⟩:=a2j ((show a0F X.prog X.w H s.heap b (.tup (wd.2.map V.int)) from I.hok _ _ hb))
  have e1:its.getD i Value.none=.ref t:=by rw [List.getD_eq_getElem?_getD,hu'];rfl
  have e2:ws.getD i (0,[])=wd:=by rw [List.getD_eq_getElem?_getD,hwd];rfl
  obtain ⟨u1,u2,rfl,r1,r2⟩:=rv2.two
  obtain ⟨tk,rfl⟩:=r1
  cases r2
  rw [e1,e2]
  exact ⟨t,_,tk,.ref b,rfl,it,rfl,b,_,rfl,it3,by simpa using a9C rv3⟩
 refine Calls.call_function_entry kind_sorted plain_sorted entry_sorted (args_sorted1 _) ?_
 unfold Builtin.«sorted»
 refine wpAny_bind (m:=checkCount "sorted" 1 1 _) (wpAny_pure ?_)
 refine wpAny_bind (collect_list ⟨_,he,rfl,n,rfl⟩ ?_ (by rw [sizeLine_eq];omega))
 have k1:∀ b o,s.heap.get? b=some o→((s.heap.push (seqObj "list" #[] 0)).update s.heap.objs.size (Obj.mapSeq (·++its.toArray))).get? b=some o:=fun b o q=>by
  have lt:b < s.heap.objs.size:=Heap.lt_size q
  rw [Heap.get?_update_ne _ _ _ _ (Nat.ne_of_lt lt),Heap.get?_push_ne _ _ _ (Nat.ne_of_lt lt)]
  exact q
 refine wpAny_bind (wpAny_newList ?_ (by rw [sizeLine_eq];omega))
 show wpAny _ _ _ _ _ { s with heap:=((s.heap.push (seqObj "list" #[] 0)).update s.heap.objs.size (Obj.mapSeq (·++its.toArray))).push (seqObj "list" its.toArray 0) }
 generalize (s.heap.push (seqObj "list" #[] 0)).update s.heap.objs.size (Obj.mapSeq (·++its.toArray))=h1 at k1 ⊢
 have hoL:(h1.push (seqObj "list" its.toArray 0)).get? h1.objs.size=some (seqObj "list" its.toArray 0):=Heap.get?_push_size _ rfl
 have k2:∀ b o,s.heap.get? b=some o→(h1.push (seqObj "list" its.toArray 0)).get? b=some o:=fun b o e=>Heap.get?_push_of_some _ (k1 b o e)
 have nL:∀ b o,h1.get? b=some o→b≠h1.objs.size:=fun b o e=>Nat.ne_of_lt (Heap.lt_size e)
 have I1:Inv X pins σ H { s with heap:=h1,toks:=s.toks }:=I.kept k1
 have hLn:H h1.objs.size=none:=I1.hok.fresh (Nat.le_refl _)
 refine wpAny_bind (wpAny_holding (wpAny_call_entry slot_list_sort ⟨_,hoL,rfl⟩ entry_list_sort (a5G (s:={ s with heap:=h1.push (seqObj "list" its.toArray 0) }) hoL (by omega) (by omega) (fun i hi=>?_) nd ?_ fun h' p c pm srt hL kp=>⟨_,rfl,?_⟩) (args_list_sort _)))
 ·exact (tup i hi).keep2 k2
 ·show X.A.units+1+1+1 < cLine
  omega
 ·have kh:∀ b o,h1.get? b=some o→h'.get? b=some o:=fun b o e=>kp b o (nL b o e) (Heap.get?_push_of_some _ e)
  have lt:∀ i∈p.toList,i < ys.length:=fun i hi=>by have:=pm.mem i hi;omega
  have pw:=a9B (xs:=ws) (0,[]) pm (by omega)
  have I2:Inv X pins σ (upd H h1.objs.size (.lst (p.toList.map fun i=>ys.getD i .non))) { s with heap:=h',toks:=s.toks }:=I1.laid (t':=s.toks) kh (Nat.le_refl _) ⟨by rw [List.length_map,←List.length_map (f:=fun i=>ws.getD i (0,[])),pw.length_eq,sizeLine_eq];omega,_,c,Paired.pick rv .non Value.none p.toList lt,hL⟩
  have sm:=a0d hLn (.lst (p.toList.map fun i=>ys.getD i .non))
  exact wpAny_pure ⟨_,rfl,.ref h1.objs.size,_,I2,rfl,q _ _ _ (p.toList.map fun i=>ws.getD i (0,[])) sm hLn a0b (Paired.pick (Paired.mapP hw fun _ _ q=>RPw.same sm q) .non (0,[]) p.toList lt) pw srt⟩
end L2
namespace K18
open PySem L2
def enP (ws:List (List Int)):Prs:=(List.range ws.length).map fun (i:Nat)=>((i:Int),ws.getD i [])
theorem a3D (ws:List (List Int)):(enP ws).length=ws.length:=by unfold enP;rw [List.length_map,List.length_range]
theorem en_at {ws:List (List Int)} {i:Nat} (h:i < ws.length):(enP ws)[i]?=some ((i:Int),ws.getD i []):=by
 unfold enP
 rw [List.getElem?_map,List.getElem?_range h]
 rfl
theorem a2E (ws:List (List Int)):(enP ws).map (·.2)=ws:=by
 refine List.ext_getElem? fun i=>?_
 unfold enP
 rw [List.map_map,List.getElem?_map]
 rcases Nat.lt_or_ge i ws.length with h | h
 ·rw [List.getElem?_range h,List.getElem?_eq_getElem h]
  show some (ws.getD i [])=_
  rw [List.getD_eq_getElem?_getD,List.getElem?_eq_getElem h]
  rfl
 ·rw [List.getElem?_eq_none (by rw [List.length_range];exact h),List.getElem?_eq_none h]
  rfl
theorem b1R (ws:List (List Int)):(enP ws).Pairwise LxP:=by
 unfold enP
 rw [List.pairwise_map]
 refine List.pairwise_lt_range.imp fun {a b} h=>?_
 show a4d _ _=true
 unfold a4d
 rw [if_neg (by show ¬ ((a:Int)=(b:Int));omega)]
 exact decide_eq_true (by show (a:Int) < (b:Int);omega)
theorem en_nd (ws:List (List Int)):(enP ws).Nodup:=(b1R ws).imp fun {a b} h e=>by
 rw [e] at h
 have:=a6L b
 rw [show a4d b b=true from h] at this
 cases this
theorem a9I {ws:List (List Int)} {q:Int × List Int} (h:q∈enP ws):q.2∈ws:=by
 have:=List.mem_map_of_mem (f:=fun q:Int × List Int=>q.2) h
 rw [a2E] at this
 exact this
abbrev sCo:Stmt:=top 23
section
variable {P:Program} {w:World} {K:PySem.W.Frag} {mg:Str→Option Value} {base:Heap} {f:Addr} {fd:FuncData}
def spCo (n:Nat):Sp:=fun vs H Q _=>∃ (x:V) (ws:List (List Int)) (L:Nat),vs=[x]∧a1d H L n x (enP ws)∧PF ws∧(∀ u∈ws,u.length < n)∧(∀ u∈ws,∀ x∈u,0≤x∧x < (L:Int))∧ws.length≤60∧n≤200∧L≤10∧∀ p out H',a0t H H'→H' p=some (.tup out)→Ws H' out ws→Q (.ref p) H'
theorem scCo:a0o ["tree"] ["tree"] (a0e sCo):=⟨rfl,rfl,rfl,by decide +kernel,rfl,by decide +kernel,by decide +kernel⟩
theorem ndCo:(("thing":Str) :: "word" :: ["tree"]).Nodup:=by decide +kernel
theorem ok_co {n k:Nat} (F:Fun K "code_of" "code_of" sCo f fd) (GR:Fns P w K mg base ["tree","word"] "pairs_of" (spPo n) k) (mS:mg "sorted"=none) (mt:mg "tuple"=none):a1c P w K mg base CX0 (k+1) f fd ["tree"] (spCo n):=by
 refine F.ok (k:=k) scCo (fun vs H Q E h=>?_) (fun cdv A outer s H vs Q E hr h=>?_)
 ·obtain ⟨x,ws,L,rfl,_⟩:=h
  rfl
 obtain ⟨x,ws,L,rfl,tr,pf,sh,lt,l100,n200,l10,q⟩:=h
 have pf':PF ((enP ws).map (·.2)):=by rw [a2E];exact pf
 have sh':∀ q∈enP ws,q.2.length < n:=fun q hq=>sh _ (a9I hq)
 have lt':∀ q∈enP ws,∀ x∈q.2,0≤x∧x < (L:Int):=fun q hq=>lt _ (a9I hq)
 have fp0:(flat L n (enP ws) []).Perm (enP ws):=by
  have:=a3e n (enP ws) [] pf' sh' lt'
  simpa using this
 refine ⟨_,a0i (a0s (a0K a0A (by rfl) mt a1n (a0a (b0P K (M:=["tree"]) rfl (a0k.of (a0e sCo) ["tree"] rfl rfl rfl (by decide +kernel) (by decide +kernel) (by decide +kernel) rfl (by decide +kernel)) ndCo rfl rfl (a6g (a0j (a7J rfl (hu4 hr)) (by rfl) mS a4O (a0a (a0m GR.ok hr (by rfl) GR.m GR.kp GR.b .nil a0L (a0a (pv 0) (a0a (a1l (a0c)) (a0c)))) (a0c)))) a6h (fun cl C s0 H0 fp pins σ bk=>⟨a0W,pv 1⟩)) (a0c)))),?_⟩
 refine ⟨fun v H1=>∃ e es,v=.ref e∧a0t H H1∧H1 e=some (.lst es)∧Paired (RPw H1) es (enP ws),?_,fun v H1 hv=>?_⟩
 ·refine ⟨_,rfl,(by show 0≤sizeLine;decide),fun t0 ht0=>?_⟩
  have s0:=a0d ht0 (.tup [])
  refine ⟨x,.ref t0,enP ws,[],L,rfl,a1d.same s0 tr,Wd.of a0b,pf',sh',lt',by rw [a3D];exact (by omega),by simpa using n200,l10,fun p ys H2 s2 n2 g2 w2=>?_⟩
  refine ⟨p,ys,_,rfl,g2,w2,by rw [fp0.length_eq,a3D];omega,fp0.nodup_iff.mpr (en_nd ws),fun p3 H3 out us s3 n3 g3 w3 pm so=>?_⟩
  have eu:us=enP ws:=a3B (pm.trans fp0) so (b1R ws)
  rw [eu] at w3
  exact ⟨p3,out,rfl,(s0.trans s2).trans s3,g3,w3⟩
 obtain ⟨e,es,rfl,s1,ge,we⟩:=hv
 refine ⟨e,es,rfl,SqL.of ge,fun d hd=>?_⟩
 refine ⟨fun i H'=>a0t H1 H'∧∃ ys,H' d=some (.lst ys)∧Ws H' ys (((enP ws).take i).map (·.2)),⟨a0d hd _,[],a0b,.nil⟩,fun i H' _ hP=>SqL.of (hP.1 _ _ ge),fun i x H' hx hP=>?_,fun H5 hP=>?_⟩
 ·obtain ⟨s5,ys,g5,w5⟩:=hP
  obtain ⟨q0,hq0,t0,u,rfl,ht0,hu⟩:=Paired.right_of we i x hx
  have li:=(List.getElem?_eq_some_iff.mp hq0).1
  rw [a3D] at li
  refine ⟨t0,_,_,rfl,SqT.of (s5 _ _ ht0),?_⟩
  unfold a7r a8t
  refine a9X ⟨_,rfl,ys,g5,a0z (by rw [w5.length,List.length_map,List.length_take];omega),a0q hd s5,_,a0b,?_⟩
  rw [List.take_add_one,hq0,List.map_append]
  exact Paired.appendP (Ws.upd g5 w5) (.cons (Wd.upd g5 (hu.same s5)) .nil)
 obtain ⟨s5,ys,g5,w5⟩:=hP
 rw [we.length,List.take_length,a2E] at w5
 refine ⟨d,_,rfl,.inl ⟨SqL.of g5,fun c hc=>?_⟩⟩
 have s6:=a0d hc (.tup ys)
 exact q c ys _ ((s1.trans s5).trans s6) a0b (w5.same s6)
end
abbrev a1E:Stmt:=top 7
section
variable {P:Program} {w:World} {K:PySem.W.Frag} {mg:Str→Option Value} {base:Heap} {f:Addr} {fd:FuncData}
def al (m x:Int):Bool:=decide (0≤x) && decide (x < m)
def alone (m:Int) (ns:List Int):Bool:=(ns.map (al m)).all id
def a1P:Sp:=fun vs H Q _=>∃ (x:V) (ns:List Int) (m:Int),vs=[x,.int m]∧Wd H x ns∧ns.length≤1000∧∀ H',a0t H H'→Q (.bl (alone m ns)) H'
theorem a5H:a0o ["word","letters"] ["word","letters"] (a0e a1E):=⟨rfl,rfl,rfl,by decide +kernel,rfl,by decide +kernel,by decide +kernel⟩
theorem ndA:(("letter":Str) :: ["word","letters"]).Nodup:=by decide +kernel
theorem a4h (F:Fun K "has_letters_alone" "has_letters_alone" a1E f fd) (ma:mg "all"=none):a1c P w K mg base CX0 1 f fd ["word","letters"] a1P:=by
 refine F.ok (k:=0) a5H (fun vs H Q E h=>?_) (fun cdv A outer s H vs Q E hr h=>?_)
 ·obtain ⟨x,ns,m,rfl,_⟩:=h
  rfl
 obtain ⟨x,ns,m,rfl,hx,hl,q⟩:=h
 obtain ⟨a,rfl,ha⟩:=hx.ti
 refine ⟨_,a0i (a0s (a0j (a2z rfl) (by rfl) ma b0m (a0a (a1X (M:=["word","letters"]) rfl (a0k.of (a0e a1E) ["word","letters"] rfl rfl rfl (by decide +kernel) (by decide +kernel) (by decide +kernel) rfl (by decide +kernel)) ndA rfl (pv 0) a1f
  (fun cl C s0 H0 fp=>⟨a0W,a2y a7a a4x a0h (pv 0) (pv 2)⟩)) a0c))),?_⟩
 refine ⟨_,rfl,a,_,rfl,SqT.of ha,fun d hd=>?_⟩
 refine ⟨fun k H'=>a0t H H'∧H' d=some (.lst (((ns.take k).map (al m)).map V.bl)),⟨a0d hd _,a0b⟩,fun k H' _ hP=>SqT.of (hP.1 _ _ ha),fun k x H' hx hP=>?_,fun H' hP=>?_⟩
 ·obtain ⟨sm,hd'⟩:=hP
  rw [List.getElem?_map] at hx
  cases hz:ns[k]? with
  | none=>rw [hz] at hx;cases hx
  | some z =>
   rw [hz] at hx;cases hx
   have hk:=(List.getElem?_eq_some_iff.mp hz).1
   have fin:∀ b,b=al m z→∃ ys,H' d=some (.lst ys)∧ys.length < sizeLine∧(a0t H (upd H' d (.lst (ys++[.bl b])))∧upd H' d (.lst (ys++[.bl b])) d=some (.lst (((ns.take (k+1)).map (al m)).map V.bl))):=fun b eb=>by
    refine ⟨_,hd',?_,a0q hd sm,?_⟩
    ·rw [List.length_map,List.length_map,List.length_take];exact a0z (by omega)
    ·rw [a0b,List.take_add_one,hz,List.map_append,List.map_append,eb];rfl
   refine a0R ⟨_,rfl,_,_,rfl,rfl,_,rfl,?_⟩
   refine a1s (fun c=>?_) (fun c=>?_)
   ·refine ⟨_,rfl,_,_,rfl,rfl,?_⟩
    exact fin _ (by unfold al;rw [c];rfl)
   ·exact fin _ (by unfold al;rw [Bool.eq_false_iff.mpr c];rfl)
 ·obtain ⟨sm,hd'⟩:=hP
  rw [List.length_map,List.take_length] at hd'
  exact ⟨d,_,rfl,hd',q H' sm⟩
theorem a4i {m:Int} {ns:List Int} (h:alone m ns=true):∀ x∈ns,0≤x∧x < m:=fun x hx=>by
 have q:=List.all_eq_true.mp h (al m x) (List.mem_map_of_mem hx)
 unfold al at q
 simp only [id,Bool.and_eq_true,decide_eq_true_eq] at q
 exact q
theorem a5d {m:Int} {ns:List Int}:alone m ns=true↔∀ x∈ns,0≤x∧x < m:=by
 refine ⟨a4i,fun h=>?_⟩
 unfold alone
 rw [List.all_eq_true]
 intro b hb
 obtain ⟨x,hx,rfl⟩:=List.mem_map.mp hb
 obtain ⟨h1,h2⟩:=h x hx
 unfold al
 simp [h1,h2]
end
end K18
namespace L2
open PySem PySem.Spec PyProof.Rows
section
variable {prog:Program} {w:World} {A:Around} {E:Value→Shared→Prop} {s:Shared} {k:Bool} {ee it l:Addr} {n:Nat} {xs:Array Value} {x:Value}
theorem b1j {M:Model} {a:Addr} {Q:Option Obj→Shared→Prop} (h:Q (s.heap.get? a) s):wpAny M A (loadIfAlive a) Q E s:=fun Γ p _=>by
 show Sem.wp M Γ (.loadIfAlive a .pure) _ _ p s
 rw [Sem.wp_loadIfAlive]
 simpa using h
abbrev EnO (h:Heap) (ee it a:Addr) (fl:Bool) (i:Int) (old:Value):Prop:=h.get? ee=some { cls:=.type "enumerate",dict:=none,data:=.fields #[rawInt a,.bool fl,.ref it,rawInt i,.none,old],slots:=#[] }
theorem a7K {a:Addr} {fl:Bool} {old:Value} {oa:Obj} {Q:Value→Shared→Prop} (he:EnO s.heap ee it a fl n old) (ha:s.heap.get? a=some oa) (ae:a≠ee) (ai:a≠it) (hi:SIt k s.heap it l n) (hl:SAt k s.heap l xs) (hx:xs[n]?=some x) (hne:ee≠it)
  (hQ:∀ h',EnO h' ee it a true ((n:Int)+1) old→SIt k h' it l (n+1)→h'.get? s.heap.objs.size=some { cls:=.type "tuple",data:=.seq #[.int n s.toks,x] } →
   (∀ b o,b≠ee→b≠it→s.heap.get? b=some o→h'.get? b=some o)→Q (.ref s.heap.objs.size) { s with heap:=h',toks:=s.toks+1 }) :
  wpAny (model prog w) A (Builtin.«enumerate.__next__» ⟨[.ref ee],[]⟩) (fun fin s'=>∃ v,fin=.done (.ret v)∧Q v s') E s:=by
 obtain ⟨hp,g,d,tk,os⟩:=s
 show wpAny _ _ (field (.ref ee) 2 >>= _) _ _ _
 refine wpAny_bind (wpAny_field he rfl (x:=.ref it) rfl (wpAny_bind (a8I hi hl hx fun g1 i1 b1=>?_)))
 have b1:Heap.SameBut it hp g1:=b1
 have e1:EnO g1 ee it a fl n old:=(b1.2 ee hne).trans he
 show wpAny _ _ (field (.ref ee) 3 >>= _) _ _ ⟨g1,g,d,tk,os⟩
 refine wpAny_bind (wpAny_field e1 rfl (x:=rawInt n) rfl ?_)
 show wpAny _ _ (field (.ref ee) 4 >>= _) _ _ ⟨g1,g,d,tk,os⟩
 refine wpAny_bind (wpAny_field e1 rfl (x:=.none) rfl ?_)
 show wpAny _ _ (mkInt n >>= _) _ _ ⟨g1,g,d,tk,os⟩
 refine wpAny_bind (wpAny_mkInt ?_)
 show wpAny _ _ (setField (.ref ee) 3 (rawInt ((n:Int)+1)) >>= _) _ _ ⟨g1,g,d,tk+1,os⟩
 refine wpAny_bind (wpAny_setField_rec e1 (by simp) fun g2 e2 b2=>?_)
 have b2:Heap.SameBut ee g1 g2:=b2
 have e2:EnO g2 ee it a fl ((n:Int)+1) old:=e2
 show wpAny _ _ (setField (.ref ee) 4 .none >>= _) _ _ ⟨g2,g,d,tk+1,os⟩
 refine wpAny_bind (wpAny_setField_rec e2 (by simp) fun g3 e3 b3=>?_)
 have b3:Heap.SameBut ee g2 g3:=b3
 have e3:EnO g3 ee it a fl ((n:Int)+1) old:=e3
 show wpAny _ _ (newTuple [.int n tk,x] >>= _) _ _ ⟨g3,g,d,tk+1,os⟩
 refine wpAny_bind (wpAny_newTuple ?_)
 have e4:EnO (g3.push { cls:=.type "tuple",data:=.seq #[.int n tk,x] }) ee it a fl ((n:Int)+1) old:=Heap.get?_push_of_some _ e3
 have a4:(g3.push { cls:=.type "tuple",data:=.seq #[.int n tk,x] }).get? a=some oa:=Heap.get?_push_of_some _ (b3.extBut _ _ ae (b2.extBut _ _ ae (b1.extBut _ _ ai ha)))
 generalize q4:g3.push { cls:=.type "tuple",data:=.seq #[.int n tk,x] }=g4 at e4 a4
 have sz:g3.objs.size=hp.objs.size:=by rw [b3.1,b2.1,b1.1]
 have lt:ee < hp.objs.size:=Heap.lt_size he
 have t4:g4.get? hp.objs.size=some { cls:=.type "tuple",data:=.seq #[.int n tk,x] }:=by rw [←q4,←sz];exact Heap.get?_push_size _ rfl
 have k4:∀ b o,b≠ee→b≠it→hp.get? b=some o→g4.get? b=some o:=fun b o c1 c2 hb=>by
  rw [←q4];exact Heap.get?_push_of_some _ (b3.extBut b o c1 (b2.extBut b o c1 (b1.extBut b o c2 hb)))
 have i4:SIt k g4 it l (n+1):=i1.at fun o e=>by
  rw [←q4];exact Heap.get?_push_of_some _ (b3.extBut _ _ (Ne.symm hne) (b2.extBut _ _ (Ne.symm hne) e))
 show wpAny _ _ (Builtin.SmallTypes.ownedTupleIsFree (.ref ee) >>= _) _ _ ⟨g4,g,d,tk+1,os⟩
 rw [sz]
 refine wpAny_bind ?_
 unfold Builtin.SmallTypes.ownedTupleIsFree
 refine wpAny_bind (wpAny_field e4 rfl (x:=rawInt a) rfl ?_)
 show wpAny _ _ (loadIfAlive ((a:Int)).toNat >>= _) _ _ _
 refine wpAny_bind (b1j ?_)
 rw [show ((a:Int)).toNat=a by omega]
 show wpAny _ _ (if (g4.get? a).isNone=true then _ else _) _ _ _
 rw [a4,if_neg (by simp)]
 refine wpAny_bind (wpAny_field e4 rfl (x:=.bool fl) rfl ?_)
 cases fl with
 | true =>
  refine wpAny_pure (wpAny_pure ⟨_,rfl,hQ g4 e4 i4 t4 k4⟩)
 | false =>
  show wpAny _ _ (setField (.ref ee) 1 (.bool true) >>= _) _ _ ⟨g4,g,d,tk+1,os⟩
  refine wpAny_bind (wpAny_setField_rec e4 (by simp) fun g5 e5 b5=>?_)
  have b5:Heap.SameBut ee g4 g5:=b5
  refine wpAny_pure (wpAny_pure ⟨_,rfl,hQ g5 e5 (i4.at fun o e=>b5.extBut _ _ (Ne.symm hne) e) (b5.extBut _ _ (Nat.ne_of_gt lt) t4) fun b o c1 c2 e=>b5.extBut _ _ c1 (k4 b o c1 c2 e)⟩)
theorem a7L {a:Addr} {fl:Bool} {old:Value} {oa:Obj} {Q:Option Value→Shared→Prop} (he:EnO s.heap ee it a fl n old) (ha:s.heap.get? a=some oa) (ae:a≠ee) (ai:a≠it) (hi:SIt k s.heap it l n) (hl:SAt k s.heap l xs) (hx:xs[n]?=some x) (hne:ee≠it)
  (hQ:∀ h',EnO h' ee it a true ((n:Int)+1) old→SIt k h' it l (n+1)→h'.get? s.heap.objs.size=some { cls:=.type "tuple",data:=.seq #[.int n s.toks,x] } →
   (∀ b o,b≠ee→b≠it→s.heap.get? b=some o→h'.get? b=some o)→Q (some (.ref s.heap.objs.size)) { s with heap:=h',toks:=s.toks+1 }):wpAny (model prog w) A (pyNext (.ref ee)) Q E s:=by
 have hT:s.TypeIs (.ref ee) "enumerate":=⟨_,he,rfl⟩
 unfold pyNext
 exact wpAny_bind (wpAny_attempt (wpAny_callSpecial?_slot (name:=Str.ofString "__next__") hT F.slot_enumerate_next (wpAny_call_entry F.slot_enumerate_next hT F.entry_enumerate_next
  (a7K he ha ae ai hi hl hx hne fun h' a b c d=>wpAny_pure (hQ h' a b c d)) (F.args_enumerate_next_1 _))))
theorem a7M {a:Addr} {fl:Bool} {old:Value} {Q:Option Value→Shared→Prop} (hh:A.handled=none) (he:EnO s.heap ee it a fl n old) (hi:SIt k s.heap it l n) (hl:SAt k s.heap l xs) (hx:xs[n]?=none)
  (hQ:∀ h',Heap.ExtBut it s.heap h'→Q none { s with heap:=h' }):wpAny (model prog w) A (pyNext (.ref ee)) Q E s:=by
 have hT:s.TypeIs (.ref ee) "enumerate":=⟨_,he,rfl⟩
 unfold pyNext
 refine wpAny_bind (wpAny_attempt (wpAny_callSpecial?_slot (name:=Str.ofString "__next__") hT F.slot_enumerate_next (wpAny_call_entry F.slot_enumerate_next hT F.entry_enumerate_next ?_ (F.args_enumerate_next_1 _))))
 show wpAny _ _ (field (.ref ee) 2 >>= _) _ _ _
 refine wpAny_bind (wpAny_field he rfl (x:=.ref it) rfl (wpAny_bind (endS hh hi hl hx fun h' e b he'=>?_)))
 obtain ⟨o,ho,hc⟩:=he'
 exact wpAny_bind (wpAny_isInstance (T:="StopIteration") (b:=true) ⟨o,ho,hc⟩ isSubtype_stop (wpAny_pure (hQ _ b)))
end
section
variable {X:Cx} {pins:List (Addr × Obj)} {σ:St} {H:Hp} {k:Bool} {l ee it S:Addr} {xs:List V} {res:Value} {R:Result→Shared→Prop}
def EnS (h:Heap) (ee it S:Addr) (n:Nat):Prop:=(∃ old,IsEnum h ee it n old)∨∃ a fl old oa,EnO h ee it a fl n old∧h.get? a=some oa∧a≠ee∧a≠it∧a≠S
def b3f (H:Hp) (xs ys:List V):Prop:=∀ (i:Nat) y,ys[i]?=some y→∃ (t:Addr) (x:V),y=.ref t∧xs[i]?=some x∧H t=some (.tup [.int (i:Int),x])
theorem enl_go {A:Around} (hA:A.handled=none) (hq:SqK X.K k H l xs) (hl9:xs.length≤1000) (fe:∀ H',H' ee=none→a6Y X pins H' ee) (fi:∀ H',H' it=none→a6Y X pins H' it) (fS:∀ H',H' S=none→a6Y X pins H' S) (ne:ee≠it) (n1:S≠ee) (n2:S≠it)
  (hK:∀ {H':Hp},a0t H H'→SqK X.K k H' l xs)
  (hR:∀ s' Hn ys (acc:Array Value) c,Inv X pins σ Hn s'→a0t H Hn→Hn S=none→s'.heap.get? S=some { cls:=.type "list",dict:=none,data:=.seq acc c,slots:=#[] }→a0D ys acc.toList→ys.length=xs.length→b3f Hn xs ys→R (.ok (.ret res)) s') :
  ∀ (m n:Nat) (s:Shared) (Hn:Hp) (ys:List V) (acc:Array Value) (c:Nat),xs.length - n=m→n≤xs.length→Inv X pins σ Hn s→a0t H Hn→EnS s.heap ee it S n→SIt k s.heap it l n→Hn ee=none→Hn it=none→Hn S=none →
   s.heap.get? S=some { cls:=.type "list",dict:=none,data:=.seq acc c,slots:=#[] }→a0D ys acc.toList→ys.length=n→b3f Hn xs ys →
   codeAny (model X.prog X.w) A (.builtin "list.extend.loop" ⟨[.ref S,.ref ee,res],[]⟩) R s:=by
 intro m
 induction m with
 | zero =>
  intro n s Hn ys acc c hm hn J sm en si nE nI nS hS hv ly pr
  have en':n=xs.length:=by omega
  obtain ⟨us,r1,p1⟩:=a7T J (hK sm)
  have e1:=r1.length
  refine codeAny_builtin F.entry_extend_loop ?_
  rw [Around.under_plainId F.plain_extend_loop _]
  show wpAny _ A.in1 (pyNext (.ref ee) >>= _) _ _ s
  have fin:∀ h',Heap.ExtBut it s.heap h'→R (.ok (.ret res)) { s with heap:=h' }:=fun h' eb=>by
   obtain ⟨f0,f1,f2,f3,f4,f5⟩:=fi Hn nI
   exact hR _ Hn ys acc c (J.turned (t':=s.toks) (fun b o hb e=>eb b o hb e) f0 f1 f3 f4 f5) sm nS (eb S _ n2 hS) hv (by omega) pr
  rcases en with ⟨old,he⟩ | ⟨a,fl,old,oa,he,ha,ae,ai,aS⟩
  ·exact wpAny_bind (a3w (by show A.handled=none;exact hA) he si p1 (by simp;omega) fun h' eb=>wpAny_pure (fin h' eb))
  ·exact wpAny_bind (a7M (by show A.handled=none;exact hA) he si p1 (by simp;omega) fun h' eb=>wpAny_pure (fin h' eb))
 | succ m ih =>
  intro n s Hn ys acc c hm hn J sm en si nE nI nS hS hv ly pr
  have hlt:n < xs.length:=by omega
  obtain ⟨us,r1,p1⟩:=a7T J (hK sm)
  have hx:xs[n]?=some xs[n]:=List.getElem?_eq_getElem hlt
  obtain ⟨u,hu,ru⟩:=r1.get hx
  have lE:ee < s.heap.objs.size:=by
   rcases en with ⟨old,he⟩ | ⟨a,fl,old,oa,he,_⟩
   ·exact Heap.lt_size he
   ·exact Heap.lt_size he
  have lS:S < s.heap.objs.size:=Heap.lt_size hS
  have hT:Hn s.heap.objs.size=none:=J.hok.fresh (Nat.le_refl _)
  refine codeAny_builtin F.entry_extend_loop ?_
  rw [Around.under_plainId F.plain_extend_loop _]
  show wpAny _ A.in1 (pyNext (.ref ee) >>= _) _ _ s
  have go:∀ h',EnS h' ee it S (n+1)→SIt k h' it l (n+1)→h'.get? s.heap.objs.size=some { cls:=.type "tuple",data:=.seq #[.int n s.toks,u] }→(∀ b o,b≠ee→b≠it→s.heap.get? b=some o→h'.get? b=some o) →
    wpAny (model X.prog X.w) A.in1 (updateSeq S (·.push (.ref s.heap.objs.size)) >>= fun _=>(again (.builtin "list.extend.loop" ⟨[.ref S,.ref ee,res],[]⟩):Sem Fin)) (fun fin s'=>match fin with | .done f=>R (.ok f) s' | .again c'=>c'.quiet=true∧codeAny (model X.prog X.w) A c' R s') (fun e s'=>R (.error e) s') { s with heap:=h',toks:=s.toks+1 }:=fun h' en' si' pr' kk=>by
   have Tz:s.heap.objs.size≠ee:=Nat.ne_of_gt lE
   have hS':h'.get? S=some { cls:=.type "list",dict:=none,data:=.seq acc c,slots:=#[] }:=kk S _ n1 n2 hS
   have lI:it < s.heap.objs.size:=by
    cases k with
    | true=>obtain ⟨o,ho,_⟩:=id si;exact Heap.lt_size ho
    | false=>obtain ⟨o,ho,_⟩:=id si;exact Heap.lt_size ho
   have I1:Inv X pins σ (upd Hn s.heap.objs.size (.tup [.int (n:Int),xs[n]])) { s with heap:=s.heap.push { cls:=.type "tuple",data:=.seq #[.int n s.toks,u] },toks:=s.toks+1 }:=J.laid (t':=s.toks+1) (fun b u e=>Heap.get?_push_of_some _ e) (Nat.le_refl _) ⟨by show 2≤sizeLine;decide,[.int n s.toks,u],.cons ⟨_,rfl⟩ (.cons ru .nil),⟨_,Heap.get?_push_size _ rfl,_,rfl⟩⟩
   have z:∀ {b:Addr},b < s.heap.objs.size→Hn b=none→upd Hn s.heap.objs.size (.tup [.int (n:Int),xs[n]]) b=none:=fun {b} lb e=>by rw [a0l (Nat.ne_of_lt lb)];exact e
   have I2:=I1.turnedL (h':=h') (t':=s.toks+1) (L:=[ee,it]) (fun c o hc e=>by
    simp only [List.mem_cons,List.not_mem_nil,or_false,not_or] at hc
    by_cases zc:c=s.heap.objs.size
    ·subst zc
     rw [Heap.get?_push_size _ rfl] at e
     cases e
     exact pr'
    ·have e':s.heap.get? c=some o:=by rw [←e];exact (Heap.get?_push_ne _ _ _ zc).symm
     exact kk c o hc.1 hc.2 e') (fun b hb=>by
    rcases List.mem_cons.mp hb with rfl | hb
    ·exact fe _ (z lE nE)
    ·rw [List.mem_singleton.mp hb];exact fi _ (z lI nI))
   have s2:=a0d hT (.tup [.int (n:Int),xs[n]])
   obtain ⟨g0,g1,g2,g3,g4,g5⟩:=fS _ (z lS nS)
   have sz:acc.size=n:=by rw [←Array.length_toList,←hv.length,ly]
   refine wpAny_bind (wpAny_updateSeq hS' rfl (wpAny_pure ⟨plainId_quiet F.plain_extend_loop _,?_⟩) (by rw [sz];show n≤sizeLine;exact small (by omega)) (by show (acc.push _).size≤sizeLine+1;rw [Array.size_push,sz];have:=small (n:=n) (by omega);omega))
   refine ih (n+1) _ _ (ys++[.ref s.heap.objs.size]) (acc.push (.ref s.heap.objs.size)) _ (by omega) (by omega) (I2.turned (t':=s.toks+1) (fun b o hb e=>by rw [Heap.get?_update_ne _ _ _ _ hb];exact e) g0 g1 g3 g4 g5) (sm.trans s2) ?_ (si'.at fun o e=>by rw [Heap.get?_update_ne _ _ _ _ (Ne.symm n2)];exact e) (z lE nE) (z lI nI) (z lS nS) (Heap.get?_update_self _ hS' rfl) ?_ (by rw [List.length_append,ly];rfl) ?_
   ·rcases en' with ⟨old,he⟩ | ⟨a,fl,old,oa,he,ha,ae,ai,aS⟩
    ·exact .inl ⟨old,by rw [IsEnum,Heap.get?_update_ne _ _ _ _ (Ne.symm n1)];exact he⟩
    ·exact .inr ⟨a,fl,old,oa,by rw [EnO,Heap.get?_update_ne _ _ _ _ (Ne.symm n1)];exact he,by rw [Heap.get?_update_ne _ _ _ _ aS];exact ha,ae,ai,aS⟩
   ·rw [Array.toList_push]
    exact Paired.appendP hv (.cons rfl .nil)
   ·intro i y hy
    rcases Nat.lt_or_ge i ys.length with lt | ge
    ·rw [List.getElem?_append_left lt] at hy
     obtain ⟨t,x,e,hxi,ht⟩:=pr i y hy
     exact ⟨t,x,e,hxi,s2 _ _ ht⟩
    ·rw [List.getElem?_append_right ge] at hy
     have hk:i - ys.length=0:=by
      have:=(List.getElem?_eq_some_iff.mp hy).1
      simp at this
      omega
     rw [hk] at hy
     cases hy
     have:i=n:=by omega
     subst this
     exact ⟨_,_,rfl,hx,a0b⟩
  rcases en with ⟨old,he⟩ | ⟨a,fl,old,oa,he,ha,ae,ai,aS⟩
  ·exact wpAny_bind (a3v he si p1 (x:=u) (by simpa using hu) ne fun h' z1 a1 pr' kk=>go h' (.inr ⟨_,_,_,_,z1,pr',Nat.ne_of_gt lE,(fun e=>by
    cases k with
    | true=>obtain ⟨o,ho,_⟩:=id si;exact absurd (Heap.lt_size ho) (by rw [←e];exact Nat.lt_irrefl _)
    | false=>obtain ⟨o,ho,_⟩:=id si;exact absurd (Heap.lt_size ho) (by rw [←e];exact Nat.lt_irrefl _)),Nat.ne_of_gt lS⟩) a1 pr' kk)
  ·exact wpAny_bind (a7L he ha ae ai si p1 (x:=u) (by simpa using hu) ne fun h' z1 a1 pr' kk=>go h' (.inr ⟨a,_,_,oa,z1,kk a oa ae ai ha,ae,ai,aS⟩) a1 pr' kk)
end
theorem Inv.trackO {X:Cx} {pins:List (Addr × Obj)} {σ:List (Option V)} {H:Hp} {s:Shared} {b:Addr} {o:HO} (I:Inv X pins σ H s) (ob:Off X pins b) (n:H b=none) (new:a0F X.prog X.w (upd H b o) s.heap b o):Inv X pins σ (upd H b o) s:=by
 refine ⟨I.ok,I.os,I.bare,⟨I.base.keep,I.base.slot,fun c o e n' hx=>?_,I.base.there,fun c xs e=>?_,fun c o u e=>?_,fun c ps e=>?_⟩,I.loc,I.cell,?_,fun x c e=>?_,fun p hp=>?_,fun c u e=>?_,I.len⟩
 ·have hcb:c≠b:=fun z=>by
   subst z
   exact hx (ob.1 o e)
  rw [a0l hcb]
  exact I.base.free c o e n' hx
 ·rw [a0l (a0r (I.base.tups c xs e) n)]
  exact I.base.tups c xs e
 ·rw [a0l (a0r (I.base.frzs c o u e) n)]
  exact I.base.frzs c o u e
 ·obtain ⟨more,q⟩:=I.base.tbls c ps e
  exact ⟨more,by rw [a0l (a0r q n)];exact q⟩
 ·rw [a0l (Ne.symm ob.2.1)]
  exact I.free
 ·rw [a0l (ob.2.2.1 x c e)]
  exact I.freeC x c e
 ·obtain ⟨e,n',ne,nf',d⟩:=I.pin p hp
  exact ⟨e,by rw [a0l (ob.2.2.2 p hp)];exact n',ne,nf',d⟩
 ·by_cases hc:c=b
  ·subst hc
   rw [a0b] at e
   cases e
   exact new
  ·rw [a0l hc] at e
   refine (I.hok c u e).stay (fun _ _ _ q=>q) (fun d r=>?_) fun d xs r=>?_
   ·rw [a0l (a0r r n)];exact r
   ·rw [a0l (a0r r n)];exact r
theorem a7N:typeLookup (.type "enumerate") "__len__"=pure none:=by rw [typeLookup_type,builtinLookup_eq_fast];kernel_rfl
theorem a5I:typeLookup (.type "enumerate") "__length_hint__"=pure none:=by rw [typeLookup_type,builtinLookup_eq_fast];kernel_rfl
def tLE (K:PySem.W.Frag) (te:TE):TE:=fun σ H Q=>te σ H fun x H1=>∃ l xs,x=.ref l∧SqT K H1 l xs∧xs.length≤1000∧(∀ {H'},a0t H1 H'→SqT K H' l xs)∧∀ p ys H',a0t H1 H'→H1 p=none→H' p=some (.lst ys)→b3f H' xs ys→ys.length=xs.length→Q (.ref p) H'
theorem a5J {X:Cx} {e:Expr} {te:TE} {p p2 pos pos2:Pos} (hc:X.calm=true) (hg:Gl X "list") (hm:X.mg "list"=none) (hg2:Gl X "enumerate") (hm2:X.mg "enumerate"=none) (he:PE X e te)
  (hs:starEach [.Call (.Name "enumerate" p2) [e] [] pos2] X.env=(false,eval (.Call (.Name "enumerate" p2) [e] [] pos2) X.env) :: starEach [] X.env:=by rfl) (hs2:starEach [e] X.env=(false,eval e X.env) :: starEach [] X.env:=by rfl) :
  PE X (.Call (.Name "list" p) [.Call (.Name "enumerate" p2) [e] [] pos2] [] pos) (tLE X.K te):=by
 intro pins s σ H Q I h
 refine wpAny_Call_Name_kw (a1t I hg hm a8z ?_ (by decide) (by decide))
 refine PyProof.Rows.callWith_type1 ?_ hs rfl
 rw [hs]
 refine Calls.spliced_cons ?_
 refine wpAny_Call_Name_kw (a1t I hg2 hm2 b1G ?_ (by decide) (by decide))
 refine PyProof.Rows.callWith_type1 ?_ hs2 rfl
 rw [hs2]
 refine Calls.spliced_cons (thn (he pins s σ H _ I h) fun u s1 ⟨x,H1,I1,r1,q1⟩=>?_)
 refine Calls.spliced_nil ?_
 obtain ⟨l,xs,rfl,hl,l9,hK,q⟩:=q1
 cases r1
 obtain ⟨us,rv,p1⟩:=a7T (k:=true) I1 hl
 refine callE (k:=true) p1 fun h1 ea kp=>?_
 refine Calls.spliced_nil ?_
 obtain ⟨⟨old,hen⟩,hsi⟩:=ea
 have I2:Inv X pins σ H1 { s1 with heap:=h1 }:=I1.kept (t':=s1.toks) kp
 have lE:=Heap.lt_size hen
 have lI:s1.heap.objs.size < h1.objs.size:=by obtain ⟨o,ho,_⟩:=id hsi;exact Heap.lt_size ho
 refine callType_codes (Q₁:=fun obj s₁=>obj=.ref h1.objs.size∧s₁={ s1 with heap:=h1.push { cls:=.type "list",data:=.seq #[] } }) PySem.F.called_list (PySem.F.typeCall_list_1 _) PySem.F.entry_list_init
  (code_list_new _ ⟨rfl,rfl⟩) fun obj s₁ h₁=>?_
 obtain ⟨rfl,rfl⟩:=h₁
 have hS:(h1.push { cls:=.type "list",data:=.seq #[] }).get? h1.objs.size=some { cls:=.type "list",data:=.seq #[] }:=Heap.get?_push_size _ rfl
 refine ⟨⟨_,hS,rfl⟩,PySem.F.args_list_init_2 _ _,?_⟩
 show wpAny _ _ (do let old ←Builtin.List.listItems (.ref h1.objs.size);Builtin.List.listUpdate (.ref h1.objs.size) (fun _=>#[]);letGo old.toList.reverse;Builtin.List.listExtendWith (.ref h1.objs.size) (.ref (s1.heap.objs.size+1)) .none) _ _ _
 refine wpAny_bind ?_
 unfold Builtin.List.listItems
 refine wpAny_bind (wpAny_seqItems hS rfl (wpAny_pure ?_))
 show wpAny _ _ (updateSeq h1.objs.size (fun _=>#[]) >>= fun _=>letGo (#[]:Array Value).toList.reverse >>= fun _=>Builtin.List.listExtendWith (.ref h1.objs.size) (.ref (s1.heap.objs.size+1)) .none) _ _ _
 refine wpAny_bind (wpAny_updateSeq hS rfl ?_)
 refine wpAny_bind (wpAny_letGo ?_)
 have hS2:=Heap.get?_update_self (Obj.mapSeq (fun _=>(#[]:Array Value))) hS rfl
 have up:∀ b o,h1.get? b=some o→((h1.push { cls:=.type "list",data:=.seq #[] }).update h1.objs.size (Obj.mapSeq (fun _=>(#[]:Array Value)))).get? b=some o:=fun b o e=>by
  rw [Heap.get?_update_ne _ _ _ _ (Nat.ne_of_lt (Heap.lt_size e))]
  exact Heap.get?_push_of_some _ e
 show wpAny _ _ _ _ _ { s1 with heap:=(h1.push { cls:=.type "list",data:=.seq #[] }).update h1.objs.size (Obj.mapSeq (fun _=>(#[]:Array Value))) }
 generalize (h1.push { cls:=.type "list",data:=.seq #[] }).update h1.objs.size (Obj.mapSeq (fun _=>(#[]:Array Value)))=g at hS2 up ⊢
 have hen2:IsEnum g (s1.heap.objs.size+1) s1.heap.objs.size 0 old:=up _ _ hen
 have hT:Shared.TypeIs { s1 with heap:=g } (.ref (s1.heap.objs.size+1)) "enumerate":=⟨_,hen2,rfl⟩
 have nSE:h1.objs.size≠s1.heap.objs.size+1:=Nat.ne_of_gt lE
 have nSI:h1.objs.size≠s1.heap.objs.size:=Nat.ne_of_gt lI
 have hsr:Builtin.List.listSameRef (.ref h1.objs.size) (.ref (s1.heap.objs.size+1))=false:=by simp [Builtin.List.listSameRef,nSE]
 unfold Builtin.List.listExtendWith
 refine wpAny_bind (wpAny_typeOf hT ?_)
 rw [if_neg (by rw [hsr];decide)]
 refine wpAny_bind (wpAny_pyIter_enum hen2 ?_)
 refine wpAny_bind (wpAny_holding ?_)
 unfold Builtin.List.listLengthHint
 refine wpAny_bind (wpAny_specialOf hT a7N ?_)
 show wpAny _ _ (specialOf (Value.ref (s1.heap.objs.size+1)) (Str.ofString "__length_hint__") >>= _) _ _ _
 refine wpAny_bind (wpAny_specialOf hT a5I ?_)
 refine wpAny_pure ?_
 show wpAny _ _ (rule "list.extend.makes-room" >>= fun _=>Builtin.List.listTouch (.ref h1.objs.size) >>= fun _=>(again (.builtin "list.extend.loop" ⟨[.ref h1.objs.size,.ref (s1.heap.objs.size+1),.none],[]⟩):Sem Fin)) _ _ _
 refine wpAny_bind (wpAny_rule (wpAny_bind ?_))
 show wpAny _ _ (updateSeq h1.objs.size (·.push .none) >>= fun _=>updateSeq h1.objs.size (·.pop)) _ _ _
 refine wpAny_bind (wpAny_updateSeq hS2 rfl ?_)
 have hS3:=Heap.get?_update_self (Obj.mapSeq (fun a:Array Value=>a.push .none)) hS2 rfl
 refine wpAny_updateSeq hS3 rfl (wpAny_pure ⟨plainId_quiet F.plain_extend_loop _,?_⟩)
 have hS4:=Heap.get?_update_self (Obj.mapSeq (fun a:Array Value=>a.pop)) hS3 rfl
 have up4:∀ b o,b≠h1.objs.size→g.get? b=some o→((g.update h1.objs.size (Obj.mapSeq (fun a:Array Value=>a.push .none))).update h1.objs.size (Obj.mapSeq (fun a:Array Value=>a.pop))).get? b=some o:=fun b o hb e=>by
  rw [Heap.get?_update_ne _ _ _ _ hb,Heap.get?_update_ne _ _ _ _ hb]
  exact e
 show codeAny _ _ _ _ { s1 with heap:=(g.update h1.objs.size (Obj.mapSeq (fun a:Array Value=>a.push .none))).update h1.objs.size (Obj.mapSeq (fun a:Array Value=>a.pop)) }
 generalize (g.update h1.objs.size (Obj.mapSeq (fun a:Array Value=>a.push .none))).update h1.objs.size (Obj.mapSeq (fun a:Array Value=>a.pop))=g' at hS4 up4 ⊢
 have k4:∀ b o,h1.get? b=some o→g'.get? b=some o:=fun b o e=>up4 b o (Nat.ne_of_lt (Heap.lt_size e)) (up b o e)
 have J:Inv X pins σ H1 { s1 with heap:=g' }:=I1.kept (t':=s1.toks) fun b o e=>k4 b o (kp b o e)
 have sz1:s1.heap.objs.size≤h1.objs.size:=Nat.le_of_lt lI
 refine enl_go (A:=X.A.in1) (k:=true) (H:=H1) (l:=l) (xs:=xs) (by show X.A.handled=none;exact I.ok.hd hc) hl l9 (fun H' hn=>I1.fpOk (Nat.le_succ _) hn) (fun H' hn=>I1.fpOk (Nat.le_refl _) hn) (fun H' hn=>I1.fpOk sz1 hn) (by simp) nSE nSI (fun {H'} sm=>hK sm) (fun s' Hn ys acc c Jn sm nS gS hv ly pr=>?_) xs.length 0 { s1 with heap:=g' } H1 [] _ _ rfl (Nat.zero_le _) J (a0t.refl _) (.inl ⟨old,k4 _ _ hen⟩) (hsi.at fun o e=>k4 _ _ e) (I1.hok.fresh (Nat.le_succ _)) (I1.hok.fresh (Nat.le_refl _)) (I1.hok.fresh sz1) hS4 ?_ rfl (fun i y hy=>by simp at hy)
 ·refine ⟨rfl,.ref h1.objs.size,upd Hn h1.objs.size (.lst ys),?_,rfl,q _ ys _ (sm.trans (a0d nS (.lst ys))) (I1.hok.fresh sz1) a0b (fun i y hy=>?_) ly⟩
  ·exact Jn.trackO (I1.off (Heap.get?_none_of_le sz1)) nS ⟨by rw [ly];exact small l9,acc.toList,c,hv,gS⟩
  ·obtain ⟨t,x,e1,e2,e3⟩:=pr i y hy
   exact ⟨t,x,e1,e2,a0d nS (.lst ys) _ _ e3⟩
 ·exact .nil
end L2
namespace K18
open PySem L2
theorem a5e {α β:Type} {R:α→β→Prop}:∀ {ys:List α} {zs:List β},ys.length=zs.length→(∀ (i:Nat) y z,ys[i]?=some y→zs[i]?=some z→R y z)→Paired R ys zs
 | [],[],_,_=>.nil
 | y :: ys,z :: zs,l,h=>.cons (h 0 y z rfl rfl) (a5e (by simpa using l) fun i a b ha hb=>h (i+1) a b ha hb)
abbrev sTo:Stmt:=top 20
section
variable {P:Program} {w:World} {K:PySem.W.Frag} {mg:Str→Option Value} {base:Heap} {f:Addr} {fd:FuncData}
abbrev NTo:List Str:=["code","letters"]
def spTo (CB CC:Addr) (n:Nat):Sp:=fun vs H Q E=>∃ (c:Addr) (xs:List V) (ws:List (List Int)) (L:Nat),vs=[.ref c,.int (L:Int)]∧H c=some (.tup xs)∧Ws H xs ws∧ws≠[]∧ws.length≤100∧(∀ u∈ws,u.length < n)∧n≤100∧L≤10 ∧
 ((∃ u∈ws,alone (L:Int) u=false)→∀ H',a0t H H'→E (.ref CB) none H') ∧
 ((∀ u∈ws,alone (L:Int) u=true)→(∀ i j:Nat,isF ws (some [(i:Int),(j:Int)])→∀ dx H',a0t H H'→H' dx=some (xdO dx (clF i j))→E (.ref CC) (some dx) H')∧(isF ws none→PF ws∧∀ x H',a0t H H'→a1d H' L n x (enP ws)→Q x H'))
theorem scTo:a0o NTo NTo (a0e sTo):=⟨rfl,rfl,rfl,by decide +kernel,rfl,by decide +kernel,by decide +kernel⟩
theorem ndTo:(("word":Str) :: NTo).Nodup:=by decide +kernel
theorem ok_to {CB CC:Addr} {n k:Nat} (F:Fun K "tree_of" "tree_of" sTo f fd) (GA:Fns P w K mg base ["word","letters"] "has_letters_alone" a1P k) (GR:a3i P w K mg base ["code"] "refuse_clash" (spRX CC) k) (GT:Fns P w K mg base ["pairs","letters"] "tree_of_pairs" (b3u n) k)
  (ma:mg "all"=none) (mL:mg "list"=none) (me:mg "enumerate"=none) (mB:mg "BadWord"=some (.ref CB)) (eB:Ecl K CB):a1c P w K mg base (CXF P w) (k+1) f fd ["code","letters"] (spTo CB CC n):=by
 refine F.okF (k:=k) scTo (fun vs H Q E h=>?_) (fun cdv A outer s H vs Q E hr h=>?_)
 ·obtain ⟨c,xs,ws,L,rfl,_⟩:=h
  rfl
 obtain ⟨c,xs,ws,L,rfl,hc,hw,ne,l100,sh,n100,l10,qB,qG⟩:=h
 refine ⟨_,a0f (a0U (a2r (a1q (a0j (a2z rfl) (by rfl) ma b0m (a0a (a1X (M:=NTo) rfl (a0k.of (a0e sTo) NTo rfl rfl rfl (by decide +kernel) (by decide +kernel) (by decide +kernel) rfl (by decide +kernel)) ndTo rfl (pv 0) a1f (fun cl C s0 H0 fp=>⟨a0W,a0m GA.ok hr (by rfl) GA.m GA.kp GA.b .nil a0L (a0a (pv 0) (a0a (pv 2) (a0c)))⟩)) (a0c))))) (a0i (a1F a0M rfl (by rfl) mB eB (a0a a3n a0c))) (a0x))
   (a0f (a1m (a0m GR.ok hr (by rfl) GR.m GR.kp GR.b .nil a0M (a0a (pv 0) (a0c))))
   (a0i (a0s (a0m GT.ok hr (by rfl) GT.m GT.kp GT.b .nil a0L (a0a (a5J rfl (by rfl) mL (by rfl) me (pv 0)) (a0a (pv 1) (a0c))))))),?_⟩
 refine ⟨_,rfl,c,xs,rfl,SqT.of hc,fun d hd=>?_⟩
 refine ⟨fun i H'=>a0t H H'∧H' d=some (.lst (((ws.take i).map (alone (L:Int))).map V.bl)),⟨a0d hd _,a0b⟩,fun i H' _ hP=>SqT.of (hP.1 _ _ hc),fun i x H' hx hP=>?_,fun H1 hP=>?_⟩
 ·obtain ⟨s2,g2⟩:=hP
  obtain ⟨u,hu,ru⟩:=Paired.right_of hw i x hx
  have li:=(List.getElem?_eq_some_iff.mp hu).1
  have lu:=sh u (List.mem_of_getElem? hu)
  refine a0R ⟨_,rfl,_,rfl,x,u,(L:Int),rfl,Wd.same s2 ru,by omega,fun H3 s3=>?_⟩
  refine ⟨_,s3 _ _ g2,a0z (by rw [List.length_map,List.length_map,List.length_take];omega),a0q hd (s2.trans s3),?_⟩
  rw [a0b,List.take_add_one,hu,List.map_append,List.map_append]
  rfl
 obtain ⟨s1,g1⟩:=hP
 rw [hw.length,List.take_length] at g1
 refine ⟨d,_,rfl,g1,_,rfl,?_⟩
 by_cases al:∀ u∈ws,alone (L:Int) u=true
 ·have e:(ws.map (alone (L:Int))).all id=true:=List.all_eq_true.mpr fun b hb=>by
   obtain ⟨u,hu,rfl⟩:=List.mem_map.mp hb
   exact al u hu
  rw [e]
  refine a4p ?_
  obtain ⟨qC,qN⟩:=qG al
  refine ⟨_,rfl,c,xs,ws,rfl,s1 _ _ hc,hw.same s1,by omega,fun nf H2 s2=>?_,fun i j fij dx H2 s2 hdx=>qC i j fij dx H2 (s1.trans s2) hdx⟩
  obtain ⟨pf,q⟩:=qN nf
  have s12:=s1.trans s2
  refine ⟨_,rfl,c,xs,rfl,SqT.of (s12 _ _ hc),by rw [hw.length];omega,fun {H'} sm=>SqT.of (sm _ _ (s12 _ _ hc)),fun p ys H3 s3 n3 g3 pr ly=>?_⟩
  have s13:=s12.trans s3
  refine ⟨_,rfl,p,ys,enP ws,L,rfl,g3,a5e (by rw [ly,hw.length,a3D]) (fun i y z hy hz=>?_),fun z=>ne (by have:=a3D ws;rw [z] at this;exact List.length_eq_zero_iff.mp this.symm),by rw [a2E];exact pf,fun q hq=>sh _ (a9I hq),by rw [a3D];exact l100,n100,l10,fun x H4 s4 tr=>q x H4 (s13.trans s4) tr⟩
  obtain ⟨t,x,rfl,hx,ht⟩:=pr i y hy
  obtain ⟨u,hu,ru⟩:=Paired.right_of hw i x hx
  have li:=(List.getElem?_eq_some_iff.mp hu).1
  rw [en_at li] at hz
  cases hz
  refine ⟨t,x,rfl,ht,?_⟩
  rw [List.getD_eq_getElem?_getD,hu]
  exact Wd.same s13 ru
 ·have bad:∃ u∈ws,alone (L:Int) u=false:=Classical.byContradiction fun z=>al fun u hu=>by
   cases e:alone (L:Int) u with
   | true=>rfl
   | false=>exact absurd ⟨u,hu,e⟩ z
  have e:(ws.map (alone (L:Int))).all id=false:=by
   obtain ⟨u,hu,eu⟩:=bad
   exact List.all_eq_false.mpr ⟨_,List.mem_map_of_mem hu,by rw [eu];decide⟩
  rw [e]
  exact a9X ⟨by decide,qB bad H1 s1⟩
end
end K18
namespace K18B
open PySem L2
def top (i:Nat):Stmt:=PySem.Challenge.pw_lettertoll_k18_whole_spellings_and_costs.main.body.getD i (.Pass ⟨0,0,0,0⟩)
abbrev a7O:Stmt:=top 27
abbrev a2c:Stmt:=top 28
abbrev b3v:Stmt:=top 29
abbrev a4W:Stmt:=top 31
abbrev a2a:Stmt:=top 33
abbrev a7P:Stmt:=top 36
def a1Q (a b le L mo:Int):Bool:=(decide (le≤a) && decide (a < L)) && (decide (1≤b) && decide (b≤mo))
def a4j (rec:Int→Nat→Option (List (List Int) × Nat)) (L:Int) (ps:List (Int × Int)) (n:Int):Nat→List (List Int)→Int→Nat→Option (List (List Int) × Nat)
 | 0,ws,_,at'=>some (ws,at')
 | f+1,ws,le,at' =>
  if (ws.length:Int) < n then
   match ps[at']? with
   | none=>none
   | some p =>
    if a1Q p.1 p.2 le L (min (n - 1) (n - ws.length)) then
     match rec p.2 (at'+1) with
     | none=>none
     | some r=>a4j rec L ps n f (ws++r.1.map (p.1 :: ·)) (p.1+1) r.2
    else none
  else some (ws,at')
def rd (L:Int) (ps:List (Int × Int)):Nat→Int→Nat→Option (List (List Int) × Nat)
 | 0,_,_=>none
 | f+1,n,at'=>if n=1 then some ([[]],at') else a4j (rd L ps f) L ps n n.toNat [] 0 at'
theorem a5K {a b le L mo:Int}:a1Q a b le L mo=true↔le≤a∧a < L∧1≤b∧b≤mo:=by
 unfold a1Q
 simp only [Bool.and_eq_true,decide_eq_true_eq]
 omega
theorem a6N {rec:Int→Nat→Option (List (List Int) × Nat)} {L:Int} {ps:List (Int × Int)} {n:Int} (hr:∀ b at' r,1≤b→b < n→rec b at'=some r→(r.1.length:Int)=b∧at'≤r.2) :
  ∀ (f:Nat) (ws:List (List Int)) (le:Int) (at':Nat) (r:List (List Int) × Nat),(ws.length:Int)≤n→n≤ws.length+f→a4j rec L ps n f ws le at'=some r→(r.1.length:Int)=n∧at'≤r.2
 | 0,ws,le,at',r,h1,h2,e=>by
  unfold a4j at e
  cases e
  exact ⟨by show (ws.length:Int)=n;omega,Nat.le_refl _⟩
 | f+1,ws,le,at',r,h1,h2,e=>by
  unfold a4j at e
  split at e
  ·next hlt =>
   split at e
   ·cases e
   ·next p hp =>
    split at e
    ·next hw =>
     obtain ⟨w1,w2,w3,w4⟩:=a5K.mp hw
     split at e
     ·cases e
     ·next q hq =>
      obtain ⟨q1,q2⟩:=hr p.2 (at'+1) q w3 (by omega) hq
      have:=a6N hr f _ _ _ r (by rw [List.length_append,List.length_map];omega) (by rw [List.length_append,List.length_map];omega) e
      exact ⟨this.1,by omega⟩
    ·cases e
  ·cases e
   exact ⟨by show (ws.length:Int)=n;omega,Nat.le_refl _⟩
theorem b1S {L:Int} {ps:List (Int × Int)}:∀ (f:Nat) (n:Int) (at':Nat) (r:List (List Int) × Nat),1≤n→rd L ps f n at'=some r→(r.1.length:Int)=n∧at'≤r.2
 | 0,n,at',r,h,e=>by cases e
 | f+1,n,at',r,h,e=>by
  unfold rd at e
  split at e
  ·next h1 =>
   cases e
   exact ⟨by rw [h1];rfl,Nat.le_refl _⟩
  ·exact a6N (fun b at' r hb _ e=>b1S f b at' r hb e) _ [] 0 at' r (by simp;omega) (by simp;omega) e
section
variable {P:Program} {w:World} {K:PySem.W.Frag} {mg:Str→Option Value} {base:Heap} {f:Addr} {fd:FuncData}
def b1k:Sp:=fun vs H Q _=>∃ (p:Addr) (a b le L mo:Int),vs=[.ref p,.int le,.int L,.int mo]∧H p=some (.tup [.int a,.int b])∧Q (.bl (a1Q a b le L mo)) H
theorem scWay:a0o ["pair","least","letters","most"] ["pair","least","letters","most"] (a0e b3v):=⟨rfl,rfl,rfl,by decide +kernel,rfl,by decide +kernel,by decide +kernel⟩
theorem ok_way (F:Fun K "is_way_on" "is_way_on" b3v f fd):a1c P w K mg base CX0 1 f fd ["pair","least","letters","most"] b1k:=by
 refine F.ok (k:=0) scWay (fun vs H Q E h=>?_) (fun cdv A outer s H vs Q E hr h=>?_)
 ·obtain ⟨p,a,b,le,L,mo,rfl,_⟩:=h
  rfl
 obtain ⟨p,a,b,le,L,mo,rfl,hp,q⟩:=h
 refine ⟨_,a0i (a0s (a8c (a2y a7a a4x (pv 1) (a0G a0V (pv 0) (a0h) (fun _ _=>rfl)) (pv 2)) (a8b (a2y a7a a7a a0h (a0G a0V (pv 0) (a0h) (fun _ _=>rfl)) (pv 3))))),?_⟩
 refine ⟨_,rfl,_,rfl,p,_,_,_,rfl,rfl,SqT.of hp,rfl,_,_,rfl,rfl,_,rfl,a1s (fun h1=>⟨_,rfl,_,_,rfl,rfl,_,rfl,a1s (fun h2=>⟨_,rfl,p,_,_,_,rfl,rfl,SqT.of hp,rfl,_,_,rfl,rfl,_,rfl,a1s (fun h3=>⟨_,rfl,_,_,rfl,rfl,?_⟩) (fun h3=>?_)⟩) (fun h2=>?_)⟩) (fun h1=>⟨_,rfl,a4p ?_⟩)⟩
 ·have e:a1Q a b le L mo=decide (b≤mo):=by unfold a1Q;rw [h1,h2,h3];simp
  rw [e] at q
  exact q
 ·have e:a1Q a b le L mo=false:=by unfold a1Q;simp only [Bool.not_eq_true] at h3;rw [h3];simp
  rw [e] at q
  exact q
 ·have e:a1Q a b le L mo=false:=by unfold a1Q;simp only [Bool.not_eq_true] at h2;rw [h2];simp
  rw [e] at q
  exact q
 ·have e:a1Q a b le L mo=false:=by unfold a1Q;simp only [Bool.not_eq_true] at h1;rw [h1];simp
  rw [e] at q
  exact q
end
section
variable {P':Program} {w:World} {K:PySem.W.Frag} {mg:Str→Option Value} {base:Heap} {f:Addr} {fd:FuncData}
abbrev NWd:List Str:=["letters","things","spelling","at","words","least","most","letter","inside"]
abbrev PWd:List Str:=["letters","things","spelling","at"]
def PrL (H:Hp) (s:Addr) (ps:List (Int × Int)):Prop:=∃ xs:List V,H s=some (.lst xs)∧Paired (RPr H) xs ps
theorem RPr.same {H H':Hp} {x:V} {q:Int × Int} (sm:a0t H H') (h:RPr H x q):RPr H' x q:=by
 obtain ⟨t,e,ht⟩:=h
 exact ⟨t,e,sm _ _ ht⟩
theorem PrL.same {H H':Hp} {s:Addr} {ps:List (Int × Int)} (sm:a0t H H') (h:PrL H s ps):PrL H' s ps:=by
 obtain ⟨xs,e,hp⟩:=h
 exact ⟨xs,sm _ _ e,Paired.mapP hp fun _ _ q=>RPr.same sm q⟩
theorem a9J {rec:Int→Nat→Option (List (List Int) × Nat)} {L:Int} {ps:List (Int × Int)} {n:Int} {k:Nat} (hr:∀ b at' r,rec b at'=some r→∀ u∈r.1,u.length≤k) :
  ∀ (f:Nat) (ws:List (List Int)) (le:Int) (at':Nat) (r:List (List Int) × Nat),(∀ u∈ws,u.length≤k+1)→a4j rec L ps n f ws le at'=some r→∀ u∈r.1,u.length≤k+1
 | 0,ws,le,at',r,h1,e=>by
  unfold a4j at e
  cases e
  exact h1
 | f+1,ws,le,at',r,h1,e=>by
  unfold a4j at e
  split at e
  ·split at e
   ·cases e
   ·next p hp =>
    split at e
    ·split at e
     ·cases e
     ·next q hq =>
      refine a9J hr f _ _ _ r (fun u hu=>?_) e
      rcases List.mem_append.mp hu with h | h
      ·exact h1 u h
      ·obtain ⟨v,hv,rfl⟩:=List.mem_map.mp h
       have:=hr _ _ _ hq v hv
       rw [List.length_cons]
       omega
    ·cases e
  ·cases e
   exact h1
theorem rd_wl {L:Int} {ps:List (Int × Int)}:∀ (f:Nat) (n:Int) (at':Nat) (r:List (List Int) × Nat),rd L ps f n at'=some r→∀ u∈r.1,u.length≤f
 | 0,n,at',r,e=>by cases e
 | f+1,n,at',r,e=>by
  unfold rd at e
  split at e
  ·cases e
   intro u hu
   rw [List.mem_singleton.mp hu]
   exact Nat.zero_le _
  ·exact a9J (fun b at' r e=>rd_wl f b at' r e) _ [] 0 at' r (fun u hu=>by cases hu) e
def a2p (CB:Addr) (fu:Nat):Sp:=fun vs H Q E=>∃ (s:Addr) (ps:List (Int × Int)) (L n:Int) (at':Nat),vs=[.int L,.int n,.ref s,.int (at':Int)]∧PrL H s ps∧ps.length≤10000∧1≤n∧n≤fu∧fu≤100 ∧
 (rd L ps fu n at'=none→∀ H',a0t H H'→E (.ref CB) none H') ∧
 (∀ r,rd L ps fu n at'=some r→∀ p q xs H',a0t H H'→H' p=some (.tup [.ref q,.int (r.2:Int)])→H' q=some (.lst xs)→Ws H' xs r.1→Q (.ref p) H')
theorem b1l:a0o NWd PWd (a0e a2c):=⟨rfl,rfl,rfl,by decide +kernel,rfl,by decide +kernel,by decide +kernel⟩
theorem ndWd:(("word":Str) :: NWd).Nodup:=by decide +kernel
theorem b1m {CB:Addr} (fu:Nat) (F:Fun K "words_spelled" "words_spelled" a2c f fd) (GW:Fns P' w K mg base ["pair","least","letters","most"] "is_way_on" b1k (fu+1)) (GR:a3i P' w K mg base PWd "words_spelled" (a2p CB fu) (fu+1)) (mB:mg "BadSpelling"=some (.ref CB)) (eB:Ecl K CB) (ml:mg "len"=none) (mm:mg "min"=none) :
  a1c P' w K mg base (CXF P' w) (fu+2) f fd PWd (a2p CB (fu+1)):=by
 refine F.okF (k:=fu+1) b1l (fun vs H Q E h=>?_) (fun cdv A outer s H vs Q E hr h=>?_)
 ·obtain ⟨s,ps,L,n,at',rfl,_⟩:=h
  rfl
 obtain ⟨sa,ps,L,n,at',rfl,hps,l1,n1,n2,n3,qE,qQ⟩:=h
 refine ⟨_,a0f (a0U (a0u a1u (pv 1) (a0h) (nomark _)) (a0i (a0s (a1l (a0a (a1h (a0a (a1l (a0c)) (a0c))) (a0a (pv 3) (a0c)))))) (a0x))
   (a0f (a0y (i:=4) b1l.nd rfl (Or.inl rfl) (a1h (a0c)))
   (a0f (a0y (i:=5) b1l.nd rfl (Or.inl rfl) (a0h))
   (a0f (a5T PassesOwn.leaving (a0u a4x (a0j a0g (by rfl) ml PySem.boot_len (a0a (pv 4) (a0c))) (pv 1) (nomark _)) (a0f (a0y (i:=6) b1l.nd rfl (Or.inl rfl) (a0j (a8i rfl) (by rfl) mm b_min' (a0a (a0v a2s (pv 1) (a0h)) (a0a (a0v a2s (pv 1) (a0j a0g (by rfl) ml PySem.boot_len (a0a (pv 4) (a0c)))) (a0c)))))
   (a0f (a0U (PW.pt (a6X (a0u op_ge (pv 3) (a0j a0g (by rfl) ml PySem.boot_len (a0a (pv 2) (a0c))) (nomark _)) (a3o (a2r (a1q (a0m GW.ok hr (by rfl) GW.m GW.kp GW.b .nil a0L (a0a (a0G a0S (pv 2) (pv 3) (fun _ _=>rfl)) (a0a (pv 5) (a0a (pv 0) (a0a (pv 6) (a0c))))))))))) (a0i (a1F a0M rfl (by rfl) mB eB (a0a a3n a0c))) (a0x))
   (a0f (a0y (i:=7) b1l.nd rfl (Or.inr rfl) (a0G a0V (a0G a0S (pv 2) (pv 3) (fun _ _=>rfl)) (a0h) (fun _ _=>rfl)))
   (a0f (a0y (i:=8) b1l.nd rfl (Or.inl rfl) (a0m GR.ok hr (by rfl) GR.m GR.kp GR.b .nil a0M (a0a (pv 0) (a0a (a0G a0V (a0G a0S (pv 2) (pv 3) (fun _ _=>rfl)) (a0h) (fun _ _=>rfl)) (a0a (pv 2) (a0a (a0v a0P (pv 3) (a0h)) (a0c)))))))
   (a0f (a1m (a8p PySem.F.plainAttrs_list PySem.F.slot_list_extend PySem.F.type_list_extend a2N (pv 4) (a0a (a3O (M:=NWd) rfl (a0k.of (a0e a2c) NWd rfl rfl rfl (by decide +kernel) (by decide +kernel) (by decide +kernel) rfl (by decide +kernel)) ndWd rfl (a6g (a0G a0V (pv 8) (a0h) (fun _ _=>rfl))) a6h
    (fun cl C s0 H0 fp=>⟨a0W,a0v a3M (a1l (a0a (pv 8) (a0c))) (pv 0)⟩)) (a0c))))
   (a0f (a0y (i:=5) b1l.nd rfl (Or.inl rfl) (a0v a0P (pv 7) (a0h)))
   (a0i (a0y (i:=3) b1l.nd rfl (Or.inl rfl) (a0G a0V (pv 8) (a0h) (fun _ _=>rfl)))))))))))
   (a0i (a0s (a1l (a0a (pv 4) (a0a (pv 3) (a0c))))))))),?_⟩
 refine ⟨_,rfl,rfl,_,rfl,a1s (fun c=>?_) (fun c=>?_)⟩
 ·have e1:n=1:=V.int.inj (of_decide_eq_true c)
  have er:rd L ps (fu+1) n at'=some ([[]],at'):=by rw [rd,if_pos e1]
  refine ⟨(by show 0≤sizeLine;decide),fun p0 hp0=>?_⟩
  refine ⟨(by show 1≤sizeLine;decide),fun p1 hp1=>?_⟩
  refine ⟨_,rfl,(by show 2≤sizeLine;decide),fun p2 hp2=>?_⟩
  have s0:=a0d hp0 (.tup [])
  have s1:=a0d hp1 (.lst [.ref p0])
  have s2:=a0d hp2 (.tup [.ref p1,.int (at':Int)])
  exact qQ _ er p2 p1 [.ref p0] _ ((s0.trans s1).trans s2) a0b (s2 _ _ a0b) (.cons (a1w (ns:=[]) (s2 _ _ (s1 _ _ a0b))) .nil)
 ·have e1:¬ n=1:=fun z=>c (decide_eq_true (by rw [z]))
  have er:rd L ps (fu+1) n at'=a4j (rd L ps fu) L ps n n.toNat [] 0 at':=by rw [rd,if_neg e1]
  refine ⟨(by show 0≤sizeLine;decide),fun p0 hp0=>?_⟩
  have s0:=a0d hp0 (.lst [])
  refine ⟨fun m σ H'=>a0t H H'∧∃ (x6 x7 x8:Option V) (le:Int) (wl:Addr) (xs:List V) (ws:List (List Int)) (a:Nat),σ=[some (.int L),some (.int n),some (.ref sa),some (.int (a:Int)),some (.ref wl),some (.int le),x6,x7,x8]∧H wl=none∧H' wl=some (.lst xs)∧Ws H' xs ws∧(ws.length:Int)≤n∧n≤ws.length+m∧rd L ps (fu+1) n at'=a4j (rd L ps fu) L ps n m ws le a,
   ⟨n.toNat,s0,_,_,_,0,p0,[],[],at',rfl,hp0,a0b,.nil,by simp;omega,by simp;omega,er⟩,fun m σ H1 hP=>?_⟩
  obtain ⟨sm,x6,x7,x8,le,wl,xs,ws,a,rfl,hn,hwl,hW,ln,hm,er1⟩:=hP
  have lx:xs.length=ws.length:=hW.length
  refine ⟨_,rfl,wl,_,rfl,.inl (SqL.of hwl),_,rfl,_,_,rfl,rfl,_,rfl,a1s (fun c1=>?_) (fun c1=>?_)⟩
  ·have lt:(ws.length:Int) < n:=by rw [←lx];exact of_decide_eq_true c1
   refine ⟨_,fun σ' H' z=>z,?_⟩
   refine ⟨_,rfl,_,_,rfl,rfl,_,rfl,_,rfl,wl,_,rfl,.inl (SqL.of hwl),_,_,rfl,rfl,_,_,rfl,?_⟩
   obtain ⟨as,hsa,hpr⟩:=id hps
   have hs1:=sm _ _ hsa
   have la:as.length=ps.length:=hpr.length
   obtain ⟨m0,em⟩:∃ m0,m=m0+1:=⟨m - 1,by omega⟩
   subst em
   refine ⟨_,rfl,_,rfl,sa,_,rfl,.inl (SqL.of hs1),_,_,rfl,rfl,_,rfl,a1s (fun c2=>?_) (fun c2=>?_)⟩
   ·have hge:ps.length≤a:=by
     have:=of_decide_eq_true c2
     omega
    have ez:rd L ps (fu+1) n at'=none:=by rw [er1,a4j,if_pos lt,List.getElem?_eq_none hge]
    exact a9X ⟨by show 1≤1000;decide,qE ez _ sm⟩
   ·have hlt:a < ps.length:=by
     have:¬ ((a:Int) ≥ (as.length:Int)):=fun z=>c2 (decide_eq_true z)
     omega
    have hat:ps[a]?=some ps[a]:=List.getElem?_eq_getElem hlt
    obtain ⟨_,hv,pa,rfl,hpt⟩:=L2.Paired.left_of hpr a _ hat
    have hpt1:=sm _ _ hpt
    generalize ps[a]=pr at hat hpt hpt1
    refine ⟨_,rfl,_,rfl,sa,_,_,_,rfl,rfl,SqL.of hs1,a1z hv,_,rfl,_,rfl,_,rfl,pa,_,_,le,L,_,rfl,hpt1,_,rfl,?_⟩
    have emo:(if n - (xs.length:Int) < n - 1 then n - (xs.length:Int) else n - 1)=min (n - 1) (n - (ws.length:Int)):=by
     rw [lx]
     split <;> omega
    rw [emo]
    cases hw:a1Q pr.1 pr.2 le L (min (n - 1) (n - (ws.length:Int))) with
    | false =>
     have ez:rd L ps (fu+1) n at'=none:=by
      rw [er1,a4j,if_pos lt,hat]
      show (if a1Q pr.1 pr.2 le L (min (n - 1) (n - (ws.length:Int)))=true then _ else none)=none
      rw [hw]
      rfl
     exact a9X ⟨by show 1≤1000;decide,qE ez _ sm⟩
    | true =>
    obtain ⟨v1,v2,v3,v4⟩:=a5K.mp hw
    have er2:rd L ps (fu+1) n at'=match rd L ps fu pr.2 (a+1) with | none=>none | some r=>a4j (rd L ps fu) L ps n m0 (ws++r.1.map (pr.1 :: ·)) (pr.1+1) r.2:=by
     rw [er1,a4j,if_pos lt,hat]
     show (if a1Q pr.1 pr.2 le L (min (n - 1) (n - (ws.length:Int)))=true then _ else none)=_
     rw [if_pos hw]
     all_goals (cases rd L ps fu pr.2 (a+1) <;> rfl)
    refine a4p ?_
    refine ⟨_,rfl,_,rfl,sa,_,_,_,rfl,rfl,SqL.of hs1,a1z hv,pa,_,_,_,rfl,rfl,SqT.of hpt1,rfl,?_⟩
    refine ⟨_,rfl,_,rfl,_,rfl,sa,_,_,_,rfl,rfl,SqL.of hs1,a1z hv,pa,_,_,_,rfl,rfl,SqT.of hpt1,rfl,_,rfl,_,rfl,_,_,rfl,rfl,?_⟩
    refine ⟨sa,ps,L,pr.2,a+1,rfl,hps.same sm,l1,v3,by omega,by omega,fun ez H' sH=>?_,fun r er p q zs H3 s3 hp3 hq3 hW3=>?_⟩
    ·exact qE (by rw [er2,ez]) _ (sm.trans sH)
    obtain ⟨rl1,rl2⟩:=b1S _ _ _ _ v3 er
    have rwl:=rd_wl _ _ _ _ er
    rw [er] at er2
    have lz:zs.length=r.1.length:=hW3.length
    have g3:=s3 _ _ hwl
    refine ⟨_,rfl,.inl ⟨rfl,_,SqL.of g3⟩,?_⟩
    refine ⟨fun v H'=>v=.ref q∧H'=H3,⟨_,rfl,p,_,_,_,rfl,rfl,SqT.of hp3,rfl,rfl,rfl⟩,fun v H4 hv4=>?_⟩
    obtain ⟨rfl,rfl⟩:=hv4
    refine ⟨q,_,rfl,SqL.of hq3,fun d hd=>?_⟩
    refine ⟨fun kk H'=>a0t H4 H'∧∃ ys,H' d=some (.lst ys)∧Ws H' ys ((r.1.take kk).map fun u=>pr.1 :: u),⟨a0d hd _,[],a0b,.nil⟩,fun kk H' _ hP=>SqL.of (hP.1 _ _ hq3),fun kk y H' hy hP=>?_,fun H5 hP=>?_⟩
    ·obtain ⟨s5,ys,g5,w5⟩:=hP
     obtain ⟨o,ho2,ru⟩:=Paired.right_of hW3 kk y hy
     obtain ⟨ua,rfl,hua⟩:=Wd.ti ru
     have kl:=(List.getElem?_eq_some_iff.mp ho2).1
     have lu:=rwl o (List.mem_of_getElem? ho2)
     refine a0R ⟨_,rfl,(by show 1≤sizeLine;decide),fun t1 ht1=>?_⟩
     have s6:=a0d ht1 (.tup [.int pr.1])
     have h6:upd H' t1 (.tup [.int pr.1]) t1=some (.tup [.int pr.1]):=a0b
     generalize upd H' t1 (.tup [.int pr.1])=H6 at s6 h6 ⊢
     refine ⟨_,rfl,t1,ua,_,_,rfl,rfl,h6,s6 _ _ (s5 _ _ hua),small (by rw [List.length_map,List.length_singleton];omega),fun p5 H7 s7 hp5=>?_⟩
     refine ⟨ys,s7 _ _ (s6 _ _ g5),a0z (by rw [w5.length,List.length_map,List.length_take];omega),a0q hd ((s5.trans s6).trans s7),_,a0b,?_⟩
     rw [List.take_add_one,ho2,List.map_append]
     exact Paired.appendP (Ws.upd (s7 _ _ (s6 _ _ g5)) (Ws.same (s6.trans s7) w5)) (.cons (Wd.upd (s7 _ _ (s6 _ _ g5)) (Wd.of hp5)) .nil)
    obtain ⟨s5,ys,g5,w5⟩:=hP
    rw [lz,List.take_length] at w5
    have ly:ys.length=r.1.length:=by rw [w5.length,List.length_map]
    have g45:=s5 _ _ g3
    refine ⟨wl,d,_,_,rfl,rfl,g45,g5,small (by rw [lx,ly];omega),?_⟩
    have hp5:=s5 _ _ hp3
    have hp6:upd H5 wl (.lst (xs++ys)) p=some (.tup [.ref q,.int (r.2:Int)]):=by rw [a0l (a4s hp5 g45 (by intro z;cases z))];exact hp5
    refine ⟨_,rfl,_,_,rfl,rfl,?_⟩
    refine ⟨_,rfl,p,_,_,_,rfl,rfl,SqT.of hp6,rfl,?_⟩
    refine ⟨m0,by omega,a0q hn ((sm.trans s3).trans s5),_,_,_,pr.1+1,wl,xs++ys,ws++r.1.map (pr.1 :: ·),r.2,rfl,hn,a0b,?_,?_,?_,?_⟩
    ·exact Ws.upd g45 (Paired.appendP (Ws.same (s3.trans s5) hW) w5)
    ·rw [List.length_append,List.length_map]
     omega
    ·rw [List.length_append,List.length_map]
     omega
    ·exact er2
  ·have nl:¬ (ws.length:Int) < n:=by
    rw [←lx]
    exact fun z=>c1 (decide_eq_true z)
   have er1:rd L ps (fu+1) n at'=some (ws,a):=by
    rw [er1]
    cases m with
    | zero=>rfl
    | succ m0=>rw [a4j,if_neg nl]
   refine ⟨_,rfl,_,rfl,(by show 2≤sizeLine;decide),fun p2 hp2=>?_⟩
   have s2:=a0d hp2 (.tup [.ref wl,.int (a:Int)])
   exact qQ _ er1 p2 wl xs _ (sm.trans s2) a0b (s2 _ _ hwl) (hW.same s2)
theorem a7Q {CB:Addr} (F:Fun K "words_spelled" "words_spelled" a2c f fd):a1c P' w K mg base (CXF P' w) 1 f fd PWd (a2p CB 0):=by
 refine F.okF (k:=0) b1l (fun vs H Q E h=>?_) (fun cdv A outer s H vs Q E hr h=>?_)
 ·obtain ⟨s,ps,L,n,at',rfl,_⟩:=h
  rfl
 obtain ⟨sa,ps,L,n,at',rfl,hps,l1,n1,n2,_⟩:=h
 omega
theorem a5f {CB:Addr} {b:a1I K fd PWd []} (F:Fun K "words_spelled" "words_spelled" a2c f fd) (hb:a1I K fd PWd []) (kp:PySem.W.keepIn K (.ref f)=true) (hm:mg "words_spelled"=some (.ref f)) (GW:Fns P' w K mg base ["pair","least","letters","most"] "is_way_on" b1k 1) (mB:mg "BadSpelling"=some (.ref CB)) (eB:Ecl K CB) (ml:mg "len"=none) (mm:mg "min"=none) :
  ∀ fu:Nat,a1c P' w K mg base (CXF P' w) (fu+1) f fd PWd (a2p CB fu)
 | 0=>a7Q F
 | fu+1=>b1m fu F (GW.up (by omega)) ⟨f,fd,a5f (b:=b) F hb kp hm GW mB eB ml mm fu,hb,kp,hm⟩ mB eB ml mm
def due (L:Int) (ps:List (Int × Int)) (n:Int):Option (List (List Int)):=match rd L ps 24 n 0 with
 | none=>none
 | some r=>if r.2=ps.length then some r.1 else none
abbrev NCb:List Str:=["letters","things","spelling","found"]
abbrev PCb:List Str:=["letters","things","spelling"]
def a9K (CB:Addr):Sp:=fun vs H Q E=>∃ (s:Addr) (ps:List (Int × Int)) (L n:Int),vs=[.int L,.int n,.ref s]∧PrL H s ps∧ps.length≤10000∧1≤n∧n≤24 ∧
 (due L ps n=none→∀ H',a0t H H'→E (.ref CB) none H') ∧
 (∀ ws,due L ps n=some ws→∀ p xs H',a0t H H'→H' p=some (.tup xs)→Ws H' xs ws→Q (.ref p) H')
theorem scCb:a0o NCb PCb (a0e a7O):=⟨rfl,rfl,rfl,by decide +kernel,rfl,by decide +kernel,by decide +kernel⟩
theorem b3g {CB:Addr} (F:Fun K "code_by" "code_by" a7O f fd) (GW:a3i P' w K mg base PWd "words_spelled" (a2p CB 24) 25) (mB:mg "BadSpelling"=some (.ref CB)) (eB:Ecl K CB) (ml:mg "len"=none) (mt:mg "tuple"=none) :
  a1c P' w K mg base (CXF P' w) 26 f fd PCb (a9K CB):=by
 refine F.okF (k:=25) scCb (fun vs H Q E h=>?_) (fun cdv A outer s H vs Q E hr h=>?_)
 ·obtain ⟨s,ps,L,n,rfl,_⟩:=h
  rfl
 obtain ⟨sa,ps,L,n,rfl,hps,l1,n1,n2,qE,qQ⟩:=h
 refine ⟨_,a0f (a0y (i:=3) scCb.nd rfl (Or.inl rfl) (a0m GW.ok hr (by rfl) GW.m GW.kp GW.b .nil a0M (a0a (pv 0) (a0a (pv 1) (a0a (pv 2) (a0a (a0h) (a0c)))))))
   (a0f (a0U (PW.pt (a6X (a0u a4x (pv 1) (a0h) (nomark _)) (a3o (a0u b0d (a0G a0V (pv 3) (a0h) (fun _ _=>rfl)) (a0j a0g (by rfl) ml PySem.boot_len (a0a (pv 2) (a0c))) (nomark _))))) (a0i (a1F a0M rfl (by rfl) mB eB (a0a a3n a0c))) (a0x))
   (a0i (a0s (a0K a0A (by rfl) mt a1n (a0a (a0G a0V (pv 3) (a0h) (fun _ _=>rfl)) (a0c)))))),?_⟩
 refine ⟨_,rfl,_,rfl,_,rfl,sa,ps,L,n,0,rfl,hps,l1,n1,n2,by omega,fun ez H' sH=>?_,fun r er p q zs H3 s3 hp3 hq3 hW3=>?_⟩
 ·exact qE (by unfold due;rw [ez]) _ sH
 obtain ⟨xs,hsa,hpr⟩:=id (hps.same s3)
 have lp:xs.length=ps.length:=hpr.length
 refine ⟨_,rfl,_,_,rfl,rfl,_,rfl,a1s (fun c=>absurd (of_decide_eq_true c) (by omega)) (fun c=>?_)⟩
 refine ⟨_,rfl,p,_,_,_,rfl,rfl,SqT.of hp3,rfl,_,rfl,sa,_,rfl,.inl (SqL.of hsa),rfl,_,rfl,a1s (fun c1=>?_) (fun c1=>?_)⟩
 ·have ne:r.2≠ps.length:=by
   intro z
   rw [z,lp] at c1
   simp at c1
  exact ⟨by show 1≤1000;decide,qE (by unfold due;rw [er];exact if_neg ne) _ s3⟩
 ·have e:r.2=ps.length:=by
   rw [lp] at c1
   have c2:(r.2:Int)=(ps.length:Int):=by simpa using c1
   omega
  refine ⟨_,rfl,p,_,_,_,rfl,rfl,SqT.of hp3,rfl,q,zs,rfl,.inl ⟨SqL.of hq3,fun l hl=>?_⟩⟩
  exact qQ r.1 (by unfold due;rw [er];exact if_pos e) l zs _ (s3.trans (a0d hl _)) a0b (hW3.same (a0d hl _))
end
end K18B
namespace K18D
open PySem L2
def top (i:Nat):Stmt:=PySem.Challenge.pw_lettertoll_k18_whole_spellings_and_costs.main.body.getD i (.Pass ⟨0,0,0,0⟩)
abbrev a1E:Stmt:=top 7
abbrev a3f:Stmt:=top 8
abbrev a5L:Stmt:=top 18
abbrev a4W:Stmt:=top 31
abbrev a1R:Stmt:=top 32
abbrev a7P:Stmt:=top 36
section
variable {P:Program} {w:World} {K:PySem.W.Frag} {mg:Str→Option Value} {base:Heap} {f:Addr} {fd:FuncData}
def al (m x:Int):Bool:=decide (0≤x) && decide (x < m)
def alone (m:Int) (ns:List Int):Bool:=(ns.map (al m)).all id
def a1P:Sp:=fun vs H Q _=>∃ (x:V) (ns:List Int) (m:Int),vs=[x,.int m]∧Wd H x ns∧ns.length≤1000∧∀ H',a0t H H'→Q (.bl (alone m ns)) H'
theorem a5H:a0o ["word","letters"] ["word","letters"] (a0e a1E):=⟨rfl,rfl,rfl,by decide +kernel,rfl,by decide +kernel,by decide +kernel⟩
theorem ndA:(("letter":Str) :: ["word","letters"]).Nodup:=by decide +kernel
theorem a4h (F:Fun K "has_letters_alone" "has_letters_alone" a1E f fd) (ma:mg "all"=none):a1c P w K mg base CX0 1 f fd ["word","letters"] a1P:=by
 refine F.ok (k:=0) a5H (fun vs H Q E h=>?_) (fun cdv A outer s H vs Q E hr h=>?_)
 ·obtain ⟨x,ns,m,rfl,_⟩:=h
  rfl
 obtain ⟨x,ns,m,rfl,hx,hl,q⟩:=h
 obtain ⟨a,rfl,ha⟩:=hx.ti
 refine ⟨_,a0i (a0s (a0j (a2z rfl) (by rfl) ma b0m (a0a (a1X (M:=["word","letters"]) rfl (a0k.of (a0e a1E) ["word","letters"] rfl rfl rfl (by decide +kernel) (by decide +kernel) (by decide +kernel) rfl (by decide +kernel)) ndA rfl (pv 0) a1f
  (fun cl C s0 H0 fp=>⟨a0W,a2y a7a a4x a0h (pv 0) (pv 2)⟩)) a0c))),?_⟩
 refine ⟨_,rfl,a,_,rfl,SqT.of ha,fun d hd=>?_⟩
 refine ⟨fun k H'=>a0t H H'∧H' d=some (.lst (((ns.take k).map (al m)).map V.bl)),⟨a0d hd _,a0b⟩,fun k H' _ hP=>SqT.of (hP.1 _ _ ha),fun k x H' hx hP=>?_,fun H' hP=>?_⟩
 ·obtain ⟨sm,hd'⟩:=hP
  rw [List.getElem?_map] at hx
  cases hz:ns[k]? with
  | none=>rw [hz] at hx;cases hx
  | some z =>
   rw [hz] at hx;cases hx
   have hk:=(List.getElem?_eq_some_iff.mp hz).1
   have fin:∀ b,b=al m z→∃ ys,H' d=some (.lst ys)∧ys.length < sizeLine∧(a0t H (upd H' d (.lst (ys++[.bl b])))∧upd H' d (.lst (ys++[.bl b])) d=some (.lst (((ns.take (k+1)).map (al m)).map V.bl))):=fun b eb=>by
    refine ⟨_,hd',?_,a0q hd sm,?_⟩
    ·rw [List.length_map,List.length_map,List.length_take];exact a0z (by omega)
    ·rw [a0b,List.take_add_one,hz,List.map_append,List.map_append,eb];rfl
   refine a0R ⟨_,rfl,_,_,rfl,rfl,_,rfl,?_⟩
   refine a1s (fun c=>?_) (fun c=>?_)
   ·refine ⟨_,rfl,_,_,rfl,rfl,?_⟩
    exact fin _ (by unfold al;rw [c];rfl)
   ·exact fin _ (by unfold al;rw [Bool.eq_false_iff.mpr c];rfl)
 ·obtain ⟨sm,hd'⟩:=hP
  rw [List.length_map,List.take_length] at hd'
  exact ⟨d,_,rfl,hd',q H' sm⟩
theorem a4i {m:Int} {ns:List Int} (h:alone m ns=true):∀ x∈ns,0≤x∧x < m:=fun x hx=>by
 have q:=List.all_eq_true.mp h (al m x) (List.mem_map_of_mem hx)
 unfold al at q
 simp only [id,Bool.and_eq_true,decide_eq_true_eq] at q
 exact q
def prc (ps ns:List Int):Int:=(ns.map fun x=>ps.getD x.toNat 0).sum
def a5M (CB:Addr):Sp:=fun vs H Q E=>∃ (x y:V) (ps ns:List Int),vs=[x,y]∧Wd H x ps∧Wd H y ns∧ns.length≤1000∧(alone (ps.length:Int) ns=true→∀ H',a0t H H'→Q (.int (prc ps ns)) H')∧(alone (ps.length:Int) ns=false→∀ H',a0t H H'→E (.ref CB) none H')
theorem b3h:a0o ["prices","word"] ["prices","word"] (a0e a3f):=⟨rfl,rfl,rfl,by decide +kernel,rfl,by decide +kernel,by decide +kernel⟩
theorem ndP:(("letter":Str) :: ["prices","word"]).Nodup:=by decide +kernel
theorem b1n {CB:Addr} (F:Fun K "word_price" "word_price" a3f f fd) (G:Fns P w K mg base ["word","letters"] "has_letters_alone" a1P 1) (ml:mg "len"=none) (ms:mg "sum"=none) (mB:mg "BadWord"=some (.ref CB)) (eB:Ecl K CB) :
  a1c P w K mg base (CXF P w) 2 f fd ["prices","word"] (a5M CB):=by
 refine F.okF (k:=1) b3h (fun vs H Q E h=>?_) (fun cdv A outer s H vs Q E hr h=>?_)
 ·obtain ⟨x,y,ps,ns,rfl,_⟩:=h
  rfl
 obtain ⟨x,y,ps,ns,rfl,hx,hy,hl,q1,q2⟩:=h
 obtain ⟨p,rfl,hp⟩:=hx.ti
 obtain ⟨a,rfl,ha⟩:=hy.ti
 refine ⟨_,a0f (a0U (a2r (a1q (a0m G.ok hr (by rfl) G.m G.kp G.b .nil a0L (a0a (pv 1) (a0a (a0j a0g (by rfl) ml PySem.boot_len (a0a (pv 0) a0c)) a0c))))) (a0i (a1F a0M rfl (by rfl) mB eB (a0a a3n a0c))) a0x)
  (a0i (a0s (a0j (a6b rfl) (by rfl) ms b0n (a0a (a1X (M:=["prices","word"]) rfl (a0k.of (a0e a3f) ["prices","word"] rfl rfl rfl (by decide +kernel) (by decide +kernel) (by decide +kernel) rfl (by decide +kernel)) ndP rfl (pv 1) a1f
   (fun cl C s0 H0 fp=>⟨a0W,a0G (ixT K) (pv 1) (pv 0) (fun _ _=>rfl)⟩)) a0c)))),?_⟩
 refine ⟨_,rfl,_,rfl,p,_,rfl,.inr (SqT.of hp),.ref a,ns,_,rfl,Wd.of ha,hl,fun H1 s1=>?_⟩
 rw [List.length_map]
 refine ⟨_,rfl,?_⟩
 refine a1s (fun c=>?_) (fun c=>?_)
 ·have c1:alone (ps.length:Int) ns=false:=by
   cases hb:alone (ps.length:Int) ns with
   | false=>rfl
   | true=>rw [hb] at c;cases c
  exact ⟨by decide,q2 c1 H1 s1⟩
 have c1:alone (ps.length:Int) ns=true:=by
  cases hb:alone (ps.length:Int) ns with
  | true=>rfl
  | false=>rw [hb] at c;exact absurd rfl c
 have hn:=a4i c1
 refine ⟨_,rfl,a,_,rfl,SqT.of (s1 _ _ ha),fun d hd=>?_⟩
 refine ⟨fun k H'=>a0t H1 H'∧H' d=some (.lst (((ns.take k).map fun x=>ps.getD x.toNat 0).map V.int)),⟨a0d hd _,a0b⟩,fun k H' _ hP=>SqT.of (hP.1 _ _ (s1 _ _ ha)),fun k x H' hx hP=>?_,fun H' hP=>?_⟩
 ·obtain ⟨sm,hd'⟩:=hP
  rw [List.getElem?_map] at hx
  cases hz:ns[k]? with
  | none=>rw [hz] at hx;cases hx
  | some z =>
   rw [hz] at hx;cases hx
   have hk:=(List.getElem?_eq_some_iff.mp hz).1
   obtain ⟨z0,z1⟩:=hn z (List.mem_of_getElem? hz)
   obtain ⟨n,rfl⟩:∃ n:Nat,z=n:=⟨z.toNat,by omega⟩
   have hn':n < ps.length:=by omega
   refine a0R ⟨_,rfl,_,rfl,p,_,_,_,rfl,rfl,SqT.of (sm _ _ (s1 _ _ hp)),a6d (List.getElem?_eq_getElem hn'),_,hd',?_,a0q hd sm,?_⟩
   ·rw [List.length_map,List.length_map,List.length_take];exact a0z (by omega)
   ·rw [a0b,List.take_add_one,hz,List.map_append,List.map_append]
    simp [List.getD_eq_getElem?_getD,List.getElem?_eq_getElem hn']
 ·obtain ⟨sm,hd'⟩:=hP
  rw [List.length_map,List.take_length] at hd'
  exact ⟨d,_,rfl,hd',q1 c1 H' (s1.trans sm)⟩
abbrev B30:Int:=1000000000000000000000000000000
def a4k:Sp:=fun vs H Q _=>∃ c:Int,vs=[.int c]∧∀ i,1≤i→i≤B30→Q (.int i) H
theorem a6O:a0o ["cell","rest"] ["cell"] (a0e a1R):=⟨rfl,rfl,rfl,by decide +kernel,rfl,by decide +kernel,by decide +kernel⟩
theorem e30:(10:Int) ^ (30:Int).toNat=B30:=by decide
theorem a9L (F:Fun K "_law_amount" "_law_amount" a1R f fd):a1c P w K mg base CX0 1 f fd ["cell"] a4k:=by
 refine F.ok (k:=0) a6O (fun vs H Q E h=>?_) (fun cdv A outer s H vs Q E hr h=>?_)
 ·obtain ⟨c,rfl,_⟩:=h
  rfl
 obtain ⟨c,rfl,q⟩:=h
 refine ⟨_,a0f (a0y (i:=1) a6O.nd rfl (Or.inl rfl) (a0v a1L (pv 0) a0h))
  (a0f (a0U (a0u a1u (a0v a1k (pv 0) a0h) a0h (nomark _)) (a0i (a0s (a0v a0P a0h (a0v a1k (pv 1) (a0v b1v a0h a0h))))) a0x)
  (a0f (a0U (a0u a1u (a0v a1k (pv 0) a0h) a0h (nomark _)) (a0i (a0s (a0v a2s (a0v b1v a0h a0h) (a0v a1k (pv 1) a0h)))) a0x)
  (a0f (a0U (a0u a1u (a0v a1k (pv 0) a0h) a0h (nomark _)) (a0i (a0s (a0v a0P a0h (a0v a1k (pv 1) a0h)))) a0x)
  (a0i (a0s (a0v a0P a0h (a0v a1k (pv 1) a0h))))))),?_⟩
 refine ⟨_,rfl,_,_,rfl,rfl,⟨by decide,by decide⟩,?_⟩
 refine ⟨_,rfl,_,_,rfl,rfl,(by show (0:Int) < _;decide),rfl,_,rfl,?_⟩
 refine a1s (fun _=>⟨_,rfl,_,_,rfl,rfl,⟨by decide,by decide,by decide⟩,_,_,rfl,rfl,(by show (0:Int) < _;decide),_,_,rfl,rfl,q _ (by rw [e30];unfold B30;omega) (by rw [e30];unfold B30;omega)⟩) (fun _=>?_)
 refine ⟨_,rfl,_,_,rfl,rfl,(by show (0:Int) < _;decide),rfl,_,rfl,?_⟩
 refine a1s (fun _=>⟨_,_,rfl,rfl,⟨by decide,by decide,by decide⟩,_,rfl,_,_,rfl,rfl,(by show (0:Int) < _;decide),_,_,rfl,rfl,q _ (by rw [e30];unfold B30;omega) (by rw [e30];unfold B30;omega)⟩) (fun _=>?_)
 refine ⟨_,rfl,_,_,rfl,rfl,(by show (0:Int) < _;decide),rfl,_,rfl,?_⟩
 refine a1s (fun _=>⟨_,rfl,_,_,rfl,rfl,(by show (0:Int) < _;decide),_,_,rfl,rfl,q _ (by omega) (by unfold B30;omega)⟩) (fun _=>?_)
 exact ⟨_,rfl,_,_,rfl,rfl,(by show (0:Int) < _;decide),_,_,rfl,rfl,q _ (by omega) (by unfold B30;omega)⟩
end
def b0L (i j:Int):Prop:=(0≤i∧i≤10000 * B30)∧(0≤j∧j≤10000 * B30)
theorem b0L.ok {i j:Int} (h:b0L i j):IntMulOk i j:=by
 have q:∀ k:Int,0≤k∧k≤10000 * B30→PySem.Builtin.Int.intBits k≤120:=fun k hk=>intBits_le_iff.mpr (by
  have e:(2:Nat) ^ 120=1329227995784915872903807060280344576:=by decide
  rw [e]
  unfold B30 at hk
  omega)
 exact IntMulOk.of_le (q i h.1) (q j h.2) (by decide)
theorem a5N {X:Cx}:OpR X (binaryOp .Mult) (rI b0L fun i j=>.int (i * j)):=opI fun _ _ _ _ _ _ _ hc q=>PyProof.Rows.mul_int q hc.ok
theorem a9M {te:TE} {σ:St} {d:Addr} {x y:V} {H:Hp} {Z:Hp→Prop} (h:te (some x :: some y :: σ) H fun v H4=>∃ ys,H4 d=some (.lst ys)∧ys.length < sizeLine∧Z (upd H4 d (.lst (ys++[v])))):a7r a8t te σ d x y H Z:=by
 show (if true=true then (te (some x :: some y :: σ) H fun v H4=>∃ ys,H4 d=some (.lst ys)∧ys.length < sizeLine∧Z (upd H4 d (.lst (ys++[v])))) else Z H)
 rw [if_pos rfl]
 exact h
theorem b1T {ps:List Int} (hp:∀ x∈ps,0≤x∧x≤B30):∀ ns:List Int,0≤prc ps ns∧prc ps ns≤(ns.length:Int) * B30
 | []=>⟨by show (0:Int)≤0;decide,by show (0:Int)≤0 * B30;decide⟩
 | n :: ns=>by
  obtain ⟨h1,h2⟩:=b1T hp ns
  have e:prc ps (n :: ns)=ps.getD n.toNat 0+prc ps ns:=by unfold prc;simp
  have b:0≤ps.getD n.toNat 0∧ps.getD n.toNat 0≤B30:=by
   rw [List.getD_eq_getElem?_getD]
   cases hz:ps[n.toNat]? with
   | none=>exact ⟨by decide,by decide⟩
   | some z=>exact hp z (List.mem_of_getElem? hz)
  rw [e]
  have e2:((n :: ns).length:Int) * B30=(ns.length:Int) * B30+B30:=by
   rw [List.length_cons]
   push_cast
   rw [Int.add_mul]
   simp
  omega
def cst (ps ws:List Int) (nss:List (List Int)):Int:=(List.zipWith (fun x ns=>x * prc ps ns) ws nss).sum
section
variable {P:Program} {w:World} {K:PySem.W.Frag} {mg:Str→Option Value} {base:Heap} {f:Addr} {fd:FuncData}
def Bd (ns:List Int):Prop:=∀ x∈ns,0≤x∧x≤B30
def a9N (CU CB:Addr):Sp:=fun vs H Q E=>∃ (p wa c:Addr) (ps ws:List Int) (xs:List V) (nss:List (List Int)),vs=[.ref p,.ref wa,.ref c]∧TW H p ps∧TW H wa ws∧H c=some (.tup xs)∧Ws H xs nss∧nss.length≤100∧(∀ ns∈nss,ns.length≤1000)∧Bd ps∧Bd ws ∧
 (nss.length≠ws.length→∀ H',a0t H H'→E (.ref CU) none H')∧(nss.length=ws.length→(∀ ns∈nss,alone (ps.length:Int) ns=true)→∀ H',a0t H H'→Q (.int (cst ps ws nss)) H') ∧
 (nss.length=ws.length→(∃ ns∈nss,alone (ps.length:Int) ns=false)→∀ H',a0t H H'→E (.ref CB) none H')
abbrev NC:List Str:=["prices","weights","code"]
theorem scCost:a0o NC NC (a0e a5L):=⟨rfl,rfl,rfl,by decide +kernel,rfl,by decide +kernel,by decide +kernel⟩
theorem ndC:(("weight":Str) :: "word" :: NC).Nodup:=by decide +kernel
theorem zip_at {ps ws:List Int} {nss:List (List Int)} {i:Nat} {x:Int} {ns:List Int} (h1:ws[i]?=some x) (h2:nss[i]?=some ns):(List.zipWith (fun x ns=>x * prc ps ns) ws nss)[i]?=some (x * prc ps ns):=by
 rw [List.getElem?_zipWith,h1,h2]
theorem b3i {CU CB:Addr} (F:Fun K "cost" "cost" a5L f fd) (G:a3i P w K mg base ["prices","word"] "word_price" (a5M CB) 2) (ml:mg "len"=none) (ms:mg "sum"=none) (mz:mg "zip"=none) (mU:mg "Unlike"=some (.ref CU)) (eU:Ecl K CU) :
  a1c P w K mg base (CXF P w) 3 f fd NC (a9N CU CB):=by
 refine F.okF (k:=2) scCost (fun vs H Q E h=>?_) (fun cdv A outer s H vs Q E hr h=>?_)
 ·obtain ⟨p,wa,c,ps,ws,xs,nss,rfl,_⟩:=h
  rfl
 obtain ⟨p,wa,c,ps,ws,xs,nss,rfl,hp,hw,hc,hx,l1,l2,bp,bw,q1,q2,q3⟩:=h
 have lx:xs.length=nss.length:=hx.length
 refine ⟨_,a0f (a0U (a0u b0d (a0j a0g (by rfl) ml PySem.boot_len (a0a (pv 2) a0c)) (a0j a0g (by rfl) ml PySem.boot_len (a0a (pv 1) a0c)) (nomark _)) (a0i (a1F a0M rfl (by rfl) mU eU (a0a a3n a0c))) a0x)
  (a0i (a0s (a0j (a6b rfl) (by rfl) ms b0n (a0a (b0x K true true (M:=NC) rfl (a0k.of (a0e a5L) NC rfl rfl rfl (by decide +kernel) (by decide +kernel) (by decide +kernel) rfl (by decide +kernel)) ndC rfl rfl (by rfl) mz (a0a (pv 1) (a0a (pv 2) a0c)) (a1y a1f (a1y a1f a2Q))
   (fun cl C s0 H0 fp pins σ bk=>⟨a0W,a0v a5N (pv 0) (a0m G.ok hr (by rfl) G.m G.kp G.b .nil (a5x bk ⟨rfl,rfl⟩ a7q) (a0a (pv 2) (a0a (pv 1) a0c)))⟩)) a0c)))),?_⟩
 refine ⟨_,rfl,c,_,rfl,.inr (SqT.of hc),_,rfl,wa,_,rfl,.inr (SqT.of hw),rfl,_,rfl,?_⟩
 rw [List.length_map,lx]
 refine a1s (fun b=>?_) (fun b=>?_)
 ·refine ⟨by decide,q1 (fun z=>?_) H (a0t.refl _)⟩
  rw [z] at b
  simp at b
 have el:nss.length=ws.length:=by
  by_cases z:nss.length=ws.length
  ·exact z
  ·refine absurd ?_ b
   rw [Bool.not_eq_true',decide_eq_false_iff_not]
   intro y
   have:=V.int.inj y
   omega
 refine ⟨_,rfl,_,rfl,wa,c,_,_,rfl,SqT.of hw,SqT.of hc,by rw [List.length_map];omega,fun d hd=>?_⟩
 refine ⟨fun i H'=>a0t H H'∧H' d=some (.lst (((List.zipWith (fun x ns=>x * prc ps ns) ws nss).take i).map V.int))∧∀ j,j < i→∀ ns,nss[j]?=some ns→alone (ps.length:Int) ns=true,⟨a0d hd _,a0b,fun j hj=>absurd hj (by omega)⟩,
  fun i H' _ hP=>⟨SqT.of (hP.1 _ _ hw),SqT.of (hP.1 _ _ hc)⟩,fun i x y pp H' hx' hy' hP hpp=>?_,fun H' hP=>?_⟩
 ·obtain ⟨sm,hd',al⟩:=hP
  rw [List.getElem?_map] at hx'
  cases hz:ws[i]? with
  | none=>rw [hz] at hx';cases hx'
  | some wt =>
  rw [hz] at hx';cases hx'
  obtain ⟨ns,hn,ry⟩:=Paired.right_of hx i y hy'
  have iw:=(List.getElem?_eq_some_iff.mp hz).1
  have s2:=a0d hpp (.tup [.int wt,y])
  have dn:d≠pp:=a0r hd' hpp
  refine a9M ⟨_,rfl,_,rfl,_,rfl,.ref p,y,ps,ns,rfl,Wd.of (s2 _ _ (sm _ _ hp)),Wd.same (sm.trans s2) ry,l2 ns (List.mem_of_getElem? hn),fun ok H3 s3=>?_,fun bad H3 s3=>?_⟩
  ·obtain ⟨b1,b2⟩:=b1T bp ns
   obtain ⟨b3,b4⟩:=bw wt (List.mem_of_getElem? hz)
   have b5:(ns.length:Int)≤1000:=by have:=l2 ns (List.mem_of_getElem? hn);omega
   have b6:(ns.length:Int) * B30≤1000 * B30:=Int.mul_le_mul_of_nonneg_right b5 (by decide)
   refine ⟨_,_,rfl,rfl,⟨⟨b3,by unfold B30 at *;omega⟩,⟨b1,by unfold B30 at *;omega⟩⟩,_,s3 _ _ (s2 _ _ hd'),?_,a0q hd ((sm.trans s2).trans s3),?_,fun j hj ms hm=>?_⟩
   ·rw [List.length_map,List.length_take,List.length_zipWith];exact a0z (by omega)
   ·rw [a0b,List.take_add_one,zip_at hz hn,List.map_append];rfl
   ·rcases Nat.lt_succ_iff_lt_or_eq.mp hj with z | z
    ·exact al j z ms hm
    ·rw [z,hn] at hm;cases hm;exact ok
  ·exact q3 el ⟨ns,List.mem_of_getElem? hn,bad⟩ H3 ((sm.trans s2).trans s3)
 ·obtain ⟨sm,hd',al⟩:=hP
  rw [List.length_map] at hd' al
  rw [List.take_of_length_le (by rw [List.length_zipWith];omega)] at hd'
  refine ⟨d,_,rfl,hd',q2 el (fun ns hns=>?_) H' sm⟩
  obtain ⟨j,hj⟩:=List.mem_iff_getElem?.mp hns
  exact al j (by have:=(List.getElem?_eq_some_iff.mp hj).1;omega) ns hj
end
end K18D
namespace K18
open PySem L2
def Df (u v:List Int):Prop:=∃ (p:List Int) (x y:Int) (r s:List Int),u=p++x :: r∧v=p++y :: s∧x < y
theorem Df.ext {u v:List Int} (h:Df u v) (k:Int):Df (u++[k]) v∧Df u (v++[k]):=by
 obtain ⟨p,x,y,r,s,rfl,rfl,hxy⟩:=h
 exact ⟨⟨p,x,y,r++[k],s,by simp,rfl,hxy⟩,⟨p,x,y,r,s++[k],rfl,by simp,hxy⟩⟩
theorem Df.cons {u v:List Int} (h:Df u v) (k:Int):Df (k :: u) (k :: v):=by
 obtain ⟨p,x,y,r,s,rfl,rfl,hxy⟩:=h
 exact ⟨k :: p,x,y,r,s,rfl,rfl,hxy⟩
theorem Df.lt {u v:List Int} (h:Df u v):HT.a1b u v=true:=by
 obtain ⟨p,x,y,r,s,rfl,rfl,hxy⟩:=h
 induction p with
 | nil =>
  show HT.a1b (x :: r) (y :: s)=true
  rw [HT.a1e,if_neg (by omega)]
  exact decide_eq_true hxy
 | cons c p ih =>
  show HT.a1b (c :: (p++x :: r)) (c :: (p++y :: s))=true
  rw [HT.a1e,if_pos rfl]
  exact ih
theorem Df.ap {u v:List Int} (h:Df u v):a7w u v:=by
 obtain ⟨p,x,y,r,s,rfl,rfl,hxy⟩:=h
 refine ⟨fun z=>?_,fun z=>?_⟩
 ·have:=(List.prefix_append_right_inj p).mp z
  have:=(List.cons_prefix_cons.mp this).1
  omega
 ·have:=(List.prefix_append_right_inj p).mp z
  have:=(List.cons_prefix_cons.mp this).1
  omega
structure Ln (L:Int) (ws:List (List Int)):Prop where
 ne:ws≠[]
 s:ws.Pairwise Df
 n:NoL ws
 x:∀ u∈ws,∀ x∈u,0≤x∧x < L
theorem Ln.pf {L:Int} {ws:List (List Int)} (h:Ln L ws):PF ws:=h.s.imp fun k=>k.ap
theorem gr_ln {b:Int} {n:Nat} {ws:List (List Int)} (h:Gr b false n ws):Ln b ws:=by
 induction h with
 | zero =>
  refine ⟨by simp,by simp,fun q x r hm=>?_,fun u hu=>?_⟩
  ·have:=List.mem_singleton.mp hm
   cases q <;> cases this
  ·rw [List.mem_singleton.mp hu];intro x hx;cases hx
 | stay _ ih=>exact ih
 | @grow n ws t u ss hg hu hs h1 h2 hx hl ih =>
  have h2:=h2 rfl
  have tl:=(List.getElem?_eq_some_iff.mp hu).1
  have sp:ws=ws.take t++u :: ws.drop (t+1):=by
   have e:=(List.getElem?_eq_some_iff.mp hu).2
   rw [←e,List.getElem_cons_drop,List.take_append_drop]
  have mu:u∈ws:=List.mem_of_getElem? hu
  generalize ws.take t=A at sp ⊢
  generalize ws.drop (t+1)=B at sp ⊢
  have ps:=ih.s
  rw [sp,List.pairwise_append] at ps
  obtain ⟨pA,pB,pAB⟩:=ps
  rw [List.pairwise_cons] at pB
  have mem:∀ w,w∈A++ss.map (fun k=>u++[k])++B↔(w∈ws∧w≠u)∨∃ k∈ss,w=u++[k]:=fun w=>by
   have nu:∀ w∈A++B,w≠u:=fun w hw e=>by
    subst e
    rcases List.mem_append.mp hw with z | z
    ·exact (pAB w z w (.head _)).ap.1 (List.prefix_refl _)
    ·exact (pB.1 w z).ap.1 (List.prefix_refl _)
   rw [sp]
   simp only [List.mem_append,List.mem_cons,List.mem_map]
   constructor
   ·rintro ((z | ⟨k,hk,rfl⟩) | z)
    ·exact .inl ⟨.inl z,nu w (List.mem_append_left _ z)⟩
    ·exact .inr ⟨k,hk,rfl⟩
    ·exact .inl ⟨.inr (.inr z),nu w (List.mem_append_right _ z)⟩
   ·rintro (⟨z | z | z,ne⟩ | ⟨k,hk,rfl⟩)
    ·exact .inl (.inl z)
    ·exact absurd z ne
    ·exact .inr z
    ·exact .inl (.inr ⟨k,hk,rfl⟩)
  have kk:∀ w∈ws,∃ r,w++r∈A++ss.map (fun k=>u++[k])++B:=fun w hw=>by
   by_cases e:w=u
   ·subst e
    cases ss with
    | nil=>simp at h1
    | cons k r=>exact ⟨[k],(mem _).mpr (.inr ⟨k,.head _,rfl⟩)⟩
   ·exact ⟨[],(mem _).mpr (.inl ⟨by rw [List.append_nil];exact hw,by rw [List.append_nil];exact e⟩)⟩
  refine ⟨?_,?_,fun q x r hm=>?_,fun w hw=>?_⟩
  ·intro e
   have:ss.length=0:=by
    have:=congrArg List.length e
    rw [List.length_append,List.length_append,List.length_map,List.length_nil] at this
    omega
   omega
  ·rw [List.append_assoc,List.pairwise_append]
   refine ⟨pA,?_,fun a ha c hc=>?_⟩
   ·rw [List.pairwise_append]
    refine ⟨?_,pB.2,fun a ha c hc=>?_⟩
    ·rw [List.pairwise_map]
     exact hs.imp fun {k k'} hk=>⟨u,k,k',[],[],rfl,rfl,hk⟩
    ·obtain ⟨k,_,rfl⟩:=List.mem_map.mp ha
     exact ((pB.1 c hc).ext k).1
   ·rcases List.mem_append.mp hc with z | z
    ·obtain ⟨k,_,rfl⟩:=List.mem_map.mp z
     exact ((pAB a ha u (.head _)).ext k).2
    ·exact pAB a ha c (.tail _ z)
  ·have key:q++x :: r∈ws→∃ y r',y≠x∧q++y :: r'∈A++ss.map (fun k=>u++[k])++B:=fun h=>by
    obtain ⟨y,r',ne,hy⟩:=ih.n q x r h
    obtain ⟨r2,h2⟩:=kk _ hy
    exact ⟨y,r'++r2,ne,by rw [show q++y :: r'++r2=q++y :: (r'++r2) by simp] at h2;exact h2⟩
   rcases (mem _).mp hm with ⟨z,_⟩ | ⟨k,hk,e⟩
   ·exact key z
   ·rcases List.eq_nil_or_concat r with rr | ⟨r0,z,rr⟩
    ·subst rr
     have e1:q++[x]=u++[k]:=e
     have e2:=List.append_inj' e1 rfl
     have e3:x=k:=(List.cons.inj e2.2).1
     obtain ⟨rfl⟩:q=u:=e2.1
     subst e3
     have:∃ k'∈ss,k'≠x:=by
      cases hss:ss with
      | nil=>rw [hss] at h2;simp at h2
      | cons a t =>
       cases t with
       | nil=>rw [hss] at h2;simp at h2
       | cons b t =>
        rw [hss,List.pairwise_cons] at hs
        have:=hs.1 b (.head _)
        by_cases z:a=x
        ·exact ⟨b,.tail _ (.head _),by omega⟩
        ·exact ⟨a,.head _,z⟩
     obtain ⟨k',hk',ne⟩:=this
     exact ⟨k',[],ne,(mem _).mpr (.inr ⟨k',hk',rfl⟩)⟩
    ·rw [List.concat_eq_append] at rr
     subst rr
     have e1:(q++x :: r0)++[z]=u++[k]:=by rw [←e];simp
     have e2:=List.append_inj' e1 rfl
     obtain ⟨y,r',ne,hy⟩:=ih.n q x r0 (by rw [e2.1];exact mu)
     obtain ⟨r2,h2⟩:=kk _ hy
     exact ⟨y,r'++r2,ne,by rw [show q++y :: r'++r2=q++y :: (r'++r2) by simp] at h2;exact h2⟩
  ·rcases (mem w).mp hw with ⟨z,_⟩ | ⟨k,hk,rfl⟩
   ·exact ih.x w z
   ·intro y hy
    rcases List.mem_append.mp hy with z | z
    ·exact ih.x u mu y z
    ·rw [List.mem_singleton.mp z];exact hx k hk
theorem a6P {ws:List (List Int)} (h:ws.Pairwise Df):rises ws=true:=by
 unfold rises b3s
 rw [List.all_eq_true]
 intro b hb
 obtain ⟨i,hi,rfl⟩:=List.mem_map.mp hb
 have hi:=List.mem_range.mp hi
 have:=List.pairwise_iff_getElem.mp h i (i+1) (by omega) (by omega) (by omega)
 rw [List.getD_eq_getElem?_getD,List.getD_eq_getElem?_getD,List.getElem?_eq_getElem (by omega),List.getElem?_eq_getElem (by omega)]
 exact this.lt
theorem a9O {k:List Int} {l:Int}:∀ {wy:List (List Int × List Int)},(wy.map (·.1)).Nodup→((a1B k l wy).map (·.1)).Nodup∧∀ x,x∈(a1B k l wy).map (·.1)→x=k∨x∈wy.map (·.1)
 | [],_=>⟨by rw [show a1B k l []=[(k,[l])] from rfl];simp,fun x hx=>.inl (by rw [show a1B k l []=[(k,[l])] from rfl] at hx;simpa using hx)⟩
 | (k',ls) :: r,h=>by
  rw [List.map_cons,List.nodup_cons] at h
  unfold a1B
  split
  ·exact ⟨by rw [List.map_cons,List.nodup_cons];exact h,fun x hx=>.inr hx⟩
  ·rename_i ne
   obtain ⟨i1,i2⟩:=a9O (k:=k) (l:=l) h.2
   refine ⟨?_,fun x hx=>?_⟩
   ·rw [List.map_cons,List.nodup_cons]
    refine ⟨fun z=>?_,i1⟩
    rcases i2 _ z with y | y
    ·exact ne y
    ·exact h.1 y
   ·rcases List.mem_cons.mp hx with rfl | hx
    ·exact .inr (.head _)
    ·rcases i2 x hx with y | y
     ·exact .inl y
     ·exact .inr (.tail _ y)
theorem a5g {word:List Int} {wy:List (List Int × List Int)} (h:(wy.map (·.1)).Nodup):∀ n,((a4r word n wy).map (·.1)).Nodup
 | 0=>h
 | n+1=>by rw [a0J];exact (a9O (a5g h n)).1
theorem a3g {ws:List (List Int)}:∀ n,n≤ws.length→((a0X ws n).map (·.1)).Nodup
 | 0,_=>by rw [show a0X ws 0=[] from rfl];simp
 | n+1,h=>by
  rw [a0N (List.getElem?_eq_getElem (by omega))]
  exact a5g (a3g n (by omega)) _
theorem a5h {α:Type} {x:α}:∀ {l:List α},l.Nodup→(∀ y∈l,y=x)→x∈l→l.length=1
 | [],_,_,h=>by cases h
 | [a],_,_,_=>rfl
 | a :: b :: r,nd,h,_=>by
  rw [List.nodup_cons] at nd
  exact absurd (by rw [h a (.head _),←h b (.tail _ (.head _))];exact .head _) nd.1
theorem a6Q (ws:List (List Int)):WI (fun k y=>∃ r,k++y :: r∈ws) (a0Y ws):=a3c (fun word hw i hi=>⟨word.drop (i+1),by
  have e:word.getD i 0=word[i]:=by rw [List.getD_eq_getElem?_getD,List.getElem?_eq_getElem hi];rfl
  rw [e,List.getElem_cons_drop,List.take_append_drop]
  exact hw⟩) _ (Nat.le_refl _)
theorem a6R {ws:List (List Int)} {k:List Int} {l:Int} {r:List Int} (h:k++l :: r∈ws):Has (a0Y ws) k l:=by
 obtain ⟨j,hj⟩:=List.getElem?_of_mem h
 have hi:k.length < (k++l :: r).length:=by rw [List.length_append,List.length_cons];omega
 have:=a2n hj hi ws.length (List.getElem?_eq_some_iff.mp hj).1 (Nat.le_refl _)
 rw [List.take_left] at this
 have eg:(k++l :: r).getD k.length 0=l:=by
  rw [List.getD_eq_getElem?_getD,List.getElem?_append_right (Nat.le_refl _),Nat.sub_self]
  rfl
 rw [eg] at this
 exact this
theorem a9P {wy:List (List Int × List Int)} (h:(wy.map (·.1)).Nodup) {p q:List Int × List Int} (hp:p∈wy) (hq:q∈wy) (e:p.1=q.1):p=q:=by
 induction wy with
 | nil=>cases hp
 | cons a r ih =>
  rw [List.map_cons,List.nodup_cons] at h
  rcases List.mem_cons.mp hp with e1 | hp1 <;> rcases List.mem_cons.mp hq with e2 | hq1
  ·rw [e1,e2]
  ·exact absurd (by rw [←e1,e];exact List.mem_map.mpr ⟨q,hq1,rfl⟩) h.1
  ·exact absurd (by rw [←e2,←e];exact List.mem_map.mpr ⟨p,hp1,rfl⟩) h.1
  ·exact ih h.2 hp1 hq1
theorem b1o {ws:List (List Int)} (h:NoL ws):∀ q∈a0Y ws,q.2.length≠1:=fun q hq e=>by
 obtain ⟨l,hl⟩:∃ l,q.2=[l]:=by
  cases hq2:q.2 with
  | nil=>rw [hq2] at e;cases e
  | cons a t =>
   cases t with
   | nil=>exact ⟨a,rfl⟩
   | cons b t=>rw [hq2] at e;cases e
 obtain ⟨r,hr⟩:=(a6Q ws q hq).2 l (by rw [hl];exact .head _)
 obtain ⟨y,r',ne,hy⟩:=h q.1 l r hr
 obtain ⟨p,hp,e1,e2⟩:=a6R hy
 have:=a9P (a3g (ws:=ws) ws.length (Nat.le_refl _)) hp hq e1
 rw [this,hl] at e2
 exact ne (List.mem_singleton.mp e2)
theorem Ln.lean {L:Int} {ws:List (List Int)} (h:Ln L ws):a9y ws:=⟨a6P h.s,b1o h.n⟩
theorem a9Q {ws:List (List Int)} (l:Int) (ne:ws≠[]):¬ a9y (ws.map (l :: ·)):=fun h=>by
 obtain ⟨u,hu⟩:∃ u,u∈ws:=by
  cases ws with
  | nil=>exact absurd rfl ne
  | cons a r=>exact ⟨a,.head _⟩
 obtain ⟨q,hq,e1,e2⟩:=a6R (ws:=ws.map (l :: ·)) (k:=[]) (l:=l) (r:=u) (List.mem_map.mpr ⟨u,hu,rfl⟩)
 obtain ⟨nd,src⟩:=a6Q (ws.map (l :: ·)) q hq
 refine h.2 q hq (a5h nd (fun y hy=>?_) e2)
 obtain ⟨r,hr⟩:=src y hy
 rw [e1] at hr
 obtain ⟨v,_,ev⟩:=List.mem_map.mp hr
 exact (List.cons.inj ev).1.symm
theorem a6S {ws:List (List Int)} (l:Int) (h:ws.Pairwise Df):(ws.map (l :: ·)).Pairwise Df:=by
 rw [List.pairwise_map]
 exact h.imp fun k=>k.cons l
theorem a5i {α:Type} {p:α→Bool}:∀ {l:List α},l.Pairwise (fun u v=>p v=true→p u=true)→l=l.filter p++l.filter (fun x=>!p x)
 | [],_=>rfl
 | u :: l,h=>by
  rw [List.pairwise_cons] at h
  have ih:=a5i h.2
  cases hu:p u with
  | true =>
   rw [List.filter_cons_of_pos hu,List.filter_cons_of_neg (by rw [hu];decide),List.cons_append,←ih]
  | false =>
   have e:l.filter p=[]:=List.filter_eq_nil_iff.mpr fun v hv z=>by rw [h.1 v hv z] at hu;cases hu
   have e2:l.filter (fun x=>!p x)=l:=List.filter_eq_self.mpr fun v hv=>by
    cases hv':p v with
    | false=>rfl
    | true=>rw [h.1 v hv hv'] at hu;cases hu
   rw [List.filter_cons_of_neg (by rw [hu];decide),List.filter_cons_of_pos (by rw [hu];rfl),e,e2]
   rfl
theorem parted:∀ (ls:List Int) (ws:List (List Int)),ls.Pairwise (· < ·)→(∀ u∈ws,u≠[]∧u.headD 0∈ls)→ws.Pairwise (fun u v=>u.headD 0≤v.headD 0)→ws=ls.flatMap fun l=>(a0Q ws l).map (l :: ·)
 | [],ws,_,h,_=>by
  cases ws with
  | nil=>rfl
  | cons u r=>exact absurd (h u (.head _)).2 (by simp)
 | l :: r,ws,hl,h,hs=>by
  rw [List.pairwise_cons] at hl
  have pw:ws.Pairwise (fun u v=>decide (v.headD 0=l)=true→decide (u.headD 0=l)=true):=by
   refine List.Pairwise.imp_of_mem ?_ hs
   intro u v hu hv huv hz
   have hz:=of_decide_eq_true hz
   refine decide_eq_true ?_
   rcases List.mem_cons.mp (h u hu).2 with e | e
   ·exact e
   ·have:=hl.1 _ e;omega
  have e:=a5i pw
  have eA:ws.filter (fun u=>decide (u.headD 0=l))=(a0Q ws l).map (l :: ·):=by
   unfold a0Q
   rw [List.map_map]
   conv=>lhs;rw [←List.map_id (ws.filter _)]
   refine List.map_congr_left fun u hu=>?_
   obtain ⟨h1,h2⟩:=List.mem_filter.mp hu
   have h2:=of_decide_eq_true h2
   cases u with
   | nil=>exact absurd rfl (h _ h1).1
   | cons a t =>
    have:a=l:=h2
    subst this
    rfl
  have gB:∀ l'∈r,a0Q ws l'=a0Q (ws.filter fun x=>!decide (x.headD 0=l)) l':=fun l' hl'=>by
   unfold a0Q
   rw [List.filter_filter]
   congr 1
   refine List.filter_congr fun u _=>?_
   by_cases z:u.headD 0=l'
   ·have:¬ u.headD 0=l:=by have:=hl.1 l' hl';omega
    rw [decide_eq_true z,decide_eq_false this];rfl
   ·rw [decide_eq_false z,Bool.false_and]
  have ih:=parted r (ws.filter fun x=>!decide (x.headD 0=l)) hl.2 (fun u hu=>by
   obtain ⟨h1,h2⟩:=List.mem_filter.mp hu
   refine ⟨(h u h1).1,?_⟩
   rcases List.mem_cons.mp (h u h1).2 with e | e
   ·rw [decide_eq_true e] at h2;cases h2
   ·exact e) (hs.filter _)
  rw [List.flatMap_cons,←eA]
  conv=>lhs;rw [e]
  congr 1
  conv=>lhs;rw [ih]
  exact a2D fun l' hl'=>by rw [gB l' hl']
theorem a9R (ws:List (List Int)):(lets ws).Pairwise (· < ·):=by
 unfold lets
 rw [List.pairwise_map]
 refine List.Pairwise.filter _ ?_
 exact List.pairwise_lt_range.imp fun h=>by show ((_:Nat):Int) < ((_:Nat):Int);omega
theorem a4l {ws:List (List Int)} {l:Int} (hx:∀ u∈ws,0≤u.headD 0∧u.headD 0 < 8):l∈lets ws↔∃ u∈ws,u.headD 0=l:=by
 unfold lets
 constructor
 ·intro h
  obtain ⟨i,hi,rfl⟩:=List.mem_map.mp h
  obtain ⟨_,h2⟩:=List.mem_filter.mp hi
  obtain ⟨u,hu,e⟩:=List.mem_map.mp (of_decide_eq_true h2)
  have:=hx u hu
  exact ⟨u,hu,by show _=((i:Nat):Int);omega⟩
 ·rintro ⟨u,hu,rfl⟩
  have:=hx u hu
  refine List.mem_map.mpr ⟨(u.headD 0).toNat,List.mem_filter.mpr ⟨List.mem_range.mpr (by omega),decide_eq_true (List.mem_map.mpr ⟨u,hu,rfl⟩)⟩,?_⟩
  show (((u.headD 0).toNat:Nat):Int)=_
  omega
theorem go_df {ws:List (List Int)} (h:ws.Pairwise Df) (full:∀ u∈ws,u≠[]) (l:Int):(a0Q ws l).Pairwise Df:=by
 unfold a0Q
 rw [List.pairwise_map]
 refine List.Pairwise.imp_of_mem ?_ (h.filter _)
 intro u v hu hv huv
 obtain ⟨h1,h2⟩:=List.mem_filter.mp hu
 obtain ⟨h3,h4⟩:=List.mem_filter.mp hv
 have h2:=of_decide_eq_true h2
 have h4:=of_decide_eq_true h4
 obtain ⟨p,x,y,r,s,rfl,rfl,hxy⟩:=huv
 cases p with
 | nil =>
  have:x=l:=h2
  have:y=l:=h4
  omega
 | cons c p=>exact ⟨p,x,y,r,s,rfl,rfl,hxy⟩
theorem a5O {u v:List Int} (h:Df u v):u.headD 0≤v.headD 0∧u≠[]∧v≠[]:=by
 obtain ⟨p,x,y,r,s,rfl,rfl,hxy⟩:=h
 cases p with
 | nil=>exact ⟨by show x≤y;omega,by simp,by simp⟩
 | cons c p=>exact ⟨by show c≤c;omega,by simp,by simp⟩
theorem Ln.full {L:Int} {ws:List (List Int)} (h:Ln L ws) (n1:ws≠[[]]):∀ u∈ws,u≠[]:=fun u hu e=>by
 subst e
 obtain ⟨i,hi,ei⟩:=List.getElem_of_mem hu
 have:ws.length=1:=by
  by_cases z:ws.length=1
  ·exact z
  ·exfalso
   have hl:0 < ws.length:=by omega
   by_cases z0:i=0
   ·have:=List.pairwise_iff_getElem.mp h.s i 1 hi (by omega) (by omega)
    exact (a5O this).2.1 ei
   ·have:=List.pairwise_iff_getElem.mp h.s 0 i (by omega) hi (by omega)
    exact (a5O this).2.2 ei
 cases ws with
 | nil=>cases hu
 | cons a r =>
  cases r with
  | nil=>exact n1 (by rw [List.mem_singleton.mp hu])
  | cons b r=>simp at this
theorem Ln.go {L:Int} {ws:List (List Int)} (h:Ln L ws) (n1:ws≠[[]]) {l:Int} (hl:∃ u∈ws,u.headD 0=l):Ln L (a0Q ws l):=by
 have full:=h.full n1
 refine ⟨?_,go_df h.s full l,b1M h.n full l,fun u hu x hx=>?_⟩
 ·obtain ⟨u,hu,e⟩:=hl
  intro z
  have:u.tail∈a0Q ws l:=List.mem_map.mpr ⟨u,List.mem_filter.mpr ⟨hu,decide_eq_true e⟩,rfl⟩
  rw [z] at this;cases this
 ·exact h.x _ ((a2b full).mp hu) x (.tail _ hx)
theorem Ln.hd {L:Int} {ws:List (List Int)} (h:Ln L ws) (n1:ws≠[[]]) (L8:L≤8):∀ u∈ws,0≤u.headD 0∧u.headD 0 < L∧u.headD 0 < 8:=fun u hu=>by
 have:=h.full n1 u hu
 cases u with
 | nil=>exact absurd rfl this
 | cons a t =>
  have:=h.x _ hu a (.head _)
  exact ⟨this.1,this.2,by show a < 8;omega⟩
theorem Ln.parts {L:Int} {ws:List (List Int)} (h:Ln L ws) (n1:ws≠[[]]) (L8:L≤8):ws=(lets ws).flatMap fun l=>(a0Q ws l).map (l :: ·) :=
 parted _ _ (a9R ws) (fun u hu=>⟨h.full n1 u hu,(a4l fun u hu=>⟨(h.hd n1 L8 u hu).1,(h.hd n1 L8 u hu).2.2⟩).mpr ⟨u,hu,rfl⟩⟩) (h.s.imp fun k=>(a5O k).1)
theorem Ln.one {L:Int} {ws:List (List Int)} (h:Ln L ws) (e:ws.length=1):ws=[[]]:=by
 cases ws with
 | nil=>cases e
 | cons a r =>
  cases r with
  | nil=>rw [a9v h.n]
  | cons b r=>cases e
theorem go_lt {L:Int} {ws:List (List Int)} (h:Ln L ws) (n1:ws≠[[]]) {l:Int} (hl:∃ u∈ws,u.headD 0=l):(a0Q ws l).length < ws.length:=by
 obtain ⟨u,hu,e⟩:=hl
 have nu:=h.full n1 u hu
 cases u with
 | nil=>exact absurd rfl nu
 | cons a t =>
  have e:a=l:=e
  subst e
  obtain ⟨y,r',ne,hy⟩:=h.n [] a t hu
  unfold a0Q
  rw [List.length_map]
  rw [List.length_filter_lt_length_iff_exists]
  exact ⟨y :: r',hy,by rw [decide_eq_false (show ¬ (y :: r').headD 0=a from ne)];decide⟩
theorem rd_lp {L:Int} {ps:List (Int × Int)} {n:Int} {f fu:Nat} {g:Int→List (List Int)} (rec:∀ l at',g l≠[]→(∃ pre post,ps=pre++spl fu (g l)++post∧pre.length=at')→K18B.rd L ps f (g l).length at'=some (g l,at'+(spl fu (g l)).length)):∀ (ls:List Int) (acc:List (List Int)) (le:Int) (at' k:Nat),
  ls.Pairwise (· < ·)→(∀ l∈ls,le≤l∧l < L∧g l≠[]∧((g l).length:Int)≤n - 1)→((acc.length:Nat):Int)+(((ls.flatMap fun l=>(g l).map (l :: ·)).length:Nat):Int)=n→(∃ pre post,ps=pre++(ls.flatMap fun l=>(l,((g l).length:Int)) :: spl fu (g l))++post∧pre.length=at')→ls.length≤k →
  K18B.a4j (K18B.rd L ps f) L ps n k acc le at'=some (acc++ls.flatMap (fun l=>(g l).map (l :: ·)),at'+(ls.flatMap fun l=>(l,((g l).length:Int)) :: spl fu (g l)).length)
 | [],acc,le,at',k,_,_,e,_,_=>by
  have e:(acc.length:Int)=n:=by simpa using e
  cases k with
  | zero=>simp [K18B.a4j]
  | succ k=>unfold K18B.a4j;rw [if_neg (by omega)];simp
 | l :: r,acc,le,at',k,hl,h,e,⟨pre,post,hp,hat⟩,hk=>by
  cases k with
  | zero=>simp at hk
  | succ k =>
   rw [List.pairwise_cons] at hl
   obtain ⟨h1,h2,h3,h4⟩:=h l (.head _)
   have gl:0 < (g l).length:=List.length_pos_iff.mpr h3
   rw [List.flatMap_cons,List.length_append,List.length_map] at e
   unfold K18B.a4j
   rw [if_pos (by push_cast at e;omega)]
   have hp2:ps=pre++(l,((g l).length:Int)) :: (spl fu (g l)++((r.flatMap fun l=>(l,((g l).length:Int)) :: spl fu (g l))++post)):=by rw [hp,List.flatMap_cons];simp
   have hat':ps[at']?=some (l,((g l).length:Int)):=by rw [hp2,←hat,List.getElem?_append_right (Nat.le_refl _),Nat.sub_self];rfl
   rw [hat']
   dsimp only
   rw [if_pos (K18B.a5K.mpr ⟨h1,h2,by omega,by push_cast at e;omega⟩)]
   rw [rec l (at'+1) h3 ⟨pre++[(l,((g l).length:Int))],(r.flatMap fun l=>(l,((g l).length:Int)) :: spl fu (g l))++post,by rw [hp2];simp,by rw [List.length_append,hat];rfl⟩]
   dsimp only
   rw [rd_lp rec r (acc++(g l).map (l :: ·)) (l+1) (at'+1+(spl fu (g l)).length) k hl.2 (fun l' hl'=>by
     obtain ⟨a,b,c,d⟩:=h l' (.tail _ hl')
     have:=hl.1 l' hl'
     exact ⟨by omega,b,c,d⟩) (by rw [List.length_append,List.length_map];push_cast at e ⊢;omega) ⟨pre++(l,((g l).length:Int)) :: spl fu (g l),post,by rw [hp2];simp,by rw [List.length_append,List.length_cons,hat];omega⟩ (by rw [List.length_cons] at hk;omega)]
   rw [List.flatMap_cons,List.flatMap_cons,List.length_append,List.length_cons,List.append_assoc]
   congr 2
   omega
theorem a9S {L:Int} (L8:L≤8) {ps:List (Int × Int)}:∀ (f fu:Nat) (ws:List (List Int)) (at':Nat),Ln L ws→ws.length≤f→(∀ u∈ws,u.length < fu)→(∃ pre post,ps=pre++spl fu ws++post∧pre.length=at')→K18B.rd L ps f ws.length at'=some (ws,at'+(spl fu ws).length)
 | 0,fu,ws,at',h,hf,_,_=>by
  have:ws=[]:=List.eq_nil_of_length_eq_zero (by omega)
  exact absurd this h.ne
 | f+1,0,ws,at',h,hf,hu,_=>by
  cases ws with
  | nil=>exact absurd rfl h.ne
  | cons a r=>exact absurd (hu a (.head _)) (by omega)
 | f+1,fu+1,ws,at',h,hf,hu,hp=>by
  unfold K18B.rd
  by_cases e1:ws=[[]]
  ·subst e1
   rw [if_pos (show ((([[]]:List (List Int)).length:Nat):Int)=1 from rfl)]
   show some ([[]],at')=some ([[]],at'+(if ([[]]:List (List Int))=[[]] then ([]:List (Int × Int)) else _).length)
   rw [if_pos rfl]
   rfl
  have nl:¬ ws.length=1:=fun e=>e1 (h.one e)
  rw [if_neg (by omega)]
  have es:spl (fu+1) ws=(lets ws).flatMap fun l=>(l,((a0Q ws l).length:Int)) :: spl fu (a0Q ws l):=by show (if ws=[[]] then _ else _)=_;rw [if_neg e1]
  have pt:=h.parts e1 L8
  have hm:∀ l,l∈lets ws↔∃ u∈ws,u.headD 0=l:=fun l=>a4l fun u hu=>⟨(h.hd e1 L8 u hu).1,(h.hd e1 L8 u hu).2.2⟩
  have hpos:0 < ws.length:=List.length_pos_iff.mpr h.ne
  have ll:(lets ws).length≤ws.length:=by
   conv=>rhs;rw [pt]
   have:∀ ls:List Int,(∀ l∈ls,a0Q ws l≠[])→ls.length≤(ls.flatMap fun l=>(a0Q ws l).map (l :: ·)).length:=by
    intro ls
    induction ls with
    | nil=>intro _;simp
    | cons a r ih =>
     intro hh
     have:=ih fun l hl=>hh l (.tail _ hl)
     have:0 < (a0Q ws a).length:=List.length_pos_iff.mpr (hh a (.head _))
     rw [List.flatMap_cons,List.length_append,List.length_map,List.length_cons]
     omega
   exact this _ fun l hl=>(h.go e1 ((hm l).mp hl)).ne
  have:=rd_lp (L:=L) (ps:=ps) (n:=(ws.length:Int)) (f:=f) (fu:=fu) (g:=a0Q ws) (fun l a' ne hpp=>by
    have hl:∃ u∈ws,u.headD 0=l:=by
     cases hg:a0Q ws l with
     | nil=>exact absurd hg ne
     | cons v r =>
      have:v∈a0Q ws l:=by rw [hg];exact .head _
      exact ⟨l :: v,(a2b (h.full e1)).mp this,rfl⟩
    have:=go_lt h e1 hl
    exact a9S L8 f fu (a0Q ws l) a' (h.go e1 hl) (by omega) (fun u hu'=>by have:=hu _ ((a2b (h.full e1)).mp hu');rw [List.length_cons] at this;omega) hpp)
   (lets ws) [] 0 at' ws.length (a9R ws) (fun l hl=>by
    obtain ⟨u,hu',e⟩:=(hm l).mp hl
    have:=h.hd e1 L8 u hu'
    have:=go_lt h e1 ((hm l).mp hl)
    exact ⟨by omega,by omega,(h.go e1 ((hm l).mp hl)).ne,by omega⟩) (by rw [←pt];simp) (by rw [←es];exact hp) ll
  rw [show ((ws.length:Nat):Int).toNat=ws.length by omega,this,←es,←pt]
  rfl
theorem a4m {L:Int} (L8:L≤8) {ws:List (List Int)} (h:Ln L ws) (l24:ws.length≤24) (hu:∀ u∈ws,u.length < 53):K18B.due L (spl 53 ws) ws.length=some ws:=by
 unfold K18B.due
 rw [a9S L8 24 53 ws 0 h l24 hu ⟨[],[],by simp,rfl⟩]
 dsimp only
 rw [if_pos (by omega)]
theorem b3j {L:Int} (L8:L≤8) {ws us:List (List Int)} (h:Ln L ws) (k:Ln L us) (l24:ws.length≤24) (hw:∀ u∈ws,u.length < 53) (hk:∀ u∈us,u.length < 53) (el:ws.length=us.length) (e:spl 53 ws=spl 53 us):ws=us:=by
 have a:=a4m L8 h l24 hw
 have b:=a4m L8 k (by omega) hk
 rw [e,el,b] at a
 exact (Option.some.inj a).symm
def a7W:List (Int × Int)→List (Int × Int)
 | []=>[]
 | (a,b) :: r=>if a=b then a7W r else (a,b) :: r
def run (ps W:List Int):List (Int × Int)→Int→List (Int × Int)→Option Int
 | [],t,_=>some t
 | q :: qs,t,st=>match a7W st with
  | []=>none
  | (s,e) :: r=>if 0≤q.1∧q.1 < (ps.length:Int)∧1≤q.2∧0≤s∧s+q.2≤(W.length:Int) then run ps W qs (t+ps.getD q.1.toNat 0 * ((W.drop s.toNat).take q.2.toNat).sum) (if 1 < q.2 then (s,s+q.2) :: (s+q.2,e) :: r else (s+q.2,e) :: r) else none
def Ex (X:List (Int × Int)):Prop:=∀ p∈X,p.1=p.2
theorem pop_ex {X st:List (Int × Int)} (h:Ex X):a7W (X++st)=a7W st:=by
 induction X with
 | nil=>rfl
 | cons p X ih =>
  obtain ⟨a,b⟩:=p
  have:a=b:=h (a,b) (.head _)
  show (if a=b then a7W (X++st) else _)=_
  rw [if_pos this]
  exact ih fun p hp=>h p (.tail _ hp)
def Cr (ps W:List Int):Nat→List (List Int)→Int
 | _,[]=>0
 | s,u :: r=>W.getD s 0 * K18D.prc ps u+Cr ps W (s+1) r
def wS (W:List Int):Nat→Nat→Int
 | _,0=>0
 | s,m+1=>W.getD s 0+wS W (s+1) m
theorem b3k {W:List Int}:∀ (m s:Nat),s+m≤W.length→((W.drop s).take m).sum=wS W s m
 | 0,s,_=>by simp [wS]
 | m+1,s,h=>by
  rw [List.drop_eq_getElem_cons (show s < W.length by omega),List.take_succ_cons,List.sum_cons,b3k m (s+1) (by omega)]
  show _=W.getD s 0+wS W (s+1) m
  rw [List.getD_eq_getElem?_getD,List.getElem?_eq_getElem (show s < W.length by omega)]
  rfl
theorem b1U {ps W:List Int}:∀ (A B:List (List Int)) (s:Nat),Cr ps W s (A++B)=Cr ps W s A+Cr ps W (s+A.length) B
 | [],B,s=>by show _=0+Cr ps W (s+0) B;rw [Nat.add_zero,Int.zero_add];rfl
 | u :: A,B,s=>by
  show W.getD s 0 * K18D.prc ps u+Cr ps W (s+1) (A++B)=W.getD s 0 * K18D.prc ps u+Cr ps W (s+1) A+Cr ps W (s+(A.length+1)) B
  rw [b1U A B (s+1),show s+1+A.length=s+(A.length+1) by omega]
  omega
theorem b1p {ps:List Int} (l:Int) (u:List Int):K18D.prc ps (l :: u)=ps.getD l.toNat 0+K18D.prc ps u:=by unfold K18D.prc;simp
theorem a9T {ps W:List Int} (l:Int):∀ (A:List (List Int)) (s:Nat),Cr ps W s (A.map (l :: ·))=ps.getD l.toNat 0 * wS W s A.length+Cr ps W s A
 | [],s=>by show (0:Int)=_ * 0+0;simp
 | u :: A,s=>by
  show W.getD s 0 * K18D.prc ps (l :: u)+Cr ps W (s+1) (A.map (l :: ·))=_ * (W.getD s 0+wS W (s+1) A.length)+(W.getD s 0 * K18D.prc ps u+Cr ps W (s+1) A)
  rw [a9T l A (s+1),b1p,Int.mul_add,Int.mul_add,Int.mul_comm (W.getD s 0) (ps.getD l.toNat 0)]
  omega
theorem a6T {ps:List Int}:∀ (A:List (List Int)) (W:List Int) (s:Nat),s+A.length≤W.length→(List.zipWith (fun x u=>x * K18D.prc ps u) (W.drop s) A).sum=Cr ps W s A
 | [],W,s,_=>by rw [List.zipWith_nil_right];rfl
 | u :: A,W,s,h=>by
  rw [List.length_cons] at h
  rw [List.drop_eq_getElem_cons (show s < W.length by omega),List.zipWith_cons_cons,List.sum_cons,a6T A W (s+1) (by omega)]
  show _=W.getD s 0 * K18D.prc ps u+Cr ps W (s+1) A
  rw [List.getD_eq_getElem?_getD,List.getElem?_eq_getElem (show s < W.length by omega)]
  rfl
theorem a9U {ps W:List Int} {fu:Nat} {g:Int→List (List Int)} (rec:∀ (l:Int) (s:Nat) (t:Int) (st rest:List (Int × Int)),1 < (g l).length→s+(g l).length≤W.length→∃ Y,Ex Y∧run ps W (spl fu (g l)++rest) t (((s:Int),(s:Int)+((g l).length:Int)) :: st)=run ps W rest (t+Cr ps W s (g l)) (Y++((s:Int)+((g l).length:Int),(s:Int)+((g l).length:Int)) :: st))
  (one:∀ l,(g l).length=1→g l=[[]]):∀ (ls:List Int) (X:List (Int × Int)) (s n:Nat) (t:Int) (st rest:List (Int × Int)),Ex X→(∀ l∈ls,0≤l∧l < (ps.length:Int)∧0 < (g l).length)→n=(ls.flatMap fun l=>(g l).map (l :: ·)).length→s+n≤W.length →
  ∃ Y,Ex Y∧run ps W ((ls.flatMap fun l=>(l,((g l).length:Int)) :: spl fu (g l))++rest) t (X++((s:Int),(s:Int)+(n:Int)) :: st)=run ps W rest (t+Cr ps W s (ls.flatMap fun l=>(g l).map (l :: ·))) (Y++((s:Int)+(n:Int),(s:Int)+(n:Int)) :: st)
 | [],X,s,n,t,st,rest,hX,_,hn,_=>by
  have hn:n=0:=hn
  subst hn
  refine ⟨X,hX,?_⟩
  show run ps W rest t _=run ps W rest (t+0) _
  rw [Int.add_zero,show (s:Int)+((0:Nat):Int)=(s:Int) by omega]
 | l :: r,X,s,n,t,st,rest,hX,h,hn,hs=>by
  obtain ⟨h1,h2,h3⟩:=h l (.head _)
  rw [List.flatMap_cons,List.length_append,List.length_map] at hn
  have eP:a7W (X++((s:Int),(s:Int)+(n:Int)) :: st)=((s:Int),(s:Int)+(n:Int)) :: st:=by
   rw [pop_ex hX]
   show (if (s:Int)=(s:Int)+(n:Int) then _ else _)=_
   rw [if_neg (by omega)]
  have eR:run ps W (((l :: r).flatMap fun l=>(l,((g l).length:Int)) :: spl fu (g l))++rest) t (X++((s:Int),(s:Int)+(n:Int)) :: st)=run ps W (spl fu (g l)++((r.flatMap fun l=>(l,((g l).length:Int)) :: spl fu (g l))++rest)) (t+ps.getD l.toNat 0 * wS W s (g l).length) (if 1 < ((g l).length:Int) then ((s:Int),(s:Int)+((g l).length:Int)) :: ((s:Int)+((g l).length:Int),(s:Int)+(n:Int)) :: st else ((s:Int)+((g l).length:Int),(s:Int)+(n:Int)) :: st):=by
   rw [List.flatMap_cons,List.append_assoc]
   show (match a7W (X++((s:Int),(s:Int)+(n:Int)) :: st) with | []=>none | (s',e) :: r'=>_)=_
   rw [eP]
   dsimp only
   rw [if_pos ⟨h1,h2,by omega,by omega,by omega⟩,Int.toNat_natCast,Int.toNat_natCast,b3k _ _ (by omega)]
   rfl
  have e2:((l :: r).flatMap fun l=>(g l).map (l :: ·))=(g l).map (l :: ·)++r.flatMap fun l=>(g l).map (l :: ·):=List.flatMap_cons ..
  have eC:Cr ps W s ((l :: r).flatMap fun l=>(g l).map (l :: ·))=ps.getD l.toNat 0 * wS W s (g l).length+Cr ps W s (g l)+Cr ps W (s+(g l).length) (r.flatMap fun l=>(g l).map (l :: ·)):=by
   rw [e2,b1U,a9T,List.length_map]
  have hr:=fun l hl=>h l (.tail _ hl)
  have en:(s:Int)+(n:Int)=((s+(g l).length:Nat):Int)+(((r.flatMap fun l=>(g l).map (l :: ·)).length:Nat):Int):=by omega
  rw [eR,eC]
  by_cases c:1 < (g l).length
  ·rw [if_pos (by omega)]
   obtain ⟨Y,hY,eY⟩:=rec l s (t+ps.getD l.toNat 0 * wS W s (g l).length) (((s:Int)+((g l).length:Int),(s:Int)+(n:Int)) :: st) ((r.flatMap fun l=>(l,((g l).length:Int)) :: spl fu (g l))++rest) c (by omega)
   rw [eY]
   obtain ⟨Z,hZ,eZ⟩:=a9U rec one r (Y++[((s:Int)+((g l).length:Int),(s:Int)+((g l).length:Int))]) (s+(g l).length) _ (t+ps.getD l.toNat 0 * wS W s (g l).length+Cr ps W s (g l)) st rest (fun p hp=>by
    rcases List.mem_append.mp hp with z | z
    ·exact hY p z
    ·rw [List.mem_singleton.mp z]) hr rfl (by omega)
   refine ⟨Z,hZ,?_⟩
   rw [List.append_assoc] at eZ
   rw [en]
   have ex:((s+(g l).length:Nat):Int)=(s:Int)+((g l).length:Int):=by omega
   rw [ex] at eZ ⊢
   refine Eq.trans eZ ?_
   congr 1
   omega
  ·have c1:(g l).length=1:=by omega
   have g1:=one l c1
   rw [if_neg (by omega)]
   have e0:spl fu (g l)=[]:=by
    rw [g1]
    cases fu with
    | zero=>rfl
    | succ fu=>show (if ([[]]:List (List Int))=[[]] then _ else _)=_;rw [if_pos rfl]
   have eC0:Cr ps W s (g l)=0:=by
    rw [g1]
    show W.getD s 0 * K18D.prc ps []+0=0
    rw [show K18D.prc ps []=0 from rfl]
    omega
   rw [e0,eC0,List.nil_append]
   obtain ⟨Z,hZ,eZ⟩:=a9U rec one r [] (s+(g l).length) _ (t+ps.getD l.toNat 0 * wS W s (g l).length) st rest (fun p hp=>by cases hp) hr rfl (by omega)
   refine ⟨Z,hZ,?_⟩
   rw [List.nil_append] at eZ
   rw [en]
   have ex:((s+(g l).length:Nat):Int)=(s:Int)+((g l).length:Int):=by omega
   rw [ex] at eZ ⊢
   refine Eq.trans eZ ?_
   congr 1
   omega
theorem a6U {L:Int} (L8:L≤8) {ps W:List Int} (eL:L=(ps.length:Int)):∀ (fu:Nat) (ws:List (List Int)) (X:List (Int × Int)) (s:Nat) (t:Int) (st rest:List (Int × Int)),Ex X→Ln L ws→1 < ws.length→(∀ u∈ws,u.length < fu)→s+ws.length≤W.length →
  ∃ Y,Ex Y∧run ps W (spl fu ws++rest) t (X++((s:Int),(s:Int)+(ws.length:Int)) :: st)=run ps W rest (t+Cr ps W s ws) (Y++((s:Int)+(ws.length:Int),(s:Int)+(ws.length:Int)) :: st)
 | 0,ws,X,s,t,st,rest,_,h,h1,hu,_=>by
  cases ws with
  | nil=>cases h1
  | cons a r=>exact absurd (hu a (.head _)) (by omega)
 | fu+1,ws,X,s,t,st,rest,hX,h,h1,hu,hs=>by
  have e1:ws≠[[]]:=fun e=>by rw [e] at h1;exact absurd h1 (by decide)
  have es:spl (fu+1) ws=(lets ws).flatMap fun l=>(l,((a0Q ws l).length:Int)) :: spl fu (a0Q ws l):=by show (if ws=[[]] then _ else _)=_;rw [if_neg e1]
  have pt:=h.parts e1 L8
  have hm:∀ l,l∈lets ws↔∃ u∈ws,u.headD 0=l:=fun l=>a4l fun u hu=>⟨(h.hd e1 L8 u hu).1,(h.hd e1 L8 u hu).2.2⟩
  have inn:∀ l,a0Q ws l≠[]→∃ u∈ws,u.headD 0=l:=fun l ne=>by
   cases hg:a0Q ws l with
   | nil=>exact absurd hg ne
   | cons v r =>
    have:v∈a0Q ws l:=by rw [hg];exact .head _
    exact ⟨l :: v,(a2b (h.full e1)).mp this,rfl⟩
  have:=a9U (ps:=ps) (W:=W) (fu:=fu) (g:=a0Q ws) (fun l s t st rest c hs'=>by
    have hl:=inn l (fun e=>by rw [e] at c;exact absurd c (by decide))
    have:=a6U L8 eL fu (a0Q ws l) [] s t st rest (fun p hp=>by cases hp) (h.go e1 hl) c (fun u hu'=>by have:=hu _ ((a2b (h.full e1)).mp hu');rw [List.length_cons] at this;omega) hs'
    exact this) (fun l e=>(h.go e1 (inn l (fun z=>by rw [z] at e;cases e))).one e)
   (lets ws) X s ws.length t st rest hX (fun l hl=>by
    obtain ⟨u,hu',e⟩:=(hm l).mp hl
    have:=h.hd e1 L8 u hu'
    exact ⟨by omega,by omega,List.length_pos_iff.mpr (h.go e1 ((hm l).mp hl)).ne⟩) (by rw [←pt]) hs
  rw [←es,←pt] at this
  exact this
theorem b1q {L:Int} (L8:L≤8) {ps W:List Int} (eL:L=(ps.length:Int)) {ws:List (List Int)} (h:Ln L ws) (el:ws.length=W.length) (hu:∀ u∈ws,u.length < 53):run ps W (spl 53 ws) 0 [(0,(W.length:Int))]=some (K18D.cst ps W ws):=by
 have ec:K18D.cst ps W ws=Cr ps W 0 ws:=by
  unfold K18D.cst
  have:=a6T (ps:=ps) ws W 0 (by omega)
  rw [List.drop_zero] at this
  exact this
 rw [ec]
 by_cases e1:ws=[[]]
 ·subst e1
  show some (0:Int)=some (W.getD 0 0 * K18D.prc ps []+0)
  rw [show K18D.prc ps []=0 from rfl]
  congr 1
  omega
 ·have:1 < ws.length:=by
   have:=List.length_pos_iff.mpr h.ne
   by_cases z:ws.length=1
   ·exact absurd (h.one z) e1
   ·omega
  obtain ⟨Y,_,e⟩:=a6U (W:=W) L8 eL 53 ws [] 0 0 [] [] (fun p hp=>by cases hp) h this hu (by omega)
  rw [List.append_nil,List.nil_append] at e
  rw [←el]
  have e0:((0:Nat):Int)+(ws.length:Int)=(ws.length:Int):=by omega
  rw [e0] at e
  refine Eq.trans e ?_
  show some ((0:Int)+Cr ps W 0 ws)=_
  congr 1
  omega
abbrev a2q:Stmt:=top 34
abbrev a5P:Stmt:=top 35
abbrev a7P:Stmt:=top 36
abbrev a1R:Stmt:=top 32
theorem gr_kn {b:Int} {n:Nat} {ws:List (List Int)} (h:Gr b false n ws):∃ S:List (List Int),S.length≤n∧Kn S ws:=by
 induction h with
 | zero=>exact ⟨[],Nat.le_refl _,fun x hx m hm=>by rw [List.mem_singleton.mp hx] at hm;exact absurd hm (by simp)⟩
 | stay _ ih=>obtain ⟨S,l,k⟩:=ih;exact ⟨S,by omega,k⟩
 | @grow n ws t u ss hg hu hs h1 h2 hx hl ih =>
  obtain ⟨S,l,k⟩:=ih
  have mu:u∈ws:=List.mem_of_getElem? hu
  have k':Kn (u :: S) ws:=k.mono fun x hx=>.tail _ hx
  refine ⟨u :: S,by rw [List.length_cons];omega,fun x hx m hm=>?_⟩
  rcases List.mem_append.mp hx with z | z
  ·rcases List.mem_append.mp z with z | z
   ·exact k' x (List.mem_of_mem_take z) m hm
   ·obtain ⟨j,_,rfl⟩:=List.mem_map.mp z
    exact k.grow mu j (u++[j]) (.head _) m hm
  ·exact k' x (List.mem_of_mem_drop z) m hm
def Two (H:Hp) (a:Addr) (p:Int × Int):Prop:=H a=some (.lst [.int p.1,.int p.2])
structure Stk (H:Hp) (d:Addr) (as:List Addr) (bs:List (Int × Int)):Prop where
 gd:H d=some (.lst (as.map V.ref))
 nd:as.Nodup
 ne:d∉as
 p:Paired (Two H) as bs
theorem Stk.same {H H':Hp} {d:Addr} {as:List Addr} {bs:List (Int × Int)} (s:a0t H H') (h:Stk H d as bs):Stk H' d as bs:=⟨s _ _ h.gd,h.nd,h.ne,Paired.mapP h.p fun _ _ e=>s _ _ e⟩
theorem a2d {α β:Type} {R:α→β→Prop}:∀ {as:List α} {bs:List β} {b:β},Paired R as (bs++[b])→∃ as' a,as=as'++[a]∧Paired R as' bs∧R a b
 | _,[],b,.cons r .nil=>⟨[],_,rfl,.nil,r⟩
 | _,c :: bs,b,.cons r t=>by
  obtain ⟨as',a,rfl,h1,h2⟩:=a2d t
  exact ⟨_ :: as',a,rfl,.cons r h1,h2⟩
theorem a2e {H:Hp} {x:Addr} {o:HO}:∀ {as:List Addr} {bs:List (Int × Int)},(∀ a∈as,a≠x)→Paired (Two H) as bs→Paired (Two (upd H x o)) as bs
 | _,_,_,.nil=>.nil
 | a :: as,_,h,.cons r t=>.cons (by show upd H x o a=_;rw [a0l (h a (.head _))];exact r) (a2e (fun b hb=>h b (.tail _ hb)) t)
theorem a4n {α:Type} {xs:List α} {y:α}:atI (xs++[y]) (-1)=some y:=by
 unfold atI ixN
 rw [if_neg (by decide),if_pos (by rw [List.length_append];simp;omega),show ((-1:Int)+((xs++[y]).length:Int)).toNat=xs.length by rw [List.length_append];simp;omega]
 show (xs++[y])[xs.length]?=_
 rw [List.getElem?_append_right (Nat.le_refl _),Nat.sub_self]
 rfl
theorem b3l {xs:List V} {i j:Int} (h0:0≤i) (h1:i≤j) (h2:j≤(xs.length:Int)):a3H xs (some i) (some j)=(xs.drop i.toNat).take (j.toNat - i.toNat):=by
 unfold a3H HT.sIx
 dsimp only
 rw [if_neg (by omega),if_neg (by omega),Nat.min_eq_left (by omega),Nat.min_eq_left (by omega)]
theorem b3m {ps W:List Int} {q:Int × Int} {qs:List (Int × Int)} {t s:Int} {r:List (Int × Int)}:run ps W (q :: qs) t ((s,s) :: r)=run ps W (q :: qs) t r:=by
 show (match a7W ((s,s) :: r) with | []=>none | (s',e) :: r'=>_)=_
 rw [show a7W ((s,s) :: r)=a7W r by show (if s=s then _ else _)=_;rw [if_pos rfl]]
 rfl
theorem big4 {n:Nat} (h:n≤20000):n < sizeLine:=Nat.lt_of_le_of_lt h (by decide)
section
variable {P:Program} {w:World} {K:PySem.W.Frag} {mg:Str→Option Value} {base:Heap} {f:Addr} {fd:FuncData}
abbrev NWk:List Str:=["prices","weights","pairs","total","ends","letter","many","start"]
def Bd (ns:List Int):Prop:=∀ x∈ns,0≤x∧x≤K18D.B30
def spWk:Sp:=fun vs H Q _=>∃ (p wa sa:Addr) (ps W:List Int) (qs:List (Int × Int)) (fin:Int),vs=[.ref p,.ref wa,.ref sa]∧TW H p ps∧TW H wa W∧PrL H sa qs∧qs.length≤10000∧W.length≤24∧Bd ps∧Bd W∧run ps W qs 0 [(0,(W.length:Int))]=some fin∧∀ H',a0t H H'→Q (.int fin) H'
theorem b3n:a0o NWk ["prices","weights","pairs"] (a0e a2q):=⟨rfl,rfl,rfl,by decide +kernel,rfl,by decide +kernel,by decide +kernel⟩
theorem a9V:∀ {ns:List Int},Bd ns→0≤ns.sum∧ns.sum≤(ns.length:Int) * K18D.B30
 | [],_=>⟨by simp,by simp⟩
 | a :: ns,h=>by
  have:=a9V (ns:=ns) fun x hx=>h x (.tail _ hx)
  have:=h a (.head _)
  rw [List.sum_cons,List.length_cons]
  push_cast
  rw [Int.add_mul]
  omega
theorem ok_wk (F:Fun K "_law_walked" "_law_walked" a2q f fd) (ml:mg "len"=none) (msu:mg "sum"=none):a1c P w K mg base CX0 1 f fd ["prices","weights","pairs"] spWk:=by
 refine F.ok (k:=0) b3n (fun vs H Q E h=>?_) (fun cdv A outer s H vs Q E hr h=>?_)
 ·obtain ⟨p,wa,sa,ps,W,qs,fin,rfl,_⟩:=h
  rfl
 obtain ⟨p,wa,sa,ps,W,qs,fin,rfl,hp,hw,⟨ts,hsa,hts⟩,lq,lW,bp,bw,er,qq⟩:=h
 refine ⟨_,a0f (a0y (i:=3) b3n.nd rfl (Or.inl rfl) (a0h))
   (a0f (a0y (i:=4) b3n.nd rfl (Or.inl rfl) (a1h (a0a (a1h (a0a (a0h) (a0a (a0j a0g (by rfl) ml PySem.boot_len (a0a (pv 1) (a0c))) (a0c)))) (a0c))))
   (a0f (a1T PassesOwn.never rfl (a1J (pv 2)) (a4u rfl (a1a (a0I (i:=5) b3n.nd rfl (Or.inl rfl)) (a1a (a0I (i:=6) b3n.nd rfl (Or.inl rfl)) (a2F)))) (a0f (a5T PassesOwn.never (a0u a1u (a0G a0S (a0G a0S (pv 4) (b0c a5V a0h) (fun _ _=>rfl)) (a0h) (fun _ _=>rfl)) (a0G a0S (a0G a0S (pv 4) (b0c a5V a0h) (fun _ _=>rfl)) (a0h) (fun _ _=>rfl)) (nomark _)) (a0i (a1m (pe_bm0 PySem.F.plainAttrs_list PySem.F.slot_list_pop PySem.F.type_list_pop mt_pop (pv 4)))))
   (a0f (a0y (i:=7) b3n.nd rfl (Or.inl rfl) (a0G a0S (a0G a0S (pv 4) (b0c a5V a0h) (fun _ _=>rfl)) (a0h) (fun _ _=>rfl)))
   (a0f (a0y (i:=3) b3n.nd rfl (Or.inl rfl) (a0v a0P (pv 3) (a0v K18D.a5N (a0G a0V (pv 0) (pv 5) (fun _ _=>rfl)) (a0j (a4P rfl) (by rfl) msu b0n (a0a (a1i a2P (pv 1) (a1j (pv 7)) (a1j (a0v a0P (pv 7) (pv 6)))) (a0c))))))
   (a0f (ps_asg (a0v a0P (pv 7) (pv 6)) (pg_sub (a0G a0S (pv 4) (b0c a5V a0h) (fun _ _=>rfl)) (a0h) b0h))
   (a0i (a6f (a0U (a0u op_gt (pv 6) (a0h) (nomark _)) (a0i (a1m (a8p PySem.F.plainAttrs_list PySem.F.slot_list_append PySem.F.type_list_append a2M (pv 4) (a0a (a1h (a0a (pv 7) (a0a (a0v a0P (pv 7) (pv 6)) (a0c)))) (a0c))))) (a0x)))))))))
   (a0i (a0s (pv 3))))),?_⟩
 have ltq:ts.length=qs.length:=hts.length
 refine ⟨_,rfl,wa,_,rfl,.inr (SqT.of hw),(by show 2≤sizeLine;decide),fun a0 ha0=>?_⟩
 rw [List.length_map]
 have s1:=a0d ha0 (.lst [.int 0,.int (W.length:Int)])
 have g1:upd H a0 (.lst [.int 0,.int (W.length:Int)]) a0=some (.lst [.int 0,.int (W.length:Int)]):=a0b
 generalize upd H a0 (.lst [.int 0,.int (W.length:Int)])=H1 at s1 g1 ⊢
 refine ⟨(by show 1≤sizeLine;decide),fun d hd=>?_⟩
 have s2:=a0d hd (.lst [.ref a0])
 have g2:upd H1 d (.lst [.ref a0]) d=some (.lst [.ref a0]):=a0b
 have s12:=s1.trans s2
 have k1:=s2 _ _ g1
 have da:d≠a0:=fun e=>by rw [e,g1] at hd;cases hd
 have dn:H d=none:=s1.free hd
 generalize upd H1 d (.lst [.ref a0])=H2 at s2 g2 s12 k1 ⊢
 refine ⟨_,rfl,sa,rfl,⟨_,SqL.of (s12 _ _ hsa)⟩,?_⟩
 refine a2x (xs:=ts) (fun i σ H'=>a0t H H'∧(∃ (t:Int) (as:List Addr) (bs:List (Int × Int)),Stk H' d as bs∧(∀ a∈as,H a=none)∧bs.length≤i+1∧run ps W (qs.drop i) t bs.reverse=some fin∧∃ x5 x6 x7:Option V,σ=[some (.ref p),some (.ref wa),some (.ref sa),some (.int t),some (.ref d),x5,x6,x7]))
  ⟨s12,0,[a0],[(0,(W.length:Int))],⟨g2,by simp,by simpa using da,.cons k1 .nil⟩,(fun a ha=>by rw [List.mem_singleton.mp ha];exact ha0),Nat.le_refl _,er,_,_,_,rfl⟩ (fun i σ H' _ hP=>SqL.of (hP.1 _ _ hsa)) (fun i x σ H3 hx hP=>?_) (fun σ H3 hP=>?_)
 rotate_left
 ·obtain ⟨s3,t,as,bs,_,_,_,er3,x5,x6,x7,rfl⟩:=hP
  rw [ltq,List.drop_length] at er3
  have:t=fin:=Option.some.inj er3
  subst this
  exact ⟨_,rfl,qq H3 s3⟩
 obtain ⟨s3,t,as,bs,stk,fr,lb,er3,x5,x6,x7,rfl⟩:=hP
 obtain ⟨q,hq,tt,rfl,htt⟩:=Paired.right_of hts i x hx
 have il:=(List.getElem?_eq_some_iff.mp hq).1
 have ed:qs.drop i=q :: qs.drop (i+1):=by
  rw [List.drop_eq_getElem_cons il]
  congr 1
  exact (List.getElem?_eq_some_iff.mp hq).2
 rw [ed] at er3
 generalize qs.drop (i+1)=rest at er3 ⊢
 refine ⟨tt,_,rfl,SqT.of (s3 _ _ htt),rfl,_,_,rfl,_,_,rfl,rfl,?_⟩
 refine ⟨fun m σ H'=>a0t H H'∧∃ (as:List Addr) (bs:List (Int × Int)),Stk H' d as bs∧(∀ a∈as,H a=none)∧bs.length≤i+1∧bs.length=m∧run ps W (q :: rest) t bs.reverse=some fin∧σ=[some (.ref p),some (.ref wa),some (.ref sa),some (.int t),some (.ref d),some (.int q.1),some (.int q.2),x7],
  ⟨bs.length,s3,as,bs,stk,fr,lb,rfl,er3,rfl⟩,fun m σ H4 hP=>?_⟩
 clear stk fr lb er3
 obtain ⟨s4,as,bs,stk,fr,lb,em,er4,rfl⟩:=hP
 obtain ⟨bs',sv,ev,rfl⟩:∃ bs' s e,bs=bs'++[(s,e)]:=by
  rcases List.eq_nil_or_concat bs with z | ⟨u,v,z⟩
  ·subst z;exact absurd er4 (by intro z;cases z)
  ·exact ⟨u,v.1,v.2,by rw [z,List.concat_eq_append]⟩
 obtain ⟨as',la,rfl,pp,hla⟩:=a2d stk.p
 have hla:H4 la=some (.lst [.int sv,.int ev]):=hla
 have gd:=stk.gd
 rw [List.map_append,List.map_cons,List.map_nil] at gd
 rw [List.reverse_append] at er4
 have er4:run ps W (q :: rest) t ((sv,ev) :: bs'.reverse)=some fin:=er4
 have dla:d≠la:=fun e=>stk.ne (by rw [e];exact List.mem_append_right _ (.head _))
 refine ⟨_,rfl,_,rfl,d,_,_,_,rfl,rfl,SqL.of gd,a4n,la,_,_,_,rfl,rfl,SqL.of hla,(rfl:atI [V.int sv,.int ev] 0=some (.int sv)),_,rfl,_,rfl,d,_,_,_,rfl,rfl,SqL.of gd,a4n,la,_,_,_,rfl,rfl,SqL.of hla,(rfl:atI [V.int sv,.int ev] 1=some (.int ev)),rfl,_,rfl,?_⟩
 have eqd:decide (V.int sv=V.int ev)=decide (sv=ev):=decide_eq_decide.mpr ⟨V.int.inj,congrArg _⟩
 rw [eqd]
 refine a1s (fun c=>?_) (fun c=>?_)
 ·have c:=of_decide_eq_true c
  subst c
  refine ⟨_,fun σ' H' z=>z,?_⟩
  refine ⟨_,rfl,.inl ⟨rfl,_,SqL.of gd⟩,d,_,_,rfl,rfl,gd,(by rw [List.length_append,List.length_singleton,Nat.add_sub_cancel,List.getElem?_append_right (Nat.le_refl _),Nat.sub_self];rfl),bs'.length,?_,?_⟩
  ·rw [←em,List.length_append];show bs'.length < bs'.length+1;omega
  rw [List.dropLast_concat]
  have nd:=stk.nd
  rw [List.nodup_append] at nd
  rw [b3m] at er4
  refine ⟨a0q dn s4,as',bs',⟨a0b,nd.1,fun z=>stk.ne (List.mem_append_left _ z),?_⟩,fun a ha=>fr a (List.mem_append_left _ ha),by rw [List.length_append] at lb;omega,rfl,er4,rfl⟩
  exact a2e (fun a ha e=>stk.ne (by rw [←e];exact List.mem_append_left _ ha)) pp
 have c:=of_decide_eq_false (Bool.eq_false_iff.mpr c)
 have eR:run ps W (q :: rest) t ((sv,ev) :: bs'.reverse)=if 0≤q.1∧q.1 < (ps.length:Int)∧1≤q.2∧0≤sv∧sv+q.2≤(W.length:Int) then run ps W rest (t+ps.getD q.1.toNat 0 * ((W.drop sv.toNat).take q.2.toNat).sum) (if 1 < q.2 then (sv,sv+q.2) :: (sv+q.2,ev) :: bs'.reverse else (sv+q.2,ev) :: bs'.reverse) else none:=by
  show (match a7W ((sv,ev) :: bs'.reverse) with | []=>none | (s',e) :: r'=>_)=_
  rw [show a7W ((sv,ev) :: bs'.reverse)=(sv,ev) :: bs'.reverse by show (if sv=ev then _ else _)=_;rw [if_neg c]]
 rw [eR] at er4
 by_cases ok:0≤q.1∧q.1 < (ps.length:Int)∧1≤q.2∧0≤sv∧sv+q.2≤(W.length:Int)
 case neg=>rw [if_neg ok] at er4;cases er4
 rw [if_pos ok] at er4
 obtain ⟨o1,o2,o3,o4,o5⟩:=ok
 refine ⟨_,rfl,_,rfl,d,_,_,_,rfl,rfl,SqL.of gd,a4n,la,_,_,_,rfl,rfl,SqL.of hla,(rfl:atI [V.int sv,.int ev] 0=some (.int sv)),?_⟩
 obtain ⟨j,ej⟩:∃ j:Nat,q.1=(j:Int):=⟨q.1.toNat,by omega⟩
 have jl:j < ps.length:=by omega
 have atp:atI (ps.map V.int) q.1=some (.int (ps.getD q.1.toNat 0)):=by
  rw [ej,Int.toNat_natCast]
  refine a2i ?_
  rw [List.getElem?_map,List.getD_eq_getElem?_getD,List.getElem?_eq_getElem jl]
  rfl
 refine ⟨_,rfl,_,rfl,_,rfl,p,_,_,_,rfl,rfl,SqT.of (s4 _ _ hp),atp,?_⟩
 refine ⟨_,rfl,_,rfl,_,rfl,_,rfl,_,rfl,_,_,rfl,rfl,_,rfl,wa,_,rfl,s4 _ _ hw,fun w1 H5 s5 hw1=>?_⟩
 have ec:a3H (W.map V.int) (some sv) (some (sv+q.2))=((W.drop sv.toNat).take q.2.toNat).map V.int:=by
  have e1:sv.toNat≤W.length:=by omega
  rw [b3l (by omega) (by omega) (by rw [List.length_map];exact o5),show (sv+q.2).toNat=sv.toNat+q.2.toNat by omega,Nat.add_sub_cancel_left,←List.map_drop,←List.map_take]
 rw [ec] at hw1
 have bs1:Bd ((W.drop sv.toNat).take q.2.toNat):=fun x hx=>bw x (List.mem_of_mem_drop (List.mem_of_mem_take hx))
 have sb:=a9V bs1
 have ls:((W.drop sv.toNat).take q.2.toNat).length≤24:=by rw [List.length_take,List.length_drop];omega
 have pb:0≤ps.getD q.1.toNat 0∧ps.getD q.1.toNat 0≤K18D.B30:=by
  rw [List.getD_eq_getElem?_getD,ej,Int.toNat_natCast,List.getElem?_eq_getElem jl]
  exact bp _ (List.getElem_mem jl)
 have mb:((((W.drop sv.toNat).take q.2.toNat).length:Nat):Int) * K18D.B30≤24 * K18D.B30:=Int.mul_le_mul_of_nonneg_right (by omega) (by decide)
 refine ⟨w1,_,rfl,hw1,_,_,rfl,rfl,⟨⟨pb.1,by have:=pb.2;unfold K18D.B30 at *;omega⟩,⟨sb.1,by have:=sb.2;unfold K18D.B30 at *;omega⟩⟩,_,_,rfl,rfl,?_⟩
 dsimp only
 generalize t+ps.getD q.1.toNat 0 * ((W.drop sv.toNat).take q.2.toNat).sum=t' at er4 ⊢
 have s05:=s4.trans s5
 have gd5:=s5 _ _ gd
 have hla5:=s5 _ _ hla
 refine ⟨_,rfl,_,rfl,_,_,rfl,rfl,_,rfl,_,rfl,d,_,_,_,rfl,rfl,SqL.of gd5,a4n,la,_,0,0,rfl,rfl,hla5,rfl,?_⟩
 rw [show [V.int sv,V.int ev].set 0 (.int (sv+q.2))=[V.int (sv+q.2),.int ev] from rfl]
 have lan:H la=none:=fr la (List.mem_append_right _ (.head _))
 have stk6:Stk (upd H5 la (.lst [.int (sv+q.2),.int ev])) d (as'++[la]) (bs'++[(sv+q.2,ev)]):=by
  refine ⟨by rw [a0l dla,List.map_append];exact gd5,stk.nd,stk.ne,Paired.appendP ?_ (.cons a0b .nil)⟩
  exact a2e (fun a ha e=>(List.nodup_append.mp stk.nd).2.2 a ha la (.head _) e) (Paired.mapP pp fun _ _ r=>s5 _ _ r)
 have s06:a0t H (upd H5 la (.lst [.int (sv+q.2),.int ev])):=a0q lan s05
 generalize upd H5 la (.lst [.int (sv+q.2),.int ev])=H6 at stk6 s06 ⊢
 refine ⟨fun σ' H'=>a0t H H'∧(∃ (as:List Addr) (bs:List (Int × Int)),Stk H' d as bs∧(∀ a∈as,H a=none)∧bs.length≤i+1+1∧run ps W rest t' bs.reverse=some fin)∧σ'=[some (.ref p),some (.ref wa),some (.ref sa),some (.int t'),some (.ref d),some (.int q.1),some (.int q.2),some (.int sv)],?_,?_⟩
 ·refine ⟨_,rfl,_,_,rfl,rfl,_,rfl,a1s (fun c2=>?_) (fun c2=>?_)⟩
  ·have c2:1 < q.2:=of_decide_eq_true c2
   rw [if_pos c2] at er4
   have gd6:=stk6.gd
   refine ⟨_,rfl,.inl ⟨rfl,_,SqL.of gd6⟩,_,rfl,_,rfl,_,rfl,_,_,rfl,rfl,(by show 2≤sizeLine;decide),fun n1 hn1=>?_⟩
   have s7:=a0d hn1 (.lst [.int sv,.int (sv+q.2)])
   have nd1:n1≠d:=fun e=>by rw [e,gd6] at hn1;cases hn1
   have stk7:=stk6.same s7
   have n1as:n1∉as'++[la]:=fun z=>by
    obtain ⟨k,hk,ek⟩:=List.getElem_of_mem z
    obtain ⟨b,hb,rb⟩:=Paired.right_of stk6.p k n1 (by rw [List.getElem?_eq_getElem hk,ek])
    rw [show H6 n1=some _ from rb] at hn1;cases hn1
   have lb':(as'++[la]).length≤i+1:=by rw [stk6.p.length,List.length_append] ;rw [List.length_append] at lb;exact lb
   refine ⟨d,_,_,rfl,rfl,stk7.gd,(by rw [List.length_map];exact big4 (by omega)),a0q dn (s06.trans s7),⟨as'++[la]++[n1],bs'++[(sv+q.2,ev)]++[(sv,sv+q.2)],⟨by rw [a0b,List.map_append (l₂:=[n1])];rfl,?_,?_,?_⟩,?_,?_,?_⟩,rfl⟩
   ·rw [List.nodup_append]
    exact ⟨stk6.nd,by simp,fun x hx y hy e=>by rw [List.mem_singleton.mp hy] at e;exact n1as (by rw [←e];exact hx)⟩
   ·intro z
    rcases List.mem_append.mp z with z | z
    ·exact stk6.ne z
    ·exact nd1 (List.mem_singleton.mp z).symm
   ·have kp:∀ a∈as'++[la]++[n1],a≠d:=fun a ha e=>by
     subst e
     rcases List.mem_append.mp ha with z | z
     ·exact stk6.ne z
     ·exact nd1 (List.mem_singleton.mp z).symm
    exact a2e kp (Paired.appendP (Paired.mapP stk6.p fun _ _ r=>s7 _ _ r) (.cons a0b .nil))
   ·intro a ha
    rcases List.mem_append.mp ha with z | z
    ·exact fr a z
    ·rw [List.mem_singleton.mp z];exact s06.free hn1
   ·rw [List.length_append,List.length_append];rw [List.length_append] at lb;show bs'.length+1+1≤_;have:bs'.length+1≤i+1:=lb;omega
   ·rw [List.reverse_append,List.reverse_append];exact er4
  ·have c2:¬ 1 < q.2:=fun z=>c2 (decide_eq_true z)
   rw [if_neg c2] at er4
   refine ⟨s06,⟨as'++[la],bs'++[(sv+q.2,ev)],stk6,fr,?_,?_⟩,rfl⟩
   ·rw [List.length_append] at lb ⊢;have:bs'.length+1≤i+1:=lb;show bs'.length+1≤_;omega
   ·rw [List.reverse_append];exact er4
 rintro σ' H7 ⟨s7,⟨as7,bs7,stk7,fr7,lb7,er7⟩,rfl⟩
 exact ⟨s7,t',as7,bs7,stk7,fr7,lb7,er7,_,_,_,rfl⟩
end
theorem b1r {S ws:List (List Int)} (h:Kn S ws) (l:Int):Kn ([] :: S.map (l :: ·)) (ws.map (l :: ·)):=fun x hx n hn=>by
 obtain ⟨u,hu,rfl⟩:=List.mem_map.mp hx
 cases n with
 | zero=>exact .head _
 | succ n=>exact .tail _ (List.mem_map.mpr ⟨u.take n,h u hu n (by rw [List.length_cons] at hn;omega),rfl⟩)
theorem a9W {ps W:List Int} {ws:List (List Int)} (e:ws.length=W.length) (l:Int):K18D.cst ps W (ws.map (l :: ·))=K18D.cst ps W ws+ps.getD l.toNat 0 * W.sum:=by
 have h1:=a6T (ps:=ps) ws W 0 (by omega)
 have h2:=a6T (ps:=ps) (ws.map (l :: ·)) W 0 (by rw [List.length_map];omega)
 rw [List.drop_zero] at h1 h2
 unfold K18D.cst
 have h3:=b3k (W:=W) W.length 0 (by omega)
 rw [List.drop_zero,List.take_length] at h3
 rw [h1,h2,a9T,e,←h3]
 omega
theorem a6V {H H':Hp} {a:Addr} {ps:List (Int × Int)} (s:a0t H H') (h:PrL H a ps):PrL H' a ps:=by
 obtain ⟨xs,g,p⟩:=h
 exact ⟨xs,s _ _ g,Paired.mapP p fun _ _ ⟨t,e,ht⟩=>⟨t,e,s _ _ ht⟩⟩
structure Gc (L:Int) (ws:List (List Int)):Prop where
 ln:Ln L ws
 w50:∀ u∈ws,u.length≤50
 l23:ws.length≤23
 kn:∃ S:List (List Int),S.length≤61∧Kn S ws
theorem Gc.ok {L:Int} {ws:List (List Int)} (h:Gc L ws) (L8:L≤8):b1O ws:=by
 obtain ⟨S,l,k⟩:=h.kn
 exact ⟨h.ln.ne,by have:=h.l23;omega,fun u hu=>by have:=h.w50 u hu;omega,fun u hu x hx=>by have:=h.ln.x u hu x hx;omega,by have:=a6B k;omega⟩
theorem Gc.nc {L:Int} {ws:List (List Int)} (h:Gc L ws):isF ws none:=b1L h.ln.pf
theorem al_of {L:Int} {ns:List Int} (h:∀ x∈ns,0≤x∧x < L):K18D.alone L ns=true:=(a5d.mpr h:alone L ns=true)
section
variable {P:Program} {w:World} {K:PySem.W.Frag} {mg:Str→Option Value} {base:Heap} {f:Addr} {fd:FuncData}
abbrev NGd:List Str:=["code","letters","prices","weights","pairs","ahead"]
def spGd:Sp:=fun vs H Q _=>∃ (c p wa:Addr) (L:Nat) (xs:List V) (ws:List (List Int)) (ps W:List Int),vs=[.ref c,.int (L:Int),.ref p,.ref wa]∧H c=some (.tup xs)∧Ws H xs ws∧Gc (L:Int) ws∧TW H p ps∧TW H wa W∧ps.length=L∧2≤L∧L≤6∧ws.length=W.length∧Bd ps∧Bd W∧∀ H',a0t H H'→Q (.bl true) H'
theorem scGd:a0o NGd ["code","letters","prices","weights"] (a0e a5P):=⟨rfl,rfl,rfl,by decide +kernel,rfl,by decide +kernel,by decide +kernel⟩
theorem ndGd:(("word":Str) :: NGd).Nodup:=by decide +kernel
theorem ok_gd {CC CU CB CS:Addr} (F:Fun K "_law_good" "_law_good" a5P f fd) (GO:a3i P w K mg base ["code"] "spelling_of" (spOf CC CU) 110) (GB:a3i P w K mg base ["letters","things","spelling"] "code_by" (K18B.a9K CS) 110) (GT:a3i P w K mg base ["code","letters"] "tree_of" (spTo CB CC 53) 110) (GCo:Fns P w K mg base ["tree"] "code_of" (spCo 53) 110) (GL:Fns P w K mg base ["code"] "is_lean" a6z 110) (GK:Fns P w K mg base ["code"] "is_kept" a6y 110) (GC:a3i P w K mg base ["prices","weights","code"] "cost" (K18D.a9N CU CB) 110) (GW:Fns P w K mg base ["prices","weights","pairs"] "_law_walked" spWk 110)
  (ml:mg "len"=none) (mt:mg "tuple"=none) (msu:mg "sum"=none):a1c P w K mg base CX0 111 f fd ["code","letters","prices","weights"] spGd:=by
 refine F.ok (k:=110) scGd (fun vs H Q E h=>?_) (fun cdv A outer s H vs Q E hr h=>?_)
 ·obtain ⟨c,p,wa,L,xs,ws,ps,W,rfl,_⟩:=h
  rfl
 obtain ⟨c,p,wa,L,xs,ws,ps,W,rfl,hc,hw,G,hp,hwa,lp,L2',L6,lW,bp,bw,q⟩:=h
 refine ⟨_,a0f (a0y (i:=4) scGd.nd rfl (Or.inl rfl) (a0m GO.ok hr (by rfl) GO.m GO.kp GO.b .nil a4H (a0a (pv 0) (a0c))))
   (a0f (a0U (PW.pt (a6X (a0u (a8E (hu4 hr)) (a0m GB.ok hr (by rfl) GB.m GB.kp GB.b .nil a4H (a0a (pv 1) (a0a (a0j a0g (by rfl) ml PySem.boot_len (a0a (pv 0) (a0c))) (a0a (pv 4) (a0c))))) (pv 0) (nomark _)) (a3o (a0u (a8E (hu4 hr)) (a0m GCo.ok hr (by rfl) GCo.m GCo.kp GCo.b .nil a0L (a0a (a0m GT.ok hr (by rfl) GT.m GT.kp GT.b .nil a4H (a0a (pv 0) (a0a (pv 1) (a0c)))) (a0c))) (pv 0) (nomark _))))) (a0i (a0s a3E)) (a0x))
   (a0f (a0U (PW.pt (a6X (a2r (a1q (a0m GL.ok hr (by rfl) GL.m GL.kp GL.b .nil a0L (a0a (pv 0) (a0c))))) (a3o (a0u b0d (a0m GC.ok hr (by rfl) GC.m GC.kp GC.b .nil a4H (a0a (pv 2) (a0a (pv 3) (a0a (pv 0) (a0c))))) (a0m GW.ok hr (by rfl) GW.m GW.kp GW.b .nil a0L (a0a (pv 2) (a0a (pv 3) (a0a (pv 4) (a0c))))) (nomark _))))) (a0i (a0s a3E)) (a0x))
   (a0f (a0y (i:=5) scGd.nd rfl (Or.inl rfl) (a0K a0A (by rfl) mt a1n (a0a (a1X (M:=NGd) rfl (a0k.of (a0e a5P) NGd rfl rfl rfl (by decide +kernel) (by decide +kernel) (by decide +kernel) rfl (by decide +kernel)) ndGd rfl (pv 0) a1f (fun cl C s0 H0 fp=>⟨a0W,a0v a3M (a1l (a0a (a0v a2s (pv 2) (a0h)) (a0c))) (pv 0)⟩)) (a0c))))
   (a0f (a0U (PW.pt (a6X (a1q (a0m GL.ok hr (by rfl) GL.m GL.kp GL.b .nil a0L (a0a (pv 5) (a0c)))) (a3o (a2r (a1q (a0m GK.ok hr (by rfl) GK.m GK.kp GK.b .nil a0L (a0a (pv 5) (a0c)))))))) (a0i (a0s a3E)) (a0x))
   (a0i (a0s (a1M a1u (a0m GC.ok hr (by rfl) GC.m GC.kp GC.b .nil a4H (a0a (pv 2) (a0a (pv 3) (a0a (pv 5) (a0c))))) (a0v a0P (a0m GC.ok hr (by rfl) GC.m GC.kp GC.b .nil a4H (a0a (pv 2) (a0a (pv 3) (a0a (pv 0) (a0c))))) (a0v K18D.a5N (a0G a0V (pv 2) (a0v a2s (pv 1) (a0h)) (fun _ _=>rfl)) (a0j (a4P rfl) (by rfl) msu b0n (a0a (pv 3) (a0c))))) (nomark _)))))))),?_⟩
 have ok:=G.ok (by omega)
 have nc:=G.nc
 have l23:=G.l23
 have lean:=G.ln.lean
 have L8:(L:Int)≤8:=by omega
 have w53:∀ u∈ws,u.length < 53:=fun u hu=>by have:=G.w50 u hu;omega
 have nsome:∀ {i j:Nat} {P:Prop},isF ws (some [(i:Int),(j:Int)])→P:=fun z=>by cases a4a z nc
 have lx:xs.length=ws.length:=hw.length
 refine ⟨_,rfl,c,xs,ws,rfl,hc,hw,ok,fun i j z=>nsome z,fun _ z=>absurd lean z,fun _ _ pa H1 s1 _ hpa lpa=>?_⟩
 have hc1:=s1 _ _ hc
 have hw1:=hw.same s1
 have db:=a4m L8 G.ln (by omega) w53
 refine ⟨_,rfl,_,rfl,c,_,rfl,.inr (SqT.of hc1),_,rfl,?_⟩
 rw [lx]
 have n1:1≤ws.length:=List.length_pos_iff.mpr G.ln.ne
 refine ⟨pa,spl 53 ws,(L:Int),(ws.length:Int),rfl,hpa,by omega,by omega,by omega,(fun z=>by rw [db] at z;cases z),fun us hus p2 xs2 H2 s2 g2 w2=>?_⟩
 rw [db] at hus
 have:ws=us:=Option.some.inj hus
 subst this
 have s12:=s1.trans s2
 refine ⟨_,rfl,p2,c,xs2,xs,ws,ws,rfl,rfl,g2,s12 _ _ hc,w2,hw.same s12,_,rfl,?_⟩
 rw [decide_eq_true rfl]
 refine a4p ?_
 refine ⟨_,rfl,_,rfl,c,xs,ws,L,rfl,s12 _ _ hc,hw.same s12,G.ln.ne,by omega,w53,by decide,by omega,fun ⟨u,hu,z⟩=>?_,fun _=>⟨fun i j z=>nsome z,fun _=>⟨G.ln.pf,fun x H3 s3 tr=>?_⟩⟩⟩
 ·rw [(a5d.mpr (G.ln.x u hu):alone (L:Int) u=true)] at z;cases z
 refine ⟨x,ws,L,rfl,tr,G.ln.pf,w53,G.ln.x,by omega,by decide,by omega,fun p4 out H4 s4 g4 w4=>?_⟩
 have s14:=(s12.trans s3).trans s4
 refine ⟨_,rfl,p4,c,out,xs,ws,ws,rfl,rfl,g4,s14 _ _ hc,w4,hw.same s14,_,rfl,?_⟩
 rw [decide_eq_true rfl]
 refine a4p ?_
 refine ⟨_,rfl,c,xs,ws,rfl,s14 _ _ hc,hw.same s14,by omega,fun u hu=>by have:=G.w50 u hu;omega,fun _ _=>ok.h64,fun b H5 s5 hb=>⟨_,rfl,?_⟩⟩
 have eb:b=true:=hb.mpr ⟨⟨lean.1,nc⟩,lean.2⟩
 subst eb
 refine a4p ?_
 have s15:=s14.trans s5
 have nal:∀ {nss:List (List Int)} {P:Prop},(∀ u∈nss,∀ x∈u,0≤x∧x < (L:Int))→(∃ u∈nss,K18D.alone (ps.length:Int) u=false)→P:=fun h ⟨u,hu,z⟩=>by rw [lp,al_of (h u hu)] at z;cases z
 refine ⟨_,rfl,_,rfl,_,rfl,p,wa,c,ps,W,xs,ws,rfl,s15 _ _ hp,s15 _ _ hwa,s15 _ _ hc,hw.same s15,by omega,(fun u hu=>by have:=G.w50 u hu;omega),bp,bw,fun z=>absurd (lW) z,fun _ _ H6 s6=>?_,fun _ z=>nal G.ln.x z⟩
 have s16:=s15.trans s6
 have rc:=b1q (W:=W) L8 (show (L:Int)=(ps.length:Int) by omega) G.ln lW w53
 have hpa6:PrL H6 pa (spl 53 ws):=a6V (((s2.trans s3).trans s4).trans (s5.trans s6)) hpa
 refine ⟨_,rfl,_,rfl,_,rfl,p,wa,pa,ps,W,spl 53 ws,_,rfl,s16 _ _ hp,s16 _ _ hwa,hpa6,by omega,by omega,bp,bw,rc,fun H7 s7=>⟨rfl,_,rfl,?_⟩⟩
 rw [decide_eq_true rfl]
 refine a4p ?_
 have s17:=s16.trans s7
 have hc7:=s17 _ _ hc
 refine ⟨_,rfl,c,_,rfl,SqT.of hc7,fun d hd=>?_⟩
 refine ⟨fun i H'=>a0t H7 H'∧∃ ys,H' d=some (.lst ys)∧Ws H' ys ((ws.take i).map (((L:Int) - 1) :: ·)),⟨a0d hd _,[],a0b,.nil⟩,fun i H' _ hP=>SqT.of (hP.1 _ _ hc7),fun i x H' hx hP=>?_,fun H8 hP=>?_⟩
 ·obtain ⟨sm,ys,gy,wy⟩:=hP
  obtain ⟨u,hu,wu⟩:=Paired.right_of (hw.same (s17.trans sm)) i x hx
  have iu:=(List.getElem?_eq_some_iff.mp hu).1
  have u50:=G.w50 u (List.mem_of_getElem? hu)
  obtain ⟨a,ns,rfl,ga,pn⟩:=id wu
  refine a0R ⟨_,rfl,_,_,rfl,rfl,(by show 1≤sizeLine;decide),fun t1 ht1=>?_⟩
  have s8:=a0d ht1 (.tup [.int ((L:Int) - 1)])
  refine ⟨_,rfl,t1,a,_,_,rfl,rfl,a0b,s8 _ _ ga,small (by show 1+ns.length≤1000;rw [pn.length];omega),fun t2 H9 s9 g9=>?_⟩
  have s89:=s8.trans s9
  refine ⟨ys,s89 _ _ gy,big4 (by rw [wy.length,List.length_map,List.length_take];omega),a0q hd (sm.trans s89),_,a0b,?_⟩
  rw [List.take_add_one,hu,List.map_append]
  refine Paired.appendP (Ws.upd (s89 _ _ gy) (Ws.same s89 wy)) (.cons (Wd.upd (s89 _ _ gy) ⟨t2,_,rfl,g9,.cons rfl pn⟩) .nil)
 obtain ⟨s8,ys,gy,wy⟩:=hP
 rw [lx,List.take_length] at wy
 refine ⟨d,_,rfl,.inl ⟨SqL.of gy,fun ah hah=>?_⟩⟩
 have s9:=a0d hah (.tup ys)
 have ga:upd H8 ah (.tup ys) ah=some (.tup ys):=a0b
 have wa9:=Ws.same s9 wy
 have s19:=(s17.trans s8).trans s9
 generalize upd H8 ah (.tup ys)=H9 at s19 ga wa9 ⊢
 obtain ⟨S,lS,kS⟩:=G.kn
 have kn':=a6B (b1r kS ((L:Int) - 1))
 rw [List.length_cons,List.length_map] at kn'
 have lA:(ws.map (((L:Int) - 1) :: ·)).length=ws.length:=List.length_map _
 have pfA:PF (ws.map (((L:Int) - 1) :: ·)):=(a6S _ G.ln.s).imp fun k=>k.ap
 have wA:∀ u∈ws.map (((L:Int) - 1) :: ·),u.length≤51:=fun u hu=>by
  obtain ⟨v,hv,rfl⟩:=List.mem_map.mp hu
  have:=G.w50 v hv
  rw [List.length_cons];omega
 have xA:∀ u∈ws.map (((L:Int) - 1) :: ·),∀ x∈u,0≤x∧x < (L:Int):=fun u hu x hx=>by
  obtain ⟨v,hv,rfl⟩:=List.mem_map.mp hu
  rcases List.mem_cons.mp hx with rfl | hx
  ·omega
  ·exact G.ln.x v hv x hx
 have rA:=a6P (a6S ((L:Int) - 1) G.ln.s)
 refine ⟨_,rfl,ah,ys,_,rfl,ga,wa9,by omega,fun u hu=>by have:=wA u hu;omega,fun _ _=>by omega,fun b H10 s10 hb=>⟨_,rfl,?_⟩⟩
 have eb:b=false:=by
  cases hb':b with
  | false=>rfl
  | true=>exact absurd ⟨rA,(hb.mp hb').2⟩ (a9Q _ G.ln.ne)
 subst eb
 refine a4p ?_
 refine ⟨_,rfl,ah,ys,_,rfl,s10 _ _ ga,Ws.same s10 wa9,by omega,fun b H11 s11 hb=>⟨_,rfl,?_⟩⟩
 have eb:b=true:=hb.mpr ⟨rA,b1L pfA⟩
 subst eb
 refine a4p ?_
 have s111:=(s19.trans s10).trans s11
 have gah:=s11 _ _ (s10 _ _ ga)
 have wah:=Ws.same s11 (Ws.same s10 wa9)
 refine ⟨_,rfl,_,rfl,_,rfl,p,wa,ah,ps,W,ys,_,rfl,s111 _ _ hp,s111 _ _ hwa,gah,wah,by omega,(fun u hu=>by have:=wA u hu;omega),bp,bw,fun z=>absurd (by rw [lA];exact lW) z,fun _ _ H12 s12'=>?_,fun _ z=>nal xA z⟩
 have s012:=s111.trans s12'
 refine ⟨_,rfl,_,rfl,_,rfl,p,wa,c,ps,W,xs,ws,rfl,s012 _ _ hp,s012 _ _ hwa,s012 _ _ hc,hw.same s012,by omega,(fun u hu=>by have:=G.w50 u hu;omega),bp,bw,fun z=>absurd (lW) z,fun _ _ H13 s13'=>?_,fun _ z=>nal G.ln.x z⟩
 have s013:=s012.trans s13'
 have jl:L - 1 < ps.length:=by omega
 have atp:atI (ps.map V.int) ((L:Int) - 1)=some (.int (ps.getD ((L:Int) - 1).toNat 0)):=by
  rw [show (L:Int) - 1=((L - 1:Nat):Int) by omega,Int.toNat_natCast]
  refine a2i ?_
  rw [List.getElem?_map,List.getD_eq_getElem?_getD,List.getElem?_eq_getElem jl]
  rfl
 have sb:=a9V bw
 have mb:((W.length:Nat):Int) * K18D.B30≤24 * K18D.B30:=Int.mul_le_mul_of_nonneg_right (by omega) (by decide)
 have pb:0≤ps.getD ((L:Int) - 1).toNat 0∧ps.getD ((L:Int) - 1).toNat 0≤K18D.B30:=by
  rw [show (L:Int) - 1=((L - 1:Nat):Int) by omega,Int.toNat_natCast,List.getD_eq_getElem?_getD,List.getElem?_eq_getElem jl]
  exact bp _ (List.getElem_mem jl)
 refine ⟨_,rfl,_,rfl,_,_,rfl,rfl,p,_,_,_,rfl,rfl,SqT.of (s013 _ _ hp),atp,_,rfl,wa,_,rfl,s013 _ _ hwa,_,_,rfl,rfl,⟨⟨pb.1,by have:=pb.2;unfold K18D.B30 at *;omega⟩,⟨sb.1,by have:=sb.2;unfold K18D.B30 at *;omega⟩⟩,_,_,rfl,rfl,rfl,?_⟩
 dsimp only
 rw [a9W lW,decide_eq_true rfl]
 exact q _ s013
end
theorem b1V:∀ {ps qs:List (Int × Int)},ps.map pw=qs.map pw→ps=qs
 | [],[],_=>rfl
 | [],_ :: _,h=>by cases h
 | _ :: _,[],h=>by cases h
 | p :: ps,q :: qs,h=>by
  have h:=List.cons.inj h
  have h1:[p.1,p.2]=[q.1,q.2]:=h.1
  have e1:=(List.cons.inj h1).1
  have e2:=(List.cons.inj (List.cons.inj h1).2).1
  rw [b1V h.2,show p=q from Prod.ext e1 e2]
theorem back_t {b:Bool} (h:¬ (!b)=true):b=true:=by cases b;exact absurd rfl h;rfl
theorem cut61 (ns:List Int):∃ ms:List Int,a3H (ns.map V.int) (some 2) (some 63)=ms.map V.int∧ms.length≤61:=by
 refine ⟨_,by unfold a3H;rw [←List.map_drop,←List.map_take],?_⟩
 rw [List.length_take]
 have h1:HT.sIx (ns.map V.int).length (ns.map V.int).length (some 63)=min 63 (ns.map V.int).length:=HT.a3G _ _ 63
 have h2:HT.sIx (ns.map V.int).length 0 (some 2)=min 2 (ns.map V.int).length:=HT.a3G _ _ 2
 rw [h1,h2,List.length_drop,List.length_map]
 omega
section
variable {P:Program} {w:World} {K:PySem.W.Frag} {mg:Str→Option Value} {base:Heap} {f:Addr} {fd:FuncData}
abbrev NLw:List Str:=["script","first","letters","most","cells","one","other","prices","words","weights"]
def b1s (K:PySem.W.Frag):Sp:=fun vs H Q _=>∃ (a:Addr) (ns:List Int),vs=[.ref a]∧SqL K H a (ns.map V.int)∧ns.length≤63∧∀ H',Q (.bl true) H'
theorem a3h:a0o NLw ["script"] (a0e a7P):=⟨rfl,rfl,rfl,by decide +kernel,rfl,by decide +kernel,by decide +kernel⟩
theorem ndLw:(("k":Str) :: NLw).Nodup:=by decide +kernel
def Co (H:Hp) (L:Int) (d:Addr) (ws:List (List Int)):Prop:=∃ xs,H d=some (.lst xs)∧Ws H xs ws∧Gc L ws
theorem Co.same {H H':Hp} {L:Int} {d:Addr} {ws:List (List Int)} (s:a0t H H') (h:Co H L d ws):Co H' L d ws:=by
 obtain ⟨xs,g,w,c⟩:=h
 exact ⟨xs,s _ _ g,w.same s,c⟩
theorem b3o {b:Int} {n:Nat} {ws:List (List Int)} (g:Gr b false n ws) (hn:n≤61) (l23:ws.length≤23) (ok:L2.Wok b 50 ws):Gc b ws:=by
 obtain ⟨S,l,k⟩:=gr_kn g
 exact ⟨gr_ln g,ok.len,l23,S,by omega,k⟩
theorem ok_law {CC CU e:Addr} {ed:FuncData} (F:Fun K "law" "law" a7P e ed) (GX:Fns P w K mg base ["script","k"] "_law_cell_at" (a9p K) 111) (GA:Fns P w K mg base ["cell"] "_law_amount" K18D.a4k 111) (GG:Fns P w K mg base ["cells","letters","most","lone"] "_law_grown" (a5F K) 111) (GD:Fns P w K mg base ["code","letters","prices","weights"] "_law_good" spGd 111) (GO:a3i P w K mg base ["code"] "spelling_of" (spOf CC CU) 111)
  (ml:mg "len"=none) (mr:mg "range"=none) (mt:mg "tuple"=none) (mL:mg "list"=none) (mv:mg "reversed"=none):a1c P w K mg base CX0 112 e ed ["script"] (b1s K):=by
 refine F.ok (k:=111) a3h (fun vs H Q E h=>?_) (fun cdv A outer s H vs Q E hr h=>?_)
 ·obtain ⟨a,ns,rfl,_⟩:=h
  rfl
 obtain ⟨a,ns,rfl,hS,h63,q⟩:=h
 refine ⟨_,a0f (a0y (i:=1) a3h.nd rfl (Or.inl rfl) (a0m GX.ok hr (by rfl) GX.m GX.kp GX.b .nil a0L (a0a (pv 0) (a0a (a0h) (a0c)))))
   (a0f (a0y (i:=2) a3h.nd rfl (Or.inl rfl) (a0v a0P (a0h) (a0v a1k (pv 1) (a0h))))
   (a0f (a0y (i:=3) a3h.nd rfl (Or.inl rfl) (a0v a0P (a0h) (a0v a1k (a0v a1L (pv 1) (a0h)) (a0h))))
   (a0f (a0y (i:=4) a3h.nd rfl (Or.inl rfl) (a0K a4D (by rfl) mL a8z (a0a (a1i a5o (pv 0) (a1j a0h) (a1j a0h)) (a0c))))
   (a0f (a0y (i:=5) a3h.nd rfl (Or.inl rfl) (a0m GG.ok hr (by rfl) GG.m GG.kp GG.b .nil a0L (a0a (pv 4) (a0a (pv 2) (a0a (pv 3) (a0a (a3E) (a0c)))))))
   (a0f (a0y (i:=6) a3h.nd rfl (Or.inl rfl) (a0m GG.ok hr (by rfl) GG.m GG.kp GG.b .nil a0L (a0a (a7z rfl (by rfl) mL (by rfl) mv (pv 4)) (a0a (pv 2) (a0a (a0j a0g (by rfl) ml PySem.boot_len (a0a (pv 5) (a0c))) (a0a (a3E) (a0c)))))))
   (a0f (a6f (a0U (a0u a4x (a0j a0g (by rfl) ml PySem.boot_len (a0a (pv 6) (a0c))) (a0j a0g (by rfl) ml PySem.boot_len (a0a (pv 5) (a0c))) (nomark _)) (a0i (a0y (i:=5) a3h.nd rfl (Or.inl rfl) (a0m GG.ok hr (by rfl) GG.m GG.kp GG.b .nil a0L (a0a (pv 4) (a0a (pv 2) (a0a (a0j a0g (by rfl) ml PySem.boot_len (a0a (pv 6) (a0c))) (a0a (a3E) (a0c)))))))) (a0x)))
   (a0f (a0y (i:=7) a3h.nd rfl (Or.inl rfl) (a0K a0A (by rfl) mt a1n (a0a (a1W (M:=NLw) rfl (a0k.of (a0e a7P) NLw rfl rfl rfl (by decide +kernel) (by decide +kernel) (by decide +kernel) rfl (by decide +kernel)) ndLw rfl (by rfl) mr (a0a (pv 2) a0c) (a1y a1f a2Q) (fun cl C s0 H0 fp=>⟨a0W,a0m GA.ok hr (by rfl) GA.m GA.kp GA.b .nil a0L (a0a (a0v a0P (a0m GX.ok hr (by rfl) GX.m GX.kp GX.b .nil a0L (a0a (pv 1) (a0a (a0v a0P (a0h) (pv 0)) (a0c)))) (pv 0)) (a0c))⟩)) (a0c))))
   (a0f (a1T PassesOwn.never rfl (a1J (a1h (a0a (pv 5) (a0a (pv 6) (a0c))))) (a0I (i:=8) a3h.nd rfl (Or.inl rfl)) (a0f (a0y (i:=9) a3h.nd rfl (Or.inl rfl) (a0K a0A (by rfl) mt a1n (a0a (a1W (M:=NLw) rfl (a0k.of (a0e a7P) NLw rfl rfl rfl (by decide +kernel) (by decide +kernel) (by decide +kernel) rfl (by decide +kernel)) ndLw rfl (by rfl) mr (a0a (a6g (a0j a0g (by rfl) ml PySem.boot_len (a0a (pv 8) (a0c)))) a0c) (a1y a6h a2Q) (fun cl C s0 H0 fp=>⟨a0W,a0m GA.ok hr (by rfl) GA.m GA.kp GA.b .nil a0L (a0a (a0v a0P (a0v a1L (a0m GX.ok hr (by rfl) GX.m GX.kp GX.b .nil a0L (a0a (pv 1) (a0a (a0v a0P (a0h) (pv 0)) (a0c)))) (a0h)) (pv 0)) (a0c))⟩)) (a0c))))
   (a0i (a0U (a2r (a1q (a0m GD.ok hr (by rfl) GD.m GD.kp GD.b .nil a0L (a0a (a0K a0A (by rfl) mt a1n (a0a (pv 8) (a0c))) (a0a (pv 2) (a0a (pv 7) (a0a (pv 9) (a0c)))))))) (a0i (a0s a3E)) (a0x)))))
   (a0f (a0U (a0u b0d (a0j a0g (by rfl) ml PySem.boot_len (a0a (pv 5) (a0c))) (a0j a0g (by rfl) ml PySem.boot_len (a0a (pv 6) (a0c))) (nomark _)) (a0i (a0s a3E)) (a0x))
   (a0i (a0s (a1M a1u (a1M (a9c (hu4 hr)) (a0m GO.ok hr (by rfl) GO.m GO.kp GO.b .nil a4H (a0a (a0K a0A (by rfl) mt a1n (a0a (pv 5) (a0c))) (a0c))) (a0m GO.ok hr (by rfl) GO.m GO.kp GO.b .nil a4H (a0a (a0K a0A (by rfl) mt a1n (a0a (pv 6) (a0c))) (a0c))) (nomark _)) (a1M (a9c (hu4 hr)) (pv 5) (pv 6) (nomark _)) (nomark _))))))))))))),?_⟩
 refine ⟨_,rfl,a,ns,0,rfl,hS,by decide,fun first=>?_⟩
 refine ⟨_,rfl,_,_,rfl,rfl,(by show (0:Int) < _;decide),_,_,rfl,rfl,?_⟩
 refine ⟨_,rfl,_,_,rfl,rfl,⟨by decide,by decide⟩,_,_,rfl,rfl,(by show (0:Int) < _;decide),_,_,rfl,rfl,?_⟩
 dsimp only
 obtain ⟨L,eL,L2',L6⟩:∃ L:Nat,2+first % 5=(L:Int)∧2≤L∧L≤6:=⟨(2+first % 5).toNat,by omega,by omega,by omega⟩
 obtain ⟨m0,em0,m01,m016⟩:∃ m:Int,1+first / 5 % 16=m∧1≤m∧m≤16:=⟨_,rfl,by omega,by omega⟩
 rw [eL,em0]
 refine ⟨_,rfl,_,rfl,_,rfl,a,_,rfl,hS,fun c1 hc1=>?_⟩
 obtain ⟨ms,em,lm⟩:=cut61 ns
 rw [em]
 have s1:=a0d hc1 (.lst (ms.map V.int))
 have g1:upd H c1 (.lst (ms.map V.int)) c1=some (.lst (ms.map V.int)):=a0b
 generalize upd H c1 (.lst (ms.map V.int))=H1 at s1 g1 ⊢
 refine ⟨c1,_,rfl,.inl (SqL.of g1),fun c2 hc2=>?_⟩
 have s2:=a0d hc2 (.lst (ms.map V.int))
 have g2:upd H1 c2 (.lst (ms.map V.int)) c2=some (.lst (ms.map V.int)):=a0b
 have s12:=s1.trans s2
 generalize upd H1 c2 (.lst (ms.map V.int))=H2 at s12 g2 ⊢
 refine ⟨_,rfl,_,rfl,_,rfl,c2,ms,(L:Int),m0,false,rfl,SqL.of g2,by omega,by omega,by omega,by omega,fun o1 H3 xs1 ws1 s3 go1 wo1 lo1 l231 ok1 gr1=>?_⟩
 have gc1:=b3o gr1 lm l231 ok1
 have C1:Co H3 (L:Int) o1 ws1:=⟨xs1,go1,wo1,gc1⟩
 have s13:=s12.trans s3
 have g23:=s3 _ _ g2
 refine ⟨_,rfl,c2,_,rfl,g23,fun c4 hc4=>?_⟩
 have s4:=a0d hc4 (.lst (ms.map V.int).reverse)
 have g4:upd H3 c4 (.lst (ms.map V.int).reverse) c4=some (.lst (ms.reverse.map V.int)):=by rw [a0b,List.map_reverse]
 have C1':=C1.same s4
 generalize upd H3 c4 (.lst (ms.map V.int).reverse)=H4 at s4 g4 C1' ⊢
 obtain ⟨xs4,go4,wo4,_⟩:=id C1'
 have lx1:xs4.length=ws1.length:=wo4.length
 refine ⟨_,rfl,_,rfl,o1,_,rfl,.inl (SqL.of go4),c4,ms.reverse,(L:Int),_,false,rfl,SqL.of g4,by omega,by omega,by omega,by omega,fun o2 H5 xs2 ws2 s5 go2 wo2 lo2 l232 ok2 gr2=>?_⟩
 have gc2:=b3o gr2 (by rw [List.length_reverse];exact lm) l232 ok2
 have C2:Co H5 (L:Int) o2 ws2:=⟨xs2,go2,wo2,gc2⟩
 have C1:=C1'.same s5
 have s15:=(s13.trans s4).trans s5
 have g25:=s5 _ _ (s4 _ _ g23)
 refine ⟨fun σ' H'=>a0t H H'∧∃ o1 ws1,Co H' (L:Int) o1 ws1∧Co H' (L:Int) o2 ws2∧σ'=[some (.ref a),some (.int first),some (.int (L:Int)),some (.int m0),some (.ref c2),some (.ref o1),some (.ref o2),none,none,none],?_,?_⟩
 ·obtain ⟨xs5,go5,wo5,_⟩:=id C1
  have l5:xs5.length=ws1.length:=wo5.length
  have l2:xs2.length=ws2.length:=wo2.length
  refine ⟨_,rfl,o2,_,rfl,.inl (SqL.of go2),_,rfl,o1,_,rfl,.inl (SqL.of go5),_,_,rfl,rfl,_,rfl,a1s (fun c=>?_) (fun c=>?_)⟩
  ·refine ⟨_,rfl,_,rfl,_,rfl,o2,_,rfl,.inl (SqL.of go2),c2,ms,(L:Int),_,false,rfl,SqL.of g25,by omega,by omega,by omega,by omega,fun o3 H6 xs3 ws3 s6 go3 wo3 lo3 l233 ok3 gr3=>?_⟩
   exact ⟨s15.trans s6,o3,ws3,⟨xs3,go3,wo3,b3o gr3 lm l233 ok3⟩,C2.same s6,rfl⟩
  ·exact ⟨s15,o1,ws1,C1,C2,rfl⟩
 clear C1 C1' gc1 gr1 ok1 wo1 lo1 go1 l231 go4 wo4 lx1
 rintro σ' H6 ⟨s06,o1,ws1,C1,C2,rfl⟩
 clear go2 wo2
 refine ⟨_,rfl,L,rfl,by omega,by omega,fun d3 hd3=>?_⟩
 rw [Int.toNat_natCast]
 refine ⟨fun i H'=>a0t H6 H'∧∃ ps:List Int,ps.length=i∧Bd ps∧H' d3=some (.lst (ps.map V.int)),⟨a0d hd3 _,[],rfl,(fun x hx=>by cases hx),a0b⟩,fun i H' hi hP=>?_,fun H7 hP=>?_⟩
 ·obtain ⟨sm,ps,ln,bo,hz⟩:=hP
  refine a0R ⟨_,rfl,_,rfl,_,_,rfl,rfl,a,ns,_,rfl,(s06.trans sm).seq hS,by omega,fun c=>⟨_,rfl,_,_,rfl,rfl,_,rfl,fun v v1 v30=>?_⟩⟩
  refine ⟨_,hz,by rw [List.length_map];exact a0z (by omega),a0q hd3 sm,ps++[v],by rw [List.length_append,ln];rfl,fun x hx=>?_,by rw [a0b,List.map_append];rfl⟩
  rcases List.mem_append.mp hx with h | h
  ·exact bo x h
  ·rw [List.mem_singleton.mp h];exact ⟨by omega,v30⟩
 obtain ⟨s7,ps,lps,bps,gd3⟩:=hP
 refine ⟨d3,_,rfl,.inl ⟨SqL.of gd3,fun pP hpP=>?_⟩⟩
 have s8:=s7.trans (a0d hpP (.tup (ps.map V.int)))
 have gP:upd H7 pP (.tup (ps.map V.int)) pP=some (.tup (ps.map V.int)):=a0b
 generalize upd H7 pP (.tup (ps.map V.int))=H8 at s8 gP ⊢
 have s08:=s06.trans s8
 have C1:=C1.same s8
 have C2:=C2.same s8
 refine ⟨_,rfl,_,rfl,(by show 2≤sizeLine;decide),fun dl hdl=>?_⟩
 have s9:=a0d hdl (.lst [.ref o1,.ref o2])
 have gdl:upd H8 dl (.lst [.ref o1,.ref o2]) dl=some (.lst [.ref o1,.ref o2]):=a0b
 have C1:=C1.same s9
 have C2:=C2.same s9
 have gP9:=s9 _ _ gP
 have s09:=s08.trans s9
 generalize upd H8 dl (.lst [.ref o1,.ref o2])=H9 at gdl C1 C2 gP9 s09 ⊢
 refine ⟨dl,rfl,⟨_,SqL.of gdl⟩,?_⟩
 refine a2x (xs:=[V.ref o1,.ref o2]) (fun i σ H'=>a0t H9 H'∧∃ x8 x9:Option V,σ=[some (.ref a),some (.int first),some (.int (L:Int)),some (.int m0),some (.ref c2),some (.ref o1),some (.ref o2),some (.ref pP),x8,x9]) ⟨a0t.refl _,_,_,rfl⟩ (fun i σ H' _ hP=>SqL.of (hP.1 _ _ gdl)) (fun i x σ H10 hx hP=>?_) (fun σ H10 hP=>?_)
 ·obtain ⟨s10,x8,x9,rfl⟩:=hP
  obtain ⟨o,ws,rfl,Cw⟩:∃ o ws,x=.ref o∧Co H10 (L:Int) o ws:=by
   have hm:=List.mem_of_getElem? hx
   simp only [List.mem_cons,List.not_mem_nil,or_false] at hm
   rcases hm with rfl | rfl
   ·exact ⟨_,_,rfl,C1.same s10⟩
   ·exact ⟨_,_,rfl,C2.same s10⟩
  obtain ⟨xs,go,wo,gc⟩:=id Cw
  have lx:xs.length=ws.length:=wo.length
  have l23:=gc.l23
  refine ⟨fun v H'=>H10=H'∧v=.int (ws.length:Int),⟨_,rfl,o,_,rfl,.inl (SqL.of go),rfl,by rw [lx]⟩,?_⟩
  rintro v H' ⟨rfl,rfl⟩
  refine ⟨ws.length,rfl,by omega,by omega,fun d4 hd4=>?_⟩
  rw [Int.toNat_natCast]
  have s010:=s09.trans s10
  refine ⟨fun i H'=>a0t H10 H'∧∃ ps:List Int,ps.length=i∧Bd ps∧H' d4=some (.lst (ps.map V.int)),⟨a0d hd4 _,[],rfl,(fun x hx=>by cases hx),a0b⟩,fun i H' hi hP=>?_,fun H11 hP=>?_⟩
  ·obtain ⟨sm,ps,ln,bo,hz⟩:=hP
   refine a0R ⟨_,rfl,_,rfl,_,_,rfl,rfl,a,ns,_,rfl,(s010.trans sm).seq hS,by omega,fun c=>⟨_,_,rfl,rfl,⟨by decide,by decide⟩,_,rfl,_,_,rfl,rfl,_,rfl,fun v v1 v30=>?_⟩⟩
   refine ⟨_,hz,by rw [List.length_map];exact a0z (by omega),a0q hd4 sm,ps++[v],by rw [List.length_append,ln];rfl,fun x hx=>?_,by rw [a0b,List.map_append];rfl⟩
   rcases List.mem_append.mp hx with h | h
   ·exact bo x h
   ·rw [List.mem_singleton.mp h];exact ⟨by omega,v30⟩
  obtain ⟨s11,W,lW,bW,gd4⟩:=hP
  refine ⟨d4,_,rfl,.inl ⟨SqL.of gd4,fun pW hpW=>?_⟩⟩
  have s12':=s11.trans (a0d hpW (.tup (W.map V.int)))
  have gW:upd H11 pW (.tup (W.map V.int)) pW=some (.tup (W.map V.int)):=a0b
  generalize upd H11 pW (.tup (W.map V.int))=H12 at s12' gW ⊢
  refine ⟨_,rfl,o,_,rfl,.inl ⟨SqL.of (s12' _ _ go),fun tc htc=>?_⟩⟩
  have s13':=a0d htc (.tup xs)
  have gtc:upd H12 tc (.tup xs) tc=some (.tup xs):=a0b
  have s1213:=s12'.trans s13'
  have wo13:=wo.same s1213
  have gP13:=s1213 _ _ (s10 _ _ gP9)
  have gW13:=s13' _ _ gW
  generalize upd H12 tc (.tup xs)=H13 at gtc s1213 wo13 gP13 gW13 ⊢
  refine ⟨_,rfl,_,rfl,_,rfl,tc,pP,pW,L,xs,ws,ps,W,rfl,gtc,wo13,gc,gP13,gW13,lps,L2',L6,lW.symm,bps,bW,fun H14 s14=>⟨_,rfl,a4p ?_⟩⟩
  exact ⟨s10.trans (s1213.trans s14),_,_,rfl⟩
 obtain ⟨s10,x8,x9,rfl⟩:=hP
 have C1:=C1.same s10
 have C2:=C2.same s10
 obtain ⟨xs1,g1',w1,gc1⟩:=id C1
 obtain ⟨xs2',g2',w2,gc2'⟩:=id C2
 have e1:xs1.length=ws1.length:=w1.length
 have e2:xs2'.length=ws2.length:=w2.length
 refine ⟨_,rfl,o1,_,rfl,.inl (SqL.of g1'),_,rfl,o2,_,rfl,.inl (SqL.of g2'),rfl,_,rfl,a1s (fun c=>q _) (fun c=>?_)⟩
 have el:ws1.length=ws2.length:=by
  have:=back_t c
  have:=V.int.inj (of_decide_eq_true this)
  omega
 refine ⟨_,rfl,o1,_,rfl,.inl ⟨SqL.of g1',fun t1 ht1=>?_⟩⟩
 have u1:=a0d ht1 (.tup xs1)
 have gt1:upd H10 t1 (.tup xs1) t1=some (.tup xs1):=a0b
 have w1a:=w1.same u1
 generalize upd H10 t1 (.tup xs1)=J1 at u1 gt1 w1a ⊢
 have spell:∀ {ws:List (List Int)},Gc (L:Int) ws→isF ws none∧a9y ws∧∀ {i j:Nat} {P:Prop},isF ws (some [(i:Int),(j:Int)])→P:=fun g=>⟨g.nc,g.ln.lean,fun z=>by cases a4a z g.nc⟩
 obtain ⟨nc1,le1,ns1⟩:=spell gc1
 obtain ⟨nc2,le2,ns2⟩:=spell gc2'
 refine ⟨t1,xs1,ws1,rfl,gt1,w1a,gc1.ok (by omega),fun i j z=>ns1 z,fun _ z=>absurd le1 z,fun _ _ a1 J2 u2 _ ha1 _=>?_⟩
 refine ⟨_,rfl,o2,_,rfl,.inl ⟨SqL.of (u2 _ _ (u1 _ _ g2')),fun t2 ht2=>?_⟩⟩
 have u3:=a0d ht2 (.tup xs2')
 have gt2:upd J2 t2 (.tup xs2') t2=some (.tup xs2'):=a0b
 have w2a:=w2.same ((u1.trans u2).trans u3)
 generalize upd J2 t2 (.tup xs2')=J3 at u3 gt2 w2a ⊢
 refine ⟨t2,xs2',ws2,rfl,gt2,w2a,gc2'.ok (by omega),fun i j z=>ns2 z,fun _ z=>absurd le2 z,fun _ _ a2 J4 u4 _ ha2 _=>?_⟩
 obtain ⟨y1,hy1,p1⟩:=a6V (u3.trans u4) ha1
 obtain ⟨y2,hy2,p2⟩:=ha2
 refine ⟨a1,a2,y1,y2,_,_,rfl,rfl,hy1,hy2,a9t p1,a9t p2,?_⟩
 have uA:=(u1.trans u2).trans (u3.trans u4)
 refine ⟨_,rfl,_,rfl,o1,o2,xs1,xs2',ws1,ws2,rfl,rfl,uA _ _ g1',uA _ _ g2',w1.same uA,w2.same uA,rfl,?_⟩
 have L8:(L:Int)≤8:=by omega
 have e:decide (((spl 53 ws1).map pw)=((spl 53 ws2).map pw))=decide (ws1=ws2):=decide_eq_decide.mpr ⟨fun h=>b3j L8 gc1.ln gc2'.ln (by have:=gc1.l23;omega) (fun u hu=>by have:=gc1.w50 u hu;omega) (fun u hu=>by have:=gc2'.w50 u hu;omega) el (b1V h),fun h=>by rw [h]⟩
 rw [e,decide_eq_true rfl]
 exact q _
end
theorem al1 {α:Type} {P:List α→Prop} (h:∀ a0:α,P [a0]):∀ us:List α,us.length=1→P us
 | [a0],_=>h a0
theorem al2 {α:Type} {P:List α→Prop} (h:∀ a0 a1:α,P [a0,a1]):∀ us:List α,us.length=2→P us
 | [a0,a1],_=>h a0 a1
theorem al3 {α:Type} {P:List α→Prop} (h:∀ a0 a1 a2:α,P [a0,a1,a2]):∀ us:List α,us.length=3→P us
 | [a0,a1,a2],_=>h a0 a1 a2
theorem al4 {α:Type} {P:List α→Prop} (h:∀ a0 a1 a2 a3:α,P [a0,a1,a2,a3]):∀ us:List α,us.length=4→P us
 | [a0,a1,a2,a3],_=>h a0 a1 a2 a3
theorem all_mk {l:PySem.W.OpenLaw} {w:World} {K:PySem.W.Frag} {h:Heap} {mg:Str→Option Value} {fa f1 f2 f3 f4 f5 f6 f7 f8 f9 f10 f11 f12 f13 f14 f15 f16 f17 f18 f19 f20 f21 f22 f23 f24 f25 f26 f27:Addr} (X:K.In h) (G:h.Ns mainGlobals mg) (hfa:mg "law"=some (.ref fa))
  {od1 an1 od2 an2 od3 an3 od4 an4 od5 an5 od6 an6 od7 an7 od8 an8 od9 an9 od10 an10 od11 an11 od12 an12 od13 an13 od14 an14 od15 an15 od16 an16 od17 an17 od18 an18 od19 an19 od20 an20 od21 an21 od22 an22 od23 an23 od24 an24 od25 an25 od26 an26 od27 an27:Option Addr} {sl1 sl2 sl3 sl4 sl5 sl6 sl7 sl8 sl9 sl10 sl11 sl12 sl13 sl14 sl15 sl16 sl17 sl18 sl19 sl20 sl21 sl22 sl23 sl24 sl25 sl26 sl27:Array (Option Value)}
  {oc1 kV1 dc1 pm1 cd1 ct1 oc2 kV2 dc2 pm2 cd2 ct2 oc3 kV3 dc3 pm3 cd3 ct3 oc4 kV4 dc4 pm4 cd4 ct4 oc5 kV5 dc5 pm5 cd5 ct5 oc6 kV6 dc6 pm6 cd6 ct6 oc7 kV7 dc7 pm7 cd7 ct7 oc8 kV8 dc8 pm8 cd8 ct8 oc9 kV9 dc9 pm9 cd9 ct9 oc10 kV10 dc10 pm10 cd10 ct10 oc11 kV11 dc11 pm11 cd11 ct11 oc12 kV12 dc12 pm12 cd12 ct12 oc13 kV13 dc13 pm13 cd13 ct13 oc14 kV14 dc14 pm14 cd14 ct14 oc15 kV15 dc15 pm15 cd15 ct15 oc16 kV16 dc16 pm16 cd16 ct16 oc17 kV17 dc17 pm17 cd17 ct17 oc18 kV18 dc18 pm18 cd18 ct18 oc19 kV19 dc19 pm19 cd19 ct19 oc20 kV20 dc20 pm20 cd20 ct20 oc21 kV21 dc21 pm21 cd21 ct21 oc22 kV22 dc22 pm22 cd22 ct22 oc23 kV23 dc23 pm23 cd23 ct23 oc24 kV24 dc24 pm24 cd24 ct24 oc25 kV25 dc25 pm25 cd25 ct25 oc26 kV26 dc26 pm26 cd26 ct26 oc27 kV27 dc27 pm27 cd27 ct27:Value}
  (a1:PySem.W.nsIn K mainGlobals "has_letters_alone"=some (some (.ref f1))) (l1:K.lookup f1=some ⟨oc1,od1,.func (PySem.W.fnOf "has_letters_alone" "has_letters_alone" (a0p a1E) (a0n a1E) (a0e a1E) .none kV1 dc1 pm1 an1 cd1 ct1),sl1⟩) (c1:PySem.W.codeIn K cd1 "has_letters_alone"=true) (k1:PySem.W.keepIn K (.ref f1)=true)
  (a2:PySem.W.nsIn K mainGlobals "word_price"=some (some (.ref f2))) (l2:K.lookup f2=some ⟨oc2,od2,.func (PySem.W.fnOf "word_price" "word_price" (a0p K18D.a3f) (a0n K18D.a3f) (a0e K18D.a3f) .none kV2 dc2 pm2 an2 cd2 ct2),sl2⟩) (c2:PySem.W.codeIn K cd2 "word_price"=true) (k2:PySem.W.keepIn K (.ref f2)=true)
  (a3:PySem.W.nsIn K mainGlobals "begins"=some (some (.ref f3))) (l3:K.lookup f3=some ⟨oc3,od3,.func (PySem.W.fnOf "begins" "begins" (a0p a2l) (a0n a2l) (a0e a2l) .none kV3 dc3 pm3 an3 cd3 ct3),sl3⟩) (c3:PySem.W.codeIn K cd3 "begins"=true) (k3:PySem.W.keepIn K (.ref f3)=true)
  (a4:PySem.W.nsIn K mainGlobals "clash"=some (some (.ref f4))) (l4:K.lookup f4=some ⟨oc4,od4,.func (PySem.W.fnOf "clash" "clash" (a0p a3y) (a0n a3y) (a0e a3y) .none kV4 dc4 pm4 an4 cd4 ct4),sl4⟩) (c4:PySem.W.codeIn K cd4 "clash"=true) (k4:PySem.W.keepIn K (.ref f4)=true)
  (a5:PySem.W.nsIn K mainGlobals "refuse_clash"=some (some (.ref f5))) (l5:K.lookup f5=some ⟨oc5,od5,.func (PySem.W.fnOf "refuse_clash" "refuse_clash" (a0p a1C) (a0n a1C) (a0e a1C) .none kV5 dc5 pm5 an5 cd5 ct5),sl5⟩) (c5:PySem.W.codeIn K cd5 "refuse_clash"=true) (k5:PySem.W.keepIn K (.ref f5)=true)
  (a6:PySem.W.nsIn K mainGlobals "rises"=some (some (.ref f6))) (l6:K.lookup f6=some ⟨oc6,od6,.func (PySem.W.fnOf "rises" "rises" (a0p a2Y) (a0n a2Y) (a0e a2Y) .none kV6 dc6 pm6 an6 cd6 ct6),sl6⟩) (c6:PySem.W.codeIn K cd6 "rises"=true) (k6:PySem.W.keepIn K (.ref f6)=true)
  (a7:PySem.W.nsIn K mainGlobals "is_kept"=some (some (.ref f7))) (l7:K.lookup f7=some ⟨oc7,od7,.func (PySem.W.fnOf "is_kept" "is_kept" (a0p a7E) (a0n a7E) (a0e a7E) .none kV7 dc7 pm7 an7 cd7 ct7),sl7⟩) (c7:PySem.W.codeIn K cd7 "is_kept"=true) (k7:PySem.W.keepIn K (.ref f7)=true)
  (a8:PySem.W.nsIn K mainGlobals "is_lean"=some (some (.ref f8))) (l8:K.lookup f8=some ⟨oc8,od8,.func (PySem.W.fnOf "is_lean" "is_lean" (a0p a7F) (a0n a7F) (a0e a7F) .none kV8 dc8 pm8 an8 cd8 ct8),sl8⟩) (c8:PySem.W.codeIn K cd8 "is_lean"=true) (k8:PySem.W.keepIn K (.ref f8)=true)
  (a9:PySem.W.nsIn K mainGlobals "ways_on"=some (some (.ref f9))) (l9:K.lookup f9=some ⟨oc9,od9,.func (PySem.W.fnOf "ways_on" "ways_on" (a0p a7D) (a0n a7D) (a0e a7D) .none kV9 dc9 pm9 an9 cd9 ct9),sl9⟩) (c9:PySem.W.codeIn K cd9 "ways_on"=true) (k9:PySem.W.keepIn K (.ref f9)=true)
  (a10:PySem.W.nsIn K mainGlobals "lone_knots"=some (some (.ref f10))) (l10:K.lookup f10=some ⟨oc10,od10,.func (PySem.W.fnOf "lone_knots" "lone_knots" (a0p a5D) (a0n a5D) (a0e a5D) .none kV10 dc10 pm10 an10 cd10 ct10),sl10⟩) (c10:PySem.W.codeIn K cd10 "lone_knots"=true) (k10:PySem.W.keepIn K (.ref f10)=true)
  (a11:PySem.W.nsIn K mainGlobals "cost"=some (some (.ref f11))) (l11:K.lookup f11=some ⟨oc11,od11,.func (PySem.W.fnOf "cost" "cost" (a0p K18D.a5L) (a0n K18D.a5L) (a0e K18D.a5L) .none kV11 dc11 pm11 an11 cd11 ct11),sl11⟩) (c11:PySem.W.codeIn K cd11 "cost"=true) (k11:PySem.W.keepIn K (.ref f11)=true)
  (a12:PySem.W.nsIn K mainGlobals "tree_of"=some (some (.ref f12))) (l12:K.lookup f12=some ⟨oc12,od12,.func (PySem.W.fnOf "tree_of" "tree_of" (a0p sTo) (a0n sTo) (a0e sTo) .none kV12 dc12 pm12 an12 cd12 ct12),sl12⟩) (c12:PySem.W.codeIn K cd12 "tree_of"=true) (k12:PySem.W.keepIn K (.ref f12)=true)
  (a13:PySem.W.nsIn K mainGlobals "tree_of_pairs"=some (some (.ref f13))) (l13:K.lookup f13=some ⟨oc13,od13,.func (PySem.W.fnOf "tree_of_pairs" "tree_of_pairs" (a0p sTp) (a0n sTp) (a0e sTp) .none kV13 dc13 pm13 an13 cd13 ct13),sl13⟩) (c13:PySem.W.codeIn K cd13 "tree_of_pairs"=true) (k13:PySem.W.keepIn K (.ref f13)=true)
  (a14:PySem.W.nsIn K mainGlobals "branch_of"=some (some (.ref f14))) (l14:K.lookup f14=some ⟨oc14,od14,.func (PySem.W.fnOf "branch_of" "branch_of" (a0p a1D) (a0n a1D) (a0e a1D) .none kV14 dc14 pm14 an14 cd14 ct14),sl14⟩) (c14:PySem.W.codeIn K cd14 "branch_of"=true) (k14:PySem.W.keepIn K (.ref f14)=true)
  (a15:PySem.W.nsIn K mainGlobals "code_of"=some (some (.ref f15))) (l15:K.lookup f15=some ⟨oc15,od15,.func (PySem.W.fnOf "code_of" "code_of" (a0p sCo) (a0n sCo) (a0e sCo) .none kV15 dc15 pm15 an15 cd15 ct15),sl15⟩) (c15:PySem.W.codeIn K cd15 "code_of"=true) (k15:PySem.W.keepIn K (.ref f15)=true)
  (a16:PySem.W.nsIn K mainGlobals "pairs_of"=some (some (.ref f16))) (l16:K.lookup f16=some ⟨oc16,od16,.func (PySem.W.fnOf "pairs_of" "pairs_of" (a0p sPo) (a0n sPo) (a0e sPo) .none kV16 dc16 pm16 an16 cd16 ct16),sl16⟩) (c16:PySem.W.codeIn K cd16 "pairs_of"=true) (k16:PySem.W.keepIn K (.ref f16)=true)
  (a17:PySem.W.nsIn K mainGlobals "spelling_of"=some (some (.ref f17))) (l17:K.lookup f17=some ⟨oc17,od17,.func (PySem.W.fnOf "spelling_of" "spelling_of" (a0p sOf) (a0n sOf) (a0e sOf) .none kV17 dc17 pm17 an17 cd17 ct17),sl17⟩) (c17:PySem.W.codeIn K cd17 "spelling_of"=true) (k17:PySem.W.keepIn K (.ref f17)=true)
  (a18:PySem.W.nsIn K mainGlobals "spelled"=some (some (.ref f18))) (l18:K.lookup f18=some ⟨oc18,od18,.func (PySem.W.fnOf "spelled" "spelled" (a0p sPl) (a0n sPl) (a0e sPl) .none kV18 dc18 pm18 an18 cd18 ct18),sl18⟩) (c18:PySem.W.codeIn K cd18 "spelled"=true) (k18:PySem.W.keepIn K (.ref f18)=true)
  (a19:PySem.W.nsIn K mainGlobals "code_by"=some (some (.ref f19))) (l19:K.lookup f19=some ⟨oc19,od19,.func (PySem.W.fnOf "code_by" "code_by" (a0p K18B.a7O) (a0n K18B.a7O) (a0e K18B.a7O) .none kV19 dc19 pm19 an19 cd19 ct19),sl19⟩) (c19:PySem.W.codeIn K cd19 "code_by"=true) (k19:PySem.W.keepIn K (.ref f19)=true)
  (a20:PySem.W.nsIn K mainGlobals "words_spelled"=some (some (.ref f20))) (l20:K.lookup f20=some ⟨oc20,od20,.func (PySem.W.fnOf "words_spelled" "words_spelled" (a0p K18B.a2c) (a0n K18B.a2c) (a0e K18B.a2c) .none kV20 dc20 pm20 an20 cd20 ct20),sl20⟩) (c20:PySem.W.codeIn K cd20 "words_spelled"=true) (k20:PySem.W.keepIn K (.ref f20)=true)
  (a21:PySem.W.nsIn K mainGlobals "is_way_on"=some (some (.ref f21))) (l21:K.lookup f21=some ⟨oc21,od21,.func (PySem.W.fnOf "is_way_on" "is_way_on" (a0p K18B.b3v) (a0n K18B.b3v) (a0e K18B.b3v) .none kV21 dc21 pm21 an21 cd21 ct21),sl21⟩) (c21:PySem.W.codeIn K cd21 "is_way_on"=true) (k21:PySem.W.keepIn K (.ref f21)=true)
  (a22:PySem.W.nsIn K mainGlobals "_law_cell_at"=some (some (.ref f22))) (l22:K.lookup f22=some ⟨oc22,od22,.func (PySem.W.fnOf "_law_cell_at" "_law_cell_at" (a0p a4W) (a0n a4W) (a0e a4W) .none kV22 dc22 pm22 an22 cd22 ct22),sl22⟩) (c22:PySem.W.codeIn K cd22 "_law_cell_at"=true) (k22:PySem.W.keepIn K (.ref f22)=true)
  (a23:PySem.W.nsIn K mainGlobals "_law_amount"=some (some (.ref f23))) (l23:K.lookup f23=some ⟨oc23,od23,.func (PySem.W.fnOf "_law_amount" "_law_amount" (a0p a1R) (a0n a1R) (a0e a1R) .none kV23 dc23 pm23 an23 cd23 ct23),sl23⟩) (c23:PySem.W.codeIn K cd23 "_law_amount"=true) (k23:PySem.W.keepIn K (.ref f23)=true)
  (a24:PySem.W.nsIn K mainGlobals "_law_grown"=some (some (.ref f24))) (l24:K.lookup f24=some ⟨oc24,od24,.func (PySem.W.fnOf "_law_grown" "_law_grown" (a0p a2a) (a0n a2a) (a0e a2a) .none kV24 dc24 pm24 an24 cd24 ct24),sl24⟩) (c24:PySem.W.codeIn K cd24 "_law_grown"=true) (k24:PySem.W.keepIn K (.ref f24)=true)
  (a25:PySem.W.nsIn K mainGlobals "_law_walked"=some (some (.ref f25))) (l25:K.lookup f25=some ⟨oc25,od25,.func (PySem.W.fnOf "_law_walked" "_law_walked" (a0p a2q) (a0n a2q) (a0e a2q) .none kV25 dc25 pm25 an25 cd25 ct25),sl25⟩) (c25:PySem.W.codeIn K cd25 "_law_walked"=true) (k25:PySem.W.keepIn K (.ref f25)=true)
  (a26:PySem.W.nsIn K mainGlobals "_law_good"=some (some (.ref f26))) (l26:K.lookup f26=some ⟨oc26,od26,.func (PySem.W.fnOf "_law_good" "_law_good" (a0p a5P) (a0n a5P) (a0e a5P) .none kV26 dc26 pm26 an26 cd26 ct26),sl26⟩) (c26:PySem.W.codeIn K cd26 "_law_good"=true) (k26:PySem.W.keepIn K (.ref f26)=true)
  (a27:PySem.W.nsIn K mainGlobals "law"=some (some (.ref f27))) (l27:K.lookup f27=some ⟨oc27,od27,.func (PySem.W.fnOf "law" "law" (a0p a7P) (a0n a7P) (a0e a7P) .none kV27 dc27 pm27 an27 cd27 ct27),sl27⟩) (c27:PySem.W.codeIn K cd27 "law"=true) (k27:PySem.W.keepIn K (.ref f27)=true)
  (z1:PySem.W.nsIn K mainGlobals "len"=some none)
  (z2:PySem.W.nsIn K mainGlobals "range"=some none)
  (z3:PySem.W.nsIn K mainGlobals "isinstance"=some none)
  (z4:PySem.W.nsIn K mainGlobals "int"=some none)
  (z5:PySem.W.nsIn K mainGlobals "tuple"=some none)
  (z6:PySem.W.nsIn K mainGlobals "list"=some none)
  (z7:PySem.W.nsIn K mainGlobals "all"=some none)
  (z8:PySem.W.nsIn K mainGlobals "sorted"=some none)
  (z9:PySem.W.nsIn K mainGlobals "set"=some none)
  (z10:PySem.W.nsIn K mainGlobals "sum"=some none)
  (z11:PySem.W.nsIn K mainGlobals "min"=some none)
  (z12:PySem.W.nsIn K mainGlobals "zip"=some none)
  (z13:PySem.W.nsIn K mainGlobals "enumerate"=some none)
  (z14:PySem.W.nsIn K mainGlobals "reversed"=some none)
  {CC:Addr} (gCC:PySem.W.nsIn K mainGlobals "Clash"=some (some (.ref CC)))
  (xCC:b3r K CC=true)
  {CU:Addr} (gCU:PySem.W.nsIn K mainGlobals "Unlike"=some (some (.ref CU)))
  (xCU:b3r K CU=true)
  (eCU:PySem.W.excIn K CU a7S a2S=true)
  {CB:Addr} (gCB:PySem.W.nsIn K mainGlobals "BadWord"=some (some (.ref CB)))
  (xCB:b3r K CB=true)
  (eCB:PySem.W.excIn K CB a7S a2S=true)
  {CS:Addr} (gCS:PySem.W.nsIn K mainGlobals "BadSpelling"=some (some (.ref CS)))
  (xCS:b3r K CS=true)
  (eCS:PySem.W.excIn K CS a7S a2S=true)
  {i88:Addr} (fi88:PySem.W.findIn K (.ref CC) "__init__"=some (some (.ref i88)))
  (xi88:b2u K CC i88=true)
  {oi88:Value} {di88:Option Addr} {ki88 ui88 mi88:Value} {ni88:Option Addr} {vi88 ti88:Value} {si88:Array (Option Value)} (li88:K.lookup i88=some ⟨oi88,di88,.func (PySem.W.fnOf "__init__" "Clash.__init__" (a0p a3x) (a0n a3x) (a0e a3x) .none ki88 ui88 mi88 ni88 vi88 ti88),si88⟩)
  (ci88:PySem.W.codeIn K vi88 "Clash.__init__"=true)
  (kki88:PySem.W.keepIn K (.ref i88)=true)
  (es88:b2v K CC=true)
  (kc88:PySem.W.keepIn K (.ref CC)=true)
  (na88one:PySem.W.findIn K (.ref CC) "one"=some none)
  (na88other:PySem.W.findIn K (.ref CC) "other"=some none) :
  ∃ fd:FuncData,(∀ (s:Shared) (v:Value),BindsTo s fd ⟨[v],[]⟩ [("script",v)])∧∀ base:Heap,K.In base→base.Ns mainGlobals mg→a1c l.prog w K mg base CX0 112 fa fd ["script"] (b1s K):=by
 have e:=hfa.symm.trans (PySem.W.mg_of X G a27)
 cases e
 have F1:=a0E (st:=a1E) l1 c1 k1
 have m1:=PySem.W.mg_of X G a1
 have b1:=F1.binds (ps:=["word","letters"]) fun _ _ _ _ _ _=>al2 fun _ _=>rfl
 have F2:=a0E (st:=K18D.a3f) l2 c2 k2
 have m2:=PySem.W.mg_of X G a2
 have b2:=F2.binds (ps:=["prices","word"]) fun _ _ _ _ _ _=>al2 fun _ _=>rfl
 have F3:=a0E (st:=a2l) l3 c3 k3
 have m3:=PySem.W.mg_of X G a3
 have b3:=F3.binds (ps:=["one","other"]) fun _ _ _ _ _ _=>al2 fun _ _=>rfl
 have F4:=a0E (st:=a3y) l4 c4 k4
 have m4:=PySem.W.mg_of X G a4
 have b4:=F4.binds (ps:=["code"]) fun _ _ _ _ _ _=>al1 fun _=>rfl
 have F5:=a0E (st:=a1C) l5 c5 k5
 have m5:=PySem.W.mg_of X G a5
 have b5:=F5.binds (ps:=["code"]) fun _ _ _ _ _ _=>al1 fun _=>rfl
 have F6:=a0E (st:=a2Y) l6 c6 k6
 have m6:=PySem.W.mg_of X G a6
 have b6:=F6.binds (ps:=["code"]) fun _ _ _ _ _ _=>al1 fun _=>rfl
 have F7:=a0E (st:=a7E) l7 c7 k7
 have m7:=PySem.W.mg_of X G a7
 have b7:=F7.binds (ps:=["code"]) fun _ _ _ _ _ _=>al1 fun _=>rfl
 have F8:=a0E (st:=a7F) l8 c8 k8
 have m8:=PySem.W.mg_of X G a8
 have b8:=F8.binds (ps:=["code"]) fun _ _ _ _ _ _=>al1 fun _=>rfl
 have F9:=a0E (st:=a7D) l9 c9 k9
 have m9:=PySem.W.mg_of X G a9
 have b9:=F9.binds (ps:=["code"]) fun _ _ _ _ _ _=>al1 fun _=>rfl
 have F10:=a0E (st:=a5D) l10 c10 k10
 have m10:=PySem.W.mg_of X G a10
 have b10:=F10.binds (ps:=["code"]) fun _ _ _ _ _ _=>al1 fun _=>rfl
 have F11:=a0E (st:=K18D.a5L) l11 c11 k11
 have m11:=PySem.W.mg_of X G a11
 have b11:=F11.binds (ps:=["prices","weights","code"]) fun _ _ _ _ _ _=>al3 fun _ _ _=>rfl
 have F12:=a0E (st:=sTo) l12 c12 k12
 have m12:=PySem.W.mg_of X G a12
 have b12:=F12.binds (ps:=["code","letters"]) fun _ _ _ _ _ _=>al2 fun _ _=>rfl
 have F13:=a0E (st:=sTp) l13 c13 k13
 have m13:=PySem.W.mg_of X G a13
 have b13:=F13.binds (ps:=["pairs","letters"]) fun _ _ _ _ _ _=>al2 fun _ _=>rfl
 have F14:=a0E (st:=a1D) l14 c14 k14
 have m14:=PySem.W.mg_of X G a14
 have b14:=F14.binds (ps:=["pairs","letter","letters"]) fun _ _ _ _ _ _=>al3 fun _ _ _=>rfl
 have F15:=a0E (st:=sCo) l15 c15 k15
 have m15:=PySem.W.mg_of X G a15
 have b15:=F15.binds (ps:=["tree"]) fun _ _ _ _ _ _=>al1 fun _=>rfl
 have F16:=a0E (st:=sPo) l16 c16 k16
 have m16:=PySem.W.mg_of X G a16
 have b16:=F16.binds (ps:=["tree","word"]) fun _ _ _ _ _ _=>al2 fun _ _=>rfl
 have F17:=a0E (st:=sOf) l17 c17 k17
 have m17:=PySem.W.mg_of X G a17
 have b17:=F17.binds (ps:=["code"]) fun _ _ _ _ _ _=>al1 fun _=>rfl
 have F18:=a0E (st:=sPl) l18 c18 k18
 have m18:=PySem.W.mg_of X G a18
 have b18:=F18.binds (ps:=["words"]) fun _ _ _ _ _ _=>al1 fun _=>rfl
 have F19:=a0E (st:=K18B.a7O) l19 c19 k19
 have m19:=PySem.W.mg_of X G a19
 have b19:=F19.binds (ps:=["letters","things","spelling"]) fun _ _ _ _ _ _=>al3 fun _ _ _=>rfl
 have F20:=a0E (st:=K18B.a2c) l20 c20 k20
 have m20:=PySem.W.mg_of X G a20
 have b20:=F20.binds (ps:=["letters","things","spelling","at"]) fun _ _ _ _ _ _=>al4 fun _ _ _ _=>rfl
 have F21:=a0E (st:=K18B.b3v) l21 c21 k21
 have m21:=PySem.W.mg_of X G a21
 have b21:=F21.binds (ps:=["pair","least","letters","most"]) fun _ _ _ _ _ _=>al4 fun _ _ _ _=>rfl
 have F22:=a0E (st:=a4W) l22 c22 k22
 have m22:=PySem.W.mg_of X G a22
 have b22:=F22.binds (ps:=["script","k"]) fun _ _ _ _ _ _=>al2 fun _ _=>rfl
 have F23:=a0E (st:=a1R) l23 c23 k23
 have m23:=PySem.W.mg_of X G a23
 have b23:=F23.binds (ps:=["cell"]) fun _ _ _ _ _ _=>al1 fun _=>rfl
 have F24:=a0E (st:=a2a) l24 c24 k24
 have m24:=PySem.W.mg_of X G a24
 have b24:=F24.binds (ps:=["cells","letters","most","lone"]) fun _ _ _ _ _ _=>al4 fun _ _ _ _=>rfl
 have F25:=a0E (st:=a2q) l25 c25 k25
 have m25:=PySem.W.mg_of X G a25
 have b25:=F25.binds (ps:=["prices","weights","pairs"]) fun _ _ _ _ _ _=>al3 fun _ _ _=>rfl
 have F26:=a0E (st:=a5P) l26 c26 k26
 have m26:=PySem.W.mg_of X G a26
 have b26:=F26.binds (ps:=["code","letters","prices","weights"]) fun _ _ _ _ _ _=>al4 fun _ _ _ _=>rfl
 have F27:=a0E (st:=a7P) l27 c27 k27
 have m27:=PySem.W.mg_of X G a27
 have B_len:=PySem.W.mg_none_of X G z1
 have B_range:=PySem.W.mg_none_of X G z2
 have B_isinstance:=PySem.W.mg_none_of X G z3
 have B_int:=PySem.W.mg_none_of X G z4
 have B_tuple:=PySem.W.mg_none_of X G z5
 have B_list:=PySem.W.mg_none_of X G z6
 have B_all:=PySem.W.mg_none_of X G z7
 have B_sorted:=PySem.W.mg_none_of X G z8
 have B_set:=PySem.W.mg_none_of X G z9
 have B_sum:=PySem.W.mg_none_of X G z10
 have B_min:=PySem.W.mg_none_of X G z11
 have B_zip:=PySem.W.mg_none_of X G z12
 have B_enumerate:=PySem.W.mg_none_of X G z13
 have B_reversed:=PySem.W.mg_none_of X G z14
 refine ⟨PySem.W.fnOf "law" "law" (a0p a7P) (a0n a7P) (a0e a7P) .none kV27 dc27 pm27 an27 cd27 ct27,fun s v=>.of_eq rfl,fun base _ _=>?_⟩
 have FC:=a0E (st:=a3x) li88 ci88 kki88
 have bC:=FC.binds (ps:=["self","one","other"]) fun _ _ _ _ _ _=>al3 fun _ _ _=>rfl
 have gC:=PySem.W.mg_of X G gCC
 have gU:=PySem.W.mg_of X G gCU
 have gB:=PySem.W.mg_of X G gCB
 have gS:=PySem.W.mg_of X G gCS
 have kc:ClC l.prog w K mg base CC:=⟨gC,(XC.of xCC).h,kc88,_,_,⟨xi88⟩,b2X FC (Est.of es88) na88one na88other,bC⟩
 have B3:Fns l.prog w K mg base ["one","other"] "begins" b2T 1:=⟨_,_,(a9q F3 B_len).mono (by decide),b3,k3,m3⟩
 have B4:Fns l.prog w K mg base ["code"] "clash" a2Z 2:=⟨_,_,(a7G F4 B3 B_len B_range).mono (by decide),b4,k4,m4⟩
 have B6:Fns l.prog w K mg base ["code"] "rises" a5E 2:=⟨_,_,(b1a F6 B_len B_range B_all).mono (by decide),b6,k6,m6⟩
 have B7:Fns l.prog w K mg base ["code"] "is_kept" a6y 4:=⟨_,_,(b2V F7 B6 B4).mono (by decide),b7,k7,m7⟩
 have B5:Fns l.prog w K mg base ["code"] "refuse_clash" (spRC noC) 3:=⟨_,_,(a9s F5 B4).mono (by decide),b5,k5,m5⟩
 have B5x:a3i l.prog w K mg base ["code"] "refuse_clash" (spRX CC) 54:=⟨_,_,(a3A F5 B4 kc).mono (by decide),b5,k5,m5⟩
 have B5y:a3i l.prog w K mg base ["code"] "refuse_clash" (spRX CC) 109:=⟨_,_,(a3A F5 B4 kc).mono (by decide),b5,k5,m5⟩
 have B9:Fns l.prog w K mg base ["code"] "ways_on" a9l 3:=⟨_,_,(b2P F9 B_len B_range).mono (by decide),b9,k9,m9⟩
 have B10:Fns l.prog w K mg base ["code"] "lone_knots" (a9o noC) 4:=⟨_,_,(b2R F10 B5 B9 B_len B_sorted).mono (by decide),b10,k10,m10⟩
 have B8:Fns l.prog w K mg base ["code"] "is_lean" a6z 54:=⟨_,_,(b2W F8 B7 B10 B_len).mono (by decide),b8,k8,m8⟩
 have B18:Fns l.prog w K mg base ["words"] "spelled" (b3t K 53) 54:=⟨_,_,(b1N F18 b18 k18 m18 B_len B_sorted B_set 53).mono (by decide),b18,k18,m18⟩
 have B17:a3i l.prog w K mg base ["code"] "spelling_of" (spOf CC CU) 110:=⟨_,_,(ok_of F17 B5x B8 B18 gU ⟨eCU⟩).mono (by decide),b17,k17,m17⟩
 have B17x:a3i l.prog w K mg base ["code"] "spelling_of" (spOf CC CU) 111:=⟨_,_,(ok_of F17 B5x B8 B18 gU ⟨eCU⟩).mono (by decide),b17,k17,m17⟩
 have B21:Fns l.prog w K mg base ["pair","least","letters","most"] "is_way_on" K18B.b1k 1:=⟨_,_,(K18B.ok_way F21).mono (by decide),b21,k21,m21⟩
 have WA:=K18B.a5f (CB:=CS) (b:=b20) F20 b20 k20 m20 B21 gS ⟨eCS⟩ B_len B_min 24
 have B20:a3i l.prog w K mg base ["letters","things","spelling","at"] "words_spelled" (K18B.a2p CS 24) 25:=⟨_,_,(WA).mono (by decide),b20,k20,m20⟩
 have B19:a3i l.prog w K mg base ["letters","things","spelling"] "code_by" (K18B.a9K CS) 110:=⟨_,_,(K18B.b3g F19 B20 gS ⟨eCS⟩ B_len B_tuple).mono (by decide),b19,k19,m19⟩
 have B1:Fns l.prog w K mg base ["word","letters"] "has_letters_alone" a1P 109:=⟨_,_,(a4h F1 B_all).mono (by decide),b1,k1,m1⟩
 have B1x:Fns l.prog w K mg base ["word","letters"] "has_letters_alone" K18D.a1P 1:=⟨_,_,(K18D.a4h F1 B_all).mono (by decide),b1,k1,m1⟩
 have B13:Fns l.prog w K mg base ["pairs","letters"] "tree_of_pairs" (b3u 53) 109:=⟨_,_,(a9G F13 F14 b13 k13 m13 b14 k14 m14 B_len B_range B_tuple 53).mono (by decide),b13,k13,m13⟩
 have B12:a3i l.prog w K mg base ["code","letters"] "tree_of" (spTo CB CC 53) 110:=⟨_,_,(ok_to F12 B1 B5y B13 B_all B_list B_enumerate gB ⟨eCB⟩).mono (by decide),b12,k12,m12⟩
 have B16:Fns l.prog w K mg base ["tree","word"] "pairs_of" (spPo 53) 54:=⟨_,_,(ok_po F16 b16 k16 m16 B_isinstance B_int B_enumerate 53).mono (by decide),b16,k16,m16⟩
 have B15:Fns l.prog w K mg base ["tree"] "code_of" (spCo 53) 110:=⟨_,_,(ok_co F15 B16 B_sorted B_tuple).mono (by decide),b15,k15,m15⟩
 have B2:a3i l.prog w K mg base ["prices","word"] "word_price" (K18D.a5M CB) 2:=⟨_,_,(K18D.b1n F2 B1x B_len B_sum gB ⟨eCB⟩).mono (by decide),b2,k2,m2⟩
 have B11:a3i l.prog w K mg base ["prices","weights","code"] "cost" (K18D.a9N CU CB) 110:=⟨_,_,(K18D.b3i F11 B2 B_len B_sum B_zip gU ⟨eCU⟩).mono (by decide),b11,k11,m11⟩
 have B25:Fns l.prog w K mg base ["prices","weights","pairs"] "_law_walked" spWk 110:=⟨_,_,(ok_wk F25 B_len B_sum).mono (by decide),b25,k25,m25⟩
 have B26:Fns l.prog w K mg base ["code","letters","prices","weights"] "_law_good" spGd 111:=⟨_,_,(ok_gd F26 B17 B19 B12 B15 (B8.up (by decide)) (B7.up (by decide)) B11 B25 B_len B_tuple B_sum).mono (by decide),b26,k26,m26⟩
 have B22:Fns l.prog w K mg base ["script","k"] "_law_cell_at" (a9p K) 111:=⟨_,_,(b2S F22 B_len).mono (by decide),b22,k22,m22⟩
 have B23:Fns l.prog w K mg base ["cell"] "_law_amount" K18D.a4k 111:=⟨_,_,(K18D.a9L F23).mono (by decide),b23,k23,m23⟩
 have B24:Fns l.prog w K mg base ["cells","letters","most","lone"] "_law_grown" (a5F K) 111:=⟨_,_,(b1b F24 B_len B_range).mono (by decide),b24,k24,m24⟩
 exact ok_law F27 B22 B23 B24 B26 B17x B_len B_range B_tuple B_list B_reversed
theorem walk {l:PySem.W.OpenLaw} {q:Program} {loose:List Str} {XP:(Str→Option Value)→Heap→Prop} {YP:World→Heap→Prop} {d:DefRec} {K:Params→PySem.W.Frag} (hn:l.most=some 63) (hdf:d.params.defaults=[])
  (hY:∀ (w:World) (h:Heap),YP w h→(K w.params).In h)
  (F:∀ (w:World) (mg:Str→Option Value) (fa:Addr) (h:Heap),(K w.params).In h→h.Ns mainGlobals mg→mg d.name=some (.ref fa) →
   ∃ fd:FuncData,(∀ (s:Shared) (u:Value),BindsTo s fd ⟨[u],[]⟩ [("script",u)])∧∀ base:Heap,(K w.params).In base→base.Ns mainGlobals mg→a1c l.prog w (K w.params) mg base CX0 112 fa fd ["script"] (b1s (K w.params))) :
  PySem.W.WalkO q loose XP YP l.row.toRowW d [] (fun f vs=>PySem.call f vs) :=
 L2.b2n (n:=63) (k:=112) (x:="script") (CX:=fun _=>CX0) (sp:=fun w=>b1s (K w.params)) hn (by decide) hdf ⟨rfl,by decide,by decide⟩ hY F (fun _ _ a ns hl _ hS=>⟨a,ns,rfl,hS,hl,fun _=>rfl⟩) fun _ _ _ _ _ z=>z
end K18
namespace PySem.W.Fast
def tw6435259907773496680:=0
def tw13359361116420637726:=0
def tw7285667626577281029:=0
def tw14822542170147640301:=0
def tw10185633960174938166:=0
def tw3260315283073990707:=0
def tw1405946963197023250:=0
def tw9093350229184317879:=0
def tw4344963189969435763:=0
def tw1622102539095333981:=0
def tw10174928389223908007:=0
def tw15519654368294626580:=0
def tw10971010493597981072:=0
def tw13578096923324559702:=0
def tw4524478516269842278:=0
def tw15706334541518939749:=0
def tw15344421254381518780:=0
def tw3925991779485264782:=0
def tw16920759992225700142:=0
def tw15262374373509649031:=0
def tw5723172800721293791:=0
def tw4348968380382201323:=0
def tw1134541054827897105:=0
def tw9952623486207467819:=0
def tw4289041703755671588:=0
def tw4884247207156461693:=0
def tw16845487855220580043:=0
def tw12557534278552066278:=0
def tw16234777533367596832:=0
def tw16633122132932033168:=0
def tw13821157095944963601:=0
def tw5655225581299307903:=0
def tw14464394229266871857:=0
def tw10400532358254323663:=0
def tw11592150709609247707:=0
def tw8221545915955157148:=0
def tw7168510083887865653:=0
def tw9898737597164262265:=0
def tw14583188873340996748:=0
def tw12964933884214192154:=0
def tw4446618676408093190:=0
def tw7461659531582767706:=0
def tw8845209281798053019:=0
def tw7026170221019700488:=0
def tw5499023139227840426:=0
def tw7783291931889489169:=0
def tw16980738940036441382:=0
def tw6974231143300480725:=0
def tw2106120392768889595:=0
def tw2299311468647127888:=0
def tw7680568951742649995:=0
def tw17078769608048977363:=0
def tw12136449045575609849:=0
def tw4524254598373108525:=0
def tw8954432608922991883:=0
def tw8886112974150629772:=0
def tw3759159925687962215:=0
def tw10213506586958251096:=0
def tw14195182224676356791:=0
def tw2345286111675724606:=0
def tw6726520683398500166:=0
def tw5983637446925856202:=0
def tw1308468059493191162:=0
def tw7414057774455121137:=0
def tw4587580590309133686:=0
def tw4327380061820329264:=0
def tw8891968669558849050:=0
def tw16862213173803988564:=0
def tw5677944435499759323:=0
def tw6017017685382409264:=0
def tw10316407488965511166:=0
def tw6209759497257388459:=0
def tw16747900106819697140:=0
def tw13908979970448259800:=0
def tw2600577038070143032:=0
def tw7741933658427603618:=0
def tw3559575746959487267:=0
def tw17115539639290437000:=0
def tw18372235938625457580:=0
def tw8493325524509521825:=0
def tw7741308893509027485:=0
def tw3659239032089528761:=0
def tw15965255069420586318:=0
def tw12872551539098397012:=0
def tw4315006002295718712:=0
def tw5404570641730013258:=0
def tw7069983900543697468:=0
def tw14444350281739880216:=0
def tw4369201729490609152:=0
def tw8973321909628253205:=0
def tw3176266446986670997:=0
def tw11338154070476546965:=0
def tw9548373432217680955:=0
def tw8196025274230485069:=0
def tw12637365279017409065:=0
def tw15018806495154324740:=0
def tw17948069330717719633:=0
def tw10720872371924449355:=0
def tw13839492819372306694:=0
def tw6132037973762097812:=0
def tw7507711468020390795:=0
def tw2167851125284295376:=0
def tw11923821662112035381:=0
def tw9980371771488482031:=0
def tw8064750594177249310:=0
def tw17937055881802022708:=0
def tw7508176157329157631:=0
def tw633983528402658205:=0
def tw10988418457282719471:=0
def tw3074243051143091807:=0
def tw16234272638325074117:=0
def tw7606053354377018533:=0
def tw12284327501405998962:=0
def tw14095748293044143005:=0
def tw468378644795134430:=0
def tw8846543963233491549:=0
def tw12923135822335208249:=0
def tw474373680637477421:=0
def tw3149688877966355311:=0
def tw17949287645924308684:=0
def tw12842654961170071843:=0
def tw455402599501292691:=0
def tw7712258149264007773:=0
def tw11173363978748045565:=0
def tw6381830172036475931:=0
def tw16999375476914324371:=0
def tw8342600619489445728:=0
def tw15350147719602670753:=0
def tw11767669050579081140:=0
def tw11146180681131823799:=0
def tw3470560479265045682:=0
def tw11274199955253226419:=0
def tw15534286444601226312:=0
def tw462481495442310269:=0
def tw1160495778592865874:=0
def tw17652475205447186676:=0
def tw6724239188365955402:=0
def tw15601065170024458527:=0
def tw6322530914450115716:=0
def tw18274709535797831303:=0
def tw9455145566097588108:=0
def tw14748700359823043285:=0
def tw9056408875105695742:=0
def tw11844723372538762259:=0
def tw14215220785976184040:=0
def tw11606382636455305756:=0
def tw7716425348316630615:=0
def tw6709560488114522984:=0
def tw14706950880449156264:=0
def tw16790181357377385861:=0
end PySem.W.Fast
open PySem PySem.W PyProof.Rows
set_option maxRecDepth 100000 in
set_option maxHeartbeats 0 in
theorem PySem.Challenge.cw_lettertoll_k18_whole_spellings_and_costs_holds : PySem.Challenge.rw_lettertoll_k18_whole_spellings_and_costs.Holds := by
 w_on;o_law;k_head;(case hw=>w_witness2)
 k_fill
 refine K18.walk (l:=PySem.Challenge.rw_lettertoll_k18_whole_spellings_and_costs) rfl rfl (fun w h Y=>PySem.W.kIn_of Y) ?F
 case F =>
  intro w mg fa h KX G hmg
  refine' K18.all_mk KX G hmg ?a1 ?l1 ?c1 ?k1 ?a2 ?l2 ?c2 ?k2 ?a3 ?l3 ?c3 ?k3 ?a4 ?l4 ?c4 ?k4 ?a5 ?l5 ?c5 ?k5 ?a6 ?l6 ?c6 ?k6 ?a7 ?l7 ?c7 ?k7 ?a8 ?l8 ?c8 ?k8 ?a9 ?l9 ?c9 ?k9 ?a10 ?l10 ?c10 ?k10 ?a11 ?l11 ?c11 ?k11 ?a12 ?l12 ?c12 ?k12 ?a13 ?l13 ?c13 ?k13 ?a14 ?l14 ?c14 ?k14 ?a15 ?l15 ?c15 ?k15 ?a16 ?l16 ?c16 ?k16 ?a17 ?l17 ?c17 ?k17 ?a18 ?l18 ?c18 ?k18 ?a19 ?l19 ?c19 ?k19 ?a20 ?l20 ?c20 ?k20 ?a21 ?l21 ?c21 ?k21 ?a22 ?l22 ?c22 ?k22 ?a23 ?l23 ?c23 ?k23 ?a24 ?l24 ?c24 ?k24 ?a25 ?l25 ?c25 ?k25 ?a26 ?l26 ?c26 ?k26 ?a27 ?l27 ?c27 ?k27 ?z1 ?z2 ?z3 ?z4 ?z5 ?z6 ?z7 ?z8 ?z9 ?z10 ?z11 ?z12 ?z13 ?z14 ?gCC ?xCC ?gCU ?xCU ?eCU ?gCB ?xCB ?eCB ?gCS ?xCS ?eCS ?fi88 ?xi88 ?li88 ?ci88 ?kki88 ?es88 ?kc88 ?na88one ?na88other
  (case a1=>k_is);(case l1=>k_is);(case c1=>k_is);(case k1=>k_is)
  (case a2=>k_is);(case l2=>k_is);(case c2=>k_is);(case k2=>k_is)
  (case a3=>k_is);(case l3=>k_is);(case c3=>k_is);(case k3=>k_is)
  (case a4=>k_is);(case l4=>k_is);(case c4=>k_is);(case k4=>k_is)
  (case a5=>k_is);(case l5=>k_is);(case c5=>k_is);(case k5=>k_is)
  (case a6=>k_is);(case l6=>k_is);(case c6=>k_is);(case k6=>k_is)
  (case a7=>k_is);(case l7=>k_is);(case c7=>k_is);(case k7=>k_is)
  (case a8=>k_is);(case l8=>k_is);(case c8=>k_is);(case k8=>k_is)
  (case a9=>k_is);(case l9=>k_is);(case c9=>k_is);(case k9=>k_is)
  (case a10=>k_is);(case l10=>k_is);(case c10=>k_is);(case k10=>k_is)
  (case a11=>k_is);(case l11=>k_is);(case c11=>k_is);(case k11=>k_is)
  (case a12=>k_is);(case l12=>k_is);(case c12=>k_is);(case k12=>k_is)
  (case a13=>k_is);(case l13=>k_is);(case c13=>k_is);(case k13=>k_is)
  (case a14=>k_is);(case l14=>k_is);(case c14=>k_is);(case k14=>k_is)
  (case a15=>k_is);(case l15=>k_is);(case c15=>k_is);(case k15=>k_is)
  (case a16=>k_is);(case l16=>k_is);(case c16=>k_is);(case k16=>k_is)
  (case a17=>k_is);(case l17=>k_is);(case c17=>k_is);(case k17=>k_is)
  (case a18=>k_is);(case l18=>k_is);(case c18=>k_is);(case k18=>k_is)
  (case a19=>k_is);(case l19=>k_is);(case c19=>k_is);(case k19=>k_is)
  (case a20=>k_is);(case l20=>k_is);(case c20=>k_is);(case k20=>k_is)
  (case a21=>k_is);(case l21=>k_is);(case c21=>k_is);(case k21=>k_is)
  (case a22=>k_is);(case l22=>k_is);(case c22=>k_is);(case k22=>k_is)
  (case a23=>k_is);(case l23=>k_is);(case c23=>k_is);(case k23=>k_is)
  (case a24=>k_is);(case l24=>k_is);(case c24=>k_is);(case k24=>k_is)
  (case a25=>k_is);(case l25=>k_is);(case c25=>k_is);(case k25=>k_is)
  (case a26=>k_is);(case l26=>k_is);(case c26=>k_is);(case k26=>k_is)
  (case a27=>k_is);(case l27=>k_is);(case c27=>k_is);(case k27=>k_is)
  (case z1=>k_is)
  (case z2=>k_is)
  (case z3=>k_is)
  (case z4=>k_is)
  (case z5=>k_is)
  (case z6=>k_is)
  (case z7=>k_is)
  (case z8=>k_is)
  (case z9=>k_is)
  (case z10=>k_is)
  (case z11=>k_is)
  (case z12=>k_is)
  (case z13=>k_is)
  (case z14=>k_is)
  (case gCC=>k_is)
  (case xCC=>kernel_rfl)
  (case gCU=>k_is)
  (case xCU=>kernel_rfl)
  (case eCU=>kernel_rfl)
  (case gCB=>k_is)
  (case xCB=>kernel_rfl)
  (case eCB=>kernel_rfl)
  (case gCS=>k_is)
  (case xCS=>kernel_rfl)
  (case eCS=>kernel_rfl)
  (case fi88=>k_is)
  (case xi88=>kernel_rfl)
  (case li88=>k_is)
  (case ci88=>k_is)
  (case kki88=>k_is)
  (case es88=>kernel_rfl)
  (case kc88=>k_is)
  (case na88one=>k_is)
  (case na88other=>k_is)
