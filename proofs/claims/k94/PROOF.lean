import PyProof.Rows.All
import Wide.All
import KE.KNestM
import KE.KLam
import OpenK.KOwn
import KE.KItem
import KE.KFromBytes
import KE.KDictList
import KE.KIsAll
import KE.KMinBuiltin
import KE.KRevIter
import KE.KDictOf
import KE.KxBytes
import KE.KSortTup
import KE.KSortAsk
import Wide.FinOn
import Lean
import PyProof.EqAt
import PyProof.EqKinds
import PyProof.TupleCall
import PyProof.NeKinds
import PyProof.ConsumeWalk
import PyProof.SumAny
import PyProof.Rows.SumGenD
import KE.KIntText
import KE.IntTextLaws
import PyProof.Rows.FStr
import PyProof.Rows.StrNews
import PyProof.StrLawsTight
import PyProof.StrWalks
import PyProof.StrLawsIn
import PyProof.ZipIter
import PyProof.EnumMake
import KE.IntBitsLaws
import PyProof.WalkInts
import PyProof.MinMaxWalk
import PyProof.TupleOfSeq
import PyProof.Rows.SortShell
import PyProof.WalksS
import PyProof.SeqWrite
import PyProof.Rows.Range3
import PyProof.Rows.StrBin
import PyProof.StrOps2
import PySem.Challenge.RW_lettertoll_k94_desks_changed_and_refused
set_option Elab.async false
set_option linter.all false
set_option maxRecDepth 100000
set_option maxHeartbeats 16000000
namespace L2
open PySem PySem.Spec PyProof.Rows
abbrev Key:=Sum Int Str
def keyIs:Key->Value->Bool
 | .inl k,v=>Value.isInt k v
 | .inr x,v=>Value.isStrOf x v
def keyH (w:World):Key->Int
 | .inl k=>hashInt k
 | .inr x=>hashStr w x
theorem a1d:∀ {k:Key} {v:Value},keyIs k v=true->(∃ i t,k=Sum.inl i/\v=Value.int i t)\/(∃ x t,k=Sum.inr x/\v=Value.str x t)
 | .inl i,v,h=>by
  obtain ⟨t,e⟩:=Value.isInt_shape (k:=i) (v:=v) h;exact .inl ⟨i,t,rfl,e⟩
 | .inr x,v,h=>by
  obtain ⟨t,e⟩:=Value.isStrOf_shape (x:=x) (v:=v) h;exact .inr ⟨x,t,rfl,e⟩
theorem key_ll (a b:Int):decide ((Sum.inl a:Key)=Sum.inl b)=(a == b):=by
 by_cases e:a=b
 ·subst e;simp
 ·have h:¬ (Sum.inl a:Key)=Sum.inl b:=λq=>e (Sum.inl.inj q);rw [decide_eq_false h];exact (beq_eq_false_iff_ne.mpr e).symm
theorem key_rr (a b:Str):decide ((Sum.inr a:Key)=Sum.inr b)=decide (a=b):=by
 by_cases e:a=b
 ·subst e;simp
 ·have h:¬ (Sum.inr a:Key)=Sum.inr b:=λq=>e (Sum.inr.inj q);rw [decide_eq_false h,decide_eq_false e]
theorem key_lr (a:Int) (b:Str):decide ((Sum.inl a:Key)=Sum.inr b)=false:=decide_eq_false (λq=>nomatch q)
theorem key_rl (a:Str) (b:Int):decide ((Sum.inr a:Key)=Sum.inl b)=false:=decide_eq_false (λq=>nomatch q)
def a7w (prog:Program) (w:World):PySem.KeyKind prog w Key where
 is:=keyIs
 hash:=keyH w
 inj:=λv a b ha hb=>by
  rcases a1d ha with ⟨i,t,rfl,rfl⟩ | ⟨x,t,rfl,rfl⟩
  ·rcases a1d hb with ⟨j,u,rfl,e⟩ | ⟨y,u,rfl,e⟩
   ·injection e with e1 _;rw [e1]
   ·exact nomatch e
  ·rcases a1d hb with ⟨j,u,rfl,e⟩ | ⟨y,u,rfl,e⟩
   ·exact nomatch e
   ·injection e with e1 _;rw [e1]
 byValue:=λk v h=>by
  rcases a1d h with ⟨i,t,rfl,rfl⟩ | ⟨x,t,rfl,rfl⟩ <;> rfl
 pyHash:=λhv h=>by
  rcases a1d hv with ⟨i,t,rfl,rfl⟩ | ⟨x,t,rfl,rfl⟩
  ·exact wpAny_pyHash_int h
  ·exact wpAny_pyHash_str h
 eqBool:=λhu hv h=>by
  rcases a1d hu with ⟨i,t,rfl,rfl⟩ | ⟨x,t,rfl,rfl⟩
  ·rcases a1d hv with ⟨j,u,rfl,rfl⟩ | ⟨y,u,rfl,rfl⟩
   ·rw [key_ll] at h;exact wpAny_eqBool_int h
   ·rw [key_lr] at h;exact SeqAt.EqAt.int_str i t y u _ _ _ _ h
  ·rcases a1d hv with ⟨j,u,rfl,rfl⟩ | ⟨y,u,rfl,rfl⟩
   ·rw [key_rl] at h;exact SeqAt.EqAt.str_int x t j u _ _ _ _ h
   ·rw [key_rr] at h;exact wpAny_eqBool_str h
 «strs»:=λk x t v h=>by
  rcases a1d h with ⟨i,u,rfl,e⟩ | ⟨y,u,rfl,e⟩
  ·exact nomatch e
  ·injection e with e1 _;subst e1;cases v <;> rfl
inductive V where
 | non | bl (b:Bool) | int (i:Int) | str (x:Str) | byt (b:Array UInt8) | flt (b:UInt64) | ref (a:Addr) | ty (n:String)
 deriving DecidableEq
def a1u:V->Value->Prop
 | .non,u=>u=Value.none
 | .bl b,u=>u=Value.bool b
 | .int i,u=>∃ t,u=Value.int i t
 | .str x,u=>∃ t,u=Value.str x t
 | .byt b,u=>∃ t,u=Value.bytes b t
 | .flt b,u=>∃ t,u=Value.float b t
 | .ref a,u=>u=Value.ref a
 | .ty n,u=>u=Value.type n
abbrev a0U:List V->List Value->Prop:=Paired a1u
theorem a0U.length {xs:List V} {us:List Value} (r:a0U xs us):xs.length=us.length:=Paired.length r
theorem a0U.get:∀ {xs:List V} {us:List Value} {i:Nat} {x:V},a0U xs us->xs[i]?=some x->∃ u,us[i]?=some u/\a1u x u
 | _,_,_,_,.nil,e=>by simp at e
 | _,_,0,_,.cons r _,e=>by simp at e;subst e;exact ⟨_,rfl,r⟩
 | _,_,i+1,x,.cons _ t,e=>by
  obtain ⟨u,h1,h2⟩:=a0U.get (i:=i) (x:=x) t (by simpa using e);exact ⟨u,by simpa using h1,h2⟩
theorem a0U.set {x:V} {u:Value} (r:a1u x u):∀ {xs:List V} {us:List Value} (i:Nat),a0U xs us->a0U (xs.set i x) (us.set i u)
 | _,_,_,.nil=>.nil
 | _,_,0,.cons _ t=>.cons r t
 | _,_,i+1,.cons q t=>.cons q (a0U.set r i t)
theorem a0U.append:∀ {xs ys:List V} {us ws:List Value},a0U xs us->a0U ys ws->a0U (xs++ys) (us++ws)
 | _,_,_,_,.nil,s=>s
 | _,_,_,_,.cons r t,s=>.cons r (a0U.append t s)
theorem a0U.take:∀ {xs:List V} {us:List Value} (n:Nat),a0U xs us->a0U (xs.take n) (us.take n)
 | _,_,0,_=>.nil
 | _,_,_+1,.nil=>.nil
 | _,_,n+1,.cons r t=>.cons r (a0U.take n t)
theorem a0U.drop:∀ {xs:List V} {us:List Value} (n:Nat),a0U xs us->a0U (xs.drop n) (us.drop n)
 | _,_,0,r=>r
 | _,_,_+1,.nil=>.nil
 | _,_,n+1,.cons _ t=>a0U.drop n t
def a9B:Option V->Option Value->Prop
 | some v,some u=>a1u v u
 | none,none=>True
 | _,_=>False
def KV {κ:Type}:List (κ × V)->List (κ × Value)->Prop:=Paired λ(p:κ × V) (q:κ × Value)=>p.1=q.1/\a1u p.2 q.2
def kV:Key->V
 | .inl i=>.int i
 | .inr x=>.str x
inductive HO where
 | lst (xs:List V)
 | tup (xs:List V)
 | dK (kvs:List (Key × V)) | dT (kvs:List (List Key × V))
 | set (S:Int->Bool) (n:Nat)
 | ins (C dx:Addr) (fs:List (Str × V))
 | own (x:Addr)
 | xd (fs:List (Str × V))
 | met (f x:Addr)
 | rng (lo hi:Int)
 | frz (o:Obj) (u:HO)
 | tbl (ps:Array Value)
 | ext (φ:Heap->Prop)
abbrev Hp:=Addr->Option HO
def upd (H:Hp) (a:Addr) (o:HO):Hp:=λb=>if b=a then some o else H b
theorem a0b {H:Hp} {a:Addr} {o:HO}:upd H a o a=some o:=by unfold upd;rw [if_pos rfl]
theorem a0j {H:Hp} {a b:Addr} {o:HO} (h:b≠a):upd H a o b=H b:=by unfold upd;rw [if_neg h]
theorem a0I {H:Hp} {a b:Addr} {o u:HO} (h:H a=some o) (h':H b=some u) (d:o≠u):a≠b:=by
 intro e;subst e;rw [h] at h';exact d (Option.some.inj h')
theorem a0V {H:Hp} {a b:Addr} {o:HO} (h:H a=some o) (h':H b=none):a≠b:=by
 intro e;subst e;rw [h] at h';cases h'
def a5d (h:Heap) (a:Addr) (items:Array Value):Prop:=∃ o,h.get? a=some o/\∃ n,o={ cls:=.type "tuple",data:=.seq items n }
theorem a5d.is {h:Heap} {a:Addr} {items:Array Value} (x:a5d h a items):IsTup h a items:=by
 obtain ⟨o,e,n,rfl⟩:=x;exact ⟨_,e,rfl,n,rfl⟩
instance {h:Heap} {a:Addr} {items:Array Value}:Coe (a5d h a items) (IsTup h a items):=⟨a5d.is⟩
instance {h:Heap} {a:Addr} {items:Array Value}:Coe (a5d h a items) (Heap.IsTuple h a items):=⟨λx=>x.is⟩
theorem a5d.lt {h:Heap} {a:Addr} {items:Array Value} (x:a5d h a items):a < h.objs.size:=x.is.lt
theorem a5d.new (h:Heap) (items:Array Value):a5d (h.push { cls:=.type "tuple",data:=.seq items }) h.objs.size items:=⟨_,Heap.get?_push_size _ rfl,_,rfl⟩
section
variable (P:Program) (w:World)
def a1T (H:Hp) (h:Heap) (a:Addr):HO->Prop
 | .lst xs=>xs.length<=sizeLine/\∃ (its:List Value) (n:Nat),a0U xs its/\h.get? a=some { cls:=.type "list",data:=.seq its.toArray n }
 | .tup xs=>xs.length<=sizeLine/\∃ its:List Value,a0U xs its/\a5d h a its.toArray
 | .dK kvs=>kvs.length<=sizeLine/\(a == sysModules)=false/\∃ vs,KV kvs vs/\h.DictOf (a7w P w) a vs
 | .dT kvs=>kvs.length<=sizeLine/\(a == sysModules)=false/\∃ xs:List (List Key × Addr × Value),
   Paired (λ(p:List Key × V) (q:List Key × Addr × Value)=>p.1=q.1/\H q.2.1=some (.tup (p.1.map kV))/\a1u p.2 q.2.2) kvs xs /\
   ∃ o es ep,h.get? a=some o/\o.ExactDict/\o.data=.dict es ep/\es.toList=xs.map (entryOfKey (tupleKind (a7w P w)))/\(xs.map (·.1)).Nodup
 | .set S n=>h.SetOf (intKind P w) a S n
 | .ins C dx fs=>H dx=some (.own a)/\fs.length<=1000/\dx≠a/\h.get? a=some (PySem.W.instObj C dx) /\
   ∃ mA,h.Ns1 dx mA/\(∀ f,a9B (fs.lookup f) (mA f))/\PySem.Within mA (fs.map (·.1))
 | .own _=>∃ o,h.get? a=some o
 | .xd fs=>∃ mA,h.Ns1 a mA/\∀ f,a9B (fs.lookup f) (mA f)
 | .rng lo hi=>∃ t u v,h.get? a=some { cls:=.type "range",data:=.fields #[.int lo t,.int hi u,.int 1 v] }
 | .frz o u=>h.get? a=some o/\a1T H h a u
 | .tbl ps=>h.get? a=some { cls:=.none,data:=.fields ps }
 | .met f x=>h.get? a=some (PySem.W.methodObj (.ref f) (.ref x))
 | .ext φ=>φ h/\(∃ o,h.get? a=some o)/\∀ h1 h2:Heap,φ h1->(∀ o,h1.get? a=some o->h2.get? a=some o)->φ h2
def HOk (H:Hp) (h:Heap):Prop:=∀ a o,H a=some o->a1T P w H h a o
end
section
variable {P:Program} {w:World} {H H':Hp} {h h':Heap} {a:Addr} {o:HO}
theorem a1T.lt (x:a1T P w H h a o):a < h.objs.size:=by
 cases o with
 | lst xs=>obtain ⟨_,_,_,_,e⟩:=x;exact Heap.lt_size e
 | tup xs=>obtain ⟨_,_,_,p⟩:=x;exact p.lt
 | dK kvs=>obtain ⟨_,_,_,_,o,_,_,e,_⟩:=x;exact Heap.lt_size e
 | dT kvs=>obtain ⟨_,_,_,_,o,_,_,e,_⟩:=x;exact Heap.lt_size e
 | set S n=>obtain ⟨o,_,_,_,e,_⟩:=x;exact Heap.lt_size e
 | ins C dx fs=>obtain ⟨_,_,_,e,_⟩:=x;exact Heap.lt_size e
 | own y=>obtain ⟨_,e⟩:=x;exact Heap.lt_size e
 | xd fs=>obtain ⟨_,⟨_,_,_,e,_⟩,_⟩:=x;exact Heap.lt_size e
 | rng lo hi=>obtain ⟨_,_,_,e⟩:=x;exact Heap.lt_size e
 | frz ob u=>obtain ⟨e,_⟩:=x;exact Heap.lt_size e
 | tbl ps=>exact Heap.lt_size (show h.get? a=some _ from x)
 | met f y=>exact Heap.lt_size (show h.get? a=some _ from x)
 | ext φ=>obtain ⟨_,⟨_,e⟩,_⟩:=x;exact Heap.lt_size e
theorem Paired.mapP {α β:Type} {F G:α->β->Prop}:∀ {l₁:List α} {l₂:List β},Paired F l₁ l₂->(∀ a b,F a b->G a b)->Paired G l₁ l₂
 | _,_,.nil,_=>.nil
 | _,_,.cons r t,f=>.cons (f _ _ r) (Paired.mapP t f)
theorem a1T.stay (x:a1T P w H h a o) (k:∀ b u,(b=a\/H b=some (.own a))->h.get? b=some u->h'.get? b=some u)
  (ho:∀ b,H b=some (.own a)->H' b=some (.own a)) (ht:∀ b xs,H b=some (.tup xs)->H' b=some (.tup xs)):a1T P w H' h' a o:=by
 induction o with
 | lst xs=>obtain ⟨z,its,n,r,e⟩:=x;exact ⟨z,its,n,r,k _ _ (.inl rfl) e⟩
 | tup xs=>obtain ⟨z,its,r,ob,e,c⟩:=x;exact ⟨z,its,r,ob,k _ _ (.inl rfl) e,c⟩
 | dK kvs=>obtain ⟨z,y,vs,r,ob,es,ep,e,c⟩:=x;exact ⟨z,y,vs,r,ob,es,ep,k _ _ (.inl rfl) e,c⟩
 | dT kvs =>
  obtain ⟨z,y,xs,r,ob,es,ep,e,c⟩:=x;exact ⟨z,y,xs,Paired.mapP r λp q z=>⟨z.1,ht _ _ z.2.1,z.2.2⟩,ob,es,ep,k _ _ (.inl rfl) e,c⟩
 | set S n=>obtain ⟨ob,es,ep,t,e,c⟩:=x;exact ⟨ob,es,ep,t,k _ _ (.inl rfl) e,c⟩
 | ins C dx fs =>
  obtain ⟨d,z,ne,e,mA,⟨od,es,ep,e2,c⟩,r⟩:=x;exact ⟨ho _ d,z,ne,k _ _ (.inl rfl) e,mA,⟨od,es,ep,k _ _ (.inr d) e2,c⟩,r⟩
 | own y=>obtain ⟨ob,e⟩:=x;exact ⟨ob,k _ _ (.inl rfl) e⟩
 | xd fs=>obtain ⟨mA,⟨od,es,ep,e,c⟩,r⟩:=x;exact ⟨mA,⟨od,es,ep,k _ _ (.inl rfl) e,c⟩,r⟩
 | rng lo hi=>obtain ⟨t,u,v,e⟩:=x;exact ⟨t,u,v,k _ _ (.inl rfl) e⟩
 | frz ob u ih=>obtain ⟨e,q⟩:=x;exact ⟨k _ _ (.inl rfl) e,ih q⟩
 | tbl ps =>
  have e:h.get? a=some { cls:=.none,data:=.fields ps }:=x;show h'.get? a=some { cls:=.none,data:=.fields ps };exact k a _ (.inl rfl) e
 | met f y =>
  have e:h.get? a=some (PySem.W.methodObj (.ref f) (.ref y)):=x;show h'.get? a=some (PySem.W.methodObj (.ref f) (.ref y));exact k a _ (.inl rfl) e
 | ext φ=>obtain ⟨p,⟨o,e⟩,st⟩:=x;exact ⟨st _ _ p λo q=>k _ _ (.inl rfl) q,⟨o,k _ _ (.inl rfl) e⟩,st⟩
theorem HOk.lt (x:HOk P w H h) (e:H a=some o):a < h.objs.size:=(x a o e).lt
theorem HOk.fresh (x:HOk P w H h) (e:h.objs.size<=a):H a=none:=by
 cases q:H a with
 | none=>rfl
 | some u=>exact absurd (Nat.lt_of_lt_of_le (x.lt q) e) (Nat.lt_irrefl _)
theorem HOk.kept (x:HOk P w H h) (k:∀ b u,h.get? b=some u->h'.get? b=some u):HOk P w H h':=λa o e =>
 (x a o e).stay (λb u _ q=>k b u q) (λ_ q=>q) λ_ _ q=>q
theorem HOk.laid (x:HOk P w H h) (k:∀ b u,h.get? b=some u->h'.get? b=some u) (hp:h.objs.size<=a) (new:a1T P w (upd H a o) h' a o):HOk P w (upd H a o) h':=λb u e=>by
 have hn:=x.fresh hp;by_cases hb:b=a
 ·subst hb;rw [a0b] at e;cases e;exact new
 ·rw [a0j hb] at e;exact (x b u e).stay (λc v _ q=>k c v q) (λc q=>by rw [a0j (a0V q hn)];exact q) λc xs q=>by rw [a0j (a0V q hn)];exact q
end
def Rd (H:Hp) (a:Addr) (u:HO):Prop:=H a=some u\/∃ o,H a=some (.frz o u)
theorem Rd.ok {P:Program} {w:World} {H:Hp} {h:Heap} {a:Addr} {u:HO} (r:Rd H a u) (x:HOk P w H h):a1T P w H h a u:=by
 rcases r with r | ⟨o,r⟩
 ·exact x a u r
 ·obtain ⟨_,q⟩:=x a _ r;exact q
def Mut:Option HO->Prop
 | some (.lst _)=>True
 | some (.dK _)=>True
 | some (.dT _)=>True
 | some (.set _ _)=>True
 | some (.ins _ _ _)=>True
 | some (.ext _)=>True
 | _=>False
section
variable {P:Program} {w:World} {H:Hp} {h h':Heap} {x e:Addr} {o':HO}
theorem HOk.write (ok:HOk P w H h) (mu:Mut (H x)) (he:e=x\/H e=some (.own x)) (k:∀ b u,b≠e->h.get? b=some u->h'.get? b=some u) (heo:∃ u,h'.get? e=some u)
  (new:a1T P w (upd H x o') h' x o'):HOk P w (upd H x o') h':=λb u q=>by
 have nown:∀ c y,H c=some (.own y)->c≠x:=λc y r z=>by subst z;rw [r] at mu;exact mu
 have ntup:∀ c xs,H c=some (.tup xs)->c≠x:=λc xs r z=>by subst z;rw [r] at mu;exact mu
 by_cases hb:b=x
 ·subst hb;rw [a0b] at q;cases q;exact new
 ·rw [a0j hb] at q;by_cases hbe:b=e
  ·have q':H b=some (.own x):=by
    rcases he with z | z
    ·exact absurd (hbe.trans z) hb
    ·rw [hbe];exact z
   rw [q] at q';cases q';obtain ⟨v,hv⟩:=heo;exact ⟨v,by rw [hbe];exact hv⟩
  ·refine (ok b u q).stay (λc v hc r=>k c v ?_ r) (λc r=>by rw [a0j (nown c b r)];exact r) λc xs r=>by rw [a0j (ntup c xs r)];exact r
   rcases hc with rfl | hc
   ·exact hbe
   ·rintro rfl;rcases he with z | z
    ·exact nown c b hc z
    ·rw [hc] at z;cases z;exact hb rfl
end
structure Un (fs ex:List Addr) (H H':Hp) (h h':Heap):Prop where
 keep:∀ b o,h.get? b=some o->H b=none->b∉fs->b∉ex->h'.get? b=some o
 slot:∀ b o,h.get? b=some o->H b=none->b∈fs->b∉ex->∃ sl,h'.get? b=some { o with slots:=sl }
 free:∀ b o,h.get? b=some o->H b=none->b∉ex->H' b=none
 there:∀ b o,h.get? b=some o->b∉ex->∃ o',h'.get? b=some o'
 tups:∀ b xs,H b=some (.tup xs)->H' b=some (.tup xs)
 frzs:∀ b o u,H b=some (.frz o u)->H' b=some (.frz o u)
 tbls:∀ b ps,H b=some (.tbl ps)->∃ more,H' b=some (.tbl (ps++more))
section
variable {fs fs' ex ex':List Addr} {H H1 H2:Hp} {h h1 h2 h':Heap} {a x e:Addr} {o:HO}
theorem Un.any (u:Un fs ex H H1 h h1) {b:Addr} {ob:Obj} (q:h.get? b=some ob) (n:H b=none) (hx:b∉ex):∃ sl,h1.get? b=some { ob with slots:=sl }:=by
 by_cases hb:b∈fs
 ·exact u.slot b ob q n hb hx
 ·exact ⟨ob.slots,u.keep b ob q n hb hx⟩
theorem Un.kept (k:∀ b u,h.get? b=some u->h'.get? b=some u):Un fs ex H H h h' :=
 ⟨λb ob q _ _ _=>k b ob q,λb ob q _ _ _=>⟨ob.slots,k b ob q⟩,λ_ _ _ n _=>n,λb ob q _=>⟨ob,k b ob q⟩,λ_ _ q=>q,λ_ _ _ q=>q,λ_ ps q=>⟨#[],by rw [q];simp⟩⟩
theorem Un.refl:Un fs ex H H h h:=Un.kept λ_ _ q=>q
theorem Un.laid (k:∀ b u,h.get? b=some u->h'.get? b=some u) (hp:h.objs.size<=a) (hn:H a=none):Un fs ex H (upd H a o) h h' where
 keep:=λb u q _ _ _=>k b u q
 slot:=λb u q _ _ _=>⟨u.slots,k b u q⟩
 free:=λb u q n _=>by rw [a0j (Nat.ne_of_lt (Nat.lt_of_lt_of_le (Heap.lt_size q) hp))];exact n
 there:=λb u q _=>⟨u,k b u q⟩
 tups:=λb xs q=>by rw [a0j (a0V q hn)];exact q
 frzs:=λb u xs q=>by rw [a0j (a0V q hn)];exact q
 tbls:=λb ps q=>⟨#[],by rw [a0j (a0V q hn),q];simp⟩
theorem Un.write (mu:Mut (H x)) (he:e=x\/H e=some (.own x)) (k:∀ b u,b≠e->h.get? b=some u->h'.get? b=some u) (heo:∃ u,h'.get? e=some u):Un fs ex H (upd H x o) h h':=by
 have hx:∀ b,H b=none->b≠x:=λb n z=>by subst z;rw [n] at mu;exact mu
 have hb:∀ b,H b=none->b≠e:=λb n z=>by
  subst z;rcases he with r | r
  ·exact hx b n r
  ·rw [n] at r;cases r
 have hm:∀ b u,H b=some u->¬ Mut (some u)->b≠x:=λb u q nm z=>by subst z;rw [q] at mu;exact nm mu
 refine ⟨λb u q n _ _=>k b u (hb b n) q,λb u q n _ _=>⟨u.slots,k b u (hb b n) q⟩,λb u q n _=>by rw [a0j (hx b n)];exact n,λb u q _=>?_,
  λb xs q=>by rw [a0j (hm b _ q λz=>z)];exact q,λb u xs q=>by rw [a0j (hm b _ q λz=>z)];exact q,λb ps q=>⟨#[],by rw [a0j (hm b _ q λz=>z),q];simp⟩⟩
 by_cases hbe:b=e
 ·subst hbe;exact heo
 ·exact ⟨u,k b u hbe q⟩
end
def trk (h:Heap) (H:Hp):List Addr:=(List.range h.objs.size).filter λa=>(H a).isSome
def a9K (h:Heap) (H:Hp):Heap:=PySem.W.hideAll h (trk h H)
theorem a7x (h:Heap) (H:Hp):(a9K h H).objs.size=h.objs.size:=PySem.W.hideAll_size _ _
theorem a9L {h:Heap} {H:Hp} {b:Addr} {o:Obj} (e:h.get? b=some o) (n:H b=none):(a9K h H).get? b=some o :=
 PySem.W.hideAll_get _ e λhm=>by
  have q:(H b).isSome=true:=(List.mem_filter.mp hm).2;rw [n] at q;simp at q
theorem b1R {h:Heap} {H:Hp} {b:Addr} {o:Obj} (e:(a9K h H).get? b=some o):h.get? b=some o/\H b=none:=by
 have e':h.get? b=some o:=PySem.W.of_hideAll (trk h H) e;refine ⟨e',?_⟩;cases q:H b with
 | none=>rfl
 | some x =>
  have hm:b∈trk h H:=List.mem_filter.mpr ⟨List.mem_range.mpr (Heap.lt_size e'),by simp [q]⟩;have z:(a9K h H).get? b=none:=PySem.W.hideAll_none (trk h H) hm;rw [z] at e;cases e
def b1S (g h:Heap) (L:Addr):List (Addr × Obj):=(List.range h.objs.size).filterMap λa=>if a=L\/(g.get? a).isSome=true then none else (h.get? a).map λo=>(a,o)
def rest (g h:Heap) (L d:Addr):List (Addr × Obj):=(b1S g h L).filter λp=>decide (p.1≠d)
structure Mod (K:PySem.W.Frag) (mg:Str->Option Value) (base:Heap):Prop where
 kin:K.In base
 glob:base.Ns mainGlobals mg
 blt:∃ mb,base.Ns builtinsNs mb/\∀ x:Str,x≠"__name__"->mb x=bootBuiltins x
 nolimit:base.NoLimit
structure Cx where
 prog:Program
 w:World
 K:PySem.W.Frag
 mg:Str->Option Value
 base:Heap
 A:Around
 N:List Str
 s₀:Shared
 H₀:Hp
 env:Env
 outer:List Env
 stack:List Env
 ex:List Addr
 fn:Str->Bool
 calm:Bool
 pn:List (Addr × Obj)
 xe:Value->Shared->Prop
def frs (l:List Env):List Addr:=l.filterMap (·.frame)
abbrev Cx.fs (X:Cx):List Addr:=frs X.outer
def Vis (sc:Scope) (x:Str):Prop:=sc.names.lookup x=some .local\/sc.names.lookup x=some .cell\/sc.names.lookup x=some .free
def Loc (sc:Scope) (x:Str):Prop:=sc.names.lookup x=some .local\/sc.names.lookup x=some .cell
def Look (env:Env) (h:Heap) (m:Str->Option Value) (x:Str) (u:Value):Prop :=
 (env.kindOf x=some .local/\m x=some u)\/((env.kindOf x=some .cell\/env.kindOf x=some .free)/\∃ c,env.cells.lookup x=some c/\h.IsCell c (some u))
structure Cx.Ok (X:Cx):Prop where
 mod:Mod X.K X.mg X.base
 kind:X.env.scope.kind=.function
 glob:X.env.globals=mainGlobals
 blt:X.env.builtins=builtinsNs
 above:X.s₀.heap.objs.size<=X.env.locals
 inj:∀ x y c,X.env.cells.lookup x=some c->X.env.cells.lookup y=some c->x=y
 has:∀ x,(X.env.kindOf x=some .cell\/X.env.kindOf x=some .free)->∃ c,X.env.cells.lookup x=some c
 cab:∀ x c,X.fn x=true->X.env.cells.lookup x=some c->X.s₀.heap.objs.size<=c
 hd:X.calm=true->X.A.handled=none
 frames:X.A.frames=some X.stack
 stk:X.stack=X.outer\/(X.stack=X.env :: X.outer/\X.env.frame=some X.env.locals)
 exf:∀ b∈X.ex,b≠X.env.locals/\∀ x c,X.env.cells.lookup x=some c->c≠b
 bs:∀ b o,X.base.get? b=some o->X.s₀.heap.get? b=some o/\X.H₀ b=none
 bsz:X.base.objs.size<=X.s₀.heap.objs.size
 noex:∀ b o,X.base.get? b=some o->b∉X.ex
 exfs:∀ b∈X.ex,b∉X.fs
 funs:X.s₀.heap.FunFrames X.base X.outer
 frf:∀ b∈X.fs,X.H₀ b=none
structure Inv (X:Cx) (pins:List (Addr × Obj)) (σ:List (Option V)) (H:Hp) (s:Shared):Prop where
 ok:X.Ok
 os:s.os=X.s₀.os
 bare:AllBare s.gens
 base:Un X.fs X.ex X.H₀ H X.s₀.heap s.heap
 loc:∃ m,s.heap.Ns X.env.locals m/\∀ (i:Nat) (x:Str) (v:V),X.N[i]?=some x->σ[i]?=some (some v)->Vis X.env.scope x->∃ u,a1u v u/\Look X.env s.heap m x u
 cell:∀ x c,X.env.cells.lookup x=some c->∃ v,s.heap.IsCell c v
 free:H X.env.locals=none
 freeC:∀ x c,X.env.cells.lookup x=some c->H c=none
 pin:∀ p∈X.pn++pins,s.heap.get? p.1=some p.2/\H p.1=none/\p.1≠X.env.locals/\p.1∉X.fs/\∀ v,p.2.data≠.cell v
 hok:HOk X.prog X.w H s.heap
 len:σ.length=X.N.length
section
variable {X:Cx} {pins:List (Addr × Obj)} {σ:List (Option V)} {H H':Hp} {s:Shared} {h':Heap}
theorem Cx.Ok.nofr (ok:X.Ok) {b:Addr} {o:Obj} (e:X.base.get? b=some o):b∉X.fs:=λhb=>by
 have:=(ok.funs.mem hb).1;rw [e] at this;cases this
theorem Inv.bs (I:Inv X pins σ H s):∀ b o,X.base.get? b=some o->s.heap.get? b=some o/\H b=none:=λb o e =>
 ⟨I.base.keep b o (I.ok.bs b o e).1 (I.ok.bs b o e).2 (I.ok.nofr e) (I.ok.noex b o e),I.base.free b o (I.ok.bs b o e).1 (I.ok.bs b o e).2 (I.ok.noex b o e)⟩
theorem Inv.bk (I:Inv X pins σ H s):∀ b o,X.base.get? b=some o->s.heap.get? b=some o:=λb o e=>(I.bs b o e).1
theorem Inv.mod (I:Inv X pins σ H s):Mod X.K X.mg X.base:=I.ok.mod
theorem Inv.kIn (I:Inv X pins σ H s):X.K.In s.heap:=I.ok.mod.kin.keeps I.bk
theorem Inv.lt (I:Inv X pins σ H s):X.env.locals < s.heap.objs.size:=let ⟨_,hn,_⟩:=I.loc;hn.lt
theorem Inv.sz (I:Inv X pins σ H s):X.s₀.heap.objs.size<=s.heap.objs.size:=Nat.le_trans I.ok.above (Nat.le_of_lt I.lt)
theorem Inv.nofs (I:Inv X pins σ H s) {a:Addr} (h:s.heap.objs.size<=a):a∉X.fs:=λhb=>by
 obtain ⟨_,o,ho,_⟩:=I.ok.funs.mem hb;exact absurd (Nat.lt_of_lt_of_le (Heap.lt_size ho) (Nat.le_trans I.sz h)) (Nat.lt_irrefl _)
theorem Inv.cne (I:Inv X pins σ H s):∀ x c,X.env.cells.lookup x=some c->c≠X.env.locals:=λx c e z=>by
 obtain ⟨v,o,ho,hd⟩:=I.cell x c e;obtain ⟨m,⟨o',es,ep,ho',hd',_⟩,_⟩:=I.loc;rw [z,ho'] at ho;cases ho;rw [hd'] at hd;cases hd
theorem Inv.funs (I:Inv X pins σ H s):s.heap.FunFrames X.base X.outer:=by
 have all:∀ (l:List Env),(∀ b∈frs l,b∈X.fs)->X.s₀.heap.FunFrames X.base l->s.heap.FunFrames X.base l:=by
  intro l
  induction l with
  | nil=>intro _ _;trivial
  | cons env r ih =>
   intro hs hl;obtain ⟨hk,⟨L,o,hf,hn,ho,hd⟩,hr⟩:=hl;have hL:L∈X.fs:=hs L (by unfold frs;rw [List.filterMap_cons,hf];exact List.mem_cons_self);obtain ⟨sl,e⟩:=I.base.slot L o ho (I.ok.frf L hL) hL λz=>I.ok.exfs L z hL;exact ⟨hk,⟨L,_,hf,hn,e,hd⟩,ih (λb hb=>hs b (by unfold frs;rw [List.filterMap_cons,hf];exact List.mem_cons_of_mem _ hb)) hr⟩
 exact all X.outer (λ_ hb=>hb) I.ok.funs
theorem Inv.stack (I:Inv X pins σ H s):s.heap.FunFrames X.base X.stack:=by
 rcases I.ok.stk with e | ⟨e,hf⟩
 ·rw [e];exact I.funs
 ·rw [e];obtain ⟨m,hn,_⟩:=I.loc;refine .cons (by rw [I.ok.kind];decide) hf hn ?_ I.funs;exact Heap.get?_none_of_le (Nat.le_trans I.ok.bsz I.ok.above)
theorem Inv.stkSub (I:Inv X pins σ H s):∀ b∈frs X.stack,b∈X.env.locals :: X.fs:=λb hb=>by
 rcases I.ok.stk with e | ⟨e,hf⟩
 ·rw [e] at hb;exact List.mem_cons_of_mem _ hb
 ·rw [e] at hb;unfold frs at hb;rw [List.filterMap_cons,hf] at hb;exact hb
theorem Inv.stkFree (I:Inv X pins σ H s):∀ b∈frs X.stack,H b=none:=λb hb=>by
 rcases List.mem_cons.mp (I.stkSub b hb) with e | hb
 ·rw [e];exact I.free
 ·obtain ⟨_,o,ho,_⟩:=I.ok.funs.mem hb;exact I.base.free b o ho (I.ok.frf b hb) λz=>I.ok.exfs b z hb
theorem Inv.step {g':Array GenState} {t':Nat} {d':Drawn} {ch:List Addr} (I:Inv X pins σ H s)
  (hch:∀ b∈ch,(b∈X.ex\/X.s₀.heap.objs.size<=b)/\b≠X.env.locals/\(∀ x c,X.env.cells.lookup x=some c->c≠b)/\∀ p∈X.pn++pins,p.1≠b)
  (keep:∀ b o,b≠X.env.locals->b∉X.fs->b∉ch->s.heap.get? b=some o->H b=none->h'.get? b=some o)
  (slot:∀ b o,b≠X.env.locals->b∈X.fs->b∉ch->s.heap.get? b=some o->H b=none->∃ sl,h'.get? b=some { o with slots:=sl }) (free:∀ b o,b∉ch->s.heap.get? b=some o->H b=none->H' b=none)
  (there:∀ b o,b∉ch->s.heap.get? b=some o->∃ o',h'.get? b=some o')
  (tups:∀ b xs,H b=some (.tup xs)->H' b=some (.tup xs)) (frzs:∀ b o u,H b=some (.frz o u)->H' b=some (.frz o u)) (tbls:∀ b ps,H b=some (.tbl ps)->∃ more,H' b=some (.tbl (ps++more)))
  (ns:∀ m,s.heap.Ns X.env.locals m->h'.Ns X.env.locals m) (hok:HOk X.prog X.w H' h') (hg:AllBare g') :
  Inv X pins σ H' { s with heap:=h',gens:=g',drawn:=d',toks:=t' }:=by
 have neL:∀ b o,X.s₀.heap.get? b=some o->b≠X.env.locals:=λb o e=>Nat.ne_of_lt (Nat.lt_of_lt_of_le (Heap.lt_size e) I.ok.above);have neC:∀ b o,X.s₀.heap.get? b=some o->b∉X.ex->b∉ch:=λb o e hx hb=>by
  rcases (hch b hb).1 with z | z
  ·exact hx z
  ·exact absurd (Nat.lt_of_lt_of_le (Heap.lt_size e) z) (Nat.lt_irrefl _)
 have cellK:∀ x c,X.env.cells.lookup x=some c->∀ v,s.heap.IsCell c v->h'.IsCell c v:=λx c e v ⟨o,ho,hd⟩=>by
  have nch:c∉ch:=λz=>(hch c z).2.2.1 x c e rfl;by_cases hc:c∈X.fs
  ·obtain ⟨sl,q⟩:=slot c o (I.cne x c e) hc nch ho (I.freeC x c e);exact ⟨_,q,hd⟩
  ·exact ⟨o,keep c o (I.cne x c e) hc nch ho (I.freeC x c e),hd⟩
 refine ⟨I.ok,I.os,hg,⟨λb o e n hb hx=>?_,λb o e n hb hx=>?_,λb o e n hx=>?_,λb o e hx=>?_,λb xs e=>tups b xs (I.base.tups b xs e),λb o xs e=>frzs b o xs (I.base.frzs b o xs e),λb ps e=>?_⟩,?_,λx c e=>?_,?_,λx c e=>?_,λp hp=>?_,hok,I.len⟩
 ·exact keep b o (neL b o e) hb (neC b o e hx) (I.base.keep b o e n hb hx) (I.base.free b o e n hx)
 ·obtain ⟨sl,e1⟩:=I.base.slot b o e n hb hx;obtain ⟨sl',e2⟩:=slot b _ (neL b o e) hb (neC b o e hx) e1 (I.base.free b o e n hx);exact ⟨sl',e2⟩
 ·obtain ⟨o',e1⟩:=I.base.there b o e hx;exact free b o' (neC b o e hx) e1 (I.base.free b o e n hx)
 ·obtain ⟨o',e1⟩:=I.base.there b o e hx;exact there b o' (neC b o e hx) e1
 ·obtain ⟨m1,e1⟩:=I.base.tbls b ps e;obtain ⟨m2,e2⟩:=tbls b _ e1;exact ⟨m1++m2,by rw [e2,Array.append_assoc]⟩
 ·obtain ⟨m,hn,hl⟩:=I.loc;refine ⟨m,ns m hn,λi x v e1 e2 e3=>?_⟩;obtain ⟨u,r,l⟩:=hl i x v e1 e2 e3;refine ⟨u,r,?_⟩;rcases l with l | ⟨k,c,e,z⟩
  ·exact .inl l
  ·exact .inr ⟨k,c,e,cellK x c e _ z⟩
 ·obtain ⟨v,z⟩:=I.cell x c e;exact ⟨v,cellK x c e v z⟩
 ·obtain ⟨m,⟨o,_,_,ho,_⟩,_⟩:=I.loc;exact free _ o (λz=>(hch _ z).2.1 rfl) ho I.free
 ·obtain ⟨v,o,ho,hd⟩:=I.cell x c e;exact free c o (λz=>(hch c z).2.2.1 x c e rfl) ho (I.freeC x c e)
 ·obtain ⟨e,n,ne,nf,d⟩:=I.pin p hp;have nch:p.1∉ch:=λz=>(hch p.1 z).2.2.2 p hp rfl;exact ⟨keep p.1 p.2 ne nf nch e n,free p.1 p.2 nch e n,ne,nf,d⟩
theorem Inv.un {t':Nat} (I:Inv X pins σ H s) (u:Un X.fs [] H H' s.heap h') (hok:HOk X.prog X.w H' h'):Inv X pins σ H' { s with heap:=h',toks:=t' }:=by
 obtain ⟨m,⟨o,es,ep,ho,r⟩,_⟩:=id I.loc;obtain ⟨sl,hL⟩:=u.any ho I.free (by simp);exact I.step (g':=s.gens) (d':=s.drawn) (ch:=[]) (λ_ z=>nomatch z) (λb o _ hb _ e n=>u.keep b o e n hb (by simp)) (λb o _ hb _ e n=>u.slot b o e n hb (by simp)) (λb o _ e n=>u.free b o e n (by simp)) (λb o _ e=>u.there b o e (by simp)) u.tups u.frzs u.tbls (λm' hm=>by
  obtain ⟨o',es',ep',ho',r'⟩:=hm;rw [ho] at ho';cases ho';exact ⟨_,es',ep',hL,r'⟩) hok I.bare
theorem Inv.call {g':Array GenState} {t':Nat} {d':Drawn} {ch:List Addr} (I:Inv X pins σ H s) (u:Un (frs X.stack) ch H H' s.heap h') (hok:HOk X.prog X.w H' h') (hg:AllBare g')
  (hch:∀ b∈ch,(b∈X.ex\/X.s₀.heap.objs.size<=b)/\b≠X.env.locals/\(∀ x c,X.env.cells.lookup x=some c->c≠b)/\∀ p∈X.pn++pins,p.1≠b) :
  Inv X pins σ H' { s with heap:=h',gens:=g',drawn:=d',toks:=t' }:=by
 obtain ⟨m,⟨o,es,ep,ho,r⟩,_⟩:=id I.loc;obtain ⟨sl,hL⟩:=u.any ho I.free λz=>(hch _ z).2.1 rfl;exact I.step (ch:=ch) hch (λb o hL hb hc e n=>u.keep b o e n (λz=>(List.mem_cons.mp (I.stkSub b z)).elim hL hb) hc) (λb o _ _ hc e n=>u.any e n hc) (λb o hc e n=>u.free b o e n hc) (λb o hc e=>u.there b o e hc) u.tups u.frzs u.tbls (λm' hm=>by
  obtain ⟨o',es',ep',ho',r'⟩:=hm;rw [ho] at ho';cases ho';exact ⟨_,es',ep',hL,r'⟩) hok hg
theorem Inv.turned {t':Nat} {it:Addr} (I:Inv X pins σ H s) (k:∀ b o,b≠it->s.heap.get? b=some o->h'.get? b=some o) (hn:H it=none) (hL:it≠X.env.locals)
  (h1:it∈X.ex\/X.s₀.heap.objs.size<=it) (h2:∀ x c,X.env.cells.lookup x=some c->c≠it) (h3:∀ p∈X.pn++pins,p.1≠it):Inv X pins σ H { s with heap:=h',toks:=t' }:=by
 have nit:∀ b u,H b=some u->b≠it:=λb u e z=>by rw [z,hn] at e;cases e
 refine I.step (g':=s.gens) (d':=s.drawn) (ch:=[it]) (λb hb=>?_) (λb o _ _ hc e _=>k b o (λz=>hc (by simp [z])) e) (λb o _ _ hc e _=>⟨o.slots,k b o (λz=>hc (by simp [z])) e⟩) (λ_ _ _ _ n=>n)
  (λb o hc e=>⟨o,k b o (λz=>hc (by simp [z])) e⟩) (λ_ _ e=>e) (λ_ _ _ e=>e) (λb ps e=>⟨#[],by rw [e];simp⟩) (λm hm=>?_) (λb u e=>?_) I.bare
 ·have e:b=it:=by simpa using hb
  subst e;exact ⟨h1,hL,h2,h3⟩
 ·obtain ⟨o,es,ep,ho,r⟩:=hm;exact ⟨o,es,ep,k _ o (Ne.symm hL) ho,r⟩
 ·refine (I.hok b u e).stay (λc v hc q=>k c v ?_ q) (λ_ q=>q) λ_ _ q=>q;rcases hc with z | z
  ·rw [z];exact nit b u e
  ·exact nit c _ z
theorem Inv.tok (I:Inv X pins σ H s) (t:Nat):Inv X pins σ H { s with toks:=t }:=I.un (h':=s.heap) (t':=t) Un.refl I.hok
theorem Inv.kept {t':Nat} (I:Inv X pins σ H s) (k:∀ b u,s.heap.get? b=some u->h'.get? b=some u):Inv X pins σ H { s with heap:=h',toks:=t' }:=I.un (Un.kept k) (I.hok.kept k)
theorem Inv.laid {a:Addr} {o:HO} {t':Nat} (I:Inv X pins σ H s) (k:∀ b u,s.heap.get? b=some u->h'.get? b=some u) (hp:s.heap.objs.size<=a) (new:a1T X.prog X.w (upd H a o) h' a o) :
  Inv X pins σ (upd H a o) { s with heap:=h',toks:=t' }:=I.un (Un.laid k hp (I.hok.fresh hp)) (I.hok.laid k hp new)
theorem Inv.write {x e:Addr} {o:HO} {t':Nat} (I:Inv X pins σ H s) (mu:Mut (H x)) (he:e=x\/H e=some (.own x)) (k:∀ b u,b≠e->s.heap.get? b=some u->h'.get? b=some u) (heo:∃ u,h'.get? e=some u)
  (new:a1T X.prog X.w (upd H x o) h' x o):Inv X pins σ (upd H x o) { s with heap:=h',toks:=t' }:=I.un (Un.write mu he k heo) (I.hok.write mu he k heo new)
theorem Inv.weak {σ':List (Option V)} (I:Inv X pins σ H s) (hl:σ'.length=σ.length) (w:∀ (i:Nat) v,σ'[i]?=some (some v)->σ[i]?=some (some v)):Inv X pins σ' H s :=
 ⟨I.ok,I.os,I.bare,I.base,let ⟨m,hn,hl'⟩:=I.loc;⟨m,hn,λi x v e1 e2 e3=>hl' i x v e1 (w i v e2) e3⟩,I.cell,I.free,I.freeC,I.pin,I.hok,hl.trans I.len⟩
theorem Inv.pins_of {pins':List (Addr × Obj)} (I:Inv X pins σ H s) (h:∀ p∈pins',s.heap.get? p.1=some p.2/\H p.1=none/\p.1≠X.env.locals/\p.1∉X.fs/\∀ v,p.2.data≠.cell v):Inv X pins' σ H s :=
 ⟨I.ok,I.os,I.bare,I.base,I.loc,I.cell,I.free,I.freeC,λp hp=>(List.mem_append.mp hp).elim (λz=>I.pin p (List.mem_append_left _ z)) (h p),I.hok,I.len⟩
theorem a4B {N:List Str} (hN:N.Nodup) {i j:Nat} {x:Str} (a:N[i]?=some x) (b:N[j]?=some x):i=j:=by
 obtain ⟨h1,e1⟩:=List.getElem?_eq_some_iff.mp a;obtain ⟨h2,e2⟩:=List.getElem?_eq_some_iff.mp b;exact (List.getElem_inj hN).mp (e1.trans e2.symm)
theorem a3z {M:Model} {A:Around} {E:Value->Shared->Prop} {i:Nat} {x:Str} {v:V} {u:Value} {Q:Unit->Shared->Prop} (I:Inv X pins σ H s) (hN:X.N.Nodup) (hi:X.N[i]?=some x) (hx:Loc X.env.scope x) (r:a1u v u)
  (h:∀ s',Inv X pins (σ.set i (some v)) H s'->(∃ a,Heap.SameBut a s.heap s'.heap/\(a=X.env.locals\/X.env.cells.lookup x=some a))->Q () s') (hf:X.fn x=true\/X.env.scope.names.lookup x=some .local:=by first | exact .inl rfl | exact .inr rfl | assumption):wpAny M A (storeName X.env x u) Q E s:=by
 obtain ⟨m,hn,hl⟩:=id I.loc;have hcls:(X.env.scope.kind == .class || (X.env.scope.kind == .module && X.env.locals != X.env.globals))=false:=by rw [I.ok.kind];rfl
 have hiσ:i < σ.length:=by rw [I.len];exact (List.getElem?_eq_some_iff.mp hi).1
 have cne:=I.cne;have tracked:∀ {a:Addr} {h':Heap},(∃ o,s.heap.get? a=some o/\H a=none)->Heap.SameBut a s.heap h'->HOk X.prog X.w H h':=λ{a h'} ha hs b ob e=>by
  obtain ⟨_,_,hfree⟩:=ha;refine (I.hok b ob e).stay (λc w' hc q=>(hs.2 c ?_).trans q) (λ_ q=>q) λ_ _ q=>q;rintro rfl;rcases hc with rfl | hc
  ·rw [hfree] at e;cases e
  ·rw [hfree] at hc;cases hc
 rcases hx with hk | hk
 ·refine wpAny_storeName_local hk hn (λh' hn' hs=>?_) hcls;obtain ⟨oL,_,_,hoL,_⟩:=id hn;refine h _ ⟨I.ok,I.os,I.bare,⟨λb o e n hb hx=>?_,λb o e n hb hx=>?_,I.base.free,λb o e hx=>?_,I.base.tups,I.base.frzs,I.base.tbls⟩,⟨_,hn',λj y v' e1 e2 e3=>?_⟩,λy c e=>?_,I.free,I.freeC,λp hp=>?_,tracked ⟨oL,hoL,I.free⟩ hs,by simpa using I.len⟩ ⟨_,hs,.inl rfl⟩
  ·exact (hs.2 b (Nat.ne_of_lt (Nat.lt_of_lt_of_le (Heap.lt_size e) I.ok.above))).trans (I.base.keep b o e n hb hx)
  ·obtain ⟨sl,e1⟩:=I.base.slot b o e n hb hx;exact ⟨sl,(hs.2 b (Nat.ne_of_lt (Nat.lt_of_lt_of_le (Heap.lt_size e) I.ok.above))).trans e1⟩
  ·obtain ⟨o',e1⟩:=I.base.there b o e hx;exact ⟨o',(hs.2 b (Nat.ne_of_lt (Nat.lt_of_lt_of_le (Heap.lt_size e) I.ok.above))).trans e1⟩
  ·by_cases hj:j=i
   ·subst hj;rw [hi] at e1;cases e1;rw [List.getElem?_set_self hiσ] at e2;cases e2;exact ⟨u,r,.inl ⟨hk,by simp⟩⟩
   ·rw [List.getElem?_set_ne (Ne.symm hj)] at e2;obtain ⟨u',r',q⟩:=hl j y v' e1 e2 e3;refine ⟨u',r',?_⟩;rcases q with ⟨k,e⟩ | ⟨k,c,e,z⟩
    ·refine .inl ⟨k,?_⟩;have:y≠x:=λe=>hj (a4B hN e1 (e▸hi));simp [this,e]
    ·exact .inr ⟨k,c,e,z.sameBut hs (cne y c e)⟩
  ·obtain ⟨w',z⟩:=I.cell y c e;exact ⟨w',z.sameBut hs (cne y c e)⟩
  ·obtain ⟨e,n,ne,nf,d⟩:=I.pin p hp;exact ⟨(hs.2 p.1 ne).trans e,n,ne,nf,d⟩
 ·have hfn:X.fn x=true:=by
   rcases hf with z | z
   ·exact z
   ·rw [z] at hk;cases hk
  obtain ⟨c,hc⟩:=I.ok.has x (.inl hk);obtain ⟨w',z⟩:=I.cell x c hc;refine wpAny_storeName_cell I.ok.kind hk hc z (λh' hc' hs=>?_);obtain ⟨oc,hoc,hocd⟩:=id z;refine h { s with heap:=h' } ⟨I.ok,I.os,I.bare,⟨λb o e n hb hx=>?_,λb o e n hb hx=>?_,I.base.free,λb o e hx=>?_,I.base.tups,I.base.frzs,I.base.tbls⟩,⟨m,hn.sameBut hs (Ne.symm (cne x c hc)),λj y v' e1 e2 e3=>?_⟩,λy c' e=>?_,I.free,I.freeC,λp hp=>?_,tracked ⟨oc,hoc,I.freeC x c hc⟩ hs,by simpa using I.len⟩ ⟨c,hs,.inr hc⟩
  ·exact (hs.2 b (Nat.ne_of_lt (Nat.lt_of_lt_of_le (Heap.lt_size e) (I.ok.cab x c hfn hc)))).trans (I.base.keep b o e n hb hx)
  ·obtain ⟨sl,e1⟩:=I.base.slot b o e n hb hx;exact ⟨sl,(hs.2 b (Nat.ne_of_lt (Nat.lt_of_lt_of_le (Heap.lt_size e) (I.ok.cab x c hfn hc)))).trans e1⟩
  ·obtain ⟨o',e1⟩:=I.base.there b o e hx;exact ⟨o',(hs.2 b (Nat.ne_of_lt (Nat.lt_of_lt_of_le (Heap.lt_size e) (I.ok.cab x c hfn hc)))).trans e1⟩
  ·by_cases hj:j=i
   ·subst hj;rw [hi] at e1;cases e1;rw [List.getElem?_set_self hiσ] at e2;cases e2;exact ⟨u,r,.inr ⟨.inl hk,c,hc,hc'⟩⟩
   ·rw [List.getElem?_set_ne (Ne.symm hj)] at e2;obtain ⟨u',r',q⟩:=hl j y v' e1 e2 e3;refine ⟨u',r',?_⟩;rcases q with q | ⟨k,c',e,z'⟩
    ·exact .inl q
    ·refine .inr ⟨k,c',e,z'.sameBut hs ?_⟩;rintro rfl;exact hj (a4B hN e1 (I.ok.inj _ _ _ e hc▸hi))
  ·by_cases hcc:c'=c
   ·subst hcc;exact ⟨_,hc'⟩
   ·obtain ⟨w2,z2⟩:=I.cell y c' e;exact ⟨w2,z2.sameBut hs hcc⟩
  ·obtain ⟨e,n,ne,nf,d⟩:=I.pin p hp;refine ⟨(hs.2 p.1 ?_).trans e,n,ne,nf,d⟩;intro q;rw [q,hoc] at e;have q':oc=p.2:=Option.some.inj e;exact d w' (by rw [<-q'];exact hocd)
theorem a6j {M:Model} {A:Around} {E:Value->Shared->Prop} {i:Nat} {x:Str} {v:V} {u:Value} {Q:Unit->Shared->Prop} (I:Inv X pins σ H s) (hN:X.N.Nodup) (hi:X.N[i]?=some x) (hx:Loc X.env.scope x) (r:a1u v u)
  (h:∀ s',Inv X pins (σ.set i (some v)) H s'->Q () s') (hf:X.fn x=true\/X.env.scope.names.lookup x=some .local:=by first | exact .inl rfl | exact .inr rfl | assumption):wpAny M A (storeName X.env x u) Q E s :=
 a3z I hN hi hx r (λs' I' _=>h s' I') hf
theorem Inv.call' {s':Shared} {ch:List Addr} (I:Inv X pins σ H s) (ho:s'.os=s.os) (u:Un (frs X.stack) ch H H' s.heap s'.heap) (hok:HOk X.prog X.w H' s'.heap) (hg:AllBare s'.gens)
  (hch:∀ b∈ch,(b∈X.ex\/X.s₀.heap.objs.size<=b)/\b≠X.env.locals/\(∀ x c,X.env.cells.lookup x=some c->c≠b)/\∀ p∈X.pn++pins,p.1≠b):Inv X pins σ H' s':=by
 obtain ⟨h',g',d',t',o'⟩:=s';have e:o'=s.os:=ho;subst e;exact I.call (g':=g') (t':=t') (d':=d') u hok hg hch
end
abbrev XK:=Value->Option Addr->Hp->Prop
abbrev St:=List (Option V)
abbrev VK:=V->Hp->Prop
abbrev TE:=St->Hp->VK->Prop
abbrev TT:=St->Hp->(Bool->Hp->Prop)->Prop
abbrev TA:=St->Hp->(List V->Hp->Prop)->Prop
structure a9C where
 nx:St->Hp->Prop
 rt:VK
 bk:St->Hp->Prop:=λ_ _=>False
 ct:St->Hp->Prop:=λ_ _=>False
abbrev TS:=a9C->St->Hp->Prop
def EP (X:Cx) (pins:List (Addr × Obj)) (σ:St) (Q:VK) (u:Value) (s':Shared):Prop:=∃ v H',Inv X pins σ H' s'/\a1u v u/\Q v H'
def TP (X:Cx) (pins:List (Addr × Obj)) (σ:St) (Q:Bool->Hp->Prop) (b:Bool) (s':Shared):Prop:=∃ H',Inv X pins σ H' s'/\Q b H'
def AP (X:Cx) (pins:List (Addr × Obj)) (σ:St) (Q:List V->Hp->Prop) (us:List Value) (s':Shared):Prop:=∃ vs H',Inv X pins σ H' s'/\a0U vs us/\Q vs H'
def SP (X:Cx) (pins:List (Addr × Obj)) (D:a9C) (f:Flow) (s':Shared):Prop :=
 match f with
 | .next=>∃ σ' H',Inv X pins σ' H' s'/\D.nx σ' H'
 | .brk=>∃ σ' H',Inv X pins σ' H' s'/\D.bk σ' H'
 | .cont=>∃ σ' H',Inv X pins σ' H' s'/\D.ct σ' H'
 | .ret u=>∃ v σ' H',Inv X pins σ' H' s'/\a1u v u/\D.rt v H'
def PE (X:Cx) (e:Expr) (t:TE):Prop :=
 ∀ (pins:List (Addr × Obj)) (s:Shared) (σ:St) (H:Hp) (Q:VK),Inv X pins σ H s->t σ H Q->wpAny (model X.prog X.w) X.A (eval e X.env) (EP X pins σ Q) X.xe s
def PT (X:Cx) (e:Expr) (t:TT):Prop :=
 ∀ (pins:List (Addr × Obj)) (s:Shared) (σ:St) (H:Hp) (Q:Bool->Hp->Prop),Inv X pins σ H s->t σ H Q->wpAny (model X.prog X.w) X.A (isTrue e X.env (eval e X.env)) (TP X pins σ Q) X.xe s
def PW (X:Cx) (e:Expr) (t:TT):Prop :=
 ∀ (whole:Sem Value) (pins:List (Addr × Obj)) (s:Shared) (σ:St) (H:Hp) (Q:Bool->Hp->Prop),Inv X pins σ H s->t σ H Q->wpAny (model X.prog X.w) X.A (isTrue e X.env whole) (TP X pins σ Q) X.xe s
theorem PW.pt {X:Cx} {e:Expr} {t:TT} (h:PW X e t):PT X e t:=h _
def PA (X:Cx) (es:List Expr) (t:TA):Prop :=
 ∀ (pos:Pos) (pins:List (Addr × Obj)) (s:Shared) (σ:St) (H:Hp) (Q:List V->Hp->Prop),Inv X pins σ H s->t σ H Q->wpAny (model X.prog X.w) X.A (spliced (backTo pos (starEach es X.env))) (AP X pins σ Q) X.xe s
def PS (X:Cx) (st:Stmt) (t:TS):Prop :=
 ∀ (pins:List (Addr × Obj)) (s:Shared) (σ:St) (H:Hp) (D:a9C),Inv X pins σ H s->t D σ H->wpAny (model X.prog X.w) X.A (exec st X.env) (SP X pins D) X.xe s
def PSs (X:Cx) (st:List Stmt) (t:TS):Prop :=
 ∀ (pins:List (Addr × Obj)) (s:Shared) (σ:St) (H:Hp) (D:a9C),Inv X pins σ H s->t D σ H->wpAny (model X.prog X.w) X.A (execs st X.env) (SP X pins D) X.xe s
theorem thn {α:Type} {t:Sem α} {Q Q':α->Shared->Prop} {M:Model} {A:Around} {E:Value->Shared->Prop} {s:Shared} (h:wpAny M A t Q E s) (hQ:∀ a s,Q a s->Q' a s):wpAny M A t Q' E s:=wpAny_mono h hQ λ_ _ x=>x
section
variable {X:Cx}
def tVar (i:Nat):TE:=λσ H Q=>∃ v,σ[i]?=some (some v)/\Q v H
def tC (v:V):TE:=λ_ H Q=>Q v H
theorem a6k {i:Nat} {x:Str} {pos:Pos} (hN:X.N[i]?=some x) (hv:Vis X.env.scope x) (hd:(x == ("__debug__":Str))=false:=by decide) (hcd:(x == ("__classdict__":Str))=false:=by decide):PE X (.Name x pos) (tVar i):=by
 intro pins s σ H Q I h;obtain ⟨v,e,h⟩:=h;obtain ⟨m,hn,hl⟩:=I.loc;obtain ⟨u,r,l⟩:=hl i x v hN e hv;have fin:EP X pins σ Q u s:=⟨v,H,I,r,h⟩
 rcases l with ⟨hk,hm⟩ | ⟨hk,c,hc,hcell⟩
 ·exact wpAny_Name (wpAny_loadName_local I.ok.kind hk hn hm fin) hd
 ·rcases hk with hk | hk
  ·exact wpAny_Name (wpAny_loadName_cell I.ok.kind hk hc hcell fin) hd
  ·exact wpAny_Name (wpAny_loadName_free I.ok.kind hk hc hcell fin hcd) hd
theorem a0d {i j pos}:PE X (.Constant (.int i) j pos) (tC (.int i)):=λ_ _ _ H _ I h=>wpAny_Constant_int ⟨.int i,H,I.tok _,⟨_,rfl⟩,h⟩
theorem a3A {b j pos}:PE X (.Constant (.bool b) j pos) (tC (.bl b)):=λ_ _ _ H _ I h=>Constant_bool ⟨.bl b,H,I,rfl,h⟩
theorem a3B {j pos}:PE X (.Constant .none j pos) (tC .non):=λ_ _ _ H _ I h=>Constant_none ⟨.non,H,I,rfl,h⟩
theorem a0i {x j pos}:PE X (.Constant (.str x) j pos) (tC (.str x)):=λ_ _ _ H _ I h=>Calls.Constant_str ⟨.str x,H,I.tok _,⟨_,rfl⟩,h⟩
def Gl (X:Cx) (x:Str):Prop:=X.env.kindOf x=some .globalImplicit
theorem a2S {E:Value->Shared->Prop} {pins:List (Addr × Obj)} {s:Shared} {σ:St} {H:Hp} {x:Str} {u:Value} {pos:Pos} {Q:Value->Shared->Prop} (I:Inv X pins σ H s) (hg:Gl X x) (hm:X.mg x=some u) (h:Q u s)
  (hd:(x == ("__debug__":Str))=false:=by decide):wpAny (model X.prog X.w) X.A (eval (.Name x pos) X.env) Q E s :=
 Calls.Name_function_global I.ok.kind hg (Calls.loadGlobal_global (by rw [I.ok.glob];exact I.mod.glob.keeps I.bk) hm h) hd
theorem a2E {E:Value->Shared->Prop} {pins:List (Addr × Obj)} {s:Shared} {σ:St} {H:Hp} {x:Str} {u:Value} {pos:Pos} {Q:Value->Shared->Prop} (I:Inv X pins σ H s) (hg:Gl X x) (hm:X.mg x=none) (hv:bootBuiltins x=some u) (h:Q u s)
  (hn:x≠"__name__":=by decide) (hd:(x == ("__debug__":Str))=false:=by decide):wpAny (model X.prog X.w) X.A (eval (.Name x pos) X.env) Q E s:=by
 obtain ⟨mb,h1,h2⟩:=I.mod.blt;exact Calls.Name_function_global I.ok.kind hg (Calls.loadGlobal_builtin (by rw [I.ok.glob];exact I.mod.glob.keeps I.bk) hm (by rw [I.ok.blt];exact h1.keeps I.bk) ((h2 x hn).trans hv) h) hd
theorem a1L {x:Str} {v:V} {u:Value} {pos:Pos} (hg:Gl X x) (hm:X.mg x=some u) (r:a1u v u) (hd:(x == ("__debug__":Str))=false:=by decide):PE X (.Name x pos) (tC v) :=
 λ_ _ _ H _ I h=>a2S I hg hm ⟨v,H,I,r,h⟩ hd
theorem b1T {x:Str} {v:V} {u:Value} {pos:Pos} (hg:Gl X x) (hm:X.mg x=none) (hv:bootBuiltins x=some u) (r:a1u v u) (hn:x≠"__name__":=by decide) (hd:(x == ("__debug__":Str))=false:=by decide):PE X (.Name x pos) (tC v) :=
 λ_ _ _ H _ I h=>a2E I hg hm hv ⟨v,H,I,r,h⟩ hn hd
def t2I (ta tb:TE) (k:Int->Int->Hp->Prop):St->Hp->Prop:=λσ H=>ta σ H λx H1=>tb σ H1 λy H2=>∃ i j,x=.int i/\y=.int j/\k i j H2
def tMul (ta tb:TE):TE:=λσ H Q=>t2I ta tb (λi j H2=>(-(2 ^ 64) < i/\i < 2 ^ 64)/\Q (.int (i * j)) H2) σ H
variable {a b:Expr} {ta tb:TE} {pos:Pos}
def PC (X:Cx) (op:CmpOp) (a b:Expr) (t:TE):Prop :=
 ∀ (pins:List (Addr × Obj)) (s:Shared) (σ:St) (H:Hp) (Q:VK),Inv X pins σ H s->t σ H Q ->
  wpAny (model X.prog X.w) X.A (eval a X.env) (λv s₁=>wpAny (model X.prog X.w) X.A (eval b X.env) (λu s₂=>wpAny (model X.prog X.w) X.A (compareOp op v u) (EP X pins σ Q) X.xe s₂) X.xe s₁) X.xe s
theorem nobehind (b:Expr) {op:CmpOp} (h:op≠.In) (h2:op≠.NotIn):behindInMarks op b=false:=by
 have e1:(op == CmpOp.In)=false:=by cases op <;> first | rfl | exact absurd rfl h
 have e2:(op == CmpOp.NotIn)=false:=by cases op <;> first | rfl | exact absurd rfl h2
 cases b <;> simp [behindInMarks,e1,e2]
def tIsN (ta:TE):TE:=λσ H Q=>ta σ H λx H1=>Q (.bl (decide (x=.non))) H1
def tNotN (ta:TE):TE:=λσ H Q=>ta σ H λx H1=>Q (.bl (!decide (x=.non))) H1
theorem a1u.none_iff {x:V} {v:Value} (r:a1u x v):(v == Value.none)=decide (x=.non):=by
 cases x with
 | non=>cases r;rfl
 | bl _=>cases r;rfl
 | int _=>obtain ⟨t,rfl⟩:=r;rfl
 | str _=>obtain ⟨t,rfl⟩:=r;rfl
 | byt _=>obtain ⟨t,rfl⟩:=r;rfl
 | flt _=>obtain ⟨t,rfl⟩:=r;rfl
 | ref _=>cases r;rfl
 | ty _=>cases r;rfl
theorem b0V {j pos'} (ha:PE X a ta):PC X .Is a (.Constant .none j pos') (tIsN ta):=by
 intro pins s σ H Q I h;refine thn (ha pins s σ H _ I h) λv s1 ⟨x,H1,I1,r1,q1⟩=>?_;exact Constant_none (is_none_gen ⟨.bl _,H1,I1,by rw [r1.none_iff];rfl,q1⟩)
theorem b1U {j pos'} (ha:PE X a ta):PC X .IsNot a (.Constant .none j pos') (tNotN ta):=by
 intro pins s σ H Q I h;refine thn (ha pins s σ H _ I h) λv s1 ⟨x,H1,I1,r1,q1⟩=>?_;exact Constant_none (isnot_none_gen ⟨.bl _,H1,I1,by rw [r1.none_iff];rfl,q1⟩)
def tB (t:TE):TT:=λσ H Q=>t σ H λx H1=>∃ c,x=.bl c/\Q c H1
theorem a7y {op:CmpOp} {t:TE} (h:PC X op a b t) (h1:behindInMarks op b=false:=by first | exact nobehind _ (by decide) (by decide) | rfl):PT X (.Compare a [op] [b] pos) (tB t):=by
 intro pins s σ H Q I hw;refine wpAny_isTrue_Compare1 (thn (h pins s σ H _ I hw) λv s1 h1=>thn h1 λu s2 h2=>thn h2 λc s3 ⟨x,H1,I1,r1,q1⟩=>?_) h1;obtain ⟨d,rfl,q⟩:=q1;cases r1;exact wpAny_truthy_bool ⟨H1,I1,q⟩
theorem a1I {e:Expr} {t:TE} (h:PE X e t) (he:∀ whole,isTrue e X.env whole=(do let v <-whole;standAt e.pos;holding [v] (truthy v)):=by intro _;rfl):PT X e (tB t):=by
 intro pins s σ H Q I hw;refine isTrue_plain (thn (h pins s σ H _ I hw) λv s1 ⟨x,H1,I1,r1,q1⟩=>?_) (he _);obtain ⟨d,rfl,q⟩:=q1;cases r1;exact wpAny_truthy_bool ⟨H1,I1,q⟩
variable {tA tB':TT} {rest:List Expr}
def tAnd (t u:TT):TT:=λσ H Q=>t σ H λc H1=>if c=true then u σ H1 Q else Q false H1
def tOr (t u:TT):TT:=λσ H Q=>t σ H λc H1=>if c=true then Q true H1 else u σ H1 Q
def tNot (t:TT):TT:=λσ H Q=>t σ H λc H1=>Q (!c) H1
theorem a2T (ha:PT X a tA):PW X (.BoolOp .And [a] pos) tA:=by
 intro wh pins s σ H Q I h;refine isTrue_and (thn (ha pins s σ H Q I h) λc s1 e=>?_);cases c with
 | true=>exact isTrue_and_nil e
 | false=>exact e
theorem a5e (ha:PT X a tA):PW X (.BoolOp .Or [a] pos) tA:=by
 intro wh pins s σ H Q I h;refine isTrue_or (thn (ha pins s σ H Q I h) λc s1 e=>?_);cases c with
 | false=>exact isTrue_or_nil e
 | true=>exact e
theorem a3C (ha:PT X a tA) (hb:PW X (.BoolOp .And (b :: rest) pos) tB'):PW X (.BoolOp .And (a :: b :: rest) pos) (tAnd tA tB'):=by
 intro wh pins s σ H Q I h;refine isTrue_and (thn (ha pins s σ H _ I h) λc s1 ⟨H1,I1,q1⟩=>?_);cases c with
 | true=>exact hb wh pins s1 σ H1 Q I1 q1
 | false=>exact ⟨H1,I1,q1⟩
theorem a7z (ha:PT X a tA) (hb:PW X (.BoolOp .Or (b :: rest) pos) tB'):PW X (.BoolOp .Or (a :: b :: rest) pos) (tOr tA tB'):=by
 intro wh pins s σ H Q I h;refine isTrue_or (thn (ha pins s σ H _ I h) λc s1 ⟨H1,I1,q1⟩=>?_);cases c with
 | true=>exact ⟨H1,I1,q1⟩
 | false=>exact hb wh pins s1 σ H1 Q I1 q1
theorem a1o (ha:PT X a tA):PT X (.UnaryOp .Not a pos) (tNot tA):=by
 intro pins s σ H Q I h;exact isTrue_not (ha pins s σ H (λc H1=>Q (!c) H1) I h)
def tAndV (ta tb:TE):TE:=λσ H Q=>ta σ H λx H1=>∃ c,x=.bl c/\if c=true then tb σ H1 Q else Q (.bl false) H1
def tOrV (ta tb:TE):TE:=λσ H Q=>ta σ H λx H1=>∃ c,x=.bl c/\if c=true then Q (.bl true) H1 else tb σ H1 Q
theorem a2F {op} {t:TE} (h:PE X a t):PE X (.BoolOp op [a] pos) t:=λpins s σ H Q I hw=>BoolOp_one (h pins s σ H Q I hw)
theorem a2w (ha:PE X a ta) (hb:PE X (.BoolOp .And (b :: rest) pos) tb):PE X (.BoolOp .And (a :: b :: rest) pos) (tAndV ta tb):=by
 intro pins s σ H Q I h;refine BoolOp_and (thn (ha pins s σ H _ I h) λv s1 ⟨x,H1,I1,r1,q1⟩=>?_);obtain ⟨c,rfl,q1⟩:=q1;cases r1;refine wpAny_truthy_bool ?_;cases c with
 | true=>exact hb pins s1 σ H1 Q I1 q1
 | false=>exact ⟨.bl false,H1,I1,rfl,q1⟩
theorem b1V (ha:PE X a ta) (hb:PE X (.BoolOp .Or (b :: rest) pos) tb):PE X (.BoolOp .Or (a :: b :: rest) pos) (tOrV ta tb):=by
 intro pins s σ H Q I h;refine BoolOp_or (thn (ha pins s σ H _ I h) λv s1 ⟨x,H1,I1,r1,q1⟩=>?_);obtain ⟨c,rfl,q1⟩:=q1;cases r1;refine wpAny_truthy_bool ?_;cases c with
 | false=>exact hb pins s1 σ H1 Q I1 q1
 | true=>exact ⟨.bl true,H1,I1,rfl,q1⟩
def tIf (t:TT) (ta tb:TE):TE:=λσ H Q=>t σ H λc H1=>if c=true then ta σ H1 Q else tb σ H1 Q
theorem a9M {c:Expr} (hc:PT X c tA) (ha:PE X a ta) (hb:PE X b tb):PE X (.IfExp c a b pos) (tIf tA ta tb):=by
 intro pins s σ H Q I h;refine wpAny_IfExp (thn (hc pins s σ H _ I h) λd s1 ⟨H1,I1,q1⟩=>?_);cases d with
 | true=>exact ha pins s1 σ H1 Q I1 q1
 | false=>exact hb pins s1 σ H1 Q I1 q1
end
def SqL (K:PySem.W.Frag) (H:Hp) (a:Addr) (xs:List V):Prop :=
 Rd H a (.lst xs) \/
  ∃ (o:Obj) (its:Array Value) (n:Nat),K.lookup a=some o/\o.cls=.type "list"/\o.dict=none/\o.data=.seq its n/\its.size<=sizeLine/\a0U xs its.toList
def SqT (K:PySem.W.Frag) (H:Hp) (a:Addr) (xs:List V):Prop :=
 Rd H a (.tup xs) \/
  ∃ (o:Obj) (its:Array Value) (n:Nat),K.lookup a=some o/\o.cls=.type "tuple"/\o.data=.seq its n/\its.size<=sizeLine/\a0U xs its.toList
def absV:Value->Option V
 | .none=>some .non
 | .bool b=>some (.bl b)
 | .int i _=>some (.int i)
 | .str x _=>some (.str x)
 | .bytes b _=>some (.byt b)
 | .float b _=>some (.flt b)
 | .ref a=>some (.ref a)
 | .type n=>some (.ty n)
 | _=>none
theorem a1u.abs {x:V} {u:Value} (r:a1u x u):absV u=some x:=by
 cases x with
 | non=>cases r;rfl
 | bl _=>cases r;rfl
 | int _=>obtain ⟨t,rfl⟩:=r;rfl
 | str _=>obtain ⟨t,rfl⟩:=r;rfl
 | byt _=>obtain ⟨t,rfl⟩:=r;rfl
 | flt _=>obtain ⟨t,rfl⟩:=r;rfl
 | ref _=>cases r;rfl
 | ty _=>cases r;rfl
theorem a1u.inj {x y:V} {u:Value} (r:a1u x u) (q:a1u y u):x=y:=Option.some.inj (r.abs.symm.trans q.abs)
theorem a0U.inj:∀ {xs ys:List V} {us:List Value},a0U xs us->a0U ys us->xs=ys
 | _,_,_,.nil,.nil=>rfl
 | _,_,_,.cons r t,.cons r' t'=>by rw [r.inj r',a0U.inj t t']
section
variable {X:Cx} {pins:List (Addr × Obj)} {σ:St} {H:Hp} {s:Shared} {a:Addr} {xs ys:List V}
theorem SqL.of {K:PySem.W.Frag} (h:H a=some (.lst xs)):SqL K H a xs:=.inl (.inl h)
theorem SqT.of {K:PySem.W.Frag} (h:H a=some (.tup xs)):SqT K H a xs:=.inl (.inl h)
theorem Inv.list (I:Inv X pins σ H s) (h:SqL X.K H a xs):∃ its:List Value,a0U xs its/\PlainL s.heap a its.toArray/\xs.length<=sizeLine:=by
 rcases h with h | ⟨o,its,n,hk,hc,hd,hs,hz,r⟩
 ·obtain ⟨z,its,n,r,e⟩:=h.ok I.hok;exact ⟨its,r,⟨_,n,e,rfl,rfl,rfl⟩,z⟩
 ·refine ⟨its.toList,r,⟨o,n,I.kIn a o hk,hc,hd,by simpa using hs⟩,?_⟩;have e:=r.length;simp only [Array.length_toList] at e;omega
theorem Inv.tuple (I:Inv X pins σ H s) (h:SqT X.K H a xs):∃ its:List Value,a0U xs its/\IsTup s.heap a its.toArray/\xs.length<=sizeLine:=by
 rcases h with h | ⟨o,its,n,hk,hc,hs,hz,r⟩
 ·obtain ⟨z,its,r,p⟩:=h.ok I.hok;exact ⟨its,r,p.is,z⟩
 ·refine ⟨its.toList,r,⟨o,I.kIn a o hk,hc,n,by simpa using hs⟩,?_⟩;have e:=r.length;simp only [Array.length_toList] at e;omega
theorem Inv.list_inj (I:Inv X pins σ H s) (h:SqL X.K H a xs) (h':SqL X.K H a ys):xs=ys:=by
 obtain ⟨its,r,⟨o,n,e,_,_,d⟩,_⟩:=I.list h;obtain ⟨its',r',⟨o',n',e',_,_,d'⟩,_⟩:=I.list h';rw [e] at e';cases e';rw [d] at d';injection d' with d1 _;have:its=its':=by simpa using congrArg Array.toList d1
 subst this;exact r.inj r'
theorem Inv.tuple_inj (I:Inv X pins σ H s) (h:SqT X.K H a xs) (h':SqT X.K H a ys):xs=ys:=by
 obtain ⟨its,r,⟨o,e,_,n,d⟩,_⟩:=I.tuple h;obtain ⟨its',r',⟨o',e',_,n',d'⟩,_⟩:=I.tuple h';rw [e] at e';cases e';rw [d] at d';injection d' with d1 _;have:its=its':=by simpa using congrArg Array.toList d1
 subst this;exact r.inj r'
end
abbrev Cx.wish (X:Cx) (E:Value->Shared->Prop):Cx:={ X with xe:=E }
abbrev Cx.nox (X:Cx):Cx:=X.wish λ_ _=>False
theorem Cx.Ok.wish {X:Cx} (ok:X.Ok) (E:Value->Shared->Prop):(X.wish E).Ok :=
 ⟨ok.mod,ok.kind,ok.glob,ok.blt,ok.above,ok.inj,ok.has,ok.cab,ok.hd,ok.frames,ok.stk,ok.exf,ok.bs,ok.bsz,ok.noex,ok.exfs,ok.funs,ok.frf⟩
theorem Cx.Ok.unwish {X:Cx} {E:Value->Shared->Prop} (ok:(X.wish E).Ok):X.Ok :=
 ⟨ok.mod,ok.kind,ok.glob,ok.blt,ok.above,ok.inj,ok.has,ok.cab,ok.hd,ok.frames,ok.stk,ok.exf,ok.bs,ok.bsz,ok.noex,ok.exfs,ok.funs,ok.frf⟩
section
variable {X:Cx} {pins:List (Addr × Obj)} {σ:St} {H:Hp} {s:Shared} {E:Value->Shared->Prop}
theorem Inv.wish (I:Inv X pins σ H s) (E:Value->Shared->Prop):Inv (X.wish E) pins σ H s:=⟨I.ok.wish E,I.os,I.bare,I.base,I.loc,I.cell,I.free,I.freeC,I.pin,I.hok,I.len⟩
theorem Inv.unwish (I:Inv (X.wish E) pins σ H s):Inv X pins σ H s:=⟨I.ok.unwish,I.os,I.bare,I.base,I.loc,I.cell,I.free,I.freeC,I.pin,I.hok,I.len⟩
theorem SP.unwish {D:a9C} {f:Flow} {s':Shared} (h:SP (X.wish E) pins D f s'):SP X pins D f s':=by
 cases f with
 | next=>obtain ⟨σ',H',I,q⟩:=h;exact ⟨σ',H',I.unwish,q⟩
 | brk=>obtain ⟨σ',H',I,q⟩:=h;exact ⟨σ',H',I.unwish,q⟩
 | cont=>obtain ⟨σ',H',I,q⟩:=h;exact ⟨σ',H',I.unwish,q⟩
 | ret u=>obtain ⟨v,σ',H',I,r,q⟩:=h;exact ⟨v,σ',H',I.unwish,r,q⟩
theorem PSs.nox {st:List Stmt} {t:TS} (h:PSs X.nox st t):PSs X st t:=λpins s σ H D I hw =>
 wpAny_mono (h pins s σ H D (I.wish _) hw) (λ_ _ q=>q.unwish) λ_ _ z=>False.elim z
end
section
variable {X:Cx} {st:Stmt} {rest:List Stmt} {t u:TS} {e:Expr} {te:TE} {pos:Pos}
def tNext:TS:=λD σ H=>D.nx σ H
def tSeq (t u:TS):TS:=λD σ H=>t { D with nx:=u D } σ H
theorem a0x:PSs X [] tNext:=λ_ _ σ H _ I h=>wpAny_execs_nil ⟨σ,H,I,h⟩
theorem a0c (h1:PS X st t) (h2:PSs X rest u):PSs X (st :: rest) (tSeq t u):=by
 intro pins s σ H D I h;refine wpAny_execs_cons (thn (h1 pins s σ H { D with nx:=u D } I h) λf s1 q=>?_);cases f with
 | next =>
  obtain ⟨σ',H',I',q⟩:=q;exact h2 pins s1 σ' H' D I' q
 | ret v=>exact q
 | brk=>exact q
 | cont=>exact q
theorem a0h (h1:PS X st t):PSs X [st] t:=by
 intro pins s σ H D I h;refine wpAny_execs_cons (thn (h1 pins s σ H D I h) λf s1 q=>?_);cases f with
 | next=>exact wpAny_execs_nil q
 | ret v=>exact q
 | brk=>exact q
 | cont=>exact q
theorem Inv.quiet {pins:List (Addr × Obj)} {σ:St} {H:Hp} {s:Shared} (I:Inv X pins σ H s):interactive X.env=false:=by simp [interactive,I.ok.kind]
def tDrop (te:TE):TS:=λD σ H=>te σ H λ_ H1=>D.nx σ H1
theorem a1f (he:PE X e te) (hs:swapsWith e none pos.line X.env=pure false:=by rfl):PS X (.Expr e pos) (tDrop te):=by
 intro pins s σ H D I h;exact wpAny_Expr_any (thn (he pins s σ H _ I h) λv s1 ⟨x,H1,I1,r1,q1⟩=>⟨σ,H1,I1,q1⟩) I.quiet hs
def tRet (te:TE):TS:=λD σ H=>te σ H D.rt
theorem a0v (he:PE X e te):PS X (.Return (some e) pos) (tRet te):=by
 intro pins s σ H D I h;exact wpAny_Return_some (thn (he pins s σ H _ I h) λv s1 ⟨x,H1,I1,r1,q1⟩=>⟨x,σ,H1,I1,r1,q1⟩)
def tIfS (c:TT) (t u:TS):TS:=λD σ H=>c σ H λb H1=>if b=true then t D σ H1 else u D σ H1
theorem a0J {c:Expr} {a b:List Stmt} {tc:TT} (hc:PT X c tc) (ha:PSs X a t) (hb:PSs X b u):PS X (.If c a b pos) (tIfS tc t u):=by
 intro pins s σ H D I h;refine wpAny_If (thn (hc pins s σ H _ I h) λd s1 ⟨H1,I1,q1⟩=>?_);cases d with
 | true=>exact ha pins s1 σ H1 D I1 q1
 | false=>exact hb pins s1 σ H1 D I1 q1
def tNever:TS:=λ_ _ _=>False
end
abbrev TG:=V->St->Hp->(St->Hp->Prop)->Prop
abbrev TGs:=List V->St->Hp->(St->Hp->Prop)->Prop
def PG (X:Cx) (target:Expr) (t:TG):Prop :=
 ∀ (pins:List (Addr × Obj)) (s:Shared) (σ:St) (H:Hp) (v:V) (u:Value) (Q:St->Hp->Prop),Inv X pins σ H s->a1u v u->t v σ H Q ->
  wpAny (model X.prog X.w) X.A (assign target X.env u) (λ_ s'=>∃ σ' H',Inv X pins σ' H' s'/\Q σ' H') X.xe s
def PGs (X:Cx) (ts:List Expr) (t:TGs):Prop :=
 ∀ (pins:List (Addr × Obj)) (s:Shared) (σ:St) (H:Hp) (vs:List V) (us:List Value) (Q:St->Hp->Prop),Inv X pins σ H s->a0U vs us->t vs σ H Q ->
  wpAny (model X.prog X.w) X.A (assignInOrder ((assignEach ts X.env).map (·.2)) us) (λ_ s'=>∃ σ' H',Inv X pins σ' H' s'/\Q σ' H') X.xe s
abbrev TSet:=V->V->V->Hp->(Hp->Prop)->Prop
def PSet (X:Cx) (t:TSet):Prop :=
 ∀ (pins:List (Addr × Obj)) (s:Shared) (σ:St) (H:Hp) (o i v:V) (ov iv u:Value) (Q:Hp->Prop),Inv X pins σ H s->a1u o ov->a1u i iv->a1u v u->t o i v H Q ->
  wpAny (model X.prog X.w) X.A (setItem ov iv u) (λ_ s'=>∃ H',Inv X pins σ H' s'/\Q H') X.xe s
abbrev TIp:=V->V->Hp->VK->Prop
section
variable {X:Cx} {pos:Pos}
def a1E (i:Nat):TG:=λv σ H Q=>Q (σ.set i (some v)) H
theorem a0H {i:Nat} {x:Str} (hN:X.N.Nodup) (hi:X.N[i]?=some x) (hx:Loc X.env.scope x) (hf:X.fn x=true\/X.env.scope.names.lookup x=some .local:=by first | exact .inl rfl | exact .inr rfl | assumption):PG X (.Name x pos) (a1E i):=by
 intro pins s σ H v u Q I r h;exact wpAny_assign_Name (a6j I hN hi hx r (λs' I'=>⟨_,H,I',h⟩) hf)
def gNil:TGs:=λvs σ H Q=>vs=[]/\Q σ H
def b1W (t:TG) (u:TGs):TGs:=λvs σ H Q=>∃ v r,vs=v :: r/\t v σ H λσ' H'=>u r σ' H' Q
theorem a3D:PGs X [] gNil:=by
 intro pins s σ H vs us Q I r h;obtain ⟨e,h⟩:=h;subst e;cases r;exact assignInOrder_nil ⟨σ,H,I,h⟩
theorem a1m {e:Expr} {es:List Expr} {t:TG} {u:TGs} (h1:PG X e t) (h2:PGs X es u)
  (hs:(assignEach (e :: es) X.env).map (·.2)=assign e X.env :: (assignEach es X.env).map (·.2):=by rfl):PGs X (e :: es) (b1W t u):=by
 intro pins s σ H vs us Q I r h;obtain ⟨v,vr,e1,h⟩:=h;subst e1;cases r with
 | cons r rr =>
  rw [hs];refine assignInOrder_cons (thn (h1 pins s σ H _ _ _ I r h) λ_ s1 ⟨σ1,H1,I1,q1⟩=>?_);exact h2 pins s1 σ1 H1 _ _ Q I1 rr q1
def gTup (K:PySem.W.Frag) (n:Nat) (t:TGs):TG:=λv σ H Q=>∃ a xs,v=.ref a/\SqT K H a xs/\xs.length=n/\t xs σ H Q
theorem a5f {es:List Expr} {k:Nat} {t:TGs} {n:Nat} (hc:X.calm=true) (h:PGs X es t)
  (hn:(assignEach es X.env).length=n:=by rfl) (hst:(assignEach es X.env).findIdx? (·.1)=none:=by rfl):PG X (.Tuple es k pos) (gTup X.K n t):=by
 intro pins s σ H v u Q I r hw;obtain ⟨a,xs,e1,hq,hl,hw⟩:=hw;subst e1;cases r;obtain ⟨its,rv,ht,hz⟩:=I.tuple hq;refine assign_Tuple_tuple (I.ok.hd hc) ht (by simp [hn,<-hl,rv.length]) hst λh' hx=>?_;have I1:Inv X pins σ H { s with heap:=h' }:=I.kept (t':=s.toks) λb o e=>hx b o (Nat.ne_of_lt (Heap.lt_size e)) e;exact h pins _ σ H xs _ Q I1 (by simpa using rv) hw
def gSub (to ti:TE) (t:TSet):TG:=λv σ H Q=>to σ H λo H1=>ti σ H1 λi H2=>t o i v H2 λH3=>Q σ H3
theorem a3E {o i:Expr} {to ti:TE} {t:TSet} (ho:PE X o to) (hi:PE X i ti) (hs:PSet X t)
  (ha:∀ v,assign (.Subscript o i pos) X.env v=(do
   let ov <-holding [v] (eval o X.env)
   let iv <-holding [v,ov] (eval i X.env)
   standAt pos
   holding [v,ov,iv] (setItem ov iv v)
   release [v,ov,iv] []):=by intro _;rfl):PG X (.Subscript o i pos) (gSub to ti t):=by
 intro pins s σ H v u Q I r h;rw [ha];refine wpAny_bind (wpAny_holding (thn (ho pins s σ H _ I h) λov s1 ⟨x,H1,I1,r1,q1⟩=>?_));refine wpAny_bind (wpAny_holding (thn (hi pins s1 σ H1 _ I1 q1) λiv s2 ⟨y,H2,I2,r2,q2⟩=>?_));refine wpAny_bind (wpAny_standAt (wpAny_bind (wpAny_holding (thn (hs pins s2 σ H2 x y v ov iv u _ I2 r1 r2 r q2) λ_ s3 ⟨H3,I3,q3⟩=>?_))));exact wpAny_release ⟨σ,H3,I3,q3⟩
def a7A (te:TE) (g:TG):TS:=λD σ H=>te σ H λx H1=>g x σ H1 D.nx
theorem a2G {tg e:Expr} {te:TE} {g:TG} (he:PE X e te) (hg:PG X tg g) (hs:swapsWithSole [tg] e pos.line X.env=pure false:=by rfl) (hw:swappedStores [tg] e X.env=pure none:=by rfl)
  (h1:(assignEach [tg] X.env).map (·.2)=[assign tg X.env]:=by rfl):PS X (.Assign [tg] e pos) (a7A te g):=by
 intro pins s σ H D I h;refine wpAny_Assign_stores (thn (he pins s σ H _ I h) λv s1 ⟨x,H1,I1,r1,q1⟩=>?_) hs hw;rw [h1];exact thn (hg pins s1 σ H1 x v _ I1 r1 q1) λ_ s2 q=>q
theorem a0z {i:Nat} {x:Str} {e:Expr} {te:TE} {pos':Pos} (hN:X.N.Nodup) (hi:X.N[i]?=some x) (hx:Loc X.env.scope x) (he:PE X e te) (hs:swapsWith e (some (.Name x pos')) pos.line X.env=pure false:=by rfl) (hf:X.fn x=true\/X.env.scope.names.lookup x=some .local:=by first | exact .inl rfl | exact .inr rfl | assumption) :
  PS X (.Assign [.Name x pos'] e pos) (a7A te (a1E i)):=by
 intro pins s σ H D I h;refine wpAny_Assign_Name (thn (he pins s σ H _ I h) λv s1 ⟨y,H1,I1,r1,q1⟩=>?_) hs;exact a6j I1 hN hi hx r1 (λs2 I2=>⟨_,H1,I2,q1⟩) hf
def tPar (i j:Nat) (ta:TA):TS:=λD σ H=>ta σ H λvs H1=>∃ v w,vs=[v,w]/\D.nx ((σ.set i (some v)).set j (some w)) H1
def tAug (i:Nat) (te:TE) (ti:TIp):TS:=λD σ H=>∃ x,σ[i]?=some (some x)/\te σ H λy H1=>ti x y H1 λz H2=>D.nx (σ.set i (some z)) H2
def tAugS (to ti te:TE) (tget:V->V->Hp->VK->Prop) (tip:TIp) (tset:TSet):TS:=λD σ H=>to σ H λo H1=>ti σ H1 λi H2=>tget o i H2 λx H3=>te σ H3 λy H4=>tip x y H4 λz H5=>tset o i z H5 λH6=>D.nx σ H6
def PGet (X:Cx) (t:V->V->Hp->VK->Prop):Prop :=
 ∀ (pins:List (Addr × Obj)) (s:Shared) (σ:St) (H:Hp) (o i:V) (ov iv:Value) (Q:VK),Inv X pins σ H s->a1u o ov->a1u i iv->t o i H Q ->
  wpAny (model X.prog X.w) X.A (getItem ov iv) (EP X pins σ Q) X.xe s
def ipI (f:Int->Int->Int):TIp:=λx y H Q=>∃ i j,x=.int i/\y=.int j/\Q (.int (f i j)) H
def tWhile (c:TT) (tb:TS):TS:=λD σ H=>∃ W:Nat->St->Hp->Prop,(∃ m,W m σ H)/\∀ m σ H,W m σ H ->
 c σ H λb H1=>if b=true then ∃ N:St->Hp->Prop,(∀ σ' H',N σ' H'->∃ m',m' < m/\W m' σ' H')/\tb { D with nx:=N,ct:=N,bk:=D.nx } σ H1 else D.nx σ H1
end
structure It where
 go:Nat->Hp->Prop
 yld:Nat->Hp->V->Hp->Prop
 stop:Nat->Hp->Prop
def a9D (X:Cx) (pins:List (Addr × Obj)) (H:Hp) (b:Addr):Prop :=
 H b=none/\b≠X.env.locals/\b∉X.fs/\(b∈X.ex\/X.s₀.heap.objs.size<=b)/\(∀ x c,X.env.cells.lookup x=some c->c≠b)/\∀ p∈X.pn++pins,p.1≠b
theorem Inv.fpOk {X:Cx} {pins:List (Addr × Obj)} {σ:St} {H H':Hp} {s:Shared} {b:Addr} (I:Inv X pins σ H s) (hb:s.heap.objs.size<=b) (hn:H' b=none):a9D X pins H' b:=by
 refine ⟨hn,Nat.ne_of_gt (Nat.lt_of_lt_of_le I.lt hb),I.nofs hb,.inr (Nat.le_trans I.sz hb),λx c e z=>?_,λp hp z=>?_⟩
 ·obtain ⟨v,q⟩:=I.cell x c e;exact absurd (Nat.lt_of_lt_of_le q.lt (by rw [z];exact hb)) (Nat.lt_irrefl _)
 ·exact absurd (Nat.lt_of_lt_of_le (Heap.lt_size (I.pin p hp).1) (by rw [z];exact hb)) (Nat.lt_irrefl _)
structure b0W (P:Program) (w:World) (K:PySem.W.Frag) (tg:Expr) (J:It) (fp:List Addr) (it:Addr) (tn:Nat->Heap->Prop):Prop where
 mem:it∈fp
 obj:∀ i h,tn i h->∀ b∈fp,∃ o,h.get? b=some o/\∀ v,o.data≠.cell v
 keep:∀ i h h',tn i h->(∀ b∈fp,∀ o,h.get? b=some o->h'.get? b=some o)->tn i h'
 item:∀ (X:Cx),X.prog=P->X.w=w->X.K=K->X.calm=true->∀ (i:Nat) (pins:List (Addr × Obj)) (s:Shared) (σ:St) (H:Hp) (E:Value->Shared->Prop),Inv X pins σ H s->(∀ b∈fp,a9D X pins H b)->tn i s.heap->J.go i H ->
  wpAny (model P w) X.A (pyNext (.ref it)) (λr s1=>∃ u,r=some u /\
   wpAny (model P w) X.A (letOwnedTupleGo tg (.ref it) u) (λ_ s2=>∃ x H',Inv X pins σ H' s2/\a1u x u/\J.yld i H x H'/\tn (i+1) s2.heap/\∀ b∈fp,H' b=none) E s1) E s
 done:∀ (X:Cx),X.prog=P->X.w=w->X.K=K->X.calm=true->∀ (i:Nat) (pins:List (Addr × Obj)) (s:Shared) (σ:St) (H:Hp) (E:Value->Shared->Prop),Inv X pins σ H s->(∀ b∈fp,a9D X pins H b)->tn i s.heap->J.stop i H ->
  wpAny (model P w) X.A (pyNext (.ref it)) (λr s1=>r=none/\Inv X pins σ H s1) E s
 self:∀ (A:Around) (i:Nat) (s:Shared) (Q:Value->Shared->Prop) (E:Value->Shared->Prop),tn i s.heap->Q (.ref it) s->wpAny (model P w) A (pyIter (.ref it)) Q E s
abbrev TI:=St->Hp->(It->Hp->Prop)->Prop
def PIE (X:Cx) (pins:List (Addr × Obj)) (σ:St) (tg:Expr) (R:It->Hp->Prop) (itv:Value) (s2:Shared):Prop :=
 ∃ (it:Addr) (fp:List Addr) (tn:Nat->Heap->Prop) (J:It) (H':Hp),itv=.ref it/\Inv X pins σ H' s2/\b0W X.prog X.w X.K tg J fp it tn/\tn 0 s2.heap/\(∀ b∈fp,a9D X pins H' b)/\R J H'
def PI (X:Cx) (tg iter:Expr) (wi:TI):Prop :=
 ∀ (pins:List (Addr × Obj)) (s:Shared) (σ:St) (H:Hp) (R:It->Hp->Prop),Inv X pins σ H s->wi σ H R ->
  wpAny (model X.prog X.w) X.A (eval iter X.env) (λv s1=>wpAny (model X.prog X.w) X.A (pyIter v) (PIE X pins σ tg R) X.xe s1) X.xe s
theorem a7B {M:Model} {A:Around} {E:Value->Shared->Prop} {s:Shared} {tg:Expr} {it:Addr} {u:Value} {o:Obj} {n:String} {vs:Array Value} {Q:Unit->Shared->Prop} (ho:s.heap.get? it=some o) (hc:o.cls=.type n) (hd:o.data=.fields vs)
  (hn:["enumerate","zip","dict_itemiterator","dict_reverseitemiterator","odict_iterator","itertools.zip_longest","itertools.pairwise"].contains n=false) (hQ:Q () s):wpAny M A (letOwnedTupleGo tg (.ref it) u) Q E s:=by
 unfold letOwnedTupleGo;cases tg <;> first
  | exact wpAny_pure hQ
  | (cases u <;> first
    | exact wpAny_pure hQ
    | (refine wpAny_bind (wpAny_load ho ?_)
       rw [hc,hd];show wpAny M A (if (["enumerate","zip","dict_itemiterator","dict_reverseitemiterator","odict_iterator","itertools.zip_longest","itertools.pairwise"].contains n && vs[0]? == some (rawInt _))=true then _ else _) Q E s;rw [if_neg (by intro h;rw [hn,Bool.false_and] at h;cases h)];exact wpAny_pure hQ))
def Itl (K:PySem.W.Frag) (a:Addr):It :=
 ⟨λi H=>∃ xs x,SqL K H a xs/\xs[i]?=some x,λi H x H'=>H'=H/\∀ xs,SqL K H a xs->xs[i]?=some x,λi H=>∃ xs,SqL K H a xs/\xs.length<=i⟩
def Itt (K:PySem.W.Frag) (a:Addr):It :=
 ⟨λi H=>∃ xs x,SqT K H a xs/\xs[i]?=some x,λi H x H'=>H'=H/\∀ xs,SqT K H a xs->xs[i]?=some x,λi H=>∃ xs,SqT K H a xs/\xs.length<=i⟩
def Itr (lo:Int) (n:Nat):It:=⟨λi _=>i < n,λi H x H'=>H'=H/\x=.int (lo+i),λi _=>n<=i⟩
theorem a7C {P:Program} {w:World} {K:PySem.W.Frag} {tg:Expr} (a it:Addr):b0W P w K tg (Itl K a) [it] it (λi h=>h.IsListIter it a i) where
 mem:=by simp
 obj:=λi h st b hb=>by
  have e:b=it:=by simpa using hb
  subst e;obtain ⟨o,e,c,d⟩:=st;exact ⟨o,e,λv z=>by rw [d] at z;cases z⟩
 keep:=λi h h' st k=>st.at λo e=>k it (by simp) o e
 item:=by
  intro X hP hw hK hc i pins s σ H E I hf st hg;subst hP hw hK;obtain ⟨xs,x,hq,hx⟩:=hg;obtain ⟨its,rv,p,hz⟩:=I.list hq;obtain ⟨u,hu,ru⟩:=rv.get hx;obtain ⟨f0,f1,f2,f3,f4,f5⟩:=hf it (by simp);refine wpAny_pyNext_list_item st p.isList (x:=u) (by simpa using hu) λh' st' sb=>?_;have I1:Inv X pins σ H { s with heap:=h' }:=I.turned (t':=s.toks) (λb o hb e=>(sb.2 b hb).trans e) f0 f1 f3 f4 f5;obtain ⟨o,e,c,d⟩:=id st';exact ⟨u,rfl,a7B (s:={ s with heap:=h' }) e c d (by decide) ⟨x,H,I1,ru,⟨rfl,λys hy=>by rw [I.list_inj hy hq];exact hx⟩,st',λb hb=>(hf b hb).1⟩⟩
 done:=by
  intro X hP hw hK hc i pins s σ H E I hf st hg;subst hP hw hK;obtain ⟨xs,hq,hx⟩:=hg;obtain ⟨its,rv,p,hz⟩:=I.list hq;obtain ⟨f0,f1,f2,f3,f4,f5⟩:=hf it (by simp);have hl:=rv.length;exact wpAny_pyNext_list_end (I.ok.hd hc) st p.isList (by simp;omega) λh' eb=>⟨rfl,I.turned (t':=s.toks) (λb o hb e=>eb b o hb e) f0 f1 f3 f4 f5⟩
 self:=λ_ _ _ _ _ st h=>wpAny_pyIter_listiter st h
theorem a6M {P:Program} {w:World} {K:PySem.W.Frag} {tg:Expr} (a it:Addr):b0W P w K tg (Itt K a) [it] it (λi h=>h.IsTupleIter it a i) where
 mem:=by simp
 obj:=λi h st b hb=>by
  have e:b=it:=by simpa using hb
  subst e;obtain ⟨o,e,c,d⟩:=st;exact ⟨o,e,λv z=>by rw [d] at z;cases z⟩
 keep:=λi h h' st k=>st.at λo e=>k it (by simp) o e
 item:=by
  intro X hP hw hK hc i pins s σ H E I hf st hg;subst hP hw hK;obtain ⟨xs,x,hq,hx⟩:=hg;obtain ⟨its,rv,p,hz⟩:=I.tuple hq;obtain ⟨u,hu,ru⟩:=rv.get hx;obtain ⟨f0,f1,f2,f3,f4,f5⟩:=hf it (by simp);refine wpAny_pyNext_tuple_item st (show s.heap.IsTuple a its.toArray from p) (x:=u) (by simpa using hu) λh' st' sb=>?_;have I1:Inv X pins σ H { s with heap:=h' }:=I.turned (t':=s.toks) (λb o hb e=>(sb.2 b hb).trans e) f0 f1 f3 f4 f5;obtain ⟨o,e,c,d⟩:=id st';exact ⟨u,rfl,a7B (s:={ s with heap:=h' }) e c d (by decide) ⟨x,H,I1,ru,⟨rfl,λys hy=>by rw [I.tuple_inj hy hq];exact hx⟩,st',λb hb=>(hf b hb).1⟩⟩
 done:=by
  intro X hP hw hK hc i pins s σ H E I hf st hg;subst hP hw hK;obtain ⟨xs,hq,hx⟩:=hg;obtain ⟨its,rv,p,hz⟩:=I.tuple hq;obtain ⟨f0,f1,f2,f3,f4,f5⟩:=hf it (by simp);have hl:=rv.length;exact wpAny_pyNext_tuple_end (I.ok.hd hc) st (show s.heap.IsTuple a its.toArray from p) (by simp;omega) λh' eb=>⟨rfl,I.turned (t':=s.toks) (λb o hb e=>eb b o hb e) f0 f1 f3 f4 f5⟩
 self:=λ_ _ _ _ _ st h=>wpAny_pyIter_tupleiter st h
theorem a6N {P:Program} {w:World} {K:PySem.W.Frag} {tg:Expr} (it:Addr) (lo:Int) (n:Nat):b0W P w K tg (Itr lo n) [it] it (λi h=>IsRangeIter h it (lo+(i:Nat) * 1) ((n:Int) - (i:Nat)) 1) where
 mem:=by simp
 obj:=λi h st b hb=>by
  have e:b=it:=by simpa using hb
  subst e;exact ⟨_,st,λv z=>by
   have z':Data.fields _=Data.cell v:=z;cases z'⟩
 keep:=λi h h' st k=>k it (by simp) _ st
 item:=by
  intro X hP hw hK hc i pins s σ H E I hf st hg;subst hP hw hK;obtain ⟨f0,f1,f2,f3,f4,f5⟩:=hf it (by simp);have W:=Walks.range (prog:=X.prog) (w:=X.w) (I.ok.hd hc) it lo 1 n;refine W.item i s _ _ hg st λv h' tk hv st' kk=>?_;obtain ⟨t,rfl⟩:=hv;have I1:Inv X pins σ H { s with heap:=h',toks:=tk }:=I.turned (λb o hb e=>kk b o (by simpa using hb) e) f0 f1 f3 f4 f5;refine ⟨_,rfl,a7B (s:={ s with heap:=h',toks:=tk }) (n:="range_iterator") st' rfl rfl (by decide) ⟨.int (lo+i),H,I1,⟨t,?_⟩,⟨rfl,rfl⟩,st',λb hb=>(hf b hb).1⟩⟩;rw [Int.mul_one]
 done:=by
  intro X hP hw hK hc i pins s σ H E I hf st hg;subst hP hw hK;obtain ⟨f0,f1,f2,f3,f4,f5⟩:=hf it (by simp);exact wpAny_pyNext_range_end (I.ok.hd hc) st (by have:n<=i:=hg;omega) λh' eb=>⟨rfl,I.turned (t':=s.toks) (λb o hb e=>eb b o hb e) f0 f1 f3 f4 f5⟩
 self:=λ_ _ _ _ _ st h=>wpAny_pyIter_rangeiter st h
section
variable {X:Cx} {tg:Expr}
def iList (K:PySem.W.Frag) (tl:TE):TI:=λσ H R=>tl σ H λx H1=>∃ a,x=.ref a/\(∃ xs,SqL K H1 a xs)/\R (Itl K a) H1
def iTup (K:PySem.W.Frag) (tl:TE):TI:=λσ H R=>tl σ H λx H1=>∃ a,x=.ref a/\(∃ xs,SqT K H1 a xs)/\R (Itt K a) H1
theorem a2U {l:Expr} {tl:TE} (hl:PE X l tl):PI X tg l (iList X.K tl):=by
 intro pins s σ H R I h;refine thn (hl pins s σ H _ I h) λv s1 ⟨x,H1,I1,r1,q1⟩=>?_;obtain ⟨a,e,⟨xs,hq⟩,q⟩:=q1;subst e;cases r1;obtain ⟨its,rv,p,hz⟩:=I1.list hq;refine wpAny_pyIter_list p.isList ?_;refine ⟨s1.heap.objs.size,[s1.heap.objs.size],_,_,H1,rfl,I1.kept (t':=s1.toks) λb o e=>Heap.get?_push_of_some _ e,a7C a _,⟨_,Heap.get?_push_size _ rfl,rfl,rfl⟩,λb hb=>?_,q⟩;have e:b=s1.heap.objs.size:=by simpa using hb
 subst e;exact I1.fpOk (Nat.le_refl _) (I1.hok.fresh (Nat.le_refl _))
theorem b0X {l:Expr} {tl:TE} (hl:PE X l tl):PI X tg l (iTup X.K tl):=by
 intro pins s σ H R I h;refine thn (hl pins s σ H _ I h) λv s1 ⟨x,H1,I1,r1,q1⟩=>?_;obtain ⟨a,e,⟨xs,hq⟩,q⟩:=q1;subst e;cases r1;obtain ⟨its,rv,p,hz⟩:=I1.tuple hq;refine wpAny_pyIter_tuple (show s1.heap.IsTuple a its.toArray from p) ?_;refine ⟨s1.heap.objs.size,[s1.heap.objs.size],_,_,H1,rfl,I1.kept (t':=s1.toks) λb o e=>Heap.get?_push_of_some _ e,a6M a _,⟨_,Heap.get?_push_size _ rfl,rfl,rfl⟩,λb hb=>?_,q⟩;have e:b=s1.heap.objs.size:=by simpa using hb
 subst e;exact I1.fpOk (Nat.le_refl _) (I1.hok.fresh (Nat.le_refl _))
theorem a6l {pins:List (Addr × Obj)} {σ:St} {H:Hp} {s:Shared} {R:It->Hp->Prop} {E:Value->Shared->Prop} {lo hi:Int} {t u v:Tok} {tk:Nat} (I:Inv X pins σ H s) (h1:-(2 ^ 62)<=lo) (h2:lo < 2 ^ 62) (h3:-(2 ^ 62)<=hi) (h4:hi < 2 ^ 62)
  (q:R (Itr lo (hi - lo).toNat) H):wpAny (model X.prog X.w) X.A (pyIter (.ref s.heap.objs.size)) (PIE X pins σ tg R) E { s with heap:=s.heap.push { cls:=.type "range",data:=.fields #[.int lo t,.int hi u,.int 1 v] },toks:=tk }:=by
 refine wpAny_pyIter_range (IsRange.new ..) (small_one h1 h2 h3 h4) ?_;have I1:Inv X pins σ H { s with heap:=s.heap.push { cls:=.type "range",data:=.fields #[.int lo t,.int hi u,.int 1 v] },toks:=tk }:=I.kept λb o e=>Heap.get?_push_of_some _ e;refine ⟨(s.heap.push { cls:=.type "range",data:=.fields #[.int lo t,.int hi u,.int 1 v] }).objs.size,[(s.heap.push { cls:=.type "range",data:=.fields #[.int lo t,.int hi u,.int 1 v] }).objs.size],_,_,H,rfl,
  I1.kept (t':=tk) λb o e=>Heap.get?_push_of_some _ e,a6N _ lo (hi - lo).toNat,?_,λb hb=>?_,q⟩
 ·have e1:lo+((0:Nat):Int) * 1=lo:=by simp
  have e2:(((hi - lo).toNat:Nat):Int) - ((0:Nat):Int)=Builtin.Range.rangeSize lo hi 1:=by rw [rangeSize_one];split <;> omega
  show IsRangeIter _ _ (lo+((0:Nat):Int) * 1) ((((hi - lo).toNat:Nat):Int) - ((0:Nat):Int)) 1;rw [e1,e2];exact Heap.get?_push_size _ rfl
 ·have e:b=(s.heap.push { cls:=.type "range",data:=.fields #[.int lo t,.int hi u,.int 1 v] }).objs.size:=by simpa using hb
  subst e;exact I1.fpOk (Nat.le_refl _) (I1.hok.fresh (Nat.le_refl _))
def iRng1 (ta:TA):TI:=λσ H R=>ta σ H λvs H1=>∃ j:Int,vs=[.int j]/\-(2 ^ 62)<=j/\j < 2 ^ 62/\R (Itr 0 j.toNat) H1
def iRng2 (ta:TA):TI:=λσ H R=>ta σ H λvs H1=>∃ i j:Int,vs=[.int i,.int j]/\(-(2 ^ 62)<=i/\i < 2 ^ 62/\-(2 ^ 62)<=j/\j < 2 ^ 62)/\R (Itr i (j - i).toNat) H1
theorem a1M {a:Expr} {ta:TA} {p pos:Pos} (hg:Gl X "range") (hm:X.mg "range"=none) (ha:PA X [a] ta) (hs:starEach [a] X.env=[(false,eval a X.env)]:=by rfl):PI X tg (.Call (.Name "range" p) [a] [] pos) (iRng1 ta):=by
 intro pins s σ H R I h;refine Call_ (a2E I hg hm boot_range (PyProof.Rows.callWith_type1 (thn (ha pos pins s σ H _ I h) λus s1 ⟨vs,H1,I1,r1,q1⟩=>?_) hs rfl));obtain ⟨j,e,q1,q2,q⟩:=q1;subst e;cases r1 with
 | cons r rr =>
  cases rr;obtain ⟨t,rfl⟩:=r;exact call_range_1 (a6l I1 (by omega) (by omega) q1 q2 (by simpa using q))
theorem a2h {a b:Expr} {ta:TA} {p pos:Pos} (hg:Gl X "range") (hm:X.mg "range"=none) (ha:PA X [a,b] ta) (hs:starEach [a,b] X.env=[(false,eval a X.env),(false,eval b X.env)]:=by rfl) (hs2:starEach [b] X.env=[(false,eval b X.env)]:=by rfl) :
  PI X tg (.Call (.Name "range" p) [a,b] [] pos) (iRng2 ta):=by
 intro pins s σ H R I h;refine Call_ (a2E I hg hm boot_range (PyProof.Rows.callWith_type1 (thn (ha pos pins s σ H _ I h) λus s1 ⟨vs,H1,I1,r1,q1⟩=>?_) (by rw [hs,hs2]) (by rw [hs2];rfl)));obtain ⟨i,j,e,⟨q1,q2,q3,q4⟩,q⟩:=q1;subst e;cases r1 with
 | cons r rr =>
  cases rr with
  | cons r' rr =>
   cases rr;obtain ⟨t,rfl⟩:=r;obtain ⟨t',rfl⟩:=r';exact call_range_2 (a6l I1 q1 q2 q3 q4 q)
def tFor (wi:TI) (g:TG) (tb:TS):TS:=λD σ H=>wi σ H λJ H1=>∃ W:Nat->Nat->St->Hp->Prop,(∃ m,W 0 m σ H1)/\∀ i m σ H,W i m σ H ->
 (J.stop i H/\D.nx σ H)\/(J.go i H/\∃ N:St->Hp->Prop,(∀ σ' H',N σ' H'->∃ m',m' < m/\W (i+1) m' σ' H')/\∀ x H',J.yld i H x H'->g x σ H' λσ2 H2=>tb { D with nx:=N,ct:=N,bk:=D.nx } σ2 H2)
def a5g (fp:List Addr) (h:Heap):List (Addr × Obj):=fp.filterMap λb=>(h.get? b).map λo=>(b,o)
theorem a2V {fp:List Addr} {h:Heap} {b:Addr} {o:Obj} (hb:b∈fp) (e:h.get? b=some o):(b,o)∈a5g fp h:=List.mem_filterMap.mpr ⟨b,hb,by rw [e];rfl⟩
theorem a7D {fp:List Addr} {h:Heap} {p:Addr × Obj} (hp:p∈a5g fp h):p.1∈fp/\h.get? p.1=some p.2:=by
 obtain ⟨b,hb,e⟩:=List.mem_filterMap.mp hp;cases q:h.get? b with
 | none=>rw [q] at e;cases e
 | some o =>
  rw [q] at e;have e':(b,o)=p:=Option.some.inj e;subst e';exact ⟨hb,q⟩
theorem Inv.pinned {pins:List (Addr × Obj)} {σ:St} {H:Hp} {s:Shared} {fp:List Addr} (I:Inv X pins σ H s) (hf:∀ b∈fp,a9D X pins H b) (ho:∀ b∈fp,∃ o,s.heap.get? b=some o/\∀ v,o.data≠.cell v):Inv X (pins++a5g fp s.heap) σ H s :=
 I.pins_of λp hp=>(List.mem_append.mp hp).elim (λz=>I.pin p (List.mem_append_right _ z)) λz=>by
  obtain ⟨hb,e⟩:=a7D z;obtain ⟨f0,f1,f2,_⟩:=hf p.1 hb;obtain ⟨o,e',d⟩:=ho p.1 hb;rw [e] at e';cases e';exact ⟨e,f0,f1,f2,d⟩
theorem Inv.unpinned {pins pl:List (Addr × Obj)} {σ:St} {H:Hp} {s:Shared} (I:Inv X (pins++pl) σ H s):Inv X pins σ H s:=I.pins_of λp hp=>I.pin p (List.mem_append_right _ (List.mem_append_left _ hp))
theorem a1v {iter:Expr} {body:List Stmt} {wi:TI} {g:TG} {tb:TS} {pos:Pos} (hp:PassesOwn (model X.prog X.w) X.A X.env X.xe) (hc:X.calm=true) (hi:PI X tg iter wi) (hg:PG X tg g) (hb:PSs X body tb)
  (hs:∀ x,foldedSetIterable iter X.env x=pure x:=by intro _;rfl):PS X (.For tg iter body [] pos) (tFor wi g tb):=by
 intro pins s σ H D I h;refine wpAny_For (thn (hi pins s σ H _ I h) λv s1 h1=>thn h1 λitv s2 h2=>?_) hs;obtain ⟨it,fp,tn,J,H2,e,I2,T,st2,f2,W,⟨m0,w0⟩,turn⟩:=h2;subst e;have stat:∀ {H':Hp},(∀ b∈fp,H' b=none)->∀ b∈fp,a9D X pins H' b:=λhn b hb=>⟨hn b hb,(f2 b hb).2⟩
 refine codeAny_forLoop_any (λn s'=>∃ i σ' H',Inv X pins σ' H' s'/\tn i s'.heap/\(∀ b∈fp,H' b=none)/\W i n σ' H') ?_ m0 ⟨0,σ,H2,I2,st2,λb hb=>(f2 b hb).1,w0⟩;rintro n s3 ⟨i,σ3,H3,I3,st3,fr3,w3⟩;rcases turn i n σ3 H3 w3 with ⟨stop,qn⟩ | ⟨go,N,hN,step⟩
 ·refine wpAny_passesOwn hp (thn (T.done X rfl rfl rfl hc i pins s3 σ3 H3 X.xe I3 (stat fr3) st3 stop) λr s4 ⟨hr,I4⟩=>?_);subst hr;exact wpAny_execs_nil ⟨σ3,H3,I4,qn⟩
 ·refine wpAny_passesOwn hp (thn (T.item X rfl rfl rfl hc i pins s3 σ3 H3 X.xe I3 (stat fr3) st3 go) λr s4 ⟨u,hr,h4⟩=>?_);subst hr;refine wpAny_passesOwn hp (thn h4 λ_ s5 ⟨x,H5,I5,r5,y5,st5,fr5⟩=>?_);have I5':=I5.pinned (stat fr5) (T.obj _ _ st5);refine wpAny_passesOwn hp (thn (hg _ s5 σ3 H5 x u _ I5' r5 (step x H5 y5)) λ_ s6 ⟨σ6,H6,I6,q6⟩=>?_);refine wpAny_passesOwn hp (thn (hb _ s6 σ6 H6 _ I6 q6) λf s7 q7=>?_);have again:∀ {σ7:St} {H7:Hp},Inv X (pins++a5g fp s5.heap) σ7 H7 s7->N σ7 H7->∃ m,m < n/\∃ i σ' H',Inv X pins σ' H' s7/\tn i s7.heap/\(∀ b∈fp,H' b=none)/\W i m σ' H':=λ{σ7 H7} I7 n7=>by
   obtain ⟨m',hm,w7⟩:=hN σ7 H7 n7;refine ⟨m',hm,i+1,σ7,H7,I7.unpinned,T.keep _ _ _ st5 λb hb o e=>(I7.pin (b,o) (List.mem_append_right _ (List.mem_append_right _ (a2V hb e)))).1,λb hb=>?_,w7⟩;obtain ⟨o,e,d⟩:=T.obj _ _ st5 b hb;exact (I7.pin (b,o) (List.mem_append_right _ (List.mem_append_right _ (a2V hb e)))).2.1
  cases f with
  | next=>obtain ⟨σ7,H7,I7,n7⟩:=q7;exact again I7 n7
  | cont=>obtain ⟨σ7,H7,I7,n7⟩:=q7;exact again I7 n7
  | brk=>obtain ⟨σ7,H7,I7,q7⟩:=q7;exact ⟨σ7,H7,I7.unpinned,q7⟩
  | ret v=>obtain ⟨x7,σ7,H7,I7,r7,q7⟩:=q7;exact ⟨x7,σ7,H7,I7.unpinned,r7,q7⟩
end
theorem a3u {K:PySem.W.Frag} {a:Addr} {xs:List V} {g:TG} {tb:TS} {D:a9C} {σ:St} {H:Hp} (Pv:Nat->St->Hp->Prop) (h0:Pv 0 σ H) (hl:∀ i σ H,i<=xs.length->Pv i σ H->SqL K H a xs)
  (hs:∀ i x σ H,xs[i]?=some x->Pv i σ H->g x σ H λσ2 H2=>tb { D with nx:=Pv (i+1),ct:=Pv (i+1),bk:=D.nx } σ2 H2) (hd:∀ σ H,Pv xs.length σ H->D.nx σ H) :
  ∃ W:Nat->Nat->St->Hp->Prop,(∃ m,W 0 m σ H)/\∀ i m σ H,W i m σ H ->
   ((Itl K a).stop i H/\D.nx σ H)\/((Itl K a).go i H/\∃ N:St->Hp->Prop,(∀ σ' H',N σ' H'->∃ m',m' < m/\W (i+1) m' σ' H')/\∀ x H',(Itl K a).yld i H x H'->g x σ H' λσ2 H2=>tb { D with nx:=N,ct:=N,bk:=D.nx } σ2 H2):=by
 refine ⟨λi m σ H=>m=xs.length - i/\i<=xs.length/\Pv i σ H,⟨xs.length,by simp,Nat.zero_le _,h0⟩,?_⟩;rintro i m σ H ⟨rfl,hi,p⟩;have q:=hl i σ H hi p;by_cases hlt:i < xs.length
 ·refine .inr ⟨⟨xs,xs[i],q,by simp [hlt]⟩,Pv (i+1),λσ' H' p'=>⟨xs.length - (i+1),by omega,rfl,hlt,p'⟩,λx H' y=>?_⟩;obtain ⟨e,y⟩:=y;subst e;exact hs i x σ _ (y xs q) p
 ·have e:i=xs.length:=by omega
  subst e;exact .inl ⟨⟨xs,q,Nat.le_refl _⟩,hd σ H p⟩
theorem b1X {K:PySem.W.Frag} {a:Addr} {xs:List V} {g:TG} {tb:TS} {D:a9C} {σ:St} {H:Hp} (Pv:Nat->St->Hp->Prop) (h0:Pv 0 σ H) (hl:∀ i σ H,i<=xs.length->Pv i σ H->SqT K H a xs)
  (hs:∀ i x σ H,xs[i]?=some x->Pv i σ H->g x σ H λσ2 H2=>tb { D with nx:=Pv (i+1),ct:=Pv (i+1),bk:=D.nx } σ2 H2) (hd:∀ σ H,Pv xs.length σ H->D.nx σ H) :
  ∃ W:Nat->Nat->St->Hp->Prop,(∃ m,W 0 m σ H)/\∀ i m σ H,W i m σ H ->
   ((Itt K a).stop i H/\D.nx σ H)\/((Itt K a).go i H/\∃ N:St->Hp->Prop,(∀ σ' H',N σ' H'->∃ m',m' < m/\W (i+1) m' σ' H')/\∀ x H',(Itt K a).yld i H x H'->g x σ H' λσ2 H2=>tb { D with nx:=N,ct:=N,bk:=D.nx } σ2 H2):=by
 refine ⟨λi m σ H=>m=xs.length - i/\i<=xs.length/\Pv i σ H,⟨xs.length,by simp,Nat.zero_le _,h0⟩,?_⟩;rintro i m σ H ⟨rfl,hi,p⟩;have q:=hl i σ H hi p;by_cases hlt:i < xs.length
 ·refine .inr ⟨⟨xs,xs[i],q,by simp [hlt]⟩,Pv (i+1),λσ' H' p'=>⟨xs.length - (i+1),by omega,rfl,hlt,p'⟩,λx H' y=>?_⟩;obtain ⟨e,y⟩:=y;subst e;exact hs i x σ _ (y xs q) p
 ·have e:i=xs.length:=by omega
  subst e;exact .inl ⟨⟨xs,q,Nat.le_refl _⟩,hd σ H p⟩
theorem a1r {lo:Int} {n:Nat} {g:TG} {tb:TS} {D:a9C} {σ:St} {H:Hp} (Pv:Nat->St->Hp->Prop) (h0:Pv 0 σ H)
  (hs:∀ i σ H,i < n->Pv i σ H->g (.int (lo+i)) σ H λσ2 H2=>tb { D with nx:=Pv (i+1),ct:=Pv (i+1),bk:=D.nx } σ2 H2) (hd:∀ σ H,Pv n σ H->D.nx σ H) :
  ∃ W:Nat->Nat->St->Hp->Prop,(∃ m,W 0 m σ H)/\∀ i m σ H,W i m σ H ->
   ((Itr lo n).stop i H/\D.nx σ H)\/((Itr lo n).go i H/\∃ N:St->Hp->Prop,(∀ σ' H',N σ' H'->∃ m',m' < m/\W (i+1) m' σ' H')/\∀ x H',(Itr lo n).yld i H x H'->g x σ H' λσ2 H2=>tb { D with nx:=N,ct:=N,bk:=D.nx } σ2 H2):=by
 refine ⟨λi m σ H=>m=n - i/\i<=n/\Pv i σ H,⟨n,by simp,Nat.zero_le _,h0⟩,?_⟩;rintro i m σ H ⟨rfl,hi,p⟩;by_cases hlt:i < n
 ·refine .inr ⟨hlt,Pv (i+1),λσ' H' p'=>⟨n - (i+1),by omega,rfl,hlt,p'⟩,λx H' y=>?_⟩;obtain ⟨e,y⟩:=y;subst e y;exact hs i σ _ hlt p
 ·have e:i=n:=by omega
  subst e;exact .inl ⟨Nat.le_refl _,hd σ H p⟩
abbrev R2:=V->V->Hp->VK->Prop
def OpR (X:Cx) (f:Value->Value->Sem Value) (r:R2):Prop :=
 ∀ (pins:List (Addr × Obj)) (s:Shared) (σ:St) (H:Hp) (x y:V) (v u:Value) (Q:VK),Inv X pins σ H s->a1u x v->a1u y u->r x y H Q ->
  wpAny (model X.prog X.w) X.A (f v u) (EP X pins σ Q) X.xe s
def UnR (X:Cx) (f:Value->Sem Value) (r:V->Hp->VK->Prop):Prop :=
 ∀ (pins:List (Addr × Obj)) (s:Shared) (σ:St) (H:Hp) (x:V) (v:Value) (Q:VK),Inv X pins σ H s->a1u x v->r x H Q ->
  wpAny (model X.prog X.w) X.A (f v) (EP X pins σ Q) X.xe s
def a2W (X:Cx) (f:Value) (r:List V->Hp->VK->Prop):Prop :=
 ∀ (pins:List (Addr × Obj)) (s:Shared) (σ:St) (H:Hp) (xs:List V) (us:List Value) (Q:VK),Inv X pins σ H s->a0U xs us->r xs H Q ->
  wpAny (model X.prog X.w) X.A (call f us) (EP X pins σ Q) X.xe s
def TruR (X:Cx) (r:V->Hp->(Bool->Hp->Prop)->Prop):Prop :=
 ∀ (pins:List (Addr × Obj)) (s:Shared) (σ:St) (H:Hp) (x:V) (v:Value) (Q:Bool->Hp->Prop),Inv X pins σ H s->a1u x v->r x H Q ->
  wpAny (model X.prog X.w) X.A (truthy v) (TP X pins σ Q) X.xe s
def tOp (r:R2) (ta tb:TE):TE:=λσ H Q=>ta σ H λx H1=>tb σ H1 λy H2=>r x y H2 Q
def tUn (r:V->Hp->VK->Prop) (ta:TE):TE:=λσ H Q=>ta σ H λx H1=>r x H1 Q
def rI (C:Int->Int->Prop) (g:Int->Int->V):R2:=λx y H Q=>∃ i j,x=.int i/\y=.int j/\C i j/\Q (g i j) H
def rI0 (g:Int->Int->V):R2:=λx y H Q=>∃ i j,x=.int i/\y=.int j/\Q (g i j) H
def rU (g:Int->V):V->Hp->VK->Prop:=λx H Q=>∃ i,x=.int i/\Q (g i) H
section
variable {X:Cx} {a b c:Expr} {ta tb tc:TE} {pos:Pos}
theorem binT (ha:PE X a ta) (hb:PE X b tb) {pins:List (Addr × Obj)} {s:Shared} {σ:St} {H:Hp} {R:V->V->Hp->Prop} (I:Inv X pins σ H s)
  (h:ta σ H λx H1=>tb σ H1 λy H2=>R x y H2) {Q:Value->Shared->Prop} {f:Value->Value->Sem Value}
  (hf:∀ v u s2 x y H2,Inv X pins σ H2 s2->a1u x v->a1u y u->R x y H2->wpAny (model X.prog X.w) X.A (f v u) Q X.xe s2) :
  wpAny (model X.prog X.w) X.A (eval a X.env) (λv s₁=>wpAny (model X.prog X.w) X.A (eval b X.env) (λu s₂=>wpAny (model X.prog X.w) X.A (f v u) Q X.xe s₂) X.xe s₁) X.xe s:=by
 refine thn (ha pins s σ H _ I h) λv s1 ⟨x,H1,I1,r1,q1⟩=>?_;refine thn (hb pins s1 σ H1 _ I1 q1) λu s2 ⟨y,H2,I2,r2,q2⟩=>?_;exact hf v u s2 x y H2 I2 r1 r2 q2
theorem a0m {op:Operator} {r:R2} (ho:OpR X (binaryOp op) r) (ha:PE X a ta) (hb:PE X b tb):PE X (.BinOp a op b pos) (tOp r ta tb):=by
 intro pins s σ H Q I h;exact wpAny_BinOp (binT ha hb I h λv u s2 x y H2 I2 rx ry q=>ho pins s2 σ H2 x y v u Q I2 rx ry q)
theorem a2t {op:UnaryOp} {r:V->Hp->VK->Prop} (ho:UnR X (unaryOp op) r) (ha:PE X a ta):PE X (.UnaryOp op a pos) (tUn r ta):=by
 intro pins s σ H Q I h;exact UnaryOp_ (thn (ha pins s σ H _ I h) λv s1 ⟨x,H1,I1,r1,q1⟩=>ho pins s1 σ H1 x v Q I1 r1 q1)
theorem opI {f:Value->Value->Sem Value} {C:Int->Int->Prop} {g:Int->Int->Int}
  (rule:∀ (i j:Int) (t u:Tok) (s:Shared) (Q:Value->Shared->Prop) (E:Value->Shared->Prop),C i j->Q (.int (g i j) s.toks) { s with toks:=s.toks+1 }->wpAny (model X.prog X.w) X.A (f (.int i t) (.int j u)) Q E s) :
  OpR X f (rI C λi j=>.int (g i j)):=by
 intro pins s σ H x y v u Q I rx ry h;obtain ⟨i,j,rfl,rfl,hc,q⟩:=h;obtain ⟨t,rfl⟩:=rx;obtain ⟨t',rfl⟩:=ry;exact rule i j t t' s _ _ hc ⟨.int (g i j),H,I.tok _,⟨_,rfl⟩,q⟩
theorem opI0 {f:Value->Value->Sem Value} {g:Int->Int->Int}
  (rule:∀ (i j:Int) (t u:Tok) (s:Shared) (Q:Value->Shared->Prop) (E:Value->Shared->Prop),Q (.int (g i j) s.toks) { s with toks:=s.toks+1 }->wpAny (model X.prog X.w) X.A (f (.int i t) (.int j u)) Q E s) :
  OpR X f (rI0 λi j=>.int (g i j)):=by
 intro pins s σ H x y v u Q I rx ry h;obtain ⟨i,j,rfl,rfl,q⟩:=h;obtain ⟨t,rfl⟩:=rx;obtain ⟨t',rfl⟩:=ry;exact rule i j t t' s _ _ ⟨.int (g i j),H,I.tok _,⟨_,rfl⟩,q⟩
theorem opB0 {f:Value->Value->Sem Value} {g:Int->Int->Bool}
  (rule:∀ (i j:Int) (t u:Tok) (s:Shared) (Q:Value->Shared->Prop) (E:Value->Shared->Prop),Q (.bool (g i j)) s->wpAny (model X.prog X.w) X.A (f (.int i t) (.int j u)) Q E s) :
  OpR X f (rI0 λi j=>.bl (g i j)):=by
 intro pins s σ H x y v u Q I rx ry h;obtain ⟨i,j,rfl,rfl,q⟩:=h;obtain ⟨t,rfl⟩:=rx;obtain ⟨t',rfl⟩:=ry;exact rule i j t t' s _ _ ⟨.bl (g i j),H,I,rfl,q⟩
def CDiv (i j:Int):Prop:=0 < j/\j < 1073741824
def CPow (i j:Int):Prop:=0<=j/\j<=1000000/\i.natAbs < 2 ^ 64
def CMul (i j:Int):Prop:=(-(2 ^ 64) < i/\i < 2 ^ 64)\/(-(2 ^ 64) < j/\j < 2 ^ 64)
theorem CMul.ok {i j:Int} (h:CMul i j):IntMulOk i j:=by
 rcases h with ⟨h1,h2⟩ | ⟨h1,h2⟩
 ·exact .of_left (intBits_le_64 h1 h2)
 ·exact .of_right (intBits_le_64 h1 h2)
theorem a0M:OpR X (binaryOp .Add) (rI0 λi j=>.int (i+j)):=opI0 λ_ _ _ _ _ _ _ q=>add_int q
theorem a2x:OpR X (binaryOp .Sub) (rI0 λi j=>.int (i - j)):=opI0 λ_ _ _ _ _ _ _ q=>sub_int q
theorem b0Y:OpR X (binaryOp .Mult) (rI CMul λi j=>.int (i * j)):=opI λ_ _ _ _ _ _ _ hc q=>mul_int q hc.ok
theorem a1b:OpR X (binaryOp .FloorDiv) (rI CDiv λi j=>.int (i / j)):=opI λi j _ _ _ _ _ hc q=>by
 have h1:(0:Int) < j:=hc.1;have h2:j < 1073741824:=hc.2;exact floordiv_int (by omega) (by rw [Int.fdiv_eq_ediv_of_nonneg i (by omega)];exact q) (.inl (PyProof.noPylong_small (by omega)))
theorem a0O:OpR X (binaryOp .Mod) (rI (λ_ j=>0 < j) λi j=>.int (i % j)):=opI λi j _ _ _ _ _ hc q=>by
 have h1:(0:Int) < j:=hc;exact mod_int' (by omega) (by rw [Int.fmod_eq_emod_of_nonneg i (by omega)];exact q)
theorem a3j:OpR X (binaryOp .Pow) (rI CPow λi j=>.int (i ^ j.toNat)):=opI λ_ _ _ _ _ _ _ hc q=>pow_int_small hc.1 hc.2.1 hc.2.2 q
theorem unI {f:Value->Sem Value} {g:Int->Int}
  (rule:∀ (i:Int) (t:Tok) (s:Shared) (Q:Value->Shared->Prop) (E:Value->Shared->Prop),Q (.int (g i) s.toks) { s with toks:=s.toks+1 }->wpAny (model X.prog X.w) X.A (f (.int i t)) Q E s) :
  UnR X f (rU λi=>.int (g i)):=by
 intro pins s σ H x v Q I rx h;obtain ⟨i,rfl,q⟩:=h;obtain ⟨t,rfl⟩:=rx;exact rule i t s _ _ ⟨.int (g i),H,I.tok _,⟨_,rfl⟩,q⟩
theorem a1J:UnR X (unaryOp .USub) (rU λi=>.int (-i)):=unI λ_ _ _ _ _ q=>neg_int q
end
def scal:V->V->Bool
 | .non,.non=>true | .non,.int _=>true | .int _,.non=>true | .non,.bl _=>true | .bl _,.non=>true | .non,.str _=>true | .str _,.non=>true
 | .int _,.int _=>true | .bl _,.bl _=>true | .str _,.str _=>true | .byt _,.byt _=>true
 | .int _,.str _=>true | .str _,.int _=>true | .bl _,.str _=>true | .str _,.bl _=>true
 | _,_=>false
def rEq:R2:=λx y H Q=>scal x y=true/\Q (.bl (decide (x=y))) H
def rNe:R2:=λx y H Q=>scal x y=true/\Q (.bl (!decide (x=y))) H
theorem a7E {i j:Int}:decide (V.int i=V.int j)=(i == j):=by
 rw [Bool.eq_iff_iff];simp
theorem b0Z {i j:Bool}:decide (V.bl i=V.bl j)=(i == j):=by
 rw [Bool.eq_iff_iff];simp
theorem a7F {i j:Str}:decide (V.str i=V.str j)=(i == j):=by
 rw [Bool.eq_iff_iff];simp
theorem a7G {i j:Array UInt8}:decide (V.byt i=V.byt j)=(i.toList == j.toList):=by
 rw [Bool.eq_iff_iff];cases i;cases j;simp
section
variable {X:Cx} {a b c:Expr} {ta tb tc:TE} {pos:Pos}
theorem a0P {pins:List (Addr × Obj)} {σ:St} {H:Hp} {s:Shared} {Q:VK} {k k':Bool} (I:Inv X pins σ H s) (q:Q (.bl k) H) (e:k=k'):EP X pins σ Q (.bool k') s:=by
 subst e;exact ⟨.bl k,H,I,rfl,q⟩
theorem a1g:OpR X (compareOp .Eq) rEq:=by
 intro pins s σ H x y v u Q I rx ry h;obtain ⟨hs,q⟩:=h;cases x with
 | non =>
  cases rx;cases y with
  | non=>cases ry;exact PySem.EqNone.eq_none_none (a0P I q (by simp))
  | bl j=>cases ry;exact PySem.EqNone.eq_none_bool (a0P I q (by simp))
  | int j=>obtain ⟨t',rfl⟩:=ry;exact PySem.EqNone.eq_none_int (a0P I q (by simp))
  | str j=>obtain ⟨t',rfl⟩:=ry;exact PySem.EqNone.eq_none_str (a0P I q (by simp))
  | _=>exact absurd (show false=true from hs) Bool.false_ne_true
 | bl i =>
  cases rx;cases y with
  | non=>cases ry;exact PySem.EqNone.eq_bool_none (a0P I q (by simp))
  | bl j=>cases ry;exact eq_bool (a0P I q b0Z)
  | str j=>obtain ⟨t',rfl⟩:=ry;exact PySem.EqMixed.eq_bool_str (a0P I q (by simp))
  | _=>exact absurd (show false=true from hs) Bool.false_ne_true
 | int i =>
  obtain ⟨t,rfl⟩:=rx;cases y with
  | non=>cases ry;exact PySem.EqNone.eq_int_none (a0P I q (by simp))
  | int j=>obtain ⟨t',rfl⟩:=ry;exact eq_int (a0P I q a7E)
  | str j=>obtain ⟨t',rfl⟩:=ry;exact PySem.EqMixed.eq_int_str (a0P I q (by simp))
  | _=>exact absurd (show false=true from hs) Bool.false_ne_true
 | str i =>
  obtain ⟨t,rfl⟩:=rx;cases y with
  | non=>cases ry;exact PySem.EqNone.eq_str_none (a0P I q (by simp))
  | bl j=>cases ry;exact PySem.EqMixed.eq_str_bool (a0P I q (by simp))
  | int j=>obtain ⟨t',rfl⟩:=ry;exact PySem.EqMixed.eq_str_int (a0P I q (by simp))
  | str j=>obtain ⟨t',rfl⟩:=ry;exact eq_str (a0P I q a7F)
  | _=>exact absurd (show false=true from hs) Bool.false_ne_true
 | byt i =>
  obtain ⟨t,rfl⟩:=rx;cases y with
  | byt j=>obtain ⟨t',rfl⟩:=ry;exact PySem.W.eq_bytes (a0P I q a7G)
  | _=>exact absurd (show false=true from hs) Bool.false_ne_true
 | _=>cases y <;> exact absurd (show false=true from hs) Bool.false_ne_true
theorem a7H:OpR X (compareOp .NotEq) rNe:=by
 intro pins s σ H x y v u Q I rx ry h;obtain ⟨hs,q⟩:=h;cases x with
 | non =>
  cases rx;cases y with
  | non=>cases ry;exact PySem.EqNone.ne_none_none (a0P I q (by simp))
  | bl j=>cases ry;exact PySem.EqNone.ne_none_bool (a0P I q (by simp))
  | int j=>obtain ⟨t',rfl⟩:=ry;exact PySem.EqNone.ne_none_int (a0P I q (by simp))
  | str j=>obtain ⟨t',rfl⟩:=ry;exact PySem.EqNone.ne_none_str (a0P I q (by simp))
  | _=>exact absurd (show false=true from hs) Bool.false_ne_true
 | bl i =>
  cases rx;cases y with
  | non=>cases ry;exact PySem.EqNone.ne_bool_none (a0P I q (by simp))
  | bl j=>cases ry;exact ne_bool (a0P I q (congrArg not b0Z))
  | str j=>obtain ⟨t',rfl⟩:=ry;exact PySem.EqMixed.ne_bool_str (a0P I q (by simp))
  | _=>exact absurd (show false=true from hs) Bool.false_ne_true
 | int i =>
  obtain ⟨t,rfl⟩:=rx;cases y with
  | non=>cases ry;exact PySem.EqNone.ne_int_none (a0P I q (by simp))
  | int j=>obtain ⟨t',rfl⟩:=ry;exact ne_int (a0P I q (congrArg not a7E))
  | str j=>obtain ⟨t',rfl⟩:=ry;exact PySem.EqMixed.ne_int_str (a0P I q (by simp))
  | _=>exact absurd (show false=true from hs) Bool.false_ne_true
 | str i =>
  obtain ⟨t,rfl⟩:=rx;cases y with
  | non=>cases ry;exact PySem.EqNone.ne_str_none (a0P I q (by simp))
  | bl j=>cases ry;exact PySem.EqMixed.ne_str_bool (a0P I q (by simp))
  | int j=>obtain ⟨t',rfl⟩:=ry;exact PySem.EqMixed.ne_str_int (a0P I q (by simp))
  | str j=>obtain ⟨t',rfl⟩:=ry;exact ne_str (a0P I q (congrArg not a7F))
  | _=>exact absurd (show false=true from hs) Bool.false_ne_true
 | byt i =>
  obtain ⟨t,rfl⟩:=rx;cases y with
  | byt j=>obtain ⟨t',rfl⟩:=ry;exact PySem.W.ne_bytes (a0P I q (congrArg not a7G))
  | _=>exact absurd (show false=true from hs) Bool.false_ne_true
 | _=>cases y <;> exact absurd (show false=true from hs) Bool.false_ne_true
theorem a5J:OpR X (compareOp .Lt) (rI0 λi j=>.bl (decide (i < j))):=opB0 λ_ _ _ _ _ _ _ q=>lt_int q
theorem a1W:OpR X (compareOp .LtE) (rI0 λi j=>.bl (decide (i<=j))):=opB0 λ_ _ _ _ _ _ _ q=>le_int q
theorem a5K:OpR X (compareOp .Gt) (rI0 λi j=>.bl (decide (j < i))):=opB0 λ_ _ _ _ _ _ _ q=>gt_int q
theorem a3F:OpR X (compareOp .In) (λx y H Q=>∃ i j,x=.str i/\y=.str j/\Q (.bl (!(Builtin.Str.occurrences j i 0 j.length 1).isEmpty)) H):=by
 intro pins s σ H x y v u Q I rx ry h;obtain ⟨i,j,rfl,rfl,q⟩:=h;obtain ⟨t,rfl⟩:=rx;obtain ⟨t',rfl⟩:=ry;exact in_str (a0P I q rfl)
theorem b1Y:OpR X (compareOp .IsNot) (λx y H Q=>y=.non/\Q (.bl (!decide (x=.non))) H):=by
 intro pins s σ H x y v u Q I rx ry h;obtain ⟨rfl,q⟩:=h;cases ry;refine isnot_none_gen (a0P I q ?_);cases x <;> first
  | (cases rx;rfl)
  | (obtain ⟨t,rfl⟩:=rx;rfl)
def isObj:HO->Bool
 | .lst _=>true
 | .ins _ _ _=>true
 | _=>false
theorem nomark (b:Expr) {op:CmpOp} (h:op≠.In:=by decide) (h2:op≠.NotIn:=by decide):behindInMarks op b=false:=by
 have e1:(op == CmpOp.In)=false:=by cases op <;> first | rfl | exact absurd rfl h
 have e2:(op == CmpOp.NotIn)=false:=by cases op <;> first | rfl | exact absurd rfl h2
 cases b <;> simp [behindInMarks,e1,e2]
theorem a0Y {op:CmpOp} {r:R2} (ho:OpR X (compareOp op) r) (ha:PE X a ta) (hb:PE X b tb) (hm:behindInMarks op b=false):PE X (.Compare a [op] [b] pos) (tOp r ta tb):=by
 intro pins s σ H Q I h;exact wpAny_Compare1 (binT ha hb I h λv u s2 x y H2 I2 rx ry q=>ho pins s2 σ H2 x y v u Q I2 rx ry q) hm
def tTest (t:TE):TT:=λσ H Q=>t σ H λx H'=>∃ k,x=.bl k/\Q k H'
theorem a0y {op:CmpOp} {r:R2} (ho:OpR X (compareOp op) r) (ha:PE X a ta) (hb:PE X b tb) (hm:behindInMarks op b=false):PT X (.Compare a [op] [b] pos) (tTest (tOp r ta tb)):=by
 intro pins s σ H Q I h;refine wpAny_isTrue_Compare1 (thn (ha pins s σ H _ I h) λv s1 ⟨x,H1,I1,r1,q1⟩=>thn (hb pins s1 σ H1 _ I1 q1) λu s2 ⟨y,H2,I2,r2,q2⟩ =>
  thn (ho pins s2 σ H2 x y v u _ I2 r1 r2 q2) λc s3 ⟨z,H3,I3,r3,k,e,q3⟩=>?_) hm
 subst e;cases r3;exact wpAny_truthy_bool ⟨H3,I3,q3⟩
def b1a (r r':R2) (ta tb tc:TE):TE:=λσ H Q=>ta σ H λx H1=>tb σ H1 λy H2=>r x y H2 λz H3=>∃ k,z=.bl k /\
 (if k=true then tc σ H3 λw' H4=>r' y w' H4 Q else Q (.bl false) H3)
theorem a2H {op op':CmpOp} {r r':R2} (ho:OpR X (compareOp op) r) (ho':OpR X (compareOp op') r') (ha:PE X a ta) (hb:PE X b tb) (hc:PE X c tc)
  (hm:lastMarks [op,op'] [b,c]=false:=by with_unfolding_all rfl):PE X (.Compare a [op,op'] [b,c] pos) (b1a r r' ta tb tc):=by
 intro pins s σ H Q I h;refine Compare_chain (thn (ha pins s σ H _ I h) λv s1 ⟨x,H1,I1,r1,q1⟩=>chain_link (thn (hb pins s1 σ H1 _ I1 q1) λu s2 ⟨y,H2,I2,r2,q2⟩ =>
  thn (ho pins s2 σ H2 x y v u _ I2 r1 r2 q2) λd s3 ⟨z,H3,I3,r3,k,e,q3⟩=>?_)) hm
 subst e;cases r3;refine wpAny_truthy_bool ?_;cases k with
 | false=>exact ite_ff ⟨.bl false,H3,I3,rfl,q3⟩
 | true=>exact ite_tt (chain_last (thn (hc pins s3 σ H3 _ I3 q3) λw' s4 ⟨z',H4,I4,r4,q4⟩=>ho' pins s4 σ H4 y z' u w' Q I4 r2 r4 q4))
theorem a2o {op op':CmpOp} {r r':R2} (ho:OpR X (compareOp op) r) (ho':OpR X (compareOp op') r') (ha:PE X a ta) (hb:PE X b tb) (hc:PE X c tc)
  (hm:lastMarks [op,op'] [b,c]=false:=by with_unfolding_all rfl):PT X (.Compare a [op,op'] [b,c] pos) (tTest (b1a r r' ta tb tc)):=by
 intro pins s σ H Q I h;refine isTrue_chain (thn (ha pins s σ H _ I h) λv s1 ⟨x,H1,I1,r1,q1⟩=>test_link (thn (hb pins s1 σ H1 _ I1 q1) λu s2 ⟨y,H2,I2,r2,q2⟩ =>
  thn (ho pins s2 σ H2 x y v u _ I2 r1 r2 q2) λd s3 ⟨z,H3,I3,r3,k,e,q3⟩=>?_)) hm
 subst e;cases r3;refine wpAny_truthy_bool ?_;cases k with
 | false =>
  obtain ⟨k',e',q'⟩:=q3;cases e';exact ite_ff ⟨H3,I3,q'⟩
 | true =>
  refine ite_tt (test_last (thn (hc pins s3 σ H3 _ I3 q3) λw' s4 ⟨z',H4,I4,r4,q4⟩=>thn (ho' pins s4 σ H4 y z' u w' _ I4 r2 r4 q4) λd' s5 ⟨z2,H5,I5,r5,k2,e2,q5⟩=>?_));subst e2;cases r5;exact wpAny_truthy_bool ⟨H5,I5,q5⟩
def TruV (K:PySem.W.Frag) (x:V) (H:Hp) (k:Bool):Prop :=
 match x with
 | .non=>k=false
 | .bl b=>k=b
 | .int i=>k=(i != 0)
 | .str y=>y.length<=sizeLine/\k=((y.length:Int) != 0)
 | .byt y=>y.size<=sizeLine/\k=((y.size:Int) != 0)
 | .ref p=>(∃ xs,SqL K H p xs/\k=!xs.isEmpty)\/(∃ xs,SqT K H p xs/\k=!xs.isEmpty)\/∃ kvs,H p=some (.dK kvs)/\k=!kvs.isEmpty
 | _=>False
theorem a4p:(sizeLine:Nat) < 2 ^ 63:=by rw [sizeLine_eq];decide
theorem a0A:OpR X (binaryOp .Add) (λx y H Q=>∃ i j,x=.str i/\y=.str j/\i.length+j.length<=sizeLine/\Q (.str (i++j)) H):=by
 intro pins s σ H x y v u Q I rx ry h;obtain ⟨i,j,rfl,rfl,hz,q⟩:=h;obtain ⟨t,rfl⟩:=rx;obtain ⟨t',rfl⟩:=ry;exact add_str (λt' tk=>⟨.str (i++j),H,I.tok _,⟨_,rfl⟩,q⟩) hz
theorem a3q {x:V} {us:List Value} (r:a0U [x] us):∃ u,us=[u]/\a1u x u:=by
 cases r with
 | cons r1 r2=>cases r2;exact ⟨_,rfl,r1⟩
theorem a3k:a2W X (.type "str") (λxs H Q=>∃ i,xs=[.int i]/\i.natAbs.log2 < 1920/\Q (.str (toString i)) H):=by
 intro pins s σ H xs us Q I r h;obtain ⟨i,rfl,hz,q⟩:=h;obtain ⟨u,rfl,t,rfl⟩:=a3q r;exact PySem.P.str_of_int hz ⟨.str _,H,I.tok _,⟨_,rfl⟩,q⟩
def LenV (K:PySem.W.Frag) (x:V) (H:Hp) (n:Nat):Prop :=
 match x with
 | .str y=>y.length<=sizeLine/\n=y.length
 | .byt y=>y.size<=sizeLine/\n=y.size
 | .ref p=>(∃ xs,SqL K H p xs/\n=xs.length)\/∃ xs,SqT K H p xs/\n=xs.length
 | _=>False
end
structure b1Z (h:Heap) (x dx C:Addr) (mA:Str->Option Value):Prop where
 obj:h.get? x=some (PySem.W.instObj C dx)
 ns:h.Ns1 dx mA
 ne:dx≠x
theorem a7I {h:Heap} {dx:Addr} {mA:Str->Option Value} (n:h.Ns1 dx mA):∃ od,h.get? dx=some od/\∀ name,PySem.W.lookIn name od=some (mA name):=by
 obtain ⟨o,es,ep,ho,hd,hk,_,hm⟩:=n;refine ⟨o,ho,λname=>?_⟩;have e:=hm name;unfold nsFind findBy at e;rw [<-Array.find?_toList] at e;unfold PySem.W.lookIn;rw [hd];dsimp only;split
 ·rename_i y q;rw [q] at e;exact congrArg some e
 ·rename_i q;rw [q] at e;have a:es.toList.any (·.refKey)=false:=by
   rw [List.any_eq_false];intro y hy;obtain ⟨z,t,hkey⟩:=hk y (Array.mem_toList_iff.mp hy);simp [DictEntry.refKey,hkey]
  have a':¬ es.toList.any (·.refKey)=true:=by rw [a];exact Bool.false_ne_true
  rw [if_neg a'];exact congrArg some e
theorem b1Z.look {h:Heap} {x dx C:Addr} {mA:Str->Option Value} (I:b1Z h x dx C mA):∃ od,PySem.W.InstAt h x (PySem.W.instObj C dx) C (some od)/\∀ name,PySem.W.lookIn name od=some (mA name) :=
 let ⟨od,ho,hl⟩:=a7I I.ns
 ⟨od,⟨I.obj,rfl,rfl,ho⟩,hl⟩
section
variable {prog:Program} {w:World} {A:Around} {E:Value->Shared->Prop} {s:Shared} {K:PySem.W.Frag} {x dx C f:Addr} {mA:Str->Option Value} {name:Str} {v:Value}
theorem b2a {expr:Bool} {Q:Value->Shared->Prop} (X:K.In s.heap) (I:b1Z s.heap x dx C mA) (hg:PySem.W.plainGet K C name=true) (hh:PySem.W.hasDictIn K C=true)
  (ha:PySem.W.findIn K (.ref C) name=some none) (hv:mA name=some v) (hv':PySem.W.handedIn v=true) (h:Q v { s with toks:=s.toks+1 }) :
  wpAny (model prog w) A (getAttr (.ref x) name expr) Q E s:=by
 obtain ⟨od,J,hl⟩:=I.look;exact PySem.W.get_value X J (PySem.W.plainGet_of hg).1 (PySem.W.findObj_own hh ha rfl (by rw [hl,hv])) hv' h
theorem a9N {pl:Sem Bool} {Q:Value × List Value->Shared->Prop} (X:K.In s.heap) (I:b1Z s.heap x dx C mA) (hg:PySem.W.plainGet K C name=true)
  (hf:PySem.W.findIn K (.ref C) name=some (some (.ref f))) (ht:PySem.W.isFn K (.ref f)=true) (hv:mA name=none) (h:Q (.ref f,[.ref x]) s) :
  wpAny (model prog w) A (getMethod (.ref x) name pl) Q E s:=by
 obtain ⟨od,J,hl⟩:=I.look;exact PySem.W.method_fn X J (PySem.W.plainGet_of hg).1 (PySem.W.plainGet_of hg).2 hf (beq_iff_eq.mp ht) (by show (PySem.W.lookIn name od).map (·.isSome)=some false;rw [hl,hv];rfl) h
theorem b2b {ns:List Str} {Q:Unit->Shared->Prop} (X:K.In s.heap) (I:b1Z s.heap x dx C mA)
  (hs:PySem.W.findIn K (.ref C) "__setattr__"=some (some (.builtin "object.__setattr__"))) (hp:PySem.W.plainOver K C=true) (ht:PySem.W.takerIn K C name=some none) (hh:PySem.W.hasDictIn K C=true)
  (hw:PySem.Within mA ns) (hsz:ns.length<=sizeLine)
  (h:∀ h',b1Z h' x dx C (λy=>if y=name then some v else mA y)->Heap.SameBut dx s.heap h'->Q () { s with heap:=h',toks:=s.toks+2 }) :
  wpAny (model prog w) A (setAttr (.ref x) name v) Q E s:=by
 obtain ⟨od,J,hl⟩:=I.look;refine PySem.W.set_plain X J hs (PySem.W.osa_open (s:={ s with toks:=s.toks+1 }) (r:=none) X J hp ht λb=>?_);obtain ⟨cd,hc,hd'⟩:=PySem.W.any_some hh;have hx:s.heap.get? x=some ⟨.ref C,some dx,.plain,#[]⟩:=I.obj;refine wpAny_bind (wpAny_pure (wpAny_bind (wpAny_bind (wpAny_loadPart hx (wpAny_bind (PySem.W.Looks.here (s:={ s with toks:=s.toks+1 }) (PySem.W.looks_clsIn X hc) ?_))))));rw [hd'];refine wpAny_pure (a:=some dx) (wpAny_bind (wpAny_pure (wpAny_bind ?_)));refine wpAny_nsSet1 (s:={ s with toks:=s.toks+1 }) I.ns λh' hn2 hs2=>?_;obtain ⟨oD,esD,epD,hoD,hdD,hcD⟩:=hn2.count (PySem.Within.cons name v hw);refine wpAny_bind (wpAny_lookBehind hoD (by rw [hdD];exact pastItsLine_dict (Nat.le_trans hcD (by rw [List.length_cons];omega))) ?_);exact wpAny_pure (h _ ⟨(hs2.2 _ (Ne.symm I.ne)).trans I.obj,hn2,I.ne⟩ hs2)
theorem a9O {R:Result->Shared->Prop} {vs:List Value} {kw:List (Str × Value)} (X:K.In s.heap) (hm:PySem.W.makesIn K C=true)
  (hi:PySem.W.findIn K (.ref C) "__init__"=some (some (.ref f))) (hf:PySem.W.typeIn K (.ref f)=some (.type "function"))
  (h:codeAny (model prog w) (A.under (.builtin "type.__call__" ⟨.ref C :: vs,kw⟩)) (.call (.ref f) ⟨.ref (s.heap.objs.size+1) :: vs,kw⟩) (PySem.W.InitBack (s.heap.objs.size+1) R)
   { s with heap:=(s.heap.push PySem.W.emptyDict).push (PySem.W.instObj C s.heap.objs.size) }) :
  codeAny (model prog w) A (.call (.ref C) ⟨vs,kw⟩) R s:=by
 obtain ⟨hh,g,d,t,os⟩:=s;exact PySem.W.make_core (PySem.W.makes_of X hm) (PySem.W.looks_findIn X hi) (λself=>PySem.W.bind_fn X self hf) (.inl rfl) h
end
def a1x (f:Str) (v:V):List (Str × V)->List (Str × V)
 | []=>[(f,v)]
 | (g,x) :: r=>if g=f then (g,v) :: r else (g,x) :: a1x f v r
theorem a3G (f g:Str) (v:V):∀ fs:List (Str × V),(a1x f v fs).lookup g=if g=f then some v else fs.lookup g
 | []=>by
  show List.lookup g [(f,v)]=_;by_cases h:g=f
  ·have hb:(g == f)=true:=beq_iff_eq.mpr h;simp only [List.lookup,hb,if_pos h]
  ·have hb:(g == f)=false:=beq_eq_false_iff_ne.mpr h;simp only [List.lookup,hb,if_neg h]
 | (k,x) :: r=>by
  have ih:=a3G f g v r;rw [show a1x f v ((k,x) :: r)=(if k=f then (k,v) :: r else (k,x) :: a1x f v r) from rfl];by_cases hk:k=f
  ·rw [if_pos hk];by_cases h:g=k
   ·have hb:(g == k)=true:=beq_iff_eq.mpr h;simp only [List.lookup,hb,if_pos (h.trans hk)]
   ·have hb:(g == k)=false:=beq_eq_false_iff_ne.mpr h;simp only [List.lookup,hb,if_neg (λe:g=f=>h (e.trans hk.symm))]
  ·rw [if_neg hk];by_cases h:g=k
   ·have hb:(g == k)=true:=beq_iff_eq.mpr h;simp only [List.lookup,hb,if_neg (λe:g=f=>hk (h.symm.trans e))]
   ·have hb:(g == k)=false:=beq_eq_false_iff_ne.mpr h;simp only [List.lookup,hb];exact ih
theorem a3H (f:Str) (v:V):∀ fs:List (Str × V),f∈(a1x f v fs).map (·.1)/\∀ g,g∈fs.map (·.1)->g∈(a1x f v fs).map (·.1)
 | []=>⟨by simp [a1x],λg h=>by simp at h⟩
 | (k,x) :: r=>by
  obtain ⟨i1,i2⟩:=a3H f v r;rw [show a1x f v ((k,x) :: r)=(if k=f then (k,v) :: r else (k,x) :: a1x f v r) from rfl];by_cases hk:k=f
  ·rw [if_pos hk];subst hk;exact ⟨by simp,λg h=>by simpa using h⟩
  ·rw [if_neg hk];refine ⟨?_,λg h=>?_⟩
   ·rw [List.map_cons];exact List.mem_cons_of_mem _ i1
   ·rw [List.map_cons] at h ⊢;rcases List.mem_cons.mp h with e | e
    ·exact List.mem_cons.mpr (.inl e)
    ·exact List.mem_cons_of_mem _ (i2 g e)
theorem a3I (f:Str) (v:V):∀ fs:List (Str × V),(a1x f v fs).length<=fs.length+1
 | []=>by simp [a1x]
 | (k,x) :: r=>by
  have ih:=a3I f v r;rw [show a1x f v ((k,x) :: r)=(if k=f then (k,v) :: r else (k,x) :: a1x f v r) from rfl];by_cases hk:k=f
  ·rw [if_pos hk,List.length_cons,List.length_cons];omega
  ·rw [if_neg hk,List.length_cons,List.length_cons];omega
theorem a9B.some_of {v:V} {o:Option Value} (r:a9B (some v) o):∃ u,o=some u/\a1u v u:=by
 cases o with
 | none=>exact (show False from r).elim
 | some u=>exact ⟨u,rfl,r⟩
theorem a9B.none_of {o:Option Value} (r:a9B none o):o=none:=by
 cases o with
 | none=>rfl
 | some u=>exact (show False from r).elim
theorem a7J {v:V} {u:Value} (r:a1u v u):PySem.W.handedIn u=true:=by
 cases v with
 | non=>cases (show u=Value.none from r);rfl
 | bl b=>cases (show u=Value.bool b from r);rfl
 | int i=>obtain ⟨t,e⟩:=(show ∃ t,u=Value.int i t from r);cases e;rfl
 | str x=>obtain ⟨t,e⟩:=(show ∃ t,u=Value.str x t from r);cases e;rfl
 | byt b=>obtain ⟨t,e⟩:=(show ∃ t,u=Value.bytes b t from r);cases e;rfl
 | flt b=>obtain ⟨t,e⟩:=(show ∃ t,u=Value.float b t from r);cases e;rfl
 | ref a=>cases (show u=Value.ref a from r);rfl
 | ty n=>cases (show u=Value.type n from r);rfl
section
variable {P:Program} {w:World} {H H':Hp} {h h':Heap} {a C dx:Addr} {fs fs':List (Str × V)}
theorem a5L (hok:HOk P w H h) (e:H a=some (.ins C dx fs)):∃ mA,b1Z h a dx C mA/\(∀ f,a9B (fs.lookup f) (mA f))/\PySem.Within mA (fs.map (·.1))/\fs.length<=1000/\H dx=some (.own a):=by
 obtain ⟨d,z,ne,ob,mA,n,r,q⟩:=(show a1T P w H h a (.ins C dx fs) from hok a _ e)
 exact ⟨mA,⟨ob,n,ne⟩,r,q,z,d⟩
end
structure Cls (K:PySem.W.Frag) (C:Addr):Prop where
 pg:PySem.W.plainGet K C Str.empty=true
 hd:PySem.W.hasDictIn K C=true
 po:PySem.W.plainOver K C=true
 sa:PySem.W.findIn K (.ref C) "__setattr__"=some (some (.builtin "object.__setattr__"))
theorem Cls.get {K:PySem.W.Frag} {C:Addr} (c:Cls K C) (f:Str):PySem.W.plainGet K C f=true:=c.pg
def a1l (K:PySem.W.Frag) (C:Addr) (f:Str):Prop:=PySem.W.findIn K (.ref C) f=some none
theorem a1l.taker {K:PySem.W.Frag} {C:Addr} {f:Str} (n:a1l K C f):PySem.W.takerIn K C f=some none:=by
 unfold PySem.W.takerIn;rw [show PySem.W.findIn K (.ref C) f=some none from n];rfl
structure Con (K:PySem.W.Frag) (C:Addr) (f:Str) (v:V) (u:Value):Prop where
 at_:PySem.W.findIn K (.ref C) f=some (some u)
 rel:a1u v u
 get:PySem.W.specialIn K u "__get__"=some none
 cp:PySem.W.copiedNames.contains f=false
structure b2c (K:PySem.W.Frag) (C:Addr) (m:Str) (f:Addr):Prop where
 at_:PySem.W.findIn K (.ref C) m=some (some (.ref f))
 fn:PySem.W.isFn K (.ref f)=true
 kp:PySem.W.keepIn K (.ref f)=true
section
variable {X:Cx} {pins:List (Addr × Obj)} {σ:St} {H:Hp} {s:Shared} {a C dx:Addr} {fs:List (Str × V)} {f:Str} {v:V} {A:Around} {E:Value->Shared->Prop}
theorem a6O {b:Bool} {Q:Value->Shared->Prop} (I:Inv X pins σ H s) (e:H a=some (.ins C dx fs)) (c:Cls X.K C) (n:a1l X.K C f) (l:fs.lookup f=some v)
  (h:∀ u s',Inv X pins σ H s'->a1u v u->Q u s'):wpAny (model X.prog X.w) A (getAttr (.ref a) f b) Q E s:=by
 obtain ⟨mA,O,r,_,_,_⟩:=a5L I.hok e;obtain ⟨u,hu,ru⟩:=a9B.some_of (v:=v) (o:=mA f) (by rw [<-l];exact r f);exact b2a I.kIn O (c.get f) c.hd n hu (a7J ru) (h u _ (I.tok _) ru)
theorem a2p {m:Str} {g:Addr} {pl:Sem Bool} {Q:Value × List Value->Shared->Prop} (I:Inv X pins σ H s) (e:H a=some (.ins C dx fs)) (c:Cls X.K C) (k:b2c X.K C m g) (l:fs.lookup m=none)
  (h:Q (.ref g,[.ref a]) s):wpAny (model X.prog X.w) A (getMethod (.ref a) m pl) Q E s:=by
 obtain ⟨mA,O,r,_,_,_⟩:=a5L I.hok e;have hn:mA m=none:=a9B.none_of (by rw [<-l];exact r m);exact a9N I.kIn O (c.get m) k.at_ k.fn hn h
theorem a6P {y:V} {u:Value} {Q:Unit->Shared->Prop} (I:Inv X pins σ H s) (e:H a=some (.ins C dx fs)) (c:Cls X.K C) (n:a1l X.K C f) (hl:fs.length < 1000) (ry:a1u y u)
  (h:∀ s',Inv X pins σ (upd H a (.ins C dx (a1x f y fs))) s'->Q () s'):wpAny (model X.prog X.w) A (setAttr (.ref a) f u) Q E s:=by
 obtain ⟨mA,O,r,wi,_,ho⟩:=a5L I.hok e;have hz:(fs.map (·.1)).length<=sizeLine:=by rw [List.length_map,sizeLine_eq];omega
 refine b2b I.kIn O c.sa c.po n.taker c.hd wi hz λh' O' sb=>h _ ?_;have hd:∃ o,h'.get? dx=some o:=let ⟨o,_,_,e',_⟩:=O'.ns;⟨o,e'⟩
 refine I.write (x:=a) (e:=dx) (by rw [e];exact True.intro) (.inr ho) (λb q hb z=>(sb.2 b hb).trans z) hd ?_;refine ⟨by rw [a0j O.ne];exact ho,?_,O.ne,O'.obj,_,O'.ns,λg=>?_,λg hg=>?_⟩
 ·have:=a3I f y fs;omega
 ·show a9B ((a1x f y fs).lookup g) (if g=f then some u else mA g);rw [a3G];by_cases q:g=f
  ·rw [if_pos q,if_pos q];exact ry
  ·rw [if_neg q,if_neg q];exact r g
 ·by_cases q:g=f
  ·rw [q];exact (a3H f y fs).1
  ·refine (a3H f y fs).2 g (wi g λz=>hg ?_);show (if g=f then some u else mA g)=none;rw [if_neg q];exact z
theorem Inv.made (I:Inv X pins σ H s):Inv X pins σ (upd (upd H s.heap.objs.size (.own (s.heap.objs.size+1))) (s.heap.objs.size+1) (.ins C s.heap.objs.size []))
  { s with heap:=(s.heap.push PySem.W.emptyDict).push (PySem.W.instObj C s.heap.objs.size) }:=by
 have e1:(s.heap.push PySem.W.emptyDict).get? s.heap.objs.size=some PySem.W.emptyDict:=Heap.get?_push_size s.heap rfl;have e2:((s.heap.push PySem.W.emptyDict).push (PySem.W.instObj C s.heap.objs.size)).get? (s.heap.objs.size+1)=some (PySem.W.instObj C s.heap.objs.size):=by
  have:=Heap.get?_push_size (s.heap.push PySem.W.emptyDict) (o:=PySem.W.instObj C s.heap.objs.size) rfl
  rwa [Heap.size_push] at this
 have e3:(s.heap.push PySem.W.emptyDict).Ns s.heap.objs.size (λ_=>none):=⟨PySem.W.emptyDict,#[],_,e1,rfl,(λe he=>absurd he (by simp)),λ_=>rfl⟩
 have I1:=I.laid (a:=s.heap.objs.size) (o:=.own (s.heap.objs.size+1)) (h':=s.heap.push PySem.W.emptyDict) (t':=s.toks) (λb u q=>Heap.get?_push_of_some _ q) (Nat.le_refl _) ⟨_,e1⟩;refine I1.laid (a:=s.heap.objs.size+1) (o:=.ins C s.heap.objs.size []) (t':=s.toks) (λb u q=>Heap.get?_push_of_some _ q) (Nat.le_of_eq (Heap.size_push _ _)) ?_;have ne:s.heap.objs.size≠s.heap.objs.size+1:=Nat.ne_of_lt (Nat.lt_succ_self _);refine ⟨by rw [a0j ne,a0b],Nat.zero_le _,ne,e2,λ_=>none,(Heap.Ns1.of_empty e3).at λo q=>Heap.get?_push_of_some _ q,λ_=>True.intro,λy hy=>absurd rfl hy⟩
theorem b2d {prog:Program} {w:World} {env:Env} {e:Expr} {f:Str} {pos:Pos} {s:Shared} {Q:Value->Shared->Prop} (hb:attributeBase e f env (eval e env)=eval e env)
  (h:wpAny (model prog w) A (eval e env) (λo s₁=>wpAny (model prog w) A (getAttr o f true) Q E s₁) E s):wpAny (model prog w) A (eval (.Attribute e f pos) env) Q E s :=
 Attribute_any_ h (by rw [arm_eval_Attribute,hb])
end
def tFld (K:PySem.W.Frag) (ta:TE) (f:Str):TE:=λσ H Q=>ta σ H λx H1=>∃ a C dx fs v,x=.ref a/\H1 a=some (.ins C dx fs)/\Cls K C/\a1l K C f/\fs.lookup f=some v/\Q v H1
def tCon (K:PySem.W.Frag) (ta:TE) (f:Str):TE:=λσ H Q=>ta σ H λx H1=>∃ a C dx fs v u,x=.ref a/\H1 a=some (.ins C dx fs)/\Cls K C/\Con K C f v u/\fs.lookup f=none/\Q v H1
def sFld (K:PySem.W.Frag) (ta tv:TE) (f:Str):TS:=λD σ H=>tv σ H λy H1=>ta σ H1 λx H2=>∃ a C dx fs,x=.ref a/\H2 a=some (.ins C dx fs)/\Cls K C/\a1l K C f/\fs.length < 1000 /\
 D.nx σ (upd H2 a (.ins C dx (a1x f y fs)))
def InOp (X:Cx) (op:Operator) (rd:V->V->Hp->VK->Prop):Prop :=
 ∀ (pins:List (Addr × Obj)) (s:Shared) (σ:St) (H:Hp) (x y:V) (u v:Value) (Q:VK),Inv X pins σ H s->a1u x u->a1u y v->rd x y H Q->wpAny (model X.prog X.w) X.A (inplaceOp op u v) (EP X pins σ Q) X.xe s
def sFldAug (K:PySem.W.Frag) (ta tv:TE) (rd:V->V->Hp->VK->Prop) (f:Str):TS:=λD σ H=>ta σ H λx H1=>∃ a C dx fs v,x=.ref a/\H1 a=some (.ins C dx fs)/\Cls K C/\a1l K C f/\fs.lookup f=some v /\
 tv σ H1 λy H2=>rd v y H2 λz H3=>∃ dx' fs',H3 a=some (.ins C dx' fs')/\fs'.length < 1000/\D.nx σ (upd H3 a (.ins C dx' (a1x f z fs')))
section
variable {X:Cx} {o e value:Expr} {f:Str} {pos pos' tpos:Pos} {ta tv:TE}
theorem a0F (he:PE X e ta) (hb:attributeBase e f X.env (eval e X.env)=eval e X.env):PE X (.Attribute e f pos) (tFld X.K ta f):=by
 intro pins s σ H Q I h;refine b2d hb (thn (he pins s σ H _ I h) λu s1 ⟨x,H1,I1,rx,a,C,dx,fs,v,ex,ea,c,n,l,q⟩=>?_);subst ex;obtain rfl:u=Value.ref a:=rx;exact a6O I1 ea c n l λu' s2 I2 ru=>⟨v,H1,I2,ru,q⟩
theorem a1w (ha:PE X o ta) (hv:PE X value tv) (hs:swapsWith value (some (.Attribute o f pos')) pos.line X.env=pure false):PS X (.Assign [.Attribute o f pos'] value pos) (sFld X.K ta tv f):=by
 intro pins s σ H D I h;refine plainObj_wpAny_Assign_Attribute (thn (hv pins s σ H _ I h) λu s1 ⟨y,H1,I1,ry,q⟩=>thn (ha pins s1 σ H1 _ I1 q) λov s2 ⟨x,H2,I2,rx,a,C,dx,fs,ex,ea,c,n,l,q2⟩=>?_) hs;subst ex;obtain rfl:ov=Value.ref a:=rx;exact a6P I2 ea c n l ry λs3 I3=>⟨σ,_,I3,q2⟩
end
section
variable {X:Cx} {pins:List (Addr × Obj)} {σ:St} {H:Hp} {s:Shared} {A:Around} {E:Value->Shared->Prop} {Q:Value->Shared->Prop} {c:Value} {b:Bool}
inductive a7K (K:PySem.W.Frag) (H:Hp):V->Value->Prop where
 | non:a7K K H .non (.type "NoneType")
 | bl (x:Bool):a7K K H (.bl x) (.type "bool")
 | int (i:Int):a7K K H (.int i) (.type "int")
 | str (x:Str):a7K K H (.str x) (.type "str")
 | flt (x:UInt64):a7K K H (.flt x) (.type "float")
 | lst {a:Addr} {xs:List V} (e:H a=some (.lst xs)):a7K K H (.ref a) (.type "list")
 | frz {a:Addr} {o:Obj} {xs:List V} (e:H a=some (.frz o (.lst xs))):a7K K H (.ref a) (.type "list")
 | tup {a:Addr} {xs:List V} (e:H a=some (.tup xs)):a7K K H (.ref a) (.type "tuple")
 | dK {a:Addr} {kvs:List (Key × V)} (e:H a=some (.dK kvs)):a7K K H (.ref a) (.type "dict")
 | dT {a:Addr} {kvs:List (List Key × V)} (e:H a=some (.dT kvs)):a7K K H (.ref a) (.type "dict")
 | ins {a C dx:Addr} {fs:List (Str × V)} (e:H a=some (.ins C dx fs)) (cl:Cls K C) (ha:PySem.W.findIn K (.ref C) "__class__"=some (some (.builtin "object.__class__")))
   (hn:PySem.W.specialIn K (.builtin "object.__class__") "__get__"=some (some (.builtin "getset_descriptor.__get__"))) (htk:PySem.W.takesIn K (.builtin "object.__class__")=some true)
   (hm:PySem.W.mroIn K C (.type "object")=some true):a7K K H (.ref a) (.ref C)
end
structure a3l (k:Nat) (A:Around):Prop where
 hd:A.handled=none
 dp:A.depth+3 * k+5 < recursionLimit
 un:A.units+16 * k+200 < cLine
theorem a3l.mono {j k:Nat} {A:Around} (r:a3l k A) (h:j<=k):a3l j A:=⟨r.hd,by have:=r.dp;omega,by have:=r.un;omega⟩
theorem a3l.deeper {k:Nat} {A:Around} (r:a3l (k+1) A) (env:Env):a3l k (A.deeper env) :=
 ⟨r.hd,by have:=r.dp;show A.depth+1+3 * k+5 < _;omega,by have:=r.un;show A.units+3+16 * k+200 < _;omega⟩
theorem a6Q {A:Around} {C:Addr} {us:List Value} {kw:List (Str × Value)}:(A.under (.builtin "type.__call__" ⟨.ref C :: us,kw⟩)).depth=A.depth+1:=by
 first | rfl | simp [Around.under,Code.weight,Code.isCreation,Code.isGuard,Code.isCaller,Code.frames,Code.isFrame,guardIds]
theorem a6R {A:Around} {C:Addr} {us:List Value} {kw:List (Str × Value)}:(A.under (.builtin "type.__call__" ⟨.ref C :: us,kw⟩)).units=A.units+1:=by
 first | rfl | simp [Around.under,Code.cUnits,Code.frames,Code.isFrame]
theorem a3l.make {k:Nat} {A:Around} (r:a3l (k+1) A) (C:Addr) (us:List Value) (kw:List (Str × Value)):a3l k (A.under (.builtin "type.__call__" ⟨.ref C :: us,kw⟩)) :=
 ⟨r.hd,by have:=r.dp;rw [a6Q];omega,by have:=r.un;rw [a6R];omega⟩
theorem a3l.depth {k:Nat} {A:Around} (r:a3l k A):A.depth < recursionLimit:=by have:=r.dp;omega
def b2e:TA:=λ_ H Q=>Q [] H
def a7L (ta:TE) (tr:TA):TA:=λσ H Q=>ta σ H λx H1=>tr σ H1 λxs H2=>Q (x :: xs) H2
section
variable {X:Cx} {e:Expr} {es:List Expr} {te:TE} {t:TA} {pos:Pos}
theorem a0f:PA X [] b2e:=λ_ _ _ _ H Q I h=>Calls.spliced_nil ⟨[],H,I,.nil,h⟩
theorem a0a (ha:PE X e te) (hr:PA X es t) (hs:starEach (e :: es) X.env=(false,eval e X.env) :: starEach es X.env:=by rfl):PA X (e :: es) (a7L te t):=by
 intro pos pins s σ H Q I h;rw [hs];show wpAny _ _ (spliced ((false,eval e X.env) :: backTo pos (starEach es X.env))) _ _ s;refine Calls.spliced_cons (thn (ha pins s σ H _ I h) λu s1 ⟨x,H1,I1,r1,q1⟩=>?_);exact thn (hr pos pins s1 σ H1 _ I1 q1) λus s2 ⟨xs,H2,I2,r2,q2⟩=>⟨x :: xs,H2,I2,.cons r1 r2,q2⟩
def tTup (t:TA):TE:=λσ H Q=>t σ H λxs H1=>xs.length<=sizeLine/\∀ p,H1 p=none->Q (.ref p) (upd H1 p (.tup xs))
def tLst (t:TA):TE:=λσ H Q=>t σ H λxs H1=>xs.length<=sizeLine/\∀ p,H1 p=none->Q (.ref p) (upd H1 p (.lst xs))
theorem a1h {x1} (h:PA X es t):PE X (.Tuple es x1 pos) (tTup t):=by
 intro pins s σ H Q I hq;refine wpAny_Tuple_spliced (thn (h pos pins s σ H _ I hq) λus s1 ⟨xs,H1,I1,r,z,q⟩=>⟨by rw [<-r.length];exact z,?_⟩);have hf:H1 s1.heap.objs.size=none:=I1.hok.fresh (Nat.le_refl _);refine ⟨.ref s1.heap.objs.size,upd H1 s1.heap.objs.size (.tup xs),I1.laid (t':=s1.toks) (λb u e=>Heap.get?_push_of_some _ e) (Nat.le_refl _) ?_,rfl,q _ hf⟩;exact ⟨z,us,r,⟨_,Heap.get?_push_size _ rfl,_,rfl⟩⟩
theorem a0W (h:PA X es t):PE X (.List es pos) (tLst t):=by
 intro pins s σ H Q I hq;refine wpAny_List_spliced (thn (h pos pins s σ H _ I hq) λus s1 ⟨xs,H1,I1,r,z,q⟩=>⟨by rw [<-r.length];exact z,?_⟩);have hf:H1 s1.heap.objs.size=none:=I1.hok.fresh (Nat.le_refl _);refine ⟨.ref s1.heap.objs.size,upd H1 s1.heap.objs.size (.lst xs),I1.laid (t':=s1.toks) (λb u e=>Heap.get?_push_of_some _ e) (Nat.le_refl _) ?_,rfl,q _ hf⟩;exact ⟨z,us,0,r,Heap.get?_push_size _ rfl⟩
end
abbrev Sp:=List V->Hp->VK->XK->Prop
abbrev CXT:=List Env->Hp->Shared->XK->Value->Shared->Prop
structure b2f (P:Program) (w:World) (K:PySem.W.Frag) (mg:Str->Option Value) (base:Heap) (A:Around) (outer:List Env) (s:Shared) (H:Hp):Prop where
 frames:A.frames=some outer
 mod:Mod K mg base
 bs:∀ b o,base.get? b=some o->s.heap.get? b=some o/\H b=none
 bsz:base.objs.size<=s.heap.objs.size
 funs:s.heap.FunFrames base outer
 frf:∀ b∈frs outer,H b=none
 hok:HOk P w H s.heap
 bare:AllBare s.gens
def CE (outer:List Env) (P:Program) (w:World) (H:Hp) (s:Shared) (Q:VK) (u:Value) (s':Shared):Prop :=
 ∃ v H',s'.os=s.os/\AllBare s'.gens/\Un (frs outer) [] H H' s.heap s'.heap/\HOk P w H' s'.heap/\a1u v u/\Q v H'
def CR (CX:CXT) (outer:List Env) (P:Program) (w:World) (H:Hp) (s:Shared) (Q:VK) (E:XK) (r:Result) (s':Shared):Prop :=
 match r with
 | .ok (.ret u)=>CE outer P w H s Q u s'
 | .ok _=>False
 | .error e=>CX outer H s E e s'
structure a1a (P:Program) (w:World) (K:PySem.W.Frag) (mg:Str->Option Value) (base:Heap) (CX:CXT) (k:Nat) (f:Addr) (fd:FuncData) (ps:List Str) (sp:Sp):Prop where
 len:∀ vs H Q E,sp vs H Q E->vs.length=ps.length
 run:∀ (A:Around) (outer:List Env) (s:Shared) (H:Hp) (args:Args) (us:List Value) (vs:List V) (Q:VK) (E:XK),a3l k A->b2f P w K mg base A outer s H->BindsTo s fd args (ps.zip us)->a0U vs us->sp vs H Q E ->
  codeAny (model P w) A (.call (.ref f) args) (CR CX outer P w H s Q E) s
theorem a1a.mono {P:Program} {w:World} {K:PySem.W.Frag} {mg:Str->Option Value} {base:Heap} {CX:CXT} {j k:Nat} {f:Addr} {fd:FuncData} {ps:List Str} {sp:Sp} (F:a1a P w K mg base CX j f fd ps sp) (h:j<=k) :
  a1a P w K mg base CX k f fd ps sp:=⟨F.len,λA outer s H args us vs Q E hr=>F.run A outer s H args us vs Q E (hr.mono h)⟩
theorem b2f.make {P:Program} {w:World} {K:PySem.W.Frag} {mg:Str->Option Value} {base:Heap} {A:Around} {outer:List Env} {s:Shared} {H:Hp} (e:b2f P w K mg base A outer s H) (C:Addr) (us:List Value) (kw:List (Str × Value)) :
  b2f P w K mg base (A.under (.builtin "type.__call__" ⟨.ref C :: us,kw⟩)) outer s H:=⟨by first | exact e.frames | (simpa [Around.under,Code.envs,Code.isFrame,pushEnvs] using e.frames),e.mod,e.bs,e.bsz,e.funs,e.frf,e.hok,e.bare⟩
section
variable {X:Cx} {pins:List (Addr × Obj)} {σ:St} {H:Hp} {s s':Shared}
theorem Inv.env0 (I:Inv X pins σ H s):b2f X.prog X.w X.K X.mg X.base X.A X.stack s H :=
 ⟨I.ok.frames,I.ok.mod,I.bs,Nat.le_trans I.ok.bsz I.sz,I.stack,I.stkFree,I.hok,I.bare⟩
theorem Inv.after {Q:VK} {u:Value} (I:Inv X pins σ H s) (h:CE X.stack X.prog X.w H s Q u s'):EP X pins σ Q u s':=by
 obtain ⟨v,H',os,bare,un,hok,r,q⟩:=h;obtain ⟨hh,g,d,t,os'⟩:=s';obtain rfl:os'=s.os:=os;exact ⟨v,H',I.call (h':=hh) (g':=g) (d':=d) (t':=t) (ch:=[]) un hok bare (λb z=>absurd z (by simp)),r,q⟩
end
def tCall (sp:Sp) (dvs:List V) (E:XK) (t:TA):TE:=λσ H Q=>t σ H λvs H1=>sp (vs++dvs) H1 Q E
def tMeth (C:Addr) (m:Str) (sp:Sp) (dvs:List V) (E:XK) (ta:TE) (t:TA):TE:=λσ H Q=>ta σ H λx H1=>∃ a dx fs,x=.ref a/\H1 a=some (.ins C dx fs)/\fs.lookup m=none /\
 t σ H1 λvs H2=>sp (x :: (vs++dvs)) H2 Q E
def tMake (C:Addr) (sp:Sp) (dvs:List V) (E:XK) (t:TA):TE:=λσ H Q=>t σ H λvs H1=>∀ x dx,H1 x=none->H1 dx=none->dx≠x ->
 sp (.ref x :: (vs++dvs)) (upd (upd H1 dx (.own x)) x (.ins C dx [])) (λv H2=>v=.non/\Q (.ref x) H2) E
def a1X (K:PySem.W.Frag) (fd:FuncData) (ps:List Str) (ds:List Value):Prop :=
 ∀ (s:Shared) (us:List Value),K.In s.heap->(us++ds).length=ps.length->BindsTo s fd ⟨us,[]⟩ (ps.zip (us++ds))
theorem a1X.all {K:PySem.W.Frag} {fd:FuncData} {ps:List Str} (h:∀ us:List Value,us.length=ps.length->bindArgs fd ⟨us,[]⟩=pure (ps.zip us)):a1X K fd ps []:=λs us _ hl=>by
 rw [List.append_nil] at hl ⊢;exact .of_eq (h us hl)
def a2I (CX:CXT) (X:Cx) (E:XK):Prop:=∀ (pins:List (Addr × Obj)) (σ:St) (H:Hp) (s:Shared) (e:Value) (s':Shared),Inv X pins σ H s->CX X.stack H s E e s'->X.xe e s'
section
variable {X:Cx} {CX:CXT} {k:Nat} {f C:Addr} {fd:FuncData} {ps:List Str} {sp:Sp} {dvs:List V} {ds:List Value} {E:XK} {x m:Str} {p pos apos:Pos} {e o:Expr} {es:List Expr} {ta:TE} {t:TA}
theorem a7M {pins:List (Addr × Obj)} {σ:St} {H:Hp} {s:Shared} {Q:VK} {us:List Value} {vs:List V} (F:a1a X.prog X.w X.K X.mg X.base CX k f fd ps sp) (hr:a3l k X.A) (hb:a1X X.K fd ps ds) (hd:a0U dvs ds) (hx:a2I CX X E)
  (I:Inv X pins σ H s) (r:a0U vs us) (h:sp (vs++dvs) H Q E):wpAny (model X.prog X.w) X.A (call (.ref f) us) (EP X pins σ Q) X.xe s:=by
 have r2:a0U (vs++dvs) (us++ds):=r.append hd;have hl:(us++ds).length=ps.length:=by rw [<-r2.length];exact F.len _ _ _ _ h
 refine wpAny_call (codeAny_mono (F.run X.A X.stack s H ⟨us,[]⟩ (us++ds) (vs++dvs) Q E hr I.env0 (hb s us I.kIn hl) r2 h) λr s' hq=>?_);cases r with
 | error e=>exact hx pins σ H s e s' I hq
 | ok fl =>
  cases fl with
  | ret u=>exact I.after hq
  | next=>exact False.elim hq
  | brk=>exact False.elim hq
  | cont=>exact False.elim hq
theorem a0q (F:a1a X.prog X.w X.K X.mg X.base CX k f fd ps sp) (hr:a3l k X.A) (hg:Gl X x) (hm:X.mg x=some (.ref f)) (hk:PySem.W.keepIn X.K (.ref f)=true) (hb:a1X X.K fd ps ds) (hd:a0U dvs ds) (hx:a2I CX X E)
  (ha:PA X (e :: es) t) (hdb:(x == ("__debug__":Str))=false:=by decide) (he:starEach (e :: es) X.env=(false,eval e X.env) :: starEach es X.env:=by rfl) (hpl:(backTo pos (starEach es X.env)).any (·.1)=false:=by rfl) :
  PE X (.Call (.Name x p) (e :: es) [] pos) (tCall sp dvs E t):=by
 intro pins s σ H Q I h;refine wpAny_Call_Name_kw (a2S I hg hm ?_ hdb);refine PySem.W.callWith_K (h₀:=X.base) I.ok.mod.kin hk (thn (ha pos pins s σ H _ I h) λus s1 ⟨vs,H1,I1,r,q⟩=>⟨I1.kIn,?_⟩) he hpl;exact a7M F hr hb hd hx I1 r q
theorem a1F {pl:Sem Bool} (he:PE X o ta) (c:Cls X.K C) (hm:b2c X.K C m f) (F:a1a X.prog X.w X.K X.mg X.base CX k f fd ps sp) (hr:a3l k X.A) (hb:a1X X.K fd ps ds) (hd:a0U dvs ds) (hx:a2I CX X E) (ha:PA X (e :: es) t)
  (hst:starEach (e :: es) X.env=(false,eval e X.env) :: starEach es X.env:=by rfl) (hpl:(backTo pos (starEach es X.env)).any (·.1)=false:=by rfl)
  (ht:eval (.Call (.Attribute o m apos) (e :: es) [] pos) X.env=(do
   let ov <-eval o X.env
   standAt apos.atName
   let (f,first) <-holding [ov] (getMethod ov m pl)
   callWith pos f first (backTo pos (starEach (e :: es) X.env)) (backToKw pos (keywordEach [] X.env))):=by rfl) :
  PE X (.Call (.Attribute o m apos) (e :: es) [] pos) (tMeth C m sp dvs E ta t):=by
 intro pins s σ H Q I h;refine PySem.W.methodCall_KW (pl:=pl) (thn (he pins s σ H _ I h) λu s1 ⟨x,H1,I1,rx,a,dx,fs,ex,ea,l,q⟩=>?_) ht;subst ex;obtain rfl:u=Value.ref a:=rx;refine a2p I1 ea c hm l ?_;refine PySem.W.callWith_K (first:=[.ref a]) (h₀:=X.base) I.ok.mod.kin hm.kp (thn (ha pos pins s1 σ H1 _ I1 q) λus s2 ⟨vs,H2,I2,r,q2⟩=>⟨I2.kIn,?_⟩) hst hpl;exact a7M (us:=.ref a :: us) (vs:=.ref a :: vs) F hr hb hd hx I2 (.cons rfl r) q2
theorem a6m {pl:Sem Bool} (he:PE X o ta) (c:Cls X.K C) (hm:b2c X.K C m f) (F:a1a X.prog X.w X.K X.mg X.base CX k f fd ps sp) (hr:a3l k X.A) (hb:a1X X.K fd ps ds) (hd:a0U dvs ds) (hx:a2I CX X E)
  (ht:eval (.Call (.Attribute o m apos) [] [] pos) X.env=(do
   let ov <-eval o X.env
   standAt apos.atName
   let (f,first) <-holding [ov] (getMethod ov m pl)
   callWith pos f first (backTo pos (starEach [] X.env)) (backToKw pos (keywordEach [] X.env))):=by rfl) :
  PE X (.Call (.Attribute o m apos) [] [] pos) (tMeth C m sp dvs E ta b2e):=by
 intro pins s σ H Q I h;refine PySem.W.methodCall_KW (pl:=pl) (thn (he pins s σ H _ I h) λu s1 ⟨x,H1,I1,rx,a,dx,fs,ex,ea,l,q⟩=>?_) ht;subst ex;obtain rfl:u=Value.ref a:=rx;refine a2p I1 ea c hm l ?_;exact PySem.W.callWith_K0 (first:=[.ref a]) I1.kIn hm.kp (a7M (us:=[.ref a]) (vs:=[.ref a]) F hr hb hd hx I1 (.cons rfl .nil) q)
structure Mk (K:PySem.W.Frag) (C f:Addr):Prop where
 makes:PySem.W.makesIn K C=true
 init:PySem.W.findIn K (.ref C) "__init__"=some (some (.ref f))
 fn:PySem.W.isFn K (.ref f)=true
 kp:PySem.W.keepIn K (.ref C)=true
theorem a9P {pins:List (Addr × Obj)} {σ:St} {H:Hp} {s:Shared} {Q:VK} {us:List Value} {vs:List V} (M:Mk X.K C f) (F:a1a X.prog X.w X.K X.mg X.base CX k f fd ps sp) (hr:a3l (k+1) X.A) (hb:a1X X.K fd ps ds) (hd:a0U dvs ds)
  (hx:a2I CX X E) (I:Inv X pins σ H s) (r:a0U vs us)
  (h:∀ x dx,H x=none->H dx=none->dx≠x->sp (.ref x :: (vs++dvs)) (upd (upd H dx (.own x)) x (.ins C dx [])) (λv H2=>v=.non/\Q (.ref x) H2) E) :
  wpAny (model X.prog X.w) X.A (call (.ref C) us) (EP X pins σ Q) X.xe s:=by
 have hq:=h (s.heap.objs.size+1) s.heap.objs.size (I.hok.fresh (Nat.le_succ _)) (I.hok.fresh (Nat.le_refl _)) (Nat.ne_of_lt (Nat.lt_succ_self _));have I2:=Inv.made (C:=C) I;have r2:a0U (V.ref (s.heap.objs.size+1) :: (vs++dvs)) (Value.ref (s.heap.objs.size+1) :: (us++ds)):=.cons rfl (r.append hd);have hl:(Value.ref (s.heap.objs.size+1) :: us++ds).length=ps.length:=by
  have e:=r2.length;rw [F.len _ _ _ _ hq] at e;exact e.symm
 refine wpAny_call (a9O (f:=f) I.kIn M.makes M.init (beq_iff_eq.mp M.fn) (codeAny_mono (F.run _ X.stack _ _ ⟨Value.ref (s.heap.objs.size+1) :: us,[]⟩ (Value.ref (s.heap.objs.size+1) :: (us++ds)) _ _ E (hr.make C us [])
  (I2.env0.make C us []) (hb _ (Value.ref (s.heap.objs.size+1) :: us) I2.kIn hl) r2 hq) λr s' hq'=>?_))
 cases r with
 | error e=>exact hx pins σ _ _ e s' I2 hq'
 | ok fl =>
  cases fl with
  | ret u =>
   obtain ⟨v,H',I3,rv,ev,q3⟩:=I2.after hq';subst ev;exact ⟨rv,⟨V.ref (s.heap.objs.size+1),H',I3,rfl,q3⟩⟩
  | next=>exact False.elim hq'
  | brk=>exact False.elim hq'
  | cont=>exact False.elim hq'
theorem a3J (M:Mk X.K C f) (F:a1a X.prog X.w X.K X.mg X.base CX k f fd ps sp) (hr:a3l (k+1) X.A) (hg:Gl X x) (hm:X.mg x=some (.ref C)) (hb:a1X X.K fd ps ds) (hd:a0U dvs ds) (hx:a2I CX X E)
  (ha:PA X (e :: es) t) (hdb:(x == ("__debug__":Str))=false:=by decide) (he:starEach (e :: es) X.env=(false,eval e X.env) :: starEach es X.env:=by rfl) (hpl:(backTo pos (starEach es X.env)).any (·.1)=false:=by rfl) :
  PE X (.Call (.Name x p) (e :: es) [] pos) (tMake C sp dvs E t):=by
 intro pins s σ H Q I h;refine wpAny_Call_Name_kw (a2S I hg hm ?_ hdb);refine PySem.W.callWith_K (h₀:=X.base) I.ok.mod.kin M.kp (thn (ha pos pins s σ H _ I h) λus s1 ⟨vs,H1,I1,r,q⟩=>⟨I1.kIn,?_⟩) he hpl;exact a9P M F hr hb hd hx I1 r q
end
def PK (X:Cx) (kws:List Keyword) (t:TA):Prop :=
 ∀ (pos:Pos) (pins:List (Addr × Obj)) (s:Shared) (σ:St) (H:Hp) (Q:List V->Hp->Prop),Inv X pins σ H s->t σ H Q->wpAny (model X.prog X.w) X.A (evalAll ((backToKw pos (keywordEach kws X.env)).map (·.2))) (AP X pins σ Q) X.xe s
section
variable {X:Cx} {CX:CXT} {k:Nat} {f C:Addr} {fd:FuncData} {ps ks:List Str} {sp:Sp} {E:XK} {x m:Str} {p pos apos kpos:Pos} {e o:Expr} {es:List Expr} {kws:List Keyword} {te ta:TE} {t tk:TA} {nm:Option Str}
theorem pk_nil:PK X [] b2e:=λ_ _ _ _ H Q I h=>wpAny_evalAll_nil ⟨[],H,I,.nil,h⟩
theorem b2g (ha:PE X e te) (hr:PK X kws t):PK X (⟨nm,e,kpos⟩ :: kws) (a7L te t):=by
 intro pos pins s σ H Q I h;show wpAny _ _ (evalAll ((do let v <-eval e X.env;standAt pos;pure v) :: (backToKw pos (keywordEach kws X.env)).map (·.2))) _ _ s;refine wpAny_evalAll_cons (wpAny_bind (thn (ha pins s σ H _ I h) λu s1 ⟨x,H1,I1,r1,q1⟩=>wpAny_bind (wpAny_standAt (wpAny_pure ?_))));exact thn (hr pos pins s1 σ H1 _ I1 q1) λus s2 ⟨xs,H2,I2,r2,q2⟩=>⟨x :: xs,H2,I2,.cons r1 r2,q2⟩
structure KBinds (K:PySem.W.Frag) (fd:FuncData) (ps ks:List Str) (g:List Value->List Value->List Value) (gV:List V->List V->List V):Prop where
 to:∀ (s:Shared) (us ws:List Value),K.In s.heap->(g us ws).length=ps.length->BindsTo s fd ⟨us,ks.zip ws⟩ (ps.zip (g us ws))
 rel:∀ {vs:List V} {us:List Value} {zs:List V} {ws:List Value},a0U vs us->a0U zs ws->a0U (gV vs zs) (g us ws)
variable {g:List Value->List Value->List Value} {gV:List V->List V->List V}
end
structure a0u (N P:List Str) (sc:Scope):Prop where
 kind:sc.kind=.function
 co:sc.isCoroutine=false
 gen:sc.isGenerator=false
 nd:N.Nodup
 pre:N.take P.length=P
 par:∀ x∈P,sc.names.lookup x=some .local\/sc.names.lookup x=some .cell
 nofree:∀ y∈sc.names,y.2≠.free
theorem a5h {kindOf:Str->Option NameKind} {x:Str}:∀ {binds:List (Str × Value)} {m:Str->Option Value},(∀ v,(x,v)∉binds)->bindL kindOf binds m x=m x
 | [],_,_=>rfl
 | (n,v) :: r,m,h=>by
  unfold bindL;rw [a5h λw hw=>h w (List.mem_cons_of_mem _ hw)];split
  ·have:x≠n:=by rintro rfl;exact h v List.mem_cons_self
   simp [this]
  ·rfl
theorem a5i {kindOf:Str->Option NameKind} {x:Str}:∀ {binds:List (Str × Value)} {m:Str->Option Value},(∀ v,(x,v)∉binds)->bindC kindOf binds m x=m x
 | [],_,_=>rfl
 | (n,v) :: r,m,h=>by
  unfold bindC;rw [a5i λw hw=>h w (List.mem_cons_of_mem _ hw)];split
  ·rfl
  ·have:x≠n:=by rintro rfl;exact h v List.mem_cons_self
   simp [this]
theorem a5j {kindOf:Str->Option NameKind} {x:Str} {v:Value}:∀ {P:List Str} {vs:List Value} {i:Nat} {m:Str->Option Value},P.Nodup->P[i]?=some x->vs[i]?=some v->kindOf x=some .local ->
  bindL kindOf (P.zip vs) m x=some v
 | [],_,_,_,_,h,_,_=>by simp at h
 | _ :: _,[],_,_,_,_,h,_=>by simp at h
 | p :: P,w :: vs,0,m,nd,h1,h2,hk=>by
  simp at h1 h2;subst h1;subst h2;show bindL kindOf ((p,w) :: P.zip vs) m p=_;unfold bindL;rw [a5h λv hv=>(List.nodup_cons.mp nd).1 (List.of_mem_zip hv).1,if_pos hk];simp
 | p :: P,w :: vs,i+1,m,nd,h1,h2,hk=>by
  show bindL kindOf ((p,w) :: P.zip vs) m x=_;unfold bindL;exact a5j (i:=i) (List.nodup_cons.mp nd).2 (by simpa using h1) (by simpa using h2) hk
theorem a5k {kindOf:Str->Option NameKind} {x:Str} {v:Value}:∀ {P:List Str} {vs:List Value} {i:Nat} {m:Str->Option Value},P.Nodup->P[i]?=some x->vs[i]?=some v->kindOf x≠some .local ->
  bindC kindOf (P.zip vs) m x=some v
 | [],_,_,_,_,h,_,_=>by simp at h
 | _ :: _,[],_,_,_,_,h,_=>by simp at h
 | p :: P,w :: vs,0,m,nd,h1,h2,hk=>by
  simp at h1 h2;subst h1;subst h2;show bindC kindOf ((p,w) :: P.zip vs) m p=_;unfold bindC;rw [a5i λv hv=>(List.nodup_cons.mp nd).1 (List.of_mem_zip hv).1,if_neg hk];simp
 | p :: P,w :: vs,i+1,m,nd,h1,h2,hk=>by
  show bindC kindOf ((p,w) :: P.zip vs) m x=_;unfold bindC;exact a5k (i:=i) (List.nodup_cons.mp nd).2 (by simpa using h1) (by simpa using h2) hk
def start (N:List Str) (vs:List V):St:=vs.map some++List.replicate (N.length - vs.length) none
def a7N (CX:CXT) (P:Program) (w:World) (K:PySem.W.Frag) (mg:Str->Option Value) (base:Heap) (N:List Str) (qual:Str) (scope:Scope) (f:Addr) (cd:Value) (A:Around) (outer:List Env) (s:Shared) (H:Hp) (E:XK):Cx where
 prog:=P
 w:=w
 K:=K
 mg:=mg
 base:=base
 A:=A.deeper (envOfC qual scope s.heap.objs.size f cd)
 N:=N
 s₀:=s
 H₀:=H
 env:=envOfC qual scope s.heap.objs.size f cd
 outer:=outer
 stack:=envOfC qual scope s.heap.objs.size f cd :: outer
 ex:=[]
 calm:=true
 fn:=λ_=>true
 pn:=[]
 xe:=λe s'=>wpAny (model P w) (A.deeper (envOfC qual scope s.heap.objs.size f cd)) (leaving (envOfC qual scope s.heap.objs.size f cd) e) (λ_ s''=>CX outer H s E e s'') (λe' s''=>CX outer H s E e' s'') s'
theorem a6n {sc:Scope} {n:Nat} {x:Str} (h:sc.names.lookup x=some .cell):∃ c,(cellsFrom n sc.names []).lookup x=some c:=by
 have q:=PySem.W.cellsFrom_some sc.names n [] (.inl h);exact Option.isSome_iff_exists.mp q
theorem a7O {CX:CXT} {P:Program} {w:World} {K:PySem.W.Frag} {mg:Str->Option Value} {base:Heap} {N ps:List Str} {qual:Str} {scope:Scope} {f:Addr} {cd:Value} {A:Around} {outer:List Env} {s s1:Shared} {H:Hp} {E:XK} {us:List Value} {vs:List V}
  (S:a0u N ps scope) (hd:A.handled=none) (e0:b2f P w K mg base A outer s H) (hl:vs.length=ps.length) (r:a0U vs us)
  (x:InCallC s s.heap.objs.size (bindL (envOfC qual scope s.heap.objs.size f cd).kindOf (ps.zip us) λ_=>none) (cellsFrom (s.heap.objs.size+1) scope.names []) (bindC (envOfC qual scope s.heap.objs.size f cd).kindOf (ps.zip us) λ_=>none) s1) :
  Inv (a7N CX P w K mg base N qual scope f cd A outer s H E) [] (start N vs) H s1:=by
 have hpl:ps.length<=N.length:=by have:=congrArg List.length S.pre;rw [List.length_take] at this;omega
 obtain ⟨h1,tk,rfl,hk⟩:=x.done;have noA:∀ b:Addr,b∉(a7N CX P w K mg base N qual scope f cd A outer s H E).ex:=λb z=>absurd (show b∈([]:List Addr) from z) (by simp);refine ⟨⟨e0.mod,S.kind,rfl,rfl,Nat.le_refl _,λy z c h1 h2=>?_,λy hy=>?_,λy c _ h=>?_,λ_=>hd,Around.frames_deeper e0.frames,.inr ⟨rfl,rfl⟩,λb z=>absurd z (noA b),e0.bs,e0.bsz,λb _ _=>noA b,λb z=>absurd z (noA b),e0.funs,e0.frf⟩,
  rfl,e0.bare,Un.kept hk,⟨_,x.toInCall.ns,λi y v h1 h2 h3=>?_⟩,λy c h=>⟨_,x.cell y c h⟩,e0.hok.fresh (Nat.le_refl _),λy c h=>?_,λp hp=>absurd (show p∈([]:List (Addr × Obj)) from hp) (by simp),e0.hok.kept hk,?_⟩
 ·exact name_of_addr x.apart (PySem.mem_of_lookup h1) (PySem.mem_of_lookup h2)
 ·have hy:scope.names.lookup y=some .cell\/scope.names.lookup y=some .free:=hy;rcases hy with hy | hy
  ·exact a6n hy
  ·exact absurd rfl (S.nofree _ (PySem.mem_of_lookup hy))
 ·exact Nat.le_of_lt (x.above y c (PySem.mem_of_lookup h))
 ·have hi:i < vs.length:=by
   unfold start at h2;by_cases hi:i < vs.length
   ·exact hi
   ·rw [List.getElem?_append_right (by simpa using hi)] at h2;rw [List.getElem?_replicate] at h2;split at h2 <;> cases h2
  have ha:vs[i]?=some v:=by
   unfold start at h2;rw [List.getElem?_append_left (by simpa using hi),List.getElem?_map] at h2;cases e:vs[i]? with
   | none=>rw [e] at h2;cases h2
   | some a=>rw [e] at h2;cases h2;rfl
  obtain ⟨u,hu,rv⟩:=r.get ha;have hp:ps[i]?=some y:=by
   rw [<-S.pre,List.getElem?_take_of_lt (by omega)];exact h1
  have ndP:ps.Nodup:=by rw [<-S.pre];exact S.nd.sublist (List.take_sublist _ _)
  refine ⟨u,rv,?_⟩;rcases S.par y (List.mem_of_getElem? hp) with k | k
  ·exact .inl ⟨k,a5j ndP hp hu k⟩
  ·obtain ⟨c,e⟩:=a6n (n:=s.heap.objs.size+1) k;refine .inr ⟨.inl k,c,e,?_⟩;have q:=x.cell y c e;rw [a5k ndP hp hu (by show scope.names.lookup y≠_;rw [k];decide)] at q;exact q
 ·exact e0.hok.fresh (Nat.le_of_lt (x.above y c (PySem.mem_of_lookup h)))
 ·unfold start;show _=N.length;rw [List.length_append,List.length_map,List.length_replicate];omega
theorem fn_of {CX:CXT} {P:Program} {w:World} {K:PySem.W.Frag} {mg:Str->Option Value} {base:Heap} {k:Nat} {f:Addr} {name qual:Str} {params:Arguments} {body:List Stmt} {scope:Scope} {dV kV doc pm cdv ct oc:Value} {an od:Option Addr}
  {osl:Array (Option Value)} {N ps:List Str} {sp:Sp} (lk:K.lookup f=some ⟨oc,od,.func (PySem.W.fnOf name qual params body scope dV kV doc pm an cdv ct),osl⟩) (hcd:PySem.W.codeIn K cdv qual=true) (S:a0u N ps scope)
  (len:∀ vs H Q E,sp vs H Q E->vs.length=ps.length)
  (hbody:∀ (A:Around) (outer:List Env) (s:Shared) (H:Hp) (vs:List V) (Q:VK) (E:XK),a3l k (A.deeper (envOfC qual scope s.heap.objs.size f cdv))->sp vs H Q E ->
   ∃ t,PSs (a7N CX P w K mg base N qual scope f cdv A outer s H E) body t/\t { nx:=λ_ H'=>Q .non H',rt:=Q } (start N vs) H) :
  a1a P w K mg base CX (k+1) f (PySem.W.fnOf name qual params body scope dV kV doc pm an cdv ct) ps sp:=by
 refine ⟨len,λA outer s H args us vs Q E hr e0 hb r hsp=>?_⟩;have hl:=len _ _ _ _ hsp;have KX:K.In s.heap:=e0.mod.kin.keeps λb o e=>(e0.bs b o e).1;have lim:s.heap.NoLimit:=e0.mod.nolimit.keeps λb o e=>(e0.bs b o e).1;have hkind:∀ y∈ps.zip us,scope.names.lookup y.1=some .local\/(scope.names.lookup y.1=some .cell/\((cellsFrom (s.heap.objs.size+1) scope.names []).lookup y.1).isSome=true):=λ⟨n,v⟩ hy=>by
  rcases S.par n (List.of_mem_zip hy).1 with q | q
  ·exact .inl q
  ·exact .inr ⟨q,PySem.W.cellsFrom_some _ _ _ (.inl q)⟩
 refine codeAny_call_function hr.depth (KX _ _ lk) rfl S.co S.gen rfl (PySem.W.codeRec_of KX hcd) (hb _ _ _ _ ?_);refine wpAny_newFunctionEnv_cells S.kind hkind λenv he s1 x=>?_;subst he;refine ⟨lim.keeps x.toInCall.keep,codeAny_func ?_⟩;obtain ⟨t,ht,hq⟩:=hbody A outer s H vs Q E (hr.deeper _) hsp;have I:Inv (a7N CX P w K mg base N qual scope f cdv A outer s H E) [] (start N vs) H s1:=a7O S hr.hd e0 hl r x;refine wpAny_mono (ht [] s1 (start N vs) H _ I hq) (λfl s' hs=>?_) λe s' hs=>hs;have fin:∀ {σ':St} {H':Hp} {v:V} {u:Value},Inv (a7N CX P w K mg base N qual scope f cdv A outer s H E) [] σ' H' s'->a1u v u->Q v H'->CE outer P w H s Q u s' :=
  λ{σ' H' v u} J rv q=>⟨v,H',J.os,J.bare,J.base,J.hok,rv,q⟩
 cases fl with
 | ret u =>
  obtain ⟨v,σ',H',J,rv,q⟩:=hs;exact fin J rv q
 | next =>
  obtain ⟨σ',H',J,q⟩:=hs;exact fin (v:=V.non) (u:=Value.none) J rfl q
 | brk =>
  obtain ⟨_,_,_,q⟩:=hs;exact False.elim q
 | cont =>
  obtain ⟨_,_,_,q⟩:=hs;exact False.elim q
section
variable {X:Cx} {x:Str} {p pos:Pos} {e:Expr} {es:List Expr} {t:TA} {id T:String} {r:List V->Hp->VK->Prop}
def tCB (r:List V->Hp->VK->Prop) (t:TA):TE:=λσ H Q=>t σ H λvs H1=>r vs H1 Q
theorem a0t (hc:a2W X (.builtin id) r) (hg:Gl X x) (hm:X.mg x=none) (hv:bootBuiltins x=some (.builtin id)) (ha:PA X (e :: es) t) (hn:x≠"__name__":=by decide) (hdb:(x == ("__debug__":Str))=false:=by decide)
  (he:starEach (e :: es) X.env=(false,eval e X.env) :: starEach es X.env:=by rfl) (hpl:(backTo pos (starEach es X.env)).any (·.1)=false:=by rfl):PE X (.Call (.Name x p) (e :: es) [] pos) (tCB r t):=by
 intro pins s σ H Q I h;refine wpAny_Call_Name_kw (a2E I hg hm hv ?_ hn hdb);exact PyProof.Rows.callWith_builtin1 (thn (ha pos pins s σ H _ I h) λus s1 ⟨vs,H1,I1,r1,q1⟩=>hc pins s1 σ H1 vs us Q I1 r1 q1) he hpl
theorem a0K (hc:a2W X (.type T) r) (hg:Gl X x) (hm:X.mg x=none) (hv:bootBuiltins x=some (.type T)) (ha:PA X (e :: es) t) (hn:x≠"__name__":=by decide) (hdb:(x == ("__debug__":Str))=false:=by decide)
  (he:starEach (e :: es) X.env=(false,eval e X.env) :: starEach es X.env:=by rfl) (hpl:(backTo pos (starEach es X.env)).any (·.1)=false:=by rfl):PE X (.Call (.Name x p) (e :: es) [] pos) (tCB r t):=by
 intro pins s σ H Q I h;refine wpAny_Call_Name_kw (a2E I hg hm hv ?_ hn hdb);exact PyProof.Rows.callWith_type1 (thn (ha pos pins s σ H _ I h) λus s1 ⟨vs,H1,I1,r1,q1⟩=>hc pins s1 σ H1 vs us Q I1 r1 q1) he hpl
end
end L2
namespace HT
open PySem PyProof.Rows
def lexLt:List Int->List Int->Bool
 | [],[]=>false
 | [],_ :: _=>true
 | _ :: _,[]=>false
 | x :: xs,y :: ys=>if x=y then lexLt xs ys else decide (x < y)
section
open PySem.SeqAt
open PySem.AutoSeq1 (wpAny_loadPart')
open PySem.MeetsSeq PySem.MeetsSeq2 PySem.MeetsSeq3
end
section
variable {prog:Program} {w:World} {A:Around} {E:Value->Shared->Prop} {s:Shared}
theorem b2h {t b:Addr} {vs ws:List Value} {Q:Value->Shared->Prop} (ht:IsTup s.heap t vs.toArray) (hb:IsTup s.heap b ws.toArray) (hv:vs≠[])
  (h1:ws=[]->Q (.ref t) s) (h2:ws≠[]->Q (.ref s.heap.objs.size) { s with heap:=s.heap.push { cls:=.type "tuple",data:=.seq (vs++ws).toArray } })
  (hsz:vs.length+ws.length<=sizeLine):wpAny (model prog w) A (binaryOp .Add (.ref t) (.ref b)) Q E s:=by
 obtain ⟨⟨cls,dd,data,sl⟩,ho,hc,n,hd⟩:=id ht;obtain ⟨⟨cls2,dd2,data2,sl2⟩,ho2,hc2,n2,hd2⟩:=id hb;simp only at hc hd hc2 hd2;subst hc hd hc2 hd2;have e:vs.toArray++ws.toArray=(vs++ws).toArray:=by simp
 by_cases hw:ws=[]
 ·exact concat_meets ⟨_,ho,rfl⟩ ⟨_,ho2,rfl⟩ noFill_tuple_add seq_tuple_add PySem.F.slot_tuple_add PySem.F.entry_tuple_add (PySem.F.args_tuple_add_2 _ _)
   (tuple_addW1 t b vs.toArray ws.toArray n n2 dd dd2 sl sl2 (by simpa using hv) (by simp [hw])) ⟨ho,ho2,h1 hw⟩
 ·refine concat_meets ⟨_,ho,rfl⟩ ⟨_,ho2,rfl⟩ noFill_tuple_add seq_tuple_add PySem.F.slot_tuple_add PySem.F.entry_tuple_add (PySem.F.args_tuple_add_2 _ _)
   (tuple_addW2 t b vs.toArray ws.toArray n n2 dd dd2 sl sl2 (by simpa using hv) (by simpa using hw) (by rw [List.size_toArray,List.size_toArray];exact hsz)) ⟨ho,ho2,?_⟩
  rw [e];exact h2 hw
def sIx (n d:Nat):Option Int->Nat
 | none=>d
 | some v=>if v < 0 then (v+(n:Int)).toNat else min v.toNat n
theorem a6o (n d:Nat):sIx n d none=d:=rfl
theorem a7P (n d k:Nat):sIx n d (some (k:Int))=min k n:=by
 show (if (k:Int) < 0 then ((k:Int)+(n:Int)).toNat else min (k:Int).toNat n)=min k n;rw [if_neg (by omega),Int.toNat_natCast]
theorem sIx_le (n d:Nat) (hd:d<=n) (o:Option Int):sIx n d o<=n:=by
 cases o with
 | none=>exact hd
 | some v =>
  show (if v < 0 then (v+(n:Int)).toNat else min v.toNat n)<=n;by_cases hv:v < 0
  ·rw [if_pos hv];omega
  ·rw [if_neg hv];exact Nat.min_le_right _ _
theorem a7Q (v:Int) (n d:Nat):(if v < 0 then max (v+(n:Int)) 0 else min v (n:Int))=((sIx n d (some v):Nat):Int):=by
 show (if v < 0 then max (v+(n:Int)) 0 else min v (n:Int))=(((if v < 0 then (v+(n:Int)).toNat else min v.toNat n):Nat):Int)
 by_cases hv:v < 0
 ·simp only [if_pos hv];omega
 ·simp only [if_neg hv];omega
theorem a6S (lo hi:Option Int) (n:Nat):Builtin.Slice.sliceAdjust lo hi 1 (n:Int)=(((sIx n 0 lo:Nat):Int),((sIx n n hi:Nat):Int)):=by
 have h1:¬ ((1:Int) < 0):=by omega
 unfold Builtin.Slice.sliceAdjust;simp only [h1,if_false];refine Prod.ext ?_ ?_
 ·cases lo with
  | none=>rfl
  | some v=>exact a7Q v n 0
 ·cases hi with
  | none=>rfl
  | some v=>exact a7Q v n n
theorem a6T (i j:Nat):Builtin.Slice.slicePlaces (i:Int) (j:Int) 1=j - i:=by
 unfold Builtin.Slice.slicePlaces;have h1:(1:Int) > 0:=by omega
 simp only [h1,if_true,Int.ediv_one];split <;> omega
theorem a4q {v:Value} {o:Option Int} {Q:Option Int->Shared->Prop} (p:IsPart v o) (h:Q o s):wpAny (model prog w) A (Builtin.Slice.slicePartIndex v) Q E s:=by
 cases p with
 | none=>exact slicePart_none h
 | int i t=>exact slicePart_int h
theorem a2e {sl:Addr} {vl vu:Value} {lo hi:Option Int} {n:Nat} {Q:Int × Int × Nat->Shared->Prop} (hs:s.heap.IsSliceOf sl vl vu .none) (pl:IsPart vl lo) (pu:IsPart vu hi)
  (h:Q (((sIx n 0 lo:Nat):Int),1,sIx n n hi - sIx n 0 lo) s):wpAny (model prog w) A (Builtin.Slice.sliceApplied (.ref sl) (pure (n:Int))) Q E s:=by
 obtain ⟨os,hos,hcs,hds⟩:=id hs;unfold Builtin.Slice.sliceApplied Builtin.Slice.sliceFields;refine wpAny_bind (wpAny_bind (wpAny_field hos hds (x:=vl) rfl (wpAny_bind (wpAny_field hos hds (x:=vu) rfl (wpAny_bind (wpAny_field hos hds (x:=.none) rfl (wpAny_pure ?_)))))));refine wpAny_bind (slicePart_none ?_);show wpAny _ _ (if ((1:Int) == 0)=true then _ else _) _ _ s;rw [if_neg (by decide)];refine wpAny_bind (a4q pl (wpAny_bind (a4q pu (wpAny_bind (wpAny_pure ?_)))));show wpAny _ _ (match Builtin.Slice.sliceAdjust lo hi 1 (n:Int) with | (lo,hi)=>pure (lo,(1:Int),Builtin.Slice.slicePlaces lo hi 1)) _ _ s;rw [a6S lo hi n];show wpAny _ _ (pure (((sIx n 0 lo:Nat):Int),(1:Int),Builtin.Slice.slicePlaces ((sIx n 0 lo:Nat):Int) ((sIx n n hi:Nat):Int) 1)) _ _ s;rw [a6T];exact wpAny_pure h
theorem a9Q (xs:Array Value) (i k:Nat):((List.range k).filterMap λ(m:Nat)=>xs[((i:Int)+(m:Int) * 1).toNat]?).toArray=((xs.toList.drop i).take k).toArray:=by
 have e:(λ(m:Nat)=>xs[((i:Int)+(m:Int) * 1).toNat]?)=λm=>xs[i+m]?:=by
  funext m;have:((i:Int)+(m:Int) * 1).toNat=i+m:=by omega
  rw [this]
 rw [e];have:=pick_run xs i k;rw [List.filterMap_map] at this;have e2:((λx=>xs[x]?) ∘ λx=>i+x)=λm=>xs[i+m]?:=rfl;rw [e2] at this;rw [this]
theorem a2X {t sl:Addr} {items:Array Value} {vl vu:Value} {lo hi:Option Int} {Q:Value->Shared->Prop} (ht:IsTup s.heap t items) (hs:s.heap.IsSliceOf sl vl vu .none) (pl:IsPart vl lo) (pu:IsPart vu hi)
  (hw:¬ (sIx items.size 0 lo=0/\sIx items.size items.size hi=items.size))
  (h:Q (.ref s.heap.objs.size) { s with heap:=s.heap.push { cls:=.type "tuple",data:=.seq ((items.toList.drop (sIx items.size 0 lo)).take (sIx items.size items.size hi - sIx items.size 0 lo)).toArray } })
  (hsz:items.size<=sizeLine):wpAny (model prog w) A (getItem (.ref t) (.ref sl)) Q E s:=by
 have htake:sizeOk (.seq ((items.toList.drop (sIx items.size 0 lo)).take (sIx items.size items.size hi - sIx items.size 0 lo)).toArray):=by
  show ((items.toList.drop (sIx items.size 0 lo)).take (sIx items.size items.size hi - sIx items.size 0 lo)).toArray.size<=sizeLine;rw [List.size_toArray,List.length_take,List.length_drop,Array.length_toList];omega
 have hj:sIx items.size items.size hi<=items.size:=sIx_le _ _ (Nat.le_refl _) hi;obtain ⟨os,hos,hcs,hds⟩:=id hs;have hTs:s.TypeIs (.ref sl) "slice":=⟨os,hos,hcs⟩
 unfold getItem
 try with_reducible refine wpAny_holding ?_
 first | refine wpAny_bind (wpAny_pure ?_) | skip
 refine wpAny_bind (wpAny_sequenceKey ht.typeIs (by decide) ?_);refine wpAny_bind (wpAny_callSpecial?_slot (name:=Str.ofString "__getitem__") ht.typeIs PyProof.Rows.slot_tuple_getitem
  (wpAny_call_entry PyProof.Rows.slot_tuple_getitem ht.typeIs entry_tuple_getitem ?_ (args_tuple_getitem _ _)))
 show wpAny _ _ (Builtin.Tuple.tupleItemsOf (.ref t) >>= _) _ _ s;refine wpAny_bind (tupleItemsOf_ ht ?_);refine wpAny_bind (wpAny_typeOf hTs ?_);rw [if_pos (by decide)];refine wpAny_bind (a2e hs pl pu ?_);have hno:¬ ((((sIx items.size 0 lo:Nat):Int) == 0 && (1:Int) == 1 && (sIx items.size items.size hi - sIx items.size 0 lo) == items.size)=true):=by
  intro q;rw [Bool.and_eq_true,Bool.and_eq_true] at q;have q1:((sIx items.size 0 lo:Nat):Int)=0:=eq_of_beq q.1.1;have q2:sIx items.size items.size hi - sIx items.size 0 lo=items.size:=eq_of_beq q.2;exact hw ⟨by omega,by omega⟩
 show wpAny _ _ (if (((sIx items.size 0 lo:Nat):Int) == 0 && (1:Int) == 1 && (sIx items.size items.size hi - sIx items.size 0 lo) == items.size)=true then _ else _) _ _ s;rw [if_neg hno,a9Q]
 first
  | exact wpAny_bind (m:=Builtin.Tuple.tupleExact _) (wpAny_newObj_type (wpAny_pure ⟨_,rfl,wpAny_pure h⟩) htake)
  | exact wpAny_bind (m:=Builtin.Tuple.tupleExact _) (wpAny_newObj_type (wpAny_bind (wpAny_pure (wpAny_pure ⟨_,rfl,wpAny_pure h⟩))) htake)
  | exact wpAny_bind (wpAny_bind (m:=Builtin.Tuple.tupleExact _) (wpAny_newObj_type (wpAny_pure (wpAny_pure ⟨_,rfl,wpAny_pure h⟩)) htake))
  | exact wpAny_bind (wpAny_bind (m:=Builtin.Tuple.tupleExact _) (wpAny_newObj_type (wpAny_pure ⟨_,rfl,wpAny_pure h⟩) htake))
end
end HT
namespace L2
open PySem PySem.Spec PyProof.Rows
abbrev TO:=St->Hp->(Option Int->Hp->Prop)->Prop
def PO (X:Cx) (e:Option Expr) (t:TO):Prop :=
 ∀ (pins:List (Addr × Obj)) (s:Shared) (σ:St) (H:Hp) (Q:Option Int->Hp->Prop),Inv X pins σ H s->t σ H Q ->
  wpAny (model X.prog X.w) X.A (evalPart e X.env) (λu s'=>∃ o H',Inv X pins σ H' s'/\IsPart u o/\Q o H') X.xe s
def b2i:TO:=λ_ H Q=>Q none H
def tPart (t:TE):TO:=λσ H Q=>t σ H λx H1=>∃ i,x=.int i/\Q (some i) H1
section
variable {X:Cx} {e:Expr} {te:TE} {lo hi:Option Expr} {tl th:TO} {pos p2:Pos}
theorem a1N:PO X none b2i:=by
 intro pins s σ H Q I h;rw [evalPart_none];exact wpAny_pure ⟨none,H,I,.none,h⟩
theorem a1O (h:PE X e te):PO X (some e) (tPart te):=by
 intro pins s σ H Q I hw;rw [evalPart_some];refine thn (h pins s σ H _ I hw) λu s1 ⟨x,H1,I1,r1,q1⟩=>?_;obtain ⟨i,rfl,q⟩:=q1;obtain ⟨t,rfl⟩:=r1;exact ⟨some i,H1,I1,.int i t,q⟩
def SlR (X:Cx) (r:V->Option Int->Option Int->Hp->VK->Prop):Prop :=
 ∀ (pins:List (Addr × Obj)) (s:Shared) (σ:St) (H:Hp) (x:V) (v vl vu:Value) (lo hi:Option Int) (sl:Addr) (Q:VK),Inv X pins σ H s->a1u x v->s.heap.IsSliceOf sl vl vu .none->IsPart vl lo->IsPart vu hi->r x lo hi H Q ->
  ∃ T id,typeLookup (.type T) "__getitem__"=pure (some (.builtin id))/\s.TypeIs v T/\wpAny (model X.prog X.w) X.A (getItem v (.ref sl)) (EP X pins σ Q) X.xe s
def tSl (r:V->Option Int->Option Int->Hp->VK->Prop) (te:TE) (tl th:TO):TE:=λσ H Q=>te σ H λx H1=>tl σ H1 λl H2=>th σ H2 λu H3=>r x l u H3 Q
theorem a1s {r:V->Option Int->Option Int->Hp->VK->Prop} (hr:SlR X r) (he:PE X e te) (hl:PO X lo tl) (hu:PO X hi th):PE X (.Subscript e (.Slice lo hi none p2) pos) (tSl r te tl th):=by
 intro pins s σ H Q I h;refine Subscript_ (thn (he pins s σ H _ I h) λv s1 ⟨x,H1,I1,r1,q1⟩=>?_);refine wpAny_Slice (thn (hl pins s1 σ H1 _ I1 q1) λvl s2 ⟨l,H2,I2,pl,q2⟩=>thn (hu pins s2 σ H2 _ I2 q2) λvu s3 ⟨u,H3,I3,pu,q3⟩=>?_);rw [evalPart_none];refine wpAny_pure ?_;have I4:Inv X pins σ H3 { s3 with heap:=s3.heap.push { cls:=.type "slice",data:=.fields #[vl,vu,.none] } }:=I3.kept (t':=s3.toks) λb ob q=>Heap.get?_push_of_some _ q;obtain ⟨T,id,hT,ht,hg⟩:=hr pins { s3 with heap:=s3.heap.push { cls:=.type "slice",data:=.fields #[vl,vu,.none] } } σ H3 x v vl vu l u s3.heap.objs.size Q I4 r1 (Heap.IsSliceOf.new ..) pl pu q3;show wpAny (model X.prog X.w) X.A (subscriptTail e (.Slice lo hi none p2) v (.ref s3.heap.objs.size)) (EP X pins σ Q) X.xe { s3 with heap:=s3.heap.push { cls:=.type "slice",data:=.fields #[vl,vu,.none] } };exact tail_any (ops:=[.ref s3.heap.objs.size,v]) ht hT hg (by with_unfolding_all rfl)
def a5I (xs:List V) (lo hi:Option Int):List V:=(xs.drop (HT.sIx xs.length 0 lo)).take (HT.sIx xs.length xs.length hi - HT.sIx xs.length 0 lo)
theorem a3K (xs:List V) (lo hi:Option Int):(a5I xs lo hi).length<=xs.length:=by
 unfold a5I;rw [List.length_take,List.length_drop];omega
def rSlT (K:PySem.W.Frag):V->Option Int->Option Int->Hp->VK->Prop:=λx lo hi H Q=>∃ a xs,x=.ref a/\SqT K H a xs /\
 ¬ (HT.sIx xs.length 0 lo=0/\HT.sIx xs.length xs.length hi=xs.length)/\∀ p,H p=none->Q (.ref p) (upd H p (.tup (a5I xs lo hi)))
theorem sl_tup:SlR X (rSlT X.K):=by
 intro pins s σ H x v vl vu lo hi sl Q I rx hs pl pu h;obtain ⟨a,xs,rfl,hx,hw,q⟩:=h;cases rx;obtain ⟨its,r,ht,hz⟩:=I.tuple hx;have hlen:its.toArray.size=xs.length:=by rw [List.size_toArray];exact r.length.symm
 refine ⟨"tuple",_,PyProof.Rows.slot_tuple_getitem.lookup,ht.typeIs,?_⟩;refine HT.a2X ht hs pl pu (by rw [hlen];exact hw) ?_ (by rw [hlen];exact hz);rw [hlen];refine ⟨.ref s.heap.objs.size,_,I.laid (t':=s.toks) (o:=.tup (a5I xs lo hi)) (λb ob q=>Heap.get?_push_of_some _ q) (Nat.le_refl _) ?_,rfl,q _ (I.hok.fresh (Nat.le_refl _))⟩;exact ⟨Nat.le_trans (a3K xs lo hi) hz,_,(r.drop (HT.sIx xs.length 0 lo)).take (HT.sIx xs.length xs.length hi - HT.sIx xs.length 0 lo),a5d.new _ _⟩
def rCatT (K:PySem.W.Frag):R2:=λx y H Q=>∃ a b xs ys,x=.ref a/\y=.ref b/\SqT K H a xs/\SqT K H b ys/\xs≠[]/\xs.length+ys.length<=sizeLine /\
 (ys=[]->Q (.ref a) H)/\(ys≠[]->∀ p,H p=none->Q (.ref p) (upd H p (.tup (xs++ys))))
theorem a0U.nil_iff {xs:List V} {us:List Value} (r:a0U xs us):us=[]↔xs=[]:=by
 cases r with
 | nil=>simp
 | cons _ _=>simp
theorem b2j:OpR X (binaryOp .Add) (rCatT X.K):=by
 intro pins s σ H x y v u Q I rx ry h;obtain ⟨a,b,xs,ys,rfl,rfl,ha,hb,hx,hz,q1,q2⟩:=h;cases rx;cases ry;obtain ⟨its,r1,p1,_⟩:=I.tuple ha;obtain ⟨its2,r2,p2,_⟩:=I.tuple hb;refine HT.b2h p1 p2 (λz=>hx (r1.nil_iff.mp z)) (λz=>⟨.ref a,H,I,rfl,q1 (r2.nil_iff.mp z)⟩) (λz=>?_) (by rw [<-r1.length,<-r2.length];exact hz);refine ⟨.ref s.heap.objs.size,_,I.laid (t':=s.toks) (o:=.tup (xs++ys)) (λb ob q=>Heap.get?_push_of_some _ q) (Nat.le_refl _) ?_,rfl,q2 (λw=>z (r2.nil_iff.mpr w)) _ (I.hok.fresh (Nat.le_refl _))⟩;exact ⟨by rw [List.length_append];exact hz,_,r1.append r2,a5d.new _ _⟩
end
def ixN (n:Nat) (i:Int):Option Nat:=if 0<=i then (if i < n then some i.toNat else none) else if -(n:Int)<=i then some (i+n).toNat else none
def atI {α:Type} (xs:List α) (i:Int):Option α:=(ixN xs.length i).bind λj=>xs[j]?
theorem a7R {n:Nat} {i:Int} {j:Nat} (h:ixN n i=some j):seqIndex? i n=some j/\j < n/\-(n:Int)<=i/\i < n:=by
 unfold ixN at h;by_cases h0:0<=i
 ·rw [if_pos h0] at h;by_cases h1:i < n
  ·rw [if_pos h1] at h;have e:i.toNat=j:=Option.some.inj h;exact ⟨by rw [seqIndex_of h0 h1,e],by omega,by omega,h1⟩
  ·rw [if_neg h1] at h;cases h
 ·rw [if_neg h0] at h;by_cases h1:-(n:Int)<=i
  ·rw [if_pos h1] at h;have e:(i+n).toNat=j:=Option.some.inj h;exact ⟨by rw [seqIndex_neg (by omega) h1,e],by omega,h1,by omega⟩
  ·rw [if_neg h1] at h;cases h
theorem a5M {α:Type} {xs:List α} {i:Int} {v:α} (h:atI xs i=some v):∃ j,seqIndex? i xs.length=some j/\xs[j]?=some v/\j < xs.length/\-(xs.length:Int)<=i/\i < xs.length:=by
 unfold atI at h;cases e:ixN xs.length i with
 | none=>rw [e] at h;cases h
 | some j =>
  rw [e] at h;obtain ⟨h1,h2,h3,h4⟩:=a7R e;exact ⟨j,h1,h,h2,h3,h4⟩
theorem a1G {α:Type} {xs:List α} {j:Nat} {v:α} (h:xs[j]?=some v):atI xs (j:Int)=some v:=by
 have hj:j < xs.length:=(List.getElem?_eq_some_iff.mp h).1;have e:ixN xs.length (j:Int)=some j:=by
  unfold ixN;rw [if_pos (by omega),if_pos (by omega)];simp
 unfold atI;rw [e];exact h
theorem a9R {α:Type} (xs:List α) (v:α):atI (xs++[v]) (-1)=some v:=by
 have hl:(xs++[v]).length=xs.length+1:=by simp
 have e:ixN (xs++[v]).length (-1)=some xs.length:=by
  unfold ixN;rw [hl,if_neg (by decide),if_pos (by omega)];congr 1;omega
 unfold atI;rw [e];show (xs++[v])[xs.length]?=some v;simp
def b2k (b:Expr):Prop:=∀ o i,subscripted b false o i=operate [o,i] (getItem o i)
def IxR (X:Cx) (r:R2):Prop :=
 ∀ (value slice:Expr) (pins:List (Addr × Obj)) (s:Shared) (σ:St) (H:Hp) (x y:V) (v u:Value) (Q:VK),Inv X pins σ H s->a1u x v->a1u y u->r x y H Q ->
  subscripted slice false v u=operate [v,u] (getItem v u)->wpAny (model X.prog X.w) X.A (subscriptTail value slice v u) (EP X pins σ Q) X.xe s
def MtR (X:Cx) (id:String) (r:V->List V->Hp->VK->Prop):Prop :=
 ∀ (pins:List (Addr × Obj)) (s:Shared) (σ:St) (H:Hp) (x:V) (xs:List V) (v:Value) (us:List Value) (Q:VK),Inv X pins σ H s->a1u x v->a0U xs us->r x xs H Q ->
  wpAny (model X.prog X.w) X.A (call (.builtin id) (v :: us)) (EP X pins σ Q) X.xe s
section
variable {X:Cx} {a b:Expr} {ta tb:TE} {pos:Pos}
theorem a0n {r:R2} (hr:IxR X r) (ha:PE X a ta) (hb:PE X b tb) (hs:b2k b):PE X (.Subscript a b pos) (tOp r ta tb):=by
 intro pins s σ H Q I h;exact Subscript_ (binT ha hb I h λv u s2 x y H2 I2 rx ry q=>hr a b pins s2 σ H2 x y v u Q I2 rx ry q (hs _ _))
def rIxL (K:PySem.W.Frag):R2:=λx y H Q=>∃ p xs i v,x=.ref p/\y=.int i/\SqL K H p xs/\atI xs i=some v/\Q v H
def rIxT (K:PySem.W.Frag):R2:=λx y H Q=>∃ p xs i v,x=.ref p/\y=.int i/\SqT K H p xs/\atI xs i=some v/\Q v H
def rIxS:R2:=λx y H Q=>∃ z i c,x=.str z/\y=.int i/\z.length<=sizeLine/\atI z.cps.toList i=some c/\Q (.str ⟨#[c]⟩) H
theorem a0k:IxR X (rIxL X.K):=by
 intro value slice pins s σ H x y v u Q I rx ry h hs;obtain ⟨p,xs,i,z,rfl,rfl,hq,he,q⟩:=h;cases rx;obtain ⟨t,rfl⟩:=ry;obtain ⟨its,r,pl,hz⟩:=I.list hq;obtain ⟨j,h1,h2,h3,h4,h5⟩:=a5M he;obtain ⟨w,ew,rw'⟩:=r.get h2;have hl:=r.length;have hn:=a4p;have fin:EP X pins σ Q w s:=⟨z,H,I,rw',q⟩
 by_cases h0:0<=i
 ·have hj:i.toNat=j:=by
   rw [seqIndex_of h0 h5] at h1;exact Option.some.inj h1
  exact item_listR pl.isList h0 (by omega) (by rw [hj];simpa using ew) fin hs
 ·have hj:(i+(its.toArray.size:Int)).toNat=j:=by
   rw [seqIndex_neg (by omega) h4] at h1;rw [List.size_toArray,<-hl];exact Option.some.inj h1
  exact subscriptTail_builtinR (x:=w) pl.isList.typeIs slot_list_getitem.lookup
   (wpAny_getItem_list_neg (Q:=λr s'=>r=w/\EP X pins σ Q r s') pl.isList (by omega) (by rw [List.size_toArray] <;> omega) (by omega) (by rw [hj];simpa using ew) ⟨rfl,fin⟩) hs
theorem a0C:IxR X (rIxT X.K):=by
 intro value slice pins s σ H x y v u Q I rx ry h hs;obtain ⟨p,xs,i,z,rfl,rfl,hq,he,q⟩:=h;cases rx;obtain ⟨t,rfl⟩:=ry;obtain ⟨its,r,pl,hz⟩:=I.tuple hq;obtain ⟨j,h1,h2,h3,h4,h5⟩:=a5M he;obtain ⟨w,ew,rw'⟩:=r.get h2;have hl:=r.length;have hn:=a4p;have fin:EP X pins σ Q w s:=⟨z,H,I,rw',q⟩
 exact subscriptTail_builtinR (x:=w) pl.typeIs slot_tuple_getitem.lookup
  (getItem_tuple (j:=j) (Q:=λr s'=>r=w/\EP X pins σ Q r s') pl (by omega) (by omega) (by rw [List.size_toArray,<-hl];exact h1) (by simpa using ew) ⟨rfl,fin⟩) hs
theorem a5l:IxR X rIxS:=by
 intro value slice pins s σ H x y v u Q I rx ry h hs;obtain ⟨z,i,c,rfl,rfl,hz,he,q⟩:=h;obtain ⟨t,rfl⟩:=rx;obtain ⟨t',rfl⟩:=ry;obtain ⟨j,h1,h2,h3,h4,h5⟩:=a5M he;have hl:z.cps.toList.length=z.length:=by simp [Str.length]
 rw [hl] at h1 h4 h5;have hn:=a4p;exact tail_any (typeIs_str s z t) slot_str_getitem.lookup (getItem_str (c:=c) (by
  have e1:decide (i < -(2 ^ 63:Int))=false:=decide_eq_false (by omega);have e2:decide (i >= 2 ^ 63)=false:=decide_eq_false (by omega);rw [e1,e2,Bool.or_false]) (by rw [h1];simpa using h2) ⟨.str ⟨#[c]⟩,H,I.tok _,⟨_,rfl⟩,q⟩) hs
def rIx (K:PySem.W.Frag):R2:=λx y H Q=>rIxL K x y H Q\/rIxT K x y H Q\/rIxS x y H Q
theorem a6U (its:List Value) (n j:Nat) (u:Value):Obj.mapSeq (·.setIfInBounds j u) { cls:=.type "list",data:=.seq its.toArray n }={ cls:=.type "list",data:=.seq (its.set j u).toArray n }:=by
 simp [Obj.mapSeq]
theorem Inv.lst {pins:List (Addr × Obj)} {σ:St} {H:Hp} {s:Shared} {p:Addr} {xs:List V} (I:Inv X pins σ H s) (h:H p=some (.lst xs)) :
  ∃ (its:List Value) (n:Nat),a0U xs its/\s.heap.get? p=some { cls:=.type "list",data:=.seq its.toArray n }/\xs.length<=sizeLine:=by
 obtain ⟨z,its,n,r,e⟩:=I.hok p _ h;exact ⟨its,n,r,e,z⟩
theorem Inv.lstUpd {pins:List (Addr × Obj)} {σ:St} {H:Hp} {s:Shared} {p:Addr} {xs ys:List V} {its its':List Value} {n n':Nat} {f:Obj->Obj} (I:Inv X pins σ H s) (h:H p=some (.lst xs))
  (ho:s.heap.get? p=some { cls:=.type "list",data:=.seq its.toArray n }) (hf:f { cls:=.type "list",data:=.seq its.toArray n }={ cls:=.type "list",data:=.seq its'.toArray n' }) (r:a0U ys its') (hz:ys.length<=sizeLine) (t:Nat) :
  Inv X pins σ (upd H p (.lst ys)) { s with heap:=s.heap.update p f,toks:=t }:=by
 have e:(s.heap.update p f).get? p=some { cls:=.type "list",data:=.seq its'.toArray n' }:=by
  rw [Heap.get?_update_self f ho (by rw [hf] <;> rfl),hf]
 refine I.write (x:=p) (e:=p) (by rw [h];trivial) (.inl rfl) (λb u hb q=>(Heap.get?_update_other _ _ (Ne.symm hb)).trans q) ⟨_,e⟩ ?_;exact ⟨hz,its',n',r,e⟩
def rSetL:V->V->V->Hp->(Hp->Prop)->Prop:=λo i v H Q=>∃ p xs k j,o=.ref p/\i=.int k/\H p=some (.lst xs)/\ixN xs.length k=some j/\Q (upd H p (.lst (xs.set j v)))
theorem a1Y:PSet X rSetL:=by
 intro pins s σ H o i v ov iv u Q I ro ri rv h;obtain ⟨p,xs,k,j,rfl,rfl,hp,hj,q⟩:=h;cases ro;obtain ⟨t,rfl⟩:=ri;obtain ⟨its,n,r,ho,hz⟩:=I.lst hp;obtain ⟨h1,h2,h3,h4⟩:=a7R hj;have hl:=r.length;have hn:=a4p;have I':Inv X pins σ (upd H p (.lst (xs.set j v))) { s with heap:=s.heap.update p (Obj.mapSeq (·.setIfInBounds j u)) } :=
  I.lstUpd hp ho (a6U its n j u) (r.set rv j) (by rw [List.length_set];exact hz) s.toks
 by_cases h0:0<=k
 ·have hk:k.toNat=j:=by
   rw [seqIndex_of h0 h4] at h1;exact Option.some.inj h1
  exact PySem.W.ki_setAt ho h0 (by omega) (by rw [List.size_toArray,<-hl];exact h4) (by rw [hk];exact ⟨_,I',q⟩)
 ·have hk:(k+(its.toArray.size:Int)).toNat=j:=by
   rw [seqIndex_neg (by omega) h3] at h1;rw [List.size_toArray,<-hl];exact Option.some.inj h1
  exact PySem.W.ki_setBack ho (by omega) (by rw [List.size_toArray,<-hl];exact h3) (by omega) (by rw [hk];exact ⟨_,I',q⟩)
theorem a5m (lo hi:Option Int) (n:Nat):(sliceBounds lo hi none n).1=((HT.sIx n 0 lo:Nat):Int)/\(sliceBounds lo hi none n).2.1=((HT.sIx n n hi:Nat):Int)/\(sliceBounds lo hi none n).2.2=1:=by
 refine ⟨?_,?_,rfl⟩
 ·cases lo with
  | none=>simp [sliceBounds,HT.sIx]
  | some i =>
   simp only [sliceBounds,HT.sIx,Option.getD_none,show (1:Int) > 0 by decide,if_true];by_cases h:i < 0
   ·simp only [h,if_true] <;> omega
   ·simp only [h,if_false] <;> omega
 ·cases hi with
  | none=>simp [sliceBounds,HT.sIx]
  | some i =>
   simp only [sliceBounds,HT.sIx,Option.getD_none,show (1:Int) > 0 by decide,if_true];by_cases h:i < 0
   ·simp only [h,if_true] <;> omega
   ·simp only [h,if_false] <;> omega
theorem a4C (its:List Value) (lo hi:Option Int):slicePick its.toArray lo hi none=((its.drop (HT.sIx its.length 0 lo)).take (HT.sIx its.length its.length hi - HT.sIx its.length 0 lo)).toArray:=by
 obtain ⟨h1,h2,h3⟩:=a5m lo hi its.toArray.size;unfold slicePick;rw [h1,h2,h3];simp only [sliceRange_one,pick_run,List.size_toArray] <;> rfl
def rSlL (K:PySem.W.Frag):V->Option Int->Option Int->Hp->VK->Prop:=λx lo hi H Q=>∃ a xs,x=.ref a/\SqL K H a xs/\∀ p,H p=none->Q (.ref p) (upd H p (.lst (a5I xs lo hi)))
theorem a5N:SlR X (rSlL X.K):=by
 intro pins s σ H x v vl vu lo hi sl Q I rx hs pl pu h;obtain ⟨a,xs,rfl,hx,q⟩:=h;cases rx;obtain ⟨its,r,ht,hz⟩:=I.list hx;have hlen:=r.length;refine ⟨"list",_,slot_list_getitem.lookup,ht.isList.typeIs,?_⟩;refine wpAny_getItem_list_slice ht.isList hs pl pu .none (by simp) ?_ (by rw [List.size_toArray] <;> omega);rw [a4C,<-hlen];refine ⟨.ref s.heap.objs.size,_,I.laid (t':=s.toks) (o:=.lst (a5I xs lo hi)) (λb ob q=>Heap.get?_push_of_some _ q) (Nat.le_refl _) ?_,rfl,q _ (I.hok.fresh (Nat.le_refl _))⟩;exact ⟨Nat.le_trans (a3K xs lo hi) hz,_,0,(r.drop (HT.sIx xs.length 0 lo)).take (HT.sIx xs.length xs.length hi - HT.sIx xs.length 0 lo),Heap.get?_push_size _ rfl⟩
def a4D:V->Bool
 | .non=>true
 | .bl _=>true
 | .int _=>true
 | .str _=>true
 | _=>false
def eqV:V->V->Bool
 | .non,.non=>true
 | .bl a,.bl b=>a == b
 | .bl a,.int b=>(if a then 1 else 0) == b
 | .int a,.bl b=>a == (if b then 1 else 0)
 | .int a,.int b=>a == b
 | .str a,.str b=>a == b
 | _,_=>false
theorem eqAt_V {A:Around} {s:Shared} {y x:V} {u v:Value} (ry:a1u y u) (rx:a1u x v) (fy:a4D y=true) (fx:a4D x=true):SeqAt.EqAt A s u v (eqV y x):=by
 cases y with
 | non =>
  cases ry;cases x with
  | non=>cases rx;exact SeqAt.EqAt.same _
  | bl b=>cases rx;exact SeqAt.EqAt.none_bool b
  | int b=>obtain ⟨t,rfl⟩:=rx;exact SeqAt.EqAt.none_int b t
  | str b=>obtain ⟨t,rfl⟩:=rx;exact SeqAt.EqAt.none_str b t
  | _=>exact absurd (show false=true from fx) Bool.false_ne_true
 | bl a =>
  cases ry;cases x with
  | non=>cases rx;exact SeqAt.EqAt.bool_none a
  | bl b=>cases rx;exact SeqAt.EqAt.bool_bool a b
  | int b=>obtain ⟨t,rfl⟩:=rx;exact SeqAt.EqAt.bool_int a b t
  | str b=>obtain ⟨t,rfl⟩:=rx;exact SeqAt.EqAt.bool_str a b t
  | _=>exact absurd (show false=true from fx) Bool.false_ne_true
 | int a =>
  obtain ⟨t',rfl⟩:=ry;cases x with
  | non=>cases rx;exact SeqAt.EqAt.int_none a t'
  | bl b=>cases rx;exact SeqAt.EqAt.int_bool a t' b
  | int b=>obtain ⟨t,rfl⟩:=rx;exact SeqAt.EqAt.int_int a t' b t
  | str b=>obtain ⟨t,rfl⟩:=rx;exact SeqAt.EqAt.int_str a t' b t
  | _=>exact absurd (show false=true from fx) Bool.false_ne_true
 | str a =>
  obtain ⟨t',rfl⟩:=ry;cases x with
  | non=>cases rx;exact SeqAt.EqAt.str_none a t'
  | bl b=>cases rx;exact SeqAt.EqAt.str_bool a t' b
  | int b=>obtain ⟨t,rfl⟩:=rx;exact SeqAt.EqAt.str_int a t' b t
  | str b=>obtain ⟨t,rfl⟩:=rx;exact SeqAt.EqAt.str_str a t' b t
  | _=>exact absurd (show false=true from fx) Bool.false_ne_true
 | _=>exact absurd (show false=true from fy) Bool.false_ne_true
def eqU (x:V) (u:Value):Bool:=match u with
 | .none=>eqV .non x
 | .bool b=>eqV (.bl b) x
 | .int i _=>eqV (.int i) x
 | .str z _=>eqV (.str z) x
 | _=>false
theorem b1b {x y:V} {u:Value} (r:a1u y u) (f:a4D y=true):eqU x u=eqV y x:=by
 cases y with
 | non=>cases r;rfl
 | bl b=>cases r;rfl
 | int i=>obtain ⟨t,rfl⟩:=r;rfl
 | str z=>obtain ⟨t,rfl⟩:=r;rfl
 | _=>exact absurd (show false=true from f) Bool.false_ne_true
theorem a3L {x:V}:∀ {xs:List V} {us:List Value},a0U xs us->xs.all a4D=true->us.any (eqU x)=xs.any λy=>eqV y x
 | _,_,.nil,_=>rfl
 | y :: xs,u :: us,.cons r t,f=>by
  rw [List.all_cons,Bool.and_eq_true] at f;rw [List.any_cons,List.any_cons,b1b r f.1,a3L t f.2]
theorem a2J {A:Around} {s:Shared} {x:V} {v:Value} (rx:a1u x v) (fx:a4D x=true):∀ {xs:List V} {us:List Value},a0U xs us->xs.all a4D=true->∀ u∈us,SeqAt.EqAt A s u v (eqU x u)
 | _,_,.nil,_=>λu hu=>by cases hu
 | y :: xs,u :: us,.cons r t,f=>λu' hu=>by
  rw [List.all_cons,Bool.and_eq_true] at f;rcases List.mem_cons.mp hu with rfl | hu
  ·rw [b1b r f.1];exact eqAt_V r rx f.1 fx
  ·exact a2J rx fx t f.2 u' hu
def inV (x:V) (xs:List V):Bool:=xs.any λy=>eqV y x
def rIn (K:PySem.W.Frag) (neg:Bool):R2:=λx y H Q=>∃ p xs,y=.ref p/\(SqL K H p xs\/SqT K H p xs)/\a4D x=true/\xs.all a4D=true/\Q (.bl (if neg then !inV x xs else inV x xs)) H
theorem a1z:OpR X (compareOp .In) (rIn X.K false):=by
 intro pins s σ H x y v u Q I rx ry h;obtain ⟨p,xs,rfl,hq,fx,fs,q⟩:=h;cases ry;rcases hq with hq | hq
 ·obtain ⟨its,r,pl,hz⟩:=I.list hq;refine SeqAt.in_listAt (eqU x) pl.isList (λw hw=>a2J rx fx r fs w (by simpa using hw)) ⟨.bl _,H,I,rfl,?_⟩;rw [show its.toArray.any (eqU x)=its.any (eqU x) by simp,a3L r fs];exact q
 ·obtain ⟨its,r,pl,hz⟩:=I.tuple hq;refine SeqAt.in_tupleAt (eqU x) pl (λw hw=>a2J rx fx r fs w (by simpa using hw)) ⟨.bl _,H,I,rfl,?_⟩;rw [show its.toArray.any (eqU x)=its.any (eqU x) by simp,a3L r fs];exact q
theorem a1p:OpR X (compareOp .NotIn) (rIn X.K true):=by
 intro pins s σ H x y v u Q I rx ry h;obtain ⟨p,xs,rfl,hq,fx,fs,q⟩:=h;cases ry;rcases hq with hq | hq
 ·obtain ⟨its,r,pl,hz⟩:=I.list hq;refine SeqAt.notIn_listAt (eqU x) pl.isList (λw hw=>a2J rx fx r fs w (by simpa using hw)) ⟨.bl _,H,I,rfl,?_⟩;rw [show its.toArray.any (eqU x)=its.any (eqU x) by simp,a3L r fs];exact q
 ·obtain ⟨its,r,pl,hz⟩:=I.tuple hq;refine SeqAt.notIn_tupleAt (eqU x) pl (λw hw=>a2J rx fx r fs w (by simpa using hw)) ⟨.bl _,H,I,rfl,?_⟩;rw [show its.toArray.any (eqU x)=its.any (eqU x) by simp,a3L r fs];exact q
theorem a0r:a2W X (.builtin "len") (λxs H Q=>∃ p ys,xs=[.ref p]/\(SqL X.K H p ys\/SqT X.K H p ys)/\Q (.int ys.length) H):=by
 intro pins s σ H xs us Q I r h;obtain ⟨p,ys,rfl,hq,q⟩:=h;obtain ⟨u,rfl,rx⟩:=a3q r;cases rx;have hn:=a4p;rcases hq with hq | hq
 ·obtain ⟨its,r',pl,hz⟩:=I.list hq;have hlen:=r'.length;exact Calls.call_len_list pl.isList (by simp only [List.size_toArray] <;> omega) ⟨.int ys.length,H,I.tok _,⟨s.toks+1,by rw [List.size_toArray,hlen]⟩,q⟩
 ·obtain ⟨its,r',pl,hz⟩:=I.tuple hq;have hlen:=r'.length;exact len_tuple pl (by simp only [List.size_toArray] <;> omega) ⟨.int ys.length,H,I.tok _,⟨s.toks+1,by rw [List.size_toArray,hlen]⟩,q⟩
theorem a1A:a2W X (.builtin "len") (λxs H Q=>∃ z,xs=[.str z]/\z.length<=sizeLine/\Q (.int z.length) H):=by
 intro pins s σ H xs us Q I r h;obtain ⟨z,rfl,hz,q⟩:=h;obtain ⟨u,rfl,t,rfl⟩:=a3q r;have hn:=a4p;exact len_str (by omega) ⟨.int z.length,H,I.tok _,⟨_,rfl⟩,q⟩
theorem a2i:a2W X (.type "list") (λxs H Q=>∃ p ys,xs=[.ref p]/\(SqL X.K H p ys\/SqT X.K H p ys)/\∀ l,H l=none->Q (.ref l) (upd H l (.lst ys))):=by
 intro pins s σ H xs us Q I r h;obtain ⟨p,ys,rfl,hq,q⟩:=h;obtain ⟨u,rfl,rx⟩:=a3q r;cases rx;have fin:∀ (its:List Value),a0U ys its->ys.length<=sizeLine->∀ (h':Heap) (c':Nat),(∀ b o',s.heap.get? b=some o'->h'.get? b=some o') ->
   h'.get? s.heap.objs.size=some { cls:=.type "list",dict:=none,data:=.seq its.toArray c',slots:=#[] }->EP X pins σ Q (.ref s.heap.objs.size) { s with heap:=h' }:=λits r' hz h' c' kp e =>
  ⟨.ref s.heap.objs.size,_,I.laid (t':=s.toks) kp (Nat.le_refl _) (show a1T X.prog X.w _ h' _ (.lst ys) from ⟨hz,its,c',r',e⟩),rfl,q _ (I.hok.fresh (Nat.le_refl _))⟩
 rcases hq with hq | hq
 ·obtain ⟨its,r',pl,hz⟩:=I.list hq;have hlen:=r'.length;obtain ⟨o,ho,hc,n,hd⟩:=pl.isList;exact call_list_seq p (.inl rfl) ho hc hd (λh' c' kp e=>fin its r' hz h' c' kp e) (by simp only [List.size_toArray] <;> omega)
 ·obtain ⟨its,r',pl,hz⟩:=I.tuple hq;have hlen:=r'.length;obtain ⟨o,ho,hc,n,hd⟩:=pl;exact call_list_seq p (.inr rfl) ho hc hd (λh' c' kp e=>fin its r' hz h' c' kp e) (by simp only [List.size_toArray] <;> omega)
theorem a0X:a2W X (.type "tuple") (λxs H Q=>∃ p ys,xs=[.ref p]/\((SqL X.K H p ys/\∀ l,H l=none->Q (.ref l) (upd H l (.tup ys)))\/(SqT X.K H p ys/\Q (.ref p) H))):=by
 intro pins s σ H xs us Q I r h;obtain ⟨p,ys,rfl,h⟩:=h;obtain ⟨u,rfl,rx⟩:=a3q r;cases rx;rcases h with ⟨hq,q⟩ | ⟨hq,q⟩
 ·obtain ⟨its,r',pl,hz⟩:=I.list hq;have hlen:=r'.length;refine call_tuple_list pl.isList (λh' kp=>?_) (by simp only [List.size_toArray] <;> omega);have I1:Inv X pins σ H { s with heap:=h' }:=I.kept (t':=s.toks) kp;have I2:Inv X pins σ (upd H h'.objs.size (.tup ys)) { s with heap:=h'.push { cls:=.type "tuple",data:=.seq its.toArray } } :=
   I1.laid (t':=s.toks) (λb o e=>Heap.get?_push_of_some _ e) (Nat.le_refl _) (show a1T X.prog X.w _ _ _ (.tup ys) from ⟨hz,its,r',a5d.new _ _⟩)
  exact ⟨.ref h'.objs.size,_,I2,rfl,q _ (I1.hok.fresh (Nat.le_refl _))⟩
 ·obtain ⟨its,r',pl,hz⟩:=I.tuple hq;exact call_tuple_same pl ⟨.ref p,H,I,rfl,q⟩
def tyV (K:PySem.W.Frag) (T:String) (x:V) (H:Hp):Prop:=match x with
 | .str _=>T="str"
 | .int _=>T="int"
 | .ref p=>(T="list"/\∃ xs,SqL K H p xs)\/(T="tuple"/\∃ o,K.lookup p=some o/\o.cls=.type "tuple"/\o.dict=none) \/
   (T="dict"/\((∃ kvs,H p=some (.dK kvs))\/∃ kvs,H p=some (.dT kvs)))\/(T="set"/\∃ S n,H p=some (.set S n))
 | _=>False
theorem a7S {pins:List (Addr × Obj)} {σ:St} {H:Hp} {s:Shared} {T:String} {x:V} {v:Value} (I:Inv X pins σ H s) (r:a1u x v) (ty:tyV X.K T x H) :
  s.TypeIs v T/\∀ a,v=.ref a->∃ ob,s.heap.get? a=some ob/\ob.dict=none:=by
 cases x with
 | str z =>
  obtain ⟨t,rfl⟩:=r;cases (show T="str" from ty);exact ⟨typeIs_str s z t,λ_ e=>nomatch e⟩
 | int i =>
  obtain ⟨t,rfl⟩:=r;cases (show T="int" from ty);exact ⟨typeIs_int s i t,λ_ e=>nomatch e⟩
 | ref p =>
  cases r;rcases ty with ⟨rfl,xs,hq⟩ | ⟨rfl,o,hk,hc,hd⟩ | ⟨rfl,hk⟩ | ⟨rfl,S,n,hk⟩
  ·obtain ⟨its,_,pl,_⟩:=I.list hq;refine ⟨pl.isList.typeIs,λa e=>?_⟩;cases e;obtain ⟨o,n,e,c,hd,_⟩:=pl;exact ⟨o,e,hd⟩
  ·refine ⟨⟨o,I.kIn p o hk,hc⟩,λa e=>?_⟩;cases e;exact ⟨o,I.kIn _ o hk,hd⟩
  ·have z:∃ o,s.heap.get? p=some o/\o.ExactDict:=by
    rcases hk with ⟨kvs,hk⟩ | ⟨kvs,hk⟩
    ·obtain ⟨_,_,_,_,o,_,_,e,ex,_⟩:=I.hok p _ hk;exact ⟨o,e,ex⟩
    ·obtain ⟨_,_,_,_,o,_,_,e,ex,_⟩:=I.hok p _ hk;exact ⟨o,e,ex⟩
   obtain ⟨o,e,ex⟩:=z;refine ⟨⟨o,e,ex.1⟩,λa e2=>?_⟩;cases e2;exact ⟨o,e,ex.2.1⟩
  ·obtain ⟨o,_,_,_,e,ex,_⟩:=I.hok p _ hk;refine ⟨⟨o,e,ex.1⟩,λa e2=>?_⟩;cases e2;exact ⟨o,e,ex.2.1⟩
 | _=>exact False.elim ty
def tBM0 (K:PySem.W.Frag) (T:String) (r:V->List V->Hp->VK->Prop) (to:TE):TE:=λσ H Q=>to σ H λx H1=>tyV K T x H1/\r x [] H1 Q
def tBM (K:PySem.W.Frag) (T:String) (r:V->List V->Hp->VK->Prop) (to:TE) (t:TA):TE:=λσ H Q=>to σ H λx H1=>tyV K T x H1/\t σ H1 λxs H2=>r x xs H2 Q
variable {o e:Expr} {es:List Expr} {to:TE} {t:TA} {name:Str} {apos cpos:Pos} {T id:String} {r:V->List V->Hp->VK->Prop}
theorem a7T (pa:PlainAttrs T) (slot:Slot T name id) (hty:typeOf (.builtin id)=pure (.type "method_descriptor")) (hm:MtR X id r) (ho:PE X o to)
  (hbase:attributeBase o name X.env (eval o X.env)=eval o X.env:=by rfl) (hline:(apos.endLine == cpos.line)=true:=by rfl):PE X (.Call (.Attribute o name apos) [] [] cpos) (tBM0 X.K T r to):=by
 intro pins s σ H Q I h;refine wpAny_Call_method0_late hbase hline (thn (ho pins s σ H _ I h) λv s1 ⟨x,H1,I1,r1,ty,q1⟩=>?_);obtain ⟨h1,h2⟩:=a7S I1 r1 ty;exact ⟨T,id,pa,slot,hty,h1,h2,Calls.callWith_builtin rfl (PySem.evalArgs_none (hm pins s1 σ H1 x [] v [] Q I1 r1 .nil q1))⟩
theorem a2u (pa:PlainAttrs T) (slot:Slot T name id) (hty:typeOf (.builtin id)=pure (.type "method_descriptor")) (hm:MtR X id r) (ho:PE X o to) (ha:PA X (e :: es) t)
  (hbase:attributeBase o name X.env (eval o X.env)=eval o X.env:=by rfl)
  (hfew:((backTo cpos (starEach (e :: es) X.env)).all (λx=>!x.1) && (backToKw cpos (keywordEach [] X.env)).all (λx=>x.1.isSome)
   && decide ((e :: es).length+([]:List Keyword).length+(if ([]:List Keyword).isEmpty then 0 else 1) < 30))=true:=by rfl)
  (hline:(apos.endLine == cpos.line)=true:=by rfl) (hs:starEach (e :: es) X.env=(false,eval e X.env) :: starEach es X.env:=by rfl) (hplain:(backTo cpos (starEach es X.env)).any (·.1)=false:=by rfl) :
  PE X (.Call (.Attribute o name apos) (e :: es) [] cpos) (tBM X.K T r to t):=by
 intro pins s σ H Q I h;refine wpAny_Call_method_late hbase hfew hline rfl (thn (ho pins s σ H _ I h) λv s1 ⟨x,H1,I1,r1,ty,q1⟩=>?_);obtain ⟨h1,h2⟩:=a7S I1 r1 ty;refine ⟨T,id,pa,slot,hty,h1,h2,?_⟩;have hA:=ha cpos pins s1 σ H1 _ I1 q1;rw [hs] at hA ⊢;refine Calls.callWith_builtin (by show (false || (backTo cpos (starEach es X.env)).any (·.1))=false;rw [hplain] <;> rfl) (Calls.evalArgs_plain ?_);exact thn hA λus s2 ⟨vs,H2,I2,r2,q2⟩=>hm pins s2 σ H2 x vs v us Q I2 r1 r2 q2
end
def MtM (X:Cx) (id:String) (r:V->List V->Hp->VK->Prop):Prop :=
 ∀ (pins:List (Addr × Obj)) (s:Shared) (σ:St) (H:Hp) (x:V) (xs:List V) (v:Value) (us:List Value) (Q:VK),Inv X pins σ H s->a1u x v->a0U xs us->r x xs H Q ->
  wpAny (model X.prog X.w) X.A (call (.builtin id) (v :: us)) (EP X pins σ Q) X.xe s
theorem a0U.one:∀ {x:V} {us:List Value},a0U [x] us->∃ u,us=[u]/\a1u x u
 | _,_,.cons r .nil=>⟨_,rfl,r⟩
theorem a0U.two:∀ {x y:V} {us:List Value},a0U [x,y] us->∃ u v,us=[u,v]/\a1u x u/\a1u y v
 | _,_,_,.cons r (.cons q .nil)=>⟨_,_,rfl,r,q⟩
theorem a0U.zero:∀ {us:List Value},a0U [] us->us=[]
 | _,.nil=>rfl
theorem a0U.dropLast {xs:List V} {us:List Value} (h:a0U xs us):a0U xs.dropLast us.dropLast:=by
 induction h with
 | nil=>exact .nil
 | cons r t ih =>
  cases t with
  | nil=>exact .nil
  | cons q t'=>exact .cons r ih
theorem a0U.rep {xs:List V} {us:List Value} (h:a0U xs us):∀ k:Nat,a0U (List.replicate k xs).flatten (List.replicate k us).flatten
 | 0=>.nil
 | k+1=>by
  rw [List.replicate_succ,List.replicate_succ,List.flatten_cons,List.flatten_cons];exact a0U.append h (a0U.rep h k)
theorem a6V {α:Type} (l:List α):l.eraseIdx (l.length - 1)=l.dropLast:=by
 induction l with
 | nil=>rfl
 | cons a r ih =>
  cases r with
  | nil=>rfl
  | cons b r =>
   have e:(a :: b :: r).length - 1=((b :: r).length - 1)+1:=by
    have h1:(a :: b :: r).length=r.length+2:=rfl;have h2:(b :: r).length=r.length+1:=rfl;omega
   rw [e,List.eraseIdx_cons_succ,ih]
   all_goals rfl
theorem a5n (its:List Value):∀ (k:Nat) (acc:List Value),
  List.foldl (λx1 x2=>x1++x2) acc.toArray (List.replicate k its.toArray)=(acc++(List.replicate k its).flatten).toArray
 | 0,acc=>by simp
 | k+1,acc=>by
  have e:acc.toArray++its.toArray=(acc++its).toArray:=by simp
  have e2:(acc++its)++(List.replicate k its).flatten=acc++(List.replicate (k+1) its).flatten:=by
   rw [List.replicate_succ,List.flatten_cons,List.append_assoc]
  rw [<-e2,<-a5n its k (acc++its),<-e,List.replicate_succ,List.foldl_cons]
section
variable {X:Cx} {pins:List (Addr × Obj)} {σ:St} {H:Hp} {s:Shared} {l b:Addr} {xs ys zs:List V}
theorem Inv.lset {its its':List Value} {n:Nat} {f:Array Value->Array Value} {t':Nat} (I:Inv X pins σ H s) (hH:H l=some (.lst xs))
  (e:s.heap.get? l=some { cls:=.type "list",data:=.seq its.toArray n }) (hf:f its.toArray=its'.toArray) (hv:a0U ys its') (hz:ys.length<=sizeLine) :
  Inv X pins σ (upd H l (.lst ys)) { s with heap:=s.heap.update l (Obj.mapSeq f),toks:=t' }:=by
 have q:=PySem.IsL.update e f;rw [hf] at q;refine I.write (x:=l) (e:=l) (by rw [hH];exact trivial) (.inl rfl) (λb' u hb hu=>(Heap.get?_update_other s.heap (Obj.mapSeq f) (Ne.symm hb)).trans hu) ⟨_,q⟩ ?_;exact ⟨hz,its',_,hv,q⟩
theorem Inv.lnew {its:List Value} {t':Nat} (I:Inv X pins σ H s) (hv:a0U ys its) (hz:ys.length<=sizeLine) :
  Inv X pins σ (upd H s.heap.objs.size (.lst ys)) { s with heap:=s.heap.push { cls:=.type "list",data:=.seq its.toArray },toks:=t' } :=
 I.laid (λ_ _ q=>Heap.get?_push_of_some _ q) (Nat.le_refl _) ⟨hz,its,0,hv,Heap.get?_push_size _ rfl⟩
theorem Inv.fresh (I:Inv X pins σ H s):H s.heap.objs.size=none:=I.hok.fresh (Nat.le_refl _)
theorem Inv.lstM (I:Inv X pins σ H s) (hH:H l=some (.lst xs)):xs.length<=sizeLine/\∃ (its:List Value) (n:Nat),a0U xs its/\xs.length=its.length/\s.heap.get? l=some { cls:=.type "list",data:=.seq its.toArray n }:=by
 obtain ⟨z,its,n,r,e⟩:=I.hok l _ hH;exact ⟨z,its,n,r,r.length,e⟩
theorem a6p {n:Nat} (h:n<=sizeLine):Builtin.List.listTooLong n=false:=by
 unfold Builtin.List.listTooLong;exact decide_eq_false (by omega)
end
section
variable {X:Cx}
def b2l:V->List V->Hp->VK->Prop:=λx vs H Q=>∃ l xs y,x=.ref l/\vs=[y]/\H l=some (.lst xs)/\xs.length < sizeLine/\Q .non (upd H l (.lst (xs++[y])))
theorem a1e:MtM X "list.append" b2l:=by
 intro pins s σ H x vs v us Q I rx rv h;obtain ⟨l,xs,y,rfl,rfl,hH,hz,q⟩:=h;cases rx;obtain ⟨u,rfl,ru⟩:=rv.one;obtain ⟨z,its,n,r,hl,e⟩:=I.lstM hH;refine call_meets F.slot_list_append ⟨_,e,rfl⟩ F.entry_list_append (F.args_list_append_2 _ _) (PySem.list_append l its.toArray n u (by rw [List.size_toArray];omega)) ⟨e,?_⟩;refine ⟨.non,_,I.lset (its':=its++[u]) hH e (by simp) (r.append (.cons ru .nil)) ?_,rfl,q⟩;rw [List.length_append,List.length_singleton];omega
def b2m:V->List V->Hp->VK->Prop:=λx vs H Q=>∃ l b xs zs,x=.ref l/\vs=[.ref b]/\H l=some (.lst xs)/\H b=some (.lst zs)/\xs.length+zs.length<=sizeLine/\Q .non (upd H l (.lst (xs++zs)))
theorem a7U:MtM X "list.extend" b2m:=by
 intro pins s σ H x vs v us Q I rx rv h;obtain ⟨l,b,xs,zs,rfl,rfl,hH,hB,hz,q⟩:=h;cases rx;obtain ⟨u,rfl,ru⟩:=rv.one;cases ru;obtain ⟨z,its,n,r,hl,e⟩:=I.lstM hH;obtain ⟨z2,its2,n2,r2,hl2,e2⟩:=I.lstM hB;have hsz:its.toArray.size+its2.toArray.size<=sizeLine:=by rw [List.size_toArray,List.size_toArray];omega
 have hlong:¬ (!its.toArray.isEmpty && Builtin.List.listTooLong (its.toArray.size+its2.toArray.size))=true:=by
  rw [a6p hsz,Bool.and_false];exact Bool.false_ne_true
 refine call_meets F.slot_list_extend ⟨_,e,rfl⟩ F.entry_list_extend (F.args_list_extend_2 _ _)
  (AutoSeq1.list_extend_list_list_0 l its.toArray n b its2.toArray n2 hlong (by rw [List.size_toArray];omega) (by omega)) ⟨e,e2,?_⟩
 refine ⟨.non,_,I.lset (its':=its++its2) hH e (by simp) (r.append r2) ?_,rfl,q⟩;rw [List.length_append];omega
def rPop:V->List V->Hp->VK->Prop:=λx vs H Q=>∃ l xs y,x=.ref l/\vs=[]/\H l=some (.lst xs)/\xs[xs.length - 1]?=some y/\Q y (upd H l (.lst xs.dropLast))
theorem a7V:MtM X "list.pop" rPop:=by
 intro pins s σ H x vs v us Q I rx rv h;obtain ⟨l,xs,y,rfl,rfl,hH,hy,q⟩:=h;cases rx;have hus:=rv.zero;subst hus;obtain ⟨z,its,n,r,hl,e⟩:=I.lstM hH;obtain ⟨u,hu,ru⟩:=r.get hy;have hy':its.toArray[its.toArray.size - 1]?=some u:=by
  show its.toArray[its.length - 1]?=some u;rw [<-Array.getElem?_toList,<-hl];exact hu
 refine call_meets F.slot_list_pop ⟨_,e,rfl⟩ F.entry_list_pop (F.args_list_pop_1 _) (MeetsSeq.list_pop_last l its.toArray n u hy' (by rw [List.size_toArray];omega)) ⟨e,?_⟩;refine ⟨y,_,I.lset (its':=its.dropLast) hH e ?_ r.dropLast ?_,ru,q⟩
 ·show its.toArray.eraseIdxIfInBounds (its.toArray.size - 1)=its.dropLast.toArray;rw [List.size_toArray,List.eraseIdxIfInBounds_toArray,a6V]
 ·rw [List.length_dropLast];omega
def rCat:R2:=λx y H Q=>∃ l b xs zs,x=.ref l/\y=.ref b/\H l=some (.lst xs)/\H b=some (.lst zs)/\xs.length+zs.length<=sizeLine/\∀ p,H p=none->Q (.ref p) (upd H p (.lst (xs++zs)))
theorem a2K:OpR X (binaryOp .Add) rCat:=by
 intro pins s σ H x y v u Q I rx ry h;obtain ⟨l,b,xs,zs,rfl,rfl,hH,hB,hz,q⟩:=h;cases rx;cases ry;obtain ⟨z,its,n,r,hl,e⟩:=I.lstM hH;obtain ⟨z2,its2,n2,r2,hl2,e2⟩:=I.lstM hB;refine PySem.P.add_list e e2 ?_ (by rw [List.size_toArray,List.size_toArray];omega);have ea:its.toArray++its2.toArray=(its++its2).toArray:=by simp
 rw [ea];exact ⟨.ref _,_,I.lnew (t':=s.toks) (r.append r2) (by rw [List.length_append];omega),rfl,q _ I.fresh⟩
def rRep:R2:=λx y H Q=>∃ l k xs,x=.ref l/\y=.int k/\H l=some (.lst xs)/\-(2 ^ 63)<=k/\k < 2 ^ 63/\xs.length * k.toNat<=sizeLine /\
 ∀ p,H p=none->Q (.ref p) (upd H p (.lst (List.replicate k.toNat xs).flatten))
theorem b2n {α:Type} (xs:List α) (k:Nat):(List.replicate k xs).flatten.length=k * xs.length:=by
 induction k with
 | zero=>simp
 | succ k ih=>rw [List.replicate_succ,List.flatten_cons,List.length_append,ih,Nat.succ_mul,Nat.add_comm]
theorem op_rep:OpR X (binaryOp .Mult) rRep:=by
 intro pins s σ H x y v u Q I rx ry h;obtain ⟨l,k,xs,rfl,rfl,hH,h1,h2,hz,q⟩:=h;cases rx;obtain ⟨t,rfl⟩:=ry;obtain ⟨z,its,n,r,hl,e⟩:=I.lstM hH;have hlen:its.toArray.size * k.toNat<=sizeLine:=by rw [List.size_toArray,<-hl];exact hz
 have hcap:¬ its.toArray.size * k.toNat > (2 ^ 63 - 1) / 8:=by
  have:(sizeLine:Nat)<=(2 ^ 63 - 1) / 8:=by decide
  omega
 have hfit:¬ (!Builtin.List.listFitsIndex k)=true:=by
  rw [fitsIndex_both h1 h2];exact Bool.false_ne_true
 have hlong:¬ Builtin.List.listTooLong (its.toArray.size * k.toNat)=true:=by
  rw [a6p hlen];exact Bool.false_ne_true
 have hnew:List.foldl (λx1 x2=>x1++x2) #[] (List.replicate (if its.toArray.isEmpty=true then 0 else k.toNat) its.toArray)=(List.replicate k.toNat its).flatten.toArray:=by
  have f0:∀ m:Nat,List.foldl (λx1 x2=>x1++x2) #[] (List.replicate m its.toArray)=(List.replicate m its).flatten.toArray:=λm=>by
   have:=a5n its m [];rw [List.nil_append] at this;exact this
  rw [f0];cases its with
  | nil=>simp
  | cons a r'=>rw [if_neg (by simp)]
 refine wpAny_binaryOp_repeat_ref (T:="list") (U:="int") (by decide) ⟨_,e,rfl⟩ (λs'=>typeIs_int s' k t) noFill_list_mul F.fills_int_mul F.slot_int_rmul repeat_list F.slot_int_index.lookup
  (call_meets F.slot_int_rmul (typeIs_int s k t) F.entry_int_rmul (F.args_int_rmul_2 _ _) (int___rmul___int_list k t l its.toArray n)
   ⟨e,rfl,⟨_,e,rfl⟩,call_meets F.slot_list_mul ⟨_,e,rfl⟩ F.entry_list_mul (F.args_list_mul_2 _ _) (AutoListH.list___mul___list_int_3 l its.toArray n k t hfit hcap hlong) ⟨e,?_⟩⟩)
 rw [hnew];exact ⟨.ref _,_,I.lnew (t':=s.toks) (r.rep k.toNat) (by rw [b2n,Nat.mul_comm];exact hz),rfl,q _ I.fresh⟩
end
section
variable {prog:Program} {w:World} {A:Around} {E:Value->Shared->Prop} {s:Shared}
end
section
variable {X:Cx}
end
end L2
namespace Att
open PySem PySem.W PySem.Calls PyProof.Rows
theorem a3M {P:Params} {h:Heap}:∀ (ns:List Int) (vs:List Value),WellAll P h vs (ns.map WData.int)->IntsAre vs ns:=by
 intro ns
 induction ns with
 | nil =>
  intro vs w;rw [List.map_nil] at w;cases w;exact .nil
 | cons n ns ih =>
  intro vs w;rw [List.map_cons] at w;cases w with
  | cons a b =>
   cases a;exact .cons _ _ (ih _ b)
theorem a7W {l:OpenLaw} {n:Nat} (hn:l.most=some n) {P:Params} {h:Heap} {args:List WData} {vals:List Value}
  (hpre:l.row.toRowW.claim.pre args=true) (hwl:WellAll P h vals args) :
  ∃ a vs ns,vals=[Value.ref a]/\args=[WData.list (ns.map WData.int)]/\h.get? a=some { cls:=.type "list",data:=.seq vs.toArray }/\IntsAre vs ns/\ns.length<=n:=by
 have hsh:WShape.hasAll [] args [.list .int]=true:=(pre_splitW hpre).1;have hc:l.pre.holds [] { args:=args }=true:=(pre_splitW hpre).2;obtain ⟨d,r,rfl,h1,h2⟩:=hasAllW_cons hsh;obtain rfl:=hasAllW_nil h2;obtain ⟨xs,rfl,h3⟩:=hasW_list h1;obtain ⟨ns,rfl⟩:=items_int h3;have hlen:ns.length<=n:=by
  unfold OpenLaw.pre at hc;have h4:(WTm.not (.lt (.lit (.int (n:Int))) (.len (.arg 0)))).holds [] { args:=[.list (ns.map .int)] }=true:=by
   have h4:=(holds_andW hc).1;rw [hn] at h4;exact h4
  have h5:=condW_of h4 (w_not (w_lt w_lit (w_len_list (w_arg rfl))));rw [List.length_map] at h5;refine Nat.le_of_not_lt λq=>?_;have q':(n:Int) < ((ns.length:Nat):Int):=by omega
  first
   | (rw [decide_eq_true q'] at h5;exact absurd h5 (by decide))
   | (simp at h5;omega)
 cases hwl with
 | cons w1 w2 =>
  cases w2;cases w1 with
  | list ho hall=>exact ⟨_,_,ns,rfl,rfl,ho,a3M ns _ hall,hlen⟩
theorem a7X (l:OpenLaw) (args:List WData):l.row.toRowW.claim.post args (.bool true) args=true :=
 postW_of (r:=l.row.toRowW) (X:=(true == true))
  (show WShape.has [] (.bool true) .bool=true by first | rfl | decide | simp [WShape.has,WShape.arms,WShape.armsAll])
  (show (WTm.eq .res (.lit (.bool true))).value [] { args:=args,res:=some (.bool true),after:=args }=some (.bool (true == true)) from w_eq_bool (w_res rfl) w_lit) rfl
theorem a5O {l:OpenLaw} {n:Nat} {q:Program} {loose:List Str} {XP:(Str->Option Value)->Heap->Prop} {YP:World->Heap->Prop} {d:DefRec}
  (hn:l.most=some n) (hdf:d.params.defaults=[])
  (call:∀ (w:World) (s₀ s₁:Shared) (mg mb:Str->Option Value) (fa:Addr) (o:Obj) (pm cd doc:Value) (a:Addr) (vs:List Value) (ns:List Int),
   Ground q loose [] XP w s₀ mg mb s₁.heap->YP w s₁.heap ->
   s₁.heap.get? fa=some o->o.data=.func (docDef d.name d.params d.body d.scope pm cd doc)->s₁.heap.CodeRec cd d.name->mg d.name=some (.ref fa) ->
   s₁.heap.get? a=some { cls:=.type "list",data:=.seq vs.toArray }->IntsAre vs ns->ns.length<=n->s₁.gens=#[] ->
   codeAny (model l.prog w) callerA (.call (.ref fa) ⟨[.ref a],[]⟩) (λr s'=>r=.ok (.ret (.bool true))/\OldK s₁.heap s'.heap/\s'.os=s₁.os/\AllBare s'.gens) s₁) :
  WalkO q loose XP YP l.row.toRowW d [] (λf vs=>PySem.call f vs):=by
 intro w s₀ s₁ mg mb G Y fa o pm cd doc dV kV ho hd hcd hD hmg hg args vals as hpre hlay hrd hwl hlo;obtain rfl:dV=.none:=Dflts.none hD hdf;obtain rfl:kV=.none:=Dflts.noKw hD;obtain ⟨a,vs,ns,rfl,rfl,hobj,hints,hlen⟩:=a7W hn hpre hwl;refine enter_call (codeAny_mono (call w s₀ s₁ mg mb fa o pm cd doc a vs ns G Y ho (fd_plain hd) hcd hmg hobj hints hlen hg) λr s' hq=>?_);obtain ⟨rfl,h2,h3,h4⟩:=hq;exact ⟨.inl ⟨.bool true,.bool true,[],rfl,λ_=>rfl,.bool true,a7X l _,λ_=>⟨List.Pairwise.nil,λ_ hm=>(nomatch hm)⟩⟩,h2,h3,h4⟩
section
variable {prog:Program} {w:World} {A:Around} {E:Value->Shared->Prop} {s:Shared} {K:Frag}
def ledger (h:Heap) (L d:Addr):List (Addr × Obj):=(List.range h.objs.size).filterMap λa=>if a=L\/a=d then none else (h.get? a).map λo=>(a,o)
end
end Att
namespace L2
open PySem PySem.Spec PyProof.Rows
theorem a5o:∀ {vs:List Value} {ns:List Int},IntsAre vs ns->a0U (ns.map V.int) vs
 | _,_,.nil=>.nil
 | _,_,.cons n t h=>.cons ⟨t,rfl⟩ (a5o h)
def Only (H:Hp):Prop:=∀ b,H b=none\/∃ o xs,H b=some (.frz o (.lst xs))
theorem a9S {P:Program} {w:World} {K:PySem.W.Frag} {mg mb:Str->Option Value} {CX:CXT} {k:Nat} {fa a:Addr} {fd:FuncData} {x:Str} {sp:Sp} {s₁:Shared} {vs:List Value} {ns:List Int}
  (KX:K.In s₁.heap) (hns:s₁.heap.Ns mainGlobals mg) (hb:s₁.heap.Ns builtinsNs mb) (hbb:∀ x:Str,x≠"__name__"->mb x=bootBuiltins x) (hlim:s₁.heap.NoLimit) (hg:s₁.gens=#[])
  (ha:s₁.heap.get? a=some { cls:=.type "list",data:=.seq vs.toArray }) (hi:IntsAre vs ns) (hl:ns.length<=sizeLine) (hr:a3l k callerA)
  (F:∀ base:Heap,K.In base->base.Ns mainGlobals mg->a1a P w K mg base CX k fa fd [x] sp) (hbind:∀ (s:Shared) (u:Value),BindsTo s fd ⟨[u],[]⟩ [(x,u)])
  (hsp:∀ H:Hp,Only H->SqL K H a (ns.map V.int)->sp [.ref a] H (λv _=>v=.bl true) λ_ _ _=>False)
  (hCX:∀ H e s',CX [] H s₁ (λ_ _ _=>False) e s'->False) :
  codeAny (model P w) callerA (.call (.ref fa) ⟨[.ref a],[]⟩) (λr s'=>r=.ok (.ret (.bool true))/\OldK s₁.heap s'.heap/\s'.os=s₁.os/\AllBare s'.gens) s₁:=by
 have rv:=a5o hi;have lenV:=hi.length;have core:∀ H:Hp,Only H->SqL K H a (ns.map V.int)->HOk P w H s₁.heap->(∀ b,H b≠none->b=a)->(H a≠none->K.lookup a=none) ->
   codeAny (model P w) callerA (.call (.ref fa) ⟨[.ref a],[]⟩) (λr s'=>r=.ok (.ret (.bool true))/\OldK s₁.heap s'.heap/\s'.os=s₁.os/\AllBare s'.gens) s₁:=by
  intro H hO hS hok hA hK;have base_of:∀ {b:Addr} {o:Obj},s₁.heap.get? b=some o->H b=none->(a9K s₁.heap H).get? b=some o:=λe n=>a9L e n;have noA:∀ {b:Addr} {o:Obj} {es:Array DictEntry} {ep:Nat},s₁.heap.get? b=some o->o.data=.dict es ep->H b=none:=λ{b o es ep} e d=>by
   cases q:H b with
   | none=>rfl
   | some u =>
    have e':b=a:=hA b (by rw [q];simp);subst e';rw [ha] at e;cases e;have d':Data.seq vs.toArray _=Data.dict es ep:=d;cases d'
  have nsK:∀ {b:Addr} {m:Str->Option Value},s₁.heap.Ns b m->(a9K s₁.heap H).Ns b m:=λ{b m} ⟨o,es,ep,e,d,r⟩=>⟨o,es,ep,base_of e (noA e d),d,r⟩
  have hKb:K.In (a9K s₁.heap H):=λb o e=>base_of (KX b o e) (by
   cases q:H b with
   | none=>rfl
   | some u =>
    have e':b=a:=hA b (by rw [q];simp);subst e';rw [hK (by rw [q];simp)] at e;cases e)
  have hM:Mod K mg (a9K s₁.heap H):=⟨hKb,nsK hns,⟨mb,nsK hb,hbb⟩,let ⟨mc,h1,h2⟩:=hlim;⟨mc,nsK h1,h2⟩⟩
  have e0:b2f P w K mg (a9K s₁.heap H) callerA [] s₁ H:=⟨rfl,hM,λb o e=>b1R e,Nat.le_of_eq (a7x _ _),trivial,λb hb=>absurd (show b∈([]:List Addr) from hb) (by simp),hok,.of_eq hg⟩
  refine codeAny_mono ((F _ hKb (nsK hns)).run callerA [] s₁ H ⟨[.ref a],[]⟩ [.ref a] [.ref a] _ _ hr e0 (hbind s₁ (.ref a)) (.cons rfl .nil) (hsp H hO hS)) λr s' h=>?_;cases r with
  | error e=>exact (hCX H e s' h).elim
  | ok fl =>
   cases fl with
   | next=>exact False.elim h
   | brk=>exact False.elim h
   | cont=>exact False.elim h
   | ret u =>
    obtain ⟨v,H',os,bare,un,hok',r',q⟩:=h;have q':v=.bl true:=q;subst q';obtain rfl:u=Value.bool true:=r';refine ⟨rfl,OldK.of_keep λb o e=>?_,os,bare⟩;cases q:H b with
    | none=>exact un.keep b o e q (by intro z;exact absurd (show b∈([]:List Addr) from z) (by simp)) (by simp)
    | some u =>
     rcases hO b with z | ⟨ob,xs,z⟩
     ·rw [q] at z;cases z
     ·have z2:=un.frzs b ob _ z;obtain ⟨e1,_⟩:=hok b _ z;obtain ⟨e2,_⟩:=hok' b _ z2;rw [e] at e1;cases e1;exact e2
 cases hk:K.lookup a with
 | some o =>
  have e:=KX a o hk;rw [ha] at e;cases e;refine core (λ_=>none) (λ_=>.inl rfl) (.inr ⟨_,vs.toArray,_,hk,rfl,rfl,rfl,by rw [List.size_toArray,lenV];exact hl,by simpa using rv⟩) (λb u z=>by have z':(none:Option HO)=some u:=z;cases z') (λb z=>absurd rfl z) λz=>absurd rfl z
 | none =>
  refine core (λb=>if b=a then some (.frz { cls:=.type "list",data:=.seq vs.toArray } (.lst (ns.map V.int))) else none) (λb=>?_) (.inl (.inr ⟨{ cls:=.type "list",data:=.seq vs.toArray },if_pos rfl⟩)) (λb u z=>?_) (λb z=>?_) λ_=>hk
  ·by_cases hb:b=a
   ·exact .inr ⟨_,_,if_pos hb⟩
   ·exact .inl (if_neg hb)
  ·by_cases hb:b=a
   ·have z':=(if_pos hb).symm.trans z;cases z';subst hb;exact ⟨ha,by rw [List.length_map];exact hl,vs,_,rv,ha⟩
   ·have z':=(if_neg hb).symm.trans z;cases z'
  ·by_cases hb:b=a
   ·exact hb
   ·exact absurd (if_neg hb) z
abbrev KOf {K:PySem.W.Frag} {h:Heap} (_:K.In h):PySem.W.Frag:=K
theorem b2o {l:PySem.W.OpenLaw} {n k:Nat} {q:Program} {loose:List Str} {XP:(Str->Option Value)->Heap->Prop} {YP:World->Heap->Prop} {d:DefRec} {K:Params->PySem.W.Frag} {CX:World->CXT} {sp:World->Sp} {x:Str}
  (hn:l.most=some n) (hn2:n<=sizeLine) (hdf:d.params.defaults=[]) (hr:a3l k callerA)
  (hY:∀ (w:World) (h:Heap),YP w h->(K w.params).In h)
  (F:∀ (w:World) (mg:Str->Option Value) (fa:Addr) (h:Heap),(K w.params).In h->h.Ns mainGlobals mg->mg d.name=some (.ref fa) ->
   ∃ fd:FuncData,(∀ (s:Shared) (u:Value),BindsTo s fd ⟨[u],[]⟩ [(x,u)]) /\
    ∀ base:Heap,(K w.params).In base->base.Ns mainGlobals mg->a1a l.prog w (K w.params) mg base (CX w) k fa fd [x] (sp w))
  (hsp:∀ (w:World) (H:Hp) (a:Addr) (ns:List Int),ns.length<=n->Only H->SqL (K w.params) H a (ns.map V.int)->sp w [.ref a] H (λv _=>v=.bl true) λ_ _ _=>False)
  (hCX:∀ (w:World) (H:Hp) (s:Shared) (e:Value) (s':Shared),CX w [] H s (λ_ _ _=>False) e s'->False) :
  PySem.W.WalkO q loose XP YP l.row.toRowW d [] (λf vs=>PySem.call f vs):=by
 refine Att.a5O hn hdf λw s₀ s₁ mg mb fa o pm cd doc a vs ns G Y ho hd hcd hmg hobj hints hlen hg=>?_;have KX:=hY w _ Y;obtain ⟨fd,hb,hF⟩:=F w mg fa _ KX G.T.g hmg;exact a9S KX G.T.g G.T.b G.T.builtins G.T.nolimit hg hobj hints (Nat.le_trans hlen hn2) hr hF hb (λH hO hS=>hsp w H a ns hlen hO hS) λH e s'=>hCX w H s₁ e s'
def inClass (s:Stmt) (j:Nat):Stmt:=match s with
 | .ClassDef _ _ _ body _ _ _ _ _ _ _=>body.getD j (.Pass ⟨0,0,0,0⟩)
 | _=>.Pass ⟨0,0,0,0⟩
def a0s (s:Stmt):Arguments:=match s with
 | .FunctionDef _ a _ _ _ _ _ _ _ _=>a
 | _=>{ posonlyargs:=[],args:=[],vararg:=none,kwonlyargs:=[],kw_defaults:=[],kwarg:=none,defaults:=[] }
def a0o (s:Stmt):List Stmt:=match s with
 | .FunctionDef _ _ b _ _ _ _ _ _ _=>b
 | _=>[]
def a0e (s:Stmt):Scope:=match s with
 | .FunctionDef _ _ _ _ _ _ sc _ _ _=>sc
 | _=>{ kind:=.function,names:=[],isGenerator:=false,isCoroutine:=false }
abbrev CX0:CXT:=λ_ _ _ _ _ _=>False
abbrev E0:XK:=λ_ _ _=>False
theorem a0D {X:Cx}:a2I CX0 X E0:=λ_ _ _ _ _ _ _ h=>h.elim
structure Fun (K:PySem.W.Frag) (x qual:Str) (st:Stmt) (f:Addr) (fd:FuncData):Prop where
 ex:∃ (oc:Value) (od:Option Addr) (kV doc pm:Value) (an:Option Addr) (cdv ct:Value) (osl:Array (Option Value)),
  fd=PySem.W.fnOf x qual (a0s st) (a0o st) (a0e st) .none kV doc pm an cdv ct/\K.lookup f=some ⟨oc,od,.func fd,osl⟩/\PySem.W.codeIn K cdv qual=true
 kp:PySem.W.keepIn K (.ref f)=true
section
variable {P:Program} {w:World} {K:PySem.W.Frag} {mg:Str->Option Value} {base:Heap}
theorem Fun.ok {x qual:Str} {st:Stmt} {f:Addr} {fd:FuncData} {N ps:List Str} {k:Nat} {sp:Sp} (F:Fun K x qual st f fd) (S:a0u N ps (a0e st)) (len:∀ vs H Q E,sp vs H Q E->vs.length=ps.length)
  (hbody:∀ (cdv:Value) (A:Around) (outer:List Env) (s:Shared) (H:Hp) (vs:List V) (Q:VK) (E:XK),a3l k (A.deeper (envOfC qual (a0e st) s.heap.objs.size f cdv))->sp vs H Q E ->
   ∃ t,PSs (a7N CX0 P w K mg base N qual (a0e st) f cdv A outer s H E).nox (a0o st) t/\t { nx:=λ_ H'=>Q .non H',rt:=Q } (start N vs) H):a1a P w K mg base CX0 (k+1) f fd ps sp:=by
 obtain ⟨oc,od,kV,doc,pm,an,cdv,ct,osl,rfl,lk,hcd⟩:=F.ex;refine fn_of lk hcd S len λA outer s H vs Q E hr hsp=>?_;obtain ⟨t,h,q⟩:=hbody cdv A outer s H vs Q E hr hsp;exact ⟨t,h.nox,q⟩
theorem Fun.binds {x qual:Str} {st:Stmt} {f:Addr} {fd:FuncData} {ps:List Str} (F:Fun K x qual st f fd)
  (h:∀ (kV doc pm:Value) (an:Option Addr) (cdv ct:Value) (us:List Value),us.length=ps.length->bindArgs (PySem.W.fnOf x qual (a0s st) (a0o st) (a0e st) .none kV doc pm an cdv ct) ⟨us,[]⟩=pure (ps.zip us)):a1X K fd ps []:=by
 obtain ⟨oc,od,kV,doc,pm,an,cdv,ct,osl,rfl,lk,hcd⟩:=F.ex;exact .all (h kV doc pm an cdv ct)
theorem a0B {x qual:Str} {st:Stmt} {f:Addr} {oc:Value} {od an:Option Addr} {osl:Array (Option Value)} {kV doc pm cdv ct:Value} (l:K.lookup f=some ⟨oc,od,.func (PySem.W.fnOf x qual (a0s st) (a0o st) (a0e st) .none kV doc pm an cdv ct),osl⟩)
  (c:PySem.W.codeIn K cdv qual=true) (k:PySem.W.keepIn K (.ref f)=true):Fun K x qual st f (PySem.W.fnOf x qual (a0s st) (a0o st) (a0e st) .none kV doc pm an cdv ct):=⟨⟨oc,od,kV,doc,pm,an,cdv,ct,osl,rfl,l,c⟩,k⟩
end
theorem a0p {n:Nat} (h:n<=1000):n < sizeLine:=Nat.lt_of_le_of_lt h (by decide)
section
variable {X:Cx}
theorem pv (i:Nat) {x:Str} {pos:Pos} (hN:X.N[i]?=some x:=by rfl) (hv:Vis X.env.scope x:=by first | exact Or.inl rfl | exact Or.inr (Or.inl rfl) | exact Or.inr (Or.inr rfl)) (hd:(x == ("__debug__":Str))=false:=by decide)
  (hcd:(x == ("__classdict__":Str))=false:=by decide):PE X (.Name x pos) (tVar i):=a6k hN hv hd hcd
end
theorem a2v {A B:Prop} (h:B):if false=true then A else B:=by
 rw [if_neg Bool.false_ne_true];exact h
theorem a4k {A B:Prop} (h:A):if true=true then A else B:=by
 rw [if_pos rfl];exact h
theorem a1K {c A B:Prop} [Decidable c] (h1:c->A) (h2:¬ c->B):if c then A else B:=by
 by_cases h:c
 ·rw [if_pos h];exact h1 h
 ·rw [if_neg h];exact h2 h
def a0E (H H':Hp):Prop:=∀ b o,H b=some o->H' b=some o
theorem a0E.refl (H:Hp):a0E H H:=λ_ _ h=>h
theorem a0E.trans {H H1 H2:Hp} (a:a0E H H1) (b:a0E H1 H2):a0E H H2:=λc o h=>b c o (a c o h)
theorem a0E.free {H H':Hp} (e:a0E H H') {l:Addr} (h:H' l=Option.none):H l=Option.none:=by
 cases q:H l with
 | none=>rfl
 | some o =>
  rw [e l o q] at h;cases h
theorem a0E.seq {K:PySem.W.Frag} {H H':Hp} {a:Addr} {xs:List V} (e:a0E H H') (h:SqL K H a xs):SqL K H' a xs:=by
 rcases h with (h | ⟨o,h⟩) | h
 ·exact .inl (.inl (e _ _ h))
 ·exact .inl (.inr ⟨o,e _ _ h⟩)
 ·exact .inr h
section
variable {prog:Program} {w:World} {A:Around} {R:Result->Shared->Prop} {s:Shared}
abbrev a7Y (cs:List Expr) (en:Env):Sem Bool :=
 forIn cs true λc r=>if r=true then do let ok <-isTrue c en (eval c en);pure (ForInStep.yield ok) else pure (ForInStep.yield r)
theorem a6W {elt tg iter:Expr} {cs:List Expr} {scope:Scope} {pos:Pos} {it acc:Value} {en:Env} {EE:Value->Shared->Prop} (hE:EE=notedBy (model prog w) A en λe s'=>R (.error e) s') (J:Nat->Shared->Prop)
  (turn:∀ n s,J n s->wpAny (model prog w) A (pyNext it) (λr s1=>match r with
   | none=>R (.ok .next) s1
   | some v=>wpAny (model prog w) A (letOwnedTupleGo tg it v) (λ_ sg=>wpAny (model prog w) A (assign tg en v) (λ_ s2=>wpAny (model prog w) A (a7Y cs en) (λok s3 =>
     if ok=true then wpAny (model prog w) A (eval elt en) (λy s4=>wpAny (model prog w) A (call (.builtin "list.append") [acc,y]) (λ_ s5=>∃ m,m < n/\J m s5) EE s4) EE s3
     else ∃ m,m < n/\J m s3) EE s2) EE sg) EE s1) EE s)
  (n:Nat) (h:J n s):codeAny (model prog w) A (.compLoop (.ListComp elt [⟨tg,iter,cs,0⟩] scope pos) 0 it acc en) R s:=by
 subst hE;refine codeAny_loop rfl J (λn s hJ=>?_) n h;show wpAny _ A (Sem.onRaise (compTurn (.ListComp elt [⟨tg,iter,cs,0⟩] scope pos) 0 it acc en) (λx=>do noteFrame x en;theTreesLotGoes x)) _ _ s;refine wpAny_noted ?_;rw [compTurn_list];refine wpAny_bind (wpAny_standAt (wpAny_bind (thn (turn n s hJ) λr s1 q1=>?_)));cases r with
 | none=>exact wpAny_pure q1
 | some v =>
  refine wpAny_bind (thn q1 λ_ sg qg=>wpAny_bind (thn qg λ_ s2 q2=>wpAny_bind (thn q2 λok s3 q3=>?_)));cases ok with
  | false=>exact wpAny_pure ⟨rfl,q3⟩
  | true=>exact wpAny_bind (wpAny_bind (thn q3 λy s4 q4=>wpAny_bind (thn q4 λ_ s5 q5=>wpAny_pure (wpAny_pure ⟨rfl,q5⟩))))
end
def PTs (X:Cx) (cs:List Expr) (t:TT):Prop :=
 ∀ (pins:List (Addr × Obj)) (s:Shared) (σ:St) (H:Hp) (Q:Bool->Hp->Prop),Inv X pins σ H s->t σ H Q->wpAny (model X.prog X.w) X.A (a7Y cs X.env) (TP X pins σ Q) X.xe s
def a9T:TT:=λ_ H Q=>Q true H
theorem a0L {X:Cx}:PTs X [] a9T:=λ_ _ _ H _ I h=>wpAny_tests_nil ⟨H,I,h⟩
theorem a5P {X:Cx} {c:Expr} {t:TT} (h:PT X c t):PTs X [c] t:=λpins s σ H Q I q=>wpAny_tests_one (h pins s σ H Q I q)
theorem a2j {en:Env}:∀ (names:List (Str × NameKind)) (acc:List (Str × Addr)),(∀ y,(y,NameKind.free)∈names->∃ c,en.cells.lookup y=some c) ->
  (∀ y c,acc.lookup y=some c->en.cells.lookup y=some c) ->
  ∃ cl,(forIn (m:=Sem) names acc λp cs=>if (p.2 == .free)=true then (do let a <-cellOf en p.1;pure (ForInStep.yield ((p.1,a) :: cs))) else pure (ForInStep.yield cs))=pure cl /\
   (∀ y c,cl.lookup y=some c->en.cells.lookup y=some c)/\(∀ y,((y,NameKind.free)∈names\/∃ c,acc.lookup y=some c)->∃ c,cl.lookup y=some c)
 | [],acc,_,h2=>⟨acc,rfl,h2,λy h=>h.elim (λz=>by simp at z) id⟩
 | (n,k) :: r,acc,h1,h2=>by
  by_cases hk:k=.free
  ·subst hk;obtain ⟨c,hc⟩:=h1 n (by simp);obtain ⟨cl,e,a,b⟩:=a2j r ((n,c) :: acc) (λy hy=>h1 y (List.mem_cons_of_mem _ hy)) (λy d hd=>by
    rw [List.lookup_cons] at hd;by_cases hy:y=n
    ·subst hy;simp at hd;subst hd;exact hc
    ·have:(y == n)=false:=by simpa using hy
     rw [this] at hd;exact h2 y d hd)
   refine ⟨cl,?_,a,λy hy=>b y ?_⟩
   ·rw [List.forIn_cons];have e1:cellOf en n=pure c:=by unfold cellOf;rw [hc]
    simp only [beq_self_eq_true,if_true,e1,pure_bind];exact e
   ·rcases hy with hy | ⟨d,hd⟩
    ·rcases List.mem_cons.mp hy with z | z
     ·cases z;exact .inr ⟨c,by simp⟩
     ·exact .inl z
    ·by_cases hy:y=n
     ·subst hy;exact .inr ⟨c,by simp⟩
     ·have:(y == n)=false:=by simpa using hy
      exact .inr ⟨d,by rw [List.lookup_cons,this];exact hd⟩
  ·have hb:(k == NameKind.free)=false:=by simpa using hk
   obtain ⟨cl,e,a,b⟩:=a2j r acc (λy hy=>h1 y (List.mem_cons_of_mem _ hy)) h2;refine ⟨cl,?_,a,λy hy=>b y ?_⟩
   ·rw [List.forIn_cons];simp only [hb,Bool.false_eq_true,if_false,pure_bind];exact e
   ·rcases hy with hy | hy
    ·rcases List.mem_cons.mp hy with z | z
     ·cases z;exact absurd rfl hk
     ·exact .inl z
    ·exact .inr hy
theorem a6X {scope:Scope} {en:Env} (h1:∀ y,(y,NameKind.free)∈scope.names->∃ c,en.cells.lookup y=some c) :
  ∃ cl,closureFor scope en=pure cl/\(∀ y c,cl.lookup y=some c->en.cells.lookup y=some c)/\(∀ y,(y,NameKind.free)∈scope.names->∃ c,cl.lookup y=some c):=by
 obtain ⟨cl,e,a,b⟩:=a2j (en:=en) scope.names [] h1 (λy c h=>by simp at h);refine ⟨cl,?_,a,λy hy=>b y (.inl hy)⟩;have q:=congrArg (λt:Sem (List (Str × Addr))=>t >>= λc=>pure c) e;exact q
def xeC (X:Cx) (en:Env) (C:Addr):Value->Shared->Prop :=
 notedBy (model X.prog X.w) X.A en λe s'=>compPost (model X.prog X.w) X.A X.xe none (λ_ _=>False) Value.none C (.error e) s'
def cxC (X:Cx) (scope:Scope) (cl:List (Str × Addr)) (C:Addr) (s0:Shared) (H0:Hp) (fp:List Addr) (N:List Str):Cx where
 prog:=X.prog
 w:=X.w
 K:=X.K
 mg:=X.mg
 base:=X.base
 A:=X.A
 N:=N
 s₀:=s0
 H₀:=H0
 env:=compEnvC scope cl C X.env
 outer:=X.stack
 stack:=X.stack
 ex:=fp
 fn:=λ_=>false
 calm:=X.calm
 pn:=[]
 xe:=xeC X (compEnvC scope cl C X.env) C
structure a0l (scope:Scope) (en:Env) (N M:List Str):Prop where
 kind:scope.kind=.function
 nocell:∀ y∈scope.names,y.2≠.cell
 locs:∀ y∈scope.names,y.2=.local->scope.names.lookup y.1=some .local
 free:∀ y,(y,NameKind.free)∈scope.names->en.kindOf y=some .cell\/en.kindOf y=some .free
 len:M.length=N.length
 same:∀ (j:Nat) (y:Str),M[j]?=some y->Vis (relabel scope en) y->N[j]?=some y/\(y,NameKind.free)∈scope.names/\(relabel scope en).names.lookup y≠some .local
 relab:∀ y,((relabel scope en).names.lookup y=some .cell\/(relabel scope en).names.lookup y=some .free)->(y,NameKind.free)∈scope.names
def a6Y (k:Nat) (wi:TI) (g:TG) (tc:TT) (te:TE):TE:=λσ H Q=>wi σ H λJ H1=>∀ d,H1 d=none->∃ W:Nat->Nat->Hp->Prop,(∃ m,W 0 m (upd H1 d (.lst [])))/\∀ i m H,W i m H ->
 (J.stop i H/\Q (.ref d) H)\/(J.go i H/\∃ N:Hp->Prop,(∀ H',N H'->∃ m',m' < m/\W (i+1) m' H')/\∀ x H',J.yld i H x H'->g x (List.replicate k none++σ) H' λσ2 H2 =>
  tc σ2 H2 λb H3=>if b=true then te σ2 H3 λy H4=>∃ ys,H4 d=some (.lst ys)/\ys.length < sizeLine/\N (upd H4 d (.lst (ys++[y]))) else N H3)
structure Gone (X:Cx) (pins:List (Addr × Obj)) (H:Hp) (C:Addr):Prop where
 no:H C=none
 ne:C≠X.env.locals
 yg:X.s₀.heap.objs.size<=C
 cl:∀ x c,X.env.cells.lookup x=some c->c≠C
 pn:∀ p∈X.pn++pins,p.1≠C
theorem Inv.gone {X:Cx} {pins:List (Addr × Obj)} {σ:St} {H:Hp} {s:Shared} {C:Addr} {h':Heap} (I:Inv X pins σ H s) (g:Gone X pins H C) (hs:Heap.SameBut C s.heap h'):Inv X pins σ H { s with heap:=h' } :=
 I.turned (t':=s.toks) (it:=C) (λb o hb e=>hs.extBut b o hb e) g.no g.ne (.inr g.yg) g.cl g.pn
structure Back (X Y:Cx) (pins:List (Addr × Obj)) (σ:St) (fp:List Addr) (C:Addr) (s3:Shared) (H3:Hp):Prop where
 i0:Inv X pins σ H3 s3
 fp:∀ b∈fp,(b∈X.ex\/X.s₀.heap.objs.size<=b)/\b≠X.env.locals/\(∀ x c,X.env.cells.lookup x=some c->c≠b)/\∀ p∈X.pn++pins,p.1≠b
 inv:∀ (pins':List (Addr × Obj)) (σ':St) (H':Hp) (s':Shared),Inv Y pins' σ' H' s'->Inv X pins σ H' s'/\Gone X pins H' C
theorem a4E {X:Cx} {elt tg iter:Expr} {cs:List Expr} {scope:Scope} {pos:Pos} {wi:TI} {g:TG} {tc:TT} {te:TE} {xs M:List Str} {use:Option (Value->Sem Unit)} {RR:Value->Shared->Prop} (hc:X.calm=true) (S:a0l scope X.env X.N M) (hi:PI X tg iter wi)
  (hin:∀ (cl:List (Str × Addr)) (C:Addr) (s0:Shared) (H0:Hp) (fp:List Addr) (pins:List (Addr × Obj)) (σ:St),Back X (cxC X scope cl C s0 H0 fp (xs++M)) pins σ fp C s0 H0->PG (cxC X scope cl C s0 H0 fp (xs++M)) tg g/\PTs (cxC X scope cl C s0 H0 fp (xs++M)) cs tc/\PE (cxC X scope cl C s0 H0 fp (xs++M)) elt te)
  (hg:∀ v σ H Q,g v (List.replicate xs.length none++σ) H Q->g v (List.replicate xs.length none++σ) H λσ2 H2=>(∃ l:St,l.length=xs.length/\σ2=l++σ)/\Q σ2 H2)
  (hs:∀ x,foldedSetIterable iter X.env x=pure x) (pins:List (Addr × Obj)) (s:Shared) (σ:St) (H:Hp) (Q:VK) (I:Inv X pins σ H s) (h:a6Y xs.length wi g tc te σ H Q)
  (fin:∀ (d C:Addr) (s6:Shared) (H6:Hp) (m:Str->Option Value),Q (.ref d) H6->Inv X pins σ H6 s6->s6.heap.Ns C m->Gone X pins H6 C->compPost (model X.prog X.w) X.A X.xe use RR (.ref d) C (.ok .next) s6) :
  wpAny (model X.prog X.w) X.A (comprehension (.ListComp elt [⟨tg,iter,cs,0⟩] scope pos) scope X.env (firstIterPos [⟨tg,iter,cs,0⟩] pos) (newList []) false (eval iter X.env) use) RR X.xe s:=by
 obtain ⟨cl,hcl,cl1,cl2⟩:=a6X (scope:=scope) (en:=X.env) λy hy=>I.ok.has y (S.free y hy);refine wpAny_comprehension_free (use:=use) rfl hs hcl S.kind S.locs (thn (hi pins s σ H _ I h) λv s1 h1=>thn h1 λitv s2 h2=>?_);obtain ⟨it,fp,tn,J,H2,e,I2,T,st2,f2,h3⟩:=h2;subst e;have hf:H2 s2.heap.objs.size=none:=I2.fresh;obtain ⟨W,⟨m0,w0⟩,turn⟩:=h3 _ hf;refine wpAny_newObj_type (wpAny_newFunctionEnv S.nocell (by intro y hy;simp at hy) (λh4 hns hsb=>?_) S.kind);have I3:Inv X pins σ (upd H2 s2.heap.objs.size (.lst [])) { s2 with heap:=s2.heap.push { cls:=.type "list",data:=.seq ([]:List Value).toArray } }:=I2.lnew (ys:=[]) (its:=[]) (t':=s2.toks) .nil (Nat.zero_le _);generalize hs3:({ s2 with heap:=s2.heap.push { cls:=.type "list",data:=.seq ([]:List Value).toArray } }:Shared)=s3 at I3;generalize hH3:upd H2 s2.heap.objs.size (.lst [])=H3 at I3 w0;have e3:s2.heap.push { cls:=.type "list",dict:=none,data:=.seq ([]:List Value).toArray }=s3.heap:=by rw [<-hs3]
 dsimp only at hns hsb ⊢;rw [e3] at hns hsb;have old:∀ b o,s3.heap.get? b=some o->h4.get? b=some o:=λb o e=>hsb.extBut b o (Nat.ne_of_lt (Heap.lt_size e)) (Heap.get?_push_of_some _ e);have keep2:∀ b o,s2.heap.get? b=some o->s3.heap.get? b=some o:=λb o e=>by rw [<-e3];exact Heap.get?_push_of_some _ e
 have lt3:∀ b∈fp,b < s3.heap.objs.size:=λb hb=>by
  obtain ⟨o,e,_⟩:=T.obj _ _ st2 b hb;exact Heap.lt_size (keep2 b o e)
 have n3:∀ b∈fp,H3 b=none:=λb hb=>by
  obtain ⟨o,e,_⟩:=T.obj _ _ st2 b hb;rw [<-hH3,a0j (Nat.ne_of_lt (Heap.lt_size e))];exact (f2 b hb).1
 have st4:tn 0 h4:=T.keep _ _ _ st2 λb _ o e=>old b o (keep2 b o e)
 let Y:Cx:=cxC X scope cl s3.heap.objs.size s3 H3 fp (xs++M)
 have relab:∀ y,((relabel scope X.env).names.lookup y=some .cell\/(relabel scope X.env).names.lookup y=some .free)->∃ c,cl.lookup y=some c:=λy hy=>cl2 y (S.relab y hy);have Yok:Y.Ok:=by
  refine ⟨I3.ok.mod,S.kind,I3.ok.glob,I3.ok.blt,Nat.le_refl _,λy z c h1 h2=>I3.ok.inj y z c (cl1 y c h1) (cl1 z c h2),λy hy=>relab y hy,λ_ _ h _=>absurd (show false=true from h) (by decide),I3.ok.hd,I3.ok.frames,.inl rfl,
   λb hb=>⟨Nat.ne_of_lt (lt3 b hb),λy c e=>(f2 b hb).2.2.2.2.1 y c (cl1 y c e)⟩,I3.bs,Nat.le_trans I3.ok.bsz I3.sz,λb o e hb=>?_,λb hb z=>?_,I3.stack,I3.stkFree⟩
  ·rcases (f2 b hb).2.2.2.1 with z | z
   ·exact I3.ok.noex b o e z
   ·exact absurd (Nat.lt_of_lt_of_le (Heap.lt_size e) (Nat.le_trans I3.ok.bsz z)) (Nat.lt_irrefl _)
  ·rcases List.mem_cons.mp (I3.stkSub b z) with z | z
   ·exact (f2 b hb).2.1 z
   ·exact (f2 b hb).2.2.1 z
 have cells4:∀ y c,cl.lookup y=some c->∀ v,s3.heap.IsCell c v->h4.IsCell c v:=λy c _ v ⟨o,ho,hd⟩=>⟨o,old c o ho,hd⟩
 have IY:∀ t',Inv Y [] (List.replicate xs.length none++σ) H3 { s3 with heap:=h4,toks:=t' }:=λt'=>by
  refine ⟨Yok,rfl,I3.bare,Un.kept old,⟨_,hns,λi y v e1 e2 e3=>?_⟩,λy c e=>?_,I3.hok.fresh (Nat.le_refl _),λy c e=>I3.freeC y c (cl1 y c e),λp hp=>absurd (show p∈([]:List (Addr × Obj)) from hp) (by simp),I3.hok.kept old,?_⟩
  ·by_cases hi:i < xs.length
   ·rw [List.getElem?_append_left (by simpa using hi),List.getElem?_replicate] at e2;split at e2 <;> cases e2
   ·obtain ⟨j,rfl⟩:∃ j,i=xs.length+j:=⟨i - xs.length,by omega⟩
    have e1':M[j]?=some y:=by
     have q:(xs++M)[xs.length+j]?=some y:=e1;rw [List.getElem?_append_right (Nat.le_add_right _ _)] at q;simpa using q
    have e2':σ[j]?=some (some v):=by
     rw [List.getElem?_append_right (by simp)] at e2;simpa using e2
    obtain ⟨a1,a2,a3⟩:=S.same j y e1' e3;have vis:Vis X.env.scope y:=by
     rcases S.free y a2 with z | z
     ·exact .inr (.inl z)
     ·exact .inr (.inr z)
    obtain ⟨m,_,hl⟩:=I3.loc;obtain ⟨u,r,l⟩:=hl j y v a1 e2' vis;refine ⟨u,r,?_⟩;have kk:Y.env.kindOf y=some .cell\/Y.env.kindOf y=some .free:=by
     rcases e3 with z | z | z
     ·exact absurd z a3
     ·exact .inl z
     ·exact .inr z
    rcases l with ⟨k1,_⟩ | ⟨_,c,ec,ic⟩
    ·rcases S.free y a2 with z | z
     ·rw [z] at k1;cases k1
     ·rw [z] at k1;cases k1
    ·obtain ⟨c',ec'⟩:=cl2 y a2;have:=cl1 y c' ec';rw [ec] at this;cases this;exact .inr ⟨kk,c,ec',cells4 y c ec' _ ic⟩
  ·obtain ⟨v,z⟩:=I3.cell y c (cl1 y c e);exact ⟨v,cells4 y c e v z⟩
  ·show (List.replicate xs.length none++σ).length=(xs++M).length;rw [List.length_append,List.length_append,List.length_replicate,S.len,I3.len]
 have stat:∀ {pl:List (Addr × Obj)} {H':Hp},(∀ p∈pl,p.1∉fp)->(∀ b∈fp,H' b=none)->∀ b∈fp,a9D Y pl H' b:=λhp hn b hb =>
  ⟨hn b hb,Nat.ne_of_lt (lt3 b hb),Yok.exfs b hb,.inl hb,λy c e=>(f2 b hb).2.2.2.2.1 y c (cl1 y c e),λp hp' z=>hp p (by simpa [Y,cxC] using hp') (z▸hb)⟩
 have bk:Back X Y pins σ fp s3.heap.objs.size s3 H3:=by
  refine ⟨I3,λb hb=>⟨(f2 b hb).2.2.2.1,(f2 b hb).2.1,(f2 b hb).2.2.2.2.1,(f2 b hb).2.2.2.2.2⟩,λpins' σ' H' s' J=>⟨?_,?_⟩⟩
  ·exact I3.call' (ch:=fp) J.os J.base J.hok J.bare λb hb=>⟨(f2 b hb).2.2.2.1,(f2 b hb).2.1,(f2 b hb).2.2.2.2.1,(f2 b hb).2.2.2.2.2⟩
  ·refine ⟨J.free,Nat.ne_of_gt I3.lt,I3.sz,λy c e z=>?_,λp hp z=>?_⟩
   ·obtain ⟨v,q⟩:=I3.cell y c e;have:=q.lt;rw [z] at this;exact Nat.lt_irrefl _ this
   ·have:=Heap.lt_size (I3.pin p hp).1;rw [z] at this;exact Nat.lt_irrefl _ this
 obtain ⟨hG,hT,hE⟩:=hin cl s3.heap.objs.size s3 H3 fp pins σ bk;have loop:∀ t',codeAny (model X.prog X.w) X.A (.compLoop (.ListComp elt [⟨tg,iter,cs,0⟩] scope pos) 0 (.ref it) (.ref s2.heap.objs.size) Y.env) (compPost (model X.prog X.w) X.A X.xe use RR (.ref s2.heap.objs.size) s3.heap.objs.size) { s3 with heap:=h4,toks:=t' }:=by
  intro t';refine a6W (EE:=Y.xe) (by cases use <;> rfl) (λn s'=>∃ i H',Inv Y [] (List.replicate xs.length none++σ) H' s'/\tn i s'.heap/\(∀ b∈fp,H' b=none)/\W i n H') ?_ m0 ⟨0,H3,IY t',st4,n3,w0⟩;rintro n s5 ⟨i,H5,I5,st5,fr5,w5⟩;rcases turn i n H5 w5 with ⟨stop,qn⟩ | ⟨go,N,hN,step⟩
  ·refine thn (T.done Y rfl rfl rfl hc i [] s5 (List.replicate xs.length none++σ) H5 _ I5 (stat (by simp) fr5) st5 stop) λr s6 ⟨hr,I6⟩=>?_;subst hr;obtain ⟨m6,hn6,_⟩:=I6.loc;have I8:Inv X pins σ H5 s6:=I3.call' (ch:=fp) I6.os I6.base I6.hok I6.bare λb hb=>⟨(f2 b hb).2.2.2.1,(f2 b hb).2.1,(f2 b hb).2.2.2.2.1,(f2 b hb).2.2.2.2.2⟩
   have lt8:X.env.locals < s3.heap.objs.size:=I3.lt;refine fin _ _ s6 H5 m6 qn I8 hn6 ⟨I6.free,Nat.ne_of_gt lt8,I3.sz,λy c e z=>?_,λp hp z=>?_⟩
   ·obtain ⟨v,q⟩:=I3.cell y c e;have:=q.lt;rw [z] at this;exact Nat.lt_irrefl _ this
   ·have:=Heap.lt_size (I3.pin p hp).1;rw [z] at this;exact Nat.lt_irrefl _ this
  ·refine thn (T.item Y rfl rfl rfl hc i [] s5 (List.replicate xs.length none++σ) H5 _ I5 (stat (by simp) fr5) st5 go) λr s6 ⟨u,hr,h6⟩=>?_;subst hr;refine thn h6 λ_ s7 ⟨x7,H7,I7,r7,y7,st7,fr7⟩=>?_;have I7':=I7.pinned (stat (by simp) fr7) (T.obj _ _ st7);have again:∀ {σ8:St} {H8:Hp} {s8:Shared},(∃ l:St,l.length=xs.length/\σ8=l++σ)->Inv Y ([]++a5g fp s7.heap) σ8 H8 s8->N H8->∃ m,m < n/\∃ i H',Inv Y [] (List.replicate xs.length none++σ) H' s8/\tn i s8.heap/\(∀ b∈fp,H' b=none)/\W i m H':=λ{σ8 H8 s8} l8 I8 n8=>by
    obtain ⟨m',hm,w8⟩:=hN H8 n8;obtain ⟨l,ll,rfl⟩:=l8;have pin8:∀ b∈fp,∀ o,s7.heap.get? b=some o->s8.heap.get? b=some o/\H8 b=none:=λb hb o e=>by
     have z:=I8.pin (b,o) (List.mem_append_right _ (List.mem_append_right _ (a2V hb e)));exact ⟨z.1,z.2.1⟩
    refine ⟨m',hm,i+1,H8,I8.unpinned.weak (by simp [ll]) (λj v e=>?_),T.keep _ _ _ st7 λb hb o e=>(pin8 b hb o e).1,λb hb=>?_,w8⟩
    ·by_cases hj:j < xs.length
     ·rw [List.getElem?_append_left (by simpa using hj),List.getElem?_replicate] at e;split at e <;> cases e
     ·rw [List.getElem?_append_right (by simpa using hj)] at e;rw [List.getElem?_append_right (by omega),ll];simpa using e
    ·obtain ⟨o,e,_⟩:=T.obj _ _ st7 b hb;exact (pin8 b hb o e).2
   refine thn (hG _ s7 (List.replicate xs.length none++σ) H7 x7 u _ I7' r7 (hg _ _ _ _ (step x7 H7 y7))) λ_ s8 ⟨σ8,H8,I8,l8,q8⟩=>?_;refine thn (hT _ s8 σ8 H8 _ I8 q8) λok s9 ⟨H9,I9,q9⟩=>?_;cases ok with
   | false=>exact again l8 I9 q9
   | true =>
    refine thn (hE _ s9 σ8 H9 _ I9 q9) λy s10 ⟨y10,H10,I10,r10,ys,hd,hl,n10⟩=>?_;refine thn (a1e _ s10 σ8 H10 (.ref s2.heap.objs.size) [y10] (.ref s2.heap.objs.size) [y] (λ_ H'=>N H') I10 rfl (.cons r10 .nil) ⟨_,ys,y10,rfl,rfl,hd,hl,n10⟩) λ_ s11 ⟨_,H11,I11,_,n11⟩=>?_;exact again l8 I11 n11
 refine codeAny_compStart_list (loop _) (T.self _ 0 _ _ _ st4 (loop _))
theorem b2p {X:Cx} {elt tg iter:Expr} {cs:List Expr} {scope:Scope} {pos:Pos} {wi:TI} {g:TG} {tc:TT} {te:TE} {xs M:List Str} (hc:X.calm=true) (S:a0l scope X.env X.N M) (hi:PI X tg iter wi)
  (hin:∀ (cl:List (Str × Addr)) (C:Addr) (s0:Shared) (H0:Hp) (fp:List Addr),PG (cxC X scope cl C s0 H0 fp (xs++M)) tg g/\PTs (cxC X scope cl C s0 H0 fp (xs++M)) cs tc/\PE (cxC X scope cl C s0 H0 fp (xs++M)) elt te)
  (hg:∀ v σ H Q,g v (List.replicate xs.length none++σ) H Q->g v (List.replicate xs.length none++σ) H λσ2 H2=>(∃ l:St,l.length=xs.length/\σ2=l++σ)/\Q σ2 H2)
  (hs:∀ x,foldedSetIterable iter X.env x=pure x:=by intro _;rfl):PE X (.ListComp elt [⟨tg,iter,cs,0⟩] scope pos) (a6Y xs.length wi g tc te):=by
 intro pins s σ H Q I h;rw [eval_ListComp];exact a4E (use:=none) hc S hi (λcl C s0 H0 fp _ _ _=>hin cl C s0 H0 fp) hg hs pins s σ H Q I h λd C s6 H6 m q I6 hn gn=>⟨m,hn,λh' hs'=>⟨.ref d,H6,I6.gone gn hs',rfl,q⟩⟩
theorem a7Z {X:Cx} {elt tg iter:Expr} {cs:List Expr} {scope:Scope} {pos pos' spos:Pos} {wi:TI} {g:TG} {tc:TT} {te:TE} {xs M:List Str} {i:Nat} {x:Str} (hc:X.calm=true) (S:a0l scope X.env X.N M) (hi:PI X tg iter wi)
  (hin:∀ (cl:List (Str × Addr)) (C:Addr) (s0:Shared) (H0:Hp) (fp:List Addr),PG (cxC X scope cl C s0 H0 fp (xs++M)) tg g/\PTs (cxC X scope cl C s0 H0 fp (xs++M)) cs tc/\PE (cxC X scope cl C s0 H0 fp (xs++M)) elt te)
  (hg:∀ v σ H Q,g v (List.replicate xs.length none++σ) H Q->g v (List.replicate xs.length none++σ) H λσ2 H2=>(∃ l:St,l.length=xs.length/\σ2=l++σ)/\Q σ2 H2)
  (hN:X.N.Nodup) (hix:X.N[i]?=some x) (hx:X.env.scope.names.lookup x=some .local) (hw:swapsWith (.ListComp elt [⟨tg,iter,cs,0⟩] scope pos) (some (.Name x pos')) spos.line X.env=pure true)
  (hs:∀ x,foldedSetIterable iter X.env x=pure x:=by intro _;rfl):PS X (.Assign [.Name x pos'] (.ListComp elt [⟨tg,iter,cs,0⟩] scope pos) spos) (a7A (a6Y xs.length wi g tc te) (a1E i)):=by
 intro pins s σ H D I h;rw [exec_Assign_Name_used _ _ _ _ hw];refine wpAny_bind (wpAny_standAt (wpAny_bind ?_));show wpAny _ X.A (comprehension (.ListComp elt [⟨tg,iter,cs,0⟩] scope pos) scope X.env _ (newList []) false (eval iter X.env) (some (assign (.Name x pos') X.env)) >>= λ_=>pure ()) _ _ s;refine wpAny_bind (thn (a4E (use:=some (assign (.Name x pos') X.env)) (RR:=λ_ s'=>SP X pins D .next s') hc S hi (λcl C s0 H0 fp _ _ _=>hin cl C s0 H0 fp) hg hs pins s σ H _ I h λd C s6 H6 m q I6 hn gn=>?_) λ_ s' hq=>wpAny_pure (wpAny_pure hq));show wpAny _ X.A (assign (.Name x pos') X.env (.ref d)) _ _ s6;refine wpAny_assign_Name (a3z I6 hN hix (.inl hx) (v:=.ref d) rfl (λs7 I7 ch=>?_) (.inr hx));obtain ⟨a,hsb,ha⟩:=ch;have ne:C≠a:=by
  rcases ha with z | z
  ·rw [z];exact gn.ne
  ·exact λz'=>gn.cl x a z z'.symm
 exact ⟨m,hn.sameBut hsb ne,λh' hs'=>⟨_,H6,I7.gone gn hs',q⟩⟩
theorem a9U {X:Cx} {elt tg iter:Expr} {cs:List Expr} {scope:Scope} {pos:Pos} {wi:TI} {g:TG} {tc:TT} {te:TE} {xs M:List Str} (hc:X.calm=true) (S:a0l scope X.env X.N M) (hi:PI X tg iter wi)
  (hin:∀ (cl:List (Str × Addr)) (C:Addr) (s0:Shared) (H0:Hp) (fp:List Addr) (pins:List (Addr × Obj)) (σ:St),Back X (cxC X scope cl C s0 H0 fp (xs++M)) pins σ fp C s0 H0->PG (cxC X scope cl C s0 H0 fp (xs++M)) tg g/\PTs (cxC X scope cl C s0 H0 fp (xs++M)) cs tc/\PE (cxC X scope cl C s0 H0 fp (xs++M)) elt te)
  (hg:∀ v σ H Q,g v (List.replicate xs.length none++σ) H Q->g v (List.replicate xs.length none++σ) H λσ2 H2=>(∃ l:St,l.length=xs.length/\σ2=l++σ)/\Q σ2 H2)
  (hs:∀ x,foldedSetIterable iter X.env x=pure x:=by intro _;rfl):PE X (.ListComp elt [⟨tg,iter,cs,0⟩] scope pos) (a6Y xs.length wi g tc te):=by
 intro pins s σ H Q I h;rw [eval_ListComp];exact a4E (use:=none) hc S hi hin hg hs pins s σ H Q I h λd C s6 H6 m q I6 hn gn=>⟨m,hn,λh' hs'=>⟨.ref d,H6,I6.gone gn hs',rfl,q⟩⟩
theorem Paired.right_of {α β:Type} {R:α->β->Prop}:∀ {xs:List α} {ds:List β},Paired R xs ds->∀ (j:Nat) (x:α),xs[j]?=some x->∃ d,ds[j]?=some d/\R x d
 | _,_,.nil,j,x,e=>by simp at e
 | _,_,.cons r t,0,x,e=>by simp at e;subst e;exact ⟨_,rfl,r⟩
 | _,_,.cons r t,j+1,x,e=>by
  obtain ⟨d,e1,e2⟩:=Paired.right_of t j x (by simpa using e);exact ⟨d,by simpa using e1,e2⟩
section
variable {α:Type} [DecidableEq α] {P:Program} {w:World} {H:Hp} {s:Shared} {n:Nat} {R:V->α->Prop} {A:Around}
theorem a4r {h:Heap} {a:Addr} {its:List Value} {k:Nat} (e:h.get? a=some { cls:=.type "list",data:=.seq its.toArray k }):h.IsList a its.toArray:=⟨_,e,rfl,_,rfl⟩
end
section
variable {X:Cx} {α:Type} [DecidableEq α]
end
def rSlG:V->Option Int->Option Int->Hp->VK->Prop:=λx lo hi H Q=>∃ a xs,x=.ref a/\H a=some (.tup xs)/\∀ p H',a0E H H'->H' p=some (.tup (a5I xs lo hi))->Q (.ref p) H'
theorem sixAll {n:Nat} {α:Type} (xs:List α) (lo hi:Option Int) (h1:HT.sIx xs.length 0 lo=0) (h2:HT.sIx xs.length xs.length hi=xs.length):(xs.drop (HT.sIx xs.length 0 lo)).take (HT.sIx xs.length xs.length hi - HT.sIx xs.length 0 lo)=xs:=by
 rw [h1,h2];simp
theorem a0g {H:Hp} {p:Addr} (h:H p=none) (o:HO):a0E H (upd H p o):=λb u q=>by rw [a0j (a0V q h)];exact q
theorem a5Q {prog:Program} {w:World} {A:Around} {E:Value->Shared->Prop} {s:Shared} {t sl:Addr} {items:Array Value} {vl vu:Value} {lo hi:Option Int} {Q:Value->Shared->Prop} (ht:IsTup s.heap t items) (hs:s.heap.IsSliceOf sl vl vu .none) (pl:IsPart vl lo) (pu:IsPart vu hi)
  (h1:HT.sIx items.size 0 lo=0) (h2:HT.sIx items.size items.size hi=items.size) (h:Q (.ref t) s):wpAny (model prog w) A (getItem (.ref t) (.ref sl)) Q E s:=by
 obtain ⟨os,hos,hcs,hds⟩:=id hs;have hTs:s.TypeIs (.ref sl) "slice":=⟨os,hos,hcs⟩
 unfold getItem
 try with_reducible refine wpAny_holding ?_
 first | refine wpAny_bind (wpAny_pure ?_) | skip
 refine wpAny_bind (wpAny_sequenceKey ht.typeIs (by decide) ?_);refine wpAny_bind (wpAny_callSpecial?_slot (name:=Str.ofString "__getitem__") ht.typeIs PyProof.Rows.slot_tuple_getitem
  (wpAny_call_entry PyProof.Rows.slot_tuple_getitem ht.typeIs entry_tuple_getitem ?_ (args_tuple_getitem _ _)))
 show wpAny _ _ (Builtin.Tuple.tupleItemsOf (.ref t) >>= _) _ _ s;refine wpAny_bind (tupleItemsOf_ ht ?_);refine wpAny_bind (wpAny_typeOf hTs ?_);rw [if_pos (by decide)];refine wpAny_bind (HT.a2e hs pl pu ?_);rw [h1,h2];show wpAny _ _ (if (((0:Nat):Int) == 0 && (1:Int) == 1 && (items.size - 0) == items.size)=true then _ else _) _ _ s;rw [if_pos (by simp)];unfold Builtin.Tuple.tupleIsExact;refine wpAny_bind (wpAny_bind (wpAny_typeOf ht.typeIs (wpAny_pure ?_)));rw [if_pos (by decide)]
 first
  | exact wpAny_bind (wpAny_rule (wpAny_bind (wpAny_pure (wpAny_pure ⟨_,rfl,wpAny_pure h⟩))))
  | exact wpAny_bind (wpAny_rule (wpAny_pure ⟨_,rfl,wpAny_pure h⟩))
  | exact wpAny_bind (wpAny_bind (wpAny_rule (wpAny_pure ⟨_,rfl,wpAny_pure h⟩)))
theorem a2Y {X:Cx}:SlR X rSlG:=by
 intro pins s σ H x v vl vu lo hi sl Q I rx hs pl pu h;obtain ⟨a,xs,rfl,hx,q⟩:=h;by_cases hw:HT.sIx xs.length 0 lo=0/\HT.sIx xs.length xs.length hi=xs.length
 ·cases rx;obtain ⟨hz,its,r,ht⟩:=I.hok a _ hx;have hlen:its.toArray.size=xs.length:=by rw [List.size_toArray];exact r.length.symm
  refine ⟨"tuple",_,PyProof.Rows.slot_tuple_getitem.lookup,(a5d.is ht).typeIs,?_⟩;refine a5Q (a5d.is ht) hs pl pu (by rw [hlen];exact hw.1) (by rw [hlen];exact hw.2) ⟨.ref a,H,I,rfl,q a H (a0E.refl H) ?_⟩;unfold a5I;rw [sixAll (n:=0) xs lo hi hw.1 hw.2];exact hx
 ·exact sl_tup pins s σ H (.ref a) v vl vu lo hi sl Q I rx hs pl pu ⟨a,xs,rfl,.inl (.inl hx),hw,λp hp=>q p _ (a0g hp _) a0b⟩
def rCatG:R2:=λx y H Q=>∃ a b xs ys,x=.ref a/\y=.ref b/\H a=some (.tup xs)/\H b=some (.tup ys)/\xs.length+ys.length<=sizeLine/\∀ p H',a0E H H'->H' p=some (.tup (xs++ys))->Q (.ref p) H'
theorem a2Z {X:Cx}:OpR X (binaryOp .Add) rCatG:=by
 intro pins s σ H x y v u Q I rx ry h;obtain ⟨a,b,xs,ys,rfl,rfl,ha,hb,hz,q⟩:=h;by_cases hx:xs=[]
 ·subst hx;cases rx;cases ry;obtain ⟨_,its,r1,p1⟩:=I.hok a _ ha;obtain ⟨_,its2,r2,p2⟩:=I.hok b _ hb;have e0:its=[]:=r1.nil_iff.mpr rfl;subst e0;obtain ⟨⟨cls,dd,data,sl⟩,ho,hc,n,hd⟩:=id (a5d.is p1);obtain ⟨⟨cls2,dd2,data2,sl2⟩,ho2,hc2,n2,hd2⟩:=id (a5d.is p2);simp only at hc hd hc2 hd2;subst hc hd hc2 hd2;exact concat_meets ⟨_,ho,rfl⟩ ⟨_,ho2,rfl⟩ noFill_tuple_add seq_tuple_add PySem.F.slot_tuple_add PySem.F.entry_tuple_add (PySem.F.args_tuple_add_2 _ _)
   (tuple_addW0 a b ([]:List Value).toArray its2.toArray n n2 dd dd2 sl sl2 (by simp)) ⟨ho,ho2,⟨.ref b,H,I,rfl,q b H (a0E.refl H) (by simpa using hb)⟩⟩
 ·exact b2j pins s σ H (.ref a) (.ref b) v u Q I rx ry ⟨a,b,xs,ys,rfl,rfl,.inl (.inl ha),.inl (.inl hb),hx,hz,λz=>q a H (a0E.refl H) (by rw [z,List.append_nil];exact ha),λ_ p hp=>q p _ (a0g hp _) a0b⟩
def rAll:List V->Hp->VK->Prop:=λxs H Q=>∃ (a:Addr) (bs:List Bool),xs=[.ref a]/\H a=some (.lst (bs.map V.bl))/\Q (.bl (bs.all id)) H
theorem a9V:∀ {bs:List Bool} {us:List Value},a0U (bs.map V.bl) us->us=bs.map Value.bool:=by
 intro bs
 induction bs with
 | nil=>intro us r;rw [List.map_nil] at r;cases r;rfl
 | cons b bs ih =>
  intro us r;rw [List.map_cons] at r;cases r with
  | cons r1 r2=>rw [ih r2,show _=Value.bool b from r1];rfl
theorem a8a (bs:List Bool):(List.range bs.length).all (λi=>bs.getD i true)=bs.all id:=by
 rw [Bool.eq_iff_iff];simp only [List.all_eq_true,List.mem_range,id];constructor
 ·intro h b hb;obtain ⟨i,hi,rfl⟩:=List.mem_iff_getElem.mp hb;have q:=h i hi
  rwa [List.getD_eq_getElem?_getD,List.getElem?_eq_getElem hi] at q
 ·intro h i hi;rw [List.getD_eq_getElem?_getD,List.getElem?_eq_getElem hi];exact h _ (List.getElem_mem hi)
theorem a1Z {X:Cx} (hc:X.calm=true):a2W X (.builtin "all") rAll:=by
 intro pins s σ H xs us Q I r h;obtain ⟨a,bs,rfl,ha,q⟩:=h;obtain ⟨u,rfl,ru⟩:=a3q r;cases ru;obtain ⟨hz,its,n,v,e⟩:=I.hok a _ ha;have ei:=a9V v;subst ei;refine call_all_walk (wpAny_pyIter_list (a4r e) ?_);have hlt:=Heap.lt_size e;refine ⟨s.heap.objs.size,_,_,_,_,_,λi=>bs.getD i true,rfl,Walks.list (A:=X.A.in1) (by show X.A.handled=none;exact I.ok.hd hc) s.heap.objs.size a (Nat.ne_of_lt hlt) (bs.map Value.bool).toArray,⟨⟨_,Heap.get?_push_size _ rfl,rfl,rfl⟩,a4r (Heap.get?_push_of_some _ e)⟩,?_,λh' tk hk=>?_⟩
 ·intro i v s' Q' E' hv hq;simp only [List.getElem?_toArray,List.getElem?_map] at hv;cases hb:bs[i]? with
  | none=>rw [hb] at hv;cases hv
  | some b =>
   rw [hb] at hv;cases hv;have hq':Q' (bs.getD i true) s':=hq;rw [List.getD_eq_getElem?_getD,hb] at hq';exact wpAny_truthy_bool hq'
 ·have e1:(bs.map Value.bool).toArray.size=bs.length:=by simp
  rw [e1,a8a];exact ⟨.bl _,H,I.kept (h':=h') (t':=tk) (λb o eo=>hk b o (by simp;exact Nat.ne_of_lt (Heap.lt_size eo)) (Heap.get?_push_of_some _ eo)),rfl,q⟩
def rSum:List V->Hp->VK->Prop:=λxs H Q=>∃ (a:Addr) (ns:List Int),xs=[.ref a]/\H a=some (.lst (ns.map V.int))/\Q (.int ns.sum) H
theorem a6Z:∀ {ns:List Int} {us:List Value},a0U (ns.map V.int) us->∀ (i:Nat) (v:Value),us[i]?=some v->∃ t,v=.int (ns.getD i 0) t:=by
 intro ns
 induction ns with
 | nil=>intro us r i v e;rw [List.map_nil] at r;cases r;simp at e
 | cons n ns ih =>
  intro us r i v e;rw [List.map_cons] at r;cases r with
  | cons r1 r2 =>
   cases i with
   | zero =>
    simp at e;subst e;obtain ⟨t,z⟩:=r1;exact ⟨t,by rw [z];simp⟩
   | succ i =>
    obtain ⟨t,z⟩:=ih r2 i v (by simpa using e);exact ⟨t,by rw [z];simp⟩
theorem a9W {X:Cx} (hc:X.calm=true):a2W X (.builtin "sum") rSum:=by
 intro pins s σ H xs us Q I r h;obtain ⟨a,ns,rfl,ha,q⟩:=h;obtain ⟨u,rfl,ru⟩:=a3q r;cases ru;obtain ⟨hz,its,n,v,e⟩:=I.hok a _ ha;refine call_sum_walkAnyS (wpAny_pyIter_list (a4r e) ?_);have hlt:=Heap.lt_size e;refine ⟨s.heap.objs.size,_,_,_,_,_,_,λi=>ns.getD i 0,rfl,(Walks.list (A:=X.A.in1) (by show X.A.handled=none;exact I.ok.hd hc) s.heap.objs.size a (Nat.ne_of_lt hlt) its.toArray).toS,⟨⟨_,Heap.get?_push_size _ rfl,rfl,rfl⟩,a4r (Heap.get?_push_of_some _ e)⟩,?_,?_,λs' t' mv=>?_⟩
 ·intro b hb;have hp:(s.heap.push { cls:=.type "list_iterator",data:=.fields #[.ref a,rawInt 0] }).objs.size=s.heap.objs.size+1:=Heap.size_push _ _;rcases List.mem_cons.mp hb with z | z
  ·subst z;exact Heap.lt_size (Heap.get?_push_size _ rfl)
  ·have z':b=a:=by simpa using z
   subst z';exact Heap.lt_size (Heap.get?_push_of_some _ e)
 ·intro i v' hv;exact a6Z v i v' (by simpa using hv)
 ·have e1:its.toArray.size=ns.length:=by
   have:=v.length;rw [List.length_map] at this;simpa using this.symm
  rw [e1,preSum_getD];have e2:ns.take ns.length=ns:=List.take_length;rw [e2];have k:∀ b o,s.heap.get? b=some o->s'.heap.get? b=some o:=λb o eo=>mv.heap b o (by simp;exact Nat.ne_of_lt (Heap.lt_size eo)) (Heap.get?_push_of_some _ eo);obtain ⟨h',g',d',tk',os'⟩:=s';have z1:g'=s.gens:=mv.gens;have z2:d'=s.drawn:=mv.drawn;have z3:os'=s.os:=mv.os;subst z1 z2 z3;exact ⟨.int _,H,I.kept (h':=h') (t':=tk') k,⟨t',rfl⟩,q⟩
theorem a0Q (scope:Scope) (en:Env) (y:Str):(relabel scope en).names.lookup y=(scope.names.lookup y).map λk=>if (k == NameKind.free && en.scope.kind == .function && en.kindOf y == some .cell)=true then .cell else k:=by
 show List.lookup y (scope.names.map λ(n,k)=>if (k == NameKind.free && en.scope.kind == .function && en.kindOf n == some .cell)=true then (n,NameKind.cell) else (n,k))=_;generalize scope.names=l
 induction l with
 | nil=>rfl
 | cons p r ih =>
  obtain ⟨n,k⟩:=p;rw [List.map_cons];by_cases hy:y=n
  ·subst hy;show List.lookup y ((if (k == NameKind.free && en.scope.kind == .function && en.kindOf y == some .cell)=true then (y,NameKind.cell) else (y,k)) :: _)=_;by_cases hc:(k == NameKind.free && en.scope.kind == .function && en.kindOf y == some .cell)=true
   ·rw [if_pos hc,List.lookup_cons,List.lookup_cons,beq_self_eq_true];show some NameKind.cell=some (if _ then _ else _);rw [if_pos hc]
   ·rw [if_neg hc,List.lookup_cons,List.lookup_cons,beq_self_eq_true];show some k=some (if _ then _ else _);rw [if_neg hc]
  ·have hb:(y == n)=false:=by simpa using hy
   show List.lookup y ((if (k == NameKind.free && en.scope.kind == .function && en.kindOf n == some .cell)=true then (n,NameKind.cell) else (n,k)) :: _)=_;by_cases hc:(k == NameKind.free && en.scope.kind == .function && en.kindOf n == some .cell)=true
   ·rw [if_pos hc,List.lookup_cons,List.lookup_cons,hb];exact ih
   ·rw [if_neg hc,List.lookup_cons,List.lookup_cons,hb];exact ih
def a8b (scope:Scope) (p:Str × Str):Bool:=match scope.names.lookup p.1 with
 | none=>true
 | some .free=>p.1 == p.2
 | some .local=>false
 | some .cell=>false
 | some _=>true
theorem a0l.of' {scope:Scope} {en:Env} {N M:List Str} (sc:Scope) (N₀:List Str) (hsc:en.scope=sc) (hN:N=N₀) (kind:scope.kind=.function) (nocell:∀ y∈scope.names,y.2≠.cell) (locs:∀ y∈scope.names,y.2=.local->scope.names.lookup y.1=some .local)
  (free:∀ y∈scope.names,y.2=.free->sc.names.lookup y.1=some .cell\/sc.names.lookup y.1=some .free) (len:M.length=N₀.length) (same:((M.zip N₀).all (a8b scope))=true):a0l scope en N M:=by
 subst hsc hN;refine ⟨kind,nocell,locs,λy hy=>free _ hy rfl,len,λj y e v=>?_,λy h=>?_⟩
 ·have hj:j < N.length:=by rw [<-len];exact (List.getElem?_eq_some_iff.mp e).1
  have e2:N[j]?=some N[j]:=List.getElem?_eq_getElem hj;have hm:(y,N[j])∈M.zip N:=by
   refine List.mem_iff_getElem?.mpr ⟨j,?_⟩;rw [List.getElem?_zip_eq_some];exact ⟨e,e2⟩
  have q:=List.all_eq_true.mp same _ hm;unfold a8b at q;unfold Vis at v;rw [a0Q] at v ⊢;cases hl:scope.names.lookup y with
  | none=>rw [hl] at v;simp at v
  | some k =>
   rw [hl] at v q;simp only [Option.map_some] at v ⊢;cases k with
   | free =>
    have z:y=N[j]:=by simpa using q
    refine ⟨by rw [e2,<-z],PySem.mem_of_lookup hl,?_⟩;split <;> simp
   | «local»=>simp at q
   | cell=>simp at q
   | _=>simp at v
 ·rw [a0Q] at h;cases hl:scope.names.lookup y with
  | none=>rw [hl] at h;simp at h
  | some k =>
   rw [hl] at h;have hm:=PySem.mem_of_lookup hl;simp only [Option.map_some] at h;cases k with
   | free=>exact hm
   | cell=>exact absurd rfl (nocell _ hm)
   | _=>simp at h
theorem a0l.of {scope:Scope} {en:Env} {N M:List Str} (sc:Scope) (N₀:List Str) (hsc:en.scope=sc) (hN:N=N₀) (kind:scope.kind=.function) (nocell:∀ y∈scope.names,y.2≠.cell) (locs:∀ y∈scope.names,y.2=.local->scope.names.lookup y.1=some .local)
  (free:∀ y∈scope.names,y.2=.free->sc.names.lookup y.1=some .cell\/sc.names.lookup y.1=some .free) (len:M.length=N₀.length) (same:((M.zip N₀).all (a8b scope))=true):a0l scope en N M:=a0l.of' sc N₀ hsc hN kind nocell locs free len same
theorem b1c {v:V} {σ:St} {H:Hp} {Q:St->Hp->Prop} (h:a1E 0 v (List.replicate 1 none++σ) H Q):a1E 0 v (List.replicate 1 none++σ) H λσ2 H2=>(∃ l:St,l.length=1/\σ2=l++σ)/\Q σ2 H2 :=
 ⟨⟨[some v],rfl,rfl⟩,h⟩
theorem a3a {lo:Int} {n:Nat} {k:Nat} {g:TG} {tc:TT} {te:TE} {σ:St} {H:Hp} {Q:VK} {d:Addr} (Pv:Nat->Hp->Prop) (h0:Pv 0 (upd H d (.lst [])))
  (hs:∀ i H,i < n->Pv i H->g (.int (lo+i)) (List.replicate k none++σ) H λσ2 H2=>tc σ2 H2 λb H3=>if b=true then te σ2 H3 λy H4=>∃ ys,H4 d=some (.lst ys)/\ys.length < sizeLine/\Pv (i+1) (upd H4 d (.lst (ys++[y]))) else Pv (i+1) H3)
  (hd:∀ H,Pv n H->Q (.ref d) H) :
  ∃ W:Nat->Nat->Hp->Prop,(∃ m,W 0 m (upd H d (.lst [])))/\∀ i m H,W i m H ->
   ((Itr lo n).stop i H/\Q (.ref d) H)\/((Itr lo n).go i H/\∃ N:Hp->Prop,(∀ H',N H'->∃ m',m' < m/\W (i+1) m' H')/\∀ x H',(Itr lo n).yld i H x H'->g x (List.replicate k none++σ) H' λσ2 H2 =>
    tc σ2 H2 λb H3=>if b=true then te σ2 H3 λy H4=>∃ ys,H4 d=some (.lst ys)/\ys.length < sizeLine/\N (upd H4 d (.lst (ys++[y]))) else N H3):=by
 refine ⟨λi m H=>m=n - i/\i<=n/\Pv i H,⟨n,by simp,Nat.zero_le _,h0⟩,?_⟩;rintro i m H ⟨rfl,hi,p⟩;by_cases hlt:i < n
 ·refine .inr ⟨hlt,Pv (i+1),λH' p'=>⟨n - (i+1),by omega,rfl,hlt,p'⟩,λx H' y=>?_⟩;obtain ⟨e,y⟩:=y;subst e y;exact hs i _ hlt p
 ·have e:i=n:=by omega
  subst e;exact .inl ⟨Nat.le_refl _,hd H p⟩
theorem a9X {K:PySem.W.Frag} {a:Addr} {xs:List V} {k:Nat} {g:TG} {tc:TT} {te:TE} {σ:St} {H:Hp} {Q:VK} {d:Addr} (Pv:Nat->Hp->Prop) (h0:Pv 0 (upd H d (.lst []))) (hl:∀ i H,i<=xs.length->Pv i H->SqT K H a xs)
  (hs:∀ i x H,xs[i]?=some x->Pv i H->g x (List.replicate k none++σ) H λσ2 H2=>tc σ2 H2 λb H3=>if b=true then te σ2 H3 λy H4=>∃ ys,H4 d=some (.lst ys)/\ys.length < sizeLine/\Pv (i+1) (upd H4 d (.lst (ys++[y]))) else Pv (i+1) H3)
  (hd:∀ H,Pv xs.length H->Q (.ref d) H) :
  ∃ W:Nat->Nat->Hp->Prop,(∃ m,W 0 m (upd H d (.lst [])))/\∀ i m H,W i m H ->
   ((Itt K a).stop i H/\Q (.ref d) H)\/((Itt K a).go i H/\∃ N:Hp->Prop,(∀ H',N H'->∃ m',m' < m/\W (i+1) m' H')/\∀ x H',(Itt K a).yld i H x H'->g x (List.replicate k none++σ) H' λσ2 H2 =>
    tc σ2 H2 λb H3=>if b=true then te σ2 H3 λy H4=>∃ ys,H4 d=some (.lst ys)/\ys.length < sizeLine/\N (upd H4 d (.lst (ys++[y]))) else N H3):=by
 refine ⟨λi m H=>m=xs.length - i/\i<=xs.length/\Pv i H,⟨xs.length,by simp,Nat.zero_le _,h0⟩,?_⟩;rintro i m H ⟨rfl,hi,p⟩;have q:=hl i H hi p;by_cases hlt:i < xs.length
 ·refine .inr ⟨⟨xs,xs[i],q,by simp [hlt]⟩,Pv (i+1),λH' p'=>⟨xs.length - (i+1),by omega,rfl,hlt,p'⟩,λx H' y=>?_⟩;obtain ⟨e,y⟩:=y;subst e;exact hs i x _ (y xs q) p
 ·have e:i=xs.length:=by omega
  subst e;exact .inl ⟨⟨xs,q,Nat.le_refl _⟩,hd H p⟩
theorem a5p {K:PySem.W.Frag} {a:Addr} {xs:List V} {k:Nat} {g:TG} {tc:TT} {te:TE} {σ:St} {H:Hp} {Q:VK} {d:Addr} (Pv:Nat->Hp->Prop) (h0:Pv 0 (upd H d (.lst []))) (hl:∀ i H,i<=xs.length->Pv i H->SqL K H a xs)
  (hs:∀ i x H,xs[i]?=some x->Pv i H->g x (List.replicate k none++σ) H λσ2 H2=>tc σ2 H2 λb H3=>if b=true then te σ2 H3 λy H4=>∃ ys,H4 d=some (.lst ys)/\ys.length < sizeLine/\Pv (i+1) (upd H4 d (.lst (ys++[y]))) else Pv (i+1) H3)
  (hd:∀ H,Pv xs.length H->Q (.ref d) H) :
  ∃ W:Nat->Nat->Hp->Prop,(∃ m,W 0 m (upd H d (.lst [])))/\∀ i m H,W i m H ->
   ((Itl K a).stop i H/\Q (.ref d) H)\/((Itl K a).go i H/\∃ N:Hp->Prop,(∀ H',N H'->∃ m',m' < m/\W (i+1) m' H')/\∀ x H',(Itl K a).yld i H x H'->g x (List.replicate k none++σ) H' λσ2 H2 =>
    tc σ2 H2 λb H3=>if b=true then te σ2 H3 λy H4=>∃ ys,H4 d=some (.lst ys)/\ys.length < sizeLine/\N (upd H4 d (.lst (ys++[y]))) else N H3):=by
 refine ⟨λi m H=>m=xs.length - i/\i<=xs.length/\Pv i H,⟨xs.length,by simp,Nat.zero_le _,h0⟩,?_⟩;rintro i m H ⟨rfl,hi,p⟩;have q:=hl i H hi p;by_cases hlt:i < xs.length
 ·refine .inr ⟨⟨xs,xs[i],q,by simp [hlt]⟩,Pv (i+1),λH' p'=>⟨xs.length - (i+1),by omega,rfl,hlt,p'⟩,λx H' y=>?_⟩;obtain ⟨e,y⟩:=y;subst e;exact hs i x _ (y xs q) p
 ·have e:i=xs.length:=by omega
  subst e;exact .inl ⟨⟨xs,q,Nat.le_refl _⟩,hd H p⟩
theorem a8c:bootBuiltins "isinstance"=some (.builtin "isinstance"):=by decide +kernel
theorem a5R:bootBuiltins "all"=some (.builtin "all"):=by decide +kernel
theorem b_sum:bootBuiltins "sum"=some (.builtin "sum"):=by decide +kernel
theorem a9Y:bootBuiltins "int"=some (.type "int"):=by decide +kernel
theorem a8d:bootBuiltins "list"=some (.type "list"):=by decide +kernel
theorem a2k:bootBuiltins "tuple"=some (.type "tuple"):=by decide +kernel
theorem PE.imp {X:Cx} {e:Expr} {t t':TE} (h:PE X e t) (hi:∀ σ H Q,t' σ H Q->t σ H Q):PE X e t':=λpins s σ H Q I q=>h pins s σ H Q I (hi σ H Q q)
def a5S (tc:TT) (te:TE) (σ:St) (d:Addr) (x:V) (H:Hp) (Z:Hp->Prop):Prop :=
 tc (some x :: σ) H λb H3=>if b=true then te (some x :: σ) H3 λy H4=>∃ ys,H4 d=some (.lst ys)/\ys.length < sizeLine/\Z (upd H4 d (.lst (ys++[y]))) else Z H3
def a8e (ta:TA) (tc:TT) (te:TE):TE:=λσ H Q=>ta σ H λvs H1=>∃ j:Int,vs=[.int j]/\-(2 ^ 62)<=j/\j < 2 ^ 62/\∀ d,H1 d=none ->
 ∃ Pv:Nat->Hp->Prop,Pv 0 (upd H1 d (.lst []))/\(∀ i H,i < j.toNat->Pv i H->a5S tc te σ d (.int (0+i)) H (Pv (i+1)))/\∀ H,Pv j.toNat H->Q (.ref d) H
def b2q (ta:TA) (tc:TT) (te:TE):TE:=λσ H Q=>ta σ H λvs H1=>∃ lo hi:Int,vs=[.int lo,.int hi]/\(-(2 ^ 62)<=lo/\lo < 2 ^ 62/\-(2 ^ 62)<=hi/\hi < 2 ^ 62)/\∀ d,H1 d=none ->
 ∃ Pv:Nat->Hp->Prop,Pv 0 (upd H1 d (.lst []))/\(∀ i H,i < (hi - lo).toNat->Pv i H->a5S tc te σ d (.int (lo+i)) H (Pv (i+1)))/\∀ H,Pv (hi - lo).toNat H->Q (.ref d) H
def b1d (K:PySem.W.Frag) (tl:TE) (tc:TT) (te:TE):TE:=λσ H Q=>tl σ H λv H1=>∃ a xs,v=.ref a/\SqL K H1 a xs/\∀ d,H1 d=none ->
 ∃ Pv:Nat->Hp->Prop,Pv 0 (upd H1 d (.lst []))/\(∀ i H,i<=xs.length->Pv i H->SqL K H a xs)/\(∀ i x H,xs[i]?=some x->Pv i H->a5S tc te σ d x H (Pv (i+1)))/\∀ H,Pv xs.length H->Q (.ref d) H
def tCompT (K:PySem.W.Frag) (tl:TE) (tc:TT) (te:TE):TE:=λσ H Q=>tl σ H λv H1=>∃ a xs,v=.ref a/\SqT K H1 a xs/\∀ d,H1 d=none ->
 ∃ Pv:Nat->Hp->Prop,Pv 0 (upd H1 d (.lst []))/\(∀ i H,i<=xs.length->Pv i H->SqT K H a xs)/\(∀ i x H,xs[i]?=some x->Pv i H->a5S tc te σ d x H (Pv (i+1)))/\∀ H,Pv xs.length H->Q (.ref d) H
def a2L (t:TE):Prop:=∀ σ H (Q Q':VK),(∀ v H1,Q v H1->Q' v H1)->t σ H Q->t σ H Q'
def a4F (t:TA):Prop:=∀ σ H (Q Q':List V->Hp->Prop),(∀ v H1,Q v H1->Q' v H1)->t σ H Q->t σ H Q'
section
variable {X:Cx} {elt iter:Expr} {tg:Str} {tp:Pos} {cs:List Expr} {scope:Scope} {pos:Pos} {tc:TT} {te:TE} {M:List Str}
abbrev a4G (X:Cx) (scope:Scope) (tg:Str) (M:List Str) (cs:List Expr) (elt:Expr) (tc:TT) (te:TE):Prop :=
 ∀ (cl:List (Str × Addr)) (C:Addr) (s0:Shared) (H0:Hp) (fp:List Addr),PTs (cxC X scope cl C s0 H0 fp (tg :: M)) cs tc/\PE (cxC X scope cl C s0 H0 fp (tg :: M)) elt te
theorem a2M {wi:TI} {t:TE} (hc:X.calm=true) (S:a0l scope X.env X.N M) (nd:(tg :: M).Nodup) (hl:scope.names.lookup tg=some .local) (hi:PI X (.Name tg tp) iter wi) (hin:a4G X scope tg M cs elt tc te)
  (ht:∀ σ H Q,t σ H Q->a6Y 1 wi (a1E 0) tc te σ H Q) (hs:∀ x,foldedSetIterable iter X.env x=pure x):PE X (.ListComp elt [⟨.Name tg tp,iter,cs,0⟩] scope pos) t:=by
 have hx:(relabel scope X.env).names.lookup tg=some .local:=by
  rw [a0Q,hl];rfl
 exact PE.imp (b2p (xs:=[tg]) (M:=M) hc S hi (λcl C s0 H0 fp=>⟨a0H (i:=0) nd rfl (Or.inl hx) (Or.inr hx),hin cl C s0 H0 fp⟩) (λv σ H Q h=>b1c h) hs) ht
theorem a1P {a:Expr} {ta:TA} {p pos':Pos} (hc:X.calm=true) (S:a0l scope X.env X.N M) (nd:(tg :: M).Nodup) (hl:scope.names.lookup tg=some .local) (hg:Gl X "range") (hm:X.mg "range"=none) (ha:PA X [a] ta) (mo:a4F ta)
  (hin:a4G X scope tg M cs elt tc te) (hs:starEach [a] X.env=[(false,eval a X.env)]:=by rfl) (hf:∀ x,foldedSetIterable (.Call (.Name "range" p) [a] [] pos') X.env x=pure x:=by intro _;rfl) :
  PE X (.ListComp elt [⟨.Name tg tp,.Call (.Name "range" p) [a] [] pos',cs,0⟩] scope pos) (a8e ta tc te):=by
 refine a2M hc S nd hl (a1M hg hm ha hs) hin (λσ H Q h=>?_) hf;refine mo σ H _ _ (λvs H1 q=>?_) h;obtain ⟨j,e,j1,j2,q⟩:=q;refine ⟨j,e,j1,j2,λd hd=>?_⟩;obtain ⟨Pv,h0,hs,hd⟩:=q d hd;exact a3a (k:=1) (g:=a1E 0) Pv h0 hs hd
theorem a8f {a b:Expr} {ta:TA} {p pos':Pos} (hc:X.calm=true) (S:a0l scope X.env X.N M) (nd:(tg :: M).Nodup) (hl:scope.names.lookup tg=some .local) (hg:Gl X "range") (hm:X.mg "range"=none) (ha:PA X [a,b] ta) (mo:a4F ta)
  (hin:a4G X scope tg M cs elt tc te) (hs:starEach [a,b] X.env=[(false,eval a X.env),(false,eval b X.env)]:=by rfl) (hs2:starEach [b] X.env=[(false,eval b X.env)]:=by rfl) (hf:∀ x,foldedSetIterable (.Call (.Name "range" p) [a,b] [] pos') X.env x=pure x:=by intro _;rfl) :
  PE X (.ListComp elt [⟨.Name tg tp,.Call (.Name "range" p) [a,b] [] pos',cs,0⟩] scope pos) (b2q ta tc te):=by
 refine a2M hc S nd hl (a2h hg hm ha hs hs2) hin (λσ H Q h=>?_) hf;refine mo σ H _ _ (λvs H1 q=>?_) h;obtain ⟨lo,hi,e,j1,q⟩:=q;refine ⟨lo,hi,e,j1,λd hd=>?_⟩;obtain ⟨Pv,h0,hs,hd⟩:=q d hd;exact a3a (k:=1) (g:=a1E 0) Pv h0 hs hd
theorem a1y {tl:TE} (hc:X.calm=true) (S:a0l scope X.env X.N M) (nd:(tg :: M).Nodup) (hl:scope.names.lookup tg=some .local) (hi:PE X iter tl) (mo:a2L tl)
  (hin:a4G X scope tg M cs elt tc te) (hf:∀ x,foldedSetIterable iter X.env x=pure x:=by intro _;rfl):PE X (.ListComp elt [⟨.Name tg tp,iter,cs,0⟩] scope pos) (b1d X.K tl tc te):=by
 refine a2M hc S nd hl (a2U hi) hin (λσ H Q h=>?_) hf;refine mo σ H _ _ (λv H1 q=>?_) h;obtain ⟨a,xs,e,j1,q⟩:=q;refine ⟨a,e,⟨xs,j1⟩,λd hd=>?_⟩;obtain ⟨Pv,h0,hl,hs,hd⟩:=q d hd;exact a5p (k:=1) (g:=a1E 0) Pv h0 hl hs hd
theorem a9Z {tl:TE} (hc:X.calm=true) (S:a0l scope X.env X.N M) (nd:(tg :: M).Nodup) (hl:scope.names.lookup tg=some .local) (hi:PE X iter tl) (mo:a2L tl)
  (hin:a4G X scope tg M cs elt tc te) (hf:∀ x,foldedSetIterable iter X.env x=pure x:=by intro _;rfl):PE X (.ListComp elt [⟨.Name tg tp,iter,cs,0⟩] scope pos) (tCompT X.K tl tc te):=by
 refine a2M hc S nd hl (b0X hi) hin (λσ H Q h=>?_) hf;refine mo σ H _ _ (λv H1 q=>?_) h;obtain ⟨a,xs,e,j1,q⟩:=q;refine ⟨a,e,⟨xs,j1⟩,λd hd=>?_⟩;obtain ⟨Pv,h0,hl,hs,hd⟩:=q d hd;exact a9X (k:=1) (g:=a1E 0) Pv h0 hl hs hd
theorem a6q {wi:TI} {t:TE} {i:Nat} {x:Str} {pos1 spos:Pos} (hc:X.calm=true) (S:a0l scope X.env X.N M) (nd:(tg :: M).Nodup) (hl:scope.names.lookup tg=some .local) (hi:PI X (.Name tg tp) iter wi) (hin:a4G X scope tg M cs elt tc te)
  (ht:∀ σ H Q,t σ H Q->a6Y 1 wi (a1E 0) tc te σ H Q) (hN:X.N.Nodup) (hix:X.N[i]?=some x) (hx:X.env.scope.names.lookup x=some .local) (hw:swapsWith (.ListComp elt [⟨.Name tg tp,iter,cs,0⟩] scope pos) (some (.Name x pos1)) spos.line X.env=pure true) (hs:∀ x,foldedSetIterable iter X.env x=pure x) :
  PS X (.Assign [.Name x pos1] (.ListComp elt [⟨.Name tg tp,iter,cs,0⟩] scope pos) spos) (a7A t (a1E i)):=by
 have hx':(relabel scope X.env).names.lookup tg=some .local:=by
  rw [a0Q,hl];rfl
 intro pins s σ H D I h;exact a7Z (xs:=[tg]) (M:=M) hc S hi (λcl C s0 H0 fp=>⟨a0H (i:=0) nd rfl (Or.inl hx') (Or.inr hx'),hin cl C s0 H0 fp⟩) (λv σ H Q h=>b1c h) hN hix hx hw hs pins s σ H D I (ht _ _ _ h)
theorem a8g {a:Expr} {ta:TA} {p pos' pos1 spos:Pos} {i:Nat} {x:Str} (hN:X.N.Nodup) (hix:X.N[i]?=some x) (hx:X.env.scope.names.lookup x=some .local) (hc:X.calm=true) (S:a0l scope X.env X.N M) (nd:(tg :: M).Nodup) (hl:scope.names.lookup tg=some .local) (hg:Gl X "range") (hm:X.mg "range"=none) (ha:PA X [a] ta) (mo:a4F ta)
  (hin:a4G X scope tg M cs elt tc te) (hw:swapsWith (.ListComp elt [⟨.Name tg tp,.Call (.Name "range" p) [a] [] pos',cs,0⟩] scope pos) (some (.Name x pos1)) spos.line X.env=pure true:=by rfl)
  (hs:starEach [a] X.env=[(false,eval a X.env)]:=by rfl) (hf:∀ x,foldedSetIterable (.Call (.Name "range" p) [a] [] pos') X.env x=pure x:=by intro _;rfl) :
  PS X (.Assign [.Name x pos1] (.ListComp elt [⟨.Name tg tp,.Call (.Name "range" p) [a] [] pos',cs,0⟩] scope pos) spos) (a7A (a8e ta tc te) (a1E i)):=by
 refine a6q hc S nd hl (a1M hg hm ha hs) hin (λσ H Q h=>?_) hN hix hx hw hf;refine mo σ H _ _ (λvs H1 q=>?_) h;obtain ⟨j,e,j1,j2,q⟩:=q;refine ⟨j,e,j1,j2,λd hd=>?_⟩;obtain ⟨Pv,h0,hs,hd⟩:=q d hd;exact a3a (k:=1) (g:=a1E 0) Pv h0 hs hd
end
theorem a0G {te:TE} {σ:St} {d:Addr} {x:V} {H:Hp} {Z:Hp->Prop} (h:te (some x :: σ) H λy H4=>∃ ys,H4 d=some (.lst ys)/\ys.length < sizeLine/\Z (upd H4 d (.lst (ys++[y])))):a5S a9T te σ d x H Z:=by
 unfold a5S a9T;exact a4k h
theorem a0R {i:Nat}:a2L (tVar i):=λ_ _ _ _ h ⟨v,e,q⟩=>⟨v,e,h _ _ q⟩
theorem mo_c {v:V}:a2L (tC v):=λ_ _ _ _ h q=>h _ _ q
theorem a1U:a4F b2e:=λ_ _ _ _ h q=>h _ _ q
theorem a1k {te:TE} {ta:TA} (h1:a2L te) (h2:a4F ta):a4F (a7L te ta):=λσ H Q Q' h q=>h1 σ H _ _ (λv H1 q1=>h2 σ H1 _ _ (λvs H2 q2=>h _ _ q2) q1) q
theorem b0a {r:R2} {ta tb:TE} (hr:∀ x y H (Q Q':VK),(∀ v H1,Q v H1->Q' v H1)->r x y H Q->r x y H Q') (h1:a2L ta) (h2:a2L tb):a2L (tOp r ta tb):=λσ H Q Q' h q =>
 h1 σ H _ _ (λv H1 q1=>h2 σ H1 _ _ (λu H2 q2=>hr _ _ _ _ _ h q2) q1) q
theorem a6r {g:Int->Int->V}:∀ x y H (Q Q':VK),(∀ v H1,Q v H1->Q' v H1)->rI0 g x y H Q->rI0 g x y H Q':=λ_ _ _ _ _ h ⟨i,j,e1,e2,q⟩=>⟨i,j,e1,e2,h _ _ q⟩
theorem b1e {K:PySem.W.Frag} {ta:TA} (h1:a4F ta):a2L (tCB (λxs H Q=>∃ p ys,xs=[.ref p]/\(SqL K H p ys\/SqT K H p ys)/\Q (.int (ys.length:Nat)) H) ta):=λσ H Q Q' h q =>
 h1 σ H _ _ (λvs H1 ⟨p,ys,e,s,q1⟩=>⟨p,ys,e,s,h _ _ q1⟩) q
abbrev TW (H:Hp) (a:Addr) (ns:List Int):Prop:=H a=some (.tup (ns.map V.int))
section
variable {α β:Type} {R:α->β->Prop}
theorem Paired.takeP:∀ {xs:List α} {ds:List β} (n:Nat),Paired R xs ds->Paired R (xs.take n) (ds.take n)
 | _,_,0,_=>by rw [List.take_zero,List.take_zero];exact .nil
 | _,_,_+1,.nil=>.nil
 | _,_,n+1,.cons r t=>.cons r (Paired.takeP n t)
theorem Paired.appendP:∀ {xs ys:List α} {ds es:List β},Paired R xs ds->Paired R ys es->Paired R (xs++ys) (ds++es)
 | _,_,_,_,.nil,s=>s
 | _,_,_,_,.cons r t,s=>.cons r (Paired.appendP t s)
theorem Paired.oneP {a:α} {b:β} (r:R a b):Paired R [a] [b]:=.cons r .nil
end
theorem a6s {ns:List Int} {k:Nat} {x:Int} (h:ns[k]?=some x):atI (ns.map V.int) (k:Int)=some (.int x):=a1G (by rw [List.getElem?_map,h];rfl)
theorem small {n:Nat} (h:n<=1000):n<=sizeLine:=Nat.le_of_lt (a0p h)
theorem cut_to (xs:List V) (n:Nat):a5I xs none (some (n:Int))=xs.take n:=by
 unfold a5I;rw [HT.a7P,HT.a6o];simp [List.take_eq_take_iff]
theorem b0b (xs:List V) (n:Nat):a5I xs (some (n:Int)) none=xs.drop n:=by
 unfold a5I;rw [HT.a7P,HT.a6o];by_cases h:n<=xs.length
 ·rw [Nat.min_eq_left h];exact List.take_of_length_le (by rw [List.length_drop];omega)
 ·rw [Nat.min_eq_right (by omega),List.drop_eq_nil_of_le (Nat.le_refl _),List.drop_eq_nil_of_le (by omega)];simp
theorem a8h (xs:List V) (i:Int) (h:0<=i):a5I xs none (some i)=xs.take i.toNat:=by
 obtain ⟨n,rfl⟩:∃ n:Nat,i=n:=⟨i.toNat,by omega⟩
 rw [cut_to];rfl
theorem a4H (xs:List V) (i:Int) (h:0<=i):a5I xs (some i) none=xs.drop i.toNat:=by
 obtain ⟨n,rfl⟩:∃ n:Nat,i=n:=⟨i.toNat,by omega⟩
 rw [b0b];rfl
theorem b2r (xs:List V) (lo hi:Option Int):∃ a b,a5I xs lo hi=(xs.drop a).take b:=⟨_,_,rfl⟩
theorem a0w {H H1:Hp} {d:Addr} {o:HO} (h:H d=none) (sm:a0E H H1):a0E H (upd H1 d o):=λb u q=>by rw [a0j (a0V q h)];exact sm b u q
theorem a5q (ns:List Int) (lo hi:Option Int):∃ ms:List Int,a5I (ns.map V.int) lo hi=ms.map V.int/\ms.length<=ns.length:=by
 obtain ⟨a,b,e⟩:=b2r (ns.map V.int) lo hi;exact ⟨(ns.drop a).take b,by rw [e,List.map_take,List.map_drop],by rw [List.length_take,List.length_drop];omega⟩
structure Fns (P:Program) (w:World) (K:PySem.W.Frag) (mg:Str->Option Value) (base:Heap) (ps:List Str) (name:Str) (sp:Sp) (k:Nat) where
 g:Addr
 gd:FuncData
 ok:a1a P w K mg base CX0 k g gd ps sp
 b:a1X K gd ps []
 kp:PySem.W.keepIn K (.ref g)=true
 m:mg name=some (.ref g)
def Fns.up {P:Program} {w:World} {K:PySem.W.Frag} {mg:Str->Option Value} {base:Heap} {ps:List Str} {name:Str} {sp:Sp} {j k:Nat} (f:Fns P w K mg base ps name sp j) (h:j<=k):Fns P w K mg base ps name sp k:=⟨f.g,f.gd,f.ok.mono h,f.b,f.kp,f.m⟩
def tMid (t:TS):TS:=λD σ H=>∃ Mid:St->Hp->Prop,t { D with nx:=Mid } σ H/\∀ σ' H',Mid σ' H'->D.nx σ' H'
theorem a5r {X:Cx} {st:Stmt} {t:TS} (h:PS X st t):PS X st (tMid t):=by
 intro pins s σ H D I ⟨Mid,h1,h2⟩;refine thn (h pins s σ H _ I h1) λfl s' q=>?_;cases fl with
 | next=>obtain ⟨σ',H',I',m⟩:=q;exact ⟨σ',H',I',h2 _ _ m⟩
 | brk=>exact q
 | cont=>exact q
 | ret u=>exact q
def eMid (t:TE):TE:=λσ H Q=>∃ Mid:V->Hp->Prop,t σ H Mid/\∀ v H',Mid v H'->Q v H'
theorem a3m {X:Cx} {e:Expr} {t:TE} (h:PE X e t):PE X e (eMid t):=by
 intro pins s σ H Q I ⟨Mid,h1,h2⟩;exact thn (h pins s σ H _ I h1) λu s' ⟨v,H',I',r,m⟩=>⟨v,H',I',r,h2 _ _ m⟩
theorem a8i {t:TE}:a2L (eMid t):=λσ H Q Q' h ⟨Mid,h1,h2⟩=>⟨Mid,h1,λv H' m=>h _ _ (h2 v H' m)⟩
theorem ixL {X:Cx} (K:PySem.W.Frag) (h:X.K=K:=by rfl):IxR X (rIxL K):=by subst h;exact a0k
theorem ixT {X:Cx} (K:PySem.W.Frag) (h:X.K=K:=by rfl):IxR X (rIxT K):=by subst h;exact a0C
section
variable {X:Cx} {elt iter:Expr} {tg:Str} {tp:Pos} {cs:List Expr} {scope:Scope} {pos:Pos} {tc:TT} {te:TE} {M:List Str}
end
def a3N (h:Heap) (e:Addr) (cls:Value) (od:Option Addr) (hd:Value):Prop:=∃ oe vs,h.get? e=some oe/\oe.cls=cls/\oe.dict=od/\oe.data=.fields vs/\vs[1]?=some hd
def b0c (h:Heap) (T:Addr) (fl:Value):Prop:=∃ oT ts,h.get? T=some oT/\oT.data=.fields ts/\ts[3]?=some fl
def Mv (S fs:List Addr) (h h':Heap):Prop:=∀ b o,h.get? b=some o->b∉S->(b∉fs->h'.get? b=some o)/\∃ sl,h'.get? b=some { o with slots:=sl }
section
variable {S S' fs:List Addr} {h h1 h2:Heap}
theorem Mv.trans (a:Mv S fs h h1) (b:Mv S fs h1 h2):Mv S fs h h2:=λc o e n=>by
 obtain ⟨k,sl,e1⟩:=a c o e n;obtain ⟨_,sl2,e2⟩:=b c _ e1 n;exact ⟨λnf=>(b c o (k nf) n).1 nf,sl2,e2⟩
theorem Mv.mono (a:Mv S fs h h1) (hs:∀ b∈S,b∈S'):Mv S' fs h h1:=λb o e n=>a b o e λz=>n (hs b z)
theorem Mv.frames (a:Mv S fs h h1) {base:Heap} {l:List Env} (hl:h.FunFrames base l) (hS:∀ b∈S,∀ o,h.get? b=some o->∃ vs,o.data=.fields vs):h1.FunFrames base l :=
 hl.of_keeps λb o hb hn=>by
  obtain ⟨_,sl,e⟩:=a b o hb λz=>by
   obtain ⟨vs,q⟩:=hS b z o hb;exact hn vs q
  exact ⟨_,e,rfl⟩
end
theorem a4l (f:Array Value->Array Value) (o:Obj):(Obj.mapFields f o).dict=o.dict:=by
 obtain ⟨c,d,dt,sl⟩:=o;cases dt <;> rfl
section
variable {M:Model} {A:Around} {E:Value->Shared->Prop} {s:Shared} {env:Env} {outer:List Env} {base:Heap} {L e T:Addr} {cls hd fl head:Value} {od:Option Addr} {S:List Addr} {Q:Unit->Shared->Prop}
theorem a5s {hadNext:Bool} (hfr:A.frames=some (env :: outer)) (hl:s.heap.FunFrames base (env :: outer)) (hf:env.frame=some L) (x:a3N s.heap e cls od hd)
  (h:∀ h' T,Mv [e] (frs (env :: outer)) s.heap h'->s.heap.objs.size<=T->T≠e->a3N h' e cls od (.ref T)->b0c h' T (rawInt L)->Q () { s with heap:=h' }) :
  wpAny M A (do let a <-frameOf env;let pl <-entryPlaceOf L hadNext;let b <-EntryCells.newEntry head a .none (rawInt L) .none pl;setField (.ref e) 1 b) Q E s:=by
 obtain ⟨oe,vs,he,hc,hdd,hd1,h1⟩:=x;have hsz:1 < vs.size:=(Array.getElem?_eq_some_iff.mp h1).1;have ne:e∉frs (env :: outer):=λhm=>by
  obtain ⟨_,o,ho,hn⟩:=hl.mem hm;rw [he] at ho;cases ho;exact hn vs hd1
 refine wpAny_bind (wpAny_frameOf_fun hfr hl hf λg so=>?_);refine wpAny_bind (wpAny_entryPlaceOf λpl hp=>?_);unfold EntryCells.newEntry newFields;refine wpAny_bind (wpAny_newObj_type ?_ (hp.sizeOk5 _ _ _ _ _));have e1:g.get? e=some oe:=(so.2.1 e ne).trans he;have hTe:g.objs.size≠e:=Nat.ne_of_gt (Heap.lt_size e1);have t3:([head,.ref L,.none,rawInt L,.none]++(if pl.isEmpty then List.replicate 6 Value.none else pl)).toArray[3]?=some (rawInt L):=by simp
 generalize ([head,.ref L,.none,rawInt L,.none]++(if pl.isEmpty then List.replicate 6 Value.none else pl)).toArray=ts at t3 ⊢;have e2:=Heap.get?_push_of_some (h:=g) { cls:=.type "traceback",dict:=none,data:=.fields ts } e1;refine wpAny_setField e2 hd1 hsz (h _ g.objs.size (λb o hb hn=>?_) (by rw [so.1];exact Nat.le_refl _) hTe ?_ ?_)
 ·have hbe:b≠e:=λz=>hn (by rw [z];exact List.mem_cons_self);have mv:∀ o',g.get? b=some o'->((g.push { cls:=.type "traceback",dict:=none,data:=.fields ts }).update e (Obj.mapFields (·.setIfInBounds 1 (Value.ref g.objs.size)))).get? b=some o':=λo' q=>by
   rw [Heap.get?_update_other _ _ (Ne.symm hbe)];exact Heap.get?_push_of_some _ q
  obtain ⟨sl,q⟩:=so.2.2 b o hb;exact ⟨λnf=>mv o ((so.2.1 b nf).trans hb),sl,mv _ q⟩
 ·exact ⟨_,_,Heap.get?_update_self _ e2 (Obj.isFreed_of_fields (Obj.data_mapFields hd1 _)),(Obj.cls_mapFields _ _).trans hc,(a4l _ _).trans hdd,Obj.data_mapFields hd1 _,by simp [hsz]⟩
 ·refine ⟨{ cls:=.type "traceback",dict:=none,data:=.fields ts },ts,?_,rfl,t3⟩;rw [Heap.get?_update_other _ _ (Ne.symm hTe)];exact Heap.get?_push_size g rfl
def a7a (h:Heap) (e:Addr) (cls:Value) (od:Option Addr) (S:List Addr):Prop :=
 e∈S/\(∀ b∈S,∀ o,h.get? b=some o->∃ vs,o.data=.fields vs)/\∃ hd,a3N h e cls od hd/\(hd=.none\/∃ T,T∈S/\hd=.ref T/\T≠e/\b0c h T .none)
theorem b1f {x:Value} (t:b0c s.heap T fl) (h:∀ h',h'.objs.size=s.heap.objs.size->b0c h' T x->(∀ b,b≠T->h'.get? b=s.heap.get? b)->Q () { s with heap:=h' }):wpAny M A (setField (.ref T) 3 x) Q E s:=by
 obtain ⟨oT,ts,hT,hdT,h3⟩:=t;have hsz:3 < ts.size:=(Array.getElem?_eq_some_iff.mp h3).1;exact wpAny_setField hT hdT hsz (h _ (Heap.size_after_update ..) ⟨_,_,Heap.get?_update_self _ hT (Obj.isFreed_of_fields (Obj.data_mapFields hdT _)),Obj.data_mapFields hdT _,by simp [hsz]⟩ λb hb=>Heap.get?_update_other _ _ (Ne.symm hb))
theorem a3N.other {h h':Heap} (x:a3N h e cls od hd) (k:h'.get? e=h.get? e):a3N h' e cls od hd:=by
 obtain ⟨oe,vs,he,r⟩:=x;exact ⟨oe,vs,k.trans he,r⟩
theorem b2s (hfr:A.frames=some (env :: outer)) (hl:s.heap.FunFrames base (env :: outer)) (hf:env.frame=some L) (lo:a7a s.heap e cls od S)
  (h:∀ h' T,Mv S (frs (env :: outer)) s.heap h'->s.heap.objs.size<=T->T≠e->a3N h' e cls od (.ref T)->b0c h' T (rawInt L)->Q () { s with heap:=h' }):wpAny M A (noteFrame (.ref e) env) Q E s:=by
 obtain ⟨heS,hSf,hd,x,hh⟩:=lo;unfold noteFrame;simp only [hf];obtain ⟨oe,vs,he,hc,hdd,hd1,h1⟩:=id x;refine wpAny_bind (wpAny_field he hd1 h1 ?_);rcases hh with rfl | ⟨T,hTS,rfl,hTe,tb⟩
 ·rw [if_neg (by decide)];exact a5s hfr hl hf x λh' T m hs hT x' t'=>h h' T (m.mono λb hb=>by rw [List.mem_singleton.mp hb];exact heS) hs hT x' t'
 ·rw [if_pos (show (Value.ref T != Value.none)=true from by simp)];obtain ⟨oT,ts,hT,hdT,h3⟩:=id tb;refine wpAny_bind (wpAny_field hT hdT h3 ?_);rw [if_neg (show ¬ ((Value.none == rawInt L)=true) from by simp [rawInt])];refine wpAny_bind (b1f tb λg m1 t1 k1=>?_);have m2:Mv S (frs (env :: outer)) s.heap g:=λb o hb hn=>by
   have hbT:b≠T:=λz=>hn (by rw [z];exact hTS);have q:=(k1 b hbT).trans hb;exact ⟨λ_=>q,o.slots,q⟩
  refine a5s (s:={ s with heap:=g }) hfr (m2.frames hl hSf) hf (x.other (k1 e (Ne.symm hTe))) λh' T' m hs hT' x' t'=>?_;exact h h' T' (m2.trans (m.mono λb hb=>by rw [List.mem_singleton.mp hb];exact heS)) (by rw [<-m1];exact hs) hT' x' t'
theorem a3O (x:a3N s.heap e cls od (.ref T)) (t:b0c s.heap T fl) (hTe:T≠e) (h:∀ h',h'.objs.size=s.heap.objs.size->a3N h' e cls od (.ref T)->b0c h' T .none->(∀ b,b≠T->h'.get? b=s.heap.get? b)->Q () { s with heap:=h' }) :
  wpAny M A (setFlight (.ref e) none) Q E s:=by
 obtain ⟨oe,vs,he,hc,hdd,hd1,h1⟩:=id x;unfold setFlight;refine wpAny_bind (wpAny_field he hd1 h1 ?_);rw [if_pos (show (Value.ref T != Value.none)=true from by simp)];exact b1f t λg m1 t1 k1=>h g m1 (x.other (k1 e (Ne.symm hTe))) t1 k1
theorem b0d {h:Heap} (x:a3N h e cls od (.ref T)) (t:b0c h T .none) (hT:T≠e):a7a h e cls od [T,e]:=by
 refine ⟨List.mem_cons_of_mem _ List.mem_cons_self,λb hb o ho=>?_,.ref T,x,.inr ⟨T,List.mem_cons_self,rfl,hT,t⟩⟩;rcases List.mem_cons.mp hb with hb | hb
 ·obtain ⟨oT,ts,q,hd,_⟩:=t;rw [hb,q] at ho;cases ho;exact ⟨ts,hd⟩
 ·obtain ⟨oe,vs,q,_,_,hd,_⟩:=x;rw [List.mem_singleton.mp hb,q] at ho;cases ho;exact ⟨vs,hd⟩
theorem a5T (hfr:A.frames=some (env :: outer)) (hl:s.heap.FunFrames base (env :: outer)) (hf:env.frame=some L) (lo:a7a s.heap e cls od S)
  (h:∀ h' T,Mv S (frs (env :: outer)) s.heap h'->s.heap.objs.size<=T->T≠e->a3N h' e cls od (.ref T)->b0c h' T .none->Q () { s with heap:=h' }) :
  wpAny M A (noteFrame (.ref e) env) (λ_ s1=>wpAny M A (setFlight (.ref e) none) Q E s1) E s:=by
 refine b2s hfr hl hf lo λg T m hs hT x t=>?_;refine a3O (s:={ s with heap:=g }) x t hT λh' m1 x' t' k1=>?_;have mm:Mv S (frs (env :: outer)) s.heap h':=λb o hb hn=>by
  have hbT:b≠T:=Nat.ne_of_lt (Nat.lt_of_lt_of_le (Heap.lt_size hb) hs);obtain ⟨q1,sl,q2⟩:=m b o hb hn;exact ⟨λnf=>(k1 b hbT).trans (q1 nf),sl,(k1 b hbT).trans q2⟩
 exact h h' T mm hs hT x' t'
theorem b0e (hfr:A.frames=some (env :: outer)) (hl:s.heap.FunFrames base (env :: outer)) (hf:env.frame=some L) (lo:a7a s.heap e cls od S)
  (h:∀ h' T,Mv S (frs (env :: outer)) s.heap h'->s.heap.objs.size<=T->a7a h' e cls od [T,e]->Q () { s with heap:=h' }):wpAny M A (leaving env (.ref e)) Q E s:=by
 unfold leaving;exact wpAny_bind (a5T hfr hl hf lo λh' T m hs hT x t=>h h' T m hs (b0d x t hT))
end
theorem a1T.obj {P:Program} {w:World} {H:Hp} {h:Heap} {a:Addr} {o:HO} (x:a1T P w H h a o):∃ ob,h.get? a=some ob:=by
 cases o with
 | lst xs=>obtain ⟨_,_,_,_,e⟩:=x;exact ⟨_,e⟩
 | tup xs=>obtain ⟨_,_,_,ob,e,_⟩:=x;exact ⟨_,e⟩
 | dK kvs=>obtain ⟨_,_,_,_,ob,_,_,e,_⟩:=x;exact ⟨_,e⟩
 | dT kvs=>obtain ⟨_,_,_,_,ob,_,_,e,_⟩:=x;exact ⟨_,e⟩
 | set S n=>obtain ⟨ob,_,_,_,e,_⟩:=x;exact ⟨_,e⟩
 | ins C dx fs=>obtain ⟨_,_,_,e,_⟩:=x;exact ⟨_,e⟩
 | own y=>exact x
 | xd fs=>obtain ⟨_,⟨ob,_,_,e,_⟩,_⟩:=x;exact ⟨_,e⟩
 | rng lo hi=>obtain ⟨_,_,_,e⟩:=x;exact ⟨_,e⟩
 | frz ob u=>obtain ⟨e,_⟩:=x;exact ⟨_,e⟩
 | tbl ps=>exact ⟨_,show h.get? a=some _ from x⟩
 | met f y=>exact ⟨_,show h.get? a=some _ from x⟩
 | ext φ=>obtain ⟨_,e,_⟩:=x;exact e
theorem HOk.none_of {P:Program} {w:World} {H:Hp} {h:Heap} (x:HOk P w H h) {a:Addr} (n:h.get? a=none):H a=none:=by
 cases e:H a with
 | none=>rfl
 | some o =>
  obtain ⟨ob,q⟩:=(x a o e).obj;rw [n] at q;cases q
section
variable {X:Cx} {pins:List (Addr × Obj)} {σ:St} {H H':Hp} {s:Shared} {h':Heap} {b:Addr} {S:List Addr}
def Off (X:Cx) (pins:List (Addr × Obj)) (b:Addr):Prop :=
 (∀ o,X.s₀.heap.get? b=some o->b∈X.ex)/\b≠X.env.locals/\(∀ x c,X.env.cells.lookup x=some c->c≠b)/\∀ p∈X.pn++pins,p.1≠b
theorem Inv.off (I:Inv X pins σ H s) (n:s.heap.get? b=none):Off X pins b:=by
 refine ⟨λo e=>?_,λz=>?_,λx c e z=>?_,λp hp z=>?_⟩
 ·by_cases hx:b∈X.ex
  ·exact hx
  ·obtain ⟨o',e'⟩:=I.base.there b o e hx;rw [n] at e';cases e'
 ·obtain ⟨m,⟨o,_,_,ho,_⟩,_⟩:=I.loc;rw [z,ho] at n;cases n
 ·obtain ⟨v,o,ho,_⟩:=I.cell x c e;rw [z,n] at ho;cases ho
 ·have q:=(I.pin p hp).1;rw [z,n] at q;cases q
theorem Inv.moved {t':Nat} (I:Inv X pins σ H s) (m:Mv S (frs X.stack) s.heap h') (hS:∀ b∈S,Off X pins b/\H b=none):Inv X pins σ H { s with heap:=h',toks:=t' }:=by
 have neL:∀ b o,X.s₀.heap.get? b=some o->b≠X.env.locals:=λb o e=>Nat.ne_of_lt (Nat.lt_of_lt_of_le (Heap.lt_size e) I.ok.above);have nS:∀ b o,X.s₀.heap.get? b=some o->b∉X.ex->b∉S:=λb o e hx z=>hx ((hS b z).1.1 o e);have nst:∀ b,b≠X.env.locals->b∉X.fs->b∉frs X.stack:=λb h1 h2 z=>(List.mem_cons.mp (I.stkSub b z)).elim h1 h2;have cellM:∀ x c,X.env.cells.lookup x=some c->∀ v,s.heap.IsCell c v->h'.IsCell c v:=λx c e v ⟨o,ho,hd⟩=>by
  obtain ⟨_,sl,q⟩:=m c o ho λz=>(hS c z).1.2.2.1 x c e rfl;exact ⟨_,q,hd⟩
 refine ⟨I.ok,I.os,I.bare,⟨λb o e n hb hx=>?_,λb o e n hb hx=>?_,I.base.free,λb o e hx=>?_,I.base.tups,I.base.frzs,I.base.tbls⟩,?_,λx c e=>?_,I.free,I.freeC,λp hp=>?_,λb u e=>?_,I.len⟩
 ·exact (m b o (I.base.keep b o e n hb hx) (nS b o e hx)).1 (nst b (neL b o e) hb)
 ·obtain ⟨sl,e1⟩:=I.base.slot b o e n hb hx;obtain ⟨_,sl',e2⟩:=m b _ e1 (nS b o e hx);exact ⟨sl',e2⟩
 ·obtain ⟨o',e1⟩:=I.base.there b o e hx;obtain ⟨_,sl,e2⟩:=m b _ e1 (nS b o e hx);exact ⟨_,e2⟩
 ·obtain ⟨mm,hn,hl⟩:=I.loc;refine ⟨mm,?_,λi x v e1 e2 e3=>?_⟩
  ·obtain ⟨o,es,ep,ho,r⟩:=hn;obtain ⟨_,sl,q⟩:=m _ o ho λz=>(hS _ z).1.2.1 rfl;exact ⟨_,es,ep,q,r⟩
  ·obtain ⟨u,r,l⟩:=hl i x v e1 e2 e3;refine ⟨u,r,?_⟩;rcases l with l | ⟨k,c,e,z⟩
   ·exact .inl l
   ·exact .inr ⟨k,c,e,cellM x c e _ z⟩
 ·obtain ⟨v,z⟩:=I.cell x c e;exact ⟨v,cellM x c e v z⟩
 ·obtain ⟨e,n,ne,nf,d⟩:=I.pin p hp;exact ⟨(m _ _ e λz=>(hS _ z).1.2.2.2 p hp rfl).1 (nst _ ne nf),n,ne,nf,d⟩
 ·refine (I.hok b u e).stay (λc v hc q=>?_) (λ_ q=>q) λ_ _ q=>q;have ht:H c≠none:=by
   rcases hc with rfl | hc
   ·rw [e];exact λz=>nomatch z
   ·rw [hc];exact λz=>nomatch z
  exact (m c v q λz=>ht (hS c z).2).1 λz=>ht (I.stkFree c z)
theorem Inv.track {φ:Heap->Prop} (I:Inv X pins σ H s) (ob:Off X pins b) (n:H b=none) (hφ:φ s.heap) (ho:∃ o,s.heap.get? b=some o) (st:∀ h1 h2:Heap,φ h1->(∀ o,h1.get? b=some o->h2.get? b=some o)->φ h2)
  (nf:b∉X.fs):Inv X pins σ (upd H b (.ext φ)) s:=by
 refine ⟨I.ok,I.os,I.bare,⟨I.base.keep,I.base.slot,λc o e n' hx=>?_,I.base.there,λc xs e=>?_,λc o u e=>?_,λc ps e=>?_⟩,I.loc,I.cell,?_,λx c e=>?_,λp hp=>?_,λc u e=>?_,I.len⟩
 ·have hcb:c≠b:=λz=>by
   subst z;exact hx (ob.1 o e)
  rw [a0j hcb];exact I.base.free c o e n' hx
 ·rw [a0j (a0V (I.base.tups c xs e) n)];exact I.base.tups c xs e
 ·rw [a0j (a0V (I.base.frzs c o u e) n)];exact I.base.frzs c o u e
 ·obtain ⟨more,q⟩:=I.base.tbls c ps e;exact ⟨more,by rw [a0j (a0V q n)];exact q⟩
 ·rw [a0j (Ne.symm ob.2.1)];exact I.free
 ·rw [a0j (ob.2.2.1 x c e)];exact I.freeC x c e
 ·obtain ⟨e,n',ne,nf',d⟩:=I.pin p hp;exact ⟨e,by rw [a0j (ob.2.2.2 p hp)];exact n',ne,nf',d⟩
 ·by_cases hc:c=b
  ·subst hc;rw [a0b] at e;cases e;exact ⟨hφ,ho,st⟩
  ·rw [a0j hc] at e;refine (I.hok c u e).stay (λ_ _ _ q=>q) (λd r=>?_) λd xs r=>?_
   ·rw [a0j (a0V r n)];exact r
   ·rw [a0j (a0V r n)];exact r
end
def CXF (P:Program) (w:World):CXT:=λouter H s E e s'=>∃ (ea:Addr) (cls:Value) (od:Option Addr) (S:List Addr) (H':Hp),e=.ref ea/\s'.os=s.os/\AllBare s'.gens /\
 Un (frs outer) [] H H' s.heap s'.heap/\HOk P w H' s'.heap/\a7a s'.heap ea cls od S/\(∀ b∈S,s.heap.get? b=none/\H' b=none)/\E cls od H'
section
variable {P:Program} {w:World} {K:PySem.W.Frag} {mg:Str->Option Value} {base:Heap} {N:List Str} {qual:Str} {scope:Scope} {f:Addr} {cd:Value} {A:Around} {outer:List Env} {s₀:Shared} {H₀:Hp} {E:XK}
theorem a1c:a2I (CXF P w) (a7N (CXF P w) P w K mg base N qual scope f cd A outer s₀ H₀ E) E:=by
 intro pins σ H s e s' I h;obtain ⟨ea,cls,od,S,H',rfl,os,bare,un,hok,lo,hS,q⟩:=h;have I1:=I.call' (ch:=[]) os un hok bare (λb z=>absurd z (by simp));show wpAny _ _ (leaving _ (.ref ea)) _ _ s';refine b0e I.ok.frames I1.stack rfl lo λh' T m hs lo'=>?_;have I2:Inv _ pins σ H' { s' with heap:=h',toks:=s'.toks }:=I1.moved (S:=S) m λb hb=>⟨I.off (hS b hb).1,(hS b hb).2⟩
 have out:∀ b,Off (a7N (CXF P w) P w K mg base N qual scope f cd A outer s₀ H₀ E) pins b->s₀.heap.get? b=none:=λb ob=>by
  cases e:s₀.heap.get? b with
  | none=>rfl
  | some o=>exact absurd (ob.1 o e) (by show b∉([]:List Addr);simp)
 refine ⟨ea,cls,od,[T,ea],H',rfl,I2.os,I2.bare,I2.base,I2.hok,lo',λb hb=>?_,q⟩;rcases List.mem_cons.mp hb with rfl | hb
 ·exact ⟨out _ (I1.off (Heap.get?_none_of_le hs)),I1.hok.fresh hs⟩
 ·rw [List.mem_singleton.mp hb];exact ⟨out _ (I.off (hS ea lo.1).1),(hS ea lo.1).2⟩
theorem Fun.okF {x qual:Str} {st:Stmt} {f:Addr} {fd:FuncData} {N ps:List Str} {k:Nat} {sp:Sp} (F:Fun K x qual st f fd) (S:a0u N ps (a0e st)) (len:∀ vs H Q E,sp vs H Q E->vs.length=ps.length)
  (hbody:∀ (cdv:Value) (A:Around) (outer:List Env) (s:Shared) (H:Hp) (vs:List V) (Q:VK) (E:XK),a3l k (A.deeper (envOfC qual (a0e st) s.heap.objs.size f cdv))->sp vs H Q E ->
   ∃ t,PSs (a7N (CXF P w) P w K mg base N qual (a0e st) f cdv A outer s H E) (a0o st) t/\t { nx:=λ_ H'=>Q .non H',rt:=Q } (start N vs) H):a1a P w K mg base (CXF P w) (k+1) f fd ps sp:=by
 obtain ⟨oc,od,kV,doc,pm,an,cdv,ct,osl,rfl,lk,hcd⟩:=F.ex;exact fn_of lk hcd S len λA outer s H vs Q E hr hsp=>hbody cdv A outer s H vs Q E hr hsp
end
abbrev b1g:List Value:=[.type "ValueError",.type "Exception",.type "BaseException",.type "object"]
abbrev a4I:String:="ValueError.__new__"
structure Ecl (K:PySem.W.Frag) (C:Addr):Prop where
 ex:PySem.W.excIn K C b1g a4I=true
theorem Ecl.obj {K:PySem.W.Frag} {C:Addr} (c:Ecl K C) {h:Heap} (X:K.In h):∃ bm N nm q bs hdct sn sub ab col dd k0 k1 k2 k3 k5 mN,h.get? C=some (excClassObj nm q C N bs bm hdct sn sub ab col dd k0 k1 k2 k3 k5 a4I)/\h.Ns N mN/\mN "__init__"=none/\OwnTail h b1g bm:=by
 have q:=c.ex;unfold PySem.W.excIn at q;split at q
 ·rename_i dd cd sl ho;split at q
  ·rename_i C' bm k0 k1 k2 k3 n k5 hm hs;simp only [Bool.and_eq_true,beq_iff_eq,Bool.not_eq_true'] at q;obtain ⟨⟨⟨⟨⟨rfl,rfl⟩,hdel⟩,ht⟩,hok⟩,hni⟩:=q;obtain ⟨nm,bs,mro,ns,qn,hd,sn,sub,ab,col,del⟩:=cd;dsimp only at hm hdel hok hni;subst hm hdel;obtain ⟨l⟩:=sl;have hl:l=[k0,k1,k2,k3,some (.builtin a4I),k5]:=hs;subst hl;exact ⟨bm,ns,nm,qn,bs,hd,sn,sub,ab,col,dd,k0,k1,k2,k3,k5,_,X _ _ ho,.of_isNs (PySem.W.isNs_of_in X hok),PySem.W.nsMap_none_of_in X hok hni,PySem.W.tail_of_in X ht⟩
  ·cases q
 ·cases q
def tRaise (C:Addr) (E:XK) (ta:TA):TS:=λ_ σ H=>ta σ H λvs H1=>vs.length<=1000/\E (.ref C) none H1
theorem a2a {X:Cx} {E:XK} {x:Str} {C:Addr} {np cpos pos:Pos} {e:Expr} {es:List Expr} {ta:TA} (hx:a2I (CXF X.prog X.w) X E) (hc:X.calm=true) (hg:Gl X x) (hm:X.mg x=some (.ref C)) (hcl:Ecl X.K C) (ha:PA X (e :: es) ta)
  (hdb:(x == ("__debug__":Str))=false:=by decide) (he:starEach (e :: es) X.env=(false,eval e X.env) :: starEach es X.env:=by rfl) (hpl:(backTo cpos (starEach (e :: es) X.env)).any (·.1)=false:=by rfl) :
  PS X (.Raise (some (.Call (.Name x np) (e :: es) [] cpos)) none pos) (tRaise C E ta):=by
 intro pins s σ H D I h;obtain ⟨bm,N,nm,q,bs,hdct,sn,sub,ab,col,dd,k0,k1,k2,k3,k5,mN,hC,hN,hni,T⟩:=hcl.obj I.ok.mod.kin;refine wpAny_Raise_call_subT (C:=C) (nm:=nm) (q:=q) (N:=N) (bs:=bs) (bm:=bm) (hdct:=hdct) (sn:=sn) (sub:=sub) (ab:=ab) (col:=col) (dd:=dd) (k0:=k0) (k1:=k1) (k2:=k2) (k3:=k3) (k5:=k5) PySem.F.excBase_ValueError (T.hasType (by decide +kernel)) (I.ok.hd hc) hpl hni (a2S I hg hm ⟨rfl,?_⟩ hdb);have ha':=ha cpos pins s σ H _ I h;rw [he] at ha' ⊢;refine Calls.evalArgs_plain (thn ha' λus s1 ⟨vs,H1,I1,r,hl,q⟩=>?_);have kb:=I1.bk;refine ⟨rfl,?_,kb _ _ hC,hN.keeps kb,T.keeps kb,λh' ea me=>?_⟩
 ·show us.length<=sizeLine;rw [<-r.length];exact small hl
 ·refine hx pins σ H1 s1 (.ref ea) _ I1 ⟨ea,.ref C,none,[ea],H1,rfl,rfl,I1.bare,Un.kept me.keeps,I1.hok.kept me.keeps,?_,λb hb=>?_,q⟩
  ·obtain ⟨t,ht,_,_⟩:=me.there;refine ⟨List.mem_cons_self,λb hb o ho=>?_,.none,⟨_,_,ht,rfl,rfl,rfl,rfl⟩,.inl rfl⟩;rw [List.mem_singleton.mp hb,ht] at ho;cases ho;exact ⟨_,rfl⟩
  ·rw [List.mem_singleton.mp hb];exact ⟨me.new,I1.hok.none_of me.new⟩
abbrev Cx.tryx (X:Cx) (pn:List (Addr × Obj)) (xe:Value->Shared->Prop):Cx:={ X with pn:=pn,xe:=xe }
abbrev Cx.hand (X:Cx) (ea:Addr):Cx:={ X with A:=X.A.mark (some (.ref ea)),calm:=false,xe:=λ_ _=>False }
section
variable {X:Cx} {pins pins':List (Addr × Obj)} {σ:St} {H:Hp} {s:Shared} {h':Heap} {ea:Addr} {xe:Value->Shared->Prop}
theorem Inv.tryx (I:Inv X pins σ H s) (xe:Value->Shared->Prop):Inv (X.tryx (X.pn++pins) xe) [] σ H s :=
 ⟨⟨I.ok.mod,I.ok.kind,I.ok.glob,I.ok.blt,I.ok.above,I.ok.inj,I.ok.has,I.ok.cab,I.ok.hd,I.ok.frames,I.ok.stk,I.ok.exf,I.ok.bs,I.ok.bsz,I.ok.noex,I.ok.exfs,I.ok.funs,I.ok.frf⟩,I.os,I.bare,I.base,I.loc,I.cell,I.free,I.freeC,
  λp hp=>I.pin p (by rw [List.append_nil] at hp;exact hp),I.hok,I.len⟩
theorem Inv.untryx (ok:X.Ok) (I:Inv (X.tryx (X.pn++pins) xe) pins' σ H s):Inv X pins σ H s :=
 ⟨ok,I.os,I.bare,I.base,I.loc,I.cell,I.free,I.freeC,λp hp=>I.pin p (List.mem_append_left _ hp),I.hok,I.len⟩
theorem Inv.hand (I:Inv X pins σ H s) (ea:Addr):Inv (X.hand ea) pins σ H s :=
 ⟨⟨I.ok.mod,I.ok.kind,I.ok.glob,I.ok.blt,I.ok.above,I.ok.inj,I.ok.has,I.ok.cab,λz=>absurd (show false=true from z) (by decide),I.ok.frames,I.ok.stk,I.ok.exf,I.ok.bs,I.ok.bsz,I.ok.noex,I.ok.exfs,I.ok.funs,I.ok.frf⟩,I.os,I.bare,I.base,I.loc,I.cell,I.free,I.freeC,I.pin,I.hok,I.len⟩
theorem Inv.unhand (ok:X.Ok) (I:Inv (X.hand ea) pins σ H s):Inv X pins σ H s:=⟨ok,I.os,I.bare,I.base,I.loc,I.cell,I.free,I.freeC,I.pin,I.hok,I.len⟩
theorem Inv.unbind {i:Nat} {n:Str} {m:Str->Option Value} {v:Option Value} {t':Nat} (I:Inv X pins σ H s) (hN:X.N.Nodup) (hi:X.N[i]?=some n)
  (hm:∀ (i:Nat) (x:Str) (v:V),X.N[i]?=some x->σ[i]?=some (some v)->Vis X.env.scope x->∃ u,a1u v u/\Look X.env s.heap m x u)
  (hns:h'.Ns X.env.locals (λx=>if x=n then v else m x)) (hs:Heap.SameBut X.env.locals s.heap h'):Inv X pins (σ.set i none) H { s with heap:=h',toks:=t' }:=by
 have k:∀ b o,b≠X.env.locals->s.heap.get? b=some o->h'.get? b=some o:=λb o ne e=>(hs.2 b ne).trans e;have neL:∀ b o,X.s₀.heap.get? b=some o->b≠X.env.locals:=λb o e=>Nat.ne_of_lt (Nat.lt_of_lt_of_le (Heap.lt_size e) I.ok.above);have cellM:∀ x c,X.env.cells.lookup x=some c->∀ v,s.heap.IsCell c v->h'.IsCell c v:=λx c e v ⟨o,ho,hd⟩=>⟨o,k c o (I.cne x c e) ho,hd⟩
 refine ⟨I.ok,I.os,I.bare,⟨λb o e n hb hx=>?_,λb o e n hb hx=>?_,I.base.free,λb o e hx=>?_,I.base.tups,I.base.frzs,I.base.tbls⟩,⟨_,hns,λj x w e1 e2 e3=>?_⟩,λx c e=>?_,I.free,I.freeC,λp hp=>?_,λb u e=>?_,?_⟩
 ·exact k b o (neL b o e) (I.base.keep b o e n hb hx)
 ·obtain ⟨sl,q⟩:=I.base.slot b o e n hb hx;exact ⟨sl,k b _ (neL b o e) q⟩
 ·obtain ⟨o',q⟩:=I.base.there b o e hx;exact ⟨o',k b _ (neL b o e) q⟩
 ·have hji:j≠i:=λz=>by
   subst z;rw [List.getElem?_set] at e2;split at e2
   ·split at e2 <;> cases e2
   ·contradiction
  rw [List.getElem?_set_ne (Ne.symm hji)] at e2;have hxn:x≠n:=λz=>hji (a4B hN (z▸e1) hi);obtain ⟨u,r,l⟩:=hm j x w e1 e2 e3;refine ⟨u,r,?_⟩;rcases l with ⟨l1,l2⟩ | ⟨l1,c,e,z⟩
  ·exact .inl ⟨l1,by show (if x=n then v else m x)=some u;rw [if_neg hxn];exact l2⟩
  ·exact .inr ⟨l1,c,e,cellM x c e _ z⟩
 ·obtain ⟨v,z⟩:=I.cell x c e;exact ⟨v,cellM x c e v z⟩
 ·obtain ⟨e,n',ne,nf,d⟩:=I.pin p hp;exact ⟨k _ _ ne e,n',ne,nf,d⟩
 ·refine (I.hok b u e).stay (λc v hc q=>k c v (λz=>?_) q) (λ_ q=>q) λ_ _ q=>q;rcases hc with rfl | hc
  ·rw [z,I.free] at e;cases e
  ·rw [z,I.free] at hc;cases hc
 ·rw [List.length_set];exact I.len
end
def b1h (ea C:Addr) (od:Option Addr):HO:=.ext λh=>∃ oe vs,h.get? ea=some oe/\oe.cls=.ref C/\oe.dict=od/\oe.data=.fields vs
structure Hcl (K:PySem.W.Frag) (D:Addr):Prop where
 ty:PySem.W.typeIn K (.ref D)=some (.type "type")
 cl:(PySem.W.clsIn K D).isSome=true
 be:PySem.W.subIn K (.ref D) (.type "BaseException")=some true
theorem a3P {K:PySem.W.Frag} {M:Model} {A:Around} {E:Value->Shared->Prop} {s:Shared} {ea C D:Addr} {oe:Obj} {Q:Bool->Shared->Prop} (X:K.In s.heap) (he:s.heap.get? ea=some oe) (hc:oe.cls=.ref C) (hD:Hcl K D)
  (sb:PySem.W.subIn K (.ref C) (.ref D)=some true) (h:Q true s):wpAny M A (excMatches (.ref ea) (.ref D)) Q E s:=by
 obtain ⟨hp,g,d,tk,os⟩:=s;have L1:PySem.W.Looks M hp (typeOf (.ref D)) (.type "type"):=PySem.W.looks_typeIn X hD.ty;have L2:PySem.W.Looks M hp (isType (.ref D)) true:=by
  have q:=hD.cl;unfold PySem.W.clsIn at q;split at q
  ·rename_i ho;intro A' Q' E' s' k q;unfold isType loadHead;exact wpAny_bind (wpAny_loadPart (k _ _ (X _ _ ho)) (wpAny_pure q))
  ·cases q
 have L3:PySem.W.Looks M hp (isSubtype (.ref D) (.type "BaseException")) true:=PySem.W.looks_subIn X hD.be;have L4:PySem.W.Looks M hp (isSubtype (.ref C) (.ref D)) true:=PySem.W.looks_subIn X sb;have L5:PySem.W.Looks M hp (typeOf (.ref ea)) (.ref C):=hc▸(PySem.W.Looks.ld he).andThen .now;have L6:PySem.W.Looks M hp (isSubtype (.type "type") (.type "tuple")) false:=.of_pure tc_notTuple;unfold excMatches isInstance
 repeat (first | with_reducible refine PySem.W.Looks.at (by assumption) ?_ | wp_step)
 exact h
def a3Q (X:Cx) (Ex:St->XK):Prop:=∀ (pins:List (Addr × Obj)) (σ:St) (H:Hp) (s:Shared) (e:Value) (s':Shared),Inv X pins σ H s->CXF X.prog X.w X.stack H s (Ex σ) e s'->X.xe e s'
def tTry (K:PySem.W.Frag) (D:Addr) (i:Nat) (tb:(St->XK)->TS) (ts:TS):TS:=λG σ H=>tb (λσ' cls od H'=>∃ C,cls=.ref C/\PySem.W.subIn K (.ref C) (.ref D)=some true /\
 ∀ ea,H' ea=none->ts { G with nx:=λσ2 H2=>G.nx (σ2.set i none) H2,bk:=λ_ _=>False,ct:=λ_ _=>False } (σ'.set i (some (.ref ea))) (upd H' ea (b1h ea C od))) G σ H
theorem ps_try {X:Cx} {body suite:List Stmt} {b₀:Stmt} {c n:Str} {D:Addr} {i:Nat} {np hpos pos:Pos} {tb:(St->XK)->TS} {ts:TS} (hc:X.calm=true) (hfrm:X.stack=X.env :: X.outer/\X.env.frame=some X.env.locals)
  (hb:∀ (pn:List (Addr × Obj)) (xe:Value->Shared->Prop) (Ex:St->XK),a3Q (X.tryx pn xe) Ex->PSs (X.tryx pn xe) body (tb Ex)) (hs:∀ ea,PSs (X.hand ea) (b₀ :: suite) ts)
  (hN:X.N.Nodup) (hi:X.N[i]?=some n) (hn:X.env.scope.names.lookup n=some .local) (hg:Gl X c) (hm:X.mg c=some (.ref D)) (hD:Hcl X.K D) (hdb:(c == ("__debug__":Str))=false:=by decide) :
  PS X (.Try body [.ExceptHandler (some (.Name c np)) (some n) (b₀ :: suite) hpos] [] [] pos) (tTry X.K D i tb ts):=by
 intro pins s σ H G I h;refine wpAny_Try_except ?_;refine wpAny_mono (hb (X.pn++pins) (λe s₁=>wpAny (model X.prog X.w) X.A (noteFrame e X.env) (λ_ s₂=>wpAny (model X.prog X.w) X.A (setFlight e none) (λ_ s₃ =>
   wpAny (model X.prog X.w) X.A (handleBy e X.env [.ExceptHandler (some (.Name c np)) (some n) (b₀ :: suite) hpos]) (SP X pins G) X.xe s₃) X.xe s₂) X.xe s₁) _ ?_ [] s σ H G (I.tryx _) h) (λfl s1 q=>?_) λ_ _ z=>z
 ·intro pins' σ1 H1 s1 e s' I1 hx;obtain ⟨ea,cls,od,S,H',rfl,os,bare,un,hok,lo,hS,C,rfl,sb,q⟩:=hx;have J1:Inv X pins σ1 H1 s1:=I1.untryx I.ok;have J2:Inv X pins σ1 H' s':=J1.call' (ch:=[]) os un hok bare (λb z=>absurd z (by simp));show wpAny _ _ (noteFrame (.ref ea) X.env) _ _ s';have st:=J2.stack;rw [hfrm.1] at st;have hfr:=I.ok.frames;rw [hfrm.1] at hfr;refine a5T hfr st hfrm.2 lo λh3 T m3 hs3 hT x3 t3=>?_;rw [<-hfrm.1] at m3;have J3:Inv X pins σ1 H' { s' with heap:=h3,toks:=s'.toks }:=J2.moved (S:=S) m3 λb hb=>⟨J1.off (hS b hb).1,(hS b hb).2⟩
  have oE:=J1.off (hS ea lo.1).1;have nE:=(hS ea lo.1).2;obtain ⟨oe,vs,he,hcls,hdd,hd1,h1⟩:=id x3;refine wpAny_handleBy_cons (codeAny_handlers_test ?_) (by intro z;cases z);refine a2S (X:=X.hand ea) (J3.hand ea) hg hm ?_ hdb;refine a3P (K:=X.K) J3.kIn he hcls hD sb (codeAny_handlers_suite_as ?_);refine a3O (s:={ s' with heap:=h3,toks:=s'.toks }) x3 t3 hT λh4 m4 x4 t4 k4=>?_;have J4:Inv X pins σ1 H' { s' with heap:=h4,toks:=s'.toks }:=J3.moved (S:=[T]) (λb o hb hn=>by
   have hbT:b≠T:=λz=>hn (by rw [z];exact List.mem_cons_self);have z:=(k4 b hbT).trans hb;exact ⟨λ_=>z,o.slots,z⟩) λb hb=>by
    rw [List.mem_singleton.mp hb];exact ⟨J2.off (Heap.get?_none_of_le hs3),J2.hok.fresh hs3⟩
  have nf:ea∉X.fs:=λz=>by
   obtain ⟨_,o,ho,_⟩:=I.ok.funs.mem z;exact I.ok.exfs ea (oE.1 o ho) z
  obtain ⟨oe4,vs4,he4,hcls4,hdd4,hd14,h14⟩:=id x4;have J5:Inv X pins σ1 (upd H' ea (b1h ea C od)) { s' with heap:=h4,toks:=s'.toks }:=J4.track oE nE ⟨oe4,vs4,he4,hcls4,hdd4,hd14⟩ ⟨oe4,he4⟩ (λg1 g2 ⟨o,v,q1,q2⟩ k=>⟨o,v,k o q1,q2⟩) nf;refine a3z (X:=X.hand ea) (J5.hand ea) hN hi (.inl hn) (v:=.ref ea) rfl (λs6 J6 _=>?_) (.inr hn);refine wpAny_mono (hs ea pins s6 _ _ _ J6 (q ea nE)) (λf s7 z=>?_) λ_ _ z=>z.elim;have fin:∀ {σ7:St} {H7:Hp} {R:Shared->Prop},Inv (X.hand ea) pins σ7 H7 s7->(∀ s8,Inv X pins (σ7.set i none) H7 s8->R s8)->wpAny (model X.prog X.w) X.A (do bindName X.env n .none;unbindBehindTheSuite X.env n hpos) (λ_ s8=>R s8) X.xe s7:=λ{σ7 H7 R} J7 k=>by
   have J7':=J7.unhand I.ok;obtain ⟨m,hn7,hl7⟩:=id J7'.loc;exact wpAny_nameGoes_keeps hn hn7 (by rw [I.ok.kind];rfl) λh' v hns hsb=>k _ (J7'.unbind hN hi hl7 hns hsb)
  cases f with
  | next =>
   obtain ⟨σ7,H7,J7,z⟩:=z;exact fin (R:=SP X pins G .next) J7 λs8 J8=>⟨_,H7,J8,z⟩
  | brk =>
   obtain ⟨σ7,H7,J7,z⟩:=z;exact z.elim
  | cont =>
   obtain ⟨σ7,H7,J7,z⟩:=z;exact z.elim
  | ret u =>
   obtain ⟨v,σ7,H7,J7,r,z⟩:=z;exact fin (R:=SP X pins G (.ret u)) J7 λs8 J8=>⟨v,_,H7,J8,r,z⟩
 ·cases fl with
  | next =>
   obtain ⟨σ',H',J,z⟩:=q;exact wpAny_execs_nil ⟨σ',H',J.untryx I.ok,z⟩
  | brk =>
   obtain ⟨σ',H',J,z⟩:=q;exact ⟨σ',H',J.untryx I.ok,z⟩
  | cont =>
   obtain ⟨σ',H',J,z⟩:=q;exact ⟨σ',H',J.untryx I.ok,z⟩
  | ret u =>
   obtain ⟨v,σ',H',J,r,z⟩:=q;exact ⟨v,σ',H',J.untryx I.ok,r,z⟩
structure Ek (K:PySem.W.Frag) (C:Addr):Prop where
 cl:(PySem.W.clsIn K C).isSome=true
 ga:PySem.W.findIn K (.ref C) "__getattribute__"=some (some (.builtin "BaseException.__getattribute__"))
 gt:PySem.W.findIn K (.ref C) "__getattr__"=some none
 ca:PySem.W.findIn K (.ref C) "__class__"=some (some (.builtin "object.__class__"))
 be:PySem.W.subIn K (.ref C) (.type "BaseException")=some true
 ob:PySem.W.mroIn K C (.type "object")=some true
 cg:PySem.W.specialIn K (.builtin "object.__class__") "__get__"=some (some (.builtin "getset_descriptor.__get__"))
 ct:PySem.W.takesIn K (.builtin "object.__class__")=some true
section
variable {K:PySem.W.Frag} {prog:Program} {w:World} {A:Around} {E:Value->Shared->Prop} {s:Shared} {x C:Addr} {ox:Obj} {od:Option Obj} {name:Str} {tk:Tok}
theorem a8j {M:Model} {nv:Value} {Q:Unit->Shared->Prop} (X:K.In s.heap) (I:PySem.W.InstAt s.heap x ox C od) (G:Ek K C) (h:Q () s):wpAny M A (checkBuiltinCall "BaseException.__getattribute__" ⟨[.ref x,nv],[]⟩) Q E s:=by
 obtain ⟨hp,g,d,t,os⟩:=s;have hk:builtinKind "BaseException.__getattribute__"=some .slot:=by decide +kernel
 have hsplit:splitId "BaseException.__getattribute__"=some ("BaseException","__getattribute__"):=by decide +kernel
 have L0:=I.type (M:=M);have L1:PySem.W.Looks M hp (isSubtype (.ref C) (.type "BaseException")) true:=PySem.W.looks_subIn X G.be;have ha:=PySem.F.args_bexc_ga (.ref x) nv;simp only [checkBuiltinCall,hk,hsplit];refine wpAny_bind ?_;unfold isInstance
 repeat (first | with_reducible refine PySem.W.Looks.at (by assumption) ?_ | wp_step)
 exact h
theorem exc_by {fill expr:Bool} {Q:Value->Shared->Prop} (X:K.In s.heap) (I:PySem.W.InstAt s.heap x ox C od) (G:Ek K C)
  (h:wpAny (model prog w) A.in1 (Builtin.«object.__getattribute__» ⟨[.ref x,.str name tk],[]⟩) (λfin s'=>match fin with | .done (.ret v)=>PySem.W.handedIn v=true/\Q v s' | .again c'=>c'.quiet=true/\codeAny (model prog w) A c' (λr s''=>match r with | .ok (.ret v)=>PySem.W.handedIn v=true/\Q v s'' | _=>False) s' | _=>False) (λ_ _=>False) s) :
  wpAny (model prog w) A (getAttrBy (.ref x) (.str name tk) fill expr) Q E s:=by
 obtain ⟨hp,g,d,t,os⟩:=s;have L0:=I.type (M:=model prog w);have L1:PySem.W.Looks (model prog w) hp (typeLookup (.ref C) "__getattribute__") (some (.builtin "BaseException.__getattribute__")):=PySem.W.looks_findIn X G.ga;have L2:PySem.W.Looks (model prog w) hp (typeLookup (.ref C) "__getattr__") none:=PySem.W.looks_findIn X G.gt;have f3:=PySem.F.attr_ValueError.ga.bind (.ref x);unfold getAttrBy;refine wpAny_holding (wpAny_bind (L0.at (wpAny_bind (L1.at ?_))));show wpAny _ _ (if (onTheHeap (.ref C) && Value.builtin "BaseException.__getattribute__" == .builtin "object.__getattribute__")=true then _ else _) _ _ _;have hb:(onTheHeap (Value.ref C) && Value.builtin "BaseException.__getattribute__" == Value.builtin "object.__getattribute__")=false:=by
  show (true && Value.builtin "BaseException.__getattribute__" == Value.builtin "object.__getattribute__")=false;decide +kernel
 rw [hb,if_neg Bool.false_ne_true];unfold getAttrByItsOwn;refine wpAny_bind ?_;show wpAny _ _ (typeLookup (.ref C) "__getattr__") _ _ _;refine L2.at ?_;refine wpAny_bind (wpAny_attempt (wpAny_holding ?_));unfold callGetattribute;rw [if_neg (by cases expr <;> decide)];unfold boundAndCalled;refine wpAny_bind (wpAny_of_eq f3 ?_);show wpAny _ _ (call (.builtin "BaseException.__getattribute__") [.ref x,.str name tk]) _ _ _;refine wpAny_call (codeAny_call_builtin PySem.F.attr_ValueError.ga.plain PySem.F.entry_bexc_ga (a8j X I G ?_));refine wpAny_mono h (λfin s' z=>?_) λ_ _ z=>z.elim;rcases fin with fl | c'
 ·cases fl with
  | ret v =>
   obtain ⟨z1,z2⟩:=z;show wpAny _ _ (handedOut v) _ _ _;exact PySem.W.handed_on z1 z2
  | _=>exact z.elim
 ·refine ⟨z.1,codeAny_mono z.2 λr s'' y=>?_⟩;rcases r with _ | fl
  ·exact y.elim
  ·cases fl with
   | ret v =>
    obtain ⟨z1,z2⟩:=y;show wpAny _ _ (handedOut v) _ _ _;exact PySem.W.handed_on z1 z2
   | _=>exact y.elim
theorem a8k {Q:Option Value->Shared->Prop} (X:K.In s.heap) (I:PySem.W.InstAt s.heap x ox C od) (G:Ek K C) (h:Q (some (.ref C)) { s with toks:=s.toks+1 }):wpAny (model prog w) A (getAttr? (.ref x) "__class__") Q E s:=by
 obtain ⟨hp,g,d,t,os⟩:=s;have hf:PySem.W.findObj K C od "__class__"=some (.bind (.builtin "getset_descriptor.__get__") (.builtin "object.__class__")):=by
  obtain ⟨cd,hc⟩:=Option.isSome_iff_exists.mp G.cl;unfold PySem.W.findObj;rw [hc,Option.bind_some,G.ca,Option.bind_some];simp [G.cg,G.ct]
 have L0:=I.type (M:=model prog w);have L1:=PySem.W.looks_find (M:=model prog w) X I hf;unfold getAttr? getAttrBy?;refine wpAny_bind (wpAny_mkText (wpAny_bind (wpAny_attempt ?_)));refine exc_by (s:=⟨hp,g,d,t+1,os⟩) X I G ?_;unfold Builtin.«object.__getattribute__»
 repeat (first | with_reducible refine PySem.W.Looks.at (by assumption) ?_ | wp_step)
 exact PySem.W.class_get (s:=⟨hp,g,d,t+1,os⟩) X I G.ob (wpAny_pure ⟨rfl,wpAny_pure h⟩)
end
def b1i (K:PySem.W.Frag) (C:Addr):Bool :=
 PySem.W.typeIn K (.ref C) == some (.type "type") && (PySem.W.clsIn K C).isSome && PySem.W.subIn K (.ref C) (.type "BaseException") == some true &&
 PySem.W.findIn K (.ref C) "__getattribute__" == some (some (.builtin "BaseException.__getattribute__")) && PySem.W.findIn K (.ref C) "__getattr__" == some none && PySem.W.findIn K (.ref C) "__class__" == some (some (.builtin "object.__class__")) &&
 PySem.W.mroIn K C (.type "object") == some true && PySem.W.specialIn K (.builtin "object.__class__") "__get__" == some (some (.builtin "getset_descriptor.__get__")) && PySem.W.takesIn K (.builtin "object.__class__") == some true &&
 PySem.W.subIn K (.ref C) (.ref C) == some true && PySem.W.subIn K (.ref C) (.type "ValueError") == some true
structure XC (K:PySem.W.Frag) (C:Addr):Prop where
 h:Hcl K C
 e:Ek K C
 sf:PySem.W.subIn K (.ref C) (.ref C)=some true
 ve:PySem.W.subIn K (.ref C) (.type "ValueError")=some true
theorem XC.of {K:PySem.W.Frag} {C:Addr} (q:b1i K C=true):XC K C:=by
 unfold b1i at q;simp only [Bool.and_eq_true,beq_iff_eq] at q;obtain ⟨⟨⟨⟨⟨⟨⟨⟨⟨⟨q1,q2⟩,q3⟩,q4⟩,q5⟩,q6⟩,q7⟩,q8⟩,q9⟩,q10⟩,q11⟩:=q;exact ⟨⟨q1,q2,q3⟩,⟨q2,q4,q5,q6,q3,q7,q8,q9⟩,q10,q11⟩
section
variable {K:PySem.W.Frag} {C D:Addr}
theorem b0f (hD:Hcl K D) (sb:PySem.W.subIn K (.ref C) (.ref D)=some true):PySem.W.kitOne K (.ref C) (.ref D)=some true:=by
 unfold PySem.W.kitOne;split
 ·rfl
 ·unfold PySem.W.kitCls;dsimp only;rw [if_pos (by rw [hD.cl,hD.ty];rfl)];exact sb
theorem a3r (hC:XC K C) (hD:Hcl K D) (sb:PySem.W.subIn K (.ref C) (.ref D)=some false):PySem.W.kitOne K (.ref C) (.ref D)=some false:=by
 unfold PySem.W.kitOne;split
 ·rename_i z;have z':=beq_iff_eq.mp z;rw [<-z',hC.sf] at sb;cases sb
 ·unfold PySem.W.kitCls;dsimp only;rw [if_pos (by rw [hD.cl,hD.ty];rfl)];exact sb
theorem kit_ve (hC:XC K C):PySem.W.kitOne K (.ref C) (.type "ValueError")=some true:=by
 unfold PySem.W.kitOne;rw [if_neg (by intro z;cases beq_iff_eq.mp z)];unfold PySem.W.kitCls;dsimp only;rw [if_pos (show PySem.W.kitMeta "ValueError"=true by decide +kernel)];exact hC.ve
theorem a6t {x:Addr} (G:Ek K C):PySem.W.KitX K (.ref x) (.ref C) (λh=>∃ ox od,PySem.W.InstAt h x ox C od) where
 ty:=λ_ _ _ ⟨_,_,I⟩=>I.type
 it:=λ_ _ X _=>by
  have q:=G.cl;unfold PySem.W.clsIn at q;split at q
  ·rename_i ho;intro A' Q' E' s' k q;unfold isType loadHead;exact wpAny_bind (wpAny_loadPart (k _ _ (X _ _ ho)) (wpAny_pure q))
  ·cases q
 ne:=λh tp dd its n sl X htp=>by
  refine Bool.eq_false_iff.mpr λz=>?_;have e:C=tp:=Value.ref.inj (beq_iff_eq.mp z);subst e;have q:=G.cl;unfold PySem.W.clsIn at q;split at q
  ·rename_i ho;have z:=(X _ _ ho).symm.trans htp;cases z
  ·cases q
 ca:=λX ⟨_,_,I⟩ k=>a8k X I G k
end
def rIsiE (K:PySem.W.Frag):List V->Hp->VK->Prop:=λxs H Q=>∃ ea C od c b,xs=[.ref ea,c]/\H ea=some (b1h ea C od)/\Ek K C/\(od=none\/∃ dx fs,od=some dx/\H dx=some (.xd fs)) /\
 ((∃ D,c=.ref D/\PySem.W.kitOne K (.ref C) (.ref D)=some b)\/∃ T,c=.ty T/\PySem.W.kitOne K (.ref C) (.type T)=some b)/\Q (.bl b) H
theorem b2t {X:Cx} {pins:List (Addr × Obj)} {σ:St} {H:Hp} {s:Shared} {ea C:Addr} {od:Option Addr} (I:Inv X pins σ H s) (h:H ea=some (b1h ea C od)) (hd:od=none\/∃ dx fs,od=some dx/\H dx=some (.xd fs)) :
  ∃ ox o,PySem.W.InstAt s.heap ea ox C o:=by
 obtain ⟨⟨oe,vs,he,hc,hdd,hdt⟩,_,_⟩:=I.hok ea _ h;rcases hd with rfl | ⟨dx,fs,rfl,hx⟩
 ·exact ⟨oe,none,he,hc,by unfold PySem.W.notCls;rw [hdt],by rw [hdd];trivial⟩
 ·obtain ⟨ob,hob⟩:=(I.hok dx _ hx).obj;exact ⟨oe,some ob,he,hc,by unfold PySem.W.notCls;rw [hdt],by rw [hdd];exact hob⟩
theorem isiE {X:Cx} (K:PySem.W.Frag) (hK:X.K=K:=by rfl):a2W X (.builtin "isinstance") (rIsiE K):=by
 subst hK;intro pins s σ H xs us Q I r h;obtain ⟨ea,C,od,c,b,rfl,he,G,hd,hc,q⟩:=h;obtain ⟨u,v,rfl,r1,r2⟩:=r.two;cases r1;obtain ⟨ox,o,IA⟩:=b2t I he hd;rcases hc with ⟨D,rfl,e⟩ | ⟨T,rfl,e⟩
 ·cases r2;exact PySem.W.kia_one (a6t G) I.kIn ⟨ox,o,IA⟩ e (λz=>nomatch z) λtk=>⟨.bl b,H,I.tok tk,rfl,q⟩
 ·cases r2;exact PySem.W.kia_one (a6t G) I.kIn ⟨ox,o,IA⟩ e (λz=>nomatch z) λtk=>⟨.bl b,H,I.tok tk,rfl,q⟩
theorem b_VE:bootBuiltins "ValueError"=some (.type "ValueError"):=by decide +kernel
structure a7b (P:Program) (w:World) (K:PySem.W.Frag) (mg:Str->Option Value) (base:Heap) (ps:List Str) (name:Str) (sp:Sp) (k:Nat) where
 g:Addr
 gd:FuncData
 ok:a1a P w K mg base (CXF P w) k g gd ps sp
 b:a1X K gd ps []
 kp:PySem.W.keepIn K (.ref g)=true
 m:mg name=some (.ref g)
def a7b.up {P:Program} {w:World} {K:PySem.W.Frag} {mg:Str->Option Value} {base:Heap} {ps:List Str} {name:Str} {sp:Sp} {j k:Nat} (f:a7b P w K mg base ps name sp j) (h:j<=k):a7b P w K mg base ps name sp k:=⟨f.g,f.gd,f.ok.mono h,f.b,f.kp,f.m⟩
section
variable {X:Cx}
def tFmt (tv:TE):TE:=λσ H Q=>tv σ H λv H1=>(∃ z,v=.str z/\z.length<=sizeLine/\Q (.str z) H1)\/∃ i,v=.int i/\i.natAbs.log2 < 1920/\Q (.str (toString i)) H1
theorem a6u {value:Expr} {pos:Pos} {tv:TE} (hv:PE X value tv):PE X (.FormattedValue value (-1) none pos) (tFmt tv):=by
 intro pins s σ H Q I h;refine FormattedValue_plain (thn (hv pins s σ H _ I h) λv s1 ⟨x,H1,I1,r1,q1⟩=>?_);rcases q1 with ⟨z,rfl,hz,q⟩ | ⟨i,rfl,hi,q⟩
 ·obtain ⟨t,rfl⟩:=r1;exact formatField_str (λt' tk=>⟨.str z,H1,I1.tok _,⟨_,rfl⟩,q⟩) hz
 ·obtain ⟨t,rfl⟩:=r1;exact formatField_int_small hi ⟨.str _,H1,I1.tok _,⟨_,rfl⟩,q⟩
abbrev TJ:=Str->TE
def PJ (X:Cx) (es:List Expr) (t:TJ):Prop:=∀ (out:Str) (pins:List (Addr × Obj)) (s:Shared) (σ:St) (H:Hp) (Q:VK),Inv X pins σ H s->t out σ H Q->wpAny (model X.prog X.w) X.A (joinParts out (evalEach es X.env)) (EP X pins σ Q) X.xe s
def tJ0:TJ:=λout σ H Q=>out.length<=sizeLine/\Q (.str out) H
def tJ1 (te:TE) (tj:TJ):TJ:=λout σ H Q=>te σ H λv H1=>∃ z,v=.str z/\(out++z).length<=sizeLine/\tj (out++z) σ H1 Q
theorem b1j:PJ X [] tJ0:=λout pins s σ H Q I h=>joinParts_nil ⟨.str out,H,I.tok _,⟨_,rfl⟩,h.2⟩ h.1
theorem a1S {e:Expr} {es:List Expr} {te:TE} {tj:TJ} (he:PE X e te) (hj:PJ X es tj):PJ X (e :: es) (tJ1 te tj):=by
 intro out pins s σ H Q I h;show wpAny _ _ (joinParts out (eval e X.env :: evalEach es X.env)) _ _ _;refine joinParts_cons (thn (he pins s σ H _ I h) λv s1 ⟨x,H1,I1,r1,q1⟩=>?_);obtain ⟨z,rfl,hz,q⟩:=q1;obtain ⟨t,rfl⟩:=r1;exact ⟨hz,hj _ pins s1 σ H1 Q I1 q⟩
theorem a5t {v1 v2:Expr} {rest:List Expr} {pos:Pos} {t:TJ} (h:PJ X (v1 :: v2 :: rest) t):PE X (.JoinedStr (v1 :: v2 :: rest) pos) (t Str.empty):=by
 intro pins s σ H Q I hq;exact JoinedStr_many (h Str.empty pins s σ H Q I hq)
theorem a5u:∀ {zs:List Str} {its:List Value},a0U (zs.map V.str) its->∃ l:List (Str × Tok),its=strValues l/\l.map (·.1)=zs
 | [],_,.nil=>⟨[],rfl,rfl⟩
 | z :: zs,_,.cons ⟨t,e⟩ r=>by
  obtain ⟨l,e1,e2⟩:=a5u r;exact ⟨(z,t) :: l,by rw [e,e1];rfl,by rw [List.map_cons,e2]⟩
theorem a5v:∀ l:List (Str × Tok),a0U ((l.map (·.1)).map V.str) (strValues l)
 | []=>.nil
 | (z,t) :: l=>.cons ⟨t,rfl⟩ (a5v l)
def rJoin:V->List V->Hp->VK->Prop:=λx vs H Q=>∃ (sep:Str) (l:Addr) (zs:List Str) (B:Nat),x=.str sep/\vs=[.ref l]/\H l=some (.lst (zs.map V.str))/\(∀ z∈zs,z.length<=B)/\zs.length * B+zs.length * sep.length<=16777216/\Q (.str (Str.join sep zs)) H
theorem a8l:MtM X "str.join" rJoin:=by
 intro pins s σ H x vs v us Q I rx rv h;obtain ⟨sep,l,zs,B,rfl,rfl,hH,hB,hz,q⟩:=h;obtain ⟨t,rfl⟩:=rx;obtain ⟨u,rfl,ru⟩:=rv.one;cases ru;obtain ⟨z,its,n,r,hl,e⟩:=I.lstM hH;obtain ⟨ps,rfl,hp⟩:=a5u r;have fit:=StrLaws.joinFits hB hz;have fl:=joinFit_length fit;rw [<-hp] at fit fl;refine call_meets F.slot_str_join (typeIs_str _ _ _) F.entry_str_join (F.args_str_join_2 _ _) (meets_str_join_list sep t l ps fit) ⟨⟨_,e,rfl,n,rfl⟩,?_⟩;rw [<-hp,<-StrLaws.glued_eq_join] at q
 match ps,q with
 | [],q=>exact ⟨fl,.str _,H,I.tok _,⟨_,rfl⟩,q⟩
 | [p],q =>
  have e1:Builtin.Str.glued sep ([p].map (·.1))=p.1:=by rw [StrLaws.glued_eq_join];rfl
  rw [e1] at q;exact ⟨.str p.1,H,I,⟨_,rfl⟩,q⟩
 | p :: p2 :: r,q=>exact ⟨fl,.str _,H,I.tok _,⟨_,rfl⟩,q⟩
def rSplit:V->List V->Hp->VK->Prop:=λx vs H Q=>∃ z y:Str,x=.str z/\vs=[.str y]/\(y.length == 0)=false/\z.length+2<=sizeLine/\∀ p,H p=none->Q (.ref p) (upd H p (.lst ((Txt.split z y).map V.str)))
theorem a4J:MtM X "str.split" rSplit:=by
 intro pins s σ H x vs v us Q I rx rv h;obtain ⟨z,y,rfl,rfl,hy,hz,q⟩:=h;obtain ⟨t,rfl⟩:=rx;obtain ⟨w',rfl,ru⟩:=rv.one;obtain ⟨u,rfl⟩:=ru;have fin:∀ (l:List (Str × Tok)) (k:Nat),l.map (·.1)=Txt.split z y->EP X pins σ Q (.ref s.heap.objs.size) { s with toks:=k,heap:=s.heap.push { cls:=.type "list",data:=.seq (strValues l).toArray } }:=λl k e=>by
  have r:=a5v l;rw [e] at r;exact ⟨.ref _,_,I.lnew (t':=k) r (by
   rw [List.length_map];have:=split_le z y;omega),rfl,q _ I.fresh⟩
 have hn:(Builtin.Str.partsBetween z (Builtin.Str.occurrences z y 0 z.length (z.length+1)) y.length).length<=sizeLine:=by
  have e1:=StrLaws.occ_length_le z y 0 z.length (z.length+1);rw [length_partsBetween];omega
 cases h1:(decide (z.length < y.length) || decide (Builtin.Str.strKind z < Builtin.Str.strKind y))
 ·cases hf:(Builtin.Str.occurrences z y 0 z.length (z.length+1)).isEmpty
  ·refine call_meets F.slot_str_split (typeIs_str _ _ _) F.entry_str_split (F.args_str_split_2 _ _) (meets_str_split_sep z y t u h1 hy hf (by omega) hn) ?_;show wants _ _ _ { s with toks:=_,heap:=s.heap.push { cls:=.type "list",data:=.seq (strsFrom s.toks (Builtin.Str.partsBetween z (Builtin.Str.occurrences z y 0 z.length (z.length+1)) y.length)).toArray } };rw [strsFrom_eq];exact fin (numbered s.toks _) _ ((numbered_texts _ _).trans ((if_neg (ne_true_of_eq_false h1)).trans (if_neg (ne_true_of_eq_false hf))).symm)
  ·exact call_meets F.slot_str_split (typeIs_str _ _ _) F.entry_str_split (F.args_str_split_2 _ _) (meets_str_split_not_found z y t u h1 hy hf) (fin [(z,t)] s.toks ((if_neg (ne_true_of_eq_false h1)).trans (if_pos hf)).symm)
 ·exact call_meets F.slot_str_split (typeIs_str _ _ _) F.entry_str_split (F.args_str_split_2 _ _) (meets_str_split_cannot_occur z y t u h1) (fin [(z,t)] s.toks (if_pos h1).symm)
def rIntS:List V->Hp->VK->Prop:=λxs H Q=>∃ (z:Str) (n:Int),xs=[.str z]/\PySem.intText? z=some n/\z.length<=640/\Q (.int n) H
theorem a1R:a2W X (.type "int") rIntS:=by
 intro pins s σ H xs us Q I r h;obtain ⟨z,n,rfl,hn,hl,q⟩:=h;obtain ⟨u,rfl,t,rfl⟩:=a3q r;exact PySem.W.KIN.call_text hn hl ⟨.int n,H,I.tok _,⟨_,rfl⟩,q⟩
end
def Asc (z:Str):Prop:=z.cps.all (· < 128)=true
def Its (z:Str):It:=⟨λi _=>i < z.cps.size,λi H x H'=>H'=H/\∃ c,z.cps[i]?=some c/\x=.str ⟨#[c]⟩,λi _=>z.cps.size<=i⟩
theorem b0g {P:Program} {w:World} {K:PySem.W.Frag} {tg:Expr} (z:Str) (t:Tok) (it:Addr):b0W P w K tg (Its z) [it] it (λi h=>h.IsStrIter it "str_ascii_iterator" z t i) where
 mem:=by simp
 obj:=λi h st b hb=>by
  have e:b=it:=by simpa using hb
  subst e;obtain ⟨o,e,c,d⟩:=st;exact ⟨o,e,λv z=>by rw [d] at z;cases z⟩
 keep:=λi h h' st k=>let ⟨o,ho,r⟩:=st;⟨o,k it (by simp) o ho,r⟩
 item:=by
  intro X hP hw hK hc i pins s σ H E I hf st hg;subst hP hw hK;obtain ⟨f0,f1,f2,f3,f4,f5⟩:=hf it (by simp);have hg:i < z.cps.size:=hg;refine wpAny_pyNext_ascii_item st (c:=z.cps[i]) (by simp [hg]) λh' st' sb=>?_;have I1:Inv X pins σ H { s with heap:=h',toks:=s.toks+1 }:=I.turned (t':=s.toks+1) (λb o hb e=>(sb.2 b hb).trans e) f0 f1 f3 f4 f5;obtain ⟨o,e,c,d⟩:=id st';exact ⟨_,rfl,a7B (s:={ s with heap:=h',toks:=s.toks+1 }) e c d (by decide) ⟨.str ⟨#[z.cps[i]]⟩,H,I1,⟨_,rfl⟩,⟨rfl,_,by simp [hg],rfl⟩,st',λb hb=>(hf b hb).1⟩⟩
 done:=by
  intro X hP hw hK hc i pins s σ H E I hf st hg;subst hP hw hK;obtain ⟨f0,f1,f2,f3,f4,f5⟩:=hf it (by simp);have hg:z.cps.size<=i:=hg;exact wpAny_pyNext_ascii_end (I.ok.hd hc) st (by simp [hg]) λh' eb=>⟨rfl,I.turned (t':=s.toks) (λb o hb e=>eb b o hb e) f0 f1 f3 f4 f5⟩
 self:=λ_ _ _ _ _ st h=>wpAny_pyIter_striter_ascii st h
section
variable {X:Cx} {tg:Expr}
def iStr (tl:TE):TI:=λσ H R=>tl σ H λx H1=>∃ z,x=.str z/\Asc z/\R (Its z) H1
theorem pi_str {l:Expr} {tl:TE} (hl:PE X l tl):PI X tg l (iStr tl):=by
 intro pins s σ H R I h;refine thn (hl pins s σ H _ I h) λv s1 ⟨x,H1,I1,r1,q1⟩=>?_;obtain ⟨z,e,ha,q⟩:=q1;subst e;obtain ⟨t,rfl⟩:=r1;refine wpAny_pyIter_ascii ha ?_;refine ⟨s1.heap.objs.size,[s1.heap.objs.size],_,_,H1,rfl,I1.kept (t':=s1.toks) λb o e=>Heap.get?_push_of_some _ e,b0g z t _,⟨_,Heap.get?_push_size _ rfl,rfl,rfl⟩,λb hb=>?_,q⟩;have e:b=s1.heap.objs.size:=by simpa using hb
 subst e;exact I1.fpOk (Nat.le_refl _) (I1.hok.fresh (Nat.le_refl _))
end
theorem b0h {z:Str} {k:Nat} {g:TG} {tc:TT} {te:TE} {σ:St} {H:Hp} {Q:VK} {d:Addr} (Pv:Nat->Hp->Prop) (h0:Pv 0 (upd H d (.lst [])))
  (hs:∀ i c H,z.cps.toList[i]?=some c->Pv i H->g (.str ⟨#[c]⟩) (List.replicate k none++σ) H λσ2 H2=>tc σ2 H2 λb H3=>if b=true then te σ2 H3 λy H4=>∃ ys,H4 d=some (.lst ys)/\ys.length < sizeLine/\Pv (i+1) (upd H4 d (.lst (ys++[y]))) else Pv (i+1) H3)
  (hd:∀ H,Pv z.cps.size H->Q (.ref d) H) :
  ∃ W:Nat->Nat->Hp->Prop,(∃ m,W 0 m (upd H d (.lst [])))/\∀ i m H,W i m H ->
   ((Its z).stop i H/\Q (.ref d) H)\/((Its z).go i H/\∃ N:Hp->Prop,(∀ H',N H'->∃ m',m' < m/\W (i+1) m' H')/\∀ x H',(Its z).yld i H x H'->g x (List.replicate k none++σ) H' λσ2 H2 =>
    tc σ2 H2 λb H3=>if b=true then te σ2 H3 λy H4=>∃ ys,H4 d=some (.lst ys)/\ys.length < sizeLine/\N (upd H4 d (.lst (ys++[y]))) else N H3):=by
 refine ⟨λi m H=>m=z.cps.size - i/\i<=z.cps.size/\Pv i H,⟨z.cps.size,by simp,Nat.zero_le _,h0⟩,?_⟩;rintro i m H ⟨rfl,hi,p⟩;by_cases hlt:i < z.cps.size
 ·refine .inr ⟨hlt,Pv (i+1),λH' p'=>⟨z.cps.size - (i+1),by omega,rfl,hlt,p'⟩,λx H' y=>?_⟩;obtain ⟨e,c,hc,y⟩:=y;subst e y;exact hs i c _ (by rw [Array.getElem?_toList];exact hc) p
 ·have e:i=z.cps.size:=by omega
  subst e;exact .inl ⟨Nat.le_refl _,hd H p⟩
def b0i (tl:TE) (tc:TT) (te:TE):TE:=λσ H Q=>tl σ H λv H1=>∃ z,v=.str z/\Asc z/\∀ d,H1 d=none ->
 ∃ Pv:Nat->Hp->Prop,Pv 0 (upd H1 d (.lst []))/\(∀ i c H,z.cps.toList[i]?=some c->Pv i H->a5S tc te σ d (.str ⟨#[c]⟩) H (Pv (i+1)))/\∀ H,Pv z.cps.size H->Q (.ref d) H
section
variable {X:Cx} {elt iter:Expr} {tg:Str} {tp:Pos} {cs:List Expr} {scope:Scope} {pos:Pos} {tc:TT} {te:TE} {M:List Str}
theorem a2q {tl:TE} (hc:X.calm=true) (S:a0l scope X.env X.N M) (nd:(tg :: M).Nodup) (hl:scope.names.lookup tg=some .local) (hi:PE X iter tl) (mo:a2L tl)
  (hin:a4G X scope tg M cs elt tc te) (hf:∀ x,foldedSetIterable iter X.env x=pure x:=by intro _;rfl):PE X (.ListComp elt [⟨.Name tg tp,iter,cs,0⟩] scope pos) (b0i tl tc te):=by
 refine a2M hc S nd hl (pi_str hi) hin (λσ H Q h=>?_) hf;refine mo σ H _ _ (λv H1 q=>?_) h;obtain ⟨z,e,ha,q⟩:=q;refine ⟨z,e,ha,λd hd=>?_⟩;obtain ⟨Pv,h0,hs,hd⟩:=q d hd;exact b0h (k:=1) (g:=a1E 0) Pv h0 hs hd
end
def SIt:Bool->Heap->Addr->Addr->Nat->Prop
 | true,h,i,l,n=>h.IsTupleIter i l n
 | false,h,i,l,n=>h.IsListIter i l n
def SAt:Bool->Heap->Addr->Array Value->Prop
 | true,h,l,xs=>h.IsTuple l xs
 | false,h,l,xs=>h.IsList l xs
theorem SIt.at {k:Bool} {h h':Heap} {i l:Addr} {n:Nat} (x:SIt k h i l n) (e:∀ o,h.get? i=some o->h'.get? i=some o):SIt k h' i l n:=by
 cases k with
 | true=>obtain ⟨o,ho,r⟩:=x;exact ⟨o,e o ho,r⟩
 | false=>obtain ⟨o,ho,r⟩:=x;exact ⟨o,e o ho,r⟩
theorem SIt.obj {k:Bool} {h:Heap} {i l:Addr} {n:Nat} (x:SIt k h i l n):∃ o,h.get? i=some o/\∀ v,o.data≠.cell v:=by
 cases k with
 | true=>obtain ⟨o,ho,_,d⟩:=x;exact ⟨o,ho,λv z=>by rw [d] at z;cases z⟩
 | false=>obtain ⟨o,ho,_,d⟩:=x;exact ⟨o,ho,λv z=>by rw [d] at z;cases z⟩
theorem SAt.at {k:Bool} {h h':Heap} {l:Addr} {xs:Array Value} (x:SAt k h l xs) (e:∀ o,h.get? l=some o->h'.get? l=some o):SAt k h' l xs:=by
 cases k with
 | true=>obtain ⟨o,ho,r⟩:=x;exact ⟨o,e o ho,r⟩
 | false=>obtain ⟨o,ho,r⟩:=x;exact ⟨o,e o ho,r⟩
section
variable {prog:Program} {w:World} {A:Around} {E:Value->Shared->Prop} {s:Shared} {k:Bool} {it l:Addr} {i:Nat} {xs:Array Value} {x:Value} {Q:Value->Shared->Prop}
theorem b0j (hit:SIt k s.heap it l i) (hl:SAt k s.heap l xs) (hx:xs[i]?=some x) (hQ:∀ h',SIt k h' it l (i+1)->Heap.SameBut it s.heap h'->Q x { s with heap:=h' }) :
  wpAny (model prog w) A (Builtin.SmallTypes.nextOf (.ref it)) Q E s:=by
 cases k with
 | false=>exact wpAny_nextOf_list_item hit hl hx hQ
 | true =>
  have hit':s.heap.IsTupleIter it l i:=hit;obtain ⟨o,ho,hc,hd⟩:=id hit';obtain ⟨ol,hol,_,nl,hdl⟩:=hl;unfold Builtin.SmallTypes.nextOf;refine wpAny_bind (wpAny_callSpecial?_slot (name:=Str.ofString "__next__") hit'.typeIs F.slot_tuple_iterator_next (wpAny_call_entry F.slot_tuple_iterator_next hit'.typeIs F.entry_tuple_iterator_next ?_ (F.args_tuple_iterator_next_1 _)));show wpAny _ _ (field (.ref it) 0 >>= _) _ _ s;refine wpAny_bind (wpAny_field ho hd (x:=.ref l) rfl ?_);show wpAny _ _ (if (Value.ref l == Value.none)=true then _ else _) _ _ s;rw [if_neg (show ¬ ((Value.ref l == Value.none)=true) from Bool.false_ne_true)];show wpAny _ _ (field (.ref it) 1 >>= _) _ _ s;refine wpAny_bind (wpAny_field ho hd (x:=.int i 0) rfl (show wpAny _ _ (seqItems? (.ref l) >>= _) _ _ s from wpAny_bind (wpAny_seqItems hol hdl ?_)));simp only [Int.toNat_natCast,hx];refine wpAny_bind (wpAny_setField ho hd (by simp) (wpAny_pure ⟨x,rfl,wpAny_pure (hQ _ ?_ (Heap.SameBut.update ..))⟩));exact ⟨_,Heap.get?_update_self _ ho (Obj.isFreed_of_fields (Obj.data_mapFields hd _)),(Obj.cls_mapFields ..).trans hc,by rw [Obj.data_mapFields hd];simp [rawInt]⟩
theorem endS (hh:A.handled=none) (hit:SIt k s.heap it l i) (hl:SAt k s.heap l xs) (hx:xs[i]?=none) (hE:∀ h' e,Heap.ExtBut it s.heap h'->(∃ o,h'.get? e=some o/\o.cls=.type "StopIteration")->E (.ref e) { s with heap:=h' }) :
  wpAny (model prog w) A (Builtin.SmallTypes.nextOf (.ref it)) Q E s:=by
 cases k with
 | false=>exact wpAny_nextOf_list_end hh hit hl hx hE
 | true =>
  have hit':s.heap.IsTupleIter it l i:=hit;obtain ⟨o,ho,hc,hd⟩:=id hit';obtain ⟨ol,hol,_,nl,hdl⟩:=hl;unfold Builtin.SmallTypes.nextOf;refine wpAny_bind (wpAny_callSpecial?_slot (name:=Str.ofString "__next__") hit'.typeIs F.slot_tuple_iterator_next (wpAny_call_entry F.slot_tuple_iterator_next hit'.typeIs F.entry_tuple_iterator_next ?_ (F.args_tuple_iterator_next_1 _)));show wpAny _ _ (field (.ref it) 0 >>= _) _ _ s;refine wpAny_bind (wpAny_field ho hd (x:=.ref l) rfl ?_);show wpAny _ _ (if (Value.ref l == Value.none)=true then _ else _) _ _ s;rw [if_neg (show ¬ ((Value.ref l == Value.none)=true) from Bool.false_ne_true)];show wpAny _ _ (field (.ref it) 1 >>= _) _ _ s;refine wpAny_bind (wpAny_field ho hd (x:=.int i 0) rfl (show wpAny _ _ (seqItems? (.ref l) >>= _) _ _ s from wpAny_bind (wpAny_seqItems hol hdl ?_)));simp only [Int.toNat_natCast,hx];refine wpAny_bind (wpAny_rule (wpAny_bind (wpAny_setField ho hd (by simp) ?_)));show wpAny _ _ (newExc (.type "StopIteration") [] >>= _) _ _ _;refine wpAny_bind ?_;simp only [newExc,newTuple];refine wpAny_bind (wpAny_newObj_type ?_ (by size_fits));refine wpAny_bind (m:=firstArgMember _ _) (wpAny_of_eq (a:=Value.none) (by first | rfl | (simp only [firstArgMember];rfl)) ?_);refine wpAny_newObj_type ?_ (by size_fits);simp only [raiseNew];refine wpAny_bind (wpAny_handled ?_);rw [show A.in1.handled=none from hh];refine wpAny_bind (wpAny_pure (wpAny_throw ?_));exact hE _ _ (((Heap.SameBut.update ..).extBut.push _).push _) ⟨_,Heap.get?_push_size _ rfl,rfl⟩
end
structure ZAt (ka kb:Bool) (z TI TO i1 i2 l1 l2:Addr) (n:Nat) (h:Heap):Prop where
 zp:IsZip h z TI TO .none
 ti:IsPair h TI (.ref i1) (.ref i2)
 to_:∃ a b,IsPair h TO a b
 a1:SIt ka h i1 l1 n
 a2:SIt kb h i2 l2 n
section
variable {prog:Program} {w:World} {A:Around} {E:Value->Shared->Prop} {s:Shared} {ka kb:Bool} {z TI TO i1 i2 l1 l2:Addr} {n:Nat} {xs ys:Array Value} {x y:Value}
theorem a8m {Q:Value->Shared->Prop} (D:ZipApart z TI TO i1 i2 l1 l2) (Z:ZAt ka kb z TI TO i1 i2 l1 l2 n s.heap) (hl1:SAt ka s.heap l1 xs) (hl2:SAt kb s.heap l2 ys) (hx:xs[n]?=some x) (hy:ys[n]?=some y)
  (hQ:∀ h',IsZip h' z TI TO (rawInt s.heap.objs.size)->IsPair h' TO x y->SIt ka h' i1 l1 (n+1)->SIt kb h' i2 l2 (n+1)->IsPair h' s.heap.objs.size x y ->
   (∀ c o,c≠z->c≠TO->c≠i1->c≠i2->s.heap.get? c=some o->h'.get? c=some o)->Q (.ref s.heap.objs.size) { s with heap:=h' }) :
  wpAny (model prog w) A (Builtin.«zip.__next__» ⟨[.ref z],[]⟩) (λfin s'=>∃ v,fin=.done (.ret v)/\Q v s') E s:=by
 obtain ⟨hz,hTI,⟨a,b,hTO⟩,h1,h2⟩:=Z;show wpAny _ _ (field (.ref z) 2 >>= _) _ _ _;refine wpAny_bind (wpAny_field hz rfl (x:=.bool false) rfl ?_);show wpAny _ _ (field (.ref z) 3 >>= _) _ _ _;refine wpAny_bind (wpAny_field hz rfl (x:=.ref TI) rfl (wpAny_bind (wpAny_seqItems hTI rfl ?_)));show wpAny _ _ (Builtin.SmallTypes.ownedTupleIsFree (.ref z) >>= _) _ _ _;refine wpAny_bind ?_;unfold Builtin.SmallTypes.ownedTupleIsFree;refine wpAny_bind (wpAny_field hz rfl (x:=.none) rfl (wpAny_pure ?_));simp only [if_true];refine wpAny_bind (wpAny_rule (wpAny_bind (wpAny_field hz rfl (x:=.ref TO) rfl (wpAny_bind (wpAny_setField_rec hz (by simp) λg1 z1 b1=>?_)))));have z1':IsZip g1 z TI TO .ellipsis:=z1;have k1:∀ c o,c≠z->s.heap.get? c=some o->g1.get? c=some o:=λc o hc e=>b1.extBut _ _ hc e;refine wpAny_bind ?_;simp only [List.zipIdx_cons,List.zipIdx_nil,List.forIn_cons,List.forIn_nil];refine wpAny_bind (wpAny_bind (wpAny_onRaise ?_));show wpAny _ _ (Builtin.SmallTypes.nextOf (.ref i1) >>= _) _ _ _;refine wpAny_bind (b0j (s:={ s with heap:=g1 }) (h1.at λo e=>k1 _ o D.i1z e) (hl1.at λo e=>k1 _ o D.l1z e) hx λg2 h12 b2=>wpAny_pure ?_);have k2:∀ c o,c≠z->c≠i1->s.heap.get? c=some o->g2.get? c=some o:=λc o hc hd e=>b2.extBut _ _ hd (k1 c o hc e);have o2:IsPair g2 TO a b:=k2 _ _ D.TOz D.TOi1 hTO;refine wpAny_bind (wpAny_seqItems o2 rfl (wpAny_bind (wpAny_updateSeq_pair (s:={ s with heap:=g2 }) o2 λg3 o3 b3=>?_)));have o3':IsPair g3 TO x b:=o3;refine wpAny_bind (wpAny_letGo (wpAny_pure ?_));refine wpAny_bind (wpAny_bind (wpAny_onRaise ?_));show wpAny _ _ (Builtin.SmallTypes.nextOf (.ref i2) >>= _) _ _ _;have k3:∀ c o,c≠z->c≠i1->c≠TO->s.heap.get? c=some o->g3.get? c=some o:=λc o hc hd he e=>b3.extBut _ _ he (k2 c o hc hd e);refine wpAny_bind (b0j (s:={ s with heap:=g3 }) (h2.at λo e=>k3 _ o D.i2z D.i12.symm D.TOi2.symm e) (hl2.at λo e=>k3 _ o D.l2z D.l2i1 D.l2TO e) hy λg4 h24 b4=>wpAny_pure ?_);have o4:IsPair g4 TO x b:=b4.extBut _ _ D.TOi2 o3';refine wpAny_bind (wpAny_seqItems o4 rfl (wpAny_bind (wpAny_updateSeq_pair (s:={ s with heap:=g4 }) o4 λg5 o5 b5=>?_)));have o5':IsPair g5 TO x y:=o5;refine wpAny_bind (wpAny_letGo (wpAny_pure (wpAny_pure ?_)));refine wpAny_bind (wpAny_seqItems o5' rfl (wpAny_bind (wpAny_newTuple ?_)));have sz:g5.objs.size=s.heap.objs.size:=by rw [b5.1,b4.1,b3.1,b2.1,b1.1]
 have z5:IsZip g5 z TI TO .ellipsis:=b5.extBut _ _ D.TOz.symm (b4.extBut _ _ D.i2z.symm (b3.extBut _ _ D.TOz.symm (b2.extBut _ _ D.i1z.symm z1')));have k5:∀ c o,c≠z->c≠TO->c≠i1->c≠i2->s.heap.get? c=some o->g5.get? c=some o:=λc o c1 c2 c3 c4 e=>b5.extBut _ _ c2 (b4.extBut _ _ c4 (k3 c o c1 c3 c2 e));have h15:SIt ka g5 i1 l1 (n+1):=h12.at λo e=>b5.extBut _ _ D.TOi1.symm (b4.extBut _ _ D.i12 (b3.extBut _ _ D.TOi1.symm e));have h25:SIt kb g5 i2 l2 (n+1):=h24.at λo e=>b5.extBut _ _ D.TOi2.symm e;have zl:z < g5.objs.size:=Heap.lt_size z5;show wpAny _ _ (Builtin.SmallTypes.ownedTupleHandOut (.ref z) (.ref g5.objs.size) >>= _) _ _ _;refine wpAny_bind ?_;unfold Builtin.SmallTypes.ownedTupleHandOut;have z6:IsZip (g5.push { cls:=.type "tuple",data:=.seq #[x,y] }) z TI TO .ellipsis:=Heap.get?_push_of_some _ z5;refine wpAny_bind (wpAny_setField_rec z6 (by simp) λg7 z7 b7=>?_)
 replace z7:IsZip g7 z TI TO (rawInt g5.objs.size):=z7
 refine wpAny_setField_rec z7 (by simp) λg8 z8 b8=>?_
 replace z8:IsZip g8 z TI TO (rawInt g5.objs.size):=z8
 have up:∀ c o,c≠z->g5.get? c=some o->g8.get? c=some o:=λc o c1 e=>b8.extBut _ _ c1 (b7.extBut _ _ c1 (Heap.get?_push_of_some _ e));have p8:IsPair g8 g5.objs.size x y:=b8.extBut _ _ (Nat.ne_of_gt zl) (b7.extBut _ _ (Nat.ne_of_gt zl) (Heap.get?_push_size _ rfl));rw [sz] at z8 p8;refine wpAny_pure ⟨_,rfl,?_⟩;show Q (.ref g5.objs.size) _;rw [sz];exact hQ g8 z8 (up _ _ D.TOz o5') (h15.at λo e=>up _ o D.i1z e) (h25.at λo e=>up _ o D.i2z e) p8 λc o c1 c2 c3 c4 e=>up c o c1 (k5 c o c1 c2 c3 c4 e)
theorem b0k {Q:Fin->Shared->Prop} (hh:A.handled=none) (D:ZipApart z TI TO i1 i2 l1 l2) (Z:ZAt ka kb z TI TO i1 i2 l1 l2 n s.heap) (hl1:SAt ka s.heap l1 xs) (hl2:SAt kb s.heap l2 ys) (hend:xs[n]?=none\/ys[n]?=none)
  (hE:∀ h' e,(∀ c o,c≠z->c≠TO->c≠i1->c≠i2->s.heap.get? c=some o->h'.get? c=some o)->(∃ o,h'.get? e=some o/\o.cls=.type "StopIteration")->E (.ref e) { s with heap:=h' }) :
  wpAny (model prog w) A (Builtin.«zip.__next__» ⟨[.ref z],[]⟩) Q E s:=by
 obtain ⟨hz,hTI,⟨a,b,hTO⟩,h1,h2⟩:=Z;show wpAny _ _ (field (.ref z) 2 >>= _) _ _ _;refine wpAny_bind (wpAny_field hz rfl (x:=.bool false) rfl ?_);show wpAny _ _ (field (.ref z) 3 >>= _) _ _ _;refine wpAny_bind (wpAny_field hz rfl (x:=.ref TI) rfl (wpAny_bind (wpAny_seqItems hTI rfl ?_)));show wpAny _ _ (Builtin.SmallTypes.ownedTupleIsFree (.ref z) >>= _) _ _ _;refine wpAny_bind ?_;unfold Builtin.SmallTypes.ownedTupleIsFree;refine wpAny_bind (wpAny_field hz rfl (x:=.none) rfl (wpAny_pure ?_));simp only [if_true];refine wpAny_bind (wpAny_rule (wpAny_bind (wpAny_field hz rfl (x:=.ref TO) rfl (wpAny_bind (wpAny_setField_rec hz (by simp) λg1 z1 b1=>?_)))));have z1':IsZip g1 z TI TO .ellipsis:=z1;have k1:∀ c o,c≠z->s.heap.get? c=some o->g1.get? c=some o:=λc o hc e=>b1.extBut _ _ hc e;refine wpAny_bind ?_;simp only [List.zipIdx_cons,List.zipIdx_nil,List.forIn_cons,List.forIn_nil];refine wpAny_bind (wpAny_bind (wpAny_onRaise ?_));show wpAny _ _ (Builtin.SmallTypes.nextOf (.ref i1) >>= _) _ _ _;cases hx:xs[n]? with
 | none =>
  refine wpAny_bind (endS (s:={ s with heap:=g1 }) hh (h1.at λo e=>k1 _ o D.i1z e) (hl1.at λo e=>k1 _ o D.l1z e) hx λg2 e b2 ⟨oe,he,ce⟩=>?_);have z2:IsZip g2 z TI TO .ellipsis:=b2 _ _ D.i1z.symm z1';have ez:e≠z:=λq=>by subst q;rw [z2] at he;cases he;simp at ce
  exact wpAny_setField_rec z2 (by simp) λg3 _ b3=>hE g3 e (λc o c1 _ c3 _ q=>b3.extBut _ _ c1 (b2 _ _ c3 (k1 c o c1 q))) ⟨oe,b3.extBut _ _ ez he,ce⟩
 | some x =>
  have hy:ys[n]?=none:=hend.resolve_left λq=>by rw [hx] at q;cases q
  refine wpAny_bind (b0j (s:={ s with heap:=g1 }) (h1.at λo e=>k1 _ o D.i1z e) (hl1.at λo e=>k1 _ o D.l1z e) hx λg2 h12 b2=>wpAny_pure ?_);have k2:∀ c o,c≠z->c≠i1->s.heap.get? c=some o->g2.get? c=some o:=λc o hc hd e=>b2.extBut _ _ hd (k1 c o hc e);have o2:IsPair g2 TO a b:=k2 _ _ D.TOz D.TOi1 hTO;refine wpAny_bind (wpAny_seqItems o2 rfl (wpAny_bind (wpAny_updateSeq_pair (s:={ s with heap:=g2 }) o2 λg3 o3 b3=>?_)));refine wpAny_bind (wpAny_letGo (wpAny_pure ?_));refine wpAny_bind (wpAny_bind (wpAny_onRaise ?_));show wpAny _ _ (Builtin.SmallTypes.nextOf (.ref i2) >>= _) _ _ _;have k3:∀ c o,c≠z->c≠i1->c≠TO->s.heap.get? c=some o->g3.get? c=some o:=λc o hc hd he e=>b3.extBut _ _ he (k2 c o hc hd e);refine wpAny_bind (endS (s:={ s with heap:=g3 }) hh (h2.at λo e=>k3 _ o D.i2z D.i12.symm D.TOi2.symm e) (hl2.at λo e=>k3 _ o D.l2z D.l2i1 D.l2TO e) hy λg4 e b4 ⟨oe,he,ce⟩=>?_);have z4:IsZip g4 z TI TO .ellipsis:=b4 _ _ D.i2z.symm (b3.extBut _ _ D.TOz.symm (b2.extBut _ _ D.i1z.symm z1'));have ez:e≠z:=λq=>by subst q;rw [z4] at he;cases he;simp at ce
  exact wpAny_setField_rec z4 (by simp) λg5 _ b5=>hE g5 e (λc o c1 c2 c3 c4 q=>b5.extBut _ _ c1 (b4 _ _ c4 (k3 c o c1 c3 c2 q))) ⟨oe,b5.extBut _ _ ez he,ce⟩
theorem a8n {Q:Option Value->Shared->Prop} (D:ZipApart z TI TO i1 i2 l1 l2) (Z:ZAt ka kb z TI TO i1 i2 l1 l2 n s.heap) (hl1:SAt ka s.heap l1 xs) (hl2:SAt kb s.heap l2 ys) (hx:xs[n]?=some x) (hy:ys[n]?=some y)
  (hQ:∀ h',IsZip h' z TI TO (rawInt s.heap.objs.size)->IsPair h' TO x y->SIt ka h' i1 l1 (n+1)->SIt kb h' i2 l2 (n+1)->IsPair h' s.heap.objs.size x y ->
   (∀ c o,c≠z->c≠TO->c≠i1->c≠i2->s.heap.get? c=some o->h'.get? c=some o)->Q (some (.ref s.heap.objs.size)) { s with heap:=h' }):wpAny (model prog w) A (pyNext (.ref z)) Q E s:=by
 have hT:s.TypeIs (.ref z) "zip":=⟨_,Z.zp,rfl⟩
 unfold pyNext;exact wpAny_bind (wpAny_attempt (wpAny_callSpecial?_slot (name:=Str.ofString "__next__") hT F.slot_zip_next (wpAny_call_entry F.slot_zip_next hT F.entry_zip_next
  (a8m D Z hl1 hl2 hx hy λh' a1 a2 a3 a4 a5 a7=>wpAny_pure (hQ h' a1 a2 a3 a4 a5 a7)) (F.args_zip_next_1 _))))
theorem a8o {Q:Option Value->Shared->Prop} (hh:A.handled=none) (D:ZipApart z TI TO i1 i2 l1 l2) (Z:ZAt ka kb z TI TO i1 i2 l1 l2 n s.heap) (hl1:SAt ka s.heap l1 xs) (hl2:SAt kb s.heap l2 ys) (hend:xs[n]?=none\/ys[n]?=none)
  (hQ:∀ h',(∀ c o,c≠z->c≠TO->c≠i1->c≠i2->s.heap.get? c=some o->h'.get? c=some o)->Q none { s with heap:=h' }):wpAny (model prog w) A (pyNext (.ref z)) Q E s:=by
 have hT:s.TypeIs (.ref z) "zip":=⟨_,Z.zp,rfl⟩
 unfold pyNext;refine wpAny_bind (wpAny_attempt (wpAny_callSpecial?_slot (name:=Str.ofString "__next__") hT F.slot_zip_next (wpAny_call_entry F.slot_zip_next hT F.entry_zip_next (b0k hh D Z hl1 hl2 hend λh' e hk he=>?_) (F.args_zip_next_1 _))));obtain ⟨o,ho,hc⟩:=he;exact wpAny_bind (wpAny_isInstance (T:="StopIteration") (b:=true) ⟨o,ho,hc⟩ isSubtype_stop (wpAny_pure (hQ _ hk)))
end
def SqK (K:PySem.W.Frag):Bool->Hp->Addr->List V->Prop
 | true,H,a,xs=>SqT K H a xs
 | false,H,a,xs=>SqL K H a xs
theorem b0l {X:Cx} {pins:List (Addr × Obj)} {σ:St} {H:Hp} {s:Shared} {k:Bool} {a:Addr} {xs:List V} (I:Inv X pins σ H s) (h:SqK X.K k H a xs):∃ us,a0U xs us/\SAt k s.heap a us.toArray:=by
 cases k with
 | true =>
  obtain ⟨its,rv,p,hz⟩:=I.tuple h;exact ⟨its,rv,p⟩
 | false =>
  obtain ⟨its,rv,p,hz⟩:=I.list h;exact ⟨its,rv,p.isList⟩
theorem a4K {X:Cx} {pins:List (Addr × Obj)} {σ:St} {H:Hp} {s:Shared} {k:Bool} {a:Addr} {xs ys:List V} (I:Inv X pins σ H s) (h:SqK X.K k H a xs) (h2:SqK X.K k H a ys):xs=ys:=by
 cases k with
 | true=>exact I.tuple_inj h h2
 | false=>exact I.list_inj h h2
theorem Inv.turnedL {X:Cx} {pins:List (Addr × Obj)} {σ:St} {H:Hp} {s:Shared} {h':Heap} {t':Nat} {L:List Addr} (I:Inv X pins σ H s) (k:∀ b o,b∉L->s.heap.get? b=some o->h'.get? b=some o) (hf:∀ b∈L,a9D X pins H b):Inv X pins σ H { s with heap:=h',toks:=t' }:=by
 have nit:∀ b u,H b=some u->b∉L:=λb u e z=>by rw [(hf b z).1] at e;cases e
 have nl:X.env.locals∉L:=λz=>(hf _ z).2.1 rfl;refine I.step (g':=s.gens) (d':=s.drawn) (ch:=L) (λb hb=>?_) (λb o _ _ hc e _=>k b o hc e) (λb o _ _ hc e _=>⟨o.slots,k b o hc e⟩) (λ_ _ _ _ n=>n)
  (λb o hc e=>⟨o,k b o hc e⟩) (λ_ _ e=>e) (λ_ _ _ e=>e) (λb ps e=>⟨#[],by rw [e];simp⟩) (λm hm=>?_) (λb u e=>?_) I.bare
 ·obtain ⟨f0,f1,f2,f3,f4,f5⟩:=hf b hb;exact ⟨f3,f1,f4,f5⟩
 ·obtain ⟨o,es,ep,ho,r⟩:=hm;exact ⟨o,es,ep,k _ o nl ho,r⟩
 ·refine (I.hok b u e).stay (λc v hc q=>k c v ?_ q) (λ_ q=>q) λ_ _ q=>q;rcases hc with z | z
  ·rw [z];exact nit b u e
  ·exact nit c _ z
def Itz (K:PySem.W.Frag) (ka kb:Bool) (a b:Addr):It :=
 ⟨λi H=>∃ xs ys x y,SqK K ka H a xs/\SqK K kb H b ys/\xs[i]?=some x/\ys[i]?=some y,
  λi H v H'=>∃ p x y,v=.ref p/\H p=none/\(∀ xs,SqK K ka H a xs->xs[i]?=some x)/\(∀ ys,SqK K kb H b ys->ys[i]?=some y)/\H'=upd H p (.tup [x,y]),
  λi H=>∃ xs ys,SqK K ka H a xs/\SqK K kb H b ys/\(xs.length<=i\/ys.length<=i)⟩
theorem ZAt.obj {ka kb:Bool} {z TI TO i1 i2 l1 l2:Addr} {n:Nat} {h:Heap} (Z:ZAt ka kb z TI TO i1 i2 l1 l2 n h):∀ b∈[z,TI,TO,i1,i2],∃ o,h.get? b=some o/\∀ v,o.data≠.cell v:=λb hb=>by
 obtain ⟨hz,hTI,⟨x,y,hTO⟩,h1,h2⟩:=Z;simp only [List.mem_cons,List.not_mem_nil,or_false] at hb;rcases hb with rfl | rfl | rfl | rfl | rfl
 ·exact ⟨_,hz,λv z=>by cases z⟩
 ·exact ⟨_,hTI,λv z=>by cases z⟩
 ·exact ⟨_,hTO,λv z=>by cases z⟩
 ·exact h1.obj
 ·exact h2.obj
theorem b0m {P:Program} {w:World} {K:PySem.W.Frag} {elts:List Expr} {x1} {pos:Pos} {ka kb:Bool} {z TI TO i1 i2 a b:Addr} (D:ZipApart z TI TO i1 i2 a b):b0W P w K (.Tuple elts x1 pos) (Itz K ka kb a b) [z,TI,TO,i1,i2] z (λn h=>ZAt ka kb z TI TO i1 i2 a b n h) where
 mem:=by simp
 obj:=λi h st=>st.obj
 keep:=λi h h' ⟨hz,hTI,⟨x,y,hTO⟩,h1,h2⟩ k=>⟨k z (by simp) _ hz,k TI (by simp) _ hTI,⟨x,y,k TO (by simp) _ hTO⟩,h1.at λo e=>k i1 (by simp) o e,h2.at λo e=>k i2 (by simp) o e⟩
 item:=by
  intro X hP hw hK hc i pins s σ H E I hf st hg;subst hP hw hK;obtain ⟨xs,ys,x,y,q1,q2,hx,hy⟩:=hg;obtain ⟨us,r1,p1⟩:=b0l I q1;obtain ⟨vs,r2,p2⟩:=b0l I q2;obtain ⟨u,hu,ru⟩:=r1.get hx;obtain ⟨v,hv,rv⟩:=r2.get hy;have lt:∀ b∈[z,TI,TO,i1,i2],b < s.heap.objs.size:=λb hb=>by
   obtain ⟨o,ho,_⟩:=st.obj b hb;exact Heap.lt_size ho
  refine a8n D st p1 p2 (x:=u) (y:=v) (by simpa using hu) (by simpa using hv) λh' z1 o1 a1 a2 pr kk=>?_;refine ⟨_,rfl,wpAny_letOwnedTupleGo_zip (s:={ s with heap:=h' }) z1 λh2 z2 b2=>?_⟩;have hT:H s.heap.objs.size=none:=I.hok.fresh (Nat.le_refl _);have I1:Inv X pins σ (upd H s.heap.objs.size (.tup [x,y])) { s with heap:=s.heap.push { cls:=.type "tuple",data:=.seq #[u,v] } }:=I.laid (t':=s.toks) (λb u e=>Heap.get?_push_of_some _ e) (Nat.le_refl _) ⟨by show 2<=sizeLine;decide,[u,v],.cons ru (.cons rv .nil),⟨_,Heap.get?_push_size _ rfl,_,rfl⟩⟩;have Tz:s.heap.objs.size≠z:=Nat.ne_of_gt (lt z (by simp));have fp:∀ b∈[z,TI,TO,i1,i2],a9D X pins (upd H s.heap.objs.size (.tup [x,y])) b:=λb hb=>by
   obtain ⟨f0,f1,f2,f3,f4,f5⟩:=hf b hb;exact ⟨by rw [a0j (Nat.ne_of_lt (lt b hb))];exact f0,f1,f2,f3,f4,f5⟩
  have I2:=I1.turnedL (h':=h2) (t':=s.toks) (λc o hc e=>by
   simp only [List.mem_cons,List.not_mem_nil,or_false,not_or] at hc;by_cases zc:c=s.heap.objs.size
   ·subst zc;rw [Heap.get?_push_size _ rfl] at e;cases e;exact b2.extBut _ _ Tz pr
   ·have e':s.heap.get? c=some o:=by rw [<-e];exact (Heap.get?_push_ne _ _ _ zc).symm
    exact b2.extBut _ _ hc.1 (kk c o hc.1 hc.2.2.1 hc.2.2.2.1 hc.2.2.2.2 e')) fp
  refine ⟨.ref s.heap.objs.size,_,I2,rfl,⟨_,x,y,rfl,hT,λzs hz=>?_,λzs hz=>?_,rfl⟩,⟨z2,b2.extBut _ _ D.TIz (kk _ _ D.TIz D.TITO D.TIi1 D.TIi2 st.ti),⟨u,v,b2.extBut _ _ D.TOz o1⟩,a1.at λo e=>b2.extBut _ _ D.i1z e,a2.at λo e=>b2.extBut _ _ D.i2z e⟩,λb hb=>(fp b hb).1⟩
  ·rw [a4K I hz q1];exact hx
  ·rw [a4K I hz q2];exact hy
 done:=by
  intro X hP hw hK hc i pins s σ H E I hf st hg;subst hP hw hK;obtain ⟨xs,ys,q1,q2,hl⟩:=hg;obtain ⟨us,r1,p1⟩:=b0l I q1;obtain ⟨vs,r2,p2⟩:=b0l I q2;have e1:=r1.length;have e2:=r2.length;refine a8o (I.ok.hd hc) D st p1 p2 (hl.elim (λq=>.inl (by simp;omega)) λq=>.inr (by simp;omega)) λh' kk=>⟨rfl,I.turnedL (t':=s.toks) (λc o hc e=>?_) hf⟩
  simp only [List.mem_cons,List.not_mem_nil,or_false,not_or] at hc;exact kk c o hc.1 hc.2.2.1 hc.2.2.2.1 hc.2.2.2.2 e
 self:=λ_ _ _ _ _ st h=>wpAny_pyIter_zip st.zp h
def itO (k:Bool) (l:Addr):Obj:=match k with
 | true=>{ cls:=.type "tuple_iterator",data:=.fields #[.ref l,.int 0 0] }
 | false=>{ cls:=.type "list_iterator",data:=.fields #[.ref l,.int 0 0] }
theorem a8p {prog:Program} {w:World} {A:Around} {E:Value->Shared->Prop} {s:Shared} {k:Bool} {l:Addr} {xs:Array Value} {Q:Value->Shared->Prop} (h:SAt k s.heap l xs) (hQ:Q (.ref s.heap.objs.size) { s with heap:=s.heap.push (itO k l) }) :
  wpAny (model prog w) A (pyIter (.ref l)) Q E s:=by
 cases k with
 | true=>exact wpAny_pyIter_tuple h hQ
 | false=>exact wpAny_pyIter_list h hQ
theorem a4L {k:Bool} {l:Addr}:(itO k l).isFreed=false:=by cases k <;> rfl
theorem SIt.new {k:Bool} {l i:Addr} {h:Heap} (e:h.get? i=some (itO k l)):SIt k h i l 0:=by
 cases k with
 | true=>exact ⟨_,e,rfl,rfl⟩
 | false=>exact ⟨_,e,rfl,rfl⟩
def b0n (h:Heap) (ka kb:Bool) (l1 l2:Addr):Heap:=((((h.push (itO ka l1)).push (itO kb l2)).push { cls:=.type "tuple",data:=.seq #[.ref h.objs.size,.ref (h.push (itO ka l1)).objs.size] }).push { cls:=.type "tuple",data:=.seq #[.none,.none] }).push
 { cls:=.type "zip",data:=.fields #[.none,.bool false,.bool false,.ref ((h.push (itO ka l1)).push (itO kb l2)).objs.size,.ref (((h.push (itO ka l1)).push (itO kb l2)).push { cls:=.type "tuple",data:=.seq #[.ref h.objs.size,.ref (h.push (itO ka l1)).objs.size] }).objs.size] }
theorem meetsS (ka kb:Bool) (l1 l2:Addr) (xs ys:Array Value) :
  Meets (Builtin.«zip.__new__» ⟨[.type "zip",.ref l1,.ref l2],[]⟩) (λ_ R s=>SAt ka s.heap l1 xs/\SAt kb s.heap l2 ys/\R (.ok (.ret (.ref (s.heap.objs.size+4)))) { s with heap:=b0n s.heap ka kb l1 l2 }) :=
 .of_wp λprog w A R s h=>by
  obtain ⟨hp,g,d,tk,os⟩:=s;obtain ⟨hl1,hl2,h⟩:=h;have hsub:=sub_zip;have hL1:SAt ka (Shared.heap ⟨hp,g,d,tk,os⟩) l1 xs:=hl1;have hL2:SAt kb (Shared.heap ⟨hp.push (itO ka l1),g,d,tk,os⟩) l2 ys:=hl2.at λo e=>Heap.get?_push_of_some _ e
  wp_walk using a8p hL1,a8p hL2
  refine ⟨_,rfl,?_⟩;have z:((((hp.push (itO ka l1)).push (itO kb l2)).push { cls:=.type "tuple",data:=.seq #[.ref hp.objs.size,.ref (hp.push (itO ka l1)).objs.size] }).push { cls:=.type "tuple",data:=.seq #[.none,.none] }).objs.size=hp.objs.size+4:=by
   rw [Heap.size_push,Heap.size_push,Heap.size_push,Heap.size_push]
  rw [<-z] at h;exact h
theorem callS {prog:Program} {w:World} {A:Around} {E:Value->Shared->Prop} {s:Shared} {ka kb:Bool} {l1 l2:Addr} {xs ys:Array Value} {Q:Value->Shared->Prop} (h1:SAt ka s.heap l1 xs) (h2:SAt kb s.heap l2 ys)
  (h:∀ h',ZAt ka kb (s.heap.objs.size+4) (s.heap.objs.size+2) (s.heap.objs.size+3) s.heap.objs.size (s.heap.objs.size+1) l1 l2 0 h'->(∀ c o,s.heap.get? c=some o->h'.get? c=some o)->Q (.ref (s.heap.objs.size+4)) { s with heap:=h' }) :
  wpAny (model prog w) A (call (.type "zip") [.ref l1,.ref l2]) Q E s:=by
 refine callType_new F.called_zip (by decide) (F.typeCall_zip_2 _ _) (F.newCall_zip_2 _ _) (λobj=>F.args_object_init_3 obj _ _) F.entry_zip_new (meetsS ka kb l1 l2 xs ys) ⟨h1,h2,?_⟩;have kp:∀ c o,s.heap.get? c=some o->(b0n s.heap ka kb l1 l2).get? c=some o:=λc o x=>Heap.get?_push_of_some _ (Heap.get?_push_of_some _ (Heap.get?_push_of_some _ (Heap.get?_push_of_some _ (Heap.get?_push_of_some _ x))));have z1:(s.heap.push (itO ka l1)).objs.size=s.heap.objs.size+1:=Heap.size_push ..;have z2:((s.heap.push (itO ka l1)).push (itO kb l2)).objs.size=s.heap.objs.size+2:=by rw [Heap.size_push,z1]
 have z3:(((s.heap.push (itO ka l1)).push (itO kb l2)).push { cls:=.type "tuple",data:=.seq #[.ref s.heap.objs.size,.ref (s.heap.push (itO ka l1)).objs.size] }).objs.size=s.heap.objs.size+3:=by rw [Heap.size_push,z2]
 have z4:((((s.heap.push (itO ka l1)).push (itO kb l2)).push { cls:=.type "tuple",data:=.seq #[.ref s.heap.objs.size,.ref (s.heap.push (itO ka l1)).objs.size] }).push { cls:=.type "tuple",data:=.seq #[.none,.none] }).objs.size=s.heap.objs.size+4:=by rw [Heap.size_push,z3]
 have g1:(b0n s.heap ka kb l1 l2).get? s.heap.objs.size=some (itO ka l1):=Heap.get?_push_of_some _ (Heap.get?_push_of_some _ (Heap.get?_push_of_some _ (Heap.get?_push_of_some _ (Heap.get?_push_size _ a4L))));have g2:(b0n s.heap ka kb l1 l2).get? (s.heap.objs.size+1)=some (itO kb l2):=by rw [<-z1];exact Heap.get?_push_of_some _ (Heap.get?_push_of_some _ (Heap.get?_push_of_some _ (Heap.get?_push_size _ a4L)))
 have g3:(b0n s.heap ka kb l1 l2).get? (s.heap.objs.size+2)=some { cls:=.type "tuple",data:=.seq #[.ref s.heap.objs.size,.ref (s.heap.objs.size+1)] }:=by
  rw [<-z2];have q:(b0n s.heap ka kb l1 l2).get? ((s.heap.push (itO ka l1)).push (itO kb l2)).objs.size=some { cls:=.type "tuple",data:=.seq #[.ref s.heap.objs.size,.ref (s.heap.push (itO ka l1)).objs.size] }:=Heap.get?_push_of_some _ (Heap.get?_push_of_some _ (Heap.get?_push_size _ rfl));rw [z1] at q;exact q
 have g4:(b0n s.heap ka kb l1 l2).get? (s.heap.objs.size+3)=some { cls:=.type "tuple",data:=.seq #[.none,.none] }:=by rw [<-z3];exact Heap.get?_push_of_some _ (Heap.get?_push_size _ rfl)
 have g5:(b0n s.heap ka kb l1 l2).get? (s.heap.objs.size+4)=some { cls:=.type "zip",data:=.fields #[.none,.bool false,.bool false,.ref (s.heap.objs.size+2),.ref (s.heap.objs.size+3)] }:=by
  rw [<-z4];have q:(b0n s.heap ka kb l1 l2).get? ((((s.heap.push (itO ka l1)).push (itO kb l2)).push { cls:=.type "tuple",data:=.seq #[.ref s.heap.objs.size,.ref (s.heap.push (itO ka l1)).objs.size] }).push { cls:=.type "tuple",data:=.seq #[.none,.none] }).objs.size=some { cls:=.type "zip",data:=.fields #[.none,.bool false,.bool false,.ref ((s.heap.push (itO ka l1)).push (itO kb l2)).objs.size,.ref (((s.heap.push (itO ka l1)).push (itO kb l2)).push { cls:=.type "tuple",data:=.seq #[.ref s.heap.objs.size,.ref (s.heap.push (itO ka l1)).objs.size] }).objs.size] }:=Heap.get?_push_size _ rfl;rw [z2,z3] at q;exact q
 show _/\_;exact ⟨⟨_,g5,rfl⟩,h _ ⟨g5,g3,⟨_,_,g4⟩,.new g1,.new g2⟩ kp⟩
theorem b_zip:bootBuiltins "zip"=some (.type "zip"):=by decide +kernel
def iZip (K:PySem.W.Frag) (ka kb:Bool) (ta:TA):TI:=λσ H R=>ta σ H λvs H1=>∃ a b xs ys,vs=[.ref a,.ref b]/\SqK K ka H1 a xs/\SqK K kb H1 b ys/\R (Itz K ka kb a b) H1
theorem b1k {X:Cx} {elts:List Expr} {x1} {tp:Pos} {a b:Expr} {ta:TA} {p pos:Pos} (ka kb:Bool) (hg:Gl X "zip") (hm:X.mg "zip"=none) (ha:PA X [a,b] ta) (hs:starEach [a,b] X.env=[(false,eval a X.env),(false,eval b X.env)]:=by rfl) (hs2:starEach [b] X.env=[(false,eval b X.env)]:=by rfl) :
  PI X (.Tuple elts x1 tp) (.Call (.Name "zip" p) [a,b] [] pos) (iZip X.K ka kb ta):=by
 intro pins s σ H R I h;refine Call_ (a2E I hg hm b_zip (PyProof.Rows.callWith_type1 (thn (ha pos pins s σ H _ I h) λus s1 ⟨vs,H1,I1,r1,q1⟩=>?_) (by rw [hs,hs2]) (by rw [hs2];rfl)));obtain ⟨a',b',xs,ys,e,q1,q2,q⟩:=q1;subst e;obtain ⟨u,v,rfl,r1,r2⟩:=r1.two;cases r1;cases r2;obtain ⟨us,e1,p1⟩:=b0l I1 q1;obtain ⟨vs,e2,p2⟩:=b0l I1 q2;have lt:∀ {k:Bool} {l:Addr} {zs:Array Value},SAt k s1.heap l zs->l < s1.heap.objs.size:=λ{k l zs} x=>by
  cases k with
  | true=>obtain ⟨o,ho,_⟩:=x;exact Heap.lt_size ho
  | false=>obtain ⟨o,ho,_⟩:=x;exact Heap.lt_size ho
 have t1:=lt p1;have t2:=lt p2;refine callS p1 p2 λh' Z kp=>wpAny_pyIter_zip (s:={ s1 with heap:=h' }) Z.zp ?_;have D:ZipApart (s1.heap.objs.size+4) (s1.heap.objs.size+2) (s1.heap.objs.size+3) s1.heap.objs.size (s1.heap.objs.size+1) a' b':=by
  have t1':@LT.lt Nat _ a' s1.heap.objs.size:=t1;have t2':@LT.lt Nat _ b' s1.heap.objs.size:=t2;constructor <;> (show ¬ (@Eq Nat _ _);omega)
 refine ⟨_,[s1.heap.objs.size+4,s1.heap.objs.size+2,s1.heap.objs.size+3,s1.heap.objs.size,s1.heap.objs.size+1],_,_,H1,rfl,I1.kept (t':=s1.toks) kp,b0m D,Z,λc hc=>?_,q⟩;have ge:s1.heap.objs.size<=c:=by
  simp only [List.mem_cons,List.not_mem_nil,or_false] at hc;rcases hc with rfl | rfl | rfl | rfl | rfl <;> omega
 exact I1.fpOk ge (I1.hok.fresh ge)
def b2u (tc:TT) (te:TE) (σ:St) (d:Addr) (x y:V) (H:Hp) (Z:Hp->Prop):Prop :=
 tc (some x :: some y :: σ) H λb H3=>if b=true then te (some x :: some y :: σ) H3 λv H4=>∃ ys,H4 d=some (.lst ys)/\ys.length < sizeLine/\Z (upd H4 d (.lst (ys++[v]))) else Z H3
def b1l (K:PySem.W.Frag) (ka kb:Bool) (ta:TA) (tc:TT) (te:TE):TE:=λσ H Q=>ta σ H λvs H1=>∃ a b xs ys,vs=[.ref a,.ref b]/\SqK K ka H1 a xs/\SqK K kb H1 b ys/\xs.length=ys.length/\∀ d,H1 d=none ->
 ∃ Pv:Nat->Hp->Prop,Pv 0 (upd H1 d (.lst []))/\(∀ i H,i<=xs.length->Pv i H->SqK K ka H a xs/\SqK K kb H b ys)/\(∀ i x y p H,xs[i]?=some x->ys[i]?=some y->Pv i H->H p=none->b2u tc te σ d x y (upd H p (.tup [x,y])) (Pv (i+1)))/\∀ H,Pv xs.length H->Q (.ref d) H
def a8q (K:PySem.W.Frag):TG:=gTup K 2 (b1W (a1E 0) (b1W (a1E 1) gNil))
theorem a5w {K:PySem.W.Frag} {v:V} {σ:St} {H:Hp} {Q:St->Hp->Prop} (h:a8q K v (List.replicate 2 none++σ) H Q):a8q K v (List.replicate 2 none++σ) H λσ2 H2=>(∃ l:St,l.length=2/\σ2=l++σ)/\Q σ2 H2:=by
 obtain ⟨a,xs,e,hq,hl,v1,r1,e1,v2,r2,e2,e3,q⟩:=h;exact ⟨a,xs,e,hq,hl,v1,r1,e1,v2,r2,e2,e3,⟨[some v1,some v2],rfl,rfl⟩,q⟩
theorem a6v {K:PySem.W.Frag} {ka kb:Bool} {a b:Addr} {xs ys:List V} {tc:TT} {te:TE} {σ:St} {H:Hp} {Q:VK} {d:Addr} (hlen:xs.length=ys.length) (Pv:Nat->Hp->Prop) (h0:Pv 0 (upd H d (.lst []))) (hl:∀ i H,i<=xs.length->Pv i H->SqK K ka H a xs/\SqK K kb H b ys)
  (hs:∀ i x y p H,xs[i]?=some x->ys[i]?=some y->Pv i H->H p=none->b2u tc te σ d x y (upd H p (.tup [x,y])) (Pv (i+1)))
  (hd:∀ H,Pv xs.length H->Q (.ref d) H) :
  ∃ W:Nat->Nat->Hp->Prop,(∃ m,W 0 m (upd H d (.lst [])))/\∀ i m H,W i m H ->
   ((Itz K ka kb a b).stop i H/\Q (.ref d) H)\/((Itz K ka kb a b).go i H/\∃ N:Hp->Prop,(∀ H',N H'->∃ m',m' < m/\W (i+1) m' H')/\∀ x H',(Itz K ka kb a b).yld i H x H'->a8q K x (List.replicate 2 none++σ) H' λσ2 H2 =>
    tc σ2 H2 λb H3=>if b=true then te σ2 H3 λy H4=>∃ ys,H4 d=some (.lst ys)/\ys.length < sizeLine/\N (upd H4 d (.lst (ys++[y]))) else N H3):=by
 refine ⟨λi m H=>m=xs.length - i/\i<=xs.length/\Pv i H,⟨xs.length,by simp,Nat.zero_le _,h0⟩,?_⟩;rintro i m H ⟨rfl,hi,p⟩;obtain ⟨q1,q2⟩:=hl i H hi p;by_cases hlt:i < xs.length
 ·refine .inr ⟨⟨xs,ys,_,_,q1,q2,List.getElem?_eq_getElem hlt,List.getElem?_eq_getElem (by omega)⟩,Pv (i+1),λH' n=>⟨xs.length - (i+1),by omega,rfl,by omega,n⟩,?_⟩;rintro v H' ⟨p',x,y,rfl,hn,e1,e2,rfl⟩;exact ⟨p',[x,y],rfl,SqT.of a0b,rfl,x,[y],rfl,y,[],rfl,rfl,hs i x y p' H (e1 _ q1) (e2 _ q2) p hn⟩
 ·have e:i=xs.length:=by omega
  subst e;exact .inl ⟨⟨xs,ys,q1,q2,.inl (Nat.le_refl _)⟩,hd H p⟩
theorem b0o {X:Cx} (K:PySem.W.Frag) (ka kb:Bool) {elt a b:Expr} {t1 t2:Str} {p1 p2 tp p pos pos':Pos} {k:Nat} {cs:List Expr} {scope:Scope} {tc:TT} {te:TE} {ta:TA} {M:List Str} (hc:X.calm=true) (S:a0l scope X.env X.N M) (nd:(t1 :: t2 :: M).Nodup) (hl1:scope.names.lookup t1=some .local) (hl2:scope.names.lookup t2=some .local)
  (hg:Gl X "zip") (hm:X.mg "zip"=none) (ha:PA X [a,b] ta) (mo:a4F ta)
  (hin:∀ (cl:List (Str × Addr)) (C:Addr) (s0:Shared) (H0:Hp) (fp:List Addr) (pins:List (Addr × Obj)) (σ:St),Back X (cxC X scope cl C s0 H0 fp (t1 :: t2 :: M)) pins σ fp C s0 H0->PTs (cxC X scope cl C s0 H0 fp (t1 :: t2 :: M)) cs tc/\PE (cxC X scope cl C s0 H0 fp (t1 :: t2 :: M)) elt te)
  (hs:starEach [a,b] X.env=[(false,eval a X.env),(false,eval b X.env)]:=by rfl) (hs2:starEach [b] X.env=[(false,eval b X.env)]:=by rfl) (hf:∀ x,foldedSetIterable (.Call (.Name "zip" p) [a,b] [] pos') X.env x=pure x:=by intro _;rfl) (hK:X.K=K:=by rfl) :
  PE X (.ListComp elt [⟨.Tuple [.Name t1 p1,.Name t2 p2] k tp,.Call (.Name "zip" p) [a,b] [] pos',cs,0⟩] scope pos) (b1l K ka kb ta tc te):=by
 subst hK;have hx1:(relabel scope X.env).names.lookup t1=some .local:=by rw [a0Q,hl1];rfl
 have hx2:(relabel scope X.env).names.lookup t2=some .local:=by rw [a0Q,hl2];rfl
 refine PE.imp (a9U (xs:=[t1,t2]) (M:=M) (g:=a8q X.K) hc S (b1k ka kb hg hm ha hs hs2) (λcl C s0 H0 fp pins σ bk=>⟨a5f hc (a1m (a0H (i:=0) nd rfl (Or.inl hx1) (Or.inr hx1)) (a1m (a0H (i:=1) nd rfl (Or.inl hx2) (Or.inr hx2)) a3D)),hin cl C s0 H0 fp pins σ bk⟩) (λv σ H Q h=>a5w h) hf) (λσ H Q h=>?_);refine mo σ H _ _ (λvs H1 q=>?_) h;obtain ⟨a',b',xs,ys,e,q1,q2,hlen,q⟩:=q;refine ⟨a',b',xs,ys,e,q1,q2,λd hd=>?_⟩;obtain ⟨Pv,h0,hl,hs,hd⟩:=q d hd;exact a6v hlen Pv h0 hl hs hd
section
variable {κ:Type} [DecidableEq κ]
def valV (kvs:List (κ × V)) (k:κ):Option V:=(kvs.find? λkv=>decide (kv.1=k)).map (·.2)
def putK (kvs:List (κ × V)) (k:κ) (v:V):List (κ × V) :=
 if (kvs.any λkv=>decide (kv.1=k))=true then kvs.map (λkv=>if kv.1=k then (kv.1,v) else kv) else kvs++[(k,v)]
def dropK (kvs:List (κ × V)) (k:κ):List (κ × V):=kvs.filter λkv=>decide (kv.1≠k)
end
abbrev KT (H:Hp):List (List Key × V)->List (List Key × Addr × Value)->Prop:=Paired λp q=>p.1=q.1/\H q.2.1=some (.tup (p.1.map kV))/\a1u p.2 q.2.2
section
variable {P:Program} {w:World} {H:Hp} {h:Heap} {a:Addr}
end
def DGet (H:Hp) (a:Addr) (y:V) (r:Option V):Prop :=
 (∃ kvs k,Rd H a (.dK kvs)/\y=kV k/\r=valV kvs k)\/∃ kvs k b,Rd H a (.dT kvs)/\y=.ref b/\H b=some (.tup (k.map kV))/\r=valV kvs k
def DPut (H:Hp) (a:Addr) (y v:V) (H':Hp):Prop :=
 (∃ kvs k,H a=some (.dK kvs)/\y=kV k/\kvs.length < sizeLine/\H'=upd H a (.dK (putK kvs k v))) \/
 ∃ kvs k b,H a=some (.dT kvs)/\y=.ref b/\H b=some (.tup (k.map kV))/\kvs.length < sizeLine/\H'=upd H a (.dT (putK kvs k v))
section
variable {X:Cx} {pins:List (Addr × Obj)} {σ:St} {H:Hp} {s:Shared} {a:Addr} {y v:V} {u r:Value} {o:Option V} {A:Around} {E:Value->Shared->Prop}
end
section
variable {X:Cx} {pins:List (Addr × Obj)} {σ:St} {H:Hp} {s:Shared} {a:Addr} {kvs:List (Key × V)} {k:Key} {u:Value} {A:Around} {E:Value->Shared->Prop}
end
def NoSl (i:Expr):Prop:=∀ ov iv,subscripted i false ov iv=operate [ov,iv] (getItem ov iv)
def tDGet (td ty:TE):TE:=λσ H Q=>td σ H λx H1=>ty σ H1 λy H2=>∃ a v,x=.ref a/\DGet H2 a y (some v)/\Q v H2
def tDIn (ty td:TE):TE:=λσ H Q=>ty σ H λy H1=>td σ H1 λx H2=>∃ a o,x=.ref a/\DGet H2 a y o/\Q (.bl o.isSome) H2
def sDPut (td ty tv:TE):TS:=λD σ H=>tv σ H λv H1=>td σ H1 λx H2=>ty σ H2 λy H3=>∃ a H4,x=.ref a/\DPut H3 a y v H4/\D.nx σ H4
def sDAug (td ty tv:TE) (rd:V->V->Hp->VK->Prop):TS:=λD σ H=>td σ H λx H1=>ty σ H1 λy H2=>∃ a v,x=.ref a/\DGet H2 a y (some v) /\
 tv σ H2 λy2 H3=>rd v y2 H3 λz H4=>∃ H5,DPut H4 a y z H5/\D.nx σ H5
def sDDel (td ty:TE):TS:=λD σ H=>td σ H λx H1=>ty σ H1 λy H2=>∃ a kvs k,x=.ref a/\H2 a=some (.dK kvs)/\y=kV k/\(valV kvs k).isSome=true/\D.nx σ (upd H2 a (.dK (dropK kvs k)))
section
variable {X:Cx} {o i e value:Expr} {pos pos' tpos:Pos} {td ty tv:TE}
end
def tDNewK:TE:=λ_ H Q=>∀ p,H p=none->Q (.ref p) (upd H p (.dK []))
section
variable {X:Cx} {pos:Pos}
end
def b1m:List (TE × TE)->St->Hp->(List (V × V)->Hp->Prop)->Prop
 | [],_,H,Q=>Q [] H
 | (tk,tv) :: r,σ,H,Q=>tk σ H λx H1=>tv σ H1 λy H2=>b1m r σ H2 λps H3=>Q ((x,y) :: ps) H3
def mergeK (kvs more:List (Key × V)):List (Key × V):=more.foldl (λacc kv=>putK acc kv.1 kv.2) kvs
def tDisp (trs:List (TE × TE)):TE:=λσ H Q=>∀ p,H p=none->b1m trs σ (upd H p (.dK [])) λps H2=>H2 p=some (.dK [])/\∃ kvs:List (Key × V),ps=kvs.map (λkv=>(kV kv.1,kv.2))/\kvs.length<=15/\Q (.ref p) (upd H2 p (.dK (mergeK [] kvs)))
structure M1 (X:Cx) (o:Expr) (m:Str) (apos:Pos) (e:Expr) (cpos:Pos):Prop where
 base:attributeBase o m X.env (eval o X.env)=eval o X.env
 few:((backTo cpos (starEach [e] X.env)).all (λx=>!x.1) && (backToKw cpos (keywordEach [] X.env)).all (λx=>x.1.isSome)
  && decide (([e]:List Expr).length+([]:List Keyword).length+(if ([]:List Keyword).isEmpty then 0 else 1) < 30))=true
 line:(apos.endLine == cpos.line)=true
 trees:backTo cpos (starEach [e] X.env)=[(false,eval e X.env)]
structure M2 (X:Cx) (o:Expr) (m:Str) (apos:Pos) (e f:Expr) (cpos:Pos):Prop where
 base:attributeBase o m X.env (eval o X.env)=eval o X.env
 few:((backTo cpos (starEach [e,f] X.env)).all (λx=>!x.1) && (backToKw cpos (keywordEach [] X.env)).all (λx=>x.1.isSome)
  && decide (([e,f]:List Expr).length+([]:List Keyword).length+(if ([]:List Keyword).isEmpty then 0 else 1) < 30))=true
 line:(apos.endLine == cpos.line)=true
 trees:backTo cpos (starEach [e,f] X.env)=[(false,eval e X.env),(false,eval f X.env)]
def IsD (H:Hp) (a:Addr):Prop:=(∃ kvs,Rd H a (.dK kvs))\/∃ kvs,Rd H a (.dT kvs)
section
variable {X:Cx} {pins:List (Addr × Obj)} {σ:St} {H:Hp} {s:Shared} {a:Addr} {y d:V} {u r:Value} {o:Option V} {A:Around} {E:Value->Shared->Prop}
end
def tDPop1 (td ty:TE):TE:=λσ H Q=>td σ H λx H1=>∃ a,x=.ref a/\IsD H1 a/\ty σ H1 λy H2=>∃ kvs k v,H2 a=some (.dK kvs)/\y=kV k/\valV kvs k=some v/\Q v (upd H2 a (.dK (dropK kvs k)))
section
variable {X:Cx} {o e f:Expr} {apos cpos:Pos} {td ty tx:TE}
end
section
variable {X:Cx} {pins:List (Addr × Obj)} {σ:St} {H:Hp} {s:Shared} {a:Addr} {kvs:List (Key × V)} {A:Around} {E:Value->Shared->Prop}
end
section
variable {X:Cx} {pins:List (Addr × Obj)} {σ:St} {H:Hp} {s:Shared} {a:Addr} {y:V} {u:Value} {A:Around} {E:Value->Shared->Prop}
end
section
variable {prog:Program} {w:World} {A:Around} {E:Value->Shared->Prop} {s:Shared} {k:Bool} {ee it l:Addr} {n:Nat} {xs:Array Value} {x old:Value}
theorem a7c {Q:Value->Shared->Prop} (he:IsEnum s.heap ee it n old) (hi:SIt k s.heap it l n) (hl:SAt k s.heap l xs) (hx:xs[n]?=some x) (hne:ee≠it)
  (hQ:∀ h',IsEnumOut h' ee it ((n:Int)+1) x s.heap.objs.size->SIt k h' it l (n+1)->h'.get? s.heap.objs.size=some { cls:=.type "tuple",data:=.seq #[.int n s.toks,x] } ->
   (∀ b o,b≠ee->b≠it->s.heap.get? b=some o->h'.get? b=some o)->Q (.ref s.heap.objs.size) { s with heap:=h',toks:=s.toks+1 }) :
  wpAny (model prog w) A (Builtin.«enumerate.__next__» ⟨[.ref ee],[]⟩) (λfin s'=>∃ v,fin=.done (.ret v)/\Q v s') E s:=by
 obtain ⟨hp,g,d,tk,os⟩:=s;show wpAny _ _ (field (.ref ee) 2 >>= _) _ _ _;refine wpAny_bind (wpAny_field he rfl (x:=.ref it) rfl (wpAny_bind (b0j hi hl hx λg1 i1 b1=>?_)))
 replace b1:Heap.SameBut it hp g1:=b1
 have e1:IsEnum g1 ee it n old:=(b1.2 ee hne).trans he;show wpAny _ _ (field (.ref ee) 3 >>= _) _ _ ⟨g1,g,d,tk,os⟩;refine wpAny_bind (wpAny_field e1 rfl (x:=rawInt n) rfl ?_);show wpAny _ _ (field (.ref ee) 4 >>= _) _ _ ⟨g1,g,d,tk,os⟩;refine wpAny_bind (wpAny_field e1 rfl (x:=.none) rfl ?_);show wpAny _ _ (mkInt n >>= _) _ _ ⟨g1,g,d,tk,os⟩;refine wpAny_bind (wpAny_mkInt ?_);show wpAny _ _ (setField (.ref ee) 3 (rawInt ((n:Int)+1)) >>= _) _ _ ⟨g1,g,d,tk+1,os⟩;refine wpAny_bind (wpAny_setField_rec e1 (by simp) λg2 e2 b2=>?_)
 replace b2:Heap.SameBut ee g1 g2:=b2
 replace e2:IsEnum g2 ee it ((n:Int)+1) old:=e2
 show wpAny _ _ (setField (.ref ee) 4 .none >>= _) _ _ ⟨g2,g,d,tk+1,os⟩;refine wpAny_bind (wpAny_setField_rec e2 (by simp) λg3 e3 b3=>?_)
 replace b3:Heap.SameBut ee g2 g3:=b3
 replace e3:IsEnum g3 ee it ((n:Int)+1) old:=e3
 show wpAny _ _ (newTuple [.int n tk,x] >>= _) _ _ ⟨g3,g,d,tk+1,os⟩;refine wpAny_bind (wpAny_newTuple ?_);have e4:IsEnum (g3.push { cls:=.type "tuple",data:=.seq #[.int n tk,x] }) ee it ((n:Int)+1) old:=Heap.get?_push_of_some _ e3;generalize q4:g3.push { cls:=.type "tuple",data:=.seq #[.int n tk,x] }=g4 at e4;have sz:g3.objs.size=hp.objs.size:=by rw [b3.1,b2.1,b1.1]
 have lt:ee < hp.objs.size:=Heap.lt_size he;have t4:g4.get? hp.objs.size=some { cls:=.type "tuple",data:=.seq #[.int n tk,x] }:=by rw [<-q4,<-sz];exact Heap.get?_push_size _ rfl
 have k4:∀ b o,b≠ee->b≠it->hp.get? b=some o->g4.get? b=some o:=λb o c1 c2 hb=>by
  rw [<-q4];exact Heap.get?_push_of_some _ (b3.extBut b o c1 (b2.extBut b o c1 (b1.extBut b o c2 hb)))
 have i4:SIt k g4 it l (n+1):=i1.at λo e=>by
  rw [<-q4];exact Heap.get?_push_of_some _ (b3.extBut _ _ (Ne.symm hne) (b2.extBut _ _ (Ne.symm hne) e))
 show wpAny _ _ (Builtin.SmallTypes.ownedTupleIsFree (.ref ee) >>= _) _ _ ⟨g4,g,d,tk+1,os⟩;rw [sz];clear q4 e3 b3 e2 b2 e1 b1 i1 sz g3 g2 g1;refine wpAny_bind ?_;unfold Builtin.SmallTypes.ownedTupleIsFree;refine wpAny_bind (wpAny_field e4 rfl (x:=.none) rfl (wpAny_pure ?_));simp only [if_true];refine wpAny_bind (wpAny_rule (wpAny_bind (wpAny_field e4 rfl (x:=old) rfl (wpAny_bind (wpAny_setField_rec e4 (by simp) λg5 e5 b5=>?_)))))
 replace b5:Heap.SameBut ee g4 g5:=b5
 replace e5:IsEnum g5 ee it ((n:Int)+1) x:=e5
 show wpAny _ _ (Builtin.SmallTypes.ownedTupleHandOut (.ref ee) (.ref hp.objs.size) >>= _) _ _ ⟨g5,g,d,tk+1,os⟩;refine wpAny_bind ?_;unfold Builtin.SmallTypes.ownedTupleHandOut;refine wpAny_bind (wpAny_setField_rec e5 (by simp) λg6 e6 b6=>?_)
 replace b6:Heap.SameBut ee g5 g6:=b6
 replace e6:IsEnumOut g6 ee it ((n:Int)+1) x hp.objs.size:=e6
 refine wpAny_setField_rec e6 (by simp) λg7 e7 b7=>?_
 replace b7:Heap.SameBut ee g6 g7:=b7
 replace e7:IsEnumOut g7 ee it ((n:Int)+1) x hp.objs.size:=e7
 have up:∀ b o,b≠ee->g4.get? b=some o->g7.get? b=some o:=λb o c1 e=>b7.extBut b o c1 (b6.extBut b o c1 (b5.extBut b o c1 e));exact wpAny_bind (wpAny_letGo (wpAny_pure ⟨_,rfl,hQ g7 e7 (i4.at λo e=>up _ o (Ne.symm hne) e) (up _ _ (Nat.ne_of_gt lt) t4) λb o c1 c2 e=>up b o c1 (k4 b o c1 c2 e)⟩))
theorem a7d {Q:Option Value->Shared->Prop} (he:IsEnum s.heap ee it n old) (hi:SIt k s.heap it l n) (hl:SAt k s.heap l xs) (hx:xs[n]?=some x) (hne:ee≠it)
  (hQ:∀ h',IsEnumOut h' ee it ((n:Int)+1) x s.heap.objs.size->SIt k h' it l (n+1)->h'.get? s.heap.objs.size=some { cls:=.type "tuple",data:=.seq #[.int n s.toks,x] } ->
   (∀ b o,b≠ee->b≠it->s.heap.get? b=some o->h'.get? b=some o)->Q (some (.ref s.heap.objs.size)) { s with heap:=h',toks:=s.toks+1 }):wpAny (model prog w) A (pyNext (.ref ee)) Q E s:=by
 have hT:s.TypeIs (.ref ee) "enumerate":=⟨_,he,rfl⟩
 unfold pyNext;exact wpAny_bind (wpAny_attempt (wpAny_callSpecial?_slot (name:=Str.ofString "__next__") hT F.slot_enumerate_next (wpAny_call_entry F.slot_enumerate_next hT F.entry_enumerate_next
  (a7c he hi hl hx hne λh' a b c d=>wpAny_pure (hQ h' a b c d)) (F.args_enumerate_next_1 _))))
theorem a7e {Q:Option Value->Shared->Prop} (hh:A.handled=none) (he:IsEnum s.heap ee it n old) (hi:SIt k s.heap it l n) (hl:SAt k s.heap l xs) (hx:xs[n]?=none)
  (hQ:∀ h',Heap.ExtBut it s.heap h'->Q none { s with heap:=h' }):wpAny (model prog w) A (pyNext (.ref ee)) Q E s:=by
 have hT:s.TypeIs (.ref ee) "enumerate":=⟨_,he,rfl⟩
 unfold pyNext;refine wpAny_bind (wpAny_attempt (wpAny_callSpecial?_slot (name:=Str.ofString "__next__") hT F.slot_enumerate_next (wpAny_call_entry F.slot_enumerate_next hT F.entry_enumerate_next ?_ (F.args_enumerate_next_1 _))));show wpAny _ _ (field (.ref ee) 2 >>= _) _ _ _;refine wpAny_bind (wpAny_field he rfl (x:=.ref it) rfl (wpAny_bind (endS hh hi hl hx λh' e b he'=>?_)));obtain ⟨o,ho,hc⟩:=he';exact wpAny_bind (wpAny_isInstance (T:="StopIteration") (b:=true) ⟨o,ho,hc⟩ isSubtype_stop (wpAny_pure (hQ _ b)))
theorem meetsE (l:Addr) (xs:Array Value) (n:Nat) (dct:Option Addr) (sl:Array (Option Value)) :
  Meets (Builtin.«enumerate.__new__» ⟨[.type "enumerate",.ref l],[]⟩) (λ_ R s=>s.heap.get? l=some { cls:=.type "tuple",dict:=dct,data:=.seq xs n,slots:=sl } /\
   R (.ok (.ret (.ref (s.heap.push (itO true l)).objs.size))) { s with heap:=(s.heap.push (itO true l)).push { cls:=.type "enumerate",data:=.fields #[.none,.bool false,.ref s.heap.objs.size,rawInt 0,.none,.none] } }) :=
 .of_wp λprog w A R s h=>by
  obtain ⟨hp,g,d,tk,os⟩:=s;obtain ⟨hl,h⟩:=h;have hsub:=sub_enumerate;have hL:Heap.IsTuple (Shared.heap ⟨hp,g,d,tk,os⟩) l xs:=⟨_,hl,rfl,n,rfl⟩
  wp_walk using AutoSeq1.wpAny_loadPart' hl
  refine wpAny_stack_any λst=>wpAny_pure ?_;split
  ·rename_i c _ _ _ _ _;cases (c == Value.type "enumerate") <;> (wp_walk using AutoSeq1.wpAny_loadPart' hl,wpAny_pyIter_tuple hL) <;> exact ⟨_,rfl,h⟩
  ·wp_walk using AutoSeq1.wpAny_loadPart' hl,wpAny_pyIter_tuple hL
   exact ⟨_,rfl,h⟩
structure EAt (k:Bool) (ee it l:Addr) (n:Nat) (h:Heap):Prop where
 en:∃ old,IsEnum h ee it n old
 a1:SIt k h it l n
theorem callE {Q:Value->Shared->Prop} (h1:SAt k s.heap l xs) (h:∀ h',EAt k (s.heap.objs.size+1) s.heap.objs.size l 0 h'->(∀ c o,s.heap.get? c=some o->h'.get? c=some o)->Q (.ref (s.heap.objs.size+1)) { s with heap:=h' }) :
  wpAny (model prog w) A (call (.type "enumerate") [.ref l]) Q E s:=by
 cases k with
 | false=>exact call_enumerate_list h1 λh' he hi _ kp=>h h' ⟨⟨_,he⟩,hi⟩ kp
 | true =>
  obtain ⟨⟨c,dct,dt,sl⟩,hl,hc,n,hd⟩:=h1
  replace hc:c=.type "tuple":=hc
  replace hd:dt=.seq xs n:=hd
  subst hc hd;refine callType_new F.called_enumerate (by decide) (F.typeCall_enumerate_1 _) (F.newCall_enumerate_1 _) (λobj=>F.args_object_init_2 obj _) F.entry_enumerate_new (meetsE l xs n dct sl) ⟨hl,?_⟩;have z1:(s.heap.push (itO true l)).objs.size=s.heap.objs.size+1:=Heap.size_push ..;show _/\_;rw [z1];have g1:IsEnum ((s.heap.push (itO true l)).push { cls:=.type "enumerate",data:=.fields #[.none,.bool false,.ref s.heap.objs.size,rawInt 0,.none,.none] }) (s.heap.objs.size+1) s.heap.objs.size 0 .none:=by
   have q:=Heap.get?_push_size (s.heap.push (itO true l)) (o:={ cls:=.type "enumerate",data:=.fields #[.none,.bool false,.ref s.heap.objs.size,rawInt 0,.none,.none] }) rfl;rw [z1] at q;exact q
  exact ⟨⟨_,g1,rfl⟩,h _ ⟨⟨_,g1⟩,.new (Heap.get?_push_of_some _ (Heap.get?_push_size _ a4L))⟩ λc o e=>Heap.get?_push_of_some _ (Heap.get?_push_of_some _ e)⟩
end
def Ite (K:PySem.W.Frag) (k:Bool) (a:Addr):It :=
 ⟨λi H=>∃ xs x,SqK K k H a xs/\xs[i]?=some x,
  λi H v H'=>∃ p x,v=.ref p/\H p=none/\(∀ xs,SqK K k H a xs->xs[i]?=some x)/\H'=upd H p (.tup [.int i,x]),
  λi H=>∃ xs,SqK K k H a xs/\xs.length<=i⟩
theorem EAt.obj {k:Bool} {ee it l:Addr} {n:Nat} {h:Heap} (Z:EAt k ee it l n h):∀ b∈[ee,it],∃ o,h.get? b=some o/\∀ v,o.data≠.cell v:=λb hb=>by
 obtain ⟨⟨old,he⟩,h1⟩:=Z;simp only [List.mem_cons,List.not_mem_nil,or_false] at hb;rcases hb with rfl | rfl
 ·exact ⟨_,he,λv z=>by cases z⟩
 ·exact h1.obj
theorem a8r {P:Program} {w:World} {K:PySem.W.Frag} {elts:List Expr} {x1} {pos:Pos} {k:Bool} {ee it a:Addr} (hne:ee≠it):b0W P w K (.Tuple elts x1 pos) (Ite K k a) [ee,it] ee (λn h=>EAt k ee it a n h) where
 mem:=by simp
 obj:=λi h st=>st.obj
 keep:=λi h h' ⟨⟨old,he⟩,h1⟩ kp=>⟨⟨old,kp ee (by simp) _ he⟩,h1.at λo e=>kp it (by simp) o e⟩
 item:=by
  intro X hP hw hK hc i pins s σ H E I hf st hg;subst hP hw hK;obtain ⟨xs,x,q1,hx⟩:=hg;obtain ⟨us,r1,p1⟩:=b0l I q1;obtain ⟨u,hu,ru⟩:=r1.get hx;have lt:∀ b∈[ee,it],b < s.heap.objs.size:=λb hb=>by
   obtain ⟨o,ho,_⟩:=st.obj b hb;exact Heap.lt_size ho
  obtain ⟨⟨old,he⟩,h1⟩:=st;refine a7d he h1 p1 (x:=u) (by simpa using hu) hne λh' z1 a1 pr kk=>?_;refine ⟨_,rfl,wpAny_letOwnedTupleGo_enum (s:={ s with heap:=h',toks:=s.toks+1 }) z1 λh2 z2 b2=>?_⟩
  replace b2:Heap.SameBut ee h' h2:=b2
  have hT:H s.heap.objs.size=none:=I.hok.fresh (Nat.le_refl _);have I1:Inv X pins σ (upd H s.heap.objs.size (.tup [.int i,x])) { s with heap:=s.heap.push { cls:=.type "tuple",data:=.seq #[.int i s.toks,u] },toks:=s.toks+1 }:=I.laid (t':=s.toks+1) (λb u e=>Heap.get?_push_of_some _ e) (Nat.le_refl _) ⟨by show 2<=sizeLine;decide,[.int i s.toks,u],.cons ⟨_,rfl⟩ (.cons ru .nil),⟨_,Heap.get?_push_size _ rfl,_,rfl⟩⟩;have Tz:s.heap.objs.size≠ee:=Nat.ne_of_gt (lt ee (by simp));have fp:∀ b∈[ee,it],a9D X pins (upd H s.heap.objs.size (.tup [.int i,x])) b:=λb hb=>by
   obtain ⟨f0,f1,f2,f3,f4,f5⟩:=hf b hb;exact ⟨by rw [a0j (Nat.ne_of_lt (lt b hb))];exact f0,f1,f2,f3,f4,f5⟩
  have I2:=I1.turnedL (h':=h2) (t':=s.toks+1) (λc o hc e=>by
   simp only [List.mem_cons,List.not_mem_nil,or_false,not_or] at hc;by_cases zc:c=s.heap.objs.size
   ·subst zc;rw [Heap.get?_push_size _ rfl] at e;cases e;exact b2.extBut _ _ Tz pr
   ·have e':s.heap.get? c=some o:=by rw [<-e];exact (Heap.get?_push_ne _ _ _ zc).symm
    exact b2.extBut _ _ hc.1 (kk c o hc.1 hc.2 e')) fp
  refine ⟨.ref s.heap.objs.size,_,I2,rfl,⟨_,x,rfl,hT,λzs hz=>?_,rfl⟩,⟨⟨_,z2⟩,a1.at λo e=>b2.extBut _ _ (Ne.symm hne) e⟩,λb hb=>(fp b hb).1⟩;rw [a4K I hz q1];exact hx
 done:=by
  intro X hP hw hK hc i pins s σ H E I hf st hg;subst hP hw hK;obtain ⟨xs,q1,hl⟩:=hg;obtain ⟨us,r1,p1⟩:=b0l I q1;have e1:=r1.length;obtain ⟨⟨old,he⟩,h1⟩:=st;refine a7e (I.ok.hd hc) he h1 p1 (by simp;omega) λh' kk=>⟨rfl,I.turnedL (t':=s.toks) (λc o hc e=>?_) hf⟩
  simp only [List.mem_cons,List.not_mem_nil,or_false,not_or] at hc;exact kk c o hc.2 e
 self:=λ_ _ _ _ _ ⟨⟨_,he⟩,_⟩ h=>wpAny_pyIter_enum he h
theorem b_enum:bootBuiltins "enumerate"=some (.type "enumerate"):=by decide +kernel
def iEnum (K:PySem.W.Frag) (k:Bool) (ta:TA):TI:=λσ H R=>ta σ H λvs H1=>∃ a xs,vs=[.ref a]/\SqK K k H1 a xs/\R (Ite K k a) H1
theorem b2v {X:Cx} {elts:List Expr} {x1} {tp:Pos} {a:Expr} {ta:TA} {p pos:Pos} (k:Bool) (hg:Gl X "enumerate") (hm:X.mg "enumerate"=none) (ha:PA X [a] ta) (hs:starEach [a] X.env=[(false,eval a X.env)]:=by rfl) :
  PI X (.Tuple elts x1 tp) (.Call (.Name "enumerate" p) [a] [] pos) (iEnum X.K k ta):=by
 intro pins s σ H R I h;refine Call_ (a2E I hg hm b_enum (PyProof.Rows.callWith_type1 (thn (ha pos pins s σ H _ I h) λus s1 ⟨vs,H1,I1,r1,q1⟩=>?_) (by rw [hs];rfl) rfl));obtain ⟨a',xs,e,q1,q⟩:=q1;subst e;obtain ⟨u,rfl,ru⟩:=r1.one;cases ru;obtain ⟨us,e1,p1⟩:=b0l I1 q1;refine callE p1 λh' Z kp=>?_;obtain ⟨old,he⟩:=Z.en;refine wpAny_pyIter_enum (s:={ s1 with heap:=h' }) he ?_;refine ⟨_,[s1.heap.objs.size+1,s1.heap.objs.size],_,_,H1,rfl,I1.kept (t':=s1.toks) kp,a8r (Nat.succ_ne_self _),Z,λc hc=>?_,q⟩;have ge:s1.heap.objs.size<=c:=by
  simp only [List.mem_cons,List.not_mem_nil,or_false] at hc;rcases hc with rfl | rfl <;> omega
 exact I1.fpOk ge (I1.hok.fresh ge)
theorem b0p {K:PySem.W.Frag} {k:Bool} {a:Addr} {xs:List V} {g:TG} {tb:TS} {D:a9C} {σ:St} {H:Hp} (Pv:Nat->St->Hp->Prop) (h0:Pv 0 σ H) (hl:∀ i σ H,i<=xs.length->Pv i σ H->SqK K k H a xs)
  (hs:∀ i x p σ H,xs[i]?=some x->Pv i σ H->H p=none->g (.ref p) σ (upd H p (.tup [.int i,x])) λσ2 H2=>tb { D with nx:=Pv (i+1),ct:=Pv (i+1),bk:=D.nx } σ2 H2) (hd:∀ σ H,Pv xs.length σ H->D.nx σ H) :
  ∃ W:Nat->Nat->St->Hp->Prop,(∃ m,W 0 m σ H)/\∀ i m σ H,W i m σ H ->
   ((Ite K k a).stop i H/\D.nx σ H)\/((Ite K k a).go i H/\∃ N:St->Hp->Prop,(∀ σ' H',N σ' H'->∃ m',m' < m/\W (i+1) m' σ' H')/\∀ x H',(Ite K k a).yld i H x H'->g x σ H' λσ2 H2=>tb { D with nx:=N,ct:=N,bk:=D.nx } σ2 H2):=by
 refine ⟨λi m σ H=>m=xs.length - i/\i<=xs.length/\Pv i σ H,⟨xs.length,by simp,Nat.zero_le _,h0⟩,?_⟩;rintro i m σ H ⟨rfl,hi,p⟩;have q1:=hl i σ H hi p;by_cases hlt:i < xs.length
 ·refine .inr ⟨⟨xs,_,q1,List.getElem?_eq_getElem hlt⟩,Pv (i+1),λσ' H' n=>⟨xs.length - (i+1),by omega,rfl,by omega,n⟩,?_⟩;rintro v H' ⟨p',x,rfl,hn,e1,rfl⟩;exact hs i x p' σ H (e1 _ q1) p hn
 ·have e:i=xs.length:=by omega
  subst e;exact .inl ⟨⟨xs,q1,Nat.le_refl _⟩,hd σ H p⟩
abbrev B30:Int:=1000000000000000000000000000000
def b2w (i j:Int):Prop:=(0<=i/\i<=10000000000 * B30)/\(0<=j/\j<=10000000000 * B30)
theorem b2w.ok {i j:Int} (h:b2w i j):IntMulOk i j:=by
 have q:∀ k:Int,0<=k/\k<=10000000000 * B30->PySem.Builtin.Int.intBits k<=140:=λk hk=>intBits_le_iff.mpr (by
  have e:(2:Nat) ^ 140=1393796574908163946345982392040522594123776:=by decide
  rw [e];unfold B30 at hk;omega)
 exact IntMulOk.of_le (q i h.1) (q j h.2) (by decide)
theorem b2x {X:Cx}:OpR X (binaryOp .Mult) (rI b2w λi j=>.int (i * j)):=opI λ_ _ _ _ _ _ _ hc q=>PyProof.Rows.mul_int q hc.ok
section
variable {X:Cx} {k:Nat} {f C:Addr} {fd:FuncData} {ps:List Str} {sp:Sp} {Ex:St->XK} {x m:Str} {p pos apos:Pos} {e o:Expr} {es:List Expr} {ta:TE} {t:TA}
theorem a8s {pins:List (Addr × Obj)} {σ:St} {H:Hp} {s:Shared} {Q:VK} {us:List Value} {vs:List V} (F:a1a X.prog X.w X.K X.mg X.base (CXF X.prog X.w) k f fd ps sp) (hr:a3l k X.A) (hb:a1X X.K fd ps []) (hx:a3Q X Ex)
  (I:Inv X pins σ H s) (r:a0U vs us) (h:sp vs H Q (Ex σ)):wpAny (model X.prog X.w) X.A (call (.ref f) us) (EP X pins σ Q) X.xe s:=by
 have hl:us.length=ps.length:=by rw [<-r.length];exact F.len _ _ _ _ h
 have hb':=hb s us I.kIn (by rw [List.append_nil];exact hl);rw [List.append_nil] at hb';refine wpAny_call (codeAny_mono (F.run X.A X.stack s H ⟨us,[]⟩ us vs Q (Ex σ) hr I.env0 hb' r h) λr s' hq=>?_);cases r with
 | error e=>exact hx pins σ H s e s' I hq
 | ok fl =>
  cases fl with
  | ret u=>exact I.after hq
  | next=>exact False.elim hq
  | brk=>exact False.elim hq
  | cont=>exact False.elim hq
def b1n (C:Addr) (m:Str) (sp:Sp) (Ex:St->XK) (ta:TE) (t:TA):TE:=λσ H Q=>ta σ H λx H1=>∃ a dx fs,x=.ref a/\H1 a=some (.ins C dx fs)/\fs.lookup m=none /\
 t σ H1 λvs H2=>sp (x :: vs) H2 Q (Ex σ)
theorem a4M {pl:Sem Bool} (he:PE X o ta) (c:Cls X.K C) (hm:b2c X.K C m f) (F:a1a X.prog X.w X.K X.mg X.base (CXF X.prog X.w) k f fd ps sp) (hr:a3l k X.A) (hb:a1X X.K fd ps []) (hx:a3Q X Ex) (ha:PA X (e :: es) t)
  (hst:starEach (e :: es) X.env=(false,eval e X.env) :: starEach es X.env:=by rfl) (hpl:(backTo pos (starEach es X.env)).any (·.1)=false:=by rfl)
  (ht:eval (.Call (.Attribute o m apos) (e :: es) [] pos) X.env=(do
   let ov <-eval o X.env
   standAt apos.atName
   let (f,first) <-holding [ov] (getMethod ov m pl)
   callWith pos f first (backTo pos (starEach (e :: es) X.env)) (backToKw pos (keywordEach [] X.env))):=by rfl) :
  PE X (.Call (.Attribute o m apos) (e :: es) [] pos) (b1n C m sp Ex ta t):=by
 intro pins s σ H Q I h;refine PySem.W.methodCall_KW (pl:=pl) (thn (he pins s σ H _ I h) λu s1 ⟨x,H1,I1,rx,a,dx,fs,ex,ea,l,q⟩=>?_) ht;subst ex;obtain rfl:u=Value.ref a:=rx;refine a2p I1 ea c hm l ?_;refine PySem.W.callWith_K (first:=[.ref a]) (h₀:=X.base) I.ok.mod.kin hm.kp (thn (ha pos pins s1 σ H1 _ I1 q) λus s2 ⟨vs,H2,I2,r,q2⟩=>⟨I2.kIn,?_⟩) hst hpl;exact a8s (us:=.ref a :: us) (vs:=.ref a :: vs) F hr hb hx I2 (.cons rfl r) q2
theorem a8t {pl:Sem Bool} (he:PE X o ta) (c:Cls X.K C) (hm:b2c X.K C m f) (F:a1a X.prog X.w X.K X.mg X.base (CXF X.prog X.w) k f fd ps sp) (hr:a3l k X.A) (hb:a1X X.K fd ps []) (hx:a3Q X Ex)
  (ht:eval (.Call (.Attribute o m apos) [] [] pos) X.env=(do
   let ov <-eval o X.env
   standAt apos.atName
   let (f,first) <-holding [ov] (getMethod ov m pl)
   callWith pos f first (backTo pos (starEach [] X.env)) (backToKw pos (keywordEach [] X.env))):=by rfl) :
  PE X (.Call (.Attribute o m apos) [] [] pos) (b1n C m sp Ex ta b2e):=by
 intro pins s σ H Q I h;refine PySem.W.methodCall_KW (pl:=pl) (thn (he pins s σ H _ I h) λu s1 ⟨x,H1,I1,rx,a,dx,fs,ex,ea,l,q⟩=>?_) ht;subst ex;obtain rfl:u=Value.ref a:=rx;refine a2p I1 ea c hm l ?_;exact PySem.W.callWith_K0 (first:=[.ref a]) I1.kIn hm.kp (a8s (us:=[.ref a]) (vs:=[.ref a]) F hr hb hx I1 (.cons rfl .nil) q)
end
section
variable {X:Cx} {elt iter:Expr} {tg:Str} {tp:Pos} {cs:List Expr} {scope:Scope} {pos:Pos} {tc:TT} {te:TE} {M:List Str}
theorem a2N {tl:TE} {pos1 spos:Pos} {i:Nat} {x:Str} (hN:X.N.Nodup) (hix:X.N[i]?=some x) (hx:X.env.scope.names.lookup x=some .local) (hc:X.calm=true) (S:a0l scope X.env X.N M) (nd:(tg :: M).Nodup) (hl:scope.names.lookup tg=some .local) (hi:PE X iter tl) (mo:a2L tl)
  (hin:a4G X scope tg M cs elt tc te) (hw:swapsWith (.ListComp elt [⟨.Name tg tp,iter,cs,0⟩] scope pos) (some (.Name x pos1)) spos.line X.env=pure true:=by rfl) (hf:∀ x,foldedSetIterable iter X.env x=pure x:=by intro _;rfl) :
  PS X (.Assign [.Name x pos1] (.ListComp elt [⟨.Name tg tp,iter,cs,0⟩] scope pos) spos) (a7A (b1d X.K tl tc te) (a1E i)):=by
 refine a6q hc S nd hl (a2U hi) hin (λσ H Q h=>?_) hN hix hx hw hf;refine mo σ H _ _ (λv H1 q=>?_) h;obtain ⟨a,xs,e,j1,q⟩:=q;refine ⟨a,e,⟨xs,j1⟩,λd hd=>?_⟩;obtain ⟨Pv,h0,hl,hs,hd⟩:=q d hd;exact a5p (k:=1) (g:=a1E 0) Pv h0 hl hs hd
end
section
variable {P:Program} {w:World} {A:Around} {H:Hp} {s:Shared} {n:Nat} {α β γ:Type} [DecidableEq α] [DecidableEq β] [DecidableEq γ]
variable {R1:V->α->Prop} {R2:V->β->Prop} {R3:V->γ->Prop}
end
def srt (ns:List Int):List Int:=ns.mergeSort λa b=>decide (a<=b)
theorem a6w (ns:List Int):(srt ns).Perm ns:=List.mergeSort_perm ns _
theorem a5x (ns:List Int):(srt ns).Pairwise (·<=·):=by
 have h:=List.pairwise_mergeSort (le:=λa b:Int=>decide (a<=b)) (λa b c h1 h2=>by simp at *;omega) (λa b=>by simp;omega) ns;exact h.imp λh=>by simpa using h
def SqI (H:Hp) (a:Addr) (ns:List Int):Prop:=H a=some (.lst (ns.map V.int))\/H a=some (.tup (ns.map V.int))
theorem a7f {ns:List Int} {us:List Value} (r:a0U (ns.map V.int) us):IntsAre us ns:=by
 induction ns generalizing us with
 | nil=>cases r;exact .nil
 | cons n ns ih =>
  cases r with
  | cons r rr =>
   obtain ⟨t,rfl⟩:=r;exact .cons _ _ (ih rr)
theorem a3R {vs:List Value} {ns:List Int} (h:IntsAre vs ns):vs.length=ns.length:=by
 induction h with
 | nil=>rfl
 | cons n t _ ih=>simp [ih]
theorem b0q {ns:List Int} {m:Int} (h:m∈ns) (h1:∀ x∈ns,m<=x):(srt ns).headD 0=m:=by
 have p:=a6w ns;have r:=a5x ns;cases e:srt ns with
 | nil =>
  rw [e] at p;have:=p.symm.mem_iff.mp h;cases this
 | cons a t =>
  rw [e] at p r;have ha:m<=a:=h1 a (p.mem_iff.mp (.head _));have hm:m∈a :: t:=p.symm.mem_iff.mp h;show a=m;cases hm with
  | head=>rfl
  | tail _ hm =>
   have:=(List.pairwise_cons.mp r).1 m hm;omega
theorem b2y {its:List Value} {ns:List Int} (hI:IntsAre its ns) (ne:ns≠[]) {v:Value} (h:its.toArray[argBest (λi j=>decide (ns.getD i 0 < ns.getD j 0)) (its.toArray.size - 1)]?=some v):∃ t,v=.int ((srt ns).headD 0) t:=by
 have li:=a3R hI;have hb:=argBest_lt (λi=>ns.getD i 0) (its.toArray.size - 1);have ez:its.toArray.size=its.length:=List.size_toArray;have n0:0 < ns.length:=List.length_pos_iff.mpr ne;have hv:its[argBest (λi j=>decide (ns.getD i 0 < ns.getD j 0)) (its.toArray.size - 1)]?=some v:=by simpa using h
 obtain ⟨t,e⟩:=hI.int_at _ v hv;refine ⟨t,?_⟩;rw [e];congr 1;refine (b0q ?_ λx hx=>?_).symm
 ·rw [List.getD_eq_getElem?_getD,List.getElem?_eq_getElem (by have:=hb.1;omega)];exact List.getElem_mem _
 ·obtain ⟨j,hj⟩:=List.mem_iff_getElem?.mp hx;have jl:=(List.getElem?_eq_some_iff.mp hj).1;have:=hb.2 j (by omega);rw [show ns.getD j 0=x by rw [List.getD_eq_getElem?_getD,hj];rfl] at this;exact this
theorem b_min':bootBuiltins "min"=some (.builtin "min"):=by decide +kernel
section
variable {prog:Program} {w:World} {A:Around} {R:Result->Shared->Prop} {I:Addr} {fp wr:List Addr} {n:Nat} {P:Nat->Value->Prop} {St:Nat->Heap->Prop}
abbrev kwD (d:Value):List (Str × Value):=[(Str.ofString "default",d)]
theorem b2z (W:Walks prog w A.in1 I fp wr n P St) (bt:Nat->Nat->Bool) (C:CmpOf prog w A.in1 .Lt P bt) (S:Addr) (hS:S∉fp) (d:Value) :
  ∀ (k j:Nat) (s:Shared) (vb:Value) (c:Nat),n - (j+1)=k->j+1<=n->St (j+1) s.heap->P (argBest bt j) vb->s.heap.get? S=some { cls:=.type "list",data:=.seq #[vb,vb] c } ->
   (∀ (v:Value) (h':Heap) (tk:Nat),P (argBest bt (n - 1)) v->(∀ (b:Addr) (o:Obj),b∉wr->b≠S->s.heap.get? b=some o->h'.get? b=some o)->R (.ok (.ret v)) { s with heap:=h',toks:=tk }) ->
   codeAny (model prog w) A (.builtin "min.loop" ⟨[.ref I,.none,.ref S],kwD d⟩) R s:=by
 intro k
 induction k with
 | zero =>
  intro j s vb c hk hj st pv hs q;have ej:j+1=n:=by omega
  refine codeAny_builtin F.entry_min_loop ?_;rw [Around.under_plainId F.plain_min_loop _];show wpAny _ A.in1 (seqItems? (.ref S) >>= _) _ _ s;refine wpAny_bind (wpAny_seqItems hs rfl ?_);refine wpAny_bind (wpAny_tryCatch ?_);subst ej;refine W.done s _ _ st λh' tk hk'=>?_;have hs':=hk' S _ (λz=>hS (W.sub _ z)) hs;show wpAny _ A.in1 (updateSeq S _ >>= _) _ _ _;refine wpAny_bind (wpAny_updateSeq hs' rfl ?_);refine wpAny_bind (wpAny_letGo ?_);refine wpAny_pure ?_;refine q vb _ tk pv λb o hb hne e=>?_;rw [Heap.get?_update_ne _ _ _ _ hne];exact hk' b o hb e
 | succ k ih =>
  intro j s vb c hk hj st pv hs q;have hlt:j+1 < n:=by omega
  refine codeAny_builtin F.entry_min_loop ?_;rw [Around.under_plainId F.plain_min_loop _];show wpAny _ A.in1 (seqItems? (.ref S) >>= _) _ _ s;refine wpAny_bind (wpAny_seqItems hs rfl ?_);refine wpAny_bind (wpAny_tryCatch ?_);refine W.item (j+1) s _ _ hlt st λv h' tk hv st' hk'=>?_;have hs':=hk' S _ (λz=>hS (W.sub _ z)) hs;show wpAny _ A.in1 (tryCatch (holding [v,v] (richCompare .Lt v vb >>= _)) _ >>= _) _ _ _;refine wpAny_bind (wpAny_tryCatch (wpAny_holding (wpAny_bind ?_)));refine C (j+1) (argBest bt j) v vb _ _ _ hv pv ?_;refine wpAny_bind (wpAny_holding (wpAny_truthy_bool ?_));refine wpAny_bind (wpAny_letGo (wpAny_pure ?_));have eb:argBest bt (j+1)=if bt (j+1) (argBest bt j)=true then j+1 else argBest bt j:=rfl
  cases hb:bt (j+1) (argBest bt j) with
  | true =>
   rw [hb,if_pos rfl] at eb;show wpAny _ A.in1 (updateSeq S _ >>= _) _ _ _;refine wpAny_bind (wpAny_updateSeq hs' rfl ?_);refine wpAny_bind (wpAny_letGo ?_);refine wpAny_pure ⟨plainId_quiet F.plain_min_loop _,?_⟩;have hs2:=get?_update_seq (c:="list") hs' (λ_=>#[v,v]);refine ih (j+1) _ v _ (by omega) (by omega) ?_ (by rw [eb];exact hv) hs2 λv2 h2 tk2 hv2 hk2=>?_
   ·refine W.frame (j+2) h' _ st' λb hb2 o e=>?_;rw [Heap.get?_update_ne _ _ _ _ (λz=>hS (by rw [<-z];exact hb2))];exact e
   ·refine q v2 h2 tk2 hv2 λb o hb2 hne e=>hk2 b o hb2 hne ?_;rw [Heap.get?_update_ne _ _ _ _ hne];exact hk' b o hb2 e
  | false =>
   rw [hb,if_neg (by decide)] at eb;show wpAny _ A.in1 (letGo _ _ >>= _) _ _ _;refine wpAny_bind (wpAny_letGo ?_);refine wpAny_pure ⟨plainId_quiet F.plain_min_loop _,?_⟩;exact ih (j+1) _ vb c (by omega) (by omega) st' (by rw [eb];exact pv) hs' λv2 h2 tk2 hv2 hk2=>q v2 h2 tk2 hv2 λb o hb2 hne e=>hk2 b o hb2 hne (hk' b o hb2 e)
theorem a7g (W:Walks prog w A.in1 I fp wr n P St) (bt:Nat->Nat->Bool) (C:CmpOf prog w A.in1 .Lt P bt) (S:Addr) (hS:S∉fp) (d:Value) {s:Shared} {c:Nat} (st:St 0 s.heap) (hs:s.heap.get? S=some { cls:=.type "list",data:=.seq #[] c })
  (q0:n=0->∀ (h':Heap) (tk:Nat),(∀ (b:Addr) (o:Obj),b∉wr->b≠S->s.heap.get? b=some o->h'.get? b=some o)->R (.ok (.ret d)) { s with heap:=h',toks:=tk })
  (q:0 < n->∀ (v:Value) (h':Heap) (tk:Nat),P (argBest bt (n - 1)) v->(∀ (b:Addr) (o:Obj),b∉wr->b≠S->s.heap.get? b=some o->h'.get? b=some o)->R (.ok (.ret v)) { s with heap:=h',toks:=tk }) :
  codeAny (model prog w) A (.builtin "min.loop" ⟨[.ref I,.none,.ref S],kwD d⟩) R s:=by
 refine codeAny_builtin F.entry_min_loop ?_;rw [Around.under_plainId F.plain_min_loop _];show wpAny _ A.in1 (seqItems? (.ref S) >>= _) _ _ s;refine wpAny_bind (wpAny_seqItems hs rfl ?_);refine wpAny_bind (wpAny_tryCatch ?_);by_cases n0:n=0
 ·subst n0;refine W.done s _ _ st λh' tk hk'=>?_;show wpAny _ A.in1 (rule _ >>= _) _ _ _;refine wpAny_bind (wpAny_rule (wpAny_pure ?_));exact q0 rfl h' tk λb o hb _ e=>hk' b o hb e
 ·have hlt:0 < n:=by omega
  refine W.item 0 s _ _ hlt st λv h' tk hv st' hk'=>?_;have hs':=hk' S _ (λz=>hS (W.sub _ z)) hs;show wpAny _ A.in1 (updateSeq S _ >>= _) _ _ _;refine wpAny_bind (wpAny_updateSeq hs' rfl ?_);refine wpAny_pure ⟨plainId_quiet F.plain_min_loop _,?_⟩;have hs2:=get?_update_seq (c:="list") hs' (λ_=>#[v,v]);refine b2z W bt C S hS d (n - 1) 0 _ v _ rfl hlt ?_ hv hs2 λv2 h2 tk2 hv2 hk2=>?_
  ·refine W.frame 1 h' _ st' λb hb2 o e=>?_;rw [Heap.get?_update_ne _ _ _ _ (λz=>hS (by rw [<-z];exact hb2))];exact e
  ·refine q hlt v2 h2 tk2 hv2 λb o hb2 hne e=>hk2 b o hb2 hne ?_;rw [Heap.get?_update_ne _ _ _ _ hne];exact hk' b o hb2 e
end
def rMinD (xs zs:List V) (H:Hp) (Q:VK):Prop:=∃ (a:Addr) (ns:List Int),xs=[.ref a]/\zs=[.non]/\H a=some (.lst (ns.map V.int))/\Q (if ns=[] then .non else .int ((srt ns).headD 0)) H
theorem a8u (a d:Value):argsOk "min" { pos:=[a],kw:=kwD d }:=rfl
theorem b0r {X:Cx} (hc:X.calm=true) {pins:List (Addr × Obj)} {s:Shared} {σ:St} {H:Hp} {vs zs:List V} {us ws:List Value} {Q:VK} (I:Inv X pins σ H s) (r:a0U vs us) (rz:a0U zs ws) (h:rMinD vs zs H Q) :
  wpAny (model X.prog X.w) X.A (call (.builtin "min") us (([Str.ofString "default"]:List Str).zip ws)) (EP X pins σ Q) X.xe s:=by
 obtain ⟨a,ns,rfl,rfl,e,q⟩:=h;obtain ⟨u,rfl,ru⟩:=a3q r;obtain ⟨d,rfl,rd⟩:=a3q rz;cases ru;cases rd;obtain ⟨_,its,n,rv,he⟩:=(show a1T X.prog X.w H s.heap a (.lst (ns.map V.int)) from I.hok a _ e)
 have hI:=a7f rv;have li:=a3R hI;have hlt:=Heap.lt_size he;show wpAny _ _ (call (.builtin "min") [.ref a] (kwD .none)) _ _ _;refine kmb_tree F.kind_min F.plain_min F.entry_min (a8u _ _) ?_;have eB:Builtin.Builtins.bindParams "min" ["key","default"] 0 { kw:=kwD .none }=pure [none,some .none]:=rfl;show wpAny _ X.A.in1 (Builtin.Builtins.bindParams "min" ["key","default"] 0 { kw:=kwD .none } >>= _) _ _ s;rw [eB];show wpAny _ X.A.in1 (pyIter (.ref a) >>= _) _ _ s;refine wpAny_bind (wpAny_pyIter_list (a4r he) ?_);refine wpAny_bind (wpAny_newList ?_ (Nat.zero_le _));refine wpAny_pure ⟨plainId_quiet F.plain_min_loop _,?_⟩;have sz:(s.heap.push { cls:=.type "list_iterator",data:=.fields #[.ref a,rawInt 0] }).objs.size=s.heap.objs.size+1:=Heap.size_push _ _;have hS:(s.heap.push { cls:=.type "list_iterator",data:=.fields #[.ref a,rawInt 0] }).objs.size∉[s.heap.objs.size,a]:=λz=>by
  rw [sz] at z;simp only [List.mem_cons,List.not_mem_nil,or_false] at z;rcases z with z | z
  ·exact absurd z (Nat.ne_of_gt (Nat.lt_succ_self _))
  ·rw [<-z] at hlt;exact absurd hlt (Nat.not_lt.mpr (Nat.le_succ _))
 have up:∀ b o,s.heap.get? b=some o->((s.heap.push { cls:=.type "list_iterator",data:=.fields #[.ref a,rawInt 0] }).push { cls:=.type "list",data:=.seq (([]:List Value).toArray) }).get? b=some o:=λb o eo=>Heap.get?_push_of_some _ (Heap.get?_push_of_some _ eo);have ne1:∀ b o,s.heap.get? b=some o->b∉[s.heap.objs.size]:=λb o eo z=>by
  rw [List.mem_singleton.mp z] at eo;exact absurd (Heap.lt_size eo) (Nat.lt_irrefl _)
 have ne2:∀ b o,s.heap.get? b=some o->b≠(s.heap.push { cls:=.type "list_iterator",data:=.fields #[.ref a,rawInt 0] }).objs.size:=λb o eo z=>by
  rw [sz] at z;rw [z] at eo;exact absurd (Heap.lt_size eo) (Nat.not_lt.mpr (Nat.le_succ _))
 refine a7g (A:=X.A) (c:=0) (Walks.list (A:=X.A.in1) (by show X.A.handled=none;exact I.ok.hd hc) s.heap.objs.size a (Nat.ne_of_lt hlt) its.toArray) (λi j=>decide (ns.getD i 0 < ns.getD j 0)) (CmpOf.ints_lt _ (λi v hv=>hI.int_at i v (by simpa using hv))) _ hS .none
  ⟨⟨_,Heap.get?_push_of_some _ (Heap.get?_push_size _ rfl),rfl,rfl⟩,a4r (up _ _ he)⟩ (Heap.get?_push_size _ rfl) (λn0 h' tk hk=>?_) (λn0 v h' tk hv hk=>?_)
 ·have e0:ns=[]:=List.length_eq_zero_iff.mp (by rw [<-li];rw [List.size_toArray] at n0;exact n0);rw [if_pos e0] at q;exact ⟨.non,H,I.kept (h':=h') (t':=tk) (λb o eo=>hk b o (ne1 b o eo) (ne2 b o eo) (up b o eo)),rfl,q⟩
 ·have e0:ns≠[]:=λz=>by
   rw [z] at li;rw [List.size_toArray] at n0;simp at li;rw [li] at n0;simp at n0
  rw [if_neg e0] at q;obtain ⟨t,rfl⟩:=b2y hI e0 hv;exact ⟨.int _,H,I.kept (h':=h') (t':=tk) (λb o eo=>hk b o (ne1 b o eo) (ne2 b o eo) (up b o eo)),⟨t,rfl⟩,q⟩
def tMinD (t tk:TA):TE:=λσ H Q=>t σ H λvs H1=>tk σ H1 λzs H2=>rMinD vs zs H2 Q
theorem b2A {X:Cx} {e e2:Expr} {p pos kpos:Pos} {t tk:TA} (hc:X.calm=true) (hg:Gl X "min") (hm:X.mg "min"=none) (ha:PA X [e] t) (hk:PK X [⟨some "default",e2,kpos⟩] tk) (h1:backTo pos (starEach [e] X.env)=(false,eval e X.env) :: backTo pos (starEach [] X.env):=by rfl)
  (h2:((backTo pos (starEach [e] X.env)).any (·.1))=false:=by rfl) (h3:(backToKw pos (keywordEach [⟨some "default",e2,kpos⟩] X.env)).all (·.1.isSome)=true:=by rfl) (h4:(backToKw pos (keywordEach [⟨some "default",e2,kpos⟩] X.env)).any (·.1.isNone)=false:=by rfl) (h5:(backToKw pos (keywordEach [⟨some "default",e2,kpos⟩] X.env)).filterMap (·.1)=[Str.ofString "default"]:=by rfl) :
  PE X (.Call (.Name "min" p) [e] [⟨some "default",e2,kpos⟩] pos) (tMinD t tk):=by
 intro pins s σ H Q I h;refine wpAny_Call_Name_kw (a2E I hg hm b_min' ?_);refine callWith_kw (thn (ha pos pins s σ H _ I h) λus s1 ⟨vs,H1,I1,r,q⟩=>?_) h1 h2 h3 h4;refine thn (hk pos pins s1 σ H1 _ I1 q) λws s2 ⟨zs,H2,I2,rz,q2⟩=>?_;rw [h5];exact b0r hc I2 r rz q2
def Itr3 (lo st:Int) (n:Nat):It:=⟨λi _=>i < n,λi H x H'=>H'=H/\x=.int (lo+i * st),λi _=>n<=i⟩
theorem a5U {P:Program} {w:World} {K:PySem.W.Frag} {tg:Expr} (it:Addr) (lo st:Int) (n:Nat):b0W P w K tg (Itr3 lo st n) [it] it (λi h=>IsRangeIter h it (lo+(i:Nat) * st) ((n:Int) - (i:Nat)) st) where
 mem:=by simp
 obj:=λi h st b hb=>by
  have e:b=it:=by simpa using hb
  subst e;exact ⟨_,st,λv z=>by
   have z':Data.fields _=Data.cell v:=z;cases z'⟩
 keep:=λi h h' st k=>k it (by simp) _ st
 item:=by
  intro X hP hw hK hc i pins s σ H E I hf st0 hg;subst hP hw hK;obtain ⟨f0,f1,f2,f3,f4,f5⟩:=hf it (by simp);have W:=Walks.range (prog:=X.prog) (w:=X.w) (I.ok.hd hc) it lo st n;refine W.item i s _ _ hg st0 λv h' tk hv st' kk=>?_;obtain ⟨t,rfl⟩:=hv;have I1:Inv X pins σ H { s with heap:=h',toks:=tk }:=I.turned (λb o hb e=>kk b o (by simpa using hb) e) f0 f1 f3 f4 f5;exact ⟨_,rfl,a7B (s:={ s with heap:=h',toks:=tk }) (n:="range_iterator") st' rfl rfl (by decide) ⟨.int (lo+i * st),H,I1,⟨t,rfl⟩,⟨rfl,rfl⟩,st',λb hb=>(hf b hb).1⟩⟩
 done:=by
  intro X hP hw hK hc i pins s σ H E I hf st0 hg;subst hP hw hK;obtain ⟨f0,f1,f2,f3,f4,f5⟩:=hf it (by simp);exact wpAny_pyNext_range_end (I.ok.hd hc) st0 (by have:n<=i:=hg;omega) λh' eb=>⟨rfl,I.turned (t':=s.toks) (λb o hb e=>eb b o hb e) f0 f1 f3 f4 f5⟩
 self:=λ_ _ _ _ _ st h=>wpAny_pyIter_rangeiter st h
theorem a3b {lo st:Int} {n:Nat} {g:TG} {tb:TS} {D:a9C} {σ:St} {H:Hp} (Pv:Nat->St->Hp->Prop) (h0:Pv 0 σ H) (hs:∀ i σ H,i < n->Pv i σ H->g (.int (lo+i * st)) σ H λσ2 H2=>tb { D with nx:=Pv (i+1),ct:=Pv (i+1),bk:=D.nx } σ2 H2) (hd:∀ σ H,Pv n σ H->D.nx σ H) :
  ∃ W:Nat->Nat->St->Hp->Prop,(∃ m,W 0 m σ H)/\∀ i m σ H,W i m σ H ->
   ((Itr3 lo st n).stop i H/\D.nx σ H)\/((Itr3 lo st n).go i H/\∃ N:St->Hp->Prop,(∀ σ' H',N σ' H'->∃ m',m' < m/\W (i+1) m' σ' H')/\∀ x H',(Itr3 lo st n).yld i H x H'->g x σ H' λσ2 H2=>tb { D with nx:=N,ct:=N,bk:=D.nx } σ2 H2):=by
 refine ⟨λi m σ H=>m=n - i/\i<=n/\Pv i σ H,⟨n,by simp,Nat.zero_le _,h0⟩,?_⟩;rintro i m σ H ⟨rfl,hi,p⟩;by_cases hlt:i < n
 ·refine .inr ⟨hlt,Pv (i+1),λσ' H' q=>⟨n - (i+1),by omega,rfl,by omega,q⟩,?_⟩;rintro v H' ⟨rfl,rfl⟩;exact hs i σ _ hlt p
 ·have e:i=n:=by omega
  subst e;exact .inl ⟨Nat.le_refl _,hd σ H p⟩
theorem smallD {a:Int} (h1:-1<=a) (h2:a < 1000000):Builtin.Range.small a (-1) (-1)=true/\Builtin.Range.rangeSize a (-1) (-1)=a+1:=by
 have z:Builtin.Range.rangeSize a (-1) (-1)=a+1:=by
  unfold Builtin.Range.rangeSize;rw [if_neg (by decide)];have e1:(a - -1 - 1) / - -1=a:=by
   rw [show (- -1:Int)=1 from rfl,Int.ediv_one];omega
  split
  ·rw [e1]
  ·omega
 refine ⟨?_,z⟩;have f:∀ i:Int,-2<=i->i<=1000000->Builtin.Range.rangeFitsLong i=true:=λi h3 h4=>by
  unfold Builtin.Range.rangeFitsLong;rw [Bool.and_eq_true,decide_eq_true_eq,decide_eq_true_eq];omega
 unfold Builtin.Range.small;rw [z,f a (by omega) (by omega),f (-1) (by omega) (by omega),f (a+1) (by omega) (by omega),if_neg (by decide),f (-1+(-1+1)) (by omega) (by omega)];simp
def iRngD (ta:TA):TI:=λσ H R=>ta σ H λvs H1=>∃ a:Int,vs=[.int a,.int (-1),.int (-1)]/\(-1<=a/\a < 1000000)/\R (Itr3 a (-1) (a+1).toNat) H1
theorem a3S {X:Cx} {tg:Expr} {a b c:Expr} {ta:TA} {p pos:Pos} (hg:Gl X "range") (hm:X.mg "range"=none) (ha:PA X [a,b,c] ta) (hs:starEach [a,b,c] X.env=(false,eval a X.env) :: starEach [b,c] X.env:=by rfl) (hs2:(backTo pos (starEach [b,c] X.env)).any (·.1)=false:=by rfl) :
  PI X tg (.Call (.Name "range" p) [a,b,c] [] pos) (iRngD ta):=by
 intro pins s σ H R I h;refine Call_ (a2E I hg hm boot_range (PyProof.Rows.callWith_type1 (thn (ha pos pins s σ H _ I h) λus s1 ⟨vs,H1,I1,r1,q1⟩=>?_) hs hs2));obtain ⟨i,e,⟨h1,h2⟩,q⟩:=q1;subst e;cases r1 with
 | cons r rr =>
  cases rr with
  | cons r' rr =>
   cases rr with
   | cons r'' rr =>
    cases rr;obtain ⟨t,rfl⟩:=r;obtain ⟨t',rfl⟩:=r';obtain ⟨t'',rfl⟩:=r'';obtain ⟨sm,z0⟩:=smallD h1 h2;refine call_range_3 (by decide) ?_ (.inl (PyProof.noPylong_small (by decide)));refine wpAny_pyIter_range (IsRange.new ..) sm ?_;have I2:Inv X pins σ H1 { s1 with heap:=s1.heap.push { cls:=.type "range",data:=.fields #[.int i t,.int (-1) t',.int (-1) t''] },toks:=s1.toks }:=I1.kept λb o e=>Heap.get?_push_of_some _ e;refine ⟨_,[_],_,_,H1,rfl,I2.kept (t':=s1.toks) λb o e=>Heap.get?_push_of_some _ e,a5U _ i (-1) (i+1).toNat,?_,λb hb=>?_,q⟩
    ·have e1:i+((0:Nat):Int) * (-1)=i:=by simp
     have e2:((((i+1).toNat:Nat):Int)) - ((0:Nat):Int)=Builtin.Range.rangeSize i (-1) (-1):=by rw [z0];omega
     show IsRangeIter _ _ (i+((0:Nat):Int) * (-1)) ((((i+1).toNat:Nat):Int) - ((0:Nat):Int)) (-1);rw [e1,e2];exact Heap.get?_push_size _ rfl
    ·have e:=List.mem_singleton.mp hb;subst e;exact I2.fpOk (Nat.le_refl _) (I2.hok.fresh (Nat.le_refl _))
section
variable {X:Cx} {pins:List (Addr × Obj)} {σ:St} {H:Hp} {s:Shared}
theorem Inv.tup0 {a:Addr} {xs:List V} (I:Inv X pins σ H s) (e:H a=some (.tup xs)):xs.length<=sizeLine/\∃ (its:List Value) (n:Nat),a0U xs its/\s.heap.get? a=some { cls:=.type "tuple",data:=.seq its.toArray n }:=by
 obtain ⟨z,its,r,o,e1,n,rfl⟩:=(show a1T X.prog X.w H s.heap a (.tup xs) from I.hok a _ e)
 exact ⟨z,its,n,r,e1⟩
end
def tBMT (r:V->List V->Hp->VK->Prop) (to:TE) (t:TA):TE:=λσ H Q=>to σ H λx H1=>(∃ a xs,x=.ref a/\H1 a=some (.tup xs))/\t σ H1 λxs H2=>r x xs H2 Q
theorem a4s {X:Cx} {id:String} {name:Str} {o e:Expr} {es:List Expr} {apos cpos:Pos} {to:TE} {t:TA} {r:V->List V->Hp->VK->Prop} (slot:Slot "tuple" name id) (hty:typeOf (.builtin id)=pure (.type "method_descriptor")) (hm:MtR X id r) (ho:PE X o to) (ha:PA X (e :: es) t)
  (hbase:attributeBase o name X.env (eval o X.env)=eval o X.env:=by rfl)
  (hfew:((backTo cpos (starEach (e :: es) X.env)).all (λx=>!x.1) && (backToKw cpos (keywordEach [] X.env)).all (λx=>x.1.isSome) && decide ((e :: es).length+([]:List Keyword).length+(if ([]:List Keyword).isEmpty then 0 else 1) < 30))=true:=by rfl)
  (hline:(apos.endLine == cpos.line)=true:=by rfl) (hs:starEach (e :: es) X.env=(false,eval e X.env) :: starEach es X.env:=by rfl) (hplain:(backTo cpos (starEach es X.env)).any (·.1)=false:=by rfl) :
  PE X (.Call (.Attribute o name apos) (e :: es) [] cpos) (tBMT r to t):=by
 intro pins s σ H Q I h;refine wpAny_Call_method_late hbase hfew hline rfl (thn (ho pins s σ H _ I h) λv s1 ⟨x,H1,I1,r1,ty,q1⟩=>?_);obtain ⟨a,xs,rfl,ea⟩:=ty;cases r1;obtain ⟨_,its,n,_,e1⟩:=I1.tup0 ea;refine ⟨"tuple",id,PySem.F.plainAttrs_tuple,slot,hty,⟨_,e1,rfl⟩,λb eb=>?_,?_⟩
 ·cases eb;exact ⟨_,e1,rfl⟩
 have hA:=ha cpos pins s1 σ H1 _ I1 q1;rw [hs] at hA ⊢;refine Calls.callWith_builtin (by show (false || (backTo cpos (starEach es X.env)).any (·.1))=false;rw [hplain] <;> rfl) (Calls.evalArgs_plain ?_);exact thn hA λus s2 ⟨vs,H2,I2,r2,q2⟩=>hm pins s2 σ H2 (.ref a) vs _ us Q I2 rfl r2 q2
end L2
namespace L2
open PySem PySem.Spec PyProof.Rows PySem.W
section
variable {prog:Program} {w:World} {A:Around} {E:Value->Shared->Prop} {s:Shared} {b:Bool}
def a9E (w:World):Obj:={ cls:=.type "set",dict:=none,data:=.set #[] 0 (.fresh 0 0 (!w.params.followText "set-order")) }
theorem new_sm (a:Value) {Q1:Value->Shared->Prop} (h:Q1 (.ref s.heap.objs.size) { s with heap:=s.heap.push (a9E w) }) :
  codeAny (model prog w) A (.call (.builtin "set.__new__") ⟨[.type "set",a],[]⟩) (wants Q1 E) s:=by
 refine codeAny_of_tree (A:=A) ?_;show wpAny _ A.in1 (checkBuiltinCall "set.__new__" ⟨[.type "set",a],[]⟩ >>= λ_=>again (.builtin "set.__new__" ⟨[.type "set",a],[]⟩)) _ _ s;refine wpAny_bind (wpAny_of_eq (PySem.F.newCall_set_1 a) (wpAny_pure ⟨plainId_quiet PySem.F.plain_set_new _,codeAny_builtin PySem.F.entry_set_new ?_⟩));rw [Around.under_plainId PySem.F.plain_set_new _];unfold Builtin.«set.__new__» Builtin.Frozenset.newClass;have sbs:=PySem.sub_set_self;obtain ⟨hp,g,d,tk,os⟩:=s;dsimp only;wp_walk;refine wpAny_askSetting (wpAny_pure ?_);dsimp only;simp only [newObj];exact wpAny_bind (wpAny_alloc (wpAny_pure (wpAny_pure h)))
end
section
variable {prog:Program} {w:World} {A:Around} {E:Value->Shared->Prop} {s:Shared}
def StS (prog:Program) (w:World) (zs:List Str) (h:Heap) (a:Addr):Prop:=h.SetOf (PySem.strKind prog w) a (λk=>decide (k∈zs)) zs.length
theorem StS.at {zs:List Str} {h h':Heap} {a:Addr} (x:StS prog w zs h a) (e:∀ o,h.get? a=some o->h'.get? a=some o):StS prog w zs h' a:=by
 obtain ⟨o,es,ep,t,ho,r⟩:=x;exact ⟨o,es,ep,t,e o ho,r⟩
theorem b1o (z:Str) (t:Tok):(PySem.strKind prog w).is z (.str z t)=true:=by
 show Value.isStrOf z (.str z t)=true;simp [Value.isStrOf]
theorem b2B {R:Result->Shared->Prop} {I S:Addr} {fp wr:List Addr} {n:Nat} {P:Nat->Value->Prop} {St:Nat->Heap->Prop} (W:Walks prog w A.in1 I fp wr n P St) (hSf:S∉fp) (zs:List Str) (nd:zs.Nodup) (hn:n=zs.length) (h4:n < 4000)
  (hval:∀ i v,i < n->P i v->∃ z tk,zs[i]?=some z/\v=.str z tk):∀ (k i:Nat) (s:Shared),n - i=k->i<=n->St i s.heap->StS prog w (zs.take i) s.heap S ->
   (∀ h' tk,(∀ c o,c∉S :: wr->s.heap.get? c=some o->h'.get? c=some o)->StS prog w zs h' S->R (.ok (.ret .none)) { s with heap:=h',toks:=tk }) ->
   codeAny (model prog w) A (.builtin "set.update.loop" ⟨[.ref S,.ref I],[]⟩) R s:=by
 have hSw:S∉wr:=λz=>hSf (W.sub _ z);intro k
 induction k with
 | zero =>
  intro i s hk hi st hS hR;obtain rfl:i=n:=by omega
  refine codeAny_builtin F.entry_set_update_loop ?_;rw [Around.under_plainId F.plain_set_update_loop _];show wpAny _ A.in1 (pyNext (.ref I) >>= λ_=>_) _ _ s;refine wpAny_bind (W.done s _ _ st λh' tk kp=>?_);show wpAny _ A.in1 (ret Value.none) _ _ _;rw [hn,List.take_length] at hS;exact wpAny_pure (hR h' tk (λc o hc e=>kp c o (λz=>hc (List.mem_cons_of_mem _ z)) e) (hS.at λo e=>kp S o hSw e))
 | succ k ih =>
  intro i s hk hi st hS hR;have hlt:i < n:=by omega
  refine codeAny_builtin F.entry_set_update_loop ?_;rw [Around.under_plainId F.plain_set_update_loop _];show wpAny _ A.in1 (pyNext (.ref I) >>= λ_=>_) _ _ s;refine wpAny_bind (W.item i s _ _ hlt st λv h1 tk1 hP st1 kp=>?_);obtain ⟨z,tk,hz,rfl⟩:=hval i v hlt hP;have hS1:StS prog w (zs.take i) h1 S:=hS.at λo e=>kp S o hSw e;have li:i < zs.length:=by omega
  have nin:z∉zs.take i:=λhm=>by
   obtain ⟨j,hj,e⟩:=List.mem_iff_getElem.mp hm;rw [List.length_take] at hj;rw [List.getElem_take] at e;have e2:zs[i]=z:=by rw [List.getElem?_eq_getElem li] at hz;exact Option.some.inj hz
   have:=(List.getElem_inj nd (h₀:=by omega) (h₁:=li)).mp (e.trans e2.symm);omega
  show wpAny _ A.in1 (holding [Value.str z tk] (setAdd S (.str z tk)) >>= λ_=>_) _ _ _;unfold setAdd;refine wpAny_bind (wpAny_holding (wpAny_holding (wpAny_bind ((PySem.strKind prog w).pyHash (k:=z) (b1o z tk) ?_))));refine wpAny_setAddHashed_of (knd:=PySem.strKind prog w) (s:={ s with heap:=h1,toks:=tk1+1 }) (b1o z tk) rfl hS1 (by rw [List.length_take];unfold scanBound;omega) λh2 sb hS2=>?_;have hS3:StS prog w (zs.take (i+1)) h2 S:=by
   refine SetOf_congr hS2 (λk'=>?_) ?_
   ·rw [List.take_add_one,hz];simp [List.mem_append,Bool.decide_or]
   ·rw [if_neg (by simp [nin]),List.length_take,List.length_take];omega
  refine wpAny_pure ⟨plainId_quiet F.plain_set_update_loop _,ih (i+1) _ (by omega) hlt (W.frame _ _ _ st1 λc hc o e=>?_) hS3 λh' tk' kp' hS'=>?_⟩
  ·rw [sb.2 c (λz=>hSf (z▸hc))];exact e
  ·refine hR h' tk' (λc o hc e=>kp' c o hc ?_) hS';show h2.get? c=some o;rw [sb.2 c (λz=>hc (by rw [z];exact List.mem_cons_self))];exact kp c o (λz=>hc (List.mem_cons_of_mem _ z)) e
theorem b2C {h:Heap} {a:Addr} (e:h.get? a=some (a9E w)):StS prog w [] h a :=
 ⟨_,#[],0,_,e,⟨rfl,rfl,rfl⟩,rfl,λe he=>by simp at he,λk=>by simp,by unfold scanBound;decide,rfl,rfl⟩
theorem a4N:isSubtype (.type "tuple") (.type "set")=pure false:=by rw [isSubtype_type];kernel_rfl
theorem a2A:isSubtype (.type "tuple") (.type "frozenset")=pure false:=by rw [isSubtype_type];kernel_rfl
theorem a8v {l:Addr} {items:Array Value} {zs:List Str} {Q:Value->Shared->Prop} (hh:A.handled=none) (hl:s.heap.IsTuple l items) (hi:a0U (zs.map V.str) items.toList) (nd:zs.Nodup) (h4:zs.length < 4000)
  (h:∀ h' tk,StS prog w zs h' s.heap.objs.size->(∀ c o,s.heap.get? c=some o->h'.get? c=some o)->Q (.ref s.heap.objs.size) { s with heap:=h',toks:=tk }) :
  wpAny (model prog w) A (call (.type "set") [.ref l]) Q E s:=by
 obtain ⟨c,tl,hmro⟩:=PySem.F.called_set.mro;have hmade:=PySem.F.called_set.made;have hsub:=PySem.F.called_set.sub;refine wpAny_call (codeAny_of_tree (A:=A) ?_);show wpAny _ _ (callAny (.type "set") _) _ _ _;refine wpAny_pure ⟨Code.quiet_builtin _ (by decide +kernel),codeAny_builtin PySem.F.entry_type_call ?_⟩;rw [Around.under_plain (weight_type_call_type "set" [.ref l] []) rfl];have h1:=PySem.F.called_set.notType;have h2:=PySem.F.called_set.canCreate;have hct:=PySem.F.typeCall_set_1 (.ref l)
 repeat (any_goals (first | assumption | wp_step))
 refine codeAny_mono (new_sm (.ref l) (E:=E) (Q1:=λobj s1=>obj=.ref s.heap.objs.size/\s1={ s with heap:=s.heap.push (a9E w) }) ⟨rfl,rfl⟩) λr s1 hr=>?_;cases r with
 | error e=>exact hr
 | ok fl =>
  cases fl with
  | ret obj =>
   obtain ⟨rfl,rfl⟩:=hr;have hS:(s.heap.push (a9E w)).get? s.heap.objs.size=some (a9E w):=Heap.get?_push_size _ rfl;have hT:Shared.TypeIs { s with heap:=s.heap.push (a9E w) } (.ref s.heap.objs.size) "set":=⟨_,hS,rfl⟩
   have hli:=PySem.F.called_set.init.lookup;have hbi:=PySem.F.called_set.init.bind (.ref s.heap.objs.size)
   repeat (any_goals (first | assumption | wp_step))
   refine codeAny_mono (codeAny_call_builtin (R:=wants (λr s2=>r=.none/\∃ h' tk,s2={ s with heap:=h',toks:=tk }/\StS prog w zs h' s.heap.objs.size/\(∀ c o,s.heap.get? c=some o->h'.get? c=some o)) E) PySem.F.called_set.init.plain PySem.F.entry_set_init (check_set_init_1 hT ?_)) λr2 s2 hr2=>?_
   ·obtain ⟨ol,hol,hcl,nl,hdl⟩:=hl;obtain ⟨ocls,odict,odata,oslots⟩:=ol;simp only at hcl hdl;subst hcl hdl;have hol1:(s.heap.push (a9E w)).get? l=some { cls:=.type "tuple",dict:=odict,data:=.seq items nl,slots:=oslots }:=Heap.get?_push_of_some _ hol;have q1:=a4N;have q2:=a2A;have q3:(Value.type "tuple" == Value.type "dict")=false:=by decide
    have hl1:(s.heap.push (a9E w)).IsTuple l items:=⟨_,hol1,rfl,nl,rfl⟩
    unfold Builtin.«set.__init__» noKeywords Builtin.Frozenset.updateFrom;generalize hPI:pyIter=PI
    wp_walk
    subst hPI;refine wpAny_pyIter_tuple hl1 (wpAny_bind (wpAny_runValue ?_));have lS:l < s.heap.objs.size:=Heap.lt_size hol;have ne:l≠(s.heap.push (a9E w)).objs.size:=by rw [Heap.size_push];exact Nat.ne_of_lt (Nat.lt_succ_of_lt lS)
    have nf:s.heap.objs.size∉[(s.heap.push (a9E w)).objs.size,l]:=by
     rw [Heap.size_push];intro z;rcases List.mem_cons.mp z with z | z
     ·exact absurd z (Nat.ne_of_lt (Nat.lt_succ_self _))
     ·exact absurd (List.mem_singleton.mp z) (Nat.ne_of_gt lS)
    have len:items.size=zs.length:=by
     have:=hi.length;simpa using this.symm
    refine b2B (Walks.tuple (by simp [hh]) _ l ne items) nf zs nd len (by omega) (λi v hlt hv=>?_) (items.size - 0) 0 _ rfl (Nat.zero_le _) ⟨⟨_,Heap.get?_push_size _ rfl,rfl,rfl⟩,hl1.at λo e=>Heap.get?_push_of_some _ e⟩ (b2C (Heap.get?_push_of_some _ hS)) λh' tk kp hS'=>?_
    ·have hl:i < zs.length:=by rw [<-len];exact hlt
     obtain ⟨u,hu,ru⟩:=hi.get (show (zs.map V.str)[i]?=some (.str zs[i]) by rw [List.getElem?_map,List.getElem?_eq_getElem hl];rfl);rw [Array.getElem?_toList] at hu;have hv:items[i]?=some v:=hv;rw [hu] at hv;obtain ⟨tk,e⟩:=ru;exact ⟨zs[i],tk,List.getElem?_eq_getElem hl,by rw [<-Option.some.inj hv,e]⟩
    ·show wpAny _ _ _ _ _ _;refine wpAny_pure (show wpAny _ _ (ret Value.none) _ _ _ from wpAny_pure ⟨rfl,h',tk,rfl,hS',λc o e=>kp c o (λz=>?_) (Heap.get?_push_of_some _ (Heap.get?_push_of_some _ e))⟩);have lc:=Heap.lt_size e;rcases List.mem_cons.mp z with z | z
     ·exact absurd z (Nat.ne_of_lt lc)
     ·have:=List.mem_singleton.mp z;rw [Heap.size_push] at this;exact absurd this (Nat.ne_of_lt (Nat.lt_succ_of_lt lc))
   ·cases r2 with
    | error e=>exact hr2
    | ok fl2 =>
     cases fl2 with
     | ret r =>
      obtain ⟨rfl,h',tk,rfl,hS',hk'⟩:=hr2
      repeat (any_goals (first | assumption | wp_step))
      exact h _ _ hS' hk'
     | _=>exact hr2.elim
  | _=>exact hr.elim
end
def SetT (P:Program) (w:World) (a:Addr) (zs:List Str):HO:=.ext λh=>StS P w zs h a
def rSetT (P:Program) (w:World) (K:PySem.W.Frag):List V->Hp->VK->Prop:=λxs H Q=>∃ (l:Addr) (zs:List Str),xs=[.ref l]/\SqT K H l (zs.map V.str)/\zs.Nodup/\zs.length < 4000 /\
 ∀ p H',a0E H H'->H p=none->H' p=some (SetT P w p zs)->Q (.ref p) H'
theorem a4t {X:Cx} (hc:X.calm=true):a2W X (.type "set") (rSetT X.prog X.w X.K):=by
 intro pins s σ H xs us Q I r h;obtain ⟨l,zs,rfl,e,nd,h4,q⟩:=h;obtain ⟨u,rfl,rx⟩:=a3q r;cases rx;obtain ⟨its,rv,ht,hz⟩:=I.tuple e;have hLn:H s.heap.objs.size=none:=I.hok.fresh (Nat.le_refl _);refine a8v (I.ok.hd hc) (show s.heap.IsTuple l its.toArray from ht) (by rw [List.toList_toArray];exact rv) nd h4 λh' tk hS kp=>?_;have I2:Inv X pins σ (upd H s.heap.objs.size (SetT X.prog X.w s.heap.objs.size zs)) { s with heap:=h',toks:=tk }:=I.laid (t':=tk) kp (Nat.le_refl _) ⟨hS,by obtain ⟨o,_,_,_,ho,_⟩:=hS;exact ⟨o,ho⟩,λh1 h2 z k=>z.at k⟩;exact ⟨.ref s.heap.objs.size,_,I2,rfl,q _ _ (a0g hLn _) hLn a0b⟩
def rLenS (P:Program) (w:World):List V->Hp->VK->Prop:=λxs H Q=>∃ d zs,xs=[.ref d]/\H d=some (SetT P w d zs)/\zs.length < 4000/\Q (.int zs.length) H
theorem a5y {X:Cx}:a2W X (.builtin "len") (rLenS X.prog X.w):=by
 intro pins s σ H xs us Q I r h;obtain ⟨d,zs,rfl,e,h4,q⟩:=h;obtain ⟨u,rfl,rx⟩:=a3q r;cases rx;obtain ⟨⟨o,es,ep,t,ho,hex,hd,_,_,_,hf,hn⟩,_⟩:=(show a1T X.prog X.w H s.heap d (SetT X.prog X.w d zs) from I.hok d _ e)
 refine call_len_set ho hex hd hf (by rw [hn];omega) ?_;rw [hn];exact ⟨.int _,H,I.tok _,⟨_,rfl⟩,q⟩
end L2
namespace L2
open PySem PySem.Spec PyProof.Rows
section
variable {H:Hp} {s:Shared} {n:Nat}
end
def a9F (H:Hp) (a:Addr) (sg:List Str) (ps:List Int) (nm:List Str) (ws:List Int):Prop:=∃ b1 b2 b3 b4,H a=some (.tup [.ref b1,.ref b2,.ref b3,.ref b4])/\H b1=some (.tup (sg.map V.str))/\H b2=some (.tup (ps.map V.int))/\H b3=some (.tup (nm.map V.str))/\H b4=some (.tup (ws.map V.int))
def b2D:V->Option Int->Option Int->Hp->VK->Prop:=λx lo hi H Q=>∃ z:Str,x=.str z/\lo=none/\hi=some (-1)/\1<=z.length/\z.length<=sizeLine/\Q (.str ⟨z.cps.toList.dropLast.toArray⟩) H
theorem a5V {n:Nat} (h:1<=n):Builtin.Str.strSliceIndices none (some (-1)) 1 n=List.range (n - 1):=by
 have e:(max 0 (min ((if (-1:Int) < 0 then -1+(n:Int) else -1)) (n:Int)))=((n - 1:Nat):Int):=by
  rw [if_pos (by decide)];omega
 show sliceRange 0 (max 0 (min ((if (-1:Int) < 0 then -1+(n:Int) else -1)) (n:Int))) 1=_;rw [e];have:=sliceRange_one 0 (n - 1);simpa using this
theorem a6x {α β:Type} {f g:α->Option β}:∀ {l:List α},(∀ x∈l,f x=g x)->l.filterMap f=l.filterMap g
 | [],_=>rfl
 | x :: l,h=>by
  rw [List.filterMap_cons,List.filterMap_cons,h x (.head _),a6x λy hy=>h y (.tail _ hy)]
theorem a8w {X:Cx}:SlR X b2D:=by
 intro pins s σ H x v vl vu lo hi sl Q I rx hs pl pu h;obtain ⟨z,rfl,rfl,rfl,h1,hz,q⟩:=h;obtain ⟨t,rfl⟩:=rx;cases pl;cases pu with
 | int i tk =>
 refine ⟨"str",_,F.slot_str_getitem.lookup,typeIs_str _ _ _,?_⟩;refine wpAny_getItem_str_slice (l:=none) (u:=some (-1,tk)) (st:=none) hs rfl ?_;have e1:slicePicked z none (some (-1,tk)) none=List.range (z.length - 1):=a5V h1;have e2:(z.length - 1 == z.length)=false:=by simp;omega
 unfold sliceMade;rw [e1,List.length_range,e2,Bool.and_false,if_neg Bool.false_ne_true];have e3:(List.range (z.length - 1)).filterMap (z.cps[·]?)=z.cps.toList.dropLast:=by
  have hl:z.length - 1=z.cps.toList.dropLast.length:=by rw [List.length_dropLast];rfl
  have hc:∀ i∈List.range (z.length - 1),z.cps[i]?=z.cps.toList.dropLast[i]?:=λi hi=>by
   have:=List.mem_range.mp hi;rw [List.getElem?_dropLast,if_pos (by rw [Array.length_toList];exact this),Array.getElem?_toList]
  rw [a6x hc,hl];exact List.filterMap_getElem?_range_length _
 rw [e3];refine ⟨?_,.str _,H,I.tok _,⟨_,rfl⟩,q⟩;show z.cps.toList.dropLast.toArray.size<=_;rw [List.size_toArray,List.length_dropLast,Array.length_toList];exact Nat.le_trans (Nat.sub_le _ _) hz
theorem tindex (l:Addr) (items:Array Value) (x:Value) (e:Value->Bool) (j:Nat) (hj:j < items.size) (hit:e items[j]=true) (hno:∀ m (hm:m < items.size),m < j->e items[m]=false) :
  Meets (Builtin.«tuple.index» ⟨[.ref l,x],[]⟩) (λA R s=>s.heap.IsTuple l items/\(∀ y,y∈items->SeqAt.EqAt A.in1 s y x (e y))/\R (.ok (.ret (.int j s.toks))) { s with toks:=s.toks+1 }):=by
 intro prog w A R s h;obtain ⟨hl,he,h⟩:=h;obtain ⟨⟨cls,dd,data,sl⟩,ho,hc,n,hd⟩:=id hl;simp only at hc hd;subst hc hd;unfold Builtin.«tuple.index»;refine wpAny_bind (m:=selfAndSome "tuple.index" "index" 1 3 { pos:=[Value.ref l,x] }) (wpAny_pure ?_);have ti:∀ {Q:Array Value->Shared->Prop},Q items s->wpAny (model prog w) A.in1 (Builtin.Tuple.tupleItemsOf (.ref l)) Q (λe s'=>R (.error e) s') s:=λq=>by
  unfold Builtin.Tuple.tupleItemsOf seqItems?;exact wpAny_bind (wpAny_bind (wpAny_load ho (wpAny_pure (wpAny_pure q))))
 refine wpAny_bind (ti ?_);refine wpAny_bind (m:=pure 0) (wpAny_pure (wpAny_bind (m:=pure items.size) (wpAny_pure ?_)));refine wpAny_bind ?_;rw [Nat.min_self,Std.Legacy.Range.forIn_eq_forIn_range'];simp only [Std.Legacy.Range.size,Nat.sub_zero,Nat.add_sub_cancel,Nat.div_one];refine wpAny_forIn_list _ (λrest b s'=>s'=s/\b=(none,())/\∃ i,i<=j/\rest=List.range' i (items.size - i)) _ ?_ ?_ _ _ ⟨rfl,rfl,0,Nat.zero_le _,by simp⟩
 ·rintro i rest b s' ⟨rfl,rfl,i',hi',hr⟩;obtain ⟨rfl,hrest⟩:i=i'/\rest=List.range' (i'+1) (items.size - (i'+1)):=by
   have e:items.size - i'=(items.size - (i'+1))+1:=by omega
   rw [e,List.range'_succ] at hr;injection hr with h1 h2;exact ⟨h1,h2⟩
  have hi:i < items.size:=by omega
  rw [Array.getElem?_eq_getElem hi];refine wpAny_bind (he items[i] (Array.getElem_mem hi) _ _ _ _ ?_);by_cases c:i=j
  ·subst c;rw [hit,if_pos rfl];unfold retInt;refine wpAny_bind (wpAny_bind (wpAny_mkInt ?_));exact wpAny_pure (wpAny_pure (wpAny_pure h))
  ·rw [hno i hi (by omega),if_neg Bool.false_ne_true];exact wpAny_pure ⟨rfl,rfl,i+1,by omega,hrest⟩
 ·rintro b s' ⟨_,_,i,hi,hr⟩;have:=congrArg List.length hr;rw [List.length_range'] at this;exact absurd this (by show ¬ (0=items.size - i);omega)
def rIdxT (K:PySem.W.Frag):V->List V->Hp->VK->Prop:=λx vs H Q=>∃ (l:Addr) (zs:List Str) (u:Str),x=.ref l/\vs=[.str u]/\SqT K H l (zs.map V.str)/\u∈zs/\Q (.int (zs.idxOf u:Nat)) H
theorem a1V {X:Cx} (K:PySem.W.Frag) (hK:X.K=K:=by rfl):MtM X "tuple.index" (rIdxT K):=by
 subst hK;intro pins s σ H x vs v us Q I rx rv h;obtain ⟨l,zs,u,rfl,rfl,hH,hm,q⟩:=h;cases rx;obtain ⟨y',rfl,ry⟩:=rv.one;obtain ⟨its,r,ht,hz⟩:=I.tuple hH;obtain ⟨tu,rfl⟩:=ry;have li:(zs.map V.str).length=its.length:=r.length;rw [List.length_map] at li;have ev:∀ (i:Nat) (z:Value),its[i]?=some z->∃ k t,zs[i]?=some k/\z=.str k t:=λi z hi=>by
  have il:i < its.length:=(List.getElem?_eq_some_iff.mp hi).1;have hxi:(zs.map V.str)[i]?=some (.str (zs[i]'(by omega))):=by rw [List.getElem?_map,List.getElem?_eq_getElem (by omega)];rfl
  obtain ⟨z',hz',rz⟩:=r.get hxi;rw [hi] at hz';cases hz';obtain ⟨t,e⟩:=rz;exact ⟨_,t,List.getElem?_eq_getElem (by omega),e⟩
 have hj:zs.idxOf u < zs.length:=List.idxOf_lt_length_iff.mpr hm;refine call_meets PySem.F.slot_tuple_index ht.typeIs PySem.F.entry_tuple_index (PySem.F.args_tuple_index_2 _ _)
  (tindex l its.toArray _ (λz=>match z with | .str k _=>decide (k=u) | _=>false) (zs.idxOf u) (by rw [List.size_toArray];omega) ?_ ?_) ⟨ht,λz hz=>?_,⟨.int _,H,I.tok _,⟨_,rfl⟩,q⟩⟩
 ·obtain ⟨k,t,hk,e⟩:=ev (zs.idxOf u) (its[zs.idxOf u]'(by omega)) (List.getElem?_eq_getElem _);show (match its[zs.idxOf u]'(by omega) with | .str k _=>decide (k=u) | _=>false)=true;rw [e];refine decide_eq_true ?_;rw [List.getElem?_eq_getElem hj,List.getElem_idxOf hj] at hk;cases hk;rfl
 ·intro m hm' hlt;have hm2:m < its.length:=by simpa using hm'
  obtain ⟨k,t,hk,e⟩:=ev m (its[m]'hm2) (List.getElem?_eq_getElem _);show (match its[m]'hm2 with | .str k _=>decide (k=u) | _=>false)=false;rw [e];refine decide_eq_false λhz=>?_;have hlt':m < zs.findIdx (· == u):=hlt;obtain ⟨ml,em⟩:=List.getElem?_eq_some_iff.mp hk;have:=List.not_of_lt_findIdx hlt';rw [em,hz] at this;simp at this
 ·have hz':z∈its:=by simpa using hz
  obtain ⟨i,hi⟩:=List.mem_iff_getElem?.mp hz';obtain ⟨k,t,hk,rfl⟩:=ev i z hi;have q:=SeqAt.EqAt.str_str (A:=X.A.in1) (s:=s) k t u tu;rw [Bool.beq_eq_decide_eq] at q;exact q
end L2
namespace K94
open PySem PySem.NumText L2 PyProof.Rows
def S (l:List Nat):Str:=⟨l.toArray⟩
theorem a7h (l:List Nat):(S l).cps.toList=l:=List.toList_toArray
theorem a5W (l:List Nat):(S l).length=l.length:=List.size_toArray
theorem S_of (z:Str):S z.cps.toList=z:=rfl
theorem b0s (a b:List Nat):S a++S b=S (a++b):=by
 show (⟨a.toArray++b.toArray⟩:Str)=⟨(a++b).toArray⟩
 rw [List.append_toArray]
theorem S_inj {a b:List Nat} (h:S a=S b):a=b:=by
 have:=congrArg (λz:Str=>z.cps.toList) h;simpa [S] using this
def jn (c:Nat):List (List Nat)->List Nat
 | []=>[]
 | [a]=>a
 | a :: b :: r=>a++c :: jn c (b :: r)
theorem jn_is (c:Nat):∀ zs:List Str,(Str.join ⟨#[c]⟩ zs).cps.toList=jn c (zs.map λz=>z.cps.toList)
 | []=>rfl
 | [a]=>rfl
 | a :: b :: r=>by
  have ih:=jn_is c (b :: r);show (a++(⟨#[c]⟩:Str)++Str.join ⟨#[c]⟩ (b :: r)).cps.toList=_;show ((a.cps++#[c])++(Str.join ⟨#[c]⟩ (b :: r)).cps).toList=_;rw [Array.toList_append,Array.toList_append,ih];simp [jn]
theorem a8x {c:Nat}:∀ {a b r t:List Nat},c∉a->c∉b->a++c :: r=b++c :: t->a=b/\r=t
 | [],[],_,_,_,_,h=>⟨rfl,(List.cons.inj h).2⟩
 | [],y :: b,_,_,_,hb,h=>absurd ((List.cons.inj h).1▸List.mem_cons_self) hb
 | x :: a,[],_,_,ha,_,h=>absurd ((List.cons.inj h).1▸List.mem_cons_self) ha
 | x :: a,y :: b,r,t,ha,hb,h=>by
  obtain ⟨h1,h2⟩:=List.cons.inj h;obtain ⟨e1,e2⟩:=a8x (λz=>ha (.tail _ z)) (λz=>hb (.tail _ z)) h2;exact ⟨by rw [h1,e1],e2⟩
theorem a8y {c:Nat}:∀ {A B:List (List Nat)},A≠[]->B≠[]->(∀ a∈A,c∉a)->(∀ b∈B,c∉b)->jn c A=jn c B->A=B
 | [],_,h,_,_,_,_=>absurd rfl h
 | _,[],_,h,_,_,_=>absurd rfl h
 | [a],[b],_,_,_,_,h=>by rw [show a=b from h]
 | [a],b :: b2 :: r,_,_,fa,_,h=>by
  have h:a=b++c :: jn c (b2 :: r):=h;exact absurd (by rw [h];simp) (fa a (.head _))
 | a :: a2 :: r,[b],_,_,_,fb,h=>by
  have h:a++c :: jn c (a2 :: r)=b:=h;exact absurd (by rw [<-h];simp) (fb b (.head _))
 | a :: a2 :: r,b :: b2 :: t,_,_,fa,fb,h=>by
  obtain ⟨e1,e2⟩:=a8x (fa a (.head _)) (fb b (.head _)) (show a++c :: jn c (a2 :: r)=b++c :: jn c (b2 :: t) from h);rw [e1,a8y (by simp) (by simp) (λx hx=>fa x (.tail _ hx)) (λx hx=>fb x (.tail _ hx)) e2]
theorem a4O {c:Nat} {x:Str} {B:List (List Nat)} (hB:B≠[]) (fb:∀ b∈B,c∉b) (h:x.cps.toList=jn c B):Txt.split x ⟨#[c]⟩=B.map S:=by
 have e1:=jn_is c (Txt.split x ⟨#[c]⟩);rw [StrLaws.join_split,h] at e1;have ne:(Txt.split x ⟨#[c]⟩).map (λz=>z.cps.toList)≠[]:=λz=>by
  have:=split_pos x ⟨#[c]⟩;rw [List.map_eq_nil_iff.mp z] at this;exact absurd this (by decide)
 have:=a8y hB ne fb (λa ha=>by
  obtain ⟨p,hp,rfl⟩:=List.mem_map.mp ha;exact StrLaws.split_free x c p hp) e1
 rw [this,List.map_map];exact (List.map_id' _).symm.trans (List.map_congr_left λz _=>rfl)
def dg (n:Int):List Nat:=(Nat.toDigits 10 n.toNat).map Char.toNat
def nS (n:Int):Str:=S (dg n)
theorem nS_is {n:Int} (h:0<=n):(Str.ofString (toString n))=nS n:=by
 obtain ⟨m,rfl⟩:∃ m:Nat,n=m:=⟨n.toNat,by omega⟩
 have:=PySem.W.KIN.signs_num m;show _=S (dg m);rw [<-S_of (Str.ofString (toString (m:Int))),this];rfl
theorem a8z {n:Int} (h1:n<=B30):(dg n).length<=31:=by
 unfold dg;rw [List.length_map];refine toDigits_len_pow (by decide) (by decide) ?_;have:B30 < 10 ^ 31:=by unfold B30;decide
 omega
theorem b1p (n:Int):1<=(dg n).length:=by
 unfold dg;rw [List.length_map];exact toDigits_len_ge 10 _
theorem b0t:∀ d:Nat,d < 10->48<=(Nat.digitChar d).toNat/\(Nat.digitChar d).toNat<=57/\(d≠0->(Nat.digitChar d).toNat≠48):=by decide
theorem a6y (n:Int):∀ c∈dg n,48<=c/\c<=57:=λc hc=>by
 obtain ⟨ch,hch,rfl⟩:=List.mem_map.mp hc;exact digit_range (Nat.isDigit_of_mem_toDigits (by decide) (by decide) hch)
theorem dg_nat (m:Nat) (h:1<=m):((Nat.toDigits 10 m).map Char.toNat).getD 0 0≠48:=by
 induction m using Nat.strongRecOn with
 | _ m ih =>
  by_cases c:m < 10
  ·rw [Nat.toDigits_of_lt_base c];exact (b0t m c).2.2 (by omega)
  ·have hm:m % 10 < 10:=Nat.mod_lt m (by decide);have t:Nat.toDigits 10 (m / 10)++Nat.toDigits 10 (m % 10)=Nat.toDigits 10 (10 * (m / 10)+m % 10):=Nat.toDigits_append_toDigits (by decide) (by omega) hm;rw [Nat.div_add_mod] at t;have ih:=ih (m / 10) (by omega) (by omega);have l:=toDigits_len_ge 10 (m / 10);rw [<-t,List.map_append];rw [List.getD_eq_getElem?_getD] at ih ⊢;rw [List.getElem?_append_left (by rw [List.length_map];omega)];exact ih
theorem b0u {n:Int} (h:1<=n):(dg n).getD 0 0≠48:=dg_nat n.toNat (by omega)
theorem a6z {n:Int} (h0:1<=n) (h1:n<=B30):PySem.intText? (nS n)=some n:=by
 have l:=a8z h1;have p:=b1p n;have e0:(nS n).cps.toList=dg n:=a7h _;have e:=intText_digits (x:=nS n) (by rw [e0];exact a6y n) (by rw [e0];intro z;rw [z] at p;exact absurd p (by decide)) (by show (S (dg n)).length<=_;rw [a5W];omega);rw [e0] at e;have vb:=PySem.W.KIN.val_back n.toNat;rw [e];show some ((NumText.digitsVal (dg n):Nat):Int)=some n;rw [show NumText.digitsVal (dg n)=n.toNat from vb];congr 1;omega
def top (i:Nat):Stmt:=PySem.Challenge.pw_lettertoll_k94_desks_changed_and_refused.main.body.getD i (.Pass ⟨0,0,0,0⟩)
abbrev a5X:Stmt:=top 33
abbrev b2E:Stmt:=top 34
abbrev sMP:Stmt:=top 35
abbrev sMW:Stmt:=top 36
abbrev sBT:Stmt:=top 102
abbrev sRB:Stmt:=top 103
abbrev sRO:Stmt:=top 104
abbrev b3r:Stmt:=top 105
abbrev b3s:Stmt:=top 106
abbrev sIN:Stmt:=top 107
abbrev b0v:Stmt:=top 108
abbrev a7i:Stmt:=top 120
abbrev a3c:Stmt:=top 121
abbrev a3T:Stmt:=top 122
abbrev a1B:Stmt:=top 123
abbrev a5z:Stmt:=top 124
abbrev a5Y:Stmt:=top 125
abbrev a7j:Stmt:=top 126
abbrev a7k:Stmt:=top 127
abbrev a7l:Stmt:=top 128
abbrev a3d:Stmt:=top 129
abbrev a2y:Stmt:=top 130
abbrev b0w:Stmt:=top 131
abbrev b2F:Stmt:=top 115
abbrev b3t:Stmt:=top 27
abbrev a3e:Stmt:=top 29
abbrev a2r:Stmt:=top 30
abbrev sPM:Stmt:=top 74
abbrev sWM:Stmt:=top 75
abbrev sRL:Stmt:=top 76
abbrev b3u:Stmt:=top 77
abbrev sWN:Stmt:=top 78
abbrev sNu:Stmt:=top 89
theorem a0Z {X:Cx} {st:Stmt}:PS X st (λ_ _ _=>False):=λ_ _ _ _ _ _ h=>h.elim
end K94
namespace K94
open PySem L2
theorem e30:(10:Int) ^ (30:Int).toNat=B30:=by unfold B30;decide
def alpha:Str:=Str.ofString "abcdefghijklmnopqrstuvwxyz"
theorem a8A:alpha.cps.toList=(List.range 26).map (97+·):=by decide +kernel
theorem a4P {i:Int} (h0:0<=i) (h1:i < 26):atI alpha.cps.toList i=some (97+i.toNat):=by
 obtain ⟨k,rfl⟩:∃ k:Nat,i=k:=⟨i.toNat,by omega⟩
 refine a1G ?_;rw [a8A,List.getElem?_map,List.getElem?_range (by omega)];rfl
theorem a3U:alpha.length<=sizeLine:=by decide +kernel
section
variable {P:Program} {w:World} {K:PySem.W.Frag} {mg:Str->Option Value} {base:Heap} {f:Addr} {fd:FuncData}
def a6A (K:PySem.W.Frag):Sp:=λvs H Q _=>∃ (a:Addr) (ns:List Int) (k:Int),vs=[.ref a,.int k]/\SqL K H a (ns.map V.int)/\0<=k/\∀ i,Q (.int i) H
theorem scCell:a0u ["script","k"] ["script","k"] (a0e a7i):=⟨rfl,rfl,rfl,by decide +kernel,rfl,by decide +kernel,by decide +kernel⟩
theorem b2G (F:Fun K "_law_cell_at" "_law_cell_at" a7i f fd) (ml:mg "len"=none):a1a P w K mg base CX0 1 f fd ["script","k"] (a6A K):=by
 refine F.ok (k:=0) scCell (λvs H Q E h=>?_) (λcdv A outer s H vs Q E hr h=>?_)
 ·obtain ⟨a,ns,k,rfl,_⟩:=h;rfl
 obtain ⟨a,ns,k,rfl,hS,h0,q⟩:=h;refine ⟨_,a0c (a0J (a0y a5J (pv 1) (a0t a0r (by rfl) ml PySem.boot_len (a0a (pv 0) a0f)) (nomark _)) (a0h (a0v (a0n a0k (pv 0) (pv 1) (λ_ _=>rfl)))) a0x) (a0h (a0v a0d)),?_⟩;refine ⟨_,rfl,_,rfl,a,_,rfl,.inl hS,_,_,rfl,rfl,_,rfl,?_⟩;refine a1K (λc=>?_) (λc=>q 0);have c1:k < ((ns.map V.int).length:Int):=of_decide_eq_true c;obtain ⟨n,rfl⟩:∃ n:Nat,k=n:=⟨k.toNat,by omega⟩
 have hn:n < ns.length:=by rw [List.length_map] at c1;omega
 exact ⟨_,rfl,_,rfl,a,_,_,_,rfl,rfl,hS,a6s (List.getElem?_eq_getElem hn),q _⟩
def a3v:Sp:=λvs H Q _=>∃ c:Int,vs=[.int c]/\∀ i,1<=i->i<=B30->Q (.int i) H
theorem a6B:a0u ["cell","rest"] ["cell"] (a0e a3c):=⟨rfl,rfl,rfl,by decide +kernel,rfl,by decide +kernel,by decide +kernel⟩
theorem a8B (F:Fun K "_law_amount" "_law_amount" a3c f fd):a1a P w K mg base CX0 1 f fd ["cell"] a3v:=by
 refine F.ok (k:=0) a6B (λvs H Q E h=>?_) (λcdv A outer s H vs Q E hr h=>?_)
 ·obtain ⟨c,rfl,_⟩:=h;rfl
 obtain ⟨c,rfl,q⟩:=h;refine ⟨_,a0c (a0z (i:=1) a6B.nd rfl (Or.inl rfl) (a0m a1b (pv 0) a0d))
  (a0c (a0J (a0y a1g (a0m a0O (pv 0) a0d) a0d (nomark _)) (a0h (a0v (a0m a0M a0d (a0m a0O (pv 1) (a0m a3j a0d a0d))))) a0x)
  (a0c (a0J (a0y a1g (a0m a0O (pv 0) a0d) a0d (nomark _)) (a0h (a0v (a0m a2x (a0m a3j a0d a0d) (a0m a0O (pv 1) a0d)))) a0x)
  (a0c (a0J (a0y a1g (a0m a0O (pv 0) a0d) a0d (nomark _)) (a0h (a0v (a0m a0M a0d (a0m a0O (pv 1) a0d)))) a0x)
  (a0h (a0v (a0m a0M a0d (a0m a0O (pv 1) a0d))))))),?_⟩
 refine ⟨_,rfl,_,_,rfl,rfl,⟨by decide,by decide⟩,?_⟩;refine ⟨_,rfl,_,_,rfl,rfl,(by show (0:Int) < _;decide),rfl,_,rfl,?_⟩;refine a1K (λ_=>⟨_,rfl,_,_,rfl,rfl,⟨by decide,by decide,by decide⟩,_,_,rfl,rfl,(by show (0:Int) < _;decide),_,_,rfl,rfl,q _ (by rw [e30];unfold B30;omega) (by rw [e30];unfold B30;omega)⟩) (λ_=>?_);refine ⟨_,rfl,_,_,rfl,rfl,(by show (0:Int) < _;decide),rfl,_,rfl,?_⟩;refine a1K (λ_=>⟨_,_,rfl,rfl,⟨by decide,by decide,by decide⟩,_,rfl,_,_,rfl,rfl,(by show (0:Int) < _;decide),_,_,rfl,rfl,q _ (by rw [e30];unfold B30;omega) (by rw [e30];unfold B30;omega)⟩) (λ_=>?_);refine ⟨_,rfl,_,_,rfl,rfl,(by show (0:Int) < _;decide),rfl,_,rfl,?_⟩;refine a1K (λ_=>⟨_,rfl,_,_,rfl,rfl,(by show (0:Int) < _;decide),_,_,rfl,rfl,q _ (by omega) (by unfold B30;omega)⟩) (λ_=>?_);exact ⟨_,rfl,_,_,rfl,rfl,(by show (0:Int) < _;decide),_,_,rfl,rfl,q _ (by omega) (by unfold B30;omega)⟩
def sgL (c:Int) (n:Nat):List Str:=(List.range n).map λk:Nat=>S [97+((c+5 * (k:Int)) % 26).toNat]
abbrev NSg:List Str:=["cell","many","letters"]
abbrev PSg:List Str:=["cell","many"]
def spSg:Sp:=λvs H Q _=>∃ (c:Int) (n:Nat),vs=[.int c,.int n]/\n<=30/\∀ d H',a0E H H'->H d=none->H' d=some (.lst ((sgL c n).map V.str))->Q (.ref d) H'
theorem scSg:a0u NSg PSg (a0e a3T):=⟨rfl,rfl,rfl,by decide +kernel,rfl,by decide +kernel,by decide +kernel⟩
theorem ndSg:(("k":Str) :: NSg).Nodup:=by decide +kernel
theorem ok_sg (F:Fun K "_law_signs" "_law_signs" a3T f fd) (mr:mg "range"=none):a1a P w K mg base CX0 1 f fd PSg spSg:=by
 refine F.ok (k:=0) scSg (λvs H Q E h=>?_) (λcdv A outer s H vs Q E hr h=>?_)
 ·obtain ⟨c,n,rfl,_⟩:=h;rfl
 obtain ⟨c,n,rfl,n30,q⟩:=h;refine ⟨_,a0c (a0z (i:=2) scSg.nd rfl (Or.inr rfl) a0i)
  (a0h (a0v (a1P (M:=NSg) rfl (a0l.of (a0e a3T) NSg rfl rfl rfl (by decide +kernel) (by decide +kernel) (by decide +kernel) rfl (by decide +kernel)) ndSg rfl (by rfl) mr (a0a (pv 1) a0f) (a1k a0R a1U)
   (λcl C s0 H0 fp=>⟨a0L,a0n a5l (pv 3) (a0m a0O (a0m a0M (pv 1) (a0m b0Y a0d (pv 0))) a0d) (λ_ _=>rfl)⟩)))),?_⟩
 refine ⟨_,rfl,_,rfl,by omega,by omega,λd hd=>?_⟩;have en:((n:Int)).toNat=n:=Int.toNat_natCast n;rw [en];refine ⟨λi H'=>a0E H H'/\H' d=some (.lst ((sgL c i).map V.str)),⟨a0g hd _,a0b⟩,λi H' hi hP=>?_,λH' hP=>q d H' hP.1 hd hP.2⟩;obtain ⟨s1,hz⟩:=hP;have ei:(0:Int)+(i:Int)=(i:Int):=by omega
 rw [ei];have h0:=Int.emod_nonneg (c+5 * (i:Int)) (show (26:Int)≠0 by decide);have h1:=Int.emod_lt_of_pos (c+5 * (i:Int)) (show (0:Int) < 26 by decide);refine a0G ⟨_,rfl,_,rfl,_,rfl,_,_,rfl,rfl,.inl ⟨by decide,by decide⟩,_,_,rfl,rfl,_,_,rfl,rfl,(by show (0:Int) < _;decide),alpha,_,_,rfl,rfl,a3U,a4P h0 h1,_,hz,?_,a0w hd s1,?_⟩
 ·rw [List.length_map];unfold sgL;rw [List.length_map,List.length_range];exact a0p (by omega)
 ·rw [a0b];unfold sgL;rw [List.range_succ,List.map_append,List.map_append];rfl
end
end K94
namespace L2
open PySem PySem.Spec PyProof.Rows
section
variable {X:Cx}
def a2z:List Expr->Option (List Str)
 | []=>some []
 | .Constant (.str i) _ _ :: es=>(a2z es).map λqs=>i :: qs
 | _ :: _=>none
def tSs:List Str->TA
 | []=>b2e
 | q :: qs=>a7L (tC (.str q)) (tSs qs)
theorem a8C {e:Expr} {es:List Expr} {qs:List Str} (h:a2z (e :: es)=some qs):∃ i k p qs',e=.Constant (.str i) k p/\a2z es=some qs'/\qs=i :: qs':=by
 unfold a2z at h;split at h
 ·rename_i heq;cases heq
 ·rename_i heq;cases heq;cases hq:a2z es with
  | none=>rw [hq] at h;cases h
  | some qs'=>rw [hq] at h;cases h;exact ⟨_,_,_,qs',rfl,rfl,rfl⟩
 ·cases h
theorem a8D:∀ {es:List Expr} {qs:List Str},a2z es=some qs->PA X es (tSs qs)
 | [],qs,h=>by cases h;exact a0f
 | e :: es,qs,h=>by
  obtain ⟨i,k,p,qs',rfl,h2,rfl⟩:=a8C h;exact a0a a0i (a8D h2) (by rfl)
theorem a8E:∀ (qs:List Str) {σ:St} {H:Hp} {Q:List V->Hp->Prop},Q (qs.map V.str) H->tSs qs σ H Q
 | [],σ,H,Q,h=>h
 | q :: qs,σ,H,Q,h=>a8E qs h
def a8F (qs:List Str):TE:=λ_ H Q=>qs.length<=1000/\∀ d H',a0E H H'->H d=none->H' d=some (.lst (qs.map V.str))->Q (.ref d) H'
theorem b2H {es:List Expr} {pos:Pos} {qs:List Str} (h:a2z es=some qs:=by rfl):PE X (.List es pos) (a8F qs):=by
 refine (a0W (a8D h)).imp λσ H Q q=>?_;obtain ⟨l,q⟩:=q;refine a8E qs ⟨Nat.le_of_lt (a0p (by rw [List.length_map];exact l)),λd hd=>?_⟩;exact q d _ (a0g hd _) hd a0b
theorem b2I (i:Nat) {x:Str} {pos' lp pos:Pos} {es:List Expr} (qs:List Str) (h:a2z es=some qs) (hN:X.N.Nodup) (hi:X.N[i]?=some x) (hx:Loc X.env.scope x) (hf:X.fn x=true\/X.env.scope.names.lookup x=some .local) :
  PS X (.Assign [.Name x pos'] (.List es lp) pos) (a7A (a8F qs) (a1E i)):=a0z hN hi hx (b2H h) (by rfl) hf
def a3f:Stmt->Option (Str × List Str)
 | .Assign [.Name x _] (.List es _) _=>(a2z es).map λq=>(x,q)
 | _=>none
theorem b1q (i:Nat) (st:Stmt) {x:Str} (qs:List Str) (h:a3f st=some (x,qs)) (hN:X.N.Nodup) (hi:X.N[i]?=some x) (hx:Loc X.env.scope x) (hf:X.fn x=true\/X.env.scope.names.lookup x=some .local):PS X st (a7A (a8F qs) (a1E i)):=by
 unfold a3f at h;split at h
 ·rename_i y p0 es lp pos;cases hq:a2z es with
  | none=>rw [hq] at h;cases h
  | some q=>rw [hq] at h;cases h;exact b2I i qs hq hN hi hx hf
 ·cases h
end
end L2
namespace K94
open PySem L2
def Lo (l:List Nat):Prop:=∀ c∈l,97<=c/\c<=122
structure Nm (m:Nat) (z:Str):Prop where
 l1:1<=z.cps.toList.length
 l8:z.cps.toList.length<=m
 lo:Lo z.cps.toList
theorem a8G {α:Type} {w:α}:∀ {zs:List α} {i:Nat},zs.Nodup->w∉zs->(zs.set i w).Nodup
 | [],_,h,_=>h
 | z :: zs,0,h,hw=>List.nodup_cons.mpr ⟨λx=>hw (.tail _ x),(List.nodup_cons.mp h).2⟩
 | z :: zs,i+1,h,hw=>by
  refine List.nodup_cons.mpr ⟨λx=>?_,a8G (List.nodup_cons.mp h).2 (λx=>hw (.tail _ x))⟩;rcases List.mem_or_eq_of_mem_set x with y | y
  ·exact (List.nodup_cons.mp h).1 y
  ·exact hw (y▸.head _)
theorem a1n {w:Str} {zs:List Str}:inV (.str w) (zs.map V.str)=decide (w∈zs):=by
 unfold inV;rw [List.any_map]
 induction zs with
 | nil=>rfl
 | cons z zs ih =>
  rw [List.any_cons,ih];show (z == w || _)=_;by_cases e:z=w
  ·subst e;simp
  ·have:¬ w=z:=λx=>e x.symm;simp [e,this]
theorem a0S (zs:List Str):(zs.map V.str).all a4D=true:=by
 rw [List.all_map,List.all_eq_true];intro z _;rfl
theorem b2J {H H':Hp} {d:Addr} (s:a0E H H') (h:H' d=none):H d=none:=by
 cases e:H d with
 | none=>rfl
 | some o=>rw [s _ _ e] at h;cases h
def hd (r:Int) (k:Nat):Nat:=97+((r+7 * (k:Int)) % 26).toNat
theorem hd_lo (r:Int) (k:Nat):97<=hd r k/\hd r k<=122:=by unfold hd;omega
theorem hd_inj {r:Int} {i j:Nat} (hi:i < 24) (hj:j < 24) (h:hd r i=hd r j):i=j:=by unfold hd at h;omega
def nm1 (b:Bool) (t:List Nat) (h:Nat):List Nat:=if b then t++[h] else h :: t
def nms (b:Bool) (t:List Nat) (r:Int) (n:Nat):List Str:=(List.range n).map λk=>S (nm1 b t (hd r k))
theorem b2K {b:Bool} {t:List Nat} {h h':Nat} (e:nm1 b t h=nm1 b t h'):h=h':=by
 unfold nm1 at e;split at e
 ·exact List.head_eq_of_cons_eq (List.append_cancel_left e)
 ·exact (List.cons.inj e).1
theorem nms_nd {b:Bool} {t:List Nat} {r:Int} {n:Nat} (h:n<=24):(nms b t r n).Nodup:=by
 unfold nms List.Nodup;rw [List.pairwise_map];refine List.Pairwise.imp_of_mem ?_ (List.nodup_range (n:=n));intro i j hi hj ne e;exact ne (hd_inj (by have:=List.mem_range.mp hi;omega) (by have:=List.mem_range.mp hj;omega) (b2K (S_inj e)))
theorem nms_ok {b:Bool} {t:List Nat} {r:Int} {n:Nat} (h:t.length<=7) (lo:Lo t):∀ z∈nms b t r n,Nm 8 z:=λz hz=>by
 obtain ⟨k,_,rfl⟩:=List.mem_map.mp hz;have:=hd_lo r k;refine ⟨?_,?_,?_⟩ <;> rw [a7h] <;> unfold nm1 <;> split
 ·simp
 ·simp
 ·rw [List.length_append];exact Nat.succ_le_succ h
 ·exact Nat.succ_le_succ h
 ·intro c hc;rcases List.mem_append.mp hc with x | x
  ·exact lo c x
  ·rw [List.mem_singleton.mp x];exact this
 ·intro c hc;rcases List.mem_cons.mp hc with x | x
  ·rw [x];exact this
  ·exact lo c x
def wds:List Str:=[Str.ofString "cost",Str.ofString "many",Str.ofString "free",Str.ofString "code",Str.ofString "sure",Str.ofString "bounded",Str.ofString "price",Str.ofString "weight",Str.ofString "write",Str.ofString "read",Str.ofString "none",Str.ofString "thing"]
theorem wds_ok:∀ z∈wds,Nm 8 z:=by
 have h:∀ z∈wds,1<=z.cps.toList.length/\z.cps.toList.length<=8/\∀ c∈z.cps.toList,97<=c/\c<=122:=by decide +kernel
 exact λz hz=>⟨(h z hz).1,(h z hz).2.1,(h z hz).2.2⟩
section
variable {P:Program} {w:World} {K:PySem.W.Frag} {mg:Str->Option Value} {base:Heap} {f:Addr} {fd:FuncData}
abbrev NNm:List Str:=["cell","many","letters","rest","tail","k","heads","names","words","word"]
abbrev MNm:List Str:=["cell","many","letters","rest","tail","-","heads","names","words","word"]
abbrev PNm:List Str:=["cell","many"]
def spNm:Sp:=λvs H Q _=>∃ (c:Int) (n:Nat),vs=[.int c,.int n]/\1<=n/\n<=24/\∀ (d:Addr) (zs:List Str) H',a0E H H'->H d=none->H' d=some (.lst (zs.map V.str))->zs.length=n->zs.Nodup->(∀ z∈zs,Nm 8 z)->Q (.ref d) H'
theorem a8H:a0u NNm PNm (a0e a1B):=⟨rfl,rfl,rfl,by decide +kernel,rfl,by decide +kernel,by decide +kernel⟩
theorem ndNm1:(("k":Str) :: MNm).Nodup:=by decide +kernel
theorem ndNm2:(("head":Str) :: MNm).Nodup:=by decide +kernel
abbrev stW:Stmt:=(a0o a1B).getD 6 (.Pass ⟨0,0,0,0⟩)
theorem ok_nm (F:Fun K "_law_names" "_law_names" a1B f fd) (mr:mg "range"=none):a1a P w K mg base CX0 1 f fd PNm spNm:=by
 refine F.ok (k:=0) a8H (λvs H Q E h=>?_) (λcdv A outer s H vs Q E hr h=>?_)
 ·obtain ⟨c,n,rfl,_⟩:=h;rfl
 obtain ⟨c,n,rfl,n1,n24,qq⟩:=h;have key:∀ st2:Stmt,a3f st2=some (("words":Str),wds)->∃ t,PSs (a7N CX0 P w K mg base NNm (Str.ofString "_law_names") (a0e a1B) f cdv A outer s H E).nox ((a0o a1B).getD 0 (.Pass ⟨0,0,0,0⟩) :: (a0o a1B).getD 1 (.Pass ⟨0,0,0,0⟩) :: (a0o a1B).getD 2 (.Pass ⟨0,0,0,0⟩) :: (a0o a1B).getD 3 (.Pass ⟨0,0,0,0⟩) :: (a0o a1B).getD 4 (.Pass ⟨0,0,0,0⟩) :: (a0o a1B).getD 5 (.Pass ⟨0,0,0,0⟩) :: st2 :: (a0o a1B).drop 7) t/\t { nx:=λx H'=>Q V.non H',rt:=Q } (L2.start NNm [V.int c,V.int n]) H:=by
  intro st2 hst2;refine ⟨_,a0c (a0z (i:=2) a8H.nd rfl (Or.inr rfl) (a0i))
   (a0c (a0z (i:=3) a8H.nd rfl (Or.inr rfl) (a0m a1b (pv 0) (a0d)))
   (a0c (a0z (i:=4) a8H.nd rfl (Or.inr rfl) (a0i))
   (a0c (a1v PassesOwn.never rfl (a1M (by rfl) mr (a0a (a0m a0O (a0m a1b (pv 0) (a0d)) (a0d)) (a0f))) (a0H (i:=5) a8H.nd rfl (Or.inl rfl)) (a0c (a0z (i:=4) a8H.nd rfl (Or.inr rfl) (a0m a0A (pv 4) (a0n a5l (pv 2) (a0m a0O (pv 3) (a0d)) (λ_ _=>rfl))))
   (a0h (a0z (i:=3) a8H.nd rfl (Or.inr rfl) (a0m a1b (pv 3) (a0d))))))
   (a0c (a8g (i:=6) (M:=MNm) a8H.nd rfl rfl rfl (a0l.of (a0e a1B) NNm rfl rfl rfl (by decide +kernel) (by decide +kernel) (by decide +kernel) rfl (by decide +kernel)) ndNm1 rfl (by rfl) mr (a0a (pv 1) a0f) (a1k a0R a1U)
   (λcl C s0 H0 fp=>⟨a0L,a0n a5l (pv 3) (a0m a0O (a0m a0M (pv 4) (a0m b0Y (a0d) (pv 0))) (a0d)) (λ_ _=>rfl)⟩))
   (a0c (a2N (i:=7) (M:=MNm) a8H.nd rfl rfl rfl (a0l.of (a0e a1B) NNm rfl rfl rfl (by decide +kernel) (by decide +kernel) (by decide +kernel) rfl (by decide +kernel)) ndNm2 rfl (pv 6) a0R
   (λcl C s0 H0 fp=>⟨a0L,a0n (ixL K) (a0W (a0a (a0m a0A (pv 0) (pv 5)) (a0a (a0m a0A (pv 5) (pv 0)) (a0f)))) (a0m a0O (pv 1) (a0d)) (λ_ _=>rfl)⟩))
   (a0c (b1q 8 _ wds hst2 a8H.nd rfl (Or.inl rfl) (Or.inl rfl))
   (a0c (a0z (i:=9) a8H.nd rfl (Or.inl rfl) (a0n a0k (pv 8) (a0m a0O (a0m a1b (pv 0) (a0d)) (a0d)) (λ_ _=>rfl)))
   (a0c (a5r (a0J (PW.pt (a3C (a0y a1g (a0m a0O (pv 0) (a0d)) (a0d) (nomark _)) (a2T (a0y a1p (pv 9) (pv 7) rfl)))) (a0h (a2G (pv 9) (a3E (pv 7) (a0d) a1Y))) (a0x)))
   (a0c (a5r (a0J (PW.pt (a3C (a0y a5K (pv 1) (a0d) (nomark _)) (a3C (a0y a1g (a0m a0O (pv 0) (a0d)) (a0d) (nomark _)) (a2T (a0y a1p (a1s a8w (a0n a0k (pv 7) (a0d) (λ_ _=>rfl)) a1N (a1O (a2t a1J a0d))) (a0m a2K (pv 7) (a0W (a0a (a0i) (a0f)))) rfl))))) (a0h (a2G (a1s a8w (a0n a0k (pv 7) (a0d) (λ_ _=>rfl)) a1N (a1O (a2t a1J a0d))) (a3E (pv 7) (a0d) a1Y))) (a0x)))
   (a0h (a0v (pv 7)))))))))))),?_⟩
  refine ⟨_,rfl,_,_,rfl,rfl,⟨by decide,by decide⟩,?_⟩;have m0:=Int.emod_nonneg (c / 6) (show (8:Int)≠0 by decide);have m8:=Int.emod_lt_of_pos (c / 6) (show (0:Int) < 8 by decide);refine ⟨_,rfl,_,_,rfl,rfl,⟨by decide,by decide⟩,_,_,rfl,rfl,(by show (0:Int) < _;decide),_,rfl,by omega,by omega,?_⟩;refine a1r (λi σ H'=>H=H'/\∃ (t:List Nat) (r:Int) (x5:Option V),σ=[some (.int c),some (.int n),some (.str alpha),some (.int r),some (.str (S t)),x5,none,none,none,none]/\t.length=i/\Lo t) ⟨rfl,[],_,_,rfl,rfl,λc hc=>by cases hc⟩ (λi σ H1 hi hP=>?_) (λσ H1 hP=>?_)
  ·obtain ⟨rfl,t,r,x5,rfl,lt,lo⟩:=hP;have h0:=Int.emod_nonneg r (show (26:Int)≠0 by decide);have h1:=Int.emod_lt_of_pos r (show (0:Int) < 26 by decide);refine ⟨_,rfl,_,rfl,_,rfl,_,_,rfl,rfl,(by show (0:Int) < _;decide),alpha,_,_,rfl,rfl,a3U,a4P h0 h1,_,_,rfl,rfl,?_,?_⟩
   ·show (S t).length+1<=sizeLine;rw [a5W];exact Nat.le_of_lt (a0p (by omega))
   refine ⟨_,rfl,_,_,rfl,rfl,⟨by decide,by decide⟩,rfl,t++[97+(r % 26).toNat],r / 26,some (.int (0+(i:Int))),?_,by simp [lt],λc hc=>?_⟩
   ·rw [<-b0s];rfl
   ·rcases List.mem_append.mp hc with x | x
    ·exact lo c x
    ·rw [List.mem_singleton.mp x];omega
  obtain ⟨rfl,t,r,x5,rfl,lt,lo⟩:=hP;have t7:t.length<=7:=by omega
  refine ⟨_,rfl,_,rfl,by omega,by omega,λd1 hd1=>?_⟩;have en:((n:Int)).toNat=n:=Int.toNat_natCast n;rw [en];refine ⟨λi H'=>a0E H H'/\H' d1=some (.lst (((List.range i).map λk=>S [hd r k]).map V.str)),⟨a0g hd1 _,a0b⟩,λi H' hi hP=>?_,λH1 hP=>?_⟩
  ·obtain ⟨s1,hz⟩:=hP;have ei:(0:Int)+(i:Int)=(i:Int):=by omega
   rw [ei];have h0:=Int.emod_nonneg (r+7 * (i:Int)) (show (26:Int)≠0 by decide);have h1:=Int.emod_lt_of_pos (r+7 * (i:Int)) (show (0:Int) < 26 by decide);refine a0G ⟨_,rfl,_,rfl,_,rfl,_,_,rfl,rfl,.inl ⟨by decide,by decide⟩,_,_,rfl,rfl,_,_,rfl,rfl,(by show (0:Int) < _;decide),alpha,_,_,rfl,rfl,a3U,a4P h0 h1,_,hz,?_,a0w hd1 s1,?_⟩
   ·rw [List.length_map,List.length_map,List.length_range];exact a0p (by omega)
   ·rw [a0b,List.range_succ,List.map_append,List.map_append];rfl
  obtain ⟨s1,g1⟩:=hP;obtain ⟨b,hb⟩:∃ b:Bool,b=decide (c % 2=1):=⟨_,rfl⟩
  refine ⟨_,rfl,d1,_,rfl,SqL.of g1,λd hd'=>?_⟩;refine ⟨λi H'=>a0E H1 H'/\H' d=some (.lst ((nms b t r i).map V.str)),⟨a0g hd' _,a0b⟩,λi H' _ hP=>SqL.of (hP.1 _ _ g1),λi x H' hx hP=>?_,λH2 hP=>?_⟩
  ·obtain ⟨s2,hz⟩:=hP;rw [List.map_map] at hx;have il:i < n:=by have:=(List.getElem?_eq_some_iff.mp hx).1;rw [List.length_map,List.length_range] at this;exact this
   rw [List.getElem?_map,List.getElem?_range il] at hx;have ex:x=.str (S [hd r i]):=(Option.some.inj hx).symm;subst ex;have hl:∀ a b:List Nat,a.length+b.length<=8->(S a).length+(S b).length<=sizeLine:=λa b h=>by rw [a5W,a5W];exact Nat.le_of_lt (a0p (by omega))
   have l1:[hd r i].length=1:=rfl;refine a0G ⟨_,rfl,_,rfl,_,_,rfl,rfl,hl _ _ (by omega),_,rfl,_,rfl,_,_,rfl,rfl,hl _ _ (by omega),(by show 2<=sizeLine;decide),λo ho=>?_⟩;have hat:atI [V.str (S [hd r i]++S t),.str (S t++S [hd r i])] (c % 2)=some (.str (S (nm1 b t (hd r i)))):=by
    have h:c % 2=0\/c % 2=1:=by omega
    rw [hb];unfold nm1;rcases h with h | h
    ·rw [h,decide_eq_false (by decide),if_neg Bool.false_ne_true,b0s];rfl
    ·rw [h,decide_eq_true rfl,if_pos rfl,b0s,b0s];rfl
   have s3:=s2.trans (a0g ho (.lst [V.str (S [hd r i]++S t),.str (S t++S [hd r i])]));refine ⟨_,rfl,_,_,rfl,rfl,(by show (0:Int) < _;decide),o,_,_,_,rfl,rfl,SqL.of a0b,hat,_,a0g ho _ _ _ hz,?_,a0w hd' s3,?_⟩
   ·rw [List.length_map];unfold nms;rw [List.length_map,List.length_range];exact a0p (by omega)
   ·rw [a0b];unfold nms;rw [List.range_succ,List.map_append,List.map_append];rfl
  obtain ⟨s2,g2⟩:=hP;rw [List.length_map,List.length_map,List.length_range] at g2;have s02:=s1.trans s2;have hdn:H d=none:=b2J s1 hd';refine ⟨by show 12<=1000;decide,λo H3 s3 ho g3=>?_⟩;have w0:=Int.emod_nonneg (c / 35) (show (12:Int)≠0 by decide);have w12:=Int.emod_lt_of_pos (c / 35) (show (0:Int) < 12 by decide);obtain ⟨wd,hwd,hat⟩:∃ wd,wd∈wds/\atI (wds.map V.str) (c / 35 % 12)=some (.str wd):=by
   obtain ⟨k,hk⟩:∃ k:Nat,c / 35 % 12=k:=⟨(c / 35 % 12).toNat,by omega⟩
   have lk:k < wds.length:=by show k < 12;omega
   refine ⟨wds[k],List.getElem_mem lk,?_⟩;rw [hk];exact a1G (by rw [List.getElem?_map,List.getElem?_eq_getElem lk];rfl)
  generalize hz0:nms b t r n=zs0 at g2;have nd0:zs0.Nodup:=hz0▸nms_nd n24;have ok0:∀ z∈zs0,Nm 8 z:=hz0▸nms_ok t7 lo;have ln0:zs0.length=n:=by rw [<-hz0];unfold nms;rw [List.length_map,List.length_range]
  have s03:=s02.trans s3;have g4:=s3 _ _ g2;refine ⟨_,rfl,_,rfl,_,_,rfl,rfl,⟨by decide,by decide⟩,_,_,rfl,rfl,(by show (0:Int) < _;decide),o,_,_,_,rfl,rfl,SqL.of g3,hat,?_⟩;have len0:∀ {zs:List Str},zs.length=n->ixN (zs.map V.str).length 0=some 0:=λh=>by
   unfold ixN;rw [if_pos (by decide),if_pos (by rw [List.length_map,h];omega)];rfl
  refine ⟨λσ' H'=>∃ zs:List Str,σ'=[some (.int c),some (.int n),some (.str alpha),some (.int r),some (.str (S t)),x5,some (.ref d1),some (.ref d),some (.ref o),some (.str wd)]/\a0E H H'/\H' d=some (.lst (zs.map V.str))/\zs.length=n/\zs.Nodup/\∀ z∈zs,Nm 8 z,?_,?_⟩
  ·refine ⟨_,rfl,_,_,rfl,rfl,(by show (0:Int) < _;decide),rfl,_,rfl,a1K (λ_=>?_) (λ_=>⟨zs0,rfl,s03,g4,ln0,nd0,ok0⟩)⟩;refine ⟨_,rfl,_,rfl,d,_,rfl,.inl (SqL.of g4),rfl,a0S _,_,rfl,a1K (λhc=>?_) (λ_=>⟨zs0,rfl,s03,g4,ln0,nd0,ok0⟩)⟩;rw [a1n] at hc;have ni:wd∉zs0:=λx=>by rw [decide_eq_true x] at hc;cases hc
   refine ⟨_,rfl,_,rfl,d,_,_,0,rfl,rfl,g4,len0 ln0,zs0.set 0 wd,rfl,a0w hdn s03,?_,by rw [List.length_set];exact ln0,a8G nd0 ni,λz hz=>?_⟩
   ·rw [a0b,List.map_set]
   ·rcases List.mem_or_eq_of_mem_set hz with x | x
    ·exact ok0 z x
    ·rw [x];exact wds_ok wd hwd
  rintro σ' H4 ⟨zs,rfl,s4,g5,ln,nd,ok⟩;refine ⟨λσ' H'=>∃ zs:List Str,σ'=[some (.int c),some (.int n),some (.str alpha),some (.int r),some (.str (S t)),x5,some (.ref d1),some (.ref d),some (.ref o),some (.str wd)]/\a0E H H'/\H' d=some (.lst (zs.map V.str))/\zs.length=n/\zs.Nodup/\∀ z∈zs,Nm 8 z,?_,?_⟩
  ·obtain ⟨z0,hz0⟩:∃ z0,zs[0]?=some z0:=⟨zs[0]'(by omega),List.getElem?_eq_getElem (by omega)⟩
   have N0:=ok z0 (List.mem_of_getElem? hz0);have a0:atI (zs.map V.str) 0=some (.str z0):=a1G (j:=0) (by rw [List.getElem?_map,hz0];rfl);have zl1:1<=z0.length:=by have:=N0.l1;rw [Array.length_toList] at this;exact this
   have zl2:z0.length<=sizeLine:=Nat.le_of_lt (a0p (by have:=N0.l8;rw [Array.length_toList] at this;show z0.cps.size<=1000;omega));refine ⟨_,rfl,_,_,rfl,rfl,_,rfl,a1K (λn1'=>?_) (λ_=>⟨zs,rfl,s4,g5,ln,nd,ok⟩)⟩;refine ⟨_,rfl,_,_,rfl,rfl,(by show (0:Int) < _;decide),rfl,_,rfl,a1K (λ_=>?_) (λ_=>⟨zs,rfl,s4,g5,ln,nd,ok⟩)⟩;refine ⟨_,rfl,d,_,_,_,rfl,rfl,SqL.of g5,a0,_,rfl,_,rfl,z0,rfl,rfl,rfl,zl1,zl2,?_⟩;refine ⟨_,rfl,(by show 1<=sizeLine;decide),λp hp=>?_⟩;have s5:=a0g hp (.lst [V.str (Str.ofString "")]);refine ⟨d,p,_,_,rfl,rfl,s5 _ _ g5,a0b,Nat.le_of_lt (a0p (by rw [List.length_map];show zs.length+1<=1000;omega)),λp2 hp2=>?_⟩;have s6:=s5.trans (a0g hp2 (.lst (zs.map V.str++[V.str (Str.ofString "")])));have ec:zs.map V.str++[V.str (Str.ofString "")]=(zs++[Str.ofString ""]).map V.str:=by rw [List.map_append];rfl
   have s46:=s4.trans s6;have g6:=s6 _ _ g5;refine ⟨p2,_,rfl,.inl (SqL.of a0b),rfl,by rw [ec];exact a0S _,_,rfl,a1K (λhc=>?_) (λ_=>⟨zs,rfl,s46,g6,ln,nd,ok⟩)⟩;rw [ec,a1n] at hc;have ni:(⟨z0.cps.toList.dropLast.toArray⟩:Str)∉zs++[Str.ofString ""]:=λx=>by rw [decide_eq_true x] at hc;cases hc
   have n2:1 < n:=by have:=of_decide_eq_true n1';omega
   have i1:ixN (zs.map V.str).length 1=some 1:=by
    unfold ixN;rw [if_pos (by decide),if_pos (by rw [List.length_map,ln];omega)];rfl
   refine ⟨_,rfl,d,_,_,_,rfl,rfl,SqL.of g6,a0,_,rfl,_,rfl,z0,rfl,rfl,rfl,zl1,zl2,_,rfl,d,_,_,1,rfl,rfl,g6,i1,zs.set 1 ⟨z0.cps.toList.dropLast.toArray⟩,rfl,a0w hdn s46,?_,by rw [List.length_set];exact ln,a8G nd (λx=>ni (List.mem_append_left _ x)),λz hz=>?_⟩
   ·rw [a0b,List.map_set]
   ·rcases List.mem_or_eq_of_mem_set hz with x | x
    ·exact ok z x
    ·rw [x];have e:(⟨z0.cps.toList.dropLast.toArray⟩:Str).cps.toList=z0.cps.toList.dropLast:=List.toList_toArray;refine ⟨?_,?_,?_⟩ <;> rw [e]
     ·rcases Nat.eq_zero_or_pos z0.cps.toList.dropLast.length with y | y
      ·exfalso;refine ni (List.mem_append_right _ (List.mem_singleton.mpr ?_));rw [List.length_eq_zero_iff.mp y];rfl
      ·exact y
     ·rw [List.length_dropLast];exact Nat.le_trans (Nat.sub_le _ _) N0.l8
     ·exact λc hc=>N0.lo c (List.dropLast_subset _ hc)
  rintro σ' H5 ⟨zs,rfl,s5,g6,ln,nd,ok⟩;exact ⟨_,rfl,qq d zs H5 s5 hdn g6 ln nd ok⟩
 exact key stW rfl
end
end K94
namespace L2
open PySem PySem.Spec PyProof.Rows
theorem b0x {X:Cx} (K:PySem.W.Frag) (ka kb:Bool) {elt a b:Expr} {t1 t2 x:Str} {p1 p2 tp p pos pos' pos1 spos:Pos} {k i:Nat} {cs:List Expr} {scope:Scope} {tc:TT} {te:TE} {ta:TA} {M:List Str} (hN:X.N.Nodup) (hix:X.N[i]?=some x) (hx:X.env.scope.names.lookup x=some .local) (hc:X.calm=true) (S:a0l scope X.env X.N M) (nd:(t1 :: t2 :: M).Nodup) (hl1:scope.names.lookup t1=some .local) (hl2:scope.names.lookup t2=some .local)
  (hg:Gl X "zip") (hm:X.mg "zip"=none) (ha:PA X [a,b] ta) (mo:a4F ta)
  (hin:∀ (cl:List (Str × Addr)) (C:Addr) (s0:Shared) (H0:Hp) (fp:List Addr),PTs (cxC X scope cl C s0 H0 fp (t1 :: t2 :: M)) cs tc/\PE (cxC X scope cl C s0 H0 fp (t1 :: t2 :: M)) elt te)
  (hw:swapsWith (.ListComp elt [⟨.Tuple [.Name t1 p1,.Name t2 p2] k tp,.Call (.Name "zip" p) [a,b] [] pos',cs,0⟩] scope pos) (some (.Name x pos1)) spos.line X.env=pure true:=by rfl)
  (hs:starEach [a,b] X.env=[(false,eval a X.env),(false,eval b X.env)]:=by rfl) (hs2:starEach [b] X.env=[(false,eval b X.env)]:=by rfl) (hf:∀ x,foldedSetIterable (.Call (.Name "zip" p) [a,b] [] pos') X.env x=pure x:=by intro _;rfl) (hK:X.K=K:=by rfl) :
  PS X (.Assign [.Name x pos1] (.ListComp elt [⟨.Tuple [.Name t1 p1,.Name t2 p2] k tp,.Call (.Name "zip" p) [a,b] [] pos',cs,0⟩] scope pos) spos) (a7A (b1l K ka kb ta tc te) (a1E i)):=by
 subst hK;have hx1:(relabel scope X.env).names.lookup t1=some .local:=by rw [a0Q,hl1];rfl
 have hx2:(relabel scope X.env).names.lookup t2=some .local:=by rw [a0Q,hl2];rfl
 intro pins s σ H D I h;refine a7Z (xs:=[t1,t2]) (M:=M) (g:=a8q X.K) hc S (b1k ka kb hg hm ha hs hs2) (λcl C s0 H0 fp=>⟨a5f hc (a1m (a0H (i:=0) nd rfl (Or.inl hx1) (Or.inr hx1)) (a1m (a0H (i:=1) nd rfl (Or.inl hx2) (Or.inr hx2)) a3D)),hin cl C s0 H0 fp⟩) (λv σ H Q h=>a5w h) hN hix hx hw hf pins s σ H D I ?_;refine mo σ H _ _ (λvs H1 q=>?_) h;obtain ⟨a',b',xs,ys,e,q1,q2,hlen,q⟩:=q;refine ⟨a',b',xs,ys,e,q1,q2,λd hd=>?_⟩;obtain ⟨Pv,h0,hl,hs,hd⟩:=q d hd;exact a6v (Q:=λx H1=>a1E i x σ H1 D.nx) hlen Pv h0 hl hs hd
section
variable {X:Cx} {o e:Expr} {es:List Expr} {to:TE} {t:TA} {name:Str} {apos cpos:Pos} {id:String} {r:V->List V->Hp->VK->Prop}
def tBMS (r:V->List V->Hp->VK->Prop) (to:TE) (t:TA):TE:=λσ H Q=>to σ H λx H1=>(∃ z,x=.str z)/\t σ H1 λxs H2=>r x xs H2 Q
theorem a8I (slot:Slot "str" name id) (hty:typeOf (.builtin id)=pure (.type "method_descriptor")) (hm:MtR X id r) (ho:PE X o to) (ha:PA X (e :: es) t)
  (hbase:attributeBase o name X.env (eval o X.env)=eval o X.env:=by rfl)
  (hfew:((backTo cpos (starEach (e :: es) X.env)).all (λx=>!x.1) && (backToKw cpos (keywordEach [] X.env)).all (λx=>x.1.isSome)
   && decide ((e :: es).length+([]:List Keyword).length+(if ([]:List Keyword).isEmpty then 0 else 1) < 30))=true:=by rfl)
  (hline:(apos.endLine == cpos.line)=true:=by rfl) (hs:starEach (e :: es) X.env=(false,eval e X.env) :: starEach es X.env:=by rfl) (hplain:(backTo cpos (starEach es X.env)).any (·.1)=false:=by rfl) :
  PE X (.Call (.Attribute o name apos) (e :: es) [] cpos) (tBMS r to t):=by
 intro pins s σ H Q I h;refine wpAny_Call_method_late hbase hfew hline rfl (thn (ho pins s σ H _ I h) λv s1 ⟨x,H1,I1,r1,ty,q1⟩=>?_);obtain ⟨z,rfl⟩:=ty;obtain ⟨h1,h2⟩:=a7S I1 r1 (show tyV X.K "str" (.str z) H1 from rfl);refine ⟨"str",id,PySem.F.plainAttrs_str,slot,hty,h1,h2,?_⟩;have hA:=ha cpos pins s1 σ H1 _ I1 q1;rw [hs] at hA ⊢;refine Calls.callWith_builtin (by show (false || (backTo cpos (starEach es X.env)).any (·.1))=false;rw [hplain] <;> rfl) (Calls.evalArgs_plain ?_);exact thn hA λus s2 ⟨vs,H2,I2,r2,q2⟩=>hm pins s2 σ H2 _ vs v us Q I2 r1 r2 q2
end
end L2
namespace K94
open PySem L2
def Bo (ns:List Int):Prop:=∀ x∈ns,1<=x/\x<=B30
structure Bk (sg:List Str) (ps:List Int) (nm:List Str) (ws:List Int):Prop where
 ls:sg.length=ps.length
 ln:nm.length=ws.length
 l2:2<=ps.length
 l6:ps.length<=6
 n1:1<=ws.length
 n24:ws.length<=24
 os:∀ z∈sg,Nm 1 z
 on:∀ z∈nm,Nm 8 z
 ds:sg.Nodup
 dn:nm.Nodup
 bp:Bo ps
 bw:Bo ws
theorem Nm.le {m:Nat} {z:Str} (h:Nm 1 z) (hm:1<=m):Nm m z:=⟨h.l1,Nat.le_trans h.l8 hm,h.lo⟩
theorem Nm.len {m:Nat} {z:Str} (h:Nm m z):z.length<=m:=by have:=h.l8;rw [Array.length_toList] at this;exact this
def kL:Str:=Str.ofString "letter "
def kT:Str:=Str.ofString "thing "
def sp:Str:=Str.ofString " "
def nl:Str:=Str.ofString "\n"
theorem l_kL:kL.length=7:=by decide +kernel
theorem l_kT:kT.length=6:=by decide +kernel
theorem l_sp:sp.length=1:=by decide +kernel
theorem l_nl:nl.length=1:=by decide +kernel
def r0 (k z:Str) (n:Int):Str:=k++z++sp++nS n
def rwS (k z:Str) (n:Int):Str:=r0 k z n++nl
def a2O (sg:List Str) (ps:List Int) (nm:List Str) (ws:List Int):List Str:=List.zipWith (rwS kL) sg ps++List.zipWith (rwS kT) nm ws
def a3s (sg:List Str) (ps:List Int) (nm:List Str) (ws:List Int):Str:=Str.join Str.empty (a2O sg ps nm ws)
theorem S_emp (z:Str):Str.empty++z=z:=by
 show (⟨#[]++z.cps⟩:Str)=z;rw [Array.empty_append]
theorem a4u {n:Int} (h:n<=B30):(nS n).length<=31:=by
 show (S (dg n)).length<=_;rw [a5W];exact a8z h
theorem lg {n:Int} (h0:1<=n) (h1:n<=B30):n.natAbs.log2 < 1920:=by
 rw [Nat.log2_lt (by omega)];have:B30 < 2 ^ 100:=by unfold B30;decide
 have h2:n.natAbs < 2 ^ 100:=by omega
 exact Nat.lt_trans h2 (Nat.pow_lt_pow_right (by decide) (by decide))
theorem a4m {z:Str} (h:z.length<=200):z.length<=sizeLine:=Nat.le_of_lt (a0p (by omega))
theorem a6C {α β γ:Type} {f:α->β->γ} {xs:List α} {ys:List β} {i:Nat} {x:α} {y:β} (hx:xs[i]?=some x) (hy:ys[i]?=some y):(List.zipWith f xs ys)[i]?=some (f x y):=by rw [List.getElem?_zipWith,hx,hy]
theorem b2L {k z:Str} {n:Int} (hk:k.length<=7) (hz:z.length<=8) (hn:n<=B30):(rwS k z n).length<=60:=by
 have:=a4u hn;unfold rwS r0;simp only [Str.length_append,l_sp,l_nl];omega
theorem a8J {k:Str} {zs:List Str} {ns:List Int} (hk:k.length<=7) (hz:∀ z∈zs,Nm 8 z) (hn:Bo ns):∀ r∈List.zipWith (rwS k) zs ns,r.length<=60:=λr hr=>by
 obtain ⟨i,hi⟩:=List.mem_iff_getElem?.mp hr;rw [List.getElem?_zipWith] at hi;cases hx:zs[i]? with
 | none=>rw [hx] at hi;cases hi
 | some z =>
  cases hy:ns[i]? with
  | none=>rw [hx,hy] at hi;cases hi
  | some n =>
   rw [hx,hy] at hi;have e:rwS k z n=r:=Option.some.inj hi;rw [<-e];exact b2L hk (hz z (List.mem_of_getElem? hx)).len (hn n (List.mem_of_getElem? hy)).2
theorem Bk.rows_le {sg nm:List Str} {ps ws:List Int} (B:Bk sg ps nm ws):(∀ r∈a2O sg ps nm ws,r.length<=60)/\(a2O sg ps nm ws).length<=30:=by
 constructor
 ·intro r hr;rcases List.mem_append.mp hr with h | h
  ·exact a8J (by rw [l_kL];decide) (λz hz=>(B.os z hz).le (by decide)) B.bp r h
  ·exact a8J (by rw [l_kT];decide) B.on B.bw r h
 ·unfold a2O;rw [List.length_append,List.length_zipWith,List.length_zipWith];have:=B.l6;have:=B.n24;omega
theorem a5A {te:TE} {σ:St} {d:Addr} {x y:V} {H:Hp} {Z:Hp->Prop} (h:te (some x :: some y :: σ) H λv H4=>∃ ys,H4 d=some (.lst ys)/\ys.length < sizeLine/\Z (upd H4 d (.lst (ys++[v])))):b2u a9T te σ d x y H Z:=by
 show (if true=true then (te (some x :: some y :: σ) H λv H4=>∃ ys,H4 d=some (.lst ys)/\ys.length < sizeLine/\Z (upd H4 d (.lst (ys++[v])))) else Z H);rw [if_pos rfl];exact h
section
variable {P:Program} {w:World} {K:PySem.W.Frag} {mg:Str->Option Value} {base:Heap} {f:Addr} {fd:FuncData}
theorem b_str:bootBuiltins "str"=some (.type "str"):=by decide +kernel
abbrev NBT:List Str:=["signs","prices","names","weights","rows"]
abbrev PBT:List Str:=["signs","prices","names","weights"]
def spBT:Sp:=λvs H Q _=>∃ (a b c d:Addr) (sg:List Str) (ps:List Int) (nm:List Str) (ws:List Int),vs=[.ref a,.ref b,.ref c,.ref d]/\H a=some (.tup (sg.map V.str))/\H b=some (.tup (ps.map V.int))/\H c=some (.tup (nm.map V.str))/\H d=some (.tup (ws.map V.int))/\Bk sg ps nm ws/\∀ H',a0E H H'->Q (.str (a3s sg ps nm ws)) H'
theorem scBT:a0u NBT PBT (a0e sBT):=⟨rfl,rfl,rfl,by decide +kernel,rfl,by decide +kernel,by decide +kernel⟩
theorem ndBT1:(("sign":Str) :: ("price":Str) :: NBT).Nodup:=by decide +kernel
theorem ndBT2:(("name":Str) :: ("weight":Str) :: NBT).Nodup:=by decide +kernel
theorem a8K {k z:Str} {n:Int} (hk:k.length<=7) (hz:z.length<=8) (h1:1<=n) (hn:n<=B30):(Str.empty++k).length<=sizeLine/\(Str.empty++k++z).length<=sizeLine/\(Str.empty++k++z++sp).length<=sizeLine/\(Str.empty++k++z++sp++Str.ofString (toString n)).length<=sizeLine/\(Str.empty++k++z++sp++Str.ofString (toString n)++nl).length<=sizeLine/\Str.empty++k++z++sp++Str.ofString (toString n)++nl=rwS k z n:=by
 have:=a4u hn;rw [S_emp,nS_is (show 0<=n by omega)];refine ⟨a4m (by omega),a4m ?_,a4m ?_,a4m ?_,a4m ?_,rfl⟩ <;> simp only [Str.length_append,l_sp,l_nl] <;> omega
theorem ok_bt (F:Fun K "book_text" "book_text" sBT f fd) (mz:mg "zip"=none):a1a P w K mg base CX0 1 f fd PBT spBT:=by
 refine F.ok (k:=0) scBT (λvs H Q E h=>?_) (λcdv A outer s H vs Q E hr h=>?_)
 ·obtain ⟨a,b,c,d,sg,ps,nm,ws,rfl,_⟩:=h;rfl
 obtain ⟨a,b,c,d,sg,ps,nm,ws,rfl,ha,hb,hc,hd,B,qq⟩:=h;refine ⟨_,a0c (b0x (i:=4) K true true (M:=NBT) scBT.nd rfl rfl rfl (a0l.of (a0e sBT) NBT rfl rfl rfl (by decide +kernel) (by decide +kernel) (by decide +kernel) rfl (by decide +kernel)) ndBT1 rfl rfl (by rfl) mz (a0a (pv 0) (a0a (pv 1) (a0f))) (a1k a0R (a1k a0R a1U)) (λcl C s0 H0 fp=>⟨a0L,a5t (a1S a0i (a1S (a6u (pv 0)) (a1S a0i (a1S (a6u (pv 1)) (a1S a0i b1j)))))⟩))
   (a0c (a1f (a2u PySem.F.plainAttrs_list PySem.F.slot_list_extend PySem.F.type_list_extend a7U (pv 4) (a0a (b0o K true true (M:=NBT) rfl (a0l.of (a0e sBT) NBT rfl rfl rfl (by decide +kernel) (by decide +kernel) (by decide +kernel) rfl (by decide +kernel)) ndBT2 rfl rfl (by rfl) mz (a0a (pv 2) (a0a (pv 3) (a0f))) (a1k a0R (a1k a0R a1U)) (λcl C s0 H0 fp pins σ bk=>⟨a0L,a5t (a1S a0i (a1S (a6u (pv 0)) (a1S a0i (a1S (a6u (pv 1)) (a1S a0i b1j)))))⟩)) (a0f))))
   (a0h (a0v (a2u PySem.F.plainAttrs_str PySem.F.slot_str_join PySem.F.type_str_join a8l (a0i) (a0a (pv 4) (a0f)))))),?_⟩
 refine ⟨_,rfl,_,rfl,a,b,_,_,rfl,SqT.of ha,SqT.of hb,by rw [List.length_map,List.length_map];exact B.ls,λl hl=>?_⟩;refine ⟨λi H'=>a0E H H'/\H' l=some (.lst (((List.zipWith (rwS kL) sg ps).take i).map V.str)),⟨a0g hl _,a0b⟩,λi H' _ hP=>⟨SqT.of (hP.1 _ _ ha),SqT.of (hP.1 _ _ hb)⟩,λi x y p H' hx hy hP hp=>?_,λH1 hP=>?_⟩
 ·obtain ⟨s1,hz⟩:=hP;rw [List.getElem?_map] at hx hy;obtain ⟨z,hz1,rfl⟩:=Option.map_eq_some_iff.mp hx;obtain ⟨n,hn1,rfl⟩:=Option.map_eq_some_iff.mp hy;have Z:=B.os z (List.mem_of_getElem? hz1);have N:=B.bp n (List.mem_of_getElem? hn1);obtain ⟨l1,l2,l3,l4,l5,e5⟩:=a8K (k:=kL) (z:=z) (n:=n) (by rw [l_kL];decide) (Nat.le_trans Z.len (by decide)) N.1 N.2;have il:i < 6:=by have:=(List.getElem?_eq_some_iff.mp hn1).1;have:=B.l6;omega
  refine a5A ⟨_,rfl,l1,_,rfl,.inl ⟨_,rfl,a4m (by have:=Z.len;omega),_,rfl,l2,_,rfl,l3,_,rfl,.inr ⟨_,rfl,lg N.1 N.2,_,rfl,l4,_,rfl,l5,l5,?_⟩⟩⟩;refine ⟨_,a0g hp _ _ _ hz,?_,a0w hl (s1.trans (a0g hp _)),?_⟩
  ·rw [List.length_map,List.length_take];exact a0p (by omega)
  ·rw [a0b,List.take_add_one,a6C hz1 hn1,List.map_append,<-e5];rfl
 obtain ⟨s1,g1⟩:=hP;have eT:(List.zipWith (rwS kL) sg ps).take (sg.map V.str).length=List.zipWith (rwS kL) sg ps:=List.take_of_length_le (by rw [List.length_zipWith,List.length_map];omega);rw [eT] at g1;have ha1:=s1 _ _ ha;have hc1:=s1 _ _ hc;have hd1:=s1 _ _ hd;refine ⟨_,rfl,.inl ⟨rfl,_,SqL.of g1⟩,_,rfl,_,rfl,c,d,_,_,rfl,SqT.of hc1,SqT.of hd1,by rw [List.length_map,List.length_map];exact B.ln,λl2 hl2=>?_⟩;refine ⟨λi H'=>a0E H1 H'/\H' l2=some (.lst (((List.zipWith (rwS kT) nm ws).take i).map V.str)),⟨a0g hl2 _,a0b⟩,λi H' _ hP=>⟨SqT.of (hP.1 _ _ hc1),SqT.of (hP.1 _ _ hd1)⟩,λi x y p H' hx hy hP hp=>?_,λH2 hP=>?_⟩
 ·obtain ⟨s2,hz⟩:=hP;rw [List.getElem?_map] at hx hy;obtain ⟨z,hz1,rfl⟩:=Option.map_eq_some_iff.mp hx;obtain ⟨n,hn1,rfl⟩:=Option.map_eq_some_iff.mp hy;have Z:=B.on z (List.mem_of_getElem? hz1);have N:=B.bw n (List.mem_of_getElem? hn1);obtain ⟨l1,l2,l3,l4,l5,e5⟩:=a8K (k:=kT) (z:=z) (n:=n) (by rw [l_kT];decide) Z.len N.1 N.2;have il:i < 24:=by have:=(List.getElem?_eq_some_iff.mp hn1).1;have:=B.n24;omega
  refine a5A ⟨_,rfl,l1,_,rfl,.inl ⟨_,rfl,a4m (by have:=Z.len;omega),_,rfl,l2,_,rfl,l3,_,rfl,.inr ⟨_,rfl,lg N.1 N.2,_,rfl,l4,_,rfl,l5,l5,?_⟩⟩⟩;refine ⟨_,a0g hp _ _ _ hz,?_,a0w hl2 (s2.trans (a0g hp _)),?_⟩
  ·rw [List.length_map,List.length_take];exact a0p (by omega)
  ·rw [a0b,List.take_add_one,a6C hz1 hn1,List.map_append,<-e5];rfl
 obtain ⟨s2,g2⟩:=hP;have eT2:(List.zipWith (rwS kT) nm ws).take (nm.map V.str).length=List.zipWith (rwS kT) nm ws:=List.take_of_length_le (by rw [List.length_zipWith,List.length_map];omega);rw [eT2] at g2;have R:=B.rows_le;have el:(List.zipWith (rwS kL) sg ps).map V.str++(List.zipWith (rwS kT) nm ws).map V.str=(a2O sg ps nm ws).map V.str:=by unfold a2O;rw [List.map_append]
 refine ⟨l,l2,_,_,rfl,rfl,s2 _ _ g1,g2,?_,?_⟩
 ·have e2:=congrArg List.length el;rw [List.length_append] at e2;rw [e2,List.length_map];exact Nat.le_of_lt (a0p (by omega))
 rw [el];refine ⟨rfl,_,rfl,Str.empty,l,a2O sg ps nm ws,60,rfl,rfl,a0b,R.1,?_,qq _ (a0w hl (s1.trans s2))⟩;have:Str.empty.length=0:=rfl;rw [this];omega
abbrev NTx:List Str:=["book","rows","k"]
def spTx:Sp:=λvs H Q _=>∃ (a:Addr) (sg:List Str) (ps:List Int) (nm:List Str) (ws:List Int),vs=[.ref a]/\a9F H a sg ps nm ws/\Bk sg ps nm ws/\∀ H',a0E H H'->Q (.str (a3s sg ps nm ws)) H'
theorem scTx:a0u NTx ["book"] (a0e a5Y):=⟨rfl,rfl,rfl,by decide +kernel,rfl,by decide +kernel,by decide +kernel⟩
theorem ndTx:(("row":Str) :: NTx).Nodup:=by decide +kernel
theorem a8L {k z:Str} {n:Int} (hk:k.length<=7) (hz:z.length<=8) (h1:1<=n) (hn:n<=B30):k.length+z.length<=sizeLine/\(k++z).length+sp.length<=sizeLine/\(k++z++sp).length+(Str.ofString (toString n)).length<=sizeLine/\k++z++sp++Str.ofString (toString n)=r0 k z n/\(r0 k z n).length<=55:=by
 have:=a4u hn;have ok:∀ {m:Nat},m<=200->m<=sizeLine:=λh=>Nat.le_of_lt (a0p (by omega));rw [nS_is (show 0<=n by omega)];unfold r0;refine ⟨ok (by omega),ok ?_,ok ?_,rfl,?_⟩ <;> simp only [Str.length_append,l_sp] <;> omega
theorem b2M (sg:List Str) (ps:List Int) (nm:List Str) (ws:List Int):(List.zipWith (r0 kL) sg ps++List.zipWith (r0 kT) nm ws).map (·++nl)=a2O sg ps nm ws:=by
 unfold a2O;rw [List.map_append,List.map_zipWith,List.map_zipWith];rfl
theorem ok_tx (F:Fun K "_law_text" "_law_text" a5Y f fd) (ml:mg "len"=none) (mr:mg "range"=none) (ms:mg "str"=none):a1a P w K mg base CX0 1 f fd ["book"] spTx:=by
 refine F.ok (k:=0) scTx (λvs H Q E h=>?_) (λcdv A outer s H vs Q E hr h=>?_)
 ·obtain ⟨a,sg,ps,nm,ws,rfl,_⟩:=h;rfl
 obtain ⟨a,sg,ps,nm,ws,rfl,⟨b1,b2,b3,b4,ha,h1,h2,h3,h4⟩,B,qq⟩:=h;refine ⟨_,a0c (a0z (i:=1) scTx.nd rfl (Or.inl rfl) (a0W (a0f)))
   (a0c (a1v PassesOwn.never rfl (a1M (by rfl) mr (a0a (a0t a0r (by rfl) ml PySem.boot_len (a0a (a0n a0C (pv 0) (a0d) (λ_ _=>rfl)) (a0f))) (a0f))) (a0H (i:=2) scTx.nd rfl (Or.inl rfl)) (a0h (a1f (a2u PySem.F.plainAttrs_list PySem.F.slot_list_append PySem.F.type_list_append a1e (pv 1) (a0a (a0m a0A (a0m a0A (a0m a0A (a0i) (a0n a0C (a0n a0C (pv 0) (a0d) (λ_ _=>rfl)) (pv 2) (λ_ _=>rfl))) (a0i)) (a0K a3k (by rfl) ms b_str (a0a (a0n a0C (a0n a0C (pv 0) (a0d) (λ_ _=>rfl)) (pv 2) (λ_ _=>rfl)) (a0f)))) (a0f))))))
   (a0c (a1v PassesOwn.never rfl (a1M (by rfl) mr (a0a (a0t a0r (by rfl) ml PySem.boot_len (a0a (a0n a0C (pv 0) (a0d) (λ_ _=>rfl)) (a0f))) (a0f))) (a0H (i:=2) scTx.nd rfl (Or.inl rfl)) (a0h (a1f (a2u PySem.F.plainAttrs_list PySem.F.slot_list_append PySem.F.type_list_append a1e (pv 1) (a0a (a0m a0A (a0m a0A (a0m a0A (a0i) (a0n a0C (a0n a0C (pv 0) (a0d) (λ_ _=>rfl)) (pv 2) (λ_ _=>rfl))) (a0i)) (a0K a3k (by rfl) ms b_str (a0a (a0n a0C (a0n a0C (pv 0) (a0d) (λ_ _=>rfl)) (pv 2) (λ_ _=>rfl)) (a0f)))) (a0f))))))
   (a0h (a0v (a2u PySem.F.plainAttrs_str PySem.F.slot_str_join PySem.F.type_str_join a8l (a0i) (a0a (a1y (M:=NTx) rfl (a0l.of (a0e a5Y) NTx rfl rfl rfl (by decide +kernel) (by decide +kernel) (by decide +kernel) rfl (by decide +kernel)) ndTx rfl (pv 1) a0R (λcl C s0 H0 fp=>⟨a0L,a0m a0A (pv 0) (a0i)⟩)) (a0f))))))),?_⟩
 refine ⟨(by show 0<=sizeLine;decide),λl hl=>?_⟩;have s1:=a0g hl (.lst []);have g1:upd H l (.lst []) l=some (.lst []):=a0b;generalize upd H l (.lst [])=H1 at s1 g1 ⊢;have i0:atI [V.ref b1,.ref b2,.ref b3,.ref b4] 0=some (.ref b1):=rfl;have i1:atI [V.ref b1,.ref b2,.ref b3,.ref b4] 1=some (.ref b2):=rfl;have i2:atI [V.ref b1,.ref b2,.ref b3,.ref b4] 2=some (.ref b3):=rfl;have i3:atI [V.ref b1,.ref b2,.ref b3,.ref b4] 3=some (.ref b4):=rfl;have at_s:∀ {zs:List Str} {k:Nat} {z:Str},zs[k]?=some z->atI (zs.map V.str) (k:Int)=some (.str z):=λh=>a1G (by rw [List.getElem?_map,h];rfl);have l6:=B.l6;have n24:=B.n24;refine ⟨_,rfl,a,_,_,_,rfl,rfl,SqT.of (s1 _ _ ha),i0,b1,_,rfl,.inr (SqT.of (s1 _ _ h1)),_,rfl,by rw [List.length_map,B.ls];omega,by rw [List.length_map,B.ls];omega,?_⟩;have e6:(((sg.map V.str).length:Nat):Int).toNat=sg.length:=by rw [List.length_map];omega
 rw [e6];refine a1r (λi σ H'=>a0E H H'/\H' l=some (.lst (((List.zipWith (r0 kL) sg ps).take i).map V.str))/\∃ x2:Option V,σ=[some (.ref a),some (.ref l),x2]) ⟨s1,g1,_,rfl⟩ (λi σ H2 hi hP=>?_) (λσ H2 hP=>?_)
 ·obtain ⟨s2,hz,x2,rfl⟩:=hP;have ei:(0:Int)+(i:Int)=(i:Int):=by omega
  rw [ei];have hz1:sg[i]?=some sg[i]:=List.getElem?_eq_getElem hi;have hn1:ps[i]?=some (ps[i]'(by rw [<-B.ls];exact hi)):=List.getElem?_eq_getElem _;have Z:=B.os _ (List.mem_of_getElem? hz1);have N:=B.bp _ (List.mem_of_getElem? hn1);obtain ⟨l1,l2,l3,e4,_⟩:=a8L (k:=kL) (by rw [l_kL];decide) (Nat.le_trans Z.len (by decide)) N.1 N.2;refine ⟨_,rfl,.inl ⟨rfl,_,SqL.of hz⟩,_,rfl,a,_,_,_,rfl,rfl,SqT.of (s2 _ _ ha),i0,_,rfl,b1,_,_,_,rfl,rfl,SqT.of (s2 _ _ h1),at_s hz1,_,_,rfl,rfl,l1,_,_,rfl,rfl,l2,_,rfl,a,_,_,_,rfl,rfl,SqT.of (s2 _ _ ha),i1,_,rfl,b2,_,_,_,rfl,rfl,SqT.of (s2 _ _ h2),a6s hn1,_,rfl,lg N.1 N.2,_,_,rfl,rfl,l3,l,_,_,rfl,rfl,hz,?_,a0w hl s2,?_,_,rfl⟩
  ·rw [List.length_map,List.length_take];exact a0p (by have:=B.ls;omega)
  ·rw [a0b,List.take_add_one,a6C hz1 hn1,List.map_append,<-e4];rfl
 obtain ⟨s2,g2,x2,rfl⟩:=hP;rw [List.take_of_length_le (show (List.zipWith (r0 kL) sg ps).length<=sg.length by rw [List.length_zipWith];omega)] at g2;refine ⟨_,rfl,a,_,_,_,rfl,rfl,SqT.of (s2 _ _ ha),i2,b3,_,rfl,.inr (SqT.of (s2 _ _ h3)),_,rfl,by rw [List.length_map,B.ln];omega,by rw [List.length_map,B.ln];omega,?_⟩;have e7:(((nm.map V.str).length:Nat):Int).toNat=nm.length:=by rw [List.length_map];omega
 rw [e7];have ln1:(List.zipWith (r0 kL) sg ps).length<=6:=by rw [List.length_zipWith];omega
 refine a1r (λi σ H'=>a0E H H'/\H' l=some (.lst ((List.zipWith (r0 kL) sg ps++(List.zipWith (r0 kT) nm ws).take i).map V.str))/\∃ x2:Option V,σ=[some (.ref a),some (.ref l),x2]) ⟨s2,by rw [List.take_zero,List.append_nil];exact g2,_,rfl⟩ (λi σ H3 hi hP=>?_) (λσ H3 hP=>?_)
 ·obtain ⟨s3,hz,x2,rfl⟩:=hP;have ei:(0:Int)+(i:Int)=(i:Int):=by omega
  rw [ei];have hz1:nm[i]?=some nm[i]:=List.getElem?_eq_getElem hi;have hn1:ws[i]?=some (ws[i]'(by rw [<-B.ln];exact hi)):=List.getElem?_eq_getElem _;have Z:=B.on _ (List.mem_of_getElem? hz1);have N:=B.bw _ (List.mem_of_getElem? hn1);obtain ⟨l1,l2,l3,e4,_⟩:=a8L (k:=kT) (by rw [l_kT];decide) Z.len N.1 N.2;refine ⟨_,rfl,.inl ⟨rfl,_,SqL.of hz⟩,_,rfl,a,_,_,_,rfl,rfl,SqT.of (s3 _ _ ha),i2,_,rfl,b3,_,_,_,rfl,rfl,SqT.of (s3 _ _ h3),at_s hz1,_,_,rfl,rfl,l1,_,_,rfl,rfl,l2,_,rfl,a,_,_,_,rfl,rfl,SqT.of (s3 _ _ ha),i3,_,rfl,b4,_,_,_,rfl,rfl,SqT.of (s3 _ _ h4),a6s hn1,_,rfl,lg N.1 N.2,_,_,rfl,rfl,l3,l,_,_,rfl,rfl,hz,?_,a0w hl s3,?_,_,rfl⟩
  ·rw [List.length_map,List.length_append,List.length_take];exact a0p (by have:=B.ln;omega)
  ·rw [a0b,List.take_add_one,a6C hz1 hn1,<-List.append_assoc,List.map_append (l₂:=(some (r0 kT nm[i] _)).toList),<-e4];rfl
 obtain ⟨s3,g3,x2,rfl⟩:=hP;rw [List.take_of_length_le (show (List.zipWith (r0 kT) nm ws).length<=nm.length by rw [List.length_zipWith];omega)] at g3;have ln2:(List.zipWith (r0 kL) sg ps++List.zipWith (r0 kT) nm ws).length<=30:=by rw [List.length_append,List.length_zipWith,List.length_zipWith];omega
 have R:=B.rows_le;have er:=b2M sg ps nm ws;generalize List.zipWith (r0 kL) sg ps++List.zipWith (r0 kT) nm ws=rs at g3 ln2 er;have rl:∀ r∈rs,(r++nl).length<=60:=λr hr=>R.1 _ (by rw [<-er];exact List.mem_map.mpr ⟨r,hr,rfl⟩);refine ⟨rfl,_,rfl,l,_,rfl,SqL.of g3,λd hd=>?_⟩;refine ⟨λi H'=>a0E H3 H'/\H' d=some (.lst (((rs.take i).map (·++nl)).map V.str)),⟨a0g hd _,a0b⟩,λi H' _ hP=>SqL.of (hP.1 _ _ g3),λi x H' hx hP=>?_,λH4 hP=>?_⟩
 ·obtain ⟨s4,hz⟩:=hP;rw [List.getElem?_map] at hx;obtain ⟨r,hr1,rfl⟩:=Option.map_eq_some_iff.mp hx;have il:=(List.getElem?_eq_some_iff.mp hr1).1;have lr:=rl r (List.mem_of_getElem? hr1);rw [Str.length_append] at lr;refine a0G ⟨_,rfl,_,_,rfl,rfl,Nat.le_of_lt (a0p (by show r.length+nl.length<=1000;omega)),_,hz,?_,a0w hd s4,?_⟩
  ·rw [List.length_map,List.length_map,List.length_take];exact a0p (by omega)
  ·rw [a0b,List.take_add_one,hr1,List.map_append,List.map_append];rfl
 obtain ⟨s4,g4⟩:=hP;rw [List.length_map,List.take_length,er] at g4;refine ⟨Str.empty,d,a2O sg ps nm ws,60,rfl,rfl,g4,R.1,?_,qq _ (s3.trans s4)⟩;have:Str.empty.length=0:=rfl;rw [this];omega
end
def figs:Str:=Str.ofString "0123456789"
theorem b1r:figs.cps.toList=(List.range 10).map (48+·):=by decide +kernel
theorem b0y {c:Nat} (h:97<=c/\c<=122):(!(Builtin.Str.occurrences alpha ⟨#[c]⟩ 0 alpha.length 1).isEmpty)=true:=by
 rw [StrLaws.found_one,a8A];exact decide_eq_true (List.mem_map.mpr ⟨c - 97,List.mem_range.mpr (by omega),by omega⟩)
theorem b2N {c:Nat} (h:48<=c/\c<=57):(!(Builtin.Str.occurrences figs ⟨#[c]⟩ 0 figs.length 1).isEmpty)=true:=by
 rw [StrLaws.found_one,b1r];exact decide_eq_true (List.mem_map.mpr ⟨c - 48,List.mem_range.mpr (by omega),by omega⟩)
theorem a8M {z:Str} (h:∀ c∈z.cps.toList,c < 128):Asc z:=by
 unfold Asc;rw [Array.all_eq_true'];intro c hc;exact decide_eq_true (h c (by simpa using hc))
theorem a4Q (n:Nat):(List.replicate n true).all id=true:=by rw [List.all_eq_true];intro z hz;rw [List.eq_of_mem_replicate hz];rfl
theorem b0z (c:Nat):(!(Builtin.Str.occurrences figs ⟨#[c]⟩ 0 figs.length 1).isEmpty)=decide (48<=c/\c<=57):=by
 rw [StrLaws.found_one,b1r];refine decide_eq_decide.mpr ⟨λh=>?_,λh=>List.mem_map.mpr ⟨c - 48,List.mem_range.mpr (by omega),by omega⟩⟩;obtain ⟨k,hk,rfl⟩:=List.mem_map.mp h;have:=List.mem_range.mp hk;omega
theorem a3t {n:Nat} (h:n<=5000):n<=sizeLine:=Nat.le_trans h (by decide)
theorem lt5 {n:Nat} (h:n<=5000):n < sizeLine:=Nat.lt_of_le_of_lt h (by decide)
def dgB (l:List Nat):Bool:=l.all λc=>decide (48<=c/\c<=57)
def nuB (z:Str):Bool:=decide (1<=z.length) && (decide (z.length<=40) && (dgB z.cps.toList && (decide (z=Str.ofString "0") || decide (z.cps.toList.getD 0 0≠48))))
section
variable {P:Program} {w:World} {K:PySem.W.Frag} {mg:Str->Option Value} {base:Heap} {f:Addr} {fd:FuncData}
abbrev NIn:List Str:=["text","most"]
def spIn:Sp:=λvs H Q _=>∃ (z:Str) (m:Nat),vs=[.str z,.int m]/\m<=8/\Nm m z/\∀ H',a0E H H'->Q (.bl true) H'
theorem scIn:a0u NIn NIn (a0e sIN):=⟨rfl,rfl,rfl,by decide +kernel,rfl,by decide +kernel,by decide +kernel⟩
theorem ndIn:(("sign":Str) :: NIn).Nodup:=by decide +kernel
theorem ok_in {tS:Tok} (F:Fun K "is_name" "is_name" sIN f fd) (gS:mg "SIGNS"=some (.str alpha tS)) (ml:mg "len"=none) (ma:mg "all"=none):a1a P w K mg base CX0 1 f fd NIn spIn:=by
 refine F.ok (k:=0) scIn (λvs H Q E h=>?_) (λcdv A outer s H vs Q E hr h=>?_)
 ·obtain ⟨z,m,rfl,_⟩:=h;rfl
 obtain ⟨z,m,rfl,m8,N,qq⟩:=h;refine ⟨_,a0h (a0v (a2w (a2H a1W a1W a0d (a0t a1A (by rfl) ml PySem.boot_len (a0a (pv 0) (a0f))) (pv 1)) (a2F (a0t (a1Z rfl) (by rfl) ma a5R (a0a (a2q (M:=NIn) rfl (a0l.of (a0e sIN) NIn rfl rfl rfl (by decide +kernel) (by decide +kernel) (by decide +kernel) rfl (by decide +kernel)) ndIn rfl (pv 0) a0R (λcl C s0 H0 fp=>⟨a0L,a0Y a3F (pv 0) (a1L (v:=.str alpha) (by rfl) gS ⟨_,rfl⟩) rfl⟩)) (a0f)))))),?_⟩;have e:z.cps.toList.length=z.length:=Array.length_toList;have l1:=N.l1;have l8:=N.l8;rw [e] at l1 l8;refine ⟨_,rfl,z,rfl,a4m (by omega),_,_,rfl,rfl,_,rfl,?_⟩;rw [if_pos (decide_eq_true (by omega))];refine ⟨_,rfl,_,_,rfl,rfl,_,rfl,?_⟩;rw [if_pos (decide_eq_true (by omega))];refine ⟨_,rfl,z,rfl,a8M (λc hc=>by have:=N.lo c hc;omega),λd hd=>?_⟩;refine ⟨λi H'=>a0E H H'/\H' d=some (.lst ((List.replicate i true).map V.bl)),⟨a0g hd _,a0b⟩,λi c H' hc hP=>?_,λH' hP=>?_⟩
 ·obtain ⟨s5,hz⟩:=hP;have il:=(List.getElem?_eq_some_iff.mp hc).1;refine a0G ⟨_,rfl,_,_,rfl,rfl,_,hz,?_,a0w hd s5,?_⟩
  ·rw [List.length_map,List.length_replicate];exact a0p (by omega)
  ·rw [a0b,b0y (N.lo c (List.mem_of_getElem? hc)),List.replicate_succ',List.map_append];rfl
 ·obtain ⟨s5,hz⟩:=hP;refine ⟨d,_,rfl,hz,?_⟩;rw [a4Q];exact qq H' s5
abbrev NNu:List Str:=["text"]
def spNu:Sp:=λvs H Q _=>∃ n:Int,vs=[.str (nS n)]/\1<=n/\n<=B30/\∀ H',a0E H H'->Q (.bl true) H'
theorem scNu:a0u NNu NNu (a0e b0v):=⟨rfl,rfl,rfl,by decide +kernel,rfl,by decide +kernel,by decide +kernel⟩
theorem ndNu:(("figure":Str) :: NNu).Nodup:=by decide +kernel
theorem ok_nu {tF:Tok} (F:Fun K "is_number" "is_number" b0v f fd) (gF:mg "FIGURES"=some (.str figs tF)) (ml:mg "len"=none) (ma:mg "all"=none):a1a P w K mg base CX0 1 f fd NNu spNu:=by
 refine F.ok (k:=0) scNu (λvs H Q E h=>?_) (λcdv A outer s H vs Q E hr h=>?_)
 ·obtain ⟨n,rfl,_⟩:=h;rfl
 obtain ⟨n,rfl,n1,n30,qq⟩:=h;refine ⟨_,a0c (a0J (PW.pt (a7z (a1o (a2o a1W a1W a0d (a0t a1A (by rfl) ml PySem.boot_len (a0a (pv 0) (a0f))) a0d)) (a5e (a1o (a1I (a0t (a1Z rfl) (by rfl) ma a5R (a0a (a2q (M:=NNu) rfl (a0l.of (a0e b0v) NNu rfl rfl rfl (by decide +kernel) (by decide +kernel) (by decide +kernel) rfl (by decide +kernel)) ndNu rfl (pv 0) a0R (λcl C s0 H0 fp=>⟨a0L,a0Y a3F (pv 0) (a1L (v:=.str figs) (by rfl) gF ⟨_,rfl⟩) rfl⟩)) (a0f)))))))) (a0h (a0v a3A)) (a0x))
   (a0h (a0v (b1V (a0Y a1g (pv 0) a0i (nomark _)) (a2F (a0Y a7H (a0n a5l (pv 0) (a0d) (λ_ _=>rfl)) a0i (nomark _)))))),?_⟩
 have e:(nS n).length=(dg n).length:=a5W _;have l1:=b1p n;have l31:=a8z n30;have ec:(nS n).cps.toList=dg n:=a7h _;refine ⟨_,rfl,nS n,rfl,a4m (by omega),_,_,rfl,rfl,_,rfl,?_⟩;rw [if_pos (decide_eq_true (by omega))];refine ⟨_,_,rfl,rfl,_,rfl,?_⟩;rw [decide_eq_true (by omega)];refine a2v ?_;refine ⟨_,rfl,nS n,rfl,a8M (λc hc=>by rw [ec] at hc;have:=a6y n c hc;omega),λd hd=>?_⟩;refine ⟨λi H'=>a0E H H'/\H' d=some (.lst ((List.replicate i true).map V.bl)),⟨a0g hd _,a0b⟩,λi c H' hc hP=>?_,λH' hP=>?_⟩
 ·obtain ⟨s5,hz⟩:=hP;rw [ec] at hc;have il:=(List.getElem?_eq_some_iff.mp hc).1;refine a0G ⟨_,rfl,_,_,rfl,rfl,_,hz,?_,a0w hd s5,?_⟩
  ·rw [List.length_map,List.length_replicate];exact a0p (by omega)
  ·rw [a0b,b2N (a6y n c (List.mem_of_getElem? hc)),List.replicate_succ',List.map_append];rfl
 ·obtain ⟨s5,hz⟩:=hP;refine ⟨d,_,rfl,hz,_,rfl,?_⟩;rw [a4Q];refine a2v ?_;obtain ⟨c0,h0⟩:∃ c0,(dg n)[0]?=some c0:=⟨(dg n)[0]'(by omega),List.getElem?_eq_getElem _⟩
  have f0:=b0u n1;rw [List.getD_eq_getElem?_getD,h0] at f0;have f0:c0≠48:=f0;have a0:atI (nS n).cps.toList 0=some c0:=by rw [ec];exact a1G (j:=0) h0
  have ne:nS n≠Str.ofString "0":=λz=>by
   have:(nS n).cps.toList=(Str.ofString "0").cps.toList:=congrArg (λz:Str=>z.cps.toList) z;rw [ec] at this;rw [this] at h0;exact f0 (Option.some.inj h0).symm
  refine ⟨_,rfl,rfl,_,rfl,?_⟩;rw [decide_eq_false (λz=>ne (V.str.inj z))];rw [if_neg Bool.false_ne_true];refine ⟨_,rfl,nS n,_,c0,rfl,rfl,a4m (by omega),a0,rfl,?_⟩;have ne2:¬ V.str ⟨#[c0]⟩=V.str (Str.ofString "0"):=λz=>by
   have:=congrArg (λz:Str=>z.cps.toList) (V.str.inj z);exact f0 (List.cons.inj this).1
  rw [decide_eq_false ne2];exact qq H' s5
def spNx:Sp:=λvs H Q _=>∃ z:Str,vs=[.str z]/\Asc z/\z.length<=4500/\∀ H',a0E H H'->Q (.bl (nuB z)) H'
theorem ok_nx {tF:Tok} (F:Fun K "is_number" "is_number" b0v f fd) (gF:mg "FIGURES"=some (.str figs tF)) (ml:mg "len"=none) (ma:mg "all"=none):a1a P w K mg base CX0 1 f fd NNu spNx:=by
 refine F.ok (k:=0) scNu (λvs H Q E h=>?_) (λcdv A outer s H vs Q E hr h=>?_)
 ·obtain ⟨z,rfl,_⟩:=h;rfl
 obtain ⟨z,rfl,as,l5,qq⟩:=h;refine ⟨_,a0c (a0J (PW.pt (a7z (a1o (a2o a1W a1W a0d (a0t a1A (by rfl) ml PySem.boot_len (a0a (pv 0) (a0f))) a0d)) (a5e (a1o (a1I (a0t (a1Z rfl) (by rfl) ma a5R (a0a (a2q (M:=NNu) rfl (a0l.of (a0e b0v) NNu rfl rfl rfl (by decide +kernel) (by decide +kernel) (by decide +kernel) rfl (by decide +kernel)) ndNu rfl (pv 0) a0R (λcl C s0 H0 fp=>⟨a0L,a0Y a3F (pv 0) (a1L (v:=.str figs) (by rfl) gF ⟨_,rfl⟩) rfl⟩)) (a0f)))))))) (a0h (a0v a3A)) (a0x))
   (a0h (a0v (b1V (a0Y a1g (pv 0) a0i (nomark _)) (a2F (a0Y a7H (a0n a5l (pv 0) (a0d) (λ_ _=>rfl)) a0i (nomark _)))))),?_⟩
 unfold nuB at qq;have e:z.cps.toList.length=z.length:=Array.length_toList;refine ⟨_,rfl,z,rfl,a3t (by omega),_,_,rfl,rfl,_,rfl,a1K (λc=>?_) (λc=>?_)⟩
 case' refine_2 =>
  rw [decide_eq_false (show ¬ 1<=z.length by intro h;exact c (decide_eq_true (by omega))),Bool.false_and] at qq;exact ⟨_,rfl,a4k (qq H (a0E.refl _))⟩
 have c:=of_decide_eq_true c;rw [decide_eq_true (show 1<=z.length by omega),Bool.true_and] at qq;refine ⟨_,_,rfl,rfl,_,rfl,?_⟩;by_cases c40:z.length<=40
 case neg =>
  rw [decide_eq_false c40,Bool.false_and] at qq;rw [decide_eq_false (by omega)];exact a4k (qq H (a0E.refl _))
 rw [decide_eq_true c40,Bool.true_and] at qq;rw [decide_eq_true (by omega)];refine a2v ?_;refine ⟨_,rfl,z,rfl,as,λd hd=>?_⟩;refine ⟨λi H'=>a0E H H'/\H' d=some (.lst (((z.cps.toList.take i).map λc=>decide (48<=c/\c<=57)).map V.bl)),⟨a0g hd _,a0b⟩,λi c H' hc hP=>?_,λH' hP=>?_⟩
 ·obtain ⟨s5,hz⟩:=hP;have il:=(List.getElem?_eq_some_iff.mp hc).1;refine a0G ⟨_,rfl,_,_,rfl,rfl,_,hz,?_,a0w hd s5,?_⟩
  ·rw [List.length_map,List.length_map,List.length_take];exact lt5 (by omega)
  ·rw [a0b,b0z,List.take_add_one,hc,List.map_append,List.map_append];rfl
 ·obtain ⟨s5,hz⟩:=hP;rw [show z.cps.size=z.cps.toList.length from Array.length_toList.symm,List.take_length] at hz;refine ⟨d,_,rfl,hz,_,rfl,?_⟩;have ed:(z.cps.toList.map λc=>decide (48<=c/\c<=57)).all id=dgB z.cps.toList:=by rw [List.all_map];rfl
  rw [ed];cases hD:dgB z.cps.toList with
  | false =>
   rw [hD,Bool.false_and] at qq;exact a4k (qq H' s5)
  | true =>
  rw [hD,Bool.true_and] at qq;refine a2v ?_;refine ⟨_,rfl,rfl,_,rfl,a1K (λc0=>?_) (λc0=>?_)⟩
  ·have c0:z=Str.ofString "0":=V.str.inj (of_decide_eq_true c0);rw [decide_eq_true c0,Bool.true_or] at qq;exact qq H' s5
  ·have c1:¬ z=Str.ofString "0":=λh=>c0 (decide_eq_true (congrArg V.str h));rw [decide_eq_false c1,Bool.false_or] at qq;obtain ⟨x0,h0⟩:∃ x0,z.cps.toList[0]?=some x0:=⟨z.cps.toList[0]'(by omega),List.getElem?_eq_getElem _⟩
   rw [List.getD_eq_getElem?_getD,h0] at qq;refine ⟨_,rfl,z,_,x0,rfl,rfl,a3t (by omega),a1G (j:=0) h0,rfl,?_⟩;have e2:(!decide (V.str ⟨#[x0]⟩=V.str (Str.ofString "0")))=decide ((some x0).getD 0≠48):=by
    by_cases e3:x0=48
    ·subst e3;decide +kernel
    ·have:¬ V.str ⟨#[x0]⟩=V.str (Str.ofString "0"):=λh=>e3 (List.cons.inj (congrArg (λz:Str=>z.cps.toList) (V.str.inj h))).1;rw [decide_eq_false this];exact (decide_eq_true (show (some x0).getD 0≠48 from e3)).symm
   show Q (.bl (!decide (V.str ⟨#[x0]⟩=V.str (Str.ofString "0")))) H';rw [e2];exact qq H' s5
abbrev NRr:List Str:=["row"]
def tL:Str:=Str.ofString "letter"
def tT:Str:=Str.ofString "thing"
def b3v (k:Str) (m:Nat):Sp:=λvs H Q _=>∃ (l:Addr) (k' z:Str) (n:Int),vs=[.ref l]/\H l=some (.lst [.str k',.str z,.str (nS n)])/\(k'=k->Nm m z)/\1<=n/\n<=B30/\∀ H',a0E H H'->Q (.bl (decide (k'=k))) H'
theorem scLr:a0u NRr NRr (a0e b3r):=⟨rfl,rfl,rfl,by decide +kernel,rfl,by decide +kernel,by decide +kernel⟩
theorem scTr:a0u NRr NRr (a0e b3s):=⟨rfl,rfl,rfl,by decide +kernel,rfl,by decide +kernel,by decide +kernel⟩
theorem ok_lr (F:Fun K "is_letter_row" "is_letter_row" b3r f fd) (GN:Fns P w K mg base NIn "is_name" spIn 1) (GU:Fns P w K mg base NNu "is_number" spNu 1) (ml:mg "len"=none):a1a P w K mg base CX0 2 f fd NRr (b3v tL 1):=by
 refine F.ok (k:=1) scLr (λvs H Q E h=>?_) (λcdv A outer s H vs Q E hr h=>?_)
 ·obtain ⟨l,k',z,n,rfl,_⟩:=h;rfl
 obtain ⟨l,k',z,n,rfl,hl,N,n1,n30,qq⟩:=h;refine ⟨_,a0h (a0v (a2w (a0Y a1g (a0t a0r (by rfl) ml PySem.boot_len (a0a (pv 0) (a0f))) a0d (nomark _)) (a2w (a0Y a1g (a0n a0k (pv 0) (a0d) (λ_ _=>rfl)) a0i (nomark _)) (a2w (a0q GN.ok hr (by rfl) GN.m GN.kp GN.b .nil a0D (a0a (a0n a0k (pv 0) (a0d) (λ_ _=>rfl)) (a0a (a0d) (a0f)))) (a2F (a0q GU.ok hr (by rfl) GU.m GU.kp GU.b .nil a0D (a0a (a0n a0k (pv 0) (a0d) (λ_ _=>rfl)) (a0f)))))))),?_⟩;have i0:atI [V.str k',.str z,.str (nS n)] 0=some (.str k'):=rfl;have i1:atI [V.str k',.str z,.str (nS n)] 1=some (.str z):=rfl;have i2:atI [V.str k',.str z,.str (nS n)] 2=some (.str (nS n)):=rfl;refine ⟨_,rfl,l,_,rfl,.inl (SqL.of hl),rfl,_,rfl,?_⟩;rw [if_pos (decide_eq_true (show V.int (([V.str k',V.str z,V.str (nS n)].length:Nat):Int)=V.int 3 from rfl))];refine ⟨_,rfl,l,_,_,_,rfl,rfl,SqL.of hl,i0,rfl,_,rfl,a1K (λc=>?_) (λc=>?_)⟩
 ·have e:k'=tL:=V.str.inj (of_decide_eq_true c);rw [decide_eq_true e] at qq;refine ⟨_,rfl,l,_,_,_,rfl,rfl,SqL.of hl,i1,z,1,rfl,by decide,N e,λH1 s1=>?_⟩;refine ⟨_,rfl,a4k ⟨_,rfl,l,_,_,_,rfl,rfl,SqL.of (s1 _ _ hl),i2,n,rfl,n1,n30,λH2 s2=>qq H2 (s1.trans s2)⟩⟩
 ·have e0:¬ k'=tL:=λz=>c (decide_eq_true (congrArg V.str z));rw [decide_eq_false e0] at qq;exact qq H (a0E.refl _)
theorem ok_tr (F:Fun K "is_thing_row" "is_thing_row" b3s f fd) (GN:Fns P w K mg base NIn "is_name" spIn 1) (GU:Fns P w K mg base NNu "is_number" spNu 1) (ml:mg "len"=none):a1a P w K mg base CX0 2 f fd NRr (b3v tT 8):=by
 refine F.ok (k:=1) scTr (λvs H Q E h=>?_) (λcdv A outer s H vs Q E hr h=>?_)
 ·obtain ⟨l,k',z,n,rfl,_⟩:=h;rfl
 obtain ⟨l,k',z,n,rfl,hl,N,n1,n30,qq⟩:=h;refine ⟨_,a0h (a0v (a2w (a0Y a1g (a0t a0r (by rfl) ml PySem.boot_len (a0a (pv 0) (a0f))) a0d (nomark _)) (a2w (a0Y a1g (a0n a0k (pv 0) (a0d) (λ_ _=>rfl)) a0i (nomark _)) (a2w (a0q GN.ok hr (by rfl) GN.m GN.kp GN.b .nil a0D (a0a (a0n a0k (pv 0) (a0d) (λ_ _=>rfl)) (a0a (a0d) (a0f)))) (a2F (a0q GU.ok hr (by rfl) GU.m GU.kp GU.b .nil a0D (a0a (a0n a0k (pv 0) (a0d) (λ_ _=>rfl)) (a0f)))))))),?_⟩;have i0:atI [V.str k',.str z,.str (nS n)] 0=some (.str k'):=rfl;have i1:atI [V.str k',.str z,.str (nS n)] 1=some (.str z):=rfl;have i2:atI [V.str k',.str z,.str (nS n)] 2=some (.str (nS n)):=rfl;refine ⟨_,rfl,l,_,rfl,.inl (SqL.of hl),rfl,_,rfl,?_⟩;rw [if_pos (decide_eq_true (show V.int (([V.str k',V.str z,V.str (nS n)].length:Nat):Int)=V.int 3 from rfl))];refine ⟨_,rfl,l,_,_,_,rfl,rfl,SqL.of hl,i0,rfl,_,rfl,a1K (λc=>?_) (λc=>?_)⟩
 ·have e:k'=tT:=V.str.inj (of_decide_eq_true c);rw [decide_eq_true e] at qq;refine ⟨_,rfl,l,_,_,_,rfl,rfl,SqL.of hl,i1,z,8,rfl,by decide,N e,λH1 s1=>?_⟩;refine ⟨_,rfl,a4k ⟨_,rfl,l,_,_,_,rfl,rfl,SqL.of (s1 _ _ hl),i2,n,rfl,n1,n30,λH2 s2=>qq H2 (s1.trans s2)⟩⟩
 ·have e0:¬ k'=tT:=λz=>c (decide_eq_true (congrArg V.str z));rw [decide_eq_false e0] at qq;exact qq H (a0E.refl _)
end
abbrev Tr:=Str × Str × Int
def lnS (t:Tr):Str:=r0 (t.1++sp) t.2.1 t.2.2
def trs (sg:List Str) (ps:List Int) (nm:List Str) (ws:List Int):List Tr:=List.zipWith (λz n=>(tL,z,n)) sg ps++List.zipWith (λz n=>(tT,z,n)) nm ws
structure GT (t:Tr):Prop where
 k:(t.1=tL/\Nm 1 t.2.1)\/(t.1=tT/\Nm 8 t.2.1)
 n1:1<=t.2.2
 n30:t.2.2<=B30
theorem kL_is:kL=tL++sp:=by decide +kernel
theorem kT_is:kT=tT++sp:=by decide +kernel
theorem tLT:tL≠tT:=by decide +kernel
theorem a4R {sg nm:List Str} {ps ws:List Int} (B:Bk sg ps nm ws):∀ t∈trs sg ps nm ws,GT t:=λt ht=>by
 rcases List.mem_append.mp ht with h | h
 ·obtain ⟨i,hi⟩:=List.mem_iff_getElem?.mp h;rw [List.getElem?_zipWith] at hi;cases hx:sg[i]? with
  | none=>rw [hx] at hi;cases hi
  | some z =>
   cases hy:ps[i]? with
   | none=>rw [hx,hy] at hi;cases hi
   | some n =>
    rw [hx,hy] at hi;rw [<-Option.some.inj hi];exact ⟨.inl ⟨rfl,B.os z (List.mem_of_getElem? hx)⟩,(B.bp n (List.mem_of_getElem? hy)).1,(B.bp n (List.mem_of_getElem? hy)).2⟩
 ·obtain ⟨i,hi⟩:=List.mem_iff_getElem?.mp h;rw [List.getElem?_zipWith] at hi;cases hx:nm[i]? with
  | none=>rw [hx] at hi;cases hi
  | some z =>
   cases hy:ws[i]? with
   | none=>rw [hx,hy] at hi;cases hi
   | some n =>
    rw [hx,hy] at hi;rw [<-Option.some.inj hi];exact ⟨.inr ⟨rfl,B.on z (List.mem_of_getElem? hx)⟩,(B.bw n (List.mem_of_getElem? hy)).1,(B.bw n (List.mem_of_getElem? hy)).2⟩
theorem b0A (sg:List Str) (ps:List Int) (nm:List Str) (ws:List Int):a2O sg ps nm ws=(trs sg ps nm ws).map λt=>lnS t++nl:=by
 unfold a2O trs;rw [List.map_append,List.map_zipWith,List.map_zipWith];unfold lnS;dsimp only;rw [<-kL_is,<-kT_is];rfl
theorem a1i (a b:Str):(a++b).cps.toList=a.cps.toList++b.cps.toList:=by
 show (a.cps++b.cps).toList=_;rw [Array.toList_append]
theorem sp_c:sp.cps.toList=[32]:=by decide +kernel
theorem nl_c:nl.cps.toList=[10]:=by decide +kernel
theorem nl_is:nl=⟨#[10]⟩:=by decide +kernel
theorem sp_is:sp=⟨#[32]⟩:=by decide +kernel
theorem b1s (t:Tr):(lnS t).cps.toList=jn 32 [t.1.cps.toList,t.2.1.cps.toList,dg t.2.2]:=by
 unfold lnS r0;rw [a1i,a1i,a1i,a1i,sp_c,show (nS t.2.2).cps.toList=dg t.2.2 from a7h _];simp [jn]
theorem tL_lo:∀ c∈tL.cps.toList,97<=c/\c<=122:=by decide +kernel
theorem tT_lo:∀ c∈tT.cps.toList,97<=c/\c<=122:=by decide +kernel
theorem GT.lo {t:Tr} (h:GT t):(∀ c∈t.1.cps.toList,97<=c/\c<=122)/\(∀ c∈t.2.1.cps.toList,97<=c/\c<=122)/\∀ c∈dg t.2.2,48<=c/\c<=57:=by
 refine ⟨?_,?_,a6y _⟩
 ·rcases h.k with ⟨e,_⟩ | ⟨e,_⟩ <;> rw [e]
  ·exact tL_lo
  ·exact tT_lo
 ·rcases h.k with ⟨_,e⟩ | ⟨_,e⟩ <;> exact e.lo
theorem b0B {t:Tr} (h:GT t):Txt.split (lnS t) sp=[t.1,t.2.1,nS t.2.2]:=by
 obtain ⟨h1,h2,h3⟩:=h.lo;rw [sp_is];refine a4O (B:=[t.1.cps.toList,t.2.1.cps.toList,dg t.2.2]) (by simp) (λb hb=>?_) (b1s t);simp only [List.mem_cons,List.not_mem_nil,or_false] at hb;rcases hb with rfl | rfl | rfl
 ·exact λz=>by have:=h1 _ z;omega
 ·exact λz=>by have:=h2 _ z;omega
 ·exact λz=>by have:=h3 _ z;omega
theorem b2O {t:Tr} (h:GT t):10∉(lnS t).cps.toList:=by
 obtain ⟨h1,h2,h3⟩:=h.lo;rw [b1s];intro z;simp only [jn,List.mem_append,List.mem_cons] at z;rcases z with z | z | z | z | z
 ·have:=h1 _ z;omega
 ·omega
 ·have:=h2 _ z;omega
 ·omega
 ·have:=h3 _ z;omega
theorem ln_len {t:Tr} (h:GT t):(lnS t).length<=60:=by
 have e:(lnS t).length=(lnS t).cps.toList.length:=Array.length_toList.symm;have l1:t.1.length<=6:=by rcases h.k with ⟨e,_⟩ | ⟨e,_⟩ <;> rw [e] <;> decide +kernel
 have l2:t.2.1.length<=8:=by
  rcases h.k with ⟨_,e⟩ | ⟨_,e⟩
  ·exact Nat.le_trans e.len (by decide)
  ·exact e.len
 have:=a4u h.n30;unfold lnS r0;simp only [Str.length_append,l_sp];omega
theorem b1t:∀ zs:List Str,(Str.join Str.empty zs).cps.toList=(zs.map λz=>z.cps.toList).flatten
 | []=>rfl
 | [a]=>by show a.cps.toList=a.cps.toList++[];rw [List.append_nil]
 | a :: b :: r=>by
  have ih:=b1t (b :: r);show (a++Str.empty++Str.join Str.empty (b :: r)).cps.toList=a.cps.toList++((b :: r).map λz=>z.cps.toList).flatten;rw [a1i,a1i,ih];show a.cps.toList++[]++_=_;rw [List.append_nil]
theorem a8N (c:Nat):∀ ls:List (List Nat),(ls.map (·++[c])).flatten=jn c (ls++[[]])
 | []=>rfl
 | [a]=>by simp [jn]
 | a :: b :: r=>by
  have ih:=a8N c (b :: r);show a++[c]++((b :: r).map (·++[c])).flatten=a++c :: jn c (b :: r++[[]]);rw [ih];simp
theorem a7m {sg nm:List Str} {ps ws:List Int} (B:Bk sg ps nm ws):Txt.split (a3s sg ps nm ws) nl=(trs sg ps nm ws).map lnS++[Str.empty]:=by
 rw [nl_is];have e:=a4O (c:=10) (x:=a3s sg ps nm ws) (B:=(trs sg ps nm ws).map (λt=>(lnS t).cps.toList)++[[]]) (by simp) (λb hb=>?_) ?_
 ·rw [e,List.map_append,List.map_map];rfl
 ·rcases List.mem_append.mp hb with h | h
  ·obtain ⟨t,ht,rfl⟩:=List.mem_map.mp h;exact b2O (a4R B t ht)
  ·rw [List.mem_singleton.mp h];simp
 ·unfold a3s;rw [b1t,b0A,<-a8N,List.map_map,List.map_map];congr 1;refine List.map_congr_left λt _=>?_;show (lnS t++nl).cps.toList=(lnS t).cps.toList++[10]
  rw [a1i,nl_c]
theorem b0C {sg nm:List Str} {ps ws:List Int} (B:Bk sg ps nm ws):(a3s sg ps nm ws).length<=1800:=by
 have R:=B.rows_le;unfold a3s;have h1:=StrLaws.join_length_le Str.empty (a2O sg ps nm ws);have h2:=StrLaws.sumLen_le (a2O sg ps nm ws) R.1;have:Str.empty.length=0:=rfl;rw [this] at h1;omega
theorem a8O {sg nm:List Str} {ps ws:List Int} (B:Bk sg ps nm ws):(trs sg ps nm ws).length<=30:=by
 unfold trs;rw [List.length_append,List.length_zipWith,List.length_zipWith];have:=B.l6;have:=B.n24;omega
theorem a7n {sg nm:List Str} {ps ws:List Int} (B:Bk sg ps nm ws) {i:Nat} {t u:Tr} (h:(trs sg ps nm ws)[i+1]?=some t) (hu:(trs sg ps nm ws)[i]?=some u) (e:t.1=tL):u.1=tL:=by
 unfold trs at h hu;have key:∀ j v,(List.zipWith (λz n=>(tL,z,n)) sg ps++List.zipWith (λz n=>(tT,z,n)) nm ws)[j]?=some v->(v:Tr).1=tL->j < (List.zipWith (λz n=>((tL,z,n):Tr)) sg ps).length:=λj v hv ev=>by
  rcases Nat.lt_or_ge j (List.zipWith (λz n=>((tL,z,n):Tr)) sg ps).length with c | c
  ·exact c
  ·exfalso;rw [List.getElem?_append_right c] at hv;have hm:=List.mem_of_getElem? hv;obtain ⟨k,hk⟩:=List.mem_iff_getElem?.mp hm;rw [List.getElem?_zipWith] at hk;cases hx:nm[k]? with
   | none=>rw [hx] at hk;cases hk
   | some z =>
    cases hy:ws[k]? with
    | none=>rw [hx,hy] at hk;cases hk
    | some n =>
     rw [hx,hy] at hk;have:=Option.some.inj hk;rw [<-this] at ev;exact tLT ev.symm
 have li:=key _ _ h e;rw [List.getElem?_append_left (by omega),List.getElem?_zipWith] at hu;cases hx:sg[i]? with
 | none=>rw [hx] at hu;cases hu
 | some z =>
  cases hy:ps[i]? with
  | none=>rw [hx,hy] at hu;cases hu
  | some n =>
   rw [hx,hy] at hu;rw [<-Option.some.inj hu]
def b0D (H:Hp) (x:V) (t:Tr):Prop:=∃ l,x=.ref l/\H l=some (.lst [.str t.1,.str t.2.1,.str (nS t.2.2)])
theorem b0D.same {H H':Hp} {xs:List V} {ts:List Tr} (s:a0E H H') (h:Paired (b0D H) xs ts):Paired (b0D H') xs ts:=Paired.mapP h λ_ _ ⟨l,e,hl⟩=>⟨l,e,s _ _ hl⟩
section
variable {P:Program} {w:World} {K:PySem.W.Frag} {mg:Str->Option Value} {base:Heap} {f:Addr} {fd:FuncData}
abbrev NRo:List Str:=["text","pieces","last","rows","at","row","behind_a_thing"]
def spRo:Sp:=λvs H Q _=>∃ (sg:List Str) (ps:List Int) (nm:List Str) (ws:List Int),vs=[.str (a3s sg ps nm ws)]/\Bk sg ps nm ws/\∀ (d:Addr) xs H',a0E H H'->H' d=some (.lst xs)->Paired (b0D H') xs (trs sg ps nm ws)->Q (.ref d) H'
theorem b2P:a0u NRo ["text"] (a0e sRO):=⟨rfl,rfl,rfl,by decide +kernel,rfl,by decide +kernel,by decide +kernel⟩
theorem ndRo:(("piece":Str) :: NRo).Nodup:=by decide +kernel
theorem ok_ro (F:Fun K "rows_of" "rows_of" sRO f fd) (GT:Fns P w K mg base NRr "is_thing_row" (b3v tT 8) 2) (GL:Fns P w K mg base NRr "is_letter_row" (b3v tL 1) 2) (ml:mg "len"=none) (me:mg "enumerate"=none):a1a P w K mg base CX0 3 f fd ["text"] spRo:=by
 refine F.ok (k:=2) b2P (λvs H Q E h=>?_) (λcdv A outer s H vs Q E hr h=>?_)
 ·obtain ⟨sg,ps,nm,ws,rfl,_⟩:=h;rfl
 obtain ⟨sg,ps,nm,ws,rfl,B,qq⟩:=h;refine ⟨_,a0c (a0z (i:=1) b2P.nd rfl (Or.inl rfl) (a8I PySem.F.slot_str_split PySem.F.type_str_split a4J (pv 0) (a0a (a0i) (a0f))))
   (a0c (a0z (i:=2) b2P.nd rfl (Or.inl rfl) (a7T PySem.F.plainAttrs_list PySem.F.slot_list_pop PySem.F.type_list_pop a7V (pv 1)))
   (a0c (a2N (i:=3) (M:=NRo) b2P.nd rfl rfl rfl (a0l.of (a0e sRO) NRo rfl rfl rfl (by decide +kernel) (by decide +kernel) (by decide +kernel) rfl (by decide +kernel)) ndRo rfl (pv 1) a0R (λcl C s0 H0 fp=>⟨a0L,a8I PySem.F.slot_str_split PySem.F.type_str_split a4J (pv 0) (a0a (a0i) (a0f))⟩))
   (a0c (a1v PassesOwn.never rfl (b2v false (by rfl) me (a0a (pv 3) (a0f))) (a5f rfl (a1m (a0H (i:=4) b2P.nd rfl (Or.inl rfl)) (a1m (a0H (i:=5) b2P.nd rfl (Or.inl rfl)) (a3D)))) (a0c (a0z (i:=6) b2P.nd rfl (Or.inl rfl) (a3m (a2w (a0Y a5K (pv 4) a0d (nomark _)) (a2F (a0Y a1g (a0n a0k (a0n a0k (pv 3) (a0m a2x (pv 4) (a0d)) (λ_ _=>rfl)) (a0d) (λ_ _=>rfl)) a0i (nomark _))))))
   (a0h (a5r (a0J (PW.pt (a3C (a1o (a1I (a0q GT.ok hr (by rfl) GT.m GT.kp GT.b .nil a0D (a0a (pv 5) (a0f))))) (a2T (PW.pt (a7z (a1I (pv 6)) (a5e (a1o (a1I (a0q GL.ok hr (by rfl) GL.m GL.kp GL.b .nil a0D (a0a (pv 5) (a0f))))))))))) (a0h (a0Z)) (a0x))))))
   (a0c (a0J (a0y a5K (a0t a1A (by rfl) ml PySem.boot_len (a0a (pv 2) (a0f))) (a0d) (nomark _)) (a0h (a0Z)) (a0x))
   (a0h (a0v (pv 3))))))),?_⟩
 have tg:=a4R B;have tl:=a8O B;have bl:=b0C B;have bs:=a7m B;have tb:∀ {i:Nat} {t u:Tr},(trs sg ps nm ws)[i+1]?=some t->(trs sg ps nm ws)[i]?=some u->t.1=tL->u.1=tL:=λh1 h2=>a7n B h1 h2;generalize a3s sg ps nm ws=z at bl bs ⊢;generalize trs sg ps nm ws=ts at tg tl bs tb qq;refine ⟨_,rfl,⟨_,rfl⟩,z,nl,rfl,rfl,(by decide +kernel),a3t (by omega),λp hp=>?_⟩;rw [bs];have s1:=a0g hp (.lst ((ts.map lnS++[Str.empty]).map V.str));have g1:upd H p (.lst ((ts.map lnS++[Str.empty]).map V.str)) p=some (.lst ((ts.map lnS).map V.str++[.str Str.empty])):=by rw [a0b,List.map_append];rfl
 generalize upd H p (.lst ((ts.map lnS++[Str.empty]).map V.str))=H1 at s1 g1 ⊢;refine ⟨_,rfl,.inl ⟨rfl,_,SqL.of g1⟩,p,_,.str Str.empty,rfl,rfl,g1,?_,?_⟩
 ·rw [List.length_append,List.getElem?_append_right (by simp)];simp
 rw [List.dropLast_concat];have s2:=a0w (o:=.lst ((ts.map lnS).map V.str)) hp s1;have g2:upd H1 p (.lst ((ts.map lnS).map V.str)) p=some (.lst ((ts.map lnS).map V.str)):=a0b;generalize upd H1 p (.lst ((ts.map lnS).map V.str))=H2 at s2 g2 ⊢;refine ⟨_,rfl,p,_,rfl,SqL.of g2,λd hd=>?_⟩;refine ⟨λi H'=>a0E H2 H'/\∃ xs,H' d=some (.lst xs)/\Paired (λx t=>b0D H' x t/\x≠.ref d) xs (ts.take i),⟨a0g hd _,[],a0b,.nil⟩,λi H' _ hP=>SqL.of (hP.1 _ _ g2),λi x H' hx hP=>?_,λH3 hP=>?_⟩
 ·obtain ⟨s3,xs,hz,px⟩:=hP;rw [List.map_map,List.getElem?_map] at hx;obtain ⟨t,ht,rfl⟩:=Option.map_eq_some_iff.mp hx;have G:=tg t (List.mem_of_getElem? ht);have il:=(List.getElem?_eq_some_iff.mp ht).1;have lx:xs.length=(ts.take i).length:=px.length;rw [List.length_take] at lx;refine a0G ⟨_,rfl,⟨_,rfl⟩,lnS t,sp,rfl,rfl,(by decide +kernel),a3t (by have:=ln_len G;omega),λq hq=>?_⟩;rw [b0B G];have nq:q≠d:=λe=>by rw [e,hz] at hq;cases hq
  have s4:=a0g hq (.lst ([t.1,t.2.1,nS t.2.2].map V.str));refine ⟨_,s4 _ _ hz,a0p (by omega),a0w hd (s3.trans s4),xs++[.ref q],a0b,?_⟩;rw [List.take_add_one,ht];refine Paired.appendP (Paired.mapP px λv t' ⟨⟨l,e,hl⟩,nd⟩=>⟨⟨l,e,?_⟩,nd⟩) (Paired.oneP ⟨⟨q,rfl,?_⟩,λe=>nq (V.ref.inj e)⟩)
  ·have nl:l≠d:=λe2=>nd (by rw [e,e2]);rw [a0j nl];exact s4 _ _ hl
  ·rw [a0j nq,a0b];rfl
 obtain ⟨s3,xs,g3,px⟩:=hP;rw [List.length_map,List.length_map,List.take_length] at px;have px:Paired (b0D H3) xs ts:=Paired.mapP px λ_ _ h=>h.1;have s03:=s2.trans s3;have lx:xs.length=ts.length:=px.length;refine ⟨_,rfl,d,xs,rfl,SqL.of g3,?_⟩;refine b0p (k:=false) (xs:=xs) (λi σ H'=>a0E H3 H'/\∃ x4 x5 x6:Option V,σ=[some (.str z),some (.ref p),some (.str Str.empty),some (.ref d),x4,x5,x6]) ⟨a0E.refl _,_,_,_,rfl⟩ (λi σ H' _ hP=>SqL.of (hP.1 _ _ g3)) (λi x q σ H4 hx hP hq=>?_) (λσ H4 hP=>?_)
 ·obtain ⟨s4,x4,x5,x6,rfl⟩:=hP;obtain ⟨t,ht,l,rfl,hl⟩:=Paired.right_of px i x hx;have G:=tg t (List.mem_of_getElem? ht);have s5:=s4.trans (a0g hq (.tup [.int i,.ref l]));have gq:upd H4 q (.tup [.int i,.ref l]) q=some (.tup [.int i,.ref l]):=a0b;generalize upd H4 q (.tup [.int i,.ref l])=H5 at s5 gq ⊢;refine ⟨q,_,rfl,SqT.of gq,rfl,_,_,rfl,_,_,rfl,rfl,?_⟩;refine ⟨λv H'=>H5=H'/\∃ b,v=.bl b/\(t.1=tL->b=false),?_,λv H' hv=>?_⟩
  ·refine ⟨_,rfl,_,_,rfl,rfl,_,rfl,a1K (λc=>?_) (λc=>⟨rfl,false,rfl,λ_=>rfl⟩)⟩;have i0:0 < (i:Int):=of_decide_eq_true c;obtain ⟨j,rfl⟩:∃ j,i=j+1:=⟨i - 1,by omega⟩
   have lj:j < xs.length:=by have:=(List.getElem?_eq_some_iff.mp hx).1;omega
   have hj:xs[j]?=some (xs[j]'lj):=List.getElem?_eq_getElem lj;obtain ⟨u,hu,l',e',hl'⟩:=Paired.right_of px j _ hj;have aj:atI xs (((j+1:Nat):Int) - 1)=some (.ref l'):=by
    rw [show ((j+1:Nat):Int) - 1=(j:Int) by omega];exact a1G (by rw [hj,e'])
   refine ⟨_,rfl,_,rfl,_,_,rfl,rfl,d,_,_,_,rfl,rfl,SqL.of (s5 _ _ g3),aj,l',_,_,_,rfl,rfl,SqL.of (s5 _ _ hl'),(rfl:atI [V.str u.1,.str u.2.1,.str (nS u.2.2)] 0=_),rfl,rfl,_,rfl,λe=>?_⟩;have eu:=tb ht hu e;refine decide_eq_false λh=>?_;rw [eu] at h;exact tLT (V.str.inj h)
  obtain ⟨rfl,b,rfl,hb⟩:=hv;refine ⟨λσ' H'=>a0E H3 H'/\∃ x4 x5 x6:Option V,σ'=[some (.str z),some (.ref p),some (.str Str.empty),some (.ref d),x4,x5,x6],?_,λ_ _ h=>h⟩;refine ⟨_,rfl,l,t.1,t.2.1,t.2.2,rfl,s5 _ _ hl,(λe=>?_),G.n1,G.n30,λH6 s6=>?_⟩
  ·rcases G.k with ⟨e2,_⟩ | ⟨_,e2⟩
   ·rw [e2] at e;exact absurd e tLT
   ·exact e2
  have s36:=s5.trans s6;refine ⟨_,rfl,?_⟩;rcases G.k with ⟨e2,N⟩ | ⟨e2,N⟩
  ·rw [decide_eq_false (show ¬ t.1=tT by rw [e2];exact tLT)];refine a4k ?_;rw [hb e2];refine ⟨_,rfl,_,rfl,a2v ?_⟩;refine ⟨_,rfl,l,t.1,t.2.1,t.2.2,rfl,s36 _ _ hl,λ_=>N,G.n1,G.n30,λH7 s7=>?_⟩;refine ⟨_,rfl,?_⟩;rw [decide_eq_true e2];exact a2v ⟨s36.trans s7,_,_,_,rfl⟩
  ·rw [decide_eq_true e2];exact a2v ⟨s36,_,_,_,rfl⟩
 obtain ⟨s4,x4,x5,x6,rfl⟩:=hP;refine ⟨_,rfl,Str.empty,rfl,(by show 0<=sizeLine;decide),_,_,rfl,rfl,_,rfl,a2v ?_⟩;exact ⟨_,rfl,qq d xs H4 (s03.trans s4) (s4 _ _ g3) (b0D.same s4 px)⟩
end
theorem b1u:bootBuiltins "set"=some (.type "set"):=by decide +kernel
theorem zw1 {k:Str}:∀ {zs:List Str} {ns:List Int},zs.length=ns.length->(List.zipWith (λz n=>((k,z,n):Tr)) zs ns).map (·.2.1)=zs
 | [],[],_=>rfl
 | z :: zs,n :: ns,h=>by
  show z :: _=_;rw [zw1 (Nat.succ.inj h)]
theorem zw2 {k:Str}:∀ {zs:List Str} {ns:List Int},zs.length=ns.length->(List.zipWith (λz n=>((k,z,n):Tr)) zs ns).map (·.2.2)=ns
 | [],[],_=>rfl
 | z :: zs,n :: ns,h=>by
  show n :: _=_;rw [zw2 (Nat.succ.inj h)]
theorem zw_k {k:Str} {zs:List Str} {ns:List Int}:∀ t∈List.zipWith (λz n=>((k,z,n):Tr)) zs ns,t.1=k:=λt ht=>by
 obtain ⟨i,hi⟩:=List.mem_iff_getElem?.mp ht;rw [List.getElem?_zipWith] at hi;cases hx:zs[i]? with
 | none=>rw [hx] at hi;cases hi
 | some z =>
  cases hy:ns[i]? with
  | none=>rw [hx,hy] at hi;cases hi
  | some n =>
   rw [hx,hy] at hi;rw [<-Option.some.inj hi]
theorem flt_y {k:Str} {t:Tr} (c:decide (V.str t.1=V.str k)=true):List.filter (λt:Tr=>decide (V.str t.1=V.str k)) [t]=[t]:=List.filter_cons_of_pos c
theorem flt_n {k:Str} {t:Tr} (c:¬ decide (V.str t.1=V.str k)=true):List.filter (λt:Tr=>decide (V.str t.1=V.str k)) [t]=[]:=List.filter_cons_of_neg c
theorem flt_L (sg:List Str) (ps:List Int) (nm:List Str) (ws:List Int):(trs sg ps nm ws).filter (λt=>decide (V.str t.1=V.str tL))=List.zipWith (λz n=>((tL,z,n):Tr)) sg ps:=by
 unfold trs;rw [List.filter_append,List.filter_eq_self.mpr λt ht=>decide_eq_true (congrArg V.str (zw_k t ht)),List.filter_eq_nil_iff.mpr (λt ht=>?_),List.append_nil];rw [zw_k t ht];exact λh=>tLT (V.str.inj (of_decide_eq_true h)).symm
theorem flt_T (sg:List Str) (ps:List Int) (nm:List Str) (ws:List Int):(trs sg ps nm ws).filter (λt=>decide (V.str t.1=V.str tT))=List.zipWith (λz n=>((tT,z,n):Tr)) nm ws:=by
 unfold trs;rw [List.filter_append,List.filter_eq_nil_iff.mpr (λt ht=>?_),List.filter_eq_self.mpr λt ht=>decide_eq_true (congrArg V.str (zw_k t ht)),List.nil_append];rw [zw_k t ht];exact λh=>tLT (V.str.inj (of_decide_eq_true h))
section
variable {P:Program} {w:World} {K:PySem.W.Frag} {mg:Str->Option Value} {base:Heap} {f:Addr} {fd:FuncData}
def spIs:Sp:=λvs H Q _=>∃ n:Int,vs=[.int n]/\1<=n/\n<=B30/\Q (.bl true) H
theorem scIs:a0u ["number"] ["number"] (a0e a5X):=⟨rfl,rfl,rfl,by decide +kernel,rfl,by decide +kernel,by decide +kernel⟩
theorem ok_is (F:Fun K "is_amount" "is_amount" a5X f fd):a1a P w K mg base CX0 1 f fd ["number"] spIs:=by
 refine F.ok (k:=0) scIs (λvs H Q E h=>?_) (λcdv A outer s H vs Q E hr h=>?_)
 ·obtain ⟨n,rfl,_⟩:=h;rfl
 obtain ⟨n,rfl,n1,n30,q⟩:=h;refine ⟨_,a0h (a0v (a2H a1W a1W a0d (pv 0) (a0m a3j a0d a0d))),?_⟩;refine ⟨_,rfl,_,_,rfl,rfl,_,rfl,?_⟩;rw [if_pos (decide_eq_true n1)];refine ⟨_,_,rfl,rfl,⟨by decide,by decide,by decide⟩,_,_,rfl,rfl,?_⟩;show Q (.bl (decide (n<=10 ^ (30:Int).toNat))) H;rw [decide_eq_true (by rw [e30];exact n30)];exact q
abbrev NAr:List Str:=["numbers","fewest","most"]
def spAr:Sp:=λvs H Q _=>∃ (l:Addr) (ns:List Int) (lo hi:Nat),vs=[.ref l,.int lo,.int hi]/\H l=some (.lst (ns.map V.int))/\lo<=ns.length/\ns.length<=hi/\hi<=30/\Bo ns/\∀ H',a0E H H'->Q (.bl true) H'
theorem scAr:a0u NAr NAr (a0e b2E):=⟨rfl,rfl,rfl,by decide +kernel,rfl,by decide +kernel,by decide +kernel⟩
theorem ndAr:(("number":Str) :: NAr).Nodup:=by decide +kernel
theorem ok_ar (F:Fun K "are_amounts" "are_amounts" b2E f fd) (GA:Fns P w K mg base ["number"] "is_amount" spIs 1) (ml:mg "len"=none) (ma:mg "all"=none):a1a P w K mg base CX0 2 f fd NAr spAr:=by
 refine F.ok (k:=1) scAr (λvs H Q E h=>?_) (λcdv A outer s H vs Q E hr h=>?_)
 ·obtain ⟨l,ns,lo,hi,rfl,_⟩:=h;rfl
 obtain ⟨l,ns,lo,hi,rfl,hl,h1,h2,h3,bo,qq⟩:=h;refine ⟨_,a0h (a0v (a2w (a2H a1W a1W (pv 1) (a0t a0r (by rfl) ml PySem.boot_len (a0a (pv 0) (a0f))) (pv 2)) (a2F (a0t (a1Z rfl) (by rfl) ma a5R (a0a (a1y (M:=NAr) rfl (a0l.of (a0e b2E) NAr rfl rfl rfl (by decide +kernel) (by decide +kernel) (by decide +kernel) rfl (by decide +kernel)) ndAr rfl (pv 0) a0R (λcl C s0 H0 fp=>⟨a0L,a0q GA.ok hr (by rfl) GA.m GA.kp GA.b .nil a0D (a0a (pv 0) (a0f))⟩)) (a0f)))))),?_⟩;refine ⟨_,rfl,_,rfl,l,_,rfl,.inl (SqL.of hl),_,_,rfl,rfl,_,rfl,?_⟩;rw [List.length_map,if_pos (decide_eq_true (by omega))];refine ⟨_,rfl,_,_,rfl,rfl,_,rfl,?_⟩;rw [if_pos (decide_eq_true (by omega))];refine ⟨_,rfl,l,_,rfl,SqL.of hl,λd hd=>?_⟩;refine ⟨λi H'=>a0E H H'/\H' d=some (.lst ((List.replicate i true).map V.bl)),⟨a0g hd _,a0b⟩,λi H' _ hP=>SqL.of (hP.1 _ _ hl),λi x H' hx hP=>?_,λH' hP=>?_⟩
 ·obtain ⟨s5,hz⟩:=hP;rw [List.getElem?_map] at hx;obtain ⟨n,hn,rfl⟩:=Option.map_eq_some_iff.mp hx;have il:=(List.getElem?_eq_some_iff.mp hn).1;have N:=bo n (List.mem_of_getElem? hn);refine a0G ⟨_,rfl,n,rfl,N.1,N.2,_,hz,?_,a0w hd s5,?_⟩
  ·rw [List.length_map,List.length_replicate];exact a0p (by omega)
  ·rw [a0b,List.replicate_succ',List.map_append];rfl
 ·obtain ⟨s5,hz⟩:=hP;refine ⟨d,_,rfl,hz,?_⟩;rw [a4Q];exact qq H' s5
def b3w (lo hi:Nat):Sp:=λvs H Q _=>∃ (l:Addr) (ns:List Int),vs=[.ref l]/\H l=some (.lst (ns.map V.int))/\lo<=ns.length/\ns.length<=hi/\Bo ns/\∀ p H',a0E H H'->H' p=some (.tup (ns.map V.int))->Q (.ref p) H'
theorem scMP:a0u ["prices"] ["prices"] (a0e sMP):=⟨rfl,rfl,rfl,by decide +kernel,rfl,by decide +kernel,by decide +kernel⟩
theorem scMW:a0u ["weights"] ["weights"] (a0e sMW):=⟨rfl,rfl,rfl,by decide +kernel,rfl,by decide +kernel,by decide +kernel⟩
theorem ok_mp (F:Fun K "made_prices" "made_prices" sMP f fd) (GA:Fns P w K mg base NAr "are_amounts" spAr 2) (mt:mg "tuple"=none):a1a P w K mg base CX0 3 f fd ["prices"] (b3w 2 6):=by
 refine F.ok (k:=2) scMP (λvs H Q E h=>?_) (λcdv A outer s H vs Q E hr h=>?_)
 ·obtain ⟨l,ns,rfl,_⟩:=h;rfl
 obtain ⟨l,ns,rfl,hl,h1,h2,bo,qq⟩:=h;refine ⟨_,a0c (a0J (a1o (a1I (a0q GA.ok hr (by rfl) GA.m GA.kp GA.b .nil a0D (a0a (pv 0) (a0a (a0d) (a0a (a0d) (a0f))))))) (a0h (a0Z)) (a0x))
   (a0h (a0v (a0K a0X (by rfl) mt a2k (a0a (pv 0) (a0f))))),?_⟩
 refine ⟨_,rfl,l,ns,2,6,rfl,hl,h1,h2,by decide,bo,λH1 s1=>⟨_,rfl,a2v ?_⟩⟩;exact ⟨_,rfl,l,_,rfl,.inl ⟨SqL.of (s1 _ _ hl),λp hp=>qq p _ (s1.trans (a0g hp _)) a0b⟩⟩
theorem ok_mw (F:Fun K "made_weights" "made_weights" sMW f fd) (GA:Fns P w K mg base NAr "are_amounts" spAr 2) (mt:mg "tuple"=none):a1a P w K mg base CX0 3 f fd ["weights"] (b3w 1 24):=by
 refine F.ok (k:=2) scMW (λvs H Q E h=>?_) (λcdv A outer s H vs Q E hr h=>?_)
 ·obtain ⟨l,ns,rfl,_⟩:=h;rfl
 obtain ⟨l,ns,rfl,hl,h1,h2,bo,qq⟩:=h;refine ⟨_,a0c (a0J (a1o (a1I (a0q GA.ok hr (by rfl) GA.m GA.kp GA.b .nil a0D (a0a (pv 0) (a0a (a0d) (a0a (a0d) (a0f))))))) (a0h (a0Z)) (a0x))
   (a0h (a0v (a0K a0X (by rfl) mt a2k (a0a (pv 0) (a0f))))),?_⟩
 refine ⟨_,rfl,l,ns,1,24,rfl,hl,h1,h2,by decide,bo,λH1 s1=>⟨_,rfl,a2v ?_⟩⟩;exact ⟨_,rfl,l,_,rfl,.inl ⟨SqL.of (s1 _ _ hl),λp hp=>qq p _ (s1.trans (a0g hp _)) a0b⟩⟩
abbrev NRb:List Str:=["text","rows","letters","things","signs","names","prices","weights"]
def spRb:Sp:=λvs H Q _=>∃ (sg:List Str) (ps:List Int) (nm:List Str) (ws:List Int),vs=[.str (a3s sg ps nm ws)]/\Bk sg ps nm ws/\∀ (p:Addr) H',a0E H H'->a9F H' p sg ps nm ws->Q (.ref p) H'
theorem b1v:a0u NRb ["text"] (a0e sRB):=⟨rfl,rfl,rfl,by decide +kernel,rfl,by decide +kernel,by decide +kernel⟩
theorem b3x:(("row":Str) :: NRb).Nodup:=by decide +kernel
theorem ok_rb (F:Fun K "read_book" "read_book" sRB f fd) (GR:Fns P w K mg base ["text"] "rows_of" spRo 3) (GP:Fns P w K mg base ["prices"] "made_prices" (b3w 2 6) 3) (GW:Fns P w K mg base ["weights"] "made_weights" (b3w 1 24) 3) (ml:mg "len"=none) (mt:mg "tuple"=none) (mse:mg "set"=none) (mI:mg "int"=none):a1a P w K mg base CX0 4 f fd ["text"] spRb:=by
 refine F.ok (k:=3) b1v (λvs H Q E h=>?_) (λcdv A outer s H vs Q E hr h=>?_)
 ·obtain ⟨sg,ps,nm,ws,rfl,_⟩:=h;rfl
 obtain ⟨sg,ps,nm,ws,rfl,B,qq⟩:=h;refine ⟨_,a0c (a0z (i:=1) b1v.nd rfl (Or.inl rfl) (a0q GR.ok hr (by rfl) GR.m GR.kp GR.b .nil a0D (a0a (pv 0) (a0f))))
   (a0c (a2N (i:=2) (M:=NRb) b1v.nd rfl rfl rfl (a0l.of (a0e sRB) NRb rfl rfl rfl (by decide +kernel) (by decide +kernel) (by decide +kernel) rfl (by decide +kernel)) b3x rfl (pv 1) a0R (λcl C s0 H0 fp=>⟨a5P (a0y a1g (a0n (ixL K) (pv 0) (a0d) (λ_ _=>rfl)) a0i (nomark _)),pv 0⟩))
   (a0c (a2N (i:=3) (M:=NRb) b1v.nd rfl rfl rfl (a0l.of (a0e sRB) NRb rfl rfl rfl (by decide +kernel) (by decide +kernel) (by decide +kernel) rfl (by decide +kernel)) b3x rfl (pv 1) a0R (λcl C s0 H0 fp=>⟨a5P (a0y a1g (a0n (ixL K) (pv 0) (a0d) (λ_ _=>rfl)) a0i (nomark _)),pv 0⟩))
   (a0c (a0z (i:=4) b1v.nd rfl (Or.inl rfl) (a0K a0X (by rfl) mt a2k (a0a (a1y (M:=NRb) rfl (a0l.of (a0e sRB) NRb rfl rfl rfl (by decide +kernel) (by decide +kernel) (by decide +kernel) rfl (by decide +kernel)) b3x rfl (pv 2) a0R (λcl C s0 H0 fp=>⟨a0L,a0n (ixL K) (pv 0) (a0d) (λ_ _=>rfl)⟩)) (a0f))))
   (a0c (a0z (i:=5) b1v.nd rfl (Or.inl rfl) (a0K a0X (by rfl) mt a2k (a0a (a1y (M:=NRb) rfl (a0l.of (a0e sRB) NRb rfl rfl rfl (by decide +kernel) (by decide +kernel) (by decide +kernel) rfl (by decide +kernel)) b3x rfl (pv 3) a0R (λcl C s0 H0 fp=>⟨a0L,a0n (ixL K) (pv 0) (a0d) (λ_ _=>rfl)⟩)) (a0f))))
   (a0c (a0J (PW.pt (a7z (a0y a5J (a0t a5y (by rfl) ml PySem.boot_len (a0a (a0K (a4t rfl) (by rfl) mse b1u (a0a (pv 4) (a0f))) (a0f))) (a0t a0r (by rfl) ml PySem.boot_len (a0a (pv 4) (a0f))) (nomark _)) (a5e (a0y a5J (a0t a5y (by rfl) ml PySem.boot_len (a0a (a0K (a4t rfl) (by rfl) mse b1u (a0a (pv 5) (a0f))) (a0f))) (a0t a0r (by rfl) ml PySem.boot_len (a0a (pv 5) (a0f))) (nomark _))))) (a0h (a0Z)) (a0x))
   (a0c (a0z (i:=6) b1v.nd rfl (Or.inl rfl) (a0q GP.ok hr (by rfl) GP.m GP.kp GP.b .nil a0D (a0a (a1y (M:=NRb) rfl (a0l.of (a0e sRB) NRb rfl rfl rfl (by decide +kernel) (by decide +kernel) (by decide +kernel) rfl (by decide +kernel)) b3x rfl (pv 2) a0R (λcl C s0 H0 fp=>⟨a0L,a0K a1R (by rfl) mI a9Y (a0a (a0n (ixL K) (pv 0) (a0d) (λ_ _=>rfl)) (a0f))⟩)) (a0f))))
   (a0c (a0z (i:=7) b1v.nd rfl (Or.inl rfl) (a0q GW.ok hr (by rfl) GW.m GW.kp GW.b .nil a0D (a0a (a1y (M:=NRb) rfl (a0l.of (a0e sRB) NRb rfl rfl rfl (by decide +kernel) (by decide +kernel) (by decide +kernel) rfl (by decide +kernel)) b3x rfl (pv 3) a0R (λcl C s0 H0 fp=>⟨a0L,a0K a1R (by rfl) mI a9Y (a0a (a0n (ixL K) (pv 0) (a0d) (λ_ _=>rfl)) (a0f))⟩)) (a0f))))
   (a0h (a0v (a1h (a0a (pv 4) (a0a (pv 6) (a0a (pv 5) (a0a (pv 7) (a0f))))))))))))))),?_⟩
 have tg:=a4R B;have tl:=a8O B;have fL:=flt_L sg ps nm ws;have fT:=flt_T sg ps nm ws;have l6:=B.l6;have n24:=B.n24;refine ⟨_,rfl,sg,ps,nm,ws,rfl,B,λr xs H1 s1 hr1 px=>?_⟩;have lx:xs.length=(trs sg ps nm ws).length:=px.length;refine ⟨_,rfl,r,xs,rfl,SqL.of ((a0E.refl H1) _ _ hr1),λd1 hd1=>?_⟩;refine ⟨λi H'=>a0E H1 H'/\∃ ys,H' d1=some (.lst ys)/\Paired (b0D H1) ys (((trs sg ps nm ws).take i).filter λt=>decide (V.str t.1=V.str tL)),⟨a0g hd1 _,[],a0b,.nil⟩,λi H' _ hP=>SqL.of (hP.1 _ _ ((a0E.refl H1) _ _ hr1)),λi x H' hx hP=>?_,λH2 hP=>?_⟩
 ·obtain ⟨s2,ys,hz,py⟩:=hP;obtain ⟨t,ht,l,rfl,hl⟩:=Paired.right_of px i x hx;have il:=(List.getElem?_eq_some_iff.mp ht).1;have ly:ys.length=_:=py.length;have ly2:=List.length_filter_le (λt:Tr=>decide (V.str t.1=V.str tL)) ((trs sg ps nm ws).take i);rw [List.length_take] at ly2;refine ⟨_,rfl,l,_,_,_,rfl,rfl,SqL.of (s2 _ _ ((a0E.refl H1) _ _ hl)),(rfl:atI [V.str t.1,.str t.2.1,.str (nS t.2.2)] 0=_),rfl,_,rfl,a1K (λc=>?_) (λc=>?_)⟩
  ·refine ⟨_,rfl,ys,hz,a0p (by omega),a0w hd1 s2,ys++[.ref l],a0b,?_⟩;rw [List.take_add_one,ht,List.filter_append];refine Paired.appendP py ?_;show Paired _ _ (List.filter _ [t]);rw [flt_y (k:=tL) c];exact Paired.oneP ⟨l,rfl,hl⟩
  ·refine ⟨s2,ys,hz,?_⟩;rw [List.take_add_one,ht,List.filter_append];show Paired _ _ (_++List.filter _ [t]);rw [flt_n (k:=tL) c,List.append_nil];exact py
 obtain ⟨sya,ya,gya,pya⟩:=hP;rw [lx,List.take_length] at pya;have s12:a0E H1 H2:=sya;refine ⟨_,rfl,r,xs,rfl,SqL.of (s12 _ _ hr1),λd2 hd2=>?_⟩;refine ⟨λi H'=>a0E H2 H'/\∃ ys,H' d2=some (.lst ys)/\Paired (b0D H1) ys (((trs sg ps nm ws).take i).filter λt=>decide (V.str t.1=V.str tT)),⟨a0g hd2 _,[],a0b,.nil⟩,λi H' _ hP=>SqL.of (hP.1 _ _ (s12 _ _ hr1)),λi x H' hx hP=>?_,λH3 hP=>?_⟩
 ·obtain ⟨s2,ys,hz,py⟩:=hP;obtain ⟨t,ht,l,rfl,hl⟩:=Paired.right_of px i x hx;have il:=(List.getElem?_eq_some_iff.mp ht).1;have ly:ys.length=_:=py.length;have ly2:=List.length_filter_le (λt:Tr=>decide (V.str t.1=V.str tT)) ((trs sg ps nm ws).take i);rw [List.length_take] at ly2;refine ⟨_,rfl,l,_,_,_,rfl,rfl,SqL.of (s2 _ _ (s12 _ _ hl)),(rfl:atI [V.str t.1,.str t.2.1,.str (nS t.2.2)] 0=_),rfl,_,rfl,a1K (λc=>?_) (λc=>?_)⟩
  ·refine ⟨_,rfl,ys,hz,a0p (by omega),a0w hd2 s2,ys++[.ref l],a0b,?_⟩;rw [List.take_add_one,ht,List.filter_append];refine Paired.appendP py ?_;show Paired _ _ (List.filter _ [t]);rw [flt_y (k:=tT) c];exact Paired.oneP ⟨l,rfl,hl⟩
  ·refine ⟨s2,ys,hz,?_⟩;rw [List.take_add_one,ht,List.filter_append];show Paired _ _ (_++List.filter _ [t]);rw [flt_n (k:=tT) c,List.append_nil];exact py
 obtain ⟨syb,yb,gyb,pyb⟩:=hP;rw [lx,List.take_length] at pyb;have s13:=s12.trans syb;rw [fL] at pya;rw [fT] at pyb;have inL:∀ t∈List.zipWith (λz n=>((tL,z,n):Tr)) sg ps,t∈trs sg ps nm ws:=λt ht=>List.mem_append_left _ ht;have inT:∀ t∈List.zipWith (λz n=>((tT,z,n):Tr)) nm ws,t∈trs sg ps nm ws:=λt ht=>List.mem_append_right _ ht;have eL1:=zw1 (k:=tL) B.ls;have eL2:=zw2 (k:=tL) B.ls;have eT1:=zw1 (k:=tT) B.ln;have eT2:=zw2 (k:=tT) B.ln;have lL:(List.zipWith (λz n=>((tL,z,n):Tr)) sg ps).length<=6:=by rw [List.length_zipWith];omega
 have lT:(List.zipWith (λz n=>((tT,z,n):Tr)) nm ws).length<=24:=by rw [List.length_zipWith];omega
 generalize List.zipWith (λz n=>((tL,z,n):Tr)) sg ps=tsL at pya inL eL1 eL2 lL;generalize List.zipWith (λz n=>((tT,z,n):Tr)) nm ws=tsT at pyb inT eT1 eT2 lT;have gya3:=syb _ _ gya;refine ⟨_,rfl,d1,ya,rfl,SqL.of gya3,λd3 hd3=>?_⟩;refine ⟨λi H'=>a0E H3 H'/\H' d3=some (.lst (((tsL.take i).map (·.2.1)).map V.str)),⟨a0g hd3 _,a0b⟩,λi H' _ hP=>SqL.of (hP.1 _ _ gya3),λi x H' hx hP=>?_,λH4 hP=>?_⟩
 ·obtain ⟨s2,hz⟩:=hP;obtain ⟨t,ht,l,rfl,hl⟩:=Paired.right_of pya i x hx;have il:=(List.getElem?_eq_some_iff.mp ht).1;have G:=tg t (inL t (List.mem_of_getElem? ht));refine a0G ⟨_,rfl,l,_,_,_,rfl,rfl,SqL.of (s2 _ _ (s13 _ _ hl)),(rfl:atI [V.str t.1,.str t.2.1,.str (nS t.2.2)] 1=_),_,hz,?_,a0w hd3 s2,?_⟩
  ·rw [List.length_map,List.length_map,List.length_take];exact a0p (by omega)
  ·rw [a0b,List.take_add_one,ht,List.map_append,List.map_append];rfl
 obtain ⟨sd3,gd3⟩:=hP;rw [pya.length,List.take_length] at gd3;rw [eL1] at gd3;refine ⟨d3,_,rfl,.inl ⟨SqL.of gd3,λp1 hp1=>?_⟩⟩;have sp1:=a0g hp1 (.tup (sg.map V.str));have gp1:upd H4 p1 (.tup (sg.map V.str)) p1=some (.tup (sg.map V.str)):=a0b;generalize upd H4 p1 (.tup (sg.map V.str))=H5 at sp1 gp1 ⊢;have s35:=sd3.trans sp1;have s15:=s13.trans s35;have gyb5:=s35 _ _ gyb;refine ⟨_,rfl,d2,yb,rfl,SqL.of gyb5,λd4 hd4=>?_⟩;refine ⟨λi H'=>a0E H5 H'/\H' d4=some (.lst (((tsT.take i).map (·.2.1)).map V.str)),⟨a0g hd4 _,a0b⟩,λi H' _ hP=>SqL.of (hP.1 _ _ gyb5),λi x H' hx hP=>?_,λH6 hP=>?_⟩
 ·obtain ⟨s2,hz⟩:=hP;obtain ⟨t,ht,l,rfl,hl⟩:=Paired.right_of pyb i x hx;have il:=(List.getElem?_eq_some_iff.mp ht).1;have G:=tg t (inT t (List.mem_of_getElem? ht));refine a0G ⟨_,rfl,l,_,_,_,rfl,rfl,SqL.of (s2 _ _ (s15 _ _ hl)),(rfl:atI [V.str t.1,.str t.2.1,.str (nS t.2.2)] 1=_),_,hz,?_,a0w hd4 s2,?_⟩
  ·rw [List.length_map,List.length_map,List.length_take];exact a0p (by omega)
  ·rw [a0b,List.take_add_one,ht,List.map_append,List.map_append];rfl
 obtain ⟨sd4,gd4⟩:=hP;rw [pyb.length,List.take_length] at gd4;rw [eT1] at gd4;refine ⟨d4,_,rfl,.inl ⟨SqL.of gd4,λp2 hp2=>?_⟩⟩;have sp2:=a0g hp2 (.tup (nm.map V.str));have gp2:upd H6 p2 (.tup (nm.map V.str)) p2=some (.tup (nm.map V.str)):=a0b;generalize upd H6 p2 (.tup (nm.map V.str))=H7 at sp2 gp2 ⊢;have s57:=sd4.trans sp2;have s17:=s15.trans s57;have gp1':=s57 _ _ gp1;refine ⟨_,rfl,p1,sg,rfl,SqT.of gp1',B.ds,by rw [B.ls];omega,λe1 H8 s8 he1 ge1=>?_⟩;refine ⟨e1,sg,rfl,ge1,by rw [B.ls];omega,_,rfl,p1,_,rfl,.inr (SqT.of (s8 _ _ gp1')),_,_,rfl,rfl,_,rfl,?_⟩;rw [List.length_map,decide_eq_false (Int.lt_irrefl _)];refine a2v ?_;refine ⟨_,rfl,p2,nm,rfl,SqT.of (s8 _ _ gp2),B.dn,by rw [B.ln];omega,λe2 H9 s9 he2 ge2=>?_⟩;refine ⟨e2,nm,rfl,ge2,by rw [B.ln];omega,_,rfl,p2,_,rfl,.inr (SqT.of (s9 _ _ (s8 _ _ gp2))),_,_,rfl,rfl,_,rfl,?_⟩;rw [List.length_map,decide_eq_false (Int.lt_irrefl _)];refine a2v ?_;have s79:=s8.trans s9;have s19:=s17.trans s79;have gya9:=s79 _ _ (s57 _ _ (s35 _ _ gya3));refine ⟨_,rfl,d1,ya,rfl,SqL.of gya9,λd5 hd5=>?_⟩;refine ⟨λi H'=>a0E H9 H'/\H' d5=some (.lst (((tsL.take i).map (·.2.2)).map V.int)),⟨a0g hd5 _,a0b⟩,λi H' _ hP=>SqL.of (hP.1 _ _ gya9),λi x H' hx hP=>?_,λH10 hP=>?_⟩
 ·obtain ⟨s2,hz⟩:=hP;obtain ⟨t,ht,l,rfl,hl⟩:=Paired.right_of pya i x hx;have il:=(List.getElem?_eq_some_iff.mp ht).1;have G:=tg t (inL t (List.mem_of_getElem? ht));refine a0G ⟨_,rfl,l,_,_,_,rfl,rfl,SqL.of (s2 _ _ (s19 _ _ hl)),(rfl:atI [V.str t.1,.str t.2.1,.str (nS t.2.2)] 2=_),_,_,rfl,a6z G.n1 G.n30,by have:=a4u G.n30;omega,_,hz,?_,a0w hd5 s2,?_⟩
  ·rw [List.length_map,List.length_map,List.length_take];exact a0p (by omega)
  ·rw [a0b,List.take_add_one,ht,List.map_append,List.map_append];rfl
 obtain ⟨sd5,gd5⟩:=hP;rw [pya.length,List.take_length] at gd5;rw [eL2] at gd5;refine ⟨d5,ps,rfl,gd5,B.l2,B.l6,B.bp,λp3 H11 s11 gp3=>?_⟩;have s911:=sd5.trans s11;have s1b:=s19.trans s911;have gybb:=s911 _ _ (s79 _ _ (s57 _ _ gyb5));refine ⟨_,rfl,d2,yb,rfl,SqL.of gybb,λd6 hd6=>?_⟩;refine ⟨λi H'=>a0E H11 H'/\H' d6=some (.lst (((tsT.take i).map (·.2.2)).map V.int)),⟨a0g hd6 _,a0b⟩,λi H' _ hP=>SqL.of (hP.1 _ _ gybb),λi x H' hx hP=>?_,λH12 hP=>?_⟩
 ·obtain ⟨s2,hz⟩:=hP;obtain ⟨t,ht,l,rfl,hl⟩:=Paired.right_of pyb i x hx;have il:=(List.getElem?_eq_some_iff.mp ht).1;have G:=tg t (inT t (List.mem_of_getElem? ht));refine a0G ⟨_,rfl,l,_,_,_,rfl,rfl,SqL.of (s2 _ _ (s1b _ _ hl)),(rfl:atI [V.str t.1,.str t.2.1,.str (nS t.2.2)] 2=_),_,_,rfl,a6z G.n1 G.n30,by have:=a4u G.n30;omega,_,hz,?_,a0w hd6 s2,?_⟩
  ·rw [List.length_map,List.length_map,List.length_take];exact a0p (by omega)
  ·rw [a0b,List.take_add_one,ht,List.map_append,List.map_append];rfl
 obtain ⟨sd6,gd6⟩:=hP;rw [pyb.length,List.take_length] at gd6;rw [eT2] at gd6;refine ⟨d6,ws,rfl,gd6,B.n1,B.n24,B.bw,λp4 H13 s13' gp4=>?_⟩;have sE:=sd6.trans s13';refine ⟨_,rfl,_,rfl,_,rfl,_,rfl,(by show 4<=sizeLine;decide),λq hq=>?_⟩;have sq:=a0g hq (.tup [.ref p1,.ref p3,.ref p2,.ref p4]);have k1:=sq _ _ (sE _ _ (s911 _ _ (s79 _ _ gp1')));have k2:=sq _ _ (sE _ _ gp3);have k3:=sq _ _ (sE _ _ (s911 _ _ (s79 _ _ gp2)));have k4:=sq _ _ gp4;exact qq q _ ((s1.trans s1b).trans (sE.trans sq)) ⟨p1,p3,p2,p4,a0b,k1,k2,k3,k4⟩
end
end K94
namespace L2
open PySem PySem.Spec PyProof.Rows PySem.W
def dd (zs:List Str):List Str:=zs.foldl (λacc z=>if z∈acc then acc else acc++[z]) []
section
variable {prog:Program} {w:World} {A:Around} {E:Value->Shared->Prop} {s:Shared}
end
end L2
namespace L2
open PySem PySem.Spec PyProof.Rows
theorem a3g:∀ {bs:List Bool} {its:List Value},a0U (bs.map V.bl) its->its=bs.map Value.bool
 | [],_,.nil=>rfl
 | b :: bs,_,.cons r t=>by
  cases r;rw [a3g t];rfl
def eB (b:Bool):Value->Bool:=λz=>match z with
 | .bool c=>decide (c=b)
 | _=>false
def rCntB:V->List V->Hp->VK->Prop:=λx vs H Q=>∃ (l:Addr) (bs:List Bool) (b:Bool),x=.ref l/\vs=[.bl b]/\H l=some (.lst (bs.map V.bl))/\Q (.int ((bs.countP λc=>decide (c=b):Nat):Int)) H
theorem a8P {X:Cx}:MtM X "list.count" rCntB:=by
 intro pins s σ H x vs v us Q I rx rv h;obtain ⟨l,bs,b,rfl,rfl,hH,q⟩:=h;cases rx;obtain ⟨y',rfl,ry⟩:=rv.one;cases ry;obtain ⟨z,its,n,r,hl,e0⟩:=I.lstM hH;have ei:=a3g r;subst ei;refine call_meets PySem.F.slot_list_count ⟨_,e0,rfl⟩ PySem.F.entry_list_count (PySem.F.args_list_count_2 _ _) (SeqAt.list_countAt l _ n _ _ _ (eB b)) ⟨e0,λz hz=>?_,?_⟩
 ·have hz':z∈bs.map Value.bool:=by simpa using hz
  obtain ⟨c,_,rfl⟩:=List.mem_map.mp hz';have q:=SeqAt.EqAt.bool_bool (A:=X.A.in1) (s:=s) c b;rw [Bool.beq_eq_decide_eq] at q;exact q
 ·have ec:(bs.map Value.bool).toArray.toList.countP (eB b)=bs.countP λc=>decide (c=b):=by
   rw [List.toList_toArray,List.countP_map];rfl
  exact ⟨.int _,H,I.tok _,⟨_,by rw [ec]⟩,q⟩
def rIdxB:V->List V->Hp->VK->Prop:=λx vs H Q=>∃ (l:Addr) (bs:List Bool) (b:Bool),x=.ref l/\vs=[.bl b]/\H l=some (.lst (bs.map V.bl))/\b∈bs/\Q (.int ((bs.idxOf b:Nat):Int)) H
theorem a8Q {X:Cx}:MtM X "list.index" rIdxB:=by
 intro pins s σ H x vs v us Q I rx rv h;obtain ⟨l,bs,b,rfl,rfl,hH,hm,q⟩:=h;cases rx;obtain ⟨y',rfl,ry⟩:=rv.one;cases ry;obtain ⟨z,its,n,r,hl,e0⟩:=I.lstM hH;have ei:=a3g r;subst ei;have hj:bs.idxOf b < bs.length:=List.idxOf_lt_length_iff.mpr hm;have at_:∀ m (h:m < bs.length),(bs.map Value.bool).toArray[m]'(by rw [List.size_toArray,List.length_map];exact h)=.bool bs[m]:=λm h=>by simp
 refine call_meets PySem.F.slot_list_index ⟨_,e0,rfl⟩ PySem.F.entry_list_index (PySem.F.args_list_index_2 _ _) (SeqAt.list_indexAt l _ n _ _ _ (eB b) (bs.idxOf b) (by rw [List.size_toArray,List.length_map];exact hj) ?_ ?_ ?_) ⟨e0,λz hz=>?_,⟨.int _,H,I.tok _,⟨_,rfl⟩,q⟩⟩
 ·have:(sizeLine:Nat) < 2 ^ 62:=by decide
  rw [List.length_map] at hl z;omega
 ·rw [at_ _ hj];show decide (bs[bs.idxOf b]=b)=true;rw [List.getElem_idxOf hj];exact decide_eq_true rfl
 ·intro m hm' hlt;rw [at_ m (by omega)];show decide (bs[m]'(by omega)=b)=false;refine decide_eq_false λe=>?_;have hlt':m < bs.findIdx (· == b):=hlt;have:=List.not_of_lt_findIdx hlt';rw [e] at this;simp at this
 ·have hz':z∈bs.map Value.bool:=by simpa using hz
  obtain ⟨c,_,rfl⟩:=List.mem_map.mp hz';have q:=SeqAt.EqAt.bool_bool (A:=X.A.in1) (s:=s) c b;rw [Bool.beq_eq_decide_eq] at q;exact q
def tTryB (K:PySem.W.Frag) (D:Addr) (tb:(St->XK)->TS) (ts:TS):TS:=λG σ H=>tb (λσ' cls od H'=>∃ C,cls=.ref C/\PySem.W.subIn K (.ref C) (.ref D)=some true /\
 ∀ ea,H' ea=none->ts { G with bk:=λ_ _=>False,ct:=λ_ _=>False } σ' (upd H' ea (b1h ea C od))) G σ H
theorem b2Q {X:Cx} {body suite:List Stmt} {b₀:Stmt} {c:Str} {D:Addr} {np hpos pos:Pos} {rest:List ExceptHandler} {tb:(St->XK)->TS} {ts:TS} (hfrm:X.stack=X.env :: X.outer/\X.env.frame=some X.env.locals)
  (hb:∀ (pn:List (Addr × Obj)) (xe:Value->Shared->Prop) (Ex:St->XK),a3Q (X.tryx pn xe) Ex->PSs (X.tryx pn xe) body (tb Ex)) (hs:∀ ea,PSs (X.hand ea) (b₀ :: suite) ts)
  (hg:Gl X c) (hm:X.mg c=some (.ref D)) (hD:Hcl X.K D) (hdb:(c == ("__debug__":Str))=false:=by decide) :
  PS X (.Try body (.ExceptHandler (some (.Name c np)) none (b₀ :: suite) hpos :: rest) [] [] pos) (tTryB X.K D tb ts):=by
 intro pins s σ H G I h;refine wpAny_Try_except ?_;refine wpAny_mono (hb (X.pn++pins) (λe s₁=>wpAny (model X.prog X.w) X.A (noteFrame e X.env) (λ_ s₂=>wpAny (model X.prog X.w) X.A (setFlight e none) (λ_ s₃ =>
   wpAny (model X.prog X.w) X.A (handleBy e X.env (.ExceptHandler (some (.Name c np)) none (b₀ :: suite) hpos :: rest)) (SP X pins G) X.xe s₃) X.xe s₂) X.xe s₁) _ ?_ [] s σ H G (I.tryx _) h) (λfl s1 q=>?_) λ_ _ z=>z
 ·intro pins' σ1 H1 s1 e s' I1 hx;obtain ⟨ea,cls,od,S,H',rfl,os,bare,un,hok,lo,hS,C,rfl,sb,q⟩:=hx;have J1:Inv X pins σ1 H1 s1:=I1.untryx I.ok;have J2:Inv X pins σ1 H' s':=J1.call' (ch:=[]) os un hok bare (λb z=>absurd z (by simp));show wpAny _ _ (noteFrame (.ref ea) X.env) _ _ s';have st:=J2.stack;rw [hfrm.1] at st;have hfr:=I.ok.frames;rw [hfrm.1] at hfr;refine a5T hfr st hfrm.2 lo λh3 T m3 hs3 hT x3 t3=>?_;rw [<-hfrm.1] at m3;have J3:Inv X pins σ1 H' { s' with heap:=h3,toks:=s'.toks }:=J2.moved (S:=S) m3 λb hb=>⟨J1.off (hS b hb).1,(hS b hb).2⟩
  have oE:=J1.off (hS ea lo.1).1;have nE:=(hS ea lo.1).2;obtain ⟨oe,vs,he,hcls,hdd,hd1,h1⟩:=id x3;refine wpAny_handleBy_cons (codeAny_handlers_test ?_) (by intro z;cases z);refine a2S (X:=X.hand ea) (J3.hand ea) hg hm ?_ hdb;refine a3P (K:=X.K) J3.kIn he hcls hD sb (codeAny_handlers_suite ?_);refine a3O (s:={ s' with heap:=h3,toks:=s'.toks }) x3 t3 hT λh4 m4 x4 t4 k4=>?_;have J4:Inv X pins σ1 H' { s' with heap:=h4,toks:=s'.toks }:=J3.moved (S:=[T]) (λb o hb hn=>by
   have hbT:b≠T:=λz=>hn (by rw [z];exact List.mem_cons_self);have z:=(k4 b hbT).trans hb;exact ⟨λ_=>z,o.slots,z⟩) λb hb=>by
    rw [List.mem_singleton.mp hb];exact ⟨J2.off (Heap.get?_none_of_le hs3),J2.hok.fresh hs3⟩
  have nf:ea∉X.fs:=λz=>by
   obtain ⟨_,o,ho,_⟩:=I.ok.funs.mem z;exact I.ok.exfs ea (oE.1 o ho) z
  obtain ⟨oe4,vs4,he4,hcls4,hdd4,hd14,h14⟩:=id x4;have J5:Inv X pins σ1 (upd H' ea (b1h ea C od)) { s' with heap:=h4,toks:=s'.toks }:=J4.track oE nE ⟨oe4,vs4,he4,hcls4,hdd4,hd14⟩ ⟨oe4,he4⟩ (λg1 g2 ⟨o,v,q1,q2⟩ k=>⟨o,v,k o q1,q2⟩) nf;refine wpAny_mono (hs ea pins _ _ _ _ (J5.hand ea) (q ea nE)) (λf s7 z=>?_) λ_ _ z=>z.elim;cases f with
  | next =>
   obtain ⟨σ7,H7,J7,z⟩:=z;exact ⟨_,H7,J7.unhand I.ok,z⟩
  | brk =>
   obtain ⟨σ7,H7,J7,z⟩:=z;exact z.elim
  | cont =>
   obtain ⟨σ7,H7,J7,z⟩:=z;exact z.elim
  | ret u =>
   obtain ⟨v,σ7,H7,J7,r,z⟩:=z;exact ⟨v,_,H7,J7.unhand I.ok,r,z⟩
 ·cases fl with
  | next =>
   obtain ⟨σ',H',J,z⟩:=q;exact wpAny_execs_nil ⟨σ',H',J.untryx I.ok,z⟩
  | brk =>
   obtain ⟨σ',H',J,z⟩:=q;exact ⟨σ',H',J.untryx I.ok,z⟩
  | cont =>
   obtain ⟨σ',H',J,z⟩:=q;exact ⟨σ',H',J.untryx I.ok,z⟩
  | ret u =>
   obtain ⟨v,σ',H',J,r,z⟩:=q;exact ⟨v,σ',H',J.untryx I.ok,r,z⟩
end L2
namespace K94
open PySem L2
def a4S (i:Nat):Stmt->Stmt
 | .ClassDef _ _ _ b ..=>b.getD i (.Pass ⟨0,0,0,0⟩)
 | s=>s
abbrev a7o:Stmt:=a4S 0 (top 118)
abbrev a7p:Stmt:=a4S 1 (top 118)
abbrev mPP:Stmt:=a4S 2 (top 118)
abbrev mPW:Stmt:=a4S 3 (top 118)
abbrev a7q:Stmt:=a4S 4 (top 118)
abbrev b3y:Stmt:=a4S 5 (top 118)
abbrev a3n:Stmt:=a4S 6 (top 118)
abbrev mAK:Stmt:=a4S 7 (top 118)
structure DC (K:PySem.W.Frag) (C:Addr):Prop where
 c:Cls K C
 n1:a1l K C "signs"
 n2:a1l K C "prices"
 n3:a1l K C "names"
 n4:a1l K C "weights"
 n5:a1l K C "past"
abbrev a9G (b1 b2 b3 b4 l:Addr):List (Str × V):=[("signs",.ref b1),("prices",.ref b2),("names",.ref b3),("weights",.ref b4),("past",.ref l)]
abbrev Pw:=List Int × List Int
def PwAt (H:Hp) (x:V) (q:Pw):Prop:=∃ t b2 b4,x=.ref t/\H t=some (.tup [.ref b2,.ref b4])/\H b2=some (.tup (q.1.map V.int))/\H b4=some (.tup (q.2.map V.int))
def a2R (C:Addr) (H:Hp) (r l:Addr) (sg nm:List Str) (q:Pw) (hs:List Pw):Prop:=∃ dx b1 b2 b3 b4 xs,H r=some (.ins C dx (a9G b1 b2 b3 b4 l))/\H b1=some (.tup (sg.map V.str))/\H b2=some (.tup (q.1.map V.int))/\H b3=some (.tup (nm.map V.str))/\H b4=some (.tup (q.2.map V.int))/\H l=some (.lst xs)/\Paired (PwAt H) xs hs
def KeT (H H':Hp):Prop:=∀ a xs,H a=some (.tup xs)->H' a=some (.tup xs)
theorem PwAt.ke {H H':Hp} {x:V} {q:Pw} (k:KeT H H') (h:PwAt H x q):PwAt H' x q:=by
 obtain ⟨t,b2,b4,rfl,h1,h2,h3⟩:=h;exact ⟨t,b2,b4,rfl,k _ _ h1,k _ _ h2,k _ _ h3⟩
def K2 (r l:Addr) (H H':Hp):Prop:=∀ a o,a≠r->a≠l->H a=some o->H' a=some o
theorem K2.ke {r l dx:Addr} {C:Addr} {fs:List (Str × V)} {xs:List V} {H H':Hp} (k:K2 r l H H') (hr:H r=some (.ins C dx fs)) (hl:H l=some (.lst xs)):KeT H H':=λa ys h=>k a _ (a0I h hr (by intro z;cases z)) (a0I h hl (by intro z;cases z)) h
theorem K2.of {r l:Addr} {H H':Hp} (s:a0E H H'):K2 r l H H':=λa o _ _ h=>s a o h
theorem a2R.oth {C:Addr} {H H':Hp} {r l r' l' dx:Addr} {fs:List (Str × V)} {ys:List V} {sg nm:List Str} {q:Pw} {hs:List Pw} (h:a2R C H r l sg nm q hs) (k:K2 r' l' H H') (hr:H r'=some (.ins C dx fs)) (hl:H l'=some (.lst ys)) (n1:r≠r') (n2:l≠l'):a2R C H' r l sg nm q hs:=by
 obtain ⟨dx',b1,b2,b3,b4,xs,h0,h1,h2,h3,h4,h5,h6⟩:=h;have ke:=k.ke hr hl;exact ⟨dx',b1,b2,b3,b4,xs,k _ _ n1 (a0I h0 hl (by intro z;cases z)) h0,ke _ _ h1,ke _ _ h2,ke _ _ h3,ke _ _ h4,k _ _ (a0I h5 hr (by intro z;cases z)) n2 h5,Paired.mapP h6 λ_ _ p=>p.ke ke⟩
theorem a2R.same {C:Addr} {H H':Hp} {r l:Addr} {sg nm:List Str} {q:Pw} {hs:List Pw} (s:a0E H H') (h:a2R C H r l sg nm q hs):a2R C H' r l sg nm q hs:=by
 obtain ⟨dx',b1,b2,b3,b4,xs,h0,h1,h2,h3,h4,h5,h6⟩:=h;exact ⟨dx',b1,b2,b3,b4,xs,s _ _ h0,s _ _ h1,s _ _ h2,s _ _ h3,s _ _ h4,s _ _ h5,Paired.mapP h6 λ_ _ p=>p.ke λ_ _ e=>s _ _ e⟩
def am (x:Int):Bool:=decide (1<=x) && decide (x<=(10:Int) ^ (30:Int).toNat)
def In (i:Int) (ns:List Int):Prop:=0<=i/\i < (ns.length:Int)
section
variable {P:Program} {w:World} {K:PySem.W.Frag} {mg:Str->Option Value} {base:Heap} {f:Addr} {fd:FuncData}
def spIx:Sp:=λvs H Q _=>∃ n:Int,vs=[.int n]/\Q (.bl (am n)) H
theorem ok_ix (F:Fun K "is_amount" "is_amount" a5X f fd):a1a P w K mg base CX0 1 f fd ["number"] spIx:=by
 refine F.ok (k:=0) scIs (λvs H Q E h=>?_) (λcdv A outer s H vs Q E hr h=>?_)
 ·obtain ⟨n,rfl,_⟩:=h;rfl
 obtain ⟨n,rfl,q⟩:=h;refine ⟨_,a0h (a0v (a2H a1W a1W a0d (pv 0) (a0m a3j a0d a0d))),?_⟩;refine ⟨_,rfl,_,_,rfl,rfl,_,rfl,?_⟩;unfold am at q;refine a1K (λc=>?_) (λc=>?_)
 ·refine ⟨_,_,rfl,rfl,⟨by decide,by decide,by decide⟩,_,_,rfl,rfl,?_⟩;rw [c,Bool.true_and] at q;exact q
 ·rw [Bool.eq_false_iff.mpr c,Bool.false_and] at q;exact q
def a7r:Sp:=λvs H Q _=>∃ (p:Addr) (ns:List Int) (i:Int),vs=[.ref p,.int i]/\TW H p ns/\In i ns/\Q .non H
theorem scRL:a0u ["prices","letter"] ["prices","letter"] (a0e sRL):=⟨rfl,rfl,rfl,by decide +kernel,rfl,by decide +kernel,by decide +kernel⟩
theorem scRT:a0u ["weights","thing"] ["weights","thing"] (a0e b3u):=⟨rfl,rfl,rfl,by decide +kernel,rfl,by decide +kernel,by decide +kernel⟩
theorem ok_RL (F:Fun K "refuse_letter" "refuse_letter" sRL f fd) (ml:mg "len"=none):a1a P w K mg base CX0 1 f fd ["prices","letter"] a7r:=by
 refine F.ok (k:=0) scRL (λvs H Q E h=>?_) (λcdv A outer s H vs Q E hr h=>?_)
 ·obtain ⟨p,ns,i,rfl,_⟩:=h;rfl
 obtain ⟨p,ns,i,rfl,hp,hi,q⟩:=h;refine ⟨_,a0h (a0J (a1o (a2o a1W a5J a0d (pv 1) (a0t a0r (by rfl) ml PySem.boot_len (a0a (pv 0) (a0f))))) (a0h (a0Z)) (a0x)),?_⟩;refine ⟨_,rfl,_,_,rfl,rfl,_,rfl,?_⟩;rw [decide_eq_true hi.1];refine a4k ⟨_,rfl,p,_,rfl,.inr (SqT.of hp),_,_,rfl,rfl,_,rfl,?_⟩;rw [List.length_map,decide_eq_true hi.2];exact a2v q
theorem ok_RT (F:Fun K "refuse_thing" "refuse_thing" b3u f fd) (ml:mg "len"=none):a1a P w K mg base CX0 1 f fd ["weights","thing"] a7r:=by
 refine F.ok (k:=0) scRT (λvs H Q E h=>?_) (λcdv A outer s H vs Q E hr h=>?_)
 ·obtain ⟨p,ns,i,rfl,_⟩:=h;rfl
 obtain ⟨p,ns,i,rfl,hp,hi,q⟩:=h;refine ⟨_,a0h (a0J (a1o (a2o a1W a5J a0d (pv 1) (a0t a0r (by rfl) ml PySem.boot_len (a0a (pv 0) (a0f))))) (a0h (a0Z)) (a0x)),?_⟩;refine ⟨_,rfl,_,_,rfl,rfl,_,rfl,?_⟩;rw [decide_eq_true hi.1];refine a4k ⟨_,rfl,p,_,rfl,.inr (SqT.of hp),_,_,rfl,rfl,_,rfl,?_⟩;rw [List.length_map,decide_eq_true hi.2];exact a2v q
def a9H:Sp:=λvs H Q _=>∃ (p:Addr) (ns:List Int) (i n:Int),vs=[.ref p,.int i,.int n]/\TW H p ns/\ns.length<=900/\In i ns/\am n=true/\∀ p' H',a0E H H'->TW H' p' (ns.set i.toNat n)->Q (.ref p') H'
theorem scWN:a0u ["numbers","at","number"] ["numbers","at","number"] (a0e sWN):=⟨rfl,rfl,rfl,by decide +kernel,rfl,by decide +kernel,by decide +kernel⟩
theorem ok_WN (F:Fun K "with_number" "with_number" sWN f fd) (G:Fns P w K mg base ["number"] "is_amount" spIx 1):a1a P w K mg base CX0 2 f fd ["numbers","at","number"] a9H:=by
 refine F.ok (k:=1) scWN (λvs H Q E h=>?_) (λcdv A outer s H vs Q E hr h=>?_)
 ·obtain ⟨p,ns,i,n,rfl,_⟩:=h;rfl
 obtain ⟨p,ns,i,n,rfl,hp,l1,hi,c1,q1⟩:=h;refine ⟨_,a0c (a0J (a1o (a1I (a0q G.ok hr (by rfl) G.m G.kp G.b .nil a0D (a0a (pv 2) (a0f))))) (a0h (a0Z)) (a0x))
   (a0h (a0v (a0m a2Z (a0m a2Z (a1s a2Y (pv 0) a1N (a1O (pv 1))) (a1h (a0a (pv 2) (a0f)))) (a1s a2Y (pv 0) (a1O (a0m a0M (pv 1) (a0d))) a1N)))),?_⟩
 refine ⟨_,rfl,n,rfl,_,rfl,?_⟩;obtain ⟨i0,i1⟩:=hi;rw [c1];refine a2v ?_;refine ⟨_,rfl,_,rfl,_,rfl,p,_,rfl,hp,λp1 H1 s1 hp1=>?_⟩;rw [a8h _ _ i0,<-List.map_take] at hp1;refine ⟨_,rfl,(by show 1<=sizeLine;decide),λp2 hp2=>?_⟩;have s2:=a0g hp2 (.tup [.int n]);refine ⟨p1,p2,_,_,rfl,rfl,s2 _ _ hp1,a0b,small (by rw [List.length_map,List.length_take];show min _ _+1<=1000;omega),λp3 H3 s3 hp3=>?_⟩;refine ⟨_,rfl,_,rfl,_,_,rfl,rfl,_,rfl,p,_,rfl,s3 _ _ (s2 _ _ (s1 _ _ hp)),λp4 H4 s4 hp4=>?_⟩;rw [a4H _ _ (by omega),<-List.map_drop] at hp4;refine ⟨p3,p4,_,_,rfl,rfl,s4 _ _ hp3,hp4,small (by rw [List.length_append,List.length_map,List.length_map,List.length_take,List.length_drop];show min _ _+1+_<=1000;omega),λp5 H5 s5 hp5=>?_⟩;refine q1 p5 H5 ((((s1.trans s2).trans s3).trans s4).trans s5) ?_;show H5 p5=_;have e:(i+1).toNat=i.toNat+1:=by omega
 rw [hp5,List.set_eq_take_append_cons_drop,if_pos (by omega),e,List.map_append,List.map_cons,List.append_assoc];rfl
theorem scPM:a0u ["prices","letter","number"] ["prices","letter","number"] (a0e sPM):=⟨rfl,rfl,rfl,by decide +kernel,rfl,by decide +kernel,by decide +kernel⟩
theorem scWM:a0u ["weights","thing","number"] ["weights","thing","number"] (a0e sWM):=⟨rfl,rfl,rfl,by decide +kernel,rfl,by decide +kernel,by decide +kernel⟩
theorem ok_PM (F:Fun K "price_moved" "price_moved" sPM f fd) (GR:Fns P w K mg base ["prices","letter"] "refuse_letter" a7r 2) (GW:Fns P w K mg base ["numbers","at","number"] "with_number" a9H 2):a1a P w K mg base CX0 3 f fd ["prices","letter","number"] a9H:=by
 refine F.ok (k:=2) scPM (λvs H Q E h=>?_) (λcdv A outer s H vs Q E hr h=>?_)
 ·obtain ⟨p,ns,i,n,rfl,_⟩:=h;rfl
 obtain ⟨p,ns,i,n,rfl,hp,l1,hi,c,q⟩:=h;refine ⟨_,a0c (a1f (a0q GR.ok hr (by rfl) GR.m GR.kp GR.b .nil a0D (a0a (pv 0) (a0a (pv 1) (a0f)))))
   (a0h (a0v (a0q GW.ok hr (by rfl) GW.m GW.kp GW.b .nil a0D (a0a (pv 0) (a0a (pv 1) (a0a (pv 2) (a0f))))))),?_⟩
 exact ⟨_,rfl,_,rfl,p,ns,i,rfl,hp,hi,_,rfl,_,rfl,_,rfl,p,ns,i,n,rfl,hp,l1,hi,c,q⟩
theorem ok_WM (F:Fun K "weight_moved" "weight_moved" sWM f fd) (GR:Fns P w K mg base ["weights","thing"] "refuse_thing" a7r 2) (GW:Fns P w K mg base ["numbers","at","number"] "with_number" a9H 2):a1a P w K mg base CX0 3 f fd ["weights","thing","number"] a9H:=by
 refine F.ok (k:=2) scWM (λvs H Q E h=>?_) (λcdv A outer s H vs Q E hr h=>?_)
 ·obtain ⟨p,ns,i,n,rfl,_⟩:=h;rfl
 obtain ⟨p,ns,i,n,rfl,hp,l1,hi,c,q⟩:=h;refine ⟨_,a0c (a1f (a0q GR.ok hr (by rfl) GR.m GR.kp GR.b .nil a0D (a0a (pv 0) (a0a (pv 1) (a0f)))))
   (a0h (a0v (a0q GW.ok hr (by rfl) GW.m GW.kp GW.b .nil a0D (a0a (pv 0) (a0a (pv 1) (a0a (pv 2) (a0f))))))),?_⟩
 exact ⟨_,rfl,_,rfl,p,ns,i,rfl,hp,hi,_,rfl,_,rfl,_,rfl,p,ns,i,n,rfl,hp,l1,hi,c,q⟩
abbrev NDi:List Str:=["self","text","told"]
def spDi (C:Addr):Sp:=λvs H Q _=>∃ (r dx:Addr) (sg nm:List Str) (q:Pw),vs=[.ref r,.str (a3s sg q.1 nm q.2)]/\H r=some (.ins C dx [])/\Bk sg q.1 nm q.2 /\
 ∀ (l:Addr) H',(∀ a o,a≠r->H a=some o->H' a=some o)->H l=none->a2R C H' r l sg nm q []->Q .non H'
theorem scDi:a0u NDi ["self","text"] (a0e a7o):=⟨rfl,rfl,rfl,by decide +kernel,rfl,by decide +kernel,by decide +kernel⟩
theorem ok_di {C:Addr} (F:Fun K "__init__" "Desk.__init__" a7o f fd) (dc:DC K C) (GR:Fns P w K mg base ["text"] "read_book" spRb 4):a1a P w K mg base CX0 5 f fd ["self","text"] (spDi C):=by
 refine F.ok (k:=4) scDi (λvs H Q E h=>?_) (λcdv A outer s H vs Q E hr h=>?_)
 ·obtain ⟨r,dx,sg,nm,q,rfl,_⟩:=h;rfl
 obtain ⟨r,dx,sg,nm,q,rfl,hr0,B,qb⟩:=h;refine ⟨_,a0c (a0z (i:=2) scDi.nd rfl (Or.inl rfl) (a0q GR.ok hr (by rfl) GR.m GR.kp GR.b .nil a0D (a0a (pv 1) (a0f))))
   (a0c (a1w (pv 0) (a0n a0C (pv 2) (a0d) (λ_ _=>rfl)) rfl)
   (a0c (a1w (pv 0) (a0n a0C (pv 2) (a0d) (λ_ _=>rfl)) rfl)
   (a0c (a1w (pv 0) (a0n a0C (pv 2) (a0d) (λ_ _=>rfl)) rfl)
   (a0c (a1w (pv 0) (a0n a0C (pv 2) (a0d) (λ_ _=>rfl)) rfl)
   (a0h (a1w (pv 0) (a0W (a0f)) rfl)))))),?_⟩
 refine ⟨_,rfl,sg,q.1,nm,q.2,rfl,B,λp H1 s1 bk=>?_⟩;obtain ⟨b1,b2,b3,b4,h0,h1,h2,h3,h4⟩:=bk;have hr1:=s1 _ _ hr0;have up:∀ {H':Hp} {fs gs:List (Str × V)},H' r=some (.ins C dx fs)->KeT H' (upd H' r (.ins C dx gs)):=λhr' a xs ha=>by
  rw [a0j (a0I ha hr' (by intro z;cases z))];exact ha
 have i0:atI [V.ref b1,.ref b2,.ref b3,.ref b4] 0=some (.ref b1):=rfl;have i1:atI [V.ref b1,.ref b2,.ref b3,.ref b4] 1=some (.ref b2):=rfl;have i2:atI [V.ref b1,.ref b2,.ref b3,.ref b4] 2=some (.ref b3):=rfl;have i3:atI [V.ref b1,.ref b2,.ref b3,.ref b4] 3=some (.ref b4):=rfl;have st:∀ {H':Hp} {fs:List (Str × V)} (gs:List (Str × V)),KeT H1 H'->(∀ a o,a≠r->H a=some o->H' a=some o)->H' r=some (.ins C dx fs)->KeT H1 (upd H' r (.ins C dx gs))/\(∀ a o,a≠r->H a=some o->upd H' r (.ins C dx gs) a=some o)/\upd H' r (.ins C dx gs) r=some (.ins C dx gs):=λgs k kp hr'=>⟨λa xs e=>up hr' _ _ (k _ _ e),λa o ne ho=>by rw [a0j ne];exact kp a o ne ho,a0b⟩
 refine ⟨_,rfl,p,_,_,_,rfl,rfl,SqT.of h0,i0,_,rfl,r,C,dx,_,rfl,hr1,dc.c,dc.n1,(by show 0 < 1000;decide),?_⟩;obtain ⟨t1,k1,hs1⟩:=st (a1x "signs" (.ref b1) []) (λ_ _ e=>e) (λa o ne ho=>s1 _ _ ho) hr1;generalize upd H1 r (.ins C dx (a1x "signs" (.ref b1) []))=H2 at t1 k1 hs1 ⊢;refine ⟨_,rfl,p,_,_,_,rfl,rfl,SqT.of (t1 _ _ h0),i1,_,rfl,r,C,dx,_,rfl,hs1,dc.c,dc.n2,(by show 1 < 1000;decide),?_⟩;obtain ⟨t2,k2,hs2⟩:=st (a1x "prices" (.ref b2) (a1x "signs" (.ref b1) [])) t1 k1 hs1;generalize upd H2 r (.ins C dx (a1x "prices" (.ref b2) (a1x "signs" (.ref b1) [])))=H3 at t2 k2 hs2 ⊢;refine ⟨_,rfl,p,_,_,_,rfl,rfl,SqT.of (t2 _ _ h0),i2,_,rfl,r,C,dx,_,rfl,hs2,dc.c,dc.n3,(by show 2 < 1000;decide),?_⟩;obtain ⟨t3,k3,hs3⟩:=st (a1x "names" (.ref b3) (a1x "prices" (.ref b2) (a1x "signs" (.ref b1) []))) t2 k2 hs2;generalize upd H3 r (.ins C dx (a1x "names" (.ref b3) (a1x "prices" (.ref b2) (a1x "signs" (.ref b1) []))))=H4 at t3 k3 hs3 ⊢;refine ⟨_,rfl,p,_,_,_,rfl,rfl,SqT.of (t3 _ _ h0),i3,_,rfl,r,C,dx,_,rfl,hs3,dc.c,dc.n4,(by show 3 < 1000;decide),?_⟩;obtain ⟨t4,k4,hs4⟩:=st (a1x "weights" (.ref b4) (a1x "names" (.ref b3) (a1x "prices" (.ref b2) (a1x "signs" (.ref b1) [])))) t3 k3 hs3;generalize upd H4 r (.ins C dx (a1x "weights" (.ref b4) (a1x "names" (.ref b3) (a1x "prices" (.ref b2) (a1x "signs" (.ref b1) [])))))=H5 at t4 k4 hs4 ⊢;refine ⟨(by show 0<=sizeLine;decide),λl hl=>?_⟩;have sl:=a0g hl (.lst []);have rl:l≠r:=λe=>by rw [e,hs4] at hl;cases hl
 refine ⟨_,rfl,r,C,dx,_,rfl,sl _ _ hs4,dc.c,dc.n5,(by show 4 < 1000;decide),?_⟩;have u:∀ {a:Addr} {xs:List V},H1 a=some (.tup xs)->upd (upd H5 l (.lst [])) r (.ins C dx (a1x "past" (.ref l) (a1x "weights" (.ref b4) (a1x "names" (.ref b3) (a1x "prices" (.ref b2) (a1x "signs" (.ref b1) [])))))) a=some (.tup xs):=λha=>up (sl _ _ hs4) _ _ (sl _ _ (t4 _ _ ha));have ln:H l=none:=by
  cases e:H l with
  | none=>rfl
  | some o=>have:=k4 l o rl e;rw [hl] at this;cases this
 exact qb l _ (λa o ne ho=>by rw [a0j ne];exact sl _ _ (k4 a o ne ho)) ln ⟨dx,b1,b2,b3,b4,[],a0b,u h1,u h2,u h3,u h4,by rw [a0j rl,a0b],.nil⟩
def spDb (C:Addr):Sp:=λvs H Q _=>∃ (r l:Addr) (sg nm:List Str) (q:Pw) (hs:List Pw),vs=[.ref r]/\a2R C H r l sg nm q hs/\Bk sg q.1 nm q.2/\∀ H',a0E H H'->Q (.str (a3s sg q.1 nm q.2)) H'
theorem scDb:a0u ["self"] ["self"] (a0e a7p):=⟨rfl,rfl,rfl,by decide +kernel,rfl,by decide +kernel,by decide +kernel⟩
theorem ok_db {C:Addr} (F:Fun K "book" "Desk.book" a7p f fd) (dc:DC K C) (GB:Fns P w K mg base PBT "book_text" spBT 1):a1a P w K mg base CX0 2 f fd ["self"] (spDb C):=by
 refine F.ok (k:=1) scDb (λvs H Q E h=>?_) (λcdv A outer s H vs Q E hr h=>?_)
 ·obtain ⟨r,l,sg,nm,q,hs,rfl,_⟩:=h;rfl
 obtain ⟨r,l,sg,nm,q,hs,rfl,⟨dx,b1,b2,b3,b4,xs,h0,h1,h2,h3,h4,_⟩,B,qq⟩:=h;refine ⟨_,a0h (a0v (a0q GB.ok hr (by rfl) GB.m GB.kp GB.b .nil a0D (a0a (a0F (pv 0) rfl) (a0a (a0F (pv 0) rfl) (a0a (a0F (pv 0) rfl) (a0a (a0F (pv 0) rfl) (a0f))))))),?_⟩;exact ⟨_,rfl,r,C,dx,_,_,rfl,h0,dc.c,dc.n1,rfl,_,rfl,r,C,dx,_,_,rfl,h0,dc.c,dc.n2,rfl,_,rfl,r,C,dx,_,_,rfl,h0,dc.c,dc.n3,rfl,_,rfl,r,C,dx,_,_,rfl,h0,dc.c,dc.n4,rfl,b1,b2,b3,b4,sg,q.1,nm,q.2,rfl,h1,h2,h3,h4,B,qq⟩
theorem b1w {z:Str} {zs:List Str} {ns:List Int} (h:z∈zs) (e:zs.length=ns.length):In ((zs.idxOf z:Nat):Int) ns:=⟨Int.natCast_nonneg _,by have:=List.idxOf_lt_length_of_mem h;omega⟩
abbrev NPP:List Str:=["self","sign","price"]
abbrev NPW:List Str:=["self","name","weight"]
def mvd (b:Bool) (sg nm:List Str) (q:Pw) (z:Str) (n:Int):Pw:=if b then (q.1.set (sg.idxOf z) n,q.2) else (q.1,q.2.set (nm.idxOf z) n)
def a4n (b:Bool) (C CN CP:Addr):Sp:=λvs H Q E=>∃ (r l:Addr) (sg nm:List Str) (q:Pw) (hs:List Pw) (z:Str) (n:Int),vs=[.ref r,.str z,.int n]/\a2R C H r l sg nm q hs/\hs.length<=900/\sg.length=q.1.length/\nm.length=q.2.length/\q.1.length<=900/\q.2.length<=900 /\
 (z∉(if b then sg else nm)->E (.ref CN) none H)/\(z∈(if b then sg else nm)->am n=false->E (.ref CP) none H)/\(z∈(if b then sg else nm)->am n=true->∀ H',K2 r l H H'->a2R C H' r l sg nm (mvd b sg nm q z n) (hs++[q])->Q .non H')
theorem scPP:a0u NPP NPP (a0e mPP):=⟨rfl,rfl,rfl,by decide +kernel,rfl,by decide +kernel,by decide +kernel⟩
theorem scPW:a0u NPW NPW (a0e mPW):=⟨rfl,rfl,rfl,by decide +kernel,rfl,by decide +kernel,by decide +kernel⟩
theorem a1C {b:Bool} (h:¬ (!b)=true):b=true:=by cases b;exact absurd rfl h;rfl
theorem a1j {b:Bool} (h:(!b)=true):b=false:=by cases b;rfl;cases h
theorem a8R {C:Addr} {H H2 H3:Hp} {r l dx b1 b2 b3 b4 t b2' b4':Addr} {xs:List V} {sg nm:List Str} {q q':Pw} {hs:List Pw} {fs:List (Str × V)} (hn:H t=none) (h0:H r=some (.ins C dx (a9G b1 b2 b3 b4 l))) (h1:H b1=some (.tup (sg.map V.str))) (h2:H b2=some (.tup (q.1.map V.int))) (h3:H b3=some (.tup (nm.map V.str))) (h4:H b4=some (.tup (q.2.map V.int))) (h5:H l=some (.lst xs)) (h6:Paired (PwAt H) xs hs)
  (e2:H2=upd (upd H t (.tup [.ref b2,.ref b4])) l (.lst (xs++[.ref t]))) (s3:a0E H2 H3) (g2:H3 b2'=some (.tup (q'.1.map V.int))) (g4:H3 b4'=some (.tup (q'.2.map V.int))):K2 r l H (upd H3 r (.ins C dx (a9G b1 b2' b3 b4' l)))/\a2R C (upd H3 r (.ins C dx (a9G b1 b2' b3 b4' l))) r l sg nm q' (hs++[q]):=by
 have tl:t≠l:=λe=>by rw [e,h5] at hn;cases hn
 have tr:t≠r:=λe=>by rw [e,h0] at hn;cases hn
 have rl:r≠l:=a0I h0 h5 (by intro z;cases z);have k1:∀ a o,a≠l->H a=some o->H2 a=some o:=λa o na ha=>by
  rw [e2,a0j na,a0j (λe=>by rw [e,hn] at ha;cases ha)];exact ha
 have k2:K2 r l H (upd H3 r (.ins C dx (a9G b1 b2' b3 b4' l))):=λa o na nl ha=>by rw [a0j na];exact s3 _ _ (k1 a o nl ha)
 have ke:=k2.ke h0 h5;have hr3:H3 r=some (.ins C dx (a9G b1 b2 b3 b4 l)):=s3 _ _ (k1 r _ rl h0);have kt:KeT H3 (upd H3 r (.ins C dx (a9G b1 b2' b3 b4' l))):=λa ys ha=>by rw [a0j (a0I ha hr3 (by intro z;cases z))];exact ha
 refine ⟨k2,dx,b1,b2',b3,b4',xs++[.ref t],a0b,ke _ _ h1,kt _ _ g2,ke _ _ h3,kt _ _ g4,?_,Paired.appendP (Paired.mapP h6 λ_ _ p=>p.ke ke) (.cons ⟨t,b2,b4,rfl,?_,ke _ _ h2,ke _ _ h4⟩ .nil)⟩
 ·rw [a0j (Ne.symm rl)];refine s3 _ _ ?_;rw [e2,a0b]
 ·rw [a0j tr];refine s3 _ _ ?_;rw [e2,a0j tl,a0b]
theorem ok_pp {C CN CP:Addr} (F:Fun K "put_price" "Desk.put_price" mPP f fd) (dc:DC K C) (GI:Fns P w K mg base ["number"] "is_amount" spIx 3) (GM:Fns P w K mg base ["prices","letter","number"] "price_moved" a9H 3) (mN:mg "BadName"=some (.ref CN)) (eN:Ecl K CN) (mP:mg "BadPrices"=some (.ref CP)) (eP:Ecl K CP):a1a P w K mg base (CXF P w) 4 f fd NPP (a4n true C CN CP):=by
 refine F.okF (k:=3) scPP (λvs H Q E h=>?_) (λcdv A outer s H vs Q E hr h=>?_)
 ·obtain ⟨r,l,sg,nm,q,hs,z,n,rfl,_⟩:=h;rfl
 obtain ⟨r,l,sg,nm,q,hs,z,n,rfl,⟨dx,b1,b2,b3,b4,xs,h0,h1,h2,h3,h4,h5,h6⟩,h9,e1,e2,p9,w9,qn,qp,qq⟩:=h;refine ⟨_,a0c (a0J (a0y a1p (pv 1) (a0F (pv 0) rfl) rfl) (a0h (a2a a1c rfl (by rfl) mN eN (a0a a0i a0f))) (a0x))
   (a0c (a0J (a1o (a1I (a0q GI.ok hr (by rfl) GI.m GI.kp GI.b .nil a0D (a0a (pv 2) (a0f))))) (a0h (a2a a1c rfl (by rfl) mP eP (a0a a0i a0f))) (a0x))
   (a0c (a1f (a2u PySem.F.plainAttrs_list PySem.F.slot_list_append PySem.F.type_list_append a1e (a0F (pv 0) rfl) (a0a (a1h (a0a (a0F (pv 0) rfl) (a0a (a0F (pv 0) rfl) (a0f)))) (a0f))))
   (a0h (a1w (pv 0) (a0q GM.ok hr (by rfl) GM.m GM.kp GM.b .nil a0D (a0a (a0F (pv 0) rfl) (a0a (a4s PySem.F.slot_tuple_index PySem.F.type_tuple_index (a1V K) (a0F (pv 0) rfl) (a0a (pv 1) (a0f))) (a0a (pv 2) (a0f))))) rfl)))),?_⟩
 refine ⟨_,rfl,_,rfl,r,C,dx,_,_,rfl,h0,dc.c,dc.n1,rfl,b1,_,rfl,.inr (SqT.of h1),rfl,a0S _,_,rfl,?_⟩;rw [a1n,if_pos rfl];rw [if_pos rfl] at qn qp qq;refine a1K (λc=>⟨by decide,qn (of_decide_eq_false (a1j c))⟩) (λc=>?_);have zi:z∈sg:=of_decide_eq_true (a1C c);refine ⟨_,rfl,n,rfl,_,rfl,a1K (λc2=>⟨by decide,qp zi (a1j c2)⟩) (λc2=>?_)⟩;have c2:=a1C c2;refine ⟨_,rfl,r,C,dx,_,_,rfl,h0,dc.c,dc.n5,rfl,.inl ⟨rfl,_,SqL.of h5⟩,_,rfl,r,C,dx,_,_,rfl,h0,dc.c,dc.n2,rfl,_,rfl,r,C,dx,_,_,rfl,h0,dc.c,dc.n4,rfl,(by show 2<=sizeLine;decide),λt ht=>?_⟩;have lt:xs.length=hs.length:=h6.length;have st:=a0g ht (.tup [.ref b2,.ref b4]);have tl:t≠l:=λe=>by rw [e,h5] at ht;cases ht
 refine ⟨l,_,_,rfl,rfl,st _ _ h5,a0p (by omega),?_⟩;have rl:r≠l:=a0I h0 h5 (by intro z;cases z);obtain ⟨H2,eH2⟩:∃ H2,H2=upd (upd H t (.tup [.ref b2,.ref b4])) l (.lst (xs++[.ref t])):=⟨_,rfl⟩
 rw [<-eH2];have k1:∀ a o,a≠l->H a=some o->H2 a=some o:=λa o na ha=>by rw [eH2,a0j na];exact st _ _ ha
 have h0':=k1 _ _ rl h0;have nt:∀ {a:Addr} {ys:List V},H a=some (.tup ys)->a≠l:=λha=>a0I ha h5 (by intro z;cases z);refine ⟨_,rfl,r,C,dx,_,_,rfl,h0',dc.c,dc.n2,rfl,_,rfl,r,C,dx,_,_,rfl,h0',dc.c,dc.n1,rfl,⟨b1,_,rfl,k1 _ _ (nt h1) h1⟩,_,rfl,b1,sg,z,rfl,rfl,SqT.of (k1 _ _ (nt h1) h1),zi,_,rfl,b2,q.1,_,n,rfl,k1 _ _ (nt h2) h2,p9,b1w zi e1,c2,λp' H3 s3 hp'=>?_⟩;obtain ⟨kk,dd⟩:=a8R (q':=mvd true sg nm q z n) (fs:=[]) ht h0 h1 h2 h3 h4 h5 h6 eH2 s3 (b2':=p') (b4':=b4) hp' (s3 _ _ (k1 _ _ (nt h4) h4));exact ⟨_,rfl,r,C,dx,_,rfl,s3 _ _ h0',dc.c,dc.n2,(by show 5 < 1000;decide),qq zi c2 _ kk dd⟩
theorem ok_pw {C CN CP:Addr} (F:Fun K "put_weight" "Desk.put_weight" mPW f fd) (dc:DC K C) (GI:Fns P w K mg base ["number"] "is_amount" spIx 3) (GM:Fns P w K mg base ["weights","thing","number"] "weight_moved" a9H 3) (mN:mg "BadName"=some (.ref CN)) (eN:Ecl K CN) (mP:mg "BadWeights"=some (.ref CP)) (eP:Ecl K CP):a1a P w K mg base (CXF P w) 4 f fd NPW (a4n false C CN CP):=by
 refine F.okF (k:=3) scPW (λvs H Q E h=>?_) (λcdv A outer s H vs Q E hr h=>?_)
 ·obtain ⟨r,l,sg,nm,q,hs,z,n,rfl,_⟩:=h;rfl
 obtain ⟨r,l,sg,nm,q,hs,z,n,rfl,⟨dx,b1,b2,b3,b4,xs,h0,h1,h2,h3,h4,h5,h6⟩,h9,e1,e2,p9,w9,qn,qp,qq⟩:=h;refine ⟨_,a0c (a0J (a0y a1p (pv 1) (a0F (pv 0) rfl) rfl) (a0h (a2a a1c rfl (by rfl) mN eN (a0a a0i a0f))) (a0x))
   (a0c (a0J (a1o (a1I (a0q GI.ok hr (by rfl) GI.m GI.kp GI.b .nil a0D (a0a (pv 2) (a0f))))) (a0h (a2a a1c rfl (by rfl) mP eP (a0a a0i a0f))) (a0x))
   (a0c (a1f (a2u PySem.F.plainAttrs_list PySem.F.slot_list_append PySem.F.type_list_append a1e (a0F (pv 0) rfl) (a0a (a1h (a0a (a0F (pv 0) rfl) (a0a (a0F (pv 0) rfl) (a0f)))) (a0f))))
   (a0h (a1w (pv 0) (a0q GM.ok hr (by rfl) GM.m GM.kp GM.b .nil a0D (a0a (a0F (pv 0) rfl) (a0a (a4s PySem.F.slot_tuple_index PySem.F.type_tuple_index (a1V K) (a0F (pv 0) rfl) (a0a (pv 1) (a0f))) (a0a (pv 2) (a0f))))) rfl)))),?_⟩
 refine ⟨_,rfl,_,rfl,r,C,dx,_,_,rfl,h0,dc.c,dc.n3,rfl,b3,_,rfl,.inr (SqT.of h3),rfl,a0S _,_,rfl,?_⟩;rw [a1n,if_pos rfl];rw [if_neg (by decide)] at qn qp qq;refine a1K (λc=>⟨by decide,qn (of_decide_eq_false (a1j c))⟩) (λc=>?_);have zi:z∈nm:=of_decide_eq_true (a1C c);refine ⟨_,rfl,n,rfl,_,rfl,a1K (λc2=>⟨by decide,qp zi (a1j c2)⟩) (λc2=>?_)⟩;have c2:=a1C c2;refine ⟨_,rfl,r,C,dx,_,_,rfl,h0,dc.c,dc.n5,rfl,.inl ⟨rfl,_,SqL.of h5⟩,_,rfl,r,C,dx,_,_,rfl,h0,dc.c,dc.n2,rfl,_,rfl,r,C,dx,_,_,rfl,h0,dc.c,dc.n4,rfl,(by show 2<=sizeLine;decide),λt ht=>?_⟩;have lt:xs.length=hs.length:=h6.length;have st:=a0g ht (.tup [.ref b2,.ref b4]);have tl:t≠l:=λe=>by rw [e,h5] at ht;cases ht
 refine ⟨l,_,_,rfl,rfl,st _ _ h5,a0p (by omega),?_⟩;have rl:r≠l:=a0I h0 h5 (by intro z;cases z);obtain ⟨H2,eH2⟩:∃ H2,H2=upd (upd H t (.tup [.ref b2,.ref b4])) l (.lst (xs++[.ref t])):=⟨_,rfl⟩
 rw [<-eH2];have k1:∀ a o,a≠l->H a=some o->H2 a=some o:=λa o na ha=>by rw [eH2,a0j na];exact st _ _ ha
 have h0':=k1 _ _ rl h0;have nt:∀ {a:Addr} {ys:List V},H a=some (.tup ys)->a≠l:=λha=>a0I ha h5 (by intro z;cases z);refine ⟨_,rfl,r,C,dx,_,_,rfl,h0',dc.c,dc.n4,rfl,_,rfl,r,C,dx,_,_,rfl,h0',dc.c,dc.n3,rfl,⟨b3,_,rfl,k1 _ _ (nt h3) h3⟩,_,rfl,b3,nm,z,rfl,rfl,SqT.of (k1 _ _ (nt h3) h3),zi,_,rfl,b4,q.2,_,n,rfl,k1 _ _ (nt h4) h4,w9,b1w zi e2,c2,λp' H3 s3 hp'=>?_⟩;obtain ⟨kk,dd⟩:=a8R (q':=mvd false sg nm q z n) (fs:=[]) ht h0 h1 h2 h3 h4 h5 h6 eH2 s3 (b2':=b2) (b4':=p') (s3 _ _ (k1 _ _ (nt h2) h2)) hp';exact ⟨_,rfl,r,C,dx,_,rfl,s3 _ _ h0',dc.c,dc.n4,(by show 5 < 1000;decide),qq zi c2 _ kk dd⟩
abbrev NDk:List Str:=["self","ahead"]
def spDk (C CL:Addr):Sp:=λvs H Q E=>∃ (r l:Addr) (sg nm:List Str) (q:Pw) (hs:List Pw),vs=[.ref r]/\a2R C H r l sg nm q hs/\hs.length<=900 /\
 (hs=[]->E (.ref CL) none H)/\(∀ hs' q',hs=hs'++[q']->∀ H',K2 r l H H'->a2R C H' r l sg nm q' hs'->Q .non H')
theorem scDk:a0u NDk ["self"] (a0e a7q):=⟨rfl,rfl,rfl,by decide +kernel,rfl,by decide +kernel,by decide +kernel⟩
theorem ok_dk {C CL:Addr} (F:Fun K "back" "Desk.back" a7q f fd) (dc:DC K C) (ml:mg "len"=none) (mL:mg "NothingLeft"=some (.ref CL)) (eL:Ecl K CL):a1a P w K mg base (CXF P w) 4 f fd ["self"] (spDk C CL):=by
 refine F.okF (k:=3) scDk (λvs H Q E h=>?_) (λcdv A outer s H vs Q E hr h=>?_)
 ·obtain ⟨r,l,sg,nm,q,hs,rfl,_⟩:=h;rfl
 obtain ⟨r,l,sg,nm,q,hs,rfl,⟨dx,b1,b2,b3,b4,xs,h0,h1,h2,h3,h4,h5,h6⟩,h9,qe,qq⟩:=h;refine ⟨_,a0c (a0J (a0y a1g (a0t a0r (by rfl) ml PySem.boot_len (a0a (a0F (pv 0) rfl) (a0f))) (a0d) (nomark _)) (a0h (a2a a1c rfl (by rfl) mL eL (a0a a0i a0f))) (a0x))
   (a0c (a0z (i:=1) scDk.nd rfl (Or.inl rfl) (a7T PySem.F.plainAttrs_list PySem.F.slot_list_pop PySem.F.type_list_pop a7V (a0F (pv 0) rfl)))
   (a0c (a1w (pv 0) (a0n a0C (pv 1) (a0d) (λ_ _=>rfl)) rfl)
   (a0h (a1w (pv 0) (a0n a0C (pv 1) (a0d) (λ_ _=>rfl)) rfl)))),?_⟩
 have lt:xs.length=hs.length:=h6.length;refine ⟨_,rfl,r,C,dx,_,_,rfl,h0,dc.c,dc.n5,rfl,l,_,rfl,.inl (SqL.of h5),rfl,_,rfl,a1K (λc=>?_) (λc=>?_)⟩
 ·have c:((xs.length:Nat):Int)=0:=V.int.inj (of_decide_eq_true c);exact ⟨by decide,qe (List.eq_nil_of_length_eq_zero (by omega))⟩
 have c:¬ ((xs.length:Nat):Int)=0:=λe=>c (decide_eq_true (congrArg V.int e));obtain ⟨hs',q',rfl⟩:∃ hs' q',hs=hs'++[q']:=by
  rcases List.eq_nil_or_concat hs with e | ⟨a,b,e⟩
  ·rw [e] at lt;exact absurd (by rw [lt];rfl) c
  ·exact ⟨a,b,by rw [e,List.concat_eq_append]⟩
 have ll:xs.length=hs'.length+1:=by rw [lt,List.length_append];rfl
 obtain ⟨y,hy⟩:∃ y,xs[xs.length - 1]?=some y:=⟨_,List.getElem?_eq_getElem (by omega)⟩
 obtain ⟨q2,hq2,t,a2,a4,rfl,g0,g2,g4⟩:=Paired.right_of h6 _ _ hy;have eq2:q2=q':=by
  rw [ll,Nat.add_sub_cancel,List.getElem?_append_right (Nat.le_refl _),Nat.sub_self] at hq2;exact (Option.some.inj hq2).symm
 subst eq2;refine ⟨_,rfl,r,C,dx,_,_,rfl,h0,dc.c,dc.n5,rfl,.inl ⟨rfl,_,SqL.of h5⟩,l,_,_,rfl,rfl,h5,hy,?_⟩;have rl:r≠l:=a0I h0 h5 (by intro z;cases z);have k1:∀ a o,a≠l->H a=some o->upd H l (.lst xs.dropLast) a=some o:=λa o na ha=>by rw [a0j na];exact ha
 have gl:upd H l (.lst xs.dropLast) l=some (.lst xs.dropLast):=a0b;generalize upd H l (.lst xs.dropLast)=H1 at k1 gl ⊢;have nt:∀ {a:Addr} {ys:List V},H a=some (.tup ys)->H1 a=some (.tup ys):=λha=>k1 _ _ (a0I ha h5 (by intro z;cases z)) ha;have h01:=k1 _ _ rl h0;refine ⟨_,rfl,t,_,_,_,rfl,rfl,SqT.of (nt g0),(rfl:atI [V.ref a2,.ref a4] 0=some (.ref a2)),_,rfl,r,C,dx,_,rfl,h01,dc.c,dc.n2,(by show 5 < 1000;decide),?_⟩;have up:∀ {H':Hp} {fs gs:List (Str × V)},H' r=some (.ins C dx fs)->KeT H' (upd H' r (.ins C dx gs)):=λhr' a xs ha=>by
  rw [a0j (a0I ha hr' (by intro z;cases z))];exact ha
 have gt:upd H1 r (.ins C dx (a1x "prices" (.ref a2) (a9G b1 b2 b3 b4 l))) t=some (.tup [.ref a2,.ref a4]):=up h01 _ _ (nt g0);refine ⟨_,rfl,t,_,_,_,rfl,rfl,SqT.of gt,(rfl:atI [V.ref a2,.ref a4] 1=some (.ref a4)),_,rfl,r,C,dx,_,rfl,a0b,dc.c,dc.n4,(by show 5 < 1000;decide),?_⟩;have kk:K2 r l H (upd (upd H1 r (.ins C dx (a1x "prices" (.ref a2) (a9G b1 b2 b3 b4 l)))) r (.ins C dx (a1x "weights" (.ref a4) (a1x "prices" (.ref a2) (a9G b1 b2 b3 b4 l))))):=λa o na nl ha=>by rw [a0j na,a0j na];exact k1 a o nl ha
 have ke:=kk.ke h0 h5;refine qq hs' q2 rfl _ kk ⟨dx,b1,a2,b3,a4,xs.dropLast,a0b,ke _ _ h1,ke _ _ g2,ke _ _ h3,ke _ _ g4,by rw [a0j (Ne.symm rl),a0j (Ne.symm rl)];exact gl,?_⟩;have:=Paired.mapP h6 λ_ _ p=>p.ke ke;have:=Paired.takeP hs'.length this;rw [List.take_left] at this;rw [List.dropLast_eq_take,ll,Nat.add_sub_cancel];exact this
end
theorem b1x {X:Cx} (K:PySem.W.Frag) (hK:X.K=K:=by rfl):OpR X (compareOp .In) (rIn K false):=by subst hK;exact a1z
theorem a8S {X:Cx} (K:PySem.W.Frag) {e:Expr} {f:Str} {pos:Pos} {ta:TE} (he:PE X e ta) (hb:attributeBase e f X.env (eval e X.env)=eval e X.env) (hK:X.K=K:=by rfl):PE X (.Attribute e f pos) (tFld K ta f):=by subst hK;exact a0F he hb
def alone:List Str:=[Str.ofString "cost",Str.ofString "many",Str.ofString "free"]
def wnum:List Str:=[Str.ofString "code",Str.ofString "bounded"]
def wword:List Str:=[Str.ofString "sure",Str.ofString "price",Str.ofString "weight",Str.ofString "read"]
def a3o:Str:=Str.ofString "write"
def a6D:Str:=Str.ofString "price"
def b0E:Str:=Str.ofString "read"
structure Wc (K:PySem.W.Frag) (mg:Str->Option Value) (a1 a2 a3:Addr):Prop where
 g1:mg "ALONE"=some (.ref a1)
 g2:mg "WITH_NUMBER"=some (.ref a2)
 g3:mg "WITH_WORD"=some (.ref a3)
 s1:∀ H,SqT K H a1 (alone.map V.str)
 s2:∀ H,SqT K H a2 (wnum.map V.str)
 s3:∀ H,SqT K H a3 (wword.map V.str)
def full (W:List Str):Bool:=W.all λz=>decide (z.length > 0)
def isQ (W:List Str):Bool:=full W && match W with
 | []=>false
 | [a]=>decide (a∈alone)
 | a :: b :: r=>decide (a=a3o) || (r.isEmpty && (decide (a∈wword) || (decide (a∈wnum) && nuB b)))
def kn (sg nm:List Str) (W:List Str):Bool:=match W with
 | []=>true
 | a :: r=>if a=a6D then decide (r.headD Str.empty∈sg) else if a=b0E then (r.headD Str.empty).cps.toList.all λc=>decide ((⟨#[c]⟩:Str)∈sg) else if a∈wnum then true else r.all λz=>decide (z∈nm)
def Wo (W:List Str):Prop:=1<=W.length/\W.length<=900/\∀ z∈W,Asc z/\z.length<=900
section
variable {P:Program} {w:World} {K:PySem.W.Frag} {mg:Str->Option Value} {base:Heap} {f:Addr} {fd:FuncData}
abbrev NIq:List Str:=["words"]
def spIq:Sp:=λvs H Q _=>∃ (a:Addr) (W:List Str),vs=[.ref a]/\H a=some (.lst (W.map V.str))/\Wo W/\∀ H',a0E H H'->Q (.bl (isQ W)) H'
theorem scIq:a0u NIq NIq (a0e b2F):=⟨rfl,rfl,rfl,by decide +kernel,rfl,by decide +kernel,by decide +kernel⟩
theorem ndIq:(("word":Str) :: NIq).Nodup:=by decide +kernel
theorem b1y {a b:Int}:decide (V.int a=V.int b)=decide (a=b):=decide_eq_decide.mpr ⟨V.int.inj,congrArg _⟩
theorem a3V {a b:Str}:decide (V.str a=V.str b)=decide (a=b):=decide_eq_decide.mpr ⟨V.str.inj,congrArg _⟩
theorem a1t {W:List Str} {j:Nat} {z:Str} (h:W[j]?=some z):atI (W.map V.str) (j:Int)=some (.str z):=a1G (by rw [List.getElem?_map,h];rfl)
theorem ok_iq {a1 a2 a3:Addr} (F:Fun K "is_question" "is_question" b2F f fd) (wc:Wc K mg a1 a2 a3) (GN:Fns P w K mg base NNu "is_number" spNx 1) (ml:mg "len"=none) (ma:mg "all"=none):a1a P w K mg base CX0 2 f fd NIq spIq:=by
 refine F.ok (k:=1) scIq (λvs H Q E h=>?_) (λcdv A outer s H vs Q E hr h=>?_)
 ·obtain ⟨a,W,rfl,_⟩:=h;rfl
 obtain ⟨a,W,rfl,ha,⟨w1,w9,wz⟩,qq⟩:=h;refine ⟨_,a0c (a0J (a1o (a1I (a0t (a1Z rfl) (by rfl) ma a5R (a0a (a1y (M:=NIq) rfl (a0l.of (a0e b2F) NIq rfl rfl rfl (by decide +kernel) (by decide +kernel) (by decide +kernel) rfl (by decide +kernel)) ndIq rfl (pv 0) a0R (λcl C s0 H0 fp=>⟨a0L,a0Y a5K (a0t a1A (by rfl) ml PySem.boot_len (a0a (pv 0) (a0f))) a0d (nomark _)⟩)) (a0f))))) (a0h (a0v a3A)) (a0x))
   (a0c (a0J (a0y a1g (a0t a0r (by rfl) ml PySem.boot_len (a0a (pv 0) (a0f))) (a0d) (nomark _)) (a0h (a0v (a0Y a1z (a0n a0k (pv 0) (a0d) (λ_ _=>rfl)) (a1L (v:=.ref a1) (by rfl) wc.g1 rfl) rfl))) (a0x))
   (a0c (a0J (a0y a1g (a0n a0k (pv 0) (a0d) (λ_ _=>rfl)) (a0i) (nomark _)) (a0h (a0v a3A)) (a0x))
   (a0c (a0J (a0y a5K (a0t a0r (by rfl) ml PySem.boot_len (a0a (pv 0) (a0f))) (a0d) (nomark _)) (a0h (a0v a3A)) (a0x))
   (a0h (a0v (b1V (a0Y a1z (a0n a0k (pv 0) (a0d) (λ_ _=>rfl)) (a1L (v:=.ref a3) (by rfl) wc.g3 rfl) rfl) (a2F (a2w (a0Y a1z (a0n a0k (pv 0) (a0d) (λ_ _=>rfl)) (a1L (v:=.ref a2) (by rfl) wc.g2 rfl) rfl) (a2F (a0q GN.ok hr (by rfl) GN.m GN.kp GN.b .nil a0D (a0a (a0n a0k (pv 0) (a0d) (λ_ _=>rfl)) (a0f)))))))))))),?_⟩
 refine ⟨_,rfl,a,_,rfl,SqL.of ha,λd hd=>?_⟩;refine ⟨λi H'=>a0E H H'/\H' d=some (.lst (((W.take i).map λz=>decide (z.length > 0)).map V.bl)),⟨a0g hd _,a0b⟩,λi H' _ hP=>SqL.of (hP.1 _ _ ha),λi x H' hx hP=>?_,λH' hP=>?_⟩
 ·obtain ⟨s5,hz⟩:=hP;rw [List.getElem?_map] at hx;obtain ⟨z,hz',rfl⟩:=Option.map_eq_some_iff.mp hx;have il:=(List.getElem?_eq_some_iff.mp hz').1;have:=(wz z (List.mem_of_getElem? hz')).2;refine a0G ⟨_,rfl,z,rfl,a3t (by omega),_,_,rfl,rfl,_,hz,?_,a0w hd s5,?_⟩
  ·rw [List.length_map,List.length_map,List.length_take];exact lt5 (by omega)
  ·rw [a0b,List.take_add_one,hz',List.map_append,List.map_append];refine congrArg (λb=>some (HO.lst (_++[V.bl b]))) (decide_eq_decide.mpr ?_);omega
 obtain ⟨s5,hz⟩:=hP;rw [List.length_map,List.take_length] at hz;refine ⟨d,_,rfl,hz,_,rfl,?_⟩;have ef:(W.map λz=>decide (z.length > 0)).all id=full W:=by rw [List.all_map];rfl
 rw [ef];unfold isQ at qq;cases hf:full W with
 | false =>
  rw [hf,Bool.false_and] at qq;exact a4k (qq H' s5)
 | true =>
 rw [hf,Bool.true_and] at qq;refine a2v ?_;have ha':=s5 _ _ ha;refine ⟨_,rfl,a,_,rfl,.inl (SqL.of ha'),rfl,_,rfl,?_⟩;rw [List.length_map,b1y];obtain ⟨z,r,rfl⟩:∃ z r,W=z :: r:=by
  cases W with
  | nil=>exact absurd w1 (by decide)
  | cons z r=>exact ⟨z,r,rfl⟩
 cases r with
 | nil =>
  refine a4k ⟨_,rfl,a,_,_,_,rfl,rfl,SqL.of ha',(a1t (j:=0) rfl),a1,_,rfl,.inr (wc.s1 _),rfl,a0S _,?_⟩;rw [if_neg (by decide),a1n];exact qq H' s5
 | cons b r =>
 have n1:¬ (((z :: b :: r).length:Nat):Int)=1:=by rw [List.length_cons,List.length_cons];omega
 rw [decide_eq_false n1];refine a2v ?_;refine ⟨_,rfl,a,_,_,_,rfl,rfl,SqL.of ha',(a1t (j:=0) rfl),rfl,_,rfl,?_⟩;rw [a3V];refine a1K (λc=>?_) (λc=>?_)
 ·have c:=of_decide_eq_true c;have qq:=qq H' s5;dsimp only at qq;rw [decide_eq_true (show z=a3o from c),Bool.true_or] at qq;exact qq
 have c:=of_decide_eq_false (Bool.eq_false_iff.mpr c);dsimp only at qq;rw [decide_eq_false (show ¬ z=a3o from c),Bool.false_or] at qq;refine ⟨_,rfl,a,_,rfl,.inl (SqL.of ha'),_,_,rfl,rfl,_,rfl,?_⟩;rw [List.length_map];cases r with
 | cons x r =>
  have n2:(((z :: b :: x :: r).length:Nat):Int) > 2:=by rw [List.length_cons,List.length_cons,List.length_cons];omega
  rw [decide_eq_true n2];exact a4k (qq H' s5)
 | nil =>
 refine a2v ?_;refine ⟨_,rfl,a,_,_,_,rfl,rfl,SqL.of ha',(a1t (j:=0) rfl),a3,_,rfl,.inr (wc.s3 _),rfl,a0S _,?_⟩;rw [if_neg (by decide),a1n];have qq:∀ H',a0E H H'->Q (.bl (decide (z∈wword) || (decide (z∈wnum) && nuB b))) H':=qq;refine ⟨_,rfl,a1K (λc=>?_) (λc=>?_)⟩
 ·rw [c,Bool.true_or] at qq;exact qq H' s5
 rw [Bool.eq_false_iff.mpr c,Bool.false_or] at qq;refine ⟨_,rfl,a,_,_,_,rfl,rfl,SqL.of ha',(a1t (j:=0) rfl),a2,_,rfl,.inr (wc.s2 _),rfl,a0S _,?_⟩;rw [if_neg (by decide),a1n];refine ⟨_,rfl,a1K (λc2=>?_) (λc2=>?_)⟩
 ·rw [c2,Bool.true_and] at qq;have:=wz b (.tail _ (.head _));exact ⟨_,rfl,a,_,_,_,rfl,rfl,SqL.of ha',(a1t (j:=1) rfl),b,rfl,this.1,by omega,λH2 s2=>qq H2 (s5.trans s2)⟩
 ·rw [Bool.eq_false_iff.mpr c2,Bool.false_and] at qq;exact qq H' s5
abbrev NKw:List Str:=["self","words"]
def spKw (C:Addr):Sp:=λvs H Q _=>∃ (r l a:Addr) (sg nm:List Str) (q:Pw) (hs:List Pw) (W:List Str),vs=[.ref r,.ref a]/\a2R C H r l sg nm q hs/\H a=some (.lst (W.map V.str))/\Wo W/\isQ W=true/\∀ H',a0E H H'->Q (.bl (kn sg nm W)) H'
theorem scKw:a0u NKw NKw (a0e a3n):=⟨rfl,rfl,rfl,by decide +kernel,rfl,by decide +kernel,by decide +kernel⟩
theorem ndKw1:(("sign":Str) :: NKw).Nodup:=by decide +kernel
theorem ndKw2:(("name":Str) :: NKw).Nodup:=by decide +kernel
theorem a8T {z:Str} {r:List Str} (h:isQ (z :: r)=true) (e:z=a6D\/z=b0E):∃ b r',r=b :: r':=by
 cases r with
 | cons b r=>exact ⟨b,r,rfl⟩
 | nil =>
  exfalso;unfold isQ at h;have h2:=(Bool.and_eq_true _ _ |>.mp h).2;have h3:z∈alone:=of_decide_eq_true h2;rcases e with e | e
  ·rw [e] at h3;exact absurd h3 (by decide +kernel)
  ·rw [e] at h3;exact absurd h3 (by decide +kernel)
theorem ok_kw {C a1 a2 a3:Addr} (F:Fun K "knows" "Desk.knows" a3n f fd) (dc:DC K C) (wc:Wc K mg a1 a2 a3) (ma:mg "all"=none):a1a P w K mg base CX0 1 f fd NKw (spKw C):=by
 refine F.ok (k:=0) scKw (λvs H Q E h=>?_) (λcdv A outer s H vs Q E hr h=>?_)
 ·obtain ⟨r,l,a,sg,nm,q,hs,W,rfl,_⟩:=h;rfl
 obtain ⟨r,l,a,sg,nm,q,hs,W,rfl,⟨dx,b1,b2,b3,b4,xs,h0,h1,h2,h3,h4,h5,h6⟩,ha,⟨w1,w9,wz⟩,hq,qq⟩:=h;refine ⟨_,a0c (a0J (a0y a1g (a0n a0k (pv 1) (a0d) (λ_ _=>rfl)) (a0i) (nomark _)) (a0h (a0v (a0Y a1z (a0n a0k (pv 1) (a0d) (λ_ _=>rfl)) (a0F (pv 0) rfl) rfl))) (a0x))
   (a0c (a0J (a0y a1g (a0n a0k (pv 1) (a0d) (λ_ _=>rfl)) (a0i) (nomark _)) (a0h (a0v (a0t (a1Z rfl) (by rfl) ma a5R (a0a (a2q (M:=NKw) rfl (a0l.of (a0e a3n) NKw rfl rfl rfl (by decide +kernel) (by decide +kernel) (by decide +kernel) rfl (by decide +kernel)) ndKw1 rfl (a3m (a0n a0k (pv 1) (a0d) (λ_ _=>rfl))) a8i (λcl C s0 H0 fp=>⟨a0L,a0Y (b1x K) (pv 0) (a8S K (pv 1) rfl) rfl⟩)) (a0f))))) (a0x))
   (a0c (a0J (a0y a1z (a0n a0k (pv 1) (a0d) (λ_ _=>rfl)) (a1L (v:=.ref a2) (by rfl) wc.g2 rfl) rfl) (a0h (a0v a3A)) (a0x))
   (a0h (a0v (a0t (a1Z rfl) (by rfl) ma a5R (a0a (a1y (M:=NKw) rfl (a0l.of (a0e a3n) NKw rfl rfl rfl (by decide +kernel) (by decide +kernel) (by decide +kernel) rfl (by decide +kernel)) ndKw2 rfl (a3m (a1s a5N (pv 1) (a1O a0d) a1N)) a8i (λcl C s0 H0 fp=>⟨a0L,a0Y (b1x K) (pv 0) (a8S K (pv 1) rfl) rfl⟩)) (a0f))))))),?_⟩
 obtain ⟨z,rs,rfl⟩:∃ z r,W=z :: r:=by
  cases W with
  | nil=>exact absurd w1 (by decide)
  | cons z r=>exact ⟨z,r,rfl⟩
 unfold kn at qq;dsimp only at qq;refine ⟨_,rfl,a,_,_,_,rfl,rfl,SqL.of ha,(a1t (j:=0) rfl),rfl,_,rfl,?_⟩;rw [a3V];refine a1K (λc=>?_) (λc=>?_)
 ·have c:z=a6D:=of_decide_eq_true c;rw [if_pos c] at qq;obtain ⟨b,r',rfl⟩:=a8T hq (.inl c);refine ⟨_,rfl,a,_,_,_,rfl,rfl,SqL.of ha,(a1t (j:=1) rfl),_,rfl,r,C,dx,_,_,rfl,h0,dc.c,dc.n1,rfl,b1,_,rfl,.inr (SqT.of h1),rfl,a0S _,?_⟩;rw [if_neg (by decide),a1n];exact qq H (a0E.refl _)
 have c:¬ z=a6D:=of_decide_eq_false (Bool.eq_false_iff.mpr c);rw [if_neg c] at qq;refine ⟨_,rfl,a,_,_,_,rfl,rfl,SqL.of ha,(a1t (j:=0) rfl),rfl,_,rfl,?_⟩;rw [a3V];refine a1K (λc2=>?_) (λc2=>?_)
 ·have c2:z=b0E:=of_decide_eq_true c2;rw [if_pos c2] at qq;obtain ⟨b,r',rfl⟩:=a8T hq (.inr c2);have wb:=wz b (.tail _ (.head _));refine ⟨λv H'=>H=H'/\v=.str b,⟨_,rfl,a,_,_,_,rfl,rfl,SqL.of ha,(a1t (j:=1) rfl),rfl,rfl⟩,?_⟩;rintro v H' ⟨rfl,rfl⟩;refine ⟨b,rfl,wb.1,λd hd=>?_⟩;refine ⟨λi H'=>a0E H H'/\H' d=some (.lst (((b.cps.toList.take i).map λc=>decide ((⟨#[c]⟩:Str)∈sg)).map V.bl)),⟨a0g hd _,a0b⟩,λi c H' hc hP=>?_,λH' hP=>?_⟩
  ·obtain ⟨s5,hz⟩:=hP;have il:=(List.getElem?_eq_some_iff.mp hc).1;have e:b.cps.toList.length=b.length:=Array.length_toList;refine a0G ⟨_,rfl,_,rfl,r,C,dx,_,_,rfl,s5 _ _ h0,dc.c,dc.n1,rfl,b1,_,rfl,.inr (SqT.of (s5 _ _ h1)),rfl,a0S _,_,hz,?_,a0w hd s5,?_⟩
   ·rw [List.length_map,List.length_map,List.length_take];exact lt5 (by omega)
   ·rw [a0b,if_neg (by decide),a1n,List.take_add_one,hc,List.map_append,List.map_append];rfl
  ·obtain ⟨s5,hz⟩:=hP;rw [show b.cps.size=b.cps.toList.length from Array.length_toList.symm,List.take_length] at hz;refine ⟨d,_,rfl,hz,?_⟩;rw [List.all_map];exact qq H' s5
 have c2:¬ z=b0E:=of_decide_eq_false (Bool.eq_false_iff.mpr c2);rw [if_neg c2] at qq;refine ⟨_,rfl,a,_,_,_,rfl,rfl,SqL.of ha,(a1t (j:=0) rfl),a2,_,rfl,.inr (wc.s2 _),rfl,a0S _,_,rfl,?_⟩;rw [if_neg (by decide),a1n];refine a1K (λc3=>?_) (λc3=>?_)
 ·rw [if_pos (of_decide_eq_true c3)] at qq;exact qq H (a0E.refl _)
 rw [if_neg (of_decide_eq_false (Bool.eq_false_iff.mpr c3))] at qq;refine ⟨λv H'=>a0E H H'/\∃ p,v=.ref p/\H' p=some (.lst (rs.map V.str)),?_,?_⟩
 ·refine ⟨_,rfl,_,rfl,a,_,rfl,SqL.of ha,λp hp=>⟨a0g hp _,p,rfl,?_⟩⟩;rw [a0b,a4H _ _ (by decide)];rfl
 rintro v H1 ⟨s1,p,rfl,hp⟩;refine ⟨p,_,rfl,SqL.of hp,λd hd=>?_⟩;refine ⟨λi H'=>a0E H1 H'/\H' d=some (.lst (((rs.take i).map λz=>decide (z∈nm)).map V.bl)),⟨a0g hd _,a0b⟩,λi H' _ hP=>SqL.of (hP.1 _ _ hp),λi x H' hx hP=>?_,λH' hP=>?_⟩
 ·obtain ⟨s5,hz⟩:=hP;rw [List.getElem?_map] at hx;obtain ⟨u,hu,rfl⟩:=Option.map_eq_some_iff.mp hx;have il:=(List.getElem?_eq_some_iff.mp hu).1;rw [List.length_cons] at w9;have s15:=s1.trans s5;refine a0G ⟨_,rfl,_,rfl,r,C,dx,_,_,rfl,s15 _ _ h0,dc.c,dc.n3,rfl,b3,_,rfl,.inr (SqT.of (s15 _ _ h3)),rfl,a0S _,_,hz,?_,a0w hd s5,?_⟩
  ·rw [List.length_map,List.length_map,List.length_take];exact lt5 (by omega)
  ·rw [a0b,if_neg (by decide),a1n,List.take_add_one,hu,List.map_append,List.map_append];rfl
 ·obtain ⟨s5,hz⟩:=hP;rw [List.length_map,List.take_length] at hz;refine ⟨d,_,rfl,hz,?_⟩;rw [List.all_map];exact qq H' (s1.trans s5)
end
end K94
namespace K94C
open PySem L2
abbrev OI:=Option Int
def lo (xs:List OI):OI:=if xs.filterMap id=[] then none else some ((srt (xs.filterMap id)).headD 0)
def oadd:OI->OI->OI
 | some a,some b=>some (a+b)
 | _,_=>none
theorem a3W {xs:List OI} {k:Int}:k∈xs.filterMap id↔some k∈xs:=by
 rw [List.mem_filterMap];constructor
 ·rintro ⟨a,h,e⟩;have e':a=some k:=e;rw [<-e'];exact h
 ·intro h;exact ⟨some k,h,rfl⟩
theorem a8U {ns:List Int} (h:ns≠[]):(srt ns).headD 0∈ns/\∀ x∈ns,(srt ns).headD 0<=x:=by
 have p:=a6w ns;have r:=a5x ns;cases e:srt ns with
 | nil =>
  rw [e] at p;exact absurd p.symm.eq_nil h
 | cons a t =>
  rw [e] at p r;refine ⟨p.mem_iff.mp (.head _),λx hx=>?_⟩;show a<=x;rcases List.mem_cons.mp (p.symm.mem_iff.mp hx) with z | z
  ·rw [z];exact Int.le_refl _
  ·exact (List.pairwise_cons.mp r).1 x z
theorem a2l {xs:List OI} {m:Int}:lo xs=some m↔some m∈xs/\∀ k,some k∈xs->m<=k:=by
 unfold lo;split
 ·rename_i h;constructor
  ·intro z;cases z
  ·rintro ⟨z,_⟩;have:=a3W.mpr z;rw [h] at this;cases this
 ·rename_i h;obtain ⟨h1,h2⟩:=a8U h;constructor
  ·intro z;cases z;exact ⟨a3W.mp h1,λk hk=>h2 k (a3W.mpr hk)⟩
  ·rintro ⟨z1,z2⟩;have a1:=h2 m (a3W.mpr z1);have a2:=z2 _ (a3W.mp h1);congr 1;omega
theorem a2m {xs:List OI}:lo xs=none↔∀ k,some k∉xs:=by
 unfold lo;split
 ·rename_i h;refine ⟨λ_ k hk=>?_,λ_=>rfl⟩;have:=a3W.mpr hk;rw [h] at this;cases this
 ·rename_i h;refine ⟨λz=>(by cases z),λz=>?_⟩;exact absurd (a3W.mp (a8U h).1) (z _)
theorem lo_eq {xs ys:List OI} (h1:∀ m,some m∈xs->∃ k,k<=m/\some k∈ys) (h2:∀ m,some m∈ys->∃ k,k<=m/\some k∈xs):lo xs=lo ys:=by
 cases e:lo ys with
 | none =>
  rw [a2m] at e ⊢;intro k hk;obtain ⟨k',_,h⟩:=h1 k hk;exact e k' h
 | some m =>
  rw [a2l] at e ⊢;obtain ⟨k,hk,hm⟩:=h2 m e.1;obtain ⟨k',hk',hm'⟩:=h1 k hm;have:=e.2 k' hm';have ek:k=m:=by omega
  subst ek;refine ⟨hm,λx hx=>?_⟩;obtain ⟨y,hy,hy'⟩:=h1 x hx;have:=e.2 y hy';omega
theorem b0F {xs:List OI} {k:Int} (h:some k∈xs):∃ m,lo xs=some m/\m<=k:=by
 cases e:lo xs with
 | none=>exact absurd h (a2m.mp e k)
 | some m=>exact ⟨m,rfl,(a2l.mp e).2 k h⟩
theorem a5B (xs ys:List OI):lo (xs++ys)=lo [lo xs,lo ys]:=by
 refine lo_eq (λm hm=>?_) (λm hm=>?_)
 ·rcases List.mem_append.mp hm with h | h
  ·obtain ⟨k,e,hk⟩:=b0F h;exact ⟨k,hk,by rw [e];exact .head _⟩
  ·obtain ⟨k,e,hk⟩:=b0F h;exact ⟨k,hk,by rw [e];exact .tail _ (.head _)⟩
 ·simp only [List.mem_cons,List.not_mem_nil,or_false] at hm;rcases hm with h | h
  ·exact ⟨m,Int.le_refl _,List.mem_append.mpr (.inl (a2l.mp h.symm).1)⟩
  ·exact ⟨m,Int.le_refl _,List.mem_append.mpr (.inr (a2l.mp h.symm).1)⟩
theorem a4T {α:Type} (xs:List α) (f:α->List OI):lo (xs.flatMap f)=lo (xs.map λx=>lo (f x)):=by
 refine lo_eq (λm hm=>?_) (λm hm=>?_)
 ·obtain ⟨x,hx,h⟩:=List.mem_flatMap.mp hm;obtain ⟨k,e,hk⟩:=b0F h;exact ⟨k,hk,List.mem_map.mpr ⟨x,hx,e⟩⟩
 ·obtain ⟨x,hx,h⟩:=List.mem_map.mp hm;exact ⟨m,Int.le_refl _,List.mem_flatMap.mpr ⟨x,hx,(a2l.mp h).1⟩⟩
theorem lo_add (a:Int) (xs:List OI):oadd (some a) (lo xs)=lo (xs.map (oadd (some a))):=by
 cases e:lo xs with
 | none =>
  symm
  show lo _=none;rw [a2m] at e ⊢;intro k hk;obtain ⟨x,hx,h⟩:=List.mem_map.mp hk;cases x with
  | none=>cases h
  | some y=>exact e y hx
 | some m =>
  symm
  show lo _=some (a+m);rw [a2l] at e ⊢;refine ⟨List.mem_map.mpr ⟨some m,e.1,rfl⟩,λk hk=>?_⟩;obtain ⟨x,hx,h⟩:=List.mem_map.mp hk;cases x with
  | none=>cases h
  | some y =>
   have:=e.2 y hx;cases h;omega
theorem a8V (x:OI) (xs:List OI):oadd x (lo xs)=lo (xs.map (oadd x)):=by
 cases x with
 | some a=>exact lo_add a xs
 | none =>
  symm
  show lo _=none;rw [a2m];intro k hk;obtain ⟨x,hx,h⟩:=List.mem_map.mp hk;cases h
theorem b1z (x:OI):lo [x]=x:=by
 cases x with
 | none=>exact a2m.mpr λk hk=>by simp at hk
 | some m=>exact a2l.mpr ⟨.head _,λk hk=>by simp at hk;omega⟩
theorem a8W:lo []=none:=a2m.mpr λk hk=>by cases hk
abbrev Pa:=List (Nat × Nat × Nat)
def P:Nat->Nat->Nat->Nat->List Pa
 | 0,_,i,j=>if i=j then [[]] else []
 | m+1,l,i,j=>if i=j then [[]] else ((List.range (j - i)).flatMap λb=>(P m (l+1) (i+b+1) j).map λr=>(i,i+b+1,l) :: r)++P m (l+1) i j
theorem b1A (m l i j:Nat):P (m+1) l i j=if i=j then [[]] else ((List.range (j - i)).flatMap λb=>(P m (l+1) (i+b+1) j).map λr=>(i,i+b+1,l) :: r)++P m (l+1) i j:=rfl
theorem a6E (m l i:Nat):P m l i i=[[]]:=by
 cases m <;> (unfold P;rw [if_pos rfl])
section
variable (p:Nat->Int) (W:Nat->Nat->Int) (F:Nat->Nat->OI)
def part (q:Nat × Nat × Nat):OI:=oadd (some (p q.2.2 * W q.1 q.2.1)) (F q.1 q.2.1)
def cost:Pa->OI
 | []=>some 0
 | q :: r=>oadd (part p W F q) (cost r)
structure Eqs (L:Nat) (h t:Nat->Nat->Nat->OI) (i j:Nat):Prop where
 eh:∀ l,l < L->h l i j=oadd (some (p l * W i j)) (F i j)
 et:∀ l,l < L->t l i j=lo [lo ((List.range (j - i)).map λb=>oadd (h l i (i+b+1)) (t (l+1) (i+b+1) j)),t (l+1) i j]
variable {p W F} {L n:Nat} {h t:Nat->Nat->Nat->OI}
theorem a3X {i0:Nat} (dg:∀ l i,l<=L->i<=n->t l i i=some 0) (ed:∀ i j,i < j->j<=n->t L i j=none) (eq:∀ i j,i0<=i->i < j->j<=n->Eqs p W F L h t i j) :
  ∀ m l i j,l+m=L->i0<=i->i<=j->j<=n->t l i j=lo ((P m l i j).map λr=>cost p W F r)
 | 0,l,i,j,hl,h0,hij,hj=>by
  have el:l=L:=by omega
  subst el;by_cases e:i=j
  ·subst e;rw [dg l i (Nat.le_refl _) hj,a6E];exact (b1z _).symm
  ·rw [ed i j (by omega) hj];unfold P;rw [if_neg e];exact a8W.symm
 | m+1,l,i,j,hl,h0,hij,hj=>by
  by_cases e:i=j
  ·subst e;rw [dg l i (by omega) hj,a6E];exact (b1z _).symm
  ·have E:=eq i j h0 (by omega) hj;rw [E.et l (by omega)];unfold P;rw [if_neg e,List.map_append,a5B,<-a3X dg ed eq m (l+1) i j (by omega) h0 hij hj];congr 2;rw [List.map_flatMap,a4T];congr 1;refine List.map_congr_left λb hb=>?_;have hb':=List.mem_range.mp hb;rw [(eq i (i+b+1) h0 (by omega) (by omega)).eh l (by omega),a3X dg ed eq m (l+1) (i+b+1) j (by omega) (by omega) (by omega) hj,a8V,List.map_map,List.map_map];congr 1
def bnd (L:Nat) (h t:Nat->Nat->Nat->OI) (i j:Nat):OI:=if j - i=1 then some 0 else lo ((List.range L).map λl=>lo ((List.range (j - 1 - i)).map λb=>oadd (h l i (i+b+1)) (t (l+1) (i+b+1) j)))
theorem P_ne {m l i j:Nat} (hij:i < j):∀ r∈P m l i j,r≠[]:=by
 induction m generalizing l i with
 | zero =>
  intro r hr;unfold P at hr;rw [if_neg (by omega)] at hr;cases hr
 | succ m ih =>
  intro r hr;unfold P at hr;rw [if_neg (by omega)] at hr;rcases List.mem_append.mp hr with z | z
  ·obtain ⟨b,_,z⟩:=List.mem_flatMap.mp z;obtain ⟨r',_,rfl⟩:=List.mem_map.mp z;intro y;cases y
  ·exact ih hij r z
theorem P_some {m l i j:Nat} (hij:i < j):P (m+1) l i j≠[]:=by
 unfold P;rw [if_neg (by omega)];intro z;have z1:=(List.append_eq_nil_iff.mp z).1;have:(i,i+(j - i - 1)+1,l) :: []∈(List.range (j - i)).flatMap λb=>(P m (l+1) (i+b+1) j).map λr=>(i,i+b+1,l) :: r:=by
  refine List.mem_flatMap.mpr ⟨j - i - 1,List.mem_range.mpr (by omega),List.mem_map.mpr ⟨[],?_,rfl⟩⟩;rw [show i+(j - i - 1)+1=j by omega,a6E];exact .head _
 rw [z1] at this;cases this
theorem a6F {i j:Nat} (hij:i < j):∀ m l,(P m l i j).filter (λr=>decide (1 < r.length))=(List.range m).flatMap λa=>(List.range (j - 1 - i)).flatMap λb=>(P (m - 1 - a) (l+a+1) (i+b+1) j).map λr=>(i,i+b+1,l+a) :: r
 | 0,l=>by
  unfold P;rw [if_neg (by omega)];rfl
 | m+1,l=>by
  have ih:=a6F hij m (l+1);rw [b1A m l i j,if_neg (by omega),List.filter_append,ih,List.range_succ_eq_map,List.flatMap_cons,List.flatMap_map];congr 1
  ·rw [show j - i=(j - 1 - i)+1 by omega,List.range_succ,List.flatMap_append,List.filter_append];have e2:([j - 1 - i].flatMap λb=>(P m (l+1) (i+b+1) j).map λr=>(i,i+b+1,l) :: r).filter (λr=>decide (1 < r.length))=[]:=by
    rw [List.flatMap_cons,List.flatMap_nil,List.append_nil,show i+(j - 1 - i)+1=j by omega,a6E];rfl
   rw [e2,List.append_nil,List.filter_eq_self.mpr]
   ·rfl
   ·intro r hr;obtain ⟨b,hb,z⟩:=List.mem_flatMap.mp hr;obtain ⟨r',hr',rfl⟩:=List.mem_map.mp z;have hb':=List.mem_range.mp hb;have:=P_ne (by omega) r' hr';rw [decide_eq_true_eq,List.length_cons];have:=List.length_pos_iff.mpr this;omega
  ·refine congrArg (λf=>(List.range m).flatMap f) (funext λa=>?_);show _=(List.range (j - 1 - i)).flatMap λb=>(P (m+1 - 1 - (a+1)) (l+(a+1)+1) (i+b+1) j).map λr=>(i,i+b+1,l+(a+1)) :: r;rw [show m+1 - 1 - (a+1)=m - 1 - a by omega,show l+(a+1)=l+1+a by omega]
theorem b0G {i j:Nat} (dg:∀ l i,l<=L->i<=n->t l i i=some 0) (ed:∀ i j,i < j->j<=n->t L i j=none) (hh:∀ l c,l < L->i < c->c < j->h l i c=oadd (some (p l * W i c)) (F i c)) (eq:∀ a b,i+1<=a->a < b->b<=n->Eqs p W F L h t a b) (hij:i+1 < j) (hj:j<=n) :
  bnd L h t i j=lo (((P L 0 i j).filter λr=>decide (1 < r.length)).map λr=>cost p W F r):=by
 unfold bnd;rw [if_neg (by omega),a6F (by omega),List.map_flatMap,a4T];congr 1;refine List.map_congr_left λl hl=>?_;have hl':=List.mem_range.mp hl;rw [List.map_flatMap,a4T];congr 1;refine List.map_congr_left λb hb=>?_;have hb':=List.mem_range.mp hb;rw [hh l (i+b+1) hl' (by omega) (by omega),a3X dg ed eq (L - 1 - l) (l+1) (i+b+1) j (by omega) (by omega) (by omega) hj,a8V,List.map_map,List.map_map,Nat.zero_add];congr 1
theorem b2R {L i j:Nat} (hL:2<=L) (hij:i+1 < j):(P L 0 i j).filter (λr=>decide (1 < r.length))≠[]:=by
 rw [a6F (by omega)];obtain ⟨L,rfl⟩:∃ K,L=K+2:=⟨L - 2,by omega⟩
 intro z;have h1:P (L+1) 1 (i+1) j≠[]:=P_some (by omega);obtain ⟨r,hr⟩:=List.exists_mem_of_ne_nil _ h1;have:(i,i+0+1,0) :: r∈(List.range (L+2)).flatMap λa=>(List.range (j - 1 - i)).flatMap λb=>(P (L+2 - 1 - a) (0+a+1) (i+b+1) j).map λr=>(i,i+b+1,0+a) :: r:=by
  refine List.mem_flatMap.mpr ⟨0,List.mem_range.mpr (by omega),List.mem_flatMap.mpr ⟨0,List.mem_range.mpr (by omega),List.mem_map.mpr ⟨r,?_,rfl⟩⟩⟩;exact hr
 rw [z] at this;cases this
end
theorem P_in:∀ m l i j,i<=j->∀ r∈P m l i j,∀ q∈r,i<=q.1/\q.1 < q.2.1/\q.2.1<=j/\l<=q.2.2/\q.2.2 < l+m
 | 0,l,i,j,h,r,hr,q,hq=>by
  unfold P at hr;split at hr
  ·rw [List.mem_singleton.mp hr] at hq;cases hq
  ·cases hr
 | m+1,l,i,j,h,r,hr,q,hq=>by
  rw [b1A] at hr;split at hr
  ·rw [List.mem_singleton.mp hr] at hq;cases hq
  ·rcases List.mem_append.mp hr with z | z
   ·obtain ⟨b,hb,z⟩:=List.mem_flatMap.mp z;have hb':=List.mem_range.mp hb;obtain ⟨r',hr',rfl⟩:=List.mem_map.mp z;rcases List.mem_cons.mp hq with y | y
    ·rw [y];exact ⟨Nat.le_refl _,by show i < i+b+1;omega,by show i+b+1<=j;omega,Nat.le_refl _,by show l < l+(m+1);omega⟩
    ·have:=P_in m (l+1) (i+b+1) j (by omega) r' hr' q y;omega
   ·have:=P_in m (l+1) i j h r z q hq;omega
theorem b2S {L i j:Nat} (hij:i < j):∀ r∈(P L 0 i j).filter (λr=>decide (1 < r.length)),∀ q∈r,i<=q.1/\q.1 < q.2.1/\q.2.1<=j/\q.2.1 - q.1 < j - i/\q.2.2 < L:=λr hr q hq=>by
 have hP:=P_in L 0 i j (by omega) r (List.mem_filter.mp hr).1 q hq;rw [a6F hij] at hr;obtain ⟨a,ha,z⟩:=List.mem_flatMap.mp hr;obtain ⟨b,hb,z⟩:=List.mem_flatMap.mp z;have hb':=List.mem_range.mp hb;obtain ⟨r',hr',rfl⟩:=List.mem_map.mp z;rcases List.mem_cons.mp hq with y | y
 ·rw [y] at hP ⊢;exact ⟨Nat.le_refl _,by show i < i+b+1;omega,by show i+b+1<=j;omega,by show i+b+1 - i < j - i;omega,by have:=hP.2.2.2.2;omega⟩
 ·have:=P_in _ _ _ j (by omega) r' hr' q y;omega
def top (i:Nat):Stmt:=PySem.Challenge.pw_lettertoll_k94_desks_changed_and_refused.main.body.getD i (.Pass ⟨0,0,0,0⟩)
def b0H (n:Nat):Stmt->Stmt
 | .ClassDef _ _ _ b ..=>b.getD n (.Pass ⟨0,0,0,0⟩)
 | s=>s
abbrev a7s:Stmt:=top 17
abbrev b3z:Stmt:=top 18
abbrev a2B:Stmt:=top 19
abbrev a3Y:Stmt:=top 20
abbrev a4v:Stmt:=top 21
abbrev sPl:Stmt:=top 24
abbrev sNu:Stmt:=top 89
abbrev a2n:Stmt:=b0H 0 (top 22)
abbrev b3A:Stmt:=b0H 1 (top 22)
abbrev sLs:Stmt:=b0H 2 (top 22)
abbrev a3Z:Stmt:=b0H 3 (top 22)
abbrev a7t:Stmt:=b0H 6 (top 22)
abbrev a2C:Stmt:=b0H 0 (top 41)
abbrev a7u:Stmt:=b0H 1 (top 41)
abbrev a5Z:Stmt:=b0H 2 (top 41)
abbrev sBy:Stmt:=b0H 3 (top 41)
def oV:OI->V
 | none=>.non
 | some i=>.int i
section
variable {P:Program} {w:World} {K:PySem.W.Frag} {mg:Str->Option Value} {base:Heap} {f:Addr} {fd:FuncData}
def sums (ws:List Int) (k:Nat):List Int:=(List.range (k+1)).map λi=>(ws.take i).sum
def a8X:Sp:=λvs H Q _=>∃ (q:Addr) (ws:List Int),vs=[.ref q]/\TW H q ws/\ws.length<=100/\∀ (p:Addr) H',a0E H H'->H p=none->H' p=some (.lst ((sums ws ws.length).map V.int))->Q (.ref p) H'
theorem a8Y:a0u ["weights","sums","weight"] ["weights"] (a0e a7s):=⟨rfl,rfl,rfl,by decide +kernel,rfl,by decide +kernel,by decide +kernel⟩
theorem a8Z {ws:List Int} {k:Nat}:sums ws (k+1)=sums ws k++[(ws.take (k+1)).sum]:=by
 unfold sums;rw [List.range_succ (n:=k+1),List.map_append];rfl
theorem a9a {ws:List Int} {k:Nat}:∃ xs,sums ws k=xs++[(ws.take k).sum]:=by
 unfold sums;rw [List.range_succ,List.map_append];exact ⟨_,rfl⟩
theorem b0I {ws:List Int} {k:Nat}:(sums ws k).length=k+1:=by unfold sums;rw [List.length_map,List.length_range]
theorem b2T (F:Fun K "weight_sums" "weight_sums" a7s f fd):a1a P w K mg base CX0 1 f fd ["weights"] a8X:=by
 refine F.ok (k:=0) a8Y (λvs H Q E h=>?_) (λcdv A outer s H vs Q E hr h=>?_)
 ·obtain ⟨q,ws,rfl,_⟩:=h;rfl
 obtain ⟨q,ws,rfl,hq,l1,qq⟩:=h;refine ⟨_,a0c (a0z (i:=1) a8Y.nd rfl (Or.inl rfl) (a0W (a0a a0d a0f)))
  (a0c (a1v PassesOwn.never rfl (b0X (pv 0)) (a0H (i:=2) a8Y.nd rfl (Or.inl rfl))
   (a0h (a1f (a2u PySem.F.plainAttrs_list PySem.F.slot_list_append PySem.F.type_list_append a1e (pv 1) (a0a (a0m a0M (a0n a0k (pv 1) (a2t a1J a0d) (λ_ _=>rfl)) (pv 2)) a0f)))))
  (a0h (a0v (pv 1)))),?_⟩
 refine ⟨(by show 1<=sizeLine;decide),λl hl=>?_⟩;have s1:=a0g hl (.lst [.int 0]);have g1:upd H l (.lst [.int 0]) l=some (.lst ((sums ws 0).map V.int)):=a0b;generalize upd H l (.lst [.int 0])=H1 at s1 g1 ⊢;refine ⟨_,rfl,q,rfl,⟨_,SqT.of (s1 _ _ hq)⟩,?_⟩;refine b1X (xs:=ws.map V.int) (λi σ H'=>a0E H H'/\H' l=some (.lst ((sums ws i).map V.int))/\∃ x2:Option V,σ=[some (.ref q),some (.ref l),x2]) ⟨s1,g1,_,rfl⟩ (λi σ H' _ hP=>SqT.of (hP.1 _ _ hq)) (λi x σ H2 hx hP=>?_) (λσ H2 hP=>?_)
 ·obtain ⟨s2,g2,x2,rfl⟩:=hP;have il:=(List.getElem?_eq_some_iff.mp hx).1;rw [List.length_map] at il;rw [List.getElem?_map] at hx;obtain ⟨z,hz,rfl⟩:=Option.map_eq_some_iff.mp hx;obtain ⟨xs,ex⟩:=a9a (ws:=ws) (k:=i);refine ⟨_,rfl,.inl ⟨rfl,_,SqL.of g2⟩,_,rfl,_,rfl,l,_,_,_,rfl,rfl,SqL.of g2,(by rw [ex,List.map_append];exact a9R _ _),_,rfl,_,_,rfl,rfl,l,_,_,rfl,rfl,g2,a0p (by rw [List.length_map,b0I];omega),a0w hl s2,?_,_,rfl⟩;rw [a0b,a8Z,List.map_append,List.take_add_one,hz];simp
 ·obtain ⟨s2,g2,x2,rfl⟩:=hP;rw [List.length_map] at g2;exact ⟨_,rfl,qq l H2 s2 hl g2⟩
def b1B (s i:Nat) (o:OI):List V:=(List.range s).map λj=>oV (if j=i then o else none)
theorem b2U {s i:Nat} {o:OI}:(List.replicate s V.non).set i (oV o)=b1B s i o:=by
 refine List.ext_getElem? λj=>?_;unfold b1B;rw [List.getElem?_map];by_cases hj:j < s
 ·rw [List.getElem?_range hj];by_cases e:i=j
  ·subst e;rw [List.getElem?_set_self (by rw [List.length_replicate];exact hj)];simp
  ·rw [List.getElem?_set_ne e,List.getElem?_replicate,if_pos hj];show some V.non=some (oV (if j=i then o else none));rw [if_neg (λz=>e z.symm)];rfl
 ·rw [List.getElem?_eq_none (by rw [List.length_set,List.length_replicate];omega),List.getElem?_eq_none (by rw [List.length_range];omega)];rfl
theorem b0J (n:Nat):(List.replicate n [V.non]).flatten=List.replicate n V.non:=by
 induction n with
 | zero=>rfl
 | succ n ih=>rw [List.replicate_succ,List.flatten_cons,ih,List.replicate_succ];rfl
def b2V:Sp:=λvs H Q _=>∃ (s i:Nat) (o:OI),vs=[.int (s:Int),.int (i:Int),oV o]/\i < s/\s<=100/\∀ (p:Addr) H',a0E H H'->H p=none->H' p=some (.lst (b1B s i o))->Q (.ref p) H'
theorem scRow:a0u ["side","at","number","row"] ["side","at","number"] (a0e b3z):=⟨rfl,rfl,rfl,by decide +kernel,rfl,by decide +kernel,by decide +kernel⟩
theorem a4a {n j:Nat} (h:j < n):ixN n (j:Int)=some j:=by
 unfold ixN;rw [if_pos (by omega),if_pos (by omega)];rfl
theorem ok_row (F:Fun K "row_with" "row_with" b3z f fd):a1a P w K mg base CX0 1 f fd ["side","at","number"] b2V:=by
 refine F.ok (k:=0) scRow (λvs H Q E h=>?_) (λcdv A outer s H vs Q E hr h=>?_)
 ·obtain ⟨s,i,o,rfl,_⟩:=h;rfl
 obtain ⟨n,i,o,rfl,hi,hn,qq⟩:=h;refine ⟨_,a0c (a0z (i:=3) scRow.nd rfl (Or.inl rfl) (a0m op_rep (a0W (a0a a3B a0f)) (pv 0)))
  (a0c (a2G (pv 2) (a3E (pv 3) (pv 1) a1Y))
  (a0h (a0v (pv 3)))),?_⟩
 refine ⟨(by show 1<=sizeLine;decide),λl hl=>?_⟩;have s1:=a0g hl (.lst [.non]);have g1:upd H l (.lst [.non]) l=some (.lst [.non]):=a0b;generalize upd H l (.lst [.non])=H1 at s1 g1 ⊢;refine ⟨_,rfl,l,(n:Int),_,rfl,rfl,g1,by omega,by omega,by show 1 * _<=_;exact Nat.le_of_lt (a0p (by omega)),λp hp=>?_⟩;rw [b0J,Int.toNat_natCast];have s2:=a0g hp (.lst (List.replicate n V.non));have g2:upd H1 p (.lst (List.replicate n V.non)) p=some (.lst (List.replicate n V.non)):=a0b;generalize upd H1 p (.lst (List.replicate n V.non))=H2 at s2 g2 ⊢;have hpn:=s1.free hp;refine ⟨_,rfl,_,rfl,_,rfl,p,_,_,i,rfl,rfl,g2,(by rw [List.length_replicate];exact a4a hi),?_⟩;rw [b2U];exact ⟨_,rfl,qq p _ (a0w hpn (s1.trans s2)) hpn a0b⟩
def ext {α:Type} (ca:Nat->α) (i:Nat) (p:α):Nat->α:=λk=>if k=i then p else ca k
theorem a0T {α:Type} {ca:Nat->α} {i k:Nat} {p:α} (h:k=i):ext ca i p k=p:=if_pos h
theorem a1q {α:Type} {ca:Nat->α} {i k:Nat} {p:α} (h:¬ k=i):ext ca i p k=ca k:=if_neg h
def a3w:Sp:=λvs H Q _=>∃ (s:Nat) (o:OI),vs=[.int (s:Int),oV o]/\s<=100/\∀ (b:Addr) (ca:Nat->Addr) H',a0E H H'->H b=none->(∀ i,i < s->H (ca i)=none)->(∀ i j,i < s->j < s->ca i=ca j->i=j)->(∀ i,i < s->ca i≠b) ->
 H' b=some (.lst ((List.range s).map λi=>.ref (ca i)))->(∀ i,i < s->H' (ca i)=some (.lst (b1B s i o)))->Q (.ref b) H'
theorem b0K:a0u ["side","diagonal"] ["side","diagonal"] (a0e a2B):=⟨rfl,rfl,rfl,by decide +kernel,rfl,by decide +kernel,by decide +kernel⟩
theorem ndSq:(("at":Str) :: ["side","diagonal"]).Nodup:=by decide +kernel
theorem a9b (F:Fun K "square" "square" a2B f fd) (GR:Fns P w K mg base ["side","at","number"] "row_with" b2V 1) (mr:mg "range"=none):a1a P w K mg base CX0 2 f fd ["side","diagonal"] a3w:=by
 refine F.ok (k:=1) b0K (λvs H Q E h=>?_) (λcdv A outer s H vs Q E hr h=>?_)
 ·obtain ⟨s,o,rfl,_⟩:=h;rfl
 obtain ⟨n,o,rfl,hn,qq⟩:=h;refine ⟨_,a0h (a0v (a1P (M:=["side","diagonal"]) rfl (a0l.of (a0e a2B) ["side","diagonal"] rfl rfl rfl (by decide +kernel) (by decide +kernel) (by decide +kernel) rfl (by decide +kernel)) ndSq rfl (by rfl) mr (a0a (pv 0) a0f) (a1k a0R a1U)
   (λcl C s0 H0 fp=>⟨a0L,a0q GR.ok hr (by rfl) GR.m GR.kp GR.b .nil a0D (a0a (pv 1) (a0a (pv 0) (a0a (pv 2) a0f)))⟩))),?_⟩
 refine ⟨_,rfl,(n:Int),rfl,by omega,by omega,λd hd=>?_⟩;refine ⟨λi H'=>a0E H H'/\∃ ca:Nat->Addr,(∀ k,k < i->H (ca k)=none)/\(∀ j k,j < i->k < i->ca j=ca k->j=k)/\(∀ k,k < i->ca k≠d)/\H' d=some (.lst ((List.range i).map λk=>.ref (ca k)))/\∀ k,k < i->H' (ca k)=some (.lst (b1B n k o)),⟨a0g hd _,λ_=>d,λk hk=>absurd hk (Nat.not_lt_zero _),λj k hj=>absurd hj (Nat.not_lt_zero _),λk hk=>absurd hk (Nat.not_lt_zero _),a0b,λk hk=>absurd hk (Nat.not_lt_zero _)⟩,λi H1 hi hP=>?_,λH1 hP=>?_⟩
 ·obtain ⟨s1,ca,c1,c2,c3,c4,c5⟩:=hP;have i':i < n:=by omega
  rw [show (0:Int)+(i:Int)=(i:Int) from Int.zero_add _];refine a0G ⟨_,rfl,_,rfl,_,rfl,n,i,o,rfl,i',hn,λp H2 s2 hp2 g2=>?_⟩;have pd:p≠d:=λz=>by rw [z,c4] at hp2;cases hp2
  have pk:∀ k,k < i->ca k≠p:=λk hk z=>by rw [<-z,c5 k hk] at hp2;cases hp2
  refine ⟨_,s2 _ _ c4,?_,a0w hd (s1.trans s2),ext ca i p,λk hk=>?_,λj k hj hk e=>?_,λk hk=>?_,?_,λk hk=>?_⟩
  ·rw [List.length_map,List.length_range];exact a0p (by omega)
  ·by_cases z:k=i
   ·rw [a0T z];exact s1.free hp2
   ·rw [a1q z];exact c1 k (by omega)
  ·by_cases z1:j=i <;> by_cases z2:k=i
   ·omega
   ·rw [a0T z1,a1q z2] at e;exact absurd e.symm (pk k (by omega))
   ·rw [a1q z1,a0T z2] at e;exact absurd e (pk j (by omega))
   ·rw [a1q z1,a1q z2] at e;exact c2 j k (by omega) (by omega) e
  ·by_cases z:k=i
   ·rw [a0T z];exact pd
   ·rw [a1q z];exact c3 k (by omega)
  ·rw [a0b,List.range_succ,List.map_append];refine congrArg (λz=>some (HO.lst z)) ?_;congr 1
   ·refine List.map_congr_left λk hk=>?_;rw [a1q (by have:=List.mem_range.mp hk;omega)]
   ·show [V.ref p]=[V.ref (ext ca i p i)]
    rw [a0T rfl]
  ·by_cases z:k=i
   ·rw [a0T z,a0j pd,z];exact g2
   ·rw [a1q z,a0j (c3 k (by omega))];exact s2 _ _ (c5 k (by omega))
 ·obtain ⟨s1,ca,c1,c2,c3,c4,c5⟩:=hP;rw [Int.toNat_natCast] at c1 c2 c3 c4 c5;exact qq d ca H1 s1 hd c1 c2 c3 c4 c5
def a4b:Sp:=λvs H Q _=>∃ (a:Addr) (xs:List OI),vs=[.ref a]/\H a=some (.lst (xs.map oV))/\xs.length<=100/\∀ H',a0E H H'->Q (oV (lo xs)) H'
theorem b2W:a0u ["numbers"] ["numbers"] (a0e a3Y):=⟨rfl,rfl,rfl,by decide +kernel,rfl,by decide +kernel,by decide +kernel⟩
theorem ndLe:(("number":Str) :: ["numbers"]).Nodup:=by decide +kernel
theorem b0L (F:Fun K "least" "least" a3Y f fd) (mn:mg "min"=none):a1a P w K mg base CX0 1 f fd ["numbers"] a4b:=by
 refine F.ok (k:=0) b2W (λvs H Q E h=>?_) (λcdv A outer s H vs Q E hr h=>?_)
 ·obtain ⟨a,xs,rfl,_⟩:=h;rfl
 obtain ⟨a,xs,rfl,ha,l1,qq⟩:=h;refine ⟨_,a0h (a0v (b2A rfl (by rfl) mn (a0a (a1y (M:=["numbers"]) rfl (a0l.of (a0e a3Y) ["numbers"] rfl rfl rfl (by decide +kernel) (by decide +kernel) (by decide +kernel) rfl (by decide +kernel)) ndLe rfl (pv 0) a0R
   (λcl C s0 H0 fp=>⟨a5P (a7y (b1U (pv 0))),pv 0⟩)) a0f) (b2g a3B pk_nil))),?_⟩
 refine ⟨_,rfl,a,_,rfl,SqL.of ha,λd hd=>?_⟩;refine ⟨λi H'=>a0E H H'/\H' d=some (.lst (((xs.take i).filterMap id).map V.int)),⟨a0g hd _,a0b⟩,λi H' _ hP=>SqL.of (hP.1 _ _ ha),λi x H' hx hP=>?_,λH' hP=>?_⟩
 ·obtain ⟨s5,hd'⟩:=hP;have il:=(List.getElem?_eq_some_iff.mp hx).1;rw [List.length_map] at il;rw [List.getElem?_map] at hx;obtain ⟨z,hz,rfl⟩:=Option.map_eq_some_iff.mp hx;have et:(xs.take (i+1)).filterMap id=(xs.take i).filterMap id++[z].filterMap id:=by rw [List.take_add_one,hz,List.filterMap_append];rfl
  refine ⟨_,rfl,_,rfl,?_⟩;cases z with
  | none=>exact ⟨s5,by rw [et];simpa using hd'⟩
  | some v =>
   refine ⟨_,rfl,_,hd',?_,a0w hd s5,?_⟩
   ·rw [List.length_map];have:=List.length_filterMap_le id (xs.take i);rw [List.length_take] at this;exact a0p (by omega)
   ·rw [a0b,et,List.map_append];rfl
 ·obtain ⟨s5,hd'⟩:=hP;rw [List.length_map,List.take_length] at hd';refine ⟨d,_,rfl,rfl,hd',?_⟩;have:=qq H' s5;unfold lo at this;split
  ·rename_i h;rw [if_pos h] at this;exact this
  ·rename_i h;rw [if_neg h] at this;exact this
def a4c:Sp:=λvs H Q _=>∃ a b:OI,vs=[oV a,oV b]/\Q (oV (oadd a b)) H
theorem b2X:a0u ["one","other"] ["one","other"] (a0e a4v):=⟨rfl,rfl,rfl,by decide +kernel,rfl,by decide +kernel,by decide +kernel⟩
theorem b0M (F:Fun K "added" "added" a4v f fd):a1a P w K mg base CX0 1 f fd ["one","other"] a4c:=by
 refine F.ok (k:=0) b2X (λvs H Q E h=>?_) (λcdv A outer s H vs Q E hr h=>?_)
 ·obtain ⟨a,b,rfl,_⟩:=h;rfl
 obtain ⟨a,b,rfl,q⟩:=h;refine ⟨_,a0c (a0J (PW.pt (a7z (a7y (b0V (pv 0))) (a5e (a7y (b0V (pv 1)))))) (a0h (a0v a3B)) a0x) (a0h (a0v (a0m a0M (pv 0) (pv 1)))),?_⟩;refine ⟨_,rfl,_,rfl,?_⟩;cases a with
 | none=>exact q
 | some i =>
  refine a2v ?_;refine ⟨_,rfl,_,rfl,?_⟩;cases b with
  | none=>exact q
  | some j=>exact a2v ⟨_,rfl,_,rfl,_,_,rfl,rfl,q⟩
end
structure Tb (H:Hp) (a:Addr) (ba:Nat->Addr) (ca:Nat->Nat->Addr) (L s:Nat) (T:Nat->Nat->Nat->OI):Prop where
 o:H a=some (.lst ((List.range L).map λl=>.ref (ba l)))
 b:∀ l,l < L->H (ba l)=some (.lst ((List.range s).map λi=>.ref (ca l i)))
 c:∀ l i,l < L->i < s->H (ca l i)=some (.lst ((List.range s).map λj=>oV (T l i j)))
theorem Tb.same {H H':Hp} {a:Addr} {ba:Nat->Addr} {ca:Nat->Nat->Addr} {L s:Nat} {T:Nat->Nat->Nat->OI} (h:Tb H a ba ca L s T) (k:a0E H H'):Tb H' a ba ca L s T:=⟨k _ _ h.o,λl hl=>k _ _ (h.b l hl),λl i hl hi=>k _ _ (h.c l i hl hi)⟩
structure Ad where
 su:Addr
 th:Addr
 tt:Addr
 bh:Nat->Addr
 ch:Nat->Nat->Addr
 bt:Nat->Addr
 ct:Nat->Nat->Addr
def Z (X:Ad) (L s:Nat) (a:Addr):Prop:=(∃ l i,l < L/\i < s/\a=X.ch l i)\/∃ l i,l < L+1/\i < s/\a=X.ct l i
abbrev pf (p:Addr) (n:Int) (X:Ad):List (Str × V):=[("prices",.ref p),("things",.int n),("sums",.ref X.su),("heads",.ref X.th),("tails",.ref X.tt)]
structure PAt (C:Addr) (H:Hp) (r p:Addr) (ps ws:List Int) (X:Ad) (h t:Nat->Nat->Nat->OI):Prop where
 ob:∃ dx,H r=some (.ins C dx (pf p (ws.length:Int) X))
 hp:TW H p ps
 su:H X.su=some (.lst ((sums ws ws.length).map V.int))
 hd:Tb H X.th X.bh X.ch ps.length (ws.length+1) h
 tl:Tb H X.tt X.bt X.ct (ps.length+1) (ws.length+1) t
 ih:∀ l i l' i',l < ps.length->l' < ps.length->i < ws.length+1->i' < ws.length+1->X.ch l i=X.ch l' i'->l=l'/\i=i'
 it:∀ l i l' i',l < ps.length+1->l' < ps.length+1->i < ws.length+1->i' < ws.length+1->X.ct l i=X.ct l' i'->l=l'/\i=i'
 ix:∀ l i l' i',l < ps.length->l' < ps.length+1->i < ws.length+1->i' < ws.length+1->X.ch l i≠X.ct l' i'
 ns:¬ Z X ps.length (ws.length+1) X.su
theorem PAt.same {C:Addr} {H H':Hp} {r p:Addr} {ps ws:List Int} {X:Ad} {h t:Nat->Nat->Nat->OI} (a:PAt C H r p ps ws X h t) (k:a0E H H'):PAt C H' r p ps ws X h t:=by
 obtain ⟨dx,ho⟩:=a.ob;exact ⟨⟨dx,k _ _ ho⟩,k _ _ a.hp,k _ _ a.su,a.hd.same k,a.tl.same k,a.ih,a.it,a.ix,a.ns⟩
structure PC (K:PySem.W.Frag) (C:Addr):Prop where
 c:Cls K C
 np:a1l K C "prices"
 nn:a1l K C "things"
 ns:a1l K C "sums"
 nh:a1l K C "heads"
 nt:a1l K C "tails"
abbrev pf1 (p:Addr):List (Str × V):=[("prices",.ref p)]
abbrev pf2 (p:Addr) (n:Int):List (Str × V):=[("prices",.ref p),("things",.int n)]
abbrev pf3 (p:Addr) (n:Int) (su:Addr):List (Str × V):=[("prices",.ref p),("things",.int n),("sums",.ref su)]
abbrev pf4 (p:Addr) (n:Int) (su th:Addr):List (Str × V):=[("prices",.ref p),("things",.int n),("sums",.ref su),("heads",.ref th)]
structure a9c (H0 H':Hp) (s:Nat) (o:OI) (i:Nat) (ba:Nat->Addr) (ca:Nat->Nat->Addr) (d:Addr):Prop where
 same:a0E H0 H'
 fb:∀ l,l < i->H0 (ba l)=none
 fc:∀ l k,l < i->k < s->H0 (ca l k)=none
 inj:∀ l k l' k',l < i->l' < i->k < s->k' < s->ca l k=ca l' k'->l=l'/\k=k'
 nb:∀ l,l < i->ba l≠d
 nc:∀ l k,l < i->k < s->ca l k≠d
 lo_:H' d=some (.lst ((List.range i).map λl=>.ref (ba l)))
 lb:∀ l,l < i->H' (ba l)=some (.lst ((List.range s).map λk=>.ref (ca l k)))
 lc:∀ l k,l < i->k < s->H' (ca l k)=some (.lst (b1B s k o))
theorem a9c.start {H0:Hp} {s:Nat} {o:OI} {d:Addr} (hd:H0 d=none):a9c H0 (upd H0 d (.lst [])) s o 0 (λ_=>d) (λ_ _=>d) d :=
 ⟨a0g hd _,λl hl=>absurd hl (Nat.not_lt_zero _),λl k hl=>absurd hl (Nat.not_lt_zero _),λl k l' k' hl=>absurd hl (Nat.not_lt_zero _),λl hl=>absurd hl (Nat.not_lt_zero _),λl k hl=>absurd hl (Nat.not_lt_zero _),a0b,λl hl=>absurd hl (Nat.not_lt_zero _),λl k hl=>absurd hl (Nat.not_lt_zero _)⟩
theorem a9c.step {H0 H1 H2:Hp} {s:Nat} {o:OI} {i:Nat} {ba:Nat->Addr} {ca:Nat->Nat->Addr} {d b:Addr} {c':Nat->Addr} (hd:H0 d=none) (g:a9c H0 H1 s o i ba ca d) (k:a0E H1 H2) (fb:H1 b=none) (fc:∀ k,k < s->H1 (c' k)=none) (ij:∀ j k,j < s->k < s->c' j=c' k->j=k) (hb:H2 b=some (.lst ((List.range s).map λk=>.ref (c' k)))) (hc:∀ k,k < s->H2 (c' k)=some (.lst (b1B s k o))) :
  a9c H0 (upd H2 d (.lst (((List.range i).map λl=>V.ref (ba l))++[.ref b]))) s o (i+1) (ext ba i b) (ext ca i c') d:=by
 have bd:b≠d:=λz=>by rw [z,g.lo_] at fb;cases fb
 have cd:∀ k,k < s->c' k≠d:=λk hk z=>by
  have:=fc k hk;rw [z,g.lo_] at this;cases this
 have cc:∀ l k k',l < i->k < s->k' < s->ca l k≠c' k':=λl k k' hl hk hk' z=>by
  have:=fc k' hk';rw [<-z,g.lc l k hl hk] at this;cases this
 refine ⟨a0w hd (g.same.trans k),λl hl=>?_,λl m hl hm=>?_,λl m l' m' hl hl' hm hm' e=>?_,λl hl=>?_,λl m hl hm=>?_,?_,λl hl=>?_,λl m hl hm=>?_⟩
 ·by_cases z:l=i
  ·rw [a0T z];exact g.same.free fb
  ·rw [a1q z];exact g.fb l (by omega)
 ·by_cases z:l=i
  ·rw [a0T z];exact g.same.free (fc m hm)
  ·rw [a1q z];exact g.fc l m (by omega) hm
 ·by_cases z1:l=i <;> by_cases z2:l'=i
  ·rw [a0T z1,a0T z2] at e;exact ⟨by omega,ij m m' hm hm' e⟩
  ·rw [a0T z1,a1q z2] at e;exact absurd e.symm (cc l' m' m (by omega) hm' hm)
  ·rw [a1q z1,a0T z2] at e;exact absurd e (cc l m m' (by omega) hm hm')
  ·rw [a1q z1,a1q z2] at e;exact g.inj l m l' m' (by omega) (by omega) hm hm' e
 ·by_cases z:l=i
  ·rw [a0T z];exact bd
  ·rw [a1q z];exact g.nb l (by omega)
 ·by_cases z:l=i
  ·rw [a0T z];exact cd m hm
  ·rw [a1q z];exact g.nc l m (by omega) hm
 ·rw [a0b,List.range_succ,List.map_append];refine congrArg (λz=>some (HO.lst z)) ?_;congr 1
  ·refine List.map_congr_left λl hl=>?_;rw [a1q (by have:=List.mem_range.mp hl;omega)]
  ·show [V.ref b]=[V.ref (ext ba i b i)]
   rw [a0T rfl]
 ·by_cases z:l=i
  ·rw [a0T z,a0T z,a0j bd];exact hb
  ·rw [a1q z,a1q z,a0j (g.nb l (by omega))];exact k _ _ (g.lb l (by omega))
 ·by_cases z:l=i
  ·rw [a0T z,a0j (cd m hm)];exact hc m hm
  ·rw [a1q z,a0j (g.nc l m (by omega) hm)];exact k _ _ (g.lc l m (by omega) hm)
def a4U (r:Addr) (H H':Hp):Prop:=∀ a o,a≠r->H a=some o->H' a=some o
section
variable {P:Program} {w:World} {K:PySem.W.Frag} {mg:Str->Option Value} {base:Heap} {f:Addr} {fd:FuncData}
abbrev NI:List Str:=["self","prices","weights","side"]
abbrev h0:Nat->Nat->Nat->OI:=λ_ a b=>if b=a then none else none
abbrev t0:Nat->Nat->Nat->OI:=λ_ a b=>if b=a then some 0 else none
def a9d (C:Addr):Sp:=λvs H Q _=>∃ (r dx p q:Addr) (ps ws:List Int),vs=[.ref r,.ref p,.ref q]/\H r=some (.ins C dx [])/\TW H p ps/\TW H q ws/\1<=ps.length/\ps.length<=10/\ws.length<=20 /\
 ∀ H' X,a4U r H H'->PAt C H' r p ps ws X h0 t0->(∀ a,Z X ps.length (ws.length+1) a->H a=none)->Q .non H'
theorem a9e:a0u NI ["self","prices","weights"] (a0e a2n):=⟨rfl,rfl,rfl,by decide +kernel,rfl,by decide +kernel,by decide +kernel⟩
theorem ndI1:(("price":Str) :: NI).Nodup:=by decide +kernel
theorem ndI2:(("letter":Str) :: NI).Nodup:=by decide +kernel
theorem b0N {C:Addr} (F:Fun K "__init__" "Parted.__init__" a2n f fd) (GS:Fns P w K mg base ["weights"] "weight_sums" a8X 2) (GQ:Fns P w K mg base ["side","diagonal"] "square" a3w 2) (rc:PC K C) (ml:mg "len"=none) (mr:mg "range"=none):a1a P w K mg base CX0 3 f fd ["self","prices","weights"] (a9d C):=by
 refine F.ok (k:=2) a9e (λvs H Q E h=>?_) (λcdv A outer s H vs Q E hr h=>?_)
 ·obtain ⟨r,dx,p,q,ps,ws,rfl,_⟩:=h;rfl
 obtain ⟨r,dx,p,q,ps,ws,rfl,hr0,hp,hq,p1,p10,w20,qq⟩:=h;refine ⟨_,a0c (a1w (pv 0) (pv 1) rfl)
  (a0c (a1w (pv 0) (a0t a0r (by rfl) ml PySem.boot_len (a0a (pv 2) a0f)) rfl)
  (a0c (a1w (pv 0) (a0q GS.ok hr (by rfl) GS.m GS.kp GS.b .nil a0D (a0a (pv 2) a0f)) rfl)
  (a0c (a0z (i:=3) a9e.nd rfl (Or.inr rfl) (a0m a0M (a0F (pv 0) rfl) a0d))
  (a0c (a1w (pv 0) (a9Z (M:=NI) rfl (a0l.of (a0e a2n) NI rfl rfl rfl (by decide +kernel) (by decide +kernel) (by decide +kernel) rfl (by decide +kernel)) ndI1 rfl (pv 1) a0R
   (λcl C s0 H0 fp=>⟨a0L,a0q GQ.ok hr (by rfl) GQ.m GQ.kp GQ.b .nil a0D (a0a (pv 4) (a0a a3B a0f))⟩)) rfl)
  (a0h (a1w (pv 0) (a1P (M:=NI) rfl (a0l.of (a0e a2n) NI rfl rfl rfl (by decide +kernel) (by decide +kernel) (by decide +kernel) rfl (by decide +kernel)) ndI2 rfl (by rfl) mr (a0a (a0m a0M (a0t a0r (by rfl) ml PySem.boot_len (a0a (pv 1) a0f)) a0d) a0f) (a1k (b0a a6r (b1e (a1k a0R a1U)) mo_c) a1U)
   (λcl C s0 H0 fp=>⟨a0L,a0q GQ.ok hr (by rfl) GQ.m GQ.kp GQ.b .nil a0D (a0a (pv 4) (a0a a0d a0f))⟩)) rfl)))))),?_⟩
 have pr:p≠r:=a0I hp hr0 (by intro z;cases z);have qr:q≠r:=a0I hq hr0 (by intro z;cases z);refine ⟨_,rfl,_,rfl,r,C,dx,_,rfl,hr0,rc.c,rc.np,(by show 0 < 1000;decide),?_⟩;rw [show a1x "prices" (V.ref p) []=(pf1 p) from rfl];have g1:upd H r (.ins C dx (pf1 p)) r=some (.ins C dx (pf1 p)):=a0b;have k1:a4U r H (upd H r (.ins C dx (pf1 p))):=λa o ha e=>by rw [a0j ha];exact e
 have f1:∀ a,upd H r (.ins C dx (pf1 p)) a=none->H a=none:=λa e=>by
  by_cases z:a=r
  ·subst z;rw [a0b] at e;cases e
  ·rw [a0j z] at e;exact e
 generalize upd H r (.ins C dx (pf1 p))=H1 at g1 k1 f1 ⊢;refine ⟨_,rfl,q,_,rfl,.inr (SqT.of (k1 _ _ qr hq)),_,rfl,r,C,dx,_,rfl,g1,rc.c,rc.nn,(by show 1 < 1000;decide),?_⟩;rw [List.length_map,show a1x "things" (V.int (ws.length:Int)) (pf1 p)=(pf2 p (ws.length:Int)) from rfl];have g2:upd H1 r (.ins C dx (pf2 p (ws.length:Int))) r=some (.ins C dx (pf2 p (ws.length:Int))):=a0b;have k2:a4U r H (upd H1 r (.ins C dx (pf2 p (ws.length:Int)))):=λa o ha e=>by rw [a0j ha];exact k1 a o ha e
 have f2:∀ a,upd H1 r (.ins C dx (pf2 p (ws.length:Int))) a=none->H a=none:=λa e=>by
  by_cases z:a=r
  ·subst z;rw [a0b] at e;cases e
  ·rw [a0j z] at e;exact f1 a e
 generalize upd H1 r (.ins C dx (pf2 p (ws.length:Int)))=H2 at g2 k2 f2 ⊢;refine ⟨_,rfl,q,ws,rfl,k2 _ _ qr hq,by omega,λsu H3 s3 hn3 hs3=>?_⟩;have g3:=s3 _ _ g2;refine ⟨_,rfl,r,C,dx,_,rfl,g3,rc.c,rc.ns,(by show 2 < 1000;decide),?_⟩;have sr:su≠r:=a0I hs3 g3 (by intro z;cases z);rw [show a1x "sums" (V.ref su) (pf2 p (ws.length:Int))=(pf3 p (ws.length:Int) su) from rfl];have g4:upd H3 r (.ins C dx (pf3 p (ws.length:Int) su)) r=some (.ins C dx (pf3 p (ws.length:Int) su)):=a0b;have k4:a4U r H (upd H3 r (.ins C dx (pf3 p (ws.length:Int) su))):=λa o ha e=>by rw [a0j ha];exact s3 _ _ (k2 a o ha e)
 have f4:∀ a,upd H3 r (.ins C dx (pf3 p (ws.length:Int) su)) a=none->H a=none:=λa e=>by
  by_cases z:a=r
  ·subst z;rw [a0b] at e;cases e
  ·rw [a0j z] at e;exact f2 a (s3.free e)
 have hs4:upd H3 r (.ins C dx (pf3 p (ws.length:Int) su)) su=some (.lst ((sums ws ws.length).map V.int)):=by rw [a0j sr];exact hs3
 generalize upd H3 r (.ins C dx (pf3 p (ws.length:Int) su))=H4 at g4 k4 f4 hs4 ⊢;refine ⟨_,rfl,r,C,dx,_,_,rfl,g4,rc.c,rc.nn,rfl,_,_,rfl,rfl,?_⟩;have hp4:TW H4 p ps:=k4 _ _ pr hp;refine ⟨_,rfl,p,_,rfl,SqT.of hp4,λth hth=>?_⟩;refine ⟨λi H'=>∃ ba ca,a9c H4 H' (ws.length+1) none i ba ca th,⟨_,_,a9c.start hth⟩,λi H' _ hP=>(by obtain ⟨ba,ca,g⟩:=hP;exact SqT.of (g.same _ _ hp4)),λi x H' hx hP=>?_,λH5 hP=>?_⟩
 ·obtain ⟨ba,ca,g⟩:=hP;have il:=(List.getElem?_eq_some_iff.mp hx).1;rw [List.length_map] at il;refine a0G ⟨_,rfl,ws.length+1,none,rfl,by omega,λb c' H6 s6 fb fc ij cb hb hc=>⟨_,s6 _ _ g.lo_,?_,_,_,g.step hth s6 fb fc ij hb hc⟩⟩;rw [List.length_map,List.length_range];exact a0p (by omega)
 obtain ⟨bh,ch,gh⟩:=hP;rw [List.length_map] at gh;have g5:=gh.same _ _ g4;refine ⟨_,rfl,r,C,dx,_,rfl,g5,rc.c,rc.nh,(by show 3 < 1000;decide),?_⟩;rw [show a1x "heads" (V.ref th) (pf3 p (ws.length:Int) su)=(pf4 p (ws.length:Int) su th) from rfl];have rh1:th≠r:=a0I gh.lo_ g5 (by intro z;cases z);have rh2:∀ l,l < ps.length->bh l≠r:=λl hl=>a0I (gh.lb l hl) g5 (by intro z;cases z);have rh3:∀ l k,l < ps.length->k < ws.length+1->ch l k≠r:=λl k hl hk=>a0I (gh.lc l k hl hk) g5 (by intro z;cases z);have tb6:Tb (upd H5 r (.ins C dx (pf4 p (ws.length:Int) su th))) th bh ch ps.length (ws.length+1) h0:=⟨by rw [a0j rh1];exact gh.lo_,λl hl=>by rw [a0j (rh2 l hl)];exact gh.lb l hl,λl k hl hk=>by rw [a0j (rh3 l k hl hk)];exact gh.lc l k hl hk⟩
 have g6:upd H5 r (.ins C dx (pf4 p (ws.length:Int) su th)) r=some (.ins C dx (pf4 p (ws.length:Int) su th)):=a0b;have k46:a4U r H4 (upd H5 r (.ins C dx (pf4 p (ws.length:Int) su th))):=λa o ha e=>by rw [a0j ha];exact gh.same _ _ e
 have f6:∀ a,upd H5 r (.ins C dx (pf4 p (ws.length:Int) su th)) a=none->H4 a=none:=λa e=>by
  by_cases z:a=r
  ·subst z;rw [a0b] at e;cases e
  ·rw [a0j z] at e;exact gh.same.free e
 generalize upd H5 r (.ins C dx (pf4 p (ws.length:Int) su th))=H6 at tb6 g6 k46 f6 ⊢;have hp6:TW H6 p ps:=k46 _ _ pr hp4;have hs6:=k46 _ _ sr hs4;refine ⟨_,rfl,p,_,rfl,.inr (SqT.of hp6),_,_,rfl,rfl,_,rfl,by rw [List.length_map];omega,by rw [List.length_map];omega,λtt htt=>?_⟩;have en:((((ps.map V.int).length:Nat):Int)+1).toNat=ps.length+1:=by rw [List.length_map];omega
 rw [en];refine ⟨λi H'=>∃ ba ca,a9c H6 H' (ws.length+1) (some 0) i ba ca tt,⟨_,_,a9c.start htt⟩,λi H' hi hP=>?_,λH7 hP=>?_⟩
 ·obtain ⟨ba,ca,g⟩:=hP;refine a0G ⟨_,rfl,ws.length+1,some 0,rfl,by omega,λb c' H8 s8 fb fc ij cb hb hc=>⟨_,s8 _ _ g.lo_,?_,_,_,g.step htt s8 fb fc ij hb hc⟩⟩;rw [List.length_map,List.length_range];exact a0p (by omega)
 obtain ⟨bt,ct,gt⟩:=hP;have g7:=gt.same _ _ g6;refine ⟨_,rfl,r,C,dx,_,rfl,g7,rc.c,rc.nt,(by show 4 < 1000;decide),?_⟩;rw [show a1x "tails" (V.ref tt) (pf4 p (ws.length:Int) su th)=pf p (ws.length:Int) ⟨su,th,tt,bh,ch,bt,ct⟩ from rfl];have rt1:tt≠r:=a0I gt.lo_ g7 (by intro z;cases z);have rt2:∀ l,l < ps.length+1->bt l≠r:=λl hl=>a0I (gt.lb l hl) g7 (by intro z;cases z);have rt3:∀ l k,l < ps.length+1->k < ws.length+1->ct l k≠r:=λl k hl hk=>a0I (gt.lc l k hl hk) g7 (by intro z;cases z);have k68:a4U r H6 (upd H7 r (.ins C dx (pf p (ws.length:Int) ⟨su,th,tt,bh,ch,bt,ct⟩))):=λa o ha e=>by rw [a0j ha];exact gt.same _ _ e
 refine qq _ ⟨su,th,tt,bh,ch,bt,ct⟩ (λa o ha e=>k68 a o ha (k46 a o ha (k4 a o ha e))) ⟨⟨dx,a0b⟩,k68 _ _ pr hp6,k68 _ _ sr hs6,⟨k68 _ _ rh1 tb6.o,λl hl=>k68 _ _ (rh2 l hl) (tb6.b l hl),λl k hl hk=>k68 _ _ (rh3 l k hl hk) (tb6.c l k hl hk)⟩,⟨by rw [a0j rt1];exact gt.lo_,λl hl=>by rw [a0j (rt2 l hl)];exact gt.lb l hl,λl k hl hk=>by rw [a0j (rt3 l k hl hk)];exact gt.lc l k hl hk⟩,λl i l' i' hl hl' hi hi' e=>gh.inj l i l' i' hl hl' hi hi' e,λl i l' i' hl hl' hi hi' e=>gt.inj l i l' i' hl hl' hi hi' e,λl i l' i' hl hl' hi hi' e=>?_,λz=>?_⟩ λa hz=>?_
 ·have e1:=gt.fc l' i' hl' hi';have e:ch l i=ct l' i':=e;rw [<-e,tb6.c l i hl hi] at e1;cases e1
 ·rcases z with ⟨l,i,hl,hi,e⟩ | ⟨l,i,hl,hi,e⟩
  ·have e1:=gh.fc l i hl hi;have e:su=ch l i:=e;rw [<-e,hs4] at e1;cases e1
  ·have e1:=gt.fc l i hl hi;have e:su=ct l i:=e;rw [<-e,hs6] at e1;cases e1
 ·rcases hz with ⟨l,i,hl,hi,e⟩ | ⟨l,i,hl,hi,e⟩
  ·have e:a=ch l i:=e;rw [e];exact f4 _ (gh.fc l i hl hi)
  ·have e:a=ct l i:=e;rw [e];exact f4 _ (f6 _ (gt.fc l i hl hi))
end
theorem a0N {f:Nat->V} {n k:Nat} (h:k < n):atI ((List.range n).map f) (k:Int)=some (f k):=a1G (by rw [List.getElem?_map,List.getElem?_range h];rfl)
theorem b1C {K:PySem.W.Frag} {ta:TE} {f:Str} (h:a2L ta):a2L (tFld K ta f):=λσ H Q Q' hq q=>h σ H _ _ (λv H1 ⟨a,C,dx,fs,u,e1,e2,e3,e4,e5,q1⟩=>⟨a,C,dx,fs,u,e1,e2,e3,e4,e5,hq _ _ q1⟩) q
structure Mt (P:Program) (w:World) (K:PySem.W.Frag) (mg:Str->Option Value) (base:Heap) (C:Addr) (name:Str) (ps:List Str) (sp:Sp) (k:Nat) where
 f:Addr
 fd:FuncData
 m:b2c K C name f
 ok:a1a P w K mg base CX0 k f fd ps sp
 b:a1X K fd ps []
def Mt.up {P:Program} {w:World} {K:PySem.W.Frag} {mg:Str->Option Value} {base:Heap} {C:Addr} {name:Str} {ps:List Str} {sp:Sp} {j k:Nat} (f:Mt P w K mg base C name ps sp j) (h:j<=k):Mt P w K mg base C name ps sp k:=⟨f.f,f.fd,f.m,f.ok.mono h,f.b⟩
def up3 (T:Nat->Nat->Nat->OI) (l i j:Nat) (v:OI):Nat->Nat->Nat->OI:=λl' i' j'=>if l'=l/\i'=i/\j'=j then v else T l' i' j'
theorem a6G {T:Nat->Nat->Nat->OI} {l i j:Nat} {v:OI}:up3 T l i j v l i j=v:=if_pos ⟨rfl,rfl,rfl⟩
theorem a3p {T:Nat->Nat->Nat->OI} {l i j l' i' j':Nat} {v:OI} (h:¬ (l'=l/\i'=i/\j'=j)):up3 T l i j v l' i' j'=T l' i' j':=if_neg h
theorem a9f {T:Nat->Nat->Nat->OI} {l i j s:Nat} {v:OI} (hj:j < s):((List.range s).map λk=>oV (T l i k)).set j (oV v)=(List.range s).map λk=>oV (up3 T l i j v l i k):=by
 refine List.ext_getElem? λk=>?_;rw [List.getElem?_map];by_cases hk:k < s
 ·rw [List.getElem?_range hk];by_cases e:j=k
  ·subst e;rw [List.getElem?_set_self (by rw [List.length_map,List.length_range];exact hk)];show some (oV v)=some (oV (up3 T l i j v l i j));rw [a6G]
  ·rw [List.getElem?_set_ne e,List.getElem?_map,List.getElem?_range hk];show some (oV (T l i k))=some (oV (up3 T l i j v l i k));rw [a3p λz=>e z.2.2.symm]
 ·rw [List.getElem?_eq_none (by rw [List.length_set,List.length_map,List.length_range];omega),List.getElem?_eq_none (by rw [List.length_range];omega)];rfl
theorem a3h {f:Nat->Addr} {g:Nat->OI} {m n:Nat} (hm:0 < m) (hn:0 < n):(List.range m).map (λl=>V.ref (f l))≠(List.range n).map λj=>oV (g j):=λz=>by
 have h1:((List.range m).map (λl=>V.ref (f l)))[0]?=some (V.ref (f 0)):=by rw [List.getElem?_map,List.getElem?_range hm];rfl
 have h2:((List.range n).map λj=>oV (g j))[0]?=some (oV (g 0)):=by rw [List.getElem?_map,List.getElem?_range hn];rfl
 rw [z,h2] at h1;cases hg:g 0 <;> (rw [hg] at h1;cases h1)
theorem Tb.keep {H:Hp} {a c:Addr} {ba:Nat->Addr} {ca:Nat->Nat->Addr} {L s:Nat} {T:Nat->Nat->Nat->OI} {g:Nat->OI} {n:Nat} {o:HO} (h:Tb H a ba ca L s T) (hL:0 < L) (hs:0 < s) (hn:0 < n) (hc:H c=some (.lst ((List.range n).map λj=>oV (g j)))) (nc:∀ l i,l < L->i < s->ca l i≠c):Tb (upd H c o) a ba ca L s T:=by
 refine ⟨?_,λl hl=>?_,λl i hl hi=>?_⟩
 ·rw [a0j (a0I h.o hc (λz=>a3h hL hn (HO.lst.inj z)))];exact h.o
 ·rw [a0j (a0I (h.b l hl) hc (λz=>a3h hs hn (HO.lst.inj z)))];exact h.b l hl
 ·rw [a0j (nc l i hl hi)];exact h.c l i hl hi
theorem Tb.put {H:Hp} {a:Addr} {ba:Nat->Addr} {ca:Nat->Nat->Addr} {L s:Nat} {T:Nat->Nat->Nat->OI} {l i j:Nat} {v:OI} (h:Tb H a ba ca L s T) (inj:∀ l i l' i',l < L->l' < L->i < s->i' < s->ca l i=ca l' i'->l=l'/\i=i') (hl:l < L) (hi:i < s) (hj:j < s) :
  Tb (upd H (ca l i) (.lst (((List.range s).map λk=>oV (T l i k)).set j (oV v)))) a ba ca L s (up3 T l i j v):=by
 rw [a9f hj];have hc:=h.c l i hl hi;refine ⟨?_,λl' hl'=>?_,λl' i' hl' hi'=>?_⟩
 ·rw [a0j (a0I h.o hc (λz=>a3h (m:=L) (n:=s) (by omega) (by omega) (HO.lst.inj z)))];exact h.o
 ·rw [a0j (a0I (h.b l' hl') hc (λz=>a3h (m:=s) (n:=s) (by omega) (by omega) (HO.lst.inj z)))];exact h.b l' hl'
 ·by_cases e:l'=l/\i'=i
  ·obtain ⟨rfl,rfl⟩:=e;rw [a0b]
  ·rw [a0j (λz=>e (inj l' i' l i hl' hl hi' hi z)),h.c l' i' hl' hi'];refine congrArg (λz=>some (HO.lst z)) (List.map_congr_left λk _=>?_);rw [a3p λz=>e ⟨z.1,z.2.1⟩]
theorem PAt.puth {C:Addr} {H:Hp} {r p:Addr} {ps ws:List Int} {X:Ad} {h t:Nat->Nat->Nat->OI} {l i j:Nat} {v:OI} (a:PAt C H r p ps ws X h t) (hl:l < ps.length) (hi:i < ws.length+1) (hj:j < ws.length+1) :
  PAt C (upd H (X.ch l i) (.lst (((List.range (ws.length+1)).map λk=>oV (h l i k)).set j (oV v)))) r p ps ws X (up3 h l i j v) t:=by
 obtain ⟨dx,ho⟩:=a.ob;have hc:=a.hd.c l i hl hi;refine ⟨⟨dx,?_⟩,?_,?_,a.hd.put a.ih hl hi hj,a.tl.keep (by omega) (by omega) (by omega) hc λl' i' hl' hi'=>Ne.symm (a.ix l i l' i' hl hl' hi hi'),a.ih,a.it,a.ix,a.ns⟩
 ·rw [a0j (a0I ho hc (by intro z;cases z))];exact ho
 ·show upd _ _ _ p=_;rw [a0j (a0I a.hp hc (by intro z;cases z))];exact a.hp
 ·rw [a0j (λz=>a.ns (.inl ⟨l,i,hl,hi,z⟩))];exact a.su
theorem PAt.putt {C:Addr} {H:Hp} {r p:Addr} {ps ws:List Int} {X:Ad} {h t:Nat->Nat->Nat->OI} {l i j:Nat} {v:OI} (a:PAt C H r p ps ws X h t) (hL:0 < ps.length) (hl:l < ps.length+1) (hi:i < ws.length+1) (hj:j < ws.length+1) :
  PAt C (upd H (X.ct l i) (.lst (((List.range (ws.length+1)).map λk=>oV (t l i k)).set j (oV v)))) r p ps ws X h (up3 t l i j v):=by
 obtain ⟨dx,ho⟩:=a.ob;have hc:=a.tl.c l i hl hi;refine ⟨⟨dx,?_⟩,?_,?_,a.hd.keep hL (by omega) (by omega) hc λl' i' hl' hi'=>a.ix l' i' l i hl' hl hi' hi,a.tl.put a.it hl hi hj,a.ih,a.it,a.ix,a.ns⟩
 ·rw [a0j (a0I ho hc (by intro z;cases z))];exact ho
 ·show upd _ _ _ p=_;rw [a0j (a0I a.hp hc (by intro z;cases z))];exact a.hp
 ·rw [a0j (λz=>a.ns (.inr ⟨l,i,hl,hi,z⟩))];exact a.su
def KZ (X:Ad) (L s:Nat) (H H':Hp):Prop:=∀ a o,¬ Z X L s a->H a=some o->H' a=some o
section
variable {P:Program} {w:World} {K:PySem.W.Frag} {mg:Str->Option Value} {base:Heap} {f:Addr} {fd:FuncData}
abbrev lsum (h t:Nat->Nat->Nat->OI) (l i j k:Nat):OI:=lo ((List.range (k - i)).map λb=>oadd (h l i (i+b+1)) (t (l+1) (i+b+1) j))
abbrev NLs:List Str:=["self","letter","first","end","last","heads","tails"]
def spLs (C:Addr):Sp:=λvs H Q _=>∃ (r p:Addr) (ps ws:List Int) (X:Ad) (h t:Nat->Nat->Nat->OI) (l i j k:Nat),vs=[.ref r,.int (l:Int),.int (i:Int),.int (j:Int),.int (k:Int)]/\PAt C H r p ps ws X h t/\ws.length<=20/\l < ps.length/\i<=k/\k<=ws.length/\j<=ws.length/\∀ H',a0E H H'->Q (oV (lsum h t l i j k)) H'
theorem scLs:a0u NLs ["self","letter","first","end","last"] (a0e sLs):=⟨rfl,rfl,rfl,by decide +kernel,rfl,by decide +kernel,by decide +kernel⟩
theorem ndLs:(("cut":Str) :: NLs).Nodup:=by decide +kernel
theorem b2Y {C:Addr} (F:Fun K "least_sum" "Parted.least_sum" sLs f fd) (GL:Fns P w K mg base ["numbers"] "least" a4b 1) (GA:Fns P w K mg base ["one","other"] "added" a4c 1) (rc:PC K C) (mr:mg "range"=none):a1a P w K mg base CX0 2 f fd ["self","letter","first","end","last"] (spLs C):=by
 refine F.ok (k:=1) scLs (λvs H Q E h=>?_) (λcdv A outer s H vs Q E hr h=>?_)
 ·obtain ⟨r,p,ps,ws,X,h,t,l,i,j,k,rfl,_⟩:=h;rfl
 obtain ⟨r,p,ps,ws,X,h,t,l,i,j,k,rfl,pa,w20,hl,hik,hk,hj,q⟩:=h;refine ⟨_,a0c (a0z (i:=5) scLs.nd rfl (Or.inr rfl) (a0n a0k (a0n a0k (a0F (pv 0) rfl) (pv 1) (λ_ _=>rfl)) (pv 2) (λ_ _=>rfl)))
  (a0c (a0z (i:=6) scLs.nd rfl (Or.inr rfl) (a0n a0k (a0F (pv 0) rfl) (a0m a0M (pv 1) a0d) (λ_ _=>rfl)))
  (a0h (a0v (a0q GL.ok hr (by rfl) GL.m GL.kp GL.b .nil a0D (a0a (a8f (M:=NLs) rfl (a0l.of (a0e sLs) NLs rfl rfl rfl (by decide +kernel) (by decide +kernel) (by decide +kernel) rfl (by decide +kernel)) ndLs rfl (by rfl) mr (a0a (a0m a0M (pv 2) a0d) (a0a (a0m a0M (pv 4) a0d) a0f)) (a1k (b0a a6r a0R mo_c) (a1k (b0a a6r a0R mo_c) a1U))
   (λcl C s0 H0 fp=>⟨a0L,a0q GA.ok hr (by rfl) GA.m GA.kp GA.b .nil a0D (a0a (a0n (ixL K) (pv 6) (pv 0) (λ_ _=>rfl)) (a0a (a0n (ixL K) (a0n (ixL K) (pv 7) (pv 0) (λ_ _=>rfl)) (pv 4) (λ_ _=>rfl)) a0f))⟩)) a0f))))),?_⟩
 obtain ⟨dx,ho⟩:=pa.ob;have i1:i < ws.length+1:=by omega
 have hT:=pa.hd;have tT:=pa.tl;refine ⟨_,rfl,r,C,dx,_,_,rfl,ho,rc.c,rc.nh,rfl,_,rfl,X.th,_,_,_,rfl,rfl,SqL.of hT.o,a0N hl,_,rfl,X.bh l,_,_,_,rfl,rfl,SqL.of (hT.b l hl),a0N i1,?_⟩;refine ⟨_,rfl,r,C,dx,_,_,rfl,ho,rc.c,rc.nt,rfl,_,rfl,_,_,rfl,rfl,X.tt,_,_,_,rfl,rfl,SqL.of tT.o,a0N (k:=l+1) (by omega),?_⟩;refine ⟨_,rfl,_,_,rfl,rfl,_,rfl,_,_,rfl,rfl,_,_,rfl,⟨by omega,by omega,by omega,by omega⟩,λd hd=>?_⟩;have en:(((k:Int)+1) - ((i:Int)+1)).toNat=k - i:=by omega
 dsimp only;rw [en];refine ⟨λb H'=>a0E H H'/\H' d=some (.lst (((List.range b).map λb=>oadd (h l i (i+b+1)) (t (l+1) (i+b+1) j)).map oV)),⟨a0g hd _,a0b⟩,λb H' hb hP=>?_,λH' hP=>?_⟩
 ·obtain ⟨s5,hd'⟩:=hP;have eb:(i:Int)+1+(b:Int)=((i+b+1:Nat):Int):=by push_cast;omega
  rw [eb];have hb1:i+b+1 < ws.length+1:=by omega
  refine a0G ⟨_,rfl,_,rfl,X.ch l i,_,_,_,rfl,rfl,SqL.of (s5 _ _ (hT.c l i hl i1)),a0N hb1,_,rfl,_,rfl,X.bt (l+1),_,_,_,rfl,rfl,SqL.of (s5 _ _ (tT.b (l+1) (by omega))),a0N hb1,_,rfl,X.ct (l+1) (i+b+1),_,_,_,rfl,rfl,SqL.of (s5 _ _ (tT.c (l+1) (i+b+1) (by omega) hb1)),a0N (k:=j) (by omega),_,_,rfl,_,hd',?_,a0w hd s5,?_⟩
  ·rw [List.length_map,List.length_map,List.length_range];exact a0p (by omega)
  ·rw [a0b,List.range_succ,List.map_append,List.map_append];rfl
 ·obtain ⟨s5,hd'⟩:=hP;exact ⟨d,_,rfl,hd',by rw [List.length_map,List.length_range];omega,λH6 s6=>q H6 (s5.trans s6)⟩
abbrev NB:List Str:=["self","first","end"]
def a6a (C:Addr):Sp:=λvs H Q _=>∃ (r p:Addr) (ps ws:List Int) (X:Ad) (h t:Nat->Nat->Nat->OI) (i j:Nat),vs=[.ref r,.int (i:Int),.int (j:Int)]/\PAt C H r p ps ws X h t/\ws.length<=20/\ps.length<=10/\i < j/\j<=ws.length/\∀ H',a0E H H'->Q (oV (bnd ps.length h t i j)) H'
theorem b2Z:a0u NB ["self","first","end"] (a0e a3Z):=⟨rfl,rfl,rfl,by decide +kernel,rfl,by decide +kernel,by decide +kernel⟩
theorem ndB:(("letter":Str) :: NB).Nodup:=by decide +kernel
theorem b0O {C:Addr} (F:Fun K "bound" "Parted.bound" a3Z f fd) (GL:Fns P w K mg base ["numbers"] "least" a4b 2) (M:Mt P w K mg base C "least_sum" ["self","letter","first","end","last"] (spLs C) 2) (rc:PC K C) (ml:mg "len"=none) (mr:mg "range"=none):a1a P w K mg base CX0 3 f fd ["self","first","end"] (a6a C):=by
 refine F.ok (k:=2) b2Z (λvs H Q E h=>?_) (λcdv A outer s H vs Q E hr h=>?_)
 ·obtain ⟨r,p,ps,ws,X,h,t,i,j,rfl,_⟩:=h;rfl
 obtain ⟨r,p,ps,ws,X,h,t,i,j,rfl,pa,w20,p10,hij,hj,q⟩:=h;refine ⟨_,a0c (a0J (a0y a1g (a0m a2x (pv 2) (pv 1)) a0d (nomark _)) (a0h (a0v a0d)) a0x)
  (a0h (a0v (a0q GL.ok hr (by rfl) GL.m GL.kp GL.b .nil a0D (a0a (a1P (M:=NB) rfl (a0l.of (a0e a3Z) NB rfl rfl rfl (by decide +kernel) (by decide +kernel) (by decide +kernel) rfl (by decide +kernel)) ndB rfl (by rfl) mr (a0a (a0t a0r (by rfl) ml PySem.boot_len (a0a (a0F (pv 0) rfl) a0f)) a0f) (a1k (b1e (a1k (b1C a0R) a1U)) a1U)
   (λcl C s0 H0 fp=>⟨a0L,a1F (pv 1) rc.c M.m M.ok hr M.b .nil a0D (a0a (pv 0) (a0a (pv 2) (a0a (pv 3) (a0a (a0m a2x (pv 3) a0d) a0f))))⟩)) a0f)))),?_⟩
 obtain ⟨dx,ho⟩:=pa.ob;refine ⟨_,rfl,_,rfl,_,_,rfl,rfl,rfl,_,rfl,?_⟩;refine a1K (λz=>?_) (λz=>?_)
 ·have z1:j - i=1:=by
   have y:V.int ((j:Int) - (i:Int))=V.int 1:=of_decide_eq_true z;have:=V.int.inj y;omega
  have:=q H (a0E.refl _);unfold bnd at this;rw [if_pos z1] at this;exact this
 ·have z1:¬ j - i=1:=λy=>z (decide_eq_true (by show V.int ((j:Int) - (i:Int))=V.int 1;congr 1;omega));unfold bnd at q;rw [if_neg z1] at q;refine ⟨_,rfl,r,C,dx,_,_,rfl,ho,rc.c,rc.np,rfl,p,_,rfl,.inr (SqT.of pa.hp),_,rfl,by rw [List.length_map];omega,by rw [List.length_map];omega,λd hd=>?_⟩;rw [List.length_map,Int.toNat_natCast];refine ⟨λl H'=>a0E H H'/\H' d=some (.lst (((List.range l).map λl=>lsum h t l i j (j - 1)).map oV)),⟨a0g hd _,a0b⟩,λl H' hl hP=>?_,λH' hP=>?_⟩
  ·obtain ⟨s5,hd'⟩:=hP;rw [show (0:Int)+(l:Int)=(l:Int) from Int.zero_add _];have ej:(j:Int) - 1=((j - 1:Nat):Int):=by omega
   refine a0G ⟨_,rfl,r,dx,_,rfl,s5 _ _ ho,rfl,_,rfl,_,rfl,_,rfl,_,rfl,_,_,rfl,rfl,r,p,ps,ws,X,h,t,l,i,j,j - 1,(by show V.ref r :: ([V.int (l:Int),V.int (i:Int),V.int (j:Int),V.int ((j:Int) - 1)]++[])=_;rw [ej];rfl),pa.same s5,w20,hl,by omega,by omega,hj,λH6 s6=>⟨_,s6 _ _ hd',?_,a0w hd (s5.trans s6),?_⟩⟩
   ·rw [List.length_map,List.length_map,List.length_range];exact a0p (by omega)
   ·rw [a0b,List.range_succ,List.map_append,List.map_append];rfl
  ·obtain ⟨s5,hd'⟩:=hP;exact ⟨d,_,rfl,hd',by rw [List.length_map,List.length_range];omega,λH6 s6=>q H6 (s5.trans s6)⟩
end
def Wt (ws:List Int) (i j:Nat):Int:=(ws.take j).sum - (ws.take i).sum
abbrev pl (ps:List Int) (l:Nat):Int:=ps.getD l 0
def Bw (ns:List Int):Prop:=∀ x∈ns,0<=x/\x<=B30
theorem sum_bd {ns:List Int} (h:Bw ns):0<=ns.sum/\ns.sum<=ns.length * B30:=by
 induction ns with
 | nil=>simp
 | cons a t ih =>
  have h1:=h a (.head _);have h2:=ih λx hx=>h x (.tail _ hx);rw [List.sum_cons,List.length_cons];have e:(((t.length+1:Nat):Int)) * B30=t.length * B30+B30:=by push_cast;rw [Int.add_mul];omega
  rw [e];omega
theorem Wt_is {ws:List Int} {i j:Nat} (h:i<=j):Wt ws i j=((ws.take j).drop i).sum:=by
 have e:ws.take j=ws.take i++(ws.take j).drop i:=by
  have:=(List.take_append_drop i (ws.take j)).symm;rw [List.take_take,Nat.min_eq_left h] at this;exact this
 unfold Wt;have e2:(ws.take j).sum=(ws.take i).sum+((ws.take j).drop i).sum:=by rw [<-List.sum_append,<-e]
 omega
theorem Wt_bd {ws:List Int} {i j:Nat} (h:i<=j) (b:Bw ws) (l:ws.length<=20):0<=Wt ws i j/\Wt ws i j<=20 * B30:=by
 rw [Wt_is h];have b2:Bw ((ws.take j).drop i):=λx hx=>b x (List.mem_of_mem_take (List.mem_of_mem_drop hx));have:=sum_bd b2;have l2:((ws.take j).drop i).length<=20:=by rw [List.length_drop,List.length_take];omega
 refine ⟨this.1,Int.le_trans this.2 ?_⟩;exact Int.mul_le_mul_of_nonneg_right (by omega) (by decide)
theorem a2s {h1 h2 t1 t2:Nat->Nat->Nat->OI} {l i j k:Nat} (eh:∀ b,i < b->b<=k->h1 l i b=h2 l i b) (et:∀ a,i < a->a<=k->t1 (l+1) a j=t2 (l+1) a j):lsum h1 t1 l i j k=lsum h2 t2 l i j k:=by
 show lo _=lo _;congr 1;refine List.map_congr_left λb hb=>?_;have:=List.mem_range.mp hb;rw [eh _ (by omega) (by omega),et _ (by omega) (by omega)]
structure Put (ps ws:List Int) (h t h' t':Nat->Nat->Nat->OI) (i j:Nat) (fl:OI) (m:Nat):Prop where
 oh:∀ l a b,¬ (a=i/\b=j)->h' l a b=h l a b
 ot:∀ l a b,¬ (a=i/\b=j)->t' l a b=t l a b
 oe:t' ps.length i j=t ps.length i j
 eh:∀ l,ps.length - m<=l->l < ps.length->h' l i j=oadd (some (pl ps l * Wt ws i j)) fl
 et:∀ l,ps.length - m<=l->l < ps.length->t' l i j=lo [lsum h' t' l i j j,t' (l+1) i j]
theorem Put.step {ps ws:List Int} {h t h' t':Nat->Nat->Nat->OI} {i j:Nat} {fl:OI} {m l:Nat} (u:Put ps ws h t h' t' i j fl m) (hm:m < ps.length) (el:l=ps.length - 1 - m) :
  Put ps ws h t (up3 h' l i j (oadd (some (pl ps l * Wt ws i j)) fl)) (up3 t' l i j (lo [lsum (up3 h' l i j (oadd (some (pl ps l * Wt ws i j)) fl)) t' l i j j,t' (l+1) i j])) i j fl (m+1):=by
 generalize ev:oadd (some (pl ps l * Wt ws i j)) fl=v;have hT:∀ l',l'≠l->∀ v2 a b,up3 t' l i j v2 l' a b=t' l' a b:=λl' hne v2 a b=>a3p λz=>hne z.1;have hH:∀ l',l'≠l->∀ a b,up3 h' l i j v l' a b=h' l' a b:=λl' hne a b=>a3p λz=>hne z.1;generalize ev2:lo [lsum (up3 h' l i j v) t' l i j j,t' (l+1) i j]=v2;refine ⟨λl' a b z=>?_,λl' a b z=>?_,?_,λl' h1 h2=>?_,λl' h1 h2=>?_⟩
 ·rw [a3p λy=>z ⟨y.2.1,y.2.2⟩];exact u.oh l' a b z
 ·rw [a3p λy=>z ⟨y.2.1,y.2.2⟩];exact u.ot l' a b z
 ·rw [hT _ (by omega)];exact u.oe
 ·by_cases e:l'=l
  ·subst e;rw [a6G];exact ev.symm
  ·rw [hH l' e];exact u.eh l' (by omega) h2
 ·by_cases e:l'=l
  ·subst e;rw [a6G,<-ev2,hT (l'+1) (by omega)];congr 2;exact a2s (λ_ _ _=>rfl) λa _ _=>(hT (l'+1) (by omega) _ a j).symm
  ·rw [hT l' e,u.et l' (by omega) h2,hT (l'+1) (by omega)];congr 2;exact a2s (λb _ _=>(hH l' e i b).symm) λa _ _=>(hT (l'+1) (by omega) v2 a j).symm
section
variable {P:Program} {w:World} {K:PySem.W.Frag} {mg:Str->Option Value} {base:Heap} {f:Addr} {fd:FuncData}
abbrev NPt:List Str:=["self","first","end","floor","weight","letter","with_letter"]
def a4n (C:Addr):Sp:=λvs H Q _=>∃ (r p:Addr) (ps ws:List Int) (X:Ad) (h t:Nat->Nat->Nat->OI) (i j:Nat) (fl:OI),vs=[.ref r,.int (i:Int),.int (j:Int),oV fl]/\PAt C H r p ps ws X h t/\ws.length<=20/\1<=ps.length/\ps.length<=10/\Bw ps/\Bw ws/\i < j/\j<=ws.length /\
 ∀ H' h' t',KZ X ps.length (ws.length+1) H H'->PAt C H' r p ps ws X h' t'->Put ps ws h t h' t' i j fl ps.length->Q .non H'
theorem b0P:a0u NPt ["self","first","end","floor"] (a0e b3A):=⟨rfl,rfl,rfl,by decide +kernel,rfl,by decide +kernel,by decide +kernel⟩
theorem a9g {ws:List Int} {k:Nat} (h:k<=ws.length):atI ((sums ws ws.length).map V.int) (k:Int)=some (.int (ws.take k).sum):=by
 unfold sums;rw [List.map_map];exact a0N (f:=λi=>V.int (ws.take i).sum) (by omega)
theorem at_pl {ps:List Int} {l:Nat} (h:l < ps.length):atI (ps.map V.int) (l:Int)=some (.int (pl ps l)):=by
 rw [a6s (List.getElem?_eq_getElem h)];unfold pl;rw [List.getD_eq_getElem?_getD,List.getElem?_eq_getElem h];rfl
theorem pl_bd {ps:List Int} (b:Bw ps) (l:Nat):0<=pl ps l/\pl ps l<=B30:=by
 unfold pl;rw [List.getD_eq_getElem?_getD];cases e:ps[l]? with
 | none=>exact ⟨by show (0:Int)<=0;omega,by show (0:Int)<=B30;decide⟩
 | some x=>exact b x (List.mem_of_getElem? e)
theorem ok_put {C:Addr} (F:Fun K "put" "Parted.put" b3A f fd) (GL:Fns P w K mg base ["numbers"] "least" a4b 2) (GA:Fns P w K mg base ["one","other"] "added" a4c 2) (M:Mt P w K mg base C "least_sum" ["self","letter","first","end","last"] (spLs C) 2) (rc:PC K C) (ml:mg "len"=none) (mr:mg "range"=none):a1a P w K mg base CX0 3 f fd ["self","first","end","floor"] (a4n C):=by
 refine F.ok (k:=2) b0P (λvs H Q E h=>?_) (λcdv A outer s H vs Q E hr h=>?_)
 ·obtain ⟨r,p,ps,ws,X,h,t,i,j,fl,rfl,_⟩:=h;rfl
 obtain ⟨r,p,ps,ws,X,h,t,i,j,fl,rfl,pa,w20,p1,p10,bp,bw,hij,hj,q⟩:=h;refine ⟨_,a0c (a0z (i:=4) b0P.nd rfl (Or.inl rfl) (a0m a2x (a0n a0k (a0F (pv 0) rfl) (pv 2) (λ_ _=>rfl)) (a0n a0k (a0F (pv 0) rfl) (pv 1) (λ_ _=>rfl))))
  (a0h (a1v PassesOwn.never rfl (a3S (by rfl) mr (a0a (a0m a2x (a0t a0r (by rfl) ml PySem.boot_len (a0a (a0F (pv 0) rfl) a0f)) a0d) (a0a (a2t a1J a0d) (a0a (a2t a1J a0d) a0f)))) (a0H (i:=5) b0P.nd rfl (Or.inl rfl))
   (a0c (a2G (a0q GA.ok hr (by rfl) GA.m GA.kp GA.b .nil a0D (a0a (a0m b2x (a0n a0C (a0F (pv 0) rfl) (pv 5) (λ_ _=>rfl)) (pv 4)) (a0a (pv 3) a0f))) (a3E (a0n a0k (a0n a0k (a0F (pv 0) rfl) (pv 5) (λ_ _=>rfl)) (pv 1) (λ_ _=>rfl)) (pv 2) a1Y))
   (a0c (a0z (i:=6) b0P.nd rfl (Or.inl rfl) (a1F (pv 0) rc.c M.m M.ok hr M.b .nil a0D (a0a (pv 5) (a0a (pv 1) (a0a (pv 2) (a0a (pv 2) a0f))))))
   (a0h (a2G (a0q GL.ok hr (by rfl) GL.m GL.kp GL.b .nil a0D (a0a (a0W (a0a (pv 6) (a0a (a0n a0k (a0n a0k (a0n a0k (a0F (pv 0) rfl) (a0m a0M (pv 5) a0d) (λ_ _=>rfl)) (pv 1) (λ_ _=>rfl)) (pv 2) (λ_ _=>rfl)) a0f))) a0f)) (a3E (a0n a0k (a0n a0k (a0F (pv 0) rfl) (pv 5) (λ_ _=>rfl)) (pv 1) (λ_ _=>rfl)) (pv 2) a1Y))))))),?_⟩
 obtain ⟨dx,ho⟩:=pa.ob;refine ⟨_,rfl,r,C,dx,_,_,rfl,ho,rc.c,rc.ns,rfl,_,rfl,X.su,_,_,_,rfl,rfl,SqL.of pa.su,a9g hj,_,rfl,r,C,dx,_,_,rfl,ho,rc.c,rc.ns,rfl,_,rfl,X.su,_,_,_,rfl,rfl,SqL.of pa.su,a9g (k:=i) (by omega),_,_,rfl,rfl,?_⟩;have eW:(λ(x y:Int)=>V.int (x - y)) (ws.take j).sum (ws.take i).sum=.int (Wt ws i j):=rfl;dsimp only at eW ⊢;rw [eW];have wb:=Wt_bd (Nat.le_of_lt hij) bw w20;refine ⟨_,rfl,r,C,dx,_,_,rfl,ho,rc.c,rc.np,rfl,p,_,rfl,.inr (SqT.of pa.hp),_,_,rfl,rfl,_,rfl,_,rfl,_,rfl,⟨by rw [List.length_map];omega,by rw [List.length_map];omega⟩,?_⟩;rw [List.length_map,show ((ps.length:Int) - 1+1).toNat=ps.length by omega];have i1:i < ws.length+1:=by omega
 have j1:j < ws.length+1:=by omega
 refine a3b (λm σ H'=>KZ X ps.length (ws.length+1) H H'/\(∃ h' t',PAt C H' r p ps ws X h' t'/\Put ps ws h t h' t' i j fl m)/\∃ x5 x6:Option V,σ=[some (.ref r),some (.int (i:Int)),some (.int (j:Int)),some (oV fl),some (.int (Wt ws i j)),x5,x6])
  ⟨λ_ _ _ e=>e,⟨h,t,pa,λ_ _ _ _=>rfl,λ_ _ _ _=>rfl,rfl,λl a b=>by omega,λl a b=>by omega⟩,_,_,rfl⟩ (λm σ H1 hm hP=>?_) (λσ H1 hP=>?_)
 ·obtain ⟨k1,⟨h',t',pa1,u⟩,x5,x6,rfl⟩:=hP;obtain ⟨l,el⟩:∃ l,l=ps.length - 1 - m:=⟨_,rfl⟩
  have ev:(ps.length:Int) - 1+(m:Int) * (-1)=(l:Int):=by omega
  rw [ev];have hl:l < ps.length:=by omega
  obtain ⟨dx1,ho1⟩:=pa1.ob;have pb:=pl_bd bp l;refine ⟨_,rfl,r,C,dx1,_,_,rfl,ho1,rc.c,rc.np,rfl,_,rfl,p,_,_,_,rfl,rfl,SqT.of pa1.hp,at_pl hl,_,rfl,_,_,rfl,rfl,⟨⟨pb.1,by unfold B30 at *;omega⟩,⟨wb.1,by unfold B30 at *;omega⟩⟩,_,rfl,some (pl ps l * Wt ws i j),fl,rfl,?_⟩;refine ⟨_,rfl,r,C,dx1,_,_,rfl,ho1,rc.c,rc.nh,rfl,_,rfl,X.th,_,_,_,rfl,rfl,SqL.of pa1.hd.o,a0N hl,_,rfl,X.bh l,_,_,_,rfl,rfl,SqL.of (pa1.hd.b l hl),a0N i1,_,rfl,X.ch l i,_,_,j,rfl,rfl,pa1.hd.c l i hl i1,(by rw [List.length_map,List.length_range];exact a4a j1),?_⟩;have pa2:=pa1.puth (v:=oadd (some (pl ps l * Wt ws i j)) fl) hl i1 j1;have k2:KZ X ps.length (ws.length+1) H (upd H1 (X.ch l i) (.lst (((List.range (ws.length+1)).map λk=>oV (h' l i k)).set j (oV (oadd (some (pl ps l * Wt ws i j)) fl))))):=λa o hz e=>by
   rw [a0j (λz=>hz (.inl ⟨l,i,hl,i1,z⟩))];exact k1 a o hz e
  generalize upd H1 (X.ch l i) (.lst (((List.range (ws.length+1)).map λk=>oV (h' l i k)).set j (oV (oadd (some (pl ps l * Wt ws i j)) fl))))=H2 at pa2 k2 ⊢;obtain ⟨dx2,ho2⟩:=pa2.ob;refine ⟨_,rfl,r,dx2,_,rfl,ho2,rfl,_,rfl,_,rfl,_,rfl,_,rfl,r,p,ps,ws,X,_,t',l,i,j,j,rfl,pa2,w20,hl,by omega,hj,hj,λH3 s3=>?_⟩;have pa3:=pa2.same s3;have k3:KZ X ps.length (ws.length+1) H H3:=λa o hz e=>s3 _ _ (k2 a o hz e);obtain ⟨dx3,ho3⟩:=pa3.ob;have l1:l+1 < ps.length+1:=by omega
  refine ⟨_,rfl,_,rfl,r,C,dx3,_,_,rfl,ho3,rc.c,rc.nt,rfl,_,rfl,_,_,rfl,rfl,X.tt,_,_,_,rfl,rfl,SqL.of pa3.tl.o,a0N l1,_,rfl,X.bt (l+1),_,_,_,rfl,rfl,SqL.of (pa3.tl.b _ l1),a0N i1,_,rfl,X.ct (l+1) i,_,_,_,rfl,rfl,SqL.of (pa3.tl.c _ i l1 i1),a0N j1,(by show 2<=sizeLine;decide),λe1 he1=>?_⟩;have s4:=a0g he1 (.lst [oV (lsum (up3 h' l i j (oadd (some (pl ps l * Wt ws i j)) fl)) t' l i j j),oV (t' (l+1) i j)]);have g4:upd H3 e1 (.lst [oV (lsum (up3 h' l i j (oadd (some (pl ps l * Wt ws i j)) fl)) t' l i j j),oV (t' (l+1) i j)]) e1=some (.lst (([lsum (up3 h' l i j (oadd (some (pl ps l * Wt ws i j)) fl)) t' l i j j,t' (l+1) i j]:List OI).map oV)):=a0b;generalize upd H3 e1 (.lst [oV (lsum (up3 h' l i j (oadd (some (pl ps l * Wt ws i j)) fl)) t' l i j j),oV (t' (l+1) i j)])=H4 at s4 g4 ⊢;refine ⟨e1,_,rfl,g4,by show 2<=100;decide,λH5 s5=>?_⟩;have pa5:=pa3.same (s4.trans s5);have k5:KZ X ps.length (ws.length+1) H H5:=λa o hz e=>(s4.trans s5) _ _ (k3 a o hz e);obtain ⟨dx5,ho5⟩:=pa5.ob;have l2:l < ps.length+1:=by omega
  refine ⟨_,rfl,r,C,dx5,_,_,rfl,ho5,rc.c,rc.nt,rfl,_,rfl,X.tt,_,_,_,rfl,rfl,SqL.of pa5.tl.o,a0N l2,_,rfl,X.bt l,_,_,_,rfl,rfl,SqL.of (pa5.tl.b _ l2),a0N i1,_,rfl,X.ct l i,_,_,j,rfl,rfl,pa5.tl.c l i l2 i1,(by rw [List.length_map,List.length_range];exact a4a j1),?_⟩;refine ⟨λa o hz e=>?_,⟨_,_,pa5.putt p1 l2 i1 j1,u.step hm el⟩,_,_,rfl⟩;rw [a0j (λz=>hz (.inr ⟨l,i,l2,i1,z⟩))];exact k5 a o hz e
 ·obtain ⟨k1,⟨h',t',pa1,u⟩,x5,x6,rfl⟩:=hP;exact q H1 h' t' k1 pa1 u
end
def Dn (f e i j:Nat):Prop:=f < i\/(i=f/\j < e)
abbrev most (ps ws:List Int) (F:Nat->Nat->OI) (i j:Nat):OI:=lo (((P ps.length 0 i j).filter λr=>decide (1 < r.length)).map λr=>cost (pl ps) (Wt ws) F r)
def bdO (ps ws:List Int) (F:Nat->Nat->OI) (i j:Nat):OI:=if j - i=1 then some 0 else most ps ws F i j
theorem a5C {L:Nat} {h t h' t':Nat->Nat->Nat->OI} {i j:Nat} (hij:i < j) (eh:∀ l b,i < b->b < j->h' l i b=h l i b) (et:∀ l a,i < a->a < j->t' l a j=t l a j):bnd L h' t' i j=bnd L h t i j:=by
 unfold bnd;split
 ·rfl
 ·congr 1;refine List.map_congr_left λl _=>?_;exact a2s (k:=j - 1) (λb h1 h2=>eh l b h1 (by omega)) λa h1 h2=>et (l+1) a h1 (by omega)
section
variable {P:Program} {w:World} {K:PySem.W.Frag} {mg:Str->Option Value} {base:Heap} {f:Addr} {fd:FuncData}
structure Num (ps ws:List Int):Prop where
 p2:2<=ps.length
 p10:ps.length<=10
 w1:1<=ws.length
 w20:ws.length<=20
 bp:Bw ps
 bw:Bw ws
structure Cl (P:Program) (w:World) (K:PySem.W.Frag) (mg:Str->Option Value) (base:Heap) (C:Addr) where
 rc:PC K C
 g:mg "Parted"=some (.ref C)
 fi:Addr
 di:FuncData
 mkk:Mk K C fi
 oki:a1a P w K mg base CX0 3 fi di ["self","prices","weights"] (a9d C)
 bi:a1X K di ["self","prices","weights"] []
end
structure Fin (ps ws:List Int) (h t:Nat->Nat->Nat->OI) (F:Nat->Nat->OI) (pr:Nat->Nat->Prop):Prop where
 dg:∀ l i,l<=ps.length->i<=ws.length->t l i i=some 0
 ed:∀ i j,i < j->j<=ws.length->t ps.length i j=none
 eq:∀ i j,i < j->j<=ws.length->pr i j->Eqs (pl ps) (Wt ws) F ps.length h t i j
theorem Fin.weak {ps ws:List Int} {h t:Nat->Nat->Nat->OI} {F:Nat->Nat->OI} {pr pr':Nat->Nat->Prop} (a:Fin ps ws h t F pr) (h1:∀ i j,i < j->j<=ws.length->pr' i j->pr i j):Fin ps ws h t F pr' :=
 ⟨a.dg,a.ed,λi j hij hj hp=>a.eq i j hij hj (h1 i j hij hj hp)⟩
theorem Fin.step {ps ws:List Int} {h t h' t':Nat->Nat->Nat->OI} {F:Nat->Nat->OI} {f e:Nat} (a:Fin ps ws h t F (Dn f e)) (hfe:f < e) (he:e<=ws.length) (u:Put ps ws h t h' t' f e (F f e) ps.length):Fin ps ws h' t' F (Dn f (e+1)):=by
 refine ⟨λl i hl hi=>?_,λi j hij hj=>?_,λi j hij hj hp=>?_⟩
 ·rw [u.ot l i i (by omega)];exact a.dg l i hl hi
 ·by_cases z:i=f/\j=e
  ·rw [z.1,z.2,u.oe];exact a.ed f e hfe he
  ·rw [u.ot _ i j z];exact a.ed i j hij hj
 ·by_cases z:i=f/\j=e
  ·obtain ⟨rfl,rfl⟩:=z;refine ⟨λl hl=>?_,λl hl=>u.et l (by omega) hl⟩;rw [u.eh l (by omega) hl]
  ·have d:Dn f e i j:=by
    rcases hp with y | y
    ·exact .inl y
    ·exact .inr ⟨y.1,by omega⟩
   have E:=a.eq i j hij hj d;have nh:∀ b,i < b->b<=j->¬ (i=f/\b=e):=λb h1 h2 y=>by
    rcases d with w | w <;> omega
   have nt:∀ x,i < x->x<=j->¬ (x=f/\j=e):=λx h1 h2 y=>by
    rcases d with w | w <;> omega
   refine ⟨λl hl=>?_,λl hl=>?_⟩
   ·rw [u.oh l i j z];exact E.eh l hl
   ·rw [u.ot l i j z,u.ot (l+1) i j z,E.et l hl];congr 2;exact (a2s (k:=j) (λb h1 h2=>u.oh l i b (nh b h1 h2)) λx h1 h2=>u.ot (l+1) x j (nt x h1 h2)).symm
theorem Fin.bdO {ps ws:List Int} {h t:Nat->Nat->Nat->OI} {F:Nat->Nat->OI} (a:Fin ps ws h t F (λ_ _=>True)):∀ i j,i < j->j<=ws.length->bnd ps.length h t i j=bdO ps ws F i j:=λf e hfe he=>by
 unfold K94C.bdO;by_cases e1:e - f=1
 ·unfold bnd;rw [if_pos e1,if_pos e1]
 ·rw [if_neg e1];exact b0G (p:=pl ps) (W:=Wt ws) (F:=F) a.dg a.ed (λl c hl h1 h2=>(a.eq f c h1 (by omega) trivial).eh l hl) (λx y h1 h2 h3=>a.eq x y h2 h3 trivial) (by omega) he
def up2 (F:Nat->Nat->OI) (i j:Nat) (v:OI):Nat->Nat->OI:=λa b=>if a=i/\b=j then v else F a b
theorem a5D {p:Nat->Int} {W:Nat->Nat->Int} {F:Nat->Nat->OI}:∀ {r:Pa},cost p W F r=none↔∃ q∈r,F q.1 q.2.1=none
 | []=>⟨λz=>(by cases z),λ⟨q,h,_⟩=>(by cases h)⟩
 | q :: r=>by
  have ih:=a5D (p:=p) (W:=W) (F:=F) (r:=r);show oadd (part p W F q) (cost p W F r)=none↔_;unfold part;cases e1:F q.1 q.2.1 with
  | none=>exact ⟨λ_=>⟨q,.head _,e1⟩,λ_=>rfl⟩
  | some v =>
   cases e2:cost p W F r with
   | none =>
    obtain ⟨q',h',e'⟩:=ih.mp e2;exact ⟨λ_=>⟨q',.tail _ h',e'⟩,λ_=>rfl⟩
   | some u =>
    refine ⟨λz=>(by cases z),λ⟨q',h',e'⟩=>?_⟩;rcases List.mem_cons.mp h' with z | z
    ·rw [z,e1] at e';cases e'
    ·rw [ih.mpr ⟨q',z,e'⟩] at e2;cases e2
structure Fln (ps ws:List Int) (h t:Nat->Nat->Nat->OI) (F:Nat->Nat->OI) (pr:Nat->Nat->Prop):Prop where
 fin:Fin ps ws h t F pr
 bd:∀ i j,i < j->j<=ws.length->pr i j->bnd ps.length h t i j=F i j
theorem Fln.weak {ps ws:List Int} {h t:Nat->Nat->Nat->OI} {F:Nat->Nat->OI} {pr pr':Nat->Nat->Prop} (a:Fln ps ws h t F pr) (h1:∀ i j,i < j->j<=ws.length->pr' i j->pr i j):Fln ps ws h t F pr' :=
 ⟨a.fin.weak h1,λi j hij hj hp=>a.bd i j hij hj (h1 i j hij hj hp)⟩
theorem Fln.step {ps ws:List Int} {h t h' t':Nat->Nat->Nat->OI} {F:Nat->Nat->OI} {f e:Nat} (a:Fln ps ws h t F (Dn f e)) (hfe:f < e) (he:e<=ws.length) (u:Put ps ws h t h' t' f e (bnd ps.length h t f e) ps.length):∃ F',Fln ps ws h' t' F' (Dn f (e+1)):=by
 have nd:∀ {i j},Dn f e i j->¬ (i=f/\j=e):=λd z=>by rcases d with w | w <;> omega
 have ef:up2 F f e (bnd ps.length h t f e) f e=bnd ps.length h t f e:=by unfold up2;rw [if_pos ⟨rfl,rfl⟩]
 have a':Fin ps ws h t (up2 F f e (bnd ps.length h t f e)) (Dn f e):=⟨a.fin.dg,a.fin.ed,λi j hij hj hp=>⟨λl hl=>by
  unfold up2;rw [if_neg (nd hp)];exact (a.fin.eq i j hij hj hp).eh l hl,(a.fin.eq i j hij hj hp).et⟩⟩
 refine ⟨up2 F f e (bnd ps.length h t f e),a'.step hfe he (by rw [ef];exact u),λi j hij hj hp=>?_⟩;by_cases z:i=f/\j=e
 ·obtain ⟨rfl,rfl⟩:=z;rw [ef,a5C hij (λl b h1 h2=>u.oh l i b (by omega)) (λl x h1 h2=>u.ot l x j (by omega))]
 ·have d:Dn f e i j:=by
   rcases hp with y | y
   ·exact .inl y
   ·exact .inr ⟨y.1,by omega⟩
  unfold up2;rw [if_neg z,a5C hij (λl b h1 h2=>u.oh l i b (λy=>by rcases d with w | w <;> omega)) (λl x h1 h2=>u.ot l x j (λy=>by rcases d with w | w <;> omega))];exact a.bd i j hij hj d
theorem Fln.own {ps ws:List Int} {h t:Nat->Nat->Nat->OI} {F:Nat->Nat->OI} (a:Fln ps ws h t F (λ_ _=>True)):∀ i j,i < j->j<=ws.length->F i j=bdO ps ws F i j:=λi j hij hj=>by
 rw [<-a.bd i j hij hj trivial];exact a.fin.bdO i j hij hj
section
variable {P:Program} {w:World} {K:PySem.W.Frag} {mg:Str->Option Value} {base:Heap} {f:Addr} {fd:FuncData}
abbrev NPl:List Str:=["prices","weights","parted","first","end"]
def spPl (C:Addr):Sp:=λvs H Q _=>∃ (p q:Addr) (ps ws:List Int),vs=[.ref p,.ref q]/\TW H p ps/\TW H q ws/\Num ps ws/\∀ (r:Addr) X h t F H',a0E H H'->PAt C H' r p ps ws X h t->Fln ps ws h t F (λ_ _=>True)->Q (.ref r) H'
theorem scPl:a0u NPl ["prices","weights"] (a0e sPl):=⟨rfl,rfl,rfl,by decide +kernel,rfl,by decide +kernel,by decide +kernel⟩
theorem ok_pl {C:Addr} (F:Fun K "parted_least" "parted_least" sPl f fd) (cl:Cl P w K mg base C) (MP:Mt P w K mg base C "put" ["self","first","end","floor"] (a4n C) 4) (MB:Mt P w K mg base C "bound" ["self","first","end"] (a6a C) 4) (ml:mg "len"=none) (mr:mg "range"=none):a1a P w K mg base CX0 5 f fd ["prices","weights"] (spPl C):=by
 refine F.ok (k:=4) scPl (λvs H Q E h=>?_) (λcdv A outer s H vs Q E hr h=>?_)
 ·obtain ⟨p,q,ps,ws,rfl,_⟩:=h;rfl
 obtain ⟨p,q,ps,ws,rfl,hp,hq,nu,qq⟩:=h;obtain ⟨p2,p10,w1,w20,bp,bw⟩:=nu;refine ⟨_,a0c (a0z (i:=2) scPl.nd rfl (Or.inl rfl) (a3J cl.mkk cl.oki hr (by rfl) cl.g cl.bi .nil a0D (a0a (pv 0) (a0a (pv 1) a0f))))
  (a0c (a1v PassesOwn.never rfl (a3S (by rfl) mr (a0a (a0m a2x (a0t a0r (by rfl) ml PySem.boot_len (a0a (pv 1) a0f)) a0d) (a0a (a2t a1J a0d) (a0a (a2t a1J a0d) a0f)))) (a0H (i:=3) scPl.nd rfl (Or.inl rfl))
   (a0h (a1v PassesOwn.never rfl (a2h (by rfl) mr (a0a (a0m a0M (pv 3) a0d) (a0a (a0m a0M (a0t a0r (by rfl) ml PySem.boot_len (a0a (pv 1) a0f)) a0d) a0f))) (a0H (i:=4) scPl.nd rfl (Or.inl rfl))
    (a0h (a1f (a1F (pv 2) cl.rc.c MP.m MP.ok hr MP.b .nil a0D (a0a (pv 3) (a0a (pv 4) (a0a (a1F (pv 2) cl.rc.c MB.m MB.ok hr MB.b .nil a0D (a0a (pv 3) (a0a (pv 4) a0f))) a0f)))))))))
  (a0h (a0v (pv 2)))),?_⟩
 refine ⟨_,rfl,_,rfl,λr dx rn hdx _=>?_⟩;have sm:a0E H (upd (upd H dx (.own r)) r (.ins C dx [])):=a0w rn (a0g hdx _);refine ⟨r,dx,p,q,ps,ws,rfl,a0b,sm _ _ hp,sm _ _ hq,by omega,p10,w20,λH1 X k1 pa1 fz=>⟨rfl,?_⟩⟩;have s1:a0E H H1:=λa o e=>k1 a o (λz=>by rw [z,rn] at e;cases e) (sm a o e);have fz':∀ a,Z X ps.length (ws.length+1) a->H a=none:=λa hz=>sm.free (fz a hz);have nz:∀ {a o},H a=some o->¬ Z X ps.length (ws.length+1) a:=λe hz=>by rw [fz' _ hz] at e;cases e
 have st0:∃ F,Fln ps ws h0 t0 F (λi _=>ws.length<=i):=⟨λ_ _=>none,⟨λl i _ _=>if_pos rfl,λi j hij _=>if_neg (by omega),λi j hij hj hp=>absurd hp (by show ¬ ws.length<=i;omega)⟩,λi j hij hj hp=>absurd hp (by show ¬ ws.length<=i;omega)⟩
 refine ⟨_,rfl,q,_,rfl,.inr (SqT.of (s1 _ _ hq)),_,_,rfl,rfl,_,rfl,_,rfl,_,rfl,⟨by rw [List.length_map];omega,by rw [List.length_map];omega⟩,?_⟩;rw [List.length_map,show ((ws.length:Int) - 1+1).toNat=ws.length by omega];refine a3b (λm σ H'=>a0E H H'/\(∃ h t F,PAt C H' r p ps ws X h t/\Fln ps ws h t F (λi _=>ws.length - m<=i))/\∃ x3 x4:Option V,σ=[some (.ref p),some (.ref q),some (.ref r),x3,x4])
  ⟨s1,(by obtain ⟨F,hF⟩:=st0;exact ⟨h0,t0,F,pa1,hF⟩),_,_,rfl⟩ (λm σ H2 hm hP=>?_) (λσ H2 hP=>?_)
 ·obtain ⟨s2,⟨h,t,F,pa2,fn2⟩,x3,x4,rfl⟩:=hP;obtain ⟨f,ef⟩:∃ f,f=ws.length - 1 - m:=⟨_,rfl⟩
  have ev:(ws.length:Int) - 1+(m:Int) * (-1)=(f:Int):=by omega
  rw [ev];have hf:f < ws.length:=by omega
  refine ⟨_,rfl,_,_,rfl,rfl,_,rfl,q,_,rfl,.inr (SqT.of (s2 _ _ hq)),_,_,rfl,rfl,_,_,rfl,⟨by omega,by omega,by rw [List.length_map];omega,by rw [List.length_map];omega⟩,?_⟩;refine a1r (λk σ H'=>a0E H H'/\(∃ h t F,PAt C H' r p ps ws X h t/\Fln ps ws h t F (Dn f (f+1+k)))/\∃ x4:Option V,σ=[some (.ref p),some (.ref q),some (.ref r),some (.int (f:Int)),x4])
   ⟨s2,⟨h,t,F,pa2,fn2.weak λi j hij hj d=>by show ws.length - m<=i;rcases d with z | z <;> omega⟩,_,rfl⟩ (λk σ H3 hk hP=>?_) (λσ H3 hP=>?_)
  ·obtain ⟨s3,⟨h3,t3,F3,pa3,fn3⟩,x4,rfl⟩:=hP;have hk':f+1+k<=ws.length:=by
    have:(ws.map V.int).length=ws.length:=List.length_map ..;omega
   have ee:(f:Int)+1+(k:Int)=((f+1+k:Nat):Int):=by push_cast;omega
   rw [ee];obtain ⟨dx3,ho3⟩:=pa3.ob;refine ⟨_,rfl,r,dx3,_,rfl,ho3,rfl,_,rfl,_,rfl,_,rfl,r,dx3,_,rfl,ho3,rfl,_,rfl,_,rfl,r,p,ps,ws,X,h3,t3,f,f+1+k,rfl,pa3,w20,p10,by omega,hk',λH4 s4=>?_⟩;refine ⟨r,p,ps,ws,X,h3,t3,f,f+1+k,_,rfl,pa3.same s4,w20,by omega,p10,bp,bw,by omega,hk',λH5 h5 t5 k5 pa5 u=>?_⟩;obtain ⟨F5,fn5⟩:=fn3.step (by omega) hk' u;exact ⟨λa o e=>k5 a o (nz e) (s4 _ _ (s3 _ _ e)),⟨h5,t5,F5,pa5,fn5⟩,_,rfl⟩
  ·obtain ⟨s3,⟨h3,t3,F3,pa3,fn3⟩,x4,rfl⟩:=hP;have en:(((((ws.map V.int).length:Nat):Int)+1) - ((f:Int)+1)).toNat=ws.length - f:=by rw [List.length_map];omega
   rw [en] at fn3;exact ⟨s3,⟨h3,t3,F3,pa3,fn3.weak λi j hij hj d=>by
    have d:ws.length - (m+1)<=i:=d;by_cases z:f < i
    ·exact .inl z
    ·exact .inr ⟨by omega,by omega⟩⟩,_,_,rfl⟩
 ·obtain ⟨s2,⟨h,t,F,pa2,fn2⟩,x3,x4,rfl⟩:=hP;exact ⟨_,rfl,qq r X h t F H2 s2 pa2 (fn2.weak λi j _ _ _=>by show ws.length - ws.length<=i;omega)⟩
end
namespace CT
def mi (xs:List Int):OI:=lo (xs.map some)
def ct (xs:List Int):Nat:=match mi xs with
 | none=>0
 | some m=>xs.count m
def sums (k:Int) (as bs:List Int):List Int:=as.flatMap λa=>bs.map λb=>k+a+b
abbrev Code:=List (List Int)
def Bk (L l m:Nat):List (Nat × Nat):=(List.range (L - l)).flatMap λa=>(List.range m).map λb=>(l+a,b)
theorem a4w {L l m:Nat} {q:Nat × Nat}:q∈Bk L l m↔l<=q.1/\q.1 < L/\q.2 < m:=by
 unfold Bk;constructor
 ·intro h;obtain ⟨a,ha,h⟩:=List.mem_flatMap.mp h;obtain ⟨b,hb,rfl⟩:=List.mem_map.mp h;have:=List.mem_range.mp ha;have:=List.mem_range.mp hb;exact ⟨by show l<=l+a;omega,by show l+a < L;omega,by assumption⟩
 ·rintro ⟨h1,h2,h3⟩;refine List.mem_flatMap.mpr ⟨q.1 - l,List.mem_range.mpr (by omega),List.mem_map.mpr ⟨q.2,List.mem_range.mpr h3,?_⟩⟩;rw [show l+(q.1 - l)=q.1 by omega]
section
variable (L n:Nat) (h t:Nat->Nat->Nat->OI) (F:Nat->Nat->OI) (p:Nat->Int) (W:Nat->Nat->Int)
def vl (i j:Nat) (q:Nat × Nat):OI:=oadd (h q.1 i (i+q.2+1)) (t (q.1+1) (i+q.2+1) j)
structure Tb:Prop where
 dg:∀ l j,l<=L->j<=n->t l j j=some 0
 tt:∀ l i j,l<=L->i < j->j<=n->t l i j=lo ((Bk L l (j - i)).map (vl h t i j))
 ff:∀ i j,i < j->j<=n->F i j=if j - i=1 then some 0 else lo ((Bk L 0 (j - 1 - i)).map (vl h t i j))
 hh:∀ l i j,l < L->i < j->j<=n->h l i j=oadd (some (p l * W i j)) (F i j)
 tn:∀ l i j,l < L->i < j->j<=n->t l i j≠none
 fn:∀ i j,i < j->j<=n->F i j≠none
 pw:∀ l i j,l < L->i < j->j<=n->0 < p l * W i j
variable (cd:Nat->Nat->Nat) (tl:Nat->Nat->Nat->Nat)
def ovr (l i j:Nat):Nat:=(((Bk L l (j - i)).filter λq=>decide (vl h t i j q=t l i j)).map λq=>cd i (i+q.2+1) * tl (q.1+1) (i+q.2+1) j).sum
variable (Cs:Nat->List Code) (Rs:Nat->Nat->List Code) (co:Nat->Code->Int)
def ahd (l:Nat) (c:Code):Code:=c.map λw=>(l:Int) :: w
def bhd (many:Nat) (q:Nat × Nat):List Code:=if q.2+1 < many then Rs (many - (q.2+1)) (q.1+1) else [[]]
def rw' (many low most:Nat):List Code:=(Bk L low most).flatMap λq=>(Cs (q.2+1)).flatMap λc=>(bhd Rs many q).map λr=>ahd q.1 c++r
variable {L n h t F p W cd tl Cs Rs co}
theorem a4x {α β:Type} {f g:α->List β}:∀ {xs:List α},(∀ x∈xs,f x=g x)->xs.flatMap f=xs.flatMap g
 | [],_=>rfl
 | x :: xs,h=>by rw [List.flatMap_cons,List.flatMap_cons,h x (.head _),a4x λy hy=>h y (.tail _ hy)]
end
end CT
end K94C
namespace K94C
open PySem L2
abbrev Po (ns:List Int):Prop:=∀ x∈ns,(1:Int)<=x
theorem Wt_pos {ws:List Int} {i j:Nat} (bw:Po ws) (hij:i < j) (hj:j<=ws.length):1<=Wt ws i j:=by
 rw [Wt_is (by omega)];have:∀ xs:List Int,xs≠[]->(∀ x∈xs,1<=x)->1<=xs.sum:=by
  intro xs
  induction xs with
  | nil=>intro h;exact absurd rfl h
  | cons x xs ih =>
   intro _ h;rw [List.sum_cons];have h1:=h x (.head _);by_cases e:xs=[]
   ·rw [e,List.sum_nil];omega
   ·have:=ih e λy hy=>h y (.tail _ hy);omega
 refine this _ (λz=>?_) λx hx=>bw x (List.mem_of_mem_take (List.mem_of_mem_drop hx));have:=congrArg List.length z;rw [List.length_drop,List.length_take,List.length_nil] at this;omega
theorem pl_pos {ps:List Int} {l:Nat} (bp:Po ps) (hl:l < ps.length):1<=pl ps l:=by
 have:pl ps l=ps[l]'hl:=by
  unfold pl;rw [List.getD_eq_getElem?_getD,List.getElem?_eq_getElem hl];rfl
 rw [this];exact bp _ (List.getElem_mem hl)
theorem b1D {ps ws:List Int} {F:Nat->Nat->OI} (hL:2<=ps.length) (own:∀ i j,i < j->j<=ws.length->F i j=bdO ps ws F i j):∀ d i j,j - i<=d->i < j->j<=ws.length->F i j≠none
 | 0,i,j,hd,hij,hj=>by omega
 | d+1,i,j,hd,hij,hj=>by
  rw [own i j hij hj];unfold bdO;split
  ·intro z;cases z
  ·rename_i e;intro z;obtain ⟨r,hr⟩:=List.exists_mem_of_ne_nil _ (b2R (L:=ps.length) (i:=i) (j:=j) hL (by omega));cases ec:cost (pl ps) (Wt ws) F r with
   | some v=>exact absurd (List.mem_map.mpr ⟨r,hr,ec⟩) (a2m.mp z v)
   | none =>
    obtain ⟨q,hq,e'⟩:=a5D.mp ec;have hin:=b2S hij r hr q hq;exact b1D hL own d q.1 q.2.1 (by omega) hin.2.1 (by omega) e'
theorem b3a {L l m:Nat} (h:l < L):CT.Bk L l m=((List.range m).map λb=>(l,b))++CT.Bk L (l+1) m:=by
 unfold CT.Bk;obtain ⟨k,hk⟩:∃ k,L - l=k+1:=⟨L - l - 1,by omega⟩
 rw [hk,show L - (l+1)=k by omega,List.range_succ_eq_map,List.flatMap_cons,List.flatMap_map];congr 1;refine CT.a4x λa _=>?_;refine List.map_congr_left λb _=>?_;rw [show l+(a+1)=l+1+a by omega]
theorem b3b (xs ys:List OI):lo (xs++ys)=lo [lo xs,lo ys]:=a5B xs ys
theorem Fln.tt {ps ws:List Int} {h t:Nat->Nat->Nat->OI} {F:Nat->Nat->OI} (a:Fln ps ws h t F (λ_ _=>True)):∀ k l i j,l+k=ps.length->i < j->j<=ws.length->t l i j=lo ((CT.Bk ps.length l (j - i)).map (CT.vl h t i j))
 | 0,l,i,j,hl,hij,hj=>by
  have e:l=ps.length:=by omega
  subst e;rw [a.fin.ed i j hij hj];unfold CT.Bk;rw [Nat.sub_self];exact a8W.symm
 | k+1,l,i,j,hl,hij,hj=>by
  rw [(a.fin.eq i j hij hj trivial).et l (by omega),b3a (by omega),List.map_append,b3b,a.tt k (l+1) i j (by omega) hij hj,List.map_map];rfl
theorem Fln.tb {ps ws:List Int} {h t:Nat->Nat->Nat->OI} {F:Nat->Nat->OI} (a:Fln ps ws h t F (λ_ _=>True)) (hL:2<=ps.length) (bp:Po ps) (bw:Po ws):CT.Tb ps.length ws.length h t F (pl ps) (Wt ws):=by
 have own:=a.own;have fn:∀ i j,i < j->j<=ws.length->F i j≠none:=λi j hij hj=>b1D hL own (j - i) i j (Nat.le_refl _) hij hj;have hh:∀ l i j,l < ps.length->i < j->j<=ws.length->h l i j=oadd (some (pl ps l * Wt ws i j)) (F i j):=λl i j hl hij hj=>(a.fin.eq i j hij hj trivial).eh l hl;have tt:∀ l i j,l<=ps.length->i < j->j<=ws.length->t l i j=lo ((CT.Bk ps.length l (j - i)).map (CT.vl h t i j)):=λl i j hl hij hj=>a.tt (ps.length - l) l i j (by omega) hij hj;refine ⟨a.fin.dg,tt,λi j hij hj=>?_,hh,λl i j hl hij hj=>?_,fn,λl i j hl hij hj=>?_⟩
 ·rw [<-a.bd i j hij hj trivial];unfold bnd;split
  ·rfl
  ·unfold CT.Bk;rw [Nat.sub_zero,List.map_flatMap,a4T];congr 1;refine List.map_congr_left λl _=>?_;rw [List.map_map,Nat.zero_add];rfl
 ·rw [tt l i j (by omega) hij hj];intro z;have hm:CT.vl h t i j (l,j - i - 1)∈(CT.Bk ps.length l (j - i)).map (CT.vl h t i j):=List.mem_map.mpr ⟨_,CT.a4w.mpr ⟨Nat.le_refl _,hl,by show j - i - 1 < j - i;omega⟩,rfl⟩;have ev:CT.vl h t i j (l,j - i - 1)=oadd (oadd (some (pl ps l * Wt ws i j)) (F i j)) (some 0):=by
   unfold CT.vl;show oadd (h l i (i+(j - i - 1)+1)) (t (l+1) (i+(j - i - 1)+1) j)=_;rw [show i+(j - i - 1)+1=j by omega,hh l i j hl hij hj,a.fin.dg (l+1) j (by omega) hj]
  rw [ev] at hm;cases f:F i j with
  | none=>exact fn i j hij hj f
  | some x =>
   rw [f] at hm;exact a2m.mp z _ hm
 ·have h1:=pl_pos bp hl;have h2:=Wt_pos bw hij hj;exact Int.mul_pos (by omega) (by omega)
section
variable {P':Program} {w:World} {K:PySem.W.Frag} {mg:Str->Option Value} {base:Heap} {f:Addr} {fd:FuncData}
def Way (H:Hp) (i:Nat) (x:V) (q:Nat × Nat):Prop:=∃ a,x=.ref a/\H a=some (.tup [.int (q.1:Int),.int ((i+q.2+1:Nat):Int)])
theorem Way.same {H H':Hp} {i:Nat} {x:V} {q:Nat × Nat} (s:a0E H H') (h:Way H i x q):Way H' i x q:=by
 obtain ⟨a,rfl,e⟩:=h;exact ⟨a,rfl,s _ _ e⟩
theorem Way.upd {H:Hp} {i:Nat} {x:V} {q:Nat × Nat} {d:Addr} {zs:List V} {o:HO} (hd:H d=some (.lst zs)) (h:Way H i x q):Way (L2.upd H d o) i x q:=by
 obtain ⟨a,rfl,e⟩:=h;exact ⟨a,rfl,by rw [a0j (a0I e hd (by intro z;cases z))];exact e⟩
abbrev NWy:List Str:=["self","letter","first","end","goal","found","way","cut"]
def wys (L:Nat) (h t:Nat->Nat->Nat->OI) (l i j:Nat):List (Nat × Nat):=(CT.Bk L l (j - i)).filter λq=>decide (CT.vl h t i j q=t l i j)
def a9h (C:Addr):Sp:=λvs H Q _=>∃ (r p:Addr) (ps ws:List Int) (X:Ad) (h t:Nat->Nat->Nat->OI) (l i j:Nat),vs=[.ref r,.int (l:Int),.int (i:Int),.int (j:Int)]/\PAt C H r p ps ws X h t/\ws.length<=20/\ps.length<=10/\l < ps.length/\i < j/\j<=ws.length /\
 ∀ (d:Addr) xs H',a0E H H'->H' d=some (.lst xs)->Paired (Way H' i) xs (wys ps.length h t l i j)->Q (.ref d) H'
theorem a5E:a0u NWy ["self","letter","first","end"] (a0e a7t):=⟨rfl,rfl,rfl,by decide +kernel,rfl,by decide +kernel,by decide +kernel⟩
theorem scal_O (a b:OI):scal (oV a) (oV b)=true:=by cases a <;> cases b <;> rfl
theorem oV_inj {a b:OI} (h:oV a=oV b):a=b:=by
 cases a <;> cases b <;> first | rfl | cases h | skip
 rfl
theorem b3c {C:Addr} (F:Fun K "ways" "Parted.ways" a7t f fd) (GA:Fns P' w K mg base ["one","other"] "added" a4c 2) (rc:PC K C) (ml:mg "len"=none) (mr:mg "range"=none):a1a P' w K mg base CX0 3 f fd ["self","letter","first","end"] (a9h C):=by
 refine F.ok (k:=2) a5E (λvs H Q E h=>?_) (λcdv A outer s H vs Q E hr h=>?_)
 ·obtain ⟨r,p,ps,ws,X,h,t,l,i,j,rfl,_⟩:=h;rfl
 obtain ⟨r,p,ps,ws,X,h,t,l,i,j,rfl,pa,w20,p10,hl,hij,hj,q⟩:=h;refine ⟨_,a0c (a0z (i:=4) a5E.nd rfl (Or.inl rfl) (a0n a0k (a0n a0k (a0n a0k (a0F (pv 0) rfl) (pv 1) (λ_ _=>rfl)) (pv 2) (λ_ _=>rfl)) (pv 3) (λ_ _=>rfl)))
  (a0c (a0z (i:=5) a5E.nd rfl (Or.inl rfl) (a0W a0f))
  (a0c (a1v PassesOwn.never rfl (a2h (by rfl) mr (a0a (pv 1) (a0a (a0t a0r (by rfl) ml PySem.boot_len (a0a (a0F (pv 0) rfl) a0f)) a0f))) (a0H (i:=6) a5E.nd rfl (Or.inl rfl))
   (a0h (a1v PassesOwn.never rfl (a2h (by rfl) mr (a0a (a0m a0M (pv 2) a0d) (a0a (a0m a0M (pv 3) a0d) a0f))) (a0H (i:=7) a5E.nd rfl (Or.inl rfl))
    (a0h (a0J (a0y a1g (a0q GA.ok hr (by rfl) GA.m GA.kp GA.b .nil a0D (a0a (a0n a0k (a0n a0k (a0n a0k (a0F (pv 0) rfl) (pv 6) (λ_ _=>rfl)) (pv 2) (λ_ _=>rfl)) (pv 7) (λ_ _=>rfl)) (a0a (a0n a0k (a0n a0k (a0n a0k (a0F (pv 0) rfl) (a0m a0M (pv 6) a0d) (λ_ _=>rfl)) (pv 7) (λ_ _=>rfl)) (pv 3) (λ_ _=>rfl)) a0f))) (pv 4) (nomark _))
     (a0h (a1f (a2u PySem.F.plainAttrs_list PySem.F.slot_list_append PySem.F.type_list_append a1e (pv 5) (a0a (a1h (a0a (pv 6) (a0a (pv 7) a0f))) a0f)))) a0x)))))
  (a0h (a0v (pv 5))))),?_⟩
 obtain ⟨dx,ho⟩:=pa.ob;have i1:i < ws.length+1:=by omega
 have j1:j < ws.length+1:=by omega
 refine ⟨_,rfl,r,C,dx,_,_,rfl,ho,rc.c,rc.nt,rfl,_,rfl,X.tt,_,_,_,rfl,rfl,SqL.of pa.tl.o,a0N (k:=l) (by omega),_,rfl,X.bt l,_,_,_,rfl,rfl,SqL.of (pa.tl.b l (by omega)),a0N i1,_,rfl,X.ct l i,_,_,_,rfl,rfl,SqL.of (pa.tl.c l i (by omega) i1),a0N j1,?_⟩;refine ⟨(by show 0<=sizeLine;decide),λd hd=>?_⟩;have s1:=a0g hd (.lst []);have g1:upd H d (.lst []) d=some (.lst []):=a0b;generalize upd H d (.lst [])=H1 at s1 g1 ⊢;refine ⟨_,rfl,_,rfl,r,C,dx,_,_,rfl,s1 _ _ ho,rc.c,rc.np,rfl,p,_,rfl,.inr (SqT.of (s1 _ _ pa.hp)),?_⟩;rw [List.length_map];refine ⟨_,_,rfl,⟨by omega,by omega,by omega,by omega⟩,?_⟩;have e0:((ps.length:Int) - (l:Int)).toNat=ps.length - l:=by omega
 rw [e0]
 let pw:Nat × Nat->Bool:=λq=>decide (CT.vl h t i j q=t l i j)
 have fin:∀ a,(((List.range a).flatMap λa=>(List.range (j - i)).map λb=>(l+a,b)).filter pw).length<=a * (j - i):=λa=>by
  refine Nat.le_trans (List.length_filter_le _ _) ?_
  induction a with
  | zero=>simp
  | succ a ih=>rw [List.range_succ,List.flatMap_append,List.length_append,Nat.succ_mul];simp;simp at ih;omega
 refine a1r (λa σ H'=>a0E H H'/\(∃ xs,H' d=some (.lst xs)/\Paired (Way H' i) xs (((List.range a).flatMap λa=>(List.range (j - i)).map λb=>(l+a,b)).filter pw))/\∃ x6 x7:Option V,σ=[some (.ref r),some (.int (l:Int)),some (.int (i:Int)),some (.int (j:Int)),some (oV (t l i j)),some (.ref d),x6,x7])
  ⟨s1,⟨[],g1,.nil⟩,_,_,rfl⟩ (λa σ H2 ha hP=>?_) (λσ H2 hP=>?_)
 ·obtain ⟨s2,⟨xs2,g2,w2⟩,x6,x7,rfl⟩:=hP;have ea:(l:Int)+(a:Int)=((l+a:Nat):Int):=by push_cast;rfl
  rw [ea];refine ⟨_,rfl,_,_,rfl,rfl,_,rfl,_,_,rfl,rfl,_,_,rfl,⟨by omega,by omega,by omega,by omega⟩,?_⟩;have e1:(((j:Int)+1) - ((i:Int)+1)).toNat=j - i:=by omega
  rw [e1];refine a1r (λb σ H'=>a0E H H'/\(∃ xs,H' d=some (.lst xs)/\Paired (Way H' i) xs ((((List.range a).flatMap λa=>(List.range (j - i)).map λb=>(l+a,b))++(List.range b).map λb=>(l+a,b)).filter pw))/\∃ x7:Option V,σ=[some (.ref r),some (.int (l:Int)),some (.int (i:Int)),some (.int (j:Int)),some (oV (t l i j)),some (.ref d),some (.int ((l+a:Nat):Int)),x7])
   ⟨s2,⟨xs2,g2,by rw [List.range_zero,List.map_nil,List.append_nil];exact w2⟩,_,rfl⟩ (λb σ H3 hb hP=>?_) (λσ H3 hP=>?_)
  ·obtain ⟨s3,⟨xs,g3,w3⟩,x7,rfl⟩:=hP;have eb:(i:Int)+1+(b:Int)=((i+b+1:Nat):Int):=by push_cast;omega
   rw [eb];have pa3:=pa.same s3;have hla:l+a < ps.length:=by omega
   have hb1:i+b+1 < ws.length+1:=by omega
   have lx:xs.length<=500:=by
    rw [w3.length];have h1:=fin a;have h2:a * (j - i)<=10 * 20:=Nat.mul_le_mul (by omega) (by omega);rw [List.filter_append,List.length_append];have h3:=List.length_filter_le pw ((List.range b).map λb=>(l+a,b));rw [List.length_map,List.length_range] at h3;omega
   refine ⟨_,rfl,r,C,dx,_,_,rfl,s3 _ _ ho,rc.c,rc.nh,rfl,_,rfl,X.th,_,_,_,rfl,rfl,SqL.of pa3.hd.o,a0N hla,_,rfl,X.bh (l+a),_,_,_,rfl,rfl,SqL.of (pa3.hd.b (l+a) hla),a0N i1,_,rfl,X.ch (l+a) i,_,_,_,rfl,rfl,SqL.of (pa3.hd.c (l+a) i hla i1),a0N hb1,?_⟩;refine ⟨_,rfl,r,C,dx,_,_,rfl,s3 _ _ ho,rc.c,rc.nt,rfl,_,rfl,_,_,rfl,rfl,X.tt,_,_,_,rfl,rfl,SqL.of pa3.tl.o,a0N (k:=l+a+1) (by omega),_,rfl,X.bt (l+a+1),_,_,_,rfl,rfl,SqL.of (pa3.tl.b (l+a+1) (by omega)),a0N hb1,_,rfl,X.ct (l+a+1) (i+b+1),_,_,_,rfl,rfl,SqL.of (pa3.tl.c (l+a+1) (i+b+1) (by omega) hb1),a0N j1,?_⟩;refine ⟨_,_,rfl,_,rfl,scal_O _ _,_,rfl,?_⟩;have ef:(((List.range a).flatMap λa=>(List.range (j - i)).map λb=>(l+a,b))++(List.range (b+1)).map λb=>(l+a,b)).filter pw=(((List.range a).flatMap λa=>(List.range (j - i)).map λb=>(l+a,b))++(List.range b).map λb=>(l+a,b)).filter pw++(if pw (l+a,b)=true then [(l+a,b)] else []):=by
    rw [List.range_succ,List.map_append,<-List.append_assoc,List.filter_append];congr 1;show [(l+a,b)].filter pw=_;rw [List.filter_cons];rfl
   refine a1K (λy=>?_) (λy=>?_)
   ·have y1:pw (l+a,b)=true:=decide_eq_true (oV_inj (of_decide_eq_true y));refine ⟨_,rfl,.inl ⟨rfl,_,SqL.of g3⟩,_,rfl,_,rfl,(by show 2<=sizeLine;decide),λtt htt=>?_⟩;have s4:=a0g htt (.tup [.int ((l+a:Nat):Int),.int ((i+b+1:Nat):Int)]);have g4:=s4 _ _ g3;have ht4:upd H3 tt (.tup [.int ((l+a:Nat):Int),.int ((i+b+1:Nat):Int)]) tt=some (.tup [.int ((l+a:Nat):Int),.int ((i+b+1:Nat):Int)]):=a0b;generalize upd H3 tt (.tup [.int ((l+a:Nat):Int),.int ((i+b+1:Nat):Int)])=H4 at s4 g4 ht4 ⊢;refine ⟨d,_,_,rfl,rfl,g4,a0p (by omega),a0w hd (s3.trans s4),⟨_,a0b,?_⟩,_,rfl⟩;rw [ef,if_pos y1];exact L2.Paired.appendP (Paired.mapP w3 λ_ _ r=>(r.same s4).upd g4) (.cons (Way.upd g4 ⟨tt,rfl,ht4⟩) .nil)
   ·have y1:¬ pw (l+a,b)=true:=λz=>y (decide_eq_true (congrArg oV (of_decide_eq_true z)));exact ⟨s3,⟨xs,g3,by rw [ef,if_neg y1,List.append_nil];exact w3⟩,_,rfl⟩
  ·obtain ⟨s3,⟨xs,g3,w3⟩,x7,rfl⟩:=hP;refine ⟨s3,⟨xs,g3,?_⟩,_,_,rfl⟩;rw [List.range_succ,List.flatMap_append];simpa using w3
 ·obtain ⟨s2,⟨xs2,g2,w2⟩,x6,x7,rfl⟩:=hP;exact ⟨_,rfl,q d xs2 H2 s2 g2 w2⟩
end
namespace CT
section
variable {L n:Nat} {h t:Nat->Nat->Nat->OI} {F:Nat->Nat->OI} {p:Nat->Int} {W:Nat->Nat->Int}
theorem only (T:Tb L n h t F p W) {i w:Nat} (hw:i+w<=n) (h2:2<=w):∀ q∈Bk L 0 w,vl h t i (i+w) q=t 0 i (i+w)->q.2 < w - 1:=by
 intro q hq ev;by_cases z:q.2 < w - 1
 ·exact z
 exfalso;obtain ⟨_,q2,q3⟩:=a4w.mp hq;have e3:i+q.2+1=i+w:=by omega
 have es:vl h t i (i+w) q=oadd (oadd (some (p q.1 * W i (i+w))) (F i (i+w))) (some 0):=by
  unfold vl;rw [e3,T.hh q.1 i (i+w) q2 (by omega) hw,T.dg (q.1+1) (i+w) (by omega) hw]
 have et:=T.tt 0 i (i+w) (Nat.zero_le _) (by omega) hw;rw [show i+w - i=w by omega] at et;have eF:F i (i+w)=lo ((Bk L 0 (w - 1)).map (vl h t i (i+w))):=by
  rw [T.ff i (i+w) (by omega) hw,if_neg (by omega),show i+w - 1 - i=w - 1 by omega]
 cases f:F i (i+w) with
 | none=>exact T.fn i (i+w) (by omega) hw f
 | some x =>
  have hx:=(a2l.mp (eF.symm.trans f)).1;obtain ⟨r,hr,er⟩:=List.mem_map.mp hx;obtain ⟨a,b,c⟩:=a4w.mp hr;obtain ⟨m,em,hm⟩:=b0F (List.mem_map.mpr ⟨r,a4w.mpr ⟨a,b,(by omega:r.2 < w)⟩,er⟩:some x∈(Bk L 0 w).map (vl h t i (i+w)));rw [<-et] at em;rw [es,f,em] at ev;have ev:some (p q.1 * W i (i+w)+x+0)=some m:=ev;have:=Option.some.inj ev;have pos:=T.pw q.1 i (i+w) q2 (by omega) hw;omega
end
end CT
structure Ctd (L n:Nat) (h t:Nat->Nat->Nat->OI) (Tc:Nat->Nat->OI) (Tt:Nat->Nat->Nat->OI) (c:Nat->Nat->Nat) (u:Nat->Nat->Nat->Nat) (pr:Nat->Nat->Prop):Prop where
 dg:∀ l j,l<=L->j<=n->Tt l j j=some 1
 vc:∀ i j,i < j->j<=n->pr i j->Tc i j=some (c i j:Int)
 vt:∀ l i j,l < L->i < j->j<=n->pr i j->Tt l i j=some (u l i j:Int)
 ec:∀ i j,i < j->j<=n->pr i j->c i j=if j - i=1 then 1 else CT.ovr L h t c u 0 i j
 et:∀ l i j,l < L->i < j->j<=n->pr i j->u l i j=CT.ovr L h t c u l i j
 td:∀ l j,l<=L->j<=n->u l j j=1
 bc:∀ i j,i < j->j<=n->pr i j->c i j<=32 * 1024 ^ (2 * (j - i) - 2)
 bt:∀ l i j,l < L->i < j->j<=n->pr i j->u l i j<=1024 ^ (2 * (j - i) - 1)
theorem Ctd.weak {L n:Nat} {h t:Nat->Nat->Nat->OI} {Tc:Nat->Nat->OI} {Tt:Nat->Nat->Nat->OI} {c:Nat->Nat->Nat} {u:Nat->Nat->Nat->Nat} {pr pr':Nat->Nat->Prop} (a:Ctd L n h t Tc Tt c u pr) (w:∀ i j,i < j->j<=n->pr' i j->pr i j):Ctd L n h t Tc Tt c u pr' :=
 ⟨a.dg,λi j hij hj hp=>a.vc i j hij hj (w i j hij hj hp),λl i j hl hij hj hp=>a.vt l i j hl hij hj (w i j hij hj hp),λi j hij hj hp=>a.ec i j hij hj (w i j hij hj hp),λl i j hl hij hj hp=>a.et l i j hl hij hj (w i j hij hj hp),a.td,λi j hij hj hp=>a.bc i j hij hj (w i j hij hj hp),λl i j hl hij hj hp=>a.bt l i j hl hij hj (w i j hij hj hp)⟩
theorem a9i {α:Type} {f:α->Nat} {B:Nat}:∀ xs:List α,(∀ x∈xs,f x<=B)->(xs.map f).sum<=xs.length * B
 | [],_=>by simp
 | x :: xs,h=>by
  rw [List.map_cons,List.sum_cons,List.length_cons,Nat.succ_mul];have:=a9i xs λy hy=>h y (.tail _ hy);have:=h x (.head _);omega
theorem Bk_len (L l m:Nat):(CT.Bk L l m).length=(L - l) * m:=by
 unfold CT.Bk;rw [List.length_flatMap];have:((List.range (L - l)).map λa=>((List.range m).map λb=>(l+a,b)).length)=List.replicate (L - l) m:=by
  rw [List.eq_replicate_iff];refine ⟨by rw [List.length_map,List.length_range],λx hx=>?_⟩;obtain ⟨a,_,rfl⟩:=List.mem_map.mp hx;rw [List.length_map,List.length_range]
 rw [this,List.sum_replicate_nat]
theorem a6b {L l i j:Nat} {h t:Nat->Nat->Nat->OI} (hL:L<=4) (hw:j - i<=6):(wys L h t l i j).length<=24:=by
 have h1:(wys L h t l i j).length<=(CT.Bk L l (j - i)).length:=List.length_filter_le _ _;rw [Bk_len] at h1;have h2:(L - l) * (j - i)<=4 * 6:=Nat.mul_le_mul (by omega) hw;omega
structure Sm1 (L n:Nat) (Tc:Nat->Nat->OI) (Tt:Nat->Nat->Nat->OI) (c:Nat->Nat->Nat) (u:Nat->Nat->Nat->Nat) (i j:Nat) (ws:List (Nat × Nat)) (B:Nat):Prop where
 a:∀ q∈ws,Tc i (i+q.2+1)=some (c i (i+q.2+1):Int)
 b:∀ q∈ws,Tt (q.1+1) (i+q.2+1) j=some (u (q.1+1) (i+q.2+1) j:Int)
 c1:∀ q∈ws,c i (i+q.2+1)<=2 ^ 126
 u1:∀ q∈ws,u (q.1+1) (i+q.2+1) j<=2 ^ 126
 d:∀ q∈ws,c i (i+q.2+1) * u (q.1+1) (i+q.2+1) j<=B
 g:∀ q∈ws,q.1 < L/\i+q.2+1<=j
theorem a9j {a b:Nat} (h:a<=b):1024 ^ a<=1024 ^ b:=Nat.pow_le_pow_right (by decide) h
theorem b3d {a:Nat} (h:a<=11):32 * 1024 ^ a<=2 ^ 126:=by
 have h1:=a9j h;have h2:32 * 1024 ^ 11<=2 ^ 126:=by decide
 omega
theorem a9k {s w x y:Nat} (hs:1<=s) (hw:s < w) (hx:x<=32 * 1024 ^ (2 * s - 2)) (hy:y<=1024 ^ (2 * (w - s) - 1)):x * y<=1024 ^ (2 * w - 2):=by
 have h1:=Nat.mul_le_mul hx hy;have e:32 * 1024 ^ (2 * s - 2) * 1024 ^ (2 * (w - s) - 1)=32 * 1024 ^ (2 * w - 3):=by
  rw [Nat.mul_assoc,<-Nat.pow_add];congr 2;omega
 have e2:1024 ^ (2 * w - 2)=1024 * 1024 ^ (2 * w - 3):=by
  rw [show 2 * w - 2=(2 * w - 3)+1 by omega,Nat.pow_succ,Nat.mul_comm]
 rw [e] at h1;rw [e2];omega
theorem Ctd.sm {L n:Nat} {h t:Nat->Nat->Nat->OI} {Tc:Nat->Nat->OI} {Tt:Nat->Nat->Nat->OI} {c:Nat->Nat->Nat} {u:Nat->Nat->Nat->Nat} {f e:Nat} (a:Ctd L n h t Tc Tt c u (Dn f e)) (hfe:f < e) (he:e<=n) (n6:n<=6) {ws:List (Nat × Nat)} (hws:∀ q∈ws,q.1+1 < L+1/\q.2+1 < e - f/\(Tt (q.1+1) (f+q.2+1) e≠none->True)/\q.1+1 < L):Sm1 L n Tc Tt c u f e ws (1024 ^ (2 * (e - f) - 2)):=by
 refine ⟨λq hq=>?_,λq hq=>?_,λq hq=>?_,λq hq=>?_,λq hq=>?_,λq hq=>?_⟩
 all_goals obtain ⟨h1,h2,_,h4⟩:=hws q hq
 ·exact a.vc f (f+q.2+1) (by omega) (by omega) (.inr ⟨rfl,by omega⟩)
 ·exact a.vt (q.1+1) (f+q.2+1) e h4 (by omega) he (.inl (by omega))
 ·have:=a.bc f (f+q.2+1) (by omega) (by omega) (.inr ⟨rfl,by omega⟩);exact Nat.le_trans this (b3d (by omega))
 ·have:=a.bt (q.1+1) (f+q.2+1) e h4 (by omega) he (.inl (by omega));have h5:=a9j (show 2 * (e - (f+q.2+1)) - 1<=11 by omega);have h6:1024 ^ 11<=2 ^ 126:=by decide
  omega
 ·have x:=a.bc f (f+q.2+1) (by omega) (by omega) (.inr ⟨rfl,by omega⟩);have y:=a.bt (q.1+1) (f+q.2+1) e h4 (by omega) he (.inl (by omega));rw [show f+q.2+1 - f=q.2+1 by omega] at x;rw [show e - (f+q.2+1)=e - f - (q.2+1) by omega] at y;exact a9k (by omega) h2 x y
 ·exact ⟨by omega,by omega⟩
end K94C
namespace K94C
open PySem L2
theorem a6c {L l i j:Nat} {h t:Nat->Nat->Nat->OI} {q:Nat × Nat}:q∈wys L h t l i j↔q∈CT.Bk L l (j - i)/\CT.vl h t i j q=t l i j:=by
 unfold wys;rw [List.mem_filter,decide_eq_true_eq]
theorem a2b {L l i j:Nat} {h t:Nat->Nat->Nat->OI} {c:Nat->Nat->Nat} {u:Nat->Nat->Nat->Nat}:CT.ovr L h t c u l i j=((wys L h t l i j).map λq=>c i (i+q.2+1) * u (q.1+1) (i+q.2+1) j).sum:=rfl
section
variable {L n:Nat} {h t:Nat->Nat->Nat->OI} {F:Nat->Nat->OI} {p:Nat->Int} {W:Nat->Nat->Int}
theorem b1E (T:CT.Tb L n h t F p W) {l i j:Nat} (hl:l < L) (hij:i < j) (hj:j<=n) {q:Nat × Nat} (hq:q∈wys L h t l i j):l<=q.1/\q.1 < L/\q.2+1<=j - i/\(q.2+1 < j - i->q.1+1 < L):=by
 obtain ⟨h1,h2⟩:=a6c.mp hq;obtain ⟨a,b,c⟩:=CT.a4w.mp h1;refine ⟨a,b,by omega,λhlt=>?_⟩;by_cases e:q.1+1 < L
 ·exact e
 ·exfalso;have eL:q.1+1=L:=by omega
  have en:t (q.1+1) (i+q.2+1) j=none:=by
   rw [T.tt (q.1+1) (i+q.2+1) j (by omega) (by omega) hj,eL];unfold CT.Bk;rw [Nat.sub_self];exact a8W
  refine T.tn l i j hl hij hj ?_;rw [<-h2];unfold CT.vl;rw [en];cases h q.1 i (i+q.2+1) <;> rfl
theorem wys0 (T:CT.Tb L n h t F p W) (hL:0 < L) {i j:Nat} (hij:i+2<=j) (hj:j<=n) {q:Nat × Nat} (hq:q∈wys L h t 0 i j):q.2+1 < j - i/\q.1+1 < L:=by
 have h1:=b1E T hL (by omega) hj hq;obtain ⟨h2,h3⟩:=a6c.mp hq;have:=CT.only T (i:=i) (w:=j - i) (by omega) (by omega) q h2 (by rw [show i+(j - i)=j by omega];exact h3);exact ⟨by omega,h1.2.2.2 (by omega)⟩
def upc (c:Nat->Nat->Nat) (f e v:Nat):Nat->Nat->Nat:=λa b=>if a=f/\b=e then v else c a b
theorem a4y {c:Nat->Nat->Nat} {f e v:Nat}:upc c f e v f e=v:=if_pos ⟨rfl,rfl⟩
theorem a4z {c:Nat->Nat->Nat} {f e v a b:Nat} (h:¬ (a=f/\b=e)):upc c f e v a b=c a b:=if_neg h
def upu (u:Nat->Nat->Nat->Nat) (f e:Nat) (g:Nat->Nat):Nat->Nat->Nat->Nat:=λl a b=>if a=f/\b=e then g l else u l a b
theorem a9l {u:Nat->Nat->Nat->Nat} {f e:Nat} {g:Nat->Nat} {l:Nat}:upu u f e g l f e=g l:=if_pos ⟨rfl,rfl⟩
theorem a4A {u:Nat->Nat->Nat->Nat} {f e:Nat} {g:Nat->Nat} {l a b:Nat} (h:¬ (a=f/\b=e)):upu u f e g l a b=u l a b:=if_neg h
variable {Tc:Nat->Nat->OI} {Tt:Nat->Nat->Nat->OI} {c:Nat->Nat->Nat} {u:Nat->Nat->Nat->Nat} {f e:Nat}
def v0 (L:Nat) (h t:Nat->Nat->Nat->OI) (c:Nat->Nat->Nat) (u:Nat->Nat->Nat->Nat) (f e:Nat):Nat:=if e - f=1 then 1 else CT.ovr L h t c u 0 f e
theorem Ctd.s0 (T:CT.Tb L n h t F p W) (hL:0 < L) (a:Ctd L n h t Tc Tt c u (Dn f e)) (hfe:f+2<=e) (he:e<=n) (n6:n<=6):Sm1 L n Tc Tt c u f e (wys L h t 0 f e) (1024 ^ (2 * (e - f) - 2)) :=
 a.sm (by omega) he n6 λq hq=>by
  have:=wys0 T hL hfe he hq;exact ⟨by omega,this.1,λ_=>trivial,this.2⟩
theorem Ctd.v0_le (T:CT.Tb L n h t F p W) (hL:0 < L) (L4:L<=4) (a:Ctd L n h t Tc Tt c u (Dn f e)) (hfe:f < e) (he:e<=n) (n6:n<=6):v0 L h t c u f e<=32 * 1024 ^ (2 * (e - f) - 2):=by
 unfold v0;split
 ·rename_i z;rw [z];decide
 ·have s:=a.s0 T hL (by omega) he n6;rw [a2b];have h1:=a9i (f:=λq:Nat × Nat=>c f (f+q.2+1) * u (q.1+1) (f+q.2+1) e) (wys L h t 0 f e) s.d;have h2:=a6b (L:=L) (l:=0) (i:=f) (j:=e) (h:=h) (t:=t) L4 (by omega);have h3:=Nat.mul_le_mul_right (1024 ^ (2 * (e - f) - 2)) h2;omega
theorem Ctd.sl (T:CT.Tb L n h t F p W) (hL:0 < L) (L4:L<=4) (a:Ctd L n h t Tc Tt c u (Dn f e)) (hfe:f < e) (he:e<=n) (n6:n<=6) {l:Nat} (hl:l < L):Sm1 L n (up2 Tc f e (some (v0 L h t c u f e:Int))) Tt (upc c f e (v0 L h t c u f e)) u f e (wys L h t l f e) (32 * 1024 ^ (2 * (e - f) - 2)):=by
 have hv:=a.v0_le T hL L4 hfe he n6;have key:∀ q∈wys L h t l f e,(f+q.2+1=e/\q.1 < L)\/(f+q.2+1 < e/\q.1+1 < L):=λq hq=>by
  obtain ⟨h1,h2,h3,h4⟩:=b1E T hl hfe he hq;by_cases z:q.2+1 < e - f
  ·exact .inr ⟨by omega,h4 z⟩
  ·exact .inl ⟨by omega,h2⟩
 have tc:∀ q∈wys L h t l f e,f+q.2+1 < e->up2 Tc f e (some (v0 L h t c u f e:Int)) f (f+q.2+1)=Tc f (f+q.2+1)/\upc c f e (v0 L h t c u f e) f (f+q.2+1)=c f (f+q.2+1):=λq _ hlt=>by
  refine ⟨?_,a4z (by omega)⟩;unfold up2;rw [if_neg (by omega)]
 have te:up2 Tc f e (some (v0 L h t c u f e:Int)) f e=some (v0 L h t c u f e:Int):=by unfold up2;rw [if_pos ⟨rfl,rfl⟩]
 refine ⟨λq hq=>?_,λq hq=>?_,λq hq=>?_,λq hq=>?_,λq hq=>?_,λq hq=>?_⟩
 all_goals rcases key q hq with ⟨k1,k2⟩ | ⟨k1,k2⟩
 ·rw [k1,te,a4y]
 ·rw [(tc q hq k1).1,(tc q hq k1).2];exact a.vc f (f+q.2+1) (by omega) (by omega) (.inr ⟨rfl,by omega⟩)
 ·rw [k1,a.dg (q.1+1) e (by omega) he,a.td (q.1+1) e (by omega) he];rfl
 ·exact a.vt (q.1+1) (f+q.2+1) e k2 (by omega) he (.inl (by omega))
 ·rw [k1,a4y];exact Nat.le_trans hv (b3d (by omega))
 ·rw [(tc q hq k1).2];have:=a.bc f (f+q.2+1) (by omega) (by omega) (.inr ⟨rfl,by omega⟩);exact Nat.le_trans this (b3d (by omega))
 ·rw [k1,a.td (q.1+1) e (by omega) he];decide
 ·have:=a.bt (q.1+1) (f+q.2+1) e k2 (by omega) he (.inl (by omega));have h5:=a9j (show 2 * (e - (f+q.2+1)) - 1<=11 by omega);have h6:1024 ^ 11<=2 ^ 126:=by decide
  omega
 ·rw [k1,a4y,a.td (q.1+1) e (by omega) he,Nat.mul_one];exact hv
 ·rw [(tc q hq k1).2];have x:=a.bc f (f+q.2+1) (by omega) (by omega) (.inr ⟨rfl,by omega⟩);have y:=a.bt (q.1+1) (f+q.2+1) e k2 (by omega) he (.inl (by omega));rw [show f+q.2+1 - f=q.2+1 by omega] at x;rw [show e - (f+q.2+1)=e - f - (q.2+1) by omega] at y;have:=a9k (by omega) (by omega) x y;omega
 ·exact ⟨k2,by omega⟩
 ·exact ⟨by omega,by omega⟩
theorem Ctd.step (T:CT.Tb L n h t F p W) (hL:0 < L) (L4:L<=4) (a:Ctd L n h t Tc Tt c u (Dn f e)) (hfe:f < e) (he:e<=n) (n6:n<=6) {Tt':Nat->Nat->Nat->OI} (h1:∀ l a b,¬ (a=f/\b=e)->Tt' l a b=Tt l a b) (h2:∀ l,l < L->Tt' l f e=some (CT.ovr L h t (upc c f e (v0 L h t c u f e)) u l f e:Int)) :
  ∃ c' u',Ctd L n h t (up2 Tc f e (some (v0 L h t c u f e:Int))) Tt' c' u' (Dn f (e+1)):=by
 have hv:=a.v0_le T hL L4 hfe he n6;refine ⟨upc c f e (v0 L h t c u f e),upu u f e λl=>CT.ovr L h t (upc c f e (v0 L h t c u f e)) u l f e,?_⟩;have dn:∀ {i j},Dn f (e+1) i j->¬ (i=f/\j=e)->Dn f e i j:=λhp z=>by
  rcases hp with y | y
  ·exact .inl y
  ·exact .inr ⟨y.1,by omega⟩
 have oth:∀ l i j,i < j->Dn f e i j->CT.ovr L h t (upc c f e (v0 L h t c u f e)) (upu u f e λl=>CT.ovr L h t (upc c f e (v0 L h t c u f e)) u l f e) l i j=CT.ovr L h t c u l i j:=λl i j hij hp=>by
  rw [a2b,a2b];congr 1;refine List.map_congr_left λq hq=>?_;have hb:=(CT.a4w.mp (a6c.mp hq).1).2.2;rw [a4z (by rcases hp with y | y <;> omega),a4A (by rcases hp with y | y <;> omega)]
 have own:∀ l,CT.ovr L h t (upc c f e (v0 L h t c u f e)) (upu u f e λl=>CT.ovr L h t (upc c f e (v0 L h t c u f e)) u l f e) l f e=CT.ovr L h t (upc c f e (v0 L h t c u f e)) u l f e:=λl=>by
  rw [a2b,a2b];congr 1;refine List.map_congr_left λq hq=>?_;rw [a4A (by omega)]
 refine ⟨λl j hl hj=>?_,λi j hij hj hp=>?_,λl i j hl hij hj hp=>?_,λi j hij hj hp=>?_,λl i j hl hij hj hp=>?_,λl j hl hj=>?_,λi j hij hj hp=>?_,λl i j hl hij hj hp=>?_⟩
 ·rw [h1 l j j (by omega)];exact a.dg l j hl hj
 ·by_cases z:i=f/\j=e
  ·obtain ⟨rfl,rfl⟩:=z;rw [a4y];unfold up2;rw [if_pos ⟨rfl,rfl⟩]
  ·rw [a4z z];unfold up2;rw [if_neg z];exact a.vc i j hij hj (dn hp z)
 ·by_cases z:i=f/\j=e
  ·obtain ⟨rfl,rfl⟩:=z;rw [h2 l hl,a9l]
  ·rw [h1 l i j z,a4A z];exact a.vt l i j hl hij hj (dn hp z)
 ·by_cases z:i=f/\j=e
  ·obtain ⟨rfl,rfl⟩:=z;rw [a4y];by_cases z1:j - i=1
   ·unfold v0;rw [if_pos z1,if_pos z1]
   ·rw [if_neg z1,own 0];have e0:v0 L h t c u i j=CT.ovr L h t c u 0 i j:=by unfold v0;rw [if_neg z1]
    rw [e0,a2b,a2b];congr 1;refine List.map_congr_left λq hq=>?_;have:=wys0 T hL (by omega) hj hq;rw [a4z (by omega)]
  ·rw [a4z z,oth 0 i j hij (dn hp z)];exact a.ec i j hij hj (dn hp z)
 ·by_cases z:i=f/\j=e
  ·obtain ⟨rfl,rfl⟩:=z;rw [a9l,own l]
  ·rw [a4A z,oth l i j hij (dn hp z)];exact a.et l i j hl hij hj (dn hp z)
 ·rw [a4A (by omega)];exact a.td l j hl hj
 ·by_cases z:i=f/\j=e
  ·obtain ⟨rfl,rfl⟩:=z;rw [a4y];exact hv
  ·rw [a4z z];exact a.bc i j hij hj (dn hp z)
 ·by_cases z:i=f/\j=e
  ·obtain ⟨rfl,rfl⟩:=z;rw [a9l,a2b];have s:=a.sl T hL L4 hij hj n6 hl;have h3:=a9i (f:=λq:Nat × Nat=>upc c i j (v0 L h t c u i j) i (i+q.2+1) * u (q.1+1) (i+q.2+1) j) (wys L h t l i j) s.d;have h4:=a6b (L:=L) (l:=l) (i:=i) (j:=j) (h:=h) (t:=t) L4 (by omega);have h5:=Nat.mul_le_mul_right (32 * 1024 ^ (2 * (j - i) - 2)) h4;have h6:1024 ^ (2 * (j - i) - 1)=1024 * 1024 ^ (2 * (j - i) - 2):=by
    rw [show 2 * (j - i) - 1=(2 * (j - i) - 2)+1 by omega,Nat.pow_succ,Nat.mul_comm]
   rw [h6];omega
  ·rw [a4A z];exact a.bt l i j hl hij hj (dn hp z)
end
structure CY where
 cc:Addr
 ca:Nat->Addr
 tt:Addr
 bt:Nat->Addr
 ct:Nat->Nat->Addr
abbrev cf (pr:Addr) (L:Int) (Y:CY):List (Str × V):=[("parted",.ref pr),("letters",.int L),("codes",.ref Y.cc),("tails",.ref Y.tt)]
structure CAt (D:Addr) (H:Hp) (r pr:Addr) (L s:Nat) (Y:CY) (Tc:Nat->Nat->OI) (Tt:Nat->Nat->Nat->OI):Prop where
 ob:∃ dx,H r=some (.ins D dx (cf pr (L:Int) Y))
 co:H Y.cc=some (.lst ((List.range s).map λi=>.ref (Y.ca i)))
 cr:∀ i,i < s->H (Y.ca i)=some (.lst ((List.range s).map λj=>oV (Tc i j)))
 tl:Tb H Y.tt Y.bt Y.ct (L+1) s Tt
 ic:∀ i j,i < s->j < s->Y.ca i=Y.ca j->i=j
 it:∀ l i l' i',l < L+1->l' < L+1->i < s->i' < s->Y.ct l i=Y.ct l' i'->l=l'/\i=i'
 ix:∀ i l k,i < s->l < L+1->k < s->Y.ca i≠Y.ct l k
theorem CAt.same {D:Addr} {H H':Hp} {r pr:Addr} {L s:Nat} {Y:CY} {Tc:Nat->Nat->OI} {Tt:Nat->Nat->Nat->OI} (a:CAt D H r pr L s Y Tc Tt) (k:a0E H H'):CAt D H' r pr L s Y Tc Tt:=by
 obtain ⟨dx,ho⟩:=a.ob;exact ⟨⟨dx,k _ _ ho⟩,k _ _ a.co,λi hi=>k _ _ (a.cr i hi),a.tl.same k,a.ic,a.it,a.ix⟩
theorem b0Q {T:Nat->Nat->OI} {i j s:Nat} {v:OI} (hj:j < s):((List.range s).map λk=>oV (T i k)).set j (oV v)=(List.range s).map λk=>oV (up2 T i j v i k):=by
 have:=a9f (T:=λ_=>T) (l:=0) (i:=i) (j:=j) (s:=s) (v:=v) hj;rw [this];refine List.map_congr_left λk _=>?_;unfold up2 up3;by_cases e:k=j
 ·rw [if_pos ⟨rfl,rfl,e⟩,if_pos ⟨rfl,e⟩]
 ·rw [if_neg (λz=>e z.2.2),if_neg (λz=>e z.2)]
theorem CAt.putc {D:Addr} {H:Hp} {r pr:Addr} {L s:Nat} {Y:CY} {Tc:Nat->Nat->OI} {Tt:Nat->Nat->Nat->OI} {i j:Nat} {v:OI} (a:CAt D H r pr L s Y Tc Tt) (hi:i < s) (hj:j < s):CAt D (upd H (Y.ca i) (.lst (((List.range s).map λk=>oV (Tc i k)).set j (oV v)))) r pr L s Y (up2 Tc i j v) Tt:=by
 obtain ⟨dx,ho⟩:=a.ob;have hc:=a.cr i hi;refine ⟨⟨dx,?_⟩,?_,λk hk=>?_,a.tl.keep (by omega) (by omega) (by omega) hc λl k hl hk=>Ne.symm (a.ix i l k hi hl hk),a.ic,a.it,a.ix⟩
 ·rw [a0j (a0I ho hc (by intro z;cases z))];exact ho
 ·rw [a0j (a0I a.co hc (λz=>a3h (m:=s) (n:=s) (by omega) (by omega) (HO.lst.inj z)))];exact a.co
 ·by_cases e:k=i
  ·subst e;rw [a0b,b0Q hj]
  ·rw [a0j (λz=>e (a.ic k i hk hi z)),a.cr k hk];refine congrArg (λz=>some (HO.lst z)) (List.map_congr_left λm _=>?_);unfold up2;rw [if_neg (λz=>e z.1)]
theorem CAt.putt {D:Addr} {H:Hp} {r pr:Addr} {L s:Nat} {Y:CY} {Tc:Nat->Nat->OI} {Tt:Nat->Nat->Nat->OI} {l i j:Nat} {v:OI} (a:CAt D H r pr L s Y Tc Tt) (hl:l < L+1) (hi:i < s) (hj:j < s):CAt D (upd H (Y.ct l i) (.lst (((List.range s).map λk=>oV (Tt l i k)).set j (oV v)))) r pr L s Y Tc (up3 Tt l i j v):=by
 obtain ⟨dx,ho⟩:=a.ob;have hc:=a.tl.c l i hl hi;refine ⟨⟨dx,?_⟩,?_,λk hk=>?_,a.tl.put a.it hl hi hj,a.ic,a.it,a.ix⟩
 ·rw [a0j (a0I ho hc (by intro z;cases z))];exact ho
 ·rw [a0j (a0I a.co hc (λz=>a3h (m:=s) (n:=s) (by omega) (by omega) (HO.lst.inj z)))];exact a.co
 ·rw [a0j (a.ix k l i hk hl hi)];exact a.cr k hk
def ZC (Y:CY) (L s:Nat) (a:Addr):Prop:=(∃ i,i < s/\a=Y.ca i)\/∃ l i,l < L+1/\i < s/\a=Y.ct l i
structure DC (K:PySem.W.Frag) (D:Addr):Prop where
 c:Cls K D
 np:a1l K D "parted"
 nl:a1l K D "letters"
 nc:a1l K D "codes"
 nt:a1l K D "tails"
section
variable {P':Program} {w:World} {K:PySem.W.Frag} {mg:Str->Option Value} {base:Heap} {f:Addr} {fd:FuncData}
abbrev NBy:List Str:=["self","way","first","end"]
def spBy (D:Addr):Sp:=λvs H Q _=>∃ (r pr:Addr) (L s:Nat) (Y:CY) (Tc:Nat->Nat->OI) (Tt:Nat->Nat->Nat->OI) (wt:Addr) (i wy cut j x y:Nat),vs=[.ref r,.ref wt,.int (i:Int),.int (j:Int)]/\CAt D H r pr L s Y Tc Tt/\H wt=some (.tup [.int (wy:Int),.int (cut:Int)])/\i < s/\cut < s/\j < s/\wy < L/\Tc i cut=some (x:Int)/\Tt (wy+1) cut j=some (y:Int)/\x<=2 ^ 126/\y<=2 ^ 126/\Q (.int ((x * y:Nat):Int)) H
theorem scBy:a0u NBy NBy (a0e sBy):=⟨rfl,rfl,rfl,by decide +kernel,rfl,by decide +kernel,by decide +kernel⟩
def b3e (i j:Int):Prop:=(0<=i/\i<=2 ^ 126)/\(0<=j/\j<=2 ^ 126)
theorem b3e.ok {i j:Int} (h:b3e i j):IntMulOk i j:=by
 have q:∀ k:Int,0<=k/\k<=2 ^ 126->PySem.Builtin.Int.intBits k<=140:=λk hk=>intBits_le_iff.mpr (by
  have e:(2:Nat) ^ 140=1393796574908163946345982392040522594123776:=by decide
  rw [e];omega)
 exact IntMulOk.of_le (q i h.1) (q j h.2) (by decide)
theorem b3f {X:Cx}:OpR X (binaryOp .Mult) (rI b3e λi j=>.int (i * j)):=opI λ_ _ _ _ _ _ _ hc q=>PyProof.Rows.mul_int q hc.ok
theorem ok_by {D:Addr} (F:Fun K "by_way" "Counts.by_way" sBy f fd) (rc:DC K D):a1a P' w K mg base CX0 1 f fd NBy (spBy D):=by
 refine F.ok (k:=0) scBy (λvs H Q E h=>?_) (λcdv A outer s H vs Q E hr h=>?_)
 ·obtain ⟨r,pr,L,s',Y,Tc,Tt,wt,i,wy,cut,j,x,y,rfl,_⟩:=h;rfl
 obtain ⟨r,pr,L,s',Y,Tc,Tt,wt,i,wy,cut,j,x,y,rfl,ca,hwt,hi,hcut,hj,hwy,ex,ey,bx,bY,q⟩:=h;refine ⟨_,a0h (a0v (a0m b3f (a0n a0k (a0n a0k (a0F (pv 0) rfl) (pv 2) (λ_ _=>rfl)) (a0n a0C (pv 1) a0d (λ_ _=>rfl)) (λ_ _=>rfl)) (a0n a0k (a0n a0k (a0n a0k (a0F (pv 0) rfl) (a0m a0M (a0n a0C (pv 1) a0d (λ_ _=>rfl)) a0d) (λ_ _=>rfl)) (a0n a0C (pv 1) a0d (λ_ _=>rfl)) (λ_ _=>rfl)) (pv 3) (λ_ _=>rfl)))),?_⟩;obtain ⟨dx,ho⟩:=ca.ob;refine ⟨_,rfl,r,D,dx,_,_,rfl,ho,rc.c,rc.nc,rfl,_,rfl,Y.cc,_,_,_,rfl,rfl,SqL.of ca.co,a0N hi,_,rfl,wt,_,_,_,rfl,rfl,SqT.of hwt,rfl,Y.ca i,_,_,_,rfl,rfl,SqL.of (ca.cr i hi),a0N hcut,?_⟩;refine ⟨_,rfl,r,D,dx,_,_,rfl,ho,rc.c,rc.nt,rfl,_,rfl,wt,_,_,_,rfl,rfl,SqT.of hwt,rfl,_,_,rfl,rfl,Y.tt,_,_,_,rfl,rfl,SqL.of ca.tl.o,a0N (k:=wy+1) (by omega),_,rfl,wt,_,_,_,rfl,rfl,SqT.of hwt,rfl,Y.bt (wy+1),_,_,_,rfl,rfl,SqL.of (ca.tl.b (wy+1) (by omega)),a0N hcut,_,rfl,Y.ct (wy+1) cut,_,_,_,rfl,rfl,SqL.of (ca.tl.c (wy+1) cut (by omega) hcut),a0N hj,?_⟩;rw [ex,ey];have h1:(x:Int)<=2 ^ 126:=by
  have:((2 ^ 126:Nat):Int)=2 ^ 126:=by decide
  omega
 have h2:(y:Int)<=2 ^ 126:=by
  have:((2 ^ 126:Nat):Int)=2 ^ 126:=by decide
  omega
 refine ⟨_,_,rfl,rfl,⟨⟨by omega,h1⟩,⟨by omega,h2⟩⟩,?_⟩;have e:((x * y:Nat):Int)=(x:Int) * (y:Int):=Int.natCast_mul x y;rw [e] at q;exact q
abbrev NOv:List Str:=["self","letter","first","end"]
def a9m (C D:Addr):Sp:=λvs H Q _=>∃ (r pr p:Addr) (ps ws:List Int) (X:Ad) (h t:Nat->Nat->Nat->OI) (Y:CY) (Tc:Nat->Nat->OI) (Tt:Nat->Nat->Nat->OI) (c:Nat->Nat->Nat) (u:Nat->Nat->Nat->Nat) (l i j B:Nat),vs=[.ref r,.int (l:Int),.int (i:Int),.int (j:Int)]/\PAt C H pr p ps ws X h t/\CAt D H r pr ps.length (ws.length+1) Y Tc Tt/\ws.length<=6/\ps.length<=4/\l < ps.length/\i < j/\j<=ws.length/\Sm1 ps.length ws.length Tc Tt c u i j (wys ps.length h t l i j) B/\∀ H',a0E H H'->Q (.int (CT.ovr ps.length h t c u l i j:Int)) H'
theorem scOver:a0u NOv NOv (a0e a5Z):=⟨rfl,rfl,rfl,by decide +kernel,rfl,by decide +kernel,by decide +kernel⟩
theorem ndOv:(("way":Str) :: NOv).Nodup:=by decide +kernel
theorem b3g (xs:List Nat):(xs.map λx:Nat=>(x:Int)).sum=((xs.sum:Nat):Int):=by
 induction xs with
 | nil=>rfl
 | cons x xs ih=>rw [List.map_cons,List.sum_cons,List.sum_cons,ih];push_cast;rfl
theorem b3h {C D:Addr} (F:Fun K "over_ways" "Counts.over_ways" a5Z f fd) (MW:Mt P' w K mg base C "ways" ["self","letter","first","end"] (a9h C) 3) (MY:Mt P' w K mg base D "by_way" NBy (spBy D) 3) (rcP:PC K C) (rc:DC K D) (ms:mg "sum"=none):a1a P' w K mg base CX0 4 f fd NOv (a9m C D):=by
 refine F.ok (k:=3) scOver (λvs H Q E h=>?_) (λcdv A outer s H vs Q E hr h=>?_)
 ·obtain ⟨r,pr,p,ps,ws,X,h,t,Y,Tc,Tt,c,u,l,i,j,B,rfl,_⟩:=h;rfl
 obtain ⟨r,pr,p,ps,ws,X,h,t,Y,Tc,Tt,c,u,l,i,j,B,rfl,pa,ca,w6,p4,hl,hij,hj,sm,q⟩:=h;refine ⟨_,a0h (a0v (a0t (a9W rfl) (by rfl) ms b_sum (a0a (a1y (M:=NOv) rfl (a0l.of (a0e a5Z) NOv rfl rfl rfl (by decide +kernel) (by decide +kernel) (by decide +kernel) rfl (by decide +kernel)) ndOv rfl (a3m (a1F (a0F (pv 0) rfl) rcP.c MW.m MW.ok hr MW.b .nil a0D (a0a (pv 1) (a0a (pv 2) (a0a (pv 3) a0f))))) a8i
   (λcl C s0 H0 fp=>⟨a0L,a1F (pv 1) rc.c MY.m MY.ok hr MY.b .nil a0D (a0a (pv 0) (a0a (pv 3) (a0a (pv 4) a0f)))⟩)) a0f))),?_⟩
 obtain ⟨dx,ho⟩:=ca.ob;obtain ⟨dp,hop⟩:=pa.ob;refine ⟨λv H1=>∃ d xs,v=.ref d/\a0E H H1/\H1 d=some (.lst xs)/\Paired (Way H1 i) xs (wys ps.length h t l i j),?_,λv H1 hv=>?_⟩
 ·exact ⟨_,rfl,r,D,dx,_,_,rfl,ho,rc.c,rc.np,rfl,pr,dp,_,rfl,hop,rfl,_,rfl,_,rfl,_,rfl,pr,p,ps,ws,X,h,t,l,i,j,rfl,pa,by omega,by omega,hl,hij,hj,λd xs H' s' g' w'=>⟨d,xs,rfl,s',g',w'⟩⟩
 obtain ⟨d,xs,rfl,s1,g1,w1⟩:=hv;have lx:xs.length=(wys ps.length h t l i j).length:=w1.length;have l24:=a6b (L:=ps.length) (l:=l) (i:=i) (j:=j) (h:=h) (t:=t) p4 (by omega);refine ⟨d,_,rfl,SqL.of g1,λe2 he2=>?_⟩;refine ⟨λk H'=>a0E H1 H'/\H' e2=some (.lst ((((wys ps.length h t l i j).take k).map λq=>((c i (i+q.2+1) * u (q.1+1) (i+q.2+1) j:Nat):Int)).map V.int)),⟨a0g he2 _,a0b⟩,λk H' _ hP=>SqL.of (hP.1 _ _ g1),λk x H' hx hP=>?_,λH' hP=>?_⟩
 ·obtain ⟨s2,g2⟩:=hP;obtain ⟨q',hq,wt,rfl,hwt⟩:=Paired.right_of w1 k x hx;have hm:=List.mem_of_getElem? hq;have kl:=(List.getElem?_eq_some_iff.mp hq).1;have s12:=s1.trans s2;have hg:=sm.g q' hm;refine a0G ⟨_,rfl,r,dx,_,rfl,s12 _ _ ho,rfl,_,rfl,_,rfl,_,rfl,r,pr,ps.length,ws.length+1,Y,Tc,Tt,wt,i,q'.1,i+q'.2+1,j,c i (i+q'.2+1),u (q'.1+1) (i+q'.2+1) j,rfl,ca.same s12,s2 _ _ hwt,by omega,by omega,by omega,hg.1,sm.a q' hm,sm.b q' hm,sm.c1 q' hm,sm.u1 q' hm,_,g2,?_,a0w he2 s2,?_⟩
  ·rw [List.length_map,List.length_map,List.length_take];exact a0p (by omega)
  ·rw [a0b,List.take_add_one,hq,List.map_append,List.map_append];rfl
 ·obtain ⟨s2,g2⟩:=hP;rw [lx,List.take_length] at g2;refine ⟨e2,_,rfl,g2,?_⟩;have e:((wys ps.length h t l i j).map λq=>((c i (i+q.2+1) * u (q.1+1) (i+q.2+1) j:Nat):Int)).sum=(CT.ovr ps.length h t c u l i j:Int):=by
   rw [a2b,<-b3g,List.map_map];rfl
  rw [e];exact q _ (s1.trans s2)
end
end K94C
namespace K94C
namespace CT
def tabs (L:Nat):Nat->(Nat->List Code) × (Nat->Nat->List Code)
 | 0=>(λ_=>[],λ_ _=>[])
 | m+1=>(λk=>if k=m+1 then (if m=0 then [[[]]] else rw' L (tabs L m).1 (tabs L m).2 (m+1) 0 m) else (tabs L m).1 k,
   λk l=>if k=m+1 then (if l < L then rw' L (λk=>if k=m+1 then (if m=0 then [[[]]] else rw' L (tabs L m).1 (tabs L m).2 (m+1) 0 m) else (tabs L m).1 k) (tabs L m).2 (m+1) l (m+1) else []) else (tabs L m).2 k l)
def Cs (L m:Nat):List Code:=(tabs L m).1 m
def Rs (L m l:Nat):List Code:=(tabs L m).2 m l
def inL (L m:Nat):Prop:=(L=2/\m<=6)\/(L=3/\m<=4)\/(L=4/\m<=3)
def pc (ps:List Int) (u:List Int):Int:=(u.map λx=>ps.getD x.toNat 0).sum
def co (ps ws:List Int) (i:Nat) (c:Code):Int:=(List.zipWith (λw u=>w * pc ps u) (ws.drop i) c).sum
end CT
end K94C
namespace K94C
open PySem L2
section
variable {P':Program} {w:World} {K:PySem.W.Frag} {mg:Str->Option Value} {base:Heap} {f:Addr} {fd:FuncData}
abbrev NPc:List Str:=["self","first","end","letter"]
def a9n (C D:Addr):Sp:=λvs H Q _=>∃ (H0:Hp) (r pr p:Addr) (ps ws:List Int) (X:Ad) (h t:Nat->Nat->Nat->OI) (Fl:Nat->Nat->OI) (Y:CY) (Tc:Nat->Nat->OI) (Tt:Nat->Nat->Nat->OI) (c:Nat->Nat->Nat) (u:Nat->Nat->Nat->Nat) (i j:Nat),vs=[.ref r,.int (i:Int),.int (j:Int)]/\a0E H0 H/\PAt C H0 pr p ps ws X h t/\(∀ a,ZC Y ps.length (ws.length+1) a->H0 a=none)/\CAt D H r pr ps.length (ws.length+1) Y Tc Tt/\CT.Tb ps.length ws.length h t Fl (pl ps) (Wt ws)/\ws.length<=6/\ps.length<=4/\0 < ps.length/\i < j/\j<=ws.length/\Ctd ps.length ws.length h t Tc Tt c u (Dn i j) /\
 ∀ H' Tc' Tt' c' u',a0E H0 H'->CAt D H' r pr ps.length (ws.length+1) Y Tc' Tt'->Ctd ps.length ws.length h t Tc' Tt' c' u' (Dn i (j+1))->Q .non H'
theorem b1F:a0u NPc ["self","first","end"] (a0e a7u):=⟨rfl,rfl,rfl,by decide +kernel,rfl,by decide +kernel,by decide +kernel⟩
theorem b3i {C D:Addr} (F:Fun K "put_counts" "Counts.put_counts" a7u f fd) (MO:Mt P' w K mg base D "over_ways" NOv (a9m C D) 4) (rc:DC K D) (mr:mg "range"=none):a1a P' w K mg base CX0 5 f fd ["self","first","end"] (a9n C D):=by
 refine F.ok (k:=4) b1F (λvs H Q E h=>?_) (λcdv A outer s H vs Q E hr h=>?_)
 ·obtain ⟨H0,r,pr,p,ps,ws,X,h,t,Fl,Y,Tc,Tt,c,u,i,j,rfl,_⟩:=h;rfl
 obtain ⟨H0,r,pr,p,ps,ws,X,h,t,Fl,Y,Tc,Tt,c,u,i,j,rfl,s0,pa,fz,ca,T,w6,p4,p0,hij,hj,ctd,q⟩:=h;refine ⟨_,a0c (a2G (a3m (a9M (a0y a1g (a0m a2x (pv 2) (pv 1)) a0d (nomark _)) a0d (a1F (pv 0) rc.c MO.m MO.ok hr MO.b .nil a0D (a0a a0d (a0a (pv 1) (a0a (pv 2) a0f)))))) (a3E (a0n a0k (a0F (pv 0) rfl) (pv 1) (λ_ _=>rfl)) (pv 2) a1Y))
  (a0h (a1v PassesOwn.never rfl (a1M (by rfl) mr (a0a (a0F (pv 0) rfl) a0f)) (a0H (i:=3) b1F.nd rfl (Or.inl rfl))
   (a0h (a2G (a1F (pv 0) rc.c MO.m MO.ok hr MO.b .nil a0D (a0a (pv 3) (a0a (pv 1) (a0a (pv 2) a0f)))) (a3E (a0n a0k (a0n a0k (a0F (pv 0) rfl) (pv 3) (λ_ _=>rfl)) (pv 1) (λ_ _=>rfl)) (pv 2) a1Y))))),?_⟩
 have i1:i < ws.length+1:=by omega
 have j1:j < ws.length+1:=by omega
 obtain ⟨dx,ho⟩:=ca.ob;refine ⟨λv H1=>v=.int (v0 ps.length h t c u i j:Int)/\a0E H H1,?_,λv H1 hv=>?_⟩
 ·refine ⟨_,rfl,_,rfl,_,_,rfl,rfl,rfl,_,rfl,?_⟩;refine a1K (λz=>?_) (λz=>?_)
  ·have z1:j - i=1:=by
    have y:V.int ((j:Int) - (i:Int))=V.int 1:=of_decide_eq_true z;have:=V.int.inj y;omega
   refine ⟨?_,a0E.refl _⟩;unfold v0;rw [if_pos z1];rfl
  ·have z1:¬ j - i=1:=λy=>z (decide_eq_true (by show V.int ((j:Int) - (i:Int))=V.int 1;congr 1;omega));refine ⟨_,rfl,r,dx,_,rfl,ho,rfl,_,rfl,_,rfl,r,pr,p,ps,ws,X,h,t,Y,Tc,Tt,c,u,0,i,j,_,rfl,pa.same s0,ca,w6,p4,p0,hij,hj,ctd.s0 T p0 (by omega) hj w6,λH' s'=>⟨?_,s'⟩⟩;unfold v0;rw [if_neg z1]
 obtain ⟨rfl,s1⟩:=hv;have ca1:=ca.same s1;have s01:=s0.trans s1;obtain ⟨dx1,ho1⟩:=ca1.ob;refine ⟨_,rfl,r,D,dx1,_,_,rfl,ho1,rc.c,rc.nc,rfl,_,rfl,Y.cc,_,_,_,rfl,rfl,SqL.of ca1.co,a0N i1,_,rfl,Y.ca i,_,_,j,rfl,rfl,ca1.cr i i1,(by rw [List.length_map,List.length_range];exact a4a j1),?_⟩;have ca2:CAt D (upd H1 (Y.ca i) (.lst (((List.range (ws.length+1)).map λk=>oV (Tc i k)).set j (.int (v0 ps.length h t c u i j:Int))))) r pr ps.length (ws.length+1) Y (up2 Tc i j (some (v0 ps.length h t c u i j:Int))) Tt:=ca1.putc (v:=some (v0 ps.length h t c u i j:Int)) i1 j1;have s02:a0E H0 (upd H1 (Y.ca i) (.lst (((List.range (ws.length+1)).map λk=>oV (Tc i k)).set j (.int (v0 ps.length h t c u i j:Int))))):=a0w (fz _ (.inl ⟨i,i1,rfl⟩)) s01;generalize upd H1 (Y.ca i) (.lst (((List.range (ws.length+1)).map λk=>oV (Tc i k)).set j (.int (v0 ps.length h t c u i j:Int))))=H2 at ca2 s02 ⊢;obtain ⟨dx2,ho2⟩:=ca2.ob;refine ⟨_,rfl,r,D,dx2,_,_,rfl,ho2,rc.c,rc.nl,rfl,_,rfl,by omega,by omega,?_⟩;rw [Int.toNat_natCast];refine a1r (λl σ H'=>a0E H0 H'/\(∃ Tt',CAt D H' r pr ps.length (ws.length+1) Y (up2 Tc i j (some (v0 ps.length h t c u i j:Int))) Tt'/\(∀ l' a b,¬ (a=i/\b=j)->Tt' l' a b=Tt l' a b)/\∀ l',l' < l->Tt' l' i j=some (CT.ovr ps.length h t (upc c i j (v0 ps.length h t c u i j)) u l' i j:Int))/\∃ x3:Option V,σ=[some (.ref r),some (.int (i:Int)),some (.int (j:Int)),x3])
  ⟨s02,⟨Tt,ca2,λ_ _ _ _=>rfl,λl' hl'=>absurd hl' (Nat.not_lt_zero _)⟩,_,rfl⟩ (λl σ H3 hl hP=>?_) (λσ H3 hP=>?_)
 ·obtain ⟨s03,⟨Tt',ca3,t1,t2⟩,x3,rfl⟩:=hP;rw [show (0:Int)+(l:Int)=(l:Int) from Int.zero_add _];obtain ⟨dx3,ho3⟩:=ca3.ob;have sm:=ctd.sl T p0 p4 hij hj w6 hl;have sm':Sm1 ps.length ws.length (up2 Tc i j (some (v0 ps.length h t c u i j:Int))) Tt' (upc c i j (v0 ps.length h t c u i j)) u i j (wys ps.length h t l i j) (32 * 1024 ^ (2 * (j - i) - 2)):=⟨sm.a,λq hq=>by rw [t1 _ _ _ (by omega)];exact sm.b q hq,sm.c1,sm.u1,sm.d,sm.g⟩
  refine ⟨_,rfl,r,dx3,_,rfl,ho3,rfl,_,rfl,_,rfl,_,rfl,r,pr,p,ps,ws,X,h,t,Y,_,Tt',_,u,l,i,j,_,rfl,pa.same s03,ca3,w6,p4,hl,hij,hj,sm',λH4 s4=>?_⟩;have ca4:=ca3.same s4;have s04:=s03.trans s4;obtain ⟨dx4,ho4⟩:=ca4.ob;have l2:l < ps.length+1:=by omega
  refine ⟨_,rfl,r,D,dx4,_,_,rfl,ho4,rc.c,rc.nt,rfl,_,rfl,Y.tt,_,_,_,rfl,rfl,SqL.of ca4.tl.o,a0N l2,_,rfl,Y.bt l,_,_,_,rfl,rfl,SqL.of (ca4.tl.b l l2),a0N i1,_,rfl,Y.ct l i,_,_,j,rfl,rfl,ca4.tl.c l i l2 i1,(by rw [List.length_map,List.length_range];exact a4a j1),?_⟩;refine ⟨a0w (fz _ (.inr ⟨l,i,l2,i1,rfl⟩)) s04,⟨_,ca4.putt (v:=some (CT.ovr ps.length h t (upc c i j (v0 ps.length h t c u i j)) u l i j:Int)) l2 i1 j1,λl' a b z=>?_,λl' hl'=>?_⟩,_,rfl⟩
  ·rw [a3p λy=>z ⟨y.2.1,y.2.2⟩];exact t1 l' a b z
  ·by_cases z:l'=l
   ·subst z;rw [a6G]
   ·rw [a3p λy=>z y.1];exact t2 l' (by omega)
 ·obtain ⟨s03,⟨Tt',ca3,t1,t2⟩,x3,rfl⟩:=hP;obtain ⟨c',u',k⟩:=ctd.step T p0 p4 hij hj w6 t1 t2;exact q H3 _ Tt' c' u' s03 ca3 k
end
def drp (r:Addr) (H:Hp):Hp:=λa=>if a=r then none else H a
theorem a2f {r a:Addr} {H:Hp} (h:a≠r):drp r H a=H a:=if_neg h
theorem a3x {r:Addr} {H H':Hp} (k:a4U r H H'):a0E (drp r H) H':=λa o e=>by
 by_cases z:a=r
 ·unfold drp at e;rw [if_pos z] at e;cases e
 ·rw [a2f z] at e;exact k a o z e
theorem a3y {r:Addr} {H H':Hp} (s:a0E (drp r H) H'):a4U r H H':=λa o ha e=>s a o (by rw [a2f ha];exact e)
theorem PAt.drp {C D:Addr} {H:Hp} {pr p r dx:Addr} {ps ws:List Int} {X:Ad} {h t:Nat->Nat->Nat->OI} (a:PAt C H pr p ps ws X h t) (hr:H r=some (.ins D dx [])):PAt C (K94C.drp r H) pr p ps ws X h t:=by
 obtain ⟨dy,ho⟩:=a.ob;refine ⟨⟨dy,?_⟩,?_,?_,⟨?_,λl hl=>?_,λl i hl hi=>?_⟩,⟨?_,λl hl=>?_,λl i hl hi=>?_⟩,a.ih,a.it,a.ix,a.ns⟩
 ·rw [a2f (a0I ho hr (by intro z;cases z))];exact ho
 ·show K94C.drp r H p=_;rw [a2f (a0I a.hp hr (by intro z;cases z))];exact a.hp
 ·rw [a2f (a0I a.su hr (by intro z;cases z))];exact a.su
 ·rw [a2f (a0I a.hd.o hr (by intro z;cases z))];exact a.hd.o
 ·rw [a2f (a0I (a.hd.b l hl) hr (by intro z;cases z))];exact a.hd.b l hl
 ·rw [a2f (a0I (a.hd.c l i hl hi) hr (by intro z;cases z))];exact a.hd.c l i hl hi
 ·rw [a2f (a0I a.tl.o hr (by intro z;cases z))];exact a.tl.o
 ·rw [a2f (a0I (a.tl.b l hl) hr (by intro z;cases z))];exact a.tl.b l hl
 ·rw [a2f (a0I (a.tl.c l i hl hi) hr (by intro z;cases z))];exact a.tl.c l i hl hi
section
variable {P':Program} {w:World} {K:PySem.W.Frag} {mg:Str->Option Value} {base:Heap} {f:Addr} {fd:FuncData}
abbrev NCi:List Str:=["self","prices","weights","side","first","end"]
abbrev cf1 (pr:Addr):List (Str × V):=[("parted",.ref pr)]
abbrev cf2 (pr:Addr) (L:Int):List (Str × V):=[("parted",.ref pr),("letters",.int L)]
abbrev cf3 (pr:Addr) (L:Int) (cc:Addr):List (Str × V):=[("parted",.ref pr),("letters",.int L),("codes",.ref cc)]
abbrev tc0:Nat->Nat->OI:=λa b=>if b=a then none else none
abbrev tt0:Nat->Nat->Nat->OI:=λ_ a b=>if b=a then some 1 else none
def a9o (C D:Addr):Sp:=λvs H Q _=>∃ (r dx p q:Addr) (ps ws:List Int),vs=[.ref r,.ref p,.ref q]/\H r=some (.ins D dx [])/\TW H p ps/\TW H q ws/\Num ps ws/\Po ps/\Po ws/\ps.length<=4/\ws.length<=6 /\
 ∀ H' (pr:Addr) X h t Fl Y Tc Tt c u,a4U r H H'->PAt C H' pr p ps ws X h t->CAt D H' r pr ps.length (ws.length+1) Y Tc Tt->CT.Tb ps.length ws.length h t Fl (pl ps) (Wt ws)->Ctd ps.length ws.length h t Tc Tt c u (λ_ _=>True)->Q .non H'
theorem a4V:a0u NCi ["self","prices","weights"] (a0e a2C):=⟨rfl,rfl,rfl,by decide +kernel,rfl,by decide +kernel,by decide +kernel⟩
theorem ndCi:(("letter":Str) :: NCi).Nodup:=by decide +kernel
theorem b0R {C D:Addr} (F:Fun K "__init__" "Counts.__init__" a2C f fd) (GP:Fns P' w K mg base ["prices","weights"] "parted_least" (spPl C) 5) (GQ:Fns P' w K mg base ["side","diagonal"] "square" a3w 5) (MC:Mt P' w K mg base D "put_counts" ["self","first","end"] (a9n C D) 5) (rc:DC K D) (ml:mg "len"=none) (mr:mg "range"=none):a1a P' w K mg base CX0 6 f fd ["self","prices","weights"] (a9o C D):=by
 refine F.ok (k:=5) a4V (λvs H Q E h=>?_) (λcdv A outer s H vs Q E hr h=>?_)
 ·obtain ⟨r,dx,p,q,ps,ws,rfl,_⟩:=h;rfl
 obtain ⟨r,dx,p,q,ps,ws,rfl,hr0,hp,hq,nu,pp,pw,p4,w6,qq⟩:=h;have p2:=nu.p2;have w1:=nu.w1;refine ⟨_,a0c (a1w (pv 0) (a0q GP.ok hr (by rfl) GP.m GP.kp GP.b .nil a0D (a0a (pv 1) (a0a (pv 2) a0f))) rfl)
  (a0c (a1w (pv 0) (a0t a0r (by rfl) ml PySem.boot_len (a0a (pv 1) a0f)) rfl)
  (a0c (a0z (i:=3) a4V.nd rfl (Or.inr rfl) (a0m a0M (a0t a0r (by rfl) ml PySem.boot_len (a0a (pv 2) a0f)) a0d))
  (a0c (a1w (pv 0) (a0q GQ.ok hr (by rfl) GQ.m GQ.kp GQ.b .nil a0D (a0a (pv 3) (a0a a3B a0f))) rfl)
  (a0c (a1w (pv 0) (a1P (M:=NCi) rfl (a0l.of (a0e a2C) NCi rfl rfl rfl (by decide +kernel) (by decide +kernel) (by decide +kernel) rfl (by decide +kernel)) ndCi rfl (by rfl) mr (a0a (a0m a0M (a0F (pv 0) rfl) a0d) a0f) (a1k (b0a a6r (b1C a0R) mo_c) a1U)
   (λcl C s0 H0 fp=>⟨a0L,a0q GQ.ok hr (by rfl) GQ.m GQ.kp GQ.b .nil a0D (a0a (pv 4) (a0a a0d a0f))⟩)) rfl)
  (a0h (a1v PassesOwn.never rfl (a3S (by rfl) mr (a0a (a0m a2x (a0t a0r (by rfl) ml PySem.boot_len (a0a (pv 2) a0f)) a0d) (a0a (a2t a1J a0d) (a0a (a2t a1J a0d) a0f)))) (a0H (i:=4) a4V.nd rfl (Or.inl rfl))
   (a0h (a1v PassesOwn.never rfl (a2h (by rfl) mr (a0a (a0m a0M (pv 4) a0d) (a0a (pv 3) a0f))) (a0H (i:=5) a4V.nd rfl (Or.inl rfl))
    (a0h (a1f (a1F (pv 0) rc.c MC.m MC.ok hr MC.b .nil a0D (a0a (pv 4) (a0a (pv 5) a0f))))))))))))),?_⟩
 have pr':p≠r:=a0I hp hr0 (by intro z;cases z);have qr':q≠r:=a0I hq hr0 (by intro z;cases z);refine ⟨_,rfl,_,rfl,p,q,ps,ws,rfl,hp,hq,nu,λpr X h t Fl H1 s1 pa fl=>?_⟩;have T:=fl.tb p2 pp pw;have g1:=s1 _ _ hr0;have paD:=pa.drp g1;have pr1:pr≠r:=by
  obtain ⟨dy,ho⟩:=pa.ob;exact a0I ho g1 (by intro z;cases z)
 refine ⟨_,rfl,r,D,dx,_,rfl,g1,rc.c,rc.np,(by show 0 < 1000;decide),?_⟩;rw [show a1x "parted" (V.ref pr) []=cf1 pr from rfl];have g2:upd H1 r (.ins D dx (cf1 pr)) r=some (.ins D dx (cf1 pr)):=a0b;have k2:a0E (drp r H1) (upd H1 r (.ins D dx (cf1 pr))):=a3x λa o ha e=>by rw [a0j ha];exact e
 have dn:∀ {a o},H a=some o->a≠r->drp r H1 a=some o:=λe ha=>by rw [a2f ha];exact s1 _ _ e
 have hpD:TW (drp r H1) p ps:=dn hp pr';have hqD:TW (drp r H1) q ws:=dn hq qr';have fr:∀ {H':Hp} {a:Addr} {o:HO},a0E (drp r H1) H'->H' r=some o->H' a=none->drp r H1 a=none:=λs g e=>s.free e;generalize upd H1 r (.ins D dx (cf1 pr))=H2 at g2 k2 ⊢;refine ⟨_,rfl,p,_,rfl,.inr (SqT.of (k2 _ _ hpD)),_,rfl,r,D,dx,_,rfl,g2,rc.c,rc.nl,(by show 1 < 1000;decide),?_⟩;rw [List.length_map,show a1x "letters" (V.int (ps.length:Int)) (cf1 pr)=cf2 pr (ps.length:Int) from rfl];have g3:upd H2 r (.ins D dx (cf2 pr (ps.length:Int))) r=some (.ins D dx (cf2 pr (ps.length:Int))):=a0b;have k3:a0E (drp r H1) (upd H2 r (.ins D dx (cf2 pr (ps.length:Int)))):=a3x λa o ha e=>by rw [a0j ha];exact a3y k2 a o ha e
 generalize upd H2 r (.ins D dx (cf2 pr (ps.length:Int)))=H3 at g3 k3 ⊢;refine ⟨_,rfl,q,_,rfl,.inr (SqT.of (k3 _ _ hqD)),_,_,rfl,rfl,?_⟩;rw [List.length_map];refine ⟨_,rfl,ws.length+1,none,rfl,by omega,λcc cA H4 s4 fcc fcA ij cb hb hc=>?_⟩;have g4:=s4 _ _ g3;refine ⟨_,rfl,r,D,dx,_,rfl,g4,rc.c,rc.nc,(by show 2 < 1000;decide),?_⟩;rw [show a1x "codes" (V.ref cc) (cf2 pr (ps.length:Int))=cf3 pr (ps.length:Int) cc from rfl];have cr:cc≠r:=a0I hb g4 (by intro z;cases z);have ar:∀ i,i < ws.length+1->cA i≠r:=λi hi=>a0I (hc i hi) g4 (by intro z;cases z);have g5:upd H4 r (.ins D dx (cf3 pr (ps.length:Int) cc)) r=some (.ins D dx (cf3 pr (ps.length:Int) cc)):=a0b;have k5:a0E (drp r H1) (upd H4 r (.ins D dx (cf3 pr (ps.length:Int) cc))):=a3x λa o ha e=>by rw [a0j ha];exact s4 _ _ (a3y k3 a o ha e)
 have b5:upd H4 r (.ins D dx (cf3 pr (ps.length:Int) cc)) cc=some (.lst ((List.range (ws.length+1)).map λi=>.ref (cA i))):=by rw [a0j cr];exact hb
 have c5:∀ i,i < ws.length+1->upd H4 r (.ins D dx (cf3 pr (ps.length:Int) cc)) (cA i)=some (.lst (b1B (ws.length+1) i none)):=λi hi=>by rw [a0j (ar i hi)];exact hc i hi
 generalize upd H4 r (.ins D dx (cf3 pr (ps.length:Int) cc))=H5 at g5 k5 b5 c5 ⊢;refine ⟨_,rfl,r,D,dx,_,_,rfl,g5,rc.c,rc.nl,rfl,_,_,rfl,rfl,_,rfl,by omega,by omega,λtt htt=>?_⟩;have en:((ps.length:Int)+1).toNat=ps.length+1:=by omega
 rw [en];refine ⟨λi H'=>∃ ba ca,a9c H5 H' (ws.length+1) (some 1) i ba ca tt,⟨_,_,a9c.start htt⟩,λi H' hi hP=>?_,λH6 hP=>?_⟩
 ·obtain ⟨ba,ca,g⟩:=hP;refine a0G ⟨_,rfl,ws.length+1,some 1,rfl,by omega,λb c' H8 s8 fb fc ij cb hb hc=>⟨_,s8 _ _ g.lo_,?_,_,_,g.step htt s8 fb fc ij hb hc⟩⟩;rw [List.length_map,List.length_range];exact a0p (by omega)
 obtain ⟨bt,ct,gt⟩:=hP;have g6:=gt.same _ _ g5;refine ⟨_,rfl,r,D,dx,_,rfl,g6,rc.c,rc.nt,(by show 3 < 1000;decide),?_⟩;rw [show a1x "tails" (V.ref tt) (cf3 pr (ps.length:Int) cc)=cf pr (ps.length:Int) ⟨cc,cA,tt,bt,ct⟩ from rfl];have rt1:tt≠r:=a0I gt.lo_ g6 (by intro z;cases z);have rt2:∀ l,l < ps.length+1->bt l≠r:=λl hl=>a0I (gt.lb l hl) g6 (by intro z;cases z);have rt3:∀ l k,l < ps.length+1->k < ws.length+1->ct l k≠r:=λl k hl hk=>a0I (gt.lc l k hl hk) g6 (by intro z;cases z);have ca7:CAt D (upd H6 r (.ins D dx (cf pr (ps.length:Int) ⟨cc,cA,tt,bt,ct⟩))) r pr ps.length (ws.length+1) ⟨cc,cA,tt,bt,ct⟩ tc0 tt0:=by
  refine ⟨⟨dx,a0b⟩,?_,λi hi=>?_,⟨?_,λl hl=>?_,λl k hl hk=>?_⟩,ij,λl i l' i' hl hl' hi hi' e=>gt.inj l i l' i' hl hl' hi hi' e,λi l k hi hl hk e=>?_⟩
  ·rw [a0j cr];exact gt.same _ _ b5
  ·rw [a0j (ar i hi)];exact gt.same _ _ (c5 i hi)
  ·rw [a0j rt1];exact gt.lo_
  ·rw [a0j (rt2 l hl)];exact gt.lb l hl
  ·rw [a0j (rt3 l k hl hk)];exact gt.lc l k hl hk
  ·have e1:=gt.fc l k hl hk;have e:cA i=ct l k:=e;rw [<-e,c5 i hi] at e1;cases e1
 have k7:a0E (drp r H1) (upd H6 r (.ins D dx (cf pr (ps.length:Int) ⟨cc,cA,tt,bt,ct⟩))):=a3x λa o ha e=>by rw [a0j ha];exact gt.same _ _ (a3y k5 a o ha e)
 have fz:∀ a,ZC ⟨cc,cA,tt,bt,ct⟩ ps.length (ws.length+1) a->drp r H1 a=none:=λa hz=>by
  rcases hz with ⟨i,hi,e⟩ | ⟨l,i,hl,hi,e⟩
  ·have e:a=cA i:=e;rw [e];exact k3.free (fcA i hi)
  ·have e:a=ct l i:=e;rw [e];exact k5.free (gt.fc l i hl hi)
 generalize upd H6 r (.ins D dx (cf pr (ps.length:Int) ⟨cc,cA,tt,bt,ct⟩))=H7 at ca7 k7 ⊢;generalize (⟨cc,cA,tt,bt,ct⟩:CY)=Y at ca7 fz;refine ⟨_,rfl,q,_,rfl,.inr (SqT.of (k7 _ _ hqD)),_,_,rfl,rfl,_,rfl,_,rfl,_,rfl,⟨by rw [List.length_map];omega,by rw [List.length_map];omega⟩,?_⟩;rw [List.length_map,show ((ws.length:Int) - 1+1).toNat=ws.length by omega];refine a3b (λm σ H'=>a0E (drp r H1) H'/\(∃ Tc Tt c u,CAt D H' r pr ps.length (ws.length+1) Y Tc Tt/\Ctd ps.length ws.length h t Tc Tt c u (λi _=>ws.length - m<=i))/\∃ x4 x5:Option V,σ=[some (.ref r),some (.ref p),some (.ref q),some (.int ((ws.length:Int)+1)),x4,x5])
  ⟨k7,⟨tc0,tt0,λ_ _=>0,λ_ _ _=>1,ca7,⟨λl j _ _=>if_pos rfl,λi j a b c=>absurd c (by show ¬ ws.length<=i;omega),λl i j _ a b c=>absurd c (by show ¬ ws.length<=i;omega),λi j a b c=>absurd c (by show ¬ ws.length<=i;omega),λl i j _ a b c=>absurd c (by show ¬ ws.length<=i;omega),λl j _ _=>rfl,λi j a b c=>absurd c (by show ¬ ws.length<=i;omega),λl i j _ a b c=>absurd c (by show ¬ ws.length<=i;omega)⟩⟩,_,_,rfl⟩ (λm σ H8 hm hP=>?_) (λσ H8 hP=>?_)
 ·obtain ⟨s8,⟨Tc,Tt,c,u,ca8,ct8⟩,x4,x5,rfl⟩:=hP;obtain ⟨f,ef⟩:∃ f,f=ws.length - 1 - m:=⟨_,rfl⟩
  have ev:(ws.length:Int) - 1+(m:Int) * (-1)=(f:Int):=by omega
  rw [ev];have hf:f < ws.length:=by omega
  refine ⟨_,rfl,_,_,rfl,rfl,_,rfl,_,_,rfl,⟨by omega,by omega,by omega,by omega⟩,?_⟩;have en2:(((ws.length:Int)+1) - ((f:Int)+1)).toNat=ws.length - f:=by omega
  rw [en2];refine a1r (λk σ H'=>a0E (drp r H1) H'/\(∃ Tc Tt c u,CAt D H' r pr ps.length (ws.length+1) Y Tc Tt/\Ctd ps.length ws.length h t Tc Tt c u (Dn f (f+1+k)))/\∃ x5:Option V,σ=[some (.ref r),some (.ref p),some (.ref q),some (.int ((ws.length:Int)+1)),some (.int (f:Int)),x5])
   ⟨s8,⟨Tc,Tt,c,u,ca8,ct8.weak λi j hij hj d=>by show ws.length - m<=i;rcases d with z | z <;> omega⟩,_,rfl⟩ (λk σ H9 hk hP=>?_) (λσ H9 hP=>?_)
  ·obtain ⟨s9,⟨Tc9,Tt9,c9,u9,ca9,ct9⟩,x5,rfl⟩:=hP;have ee:(f:Int)+1+(k:Int)=((f+1+k:Nat):Int):=by push_cast;omega
   rw [ee];obtain ⟨dx9,ho9⟩:=ca9.ob;refine ⟨_,rfl,r,dx9,_,rfl,ho9,rfl,_,rfl,_,rfl,drp r H1,r,pr,p,ps,ws,X,h,t,Fl,Y,Tc9,Tt9,c9,u9,f,f+1+k,rfl,s9,paD,fz,ca9,T,w6,p4,by omega,by omega,by omega,ct9,λH' Tc' Tt' c' u' s' ca' k'=>?_⟩;exact ⟨s',⟨Tc',Tt',c',u',ca',k'⟩,_,rfl⟩
  ·obtain ⟨s9,⟨Tc9,Tt9,c9,u9,ca9,ct9⟩,x5,rfl⟩:=hP;exact ⟨s9,⟨Tc9,Tt9,c9,u9,ca9,ct9.weak λi j hij hj d=>by
    have d:ws.length - (m+1)<=i:=d;by_cases z:f < i
    ·exact .inl z
    ·exact .inr ⟨by omega,by omega⟩⟩,_,_,rfl⟩
 ·obtain ⟨s8,⟨Tc,Tt,c,u,ca8,ct8⟩,x4,x5,rfl⟩:=hP;exact qq H8 pr X h t Fl Y Tc Tt c u (λa o ha e=>a3y s8 a o ha (s1 _ _ e)) (paD.same s8) ca8 T (ct8.weak λi j _ _ _=>by show ws.length - ws.length<=i;omega)
structure ClC (P:Program) (w:World) (K:PySem.W.Frag) (mg:Str->Option Value) (base:Heap) (C D:Addr) where
 rc:DC K D
 g:mg "Counts"=some (.ref D)
 fi:Addr
 di:FuncData
 mkk:Mk K D fi
 oki:a1a P w K mg base CX0 6 fi di ["self","prices","weights"] (a9o C D)
 bi:a1X K di ["self","prices","weights"] []
end
end K94C
namespace K94
open PySem L2
open K94C (ClC DC)
def b1G:Int:=2 ^ 100
section
variable {P:Program} {w:World} {K:PySem.W.Frag} {mg:Str->Option Value} {base:Heap} {f:Addr} {fd:FuncData}
def spTo (CB:Addr):Sp:=λvs H Q E=>∃ n:Int,vs=[.int n]/\24 < n/\E (.ref CB) none H
theorem scTo:a0u ["top"] ["top"] (a0e b3t):=⟨rfl,rfl,rfl,by decide +kernel,rfl,by decide +kernel,by decide +kernel⟩
theorem ok_to {CB:Addr} (F:Fun K "refuse_top" "refuse_top" b3t f fd) (mB:mg "BadNumber"=some (.ref CB)) (eB:Ecl K CB):a1a P w K mg base (CXF P w) 1 f fd ["top"] (spTo CB):=by
 refine F.okF (k:=0) scTo (λvs H Q E h=>?_) (λcdv A outer s H vs Q E hr h=>?_)
 ·obtain ⟨n,rfl,_⟩:=h;rfl
 obtain ⟨n,rfl,hn,q⟩:=h;refine ⟨_,a0h (a0J (a1o (a2o a1W a1W a0d (pv 0) a0d)) (a0h (a2a a1c rfl (by rfl) mB eB (a0a a0i a0f))) (a0x)),?_⟩;refine ⟨_,rfl,_,_,rfl,rfl,_,rfl,?_⟩;rw [decide_eq_true (show (0:Int)<=n by omega)];refine a4k ⟨_,_,rfl,rfl,_,rfl,?_⟩;rw [decide_eq_false (show ¬ n<=(24:Int) by omega)];exact a4k ⟨by decide,q⟩
abbrev P3:List Str:=["prices","weights","top"]
def b3B (CB:Addr):Sp:=λvs H Q E=>∃ (p q:Addr) (n:Int),vs=[.ref p,.ref q,.int n]/\24 < n/\E (.ref CB) none H
theorem scLs:a0u ["prices","weights","top","stairs","step"] P3 (a0e a3e):=⟨rfl,rfl,rfl,by decide +kernel,rfl,by decide +kernel,by decide +kernel⟩
theorem b2Y {CB:Addr} (F:Fun K "least_stairs" "least_stairs" a3e f fd) (GR:a7b P w K mg base ["top"] "refuse_top" (spTo CB) 1):a1a P w K mg base (CXF P w) 2 f fd P3 (b3B CB):=by
 refine F.okF (k:=1) scLs (λvs H Q E h=>?_) (λcdv A outer s H vs Q E hr h=>?_)
 ·obtain ⟨p,q,n,rfl,_⟩:=h;rfl
 obtain ⟨p,q,n,rfl,hn,qq⟩:=h;refine ⟨_,a0c (a1f (a0q GR.ok hr (by rfl) GR.m GR.kp GR.b .nil a1c (a0a (pv 2) (a0f))))
   (a0c (a0Z)
   (a0c (a0Z)
   (a0h (a0Z)))),?_⟩
 exact ⟨_,rfl,n,rfl,hn,qq⟩
theorem scCb:a0u ["prices","weights","top","stairs","least_cost","steps"] P3 (a0e a2r):=⟨rfl,rfl,rfl,by decide +kernel,rfl,by decide +kernel,by decide +kernel⟩
theorem ok_cb {CB:Addr} (F:Fun K "cheapest_bounded" "cheapest_bounded" a2r f fd) (GS:a7b P w K mg base P3 "least_stairs" (b3B CB) 2):a1a P w K mg base (CXF P w) 3 f fd P3 (b3B CB):=by
 refine F.okF (k:=2) scCb (λvs H Q E h=>?_) (λcdv A outer s H vs Q E hr h=>?_)
 ·obtain ⟨p,q,n,rfl,_⟩:=h;rfl
 obtain ⟨p,q,n,rfl,hn,qq⟩:=h;refine ⟨_,a0c (a0z (i:=3) scCb.nd rfl (Or.inl rfl) (a0q GS.ok hr (by rfl) GS.m GS.kp GS.b .nil a1c (a0a (pv 0) (a0a (pv 1) (a0a (pv 2) (a0f))))))
   (a0c (a0Z)
   (a0c (a0Z)
   (a0c (a0Z)
   (a0h (a0Z))))),?_⟩
 exact ⟨_,rfl,_,rfl,_,rfl,p,q,n,rfl,hn,qq⟩
abbrev PNb:List Str:=["prices","weights","number"]
def spNb (CB:Addr):Sp:=λvs H Q E=>∃ (p q:Addr) (ps ws:List Int) (n:Int),vs=[.ref p,.ref q,.int n]/\TW H p ps/\TW H q ws/\2<=ps.length/\ps.length<=4/\1<=ws.length/\ws.length<=5/\Bo ps/\Bo ws/\b1G<=n/\∀ H',a0E H H'->E (.ref CB) none H'
theorem scNb:a0u ["prices","weights","number","counts"] PNb (a0e K94C.sNu):=⟨rfl,rfl,rfl,by decide +kernel,rfl,by decide +kernel,by decide +kernel⟩
theorem ok_nb {C D CB:Addr} (F:Fun K "numbered" "numbered" K94C.sNu f fd) (cl:ClC P w K mg base C D) (ml:mg "len"=none) (mB:mg "BadNumber"=some (.ref CB)) (eB:Ecl K CB):a1a P w K mg base (CXF P w) 8 f fd PNb (spNb CB):=by
 refine F.okF (k:=7) scNb (λvs H Q E h=>?_) (λcdv A outer s H vs Q E hr h=>?_)
 ·obtain ⟨p,q,ps,ws,n,rfl,_⟩:=h;rfl
 obtain ⟨p,q,ps,ws,n,rfl,hp,hq,p2,p4,w1,w5,bp,bw,hn,qq⟩:=h;have oki:=cl.oki.mono (show 6<=6 by decide);refine ⟨_,a0c (a0z (i:=3) scNb.nd rfl (Or.inl rfl) (a3J cl.mkk oki hr (by rfl) cl.g cl.bi .nil a0D (a0a (pv 0) (a0a (pv 1) (a0f)))))
   (a0c (a0J (a1o (a2o a1W a5J a0d (pv 2) (a0n a0k (a0n a0k (a0F (pv 3) rfl) (a0d) (λ_ _=>rfl)) (a0t a0r (by rfl) ml PySem.boot_len (a0a (pv 1) (a0f))) (λ_ _=>rfl)))) (a0h (a2a a1c rfl (by rfl) mB eB (a0a a0i a0f))) (a0x))
   (a0h (a0Z))),?_⟩
 refine ⟨_,rfl,_,rfl,λr dx rn hdx _=>?_⟩;have sm:a0E H (upd (upd H dx (.own r)) r (.ins D dx [])):=a0w rn (a0g hdx _);refine ⟨r,dx,p,q,ps,ws,rfl,a0b,sm _ _ hp,sm _ _ hq,⟨p2,by omega,w1,by omega,λx hx=>⟨by have:=(bp x hx).1;omega,(bp x hx).2⟩,λx hx=>⟨by have:=(bw x hx).1;omega,(bw x hx).2⟩⟩,(λx hx=>(bp x hx).1),(λx hx=>(bw x hx).1),p4,by omega,λH1 pr X h t Fl Y Tc Tt c u k1 pa ca T ctd=>⟨rfl,?_⟩⟩;have s1:a0E H H1:=λa o e=>k1 a o (λz=>by rw [z,rn] at e;cases e) (sm a o e);obtain ⟨dx1,ho⟩:=ca.ob;have hv:Tc 0 ws.length=some (c 0 ws.length:Int):=ctd.vc 0 ws.length (by omega) (Nat.le_refl _) trivial;have hb:=ctd.bc 0 ws.length (by omega) (Nat.le_refl _) trivial;have hb2:32 * 1024 ^ (2 * (ws.length - 0) - 2)<=32 * 1024 ^ 8:=Nat.mul_le_mul_left _ (Nat.pow_le_pow_right (by decide) (by omega));have hb3:32 * 1024 ^ 8<=2 ^ 100:=by decide
 have n0:(0:Int)<=n:=Int.le_trans (by unfold b1G;decide) hn;have nl:¬ n < (c 0 ws.length:Int):=λz=>by
  have:((c 0 ws.length:Nat):Int)<=((2 ^ 100:Nat):Int):=Int.ofNat_le.mpr (by omega);have e:((2 ^ 100:Nat):Int)=b1G:=by unfold b1G;decide
  omega
 refine ⟨_,rfl,_,_,rfl,rfl,_,rfl,?_⟩;rw [decide_eq_true n0];refine a4k ⟨_,rfl,r,D,dx1,_,_,rfl,ho,cl.rc.c,cl.rc.nc,rfl,Y.cc,_,_,_,rfl,rfl,SqL.of ca.co,K94C.a0N (k:=0) (by omega),_,rfl,q,_,rfl,.inr (SqT.of (s1 _ _ hq)),?_⟩;rw [List.length_map];refine ⟨Y.ca 0,_,_,_,rfl,rfl,SqL.of (ca.cr 0 (by omega)),K94C.a0N (k:=ws.length) (by omega),?_⟩;rw [hv];refine ⟨_,_,rfl,rfl,_,rfl,?_⟩;rw [decide_eq_false nl];exact a4k ⟨by decide,qq H1 s1⟩
def spNo:Sp:=λ_ _ _ _=>False
theorem fn_no {CX:CXT} {k:Nat} {f:Addr} {fd:FuncData} {ps:List Str}:a1a P w K mg base CX k f fd ps spNo:=⟨λ_ _ _ _ h=>h.elim,λ_ _ _ _ _ _ _ _ _ _ _ _ _ h=>h.elim⟩
structure Mx (P:Program) (w:World) (K:PySem.W.Frag) (mg:Str->Option Value) (base:Heap) (CX:CXT) (C:Addr) (name:Str) (ps:List Str) (sp:Sp) (k:Nat) where
 f:Addr
 fd:FuncData
 m:b2c K C name f
 ok:a1a P w K mg base CX k f fd ps sp
 b:a1X K fd ps []
def b0S:Str:=Str.ofString "code"
def a5F:Str:=Str.ofString "bounded"
def bigQ (W:List Str):Prop:=∃ (b:Str) (n:Int),PySem.intText? b=some n/\b.length<=40/\((W=[b0S,b]/\b1G<=n)\/(W=[a5F,b]/\24 < n))
structure Bk5 (sg:List Str) (ps:List Int) (nm:List Str) (ws:List Int):Prop where
 b:Bk sg ps nm ws
 l4:ps.length<=4
 n5:ws.length<=5
abbrev NAk:List Str:=["self","words","kind"]
def spAk (C CB:Addr):Sp:=λvs H Q E=>∃ (r l a:Addr) (sg nm:List Str) (q:Pw) (hs:List Pw) (W:List Str),vs=[.ref r,.ref a]/\a2R C H r l sg nm q hs/\Bk5 sg q.1 nm q.2/\H a=some (.lst (W.map V.str))/\bigQ W/\∀ H',a0E H H'->E (.ref CB) none H'
theorem scAk:a0u NAk ["self","words"] (a0e mAK):=⟨rfl,rfl,rfl,by decide +kernel,rfl,by decide +kernel,by decide +kernel⟩
theorem ok_ak {C CB:Addr} (F:Fun K "answer_known" "Desk.answer_known" mAK f fd) (dc:K94.DC K C) (DD:Mx P w K mg base (CXF P w) C "code_text" ["self","code"] spNo 8) (GN:a7b P w K mg base PNb "numbered" (spNb CB) 8) (GB:a7b P w K mg base P3 "cheapest_bounded" (b3B CB) 8) (GT:a7b P w K mg base ["number"] "text_or_none" spNo 8) (mI:mg "int"=none):a1a P w K mg base (CXF P w) 9 f fd ["self","words"] (spAk C CB):=by
 refine F.okF (k:=8) scAk (λvs H Q E h=>?_) (λcdv A outer s H vs Q E hr h=>?_)
 ·obtain ⟨r,l,a,sg,nm,q,hs,W,rfl,_⟩:=h;rfl
 obtain ⟨r,l,a,sg,nm,q,hs,W,rfl,⟨dx,b1,b2,b3,b4,xs,h0,h1,h2,h3,h4,h5,h6⟩,B,ha,⟨b,n,hi,hb,hw⟩,qq⟩:=h;refine ⟨_,a0c (a0z (i:=2) scAk.nd rfl (Or.inl rfl) (a0n a0k (pv 1) (a0d) (λ_ _=>rfl)))
   (a0c (a0J (a0y a1g (pv 2) (a0i) (nomark _)) (a0h (a0Z)) (a0x))
   (a0c (a0J (a0y a1g (pv 2) (a0i) (nomark _)) (a0h (a0Z)) (a0x))
   (a0c (a0J (a0y a1g (pv 2) (a0i) (nomark _)) (a0h (a0Z)) (a0x))
   (a0c (a0J (a0y a1g (pv 2) (a0i) (nomark _)) (a0h (a0v (a1F (pv 0) dc.c DD.m DD.ok hr DD.b .nil a1c (a0a (a0q GN.ok hr (by rfl) GN.m GN.kp GN.b .nil a1c (a0a (a0F (pv 0) rfl) (a0a (a0F (pv 0) rfl) (a0a (a0K a1R (by rfl) mI a9Y (a0a (a0n a0k (pv 1) (a0d) (λ_ _=>rfl)) (a0f))) (a0f))))) (a0f))))) (a0x))
   (a0c (a0J (a0y a1g (pv 2) (a0i) (nomark _)) (a0h (a0v (a0q GT.ok hr (by rfl) GT.m GT.kp GT.b .nil a1c (a0a (a0n a0C (a0q GB.ok hr (by rfl) GB.m GB.kp GB.b .nil a1c (a0a (a0F (pv 0) rfl) (a0a (a0F (pv 0) rfl) (a0a (a0K a1R (by rfl) mI a9Y (a0a (a0n a0k (pv 1) (a0d) (λ_ _=>rfl)) (a0f))) (a0f))))) (a0d) (λ_ _=>rfl)) (a0f))))) (a0x))
   (a0c (a0Z)
   (a0h (a0Z)))))))),?_⟩
 have n1:∀ {x y:Str},x≠y->decide (V.str x=V.str y)=false:=λh=>decide_eq_false λe=>h (V.str.inj e);rcases hw with ⟨rfl,hn⟩ | ⟨rfl,hn⟩
 ·refine ⟨_,rfl,a,_,_,_,rfl,rfl,SqL.of ha,a1t (j:=0) rfl,?_⟩;refine ⟨_,rfl,rfl,_,rfl,?_⟩;rw [n1 (by decide +kernel)];refine a2v ⟨_,rfl,rfl,_,rfl,?_⟩;rw [n1 (by decide +kernel)];refine a2v ⟨_,rfl,rfl,_,rfl,?_⟩;rw [n1 (by decide +kernel)];refine a2v ⟨_,rfl,rfl,_,rfl,a4k ?_⟩;refine ⟨_,rfl,r,dx,_,rfl,h0,rfl,_,rfl,r,C,dx,_,_,rfl,h0,dc.c,dc.n2,rfl,_,rfl,r,C,dx,_,_,rfl,h0,dc.c,dc.n4,rfl,_,rfl,a,_,_,_,rfl,rfl,SqL.of ha,a1t (j:=1) rfl,b,n,rfl,hi,by omega,b2,b4,q.1,q.2,n,rfl,h2,h4,B.b.l2,B.l4,B.b.n1,B.n5,B.b.bp,B.b.bw,hn,qq⟩
 ·refine ⟨_,rfl,a,_,_,_,rfl,rfl,SqL.of ha,a1t (j:=0) rfl,?_⟩;refine ⟨_,rfl,rfl,_,rfl,?_⟩;rw [n1 (by decide +kernel)];refine a2v ⟨_,rfl,rfl,_,rfl,?_⟩;rw [n1 (by decide +kernel)];refine a2v ⟨_,rfl,rfl,_,rfl,?_⟩;rw [n1 (by decide +kernel)];refine a2v ⟨_,rfl,rfl,_,rfl,?_⟩;rw [n1 (by decide +kernel)];refine a2v ⟨_,rfl,rfl,_,rfl,a4k ?_⟩;exact ⟨_,rfl,r,C,dx,_,_,rfl,h0,dc.c,dc.n2,rfl,_,rfl,r,C,dx,_,_,rfl,h0,dc.c,dc.n4,rfl,_,rfl,a,_,_,_,rfl,rfl,SqL.of ha,a1t (j:=1) rfl,b,n,rfl,hi,by omega,b2,b4,n,rfl,hn,qq H (a0E.refl _)⟩
def rRow:Str:=Str.ofString "refused BadRow"
def rName:Str:=Str.ofString "refused BadName"
def rNum:Str:=Str.ofString "refused BadNumber"
def ansS (sg nm W:List Str):Str:=if isQ W=false then rRow else if kn sg nm W=false then rName else rNum
abbrev NAn:List Str:=["self","question","words"]
def spAn (C:Addr):Sp:=λvs H Q _=>∃ (r l:Addr) (sg nm:List Str) (q:Pw) (hs:List Pw) (z:Str),vs=[.ref r,.str z]/\a2R C H r l sg nm q hs/\Bk5 sg q.1 nm q.2/\z.length<=900/\Wo (Txt.split z sp)/\(isQ (Txt.split z sp)=true->kn sg nm (Txt.split z sp)=true->bigQ (Txt.split z sp))/\∀ H',a0E H H'->Q (.str (ansS sg nm (Txt.split z sp))) H'
theorem scAn:a0u NAn ["self","question"] (a0e b3y):=⟨rfl,rfl,rfl,by decide +kernel,rfl,by decide +kernel,by decide +kernel⟩
theorem ok_an {C CB:Addr} (F:Fun K "answer" "Desk.answer" b3y f fd) (dc:K94.DC K C) (GQ:Fns P w K mg base NIq "is_question" spIq 9) (MK:Mx P w K mg base CX0 C "knows" NKw (spKw C) 9) (MA:Mx P w K mg base (CXF P w) C "answer_known" ["self","words"] (spAk C CB) 9) (mB:mg "BadNumber"=some (.ref CB)) (eB:XC K CB):a1a P w K mg base CX0 10 f fd ["self","question"] (spAn C):=by
 refine F.ok (k:=9) scAn (λvs H Q E h=>?_) (λcdv A outer s H vs Q E hr h=>?_)
 ·obtain ⟨r,l,sg,nm,q,hs,z,rfl,_⟩:=h;rfl
 obtain ⟨r,l,sg,nm,q,hs,z,rfl,dk,B,l9,wo,hbig,qq⟩:=h;refine ⟨_,a0c (a0z (i:=2) scAn.nd rfl (Or.inl rfl) (a8I PySem.F.slot_str_split PySem.F.type_str_split a4J (pv 1) (a0a (a0i) (a0f))))
   (a0c (a0J (a1o (a1I (a0q GQ.ok hr (by rfl) GQ.m GQ.kp GQ.b .nil a0D (a0a (pv 2) (a0f))))) (a0h (a0v (a0i))) (a0x))
   (a0c (a0J (a1o (a1I (a1F (pv 0) dc.c MK.m MK.ok hr MK.b .nil a0D (a0a (pv 2) (a0f))))) (a0h (a0v (a0i))) (a0x))
   (a0h (b2Q ⟨rfl,rfl⟩ (λpn xe Ex hx=>a0h (a0v (a4M (pv 0) dc.c MA.m MA.ok hr MA.b hx (a0a (pv 2) (a0f))))) (λea=>a0h (a0v a0i)) (by rfl) mB eB.h)))),?_⟩
 refine ⟨_,rfl,⟨z,rfl⟩,z,_,rfl,rfl,by decide +kernel,a3t (by omega),λp hp=>?_⟩;have s1:=a0g hp (.lst ((Txt.split z sp).map V.str));have g1:upd H p (.lst ((Txt.split z sp).map V.str)) p=some (.lst ((Txt.split z sp).map V.str)):=a0b;rw [show Str.ofString " "=sp from rfl];generalize upd H p (.lst ((Txt.split z sp).map V.str))=H1 at s1 g1 ⊢;refine ⟨_,rfl,p,_,rfl,g1,wo,λH2 s2=>⟨_,rfl,?_⟩⟩;unfold ansS at qq;cases c1:isQ (Txt.split z sp) with
 | false =>
  rw [if_pos c1] at qq;exact a4k (qq H2 (s1.trans s2))
 | true =>
 rw [if_neg (by rw [c1];decide)] at qq;refine a2v ?_;have s12:=s1.trans s2;have dk2:=dk.same s12;obtain ⟨dx,b1,b2,b3,b4,xs,h0,_⟩:=id dk2;refine ⟨_,rfl,r,dx,_,rfl,h0,rfl,_,rfl,r,l,p,sg,nm,q,hs,_,rfl,dk2,s2 _ _ g1,wo,c1,λH3 s3=>⟨_,rfl,?_⟩⟩;cases c2:kn sg nm (Txt.split z sp) with
 | false =>
  rw [if_pos c2] at qq;exact a4k (qq H3 (s12.trans s3))
 | true =>
 rw [if_neg (by rw [c2];decide)] at qq;refine a2v ?_;refine ⟨_,rfl,r,dx,_,rfl,s3 _ _ h0,rfl,_,rfl,r,l,p,sg,nm,q,hs,_,rfl,dk2.same s3,B,s3 _ _ (s2 _ _ g1),hbig c1 c2,λH4 s4=>⟨CB,rfl,eB.sf,λea hea=>?_⟩⟩;exact qq _ (((s12.trans s3).trans s4).trans (a0g hea _))
end
theorem sg_ok (c:Int) (n:Nat):∀ z∈sgL c n,Nm 1 z:=λz hz=>by
 obtain ⟨k,_,rfl⟩:=List.mem_map.mp hz;refine ⟨?_,?_,?_⟩ <;> rw [a7h]
 ·simp
 ·simp
 ·intro x hx;rw [List.mem_singleton.mp hx];omega
theorem sg_nd (c:Int) {n:Nat} (h:n<=6):(sgL c n).Nodup:=by
 unfold sgL List.Nodup;rw [List.pairwise_map];refine List.Pairwise.imp_of_mem ?_ (List.nodup_range (n:=n));intro i j hi hj ne e;have:=(List.cons.inj (S_inj e)).1;have:=List.mem_range.mp hi;have:=List.mem_range.mp hj;omega
theorem a3i {H H':Hp} {a:Addr} {sg nm:List Str} {ps ws:List Int} (s:a0E H H') (h:a9F H a sg ps nm ws):a9F H' a sg ps nm ws:=by
 obtain ⟨b1,b2,b3,b4,h0,h1,h2,h3,h4⟩:=h;exact ⟨b1,b2,b3,b4,s _ _ h0,s _ _ h1,s _ _ h2,s _ _ h3,s _ _ h4⟩
section
variable {P:Program} {w:World} {K:PySem.W.Frag} {mg:Str->Option Value} {base:Heap} {f:Addr} {fd:FuncData}
abbrev NBo:List Str:=["script","most","first","letters","many","signs","names","prices","weights"]
def spBo (K:PySem.W.Frag):Sp:=λvs H Q _=>∃ (a:Addr) (ns:List Int),vs=[.ref a,.int 5]/\SqL K H a (ns.map V.int)/\∀ (p:Addr) sg nm (q:Pw) H',a0E H H'->a9F H' p sg q.1 nm q.2->Bk5 sg q.1 nm q.2->Q (.ref p) H'
theorem b1H:a0u NBo ["script","most"] (a0e a5z):=⟨rfl,rfl,rfl,by decide +kernel,rfl,by decide +kernel,by decide +kernel⟩
theorem ndBo:(("k":Str) :: NBo).Nodup:=by decide +kernel
theorem ok_bo (F:Fun K "_law_book" "_law_book" a5z f fd) (GC:Fns P w K mg base ["script","k"] "_law_cell_at" (a6A K) 1) (GA:Fns P w K mg base ["cell"] "_law_amount" a3v 1) (GS:Fns P w K mg base PSg "_law_signs" spSg 1) (GN:Fns P w K mg base PNm "_law_names" spNm 1) (mr:mg "range"=none) (mt:mg "tuple"=none):a1a P w K mg base CX0 2 f fd ["script","most"] (spBo K):=by
 refine F.ok (k:=1) b1H (λvs H Q E h=>?_) (λcdv A outer s H vs Q E hr h=>?_)
 ·obtain ⟨a,ns,rfl,_⟩:=h;rfl
 obtain ⟨a,ns,rfl,hS,q⟩:=h;refine ⟨_,a0c (a0z (i:=2) b1H.nd rfl (Or.inl rfl) (a0q GC.ok hr (by rfl) GC.m GC.kp GC.b .nil a0D (a0a (pv 0) (a0a (a0d) (a0f)))))
   (a0c (a0z (i:=3) b1H.nd rfl (Or.inl rfl) (a0m a0M (a0d) (a0m a0O (pv 2) (a0d))))
   (a0c (a0z (i:=4) b1H.nd rfl (Or.inl rfl) (a0m a0M (a0d) (a0m a0O (a0m a1b (pv 2) (a0d)) (pv 1))))
   (a0c (a0z (i:=5) b1H.nd rfl (Or.inl rfl) (a0K a0X (by rfl) mt a2k (a0a (a0q GS.ok hr (by rfl) GS.m GS.kp GS.b .nil a0D (a0a (a0q GC.ok hr (by rfl) GC.m GC.kp GC.b .nil a0D (a0a (pv 0) (a0a (a0d) (a0f)))) (a0a (pv 3) (a0f)))) (a0f))))
   (a0c (a0z (i:=6) b1H.nd rfl (Or.inl rfl) (a0K a0X (by rfl) mt a2k (a0a (a0q GN.ok hr (by rfl) GN.m GN.kp GN.b .nil a0D (a0a (a0q GC.ok hr (by rfl) GC.m GC.kp GC.b .nil a0D (a0a (pv 0) (a0a (a0d) (a0f)))) (a0a (pv 4) (a0f)))) (a0f))))
   (a0c (a0z (i:=7) b1H.nd rfl (Or.inl rfl) (a0K a0X (by rfl) mt a2k (a0a (a1P (M:=NBo) rfl (a0l.of (a0e a5z) NBo rfl rfl rfl (by decide +kernel) (by decide +kernel) (by decide +kernel) rfl (by decide +kernel)) ndBo rfl (by rfl) mr (a0a (pv 3) a0f) (a1k a0R a1U) (λcl C s0 H0 fp=>⟨a0L,a0q GA.ok hr (by rfl) GA.m GA.kp GA.b .nil a0D (a0a (a0q GC.ok hr (by rfl) GC.m GC.kp GC.b .nil a0D (a0a (pv 1) (a0a (a0m a0M (a0d) (pv 0)) (a0f)))) (a0f))⟩)) (a0f))))
   (a0c (a0z (i:=8) b1H.nd rfl (Or.inl rfl) (a0K a0X (by rfl) mt a2k (a0a (a1P (M:=NBo) rfl (a0l.of (a0e a5z) NBo rfl rfl rfl (by decide +kernel) (by decide +kernel) (by decide +kernel) rfl (by decide +kernel)) ndBo rfl (by rfl) mr (a0a (pv 4) a0f) (a1k a0R a1U) (λcl C s0 H0 fp=>⟨a0L,a0q GA.ok hr (by rfl) GA.m GA.kp GA.b .nil a0D (a0a (a0q GC.ok hr (by rfl) GC.m GC.kp GC.b .nil a0D (a0a (pv 1) (a0a (a0m a0M (a0d) (pv 0)) (a0f)))) (a0f))⟩)) (a0f))))
   (a0h (a0v (a1h (a0a (pv 5) (a0a (pv 7) (a0a (pv 6) (a0a (pv 8) (a0f)))))))))))))),?_⟩
 refine ⟨_,rfl,a,ns,0,rfl,hS,by decide,λfirst=>?_⟩;refine ⟨_,rfl,_,_,rfl,rfl,(by show (0:Int) < _;decide),_,_,rfl,rfl,?_⟩;refine ⟨_,rfl,_,_,rfl,rfl,⟨by decide,by decide⟩,_,rfl,_,_,rfl,rfl,(by show (0:Int) < _;decide),_,_,rfl,rfl,?_⟩;dsimp only;obtain ⟨L,eL,L2,L4⟩:∃ L:Nat,2+first % 3=(L:Int)/\2<=L/\L<=4:=⟨(2+first % 3).toNat,by omega,by omega,by omega⟩
 obtain ⟨M,eM,M1,M5⟩:∃ M:Nat,1+first / 3 % 5=(M:Int)/\1<=M/\M<=5:=⟨(1+first / 3 % 5).toNat,by omega,by omega,by omega⟩
 rw [eL,eM];refine ⟨_,rfl,a,ns,1,rfl,hS,by decide,λc1=>?_⟩;refine ⟨_,rfl,c1,L,rfl,by omega,λd1 H1 s1 _ g1=>?_⟩;refine ⟨d1,_,rfl,.inl ⟨SqL.of g1,λpS hpS=>?_⟩⟩;have s2:=s1.trans (a0g hpS (.tup ((sgL c1 L).map V.str)));have gS:upd H1 pS (.tup ((sgL c1 L).map V.str)) pS=some (.tup ((sgL c1 L).map V.str)):=a0b;have lS:(sgL c1 L).length=L:=by unfold sgL;rw [List.length_map,List.length_range]
 have oS:=sg_ok c1 L;have dS:=sg_nd c1 (n:=L) (by omega);generalize upd H1 pS (.tup ((sgL c1 L).map V.str))=H2 at s2 gS ⊢;generalize sgL c1 L=sg at gS lS oS dS;refine ⟨_,rfl,a,ns,2,rfl,s2.seq hS,by decide,λc2=>?_⟩;refine ⟨_,rfl,c2,M,rfl,M1,by omega,λd2 nm H3 s3 _ g3 lN dN oN=>?_⟩;refine ⟨d2,_,rfl,.inl ⟨SqL.of g3,λpN hpN=>?_⟩⟩;have s4:=s3.trans (a0g hpN (.tup (nm.map V.str)));have gN:upd H3 pN (.tup (nm.map V.str)) pN=some (.tup (nm.map V.str)):=a0b;generalize upd H3 pN (.tup (nm.map V.str))=H4 at s4 gN ⊢;have s04:=s2.trans s4;have gS4:=s4 _ _ gS;refine ⟨_,rfl,L,rfl,by omega,by omega,λd3 hd3=>?_⟩;rw [Int.toNat_natCast];refine ⟨λi H'=>a0E H4 H'/\∃ ps:List Int,ps.length=i/\Bo ps/\H' d3=some (.lst (ps.map V.int)),⟨a0g hd3 _,[],rfl,(λx hx=>by cases hx),a0b⟩,λi H' hi hP=>?_,λH5 hP=>?_⟩
 ·obtain ⟨sm,ps,ln,bo,hz⟩:=hP;refine a0G ⟨_,rfl,_,rfl,_,_,rfl,rfl,a,ns,_,rfl,(s04.trans sm).seq hS,by omega,λc=>?_⟩;refine ⟨c,rfl,λv v1 v30=>⟨_,hz,by rw [List.length_map];exact a0p (by omega),a0w hd3 sm,ps++[v],by rw [List.length_append,ln];rfl,λx hx=>?_,by rw [a0b,List.map_append];rfl⟩⟩;rcases List.mem_append.mp hx with h | h
  ·exact bo x h
  ·rw [List.mem_singleton.mp h];exact ⟨v1,v30⟩
 obtain ⟨s5,ps,lps,bps,gd3⟩:=hP;refine ⟨d3,_,rfl,.inl ⟨SqL.of gd3,λpP hpP=>?_⟩⟩;have s6:=s5.trans (a0g hpP (.tup (ps.map V.int)));have gP:upd H5 pP (.tup (ps.map V.int)) pP=some (.tup (ps.map V.int)):=a0b;generalize upd H5 pP (.tup (ps.map V.int))=H6 at s6 gP ⊢;have s06:=s04.trans s6;refine ⟨_,rfl,M,rfl,by omega,by omega,λd4 hd4=>?_⟩;rw [Int.toNat_natCast];refine ⟨λi H'=>a0E H6 H'/\∃ ws:List Int,ws.length=i/\Bo ws/\H' d4=some (.lst (ws.map V.int)),⟨a0g hd4 _,[],rfl,(λx hx=>by cases hx),a0b⟩,λi H' hi hP=>?_,λH7 hP=>?_⟩
 ·obtain ⟨sm,ws,ln,bo,hz⟩:=hP;refine a0G ⟨_,rfl,_,rfl,_,_,rfl,rfl,a,ns,_,rfl,(s06.trans sm).seq hS,by omega,λc=>?_⟩;refine ⟨c,rfl,λv v1 v30=>⟨_,hz,by rw [List.length_map];exact a0p (by omega),a0w hd4 sm,ws++[v],by rw [List.length_append,ln];rfl,λx hx=>?_,by rw [a0b,List.map_append];rfl⟩⟩;rcases List.mem_append.mp hx with h | h
  ·exact bo x h
  ·rw [List.mem_singleton.mp h];exact ⟨v1,v30⟩
 obtain ⟨s7,ws,lws,bws,gd4⟩:=hP;refine ⟨d4,_,rfl,.inl ⟨SqL.of gd4,λpW hpW=>?_⟩⟩;have s8:=s7.trans (a0g hpW (.tup (ws.map V.int)));have gW:upd H7 pW (.tup (ws.map V.int)) pW=some (.tup (ws.map V.int)):=a0b;generalize upd H7 pW (.tup (ws.map V.int))=H8 at s8 gW ⊢;refine ⟨_,rfl,_,rfl,_,rfl,_,rfl,(by show 4<=sizeLine;decide),λp hp=>?_⟩;have s9:=a0g hp (.tup [.ref pS,.ref pP,.ref pN,.ref pW]);have s69:=s8.trans s9;have BB:Bk5 sg ps nm ws:=⟨⟨by omega,by omega,by omega,by omega,by omega,by omega,oS,oN,dS,dN,bps,bws⟩,by omega,by omega⟩
 exact q p sg nm (ps,ws) _ (s06.trans s69) ⟨pS,pP,pN,pW,a0b,s69 _ _ (s6 _ _ gS4),s69 _ _ gP,s69 _ _ (s6 _ _ gN),s9 _ _ gW⟩ BB
def b3j:Sp:=λvs H Q _=>∃ c:Int,vs=[.int c]/\∀ (v:Int) H',a0E H H'->Q (.int v) H'
theorem scNb2:a0u ["cell"] ["cell"] (a0e a7j):=⟨rfl,rfl,rfl,by decide +kernel,rfl,by decide +kernel,by decide +kernel⟩
theorem ok_nb2 (F:Fun K "_law_number" "_law_number" a7j f fd) (GA:Fns P w K mg base ["cell"] "_law_amount" a3v 1):a1a P w K mg base CX0 2 f fd ["cell"] b3j:=by
 refine F.ok (k:=1) scNb2 (λvs H Q E h=>?_) (λcdv A outer s H vs Q E hr h=>?_)
 ·obtain ⟨c,rfl,_⟩:=h;rfl
 obtain ⟨c,rfl,q⟩:=h;refine ⟨_,a0c (a0J (a0y a5K (a0m a0O (pv 0) (a0d)) (a0d) (nomark _)) (a0h (a0v (a0q GA.ok hr (by rfl) GA.m GA.kp GA.b .nil a0D (a0a (a0m a1b (pv 0) (a0d)) (a0f))))) (a0x))
   (a0h (a0v (a0n a0k (a0W (a0a (a0d) (a0a (a0m a2x (a2t a1J a0d) (a0m a0O (a0m a1b (pv 0) (a0d)) (a0m a3j (a0d) (a0d)))) (a0a (a0m a0M (a0m a0M (a0m a3j (a0d) (a0d)) (a0d)) (a0m a0O (a0m a1b (pv 0) (a0d)) (a0m a3j (a0d) (a0d)))) (a0f))))) (a0m a0O (a0m a1b (pv 0) (a0d)) (a0d)) (λ_ _=>rfl)))),?_⟩
 refine ⟨_,rfl,_,_,rfl,rfl,(by show (0:Int) < _;decide),_,_,rfl,rfl,_,rfl,a1K (λz=>?_) (λz=>?_)⟩
 ·exact ⟨_,rfl,_,_,rfl,rfl,⟨by decide,by decide⟩,_,rfl,λv _ _=>q v H (a0E.refl _)⟩
 refine ⟨_,rfl,_,rfl,_,_,rfl,rfl,⟨by decide,by decide⟩,_,_,rfl,rfl,⟨by decide,by decide,by decide⟩,_,_,rfl,rfl,(by show (0:Int) < _;decide),_,_,rfl,rfl,_,_,rfl,rfl,⟨by decide,by decide,by decide⟩,_,_,rfl,rfl,_,rfl,_,_,rfl,rfl,⟨by decide,by decide⟩,_,_,rfl,rfl,⟨by decide,by decide,by decide⟩,_,_,rfl,rfl,(by show (0:Int) < _;decide),_,_,rfl,rfl,(by show 3<=sizeLine;decide),λd hd=>?_⟩;refine ⟨_,rfl,_,_,rfl,rfl,⟨by decide,by decide⟩,_,_,rfl,rfl,(by show (0:Int) < _;decide),?_⟩;have s1:=λo=>a0g hd o;have k3:c / 3 % 3=0\/c / 3 % 3=1\/c / 3 % 3=2:=by omega
 rcases k3 with e | e | e
 ·exact ⟨d,_,_,_,rfl,congrArg V.int e,SqL.of a0b,rfl,q _ _ (s1 _)⟩
 ·exact ⟨d,_,_,_,rfl,congrArg V.int e,SqL.of a0b,rfl,q _ _ (s1 _)⟩
 ·exact ⟨d,_,_,_,rfl,congrArg V.int e,SqL.of a0b,rfl,q _ _ (s1 _)⟩
def a2P:Str:=Str.ofString "back"
def a1D:Str:=Str.ofString "price"
def a1H:Str:=Str.ofString "weight"
abbrev NDe:List Str:=["book","cell","rest","name"]
def spDe:Sp:=λvs H Q _=>∃ (p:Addr) (c:Int) (sg nm:List Str) (q:Pw),vs=[.ref p,.int c]/\a9F H p sg q.1 nm q.2/\Bk5 sg q.1 nm q.2/\∀ (d:Addr) (k z:Str) (n:Int) H',a0E H H'->H' d=some (.tup [.str k,.str z,.int n])->k=a2P\/k=a1D\/k=a1H->Q (.ref d) H'
theorem scDe:a0u NDe ["book","cell"] (a0e a7k):=⟨rfl,rfl,rfl,by decide +kernel,rfl,by decide +kernel,by decide +kernel⟩
theorem a9p {zs:List Str} {i:Int} (h0:0<=i) (h1:i < (zs.length:Int)):∃ z,atI (zs.map V.str) i=some (.str z):=by
 obtain ⟨j,rfl⟩:∃ j:Nat,i=j:=⟨i.toNat,by omega⟩
 exact ⟨_,a1t (List.getElem?_eq_getElem (by omega))⟩
theorem a9q {ns:List Int} {j:Nat} (h:j < ns.length):∃ n,atI (ns.map V.int) (j:Int)=some (.int n):=⟨_,a1G (by rw [List.getElem?_map,List.getElem?_eq_getElem h];rfl)⟩
theorem str4 {zs:List Str} {a b c d:Str}:zs.map V.str++[V.str a,.str b,.str c,.str d]=(zs++[a,b,c,d]).map V.str:=by rw [List.map_append];rfl
theorem ok_de (F:Fun K "_law_deed" "_law_deed" a7k f fd) (GU:Fns P w K mg base ["cell"] "_law_number" b3j 2) (ml:mg "len"=none) (mL:mg "list"=none):a1a P w K mg base CX0 3 f fd ["book","cell"] spDe:=by
 refine F.ok (k:=2) scDe (λvs H Q E h=>?_) (λcdv A outer s H vs Q E hr h=>?_)
 ·obtain ⟨p,c,sg,nm,q,rfl,_⟩:=h;rfl
 obtain ⟨p,c,sg,nm,q,rfl,bk,B,qq⟩:=h;obtain ⟨b1,b2,b3,b4,h0,h1,h2,h3,h4⟩:=bk;refine ⟨_,a0c (a0z (i:=2) scDe.nd rfl (Or.inl rfl) (a0m a1b (pv 1) (a0d)))
   (a0c (a0J (a0y a5K (a0m a0O (pv 1) (a0d)) (a0d) (nomark _)) (a0h (a0v (a1h (a0a (a0i) (a0a (a0i) (a0a (a0d) (a0f))))))) (a0x))
   (a0c (a0J (a0y a5J (a0m a0O (pv 1) (a0d)) (a0d) (nomark _)) (a0c (a0z (i:=3) scDe.nd rfl (Or.inl rfl) (a3m (a0n a0k (a0m a2K (a0K a2i (by rfl) mL a8d (a0a (a0n a0C (pv 0) (a0d) (λ_ _=>rfl)) (a0f))) (a0W (a0a (a0i) (a0a (a0i) (a0a (a0i) (a0a (a0i) (a0f))))))) (a0m a0O (pv 2) (a0m a0M (a0t a0r (by rfl) ml PySem.boot_len (a0a (a0n a0C (pv 0) (a0d) (λ_ _=>rfl)) (a0f))) (a0n a0k (a0W (a0a (a0d) (a0a (a0d) (a0f)))) (a0m a0O (a0m a1b (pv 2) (a0d)) (a0d)) (λ_ _=>rfl)))) (λ_ _=>rfl))))
   (a0c (a0J (PW.pt (a3C (a0y a1g (a0m a0O (a0m a1b (pv 2) (a0d)) (a0d)) (a0d) (nomark _)) (a2T (a0y a1z (pv 3) (a0n a0C (pv 0) (a0d) (λ_ _=>rfl)) rfl)))) (a0h (a0v (a1h (a0a (a0i) (a0a (pv 3) (a0a (a0n a0C (a0n a0C (pv 0) (a0d) (λ_ _=>rfl)) (a4s PySem.F.slot_tuple_index PySem.F.type_tuple_index (a1V K) (a0n a0C (pv 0) (a0d) (λ_ _=>rfl)) (a0a (pv 3) (a0f))) (λ_ _=>rfl)) (a0f))))))) (a0x))
   (a0h (a0v (a1h (a0a (a0i) (a0a (pv 3) (a0a (a0q GU.ok hr (by rfl) GU.m GU.kp GU.b .nil a0D (a0a (a0m a1b (pv 2) (a0d)) (a0f))) (a0f))))))))) (a0x))
   (a0c (a0z (i:=3) scDe.nd rfl (Or.inl rfl) (a3m (a0n a0k (a0m a2K (a0K a2i (by rfl) mL a8d (a0a (a0n a0C (pv 0) (a0d) (λ_ _=>rfl)) (a0f))) (a0W (a0a (a0i) (a0a (a0i) (a0a (a0i) (a0a (a0i) (a0f))))))) (a0m a0O (pv 2) (a0m a0M (a0t a0r (by rfl) ml PySem.boot_len (a0a (a0n a0C (pv 0) (a0d) (λ_ _=>rfl)) (a0f))) (a0n a0k (a0W (a0a (a0d) (a0a (a0d) (a0f)))) (a0m a0O (a0m a1b (pv 2) (a0d)) (a0d)) (λ_ _=>rfl)))) (λ_ _=>rfl))))
   (a0c (a0J (PW.pt (a3C (a0y a1g (a0m a0O (a0m a1b (pv 2) (a0d)) (a0d)) (a0d) (nomark _)) (a2T (a0y a1z (pv 3) (a0n a0C (pv 0) (a0d) (λ_ _=>rfl)) rfl)))) (a0h (a0v (a1h (a0a (a0i) (a0a (pv 3) (a0a (a0n a0C (a0n a0C (pv 0) (a0d) (λ_ _=>rfl)) (a4s PySem.F.slot_tuple_index PySem.F.type_tuple_index (a1V K) (a0n a0C (pv 0) (a0d) (λ_ _=>rfl)) (a0a (pv 3) (a0f))) (λ_ _=>rfl)) (a0f))))))) (a0x))
   (a0h (a0v (a1h (a0a (a0i) (a0a (pv 3) (a0a (a0q GU.ok hr (by rfl) GU.m GU.kp GU.b .nil a0D (a0a (a0m a1b (pv 2) (a0d)) (a0f))) (a0f))))))))))),?_⟩
 have i0:atI [V.ref b1,.ref b2,.ref b3,.ref b4] 0=some (.ref b1):=rfl;have i1:atI [V.ref b1,.ref b2,.ref b3,.ref b4] 1=some (.ref b2):=rfl;have i2:atI [V.ref b1,.ref b2,.ref b3,.ref b4] 2=some (.ref b3):=rfl;have i3:atI [V.ref b1,.ref b2,.ref b3,.ref b4] 3=some (.ref b4):=rfl;refine ⟨_,rfl,_,_,rfl,rfl,⟨by decide,by decide⟩,?_⟩;refine ⟨_,rfl,_,_,rfl,rfl,(by show (0:Int) < _;decide),_,_,rfl,rfl,_,rfl,a1K (λz=>?_) (λz=>?_)⟩
 ·exact ⟨(by show 3<=sizeLine;decide),λd hd=>qq d _ _ _ _ (a0g hd _) a0b (.inl rfl)⟩
 clear z;have ls:=B.b.ls;have l2:=B.b.l2;have l4:=B.l4;have ln':=B.b.ln;have n1:=B.b.n1;have n5:=B.n5;dsimp only;refine ⟨_,rfl,_,_,rfl,rfl,(by show (0:Int) < _;decide),_,_,rfl,rfl,_,rfl,a1K (λz=>?_) (λz=>?_)⟩
 ·refine ⟨λv H'=>a0E H H'/\∃ z,v=.str z,?_,?_⟩
  ·refine ⟨_,rfl,p,_,_,_,rfl,rfl,SqT.of h0,i0,b1,_,rfl,.inr (SqT.of h1),λe he=>?_⟩;have s1:=a0g he (.lst (sg.map V.str));have g1:upd H e (.lst (sg.map V.str)) e=some (.lst (sg.map V.str)):=a0b;generalize upd H e (.lst (sg.map V.str))=H1 at s1 g1 ⊢;refine ⟨(by show 4<=sizeLine;decide),λe2 he2=>?_⟩;have s2:=a0g he2 (.lst [.str (Str.ofString ""),.str (Str.ofString "A"),.str (Str.ofString "ab"),.str (Str.ofString " ")]);refine ⟨e,e2,_,_,rfl,rfl,s2 _ _ g1,a0b,small (by rw [List.length_map];show _+4<=_;omega),λe3 he3=>?_⟩;have s3:=a0g he3 (.lst (sg.map V.str++[.str (Str.ofString ""),.str (Str.ofString "A"),.str (Str.ofString "ab"),.str (Str.ofString " ")]));have g3:upd (upd H1 e2 (.lst [.str (Str.ofString ""),.str (Str.ofString "A"),.str (Str.ofString "ab"),.str (Str.ofString " ")])) e3 (.lst (sg.map V.str++[.str (Str.ofString ""),.str (Str.ofString "A"),.str (Str.ofString "ab"),.str (Str.ofString " ")])) e3=some (.lst (sg.map V.str++[.str (Str.ofString ""),.str (Str.ofString "A"),.str (Str.ofString "ab"),.str (Str.ofString " ")])):=a0b;have s03:=(s1.trans s2).trans s3;generalize upd (upd H1 e2 (.lst [.str (Str.ofString ""),.str (Str.ofString "A"),.str (Str.ofString "ab"),.str (Str.ofString " ")])) e3 (.lst (sg.map V.str++[.str (Str.ofString ""),.str (Str.ofString "A"),.str (Str.ofString "ab"),.str (Str.ofString " ")]))=H3 at s03 g3 ⊢;refine ⟨_,rfl,_,rfl,p,_,_,_,rfl,rfl,SqT.of (s03 _ _ h0),i0,b1,_,rfl,.inr (SqT.of (s03 _ _ h1)),(by show 2<=sizeLine;decide),λe4 he4=>?_⟩;have s4:=a0g he4 (.lst [.int 0,.int 4]);refine ⟨_,rfl,_,_,rfl,rfl,⟨by decide,by decide⟩,_,_,rfl,rfl,(by show (0:Int) < _;decide),?_⟩;have kk:c / 8 / 8 % 2=0\/c / 8 / 8 % 2=1:=by omega
   have fin:∀ m:Int,0<=m->m<=4->∃ z,atI (sg.map V.str++[.str (Str.ofString ""),.str (Str.ofString "A"),.str (Str.ofString "ab"),.str (Str.ofString " ")]) (c / 8 % (((sg.map V.str).length:Int)+m))=some (.str z):=λm m0 m4=>by
    rw [str4,List.length_map];have hpos:(0:Int) < (sg.length:Int)+m:=by omega
    refine a9p (Int.emod_nonneg _ (by omega)) ?_;have:=Int.emod_lt_of_pos (c / 8) hpos;rw [List.length_append];show _ < ((sg.length+4:Nat):Int);omega
   have pos:∀ m:Int,0<=m->(0:Int) < ((sg.map V.str).length:Int)+m:=λm h=>by rw [List.length_map];omega
   rcases kk with ek | ek
   ·obtain ⟨z,hz⟩:=fin 0 (by decide) (by decide);exact ⟨e4,_,_,_,rfl,congrArg V.int ek,SqL.of a0b,rfl,_,_,rfl,rfl,_,_,rfl,rfl,pos 0 (by decide),e3,_,_,_,rfl,rfl,SqL.of (s4 _ _ g3),hz,s03.trans s4,z,rfl⟩
   ·obtain ⟨z,hz⟩:=fin 4 (by decide) (by decide);exact ⟨e4,_,_,_,rfl,congrArg V.int ek,SqL.of a0b,rfl,_,_,rfl,rfl,_,_,rfl,rfl,pos 4 (by decide),e3,_,_,_,rfl,rfl,SqL.of (s4 _ _ g3),hz,s03.trans s4,z,rfl⟩
  rintro v H1 ⟨s1,z,rfl⟩;have h01:=s1 _ _ h0;have h11:=s1 _ _ h1;have h21:=s1 _ _ h2;have num:∀ H',H'=H1->∃ v:V,v=.str a1D:=λ_ _=>⟨_,rfl⟩
  clear num;refine ⟨_,rfl,_,_,rfl,rfl,⟨by decide,by decide⟩,_,_,rfl,rfl,(by show (0:Int) < _;decide),rfl,_,rfl,a1K (λy=>?_) (λy=>?_)⟩
  ·refine ⟨_,rfl,_,rfl,p,_,_,_,rfl,rfl,SqT.of h01,i0,b1,_,rfl,.inr (SqT.of h11),rfl,a0S _,_,rfl,?_⟩;rw [if_neg (by decide),a1n];refine a1K (λy2=>?_) (λy2=>?_)
   ·have zi:=of_decide_eq_true y2;have il:=List.idxOf_lt_length_of_mem zi;obtain ⟨n,hn⟩:=a9q (ns:=q.1) (j:=sg.idxOf z) (by omega);refine ⟨_,rfl,_,rfl,p,_,_,_,rfl,rfl,SqT.of h01,i1,_,rfl,p,_,_,_,rfl,rfl,SqT.of h01,i0,⟨b1,_,rfl,h11⟩,_,rfl,b1,sg,z,rfl,rfl,SqT.of h11,zi,b2,_,_,_,rfl,rfl,SqT.of h21,hn,(by show 3<=sizeLine;decide),λd hd=>?_⟩;exact qq d _ _ _ _ (s1.trans (a0g hd _)) a0b (.inr (.inl rfl))
   ·refine ⟨_,rfl,_,rfl,_,_,rfl,rfl,⟨by decide,by decide⟩,_,rfl,λv H2 s2=>⟨(by show 3<=sizeLine;decide),λd hd=>?_⟩⟩;exact qq d _ _ _ _ ((s1.trans s2).trans (a0g hd _)) a0b (.inr (.inl rfl))
  ·refine ⟨_,rfl,_,rfl,_,_,rfl,rfl,⟨by decide,by decide⟩,_,rfl,λv H2 s2=>⟨(by show 3<=sizeLine;decide),λd hd=>?_⟩⟩;exact qq d _ _ _ _ ((s1.trans s2).trans (a0g hd _)) a0b (.inr (.inl rfl))
 ·refine ⟨λv H'=>a0E H H'/\∃ z,v=.str z,?_,?_⟩
  ·refine ⟨_,rfl,p,_,_,_,rfl,rfl,SqT.of h0,i2,b3,_,rfl,.inr (SqT.of h3),λe he=>?_⟩;have s1:=a0g he (.lst (nm.map V.str));have g1:upd H e (.lst (nm.map V.str)) e=some (.lst (nm.map V.str)):=a0b;generalize upd H e (.lst (nm.map V.str))=H1 at s1 g1 ⊢;refine ⟨(by show 4<=sizeLine;decide),λe2 he2=>?_⟩;have s2:=a0g he2 (.lst [.str (Str.ofString ""),.str (Str.ofString "a b"),.str (Str.ofString "Zz"),.str (Str.ofString "thing")]);refine ⟨e,e2,_,_,rfl,rfl,s2 _ _ g1,a0b,small (by rw [List.length_map];show _+4<=_;omega),λe3 he3=>?_⟩;have s3:=a0g he3 (.lst (nm.map V.str++[.str (Str.ofString ""),.str (Str.ofString "a b"),.str (Str.ofString "Zz"),.str (Str.ofString "thing")]));have g3:upd (upd H1 e2 (.lst [.str (Str.ofString ""),.str (Str.ofString "a b"),.str (Str.ofString "Zz"),.str (Str.ofString "thing")])) e3 (.lst (nm.map V.str++[.str (Str.ofString ""),.str (Str.ofString "a b"),.str (Str.ofString "Zz"),.str (Str.ofString "thing")])) e3=some (.lst (nm.map V.str++[.str (Str.ofString ""),.str (Str.ofString "a b"),.str (Str.ofString "Zz"),.str (Str.ofString "thing")])):=a0b;have s03:=(s1.trans s2).trans s3;generalize upd (upd H1 e2 (.lst [.str (Str.ofString ""),.str (Str.ofString "a b"),.str (Str.ofString "Zz"),.str (Str.ofString "thing")])) e3 (.lst (nm.map V.str++[.str (Str.ofString ""),.str (Str.ofString "a b"),.str (Str.ofString "Zz"),.str (Str.ofString "thing")]))=H3 at s03 g3 ⊢;refine ⟨_,rfl,_,rfl,p,_,_,_,rfl,rfl,SqT.of (s03 _ _ h0),i2,b3,_,rfl,.inr (SqT.of (s03 _ _ h3)),(by show 2<=sizeLine;decide),λe4 he4=>?_⟩;have s4:=a0g he4 (.lst [.int 0,.int 4]);refine ⟨_,rfl,_,_,rfl,rfl,⟨by decide,by decide⟩,_,_,rfl,rfl,(by show (0:Int) < _;decide),?_⟩;have kk:c / 8 / 10 % 2=0\/c / 8 / 10 % 2=1:=by omega
   have fin:∀ m:Int,0<=m->m<=4->∃ z,atI (nm.map V.str++[.str (Str.ofString ""),.str (Str.ofString "a b"),.str (Str.ofString "Zz"),.str (Str.ofString "thing")]) (c / 8 % (((nm.map V.str).length:Int)+m))=some (.str z):=λm m0 m4=>by
    rw [str4,List.length_map];have hpos:(0:Int) < (nm.length:Int)+m:=by omega
    refine a9p (Int.emod_nonneg _ (by omega)) ?_;have:=Int.emod_lt_of_pos (c / 8) hpos;rw [List.length_append];show _ < ((nm.length+4:Nat):Int);omega
   have pos:∀ m:Int,0<=m->(0:Int) < ((nm.map V.str).length:Int)+m:=λm h=>by rw [List.length_map];omega
   rcases kk with ek | ek
   ·obtain ⟨z,hz⟩:=fin 0 (by decide) (by decide);exact ⟨e4,_,_,_,rfl,congrArg V.int ek,SqL.of a0b,rfl,_,_,rfl,rfl,_,_,rfl,rfl,pos 0 (by decide),e3,_,_,_,rfl,rfl,SqL.of (s4 _ _ g3),hz,s03.trans s4,z,rfl⟩
   ·obtain ⟨z,hz⟩:=fin 4 (by decide) (by decide);exact ⟨e4,_,_,_,rfl,congrArg V.int ek,SqL.of a0b,rfl,_,_,rfl,rfl,_,_,rfl,rfl,pos 4 (by decide),e3,_,_,_,rfl,rfl,SqL.of (s4 _ _ g3),hz,s03.trans s4,z,rfl⟩
  rintro v H1 ⟨s1,z,rfl⟩;have h01:=s1 _ _ h0;have h11:=s1 _ _ h3;have h21:=s1 _ _ h4;have num:∀ H',H'=H1->∃ v:V,v=.str a1D:=λ_ _=>⟨_,rfl⟩
  clear num;refine ⟨_,rfl,_,_,rfl,rfl,⟨by decide,by decide⟩,_,_,rfl,rfl,(by show (0:Int) < _;decide),rfl,_,rfl,a1K (λy=>?_) (λy=>?_)⟩
  ·refine ⟨_,rfl,_,rfl,p,_,_,_,rfl,rfl,SqT.of h01,i2,b3,_,rfl,.inr (SqT.of h11),rfl,a0S _,_,rfl,?_⟩;rw [if_neg (by decide),a1n];refine a1K (λy2=>?_) (λy2=>?_)
   ·have zi:=of_decide_eq_true y2;have il:=List.idxOf_lt_length_of_mem zi;obtain ⟨n,hn⟩:=a9q (ns:=q.2) (j:=nm.idxOf z) (by omega);refine ⟨_,rfl,_,rfl,p,_,_,_,rfl,rfl,SqT.of h01,i3,_,rfl,p,_,_,_,rfl,rfl,SqT.of h01,i2,⟨b3,_,rfl,h11⟩,_,rfl,b3,nm,z,rfl,rfl,SqT.of h11,zi,b4,_,_,_,rfl,rfl,SqT.of h21,hn,(by show 3<=sizeLine;decide),λd hd=>?_⟩;exact qq d _ _ _ _ (s1.trans (a0g hd _)) a0b (.inr (.inr rfl))
   ·refine ⟨_,rfl,_,rfl,_,_,rfl,rfl,⟨by decide,by decide⟩,_,rfl,λv H2 s2=>⟨(by show 3<=sizeLine;decide),λd hd=>?_⟩⟩;exact qq d _ _ _ _ ((s1.trans s2).trans (a0g hd _)) a0b (.inr (.inr rfl))
  ·refine ⟨_,rfl,_,rfl,_,_,rfl,rfl,⟨by decide,by decide⟩,_,rfl,λv H2 s2=>⟨(by show 3<=sizeLine;decide),λd hd=>?_⟩⟩;exact qq d _ _ _ _ ((s1.trans s2).trans (a0g hd _)) a0b (.inr (.inr rfl))
end
theorem b3k {X:Cx} {ss:List Stmt} {t t':TS} (h:PSs X ss t) (i:∀ G σ H,t' G σ H->t G σ H):PSs X ss t':=λpins s σ H D I q=>h pins s σ H D I (i _ _ _ q)
def a4W:Str:=Str.ofString "done"
def a6d:Str:=Str.ofString "left"
def a4d:Str:=Str.ofString "name"
def a2D:Str:=Str.ofString "prices"
def a2c:Str:=Str.ofString "weights"
def wd (sg nm:List Str) (hs:List Pw) (k z:Str) (n:Int):Str :=
 if k=a2P then (if hs=[] then a6d else a4W) else if k=a1D then (if z∉sg then a4d else if am n=false then a2D else a4W) else (if z∉nm then a4d else if am n=false then a2c else a4W)
def nxt (sg nm:List Str) (q:Pw) (hs:List Pw) (k z:Str) (n:Int):Pw × List Pw :=
 if k=a2P then (if hs=[] then (q,hs) else (hs.getLastD q,hs.dropLast)) else if k=a1D then (if z∉sg then (q,hs) else if am n=false then (q,hs) else (mvd true sg nm q z n,hs++[q])) else (if z∉nm then (q,hs) else if am n=false then (q,hs) else (mvd false sg nm q z n,hs++[q]))
theorem kPB:¬ a1D=a2P:=by decide +kernel
theorem kWB:¬ a1H=a2P:=by decide +kernel
theorem kWP:¬ a1H=a1D:=by decide +kernel
structure Kd (K:PySem.W.Frag) (mg:Str->Option Value) (D CN CP CW CL:Addr):Prop where
 gD:mg "TollError"=some (.ref D)
 gN:mg "BadName"=some (.ref CN)
 gP:mg "BadPrices"=some (.ref CP)
 gW:mg "BadWeights"=some (.ref CW)
 gL:mg "NothingLeft"=some (.ref CL)
 gV:mg "ValueError"=none
 xD:XC K D
 xN:XC K CN
 xP:XC K CP
 xW:XC K CW
 xL:XC K CL
 nD:PySem.W.subIn K (.ref CN) (.ref D)=some true
 pD:PySem.W.subIn K (.ref CP) (.ref D)=some true
 wD:PySem.W.subIn K (.ref CW) (.ref D)=some true
 lD:PySem.W.subIn K (.ref CL) (.ref D)=some true
 nP:PySem.W.subIn K (.ref CN) (.ref CP)=some false
 nW:PySem.W.subIn K (.ref CN) (.ref CW)=some false
 nL:PySem.W.subIn K (.ref CN) (.ref CL)=some false
 pN:PySem.W.subIn K (.ref CP) (.ref CN)=some false
 pW:PySem.W.subIn K (.ref CP) (.ref CW)=some false
 pL:PySem.W.subIn K (.ref CP) (.ref CL)=some false
 wN:PySem.W.subIn K (.ref CW) (.ref CN)=some false
 wP:PySem.W.subIn K (.ref CW) (.ref CP)=some false
 wL:PySem.W.subIn K (.ref CW) (.ref CL)=some false
 lN:PySem.W.subIn K (.ref CL) (.ref CN)=some false
 lP:PySem.W.subIn K (.ref CL) (.ref CP)=some false
 lW:PySem.W.subIn K (.ref CL) (.ref CW)=some false
abbrev kO (K:PySem.W.Frag) (C D:Addr) (b:Bool):Prop:=PySem.W.kitOne K (.ref C) (.ref D)=some b
def b3C (K:PySem.W.Frag) (CN CP CW CL CE:Addr) (txt:Str):Prop:=∃ b1 b2 b3 b4 i,XC K CE/\kO K CE CN b1/\kO K CE CP b2/\kO K CE CW b3/\kO K CE CL b4/\[b1,b2,b3,b4].countP (λc=>decide (c=true))=1/\true∈[b1,b2,b3,b4]/\[b1,b2,b3,b4].idxOf true=i/\atI [V.str a4d,.str a2D,.str a2c,.str a6d] ((i:Nat):Int)=some (.str txt)
def tHd (K:PySem.W.Frag) (CN CP CW CL:Addr):TS:=λG σ H=>∃ (ea CE:Addr) (txt:Str) (x0 x1 x2 x3 x5:Option V),σ=[x0,x1,x2,x3,some (.ref ea),x5]/\H ea=some (b1h ea CE none)/\b3C K CN CP CW CL CE txt/\∀ H' y5,a0E H H'->G.nx [x0,x1,some (.str txt),x3,some (.ref ea),y5] H'
section
variable {P:Program} {w:World} {K:PySem.W.Frag} {mg:Str->Option Value} {base:Heap} {f:Addr} {fd:FuncData}
theorem a6H {D CN CP CW CL:Addr} (c:Kd K mg D CN CP CW CL):b3C K CN CP CW CL CN a4d:=⟨true,false,false,false,0,c.xN,b0f c.xN.h c.xN.sf,a3r c.xN c.xP.h c.nP,a3r c.xN c.xW.h c.nW,a3r c.xN c.xL.h c.nL,by decide,by decide,by decide,rfl⟩
theorem b1I {D CN CP CW CL:Addr} (c:Kd K mg D CN CP CW CL):b3C K CN CP CW CL CP a2D:=⟨false,true,false,false,1,c.xP,a3r c.xP c.xN.h c.pN,b0f c.xP.h c.xP.sf,a3r c.xP c.xW.h c.pW,a3r c.xP c.xL.h c.pL,by decide,by decide,by decide,rfl⟩
theorem b1J {D CN CP CW CL:Addr} (c:Kd K mg D CN CP CW CL):b3C K CN CP CW CL CW a2c:=⟨false,false,true,false,2,c.xW,a3r c.xW c.xN.h c.wN,a3r c.xW c.xP.h c.wP,b0f c.xW.h c.xW.sf,a3r c.xW c.xL.h c.wL,by decide,by decide,by decide,rfl⟩
theorem b1K {D CN CP CW CL:Addr} (c:Kd K mg D CN CP CW CL):b3C K CN CP CW CL CL a6d:=⟨false,false,false,true,3,c.xL,a3r c.xL c.xN.h c.lN,a3r c.xL c.xP.h c.lP,a3r c.xL c.xW.h c.lW,b0f c.xL.h c.xL.sf,by decide,by decide,by decide,rfl⟩
abbrev NDn:List Str:=["desk","deed","word","found","e","kinds"]
structure Sz (sg nm:List Str) (q:Pw):Prop where
 e1:sg.length=q.1.length
 e2:nm.length=q.2.length
 p9:q.1.length<=900
 w9:q.2.length<=900
def spDn (C:Addr):Sp:=λvs H Q _=>∃ (r l d:Addr) (sg nm:List Str) (q:Pw) (hs:List Pw) (k z:Str) (n:Int),vs=[.ref r,.ref d]/\a2R C H r l sg nm q hs/\hs.length<=900/\Sz sg nm q/\H d=some (.tup [.str k,.str z,.int n])/\(k=a2P\/k=a1D\/k=a1H) /\
 ∀ H',K2 r l H H'->a2R C H' r l sg nm (nxt sg nm q hs k z n).1 (nxt sg nm q hs k z n).2->Q (.str (wd sg nm hs k z n)) H'
theorem a9I:a0u NDn ["desk","deed"] (a0e a7l):=⟨rfl,rfl,rfl,by decide +kernel,rfl,by decide +kernel,by decide +kernel⟩
theorem ok_dn {C D CN CP CW CL:Addr} (F:Fun K "_law_done" "_law_done" a7l f fd) (dc:DC K C) (c:Kd K mg D CN CP CW CL) (MP:Mx P w K mg base (CXF P w) C "put_price" NPP (a4n true C CN CP) 4) (MW:Mx P w K mg base (CXF P w) C "put_weight" NPW (a4n false C CN CW) 4) (MB:Mx P w K mg base (CXF P w) C "back" ["self"] (spDk C CL) 4) (mi:mg "isinstance"=none):a1a P w K mg base CX0 5 f fd ["desk","deed"] (spDn C):=by
 refine F.ok (k:=4) a9I (λvs H Q E h=>?_) (λcdv A outer s H vs Q E hr h=>?_)
 ·obtain ⟨r,l,d,sg,nm,q,hs,k,z,n,rfl,_⟩:=h;rfl
 obtain ⟨r,l,d,sg,nm,q,hs,k,z,n,rfl,dk,h9,sz,hd,hk,qq⟩:=h;refine ⟨_,a0c (a0z (i:=2) a9I.nd rfl (Or.inl rfl) (a0i))
   (a0c (a0z (i:=3) a9I.nd rfl (Or.inl rfl) (a3B))
   (a0c (a5r (ps_try (i:=4) rfl ⟨rfl,rfl⟩ (λpn xe Ex hx=>a0h (a0J (a0y a1g (a0n (ixT K) (pv 1) (a0d) (λ_ _=>rfl)) (a0i) (nomark _)) (a0h (a0z (i:=3) a9I.nd rfl (Or.inl rfl) (a4M (pv 0) dc.c MP.m MP.ok hr MP.b hx (a0a (a0n (ixT K) (pv 1) (a0d) (λ_ _=>rfl)) (a0a (a0n (ixT K) (pv 1) (a0d) (λ_ _=>rfl)) (a0f)))))) (a0h (a0J (a0y a1g (a0n (ixT K) (pv 1) (a0d) (λ_ _=>rfl)) (a0i) (nomark _)) (a0h (a0z (i:=3) a9I.nd rfl (Or.inl rfl) (a4M (pv 0) dc.c MW.m MW.ok hr MW.b hx (a0a (a0n (ixT K) (pv 1) (a0d) (λ_ _=>rfl)) (a0a (a0n (ixT K) (pv 1) (a0d) (λ_ _=>rfl)) (a0f)))))) (a0h (a0z (i:=3) a9I.nd rfl (Or.inl rfl) (a8t (pv 0) dc.c MB.m MB.ok hr MB.b hx))))))) (λea=>b3k (t':=tHd K CN CP CW CL) (a0c (a0z (i:=5) a9I.nd rfl (Or.inl rfl) (a0W (a0a (a0t (isiE K) (by rfl) mi a8c (a0a (pv 4) (a0a (a1L (v:=.ref CN) (by rfl) c.gN rfl) (a0f)))) (a0a (a0t (isiE K) (by rfl) mi a8c (a0a (pv 4) (a0a (a1L (v:=.ref CP) (by rfl) c.gP rfl) (a0f)))) (a0a (a0t (isiE K) (by rfl) mi a8c (a0a (pv 4) (a0a (a1L (v:=.ref CW) (by rfl) c.gW rfl) (a0f)))) (a0f))))))
   (a0c (a1f (a2u PySem.F.plainAttrs_list PySem.F.slot_list_append PySem.F.type_list_append a1e (pv 5) (a0a (a0t (isiE K) (by rfl) mi a8c (a0a (pv 4) (a0a (a1L (v:=.ref CL) (by rfl) c.gL rfl) (a0f)))) (a0f))))
   (a0c (a0z (i:=2) a9I.nd rfl (Or.inl rfl) (a0i))
   (a0h (a0J (PW.pt (a3C (a0y a1g (a2u PySem.F.plainAttrs_list PySem.F.slot_list_count PySem.F.type_list_count a8P (pv 5) (a0a (a3A) (a0f))) (a0d) (nomark _)) (a2T (a1I (a0t (isiE K) (by rfl) mi a8c (a0a (pv 4) (a0a (b1T (v:=.ty "ValueError") (by rfl) c.gV b_VE rfl) (a0f)))))))) (a0h (a0z (i:=2) a9I.nd rfl (Or.inl rfl) (a0n (ixL K) (a0W (a0a (a0i) (a0a (a0i) (a0a (a0i) (a0a (a0i) (a0f)))))) (a2u PySem.F.plainAttrs_list PySem.F.slot_list_index PySem.F.type_list_index a8Q (pv 5) (a0a (a3A) (a0f))) (λ_ _=>rfl)))) (a0x)))))) (λG σ H h=>?_)) a9I.nd rfl rfl (by rfl) c.gD c.xD.h))
   (a0c (a0J (a0y b1Y (pv 3) (a3B) (nomark _)) (a0h (a0v (a0i))) (a0x))
   (a0h (a0v (pv 2)))))),?_⟩
 ·-- the handler
  obtain ⟨ea,CE,txt,x0,x1,x2,x3,x5,rfl,he,⟨b1,b2,b3,b4,i,xc,k1,k2,k3,k4,cnt,mem,idx,at4⟩,q⟩:=h;refine ⟨_,rfl,ea,CE,none,_,b1,rfl,he,xc.e,.inl rfl,.inl ⟨CN,rfl,k1⟩,?_⟩;refine ⟨_,rfl,ea,CE,none,_,b2,rfl,he,xc.e,.inl rfl,.inl ⟨CP,rfl,k2⟩,?_⟩;refine ⟨_,rfl,ea,CE,none,_,b3,rfl,he,xc.e,.inl rfl,.inl ⟨CW,rfl,k3⟩,(by show 3<=sizeLine;decide),λt ht=>?_⟩;have s2:=a0g ht (.lst [.bl b1,.bl b2,.bl b3]);have gt:upd H t (.lst [.bl b1,.bl b2,.bl b3]) t=some (.lst [.bl b1,.bl b2,.bl b3]):=a0b;generalize upd H t (.lst [.bl b1,.bl b2,.bl b3])=H2 at s2 gt ⊢;refine ⟨_,rfl,.inl ⟨rfl,_,SqL.of gt⟩,_,rfl,ea,CE,none,_,b4,rfl,s2 _ _ he,xc.e,.inl rfl,.inl ⟨CL,rfl,k4⟩,t,_,_,rfl,rfl,gt,(by show 3 < sizeLine;decide),?_⟩;have s3:=a0w (o:=.lst [.bl b1,.bl b2,.bl b3,.bl b4]) ht s2;have gt3:upd H2 t (.lst [.bl b1,.bl b2,.bl b3,.bl b4]) t=some (.lst ([b1,b2,b3,b4].map V.bl)):=a0b;rw [show ([V.bl b1,.bl b2,.bl b3]++[V.bl b4])=[V.bl b1,.bl b2,.bl b3,.bl b4] from rfl];generalize upd H2 t (.lst [.bl b1,.bl b2,.bl b3,.bl b4])=H3 at s3 gt3 ⊢;refine ⟨_,rfl,.inl ⟨rfl,_,SqL.of gt3⟩,t,[b1,b2,b3,b4],true,rfl,rfl,gt3,rfl,_,rfl,?_⟩;rw [cnt];refine a4k ⟨_,rfl,ea,CE,none,_,true,rfl,s3 _ _ he,xc.e,.inl rfl,.inr ⟨"ValueError",rfl,kit_ve xc⟩,_,rfl,a4k ?_⟩;refine ⟨(by show 4<=sizeLine;decide),λu hu=>?_⟩;have s4:=a0g hu (.lst [.str a4d,.str a2D,.str a2c,.str a6d]);refine ⟨_,rfl,.inl ⟨rfl,_,SqL.of (s4 _ _ gt3)⟩,t,[b1,b2,b3,b4],true,rfl,rfl,s4 _ _ gt3,mem,u,_,_,_,rfl,rfl,SqL.of a0b,?_,q _ _ (s3.trans s4)⟩;rw [idx];exact at4
 have i0:atI [V.str k,.str z,.int n] 0=some (.str k):=rfl;have i1:atI [V.str k,.str z,.int n] 1=some (.str z):=rfl;have i2:atI [V.str k,.str z,.int n] 2=some (.int n):=rfl;obtain ⟨dx,b1,b2,b3,b4,xs,h0,hrest⟩:=id dk;have rf:∀ (H:Hp),K2 r l H H:=λH a o _ _ h=>h;refine ⟨λσ' H'=>(K2 r l H H'/\a2R C H' r l sg nm (nxt sg nm q hs k z n).1 (nxt sg nm q hs k z n).2)/\∃ y5,σ'=[some (.ref r),some (.ref d),some (.str (wd sg nm hs k z n)),some .non,none,y5],?_,?_⟩
 ·have exc:∀ {CE:Addr} {txt:Str},PySem.W.subIn K (.ref CE) (.ref D)=some true->b3C K CN CP CW CL CE txt->wd sg nm hs k z n=txt->nxt sg nm q hs k z n=(q,hs)->∀ ea,H ea=none->∀ H' y5,a0E (upd H ea (b1h ea CE none)) H'->(K2 r l H H'/\a2R C H' r l sg nm (nxt sg nm q hs k z n).1 (nxt sg nm q hs k z n).2)/\∃ y5',([some (.ref r),some (.ref d),some (.str txt),some .non,some (.ref ea),y5]:St).set 4 none=[some (.ref r),some (.ref d),some (.str (wd sg nm hs k z n)),some .non,none,y5']:=λ_ _ ew en ea hea H' y5 s'=>by
   have s0:=(a0g hea _).trans s';rw [en,ew];exact ⟨⟨K2.of s0,dk.same s0⟩,y5,rfl⟩
  refine ⟨_,rfl,d,_,_,_,rfl,rfl,SqT.of hd,i0,rfl,_,rfl,?_⟩;rw [a3V];refine a1K (λc1=>?_) (λc1=>?_)
  ·have ek:k=a1D:=of_decide_eq_true c1;subst ek;have w0:wd sg nm hs a1D z n=if z∉sg then a4d else if am n=false then a2D else a4W:=by unfold wd;rw [if_neg kPB,if_pos rfl]
   have x0:nxt sg nm q hs a1D z n=if z∉sg then (q,hs) else if am n=false then (q,hs) else (mvd true sg nm q z n,hs++[q]):=by unfold nxt;rw [if_neg kPB,if_pos rfl]
   refine ⟨_,rfl,r,dx,_,rfl,h0,rfl,_,rfl,d,_,_,_,rfl,rfl,SqT.of hd,i1,_,rfl,d,_,_,_,rfl,rfl,SqT.of hd,i2,r,l,sg,nm,q,hs,z,n,rfl,dk,h9,sz.e1,sz.e2,sz.p9,sz.w9,λhz=>?_,λhz ha=>?_,λhz ha H1 kk dk1=>?_⟩
   ·rw [if_pos rfl] at hz;exact ⟨CN,rfl,c.nD,λea hea=>⟨ea,CN,a4d,_,_,_,_,_,rfl,a0b,a6H c,λH' y5 s'=>exc c.nD (a6H c) (by rw [w0,if_pos hz]) (by rw [x0,if_pos hz]) ea hea H' y5 s'⟩⟩
   ·rw [if_pos rfl] at hz;have hz':¬ z∉sg:=λy=>y hz;exact ⟨CP,rfl,c.pD,λea hea=>⟨ea,CP,a2D,_,_,_,_,_,rfl,a0b,b1I c,λH' y5 s'=>exc c.pD (b1I c) (by rw [w0,if_neg hz',if_pos ha]) (by rw [x0,if_neg hz',if_pos ha]) ea hea H' y5 s'⟩⟩
   ·rw [if_pos rfl] at hz;have hz':¬ z∉sg:=λy=>y hz;have ha':¬ am n=false:=by rw [ha];decide
    refine ⟨⟨kk,?_⟩,none,?_⟩
    ·rw [x0,if_neg hz',if_neg ha'];exact dk1
    ·rw [w0,if_neg hz',if_neg ha'];rfl
  have c1:¬ k=a1D:=of_decide_eq_false (Bool.eq_false_iff.mpr c1);refine ⟨_,rfl,d,_,_,_,rfl,rfl,SqT.of hd,i0,rfl,_,rfl,?_⟩;rw [a3V];refine a1K (λc2=>?_) (λc2=>?_)
  ·have ek:k=a1H:=of_decide_eq_true c2;subst ek;have w0:wd sg nm hs a1H z n=if z∉nm then a4d else if am n=false then a2c else a4W:=by unfold wd;rw [if_neg kWB,if_neg kWP]
   have x0:nxt sg nm q hs a1H z n=if z∉nm then (q,hs) else if am n=false then (q,hs) else (mvd false sg nm q z n,hs++[q]):=by unfold nxt;rw [if_neg kWB,if_neg kWP]
   refine ⟨_,rfl,r,dx,_,rfl,h0,rfl,_,rfl,d,_,_,_,rfl,rfl,SqT.of hd,i1,_,rfl,d,_,_,_,rfl,rfl,SqT.of hd,i2,r,l,sg,nm,q,hs,z,n,rfl,dk,h9,sz.e1,sz.e2,sz.p9,sz.w9,λhz=>?_,λhz ha=>?_,λhz ha H1 kk dk1=>?_⟩
   ·rw [if_neg (by decide)] at hz;exact ⟨CN,rfl,c.nD,λea hea=>⟨ea,CN,a4d,_,_,_,_,_,rfl,a0b,a6H c,λH' y5 s'=>exc c.nD (a6H c) (by rw [w0,if_pos hz]) (by rw [x0,if_pos hz]) ea hea H' y5 s'⟩⟩
   ·rw [if_neg (by decide)] at hz;have hz':¬ z∉nm:=λy=>y hz;exact ⟨CW,rfl,c.wD,λea hea=>⟨ea,CW,a2c,_,_,_,_,_,rfl,a0b,b1J c,λH' y5 s'=>exc c.wD (b1J c) (by rw [w0,if_neg hz',if_pos ha]) (by rw [x0,if_neg hz',if_pos ha]) ea hea H' y5 s'⟩⟩
   ·rw [if_neg (by decide)] at hz;have hz':¬ z∉nm:=λy=>y hz;have ha':¬ am n=false:=by rw [ha];decide
    refine ⟨⟨kk,?_⟩,none,?_⟩
    ·rw [x0,if_neg hz',if_neg ha'];exact dk1
    ·rw [w0,if_neg hz',if_neg ha'];rfl
  have c2:¬ k=a1H:=of_decide_eq_false (Bool.eq_false_iff.mpr c2);have ek:k=a2P:=by rcases hk with e | e | e;exact e;exact absurd e c1;exact absurd e c2
  subst ek;have w0:wd sg nm hs a2P z n=if hs=[] then a6d else a4W:=by unfold wd;rw [if_pos rfl]
  have x0:nxt sg nm q hs a2P z n=if hs=[] then (q,hs) else (hs.getLastD q,hs.dropLast):=by unfold nxt;rw [if_pos rfl]
  refine ⟨_,rfl,r,dx,_,rfl,h0,rfl,r,l,sg,nm,q,hs,rfl,dk,h9,λhz=>?_,λhs' q' hz H1 kk dk1=>?_⟩
  ·exact ⟨CL,rfl,c.lD,λea hea=>⟨ea,CL,a6d,_,_,_,_,_,rfl,a0b,b1K c,λH' y5 s'=>exc c.lD (b1K c) (by rw [w0,if_pos hz]) (by rw [x0,if_pos hz]) ea hea H' y5 s'⟩⟩
  ·have hz':¬ hs=[]:=λy=>by rw [y] at hz;cases hs' <;> cases hz
   refine ⟨⟨kk,?_⟩,none,?_⟩
   ·rw [x0,if_neg hz',hz,List.getLastD_concat,List.dropLast_concat];exact dk1
   ·rw [w0,if_neg hz'];rfl
 rintro σ' H1 ⟨⟨kk,dk1⟩,y5,rfl⟩;refine ⟨_,rfl,rfl,_,rfl,a2v ?_⟩;exact ⟨_,rfl,qq H1 kk dk1⟩
abbrev NBe:List Str:=["past","deed","signs","prices","names","weights","good","at"]
def BkP (H:Hp) (sg nm:List Str) (x:V) (q:Pw):Prop:=∃ p,x=.ref p/\a9F H p sg q.1 nm q.2
def a4X (H:Hp) (a:Addr) (sg nm:List Str) (hs:List Pw):Prop:=∃ xs,H a=some (.lst xs)/\Paired (BkP H sg nm) xs hs
def K1 (a:Addr) (H H':Hp):Prop:=∀ b o,b≠a->H b=some o->H' b=some o
theorem BkP.ke {H H':Hp} {sg nm:List Str} {x:V} {q:Pw} (k:KeT H H') (h:BkP H sg nm x q):BkP H' sg nm x q:=by
 obtain ⟨p,rfl,b1,b2,b3,b4,h0,h1,h2,h3,h4⟩:=h;exact ⟨p,rfl,b1,b2,b3,b4,k _ _ h0,k _ _ h1,k _ _ h2,k _ _ h3,k _ _ h4⟩
theorem K1.ke {a:Addr} {xs:List V} {H H':Hp} (k:K1 a H H') (h:H a=some (.lst xs)):KeT H H':=λb ys hb=>k b _ (a0I hb h (by intro z;cases z)) hb
def spBe:Sp:=λvs H Q _=>∃ (a d:Addr) (sg nm:List Str) (q:Pw) (hs:List Pw) (k z:Str) (n:Int),vs=[.ref a,.ref d]/\a4X H a sg nm (hs++[q])/\hs.length<=900/\Sz sg nm q/\H d=some (.tup [.str k,.str z,.int n])/\(k=a2P\/k=a1D\/k=a1H) /\
 ∀ H',K1 a H H'->a4X H' a sg nm ((nxt sg nm q hs k z n).2++[(nxt sg nm q hs k z n).1])->Q (.str (wd sg nm hs k z n)) H'
theorem b1L:a0u NBe ["past","deed"] (a0e a3d):=⟨rfl,rfl,rfl,by decide +kernel,rfl,by decide +kernel,by decide +kernel⟩
theorem a9r {xs:List V} {y:V} (h:xs[xs.length - 1]?=some y):atI xs (-1)=some y:=by
 have hl:=(List.getElem?_eq_some_iff.mp h).1;unfold atI ixN;rw [if_neg (by decide),if_pos (by omega),show ((-1:Int)+(xs.length:Int)).toNat=xs.length - 1 by omega];exact h
theorem a4X.app {H H':Hp} {a p:Addr} {sg nm:List Str} {hs:List Pw} {q:Pw} {xs:List V} (h0:H a=some (.lst xs)) (w0:Paired (BkP H sg nm) xs hs) (s:a0E H H') (b:a9F H' p sg q.1 nm q.2):K1 a H (upd H' a (.lst (xs++[.ref p])))/\a4X (upd H' a (.lst (xs++[.ref p]))) a sg nm (hs++[q]):=by
 have k:K1 a H (upd H' a (.lst (xs++[.ref p]))):=λb o nb hb=>by rw [a0j nb];exact s _ _ hb
 have k2:KeT H' (upd H' a (.lst (xs++[.ref p]))):=λb ys hb=>by rw [a0j (a0I hb (s _ _ h0) (by intro z;cases z))];exact hb
 exact ⟨k,_,a0b,Paired.appendP (Paired.mapP w0 λ_ _ r=>r.ke (k.ke h0)) (.cons (BkP.ke k2 ⟨p,rfl,b⟩) .nil)⟩
theorem ok_be (F:Fun K "_law_behind" "_law_behind" a3d f fd) (ml:mg "len"=none):a1a P w K mg base CX0 1 f fd ["past","deed"] spBe:=by
 refine F.ok (k:=0) b1L (λvs H Q E h=>?_) (λcdv A outer s H vs Q E hr h=>?_)
 ·obtain ⟨a,d,sg,nm,q,hs,k,z,n,rfl,_⟩:=h;rfl
 obtain ⟨a,d,sg,nm,q,hs,k,z,n,rfl,⟨xs,ha,wa⟩,h9,sz,hd,hk,qq⟩:=h;refine ⟨_,a0c (a2G (a0n a0k (pv 0) (a2t a1J a0d) (λ_ _=>rfl)) (a5f rfl (a1m (a0H (i:=2) b1L.nd rfl (Or.inl rfl)) (a1m (a0H (i:=3) b1L.nd rfl (Or.inl rfl)) (a1m (a0H (i:=4) b1L.nd rfl (Or.inl rfl)) (a1m (a0H (i:=5) b1L.nd rfl (Or.inl rfl)) (a3D)))))))
   (a0c (a0J (a0y a1g (a0n a0C (pv 1) (a0d) (λ_ _=>rfl)) (a0i) (nomark _)) (a0c (a0J (a0y a1g (a0t a0r (by rfl) ml PySem.boot_len (a0a (pv 0) (a0f))) (a0d) (nomark _)) (a0h (a0v (a0i))) (a0x))
   (a0c (a1f (a7T PySem.F.plainAttrs_list PySem.F.slot_list_pop PySem.F.type_list_pop a7V (pv 0)))
   (a0h (a0v (a0i))))) (a0x))
   (a0c (a0z (i:=6) b1L.nd rfl (Or.inl rfl) (a3m (a2H a1W a1W a0d (a0n a0C (pv 1) (a0d) (λ_ _=>rfl)) (a0m a3j (a0d) (a0d)))))
   (a0c (a0J (a0y a1g (a0n a0C (pv 1) (a0d) (λ_ _=>rfl)) (a0i) (nomark _)) (a0c (a0J (a0y a1p (a0n a0C (pv 1) (a0d) (λ_ _=>rfl)) (pv 2) rfl) (a0h (a0v (a0i))) (a0x))
   (a0c (a0J (a1o (a1I (pv 6))) (a0h (a0v (a0i))) (a0x))
   (a0c (a0z (i:=7) b1L.nd rfl (Or.inl rfl) (a4s PySem.F.slot_tuple_index PySem.F.type_tuple_index (a1V K) (pv 2) (a0a (a0n a0C (pv 1) (a0d) (λ_ _=>rfl)) (a0f))))
   (a0c (a1f (a2u PySem.F.plainAttrs_list PySem.F.slot_list_append PySem.F.type_list_append a1e (pv 0) (a0a (a1h (a0a (pv 2) (a0a (a0m a2Z (a0m a2Z (a1s a2Y (pv 3) a1N (a1O (pv 7))) (a1h (a0a (a0n a0C (pv 1) (a0d) (λ_ _=>rfl)) (a0f)))) (a1s a2Y (pv 3) (a1O (a0m a0M (pv 7) (a0d))) a1N)) (a0a (pv 4) (a0a (pv 5) (a0f)))))) (a0f))))
   (a0h (a0v (a0i))))))) (a0x))
   (a0c (a0J (a0y a1p (a0n a0C (pv 1) (a0d) (λ_ _=>rfl)) (pv 4) rfl) (a0h (a0v (a0i))) (a0x))
   (a0c (a0J (a1o (a1I (pv 6))) (a0h (a0v (a0i))) (a0x))
   (a0c (a0z (i:=7) b1L.nd rfl (Or.inl rfl) (a4s PySem.F.slot_tuple_index PySem.F.type_tuple_index (a1V K) (pv 4) (a0a (a0n a0C (pv 1) (a0d) (λ_ _=>rfl)) (a0f))))
   (a0c (a1f (a2u PySem.F.plainAttrs_list PySem.F.slot_list_append PySem.F.type_list_append a1e (pv 0) (a0a (a1h (a0a (pv 2) (a0a (pv 3) (a0a (pv 4) (a0a (a0m a2Z (a0m a2Z (a1s a2Y (pv 5) a1N (a1O (pv 7))) (a1h (a0a (a0n a0C (pv 1) (a0d) (λ_ _=>rfl)) (a0f)))) (a1s a2Y (pv 5) (a1O (a0m a0M (pv 7) (a0d))) a1N)) (a0f)))))) (a0f))))
   (a0h (a0v (a0i)))))))))),?_⟩
 have i0:atI [V.str k,.str z,.int n] 0=some (.str k):=rfl;have i1:atI [V.str k,.str z,.int n] 1=some (.str z):=rfl;have i2:atI [V.str k,.str z,.int n] 2=some (.int n):=rfl;have lx:xs.length=hs.length+1:=by rw [wa.length,List.length_append];rfl
 obtain ⟨y,hy⟩:∃ y,xs[xs.length - 1]?=some y:=⟨_,List.getElem?_eq_getElem (by omega)⟩
 obtain ⟨q2,hq2,p,rfl,bk⟩:=Paired.right_of wa _ _ hy;have eq2:q2=q:=by
  rw [lx,Nat.add_sub_cancel,List.getElem?_append_right (Nat.le_refl _),Nat.sub_self] at hq2;exact (Option.some.inj hq2).symm
 subst eq2;obtain ⟨b1,b2,b3,b4,h0,h1,h2,h3,h4⟩:=bk;refine ⟨_,rfl,_,rfl,a,_,_,_,rfl,rfl,SqL.of ha,a9r hy,p,_,rfl,SqT.of h0,rfl,_,_,rfl,_,_,rfl,_,_,rfl,_,_,rfl,rfl,?_⟩;refine ⟨_,rfl,d,_,_,_,rfl,rfl,SqT.of hd,i0,rfl,_,rfl,?_⟩;rw [a3V];refine a1K (λc1=>?_) (λc1=>?_)
 ·have ek:k=a2P:=of_decide_eq_true c1;subst ek;have w0:wd sg nm hs a2P z n=if hs=[] then a6d else a4W:=by unfold wd;rw [if_pos rfl]
  have x0:nxt sg nm q2 hs a2P z n=if hs=[] then (q2,hs) else (hs.getLastD q2,hs.dropLast):=by unfold nxt;rw [if_pos rfl]
  rw [w0,x0] at qq;refine ⟨_,rfl,a,_,rfl,.inl (SqL.of ha),rfl,_,rfl,?_⟩;rw [b1y];refine a1K (λc2=>?_) (λc2=>?_)
  ·have c2:=of_decide_eq_true c2;have e:hs=[]:=List.eq_nil_of_length_eq_zero (by omega);rw [if_pos e,if_pos e] at qq;exact qq H (λ_ _ _ h=>h) ⟨xs,ha,wa⟩
  ·have c2:=of_decide_eq_false (Bool.eq_false_iff.mpr c2);have e:¬ hs=[]:=λe=>c2 (by rw [lx,e];rfl);rw [if_neg e,if_neg e] at qq;refine ⟨_,rfl,.inl ⟨rfl,_,SqL.of ha⟩,a,_,_,rfl,rfl,ha,hy,?_⟩;have k1:K1 a H (upd H a (.lst xs.dropLast)):=λb o nb hb=>by rw [a0j nb];exact hb
   refine qq _ k1 ⟨_,a0b,?_⟩;have:=Paired.takeP hs.length (Paired.mapP wa λ_ _ r=>BkP.ke (k1.ke ha) r);rw [List.take_left] at this;have ed:xs.dropLast=xs.take hs.length:=by rw [List.dropLast_eq_take,lx,Nat.add_sub_cancel]
   rw [<-ed] at this;have eh:hs.dropLast++[hs.getLastD q2]=hs:=by
    rcases List.eq_nil_or_concat hs with e2 | ⟨u,v,e2⟩
    ·exact absurd e2 e
    ·rw [e2,List.concat_eq_append,List.getLastD_concat,List.dropLast_concat]
   rw [eh];exact this
 have c1:¬ k=a2P:=of_decide_eq_false (Bool.eq_false_iff.mpr c1);refine ⟨λv H'=>H=H'/\v=.bl (am n),?_,?_⟩
 ·refine ⟨_,rfl,d,_,_,_,rfl,rfl,SqT.of hd,i2,_,_,rfl,rfl,_,rfl,a1K (λc=>?_) (λc=>?_)⟩
  ·refine ⟨_,_,rfl,rfl,⟨by decide,by decide,by decide⟩,_,_,rfl,rfl,rfl,?_⟩;unfold am;rw [c,Bool.true_and]
  ·refine ⟨rfl,?_⟩;unfold am;rw [Bool.eq_false_iff.mpr c,Bool.false_and]
 rintro v H' ⟨rfl,rfl⟩;refine ⟨_,rfl,d,_,_,_,rfl,rfl,SqT.of hd,i0,rfl,_,rfl,?_⟩;rw [a3V];refine a1K (λc2=>?_) (λc2=>?_)
 ·have ek:k=a1D:=of_decide_eq_true c2;subst ek;have w0:wd sg nm hs a1D z n=if z∉sg then a4d else if am n=false then a2D else a4W:=by unfold wd;rw [if_neg kPB,if_pos rfl]
  have x0:nxt sg nm q2 hs a1D z n=if z∉sg then (q2,hs) else if am n=false then (q2,hs) else (mvd true sg nm q2 z n,hs++[q2]):=by unfold nxt;rw [if_neg kPB,if_pos rfl]
  rw [w0,x0] at qq;refine ⟨_,rfl,d,_,_,_,rfl,rfl,SqT.of hd,i1,_,rfl,b1,_,rfl,.inr (SqT.of h1),rfl,a0S _,_,rfl,?_⟩;rw [a1n,if_pos rfl];refine a1K (λc3=>?_) (λc3=>?_)
  ·have c3:=of_decide_eq_false (a1j c3);rw [if_pos c3,if_pos c3] at qq;exact qq H (λ_ _ _ h=>h) ⟨xs,ha,wa⟩
  have zi:z∈sg:=of_decide_eq_true (a1C c3);have zi':¬ z∉sg:=λy=>y zi;rw [if_neg zi',if_neg zi'] at qq;refine ⟨_,rfl,_,rfl,a1K (λc4=>?_) (λc4=>?_)⟩
  ·have c4:=a1j c4;rw [if_pos c4,if_pos c4] at qq;exact qq H (λ_ _ _ h=>h) ⟨xs,ha,wa⟩
  have c4:=a1C c4;rw [if_neg (by rw [c4];decide),if_neg (by rw [c4];decide)] at qq;have il:=List.idxOf_lt_length_of_mem zi;have e1:=sz.e1;have p9:=sz.p9;refine ⟨_,rfl,⟨b1,_,rfl,h1⟩,_,rfl,d,_,_,_,rfl,rfl,SqT.of hd,i1,b1,sg,z,rfl,rfl,SqT.of h1,zi,?_⟩;refine ⟨_,rfl,.inl ⟨rfl,_,SqL.of ha⟩,_,rfl,_,rfl,_,rfl,_,rfl,b2,_,rfl,h2,λp1 H1 s1 hp1=>?_⟩;rw [a8h _ _ (by omega),<-List.map_take] at hp1;refine ⟨_,rfl,d,_,_,_,rfl,rfl,SqT.of (s1 _ _ hd),i2,(by show 1<=sizeLine;decide),λp2 hp2=>?_⟩;have s2:=a0g hp2 (.tup [.int n]);refine ⟨p1,p2,_,_,rfl,rfl,s2 _ _ hp1,a0b,small (by rw [List.length_map,List.length_take];show min _ _+1<=1000;omega),λp3 H3 s3 hp3=>?_⟩;refine ⟨_,rfl,_,rfl,_,_,rfl,rfl,_,rfl,b2,_,rfl,s3 _ _ (s2 _ _ (s1 _ _ h2)),λp4 H4 s4 hp4=>?_⟩;rw [a4H _ _ (by omega),<-List.map_drop] at hp4;refine ⟨p3,p4,_,_,rfl,rfl,s4 _ _ hp3,hp4,small (by rw [List.length_append,List.length_map,List.length_map,List.length_take,List.length_drop];show min _ _+1+_<=1000;omega),λp5 H5 s5 hp5=>?_⟩;have s05:=(((s1.trans s2).trans s3).trans s4).trans s5;refine ⟨_,rfl,_,rfl,(by show 4<=sizeLine;decide),λp6 hp6=>?_⟩;have s6:=a0g hp6 (.tup [.ref b1,.ref p5,.ref b3,.ref b4]);have s06:=s05.trans s6;refine ⟨a,_,_,rfl,rfl,s06 _ _ ha,a0p (by omega),?_⟩;have g5:H5 p5=some (.tup ((q2.1.set (sg.idxOf z) n).map V.int)):=by
   have e:(((sg.idxOf z:Nat):Int)+1).toNat=sg.idxOf z+1:=by omega
   rw [hp5,List.set_eq_take_append_cons_drop,if_pos (by omega),e,List.map_append,List.map_cons,List.append_assoc,Int.toNat_natCast];rfl
  obtain ⟨kk,pp⟩:=a4X.app (p:=p6) (q:=mvd true sg nm q2 z n) ha wa s06 ⟨b1,p5,b3,b4,a0b,s06 _ _ h1,s6 _ _ g5,s06 _ _ h3,s06 _ _ h4⟩;exact qq _ kk pp
 have c2:¬ k=a1D:=of_decide_eq_false (Bool.eq_false_iff.mpr c2);have ek:k=a1H:=by rcases hk with e | e | e;exact absurd e c1;exact absurd e c2;exact e
 subst ek;have w0:wd sg nm hs a1H z n=if z∉nm then a4d else if am n=false then a2c else a4W:=by unfold wd;rw [if_neg kWB,if_neg kWP]
 have x0:nxt sg nm q2 hs a1H z n=if z∉nm then (q2,hs) else if am n=false then (q2,hs) else (mvd false sg nm q2 z n,hs++[q2]):=by unfold nxt;rw [if_neg kWB,if_neg kWP]
 rw [w0,x0] at qq;refine ⟨_,rfl,d,_,_,_,rfl,rfl,SqT.of hd,i1,_,rfl,b3,_,rfl,.inr (SqT.of h3),rfl,a0S _,_,rfl,?_⟩;rw [a1n,if_pos rfl];refine a1K (λc3=>?_) (λc3=>?_)
 ·have c3:=of_decide_eq_false (a1j c3);rw [if_pos c3,if_pos c3] at qq;exact qq H (λ_ _ _ h=>h) ⟨xs,ha,wa⟩
 have zi:z∈nm:=of_decide_eq_true (a1C c3);have zi':¬ z∉nm:=λy=>y zi;rw [if_neg zi',if_neg zi'] at qq;refine ⟨_,rfl,_,rfl,a1K (λc4=>?_) (λc4=>?_)⟩
 ·have c4:=a1j c4;rw [if_pos c4,if_pos c4] at qq;exact qq H (λ_ _ _ h=>h) ⟨xs,ha,wa⟩
 have c4:=a1C c4;rw [if_neg (by rw [c4];decide),if_neg (by rw [c4];decide)] at qq;have il:=List.idxOf_lt_length_of_mem zi;have e1:=sz.e2;have p9:=sz.w9;refine ⟨_,rfl,⟨b3,_,rfl,h3⟩,_,rfl,d,_,_,_,rfl,rfl,SqT.of hd,i1,b3,nm,z,rfl,rfl,SqT.of h3,zi,?_⟩;refine ⟨_,rfl,.inl ⟨rfl,_,SqL.of ha⟩,_,rfl,_,rfl,_,rfl,_,rfl,_,rfl,_,rfl,b4,_,rfl,h4,λp1 H1 s1 hp1=>?_⟩;rw [a8h _ _ (by omega),<-List.map_take] at hp1;refine ⟨_,rfl,d,_,_,_,rfl,rfl,SqT.of (s1 _ _ hd),i2,(by show 1<=sizeLine;decide),λp2 hp2=>?_⟩;have s2:=a0g hp2 (.tup [.int n]);refine ⟨p1,p2,_,_,rfl,rfl,s2 _ _ hp1,a0b,small (by rw [List.length_map,List.length_take];show min _ _+1<=1000;omega),λp3 H3 s3 hp3=>?_⟩;refine ⟨_,rfl,_,rfl,_,_,rfl,rfl,_,rfl,b4,_,rfl,s3 _ _ (s2 _ _ (s1 _ _ h4)),λp4 H4 s4 hp4=>?_⟩;rw [a4H _ _ (by omega),<-List.map_drop] at hp4;refine ⟨p3,p4,_,_,rfl,rfl,s4 _ _ hp3,hp4,small (by rw [List.length_append,List.length_map,List.length_map,List.length_take,List.length_drop];show min _ _+1+_<=1000;omega),λp5 H5 s5 hp5=>?_⟩;have s05:=(((s1.trans s2).trans s3).trans s4).trans s5;refine ⟨(by show 4<=sizeLine;decide),λp6 hp6=>?_⟩;have s6:=a0g hp6 (.tup [.ref b1,.ref b2,.ref b3,.ref p5]);have s06:=s05.trans s6;refine ⟨a,_,_,rfl,rfl,s06 _ _ ha,a0p (by omega),?_⟩;have g5:H5 p5=some (.tup ((q2.2.set (nm.idxOf z) n).map V.int)):=by
  have e:(((nm.idxOf z:Nat):Int)+1).toNat=nm.idxOf z+1:=by omega
  rw [hp5,List.set_eq_take_append_cons_drop,if_pos (by omega),e,List.map_append,List.map_cons,List.append_assoc,Int.toNat_natCast];rfl
 obtain ⟨kk,pp⟩:=a4X.app (p:=p6) (q:=mvd false sg nm q2 z n) ha wa s06 ⟨b1,b2,b3,p5,a0b,s06 _ _ h1,s06 _ _ h2,s06 _ _ h3,s6 _ _ g5⟩;exact qq _ kk pp
end
end K94
namespace L2
open PySem PySem.Spec PyProof.Rows
def reS (b:Str) (n:Int):Str:=⟨(List.replicate n.toNat b.cps).foldl (·++·) #[]⟩
def rMulS:R2:=λx y H Q=>∃ (b:Str) (n:Int),x=.str b/\y=.int n/\b.length=1/\2<=n/\n<=100/\(reS b n).cps.size<=sizeLine/\Q (.str (reS b n)) H
theorem a4e {X:Cx}:OpR X (binaryOp .Mult) rMulS:=by
 intro pins s σ H x y v u Q I rx ry h;obtain ⟨b,n,rfl,rfl,hb,h2,h1,hs,q⟩:=h;obtain ⟨t,rfl⟩:=rx;obtain ⟨t',rfl⟩:=ry;have e1:¬ n < 1:=by omega
 have e2:(n == 1 || b.length == 0)=false:=by
  rw [hb];simp;omega
 refine PySem.P.mul_str (by rw [decide_eq_false (by omega),decide_eq_false (by omega)];rfl) (λ_ _=>?_) (λ_ _=>?_) ?_
 ·rw [hb];intro z;have z:((1:Nat):Int) > (2 ^ 63 - 1) / n:=z;have:(100:Int)<=(2 ^ 63 - 1) / n:=(Int.le_ediv_iff_mul_le (by omega)).mpr (by omega);omega
 ·rw [hb];refine decide_eq_false ?_;have:(1000:Nat) < sizeLine:=by decide
  omega
 ·rw [if_neg e1,if_neg (by rw [e2];exact Bool.false_ne_true)];exact ⟨hs,.str (reS b n),H,I.tok _,⟨_,rfl⟩,q⟩
section
variable {X:Cx}
def okC (a b:Str) (n:Int):Bool:=decide (b.length=1) && (decide (2<=n) && (decide (n<=100) && (decide ((reS b n).cps.size<=1000) && decide (a.length<=1000))))
def a2g:List Expr->Option (List Str)
 | []=>some []
 | .Constant (.str i) _ _ :: es=>(a2g es).map λqs=>i :: qs
 | .BinOp (.Constant (.str a) _ _) .Add (.BinOp (.Constant (.str b) _ _) .Mult (.Constant (.int n) _ _) _) _ :: es=>if okC a b n=true then (a2g es).map λqs=>(a++reS b n) :: qs else none
 | _ :: _=>none
theorem pe_cat {a b:Str} {n:Int} {k1 k2 k3:Nat} {p1 p2 p3 p4 p5:Pos} (h:okC a b n=true):PE X (.BinOp (.Constant (.str a) k1 p1) .Add (.BinOp (.Constant (.str b) k2 p2) .Mult (.Constant (.int n) k3 p3) p4) p5) (tC (.str (a++reS b n))):=by
 unfold okC at h;simp only [Bool.and_eq_true,decide_eq_true_eq] at h;obtain ⟨h1,h2,h3,h4,h5⟩:=h;have l:(1000:Nat)+1000<=sizeLine:=by decide
 refine (a0m a0A a0i (a0m a4e a0i a0d)).imp λσ H Q q=>?_;refine ⟨b,n,rfl,rfl,h1,h2,h3,by omega,a,_,rfl,rfl,?_,q⟩;show a.length+(reS b n).cps.size<=_;omega
theorem a9s {e:Expr} {es:List Expr} {qs:List Str} (h:a2g (e :: es)=some qs):∃ q qs',a2g es=some qs'/\qs=q :: qs'/\PE X e (tC (.str q))/\starEach (e :: es) X.env=(false,eval e X.env) :: starEach es X.env:=by
 unfold a2g at h;split at h
 ·rename_i heq;cases heq
 ·rename_i heq;cases heq;cases hq:a2g es with
  | none=>rw [hq] at h;cases h
  | some qs'=>rw [hq] at h;cases h;exact ⟨_,qs',rfl,rfl,a0i,rfl⟩
 ·rename_i heq;cases heq;split at h
  ·rename_i c;cases hq:a2g es with
   | none=>rw [hq] at h;cases h
   | some qs'=>rw [hq] at h;cases h;exact ⟨_,qs',rfl,rfl,pe_cat c,rfl⟩
  ·cases h
 ·cases h
theorem a9t:∀ {es:List Expr} {qs:List Str},a2g es=some qs->PA X es (tSs qs)
 | [],qs,h=>by unfold a2g at h;cases h;exact a0f
 | e :: es,qs,h=>by
  obtain ⟨q,qs',h2,rfl,hp,hs⟩:=a9s (X:=X) h;exact a0a hp (a9t h2) hs
theorem b3l {es:List Expr} {pos:Pos} {qs:List Str} (h:a2g es=some qs):PE X (.List es pos) (a8F qs):=by
 refine (a0W (a9t h)).imp λσ H Q q=>?_;obtain ⟨l,q⟩:=q;refine a8E qs ⟨Nat.le_of_lt (a0p (by rw [List.length_map];exact l)),λd hd=>?_⟩;exact q d _ (a0g hd _) hd a0b
def a5G:Stmt->Option (Str × List Str)
 | .Assign [.Name x _] (.BinOp (.Name y _) .Add (.List es _) _) _=>if x=y then (a2g es).map λq=>(x,q) else none
 | _=>none
theorem ps_cat (i:Nat) (st:Stmt) {x:Str} (qs:List Str) (h:a5G st=some (x,qs)) (hN:X.N.Nodup) (hi:X.N[i]?=some x) (hx:Loc X.env.scope x) (hf:X.fn x=true\/X.env.scope.names.lookup x=some .local) (hv:Vis X.env.scope x) (hd:(x == ("__debug__":Str))=false) (hcd:(x == ("__classdict__":Str))=false) :
  PS X st (a7A (tOp rCat (tVar i) (a8F qs)) (a1E i)):=by
 unfold a5G at h;split at h
 ·rename_i y p0 z p1 es lp pos p2;split at h
  ·rename_i e;cases hq:a2g es with
   | none=>rw [hq] at h;cases h
   | some q =>
    rw [hq] at h;cases h;subst e;exact a0z hN hi hx (a0m a2K (a6k hi hv hd hcd) (b3l hq)) (by rfl) hf
  ·cases h
 ·cases h
end
end L2
namespace K94
open PySem L2
def spl:List Nat->List (List Nat)
 | []=>[[]]
 | c :: l=>if c=32 then [] :: spl l else match spl l with
  | []=>[[c]]
  | a :: r=>(c :: a) :: r
theorem b1M:∀ l,spl l≠[]
 | []=>by intro h;cases h
 | c :: l=>by
  unfold spl;split
  ·intro h;cases h
  ·split <;> (intro h;cases h)
theorem b1N:∀ l,jn 32 (spl l)=l
 | []=>rfl
 | c :: l=>by
  have ih:=b1N l;have ne:=b1M l;unfold spl;cases h:spl l with
  | nil=>exact absurd h ne
  | cons a r =>
   rw [h] at ih;split
   ·rename_i e;subst e;show []++32 :: jn 32 (a :: r)=_;rw [ih];rfl
   ·cases r with
    | nil=>show c :: a=c :: l;rw [<-ih];rfl
    | cons b r=>show c :: a++32 :: jn 32 (b :: r)=c :: l;rw [<-ih];rfl
theorem a6I:∀ l,∀ b∈spl l,32∉b
 | []=>λb hb=>by rw [List.mem_singleton.mp hb];intro h;cases h
 | c :: l=>λb hb=>by
  have ih:=a6I l;unfold spl at hb;split at hb
  ·rcases List.mem_cons.mp hb with rfl | h
   ·intro h;cases h
   ·exact ih b h
  ·rename_i hc;split at hb
   ·rw [List.mem_singleton.mp hb];intro h;exact hc (List.mem_singleton.mp h).symm
   ·rename_i a r e;rw [e] at ih;rcases List.mem_cons.mp hb with rfl | h
    ·intro h;rcases List.mem_cons.mp h with h | h
     ·exact hc h.symm
     ·exact ih a (.head _) h
    ·exact ih b (.tail _ h)
theorem a6e:∀ {a:List Nat},32∉a->spl a=[a]
 | [],_=>rfl
 | c :: a,h=>by
  unfold spl;rw [if_neg (λe=>h (by rw [e];exact .head _)),a6e (a:=a) λx=>h (.tail _ x)]
theorem a4Y:∀ {a l:List Nat},32∉a->spl (a++32 :: l)=a :: spl l
 | [],l,_=>by show spl (32 :: l)=_;rw [spl,if_pos rfl]
 | c :: a,l,h=>by
  show spl (c :: (a++32 :: l))=_;rw [spl,if_neg (λe=>h (by rw [e];exact .head _)),a4Y (a:=a) λx=>h (.tail _ x)]
theorem a1Q (z:Str):Txt.split z sp=(spl z.cps.toList).map S:=by
 rw [sp_is];exact a4O (b1M _) (a6I _) (b1N _).symm
theorem a9u:∀ l,∀ b∈spl l,b.length<=l.length/\∀ c∈b,c∈l
 | []=>λb hb=>by rw [List.mem_singleton.mp hb];exact ⟨Nat.le_refl _,λ_ h=>h⟩
 | c :: l=>λb hb=>by
  have ih:=a9u l;unfold spl at hb;split at hb
  ·rcases List.mem_cons.mp hb with rfl | h
   ·exact ⟨Nat.zero_le _,λ_ h=>by cases h⟩
   ·exact ⟨Nat.le_succ_of_le (ih b h).1,λx hx=>.tail _ ((ih b h).2 x hx)⟩
  ·split at hb
   ·rw [List.mem_singleton.mp hb];exact ⟨by simp,λx hx=>by rw [List.mem_singleton.mp hx];exact .head _⟩
   ·rename_i a r e;rw [e] at ih;rcases List.mem_cons.mp hb with rfl | h
    ·exact ⟨Nat.succ_le_succ (ih a (.head _)).1,λx hx=>by
      rcases List.mem_cons.mp hx with rfl | hx
      ·exact .head _
      ·exact .tail _ ((ih a (.head _)).2 x hx)⟩
    ·exact ⟨Nat.le_succ_of_le (ih b (.tail _ h)).1,λx hx=>.tail _ ((ih b (.tail _ h)).2 x hx)⟩
theorem a9v:∀ l,1<=(spl l).length/\(spl l).length<=l.length+1
 | []=>⟨Nat.le_refl _,Nat.le_refl _⟩
 | c :: l=>by
  have ih:=a9v l;unfold spl;split
  ·rw [List.length_cons,List.length_cons];omega
  ·split
   ·rw [List.length_cons,List.length_cons,List.length_nil];omega
   ·rename_i a r e;rw [e,List.length_cons] at ih;rw [List.length_cons,List.length_cons];omega
def Tx (n:Nat) (z:Str):Prop:=z.length<=n/\∀ c∈z.cps.toList,c < 128
theorem Tx.app {a b:Nat} {x y:Str} (h:Tx a x) (k:Tx b y):Tx (a+b) (x++y):=⟨by have:(x++y).length=x.length+y.length:=Array.size_append;have:=h.1;have:=k.1;omega,λc hc=>by rw [a1i] at hc;rcases List.mem_append.mp hc with z | z;exact h.2 c z;exact k.2 c z⟩
theorem Tx.mono {a b:Nat} {x:Str} (h:Tx a x) (k:a<=b):Tx b x:=⟨Nat.le_trans h.1 k,h.2⟩
theorem a6f {m:Nat} {z:Str} (h:Nm m z):Tx m z:=⟨h.len,λc hc=>by have:=h.lo c hc;omega⟩
theorem wo_of {z:Str} (h:Tx 200 z):Wo (Txt.split z sp):=by
 rw [a1Q];have l0:z.cps.toList.length=z.length:=Array.length_toList;have:=a9v z.cps.toList;have:=h.1;refine ⟨by rw [List.length_map];omega,by rw [List.length_map];omega,λy hy=>?_⟩;obtain ⟨b,hb,rfl⟩:=List.mem_map.mp hy;have q:=a9u _ b hb;refine ⟨a8M λc hc=>?_,by rw [a5W];omega⟩;rw [a7h] at hc;exact h.2 c (q.2 c hc)
abbrev qBR:Str:=Str.ofString "BadRow"
abbrev qBN:Str:=Str.ofString "BadName"
abbrev qBU:Str:=Str.ofString "BadNumber"
def Rw (z:Str):Prop:=Tx 200 z/\isQ (Txt.split z sp)=false
def Gq (sg nm:List Str) (z due:Str):Prop:=Tx 200 z/\((due=qBR/\isQ (Txt.split z sp)=false)\/(due=qBN/\isQ (Txt.split z sp)=true/\kn sg nm (Txt.split z sp)=false)\/(due=qBU/\isQ (Txt.split z sp)=true/\kn sg nm (Txt.split z sp)=true/\bigQ (Txt.split z sp)))
def kRef:Str:=Str.ofString "refused "
theorem gq_ans {sg nm:List Str} {z due:Str} (h:Gq sg nm z due):kRef++due=ansS sg nm (Txt.split z sp)/\(isQ (Txt.split z sp)=true->kn sg nm (Txt.split z sp)=true->bigQ (Txt.split z sp))/\due.length<=20:=by
 obtain ⟨_,h⟩:=h;unfold ansS;rcases h with ⟨rfl,h⟩ | ⟨rfl,h1,h2⟩ | ⟨rfl,h1,h2,h3⟩
 ·rw [if_pos h];exact ⟨by decide +kernel,(λq=>by rw [h] at q;cases q),by decide +kernel⟩
 ·rw [if_neg (by rw [h1];decide),if_pos h2];exact ⟨by decide +kernel,(λ_ q=>by rw [h2] at q;cases q),by decide +kernel⟩
 ·rw [if_neg (by rw [h1];decide),if_neg (by rw [h2];decide)];exact ⟨by decide +kernel,λ_ _=>h3,by decide +kernel⟩
def txB (z:Str):Bool:=decide (z.length<=200) && z.cps.toList.all λc=>decide (c < 128)
theorem tx_b {z:Str} (h:txB z=true):Tx 200 z:=by
 unfold txB at h;have h:=(Bool.and_eq_true _ _).mp h;exact ⟨of_decide_eq_true h.1,λc hc=>of_decide_eq_true (List.all_eq_true.mp h.2 c hc)⟩
def rwB (z:Str):Bool:=txB z && !isQ ((spl z.cps.toList).map S)
theorem rw_b {z:Str} (h:rwB z=true):Rw z:=by
 unfold rwB at h;have h:=(Bool.and_eq_true _ _).mp h;refine ⟨tx_b h.1,?_⟩;rw [a1Q];exact a1j h.2
theorem a4f {k x:Str} {u:List Nat} (hk:k.cps.toList=u++[32]) (hu:32∉u) (hx:32∉x.cps.toList):Txt.split (k++x) sp=[S u,x]:=by
 rw [a1Q,a1i,hk,List.append_assoc];show (spl (u++32 :: x.cps.toList)).map S=_;rw [a4Y hu,a6e hx];rfl
theorem a4g {k x y:Str} {u:List Nat} (hk:k.cps.toList=u++[32]) (hu:32∉u) (hx:32∉x.cps.toList) (hy:32∉y.cps.toList):Txt.split (k++x++sp++y) sp=[S u,x,y]:=by
 rw [a1Q,a1i,a1i,a1i,hk,sp_c];have:(u++[32]++x.cps.toList++[32]++y.cps.toList)=u++32 :: (x.cps.toList++32 :: y.cps.toList):=by simp
 rw [this,a4Y hu,a4Y hx,a6e hy];rfl
theorem a5H {m:Nat} {z:Str} (h:Nm m z):32∉z.cps.toList/\0 < z.length:=by
 refine ⟨λhc=>by have:=h.lo 32 hc;omega,?_⟩;have:=h.l1;rw [Array.length_toList] at this;exact this
theorem full2 {a b:Str} (h1:0 < a.length) (h2:0 < b.length):full [a,b]=true:=by
 unfold full;rw [List.all_cons,List.all_cons,decide_eq_true h1,decide_eq_true h2];rfl
theorem full3 {a b c:Str} (h1:0 < a.length) (h2:0 < b.length) (h3:0 < c.length):full [a,b,c]=true:=by
 unfold full;rw [List.all_cons,List.all_cons,List.all_cons,decide_eq_true h1,decide_eq_true h2,decide_eq_true h3];rfl
abbrev a4Z:Str:=Str.ofString "what "
abbrev a4o:Str:=Str.ofString "sure "
abbrev b3m:Str:=Str.ofString "weight "
abbrev b3n:Str:=Str.ofString "price "
abbrev a6J:Str:=Str.ofString "write "
abbrev a9J:Str:=Str.ofString "read "
def ws (k:Str):List Nat:=k.cps.toList.dropLast
theorem a9w:∀ k∈[a4Z,a4o,b3m,b3n,a6J,a9J],k.cps.toList=ws k++[32]/\32∉ws k/\Tx 7 k/\0 < (S (ws k)).length:=by
 have:∀ k∈[a4Z,a4o,b3m,b3n,a6J,a9J],decide (k.cps.toList=ws k++[32]) && decide (32∉ws k) && decide (k.length<=7) && (k.cps.toList.all λc=>decide (c < 128)) && decide (0 < (S (ws k)).length):=by decide +kernel
 intro k hk;have h:=this k hk;simp only [Bool.and_eq_true,decide_eq_true_eq,List.all_eq_true] at h;exact ⟨h.1.1.1.1,h.1.1.1.2,⟨h.1.1.2,h.1.2⟩,h.2⟩
theorem b3o {z:Str} (h:Nm 8 z):Rw (a4Z++z):=by
 obtain ⟨e,f,t,p⟩:=a9w a4Z (by simp);refine ⟨(t.app (a6f h)).mono (by decide),?_⟩;rw [a4f e f (a5H h).1];unfold isQ;have:decide (S (ws a4Z)=a3o)=false/\decide (S (ws a4Z)∈wword)=false/\decide (S (ws a4Z)∈wnum)=false:=by decide +kernel
 dsimp only;rw [this.1,this.2.1,this.2.2];exact Bool.and_false _
theorem a6K {k z:Str} (hk:k=a4o\/k=a9J) (h:Nm 8 z):Rw (k++z++sp++z):=by
 obtain ⟨e,f,t,p⟩:=a9w k (by rcases hk with rfl | rfl <;> simp);refine ⟨(((t.app (a6f h)).app (b:=1) ⟨by decide +kernel,by rw [sp_c];decide⟩).app (a6f h)).mono (by decide),?_⟩;rw [a4g e f (a5H h).1 (a5H h).1];unfold isQ;have:decide (S (ws k)=a3o)=false:=by rcases hk with rfl | rfl <;> decide +kernel
 dsimp only;rw [this];exact Bool.and_false _
structure Odd (sg nm:List Str) (z:Str):Prop where
 t:Tx 20 z
 p:0 < z.length
 s:32∉z.cps.toList
 ns:z∉sg
 nn:z∉nm
theorem b1O {sg nm:List Str} {ps ws:List Int} (B:Bk sg ps nm ws) {z:Str} (t:Tx 20 z) (p:0 < z.length) (s:32∉z.cps.toList) (h:(∃ c∈z.cps.toList,¬ (97<=c/\c<=122))\/9<=z.length):Odd sg nm z:=by
 have key:∀ m,m<=8->¬ Nm m z:=λm hm k=>by
  rcases h with ⟨c,hc,hn⟩ | h
  ·exact hn (k.lo c hc)
  ·have:=k.len;omega
 exact ⟨t,p,s,λhm=>key 1 (by decide) (B.os z hm),λhm=>key 8 (by decide) (B.on z hm)⟩
theorem a6L {sg nm:List Str} {k z:Str} (hk:k=a4o\/k=b3m\/k=b3n\/k=a6J) (h:Odd sg nm z):Gq sg nm (k++z) qBN:=by
 obtain ⟨e,f,t,p⟩:=a9w k (by rcases hk with rfl | rfl | rfl | rfl <;> simp);refine ⟨(t.app h.t).mono (by decide),.inr (.inl ⟨rfl,?_,?_⟩)⟩
 ·rw [a4f e f h.s];unfold isQ;rw [full2 p h.p];have:(decide (S (ws k)=a3o) || decide (S (ws k)∈wword))=true:=by rcases hk with rfl | rfl | rfl | rfl <;> decide +kernel
  dsimp only;rw [Bool.true_and,List.isEmpty_nil,Bool.true_and,<-Bool.or_assoc,this,Bool.true_or]
 ·rw [a4f e f h.s];unfold kn;dsimp only [List.headD_cons];rcases hk with rfl | rfl | rfl | rfl
  ·rw [if_neg (by decide +kernel),if_neg (by decide +kernel),if_neg (by decide +kernel)];simp [h.nn]
  ·rw [if_neg (by decide +kernel),if_neg (by decide +kernel),if_neg (by decide +kernel)];simp [h.nn]
  ·rw [if_pos (by decide +kernel)];exact decide_eq_false h.ns
  ·rw [if_neg (by decide +kernel),if_neg (by decide +kernel),if_neg (by decide +kernel)];simp [h.nn]
theorem b0T {sg nm:List Str} {n0 z:Str} (h0:Nm 8 n0) (h:Odd sg nm z):Gq sg nm (a6J++n0++sp++z) qBN:=by
 obtain ⟨e,f,t,p⟩:=a9w a6J (by simp);refine ⟨(((t.app (a6f h0)).app (b:=1) ⟨by decide +kernel,by rw [sp_c];decide⟩).app h.t).mono (by decide),.inr (.inl ⟨rfl,?_,?_⟩)⟩
 ·rw [a4g e f (a5H h0).1 h.s];unfold isQ;rw [full3 p (a5H h0).2 h.p];have:decide (S (ws a6J)=a3o)=true:=by decide +kernel
  dsimp only;rw [this];rfl
 ·rw [a4g e f (a5H h0).1 h.s];unfold kn;dsimp only;rw [if_neg (by decide +kernel),if_neg (by decide +kernel),if_neg (by decide +kernel)];simp [h.nn]
theorem a5a {sg nm:List Str} {ps wt:List Int} (B:Bk sg ps nm wt) {z:Str} (t:Tx 20 z) (p:0 < z.length) (s:32∉z.cps.toList) (h:∃ c∈z.cps.toList,¬ (97<=c/\c<=122)):Gq sg nm (a9J++z) qBN:=by
 obtain ⟨e,f,tk,pk⟩:=a9w a9J (by simp);refine ⟨(tk.app t).mono (by decide),.inr (.inl ⟨rfl,?_,?_⟩)⟩
 ·rw [a4f e f s];unfold isQ;rw [full2 pk p];have:(decide (S (ws a9J)=a3o) || decide (S (ws a9J)∈wword))=true:=by decide +kernel
  dsimp only;rw [Bool.true_and,List.isEmpty_nil,Bool.true_and,<-Bool.or_assoc,this,Bool.true_or]
 ·rw [a4f e f s];unfold kn;dsimp only [List.headD_cons];rw [if_neg (by decide +kernel),if_pos (by decide +kernel)];obtain ⟨c,hc,hn⟩:=h;rw [List.all_eq_false];refine ⟨c,hc,λq=>?_⟩;have q:=of_decide_eq_true q;exact hn ((B.os _ q).lo c (by show c∈[c];exact .head _))
theorem a6g:∀ zn∈[(Str.ofString "bounded 25",a5F,Str.ofString "25",(25:Int)),(Str.ofString "bounded "++reS (Str.ofString "9") 40,a5F,reS (Str.ofString "9") 40,10 ^ 40 - 1),(Str.ofString "code "++reS (Str.ofString "9") 40,b0S,reS (Str.ofString "9") 40,10 ^ 40 - 1)],
  txB zn.1=true/\(spl zn.1.cps.toList).map S=[zn.2.1,zn.2.2.1]/\isQ [zn.2.1,zn.2.2.1]=true/\PySem.intText? zn.2.2.1=some zn.2.2.2/\zn.2.2.1.length<=40/\decide (zn.2.1∈wnum)=true/\((zn.2.1=b0S/\b1G<=zn.2.2.2)\/(zn.2.1=a5F/\24 < zn.2.2.2)):=by
 intro zn hz;simp only [List.mem_cons,List.not_mem_nil,or_false] at hz;rcases hz with rfl | rfl | rfl
 ·exact ⟨by decide +kernel,by decide +kernel,by decide +kernel,by decide +kernel,by decide +kernel,by decide +kernel,.inr ⟨rfl,by decide⟩⟩
 ·exact ⟨by decide +kernel,by decide +kernel,by decide +kernel,by decide +kernel,by decide +kernel,by decide +kernel,.inr ⟨rfl,by decide⟩⟩
 ·exact ⟨by decide +kernel,by decide +kernel,by decide +kernel,by decide +kernel,by decide +kernel,by decide +kernel,.inl ⟨rfl,by unfold b1G;decide⟩⟩
theorem a9x {sg nm:List Str} {z a b:Str} {n:Int} (h:txB z=true/\(spl z.cps.toList).map S=[a,b]/\isQ [a,b]=true/\PySem.intText? b=some n/\b.length<=40/\decide (a∈wnum)=true/\((a=b0S/\b1G<=n)\/(a=a5F/\24 < n))):Gq sg nm z qBU:=by
 obtain ⟨h1,h2,h3,h4,h5,h6,h7⟩:=h;refine ⟨tx_b h1,.inr (.inr ⟨rfl,?_,?_,?_⟩)⟩
 ·rw [a1Q,h2];exact h3
 ·rw [a1Q,h2];unfold kn;dsimp only;have h6:=of_decide_eq_true h6;rcases h7 with ⟨rfl,_⟩ | ⟨rfl,_⟩
  ·rw [if_neg (by decide +kernel),if_neg (by decide +kernel),if_pos h6]
  ·rw [if_neg (by decide +kernel),if_neg (by decide +kernel),if_pos h6]
 ·rw [a1Q,h2];refine ⟨b,n,h4,h5,?_⟩;rcases h7 with ⟨rfl,h⟩ | ⟨rfl,h⟩
  ·exact .inl ⟨rfl,h⟩
  ·exact .inr ⟨rfl,h⟩
inductive MT
 | c (s:Str)
 | h (i:Int)
 | a (x y:MT)
def a6h:Expr->Option MT
 | .Constant (.str s) _ _=>some (.c s)
 | .Subscript (.Subscript (.Name x _) (.Constant (.int i) _ _) _) (.Constant (.int j) _ _) _=>if x=("book":Str)/\j=0 then some (.h i) else none
 | .BinOp x .Add y _=>match a6h x,a6h y with
  | some a,some b=>some (.a a b)
  | _,_=>none
 | _=>none
def MT.den (s0 n0:Str):MT->Str
 | .c s=>s
 | .h i=>if i=0 then s0 else n0
 | .a x y=>x.den s0 n0++y.den s0 n0
def MT.len:MT->Nat
 | .c s=>s.length
 | .h _=>8
 | .a x y=>x.len+y.len
def MT.fit:MT->Bool
 | .c _=>true
 | .h i=>decide (i=0\/i=2)
 | .a x y=>x.fit && y.fit
def BH (K:PySem.W.Frag) (H:Hp) (p:Addr) (s0 n0:Str):Prop:=s0.length<=8/\n0.length<=8/\∃ b1 b2 b3 b4 sg nm,H p=some (.tup [.ref b1,.ref b2,.ref b3,.ref b4])/\H b1=some (.tup ((s0 :: sg).map V.str))/\H b3=some (.tup ((n0 :: nm).map V.str))
theorem a5b {s0 n0:Str} (h1:s0.length<=8) (h2:n0.length<=8):∀ m:MT,(m.den s0 n0).length<=m.len
 | .c s=>Nat.le_refl _
 | .h i=>by
  show (if i=0 then s0 else n0).length<=8;split <;> assumption
 | .a x y=>by
  have:=a5b h1 h2 x;have:=a5b h1 h2 y;have e:(x.den s0 n0++y.den s0 n0).length=(x.den s0 n0).length+(y.den s0 n0).length:=Array.size_append;show (x.den s0 n0++y.den s0 n0).length<=x.len+y.len;omega
def tMT (K:PySem.W.Frag) (m:MT):TE:=λσ H Q=>∃ p s0 n0,σ[0]?=some (some (.ref p))/\BH K H p s0 n0/\m.fit=true/\m.len<=900/\Q (.str (m.den s0 n0)) H
section
variable {X:Cx}
theorem mt_c {e:Expr} {s:Str} (h:a6h e=some (.c s)):∃ k p,e=.Constant (.str s) k p:=by
 unfold a6h at h;split at h
 ·cases h;exact ⟨_,_,rfl⟩
 ·split at h <;> cases h
 ·split at h <;> cases h
 ·cases h
theorem mt_h {e:Expr} {i:Int} (h:a6h e=some (.h i)):∃ p1 k1 p2 p3 k2 p4 p5,e=.Subscript (.Subscript (.Name ("book":Str) p1) (.Constant (.int i) k1 p2) p3) (.Constant (.int 0) k2 p4) p5:=by
 unfold a6h at h;split at h
 ·cases h
 ·split at h
  ·rename_i c;cases h;rw [c.1,c.2];exact ⟨_,_,_,_,_,_,_,rfl⟩
  ·cases h
 ·split at h <;> cases h
 ·cases h
theorem mt_a {e:Expr} {x y:MT} (h:a6h e=some (.a x y)):∃ a b p,e=.BinOp a .Add b p/\a6h a=some x/\a6h b=some y:=by
 unfold a6h at h;split at h
 ·cases h
 ·split at h <;> cases h
 ·split at h
  ·rename_i h1 h2;cases h;exact ⟨_,_,_,rfl,h1,h2⟩
  ·cases h
 ·cases h
theorem b3p (hN:X.N[0]?=some ("book":Str)) (hv:Vis X.env.scope ("book":Str)):∀ (m:MT) {e:Expr},a6h e=some m->PE X e (tMT X.K m)
 | .c s,e,h=>by
  obtain ⟨k,p,rfl⟩:=mt_c h;exact a0i.imp λσ H Q ⟨p,s0,n0,_,_,_,_,q⟩=>q
 | .h i,e,h=>by
  obtain ⟨p1,k1,p2,p3,k2,p4,p5,rfl⟩:=mt_h h;refine (a0n a0C (a0n a0C (a6k hN hv) a0d (λ_ _=>rfl)) a0d (λ_ _=>rfl)).imp λσ H Q ⟨p,s0,n0,e0,⟨l1,l2,b1,b2,b3,b4,sg,nm,h0,h1,h3⟩,f,_,q⟩=>?_;have f:i=0\/i=2:=of_decide_eq_true f;rcases f with rfl | rfl
  ·exact ⟨_,e0,p,_,_,_,rfl,rfl,SqT.of h0,(rfl:atI [V.ref b1,.ref b2,.ref b3,.ref b4] 0=some (.ref b1)),b1,_,_,_,rfl,rfl,SqT.of h1,a1t (j:=0) rfl,q⟩
  ·exact ⟨_,e0,p,_,_,_,rfl,rfl,SqT.of h0,(rfl:atI [V.ref b1,.ref b2,.ref b3,.ref b4] 2=some (.ref b3)),b3,_,_,_,rfl,rfl,SqT.of h3,a1t (j:=0) rfl,q⟩
 | .a x y,e,h=>by
  obtain ⟨a,b,p,rfl,h1,h2⟩:=mt_a h;refine (a0m a0A (b3p hN hv x h1) (b3p hN hv y h2)).imp λσ H Q ⟨p,s0,n0,e0,bh,f,l,q⟩=>?_;have f:=(Bool.and_eq_true _ _).mp f;have l:x.len+y.len<=900:=l;have:=a5b bh.1 bh.2.1 x;have:=a5b bh.1 bh.2.1 y;exact ⟨p,s0,n0,e0,bh,f.1,by omega,p,s0,n0,e0,bh,f.2,by omega,_,_,rfl,rfl,a3t (by omega),q⟩
def a7v:List Expr->Option (List MT)
 | []=>some []
 | e :: es=>match a6h e,a7v es with
  | some m,some ms=>some (m :: ms)
  | _,_=>none
def tMTs (K:PySem.W.Frag):List MT->TA
 | []=>b2e
 | m :: ms=>a7L (tMT K m) (tMTs K ms)
theorem b3q {e:Expr} {es:List Expr} {m:MT} (h:a6h e=some m):starEach (e :: es) X.env=(false,eval e X.env) :: starEach es X.env:=by
 unfold a6h at h;split at h
 ·rfl
 ·rfl
 ·rfl
 ·cases h
theorem b1P (hN:X.N[0]?=some ("book":Str)) (hv:Vis X.env.scope ("book":Str)):∀ {es:List Expr} {ms:List MT},a7v es=some ms->PA X es (tMTs X.K ms)
 | [],ms,h=>by cases h;exact a0f
 | e :: es,ms,h=>by
  unfold a7v at h;cases h1:a6h e with
  | none=>rw [h1] at h;cases h
  | some m =>
   cases h2:a7v es with
   | none=>rw [h1,h2] at h;cases h
   | some ms' =>
    rw [h1,h2] at h;cases h;exact a0a (b3p hN hv m h1) (b1P hN hv h2) (b3q h1)
theorem a9y {K:PySem.W.Frag}:∀ (ms:List MT) {σ:St} {H:Hp} {Q:List V->Hp->Prop} {p:Addr} {s0 n0:Str},σ[0]?=some (some (.ref p))->BH K H p s0 n0->(ms.all λm=>m.fit && decide (m.len<=900))=true->Q ((ms.map (MT.den s0 n0)).map V.str) H->tMTs K ms σ H Q
 | [],σ,H,Q,p,s0,n0,_,_,_,h=>h
 | m :: ms,σ,H,Q,p,s0,n0,e0,bh,f,h=>by
  rw [List.all_cons,Bool.and_eq_true,Bool.and_eq_true] at f;exact ⟨p,s0,n0,e0,bh,f.1.1,of_decide_eq_true f.1.2,a9y ms e0 bh f.2 h⟩
def tML (K:PySem.W.Frag) (ms:List MT):TE:=λσ H Q=>∃ p s0 n0,σ[0]?=some (some (.ref p))/\BH K H p s0 n0/\(ms.all λm=>m.fit && decide (m.len<=900))=true/\ms.length<=1000/\∀ d H',a0E H H'->H d=none->H' d=some (.lst ((ms.map (MT.den s0 n0)).map V.str))->Q (.ref d) H'
def b3D:Stmt->Option (Str × List MT)
 | .Assign [.Name x _] (.BinOp (.Name y _) .Add (.List es _) _) _=>if x=y then (a7v es).map λq=>(x,q) else none
 | _=>none
theorem a9z (i:Nat) (st:Stmt) {x:Str} (qs:List MT) (h:b3D st=some (x,qs)) (hN:X.N.Nodup) (hi:X.N[i]?=some x) (hx:Loc X.env.scope x) (hf:X.fn x=true\/X.env.scope.names.lookup x=some .local) (hv:Vis X.env.scope x) (hb:X.N[0]?=some ("book":Str)) (hvb:Vis X.env.scope ("book":Str)) (hd:(x == ("__debug__":Str))=false) (hcd:(x == ("__classdict__":Str))=false) :
  PS X st (a7A (tOp rCat (tVar i) (tML X.K qs)) (a1E i)):=by
 unfold b3D at h;split at h
 ·rename_i y p0 z p1 es lp pos p2;split at h
  ·rename_i e;cases hq:a7v es with
   | none=>rw [hq] at h;cases h
   | some q =>
    rw [hq] at h;cases h;subst e;refine a0z hN hi hx (a0m a2K (a6k hi hv hd hcd) ?_) (by rfl) hf;refine (a0W (b1P hb hvb hq)).imp λσ H Q ⟨p,s0,n0,e0,bh,f,l,q⟩=>?_;refine a9y _ e0 bh f ⟨Nat.le_of_lt (a0p (by rw [List.length_map,List.length_map];exact l)),λd hd=>?_⟩;exact q d _ (a0g hd _) hd a0b
  ·cases h
 ·cases h
end
abbrev qS (i:Nat):Stmt:=(a0o a2y).getD i (.Pass ⟨0,0,0,0⟩)
def qc0:List Str:=((a3f (qS 0)).getD (Str.empty,[])).2
def qc1:List Str:=((a5G (qS 1)).getD (Str.empty,[])).2
def qm2:List MT:=[.c (Str.ofString "sure"),.c (Str.ofString "price"),.c (Str.ofString "weight"),.c (Str.ofString "write"),.c (Str.ofString "read"),.c (Str.ofString "write "),.c (Str.ofString "read "),.a (.c a4Z) (.h 2),.c (Str.ofString "cost\n")]
def qm3:List MT:=[.a (.a (.a (.c a4o) (.h 2)) (.c sp)) (.h 2),.a (.a (.a (.c a9J) (.h 0)) (.c sp)) (.h 0)]
theorem q_h0:a3f (qS 0)=some (("rows":Str),qc0):=by rfl
theorem q_h1:a5G (qS 1)=some (("rows":Str),qc1):=by rfl
theorem q_h2:b3D (qS 2)=some (("rows":Str),qm2):=by rfl
theorem q_h3:b3D (qS 3)=some (("rows":Str),qm3):=by rfl
theorem q_len:qc0.length<=12/\qc1.length<=7/\0 < qc0.length:=by decide +kernel
theorem q_c:∀ z∈qc0++qc1,rwB z=true:=by decide +kernel
theorem q_m2 {s0 n0:Str} (h:Nm 8 n0):∀ z∈qm2.map (MT.den s0 n0),Rw z:=λz hz=>by
 have hz:z∈[Str.ofString "sure",Str.ofString "price",Str.ofString "weight",Str.ofString "write",Str.ofString "read",Str.ofString "write ",Str.ofString "read ",a4Z++n0,Str.ofString "cost\n"]:=hz;simp only [List.mem_cons,List.not_mem_nil,or_false] at hz;rcases hz with rfl | rfl | rfl | rfl | rfl | rfl | rfl | rfl | rfl
 all_goals first
  | exact b3o h
  | exact rw_b (by decide +kernel)
theorem q_m3 {s0 n0:Str} (h0:Nm 1 s0) (h:Nm 8 n0):∀ z∈qm3.map (MT.den s0 n0),Rw z:=λz hz=>by
 have hz:z∈[a4o++n0++sp++n0,a9J++s0++sp++s0]:=hz;simp only [List.mem_cons,List.not_mem_nil,or_false] at hz;rcases hz with rfl | rfl
 ·exact a6K (.inl rfl) h
 ·exact a6K (.inr rfl) (h0.le (by decide))
def Ask (sg nm:List Str) (H:Hp) (x:V):Prop:=∃ t z due,x=.ref t/\H t=some (.tup [.str z,.str due])/\Gq sg nm z due
theorem Ask.ke {sg nm:List Str} {H H':Hp} {x:V} (k:KeT H H') (h:Ask sg nm H x):Ask sg nm H' x:=by
 obtain ⟨t,z,due,rfl,e,g⟩:=h;exact ⟨t,z,due,rfl,k _ _ e,g⟩
def AL (sg nm:List Str) (H:Hp) (a:Addr) (n:Nat):Prop:=∃ xs,H a=some (.lst xs)/\xs.length<=n/\0 < xs.length/\∀ x∈xs,Ask sg nm H x
theorem AL.app {sg nm:List Str} {H H':Hp} {a p:Addr} {n m:Nat} {xs ys:List V} (hx:H a=some (.lst xs)) (lx:xs.length<=n) (px:0 < xs.length) (hA:∀ x∈xs,Ask sg nm H x) (k:KeT H H') (hp:H' p=some (.lst (xs++ys))) (ly:ys.length<=m) (hy:∀ y∈ys,Ask sg nm H' y):AL sg nm H' p (n+m) :=
 ⟨_,hp,by rw [List.length_append];omega,by rw [List.length_append];omega,λx hx=>by
  rcases List.mem_append.mp hx with z | z
  ·exact (hA x z).ke k
  ·exact hy x z⟩
section
variable {P:Program} {w:World} {K:PySem.W.Frag} {mg:Str->Option Value} {base:Heap} {f:Addr} {fd:FuncData}
abbrev NQu:List Str:=["book","cell","rows","asked","name","text"]
def spQu:Sp:=λvs H Q _=>∃ (p:Addr) (c:Int) (sg nm:List Str) (q:Pw),vs=[.ref p,.int c]/\a9F H p sg q.1 nm q.2/\Bk5 sg q.1 nm q.2/\∀ (t:Addr) (z due:Str) H',a0E H H'->H' t=some (.tup [.str z,.str due])->Gq sg nm z due->Q (.ref t) H'
theorem a9A:a0u NQu ["book","cell"] (a0e a2y):=⟨rfl,rfl,rfl,by decide +kernel,rfl,by decide +kernel,by decide +kernel⟩
theorem ndQu:(("row":Str) :: NQu).Nodup:=by decide +kernel
abbrev z9:Str:=Str.ofString "zzzzzzzzz"
theorem a2d (a b:Str):(a++b).length=a.length+b.length:=Array.size_append
theorem odd_c {sg nm:List Str} {ps ws:List Int} (B:Bk sg ps nm ws):∀ z∈[Str.ofString "A",Str.ofString "a1",Str.ofString ".",Str.ofString "-"],Odd sg nm z:=by
 have:∀ z∈[Str.ofString "A",Str.ofString "a1",Str.ofString ".",Str.ofString "-"],(decide (z.length<=20) && decide (0 < z.length) && decide (32∉z.cps.toList) && (z.cps.toList.all λc=>decide (c < 128)) && z.cps.toList.any λc=>decide (¬ (97<=c/\c<=122)))=true:=by decide +kernel
 intro z hz;have h:=this z hz;simp only [Bool.and_eq_true,decide_eq_true_eq,List.all_eq_true,List.any_eq_true] at h;obtain ⟨⟨⟨⟨a,b⟩,c⟩,d⟩,e⟩:=h;exact b1O B ⟨a,d⟩ b c (.inl e)
theorem odd_n {sg nm:List Str} {ps ws:List Int} (B:Bk sg ps nm ws) {n0:Str} (h:Nm 8 n0):Odd sg nm (n0++z9):=by
 have l9:z9.length=9:=by decide +kernel
 have t9:∀ c∈z9.cps.toList,c < 128/\c≠32:=by decide +kernel
 refine b1O B (((a6f h).app (b:=9) ⟨by omega,λc hc=>(t9 c hc).1⟩).mono (by decide)) (by rw [a2d];omega) ?_ (.inr (by rw [a2d];omega));rw [a1i];intro hc;rcases List.mem_append.mp hc with z | z
 ·exact (a5H h).1 z
 ·exact (t9 32 z).2 rfl
theorem ok_qu (F:Fun K "_law_question" "_law_question" a2y f fd) (ml:mg "len"=none):a1a P w K mg base CX0 1 f fd ["book","cell"] spQu:=by
 refine F.ok (k:=0) a9A (λvs H Q E h=>?_) (λcdv A outer s H vs Q E hr h=>?_)
 ·obtain ⟨p,c,sg,nm,q,rfl,_⟩:=h;rfl
 obtain ⟨p,c,sg,nm,q,rfl,⟨b1,b2,b3,b4,g0,g1,g2,g3,g4⟩,B,qq⟩:=h;have key:∀ st0 st1 st2 st3:Stmt,a3f st0=some (("rows":Str),qc0)->a5G st1=some (("rows":Str),qc1)->b3D st2=some (("rows":Str),qm2)->b3D st3=some (("rows":Str),qm3)->∃ t,PSs (a7N CX0 P w K mg base NQu (Str.ofString "_law_question") (a0e a2y) f cdv A outer s H E).nox (st0 :: st1 :: st2 :: st3 :: (a0o a2y).drop 4) t/\t { nx:=λx H'=>Q V.non H',rt:=Q } (L2.start NQu [V.ref p,V.int c]) H:=by
  intro st0 st1 st2 st3 h0 h1 h2 h3;refine ⟨_,a0c (b1q 2 _ qc0 h0 a9A.nd rfl (Or.inl rfl) (Or.inl rfl))
   (a0c (ps_cat 2 _ qc1 h1 a9A.nd rfl (Or.inl rfl) (Or.inl rfl) (Or.inl rfl) (by decide) (by decide))
   (a0c (a9z 2 _ qm2 h2 a9A.nd rfl (Or.inl rfl) (Or.inl rfl) (Or.inl rfl) rfl (Or.inl rfl) (by decide) (by decide))
   (a0c (a9z 2 _ qm3 h3 a9A.nd rfl (Or.inl rfl) (Or.inl rfl) (Or.inl rfl) rfl (Or.inl rfl) (by decide) (by decide))
   (a0c (a2N (i:=3) (M:=NQu) a9A.nd rfl rfl rfl (a0l.of (a0e a2y) NQu rfl rfl rfl (by decide +kernel) (by decide +kernel) (by decide +kernel) rfl (by decide +kernel)) ndQu rfl (pv 2) a0R (λcl C s0 H0 fp=>⟨a0L,a1h (a0a (pv 0) (a0a (a0i) (a0f)))⟩))
   (a0c (a1v PassesOwn.never rfl (a2U (a0W (a0a (a0i) (a0a (a0i) (a0a (a0m a0A (a0n a0C (a0n a0C (pv 0) (a0d) (λ_ _=>rfl)) (a0d) (λ_ _=>rfl)) (a0i)) (a0a (a0i) (a0a (a0i) (a0f)))))))) (a0H (i:=4) a9A.nd rfl (Or.inl rfl)) (a0c (a0z (i:=3) a9A.nd rfl (Or.inl rfl) (a0m a2K (pv 3) (a0W (a0a (a1h (a0a (a0m a0A (a0i) (pv 4)) (a0a (a0i) (a0f)))) (a0a (a1h (a0a (a0m a0A (a0i) (pv 4)) (a0a (a0i) (a0f)))) (a0a (a1h (a0a (a0m a0A (a0i) (pv 4)) (a0a (a0i) (a0f)))) (a0f)))))))
   (a0h (a0z (i:=3) a9A.nd rfl (Or.inl rfl) (a0m a2K (pv 3) (a0W (a0a (a1h (a0a (a0m a0A (a0i) (pv 4)) (a0a (a0i) (a0f)))) (a0a (a1h (a0a (a0m a0A (a0m a0A (a0m a0A (a0i) (a0n a0C (a0n a0C (pv 0) (a0d) (λ_ _=>rfl)) (a0d) (λ_ _=>rfl))) (a0i)) (pv 4)) (a0a (a0i) (a0f)))) (a0f)))))))))
   (a0c (a1v PassesOwn.never rfl (a2U (a0W (a0a (a0i) (a0a (a0i) (a0a (a0m a0A (a0n a0C (a0n a0C (pv 0) (a0d) (λ_ _=>rfl)) (a0d) (λ_ _=>rfl)) (a0i)) (a0a (a0m a0A (a0i) (a0n a0C (a0n a0C (pv 0) (a0d) (λ_ _=>rfl)) (a0d) (λ_ _=>rfl))) (a0f))))))) (a0H (i:=5) a9A.nd rfl (Or.inl rfl)) (a0h (a1f (a2u PySem.F.plainAttrs_list PySem.F.slot_list_append PySem.F.type_list_append a1e (pv 3) (a0a (a1h (a0a (a0m a0A (a0i) (pv 5)) (a0a (a0i) (a0f)))) (a0f))))))
   (a0c (a1v PassesOwn.never rfl (a2U (a0W (a0a (a0i) (a0a (a0m a0A (a0i) (a0m a4e (a0i) (a0d))) (a0a (a0m a0A (a0i) (a0m a4e (a0i) (a0d))) (a0f)))))) (a0H (i:=5) a9A.nd rfl (Or.inl rfl)) (a0h (a1f (a2u PySem.F.plainAttrs_list PySem.F.slot_list_append PySem.F.type_list_append a1e (pv 3) (a0a (a1h (a0a (pv 5) (a0a (a0i) (a0f)))) (a0f))))))
   (a0h (a0v (a0n a0k (pv 3) (a0m a0O (pv 1) (a0t a0r (by rfl) ml PySem.boot_len (a0a (pv 3) (a0f)))) (λ_ _=>rfl))))))))))),?_⟩
  obtain ⟨s0,sg',esg⟩:∃ s0 r,sg=s0 :: r:=by
   cases hs:sg with
   | nil=>exfalso;have e:=B.b.ls;have:=B.b.l2;rw [hs,List.length_nil] at e;omega
   | cons a r=>exact ⟨a,r,rfl⟩
  obtain ⟨n0,nm',enm⟩:∃ n0 r,nm=n0 :: r:=by
   cases hs:nm with
   | nil=>exfalso;have e:=B.b.ln;have:=B.b.n1;rw [hs,List.length_nil] at e;omega
   | cons a r=>exact ⟨a,r,rfl⟩
  have ns0:Nm 1 s0:=B.b.os s0 (by rw [esg];exact .head _);have nn0:Nm 8 n0:=B.b.on n0 (by rw [enm];exact .head _);have ls0:=ns0.len;have ln0:=nn0.len;have bh:∀ {H':Hp},a0E H H'->BH K H' p s0 n0:=λs'=>⟨by omega,by omega,b1,b2,b3,b4,sg',nm',s' _ _ g0,by rw [<-esg];exact s' _ _ g1,by rw [<-enm];exact s' _ _ g3⟩
  have at0:atI (nm.map V.str) 0=some (.str n0):=by rw [enm];exact a1t (j:=0) rfl
  have as0:atI (sg.map V.str) 0=some (.str s0):=by rw [esg];exact a1t (j:=0) rfl
  have i0:atI [V.ref b1,.ref b2,.ref b3,.ref b4] 0=some (.ref b1):=rfl;have i2:atI [V.ref b1,.ref b2,.ref b3,.ref b4] 2=some (.ref b3):=rfl;have rwc:∀ z∈qc0++qc1,Rw z:=λz hz=>rw_b (q_c z hz);have rm2:=q_m2 (s0:=s0) nn0;have rm3:=q_m3 ns0 nn0;have f2:(qm2.all λm=>m.fit && decide (m.len<=900))=true:=by decide +kernel
  have f3:(qm3.all λm=>m.fit && decide (m.len<=900))=true:=by decide +kernel
  have l2:qm2.length<=9:=by decide
  have l3:qm3.length<=2:=by decide
  obtain ⟨l0,l1,lp⟩:=q_len;generalize qc0=o0 at l0 lp rwc ⊢;generalize qc1=o1 at l1 rwc ⊢;have lm2:(qm2.map (MT.den s0 n0)).length<=9:=by rw [List.length_map];exact l2
  have lm3:(qm3.map (MT.den s0 n0)).length<=2:=by rw [List.length_map];exact l3
  generalize qm2=m2 at l2 f2 rm2 lm2 ⊢;generalize qm3=m3 at l3 f3 rm3 lm3 ⊢;refine ⟨by omega,λa1 H1 s1 ha1 ga1=>?_⟩;refine ⟨_,rfl,by omega,λe1 H2 s2 he1 ge1=>⟨a1,e1,_,_,rfl,rfl,s2 _ _ ga1,ge1,by rw [List.length_map,List.length_map];exact a3t (by omega),λp1 hp1=>?_⟩⟩;rw [<-List.map_append];have t1:=(s1.trans s2).trans (a0g hp1 (.lst ((o0++o1).map V.str)));have gp1:upd H2 p1 (.lst ((o0++o1).map V.str)) p1=some (.lst ((o0++o1).map V.str)):=a0b;generalize upd H2 p1 (.lst ((o0++o1).map V.str))=H3 at t1 gp1 ⊢;refine ⟨_,rfl,p,s0,n0,rfl,bh t1,f2,by omega,λe2 H4 s4 he2 ge2=>⟨p1,e2,_,_,rfl,rfl,s4 _ _ gp1,ge2,by rw [List.length_map,List.length_map,List.length_append];exact a3t (by omega),λp2 hp2=>?_⟩⟩;rw [<-List.map_append];have t2:=(t1.trans s4).trans (a0g hp2 (.lst ((o0++o1++m2.map (MT.den s0 n0)).map V.str)));have gp2:upd H4 p2 (.lst ((o0++o1++m2.map (MT.den s0 n0)).map V.str)) p2=some (.lst ((o0++o1++m2.map (MT.den s0 n0)).map V.str)):=a0b;generalize upd H4 p2 (.lst ((o0++o1++m2.map (MT.den s0 n0)).map V.str))=H5 at t2 gp2 ⊢;refine ⟨_,rfl,p,s0,n0,rfl,bh t2,f3,by omega,λe3 H6 s6 he3 ge3=>⟨p2,e3,_,_,rfl,rfl,s6 _ _ gp2,ge3,by rw [List.length_map,List.length_map,List.length_append,List.length_append];exact a3t (by omega),λp3 hp3=>?_⟩⟩;rw [<-List.map_append];have t3:=(t2.trans s6).trans (a0g hp3 (.lst ((o0++o1++m2.map (MT.den s0 n0)++m3.map (MT.den s0 n0)).map V.str)));have gp3:upd H6 p3 (.lst ((o0++o1++m2.map (MT.den s0 n0)++m3.map (MT.den s0 n0)).map V.str)) p3=some (.lst ((o0++o1++m2.map (MT.den s0 n0)++m3.map (MT.den s0 n0)).map V.str)):=a0b;generalize upd H6 p3 (.lst ((o0++o1++m2.map (MT.den s0 n0)++m3.map (MT.den s0 n0)).map V.str))=H7 at t3 gp3 ⊢;obtain ⟨R,eR⟩:∃ R,R=o0++o1++m2.map (MT.den s0 n0)++m3.map (MT.den s0 n0):=⟨_,rfl⟩
  have rwR:∀ z∈R,Rw z:=λz hz=>by
   rw [eR] at hz;rcases List.mem_append.mp hz with h | h
   ·rcases List.mem_append.mp h with h | h
    ·exact rwc z h
    ·exact rm2 z h
   ·exact rm3 z h
  have lR:R.length<=30:=by rw [eR,List.length_append,List.length_append,List.length_append];omega
  have pR:0 < R.length:=by rw [eR,List.length_append,List.length_append,List.length_append];omega
  rw [<-eR] at gp3;clear eR;refine ⟨_,rfl,p3,_,rfl,SqL.of gp3,λd hd=>?_⟩;refine ⟨λi H'=>a0E H7 H'/\∃ xs,H' d=some (.lst xs)/\xs.length=i/\∀ x∈xs,Ask sg nm H' x,⟨a0g hd _,[],a0b,rfl,λx hx=>by cases hx⟩,λi H' _ hP=>SqL.of (hP.1 _ _ gp3),λi x H' hx hP=>?_,λH8 hP=>?_⟩
  ·obtain ⟨s5,xs,hz,lx,hA⟩:=hP;rw [List.getElem?_map] at hx;obtain ⟨z,hz',rfl⟩:=Option.map_eq_some_iff.mp hx;have il:=(List.getElem?_eq_some_iff.mp hz').1;refine a0G ⟨_,rfl,(by show 2<=sizeLine;decide),λt ht=>?_⟩;have st:=a0g ht (.tup [.str z,.str qBR]);have gt:upd H' t (.tup [.str z,.str qBR]) t=some (.tup [.str z,.str qBR]):=a0b;have hz2:=st _ _ hz;refine ⟨xs,hz2,a0p (by omega),a0w hd (s5.trans st),_,a0b,by rw [List.length_append,lx];rfl,λx hx=>?_⟩;have kt:KeT (upd H' t (.tup [.str z,.str qBR])) (upd (upd H' t (.tup [.str z,.str qBR])) d (.lst (xs++[.ref t]))):=λb ys hb=>by rw [a0j (a0I hb hz2 (by intro z;cases z))];exact hb
   rcases List.mem_append.mp hx with h | h
   ·exact ((hA x h).ke λ_ _ e=>st _ _ e).ke kt
   ·rw [List.mem_singleton.mp h];have r:=rwR z (List.mem_of_getElem? hz');exact ⟨t,z,qBR,rfl,kt _ _ gt,r.1,.inl ⟨rfl,r.2⟩⟩
  obtain ⟨s8,xs8,gd8,lx8,hA8⟩:=hP;rw [List.length_map] at lx8;have t8:=t3.trans s8;have al8:AL sg nm H8 d 30:=⟨xs8,gd8,by omega,by omega,hA8⟩
  have dn8:H d=none:=t3.free hd;clear gd8 lx8 hA8 hd;have h18:=t8 _ _ g1;refine ⟨_,rfl,p,_,_,_,rfl,rfl,SqT.of (t8 _ _ g0),i2,b3,_,_,_,rfl,rfl,SqT.of (t8 _ _ g3),at0,_,_,rfl,rfl,a3t (by rw [show (Str.ofString "zzzzzzzzz").length=9 by decide +kernel];omega),(by show 5<=sizeLine;decide),λl hl=>?_⟩;have sl:=a0g hl (.lst [.str (Str.ofString "A"),.str (Str.ofString "a1"),.str (n0++z9),.str (Str.ofString "."),.str (Str.ofString "-")]);refine ⟨l,rfl,⟨_,SqL.of a0b⟩,?_⟩;have oddL:∀ x∈[V.str (Str.ofString "A"),.str (Str.ofString "a1"),.str (n0++z9),.str (Str.ofString "."),.str (Str.ofString "-")],∃ z,x=.str z/\Odd sg nm z:=λx hx=>by
   have oc:=odd_c B.b;simp only [List.mem_cons,List.not_mem_nil,or_false] at hx;rcases hx with rfl | rfl | rfl | rfl | rfl
   ·exact ⟨_,rfl,oc _ (by simp)⟩
   ·exact ⟨_,rfl,oc _ (by simp)⟩
   ·exact ⟨_,rfl,odd_n B.b nn0⟩
   ·exact ⟨_,rfl,oc _ (by simp)⟩
   ·exact ⟨_,rfl,oc _ (by simp)⟩
  have al9:AL sg nm (upd H8 l (.lst [.str (Str.ofString "A"),.str (Str.ofString "a1"),.str (n0++z9),.str (Str.ofString "."),.str (Str.ofString "-")])) d 30:=by
   obtain ⟨xs,e,a,b,c⟩:=al8;exact ⟨xs,sl _ _ e,a,b,λx hx=>(c x hx).ke λ_ _ e=>sl _ _ e⟩
  have gl:upd H8 l (.lst [.str (Str.ofString "A"),.str (Str.ofString "a1"),.str (n0++z9),.str (Str.ofString "."),.str (Str.ofString "-")]) l=some (.lst [.str (Str.ofString "A"),.str (Str.ofString "a1"),.str (n0++z9),.str (Str.ofString "."),.str (Str.ofString "-")]):=a0b;have t9:=t8.trans sl;show _;generalize upd H8 l (.lst [.str (Str.ofString "A"),.str (Str.ofString "a1"),.str (n0++z9),.str (Str.ofString "."),.str (Str.ofString "-")])=H9 at t9 al9 gl ⊢;refine a3u (xs:=[V.str (Str.ofString "A"),.str (Str.ofString "a1"),.str (n0++z9),.str (Str.ofString "."),.str (Str.ofString "-")]) (λi σ H'=>a0E H9 H'/\∃ (d:Addr) (x4:Option V),AL sg nm H' d (30+5 * i)/\H d=none/\σ=[some (.ref p),some (.int c),some (.ref p3),some (.ref d),x4,none]) ⟨a0E.refl _,d,_,al9,dn8,rfl⟩ (λi σ H' _ hP=>SqL.of (hP.1 _ _ gl)) (λi x σ H10 hx hP=>?_) (λσ H10 hP=>?_)
  ·obtain ⟨s10,dd,x4,⟨xs,gd,lx,px,hA⟩,_,rfl⟩:=hP;have i5:i < 5:=(List.getElem?_eq_some_iff.mp hx).1;obtain ⟨z,rfl,od⟩:=oddL x (List.mem_of_getElem? hx);have t10:=t9.trans s10;have lz:=od.t.1;have tp:∀ (k:Str),k.length<=10->k.length+z.length<=sizeLine:=λk h=>a3t (by omega);refine ⟨_,rfl,_,rfl,_,_,rfl,rfl,tp _ (by decide +kernel),(by show 2<=sizeLine;decide),λa1 ha1=>?_⟩;have r1:=a0g ha1 (.tup [.str (a4o++z),.str qBN]);have q1:upd H10 a1 (.tup [.str (a4o++z),.str qBN]) a1=some (.tup [.str (a4o++z),.str qBN]):=a0b;show _;generalize upd H10 a1 (.tup [.str (a4o++z),.str qBN])=I1 at r1 q1 ⊢;refine ⟨_,rfl,_,_,rfl,rfl,tp _ (by decide +kernel),(by show 2<=sizeLine;decide),λa2 ha2=>?_⟩;have r2:=a0g ha2 (.tup [.str (b3m++z),.str qBN]);have q2:upd I1 a2 (.tup [.str (b3m++z),.str qBN]) a2=some (.tup [.str (b3m++z),.str qBN]):=a0b;show _;generalize upd I1 a2 (.tup [.str (b3m++z),.str qBN])=I2 at r2 q2 ⊢;refine ⟨_,rfl,_,_,rfl,rfl,tp _ (by decide +kernel),(by show 2<=sizeLine;decide),λa3 ha3=>?_⟩;have r3:=a0g ha3 (.tup [.str (b3n++z),.str qBN]);have q3:upd I2 a3 (.tup [.str (b3n++z),.str qBN]) a3=some (.tup [.str (b3n++z),.str qBN]):=a0b;show _;generalize upd I2 a3 (.tup [.str (b3n++z),.str qBN])=I3 at r3 q3 ⊢;refine ⟨(by show 3<=sizeLine;decide),λa4 ha4=>?_⟩;have r4:=a0g ha4 (.lst [.ref a1,.ref a2,.ref a3]);have r04:=((r1.trans r2).trans r3).trans r4;refine ⟨dd,a4,_,_,rfl,rfl,r04 _ _ gd,a0b,(by show xs.length+3<=sizeLine;exact a3t (by omega)),λd2 hd2=>?_⟩;have r5:=a0g hd2 (.lst (xs++[.ref a1,.ref a2,.ref a3]));have r05:=r04.trans r5;have al10:AL sg nm (upd (upd I3 a4 (.lst [.ref a1,.ref a2,.ref a3])) d2 (.lst (xs++[.ref a1,.ref a2,.ref a3]))) d2 (30+5 * i+3):=by
    refine AL.app gd lx px hA (λ_ _ e=>r05 _ _ e) a0b (by show 3<=3;decide) λy hy=>?_;simp only [List.mem_cons,List.not_mem_nil,or_false] at hy;rcases hy with rfl | rfl | rfl
    ·exact ⟨a1,_,_,rfl,r5 _ _ (r4 _ _ (r3 _ _ (r2 _ _ q1))),a6L (.inl rfl) od⟩
    ·exact ⟨a2,_,_,rfl,r5 _ _ (r4 _ _ (r3 _ _ q2)),a6L (.inr (.inl rfl)) od⟩
    ·exact ⟨a3,_,_,rfl,r5 _ _ (r4 _ _ q3),a6L (.inr (.inr (.inl rfl))) od⟩
   generalize upd (upd I3 a4 (.lst [.ref a1,.ref a2,.ref a3])) d2 (.lst (xs++[.ref a1,.ref a2,.ref a3]))=J at r05 al10 ⊢;clear gd lx px hA r1 r2 r3 r4 r5 q1 q2 q3 r04;have tJ:=t10.trans r05;obtain ⟨xs,gd,lx,px,hA⟩:=al10;refine ⟨_,rfl,_,rfl,_,_,rfl,rfl,tp _ (by decide +kernel),(by show 2<=sizeLine;decide),λa1 ha1=>?_⟩;have r1:=a0g ha1 (.tup [.str (a6J++z),.str qBN]);have q1:upd J a1 (.tup [.str (a6J++z),.str qBN]) a1=some (.tup [.str (a6J++z),.str qBN]):=a0b;show _;generalize upd J a1 (.tup [.str (a6J++z),.str qBN])=J1 at r1 q1 ⊢;have tJ1:=tJ.trans r1;have lW:(Str.ofString "write ").length=6:=by decide +kernel
   have lS:(Str.ofString " ").length=1:=by decide +kernel
   refine ⟨_,rfl,p,_,_,_,rfl,rfl,SqT.of (tJ1 _ _ g0),i2,b3,_,_,_,rfl,rfl,SqT.of (tJ1 _ _ g3),at0,_,_,rfl,rfl,a3t (by omega),_,_,rfl,rfl,a3t (by rw [a2d];omega),_,rfl,_,_,rfl,rfl,a3t (by rw [a2d,a2d];omega),(by show 2<=sizeLine;decide),λa2 ha2=>?_⟩;have r2:=a0g ha2 (.tup [.str (a6J++n0++Str.ofString " "++z),.str qBN]);have q2:upd J1 a2 (.tup [.str (a6J++n0++Str.ofString " "++z),.str qBN]) a2=some (.tup [.str (a6J++n0++Str.ofString " "++z),.str qBN]):=a0b;show _;generalize upd J1 a2 (.tup [.str (a6J++n0++Str.ofString " "++z),.str qBN])=J2 at r2 q2 ⊢;refine ⟨(by show 2<=sizeLine;decide),λa4 ha4=>?_⟩;have r4:=a0g ha4 (.lst [.ref a1,.ref a2]);have r04:=(r1.trans r2).trans r4;refine ⟨d2,a4,_,_,rfl,rfl,r04 _ _ gd,a0b,(by show xs.length+2<=sizeLine;exact a3t (by omega)),λd3 hd3=>?_⟩;have r5:=a0g hd3 (.lst (xs++[.ref a1,.ref a2]));have r06:=r04.trans r5;refine ⟨s10.trans (r05.trans r06),d3,_,?_,(tJ.trans r04).free hd3,rfl⟩;rw [show 30+5 * (i+1)=30+5 * i+3+2 by omega];refine AL.app gd lx px hA (λ_ _ e=>r06 _ _ e) a0b (by show 2<=2;decide) λy hy=>?_;simp only [List.mem_cons,List.not_mem_nil,or_false] at hy;rcases hy with rfl | rfl
   ·exact ⟨a1,_,_,rfl,r5 _ _ (r4 _ _ (r2 _ _ q1)),a6L (.inr (.inr (.inr rfl))) od⟩
   ·exact ⟨a2,_,_,rfl,r5 _ _ (r4 _ _ q2),b0T nn0 od⟩
  obtain ⟨s10,d10,x4,al10,dH,rfl⟩:=hP;have t10:=t9.trans s10;clear al9 al8 gl;have lone:(Str.ofString "1").length=1:=by decide +kernel
  have lmin:(Str.ofString "-").length=1:=by decide +kernel
  refine ⟨_,rfl,p,_,_,_,rfl,rfl,SqT.of (t10 _ _ g0),i0,b1,_,_,_,rfl,rfl,SqT.of (t10 _ _ g1),as0,_,_,rfl,rfl,a3t (by omega),_,rfl,p,_,_,_,rfl,rfl,SqT.of (t10 _ _ g0),i0,b1,_,_,_,rfl,rfl,SqT.of (t10 _ _ g1),as0,_,_,rfl,rfl,a3t (by omega),(by show 4<=sizeLine;decide),λl2 hl2=>?_⟩;have sl2:=a0g hl2 (.lst [.str (Str.ofString "A"),.str (Str.ofString "."),.str (s0++Str.ofString "1"),.str (Str.ofString "-"++s0)]);refine ⟨l2,rfl,⟨_,SqL.of a0b⟩,?_⟩;have gl2:upd H10 l2 (.lst [.str (Str.ofString "A"),.str (Str.ofString "."),.str (s0++Str.ofString "1"),.str (Str.ofString "-"++s0)]) l2=some (.lst [.str (Str.ofString "A"),.str (Str.ofString "."),.str (s0++Str.ofString "1"),.str (Str.ofString "-"++s0)]):=a0b;have al11:AL sg nm (upd H10 l2 (.lst [.str (Str.ofString "A"),.str (Str.ofString "."),.str (s0++Str.ofString "1"),.str (Str.ofString "-"++s0)])) d10 55:=by
   obtain ⟨xs,e,a,b,c⟩:=al10;exact ⟨xs,sl2 _ _ e,a,b,λx hx=>(c x hx).ke λ_ _ e=>sl2 _ _ e⟩
  have ne2:l2≠d10:=λe=>by
   obtain ⟨xs,e',_⟩:=al10;rw [e,e'] at hl2;cases hl2
  have t11:=t10.trans sl2;have redL:∀ x∈[V.str (Str.ofString "A"),.str (Str.ofString "."),.str (s0++Str.ofString "1"),.str (Str.ofString "-"++s0)],∃ z,x=.str z/\z.length<=20/\Gq sg nm (a9J++z) qBN:=λx hx=>by
   simp only [List.mem_cons,List.not_mem_nil,or_false] at hx;have s1:=a5H ns0;rcases hx with rfl | rfl | rfl | rfl
   ·exact ⟨_,rfl,by decide +kernel,a5a B.b ⟨by decide +kernel,by decide +kernel⟩ (by decide +kernel) (by decide +kernel) ⟨65,by decide +kernel,by decide⟩⟩
   ·exact ⟨_,rfl,by decide +kernel,a5a B.b ⟨by decide +kernel,by decide +kernel⟩ (by decide +kernel) (by decide +kernel) ⟨46,by decide +kernel,by decide⟩⟩
   ·refine ⟨_,rfl,by rw [a2d];omega,a5a B.b (((a6f ns0).app (b:=1) ⟨by omega,by decide +kernel⟩).mono (by decide)) (by rw [a2d];omega) ?_ ⟨49,?_,by decide⟩⟩
    ·rw [a1i];intro h;rcases List.mem_append.mp h with h | h
     ·exact s1.1 h
     ·exact absurd h (by decide +kernel)
    ·rw [a1i];exact List.mem_append_right _ (by decide +kernel)
   ·refine ⟨_,rfl,by rw [a2d];omega,a5a B.b (((show Tx 1 (Str.ofString "-") from ⟨by omega,by decide +kernel⟩).app (a6f ns0)).mono (by decide)) (by rw [a2d];omega) ?_ ⟨45,?_,by decide⟩⟩
    ·rw [a1i];intro h;rcases List.mem_append.mp h with h | h
     ·exact absurd h (by decide +kernel)
     ·exact s1.1 h
    ·rw [a1i];exact List.mem_append_left _ (by decide +kernel)
  show _;generalize upd H10 l2 (.lst [.str (Str.ofString "A"),.str (Str.ofString "."),.str (s0++Str.ofString "1"),.str (Str.ofString "-"++s0)])=H11 at t11 al11 gl2 ⊢;obtain ⟨xs0,gx0,_⟩:=id al11;have lst:∀ {H':Hp} {d:Addr} {n:Nat} {z due:Str},AL sg nm H' d n->Gq sg nm z due->n<=900->∀ t,H' t=none->∃ xs,upd H' t (.tup [.str z,.str due]) d=some (.lst xs)/\xs.length < sizeLine/\(∀ b o,b≠d->H' b=some o->upd (upd H' t (.tup [.str z,.str due])) d (.lst (xs++[.ref t])) b=some o)/\AL sg nm (upd (upd H' t (.tup [.str z,.str due])) d (.lst (xs++[.ref t]))) d (n+1):=λ{H' d n z due} al g hn t ht=>by
   obtain ⟨xs,gd,lx,px,hA⟩:=al;have st:=a0g ht (.tup [.str z,.str due]);have kt:KeT (upd H' t (.tup [.str z,.str due])) (upd (upd H' t (.tup [.str z,.str due])) d (.lst (xs++[.ref t]))):=λb ys hb=>by rw [a0j (a0I hb (st _ _ gd) (by intro z;cases z))];exact hb
   refine ⟨xs,st _ _ gd,a0p (by omega),λb o nb hb=>by rw [a0j nb];exact st _ _ hb,?_⟩;refine AL.app gd lx px hA (λb ys hb=>kt _ _ (st _ _ hb)) a0b (by show 1<=1;decide) λy hy=>?_;rw [List.mem_singleton.mp hy];exact ⟨t,z,due,rfl,kt _ _ a0b,g⟩
  refine a3u (xs:=[V.str (Str.ofString "A"),.str (Str.ofString "."),.str (s0++Str.ofString "1"),.str (Str.ofString "-"++s0)]) (λi σ H'=>K1 d10 H11 H'/\AL sg nm H' d10 (55+i)/\∃ x5:Option V,σ=[some (.ref p),some (.int c),some (.ref p3),some (.ref d10),x4,x5]) ⟨λ_ _ _ h=>h,al11,_,rfl⟩ (λi σ H' _ hP=>SqL.of (hP.1 _ _ ne2 gl2)) (λi x σ H12 hx hP=>?_) (λσ H12 hP=>?_)
  ·obtain ⟨k12,al12,x5,rfl⟩:=hP;have i4:i < 4:=(List.getElem?_eq_some_iff.mp hx).1;obtain ⟨z,rfl,lz,gz⟩:=redL x (List.mem_of_getElem? hx);have lr:(Str.ofString "read ").length=5:=by decide +kernel
   obtain ⟨ys,gys,_⟩:=id al12;refine ⟨_,rfl,.inl ⟨rfl,_,SqL.of gys⟩,_,rfl,_,_,rfl,rfl,a3t (by omega),(by show 2<=sizeLine;decide),λt ht=>?_⟩;obtain ⟨xs,e,lx,kk,al13⟩:=lst al12 gz (by omega) t ht;exact ⟨d10,xs,_,rfl,rfl,e,lx,λb o nb hb=>kk b o nb (k12 b o nb hb),al13,_,rfl⟩
  obtain ⟨k12,al12,x5,rfl⟩:=hP;clear al11 al10 gx0;have l9:(reS (Str.ofString "9") 40).cps.size=40:=by decide +kernel
  have lb:(Str.ofString "bounded ").length=8:=by decide +kernel
  have lc:(Str.ofString "code ").length=5:=by decide +kernel
  have l1:(Str.ofString "9").length=1:=by decide +kernel
  have l9':(reS (Str.ofString "9") 40).length=40:=l9;refine ⟨Str.ofString "9",40,rfl,rfl,l1,by decide,by decide,by rw [l9];decide,_,_,rfl,rfl,a3t (by omega),Str.ofString "9",40,rfl,rfl,l1,by decide,by decide,by rw [l9];decide,_,_,rfl,rfl,a3t (by omega),(by show 3<=sizeLine;decide),λl3 hl3=>?_⟩;have sl3:=a0g hl3 (.lst [.str (Str.ofString "bounded 25"),.str (Str.ofString "bounded "++reS (Str.ofString "9") 40),.str (Str.ofString "code "++reS (Str.ofString "9") 40)]);refine ⟨l3,rfl,⟨_,SqL.of a0b⟩,?_⟩;have gl3:upd H12 l3 (.lst [.str (Str.ofString "bounded 25"),.str (Str.ofString "bounded "++reS (Str.ofString "9") 40),.str (Str.ofString "code "++reS (Str.ofString "9") 40)]) l3=some (.lst [.str (Str.ofString "bounded 25"),.str (Str.ofString "bounded "++reS (Str.ofString "9") 40),.str (Str.ofString "code "++reS (Str.ofString "9") 40)]):=a0b;have ne3:l3≠d10:=λe=>by
   obtain ⟨xs,e',_⟩:=al12;rw [e,e'] at hl3;cases hl3
  have al13:AL sg nm (upd H12 l3 (.lst [.str (Str.ofString "bounded 25"),.str (Str.ofString "bounded "++reS (Str.ofString "9") 40),.str (Str.ofString "code "++reS (Str.ofString "9") 40)])) d10 59:=by
   obtain ⟨xs,e,a,b,c⟩:=al12;exact ⟨xs,sl3 _ _ e,a,b,λx hx=>(c x hx).ke λ_ _ e=>sl3 _ _ e⟩
  have k13:K1 d10 H11 (upd H12 l3 (.lst [.str (Str.ofString "bounded 25"),.str (Str.ofString "bounded "++reS (Str.ofString "9") 40),.str (Str.ofString "code "++reS (Str.ofString "9") 40)])):=λb o nb hb=>sl3 _ _ (k12 b o nb hb);have bigL:∀ x∈[V.str (Str.ofString "bounded 25"),.str (Str.ofString "bounded "++reS (Str.ofString "9") 40),.str (Str.ofString "code "++reS (Str.ofString "9") 40)],∃ z,x=.str z/\Gq sg nm z qBU:=λx hx=>by
   simp only [List.mem_cons,List.not_mem_nil,or_false] at hx;rcases hx with rfl | rfl | rfl
   ·exact ⟨_,rfl,a9x (a6g _ (.head _))⟩
   ·exact ⟨_,rfl,a9x (a6g _ (.tail _ (.head _)))⟩
   ·exact ⟨_,rfl,a9x (a6g _ (.tail _ (.tail _ (.head _))))⟩
  show _;generalize upd H12 l3 (.lst [.str (Str.ofString "bounded 25"),.str (Str.ofString "bounded "++reS (Str.ofString "9") 40),.str (Str.ofString "code "++reS (Str.ofString "9") 40)])=H13 at k13 al13 gl3 ⊢;refine a3u (xs:=[V.str (Str.ofString "bounded 25"),.str (Str.ofString "bounded "++reS (Str.ofString "9") 40),.str (Str.ofString "code "++reS (Str.ofString "9") 40)]) (λi σ H'=>K1 d10 H13 H'/\AL sg nm H' d10 (59+i)/\∃ x5:Option V,σ=[some (.ref p),some (.int c),some (.ref p3),some (.ref d10),x4,x5]) ⟨λ_ _ _ h=>h,al13,_,rfl⟩ (λi σ H' _ hP=>SqL.of (hP.1 _ _ ne3 gl3)) (λi x σ H14 hx hP=>?_) (λσ H14 hP=>?_)
  ·obtain ⟨k14,al14,x5,rfl⟩:=hP;have i3:i < 3:=(List.getElem?_eq_some_iff.mp hx).1;obtain ⟨z,rfl,gz⟩:=bigL x (List.mem_of_getElem? hx);obtain ⟨ys,gys,_⟩:=id al14;refine ⟨_,rfl,.inl ⟨rfl,_,SqL.of gys⟩,_,rfl,(by show 2<=sizeLine;decide),λt ht=>?_⟩;obtain ⟨xs,e,lx,kk,al15⟩:=lst al14 gz (by omega) t ht;exact ⟨d10,xs,_,rfl,rfl,e,lx,λb o nb hb=>kk b o nb (k14 b o nb hb),al15,_,rfl⟩
  obtain ⟨k14,⟨xs,gd,lx,px,hA⟩,x5,rfl⟩:=hP;have sF:a0E H H14:=λb o hb=>by
   have nb:b≠d10:=λe=>by rw [e,dH] at hb;cases hb
   exact k14 b o nb (k13 b o nb (t11 _ _ hb))
  refine ⟨_,rfl,_,rfl,_,rfl,d10,_,rfl,.inl (SqL.of gd),_,_,rfl,rfl,(by show (0:Int) < (xs.length:Int);omega),?_⟩;obtain ⟨j,ej,jl⟩:∃ j:Nat,c % ((xs.length:Nat):Int)=(j:Int)/\j < xs.length:=by
   have h1:=Int.emod_nonneg c (show ((xs.length:Nat):Int)≠0 by omega);have h2:=Int.emod_lt_of_pos c (show (0:Int) < (xs.length:Int) by omega);exact ⟨(c % ((xs.length:Nat):Int)).toNat,by omega,by omega⟩
  obtain ⟨t,z,due,ex,gt,gq⟩:=hA xs[j] (List.getElem_mem jl);exact ⟨d10,_,_,_,rfl,congrArg V.int ej,SqL.of gd,a1G (List.getElem?_eq_getElem jl),by rw [ex];exact qq t z due H14 sF gt gq⟩
 exact key _ _ _ _ q_h0 q_h1 q_h2 q_h3
end
theorem a2R.k1 {C:Addr} {H H':Hp} {r l a:Addr} {ys:List V} {sg nm:List Str} {q:Pw} {hs:List Pw} (h:a2R C H r l sg nm q hs) (k:K1 a H H') (ha:H a=some (.lst ys)) (la:l≠a):a2R C H' r l sg nm q hs:=by
 obtain ⟨dx',b1,b2,b3,b4,xs,h0,h1,h2,h3,h4,h5,h6⟩:=h;have ke:=k.ke ha;exact ⟨dx',b1,b2,b3,b4,xs,k _ _ (a0I h0 ha (by intro z;cases z)) h0,ke _ _ h1,ke _ _ h2,ke _ _ h3,ke _ _ h4,k _ _ la h5,Paired.mapP h6 λ_ _ p=>p.ke ke⟩
theorem a4X.k1 {H H':Hp} {a b:Addr} {ys:List V} {sg nm:List Str} {hs:List Pw} (h:a4X H a sg nm hs) (k:K1 b H H') (hb:H b=some (.lst ys)) (ab:a≠b):a4X H' a sg nm hs:=by
 obtain ⟨xs,h0,w⟩:=h;exact ⟨xs,k _ _ ab h0,Paired.mapP w λ_ _ p=>p.ke (k.ke hb)⟩
theorem a4X.k2 {C:Addr} {H H':Hp} {a r l dx:Addr} {fs:List (Str × V)} {ys:List V} {sg nm:List Str} {hs:List Pw} (h:a4X H a sg nm hs) (k:K2 r l H H') (hr:H r=some (.ins C dx fs)) (hl:H l=some (.lst ys)) (la:l≠a):a4X H' a sg nm hs:=by
 obtain ⟨xs,h0,w⟩:=h;exact ⟨xs,k _ _ (a0I h0 hr (by intro z;cases z)) (Ne.symm la) h0,Paired.mapP w λ_ _ p=>p.ke (k.ke hr hl)⟩
theorem a4X.same {H H':Hp} {a:Addr} {sg nm:List Str} {hs:List Pw} (s:a0E H H') (h:a4X H a sg nm hs):a4X H' a sg nm hs:=by
 obtain ⟨xs,h0,w⟩:=h;exact ⟨xs,s _ _ h0,Paired.mapP w λ_ _ p=>p.ke λ_ _ e=>s _ _ e⟩
def upB {α:Type} (b:Bool) (x:α) (f:Bool->α):Bool->α:=λc=>if c=b then x else f c
theorem a4h {α:Type} {b:Bool} {x:α} {f:Bool->α}:upB b x f b=x:=if_pos rfl
theorem a4i {α:Type} {b c:Bool} {x:α} {f:Bool->α} (h:c≠b):upB b x f c=f c:=if_neg h
structure Two (C:Addr) (H:Hp) (dl pl:Addr) (r l a:Bool->Addr) (sg nm:Bool->List Str) (q:Bool->Pw) (hs:Bool->List Pw) (n:Nat):Prop where
 hd:H dl=some (.lst [.ref (r false),.ref (r true)])
 hp:H pl=some (.lst [.ref (a false),.ref (a true)])
 D:∀ b,a2R C H (r b) (l b) (sg b) (nm b) (q b) (hs b)
 Z:∀ b,a4X H (a b) (sg b) (nm b) (hs b++[q b])
 B:∀ b,∀ w∈hs b++[q b],Bk5 (sg b) w.1 (nm b) w.2
 nr:∀ b c,b≠c->r b≠r c
 nl:∀ b c,b≠c->l b≠l c
 na:∀ b c,b≠c->a b≠a c
 la:∀ b c,l b≠a c
 dx:∀ b,dl≠l b/\dl≠a b/\pl≠l b/\pl≠a b
 ln:∀ b,(hs b).length<=n
section
variable {C:Addr} {H H' H'':Hp} {dl pl:Addr} {r l a:Bool->Addr} {sg nm:Bool->List Str} {q:Bool->Pw} {hs:Bool->List Pw} {n:Nat}
theorem Two.same (s:a0E H H') (h:Two C H dl pl r l a sg nm q hs n):Two C H' dl pl r l a sg nm q hs n :=
 ⟨s _ _ h.hd,s _ _ h.hp,λb=>(h.D b).same s,λb=>(h.Z b).same s,h.B,h.nr,h.nl,h.na,h.la,h.dx,h.ln⟩
def Oth (r l a:Bool->Addr) (H H':Hp):Prop:=∀ x o,(∀ b,x≠r b/\x≠l b/\x≠a b)->H x=some o->H' x=some o
theorem Two.step (h:Two C H dl pl r l a sg nm q hs n) {b:Bool} {q':Pw} {hs':List Pw} (k2:K2 (r b) (l b) H H') (D':a2R C H' (r b) (l b) (sg b) (nm b) q' hs') (k1:K1 (a b) H' H'') (Z':a4X H'' (a b) (sg b) (nm b) (hs'++[q'])) (B':∀ w∈hs'++[q'],Bk5 (sg b) w.1 (nm b) w.2) (l':hs'.length<=n+1) :
  Two C H'' dl pl r l a sg nm (upB b q' q) (upB b hs' hs) (n+1)/\Oth r l a H H'':=by
 obtain ⟨dx,_,_,_,_,xs,h0,_,_,_,_,h5,_⟩:=id (h.D b);have Z1:∀ c,a4X H' (a c) (sg c) (nm c) (hs c++[q c]):=λc=>(h.Z c).k2 k2 h0 h5 (h.la b c);obtain ⟨ys,hy,_⟩:=id (Z1 b);refine ⟨⟨?_,?_,λc=>?_,λc=>?_,λc=>?_,h.nr,h.nl,h.na,h.la,h.dx,λc=>?_⟩,λx o hx ho=>k1 _ _ (hx b).2.2 (k2 _ _ (hx b).1 (hx b).2.1 ho)⟩
 ·exact k1 _ _ (h.dx b).2.1 (k2 _ _ (a0I h.hd h0 (by intro z;cases z)) (h.dx b).1 h.hd)
 ·exact k1 _ _ (h.dx b).2.2.2 (k2 _ _ (a0I h.hp h0 (by intro z;cases z)) (h.dx b).2.2.1 h.hp)
 ·by_cases e:c=b
  ·subst e;rw [a4h,a4h];exact D'.k1 k1 hy (h.la c c)
  ·rw [a4i e,a4i e];exact ((h.D c).oth k2 h0 h5 (h.nr c b e) (h.nl c b e)).k1 k1 hy (h.la c b)
 ·by_cases e:c=b
  ·subst e;rw [a4h,a4h];exact Z'
  ·rw [a4i e,a4i e];exact (Z1 c).k1 k1 hy (h.na c b e)
 ·by_cases e:c=b
  ·subst e;rw [a4h,a4h];exact B'
  ·rw [a4i e,a4i e];exact h.B c
 ·by_cases e:c=b
  ·subst e;rw [a4h];exact l'
  ·rw [a4i e];exact Nat.le_succ_of_le (h.ln c)
end
theorem b1Q {ns:List Int} {i:Nat} {x:Int} (h:Bo ns) (hx:am x=true):Bo (ns.set i x):=λy hy=>by
 rcases List.mem_or_eq_of_mem_set hy with z | z
 ·exact h y z
 ·rw [z];unfold am at hx;have:=(Bool.and_eq_true _ _).mp hx;exact ⟨of_decide_eq_true this.1,by rw [<-e30];exact of_decide_eq_true this.2⟩
theorem bk_mv {sg nm:List Str} {q:Pw} {b:Bool} {z:Str} {x:Int} (B:Bk5 sg q.1 nm q.2) (hx:am x=true):Bk5 sg (mvd b sg nm q z x).1 nm (mvd b sg nm q z x).2:=by
 obtain ⟨⟨a1,a2,a3,a4,a5,a6,a7,a8,a9,a10,a11,a12⟩,a13,a14⟩:=B;unfold mvd;cases b with
 | true =>
  rw [if_pos rfl];exact ⟨⟨by show _=(q.1.set _ _).length;rw [List.length_set];exact a1,a2,by show 2<=(q.1.set _ _).length;rw [List.length_set];exact a3,by show (q.1.set _ _).length<=6;rw [List.length_set];exact a4,a5,a6,a7,a8,a9,a10,b1Q a11 hx,a12⟩,by show (q.1.set _ _).length<=4;rw [List.length_set];exact a13,a14⟩
 | false =>
  rw [if_neg (by decide)];exact ⟨⟨a1,by show _=(q.2.set _ _).length;rw [List.length_set];exact a2,a3,a4,by show 1<=(q.2.set _ _).length;rw [List.length_set];exact a5,by show (q.2.set _ _).length<=24;rw [List.length_set];exact a6,a7,a8,a9,a10,a11,b1Q a12 hx⟩,a13,by show (q.2.set _ _).length<=5;rw [List.length_set];exact a14⟩
theorem nxt_ok {sg nm:List Str} {q:Pw} {hs:List Pw} {k z:Str} {x:Int} (B:∀ w∈hs++[q],Bk5 sg w.1 nm w.2):(∀ w∈(nxt sg nm q hs k z x).2++[(nxt sg nm q hs k z x).1],Bk5 sg w.1 nm w.2)/\(nxt sg nm q hs k z x).2.length<=hs.length+1:=by
 have B0:Bk5 sg q.1 nm q.2:=B q (List.mem_append_right _ (.head _));have same:(∀ w∈(q,hs).2++[(q,hs).1],Bk5 sg w.1 nm w.2)/\(q,hs).2.length<=hs.length+1:=⟨B,Nat.le_succ _⟩
 have put:∀ b,am x=true->(∀ w∈(mvd b sg nm q z x,hs++[q]).2++[(mvd b sg nm q z x,hs++[q]).1],Bk5 sg w.1 nm w.2)/\(mvd b sg nm q z x,hs++[q]).2.length<=hs.length+1:=λb hx=>⟨λw hw=>by
  rcases List.mem_append.mp hw with h | h
  ·exact B w h
  ·rw [List.mem_singleton.mp h];exact bk_mv B0 hx,by show (hs++[q]).length<=_;rw [List.length_append];exact Nat.le_refl _⟩
 have amt:¬ am x=false->am x=true:=λh=>by cases e:am x;exact absurd e h;rfl
 unfold nxt;split
 ·split
  ·exact same
  ·rename_i ne;have eh:hs.dropLast++[hs.getLastD q]=hs:=by
    rcases List.eq_nil_or_concat hs with e2 | ⟨u,v,e2⟩
    ·exact absurd e2 ne
    ·rw [e2,List.concat_eq_append,List.getLastD_concat,List.dropLast_concat]
   refine ⟨λw hw=>?_,by show hs.dropLast.length<=_;rw [List.length_dropLast];omega⟩;have hw:w∈hs.dropLast++[hs.getLastD q]:=hw;rw [eh] at hw;exact B w (List.mem_append_left _ hw)
 ·split
  ·split
   ·exact same
   ·split
    ·exact same
    ·rename_i h;exact put true (amt h)
  ·split
   ·exact same
   ·split
    ·exact same
    ·rename_i h;exact put false (amt h)
def kI:Bool->Int
 | false=>0
 | true=>1
theorem two_of (x:Int):∃ b,x % 2=kI b:=by
 have:x % 2=0\/x % 2=1:=by omega
 rcases this with e | e
 ·exact ⟨false,e⟩
 ·exact ⟨true,e⟩
theorem a2Q {f:Bool->Addr} (b:Bool):atI [V.ref (f false),.ref (f true)] (kI b)=some (.ref (f b)):=by cases b <;> rfl
theorem a5c {H:Hp} {a:Addr} {sg nm:List Str} {hs:List Pw} {q:Pw} (h:a4X H a sg nm (hs++[q])):∃ xs p,H a=some (.lst xs)/\atI xs (-1)=some (.ref p)/\a9F H p sg q.1 nm q.2:=by
 obtain ⟨xs,h0,w⟩:=h;have lx:xs.length=hs.length+1:=by rw [w.length,List.length_append];rfl
 obtain ⟨y,hy⟩:∃ y,xs[xs.length - 1]?=some y:=⟨_,List.getElem?_eq_getElem (by omega)⟩
 obtain ⟨q2,hq2,p,rfl,bk⟩:=Paired.right_of w _ _ hy;have eq2:q2=q:=by
  rw [lx,Nat.add_sub_cancel,List.getElem?_append_right (Nat.le_refl _),Nat.sub_self] at hq2;exact (Option.some.inj hq2).symm
 subst eq2;exact ⟨xs,p,h0,a9r hy,bk⟩
theorem sz_of {sg nm:List Str} {q:Pw} (B:Bk5 sg q.1 nm q.2):Sz sg nm q:=⟨B.b.ls,B.b.ln,Nat.le_trans B.l4 (by decide),Nat.le_trans B.n5 (by decide)⟩
section
variable {P:Program} {w:World} {K:PySem.W.Frag} {mg:Str->Option Value} {base:Heap} {f:Addr} {fd:FuncData}
structure Dsk (P:Program) (w:World) (K:PySem.W.Frag) (mg:Str->Option Value) (base:Heap) (C:Addr) where
 c:Cls K C
 g:mg "Desk"=some (.ref C)
 fi:Addr
 di:FuncData
 mkk:Mk K C fi
 oki:a1a P w K mg base CX0 9 fi di ["self","text"] (spDi C)
 bi:a1X K di ["self","text"] []
abbrev NLw:List Str:=["script","start","other","desks","pasts","cell","k","question","due","deed","j"]
def b0U (K:PySem.W.Frag):Sp:=λvs H Q _=>∃ (a:Addr) (ns:List Int),vs=[.ref a]/\SqL K H a (ns.map V.int)/\ns.length<=63/\∀ H',Q (.bl true) H'
theorem a4j:a0u NLw ["script"] (a0e b0w):=⟨rfl,rfl,rfl,by decide +kernel,rfl,by decide +kernel,by decide +kernel⟩
theorem a6i {x:Str}:(!decide (V.str x=V.str x))=false:=by rw [decide_eq_true rfl];rfl
theorem ok_law {e C:Addr} {ed:FuncData} (F:Fun K "law" "law" b0w e ed) (dk:Dsk P w K mg base C) (MK:Mx P w K mg base CX0 C "book" ["self"] (spDb C) 10) (MA:Mx P w K mg base CX0 C "answer" ["self","question"] (spAn C) 10) (GC:Fns P w K mg base ["script","k"] "_law_cell_at" (a6A K) 10) (GK:Fns P w K mg base ["script","most"] "_law_book" (spBo K) 10) (GT:Fns P w K mg base ["book"] "_law_text" spTx 10) (GQ:Fns P w K mg base ["book","cell"] "_law_question" spQu 10) (GE:Fns P w K mg base ["book","cell"] "_law_deed" spDe 10) (GD:Fns P w K mg base ["desk","deed"] "_law_done" (spDn C) 10) (GB:Fns P w K mg base ["past","deed"] "_law_behind" spBe 10)
  (mr:mg "range"=none) (mL:mg "list"=none):a1a P w K mg base CX0 11 e ed ["script"] (b0U K):=by
 refine F.ok (k:=10) a4j (λvs H Q E h=>?_) (λcdv A outer s H vs Q E hr h=>?_)
 ·obtain ⟨a,ns,rfl,_⟩:=h;rfl
 obtain ⟨a,ns,rfl,hS,h63,qq⟩:=h;refine ⟨_,a0c (a0z (i:=1) a4j.nd rfl (Or.inl rfl) (a0q GK.ok hr (by rfl) GK.m GK.kp GK.b .nil a0D (a0a (pv 0) (a0a (a0d) (a0f)))))
   (a0c (a0z (i:=2) a4j.nd rfl (Or.inl rfl) (a0q GK.ok hr (by rfl) GK.m GK.kp GK.b .nil a0D (a0a (a0m a2K (a0W (a0a (a0q GC.ok hr (by rfl) GC.m GC.kp GC.b .nil a0D (a0a (pv 0) (a0a (a0d) (a0f)))) (a0f))) (a1s a5N (pv 0) (a1O a0d) a1N)) (a0a (a0d) (a0f)))))
   (a0c (a0z (i:=3) a4j.nd rfl (Or.inl rfl) (a0W (a0a (a3J dk.mkk dk.oki hr (by rfl) dk.g dk.bi .nil a0D (a0a (a0q GT.ok hr (by rfl) GT.m GT.kp GT.b .nil a0D (a0a (pv 1) (a0f))) (a0f))) (a0a (a3J dk.mkk dk.oki hr (by rfl) dk.g dk.bi .nil a0D (a0a (a0q GT.ok hr (by rfl) GT.m GT.kp GT.b .nil a0D (a0a (pv 2) (a0f))) (a0f))) (a0f)))))
   (a0c (a0z (i:=4) a4j.nd rfl (Or.inl rfl) (a0W (a0a (a0W (a0a (pv 1) (a0f))) (a0a (a0W (a0a (pv 2) (a0f))) (a0f)))))
   (a0c (a1v PassesOwn.never rfl (a2U (a0m a2K (a0W (a0a (a0d) (a0f))) (a0K a2i (by rfl) mL a8d (a0a (a1s a5N (pv 0) (a1O a0d) a1N) (a0f))))) (a0H (i:=5) a4j.nd rfl (Or.inl rfl)) (a0c (a0z (i:=6) a4j.nd rfl (Or.inl rfl) (a0m a0O (a0m a1b (pv 5) (a0d)) (a0d)))
   (a0c (a5r (a0J (a0y a1g (a0m a0O (pv 5) (a0d)) (a0d) (nomark _)) (a0c (a2G (a0q GQ.ok hr (by rfl) GQ.m GQ.kp GQ.b .nil a0D (a0a (a0n a0k (a0n a0k (pv 4) (pv 6) (λ_ _=>rfl)) (a2t a1J a0d) (λ_ _=>rfl)) (a0a (a0m a1b (pv 5) (a0d)) (a0f)))) (a5f rfl (a1m (a0H (i:=7) a4j.nd rfl (Or.inl rfl)) (a1m (a0H (i:=8) a4j.nd rfl (Or.inl rfl)) (a3D)))))
   (a0h (a0J (a0y a7H (a1F (a0n a0k (pv 3) (pv 6) (λ_ _=>rfl)) dk.c MA.m MA.ok hr MA.b .nil a0D (a0a (pv 7) (a0f))) (a0m a0A (a0i) (pv 8)) (nomark _)) (a0h (a0v a3A)) (a0x)))) (a0c (a0z (i:=9) a4j.nd rfl (Or.inl rfl) (a0q GE.ok hr (by rfl) GE.m GE.kp GE.b .nil a0D (a0a (a0n a0k (a0n a0k (pv 4) (pv 6) (λ_ _=>rfl)) (a2t a1J a0d) (λ_ _=>rfl)) (a0a (a0m a1b (pv 5) (a0d)) (a0f)))))
   (a0h (a0J (a0y a7H (a0q GD.ok hr (by rfl) GD.m GD.kp GD.b .nil a0D (a0a (a0n a0k (pv 3) (pv 6) (λ_ _=>rfl)) (a0a (pv 9) (a0f)))) (a0q GB.ok hr (by rfl) GB.m GB.kp GB.b .nil a0D (a0a (a0n a0k (pv 4) (pv 6) (λ_ _=>rfl)) (a0a (pv 9) (a0f)))) (nomark _)) (a0h (a0v a3A)) (a0x))))))
   (a0h (a1v PassesOwn.never rfl (a1M (by rfl) mr (a0a (a0d) (a0f))) (a0H (i:=10) a4j.nd rfl (Or.inl rfl)) (a0h (a0J (a0y a7H (a6m (a0n a0k (pv 3) (pv 10) (λ_ _=>rfl)) dk.c MK.m MK.ok hr MK.b .nil a0D) (a0q GT.ok hr (by rfl) GT.m GT.kp GT.b .nil a0D (a0a (a0n a0k (a0n a0k (pv 4) (pv 10) (λ_ _=>rfl)) (a2t a1J a0d) (λ_ _=>rfl)) (a0f))) (nomark _)) (a0h (a0v a3A)) (a0x))))))))
   (a0h (a0v (a0Y a1g (a6m (a3J dk.mkk dk.oki hr (by rfl) dk.g dk.bi .nil a0D (a0a (a0q GT.ok hr (by rfl) GT.m GT.kp GT.b .nil a0D (a0a (a0n a0k (a0n a0k (pv 4) (a0d) (λ_ _=>rfl)) (a2t a1J a0d) (λ_ _=>rfl)) (a0f))) (a0f))) dk.c MK.m MK.ok hr MK.b .nil a0D) (a0q GT.ok hr (by rfl) GT.m GT.kp GT.b .nil a0D (a0a (a0n a0k (a0n a0k (pv 4) (a0d) (λ_ _=>rfl)) (a2t a1J a0d) (λ_ _=>rfl)) (a0f))) (nomark _)))))))),?_⟩
 refine ⟨_,rfl,a,ns,rfl,hS,λp0 sg0 nm0 q0 H1 s1 bk0 B0=>?_⟩;refine ⟨_,rfl,a,ns,12,rfl,s1.seq hS,by decide,λc12=>⟨(by show 1<=sizeLine;decide),λe1 he1=>?_⟩⟩;have t1:=a0g he1 (.lst [.int c12]);have ge1:upd H1 e1 (.lst [.int c12]) e1=some (.lst [.int c12]):=a0b;generalize upd H1 e1 (.lst [.int c12])=I1 at t1 ge1 ⊢;refine ⟨_,rfl,_,rfl,a,_,rfl,(s1.trans t1).seq hS,λe2 he2=>?_⟩;obtain ⟨ms1,em1,lm1⟩:=a5q ns (some 1) none;rw [em1];have t2:=a0g he2 (.lst (ms1.map V.int));have ge2:upd I1 e2 (.lst (ms1.map V.int)) e2=some (.lst (ms1.map V.int)):=a0b;generalize upd I1 e2 (.lst (ms1.map V.int))=I2 at t2 ge2 ⊢;refine ⟨e1,e2,_,_,rfl,rfl,t2 _ _ ge1,ge2,a3t (by rw [List.length_map];show 1+ms1.length<=_;omega),λe3 he3=>?_⟩;have t3:=a0g he3 (.lst ([.int c12]++ms1.map V.int));have ge3:upd I2 e3 (.lst ([.int c12]++ms1.map V.int)) e3=some (.lst ((c12 :: ms1).map V.int)):=a0b;generalize upd I2 e3 (.lst ([.int c12]++ms1.map V.int))=I3 at t3 ge3 ⊢;have t13:=(t1.trans t2).trans t3;refine ⟨e3,c12 :: ms1,rfl,SqL.of ge3,λp1 sg1 nm1 q1 H2 s2 bk1 B1=>?_⟩;have s02:=(s1.trans t13).trans s2;have bk0:=a3i (t13.trans s2) bk0;refine ⟨_,rfl,p0,sg0,q0.1,nm0,q0.2,rfl,bk0,B0.b,λH3 s3 r0 d0 rn0 hd0 ne0=>?_⟩;have sm0:a0E H3 (upd (upd H3 d0 (.own r0)) r0 (.ins C d0 [])):=a0w rn0 (a0g hd0 _);refine ⟨r0,d0,sg0,nm0,q0,rfl,a0b,B0.b,λl0 H4 k4 ln0 D0=>⟨rfl,?_⟩⟩;have s34:a0E H3 H4:=λx o hx=>k4 x o (λe=>by rw [e,rn0] at hx;cases hx) (sm0 _ _ hx);have bk1:=a3i (s3.trans s34) bk1;refine ⟨_,rfl,p1,sg1,q1.1,nm1,q1.2,rfl,bk1,B1.b,λH5 s5 r1 d1 rn1 hd1 ne1=>?_⟩;have sm1:a0E H5 (upd (upd H5 d1 (.own r1)) r1 (.ins C d1 [])):=a0w rn1 (a0g hd1 _);refine ⟨r1,d1,sg1,nm1,q1,rfl,a0b,B1.b,λl1 H6 k6 ln1 D1=>⟨rfl,?_⟩⟩;have s56:a0E H5 H6:=λx o hx=>k6 x o (λe=>by rw [e,rn1] at hx;cases hx) (sm1 _ _ hx);have D0:=D0.same (s5.trans s56);have bk0:=a3i ((s3.trans s34).trans (s5.trans s56)) bk0;have bk1:=a3i (s5.trans s56) bk1;have ln1':H5 l1=none:=sm1.free ln1;have f0:∀ {x:Addr},H6 x=none->H5 x=none:=λh=>s56.free h;obtain ⟨dx0,_,_,_,_,ys0,gr0,_,_,_,_,gl0,_⟩:=id D0;obtain ⟨dx1,_,_,_,_,ys1,gr1,_,_,_,_,gl1,_⟩:=id D1;have r01:r0≠r1:=λe=>by
  obtain ⟨dy,_,_,_,_,_,g,_⟩:=(id (D0):a2R C H6 r0 l0 sg0 nm0 q0 [])
  obtain ⟨_,_,_,_,_,_,g4,_⟩:=‹a2R C H4 r0 l0 sg0 nm0 q0 []›;have:=s5 _ _ g4;rw [e,rn1] at this;cases this
 have l01:l0≠l1:=λe=>by
  obtain ⟨_,_,_,_,_,_,_,_,_,_,_,g4,_⟩:=‹a2R C H4 r0 l0 sg0 nm0 q0 []›;have:=s5 _ _ g4;rw [e,ln1'] at this;cases this
 refine ⟨(by show 2<=sizeLine;decide),λdl hdl=>?_⟩;have u1:=a0g hdl (.lst [.ref r0,.ref r1]);have gdl:upd H6 dl (.lst [.ref r0,.ref r1]) dl=some (.lst [.ref r0,.ref r1]):=a0b;have dl0:dl≠l0:=λe=>by rw [e,gl0] at hdl;cases hdl
 have dl1:dl≠l1:=λe=>by rw [e,gl1] at hdl;cases hdl
 generalize upd H6 dl (.lst [.ref r0,.ref r1])=J1 at u1 gdl ⊢;refine ⟨_,rfl,(by show 1<=sizeLine;decide),λa0 ha0=>?_⟩;have u2:=a0g ha0 (.lst [.ref p0]);have ga0:upd J1 a0 (.lst [.ref p0]) a0=some (.lst [.ref p0]):=a0b;have n1:∀ {x:Addr} {o:HO},J1 x=some o->a0≠x:=λh e=>by rw [e,h] at ha0;cases ha0
 generalize upd J1 a0 (.lst [.ref p0])=J2 at u2 ga0 ⊢;refine ⟨_,rfl,(by show 1<=sizeLine;decide),λa1 ha1=>?_⟩;have u3:=a0g ha1 (.lst [.ref p1]);have ga1:upd J2 a1 (.lst [.ref p1]) a1=some (.lst [.ref p1]):=a0b;have n2:∀ {x:Addr} {o:HO},J2 x=some o->a1≠x:=λh e=>by rw [e,h] at ha1;cases ha1
 generalize upd J2 a1 (.lst [.ref p1])=J3 at u3 ga1 ⊢;refine ⟨(by show 2<=sizeLine;decide),λpl hpl=>?_⟩;have u4:=a0g hpl (.lst [.ref a0,.ref a1]);have gpl:upd J3 pl (.lst [.ref a0,.ref a1]) pl=some (.lst [.ref a0,.ref a1]):=a0b;have n3:∀ {x:Addr} {o:HO},J3 x=some o->pl≠x:=λh e=>by rw [e,h] at hpl;cases hpl
 generalize upd J3 pl (.lst [.ref a0,.ref a1])=J4 at u4 gpl ⊢;have u14:=(u1.trans u2).trans (u3.trans u4);have T0:Two C J4 dl pl (λb=>if b then r1 else r0) (λb=>if b then l1 else l0) (λb=>if b then a1 else a0) (λb=>if b then sg1 else sg0) (λb=>if b then nm1 else nm0) (λb=>if b then q1 else q0) (λ_=>[]) 0:=by
  refine ⟨(u2.trans (u3.trans u4)) _ _ gdl,gpl,λb=>?_,λb=>?_,λb=>?_,λb c h=>?_,λb c h=>?_,λb c h=>?_,λb c=>?_,λb=>?_,λb=>Nat.zero_le _⟩
  ·cases b
   ·exact D0.same u14
   ·exact D1.same u14
  ·cases b
   ·exact ⟨_,(u3.trans u4) _ _ ga0,.cons ⟨p0,rfl,a3i u14 bk0⟩ .nil⟩
   ·exact ⟨_,u4 _ _ ga1,.cons ⟨p1,rfl,a3i u14 bk1⟩ .nil⟩
  ·intro w hw;have hw:w∈[if b then q1 else q0]:=hw;rw [List.mem_singleton.mp hw];cases b
   ·exact B0
   ·exact B1
  ·cases b <;> cases c
   ·exact absurd rfl h
   ·exact r01
   ·exact Ne.symm r01
   ·exact absurd rfl h
  ·cases b <;> cases c
   ·exact absurd rfl h
   ·exact l01
   ·exact Ne.symm l01
   ·exact absurd rfl h
  ·cases b <;> cases c
   ·exact absurd rfl h
   ·exact Ne.symm (n2 ga0)
   ·exact n2 ga0
   ·exact absurd rfl h
  ·cases b <;> cases c
   ·exact Ne.symm (n1 (u1 _ _ gl0))
   ·exact Ne.symm (n2 (u2 _ _ (u1 _ _ gl0)))
   ·exact Ne.symm (n1 (u1 _ _ gl1))
   ·exact Ne.symm (n2 (u2 _ _ (u1 _ _ gl1)))
  ·cases b
   ·exact ⟨dl0,Ne.symm (n1 gdl),n3 ((u1.trans (u2.trans u3)) _ _ gl0),n3 (u3 _ _ ga0)⟩
   ·exact ⟨dl1,Ne.symm (n2 (u2 _ _ gdl)),n3 ((u1.trans (u2.trans u3)) _ _ gl1),n3 ga1⟩
 have sAll:a0E H J4:=(s02.trans ((s3.trans s34).trans (s5.trans s56))).trans u14;generalize (λb:Bool=>if b then r1 else r0)=r at T0;generalize (λb:Bool=>if b then l1 else l0)=l at T0;generalize (λb:Bool=>if b then a1 else a0)=aa at T0;generalize (λb:Bool=>if b then sg1 else sg0)=sg at T0;generalize (λb:Bool=>if b then nm1 else nm0)=nm at T0;generalize (λb:Bool=>if b then q1 else q0)=q at T0;generalize (λ_:Bool=>([]:List Pw))=hs at T0;refine ⟨(by show 1<=sizeLine;decide),λc1 hc1=>?_⟩;have v1:=a0g hc1 (.lst [.int 7]);have gc1:upd J4 c1 (.lst [.int 7]) c1=some (.lst [.int 7]):=a0b;generalize upd J4 c1 (.lst [.int 7])=L1 at v1 gc1 ⊢;refine ⟨_,rfl,_,rfl,a,_,rfl,(sAll.trans v1).seq hS,λc2 hc2=>?_⟩;obtain ⟨ms,em,lm⟩:=a5q ns (some 12) none;rw [em];have v2:=a0g hc2 (.lst (ms.map V.int));have gc2:upd L1 c2 (.lst (ms.map V.int)) c2=some (.lst (ms.map V.int)):=a0b;generalize upd L1 c2 (.lst (ms.map V.int))=L2 at v2 gc2 ⊢;refine ⟨c2,_,rfl,.inl (SqL.of gc2),λc3 hc3=>?_⟩;have v3:=a0g hc3 (.lst (ms.map V.int));have gc3:upd L2 c3 (.lst (ms.map V.int)) c3=some (.lst (ms.map V.int)):=a0b;generalize upd L2 c3 (.lst (ms.map V.int))=L3 at v3 gc3 ⊢;refine ⟨c1,c3,_,_,rfl,rfl,(v2.trans v3) _ _ gc1,gc3,a3t (by rw [List.length_map];show 1+ms.length<=_;omega),λc4 hc4=>?_⟩;have v4:=a0g hc4 (.lst ([.int 7]++ms.map V.int));have gc4:upd L3 c4 (.lst ([.int 7]++ms.map V.int)) c4=some (.lst ((7 :: ms).map V.int)):=a0b;have v13:=(v1.trans v2).trans v3;have nc:∀ {x:Addr} {o:HO},J4 x=some o->c4≠x:=λh e=>by rw [e,v13 _ _ h] at hc4;cases hc4
 have oc:∀ b,c4≠r b/\c4≠l b/\c4≠aa b:=λb=>by
  obtain ⟨_,_,_,_,_,_,g1,_,_,_,_,g2,_⟩:=T0.D b;obtain ⟨_,g3,_⟩:=T0.Z b;exact ⟨nc g1,nc g2,nc g3⟩
 generalize upd L3 c4 (.lst ([.int 7]++ms.map V.int))=L4 at v4 gc4 ⊢;have T1:=T0.same (v13.trans v4);have lc:(7 :: ms).length<=64:=by rw [List.length_cons];omega
 generalize (7 :: ms)=cs at gc4 lc;refine ⟨c4,rfl,⟨_,SqL.of gc4⟩,?_⟩;refine a3u (xs:=cs.map V.int) (λi σ H'=>H' c4=some (.lst (cs.map V.int))/\(∃ q hs,Two C H' dl pl r l aa sg nm q hs i)/\∃ x5 x6 x7 x8 x9 x10:Option V,σ=[some (.ref a),some (.ref p0),some (.ref p1),some (.ref dl),some (.ref pl),x5,x6,x7,x8,x9,x10]) ⟨gc4,⟨q,hs,T1⟩,_,_,_,_,_,_,rfl⟩ (λi σ H' _ hP=>SqL.of hP.1) (λi x σ M hx hP=>?_) (λσ M hP=>?_)
 ·obtain ⟨gM,⟨q,hs,T⟩,x5,x6,x7,x8,x9,x10,rfl⟩:=hP;rw [List.getElem?_map] at hx;obtain ⟨cell,hc,rfl⟩:=Option.map_eq_some_iff.mp hx;have il:=(List.getElem?_eq_some_iff.mp hc).1;refine ⟨_,rfl,_,_,rfl,rfl,⟨by decide,by decide⟩,_,_,rfl,rfl,(by show (0:Int) < _;decide),?_⟩;obtain ⟨b,eb⟩:=two_of (cell / 3);dsimp only;rw [eb];refine ⟨λσ' H'=>H' c4=some (.lst (cs.map V.int))/\(∃ q hs,Two C H' dl pl r l aa sg nm q hs (i+1))/\∃ x7 x8 x9 x10:Option V,σ'=[some (.ref a),some (.ref p0),some (.ref p1),some (.ref dl),some (.ref pl),some (.int cell),some (.int (kI b)),x7,x8,x9,x10],?_,?_⟩
  ·obtain ⟨xs,p,gx,ax,bk⟩:=a5c (T.Z b);have Bq:Bk5 (sg b) (q b).1 (nm b) (q b).2:=T.B b (q b) (List.mem_append_right _ (.head _));refine ⟨_,rfl,_,_,rfl,rfl,(by show (0:Int) < _;decide),rfl,_,rfl,a1K (λc=>?_) (λc=>?_)⟩
   ·refine ⟨_,rfl,_,rfl,pl,_,_,_,rfl,rfl,SqL.of T.hp,a2Q b,_,rfl,aa b,_,_,_,rfl,rfl,SqL.of gx,ax,_,rfl,_,_,rfl,rfl,⟨by decide,by decide⟩,p,_,sg b,nm b,q b,rfl,bk,Bq,λt z due M1 m1 gt gq=>?_⟩;refine ⟨t,_,rfl,SqT.of gt,rfl,_,_,rfl,_,_,rfl,rfl,?_⟩;obtain ⟨e1,e2,e3⟩:=gq_ans gq;have Tm:=T.same m1;obtain ⟨dx,_,_,_,_,_,g0,_⟩:=id (Tm.D b);refine ⟨_,rfl,_,rfl,dl,_,_,_,rfl,rfl,SqL.of Tm.hd,a2Q b,r b,dx,_,rfl,g0,rfl,_,rfl,r b,l b,sg b,nm b,q b,hs b,z,rfl,Tm.D b,Bq,Nat.le_trans gq.1.1 (by decide),wo_of gq.1,e2,λM2 m2=>?_⟩;refine ⟨_,rfl,_,_,rfl,rfl,a3t (by rw [show (Str.ofString "refused ").length=8 by decide +kernel];omega),rfl,_,rfl,?_⟩;rw [show Str.ofString "refused "=kRef from rfl,e1,a6i];refine a2v ⟨m2 _ _ (m1 _ _ gM),⟨q,hs,?_⟩,_,_,_,_,rfl⟩;have:=Tm.same m2;exact ⟨this.hd,this.hp,this.D,this.Z,this.B,this.nr,this.nl,this.na,this.la,this.dx,λb=>Nat.le_succ_of_le (this.ln b)⟩
   ·refine ⟨_,rfl,_,rfl,pl,_,_,_,rfl,rfl,SqL.of T.hp,a2Q b,_,rfl,aa b,_,_,_,rfl,rfl,SqL.of gx,ax,_,rfl,_,_,rfl,rfl,⟨by decide,by decide⟩,p,_,sg b,nm b,q b,rfl,bk,Bq,λd k z n M1 m1 gd hk=>?_⟩;have Tm:=T.same m1;have h9:(hs b).length<=900:=by have:=T.ln b;omega
    refine ⟨_,rfl,_,rfl,dl,_,_,_,rfl,rfl,SqL.of Tm.hd,a2Q b,_,rfl,r b,l b,d,sg b,nm b,q b,hs b,k,z,n,rfl,Tm.D b,h9,sz_of Bq,gd,hk,λM2 k2 D2=>?_⟩;obtain ⟨dx,_,_,_,_,_,g0,_,_,_,_,g5,_⟩:=id (Tm.D b);have Z2:=(Tm.Z b).k2 k2 g0 g5 (Tm.la b b);have hp2:M2 pl=_:=k2 _ _ (a0I Tm.hp g0 (by intro z;cases z)) (Tm.dx b).2.2.1 Tm.hp;have gd2:M2 d=_:=k2.ke g0 g5 _ _ gd;refine ⟨_,rfl,_,rfl,pl,_,_,_,rfl,rfl,SqL.of hp2,a2Q b,_,rfl,aa b,d,sg b,nm b,q b,hs b,k,z,n,rfl,Z2,h9,sz_of Bq,gd2,hk,λM3 k3 Z3=>?_⟩;refine ⟨rfl,_,rfl,?_⟩;rw [a6i];obtain ⟨B',l'⟩:=nxt_ok (k:=k) (z:=z) (x:=n) (T.B b);obtain ⟨T3,o3⟩:=Tm.step k2 D2 k3 Z3 B' (Nat.le_trans l' (Nat.succ_le_succ (T.ln b)));exact a2v ⟨o3 _ _ oc (m1 _ _ gM),⟨_,_,T3⟩,_,_,_,_,rfl⟩
  clear x7 x8 x9 x10 T;rintro σ' M1 ⟨gM1,⟨q,hs,T⟩,x7,x8,x9,x10,rfl⟩;refine ⟨2,rfl,by decide,by decide,?_⟩;refine a1r (n:=2) (λj σ H'=>a0E M1 H'/\∃ x10:Option V,σ=[some (.ref a),some (.ref p0),some (.ref p1),some (.ref dl),some (.ref pl),some (.int cell),some (.int (kI b)),x7,x8,x9,x10]) ⟨a0E.refl _,_,rfl⟩ (λj σ M2 hj hP=>?_) (λσ M2 hP=>?_)
  ·obtain ⟨m2,y10,rfl⟩:=hP;obtain ⟨c,ec⟩:∃ c,(0:Int)+((j:Nat):Int)=kI c:=by
    have:j=0\/j=1:=by omega
    rcases this with rfl | rfl
    ·exact ⟨false,rfl⟩
    ·exact ⟨true,rfl⟩
   rw [ec];have T2:=T.same m2;obtain ⟨dx,_,_,_,_,_,g0,_⟩:=id (T2.D c);have Bc:Bk5 (sg c) (q c).1 (nm c) (q c).2:=T.B c (q c) (List.mem_append_right _ (.head _));refine ⟨_,rfl,_,rfl,dl,_,_,_,rfl,rfl,SqL.of T2.hd,a2Q c,r c,dx,_,rfl,g0,rfl,r c,l c,sg c,nm c,q c,hs c,rfl,T2.D c,Bc.b,λM3 m3=>?_⟩;have T3:=T2.same m3;obtain ⟨xs,p,gx,ax,bk⟩:=a5c (T3.Z c);refine ⟨_,rfl,_,rfl,pl,_,_,_,rfl,rfl,SqL.of T3.hp,a2Q c,_,rfl,aa c,_,_,_,rfl,rfl,SqL.of gx,ax,p,sg c,(q c).1,nm c,(q c).2,rfl,bk,Bc.b,λM4 m4=>?_⟩;refine ⟨rfl,_,rfl,?_⟩;rw [a6i];exact a2v ⟨(m2.trans m3).trans m4,_,rfl⟩
  obtain ⟨m2,y10,rfl⟩:=hP;exact ⟨m2 _ _ gM1,⟨q,hs,T.same m2⟩,_,_,_,_,_,_,rfl⟩
 obtain ⟨gM,⟨q,hs,T⟩,x5,x6,x7,x8,x9,x10,rfl⟩:=hP;obtain ⟨xs,p,gx,ax,bk⟩:=a5c (T.Z false);have Bq:Bk5 (sg false) (q false).1 (nm false) (q false).2:=T.B false (q false) (List.mem_append_right _ (.head _));refine ⟨_,rfl,pl,_,_,_,rfl,rfl,SqL.of T.hp,a2Q false,_,rfl,aa false,_,_,_,rfl,rfl,SqL.of gx,ax,p,sg false,(q false).1,nm false,(q false).2,rfl,bk,Bq.b,λM1 m1 rr dd rn hd ne=>?_⟩;have sm:a0E M1 (upd (upd M1 dd (.own rr)) rr (.ins C dd [])):=a0w rn (a0g hd _);refine ⟨rr,dd,sg false,nm false,q false,rfl,a0b,Bq.b,λll M2 k2 lln DD=>⟨rfl,?_⟩⟩;have s12:a0E M1 M2:=λx o hx=>k2 x o (λe=>by rw [e,rn] at hx;cases hx) (sm _ _ hx);obtain ⟨dx,_,_,_,_,_,g0,_⟩:=id DD;refine ⟨rr,dx,_,rfl,g0,rfl,rr,ll,sg false,nm false,q false,[],rfl,DD,Bq.b,λM3 m3=>?_⟩;have T3:=T.same ((m1.trans s12).trans m3);obtain ⟨xs3,p3,gx3,ax3,bk3⟩:=a5c (T3.Z false);refine ⟨_,rfl,pl,_,_,_,rfl,rfl,SqL.of T3.hp,a2Q false,_,rfl,aa false,_,_,_,rfl,rfl,SqL.of gx3,ax3,p3,sg false,(q false).1,nm false,(q false).2,rfl,bk3,Bq.b,λM4 m4=>⟨rfl,?_⟩⟩;rw [decide_eq_true rfl];exact qq M4
end
abbrev sTN:Stmt:=top 116
abbrev mCT:Stmt:=a4S 9 (top 118)
theorem al1 {α:Type} {P:List α->Prop} (h:∀ a0:α,P [a0]):∀ us:List α,us.length=1->P us
 | [a0],_=>h a0
theorem al2 {α:Type} {P:List α->Prop} (h:∀ a0 a1:α,P [a0,a1]):∀ us:List α,us.length=2->P us
 | [a0,a1],_=>h a0 a1
theorem al3 {α:Type} {P:List α->Prop} (h:∀ a0 a1 a2:α,P [a0,a1,a2]):∀ us:List α,us.length=3->P us
 | [a0,a1,a2],_=>h a0 a1 a2
theorem al4 {α:Type} {P:List α->Prop} (h:∀ a0 a1 a2 a3:α,P [a0,a1,a2,a3]):∀ us:List α,us.length=4->P us
 | [a0,a1,a2,a3],_=>h a0 a1 a2 a3
theorem al5 {α:Type} {P:List α->Prop} (h:∀ a0 a1 a2 a3 a4:α,P [a0,a1,a2,a3,a4]):∀ us:List α,us.length=5->P us
 | [a0,a1,a2,a3,a4],_=>h a0 a1 a2 a3 a4
theorem all_mk {l:PySem.W.OpenLaw} {w:World} {K:PySem.W.Frag} {h:Heap} {mg:Str->Option Value} {fa f1 f2 f3 f4 f5 f6 f7 f8 f9 f10 f11 f12 f13 f14 f15 f16 f17 f18 f19 f20 f21 f22 f23 f24 f25 f26 f27 f28 f29 f30 f31 f32 f33 f34 f35 f36 f37 f38 f39 f40:Addr} (X:K.In h) (G:h.Ns mainGlobals mg) (hfa:mg "law"=some (.ref fa))
  {od1 an1 od2 an2 od3 an3 od4 an4 od5 an5 od6 an6 od7 an7 od8 an8 od9 an9 od10 an10 od11 an11 od12 an12 od13 an13 od14 an14 od15 an15 od16 an16 od17 an17 od18 an18 od19 an19 od20 an20 od21 an21 od22 an22 od23 an23 od24 an24 od25 an25 od26 an26 od27 an27 od28 an28 od29 an29 od30 an30 od31 an31 od32 an32 od33 an33 od34 an34 od35 an35 od36 an36 od37 an37 od38 an38 od39 an39 od40 an40:Option Addr} {sl1 sl2 sl3 sl4 sl5 sl6 sl7 sl8 sl9 sl10 sl11 sl12 sl13 sl14 sl15 sl16 sl17 sl18 sl19 sl20 sl21 sl22 sl23 sl24 sl25 sl26 sl27 sl28 sl29 sl30 sl31 sl32 sl33 sl34 sl35 sl36 sl37 sl38 sl39 sl40:Array (Option Value)}
  {oc1 kV1 dc1 pm1 cd1 ct1 oc2 kV2 dc2 pm2 cd2 ct2 oc3 kV3 dc3 pm3 cd3 ct3 oc4 kV4 dc4 pm4 cd4 ct4 oc5 kV5 dc5 pm5 cd5 ct5 oc6 kV6 dc6 pm6 cd6 ct6 oc7 kV7 dc7 pm7 cd7 ct7 oc8 kV8 dc8 pm8 cd8 ct8 oc9 kV9 dc9 pm9 cd9 ct9 oc10 kV10 dc10 pm10 cd10 ct10 oc11 kV11 dc11 pm11 cd11 ct11 oc12 kV12 dc12 pm12 cd12 ct12 oc13 kV13 dc13 pm13 cd13 ct13 oc14 kV14 dc14 pm14 cd14 ct14 oc15 kV15 dc15 pm15 cd15 ct15 oc16 kV16 dc16 pm16 cd16 ct16 oc17 kV17 dc17 pm17 cd17 ct17 oc18 kV18 dc18 pm18 cd18 ct18 oc19 kV19 dc19 pm19 cd19 ct19 oc20 kV20 dc20 pm20 cd20 ct20 oc21 kV21 dc21 pm21 cd21 ct21 oc22 kV22 dc22 pm22 cd22 ct22 oc23 kV23 dc23 pm23 cd23 ct23 oc24 kV24 dc24 pm24 cd24 ct24 oc25 kV25 dc25 pm25 cd25 ct25 oc26 kV26 dc26 pm26 cd26 ct26 oc27 kV27 dc27 pm27 cd27 ct27 oc28 kV28 dc28 pm28 cd28 ct28 oc29 kV29 dc29 pm29 cd29 ct29 oc30 kV30 dc30 pm30 cd30 ct30 oc31 kV31 dc31 pm31 cd31 ct31 oc32 kV32 dc32 pm32 cd32 ct32 oc33 kV33 dc33 pm33 cd33 ct33 oc34 kV34 dc34 pm34 cd34 ct34 oc35 kV35 dc35 pm35 cd35 ct35 oc36 kV36 dc36 pm36 cd36 ct36 oc37 kV37 dc37 pm37 cd37 ct37 oc38 kV38 dc38 pm38 cd38 ct38 oc39 kV39 dc39 pm39 cd39 ct39 oc40 kV40 dc40 pm40 cd40 ct40:Value}
  (a1:PySem.W.nsIn K mainGlobals "weight_sums"=some (some (.ref f1))) (l1:K.lookup f1=some ⟨oc1,od1,.func (PySem.W.fnOf "weight_sums" "weight_sums" (a0s K94C.a7s) (a0o K94C.a7s) (a0e K94C.a7s) .none kV1 dc1 pm1 an1 cd1 ct1),sl1⟩) (c1:PySem.W.codeIn K cd1 "weight_sums"=true) (k1:PySem.W.keepIn K (.ref f1)=true)
  (a2:PySem.W.nsIn K mainGlobals "row_with"=some (some (.ref f2))) (l2:K.lookup f2=some ⟨oc2,od2,.func (PySem.W.fnOf "row_with" "row_with" (a0s K94C.b3z) (a0o K94C.b3z) (a0e K94C.b3z) .none kV2 dc2 pm2 an2 cd2 ct2),sl2⟩) (c2:PySem.W.codeIn K cd2 "row_with"=true) (k2:PySem.W.keepIn K (.ref f2)=true)
  (a3:PySem.W.nsIn K mainGlobals "square"=some (some (.ref f3))) (l3:K.lookup f3=some ⟨oc3,od3,.func (PySem.W.fnOf "square" "square" (a0s K94C.a2B) (a0o K94C.a2B) (a0e K94C.a2B) .none kV3 dc3 pm3 an3 cd3 ct3),sl3⟩) (c3:PySem.W.codeIn K cd3 "square"=true) (k3:PySem.W.keepIn K (.ref f3)=true)
  (a4:PySem.W.nsIn K mainGlobals "least"=some (some (.ref f4))) (l4:K.lookup f4=some ⟨oc4,od4,.func (PySem.W.fnOf "least" "least" (a0s K94C.a3Y) (a0o K94C.a3Y) (a0e K94C.a3Y) .none kV4 dc4 pm4 an4 cd4 ct4),sl4⟩) (c4:PySem.W.codeIn K cd4 "least"=true) (k4:PySem.W.keepIn K (.ref f4)=true)
  (a5:PySem.W.nsIn K mainGlobals "added"=some (some (.ref f5))) (l5:K.lookup f5=some ⟨oc5,od5,.func (PySem.W.fnOf "added" "added" (a0s K94C.a4v) (a0o K94C.a4v) (a0e K94C.a4v) .none kV5 dc5 pm5 an5 cd5 ct5),sl5⟩) (c5:PySem.W.codeIn K cd5 "added"=true) (k5:PySem.W.keepIn K (.ref f5)=true)
  (a6:PySem.W.nsIn K mainGlobals "parted_least"=some (some (.ref f6))) (l6:K.lookup f6=some ⟨oc6,od6,.func (PySem.W.fnOf "parted_least" "parted_least" (a0s K94C.sPl) (a0o K94C.sPl) (a0e K94C.sPl) .none kV6 dc6 pm6 an6 cd6 ct6),sl6⟩) (c6:PySem.W.codeIn K cd6 "parted_least"=true) (k6:PySem.W.keepIn K (.ref f6)=true)
  (a7:PySem.W.nsIn K mainGlobals "refuse_top"=some (some (.ref f7))) (l7:K.lookup f7=some ⟨oc7,od7,.func (PySem.W.fnOf "refuse_top" "refuse_top" (a0s b3t) (a0o b3t) (a0e b3t) .none kV7 dc7 pm7 an7 cd7 ct7),sl7⟩) (c7:PySem.W.codeIn K cd7 "refuse_top"=true) (k7:PySem.W.keepIn K (.ref f7)=true)
  (a8:PySem.W.nsIn K mainGlobals "least_stairs"=some (some (.ref f8))) (l8:K.lookup f8=some ⟨oc8,od8,.func (PySem.W.fnOf "least_stairs" "least_stairs" (a0s a3e) (a0o a3e) (a0e a3e) .none kV8 dc8 pm8 an8 cd8 ct8),sl8⟩) (c8:PySem.W.codeIn K cd8 "least_stairs"=true) (k8:PySem.W.keepIn K (.ref f8)=true)
  (a9:PySem.W.nsIn K mainGlobals "cheapest_bounded"=some (some (.ref f9))) (l9:K.lookup f9=some ⟨oc9,od9,.func (PySem.W.fnOf "cheapest_bounded" "cheapest_bounded" (a0s a2r) (a0o a2r) (a0e a2r) .none kV9 dc9 pm9 an9 cd9 ct9),sl9⟩) (c9:PySem.W.codeIn K cd9 "cheapest_bounded"=true) (k9:PySem.W.keepIn K (.ref f9)=true)
  (a10:PySem.W.nsIn K mainGlobals "is_amount"=some (some (.ref f10))) (l10:K.lookup f10=some ⟨oc10,od10,.func (PySem.W.fnOf "is_amount" "is_amount" (a0s a5X) (a0o a5X) (a0e a5X) .none kV10 dc10 pm10 an10 cd10 ct10),sl10⟩) (c10:PySem.W.codeIn K cd10 "is_amount"=true) (k10:PySem.W.keepIn K (.ref f10)=true)
  (a11:PySem.W.nsIn K mainGlobals "are_amounts"=some (some (.ref f11))) (l11:K.lookup f11=some ⟨oc11,od11,.func (PySem.W.fnOf "are_amounts" "are_amounts" (a0s b2E) (a0o b2E) (a0e b2E) .none kV11 dc11 pm11 an11 cd11 ct11),sl11⟩) (c11:PySem.W.codeIn K cd11 "are_amounts"=true) (k11:PySem.W.keepIn K (.ref f11)=true)
  (a12:PySem.W.nsIn K mainGlobals "made_prices"=some (some (.ref f12))) (l12:K.lookup f12=some ⟨oc12,od12,.func (PySem.W.fnOf "made_prices" "made_prices" (a0s sMP) (a0o sMP) (a0e sMP) .none kV12 dc12 pm12 an12 cd12 ct12),sl12⟩) (c12:PySem.W.codeIn K cd12 "made_prices"=true) (k12:PySem.W.keepIn K (.ref f12)=true)
  (a13:PySem.W.nsIn K mainGlobals "made_weights"=some (some (.ref f13))) (l13:K.lookup f13=some ⟨oc13,od13,.func (PySem.W.fnOf "made_weights" "made_weights" (a0s sMW) (a0o sMW) (a0e sMW) .none kV13 dc13 pm13 an13 cd13 ct13),sl13⟩) (c13:PySem.W.codeIn K cd13 "made_weights"=true) (k13:PySem.W.keepIn K (.ref f13)=true)
  (a14:PySem.W.nsIn K mainGlobals "price_moved"=some (some (.ref f14))) (l14:K.lookup f14=some ⟨oc14,od14,.func (PySem.W.fnOf "price_moved" "price_moved" (a0s sPM) (a0o sPM) (a0e sPM) .none kV14 dc14 pm14 an14 cd14 ct14),sl14⟩) (c14:PySem.W.codeIn K cd14 "price_moved"=true) (k14:PySem.W.keepIn K (.ref f14)=true)
  (a15:PySem.W.nsIn K mainGlobals "weight_moved"=some (some (.ref f15))) (l15:K.lookup f15=some ⟨oc15,od15,.func (PySem.W.fnOf "weight_moved" "weight_moved" (a0s sWM) (a0o sWM) (a0e sWM) .none kV15 dc15 pm15 an15 cd15 ct15),sl15⟩) (c15:PySem.W.codeIn K cd15 "weight_moved"=true) (k15:PySem.W.keepIn K (.ref f15)=true)
  (a16:PySem.W.nsIn K mainGlobals "refuse_letter"=some (some (.ref f16))) (l16:K.lookup f16=some ⟨oc16,od16,.func (PySem.W.fnOf "refuse_letter" "refuse_letter" (a0s sRL) (a0o sRL) (a0e sRL) .none kV16 dc16 pm16 an16 cd16 ct16),sl16⟩) (c16:PySem.W.codeIn K cd16 "refuse_letter"=true) (k16:PySem.W.keepIn K (.ref f16)=true)
  (a17:PySem.W.nsIn K mainGlobals "refuse_thing"=some (some (.ref f17))) (l17:K.lookup f17=some ⟨oc17,od17,.func (PySem.W.fnOf "refuse_thing" "refuse_thing" (a0s b3u) (a0o b3u) (a0e b3u) .none kV17 dc17 pm17 an17 cd17 ct17),sl17⟩) (c17:PySem.W.codeIn K cd17 "refuse_thing"=true) (k17:PySem.W.keepIn K (.ref f17)=true)
  (a18:PySem.W.nsIn K mainGlobals "with_number"=some (some (.ref f18))) (l18:K.lookup f18=some ⟨oc18,od18,.func (PySem.W.fnOf "with_number" "with_number" (a0s sWN) (a0o sWN) (a0e sWN) .none kV18 dc18 pm18 an18 cd18 ct18),sl18⟩) (c18:PySem.W.codeIn K cd18 "with_number"=true) (k18:PySem.W.keepIn K (.ref f18)=true)
  (a19:PySem.W.nsIn K mainGlobals "numbered"=some (some (.ref f19))) (l19:K.lookup f19=some ⟨oc19,od19,.func (PySem.W.fnOf "numbered" "numbered" (a0s K94C.sNu) (a0o K94C.sNu) (a0e K94C.sNu) .none kV19 dc19 pm19 an19 cd19 ct19),sl19⟩) (c19:PySem.W.codeIn K cd19 "numbered"=true) (k19:PySem.W.keepIn K (.ref f19)=true)
  (a20:PySem.W.nsIn K mainGlobals "book_text"=some (some (.ref f20))) (l20:K.lookup f20=some ⟨oc20,od20,.func (PySem.W.fnOf "book_text" "book_text" (a0s sBT) (a0o sBT) (a0e sBT) .none kV20 dc20 pm20 an20 cd20 ct20),sl20⟩) (c20:PySem.W.codeIn K cd20 "book_text"=true) (k20:PySem.W.keepIn K (.ref f20)=true)
  (a21:PySem.W.nsIn K mainGlobals "read_book"=some (some (.ref f21))) (l21:K.lookup f21=some ⟨oc21,od21,.func (PySem.W.fnOf "read_book" "read_book" (a0s sRB) (a0o sRB) (a0e sRB) .none kV21 dc21 pm21 an21 cd21 ct21),sl21⟩) (c21:PySem.W.codeIn K cd21 "read_book"=true) (k21:PySem.W.keepIn K (.ref f21)=true)
  (a22:PySem.W.nsIn K mainGlobals "rows_of"=some (some (.ref f22))) (l22:K.lookup f22=some ⟨oc22,od22,.func (PySem.W.fnOf "rows_of" "rows_of" (a0s sRO) (a0o sRO) (a0e sRO) .none kV22 dc22 pm22 an22 cd22 ct22),sl22⟩) (c22:PySem.W.codeIn K cd22 "rows_of"=true) (k22:PySem.W.keepIn K (.ref f22)=true)
  (a23:PySem.W.nsIn K mainGlobals "is_letter_row"=some (some (.ref f23))) (l23:K.lookup f23=some ⟨oc23,od23,.func (PySem.W.fnOf "is_letter_row" "is_letter_row" (a0s b3r) (a0o b3r) (a0e b3r) .none kV23 dc23 pm23 an23 cd23 ct23),sl23⟩) (c23:PySem.W.codeIn K cd23 "is_letter_row"=true) (k23:PySem.W.keepIn K (.ref f23)=true)
  (a24:PySem.W.nsIn K mainGlobals "is_thing_row"=some (some (.ref f24))) (l24:K.lookup f24=some ⟨oc24,od24,.func (PySem.W.fnOf "is_thing_row" "is_thing_row" (a0s b3s) (a0o b3s) (a0e b3s) .none kV24 dc24 pm24 an24 cd24 ct24),sl24⟩) (c24:PySem.W.codeIn K cd24 "is_thing_row"=true) (k24:PySem.W.keepIn K (.ref f24)=true)
  (a25:PySem.W.nsIn K mainGlobals "is_name"=some (some (.ref f25))) (l25:K.lookup f25=some ⟨oc25,od25,.func (PySem.W.fnOf "is_name" "is_name" (a0s sIN) (a0o sIN) (a0e sIN) .none kV25 dc25 pm25 an25 cd25 ct25),sl25⟩) (c25:PySem.W.codeIn K cd25 "is_name"=true) (k25:PySem.W.keepIn K (.ref f25)=true)
  (a26:PySem.W.nsIn K mainGlobals "is_number"=some (some (.ref f26))) (l26:K.lookup f26=some ⟨oc26,od26,.func (PySem.W.fnOf "is_number" "is_number" (a0s b0v) (a0o b0v) (a0e b0v) .none kV26 dc26 pm26 an26 cd26 ct26),sl26⟩) (c26:PySem.W.codeIn K cd26 "is_number"=true) (k26:PySem.W.keepIn K (.ref f26)=true)
  (a27:PySem.W.nsIn K mainGlobals "is_question"=some (some (.ref f27))) (l27:K.lookup f27=some ⟨oc27,od27,.func (PySem.W.fnOf "is_question" "is_question" (a0s b2F) (a0o b2F) (a0e b2F) .none kV27 dc27 pm27 an27 cd27 ct27),sl27⟩) (c27:PySem.W.codeIn K cd27 "is_question"=true) (k27:PySem.W.keepIn K (.ref f27)=true)
  (a28:PySem.W.nsIn K mainGlobals "text_or_none"=some (some (.ref f28))) (l28:K.lookup f28=some ⟨oc28,od28,.func (PySem.W.fnOf "text_or_none" "text_or_none" (a0s sTN) (a0o sTN) (a0e sTN) .none kV28 dc28 pm28 an28 cd28 ct28),sl28⟩) (c28:PySem.W.codeIn K cd28 "text_or_none"=true) (k28:PySem.W.keepIn K (.ref f28)=true)
  (a29:PySem.W.nsIn K mainGlobals "_law_cell_at"=some (some (.ref f29))) (l29:K.lookup f29=some ⟨oc29,od29,.func (PySem.W.fnOf "_law_cell_at" "_law_cell_at" (a0s a7i) (a0o a7i) (a0e a7i) .none kV29 dc29 pm29 an29 cd29 ct29),sl29⟩) (c29:PySem.W.codeIn K cd29 "_law_cell_at"=true) (k29:PySem.W.keepIn K (.ref f29)=true)
  (a30:PySem.W.nsIn K mainGlobals "_law_amount"=some (some (.ref f30))) (l30:K.lookup f30=some ⟨oc30,od30,.func (PySem.W.fnOf "_law_amount" "_law_amount" (a0s a3c) (a0o a3c) (a0e a3c) .none kV30 dc30 pm30 an30 cd30 ct30),sl30⟩) (c30:PySem.W.codeIn K cd30 "_law_amount"=true) (k30:PySem.W.keepIn K (.ref f30)=true)
  (a31:PySem.W.nsIn K mainGlobals "_law_signs"=some (some (.ref f31))) (l31:K.lookup f31=some ⟨oc31,od31,.func (PySem.W.fnOf "_law_signs" "_law_signs" (a0s a3T) (a0o a3T) (a0e a3T) .none kV31 dc31 pm31 an31 cd31 ct31),sl31⟩) (c31:PySem.W.codeIn K cd31 "_law_signs"=true) (k31:PySem.W.keepIn K (.ref f31)=true)
  (a32:PySem.W.nsIn K mainGlobals "_law_names"=some (some (.ref f32))) (l32:K.lookup f32=some ⟨oc32,od32,.func (PySem.W.fnOf "_law_names" "_law_names" (a0s a1B) (a0o a1B) (a0e a1B) .none kV32 dc32 pm32 an32 cd32 ct32),sl32⟩) (c32:PySem.W.codeIn K cd32 "_law_names"=true) (k32:PySem.W.keepIn K (.ref f32)=true)
  (a33:PySem.W.nsIn K mainGlobals "_law_book"=some (some (.ref f33))) (l33:K.lookup f33=some ⟨oc33,od33,.func (PySem.W.fnOf "_law_book" "_law_book" (a0s a5z) (a0o a5z) (a0e a5z) .none kV33 dc33 pm33 an33 cd33 ct33),sl33⟩) (c33:PySem.W.codeIn K cd33 "_law_book"=true) (k33:PySem.W.keepIn K (.ref f33)=true)
  (a34:PySem.W.nsIn K mainGlobals "_law_text"=some (some (.ref f34))) (l34:K.lookup f34=some ⟨oc34,od34,.func (PySem.W.fnOf "_law_text" "_law_text" (a0s a5Y) (a0o a5Y) (a0e a5Y) .none kV34 dc34 pm34 an34 cd34 ct34),sl34⟩) (c34:PySem.W.codeIn K cd34 "_law_text"=true) (k34:PySem.W.keepIn K (.ref f34)=true)
  (a35:PySem.W.nsIn K mainGlobals "_law_number"=some (some (.ref f35))) (l35:K.lookup f35=some ⟨oc35,od35,.func (PySem.W.fnOf "_law_number" "_law_number" (a0s a7j) (a0o a7j) (a0e a7j) .none kV35 dc35 pm35 an35 cd35 ct35),sl35⟩) (c35:PySem.W.codeIn K cd35 "_law_number"=true) (k35:PySem.W.keepIn K (.ref f35)=true)
  (a36:PySem.W.nsIn K mainGlobals "_law_deed"=some (some (.ref f36))) (l36:K.lookup f36=some ⟨oc36,od36,.func (PySem.W.fnOf "_law_deed" "_law_deed" (a0s a7k) (a0o a7k) (a0e a7k) .none kV36 dc36 pm36 an36 cd36 ct36),sl36⟩) (c36:PySem.W.codeIn K cd36 "_law_deed"=true) (k36:PySem.W.keepIn K (.ref f36)=true)
  (a37:PySem.W.nsIn K mainGlobals "_law_done"=some (some (.ref f37))) (l37:K.lookup f37=some ⟨oc37,od37,.func (PySem.W.fnOf "_law_done" "_law_done" (a0s a7l) (a0o a7l) (a0e a7l) .none kV37 dc37 pm37 an37 cd37 ct37),sl37⟩) (c37:PySem.W.codeIn K cd37 "_law_done"=true) (k37:PySem.W.keepIn K (.ref f37)=true)
  (a38:PySem.W.nsIn K mainGlobals "_law_behind"=some (some (.ref f38))) (l38:K.lookup f38=some ⟨oc38,od38,.func (PySem.W.fnOf "_law_behind" "_law_behind" (a0s a3d) (a0o a3d) (a0e a3d) .none kV38 dc38 pm38 an38 cd38 ct38),sl38⟩) (c38:PySem.W.codeIn K cd38 "_law_behind"=true) (k38:PySem.W.keepIn K (.ref f38)=true)
  (a39:PySem.W.nsIn K mainGlobals "_law_question"=some (some (.ref f39))) (l39:K.lookup f39=some ⟨oc39,od39,.func (PySem.W.fnOf "_law_question" "_law_question" (a0s a2y) (a0o a2y) (a0e a2y) .none kV39 dc39 pm39 an39 cd39 ct39),sl39⟩) (c39:PySem.W.codeIn K cd39 "_law_question"=true) (k39:PySem.W.keepIn K (.ref f39)=true)
  (a40:PySem.W.nsIn K mainGlobals "law"=some (some (.ref f40))) (l40:K.lookup f40=some ⟨oc40,od40,.func (PySem.W.fnOf "law" "law" (a0s b0w) (a0o b0w) (a0e b0w) .none kV40 dc40 pm40 an40 cd40 ct40),sl40⟩) (c40:PySem.W.codeIn K cd40 "law"=true) (k40:PySem.W.keepIn K (.ref f40)=true)
  {tk1:Tok} (y1:PySem.W.nsIn K mainGlobals "SIGNS"=some (some (.str alpha tk1)))
  {tk2:Tok} (y2:PySem.W.nsIn K mainGlobals "FIGURES"=some (some (.str figs tk2)))
  (z1:PySem.W.nsIn K mainGlobals "len"=some none)
  (z2:PySem.W.nsIn K mainGlobals "range"=some none)
  (z3:PySem.W.nsIn K mainGlobals "tuple"=some none)
  (z4:PySem.W.nsIn K mainGlobals "list"=some none)
  (z5:PySem.W.nsIn K mainGlobals "isinstance"=some none)
  (z6:PySem.W.nsIn K mainGlobals "int"=some none)
  (z7:PySem.W.nsIn K mainGlobals "all"=some none)
  (z8:PySem.W.nsIn K mainGlobals "str"=some none)
  (z9:PySem.W.nsIn K mainGlobals "set"=some none)
  (z10:PySem.W.nsIn K mainGlobals "zip"=some none)
  (z11:PySem.W.nsIn K mainGlobals "enumerate"=some none)
  (z12:PySem.W.nsIn K mainGlobals "sum"=some none)
  (z13:PySem.W.nsIn K mainGlobals "min"=some none)
  (z14:PySem.W.nsIn K mainGlobals "ValueError"=some none)
  {DT:Addr} (gDT:PySem.W.nsIn K mainGlobals "TollError"=some (some (.ref DT)))
  (xDT:b1i K DT=true)
  (eDT:PySem.W.excIn K DT b1g a4I=true)
  {CN:Addr} (gCN:PySem.W.nsIn K mainGlobals "BadName"=some (some (.ref CN)))
  (xCN:b1i K CN=true)
  (eCN:PySem.W.excIn K CN b1g a4I=true)
  {CP:Addr} (gCP:PySem.W.nsIn K mainGlobals "BadPrices"=some (some (.ref CP)))
  (xCP:b1i K CP=true)
  (eCP:PySem.W.excIn K CP b1g a4I=true)
  {CW:Addr} (gCW:PySem.W.nsIn K mainGlobals "BadWeights"=some (some (.ref CW)))
  (xCW:b1i K CW=true)
  (eCW:PySem.W.excIn K CW b1g a4I=true)
  {CL:Addr} (gCL:PySem.W.nsIn K mainGlobals "NothingLeft"=some (some (.ref CL)))
  (xCL:b1i K CL=true)
  (eCL:PySem.W.excIn K CL b1g a4I=true)
  {CB:Addr} (gCB:PySem.W.nsIn K mainGlobals "BadNumber"=some (some (.ref CB)))
  (xCB:b1i K CB=true)
  (eCB:PySem.W.excIn K CB b1g a4I=true)
  (sCNDT:PySem.W.subIn K (.ref CN) (.ref DT)=some true)
  (sCPDT:PySem.W.subIn K (.ref CP) (.ref DT)=some true)
  (sCWDT:PySem.W.subIn K (.ref CW) (.ref DT)=some true)
  (sCLDT:PySem.W.subIn K (.ref CL) (.ref DT)=some true)
  (sCNCP:PySem.W.subIn K (.ref CN) (.ref CP)=some false)
  (sCNCW:PySem.W.subIn K (.ref CN) (.ref CW)=some false)
  (sCNCL:PySem.W.subIn K (.ref CN) (.ref CL)=some false)
  (sCPCN:PySem.W.subIn K (.ref CP) (.ref CN)=some false)
  (sCPCW:PySem.W.subIn K (.ref CP) (.ref CW)=some false)
  (sCPCL:PySem.W.subIn K (.ref CP) (.ref CL)=some false)
  (sCWCN:PySem.W.subIn K (.ref CW) (.ref CN)=some false)
  (sCWCP:PySem.W.subIn K (.ref CW) (.ref CP)=some false)
  (sCWCL:PySem.W.subIn K (.ref CW) (.ref CL)=some false)
  (sCLCN:PySem.W.subIn K (.ref CL) (.ref CN)=some false)
  (sCLCP:PySem.W.subIn K (.ref CL) (.ref CP)=some false)
  (sCLCW:PySem.W.subIn K (.ref CL) (.ref CW)=some false)
  {uA:Addr} (guA:PySem.W.nsIn K mainGlobals "ALONE"=some (some (.ref uA)))
  {duA:Option Addr} {tuA0 tuA1 tuA2:Tok} {nuA:Nat} {euA:Array (Option Value)} (luA:K.lookup uA=some ⟨.type "tuple",duA,.seq #[.str (Str.ofString "cost") tuA0,.str (Str.ofString "many") tuA1,.str (Str.ofString "free") tuA2] nuA,euA⟩)
  {uB:Addr} (guB:PySem.W.nsIn K mainGlobals "WITH_NUMBER"=some (some (.ref uB)))
  {duB:Option Addr} {tuB0 tuB1:Tok} {nuB:Nat} {euB:Array (Option Value)} (luB:K.lookup uB=some ⟨.type "tuple",duB,.seq #[.str (Str.ofString "code") tuB0,.str (Str.ofString "bounded") tuB1] nuB,euB⟩)
  {uC:Addr} (guC:PySem.W.nsIn K mainGlobals "WITH_WORD"=some (some (.ref uC)))
  {duC:Option Addr} {tuC0 tuC1 tuC2 tuC3:Tok} {nuC:Nat} {euC:Array (Option Value)} (luC:K.lookup uC=some ⟨.type "tuple",duC,.seq #[.str (Str.ofString "sure") tuC0,.str (Str.ofString "price") tuC1,.str (Str.ofString "weight") tuC2,.str (Str.ofString "read") tuC3] nuC,euC⟩)
  {PA:Addr} (gPA:PySem.W.nsIn K mainGlobals "Parted"=some (some (.ref PA)))
  {qPAinit:Addr} (faPAinit:PySem.W.findIn K (.ref PA) "__init__"=some (some (.ref qPAinit)))
  (fiPAinit:PySem.W.isFn K (.ref qPAinit)=true)
  {oiPAinit:Value} {diPAinit:Option Addr} {kiPAinit:Value} {uiPAinit:Value} {miPAinit:Value} {niPAinit:Option Addr} {viPAinit:Value} {tiPAinit:Value} {siPAinit:Array (Option Value)} (liPAinit:K.lookup qPAinit=some ⟨oiPAinit,diPAinit,.func (PySem.W.fnOf "__init__" "Parted.__init__" (a0s K94C.a2n) (a0o K94C.a2n) (a0e K94C.a2n) .none kiPAinit uiPAinit miPAinit niPAinit viPAinit tiPAinit),siPAinit⟩)
  (ciPAinit:PySem.W.codeIn K viPAinit "Parted.__init__"=true)
  (kkPAinit:PySem.W.keepIn K (.ref qPAinit)=true)
  {qPAput:Addr} (faPAput:PySem.W.findIn K (.ref PA) "put"=some (some (.ref qPAput)))
  (fiPAput:PySem.W.isFn K (.ref qPAput)=true)
  {oiPAput:Value} {diPAput:Option Addr} {kiPAput:Value} {uiPAput:Value} {miPAput:Value} {niPAput:Option Addr} {viPAput:Value} {tiPAput:Value} {siPAput:Array (Option Value)} (liPAput:K.lookup qPAput=some ⟨oiPAput,diPAput,.func (PySem.W.fnOf "put" "Parted.put" (a0s K94C.b3A) (a0o K94C.b3A) (a0e K94C.b3A) .none kiPAput uiPAput miPAput niPAput viPAput tiPAput),siPAput⟩)
  (ciPAput:PySem.W.codeIn K viPAput "Parted.put"=true)
  (kkPAput:PySem.W.keepIn K (.ref qPAput)=true)
  {qPAleast_sum:Addr} (faPAleast_sum:PySem.W.findIn K (.ref PA) "least_sum"=some (some (.ref qPAleast_sum)))
  (fiPAleast_sum:PySem.W.isFn K (.ref qPAleast_sum)=true)
  {oiPAleast_sum:Value} {diPAleast_sum:Option Addr} {kiPAleast_sum:Value} {uiPAleast_sum:Value} {miPAleast_sum:Value} {niPAleast_sum:Option Addr} {viPAleast_sum:Value} {tiPAleast_sum:Value} {siPAleast_sum:Array (Option Value)} (liPAleast_sum:K.lookup qPAleast_sum=some ⟨oiPAleast_sum,diPAleast_sum,.func (PySem.W.fnOf "least_sum" "Parted.least_sum" (a0s K94C.sLs) (a0o K94C.sLs) (a0e K94C.sLs) .none kiPAleast_sum uiPAleast_sum miPAleast_sum niPAleast_sum viPAleast_sum tiPAleast_sum),siPAleast_sum⟩)
  (ciPAleast_sum:PySem.W.codeIn K viPAleast_sum "Parted.least_sum"=true)
  (kkPAleast_sum:PySem.W.keepIn K (.ref qPAleast_sum)=true)
  {qPAbound:Addr} (faPAbound:PySem.W.findIn K (.ref PA) "bound"=some (some (.ref qPAbound)))
  (fiPAbound:PySem.W.isFn K (.ref qPAbound)=true)
  {oiPAbound:Value} {diPAbound:Option Addr} {kiPAbound:Value} {uiPAbound:Value} {miPAbound:Value} {niPAbound:Option Addr} {viPAbound:Value} {tiPAbound:Value} {siPAbound:Array (Option Value)} (liPAbound:K.lookup qPAbound=some ⟨oiPAbound,diPAbound,.func (PySem.W.fnOf "bound" "Parted.bound" (a0s K94C.a3Z) (a0o K94C.a3Z) (a0e K94C.a3Z) .none kiPAbound uiPAbound miPAbound niPAbound viPAbound tiPAbound),siPAbound⟩)
  (ciPAbound:PySem.W.codeIn K viPAbound "Parted.bound"=true)
  (kkPAbound:PySem.W.keepIn K (.ref qPAbound)=true)
  {qPAways:Addr} (faPAways:PySem.W.findIn K (.ref PA) "ways"=some (some (.ref qPAways)))
  (fiPAways:PySem.W.isFn K (.ref qPAways)=true)
  {oiPAways:Value} {diPAways:Option Addr} {kiPAways:Value} {uiPAways:Value} {miPAways:Value} {niPAways:Option Addr} {viPAways:Value} {tiPAways:Value} {siPAways:Array (Option Value)} (liPAways:K.lookup qPAways=some ⟨oiPAways,diPAways,.func (PySem.W.fnOf "ways" "Parted.ways" (a0s K94C.a7t) (a0o K94C.a7t) (a0e K94C.a7t) .none kiPAways uiPAways miPAways niPAways viPAways tiPAways),siPAways⟩)
  (ciPAways:PySem.W.codeIn K viPAways "Parted.ways"=true)
  (kkPAways:PySem.W.keepIn K (.ref qPAways)=true)
  (pgPA:PySem.W.plainGet K PA Str.empty=true)
  (hdPA:PySem.W.hasDictIn K PA=true)
  (poPA:PySem.W.plainOver K PA=true)
  (saPA:PySem.W.findIn K (.ref PA) "__setattr__"=some (some (.builtin "object.__setattr__")))
  (mkPA:PySem.W.makesIn K PA=true)
  (kcPA:PySem.W.keepIn K (.ref PA)=true)
  (naPAprices:PySem.W.findIn K (.ref PA) "prices"=some none)
  (naPAthings:PySem.W.findIn K (.ref PA) "things"=some none)
  (naPAsums:PySem.W.findIn K (.ref PA) "sums"=some none)
  (naPAheads:PySem.W.findIn K (.ref PA) "heads"=some none)
  (naPAtails:PySem.W.findIn K (.ref PA) "tails"=some none)
  {CO:Addr} (gCO:PySem.W.nsIn K mainGlobals "Counts"=some (some (.ref CO)))
  {qCOinit:Addr} (faCOinit:PySem.W.findIn K (.ref CO) "__init__"=some (some (.ref qCOinit)))
  (fiCOinit:PySem.W.isFn K (.ref qCOinit)=true)
  {oiCOinit:Value} {diCOinit:Option Addr} {kiCOinit:Value} {uiCOinit:Value} {miCOinit:Value} {niCOinit:Option Addr} {viCOinit:Value} {tiCOinit:Value} {siCOinit:Array (Option Value)} (liCOinit:K.lookup qCOinit=some ⟨oiCOinit,diCOinit,.func (PySem.W.fnOf "__init__" "Counts.__init__" (a0s K94C.a2C) (a0o K94C.a2C) (a0e K94C.a2C) .none kiCOinit uiCOinit miCOinit niCOinit viCOinit tiCOinit),siCOinit⟩)
  (ciCOinit:PySem.W.codeIn K viCOinit "Counts.__init__"=true)
  (kkCOinit:PySem.W.keepIn K (.ref qCOinit)=true)
  {qCOput_counts:Addr} (faCOput_counts:PySem.W.findIn K (.ref CO) "put_counts"=some (some (.ref qCOput_counts)))
  (fiCOput_counts:PySem.W.isFn K (.ref qCOput_counts)=true)
  {oiCOput_counts:Value} {diCOput_counts:Option Addr} {kiCOput_counts:Value} {uiCOput_counts:Value} {miCOput_counts:Value} {niCOput_counts:Option Addr} {viCOput_counts:Value} {tiCOput_counts:Value} {siCOput_counts:Array (Option Value)} (liCOput_counts:K.lookup qCOput_counts=some ⟨oiCOput_counts,diCOput_counts,.func (PySem.W.fnOf "put_counts" "Counts.put_counts" (a0s K94C.a7u) (a0o K94C.a7u) (a0e K94C.a7u) .none kiCOput_counts uiCOput_counts miCOput_counts niCOput_counts viCOput_counts tiCOput_counts),siCOput_counts⟩)
  (ciCOput_counts:PySem.W.codeIn K viCOput_counts "Counts.put_counts"=true)
  (kkCOput_counts:PySem.W.keepIn K (.ref qCOput_counts)=true)
  {qCOover_ways:Addr} (faCOover_ways:PySem.W.findIn K (.ref CO) "over_ways"=some (some (.ref qCOover_ways)))
  (fiCOover_ways:PySem.W.isFn K (.ref qCOover_ways)=true)
  {oiCOover_ways:Value} {diCOover_ways:Option Addr} {kiCOover_ways:Value} {uiCOover_ways:Value} {miCOover_ways:Value} {niCOover_ways:Option Addr} {viCOover_ways:Value} {tiCOover_ways:Value} {siCOover_ways:Array (Option Value)} (liCOover_ways:K.lookup qCOover_ways=some ⟨oiCOover_ways,diCOover_ways,.func (PySem.W.fnOf "over_ways" "Counts.over_ways" (a0s K94C.a5Z) (a0o K94C.a5Z) (a0e K94C.a5Z) .none kiCOover_ways uiCOover_ways miCOover_ways niCOover_ways viCOover_ways tiCOover_ways),siCOover_ways⟩)
  (ciCOover_ways:PySem.W.codeIn K viCOover_ways "Counts.over_ways"=true)
  (kkCOover_ways:PySem.W.keepIn K (.ref qCOover_ways)=true)
  {qCOby_way:Addr} (faCOby_way:PySem.W.findIn K (.ref CO) "by_way"=some (some (.ref qCOby_way)))
  (fiCOby_way:PySem.W.isFn K (.ref qCOby_way)=true)
  {oiCOby_way:Value} {diCOby_way:Option Addr} {kiCOby_way:Value} {uiCOby_way:Value} {miCOby_way:Value} {niCOby_way:Option Addr} {viCOby_way:Value} {tiCOby_way:Value} {siCOby_way:Array (Option Value)} (liCOby_way:K.lookup qCOby_way=some ⟨oiCOby_way,diCOby_way,.func (PySem.W.fnOf "by_way" "Counts.by_way" (a0s K94C.sBy) (a0o K94C.sBy) (a0e K94C.sBy) .none kiCOby_way uiCOby_way miCOby_way niCOby_way viCOby_way tiCOby_way),siCOby_way⟩)
  (ciCOby_way:PySem.W.codeIn K viCOby_way "Counts.by_way"=true)
  (kkCOby_way:PySem.W.keepIn K (.ref qCOby_way)=true)
  (pgCO:PySem.W.plainGet K CO Str.empty=true)
  (hdCO:PySem.W.hasDictIn K CO=true)
  (poCO:PySem.W.plainOver K CO=true)
  (saCO:PySem.W.findIn K (.ref CO) "__setattr__"=some (some (.builtin "object.__setattr__")))
  (mkCO:PySem.W.makesIn K CO=true)
  (kcCO:PySem.W.keepIn K (.ref CO)=true)
  (naCOparted:PySem.W.findIn K (.ref CO) "parted"=some none)
  (naCOletters:PySem.W.findIn K (.ref CO) "letters"=some none)
  (naCOcodes:PySem.W.findIn K (.ref CO) "codes"=some none)
  (naCOtails:PySem.W.findIn K (.ref CO) "tails"=some none)
  {C:Addr} (gC:PySem.W.nsIn K mainGlobals "Desk"=some (some (.ref C)))
  {qCinit:Addr} (faCinit:PySem.W.findIn K (.ref C) "__init__"=some (some (.ref qCinit)))
  (fiCinit:PySem.W.isFn K (.ref qCinit)=true)
  {oiCinit:Value} {diCinit:Option Addr} {kiCinit:Value} {uiCinit:Value} {miCinit:Value} {niCinit:Option Addr} {viCinit:Value} {tiCinit:Value} {siCinit:Array (Option Value)} (liCinit:K.lookup qCinit=some ⟨oiCinit,diCinit,.func (PySem.W.fnOf "__init__" "Desk.__init__" (a0s a7o) (a0o a7o) (a0e a7o) .none kiCinit uiCinit miCinit niCinit viCinit tiCinit),siCinit⟩)
  (ciCinit:PySem.W.codeIn K viCinit "Desk.__init__"=true)
  (kkCinit:PySem.W.keepIn K (.ref qCinit)=true)
  {qCbook:Addr} (faCbook:PySem.W.findIn K (.ref C) "book"=some (some (.ref qCbook)))
  (fiCbook:PySem.W.isFn K (.ref qCbook)=true)
  {oiCbook:Value} {diCbook:Option Addr} {kiCbook:Value} {uiCbook:Value} {miCbook:Value} {niCbook:Option Addr} {viCbook:Value} {tiCbook:Value} {siCbook:Array (Option Value)} (liCbook:K.lookup qCbook=some ⟨oiCbook,diCbook,.func (PySem.W.fnOf "book" "Desk.book" (a0s a7p) (a0o a7p) (a0e a7p) .none kiCbook uiCbook miCbook niCbook viCbook tiCbook),siCbook⟩)
  (ciCbook:PySem.W.codeIn K viCbook "Desk.book"=true)
  (kkCbook:PySem.W.keepIn K (.ref qCbook)=true)
  {qCput_price:Addr} (faCput_price:PySem.W.findIn K (.ref C) "put_price"=some (some (.ref qCput_price)))
  (fiCput_price:PySem.W.isFn K (.ref qCput_price)=true)
  {oiCput_price:Value} {diCput_price:Option Addr} {kiCput_price:Value} {uiCput_price:Value} {miCput_price:Value} {niCput_price:Option Addr} {viCput_price:Value} {tiCput_price:Value} {siCput_price:Array (Option Value)} (liCput_price:K.lookup qCput_price=some ⟨oiCput_price,diCput_price,.func (PySem.W.fnOf "put_price" "Desk.put_price" (a0s mPP) (a0o mPP) (a0e mPP) .none kiCput_price uiCput_price miCput_price niCput_price viCput_price tiCput_price),siCput_price⟩)
  (ciCput_price:PySem.W.codeIn K viCput_price "Desk.put_price"=true)
  (kkCput_price:PySem.W.keepIn K (.ref qCput_price)=true)
  {qCput_weight:Addr} (faCput_weight:PySem.W.findIn K (.ref C) "put_weight"=some (some (.ref qCput_weight)))
  (fiCput_weight:PySem.W.isFn K (.ref qCput_weight)=true)
  {oiCput_weight:Value} {diCput_weight:Option Addr} {kiCput_weight:Value} {uiCput_weight:Value} {miCput_weight:Value} {niCput_weight:Option Addr} {viCput_weight:Value} {tiCput_weight:Value} {siCput_weight:Array (Option Value)} (liCput_weight:K.lookup qCput_weight=some ⟨oiCput_weight,diCput_weight,.func (PySem.W.fnOf "put_weight" "Desk.put_weight" (a0s mPW) (a0o mPW) (a0e mPW) .none kiCput_weight uiCput_weight miCput_weight niCput_weight viCput_weight tiCput_weight),siCput_weight⟩)
  (ciCput_weight:PySem.W.codeIn K viCput_weight "Desk.put_weight"=true)
  (kkCput_weight:PySem.W.keepIn K (.ref qCput_weight)=true)
  {qCback:Addr} (faCback:PySem.W.findIn K (.ref C) "back"=some (some (.ref qCback)))
  (fiCback:PySem.W.isFn K (.ref qCback)=true)
  {oiCback:Value} {diCback:Option Addr} {kiCback:Value} {uiCback:Value} {miCback:Value} {niCback:Option Addr} {viCback:Value} {tiCback:Value} {siCback:Array (Option Value)} (liCback:K.lookup qCback=some ⟨oiCback,diCback,.func (PySem.W.fnOf "back" "Desk.back" (a0s a7q) (a0o a7q) (a0e a7q) .none kiCback uiCback miCback niCback viCback tiCback),siCback⟩)
  (ciCback:PySem.W.codeIn K viCback "Desk.back"=true)
  (kkCback:PySem.W.keepIn K (.ref qCback)=true)
  {qCanswer:Addr} (faCanswer:PySem.W.findIn K (.ref C) "answer"=some (some (.ref qCanswer)))
  (fiCanswer:PySem.W.isFn K (.ref qCanswer)=true)
  {oiCanswer:Value} {diCanswer:Option Addr} {kiCanswer:Value} {uiCanswer:Value} {miCanswer:Value} {niCanswer:Option Addr} {viCanswer:Value} {tiCanswer:Value} {siCanswer:Array (Option Value)} (liCanswer:K.lookup qCanswer=some ⟨oiCanswer,diCanswer,.func (PySem.W.fnOf "answer" "Desk.answer" (a0s b3y) (a0o b3y) (a0e b3y) .none kiCanswer uiCanswer miCanswer niCanswer viCanswer tiCanswer),siCanswer⟩)
  (ciCanswer:PySem.W.codeIn K viCanswer "Desk.answer"=true)
  (kkCanswer:PySem.W.keepIn K (.ref qCanswer)=true)
  {qCknows:Addr} (faCknows:PySem.W.findIn K (.ref C) "knows"=some (some (.ref qCknows)))
  (fiCknows:PySem.W.isFn K (.ref qCknows)=true)
  {oiCknows:Value} {diCknows:Option Addr} {kiCknows:Value} {uiCknows:Value} {miCknows:Value} {niCknows:Option Addr} {viCknows:Value} {tiCknows:Value} {siCknows:Array (Option Value)} (liCknows:K.lookup qCknows=some ⟨oiCknows,diCknows,.func (PySem.W.fnOf "knows" "Desk.knows" (a0s a3n) (a0o a3n) (a0e a3n) .none kiCknows uiCknows miCknows niCknows viCknows tiCknows),siCknows⟩)
  (ciCknows:PySem.W.codeIn K viCknows "Desk.knows"=true)
  (kkCknows:PySem.W.keepIn K (.ref qCknows)=true)
  {qCanswer_known:Addr} (faCanswer_known:PySem.W.findIn K (.ref C) "answer_known"=some (some (.ref qCanswer_known)))
  (fiCanswer_known:PySem.W.isFn K (.ref qCanswer_known)=true)
  {oiCanswer_known:Value} {diCanswer_known:Option Addr} {kiCanswer_known:Value} {uiCanswer_known:Value} {miCanswer_known:Value} {niCanswer_known:Option Addr} {viCanswer_known:Value} {tiCanswer_known:Value} {siCanswer_known:Array (Option Value)} (liCanswer_known:K.lookup qCanswer_known=some ⟨oiCanswer_known,diCanswer_known,.func (PySem.W.fnOf "answer_known" "Desk.answer_known" (a0s mAK) (a0o mAK) (a0e mAK) .none kiCanswer_known uiCanswer_known miCanswer_known niCanswer_known viCanswer_known tiCanswer_known),siCanswer_known⟩)
  (ciCanswer_known:PySem.W.codeIn K viCanswer_known "Desk.answer_known"=true)
  (kkCanswer_known:PySem.W.keepIn K (.ref qCanswer_known)=true)
  {qCcode_text:Addr} (faCcode_text:PySem.W.findIn K (.ref C) "code_text"=some (some (.ref qCcode_text)))
  (fiCcode_text:PySem.W.isFn K (.ref qCcode_text)=true)
  {oiCcode_text:Value} {diCcode_text:Option Addr} {kiCcode_text:Value} {uiCcode_text:Value} {miCcode_text:Value} {niCcode_text:Option Addr} {viCcode_text:Value} {tiCcode_text:Value} {siCcode_text:Array (Option Value)} (liCcode_text:K.lookup qCcode_text=some ⟨oiCcode_text,diCcode_text,.func (PySem.W.fnOf "code_text" "Desk.code_text" (a0s mCT) (a0o mCT) (a0e mCT) .none kiCcode_text uiCcode_text miCcode_text niCcode_text viCcode_text tiCcode_text),siCcode_text⟩)
  (ciCcode_text:PySem.W.codeIn K viCcode_text "Desk.code_text"=true)
  (kkCcode_text:PySem.W.keepIn K (.ref qCcode_text)=true)
  (pgC:PySem.W.plainGet K C Str.empty=true)
  (hdC:PySem.W.hasDictIn K C=true)
  (poC:PySem.W.plainOver K C=true)
  (saC:PySem.W.findIn K (.ref C) "__setattr__"=some (some (.builtin "object.__setattr__")))
  (mkC:PySem.W.makesIn K C=true)
  (kcC:PySem.W.keepIn K (.ref C)=true)
  (naCsigns:PySem.W.findIn K (.ref C) "signs"=some none)
  (naCprices:PySem.W.findIn K (.ref C) "prices"=some none)
  (naCnames:PySem.W.findIn K (.ref C) "names"=some none)
  (naCweights:PySem.W.findIn K (.ref C) "weights"=some none)
  (naCpast:PySem.W.findIn K (.ref C) "past"=some none) :
  ∃ fd:FuncData,(∀ (s:Shared) (v:Value),BindsTo s fd ⟨[v],[]⟩ [("script",v)])/\∀ base:Heap,K.In base->base.Ns mainGlobals mg->a1a l.prog w K mg base CX0 11 fa fd ["script"] (b0U K):=by
 have e:=hfa.symm.trans (PySem.W.mg_of X G a40);cases e;have F1:=a0B (st:=K94C.a7s) l1 c1 k1;have m1:=PySem.W.mg_of X G a1;have b1:=F1.binds (ps:=["weights"]) λ_ _ _ _ _ _=>al1 λ_=>rfl;have F2:=a0B (st:=K94C.b3z) l2 c2 k2;have m2:=PySem.W.mg_of X G a2;have b2:=F2.binds (ps:=["side","at","number"]) λ_ _ _ _ _ _=>al3 λ_ _ _=>rfl;have F3:=a0B (st:=K94C.a2B) l3 c3 k3;have m3:=PySem.W.mg_of X G a3;have b3:=F3.binds (ps:=["side","diagonal"]) λ_ _ _ _ _ _=>al2 λ_ _=>rfl;have F4:=a0B (st:=K94C.a3Y) l4 c4 k4;have m4:=PySem.W.mg_of X G a4;have b4:=F4.binds (ps:=["numbers"]) λ_ _ _ _ _ _=>al1 λ_=>rfl;have F5:=a0B (st:=K94C.a4v) l5 c5 k5;have m5:=PySem.W.mg_of X G a5;have b5:=F5.binds (ps:=["one","other"]) λ_ _ _ _ _ _=>al2 λ_ _=>rfl;have F6:=a0B (st:=K94C.sPl) l6 c6 k6;have m6:=PySem.W.mg_of X G a6;have b6:=F6.binds (ps:=["prices","weights"]) λ_ _ _ _ _ _=>al2 λ_ _=>rfl;have F7:=a0B (st:=b3t) l7 c7 k7;have m7:=PySem.W.mg_of X G a7;have b7:=F7.binds (ps:=["top"]) λ_ _ _ _ _ _=>al1 λ_=>rfl;have F8:=a0B (st:=a3e) l8 c8 k8;have m8:=PySem.W.mg_of X G a8;have b8:=F8.binds (ps:=["prices","weights","top"]) λ_ _ _ _ _ _=>al3 λ_ _ _=>rfl;have F9:=a0B (st:=a2r) l9 c9 k9;have m9:=PySem.W.mg_of X G a9;have b9:=F9.binds (ps:=["prices","weights","top"]) λ_ _ _ _ _ _=>al3 λ_ _ _=>rfl;have F10:=a0B (st:=a5X) l10 c10 k10;have m10:=PySem.W.mg_of X G a10;have b10:=F10.binds (ps:=["number"]) λ_ _ _ _ _ _=>al1 λ_=>rfl;have F11:=a0B (st:=b2E) l11 c11 k11;have m11:=PySem.W.mg_of X G a11;have b11:=F11.binds (ps:=["numbers","fewest","most"]) λ_ _ _ _ _ _=>al3 λ_ _ _=>rfl;have F12:=a0B (st:=sMP) l12 c12 k12;have m12:=PySem.W.mg_of X G a12;have b12:=F12.binds (ps:=["prices"]) λ_ _ _ _ _ _=>al1 λ_=>rfl;have F13:=a0B (st:=sMW) l13 c13 k13;have m13:=PySem.W.mg_of X G a13;have b13:=F13.binds (ps:=["weights"]) λ_ _ _ _ _ _=>al1 λ_=>rfl;have F14:=a0B (st:=sPM) l14 c14 k14;have m14:=PySem.W.mg_of X G a14;have b14:=F14.binds (ps:=["prices","letter","number"]) λ_ _ _ _ _ _=>al3 λ_ _ _=>rfl;have F15:=a0B (st:=sWM) l15 c15 k15;have m15:=PySem.W.mg_of X G a15;have b15:=F15.binds (ps:=["weights","thing","number"]) λ_ _ _ _ _ _=>al3 λ_ _ _=>rfl;have F16:=a0B (st:=sRL) l16 c16 k16;have m16:=PySem.W.mg_of X G a16;have b16:=F16.binds (ps:=["prices","letter"]) λ_ _ _ _ _ _=>al2 λ_ _=>rfl;have F17:=a0B (st:=b3u) l17 c17 k17;have m17:=PySem.W.mg_of X G a17;have b17:=F17.binds (ps:=["weights","thing"]) λ_ _ _ _ _ _=>al2 λ_ _=>rfl;have F18:=a0B (st:=sWN) l18 c18 k18;have m18:=PySem.W.mg_of X G a18;have b18:=F18.binds (ps:=["numbers","at","number"]) λ_ _ _ _ _ _=>al3 λ_ _ _=>rfl;have F19:=a0B (st:=K94C.sNu) l19 c19 k19;have m19:=PySem.W.mg_of X G a19;have b19:=F19.binds (ps:=["prices","weights","number"]) λ_ _ _ _ _ _=>al3 λ_ _ _=>rfl;have F20:=a0B (st:=sBT) l20 c20 k20;have m20:=PySem.W.mg_of X G a20;have b20:=F20.binds (ps:=["signs","prices","names","weights"]) λ_ _ _ _ _ _=>al4 λ_ _ _ _=>rfl;have F21:=a0B (st:=sRB) l21 c21 k21;have m21:=PySem.W.mg_of X G a21;have b21:=F21.binds (ps:=["text"]) λ_ _ _ _ _ _=>al1 λ_=>rfl;have F22:=a0B (st:=sRO) l22 c22 k22;have m22:=PySem.W.mg_of X G a22;have b22:=F22.binds (ps:=["text"]) λ_ _ _ _ _ _=>al1 λ_=>rfl;have F23:=a0B (st:=b3r) l23 c23 k23;have m23:=PySem.W.mg_of X G a23;have b23:=F23.binds (ps:=["row"]) λ_ _ _ _ _ _=>al1 λ_=>rfl;have F24:=a0B (st:=b3s) l24 c24 k24;have m24:=PySem.W.mg_of X G a24;have b24:=F24.binds (ps:=["row"]) λ_ _ _ _ _ _=>al1 λ_=>rfl;have F25:=a0B (st:=sIN) l25 c25 k25;have m25:=PySem.W.mg_of X G a25;have b25:=F25.binds (ps:=["text","most"]) λ_ _ _ _ _ _=>al2 λ_ _=>rfl;have F26:=a0B (st:=b0v) l26 c26 k26;have m26:=PySem.W.mg_of X G a26;have b26:=F26.binds (ps:=["text"]) λ_ _ _ _ _ _=>al1 λ_=>rfl;have F27:=a0B (st:=b2F) l27 c27 k27;have m27:=PySem.W.mg_of X G a27;have b27:=F27.binds (ps:=["words"]) λ_ _ _ _ _ _=>al1 λ_=>rfl;have F28:=a0B (st:=sTN) l28 c28 k28;have m28:=PySem.W.mg_of X G a28;have b28:=F28.binds (ps:=["number"]) λ_ _ _ _ _ _=>al1 λ_=>rfl;have F29:=a0B (st:=a7i) l29 c29 k29;have m29:=PySem.W.mg_of X G a29;have b29:=F29.binds (ps:=["script","k"]) λ_ _ _ _ _ _=>al2 λ_ _=>rfl;have F30:=a0B (st:=a3c) l30 c30 k30;have m30:=PySem.W.mg_of X G a30;have b30:=F30.binds (ps:=["cell"]) λ_ _ _ _ _ _=>al1 λ_=>rfl;have F31:=a0B (st:=a3T) l31 c31 k31;have m31:=PySem.W.mg_of X G a31;have b31:=F31.binds (ps:=["cell","many"]) λ_ _ _ _ _ _=>al2 λ_ _=>rfl;have F32:=a0B (st:=a1B) l32 c32 k32;have m32:=PySem.W.mg_of X G a32;have b32:=F32.binds (ps:=["cell","many"]) λ_ _ _ _ _ _=>al2 λ_ _=>rfl;have F33:=a0B (st:=a5z) l33 c33 k33;have m33:=PySem.W.mg_of X G a33;have b33:=F33.binds (ps:=["script","most"]) λ_ _ _ _ _ _=>al2 λ_ _=>rfl;have F34:=a0B (st:=a5Y) l34 c34 k34;have m34:=PySem.W.mg_of X G a34;have b34:=F34.binds (ps:=["book"]) λ_ _ _ _ _ _=>al1 λ_=>rfl;have F35:=a0B (st:=a7j) l35 c35 k35;have m35:=PySem.W.mg_of X G a35;have b35:=F35.binds (ps:=["cell"]) λ_ _ _ _ _ _=>al1 λ_=>rfl;have F36:=a0B (st:=a7k) l36 c36 k36;have m36:=PySem.W.mg_of X G a36;have b36:=F36.binds (ps:=["book","cell"]) λ_ _ _ _ _ _=>al2 λ_ _=>rfl;have F37:=a0B (st:=a7l) l37 c37 k37;have m37:=PySem.W.mg_of X G a37;have b37:=F37.binds (ps:=["desk","deed"]) λ_ _ _ _ _ _=>al2 λ_ _=>rfl;have F38:=a0B (st:=a3d) l38 c38 k38;have m38:=PySem.W.mg_of X G a38;have b38:=F38.binds (ps:=["past","deed"]) λ_ _ _ _ _ _=>al2 λ_ _=>rfl;have F39:=a0B (st:=a2y) l39 c39 k39;have m39:=PySem.W.mg_of X G a39;have b39:=F39.binds (ps:=["book","cell"]) λ_ _ _ _ _ _=>al2 λ_ _=>rfl;have F40:=a0B (st:=b0w) l40 c40 k40;have m40:=PySem.W.mg_of X G a40;have C_SIGNS:=PySem.W.mg_of X G y1;have C_FIGURES:=PySem.W.mg_of X G y2;have B_len:=PySem.W.mg_none_of X G z1;have B_range:=PySem.W.mg_none_of X G z2;have B_tuple:=PySem.W.mg_none_of X G z3;have B_list:=PySem.W.mg_none_of X G z4;have B_isinstance:=PySem.W.mg_none_of X G z5;have B_int:=PySem.W.mg_none_of X G z6;have B_all:=PySem.W.mg_none_of X G z7;have B_str:=PySem.W.mg_none_of X G z8;have B_set:=PySem.W.mg_none_of X G z9;have B_zip:=PySem.W.mg_none_of X G z10;have B_enumerate:=PySem.W.mg_none_of X G z11;have B_sum:=PySem.W.mg_none_of X G z12;have B_min:=PySem.W.mg_none_of X G z13;have B_ValueError:=PySem.W.mg_none_of X G z14;refine ⟨PySem.W.fnOf "law" "law" (a0s b0w) (a0o b0w) (a0e b0w) .none kV40 dc40 pm40 an40 cd40 ct40,λs v=>.of_eq rfl,λbase _ _=>?_⟩;have rc:K94C.PC K PA:=⟨⟨pgPA,hdPA,poPA,saPA⟩,naPAprices,naPAthings,naPAsums,naPAheads,naPAtails⟩
 have rd:K94C.DC K CO:=⟨⟨pgCO,hdCO,poCO,saCO⟩,naCOparted,naCOletters,naCOcodes,naCOtails⟩
 have dc:DC K C:=⟨⟨pgC,hdC,poC,saC⟩,naCsigns,naCprices,naCnames,naCweights,naCpast⟩
 have FI:=a0B (st:=K94C.a2n) liPAinit ciPAinit kkPAinit;have bI:=FI.binds (ps:=["self","prices","weights"]) λ_ _ _ _ _ _=>al3 λ_ _ _=>rfl;have FP:=a0B (st:=K94C.b3A) liPAput ciPAput kkPAput;have bP:=FP.binds (ps:=["self","first","end","floor"]) λ_ _ _ _ _ _=>al4 λ_ _ _ _=>rfl;have FL:=a0B (st:=K94C.sLs) liPAleast_sum ciPAleast_sum kkPAleast_sum;have bL:=FL.binds (ps:=["self","letter","first","end","last"]) λ_ _ _ _ _ _=>al5 λ_ _ _ _ _=>rfl;have FB:=a0B (st:=K94C.a3Z) liPAbound ciPAbound kkPAbound;have bB:=FB.binds (ps:=["self","first","end"]) λ_ _ _ _ _ _=>al3 λ_ _ _=>rfl;have FW:=a0B (st:=K94C.a7t) liPAways ciPAways kkPAways;have bW:=FW.binds (ps:=["self","letter","first","end"]) λ_ _ _ _ _ _=>al4 λ_ _ _ _=>rfl;have FJ:=a0B (st:=K94C.a2C) liCOinit ciCOinit kkCOinit;have bJ:=FJ.binds (ps:=["self","prices","weights"]) λ_ _ _ _ _ _=>al3 λ_ _ _=>rfl;have FQ:=a0B (st:=K94C.a7u) liCOput_counts ciCOput_counts kkCOput_counts;have bQ:=FQ.binds (ps:=["self","first","end"]) λ_ _ _ _ _ _=>al3 λ_ _ _=>rfl;have FO:=a0B (st:=K94C.a5Z) liCOover_ways ciCOover_ways kkCOover_ways;have bO:=FO.binds (ps:=["self","letter","first","end"]) λ_ _ _ _ _ _=>al4 λ_ _ _ _=>rfl;have FY:=a0B (st:=K94C.sBy) liCOby_way ciCOby_way kkCOby_way;have bY:=FY.binds (ps:=["self","way","first","end"]) λ_ _ _ _ _ _=>al4 λ_ _ _ _=>rfl;have FD1:=a0B (st:=a7o) liCinit ciCinit kkCinit;have bD1:=FD1.binds (ps:=["self","text"]) λ_ _ _ _ _ _=>al2 λ_ _=>rfl;have FD2:=a0B (st:=a7p) liCbook ciCbook kkCbook;have bD2:=FD2.binds (ps:=["self"]) λ_ _ _ _ _ _=>al1 λ_=>rfl;have FD3:=a0B (st:=mPP) liCput_price ciCput_price kkCput_price;have bD3:=FD3.binds (ps:=["self","sign","price"]) λ_ _ _ _ _ _=>al3 λ_ _ _=>rfl;have FD4:=a0B (st:=mPW) liCput_weight ciCput_weight kkCput_weight;have bD4:=FD4.binds (ps:=["self","name","weight"]) λ_ _ _ _ _ _=>al3 λ_ _ _=>rfl;have FD5:=a0B (st:=a7q) liCback ciCback kkCback;have bD5:=FD5.binds (ps:=["self"]) λ_ _ _ _ _ _=>al1 λ_=>rfl;have FD6:=a0B (st:=b3y) liCanswer ciCanswer kkCanswer;have bD6:=FD6.binds (ps:=["self","question"]) λ_ _ _ _ _ _=>al2 λ_ _=>rfl;have FD7:=a0B (st:=a3n) liCknows ciCknows kkCknows;have bD7:=FD7.binds (ps:=["self","words"]) λ_ _ _ _ _ _=>al2 λ_ _=>rfl;have FD8:=a0B (st:=mAK) liCanswer_known ciCanswer_known kkCanswer_known;have bD8:=FD8.binds (ps:=["self","words"]) λ_ _ _ _ _ _=>al2 λ_ _=>rfl;have FD9:=a0B (st:=mCT) liCcode_text ciCcode_text kkCcode_text;have bD9:=FD9.binds (ps:=["self","code"]) λ_ _ _ _ _ _=>al2 λ_ _=>rfl;have B1:Fns l.prog w K mg base ["weights"] "weight_sums" K94C.a8X 2:=⟨_,_,(K94C.b2T F1).mono (by decide),b1,k1,m1⟩
 have B2:Fns l.prog w K mg base ["side","at","number"] "row_with" K94C.b2V 1:=⟨_,_,(K94C.ok_row F2).mono (by decide),b2,k2,m2⟩
 have B3:Fns l.prog w K mg base ["side","diagonal"] "square" K94C.a3w 2:=⟨_,_,(K94C.a9b F3 (B2.up (by decide)) B_range).mono (by decide),b3,k3,m3⟩
 have B4:Fns l.prog w K mg base ["numbers"] "least" K94C.a4b 1:=⟨_,_,(K94C.b0L F4 B_min).mono (by decide),b4,k4,m4⟩
 have B5:Fns l.prog w K mg base ["one","other"] "added" K94C.a4c 1:=⟨_,_,(K94C.b0M F5).mono (by decide),b5,k5,m5⟩
 have ML:K94C.Mt l.prog w K mg base PA "least_sum" ["self","letter","first","end","last"] (K94C.spLs PA) 2:=⟨_,_,⟨faPAleast_sum,fiPAleast_sum,kkPAleast_sum⟩,K94C.b2Y FL B4 B5 rc B_range,bL⟩
 have MB:K94C.Mt l.prog w K mg base PA "bound" ["self","first","end"] (K94C.a6a PA) 3:=⟨_,_,⟨faPAbound,fiPAbound,kkPAbound⟩,K94C.b0O FB (B4.up (by decide)) ML rc B_len B_range,bB⟩
 have MP:K94C.Mt l.prog w K mg base PA "put" ["self","first","end","floor"] (K94C.a4n PA) 3:=⟨_,_,⟨faPAput,fiPAput,kkPAput⟩,K94C.ok_put FP (B4.up (by decide)) (B5.up (by decide)) ML rc B_len B_range,bP⟩
 have MW:K94C.Mt l.prog w K mg base PA "ways" ["self","letter","first","end"] (K94C.a9h PA) 3:=⟨_,_,⟨faPAways,fiPAways,kkPAways⟩,K94C.b3c FW (B5.up (by decide)) rc B_len B_range,bW⟩
 have MY:K94C.Mt l.prog w K mg base CO "by_way" K94C.NBy (K94C.spBy CO) 3:=⟨_,_,⟨faCOby_way,fiCOby_way,kkCOby_way⟩,(K94C.ok_by FY rd).mono (by decide),bY⟩
 have MO:K94C.Mt l.prog w K mg base CO "over_ways" K94C.NOv (K94C.a9m PA CO) 4:=⟨_,_,⟨faCOover_ways,fiCOover_ways,kkCOover_ways⟩,K94C.b3h FO MW MY rc rd B_sum,bO⟩
 have MC:K94C.Mt l.prog w K mg base CO "put_counts" ["self","first","end"] (K94C.a9n PA CO) 5:=⟨_,_,⟨faCOput_counts,fiCOput_counts,kkCOput_counts⟩,K94C.b3i FQ MO rd B_range,bQ⟩
 have cl:K94C.Cl l.prog w K mg base PA:=⟨rc,PySem.W.mg_of X G gPA,_,_,⟨mkPA,faPAinit,fiPAinit,kcPA⟩,K94C.b0N FI B1 B3 rc B_len B_range,bI⟩
 have B6:Fns l.prog w K mg base ["prices","weights"] "parted_least" (K94C.spPl PA) 5:=⟨_,_,(K94C.ok_pl F6 cl (MP.up (by decide)) (MB.up (by decide)) B_len B_range).mono (by decide),b6,k6,m6⟩
 have cd:K94C.ClC l.prog w K mg base PA CO:=⟨rd,PySem.W.mg_of X G gCO,_,_,⟨mkCO,faCOinit,fiCOinit,kcCO⟩,K94C.b0R FJ B6 (B3.up (by decide)) MC rd B_len B_range,bJ⟩
 have c:Kd K mg DT CN CP CW CL:=⟨PySem.W.mg_of X G gDT,PySem.W.mg_of X G gCN,PySem.W.mg_of X G gCP,PySem.W.mg_of X G gCW,PySem.W.mg_of X G gCL,B_ValueError,.of xDT,.of xCN,.of xCP,.of xCW,.of xCL,sCNDT,sCPDT,sCWDT,sCLDT,sCNCP,sCNCW,sCNCL,sCPCN,sCPCW,sCPCL,sCWCN,sCWCP,sCWCL,sCLCN,sCLCP,sCLCW⟩
 have wc:Wc K mg uA uB uC:=⟨PySem.W.mg_of X G guA,PySem.W.mg_of X G guB,PySem.W.mg_of X G guC,λH=>.inr ⟨_,_,_,luA,rfl,rfl,(by show 3<=sizeLine;decide),.cons ⟨_,rfl⟩ (.cons ⟨_,rfl⟩ (.cons ⟨_,rfl⟩ (.nil)))⟩,λH=>.inr ⟨_,_,_,luB,rfl,rfl,(by show 2<=sizeLine;decide),.cons ⟨_,rfl⟩ (.cons ⟨_,rfl⟩ (.nil))⟩,λH=>.inr ⟨_,_,_,luC,rfl,rfl,(by show 4<=sizeLine;decide),.cons ⟨_,rfl⟩ (.cons ⟨_,rfl⟩ (.cons ⟨_,rfl⟩ (.cons ⟨_,rfl⟩ (.nil))))⟩⟩
 have gB:=PySem.W.mg_of X G gCB;have B19:a7b l.prog w K mg base ["prices","weights","number"] "numbered" (spNb CB) 8:=⟨_,_,(ok_nb F19 cd B_len gB ⟨eCB⟩).mono (by decide),b19,k19,m19⟩
 have B7:a7b l.prog w K mg base ["top"] "refuse_top" (spTo CB) 1:=⟨_,_,(ok_to F7 gB ⟨eCB⟩).mono (by decide),b7,k7,m7⟩
 have B8:a7b l.prog w K mg base ["prices","weights","top"] "least_stairs" (b3B CB) 2:=⟨_,_,(b2Y F8 B7).mono (by decide),b8,k8,m8⟩
 have B9:a7b l.prog w K mg base ["prices","weights","top"] "cheapest_bounded" (b3B CB) 8:=⟨_,_,(ok_cb F9 B8).mono (by decide),b9,k9,m9⟩
 have B28:a7b l.prog w K mg base ["number"] "text_or_none" spNo 8:=⟨_,_,fn_no,b28,k28,m28⟩
 have B10:Fns l.prog w K mg base ["number"] "is_amount" spIs 1:=⟨_,_,(ok_is F10).mono (by decide),b10,k10,m10⟩
 have B10x:Fns l.prog w K mg base ["number"] "is_amount" spIx 1:=⟨_,_,(ok_ix F10).mono (by decide),b10,k10,m10⟩
 have B11:Fns l.prog w K mg base ["numbers","fewest","most"] "are_amounts" spAr 2:=⟨_,_,(ok_ar F11 B10 B_len B_all).mono (by decide),b11,k11,m11⟩
 have B12:Fns l.prog w K mg base ["prices"] "made_prices" (b3w 2 6) 3:=⟨_,_,(ok_mp F12 B11 B_tuple).mono (by decide),b12,k12,m12⟩
 have B13:Fns l.prog w K mg base ["weights"] "made_weights" (b3w 1 24) 3:=⟨_,_,(ok_mw F13 B11 B_tuple).mono (by decide),b13,k13,m13⟩
 have B16:Fns l.prog w K mg base ["prices","letter"] "refuse_letter" a7r 2:=⟨_,_,(ok_RL F16 B_len).mono (by decide),b16,k16,m16⟩
 have B17:Fns l.prog w K mg base ["weights","thing"] "refuse_thing" a7r 2:=⟨_,_,(ok_RT F17 B_len).mono (by decide),b17,k17,m17⟩
 have B18:Fns l.prog w K mg base ["numbers","at","number"] "with_number" a9H 2:=⟨_,_,(ok_WN F18 B10x).mono (by decide),b18,k18,m18⟩
 have B14:Fns l.prog w K mg base ["prices","letter","number"] "price_moved" a9H 3:=⟨_,_,(ok_PM F14 B16 B18).mono (by decide),b14,k14,m14⟩
 have B15:Fns l.prog w K mg base ["weights","thing","number"] "weight_moved" a9H 3:=⟨_,_,(ok_WM F15 B17 B18).mono (by decide),b15,k15,m15⟩
 have B20:Fns l.prog w K mg base ["signs","prices","names","weights"] "book_text" spBT 1:=⟨_,_,(ok_bt F20 B_zip).mono (by decide),b20,k20,m20⟩
 have B25:Fns l.prog w K mg base ["text","most"] "is_name" spIn 1:=⟨_,_,(ok_in F25 C_SIGNS B_len B_all).mono (by decide),b25,k25,m25⟩
 have B26:Fns l.prog w K mg base ["text"] "is_number" spNu 1:=⟨_,_,(ok_nu F26 C_FIGURES B_len B_all).mono (by decide),b26,k26,m26⟩
 have B26x:Fns l.prog w K mg base ["text"] "is_number" spNx 1:=⟨_,_,(ok_nx F26 C_FIGURES B_len B_all).mono (by decide),b26,k26,m26⟩
 have B23:Fns l.prog w K mg base ["row"] "is_letter_row" (b3v tL 1) 2:=⟨_,_,(ok_lr F23 B25 B26 B_len).mono (by decide),b23,k23,m23⟩
 have B24:Fns l.prog w K mg base ["row"] "is_thing_row" (b3v tT 8) 2:=⟨_,_,(ok_tr F24 B25 B26 B_len).mono (by decide),b24,k24,m24⟩
 have B22:Fns l.prog w K mg base ["text"] "rows_of" spRo 3:=⟨_,_,(ok_ro F22 B24 B23 B_len B_enumerate).mono (by decide),b22,k22,m22⟩
 have B21:Fns l.prog w K mg base ["text"] "read_book" spRb 4:=⟨_,_,(ok_rb F21 B22 B12 B13 B_len B_tuple B_set B_int).mono (by decide),b21,k21,m21⟩
 have B27:Fns l.prog w K mg base ["words"] "is_question" spIq 9:=⟨_,_,(ok_iq F27 wc B26x B_len B_all).mono (by decide),b27,k27,m27⟩
 have dk:Dsk l.prog w K mg base C:=⟨⟨pgC,hdC,poC,saC⟩,PySem.W.mg_of X G gC,_,_,⟨mkC,faCinit,fiCinit,kcC⟩,(ok_di FD1 dc B21).mono (by decide),bD1⟩
 have M2:Mx l.prog w K mg base CX0 C "book" ["self"] (spDb C) 10:=⟨_,_,⟨faCbook,fiCbook,kkCbook⟩,(ok_db FD2 dc B20).mono (by decide),bD2⟩
 have M3:Mx l.prog w K mg base (CXF l.prog w) C "put_price" NPP (a4n true C CN CP) 4:=⟨_,_,⟨faCput_price,fiCput_price,kkCput_price⟩,ok_pp FD3 dc (B10x.up (by decide)) B14 c.gN ⟨eCN⟩ c.gP ⟨eCP⟩,bD3⟩
 have M4:Mx l.prog w K mg base (CXF l.prog w) C "put_weight" NPW (a4n false C CN CW) 4:=⟨_,_,⟨faCput_weight,fiCput_weight,kkCput_weight⟩,ok_pw FD4 dc (B10x.up (by decide)) B15 c.gN ⟨eCN⟩ c.gW ⟨eCW⟩,bD4⟩
 have M5:Mx l.prog w K mg base (CXF l.prog w) C "back" ["self"] (spDk C CL) 4:=⟨_,_,⟨faCback,fiCback,kkCback⟩,ok_dk FD5 dc B_len c.gL ⟨eCL⟩,bD5⟩
 have M7:Mx l.prog w K mg base CX0 C "knows" NKw (spKw C) 9:=⟨_,_,⟨faCknows,fiCknows,kkCknows⟩,(ok_kw FD7 dc wc B_all).mono (by decide),bD7⟩
 have M9:Mx l.prog w K mg base (CXF l.prog w) C "code_text" ["self","code"] spNo 8:=⟨_,_,⟨faCcode_text,fiCcode_text,kkCcode_text⟩,fn_no,bD9⟩
 have M8:Mx l.prog w K mg base (CXF l.prog w) C "answer_known" ["self","words"] (spAk C CB) 9:=⟨_,_,⟨faCanswer_known,fiCanswer_known,kkCanswer_known⟩,ok_ak FD8 dc M9 B19 B9 B28 B_int,bD8⟩
 have M6:Mx l.prog w K mg base CX0 C "answer" ["self","question"] (spAn C) 10:=⟨_,_,⟨faCanswer,fiCanswer,kkCanswer⟩,ok_an FD6 dc B27 M7 M8 gB (.of xCB),bD6⟩
 have B29:Fns l.prog w K mg base ["script","k"] "_law_cell_at" (a6A K) 1:=⟨_,_,(b2G F29 B_len).mono (by decide),b29,k29,m29⟩
 have B30:Fns l.prog w K mg base ["cell"] "_law_amount" a3v 1:=⟨_,_,(a8B F30).mono (by decide),b30,k30,m30⟩
 have B31:Fns l.prog w K mg base ["cell","many"] "_law_signs" spSg 1:=⟨_,_,(ok_sg F31 B_range).mono (by decide),b31,k31,m31⟩
 have B32:Fns l.prog w K mg base ["cell","many"] "_law_names" spNm 1:=⟨_,_,(ok_nm F32 B_range).mono (by decide),b32,k32,m32⟩
 have B33:Fns l.prog w K mg base ["script","most"] "_law_book" (spBo K) 10:=⟨_,_,(ok_bo F33 B29 B30 B31 B32 B_range B_tuple).mono (by decide),b33,k33,m33⟩
 have B34:Fns l.prog w K mg base ["book"] "_law_text" spTx 10:=⟨_,_,(ok_tx F34 B_len B_range B_str).mono (by decide),b34,k34,m34⟩
 have B35:Fns l.prog w K mg base ["cell"] "_law_number" b3j 2:=⟨_,_,(ok_nb2 F35 B30).mono (by decide),b35,k35,m35⟩
 have B36:Fns l.prog w K mg base ["book","cell"] "_law_deed" spDe 10:=⟨_,_,(ok_de F36 B35 B_len B_list).mono (by decide),b36,k36,m36⟩
 have B37:Fns l.prog w K mg base ["desk","deed"] "_law_done" (spDn C) 10:=⟨_,_,(ok_dn F37 dc c M3 M4 M5 B_isinstance).mono (by decide),b37,k37,m37⟩
 have B38:Fns l.prog w K mg base ["past","deed"] "_law_behind" spBe 10:=⟨_,_,(ok_be F38 B_len).mono (by decide),b38,k38,m38⟩
 have B39:Fns l.prog w K mg base ["book","cell"] "_law_question" spQu 10:=⟨_,_,(ok_qu F39 B_len).mono (by decide),b39,k39,m39⟩
 exact ok_law F40 dk M2 M6 (B29.up (by decide)) B33 B34 B39 B36 B37 B38 B_range B_list
theorem walk {l:PySem.W.OpenLaw} {q:Program} {loose:List Str} {XP:(Str->Option Value)->Heap->Prop} {YP:World->Heap->Prop} {d:DefRec} {K:Params->PySem.W.Frag} (hn:l.most=some 63) (hdf:d.params.defaults=[])
  (hY:∀ (w:World) (h:Heap),YP w h->(K w.params).In h)
  (F:∀ (w:World) (mg:Str->Option Value) (fa:Addr) (h:Heap),(K w.params).In h->h.Ns mainGlobals mg->mg d.name=some (.ref fa) ->
   ∃ fd:FuncData,(∀ (s:Shared) (u:Value),BindsTo s fd ⟨[u],[]⟩ [("script",u)])/\∀ base:Heap,(K w.params).In base->base.Ns mainGlobals mg->a1a l.prog w (K w.params) mg base CX0 11 fa fd ["script"] (b0U (K w.params))) :
  PySem.W.WalkO q loose XP YP l.row.toRowW d [] (λf vs=>PySem.call f vs) :=
 L2.b2o (n:=63) (k:=11) (x:="script") (CX:=λ_=>CX0) (sp:=λw=>b0U (K w.params)) hn (by decide) hdf ⟨rfl,by decide,by decide⟩ hY F (λ_ _ a ns hl _ hS=>⟨a,ns,rfl,hS,hl,λ_=>rfl⟩) λ_ _ _ _ _ z=>z
end K94
namespace PySem.W.Fast
def tw12672735120270088912:=0
def tw11548004794415330015:=0
def tw16324604660502512951:=0
def tw7835132257722114931:=0
def tw2780380773382733054:=0
def tw19983267498651110:=0
def tw2121249876087974038:=0
def tw8221086716121936192:=0
def tw9940571842992988827:=0
def tw14350708460577244092:=0
def tw13539785805891409806:=0
def tw13394851850464414452:=0
def tw12669007943754039401:=0
def tw9497476197985036221:=0
def tw10022918314760404259:=0
def tw8776932257184588414:=0
def tw14877411058435703477:=0
def tw4405726257560060015:=0
def tw11626534123615991524:=0
def tw4687341728675461030:=0
def tw2405828788613947655:=0
def tw9282774917041117137:=0
def tw7516391471513890503:=0
def tw12137730436356326200:=0
def tw2350692778725183160:=0
def tw16735218423352564937:=0
def tw3594170144369822437:=0
def tw5356350100235028017:=0
def tw5539664255360782618:=0
def tw7412138097974931170:=0
def tw10375623417710118915:=0
def tw706341804926675616:=0
def tw1633434526451646617:=0
def tw3616302516265543695:=0
def tw6337593452481437790:=0
def tw3800686086086692976:=0
def tw15582117543466866565:=0
def tw5990194352628126952:=0
def tw629306640772869384:=0
def tw15228746116673750013:=0
def tw2829161664034827015:=0
def tw7320568039382001865:=0
def tw4959778954664422723:=0
def tw14681764215645441152:=0
def tw10871815569314081997:=0
def tw1298900560407338005:=0
def tw11900802699080325015:=0
def tw2943898409557333903:=0
def tw3677449695457330813:=0
def tw18177611723253432933:=0
def tw11953182804229629152:=0
def tw3307151559343111061:=0
def tw13708809609111901830:=0
def tw10756126490235508084:=0
def tw7799785137469647095:=0
def tw17156966088571966588:=0
def tw5315311155337432779:=0
def tw11083501323390573784:=0
def tw17770366092219995735:=0
def tw3609277445219760346:=0
def tw6130443445770940747:=0
def tw10185443711033066520:=0
def tw6314188423704838888:=0
def tw16075033040720899602:=0
def tw9692649108216556896:=0
def tw982242729258312487:=0
def tw2252320716265850605:=0
def tw579071130204524372:=0
def tw18172284592443566067:=0
def tw7232362219337555999:=0
def tw5050565732559103211:=0
def tw1855291557439451228:=0
def tw2955057898359938762:=0
def tw245920215830338380:=0
def tw4975416075775712365:=0
def tw7796774856216794800:=0
def tw9406392026134132639:=0
def tw6757700493962104207:=0
def tw6469647545061818311:=0
def tw7091312195132143764:=0
def tw680873939936754150:=0
def tw4775244736734005095:=0
def tw9196890054943515014:=0
def tw7118038863355636448:=0
def tw11731040239434681939:=0
def tw893068687957058968:=0
def tw5503147645452405328:=0
def tw7183978748739826177:=0
def tw17467083057526973817:=0
def tw14820531323400178672:=0
def tw13317701228375066238:=0
def tw1882459132451693871:=0
def tw6009487265158135715:=0
def tw9209506028524702176:=0
def tw8103432548127855622:=0
def tw16863154185199207029:=0
def tw11181599912920405926:=0
def tw4440005341479619816:=0
def tw12218368286811656336:=0
def tw5398624422977534015:=0
def tw2007089516403196855:=0
def tw2324035480224515948:=0
def tw8819053120259198514:=0
def tw16718904216298346501:=0
def tw14750650614874660234:=0
def tw15224575770029962668:=0
def tw16289912897231902048:=0
def tw9461470613843032796:=0
def tw4004642058308961523:=0
def tw10974219417605625452:=0
def tw17170829609094244954:=0
def tw5660259089752105661:=0
def tw14722915052253459770:=0
def tw15185188949262737291:=0
def tw9740016238959318893:=0
def tw11808464834675382496:=0
def tw10182949478495686506:=0
def tw15303471978745408482:=0
def tw9613501706022543905:=0
def tw17272289898952507877:=0
def tw909684593843407351:=0
def tw13154236222608950694:=0
def tw17232196848410003329:=0
def tw8915837531876816870:=0
def tw15925987422070597794:=0
def tw6932963275302035054:=0
def tw10530342822063382915:=0
def tw11135370322499626767:=0
def tw1094901482699798290:=0
def tw12516900596220771201:=0
def tw6633950252630365425:=0
def tw10799443205113986735:=0
def tw258478239282381953:=0
def tw11777765414136112788:=0
def tw17318687568802025953:=0
def tw508504082128754442:=0
def tw16482216979341554191:=0
def tw5427972401701894933:=0
def tw7378122190072871552:=0
def tw1070714796398622299:=0
def tw1040237515537419945:=0
def tw7318502041116698067:=0
def tw7615487908928577401:=0
def tw16103177731508942651:=0
def tw15830994583091709677:=0
def tw11426474215138249583:=0
def tw4169161380592162740:=0
def tw4043427859000886304:=0
def tw8977209994690906921:=0
def tw11094392478827421159:=0
def tw7271994593079811475:=0
def tw11966412244614925203:=0
def tw5689851500084691861:=0
def tw14150307423588424078:=0
def tw10668359044326732691:=0
def tw7812893671126689866:=0
def tw9841538665481438575:=0
def tw18011127052866544808:=0
def tw12615265974774855856:=0
def tw8714115853823065180:=0
def tw10098782110193575299:=0
def tw375164416847901683:=0
def tw6835060363605746732:=0
def tw15294070297313191361:=0
def tw4043461615288838261:=0
def tw56958062199991828:=0
def tw438874074906746361:=0
def tw12657985022553991912:=0
def tw11106616244051669424:=0
def tw3583735798490328477:=0
def tw10729071141613279074:=0
def tw15398264662694051505:=0
def tw7818353472928886390:=0
def tw9410061790502318925:=0
def tw7224881844237097663:=0
def tw15679765910306876994:=0
def tw3252671033066760728:=0
def tw378886431053007999:=0
def tw12405686362120446787:=0
def tw6969221842112296352:=0
def tw17906463382283318958:=0
def tw10456485548599084305:=0
def tw9341959195421770018:=0
def tw17628923362183944353:=0
def tw3392966819776830681:=0
def tw14208699581379829649:=0
def tw11367190316073773866:=0
def tw8526944041430644457:=0
def tw14375369423581604844:=0
def tw5506575671120917407:=0
def tw9938320255981209283:=0
def tw11234040501144123411:=0
def tw12058122044098923349:=0
def tw10481109087337000662:=0
def tw9444053148224729108:=0
def tw3281971799679695320:=0
def tw2994401914894132591:=0
def tw827811703742927780:=0
def tw10156789322407076778:=0
def tw6621277576056672660:=0
def tw8725277285332087416:=0
def tw17699291121283474676:=0
def tw10856765623045637069:=0
def tw5393254581038699578:=0
def tw5873328751392428448:=0
def tw15946374301550448025:=0
def tw27661453189517029:=0
def tw9557121223530251180:=0
def tw15616098241687404915:=0
def tw657008807927123159:=0
def tw4832028553150155871:=0
def tw7581516928694247279:=0
def tw5686203336457208370:=0
def tw6399264995797575258:=0
def tw656097472869175834:=0
def tw9759315721846201339:=0
def tw5652274066958838923:=0
def tw7757401663925610561:=0
def tw13670562809176663469:=0
def tw572035035275665298:=0
def tw14102987452669562116:=0
def tw8377226802256389382:=0
def tw16569264504584392535:=0
def tw1554024338992305417:=0
def tw3321334440097561955:=0
def tw14594646054129953513:=0
def tw10989397563965687228:=0
def tw2934599473005731167:=0
def tw829479017548551170:=0
def tw10026442020002135681:=0
def tw2528265552896832112:=0
def tw17750427790832481762:=0
def tw11291340295816156689:=0
def tw1913452771496800339:=0
def tw11768415408639692879:=0
def tw6163403899636864655:=0
def tw16995940995895728016:=0
def tw14592449943322845697:=0
def tw946868273967161829:=0
def tw17410287116562404622:=0
def tw2044379037991943264:=0
def tw8697729266250853673:=0
def tw358459306149246704:=0
def tw9891484266163410684:=0
def tw4304184870095391419:=0
def tw17079750721372753774:=0
def tw999773970587802008:=0
def tw502732825229492357:=0
def tw1475676342595595155:=0
def tw16829177323089228087:=0
def tw16000589896112712132:=0
def tw9286901502131993781:=0
def tw17738035955932929263:=0
def tw1972273594439947468:=0
def tw14458744461891883525:=0
def tw14170553325906070659:=0
def tw16271440449642821364:=0
def tw3131256798638211550:=0
def tw8860967080217262093:=0
def tw13162276534052207449:=0
def tw11230915997919538828:=0
def tw12891308038357029187:=0
def tw13472495659317029986:=0
def tw16985770989686443570:=0
def tw16397453424531953553:=0
def tw12468937061811900064:=0
def tw10793163798334116132:=0
def tw16484354185177504037:=0
def tw4761120702869856366:=0
def tw15399443194577318624:=0
def tw73116360175710150:=0
def tw5430275972273073554:=0
def tw17725727644490389819:=0
def tw12941318281245367745:=0
def tw1950678563943158699:=0
def tw17015549828519389994:=0
def tw3842920661258529982:=0
def tw8641644899458438213:=0
def tw615815753945522391:=0
def tw5601650373447512296:=0
def tw3456040540490628257:=0
def tw3872849547610944748:=0
def tw9311383741224329145:=0
def tw11714295818355927366:=0
def tw9640178958890236756:=0
def tw17607261892026667278:=0
def tw11638591041214377141:=0
def tw3389188217687832261:=0
def tw17968948370932568661:=0
def tw12185842315966705907:=0
def tw4972378059805301780:=0
def tw12246001127883492064:=0
def tw15825346149952982828:=0
def tw17841741607715245903:=0
def tw9768731121987876625:=0
def tw2429980943819677226:=0
def tw3826254111813797723:=0
def tw1203199834161342501:=0
def tw7560551731401216941:=0
def tw1955062566204170149:=0
def tw6478008671099370060:=0
def tw10350844376531764132:=0
def tw2717129931224438327:=0
def tw4144785127111914742:=0
def tw16886299778773007912:=0
def tw12486367803911603747:=0
def tw16374243629118073105:=0
def tw14999910624447539872:=0
def tw11499134939016094111:=0
def tw17508283223446721397:=0
def tw13133733660316767729:=0
def tw13101921697312357432:=0
def tw7394203700438486739:=0
def tw2697639846585441494:=0
def tw12231878655089067087:=0
def tw10639639738843238610:=0
def tw4421918910786777548:=0
def tw13322590543852677270:=0
def tw15232432997849357348:=0
def tw9755258836965565510:=0
def tw2092850016742512288:=0
def tw16604426479354440281:=0
def tw8642086088955854280:=0
def tw5759700202132789925:=0
def tw1752583001094051197:=0
def tw14324240970432112379:=0
def tw7408735101026759238:=0
def tw16378076765524776874:=0
def tw6230294496850793255:=0
def tw9295119847353888491:=0
def tw8874472721438107037:=0
def tw7980411076149911729:=0
def tw7053591029287768799:=0
def tw9755656871017433187:=0
def tw17379600249231174630:=0
def tw4833461136240401884:=0
def tw2044987921999542638:=0
def tw11786970711747842953:=0
def tw536554383423365726:=0
def tw9434846200730722598:=0
def tw8565122333688549052:=0
def tw6100625275203698152:=0
def tw11901368260026338958:=0
def tw12430809198208076918:=0
def tw17533074983993992958:=0
def tw4735532370325095382:=0
def tw10025207771116457847:=0
def tw9916250640335180611:=0
def tw5500611865063772734:=0
def tw9919637041200450054:=0
def tw14265381846535816148:=0
def tw3774813790834067294:=0
def tw1392333521365343837:=0
def tw6726797611092247076:=0
def tw12863705854228304871:=0
def tw9326238498768151534:=0
def tw16348985125128935431:=0
def tw11102120678285297870:=0
def tw15371747536289559630:=0
def tw1592259515234792318:=0
def tw11995028174173689277:=0
def tw1202327764027206476:=0
def tw14267837635073729811:=0
def tw3119071923720047998:=0
def tw8655602431968485712:=0
def tw1814412031242718901:=0
def tw13385295111358785472:=0
def tw3062628559967247871:=0
def tw17321105292922993550:=0
def tw9408676180592587738:=0
def tw17995128986996376830:=0
def tw13731423785477385427:=0
def tw290565871942895764:=0
def tw8916985178893945816:=0
def tw10081640216288231907:=0
def tw3499125976099642118:=0
def tw13453126810665060190:=0
def tw15242007650583553843:=0
def tw15333916245739426526:=0
def tw9059257979475610954:=0
def tw16704353495137656126:=0
def tw18078443699672746319:=0
def tw18285516128909577052:=0
def tw6732577459568583270:=0
def tw2703614206711166090:=0
def tw9127794834065672279:=0
def tw1221413546737540443:=0
def tw8993133479471166005:=0
def tw11020259106030908870:=0
def tw10256382610742126816:=0
def tw12146482829718645388:=0
def tw13535234103547468717:=0
def tw16159449934835974860:=0
def tw12349934796099828036:=0
def tw859573147868858176:=0
def tw10664126684943687119:=0
def tw9938317424263075446:=0
def tw13032082785970294150:=0
def tw4323399049200522504:=0
def tw14785832765051882465:=0
def tw12675413738516661698:=0
def tw1104307896273222794:=0
def tw3972501727746325134:=0
def tw12934474230637692272:=0
def tw9935266013501776199:=0
def tw1160168705927940745:=0
def tw1700437895180912405:=0
def tw5006236792818694640:=0
def tw5092056200837473799:=0
def tw8331678700226046980:=0
def tw1386598321221991031:=0
def tw4458139724714307358:=0
def tw15576777791392210845:=0
def tw8566691764956145412:=0
def tw2253338386469894431:=0
def tw1144048223967898898:=0
def tw7737243245236440735:=0
def tw6616691621768124528:=0
def tw5066774528655264178:=0
def tw7596203753058145673:=0
def tw16024815025514994389:=0
def tw8417298068192669460:=0
def tw12561699250490352430:=0
def tw6673813169125438774:=0
def tw908215494221396983:=0
def tw16294500911857116969:=0
def tw18015389815897394657:=0
def tw8873961835486274214:=0
def tw18196983454697189920:=0
def tw1471807218887865591:=0
def tw16642737893886819823:=0
def tw2444555549311371744:=0
def tw17914268185072418626:=0
def tw10399305231852203061:=0
def tw1584181109452670555:=0
def tw8687032207209989789:=0
def tw9355748042073025959:=0
def tw14176400344135876089:=0
def tw12870773722983403051:=0
def tw12221169780383554309:=0
def tw13010752491668929975:=0
def tw1417448069237502201:=0
def tw4618681579841320932:=0
def tw9929402661816947710:=0
def tw11401166887118364208:=0
def tw3142303826105716515:=0
def tw1752785767891120039:=0
def tw12620041677682428325:=0
def tw10573440492942967949:=0
def tw3626610180675066345:=0
def tw17260880318713500942:=0
def tw8482305047679227363:=0
def tw15224375530435867129:=0
def tw2386045136990138346:=0
def tw14375080976508586873:=0
def tw13363498580974848453:=0
def tw17683375434660776503:=0
def tw17040585062817865355:=0
def tw9731257098934936460:=0
def tw18389072395614985811:=0
def tw16675871823022533521:=0
def tw5773214497490090273:=0
def tw94762637363670392:=0
def tw10050549311440856357:=0
def tw5444152734861549547:=0
def tw1759456527620603281:=0
def tw13871813108432306508:=0
def tw7215242310675237101:=0
def tw2750390876463969333:=0
def tw14402456936998166245:=0
def tw7616991193577285788:=0
def tw8262711502183649457:=0
def tw8248939940706872701:=0
def tw11213108818559430572:=0
def tw8193260262410949631:=0
def tw855856423347937143:=0
def tw15934864020071338641:=0
def tw1423606233714652565:=0
def tw17781923287627678866:=0
def tw8696063791221559803:=0
def tw6818232258830437391:=0
def tw17776965974313013230:=0
def tw11275183919136666018:=0
def tw11860370699720841707:=0
def tw11994934376753815035:=0
def tw16515971920685927465:=0
def tw15739861745878544331:=0
def tw1472765720110127477:=0
def tw3474295880162414593:=0
def tw11165550830511585983:=0
def tw16163189655370056883:=0
def tw369264118719418685:=0
def tw5957816192752300479:=0
def tw9191256710105650614:=0
def tw1573401538644280060:=0
def tw9264811190312099546:=0
def tw9703632095484692537:=0
def tw3496587395159550071:=0
def tw3874413191558985109:=0
def tw12070397415406998176:=0
def tw11816889902723604880:=0
def tw5997409783792969357:=0
def tw13428124787409710816:=0
def tw2027984784780132821:=0
def tw16309334498306164065:=0
def tw4936552713523297220:=0
def tw7477854429105124480:=0
def tw11402156374846235459:=0
def tw4521152813696278626:=0
def tw10746162362347528390:=0
def tw4203506676991836896:=0
def tw16254543616320847361:=0
def tw8465927737113677760:=0
def tw15219280287669304301:=0
def tw6246317481040788899:=0
def tw6285979138378239782:=0
def tw5097504764745387175:=0
def tw7605825301900828611:=0
def tw11067846611534073024:=0
def tw2116579163896127713:=0
def tw17342275526001786435:=0
def tw17766663773406433164:=0
def tw17213180068516427:=0
def tw16968270899394710447:=0
def tw1591225173098151784:=0
def tw9255982538519894051:=0
def tw10216396852639576306:=0
def tw13493729723989329919:=0
def tw6798409186485071764:=0
def tw1538883918615992863:=0
def tw5566829493687303535:=0
def tw3220383228124363994:=0
def tw16862353890310319767:=0
def tw14299292451612003236:=0
def tw13389229147094115305:=0
def tw6788062211680548183:=0
def tw4422953243189106666:=0
def tw17539992034949776726:=0
def tw4926455900202635571:=0
def tw17721494231332562995:=0
def tw10578458677714513958:=0
def tw4928006824083672495:=0
def tw1975305714545724568:=0
def tw12533510569298388716:=0
def tw6442484648983975111:=0
def tw4299844238028415438:=0
def tw5771279885682539970:=0
def tw4918848523199336029:=0
def tw17343834024259619565:=0
def tw8056020668292919524:=0
def tw7036783698315568006:=0
def tw3433440281519061648:=0
def tw1924809587129983112:=0
def tw15648718762782476311:=0
def tw7164620760944269746:=0
def tw14482338073704721911:=0
def tw17250198606634443540:=0
def tw6590598521647982528:=0
def tw8986651856868504033:=0
def tw14564358448585455329:=0
def tw126858575684186271:=0
def tw2519340825862236935:=0
def tw9996664342626154440:=0
def tw15877301825052363355:=0
def tw7110270087831213223:=0
def tw11994103251402058671:=0
def tw8918226204789029216:=0
def tw9145793053027106197:=0
def tw11733427602983663475:=0
def tw10416381759095872047:=0
def tw1509982189425110333:=0
def tw5228339400797841176:=0
def tw18332139696709510494:=0
def tw18038210072005137560:=0
def tw16095876108211355960:=0
def tw3557042651768296671:=0
def tw17032991180696496684:=0
def tw17142933122850058364:=0
def tw8025494856737796044:=0
def tw13910343270222880671:=0
def tw17060994640954257643:=0
def tw3114570055214560030:=0
def tw11181510766934578353:=0
def tw14180423864149961753:=0
def tw8705022363374287571:=0
def tw15284842966261546547:=0
def tw16111760585290349881:=0
def tw12745548875737220336:=0
def tw12536907694158182490:=0
def tw546192277748726299:=0
def tw15959883747596858291:=0
def tw16603081457839462514:=0
def tw13159638301663607878:=0
def tw11958504405104526195:=0
def tw17133878190491624194:=0
def tw8584272926916719715:=0
def tw7039983549300625149:=0
def tw18172785019614000972:=0
def tw1350182266740628167:=0
def tw2059159840876024256:=0
def tw1792170718424336900:=0
def tw5637620378760546497:=0
def tw7356264036744835084:=0
def tw7243695746827402240:=0
def tw9517342573004875250:=0
def tw2068066603538961280:=0
def tw13434432157825813606:=0
def tw2117048264718682981:=0
def tw16443943623216816830:=0
def tw8900492174822029668:=0
def tw17707727613455380190:=0
def tw12069788441388618449:=0
def tw5965221821278285635:=0
def tw16056826621450536851:=0
def tw5585564991397558539:=0
def tw8430169460838818889:=0
def tw10912141825111622824:=0
def tw11431233908273419179:=0
def tw9088999435972634445:=0
def tw9493025638818688994:=0
def tw9647047173538535882:=0
def tw12047067264343691700:=0
def tw8598242657113593667:=0
def tw16324563304643612596:=0
def tw9271490900603186440:=0
def tw8059802442923871946:=0
def tw18041450498024621483:=0
def tw12034766638386914785:=0
def tw11181437818214350702:=0
def tw13248446319254699885:=0
def tw5660735042700057998:=0
def tw1956855455346591523:=0
def tw3090572348329714739:=0
def tw10865897259919931533:=0
def tw17393161048830901556:=0
def tw10124357699003081001:=0
def tw17170585320817621860:=0
def tw14885890911320605585:=0
def tw11975092537740861769:=0
def tw14478565091109715876:=0
def tw16661879262295346528:=0
def tw10194699900728842868:=0
def tw3909588156646256238:=0
def tw13003197834143357913:=0
def tw611586338273858551:=0
def tw9659201433018205488:=0
def tw17977511255141246075:=0
def tw6145257592093773235:=0
def tw4437142054353444291:=0
def tw6251963217966498584:=0
def tw14214158456722214516:=0
def tw14040140201737275456:=0
def tw17933712980677495273:=0
def tw7443981316409889991:=0
def tw7926930747441532338:=0
def tw9385379402506409137:=0
def tw8657440916553280883:=0
def tw6741405181282069532:=0
def tw5438383363157507183:=0
def tw13951041626215704528:=0
def tw18381934548463410460:=0
def tw1457709526909730014:=0
def tw15726057447549901907:=0
def tw15603322992559117721:=0
def tw4053161161587147291:=0
def tw4784654596705198947:=0
def tw17527654952371105423:=0
def tw16704175210422374441:=0
def tw10915880532751601328:=0
def tw17831607925522877067:=0
def tw8558206392450692689:=0
def tw13333904470176313378:=0
def tw257091864601600557:=0
def tw18017059309159307967:=0
def tw1815276464922828903:=0
def tw149940361823365056:=0
def tw12249435799487769247:=0
def tw1935815737458221930:=0
def tw4479044671499809005:=0
def tw7264627150200201878:=0
def tw3819150471727603906:=0
def tw13017532969002937672:=0
def tw11653684500700157372:=0
def tw737336837093390384:=0
def tw3895711608880376016:=0
def tw8424577913461967177:=0
def tw18072266689464300409:=0
def tw4340121174393418724:=0
def tw2566205742853905517:=0
def tw12356264553952760051:=0
def tw18293723788287462910:=0
def tw10596590931978825299:=0
def tw12308878986999903417:=0
def tw7511759492893251061:=0
def tw11713424218559594739:=0
def tw525354607879801631:=0
def tw15821600831050268851:=0
def tw1762019548005903746:=0
def tw6356469393040309281:=0
def tw16271113345247610198:=0
def tw17660394919200630235:=0
def tw1058245805698278772:=0
def tw5391763512025174878:=0
def tw4647451883413605669:=0
def tw10841676390536494466:=0
def tw12152754967658728536:=0
def tw14178115444073657182:=0
def tw5378920338856899384:=0
def tw9236251024090585367:=0
def tw5252885897311365142:=0
def tw9578202752889177501:=0
def tw3608394934006340505:=0
def tw4117180879880580600:=0
def tw12846733835000695477:=0
def tw11076001661450997662:=0
def tw5188929334769806409:=0
def tw1556651869984907970:=0
def tw11964984346263583546:=0
def tw13250451648721910349:=0
def tw9920095703958065084:=0
def tw13495069478136961132:=0
def tw11493531190575270910:=0
def tw17608192141223733848:=0
def tw12865724229017621021:=0
def tw6390402705574475648:=0
def tw15016421762176679667:=0
def tw12323582504401236726:=0
def tw10338685094172471998:=0
def tw6683353158032694728:=0
def tw13326369317085563865:=0
def tw12060442617179787618:=0
def tw11597005339289357642:=0
def tw4384191622147842879:=0
def tw11905198385005189129:=0
def tw12811075868288332606:=0
def tw1503379606964552762:=0
def tw16139159292365186502:=0
def tw13313142283123868796:=0
def tw18013695315109698365:=0
def tw18028412682318222447:=0
def tw8595607880143165762:=0
def tw7137050692441732377:=0
def tw7386525806251926960:=0
def tw12568724354331301288:=0
def tw12834288916038693781:=0
def tw11334470265916698360:=0
def tw5674692772575610626:=0
def tw7351459972641848415:=0
def tw8794671740932612810:=0
def tw17764598459920301564:=0
def tw14587675296176284965:=0
def tw4550405350504267731:=0
def tw5350613525948012282:=0
def tw10439925572449445509:=0
def tw16274160312074447021:=0
def tw18316292178741168584:=0
def tw2518198909786528940:=0
def tw4385932742345974651:=0
def tw17040550556389723127:=0
def tw4152979572952508191:=0
def tw15740622891908175673:=0
def tw4198279361917498302:=0
def tw16737446182706574121:=0
def tw15678289668140572323:=0
def tw4539828669994840255:=0
def tw7433905986380931992:=0
def tw12013388816025944834:=0
def tw2965566479787971272:=0
def tw18143352813708806325:=0
def tw14251256713215231249:=0
def tw10126038083729871509:=0
def tw11332974445577098870:=0
def tw3347434667052672990:=0
def tw17156624360550685335:=0
def tw1163569164634055466:=0
def tw10661003921910371073:=0
def tw17843345217640518599:=0
def tw17177599166096767340:=0
def tw2965531364530128613:=0
def tw10801613354142445739:=0
def tw7163672889341936619:=0
def tw11860607722582823748:=0
def tw4454886000744184718:=0
def tw1993902522263453023:=0
def tw13583946027163155696:=0
def tw7152416464125264498:=0
def tw4748697341186400682:=0
def tw12922361514817895774:=0
def tw12419767438308955059:=0
def tw12352453328664272831:=0
def tw17591724508367895110:=0
def tw3838151501279763006:=0
def tw1358811438297946152:=0
def tw15472085167943502007:=0
def tw3298442000449721656:=0
def tw891860838528235134:=0
def tw1828200732992496190:=0
def tw6555520358143939655:=0
def tw11914139242568697265:=0
def tw17568182166263366585:=0
def tw8760873837502976022:=0
def tw2535093321914131860:=0
def tw15890633066415588927:=0
def tw9340348545402877420:=0
def tw2154768262776745521:=0
def tw6633629860864337564:=0
def tw812771635041999827:=0
def tw17430964728375907173:=0
def tw9507544616457991202:=0
def tw2898728218466514599:=0
def tw11688136038465375365:=0
def tw3060908033635120244:=0
def tw11389275198742585606:=0
def tw12155071525198961838:=0
def tw7764319274543926087:=0
def tw1469002643299346623:=0
def tw7495422056807646775:=0
def tw13018649604420377830:=0
def tw452133644655677002:=0
def tw3576454082276593178:=0
def tw7180631592196494284:=0
def tw12181660199145226480:=0
def tw11652215668036665142:=0
def tw10135118707294128924:=0
def tw4317789352000188805:=0
def tw5693700616596405489:=0
def tw12367768168613539070:=0
def tw3182447035326876029:=0
def tw11887376259630786893:=0
def tw411865102700169364:=0
def tw8939142166604774840:=0
def tw8927333394223766777:=0
def tw11886658129700329248:=0
def tw4078213532422735361:=0
def tw267055615960845612:=0
def tw9943767605202543284:=0
def tw828507265164071754:=0
def tw18228461910803876371:=0
def tw6757225969159724195:=0
def tw9675149234695821985:=0
def tw17637151168365930050:=0
def tw14945575489404760325:=0
def tw9126824206892600758:=0
def tw11786655985848944250:=0
def tw16380558712235942221:=0
def tw16616468832661104342:=0
def tw3384376009784411102:=0
def tw8207026240196956189:=0
def tw7694630373279762609:=0
def tw6366078607760896266:=0
def tw1206270015901908093:=0
def tw18248044974783851165:=0
def tw9697714507527491977:=0
def tw3131861579136738539:=0
def tw942991908209328346:=0
def tw14387636486348869638:=0
def tw1300053508165859033:=0
def tw1034755735374453474:=0
def tw15484364973854402888:=0
def tw5753536259255077363:=0
def tw11507714466450659034:=0
def tw14076627018215265352:=0
def tw9141732865198500510:=0
def tw6998236449168466124:=0
def tw1652859496762128513:=0
def tw18296264998325009010:=0
def tw7862632844747438638:=0
def tw12176129803993065308:=0
def tw14613305532953656455:=0
def tw6336517253384476902:=0
def tw8943537899384864427:=0
def tw12129715796309962817:=0
def tw4493215804193069336:=0
def tw18077309356243876436:=0
def tw17071648095606377808:=0
def tw4960735303622182043:=0
def tw14336691217131113477:=0
def tw14709400425763122583:=0
def tw356107492025202469:=0
def tw973225460359343475:=0
def tw6305244177088477205:=0
def tw12831282907647820056:=0
def tw3929931050424285272:=0
def tw14711758851796403451:=0
def tw6284843630101227360:=0
def tw18287742887739695612:=0
def tw16679043022043031614:=0
def tw15992159835249775946:=0
def tw4390155686401357102:=0
def tw16019390830392021184:=0
def tw13435358959018155706:=0
def tw11762570187237528931:=0
def tw1751480655021259242:=0
def tw2765234603093369456:=0
def tw15555408690643222329:=0
def tw13438964299555832787:=0
def tw10209312266376296534:=0
def tw9784114814171003678:=0
def tw835268750825193373:=0
def tw619815734039138376:=0
def tw8002466941438666926:=0
def tw3397201263676449063:=0
def tw16747279327157117549:=0
def tw16326460079872163530:=0
def tw15259689401792941463:=0
def tw9354184519378484576:=0
def tw7805124965431145201:=0
def tw16703612300244744792:=0
def tw14430301870248733047:=0
def tw15204802279475975149:=0
def tw6718961752807541426:=0
def tw1478727349022603311:=0
def tw12025806088429931990:=0
def tw15652764427765651316:=0
def tw7219964927982356988:=0
def tw8753955589609448113:=0
def tw3554375376414211463:=0
def tw1808465922180184443:=0
def tw13705983019874967715:=0
def tw11344724124259022960:=0
def tw1425113232086918104:=0
def tw5351095906335441814:=0
def tw7384359021857425732:=0
def tw14530003026904172641:=0
def tw6353275499759370448:=0
def tw7623451685570315131:=0
def tw13925528023710758885:=0
def tw15459172717801796079:=0
def tw2934382524169815044:=0
def tw7986377128311432133:=0
def tw12860758592178959863:=0
def tw1378718307158316264:=0
def tw11377784070973995518:=0
def tw10479552501707610701:=0
def tw11314071232364656619:=0
def tw17741993243887970412:=0
def tw11042042236815001908:=0
def tw909829136344134688:=0
def tw492193208757783344:=0
def tw12511287065131441059:=0
def tw5406450621195528778:=0
def tw10926888277209993532:=0
def tw195669132890011175:=0
def tw1677158676805958763:=0
def tw10762101156064689282:=0
def tw17880284305807385346:=0
def tw882295667173432881:=0
def tw716419001919650802:=0
def tw5476259232366821637:=0
def tw6377507889762228266:=0
def tw6198638207796864760:=0
def tw10430211291931606423:=0
def tw8255907117978339694:=0
def tw11005720258719663370:=0
def tw11488301397138499074:=0
def tw2926680444678386867:=0
def tw16842022779356092652:=0
def tw4429963293308155109:=0
def tw11636752666588842579:=0
def tw16462354030282223375:=0
def tw13865390580431812080:=0
def tw10643883256768536269:=0
def tw16055179097732268310:=0
def tw8594061702245008901:=0
def tw12350486092951840273:=0
def tw10988167595658792028:=0
def tw1790648714586563248:=0
def tw3175428907227447626:=0
def tw17290111461181885843:=0
def tw7192763233512662436:=0
def tw2490375856470474693:=0
def tw15580118564840173738:=0
def tw1364924479145199572:=0
def tw7266536081436775338:=0
def tw13715224895360261093:=0
def tw5894003682171704811:=0
def tw1765687633985477756:=0
def tw18220082233074253534:=0
def tw11569972954123473661:=0
def tw750477394758269918:=0
def tw13012585280551650569:=0
def tw16506100094989172719:=0
def tw2723639247312429403:=0
def tw6532661662159489678:=0
def tw5556782307403050670:=0
def tw12025768090387640720:=0
def tw14529784758265514915:=0
def tw16150527933463561406:=0
def tw8128251470333479374:=0
def tw5502330310425518547:=0
def tw4415818170238828590:=0
def tw17369582560117591847:=0
def tw12880269214894585499:=0
def tw18190648159567664126:=0
def tw11435783257303650766:=0
def tw11969880929979960237:=0
def tw16228759786897706989:=0
def tw5091812799385044721:=0
def tw8541660392396342976:=0
def tw87718687043238249:=0
def tw18119252874959005860:=0
def tw11490593461795143572:=0
def tw4994880852228843688:=0
def tw12912991269710769458:=0
def tw3437968055422879084:=0
def tw6918029358128329561:=0
def tw16268535926151527115:=0
def tw11382605478273285098:=0
def tw2947806835947992064:=0
def tw15152637475015912200:=0
def tw11791501285318083203:=0
def tw10789887411040291000:=0
def tw2675665700642967772:=0
def tw12297473859573027038:=0
def tw10803819617514852485:=0
def tw10317261776437013477:=0
def tw11147439356919331486:=0
def tw16234190638039430496:=0
def tw6132667803959134737:=0
def tw3517571826016134983:=0
def tw14554805132794818735:=0
def tw16679210031933244441:=0
def tw11270725925081456613:=0
def tw8561844380982261412:=0
def tw4913058884341279312:=0
def tw8485773200705607837:=0
def tw5186555606854395481:=0
def tw13437854405938557770:=0
def tw13963973069212404606:=0
def tw8936259101898641234:=0
def tw3459731887989596158:=0
def tw15952243412865826918:=0
def tw14358904082578391958:=0
def tw1749526464205092518:=0
def tw6291824569993025670:=0
def tw10002559384724616368:=0
def tw9182709645242501830:=0
def tw11997754715171347759:=0
def tw2858658591982644811:=0
def tw7096589960415591316:=0
def tw10967302585731121302:=0
def tw17645302989048298248:=0
def tw11957005594588449855:=0
def tw17521752325030468379:=0
def tw10806465594249133374:=0
def tw12354522482197200682:=0
def tw18066495238559731796:=0
def tw14438501877024861027:=0
def tw1593905433085977846:=0
def tw3937902985901579079:=0
def tw14891660358916876408:=0
def tw6927425811398284864:=0
def tw11245107060698524067:=0
def tw8765092140849041121:=0
def tw11867981598912147286:=0
def tw11489776488336583399:=0
def tw10767524312299798400:=0
def tw10786709728629820368:=0
def tw3969024352928059857:=0
def tw10397737358036346146:=0
def tw14433868400061541261:=0
def tw7450324358389579444:=0
def tw15999724593646039203:=0
def tw13271032940220461433:=0
def tw15378369115645220627:=0
def tw7757978937617418196:=0
def tw13129014641459847560:=0
def tw2510504629282560277:=0
def tw10738670622044689032:=0
def tw12801487102716296943:=0
def tw8826584279256368815:=0
end PySem.W.Fast
open PySem PySem.W PyProof.Rows
set_option maxRecDepth 100000 in
set_option maxHeartbeats 0 in
theorem PySem.Challenge.cw_lettertoll_k94_desks_changed_and_refused_holds : PySem.Challenge.rw_lettertoll_k94_desks_changed_and_refused.Holds := by
 w_on;o_law;k_head;(case hw=>w_witness2)
 k_fill
 refine K94.walk (l:=PySem.Challenge.rw_lettertoll_k94_desks_changed_and_refused) rfl rfl (fun w h Y=>PySem.W.km_in_of Y) ?F
 case F =>
  intro w mg fa h KX G hmg
  refine' K94.all_mk KX G hmg ?a1 ?l1 ?c1 ?k1 ?a2 ?l2 ?c2 ?k2 ?a3 ?l3 ?c3 ?k3 ?a4 ?l4 ?c4 ?k4 ?a5 ?l5 ?c5 ?k5 ?a6 ?l6 ?c6 ?k6 ?a7 ?l7 ?c7 ?k7 ?a8 ?l8 ?c8 ?k8 ?a9 ?l9 ?c9 ?k9 ?a10 ?l10 ?c10 ?k10 ?a11 ?l11 ?c11 ?k11 ?a12 ?l12 ?c12 ?k12 ?a13 ?l13 ?c13 ?k13 ?a14 ?l14 ?c14 ?k14 ?a15 ?l15 ?c15 ?k15 ?a16 ?l16 ?c16 ?k16 ?a17 ?l17 ?c17 ?k17 ?a18 ?l18 ?c18 ?k18 ?a19 ?l19 ?c19 ?k19 ?a20 ?l20 ?c20 ?k20 ?a21 ?l21 ?c21 ?k21 ?a22 ?l22 ?c22 ?k22 ?a23 ?l23 ?c23 ?k23 ?a24 ?l24 ?c24 ?k24 ?a25 ?l25 ?c25 ?k25 ?a26 ?l26 ?c26 ?k26 ?a27 ?l27 ?c27 ?k27 ?a28 ?l28 ?c28 ?k28 ?a29 ?l29 ?c29 ?k29 ?a30 ?l30 ?c30 ?k30 ?a31 ?l31 ?c31 ?k31 ?a32 ?l32 ?c32 ?k32 ?a33 ?l33 ?c33 ?k33 ?a34 ?l34 ?c34 ?k34 ?a35 ?l35 ?c35 ?k35 ?a36 ?l36 ?c36 ?k36 ?a37 ?l37 ?c37 ?k37 ?a38 ?l38 ?c38 ?k38 ?a39 ?l39 ?c39 ?k39 ?a40 ?l40 ?c40 ?k40 ?y1 ?y2 ?z1 ?z2 ?z3 ?z4 ?z5 ?z6 ?z7 ?z8 ?z9 ?z10 ?z11 ?z12 ?z13 ?z14 ?gDT ?xDT ?eDT ?gCN ?xCN ?eCN ?gCP ?xCP ?eCP ?gCW ?xCW ?eCW ?gCL ?xCL ?eCL ?gCB ?xCB ?eCB ?sCNDT ?sCPDT ?sCWDT ?sCLDT ?sCNCP ?sCNCW ?sCNCL ?sCPCN ?sCPCW ?sCPCL ?sCWCN ?sCWCP ?sCWCL ?sCLCN ?sCLCP ?sCLCW ?guA ?luA ?guB ?luB ?guC ?luC ?gPA ?faPAinit ?fiPAinit ?liPAinit ?ciPAinit ?kkPAinit ?faPAput ?fiPAput ?liPAput ?ciPAput ?kkPAput ?faPAleast_sum ?fiPAleast_sum ?liPAleast_sum ?ciPAleast_sum ?kkPAleast_sum ?faPAbound ?fiPAbound ?liPAbound ?ciPAbound ?kkPAbound ?faPAways ?fiPAways ?liPAways ?ciPAways ?kkPAways ?pgPA ?hdPA ?poPA ?saPA ?mkPA ?kcPA ?naPAprices ?naPAthings ?naPAsums ?naPAheads ?naPAtails ?gCO ?faCOinit ?fiCOinit ?liCOinit ?ciCOinit ?kkCOinit ?faCOput_counts ?fiCOput_counts ?liCOput_counts ?ciCOput_counts ?kkCOput_counts ?faCOover_ways ?fiCOover_ways ?liCOover_ways ?ciCOover_ways ?kkCOover_ways ?faCOby_way ?fiCOby_way ?liCOby_way ?ciCOby_way ?kkCOby_way ?pgCO ?hdCO ?poCO ?saCO ?mkCO ?kcCO ?naCOparted ?naCOletters ?naCOcodes ?naCOtails ?gC ?faCinit ?fiCinit ?liCinit ?ciCinit ?kkCinit ?faCbook ?fiCbook ?liCbook ?ciCbook ?kkCbook ?faCput_price ?fiCput_price ?liCput_price ?ciCput_price ?kkCput_price ?faCput_weight ?fiCput_weight ?liCput_weight ?ciCput_weight ?kkCput_weight ?faCback ?fiCback ?liCback ?ciCback ?kkCback ?faCanswer ?fiCanswer ?liCanswer ?ciCanswer ?kkCanswer ?faCknows ?fiCknows ?liCknows ?ciCknows ?kkCknows ?faCanswer_known ?fiCanswer_known ?liCanswer_known ?ciCanswer_known ?kkCanswer_known ?faCcode_text ?fiCcode_text ?liCcode_text ?ciCcode_text ?kkCcode_text ?pgC ?hdC ?poC ?saC ?mkC ?kcC ?naCsigns ?naCprices ?naCnames ?naCweights ?naCpast
  (case a1=>k_is);(case l1=>k_is);(case c1=>k_is);(case k1=>k_is)
  (case a2=>k_is);(case l2=>k_is);(case c2=>k_is);(case k2=>k_is)
  (case a3=>k_is);(case l3=>k_is);(case c3=>k_is);(case k3=>k_is)
  (case a4=>k_is);(case l4=>k_is);(case c4=>k_is);(case k4=>k_is)
  (case a5=>k_is);(case l5=>k_is);(case c5=>k_is);(case k5=>k_is)
  (case a6=>k_is);(case l6=>k_is);(case c6=>k_is);(case k6=>k_is)
  (case a7=>k_is);(case l7=>k_is);(case c7=>k_is);(case k7=>k_is)
  (case a8=>k_is);(case l8=>k_is);(case c8=>k_is);(case k8=>k_is)
  (case a9=>k_is);(case l9=>k_is);(case c9=>k_is);(case k9=>k_is)
  (case a10=>k_is);(case l10=>k_is);(case c10=>k_is);(case k10=>k_is)
  (case a11=>k_is);(case l11=>k_is);(case c11=>k_is);(case k11=>k_is)
  (case a12=>k_is);(case l12=>k_is);(case c12=>k_is);(case k12=>k_is)
  (case a13=>k_is);(case l13=>k_is);(case c13=>k_is);(case k13=>k_is)
  (case a14=>k_is);(case l14=>k_is);(case c14=>k_is);(case k14=>k_is)
  (case a15=>k_is);(case l15=>k_is);(case c15=>k_is);(case k15=>k_is)
  (case a16=>k_is);(case l16=>k_is);(case c16=>k_is);(case k16=>k_is)
  (case a17=>k_is);(case l17=>k_is);(case c17=>k_is);(case k17=>k_is)
  (case a18=>k_is);(case l18=>k_is);(case c18=>k_is);(case k18=>k_is)
  (case a19=>k_is);(case l19=>k_is);(case c19=>k_is);(case k19=>k_is)
  (case a20=>k_is);(case l20=>k_is);(case c20=>k_is);(case k20=>k_is)
  (case a21=>k_is);(case l21=>k_is);(case c21=>k_is);(case k21=>k_is)
  (case a22=>k_is);(case l22=>k_is);(case c22=>k_is);(case k22=>k_is)
  (case a23=>k_is);(case l23=>k_is);(case c23=>k_is);(case k23=>k_is)
  (case a24=>k_is);(case l24=>k_is);(case c24=>k_is);(case k24=>k_is)
  (case a25=>k_is);(case l25=>k_is);(case c25=>k_is);(case k25=>k_is)
  (case a26=>k_is);(case l26=>k_is);(case c26=>k_is);(case k26=>k_is)
  (case a27=>k_is);(case l27=>k_is);(case c27=>k_is);(case k27=>k_is)
  (case a28=>k_is);(case l28=>k_is);(case c28=>k_is);(case k28=>k_is)
  (case a29=>k_is);(case l29=>k_is);(case c29=>k_is);(case k29=>k_is)
  (case a30=>k_is);(case l30=>k_is);(case c30=>k_is);(case k30=>k_is)
  (case a31=>k_is);(case l31=>k_is);(case c31=>k_is);(case k31=>k_is)
  (case a32=>k_is);(case l32=>k_is);(case c32=>k_is);(case k32=>k_is)
  (case a33=>k_is);(case l33=>k_is);(case c33=>k_is);(case k33=>k_is)
  (case a34=>k_is);(case l34=>k_is);(case c34=>k_is);(case k34=>k_is)
  (case a35=>k_is);(case l35=>k_is);(case c35=>k_is);(case k35=>k_is)
  (case a36=>k_is);(case l36=>k_is);(case c36=>k_is);(case k36=>k_is)
  (case a37=>k_is);(case l37=>k_is);(case c37=>k_is);(case k37=>k_is)
  (case a38=>k_is);(case l38=>k_is);(case c38=>k_is);(case k38=>k_is)
  (case a39=>k_is);(case l39=>k_is);(case c39=>k_is);(case k39=>k_is)
  (case a40=>k_is);(case l40=>k_is);(case c40=>k_is);(case k40=>k_is)
  (case y1=>k_is)
  (case y2=>k_is)
  (case z1=>k_is)
  (case z2=>k_is)
  (case z3=>k_is)
  (case z4=>k_is)
  (case z5=>k_is)
  (case z6=>k_is)
  (case z7=>k_is)
  (case z8=>k_is)
  (case z9=>k_is)
  (case z10=>k_is)
  (case z11=>k_is)
  (case z12=>k_is)
  (case z13=>k_is)
  (case z14=>k_is)
  (case gDT=>k_is)
  (case xDT=>kernel_rfl)
  (case eDT=>kernel_rfl)
  (case gCN=>k_is)
  (case xCN=>kernel_rfl)
  (case eCN=>kernel_rfl)
  (case gCP=>k_is)
  (case xCP=>kernel_rfl)
  (case eCP=>kernel_rfl)
  (case gCW=>k_is)
  (case xCW=>kernel_rfl)
  (case eCW=>kernel_rfl)
  (case gCL=>k_is)
  (case xCL=>kernel_rfl)
  (case eCL=>kernel_rfl)
  (case gCB=>k_is)
  (case xCB=>kernel_rfl)
  (case eCB=>kernel_rfl)
  (case sCNDT=>k_is)
  (case sCPDT=>k_is)
  (case sCWDT=>k_is)
  (case sCLDT=>k_is)
  (case sCNCP=>k_is)
  (case sCNCW=>k_is)
  (case sCNCL=>k_is)
  (case sCPCN=>k_is)
  (case sCPCW=>k_is)
  (case sCPCL=>k_is)
  (case sCWCN=>k_is)
  (case sCWCP=>k_is)
  (case sCWCL=>k_is)
  (case sCLCN=>k_is)
  (case sCLCP=>k_is)
  (case sCLCW=>k_is)
  (case guA=>k_is)
  (case luA=>k_is)
  (case guB=>k_is)
  (case luB=>k_is)
  (case guC=>k_is)
  (case luC=>k_is)
  (case gPA=>k_is)
  (case faPAinit=>k_is)
  (case fiPAinit=>k_is)
  (case liPAinit=>k_is)
  (case ciPAinit=>k_is)
  (case kkPAinit=>k_is)
  (case faPAput=>k_is)
  (case fiPAput=>k_is)
  (case liPAput=>k_is)
  (case ciPAput=>k_is)
  (case kkPAput=>k_is)
  (case faPAleast_sum=>k_is)
  (case fiPAleast_sum=>k_is)
  (case liPAleast_sum=>k_is)
  (case ciPAleast_sum=>k_is)
  (case kkPAleast_sum=>k_is)
  (case faPAbound=>k_is)
  (case fiPAbound=>k_is)
  (case liPAbound=>k_is)
  (case ciPAbound=>k_is)
  (case kkPAbound=>k_is)
  (case faPAways=>k_is)
  (case fiPAways=>k_is)
  (case liPAways=>k_is)
  (case ciPAways=>k_is)
  (case kkPAways=>k_is)
  (case pgPA=>k_is)
  (case hdPA=>k_is)
  (case poPA=>k_is)
  (case saPA=>k_is)
  (case mkPA=>k_is)
  (case kcPA=>k_is)
  (case naPAprices=>k_is)
  (case naPAthings=>k_is)
  (case naPAsums=>k_is)
  (case naPAheads=>k_is)
  (case naPAtails=>k_is)
  (case gCO=>k_is)
  (case faCOinit=>k_is)
  (case fiCOinit=>k_is)
  (case liCOinit=>k_is)
  (case ciCOinit=>k_is)
  (case kkCOinit=>k_is)
  (case faCOput_counts=>k_is)
  (case fiCOput_counts=>k_is)
  (case liCOput_counts=>k_is)
  (case ciCOput_counts=>k_is)
  (case kkCOput_counts=>k_is)
  (case faCOover_ways=>k_is)
  (case fiCOover_ways=>k_is)
  (case liCOover_ways=>k_is)
  (case ciCOover_ways=>k_is)
  (case kkCOover_ways=>k_is)
  (case faCOby_way=>k_is)
  (case fiCOby_way=>k_is)
  (case liCOby_way=>k_is)
  (case ciCOby_way=>k_is)
  (case kkCOby_way=>k_is)
  (case pgCO=>k_is)
  (case hdCO=>k_is)
  (case poCO=>k_is)
  (case saCO=>k_is)
  (case mkCO=>k_is)
  (case kcCO=>k_is)
  (case naCOparted=>k_is)
  (case naCOletters=>k_is)
  (case naCOcodes=>k_is)
  (case naCOtails=>k_is)
  (case gC=>k_is)
  (case faCinit=>k_is)
  (case fiCinit=>k_is)
  (case liCinit=>k_is)
  (case ciCinit=>k_is)
  (case kkCinit=>k_is)
  (case faCbook=>k_is)
  (case fiCbook=>k_is)
  (case liCbook=>k_is)
  (case ciCbook=>k_is)
  (case kkCbook=>k_is)
  (case faCput_price=>k_is)
  (case fiCput_price=>k_is)
  (case liCput_price=>k_is)
  (case ciCput_price=>k_is)
  (case kkCput_price=>k_is)
  (case faCput_weight=>k_is)
  (case fiCput_weight=>k_is)
  (case liCput_weight=>k_is)
  (case ciCput_weight=>k_is)
  (case kkCput_weight=>k_is)
  (case faCback=>k_is)
  (case fiCback=>k_is)
  (case liCback=>k_is)
  (case ciCback=>k_is)
  (case kkCback=>k_is)
  (case faCanswer=>k_is)
  (case fiCanswer=>k_is)
  (case liCanswer=>k_is)
  (case ciCanswer=>k_is)
  (case kkCanswer=>k_is)
  (case faCknows=>k_is)
  (case fiCknows=>k_is)
  (case liCknows=>k_is)
  (case ciCknows=>k_is)
  (case kkCknows=>k_is)
  (case faCanswer_known=>k_is)
  (case fiCanswer_known=>k_is)
  (case liCanswer_known=>k_is)
  (case ciCanswer_known=>k_is)
  (case kkCanswer_known=>k_is)
  (case faCcode_text=>k_is)
  (case fiCcode_text=>k_is)
  (case liCcode_text=>k_is)
  (case ciCcode_text=>k_is)
  (case kkCcode_text=>k_is)
  (case pgC=>k_is)
  (case hdC=>k_is)
  (case poC=>k_is)
  (case saC=>k_is)
  (case mkC=>k_is)
  (case kcC=>k_is)
  (case naCsigns=>k_is)
  (case naCprices=>k_is)
  (case naCnames=>k_is)
  (case naCweights=>k_is)
  (case naCpast=>k_is)
