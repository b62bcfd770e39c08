import PyProof.Rows.All
import Wide.All
import OpenK.AllK
import Wide.FinOn
import Lean
import PyProof.EqAt
import PyProof.EqKinds
import PyProof.TupleCall
import PyProof.NeKinds
import PyProof.ConsumeWalk
import PyProof.SumAny
import PyProof.Rows.SumGenD
import PyProof.ZipIter
import KE.IntBitsLaws
import PyProof.WalkInts
import PyProof.MinMaxWalk
import PyProof.TupleOfSeq
import PyProof.Rows.SortShell
import PyProof.WalksS
import PyProof.SeqWrite
import PyProof.Rows.Range3
import KE.KLam
import KE.KNestM
import PyProof.SliceSyntax
import PyProof.Rows.SetFrom
import KE.KSortTup
import PyProof.Rows.SortLt
import PyProof.Rows.SortRuns
import PySem.Challenge.RW_lettertoll_k56_whole_numbered_there_and
set_option Elab.async false
set_option linter.all false
set_option maxRecDepth 100000
set_option maxHeartbeats 16000000
theorem BC9 {P:Prop} (h:¬P->False):P:=Classical.byContradiction h
local macro_rules
 | `(tactic| obtain $p:rcasesPatMed := $e) => do
  if ((toString p.raw).splitOn "\",\"").length < 4 then Lean.Macro.throwUnsupported
  `(tactic| first | (refine BC9 fun hG => ?_; rcases $e:term with $p:rcasesPatMed <;> refine hG ?_ <;> clear hG) | rcases $e:term with $p:rcasesPatMed)
local macro_rules
 | `(tactic| rintro $ps:rintroPat* $q:rcasesPat) => do
  if ((toString q.raw).splitOn "\",\"").length < 4 then Lean.Macro.throwUnsupported
  if ps.isEmpty then `(tactic| (intro hh; refine BC9 fun hG => ?_; rcases hh with $q:rcasesPat <;> refine hG ?_ <;> clear hG))
  else `(tactic| (rintro $ps:rintroPat*; intro hh; refine BC9 fun hG => ?_; rcases hh with $q:rcasesPat <;> refine hG ?_ <;> clear hG))
local macro_rules
 | `(command| def $i:declId $t:optDeclSig $v:declVal) => `(command| noncomputable def $i:declId $t:optDeclSig $v:declVal)
local macro_rules
 | `(tactic|omega)=>`(tactic|first|lia|omega +splitDisjunctions)
noncomputable section
namespace L2
open PySem PySem.Spec PyProof.Rows
abbrev Key:=Sum Int Str
def keyIs:Key->Value->Bool
 | .inl k,v=>Value.isInt k v
 | .inr x,v=>Value.isStrOf x v
def keyH (w:World):Key->Int
 | .inl k=>hashInt k
 | .inr x=>hashStr w x
theorem a0K:∀ {k:Key} {v:Value},keyIs k v=true->(∃ i t,k=Sum.inl i/\v=Value.int i t)\/(∃ x t,k=Sum.inr x/\v=Value.str x t)
 | .inl i,v,h=>by
  obtain ⟨t,e⟩:=Value.isInt_shape (k:=i) (v:=v) h;exact .inl ⟨i,t,rfl,e⟩
 | .inr x,v,h=>by
  obtain ⟨t,e⟩:=Value.isStrOf_shape (x:=x) (v:=v) h;exact .inr ⟨x,t,rfl,e⟩
theorem key_ll (a b:Int):decide ((Sum.inl a:Key)=Sum.inl b)=(a == b):=by
 by_cases e:a=b
 ·subst e;simp
 ·have h:¬ (Sum.inl a:Key)=Sum.inl b:=λq=>e (Sum.inl.inj q);rw [decide_eq_false h];exact (beq_eq_false_iff_ne.mpr e).symm
theorem key_rr (a b:Str):decide ((Sum.inr a:Key)=Sum.inr b)=decide (a=b):=by
 by_cases e:a=b
 ·subst e;simp
 ·have h:¬ (Sum.inr a:Key)=Sum.inr b:=λq=>e (Sum.inr.inj q);rw [decide_eq_false h,decide_eq_false e]
theorem key_lr (a:Int) (b:Str):decide ((Sum.inl a:Key)=Sum.inr b)=false:=decide_eq_false (λq=>nomatch q)
theorem key_rl (a:Str) (b:Int):decide ((Sum.inr a:Key)=Sum.inl b)=false:=decide_eq_false (λq=>nomatch q)
def a7E (prog:Program) (w:World):PySem.KeyKind prog w Key where
 is:=keyIs
 hash:=keyH w
 inj:=λv a b ha hb=>by
  rcases a0K ha with ⟨i,t,rfl,rfl⟩ | ⟨x,t,rfl,rfl⟩
  ·rcases a0K hb with ⟨j,u,rfl,e⟩ | ⟨y,u,rfl,e⟩
   ·injection e with e1 _;rw [e1]
   ·exact nomatch e
  ·rcases a0K hb with ⟨j,u,rfl,e⟩ | ⟨y,u,rfl,e⟩
   ·exact nomatch e
   ·injection e with e1 _;rw [e1]
 byValue:=λk v h=>by
  rcases a0K h with ⟨i,t,rfl,rfl⟩ | ⟨x,t,rfl,rfl⟩ <;> rfl
 pyHash:=λhv h=>by
  rcases a0K hv with ⟨i,t,rfl,rfl⟩ | ⟨x,t,rfl,rfl⟩
  ·exact wpAny_pyHash_int h
  ·exact wpAny_pyHash_str h
 eqBool:=λhu hv h=>by
  rcases a0K hu with ⟨i,t,rfl,rfl⟩ | ⟨x,t,rfl,rfl⟩
  ·rcases a0K hv with ⟨j,u,rfl,rfl⟩ | ⟨y,u,rfl,rfl⟩
   ·rw [key_ll] at h;exact wpAny_eqBool_int h
   ·rw [key_lr] at h;exact SeqAt.EqAt.int_str i t y u _ _ _ _ h
  ·rcases a0K hv with ⟨j,u,rfl,rfl⟩ | ⟨y,u,rfl,rfl⟩
   ·rw [key_rl] at h;exact SeqAt.EqAt.str_int x t j u _ _ _ _ h
   ·rw [key_rr] at h;exact wpAny_eqBool_str h
 «strs»:=λk x t v h=>by
  rcases a0K h with ⟨i,u,rfl,e⟩ | ⟨y,u,rfl,e⟩
  ·exact nomatch e
  ·injection e with e1 _;subst e1;cases v <;> rfl
inductive V where
 | non | bl (b:Bool) | int (i:Int) | str (x:Str) | byt (b:Array UInt8) | flt (b:UInt64) | ref (a:Addr) | ty (n:String)
 deriving DecidableEq
def a0V:V->Value->Prop
 | .non,u=>u=Value.none
 | .bl b,u=>u=Value.bool b
 | .int i,u=>∃ t,u=Value.int i t
 | .str x,u=>∃ t,u=Value.str x t
 | .byt b,u=>∃ t,u=Value.bytes b t
 | .flt b,u=>∃ t,u=Value.float b t
 | .ref a,u=>u=Value.ref a
 | .ty n,u=>u=Value.type n
abbrev a0z:List V->List Value->Prop:=Paired a0V
theorem a0z.length {xs:List V} {us:List Value} (r:a0z xs us):xs.length=us.length:=Paired.length r
theorem a0z.get:∀ {xs:List V} {us:List Value} {i:Nat} {x:V},a0z xs us->xs[i]?=some x->∃ u,us[i]?=some u/\a0V x u
 | _,_,_,_,.nil,e=>by simp at e
 | _,_,0,_,.cons r _,e=>by simp at e;subst e;exact ⟨_,rfl,r⟩
 | _,_,i+1,x,.cons _ t,e=>by
  obtain ⟨u,h1,h2⟩:=a0z.get (i:=i) (x:=x) t (by simpa using e);exact ⟨u,by simpa using h1,h2⟩
theorem a0z.set {x:V} {u:Value} (r:a0V x u):∀ {xs:List V} {us:List Value} (i:Nat),a0z xs us->a0z (xs.set i x) (us.set i u)
 | _,_,_,.nil=>.nil
 | _,_,0,.cons _ t=>.cons r t
 | _,_,i+1,.cons q t=>.cons q (a0z.set r i t)
theorem a0z.append:∀ {xs ys:List V} {us ws:List Value},a0z xs us->a0z ys ws->a0z (xs++ys) (us++ws)
 | _,_,_,_,.nil,s=>s
 | _,_,_,_,.cons r t,s=>.cons r (a0z.append t s)
theorem a0z.take:∀ {xs:List V} {us:List Value} (n:Nat),a0z xs us->a0z (xs.take n) (us.take n)
 | _,_,0,_=>.nil
 | _,_,_+1,.nil=>.nil
 | _,_,n+1,.cons r t=>.cons r (a0z.take n t)
theorem a0z.drop:∀ {xs:List V} {us:List Value} (n:Nat),a0z xs us->a0z (xs.drop n) (us.drop n)
 | _,_,0,r=>r
 | _,_,_+1,.nil=>.nil
 | _,_,n+1,.cons _ t=>a0z.drop n t
def a9X:Option V->Option Value->Prop
 | some v,some u=>a0V v u
 | none,none=>True
 | _,_=>False
def KV {κ:Type}:List (κ × V)->List (κ × Value)->Prop:=Paired λ(p:κ × V) (q:κ × Value)=>p.1=q.1/\a0V p.2 q.2
def kV:Key->V
 | .inl i=>.int i
 | .inr x=>.str x
inductive HO where
 | lst (xs:List V)
 | tup (xs:List V)
 | dK (kvs:List (Key × V)) | dT (kvs:List (List Key × V))
 | set (S:Int->Bool) (n:Nat)
 | ins (C dx:Addr) (fs:List (Str × V))
 | own (x:Addr)
 | xd (fs:List (Str × V))
 | met (f x:Addr)
 | rng (lo hi:Int)
 | frz (o:Obj) (u:HO)
 | tbl (ps:Array Value)
 | ext (φ:Heap->Prop)
abbrev Hp:=Addr->Option HO
def upd (H:Hp) (a:Addr) (o:HO):Hp:=λb=>if b=a then some o else H b
theorem a0b {H:Hp} {a:Addr} {o:HO}:upd H a o a=some o:=by unfold upd;rw [if_pos rfl]
theorem a0i {H:Hp} {a b:Addr} {o:HO} (h:b≠a):upd H a o b=H b:=by unfold upd;rw [if_neg h]
theorem a0q {H:Hp} {a b:Addr} {o u:HO} (h:H a=some o) (h':H b=some u) (d:o≠u):a≠b:=by
 intro e;subst e;rw [h] at h';exact d (Option.some.inj h')
theorem a0A {H:Hp} {a b:Addr} {o:HO} (h:H a=some o) (h':H b=none):a≠b:=by
 intro e;subst e;rw [h] at h';cases h'
def a4J (h:Heap) (a:Addr) (items:Array Value):Prop:=∃ o,h.get? a=some o/\∃ n,o={ cls:=.type "tuple",data:=.seq items n }
theorem a4J.is {h:Heap} {a:Addr} {items:Array Value} (x:a4J h a items):IsTup h a items:=by
 obtain ⟨o,e,n,rfl⟩:=x;exact ⟨_,e,rfl,n,rfl⟩
instance {h:Heap} {a:Addr} {items:Array Value}:Coe (a4J h a items) (IsTup h a items):=⟨a4J.is⟩
instance {h:Heap} {a:Addr} {items:Array Value}:Coe (a4J h a items) (Heap.IsTuple h a items):=⟨λx=>x.is⟩
theorem a4J.lt {h:Heap} {a:Addr} {items:Array Value} (x:a4J h a items):a < h.objs.size:=x.is.lt
theorem a4J.new (h:Heap) (items:Array Value):a4J (h.push { cls:=.type "tuple",data:=.seq items }) h.objs.size items:=⟨_,Heap.get?_push_size _ rfl,_,rfl⟩
section
variable (P:Program) (w:World)
def a0R (H:Hp) (h:Heap) (a:Addr):HO->Prop
 | .lst xs=>xs.length<=sizeLine/\∃ (its:List Value) (n:Nat),a0z xs its/\h.get? a=some { cls:=.type "list",data:=.seq its.toArray n }
 | .tup xs=>xs.length<=sizeLine/\∃ its:List Value,a0z xs its/\a4J h a its.toArray
 | .dK kvs=>kvs.length<=sizeLine/\(a == sysModules)=false/\∃ vs,KV kvs vs/\h.DictOf (a7E P w) a vs
 | .dT kvs=>kvs.length<=sizeLine/\(a == sysModules)=false/\∃ xs:List (List Key × Addr × Value),
   Paired (λ(p:List Key × V) (q:List Key × Addr × Value)=>p.1=q.1/\H q.2.1=some (.tup (p.1.map kV))/\a0V p.2 q.2.2) kvs xs /\
   ∃ o es ep,h.get? a=some o/\o.ExactDict/\o.data=.dict es ep/\es.toList=xs.map (entryOfKey (tupleKind (a7E P w)))/\(xs.map (·.1)).Nodup
 | .set S n=>h.SetOf (intKind P w) a S n
 | .ins C dx fs=>H dx=some (.own a)/\fs.length<=1000/\dx≠a/\h.get? a=some (PySem.W.instObj C dx) /\
   ∃ mA,h.Ns1 dx mA/\(∀ f,a9X (fs.lookup f) (mA f))/\PySem.Within mA (fs.map (·.1))
 | .own _=>∃ o,h.get? a=some o
 | .xd fs=>∃ mA,h.Ns1 a mA/\∀ f,a9X (fs.lookup f) (mA f)
 | .rng lo hi=>∃ t u v,h.get? a=some { cls:=.type "range",data:=.fields #[.int lo t,.int hi u,.int 1 v] }
 | .frz o u=>h.get? a=some o/\a0R H h a u
 | .tbl ps=>h.get? a=some { cls:=.none,data:=.fields ps }
 | .met f x=>h.get? a=some (PySem.W.methodObj (.ref f) (.ref x))
 | .ext φ=>φ h/\(∃ o,h.get? a=some o)/\∀ h1 h2:Heap,φ h1->(∀ o,h1.get? a=some o->h2.get? a=some o)->φ h2
def HOk (H:Hp) (h:Heap):Prop:=∀ a o,H a=some o->a0R P w H h a o
end
section
variable {P:Program} {w:World} {H H':Hp} {h h':Heap} {a:Addr} {o:HO}
theorem a0R.lt (x:a0R P w H h a o):a < h.objs.size:=by
 cases o with
 | lst xs=>obtain ⟨_,_,_,_,e⟩:=x;exact Heap.lt_size e
 | tup xs=>obtain ⟨_,_,_,p⟩:=x;exact p.lt
 | dK kvs=>obtain ⟨_,_,_,_,o,_,_,e,_⟩:=x;exact Heap.lt_size e
 | dT kvs=>obtain ⟨_,_,_,_,o,_,_,e,_⟩:=x;exact Heap.lt_size e
 | set S n=>obtain ⟨o,_,_,_,e,_⟩:=x;exact Heap.lt_size e
 | ins C dx fs=>obtain ⟨_,_,_,e,_⟩:=x;exact Heap.lt_size e
 | own y=>obtain ⟨_,e⟩:=x;exact Heap.lt_size e
 | xd fs=>obtain ⟨_,⟨_,_,_,e,_⟩,_⟩:=x;exact Heap.lt_size e
 | rng lo hi=>obtain ⟨_,_,_,e⟩:=x;exact Heap.lt_size e
 | frz ob u=>obtain ⟨e,_⟩:=x;exact Heap.lt_size e
 | tbl ps=>exact Heap.lt_size (show h.get? a=some _ from x)
 | met f y=>exact Heap.lt_size (show h.get? a=some _ from x)
 | ext φ=>obtain ⟨_,⟨_,e⟩,_⟩:=x;exact Heap.lt_size e
theorem Paired.mapP {α β:Type} {F G:α->β->Prop}:∀ {l₁:List α} {l₂:List β},Paired F l₁ l₂->(∀ a b,F a b->G a b)->Paired G l₁ l₂
 | _,_,.nil,_=>.nil
 | _,_,.cons r t,f=>.cons (f _ _ r) (Paired.mapP t f)
theorem a0R.stay (x:a0R P w H h a o) (k:∀ b u,(b=a\/H b=some (.own a))->h.get? b=some u->h'.get? b=some u)
  (ho:∀ b,H b=some (.own a)->H' b=some (.own a)) (ht:∀ b xs,H b=some (.tup xs)->H' b=some (.tup xs)):a0R P w H' h' a o:=by
 induction o with
 | lst xs=>obtain ⟨z,its,n,r,e⟩:=x;exact ⟨z,its,n,r,k _ _ (.inl rfl) e⟩
 | tup xs=>obtain ⟨z,its,r,ob,e,c⟩:=x;exact ⟨z,its,r,ob,k _ _ (.inl rfl) e,c⟩
 | dK kvs=>obtain ⟨z,y,vs,r,ob,es,ep,e,c⟩:=x;exact ⟨z,y,vs,r,ob,es,ep,k _ _ (.inl rfl) e,c⟩
 | dT kvs =>
  obtain ⟨z,y,xs,r,ob,es,ep,e,c⟩:=x;exact ⟨z,y,xs,Paired.mapP r λp q z=>⟨z.1,ht _ _ z.2.1,z.2.2⟩,ob,es,ep,k _ _ (.inl rfl) e,c⟩
 | set S n=>obtain ⟨ob,es,ep,t,e,c⟩:=x;exact ⟨ob,es,ep,t,k _ _ (.inl rfl) e,c⟩
 | ins C dx fs =>
  obtain ⟨d,z,ne,e,mA,⟨od,es,ep,e2,c⟩,r⟩:=x;exact ⟨ho _ d,z,ne,k _ _ (.inl rfl) e,mA,⟨od,es,ep,k _ _ (.inr d) e2,c⟩,r⟩
 | own y=>obtain ⟨ob,e⟩:=x;exact ⟨ob,k _ _ (.inl rfl) e⟩
 | xd fs=>obtain ⟨mA,⟨od,es,ep,e,c⟩,r⟩:=x;exact ⟨mA,⟨od,es,ep,k _ _ (.inl rfl) e,c⟩,r⟩
 | rng lo hi=>obtain ⟨t,u,v,e⟩:=x;exact ⟨t,u,v,k _ _ (.inl rfl) e⟩
 | frz ob u ih=>obtain ⟨e,q⟩:=x;exact ⟨k _ _ (.inl rfl) e,ih q⟩
 | tbl ps =>
  have e:h.get? a=some { cls:=.none,data:=.fields ps }:=x;show h'.get? a=some { cls:=.none,data:=.fields ps };exact k a _ (.inl rfl) e
 | met f y =>
  have e:h.get? a=some (PySem.W.methodObj (.ref f) (.ref y)):=x;show h'.get? a=some (PySem.W.methodObj (.ref f) (.ref y));exact k a _ (.inl rfl) e
 | ext φ=>obtain ⟨p,⟨o,e⟩,st⟩:=x;exact ⟨st _ _ p λo q=>k _ _ (.inl rfl) q,⟨o,k _ _ (.inl rfl) e⟩,st⟩
theorem HOk.lt (x:HOk P w H h) (e:H a=some o):a < h.objs.size:=(x a o e).lt
theorem HOk.fresh (x:HOk P w H h) (e:h.objs.size<=a):H a=none:=by
 cases q:H a with
 | none=>rfl
 | some u=>exact absurd (Nat.lt_of_lt_of_le (x.lt q) e) (Nat.lt_irrefl _)
theorem HOk.kept (x:HOk P w H h) (k:∀ b u,h.get? b=some u->h'.get? b=some u):HOk P w H h':=λa o e =>
 (x a o e).stay (λb u _ q=>k b u q) (λ_ q=>q) λ_ _ q=>q
theorem HOk.laid (x:HOk P w H h) (k:∀ b u,h.get? b=some u->h'.get? b=some u) (hp:h.objs.size<=a) (new:a0R P w (upd H a o) h' a o):HOk P w (upd H a o) h':=λb u e=>by
 have hn:=x.fresh hp;by_cases hb:b=a
 ·subst hb;rw [a0b] at e;cases e;exact new
 ·rw [a0i hb] at e;exact (x b u e).stay (λc v _ q=>k c v q) (λc q=>by rw [a0i (a0A q hn)];exact q) λc xs q=>by rw [a0i (a0A q hn)];exact q
end
def Rd (H:Hp) (a:Addr) (u:HO):Prop:=H a=some u\/∃ o,H a=some (.frz o u)
theorem Rd.ok {P:Program} {w:World} {H:Hp} {h:Heap} {a:Addr} {u:HO} (r:Rd H a u) (x:HOk P w H h):a0R P w H h a u:=by
 rcases r with r | ⟨o,r⟩
 ·exact x a u r
 ·obtain ⟨_,q⟩:=x a _ r;exact q
def Mut:Option HO->Prop
 | some (.lst _)=>True
 | some (.dK _)=>True
 | some (.dT _)=>True
 | some (.set _ _)=>True
 | some (.ins _ _ _)=>True
 | some (.ext _)=>True
 | _=>False
section
variable {P:Program} {w:World} {H:Hp} {h h':Heap} {x e:Addr} {o':HO}
theorem HOk.write (ok:HOk P w H h) (mu:Mut (H x)) (he:e=x\/H e=some (.own x)) (k:∀ b u,b≠e->h.get? b=some u->h'.get? b=some u) (heo:∃ u,h'.get? e=some u)
  (new:a0R P w (upd H x o') h' x o'):HOk P w (upd H x o') h':=λb u q=>by
 have nown:∀ c y,H c=some (.own y)->c≠x:=λc y r z=>by subst z;rw [r] at mu;exact mu
 have ntup:∀ c xs,H c=some (.tup xs)->c≠x:=λc xs r z=>by subst z;rw [r] at mu;exact mu
 by_cases hb:b=x
 ·subst hb;rw [a0b] at q;cases q;exact new
 ·rw [a0i hb] at q;by_cases hbe:b=e
  ·have q':H b=some (.own x):=by
    rcases he with z | z
    ·exact absurd (hbe.trans z) hb
    ·rw [hbe];exact z
   rw [q] at q';cases q';obtain ⟨v,hv⟩:=heo;exact ⟨v,by rw [hbe];exact hv⟩
  ·refine (ok b u q).stay (λc v hc r=>k c v ?_ r) (λc r=>by rw [a0i (nown c b r)];exact r) λc xs r=>by rw [a0i (ntup c xs r)];exact r
   rcases hc with rfl | hc
   ·exact hbe
   ·rintro rfl;rcases he with z | z
    ·exact nown c b hc z
    ·rw [hc] at z;cases z;exact hb rfl
end
structure Un (fs ex:List Addr) (H H':Hp) (h h':Heap):Prop where
 keep:∀ b o,h.get? b=some o->H b=none->b∉fs->b∉ex->h'.get? b=some o
 slot:∀ b o,h.get? b=some o->H b=none->b∈fs->b∉ex->∃ sl,h'.get? b=some { o with slots:=sl }
 free:∀ b o,h.get? b=some o->H b=none->b∉ex->H' b=none
 there:∀ b o,h.get? b=some o->b∉ex->∃ o',h'.get? b=some o'
 tups:∀ b xs,H b=some (.tup xs)->H' b=some (.tup xs)
 frzs:∀ b o u,H b=some (.frz o u)->H' b=some (.frz o u)
 tbls:∀ b ps,H b=some (.tbl ps)->∃ more,H' b=some (.tbl (ps++more))
section
variable {fs fs' ex ex':List Addr} {H H1 H2:Hp} {h h1 h2 h':Heap} {a x e:Addr} {o:HO}
theorem Un.any (u:Un fs ex H H1 h h1) {b:Addr} {ob:Obj} (q:h.get? b=some ob) (n:H b=none) (hx:b∉ex):∃ sl,h1.get? b=some { ob with slots:=sl }:=by
 by_cases hb:b∈fs
 ·exact u.slot b ob q n hb hx
 ·exact ⟨ob.slots,u.keep b ob q n hb hx⟩
theorem Un.kept (k:∀ b u,h.get? b=some u->h'.get? b=some u):Un fs ex H H h h' :=
 ⟨λb ob q _ _ _=>k b ob q,λb ob q _ _ _=>⟨ob.slots,k b ob q⟩,λ_ _ _ n _=>n,λb ob q _=>⟨ob,k b ob q⟩,λ_ _ q=>q,λ_ _ _ q=>q,λ_ ps q=>⟨#[],by rw [q];simp⟩⟩
theorem Un.refl:Un fs ex H H h h:=Un.kept λ_ _ q=>q
theorem Un.laid (k:∀ b u,h.get? b=some u->h'.get? b=some u) (hp:h.objs.size<=a) (hn:H a=none):Un fs ex H (upd H a o) h h' where
 keep:=λb u q _ _ _=>k b u q
 slot:=λb u q _ _ _=>⟨u.slots,k b u q⟩
 free:=λb u q n _=>by rw [a0i (Nat.ne_of_lt (Nat.lt_of_lt_of_le (Heap.lt_size q) hp))];exact n
 there:=λb u q _=>⟨u,k b u q⟩
 tups:=λb xs q=>by rw [a0i (a0A q hn)];exact q
 frzs:=λb u xs q=>by rw [a0i (a0A q hn)];exact q
 tbls:=λb ps q=>⟨#[],by rw [a0i (a0A q hn),q];simp⟩
theorem Un.write (mu:Mut (H x)) (he:e=x\/H e=some (.own x)) (k:∀ b u,b≠e->h.get? b=some u->h'.get? b=some u) (heo:∃ u,h'.get? e=some u):Un fs ex H (upd H x o) h h':=by
 have hx:∀ b,H b=none->b≠x:=λb n z=>by subst z;rw [n] at mu;exact mu
 have hb:∀ b,H b=none->b≠e:=λb n z=>by
  subst z;rcases he with r | r
  ·exact hx b n r
  ·rw [n] at r;cases r
 have hm:∀ b u,H b=some u->¬ Mut (some u)->b≠x:=λb u q nm z=>by subst z;rw [q] at mu;exact nm mu
 refine ⟨λb u q n _ _=>k b u (hb b n) q,λb u q n _ _=>⟨u.slots,k b u (hb b n) q⟩,λb u q n _=>by rw [a0i (hx b n)];exact n,λb u q _=>?_,
  λb xs q=>by rw [a0i (hm b _ q λz=>z)];exact q,λb u xs q=>by rw [a0i (hm b _ q λz=>z)];exact q,λb ps q=>⟨#[],by rw [a0i (hm b _ q λz=>z),q];simp⟩⟩
 by_cases hbe:b=e
 ·subst hbe;exact heo
 ·exact ⟨u,k b u hbe q⟩
end
def trk (h:Heap) (H:Hp):List Addr:=(List.range h.objs.size).filter λa=>(H a).isSome
def a9Y (h:Heap) (H:Hp):Heap:=PySem.W.hideAll h (trk h H)
theorem a7F (h:Heap) (H:Hp):(a9Y h H).objs.size=h.objs.size:=PySem.W.hideAll_size _ _
theorem b0d {h:Heap} {H:Hp} {b:Addr} {o:Obj} (e:h.get? b=some o) (n:H b=none):(a9Y h H).get? b=some o :=
 PySem.W.hideAll_get _ e λhm=>by
  have q:(H b).isSome=true:=(List.mem_filter.mp hm).2;rw [n] at q;simp at q
theorem b2F {h:Heap} {H:Hp} {b:Addr} {o:Obj} (e:(a9Y h H).get? b=some o):h.get? b=some o/\H b=none:=by
 have e':h.get? b=some o:=PySem.W.of_hideAll (trk h H) e;refine ⟨e',?_⟩;cases q:H b with
 | none=>rfl
 | some x =>
  have hm:b∈trk h H:=List.mem_filter.mpr ⟨List.mem_range.mpr (Heap.lt_size e'),by simp [q]⟩;have z:(a9Y h H).get? b=none:=PySem.W.hideAll_none (trk h H) hm;rw [z] at e;cases e
def b2G (g h:Heap) (L:Addr):List (Addr × Obj):=(List.range h.objs.size).filterMap λa=>if a=L\/(g.get? a).isSome=true then none else (h.get? a).map λo=>(a,o)
def rest (g h:Heap) (L d:Addr):List (Addr × Obj):=(b2G g h L).filter λp=>decide (p.1≠d)
structure Mod (K:PySem.W.Frag) (mg:Str->Option Value) (base:Heap):Prop where
 kin:K.In base
 glob:base.Ns mainGlobals mg
 blt:∃ mb,base.Ns builtinsNs mb/\∀ x:Str,x≠"__name__"->mb x=bootBuiltins x
 nolimit:base.NoLimit
structure Cx where
 prog:Program
 w:World
 K:PySem.W.Frag
 mg:Str->Option Value
 base:Heap
 A:Around
 N:List Str
 s₀:Shared
 H₀:Hp
 env:Env
 outer:List Env
 stack:List Env
 ex:List Addr
 fn:Str->Bool
 calm:Bool
 pn:List (Addr × Obj)
 xe:Value->Shared->Prop
def frs (l:List Env):List Addr:=l.filterMap (·.frame)
abbrev Cx.fs (X:Cx):List Addr:=frs X.outer
def Vis (sc:Scope) (x:Str):Prop:=sc.names.lookup x=some .local\/sc.names.lookup x=some .cell\/sc.names.lookup x=some .free
def Loc (sc:Scope) (x:Str):Prop:=sc.names.lookup x=some .local\/sc.names.lookup x=some .cell
def Look (env:Env) (h:Heap) (m:Str->Option Value) (x:Str) (u:Value):Prop :=
 (env.kindOf x=some .local/\m x=some u)\/((env.kindOf x=some .cell\/env.kindOf x=some .free)/\∃ c,env.cells.lookup x=some c/\h.IsCell c (some u))
structure Cx.Ok (X:Cx):Prop where
 mod:Mod X.K X.mg X.base
 kind:X.env.scope.kind=.function
 glob:X.env.globals=mainGlobals
 blt:X.env.builtins=builtinsNs
 above:X.s₀.heap.objs.size<=X.env.locals
 inj:∀ x y c,X.env.cells.lookup x=some c->X.env.cells.lookup y=some c->x=y
 has:∀ x,(X.env.kindOf x=some .cell\/X.env.kindOf x=some .free)->∃ c,X.env.cells.lookup x=some c
 cab:∀ x c,X.fn x=true->X.env.cells.lookup x=some c->X.s₀.heap.objs.size<=c
 hd:X.calm=true->X.A.handled=none
 frames:X.A.frames=some X.stack
 stk:X.stack=X.outer\/(X.stack=X.env :: X.outer/\X.env.frame=some X.env.locals)
 exf:∀ b∈X.ex,b≠X.env.locals/\∀ x c,X.env.cells.lookup x=some c->c≠b
 bs:∀ b o,X.base.get? b=some o->X.s₀.heap.get? b=some o/\X.H₀ b=none
 bsz:X.base.objs.size<=X.s₀.heap.objs.size
 noex:∀ b o,X.base.get? b=some o->b∉X.ex
 exfs:∀ b∈X.ex,b∉X.fs
 funs:X.s₀.heap.FunFrames X.base X.outer
 frf:∀ b∈X.fs,X.H₀ b=none
structure Inv (X:Cx) (pins:List (Addr × Obj)) (σ:List (Option V)) (H:Hp) (s:Shared):Prop where
 ok:X.Ok
 os:s.os=X.s₀.os
 bare:AllBare s.gens
 base:Un X.fs X.ex X.H₀ H X.s₀.heap s.heap
 loc:∃ m,s.heap.Ns X.env.locals m/\∀ (i:Nat) (x:Str) (v:V),X.N[i]?=some x->σ[i]?=some (some v)->Vis X.env.scope x->∃ u,a0V v u/\Look X.env s.heap m x u
 cell:∀ x c,X.env.cells.lookup x=some c->∃ v,s.heap.IsCell c v
 free:H X.env.locals=none
 freeC:∀ x c,X.env.cells.lookup x=some c->H c=none
 pin:∀ p∈X.pn++pins,s.heap.get? p.1=some p.2/\H p.1=none/\p.1≠X.env.locals/\p.1∉X.fs/\∀ v,p.2.data≠.cell v
 hok:HOk X.prog X.w H s.heap
 len:σ.length=X.N.length
section
variable {X:Cx} {pins:List (Addr × Obj)} {σ:List (Option V)} {H H':Hp} {s:Shared} {h':Heap}
theorem Cx.Ok.nofr (ok:X.Ok) {b:Addr} {o:Obj} (e:X.base.get? b=some o):b∉X.fs:=λhb=>by
 have:=(ok.funs.mem hb).1;rw [e] at this;cases this
theorem Inv.bs (I:Inv X pins σ H s):∀ b o,X.base.get? b=some o->s.heap.get? b=some o/\H b=none:=λb o e =>
 ⟨I.base.keep b o (I.ok.bs b o e).1 (I.ok.bs b o e).2 (I.ok.nofr e) (I.ok.noex b o e),I.base.free b o (I.ok.bs b o e).1 (I.ok.bs b o e).2 (I.ok.noex b o e)⟩
theorem Inv.bk (I:Inv X pins σ H s):∀ b o,X.base.get? b=some o->s.heap.get? b=some o:=λb o e=>(I.bs b o e).1
theorem Inv.mod (I:Inv X pins σ H s):Mod X.K X.mg X.base:=I.ok.mod
theorem Inv.kIn (I:Inv X pins σ H s):X.K.In s.heap:=I.ok.mod.kin.keeps I.bk
theorem Inv.lt (I:Inv X pins σ H s):X.env.locals < s.heap.objs.size:=let ⟨_,hn,_⟩:=I.loc;hn.lt
theorem Inv.sz (I:Inv X pins σ H s):X.s₀.heap.objs.size<=s.heap.objs.size:=Nat.le_trans I.ok.above (Nat.le_of_lt I.lt)
theorem Inv.nofs (I:Inv X pins σ H s) {a:Addr} (h:s.heap.objs.size<=a):a∉X.fs:=λhb=>by
 obtain ⟨_,o,ho,_⟩:=I.ok.funs.mem hb;exact absurd (Nat.lt_of_lt_of_le (Heap.lt_size ho) (Nat.le_trans I.sz h)) (Nat.lt_irrefl _)
theorem Inv.cne (I:Inv X pins σ H s):∀ x c,X.env.cells.lookup x=some c->c≠X.env.locals:=λx c e z=>by
 obtain ⟨v,o,ho,hd⟩:=I.cell x c e;obtain ⟨m,⟨o',es,ep,ho',hd',_⟩,_⟩:=I.loc;rw [z,ho'] at ho;cases ho;rw [hd'] at hd;cases hd
theorem Inv.funs (I:Inv X pins σ H s):s.heap.FunFrames X.base X.outer:=by
 have all:∀ (l:List Env),(∀ b∈frs l,b∈X.fs)->X.s₀.heap.FunFrames X.base l->s.heap.FunFrames X.base l:=by
  intro l
  induction l with
  | nil=>intro _ _;trivial
  | cons env r ih =>
   intro hs hl;obtain ⟨hk,⟨L,o,hf,hn,ho,hd⟩,hr⟩:=hl;have hL:L∈X.fs:=hs L (by unfold frs;rw [List.filterMap_cons,hf];exact List.mem_cons_self);obtain ⟨sl,e⟩:=I.base.slot L o ho (I.ok.frf L hL) hL λz=>I.ok.exfs L z hL;exact ⟨hk,⟨L,_,hf,hn,e,hd⟩,ih (λb hb=>hs b (by unfold frs;rw [List.filterMap_cons,hf];exact List.mem_cons_of_mem _ hb)) hr⟩
 exact all X.outer (λ_ hb=>hb) I.ok.funs
theorem Inv.stack (I:Inv X pins σ H s):s.heap.FunFrames X.base X.stack:=by
 rcases I.ok.stk with e | ⟨e,hf⟩
 ·rw [e];exact I.funs
 ·rw [e];obtain ⟨m,hn,_⟩:=I.loc;refine .cons (by rw [I.ok.kind];decide) hf hn ?_ I.funs;exact Heap.get?_none_of_le (Nat.le_trans I.ok.bsz I.ok.above)
theorem Inv.stkSub (I:Inv X pins σ H s):∀ b∈frs X.stack,b∈X.env.locals :: X.fs:=λb hb=>by
 rcases I.ok.stk with e | ⟨e,hf⟩
 ·rw [e] at hb;exact List.mem_cons_of_mem _ hb
 ·rw [e] at hb;unfold frs at hb;rw [List.filterMap_cons,hf] at hb;exact hb
theorem Inv.stkFree (I:Inv X pins σ H s):∀ b∈frs X.stack,H b=none:=λb hb=>by
 rcases List.mem_cons.mp (I.stkSub b hb) with e | hb
 ·rw [e];exact I.free
 ·obtain ⟨_,o,ho,_⟩:=I.ok.funs.mem hb;exact I.base.free b o ho (I.ok.frf b hb) λz=>I.ok.exfs b z hb
theorem Inv.step {g':Array GenState} {t':Nat} {d':Drawn} {ch:List Addr} (I:Inv X pins σ H s)
  (hch:∀ b∈ch,(b∈X.ex\/X.s₀.heap.objs.size<=b)/\b≠X.env.locals/\(∀ x c,X.env.cells.lookup x=some c->c≠b)/\∀ p∈X.pn++pins,p.1≠b)
  (keep:∀ b o,b≠X.env.locals->b∉X.fs->b∉ch->s.heap.get? b=some o->H b=none->h'.get? b=some o)
  (slot:∀ b o,b≠X.env.locals->b∈X.fs->b∉ch->s.heap.get? b=some o->H b=none->∃ sl,h'.get? b=some { o with slots:=sl }) (free:∀ b o,b∉ch->s.heap.get? b=some o->H b=none->H' b=none)
  (there:∀ b o,b∉ch->s.heap.get? b=some o->∃ o',h'.get? b=some o')
  (tups:∀ b xs,H b=some (.tup xs)->H' b=some (.tup xs)) (frzs:∀ b o u,H b=some (.frz o u)->H' b=some (.frz o u)) (tbls:∀ b ps,H b=some (.tbl ps)->∃ more,H' b=some (.tbl (ps++more)))
  (ns:∀ m,s.heap.Ns X.env.locals m->h'.Ns X.env.locals m) (hok:HOk X.prog X.w H' h') (hg:AllBare g') :
  Inv X pins σ H' { s with heap:=h',gens:=g',drawn:=d',toks:=t' }:=by
 have neL:∀ b o,X.s₀.heap.get? b=some o->b≠X.env.locals:=λb o e=>Nat.ne_of_lt (Nat.lt_of_lt_of_le (Heap.lt_size e) I.ok.above);have neC:∀ b o,X.s₀.heap.get? b=some o->b∉X.ex->b∉ch:=λb o e hx hb=>by
  rcases (hch b hb).1 with z | z
  ·exact hx z
  ·exact absurd (Nat.lt_of_lt_of_le (Heap.lt_size e) z) (Nat.lt_irrefl _)
 have cellK:∀ x c,X.env.cells.lookup x=some c->∀ v,s.heap.IsCell c v->h'.IsCell c v:=λx c e v ⟨o,ho,hd⟩=>by
  have nch:c∉ch:=λz=>(hch c z).2.2.1 x c e rfl;by_cases hc:c∈X.fs
  ·obtain ⟨sl,q⟩:=slot c o (I.cne x c e) hc nch ho (I.freeC x c e);exact ⟨_,q,hd⟩
  ·exact ⟨o,keep c o (I.cne x c e) hc nch ho (I.freeC x c e),hd⟩
 refine ⟨I.ok,I.os,hg,⟨λb o e n hb hx=>?_,λb o e n hb hx=>?_,λb o e n hx=>?_,λb o e hx=>?_,λb xs e=>tups b xs (I.base.tups b xs e),λb o xs e=>frzs b o xs (I.base.frzs b o xs e),λb ps e=>?_⟩,?_,λx c e=>?_,?_,λx c e=>?_,λp hp=>?_,hok,I.len⟩
 ·exact keep b o (neL b o e) hb (neC b o e hx) (I.base.keep b o e n hb hx) (I.base.free b o e n hx)
 ·obtain ⟨sl,e1⟩:=I.base.slot b o e n hb hx;obtain ⟨sl',e2⟩:=slot b _ (neL b o e) hb (neC b o e hx) e1 (I.base.free b o e n hx);exact ⟨sl',e2⟩
 ·obtain ⟨o',e1⟩:=I.base.there b o e hx;exact free b o' (neC b o e hx) e1 (I.base.free b o e n hx)
 ·obtain ⟨o',e1⟩:=I.base.there b o e hx;exact there b o' (neC b o e hx) e1
 ·obtain ⟨m1,e1⟩:=I.base.tbls b ps e;obtain ⟨m2,e2⟩:=tbls b _ e1;exact ⟨m1++m2,by rw [e2,Array.append_assoc]⟩
 ·obtain ⟨m,hn,hl⟩:=I.loc;refine ⟨m,ns m hn,λi x v e1 e2 e3=>?_⟩;obtain ⟨u,r,l⟩:=hl i x v e1 e2 e3;refine ⟨u,r,?_⟩;rcases l with l | ⟨k,c,e,z⟩
  ·exact .inl l
  ·exact .inr ⟨k,c,e,cellK x c e _ z⟩
 ·obtain ⟨v,z⟩:=I.cell x c e;exact ⟨v,cellK x c e v z⟩
 ·obtain ⟨m,⟨o,_,_,ho,_⟩,_⟩:=I.loc;exact free _ o (λz=>(hch _ z).2.1 rfl) ho I.free
 ·obtain ⟨v,o,ho,hd⟩:=I.cell x c e;exact free c o (λz=>(hch c z).2.2.1 x c e rfl) ho (I.freeC x c e)
 ·obtain ⟨e,n,ne,nf,d⟩:=I.pin p hp;have nch:p.1∉ch:=λz=>(hch p.1 z).2.2.2 p hp rfl;exact ⟨keep p.1 p.2 ne nf nch e n,free p.1 p.2 nch e n,ne,nf,d⟩
theorem Inv.un {t':Nat} (I:Inv X pins σ H s) (u:Un X.fs [] H H' s.heap h') (hok:HOk X.prog X.w H' h'):Inv X pins σ H' { s with heap:=h',toks:=t' }:=by
 obtain ⟨m,⟨o,es,ep,ho,r⟩,_⟩:=id I.loc;obtain ⟨sl,hL⟩:=u.any ho I.free (by simp);exact I.step (g':=s.gens) (d':=s.drawn) (ch:=[]) (λ_ z=>nomatch z) (λb o _ hb _ e n=>u.keep b o e n hb (by simp)) (λb o _ hb _ e n=>u.slot b o e n hb (by simp)) (λb o _ e n=>u.free b o e n (by simp)) (λb o _ e=>u.there b o e (by simp)) u.tups u.frzs u.tbls (λm' hm=>by
  obtain ⟨o',es',ep',ho',r'⟩:=hm;rw [ho] at ho';cases ho';exact ⟨_,es',ep',hL,r'⟩) hok I.bare
theorem Inv.call {g':Array GenState} {t':Nat} {d':Drawn} {ch:List Addr} (I:Inv X pins σ H s) (u:Un (frs X.stack) ch H H' s.heap h') (hok:HOk X.prog X.w H' h') (hg:AllBare g')
  (hch:∀ b∈ch,(b∈X.ex\/X.s₀.heap.objs.size<=b)/\b≠X.env.locals/\(∀ x c,X.env.cells.lookup x=some c->c≠b)/\∀ p∈X.pn++pins,p.1≠b) :
  Inv X pins σ H' { s with heap:=h',gens:=g',drawn:=d',toks:=t' }:=by
 obtain ⟨m,⟨o,es,ep,ho,r⟩,_⟩:=id I.loc;obtain ⟨sl,hL⟩:=u.any ho I.free λz=>(hch _ z).2.1 rfl;exact I.step (ch:=ch) hch (λb o hL hb hc e n=>u.keep b o e n (λz=>(List.mem_cons.mp (I.stkSub b z)).elim hL hb) hc) (λb o _ _ hc e n=>u.any e n hc) (λb o hc e n=>u.free b o e n hc) (λb o hc e=>u.there b o e hc) u.tups u.frzs u.tbls (λm' hm=>by
  obtain ⟨o',es',ep',ho',r'⟩:=hm;rw [ho] at ho';cases ho';exact ⟨_,es',ep',hL,r'⟩) hok hg
theorem Inv.turned {t':Nat} {it:Addr} (I:Inv X pins σ H s) (k:∀ b o,b≠it->s.heap.get? b=some o->h'.get? b=some o) (hn:H it=none) (hL:it≠X.env.locals)
  (h1:it∈X.ex\/X.s₀.heap.objs.size<=it) (h2:∀ x c,X.env.cells.lookup x=some c->c≠it) (h3:∀ p∈X.pn++pins,p.1≠it):Inv X pins σ H { s with heap:=h',toks:=t' }:=by
 have nit:∀ b u,H b=some u->b≠it:=λb u e z=>by rw [z,hn] at e;cases e
 refine I.step (g':=s.gens) (d':=s.drawn) (ch:=[it]) (λb hb=>?_) (λb o _ _ hc e _=>k b o (λz=>hc (by simp [z])) e) (λb o _ _ hc e _=>⟨o.slots,k b o (λz=>hc (by simp [z])) e⟩) (λ_ _ _ _ n=>n)
  (λb o hc e=>⟨o,k b o (λz=>hc (by simp [z])) e⟩) (λ_ _ e=>e) (λ_ _ _ e=>e) (λb ps e=>⟨#[],by rw [e];simp⟩) (λm hm=>?_) (λb u e=>?_) I.bare
 ·have e:b=it:=by simpa using hb
  subst e;exact ⟨h1,hL,h2,h3⟩
 ·obtain ⟨o,es,ep,ho,r⟩:=hm;exact ⟨o,es,ep,k _ o (Ne.symm hL) ho,r⟩
 ·refine (I.hok b u e).stay (λc v hc q=>k c v ?_ q) (λ_ q=>q) λ_ _ q=>q;rcases hc with z | z
  ·rw [z];exact nit b u e
  ·exact nit c _ z
theorem Inv.tok (I:Inv X pins σ H s) (t:Nat):Inv X pins σ H { s with toks:=t }:=I.un (h':=s.heap) (t':=t) Un.refl I.hok
theorem Inv.kept {t':Nat} (I:Inv X pins σ H s) (k:∀ b u,s.heap.get? b=some u->h'.get? b=some u):Inv X pins σ H { s with heap:=h',toks:=t' }:=I.un (Un.kept k) (I.hok.kept k)
theorem Inv.laid {a:Addr} {o:HO} {t':Nat} (I:Inv X pins σ H s) (k:∀ b u,s.heap.get? b=some u->h'.get? b=some u) (hp:s.heap.objs.size<=a) (new:a0R X.prog X.w (upd H a o) h' a o) :
  Inv X pins σ (upd H a o) { s with heap:=h',toks:=t' }:=I.un (Un.laid k hp (I.hok.fresh hp)) (I.hok.laid k hp new)
theorem Inv.write {x e:Addr} {o:HO} {t':Nat} (I:Inv X pins σ H s) (mu:Mut (H x)) (he:e=x\/H e=some (.own x)) (k:∀ b u,b≠e->s.heap.get? b=some u->h'.get? b=some u) (heo:∃ u,h'.get? e=some u)
  (new:a0R X.prog X.w (upd H x o) h' x o):Inv X pins σ (upd H x o) { s with heap:=h',toks:=t' }:=I.un (Un.write mu he k heo) (I.hok.write mu he k heo new)
theorem Inv.weak {σ':List (Option V)} (I:Inv X pins σ H s) (hl:σ'.length=σ.length) (w:∀ (i:Nat) v,σ'[i]?=some (some v)->σ[i]?=some (some v)):Inv X pins σ' H s :=
 ⟨I.ok,I.os,I.bare,I.base,let ⟨m,hn,hl'⟩:=I.loc;⟨m,hn,λi x v e1 e2 e3=>hl' i x v e1 (w i v e2) e3⟩,I.cell,I.free,I.freeC,I.pin,I.hok,hl.trans I.len⟩
theorem Inv.pins_of {pins':List (Addr × Obj)} (I:Inv X pins σ H s) (h:∀ p∈pins',s.heap.get? p.1=some p.2/\H p.1=none/\p.1≠X.env.locals/\p.1∉X.fs/\∀ v,p.2.data≠.cell v):Inv X pins' σ H s :=
 ⟨I.ok,I.os,I.bare,I.base,I.loc,I.cell,I.free,I.freeC,λp hp=>(List.mem_append.mp hp).elim (λz=>I.pin p (List.mem_append_left _ z)) (h p),I.hok,I.len⟩
theorem a6g {N:List Str} (hN:N.Nodup) {i j:Nat} {x:Str} (a:N[i]?=some x) (b:N[j]?=some x):i=j:=by
 obtain ⟨h1,e1⟩:=List.getElem?_eq_some_iff.mp a;obtain ⟨h2,e2⟩:=List.getElem?_eq_some_iff.mp b;exact (List.getElem_inj hN).mp (e1.trans e2.symm)
theorem a4K {M:Model} {A:Around} {E:Value->Shared->Prop} {i:Nat} {x:Str} {v:V} {u:Value} {Q:Unit->Shared->Prop} (I:Inv X pins σ H s) (hN:X.N.Nodup) (hi:X.N[i]?=some x) (hx:Loc X.env.scope x) (r:a0V v u)
  (h:∀ s',Inv X pins (σ.set i (some v)) H s'->(∃ a,Heap.SameBut a s.heap s'.heap/\(a=X.env.locals\/X.env.cells.lookup x=some a))->Q () s') (hf:X.fn x=true\/X.env.scope.names.lookup x=some .local:=by first | exact .inl rfl | exact .inr rfl | assumption):wpAny M A (storeName X.env x u) Q E s:=by
 obtain ⟨m,hn,hl⟩:=id I.loc;have hcls:(X.env.scope.kind == .class || (X.env.scope.kind == .module && X.env.locals != X.env.globals))=false:=by rw [I.ok.kind];rfl
 have hiσ:i < σ.length:=by rw [I.len];exact (List.getElem?_eq_some_iff.mp hi).1
 have cne:=I.cne;have tracked:∀ {a:Addr} {h':Heap},(∃ o,s.heap.get? a=some o/\H a=none)->Heap.SameBut a s.heap h'->HOk X.prog X.w H h':=λ{a h'} ha hs b ob e=>by
  obtain ⟨_,_,hfree⟩:=ha;refine (I.hok b ob e).stay (λc w' hc q=>(hs.2 c ?_).trans q) (λ_ q=>q) λ_ _ q=>q;rintro rfl;rcases hc with rfl | hc
  ·rw [hfree] at e;cases e
  ·rw [hfree] at hc;cases hc
 rcases hx with hk | hk
 ·refine wpAny_storeName_local hk hn (λh' hn' hs=>?_) hcls;obtain ⟨oL,_,_,hoL,_⟩:=id hn;refine h _ ⟨I.ok,I.os,I.bare,⟨λb o e n hb hx=>?_,λb o e n hb hx=>?_,I.base.free,λb o e hx=>?_,I.base.tups,I.base.frzs,I.base.tbls⟩,⟨_,hn',λj y v' e1 e2 e3=>?_⟩,λy c e=>?_,I.free,I.freeC,λp hp=>?_,tracked ⟨oL,hoL,I.free⟩ hs,by simpa using I.len⟩ ⟨_,hs,.inl rfl⟩
  ·exact (hs.2 b (Nat.ne_of_lt (Nat.lt_of_lt_of_le (Heap.lt_size e) I.ok.above))).trans (I.base.keep b o e n hb hx)
  ·obtain ⟨sl,e1⟩:=I.base.slot b o e n hb hx;exact ⟨sl,(hs.2 b (Nat.ne_of_lt (Nat.lt_of_lt_of_le (Heap.lt_size e) I.ok.above))).trans e1⟩
  ·obtain ⟨o',e1⟩:=I.base.there b o e hx;exact ⟨o',(hs.2 b (Nat.ne_of_lt (Nat.lt_of_lt_of_le (Heap.lt_size e) I.ok.above))).trans e1⟩
  ·by_cases hj:j=i
   ·subst hj;rw [hi] at e1;cases e1;rw [List.getElem?_set_self hiσ] at e2;cases e2;exact ⟨u,r,.inl ⟨hk,by simp⟩⟩
   ·rw [List.getElem?_set_ne (Ne.symm hj)] at e2;obtain ⟨u',r',q⟩:=hl j y v' e1 e2 e3;refine ⟨u',r',?_⟩;rcases q with ⟨k,e⟩ | ⟨k,c,e,z⟩
    ·refine .inl ⟨k,?_⟩;have:y≠x:=λe=>hj (a6g hN e1 (e▸hi));simp [this,e]
    ·exact .inr ⟨k,c,e,z.sameBut hs (cne y c e)⟩
  ·obtain ⟨w',z⟩:=I.cell y c e;exact ⟨w',z.sameBut hs (cne y c e)⟩
  ·obtain ⟨e,n,ne,nf,d⟩:=I.pin p hp;exact ⟨(hs.2 p.1 ne).trans e,n,ne,nf,d⟩
 ·have hfn:X.fn x=true:=by
   rcases hf with z | z
   ·exact z
   ·rw [z] at hk;cases hk
  obtain ⟨c,hc⟩:=I.ok.has x (.inl hk);obtain ⟨w',z⟩:=I.cell x c hc;refine wpAny_storeName_cell I.ok.kind hk hc z (λh' hc' hs=>?_);obtain ⟨oc,hoc,hocd⟩:=id z;refine h { s with heap:=h' } ⟨I.ok,I.os,I.bare,⟨λb o e n hb hx=>?_,λb o e n hb hx=>?_,I.base.free,λb o e hx=>?_,I.base.tups,I.base.frzs,I.base.tbls⟩,⟨m,hn.sameBut hs (Ne.symm (cne x c hc)),λj y v' e1 e2 e3=>?_⟩,λy c' e=>?_,I.free,I.freeC,λp hp=>?_,tracked ⟨oc,hoc,I.freeC x c hc⟩ hs,by simpa using I.len⟩ ⟨c,hs,.inr hc⟩
  ·exact (hs.2 b (Nat.ne_of_lt (Nat.lt_of_lt_of_le (Heap.lt_size e) (I.ok.cab x c hfn hc)))).trans (I.base.keep b o e n hb hx)
  ·obtain ⟨sl,e1⟩:=I.base.slot b o e n hb hx;exact ⟨sl,(hs.2 b (Nat.ne_of_lt (Nat.lt_of_lt_of_le (Heap.lt_size e) (I.ok.cab x c hfn hc)))).trans e1⟩
  ·obtain ⟨o',e1⟩:=I.base.there b o e hx;exact ⟨o',(hs.2 b (Nat.ne_of_lt (Nat.lt_of_lt_of_le (Heap.lt_size e) (I.ok.cab x c hfn hc)))).trans e1⟩
  ·by_cases hj:j=i
   ·subst hj;rw [hi] at e1;cases e1;rw [List.getElem?_set_self hiσ] at e2;cases e2;exact ⟨u,r,.inr ⟨.inl hk,c,hc,hc'⟩⟩
   ·rw [List.getElem?_set_ne (Ne.symm hj)] at e2;obtain ⟨u',r',q⟩:=hl j y v' e1 e2 e3;refine ⟨u',r',?_⟩;rcases q with q | ⟨k,c',e,z'⟩
    ·exact .inl q
    ·refine .inr ⟨k,c',e,z'.sameBut hs ?_⟩;rintro rfl;exact hj (a6g hN e1 (I.ok.inj _ _ _ e hc▸hi))
  ·by_cases hcc:c'=c
   ·subst hcc;exact ⟨_,hc'⟩
   ·obtain ⟨w2,z2⟩:=I.cell y c' e;exact ⟨w2,z2.sameBut hs hcc⟩
  ·obtain ⟨e,n,ne,nf,d⟩:=I.pin p hp;refine ⟨(hs.2 p.1 ?_).trans e,n,ne,nf,d⟩;intro q;rw [q,hoc] at e;have q':oc=p.2:=Option.some.inj e;exact d w' (by rw [<-q'];exact hocd)
theorem a3X {M:Model} {A:Around} {E:Value->Shared->Prop} {i:Nat} {x:Str} {v:V} {u:Value} {Q:Unit->Shared->Prop} (I:Inv X pins σ H s) (hN:X.N.Nodup) (hi:X.N[i]?=some x) (hx:Loc X.env.scope x) (r:a0V v u)
  (h:∀ s',Inv X pins (σ.set i (some v)) H s'->Q () s') (hf:X.fn x=true\/X.env.scope.names.lookup x=some .local:=by first | exact .inl rfl | exact .inr rfl | assumption):wpAny M A (storeName X.env x u) Q E s :=
 a4K I hN hi hx r (λs' I' _=>h s' I') hf
theorem Inv.call' {s':Shared} {ch:List Addr} (I:Inv X pins σ H s) (ho:s'.os=s.os) (u:Un (frs X.stack) ch H H' s.heap s'.heap) (hok:HOk X.prog X.w H' s'.heap) (hg:AllBare s'.gens)
  (hch:∀ b∈ch,(b∈X.ex\/X.s₀.heap.objs.size<=b)/\b≠X.env.locals/\(∀ x c,X.env.cells.lookup x=some c->c≠b)/\∀ p∈X.pn++pins,p.1≠b):Inv X pins σ H' s':=by
 obtain ⟨h',g',d',t',o'⟩:=s';have e:o'=s.os:=ho;subst e;exact I.call (g':=g') (t':=t') (d':=d') u hok hg hch
end
abbrev XK:=Value->Option Addr->Hp->Prop
abbrev St:=List (Option V)
abbrev VK:=V->Hp->Prop
abbrev TE:=St->Hp->VK->Prop
abbrev TT:=St->Hp->(Bool->Hp->Prop)->Prop
abbrev TA:=St->Hp->(List V->Hp->Prop)->Prop
structure a9Z where
 nx:St->Hp->Prop
 rt:VK
 bk:St->Hp->Prop:=λ_ _=>False
 ct:St->Hp->Prop:=λ_ _=>False
abbrev TS:=a9Z->St->Hp->Prop
def EP (X:Cx) (pins:List (Addr × Obj)) (σ:St) (Q:VK) (u:Value) (s':Shared):Prop:=∃ v H',Inv X pins σ H' s'/\a0V v u/\Q v H'
def TP (X:Cx) (pins:List (Addr × Obj)) (σ:St) (Q:Bool->Hp->Prop) (b:Bool) (s':Shared):Prop:=∃ H',Inv X pins σ H' s'/\Q b H'
def AP (X:Cx) (pins:List (Addr × Obj)) (σ:St) (Q:List V->Hp->Prop) (us:List Value) (s':Shared):Prop:=∃ vs H',Inv X pins σ H' s'/\a0z vs us/\Q vs H'
def SP (X:Cx) (pins:List (Addr × Obj)) (D:a9Z) (f:Flow) (s':Shared):Prop :=
 match f with
 | .next=>∃ σ' H',Inv X pins σ' H' s'/\D.nx σ' H'
 | .brk=>∃ σ' H',Inv X pins σ' H' s'/\D.bk σ' H'
 | .cont=>∃ σ' H',Inv X pins σ' H' s'/\D.ct σ' H'
 | .ret u=>∃ v σ' H',Inv X pins σ' H' s'/\a0V v u/\D.rt v H'
def PE (X:Cx) (e:Expr) (t:TE):Prop :=
 ∀ (pins:List (Addr × Obj)) (s:Shared) (σ:St) (H:Hp) (Q:VK),Inv X pins σ H s->t σ H Q->wpAny (model X.prog X.w) X.A (eval e X.env) (EP X pins σ Q) X.xe s
def PT (X:Cx) (e:Expr) (t:TT):Prop :=
 ∀ (pins:List (Addr × Obj)) (s:Shared) (σ:St) (H:Hp) (Q:Bool->Hp->Prop),Inv X pins σ H s->t σ H Q->wpAny (model X.prog X.w) X.A (isTrue e X.env (eval e X.env)) (TP X pins σ Q) X.xe s
def PW (X:Cx) (e:Expr) (t:TT):Prop :=
 ∀ (whole:Sem Value) (pins:List (Addr × Obj)) (s:Shared) (σ:St) (H:Hp) (Q:Bool->Hp->Prop),Inv X pins σ H s->t σ H Q->wpAny (model X.prog X.w) X.A (isTrue e X.env whole) (TP X pins σ Q) X.xe s
theorem PW.pt {X:Cx} {e:Expr} {t:TT} (h:PW X e t):PT X e t:=h _
def PA (X:Cx) (es:List Expr) (t:TA):Prop :=
 ∀ (pos:Pos) (pins:List (Addr × Obj)) (s:Shared) (σ:St) (H:Hp) (Q:List V->Hp->Prop),Inv X pins σ H s->t σ H Q->wpAny (model X.prog X.w) X.A (spliced (backTo pos (starEach es X.env))) (AP X pins σ Q) X.xe s
def PS (X:Cx) (st:Stmt) (t:TS):Prop :=
 ∀ (pins:List (Addr × Obj)) (s:Shared) (σ:St) (H:Hp) (D:a9Z),Inv X pins σ H s->t D σ H->wpAny (model X.prog X.w) X.A (exec st X.env) (SP X pins D) X.xe s
def PSs (X:Cx) (st:List Stmt) (t:TS):Prop :=
 ∀ (pins:List (Addr × Obj)) (s:Shared) (σ:St) (H:Hp) (D:a9Z),Inv X pins σ H s->t D σ H->wpAny (model X.prog X.w) X.A (execs st X.env) (SP X pins D) X.xe s
theorem thn {α:Type} {t:Sem α} {Q Q':α->Shared->Prop} {M:Model} {A:Around} {E:Value->Shared->Prop} {s:Shared} (h:wpAny M A t Q E s) (hQ:∀ a s,Q a s->Q' a s):wpAny M A t Q' E s:=wpAny_mono h hQ λ_ _ x=>x
section
variable {X:Cx}
def tVar (i:Nat):TE:=λσ H Q=>∃ v,σ[i]?=some (some v)/\Q v H
def tC (v:V):TE:=λ_ H Q=>Q v H
theorem b1G {i:Nat} {x:Str} {pos:Pos} (hN:X.N[i]?=some x) (hv:Vis X.env.scope x) (hd:(x == ("__debug__":Str))=false:=by decide) (hcd:(x == ("__classdict__":Str))=false:=by decide):PE X (.Name x pos) (tVar i):=by
 intro pins s σ H Q I h;obtain ⟨v,e,h⟩:=h;obtain ⟨m,hn,hl⟩:=I.loc;obtain ⟨u,r,l⟩:=hl i x v hN e hv;have fin:EP X pins σ Q u s:=⟨v,H,I,r,h⟩
 rcases l with ⟨hk,hm⟩ | ⟨hk,c,hc,hcell⟩
 ·exact wpAny_Name (wpAny_loadName_local I.ok.kind hk hn hm fin) hd
 ·rcases hk with hk | hk
  ·exact wpAny_Name (wpAny_loadName_cell I.ok.kind hk hc hcell fin) hd
  ·exact wpAny_Name (wpAny_loadName_free I.ok.kind hk hc hcell fin hcd) hd
theorem a0e {i j pos}:PE X (.Constant (.int i) j pos) (tC (.int i)):=λ_ _ _ H _ I h=>wpAny_Constant_int ⟨.int i,H,I.tok _,⟨_,rfl⟩,h⟩
theorem a3r {b j pos}:PE X (.Constant (.bool b) j pos) (tC (.bl b)):=λ_ _ _ H _ I h=>Constant_bool ⟨.bl b,H,I,rfl,h⟩
theorem a2A {j pos}:PE X (.Constant .none j pos) (tC .non):=λ_ _ _ H _ I h=>Constant_none ⟨.non,H,I,rfl,h⟩
theorem a6h {x j pos}:PE X (.Constant (.str x) j pos) (tC (.str x)):=λ_ _ _ H _ I h=>Calls.Constant_str ⟨.str x,H,I.tok _,⟨_,rfl⟩,h⟩
def Gl (X:Cx) (x:Str):Prop:=X.env.kindOf x=some .globalImplicit
theorem a2o {E:Value->Shared->Prop} {pins:List (Addr × Obj)} {s:Shared} {σ:St} {H:Hp} {x:Str} {u:Value} {pos:Pos} {Q:Value->Shared->Prop} (I:Inv X pins σ H s) (hg:Gl X x) (hm:X.mg x=some u) (h:Q u s)
  (hd:(x == ("__debug__":Str))=false:=by decide):wpAny (model X.prog X.w) X.A (eval (.Name x pos) X.env) Q E s :=
 Calls.Name_function_global I.ok.kind hg (Calls.loadGlobal_global (by rw [I.ok.glob];exact I.mod.glob.keeps I.bk) hm h) hd
theorem a2B {E:Value->Shared->Prop} {pins:List (Addr × Obj)} {s:Shared} {σ:St} {H:Hp} {x:Str} {u:Value} {pos:Pos} {Q:Value->Shared->Prop} (I:Inv X pins σ H s) (hg:Gl X x) (hm:X.mg x=none) (hv:bootBuiltins x=some u) (h:Q u s)
  (hn:x≠"__name__":=by decide) (hd:(x == ("__debug__":Str))=false:=by decide):wpAny (model X.prog X.w) X.A (eval (.Name x pos) X.env) Q E s:=by
 obtain ⟨mb,h1,h2⟩:=I.mod.blt;exact Calls.Name_function_global I.ok.kind hg (Calls.loadGlobal_builtin (by rw [I.ok.glob];exact I.mod.glob.keeps I.bk) hm (by rw [I.ok.blt];exact h1.keeps I.bk) ((h2 x hn).trans hv) h) hd
theorem a3Y {x:Str} {v:V} {u:Value} {pos:Pos} (hg:Gl X x) (hm:X.mg x=none) (hv:bootBuiltins x=some u) (r:a0V v u) (hn:x≠"__name__":=by decide) (hd:(x == ("__debug__":Str))=false:=by decide):PE X (.Name x pos) (tC v) :=
 λ_ _ _ H _ I h=>a2B I hg hm hv ⟨v,H,I,r,h⟩ hn hd
def t2I (ta tb:TE) (k:Int->Int->Hp->Prop):St->Hp->Prop:=λσ H=>ta σ H λx H1=>tb σ H1 λy H2=>∃ i j,x=.int i/\y=.int j/\k i j H2
def tMul (ta tb:TE):TE:=λσ H Q=>t2I ta tb (λi j H2=>(-(2 ^ 64) < i/\i < 2 ^ 64)/\Q (.int (i * j)) H2) σ H
variable {a b:Expr} {ta tb:TE} {pos:Pos}
def PC (X:Cx) (op:CmpOp) (a b:Expr) (t:TE):Prop :=
 ∀ (pins:List (Addr × Obj)) (s:Shared) (σ:St) (H:Hp) (Q:VK),Inv X pins σ H s->t σ H Q ->
  wpAny (model X.prog X.w) X.A (eval a X.env) (λv s₁=>wpAny (model X.prog X.w) X.A (eval b X.env) (λu s₂=>wpAny (model X.prog X.w) X.A (compareOp op v u) (EP X pins σ Q) X.xe s₂) X.xe s₁) X.xe s
theorem nobehind (b:Expr) {op:CmpOp} (h:op≠.In) (h2:op≠.NotIn):behindInMarks op b=false:=by
 have e1:(op == CmpOp.In)=false:=by cases op <;> first | rfl | exact absurd rfl h
 have e2:(op == CmpOp.NotIn)=false:=by cases op <;> first | rfl | exact absurd rfl h2
 cases b <;> simp [behindInMarks,e1,e2]
def tIsN (ta:TE):TE:=λσ H Q=>ta σ H λx H1=>Q (.bl (decide (x=.non))) H1
def tNotN (ta:TE):TE:=λσ H Q=>ta σ H λx H1=>Q (.bl (!decide (x=.non))) H1
theorem a0V.none_iff {x:V} {v:Value} (r:a0V x v):(v == Value.none)=decide (x=.non):=by
 cases x with
 | non=>cases r;rfl
 | bl _=>cases r;rfl
 | int _=>obtain ⟨t,rfl⟩:=r;rfl
 | str _=>obtain ⟨t,rfl⟩:=r;rfl
 | byt _=>obtain ⟨t,rfl⟩:=r;rfl
 | flt _=>obtain ⟨t,rfl⟩:=r;rfl
 | ref _=>cases r;rfl
 | ty _=>cases r;rfl
theorem a7G {j pos'} (ha:PE X a ta):PC X .Is a (.Constant .none j pos') (tIsN ta):=by
 intro pins s σ H Q I h;refine thn (ha pins s σ H _ I h) λv s1 ⟨x,H1,I1,r1,q1⟩=>?_;exact Constant_none (is_none_gen ⟨.bl _,H1,I1,by rw [r1.none_iff];rfl,q1⟩)
theorem b2H {j pos'} (ha:PE X a ta):PC X .IsNot a (.Constant .none j pos') (tNotN ta):=by
 intro pins s σ H Q I h;refine thn (ha pins s σ H _ I h) λv s1 ⟨x,H1,I1,r1,q1⟩=>?_;exact Constant_none (isnot_none_gen ⟨.bl _,H1,I1,by rw [r1.none_iff];rfl,q1⟩)
def tB (t:TE):TT:=λσ H Q=>t σ H λx H1=>∃ c,x=.bl c/\Q c H1
theorem pe_cmp {op:CmpOp} {t:TE} (h:PC X op a b t) (h1:behindInMarks op b=false:=by first | exact nobehind _ (by decide) (by decide) | rfl):PE X (.Compare a [op] [b] pos) t:=λpins s σ H Q I hw=>wpAny_Compare1 (h pins s σ H Q I hw) h1
theorem a7H {op:CmpOp} {t:TE} (h:PC X op a b t) (h1:behindInMarks op b=false:=by first | exact nobehind _ (by decide) (by decide) | rfl):PT X (.Compare a [op] [b] pos) (tB t):=by
 intro pins s σ H Q I hw;refine wpAny_isTrue_Compare1 (thn (h pins s σ H _ I hw) λv s1 h1=>thn h1 λu s2 h2=>thn h2 λc s3 ⟨x,H1,I1,r1,q1⟩=>?_) h1;obtain ⟨d,rfl,q⟩:=q1;cases r1;exact wpAny_truthy_bool ⟨H1,I1,q⟩
theorem a2c {e:Expr} {t:TE} (h:PE X e t) (he:∀ whole,isTrue e X.env whole=(do let v <-whole;standAt e.pos;holding [v] (truthy v)):=by intro _;rfl):PT X e (tB t):=by
 intro pins s σ H Q I hw;refine isTrue_plain (thn (h pins s σ H _ I hw) λv s1 ⟨x,H1,I1,r1,q1⟩=>?_) (he _);obtain ⟨d,rfl,q⟩:=q1;cases r1;exact wpAny_truthy_bool ⟨H1,I1,q⟩
variable {tA tB':TT} {rest:List Expr}
def tAnd (t u:TT):TT:=λσ H Q=>t σ H λc H1=>if c=true then u σ H1 Q else Q false H1
def tOr (t u:TT):TT:=λσ H Q=>t σ H λc H1=>if c=true then Q true H1 else u σ H1 Q
def tNot (t:TT):TT:=λσ H Q=>t σ H λc H1=>Q (!c) H1
theorem b2I (ha:PT X a tA):PW X (.BoolOp .And [a] pos) tA:=by
 intro wh pins s σ H Q I h;refine isTrue_and (thn (ha pins s σ H Q I h) λc s1 e=>?_);cases c with
 | true=>exact isTrue_and_nil e
 | false=>exact e
theorem a2P (ha:PT X a tA):PW X (.BoolOp .Or [a] pos) tA:=by
 intro wh pins s σ H Q I h;refine isTrue_or (thn (ha pins s σ H Q I h) λc s1 e=>?_);cases c with
 | false=>exact isTrue_or_nil e
 | true=>exact e
theorem pw_and (ha:PT X a tA) (hb:PW X (.BoolOp .And (b :: rest) pos) tB'):PW X (.BoolOp .And (a :: b :: rest) pos) (tAnd tA tB'):=by
 intro wh pins s σ H Q I h;refine isTrue_and (thn (ha pins s σ H _ I h) λc s1 ⟨H1,I1,q1⟩=>?_);cases c with
 | true=>exact hb wh pins s1 σ H1 Q I1 q1
 | false=>exact ⟨H1,I1,q1⟩
theorem a4L (ha:PT X a tA) (hb:PW X (.BoolOp .Or (b :: rest) pos) tB'):PW X (.BoolOp .Or (a :: b :: rest) pos) (tOr tA tB'):=by
 intro wh pins s σ H Q I h;refine isTrue_or (thn (ha pins s σ H _ I h) λc s1 ⟨H1,I1,q1⟩=>?_);cases c with
 | true=>exact ⟨H1,I1,q1⟩
 | false=>exact hb wh pins s1 σ H1 Q I1 q1
theorem a1K (ha:PT X a tA):PT X (.UnaryOp .Not a pos) (tNot tA):=by
 intro pins s σ H Q I h;exact isTrue_not (ha pins s σ H (λc H1=>Q (!c) H1) I h)
def tAndV (ta tb:TE):TE:=λσ H Q=>ta σ H λx H1=>∃ c,x=.bl c/\if c=true then tb σ H1 Q else Q (.bl false) H1
def tNotV (ta:TE):TE:=λσ H Q=>ta σ H λx H1=>∃ c,x=.bl c/\Q (.bl (!c)) H1
theorem a3A {op} {t:TE} (h:PE X a t):PE X (.BoolOp op [a] pos) t:=λpins s σ H Q I hw=>BoolOp_one (h pins s σ H Q I hw)
theorem a3B (ha:PE X a ta) (hb:PE X (.BoolOp .And (b :: rest) pos) tb):PE X (.BoolOp .And (a :: b :: rest) pos) (tAndV ta tb):=by
 intro pins s σ H Q I h;refine BoolOp_and (thn (ha pins s σ H _ I h) λv s1 ⟨x,H1,I1,r1,q1⟩=>?_);obtain ⟨c,rfl,q1⟩:=q1;cases r1;refine wpAny_truthy_bool ?_;cases c with
 | true=>exact hb pins s1 σ H1 Q I1 q1
 | false=>exact ⟨.bl false,H1,I1,rfl,q1⟩
theorem pe_not (ha:PE X a ta):PE X (.UnaryOp .Not a pos) (tNotV ta):=by
 intro pins s σ H Q I h;refine UnaryOp_ (thn (ha pins s σ H _ I h) λv s1 ⟨x,H1,I1,r1,q1⟩=>?_);obtain ⟨c,rfl,q1⟩:=q1;cases r1;exact not_of (wpAny_truthy_bool ⟨.bl (!c),H1,I1,rfl,q1⟩)
def tIf (t:TT) (ta tb:TE):TE:=λσ H Q=>t σ H λc H1=>if c=true then ta σ H1 Q else tb σ H1 Q
theorem b0e {c:Expr} (hc:PT X c tA) (ha:PE X a ta) (hb:PE X b tb):PE X (.IfExp c a b pos) (tIf tA ta tb):=by
 intro pins s σ H Q I h;refine wpAny_IfExp (thn (hc pins s σ H _ I h) λd s1 ⟨H1,I1,q1⟩=>?_);cases d with
 | true=>exact ha pins s1 σ H1 Q I1 q1
 | false=>exact hb pins s1 σ H1 Q I1 q1
end
def SqL (K:PySem.W.Frag) (H:Hp) (a:Addr) (xs:List V):Prop :=
 Rd H a (.lst xs) \/
  ∃ (o:Obj) (its:Array Value) (n:Nat),K.lookup a=some o/\o.cls=.type "list"/\o.dict=none/\o.data=.seq its n/\its.size<=sizeLine/\a0z xs its.toList
def SqT (K:PySem.W.Frag) (H:Hp) (a:Addr) (xs:List V):Prop :=
 Rd H a (.tup xs) \/
  ∃ (o:Obj) (its:Array Value) (n:Nat),K.lookup a=some o/\o.cls=.type "tuple"/\o.data=.seq its n/\its.size<=sizeLine/\a0z xs its.toList
def absV:Value->Option V
 | .none=>some .non
 | .bool b=>some (.bl b)
 | .int i _=>some (.int i)
 | .str x _=>some (.str x)
 | .bytes b _=>some (.byt b)
 | .float b _=>some (.flt b)
 | .ref a=>some (.ref a)
 | .type n=>some (.ty n)
 | _=>none
theorem a0V.abs {x:V} {u:Value} (r:a0V x u):absV u=some x:=by
 cases x with
 | non=>cases r;rfl
 | bl _=>cases r;rfl
 | int _=>obtain ⟨t,rfl⟩:=r;rfl
 | str _=>obtain ⟨t,rfl⟩:=r;rfl
 | byt _=>obtain ⟨t,rfl⟩:=r;rfl
 | flt _=>obtain ⟨t,rfl⟩:=r;rfl
 | ref _=>cases r;rfl
 | ty _=>cases r;rfl
theorem a0V.inj {x y:V} {u:Value} (r:a0V x u) (q:a0V y u):x=y:=Option.some.inj (r.abs.symm.trans q.abs)
theorem a0z.inj:∀ {xs ys:List V} {us:List Value},a0z xs us->a0z ys us->xs=ys
 | _,_,_,.nil,.nil=>rfl
 | _,_,_,.cons r t,.cons r' t'=>by rw [r.inj r',a0z.inj t t']
section
variable {X:Cx} {pins:List (Addr × Obj)} {σ:St} {H:Hp} {s:Shared} {a:Addr} {xs ys:List V}
theorem SqL.of {K:PySem.W.Frag} (h:H a=some (.lst xs)):SqL K H a xs:=.inl (.inl h)
theorem SqT.of {K:PySem.W.Frag} (h:H a=some (.tup xs)):SqT K H a xs:=.inl (.inl h)
theorem Inv.list (I:Inv X pins σ H s) (h:SqL X.K H a xs):∃ its:List Value,a0z xs its/\PlainL s.heap a its.toArray/\xs.length<=sizeLine:=by
 rcases h with h | ⟨o,its,n,hk,hc,hd,hs,hz,r⟩
 ·obtain ⟨z,its,n,r,e⟩:=h.ok I.hok;exact ⟨its,r,⟨_,n,e,rfl,rfl,rfl⟩,z⟩
 ·refine ⟨its.toList,r,⟨o,n,I.kIn a o hk,hc,hd,by simpa using hs⟩,?_⟩;have e:=r.length;simp only [Array.length_toList] at e;omega
theorem Inv.tuple (I:Inv X pins σ H s) (h:SqT X.K H a xs):∃ its:List Value,a0z xs its/\IsTup s.heap a its.toArray/\xs.length<=sizeLine:=by
 rcases h with h | ⟨o,its,n,hk,hc,hs,hz,r⟩
 ·obtain ⟨z,its,r,p⟩:=h.ok I.hok;exact ⟨its,r,p.is,z⟩
 ·refine ⟨its.toList,r,⟨o,I.kIn a o hk,hc,n,by simpa using hs⟩,?_⟩;have e:=r.length;simp only [Array.length_toList] at e;omega
theorem Inv.list_inj (I:Inv X pins σ H s) (h:SqL X.K H a xs) (h':SqL X.K H a ys):xs=ys:=by
 obtain ⟨its,r,⟨o,n,e,_,_,d⟩,_⟩:=I.list h;obtain ⟨its',r',⟨o',n',e',_,_,d'⟩,_⟩:=I.list h';rw [e] at e';cases e';rw [d] at d';injection d' with d1 _;have:its=its':=by simpa using congrArg Array.toList d1
 subst this;exact r.inj r'
theorem Inv.tuple_inj (I:Inv X pins σ H s) (h:SqT X.K H a xs) (h':SqT X.K H a ys):xs=ys:=by
 obtain ⟨its,r,⟨o,e,_,n,d⟩,_⟩:=I.tuple h;obtain ⟨its',r',⟨o',e',_,n',d'⟩,_⟩:=I.tuple h';rw [e] at e';cases e';rw [d] at d';injection d' with d1 _;have:its=its':=by simpa using congrArg Array.toList d1
 subst this;exact r.inj r'
end
abbrev Cx.wish (X:Cx) (E:Value->Shared->Prop):Cx:={ X with xe:=E }
abbrev Cx.nox (X:Cx):Cx:=X.wish λ_ _=>False
theorem Cx.Ok.wish {X:Cx} (ok:X.Ok) (E:Value->Shared->Prop):(X.wish E).Ok :=
 ⟨ok.mod,ok.kind,ok.glob,ok.blt,ok.above,ok.inj,ok.has,ok.cab,ok.hd,ok.frames,ok.stk,ok.exf,ok.bs,ok.bsz,ok.noex,ok.exfs,ok.funs,ok.frf⟩
theorem Cx.Ok.unwish {X:Cx} {E:Value->Shared->Prop} (ok:(X.wish E).Ok):X.Ok :=
 ⟨ok.mod,ok.kind,ok.glob,ok.blt,ok.above,ok.inj,ok.has,ok.cab,ok.hd,ok.frames,ok.stk,ok.exf,ok.bs,ok.bsz,ok.noex,ok.exfs,ok.funs,ok.frf⟩
section
variable {X:Cx} {pins:List (Addr × Obj)} {σ:St} {H:Hp} {s:Shared} {E:Value->Shared->Prop}
theorem Inv.wish (I:Inv X pins σ H s) (E:Value->Shared->Prop):Inv (X.wish E) pins σ H s:=⟨I.ok.wish E,I.os,I.bare,I.base,I.loc,I.cell,I.free,I.freeC,I.pin,I.hok,I.len⟩
theorem Inv.unwish (I:Inv (X.wish E) pins σ H s):Inv X pins σ H s:=⟨I.ok.unwish,I.os,I.bare,I.base,I.loc,I.cell,I.free,I.freeC,I.pin,I.hok,I.len⟩
theorem SP.unwish {D:a9Z} {f:Flow} {s':Shared} (h:SP (X.wish E) pins D f s'):SP X pins D f s':=by
 cases f with
 | next=>obtain ⟨σ',H',I,q⟩:=h;exact ⟨σ',H',I.unwish,q⟩
 | brk=>obtain ⟨σ',H',I,q⟩:=h;exact ⟨σ',H',I.unwish,q⟩
 | cont=>obtain ⟨σ',H',I,q⟩:=h;exact ⟨σ',H',I.unwish,q⟩
 | ret u=>obtain ⟨v,σ',H',I,r,q⟩:=h;exact ⟨v,σ',H',I.unwish,r,q⟩
theorem PSs.nox {st:List Stmt} {t:TS} (h:PSs X.nox st t):PSs X st t:=λpins s σ H D I hw =>
 wpAny_mono (h pins s σ H D (I.wish _) hw) (λ_ _ q=>q.unwish) λ_ _ z=>False.elim z
end
section
variable {X:Cx} {st:Stmt} {rest:List Stmt} {t u:TS} {e:Expr} {te:TE} {pos:Pos}
def tNext:TS:=λD σ H=>D.nx σ H
def tSeq (t u:TS):TS:=λD σ H=>t { D with nx:=u D } σ H
theorem a0u:PSs X [] tNext:=λ_ _ σ H _ I h=>wpAny_execs_nil ⟨σ,H,I,h⟩
theorem a0c (h1:PS X st t) (h2:PSs X rest u):PSs X (st :: rest) (tSeq t u):=by
 intro pins s σ H D I h;refine wpAny_execs_cons (thn (h1 pins s σ H { D with nx:=u D } I h) λf s1 q=>?_);cases f with
 | next =>
  obtain ⟨σ',H',I',q⟩:=q;exact h2 pins s1 σ' H' D I' q
 | ret v=>exact q
 | brk=>exact q
 | cont=>exact q
theorem a0h (h1:PS X st t):PSs X [st] t:=by
 intro pins s σ H D I h;refine wpAny_execs_cons (thn (h1 pins s σ H D I h) λf s1 q=>?_);cases f with
 | next=>exact wpAny_execs_nil q
 | ret v=>exact q
 | brk=>exact q
 | cont=>exact q
theorem Inv.quiet {pins:List (Addr × Obj)} {σ:St} {H:Hp} {s:Shared} (I:Inv X pins σ H s):interactive X.env=false:=by simp [interactive,I.ok.kind]
def tDrop (te:TE):TS:=λD σ H=>te σ H λ_ H1=>D.nx σ H1
theorem a1h (he:PE X e te) (hs:swapsWith e none pos.line X.env=pure false:=by rfl):PS X (.Expr e pos) (tDrop te):=by
 intro pins s σ H D I h;exact wpAny_Expr_any (thn (he pins s σ H _ I h) λv s1 ⟨x,H1,I1,r1,q1⟩=>⟨σ,H1,I1,q1⟩) I.quiet hs
def tRet (te:TE):TS:=λD σ H=>te σ H D.rt
theorem a0o (he:PE X e te):PS X (.Return (some e) pos) (tRet te):=by
 intro pins s σ H D I h;exact wpAny_Return_some (thn (he pins s σ H _ I h) λv s1 ⟨x,H1,I1,r1,q1⟩=>⟨x,σ,H1,I1,r1,q1⟩)
def tIfS (c:TT) (t u:TS):TS:=λD σ H=>c σ H λb H1=>if b=true then t D σ H1 else u D σ H1
theorem a0W {c:Expr} {a b:List Stmt} {tc:TT} (hc:PT X c tc) (ha:PSs X a t) (hb:PSs X b u):PS X (.If c a b pos) (tIfS tc t u):=by
 intro pins s σ H D I h;refine wpAny_If (thn (hc pins s σ H _ I h) λd s1 ⟨H1,I1,q1⟩=>?_);cases d with
 | true=>exact ha pins s1 σ H1 D I1 q1
 | false=>exact hb pins s1 σ H1 D I1 q1
def tNever:TS:=λ_ _ _=>False
end
abbrev TG:=V->St->Hp->(St->Hp->Prop)->Prop
abbrev TGs:=List V->St->Hp->(St->Hp->Prop)->Prop
def PG (X:Cx) (target:Expr) (t:TG):Prop :=
 ∀ (pins:List (Addr × Obj)) (s:Shared) (σ:St) (H:Hp) (v:V) (u:Value) (Q:St->Hp->Prop),Inv X pins σ H s->a0V v u->t v σ H Q ->
  wpAny (model X.prog X.w) X.A (assign target X.env u) (λ_ s'=>∃ σ' H',Inv X pins σ' H' s'/\Q σ' H') X.xe s
def PGs (X:Cx) (ts:List Expr) (t:TGs):Prop :=
 ∀ (pins:List (Addr × Obj)) (s:Shared) (σ:St) (H:Hp) (vs:List V) (us:List Value) (Q:St->Hp->Prop),Inv X pins σ H s->a0z vs us->t vs σ H Q ->
  wpAny (model X.prog X.w) X.A (assignInOrder ((assignEach ts X.env).map (·.2)) us) (λ_ s'=>∃ σ' H',Inv X pins σ' H' s'/\Q σ' H') X.xe s
abbrev TSet:=V->V->V->Hp->(Hp->Prop)->Prop
def PSet (X:Cx) (t:TSet):Prop :=
 ∀ (pins:List (Addr × Obj)) (s:Shared) (σ:St) (H:Hp) (o i v:V) (ov iv u:Value) (Q:Hp->Prop),Inv X pins σ H s->a0V o ov->a0V i iv->a0V v u->t o i v H Q ->
  wpAny (model X.prog X.w) X.A (setItem ov iv u) (λ_ s'=>∃ H',Inv X pins σ H' s'/\Q H') X.xe s
abbrev TIp:=V->V->Hp->VK->Prop
def PIp (X:Cx) (op:Operator) (t:TIp):Prop :=
 ∀ (pins:List (Addr × Obj)) (s:Shared) (σ:St) (H:Hp) (x y:V) (v u:Value) (Q:VK),Inv X pins σ H s->a0V x v->a0V y u->t x y H Q ->
  wpAny (model X.prog X.w) X.A (inplaceOp op v u) (EP X pins σ Q) X.xe s
section
variable {X:Cx} {pos:Pos}
def a1I (i:Nat):TG:=λv σ H Q=>Q (σ.set i (some v)) H
theorem a2Q {i:Nat} {x:Str} (hN:X.N.Nodup) (hi:X.N[i]?=some x) (hx:Loc X.env.scope x) (hf:X.fn x=true\/X.env.scope.names.lookup x=some .local:=by first | exact .inl rfl | exact .inr rfl | assumption):PG X (.Name x pos) (a1I i):=by
 intro pins s σ H v u Q I r h;exact wpAny_assign_Name (a3X I hN hi hx r (λs' I'=>⟨_,H,I',h⟩) hf)
def gNil:TGs:=λvs σ H Q=>vs=[]/\Q σ H
def b2J (t:TG) (u:TGs):TGs:=λvs σ H Q=>∃ v r,vs=v :: r/\t v σ H λσ' H'=>u r σ' H' Q
theorem a2R:PGs X [] gNil:=by
 intro pins s σ H vs us Q I r h;obtain ⟨e,h⟩:=h;subst e;cases r;exact assignInOrder_nil ⟨σ,H,I,h⟩
theorem a1i {e:Expr} {es:List Expr} {t:TG} {u:TGs} (h1:PG X e t) (h2:PGs X es u)
  (hs:(assignEach (e :: es) X.env).map (·.2)=assign e X.env :: (assignEach es X.env).map (·.2):=by rfl):PGs X (e :: es) (b2J t u):=by
 intro pins s σ H vs us Q I r h;obtain ⟨v,vr,e1,h⟩:=h;subst e1;cases r with
 | cons r rr =>
  rw [hs];refine assignInOrder_cons (thn (h1 pins s σ H _ _ _ I r h) λ_ s1 ⟨σ1,H1,I1,q1⟩=>?_);exact h2 pins s1 σ1 H1 _ _ Q I1 rr q1
def gTup (K:PySem.W.Frag) (n:Nat) (t:TGs):TG:=λv σ H Q=>∃ a xs,v=.ref a/\SqT K H a xs/\xs.length=n/\t xs σ H Q
theorem a4M {es:List Expr} {k:Nat} {t:TGs} {n:Nat} (hc:X.calm=true) (h:PGs X es t)
  (hn:(assignEach es X.env).length=n:=by rfl) (hst:(assignEach es X.env).findIdx? (·.1)=none:=by rfl):PG X (.Tuple es k pos) (gTup X.K n t):=by
 intro pins s σ H v u Q I r hw;obtain ⟨a,xs,e1,hq,hl,hw⟩:=hw;subst e1;cases r;obtain ⟨its,rv,ht,hz⟩:=I.tuple hq;refine assign_Tuple_tuple (I.ok.hd hc) ht (by simp [hn,<-hl,rv.length]) hst λh' hx=>?_;have I1:Inv X pins σ H { s with heap:=h' }:=I.kept (t':=s.toks) λb o e=>hx b o (Nat.ne_of_lt (Heap.lt_size e)) e;exact h pins _ σ H xs _ Q I1 (by simpa using rv) hw
def gSub (to ti:TE) (t:TSet):TG:=λv σ H Q=>to σ H λo H1=>ti σ H1 λi H2=>t o i v H2 λH3=>Q σ H3
theorem a4N {o i:Expr} {to ti:TE} {t:TSet} (ho:PE X o to) (hi:PE X i ti) (hs:PSet X t)
  (ha:∀ v,assign (.Subscript o i pos) X.env v=(do
   let ov <-holding [v] (eval o X.env)
   let iv <-holding [v,ov] (eval i X.env)
   standAt pos
   holding [v,ov,iv] (setItem ov iv v)
   release [v,ov,iv] []):=by intro _;rfl):PG X (.Subscript o i pos) (gSub to ti t):=by
 intro pins s σ H v u Q I r h;rw [ha];refine wpAny_bind (wpAny_holding (thn (ho pins s σ H _ I h) λov s1 ⟨x,H1,I1,r1,q1⟩=>?_));refine wpAny_bind (wpAny_holding (thn (hi pins s1 σ H1 _ I1 q1) λiv s2 ⟨y,H2,I2,r2,q2⟩=>?_));refine wpAny_bind (wpAny_standAt (wpAny_bind (wpAny_holding (thn (hs pins s2 σ H2 x y v ov iv u _ I2 r1 r2 r q2) λ_ s3 ⟨H3,I3,q3⟩=>?_))));exact wpAny_release ⟨σ,H3,I3,q3⟩
def b4y (te:TE) (g:TG):TS:=λD σ H=>te σ H λx H1=>g x σ H1 D.nx
theorem a2C {tg e:Expr} {te:TE} {g:TG} (he:PE X e te) (hg:PG X tg g) (hs:swapsWithSole [tg] e pos.line X.env=pure false:=by rfl) (hw:swappedStores [tg] e X.env=pure none:=by rfl)
  (h1:(assignEach [tg] X.env).map (·.2)=[assign tg X.env]:=by rfl):PS X (.Assign [tg] e pos) (b4y te g):=by
 intro pins s σ H D I h;refine wpAny_Assign_stores (thn (he pins s σ H _ I h) λv s1 ⟨x,H1,I1,r1,q1⟩=>?_) hs hw;rw [h1];exact thn (hg pins s1 σ H1 x v _ I1 r1 q1) λ_ s2 q=>q
theorem ps_set {i:Nat} {x:Str} {e:Expr} {te:TE} {pos':Pos} (hN:X.N.Nodup) (hi:X.N[i]?=some x) (hx:Loc X.env.scope x) (he:PE X e te) (hs:swapsWith e (some (.Name x pos')) pos.line X.env=pure false:=by rfl) (hf:X.fn x=true\/X.env.scope.names.lookup x=some .local:=by first | exact .inl rfl | exact .inr rfl | assumption) :
  PS X (.Assign [.Name x pos'] e pos) (b4y te (a1I i)):=by
 intro pins s σ H D I h;refine wpAny_Assign_Name (thn (he pins s σ H _ I h) λv s1 ⟨y,H1,I1,r1,q1⟩=>?_) hs;exact a3X I1 hN hi hx r1 (λs2 I2=>⟨_,H1,I2,q1⟩) hf
def tPar (i j:Nat) (ta:TA):TS:=λD σ H=>ta σ H λvs H1=>∃ v w,vs=[v,w]/\D.nx ((σ.set i (some v)).set j (some w)) H1
def tAug (i:Nat) (te:TE) (ti:TIp):TS:=λD σ H=>∃ x,σ[i]?=some (some x)/\te σ H λy H1=>ti x y H1 λz H2=>D.nx (σ.set i (some z)) H2
theorem b1H {i:Nat} {x:Str} {e:Expr} {te:TE} {op:Operator} {ti:TIp} {pos':Pos} (hN:X.N.Nodup) (hi:X.N[i]?=some x) (hx:Loc X.env.scope x) (he:PE X e te) (ho:PIp X op ti) (hf:X.fn x=true\/X.env.scope.names.lookup x=some .local:=by first | exact .inl rfl | exact .inr rfl | assumption) :
  PS X (.AugAssign (.Name x pos') op e pos) (tAug i te ti):=by
 intro pins s σ H D I h;obtain ⟨v,e1,h⟩:=h;obtain ⟨m,hn,hl⟩:=I.loc;have vis:Vis X.env.scope x:=by rcases hx with k | k;exact .inl k;exact .inr (.inl k)
 obtain ⟨u,r,l⟩:=hl i x v hi e1 vis;refine wpAny_AugAssign_Name ?_;have go:wpAny (model X.prog X.w) X.A (eval e X.env) (λw s₂=>wpAny (model X.prog X.w) X.A (inplaceOp op u w) (λr s₃=>wpAny (model X.prog X.w) X.A (storeName X.env x r) (λ_=>SP X pins D .next) X.xe s₃) X.xe s₂) X.xe s:=by
  refine thn (he pins s σ H _ I h) λw s1 ⟨y,H1,I1,r1,q1⟩=>?_;refine thn (ho pins s1 σ H1 v y u w _ I1 r r1 q1) λz s2 ⟨zv,H2,I2,r2,q2⟩=>?_;exact a3X I2 hN hi hx r2 (λs3 I3=>⟨_,H2,I3,q2⟩) hf
 rcases l with ⟨hk,hm⟩ | ⟨hk,c,hc,hcell⟩
 ·exact wpAny_loadName_local I.ok.kind hk hn hm go
 ·rcases hk with hk | hk
  ·exact wpAny_loadName_cell I.ok.kind hk hc hcell go
  ·rcases hx with k | k
   ·have:X.env.scope.names.lookup x=some .free:=hk;rw [k] at this;cases this
   ·have:X.env.scope.names.lookup x=some .free:=hk;rw [k] at this;cases this
def tAugS (to ti te:TE) (tget:V->V->Hp->VK->Prop) (tip:TIp) (tset:TSet):TS:=λD σ H=>to σ H λo H1=>ti σ H1 λi H2=>tget o i H2 λx H3=>te σ H3 λy H4=>tip x y H4 λz H5=>tset o i z H5 λH6=>D.nx σ H6
def PGet (X:Cx) (t:V->V->Hp->VK->Prop):Prop :=
 ∀ (pins:List (Addr × Obj)) (s:Shared) (σ:St) (H:Hp) (o i:V) (ov iv:Value) (Q:VK),Inv X pins σ H s->a0V o ov->a0V i iv->t o i H Q ->
  wpAny (model X.prog X.w) X.A (getItem ov iv) (EP X pins σ Q) X.xe s
def ipI (f:Int->Int->Int):TIp:=λx y H Q=>∃ i j,x=.int i/\y=.int j/\Q (.int (f i j)) H
theorem b1I:PIp X .Add (ipI λi j=>i+j):=by
 intro pins s σ H x y v u Q I r1 r2 h;obtain ⟨i,j,e1,e2,q⟩:=h;subst e1;subst e2;obtain ⟨t,rfl⟩:=r1;obtain ⟨t',rfl⟩:=r2;exact iadd_int ⟨.int _,H,I.tok _,⟨_,rfl⟩,q⟩
def tWhile (c:TT) (tb:TS):TS:=λD σ H=>∃ W:Nat->St->Hp->Prop,(∃ m,W m σ H)/\∀ m σ H,W m σ H ->
 c σ H λb H1=>if b=true then ∃ N:St->Hp->Prop,(∀ σ' H',N σ' H'->∃ m',m' < m/\W m' σ' H')/\tb { D with nx:=N,ct:=N,bk:=D.nx } σ H1 else D.nx σ H1
theorem a2g {c:Expr} {body:List Stmt} {tc:TT} {tb:TS} (hp:PassesOwn (model X.prog X.w) X.A X.env X.xe) (hc:PT X c tc) (hb:PSs X body tb):PS X (.While c body [] pos) (tWhile tc tb):=by
 intro pins s σ H D I h;obtain ⟨W,⟨m0,w0⟩,turn⟩:=h;refine wpAny_While (codeAny_whileLoop (λn s'=>∃ σ' H',Inv X pins σ' H' s'/\W n σ' H') ?_ m0 ⟨σ,H,I,w0⟩);rintro n s1 ⟨σ1,H1,I1,w1⟩;refine wpAny_passesOwn hp (thn (hc pins s1 σ1 H1 _ I1 (turn n σ1 H1 w1)) λb s2 ⟨H2,I2,q2⟩=>?_);cases b with
 | true =>
  obtain ⟨N,hN,q2⟩:=q2;rw [if_pos rfl];refine wpAny_passesOwn hp (thn (hb pins s2 σ1 H2 _ I2 q2) λf s3 q3=>?_);cases f with
  | next =>
   obtain ⟨σ3,H3,I3,n3⟩:=q3;obtain ⟨m',hm,w3⟩:=hN σ3 H3 n3;exact ⟨m',hm,σ3,H3,I3,w3⟩
  | cont =>
   obtain ⟨σ3,H3,I3,n3⟩:=q3;obtain ⟨m',hm,w3⟩:=hN σ3 H3 n3;exact ⟨m',hm,σ3,H3,I3,w3⟩
  | brk=>exact q3
  | ret v=>exact q3
 | false =>
  rw [if_neg Bool.false_ne_true];exact wpAny_execs_nil ⟨σ1,H2,I2,q2⟩
end
structure It where
 go:Nat->Hp->Prop
 yld:Nat->Hp->V->Hp->Prop
 stop:Nat->Hp->Prop
def b0f (X:Cx) (pins:List (Addr × Obj)) (H:Hp) (b:Addr):Prop :=
 H b=none/\b≠X.env.locals/\b∉X.fs/\(b∈X.ex\/X.s₀.heap.objs.size<=b)/\(∀ x c,X.env.cells.lookup x=some c->c≠b)/\∀ p∈X.pn++pins,p.1≠b
theorem Inv.fpOk {X:Cx} {pins:List (Addr × Obj)} {σ:St} {H H':Hp} {s:Shared} {b:Addr} (I:Inv X pins σ H s) (hb:s.heap.objs.size<=b) (hn:H' b=none):b0f X pins H' b:=by
 refine ⟨hn,Nat.ne_of_gt (Nat.lt_of_lt_of_le I.lt hb),I.nofs hb,.inr (Nat.le_trans I.sz hb),λx c e z=>?_,λp hp z=>?_⟩
 ·obtain ⟨v,q⟩:=I.cell x c e;exact absurd (Nat.lt_of_lt_of_le q.lt (by rw [z];exact hb)) (Nat.lt_irrefl _)
 ·exact absurd (Nat.lt_of_lt_of_le (Heap.lt_size (I.pin p hp).1) (by rw [z];exact hb)) (Nat.lt_irrefl _)
structure b4z (P:Program) (w:World) (K:PySem.W.Frag) (tg:Expr) (J:It) (fp:List Addr) (it:Addr) (tn:Nat->Heap->Prop):Prop where
 mem:it∈fp
 obj:∀ i h,tn i h->∀ b∈fp,∃ o,h.get? b=some o/\∀ v,o.data≠.cell v
 keep:∀ i h h',tn i h->(∀ b∈fp,∀ o,h.get? b=some o->h'.get? b=some o)->tn i h'
 item:∀ (X:Cx),X.prog=P->X.w=w->X.K=K->X.calm=true->∀ (i:Nat) (pins:List (Addr × Obj)) (s:Shared) (σ:St) (H:Hp) (E:Value->Shared->Prop),Inv X pins σ H s->(∀ b∈fp,b0f X pins H b)->tn i s.heap->J.go i H ->
  wpAny (model P w) X.A (pyNext (.ref it)) (λr s1=>∃ u,r=some u /\
   wpAny (model P w) X.A (letOwnedTupleGo tg (.ref it) u) (λ_ s2=>∃ x H',Inv X pins σ H' s2/\a0V x u/\J.yld i H x H'/\tn (i+1) s2.heap/\∀ b∈fp,H' b=none) E s1) E s
 done:∀ (X:Cx),X.prog=P->X.w=w->X.K=K->X.calm=true->∀ (i:Nat) (pins:List (Addr × Obj)) (s:Shared) (σ:St) (H:Hp) (E:Value->Shared->Prop),Inv X pins σ H s->(∀ b∈fp,b0f X pins H b)->tn i s.heap->J.stop i H ->
  wpAny (model P w) X.A (pyNext (.ref it)) (λr s1=>r=none/\Inv X pins σ H s1) E s
 self:∀ (A:Around) (i:Nat) (s:Shared) (Q:Value->Shared->Prop) (E:Value->Shared->Prop),tn i s.heap->Q (.ref it) s->wpAny (model P w) A (pyIter (.ref it)) Q E s
abbrev TI:=St->Hp->(It->Hp->Prop)->Prop
def PIE (X:Cx) (pins:List (Addr × Obj)) (σ:St) (tg:Expr) (R:It->Hp->Prop) (itv:Value) (s2:Shared):Prop :=
 ∃ (it:Addr) (fp:List Addr) (tn:Nat->Heap->Prop) (J:It) (H':Hp),itv=.ref it/\Inv X pins σ H' s2/\b4z X.prog X.w X.K tg J fp it tn/\tn 0 s2.heap/\(∀ b∈fp,b0f X pins H' b)/\R J H'
def PI (X:Cx) (tg iter:Expr) (wi:TI):Prop :=
 ∀ (pins:List (Addr × Obj)) (s:Shared) (σ:St) (H:Hp) (R:It->Hp->Prop),Inv X pins σ H s->wi σ H R ->
  wpAny (model X.prog X.w) X.A (eval iter X.env) (λv s1=>wpAny (model X.prog X.w) X.A (pyIter v) (PIE X pins σ tg R) X.xe s1) X.xe s
theorem b0g {M:Model} {A:Around} {E:Value->Shared->Prop} {s:Shared} {tg:Expr} {it:Addr} {u:Value} {o:Obj} {n:String} {vs:Array Value} {Q:Unit->Shared->Prop} (ho:s.heap.get? it=some o) (hc:o.cls=.type n) (hd:o.data=.fields vs)
  (hn:["enumerate","zip","dict_itemiterator","dict_reverseitemiterator","odict_iterator","itertools.zip_longest","itertools.pairwise"].contains n=false) (hQ:Q () s):wpAny M A (letOwnedTupleGo tg (.ref it) u) Q E s:=by
 unfold letOwnedTupleGo;cases tg <;> first
  | exact wpAny_pure hQ
  | (cases u <;> first
    | exact wpAny_pure hQ
    | (refine wpAny_bind (wpAny_load ho ?_)
       rw [hc,hd];show wpAny M A (if (["enumerate","zip","dict_itemiterator","dict_reverseitemiterator","odict_iterator","itertools.zip_longest","itertools.pairwise"].contains n && vs[0]? == some (rawInt _))=true then _ else _) Q E s;rw [if_neg (by intro h;rw [hn,Bool.false_and] at h;cases h)];exact wpAny_pure hQ))
def Itl (K:PySem.W.Frag) (a:Addr):It :=
 ⟨λi H=>∃ xs x,SqL K H a xs/\xs[i]?=some x,λi H x H'=>H'=H/\∀ xs,SqL K H a xs->xs[i]?=some x,λi H=>∃ xs,SqL K H a xs/\xs.length<=i⟩
def Itt (K:PySem.W.Frag) (a:Addr):It :=
 ⟨λi H=>∃ xs x,SqT K H a xs/\xs[i]?=some x,λi H x H'=>H'=H/\∀ xs,SqT K H a xs->xs[i]?=some x,λi H=>∃ xs,SqT K H a xs/\xs.length<=i⟩
def Itr (lo:Int) (n:Nat):It:=⟨λi _=>i < n,λi H x H'=>H'=H/\x=.int (lo+i),λi _=>n<=i⟩
theorem a7I {P:Program} {w:World} {K:PySem.W.Frag} {tg:Expr} (a it:Addr):b4z P w K tg (Itl K a) [it] it (λi h=>h.IsListIter it a i) where
 mem:=by simp
 obj:=λi h st b hb=>by
  have e:b=it:=by simpa using hb
  subst e;obtain ⟨o,e,c,d⟩:=st;exact ⟨o,e,λv z=>by rw [d] at z;cases z⟩
 keep:=λi h h' st k=>st.at λo e=>k it (by simp) o e
 item:=by
  intro X hP hw hK hc i pins s σ H E I hf st hg;subst hP hw hK;obtain ⟨xs,x,hq,hx⟩:=hg;obtain ⟨its,rv,p,hz⟩:=I.list hq;obtain ⟨u,hu,ru⟩:=rv.get hx;obtain ⟨f0,f1,f2,f3,f4,f5⟩:=hf it (by simp);refine wpAny_pyNext_list_item st p.isList (x:=u) (by simpa using hu) λh' st' sb=>?_;have I1:Inv X pins σ H { s with heap:=h' }:=I.turned (t':=s.toks) (λb o hb e=>(sb.2 b hb).trans e) f0 f1 f3 f4 f5;obtain ⟨o,e,c,d⟩:=id st';exact ⟨u,rfl,b0g (s:={ s with heap:=h' }) e c d (by decide) ⟨x,H,I1,ru,⟨rfl,λys hy=>by rw [I.list_inj hy hq];exact hx⟩,st',λb hb=>(hf b hb).1⟩⟩
 done:=by
  intro X hP hw hK hc i pins s σ H E I hf st hg;subst hP hw hK;obtain ⟨xs,hq,hx⟩:=hg;obtain ⟨its,rv,p,hz⟩:=I.list hq;obtain ⟨f0,f1,f2,f3,f4,f5⟩:=hf it (by simp);have hl:=rv.length;exact wpAny_pyNext_list_end (I.ok.hd hc) st p.isList (by simp;omega) λh' eb=>⟨rfl,I.turned (t':=s.toks) (λb o hb e=>eb b o hb e) f0 f1 f3 f4 f5⟩
 self:=λ_ _ _ _ _ st h=>wpAny_pyIter_listiter st h
theorem a7d {P:Program} {w:World} {K:PySem.W.Frag} {tg:Expr} (a it:Addr):b4z P w K tg (Itt K a) [it] it (λi h=>h.IsTupleIter it a i) where
 mem:=by simp
 obj:=λi h st b hb=>by
  have e:b=it:=by simpa using hb
  subst e;obtain ⟨o,e,c,d⟩:=st;exact ⟨o,e,λv z=>by rw [d] at z;cases z⟩
 keep:=λi h h' st k=>st.at λo e=>k it (by simp) o e
 item:=by
  intro X hP hw hK hc i pins s σ H E I hf st hg;subst hP hw hK;obtain ⟨xs,x,hq,hx⟩:=hg;obtain ⟨its,rv,p,hz⟩:=I.tuple hq;obtain ⟨u,hu,ru⟩:=rv.get hx;obtain ⟨f0,f1,f2,f3,f4,f5⟩:=hf it (by simp);refine wpAny_pyNext_tuple_item st (show s.heap.IsTuple a its.toArray from p) (x:=u) (by simpa using hu) λh' st' sb=>?_;have I1:Inv X pins σ H { s with heap:=h' }:=I.turned (t':=s.toks) (λb o hb e=>(sb.2 b hb).trans e) f0 f1 f3 f4 f5;obtain ⟨o,e,c,d⟩:=id st';exact ⟨u,rfl,b0g (s:={ s with heap:=h' }) e c d (by decide) ⟨x,H,I1,ru,⟨rfl,λys hy=>by rw [I.tuple_inj hy hq];exact hx⟩,st',λb hb=>(hf b hb).1⟩⟩
 done:=by
  intro X hP hw hK hc i pins s σ H E I hf st hg;subst hP hw hK;obtain ⟨xs,hq,hx⟩:=hg;obtain ⟨its,rv,p,hz⟩:=I.tuple hq;obtain ⟨f0,f1,f2,f3,f4,f5⟩:=hf it (by simp);have hl:=rv.length;exact wpAny_pyNext_tuple_end (I.ok.hd hc) st (show s.heap.IsTuple a its.toArray from p) (by simp;omega) λh' eb=>⟨rfl,I.turned (t':=s.toks) (λb o hb e=>eb b o hb e) f0 f1 f3 f4 f5⟩
 self:=λ_ _ _ _ _ st h=>wpAny_pyIter_tupleiter st h
theorem a7e {P:Program} {w:World} {K:PySem.W.Frag} {tg:Expr} (it:Addr) (lo:Int) (n:Nat):b4z P w K tg (Itr lo n) [it] it (λi h=>IsRangeIter h it (lo+(i:Nat) * 1) ((n:Int) - (i:Nat)) 1) where
 mem:=by simp
 obj:=λi h st b hb=>by
  have e:b=it:=by simpa using hb
  subst e;exact ⟨_,st,λv z=>by
   have z':Data.fields _=Data.cell v:=z;cases z'⟩
 keep:=λi h h' st k=>k it (by simp) _ st
 item:=by
  intro X hP hw hK hc i pins s σ H E I hf st hg;subst hP hw hK;obtain ⟨f0,f1,f2,f3,f4,f5⟩:=hf it (by simp);have W:=Walks.range (prog:=X.prog) (w:=X.w) (I.ok.hd hc) it lo 1 n;refine W.item i s _ _ hg st λv h' tk hv st' kk=>?_;obtain ⟨t,rfl⟩:=hv;have I1:Inv X pins σ H { s with heap:=h',toks:=tk }:=I.turned (λb o hb e=>kk b o (by simpa using hb) e) f0 f1 f3 f4 f5;refine ⟨_,rfl,b0g (s:={ s with heap:=h',toks:=tk }) (n:="range_iterator") st' rfl rfl (by decide) ⟨.int (lo+i),H,I1,⟨t,?_⟩,⟨rfl,rfl⟩,st',λb hb=>(hf b hb).1⟩⟩;rw [Int.mul_one]
 done:=by
  intro X hP hw hK hc i pins s σ H E I hf st hg;subst hP hw hK;obtain ⟨f0,f1,f2,f3,f4,f5⟩:=hf it (by simp);exact wpAny_pyNext_range_end (I.ok.hd hc) st (by have:n<=i:=hg;omega) λh' eb=>⟨rfl,I.turned (t':=s.toks) (λb o hb e=>eb b o hb e) f0 f1 f3 f4 f5⟩
 self:=λ_ _ _ _ _ st h=>wpAny_pyIter_rangeiter st h
section
variable {X:Cx} {tg:Expr}
def iList (K:PySem.W.Frag) (tl:TE):TI:=λσ H R=>tl σ H λx H1=>∃ a,x=.ref a/\(∃ xs,SqL K H1 a xs)/\R (Itl K a) H1
def iTup (K:PySem.W.Frag) (tl:TE):TI:=λσ H R=>tl σ H λx H1=>∃ a,x=.ref a/\(∃ xs,SqT K H1 a xs)/\R (Itt K a) H1
theorem a2S {l:Expr} {tl:TE} (hl:PE X l tl):PI X tg l (iList X.K tl):=by
 intro pins s σ H R I h;refine thn (hl pins s σ H _ I h) λv s1 ⟨x,H1,I1,r1,q1⟩=>?_;obtain ⟨a,e,⟨xs,hq⟩,q⟩:=q1;subst e;cases r1;obtain ⟨its,rv,p,hz⟩:=I1.list hq;refine wpAny_pyIter_list p.isList ?_;refine ⟨s1.heap.objs.size,[s1.heap.objs.size],_,_,H1,rfl,I1.kept (t':=s1.toks) λb o e=>Heap.get?_push_of_some _ e,a7I a _,⟨_,Heap.get?_push_size _ rfl,rfl,rfl⟩,λb hb=>?_,q⟩;have e:b=s1.heap.objs.size:=by simpa using hb
 subst e;exact I1.fpOk (Nat.le_refl _) (I1.hok.fresh (Nat.le_refl _))
theorem b1J {l:Expr} {tl:TE} (hl:PE X l tl):PI X tg l (iTup X.K tl):=by
 intro pins s σ H R I h;refine thn (hl pins s σ H _ I h) λv s1 ⟨x,H1,I1,r1,q1⟩=>?_;obtain ⟨a,e,⟨xs,hq⟩,q⟩:=q1;subst e;cases r1;obtain ⟨its,rv,p,hz⟩:=I1.tuple hq;refine wpAny_pyIter_tuple (show s1.heap.IsTuple a its.toArray from p) ?_;refine ⟨s1.heap.objs.size,[s1.heap.objs.size],_,_,H1,rfl,I1.kept (t':=s1.toks) λb o e=>Heap.get?_push_of_some _ e,a7d a _,⟨_,Heap.get?_push_size _ rfl,rfl,rfl⟩,λb hb=>?_,q⟩;have e:b=s1.heap.objs.size:=by simpa using hb
 subst e;exact I1.fpOk (Nat.le_refl _) (I1.hok.fresh (Nat.le_refl _))
theorem a6i {pins:List (Addr × Obj)} {σ:St} {H:Hp} {s:Shared} {R:It->Hp->Prop} {E:Value->Shared->Prop} {lo hi:Int} {t u v:Tok} {tk:Nat} (I:Inv X pins σ H s) (h1:-(2 ^ 62)<=lo) (h2:lo < 2 ^ 62) (h3:-(2 ^ 62)<=hi) (h4:hi < 2 ^ 62)
  (q:R (Itr lo (hi - lo).toNat) H):wpAny (model X.prog X.w) X.A (pyIter (.ref s.heap.objs.size)) (PIE X pins σ tg R) E { s with heap:=s.heap.push { cls:=.type "range",data:=.fields #[.int lo t,.int hi u,.int 1 v] },toks:=tk }:=by
 refine wpAny_pyIter_range (IsRange.new ..) (small_one h1 h2 h3 h4) ?_;have I1:Inv X pins σ H { s with heap:=s.heap.push { cls:=.type "range",data:=.fields #[.int lo t,.int hi u,.int 1 v] },toks:=tk }:=I.kept λb o e=>Heap.get?_push_of_some _ e;refine ⟨(s.heap.push { cls:=.type "range",data:=.fields #[.int lo t,.int hi u,.int 1 v] }).objs.size,[(s.heap.push { cls:=.type "range",data:=.fields #[.int lo t,.int hi u,.int 1 v] }).objs.size],_,_,H,rfl,
  I1.kept (t':=tk) λb o e=>Heap.get?_push_of_some _ e,a7e _ lo (hi - lo).toNat,?_,λb hb=>?_,q⟩
 ·have e1:lo+((0:Nat):Int) * 1=lo:=by simp
  have e2:(((hi - lo).toNat:Nat):Int) - ((0:Nat):Int)=Builtin.Range.rangeSize lo hi 1:=by rw [rangeSize_one];split <;> omega
  show IsRangeIter _ _ (lo+((0:Nat):Int) * 1) ((((hi - lo).toNat:Nat):Int) - ((0:Nat):Int)) 1;rw [e1,e2];exact Heap.get?_push_size _ rfl
 ·have e:b=(s.heap.push { cls:=.type "range",data:=.fields #[.int lo t,.int hi u,.int 1 v] }).objs.size:=by simpa using hb
  subst e;exact I1.fpOk (Nat.le_refl _) (I1.hok.fresh (Nat.le_refl _))
def iRng1 (ta:TA):TI:=λσ H R=>ta σ H λvs H1=>∃ j:Int,vs=[.int j]/\-(2 ^ 62)<=j/\j < 2 ^ 62/\R (Itr 0 j.toNat) H1
def iRng2 (ta:TA):TI:=λσ H R=>ta σ H λvs H1=>∃ i j:Int,vs=[.int i,.int j]/\(-(2 ^ 62)<=i/\i < 2 ^ 62/\-(2 ^ 62)<=j/\j < 2 ^ 62)/\R (Itr i (j - i).toNat) H1
theorem a2h {a:Expr} {ta:TA} {p pos:Pos} (hg:Gl X "range") (hm:X.mg "range"=none) (ha:PA X [a] ta) (hs:starEach [a] X.env=[(false,eval a X.env)]:=by rfl):PI X tg (.Call (.Name "range" p) [a] [] pos) (iRng1 ta):=by
 intro pins s σ H R I h;refine Call_ (a2B I hg hm boot_range (PyProof.Rows.callWith_type1 (thn (ha pos pins s σ H _ I h) λus s1 ⟨vs,H1,I1,r1,q1⟩=>?_) hs rfl));obtain ⟨j,e,q1,q2,q⟩:=q1;subst e;cases r1 with
 | cons r rr =>
  cases rr;obtain ⟨t,rfl⟩:=r;exact call_range_1 (a6i I1 (by omega) (by omega) q1 q2 (by simpa using q))
theorem a1v {a b:Expr} {ta:TA} {p pos:Pos} (hg:Gl X "range") (hm:X.mg "range"=none) (ha:PA X [a,b] ta) (hs:starEach [a,b] X.env=[(false,eval a X.env),(false,eval b X.env)]:=by rfl) (hs2:starEach [b] X.env=[(false,eval b X.env)]:=by rfl) :
  PI X tg (.Call (.Name "range" p) [a,b] [] pos) (iRng2 ta):=by
 intro pins s σ H R I h;refine Call_ (a2B I hg hm boot_range (PyProof.Rows.callWith_type1 (thn (ha pos pins s σ H _ I h) λus s1 ⟨vs,H1,I1,r1,q1⟩=>?_) (by rw [hs,hs2]) (by rw [hs2];rfl)));obtain ⟨i,j,e,⟨q1,q2,q3,q4⟩,q⟩:=q1;subst e;cases r1 with
 | cons r rr =>
  cases rr with
  | cons r' rr =>
   cases rr;obtain ⟨t,rfl⟩:=r;obtain ⟨t',rfl⟩:=r';exact call_range_2 (a6i I1 q1 q2 q3 q4 q)
def tFor (wi:TI) (g:TG) (tb:TS):TS:=λD σ H=>wi σ H λJ H1=>∃ W:Nat->Nat->St->Hp->Prop,(∃ m,W 0 m σ H1)/\∀ i m σ H,W i m σ H ->
 (J.stop i H/\D.nx σ H)\/(J.go i H/\∃ N:St->Hp->Prop,(∀ σ' H',N σ' H'->∃ m',m' < m/\W (i+1) m' σ' H')/\∀ x H',J.yld i H x H'->g x σ H' λσ2 H2=>tb { D with nx:=N,ct:=N,bk:=D.nx } σ2 H2)
def a4O (fp:List Addr) (h:Heap):List (Addr × Obj):=fp.filterMap λb=>(h.get? b).map λo=>(b,o)
theorem a2p {fp:List Addr} {h:Heap} {b:Addr} {o:Obj} (hb:b∈fp) (e:h.get? b=some o):(b,o)∈a4O fp h:=List.mem_filterMap.mpr ⟨b,hb,by rw [e];rfl⟩
theorem a7J {fp:List Addr} {h:Heap} {p:Addr × Obj} (hp:p∈a4O fp h):p.1∈fp/\h.get? p.1=some p.2:=by
 obtain ⟨b,hb,e⟩:=List.mem_filterMap.mp hp;cases q:h.get? b with
 | none=>rw [q] at e;cases e
 | some o =>
  rw [q] at e;have e':(b,o)=p:=Option.some.inj e;subst e';exact ⟨hb,q⟩
theorem Inv.pinned {pins:List (Addr × Obj)} {σ:St} {H:Hp} {s:Shared} {fp:List Addr} (I:Inv X pins σ H s) (hf:∀ b∈fp,b0f X pins H b) (ho:∀ b∈fp,∃ o,s.heap.get? b=some o/\∀ v,o.data≠.cell v):Inv X (pins++a4O fp s.heap) σ H s :=
 I.pins_of λp hp=>(List.mem_append.mp hp).elim (λz=>I.pin p (List.mem_append_right _ z)) λz=>by
  obtain ⟨hb,e⟩:=a7J z;obtain ⟨f0,f1,f2,_⟩:=hf p.1 hb;obtain ⟨o,e',d⟩:=ho p.1 hb;rw [e] at e';cases e';exact ⟨e,f0,f1,f2,d⟩
theorem Inv.unpinned {pins pl:List (Addr × Obj)} {σ:St} {H:Hp} {s:Shared} (I:Inv X (pins++pl) σ H s):Inv X pins σ H s:=I.pins_of λp hp=>I.pin p (List.mem_append_right _ (List.mem_append_left _ hp))
theorem a1n {iter:Expr} {body:List Stmt} {wi:TI} {g:TG} {tb:TS} {pos:Pos} (hp:PassesOwn (model X.prog X.w) X.A X.env X.xe) (hc:X.calm=true) (hi:PI X tg iter wi) (hg:PG X tg g) (hb:PSs X body tb)
  (hs:∀ x,foldedSetIterable iter X.env x=pure x:=by intro _;rfl):PS X (.For tg iter body [] pos) (tFor wi g tb):=by
 intro pins s σ H D I h;refine wpAny_For (thn (hi pins s σ H _ I h) λv s1 h1=>thn h1 λitv s2 h2=>?_) hs;obtain ⟨it,fp,tn,J,H2,e,I2,T,st2,f2,W,⟨m0,w0⟩,turn⟩:=h2;subst e;have stat:∀ {H':Hp},(∀ b∈fp,H' b=none)->∀ b∈fp,b0f X pins H' b:=λhn b hb=>⟨hn b hb,(f2 b hb).2⟩
 refine codeAny_forLoop_any (λn s'=>∃ i σ' H',Inv X pins σ' H' s'/\tn i s'.heap/\(∀ b∈fp,H' b=none)/\W i n σ' H') ?_ m0 ⟨0,σ,H2,I2,st2,λb hb=>(f2 b hb).1,w0⟩;rintro n s3 ⟨i,σ3,H3,I3,st3,fr3,w3⟩;rcases turn i n σ3 H3 w3 with ⟨stop,qn⟩ | ⟨go,N,hN,step⟩
 ·refine wpAny_passesOwn hp (thn (T.done X rfl rfl rfl hc i pins s3 σ3 H3 X.xe I3 (stat fr3) st3 stop) λr s4 ⟨hr,I4⟩=>?_);subst hr;exact wpAny_execs_nil ⟨σ3,H3,I4,qn⟩
 ·refine wpAny_passesOwn hp (thn (T.item X rfl rfl rfl hc i pins s3 σ3 H3 X.xe I3 (stat fr3) st3 go) λr s4 ⟨u,hr,h4⟩=>?_);subst hr;refine wpAny_passesOwn hp (thn h4 λ_ s5 ⟨x,H5,I5,r5,y5,st5,fr5⟩=>?_);have I5':=I5.pinned (stat fr5) (T.obj _ _ st5);refine wpAny_passesOwn hp (thn (hg _ s5 σ3 H5 x u _ I5' r5 (step x H5 y5)) λ_ s6 ⟨σ6,H6,I6,q6⟩=>?_);refine wpAny_passesOwn hp (thn (hb _ s6 σ6 H6 _ I6 q6) λf s7 q7=>?_);have again:∀ {σ7:St} {H7:Hp},Inv X (pins++a4O fp s5.heap) σ7 H7 s7->N σ7 H7->∃ m,m < n/\∃ i σ' H',Inv X pins σ' H' s7/\tn i s7.heap/\(∀ b∈fp,H' b=none)/\W i m σ' H':=λ{σ7 H7} I7 n7=>by
   obtain ⟨m',hm,w7⟩:=hN σ7 H7 n7;refine ⟨m',hm,i+1,σ7,H7,I7.unpinned,T.keep _ _ _ st5 λb hb o e=>(I7.pin (b,o) (List.mem_append_right _ (List.mem_append_right _ (a2p hb e)))).1,λb hb=>?_,w7⟩;obtain ⟨o,e,d⟩:=T.obj _ _ st5 b hb;exact (I7.pin (b,o) (List.mem_append_right _ (List.mem_append_right _ (a2p hb e)))).2.1
  cases f with
  | next=>obtain ⟨σ7,H7,I7,n7⟩:=q7;exact again I7 n7
  | cont=>obtain ⟨σ7,H7,I7,n7⟩:=q7;exact again I7 n7
  | brk=>obtain ⟨σ7,H7,I7,q7⟩:=q7;exact ⟨σ7,H7,I7.unpinned,q7⟩
  | ret v=>obtain ⟨x7,σ7,H7,I7,r7,q7⟩:=q7;exact ⟨x7,σ7,H7,I7.unpinned,r7,q7⟩
end
theorem a3Z {K:PySem.W.Frag} {a:Addr} {xs:List V} {g:TG} {tb:TS} {D:a9Z} {σ:St} {H:Hp} (Pv:Nat->St->Hp->Prop) (h0:Pv 0 σ H) (hl:∀ i σ H,i<=xs.length->Pv i σ H->SqL K H a xs)
  (hs:∀ i x σ H,xs[i]?=some x->Pv i σ H->g x σ H λσ2 H2=>tb { D with nx:=Pv (i+1),ct:=Pv (i+1),bk:=D.nx } σ2 H2) (hd:∀ σ H,Pv xs.length σ H->D.nx σ H) :
  ∃ W:Nat->Nat->St->Hp->Prop,(∃ m,W 0 m σ H)/\∀ i m σ H,W i m σ H ->
   ((Itl K a).stop i H/\D.nx σ H)\/((Itl K a).go i H/\∃ N:St->Hp->Prop,(∀ σ' H',N σ' H'->∃ m',m' < m/\W (i+1) m' σ' H')/\∀ x H',(Itl K a).yld i H x H'->g x σ H' λσ2 H2=>tb { D with nx:=N,ct:=N,bk:=D.nx } σ2 H2):=by
 refine ⟨λi m σ H=>m=xs.length - i/\i<=xs.length/\Pv i σ H,⟨xs.length,by simp,Nat.zero_le _,h0⟩,?_⟩;rintro i m σ H ⟨rfl,hi,p⟩;have q:=hl i σ H hi p;by_cases hlt:i < xs.length
 ·refine .inr ⟨⟨xs,xs[i],q,by simp [hlt]⟩,Pv (i+1),λσ' H' p'=>⟨xs.length - (i+1),by omega,rfl,hlt,p'⟩,λx H' y=>?_⟩;obtain ⟨e,y⟩:=y;subst e;exact hs i x σ _ (y xs q) p
 ·have e:i=xs.length:=by omega
  subst e;exact .inl ⟨⟨xs,q,Nat.le_refl _⟩,hd σ H p⟩
theorem b2K {K:PySem.W.Frag} {a:Addr} {xs:List V} {g:TG} {tb:TS} {D:a9Z} {σ:St} {H:Hp} (Pv:Nat->St->Hp->Prop) (h0:Pv 0 σ H) (hl:∀ i σ H,i<=xs.length->Pv i σ H->SqT K H a xs)
  (hs:∀ i x σ H,xs[i]?=some x->Pv i σ H->g x σ H λσ2 H2=>tb { D with nx:=Pv (i+1),ct:=Pv (i+1),bk:=D.nx } σ2 H2) (hd:∀ σ H,Pv xs.length σ H->D.nx σ H) :
  ∃ W:Nat->Nat->St->Hp->Prop,(∃ m,W 0 m σ H)/\∀ i m σ H,W i m σ H ->
   ((Itt K a).stop i H/\D.nx σ H)\/((Itt K a).go i H/\∃ N:St->Hp->Prop,(∀ σ' H',N σ' H'->∃ m',m' < m/\W (i+1) m' σ' H')/\∀ x H',(Itt K a).yld i H x H'->g x σ H' λσ2 H2=>tb { D with nx:=N,ct:=N,bk:=D.nx } σ2 H2):=by
 refine ⟨λi m σ H=>m=xs.length - i/\i<=xs.length/\Pv i σ H,⟨xs.length,by simp,Nat.zero_le _,h0⟩,?_⟩;rintro i m σ H ⟨rfl,hi,p⟩;have q:=hl i σ H hi p;by_cases hlt:i < xs.length
 ·refine .inr ⟨⟨xs,xs[i],q,by simp [hlt]⟩,Pv (i+1),λσ' H' p'=>⟨xs.length - (i+1),by omega,rfl,hlt,p'⟩,λx H' y=>?_⟩;obtain ⟨e,y⟩:=y;subst e;exact hs i x σ _ (y xs q) p
 ·have e:i=xs.length:=by omega
  subst e;exact .inl ⟨⟨xs,q,Nat.le_refl _⟩,hd σ H p⟩
theorem a1j {lo:Int} {n:Nat} {g:TG} {tb:TS} {D:a9Z} {σ:St} {H:Hp} (Pv:Nat->St->Hp->Prop) (h0:Pv 0 σ H)
  (hs:∀ i σ H,i < n->Pv i σ H->g (.int (lo+i)) σ H λσ2 H2=>tb { D with nx:=Pv (i+1),ct:=Pv (i+1),bk:=D.nx } σ2 H2) (hd:∀ σ H,Pv n σ H->D.nx σ H) :
  ∃ W:Nat->Nat->St->Hp->Prop,(∃ m,W 0 m σ H)/\∀ i m σ H,W i m σ H ->
   ((Itr lo n).stop i H/\D.nx σ H)\/((Itr lo n).go i H/\∃ N:St->Hp->Prop,(∀ σ' H',N σ' H'->∃ m',m' < m/\W (i+1) m' σ' H')/\∀ x H',(Itr lo n).yld i H x H'->g x σ H' λσ2 H2=>tb { D with nx:=N,ct:=N,bk:=D.nx } σ2 H2):=by
 refine ⟨λi m σ H=>m=n - i/\i<=n/\Pv i σ H,⟨n,by simp,Nat.zero_le _,h0⟩,?_⟩;rintro i m σ H ⟨rfl,hi,p⟩;by_cases hlt:i < n
 ·refine .inr ⟨hlt,Pv (i+1),λσ' H' p'=>⟨n - (i+1),by omega,rfl,hlt,p'⟩,λx H' y=>?_⟩;obtain ⟨e,y⟩:=y;subst e y;exact hs i σ _ hlt p
 ·have e:i=n:=by omega
  subst e;exact .inl ⟨Nat.le_refl _,hd σ H p⟩
abbrev R2:=V->V->Hp->VK->Prop
def OpR (X:Cx) (f:Value->Value->Sem Value) (r:R2):Prop :=
 ∀ (pins:List (Addr × Obj)) (s:Shared) (σ:St) (H:Hp) (x y:V) (v u:Value) (Q:VK),Inv X pins σ H s->a0V x v->a0V y u->r x y H Q ->
  wpAny (model X.prog X.w) X.A (f v u) (EP X pins σ Q) X.xe s
def UnR (X:Cx) (f:Value->Sem Value) (r:V->Hp->VK->Prop):Prop :=
 ∀ (pins:List (Addr × Obj)) (s:Shared) (σ:St) (H:Hp) (x:V) (v:Value) (Q:VK),Inv X pins σ H s->a0V x v->r x H Q ->
  wpAny (model X.prog X.w) X.A (f v) (EP X pins σ Q) X.xe s
def a2q (X:Cx) (f:Value) (r:List V->Hp->VK->Prop):Prop :=
 ∀ (pins:List (Addr × Obj)) (s:Shared) (σ:St) (H:Hp) (xs:List V) (us:List Value) (Q:VK),Inv X pins σ H s->a0z xs us->r xs H Q ->
  wpAny (model X.prog X.w) X.A (call f us) (EP X pins σ Q) X.xe s
def TruR (X:Cx) (r:V->Hp->(Bool->Hp->Prop)->Prop):Prop :=
 ∀ (pins:List (Addr × Obj)) (s:Shared) (σ:St) (H:Hp) (x:V) (v:Value) (Q:Bool->Hp->Prop),Inv X pins σ H s->a0V x v->r x H Q ->
  wpAny (model X.prog X.w) X.A (truthy v) (TP X pins σ Q) X.xe s
def tOp (r:R2) (ta tb:TE):TE:=λσ H Q=>ta σ H λx H1=>tb σ H1 λy H2=>r x y H2 Q
def tUn (r:V->Hp->VK->Prop) (ta:TE):TE:=λσ H Q=>ta σ H λx H1=>r x H1 Q
def rI (C:Int->Int->Prop) (g:Int->Int->V):R2:=λx y H Q=>∃ i j,x=.int i/\y=.int j/\C i j/\Q (g i j) H
def rI0 (g:Int->Int->V):R2:=λx y H Q=>∃ i j,x=.int i/\y=.int j/\Q (g i j) H
def rU (g:Int->V):V->Hp->VK->Prop:=λx H Q=>∃ i,x=.int i/\Q (g i) H
section
variable {X:Cx} {a b c:Expr} {ta tb tc:TE} {pos:Pos}
theorem binT (ha:PE X a ta) (hb:PE X b tb) {pins:List (Addr × Obj)} {s:Shared} {σ:St} {H:Hp} {R:V->V->Hp->Prop} (I:Inv X pins σ H s)
  (h:ta σ H λx H1=>tb σ H1 λy H2=>R x y H2) {Q:Value->Shared->Prop} {f:Value->Value->Sem Value}
  (hf:∀ v u s2 x y H2,Inv X pins σ H2 s2->a0V x v->a0V y u->R x y H2->wpAny (model X.prog X.w) X.A (f v u) Q X.xe s2) :
  wpAny (model X.prog X.w) X.A (eval a X.env) (λv s₁=>wpAny (model X.prog X.w) X.A (eval b X.env) (λu s₂=>wpAny (model X.prog X.w) X.A (f v u) Q X.xe s₂) X.xe s₁) X.xe s:=by
 refine thn (ha pins s σ H _ I h) λv s1 ⟨x,H1,I1,r1,q1⟩=>?_;refine thn (hb pins s1 σ H1 _ I1 q1) λu s2 ⟨y,H2,I2,r2,q2⟩=>?_;exact hf v u s2 x y H2 I2 r1 r2 q2
theorem a0l {op:Operator} {r:R2} (ho:OpR X (binaryOp op) r) (ha:PE X a ta) (hb:PE X b tb):PE X (.BinOp a op b pos) (tOp r ta tb):=by
 intro pins s σ H Q I h;exact wpAny_BinOp (binT ha hb I h λv u s2 x y H2 I2 rx ry q=>ho pins s2 σ H2 x y v u Q I2 rx ry q)
theorem a2r {op:UnaryOp} {r:V->Hp->VK->Prop} (ho:UnR X (unaryOp op) r) (ha:PE X a ta):PE X (.UnaryOp op a pos) (tUn r ta):=by
 intro pins s σ H Q I h;exact UnaryOp_ (thn (ha pins s σ H _ I h) λv s1 ⟨x,H1,I1,r1,q1⟩=>ho pins s1 σ H1 x v Q I1 r1 q1)
theorem opI {f:Value->Value->Sem Value} {C:Int->Int->Prop} {g:Int->Int->Int}
  (rule:∀ (i j:Int) (t u:Tok) (s:Shared) (Q:Value->Shared->Prop) (E:Value->Shared->Prop),C i j->Q (.int (g i j) s.toks) { s with toks:=s.toks+1 }->wpAny (model X.prog X.w) X.A (f (.int i t) (.int j u)) Q E s) :
  OpR X f (rI C λi j=>.int (g i j)):=by
 intro pins s σ H x y v u Q I rx ry h;obtain ⟨i,j,rfl,rfl,hc,q⟩:=h;obtain ⟨t,rfl⟩:=rx;obtain ⟨t',rfl⟩:=ry;exact rule i j t t' s _ _ hc ⟨.int (g i j),H,I.tok _,⟨_,rfl⟩,q⟩
theorem opI0 {f:Value->Value->Sem Value} {g:Int->Int->Int}
  (rule:∀ (i j:Int) (t u:Tok) (s:Shared) (Q:Value->Shared->Prop) (E:Value->Shared->Prop),Q (.int (g i j) s.toks) { s with toks:=s.toks+1 }->wpAny (model X.prog X.w) X.A (f (.int i t) (.int j u)) Q E s) :
  OpR X f (rI0 λi j=>.int (g i j)):=by
 intro pins s σ H x y v u Q I rx ry h;obtain ⟨i,j,rfl,rfl,q⟩:=h;obtain ⟨t,rfl⟩:=rx;obtain ⟨t',rfl⟩:=ry;exact rule i j t t' s _ _ ⟨.int (g i j),H,I.tok _,⟨_,rfl⟩,q⟩
theorem opB0 {f:Value->Value->Sem Value} {g:Int->Int->Bool}
  (rule:∀ (i j:Int) (t u:Tok) (s:Shared) (Q:Value->Shared->Prop) (E:Value->Shared->Prop),Q (.bool (g i j)) s->wpAny (model X.prog X.w) X.A (f (.int i t) (.int j u)) Q E s) :
  OpR X f (rI0 λi j=>.bl (g i j)):=by
 intro pins s σ H x y v u Q I rx ry h;obtain ⟨i,j,rfl,rfl,q⟩:=h;obtain ⟨t,rfl⟩:=rx;obtain ⟨t',rfl⟩:=ry;exact rule i j t t' s _ _ ⟨.bl (g i j),H,I,rfl,q⟩
def CDiv (i j:Int):Prop:=0 < j/\j < 1073741824
def CPow (i j:Int):Prop:=0<=j/\j<=1000000/\i.natAbs < 2 ^ 64
def CMul (i j:Int):Prop:=(-(2 ^ 64) < i/\i < 2 ^ 64)\/(-(2 ^ 64) < j/\j < 2 ^ 64)
theorem CMul.ok {i j:Int} (h:CMul i j):IntMulOk i j:=by
 rcases h with ⟨h1,h2⟩ | ⟨h1,h2⟩
 ·exact .of_left (intBits_le_64 h1 h2)
 ·exact .of_right (intBits_le_64 h1 h2)
theorem a0t:OpR X (binaryOp .Add) (rI0 λi j=>.int (i+j)):=opI0 λ_ _ _ _ _ _ _ q=>add_int q
theorem a1k:OpR X (binaryOp .Sub) (rI0 λi j=>.int (i - j)):=opI0 λ_ _ _ _ _ _ _ q=>sub_int q
theorem a7K:OpR X (binaryOp .Mult) (rI CMul λi j=>.int (i * j)):=opI λ_ _ _ _ _ _ _ hc q=>mul_int q hc.ok
theorem a2s:OpR X (binaryOp .FloorDiv) (rI CDiv λi j=>.int (i / j)):=opI λi j _ _ _ _ _ hc q=>by
 have h1:(0:Int) < j:=hc.1;have h2:j < 1073741824:=hc.2;exact floordiv_int (by omega) (by rw [Int.fdiv_eq_ediv_of_nonneg i (by omega)];exact q) (.inl (PyProof.noPylong_small (by omega)))
theorem a1e:OpR X (binaryOp .Mod) (rI (λ_ j=>0 < j) λi j=>.int (i % j)):=opI λi j _ _ _ _ _ hc q=>by
 have h1:(0:Int) < j:=hc;exact mod_int' (by omega) (by rw [Int.fmod_eq_emod_of_nonneg i (by omega)];exact q)
theorem a6j:OpR X (binaryOp .Pow) (rI CPow λi j=>.int (i ^ j.toNat)):=opI λ_ _ _ _ _ _ _ hc q=>pow_int_small hc.1 hc.2.1 hc.2.2 q
theorem unI {f:Value->Sem Value} {g:Int->Int}
  (rule:∀ (i:Int) (t:Tok) (s:Shared) (Q:Value->Shared->Prop) (E:Value->Shared->Prop),Q (.int (g i) s.toks) { s with toks:=s.toks+1 }->wpAny (model X.prog X.w) X.A (f (.int i t)) Q E s) :
  UnR X f (rU λi=>.int (g i)):=by
 intro pins s σ H x v Q I rx h;obtain ⟨i,rfl,q⟩:=h;obtain ⟨t,rfl⟩:=rx;exact rule i t s _ _ ⟨.int (g i),H,I.tok _,⟨_,rfl⟩,q⟩
theorem a1w:UnR X (unaryOp .USub) (rU λi=>.int (-i)):=unI λ_ _ _ _ _ q=>neg_int q
end
def scal:V->V->Bool
 | .non,.non=>true | .non,.int _=>true | .int _,.non=>true | .non,.bl _=>true | .bl _,.non=>true | .non,.str _=>true | .str _,.non=>true
 | .int _,.int _=>true | .bl _,.bl _=>true | .str _,.str _=>true | .byt _,.byt _=>true
 | .int _,.str _=>true | .str _,.int _=>true | .bl _,.str _=>true | .str _,.bl _=>true
 | _,_=>false
def rEq:R2:=λx y H Q=>scal x y=true/\Q (.bl (decide (x=y))) H
def rNe:R2:=λx y H Q=>scal x y=true/\Q (.bl (!decide (x=y))) H
theorem a7L {i j:Int}:decide (V.int i=V.int j)=(i == j):=by
 rw [Bool.eq_iff_iff];simp
theorem b1K {i j:Bool}:decide (V.bl i=V.bl j)=(i == j):=by
 rw [Bool.eq_iff_iff];simp
theorem a7M {i j:Str}:decide (V.str i=V.str j)=(i == j):=by
 rw [Bool.eq_iff_iff];simp
theorem a7N {i j:Array UInt8}:decide (V.byt i=V.byt j)=(i.toList == j.toList):=by
 rw [Bool.eq_iff_iff];cases i;cases j;simp
section
variable {X:Cx} {a b c:Expr} {ta tb tc:TE} {pos:Pos}
theorem a0C {pins:List (Addr × Obj)} {σ:St} {H:Hp} {s:Shared} {Q:VK} {k k':Bool} (I:Inv X pins σ H s) (q:Q (.bl k) H) (e:k=k'):EP X pins σ Q (.bool k') s:=by
 subst e;exact ⟨.bl k,H,I,rfl,q⟩
theorem a1J:OpR X (compareOp .Eq) rEq:=by
 intro pins s σ H x y v u Q I rx ry h;obtain ⟨hs,q⟩:=h;cases x with
 | non =>
  cases rx;cases y with
  | non=>cases ry;exact PySem.EqNone.eq_none_none (a0C I q (by simp))
  | bl j=>cases ry;exact PySem.EqNone.eq_none_bool (a0C I q (by simp))
  | int j=>obtain ⟨t',rfl⟩:=ry;exact PySem.EqNone.eq_none_int (a0C I q (by simp))
  | str j=>obtain ⟨t',rfl⟩:=ry;exact PySem.EqNone.eq_none_str (a0C I q (by simp))
  | _=>exact absurd (show false=true from hs) Bool.false_ne_true
 | bl i =>
  cases rx;cases y with
  | non=>cases ry;exact PySem.EqNone.eq_bool_none (a0C I q (by simp))
  | bl j=>cases ry;exact eq_bool (a0C I q b1K)
  | str j=>obtain ⟨t',rfl⟩:=ry;exact PySem.EqMixed.eq_bool_str (a0C I q (by simp))
  | _=>exact absurd (show false=true from hs) Bool.false_ne_true
 | int i =>
  obtain ⟨t,rfl⟩:=rx;cases y with
  | non=>cases ry;exact PySem.EqNone.eq_int_none (a0C I q (by simp))
  | int j=>obtain ⟨t',rfl⟩:=ry;exact eq_int (a0C I q a7L)
  | str j=>obtain ⟨t',rfl⟩:=ry;exact PySem.EqMixed.eq_int_str (a0C I q (by simp))
  | _=>exact absurd (show false=true from hs) Bool.false_ne_true
 | str i =>
  obtain ⟨t,rfl⟩:=rx;cases y with
  | non=>cases ry;exact PySem.EqNone.eq_str_none (a0C I q (by simp))
  | bl j=>cases ry;exact PySem.EqMixed.eq_str_bool (a0C I q (by simp))
  | int j=>obtain ⟨t',rfl⟩:=ry;exact PySem.EqMixed.eq_str_int (a0C I q (by simp))
  | str j=>obtain ⟨t',rfl⟩:=ry;exact eq_str (a0C I q a7M)
  | _=>exact absurd (show false=true from hs) Bool.false_ne_true
 | byt i =>
  obtain ⟨t,rfl⟩:=rx;cases y with
  | byt j=>obtain ⟨t',rfl⟩:=ry;exact PySem.W.eq_bytes (a0C I q a7N)
  | _=>exact absurd (show false=true from hs) Bool.false_ne_true
 | _=>cases y <;> exact absurd (show false=true from hs) Bool.false_ne_true
theorem b0h:OpR X (compareOp .NotEq) rNe:=by
 intro pins s σ H x y v u Q I rx ry h;obtain ⟨hs,q⟩:=h;cases x with
 | non =>
  cases rx;cases y with
  | non=>cases ry;exact PySem.EqNone.ne_none_none (a0C I q (by simp))
  | bl j=>cases ry;exact PySem.EqNone.ne_none_bool (a0C I q (by simp))
  | int j=>obtain ⟨t',rfl⟩:=ry;exact PySem.EqNone.ne_none_int (a0C I q (by simp))
  | str j=>obtain ⟨t',rfl⟩:=ry;exact PySem.EqNone.ne_none_str (a0C I q (by simp))
  | _=>exact absurd (show false=true from hs) Bool.false_ne_true
 | bl i =>
  cases rx;cases y with
  | non=>cases ry;exact PySem.EqNone.ne_bool_none (a0C I q (by simp))
  | bl j=>cases ry;exact ne_bool (a0C I q (congrArg not b1K))
  | str j=>obtain ⟨t',rfl⟩:=ry;exact PySem.EqMixed.ne_bool_str (a0C I q (by simp))
  | _=>exact absurd (show false=true from hs) Bool.false_ne_true
 | int i =>
  obtain ⟨t,rfl⟩:=rx;cases y with
  | non=>cases ry;exact PySem.EqNone.ne_int_none (a0C I q (by simp))
  | int j=>obtain ⟨t',rfl⟩:=ry;exact ne_int (a0C I q (congrArg not a7L))
  | str j=>obtain ⟨t',rfl⟩:=ry;exact PySem.EqMixed.ne_int_str (a0C I q (by simp))
  | _=>exact absurd (show false=true from hs) Bool.false_ne_true
 | str i =>
  obtain ⟨t,rfl⟩:=rx;cases y with
  | non=>cases ry;exact PySem.EqNone.ne_str_none (a0C I q (by simp))
  | bl j=>cases ry;exact PySem.EqMixed.ne_str_bool (a0C I q (by simp))
  | int j=>obtain ⟨t',rfl⟩:=ry;exact PySem.EqMixed.ne_str_int (a0C I q (by simp))
  | str j=>obtain ⟨t',rfl⟩:=ry;exact ne_str (a0C I q (congrArg not a7M))
  | _=>exact absurd (show false=true from hs) Bool.false_ne_true
 | byt i =>
  obtain ⟨t,rfl⟩:=rx;cases y with
  | byt j=>obtain ⟨t',rfl⟩:=ry;exact PySem.W.ne_bytes (a0C I q (congrArg not a7N))
  | _=>exact absurd (show false=true from hs) Bool.false_ne_true
 | _=>cases y <;> exact absurd (show false=true from hs) Bool.false_ne_true
theorem a3s:OpR X (compareOp .Lt) (rI0 λi j=>.bl (decide (i < j))):=opB0 λ_ _ _ _ _ _ _ q=>lt_int q
theorem b2L:OpR X (compareOp .LtE) (rI0 λi j=>.bl (decide (i<=j))):=opB0 λ_ _ _ _ _ _ _ q=>le_int q
theorem a7O:OpR X (compareOp .Gt) (rI0 λi j=>.bl (decide (j < i))):=opB0 λ_ _ _ _ _ _ _ q=>gt_int q
theorem op_ge:OpR X (compareOp .GtE) (rI0 λi j=>.bl (decide (j<=i))):=opB0 λ_ _ _ _ _ _ _ q=>ge_int q
theorem b2M:OpR X (compareOp .IsNot) (λx y H Q=>y=.non/\Q (.bl (!decide (x=.non))) H):=by
 intro pins s σ H x y v u Q I rx ry h;obtain ⟨rfl,q⟩:=h;cases ry;refine isnot_none_gen (a0C I q ?_);cases x <;> first
  | (cases rx;rfl)
  | (obtain ⟨t,rfl⟩:=rx;rfl)
def isObj:HO->Bool
 | .lst _=>true
 | .ins _ _ _=>true
 | _=>false
theorem nomark (b:Expr) {op:CmpOp} (h:op≠.In:=by decide) (h2:op≠.NotIn:=by decide):behindInMarks op b=false:=by
 have e1:(op == CmpOp.In)=false:=by cases op <;> first | rfl | exact absurd rfl h
 have e2:(op == CmpOp.NotIn)=false:=by cases op <;> first | rfl | exact absurd rfl h2
 cases b <;> simp [behindInMarks,e1,e2]
theorem a2t {op:CmpOp} {r:R2} (ho:OpR X (compareOp op) r) (ha:PE X a ta) (hb:PE X b tb) (hm:behindInMarks op b=false):PE X (.Compare a [op] [b] pos) (tOp r ta tb):=by
 intro pins s σ H Q I h;exact wpAny_Compare1 (binT ha hb I h λv u s2 x y H2 I2 rx ry q=>ho pins s2 σ H2 x y v u Q I2 rx ry q) hm
def tTest (t:TE):TT:=λσ H Q=>t σ H λx H'=>∃ k,x=.bl k/\Q k H'
theorem a0r {op:CmpOp} {r:R2} (ho:OpR X (compareOp op) r) (ha:PE X a ta) (hb:PE X b tb) (hm:behindInMarks op b=false):PT X (.Compare a [op] [b] pos) (tTest (tOp r ta tb)):=by
 intro pins s σ H Q I h;refine wpAny_isTrue_Compare1 (thn (ha pins s σ H _ I h) λv s1 ⟨x,H1,I1,r1,q1⟩=>thn (hb pins s1 σ H1 _ I1 q1) λu s2 ⟨y,H2,I2,r2,q2⟩ =>
  thn (ho pins s2 σ H2 x y v u _ I2 r1 r2 q2) λc s3 ⟨z,H3,I3,r3,k,e,q3⟩=>?_) hm
 subst e;cases r3;exact wpAny_truthy_bool ⟨H3,I3,q3⟩
def b1L (r r':R2) (ta tb tc:TE):TE:=λσ H Q=>ta σ H λx H1=>tb σ H1 λy H2=>r x y H2 λz H3=>∃ k,z=.bl k /\
 (if k=true then tc σ H3 λw' H4=>r' y w' H4 Q else Q (.bl false) H3)
theorem b0i {op op':CmpOp} {r r':R2} (ho:OpR X (compareOp op) r) (ho':OpR X (compareOp op') r') (ha:PE X a ta) (hb:PE X b tb) (hc:PE X c tc)
  (hm:lastMarks [op,op'] [b,c]=false:=by with_unfolding_all rfl):PE X (.Compare a [op,op'] [b,c] pos) (b1L r r' ta tb tc):=by
 intro pins s σ H Q I h;refine Compare_chain (thn (ha pins s σ H _ I h) λv s1 ⟨x,H1,I1,r1,q1⟩=>chain_link (thn (hb pins s1 σ H1 _ I1 q1) λu s2 ⟨y,H2,I2,r2,q2⟩ =>
  thn (ho pins s2 σ H2 x y v u _ I2 r1 r2 q2) λd s3 ⟨z,H3,I3,r3,k,e,q3⟩=>?_)) hm
 subst e;cases r3;refine wpAny_truthy_bool ?_;cases k with
 | false=>exact ite_ff ⟨.bl false,H3,I3,rfl,q3⟩
 | true=>exact ite_tt (chain_last (thn (hc pins s3 σ H3 _ I3 q3) λw' s4 ⟨z',H4,I4,r4,q4⟩=>ho' pins s4 σ H4 y z' u w' Q I4 r2 r4 q4))
theorem a6k {op op':CmpOp} {r r':R2} (ho:OpR X (compareOp op) r) (ho':OpR X (compareOp op') r') (ha:PE X a ta) (hb:PE X b tb) (hc:PE X c tc)
  (hm:lastMarks [op,op'] [b,c]=false:=by with_unfolding_all rfl):PT X (.Compare a [op,op'] [b,c] pos) (tTest (b1L r r' ta tb tc)):=by
 intro pins s σ H Q I h;refine isTrue_chain (thn (ha pins s σ H _ I h) λv s1 ⟨x,H1,I1,r1,q1⟩=>test_link (thn (hb pins s1 σ H1 _ I1 q1) λu s2 ⟨y,H2,I2,r2,q2⟩ =>
  thn (ho pins s2 σ H2 x y v u _ I2 r1 r2 q2) λd s3 ⟨z,H3,I3,r3,k,e,q3⟩=>?_)) hm
 subst e;cases r3;refine wpAny_truthy_bool ?_;cases k with
 | false =>
  obtain ⟨k',e',q'⟩:=q3;cases e';exact ite_ff ⟨H3,I3,q'⟩
 | true =>
  refine ite_tt (test_last (thn (hc pins s3 σ H3 _ I3 q3) λw' s4 ⟨z',H4,I4,r4,q4⟩=>thn (ho' pins s4 σ H4 y z' u w' _ I4 r2 r4 q4) λd' s5 ⟨z2,H5,I5,r5,k2,e2,q5⟩=>?_));subst e2;cases r5;exact wpAny_truthy_bool ⟨H5,I5,q5⟩
def TruV (K:PySem.W.Frag) (x:V) (H:Hp) (k:Bool):Prop :=
 match x with
 | .non=>k=false
 | .bl b=>k=b
 | .int i=>k=(i != 0)
 | .str y=>y.length<=sizeLine/\k=((y.length:Int) != 0)
 | .byt y=>y.size<=sizeLine/\k=((y.size:Int) != 0)
 | .ref p=>(∃ xs,SqL K H p xs/\k=!xs.isEmpty)\/(∃ xs,SqT K H p xs/\k=!xs.isEmpty)\/∃ kvs,H p=some (.dK kvs)/\k=!kvs.isEmpty
 | _=>False
theorem a6l:(sizeLine:Nat) < 2 ^ 63:=by rw [sizeLine_eq];decide
theorem a3t {x:V} {us:List Value} (r:a0z [x] us):∃ u,us=[u]/\a0V x u:=by
 cases r with
 | cons r1 r2=>cases r2;exact ⟨_,rfl,r1⟩
theorem vals2 {x y:V} {us:List Value} (r:a0z [x,y] us):∃ u w',us=[u,w']/\a0V x u/\a0V y w':=by
 cases r with
 | cons r1 r2 =>
  cases r2 with
  | cons r3 r4=>cases r4;exact ⟨_,_,rfl,r1,r3⟩
theorem a4P (hc:X.calm=true):a2q X (.builtin "max") (λxs H Q=>∃ i j,xs=[.int i,.int j]/\Q (.int (if j > i then j else i)) H):=by
 intro pins s σ H xs us Q I r h;obtain ⟨i,j,rfl,q⟩:=h;obtain ⟨u,w',rfl,⟨t,rfl⟩,⟨t',rfl⟩⟩:=vals2 r;refine max_two_ints (I.ok.hd hc) λh' tk k=>⟨_,H,I.kept k,?_,q⟩
 by_cases hj:j > i
 ·rw [if_pos hj,if_pos hj];exact ⟨_,rfl⟩
 ·rw [if_neg hj,if_neg hj];exact ⟨_,rfl⟩
theorem a7P (hc:X.calm=true):a2q X (.builtin "min") (λxs H Q=>∃ i j,xs=[.int i,.int j]/\Q (.int (if j < i then j else i)) H):=by
 intro pins s σ H xs us Q I r h;obtain ⟨i,j,rfl,q⟩:=h;obtain ⟨u,w',rfl,⟨t,rfl⟩,⟨t',rfl⟩⟩:=vals2 r;refine min_two_ints (I.ok.hd hc) λh' tk k=>⟨_,H,I.kept k,?_,q⟩
 by_cases hj:j < i
 ·rw [if_pos hj,if_pos hj];exact ⟨_,rfl⟩
 ·rw [if_neg hj,if_neg hj];exact ⟨_,rfl⟩
def LenV (K:PySem.W.Frag) (x:V) (H:Hp) (n:Nat):Prop :=
 match x with
 | .str y=>y.length<=sizeLine/\n=y.length
 | .byt y=>y.size<=sizeLine/\n=y.size
 | .ref p=>(∃ xs,SqL K H p xs/\n=xs.length)\/∃ xs,SqT K H p xs/\n=xs.length
 | _=>False
end
structure b2N (h:Heap) (x dx C:Addr) (mA:Str->Option Value):Prop where
 obj:h.get? x=some (PySem.W.instObj C dx)
 ns:h.Ns1 dx mA
 ne:dx≠x
theorem a7Q {h:Heap} {dx:Addr} {mA:Str->Option Value} (n:h.Ns1 dx mA):∃ od,h.get? dx=some od/\∀ name,PySem.W.lookIn name od=some (mA name):=by
 obtain ⟨o,es,ep,ho,hd,hk,_,hm⟩:=n;refine ⟨o,ho,λname=>?_⟩;have e:=hm name;unfold nsFind findBy at e;rw [<-Array.find?_toList] at e;unfold PySem.W.lookIn;rw [hd];dsimp only;split
 ·rename_i y q;rw [q] at e;exact congrArg some e
 ·rename_i q;rw [q] at e;have a:es.toList.any (·.refKey)=false:=by
   rw [List.any_eq_false];intro y hy;obtain ⟨z,t,hkey⟩:=hk y (Array.mem_toList_iff.mp hy);simp [DictEntry.refKey,hkey]
  have a':¬ es.toList.any (·.refKey)=true:=by rw [a];exact Bool.false_ne_true
  rw [if_neg a'];exact congrArg some e
theorem b2N.look {h:Heap} {x dx C:Addr} {mA:Str->Option Value} (I:b2N h x dx C mA):∃ od,PySem.W.InstAt h x (PySem.W.instObj C dx) C (some od)/\∀ name,PySem.W.lookIn name od=some (mA name) :=
 let ⟨od,ho,hl⟩:=a7Q I.ns
 ⟨od,⟨I.obj,rfl,rfl,ho⟩,hl⟩
section
variable {prog:Program} {w:World} {A:Around} {E:Value->Shared->Prop} {s:Shared} {K:PySem.W.Frag} {x dx C f:Addr} {mA:Str->Option Value} {name:Str} {v:Value}
theorem b2O {expr:Bool} {Q:Value->Shared->Prop} (X:K.In s.heap) (I:b2N s.heap x dx C mA) (hg:PySem.W.plainGet K C name=true) (hh:PySem.W.hasDictIn K C=true)
  (ha:PySem.W.findIn K (.ref C) name=some none) (hv:mA name=some v) (hv':PySem.W.handedIn v=true) (h:Q v { s with toks:=s.toks+1 }) :
  wpAny (model prog w) A (getAttr (.ref x) name expr) Q E s:=by
 obtain ⟨od,J,hl⟩:=I.look;exact PySem.W.get_value X J (PySem.W.plainGet_of hg).1 (PySem.W.findObj_own hh ha rfl (by rw [hl,hv])) hv' h
theorem b0j {pl:Sem Bool} {Q:Value × List Value->Shared->Prop} (X:K.In s.heap) (I:b2N s.heap x dx C mA) (hg:PySem.W.plainGet K C name=true)
  (hf:PySem.W.findIn K (.ref C) name=some (some (.ref f))) (ht:PySem.W.isFn K (.ref f)=true) (hv:mA name=none) (h:Q (.ref f,[.ref x]) s) :
  wpAny (model prog w) A (getMethod (.ref x) name pl) Q E s:=by
 obtain ⟨od,J,hl⟩:=I.look;exact PySem.W.method_fn X J (PySem.W.plainGet_of hg).1 (PySem.W.plainGet_of hg).2 hf (beq_iff_eq.mp ht) (by show (PySem.W.lookIn name od).map (·.isSome)=some false;rw [hl,hv];rfl) h
theorem b2P {ns:List Str} {Q:Unit->Shared->Prop} (X:K.In s.heap) (I:b2N s.heap x dx C mA)
  (hs:PySem.W.findIn K (.ref C) "__setattr__"=some (some (.builtin "object.__setattr__"))) (hp:PySem.W.plainOver K C=true) (ht:PySem.W.takerIn K C name=some none) (hh:PySem.W.hasDictIn K C=true)
  (hw:PySem.Within mA ns) (hsz:ns.length<=sizeLine)
  (h:∀ h',b2N h' x dx C (λy=>if y=name then some v else mA y)->Heap.SameBut dx s.heap h'->Q () { s with heap:=h',toks:=s.toks+2 }) :
  wpAny (model prog w) A (setAttr (.ref x) name v) Q E s:=by
 obtain ⟨od,J,hl⟩:=I.look;refine PySem.W.set_plain X J hs (PySem.W.osa_open (s:={ s with toks:=s.toks+1 }) (r:=none) X J hp ht λb=>?_);obtain ⟨cd,hc,hd'⟩:=PySem.W.any_some hh;have hx:s.heap.get? x=some ⟨.ref C,some dx,.plain,#[]⟩:=I.obj;refine wpAny_bind (wpAny_pure (wpAny_bind (wpAny_bind (wpAny_loadPart hx (wpAny_bind (PySem.W.Looks.here (s:={ s with toks:=s.toks+1 }) (PySem.W.looks_clsIn X hc) ?_))))));rw [hd'];refine wpAny_pure (a:=some dx) (wpAny_bind (wpAny_pure (wpAny_bind ?_)));refine wpAny_nsSet1 (s:={ s with toks:=s.toks+1 }) I.ns λh' hn2 hs2=>?_;obtain ⟨oD,esD,epD,hoD,hdD,hcD⟩:=hn2.count (PySem.Within.cons name v hw);refine wpAny_bind (wpAny_lookBehind hoD (by rw [hdD];exact pastItsLine_dict (Nat.le_trans hcD (by rw [List.length_cons];omega))) ?_);exact wpAny_pure (h _ ⟨(hs2.2 _ (Ne.symm I.ne)).trans I.obj,hn2,I.ne⟩ hs2)
theorem b0k {R:Result->Shared->Prop} {vs:List Value} {kw:List (Str × Value)} (X:K.In s.heap) (hm:PySem.W.makesIn K C=true)
  (hi:PySem.W.findIn K (.ref C) "__init__"=some (some (.ref f))) (hf:PySem.W.typeIn K (.ref f)=some (.type "function"))
  (h:codeAny (model prog w) (A.under (.builtin "type.__call__" ⟨.ref C :: vs,kw⟩)) (.call (.ref f) ⟨.ref (s.heap.objs.size+1) :: vs,kw⟩) (PySem.W.InitBack (s.heap.objs.size+1) R)
   { s with heap:=(s.heap.push PySem.W.emptyDict).push (PySem.W.instObj C s.heap.objs.size) }) :
  codeAny (model prog w) A (.call (.ref C) ⟨vs,kw⟩) R s:=by
 obtain ⟨hh,g,d,t,os⟩:=s;exact PySem.W.make_core (PySem.W.makes_of X hm) (PySem.W.looks_findIn X hi) (λself=>PySem.W.bind_fn X self hf) (.inl rfl) h
end
def a2D (f:Str) (v:V):List (Str × V)->List (Str × V)
 | []=>[(f,v)]
 | (g,x) :: r=>if g=f then (g,v) :: r else (g,x) :: a2D f v r
theorem a2T (f g:Str) (v:V):∀ fs:List (Str × V),(a2D f v fs).lookup g=if g=f then some v else fs.lookup g
 | []=>by
  show List.lookup g [(f,v)]=_;by_cases h:g=f
  ·have hb:(g == f)=true:=beq_iff_eq.mpr h;simp only [List.lookup,hb,if_pos h]
  ·have hb:(g == f)=false:=beq_eq_false_iff_ne.mpr h;simp only [List.lookup,hb,if_neg h]
 | (k,x) :: r=>by
  have ih:=a2T f g v r;rw [show a2D f v ((k,x) :: r)=(if k=f then (k,v) :: r else (k,x) :: a2D f v r) from rfl];by_cases hk:k=f
  ·rw [if_pos hk];by_cases h:g=k
   ·have hb:(g == k)=true:=beq_iff_eq.mpr h;simp only [List.lookup,hb,if_pos (h.trans hk)]
   ·have hb:(g == k)=false:=beq_eq_false_iff_ne.mpr h;simp only [List.lookup,hb,if_neg (λe:g=f=>h (e.trans hk.symm))]
  ·rw [if_neg hk];by_cases h:g=k
   ·have hb:(g == k)=true:=beq_iff_eq.mpr h;simp only [List.lookup,hb,if_neg (λe:g=f=>hk (h.symm.trans e))]
   ·have hb:(g == k)=false:=beq_eq_false_iff_ne.mpr h;simp only [List.lookup,hb];exact ih
theorem a2U (f:Str) (v:V):∀ fs:List (Str × V),f∈(a2D f v fs).map (·.1)/\∀ g,g∈fs.map (·.1)->g∈(a2D f v fs).map (·.1)
 | []=>⟨by simp [a2D],λg h=>by simp at h⟩
 | (k,x) :: r=>by
  obtain ⟨i1,i2⟩:=a2U f v r;rw [show a2D f v ((k,x) :: r)=(if k=f then (k,v) :: r else (k,x) :: a2D f v r) from rfl];by_cases hk:k=f
  ·rw [if_pos hk];subst hk;exact ⟨by simp,λg h=>by simpa using h⟩
  ·rw [if_neg hk];refine ⟨?_,λg h=>?_⟩
   ·rw [List.map_cons];exact List.mem_cons_of_mem _ i1
   ·rw [List.map_cons] at h ⊢;rcases List.mem_cons.mp h with e | e
    ·exact List.mem_cons.mpr (.inl e)
    ·exact List.mem_cons_of_mem _ (i2 g e)
theorem a2V (f:Str) (v:V):∀ fs:List (Str × V),(a2D f v fs).length<=fs.length+1
 | []=>by simp [a2D]
 | (k,x) :: r=>by
  have ih:=a2V f v r;rw [show a2D f v ((k,x) :: r)=(if k=f then (k,v) :: r else (k,x) :: a2D f v r) from rfl];by_cases hk:k=f
  ·rw [if_pos hk,List.length_cons,List.length_cons];omega
  ·rw [if_neg hk,List.length_cons,List.length_cons];omega
theorem a9X.some_of {v:V} {o:Option Value} (r:a9X (some v) o):∃ u,o=some u/\a0V v u:=by
 cases o with
 | none=>exact (show False from r).elim
 | some u=>exact ⟨u,rfl,r⟩
theorem a9X.none_of {o:Option Value} (r:a9X none o):o=none:=by
 cases o with
 | none=>rfl
 | some u=>exact (show False from r).elim
theorem a7R {v:V} {u:Value} (r:a0V v u):PySem.W.handedIn u=true:=by
 cases v with
 | non=>cases (show u=Value.none from r);rfl
 | bl b=>cases (show u=Value.bool b from r);rfl
 | int i=>obtain ⟨t,e⟩:=(show ∃ t,u=Value.int i t from r);cases e;rfl
 | str x=>obtain ⟨t,e⟩:=(show ∃ t,u=Value.str x t from r);cases e;rfl
 | byt b=>obtain ⟨t,e⟩:=(show ∃ t,u=Value.bytes b t from r);cases e;rfl
 | flt b=>obtain ⟨t,e⟩:=(show ∃ t,u=Value.float b t from r);cases e;rfl
 | ref a=>cases (show u=Value.ref a from r);rfl
 | ty n=>cases (show u=Value.type n from r);rfl
section
variable {P:Program} {w:World} {H H':Hp} {h h':Heap} {a C dx:Addr} {fs fs':List (Str × V)}
theorem a4a (hok:HOk P w H h) (e:H a=some (.ins C dx fs)):∃ mA,b2N h a dx C mA/\(∀ f,a9X (fs.lookup f) (mA f))/\PySem.Within mA (fs.map (·.1))/\fs.length<=1000/\H dx=some (.own a):=by
 obtain ⟨d,z,ne,ob,mA,n,r,q⟩:=(show a0R P w H h a (.ins C dx fs) from hok a _ e)
 exact ⟨mA,⟨ob,n,ne⟩,r,q,z,d⟩
end
structure Cls (K:PySem.W.Frag) (C:Addr):Prop where
 pg:PySem.W.plainGet K C Str.empty=true
 hd:PySem.W.hasDictIn K C=true
 po:PySem.W.plainOver K C=true
 sa:PySem.W.findIn K (.ref C) "__setattr__"=some (some (.builtin "object.__setattr__"))
theorem Cls.get {K:PySem.W.Frag} {C:Addr} (c:Cls K C) (f:Str):PySem.W.plainGet K C f=true:=c.pg
def a1o (K:PySem.W.Frag) (C:Addr) (f:Str):Prop:=PySem.W.findIn K (.ref C) f=some none
theorem a1o.taker {K:PySem.W.Frag} {C:Addr} {f:Str} (n:a1o K C f):PySem.W.takerIn K C f=some none:=by
 unfold PySem.W.takerIn;rw [show PySem.W.findIn K (.ref C) f=some none from n];rfl
structure Con (K:PySem.W.Frag) (C:Addr) (f:Str) (v:V) (u:Value):Prop where
 at_:PySem.W.findIn K (.ref C) f=some (some u)
 rel:a0V v u
 get:PySem.W.specialIn K u "__get__"=some none
 cp:PySem.W.copiedNames.contains f=false
structure Meth (K:PySem.W.Frag) (C:Addr) (m:Str) (f:Addr):Prop where
 at_:PySem.W.findIn K (.ref C) m=some (some (.ref f))
 fn:PySem.W.isFn K (.ref f)=true
 kp:PySem.W.keepIn K (.ref f)=true
section
variable {X:Cx} {pins:List (Addr × Obj)} {σ:St} {H:Hp} {s:Shared} {a C dx:Addr} {fs:List (Str × V)} {f:Str} {v:V} {A:Around} {E:Value->Shared->Prop}
theorem a7f {b:Bool} {Q:Value->Shared->Prop} (I:Inv X pins σ H s) (e:H a=some (.ins C dx fs)) (c:Cls X.K C) (n:a1o X.K C f) (l:fs.lookup f=some v)
  (h:∀ u s',Inv X pins σ H s'->a0V v u->Q u s'):wpAny (model X.prog X.w) A (getAttr (.ref a) f b) Q E s:=by
 obtain ⟨mA,O,r,_,_,_⟩:=a4a I.hok e;obtain ⟨u,hu,ru⟩:=a9X.some_of (v:=v) (o:=mA f) (by rw [<-l];exact r f);exact b2O I.kIn O (c.get f) c.hd n hu (a7R ru) (h u _ (I.tok _) ru)
theorem a3C {m:Str} {g:Addr} {pl:Sem Bool} {Q:Value × List Value->Shared->Prop} (I:Inv X pins σ H s) (e:H a=some (.ins C dx fs)) (c:Cls X.K C) (k:Meth X.K C m g) (l:fs.lookup m=none)
  (h:Q (.ref g,[.ref a]) s):wpAny (model X.prog X.w) A (getMethod (.ref a) m pl) Q E s:=by
 obtain ⟨mA,O,r,_,_,_⟩:=a4a I.hok e;have hn:mA m=none:=a9X.none_of (by rw [<-l];exact r m);exact b0j I.kIn O (c.get m) k.at_ k.fn hn h
theorem a7g {y:V} {u:Value} {Q:Unit->Shared->Prop} (I:Inv X pins σ H s) (e:H a=some (.ins C dx fs)) (c:Cls X.K C) (n:a1o X.K C f) (hl:fs.length < 1000) (ry:a0V y u)
  (h:∀ s',Inv X pins σ (upd H a (.ins C dx (a2D f y fs))) s'->Q () s'):wpAny (model X.prog X.w) A (setAttr (.ref a) f u) Q E s:=by
 obtain ⟨mA,O,r,wi,_,ho⟩:=a4a I.hok e;have hz:(fs.map (·.1)).length<=sizeLine:=by rw [List.length_map,sizeLine_eq];omega
 refine b2P I.kIn O c.sa c.po n.taker c.hd wi hz λh' O' sb=>h _ ?_;have hd:∃ o,h'.get? dx=some o:=let ⟨o,_,_,e',_⟩:=O'.ns;⟨o,e'⟩
 refine I.write (x:=a) (e:=dx) (by rw [e];exact True.intro) (.inr ho) (λb q hb z=>(sb.2 b hb).trans z) hd ?_;refine ⟨by rw [a0i O.ne];exact ho,?_,O.ne,O'.obj,_,O'.ns,λg=>?_,λg hg=>?_⟩
 ·have:=a2V f y fs;omega
 ·show a9X ((a2D f y fs).lookup g) (if g=f then some u else mA g);rw [a2T];by_cases q:g=f
  ·rw [if_pos q,if_pos q];exact ry
  ·rw [if_neg q,if_neg q];exact r g
 ·by_cases q:g=f
  ·rw [q];exact (a2U f y fs).1
  ·refine (a2U f y fs).2 g (wi g λz=>hg ?_);show (if g=f then some u else mA g)=none;rw [if_neg q];exact z
theorem Inv.made (I:Inv X pins σ H s):Inv X pins σ (upd (upd H s.heap.objs.size (.own (s.heap.objs.size+1))) (s.heap.objs.size+1) (.ins C s.heap.objs.size []))
  { s with heap:=(s.heap.push PySem.W.emptyDict).push (PySem.W.instObj C s.heap.objs.size) }:=by
 have e1:(s.heap.push PySem.W.emptyDict).get? s.heap.objs.size=some PySem.W.emptyDict:=Heap.get?_push_size s.heap rfl;have e2:((s.heap.push PySem.W.emptyDict).push (PySem.W.instObj C s.heap.objs.size)).get? (s.heap.objs.size+1)=some (PySem.W.instObj C s.heap.objs.size):=by
  have:=Heap.get?_push_size (s.heap.push PySem.W.emptyDict) (o:=PySem.W.instObj C s.heap.objs.size) rfl
  rwa [Heap.size_push] at this
 have e3:(s.heap.push PySem.W.emptyDict).Ns s.heap.objs.size (λ_=>none):=⟨PySem.W.emptyDict,#[],_,e1,rfl,(λe he=>absurd he (by simp)),λ_=>rfl⟩
 have I1:=I.laid (a:=s.heap.objs.size) (o:=.own (s.heap.objs.size+1)) (h':=s.heap.push PySem.W.emptyDict) (t':=s.toks) (λb u q=>Heap.get?_push_of_some _ q) (Nat.le_refl _) ⟨_,e1⟩;refine I1.laid (a:=s.heap.objs.size+1) (o:=.ins C s.heap.objs.size []) (t':=s.toks) (λb u q=>Heap.get?_push_of_some _ q) (Nat.le_of_eq (Heap.size_push _ _)) ?_;have ne:s.heap.objs.size≠s.heap.objs.size+1:=Nat.ne_of_lt (Nat.lt_succ_self _);refine ⟨by rw [a0i ne,a0b],Nat.zero_le _,ne,e2,λ_=>none,(Heap.Ns1.of_empty e3).at λo q=>Heap.get?_push_of_some _ q,λ_=>True.intro,λy hy=>absurd rfl hy⟩
theorem b2Q {prog:Program} {w:World} {env:Env} {e:Expr} {f:Str} {pos:Pos} {s:Shared} {Q:Value->Shared->Prop} (hb:attributeBase e f env (eval e env)=eval e env)
  (h:wpAny (model prog w) A (eval e env) (λo s₁=>wpAny (model prog w) A (getAttr o f true) Q E s₁) E s):wpAny (model prog w) A (eval (.Attribute e f pos) env) Q E s :=
 Attribute_any_ h (by rw [arm_eval_Attribute,hb])
end
def tFld (K:PySem.W.Frag) (ta:TE) (f:Str):TE:=λσ H Q=>ta σ H λx H1=>∃ a C dx fs v,x=.ref a/\H1 a=some (.ins C dx fs)/\Cls K C/\a1o K C f/\fs.lookup f=some v/\Q v H1
def tCon (K:PySem.W.Frag) (ta:TE) (f:Str):TE:=λσ H Q=>ta σ H λx H1=>∃ a C dx fs v u,x=.ref a/\H1 a=some (.ins C dx fs)/\Cls K C/\Con K C f v u/\fs.lookup f=none/\Q v H1
def sFld (K:PySem.W.Frag) (ta tv:TE) (f:Str):TS:=λD σ H=>tv σ H λy H1=>ta σ H1 λx H2=>∃ a C dx fs,x=.ref a/\H2 a=some (.ins C dx fs)/\Cls K C/\a1o K C f/\fs.length < 1000 /\
 D.nx σ (upd H2 a (.ins C dx (a2D f y fs)))
def InOp (X:Cx) (op:Operator) (rd:V->V->Hp->VK->Prop):Prop :=
 ∀ (pins:List (Addr × Obj)) (s:Shared) (σ:St) (H:Hp) (x y:V) (u v:Value) (Q:VK),Inv X pins σ H s->a0V x u->a0V y v->rd x y H Q->wpAny (model X.prog X.w) X.A (inplaceOp op u v) (EP X pins σ Q) X.xe s
def sFldAug (K:PySem.W.Frag) (ta tv:TE) (rd:V->V->Hp->VK->Prop) (f:Str):TS:=λD σ H=>ta σ H λx H1=>∃ a C dx fs v,x=.ref a/\H1 a=some (.ins C dx fs)/\Cls K C/\a1o K C f/\fs.lookup f=some v /\
 tv σ H1 λy H2=>rd v y H2 λz H3=>∃ dx' fs',H3 a=some (.ins C dx' fs')/\fs'.length < 1000/\D.nx σ (upd H3 a (.ins C dx' (a2D f z fs')))
section
variable {X:Cx} {o e value:Expr} {f:Str} {pos pos' tpos:Pos} {ta tv:TE}
theorem a0F (he:PE X e ta) (hb:attributeBase e f X.env (eval e X.env)=eval e X.env):PE X (.Attribute e f pos) (tFld X.K ta f):=by
 intro pins s σ H Q I h;refine b2Q hb (thn (he pins s σ H _ I h) λu s1 ⟨x,H1,I1,rx,a,C,dx,fs,v,ex,ea,c,n,l,q⟩=>?_);subst ex;obtain rfl:u=Value.ref a:=rx;exact a7f I1 ea c n l λu' s2 I2 ru=>⟨v,H1,I2,ru,q⟩
theorem a2i (ha:PE X o ta) (hv:PE X value tv) (hs:swapsWith value (some (.Attribute o f pos')) pos.line X.env=pure false):PS X (.Assign [.Attribute o f pos'] value pos) (sFld X.K ta tv f):=by
 intro pins s σ H D I h;refine plainObj_wpAny_Assign_Attribute (thn (hv pins s σ H _ I h) λu s1 ⟨y,H1,I1,ry,q⟩=>thn (ha pins s1 σ H1 _ I1 q) λov s2 ⟨x,H2,I2,rx,a,C,dx,fs,ex,ea,c,n,l,q2⟩=>?_) hs;subst ex;obtain rfl:ov=Value.ref a:=rx;exact a7g I2 ea c n l ry λs3 I3=>⟨σ,_,I3,q2⟩
end
section
variable {X:Cx} {pins:List (Addr × Obj)} {σ:St} {H:Hp} {s:Shared} {A:Around} {E:Value->Shared->Prop} {Q:Value->Shared->Prop} {c:Value} {b:Bool}
inductive a7h (K:PySem.W.Frag) (H:Hp):V->Value->Prop where
 | non:a7h K H .non (.type "NoneType")
 | bl (x:Bool):a7h K H (.bl x) (.type "bool")
 | int (i:Int):a7h K H (.int i) (.type "int")
 | str (x:Str):a7h K H (.str x) (.type "str")
 | flt (x:UInt64):a7h K H (.flt x) (.type "float")
 | lst {a:Addr} {xs:List V} (e:H a=some (.lst xs)):a7h K H (.ref a) (.type "list")
 | frz {a:Addr} {o:Obj} {xs:List V} (e:H a=some (.frz o (.lst xs))):a7h K H (.ref a) (.type "list")
 | tup {a:Addr} {xs:List V} (e:H a=some (.tup xs)):a7h K H (.ref a) (.type "tuple")
 | dK {a:Addr} {kvs:List (Key × V)} (e:H a=some (.dK kvs)):a7h K H (.ref a) (.type "dict")
 | dT {a:Addr} {kvs:List (List Key × V)} (e:H a=some (.dT kvs)):a7h K H (.ref a) (.type "dict")
 | ins {a C dx:Addr} {fs:List (Str × V)} (e:H a=some (.ins C dx fs)) (cl:Cls K C) (ha:PySem.W.findIn K (.ref C) "__class__"=some (some (.builtin "object.__class__")))
   (hn:PySem.W.specialIn K (.builtin "object.__class__") "__get__"=some (some (.builtin "getset_descriptor.__get__"))) (htk:PySem.W.takesIn K (.builtin "object.__class__")=some true)
   (hm:PySem.W.mroIn K C (.type "object")=some true):a7h K H (.ref a) (.ref C)
theorem a7S {x:V} {u t:Value} (I:Inv X pins σ H s) (rx:a0V x u) (ty:a7h X.K H x t) (e:PySem.W.kitOne X.K t c=some b) (h:∀ tk,Q (.bool b) { s with toks:=tk }) :
  wpAny (model X.prog X.w) A (call (.builtin "isinstance") [u,c]) Q E s:=by
 cases ty with
 | non=>cases (show u=Value.none from rx);exact PySem.W.kia_one PySem.W.kitx_none I.kIn True.intro e (λz=>nomatch z) h
 | bl y=>cases (show u=Value.bool y from rx);exact PySem.W.kia_one PySem.W.kitx_bool I.kIn True.intro e (λz=>nomatch z) h
 | int i=>obtain ⟨t,q⟩:=(show ∃ t,u=Value.int i t from rx);cases q;exact PySem.W.kia_one PySem.W.kitx_int I.kIn True.intro e (λz=>nomatch z) h
 | str y=>obtain ⟨t,q⟩:=(show ∃ t,u=Value.str y t from rx);cases q;exact PySem.W.kia_one PySem.W.kitx_str I.kIn True.intro e (λz=>nomatch z) h
 | flt y=>obtain ⟨t,q⟩:=(show ∃ t,u=Value.float y t from rx);cases q;exact PySem.W.kia_one PySem.W.kitx_float I.kIn True.intro e (λz=>nomatch z) h
 | @lst a xs ea =>
  cases (show u=Value.ref a from rx);obtain ⟨_,_,n,_,h1⟩:=(show a0R X.prog X.w H s.heap a (.lst xs) from I.hok a _ ea)
  exact PySem.W.kia_one PySem.W.kitx_list I.kIn ⟨_,h1,rfl⟩ e (λz=>nomatch z) h
 | @frz a ob xs ea =>
  cases (show u=Value.ref a from rx);obtain ⟨_,_,_,n,_,h1⟩:=(show a0R X.prog X.w H s.heap a (.frz ob (.lst xs)) from I.hok a _ ea)
  exact PySem.W.kia_one PySem.W.kitx_list I.kIn ⟨_,h1,rfl⟩ e (λz=>nomatch z) h
 | @tup a xs ea =>
  cases (show u=Value.ref a from rx);obtain ⟨_,_,_,p⟩:=(show a0R X.prog X.w H s.heap a (.tup xs) from I.hok a _ ea)
  obtain ⟨o,h1,h2,_⟩:=p.is;exact PySem.W.kia_one PySem.W.kitx_tuple I.kIn ⟨o,h1,h2⟩ e (λz=>nomatch z) h
 | @dK a kvs ea =>
  cases (show u=Value.ref a from rx);obtain ⟨_,_,vs,_,p⟩:=(show a0R X.prog X.w H s.heap a (.dK kvs) from I.hok a _ ea)
  obtain ⟨o,es,ep,h1,h2,_⟩:=p;exact PySem.W.kia_one PySem.W.kitx_dict I.kIn ⟨o,h1,h2.1⟩ e (λz=>nomatch z) h
 | @dT a kvs ea =>
  cases (show u=Value.ref a from rx);obtain ⟨_,_,xs,_,o,es,ep,h1,h2,_⟩:=(show a0R X.prog X.w H s.heap a (.dT kvs) from I.hok a _ ea)
  exact PySem.W.kia_one PySem.W.kitx_dict I.kIn ⟨o,h1,h2.1⟩ e (λz=>nomatch z) h
 | @ins a C dx fs ea cl ha hn htk hm =>
  cases (show u=Value.ref a from rx);obtain ⟨mA,O,_⟩:=a4a I.hok ea;obtain ⟨od,J,_⟩:=O.look;exact PySem.W.kia_one (PySem.W.kitx_own (cl.get _) cl.hd ha hn htk hm) I.kIn J e (λz=>nomatch z) h
end
structure a1L (k:Nat) (A:Around):Prop where
 hd:A.handled=none
 dp:A.depth+3 * k+5 < recursionLimit
 un:A.units+16 * k+200 < cLine
theorem a1L.mono {j k:Nat} {A:Around} (r:a1L k A) (h:j<=k):a1L j A:=⟨r.hd,by have:=r.dp;omega,by have:=r.un;omega⟩
theorem a1L.deeper {k:Nat} {A:Around} (r:a1L (k+1) A) (env:Env):a1L k (A.deeper env) :=
 ⟨r.hd,by have:=r.dp;show A.depth+1+3 * k+5 < _;omega,by have:=r.un;show A.units+3+16 * k+200 < _;omega⟩
theorem a7i {A:Around} {C:Addr} {us:List Value} {kw:List (Str × Value)}:(A.under (.builtin "type.__call__" ⟨.ref C :: us,kw⟩)).depth=A.depth+1:=by
 first | rfl | simp [Around.under,Code.weight,Code.isCreation,Code.isGuard,Code.isCaller,Code.frames,Code.isFrame,guardIds]
theorem a7j {A:Around} {C:Addr} {us:List Value} {kw:List (Str × Value)}:(A.under (.builtin "type.__call__" ⟨.ref C :: us,kw⟩)).units=A.units+1:=by
 first | rfl | simp [Around.under,Code.cUnits,Code.frames,Code.isFrame]
theorem a1L.make {k:Nat} {A:Around} (r:a1L (k+1) A) (C:Addr) (us:List Value) (kw:List (Str × Value)):a1L k (A.under (.builtin "type.__call__" ⟨.ref C :: us,kw⟩)) :=
 ⟨r.hd,by have:=r.dp;rw [a7i];omega,by have:=r.un;rw [a7j];omega⟩
theorem a1L.depth {k:Nat} {A:Around} (r:a1L k A):A.depth < recursionLimit:=by have:=r.dp;omega
theorem a1L.units {k:Nat} {A:Around} (r:a1L k A):A.units+64 < cLine:=by have:=r.un;omega
def b2R:TA:=λ_ H Q=>Q [] H
def a5C (ta:TE) (tr:TA):TA:=λσ H Q=>ta σ H λx H1=>tr σ H1 λxs H2=>Q (x :: xs) H2
section
variable {X:Cx} {e:Expr} {es:List Expr} {te:TE} {t:TA} {pos:Pos}
theorem a0d:PA X [] b2R:=λ_ _ _ _ H Q I h=>Calls.spliced_nil ⟨[],H,I,.nil,h⟩
theorem a0a (ha:PE X e te) (hr:PA X es t) (hs:starEach (e :: es) X.env=(false,eval e X.env) :: starEach es X.env:=by rfl):PA X (e :: es) (a5C te t):=by
 intro pos pins s σ H Q I h;rw [hs];show wpAny _ _ (spliced ((false,eval e X.env) :: backTo pos (starEach es X.env))) _ _ s;refine Calls.spliced_cons (thn (ha pins s σ H _ I h) λu s1 ⟨x,H1,I1,r1,q1⟩=>?_);exact thn (hr pos pins s1 σ H1 _ I1 q1) λus s2 ⟨xs,H2,I2,r2,q2⟩=>⟨x :: xs,H2,I2,.cons r1 r2,q2⟩
def tTup (t:TA):TE:=λσ H Q=>t σ H λxs H1=>xs.length<=sizeLine/\∀ p,H1 p=none->Q (.ref p) (upd H1 p (.tup xs))
def tLst (t:TA):TE:=λσ H Q=>t σ H λxs H1=>xs.length<=sizeLine/\∀ p,H1 p=none->Q (.ref p) (upd H1 p (.lst xs))
theorem a1p {x1} (h:PA X es t):PE X (.Tuple es x1 pos) (tTup t):=by
 intro pins s σ H Q I hq;refine wpAny_Tuple_spliced (thn (h pos pins s σ H _ I hq) λus s1 ⟨xs,H1,I1,r,z,q⟩=>⟨by rw [<-r.length];exact z,?_⟩);have hf:H1 s1.heap.objs.size=none:=I1.hok.fresh (Nat.le_refl _);refine ⟨.ref s1.heap.objs.size,upd H1 s1.heap.objs.size (.tup xs),I1.laid (t':=s1.toks) (λb u e=>Heap.get?_push_of_some _ e) (Nat.le_refl _) ?_,rfl,q _ hf⟩;exact ⟨z,us,r,⟨_,Heap.get?_push_size _ rfl,_,rfl⟩⟩
theorem a0X (h:PA X es t):PE X (.List es pos) (tLst t):=by
 intro pins s σ H Q I hq;refine wpAny_List_spliced (thn (h pos pins s σ H _ I hq) λus s1 ⟨xs,H1,I1,r,z,q⟩=>⟨by rw [<-r.length];exact z,?_⟩);have hf:H1 s1.heap.objs.size=none:=I1.hok.fresh (Nat.le_refl _);refine ⟨.ref s1.heap.objs.size,upd H1 s1.heap.objs.size (.lst xs),I1.laid (t':=s1.toks) (λb u e=>Heap.get?_push_of_some _ e) (Nat.le_refl _) ?_,rfl,q _ hf⟩;exact ⟨z,us,0,r,Heap.get?_push_size _ rfl⟩
end
abbrev Sp:=List V->Hp->VK->XK->Prop
abbrev CXT:=List Env->Hp->Shared->XK->Value->Shared->Prop
structure b0a (P:Program) (w:World) (K:PySem.W.Frag) (mg:Str->Option Value) (base:Heap) (A:Around) (outer:List Env) (s:Shared) (H:Hp):Prop where
 frames:A.frames=some outer
 mod:Mod K mg base
 bs:∀ b o,base.get? b=some o->s.heap.get? b=some o/\H b=none
 bsz:base.objs.size<=s.heap.objs.size
 funs:s.heap.FunFrames base outer
 frf:∀ b∈frs outer,H b=none
 hok:HOk P w H s.heap
 bare:AllBare s.gens
def CE (outer:List Env) (P:Program) (w:World) (H:Hp) (s:Shared) (Q:VK) (u:Value) (s':Shared):Prop :=
 ∃ v H',s'.os=s.os/\AllBare s'.gens/\Un (frs outer) [] H H' s.heap s'.heap/\HOk P w H' s'.heap/\a0V v u/\Q v H'
def CR (CX:CXT) (outer:List Env) (P:Program) (w:World) (H:Hp) (s:Shared) (Q:VK) (E:XK) (r:Result) (s':Shared):Prop :=
 match r with
 | .ok (.ret u)=>CE outer P w H s Q u s'
 | .ok _=>False
 | .error e=>CX outer H s E e s'
structure a0M (P:Program) (w:World) (K:PySem.W.Frag) (mg:Str->Option Value) (base:Heap) (CX:CXT) (k:Nat) (f:Addr) (fd:FuncData) (ps:List Str) (sp:Sp):Prop where
 len:∀ vs H Q E,sp vs H Q E->vs.length=ps.length
 run:∀ (A:Around) (outer:List Env) (s:Shared) (H:Hp) (args:Args) (us:List Value) (vs:List V) (Q:VK) (E:XK),a1L k A->b0a P w K mg base A outer s H->BindsTo s fd args (ps.zip us)->a0z vs us->sp vs H Q E ->
  codeAny (model P w) A (.call (.ref f) args) (CR CX outer P w H s Q E) s
theorem a0M.mono {P:Program} {w:World} {K:PySem.W.Frag} {mg:Str->Option Value} {base:Heap} {CX:CXT} {j k:Nat} {f:Addr} {fd:FuncData} {ps:List Str} {sp:Sp} (F:a0M P w K mg base CX j f fd ps sp) (h:j<=k) :
  a0M P w K mg base CX k f fd ps sp:=⟨F.len,λA outer s H args us vs Q E hr=>F.run A outer s H args us vs Q E (hr.mono h)⟩
theorem b0a.make {P:Program} {w:World} {K:PySem.W.Frag} {mg:Str->Option Value} {base:Heap} {A:Around} {outer:List Env} {s:Shared} {H:Hp} (e:b0a P w K mg base A outer s H) (C:Addr) (us:List Value) (kw:List (Str × Value)) :
  b0a P w K mg base (A.under (.builtin "type.__call__" ⟨.ref C :: us,kw⟩)) outer s H:=⟨by first | exact e.frames | (simpa [Around.under,Code.envs,Code.isFrame,pushEnvs] using e.frames),e.mod,e.bs,e.bsz,e.funs,e.frf,e.hok,e.bare⟩
section
variable {X:Cx} {pins:List (Addr × Obj)} {σ:St} {H:Hp} {s s':Shared}
theorem Inv.env0 (I:Inv X pins σ H s):b0a X.prog X.w X.K X.mg X.base X.A X.stack s H :=
 ⟨I.ok.frames,I.ok.mod,I.bs,Nat.le_trans I.ok.bsz I.sz,I.stack,I.stkFree,I.hok,I.bare⟩
theorem Inv.after {Q:VK} {u:Value} (I:Inv X pins σ H s) (h:CE X.stack X.prog X.w H s Q u s'):EP X pins σ Q u s':=by
 obtain ⟨v,H',os,bare,un,hok,r,q⟩:=h;obtain ⟨hh,g,d,t,os'⟩:=s';obtain rfl:os'=s.os:=os;exact ⟨v,H',I.call (h':=hh) (g':=g) (d':=d) (t':=t) (ch:=[]) un hok bare (λb z=>absurd z (by simp)),r,q⟩
end
def tCall (sp:Sp) (dvs:List V) (E:XK) (t:TA):TE:=λσ H Q=>t σ H λvs H1=>sp (vs++dvs) H1 Q E
def tMeth (C:Addr) (m:Str) (sp:Sp) (dvs:List V) (E:XK) (ta:TE) (t:TA):TE:=λσ H Q=>ta σ H λx H1=>∃ a dx fs,x=.ref a/\H1 a=some (.ins C dx fs)/\fs.lookup m=none /\
 t σ H1 λvs H2=>sp (x :: (vs++dvs)) H2 Q E
def tMake (C:Addr) (sp:Sp) (dvs:List V) (E:XK) (t:TA):TE:=λσ H Q=>t σ H λvs H1=>∀ x dx,H1 x=none->H1 dx=none->dx≠x ->
 sp (.ref x :: (vs++dvs)) (upd (upd H1 dx (.own x)) x (.ins C dx [])) (λv H2=>v=.non/\Q (.ref x) H2) E
def a1r (K:PySem.W.Frag) (fd:FuncData) (ps:List Str) (ds:List Value):Prop :=
 ∀ (s:Shared) (us:List Value),K.In s.heap->(us++ds).length=ps.length->BindsTo s fd ⟨us,[]⟩ (ps.zip (us++ds))
theorem a1r.all {K:PySem.W.Frag} {fd:FuncData} {ps:List Str} (h:∀ us:List Value,us.length=ps.length->bindArgs fd ⟨us,[]⟩=pure (ps.zip us)):a1r K fd ps []:=λs us _ hl=>by
 rw [List.append_nil] at hl ⊢;exact .of_eq (h us hl)
def a1M (CX:CXT) (X:Cx) (E:XK):Prop:=∀ (pins:List (Addr × Obj)) (σ:St) (H:Hp) (s:Shared) (e:Value) (s':Shared),Inv X pins σ H s->CX X.stack H s E e s'->X.xe e s'
section
variable {X:Cx} {CX:CXT} {k:Nat} {f C:Addr} {fd:FuncData} {ps:List Str} {sp:Sp} {dvs:List V} {ds:List Value} {E:XK} {x m:Str} {p pos apos:Pos} {e o:Expr} {es:List Expr} {ta:TE} {t:TA}
theorem a7T {pins:List (Addr × Obj)} {σ:St} {H:Hp} {s:Shared} {Q:VK} {us:List Value} {vs:List V} (F:a0M X.prog X.w X.K X.mg X.base CX k f fd ps sp) (hr:a1L k X.A) (hb:a1r X.K fd ps ds) (hd:a0z dvs ds) (hx:a1M CX X E)
  (I:Inv X pins σ H s) (r:a0z vs us) (h:sp (vs++dvs) H Q E):wpAny (model X.prog X.w) X.A (call (.ref f) us) (EP X pins σ Q) X.xe s:=by
 have r2:a0z (vs++dvs) (us++ds):=r.append hd;have hl:(us++ds).length=ps.length:=by rw [<-r2.length];exact F.len _ _ _ _ h
 refine wpAny_call (codeAny_mono (F.run X.A X.stack s H ⟨us,[]⟩ (us++ds) (vs++dvs) Q E hr I.env0 (hb s us I.kIn hl) r2 h) λr s' hq=>?_);cases r with
 | error e=>exact hx pins σ H s e s' I hq
 | ok fl =>
  cases fl with
  | ret u=>exact I.after hq
  | next=>exact False.elim hq
  | brk=>exact False.elim hq
  | cont=>exact False.elim hq
theorem a0Z (F:a0M X.prog X.w X.K X.mg X.base CX k f fd ps sp) (hr:a1L k X.A) (hg:Gl X x) (hm:X.mg x=some (.ref f)) (hk:PySem.W.keepIn X.K (.ref f)=true) (hb:a1r X.K fd ps ds) (hd:a0z dvs ds) (hx:a1M CX X E)
  (ha:PA X (e :: es) t) (hdb:(x == ("__debug__":Str))=false:=by decide) (he:starEach (e :: es) X.env=(false,eval e X.env) :: starEach es X.env:=by rfl) (hpl:(backTo pos (starEach es X.env)).any (·.1)=false:=by rfl) :
  PE X (.Call (.Name x p) (e :: es) [] pos) (tCall sp dvs E t):=by
 intro pins s σ H Q I h;refine wpAny_Call_Name_kw (a2o I hg hm ?_ hdb);refine PySem.W.callWith_K (h₀:=X.base) I.ok.mod.kin hk (thn (ha pos pins s σ H _ I h) λus s1 ⟨vs,H1,I1,r,q⟩=>⟨I1.kIn,?_⟩) he hpl;exact a7T F hr hb hd hx I1 r q
theorem a0P {pl:Sem Bool} (he:PE X o ta) (c:Cls X.K C) (hm:Meth X.K C m f) (F:a0M X.prog X.w X.K X.mg X.base CX k f fd ps sp) (hr:a1L k X.A) (hb:a1r X.K fd ps ds) (hd:a0z dvs ds) (hx:a1M CX X E) (ha:PA X (e :: es) t)
  (hst:starEach (e :: es) X.env=(false,eval e X.env) :: starEach es X.env:=by rfl) (hpl:(backTo pos (starEach es X.env)).any (·.1)=false:=by rfl)
  (ht:eval (.Call (.Attribute o m apos) (e :: es) [] pos) X.env=(do
   let ov <-eval o X.env
   standAt apos.atName
   let (f,first) <-holding [ov] (getMethod ov m pl)
   callWith pos f first (backTo pos (starEach (e :: es) X.env)) (backToKw pos (keywordEach [] X.env))):=by rfl) :
  PE X (.Call (.Attribute o m apos) (e :: es) [] pos) (tMeth C m sp dvs E ta t):=by
 intro pins s σ H Q I h;refine PySem.W.methodCall_KW (pl:=pl) (thn (he pins s σ H _ I h) λu s1 ⟨x,H1,I1,rx,a,dx,fs,ex,ea,l,q⟩=>?_) ht;subst ex;obtain rfl:u=Value.ref a:=rx;refine a3C I1 ea c hm l ?_;refine PySem.W.callWith_K (first:=[.ref a]) (h₀:=X.base) I.ok.mod.kin hm.kp (thn (ha pos pins s1 σ H1 _ I1 q) λus s2 ⟨vs,H2,I2,r,q2⟩=>⟨I2.kIn,?_⟩) hst hpl;exact a7T (us:=.ref a :: us) (vs:=.ref a :: vs) F hr hb hd hx I2 (.cons rfl r) q2
theorem a6m {pl:Sem Bool} (he:PE X o ta) (c:Cls X.K C) (hm:Meth X.K C m f) (F:a0M X.prog X.w X.K X.mg X.base CX k f fd ps sp) (hr:a1L k X.A) (hb:a1r X.K fd ps ds) (hd:a0z dvs ds) (hx:a1M CX X E)
  (ht:eval (.Call (.Attribute o m apos) [] [] pos) X.env=(do
   let ov <-eval o X.env
   standAt apos.atName
   let (f,first) <-holding [ov] (getMethod ov m pl)
   callWith pos f first (backTo pos (starEach [] X.env)) (backToKw pos (keywordEach [] X.env))):=by rfl) :
  PE X (.Call (.Attribute o m apos) [] [] pos) (tMeth C m sp dvs E ta b2R):=by
 intro pins s σ H Q I h;refine PySem.W.methodCall_KW (pl:=pl) (thn (he pins s σ H _ I h) λu s1 ⟨x,H1,I1,rx,a,dx,fs,ex,ea,l,q⟩=>?_) ht;subst ex;obtain rfl:u=Value.ref a:=rx;refine a3C I1 ea c hm l ?_;exact PySem.W.callWith_K0 (first:=[.ref a]) I1.kIn hm.kp (a7T (us:=[.ref a]) (vs:=[.ref a]) F hr hb hd hx I1 (.cons rfl .nil) q)
structure Mk (K:PySem.W.Frag) (C f:Addr):Prop where
 makes:PySem.W.makesIn K C=true
 init:PySem.W.findIn K (.ref C) "__init__"=some (some (.ref f))
 fn:PySem.W.isFn K (.ref f)=true
 kp:PySem.W.keepIn K (.ref C)=true
theorem b0l {pins:List (Addr × Obj)} {σ:St} {H:Hp} {s:Shared} {Q:VK} {us:List Value} {vs:List V} (M:Mk X.K C f) (F:a0M X.prog X.w X.K X.mg X.base CX k f fd ps sp) (hr:a1L (k+1) X.A) (hb:a1r X.K fd ps ds) (hd:a0z dvs ds)
  (hx:a1M CX X E) (I:Inv X pins σ H s) (r:a0z vs us)
  (h:∀ x dx,H x=none->H dx=none->dx≠x->sp (.ref x :: (vs++dvs)) (upd (upd H dx (.own x)) x (.ins C dx [])) (λv H2=>v=.non/\Q (.ref x) H2) E) :
  wpAny (model X.prog X.w) X.A (call (.ref C) us) (EP X pins σ Q) X.xe s:=by
 have hq:=h (s.heap.objs.size+1) s.heap.objs.size (I.hok.fresh (Nat.le_succ _)) (I.hok.fresh (Nat.le_refl _)) (Nat.ne_of_lt (Nat.lt_succ_self _));have I2:=Inv.made (C:=C) I;have r2:a0z (V.ref (s.heap.objs.size+1) :: (vs++dvs)) (Value.ref (s.heap.objs.size+1) :: (us++ds)):=.cons rfl (r.append hd);have hl:(Value.ref (s.heap.objs.size+1) :: us++ds).length=ps.length:=by
  have e:=r2.length;rw [F.len _ _ _ _ hq] at e;exact e.symm
 refine wpAny_call (b0k (f:=f) I.kIn M.makes M.init (beq_iff_eq.mp M.fn) (codeAny_mono (F.run _ X.stack _ _ ⟨Value.ref (s.heap.objs.size+1) :: us,[]⟩ (Value.ref (s.heap.objs.size+1) :: (us++ds)) _ _ E (hr.make C us [])
  (I2.env0.make C us []) (hb _ (Value.ref (s.heap.objs.size+1) :: us) I2.kIn hl) r2 hq) λr s' hq'=>?_))
 cases r with
 | error e=>exact hx pins σ _ _ e s' I2 hq'
 | ok fl =>
  cases fl with
  | ret u =>
   obtain ⟨v,H',I3,rv,ev,q3⟩:=I2.after hq';subst ev;exact ⟨rv,⟨V.ref (s.heap.objs.size+1),H',I3,rfl,q3⟩⟩
  | next=>exact False.elim hq'
  | brk=>exact False.elim hq'
  | cont=>exact False.elim hq'
theorem a4b (M:Mk X.K C f) (F:a0M X.prog X.w X.K X.mg X.base CX k f fd ps sp) (hr:a1L (k+1) X.A) (hg:Gl X x) (hm:X.mg x=some (.ref C)) (hb:a1r X.K fd ps ds) (hd:a0z dvs ds) (hx:a1M CX X E)
  (ha:PA X (e :: es) t) (hdb:(x == ("__debug__":Str))=false:=by decide) (he:starEach (e :: es) X.env=(false,eval e X.env) :: starEach es X.env:=by rfl) (hpl:(backTo pos (starEach es X.env)).any (·.1)=false:=by rfl) :
  PE X (.Call (.Name x p) (e :: es) [] pos) (tMake C sp dvs E t):=by
 intro pins s σ H Q I h;refine wpAny_Call_Name_kw (a2o I hg hm ?_ hdb);refine PySem.W.callWith_K (h₀:=X.base) I.ok.mod.kin M.kp (thn (ha pos pins s σ H _ I h) λus s1 ⟨vs,H1,I1,r,q⟩=>⟨I1.kIn,?_⟩) he hpl;exact b0l M F hr hb hd hx I1 r q
end
def PK (X:Cx) (kws:List Keyword) (t:TA):Prop :=
 ∀ (pos:Pos) (pins:List (Addr × Obj)) (s:Shared) (σ:St) (H:Hp) (Q:List V->Hp->Prop),Inv X pins σ H s->t σ H Q->wpAny (model X.prog X.w) X.A (evalAll ((backToKw pos (keywordEach kws X.env)).map (·.2))) (AP X pins σ Q) X.xe s
section
variable {X:Cx} {CX:CXT} {k:Nat} {f C:Addr} {fd:FuncData} {ps ks:List Str} {sp:Sp} {E:XK} {x m:Str} {p pos apos kpos:Pos} {e o:Expr} {es:List Expr} {kws:List Keyword} {te ta:TE} {t tk:TA} {nm:Option Str}
theorem pk_nil:PK X [] b2R:=λ_ _ _ _ H Q I h=>wpAny_evalAll_nil ⟨[],H,I,.nil,h⟩
theorem b2S (ha:PE X e te) (hr:PK X kws t):PK X (⟨nm,e,kpos⟩ :: kws) (a5C te t):=by
 intro pos pins s σ H Q I h;show wpAny _ _ (evalAll ((do let v <-eval e X.env;standAt pos;pure v) :: (backToKw pos (keywordEach kws X.env)).map (·.2))) _ _ s;refine wpAny_evalAll_cons (wpAny_bind (thn (ha pins s σ H _ I h) λu s1 ⟨x,H1,I1,r1,q1⟩=>wpAny_bind (wpAny_standAt (wpAny_pure ?_))));exact thn (hr pos pins s1 σ H1 _ I1 q1) λus s2 ⟨xs,H2,I2,r2,q2⟩=>⟨x :: xs,H2,I2,.cons r1 r2,q2⟩
structure KBinds (K:PySem.W.Frag) (fd:FuncData) (ps ks:List Str) (g:List Value->List Value->List Value) (gV:List V->List V->List V):Prop where
 to:∀ (s:Shared) (us ws:List Value),K.In s.heap->(g us ws).length=ps.length->BindsTo s fd ⟨us,ks.zip ws⟩ (ps.zip (g us ws))
 rel:∀ {vs:List V} {us:List Value} {zs:List V} {ws:List Value},a0z vs us->a0z zs ws->a0z (gV vs zs) (g us ws)
variable {g:List Value->List Value->List Value} {gV:List V->List V->List V}
end
structure a0k (N P:List Str) (sc:Scope):Prop where
 kind:sc.kind=.function
 co:sc.isCoroutine=false
 gen:sc.isGenerator=false
 nd:N.Nodup
 pre:N.take P.length=P
 par:∀ x∈P,sc.names.lookup x=some .local\/sc.names.lookup x=some .cell
 nofree:∀ y∈sc.names,y.2≠.free
theorem pgA {X:Cx} {i:Nat} {x:Str} {pos:Pos} {Ps:List Str} {sc:Scope} (S:a0k X.N Ps sc) (hi:X.N[i]?=some x:=by rfl) (hx:Loc X.env.scope x:=by first | exact .inl rfl | exact .inr rfl) (hf:X.fn x=true\/X.env.scope.names.lookup x=some .local:=by first | exact .inl rfl | exact .inr rfl | assumption):PG X (.Name x pos) (a1I i):=a2Q S.nd hi hx hf
theorem psA {X:Cx} {i:Nat} {x:Str} {e:Expr} {te:TE} {pos pos':Pos} {Ps:List Str} {sc:Scope} (S:a0k X.N Ps sc) (he:PE X e te) (hi:X.N[i]?=some x:=by rfl) (hx:Loc X.env.scope x:=by first | exact .inl rfl | exact .inr rfl) (hs:swapsWith e (some (.Name x pos')) pos.line X.env=pure false:=by rfl) (hf:X.fn x=true\/X.env.scope.names.lookup x=some .local:=by first | exact .inl rfl | exact .inr rfl | assumption):PS X (.Assign [.Name x pos'] e pos) (b4y te (a1I i)):=ps_set S.nd hi hx he hs hf
theorem fsk {N P:List Str} {sc:Scope} (h1:sc.kind=.function:=by rfl) (h2:sc.isCoroutine=false:=by rfl) (h3:sc.isGenerator=false:=by rfl) (h4:N.Nodup:=by decide +kernel) (h5:N.take P.length=P:=by rfl) (h6:∀ x∈P,sc.names.lookup x=some .local\/sc.names.lookup x=some .cell:=by decide +kernel) (h7:∀ y∈sc.names,y.2≠.free:=by decide +kernel):a0k N P sc:=⟨h1,h2,h3,h4,h5,h6,h7⟩
theorem a4Q {kindOf:Str->Option NameKind} {x:Str}:∀ {binds:List (Str × Value)} {m:Str->Option Value},(∀ v,(x,v)∉binds)->bindL kindOf binds m x=m x
 | [],_,_=>rfl
 | (n,v) :: r,m,h=>by
  unfold bindL;rw [a4Q λw hw=>h w (List.mem_cons_of_mem _ hw)];split
  ·have:x≠n:=by rintro rfl;exact h v List.mem_cons_self
   simp [this]
  ·rfl
theorem a4R {kindOf:Str->Option NameKind} {x:Str}:∀ {binds:List (Str × Value)} {m:Str->Option Value},(∀ v,(x,v)∉binds)->bindC kindOf binds m x=m x
 | [],_,_=>rfl
 | (n,v) :: r,m,h=>by
  unfold bindC;rw [a4R λw hw=>h w (List.mem_cons_of_mem _ hw)];split
  ·rfl
  ·have:x≠n:=by rintro rfl;exact h v List.mem_cons_self
   simp [this]
theorem a4S {kindOf:Str->Option NameKind} {x:Str} {v:Value}:∀ {P:List Str} {vs:List Value} {i:Nat} {m:Str->Option Value},P.Nodup->P[i]?=some x->vs[i]?=some v->kindOf x=some .local ->
  bindL kindOf (P.zip vs) m x=some v
 | [],_,_,_,_,h,_,_=>by simp at h
 | _ :: _,[],_,_,_,_,h,_=>by simp at h
 | p :: P,w :: vs,0,m,nd,h1,h2,hk=>by
  simp at h1 h2;subst h1;subst h2;show bindL kindOf ((p,w) :: P.zip vs) m p=_;unfold bindL;rw [a4Q λv hv=>(List.nodup_cons.mp nd).1 (List.of_mem_zip hv).1,if_pos hk];simp
 | p :: P,w :: vs,i+1,m,nd,h1,h2,hk=>by
  show bindL kindOf ((p,w) :: P.zip vs) m x=_;unfold bindL;exact a4S (i:=i) (List.nodup_cons.mp nd).2 (by simpa using h1) (by simpa using h2) hk
theorem a4T {kindOf:Str->Option NameKind} {x:Str} {v:Value}:∀ {P:List Str} {vs:List Value} {i:Nat} {m:Str->Option Value},P.Nodup->P[i]?=some x->vs[i]?=some v->kindOf x≠some .local ->
  bindC kindOf (P.zip vs) m x=some v
 | [],_,_,_,_,h,_,_=>by simp at h
 | _ :: _,[],_,_,_,_,h,_=>by simp at h
 | p :: P,w :: vs,0,m,nd,h1,h2,hk=>by
  simp at h1 h2;subst h1;subst h2;show bindC kindOf ((p,w) :: P.zip vs) m p=_;unfold bindC;rw [a4R λv hv=>(List.nodup_cons.mp nd).1 (List.of_mem_zip hv).1,if_neg hk];simp
 | p :: P,w :: vs,i+1,m,nd,h1,h2,hk=>by
  show bindC kindOf ((p,w) :: P.zip vs) m x=_;unfold bindC;exact a4T (i:=i) (List.nodup_cons.mp nd).2 (by simpa using h1) (by simpa using h2) hk
def start (N:List Str) (vs:List V):St:=vs.map some++List.replicate (N.length - vs.length) none
def a5B (CX:CXT) (P:Program) (w:World) (K:PySem.W.Frag) (mg:Str->Option Value) (base:Heap) (N:List Str) (qual:Str) (scope:Scope) (f:Addr) (cd:Value) (A:Around) (outer:List Env) (s:Shared) (H:Hp) (E:XK):Cx where
 prog:=P
 w:=w
 K:=K
 mg:=mg
 base:=base
 A:=A.deeper (envOfC qual scope s.heap.objs.size f cd)
 N:=N
 s₀:=s
 H₀:=H
 env:=envOfC qual scope s.heap.objs.size f cd
 outer:=outer
 stack:=envOfC qual scope s.heap.objs.size f cd :: outer
 ex:=[]
 calm:=true
 fn:=λ_=>true
 pn:=[]
 xe:=λe s'=>wpAny (model P w) (A.deeper (envOfC qual scope s.heap.objs.size f cd)) (leaving (envOfC qual scope s.heap.objs.size f cd) e) (λ_ s''=>CX outer H s E e s'') (λe' s''=>CX outer H s E e' s'') s'
theorem a6n {sc:Scope} {n:Nat} {x:Str} (h:sc.names.lookup x=some .cell):∃ c,(cellsFrom n sc.names []).lookup x=some c:=by
 have q:=PySem.W.cellsFrom_some sc.names n [] (.inl h);exact Option.isSome_iff_exists.mp q
theorem a7U {CX:CXT} {P:Program} {w:World} {K:PySem.W.Frag} {mg:Str->Option Value} {base:Heap} {N ps:List Str} {qual:Str} {scope:Scope} {f:Addr} {cd:Value} {A:Around} {outer:List Env} {s s1:Shared} {H:Hp} {E:XK} {us:List Value} {vs:List V}
  (S:a0k N ps scope) (hd:A.handled=none) (e0:b0a P w K mg base A outer s H) (hl:vs.length=ps.length) (r:a0z vs us)
  (x:InCallC s s.heap.objs.size (bindL (envOfC qual scope s.heap.objs.size f cd).kindOf (ps.zip us) λ_=>none) (cellsFrom (s.heap.objs.size+1) scope.names []) (bindC (envOfC qual scope s.heap.objs.size f cd).kindOf (ps.zip us) λ_=>none) s1) :
  Inv (a5B CX P w K mg base N qual scope f cd A outer s H E) [] (start N vs) H s1:=by
 have hpl:ps.length<=N.length:=by have:=congrArg List.length S.pre;rw [List.length_take] at this;omega
 obtain ⟨h1,tk,rfl,hk⟩:=x.done;have noA:∀ b:Addr,b∉(a5B CX P w K mg base N qual scope f cd A outer s H E).ex:=λb z=>absurd (show b∈([]:List Addr) from z) (by simp);refine ⟨⟨e0.mod,S.kind,rfl,rfl,Nat.le_refl _,λy z c h1 h2=>?_,λy hy=>?_,λy c _ h=>?_,λ_=>hd,Around.frames_deeper e0.frames,.inr ⟨rfl,rfl⟩,λb z=>absurd z (noA b),e0.bs,e0.bsz,λb _ _=>noA b,λb z=>absurd z (noA b),e0.funs,e0.frf⟩,
  rfl,e0.bare,Un.kept hk,⟨_,x.toInCall.ns,λi y v h1 h2 h3=>?_⟩,λy c h=>⟨_,x.cell y c h⟩,e0.hok.fresh (Nat.le_refl _),λy c h=>?_,λp hp=>absurd (show p∈([]:List (Addr × Obj)) from hp) (by simp),e0.hok.kept hk,?_⟩
 ·exact name_of_addr x.apart (PySem.mem_of_lookup h1) (PySem.mem_of_lookup h2)
 ·have hy:scope.names.lookup y=some .cell\/scope.names.lookup y=some .free:=hy;rcases hy with hy | hy
  ·exact a6n hy
  ·exact absurd rfl (S.nofree _ (PySem.mem_of_lookup hy))
 ·exact Nat.le_of_lt (x.above y c (PySem.mem_of_lookup h))
 ·have hi:i < vs.length:=by
   unfold start at h2;by_cases hi:i < vs.length
   ·exact hi
   ·rw [List.getElem?_append_right (by simpa using hi)] at h2;rw [List.getElem?_replicate] at h2;split at h2 <;> cases h2
  have ha:vs[i]?=some v:=by
   unfold start at h2;rw [List.getElem?_append_left (by simpa using hi),List.getElem?_map] at h2;cases e:vs[i]? with
   | none=>rw [e] at h2;cases h2
   | some a=>rw [e] at h2;cases h2;rfl
  obtain ⟨u,hu,rv⟩:=r.get ha;have hp:ps[i]?=some y:=by
   rw [<-S.pre,List.getElem?_take_of_lt (by omega)];exact h1
  have ndP:ps.Nodup:=by rw [<-S.pre];exact S.nd.sublist (List.take_sublist _ _)
  refine ⟨u,rv,?_⟩;rcases S.par y (List.mem_of_getElem? hp) with k | k
  ·exact .inl ⟨k,a4S ndP hp hu k⟩
  ·obtain ⟨c,e⟩:=a6n (n:=s.heap.objs.size+1) k;refine .inr ⟨.inl k,c,e,?_⟩;have q:=x.cell y c e;rw [a4T ndP hp hu (by show scope.names.lookup y≠_;rw [k];decide)] at q;exact q
 ·exact e0.hok.fresh (Nat.le_of_lt (x.above y c (PySem.mem_of_lookup h)))
 ·unfold start;show _=N.length;rw [List.length_append,List.length_map,List.length_replicate];omega
theorem b2T {CX:CXT} {P:Program} {w:World} {K:PySem.W.Frag} {mg:Str->Option Value} {base:Heap} {k:Nat} {f:Addr} {name qual:Str} {params:Arguments} {body:List Stmt} {scope:Scope} {dV kV doc pm cdv ct oc:Value} {an od:Option Addr}
  {osl:Array (Option Value)} {N ps:List Str} {sp:Sp} (lk:K.lookup f=some ⟨oc,od,.func (PySem.W.fnOf name qual params body scope dV kV doc pm an cdv ct),osl⟩) (hcd:PySem.W.codeIn K cdv qual=true) (S:a0k N ps scope)
  (len:∀ vs H Q E,sp vs H Q E->vs.length=ps.length)
  (hbody:∀ (A:Around) (outer:List Env) (s:Shared) (H:Hp) (vs:List V) (Q:VK) (E:XK),a1L k (A.deeper (envOfC qual scope s.heap.objs.size f cdv))->sp vs H Q E ->
   ∃ t,PSs (a5B CX P w K mg base N qual scope f cdv A outer s H E) body t/\t { nx:=λ_ H'=>Q .non H',rt:=Q } (start N vs) H) :
  a0M P w K mg base CX (k+1) f (PySem.W.fnOf name qual params body scope dV kV doc pm an cdv ct) ps sp:=by
 refine ⟨len,λA outer s H args us vs Q E hr e0 hb r hsp=>?_⟩;have hl:=len _ _ _ _ hsp;have KX:K.In s.heap:=e0.mod.kin.keeps λb o e=>(e0.bs b o e).1;have lim:s.heap.NoLimit:=e0.mod.nolimit.keeps λb o e=>(e0.bs b o e).1;have hkind:∀ y∈ps.zip us,scope.names.lookup y.1=some .local\/(scope.names.lookup y.1=some .cell/\((cellsFrom (s.heap.objs.size+1) scope.names []).lookup y.1).isSome=true):=λ⟨n,v⟩ hy=>by
  rcases S.par n (List.of_mem_zip hy).1 with q | q
  ·exact .inl q
  ·exact .inr ⟨q,PySem.W.cellsFrom_some _ _ _ (.inl q)⟩
 refine codeAny_call_function hr.depth (KX _ _ lk) rfl S.co S.gen rfl (PySem.W.codeRec_of KX hcd) (hb _ _ _ _ ?_);refine wpAny_newFunctionEnv_cells S.kind hkind λenv he s1 x=>?_;subst he;refine ⟨lim.keeps x.toInCall.keep,codeAny_func ?_⟩;obtain ⟨t,ht,hq⟩:=hbody A outer s H vs Q E (hr.deeper _) hsp;have I:Inv (a5B CX P w K mg base N qual scope f cdv A outer s H E) [] (start N vs) H s1:=a7U S hr.hd e0 hl r x;refine wpAny_mono (ht [] s1 (start N vs) H _ I hq) (λfl s' hs=>?_) λe s' hs=>hs;have fin:∀ {σ':St} {H':Hp} {v:V} {u:Value},Inv (a5B CX P w K mg base N qual scope f cdv A outer s H E) [] σ' H' s'->a0V v u->Q v H'->CE outer P w H s Q u s' :=
  λ{σ' H' v u} J rv q=>⟨v,H',J.os,J.bare,J.base,J.hok,rv,q⟩
 cases fl with
 | ret u =>
  obtain ⟨v,σ',H',J,rv,q⟩:=hs;exact fin J rv q
 | next =>
  obtain ⟨σ',H',J,q⟩:=hs;exact fin (v:=V.non) (u:=Value.none) J rfl q
 | brk =>
  obtain ⟨_,_,_,q⟩:=hs;exact False.elim q
 | cont =>
  obtain ⟨_,_,_,q⟩:=hs;exact False.elim q
section
variable {X:Cx} {x:Str} {p pos:Pos} {e:Expr} {es:List Expr} {t:TA} {id T:String} {r:List V->Hp->VK->Prop}
def tCB (r:List V->Hp->VK->Prop) (t:TA):TE:=λσ H Q=>t σ H λvs H1=>r vs H1 Q
theorem a0G (hc:a2q X (.builtin id) r) (hg:Gl X x) (hm:X.mg x=none) (hv:bootBuiltins x=some (.builtin id)) (ha:PA X (e :: es) t) (hn:x≠"__name__":=by decide) (hdb:(x == ("__debug__":Str))=false:=by decide)
  (he:starEach (e :: es) X.env=(false,eval e X.env) :: starEach es X.env:=by rfl) (hpl:(backTo pos (starEach es X.env)).any (·.1)=false:=by rfl):PE X (.Call (.Name x p) (e :: es) [] pos) (tCB r t):=by
 intro pins s σ H Q I h;refine wpAny_Call_Name_kw (a2B I hg hm hv ?_ hn hdb);exact PyProof.Rows.callWith_builtin1 (thn (ha pos pins s σ H _ I h) λus s1 ⟨vs,H1,I1,r1,q1⟩=>hc pins s1 σ H1 vs us Q I1 r1 q1) he hpl
theorem a1x (hc:a2q X (.type T) r) (hg:Gl X x) (hm:X.mg x=none) (hv:bootBuiltins x=some (.type T)) (ha:PA X (e :: es) t) (hn:x≠"__name__":=by decide) (hdb:(x == ("__debug__":Str))=false:=by decide)
  (he:starEach (e :: es) X.env=(false,eval e X.env) :: starEach es X.env:=by rfl) (hpl:(backTo pos (starEach es X.env)).any (·.1)=false:=by rfl):PE X (.Call (.Name x p) (e :: es) [] pos) (tCB r t):=by
 intro pins s σ H Q I h;refine wpAny_Call_Name_kw (a2B I hg hm hv ?_ hn hdb);exact PyProof.Rows.callWith_type1 (thn (ha pos pins s σ H _ I h) λus s1 ⟨vs,H1,I1,r1,q1⟩=>hc pins s1 σ H1 vs us Q I1 r1 q1) he hpl
end
end L2
namespace HT
open PySem PyProof.Rows
def a1d:List Int->List Int->Bool
 | [],[]=>false
 | [],_ :: _=>true
 | _ :: _,[]=>false
 | x :: xs,y :: ys=>if x=y then a1d xs ys else decide (x < y)
theorem a0J (x y:Int) (xs ys:List Int):a1d (x :: xs) (y :: ys)=if x=y then a1d xs ys else decide (x < y):=rfl
theorem a4c:a1d [] []=false:=rfl
theorem a3u (y:Int) (ys:List Int):a1d [] (y :: ys)=true:=rfl
theorem a3v (x:Int) (xs:List Int):a1d (x :: xs) []=false:=rfl
theorem b0m (A:Around) (s:Shared) (a:Int) (t:Tok) (c:Int) (u:Tok):∃ e,SeqAt.EqAt A s (.int a t) (.int c u) e/\(e=true↔a=c) :=
 ⟨(a == c),SeqAt.EqAt.int_int a t c u,by simp⟩
theorem b0n (A:Around) (s:Shared) (a:Int) (t:Tok) (c:Int) (u:Tok) (prog:Program) (w:World) (E:Value->Shared->Prop) (Q:Value->Shared->Prop) (h:Q (.bool (decide (a < c))) s) :
  wpAny (model prog w) A (richCompare .Lt (.int a t) (.int c u)) Q E s :=
 (PyProof.Rows.lt_int h:wpAny (model prog w) A (compareOp .Lt (.int a t) (.int c u)) Q E s)
section
open PySem.SeqAt
open PySem.AutoSeq1 (wpAny_loadPart')
open PySem.MeetsSeq PySem.MeetsSeq2 PySem.MeetsSeq3
theorem a4d (l b:Addr) (items items2:Array Value) (n n2:Nat) (dd dd2:Option Addr) (sl sl2:Array (Option Value)) (ns ms:List Int) (hi:IntsAre items.toList ns) (hj:IntsAre items2.toList ms) :
  Meets (Builtin.«tuple.__lt__» ⟨[.ref l,.ref b],[]⟩)
   (λ_ R s=>s.heap.get? l=some { cls:=.type "tuple",dict:=dd,data:=.seq items n,slots:=sl }/\s.heap.get? b=some { cls:=.type "tuple",dict:=dd2,data:=.seq items2 n2,slots:=sl2 } /\
    R (.ok (.ret (.bool (a1d ns ms)))) s) :=
 .of_wp λprog w A R s h=>by
  obtain ⟨hp,g,d,tk,os⟩:=s;obtain ⟨hl,hb,h⟩:=h;have f2:=AutoSeq1.sub_tuple_tuple;have z1:items.size=ns.length:=by rw [<-hi.length];simp
  have z2:items2.size=ms.length:=by rw [<-hj.length];simp
  wp_walk using wpAny_loadPart' hl,wpAny_loadPart' hb,wpAny_forIn_list _ (λrest b s'=>b.1=none/\s'=⟨hp,g,d,tk,os⟩/\∃ (vs ws:List Value) (ns' ms':List Int),rest=vs.zip ws /\
   IntsAre vs ns'/\IntsAre ws ms'/\ns'.length+items2.size=ms'.length+items.size/\R (.ok (.ret (.bool (a1d ns' ms')))) ⟨hp,g,d,tk,os⟩) _
  case turn =>
   rintro ⟨y,x⟩ rest b s' ⟨hb',rfl,vs,ws,ns',ms',hz,hvi,hwi,hlen,hR⟩;cases hvi with
   | nil=>rw [List.zip_nil_left] at hz;cases hz
   | cons a t hvi' =>
    cases hwi with
    | nil=>rw [List.zip_nil_right] at hz;cases hz
    | cons c u hwi' =>
     rw [List.zip_cons_cons] at hz;injection hz with hyx hrest;injection hyx with hy hx;subst hy hx;rw [a0J] at hR;simp only [List.length_cons] at hlen;obtain ⟨e,he,hiff⟩:=b0m A.in1 ⟨hp,g,d,tk,os⟩ a t c u;refine wpAny_bind (he prog w _ _ ?_);cases e with
     | true =>
      rw [if_pos (hiff.mp rfl)] at hR
      wp_walk
      exact ⟨rfl,rfl,_,_,_,_,hrest,hvi',hwi',by omega,hR⟩
     | false =>
      rw [if_neg (λq=>absurd (hiff.mpr q) Bool.false_ne_true)] at hR;have hri:=b0n A.in1 ⟨hp,g,d,tk,os⟩ a t c u prog w
      wp_walk using hri
      exact ⟨_,rfl,by simpa using hR⟩
  case fin =>
   rintro ⟨b1,b2⟩ s' ⟨hb',rfl,vs,ws,ns',ms',hz,hvi,hwi,hlen,hR⟩;simp only at hb';subst hb';have hv:a1d ns' ms'=decide (items.size < items2.size):=by
    cases hvi with
    | nil =>
     cases hwi with
     | nil =>
      simp only [List.length_nil] at hlen;rw [a4c];exact (decide_eq_false (by omega)).symm
     | cons c u hw =>
      simp only [List.length_nil,List.length_cons] at hlen;rw [a3u];exact (decide_eq_true (by omega)).symm
    | cons a t hv =>
     cases hwi with
     | nil =>
      simp only [List.length_nil,List.length_cons] at hlen;rw [a3v];exact (decide_eq_false (by omega)).symm
     | cons c u hw =>
      rw [List.zip_cons_cons] at hz;cases hz
   rw [hv] at hR
   wp_walk
   exact ⟨_,rfl,by simpa [Builtin.Tuple.tupleCompareSizes] using hR⟩
  case h =>
   exact ⟨rfl,rfl,items.toList,items2.toList,ns,ms,rfl,hi,hj,by omega,h⟩
end
section
variable {prog:Program} {w:World} {A:Around} {E:Value->Shared->Prop} {s:Shared}
theorem a3D {l b:Addr} {items items2:Array Value} {ns ms:List Int} {Q:Value->Shared->Prop} (hl:IsTup s.heap l items) (hb:IsTup s.heap b items2) (hi:IntsAre items.toList ns) (hj:IntsAre items2.toList ms)
  (hu:A.units < cLine) (h:Q (.bool (a1d ns ms)) s):wpAny (model prog w) A (compareOp .Lt (.ref l) (.ref b)) Q E s:=by
 obtain ⟨⟨cls,dd,data,sl⟩,ho,hc,n,hd⟩:=id hl;obtain ⟨⟨cls2,dd2,data2,sl2⟩,ho2,hc2,n2,hd2⟩:=id hb;simp only at hc hd hc2 hd2;subst hc hd hc2 hd2;exact richCompare_meets_room (op:=.Lt) ⟨_,ho,rfl⟩ ⟨_,ho2,rfl⟩ PySem.F.slot_tuple_lt PySem.F.entry_tuple_lt (PySem.F.args_tuple_lt_2 _ _) (a4d l b items items2 n n2 dd dd2 sl sl2 ns ms hi hj)
  ⟨ho,ho2,show Value.bool (a1d ns ms)≠Value.notImplemented/\Q (.bool (a1d ns ms)) s from ⟨(λx=>nomatch x),h⟩⟩ hu
theorem b2U {t b:Addr} {vs ws:List Value} {Q:Value->Shared->Prop} (ht:IsTup s.heap t vs.toArray) (hb:IsTup s.heap b ws.toArray) (hv:vs≠[])
  (h1:ws=[]->Q (.ref t) s) (h2:ws≠[]->Q (.ref s.heap.objs.size) { s with heap:=s.heap.push { cls:=.type "tuple",data:=.seq (vs++ws).toArray } })
  (hsz:vs.length+ws.length<=sizeLine):wpAny (model prog w) A (binaryOp .Add (.ref t) (.ref b)) Q E s:=by
 obtain ⟨⟨cls,dd,data,sl⟩,ho,hc,n,hd⟩:=id ht;obtain ⟨⟨cls2,dd2,data2,sl2⟩,ho2,hc2,n2,hd2⟩:=id hb;simp only at hc hd hc2 hd2;subst hc hd hc2 hd2;have e:vs.toArray++ws.toArray=(vs++ws).toArray:=by simp
 by_cases hw:ws=[]
 ·exact concat_meets ⟨_,ho,rfl⟩ ⟨_,ho2,rfl⟩ noFill_tuple_add seq_tuple_add PySem.F.slot_tuple_add PySem.F.entry_tuple_add (PySem.F.args_tuple_add_2 _ _)
   (tuple_addW1 t b vs.toArray ws.toArray n n2 dd dd2 sl sl2 (by simpa using hv) (by simp [hw])) ⟨ho,ho2,h1 hw⟩
 ·refine concat_meets ⟨_,ho,rfl⟩ ⟨_,ho2,rfl⟩ noFill_tuple_add seq_tuple_add PySem.F.slot_tuple_add PySem.F.entry_tuple_add (PySem.F.args_tuple_add_2 _ _)
   (tuple_addW2 t b vs.toArray ws.toArray n n2 dd dd2 sl sl2 (by simpa using hv) (by simpa using hw) (by rw [List.size_toArray,List.size_toArray];exact hsz)) ⟨ho,ho2,?_⟩
  rw [e];exact h2 hw
def sIx (n d:Nat):Option Int->Nat
 | none=>d
 | some v=>if v < 0 then (v+(n:Int)).toNat else min v.toNat n
theorem a6o (n d:Nat):sIx n d none=d:=rfl
theorem a7V (n d k:Nat):sIx n d (some (k:Int))=min k n:=by
 show (if (k:Int) < 0 then ((k:Int)+(n:Int)).toNat else min (k:Int).toNat n)=min k n;rw [if_neg (by omega),Int.toNat_natCast]
theorem sIx_le (n d:Nat) (hd:d<=n) (o:Option Int):sIx n d o<=n:=by
 cases o with
 | none=>exact hd
 | some v =>
  show (if v < 0 then (v+(n:Int)).toNat else min v.toNat n)<=n;by_cases hv:v < 0
  ·rw [if_pos hv];omega
  ·rw [if_neg hv];exact Nat.min_le_right _ _
theorem a7W (v:Int) (n d:Nat):(if v < 0 then max (v+(n:Int)) 0 else min v (n:Int))=((sIx n d (some v):Nat):Int):=by
 show (if v < 0 then max (v+(n:Int)) 0 else min v (n:Int))=(((if v < 0 then (v+(n:Int)).toNat else min v.toNat n):Nat):Int)
 by_cases hv:v < 0
 ·simp only [if_pos hv];omega
 ·simp only [if_neg hv];omega
theorem a7k (lo hi:Option Int) (n:Nat):Builtin.Slice.sliceAdjust lo hi 1 (n:Int)=(((sIx n 0 lo:Nat):Int),((sIx n n hi:Nat):Int)):=by
 have h1:¬ ((1:Int) < 0):=by omega
 unfold Builtin.Slice.sliceAdjust;simp only [h1,if_false];refine Prod.ext ?_ ?_
 ·cases lo with
  | none=>rfl
  | some v=>exact a7W v n 0
 ·cases hi with
  | none=>rfl
  | some v=>exact a7W v n n
theorem a7l (i j:Nat):Builtin.Slice.slicePlaces (i:Int) (j:Int) 1=j - i:=by
 unfold Builtin.Slice.slicePlaces;have h1:(1:Int) > 0:=by omega
 simp only [h1,if_true,Int.ediv_one];split <;> omega
theorem a3E {v:Value} {o:Option Int} {Q:Option Int->Shared->Prop} (p:IsPart v o) (h:Q o s):wpAny (model prog w) A (Builtin.Slice.slicePartIndex v) Q E s:=by
 cases p with
 | none=>exact slicePart_none h
 | int i t=>exact slicePart_int h
theorem a1G {sl:Addr} {vl vu:Value} {lo hi:Option Int} {n:Nat} {Q:Int × Int × Nat->Shared->Prop} (hs:s.heap.IsSliceOf sl vl vu .none) (pl:IsPart vl lo) (pu:IsPart vu hi)
  (h:Q (((sIx n 0 lo:Nat):Int),1,sIx n n hi - sIx n 0 lo) s):wpAny (model prog w) A (Builtin.Slice.sliceApplied (.ref sl) (pure (n:Int))) Q E s:=by
 obtain ⟨os,hos,hcs,hds⟩:=id hs;unfold Builtin.Slice.sliceApplied Builtin.Slice.sliceFields;refine wpAny_bind (wpAny_bind (wpAny_field hos hds (x:=vl) rfl (wpAny_bind (wpAny_field hos hds (x:=vu) rfl (wpAny_bind (wpAny_field hos hds (x:=.none) rfl (wpAny_pure ?_)))))));refine wpAny_bind (slicePart_none ?_);show wpAny _ _ (if ((1:Int) == 0)=true then _ else _) _ _ s;rw [if_neg (by decide)];refine wpAny_bind (a3E pl (wpAny_bind (a3E pu (wpAny_bind (wpAny_pure ?_)))));show wpAny _ _ (match Builtin.Slice.sliceAdjust lo hi 1 (n:Int) with | (lo,hi)=>pure (lo,(1:Int),Builtin.Slice.slicePlaces lo hi 1)) _ _ s;rw [a7k lo hi n];show wpAny _ _ (pure (((sIx n 0 lo:Nat):Int),(1:Int),Builtin.Slice.slicePlaces ((sIx n 0 lo:Nat):Int) ((sIx n n hi:Nat):Int) 1)) _ _ s;rw [a7l];exact wpAny_pure h
theorem b0o (xs:Array Value) (i k:Nat):((List.range k).filterMap λ(m:Nat)=>xs[((i:Int)+(m:Int) * 1).toNat]?).toArray=((xs.toList.drop i).take k).toArray:=by
 have e:(λ(m:Nat)=>xs[((i:Int)+(m:Int) * 1).toNat]?)=λm=>xs[i+m]?:=by
  funext m;have:((i:Int)+(m:Int) * 1).toNat=i+m:=by omega
  rw [this]
 rw [e];have:=pick_run xs i k;rw [List.filterMap_map] at this;have e2:((λx=>xs[x]?) ∘ λx=>i+x)=λm=>xs[i+m]?:=rfl;rw [e2] at this;rw [this]
theorem a2u {t sl:Addr} {items:Array Value} {vl vu:Value} {lo hi:Option Int} {Q:Value->Shared->Prop} (ht:IsTup s.heap t items) (hs:s.heap.IsSliceOf sl vl vu .none) (pl:IsPart vl lo) (pu:IsPart vu hi)
  (hw:¬ (sIx items.size 0 lo=0/\sIx items.size items.size hi=items.size))
  (h:Q (.ref s.heap.objs.size) { s with heap:=s.heap.push { cls:=.type "tuple",data:=.seq ((items.toList.drop (sIx items.size 0 lo)).take (sIx items.size items.size hi - sIx items.size 0 lo)).toArray } })
  (hsz:items.size<=sizeLine):wpAny (model prog w) A (getItem (.ref t) (.ref sl)) Q E s:=by
 have htake:sizeOk (.seq ((items.toList.drop (sIx items.size 0 lo)).take (sIx items.size items.size hi - sIx items.size 0 lo)).toArray):=by
  show ((items.toList.drop (sIx items.size 0 lo)).take (sIx items.size items.size hi - sIx items.size 0 lo)).toArray.size<=sizeLine;rw [List.size_toArray,List.length_take,List.length_drop,Array.length_toList];omega
 have hj:sIx items.size items.size hi<=items.size:=sIx_le _ _ (Nat.le_refl _) hi;obtain ⟨os,hos,hcs,hds⟩:=id hs;have hTs:s.TypeIs (.ref sl) "slice":=⟨os,hos,hcs⟩
 unfold getItem
 try with_reducible refine wpAny_holding ?_
 first | refine wpAny_bind (wpAny_pure ?_) | skip
 refine wpAny_bind (wpAny_sequenceKey ht.typeIs (by decide) ?_);refine wpAny_bind (wpAny_callSpecial?_slot (name:=Str.ofString "__getitem__") ht.typeIs PyProof.Rows.slot_tuple_getitem
  (wpAny_call_entry PyProof.Rows.slot_tuple_getitem ht.typeIs entry_tuple_getitem ?_ (args_tuple_getitem _ _)))
 show wpAny _ _ (Builtin.Tuple.tupleItemsOf (.ref t) >>= _) _ _ s;refine wpAny_bind (tupleItemsOf_ ht ?_);refine wpAny_bind (wpAny_typeOf hTs ?_);rw [if_pos (by decide)];refine wpAny_bind (a1G hs pl pu ?_);have hno:¬ ((((sIx items.size 0 lo:Nat):Int) == 0 && (1:Int) == 1 && (sIx items.size items.size hi - sIx items.size 0 lo) == items.size)=true):=by
  intro q;rw [Bool.and_eq_true,Bool.and_eq_true] at q;have q1:((sIx items.size 0 lo:Nat):Int)=0:=eq_of_beq q.1.1;have q2:sIx items.size items.size hi - sIx items.size 0 lo=items.size:=eq_of_beq q.2;exact hw ⟨by omega,by omega⟩
 show wpAny _ _ (if (((sIx items.size 0 lo:Nat):Int) == 0 && (1:Int) == 1 && (sIx items.size items.size hi - sIx items.size 0 lo) == items.size)=true then _ else _) _ _ s;rw [if_neg hno,b0o]
 first
  | exact wpAny_bind (m:=Builtin.Tuple.tupleExact _) (wpAny_newObj_type (wpAny_pure ⟨_,rfl,wpAny_pure h⟩) htake)
  | exact wpAny_bind (m:=Builtin.Tuple.tupleExact _) (wpAny_newObj_type (wpAny_bind (wpAny_pure (wpAny_pure ⟨_,rfl,wpAny_pure h⟩))) htake)
  | exact wpAny_bind (wpAny_bind (m:=Builtin.Tuple.tupleExact _) (wpAny_newObj_type (wpAny_pure (wpAny_pure ⟨_,rfl,wpAny_pure h⟩)) htake))
  | exact wpAny_bind (wpAny_bind (m:=Builtin.Tuple.tupleExact _) (wpAny_newObj_type (wpAny_pure ⟨_,rfl,wpAny_pure h⟩) htake))
end
end HT
namespace L2
open PySem PySem.Spec PyProof.Rows
abbrev TO:=St->Hp->(Option Int->Hp->Prop)->Prop
def PO (X:Cx) (e:Option Expr) (t:TO):Prop :=
 ∀ (pins:List (Addr × Obj)) (s:Shared) (σ:St) (H:Hp) (Q:Option Int->Hp->Prop),Inv X pins σ H s->t σ H Q ->
  wpAny (model X.prog X.w) X.A (evalPart e X.env) (λu s'=>∃ o H',Inv X pins σ H' s'/\IsPart u o/\Q o H') X.xe s
def b2V:TO:=λ_ H Q=>Q none H
def tPart (t:TE):TO:=λσ H Q=>t σ H λx H1=>∃ i,x=.int i/\Q (some i) H1
theorem a3F {ns:List Int}:∀ {us:List Value},a0z (ns.map V.int) us->IntsAre us ns:=by
 induction ns with
 | nil=>intro us r;rw [List.map_nil] at r;cases r;exact .nil
 | cons n ns ih =>
  intro us r;rw [List.map_cons] at r;cases r with
  | cons r1 r2 =>
   obtain ⟨t,e⟩:=r1;subst e;exact .cons n t (ih r2)
section
variable {X:Cx} {e:Expr} {te:TE} {lo hi:Option Expr} {tl th:TO} {pos p2:Pos}
theorem a5D:PO X none b2V:=by
 intro pins s σ H Q I h;rw [evalPart_none];exact wpAny_pure ⟨none,H,I,.none,h⟩
theorem a5E (h:PE X e te):PO X (some e) (tPart te):=by
 intro pins s σ H Q I hw;rw [evalPart_some];refine thn (h pins s σ H _ I hw) λu s1 ⟨x,H1,I1,r1,q1⟩=>?_;obtain ⟨i,rfl,q⟩:=q1;obtain ⟨t,rfl⟩:=r1;exact ⟨some i,H1,I1,.int i t,q⟩
def SlR (X:Cx) (r:V->Option Int->Option Int->Hp->VK->Prop):Prop :=
 ∀ (pins:List (Addr × Obj)) (s:Shared) (σ:St) (H:Hp) (x:V) (v vl vu:Value) (lo hi:Option Int) (sl:Addr) (Q:VK),Inv X pins σ H s->a0V x v->s.heap.IsSliceOf sl vl vu .none->IsPart vl lo->IsPart vu hi->r x lo hi H Q ->
  ∃ T id,typeLookup (.type T) "__getitem__"=pure (some (.builtin id))/\s.TypeIs v T/\wpAny (model X.prog X.w) X.A (getItem v (.ref sl)) (EP X pins σ Q) X.xe s
def tSl (r:V->Option Int->Option Int->Hp->VK->Prop) (te:TE) (tl th:TO):TE:=λσ H Q=>te σ H λx H1=>tl σ H1 λl H2=>th σ H2 λu H3=>r x l u H3 Q
theorem a4e {r:V->Option Int->Option Int->Hp->VK->Prop} (hr:SlR X r) (he:PE X e te) (hl:PO X lo tl) (hu:PO X hi th):PE X (.Subscript e (.Slice lo hi none p2) pos) (tSl r te tl th):=by
 intro pins s σ H Q I h;refine Subscript_ (thn (he pins s σ H _ I h) λv s1 ⟨x,H1,I1,r1,q1⟩=>?_);refine wpAny_Slice (thn (hl pins s1 σ H1 _ I1 q1) λvl s2 ⟨l,H2,I2,pl,q2⟩=>thn (hu pins s2 σ H2 _ I2 q2) λvu s3 ⟨u,H3,I3,pu,q3⟩=>?_);rw [evalPart_none];refine wpAny_pure ?_;have I4:Inv X pins σ H3 { s3 with heap:=s3.heap.push { cls:=.type "slice",data:=.fields #[vl,vu,.none] } }:=I3.kept (t':=s3.toks) λb ob q=>Heap.get?_push_of_some _ q;obtain ⟨T,id,hT,ht,hg⟩:=hr pins { s3 with heap:=s3.heap.push { cls:=.type "slice",data:=.fields #[vl,vu,.none] } } σ H3 x v vl vu l u s3.heap.objs.size Q I4 r1 (Heap.IsSliceOf.new ..) pl pu q3;show wpAny (model X.prog X.w) X.A (subscriptTail e (.Slice lo hi none p2) v (.ref s3.heap.objs.size)) (EP X pins σ Q) X.xe { s3 with heap:=s3.heap.push { cls:=.type "slice",data:=.fields #[vl,vu,.none] } };exact tail_any (ops:=[.ref s3.heap.objs.size,v]) ht hT hg (by with_unfolding_all rfl)
def a7X (xs:List V) (lo hi:Option Int):List V:=(xs.drop (HT.sIx xs.length 0 lo)).take (HT.sIx xs.length xs.length hi - HT.sIx xs.length 0 lo)
theorem a5F (xs:List V) (lo hi:Option Int):(a7X xs lo hi).length<=xs.length:=by
 unfold a7X;rw [List.length_take,List.length_drop];omega
def rSlT (K:PySem.W.Frag):V->Option Int->Option Int->Hp->VK->Prop:=λx lo hi H Q=>∃ a xs,x=.ref a/\SqT K H a xs /\
 ¬ (HT.sIx xs.length 0 lo=0/\HT.sIx xs.length xs.length hi=xs.length)/\∀ p,H p=none->Q (.ref p) (upd H p (.tup (a7X xs lo hi)))
theorem sl_tup:SlR X (rSlT X.K):=by
 intro pins s σ H x v vl vu lo hi sl Q I rx hs pl pu h;obtain ⟨a,xs,rfl,hx,hw,q⟩:=h;cases rx;obtain ⟨its,r,ht,hz⟩:=I.tuple hx;have hlen:its.toArray.size=xs.length:=by rw [List.size_toArray];exact r.length.symm
 refine ⟨"tuple",_,PyProof.Rows.slot_tuple_getitem.lookup,ht.typeIs,?_⟩;refine HT.a2u ht hs pl pu (by rw [hlen];exact hw) ?_ (by rw [hlen];exact hz);rw [hlen];refine ⟨.ref s.heap.objs.size,_,I.laid (t':=s.toks) (o:=.tup (a7X xs lo hi)) (λb ob q=>Heap.get?_push_of_some _ q) (Nat.le_refl _) ?_,rfl,q _ (I.hok.fresh (Nat.le_refl _))⟩;exact ⟨Nat.le_trans (a5F xs lo hi) hz,_,(r.drop (HT.sIx xs.length 0 lo)).take (HT.sIx xs.length xs.length hi - HT.sIx xs.length 0 lo),a4J.new _ _⟩
def rLtT (K:PySem.W.Frag):R2:=λx y H Q=>∃ a b ns ms,x=.ref a/\y=.ref b/\SqT K H a (ns.map V.int)/\SqT K H b (ms.map V.int)/\Q (.bl (HT.a1d ns ms)) H
theorem op_ltT (hu:X.A.units < cLine):OpR X (compareOp .Lt) (rLtT X.K):=by
 intro pins s σ H x y v u Q I rx ry h;obtain ⟨a,b,ns,ms,rfl,rfl,ha,hb,q⟩:=h;cases rx;cases ry;obtain ⟨its,r1,p1,_⟩:=I.tuple ha;obtain ⟨its2,r2,p2,_⟩:=I.tuple hb;have i1:IntsAre its.toArray.toList ns:=a3F r1;have i2:IntsAre its2.toArray.toList ms:=a3F r2;exact HT.a3D p1 p2 i1 i2 hu ⟨.bl (HT.a1d ns ms),H,I,rfl,q⟩
def rCatT (K:PySem.W.Frag):R2:=λx y H Q=>∃ a b xs ys,x=.ref a/\y=.ref b/\SqT K H a xs/\SqT K H b ys/\xs≠[]/\xs.length+ys.length<=sizeLine /\
 (ys=[]->Q (.ref a) H)/\(ys≠[]->∀ p,H p=none->Q (.ref p) (upd H p (.tup (xs++ys))))
theorem a0z.nil_iff {xs:List V} {us:List Value} (r:a0z xs us):us=[]↔xs=[]:=by
 cases r with
 | nil=>simp
 | cons _ _=>simp
theorem b2W:OpR X (binaryOp .Add) (rCatT X.K):=by
 intro pins s σ H x y v u Q I rx ry h;obtain ⟨a,b,xs,ys,rfl,rfl,ha,hb,hx,hz,q1,q2⟩:=h;cases rx;cases ry;obtain ⟨its,r1,p1,_⟩:=I.tuple ha;obtain ⟨its2,r2,p2,_⟩:=I.tuple hb;refine HT.b2U p1 p2 (λz=>hx (r1.nil_iff.mp z)) (λz=>⟨.ref a,H,I,rfl,q1 (r2.nil_iff.mp z)⟩) (λz=>?_) (by rw [<-r1.length,<-r2.length];exact hz);refine ⟨.ref s.heap.objs.size,_,I.laid (t':=s.toks) (o:=.tup (xs++ys)) (λb ob q=>Heap.get?_push_of_some _ q) (Nat.le_refl _) ?_,rfl,q2 (λw=>z (r2.nil_iff.mpr w)) _ (I.hok.fresh (Nat.le_refl _))⟩;exact ⟨by rw [List.length_append];exact hz,_,r1.append r2,a4J.new _ _⟩
end
def ixN (n:Nat) (i:Int):Option Nat:=if 0<=i then (if i < n then some i.toNat else none) else if -(n:Int)<=i then some (i+n).toNat else none
def atI {α:Type} (xs:List α) (i:Int):Option α:=(ixN xs.length i).bind λj=>xs[j]?
theorem a7Y {n:Nat} {i:Int} {j:Nat} (h:ixN n i=some j):seqIndex? i n=some j/\j < n/\-(n:Int)<=i/\i < n:=by
 unfold ixN at h;by_cases h0:0<=i
 ·rw [if_pos h0] at h;by_cases h1:i < n
  ·rw [if_pos h1] at h;have e:i.toNat=j:=Option.some.inj h;exact ⟨by rw [seqIndex_of h0 h1,e],by omega,by omega,h1⟩
  ·rw [if_neg h1] at h;cases h
 ·rw [if_neg h0] at h;by_cases h1:-(n:Int)<=i
  ·rw [if_pos h1] at h;have e:(i+n).toNat=j:=Option.some.inj h;exact ⟨by rw [seqIndex_neg (by omega) h1,e],by omega,h1,by omega⟩
  ·rw [if_neg h1] at h;cases h
theorem a7Z {α:Type} {xs:List α} {i:Int} {v:α} (h:atI xs i=some v):∃ j,seqIndex? i xs.length=some j/\xs[j]?=some v/\j < xs.length/\-(xs.length:Int)<=i/\i < xs.length:=by
 unfold atI at h;cases e:ixN xs.length i with
 | none=>rw [e] at h;cases h
 | some j =>
  rw [e] at h;obtain ⟨h1,h2,h3,h4⟩:=a7Y e;exact ⟨j,h1,h,h2,h3,h4⟩
theorem a0S {α:Type} {xs:List α} {j:Nat} {v:α} (h:xs[j]?=some v):atI xs (j:Int)=some v:=by
 have hj:j < xs.length:=(List.getElem?_eq_some_iff.mp h).1;have e:ixN xs.length (j:Int)=some j:=by
  unfold ixN;rw [if_pos (by omega),if_pos (by omega)];simp
 unfold atI;rw [e];exact h
theorem a1V {α:Type} (xs:List α) (v:α):atI (xs++[v]) (-1)=some v:=by
 have hl:(xs++[v]).length=xs.length+1:=by simp
 have e:ixN (xs++[v]).length (-1)=some xs.length:=by
  unfold ixN;rw [hl,if_neg (by decide),if_pos (by omega)];congr 1;omega
 unfold atI;rw [e];show (xs++[v])[xs.length]?=some v;simp
def a8a (b:Expr):Prop:=∀ o i,subscripted b false o i=operate [o,i] (getItem o i)
def IxR (X:Cx) (r:R2):Prop :=
 ∀ (value slice:Expr) (pins:List (Addr × Obj)) (s:Shared) (σ:St) (H:Hp) (x y:V) (v u:Value) (Q:VK),Inv X pins σ H s->a0V x v->a0V y u->r x y H Q ->
  subscripted slice false v u=operate [v,u] (getItem v u)->wpAny (model X.prog X.w) X.A (subscriptTail value slice v u) (EP X pins σ Q) X.xe s
def MtR (X:Cx) (id:String) (r:V->List V->Hp->VK->Prop):Prop :=
 ∀ (pins:List (Addr × Obj)) (s:Shared) (σ:St) (H:Hp) (x:V) (xs:List V) (v:Value) (us:List Value) (Q:VK),Inv X pins σ H s->a0V x v->a0z xs us->r x xs H Q ->
  wpAny (model X.prog X.w) X.A (call (.builtin id) (v :: us)) (EP X pins σ Q) X.xe s
section
variable {X:Cx} {a b:Expr} {ta tb:TE} {pos:Pos}
theorem pe_ix {r:R2} (hr:IxR X r) (ha:PE X a ta) (hb:PE X b tb) (hs:a8a b):PE X (.Subscript a b pos) (tOp r ta tb):=by
 intro pins s σ H Q I h;exact Subscript_ (binT ha hb I h λv u s2 x y H2 I2 rx ry q=>hr a b pins s2 σ H2 x y v u Q I2 rx ry q (hs _ _))
theorem pxA {r:R2} (hr:IxR X r) (ha:PE X a ta) (hb:PE X b tb) (hs:a8a b:=by exact λ_ _=>rfl):PE X (.Subscript a b pos) (tOp r ta tb):=pe_ix hr ha hb hs
def rIxL (K:PySem.W.Frag):R2:=λx y H Q=>∃ p xs i v,x=.ref p/\y=.int i/\SqL K H p xs/\atI xs i=some v/\Q v H
def rIxT (K:PySem.W.Frag):R2:=λx y H Q=>∃ p xs i v,x=.ref p/\y=.int i/\SqT K H p xs/\atI xs i=some v/\Q v H
def rIxS:R2:=λx y H Q=>∃ z i c,x=.str z/\y=.int i/\z.length<=sizeLine/\atI z.cps.toList i=some c/\Q (.str ⟨#[c]⟩) H
theorem a0j:IxR X (rIxL X.K):=by
 intro value slice pins s σ H x y v u Q I rx ry h hs;obtain ⟨p,xs,i,z,rfl,rfl,hq,he,q⟩:=h;cases rx;obtain ⟨t,rfl⟩:=ry;obtain ⟨its,r,pl,hz⟩:=I.list hq;obtain ⟨j,h1,h2,h3,h4,h5⟩:=a7Z he;obtain ⟨w,ew,rw'⟩:=r.get h2;have hl:=r.length;have hn:=a6l;have fin:EP X pins σ Q w s:=⟨z,H,I,rw',q⟩
 by_cases h0:0<=i
 ·have hj:i.toNat=j:=by
   rw [seqIndex_of h0 h5] at h1;exact Option.some.inj h1
  exact item_listR pl.isList h0 (by omega) (by rw [hj];simpa using ew) fin hs
 ·have hj:(i+(its.toArray.size:Int)).toNat=j:=by
   rw [seqIndex_neg (by omega) h4] at h1;rw [List.size_toArray,<-hl];exact Option.some.inj h1
  exact subscriptTail_builtinR (x:=w) pl.isList.typeIs slot_list_getitem.lookup
   (wpAny_getItem_list_neg (Q:=λr s'=>r=w/\EP X pins σ Q r s') pl.isList (by omega) (by rw [List.size_toArray] <;> omega) (by omega) (by rw [hj];simpa using ew) ⟨rfl,fin⟩) hs
theorem a0y:IxR X (rIxT X.K):=by
 intro value slice pins s σ H x y v u Q I rx ry h hs;obtain ⟨p,xs,i,z,rfl,rfl,hq,he,q⟩:=h;cases rx;obtain ⟨t,rfl⟩:=ry;obtain ⟨its,r,pl,hz⟩:=I.tuple hq;obtain ⟨j,h1,h2,h3,h4,h5⟩:=a7Z he;obtain ⟨w,ew,rw'⟩:=r.get h2;have hl:=r.length;have hn:=a6l;have fin:EP X pins σ Q w s:=⟨z,H,I,rw',q⟩
 exact subscriptTail_builtinR (x:=w) pl.typeIs slot_tuple_getitem.lookup
  (getItem_tuple (j:=j) (Q:=λr s'=>r=w/\EP X pins σ Q r s') pl (by omega) (by omega) (by rw [List.size_toArray,<-hl];exact h1) (by simpa using ew) ⟨rfl,fin⟩) hs
def rIx (K:PySem.W.Frag):R2:=λx y H Q=>rIxL K x y H Q\/rIxT K x y H Q\/rIxS x y H Q
theorem a7m (its:List Value) (n j:Nat) (u:Value):Obj.mapSeq (·.setIfInBounds j u) { cls:=.type "list",data:=.seq its.toArray n }={ cls:=.type "list",data:=.seq (its.set j u).toArray n }:=by
 simp [Obj.mapSeq]
theorem Inv.lst {pins:List (Addr × Obj)} {σ:St} {H:Hp} {s:Shared} {p:Addr} {xs:List V} (I:Inv X pins σ H s) (h:H p=some (.lst xs)) :
  ∃ (its:List Value) (n:Nat),a0z xs its/\s.heap.get? p=some { cls:=.type "list",data:=.seq its.toArray n }/\xs.length<=sizeLine:=by
 obtain ⟨z,its,n,r,e⟩:=I.hok p _ h;exact ⟨its,n,r,e,z⟩
theorem Inv.lstUpd {pins:List (Addr × Obj)} {σ:St} {H:Hp} {s:Shared} {p:Addr} {xs ys:List V} {its its':List Value} {n n':Nat} {f:Obj->Obj} (I:Inv X pins σ H s) (h:H p=some (.lst xs))
  (ho:s.heap.get? p=some { cls:=.type "list",data:=.seq its.toArray n }) (hf:f { cls:=.type "list",data:=.seq its.toArray n }={ cls:=.type "list",data:=.seq its'.toArray n' }) (r:a0z ys its') (hz:ys.length<=sizeLine) (t:Nat) :
  Inv X pins σ (upd H p (.lst ys)) { s with heap:=s.heap.update p f,toks:=t }:=by
 have e:(s.heap.update p f).get? p=some { cls:=.type "list",data:=.seq its'.toArray n' }:=by
  rw [Heap.get?_update_self f ho (by rw [hf] <;> rfl),hf]
 refine I.write (x:=p) (e:=p) (by rw [h];trivial) (.inl rfl) (λb u hb q=>(Heap.get?_update_other _ _ (Ne.symm hb)).trans q) ⟨_,e⟩ ?_;exact ⟨hz,its',n',r,e⟩
def rSetL:V->V->V->Hp->(Hp->Prop)->Prop:=λo i v H Q=>∃ p xs k j,o=.ref p/\i=.int k/\H p=some (.lst xs)/\ixN xs.length k=some j/\Q (upd H p (.lst (xs.set j v)))
theorem a2j:PSet X rSetL:=by
 intro pins s σ H o i v ov iv u Q I ro ri rv h;obtain ⟨p,xs,k,j,rfl,rfl,hp,hj,q⟩:=h;cases ro;obtain ⟨t,rfl⟩:=ri;obtain ⟨its,n,r,ho,hz⟩:=I.lst hp;obtain ⟨h1,h2,h3,h4⟩:=a7Y hj;have hl:=r.length;have hn:=a6l;have I':Inv X pins σ (upd H p (.lst (xs.set j v))) { s with heap:=s.heap.update p (Obj.mapSeq (·.setIfInBounds j u)) } :=
  I.lstUpd hp ho (a7m its n j u) (r.set rv j) (by rw [List.length_set];exact hz) s.toks
 by_cases h0:0<=k
 ·have hk:k.toNat=j:=by
   rw [seqIndex_of h0 h4] at h1;exact Option.some.inj h1
  exact PySem.W.ki_setAt ho h0 (by omega) (by rw [List.size_toArray,<-hl];exact h4) (by rw [hk];exact ⟨_,I',q⟩)
 ·have hk:(k+(its.toArray.size:Int)).toNat=j:=by
   rw [seqIndex_neg (by omega) h3] at h1;rw [List.size_toArray,<-hl];exact Option.some.inj h1
  exact PySem.W.ki_setBack ho (by omega) (by rw [List.size_toArray,<-hl];exact h3) (by omega) (by rw [hk];exact ⟨_,I',q⟩)
def rSlL (K:PySem.W.Frag):V->Option Int->Option Int->Hp->VK->Prop:=λx lo hi H Q=>∃ a xs,x=.ref a/\SqL K H a xs/\∀ p,H p=none->Q (.ref p) (upd H p (.lst (a7X xs lo hi)))
def flatV:V->Bool
 | .non=>true
 | .bl _=>true
 | .int _=>true
 | .str _=>true
 | _=>false
def eqV:V->V->Bool
 | .non,.non=>true
 | .bl a,.bl b=>a == b
 | .bl a,.int b=>(if a then 1 else 0) == b
 | .int a,.bl b=>a == (if b then 1 else 0)
 | .int a,.int b=>a == b
 | .str a,.str b=>a == b
 | _,_=>false
def eqU (x:V) (u:Value):Bool:=match u with
 | .none=>eqV .non x
 | .bool b=>eqV (.bl b) x
 | .int i _=>eqV (.int i) x
 | .str z _=>eqV (.str z) x
 | _=>false
def inV (x:V) (xs:List V):Bool:=xs.any λy=>eqV y x
def rIn (K:PySem.W.Frag) (neg:Bool):R2:=λx y H Q=>∃ p xs,y=.ref p/\(SqL K H p xs\/SqT K H p xs)/\flatV x=true/\xs.all flatV=true/\Q (.bl (if neg then !inV x xs else inV x xs)) H
theorem a4U:a2q X (.builtin "len") (λxs H Q=>∃ p ys,xs=[.ref p]/\(SqL X.K H p ys\/SqT X.K H p ys)/\Q (.int ys.length) H):=by
 intro pins s σ H xs us Q I r h;obtain ⟨p,ys,rfl,hq,q⟩:=h;obtain ⟨u,rfl,rx⟩:=a3t r;cases rx;have hn:=a6l;rcases hq with hq | hq
 ·obtain ⟨its,r',pl,hz⟩:=I.list hq;have hlen:=r'.length;exact Calls.call_len_list pl.isList (by simp only [List.size_toArray] <;> omega) ⟨.int ys.length,H,I.tok _,⟨s.toks+1,by rw [List.size_toArray,hlen]⟩,q⟩
 ·obtain ⟨its,r',pl,hz⟩:=I.tuple hq;have hlen:=r'.length;exact len_tuple pl (by simp only [List.size_toArray] <;> omega) ⟨.int ys.length,H,I.tok _,⟨s.toks+1,by rw [List.size_toArray,hlen]⟩,q⟩
theorem pln {e:Expr} {te:TE} {p pos:Pos} (ml:X.mg "len"=none) (ha:PE X e te) (hg:Gl X "len":=by rfl) (he:starEach [e] X.env=[(false,eval e X.env)]:=by rfl):PE X (.Call (.Name "len" p) [e] [] pos) (tCB (λxs H Q=>∃ p ys,xs=[.ref p]/\(SqL X.K H p ys\/SqT X.K H p ys)/\Q (.int ys.length) H) (a5C te b2R)):=a0G a4U hg ml PySem.boot_len (a0a ha a0d he) (by decide) (by decide) he rfl
theorem a2E:a2q X (.type "list") (λxs H Q=>∃ p ys,xs=[.ref p]/\(SqL X.K H p ys\/SqT X.K H p ys)/\∀ l,H l=none->Q (.ref l) (upd H l (.lst ys))):=by
 intro pins s σ H xs us Q I r h;obtain ⟨p,ys,rfl,hq,q⟩:=h;obtain ⟨u,rfl,rx⟩:=a3t r;cases rx;have fin:∀ (its:List Value),a0z ys its->ys.length<=sizeLine->∀ (h':Heap) (c':Nat),(∀ b o',s.heap.get? b=some o'->h'.get? b=some o') ->
   h'.get? s.heap.objs.size=some { cls:=.type "list",dict:=none,data:=.seq its.toArray c',slots:=#[] }->EP X pins σ Q (.ref s.heap.objs.size) { s with heap:=h' }:=λits r' hz h' c' kp e =>
  ⟨.ref s.heap.objs.size,_,I.laid (t':=s.toks) kp (Nat.le_refl _) (show a0R X.prog X.w _ h' _ (.lst ys) from ⟨hz,its,c',r',e⟩),rfl,q _ (I.hok.fresh (Nat.le_refl _))⟩
 rcases hq with hq | hq
 ·obtain ⟨its,r',pl,hz⟩:=I.list hq;have hlen:=r'.length;obtain ⟨o,ho,hc,n,hd⟩:=pl.isList;exact call_list_seq p (.inl rfl) ho hc hd (λh' c' kp e=>fin its r' hz h' c' kp e) (by simp only [List.size_toArray] <;> omega)
 ·obtain ⟨its,r',pl,hz⟩:=I.tuple hq;have hlen:=r'.length;obtain ⟨o,ho,hc,n,hd⟩:=pl;exact call_list_seq p (.inr rfl) ho hc hd (λh' c' kp e=>fin its r' hz h' c' kp e) (by simp only [List.size_toArray] <;> omega)
theorem a1A:a2q X (.type "tuple") (λxs H Q=>∃ p ys,xs=[.ref p]/\((SqL X.K H p ys/\∀ l,H l=none->Q (.ref l) (upd H l (.tup ys)))\/(SqT X.K H p ys/\Q (.ref p) H))):=by
 intro pins s σ H xs us Q I r h;obtain ⟨p,ys,rfl,h⟩:=h;obtain ⟨u,rfl,rx⟩:=a3t r;cases rx;rcases h with ⟨hq,q⟩ | ⟨hq,q⟩
 ·obtain ⟨its,r',pl,hz⟩:=I.list hq;have hlen:=r'.length;refine call_tuple_list pl.isList (λh' kp=>?_) (by simp only [List.size_toArray] <;> omega);have I1:Inv X pins σ H { s with heap:=h' }:=I.kept (t':=s.toks) kp;have I2:Inv X pins σ (upd H h'.objs.size (.tup ys)) { s with heap:=h'.push { cls:=.type "tuple",data:=.seq its.toArray } } :=
   I1.laid (t':=s.toks) (λb o e=>Heap.get?_push_of_some _ e) (Nat.le_refl _) (show a0R X.prog X.w _ _ _ (.tup ys) from ⟨hz,its,r',a4J.new _ _⟩)
  exact ⟨.ref h'.objs.size,_,I2,rfl,q _ (I1.hok.fresh (Nat.le_refl _))⟩
 ·obtain ⟨its,r',pl,hz⟩:=I.tuple hq;exact call_tuple_same pl ⟨.ref p,H,I,rfl,q⟩
def tyV (K:PySem.W.Frag) (T:String) (x:V) (H:Hp):Prop:=match x with
 | .str _=>T="str"
 | .int _=>T="int"
 | .ref p=>(T="list"/\∃ xs,SqL K H p xs)\/(T="tuple"/\∃ o,K.lookup p=some o/\o.cls=.type "tuple"/\o.dict=none) \/
   (T="dict"/\((∃ kvs,H p=some (.dK kvs))\/∃ kvs,H p=some (.dT kvs)))\/(T="set"/\∃ S n,H p=some (.set S n))
 | _=>False
theorem b1M {pins:List (Addr × Obj)} {σ:St} {H:Hp} {s:Shared} {T:String} {x:V} {v:Value} (I:Inv X pins σ H s) (r:a0V x v) (ty:tyV X.K T x H) :
  s.TypeIs v T/\∀ a,v=.ref a->∃ ob,s.heap.get? a=some ob/\ob.dict=none:=by
 cases x with
 | str z =>
  obtain ⟨t,rfl⟩:=r;cases (show T="str" from ty);exact ⟨typeIs_str s z t,λ_ e=>nomatch e⟩
 | int i =>
  obtain ⟨t,rfl⟩:=r;cases (show T="int" from ty);exact ⟨typeIs_int s i t,λ_ e=>nomatch e⟩
 | ref p =>
  cases r;rcases ty with ⟨rfl,xs,hq⟩ | ⟨rfl,o,hk,hc,hd⟩ | ⟨rfl,hk⟩ | ⟨rfl,S,n,hk⟩
  ·obtain ⟨its,_,pl,_⟩:=I.list hq;refine ⟨pl.isList.typeIs,λa e=>?_⟩;cases e;obtain ⟨o,n,e,c,hd,_⟩:=pl;exact ⟨o,e,hd⟩
  ·refine ⟨⟨o,I.kIn p o hk,hc⟩,λa e=>?_⟩;cases e;exact ⟨o,I.kIn _ o hk,hd⟩
  ·have z:∃ o,s.heap.get? p=some o/\o.ExactDict:=by
    rcases hk with ⟨kvs,hk⟩ | ⟨kvs,hk⟩
    ·obtain ⟨_,_,_,_,o,_,_,e,ex,_⟩:=I.hok p _ hk;exact ⟨o,e,ex⟩
    ·obtain ⟨_,_,_,_,o,_,_,e,ex,_⟩:=I.hok p _ hk;exact ⟨o,e,ex⟩
   obtain ⟨o,e,ex⟩:=z;refine ⟨⟨o,e,ex.1⟩,λa e2=>?_⟩;cases e2;exact ⟨o,e,ex.2.1⟩
  ·obtain ⟨o,_,_,_,e,ex,_⟩:=I.hok p _ hk;refine ⟨⟨o,e,ex.1⟩,λa e2=>?_⟩;cases e2;exact ⟨o,e,ex.2.1⟩
 | _=>exact False.elim ty
def tBM0 (K:PySem.W.Frag) (T:String) (r:V->List V->Hp->VK->Prop) (to:TE):TE:=λσ H Q=>to σ H λx H1=>tyV K T x H1/\r x [] H1 Q
def tBM (K:PySem.W.Frag) (T:String) (r:V->List V->Hp->VK->Prop) (to:TE) (t:TA):TE:=λσ H Q=>to σ H λx H1=>tyV K T x H1/\t σ H1 λxs H2=>r x xs H2 Q
variable {o e:Expr} {es:List Expr} {to:TE} {t:TA} {name:Str} {apos cpos:Pos} {T id:String} {r:V->List V->Hp->VK->Prop}
theorem b1N (pa:PlainAttrs T) (slot:Slot T name id) (hty:typeOf (.builtin id)=pure (.type "method_descriptor")) (hm:MtR X id r) (ho:PE X o to)
  (hbase:attributeBase o name X.env (eval o X.env)=eval o X.env:=by rfl) (hline:(apos.endLine == cpos.line)=true:=by rfl):PE X (.Call (.Attribute o name apos) [] [] cpos) (tBM0 X.K T r to):=by
 intro pins s σ H Q I h;refine wpAny_Call_method0_late hbase hline (thn (ho pins s σ H _ I h) λv s1 ⟨x,H1,I1,r1,ty,q1⟩=>?_);obtain ⟨h1,h2⟩:=b1M I1 r1 ty;exact ⟨T,id,pa,slot,hty,h1,h2,Calls.callWith_builtin rfl (PySem.evalArgs_none (hm pins s1 σ H1 x [] v [] Q I1 r1 .nil q1))⟩
theorem a3w (pa:PlainAttrs T) (slot:Slot T name id) (hty:typeOf (.builtin id)=pure (.type "method_descriptor")) (hm:MtR X id r) (ho:PE X o to) (ha:PA X (e :: es) t)
  (hbase:attributeBase o name X.env (eval o X.env)=eval o X.env:=by rfl)
  (hfew:((backTo cpos (starEach (e :: es) X.env)).all (λx=>!x.1) && (backToKw cpos (keywordEach [] X.env)).all (λx=>x.1.isSome)
   && decide ((e :: es).length+([]:List Keyword).length+(if ([]:List Keyword).isEmpty then 0 else 1) < 30))=true:=by rfl)
  (hline:(apos.endLine == cpos.line)=true:=by rfl) (hs:starEach (e :: es) X.env=(false,eval e X.env) :: starEach es X.env:=by rfl) (hplain:(backTo cpos (starEach es X.env)).any (·.1)=false:=by rfl) :
  PE X (.Call (.Attribute o name apos) (e :: es) [] cpos) (tBM X.K T r to t):=by
 intro pins s σ H Q I h;refine wpAny_Call_method_late hbase hfew hline rfl (thn (ho pins s σ H _ I h) λv s1 ⟨x,H1,I1,r1,ty,q1⟩=>?_);obtain ⟨h1,h2⟩:=b1M I1 r1 ty;refine ⟨T,id,pa,slot,hty,h1,h2,?_⟩;have hA:=ha cpos pins s1 σ H1 _ I1 q1;rw [hs] at hA ⊢;refine Calls.callWith_builtin (by show (false || (backTo cpos (starEach es X.env)).any (·.1))=false;rw [hplain] <;> rfl) (Calls.evalArgs_plain ?_);exact thn hA λus s2 ⟨vs,H2,I2,r2,q2⟩=>hm pins s2 σ H2 x vs v us Q I2 r1 r2 q2
end
def MtM (X:Cx) (id:String) (r:V->List V->Hp->VK->Prop):Prop :=
 ∀ (pins:List (Addr × Obj)) (s:Shared) (σ:St) (H:Hp) (x:V) (xs:List V) (v:Value) (us:List Value) (Q:VK),Inv X pins σ H s->a0V x v->a0z xs us->r x xs H Q ->
  wpAny (model X.prog X.w) X.A (call (.builtin id) (v :: us)) (EP X pins σ Q) X.xe s
theorem a0z.one:∀ {x:V} {us:List Value},a0z [x] us->∃ u,us=[u]/\a0V x u
 | _,_,.cons r .nil=>⟨_,rfl,r⟩
theorem a0z.two:∀ {x y:V} {us:List Value},a0z [x,y] us->∃ u v,us=[u,v]/\a0V x u/\a0V y v
 | _,_,_,.cons r (.cons q .nil)=>⟨_,_,rfl,r,q⟩
theorem a0z.zero:∀ {us:List Value},a0z [] us->us=[]
 | _,.nil=>rfl
theorem a0z.dropLast {xs:List V} {us:List Value} (h:a0z xs us):a0z xs.dropLast us.dropLast:=by
 induction h with
 | nil=>exact .nil
 | cons r t ih =>
  cases t with
  | nil=>exact .nil
  | cons q t'=>exact .cons r ih
theorem a0z.rep {xs:List V} {us:List Value} (h:a0z xs us):∀ k:Nat,a0z (List.replicate k xs).flatten (List.replicate k us).flatten
 | 0=>.nil
 | k+1=>by
  rw [List.replicate_succ,List.replicate_succ,List.flatten_cons,List.flatten_cons];exact a0z.append h (a0z.rep h k)
theorem a7n {α:Type} (l:List α):l.eraseIdx (l.length - 1)=l.dropLast:=by
 induction l with
 | nil=>rfl
 | cons a r ih =>
  cases r with
  | nil=>rfl
  | cons b r =>
   have e:(a :: b :: r).length - 1=((b :: r).length - 1)+1:=by
    have h1:(a :: b :: r).length=r.length+2:=rfl;have h2:(b :: r).length=r.length+1:=rfl;omega
   rw [e,List.eraseIdx_cons_succ,ih]
   all_goals rfl
theorem a4V (its:List Value):∀ (k:Nat) (acc:List Value),
  List.foldl (λx1 x2=>x1++x2) acc.toArray (List.replicate k its.toArray)=(acc++(List.replicate k its).flatten).toArray
 | 0,acc=>by simp
 | k+1,acc=>by
  have e:acc.toArray++its.toArray=(acc++its).toArray:=by simp
  have e2:(acc++its)++(List.replicate k its).flatten=acc++(List.replicate (k+1) its).flatten:=by
   rw [List.replicate_succ,List.flatten_cons,List.append_assoc]
  rw [<-e2,<-a4V its k (acc++its),<-e,List.replicate_succ,List.foldl_cons]
section
variable {X:Cx} {pins:List (Addr × Obj)} {σ:St} {H:Hp} {s:Shared} {l b:Addr} {xs ys zs:List V}
theorem Inv.lset {its its':List Value} {n:Nat} {f:Array Value->Array Value} {t':Nat} (I:Inv X pins σ H s) (hH:H l=some (.lst xs))
  (e:s.heap.get? l=some { cls:=.type "list",data:=.seq its.toArray n }) (hf:f its.toArray=its'.toArray) (hv:a0z ys its') (hz:ys.length<=sizeLine) :
  Inv X pins σ (upd H l (.lst ys)) { s with heap:=s.heap.update l (Obj.mapSeq f),toks:=t' }:=by
 have q:=PySem.IsL.update e f;rw [hf] at q;refine I.write (x:=l) (e:=l) (by rw [hH];exact trivial) (.inl rfl) (λb' u hb hu=>(Heap.get?_update_other s.heap (Obj.mapSeq f) (Ne.symm hb)).trans hu) ⟨_,q⟩ ?_;exact ⟨hz,its',_,hv,q⟩
theorem Inv.lnew {its:List Value} {t':Nat} (I:Inv X pins σ H s) (hv:a0z ys its) (hz:ys.length<=sizeLine) :
  Inv X pins σ (upd H s.heap.objs.size (.lst ys)) { s with heap:=s.heap.push { cls:=.type "list",data:=.seq its.toArray },toks:=t' } :=
 I.laid (λ_ _ q=>Heap.get?_push_of_some _ q) (Nat.le_refl _) ⟨hz,its,0,hv,Heap.get?_push_size _ rfl⟩
theorem Inv.fresh (I:Inv X pins σ H s):H s.heap.objs.size=none:=I.hok.fresh (Nat.le_refl _)
theorem Inv.lstM (I:Inv X pins σ H s) (hH:H l=some (.lst xs)):xs.length<=sizeLine/\∃ (its:List Value) (n:Nat),a0z xs its/\xs.length=its.length/\s.heap.get? l=some { cls:=.type "list",data:=.seq its.toArray n }:=by
 obtain ⟨z,its,n,r,e⟩:=I.hok l _ hH;exact ⟨z,its,n,r,r.length,e⟩
theorem a6p {n:Nat} (h:n<=sizeLine):Builtin.List.listTooLong n=false:=by
 unfold Builtin.List.listTooLong;exact decide_eq_false (by omega)
end
section
variable {X:Cx}
def b2X:V->List V->Hp->VK->Prop:=λx vs H Q=>∃ l xs y,x=.ref l/\vs=[y]/\H l=some (.lst xs)/\xs.length < sizeLine/\Q .non (upd H l (.lst (xs++[y])))
theorem a1f:MtM X "list.append" b2X:=by
 intro pins s σ H x vs v us Q I rx rv h;obtain ⟨l,xs,y,rfl,rfl,hH,hz,q⟩:=h;cases rx;obtain ⟨u,rfl,ru⟩:=rv.one;obtain ⟨z,its,n,r,hl,e⟩:=I.lstM hH;refine call_meets F.slot_list_append ⟨_,e,rfl⟩ F.entry_list_append (F.args_list_append_2 _ _) (PySem.list_append l its.toArray n u (by rw [List.size_toArray];omega)) ⟨e,?_⟩;refine ⟨.non,_,I.lset (its':=its++[u]) hH e (by simp) (r.append (.cons ru .nil)) ?_,rfl,q⟩;rw [List.length_append,List.length_singleton];omega
def b2Y:V->List V->Hp->VK->Prop:=λx vs H Q=>∃ l b xs zs,x=.ref l/\vs=[.ref b]/\H l=some (.lst xs)/\H b=some (.lst zs)/\xs.length+zs.length<=sizeLine/\Q .non (upd H l (.lst (xs++zs)))
theorem a4W:MtM X "list.extend" b2Y:=by
 intro pins s σ H x vs v us Q I rx rv h;obtain ⟨l,b,xs,zs,rfl,rfl,hH,hB,hz,q⟩:=h;cases rx;obtain ⟨u,rfl,ru⟩:=rv.one;cases ru;obtain ⟨z,its,n,r,hl,e⟩:=I.lstM hH;obtain ⟨z2,its2,n2,r2,hl2,e2⟩:=I.lstM hB;have hsz:its.toArray.size+its2.toArray.size<=sizeLine:=by rw [List.size_toArray,List.size_toArray];omega
 have hlong:¬ (!its.toArray.isEmpty && Builtin.List.listTooLong (its.toArray.size+its2.toArray.size))=true:=by
  rw [a6p hsz,Bool.and_false];exact Bool.false_ne_true
 refine call_meets F.slot_list_extend ⟨_,e,rfl⟩ F.entry_list_extend (F.args_list_extend_2 _ _)
  (AutoSeq1.list_extend_list_list_0 l its.toArray n b its2.toArray n2 hlong (by rw [List.size_toArray];omega) (by omega)) ⟨e,e2,?_⟩
 refine ⟨.non,_,I.lset (its':=its++its2) hH e (by simp) (r.append r2) ?_,rfl,q⟩;rw [List.length_append];omega
def rPop:V->List V->Hp->VK->Prop:=λx vs H Q=>∃ l xs y,x=.ref l/\vs=[]/\H l=some (.lst xs)/\xs[xs.length - 1]?=some y/\Q y (upd H l (.lst xs.dropLast))
theorem b1O:MtM X "list.pop" rPop:=by
 intro pins s σ H x vs v us Q I rx rv h;obtain ⟨l,xs,y,rfl,rfl,hH,hy,q⟩:=h;cases rx;have hus:=rv.zero;subst hus;obtain ⟨z,its,n,r,hl,e⟩:=I.lstM hH;obtain ⟨u,hu,ru⟩:=r.get hy;have hy':its.toArray[its.toArray.size - 1]?=some u:=by
  show its.toArray[its.length - 1]?=some u;rw [<-Array.getElem?_toList,<-hl];exact hu
 refine call_meets F.slot_list_pop ⟨_,e,rfl⟩ F.entry_list_pop (F.args_list_pop_1 _) (MeetsSeq.list_pop_last l its.toArray n u hy' (by rw [List.size_toArray];omega)) ⟨e,?_⟩;refine ⟨y,_,I.lset (its':=its.dropLast) hH e ?_ r.dropLast ?_,ru,q⟩
 ·show its.toArray.eraseIdxIfInBounds (its.toArray.size - 1)=its.dropLast.toArray;rw [List.size_toArray,List.eraseIdxIfInBounds_toArray,a7n]
 ·rw [List.length_dropLast];omega
def rCat:R2:=λx y H Q=>∃ l b xs zs,x=.ref l/\y=.ref b/\H l=some (.lst xs)/\H b=some (.lst zs)/\xs.length+zs.length<=sizeLine/\∀ p,H p=none->Q (.ref p) (upd H p (.lst (xs++zs)))
theorem a8b:OpR X (binaryOp .Add) rCat:=by
 intro pins s σ H x y v u Q I rx ry h;obtain ⟨l,b,xs,zs,rfl,rfl,hH,hB,hz,q⟩:=h;cases rx;cases ry;obtain ⟨z,its,n,r,hl,e⟩:=I.lstM hH;obtain ⟨z2,its2,n2,r2,hl2,e2⟩:=I.lstM hB;refine PySem.P.add_list e e2 ?_ (by rw [List.size_toArray,List.size_toArray];omega);have ea:its.toArray++its2.toArray=(its++its2).toArray:=by simp
 rw [ea];exact ⟨.ref _,_,I.lnew (t':=s.toks) (r.append r2) (by rw [List.length_append];omega),rfl,q _ I.fresh⟩
def rRep:R2:=λx y H Q=>∃ l k xs,x=.ref l/\y=.int k/\H l=some (.lst xs)/\-(2 ^ 63)<=k/\k < 2 ^ 63/\xs.length * k.toNat<=sizeLine /\
 ∀ p,H p=none->Q (.ref p) (upd H p (.lst (List.replicate k.toNat xs).flatten))
theorem b2Z {α:Type} (xs:List α) (k:Nat):(List.replicate k xs).flatten.length=k * xs.length:=by
 induction k with
 | zero=>simp
 | succ k ih=>rw [List.replicate_succ,List.flatten_cons,List.length_append,ih,Nat.succ_mul,Nat.add_comm]
theorem b1P:OpR X (binaryOp .Mult) rRep:=by
 intro pins s σ H x y v u Q I rx ry h;obtain ⟨l,k,xs,rfl,rfl,hH,h1,h2,hz,q⟩:=h;cases rx;obtain ⟨t,rfl⟩:=ry;obtain ⟨z,its,n,r,hl,e⟩:=I.lstM hH;have hlen:its.toArray.size * k.toNat<=sizeLine:=by rw [List.size_toArray,<-hl];exact hz
 have hcap:¬ its.toArray.size * k.toNat > (2 ^ 63 - 1) / 8:=by
  have:(sizeLine:Nat)<=(2 ^ 63 - 1) / 8:=by decide
  omega
 have hfit:¬ (!Builtin.List.listFitsIndex k)=true:=by
  rw [fitsIndex_both h1 h2];exact Bool.false_ne_true
 have hlong:¬ Builtin.List.listTooLong (its.toArray.size * k.toNat)=true:=by
  rw [a6p hlen];exact Bool.false_ne_true
 have hnew:List.foldl (λx1 x2=>x1++x2) #[] (List.replicate (if its.toArray.isEmpty=true then 0 else k.toNat) its.toArray)=(List.replicate k.toNat its).flatten.toArray:=by
  have f0:∀ m:Nat,List.foldl (λx1 x2=>x1++x2) #[] (List.replicate m its.toArray)=(List.replicate m its).flatten.toArray:=λm=>by
   have:=a4V its m [];rw [List.nil_append] at this;exact this
  rw [f0];cases its with
  | nil=>simp
  | cons a r'=>rw [if_neg (by simp)]
 refine wpAny_binaryOp_repeat_ref (T:="list") (U:="int") (by decide) ⟨_,e,rfl⟩ (λs'=>typeIs_int s' k t) noFill_list_mul F.fills_int_mul F.slot_int_rmul repeat_list F.slot_int_index.lookup
  (call_meets F.slot_int_rmul (typeIs_int s k t) F.entry_int_rmul (F.args_int_rmul_2 _ _) (int___rmul___int_list k t l its.toArray n)
   ⟨e,rfl,⟨_,e,rfl⟩,call_meets F.slot_list_mul ⟨_,e,rfl⟩ F.entry_list_mul (F.args_list_mul_2 _ _) (AutoListH.list___mul___list_int_3 l its.toArray n k t hfit hcap hlong) ⟨e,?_⟩⟩)
 rw [hnew];exact ⟨.ref _,_,I.lnew (t':=s.toks) (r.rep k.toNat) (by rw [b2Z,Nat.mul_comm];exact hz),rfl,q _ I.fresh⟩
end
variable {prog:Program} {w:World} {A:Around} {E:Value->Shared->Prop} {s:Shared}
section
variable {X:Cx}
end
end L2
namespace Att
open PySem PySem.W PySem.Calls PyProof.Rows
theorem a2W {P:Params} {h:Heap}:∀ (ns:List Int) (vs:List Value),WellAll P h vs (ns.map WData.int)->IntsAre vs ns:=by
 intro ns
 induction ns with
 | nil =>
  intro vs w;rw [List.map_nil] at w;cases w;exact .nil
 | cons n ns ih =>
  intro vs w;rw [List.map_cons] at w;cases w with
  | cons a b =>
   cases a;exact .cons _ _ (ih _ b)
theorem a8c {l:OpenLaw} {n:Nat} (hn:l.most=some n) {P:Params} {h:Heap} {args:List WData} {vals:List Value}
  (hpre:l.row.toRowW.claim.pre args=true) (hwl:WellAll P h vals args) :
  ∃ a vs ns,vals=[Value.ref a]/\args=[WData.list (ns.map WData.int)]/\h.get? a=some { cls:=.type "list",data:=.seq vs.toArray }/\IntsAre vs ns/\ns.length<=n:=by
 have hsh:WShape.hasAll [] args [.list .int]=true:=(pre_splitW hpre).1;have hc:l.pre.holds [] { args:=args }=true:=(pre_splitW hpre).2;obtain ⟨d,r,rfl,h1,h2⟩:=hasAllW_cons hsh;obtain rfl:=hasAllW_nil h2;obtain ⟨xs,rfl,h3⟩:=hasW_list h1;obtain ⟨ns,rfl⟩:=items_int h3;have hlen:ns.length<=n:=by
  unfold OpenLaw.pre at hc;have h4:(WTm.not (.lt (.lit (.int (n:Int))) (.len (.arg 0)))).holds [] { args:=[.list (ns.map .int)] }=true:=by
   have h4:=(holds_andW hc).1;rw [hn] at h4;exact h4
  have h5:=condW_of h4 (w_not (w_lt w_lit (w_len_list (w_arg rfl))));rw [List.length_map] at h5;refine Nat.le_of_not_lt λq=>?_;have q':(n:Int) < ((ns.length:Nat):Int):=by omega
  first
   | (rw [decide_eq_true q'] at h5;exact absurd h5 (by decide))
   | (simp at h5;omega)
 cases hwl with
 | cons w1 w2 =>
  cases w2;cases w1 with
  | list ho hall=>exact ⟨_,_,ns,rfl,rfl,ho,a2W ns _ hall,hlen⟩
theorem a8d (l:OpenLaw) (args:List WData):l.row.toRowW.claim.post args (.bool true) args=true :=
 postW_of (r:=l.row.toRowW) (X:=(true == true))
  (show WShape.has [] (.bool true) .bool=true by first | rfl | decide | simp [WShape.has,WShape.arms,WShape.armsAll])
  (show (WTm.eq .res (.lit (.bool true))).value [] { args:=args,res:=some (.bool true),after:=args }=some (.bool (true == true)) from w_eq_bool (w_res rfl) w_lit) rfl
theorem a5G {l:OpenLaw} {n:Nat} {q:Program} {loose:List Str} {XP:(Str->Option Value)->Heap->Prop} {YP:World->Heap->Prop} {d:DefRec}
  (hn:l.most=some n) (hdf:d.params.defaults=[])
  (call:∀ (w:World) (s₀ s₁:Shared) (mg mb:Str->Option Value) (fa:Addr) (o:Obj) (pm cd doc:Value) (a:Addr) (vs:List Value) (ns:List Int),
   Ground q loose [] XP w s₀ mg mb s₁.heap->YP w s₁.heap ->
   s₁.heap.get? fa=some o->o.data=.func (docDef d.name d.params d.body d.scope pm cd doc)->s₁.heap.CodeRec cd d.name->mg d.name=some (.ref fa) ->
   s₁.heap.get? a=some { cls:=.type "list",data:=.seq vs.toArray }->IntsAre vs ns->ns.length<=n->s₁.gens=#[] ->
   codeAny (model l.prog w) callerA (.call (.ref fa) ⟨[.ref a],[]⟩) (λr s'=>r=.ok (.ret (.bool true))/\OldK s₁.heap s'.heap/\s'.os=s₁.os/\AllBare s'.gens) s₁) :
  WalkO q loose XP YP l.row.toRowW d [] (λf vs=>PySem.call f vs):=by
 intro w s₀ s₁ mg mb G Y fa o pm cd doc dV kV ho hd hcd hD hmg hg args vals as hpre hlay hrd hwl hlo;obtain rfl:dV=.none:=Dflts.none hD hdf;obtain rfl:kV=.none:=Dflts.noKw hD;obtain ⟨a,vs,ns,rfl,rfl,hobj,hints,hlen⟩:=a8c hn hpre hwl;refine enter_call (codeAny_mono (call w s₀ s₁ mg mb fa o pm cd doc a vs ns G Y ho (fd_plain hd) hcd hmg hobj hints hlen hg) λr s' hq=>?_);obtain ⟨rfl,h2,h3,h4⟩:=hq;exact ⟨.inl ⟨.bool true,.bool true,[],rfl,λ_=>rfl,.bool true,a8d l _,λ_=>⟨List.Pairwise.nil,λ_ hm=>(nomatch hm)⟩⟩,h2,h3,h4⟩
section
variable {prog:Program} {w:World} {A:Around} {E:Value->Shared->Prop} {s:Shared} {K:Frag}
def ledger (h:Heap) (L d:Addr):List (Addr × Obj):=(List.range h.objs.size).filterMap λa=>if a=L\/a=d then none else (h.get? a).map λo=>(a,o)
end
end Att
namespace L2
open PySem PySem.Spec PyProof.Rows
theorem a4X:∀ {vs:List Value} {ns:List Int},IntsAre vs ns->a0z (ns.map V.int) vs
 | _,_,.nil=>.nil
 | _,_,.cons n t h=>.cons ⟨t,rfl⟩ (a4X h)
def Only (H:Hp):Prop:=∀ b,H b=none\/∃ o xs,H b=some (.frz o (.lst xs))
abbrev KOf {K:PySem.W.Frag} {h:Heap} (_:K.In h):PySem.W.Frag:=K
def inClass (s:Stmt) (j:Nat):Stmt:=match s with
 | .ClassDef _ _ _ body _ _ _ _ _ _ _=>body.getD j (.Pass ⟨0,0,0,0⟩)
 | _=>.Pass ⟨0,0,0,0⟩
def a0T (s:Stmt):Arguments:=match s with
 | .FunctionDef _ a _ _ _ _ _ _ _ _=>a
 | _=>{ posonlyargs:=[],args:=[],vararg:=none,kwonlyargs:=[],kw_defaults:=[],kwarg:=none,defaults:=[] }
def a0D (s:Stmt):List Stmt:=match s with
 | .FunctionDef _ _ b _ _ _ _ _ _ _=>b
 | _=>[]
def a0g (s:Stmt):Scope:=match s with
 | .FunctionDef _ _ _ _ _ _ sc _ _ _=>sc
 | _=>{ kind:=.function,names:=[],isGenerator:=false,isCoroutine:=false }
abbrev CX0:CXT:=λ_ _ _ _ _ _=>False
abbrev E0:XK:=λ_ _ _=>False
theorem a0Y {X:Cx}:a1M CX0 X E0:=λ_ _ _ _ _ _ _ h=>h.elim
structure Fun (K:PySem.W.Frag) (x qual:Str) (st:Stmt) (f:Addr) (fd:FuncData):Prop where
 ex:∃ (oc:Value) (od:Option Addr) (kV doc pm:Value) (an:Option Addr) (cdv ct:Value) (osl:Array (Option Value)),
  fd=PySem.W.fnOf x qual (a0T st) (a0D st) (a0g st) .none kV doc pm an cdv ct/\K.lookup f=some ⟨oc,od,.func fd,osl⟩/\PySem.W.codeIn K cdv qual=true
 kp:PySem.W.keepIn K (.ref f)=true
section
variable {P:Program} {w:World} {K:PySem.W.Frag} {mg:Str->Option Value} {base:Heap}
theorem Fun.ok {x qual:Str} {st:Stmt} {f:Addr} {fd:FuncData} {N ps:List Str} {k:Nat} {sp:Sp} (F:Fun K x qual st f fd) (S:a0k N ps (a0g st)) (len:∀ vs H Q E,sp vs H Q E->vs.length=ps.length)
  (hbody:∀ (cdv:Value) (A:Around) (outer:List Env) (s:Shared) (H:Hp) (vs:List V) (Q:VK) (E:XK),a1L k (A.deeper (envOfC qual (a0g st) s.heap.objs.size f cdv))->sp vs H Q E ->
   ∃ t,PSs (a5B CX0 P w K mg base N qual (a0g st) f cdv A outer s H E).nox (a0D st) t/\t { nx:=λ_ H'=>Q .non H',rt:=Q } (start N vs) H):a0M P w K mg base CX0 (k+1) f fd ps sp:=by
 obtain ⟨oc,od,kV,doc,pm,an,cdv,ct,osl,rfl,lk,hcd⟩:=F.ex;refine b2T lk hcd S len λA outer s H vs Q E hr hsp=>?_;obtain ⟨t,h,q⟩:=hbody cdv A outer s H vs Q E hr hsp;exact ⟨t,h.nox,q⟩
theorem Fun.binds {x qual:Str} {st:Stmt} {f:Addr} {fd:FuncData} {ps:List Str} (F:Fun K x qual st f fd)
  (h:∀ (kV doc pm:Value) (an:Option Addr) (cdv ct:Value) (us:List Value),us.length=ps.length->bindArgs (PySem.W.fnOf x qual (a0T st) (a0D st) (a0g st) .none kV doc pm an cdv ct) ⟨us,[]⟩=pure (ps.zip us)):a1r K fd ps []:=by
 obtain ⟨oc,od,kV,doc,pm,an,cdv,ct,osl,rfl,lk,hcd⟩:=F.ex;exact .all (h kV doc pm an cdv ct)
theorem a6q {x qual:Str} {st:Stmt} {f:Addr} {oc:Value} {od an:Option Addr} {osl:Array (Option Value)} {kV doc pm cdv ct:Value} (l:K.lookup f=some ⟨oc,od,.func (PySem.W.fnOf x qual (a0T st) (a0D st) (a0g st) .none kV doc pm an cdv ct),osl⟩)
  (c:PySem.W.codeIn K cdv qual=true) (k:PySem.W.keepIn K (.ref f)=true):Fun K x qual st f (PySem.W.fnOf x qual (a0T st) (a0D st) (a0g st) .none kV doc pm an cdv ct):=⟨⟨oc,od,kV,doc,pm,an,cdv,ct,osl,rfl,l,c⟩,k⟩
end
theorem a0m {n:Nat} (h:n<=1000):n < sizeLine:=Nat.lt_of_le_of_lt h (by decide)
section
variable {X:Cx}
theorem pv (i:Nat) {x:Str} {pos:Pos} (hN:X.N[i]?=some x:=by rfl) (hv:Vis X.env.scope x:=by first | exact Or.inl rfl | exact Or.inr (Or.inl rfl) | exact Or.inr (Or.inr rfl)) (hd:(x == ("__debug__":Str))=false:=by decide)
  (hcd:(x == ("__classdict__":Str))=false:=by decide):PE X (.Name x pos) (tVar i):=b1G hN hv hd hcd
end
theorem a3G {A B:Prop} (h:B):if false=true then A else B:=by
 rw [if_neg Bool.false_ne_true];exact h
theorem a6r {A B:Prop} (h:A):if true=true then A else B:=by
 rw [if_pos rfl];exact h
theorem a2b {c A B:Prop} [Decidable c] (h1:c->A) (h2:¬ c->B):if c then A else B:=by
 by_cases h:c
 ·rw [if_pos h];exact h1 h
 ·rw [if_neg h];exact h2 h
def a0p (H H':Hp):Prop:=∀ b o,H b=some o->H' b=some o
theorem a0p.refl (H:Hp):a0p H H:=λ_ _ h=>h
theorem a0p.trans {H H1 H2:Hp} (a:a0p H H1) (b:a0p H1 H2):a0p H H2:=λc o h=>b c o (a c o h)
theorem a0p.free {H H':Hp} (e:a0p H H') {l:Addr} (h:H' l=Option.none):H l=Option.none:=by
 cases q:H l with
 | none=>rfl
 | some o =>
  rw [e l o q] at h;cases h
theorem a0p.seq {K:PySem.W.Frag} {H H':Hp} {a:Addr} {xs:List V} (e:a0p H H') (h:SqL K H a xs):SqL K H' a xs:=by
 rcases h with (h | ⟨o,h⟩) | h
 ·exact .inl (.inl (e _ _ h))
 ·exact .inl (.inr ⟨o,e _ _ h⟩)
 ·exact .inr h
section
variable {prog:Program} {w:World} {A:Around} {R:Result->Shared->Prop} {s:Shared}
abbrev a8e (cs:List Expr) (en:Env):Sem Bool :=
 forIn cs true λc r=>if r=true then do let ok <-isTrue c en (eval c en);pure (ForInStep.yield ok) else pure (ForInStep.yield r)
theorem a7o {elt tg iter:Expr} {cs:List Expr} {scope:Scope} {pos:Pos} {it acc:Value} {en:Env} {EE:Value->Shared->Prop} (hE:EE=notedBy (model prog w) A en λe s'=>R (.error e) s') (J:Nat->Shared->Prop)
  (turn:∀ n s,J n s->wpAny (model prog w) A (pyNext it) (λr s1=>match r with
   | none=>R (.ok .next) s1
   | some v=>wpAny (model prog w) A (letOwnedTupleGo tg it v) (λ_ sg=>wpAny (model prog w) A (assign tg en v) (λ_ s2=>wpAny (model prog w) A (a8e cs en) (λok s3 =>
     if ok=true then wpAny (model prog w) A (eval elt en) (λy s4=>wpAny (model prog w) A (call (.builtin "list.append") [acc,y]) (λ_ s5=>∃ m,m < n/\J m s5) EE s4) EE s3
     else ∃ m,m < n/\J m s3) EE s2) EE sg) EE s1) EE s)
  (n:Nat) (h:J n s):codeAny (model prog w) A (.compLoop (.ListComp elt [⟨tg,iter,cs,0⟩] scope pos) 0 it acc en) R s:=by
 subst hE;refine codeAny_loop rfl J (λn s hJ=>?_) n h;show wpAny _ A (Sem.onRaise (compTurn (.ListComp elt [⟨tg,iter,cs,0⟩] scope pos) 0 it acc en) (λx=>do noteFrame x en;theTreesLotGoes x)) _ _ s;refine wpAny_noted ?_;rw [compTurn_list];refine wpAny_bind (wpAny_standAt (wpAny_bind (thn (turn n s hJ) λr s1 q1=>?_)));cases r with
 | none=>exact wpAny_pure q1
 | some v =>
  refine wpAny_bind (thn q1 λ_ sg qg=>wpAny_bind (thn qg λ_ s2 q2=>wpAny_bind (thn q2 λok s3 q3=>?_)));cases ok with
  | false=>exact wpAny_pure ⟨rfl,q3⟩
  | true=>exact wpAny_bind (wpAny_bind (thn q3 λy s4 q4=>wpAny_bind (thn q4 λ_ s5 q5=>wpAny_pure (wpAny_pure ⟨rfl,q5⟩))))
end
def PTs (X:Cx) (cs:List Expr) (t:TT):Prop :=
 ∀ (pins:List (Addr × Obj)) (s:Shared) (σ:St) (H:Hp) (Q:Bool->Hp->Prop),Inv X pins σ H s->t σ H Q->wpAny (model X.prog X.w) X.A (a8e cs X.env) (TP X pins σ Q) X.xe s
def b0p:TT:=λ_ H Q=>Q true H
theorem a0L {X:Cx}:PTs X [] b0p:=λ_ _ _ H _ I h=>wpAny_tests_nil ⟨H,I,h⟩
theorem a2v {X:Cx} {c:Expr} {t:TT} (h:PT X c t):PTs X [c] t:=λpins s σ H Q I q=>wpAny_tests_one (h pins s σ H Q I q)
theorem a1N {en:Env}:∀ (names:List (Str × NameKind)) (acc:List (Str × Addr)),(∀ y,(y,NameKind.free)∈names->∃ c,en.cells.lookup y=some c) ->
  (∀ y c,acc.lookup y=some c->en.cells.lookup y=some c) ->
  ∃ cl,(forIn (m:=Sem) names acc λp cs=>if (p.2 == .free)=true then (do let a <-cellOf en p.1;pure (ForInStep.yield ((p.1,a) :: cs))) else pure (ForInStep.yield cs))=pure cl /\
   (∀ y c,cl.lookup y=some c->en.cells.lookup y=some c)/\(∀ y,((y,NameKind.free)∈names\/∃ c,acc.lookup y=some c)->∃ c,cl.lookup y=some c)
 | [],acc,_,h2=>⟨acc,rfl,h2,λy h=>h.elim (λz=>by simp at z) id⟩
 | (n,k) :: r,acc,h1,h2=>by
  by_cases hk:k=.free
  ·subst hk;obtain ⟨c,hc⟩:=h1 n (by simp);obtain ⟨cl,e,a,b⟩:=a1N r ((n,c) :: acc) (λy hy=>h1 y (List.mem_cons_of_mem _ hy)) (λy d hd=>by
    rw [List.lookup_cons] at hd;by_cases hy:y=n
    ·subst hy;simp at hd;subst hd;exact hc
    ·have:(y == n)=false:=by simpa using hy
     rw [this] at hd;exact h2 y d hd)
   refine ⟨cl,?_,a,λy hy=>b y ?_⟩
   ·rw [List.forIn_cons];have e1:cellOf en n=pure c:=by unfold cellOf;rw [hc]
    simp only [beq_self_eq_true,if_true,e1,pure_bind];exact e
   ·rcases hy with hy | ⟨d,hd⟩
    ·rcases List.mem_cons.mp hy with z | z
     ·cases z;exact .inr ⟨c,by simp⟩
     ·exact .inl z
    ·by_cases hy:y=n
     ·subst hy;exact .inr ⟨c,by simp⟩
     ·have:(y == n)=false:=by simpa using hy
      exact .inr ⟨d,by rw [List.lookup_cons,this];exact hd⟩
  ·have hb:(k == NameKind.free)=false:=by simpa using hk
   obtain ⟨cl,e,a,b⟩:=a1N r acc (λy hy=>h1 y (List.mem_cons_of_mem _ hy)) h2;refine ⟨cl,?_,a,λy hy=>b y ?_⟩
   ·rw [List.forIn_cons];simp only [hb,Bool.false_eq_true,if_false,pure_bind];exact e
   ·rcases hy with hy | hy
    ·rcases List.mem_cons.mp hy with z | z
     ·cases z;exact absurd rfl hk
     ·exact .inl z
    ·exact .inr hy
theorem a7p {scope:Scope} {en:Env} (h1:∀ y,(y,NameKind.free)∈scope.names->∃ c,en.cells.lookup y=some c) :
  ∃ cl,closureFor scope en=pure cl/\(∀ y c,cl.lookup y=some c->en.cells.lookup y=some c)/\(∀ y,(y,NameKind.free)∈scope.names->∃ c,cl.lookup y=some c):=by
 obtain ⟨cl,e,a,b⟩:=a1N (en:=en) scope.names [] h1 (λy c h=>by simp at h);refine ⟨cl,?_,a,λy hy=>b y (.inl hy)⟩;have q:=congrArg (λt:Sem (List (Str × Addr))=>t >>= λc=>pure c) e;exact q
def xeC (X:Cx) (en:Env) (C:Addr):Value->Shared->Prop :=
 notedBy (model X.prog X.w) X.A en λe s'=>compPost (model X.prog X.w) X.A X.xe none (λ_ _=>False) Value.none C (.error e) s'
def cxC (X:Cx) (scope:Scope) (cl:List (Str × Addr)) (C:Addr) (s0:Shared) (H0:Hp) (fp:List Addr) (N:List Str):Cx where
 prog:=X.prog
 w:=X.w
 K:=X.K
 mg:=X.mg
 base:=X.base
 A:=X.A
 N:=N
 s₀:=s0
 H₀:=H0
 env:=compEnvC scope cl C X.env
 outer:=X.stack
 stack:=X.stack
 ex:=fp
 fn:=λ_=>false
 calm:=X.calm
 pn:=[]
 xe:=xeC X (compEnvC scope cl C X.env) C
structure a0x (scope:Scope) (en:Env) (N M:List Str):Prop where
 kind:scope.kind=.function
 nocell:∀ y∈scope.names,y.2≠.cell
 locs:∀ y∈scope.names,y.2=.local->scope.names.lookup y.1=some .local
 free:∀ y,(y,NameKind.free)∈scope.names->en.kindOf y=some .cell\/en.kindOf y=some .free
 len:M.length=N.length
 same:∀ (j:Nat) (y:Str),M[j]?=some y->Vis (relabel scope en) y->N[j]?=some y/\(y,NameKind.free)∈scope.names/\(relabel scope en).names.lookup y≠some .local
 relab:∀ y,((relabel scope en).names.lookup y=some .cell\/(relabel scope en).names.lookup y=some .free)->(y,NameKind.free)∈scope.names
def a7q (k:Nat) (wi:TI) (g:TG) (tc:TT) (te:TE):TE:=λσ H Q=>wi σ H λJ H1=>∀ d,H1 d=none->∃ W:Nat->Nat->Hp->Prop,(∃ m,W 0 m (upd H1 d (.lst [])))/\∀ i m H,W i m H ->
 (J.stop i H/\Q (.ref d) H)\/(J.go i H/\∃ N:Hp->Prop,(∀ H',N H'->∃ m',m' < m/\W (i+1) m' H')/\∀ x H',J.yld i H x H'->g x (List.replicate k none++σ) H' λσ2 H2 =>
  tc σ2 H2 λb H3=>if b=true then te σ2 H3 λy H4=>∃ ys,H4 d=some (.lst ys)/\ys.length < sizeLine/\N (upd H4 d (.lst (ys++[y]))) else N H3)
structure Gone (X:Cx) (pins:List (Addr × Obj)) (H:Hp) (C:Addr):Prop where
 no:H C=none
 ne:C≠X.env.locals
 yg:X.s₀.heap.objs.size<=C
 cl:∀ x c,X.env.cells.lookup x=some c->c≠C
 pn:∀ p∈X.pn++pins,p.1≠C
theorem Inv.gone {X:Cx} {pins:List (Addr × Obj)} {σ:St} {H:Hp} {s:Shared} {C:Addr} {h':Heap} (I:Inv X pins σ H s) (g:Gone X pins H C) (hs:Heap.SameBut C s.heap h'):Inv X pins σ H { s with heap:=h' } :=
 I.turned (t':=s.toks) (it:=C) (λb o hb e=>hs.extBut b o hb e) g.no g.ne (.inr g.yg) g.cl g.pn
structure Back (X Y:Cx) (pins:List (Addr × Obj)) (σ:St) (fp:List Addr) (C:Addr) (s3:Shared) (H3:Hp):Prop where
 i0:Inv X pins σ H3 s3
 fp:∀ b∈fp,(b∈X.ex\/X.s₀.heap.objs.size<=b)/\b≠X.env.locals/\(∀ x c,X.env.cells.lookup x=some c->c≠b)/\∀ p∈X.pn++pins,p.1≠b
 inv:∀ (pins':List (Addr × Obj)) (σ':St) (H':Hp) (s':Shared),Inv Y pins' σ' H' s'->Inv X pins σ H' s'/\Gone X pins H' C
theorem a4f {X:Cx} {elt tg iter:Expr} {cs:List Expr} {scope:Scope} {pos:Pos} {wi:TI} {g:TG} {tc:TT} {te:TE} {xs M:List Str} {use:Option (Value->Sem Unit)} {RR:Value->Shared->Prop} (hc:X.calm=true) (S:a0x scope X.env X.N M) (hi:PI X tg iter wi)
  (hin:∀ (cl:List (Str × Addr)) (C:Addr) (s0:Shared) (H0:Hp) (fp:List Addr) (pins:List (Addr × Obj)) (σ:St),Back X (cxC X scope cl C s0 H0 fp (xs++M)) pins σ fp C s0 H0->PG (cxC X scope cl C s0 H0 fp (xs++M)) tg g/\PTs (cxC X scope cl C s0 H0 fp (xs++M)) cs tc/\PE (cxC X scope cl C s0 H0 fp (xs++M)) elt te)
  (hg:∀ v σ H Q,g v (List.replicate xs.length none++σ) H Q->g v (List.replicate xs.length none++σ) H λσ2 H2=>(∃ l:St,l.length=xs.length/\σ2=l++σ)/\Q σ2 H2)
  (hs:∀ x,foldedSetIterable iter X.env x=pure x) (pins:List (Addr × Obj)) (s:Shared) (σ:St) (H:Hp) (Q:VK) (I:Inv X pins σ H s) (h:a7q xs.length wi g tc te σ H Q)
  (fin:∀ (d C:Addr) (s6:Shared) (H6:Hp) (m:Str->Option Value),Q (.ref d) H6->Inv X pins σ H6 s6->s6.heap.Ns C m->Gone X pins H6 C->compPost (model X.prog X.w) X.A X.xe use RR (.ref d) C (.ok .next) s6) :
  wpAny (model X.prog X.w) X.A (comprehension (.ListComp elt [⟨tg,iter,cs,0⟩] scope pos) scope X.env (firstIterPos [⟨tg,iter,cs,0⟩] pos) (newList []) false (eval iter X.env) use) RR X.xe s:=by
 obtain ⟨cl,hcl,cl1,cl2⟩:=a7p (scope:=scope) (en:=X.env) λy hy=>I.ok.has y (S.free y hy);refine wpAny_comprehension_free (use:=use) rfl hs hcl S.kind S.locs (thn (hi pins s σ H _ I h) λv s1 h1=>thn h1 λitv s2 h2=>?_);obtain ⟨it,fp,tn,J,H2,e,I2,T,st2,f2,h3⟩:=h2;subst e;have hf:H2 s2.heap.objs.size=none:=I2.fresh;obtain ⟨W,⟨m0,w0⟩,turn⟩:=h3 _ hf;refine wpAny_newObj_type (wpAny_newFunctionEnv S.nocell (by intro y hy;simp at hy) (λh4 hns hsb=>?_) S.kind);have I3:Inv X pins σ (upd H2 s2.heap.objs.size (.lst [])) { s2 with heap:=s2.heap.push { cls:=.type "list",data:=.seq ([]:List Value).toArray } }:=I2.lnew (ys:=[]) (its:=[]) (t':=s2.toks) .nil (Nat.zero_le _);generalize hs3:({ s2 with heap:=s2.heap.push { cls:=.type "list",data:=.seq ([]:List Value).toArray } }:Shared)=s3 at I3;generalize hH3:upd H2 s2.heap.objs.size (.lst [])=H3 at I3 w0;have e3:s2.heap.push { cls:=.type "list",dict:=none,data:=.seq ([]:List Value).toArray }=s3.heap:=by rw [<-hs3]
 dsimp only at hns hsb ⊢;rw [e3] at hns hsb;have old:∀ b o,s3.heap.get? b=some o->h4.get? b=some o:=λb o e=>hsb.extBut b o (Nat.ne_of_lt (Heap.lt_size e)) (Heap.get?_push_of_some _ e);have keep2:∀ b o,s2.heap.get? b=some o->s3.heap.get? b=some o:=λb o e=>by rw [<-e3];exact Heap.get?_push_of_some _ e
 have lt3:∀ b∈fp,b < s3.heap.objs.size:=λb hb=>by
  obtain ⟨o,e,_⟩:=T.obj _ _ st2 b hb;exact Heap.lt_size (keep2 b o e)
 have n3:∀ b∈fp,H3 b=none:=λb hb=>by
  obtain ⟨o,e,_⟩:=T.obj _ _ st2 b hb;rw [<-hH3,a0i (Nat.ne_of_lt (Heap.lt_size e))];exact (f2 b hb).1
 have st4:tn 0 h4:=T.keep _ _ _ st2 λb _ o e=>old b o (keep2 b o e)
 let Y:Cx:=cxC X scope cl s3.heap.objs.size s3 H3 fp (xs++M)
 have relab:∀ y,((relabel scope X.env).names.lookup y=some .cell\/(relabel scope X.env).names.lookup y=some .free)->∃ c,cl.lookup y=some c:=λy hy=>cl2 y (S.relab y hy);have Yok:Y.Ok:=by
  refine ⟨I3.ok.mod,S.kind,I3.ok.glob,I3.ok.blt,Nat.le_refl _,λy z c h1 h2=>I3.ok.inj y z c (cl1 y c h1) (cl1 z c h2),λy hy=>relab y hy,λ_ _ h _=>absurd (show false=true from h) (by decide),I3.ok.hd,I3.ok.frames,.inl rfl,
   λb hb=>⟨Nat.ne_of_lt (lt3 b hb),λy c e=>(f2 b hb).2.2.2.2.1 y c (cl1 y c e)⟩,I3.bs,Nat.le_trans I3.ok.bsz I3.sz,λb o e hb=>?_,λb hb z=>?_,I3.stack,I3.stkFree⟩
  ·rcases (f2 b hb).2.2.2.1 with z | z
   ·exact I3.ok.noex b o e z
   ·exact absurd (Nat.lt_of_lt_of_le (Heap.lt_size e) (Nat.le_trans I3.ok.bsz z)) (Nat.lt_irrefl _)
  ·rcases List.mem_cons.mp (I3.stkSub b z) with z | z
   ·exact (f2 b hb).2.1 z
   ·exact (f2 b hb).2.2.1 z
 have cells4:∀ y c,cl.lookup y=some c->∀ v,s3.heap.IsCell c v->h4.IsCell c v:=λy c _ v ⟨o,ho,hd⟩=>⟨o,old c o ho,hd⟩
 have IY:∀ t',Inv Y [] (List.replicate xs.length none++σ) H3 { s3 with heap:=h4,toks:=t' }:=λt'=>by
  refine ⟨Yok,rfl,I3.bare,Un.kept old,⟨_,hns,λi y v e1 e2 e3=>?_⟩,λy c e=>?_,I3.hok.fresh (Nat.le_refl _),λy c e=>I3.freeC y c (cl1 y c e),λp hp=>absurd (show p∈([]:List (Addr × Obj)) from hp) (by simp),I3.hok.kept old,?_⟩
  ·by_cases hi:i < xs.length
   ·rw [List.getElem?_append_left (by simpa using hi),List.getElem?_replicate] at e2;split at e2 <;> cases e2
   ·obtain ⟨j,rfl⟩:∃ j,i=xs.length+j:=⟨i - xs.length,by omega⟩
    have e1':M[j]?=some y:=by
     have q:(xs++M)[xs.length+j]?=some y:=e1;rw [List.getElem?_append_right (Nat.le_add_right _ _)] at q;simpa using q
    have e2':σ[j]?=some (some v):=by
     rw [List.getElem?_append_right (by simp)] at e2;simpa using e2
    obtain ⟨a1,a2,a3⟩:=S.same j y e1' e3;have vis:Vis X.env.scope y:=by
     rcases S.free y a2 with z | z
     ·exact .inr (.inl z)
     ·exact .inr (.inr z)
    obtain ⟨m,_,hl⟩:=I3.loc;obtain ⟨u,r,l⟩:=hl j y v a1 e2' vis;refine ⟨u,r,?_⟩;have kk:Y.env.kindOf y=some .cell\/Y.env.kindOf y=some .free:=by
     rcases e3 with z | z | z
     ·exact absurd z a3
     ·exact .inl z
     ·exact .inr z
    rcases l with ⟨k1,_⟩ | ⟨_,c,ec,ic⟩
    ·rcases S.free y a2 with z | z
     ·rw [z] at k1;cases k1
     ·rw [z] at k1;cases k1
    ·obtain ⟨c',ec'⟩:=cl2 y a2;have:=cl1 y c' ec';rw [ec] at this;cases this;exact .inr ⟨kk,c,ec',cells4 y c ec' _ ic⟩
  ·obtain ⟨v,z⟩:=I3.cell y c (cl1 y c e);exact ⟨v,cells4 y c e v z⟩
  ·show (List.replicate xs.length none++σ).length=(xs++M).length;rw [List.length_append,List.length_append,List.length_replicate,S.len,I3.len]
 have stat:∀ {pl:List (Addr × Obj)} {H':Hp},(∀ p∈pl,p.1∉fp)->(∀ b∈fp,H' b=none)->∀ b∈fp,b0f Y pl H' b:=λhp hn b hb =>
  ⟨hn b hb,Nat.ne_of_lt (lt3 b hb),Yok.exfs b hb,.inl hb,λy c e=>(f2 b hb).2.2.2.2.1 y c (cl1 y c e),λp hp' z=>hp p (by simpa [Y,cxC] using hp') (z▸hb)⟩
 have bk:Back X Y pins σ fp s3.heap.objs.size s3 H3:=by
  refine ⟨I3,λb hb=>⟨(f2 b hb).2.2.2.1,(f2 b hb).2.1,(f2 b hb).2.2.2.2.1,(f2 b hb).2.2.2.2.2⟩,λpins' σ' H' s' J=>⟨?_,?_⟩⟩
  ·exact I3.call' (ch:=fp) J.os J.base J.hok J.bare λb hb=>⟨(f2 b hb).2.2.2.1,(f2 b hb).2.1,(f2 b hb).2.2.2.2.1,(f2 b hb).2.2.2.2.2⟩
  ·refine ⟨J.free,Nat.ne_of_gt I3.lt,I3.sz,λy c e z=>?_,λp hp z=>?_⟩
   ·obtain ⟨v,q⟩:=I3.cell y c e;have:=q.lt;rw [z] at this;exact Nat.lt_irrefl _ this
   ·have:=Heap.lt_size (I3.pin p hp).1;rw [z] at this;exact Nat.lt_irrefl _ this
 obtain ⟨hG,hT,hE⟩:=hin cl s3.heap.objs.size s3 H3 fp pins σ bk;have loop:∀ t',codeAny (model X.prog X.w) X.A (.compLoop (.ListComp elt [⟨tg,iter,cs,0⟩] scope pos) 0 (.ref it) (.ref s2.heap.objs.size) Y.env) (compPost (model X.prog X.w) X.A X.xe use RR (.ref s2.heap.objs.size) s3.heap.objs.size) { s3 with heap:=h4,toks:=t' }:=by
  intro t';refine a7o (EE:=Y.xe) (by cases use <;> rfl) (λn s'=>∃ i H',Inv Y [] (List.replicate xs.length none++σ) H' s'/\tn i s'.heap/\(∀ b∈fp,H' b=none)/\W i n H') ?_ m0 ⟨0,H3,IY t',st4,n3,w0⟩;rintro n s5 ⟨i,H5,I5,st5,fr5,w5⟩;rcases turn i n H5 w5 with ⟨stop,qn⟩ | ⟨go,N,hN,step⟩
  ·refine thn (T.done Y rfl rfl rfl hc i [] s5 (List.replicate xs.length none++σ) H5 _ I5 (stat (by simp) fr5) st5 stop) λr s6 ⟨hr,I6⟩=>?_;subst hr;obtain ⟨m6,hn6,_⟩:=I6.loc;have I8:Inv X pins σ H5 s6:=I3.call' (ch:=fp) I6.os I6.base I6.hok I6.bare λb hb=>⟨(f2 b hb).2.2.2.1,(f2 b hb).2.1,(f2 b hb).2.2.2.2.1,(f2 b hb).2.2.2.2.2⟩
   have lt8:X.env.locals < s3.heap.objs.size:=I3.lt;refine fin _ _ s6 H5 m6 qn I8 hn6 ⟨I6.free,Nat.ne_of_gt lt8,I3.sz,λy c e z=>?_,λp hp z=>?_⟩
   ·obtain ⟨v,q⟩:=I3.cell y c e;have:=q.lt;rw [z] at this;exact Nat.lt_irrefl _ this
   ·have:=Heap.lt_size (I3.pin p hp).1;rw [z] at this;exact Nat.lt_irrefl _ this
  ·refine thn (T.item Y rfl rfl rfl hc i [] s5 (List.replicate xs.length none++σ) H5 _ I5 (stat (by simp) fr5) st5 go) λr s6 ⟨u,hr,h6⟩=>?_;subst hr;refine thn h6 λ_ s7 ⟨x7,H7,I7,r7,y7,st7,fr7⟩=>?_;have I7':=I7.pinned (stat (by simp) fr7) (T.obj _ _ st7);have again:∀ {σ8:St} {H8:Hp} {s8:Shared},(∃ l:St,l.length=xs.length/\σ8=l++σ)->Inv Y ([]++a4O fp s7.heap) σ8 H8 s8->N H8->∃ m,m < n/\∃ i H',Inv Y [] (List.replicate xs.length none++σ) H' s8/\tn i s8.heap/\(∀ b∈fp,H' b=none)/\W i m H':=λ{σ8 H8 s8} l8 I8 n8=>by
    obtain ⟨m',hm,w8⟩:=hN H8 n8;obtain ⟨l,ll,rfl⟩:=l8;have pin8:∀ b∈fp,∀ o,s7.heap.get? b=some o->s8.heap.get? b=some o/\H8 b=none:=λb hb o e=>by
     have z:=I8.pin (b,o) (List.mem_append_right _ (List.mem_append_right _ (a2p hb e)));exact ⟨z.1,z.2.1⟩
    refine ⟨m',hm,i+1,H8,I8.unpinned.weak (by simp [ll]) (λj v e=>?_),T.keep _ _ _ st7 λb hb o e=>(pin8 b hb o e).1,λb hb=>?_,w8⟩
    ·by_cases hj:j < xs.length
     ·rw [List.getElem?_append_left (by simpa using hj),List.getElem?_replicate] at e;split at e <;> cases e
     ·rw [List.getElem?_append_right (by simpa using hj)] at e;rw [List.getElem?_append_right (by omega),ll];simpa using e
    ·obtain ⟨o,e,_⟩:=T.obj _ _ st7 b hb;exact (pin8 b hb o e).2
   refine thn (hG _ s7 (List.replicate xs.length none++σ) H7 x7 u _ I7' r7 (hg _ _ _ _ (step x7 H7 y7))) λ_ s8 ⟨σ8,H8,I8,l8,q8⟩=>?_;refine thn (hT _ s8 σ8 H8 _ I8 q8) λok s9 ⟨H9,I9,q9⟩=>?_;cases ok with
   | false=>exact again l8 I9 q9
   | true =>
    refine thn (hE _ s9 σ8 H9 _ I9 q9) λy s10 ⟨y10,H10,I10,r10,ys,hd,hl,n10⟩=>?_;refine thn (a1f _ s10 σ8 H10 (.ref s2.heap.objs.size) [y10] (.ref s2.heap.objs.size) [y] (λ_ H'=>N H') I10 rfl (.cons r10 .nil) ⟨_,ys,y10,rfl,rfl,hd,hl,n10⟩) λ_ s11 ⟨_,H11,I11,_,n11⟩=>?_;exact again l8 I11 n11
 refine codeAny_compStart_list (loop _) (T.self _ 0 _ _ _ st4 (loop _))
theorem b3a {X:Cx} {elt tg iter:Expr} {cs:List Expr} {scope:Scope} {pos:Pos} {wi:TI} {g:TG} {tc:TT} {te:TE} {xs M:List Str} (hc:X.calm=true) (S:a0x scope X.env X.N M) (hi:PI X tg iter wi)
  (hin:∀ (cl:List (Str × Addr)) (C:Addr) (s0:Shared) (H0:Hp) (fp:List Addr),PG (cxC X scope cl C s0 H0 fp (xs++M)) tg g/\PTs (cxC X scope cl C s0 H0 fp (xs++M)) cs tc/\PE (cxC X scope cl C s0 H0 fp (xs++M)) elt te)
  (hg:∀ v σ H Q,g v (List.replicate xs.length none++σ) H Q->g v (List.replicate xs.length none++σ) H λσ2 H2=>(∃ l:St,l.length=xs.length/\σ2=l++σ)/\Q σ2 H2)
  (hs:∀ x,foldedSetIterable iter X.env x=pure x:=by intro _;rfl):PE X (.ListComp elt [⟨tg,iter,cs,0⟩] scope pos) (a7q xs.length wi g tc te):=by
 intro pins s σ H Q I h;rw [eval_ListComp];exact a4f (use:=none) hc S hi (λcl C s0 H0 fp _ _ _=>hin cl C s0 H0 fp) hg hs pins s σ H Q I h λd C s6 H6 m q I6 hn gn=>⟨m,hn,λh' hs'=>⟨.ref d,H6,I6.gone gn hs',rfl,q⟩⟩
theorem b3b {X:Cx} {elt tg iter:Expr} {cs:List Expr} {scope:Scope} {pos pos' spos:Pos} {wi:TI} {g:TG} {tc:TT} {te:TE} {xs M:List Str} {i:Nat} {x:Str} (hc:X.calm=true) (S:a0x scope X.env X.N M) (hi:PI X tg iter wi)
  (hin:∀ (cl:List (Str × Addr)) (C:Addr) (s0:Shared) (H0:Hp) (fp:List Addr),PG (cxC X scope cl C s0 H0 fp (xs++M)) tg g/\PTs (cxC X scope cl C s0 H0 fp (xs++M)) cs tc/\PE (cxC X scope cl C s0 H0 fp (xs++M)) elt te)
  (hg:∀ v σ H Q,g v (List.replicate xs.length none++σ) H Q->g v (List.replicate xs.length none++σ) H λσ2 H2=>(∃ l:St,l.length=xs.length/\σ2=l++σ)/\Q σ2 H2)
  (hN:X.N.Nodup) (hix:X.N[i]?=some x) (hx:X.env.scope.names.lookup x=some .local) (hw:swapsWith (.ListComp elt [⟨tg,iter,cs,0⟩] scope pos) (some (.Name x pos')) spos.line X.env=pure true)
  (hs:∀ x,foldedSetIterable iter X.env x=pure x:=by intro _;rfl):PS X (.Assign [.Name x pos'] (.ListComp elt [⟨tg,iter,cs,0⟩] scope pos) spos) (b4y (a7q xs.length wi g tc te) (a1I i)):=by
 intro pins s σ H D I h;rw [exec_Assign_Name_used _ _ _ _ hw];refine wpAny_bind (wpAny_standAt (wpAny_bind ?_));show wpAny _ X.A (comprehension (.ListComp elt [⟨tg,iter,cs,0⟩] scope pos) scope X.env _ (newList []) false (eval iter X.env) (some (assign (.Name x pos') X.env)) >>= λ_=>pure ()) _ _ s;refine wpAny_bind (thn (a4f (use:=some (assign (.Name x pos') X.env)) (RR:=λ_ s'=>SP X pins D .next s') hc S hi (λcl C s0 H0 fp _ _ _=>hin cl C s0 H0 fp) hg hs pins s σ H _ I h λd C s6 H6 m q I6 hn gn=>?_) λ_ s' hq=>wpAny_pure (wpAny_pure hq));show wpAny _ X.A (assign (.Name x pos') X.env (.ref d)) _ _ s6;refine wpAny_assign_Name (a4K I6 hN hix (.inl hx) (v:=.ref d) rfl (λs7 I7 ch=>?_) (.inr hx));obtain ⟨a,hsb,ha⟩:=ch;have ne:C≠a:=by
  rcases ha with z | z
  ·rw [z];exact gn.ne
  ·exact λz'=>gn.cl x a z z'.symm
 exact ⟨m,hn.sameBut hsb ne,λh' hs'=>⟨_,H6,I7.gone gn hs',q⟩⟩
theorem b0q {X:Cx} {elt tg iter:Expr} {cs:List Expr} {scope:Scope} {pos:Pos} {wi:TI} {g:TG} {tc:TT} {te:TE} {xs M:List Str} (hc:X.calm=true) (S:a0x scope X.env X.N M) (hi:PI X tg iter wi)
  (hin:∀ (cl:List (Str × Addr)) (C:Addr) (s0:Shared) (H0:Hp) (fp:List Addr) (pins:List (Addr × Obj)) (σ:St),Back X (cxC X scope cl C s0 H0 fp (xs++M)) pins σ fp C s0 H0->PG (cxC X scope cl C s0 H0 fp (xs++M)) tg g/\PTs (cxC X scope cl C s0 H0 fp (xs++M)) cs tc/\PE (cxC X scope cl C s0 H0 fp (xs++M)) elt te)
  (hg:∀ v σ H Q,g v (List.replicate xs.length none++σ) H Q->g v (List.replicate xs.length none++σ) H λσ2 H2=>(∃ l:St,l.length=xs.length/\σ2=l++σ)/\Q σ2 H2)
  (hs:∀ x,foldedSetIterable iter X.env x=pure x:=by intro _;rfl):PE X (.ListComp elt [⟨tg,iter,cs,0⟩] scope pos) (a7q xs.length wi g tc te):=by
 intro pins s σ H Q I h;rw [eval_ListComp];exact a4f (use:=none) hc S hi hin hg hs pins s σ H Q I h λd C s6 H6 m q I6 hn gn=>⟨m,hn,λh' hs'=>⟨.ref d,H6,I6.gone gn hs',rfl,q⟩⟩
structure EqK {α:Type} [DecidableEq α] (H:Hp) (s:Shared) (n:Nat) (R:V->α->Prop):Prop where
 inj:∀ x a b,R x a->R x b->a=b
 eq:∀ (A:Around) (x y:V) (a b:α) (u v:Value),A.units+n < cLine->R x a->R y b->a0V x u->a0V y v->SeqAt.EqAt A s u v (decide (a=b))
def a7B (x:V) (i:Int):Prop:=x=.int i
def b1Q {α:Type} (H:Hp) (R:V->α->Prop) (x:V) (ds:List α):Prop:=∃ a xs,x=.ref a/\H a=some (.tup xs)/\Paired R xs ds
theorem b1R {α:Type} [DecidableEq α]:∀ (as bs:List α) (e:Nat->Bool),(∀ j x y,as[j]?=some x->bs[j]?=some y->e j=decide (x=y)) ->
  ((List.range (min as.length bs.length)).all e && as.length == bs.length)=decide (as=bs):=by
 intro as bs e h;rw [Bool.eq_iff_iff];simp only [Bool.and_eq_true,List.all_eq_true,List.mem_range,beq_iff_eq,decide_eq_true_eq];constructor
 ·rintro ⟨h1,h2⟩;refine List.ext_getElem? λj=>?_;by_cases hj:j < as.length
  ·have e1:as[j]?=some as[j]:=List.getElem?_eq_getElem hj;have e2:bs[j]?=some (bs[j]'(by omega)):=List.getElem?_eq_getElem (by omega);have q:=h1 j (by omega);rw [h j _ _ e1 e2] at q;rw [e1,e2,of_decide_eq_true q]
  ·rw [List.getElem?_eq_none (by omega),List.getElem?_eq_none (by omega)]
 ·rintro rfl;refine ⟨λj hj=>?_,rfl⟩;have hj:j < as.length:=by omega
  have e1:as[j]?=some as[j]:=List.getElem?_eq_getElem hj;rw [h j _ _ e1 e1];simp
theorem Paired.right_of {α β:Type} {R:α->β->Prop}:∀ {xs:List α} {ds:List β},Paired R xs ds->∀ (j:Nat) (x:α),xs[j]?=some x->∃ d,ds[j]?=some d/\R x d
 | _,_,.nil,j,x,e=>by simp at e
 | _,_,.cons r t,0,x,e=>by simp at e;subst e;exact ⟨_,rfl,r⟩
 | _,_,.cons r t,j+1,x,e=>by
  obtain ⟨d,e1,e2⟩:=Paired.right_of t j x (by simpa using e);exact ⟨d,by simpa using e1,e2⟩
theorem Paired.inj {α β:Type} {R:α->β->Prop} (h:∀ x a b,R x a->R x b->a=b):∀ {xs:List α} {ds es:List β},Paired R xs ds->Paired R xs es->ds=es
 | _,_,_,.nil,.nil=>rfl
 | _,_,_,.cons r t,.cons r' t'=>by rw [h _ _ _ r r',Paired.inj h t t']
theorem Paired.ints:∀ ns:List Int,Paired a7B (ns.map V.int) ns
 | []=>.nil
 | n :: ns=>.cons rfl (Paired.ints ns)
theorem Paired.ofInts:∀ {xs:List V} {ns:List Int},Paired a7B xs ns->xs=ns.map V.int
 | _,_,.nil=>rfl
 | _,_,.cons r t=>by rw [show _=_ from r,Paired.ofInts t];rfl
theorem a2X {H:Hp} {a:Addr} {ns:List Int} (h:H a=some (.tup (ns.map V.int))):b1Q H a7B (.ref a) ns:=⟨a,_,rfl,h,Paired.ints ns⟩
section
variable {α:Type} [DecidableEq α] {P:Program} {w:World} {H:Hp} {s:Shared} {n:Nat} {R:V->α->Prop} {A:Around}
theorem EqK.int:EqK H s n a7B:=⟨λx a b h1 h2=>by unfold a7B at *;rw [h1] at h2;cases h2;rfl,λA x y a b u v _ h1 h2 r1 r2=>by
 unfold a7B at *
 subst h1 h2;obtain ⟨t,rfl⟩:=r1;obtain ⟨t',rfl⟩:=r2;have q:=SeqAt.EqAt.int_int (A:=A) (s:=s) a t b t';rw [Bool.beq_eq_decide_eq] at q;exact q⟩
theorem a4g (K:EqK H s n R) {xs ys:List V} {ds es:List α} {its its2:List Value} (p1:Paired R xs ds) (p2:Paired R ys es) (v1:a0z xs its) (v2:a0z ys its2) (hA:A.units+n < cLine) :
  ∃ e:Nat->Bool,(∀ j (h1:j < its.toArray.size) (h2:j < its2.toArray.size),SeqAt.EqAt A s its.toArray[j] its2.toArray[j] (e j))/\((List.range (min its.toArray.size its2.toArray.size)).all e && its.toArray.size == its2.toArray.size)=decide (ds=es):=by
 have l1:its.toArray.size=ds.length:=by rw [List.size_toArray,<-v1.length];exact p1.length
 have l2:its2.toArray.size=es.length:=by rw [List.size_toArray,<-v2.length];exact p2.length
 refine ⟨λj=>match ds[j]?,es[j]? with | some d,some e=>decide (d=e) | _,_=>true,λj h1 h2=>?_,?_⟩
 ·have hx:xs[j]?=some (xs[j]'(by rw [v1.length];simpa using h1)):=List.getElem?_eq_getElem _;have hy:ys[j]?=some (ys[j]'(by rw [v2.length];simpa using h2)):=List.getElem?_eq_getElem _;obtain ⟨d,e1,r1⟩:=Paired.right_of p1 j _ hx;obtain ⟨e,e2,r2⟩:=Paired.right_of p2 j _ hy;obtain ⟨u,e3,r3⟩:=v1.get hx;obtain ⟨v,e4,r4⟩:=v2.get hy;have q3:its.toArray[j]=u:=by
   have:=(List.getElem?_eq_some_iff.mp e3).2;simpa using this
  have q4:its2.toArray[j]=v:=by
   have:=(List.getElem?_eq_some_iff.mp e4).2;simpa using this
  simp only [e1,e2,q3,q4];exact K.eq A _ _ d e u v hA r1 r2 r3 r4
 ·rw [l1,l2];exact b1R ds es _ λj x y h1 h2=>by simp only [h1,h2]
theorem a8f (K:EqK H s n R) (ok:HOk P w H s.heap) {a b:Addr} {xs ys:List V} {ds es:List α} (ha:H a=some (.tup xs)) (hb:H b=some (.tup ys)) (p1:Paired R xs ds) (p2:Paired R ys es) (hA:A.units+(n+1) < cLine) :
  SeqAt.RcAt A s (.ref a) (.ref b) (decide (ds=es)):=by
 obtain ⟨_,its,v1,t1⟩:=ok a _ ha;obtain ⟨_,its2,v2,t2⟩:=ok b _ hb;obtain ⟨e,h1,h2⟩:=a4g (A:=A.in1) K p1 p2 v1 v2 (by show A.units+1+n < cLine;omega);rw [<-h2];exact SeqAt.RcAt.tuples t1 t2 (by omega) h1
theorem b3c (K:EqK H s n R) (ok:HOk P w H s.heap) {a b:Addr} {xs ys:List V} {ds es:List α} (ha:H a=some (.tup xs)) (hb:H b=some (.tup ys)) (p1:Paired R xs ds) (p2:Paired R ys es) (hA:A.units+(n+1) < cLine) :
  SeqAt.RcNeAt A s (.ref a) (.ref b) (!decide (ds=es)):=by
 obtain ⟨_,its,v1,t1⟩:=ok a _ ha;obtain ⟨_,its2,v2,t2⟩:=ok b _ hb;obtain ⟨e,h1,h2⟩:=a4g (A:=A.in1) K p1 p2 v1 v2 (by show A.units+1+n < cLine;omega);rw [<-h2];exact SeqAt.RcNeAt.tuples t1 t2 (by omega) h1
theorem a2d {h:Heap} {a:Addr} {its:List Value} {k:Nat} (e:h.get? a=some { cls:=.type "list",data:=.seq its.toArray k }):h.IsList a its.toArray:=⟨_,e,rfl,_,rfl⟩
theorem a8g (K:EqK H s n R) (ok:HOk P w H s.heap) {a b:Addr} {xs ys:List V} {ds es:List α} (ha:H a=some (.lst xs)) (hb:H b=some (.lst ys)) (p1:Paired R xs ds) (p2:Paired R ys es) (hA:A.units+(n+1) < cLine) :
  SeqAt.RcNeAt A s (.ref a) (.ref b) (!decide (ds=es)):=by
 obtain ⟨_,its,k1,v1,t1⟩:=ok a _ ha;obtain ⟨_,its2,k2,v2,t2⟩:=ok b _ hb;obtain ⟨e,h1,h2⟩:=a4g (A:=A.in1) K p1 p2 v1 v2 (by show A.units+1+n < cLine;omega);by_cases hz:its.toArray.size=its2.toArray.size
 ·have q:=SeqAt.RcNeAt.lists (a2d t1) (a2d t2) hz (show A.units < cLine by omega) h1;have z:(List.range its.toArray.size).all e=decide (ds=es):=by
   rw [<-h2,<-hz];simp
  rw [z] at q;exact q
 ·have q:=SeqAt.RcNeAt.lists_lengths (A:=A) (a2d t1) (a2d t2) (by simpa using hz) (show A.units < cLine by omega);have z:false=decide (ds=es):=by
   rw [<-h2];have:(its.toArray.size == its2.toArray.size)=false:=by simpa using hz
   rw [this,Bool.and_false]
  rw [<-z];exact q
theorem EqK.tup (K:EqK H s n R) (ok:HOk P w H s.heap):EqK H s (n+1) (b1Q H R):=by
 refine ⟨λx a b h1 h2=>?_,λA x y a b u v hA h1 h2 r1 r2=>?_⟩
 ·obtain ⟨c,xs,rfl,e1,p1⟩:=h1;obtain ⟨c',xs',z,e2,p2⟩:=h2;cases z;rw [e1] at e2;cases e2;exact Paired.inj K.inj p1 p2
 ·obtain ⟨c,xs,rfl,e1,p1⟩:=h1;obtain ⟨c',xs',rfl,e2,p2⟩:=h2;cases r1;cases r2;by_cases hc:c=c'
  ·subst hc;rw [e1] at e2;cases e2;have:=Paired.inj K.inj p1 p2;subst this;rw [decide_eq_true rfl];exact SeqAt.EqAt.same _
  ·exact SeqAt.EqAt.of_refs hc (a8f K ok e1 e2 p1 p2 hA)
end
section
variable {X:Cx} {α:Type} [DecidableEq α]
def rEqTI:R2:=λx y H Q=>∃ ns ms,b1Q H a7B x ns/\b1Q H a7B y ms/\Q (.bl (decide (ns=ms))) H
theorem a8h (hu:X.A.units+4 < cLine):OpR X (compareOp .Eq) rEqTI:=by
 intro pins s σ H x y v u Q I rx ry h;obtain ⟨ns,ms,⟨a,xs,rfl,e1,p1⟩,⟨b,ys,rfl,e2,p2⟩,q⟩:=h;cases rx;cases ry;exact a8f (A:=X.A) (n:=0) EqK.int I.hok e1 e2 p1 p2 (by omega) _ _ _ _ ⟨.bl _,H,I,rfl,q⟩
def rNeTI:R2:=λx y H Q=>∃ ns ms,b1Q H a7B x ns/\b1Q H a7B y ms/\Q (.bl (!decide (ns=ms))) H
theorem b3d (hu:X.A.units+4 < cLine):OpR X (compareOp .NotEq) rNeTI:=by
 intro pins s σ H x y v u Q I rx ry h;obtain ⟨ns,ms,⟨a,xs,rfl,e1,p1⟩,⟨b,ys,rfl,e2,p2⟩,q⟩:=h;cases rx;cases ry;exact b3c (A:=X.A) (n:=0) EqK.int I.hok e1 e2 p1 p2 (by omega) _ _ _ _ ⟨.bl _,H,I,rfl,q⟩
end
def rIsi (K:PySem.W.Frag):List V->Hp->VK->Prop:=λxs H Q=>∃ x t T b,xs=[x,.ty T]/\a7h K H x t/\PySem.W.kitOne K t (.type T)=some b/\Q (.bl b) H
theorem a2I {X:Cx}:a2q X (.builtin "isinstance") (rIsi X.K):=by
 intro pins s σ H xs us Q I r h;obtain ⟨x,t,T,b,rfl,ty,e,q⟩:=h;obtain ⟨u,v,rfl,r1,r2⟩:=r.two;cases r2;exact a7S I r1 ty e λtk=>⟨.bl b,H,I.tok tk,rfl,q⟩
def rSlG:V->Option Int->Option Int->Hp->VK->Prop:=λx lo hi H Q=>∃ a xs,x=.ref a/\H a=some (.tup xs)/\∀ p H',a0p H H'->H' p=some (.tup (a7X xs lo hi))->Q (.ref p) H'
theorem sixAll {n:Nat} {α:Type} (xs:List α) (lo hi:Option Int) (h1:HT.sIx xs.length 0 lo=0) (h2:HT.sIx xs.length xs.length hi=xs.length):(xs.drop (HT.sIx xs.length 0 lo)).take (HT.sIx xs.length xs.length hi - HT.sIx xs.length 0 lo)=xs:=by
 rw [h1,h2];simp
theorem a0f {H:Hp} {p:Addr} (h:H p=none) (o:HO):a0p H (upd H p o):=λb u q=>by rw [a0i (a0A q h)];exact q
theorem a5H {prog:Program} {w:World} {A:Around} {E:Value->Shared->Prop} {s:Shared} {t sl:Addr} {items:Array Value} {vl vu:Value} {lo hi:Option Int} {Q:Value->Shared->Prop} (ht:IsTup s.heap t items) (hs:s.heap.IsSliceOf sl vl vu .none) (pl:IsPart vl lo) (pu:IsPart vu hi)
  (h1:HT.sIx items.size 0 lo=0) (h2:HT.sIx items.size items.size hi=items.size) (h:Q (.ref t) s):wpAny (model prog w) A (getItem (.ref t) (.ref sl)) Q E s:=by
 obtain ⟨os,hos,hcs,hds⟩:=id hs;have hTs:s.TypeIs (.ref sl) "slice":=⟨os,hos,hcs⟩
 unfold getItem
 try with_reducible refine wpAny_holding ?_
 first | refine wpAny_bind (wpAny_pure ?_) | skip
 refine wpAny_bind (wpAny_sequenceKey ht.typeIs (by decide) ?_);refine wpAny_bind (wpAny_callSpecial?_slot (name:=Str.ofString "__getitem__") ht.typeIs PyProof.Rows.slot_tuple_getitem
  (wpAny_call_entry PyProof.Rows.slot_tuple_getitem ht.typeIs entry_tuple_getitem ?_ (args_tuple_getitem _ _)))
 show wpAny _ _ (Builtin.Tuple.tupleItemsOf (.ref t) >>= _) _ _ s;refine wpAny_bind (tupleItemsOf_ ht ?_);refine wpAny_bind (wpAny_typeOf hTs ?_);rw [if_pos (by decide)];refine wpAny_bind (HT.a1G hs pl pu ?_);rw [h1,h2];show wpAny _ _ (if (((0:Nat):Int) == 0 && (1:Int) == 1 && (items.size - 0) == items.size)=true then _ else _) _ _ s;rw [if_pos (by simp)];unfold Builtin.Tuple.tupleIsExact;refine wpAny_bind (wpAny_bind (wpAny_typeOf ht.typeIs (wpAny_pure ?_)));rw [if_pos (by decide)]
 first
  | exact wpAny_bind (wpAny_rule (wpAny_bind (wpAny_pure (wpAny_pure ⟨_,rfl,wpAny_pure h⟩))))
  | exact wpAny_bind (wpAny_rule (wpAny_pure ⟨_,rfl,wpAny_pure h⟩))
  | exact wpAny_bind (wpAny_bind (wpAny_rule (wpAny_pure ⟨_,rfl,wpAny_pure h⟩)))
theorem a5I {X:Cx}:SlR X rSlG:=by
 intro pins s σ H x v vl vu lo hi sl Q I rx hs pl pu h;obtain ⟨a,xs,rfl,hx,q⟩:=h;by_cases hw:HT.sIx xs.length 0 lo=0/\HT.sIx xs.length xs.length hi=xs.length
 ·cases rx;obtain ⟨hz,its,r,ht⟩:=I.hok a _ hx;have hlen:its.toArray.size=xs.length:=by rw [List.size_toArray];exact r.length.symm
  refine ⟨"tuple",_,PyProof.Rows.slot_tuple_getitem.lookup,(a4J.is ht).typeIs,?_⟩;refine a5H (a4J.is ht) hs pl pu (by rw [hlen];exact hw.1) (by rw [hlen];exact hw.2) ⟨.ref a,H,I,rfl,q a H (a0p.refl H) ?_⟩;unfold a7X;rw [sixAll (n:=0) xs lo hi hw.1 hw.2];exact hx
 ·exact sl_tup pins s σ H (.ref a) v vl vu lo hi sl Q I rx hs pl pu ⟨a,xs,rfl,.inl (.inl hx),hw,λp hp=>q p _ (a0f hp _) a0b⟩
def rCatG:R2:=λx y H Q=>∃ a b xs ys,x=.ref a/\y=.ref b/\H a=some (.tup xs)/\H b=some (.tup ys)/\xs.length+ys.length<=sizeLine/\∀ p H',a0p H H'->H' p=some (.tup (xs++ys))->Q (.ref p) H'
theorem a8i {X:Cx}:OpR X (binaryOp .Add) rCatG:=by
 intro pins s σ H x y v u Q I rx ry h;obtain ⟨a,b,xs,ys,rfl,rfl,ha,hb,hz,q⟩:=h;by_cases hx:xs=[]
 ·subst hx;cases rx;cases ry;obtain ⟨_,its,r1,p1⟩:=I.hok a _ ha;obtain ⟨_,its2,r2,p2⟩:=I.hok b _ hb;have e0:its=[]:=r1.nil_iff.mpr rfl;subst e0;obtain ⟨⟨cls,dd,data,sl⟩,ho,hc,n,hd⟩:=id (a4J.is p1);obtain ⟨⟨cls2,dd2,data2,sl2⟩,ho2,hc2,n2,hd2⟩:=id (a4J.is p2);simp only at hc hd hc2 hd2;subst hc hd hc2 hd2;exact concat_meets ⟨_,ho,rfl⟩ ⟨_,ho2,rfl⟩ noFill_tuple_add seq_tuple_add PySem.F.slot_tuple_add PySem.F.entry_tuple_add (PySem.F.args_tuple_add_2 _ _)
   (tuple_addW0 a b ([]:List Value).toArray its2.toArray n n2 dd dd2 sl sl2 (by simp)) ⟨ho,ho2,⟨.ref b,H,I,rfl,q b H (a0p.refl H) (by simpa using hb)⟩⟩
 ·exact b2W pins s σ H (.ref a) (.ref b) v u Q I rx ry ⟨a,b,xs,ys,rfl,rfl,.inl (.inl ha),.inl (.inl hb),hx,hz,λz=>q a H (a0p.refl H) (by rw [z,List.append_nil];exact ha),λ_ p hp=>q p _ (a0f hp _) a0b⟩
def rAll:List V->Hp->VK->Prop:=λxs H Q=>∃ (a:Addr) (bs:List Bool),xs=[.ref a]/\H a=some (.lst (bs.map V.bl))/\Q (.bl (bs.all id)) H
theorem b0r:∀ {bs:List Bool} {us:List Value},a0z (bs.map V.bl) us->us=bs.map Value.bool:=by
 intro bs
 induction bs with
 | nil=>intro us r;rw [List.map_nil] at r;cases r;rfl
 | cons b bs ih =>
  intro us r;rw [List.map_cons] at r;cases r with
  | cons r1 r2=>rw [ih r2,show _=Value.bool b from r1];rfl
theorem a8j (bs:List Bool):(List.range bs.length).all (λi=>bs.getD i true)=bs.all id:=by
 rw [Bool.eq_iff_iff];simp only [List.all_eq_true,List.mem_range,id];constructor
 ·intro h b hb;obtain ⟨i,hi,rfl⟩:=List.mem_iff_getElem.mp hb;have q:=h i hi
  rwa [List.getD_eq_getElem?_getD,List.getElem?_eq_getElem hi] at q
 ·intro h i hi;rw [List.getD_eq_getElem?_getD,List.getElem?_eq_getElem hi];exact h _ (List.getElem_mem hi)
theorem a6s {X:Cx} (hc:X.calm=true):a2q X (.builtin "all") rAll:=by
 intro pins s σ H xs us Q I r h;obtain ⟨a,bs,rfl,ha,q⟩:=h;obtain ⟨u,rfl,ru⟩:=a3t r;cases ru;obtain ⟨hz,its,n,v,e⟩:=I.hok a _ ha;have ei:=b0r v;subst ei;refine call_all_walk (wpAny_pyIter_list (a2d e) ?_);have hlt:=Heap.lt_size e;refine ⟨s.heap.objs.size,_,_,_,_,_,λi=>bs.getD i true,rfl,Walks.list (A:=X.A.in1) (by show X.A.handled=none;exact I.ok.hd hc) s.heap.objs.size a (Nat.ne_of_lt hlt) (bs.map Value.bool).toArray,⟨⟨_,Heap.get?_push_size _ rfl,rfl,rfl⟩,a2d (Heap.get?_push_of_some _ e)⟩,?_,λh' tk hk=>?_⟩
 ·intro i v s' Q' E' hv hq;simp only [List.getElem?_toArray,List.getElem?_map] at hv;cases hb:bs[i]? with
  | none=>rw [hb] at hv;cases hv
  | some b =>
   rw [hb] at hv;cases hv;have hq':Q' (bs.getD i true) s':=hq;rw [List.getD_eq_getElem?_getD,hb] at hq';exact wpAny_truthy_bool hq'
 ·have e1:(bs.map Value.bool).toArray.size=bs.length:=by simp
  rw [e1,a8j];exact ⟨.bl _,H,I.kept (h':=h') (t':=tk) (λb o eo=>hk b o (by simp;exact Nat.ne_of_lt (Heap.lt_size eo)) (Heap.get?_push_of_some _ eo)),rfl,q⟩
def rSum:List V->Hp->VK->Prop:=λxs H Q=>∃ (a:Addr) (ns:List Int),xs=[.ref a]/\H a=some (.lst (ns.map V.int))/\Q (.int ns.sum) H
theorem a7r:∀ {ns:List Int} {us:List Value},a0z (ns.map V.int) us->∀ (i:Nat) (v:Value),us[i]?=some v->∃ t,v=.int (ns.getD i 0) t:=by
 intro ns
 induction ns with
 | nil=>intro us r i v e;rw [List.map_nil] at r;cases r;simp at e
 | cons n ns ih =>
  intro us r i v e;rw [List.map_cons] at r;cases r with
  | cons r1 r2 =>
   cases i with
   | zero =>
    simp at e;subst e;obtain ⟨t,z⟩:=r1;exact ⟨t,by rw [z];simp⟩
   | succ i =>
    obtain ⟨t,z⟩:=ih r2 i v (by simpa using e);exact ⟨t,by rw [z];simp⟩
theorem a2k {X:Cx} (hc:X.calm=true):a2q X (.builtin "sum") rSum:=by
 intro pins s σ H xs us Q I r h;obtain ⟨a,ns,rfl,ha,q⟩:=h;obtain ⟨u,rfl,ru⟩:=a3t r;cases ru;obtain ⟨hz,its,n,v,e⟩:=I.hok a _ ha;refine call_sum_walkAnyS (wpAny_pyIter_list (a2d e) ?_);have hlt:=Heap.lt_size e;refine ⟨s.heap.objs.size,_,_,_,_,_,_,λi=>ns.getD i 0,rfl,(Walks.list (A:=X.A.in1) (by show X.A.handled=none;exact I.ok.hd hc) s.heap.objs.size a (Nat.ne_of_lt hlt) its.toArray).toS,⟨⟨_,Heap.get?_push_size _ rfl,rfl,rfl⟩,a2d (Heap.get?_push_of_some _ e)⟩,?_,?_,λs' t' mv=>?_⟩
 ·intro b hb;have hp:(s.heap.push { cls:=.type "list_iterator",data:=.fields #[.ref a,rawInt 0] }).objs.size=s.heap.objs.size+1:=Heap.size_push _ _;rcases List.mem_cons.mp hb with z | z
  ·subst z;exact Heap.lt_size (Heap.get?_push_size _ rfl)
  ·have z':b=a:=by simpa using z
   subst z';exact Heap.lt_size (Heap.get?_push_of_some _ e)
 ·intro i v' hv;exact a7r v i v' (by simpa using hv)
 ·have e1:its.toArray.size=ns.length:=by
   have:=v.length;rw [List.length_map] at this;simpa using this.symm
  rw [e1,preSum_getD];have e2:ns.take ns.length=ns:=List.take_length;rw [e2];have k:∀ b o,s.heap.get? b=some o->s'.heap.get? b=some o:=λb o eo=>mv.heap b o (by simp;exact Nat.ne_of_lt (Heap.lt_size eo)) (Heap.get?_push_of_some _ eo);obtain ⟨h',g',d',tk',os'⟩:=s';have z1:g'=s.gens:=mv.gens;have z2:d'=s.drawn:=mv.drawn;have z3:os'=s.os:=mv.os;subst z1 z2 z3;exact ⟨.int _,H,I.kept (h':=h') (t':=tk') k,⟨t',rfl⟩,q⟩
theorem a0N (scope:Scope) (en:Env) (y:Str):(relabel scope en).names.lookup y=(scope.names.lookup y).map λk=>if (k == NameKind.free && en.scope.kind == .function && en.kindOf y == some .cell)=true then .cell else k:=by
 show List.lookup y (scope.names.map λ(n,k)=>if (k == NameKind.free && en.scope.kind == .function && en.kindOf n == some .cell)=true then (n,NameKind.cell) else (n,k))=_;generalize scope.names=l
 induction l with
 | nil=>rfl
 | cons p r ih =>
  obtain ⟨n,k⟩:=p;rw [List.map_cons];by_cases hy:y=n
  ·subst hy;show List.lookup y ((if (k == NameKind.free && en.scope.kind == .function && en.kindOf y == some .cell)=true then (y,NameKind.cell) else (y,k)) :: _)=_;by_cases hc:(k == NameKind.free && en.scope.kind == .function && en.kindOf y == some .cell)=true
   ·rw [if_pos hc,List.lookup_cons,List.lookup_cons,beq_self_eq_true];show some NameKind.cell=some (if _ then _ else _);rw [if_pos hc]
   ·rw [if_neg hc,List.lookup_cons,List.lookup_cons,beq_self_eq_true];show some k=some (if _ then _ else _);rw [if_neg hc]
  ·have hb:(y == n)=false:=by simpa using hy
   show List.lookup y ((if (k == NameKind.free && en.scope.kind == .function && en.kindOf n == some .cell)=true then (n,NameKind.cell) else (n,k)) :: _)=_;by_cases hc:(k == NameKind.free && en.scope.kind == .function && en.kindOf n == some .cell)=true
   ·rw [if_pos hc,List.lookup_cons,List.lookup_cons,hb];exact ih
   ·rw [if_neg hc,List.lookup_cons,List.lookup_cons,hb];exact ih
def a6t (scope:Scope) (p:Str × Str):Bool:=match scope.names.lookup p.1 with
 | none=>true
 | some .free=>p.1 == p.2
 | some .local=>false
 | some .cell=>false
 | some _=>true
theorem a0x.of' {scope:Scope} {en:Env} {N M:List Str} (sc:Scope) (N₀:List Str) (hsc:en.scope=sc) (hN:N=N₀) (kind:scope.kind=.function) (nocell:∀ y∈scope.names,y.2≠.cell) (locs:∀ y∈scope.names,y.2=.local->scope.names.lookup y.1=some .local)
  (free:∀ y∈scope.names,y.2=.free->sc.names.lookup y.1=some .cell\/sc.names.lookup y.1=some .free) (len:M.length=N₀.length) (same:((M.zip N₀).all (a6t scope))=true):a0x scope en N M:=by
 subst hsc hN;refine ⟨kind,nocell,locs,λy hy=>free _ hy rfl,len,λj y e v=>?_,λy h=>?_⟩
 ·have hj:j < N.length:=by rw [<-len];exact (List.getElem?_eq_some_iff.mp e).1
  have e2:N[j]?=some N[j]:=List.getElem?_eq_getElem hj;have hm:(y,N[j])∈M.zip N:=by
   refine List.mem_iff_getElem?.mpr ⟨j,?_⟩;rw [List.getElem?_zip_eq_some];exact ⟨e,e2⟩
  have q:=List.all_eq_true.mp same _ hm;unfold a6t at q;unfold Vis at v;rw [a0N] at v ⊢;cases hl:scope.names.lookup y with
  | none=>rw [hl] at v;simp at v
  | some k =>
   rw [hl] at v q;simp only [Option.map_some] at v ⊢;cases k with
   | free =>
    have z:y=N[j]:=by simpa using q
    refine ⟨by rw [e2,<-z],PySem.mem_of_lookup hl,?_⟩;split <;> simp
   | «local»=>simp at q
   | cell=>simp at q
   | _=>simp at v
 ·rw [a0N] at h;cases hl:scope.names.lookup y with
  | none=>rw [hl] at h;simp at h
  | some k =>
   rw [hl] at h;have hm:=PySem.mem_of_lookup hl;simp only [Option.map_some] at h;cases k with
   | free=>exact hm
   | cell=>exact absurd rfl (nocell _ hm)
   | _=>simp at h
theorem a0x.of {scope:Scope} {en:Env} {N M:List Str} (sc:Scope) (N₀:List Str) (hsc:en.scope=sc) (hN:N=N₀) (kind:scope.kind=.function) (nocell:∀ y∈scope.names,y.2≠.cell) (locs:∀ y∈scope.names,y.2=.local->scope.names.lookup y.1=some .local)
  (free:∀ y∈scope.names,y.2=.free->sc.names.lookup y.1=some .cell\/sc.names.lookup y.1=some .free) (len:M.length=N₀.length) (same:((M.zip N₀).all (a6t scope))=true):a0x scope en N M:=a0x.of' sc N₀ hsc hN kind nocell locs free len same
theorem cso {scope:Scope} {en:Env} {N M:List Str} (sc:Scope) (N₀:List Str) (hsc:en.scope=sc:=by rfl) (hN:N=N₀:=by rfl) (kind:scope.kind=.function:=by rfl) (nocell:∀ y∈scope.names,y.2≠.cell:=by decide +kernel) (locs:∀ y∈scope.names,y.2=.local->scope.names.lookup y.1=some .local:=by decide +kernel) (free:∀ y∈scope.names,y.2=.free->sc.names.lookup y.1=some .cell\/sc.names.lookup y.1=some .free:=by decide +kernel) (len:M.length=N₀.length:=by rfl) (same:((M.zip N₀).all (a6t scope))=true:=by decide +kernel):a0x scope en N M:=a0x.of sc N₀ hsc hN kind nocell locs free len same
theorem b1S {v:V} {σ:St} {H:Hp} {Q:St->Hp->Prop} (h:a1I 0 v (List.replicate 1 none++σ) H Q):a1I 0 v (List.replicate 1 none++σ) H λσ2 H2=>(∃ l:St,l.length=1/\σ2=l++σ)/\Q σ2 H2 :=
 ⟨⟨[some v],rfl,rfl⟩,h⟩
theorem a3H {lo:Int} {n:Nat} {k:Nat} {g:TG} {tc:TT} {te:TE} {σ:St} {H:Hp} {Q:VK} {d:Addr} (Pv:Nat->Hp->Prop) (h0:Pv 0 (upd H d (.lst [])))
  (hs:∀ i H,i < n->Pv i H->g (.int (lo+i)) (List.replicate k none++σ) H λσ2 H2=>tc σ2 H2 λb H3=>if b=true then te σ2 H3 λy H4=>∃ ys,H4 d=some (.lst ys)/\ys.length < sizeLine/\Pv (i+1) (upd H4 d (.lst (ys++[y]))) else Pv (i+1) H3)
  (hd:∀ H,Pv n H->Q (.ref d) H) :
  ∃ W:Nat->Nat->Hp->Prop,(∃ m,W 0 m (upd H d (.lst [])))/\∀ i m H,W i m H ->
   ((Itr lo n).stop i H/\Q (.ref d) H)\/((Itr lo n).go i H/\∃ N:Hp->Prop,(∀ H',N H'->∃ m',m' < m/\W (i+1) m' H')/\∀ x H',(Itr lo n).yld i H x H'->g x (List.replicate k none++σ) H' λσ2 H2 =>
    tc σ2 H2 λb H3=>if b=true then te σ2 H3 λy H4=>∃ ys,H4 d=some (.lst ys)/\ys.length < sizeLine/\N (upd H4 d (.lst (ys++[y]))) else N H3):=by
 refine ⟨λi m H=>m=n - i/\i<=n/\Pv i H,⟨n,by simp,Nat.zero_le _,h0⟩,?_⟩;rintro i m H ⟨rfl,hi,p⟩;by_cases hlt:i < n
 ·refine .inr ⟨hlt,Pv (i+1),λH' p'=>⟨n - (i+1),by omega,rfl,hlt,p'⟩,λx H' y=>?_⟩;obtain ⟨e,y⟩:=y;subst e y;exact hs i _ hlt p
 ·have e:i=n:=by omega
  subst e;exact .inl ⟨Nat.le_refl _,hd H p⟩
theorem b0s {K:PySem.W.Frag} {a:Addr} {xs:List V} {k:Nat} {g:TG} {tc:TT} {te:TE} {σ:St} {H:Hp} {Q:VK} {d:Addr} (Pv:Nat->Hp->Prop) (h0:Pv 0 (upd H d (.lst []))) (hl:∀ i H,i<=xs.length->Pv i H->SqT K H a xs)
  (hs:∀ i x H,xs[i]?=some x->Pv i H->g x (List.replicate k none++σ) H λσ2 H2=>tc σ2 H2 λb H3=>if b=true then te σ2 H3 λy H4=>∃ ys,H4 d=some (.lst ys)/\ys.length < sizeLine/\Pv (i+1) (upd H4 d (.lst (ys++[y]))) else Pv (i+1) H3)
  (hd:∀ H,Pv xs.length H->Q (.ref d) H) :
  ∃ W:Nat->Nat->Hp->Prop,(∃ m,W 0 m (upd H d (.lst [])))/\∀ i m H,W i m H ->
   ((Itt K a).stop i H/\Q (.ref d) H)\/((Itt K a).go i H/\∃ N:Hp->Prop,(∀ H',N H'->∃ m',m' < m/\W (i+1) m' H')/\∀ x H',(Itt K a).yld i H x H'->g x (List.replicate k none++σ) H' λσ2 H2 =>
    tc σ2 H2 λb H3=>if b=true then te σ2 H3 λy H4=>∃ ys,H4 d=some (.lst ys)/\ys.length < sizeLine/\N (upd H4 d (.lst (ys++[y]))) else N H3):=by
 refine ⟨λi m H=>m=xs.length - i/\i<=xs.length/\Pv i H,⟨xs.length,by simp,Nat.zero_le _,h0⟩,?_⟩;rintro i m H ⟨rfl,hi,p⟩;have q:=hl i H hi p;by_cases hlt:i < xs.length
 ·refine .inr ⟨⟨xs,xs[i],q,by simp [hlt]⟩,Pv (i+1),λH' p'=>⟨xs.length - (i+1),by omega,rfl,hlt,p'⟩,λx H' y=>?_⟩;obtain ⟨e,y⟩:=y;subst e;exact hs i x _ (y xs q) p
 ·have e:i=xs.length:=by omega
  subst e;exact .inl ⟨⟨xs,q,Nat.le_refl _⟩,hd H p⟩
theorem a4Y {K:PySem.W.Frag} {a:Addr} {xs:List V} {k:Nat} {g:TG} {tc:TT} {te:TE} {σ:St} {H:Hp} {Q:VK} {d:Addr} (Pv:Nat->Hp->Prop) (h0:Pv 0 (upd H d (.lst []))) (hl:∀ i H,i<=xs.length->Pv i H->SqL K H a xs)
  (hs:∀ i x H,xs[i]?=some x->Pv i H->g x (List.replicate k none++σ) H λσ2 H2=>tc σ2 H2 λb H3=>if b=true then te σ2 H3 λy H4=>∃ ys,H4 d=some (.lst ys)/\ys.length < sizeLine/\Pv (i+1) (upd H4 d (.lst (ys++[y]))) else Pv (i+1) H3)
  (hd:∀ H,Pv xs.length H->Q (.ref d) H) :
  ∃ W:Nat->Nat->Hp->Prop,(∃ m,W 0 m (upd H d (.lst [])))/\∀ i m H,W i m H ->
   ((Itl K a).stop i H/\Q (.ref d) H)\/((Itl K a).go i H/\∃ N:Hp->Prop,(∀ H',N H'->∃ m',m' < m/\W (i+1) m' H')/\∀ x H',(Itl K a).yld i H x H'->g x (List.replicate k none++σ) H' λσ2 H2 =>
    tc σ2 H2 λb H3=>if b=true then te σ2 H3 λy H4=>∃ ys,H4 d=some (.lst ys)/\ys.length < sizeLine/\N (upd H4 d (.lst (ys++[y]))) else N H3):=by
 refine ⟨λi m H=>m=xs.length - i/\i<=xs.length/\Pv i H,⟨xs.length,by simp,Nat.zero_le _,h0⟩,?_⟩;rintro i m H ⟨rfl,hi,p⟩;have q:=hl i H hi p;by_cases hlt:i < xs.length
 ·refine .inr ⟨⟨xs,xs[i],q,by simp [hlt]⟩,Pv (i+1),λH' p'=>⟨xs.length - (i+1),by omega,rfl,hlt,p'⟩,λx H' y=>?_⟩;obtain ⟨e,y⟩:=y;subst e;exact hs i x _ (y xs q) p
 ·have e:i=xs.length:=by omega
  subst e;exact .inl ⟨⟨xs,q,Nat.le_refl _⟩,hd H p⟩
theorem b0t:bootBuiltins "isinstance"=some (.builtin "isinstance"):=by decide +kernel
theorem b_all:bootBuiltins "all"=some (.builtin "all"):=by decide +kernel
theorem a8k:bootBuiltins "sum"=some (.builtin "sum"):=by decide +kernel
theorem b_min:bootBuiltins "min"=some (.builtin "min"):=by decide +kernel
theorem b_int:bootBuiltins "int"=some (.type "int"):=by decide +kernel
theorem b_bool:bootBuiltins "bool"=some (.type "bool"):=by decide +kernel
theorem b1T:bootBuiltins "list"=some (.type "list"):=by decide +kernel
theorem a2Y:bootBuiltins "tuple"=some (.type "tuple"):=by decide +kernel
theorem a5J (K:PySem.W.Frag):PySem.W.kitOne K (.type "int") (.type "int")=some true:=by rfl
theorem a4Z (K:PySem.W.Frag):PySem.W.kitOne K (.type "int") (.type "bool")=some false:=by rfl
theorem a1O (K:PySem.W.Frag):PySem.W.kitOne K (.type "tuple") (.type "tuple")=some true:=by rfl
theorem PE.imp {X:Cx} {e:Expr} {t t':TE} (h:PE X e t) (hi:∀ σ H Q,t' σ H Q->t σ H Q):PE X e t':=λpins s σ H Q I q=>h pins s σ H Q I (hi σ H Q q)
def a5a (tc:TT) (te:TE) (σ:St) (d:Addr) (x:V) (H:Hp) (Z:Hp->Prop):Prop :=
 tc (some x :: σ) H λb H3=>if b=true then te (some x :: σ) H3 λy H4=>∃ ys,H4 d=some (.lst ys)/\ys.length < sizeLine/\Z (upd H4 d (.lst (ys++[y]))) else Z H3
def b3e (ta:TA) (tc:TT) (te:TE):TE:=λσ H Q=>ta σ H λvs H1=>∃ j:Int,vs=[.int j]/\-(2 ^ 62)<=j/\j < 2 ^ 62/\∀ d,H1 d=none ->
 ∃ Pv:Nat->Hp->Prop,Pv 0 (upd H1 d (.lst []))/\(∀ i H,i < j.toNat->Pv i H->a5a tc te σ d (.int (0+i)) H (Pv (i+1)))/\∀ H,Pv j.toNat H->Q (.ref d) H
def b3f (ta:TA) (tc:TT) (te:TE):TE:=λσ H Q=>ta σ H λvs H1=>∃ lo hi:Int,vs=[.int lo,.int hi]/\(-(2 ^ 62)<=lo/\lo < 2 ^ 62/\-(2 ^ 62)<=hi/\hi < 2 ^ 62)/\∀ d,H1 d=none ->
 ∃ Pv:Nat->Hp->Prop,Pv 0 (upd H1 d (.lst []))/\(∀ i H,i < (hi - lo).toNat->Pv i H->a5a tc te σ d (.int (lo+i)) H (Pv (i+1)))/\∀ H,Pv (hi - lo).toNat H->Q (.ref d) H
def b1U (K:PySem.W.Frag) (tl:TE) (tc:TT) (te:TE):TE:=λσ H Q=>tl σ H λv H1=>∃ a xs,v=.ref a/\SqL K H1 a xs/\∀ d,H1 d=none ->
 ∃ Pv:Nat->Hp->Prop,Pv 0 (upd H1 d (.lst []))/\(∀ i H,i<=xs.length->Pv i H->SqL K H a xs)/\(∀ i x H,xs[i]?=some x->Pv i H->a5a tc te σ d x H (Pv (i+1)))/\∀ H,Pv xs.length H->Q (.ref d) H
def tCompT (K:PySem.W.Frag) (tl:TE) (tc:TT) (te:TE):TE:=λσ H Q=>tl σ H λv H1=>∃ a xs,v=.ref a/\SqT K H1 a xs/\∀ d,H1 d=none ->
 ∃ Pv:Nat->Hp->Prop,Pv 0 (upd H1 d (.lst []))/\(∀ i H,i<=xs.length->Pv i H->SqT K H a xs)/\(∀ i x H,xs[i]?=some x->Pv i H->a5a tc te σ d x H (Pv (i+1)))/\∀ H,Pv xs.length H->Q (.ref d) H
def a2w (t:TE):Prop:=∀ σ H (Q Q':VK),(∀ v H1,Q v H1->Q' v H1)->t σ H Q->t σ H Q'
def a5K (t:TA):Prop:=∀ σ H (Q Q':List V->Hp->Prop),(∀ v H1,Q v H1->Q' v H1)->t σ H Q->t σ H Q'
section
variable {X:Cx} {elt iter:Expr} {tg:Str} {tp:Pos} {cs:List Expr} {scope:Scope} {pos:Pos} {tc:TT} {te:TE} {M:List Str}
abbrev a5L (X:Cx) (scope:Scope) (tg:Str) (M:List Str) (cs:List Expr) (elt:Expr) (tc:TT) (te:TE):Prop :=
 ∀ (cl:List (Str × Addr)) (C:Addr) (s0:Shared) (H0:Hp) (fp:List Addr),PTs (cxC X scope cl C s0 H0 fp (tg :: M)) cs tc/\PE (cxC X scope cl C s0 H0 fp (tg :: M)) elt te
theorem a2J {wi:TI} {t:TE} (hc:X.calm=true) (S:a0x scope X.env X.N M) (nd:(tg :: M).Nodup) (hl:scope.names.lookup tg=some .local) (hi:PI X (.Name tg tp) iter wi) (hin:a5L X scope tg M cs elt tc te)
  (ht:∀ σ H Q,t σ H Q->a7q 1 wi (a1I 0) tc te σ H Q) (hs:∀ x,foldedSetIterable iter X.env x=pure x):PE X (.ListComp elt [⟨.Name tg tp,iter,cs,0⟩] scope pos) t:=by
 have hx:(relabel scope X.env).names.lookup tg=some .local:=by
  rw [a0N,hl];rfl
 exact PE.imp (b3a (xs:=[tg]) (M:=M) hc S hi (λcl C s0 H0 fp=>⟨a2Q (i:=0) nd rfl (Or.inl hx) (Or.inr hx),hin cl C s0 H0 fp⟩) (λv σ H Q h=>b1S h) hs) ht
theorem a1s {a:Expr} {ta:TA} {p pos':Pos} (hc:X.calm=true) (S:a0x scope X.env X.N M) (nd:(tg :: M).Nodup) (hl:scope.names.lookup tg=some .local) (hg:Gl X "range") (hm:X.mg "range"=none) (ha:PA X [a] ta) (mo:a5K ta)
  (hin:a5L X scope tg M cs elt tc te) (hs:starEach [a] X.env=[(false,eval a X.env)]:=by rfl) (hf:∀ x,foldedSetIterable (.Call (.Name "range" p) [a] [] pos') X.env x=pure x:=by intro _;rfl) :
  PE X (.ListComp elt [⟨.Name tg tp,.Call (.Name "range" p) [a] [] pos',cs,0⟩] scope pos) (b3e ta tc te):=by
 refine a2J hc S nd hl (a2h hg hm ha hs) hin (λσ H Q h=>?_) hf;refine mo σ H _ _ (λvs H1 q=>?_) h;obtain ⟨j,e,j1,j2,q⟩:=q;refine ⟨j,e,j1,j2,λd hd=>?_⟩;obtain ⟨Pv,h0,hs,hd⟩:=q d hd;exact a3H (k:=1) (g:=a1I 0) Pv h0 hs hd
theorem a5b {a b:Expr} {ta:TA} {p pos':Pos} (hc:X.calm=true) (S:a0x scope X.env X.N M) (nd:(tg :: M).Nodup) (hl:scope.names.lookup tg=some .local) (hg:Gl X "range") (hm:X.mg "range"=none) (ha:PA X [a,b] ta) (mo:a5K ta)
  (hin:a5L X scope tg M cs elt tc te) (hs:starEach [a,b] X.env=[(false,eval a X.env),(false,eval b X.env)]:=by rfl) (hs2:starEach [b] X.env=[(false,eval b X.env)]:=by rfl) (hf:∀ x,foldedSetIterable (.Call (.Name "range" p) [a,b] [] pos') X.env x=pure x:=by intro _;rfl) :
  PE X (.ListComp elt [⟨.Name tg tp,.Call (.Name "range" p) [a,b] [] pos',cs,0⟩] scope pos) (b3f ta tc te):=by
 refine a2J hc S nd hl (a1v hg hm ha hs hs2) hin (λσ H Q h=>?_) hf;refine mo σ H _ _ (λvs H1 q=>?_) h;obtain ⟨lo,hi,e,j1,q⟩:=q;refine ⟨lo,hi,e,j1,λd hd=>?_⟩;obtain ⟨Pv,h0,hs,hd⟩:=q d hd;exact a3H (k:=1) (g:=a1I 0) Pv h0 hs hd
theorem a1B {tl:TE} (hc:X.calm=true) (S:a0x scope X.env X.N M) (nd:(tg :: M).Nodup) (hl:scope.names.lookup tg=some .local) (hi:PE X iter tl) (mo:a2w tl)
  (hin:a5L X scope tg M cs elt tc te) (hf:∀ x,foldedSetIterable iter X.env x=pure x:=by intro _;rfl):PE X (.ListComp elt [⟨.Name tg tp,iter,cs,0⟩] scope pos) (b1U X.K tl tc te):=by
 refine a2J hc S nd hl (a2S hi) hin (λσ H Q h=>?_) hf;refine mo σ H _ _ (λv H1 q=>?_) h;obtain ⟨a,xs,e,j1,q⟩:=q;refine ⟨a,e,⟨xs,j1⟩,λd hd=>?_⟩;obtain ⟨Pv,h0,hl,hs,hd⟩:=q d hd;exact a4Y (k:=1) (g:=a1I 0) Pv h0 hl hs hd
theorem a1W {tl:TE} (hc:X.calm=true) (S:a0x scope X.env X.N M) (nd:(tg :: M).Nodup) (hl:scope.names.lookup tg=some .local) (hi:PE X iter tl) (mo:a2w tl)
  (hin:a5L X scope tg M cs elt tc te) (hf:∀ x,foldedSetIterable iter X.env x=pure x:=by intro _;rfl):PE X (.ListComp elt [⟨.Name tg tp,iter,cs,0⟩] scope pos) (tCompT X.K tl tc te):=by
 refine a2J hc S nd hl (b1J hi) hin (λσ H Q h=>?_) hf;refine mo σ H _ _ (λv H1 q=>?_) h;obtain ⟨a,xs,e,j1,q⟩:=q;refine ⟨a,e,⟨xs,j1⟩,λd hd=>?_⟩;obtain ⟨Pv,h0,hl,hs,hd⟩:=q d hd;exact b0s (k:=1) (g:=a1I 0) Pv h0 hl hs hd
theorem b0u {wi:TI} {t:TE} {i:Nat} {x:Str} {pos1 spos:Pos} (hc:X.calm=true) (S:a0x scope X.env X.N M) (nd:(tg :: M).Nodup) (hl:scope.names.lookup tg=some .local) (hi:PI X (.Name tg tp) iter wi) (hin:a5L X scope tg M cs elt tc te)
  (ht:∀ σ H Q,t σ H Q->a7q 1 wi (a1I 0) tc te σ H Q) (hN:X.N.Nodup) (hix:X.N[i]?=some x) (hx:X.env.scope.names.lookup x=some .local) (hw:swapsWith (.ListComp elt [⟨.Name tg tp,iter,cs,0⟩] scope pos) (some (.Name x pos1)) spos.line X.env=pure true) (hs:∀ x,foldedSetIterable iter X.env x=pure x) :
  PS X (.Assign [.Name x pos1] (.ListComp elt [⟨.Name tg tp,iter,cs,0⟩] scope pos) spos) (b4y t (a1I i)):=by
 have hx':(relabel scope X.env).names.lookup tg=some .local:=by
  rw [a0N,hl];rfl
 intro pins s σ H D I h;exact b3b (xs:=[tg]) (M:=M) hc S hi (λcl C s0 H0 fp=>⟨a2Q (i:=0) nd rfl (Or.inl hx') (Or.inr hx'),hin cl C s0 H0 fp⟩) (λv σ H Q h=>b1S h) hN hix hx hw hs pins s σ H D I (ht _ _ _ h)
end
theorem a0E {te:TE} {σ:St} {d:Addr} {x:V} {H:Hp} {Z:Hp->Prop} (h:te (some x :: σ) H λy H4=>∃ ys,H4 d=some (.lst ys)/\ys.length < sizeLine/\Z (upd H4 d (.lst (ys++[y])))):a5a b0p te σ d x H Z:=by
 unfold a5a b0p;exact a6r h
theorem a0O {i:Nat}:a2w (tVar i):=λ_ _ _ _ h ⟨v,e,q⟩=>⟨v,e,h _ _ q⟩
theorem b3g {v:V}:a2w (tC v):=λ_ _ _ _ h q=>h _ _ q
theorem a1y:a5K b2R:=λ_ _ _ _ h q=>h _ _ q
theorem a0U {te:TE} {ta:TA} (h1:a2w te) (h2:a5K ta):a5K (a5C te ta):=λσ H Q Q' h q=>h1 σ H _ _ (λv H1 q1=>h2 σ H1 _ _ (λvs H2 q2=>h _ _ q2) q1) q
theorem a5M {r:R2} {ta tb:TE} (hr:∀ x y H (Q Q':VK),(∀ v H1,Q v H1->Q' v H1)->r x y H Q->r x y H Q') (h1:a2w ta) (h2:a2w tb):a2w (tOp r ta tb):=λσ H Q Q' h q =>
 h1 σ H _ _ (λv H1 q1=>h2 σ H1 _ _ (λu H2 q2=>hr _ _ _ _ _ h q2) q1) q
theorem a2Z {g:Int->Int->V}:∀ x y H (Q Q':VK),(∀ v H1,Q v H1->Q' v H1)->rI0 g x y H Q->rI0 g x y H Q':=λ_ _ _ _ _ h ⟨i,j,e1,e2,q⟩=>⟨i,j,e1,e2,h _ _ q⟩
theorem a8l {K:PySem.W.Frag} {ta:TA} (h1:a5K ta):a2w (tCB (λxs H Q=>∃ p ys,xs=[.ref p]/\(SqL K H p ys\/SqT K H p ys)/\Q (.int (ys.length:Nat)) H) ta):=λσ H Q Q' h q =>
 h1 σ H _ _ (λvs H1 ⟨p,ys,e,s,q1⟩=>⟨p,ys,e,s,h _ _ q1⟩) q
abbrev TW (H:Hp) (a:Addr) (ns:List Int):Prop:=H a=some (.tup (ns.map V.int))
abbrev Wd (H:Hp) (x:V) (w:List Int):Prop:=b1Q H a7B x w
abbrev Ws (H:Hp) (xs:List V) (ws:List (List Int)):Prop:=Paired (b1Q H a7B) xs ws
theorem Wd.ti {H:Hp} {x:V} {w:List Int} (h:Wd H x w):∃ a,x=.ref a/\TW H a w:=by
 obtain ⟨a,xs,rfl,e,p⟩:=h;exact ⟨a,rfl,by show H a=_;rw [e,Paired.ofInts p]⟩
theorem Wd.of {H:Hp} {a:Addr} {w:List Int} (h:TW H a w):Wd H (.ref a) w:=a2X h
theorem Wd.same {H H':Hp} {x:V} {w:List Int} (sm:a0p H H') (h:Wd H x w):Wd H' x w:=by
 obtain ⟨a,xs,rfl,e,p⟩:=h;exact ⟨a,xs,rfl,sm _ _ e,p⟩
theorem Ws.same {H H':Hp} {xs:List V} {ws:List (List Int)} (sm:a0p H H') (h:Ws H xs ws):Ws H' xs ws:=Paired.mapP h λ_ _ q=>Wd.same sm q
section
variable {α β:Type} {R:α->β->Prop}
theorem Paired.appendP:∀ {xs ys:List α} {ds es:List β},Paired R xs ds->Paired R ys es->Paired R (xs++ys) (ds++es)
 | _,_,_,_,.nil,s=>s
 | _,_,_,_,.cons r t,s=>.cons r (Paired.appendP t s)
theorem Paired.left_of:∀ {xs:List α} {ds:List β},Paired R xs ds->∀ (j:Nat) (d:β),ds[j]?=some d->∃ x,xs[j]?=some x/\R x d
 | _,_,.nil,j,x,e=>by simp at e
 | _,_,.cons r t,0,x,e=>by simp at e;subst e;exact ⟨_,rfl,r⟩
 | _,_,.cons r t,j+1,x,e=>by
  obtain ⟨d,e1,e2⟩:=Paired.left_of t j x (by simpa using e);exact ⟨d,by simpa using e1,e2⟩
end
theorem a1P {xs:List V} {i:Nat} {x:V} (h:xs[i]?=some x):atI xs (i:Int)=some x:=a0S h
theorem a3I {ns:List Int} {k:Nat} {x:Int} (h:ns[k]?=some x):atI (ns.map V.int) (k:Int)=some (.int x):=a0S (by rw [List.getElem?_map,h];rfl)
theorem at_of {xs:List V} {i:Int} (h0:0<=i) (h1:i < (xs.length:Int)):∃ x,xs[i.toNat]?=some x/\atI xs i=some x:=by
 obtain ⟨n,rfl⟩:∃ n:Nat,i=n:=⟨i.toNat,by omega⟩
 have:n < xs.length:=by omega
 exact ⟨xs[n],List.getElem?_eq_getElem this,a0S (List.getElem?_eq_getElem this)⟩
theorem hu4 {A:Around} {k:Nat} (hr:a1L k A):A.units+4 < cLine:=by have:=hr.units;omega
theorem small {n:Nat} (h:n<=1000):n<=sizeLine:=Nat.le_of_lt (a0m h)
theorem cut_to (xs:List V) (n:Nat):a7X xs none (some (n:Int))=xs.take n:=by
 unfold a7X;rw [HT.a7V,HT.a6o];simp [List.take_eq_take_iff]
theorem a6u (xs:List V) (n:Nat):a7X xs (some (n:Int)) none=xs.drop n:=by
 unfold a7X;rw [HT.a7V,HT.a6o];by_cases h:n<=xs.length
 ·rw [Nat.min_eq_left h];exact List.take_of_length_le (by rw [List.length_drop];omega)
 ·rw [Nat.min_eq_right (by omega),List.drop_eq_nil_of_le (Nat.le_refl _),List.drop_eq_nil_of_le (by omega)];simp
theorem a0n {H H1:Hp} {d:Addr} {o:HO} (h:H d=none) (sm:a0p H H1):a0p H (upd H1 d o):=λb u q=>by rw [a0i (a0A q h)];exact sm b u q
structure Fns (P:Program) (w:World) (K:PySem.W.Frag) (mg:Str->Option Value) (base:Heap) (ps:List Str) (name:Str) (sp:Sp) (k:Nat) where
 g:Addr
 gd:FuncData
 ok:a0M P w K mg base CX0 k g gd ps sp
 b:a1r K gd ps []
 kp:PySem.W.keepIn K (.ref g)=true
 m:mg name=some (.ref g)
theorem pcF {X:Cx} {ps:List Str} {x:Str} {sp:Sp} {k:Nat} {e:Expr} {es:List Expr} {t:TA} {p pos:Pos} (G:Fns X.prog X.w X.K X.mg X.base ps x sp k) (hr:a1L k X.A) (ha:PA X (e :: es) t) (hg:Gl X x:=by rfl) (hdb:(x == ("__debug__":Str))=false:=by decide) (he:starEach (e :: es) X.env=(false,eval e X.env) :: starEach es X.env:=by rfl) (hpl:(backTo pos (starEach es X.env)).any (·.1)=false:=by rfl):PE X (.Call (.Name x p) (e :: es) [] pos) (tCall sp [] E0 t):=a0Z G.ok hr hg G.m G.kp G.b .nil a0Y ha hdb he hpl
def Fns.up {P:Program} {w:World} {K:PySem.W.Frag} {mg:Str->Option Value} {base:Heap} {ps:List Str} {name:Str} {sp:Sp} {j k:Nat} (f:Fns P w K mg base ps name sp j) (h:j<=k):Fns P w K mg base ps name sp k:=⟨f.g,f.gd,f.ok.mono h,f.b,f.kp,f.m⟩
def tMid (t:TS):TS:=λD σ H=>∃ Mid:St->Hp->Prop,t { D with nx:=Mid } σ H/\∀ σ' H',Mid σ' H'->D.nx σ' H'
theorem a3a {X:Cx} {st:Stmt} {t:TS} (h:PS X st t):PS X st (tMid t):=by
 intro pins s σ H D I ⟨Mid,h1,h2⟩;refine thn (h pins s σ H _ I h1) λfl s' q=>?_;cases fl with
 | next=>obtain ⟨σ',H',I',m⟩:=q;exact ⟨σ',H',I',h2 _ _ m⟩
 | brk=>exact q
 | cont=>exact q
 | ret u=>exact q
def eMid (t:TE):TE:=λσ H Q=>∃ Mid:V->Hp->Prop,t σ H Mid/\∀ v H',Mid v H'->Q v H'
theorem a5c {X:Cx} {e:Expr} {t:TE} (h:PE X e t):PE X e (eMid t):=by
 intro pins s σ H Q I ⟨Mid,h1,h2⟩;exact thn (h pins s σ H _ I h1) λu s' ⟨v,H',I',r,m⟩=>⟨v,H',I',r,h2 _ _ m⟩
theorem a6v {t:TE}:a2w (eMid t):=λσ H Q Q' h ⟨Mid,h1,h2⟩=>⟨Mid,h1,λv H' m=>h _ _ (h2 v H' m)⟩
theorem ixL {X:Cx} (K:PySem.W.Frag) (h:X.K=K:=by rfl):IxR X (rIxL K):=by subst h;exact a0j
theorem ixT {X:Cx} (K:PySem.W.Frag) (h:X.K=K:=by rfl):IxR X (rIxT K):=by subst h;exact a0y
theorem Wd.upd {H:Hp} {l:Addr} {ls ls':List V} {x:V} {w:List Int} (hl:H l=some (.lst ls)) (h:Wd H x w):Wd (upd H l (.lst ls')) x w:=by
 obtain ⟨a,xs,rfl,e,p⟩:=h;exact ⟨a,xs,rfl,by rw [a0i (a0q e hl (by intro z;cases z))];exact e,p⟩
theorem Ws.upd {H:Hp} {l:Addr} {ls ls' xs:List V} {ws:List (List Int)} (hl:H l=some (.lst ls)) (h:Ws H xs ws):Ws (upd H l (.lst ls')) xs ws:=Paired.mapP h λ_ _ q=>Wd.upd hl q
section
variable {X:Cx} {elt iter:Expr} {tg:Str} {tp:Pos} {cs:List Expr} {scope:Scope} {pos:Pos} {tc:TT} {te:TE} {M:List Str}
end
def a1Q (h:Heap) (e:Addr) (cls:Value) (od:Option Addr) (hd:Value):Prop:=∃ oe vs,h.get? e=some oe/\oe.cls=cls/\oe.dict=od/\oe.data=.fields vs/\vs[1]?=some hd
def a5N (h:Heap) (T:Addr) (fl:Value):Prop:=∃ oT ts,h.get? T=some oT/\oT.data=.fields ts/\ts[3]?=some fl
def Mv (S fs:List Addr) (h h':Heap):Prop:=∀ b o,h.get? b=some o->b∉S->(b∉fs->h'.get? b=some o)/\∃ sl,h'.get? b=some { o with slots:=sl }
section
variable {S S' fs:List Addr} {h h1 h2:Heap}
theorem Mv.refl:Mv S fs h h:=λ_ o e _=>⟨λ_=>e,o.slots,e⟩
theorem Mv.trans (a:Mv S fs h h1) (b:Mv S fs h1 h2):Mv S fs h h2:=λc o e n=>by
 obtain ⟨k,sl,e1⟩:=a c o e n;obtain ⟨_,sl2,e2⟩:=b c _ e1 n;exact ⟨λnf=>(b c o (k nf) n).1 nf,sl2,e2⟩
theorem Mv.mono (a:Mv S fs h h1) (hs:∀ b∈S,b∈S'):Mv S' fs h h1:=λb o e n=>a b o e λz=>n (hs b z)
theorem Mv.frames (a:Mv S fs h h1) {base:Heap} {l:List Env} (hl:h.FunFrames base l) (hS:∀ b∈S,∀ o,h.get? b=some o->∃ vs,o.data=.fields vs):h1.FunFrames base l :=
 hl.of_keeps λb o hb hn=>by
  obtain ⟨_,sl,e⟩:=a b o hb λz=>by
   obtain ⟨vs,q⟩:=hS b z o hb;exact hn vs q
  exact ⟨_,e,rfl⟩
end
theorem a3x (f:Array Value->Array Value) (o:Obj):(Obj.mapFields f o).dict=o.dict:=by
 obtain ⟨c,d,dt,sl⟩:=o;cases dt <;> rfl
section
variable {M:Model} {A:Around} {E:Value->Shared->Prop} {s:Shared} {env:Env} {outer:List Env} {base:Heap} {L e T:Addr} {cls hd fl head:Value} {od:Option Addr} {S:List Addr} {Q:Unit->Shared->Prop}
theorem a3b {hadNext:Bool} (hfr:A.frames=some (env :: outer)) (hl:s.heap.FunFrames base (env :: outer)) (hf:env.frame=some L) (x:a1Q s.heap e cls od hd)
  (h:∀ h' T,Mv [e] (frs (env :: outer)) s.heap h'->s.heap.objs.size<=T->T≠e->a1Q h' e cls od (.ref T)->a5N h' T (rawInt L)->Q () { s with heap:=h' }) :
  wpAny M A (do let a <-frameOf env;let pl <-entryPlaceOf L hadNext;let b <-EntryCells.newEntry head a .none (rawInt L) .none pl;setField (.ref e) 1 b) Q E s:=by
 obtain ⟨oe,vs,he,hc,hdd,hd1,h1⟩:=x;have hsz:1 < vs.size:=(Array.getElem?_eq_some_iff.mp h1).1;have ne:e∉frs (env :: outer):=λhm=>by
  obtain ⟨_,o,ho,hn⟩:=hl.mem hm;rw [he] at ho;cases ho;exact hn vs hd1
 refine wpAny_bind (wpAny_frameOf_fun hfr hl hf λg so=>?_);refine wpAny_bind (wpAny_entryPlaceOf λpl hp=>?_);unfold EntryCells.newEntry newFields;refine wpAny_bind (wpAny_newObj_type ?_ (hp.sizeOk5 _ _ _ _ _));have e1:g.get? e=some oe:=(so.2.1 e ne).trans he;have hTe:g.objs.size≠e:=Nat.ne_of_gt (Heap.lt_size e1);have t3:([head,.ref L,.none,rawInt L,.none]++(if pl.isEmpty then List.replicate 6 Value.none else pl)).toArray[3]?=some (rawInt L):=by simp
 generalize ([head,.ref L,.none,rawInt L,.none]++(if pl.isEmpty then List.replicate 6 Value.none else pl)).toArray=ts at t3 ⊢;have e2:=Heap.get?_push_of_some (h:=g) { cls:=.type "traceback",dict:=none,data:=.fields ts } e1;refine wpAny_setField e2 hd1 hsz (h _ g.objs.size (λb o hb hn=>?_) (by rw [so.1];exact Nat.le_refl _) hTe ?_ ?_)
 ·have hbe:b≠e:=λz=>hn (by rw [z];exact List.mem_cons_self);have mv:∀ o',g.get? b=some o'->((g.push { cls:=.type "traceback",dict:=none,data:=.fields ts }).update e (Obj.mapFields (·.setIfInBounds 1 (Value.ref g.objs.size)))).get? b=some o':=λo' q=>by
   rw [Heap.get?_update_other _ _ (Ne.symm hbe)];exact Heap.get?_push_of_some _ q
  obtain ⟨sl,q⟩:=so.2.2 b o hb;exact ⟨λnf=>mv o ((so.2.1 b nf).trans hb),sl,mv _ q⟩
 ·exact ⟨_,_,Heap.get?_update_self _ e2 (Obj.isFreed_of_fields (Obj.data_mapFields hd1 _)),(Obj.cls_mapFields _ _).trans hc,(a3x _ _).trans hdd,Obj.data_mapFields hd1 _,by simp [hsz]⟩
 ·refine ⟨{ cls:=.type "traceback",dict:=none,data:=.fields ts },ts,?_,rfl,t3⟩;rw [Heap.get?_update_other _ _ (Ne.symm hTe)];exact Heap.get?_push_size g rfl
def a7s (h:Heap) (e:Addr) (cls:Value) (od:Option Addr) (S:List Addr):Prop :=
 e∈S/\(∀ b∈S,∀ o,h.get? b=some o->∃ vs,o.data=.fields vs)/\∃ hd,a1Q h e cls od hd/\(hd=.none\/∃ T,T∈S/\hd=.ref T/\T≠e/\a5N h T .none)
theorem a6w {x:Value} (t:a5N s.heap T fl) (h:∀ h',h'.objs.size=s.heap.objs.size->a5N h' T x->(∀ b,b≠T->h'.get? b=s.heap.get? b)->Q () { s with heap:=h' }):wpAny M A (setField (.ref T) 3 x) Q E s:=by
 obtain ⟨oT,ts,hT,hdT,h3⟩:=t;have hsz:3 < ts.size:=(Array.getElem?_eq_some_iff.mp h3).1;exact wpAny_setField hT hdT hsz (h _ (Heap.size_after_update ..) ⟨_,_,Heap.get?_update_self _ hT (Obj.isFreed_of_fields (Obj.data_mapFields hdT _)),Obj.data_mapFields hdT _,by simp [hsz]⟩ λb hb=>Heap.get?_update_other _ _ (Ne.symm hb))
theorem a1Q.other {h h':Heap} (x:a1Q h e cls od hd) (k:h'.get? e=h.get? e):a1Q h' e cls od hd:=by
 obtain ⟨oe,vs,he,r⟩:=x;exact ⟨oe,vs,k.trans he,r⟩
theorem a8m (hfr:A.frames=some (env :: outer)) (hl:s.heap.FunFrames base (env :: outer)) (hf:env.frame=some L) (lo:a7s s.heap e cls od S)
  (h:∀ h' T,Mv S (frs (env :: outer)) s.heap h'->s.heap.objs.size<=T->T≠e->a1Q h' e cls od (.ref T)->a5N h' T (rawInt L)->Q () { s with heap:=h' }):wpAny M A (noteFrame (.ref e) env) Q E s:=by
 obtain ⟨heS,hSf,hd,x,hh⟩:=lo;unfold noteFrame;simp only [hf];obtain ⟨oe,vs,he,hc,hdd,hd1,h1⟩:=id x;refine wpAny_bind (wpAny_field he hd1 h1 ?_);rcases hh with rfl | ⟨T,hTS,rfl,hTe,tb⟩
 ·rw [if_neg (by decide)];exact a3b hfr hl hf x λh' T m hs hT x' t'=>h h' T (m.mono λb hb=>by rw [List.mem_singleton.mp hb];exact heS) hs hT x' t'
 ·rw [if_pos (show (Value.ref T != Value.none)=true from by simp)];obtain ⟨oT,ts,hT,hdT,h3⟩:=id tb;refine wpAny_bind (wpAny_field hT hdT h3 ?_);rw [if_neg (show ¬ ((Value.none == rawInt L)=true) from by simp [rawInt])];refine wpAny_bind (a6w tb λg m1 t1 k1=>?_);have m2:Mv S (frs (env :: outer)) s.heap g:=λb o hb hn=>by
   have hbT:b≠T:=λz=>hn (by rw [z];exact hTS);have q:=(k1 b hbT).trans hb;exact ⟨λ_=>q,o.slots,q⟩
  refine a3b (s:={ s with heap:=g }) hfr (m2.frames hl hSf) hf (x.other (k1 e (Ne.symm hTe))) λh' T' m hs hT' x' t'=>?_;exact h h' T' (m2.trans (m.mono λb hb=>by rw [List.mem_singleton.mp hb];exact heS)) (by rw [<-m1];exact hs) hT' x' t'
theorem a3c (x:a1Q s.heap e cls od (.ref T)) (t:a5N s.heap T fl) (hTe:T≠e) (h:∀ h',h'.objs.size=s.heap.objs.size->a1Q h' e cls od (.ref T)->a5N h' T .none->(∀ b,b≠T->h'.get? b=s.heap.get? b)->Q () { s with heap:=h' }) :
  wpAny M A (setFlight (.ref e) none) Q E s:=by
 obtain ⟨oe,vs,he,hc,hdd,hd1,h1⟩:=id x;unfold setFlight;refine wpAny_bind (wpAny_field he hd1 h1 ?_);rw [if_pos (show (Value.ref T != Value.none)=true from by simp)];exact a6w t λg m1 t1 k1=>h g m1 (x.other (k1 e (Ne.symm hTe))) t1 k1
theorem a6x {h:Heap} (x:a1Q h e cls od (.ref T)) (t:a5N h T .none) (hT:T≠e):a7s h e cls od [T,e]:=by
 refine ⟨List.mem_cons_of_mem _ List.mem_cons_self,λb hb o ho=>?_,.ref T,x,.inr ⟨T,List.mem_cons_self,rfl,hT,t⟩⟩;rcases List.mem_cons.mp hb with hb | hb
 ·obtain ⟨oT,ts,q,hd,_⟩:=t;rw [hb,q] at ho;cases ho;exact ⟨ts,hd⟩
 ·obtain ⟨oe,vs,q,_,_,hd,_⟩:=x;rw [List.mem_singleton.mp hb,q] at ho;cases ho;exact ⟨vs,hd⟩
theorem a8n (hfr:A.frames=some (env :: outer)) (hl:s.heap.FunFrames base (env :: outer)) (hf:env.frame=some L) (lo:a7s s.heap e cls od S)
  (h:∀ h' T,Mv S (frs (env :: outer)) s.heap h'->s.heap.objs.size<=T->T≠e->a1Q h' e cls od (.ref T)->a5N h' T .none->Q () { s with heap:=h' }) :
  wpAny M A (noteFrame (.ref e) env) (λ_ s1=>wpAny M A (setFlight (.ref e) none) Q E s1) E s:=by
 refine a8m hfr hl hf lo λg T m hs hT x t=>?_;refine a3c (s:={ s with heap:=g }) x t hT λh' m1 x' t' k1=>?_;have mm:Mv S (frs (env :: outer)) s.heap h':=λb o hb hn=>by
  have hbT:b≠T:=Nat.ne_of_lt (Nat.lt_of_lt_of_le (Heap.lt_size hb) hs);obtain ⟨q1,sl,q2⟩:=m b o hb hn;exact ⟨λnf=>(k1 b hbT).trans (q1 nf),sl,(k1 b hbT).trans q2⟩
 exact h h' T mm hs hT x' t'
theorem b0v (hfr:A.frames=some (env :: outer)) (hl:s.heap.FunFrames base (env :: outer)) (hf:env.frame=some L) (lo:a7s s.heap e cls od S)
  (h:∀ h' T,Mv S (frs (env :: outer)) s.heap h'->s.heap.objs.size<=T->a7s h' e cls od [T,e]->Q () { s with heap:=h' }):wpAny M A (leaving env (.ref e)) Q E s:=by
 unfold leaving;exact wpAny_bind (a8n hfr hl hf lo λh' T m hs hT x t=>h h' T m hs (a6x x t hT))
end
theorem a0R.obj {P:Program} {w:World} {H:Hp} {h:Heap} {a:Addr} {o:HO} (x:a0R P w H h a o):∃ ob,h.get? a=some ob:=by
 cases o with
 | lst xs=>obtain ⟨_,_,_,_,e⟩:=x;exact ⟨_,e⟩
 | tup xs=>obtain ⟨_,_,_,ob,e,_⟩:=x;exact ⟨_,e⟩
 | dK kvs=>obtain ⟨_,_,_,_,ob,_,_,e,_⟩:=x;exact ⟨_,e⟩
 | dT kvs=>obtain ⟨_,_,_,_,ob,_,_,e,_⟩:=x;exact ⟨_,e⟩
 | set S n=>obtain ⟨ob,_,_,_,e,_⟩:=x;exact ⟨_,e⟩
 | ins C dx fs=>obtain ⟨_,_,_,e,_⟩:=x;exact ⟨_,e⟩
 | own y=>exact x
 | xd fs=>obtain ⟨_,⟨ob,_,_,e,_⟩,_⟩:=x;exact ⟨_,e⟩
 | rng lo hi=>obtain ⟨_,_,_,e⟩:=x;exact ⟨_,e⟩
 | frz ob u=>obtain ⟨e,_⟩:=x;exact ⟨_,e⟩
 | tbl ps=>exact ⟨_,show h.get? a=some _ from x⟩
 | met f y=>exact ⟨_,show h.get? a=some _ from x⟩
 | ext φ=>obtain ⟨_,e,_⟩:=x;exact e
theorem HOk.none_of {P:Program} {w:World} {H:Hp} {h:Heap} (x:HOk P w H h) {a:Addr} (n:h.get? a=none):H a=none:=by
 cases e:H a with
 | none=>rfl
 | some o =>
  obtain ⟨ob,q⟩:=(x a o e).obj;rw [n] at q;cases q
section
variable {X:Cx} {pins:List (Addr × Obj)} {σ:St} {H H':Hp} {s:Shared} {h':Heap} {b:Addr} {S:List Addr}
def Off (X:Cx) (pins:List (Addr × Obj)) (b:Addr):Prop :=
 (∀ o,X.s₀.heap.get? b=some o->b∈X.ex)/\b≠X.env.locals/\(∀ x c,X.env.cells.lookup x=some c->c≠b)/\∀ p∈X.pn++pins,p.1≠b
theorem Inv.off (I:Inv X pins σ H s) (n:s.heap.get? b=none):Off X pins b:=by
 refine ⟨λo e=>?_,λz=>?_,λx c e z=>?_,λp hp z=>?_⟩
 ·by_cases hx:b∈X.ex
  ·exact hx
  ·obtain ⟨o',e'⟩:=I.base.there b o e hx;rw [n] at e';cases e'
 ·obtain ⟨m,⟨o,_,_,ho,_⟩,_⟩:=I.loc;rw [z,ho] at n;cases n
 ·obtain ⟨v,o,ho,_⟩:=I.cell x c e;rw [z,n] at ho;cases ho
 ·have q:=(I.pin p hp).1;rw [z,n] at q;cases q
theorem Inv.moved {t':Nat} (I:Inv X pins σ H s) (m:Mv S (frs X.stack) s.heap h') (hS:∀ b∈S,Off X pins b/\H b=none):Inv X pins σ H { s with heap:=h',toks:=t' }:=by
 have neL:∀ b o,X.s₀.heap.get? b=some o->b≠X.env.locals:=λb o e=>Nat.ne_of_lt (Nat.lt_of_lt_of_le (Heap.lt_size e) I.ok.above);have nS:∀ b o,X.s₀.heap.get? b=some o->b∉X.ex->b∉S:=λb o e hx z=>hx ((hS b z).1.1 o e);have nst:∀ b,b≠X.env.locals->b∉X.fs->b∉frs X.stack:=λb h1 h2 z=>(List.mem_cons.mp (I.stkSub b z)).elim h1 h2;have cellM:∀ x c,X.env.cells.lookup x=some c->∀ v,s.heap.IsCell c v->h'.IsCell c v:=λx c e v ⟨o,ho,hd⟩=>by
  obtain ⟨_,sl,q⟩:=m c o ho λz=>(hS c z).1.2.2.1 x c e rfl;exact ⟨_,q,hd⟩
 refine ⟨I.ok,I.os,I.bare,⟨λb o e n hb hx=>?_,λb o e n hb hx=>?_,I.base.free,λb o e hx=>?_,I.base.tups,I.base.frzs,I.base.tbls⟩,?_,λx c e=>?_,I.free,I.freeC,λp hp=>?_,λb u e=>?_,I.len⟩
 ·exact (m b o (I.base.keep b o e n hb hx) (nS b o e hx)).1 (nst b (neL b o e) hb)
 ·obtain ⟨sl,e1⟩:=I.base.slot b o e n hb hx;obtain ⟨_,sl',e2⟩:=m b _ e1 (nS b o e hx);exact ⟨sl',e2⟩
 ·obtain ⟨o',e1⟩:=I.base.there b o e hx;obtain ⟨_,sl,e2⟩:=m b _ e1 (nS b o e hx);exact ⟨_,e2⟩
 ·obtain ⟨mm,hn,hl⟩:=I.loc;refine ⟨mm,?_,λi x v e1 e2 e3=>?_⟩
  ·obtain ⟨o,es,ep,ho,r⟩:=hn;obtain ⟨_,sl,q⟩:=m _ o ho λz=>(hS _ z).1.2.1 rfl;exact ⟨_,es,ep,q,r⟩
  ·obtain ⟨u,r,l⟩:=hl i x v e1 e2 e3;refine ⟨u,r,?_⟩;rcases l with l | ⟨k,c,e,z⟩
   ·exact .inl l
   ·exact .inr ⟨k,c,e,cellM x c e _ z⟩
 ·obtain ⟨v,z⟩:=I.cell x c e;exact ⟨v,cellM x c e v z⟩
 ·obtain ⟨e,n,ne,nf,d⟩:=I.pin p hp;exact ⟨(m _ _ e λz=>(hS _ z).1.2.2.2 p hp rfl).1 (nst _ ne nf),n,ne,nf,d⟩
 ·refine (I.hok b u e).stay (λc v hc q=>?_) (λ_ q=>q) λ_ _ q=>q;have ht:H c≠none:=by
   rcases hc with rfl | hc
   ·rw [e];exact λz=>nomatch z
   ·rw [hc];exact λz=>nomatch z
  exact (m c v q λz=>ht (hS c z).2).1 λz=>ht (I.stkFree c z)
theorem Inv.track {φ:Heap->Prop} (I:Inv X pins σ H s) (ob:Off X pins b) (n:H b=none) (hφ:φ s.heap) (ho:∃ o,s.heap.get? b=some o) (st:∀ h1 h2:Heap,φ h1->(∀ o,h1.get? b=some o->h2.get? b=some o)->φ h2)
  (nf:b∉X.fs):Inv X pins σ (upd H b (.ext φ)) s:=by
 refine ⟨I.ok,I.os,I.bare,⟨I.base.keep,I.base.slot,λc o e n' hx=>?_,I.base.there,λc xs e=>?_,λc o u e=>?_,λc ps e=>?_⟩,I.loc,I.cell,?_,λx c e=>?_,λp hp=>?_,λc u e=>?_,I.len⟩
 ·have hcb:c≠b:=λz=>by
   subst z;exact hx (ob.1 o e)
  rw [a0i hcb];exact I.base.free c o e n' hx
 ·rw [a0i (a0A (I.base.tups c xs e) n)];exact I.base.tups c xs e
 ·rw [a0i (a0A (I.base.frzs c o u e) n)];exact I.base.frzs c o u e
 ·obtain ⟨more,q⟩:=I.base.tbls c ps e;exact ⟨more,by rw [a0i (a0A q n)];exact q⟩
 ·rw [a0i (Ne.symm ob.2.1)];exact I.free
 ·rw [a0i (ob.2.2.1 x c e)];exact I.freeC x c e
 ·obtain ⟨e,n',ne,nf',d⟩:=I.pin p hp;exact ⟨e,by rw [a0i (ob.2.2.2 p hp)];exact n',ne,nf',d⟩
 ·by_cases hc:c=b
  ·subst hc;rw [a0b] at e;cases e;exact ⟨hφ,ho,st⟩
  ·rw [a0i hc] at e;refine (I.hok c u e).stay (λ_ _ _ q=>q) (λd r=>?_) λd xs r=>?_
   ·rw [a0i (a0A r n)];exact r
   ·rw [a0i (a0A r n)];exact r
end
def CXF (P:Program) (w:World):CXT:=λouter H s E e s'=>∃ (ea:Addr) (cls:Value) (od:Option Addr) (S:List Addr) (H':Hp),e=.ref ea/\s'.os=s.os/\AllBare s'.gens /\
 Un (frs outer) [] H H' s.heap s'.heap/\HOk P w H' s'.heap/\a7s s'.heap ea cls od S/\(∀ b∈S,s.heap.get? b=none/\H' b=none)/\E cls od H'
section
variable {P:Program} {w:World} {K:PySem.W.Frag} {mg:Str->Option Value} {base:Heap} {N:List Str} {qual:Str} {scope:Scope} {f:Addr} {cd:Value} {A:Around} {outer:List Env} {s₀:Shared} {H₀:Hp} {E:XK}
theorem a1z:a1M (CXF P w) (a5B (CXF P w) P w K mg base N qual scope f cd A outer s₀ H₀ E) E:=by
 intro pins σ H s e s' I h;obtain ⟨ea,cls,od,S,H',rfl,os,bare,un,hok,lo,hS,q⟩:=h;have I1:=I.call' (ch:=[]) os un hok bare (λb z=>absurd z (by simp));show wpAny _ _ (leaving _ (.ref ea)) _ _ s';refine b0v I.ok.frames I1.stack rfl lo λh' T m hs lo'=>?_;have I2:Inv _ pins σ H' { s' with heap:=h',toks:=s'.toks }:=I1.moved (S:=S) m λb hb=>⟨I.off (hS b hb).1,(hS b hb).2⟩
 have out:∀ b,Off (a5B (CXF P w) P w K mg base N qual scope f cd A outer s₀ H₀ E) pins b->s₀.heap.get? b=none:=λb ob=>by
  cases e:s₀.heap.get? b with
  | none=>rfl
  | some o=>exact absurd (ob.1 o e) (by show b∉([]:List Addr);simp)
 refine ⟨ea,cls,od,[T,ea],H',rfl,I2.os,I2.bare,I2.base,I2.hok,lo',λb hb=>?_,q⟩;rcases List.mem_cons.mp hb with rfl | hb
 ·exact ⟨out _ (I1.off (Heap.get?_none_of_le hs)),I1.hok.fresh hs⟩
 ·rw [List.mem_singleton.mp hb];exact ⟨out _ (I.off (hS ea lo.1).1),(hS ea lo.1).2⟩
theorem Fun.okF {x qual:Str} {st:Stmt} {f:Addr} {fd:FuncData} {N ps:List Str} {k:Nat} {sp:Sp} (F:Fun K x qual st f fd) (S:a0k N ps (a0g st)) (len:∀ vs H Q E,sp vs H Q E->vs.length=ps.length)
  (hbody:∀ (cdv:Value) (A:Around) (outer:List Env) (s:Shared) (H:Hp) (vs:List V) (Q:VK) (E:XK),a1L k (A.deeper (envOfC qual (a0g st) s.heap.objs.size f cdv))->sp vs H Q E ->
   ∃ t,PSs (a5B (CXF P w) P w K mg base N qual (a0g st) f cdv A outer s H E) (a0D st) t/\t { nx:=λ_ H'=>Q .non H',rt:=Q } (start N vs) H):a0M P w K mg base (CXF P w) (k+1) f fd ps sp:=by
 obtain ⟨oc,od,kV,doc,pm,an,cdv,ct,osl,rfl,lk,hcd⟩:=F.ex;exact b2T lk hcd S len λA outer s H vs Q E hr hsp=>hbody cdv A outer s H vs Q E hr hsp
end
abbrev b4A:List Value:=[.type "ValueError",.type "Exception",.type "BaseException",.type "object"]
abbrev a5O:String:="ValueError.__new__"
structure Ecl (K:PySem.W.Frag) (C:Addr):Prop where
 ex:PySem.W.excIn K C b4A a5O=true
theorem Ecl.obj {K:PySem.W.Frag} {C:Addr} (c:Ecl K C) {h:Heap} (X:K.In h):∃ bm N nm q bs hdct sn sub ab col dd k0 k1 k2 k3 k5 mN,h.get? C=some (excClassObj nm q C N bs bm hdct sn sub ab col dd k0 k1 k2 k3 k5 a5O)/\h.Ns N mN/\mN "__init__"=none/\OwnTail h b4A bm:=by
 have q:=c.ex;unfold PySem.W.excIn at q;split at q
 ·rename_i dd cd sl ho;split at q
  ·rename_i C' bm k0 k1 k2 k3 n k5 hm hs;simp only [Bool.and_eq_true,beq_iff_eq,Bool.not_eq_true'] at q;obtain ⟨⟨⟨⟨⟨rfl,rfl⟩,hdel⟩,ht⟩,hok⟩,hni⟩:=q;obtain ⟨nm,bs,mro,ns,qn,hd,sn,sub,ab,col,del⟩:=cd;dsimp only at hm hdel hok hni;subst hm hdel;obtain ⟨l⟩:=sl;have hl:l=[k0,k1,k2,k3,some (.builtin a5O),k5]:=hs;subst hl;exact ⟨bm,ns,nm,qn,bs,hd,sn,sub,ab,col,dd,k0,k1,k2,k3,k5,_,X _ _ ho,.of_isNs (PySem.W.isNs_of_in X hok),PySem.W.nsMap_none_of_in X hok hni,PySem.W.tail_of_in X ht⟩
  ·cases q
 ·cases q
def tRaise (C:Addr) (E:XK) (ta:TA):TS:=λ_ σ H=>ta σ H λvs H1=>vs.length<=1000/\E (.ref C) none H1
theorem a2K {X:Cx} {E:XK} {x:Str} {C:Addr} {np cpos pos:Pos} {e:Expr} {es:List Expr} {ta:TA} (hx:a1M (CXF X.prog X.w) X E) (hc:X.calm=true) (hg:Gl X x) (hm:X.mg x=some (.ref C)) (hcl:Ecl X.K C) (ha:PA X (e :: es) ta)
  (hdb:(x == ("__debug__":Str))=false:=by decide) (he:starEach (e :: es) X.env=(false,eval e X.env) :: starEach es X.env:=by rfl) (hpl:(backTo cpos (starEach (e :: es) X.env)).any (·.1)=false:=by rfl) :
  PS X (.Raise (some (.Call (.Name x np) (e :: es) [] cpos)) none pos) (tRaise C E ta):=by
 intro pins s σ H D I h;obtain ⟨bm,N,nm,q,bs,hdct,sn,sub,ab,col,dd,k0,k1,k2,k3,k5,mN,hC,hN,hni,T⟩:=hcl.obj I.ok.mod.kin;refine wpAny_Raise_call_subT (C:=C) (nm:=nm) (q:=q) (N:=N) (bs:=bs) (bm:=bm) (hdct:=hdct) (sn:=sn) (sub:=sub) (ab:=ab) (col:=col) (dd:=dd) (k0:=k0) (k1:=k1) (k2:=k2) (k3:=k3) (k5:=k5) PySem.F.excBase_ValueError (T.hasType (by decide +kernel)) (I.ok.hd hc) hpl hni (a2o I hg hm ⟨rfl,?_⟩ hdb);have ha':=ha cpos pins s σ H _ I h;rw [he] at ha' ⊢;refine Calls.evalArgs_plain (thn ha' λus s1 ⟨vs,H1,I1,r,hl,q⟩=>?_);have kb:=I1.bk;refine ⟨rfl,?_,kb _ _ hC,hN.keeps kb,T.keeps kb,λh' ea me=>?_⟩
 ·show us.length<=sizeLine;rw [<-r.length];exact small hl
 ·refine hx pins σ H1 s1 (.ref ea) _ I1 ⟨ea,.ref C,none,[ea],H1,rfl,rfl,I1.bare,Un.kept me.keeps,I1.hok.kept me.keeps,?_,λb hb=>?_,q⟩
  ·obtain ⟨t,ht,_,_⟩:=me.there;refine ⟨List.mem_cons_self,λb hb o ho=>?_,.none,⟨_,_,ht,rfl,rfl,rfl,rfl⟩,.inl rfl⟩;rw [List.mem_singleton.mp hb,ht] at ho;cases ho;exact ⟨_,rfl⟩
  ·rw [List.mem_singleton.mp hb];exact ⟨me.new,I1.hok.none_of me.new⟩
abbrev Cx.tryx (X:Cx) (pn:List (Addr × Obj)) (xe:Value->Shared->Prop):Cx:={ X with pn:=pn,xe:=xe }
abbrev Cx.hand (X:Cx) (ea:Addr):Cx:={ X with A:=X.A.mark (some (.ref ea)),calm:=false,xe:=λ_ _=>False }
section
variable {X:Cx} {pins pins':List (Addr × Obj)} {σ:St} {H:Hp} {s:Shared} {h':Heap} {ea:Addr} {xe:Value->Shared->Prop}
theorem Inv.tryx (I:Inv X pins σ H s) (xe:Value->Shared->Prop):Inv (X.tryx (X.pn++pins) xe) [] σ H s :=
 ⟨⟨I.ok.mod,I.ok.kind,I.ok.glob,I.ok.blt,I.ok.above,I.ok.inj,I.ok.has,I.ok.cab,I.ok.hd,I.ok.frames,I.ok.stk,I.ok.exf,I.ok.bs,I.ok.bsz,I.ok.noex,I.ok.exfs,I.ok.funs,I.ok.frf⟩,I.os,I.bare,I.base,I.loc,I.cell,I.free,I.freeC,
  λp hp=>I.pin p (by rw [List.append_nil] at hp;exact hp),I.hok,I.len⟩
theorem Inv.untryx (ok:X.Ok) (I:Inv (X.tryx (X.pn++pins) xe) pins' σ H s):Inv X pins σ H s :=
 ⟨ok,I.os,I.bare,I.base,I.loc,I.cell,I.free,I.freeC,λp hp=>I.pin p (List.mem_append_left _ hp),I.hok,I.len⟩
theorem Inv.hand (I:Inv X pins σ H s) (ea:Addr):Inv (X.hand ea) pins σ H s :=
 ⟨⟨I.ok.mod,I.ok.kind,I.ok.glob,I.ok.blt,I.ok.above,I.ok.inj,I.ok.has,I.ok.cab,λz=>absurd (show false=true from z) (by decide),I.ok.frames,I.ok.stk,I.ok.exf,I.ok.bs,I.ok.bsz,I.ok.noex,I.ok.exfs,I.ok.funs,I.ok.frf⟩,I.os,I.bare,I.base,I.loc,I.cell,I.free,I.freeC,I.pin,I.hok,I.len⟩
theorem Inv.unhand (ok:X.Ok) (I:Inv (X.hand ea) pins σ H s):Inv X pins σ H s:=⟨ok,I.os,I.bare,I.base,I.loc,I.cell,I.free,I.freeC,I.pin,I.hok,I.len⟩
end
def excO (ea C:Addr) (od:Option Addr):HO:=.ext λh=>∃ oe vs,h.get? ea=some oe/\oe.cls=.ref C/\oe.dict=od/\oe.data=.fields vs
structure Hcl (K:PySem.W.Frag) (D:Addr):Prop where
 ty:PySem.W.typeIn K (.ref D)=some (.type "type")
 cl:(PySem.W.clsIn K D).isSome=true
 be:PySem.W.subIn K (.ref D) (.type "BaseException")=some true
theorem a5P {K:PySem.W.Frag} {M:Model} {A:Around} {E:Value->Shared->Prop} {s:Shared} {ea C D:Addr} {oe:Obj} {Q:Bool->Shared->Prop} (X:K.In s.heap) (he:s.heap.get? ea=some oe) (hc:oe.cls=.ref C) (hD:Hcl K D)
  (sb:PySem.W.subIn K (.ref C) (.ref D)=some true) (h:Q true s):wpAny M A (excMatches (.ref ea) (.ref D)) Q E s:=by
 obtain ⟨hp,g,d,tk,os⟩:=s;have L1:PySem.W.Looks M hp (typeOf (.ref D)) (.type "type"):=PySem.W.looks_typeIn X hD.ty;have L2:PySem.W.Looks M hp (isType (.ref D)) true:=by
  have q:=hD.cl;unfold PySem.W.clsIn at q;split at q
  ·rename_i ho;intro A' Q' E' s' k q;unfold isType loadHead;exact wpAny_bind (wpAny_loadPart (k _ _ (X _ _ ho)) (wpAny_pure q))
  ·cases q
 have L3:PySem.W.Looks M hp (isSubtype (.ref D) (.type "BaseException")) true:=PySem.W.looks_subIn X hD.be;have L4:PySem.W.Looks M hp (isSubtype (.ref C) (.ref D)) true:=PySem.W.looks_subIn X sb;have L5:PySem.W.Looks M hp (typeOf (.ref ea)) (.ref C):=hc▸(PySem.W.Looks.ld he).andThen .now;have L6:PySem.W.Looks M hp (isSubtype (.type "type") (.type "tuple")) false:=.of_pure tc_notTuple;unfold excMatches isInstance
 repeat (first | with_reducible refine PySem.W.Looks.at (by assumption) ?_ | wp_step)
 exact h
def a8o (X:Cx) (Ex:St->XK):Prop:=∀ (pins:List (Addr × Obj)) (σ:St) (H:Hp) (s:Shared) (e:Value) (s':Shared),Inv X pins σ H s->CXF X.prog X.w X.stack H s (Ex σ) e s'->X.xe e s'
def tCallX (sp:Sp) (Ex:St->XK) (t:TA):TE:=λσ H Q=>t σ H λvs H1=>sp vs H1 Q (Ex σ)
theorem b0w {X:Cx} {k:Nat} {f:Addr} {fd:FuncData} {ps:List Str} {sp:Sp} {Ex:St->XK} {x:Str} {p pos:Pos} {e:Expr} {es:List Expr} {t:TA} (F:a0M X.prog X.w X.K X.mg X.base (CXF X.prog X.w) k f fd ps sp) (hr:a1L k X.A) (hg:Gl X x) (hm:X.mg x=some (.ref f))
  (hk:PySem.W.keepIn X.K (.ref f)=true) (hb:a1r X.K fd ps []) (hx:a8o X Ex) (ha:PA X (e :: es) t) (hdb:(x == ("__debug__":Str))=false:=by decide) (he:starEach (e :: es) X.env=(false,eval e X.env) :: starEach es X.env:=by rfl)
  (hpl:(backTo pos (starEach es X.env)).any (·.1)=false:=by rfl):PE X (.Call (.Name x p) (e :: es) [] pos) (tCallX sp Ex t):=by
 intro pins s σ H Q I h;refine wpAny_Call_Name_kw (a2o I hg hm ?_ hdb);refine PySem.W.callWith_K (h₀:=X.base) I.ok.mod.kin hk (thn (ha pos pins s σ H _ I h) λus s1 ⟨vs,H1,I1,r,q⟩=>⟨I1.kIn,?_⟩) he hpl;have hl:us.length=ps.length:=by rw [<-r.length];exact F.len _ _ _ _ q
 have hb':=hb s1 us I1.kIn (by rw [List.append_nil];exact hl);rw [List.append_nil] at hb';refine wpAny_call (codeAny_mono (F.run X.A X.stack s1 H1 ⟨us,[]⟩ us vs Q (Ex σ) hr I1.env0 hb' r q) λr s' hq=>?_);cases r with
 | error e=>exact hx pins σ H1 s1 e s' I1 hq
 | ok fl =>
  cases fl with
  | ret u=>exact I1.after hq
  | next=>exact False.elim hq
  | brk=>exact False.elim hq
  | cont=>exact False.elim hq
structure Ek (K:PySem.W.Frag) (C:Addr):Prop where
 cl:(PySem.W.clsIn K C).isSome=true
 ga:PySem.W.findIn K (.ref C) "__getattribute__"=some (some (.builtin "BaseException.__getattribute__"))
 gt:PySem.W.findIn K (.ref C) "__getattr__"=some none
 ca:PySem.W.findIn K (.ref C) "__class__"=some (some (.builtin "object.__class__"))
 be:PySem.W.subIn K (.ref C) (.type "BaseException")=some true
 ob:PySem.W.mroIn K C (.type "object")=some true
 cg:PySem.W.specialIn K (.builtin "object.__class__") "__get__"=some (some (.builtin "getset_descriptor.__get__"))
 ct:PySem.W.takesIn K (.builtin "object.__class__")=some true
section
variable {K:PySem.W.Frag} {prog:Program} {w:World} {A:Around} {E:Value->Shared->Prop} {s:Shared} {x C:Addr} {ox:Obj} {od:Option Obj} {name:Str} {tk:Tok}
end
def xcIn (K:PySem.W.Frag) (C:Addr):Bool :=
 PySem.W.typeIn K (.ref C) == some (.type "type") && (PySem.W.clsIn K C).isSome && PySem.W.subIn K (.ref C) (.type "BaseException") == some true &&
 PySem.W.findIn K (.ref C) "__getattribute__" == some (some (.builtin "BaseException.__getattribute__")) && PySem.W.findIn K (.ref C) "__getattr__" == some none && PySem.W.findIn K (.ref C) "__class__" == some (some (.builtin "object.__class__")) &&
 PySem.W.mroIn K C (.type "object") == some true && PySem.W.specialIn K (.builtin "object.__class__") "__get__" == some (some (.builtin "getset_descriptor.__get__")) && PySem.W.takesIn K (.builtin "object.__class__") == some true &&
 PySem.W.subIn K (.ref C) (.ref C) == some true && PySem.W.subIn K (.ref C) (.type "ValueError") == some true
structure XC (K:PySem.W.Frag) (C:Addr):Prop where
 h:Hcl K C
 e:Ek K C
 sf:PySem.W.subIn K (.ref C) (.ref C)=some true
 ve:PySem.W.subIn K (.ref C) (.type "ValueError")=some true
theorem XC.of {K:PySem.W.Frag} {C:Addr} (q:xcIn K C=true):XC K C:=by
 unfold xcIn at q;simp only [Bool.and_eq_true,beq_iff_eq] at q;obtain ⟨⟨⟨⟨⟨⟨⟨⟨⟨⟨q1,q2⟩,q3⟩,q4⟩,q5⟩,q6⟩,q7⟩,q8⟩,q9⟩,q10⟩,q11⟩:=q;exact ⟨⟨q1,q2,q3⟩,⟨q2,q4,q5,q6,q3,q7,q8,q9⟩,q10,q11⟩
section
variable {K:PySem.W.Frag} {C D:Addr}
end
structure b0x (P:Program) (w:World) (K:PySem.W.Frag) (mg:Str->Option Value) (base:Heap) (ps:List Str) (name:Str) (sp:Sp) (k:Nat) where
 g:Addr
 gd:FuncData
 ok:a0M P w K mg base (CXF P w) k g gd ps sp
 b:a1r K gd ps []
 kp:PySem.W.keepIn K (.ref g)=true
 m:mg name=some (.ref g)
theorem b3h {P:Program} {w:World} {X:Cx}:a1M (CXF P w) X E0:=λ_ _ _ _ _ _ _ ⟨_,_,_,_,_,_,_,_,_,_,_,_,z⟩=>z.elim
def b0x.up {P:Program} {w:World} {K:PySem.W.Frag} {mg:Str->Option Value} {base:Heap} {ps:List Str} {name:Str} {sp:Sp} {j k:Nat} (f:b0x P w K mg base ps name sp j) (h:j<=k):b0x P w K mg base ps name sp k:=⟨f.g,f.gd,f.ok.mono h,f.b,f.kp,f.m⟩
theorem a8p {P:Program} {w:World} {H:Hp} {h:Heap} {a:Addr} {xs:List V} (x:a0R P w H h a (.tup xs)):xs.length<=sizeLine/\∃ its:List Value,a0z xs its/\PyProof.Rows.IsTup h a its.toArray:=by
 obtain ⟨z,its,r,p⟩:=x;exact ⟨z,its,r,a4J.is p⟩
def rNeLI:R2:=λx y H Q=>∃ (a b:Addr) (ns ms:List Int),x=.ref a/\y=.ref b/\H a=some (.lst (ns.map V.int))/\H b=some (.lst (ms.map V.int))/\Q (.bl (!decide (ns=ms))) H
theorem b3i {X:Cx} (hu:X.A.units+4 < cLine):OpR X (compareOp .NotEq) rNeLI:=by
 intro pins s σ H x y v u Q I rx ry h;obtain ⟨a,b,ns,ms,rfl,rfl,e1,e2,q⟩:=h;cases rx;cases ry;exact a8g (A:=X.A) (n:=0) EqK.int I.hok e1 e2 (Paired.ints ns) (Paired.ints ms) (by omega) _ _ _ _ ⟨.bl _,H,I,rfl,q⟩
def SIt:Bool->Heap->Addr->Addr->Nat->Prop
 | true,h,i,l,n=>h.IsTupleIter i l n
 | false,h,i,l,n=>h.IsListIter i l n
def SAt:Bool->Heap->Addr->Array Value->Prop
 | true,h,l,xs=>h.IsTuple l xs
 | false,h,l,xs=>h.IsList l xs
theorem SIt.at {k:Bool} {h h':Heap} {i l:Addr} {n:Nat} (x:SIt k h i l n) (e:∀ o,h.get? i=some o->h'.get? i=some o):SIt k h' i l n:=by
 cases k with
 | true=>obtain ⟨o,ho,r⟩:=x;exact ⟨o,e o ho,r⟩
 | false=>obtain ⟨o,ho,r⟩:=x;exact ⟨o,e o ho,r⟩
theorem SIt.obj {k:Bool} {h:Heap} {i l:Addr} {n:Nat} (x:SIt k h i l n):∃ o,h.get? i=some o/\∀ v,o.data≠.cell v:=by
 cases k with
 | true=>obtain ⟨o,ho,_,d⟩:=x;exact ⟨o,ho,λv z=>by rw [d] at z;cases z⟩
 | false=>obtain ⟨o,ho,_,d⟩:=x;exact ⟨o,ho,λv z=>by rw [d] at z;cases z⟩
theorem SAt.at {k:Bool} {h h':Heap} {l:Addr} {xs:Array Value} (x:SAt k h l xs) (e:∀ o,h.get? l=some o->h'.get? l=some o):SAt k h' l xs:=by
 cases k with
 | true=>obtain ⟨o,ho,r⟩:=x;exact ⟨o,e o ho,r⟩
 | false=>obtain ⟨o,ho,r⟩:=x;exact ⟨o,e o ho,r⟩
section
variable {prog:Program} {w:World} {A:Around} {E:Value->Shared->Prop} {s:Shared} {k:Bool} {it l:Addr} {i:Nat} {xs:Array Value} {x:Value} {Q:Value->Shared->Prop}
theorem b3j (hit:SIt k s.heap it l i) (hl:SAt k s.heap l xs) (hx:xs[i]?=some x) (hQ:∀ h',SIt k h' it l (i+1)->Heap.SameBut it s.heap h'->Q x { s with heap:=h' }) :
  wpAny (model prog w) A (Builtin.SmallTypes.nextOf (.ref it)) Q E s:=by
 cases k with
 | false=>exact wpAny_nextOf_list_item hit hl hx hQ
 | true =>
  have hit':s.heap.IsTupleIter it l i:=hit;obtain ⟨o,ho,hc,hd⟩:=id hit';obtain ⟨ol,hol,_,nl,hdl⟩:=hl;unfold Builtin.SmallTypes.nextOf;refine wpAny_bind (wpAny_callSpecial?_slot (name:=Str.ofString "__next__") hit'.typeIs F.slot_tuple_iterator_next (wpAny_call_entry F.slot_tuple_iterator_next hit'.typeIs F.entry_tuple_iterator_next ?_ (F.args_tuple_iterator_next_1 _)));show wpAny _ _ (field (.ref it) 0 >>= _) _ _ s;refine wpAny_bind (wpAny_field ho hd (x:=.ref l) rfl ?_);show wpAny _ _ (if (Value.ref l == Value.none)=true then _ else _) _ _ s;rw [if_neg (show ¬ ((Value.ref l == Value.none)=true) from Bool.false_ne_true)];show wpAny _ _ (field (.ref it) 1 >>= _) _ _ s;refine wpAny_bind (wpAny_field ho hd (x:=.int i 0) rfl (show wpAny _ _ (seqItems? (.ref l) >>= _) _ _ s from wpAny_bind (wpAny_seqItems hol hdl ?_)));simp only [Int.toNat_natCast,hx];refine wpAny_bind (wpAny_setField ho hd (by simp) (wpAny_pure ⟨x,rfl,wpAny_pure (hQ _ ?_ (Heap.SameBut.update ..))⟩));exact ⟨_,Heap.get?_update_self _ ho (Obj.isFreed_of_fields (Obj.data_mapFields hd _)),(Obj.cls_mapFields ..).trans hc,by rw [Obj.data_mapFields hd];simp [rawInt]⟩
theorem endS (hh:A.handled=none) (hit:SIt k s.heap it l i) (hl:SAt k s.heap l xs) (hx:xs[i]?=none) (hE:∀ h' e,Heap.ExtBut it s.heap h'->(∃ o,h'.get? e=some o/\o.cls=.type "StopIteration")->E (.ref e) { s with heap:=h' }) :
  wpAny (model prog w) A (Builtin.SmallTypes.nextOf (.ref it)) Q E s:=by
 cases k with
 | false=>exact wpAny_nextOf_list_end hh hit hl hx hE
 | true =>
  have hit':s.heap.IsTupleIter it l i:=hit;obtain ⟨o,ho,hc,hd⟩:=id hit';obtain ⟨ol,hol,_,nl,hdl⟩:=hl;unfold Builtin.SmallTypes.nextOf;refine wpAny_bind (wpAny_callSpecial?_slot (name:=Str.ofString "__next__") hit'.typeIs F.slot_tuple_iterator_next (wpAny_call_entry F.slot_tuple_iterator_next hit'.typeIs F.entry_tuple_iterator_next ?_ (F.args_tuple_iterator_next_1 _)));show wpAny _ _ (field (.ref it) 0 >>= _) _ _ s;refine wpAny_bind (wpAny_field ho hd (x:=.ref l) rfl ?_);show wpAny _ _ (if (Value.ref l == Value.none)=true then _ else _) _ _ s;rw [if_neg (show ¬ ((Value.ref l == Value.none)=true) from Bool.false_ne_true)];show wpAny _ _ (field (.ref it) 1 >>= _) _ _ s;refine wpAny_bind (wpAny_field ho hd (x:=.int i 0) rfl (show wpAny _ _ (seqItems? (.ref l) >>= _) _ _ s from wpAny_bind (wpAny_seqItems hol hdl ?_)));simp only [Int.toNat_natCast,hx];refine wpAny_bind (wpAny_rule (wpAny_bind (wpAny_setField ho hd (by simp) ?_)));show wpAny _ _ (newExc (.type "StopIteration") [] >>= _) _ _ _;refine wpAny_bind ?_;simp only [newExc,newTuple];refine wpAny_bind (wpAny_newObj_type ?_ (by size_fits));refine wpAny_bind (m:=firstArgMember _ _) (wpAny_of_eq (a:=Value.none) (by first | rfl | (simp only [firstArgMember];rfl)) ?_);refine wpAny_newObj_type ?_ (by size_fits);simp only [raiseNew];refine wpAny_bind (wpAny_handled ?_);rw [show A.in1.handled=none from hh];refine wpAny_bind (wpAny_pure (wpAny_throw ?_));exact hE _ _ (((Heap.SameBut.update ..).extBut.push _).push _) ⟨_,Heap.get?_push_size _ rfl,rfl⟩
end
structure ZAt (ka kb:Bool) (z TI TO i1 i2 l1 l2:Addr) (n:Nat) (h:Heap):Prop where
 zp:IsZip h z TI TO .none
 ti:IsPair h TI (.ref i1) (.ref i2)
 to_:∃ a b,IsPair h TO a b
 a1:SIt ka h i1 l1 n
 a2:SIt kb h i2 l2 n
section
variable {prog:Program} {w:World} {A:Around} {E:Value->Shared->Prop} {s:Shared} {ka kb:Bool} {z TI TO i1 i2 l1 l2:Addr} {n:Nat} {xs ys:Array Value} {x y:Value}
theorem a8q {Q:Value->Shared->Prop} (D:ZipApart z TI TO i1 i2 l1 l2) (Z:ZAt ka kb z TI TO i1 i2 l1 l2 n s.heap) (hl1:SAt ka s.heap l1 xs) (hl2:SAt kb s.heap l2 ys) (hx:xs[n]?=some x) (hy:ys[n]?=some y)
  (hQ:∀ h',IsZip h' z TI TO (rawInt s.heap.objs.size)->IsPair h' TO x y->SIt ka h' i1 l1 (n+1)->SIt kb h' i2 l2 (n+1)->IsPair h' s.heap.objs.size x y ->
   (∀ c o,c≠z->c≠TO->c≠i1->c≠i2->s.heap.get? c=some o->h'.get? c=some o)->Q (.ref s.heap.objs.size) { s with heap:=h' }) :
  wpAny (model prog w) A (Builtin.«zip.__next__» ⟨[.ref z],[]⟩) (λfin s'=>∃ v,fin=.done (.ret v)/\Q v s') E s:=by
 obtain ⟨hz,hTI,⟨a,b,hTO⟩,h1,h2⟩:=Z;show wpAny _ _ (field (.ref z) 2 >>= _) _ _ _;refine wpAny_bind (wpAny_field hz rfl (x:=.bool false) rfl ?_);show wpAny _ _ (field (.ref z) 3 >>= _) _ _ _;refine wpAny_bind (wpAny_field hz rfl (x:=.ref TI) rfl (wpAny_bind (wpAny_seqItems hTI rfl ?_)));show wpAny _ _ (Builtin.SmallTypes.ownedTupleIsFree (.ref z) >>= _) _ _ _;refine wpAny_bind ?_;unfold Builtin.SmallTypes.ownedTupleIsFree;refine wpAny_bind (wpAny_field hz rfl (x:=.none) rfl (wpAny_pure ?_));simp only [if_true];refine wpAny_bind (wpAny_rule (wpAny_bind (wpAny_field hz rfl (x:=.ref TO) rfl (wpAny_bind (wpAny_setField_rec hz (by simp) λg1 z1 b1=>?_)))));have z1':IsZip g1 z TI TO .ellipsis:=z1;have k1:∀ c o,c≠z->s.heap.get? c=some o->g1.get? c=some o:=λc o hc e=>b1.extBut _ _ hc e;refine wpAny_bind ?_;simp only [List.zipIdx_cons,List.zipIdx_nil,List.forIn_cons,List.forIn_nil];refine wpAny_bind (wpAny_bind (wpAny_onRaise ?_));show wpAny _ _ (Builtin.SmallTypes.nextOf (.ref i1) >>= _) _ _ _;refine wpAny_bind (b3j (s:={ s with heap:=g1 }) (h1.at λo e=>k1 _ o D.i1z e) (hl1.at λo e=>k1 _ o D.l1z e) hx λg2 h12 b2=>wpAny_pure ?_);have k2:∀ c o,c≠z->c≠i1->s.heap.get? c=some o->g2.get? c=some o:=λc o hc hd e=>b2.extBut _ _ hd (k1 c o hc e);have o2:IsPair g2 TO a b:=k2 _ _ D.TOz D.TOi1 hTO;refine wpAny_bind (wpAny_seqItems o2 rfl (wpAny_bind (wpAny_updateSeq_pair (s:={ s with heap:=g2 }) o2 λg3 o3 b3=>?_)));have o3':IsPair g3 TO x b:=o3;refine wpAny_bind (wpAny_letGo (wpAny_pure ?_));refine wpAny_bind (wpAny_bind (wpAny_onRaise ?_));show wpAny _ _ (Builtin.SmallTypes.nextOf (.ref i2) >>= _) _ _ _;have k3:∀ c o,c≠z->c≠i1->c≠TO->s.heap.get? c=some o->g3.get? c=some o:=λc o hc hd he e=>b3.extBut _ _ he (k2 c o hc hd e);refine wpAny_bind (b3j (s:={ s with heap:=g3 }) (h2.at λo e=>k3 _ o D.i2z D.i12.symm D.TOi2.symm e) (hl2.at λo e=>k3 _ o D.l2z D.l2i1 D.l2TO e) hy λg4 h24 b4=>wpAny_pure ?_);have o4:IsPair g4 TO x b:=b4.extBut _ _ D.TOi2 o3';refine wpAny_bind (wpAny_seqItems o4 rfl (wpAny_bind (wpAny_updateSeq_pair (s:={ s with heap:=g4 }) o4 λg5 o5 b5=>?_)));have o5':IsPair g5 TO x y:=o5;refine wpAny_bind (wpAny_letGo (wpAny_pure (wpAny_pure ?_)));refine wpAny_bind (wpAny_seqItems o5' rfl (wpAny_bind (wpAny_newTuple ?_)));have sz:g5.objs.size=s.heap.objs.size:=by rw [b5.1,b4.1,b3.1,b2.1,b1.1]
 have z5:IsZip g5 z TI TO .ellipsis:=b5.extBut _ _ D.TOz.symm (b4.extBut _ _ D.i2z.symm (b3.extBut _ _ D.TOz.symm (b2.extBut _ _ D.i1z.symm z1')));have k5:∀ c o,c≠z->c≠TO->c≠i1->c≠i2->s.heap.get? c=some o->g5.get? c=some o:=λc o c1 c2 c3 c4 e=>b5.extBut _ _ c2 (b4.extBut _ _ c4 (k3 c o c1 c3 c2 e));have h15:SIt ka g5 i1 l1 (n+1):=h12.at λo e=>b5.extBut _ _ D.TOi1.symm (b4.extBut _ _ D.i12 (b3.extBut _ _ D.TOi1.symm e));have h25:SIt kb g5 i2 l2 (n+1):=h24.at λo e=>b5.extBut _ _ D.TOi2.symm e;have zl:z < g5.objs.size:=Heap.lt_size z5;show wpAny _ _ (Builtin.SmallTypes.ownedTupleHandOut (.ref z) (.ref g5.objs.size) >>= _) _ _ _;refine wpAny_bind ?_;unfold Builtin.SmallTypes.ownedTupleHandOut;have z6:IsZip (g5.push { cls:=.type "tuple",data:=.seq #[x,y] }) z TI TO .ellipsis:=Heap.get?_push_of_some _ z5;refine wpAny_bind (wpAny_setField_rec z6 (by simp) λg7 z7 b7=>?_)
 replace z7:IsZip g7 z TI TO (rawInt g5.objs.size):=z7
 refine wpAny_setField_rec z7 (by simp) λg8 z8 b8=>?_
 replace z8:IsZip g8 z TI TO (rawInt g5.objs.size):=z8
 have up:∀ c o,c≠z->g5.get? c=some o->g8.get? c=some o:=λc o c1 e=>b8.extBut _ _ c1 (b7.extBut _ _ c1 (Heap.get?_push_of_some _ e));have p8:IsPair g8 g5.objs.size x y:=b8.extBut _ _ (Nat.ne_of_gt zl) (b7.extBut _ _ (Nat.ne_of_gt zl) (Heap.get?_push_size _ rfl));rw [sz] at z8 p8;refine wpAny_pure ⟨_,rfl,?_⟩;show Q (.ref g5.objs.size) _;rw [sz];exact hQ g8 z8 (up _ _ D.TOz o5') (h15.at λo e=>up _ o D.i1z e) (h25.at λo e=>up _ o D.i2z e) p8 λc o c1 c2 c3 c4 e=>up c o c1 (k5 c o c1 c2 c3 c4 e)
theorem b0y {Q:Fin->Shared->Prop} (hh:A.handled=none) (D:ZipApart z TI TO i1 i2 l1 l2) (Z:ZAt ka kb z TI TO i1 i2 l1 l2 n s.heap) (hl1:SAt ka s.heap l1 xs) (hl2:SAt kb s.heap l2 ys) (hend:xs[n]?=none\/ys[n]?=none)
  (hE:∀ h' e,(∀ c o,c≠z->c≠TO->c≠i1->c≠i2->s.heap.get? c=some o->h'.get? c=some o)->(∃ o,h'.get? e=some o/\o.cls=.type "StopIteration")->E (.ref e) { s with heap:=h' }) :
  wpAny (model prog w) A (Builtin.«zip.__next__» ⟨[.ref z],[]⟩) Q E s:=by
 obtain ⟨hz,hTI,⟨a,b,hTO⟩,h1,h2⟩:=Z;show wpAny _ _ (field (.ref z) 2 >>= _) _ _ _;refine wpAny_bind (wpAny_field hz rfl (x:=.bool false) rfl ?_);show wpAny _ _ (field (.ref z) 3 >>= _) _ _ _;refine wpAny_bind (wpAny_field hz rfl (x:=.ref TI) rfl (wpAny_bind (wpAny_seqItems hTI rfl ?_)));show wpAny _ _ (Builtin.SmallTypes.ownedTupleIsFree (.ref z) >>= _) _ _ _;refine wpAny_bind ?_;unfold Builtin.SmallTypes.ownedTupleIsFree;refine wpAny_bind (wpAny_field hz rfl (x:=.none) rfl (wpAny_pure ?_));simp only [if_true];refine wpAny_bind (wpAny_rule (wpAny_bind (wpAny_field hz rfl (x:=.ref TO) rfl (wpAny_bind (wpAny_setField_rec hz (by simp) λg1 z1 b1=>?_)))));have z1':IsZip g1 z TI TO .ellipsis:=z1;have k1:∀ c o,c≠z->s.heap.get? c=some o->g1.get? c=some o:=λc o hc e=>b1.extBut _ _ hc e;refine wpAny_bind ?_;simp only [List.zipIdx_cons,List.zipIdx_nil,List.forIn_cons,List.forIn_nil];refine wpAny_bind (wpAny_bind (wpAny_onRaise ?_));show wpAny _ _ (Builtin.SmallTypes.nextOf (.ref i1) >>= _) _ _ _;cases hx:xs[n]? with
 | none =>
  refine wpAny_bind (endS (s:={ s with heap:=g1 }) hh (h1.at λo e=>k1 _ o D.i1z e) (hl1.at λo e=>k1 _ o D.l1z e) hx λg2 e b2 ⟨oe,he,ce⟩=>?_);have z2:IsZip g2 z TI TO .ellipsis:=b2 _ _ D.i1z.symm z1';have ez:e≠z:=λq=>by subst q;rw [z2] at he;cases he;simp at ce
  exact wpAny_setField_rec z2 (by simp) λg3 _ b3=>hE g3 e (λc o c1 _ c3 _ q=>b3.extBut _ _ c1 (b2 _ _ c3 (k1 c o c1 q))) ⟨oe,b3.extBut _ _ ez he,ce⟩
 | some x =>
  have hy:ys[n]?=none:=hend.resolve_left λq=>by rw [hx] at q;cases q
  refine wpAny_bind (b3j (s:={ s with heap:=g1 }) (h1.at λo e=>k1 _ o D.i1z e) (hl1.at λo e=>k1 _ o D.l1z e) hx λg2 h12 b2=>wpAny_pure ?_);have k2:∀ c o,c≠z->c≠i1->s.heap.get? c=some o->g2.get? c=some o:=λc o hc hd e=>b2.extBut _ _ hd (k1 c o hc e);have o2:IsPair g2 TO a b:=k2 _ _ D.TOz D.TOi1 hTO;refine wpAny_bind (wpAny_seqItems o2 rfl (wpAny_bind (wpAny_updateSeq_pair (s:={ s with heap:=g2 }) o2 λg3 o3 b3=>?_)));refine wpAny_bind (wpAny_letGo (wpAny_pure ?_));refine wpAny_bind (wpAny_bind (wpAny_onRaise ?_));show wpAny _ _ (Builtin.SmallTypes.nextOf (.ref i2) >>= _) _ _ _;have k3:∀ c o,c≠z->c≠i1->c≠TO->s.heap.get? c=some o->g3.get? c=some o:=λc o hc hd he e=>b3.extBut _ _ he (k2 c o hc hd e);refine wpAny_bind (endS (s:={ s with heap:=g3 }) hh (h2.at λo e=>k3 _ o D.i2z D.i12.symm D.TOi2.symm e) (hl2.at λo e=>k3 _ o D.l2z D.l2i1 D.l2TO e) hy λg4 e b4 ⟨oe,he,ce⟩=>?_);have z4:IsZip g4 z TI TO .ellipsis:=b4 _ _ D.i2z.symm (b3.extBut _ _ D.TOz.symm (b2.extBut _ _ D.i1z.symm z1'));have ez:e≠z:=λq=>by subst q;rw [z4] at he;cases he;simp at ce
  exact wpAny_setField_rec z4 (by simp) λg5 _ b5=>hE g5 e (λc o c1 c2 c3 c4 q=>b5.extBut _ _ c1 (b4 _ _ c4 (k3 c o c1 c3 c2 q))) ⟨oe,b5.extBut _ _ ez he,ce⟩
theorem a8r {Q:Option Value->Shared->Prop} (D:ZipApart z TI TO i1 i2 l1 l2) (Z:ZAt ka kb z TI TO i1 i2 l1 l2 n s.heap) (hl1:SAt ka s.heap l1 xs) (hl2:SAt kb s.heap l2 ys) (hx:xs[n]?=some x) (hy:ys[n]?=some y)
  (hQ:∀ h',IsZip h' z TI TO (rawInt s.heap.objs.size)->IsPair h' TO x y->SIt ka h' i1 l1 (n+1)->SIt kb h' i2 l2 (n+1)->IsPair h' s.heap.objs.size x y ->
   (∀ c o,c≠z->c≠TO->c≠i1->c≠i2->s.heap.get? c=some o->h'.get? c=some o)->Q (some (.ref s.heap.objs.size)) { s with heap:=h' }):wpAny (model prog w) A (pyNext (.ref z)) Q E s:=by
 have hT:s.TypeIs (.ref z) "zip":=⟨_,Z.zp,rfl⟩
 unfold pyNext;exact wpAny_bind (wpAny_attempt (wpAny_callSpecial?_slot (name:=Str.ofString "__next__") hT F.slot_zip_next (wpAny_call_entry F.slot_zip_next hT F.entry_zip_next
  (a8q D Z hl1 hl2 hx hy λh' a1 a2 a3 a4 a5 a7=>wpAny_pure (hQ h' a1 a2 a3 a4 a5 a7)) (F.args_zip_next_1 _))))
theorem a8s {Q:Option Value->Shared->Prop} (hh:A.handled=none) (D:ZipApart z TI TO i1 i2 l1 l2) (Z:ZAt ka kb z TI TO i1 i2 l1 l2 n s.heap) (hl1:SAt ka s.heap l1 xs) (hl2:SAt kb s.heap l2 ys) (hend:xs[n]?=none\/ys[n]?=none)
  (hQ:∀ h',(∀ c o,c≠z->c≠TO->c≠i1->c≠i2->s.heap.get? c=some o->h'.get? c=some o)->Q none { s with heap:=h' }):wpAny (model prog w) A (pyNext (.ref z)) Q E s:=by
 have hT:s.TypeIs (.ref z) "zip":=⟨_,Z.zp,rfl⟩
 unfold pyNext;refine wpAny_bind (wpAny_attempt (wpAny_callSpecial?_slot (name:=Str.ofString "__next__") hT F.slot_zip_next (wpAny_call_entry F.slot_zip_next hT F.entry_zip_next (b0y hh D Z hl1 hl2 hend λh' e hk he=>?_) (F.args_zip_next_1 _))));obtain ⟨o,ho,hc⟩:=he;exact wpAny_bind (wpAny_isInstance (T:="StopIteration") (b:=true) ⟨o,ho,hc⟩ isSubtype_stop (wpAny_pure (hQ _ hk)))
end
def SqK (K:PySem.W.Frag):Bool->Hp->Addr->List V->Prop
 | true,H,a,xs=>SqT K H a xs
 | false,H,a,xs=>SqL K H a xs
theorem b4B {X:Cx} {pins:List (Addr × Obj)} {σ:St} {H:Hp} {s:Shared} {k:Bool} {a:Addr} {xs:List V} (I:Inv X pins σ H s) (h:SqK X.K k H a xs):∃ us,a0z xs us/\SAt k s.heap a us.toArray:=by
 cases k with
 | true =>
  obtain ⟨its,rv,p,hz⟩:=I.tuple h;exact ⟨its,rv,p⟩
 | false =>
  obtain ⟨its,rv,p,hz⟩:=I.list h;exact ⟨its,rv,p.isList⟩
theorem a6y {X:Cx} {pins:List (Addr × Obj)} {σ:St} {H:Hp} {s:Shared} {k:Bool} {a:Addr} {xs ys:List V} (I:Inv X pins σ H s) (h:SqK X.K k H a xs) (h2:SqK X.K k H a ys):xs=ys:=by
 cases k with
 | true=>exact I.tuple_inj h h2
 | false=>exact I.list_inj h h2
theorem Inv.turnedL {X:Cx} {pins:List (Addr × Obj)} {σ:St} {H:Hp} {s:Shared} {h':Heap} {t':Nat} {L:List Addr} (I:Inv X pins σ H s) (k:∀ b o,b∉L->s.heap.get? b=some o->h'.get? b=some o) (hf:∀ b∈L,b0f X pins H b):Inv X pins σ H { s with heap:=h',toks:=t' }:=by
 have nit:∀ b u,H b=some u->b∉L:=λb u e z=>by rw [(hf b z).1] at e;cases e
 have nl:X.env.locals∉L:=λz=>(hf _ z).2.1 rfl;refine I.step (g':=s.gens) (d':=s.drawn) (ch:=L) (λb hb=>?_) (λb o _ _ hc e _=>k b o hc e) (λb o _ _ hc e _=>⟨o.slots,k b o hc e⟩) (λ_ _ _ _ n=>n)
  (λb o hc e=>⟨o,k b o hc e⟩) (λ_ _ e=>e) (λ_ _ _ e=>e) (λb ps e=>⟨#[],by rw [e];simp⟩) (λm hm=>?_) (λb u e=>?_) I.bare
 ·obtain ⟨f0,f1,f2,f3,f4,f5⟩:=hf b hb;exact ⟨f3,f1,f4,f5⟩
 ·obtain ⟨o,es,ep,ho,r⟩:=hm;exact ⟨o,es,ep,k _ o nl ho,r⟩
 ·refine (I.hok b u e).stay (λc v hc q=>k c v ?_ q) (λ_ q=>q) λ_ _ q=>q;rcases hc with z | z
  ·rw [z];exact nit b u e
  ·exact nit c _ z
def Itz (K:PySem.W.Frag) (ka kb:Bool) (a b:Addr):It :=
 ⟨λi H=>∃ xs ys x y,SqK K ka H a xs/\SqK K kb H b ys/\xs[i]?=some x/\ys[i]?=some y,
  λi H v H'=>∃ p x y,v=.ref p/\H p=none/\(∀ xs,SqK K ka H a xs->xs[i]?=some x)/\(∀ ys,SqK K kb H b ys->ys[i]?=some y)/\H'=upd H p (.tup [x,y]),
  λi H=>∃ xs ys,SqK K ka H a xs/\SqK K kb H b ys/\(xs.length<=i\/ys.length<=i)⟩
theorem ZAt.obj {ka kb:Bool} {z TI TO i1 i2 l1 l2:Addr} {n:Nat} {h:Heap} (Z:ZAt ka kb z TI TO i1 i2 l1 l2 n h):∀ b∈[z,TI,TO,i1,i2],∃ o,h.get? b=some o/\∀ v,o.data≠.cell v:=λb hb=>by
 obtain ⟨hz,hTI,⟨x,y,hTO⟩,h1,h2⟩:=Z;simp only [List.mem_cons,List.not_mem_nil,or_false] at hb;rcases hb with rfl | rfl | rfl | rfl | rfl
 ·exact ⟨_,hz,λv z=>by cases z⟩
 ·exact ⟨_,hTI,λv z=>by cases z⟩
 ·exact ⟨_,hTO,λv z=>by cases z⟩
 ·exact h1.obj
 ·exact h2.obj
theorem b0z {P:Program} {w:World} {K:PySem.W.Frag} {elts:List Expr} {x1} {pos:Pos} {ka kb:Bool} {z TI TO i1 i2 a b:Addr} (D:ZipApart z TI TO i1 i2 a b):b4z P w K (.Tuple elts x1 pos) (Itz K ka kb a b) [z,TI,TO,i1,i2] z (λn h=>ZAt ka kb z TI TO i1 i2 a b n h) where
 mem:=by simp
 obj:=λi h st=>st.obj
 keep:=λi h h' ⟨hz,hTI,⟨x,y,hTO⟩,h1,h2⟩ k=>⟨k z (by simp) _ hz,k TI (by simp) _ hTI,⟨x,y,k TO (by simp) _ hTO⟩,h1.at λo e=>k i1 (by simp) o e,h2.at λo e=>k i2 (by simp) o e⟩
 item:=by
  intro X hP hw hK hc i pins s σ H E I hf st hg;subst hP hw hK;obtain ⟨xs,ys,x,y,q1,q2,hx,hy⟩:=hg;obtain ⟨us,r1,p1⟩:=b4B I q1;obtain ⟨vs,r2,p2⟩:=b4B I q2;obtain ⟨u,hu,ru⟩:=r1.get hx;obtain ⟨v,hv,rv⟩:=r2.get hy;have lt:∀ b∈[z,TI,TO,i1,i2],b < s.heap.objs.size:=λb hb=>by
   obtain ⟨o,ho,_⟩:=st.obj b hb;exact Heap.lt_size ho
  refine a8r D st p1 p2 (x:=u) (y:=v) (by simpa using hu) (by simpa using hv) λh' z1 o1 a1 a2 pr kk=>?_;refine ⟨_,rfl,wpAny_letOwnedTupleGo_zip (s:={ s with heap:=h' }) z1 λh2 z2 b2=>?_⟩;have hT:H s.heap.objs.size=none:=I.hok.fresh (Nat.le_refl _);have I1:Inv X pins σ (upd H s.heap.objs.size (.tup [x,y])) { s with heap:=s.heap.push { cls:=.type "tuple",data:=.seq #[u,v] } }:=I.laid (t':=s.toks) (λb u e=>Heap.get?_push_of_some _ e) (Nat.le_refl _) ⟨by show 2<=sizeLine;decide,[u,v],.cons ru (.cons rv .nil),⟨_,Heap.get?_push_size _ rfl,_,rfl⟩⟩;have Tz:s.heap.objs.size≠z:=Nat.ne_of_gt (lt z (by simp));have fp:∀ b∈[z,TI,TO,i1,i2],b0f X pins (upd H s.heap.objs.size (.tup [x,y])) b:=λb hb=>by
   obtain ⟨f0,f1,f2,f3,f4,f5⟩:=hf b hb;exact ⟨by rw [a0i (Nat.ne_of_lt (lt b hb))];exact f0,f1,f2,f3,f4,f5⟩
  have I2:=I1.turnedL (h':=h2) (t':=s.toks) (λc o hc e=>by
   simp only [List.mem_cons,List.not_mem_nil,or_false,not_or] at hc;by_cases zc:c=s.heap.objs.size
   ·subst zc;rw [Heap.get?_push_size _ rfl] at e;cases e;exact b2.extBut _ _ Tz pr
   ·have e':s.heap.get? c=some o:=by rw [<-e];exact (Heap.get?_push_ne _ _ _ zc).symm
    exact b2.extBut _ _ hc.1 (kk c o hc.1 hc.2.2.1 hc.2.2.2.1 hc.2.2.2.2 e')) fp
  refine ⟨.ref s.heap.objs.size,_,I2,rfl,⟨_,x,y,rfl,hT,λzs hz=>?_,λzs hz=>?_,rfl⟩,⟨z2,b2.extBut _ _ D.TIz (kk _ _ D.TIz D.TITO D.TIi1 D.TIi2 st.ti),⟨u,v,b2.extBut _ _ D.TOz o1⟩,a1.at λo e=>b2.extBut _ _ D.i1z e,a2.at λo e=>b2.extBut _ _ D.i2z e⟩,λb hb=>(fp b hb).1⟩
  ·rw [a6y I hz q1];exact hx
  ·rw [a6y I hz q2];exact hy
 done:=by
  intro X hP hw hK hc i pins s σ H E I hf st hg;subst hP hw hK;obtain ⟨xs,ys,q1,q2,hl⟩:=hg;obtain ⟨us,r1,p1⟩:=b4B I q1;obtain ⟨vs,r2,p2⟩:=b4B I q2;have e1:=r1.length;have e2:=r2.length;refine a8s (I.ok.hd hc) D st p1 p2 (hl.elim (λq=>.inl (by simp;omega)) λq=>.inr (by simp;omega)) λh' kk=>⟨rfl,I.turnedL (t':=s.toks) (λc o hc e=>?_) hf⟩
  simp only [List.mem_cons,List.not_mem_nil,or_false,not_or] at hc;exact kk c o hc.1 hc.2.2.1 hc.2.2.2.1 hc.2.2.2.2 e
 self:=λ_ _ _ _ _ st h=>wpAny_pyIter_zip st.zp h
def itO (k:Bool) (l:Addr):Obj:=match k with
 | true=>{ cls:=.type "tuple_iterator",data:=.fields #[.ref l,.int 0 0] }
 | false=>{ cls:=.type "list_iterator",data:=.fields #[.ref l,.int 0 0] }
theorem a8t {prog:Program} {w:World} {A:Around} {E:Value->Shared->Prop} {s:Shared} {k:Bool} {l:Addr} {xs:Array Value} {Q:Value->Shared->Prop} (h:SAt k s.heap l xs) (hQ:Q (.ref s.heap.objs.size) { s with heap:=s.heap.push (itO k l) }) :
  wpAny (model prog w) A (pyIter (.ref l)) Q E s:=by
 cases k with
 | true=>exact wpAny_pyIter_tuple h hQ
 | false=>exact wpAny_pyIter_list h hQ
theorem a6z {k:Bool} {l:Addr}:(itO k l).isFreed=false:=by cases k <;> rfl
theorem SIt.new {k:Bool} {l i:Addr} {h:Heap} (e:h.get? i=some (itO k l)):SIt k h i l 0:=by
 cases k with
 | true=>exact ⟨_,e,rfl,rfl⟩
 | false=>exact ⟨_,e,rfl,rfl⟩
def b0A (h:Heap) (ka kb:Bool) (l1 l2:Addr):Heap:=((((h.push (itO ka l1)).push (itO kb l2)).push { cls:=.type "tuple",data:=.seq #[.ref h.objs.size,.ref (h.push (itO ka l1)).objs.size] }).push { cls:=.type "tuple",data:=.seq #[.none,.none] }).push
 { cls:=.type "zip",data:=.fields #[.none,.bool false,.bool false,.ref ((h.push (itO ka l1)).push (itO kb l2)).objs.size,.ref (((h.push (itO ka l1)).push (itO kb l2)).push { cls:=.type "tuple",data:=.seq #[.ref h.objs.size,.ref (h.push (itO ka l1)).objs.size] }).objs.size] }
theorem meetsS (ka kb:Bool) (l1 l2:Addr) (xs ys:Array Value) :
  Meets (Builtin.«zip.__new__» ⟨[.type "zip",.ref l1,.ref l2],[]⟩) (λ_ R s=>SAt ka s.heap l1 xs/\SAt kb s.heap l2 ys/\R (.ok (.ret (.ref (s.heap.objs.size+4)))) { s with heap:=b0A s.heap ka kb l1 l2 }) :=
 .of_wp λprog w A R s h=>by
  obtain ⟨hp,g,d,tk,os⟩:=s;obtain ⟨hl1,hl2,h⟩:=h;have hsub:=sub_zip;have hL1:SAt ka (Shared.heap ⟨hp,g,d,tk,os⟩) l1 xs:=hl1;have hL2:SAt kb (Shared.heap ⟨hp.push (itO ka l1),g,d,tk,os⟩) l2 ys:=hl2.at λo e=>Heap.get?_push_of_some _ e
  wp_walk using a8t hL1,a8t hL2
  refine ⟨_,rfl,?_⟩;have z:((((hp.push (itO ka l1)).push (itO kb l2)).push { cls:=.type "tuple",data:=.seq #[.ref hp.objs.size,.ref (hp.push (itO ka l1)).objs.size] }).push { cls:=.type "tuple",data:=.seq #[.none,.none] }).objs.size=hp.objs.size+4:=by
   rw [Heap.size_push,Heap.size_push,Heap.size_push,Heap.size_push]
  rw [<-z] at h;exact h
theorem callS {prog:Program} {w:World} {A:Around} {E:Value->Shared->Prop} {s:Shared} {ka kb:Bool} {l1 l2:Addr} {xs ys:Array Value} {Q:Value->Shared->Prop} (h1:SAt ka s.heap l1 xs) (h2:SAt kb s.heap l2 ys)
  (h:∀ h',ZAt ka kb (s.heap.objs.size+4) (s.heap.objs.size+2) (s.heap.objs.size+3) s.heap.objs.size (s.heap.objs.size+1) l1 l2 0 h'->(∀ c o,s.heap.get? c=some o->h'.get? c=some o)->Q (.ref (s.heap.objs.size+4)) { s with heap:=h' }) :
  wpAny (model prog w) A (call (.type "zip") [.ref l1,.ref l2]) Q E s:=by
 refine callType_new F.called_zip (by decide) (F.typeCall_zip_2 _ _) (F.newCall_zip_2 _ _) (λobj=>F.args_object_init_3 obj _ _) F.entry_zip_new (meetsS ka kb l1 l2 xs ys) ⟨h1,h2,?_⟩;have kp:∀ c o,s.heap.get? c=some o->(b0A s.heap ka kb l1 l2).get? c=some o:=λc o x=>Heap.get?_push_of_some _ (Heap.get?_push_of_some _ (Heap.get?_push_of_some _ (Heap.get?_push_of_some _ (Heap.get?_push_of_some _ x))));have z1:(s.heap.push (itO ka l1)).objs.size=s.heap.objs.size+1:=Heap.size_push ..;have z2:((s.heap.push (itO ka l1)).push (itO kb l2)).objs.size=s.heap.objs.size+2:=by rw [Heap.size_push,z1]
 have z3:(((s.heap.push (itO ka l1)).push (itO kb l2)).push { cls:=.type "tuple",data:=.seq #[.ref s.heap.objs.size,.ref (s.heap.push (itO ka l1)).objs.size] }).objs.size=s.heap.objs.size+3:=by rw [Heap.size_push,z2]
 have z4:((((s.heap.push (itO ka l1)).push (itO kb l2)).push { cls:=.type "tuple",data:=.seq #[.ref s.heap.objs.size,.ref (s.heap.push (itO ka l1)).objs.size] }).push { cls:=.type "tuple",data:=.seq #[.none,.none] }).objs.size=s.heap.objs.size+4:=by rw [Heap.size_push,z3]
 have g1:(b0A s.heap ka kb l1 l2).get? s.heap.objs.size=some (itO ka l1):=Heap.get?_push_of_some _ (Heap.get?_push_of_some _ (Heap.get?_push_of_some _ (Heap.get?_push_of_some _ (Heap.get?_push_size _ a6z))));have g2:(b0A s.heap ka kb l1 l2).get? (s.heap.objs.size+1)=some (itO kb l2):=by rw [<-z1];exact Heap.get?_push_of_some _ (Heap.get?_push_of_some _ (Heap.get?_push_of_some _ (Heap.get?_push_size _ a6z)))
 have g3:(b0A s.heap ka kb l1 l2).get? (s.heap.objs.size+2)=some { cls:=.type "tuple",data:=.seq #[.ref s.heap.objs.size,.ref (s.heap.objs.size+1)] }:=by
  rw [<-z2];have q:(b0A s.heap ka kb l1 l2).get? ((s.heap.push (itO ka l1)).push (itO kb l2)).objs.size=some { cls:=.type "tuple",data:=.seq #[.ref s.heap.objs.size,.ref (s.heap.push (itO ka l1)).objs.size] }:=Heap.get?_push_of_some _ (Heap.get?_push_of_some _ (Heap.get?_push_size _ rfl));rw [z1] at q;exact q
 have g4:(b0A s.heap ka kb l1 l2).get? (s.heap.objs.size+3)=some { cls:=.type "tuple",data:=.seq #[.none,.none] }:=by rw [<-z3];exact Heap.get?_push_of_some _ (Heap.get?_push_size _ rfl)
 have g5:(b0A s.heap ka kb l1 l2).get? (s.heap.objs.size+4)=some { cls:=.type "zip",data:=.fields #[.none,.bool false,.bool false,.ref (s.heap.objs.size+2),.ref (s.heap.objs.size+3)] }:=by
  rw [<-z4];have q:(b0A s.heap ka kb l1 l2).get? ((((s.heap.push (itO ka l1)).push (itO kb l2)).push { cls:=.type "tuple",data:=.seq #[.ref s.heap.objs.size,.ref (s.heap.push (itO ka l1)).objs.size] }).push { cls:=.type "tuple",data:=.seq #[.none,.none] }).objs.size=some { cls:=.type "zip",data:=.fields #[.none,.bool false,.bool false,.ref ((s.heap.push (itO ka l1)).push (itO kb l2)).objs.size,.ref (((s.heap.push (itO ka l1)).push (itO kb l2)).push { cls:=.type "tuple",data:=.seq #[.ref s.heap.objs.size,.ref (s.heap.push (itO ka l1)).objs.size] }).objs.size] }:=Heap.get?_push_size _ rfl;rw [z2,z3] at q;exact q
 show _/\_;exact ⟨⟨_,g5,rfl⟩,h _ ⟨g5,g3,⟨_,_,g4⟩,.new g1,.new g2⟩ kp⟩
theorem b_zip:bootBuiltins "zip"=some (.type "zip"):=by decide +kernel
def iZip (K:PySem.W.Frag) (ka kb:Bool) (ta:TA):TI:=λσ H R=>ta σ H λvs H1=>∃ a b xs ys,vs=[.ref a,.ref b]/\SqK K ka H1 a xs/\SqK K kb H1 b ys/\R (Itz K ka kb a b) H1
theorem b1V {X:Cx} {elts:List Expr} {x1} {tp:Pos} {a b:Expr} {ta:TA} {p pos:Pos} (ka kb:Bool) (hg:Gl X "zip") (hm:X.mg "zip"=none) (ha:PA X [a,b] ta) (hs:starEach [a,b] X.env=[(false,eval a X.env),(false,eval b X.env)]:=by rfl) (hs2:starEach [b] X.env=[(false,eval b X.env)]:=by rfl) :
  PI X (.Tuple elts x1 tp) (.Call (.Name "zip" p) [a,b] [] pos) (iZip X.K ka kb ta):=by
 intro pins s σ H R I h;refine Call_ (a2B I hg hm b_zip (PyProof.Rows.callWith_type1 (thn (ha pos pins s σ H _ I h) λus s1 ⟨vs,H1,I1,r1,q1⟩=>?_) (by rw [hs,hs2]) (by rw [hs2];rfl)));obtain ⟨a',b',xs,ys,e,q1,q2,q⟩:=q1;subst e;obtain ⟨u,v,rfl,r1,r2⟩:=r1.two;cases r1;cases r2;obtain ⟨us,e1,p1⟩:=b4B I1 q1;obtain ⟨vs,e2,p2⟩:=b4B I1 q2;have lt:∀ {k:Bool} {l:Addr} {zs:Array Value},SAt k s1.heap l zs->l < s1.heap.objs.size:=λ{k l zs} x=>by
  cases k with
  | true=>obtain ⟨o,ho,_⟩:=x;exact Heap.lt_size ho
  | false=>obtain ⟨o,ho,_⟩:=x;exact Heap.lt_size ho
 have t1:=lt p1;have t2:=lt p2;refine callS p1 p2 λh' Z kp=>wpAny_pyIter_zip (s:={ s1 with heap:=h' }) Z.zp ?_;have D:ZipApart (s1.heap.objs.size+4) (s1.heap.objs.size+2) (s1.heap.objs.size+3) s1.heap.objs.size (s1.heap.objs.size+1) a' b':=by
  have t1':@LT.lt Nat _ a' s1.heap.objs.size:=t1;have t2':@LT.lt Nat _ b' s1.heap.objs.size:=t2;constructor <;> (show ¬ (@Eq Nat _ _);omega)
 refine ⟨_,[s1.heap.objs.size+4,s1.heap.objs.size+2,s1.heap.objs.size+3,s1.heap.objs.size,s1.heap.objs.size+1],_,_,H1,rfl,I1.kept (t':=s1.toks) kp,b0z D,Z,λc hc=>?_,q⟩;have ge:s1.heap.objs.size<=c:=by
  simp only [List.mem_cons,List.not_mem_nil,or_false] at hc;rcases hc with rfl | rfl | rfl | rfl | rfl <;> omega
 exact I1.fpOk ge (I1.hok.fresh ge)
theorem b3k {K:PySem.W.Frag} {ka kb:Bool} {a b:Addr} {xs ys:List V} {g:TG} {tb:TS} {D:a9Z} {σ:St} {H:Hp} (Pv:Nat->St->Hp->Prop) (h0:Pv 0 σ H) (hlen:xs.length=ys.length) (hl:∀ i σ H,i<=xs.length->Pv i σ H->SqK K ka H a xs/\SqK K kb H b ys)
  (hs:∀ i x y p σ H,xs[i]?=some x->ys[i]?=some y->Pv i σ H->H p=none->g (.ref p) σ (upd H p (.tup [x,y])) λσ2 H2=>tb { D with nx:=Pv (i+1),ct:=Pv (i+1),bk:=D.nx } σ2 H2) (hd:∀ σ H,Pv xs.length σ H->D.nx σ H) :
  ∃ W:Nat->Nat->St->Hp->Prop,(∃ m,W 0 m σ H)/\∀ i m σ H,W i m σ H ->
   ((Itz K ka kb a b).stop i H/\D.nx σ H)\/((Itz K ka kb a b).go i H/\∃ N:St->Hp->Prop,(∀ σ' H',N σ' H'->∃ m',m' < m/\W (i+1) m' σ' H')/\∀ x H',(Itz K ka kb a b).yld i H x H'->g x σ H' λσ2 H2=>tb { D with nx:=N,ct:=N,bk:=D.nx } σ2 H2):=by
 refine ⟨λi m σ H=>m=xs.length - i/\i<=xs.length/\Pv i σ H,⟨xs.length,by simp,Nat.zero_le _,h0⟩,?_⟩;rintro i m σ H ⟨rfl,hi,p⟩;obtain ⟨q1,q2⟩:=hl i σ H hi p;by_cases hlt:i < xs.length
 ·refine .inr ⟨⟨xs,ys,_,_,q1,q2,List.getElem?_eq_getElem hlt,List.getElem?_eq_getElem (by omega)⟩,Pv (i+1),λσ' H' n=>⟨xs.length - (i+1),by omega,rfl,by omega,n⟩,?_⟩;rintro v H' ⟨p',x,y,rfl,hn,e1,e2,rfl⟩;exact hs i x y p' σ H (e1 _ q1) (e2 _ q2) p hn
 ·have e:i=xs.length:=by omega
  subst e;exact .inl ⟨⟨xs,ys,q1,q2,.inl (Nat.le_refl _)⟩,hd σ H p⟩
section
variable {M:Model} {A:Around} {E:Value->Shared->Prop} {s:Shared} {env:Env} {outer:List Env} {base:Heap} {L e T:Addr} {cls fl:Value} {od:Option Addr} {Q:Unit->Shared->Prop}
theorem b0B (hfr:A.frames=some (env :: outer)) (hl:s.heap.FunFrames base (env :: outer)) (hf:env.frame=some L) (x:a1Q s.heap e cls od (.ref T)) (t:a5N s.heap T fl) (hT:T≠e)
  (h:∀ h' T',Mv [T,e] (frs (env :: outer)) s.heap h'->(T'=T\/s.heap.objs.size<=T')->T'≠e->a1Q h' e cls od (.ref T')->a5N h' T' (rawInt L)->Q () { s with heap:=h' }):wpAny M A (noteFrame (.ref e) env) Q E s:=by
 unfold noteFrame;simp only [hf];obtain ⟨oe,vs,he,hc,hdd,hd1,h1⟩:=id x;obtain ⟨oT,ts,hTT,hdT,h3⟩:=id t;refine wpAny_bind (wpAny_field he hd1 h1 ?_);rw [if_pos (show (Value.ref T != Value.none)=true from by simp)];refine wpAny_bind (wpAny_field hTT hdT h3 ?_);by_cases hz:fl=rawInt L
 ·subst hz;rw [if_pos (by simp)];exact wpAny_pure (h s.heap T Mv.refl (.inl rfl) hT x t)
 ·rw [if_neg (by simpa using hz)];refine wpAny_bind (a6w t λg m1 t1 k1=>?_);have hSf:∀ b∈[T,e],∀ o,s.heap.get? b=some o->∃ vs,o.data=.fields vs:=λb hb o ho=>by
   rcases List.mem_cons.mp hb with hb | hb
   ·rw [hb,hTT] at ho;cases ho;exact ⟨ts,hdT⟩
   ·rw [List.mem_singleton.mp hb,he] at ho;cases ho;exact ⟨vs,hd1⟩
  have m2:Mv [T,e] (frs (env :: outer)) s.heap g:=λb o hb hn=>by
   have hbT:b≠T:=λz=>hn (by rw [z];exact List.mem_cons_self);have q:=(k1 b hbT).trans hb;exact ⟨λ_=>q,o.slots,q⟩
  refine a3b (s:={ s with heap:=g }) hfr (m2.frames hl hSf) hf (x.other (k1 e (Ne.symm hT))) λh' T' m hs hT' x' t'=>?_;exact h h' T' (m2.trans (m.mono λb hb=>by rw [List.mem_singleton.mp hb];exact List.mem_cons_of_mem _ List.mem_cons_self)) (.inr (by rw [<-m1];exact hs)) hT' x' t'
theorem a7t {fr:Option Addr} (x:a1Q s.heap e cls od (.ref T)) (t:a5N s.heap T fl) (hTe:T≠e) (h:∀ h' fl',h'.objs.size=s.heap.objs.size->a1Q h' e cls od (.ref T)->a5N h' T fl'->(∀ b,b≠T->h'.get? b=s.heap.get? b)->Q () { s with heap:=h' }) :
  wpAny M A (setFlight (.ref e) fr) Q E s:=by
 obtain ⟨oe,vs,he,hc,hdd,hd1,h1⟩:=id x;unfold setFlight;refine wpAny_bind (wpAny_field he hd1 h1 ?_);rw [if_pos (show (Value.ref T != Value.none)=true from by simp)];exact a6w t λg m1 t1 k1=>h g _ m1 (x.other (k1 e (Ne.symm hTe))) t1 k1
end
def a8u (X:Cx) (E:XK):Prop:=∀ (pins:List (Addr × Obj)) (σ:St) (H:Hp) (s:Shared) (ea T:Addr) (cls fl:Value) (od:Option Addr),Inv X pins σ H s->a1Q s.heap ea cls od (.ref T)->a5N s.heap T fl->T≠ea ->
 (∀ b∈[T,ea],Off X pins b/\H b=none)->E cls od H->X.xe (.ref ea) s
section
variable {P:Program} {w:World} {K:PySem.W.Frag} {mg:Str->Option Value} {base:Heap} {N:List Str} {qual:Str} {scope:Scope} {f:Addr} {cd:Value} {A:Around} {outer:List Env} {s₀:Shared} {H₀:Hp} {E:XK}
theorem a7u:a8u (a5B (CXF P w) P w K mg base N qual scope f cd A outer s₀ H₀ E) E:=by
 intro pins σ H s ea T cls fl od I x t hT hS q;show wpAny _ _ (leaving _ (.ref ea)) _ _ s;unfold leaving;refine wpAny_bind (b0B I.ok.frames I.stack rfl x t hT λh1 T' m1 hs1 hT1 x1 t1=>?_);refine a3c (s:={ s with heap:=h1 }) x1 t1 hT1 λh2 sz2 x2 t2 k2=>?_;have out:∀ b,Off (a5B (CXF P w) P w K mg base N qual scope f cd A outer s₀ H₀ E) pins b->s₀.heap.get? b=none:=λb ob=>by
  cases e:s₀.heap.get? b with
  | none=>rfl
  | some o=>exact absurd (ob.1 o e) (by show b∉([]:List Addr);simp)
 have oT:Off (a5B (CXF P w) P w K mg base N qual scope f cd A outer s₀ H₀ E) pins T'/\H T'=none:=by
  rcases hs1 with rfl | hs1
  ·exact hS _ List.mem_cons_self
  ·exact ⟨I.off (Heap.get?_none_of_le hs1),I.hok.fresh hs1⟩
 have oE:=hS ea (List.mem_cons_of_mem _ List.mem_cons_self);have I1:Inv _ pins σ H { s with heap:=h1,toks:=s.toks }:=I.moved (S:=[T,ea]) m1 hS;have I2:Inv _ pins σ H { s with heap:=h2,toks:=s.toks }:=I1.moved (S:=[T']) (λb o hb hn=>by
  have hbT:b≠T':=λz=>hn (by rw [z];exact List.mem_cons_self);have z:=(k2 b hbT).trans hb;exact ⟨λ_=>z,o.slots,z⟩) λb hb=>by rw [List.mem_singleton.mp hb];exact oT
 refine ⟨ea,cls,od,[T',ea],H,rfl,I2.os,I2.bare,I2.base,I2.hok,a6x x2 t2 hT1,λb hb=>?_,q⟩;rcases List.mem_cons.mp hb with rfl | hb
 ·exact ⟨out _ oT.1,oT.2⟩
 ·rw [List.mem_singleton.mp hb];exact ⟨out _ oE.1,oE.2⟩
end
theorem a5Q {X:Cx} {E:XK} {scope:Scope} {cl:List (Str × Addr)} {C:Addr} {s0:Shared} {H0:Hp} {fp:List Addr} {N:List Str} {pins:List (Addr × Obj)} {σ:St} (bk:Back X (cxC X scope cl C s0 H0 fp N) pins σ fp C s0 H0) (hfrm:X.stack=X.env :: X.outer/\X.env.frame=some X.env.locals) (hx:a8u X E) :
  a1M (CXF X.prog X.w) (cxC X scope cl C s0 H0 fp N) E:=by
 intro pins' σ' H s e s' I h;obtain ⟨ea,cls,od,S,H',rfl,os,bare,un,hok,lo,hS,q⟩:=h;have I1:=I.call' (ch:=[]) os un hok bare (λb z=>absurd z (by simp));have X1:=(bk.inv _ _ _ _ I1).1;show notedBy (model X.prog X.w) X.A (compEnvC scope cl C X.env) (λe s'=>compPost (model X.prog X.w) X.A X.xe none (λ_ _=>False) Value.none C (.error e) s') (.ref ea) s';show wpAny (model X.prog X.w) X.A (noteFrame (.ref ea) X.env) _ _ s';have st:=X1.stack;rw [hfrm.1] at st;have hfr:=bk.i0.ok.frames;rw [hfrm.1] at hfr;refine a8m hfr st hfrm.2 lo λh3 T m3 hs3 hT x3 t3=>?_;rw [<-hfrm.1] at m3;have offS:∀ b,s.heap.get? b=none->Off X pins b:=λb hb=>by
  by_cases hf:b∈fp
  ·obtain ⟨f1,f2,f3,f4⟩:=bk.fp b hf;refine ⟨λo ho=>f1.elim id λz=>?_,f2,f3,f4⟩;exact absurd (Nat.lt_of_lt_of_le (Heap.lt_size ho) z) (Nat.lt_irrefl _)
  ·refine bk.i0.off (b:=b) ?_;cases e:s0.heap.get? b with
   | none=>rfl
   | some o=>exact absurd ((I.off hb).1 o e) hf
 have I3:Inv _ pins' σ' H' { s' with heap:=h3,toks:=s'.toks }:=I1.moved (S:=S) m3 λb hb=>⟨I.off (hS b hb).1,(hS b hb).2⟩
 obtain ⟨X3,gn⟩:=bk.inv _ _ _ _ I3;obtain ⟨m,hn,_⟩:=I3.loc;have oT:=X1.off (Heap.get?_none_of_le hs3);have nT:=X1.hok.fresh hs3;have oE:=offS ea (hS ea lo.1).1;have nE:=(hS ea lo.1).2;refine ⟨m,hn,λh4 sb cenv hcl=>?_⟩;obtain ⟨oc,es,ep,hoc,hdc,_⟩:=id hn;have eC:ea≠C:=λz=>by
  obtain ⟨oe,vs,he,_,_,hd,_⟩:=x3;rw [z] at he;have hoc':h3.get? C=some oc:=hoc;rw [he] at hoc';cases hoc';rw [hd] at hdc;cases hdc
 have tC:T≠C:=λz=>by
  obtain ⟨oe,vs,he,hd,_⟩:=t3;rw [z] at he;have hoc':h3.get? C=some oc:=hoc;rw [he] at hoc';cases hoc';rw [hd] at hdc;cases hdc
 have X4:Inv X pins σ H' { s' with heap:=h4 }:=X3.gone gn sb;have x4:a1Q h4 ea cls od (.ref T):=x3.other (sb.2 ea eC);have t4:a5N h4 T (rawInt X.env.locals):=by
  obtain ⟨oT,ts,e,r⟩:=t3;exact ⟨oT,ts,(sb.2 T tC).trans e,r⟩
 unfold PySem.passOn;obtain ⟨oe,vs,he,hc,hdd,hd1,h1⟩:=id x4;refine wpAny_bind (wpAny_field (s:={ s' with heap:=h4 }) he hd1 h1 ?_);rw [if_neg (by simp)];refine wpAny_bind (a7t (s:={ s' with heap:=h4 }) x4 t4 hT λh5 fl5 sz5 x5 t5 k5=>wpAny_throw ?_);have X5:Inv X pins σ H' { s' with heap:=h5,toks:=s'.toks }:=X4.moved (S:=[T]) (λb o hb hn=>by
  have hbT:b≠T:=λz=>hn (by rw [z];exact List.mem_cons_self);have z:=(k5 b hbT).trans hb;exact ⟨λ_=>z,o.slots,z⟩) λb hb=>by rw [List.mem_singleton.mp hb];exact ⟨oT,nT⟩
 exact hx pins σ H' { s' with heap:=h5,toks:=s'.toks } ea T cls fl5 od X5 x5 t5 hT (λb hb=>by
  rcases List.mem_cons.mp hb with rfl | hb
  ·exact ⟨oT,nT⟩
  ·rw [List.mem_singleton.mp hb];exact ⟨oE,nE⟩) q
def b3l (tc:TT) (te:TE) (σ:St) (d:Addr) (x y:V) (H:Hp) (Z:Hp->Prop):Prop :=
 tc (some x :: some y :: σ) H λb H3=>if b=true then te (some x :: some y :: σ) H3 λv H4=>∃ ys,H4 d=some (.lst ys)/\ys.length < sizeLine/\Z (upd H4 d (.lst (ys++[v]))) else Z H3
def tCompZ (K:PySem.W.Frag) (ka kb:Bool) (ta:TA) (tc:TT) (te:TE):TE:=λσ H Q=>ta σ H λvs H1=>∃ a b xs ys,vs=[.ref a,.ref b]/\SqK K ka H1 a xs/\SqK K kb H1 b ys/\xs.length=ys.length/\∀ d,H1 d=none ->
 ∃ Pv:Nat->Hp->Prop,Pv 0 (upd H1 d (.lst []))/\(∀ i H,i<=xs.length->Pv i H->SqK K ka H a xs/\SqK K kb H b ys)/\(∀ i x y p H,xs[i]?=some x->ys[i]?=some y->Pv i H->H p=none->b3l tc te σ d x y (upd H p (.tup [x,y])) (Pv (i+1)))/\∀ H,Pv xs.length H->Q (.ref d) H
def b0C (K:PySem.W.Frag):TG:=gTup K 2 (b2J (a1I 0) (b2J (a1I 1) gNil))
theorem a8v {K:PySem.W.Frag} {v:V} {σ:St} {H:Hp} {Q:St->Hp->Prop} (h:b0C K v (List.replicate 2 none++σ) H Q):b0C K v (List.replicate 2 none++σ) H λσ2 H2=>(∃ l:St,l.length=2/\σ2=l++σ)/\Q σ2 H2:=by
 obtain ⟨a,xs,e,hq,hl,v1,r1,e1,v2,r2,e2,e3,q⟩:=h;exact ⟨a,xs,e,hq,hl,v1,r1,e1,v2,r2,e2,e3,⟨[some v1,some v2],rfl,rfl⟩,q⟩
theorem b0D {K:PySem.W.Frag} {ka kb:Bool} {a b:Addr} {xs ys:List V} {tc:TT} {te:TE} {σ:St} {H:Hp} {Q:VK} {d:Addr} (hlen:xs.length=ys.length) (Pv:Nat->Hp->Prop) (h0:Pv 0 (upd H d (.lst []))) (hl:∀ i H,i<=xs.length->Pv i H->SqK K ka H a xs/\SqK K kb H b ys)
  (hs:∀ i x y p H,xs[i]?=some x->ys[i]?=some y->Pv i H->H p=none->b3l tc te σ d x y (upd H p (.tup [x,y])) (Pv (i+1)))
  (hd:∀ H,Pv xs.length H->Q (.ref d) H) :
  ∃ W:Nat->Nat->Hp->Prop,(∃ m,W 0 m (upd H d (.lst [])))/\∀ i m H,W i m H ->
   ((Itz K ka kb a b).stop i H/\Q (.ref d) H)\/((Itz K ka kb a b).go i H/\∃ N:Hp->Prop,(∀ H',N H'->∃ m',m' < m/\W (i+1) m' H')/\∀ x H',(Itz K ka kb a b).yld i H x H'->b0C K x (List.replicate 2 none++σ) H' λσ2 H2 =>
    tc σ2 H2 λb H3=>if b=true then te σ2 H3 λy H4=>∃ ys,H4 d=some (.lst ys)/\ys.length < sizeLine/\N (upd H4 d (.lst (ys++[y]))) else N H3):=by
 refine ⟨λi m H=>m=xs.length - i/\i<=xs.length/\Pv i H,⟨xs.length,by simp,Nat.zero_le _,h0⟩,?_⟩;rintro i m H ⟨rfl,hi,p⟩;obtain ⟨q1,q2⟩:=hl i H hi p;by_cases hlt:i < xs.length
 ·refine .inr ⟨⟨xs,ys,_,_,q1,q2,List.getElem?_eq_getElem hlt,List.getElem?_eq_getElem (by omega)⟩,Pv (i+1),λH' n=>⟨xs.length - (i+1),by omega,rfl,by omega,n⟩,?_⟩;rintro v H' ⟨p',x,y,rfl,hn,e1,e2,rfl⟩;exact ⟨p',[x,y],rfl,SqT.of a0b,rfl,x,[y],rfl,y,[],rfl,rfl,hs i x y p' H (e1 _ q1) (e2 _ q2) p hn⟩
 ·have e:i=xs.length:=by omega
  subst e;exact .inl ⟨⟨xs,ys,q1,q2,.inl (Nat.le_refl _)⟩,hd H p⟩
theorem b0E {X:Cx} (K:PySem.W.Frag) (ka kb:Bool) {elt a b:Expr} {t1 t2:Str} {p1 p2 tp p pos pos':Pos} {k:Nat} {cs:List Expr} {scope:Scope} {tc:TT} {te:TE} {ta:TA} {M:List Str} (hc:X.calm=true) (S:a0x scope X.env X.N M) (nd:(t1 :: t2 :: M).Nodup) (hl1:scope.names.lookup t1=some .local) (hl2:scope.names.lookup t2=some .local)
  (hg:Gl X "zip") (hm:X.mg "zip"=none) (ha:PA X [a,b] ta) (mo:a5K ta)
  (hin:∀ (cl:List (Str × Addr)) (C:Addr) (s0:Shared) (H0:Hp) (fp:List Addr) (pins:List (Addr × Obj)) (σ:St),Back X (cxC X scope cl C s0 H0 fp (t1 :: t2 :: M)) pins σ fp C s0 H0->PTs (cxC X scope cl C s0 H0 fp (t1 :: t2 :: M)) cs tc/\PE (cxC X scope cl C s0 H0 fp (t1 :: t2 :: M)) elt te)
  (hs:starEach [a,b] X.env=[(false,eval a X.env),(false,eval b X.env)]:=by rfl) (hs2:starEach [b] X.env=[(false,eval b X.env)]:=by rfl) (hf:∀ x,foldedSetIterable (.Call (.Name "zip" p) [a,b] [] pos') X.env x=pure x:=by intro _;rfl) (hK:X.K=K:=by rfl) :
  PE X (.ListComp elt [⟨.Tuple [.Name t1 p1,.Name t2 p2] k tp,.Call (.Name "zip" p) [a,b] [] pos',cs,0⟩] scope pos) (tCompZ K ka kb ta tc te):=by
 subst hK;have hx1:(relabel scope X.env).names.lookup t1=some .local:=by rw [a0N,hl1];rfl
 have hx2:(relabel scope X.env).names.lookup t2=some .local:=by rw [a0N,hl2];rfl
 refine PE.imp (b0q (xs:=[t1,t2]) (M:=M) (g:=b0C X.K) hc S (b1V ka kb hg hm ha hs hs2) (λcl C s0 H0 fp pins σ bk=>⟨a4M hc (a1i (a2Q (i:=0) nd rfl (Or.inl hx1) (Or.inr hx1)) (a1i (a2Q (i:=1) nd rfl (Or.inl hx2) (Or.inr hx2)) a2R)),hin cl C s0 H0 fp pins σ bk⟩) (λv σ H Q h=>a8v h) hf) (λσ H Q h=>?_);refine mo σ H _ _ (λvs H1 q=>?_) h;obtain ⟨a',b',xs,ys,e,q1,q2,hlen,q⟩:=q;refine ⟨a',b',xs,ys,e,q1,q2,λd hd=>?_⟩;obtain ⟨Pv,h0,hl,hs,hd⟩:=q d hd;exact b0D hlen Pv h0 hl hs hd
section
variable {κ:Type} [DecidableEq κ]
def valV (kvs:List (κ × V)) (k:κ):Option V:=(kvs.find? λkv=>decide (kv.1=k)).map (·.2)
def putK (kvs:List (κ × V)) (k:κ) (v:V):List (κ × V) :=
 if (kvs.any λkv=>decide (kv.1=k))=true then kvs.map (λkv=>if kv.1=k then (kv.1,v) else kv) else kvs++[(k,v)]
def dropK (kvs:List (κ × V)) (k:κ):List (κ × V):=kvs.filter λkv=>decide (kv.1≠k)
end
abbrev KT (H:Hp):List (List Key × V)->List (List Key × Addr × Value)->Prop:=Paired λp q=>p.1=q.1/\H q.2.1=some (.tup (p.1.map kV))/\a0V p.2 q.2.2
section
variable {P:Program} {w:World} {H:Hp} {h:Heap} {a:Addr}
end
def DGet (H:Hp) (a:Addr) (y:V) (r:Option V):Prop :=
 (∃ kvs k,Rd H a (.dK kvs)/\y=kV k/\r=valV kvs k)\/∃ kvs k b,Rd H a (.dT kvs)/\y=.ref b/\H b=some (.tup (k.map kV))/\r=valV kvs k
def DPut (H:Hp) (a:Addr) (y v:V) (H':Hp):Prop :=
 (∃ kvs k,H a=some (.dK kvs)/\y=kV k/\kvs.length < sizeLine/\H'=upd H a (.dK (putK kvs k v))) \/
 ∃ kvs k b,H a=some (.dT kvs)/\y=.ref b/\H b=some (.tup (k.map kV))/\kvs.length < sizeLine/\H'=upd H a (.dT (putK kvs k v))
section
variable {X:Cx} {pins:List (Addr × Obj)} {σ:St} {H:Hp} {s:Shared} {a:Addr} {y v:V} {u r:Value} {o:Option V} {A:Around} {E:Value->Shared->Prop}
end
section
variable {X:Cx} {pins:List (Addr × Obj)} {σ:St} {H:Hp} {s:Shared} {a:Addr} {kvs:List (Key × V)} {k:Key} {u:Value} {A:Around} {E:Value->Shared->Prop}
end
def NoSl (i:Expr):Prop:=∀ ov iv,subscripted i false ov iv=operate [ov,iv] (getItem ov iv)
def tDGet (td ty:TE):TE:=λσ H Q=>td σ H λx H1=>ty σ H1 λy H2=>∃ a v,x=.ref a/\DGet H2 a y (some v)/\Q v H2
def tDIn (ty td:TE):TE:=λσ H Q=>ty σ H λy H1=>td σ H1 λx H2=>∃ a o,x=.ref a/\DGet H2 a y o/\Q (.bl o.isSome) H2
def sDPut (td ty tv:TE):TS:=λD σ H=>tv σ H λv H1=>td σ H1 λx H2=>ty σ H2 λy H3=>∃ a H4,x=.ref a/\DPut H3 a y v H4/\D.nx σ H4
def sDAug (td ty tv:TE) (rd:V->V->Hp->VK->Prop):TS:=λD σ H=>td σ H λx H1=>ty σ H1 λy H2=>∃ a v,x=.ref a/\DGet H2 a y (some v) /\
 tv σ H2 λy2 H3=>rd v y2 H3 λz H4=>∃ H5,DPut H4 a y z H5/\D.nx σ H5
def sDDel (td ty:TE):TS:=λD σ H=>td σ H λx H1=>ty σ H1 λy H2=>∃ a kvs k,x=.ref a/\H2 a=some (.dK kvs)/\y=kV k/\(valV kvs k).isSome=true/\D.nx σ (upd H2 a (.dK (dropK kvs k)))
section
variable {X:Cx} {o i e value:Expr} {pos pos' tpos:Pos} {td ty tv:TE}
end
def tDNewK:TE:=λ_ H Q=>∀ p,H p=none->Q (.ref p) (upd H p (.dK []))
section
variable {X:Cx} {pos:Pos}
end
def b1W:List (TE × TE)->St->Hp->(List (V × V)->Hp->Prop)->Prop
 | [],_,H,Q=>Q [] H
 | (tk,tv) :: r,σ,H,Q=>tk σ H λx H1=>tv σ H1 λy H2=>b1W r σ H2 λps H3=>Q ((x,y) :: ps) H3
def mergeK (kvs more:List (Key × V)):List (Key × V):=more.foldl (λacc kv=>putK acc kv.1 kv.2) kvs
def tDisp (trs:List (TE × TE)):TE:=λσ H Q=>∀ p,H p=none->b1W trs σ (upd H p (.dK [])) λps H2=>H2 p=some (.dK [])/\∃ kvs:List (Key × V),ps=kvs.map (λkv=>(kV kv.1,kv.2))/\kvs.length<=15/\Q (.ref p) (upd H2 p (.dK (mergeK [] kvs)))
structure M1 (X:Cx) (o:Expr) (m:Str) (apos:Pos) (e:Expr) (cpos:Pos):Prop where
 base:attributeBase o m X.env (eval o X.env)=eval o X.env
 few:((backTo cpos (starEach [e] X.env)).all (λx=>!x.1) && (backToKw cpos (keywordEach [] X.env)).all (λx=>x.1.isSome)
  && decide (([e]:List Expr).length+([]:List Keyword).length+(if ([]:List Keyword).isEmpty then 0 else 1) < 30))=true
 line:(apos.endLine == cpos.line)=true
 trees:backTo cpos (starEach [e] X.env)=[(false,eval e X.env)]
def IsD (H:Hp) (a:Addr):Prop:=(∃ kvs,Rd H a (.dK kvs))\/∃ kvs,Rd H a (.dT kvs)
section
variable {X:Cx} {pins:List (Addr × Obj)} {σ:St} {H:Hp} {s:Shared} {a:Addr} {y d:V} {u r:Value} {o:Option V} {A:Around} {E:Value->Shared->Prop}
end
def tDPop1 (td ty:TE):TE:=λσ H Q=>td σ H λx H1=>∃ a,x=.ref a/\IsD H1 a/\ty σ H1 λy H2=>∃ kvs k v,H2 a=some (.dK kvs)/\y=kV k/\valV kvs k=some v/\Q v (upd H2 a (.dK (dropK kvs k)))
section
variable {X:Cx} {o e f:Expr} {apos cpos:Pos} {td ty tx:TE}
end
section
variable {X:Cx} {pins:List (Addr × Obj)} {σ:St} {H:Hp} {s:Shared} {a:Addr} {kvs:List (Key × V)} {A:Around} {E:Value->Shared->Prop}
end
section
variable {X:Cx} {pins:List (Addr × Obj)} {σ:St} {H:Hp} {s:Shared} {a:Addr} {y:V} {u:Value} {A:Around} {E:Value->Shared->Prop}
end
abbrev B30:Int:=1000000000000000000000000000000
theorem e30:(10:Int) ^ (30:Int).toNat=B30:=by decide
def b3m (i j:Int):Prop:=(0<=i/\i<=10000000000 * B30)/\(0<=j/\j<=10000000000 * B30)
theorem b3m.ok {i j:Int} (h:b3m i j):IntMulOk i j:=by
 have q:∀ k:Int,0<=k/\k<=10000000000 * B30->PySem.Builtin.Int.intBits k<=140:=λk hk=>intBits_le_iff.mpr (by
  have e:(2:Nat) ^ 140=1393796574908163946345982392040522594123776:=by decide
  rw [e];unfold B30 at hk;omega)
 exact IntMulOk.of_le (q i h.1) (q j h.2) (by decide)
theorem a3d {X:Cx}:OpR X (binaryOp .Mult) (rI b3m λi j=>.int (i * j)):=opI λ_ _ _ _ _ _ _ hc q=>PyProof.Rows.mul_int q hc.ok
theorem b_max:bootBuiltins "max"=some (.builtin "max"):=by decide +kernel
theorem a8w {te:TE} {σ:St} {d:Addr} {x y:V} {H:Hp} {Z:Hp->Prop} (h:te (some x :: some y :: σ) H λv H4=>∃ ys,H4 d=some (.lst ys)/\ys.length < sizeLine/\Z (upd H4 d (.lst (ys++[v])))):b3l b0p te σ d x y H Z:=by
 show (if true=true then (te (some x :: some y :: σ) H λv H4=>∃ ys,H4 d=some (.lst ys)/\ys.length < sizeLine/\Z (upd H4 d (.lst (ys++[v])))) else Z H);rw [if_pos rfl];exact h
section
variable {X:Cx} {elt iter:Expr} {tg:Str} {tp:Pos} {cs:List Expr} {scope:Scope} {pos:Pos} {tc:TT} {te:TE} {M:List Str}
theorem a6A {tl:TE} {pos1 spos:Pos} {i:Nat} {x:Str} (hN:X.N.Nodup) (hix:X.N[i]?=some x) (hx:X.env.scope.names.lookup x=some .local) (hc:X.calm=true) (S:a0x scope X.env X.N M) (nd:(tg :: M).Nodup) (hl:scope.names.lookup tg=some .local) (hi:PE X iter tl) (mo:a2w tl)
  (hin:a5L X scope tg M cs elt tc te) (hw:swapsWith (.ListComp elt [⟨.Name tg tp,iter,cs,0⟩] scope pos) (some (.Name x pos1)) spos.line X.env=pure true:=by rfl) (hf:∀ x,foldedSetIterable iter X.env x=pure x:=by intro _;rfl) :
  PS X (.Assign [.Name x pos1] (.ListComp elt [⟨.Name tg tp,iter,cs,0⟩] scope pos) spos) (b4y (b1U X.K tl tc te) (a1I i)):=by
 refine b0u hc S nd hl (a2S hi) hin (λσ H Q h=>?_) hN hix hx hw hf;refine mo σ H _ _ (λv H1 q=>?_) h;obtain ⟨a,xs,e,j1,q⟩:=q;refine ⟨a,e,⟨xs,j1⟩,λd hd=>?_⟩;obtain ⟨Pv,h0,hl,hs,hd⟩:=q d hd;exact a4Y (k:=1) (g:=a1I 0) Pv h0 hl hs hd
end
section
variable {P:Program} {w:World} {A:Around} {H:Hp} {s:Shared} {n:Nat} {α β γ:Type} [DecidableEq α] [DecidableEq β] [DecidableEq γ]
variable {R1:V->α->Prop} {R2:V->β->Prop} {R3:V->γ->Prop}
end
def srt (ns:List Int):List Int:=ns.mergeSort λa b=>decide (a<=b)
theorem a2L (ns:List Int):(srt ns).Perm ns:=List.mergeSort_perm ns _
theorem a3e (ns:List Int):(srt ns).Pairwise (·<=·):=by
 have h:=List.pairwise_mergeSort (le:=λa b:Int=>decide (a<=b)) (λa b c h1 h2=>by simp at *;omega) (λa b=>by simp;omega) ns;exact h.imp λh=>by simpa using h
theorem a8x (ns:List Int):(srt ns).length=ns.length:=(a2L ns).length_eq
theorem a5d {a b:List Int} (h:a.Perm b) (h1:a.Pairwise (·<=·)) (h2:b.Pairwise (·<=·)):a=b:=h.eq_of_pairwise (λx y _ _ h3 h4=>by omega) h1 h2
theorem b1X {ns ms:List Int} (h:ms.Perm ns) (h1:ms.Pairwise (·<=·)):ms=srt ns:=a5d (h.trans (a2L ns).symm) h1 (a3e ns)
def SqI (H:Hp) (a:Addr) (ns:List Int):Prop:=H a=some (.lst (ns.map V.int))\/H a=some (.tup (ns.map V.int))
def rSortI:List V->Hp->VK->Prop:=λxs H Q=>∃ (a:Addr) (ns:List Int),xs=[.ref a]/\SqI H a ns/\ns.length < 64/\∀ p H',a0p H H'->H p=none->H' p=some (.lst ((srt ns).map V.int))->Q (.ref p) H'
theorem a1X {ns:List Int} {us:List Value} (r:a0z (ns.map V.int) us):IntsAre us ns:=by
 induction ns generalizing us with
 | nil=>cases r;exact .nil
 | cons n ns ih =>
  cases r with
  | cons r rr =>
   obtain ⟨t,rfl⟩:=r;exact .cons _ _ (ih rr)
theorem a3J {ns:List Int} {us:List Value} (r:IntsAre us ns):a0z (ns.map V.int) us:=by
 induction r with
 | nil=>exact .nil
 | cons n t _ ih=>exact .cons ⟨t,rfl⟩ ih
theorem seq_at {X:Cx} {pins:List (Addr × Obj)} {σ:St} {H:Hp} {s:Shared} (I:Inv X pins σ H s) {a:Addr} {ns:List Int} (h:SqI H a ns):∃ (T:String) (o:Obj) (its:List Value) (n:Nat),(T="list"\/T="tuple")/\s.heap.get? a=some o/\o.cls=.type T/\o.data=.seq its.toArray n/\IntsAre its ns:=by
 rcases h with h | h
 ·obtain ⟨_,its,n,rv,he⟩:=(show a0R X.prog X.w H s.heap a (.lst (ns.map V.int)) from I.hok a _ h)
  exact ⟨"list",_,its,n,.inl rfl,he,rfl,rfl,a1X rv⟩
 ·obtain ⟨_,its,rv,⟨o,ho,hcl,n,hd⟩⟩:=a8p ((show a0R X.prog X.w H s.heap a (.tup (ns.map V.int)) from I.hok a _ h));exact ⟨"tuple",o,its,n,.inr rfl,ho,hcl,hd,a1X rv⟩
theorem a1t {vs:List Value} {ns:List Int} (h:IntsAre vs ns):vs.length=ns.length:=by
 induction h with
 | nil=>rfl
 | cons n t _ ih=>simp [ih]
theorem b0F {X:Cx}:a2q X (.builtin "sorted") rSortI:=by
 intro pins s σ H xs us Q I r h;obtain ⟨a,ns,rfl,e,h64,q⟩:=h;obtain ⟨u,rfl,rx⟩:=a3t r;cases rx;obtain ⟨T,o,its,n,hT,ho,hcl,hdat,hI⟩:=seq_at I e;have li:=a1t hI;refine Calls.call_function_entry kind_sorted plain_sorted entry_sorted (args_sorted1 _) ?_;unfold Builtin.«sorted»;refine wpAny_bind (m:=checkCount "sorted" 1 1 _) (wpAny_pure ?_);refine wpAny_bind (wpAny_collect_seq a hT ho hcl hdat (λh1 k1=>?_) (by rw [List.size_toArray,sizeLine_eq];omega));show wpAny _ _ _ _ _ { s with heap:=h1 };refine wpAny_bind (wpAny_newList ?_ (by show its.length<=sizeLine;rw [sizeLine_eq];omega));show wpAny _ _ _ _ _ { s with heap:=h1.push (seqObj "list" its.toArray 0) };have hoL:(h1.push (seqObj "list" its.toArray 0)).get? h1.objs.size=some (seqObj "list" its.toArray 0):=Heap.get?_push_size _ rfl;have nL:∀ b o,h1.get? b=some o->b≠h1.objs.size:=λb o e=>Nat.ne_of_lt (Heap.lt_size e);have I1:Inv X pins σ H { s with heap:=h1,toks:=s.toks }:=I.kept k1;have hLn:H h1.objs.size=none:=I1.hok.fresh (Nat.le_refl _);refine wpAny_bind (wpAny_holding (wpAny_call_entry slot_list_sort ⟨_,hoL,rfl⟩ entry_list_sort (list_sort_tree (s:={ s with heap:=h1.push (seqObj "list" its.toArray 0) }) hoL hI (by omega) λout ns' ho' pm srt'=>⟨_,rfl,?_⟩) (args_list_sort _)));have es:ns'=srt ns:=b1X pm srt';subst es;have lo:out.toList.length=ns.length:=by rw [a1t ho',a8x]
 have hp:∃ c,(sortedHeap (h1.push (seqObj "list" its.toArray 0)) h1.objs.size its out).get? h1.objs.size=some { cls:=.type "list",data:=.seq out.toList.toArray c }:=by
  unfold sortedHeap;have z1:=get?_update_seq hoL (λ_=>#[]);have z2:=Heap.get?_push_of_some (seqObj "tuple" its.toArray 0) z1;have z3:=Heap.get?_push_of_some (seqObj "list" #[] 0) z2;have z4:=get?_update_seq z3 (λ_=>out);exact ⟨_,z4⟩
 obtain ⟨c,hp⟩:=hp;have kh:∀ b o,h1.get? b=some o->(sortedHeap (h1.push (seqObj "list" its.toArray 0)) h1.objs.size its out).get? b=some o:=λb o e=>by
  have ne:=nL b o e;unfold sortedHeap;rw [Heap.get?_update_ne _ _ _ _ ne];refine Heap.get?_push_of_some _ (Heap.get?_push_of_some _ ?_);rw [Heap.get?_update_ne _ _ _ _ ne];exact Heap.get?_push_of_some _ e
 have I2:Inv X pins σ (upd H h1.objs.size (.lst ((srt ns).map V.int))) { s with heap:=sortedHeap (h1.push (seqObj "list" its.toArray 0)) h1.objs.size its out,toks:=s.toks }:=I1.laid (t':=s.toks) kh (Nat.le_refl _) ⟨by rw [List.length_map,a8x,sizeLine_eq];omega,_,c,a3J ho',hp⟩;have sm:=a0f hLn (.lst ((srt ns).map V.int));exact wpAny_pure ⟨_,rfl,.ref h1.objs.size,_,I2,rfl,q _ _ sm hLn a0b⟩
theorem b0G {ns:List Int} {m:Int} (h:m∈ns) (h1:∀ x∈ns,m<=x):(srt ns).headD 0=m:=by
 have p:=a2L ns;have r:=a3e ns;cases e:srt ns with
 | nil =>
  rw [e] at p;have:=p.symm.mem_iff.mp h;cases this
 | cons a t =>
  rw [e] at p r;have ha:m<=a:=h1 a (p.mem_iff.mp (.head _));have hm:m∈a :: t:=p.symm.mem_iff.mp h;show a=m;cases hm with
  | head=>rfl
  | tail _ hm =>
   have:=(List.pairwise_cons.mp r).1 m hm;omega
theorem b3n {its:List Value} {ns:List Int} (hI:IntsAre its ns) (ne:ns≠[]) {v:Value} (h:its.toArray[argBest (λi j=>decide (ns.getD i 0 < ns.getD j 0)) (its.toArray.size - 1)]?=some v):∃ t,v=.int ((srt ns).headD 0) t:=by
 have li:=a1t hI;have hb:=argBest_lt (λi=>ns.getD i 0) (its.toArray.size - 1);have ez:its.toArray.size=its.length:=List.size_toArray;have n0:0 < ns.length:=List.length_pos_iff.mpr ne;have hv:its[argBest (λi j=>decide (ns.getD i 0 < ns.getD j 0)) (its.toArray.size - 1)]?=some v:=by simpa using h
 obtain ⟨t,e⟩:=hI.int_at _ v hv;refine ⟨t,?_⟩;rw [e];congr 1;refine (b0G ?_ λx hx=>?_).symm
 ·rw [List.getD_eq_getElem?_getD,List.getElem?_eq_getElem (by have:=hb.1;omega)];exact List.getElem_mem _
 ·obtain ⟨j,hj⟩:=List.mem_iff_getElem?.mp hx;have jl:=(List.getElem?_eq_some_iff.mp hj).1;have:=hb.2 j (by omega);rw [show ns.getD j 0=x by rw [List.getD_eq_getElem?_getD,hj];rfl] at this;exact this
theorem b_min':bootBuiltins "min"=some (.builtin "min"):=by decide +kernel
theorem a5e:bootBuiltins "sorted"=some (.builtin "sorted"):=by decide +kernel
section
variable {prog:Program} {w:World} {A:Around} {R:Result->Shared->Prop} {I:Addr} {fp wr:List Addr} {n:Nat} {P:Nat->Value->Prop} {St:Nat->Heap->Prop}
abbrev kwD (d:Value):List (Str × Value):=[(Str.ofString "default",d)]
theorem b3o (W:Walks prog w A.in1 I fp wr n P St) (bt:Nat->Nat->Bool) (C:CmpOf prog w A.in1 .Lt P bt) (S:Addr) (hS:S∉fp) (d:Value) :
  ∀ (k j:Nat) (s:Shared) (vb:Value) (c:Nat),n - (j+1)=k->j+1<=n->St (j+1) s.heap->P (argBest bt j) vb->s.heap.get? S=some { cls:=.type "list",data:=.seq #[vb,vb] c } ->
   (∀ (v:Value) (h':Heap) (tk:Nat),P (argBest bt (n - 1)) v->(∀ (b:Addr) (o:Obj),b∉wr->b≠S->s.heap.get? b=some o->h'.get? b=some o)->R (.ok (.ret v)) { s with heap:=h',toks:=tk }) ->
   codeAny (model prog w) A (.builtin "min.loop" ⟨[.ref I,.none,.ref S],kwD d⟩) R s:=by
 intro k
 induction k with
 | zero =>
  intro j s vb c hk hj st pv hs q;have ej:j+1=n:=by omega
  refine codeAny_builtin F.entry_min_loop ?_;rw [Around.under_plainId F.plain_min_loop _];show wpAny _ A.in1 (seqItems? (.ref S) >>= _) _ _ s;refine wpAny_bind (wpAny_seqItems hs rfl ?_);refine wpAny_bind (wpAny_tryCatch ?_);subst ej;refine W.done s _ _ st λh' tk hk'=>?_;have hs':=hk' S _ (λz=>hS (W.sub _ z)) hs;show wpAny _ A.in1 (updateSeq S _ >>= _) _ _ _;refine wpAny_bind (wpAny_updateSeq hs' rfl ?_);refine wpAny_bind (wpAny_letGo ?_);refine wpAny_pure ?_;refine q vb _ tk pv λb o hb hne e=>?_;rw [Heap.get?_update_ne _ _ _ _ hne];exact hk' b o hb e
 | succ k ih =>
  intro j s vb c hk hj st pv hs q;have hlt:j+1 < n:=by omega
  refine codeAny_builtin F.entry_min_loop ?_;rw [Around.under_plainId F.plain_min_loop _];show wpAny _ A.in1 (seqItems? (.ref S) >>= _) _ _ s;refine wpAny_bind (wpAny_seqItems hs rfl ?_);refine wpAny_bind (wpAny_tryCatch ?_);refine W.item (j+1) s _ _ hlt st λv h' tk hv st' hk'=>?_;have hs':=hk' S _ (λz=>hS (W.sub _ z)) hs;show wpAny _ A.in1 (tryCatch (holding [v,v] (richCompare .Lt v vb >>= _)) _ >>= _) _ _ _;refine wpAny_bind (wpAny_tryCatch (wpAny_holding (wpAny_bind ?_)));refine C (j+1) (argBest bt j) v vb _ _ _ hv pv ?_;refine wpAny_bind (wpAny_holding (wpAny_truthy_bool ?_));refine wpAny_bind (wpAny_letGo (wpAny_pure ?_));have eb:argBest bt (j+1)=if bt (j+1) (argBest bt j)=true then j+1 else argBest bt j:=rfl
  cases hb:bt (j+1) (argBest bt j) with
  | true =>
   rw [hb,if_pos rfl] at eb;show wpAny _ A.in1 (updateSeq S _ >>= _) _ _ _;refine wpAny_bind (wpAny_updateSeq hs' rfl ?_);refine wpAny_bind (wpAny_letGo ?_);refine wpAny_pure ⟨plainId_quiet F.plain_min_loop _,?_⟩;have hs2:=get?_update_seq (c:="list") hs' (λ_=>#[v,v]);refine ih (j+1) _ v _ (by omega) (by omega) ?_ (by rw [eb];exact hv) hs2 λv2 h2 tk2 hv2 hk2=>?_
   ·refine W.frame (j+2) h' _ st' λb hb2 o e=>?_;rw [Heap.get?_update_ne _ _ _ _ (λz=>hS (by rw [<-z];exact hb2))];exact e
   ·refine q v2 h2 tk2 hv2 λb o hb2 hne e=>hk2 b o hb2 hne ?_;rw [Heap.get?_update_ne _ _ _ _ hne];exact hk' b o hb2 e
  | false =>
   rw [hb,if_neg (by decide)] at eb;show wpAny _ A.in1 (letGo _ _ >>= _) _ _ _;refine wpAny_bind (wpAny_letGo ?_);refine wpAny_pure ⟨plainId_quiet F.plain_min_loop _,?_⟩;exact ih (j+1) _ vb c (by omega) (by omega) st' (by rw [eb];exact pv) hs' λv2 h2 tk2 hv2 hk2=>q v2 h2 tk2 hv2 λb o hb2 hne e=>hk2 b o hb2 hne (hk' b o hb2 e)
theorem a7v (W:Walks prog w A.in1 I fp wr n P St) (bt:Nat->Nat->Bool) (C:CmpOf prog w A.in1 .Lt P bt) (S:Addr) (hS:S∉fp) (d:Value) {s:Shared} {c:Nat} (st:St 0 s.heap) (hs:s.heap.get? S=some { cls:=.type "list",data:=.seq #[] c })
  (q0:n=0->∀ (h':Heap) (tk:Nat),(∀ (b:Addr) (o:Obj),b∉wr->b≠S->s.heap.get? b=some o->h'.get? b=some o)->R (.ok (.ret d)) { s with heap:=h',toks:=tk })
  (q:0 < n->∀ (v:Value) (h':Heap) (tk:Nat),P (argBest bt (n - 1)) v->(∀ (b:Addr) (o:Obj),b∉wr->b≠S->s.heap.get? b=some o->h'.get? b=some o)->R (.ok (.ret v)) { s with heap:=h',toks:=tk }) :
  codeAny (model prog w) A (.builtin "min.loop" ⟨[.ref I,.none,.ref S],kwD d⟩) R s:=by
 refine codeAny_builtin F.entry_min_loop ?_;rw [Around.under_plainId F.plain_min_loop _];show wpAny _ A.in1 (seqItems? (.ref S) >>= _) _ _ s;refine wpAny_bind (wpAny_seqItems hs rfl ?_);refine wpAny_bind (wpAny_tryCatch ?_);by_cases n0:n=0
 ·subst n0;refine W.done s _ _ st λh' tk hk'=>?_;show wpAny _ A.in1 (rule _ >>= _) _ _ _;refine wpAny_bind (wpAny_rule (wpAny_pure ?_));exact q0 rfl h' tk λb o hb _ e=>hk' b o hb e
 ·have hlt:0 < n:=by omega
  refine W.item 0 s _ _ hlt st λv h' tk hv st' hk'=>?_;have hs':=hk' S _ (λz=>hS (W.sub _ z)) hs;show wpAny _ A.in1 (updateSeq S _ >>= _) _ _ _;refine wpAny_bind (wpAny_updateSeq hs' rfl ?_);refine wpAny_pure ⟨plainId_quiet F.plain_min_loop _,?_⟩;have hs2:=get?_update_seq (c:="list") hs' (λ_=>#[v,v]);refine b3o W bt C S hS d (n - 1) 0 _ v _ rfl hlt ?_ hv hs2 λv2 h2 tk2 hv2 hk2=>?_
  ·refine W.frame 1 h' _ st' λb hb2 o e=>?_;rw [Heap.get?_update_ne _ _ _ _ (λz=>hS (by rw [<-z];exact hb2))];exact e
  ·refine q hlt v2 h2 tk2 hv2 λb o hb2 hne e=>hk2 b o hb2 hne ?_;rw [Heap.get?_update_ne _ _ _ _ hne];exact hk' b o hb2 e
end
def rMinD (xs zs:List V) (H:Hp) (Q:VK):Prop:=∃ (a:Addr) (ns:List Int),xs=[.ref a]/\zs=[.non]/\H a=some (.lst (ns.map V.int))/\Q (if ns=[] then .non else .int ((srt ns).headD 0)) H
theorem a8y (a d:Value):argsOk "min" { pos:=[a],kw:=kwD d }:=rfl
theorem b0H {X:Cx} (hc:X.calm=true) {pins:List (Addr × Obj)} {s:Shared} {σ:St} {H:Hp} {vs zs:List V} {us ws:List Value} {Q:VK} (I:Inv X pins σ H s) (r:a0z vs us) (rz:a0z zs ws) (h:rMinD vs zs H Q) :
  wpAny (model X.prog X.w) X.A (call (.builtin "min") us (([Str.ofString "default"]:List Str).zip ws)) (EP X pins σ Q) X.xe s:=by
 obtain ⟨a,ns,rfl,rfl,e,q⟩:=h;obtain ⟨u,rfl,ru⟩:=a3t r;obtain ⟨d,rfl,rd⟩:=a3t rz;cases ru;cases rd;obtain ⟨_,its,n,rv,he⟩:=(show a0R X.prog X.w H s.heap a (.lst (ns.map V.int)) from I.hok a _ e)
 have hI:=a1X rv;have li:=a1t hI;have hlt:=Heap.lt_size he;show wpAny _ _ (call (.builtin "min") [.ref a] (kwD .none)) _ _ _;refine kmb_tree F.kind_min F.plain_min F.entry_min (a8y _ _) ?_;have eB:Builtin.Builtins.bindParams "min" ["key","default"] 0 { kw:=kwD .none }=pure [none,some .none]:=rfl;show wpAny _ X.A.in1 (Builtin.Builtins.bindParams "min" ["key","default"] 0 { kw:=kwD .none } >>= _) _ _ s;rw [eB];show wpAny _ X.A.in1 (pyIter (.ref a) >>= _) _ _ s;refine wpAny_bind (wpAny_pyIter_list (a2d he) ?_);refine wpAny_bind (wpAny_newList ?_ (Nat.zero_le _));refine wpAny_pure ⟨plainId_quiet F.plain_min_loop _,?_⟩;have sz:(s.heap.push { cls:=.type "list_iterator",data:=.fields #[.ref a,rawInt 0] }).objs.size=s.heap.objs.size+1:=Heap.size_push _ _;have hS:(s.heap.push { cls:=.type "list_iterator",data:=.fields #[.ref a,rawInt 0] }).objs.size∉[s.heap.objs.size,a]:=λz=>by
  rw [sz] at z;simp only [List.mem_cons,List.not_mem_nil,or_false] at z;rcases z with z | z
  ·exact absurd z (Nat.ne_of_gt (Nat.lt_succ_self _))
  ·rw [<-z] at hlt;exact absurd hlt (Nat.not_lt.mpr (Nat.le_succ _))
 have up:∀ b o,s.heap.get? b=some o->((s.heap.push { cls:=.type "list_iterator",data:=.fields #[.ref a,rawInt 0] }).push { cls:=.type "list",data:=.seq (([]:List Value).toArray) }).get? b=some o:=λb o eo=>Heap.get?_push_of_some _ (Heap.get?_push_of_some _ eo);have ne1:∀ b o,s.heap.get? b=some o->b∉[s.heap.objs.size]:=λb o eo z=>by
  rw [List.mem_singleton.mp z] at eo;exact absurd (Heap.lt_size eo) (Nat.lt_irrefl _)
 have ne2:∀ b o,s.heap.get? b=some o->b≠(s.heap.push { cls:=.type "list_iterator",data:=.fields #[.ref a,rawInt 0] }).objs.size:=λb o eo z=>by
  rw [sz] at z;rw [z] at eo;exact absurd (Heap.lt_size eo) (Nat.not_lt.mpr (Nat.le_succ _))
 refine a7v (A:=X.A) (c:=0) (Walks.list (A:=X.A.in1) (by show X.A.handled=none;exact I.ok.hd hc) s.heap.objs.size a (Nat.ne_of_lt hlt) its.toArray) (λi j=>decide (ns.getD i 0 < ns.getD j 0)) (CmpOf.ints_lt _ (λi v hv=>hI.int_at i v (by simpa using hv))) _ hS .none
  ⟨⟨_,Heap.get?_push_of_some _ (Heap.get?_push_size _ rfl),rfl,rfl⟩,a2d (up _ _ he)⟩ (Heap.get?_push_size _ rfl) (λn0 h' tk hk=>?_) (λn0 v h' tk hv hk=>?_)
 ·have e0:ns=[]:=List.length_eq_zero_iff.mp (by rw [<-li];rw [List.size_toArray] at n0;exact n0);rw [if_pos e0] at q;exact ⟨.non,H,I.kept (h':=h') (t':=tk) (λb o eo=>hk b o (ne1 b o eo) (ne2 b o eo) (up b o eo)),rfl,q⟩
 ·have e0:ns≠[]:=λz=>by
   rw [z] at li;rw [List.size_toArray] at n0;simp at li;rw [li] at n0;simp at n0
  rw [if_neg e0] at q;obtain ⟨t,rfl⟩:=b3n hI e0 hv;exact ⟨.int _,H,I.kept (h':=h') (t':=tk) (λb o eo=>hk b o (ne1 b o eo) (ne2 b o eo) (up b o eo)),⟨t,rfl⟩,q⟩
def tMinD (t tk:TA):TE:=λσ H Q=>t σ H λvs H1=>tk σ H1 λzs H2=>rMinD vs zs H2 Q
theorem b3p {X:Cx} {e e2:Expr} {p pos kpos:Pos} {t tk:TA} (hc:X.calm=true) (hg:Gl X "min") (hm:X.mg "min"=none) (ha:PA X [e] t) (hk:PK X [⟨some "default",e2,kpos⟩] tk) (h1:backTo pos (starEach [e] X.env)=(false,eval e X.env) :: backTo pos (starEach [] X.env):=by rfl)
  (h2:((backTo pos (starEach [e] X.env)).any (·.1))=false:=by rfl) (h3:(backToKw pos (keywordEach [⟨some "default",e2,kpos⟩] X.env)).all (·.1.isSome)=true:=by rfl) (h4:(backToKw pos (keywordEach [⟨some "default",e2,kpos⟩] X.env)).any (·.1.isNone)=false:=by rfl) (h5:(backToKw pos (keywordEach [⟨some "default",e2,kpos⟩] X.env)).filterMap (·.1)=[Str.ofString "default"]:=by rfl) :
  PE X (.Call (.Name "min" p) [e] [⟨some "default",e2,kpos⟩] pos) (tMinD t tk):=by
 intro pins s σ H Q I h;refine wpAny_Call_Name_kw (a2B I hg hm b_min' ?_);refine callWith_kw (thn (ha pos pins s σ H _ I h) λus s1 ⟨vs,H1,I1,r,q⟩=>?_) h1 h2 h3 h4;refine thn (hk pos pins s1 σ H1 _ I1 q) λws s2 ⟨zs,H2,I2,rz,q2⟩=>?_;rw [h5];exact b0H hc I2 r rz q2
def Itr3 (lo st:Int) (n:Nat):It:=⟨λi _=>i < n,λi H x H'=>H'=H/\x=.int (lo+i * st),λi _=>n<=i⟩
theorem a5R {P:Program} {w:World} {K:PySem.W.Frag} {tg:Expr} (it:Addr) (lo st:Int) (n:Nat):b4z P w K tg (Itr3 lo st n) [it] it (λi h=>IsRangeIter h it (lo+(i:Nat) * st) ((n:Int) - (i:Nat)) st) where
 mem:=by simp
 obj:=λi h st b hb=>by
  have e:b=it:=by simpa using hb
  subst e;exact ⟨_,st,λv z=>by
   have z':Data.fields _=Data.cell v:=z;cases z'⟩
 keep:=λi h h' st k=>k it (by simp) _ st
 item:=by
  intro X hP hw hK hc i pins s σ H E I hf st0 hg;subst hP hw hK;obtain ⟨f0,f1,f2,f3,f4,f5⟩:=hf it (by simp);have W:=Walks.range (prog:=X.prog) (w:=X.w) (I.ok.hd hc) it lo st n;refine W.item i s _ _ hg st0 λv h' tk hv st' kk=>?_;obtain ⟨t,rfl⟩:=hv;have I1:Inv X pins σ H { s with heap:=h',toks:=tk }:=I.turned (λb o hb e=>kk b o (by simpa using hb) e) f0 f1 f3 f4 f5;exact ⟨_,rfl,b0g (s:={ s with heap:=h',toks:=tk }) (n:="range_iterator") st' rfl rfl (by decide) ⟨.int (lo+i * st),H,I1,⟨t,rfl⟩,⟨rfl,rfl⟩,st',λb hb=>(hf b hb).1⟩⟩
 done:=by
  intro X hP hw hK hc i pins s σ H E I hf st0 hg;subst hP hw hK;obtain ⟨f0,f1,f2,f3,f4,f5⟩:=hf it (by simp);exact wpAny_pyNext_range_end (I.ok.hd hc) st0 (by have:n<=i:=hg;omega) λh' eb=>⟨rfl,I.turned (t':=s.toks) (λb o hb e=>eb b o hb e) f0 f1 f3 f4 f5⟩
 self:=λ_ _ _ _ _ st h=>wpAny_pyIter_rangeiter st h
theorem a2x {lo st:Int} {n:Nat} {g:TG} {tb:TS} {D:a9Z} {σ:St} {H:Hp} (Pv:Nat->St->Hp->Prop) (h0:Pv 0 σ H) (hs:∀ i σ H,i < n->Pv i σ H->g (.int (lo+i * st)) σ H λσ2 H2=>tb { D with nx:=Pv (i+1),ct:=Pv (i+1),bk:=D.nx } σ2 H2) (hd:∀ σ H,Pv n σ H->D.nx σ H) :
  ∃ W:Nat->Nat->St->Hp->Prop,(∃ m,W 0 m σ H)/\∀ i m σ H,W i m σ H ->
   ((Itr3 lo st n).stop i H/\D.nx σ H)\/((Itr3 lo st n).go i H/\∃ N:St->Hp->Prop,(∀ σ' H',N σ' H'->∃ m',m' < m/\W (i+1) m' σ' H')/\∀ x H',(Itr3 lo st n).yld i H x H'->g x σ H' λσ2 H2=>tb { D with nx:=N,ct:=N,bk:=D.nx } σ2 H2):=by
 refine ⟨λi m σ H=>m=n - i/\i<=n/\Pv i σ H,⟨n,by simp,Nat.zero_le _,h0⟩,?_⟩;rintro i m σ H ⟨rfl,hi,p⟩;by_cases hlt:i < n
 ·refine .inr ⟨hlt,Pv (i+1),λσ' H' q=>⟨n - (i+1),by omega,rfl,by omega,q⟩,?_⟩;rintro v H' ⟨rfl,rfl⟩;exact hs i σ _ hlt p
 ·have e:i=n:=by omega
  subst e;exact .inl ⟨Nat.le_refl _,hd σ H p⟩
theorem smallD {a:Int} (h1:-1<=a) (h2:a < 1000000):Builtin.Range.small a (-1) (-1)=true/\Builtin.Range.rangeSize a (-1) (-1)=a+1:=by
 have z:Builtin.Range.rangeSize a (-1) (-1)=a+1:=by
  unfold Builtin.Range.rangeSize;rw [if_neg (by decide)];have e1:(a - -1 - 1) / - -1=a:=by
   rw [show (- -1:Int)=1 from rfl,Int.ediv_one];omega
  split
  ·rw [e1]
  ·omega
 refine ⟨?_,z⟩;have f:∀ i:Int,-2<=i->i<=1000000->Builtin.Range.rangeFitsLong i=true:=λi h3 h4=>by
  unfold Builtin.Range.rangeFitsLong;rw [Bool.and_eq_true,decide_eq_true_eq,decide_eq_true_eq];omega
 unfold Builtin.Range.small;rw [z,f a (by omega) (by omega),f (-1) (by omega) (by omega),f (a+1) (by omega) (by omega),if_neg (by decide),f (-1+(-1+1)) (by omega) (by omega)];simp
def iRngD (ta:TA):TI:=λσ H R=>ta σ H λvs H1=>∃ a:Int,vs=[.int a,.int (-1),.int (-1)]/\(-1<=a/\a < 1000000)/\R (Itr3 a (-1) (a+1).toNat) H1
theorem a3f {X:Cx} {tg:Expr} {a b c:Expr} {ta:TA} {p pos:Pos} (hg:Gl X "range") (hm:X.mg "range"=none) (ha:PA X [a,b,c] ta) (hs:starEach [a,b,c] X.env=(false,eval a X.env) :: starEach [b,c] X.env:=by rfl) (hs2:(backTo pos (starEach [b,c] X.env)).any (·.1)=false:=by rfl) :
  PI X tg (.Call (.Name "range" p) [a,b,c] [] pos) (iRngD ta):=by
 intro pins s σ H R I h;refine Call_ (a2B I hg hm boot_range (PyProof.Rows.callWith_type1 (thn (ha pos pins s σ H _ I h) λus s1 ⟨vs,H1,I1,r1,q1⟩=>?_) hs hs2));obtain ⟨i,e,⟨h1,h2⟩,q⟩:=q1;subst e;cases r1 with
 | cons r rr =>
  cases rr with
  | cons r' rr =>
   cases rr with
   | cons r'' rr =>
    cases rr;obtain ⟨t,rfl⟩:=r;obtain ⟨t',rfl⟩:=r';obtain ⟨t'',rfl⟩:=r'';obtain ⟨sm,z0⟩:=smallD h1 h2;refine call_range_3 (by decide) ?_ (.inl (PyProof.noPylong_small (by decide)));refine wpAny_pyIter_range (IsRange.new ..) sm ?_;have I2:Inv X pins σ H1 { s1 with heap:=s1.heap.push { cls:=.type "range",data:=.fields #[.int i t,.int (-1) t',.int (-1) t''] },toks:=s1.toks }:=I1.kept λb o e=>Heap.get?_push_of_some _ e;refine ⟨_,[_],_,_,H1,rfl,I2.kept (t':=s1.toks) λb o e=>Heap.get?_push_of_some _ e,a5R _ i (-1) (i+1).toNat,?_,λb hb=>?_,q⟩
    ·have e1:i+((0:Nat):Int) * (-1)=i:=by simp
     have e2:((((i+1).toNat:Nat):Int)) - ((0:Nat):Int)=Builtin.Range.rangeSize i (-1) (-1):=by rw [z0];omega
     show IsRangeIter _ _ (i+((0:Nat):Int) * (-1)) ((((i+1).toNat:Nat):Int) - ((0:Nat):Int)) (-1);rw [e1,e2];exact Heap.get?_push_size _ rfl
    ·have e:=List.mem_singleton.mp hb;subst e;exact I2.fpOk (Nat.le_refl _) (I2.hok.fresh (Nat.le_refl _))
end L2
set_option exponentiation.threshold 2000
namespace K56
open PySem L2
abbrev OI:=Option Int
def lo (xs:List OI):OI:=if xs.filterMap id=[] then none else some ((srt (xs.filterMap id)).headD 0)
def oadd:OI->OI->OI
 | some a,some b=>some (a+b)
 | _,_=>none
theorem a3g {xs:List OI} {k:Int}:k∈xs.filterMap id↔some k∈xs:=by
 rw [List.mem_filterMap];constructor
 ·rintro ⟨a,h,e⟩;have e':a=some k:=e;rw [<-e'];exact h
 ·intro h;exact ⟨some k,h,rfl⟩
theorem a8z {ns:List Int} (h:ns≠[]):(srt ns).headD 0∈ns/\∀ x∈ns,(srt ns).headD 0<=x:=by
 have p:=a2L ns;have r:=a3e ns;cases e:srt ns with
 | nil =>
  rw [e] at p;exact absurd p.symm.eq_nil h
 | cons a t =>
  rw [e] at p r;refine ⟨p.mem_iff.mp (.head _),λx hx=>?_⟩;show a<=x;rcases List.mem_cons.mp (p.symm.mem_iff.mp hx) with z | z
  ·rw [z];exact Int.le_refl _
  ·exact (List.pairwise_cons.mp r).1 x z
theorem a1a {xs:List OI} {m:Int}:lo xs=some m↔some m∈xs/\∀ k,some k∈xs->m<=k:=by
 unfold lo;split
 ·rename_i h;constructor
  ·intro z;cases z
  ·rintro ⟨z,_⟩;have:=a3g.mpr z;rw [h] at this;cases this
 ·rename_i h;obtain ⟨h1,h2⟩:=a8z h;constructor
  ·intro z;cases z;exact ⟨a3g.mp h1,λk hk=>h2 k (a3g.mpr hk)⟩
  ·rintro ⟨z1,z2⟩;have a1:=h2 m (a3g.mpr z1);have a2:=z2 _ (a3g.mp h1);congr 1;omega
theorem a1C {xs:List OI}:lo xs=none↔∀ k,some k∉xs:=by
 unfold lo;split
 ·rename_i h;refine ⟨λ_ k hk=>?_,λ_=>rfl⟩;have:=a3g.mpr hk;rw [h] at this;cases this
 ·rename_i h;refine ⟨λz=>(by cases z),λz=>?_⟩;exact absurd (a3g.mp (a8z h).1) (z _)
theorem b3q {xs ys:List OI} (h1:∀ m,some m∈xs->∃ k,k<=m/\some k∈ys) (h2:∀ m,some m∈ys->∃ k,k<=m/\some k∈xs):lo xs=lo ys:=by
 cases e:lo ys with
 | none =>
  rw [a1C] at e ⊢;intro k hk;obtain ⟨k',_,h⟩:=h1 k hk;exact e k' h
 | some m =>
  rw [a1a] at e ⊢;obtain ⟨k,hk,hm⟩:=h2 m e.1;obtain ⟨k',hk',hm'⟩:=h1 k hm;have:=e.2 k' hm';have ek:k=m:=by omega
  subst ek;refine ⟨hm,λx hx=>?_⟩;obtain ⟨y,hy,hy'⟩:=h1 x hx;have:=e.2 y hy';omega
theorem b0I {xs:List OI} {k:Int} (h:some k∈xs):∃ m,lo xs=some m/\m<=k:=by
 cases e:lo xs with
 | none=>exact absurd h (a1C.mp e k)
 | some m=>exact ⟨m,rfl,(a1a.mp e).2 k h⟩
theorem a5f (xs ys:List OI):lo (xs++ys)=lo [lo xs,lo ys]:=by
 refine b3q (λm hm=>?_) (λm hm=>?_)
 ·rcases List.mem_append.mp hm with h | h
  ·obtain ⟨k,e,hk⟩:=b0I h;exact ⟨k,hk,by rw [e];exact .head _⟩
  ·obtain ⟨k,e,hk⟩:=b0I h;exact ⟨k,hk,by rw [e];exact .tail _ (.head _)⟩
 ·simp only [List.mem_cons,List.not_mem_nil,or_false] at hm;rcases hm with h | h
  ·exact ⟨m,Int.le_refl _,List.mem_append.mpr (.inl (a1a.mp h.symm).1)⟩
  ·exact ⟨m,Int.le_refl _,List.mem_append.mpr (.inr (a1a.mp h.symm).1)⟩
theorem a3h {α:Type} (xs:List α) (f:α->List OI):lo (xs.flatMap f)=lo (xs.map λx=>lo (f x)):=by
 refine b3q (λm hm=>?_) (λm hm=>?_)
 ·obtain ⟨x,hx,h⟩:=List.mem_flatMap.mp hm;obtain ⟨k,e,hk⟩:=b0I h;exact ⟨k,hk,List.mem_map.mpr ⟨x,hx,e⟩⟩
 ·obtain ⟨x,hx,h⟩:=List.mem_map.mp hm;exact ⟨m,Int.le_refl _,List.mem_flatMap.mpr ⟨x,hx,(a1a.mp h).1⟩⟩
theorem lo_add (a:Int) (xs:List OI):oadd (some a) (lo xs)=lo (xs.map (oadd (some a))):=by
 cases e:lo xs with
 | none =>
  symm
  show lo _=none;rw [a1C] at e ⊢;intro k hk;obtain ⟨x,hx,h⟩:=List.mem_map.mp hk;cases x with
  | none=>cases h
  | some y=>exact e y hx
 | some m =>
  symm
  show lo _=some (a+m);rw [a1a] at e ⊢;refine ⟨List.mem_map.mpr ⟨some m,e.1,rfl⟩,λk hk=>?_⟩;obtain ⟨x,hx,h⟩:=List.mem_map.mp hk;cases x with
  | none=>cases h
  | some y =>
   have:=e.2 y hx;cases h;omega
theorem a8A (x:OI) (xs:List OI):oadd x (lo xs)=lo (xs.map (oadd x)):=by
 cases x with
 | some a=>exact lo_add a xs
 | none =>
  symm
  show lo _=none;rw [a1C];intro k hk;obtain ⟨x,hx,h⟩:=List.mem_map.mp hk;cases h
theorem b1Y (x:OI):lo [x]=x:=by
 cases x with
 | none=>exact a1C.mpr λk hk=>by simp at hk
 | some m=>exact a1a.mpr ⟨.head _,λk hk=>by simp at hk;omega⟩
theorem a3K:lo []=none:=a1C.mpr λk hk=>by cases hk
abbrev Pa:=List (Nat × Nat × Nat)
def PaL:Nat->Nat->Nat->Nat->List Pa
 | 0,_,i,j=>if i=j then [[]] else []
 | m+1,l,i,j=>if i=j then [[]] else ((List.range (j - i)).flatMap λb=>(PaL m (l+1) (i+b+1) j).map λr=>(i,i+b+1,l) :: r)++PaL m (l+1) i j
theorem b1Z (m l i j:Nat):PaL (m+1) l i j=if i=j then [[]] else ((List.range (j - i)).flatMap λb=>(PaL m (l+1) (i+b+1) j).map λr=>(i,i+b+1,l) :: r)++PaL m (l+1) i j:=rfl
theorem a6B (m l i:Nat):PaL m l i i=[[]]:=by
 cases m <;> (unfold PaL;rw [if_pos rfl])
section
variable (p:Nat->Int) (W:Nat->Nat->Int) (F:Nat->Nat->OI)
def part (q:Nat × Nat × Nat):OI:=oadd (some (p q.2.2 * W q.1 q.2.1)) (F q.1 q.2.1)
def cost:Pa->OI
 | []=>some 0
 | q :: r=>oadd (part p W F q) (cost r)
structure Eqs (L:Nat) (h t:Nat->Nat->Nat->OI) (i j:Nat):Prop where
 eh:∀ l,l < L->h l i j=oadd (some (p l * W i j)) (F i j)
 et:∀ l,l < L->t l i j=lo [lo ((List.range (j - i)).map λb=>oadd (h l i (i+b+1)) (t (l+1) (i+b+1) j)),t (l+1) i j]
variable {p W F} {L n:Nat} {h t:Nat->Nat->Nat->OI}
theorem a3i {i0:Nat} (dg:∀ l i,l<=L->i<=n->t l i i=some 0) (ed:∀ i j,i < j->j<=n->t L i j=none) (eq:∀ i j,i0<=i->i < j->j<=n->Eqs p W F L h t i j) :
  ∀ m l i j,l+m=L->i0<=i->i<=j->j<=n->t l i j=lo ((PaL m l i j).map λr=>cost p W F r)
 | 0,l,i,j,hl,h0,hij,hj=>by
  have el:l=L:=by omega
  subst el;by_cases e:i=j
  ·subst e;rw [dg l i (Nat.le_refl _) hj,a6B];exact (b1Y _).symm
  ·rw [ed i j (by omega) hj];unfold PaL;rw [if_neg e];exact a3K.symm
 | m+1,l,i,j,hl,h0,hij,hj=>by
  by_cases e:i=j
  ·subst e;rw [dg l i (by omega) hj,a6B];exact (b1Y _).symm
  ·have E:=eq i j h0 (by omega) hj;rw [E.et l (by omega)];unfold PaL;rw [if_neg e,List.map_append,a5f,<-a3i dg ed eq m (l+1) i j (by omega) h0 hij hj];congr 2;rw [List.map_flatMap,a3h];congr 1;refine List.map_congr_left λb hb=>?_;have hb':=List.mem_range.mp hb;rw [(eq i (i+b+1) h0 (by omega) (by omega)).eh l (by omega),a3i dg ed eq m (l+1) (i+b+1) j (by omega) (by omega) (by omega) hj,a8A,List.map_map,List.map_map];congr 1
def bnd (L:Nat) (h t:Nat->Nat->Nat->OI) (i j:Nat):OI:=if j - i=1 then some 0 else lo ((List.range L).map λl=>lo ((List.range (j - 1 - i)).map λb=>oadd (h l i (i+b+1)) (t (l+1) (i+b+1) j)))
theorem P_ne {m l i j:Nat} (hij:i < j):∀ r∈PaL m l i j,r≠[]:=by
 induction m generalizing l i with
 | zero =>
  intro r hr;unfold PaL at hr;rw [if_neg (by omega)] at hr;cases hr
 | succ m ih =>
  intro r hr;unfold PaL at hr;rw [if_neg (by omega)] at hr;rcases List.mem_append.mp hr with z | z
  ·obtain ⟨b,_,z⟩:=List.mem_flatMap.mp z;obtain ⟨r',_,rfl⟩:=List.mem_map.mp z;intro y;cases y
  ·exact ih hij r z
theorem P_some {m l i j:Nat} (hij:i < j):PaL (m+1) l i j≠[]:=by
 unfold PaL;rw [if_neg (by omega)];intro z;have z1:=(List.append_eq_nil_iff.mp z).1;have:(i,i+(j - i - 1)+1,l) :: []∈(List.range (j - i)).flatMap λb=>(PaL m (l+1) (i+b+1) j).map λr=>(i,i+b+1,l) :: r:=by
  refine List.mem_flatMap.mpr ⟨j - i - 1,List.mem_range.mpr (by omega),List.mem_map.mpr ⟨[],?_,rfl⟩⟩;rw [show i+(j - i - 1)+1=j by omega,a6B];exact .head _
 rw [z1] at this;cases this
theorem a6C {i j:Nat} (hij:i < j):∀ m l,(PaL m l i j).filter (λr=>decide (1 < r.length))=(List.range m).flatMap λa=>(List.range (j - 1 - i)).flatMap λb=>(PaL (m - 1 - a) (l+a+1) (i+b+1) j).map λr=>(i,i+b+1,l+a) :: r
 | 0,l=>by
  unfold PaL;rw [if_neg (by omega)];rfl
 | m+1,l=>by
  have ih:=a6C hij m (l+1);rw [b1Z m l i j,if_neg (by omega),List.filter_append,ih,List.range_succ_eq_map,List.flatMap_cons,List.flatMap_map];congr 1
  ·rw [show j - i=(j - 1 - i)+1 by omega,List.range_succ,List.flatMap_append,List.filter_append];have e2:([j - 1 - i].flatMap λb=>(PaL m (l+1) (i+b+1) j).map λr=>(i,i+b+1,l) :: r).filter (λr=>decide (1 < r.length))=[]:=by
    rw [List.flatMap_cons,List.flatMap_nil,List.append_nil,show i+(j - 1 - i)+1=j by omega,a6B];rfl
   rw [e2,List.append_nil,List.filter_eq_self.mpr]
   ·rfl
   ·intro r hr;obtain ⟨b,hb,z⟩:=List.mem_flatMap.mp hr;obtain ⟨r',hr',rfl⟩:=List.mem_map.mp z;have hb':=List.mem_range.mp hb;have:=P_ne (by omega) r' hr';rw [decide_eq_true_eq,List.length_cons];have:=List.length_pos_iff.mpr this;omega
  ·refine congrArg (λf=>(List.range m).flatMap f) (funext λa=>?_);show _=(List.range (j - 1 - i)).flatMap λb=>(PaL (m+1 - 1 - (a+1)) (l+(a+1)+1) (i+b+1) j).map λr=>(i,i+b+1,l+(a+1)) :: r;rw [show m+1 - 1 - (a+1)=m - 1 - a by omega,show l+(a+1)=l+1+a by omega]
theorem b0J {i j:Nat} (dg:∀ l i,l<=L->i<=n->t l i i=some 0) (ed:∀ i j,i < j->j<=n->t L i j=none) (hh:∀ l c,l < L->i < c->c < j->h l i c=oadd (some (p l * W i c)) (F i c)) (eq:∀ a b,i+1<=a->a < b->b<=n->Eqs p W F L h t a b) (hij:i+1 < j) (hj:j<=n) :
  bnd L h t i j=lo (((PaL L 0 i j).filter λr=>decide (1 < r.length)).map λr=>cost p W F r):=by
 unfold bnd;rw [if_neg (by omega),a6C (by omega),List.map_flatMap,a3h];congr 1;refine List.map_congr_left λl hl=>?_;have hl':=List.mem_range.mp hl;rw [List.map_flatMap,a3h];congr 1;refine List.map_congr_left λb hb=>?_;have hb':=List.mem_range.mp hb;rw [hh l (i+b+1) hl' (by omega) (by omega),a3i dg ed eq (L - 1 - l) (l+1) (i+b+1) j (by omega) (by omega) (by omega) hj,a8A,List.map_map,List.map_map,Nat.zero_add];congr 1
theorem b3r {L i j:Nat} (hL:2<=L) (hij:i+1 < j):(PaL L 0 i j).filter (λr=>decide (1 < r.length))≠[]:=by
 rw [a6C (by omega)];obtain ⟨L,rfl⟩:∃ K,L=K+2:=⟨L - 2,by omega⟩
 intro z;have h1:PaL (L+1) 1 (i+1) j≠[]:=P_some (by omega);obtain ⟨r,hr⟩:=List.exists_mem_of_ne_nil _ h1;have:(i,i+0+1,0) :: r∈(List.range (L+2)).flatMap λa=>(List.range (j - 1 - i)).flatMap λb=>(PaL (L+2 - 1 - a) (0+a+1) (i+b+1) j).map λr=>(i,i+b+1,0+a) :: r:=by
  refine List.mem_flatMap.mpr ⟨0,List.mem_range.mpr (by omega),List.mem_flatMap.mpr ⟨0,List.mem_range.mpr (by omega),List.mem_map.mpr ⟨r,?_,rfl⟩⟩⟩;exact hr
 rw [z] at this;cases this
end
theorem P_in:∀ m l i j,i<=j->∀ r∈PaL m l i j,∀ q∈r,i<=q.1/\q.1 < q.2.1/\q.2.1<=j/\l<=q.2.2/\q.2.2 < l+m
 | 0,l,i,j,h,r,hr,q,hq=>by
  unfold PaL at hr;split at hr
  ·rw [List.mem_singleton.mp hr] at hq;cases hq
  ·cases hr
 | m+1,l,i,j,h,r,hr,q,hq=>by
  rw [b1Z] at hr;split at hr
  ·rw [List.mem_singleton.mp hr] at hq;cases hq
  ·rcases List.mem_append.mp hr with z | z
   ·obtain ⟨b,hb,z⟩:=List.mem_flatMap.mp z;have hb':=List.mem_range.mp hb;obtain ⟨r',hr',rfl⟩:=List.mem_map.mp z;rcases List.mem_cons.mp hq with y | y
    ·rw [y];exact ⟨Nat.le_refl _,by show i < i+b+1;omega,by show i+b+1<=j;omega,Nat.le_refl _,by show l < l+(m+1);omega⟩
    ·have:=P_in m (l+1) (i+b+1) j (by omega) r' hr' q y;omega
   ·have:=P_in m (l+1) i j h r z q hq;omega
theorem b3s {L i j:Nat} (hij:i < j):∀ r∈(PaL L 0 i j).filter (λr=>decide (1 < r.length)),∀ q∈r,i<=q.1/\q.1 < q.2.1/\q.2.1<=j/\q.2.1 - q.1 < j - i/\q.2.2 < L:=λr hr q hq=>by
 have hP:=P_in L 0 i j (by omega) r (List.mem_filter.mp hr).1 q hq;rw [a6C hij] at hr;obtain ⟨a,ha,z⟩:=List.mem_flatMap.mp hr;obtain ⟨b,hb,z⟩:=List.mem_flatMap.mp z;have hb':=List.mem_range.mp hb;obtain ⟨r',hr',rfl⟩:=List.mem_map.mp z;rcases List.mem_cons.mp hq with y | y
 ·rw [y] at hP ⊢;exact ⟨Nat.le_refl _,by show i < i+b+1;omega,by show i+b+1<=j;omega,by show i+b+1 - i < j - i;omega,by have:=hP.2.2.2.2;omega⟩
 ·have:=P_in _ _ _ j (by omega) r' hr' q y;omega
end K56
set_option exponentiation.threshold 2000
namespace K56
open PySem L2
def top (i:Nat):Stmt:=PySem.Challenge.pw_lettertoll_k56_whole_numbered_there_and.main.body.getD i (.Pass ⟨0,0,0,0⟩)
def a8B (n:Nat):Stmt->Stmt
 | .ClassDef _ _ _ b ..=>b.getD n (.Pass ⟨0,0,0,0⟩)
 | s=>s
abbrev b3t:Stmt:=top 7
abbrev sRow:Stmt:=top 8
abbrev a4h:Stmt:=top 9
abbrev a6D:Stmt:=top 10
abbrev a8C:Stmt:=top 11
abbrev sPl:Stmt:=top 13
abbrev sPw:Stmt:=top 14
abbrev a6E:Stmt:=top 16
abbrev a4i:Stmt:=top 17
abbrev a5S:Stmt:=top 18
abbrev b3u:Stmt:=top 21
abbrev a8D:Stmt:=top 23
abbrev a6F:Stmt:=top 24
abbrev a5T:Stmt:=top 25
abbrev a6G:Stmt:=top 26
abbrev sLf:Stmt:=top 28
abbrev sCk:Stmt:=top 29
abbrev sKw:Stmt:=top 30
abbrev sIck:Stmt:=top 31
abbrev sNum:Stmt:=top 33
abbrev sWb:Stmt:=top 34
abbrev sTw:Stmt:=top 35
abbrev sNo:Stmt:=top 36
abbrev sNw:Stmt:=top 37
abbrev sNt:Stmt:=top 38
abbrev sWo:Stmt:=top 39
abbrev b3v:Stmt:=top 41
abbrev a5U:Stmt:=top 42
abbrev a4j:Stmt:=top 43
abbrev a2F:Stmt:=top 44
abbrev a8E:Stmt:=top 45
abbrev a4k:Stmt:=top 46
abbrev a4l:Stmt:=top 47
abbrev b0K:Stmt:=top 48
abbrev a7w:Stmt:=top 49
abbrev a8F:Stmt:=top 50
abbrev a8G:Stmt:=top 51
abbrev b0b:Stmt:=top 52
abbrev a3j:Stmt:=a8B 0 (top 12)
abbrev sPut:Stmt:=a8B 1 (top 12)
abbrev sLs:Stmt:=a8B 2 (top 12)
abbrev a6H:Stmt:=a8B 3 (top 12)
abbrev b0L:Stmt:=a8B 4 (top 12)
abbrev a4m:Stmt:=a8B 5 (top 12)
abbrev b3w:Stmt:=a8B 6 (top 12)
abbrev a4n:Stmt:=a8B 0 (top 20)
abbrev b3x:Stmt:=a8B 1 (top 20)
abbrev b0M:Stmt:=a8B 2 (top 20)
abbrev sBy:Stmt:=a8B 3 (top 20)
def oV:OI->V
 | none=>.non
 | some i=>.int i
variable {P:Program} {w:World} {K:PySem.W.Frag} {mg:Str->Option Value} {base:Heap} {f:Addr} {fd:FuncData}
def sums (ws:List Int) (k:Nat):List Int:=(List.range (k+1)).map λi=>(ws.take i).sum
def b2a:Sp:=λvs H Q _=>∃ (q:Addr) (ws:List Int),vs=[.ref q]/\TW H q ws/\ws.length<=100/\∀ (p:Addr) H',a0p H H'->H p=none->H' p=some (.lst ((sums ws ws.length).map V.int))->Q (.ref p) H'
theorem a8H:a0k ["weights","sums","weight"] ["weights"] (a0g b3t):=fsk
theorem a8I {ws:List Int} {k:Nat}:sums ws (k+1)=sums ws k++[(ws.take (k+1)).sum]:=by
 unfold sums;rw [List.range_succ (n:=k+1),List.map_append];rfl
theorem a8J {ws:List Int} {k:Nat}:∃ xs,sums ws k=xs++[(ws.take k).sum]:=by
 unfold sums;rw [List.range_succ,List.map_append];exact ⟨_,rfl⟩
theorem b0N {ws:List Int} {k:Nat}:(sums ws k).length=k+1:=by unfold sums;rw [List.length_map,List.length_range]
theorem b3y (F:Fun K "weight_sums" "weight_sums" b3t f fd):a0M P w K mg base CX0 1 f fd ["weights"] b2a:=by
 refine F.ok (k:=0) a8H (λvs H Q E h=>?_) (λcdv A outer s H vs Q E hr h=>?_)
 ·obtain ⟨q,ws,rfl,_⟩:=h;rfl
 obtain ⟨q,ws,rfl,hq,l1,qq⟩:=h;refine ⟨_,a0c (psA (i:=1) a8H (a0X (a0a a0e a0d)))
  (a0c (a1n PassesOwn.never rfl (b1J (pv 0)) (pgA (i:=2) a8H)
   (a0h (a1h (a3w PySem.F.plainAttrs_list PySem.F.slot_list_append PySem.F.type_list_append a1f (pv 1) (a0a (a0l a0t (pxA a0j (pv 1) (a2r a1w a0e)) (pv 2)) a0d)))))
  (a0h (a0o (pv 1)))),?_⟩
 refine ⟨(by show 1<=sizeLine;decide),λl hl=>?_⟩;have s1:=a0f hl (.lst [.int 0]);have g1:upd H l (.lst [.int 0]) l=some (.lst ((sums ws 0).map V.int)):=a0b;generalize upd H l (.lst [.int 0])=H1 at s1 g1 ⊢;refine ⟨_,rfl,q,rfl,⟨_,SqT.of (s1 _ _ hq)⟩,?_⟩;refine b2K (xs:=ws.map V.int) (λi σ H'=>a0p H H'/\H' l=some (.lst ((sums ws i).map V.int))/\∃ x2:Option V,σ=[some (.ref q),some (.ref l),x2]) ⟨s1,g1,_,rfl⟩ (λi σ H' _ hP=>SqT.of (hP.1 _ _ hq)) (λi x σ H2 hx hP=>?_) (λσ H2 hP=>?_)
 ·obtain ⟨s2,g2,x2,rfl⟩:=hP;have il:=(List.getElem?_eq_some_iff.mp hx).1;rw [List.length_map] at il;rw [List.getElem?_map] at hx;obtain ⟨z,hz,rfl⟩:=Option.map_eq_some_iff.mp hx;obtain ⟨xs,ex⟩:=a8J (ws:=ws) (k:=i);refine ⟨_,rfl,.inl ⟨rfl,_,SqL.of g2⟩,_,rfl,_,rfl,l,_,_,_,rfl,rfl,SqL.of g2,(by rw [ex,List.map_append];exact a1V _ _),_,rfl,_,_,rfl,rfl,l,_,_,rfl,rfl,g2,a0m (by rw [List.length_map,b0N];omega),a0n hl s2,?_,_,rfl⟩;rw [a0b,a8I,List.map_append,List.take_add_one,hz];simp
 ·obtain ⟨s2,g2,x2,rfl⟩:=hP;rw [List.length_map] at g2;exact ⟨_,rfl,qq l H2 s2 hl g2⟩
def b2b (s i:Nat) (o:OI):List V:=(List.range s).map λj=>oV (if j=i then o else none)
theorem b3z {s i:Nat} {o:OI}:(List.replicate s V.non).set i (oV o)=b2b s i o:=by
 refine List.ext_getElem? λj=>?_;unfold b2b;rw [List.getElem?_map];by_cases hj:j < s
 ·rw [List.getElem?_range hj];by_cases e:i=j
  ·subst e;rw [List.getElem?_set_self (by rw [List.length_replicate];exact hj)];simp
  ·rw [List.getElem?_set_ne e,List.getElem?_replicate,if_pos hj];show some V.non=some (oV (if j=i then o else none));rw [if_neg (λz=>e z.symm)];rfl
 ·rw [List.getElem?_eq_none (by rw [List.length_set,List.length_replicate];omega),List.getElem?_eq_none (by rw [List.length_range];omega)];rfl
theorem b0O (n:Nat):(List.replicate n [V.non]).flatten=List.replicate n V.non:=by
 induction n with
 | zero=>rfl
 | succ n ih=>rw [List.replicate_succ,List.flatten_cons,ih,List.replicate_succ];rfl
def spRow:Sp:=λvs H Q _=>∃ (s i:Nat) (o:OI),vs=[.int (s:Int),.int (i:Int),oV o]/\i < s/\s<=100/\∀ (p:Addr) H',a0p H H'->H p=none->H' p=some (.lst (b2b s i o))->Q (.ref p) H'
theorem scRow:a0k ["side","at","number","row"] ["side","at","number"] (a0g sRow):=fsk
theorem a3k {n j:Nat} (h:j < n):ixN n (j:Int)=some j:=by
 unfold ixN;rw [if_pos (by omega),if_pos (by omega)];rfl
theorem ok_row (F:Fun K "row_with" "row_with" sRow f fd):a0M P w K mg base CX0 1 f fd ["side","at","number"] spRow:=by
 refine F.ok (k:=0) scRow (λvs H Q E h=>?_) (λcdv A outer s H vs Q E hr h=>?_)
 ·obtain ⟨s,i,o,rfl,_⟩:=h;rfl
 obtain ⟨n,i,o,rfl,hi,hn,qq⟩:=h;refine ⟨_,a0c (psA (i:=3) scRow (a0l b1P (a0X (a0a a2A a0d)) (pv 0)))
  (a0c (a2C (pv 2) (a4N (pv 3) (pv 1) a2j))
  (a0h (a0o (pv 3)))),?_⟩
 refine ⟨(by show 1<=sizeLine;decide),λl hl=>?_⟩;have s1:=a0f hl (.lst [.non]);have g1:upd H l (.lst [.non]) l=some (.lst [.non]):=a0b;generalize upd H l (.lst [.non])=H1 at s1 g1 ⊢;refine ⟨_,rfl,l,(n:Int),_,rfl,rfl,g1,by omega,by omega,by show 1 * _<=_;exact Nat.le_of_lt (a0m (by omega)),λp hp=>?_⟩;rw [b0O,Int.toNat_natCast];have s2:=a0f hp (.lst (List.replicate n V.non));have g2:upd H1 p (.lst (List.replicate n V.non)) p=some (.lst (List.replicate n V.non)):=a0b;generalize upd H1 p (.lst (List.replicate n V.non))=H2 at s2 g2 ⊢;have hpn:=s1.free hp;refine ⟨_,rfl,_,rfl,_,rfl,p,_,_,i,rfl,rfl,g2,(by rw [List.length_replicate];exact a3k hi),?_⟩;rw [b3z];exact ⟨_,rfl,qq p _ (a0n hpn (s1.trans s2)) hpn a0b⟩
def ext {α:Type} (ca:Nat->α) (i:Nat) (p:α):Nat->α:=λk=>if k=i then p else ca k
theorem a0w {α:Type} {ca:Nat->α} {i k:Nat} {p:α} (h:k=i):ext ca i p k=p:=if_pos h
theorem a0I {α:Type} {ca:Nat->α} {i k:Nat} {p:α} (h:¬ k=i):ext ca i p k=ca k:=if_neg h
def a4o:Sp:=λvs H Q _=>∃ (s:Nat) (o:OI),vs=[.int (s:Int),oV o]/\s<=100/\∀ (b:Addr) (ca:Nat->Addr) H',a0p H H'->H b=none->(∀ i,i < s->H (ca i)=none)->(∀ i j,i < s->j < s->ca i=ca j->i=j)->(∀ i,i < s->ca i≠b) ->
 H' b=some (.lst ((List.range s).map λi=>.ref (ca i)))->(∀ i,i < s->H' (ca i)=some (.lst (b2b s i o)))->Q (.ref b) H'
theorem b0P:a0k ["side","diagonal"] ["side","diagonal"] (a0g a4h):=fsk
theorem ndSq:(("at":Str) :: ["side","diagonal"]).Nodup:=by decide +kernel
theorem a8K (F:Fun K "square" "square" a4h f fd) (GR:Fns P w K mg base ["side","at","number"] "row_with" spRow 1) (mr:mg "range"=none):a0M P w K mg base CX0 2 f fd ["side","diagonal"] a4o:=by
 refine F.ok (k:=1) b0P (λvs H Q E h=>?_) (λcdv A outer s H vs Q E hr h=>?_)
 ·obtain ⟨s,o,rfl,_⟩:=h;rfl
 obtain ⟨n,o,rfl,hn,qq⟩:=h;refine ⟨_,a0h (a0o (a1s (M:=["side","diagonal"]) rfl (cso (a0g a4h) ["side","diagonal"]) ndSq rfl (by rfl) mr (a0a (pv 0) a0d) (a0U a0O a1y)
   (λcl C s0 H0 fp=>⟨a0L,pcF GR hr (a0a (pv 1) (a0a (pv 0) (a0a (pv 2) a0d)))⟩))),?_⟩
 refine ⟨_,rfl,(n:Int),rfl,by omega,by omega,λd hd=>?_⟩;refine ⟨λi H'=>a0p H H'/\∃ ca:Nat->Addr,(∀ k,k < i->H (ca k)=none)/\(∀ j k,j < i->k < i->ca j=ca k->j=k)/\(∀ k,k < i->ca k≠d)/\H' d=some (.lst ((List.range i).map λk=>.ref (ca k)))/\∀ k,k < i->H' (ca k)=some (.lst (b2b n k o)),⟨a0f hd _,λ_=>d,λk hk=>absurd hk (Nat.not_lt_zero _),λj k hj=>absurd hj (Nat.not_lt_zero _),λk hk=>absurd hk (Nat.not_lt_zero _),a0b,λk hk=>absurd hk (Nat.not_lt_zero _)⟩,λi H1 hi hP=>?_,λH1 hP=>?_⟩
 ·obtain ⟨s1,ca,c1,c2,c3,c4,c5⟩:=hP;have i':i < n:=by omega
  rw [show (0:Int)+(i:Int)=(i:Int) from Int.zero_add _];refine a0E ⟨_,rfl,_,rfl,_,rfl,n,i,o,rfl,i',hn,λp H2 s2 hp2 g2=>?_⟩;have pd:p≠d:=λz=>by rw [z,c4] at hp2;cases hp2
  have pk:∀ k,k < i->ca k≠p:=λk hk z=>by rw [<-z,c5 k hk] at hp2;cases hp2
  refine ⟨_,s2 _ _ c4,?_,a0n hd (s1.trans s2),ext ca i p,λk hk=>?_,λj k hj hk e=>?_,λk hk=>?_,?_,λk hk=>?_⟩
  ·rw [List.length_map,List.length_range];exact a0m (by omega)
  ·by_cases z:k=i
   ·rw [a0w z];exact s1.free hp2
   ·rw [a0I z];exact c1 k (by omega)
  ·by_cases z1:j=i <;> by_cases z2:k=i
   ·omega
   ·rw [a0w z1,a0I z2] at e;exact absurd e.symm (pk k (by omega))
   ·rw [a0I z1,a0w z2] at e;exact absurd e (pk j (by omega))
   ·rw [a0I z1,a0I z2] at e;exact c2 j k (by omega) (by omega) e
  ·by_cases z:k=i
   ·rw [a0w z];exact pd
   ·rw [a0I z];exact c3 k (by omega)
  ·rw [a0b,List.range_succ,List.map_append];refine congrArg (λz=>some (HO.lst z)) ?_;congr 1
   ·refine List.map_congr_left λk hk=>?_;rw [a0I (by have:=List.mem_range.mp hk;omega)]
   ·show [V.ref p]=[V.ref (ext ca i p i)]
    rw [a0w rfl]
  ·by_cases z:k=i
   ·rw [a0w z,a0i pd,z];exact g2
   ·rw [a0I z,a0i (c3 k (by omega))];exact s2 _ _ (c5 k (by omega))
 ·obtain ⟨s1,ca,c1,c2,c3,c4,c5⟩:=hP;rw [Int.toNat_natCast] at c1 c2 c3 c4 c5;exact qq d ca H1 s1 hd c1 c2 c3 c4 c5
def a4p:Sp:=λvs H Q _=>∃ (a:Addr) (xs:List OI),vs=[.ref a]/\H a=some (.lst (xs.map oV))/\xs.length<=100/\∀ H',a0p H H'->Q (oV (lo xs)) H'
theorem b3A:a0k ["numbers"] ["numbers"] (a0g a6D):=fsk
theorem ndLe:(("number":Str) :: ["numbers"]).Nodup:=by decide +kernel
theorem b0Q (F:Fun K "least" "least" a6D f fd) (mn:mg "min"=none):a0M P w K mg base CX0 1 f fd ["numbers"] a4p:=by
 refine F.ok (k:=0) b3A (λvs H Q E h=>?_) (λcdv A outer s H vs Q E hr h=>?_)
 ·obtain ⟨a,xs,rfl,_⟩:=h;rfl
 obtain ⟨a,xs,rfl,ha,l1,qq⟩:=h;refine ⟨_,a0h (a0o (b3p rfl (by rfl) mn (a0a (a1B (M:=["numbers"]) rfl (cso (a0g a6D) ["numbers"]) ndLe rfl (pv 0) a0O
   (λcl C s0 H0 fp=>⟨a2v (a7H (b2H (pv 0))),pv 0⟩)) a0d) (b2S a2A pk_nil))),?_⟩
 refine ⟨_,rfl,a,_,rfl,SqL.of ha,λd hd=>?_⟩;refine ⟨λi H'=>a0p H H'/\H' d=some (.lst (((xs.take i).filterMap id).map V.int)),⟨a0f hd _,a0b⟩,λi H' _ hP=>SqL.of (hP.1 _ _ ha),λi x H' hx hP=>?_,λH' hP=>?_⟩
 ·obtain ⟨s5,hd'⟩:=hP;have il:=(List.getElem?_eq_some_iff.mp hx).1;rw [List.length_map] at il;rw [List.getElem?_map] at hx;obtain ⟨z,hz,rfl⟩:=Option.map_eq_some_iff.mp hx;have et:(xs.take (i+1)).filterMap id=(xs.take i).filterMap id++[z].filterMap id:=by rw [List.take_add_one,hz,List.filterMap_append];rfl
  refine ⟨_,rfl,_,rfl,?_⟩;cases z with
  | none=>exact ⟨s5,by rw [et];simpa using hd'⟩
  | some v =>
   refine ⟨_,rfl,_,hd',?_,a0n hd s5,?_⟩
   ·rw [List.length_map];have:=List.length_filterMap_le id (xs.take i);rw [List.length_take] at this;exact a0m (by omega)
   ·rw [a0b,et,List.map_append];rfl
 ·obtain ⟨s5,hd'⟩:=hP;rw [List.length_map,List.take_length] at hd';refine ⟨d,_,rfl,rfl,hd',?_⟩;have:=qq H' s5;unfold lo at this;split
  ·rename_i h;rw [if_pos h] at this;exact this
  ·rename_i h;rw [if_neg h] at this;exact this
def a4q:Sp:=λvs H Q _=>∃ a b:OI,vs=[oV a,oV b]/\Q (oV (oadd a b)) H
theorem b3B:a0k ["one","other"] ["one","other"] (a0g a8C):=fsk
theorem b0R (F:Fun K "added" "added" a8C f fd):a0M P w K mg base CX0 1 f fd ["one","other"] a4q:=by
 refine F.ok (k:=0) b3B (λvs H Q E h=>?_) (λcdv A outer s H vs Q E hr h=>?_)
 ·obtain ⟨a,b,rfl,_⟩:=h;rfl
 obtain ⟨a,b,rfl,q⟩:=h;refine ⟨_,a0c (a0W (PW.pt (a4L (a7H (a7G (pv 0))) (a2P (a7H (a7G (pv 1)))))) (a0h (a0o a2A)) a0u) (a0h (a0o (a0l a0t (pv 0) (pv 1)))),?_⟩;refine ⟨_,rfl,_,rfl,?_⟩;cases a with
 | none=>exact q
 | some i =>
  refine a3G ?_;refine ⟨_,rfl,_,rfl,?_⟩;cases b with
  | none=>exact q
  | some j=>exact a3G ⟨_,rfl,_,rfl,_,_,rfl,rfl,q⟩
end K56
set_option exponentiation.threshold 2000
namespace K56
open PySem L2
structure Tb (H:Hp) (a:Addr) (ba:Nat->Addr) (ca:Nat->Nat->Addr) (L s:Nat) (T:Nat->Nat->Nat->OI):Prop where
 o:H a=some (.lst ((List.range L).map λl=>.ref (ba l)))
 b:∀ l,l < L->H (ba l)=some (.lst ((List.range s).map λi=>.ref (ca l i)))
 c:∀ l i,l < L->i < s->H (ca l i)=some (.lst ((List.range s).map λj=>oV (T l i j)))
theorem Tb.same {H H':Hp} {a:Addr} {ba:Nat->Addr} {ca:Nat->Nat->Addr} {L s:Nat} {T:Nat->Nat->Nat->OI} (h:Tb H a ba ca L s T) (k:a0p H H'):Tb H' a ba ca L s T:=⟨k _ _ h.o,λl hl=>k _ _ (h.b l hl),λl i hl hi=>k _ _ (h.c l i hl hi)⟩
structure Ad where
 su:Addr
 th:Addr
 tt:Addr
 bh:Nat->Addr
 ch:Nat->Nat->Addr
 bt:Nat->Addr
 ct:Nat->Nat->Addr
def Z (X:Ad) (L s:Nat) (a:Addr):Prop:=(∃ l i,l < L/\i < s/\a=X.ch l i)\/∃ l i,l < L+1/\i < s/\a=X.ct l i
abbrev pf (p:Addr) (n:Int) (X:Ad):List (Str × V):=[("prices",.ref p),("things",.int n),("sums",.ref X.su),("heads",.ref X.th),("tails",.ref X.tt)]
structure PAt (C:Addr) (H:Hp) (r p:Addr) (ps ws:List Int) (X:Ad) (h t:Nat->Nat->Nat->OI):Prop where
 ob:∃ dx,H r=some (.ins C dx (pf p (ws.length:Int) X))
 hp:TW H p ps
 su:H X.su=some (.lst ((sums ws ws.length).map V.int))
 hd:Tb H X.th X.bh X.ch ps.length (ws.length+1) h
 tl:Tb H X.tt X.bt X.ct (ps.length+1) (ws.length+1) t
 ih:∀ l i l' i',l < ps.length->l' < ps.length->i < ws.length+1->i' < ws.length+1->X.ch l i=X.ch l' i'->l=l'/\i=i'
 it:∀ l i l' i',l < ps.length+1->l' < ps.length+1->i < ws.length+1->i' < ws.length+1->X.ct l i=X.ct l' i'->l=l'/\i=i'
 ix:∀ l i l' i',l < ps.length->l' < ps.length+1->i < ws.length+1->i' < ws.length+1->X.ch l i≠X.ct l' i'
 ns:¬ Z X ps.length (ws.length+1) X.su
theorem PAt.same {C:Addr} {H H':Hp} {r p:Addr} {ps ws:List Int} {X:Ad} {h t:Nat->Nat->Nat->OI} (a:PAt C H r p ps ws X h t) (k:a0p H H'):PAt C H' r p ps ws X h t:=by
 obtain ⟨dx,ho⟩:=a.ob;exact ⟨⟨dx,k _ _ ho⟩,k _ _ a.hp,k _ _ a.su,a.hd.same k,a.tl.same k,a.ih,a.it,a.ix,a.ns⟩
structure PC (K:PySem.W.Frag) (C:Addr):Prop where
 c:Cls K C
 np:a1o K C "prices"
 nn:a1o K C "things"
 ns:a1o K C "sums"
 nh:a1o K C "heads"
 nt:a1o K C "tails"
abbrev pf1 (p:Addr):List (Str × V):=[("prices",.ref p)]
abbrev pf2 (p:Addr) (n:Int):List (Str × V):=[("prices",.ref p),("things",.int n)]
abbrev pf3 (p:Addr) (n:Int) (su:Addr):List (Str × V):=[("prices",.ref p),("things",.int n),("sums",.ref su)]
abbrev pf4 (p:Addr) (n:Int) (su th:Addr):List (Str × V):=[("prices",.ref p),("things",.int n),("sums",.ref su),("heads",.ref th)]
structure a8L (H0 H':Hp) (s:Nat) (o:OI) (i:Nat) (ba:Nat->Addr) (ca:Nat->Nat->Addr) (d:Addr):Prop where
 same:a0p H0 H'
 fb:∀ l,l < i->H0 (ba l)=none
 fc:∀ l k,l < i->k < s->H0 (ca l k)=none
 inj:∀ l k l' k',l < i->l' < i->k < s->k' < s->ca l k=ca l' k'->l=l'/\k=k'
 nb:∀ l,l < i->ba l≠d
 nc:∀ l k,l < i->k < s->ca l k≠d
 lo_:H' d=some (.lst ((List.range i).map λl=>.ref (ba l)))
 lb:∀ l,l < i->H' (ba l)=some (.lst ((List.range s).map λk=>.ref (ca l k)))
 lc:∀ l k,l < i->k < s->H' (ca l k)=some (.lst (b2b s k o))
theorem a8L.start {H0:Hp} {s:Nat} {o:OI} {d:Addr} (hd:H0 d=none):a8L H0 (upd H0 d (.lst [])) s o 0 (λ_=>d) (λ_ _=>d) d :=
 ⟨a0f hd _,λl hl=>absurd hl (Nat.not_lt_zero _),λl k hl=>absurd hl (Nat.not_lt_zero _),λl k l' k' hl=>absurd hl (Nat.not_lt_zero _),λl hl=>absurd hl (Nat.not_lt_zero _),λl k hl=>absurd hl (Nat.not_lt_zero _),a0b,λl hl=>absurd hl (Nat.not_lt_zero _),λl k hl=>absurd hl (Nat.not_lt_zero _)⟩
theorem a8L.step {H0 H1 H2:Hp} {s:Nat} {o:OI} {i:Nat} {ba:Nat->Addr} {ca:Nat->Nat->Addr} {d b:Addr} {c':Nat->Addr} (hd:H0 d=none) (g:a8L H0 H1 s o i ba ca d) (k:a0p H1 H2) (fb:H1 b=none) (fc:∀ k,k < s->H1 (c' k)=none) (ij:∀ j k,j < s->k < s->c' j=c' k->j=k) (hb:H2 b=some (.lst ((List.range s).map λk=>.ref (c' k)))) (hc:∀ k,k < s->H2 (c' k)=some (.lst (b2b s k o))) :
  a8L H0 (upd H2 d (.lst (((List.range i).map λl=>V.ref (ba l))++[.ref b]))) s o (i+1) (ext ba i b) (ext ca i c') d:=by
 have bd:b≠d:=λz=>by rw [z,g.lo_] at fb;cases fb
 have cd:∀ k,k < s->c' k≠d:=λk hk z=>by
  have:=fc k hk;rw [z,g.lo_] at this;cases this
 have cc:∀ l k k',l < i->k < s->k' < s->ca l k≠c' k':=λl k k' hl hk hk' z=>by
  have:=fc k' hk';rw [<-z,g.lc l k hl hk] at this;cases this
 refine ⟨a0n hd (g.same.trans k),λl hl=>?_,λl m hl hm=>?_,λl m l' m' hl hl' hm hm' e=>?_,λl hl=>?_,λl m hl hm=>?_,?_,λl hl=>?_,λl m hl hm=>?_⟩
 ·by_cases z:l=i
  ·rw [a0w z];exact g.same.free fb
  ·rw [a0I z];exact g.fb l (by omega)
 ·by_cases z:l=i
  ·rw [a0w z];exact g.same.free (fc m hm)
  ·rw [a0I z];exact g.fc l m (by omega) hm
 ·by_cases z1:l=i <;> by_cases z2:l'=i
  ·rw [a0w z1,a0w z2] at e;exact ⟨by omega,ij m m' hm hm' e⟩
  ·rw [a0w z1,a0I z2] at e;exact absurd e.symm (cc l' m' m (by omega) hm' hm)
  ·rw [a0I z1,a0w z2] at e;exact absurd e (cc l m m' (by omega) hm hm')
  ·rw [a0I z1,a0I z2] at e;exact g.inj l m l' m' (by omega) (by omega) hm hm' e
 ·by_cases z:l=i
  ·rw [a0w z];exact bd
  ·rw [a0I z];exact g.nb l (by omega)
 ·by_cases z:l=i
  ·rw [a0w z];exact cd m hm
  ·rw [a0I z];exact g.nc l m (by omega) hm
 ·rw [a0b,List.range_succ,List.map_append];refine congrArg (λz=>some (HO.lst z)) ?_;congr 1
  ·refine List.map_congr_left λl hl=>?_;rw [a0I (by have:=List.mem_range.mp hl;omega)]
  ·show [V.ref b]=[V.ref (ext ba i b i)]
   rw [a0w rfl]
 ·by_cases z:l=i
  ·rw [a0w z,a0w z,a0i bd];exact hb
  ·rw [a0I z,a0I z,a0i (g.nb l (by omega))];exact k _ _ (g.lb l (by omega))
 ·by_cases z:l=i
  ·rw [a0w z,a0i (cd m hm)];exact hc m hm
  ·rw [a0I z,a0i (g.nc l m (by omega) hm)];exact k _ _ (g.lc l m (by omega) hm)
def a3y (r:Addr) (H H':Hp):Prop:=∀ a o,a≠r->H a=some o->H' a=some o
abbrev NI:List Str:=["self","prices","weights","side"]
abbrev h0:Nat->Nat->Nat->OI:=λ_ a b=>if b=a then none else none
abbrev t0:Nat->Nat->Nat->OI:=λ_ a b=>if b=a then some 0 else none
def a8M (C:Addr):Sp:=λvs H Q _=>∃ (r dx p q:Addr) (ps ws:List Int),vs=[.ref r,.ref p,.ref q]/\H r=some (.ins C dx [])/\TW H p ps/\TW H q ws/\1<=ps.length/\ps.length<=10/\ws.length<=24 /\
 ∀ H' X,a3y r H H'->PAt C H' r p ps ws X h0 t0->(∀ a,Z X ps.length (ws.length+1) a->H a=none)->Q .non H'
theorem a8N:a0k NI ["self","prices","weights"] (a0g a3j):=fsk
theorem ndI1:(("price":Str) :: NI).Nodup:=by decide +kernel
theorem ndI2:(("letter":Str) :: NI).Nodup:=by decide +kernel
theorem b0S {C:Addr} (F:Fun K "__init__" "Parted.__init__" a3j f fd) (GS:Fns P w K mg base ["weights"] "weight_sums" b2a 2) (GQ:Fns P w K mg base ["side","diagonal"] "square" a4o 2) (rc:PC K C) (ml:mg "len"=none) (mr:mg "range"=none):a0M P w K mg base CX0 3 f fd ["self","prices","weights"] (a8M C):=by
 refine F.ok (k:=2) a8N (λvs H Q E h=>?_) (λcdv A outer s H vs Q E hr h=>?_)
 ·obtain ⟨r,dx,p,q,ps,ws,rfl,_⟩:=h;rfl
 obtain ⟨r,dx,p,q,ps,ws,rfl,hr0,hp,hq,p1,p10,w20,qq⟩:=h;refine ⟨_,a0c (a2i (pv 0) (pv 1) rfl)
  (a0c (a2i (pv 0) (pln ml (pv 2)) rfl)
  (a0c (a2i (pv 0) (pcF GS hr (a0a (pv 2) a0d)) rfl)
  (a0c (psA (i:=3) a8N (a0l a0t (a0F (pv 0) rfl) a0e))
  (a0c (a2i (pv 0) (a1W (M:=NI) rfl (cso (a0g a3j) NI) ndI1 rfl (pv 1) a0O
   (λcl C s0 H0 fp=>⟨a0L,pcF GQ hr (a0a (pv 4) (a0a a2A a0d))⟩)) rfl)
  (a0h (a2i (pv 0) (a1s (M:=NI) rfl (cso (a0g a3j) NI) ndI2 rfl (by rfl) mr (a0a (a0l a0t (pln ml (pv 1)) a0e) a0d) (a0U (a5M a2Z (a8l (a0U a0O a1y)) b3g) a1y)
   (λcl C s0 H0 fp=>⟨a0L,pcF GQ hr (a0a (pv 4) (a0a a0e a0d))⟩)) rfl)))))),?_⟩
 have pr:p≠r:=a0q hp hr0 (by intro z;cases z);have qr:q≠r:=a0q hq hr0 (by intro z;cases z);refine ⟨_,rfl,_,rfl,r,C,dx,_,rfl,hr0,rc.c,rc.np,(by show 0 < 1000;decide),?_⟩;rw [show a2D "prices" (V.ref p) []=(pf1 p) from rfl];have g1:upd H r (.ins C dx (pf1 p)) r=some (.ins C dx (pf1 p)):=a0b;have k1:a3y r H (upd H r (.ins C dx (pf1 p))):=λa o ha e=>by rw [a0i ha];exact e
 have f1:∀ a,upd H r (.ins C dx (pf1 p)) a=none->H a=none:=λa e=>by
  by_cases z:a=r
  ·subst z;rw [a0b] at e;cases e
  ·rw [a0i z] at e;exact e
 generalize upd H r (.ins C dx (pf1 p))=H1 at g1 k1 f1 ⊢;refine ⟨_,rfl,q,_,rfl,.inr (SqT.of (k1 _ _ qr hq)),_,rfl,r,C,dx,_,rfl,g1,rc.c,rc.nn,(by show 1 < 1000;decide),?_⟩;rw [List.length_map,show a2D "things" (V.int (ws.length:Int)) (pf1 p)=(pf2 p (ws.length:Int)) from rfl];have g2:upd H1 r (.ins C dx (pf2 p (ws.length:Int))) r=some (.ins C dx (pf2 p (ws.length:Int))):=a0b;have k2:a3y r H (upd H1 r (.ins C dx (pf2 p (ws.length:Int)))):=λa o ha e=>by rw [a0i ha];exact k1 a o ha e
 have f2:∀ a,upd H1 r (.ins C dx (pf2 p (ws.length:Int))) a=none->H a=none:=λa e=>by
  by_cases z:a=r
  ·subst z;rw [a0b] at e;cases e
  ·rw [a0i z] at e;exact f1 a e
 generalize upd H1 r (.ins C dx (pf2 p (ws.length:Int)))=H2 at g2 k2 f2 ⊢;refine ⟨_,rfl,q,ws,rfl,k2 _ _ qr hq,by omega,λsu H3 s3 hn3 hs3=>?_⟩;have g3:=s3 _ _ g2;refine ⟨_,rfl,r,C,dx,_,rfl,g3,rc.c,rc.ns,(by show 2 < 1000;decide),?_⟩;have sr:su≠r:=a0q hs3 g3 (by intro z;cases z);rw [show a2D "sums" (V.ref su) (pf2 p (ws.length:Int))=(pf3 p (ws.length:Int) su) from rfl];have g4:upd H3 r (.ins C dx (pf3 p (ws.length:Int) su)) r=some (.ins C dx (pf3 p (ws.length:Int) su)):=a0b;have k4:a3y r H (upd H3 r (.ins C dx (pf3 p (ws.length:Int) su))):=λa o ha e=>by rw [a0i ha];exact s3 _ _ (k2 a o ha e)
 have f4:∀ a,upd H3 r (.ins C dx (pf3 p (ws.length:Int) su)) a=none->H a=none:=λa e=>by
  by_cases z:a=r
  ·subst z;rw [a0b] at e;cases e
  ·rw [a0i z] at e;exact f2 a (s3.free e)
 have hs4:upd H3 r (.ins C dx (pf3 p (ws.length:Int) su)) su=some (.lst ((sums ws ws.length).map V.int)):=by rw [a0i sr];exact hs3
 generalize upd H3 r (.ins C dx (pf3 p (ws.length:Int) su))=H4 at g4 k4 f4 hs4 ⊢;refine ⟨_,rfl,r,C,dx,_,_,rfl,g4,rc.c,rc.nn,rfl,_,_,rfl,rfl,?_⟩;have hp4:TW H4 p ps:=k4 _ _ pr hp;refine ⟨_,rfl,p,_,rfl,SqT.of hp4,λth hth=>?_⟩;refine ⟨λi H'=>∃ ba ca,a8L H4 H' (ws.length+1) none i ba ca th,⟨_,_,a8L.start hth⟩,λi H' _ hP=>(by obtain ⟨ba,ca,g⟩:=hP;exact SqT.of (g.same _ _ hp4)),λi x H' hx hP=>?_,λH5 hP=>?_⟩
 ·obtain ⟨ba,ca,g⟩:=hP;have il:=(List.getElem?_eq_some_iff.mp hx).1;rw [List.length_map] at il;refine a0E ⟨_,rfl,ws.length+1,none,rfl,by omega,λb c' H6 s6 fb fc ij cb hb hc=>⟨_,s6 _ _ g.lo_,?_,_,_,g.step hth s6 fb fc ij hb hc⟩⟩;rw [List.length_map,List.length_range];exact a0m (by omega)
 obtain ⟨bh,ch,gh⟩:=hP;rw [List.length_map] at gh;have g5:=gh.same _ _ g4;refine ⟨_,rfl,r,C,dx,_,rfl,g5,rc.c,rc.nh,(by show 3 < 1000;decide),?_⟩;rw [show a2D "heads" (V.ref th) (pf3 p (ws.length:Int) su)=(pf4 p (ws.length:Int) su th) from rfl];have rh1:th≠r:=a0q gh.lo_ g5 (by intro z;cases z);have rh2:∀ l,l < ps.length->bh l≠r:=λl hl=>a0q (gh.lb l hl) g5 (by intro z;cases z);have rh3:∀ l k,l < ps.length->k < ws.length+1->ch l k≠r:=λl k hl hk=>a0q (gh.lc l k hl hk) g5 (by intro z;cases z);have tb6:Tb (upd H5 r (.ins C dx (pf4 p (ws.length:Int) su th))) th bh ch ps.length (ws.length+1) h0:=⟨by rw [a0i rh1];exact gh.lo_,λl hl=>by rw [a0i (rh2 l hl)];exact gh.lb l hl,λl k hl hk=>by rw [a0i (rh3 l k hl hk)];exact gh.lc l k hl hk⟩
 have g6:upd H5 r (.ins C dx (pf4 p (ws.length:Int) su th)) r=some (.ins C dx (pf4 p (ws.length:Int) su th)):=a0b;have k46:a3y r H4 (upd H5 r (.ins C dx (pf4 p (ws.length:Int) su th))):=λa o ha e=>by rw [a0i ha];exact gh.same _ _ e
 have f6:∀ a,upd H5 r (.ins C dx (pf4 p (ws.length:Int) su th)) a=none->H4 a=none:=λa e=>by
  by_cases z:a=r
  ·subst z;rw [a0b] at e;cases e
  ·rw [a0i z] at e;exact gh.same.free e
 generalize upd H5 r (.ins C dx (pf4 p (ws.length:Int) su th))=H6 at tb6 g6 k46 f6 ⊢;have hp6:TW H6 p ps:=k46 _ _ pr hp4;have hs6:=k46 _ _ sr hs4;refine ⟨_,rfl,p,_,rfl,.inr (SqT.of hp6),_,_,rfl,rfl,_,rfl,by rw [List.length_map];omega,by rw [List.length_map];omega,λtt htt=>?_⟩;have en:((((ps.map V.int).length:Nat):Int)+1).toNat=ps.length+1:=by rw [List.length_map];omega
 rw [en];refine ⟨λi H'=>∃ ba ca,a8L H6 H' (ws.length+1) (some 0) i ba ca tt,⟨_,_,a8L.start htt⟩,λi H' hi hP=>?_,λH7 hP=>?_⟩
 ·obtain ⟨ba,ca,g⟩:=hP;refine a0E ⟨_,rfl,ws.length+1,some 0,rfl,by omega,λb c' H8 s8 fb fc ij cb hb hc=>⟨_,s8 _ _ g.lo_,?_,_,_,g.step htt s8 fb fc ij hb hc⟩⟩;rw [List.length_map,List.length_range];exact a0m (by omega)
 obtain ⟨bt,ct,gt⟩:=hP;have g7:=gt.same _ _ g6;refine ⟨_,rfl,r,C,dx,_,rfl,g7,rc.c,rc.nt,(by show 4 < 1000;decide),?_⟩;rw [show a2D "tails" (V.ref tt) (pf4 p (ws.length:Int) su th)=pf p (ws.length:Int) ⟨su,th,tt,bh,ch,bt,ct⟩ from rfl];have rt1:tt≠r:=a0q gt.lo_ g7 (by intro z;cases z);have rt2:∀ l,l < ps.length+1->bt l≠r:=λl hl=>a0q (gt.lb l hl) g7 (by intro z;cases z);have rt3:∀ l k,l < ps.length+1->k < ws.length+1->ct l k≠r:=λl k hl hk=>a0q (gt.lc l k hl hk) g7 (by intro z;cases z);have k68:a3y r H6 (upd H7 r (.ins C dx (pf p (ws.length:Int) ⟨su,th,tt,bh,ch,bt,ct⟩))):=λa o ha e=>by rw [a0i ha];exact gt.same _ _ e
 refine qq _ ⟨su,th,tt,bh,ch,bt,ct⟩ (λa o ha e=>k68 a o ha (k46 a o ha (k4 a o ha e))) ⟨⟨dx,a0b⟩,k68 _ _ pr hp6,k68 _ _ sr hs6,⟨k68 _ _ rh1 tb6.o,λl hl=>k68 _ _ (rh2 l hl) (tb6.b l hl),λl k hl hk=>k68 _ _ (rh3 l k hl hk) (tb6.c l k hl hk)⟩,⟨by rw [a0i rt1];exact gt.lo_,λl hl=>by rw [a0i (rt2 l hl)];exact gt.lb l hl,λl k hl hk=>by rw [a0i (rt3 l k hl hk)];exact gt.lc l k hl hk⟩,λl i l' i' hl hl' hi hi' e=>gh.inj l i l' i' hl hl' hi hi' e,λl i l' i' hl hl' hi hi' e=>gt.inj l i l' i' hl hl' hi hi' e,λl i l' i' hl hl' hi hi' e=>?_,λz=>?_⟩ λa hz=>?_
 ·have e1:=gt.fc l' i' hl' hi';have e:ch l i=ct l' i':=e;rw [<-e,tb6.c l i hl hi] at e1;cases e1
 ·rcases z with ⟨l,i,hl,hi,e⟩ | ⟨l,i,hl,hi,e⟩
  ·have e1:=gh.fc l i hl hi;have e:su=ch l i:=e;rw [<-e,hs4] at e1;cases e1
  ·have e1:=gt.fc l i hl hi;have e:su=ct l i:=e;rw [<-e,hs6] at e1;cases e1
 ·rcases hz with ⟨l,i,hl,hi,e⟩ | ⟨l,i,hl,hi,e⟩
  ·have e:a=ch l i:=e;rw [e];exact f4 _ (gh.fc l i hl hi)
  ·have e:a=ct l i:=e;rw [e];exact f4 _ (f6 _ (gt.fc l i hl hi))
end K56
set_option exponentiation.threshold 2000
namespace K56
open PySem L2
theorem a0s {f:Nat->V} {n k:Nat} (h:k < n):atI ((List.range n).map f) (k:Int)=some (f k):=a0S (by rw [List.getElem?_map,List.getElem?_range h];rfl)
theorem a6I {K:PySem.W.Frag} {ta:TE} {f:Str} (h:a2w ta):a2w (tFld K ta f):=λσ H Q Q' hq q=>h σ H _ _ (λv H1 ⟨a,C,dx,fs,u,e1,e2,e3,e4,e5,q1⟩=>⟨a,C,dx,fs,u,e1,e2,e3,e4,e5,hq _ _ q1⟩) q
structure Mt (P:Program) (w:World) (K:PySem.W.Frag) (mg:Str->Option Value) (base:Heap) (C:Addr) (name:Str) (ps:List Str) (sp:Sp) (k:Nat) where
 f:Addr
 fd:FuncData
 m:Meth K C name f
 ok:a0M P w K mg base CX0 k f fd ps sp
 b:a1r K fd ps []
def Mt.up {P:Program} {w:World} {K:PySem.W.Frag} {mg:Str->Option Value} {base:Heap} {C:Addr} {name:Str} {ps:List Str} {sp:Sp} {j k:Nat} (f:Mt P w K mg base C name ps sp j) (h:j<=k):Mt P w K mg base C name ps sp k:=⟨f.f,f.fd,f.m,f.ok.mono h,f.b⟩
def up3 (T:Nat->Nat->Nat->OI) (l i j:Nat) (v:OI):Nat->Nat->Nat->OI:=λl' i' j'=>if l'=l/\i'=i/\j'=j then v else T l' i' j'
theorem a6J {T:Nat->Nat->Nat->OI} {l i j:Nat} {v:OI}:up3 T l i j v l i j=v:=if_pos ⟨rfl,rfl,rfl⟩
theorem a2G {T:Nat->Nat->Nat->OI} {l i j l' i' j':Nat} {v:OI} (h:¬ (l'=l/\i'=i/\j'=j)):up3 T l i j v l' i' j'=T l' i' j':=if_neg h
theorem a8O {T:Nat->Nat->Nat->OI} {l i j s:Nat} {v:OI} (hj:j < s):((List.range s).map λk=>oV (T l i k)).set j (oV v)=(List.range s).map λk=>oV (up3 T l i j v l i k):=by
 refine List.ext_getElem? λk=>?_;rw [List.getElem?_map];by_cases hk:k < s
 ·rw [List.getElem?_range hk];by_cases e:j=k
  ·subst e;rw [List.getElem?_set_self (by rw [List.length_map,List.length_range];exact hk)];show some (oV v)=some (oV (up3 T l i j v l i j));rw [a6J]
  ·rw [List.getElem?_set_ne e,List.getElem?_map,List.getElem?_range hk];show some (oV (T l i k))=some (oV (up3 T l i j v l i k));rw [a2G λz=>e z.2.2.symm]
 ·rw [List.getElem?_eq_none (by rw [List.length_set,List.length_map,List.length_range];omega),List.getElem?_eq_none (by rw [List.length_range];omega)];rfl
theorem a2y {f:Nat->Addr} {g:Nat->OI} {m n:Nat} (hm:0 < m) (hn:0 < n):(List.range m).map (λl=>V.ref (f l))≠(List.range n).map λj=>oV (g j):=λz=>by
 have h1:((List.range m).map (λl=>V.ref (f l)))[0]?=some (V.ref (f 0)):=by rw [List.getElem?_map,List.getElem?_range hm];rfl
 have h2:((List.range n).map λj=>oV (g j))[0]?=some (oV (g 0)):=by rw [List.getElem?_map,List.getElem?_range hn];rfl
 rw [z,h2] at h1;cases hg:g 0 <;> (rw [hg] at h1;cases h1)
theorem Tb.keep {H:Hp} {a c:Addr} {ba:Nat->Addr} {ca:Nat->Nat->Addr} {L s:Nat} {T:Nat->Nat->Nat->OI} {g:Nat->OI} {n:Nat} {o:HO} (h:Tb H a ba ca L s T) (hL:0 < L) (hs:0 < s) (hn:0 < n) (hc:H c=some (.lst ((List.range n).map λj=>oV (g j)))) (nc:∀ l i,l < L->i < s->ca l i≠c):Tb (upd H c o) a ba ca L s T:=by
 refine ⟨?_,λl hl=>?_,λl i hl hi=>?_⟩
 ·rw [a0i (a0q h.o hc (λz=>a2y hL hn (HO.lst.inj z)))];exact h.o
 ·rw [a0i (a0q (h.b l hl) hc (λz=>a2y hs hn (HO.lst.inj z)))];exact h.b l hl
 ·rw [a0i (nc l i hl hi)];exact h.c l i hl hi
theorem Tb.put {H:Hp} {a:Addr} {ba:Nat->Addr} {ca:Nat->Nat->Addr} {L s:Nat} {T:Nat->Nat->Nat->OI} {l i j:Nat} {v:OI} (h:Tb H a ba ca L s T) (inj:∀ l i l' i',l < L->l' < L->i < s->i' < s->ca l i=ca l' i'->l=l'/\i=i') (hl:l < L) (hi:i < s) (hj:j < s) :
  Tb (upd H (ca l i) (.lst (((List.range s).map λk=>oV (T l i k)).set j (oV v)))) a ba ca L s (up3 T l i j v):=by
 rw [a8O hj];have hc:=h.c l i hl hi;refine ⟨?_,λl' hl'=>?_,λl' i' hl' hi'=>?_⟩
 ·rw [a0i (a0q h.o hc (λz=>a2y (m:=L) (n:=s) (by omega) (by omega) (HO.lst.inj z)))];exact h.o
 ·rw [a0i (a0q (h.b l' hl') hc (λz=>a2y (m:=s) (n:=s) (by omega) (by omega) (HO.lst.inj z)))];exact h.b l' hl'
 ·by_cases e:l'=l/\i'=i
  ·obtain ⟨rfl,rfl⟩:=e;rw [a0b]
  ·rw [a0i (λz=>e (inj l' i' l i hl' hl hi' hi z)),h.c l' i' hl' hi'];refine congrArg (λz=>some (HO.lst z)) (List.map_congr_left λk _=>?_);rw [a2G λz=>e ⟨z.1,z.2.1⟩]
theorem PAt.puth {C:Addr} {H:Hp} {r p:Addr} {ps ws:List Int} {X:Ad} {h t:Nat->Nat->Nat->OI} {l i j:Nat} {v:OI} (a:PAt C H r p ps ws X h t) (hl:l < ps.length) (hi:i < ws.length+1) (hj:j < ws.length+1) :
  PAt C (upd H (X.ch l i) (.lst (((List.range (ws.length+1)).map λk=>oV (h l i k)).set j (oV v)))) r p ps ws X (up3 h l i j v) t:=by
 obtain ⟨dx,ho⟩:=a.ob;have hc:=a.hd.c l i hl hi;refine ⟨⟨dx,?_⟩,?_,?_,a.hd.put a.ih hl hi hj,a.tl.keep (by omega) (by omega) (by omega) hc λl' i' hl' hi'=>Ne.symm (a.ix l i l' i' hl hl' hi hi'),a.ih,a.it,a.ix,a.ns⟩
 ·rw [a0i (a0q ho hc (by intro z;cases z))];exact ho
 ·show upd _ _ _ p=_;rw [a0i (a0q a.hp hc (by intro z;cases z))];exact a.hp
 ·rw [a0i (λz=>a.ns (.inl ⟨l,i,hl,hi,z⟩))];exact a.su
theorem PAt.putt {C:Addr} {H:Hp} {r p:Addr} {ps ws:List Int} {X:Ad} {h t:Nat->Nat->Nat->OI} {l i j:Nat} {v:OI} (a:PAt C H r p ps ws X h t) (hL:0 < ps.length) (hl:l < ps.length+1) (hi:i < ws.length+1) (hj:j < ws.length+1) :
  PAt C (upd H (X.ct l i) (.lst (((List.range (ws.length+1)).map λk=>oV (t l i k)).set j (oV v)))) r p ps ws X h (up3 t l i j v):=by
 obtain ⟨dx,ho⟩:=a.ob;have hc:=a.tl.c l i hl hi;refine ⟨⟨dx,?_⟩,?_,?_,a.hd.keep hL (by omega) (by omega) hc λl' i' hl' hi'=>a.ix l' i' l i hl' hl hi' hi,a.tl.put a.it hl hi hj,a.ih,a.it,a.ix,a.ns⟩
 ·rw [a0i (a0q ho hc (by intro z;cases z))];exact ho
 ·show upd _ _ _ p=_;rw [a0i (a0q a.hp hc (by intro z;cases z))];exact a.hp
 ·rw [a0i (λz=>a.ns (.inr ⟨l,i,hl,hi,z⟩))];exact a.su
def KZ (X:Ad) (L s:Nat) (H H':Hp):Prop:=∀ a o,¬ Z X L s a->H a=some o->H' a=some o
abbrev lsum (h t:Nat->Nat->Nat->OI) (l i j k:Nat):OI:=lo ((List.range (k - i)).map λb=>oadd (h l i (i+b+1)) (t (l+1) (i+b+1) j))
abbrev NLs:List Str:=["self","letter","first","end","last","heads","tails"]
def spLs (C:Addr):Sp:=λvs H Q _=>∃ (r p:Addr) (ps ws:List Int) (X:Ad) (h t:Nat->Nat->Nat->OI) (l i j k:Nat),vs=[.ref r,.int (l:Int),.int (i:Int),.int (j:Int),.int (k:Int)]/\PAt C H r p ps ws X h t/\ws.length<=24/\l < ps.length/\i<=k/\k<=ws.length/\j<=ws.length/\∀ H',a0p H H'->Q (oV (lsum h t l i j k)) H'
theorem scLs:a0k NLs ["self","letter","first","end","last"] (a0g sLs):=fsk
theorem ndLs:(("cut":Str) :: NLs).Nodup:=by decide +kernel
theorem ok_ls {C:Addr} (F:Fun K "least_sum" "Parted.least_sum" sLs f fd) (GL:Fns P w K mg base ["numbers"] "least" a4p 1) (GA:Fns P w K mg base ["one","other"] "added" a4q 1) (rc:PC K C) (mr:mg "range"=none):a0M P w K mg base CX0 2 f fd ["self","letter","first","end","last"] (spLs C):=by
 refine F.ok (k:=1) scLs (λvs H Q E h=>?_) (λcdv A outer s H vs Q E hr h=>?_)
 ·obtain ⟨r,p,ps,ws,X,h,t,l,i,j,k,rfl,_⟩:=h;rfl
 obtain ⟨r,p,ps,ws,X,h,t,l,i,j,k,rfl,pa,w20,hl,hik,hk,hj,q⟩:=h;refine ⟨_,a0c (psA (i:=5) scLs (pxA a0j (pxA a0j (a0F (pv 0) rfl) (pv 1)) (pv 2)))
  (a0c (psA (i:=6) scLs (pxA a0j (a0F (pv 0) rfl) (a0l a0t (pv 1) a0e)))
  (a0h (a0o (pcF GL hr (a0a (a5b (M:=NLs) rfl (cso (a0g sLs) NLs) ndLs rfl (by rfl) mr (a0a (a0l a0t (pv 2) a0e) (a0a (a0l a0t (pv 4) a0e) a0d)) (a0U (a5M a2Z a0O b3g) (a0U (a5M a2Z a0O b3g) a1y))
   (λcl C s0 H0 fp=>⟨a0L,pcF GA hr (a0a (pxA (ixL K) (pv 6) (pv 0)) (a0a (pxA (ixL K) (pxA (ixL K) (pv 7) (pv 0)) (pv 4)) a0d))⟩)) a0d))))),?_⟩
 obtain ⟨dx,ho⟩:=pa.ob;have i1:i < ws.length+1:=by omega
 have hT:=pa.hd;have tT:=pa.tl;refine ⟨_,rfl,r,C,dx,_,_,rfl,ho,rc.c,rc.nh,rfl,_,rfl,X.th,_,_,_,rfl,rfl,SqL.of hT.o,a0s hl,_,rfl,X.bh l,_,_,_,rfl,rfl,SqL.of (hT.b l hl),a0s i1,?_⟩;refine ⟨_,rfl,r,C,dx,_,_,rfl,ho,rc.c,rc.nt,rfl,_,rfl,_,_,rfl,rfl,X.tt,_,_,_,rfl,rfl,SqL.of tT.o,a0s (k:=l+1) (by omega),?_⟩;refine ⟨_,rfl,_,_,rfl,rfl,_,rfl,_,_,rfl,rfl,_,_,rfl,⟨by omega,by omega,by omega,by omega⟩,λd hd=>?_⟩;have en:(((k:Int)+1) - ((i:Int)+1)).toNat=k - i:=by omega
 dsimp only;rw [en];refine ⟨λb H'=>a0p H H'/\H' d=some (.lst (((List.range b).map λb=>oadd (h l i (i+b+1)) (t (l+1) (i+b+1) j)).map oV)),⟨a0f hd _,a0b⟩,λb H' hb hP=>?_,λH' hP=>?_⟩
 ·obtain ⟨s5,hd'⟩:=hP;have eb:(i:Int)+1+(b:Int)=((i+b+1:Nat):Int):=by push_cast;omega
  rw [eb];have hb1:i+b+1 < ws.length+1:=by omega
  refine a0E ⟨_,rfl,_,rfl,X.ch l i,_,_,_,rfl,rfl,SqL.of (s5 _ _ (hT.c l i hl i1)),a0s hb1,_,rfl,_,rfl,X.bt (l+1),_,_,_,rfl,rfl,SqL.of (s5 _ _ (tT.b (l+1) (by omega))),a0s hb1,_,rfl,X.ct (l+1) (i+b+1),_,_,_,rfl,rfl,SqL.of (s5 _ _ (tT.c (l+1) (i+b+1) (by omega) hb1)),a0s (k:=j) (by omega),_,_,rfl,_,hd',?_,a0n hd s5,?_⟩
  ·rw [List.length_map,List.length_map,List.length_range];exact a0m (by omega)
  ·rw [a0b,List.range_succ,List.map_append,List.map_append];rfl
 ·obtain ⟨s5,hd'⟩:=hP;exact ⟨d,_,rfl,hd',by rw [List.length_map,List.length_range];omega,λH6 s6=>q H6 (s5.trans s6)⟩
abbrev NB:List Str:=["self","first","end"]
def a5V (C:Addr):Sp:=λvs H Q _=>∃ (r p:Addr) (ps ws:List Int) (X:Ad) (h t:Nat->Nat->Nat->OI) (i j:Nat),vs=[.ref r,.int (i:Int),.int (j:Int)]/\PAt C H r p ps ws X h t/\ws.length<=24/\ps.length<=10/\i < j/\j<=ws.length/\∀ H',a0p H H'->Q (oV (bnd ps.length h t i j)) H'
theorem b3C:a0k NB ["self","first","end"] (a0g a6H):=fsk
theorem ndB:(("letter":Str) :: NB).Nodup:=by decide +kernel
theorem b0T {C:Addr} (F:Fun K "bound" "Parted.bound" a6H f fd) (GL:Fns P w K mg base ["numbers"] "least" a4p 2) (M:Mt P w K mg base C "least_sum" ["self","letter","first","end","last"] (spLs C) 2) (rc:PC K C) (ml:mg "len"=none) (mr:mg "range"=none):a0M P w K mg base CX0 3 f fd ["self","first","end"] (a5V C):=by
 refine F.ok (k:=2) b3C (λvs H Q E h=>?_) (λcdv A outer s H vs Q E hr h=>?_)
 ·obtain ⟨r,p,ps,ws,X,h,t,i,j,rfl,_⟩:=h;rfl
 obtain ⟨r,p,ps,ws,X,h,t,i,j,rfl,pa,w20,p10,hij,hj,q⟩:=h;refine ⟨_,a0c (a0W (a0r a1J (a0l a1k (pv 2) (pv 1)) a0e (nomark _)) (a0h (a0o a0e)) a0u)
  (a0h (a0o (pcF GL hr (a0a (a1s (M:=NB) rfl (cso (a0g a6H) NB) ndB rfl (by rfl) mr (a0a (pln ml (a0F (pv 0) rfl)) a0d) (a0U (a8l (a0U (a6I a0O) a1y)) a1y)
   (λcl C s0 H0 fp=>⟨a0L,a0P (pv 1) rc.c M.m M.ok hr M.b .nil a0Y (a0a (pv 0) (a0a (pv 2) (a0a (pv 3) (a0a (a0l a1k (pv 3) a0e) a0d))))⟩)) a0d)))),?_⟩
 obtain ⟨dx,ho⟩:=pa.ob;refine ⟨_,rfl,_,rfl,_,_,rfl,rfl,rfl,_,rfl,?_⟩;refine a2b (λz=>?_) (λz=>?_)
 ·have z1:j - i=1:=by
   have y:V.int ((j:Int) - (i:Int))=V.int 1:=of_decide_eq_true z;have:=V.int.inj y;omega
  have:=q H (a0p.refl _);unfold bnd at this;rw [if_pos z1] at this;exact this
 ·have z1:¬ j - i=1:=λy=>z (decide_eq_true (by show V.int ((j:Int) - (i:Int))=V.int 1;congr 1;omega));unfold bnd at q;rw [if_neg z1] at q;refine ⟨_,rfl,r,C,dx,_,_,rfl,ho,rc.c,rc.np,rfl,p,_,rfl,.inr (SqT.of pa.hp),_,rfl,by rw [List.length_map];omega,by rw [List.length_map];omega,λd hd=>?_⟩;rw [List.length_map,Int.toNat_natCast];refine ⟨λl H'=>a0p H H'/\H' d=some (.lst (((List.range l).map λl=>lsum h t l i j (j - 1)).map oV)),⟨a0f hd _,a0b⟩,λl H' hl hP=>?_,λH' hP=>?_⟩
  ·obtain ⟨s5,hd'⟩:=hP;rw [show (0:Int)+(l:Int)=(l:Int) from Int.zero_add _];have ej:(j:Int) - 1=((j - 1:Nat):Int):=by omega
   refine a0E ⟨_,rfl,r,dx,_,rfl,s5 _ _ ho,rfl,_,rfl,_,rfl,_,rfl,_,rfl,_,_,rfl,rfl,r,p,ps,ws,X,h,t,l,i,j,j - 1,(by show V.ref r :: ([V.int (l:Int),V.int (i:Int),V.int (j:Int),V.int ((j:Int) - 1)]++[])=_;rw [ej];rfl),pa.same s5,w20,hl,by omega,by omega,hj,λH6 s6=>⟨_,s6 _ _ hd',?_,a0n hd (s5.trans s6),?_⟩⟩
   ·rw [List.length_map,List.length_map,List.length_range];exact a0m (by omega)
   ·rw [a0b,List.range_succ,List.map_append,List.map_append];rfl
  ·obtain ⟨s5,hd'⟩:=hP;exact ⟨d,_,rfl,hd',by rw [List.length_map,List.length_range];omega,λH6 s6=>q H6 (s5.trans s6)⟩
end K56
set_option exponentiation.threshold 2000
namespace K56
open PySem L2
def Wt (ws:List Int) (i j:Nat):Int:=(ws.take j).sum - (ws.take i).sum
abbrev pl (ps:List Int) (l:Nat):Int:=ps.getD l 0
def Bw (ns:List Int):Prop:=∀ x∈ns,0<=x/\x<=B30
theorem sum_bd {ns:List Int} (h:Bw ns):0<=ns.sum/\ns.sum<=ns.length * B30:=by
 induction ns with
 | nil=>simp
 | cons a t ih =>
  have h1:=h a (.head _);have h2:=ih λx hx=>h x (.tail _ hx);rw [List.sum_cons,List.length_cons];have e:(((t.length+1:Nat):Int)) * B30=t.length * B30+B30:=by push_cast;rw [Int.add_mul];omega
  rw [e];omega
theorem Wt_is {ws:List Int} {i j:Nat} (h:i<=j):Wt ws i j=((ws.take j).drop i).sum:=by
 have e:ws.take j=ws.take i++(ws.take j).drop i:=by
  have:=(List.take_append_drop i (ws.take j)).symm;rw [List.take_take,Nat.min_eq_left h] at this;exact this
 unfold Wt;have e2:(ws.take j).sum=(ws.take i).sum+((ws.take j).drop i).sum:=by rw [<-List.sum_append,<-e]
 omega
theorem Wt_bd {ws:List Int} {i j:Nat} (h:i<=j) (b:Bw ws) (l:ws.length<=24):0<=Wt ws i j/\Wt ws i j<=24 * B30:=by
 rw [Wt_is h];have b2:Bw ((ws.take j).drop i):=λx hx=>b x (List.mem_of_mem_take (List.mem_of_mem_drop hx));have:=sum_bd b2;have l2:((ws.take j).drop i).length<=24:=by rw [List.length_drop,List.length_take];omega
 refine ⟨this.1,Int.le_trans this.2 ?_⟩;exact Int.mul_le_mul_of_nonneg_right (by omega) (by decide)
theorem a1Y {h1 h2 t1 t2:Nat->Nat->Nat->OI} {l i j k:Nat} (eh:∀ b,i < b->b<=k->h1 l i b=h2 l i b) (et:∀ a,i < a->a<=k->t1 (l+1) a j=t2 (l+1) a j):lsum h1 t1 l i j k=lsum h2 t2 l i j k:=by
 show lo _=lo _;congr 1;refine List.map_congr_left λb hb=>?_;have:=List.mem_range.mp hb;rw [eh _ (by omega) (by omega),et _ (by omega) (by omega)]
structure Put (ps ws:List Int) (h t h' t':Nat->Nat->Nat->OI) (i j:Nat) (fl:OI) (m:Nat):Prop where
 oh:∀ l a b,¬ (a=i/\b=j)->h' l a b=h l a b
 ot:∀ l a b,¬ (a=i/\b=j)->t' l a b=t l a b
 oe:t' ps.length i j=t ps.length i j
 eh:∀ l,ps.length - m<=l->l < ps.length->h' l i j=oadd (some (pl ps l * Wt ws i j)) fl
 et:∀ l,ps.length - m<=l->l < ps.length->t' l i j=lo [lsum h' t' l i j j,t' (l+1) i j]
theorem Put.step {ps ws:List Int} {h t h' t':Nat->Nat->Nat->OI} {i j:Nat} {fl:OI} {m l:Nat} (u:Put ps ws h t h' t' i j fl m) (hm:m < ps.length) (el:l=ps.length - 1 - m) :
  Put ps ws h t (up3 h' l i j (oadd (some (pl ps l * Wt ws i j)) fl)) (up3 t' l i j (lo [lsum (up3 h' l i j (oadd (some (pl ps l * Wt ws i j)) fl)) t' l i j j,t' (l+1) i j])) i j fl (m+1):=by
 generalize ev:oadd (some (pl ps l * Wt ws i j)) fl=v;have hT:∀ l',l'≠l->∀ v2 a b,up3 t' l i j v2 l' a b=t' l' a b:=λl' hne v2 a b=>a2G λz=>hne z.1;have hH:∀ l',l'≠l->∀ a b,up3 h' l i j v l' a b=h' l' a b:=λl' hne a b=>a2G λz=>hne z.1;generalize ev2:lo [lsum (up3 h' l i j v) t' l i j j,t' (l+1) i j]=v2;refine ⟨λl' a b z=>?_,λl' a b z=>?_,?_,λl' h1 h2=>?_,λl' h1 h2=>?_⟩
 ·rw [a2G λy=>z ⟨y.2.1,y.2.2⟩];exact u.oh l' a b z
 ·rw [a2G λy=>z ⟨y.2.1,y.2.2⟩];exact u.ot l' a b z
 ·rw [hT _ (by omega)];exact u.oe
 ·by_cases e:l'=l
  ·subst e;rw [a6J];exact ev.symm
  ·rw [hH l' e];exact u.eh l' (by omega) h2
 ·by_cases e:l'=l
  ·subst e;rw [a6J,<-ev2,hT (l'+1) (by omega)];congr 2;exact a1Y (λ_ _ _=>rfl) λa _ _=>(hT (l'+1) (by omega) _ a j).symm
  ·rw [hT l' e,u.et l' (by omega) h2,hT (l'+1) (by omega)];congr 2;exact a1Y (λb _ _=>(hH l' e i b).symm) λa _ _=>(hT (l'+1) (by omega) v2 a j).symm
abbrev NPt:List Str:=["self","first","end","floor","weight","letter","with_letter"]
def spPut (C:Addr):Sp:=λvs H Q _=>∃ (r p:Addr) (ps ws:List Int) (X:Ad) (h t:Nat->Nat->Nat->OI) (i j:Nat) (fl:OI),vs=[.ref r,.int (i:Int),.int (j:Int),oV fl]/\PAt C H r p ps ws X h t/\ws.length<=24/\1<=ps.length/\ps.length<=10/\Bw ps/\Bw ws/\i < j/\j<=ws.length /\
 ∀ H' h' t',KZ X ps.length (ws.length+1) H H'->PAt C H' r p ps ws X h' t'->Put ps ws h t h' t' i j fl ps.length->Q .non H'
theorem b0U:a0k NPt ["self","first","end","floor"] (a0g sPut):=fsk
theorem a8P {ws:List Int} {k:Nat} (h:k<=ws.length):atI ((sums ws ws.length).map V.int) (k:Int)=some (.int (ws.take k).sum):=by
 unfold sums;rw [List.map_map];exact a0s (f:=λi=>V.int (ws.take i).sum) (by omega)
theorem at_pl {ps:List Int} {l:Nat} (h:l < ps.length):atI (ps.map V.int) (l:Int)=some (.int (pl ps l)):=by
 rw [a3I (List.getElem?_eq_getElem h)];unfold pl;rw [List.getD_eq_getElem?_getD,List.getElem?_eq_getElem h];rfl
theorem pl_bd {ps:List Int} (b:Bw ps) (l:Nat):0<=pl ps l/\pl ps l<=B30:=by
 unfold pl;rw [List.getD_eq_getElem?_getD];cases e:ps[l]? with
 | none=>exact ⟨by show (0:Int)<=0;omega,by show (0:Int)<=B30;decide⟩
 | some x=>exact b x (List.mem_of_getElem? e)
theorem ok_put {C:Addr} (F:Fun K "put" "Parted.put" sPut f fd) (GL:Fns P w K mg base ["numbers"] "least" a4p 2) (GA:Fns P w K mg base ["one","other"] "added" a4q 2) (M:Mt P w K mg base C "least_sum" ["self","letter","first","end","last"] (spLs C) 2) (rc:PC K C) (ml:mg "len"=none) (mr:mg "range"=none):a0M P w K mg base CX0 3 f fd ["self","first","end","floor"] (spPut C):=by
 refine F.ok (k:=2) b0U (λvs H Q E h=>?_) (λcdv A outer s H vs Q E hr h=>?_)
 ·obtain ⟨r,p,ps,ws,X,h,t,i,j,fl,rfl,_⟩:=h;rfl
 obtain ⟨r,p,ps,ws,X,h,t,i,j,fl,rfl,pa,w20,p1,p10,bp,bw,hij,hj,q⟩:=h;refine ⟨_,a0c (psA (i:=4) b0U (a0l a1k (pxA a0j (a0F (pv 0) rfl) (pv 2)) (pxA a0j (a0F (pv 0) rfl) (pv 1))))
  (a0h (a1n PassesOwn.never rfl (a3f (by rfl) mr (a0a (a0l a1k (pln ml (a0F (pv 0) rfl)) a0e) (a0a (a2r a1w a0e) (a0a (a2r a1w a0e) a0d)))) (pgA (i:=5) b0U)
   (a0c (a2C (pcF GA hr (a0a (a0l a3d (pxA a0y (a0F (pv 0) rfl) (pv 5)) (pv 4)) (a0a (pv 3) a0d))) (a4N (pxA a0j (pxA a0j (a0F (pv 0) rfl) (pv 5)) (pv 1)) (pv 2) a2j))
   (a0c (psA (i:=6) b0U (a0P (pv 0) rc.c M.m M.ok hr M.b .nil a0Y (a0a (pv 5) (a0a (pv 1) (a0a (pv 2) (a0a (pv 2) a0d))))))
   (a0h (a2C (pcF GL hr (a0a (a0X (a0a (pv 6) (a0a (pxA a0j (pxA a0j (pxA a0j (a0F (pv 0) rfl) (a0l a0t (pv 5) a0e)) (pv 1)) (pv 2)) a0d))) a0d)) (a4N (pxA a0j (pxA a0j (a0F (pv 0) rfl) (pv 5)) (pv 1)) (pv 2) a2j))))))),?_⟩
 obtain ⟨dx,ho⟩:=pa.ob;refine ⟨_,rfl,r,C,dx,_,_,rfl,ho,rc.c,rc.ns,rfl,_,rfl,X.su,_,_,_,rfl,rfl,SqL.of pa.su,a8P hj,_,rfl,r,C,dx,_,_,rfl,ho,rc.c,rc.ns,rfl,_,rfl,X.su,_,_,_,rfl,rfl,SqL.of pa.su,a8P (k:=i) (by omega),_,_,rfl,rfl,?_⟩;have eW:(λ(x y:Int)=>V.int (x - y)) (ws.take j).sum (ws.take i).sum=.int (Wt ws i j):=rfl;dsimp only at eW ⊢;rw [eW];have wb:=Wt_bd (Nat.le_of_lt hij) bw w20;refine ⟨_,rfl,r,C,dx,_,_,rfl,ho,rc.c,rc.np,rfl,p,_,rfl,.inr (SqT.of pa.hp),_,_,rfl,rfl,_,rfl,_,rfl,_,rfl,⟨by rw [List.length_map];omega,by rw [List.length_map];omega⟩,?_⟩;rw [List.length_map,show ((ps.length:Int) - 1+1).toNat=ps.length by omega];have i1:i < ws.length+1:=by omega
 have j1:j < ws.length+1:=by omega
 refine a2x (λm σ H'=>KZ X ps.length (ws.length+1) H H'/\(∃ h' t',PAt C H' r p ps ws X h' t'/\Put ps ws h t h' t' i j fl m)/\∃ x5 x6:Option V,σ=[some (.ref r),some (.int (i:Int)),some (.int (j:Int)),some (oV fl),some (.int (Wt ws i j)),x5,x6])
  ⟨λ_ _ _ e=>e,⟨h,t,pa,λ_ _ _ _=>rfl,λ_ _ _ _=>rfl,rfl,λl a b=>by omega,λl a b=>by omega⟩,_,_,rfl⟩ (λm σ H1 hm hP=>?_) (λσ H1 hP=>?_)
 ·obtain ⟨k1,⟨h',t',pa1,u⟩,x5,x6,rfl⟩:=hP;obtain ⟨l,el⟩:∃ l,l=ps.length - 1 - m:=⟨_,rfl⟩
  have ev:(ps.length:Int) - 1+(m:Int) * (-1)=(l:Int):=by omega
  rw [ev];have hl:l < ps.length:=by omega
  obtain ⟨dx1,ho1⟩:=pa1.ob;have pb:=pl_bd bp l;refine ⟨_,rfl,r,C,dx1,_,_,rfl,ho1,rc.c,rc.np,rfl,_,rfl,p,_,_,_,rfl,rfl,SqT.of pa1.hp,at_pl hl,_,rfl,_,_,rfl,rfl,⟨⟨pb.1,by unfold B30 at *;omega⟩,⟨wb.1,by unfold B30 at *;omega⟩⟩,_,rfl,some (pl ps l * Wt ws i j),fl,rfl,?_⟩;refine ⟨_,rfl,r,C,dx1,_,_,rfl,ho1,rc.c,rc.nh,rfl,_,rfl,X.th,_,_,_,rfl,rfl,SqL.of pa1.hd.o,a0s hl,_,rfl,X.bh l,_,_,_,rfl,rfl,SqL.of (pa1.hd.b l hl),a0s i1,_,rfl,X.ch l i,_,_,j,rfl,rfl,pa1.hd.c l i hl i1,(by rw [List.length_map,List.length_range];exact a3k j1),?_⟩;have pa2:=pa1.puth (v:=oadd (some (pl ps l * Wt ws i j)) fl) hl i1 j1;have k2:KZ X ps.length (ws.length+1) H (upd H1 (X.ch l i) (.lst (((List.range (ws.length+1)).map λk=>oV (h' l i k)).set j (oV (oadd (some (pl ps l * Wt ws i j)) fl))))):=λa o hz e=>by
   rw [a0i (λz=>hz (.inl ⟨l,i,hl,i1,z⟩))];exact k1 a o hz e
  generalize upd H1 (X.ch l i) (.lst (((List.range (ws.length+1)).map λk=>oV (h' l i k)).set j (oV (oadd (some (pl ps l * Wt ws i j)) fl))))=H2 at pa2 k2 ⊢;obtain ⟨dx2,ho2⟩:=pa2.ob;refine ⟨_,rfl,r,dx2,_,rfl,ho2,rfl,_,rfl,_,rfl,_,rfl,_,rfl,r,p,ps,ws,X,_,t',l,i,j,j,rfl,pa2,w20,hl,by omega,hj,hj,λH3 s3=>?_⟩;have pa3:=pa2.same s3;have k3:KZ X ps.length (ws.length+1) H H3:=λa o hz e=>s3 _ _ (k2 a o hz e);obtain ⟨dx3,ho3⟩:=pa3.ob;have l1:l+1 < ps.length+1:=by omega
  refine ⟨_,rfl,_,rfl,r,C,dx3,_,_,rfl,ho3,rc.c,rc.nt,rfl,_,rfl,_,_,rfl,rfl,X.tt,_,_,_,rfl,rfl,SqL.of pa3.tl.o,a0s l1,_,rfl,X.bt (l+1),_,_,_,rfl,rfl,SqL.of (pa3.tl.b _ l1),a0s i1,_,rfl,X.ct (l+1) i,_,_,_,rfl,rfl,SqL.of (pa3.tl.c _ i l1 i1),a0s j1,(by show 2<=sizeLine;decide),λe1 he1=>?_⟩;have s4:=a0f he1 (.lst [oV (lsum (up3 h' l i j (oadd (some (pl ps l * Wt ws i j)) fl)) t' l i j j),oV (t' (l+1) i j)]);have g4:upd H3 e1 (.lst [oV (lsum (up3 h' l i j (oadd (some (pl ps l * Wt ws i j)) fl)) t' l i j j),oV (t' (l+1) i j)]) e1=some (.lst (([lsum (up3 h' l i j (oadd (some (pl ps l * Wt ws i j)) fl)) t' l i j j,t' (l+1) i j]:List OI).map oV)):=a0b;generalize upd H3 e1 (.lst [oV (lsum (up3 h' l i j (oadd (some (pl ps l * Wt ws i j)) fl)) t' l i j j),oV (t' (l+1) i j)])=H4 at s4 g4 ⊢;refine ⟨e1,_,rfl,g4,by show 2<=100;decide,λH5 s5=>?_⟩;have pa5:=pa3.same (s4.trans s5);have k5:KZ X ps.length (ws.length+1) H H5:=λa o hz e=>(s4.trans s5) _ _ (k3 a o hz e);obtain ⟨dx5,ho5⟩:=pa5.ob;have l2:l < ps.length+1:=by omega
  refine ⟨_,rfl,r,C,dx5,_,_,rfl,ho5,rc.c,rc.nt,rfl,_,rfl,X.tt,_,_,_,rfl,rfl,SqL.of pa5.tl.o,a0s l2,_,rfl,X.bt l,_,_,_,rfl,rfl,SqL.of (pa5.tl.b _ l2),a0s i1,_,rfl,X.ct l i,_,_,j,rfl,rfl,pa5.tl.c l i l2 i1,(by rw [List.length_map,List.length_range];exact a3k j1),?_⟩;refine ⟨λa o hz e=>?_,⟨_,_,pa5.putt p1 l2 i1 j1,u.step hm el⟩,_,_,rfl⟩;rw [a0i (λz=>hz (.inr ⟨l,i,l2,i1,z⟩))];exact k5 a o hz e
 ·obtain ⟨k1,⟨h',t',pa1,u⟩,x5,x6,rfl⟩:=hP;exact q H1 h' t' k1 pa1 u
end K56
set_option exponentiation.threshold 2000
namespace K56
open PySem L2
def Dn (f e i j:Nat):Prop:=f < i\/(i=f/\j < e)
abbrev most (ps ws:List Int) (F:Nat->Nat->OI) (i j:Nat):OI:=lo (((PaL ps.length 0 i j).filter λr=>decide (1 < r.length)).map λr=>cost (pl ps) (Wt ws) F r)
def bdO (ps ws:List Int) (F:Nat->Nat->OI) (i j:Nat):OI:=if j - i=1 then some 0 else most ps ws F i j
theorem a5g {L:Nat} {h t h' t':Nat->Nat->Nat->OI} {i j:Nat} (hij:i < j) (eh:∀ l b,i < b->b < j->h' l i b=h l i b) (et:∀ l a,i < a->a < j->t' l a j=t l a j):bnd L h' t' i j=bnd L h t i j:=by
 unfold bnd;split
 ·rfl
 ·congr 1;refine List.map_congr_left λl _=>?_;exact a1Y (k:=j - 1) (λb h1 h2=>eh l b h1 (by omega)) λa h1 h2=>et (l+1) a h1 (by omega)
structure Num (ps ws:List Int):Prop where
 p2:2<=ps.length
 p10:ps.length<=10
 w1:1<=ws.length
 w20:ws.length<=24
 bp:Bw ps
 bw:Bw ws
structure Cl (P:Program) (w:World) (K:PySem.W.Frag) (mg:Str->Option Value) (base:Heap) (C:Addr) where
 rc:PC K C
 g:mg "Parted"=some (.ref C)
 fi:Addr
 di:FuncData
 mkk:Mk K C fi
 oki:a0M P w K mg base CX0 3 fi di ["self","prices","weights"] (a8M C)
 bi:a1r K di ["self","prices","weights"] []
end K56
set_option exponentiation.threshold 2000
namespace K56
open PySem L2
structure Fin (ps ws:List Int) (h t:Nat->Nat->Nat->OI) (F:Nat->Nat->OI) (pr:Nat->Nat->Prop):Prop where
 dg:∀ l i,l<=ps.length->i<=ws.length->t l i i=some 0
 ed:∀ i j,i < j->j<=ws.length->t ps.length i j=none
 eq:∀ i j,i < j->j<=ws.length->pr i j->Eqs (pl ps) (Wt ws) F ps.length h t i j
theorem Fin.weak {ps ws:List Int} {h t:Nat->Nat->Nat->OI} {F:Nat->Nat->OI} {pr pr':Nat->Nat->Prop} (a:Fin ps ws h t F pr) (h1:∀ i j,i < j->j<=ws.length->pr' i j->pr i j):Fin ps ws h t F pr' :=
 ⟨a.dg,a.ed,λi j hij hj hp=>a.eq i j hij hj (h1 i j hij hj hp)⟩
theorem Fin.step {ps ws:List Int} {h t h' t':Nat->Nat->Nat->OI} {F:Nat->Nat->OI} {f e:Nat} (a:Fin ps ws h t F (Dn f e)) (hfe:f < e) (he:e<=ws.length) (u:Put ps ws h t h' t' f e (F f e) ps.length):Fin ps ws h' t' F (Dn f (e+1)):=by
 refine ⟨λl i hl hi=>?_,λi j hij hj=>?_,λi j hij hj hp=>?_⟩
 ·rw [u.ot l i i (by omega)];exact a.dg l i hl hi
 ·by_cases z:i=f/\j=e
  ·rw [z.1,z.2,u.oe];exact a.ed f e hfe he
  ·rw [u.ot _ i j z];exact a.ed i j hij hj
 ·by_cases z:i=f/\j=e
  ·obtain ⟨rfl,rfl⟩:=z;refine ⟨λl hl=>?_,λl hl=>u.et l (by omega) hl⟩;rw [u.eh l (by omega) hl]
  ·have d:Dn f e i j:=by
    rcases hp with y | y
    ·exact .inl y
    ·exact .inr ⟨y.1,by omega⟩
   have E:=a.eq i j hij hj d;have nh:∀ b,i < b->b<=j->¬ (i=f/\b=e):=λb h1 h2 y=>by
    rcases d with w | w <;> omega
   have nt:∀ x,i < x->x<=j->¬ (x=f/\j=e):=λx h1 h2 y=>by
    rcases d with w | w <;> omega
   refine ⟨λl hl=>?_,λl hl=>?_⟩
   ·rw [u.oh l i j z];exact E.eh l hl
   ·rw [u.ot l i j z,u.ot (l+1) i j z,E.et l hl];congr 2;exact (a1Y (k:=j) (λb h1 h2=>u.oh l i b (nh b h1 h2)) λx h1 h2=>u.ot (l+1) x j (nt x h1 h2)).symm
theorem Fin.bdO {ps ws:List Int} {h t:Nat->Nat->Nat->OI} {F:Nat->Nat->OI} (a:Fin ps ws h t F (λ_ _=>True)):∀ i j,i < j->j<=ws.length->bnd ps.length h t i j=bdO ps ws F i j:=λf e hfe he=>by
 unfold K56.bdO;by_cases e1:e - f=1
 ·unfold bnd;rw [if_pos e1,if_pos e1]
 ·rw [if_neg e1];exact b0J (p:=pl ps) (W:=Wt ws) (F:=F) a.dg a.ed (λl c hl h1 h2=>(a.eq f c h1 (by omega) trivial).eh l hl) (λx y h1 h2 h3=>a.eq x y h2 h3 trivial) (by omega) he
def up2 (F:Nat->Nat->OI) (i j:Nat) (v:OI):Nat->Nat->OI:=λa b=>if a=i/\b=j then v else F a b
theorem a5h {p:Nat->Int} {W:Nat->Nat->Int} {F:Nat->Nat->OI}:∀ {r:Pa},cost p W F r=none↔∃ q∈r,F q.1 q.2.1=none
 | []=>⟨λz=>(by cases z),λ⟨q,h,_⟩=>(by cases h)⟩
 | q :: r=>by
  have ih:=a5h (p:=p) (W:=W) (F:=F) (r:=r);show oadd (part p W F q) (cost p W F r)=none↔_;unfold part;cases e1:F q.1 q.2.1 with
  | none=>exact ⟨λ_=>⟨q,.head _,e1⟩,λ_=>rfl⟩
  | some v =>
   cases e2:cost p W F r with
   | none =>
    obtain ⟨q',h',e'⟩:=ih.mp e2;exact ⟨λ_=>⟨q',.tail _ h',e'⟩,λ_=>rfl⟩
   | some u =>
    refine ⟨λz=>(by cases z),λ⟨q',h',e'⟩=>?_⟩;rcases List.mem_cons.mp h' with z | z
    ·rw [z,e1] at e';cases e'
    ·rw [ih.mpr ⟨q',z,e'⟩] at e2;cases e2
structure Fln (ps ws:List Int) (h t:Nat->Nat->Nat->OI) (F:Nat->Nat->OI) (pr:Nat->Nat->Prop):Prop where
 fin:Fin ps ws h t F pr
 bd:∀ i j,i < j->j<=ws.length->pr i j->bnd ps.length h t i j=F i j
theorem Fln.weak {ps ws:List Int} {h t:Nat->Nat->Nat->OI} {F:Nat->Nat->OI} {pr pr':Nat->Nat->Prop} (a:Fln ps ws h t F pr) (h1:∀ i j,i < j->j<=ws.length->pr' i j->pr i j):Fln ps ws h t F pr' :=
 ⟨a.fin.weak h1,λi j hij hj hp=>a.bd i j hij hj (h1 i j hij hj hp)⟩
theorem Fln.step {ps ws:List Int} {h t h' t':Nat->Nat->Nat->OI} {F:Nat->Nat->OI} {f e:Nat} (a:Fln ps ws h t F (Dn f e)) (hfe:f < e) (he:e<=ws.length) (u:Put ps ws h t h' t' f e (bnd ps.length h t f e) ps.length):∃ F',Fln ps ws h' t' F' (Dn f (e+1)):=by
 have nd:∀ {i j},Dn f e i j->¬ (i=f/\j=e):=λd z=>by rcases d with w | w <;> omega
 have ef:up2 F f e (bnd ps.length h t f e) f e=bnd ps.length h t f e:=by unfold up2;rw [if_pos ⟨rfl,rfl⟩]
 have a':Fin ps ws h t (up2 F f e (bnd ps.length h t f e)) (Dn f e):=⟨a.fin.dg,a.fin.ed,λi j hij hj hp=>⟨λl hl=>by
  unfold up2;rw [if_neg (nd hp)];exact (a.fin.eq i j hij hj hp).eh l hl,(a.fin.eq i j hij hj hp).et⟩⟩
 refine ⟨up2 F f e (bnd ps.length h t f e),a'.step hfe he (by rw [ef];exact u),λi j hij hj hp=>?_⟩;by_cases z:i=f/\j=e
 ·obtain ⟨rfl,rfl⟩:=z;rw [ef,a5g hij (λl b h1 h2=>u.oh l i b (by omega)) (λl x h1 h2=>u.ot l x j (by omega))]
 ·have d:Dn f e i j:=by
   rcases hp with y | y
   ·exact .inl y
   ·exact .inr ⟨y.1,by omega⟩
  unfold up2;rw [if_neg z,a5g hij (λl b h1 h2=>u.oh l i b (λy=>by rcases d with w | w <;> omega)) (λl x h1 h2=>u.ot l x j (λy=>by rcases d with w | w <;> omega))];exact a.bd i j hij hj d
theorem Fln.own {ps ws:List Int} {h t:Nat->Nat->Nat->OI} {F:Nat->Nat->OI} (a:Fln ps ws h t F (λ_ _=>True)):∀ i j,i < j->j<=ws.length->F i j=bdO ps ws F i j:=λi j hij hj=>by
 rw [<-a.bd i j hij hj trivial];exact a.fin.bdO i j hij hj
abbrev NPl:List Str:=["prices","weights","parted","first","end"]
def spPl (C:Addr):Sp:=λvs H Q _=>∃ (p q:Addr) (ps ws:List Int),vs=[.ref p,.ref q]/\TW H p ps/\TW H q ws/\Num ps ws/\∀ (r:Addr) X h t F H',a0p H H'->PAt C H' r p ps ws X h t->Fln ps ws h t F (λ_ _=>True)->Q (.ref r) H'
theorem scPl:a0k NPl ["prices","weights"] (a0g sPl):=fsk
theorem ok_pl {C:Addr} (F:Fun K "parted_least" "parted_least" sPl f fd) (cl:Cl P w K mg base C) (MP:Mt P w K mg base C "put" ["self","first","end","floor"] (spPut C) 4) (MB:Mt P w K mg base C "bound" ["self","first","end"] (a5V C) 4) (ml:mg "len"=none) (mr:mg "range"=none):a0M P w K mg base CX0 5 f fd ["prices","weights"] (spPl C):=by
 refine F.ok (k:=4) scPl (λvs H Q E h=>?_) (λcdv A outer s H vs Q E hr h=>?_)
 ·obtain ⟨p,q,ps,ws,rfl,_⟩:=h;rfl
 obtain ⟨p,q,ps,ws,rfl,hp,hq,nu,qq⟩:=h;obtain ⟨p2,p10,w1,w20,bp,bw⟩:=nu;refine ⟨_,a0c (psA (i:=2) scPl (a4b cl.mkk cl.oki hr (by rfl) cl.g cl.bi .nil a0Y (a0a (pv 0) (a0a (pv 1) a0d))))
  (a0c (a1n PassesOwn.never rfl (a3f (by rfl) mr (a0a (a0l a1k (pln ml (pv 1)) a0e) (a0a (a2r a1w a0e) (a0a (a2r a1w a0e) a0d)))) (pgA (i:=3) scPl)
   (a0h (a1n PassesOwn.never rfl (a1v (by rfl) mr (a0a (a0l a0t (pv 3) a0e) (a0a (a0l a0t (pln ml (pv 1)) a0e) a0d))) (pgA (i:=4) scPl)
    (a0h (a1h (a0P (pv 2) cl.rc.c MP.m MP.ok hr MP.b .nil a0Y (a0a (pv 3) (a0a (pv 4) (a0a (a0P (pv 2) cl.rc.c MB.m MB.ok hr MB.b .nil a0Y (a0a (pv 3) (a0a (pv 4) a0d))) a0d)))))))))
  (a0h (a0o (pv 2)))),?_⟩
 refine ⟨_,rfl,_,rfl,λr dx rn hdx _=>?_⟩;have sm:a0p H (upd (upd H dx (.own r)) r (.ins C dx [])):=a0n rn (a0f hdx _);refine ⟨r,dx,p,q,ps,ws,rfl,a0b,sm _ _ hp,sm _ _ hq,by omega,p10,w20,λH1 X k1 pa1 fz=>⟨rfl,?_⟩⟩;have s1:a0p H H1:=λa o e=>k1 a o (λz=>by rw [z,rn] at e;cases e) (sm a o e);have fz':∀ a,Z X ps.length (ws.length+1) a->H a=none:=λa hz=>sm.free (fz a hz);have nz:∀ {a o},H a=some o->¬ Z X ps.length (ws.length+1) a:=λe hz=>by rw [fz' _ hz] at e;cases e
 have st0:∃ F,Fln ps ws h0 t0 F (λi _=>ws.length<=i):=⟨λ_ _=>none,⟨λl i _ _=>if_pos rfl,λi j hij _=>if_neg (by omega),λi j hij hj hp=>absurd hp (by show ¬ ws.length<=i;omega)⟩,λi j hij hj hp=>absurd hp (by show ¬ ws.length<=i;omega)⟩
 refine ⟨_,rfl,q,_,rfl,.inr (SqT.of (s1 _ _ hq)),_,_,rfl,rfl,_,rfl,_,rfl,_,rfl,⟨by rw [List.length_map];omega,by rw [List.length_map];omega⟩,?_⟩;rw [List.length_map,show ((ws.length:Int) - 1+1).toNat=ws.length by omega];refine a2x (λm σ H'=>a0p H H'/\(∃ h t F,PAt C H' r p ps ws X h t/\Fln ps ws h t F (λi _=>ws.length - m<=i))/\∃ x3 x4:Option V,σ=[some (.ref p),some (.ref q),some (.ref r),x3,x4])
  ⟨s1,(by obtain ⟨F,hF⟩:=st0;exact ⟨h0,t0,F,pa1,hF⟩),_,_,rfl⟩ (λm σ H2 hm hP=>?_) (λσ H2 hP=>?_)
 ·obtain ⟨s2,⟨h,t,F,pa2,fn2⟩,x3,x4,rfl⟩:=hP;obtain ⟨f,ef⟩:∃ f,f=ws.length - 1 - m:=⟨_,rfl⟩
  have ev:(ws.length:Int) - 1+(m:Int) * (-1)=(f:Int):=by omega
  rw [ev];have hf:f < ws.length:=by omega
  refine ⟨_,rfl,_,_,rfl,rfl,_,rfl,q,_,rfl,.inr (SqT.of (s2 _ _ hq)),_,_,rfl,rfl,_,_,rfl,⟨by omega,by omega,by rw [List.length_map];omega,by rw [List.length_map];omega⟩,?_⟩;refine a1j (λk σ H'=>a0p H H'/\(∃ h t F,PAt C H' r p ps ws X h t/\Fln ps ws h t F (Dn f (f+1+k)))/\∃ x4:Option V,σ=[some (.ref p),some (.ref q),some (.ref r),some (.int (f:Int)),x4])
   ⟨s2,⟨h,t,F,pa2,fn2.weak λi j hij hj d=>by show ws.length - m<=i;rcases d with z | z <;> omega⟩,_,rfl⟩ (λk σ H3 hk hP=>?_) (λσ H3 hP=>?_)
  ·obtain ⟨s3,⟨h3,t3,F3,pa3,fn3⟩,x4,rfl⟩:=hP;have hk':f+1+k<=ws.length:=by
    have:(ws.map V.int).length=ws.length:=List.length_map ..;omega
   have ee:(f:Int)+1+(k:Int)=((f+1+k:Nat):Int):=by push_cast;omega
   rw [ee];obtain ⟨dx3,ho3⟩:=pa3.ob;refine ⟨_,rfl,r,dx3,_,rfl,ho3,rfl,_,rfl,_,rfl,_,rfl,r,dx3,_,rfl,ho3,rfl,_,rfl,_,rfl,r,p,ps,ws,X,h3,t3,f,f+1+k,rfl,pa3,w20,p10,by omega,hk',λH4 s4=>?_⟩;refine ⟨r,p,ps,ws,X,h3,t3,f,f+1+k,_,rfl,pa3.same s4,w20,by omega,p10,bp,bw,by omega,hk',λH5 h5 t5 k5 pa5 u=>?_⟩;obtain ⟨F5,fn5⟩:=fn3.step (by omega) hk' u;exact ⟨λa o e=>k5 a o (nz e) (s4 _ _ (s3 _ _ e)),⟨h5,t5,F5,pa5,fn5⟩,_,rfl⟩
  ·obtain ⟨s3,⟨h3,t3,F3,pa3,fn3⟩,x4,rfl⟩:=hP;have en:(((((ws.map V.int).length:Nat):Int)+1) - ((f:Int)+1)).toNat=ws.length - f:=by rw [List.length_map];omega
   rw [en] at fn3;exact ⟨s3,⟨h3,t3,F3,pa3,fn3.weak λi j hij hj d=>by
    have d:ws.length - (m+1)<=i:=d;by_cases z:f < i
    ·exact .inl z
    ·exact .inr ⟨by omega,by omega⟩⟩,_,_,rfl⟩
 ·obtain ⟨s2,⟨h,t,F,pa2,fn2⟩,x3,x4,rfl⟩:=hP;exact ⟨_,rfl,qq r X h t F H2 s2 pa2 (fn2.weak λi j _ _ _=>by show ws.length - ws.length<=i;omega)⟩
end K56
set_option exponentiation.threshold 2000
namespace K56
open PySem L2
namespace CT
def mi (xs:List Int):OI:=lo (xs.map some)
def ct (xs:List Int):Nat:=match mi xs with
 | none=>0
 | some m=>xs.count m
theorem a0Q {xs:List Int} {m:Int}:mi xs=some m↔m∈xs/\∀ k∈xs,m<=k:=by
 unfold mi;rw [a1a];constructor
 ·rintro ⟨h1,h2⟩;obtain ⟨x,hx,e⟩:=List.mem_map.mp h1;cases e;exact ⟨hx,λk hk=>h2 k (List.mem_map.mpr ⟨k,hk,rfl⟩)⟩
 ·rintro ⟨h1,h2⟩;refine ⟨List.mem_map.mpr ⟨m,h1,rfl⟩,λk hk=>?_⟩;obtain ⟨x,hx,e⟩:=List.mem_map.mp hk;cases e;exact h2 _ hx
theorem a1l {xs:List Int}:mi xs=none↔xs=[]:=by
 unfold mi;rw [a1C];constructor
 ·intro h;cases xs with
  | nil=>rfl
  | cons x xs=>exact absurd (.head _) (h x)
 ·rintro rfl k hk;cases hk
theorem a4r {xs:List Int} {m:Int} (h:mi xs=some m):ct xs=xs.count m:=by unfold ct;rw [h]
theorem a8Q {α:Type} (B:List α) (X:α->List Int):mi (B.flatMap X)=lo (B.map λb=>mi (X b)):=by
 unfold mi;rw [List.map_flatMap,a3h]
theorem a8R {α:Type} {X:α->List Int} {m:Int}:∀ (B:List α),(∀ b∈B,∀ k∈X b,m<=k)->(B.flatMap X).count m=((B.filter λb=>decide (mi (X b)=some m)).map λb=>ct (X b)).sum
 | [],_=>rfl
 | b :: B,h=>by
  have ih:=a8R B λc hc=>h c (.tail _ hc);rw [List.flatMap_cons,List.count_append,ih,List.filter_cons];by_cases e:mi (X b)=some m
  ·rw [if_pos (decide_eq_true e),List.map_cons,List.sum_cons,a4r e]
  ·rw [if_neg (by rw [decide_eq_false e];decide)];have:(X b).count m=0:=by
    refine List.count_eq_zero.mpr λhm=>e ?_;exact a0Q.mpr ⟨hm,λk hk=>h b (.head _) k hk⟩
   omega
def sums (k:Int) (as bs:List Int):List Int:=as.flatMap λa=>bs.map λb=>k+a+b
theorem a5W (k:Int) (as bs:List Int):mi (sums k as bs)=oadd (oadd (some k) (mi as)) (mi bs):=by
 cases ea:mi as with
 | none =>
  rw [a1l.mp ea];exact a1l.mpr rfl
 | some a =>
  cases eb:mi bs with
  | none =>
   rw [a1l.mp eb];refine a1l.mpr ?_;unfold sums;rw [List.flatMap_eq_nil_iff];intro x _;rfl
  | some b =>
   obtain ⟨a1,a2⟩:=a0Q.mp ea;obtain ⟨b1,b2⟩:=a0Q.mp eb;refine a0Q.mpr ⟨List.mem_flatMap.mpr ⟨a,a1,List.mem_map.mpr ⟨b,b1,rfl⟩⟩,λx hx=>?_⟩;obtain ⟨a',ha,hx⟩:=List.mem_flatMap.mp hx;obtain ⟨b',hb,rfl⟩:=List.mem_map.mp hx;have:=a2 a' ha;have:=b2 b' hb;omega
theorem a2l (k m:Int):∀ bs:List Int,(bs.map λb=>k+b).count m=bs.count (m - k)
 | []=>rfl
 | b :: bs=>by
  rw [List.map_cons,List.count_cons,List.count_cons,a2l k m bs];congr 1;by_cases e:k+b=m
  ·have e2:b=m - k:=by omega
   rw [if_pos (beq_iff_eq.mpr e),if_pos (beq_iff_eq.mpr e2)]
  ·have e2:¬ b=m - k:=by omega
   rw [if_neg (λz=>e (beq_iff_eq.mp z)),if_neg (λz=>e2 (beq_iff_eq.mp z))]
theorem b3D (k:Int) (as bs:List Int):ct (sums k as bs)=ct as * ct bs:=by
 cases ea:mi as with
 | none =>
  rw [a1l.mp ea];show ct []=ct [] * _;have:ct []=0:=by unfold ct;rw [a1l.mpr rfl]
  rw [this,Nat.zero_mul]
 | some a =>
  cases eb:mi bs with
  | none =>
   have e0:sums k as bs=[]:=by
    rw [a1l.mp eb];unfold sums;rw [List.flatMap_eq_nil_iff];intro x _;rfl
   have:ct []=0:=by unfold ct;rw [a1l.mpr rfl]
   rw [e0,a1l.mp eb,this,Nat.mul_zero]
  | some b =>
   obtain ⟨a1,a2⟩:=a0Q.mp ea;obtain ⟨b1,b2⟩:=a0Q.mp eb;have es:mi (sums k as bs)=some (k+a+b):=by rw [a5W,ea,eb];rfl
   rw [a4r es,a4r ea,a4r eb];unfold sums;have key:∀ xs:List Int,(∀ x∈xs,a<=x)->(xs.flatMap λa'=>bs.map λb'=>k+a'+b').count (k+a+b)=xs.count a * bs.count b:=by
    intro xs
    induction xs with
    | nil=>intro _;simp
    | cons x xs ih =>
     intro h;rw [List.flatMap_cons,List.count_append,ih λy hy=>h y (.tail _ hy),a2l (k+x),List.count_cons];by_cases e:x=a
     ·subst e;rw [show k+x+b - (k+x)=b by omega,if_pos (by simp),Nat.add_mul];omega
     ·have hx:=h x (.head _);have:bs.count (k+a+b - (k+x))=0:=by
       refine List.count_eq_zero.mpr λhm=>?_;have:=b2 _ hm;omega
      rw [this,if_neg (by simpa using e),Nat.add_zero,Nat.zero_add]
   exact key as a2
abbrev Code:=List (List Int)
def Bk (L l m:Nat):List (Nat × Nat):=(List.range (L - l)).flatMap λa=>(List.range m).map λb=>(l+a,b)
theorem a0v {L l m:Nat} {q:Nat × Nat}:q∈Bk L l m↔l<=q.1/\q.1 < L/\q.2 < m:=by
 unfold Bk;constructor
 ·intro h;obtain ⟨a,ha,h⟩:=List.mem_flatMap.mp h;obtain ⟨b,hb,rfl⟩:=List.mem_map.mp h;have:=List.mem_range.mp ha;have:=List.mem_range.mp hb;exact ⟨by show l<=l+a;omega,by show l+a < L;omega,by assumption⟩
 ·rintro ⟨h1,h2,h3⟩;refine List.mem_flatMap.mpr ⟨q.1 - l,List.mem_range.mpr (by omega),List.mem_map.mpr ⟨q.2,List.mem_range.mpr h3,?_⟩⟩;rw [show l+(q.1 - l)=q.1 by omega]
section
variable (L n:Nat) (h t:Nat->Nat->Nat->OI) (F:Nat->Nat->OI) (p:Nat->Int) (W:Nat->Nat->Int)
def vl (i j:Nat) (q:Nat × Nat):OI:=oadd (h q.1 i (i+q.2+1)) (t (q.1+1) (i+q.2+1) j)
structure Tb:Prop where
 dg:∀ l j,l<=L->j<=n->t l j j=some 0
 tt:∀ l i j,l<=L->i < j->j<=n->t l i j=lo ((Bk L l (j - i)).map (vl h t i j))
 ff:∀ i j,i < j->j<=n->F i j=if j - i=1 then some 0 else lo ((Bk L 0 (j - 1 - i)).map (vl h t i j))
 hh:∀ l i j,l < L->i < j->j<=n->h l i j=oadd (some (p l * W i j)) (F i j)
 tn:∀ l i j,l < L->i < j->j<=n->t l i j≠none
 fn:∀ i j,i < j->j<=n->F i j≠none
 pw:∀ l i j,l < L->i < j->j<=n->0 < p l * W i j
variable (cd:Nat->Nat->Nat) (tl:Nat->Nat->Nat->Nat)
def ovr (l i j:Nat):Nat:=(((Bk L l (j - i)).filter λq=>decide (vl h t i j q=t l i j)).map λq=>cd i (i+q.2+1) * tl (q.1+1) (i+q.2+1) j).sum
structure Cn:Prop where
 cdE:∀ i j,i < j->j<=n->cd i j=if j - i=1 then 1 else ovr L h t cd tl 0 i j
 tlE:∀ l i j,l < L->i < j->j<=n->tl l i j=ovr L h t cd tl l i j
 td:∀ l j,l<=L->j<=n->tl l j j=1
variable (Cs:Nat->List Code) (Rs:Nat->Nat->List Code) (co:Nat->Code->Int)
def ahd (l:Nat) (c:Code):Code:=c.map λw=>(l:Int) :: w
def bhd (many:Nat) (q:Nat × Nat):List Code:=if q.2+1 < many then Rs (many - (q.2+1)) (q.1+1) else [[]]
def rw' (many low most:Nat):List Code:=(Bk L low most).flatMap λq=>(Cs (q.2+1)).flatMap λc=>(bhd Rs many q).map λr=>ahd q.1 c++r
structure En:Prop where
 c1:Cs 1=[[[]]]
 cs:∀ m,1 < m->Cs m=rw' L Cs Rs m 0 (m - 1)
 rs:∀ m l,1<=m->l < L->Rs m l=rw' L Cs Rs m l m
 rL:∀ m,Rs m L=[]
 nil:∀ i,co i []=0
 one:∀ i,co i [[]]=0
 app:∀ i l m c r,c∈Cs m->co i (ahd l c++r)=p l * W i (i+m)+co i c+co (i+m) r
variable {L n h t F p W cd tl Cs Rs co}
theorem a1Z {α β:Type} {f g:α->List β}:∀ {xs:List α},(∀ x∈xs,f x=g x)->xs.flatMap f=xs.flatMap g
 | [],_=>rfl
 | x :: xs,h=>by rw [List.flatMap_cons,List.flatMap_cons,h x (.head _),a1Z λy hy=>h y (.tail _ hy)]
theorem b2c (T:Tb L n h t F p W) (N:Cn L n h t cd tl) (E:En L p W Cs Rs co) {i w low most:Nat} (hw:i+w<=n) (hm:most<=w) (hl:low<=L)
  (ihC:∀ m,1<=m->m<=most->mi ((Cs m).map (co i))=F i (i+m)/\ct ((Cs m).map (co i))=cd i (i+m))
  (ihR:∀ m l k,1<=m->m < w->l < L->k+m<=n->mi ((Rs m l).map (co k))=t l k (k+m)/\ct ((Rs m l).map (co k))=tl l k (k+m)) :
  ∀ q∈Bk L low most,mi (((Cs (q.2+1)).flatMap λc=>(bhd Rs w q).map λr=>ahd q.1 c++r).map (co i))=vl h t i (i+w) q /\
   (vl h t i (i+w) q≠none->ct (((Cs (q.2+1)).flatMap λc=>(bhd Rs w q).map λr=>ahd q.1 c++r).map (co i))=cd i (i+q.2+1) * tl (q.1+1) (i+q.2+1) (i+w)):=by
 intro q hq;obtain ⟨q1,q2,q3⟩:=a0v.mp hq;have e:((Cs (q.2+1)).flatMap λc=>(bhd Rs w q).map λr=>ahd q.1 c++r).map (co i)=sums (p q.1 * W i (i+q.2+1)) ((Cs (q.2+1)).map (co i)) ((bhd Rs w q).map (co (i+q.2+1))):=by
  unfold sums;rw [List.map_flatMap,List.flatMap_map];have:∀ c∈Cs (q.2+1),((bhd Rs w q).map λr=>ahd q.1 c++r).map (co i)=((bhd Rs w q).map (co (i+q.2+1))).map λb=>p q.1 * W i (i+q.2+1)+co i c+b:=λc hc=>by
   rw [List.map_map,List.map_map];refine List.map_congr_left λr _=>?_;show co i (ahd q.1 c++r)=_;rw [E.app i q.1 (q.2+1) c r hc];rfl
  clear hq;generalize Cs (q.2+1)=xs at this
  induction xs with
  | nil=>rfl
  | cons x xs ih =>
   rw [List.flatMap_cons,List.flatMap_cons,this x (.head _),ih λc hc=>this c (.tail _ hc)]
 obtain ⟨c1,c2⟩:=ihC (q.2+1) (by omega) (by omega);have hb:q.2+1 < w->(mi ((bhd Rs w q).map (co (i+q.2+1)))=t (q.1+1) (i+q.2+1) (i+w)/\(t (q.1+1) (i+q.2+1) (i+w)≠none->ct ((bhd Rs w q).map (co (i+q.2+1)))=tl (q.1+1) (i+q.2+1) (i+w))):=λhlt=>by
  unfold bhd;rw [if_pos hlt];by_cases hL:q.1+1 < L
  ·obtain ⟨r1,r2⟩:=ihR (w - (q.2+1)) (q.1+1) (i+q.2+1) (by omega) (by omega) hL (by omega);rw [show i+q.2+1+(w - (q.2+1))=i+w by omega] at r1 r2;exact ⟨r1,λ_=>r2⟩
  ·have eL:q.1+1=L:=by omega
   have en:t (q.1+1) (i+q.2+1) (i+w)=none:=by
    rw [T.tt (q.1+1) (i+q.2+1) (i+w) (by omega) (by omega) hw,eL];unfold Bk;rw [Nat.sub_self];exact a3K
   rw [en,eL,E.rL];exact ⟨a1l.mpr rfl,λz=>absurd rfl z⟩
 have hb':¬ q.2+1 < w->mi ((bhd Rs w q).map (co (i+q.2+1)))=t (q.1+1) (i+q.2+1) (i+w)/\(t (q.1+1) (i+q.2+1) (i+w)≠none->ct ((bhd Rs w q).map (co (i+q.2+1)))=tl (q.1+1) (i+q.2+1) (i+w)):=λhge=>by
  unfold bhd;rw [if_neg hge];have ee:i+q.2+1=i+w:=by omega
  rw [ee,T.dg (q.1+1) (i+w) (by omega) hw,N.td (q.1+1) (i+w) (by omega) hw];have e1:[([]:Code)].map (co (i+w))=[0]:=by rw [List.map_singleton,E.nil]
  rw [e1];have e2:mi [0]=some 0:=a0Q.mpr ⟨.head _,λk hk=>by simp at hk;omega⟩;refine ⟨e2,λ_=>?_⟩;rw [a4r e2];rfl
 have hB:mi ((bhd Rs w q).map (co (i+q.2+1)))=t (q.1+1) (i+q.2+1) (i+w)/\(t (q.1+1) (i+q.2+1) (i+w)≠none->ct ((bhd Rs w q).map (co (i+q.2+1)))=tl (q.1+1) (i+q.2+1) (i+w)):=by
  by_cases z:q.2+1 < w
  ·exact hb z
  ·exact hb' z
 rw [e,a5W,b3D,hB.1,c1];refine ⟨?_,λnn=>?_⟩
 ·show oadd (oadd (some (p q.1 * W i (i+q.2+1))) (F i (i+(q.2+1)))) _=vl h t i (i+w) q;unfold vl;rw [T.hh q.1 i (i+q.2+1) q2 (by omega) (by omega)];rfl
 ·rw [c2,hB.2 (λz=>nn ?_)]
  ·rfl
  ·unfold vl;rw [z];cases h q.1 i (i+q.2+1) <;> rfl
theorem counted (T:Tb L n h t F p W) (N:Cn L n h t cd tl) (E:En L p W Cs Rs co):∀ d w i,w<=d->1<=w->i+w<=n ->
  (mi ((Cs w).map (co i))=F i (i+w)/\ct ((Cs w).map (co i))=cd i (i+w))/\∀ l,l < L->mi ((Rs w l).map (co i))=t l i (i+w)/\ct ((Rs w l).map (co i))=tl l i (i+w)
 | 0,w,i,hd,h1,hw=>by omega
 | d+1,w,i,hd,h1,hw=>by
  have ih:=counted T N E d;have hC':∀ m,1<=m->m < w->mi ((Cs m).map (co i))=F i (i+m)/\ct ((Cs m).map (co i))=cd i (i+m):=λm a b=>(ih m i (by omega) a (by omega)).1;have hR':∀ m l k,1<=m->m < w->l < L->k+m<=n->mi ((Rs m l).map (co k))=t l k (k+m)/\ct ((Rs m l).map (co k))=tl l k (k+m):=λm l k a b c e=>(ih m k (by omega) a e).2 l c;have blk:∀ low most,most<=w->low<=L->(∀ m,1<=m->m<=most->mi ((Cs m).map (co i))=F i (i+m)/\ct ((Cs m).map (co i))=cd i (i+m)) ->
    mi ((rw' L Cs Rs w low most).map (co i))=lo ((Bk L low most).map (vl h t i (i+w)))/\∀ m,mi ((rw' L Cs Rs w low most).map (co i))=some m->ct ((rw' L Cs Rs w low most).map (co i))=(((Bk L low most).filter λq=>decide (vl h t i (i+w) q=some m)).map λq=>cd i (i+q.2+1) * tl (q.1+1) (i+q.2+1) (i+w)).sum:=by
   intro low most hm hl hC;have R:=b2c T N E hw hm hl hC hR';unfold rw';rw [List.map_flatMap];have e1:mi ((Bk L low most).flatMap λq=>((Cs (q.2+1)).flatMap λc=>(bhd Rs w q).map λr=>ahd q.1 c++r).map (co i))=lo ((Bk L low most).map (vl h t i (i+w))):=by
    rw [a8Q];congr 1;exact List.map_congr_left λq hq=>(R q hq).1
   refine ⟨e1,λm em=>?_⟩;rw [a4r em,a8R _ (λb hb k hk=>(a0Q.mp em).2 k (List.mem_flatMap.mpr ⟨b,hb,hk⟩))];have e2:(Bk L low most).filter (λb=>decide (mi (((Cs (b.2+1)).flatMap λc=>(bhd Rs w b).map λr=>ahd b.1 c++r).map (co i))=some m))=(Bk L low most).filter λq=>decide (vl h t i (i+w) q=some m):=List.filter_congr λq hq=>by rw [(R q hq).1]
   rw [e2];congr 1;refine List.map_congr_left λq hq=>?_;have hq':=List.mem_filter.mp hq;exact (R q hq'.1).2 (by rw [of_decide_eq_true hq'.2];intro z;cases z)
  have hCw:mi ((Cs w).map (co i))=F i (i+w)/\ct ((Cs w).map (co i))=cd i (i+w):=by
   by_cases e:w=1
   ·subst e;rw [E.c1,T.ff i (i+1) (by omega) hw,if_pos (by omega),N.cdE i (i+1) (by omega) hw,if_pos (by omega)];have e1:[([[]]:Code)].map (co i)=[0]:=by rw [List.map_singleton,E.one]
    rw [e1];have e2:mi [0]=some 0:=a0Q.mpr ⟨.head _,λk hk=>by simp at hk;omega⟩;refine ⟨e2,?_⟩;rw [a4r e2];rfl
   ·obtain ⟨b1,b2⟩:=blk 0 (w - 1) (by omega) (Nat.zero_le _) λm a b=>hC' m a (by omega);rw [E.cs w (by omega)];have eF:F i (i+w)=lo ((Bk L 0 (w - 1)).map (vl h t i (i+w))):=by
     rw [T.ff i (i+w) (by omega) hw,if_neg (by omega),show i+w - 1 - i=w - 1 by omega]
    refine ⟨by rw [b1,eF],?_⟩;rw [N.cdE i (i+w) (by omega) hw,if_neg (by omega)];unfold ovr;rw [show i+w - i=w by omega];have eT:t 0 i (i+w)=F i (i+w)/\∀ q∈Bk L 0 w,vl h t i (i+w) q=t 0 i (i+w)->t 0 i (i+w)≠none->q.2 < w - 1:=by
     have et:=T.tt 0 i (i+w) (Nat.zero_le _) (by omega) hw;rw [show i+w - i=w by omega] at et;have hs:∀ q∈Bk L 0 w,¬ q.2 < w - 1->vl h t i (i+w) q=oadd (oadd (some (p q.1 * W i (i+w))) (F i (i+w))) (some 0):=λq hq hn=>by
      obtain ⟨_,q2,q3⟩:=a0v.mp hq;have e3:i+q.2+1=i+w:=by omega
      unfold vl;rw [e3,T.hh q.1 i (i+w) q2 (by omega) hw,T.dg (q.1+1) (i+w) (by omega) hw]
     have sub:∀ q,q∈Bk L 0 (w - 1)->q∈Bk L 0 w:=λq hq=>by
      obtain ⟨a,b,c⟩:=a0v.mp hq;exact a0v.mpr ⟨a,b,by omega⟩
     have teq:t 0 i (i+w)=F i (i+w):=by
      rw [et,eF];refine b3q (λm hm=>?_) (λm hm=>?_)
      ·obtain ⟨q,hq,ev⟩:=List.mem_map.mp hm;by_cases z:q.2 < w - 1
       ·obtain ⟨a,b,c⟩:=a0v.mp hq;exact ⟨m,Int.le_refl _,List.mem_map.mpr ⟨q,a0v.mpr ⟨a,b,z⟩,ev⟩⟩
       ·rw [hs q hq z] at ev;cases f:F i (i+w) with
        | none=>rw [f] at ev;cases ev
        | some x =>
         rw [f] at ev;have ev:some (p q.1 * W i (i+w)+x+0)=some m:=ev;have:=Option.some.inj ev;have pos:=T.pw q.1 i (i+w) (a0v.mp hq).2.1 (by omega) hw;rw [eF] at f;exact ⟨x,by omega,(a1a.mp f).1⟩
      ·obtain ⟨q,hq,ev⟩:=List.mem_map.mp hm;exact ⟨m,Int.le_refl _,List.mem_map.mpr ⟨q,sub q hq,ev⟩⟩
     refine ⟨teq,λq hq ev nn=>?_⟩;by_cases z:q.2 < w - 1
     ·exact z
     ·exfalso;rw [hs q hq z,teq] at ev;cases f:F i (i+w) with
      | none=>rw [teq,f] at nn;exact nn rfl
      | some x =>
       rw [f] at ev;have ev:some (p q.1 * W i (i+w)+x+0)=some x:=ev;have:=Option.some.inj ev;have pos:=T.pw q.1 i (i+w) (a0v.mp hq).2.1 (by omega) hw;omega
    obtain ⟨teq,only⟩:=eT;cases em:mi ((rw' L Cs Rs w 0 (w - 1)).map (co i)) with
    | none =>
     exact absurd (by rw [eF,<-b1,em]) (T.fn i (i+w) (by omega) hw)
    | some m =>
     rw [b2 m em];have eFm:F i (i+w)=some m:=by rw [eF,<-b1,em]
     rw [teq,eFm];have e4:(Bk L 0 w).filter (λq=>decide (vl h t i (i+w) q=some m))=(Bk L 0 (w - 1)).filter λq=>decide (vl h t i (i+w) q=some m):=by
      unfold Bk;rw [List.filter_flatMap,List.filter_flatMap];refine a1Z λa ha=>?_;have ha':=List.mem_range.mp ha;obtain ⟨w',rfl⟩:∃ v,w=v+1:=⟨w - 1,by omega⟩
      rw [Nat.add_sub_cancel,List.range_succ,List.map_append,List.filter_append];have:([w'].map λb=>(0+a,b)).filter (λq=>decide (vl h t i (i+(w'+1)) q=some m))=[]:=by
       rw [List.map_singleton,List.filter_cons];rw [if_neg]
       ·rfl
       ·intro z;have z1:=of_decide_eq_true z;have:=only (0+a,w') (a0v.mpr ⟨by omega,by show 0+a < L;omega,by show w' < w'+1;omega⟩) (by rw [teq,eFm];exact z1) (by rw [teq,eFm];intro y;cases y);have:w' < w'+1 - 1:=this;omega
      rw [this,List.append_nil]
     rw [e4]
  refine ⟨hCw,λl hl=>?_⟩;obtain ⟨b1,b2⟩:=blk l w (Nat.le_refl _) (by omega) λm a b=>by
   by_cases e:m=w
   ·subst e;exact hCw
   ·exact hC' m a (by omega)
  rw [E.rs w l h1 hl];have et:=T.tt l i (i+w) (by omega) (by omega) hw;rw [show i+w - i=w by omega] at et;refine ⟨by rw [b1,et],?_⟩;rw [N.tlE l i (i+w) hl (by omega) hw];unfold ovr;rw [show i+w - i=w by omega];cases em:mi ((rw' L Cs Rs w l w).map (co i)) with
  | none=>exact absurd (by rw [et,<-b1,em]) (T.tn l i (i+w) hl (by omega) hw)
  | some m =>
   rw [b2 m em];have:t l i (i+w)=some m:=by rw [et,<-b1,em]
   rw [this]
end
end CT
end K56
set_option exponentiation.threshold 2000
namespace K56
open PySem L2
abbrev Po (ns:List Int):Prop:=∀ x∈ns,(1:Int)<=x
theorem a8S {ws:List Int} {i j:Nat} (bw:Po ws) (hij:i < j) (hj:j<=ws.length):1<=Wt ws i j:=by
 rw [Wt_is (by omega)];have:∀ xs:List Int,xs≠[]->(∀ x∈xs,1<=x)->1<=xs.sum:=by
  intro xs
  induction xs with
  | nil=>intro h;exact absurd rfl h
  | cons x xs ih =>
   intro _ h;rw [List.sum_cons];have h1:=h x (.head _);by_cases e:xs=[]
   ·rw [e,List.sum_nil];omega
   ·have:=ih e λy hy=>h y (.tail _ hy);omega
 refine this _ (λz=>?_) λx hx=>bw x (List.mem_of_mem_take (List.mem_of_mem_drop hx));have:=congrArg List.length z;rw [List.length_drop,List.length_take,List.length_nil] at this;omega
theorem a8T {ps:List Int} {l:Nat} (bp:Po ps) (hl:l < ps.length):1<=pl ps l:=by
 have:pl ps l=ps[l]'hl:=by
  unfold pl;rw [List.getD_eq_getElem?_getD,List.getElem?_eq_getElem hl];rfl
 rw [this];exact bp _ (List.getElem_mem hl)
theorem b2d {ps ws:List Int} {F:Nat->Nat->OI} (hL:2<=ps.length) (own:∀ i j,i < j->j<=ws.length->F i j=bdO ps ws F i j):∀ d i j,j - i<=d->i < j->j<=ws.length->F i j≠none
 | 0,i,j,hd,hij,hj=>by omega
 | d+1,i,j,hd,hij,hj=>by
  rw [own i j hij hj];unfold bdO;split
  ·intro z;cases z
  ·rename_i e;intro z;obtain ⟨r,hr⟩:=List.exists_mem_of_ne_nil _ (b3r (L:=ps.length) (i:=i) (j:=j) hL (by omega));cases ec:cost (pl ps) (Wt ws) F r with
   | some v=>exact absurd (List.mem_map.mpr ⟨r,hr,ec⟩) (a1C.mp z v)
   | none =>
    obtain ⟨q,hq,e'⟩:=a5h.mp ec;have hin:=b3s hij r hr q hq;exact b2d hL own d q.1 q.2.1 (by omega) hin.2.1 (by omega) e'
theorem b3E {L l m:Nat} (h:l < L):CT.Bk L l m=((List.range m).map λb=>(l,b))++CT.Bk L (l+1) m:=by
 unfold CT.Bk;obtain ⟨k,hk⟩:∃ k,L - l=k+1:=⟨L - l - 1,by omega⟩
 rw [hk,show L - (l+1)=k by omega,List.range_succ_eq_map,List.flatMap_cons,List.flatMap_map];congr 1;refine CT.a1Z λa _=>?_;refine List.map_congr_left λb _=>?_;rw [show l+(a+1)=l+1+a by omega]
theorem b3F (xs ys:List OI):lo (xs++ys)=lo [lo xs,lo ys]:=a5f xs ys
theorem Fln.tt {ps ws:List Int} {h t:Nat->Nat->Nat->OI} {F:Nat->Nat->OI} (a:Fln ps ws h t F (λ_ _=>True)):∀ k l i j,l+k=ps.length->i < j->j<=ws.length->t l i j=lo ((CT.Bk ps.length l (j - i)).map (CT.vl h t i j))
 | 0,l,i,j,hl,hij,hj=>by
  have e:l=ps.length:=by omega
  subst e;rw [a.fin.ed i j hij hj];unfold CT.Bk;rw [Nat.sub_self];exact a3K.symm
 | k+1,l,i,j,hl,hij,hj=>by
  rw [(a.fin.eq i j hij hj trivial).et l (by omega),b3E (by omega),List.map_append,b3F,a.tt k (l+1) i j (by omega) hij hj,List.map_map];rfl
theorem Fln.tb {ps ws:List Int} {h t:Nat->Nat->Nat->OI} {F:Nat->Nat->OI} (a:Fln ps ws h t F (λ_ _=>True)) (hL:2<=ps.length) (bp:Po ps) (bw:Po ws):CT.Tb ps.length ws.length h t F (pl ps) (Wt ws):=by
 have own:=a.own;have fn:∀ i j,i < j->j<=ws.length->F i j≠none:=λi j hij hj=>b2d hL own (j - i) i j (Nat.le_refl _) hij hj;have hh:∀ l i j,l < ps.length->i < j->j<=ws.length->h l i j=oadd (some (pl ps l * Wt ws i j)) (F i j):=λl i j hl hij hj=>(a.fin.eq i j hij hj trivial).eh l hl;have tt:∀ l i j,l<=ps.length->i < j->j<=ws.length->t l i j=lo ((CT.Bk ps.length l (j - i)).map (CT.vl h t i j)):=λl i j hl hij hj=>a.tt (ps.length - l) l i j (by omega) hij hj;refine ⟨a.fin.dg,tt,λi j hij hj=>?_,hh,λl i j hl hij hj=>?_,fn,λl i j hl hij hj=>?_⟩
 ·rw [<-a.bd i j hij hj trivial];unfold bnd;split
  ·rfl
  ·unfold CT.Bk;rw [Nat.sub_zero,List.map_flatMap,a3h];congr 1;refine List.map_congr_left λl _=>?_;rw [List.map_map,Nat.zero_add];rfl
 ·rw [tt l i j (by omega) hij hj];intro z;have hm:CT.vl h t i j (l,j - i - 1)∈(CT.Bk ps.length l (j - i)).map (CT.vl h t i j):=List.mem_map.mpr ⟨_,CT.a0v.mpr ⟨Nat.le_refl _,hl,by show j - i - 1 < j - i;omega⟩,rfl⟩;have ev:CT.vl h t i j (l,j - i - 1)=oadd (oadd (some (pl ps l * Wt ws i j)) (F i j)) (some 0):=by
   unfold CT.vl;show oadd (h l i (i+(j - i - 1)+1)) (t (l+1) (i+(j - i - 1)+1) j)=_;rw [show i+(j - i - 1)+1=j by omega,hh l i j hl hij hj,a.fin.dg (l+1) j (by omega) hj]
  rw [ev] at hm;cases f:F i j with
  | none=>exact fn i j hij hj f
  | some x =>
   rw [f] at hm;exact a1C.mp z _ hm
 ·have h1:=a8T bp hl;have h2:=a8S bw hij hj;exact Int.mul_pos (by omega) (by omega)
section
variable {P':Program} {w:World} {K:PySem.W.Frag} {mg:Str->Option Value} {base:Heap} {f:Addr} {fd:FuncData}
def Way (H:Hp) (i:Nat) (x:V) (q:Nat × Nat):Prop:=∃ a,x=.ref a/\H a=some (.tup [.int (q.1:Int),.int ((i+q.2+1:Nat):Int)])
theorem Way.same {H H':Hp} {i:Nat} {x:V} {q:Nat × Nat} (s:a0p H H') (h:Way H i x q):Way H' i x q:=by
 obtain ⟨a,rfl,e⟩:=h;exact ⟨a,rfl,s _ _ e⟩
theorem Way.upd {H:Hp} {i:Nat} {x:V} {q:Nat × Nat} {d:Addr} {zs:List V} {o:HO} (hd:H d=some (.lst zs)) (h:Way H i x q):Way (L2.upd H d o) i x q:=by
 obtain ⟨a,rfl,e⟩:=h;exact ⟨a,rfl,by rw [a0i (a0q e hd (by intro z;cases z))];exact e⟩
abbrev NWy:List Str:=["self","letter","first","end","goal","found","way","cut"]
def wys (L:Nat) (h t:Nat->Nat->Nat->OI) (l i j:Nat):List (Nat × Nat):=(CT.Bk L l (j - i)).filter λq=>decide (CT.vl h t i j q=t l i j)
def a3L (C:Addr):Sp:=λvs H Q _=>∃ (r p:Addr) (ps ws:List Int) (X:Ad) (h t:Nat->Nat->Nat->OI) (l i j:Nat),vs=[.ref r,.int (l:Int),.int (i:Int),.int (j:Int)]/\PAt C H r p ps ws X h t/\ws.length<=24/\ps.length<=10/\l < ps.length/\i < j/\j<=ws.length /\
 ∀ (d:Addr) xs H',a0p H H'->H' d=some (.lst xs)->Paired (Way H' i) xs (wys ps.length h t l i j)->Q (.ref d) H'
theorem a5i:a0k NWy ["self","letter","first","end"] (a0g b3w):=fsk
theorem b2e (a b:OI):scal (oV a) (oV b)=true:=by cases a <;> cases b <;> rfl
theorem b2f {a b:OI} (h:oV a=oV b):a=b:=by
 cases a <;> cases b <;> first | rfl | cases h | skip
 rfl
theorem b3G {C:Addr} (F:Fun K "ways" "Parted.ways" b3w f fd) (GA:Fns P' w K mg base ["one","other"] "added" a4q 2) (rc:PC K C) (ml:mg "len"=none) (mr:mg "range"=none):a0M P' w K mg base CX0 3 f fd ["self","letter","first","end"] (a3L C):=by
 refine F.ok (k:=2) a5i (λvs H Q E h=>?_) (λcdv A outer s H vs Q E hr h=>?_)
 ·obtain ⟨r,p,ps,ws,X,h,t,l,i,j,rfl,_⟩:=h;rfl
 obtain ⟨r,p,ps,ws,X,h,t,l,i,j,rfl,pa,w20,p10,hl,hij,hj,q⟩:=h;refine ⟨_,a0c (psA (i:=4) a5i (pxA a0j (pxA a0j (pxA a0j (a0F (pv 0) rfl) (pv 1)) (pv 2)) (pv 3)))
  (a0c (psA (i:=5) a5i (a0X a0d))
  (a0c (a1n PassesOwn.never rfl (a1v (by rfl) mr (a0a (pv 1) (a0a (pln ml (a0F (pv 0) rfl)) a0d))) (pgA (i:=6) a5i)
   (a0h (a1n PassesOwn.never rfl (a1v (by rfl) mr (a0a (a0l a0t (pv 2) a0e) (a0a (a0l a0t (pv 3) a0e) a0d))) (pgA (i:=7) a5i)
    (a0h (a0W (a0r a1J (pcF GA hr (a0a (pxA a0j (pxA a0j (pxA a0j (a0F (pv 0) rfl) (pv 6)) (pv 2)) (pv 7)) (a0a (pxA a0j (pxA a0j (pxA a0j (a0F (pv 0) rfl) (a0l a0t (pv 6) a0e)) (pv 7)) (pv 3)) a0d))) (pv 4) (nomark _))
     (a0h (a1h (a3w PySem.F.plainAttrs_list PySem.F.slot_list_append PySem.F.type_list_append a1f (pv 5) (a0a (a1p (a0a (pv 6) (a0a (pv 7) a0d))) a0d)))) a0u)))))
  (a0h (a0o (pv 5))))),?_⟩
 obtain ⟨dx,ho⟩:=pa.ob;have i1:i < ws.length+1:=by omega
 have j1:j < ws.length+1:=by omega
 refine ⟨_,rfl,r,C,dx,_,_,rfl,ho,rc.c,rc.nt,rfl,_,rfl,X.tt,_,_,_,rfl,rfl,SqL.of pa.tl.o,a0s (k:=l) (by omega),_,rfl,X.bt l,_,_,_,rfl,rfl,SqL.of (pa.tl.b l (by omega)),a0s i1,_,rfl,X.ct l i,_,_,_,rfl,rfl,SqL.of (pa.tl.c l i (by omega) i1),a0s j1,?_⟩;refine ⟨(by show 0<=sizeLine;decide),λd hd=>?_⟩;have s1:=a0f hd (.lst []);have g1:upd H d (.lst []) d=some (.lst []):=a0b;generalize upd H d (.lst [])=H1 at s1 g1 ⊢;refine ⟨_,rfl,_,rfl,r,C,dx,_,_,rfl,s1 _ _ ho,rc.c,rc.np,rfl,p,_,rfl,.inr (SqT.of (s1 _ _ pa.hp)),?_⟩;rw [List.length_map];refine ⟨_,_,rfl,⟨by omega,by omega,by omega,by omega⟩,?_⟩;have e0:((ps.length:Int) - (l:Int)).toNat=ps.length - l:=by omega
 rw [e0]
 let pw:Nat × Nat->Bool:=λq=>decide (CT.vl h t i j q=t l i j)
 have fin:∀ a,(((List.range a).flatMap λa=>(List.range (j - i)).map λb=>(l+a,b)).filter pw).length<=a * (j - i):=λa=>by
  refine Nat.le_trans (List.length_filter_le _ _) ?_
  induction a with
  | zero=>simp
  | succ a ih=>rw [List.range_succ,List.flatMap_append,List.length_append,Nat.succ_mul];simp;simp at ih;omega
 refine a1j (λa σ H'=>a0p H H'/\(∃ xs,H' d=some (.lst xs)/\Paired (Way H' i) xs (((List.range a).flatMap λa=>(List.range (j - i)).map λb=>(l+a,b)).filter pw))/\∃ x6 x7:Option V,σ=[some (.ref r),some (.int (l:Int)),some (.int (i:Int)),some (.int (j:Int)),some (oV (t l i j)),some (.ref d),x6,x7])
  ⟨s1,⟨[],g1,.nil⟩,_,_,rfl⟩ (λa σ H2 ha hP=>?_) (λσ H2 hP=>?_)
 ·obtain ⟨s2,⟨xs2,g2,w2⟩,x6,x7,rfl⟩:=hP;have ea:(l:Int)+(a:Int)=((l+a:Nat):Int):=by push_cast;rfl
  rw [ea];refine ⟨_,rfl,_,_,rfl,rfl,_,rfl,_,_,rfl,rfl,_,_,rfl,⟨by omega,by omega,by omega,by omega⟩,?_⟩;have e1:(((j:Int)+1) - ((i:Int)+1)).toNat=j - i:=by omega
  rw [e1];refine a1j (λb σ H'=>a0p H H'/\(∃ xs,H' d=some (.lst xs)/\Paired (Way H' i) xs ((((List.range a).flatMap λa=>(List.range (j - i)).map λb=>(l+a,b))++(List.range b).map λb=>(l+a,b)).filter pw))/\∃ x7:Option V,σ=[some (.ref r),some (.int (l:Int)),some (.int (i:Int)),some (.int (j:Int)),some (oV (t l i j)),some (.ref d),some (.int ((l+a:Nat):Int)),x7])
   ⟨s2,⟨xs2,g2,by rw [List.range_zero,List.map_nil,List.append_nil];exact w2⟩,_,rfl⟩ (λb σ H3 hb hP=>?_) (λσ H3 hP=>?_)
  ·obtain ⟨s3,⟨xs,g3,w3⟩,x7,rfl⟩:=hP;have eb:(i:Int)+1+(b:Int)=((i+b+1:Nat):Int):=by push_cast;omega
   rw [eb];have pa3:=pa.same s3;have hla:l+a < ps.length:=by omega
   have hb1:i+b+1 < ws.length+1:=by omega
   have lx:xs.length<=500:=by
    rw [w3.length];have h1:=fin a;have h2:a * (j - i)<=10 * 24:=Nat.mul_le_mul (by omega) (by omega);rw [List.filter_append,List.length_append];have h3:=List.length_filter_le pw ((List.range b).map λb=>(l+a,b));rw [List.length_map,List.length_range] at h3;omega
   refine ⟨_,rfl,r,C,dx,_,_,rfl,s3 _ _ ho,rc.c,rc.nh,rfl,_,rfl,X.th,_,_,_,rfl,rfl,SqL.of pa3.hd.o,a0s hla,_,rfl,X.bh (l+a),_,_,_,rfl,rfl,SqL.of (pa3.hd.b (l+a) hla),a0s i1,_,rfl,X.ch (l+a) i,_,_,_,rfl,rfl,SqL.of (pa3.hd.c (l+a) i hla i1),a0s hb1,?_⟩;refine ⟨_,rfl,r,C,dx,_,_,rfl,s3 _ _ ho,rc.c,rc.nt,rfl,_,rfl,_,_,rfl,rfl,X.tt,_,_,_,rfl,rfl,SqL.of pa3.tl.o,a0s (k:=l+a+1) (by omega),_,rfl,X.bt (l+a+1),_,_,_,rfl,rfl,SqL.of (pa3.tl.b (l+a+1) (by omega)),a0s hb1,_,rfl,X.ct (l+a+1) (i+b+1),_,_,_,rfl,rfl,SqL.of (pa3.tl.c (l+a+1) (i+b+1) (by omega) hb1),a0s j1,?_⟩;refine ⟨_,_,rfl,_,rfl,b2e _ _,_,rfl,?_⟩;have ef:(((List.range a).flatMap λa=>(List.range (j - i)).map λb=>(l+a,b))++(List.range (b+1)).map λb=>(l+a,b)).filter pw=(((List.range a).flatMap λa=>(List.range (j - i)).map λb=>(l+a,b))++(List.range b).map λb=>(l+a,b)).filter pw++(if pw (l+a,b)=true then [(l+a,b)] else []):=by
    rw [List.range_succ,List.map_append,<-List.append_assoc,List.filter_append];congr 1;show [(l+a,b)].filter pw=_;rw [List.filter_cons];rfl
   refine a2b (λy=>?_) (λy=>?_)
   ·have y1:pw (l+a,b)=true:=decide_eq_true (b2f (of_decide_eq_true y));refine ⟨_,rfl,.inl ⟨rfl,_,SqL.of g3⟩,_,rfl,_,rfl,(by show 2<=sizeLine;decide),λtt htt=>?_⟩;have s4:=a0f htt (.tup [.int ((l+a:Nat):Int),.int ((i+b+1:Nat):Int)]);have g4:=s4 _ _ g3;have ht4:upd H3 tt (.tup [.int ((l+a:Nat):Int),.int ((i+b+1:Nat):Int)]) tt=some (.tup [.int ((l+a:Nat):Int),.int ((i+b+1:Nat):Int)]):=a0b;generalize upd H3 tt (.tup [.int ((l+a:Nat):Int),.int ((i+b+1:Nat):Int)])=H4 at s4 g4 ht4 ⊢;refine ⟨d,_,_,rfl,rfl,g4,a0m (by omega),a0n hd (s3.trans s4),⟨_,a0b,?_⟩,_,rfl⟩;rw [ef,if_pos y1];exact L2.Paired.appendP (Paired.mapP w3 λ_ _ r=>(r.same s4).upd g4) (.cons (Way.upd g4 ⟨tt,rfl,ht4⟩) .nil)
   ·have y1:¬ pw (l+a,b)=true:=λz=>y (decide_eq_true (congrArg oV (of_decide_eq_true z)));exact ⟨s3,⟨xs,g3,by rw [ef,if_neg y1,List.append_nil];exact w3⟩,_,rfl⟩
  ·obtain ⟨s3,⟨xs,g3,w3⟩,x7,rfl⟩:=hP;refine ⟨s3,⟨xs,g3,?_⟩,_,_,rfl⟩;rw [List.range_succ,List.flatMap_append];simpa using w3
 ·obtain ⟨s2,⟨xs2,g2,w2⟩,x6,x7,rfl⟩:=hP;exact ⟨_,rfl,q d xs2 H2 s2 g2 w2⟩
end
end K56
set_option exponentiation.threshold 2000
namespace K56
open PySem L2
namespace CT
section
variable {L n:Nat} {h t:Nat->Nat->Nat->OI} {F:Nat->Nat->OI} {p:Nat->Int} {W:Nat->Nat->Int}
theorem only (T:Tb L n h t F p W) {i w:Nat} (hw:i+w<=n) (h2:2<=w):∀ q∈Bk L 0 w,vl h t i (i+w) q=t 0 i (i+w)->q.2 < w - 1:=by
 intro q hq ev;by_cases z:q.2 < w - 1
 ·exact z
 exfalso;obtain ⟨_,q2,q3⟩:=a0v.mp hq;have e3:i+q.2+1=i+w:=by omega
 have es:vl h t i (i+w) q=oadd (oadd (some (p q.1 * W i (i+w))) (F i (i+w))) (some 0):=by
  unfold vl;rw [e3,T.hh q.1 i (i+w) q2 (by omega) hw,T.dg (q.1+1) (i+w) (by omega) hw]
 have et:=T.tt 0 i (i+w) (Nat.zero_le _) (by omega) hw;rw [show i+w - i=w by omega] at et;have eF:F i (i+w)=lo ((Bk L 0 (w - 1)).map (vl h t i (i+w))):=by
  rw [T.ff i (i+w) (by omega) hw,if_neg (by omega),show i+w - 1 - i=w - 1 by omega]
 cases f:F i (i+w) with
 | none=>exact T.fn i (i+w) (by omega) hw f
 | some x =>
  have hx:=(a1a.mp (eF.symm.trans f)).1;obtain ⟨r,hr,er⟩:=List.mem_map.mp hx;obtain ⟨a,b,c⟩:=a0v.mp hr;obtain ⟨m,em,hm⟩:=b0I (List.mem_map.mpr ⟨r,a0v.mpr ⟨a,b,(by omega:r.2 < w)⟩,er⟩:some x∈(Bk L 0 w).map (vl h t i (i+w)));rw [<-et] at em;rw [es,f,em] at ev;have ev:some (p q.1 * W i (i+w)+x+0)=some m:=ev;have:=Option.some.inj ev;have pos:=T.pw q.1 i (i+w) q2 (by omega) hw;omega
end
end CT
structure Ctd (L n:Nat) (h t:Nat->Nat->Nat->OI) (Tc:Nat->Nat->OI) (Tt:Nat->Nat->Nat->OI) (c:Nat->Nat->Nat) (u:Nat->Nat->Nat->Nat) (pr:Nat->Nat->Prop):Prop where
 dg:∀ l j,l<=L->j<=n->Tt l j j=some 1
 vc:∀ i j,i < j->j<=n->pr i j->Tc i j=some (c i j:Int)
 vt:∀ l i j,l < L->i < j->j<=n->pr i j->Tt l i j=some (u l i j:Int)
 ec:∀ i j,i < j->j<=n->pr i j->c i j=if j - i=1 then 1 else CT.ovr L h t c u 0 i j
 et:∀ l i j,l < L->i < j->j<=n->pr i j->u l i j=CT.ovr L h t c u l i j
 td:∀ l j,l<=L->j<=n->u l j j=1
 bc:∀ i j,i < j->j<=n->pr i j->c i j<=256 * 65536 ^ (2 * (j - i) - 2)
 bt:∀ l i j,l < L->i < j->j<=n->pr i j->u l i j<=65536 ^ (2 * (j - i) - 1)
theorem Ctd.weak {L n:Nat} {h t:Nat->Nat->Nat->OI} {Tc:Nat->Nat->OI} {Tt:Nat->Nat->Nat->OI} {c:Nat->Nat->Nat} {u:Nat->Nat->Nat->Nat} {pr pr':Nat->Nat->Prop} (a:Ctd L n h t Tc Tt c u pr) (w:∀ i j,i < j->j<=n->pr' i j->pr i j):Ctd L n h t Tc Tt c u pr' :=
 ⟨a.dg,λi j hij hj hp=>a.vc i j hij hj (w i j hij hj hp),λl i j hl hij hj hp=>a.vt l i j hl hij hj (w i j hij hj hp),λi j hij hj hp=>a.ec i j hij hj (w i j hij hj hp),λl i j hl hij hj hp=>a.et l i j hl hij hj (w i j hij hj hp),a.td,λi j hij hj hp=>a.bc i j hij hj (w i j hij hj hp),λl i j hl hij hj hp=>a.bt l i j hl hij hj (w i j hij hj hp)⟩
theorem a8U {α:Type} {f:α->Nat} {B:Nat}:∀ xs:List α,(∀ x∈xs,f x<=B)->(xs.map f).sum<=xs.length * B
 | [],_=>by simp
 | x :: xs,h=>by
  rw [List.map_cons,List.sum_cons,List.length_cons,Nat.succ_mul];have:=a8U xs λy hy=>h y (.tail _ hy);have:=h x (.head _);omega
theorem Bk_len (L l m:Nat):(CT.Bk L l m).length=(L - l) * m:=by
 unfold CT.Bk;rw [List.length_flatMap];have:((List.range (L - l)).map λa=>((List.range m).map λb=>(l+a,b)).length)=List.replicate (L - l) m:=by
  rw [List.eq_replicate_iff];refine ⟨by rw [List.length_map,List.length_range],λx hx=>?_⟩;obtain ⟨a,_,rfl⟩:=List.mem_map.mp hx;rw [List.length_map,List.length_range]
 rw [this,List.sum_replicate_nat]
theorem a4s {L l i j:Nat} {h t:Nat->Nat->Nat->OI} (hL:L<=6) (hw:j - i<=24):(wys L h t l i j).length<=144:=by
 have h1:(wys L h t l i j).length<=(CT.Bk L l (j - i)).length:=List.length_filter_le _ _;rw [Bk_len] at h1;have h2:(L - l) * (j - i)<=6 * 24:=Nat.mul_le_mul (by omega) hw;omega
structure Sm1 (L n:Nat) (Tc:Nat->Nat->OI) (Tt:Nat->Nat->Nat->OI) (c:Nat->Nat->Nat) (u:Nat->Nat->Nat->Nat) (i j:Nat) (ws:List (Nat × Nat)) (B:Nat):Prop where
 a:∀ q∈ws,Tc i (i+q.2+1)=some (c i (i+q.2+1):Int)
 b:∀ q∈ws,Tt (q.1+1) (i+q.2+1) j=some (u (q.1+1) (i+q.2+1) j:Int)
 c1:∀ q∈ws,c i (i+q.2+1)<=2 ^ 1000
 u1:∀ q∈ws,u (q.1+1) (i+q.2+1) j<=2 ^ 1000
 d:∀ q∈ws,c i (i+q.2+1) * u (q.1+1) (i+q.2+1) j<=B
 g:∀ q∈ws,q.1 < L/\i+q.2+1<=j
theorem a8V {a b:Nat} (h:a<=b):65536 ^ a<=65536 ^ b:=Nat.pow_le_pow_right (by decide) h
theorem a5j {a:Nat} (h:a<=47):256 * 65536 ^ a<=2 ^ 1000:=by
 have h1:=a8V h;have h2:32 * 65536 ^ 47<=2 ^ 1000:=by decide
 omega
theorem a8W {s w x y:Nat} (hs:1<=s) (hw:s < w) (hx:x<=256 * 65536 ^ (2 * s - 2)) (hy:y<=65536 ^ (2 * (w - s) - 1)):x * y<=65536 ^ (2 * w - 2):=by
 have h1:=Nat.mul_le_mul hx hy;have e:256 * 65536 ^ (2 * s - 2) * 65536 ^ (2 * (w - s) - 1)=256 * 65536 ^ (2 * w - 3):=by
  rw [Nat.mul_assoc,<-Nat.pow_add];congr 2;omega
 have e2:65536 ^ (2 * w - 2)=65536 * 65536 ^ (2 * w - 3):=by
  rw [show 2 * w - 2=(2 * w - 3)+1 by omega,Nat.pow_succ,Nat.mul_comm]
 rw [e] at h1;rw [e2];omega
theorem Ctd.sm {L n:Nat} {h t:Nat->Nat->Nat->OI} {Tc:Nat->Nat->OI} {Tt:Nat->Nat->Nat->OI} {c:Nat->Nat->Nat} {u:Nat->Nat->Nat->Nat} {f e:Nat} (a:Ctd L n h t Tc Tt c u (Dn f e)) (hfe:f < e) (he:e<=n) (n6:n<=24) {ws:List (Nat × Nat)} (hws:∀ q∈ws,q.1+1 < L+1/\q.2+1 < e - f/\(Tt (q.1+1) (f+q.2+1) e≠none->True)/\q.1+1 < L):Sm1 L n Tc Tt c u f e ws (65536 ^ (2 * (e - f) - 2)):=by
 refine ⟨λq hq=>?_,λq hq=>?_,λq hq=>?_,λq hq=>?_,λq hq=>?_,λq hq=>?_⟩
 all_goals obtain ⟨h1,h2,_,h4⟩:=hws q hq
 ·exact a.vc f (f+q.2+1) (by omega) (by omega) (.inr ⟨rfl,by omega⟩)
 ·exact a.vt (q.1+1) (f+q.2+1) e h4 (by omega) he (.inl (by omega))
 ·have:=a.bc f (f+q.2+1) (by omega) (by omega) (.inr ⟨rfl,by omega⟩);exact Nat.le_trans this (a5j (by omega))
 ·have:=a.bt (q.1+1) (f+q.2+1) e h4 (by omega) he (.inl (by omega));have h5:=a8V (show 2 * (e - (f+q.2+1)) - 1<=47 by omega);have h6:65536 ^ 47<=2 ^ 1000:=by decide
  omega
 ·have x:=a.bc f (f+q.2+1) (by omega) (by omega) (.inr ⟨rfl,by omega⟩);have y:=a.bt (q.1+1) (f+q.2+1) e h4 (by omega) he (.inl (by omega));rw [show f+q.2+1 - f=q.2+1 by omega] at x;rw [show e - (f+q.2+1)=e - f - (q.2+1) by omega] at y;exact a8W (by omega) h2 x y
 ·exact ⟨by omega,by omega⟩
end K56
set_option exponentiation.threshold 2000
namespace K56
open PySem L2
theorem a1u {L l i j:Nat} {h t:Nat->Nat->Nat->OI} {q:Nat × Nat}:q∈wys L h t l i j↔q∈CT.Bk L l (j - i)/\CT.vl h t i j q=t l i j:=by
 unfold wys;rw [List.mem_filter,decide_eq_true_eq]
theorem a1D {L l i j:Nat} {h t:Nat->Nat->Nat->OI} {c:Nat->Nat->Nat} {u:Nat->Nat->Nat->Nat}:CT.ovr L h t c u l i j=((wys L h t l i j).map λq=>c i (i+q.2+1) * u (q.1+1) (i+q.2+1) j).sum:=rfl
section
variable {L n:Nat} {h t:Nat->Nat->Nat->OI} {F:Nat->Nat->OI} {p:Nat->Int} {W:Nat->Nat->Int}
theorem a5k (T:CT.Tb L n h t F p W) {l i j:Nat} (hl:l < L) (hij:i < j) (hj:j<=n) {q:Nat × Nat} (hq:q∈wys L h t l i j):l<=q.1/\q.1 < L/\q.2+1<=j - i/\(q.2+1 < j - i->q.1+1 < L):=by
 obtain ⟨h1,h2⟩:=a1u.mp hq;obtain ⟨a,b,c⟩:=CT.a0v.mp h1;refine ⟨a,b,by omega,λhlt=>?_⟩;by_cases e:q.1+1 < L
 ·exact e
 ·exfalso;have eL:q.1+1=L:=by omega
  have en:t (q.1+1) (i+q.2+1) j=none:=by
   rw [T.tt (q.1+1) (i+q.2+1) j (by omega) (by omega) hj,eL];unfold CT.Bk;rw [Nat.sub_self];exact a3K
  refine T.tn l i j hl hij hj ?_;rw [<-h2];unfold CT.vl;rw [en];cases h q.1 i (i+q.2+1) <;> rfl
theorem wys0 (T:CT.Tb L n h t F p W) (hL:0 < L) {i j:Nat} (hij:i+2<=j) (hj:j<=n) {q:Nat × Nat} (hq:q∈wys L h t 0 i j):q.2+1 < j - i/\q.1+1 < L:=by
 have h1:=a5k T hL (by omega) hj hq;obtain ⟨h2,h3⟩:=a1u.mp hq;have:=CT.only T (i:=i) (w:=j - i) (by omega) (by omega) q h2 (by rw [show i+(j - i)=j by omega];exact h3);exact ⟨by omega,h1.2.2.2 (by omega)⟩
def upc (c:Nat->Nat->Nat) (f e v:Nat):Nat->Nat->Nat:=λa b=>if a=f/\b=e then v else c a b
theorem a3M {c:Nat->Nat->Nat} {f e v:Nat}:upc c f e v f e=v:=if_pos ⟨rfl,rfl⟩
theorem a3N {c:Nat->Nat->Nat} {f e v a b:Nat} (h:¬ (a=f/\b=e)):upc c f e v a b=c a b:=if_neg h
def upu (u:Nat->Nat->Nat->Nat) (f e:Nat) (g:Nat->Nat):Nat->Nat->Nat->Nat:=λl a b=>if a=f/\b=e then g l else u l a b
theorem a8X {u:Nat->Nat->Nat->Nat} {f e:Nat} {g:Nat->Nat} {l:Nat}:upu u f e g l f e=g l:=if_pos ⟨rfl,rfl⟩
theorem a3O {u:Nat->Nat->Nat->Nat} {f e:Nat} {g:Nat->Nat} {l a b:Nat} (h:¬ (a=f/\b=e)):upu u f e g l a b=u l a b:=if_neg h
variable {Tc:Nat->Nat->OI} {Tt:Nat->Nat->Nat->OI} {c:Nat->Nat->Nat} {u:Nat->Nat->Nat->Nat} {f e:Nat}
def v0 (L:Nat) (h t:Nat->Nat->Nat->OI) (c:Nat->Nat->Nat) (u:Nat->Nat->Nat->Nat) (f e:Nat):Nat:=if e - f=1 then 1 else CT.ovr L h t c u 0 f e
theorem Ctd.s0 (T:CT.Tb L n h t F p W) (hL:0 < L) (a:Ctd L n h t Tc Tt c u (Dn f e)) (hfe:f+2<=e) (he:e<=n) (n6:n<=24):Sm1 L n Tc Tt c u f e (wys L h t 0 f e) (65536 ^ (2 * (e - f) - 2)) :=
 a.sm (by omega) he n6 λq hq=>by
  have:=wys0 T hL hfe he hq;exact ⟨by omega,this.1,λ_=>trivial,this.2⟩
theorem Ctd.v0_le (T:CT.Tb L n h t F p W) (hL:0 < L) (L4:L<=6) (a:Ctd L n h t Tc Tt c u (Dn f e)) (hfe:f < e) (he:e<=n) (n6:n<=24):v0 L h t c u f e<=256 * 65536 ^ (2 * (e - f) - 2):=by
 unfold v0;split
 ·rename_i z;rw [z];decide
 ·have s:=a.s0 T hL (by omega) he n6;rw [a1D];have h1:=a8U (f:=λq:Nat × Nat=>c f (f+q.2+1) * u (q.1+1) (f+q.2+1) e) (wys L h t 0 f e) s.d;have h2:=a4s (L:=L) (l:=0) (i:=f) (j:=e) (h:=h) (t:=t) L4 (by omega);have h3:=Nat.mul_le_mul_right (65536 ^ (2 * (e - f) - 2)) h2;omega
theorem Ctd.sl (T:CT.Tb L n h t F p W) (hL:0 < L) (L4:L<=6) (a:Ctd L n h t Tc Tt c u (Dn f e)) (hfe:f < e) (he:e<=n) (n6:n<=24) {l:Nat} (hl:l < L):Sm1 L n (up2 Tc f e (some (v0 L h t c u f e:Int))) Tt (upc c f e (v0 L h t c u f e)) u f e (wys L h t l f e) (256 * 65536 ^ (2 * (e - f) - 2)):=by
 have hv:=a.v0_le T hL L4 hfe he n6;have key:∀ q∈wys L h t l f e,(f+q.2+1=e/\q.1 < L)\/(f+q.2+1 < e/\q.1+1 < L):=λq hq=>by
  obtain ⟨h1,h2,h3,h4⟩:=a5k T hl hfe he hq;by_cases z:q.2+1 < e - f
  ·exact .inr ⟨by omega,h4 z⟩
  ·exact .inl ⟨by omega,h2⟩
 have tc:∀ q∈wys L h t l f e,f+q.2+1 < e->up2 Tc f e (some (v0 L h t c u f e:Int)) f (f+q.2+1)=Tc f (f+q.2+1)/\upc c f e (v0 L h t c u f e) f (f+q.2+1)=c f (f+q.2+1):=λq _ hlt=>by
  refine ⟨?_,a3N (by omega)⟩;unfold up2;rw [if_neg (by omega)]
 have te:up2 Tc f e (some (v0 L h t c u f e:Int)) f e=some (v0 L h t c u f e:Int):=by unfold up2;rw [if_pos ⟨rfl,rfl⟩]
 refine ⟨λq hq=>?_,λq hq=>?_,λq hq=>?_,λq hq=>?_,λq hq=>?_,λq hq=>?_⟩
 all_goals rcases key q hq with ⟨k1,k2⟩ | ⟨k1,k2⟩
 ·rw [k1,te,a3M]
 ·rw [(tc q hq k1).1,(tc q hq k1).2];exact a.vc f (f+q.2+1) (by omega) (by omega) (.inr ⟨rfl,by omega⟩)
 ·rw [k1,a.dg (q.1+1) e (by omega) he,a.td (q.1+1) e (by omega) he];rfl
 ·exact a.vt (q.1+1) (f+q.2+1) e k2 (by omega) he (.inl (by omega))
 ·rw [k1,a3M];exact Nat.le_trans hv (a5j (by omega))
 ·rw [(tc q hq k1).2];have:=a.bc f (f+q.2+1) (by omega) (by omega) (.inr ⟨rfl,by omega⟩);exact Nat.le_trans this (a5j (by omega))
 ·rw [k1,a.td (q.1+1) e (by omega) he];decide
 ·have:=a.bt (q.1+1) (f+q.2+1) e k2 (by omega) he (.inl (by omega));have h5:=a8V (show 2 * (e - (f+q.2+1)) - 1<=47 by omega);have h6:65536 ^ 47<=2 ^ 1000:=by decide
  omega
 ·rw [k1,a3M,a.td (q.1+1) e (by omega) he,Nat.mul_one];exact hv
 ·rw [(tc q hq k1).2];have x:=a.bc f (f+q.2+1) (by omega) (by omega) (.inr ⟨rfl,by omega⟩);have y:=a.bt (q.1+1) (f+q.2+1) e k2 (by omega) he (.inl (by omega));rw [show f+q.2+1 - f=q.2+1 by omega] at x;rw [show e - (f+q.2+1)=e - f - (q.2+1) by omega] at y;have:=a8W (by omega) (by omega) x y;omega
 ·exact ⟨k2,by omega⟩
 ·exact ⟨by omega,by omega⟩
theorem Ctd.step (T:CT.Tb L n h t F p W) (hL:0 < L) (L4:L<=6) (a:Ctd L n h t Tc Tt c u (Dn f e)) (hfe:f < e) (he:e<=n) (n6:n<=24) {Tt':Nat->Nat->Nat->OI} (h1:∀ l a b,¬ (a=f/\b=e)->Tt' l a b=Tt l a b) (h2:∀ l,l < L->Tt' l f e=some (CT.ovr L h t (upc c f e (v0 L h t c u f e)) u l f e:Int)) :
  ∃ c' u',Ctd L n h t (up2 Tc f e (some (v0 L h t c u f e:Int))) Tt' c' u' (Dn f (e+1)):=by
 have hv:=a.v0_le T hL L4 hfe he n6;refine ⟨upc c f e (v0 L h t c u f e),upu u f e λl=>CT.ovr L h t (upc c f e (v0 L h t c u f e)) u l f e,?_⟩;have dn:∀ {i j},Dn f (e+1) i j->¬ (i=f/\j=e)->Dn f e i j:=λhp z=>by
  rcases hp with y | y
  ·exact .inl y
  ·exact .inr ⟨y.1,by omega⟩
 have oth:∀ l i j,i < j->Dn f e i j->CT.ovr L h t (upc c f e (v0 L h t c u f e)) (upu u f e λl=>CT.ovr L h t (upc c f e (v0 L h t c u f e)) u l f e) l i j=CT.ovr L h t c u l i j:=λl i j hij hp=>by
  rw [a1D,a1D];congr 1;refine List.map_congr_left λq hq=>?_;have hb:=(CT.a0v.mp (a1u.mp hq).1).2.2;rw [a3N (by rcases hp with y | y <;> omega),a3O (by rcases hp with y | y <;> omega)]
 have own:∀ l,CT.ovr L h t (upc c f e (v0 L h t c u f e)) (upu u f e λl=>CT.ovr L h t (upc c f e (v0 L h t c u f e)) u l f e) l f e=CT.ovr L h t (upc c f e (v0 L h t c u f e)) u l f e:=λl=>by
  rw [a1D,a1D];congr 1;refine List.map_congr_left λq hq=>?_;rw [a3O (by omega)]
 refine ⟨λl j hl hj=>?_,λi j hij hj hp=>?_,λl i j hl hij hj hp=>?_,λi j hij hj hp=>?_,λl i j hl hij hj hp=>?_,λl j hl hj=>?_,λi j hij hj hp=>?_,λl i j hl hij hj hp=>?_⟩
 ·rw [h1 l j j (by omega)];exact a.dg l j hl hj
 ·by_cases z:i=f/\j=e
  ·obtain ⟨rfl,rfl⟩:=z;rw [a3M];unfold up2;rw [if_pos ⟨rfl,rfl⟩]
  ·rw [a3N z];unfold up2;rw [if_neg z];exact a.vc i j hij hj (dn hp z)
 ·by_cases z:i=f/\j=e
  ·obtain ⟨rfl,rfl⟩:=z;rw [h2 l hl,a8X]
  ·rw [h1 l i j z,a3O z];exact a.vt l i j hl hij hj (dn hp z)
 ·by_cases z:i=f/\j=e
  ·obtain ⟨rfl,rfl⟩:=z;rw [a3M];by_cases z1:j - i=1
   ·unfold v0;rw [if_pos z1,if_pos z1]
   ·rw [if_neg z1,own 0];have e0:v0 L h t c u i j=CT.ovr L h t c u 0 i j:=by unfold v0;rw [if_neg z1]
    rw [e0,a1D,a1D];congr 1;refine List.map_congr_left λq hq=>?_;have:=wys0 T hL (by omega) hj hq;rw [a3N (by omega)]
  ·rw [a3N z,oth 0 i j hij (dn hp z)];exact a.ec i j hij hj (dn hp z)
 ·by_cases z:i=f/\j=e
  ·obtain ⟨rfl,rfl⟩:=z;rw [a8X,own l]
  ·rw [a3O z,oth l i j hij (dn hp z)];exact a.et l i j hl hij hj (dn hp z)
 ·rw [a3O (by omega)];exact a.td l j hl hj
 ·by_cases z:i=f/\j=e
  ·obtain ⟨rfl,rfl⟩:=z;rw [a3M];exact hv
  ·rw [a3N z];exact a.bc i j hij hj (dn hp z)
 ·by_cases z:i=f/\j=e
  ·obtain ⟨rfl,rfl⟩:=z;rw [a8X,a1D];have s:=a.sl T hL L4 hij hj n6 hl;have h3:=a8U (f:=λq:Nat × Nat=>upc c i j (v0 L h t c u i j) i (i+q.2+1) * u (q.1+1) (i+q.2+1) j) (wys L h t l i j) s.d;have h4:=a4s (L:=L) (l:=l) (i:=i) (j:=j) (h:=h) (t:=t) L4 (by omega);have h5:=Nat.mul_le_mul_right (256 * 65536 ^ (2 * (j - i) - 2)) h4;have h6:65536 ^ (2 * (j - i) - 1)=65536 * 65536 ^ (2 * (j - i) - 2):=by
    rw [show 2 * (j - i) - 1=(2 * (j - i) - 2)+1 by omega,Nat.pow_succ,Nat.mul_comm]
   rw [h6];omega
  ·rw [a3O z];exact a.bt l i j hl hij hj (dn hp z)
theorem Ctd.cn (a:Ctd L n h t Tc Tt c u (λ_ _=>True)):CT.Cn L n h t c u:=⟨λi j hij hj=>a.ec i j hij hj trivial,λl i j hl hij hj=>a.et l i j hl hij hj trivial,a.td⟩
end
end K56
set_option exponentiation.threshold 2000
namespace K56
open PySem L2
structure CY where
 cc:Addr
 ca:Nat->Addr
 tt:Addr
 bt:Nat->Addr
 ct:Nat->Nat->Addr
abbrev cf (pr:Addr) (L:Int) (Y:CY):List (Str × V):=[("parted",.ref pr),("letters",.int L),("codes",.ref Y.cc),("tails",.ref Y.tt)]
structure CAt (D:Addr) (H:Hp) (r pr:Addr) (L s:Nat) (Y:CY) (Tc:Nat->Nat->OI) (Tt:Nat->Nat->Nat->OI):Prop where
 ob:∃ dx,H r=some (.ins D dx (cf pr (L:Int) Y))
 co:H Y.cc=some (.lst ((List.range s).map λi=>.ref (Y.ca i)))
 cr:∀ i,i < s->H (Y.ca i)=some (.lst ((List.range s).map λj=>oV (Tc i j)))
 tl:Tb H Y.tt Y.bt Y.ct (L+1) s Tt
 ic:∀ i j,i < s->j < s->Y.ca i=Y.ca j->i=j
 it:∀ l i l' i',l < L+1->l' < L+1->i < s->i' < s->Y.ct l i=Y.ct l' i'->l=l'/\i=i'
 ix:∀ i l k,i < s->l < L+1->k < s->Y.ca i≠Y.ct l k
theorem CAt.same {D:Addr} {H H':Hp} {r pr:Addr} {L s:Nat} {Y:CY} {Tc:Nat->Nat->OI} {Tt:Nat->Nat->Nat->OI} (a:CAt D H r pr L s Y Tc Tt) (k:a0p H H'):CAt D H' r pr L s Y Tc Tt:=by
 obtain ⟨dx,ho⟩:=a.ob;exact ⟨⟨dx,k _ _ ho⟩,k _ _ a.co,λi hi=>k _ _ (a.cr i hi),a.tl.same k,a.ic,a.it,a.ix⟩
theorem b0V {T:Nat->Nat->OI} {i j s:Nat} {v:OI} (hj:j < s):((List.range s).map λk=>oV (T i k)).set j (oV v)=(List.range s).map λk=>oV (up2 T i j v i k):=by
 have:=a8O (T:=λ_=>T) (l:=0) (i:=i) (j:=j) (s:=s) (v:=v) hj;rw [this];refine List.map_congr_left λk _=>?_;unfold up2 up3;by_cases e:k=j
 ·rw [if_pos ⟨rfl,rfl,e⟩,if_pos ⟨rfl,e⟩]
 ·rw [if_neg (λz=>e z.2.2),if_neg (λz=>e z.2)]
theorem CAt.putc {D:Addr} {H:Hp} {r pr:Addr} {L s:Nat} {Y:CY} {Tc:Nat->Nat->OI} {Tt:Nat->Nat->Nat->OI} {i j:Nat} {v:OI} (a:CAt D H r pr L s Y Tc Tt) (hi:i < s) (hj:j < s):CAt D (upd H (Y.ca i) (.lst (((List.range s).map λk=>oV (Tc i k)).set j (oV v)))) r pr L s Y (up2 Tc i j v) Tt:=by
 obtain ⟨dx,ho⟩:=a.ob;have hc:=a.cr i hi;refine ⟨⟨dx,?_⟩,?_,λk hk=>?_,a.tl.keep (by omega) (by omega) (by omega) hc λl k hl hk=>Ne.symm (a.ix i l k hi hl hk),a.ic,a.it,a.ix⟩
 ·rw [a0i (a0q ho hc (by intro z;cases z))];exact ho
 ·rw [a0i (a0q a.co hc (λz=>a2y (m:=s) (n:=s) (by omega) (by omega) (HO.lst.inj z)))];exact a.co
 ·by_cases e:k=i
  ·subst e;rw [a0b,b0V hj]
  ·rw [a0i (λz=>e (a.ic k i hk hi z)),a.cr k hk];refine congrArg (λz=>some (HO.lst z)) (List.map_congr_left λm _=>?_);unfold up2;rw [if_neg (λz=>e z.1)]
theorem CAt.putt {D:Addr} {H:Hp} {r pr:Addr} {L s:Nat} {Y:CY} {Tc:Nat->Nat->OI} {Tt:Nat->Nat->Nat->OI} {l i j:Nat} {v:OI} (a:CAt D H r pr L s Y Tc Tt) (hl:l < L+1) (hi:i < s) (hj:j < s):CAt D (upd H (Y.ct l i) (.lst (((List.range s).map λk=>oV (Tt l i k)).set j (oV v)))) r pr L s Y Tc (up3 Tt l i j v):=by
 obtain ⟨dx,ho⟩:=a.ob;have hc:=a.tl.c l i hl hi;refine ⟨⟨dx,?_⟩,?_,λk hk=>?_,a.tl.put a.it hl hi hj,a.ic,a.it,a.ix⟩
 ·rw [a0i (a0q ho hc (by intro z;cases z))];exact ho
 ·rw [a0i (a0q a.co hc (λz=>a2y (m:=s) (n:=s) (by omega) (by omega) (HO.lst.inj z)))];exact a.co
 ·rw [a0i (a.ix k l i hk hl hi)];exact a.cr k hk
def ZC (Y:CY) (L s:Nat) (a:Addr):Prop:=(∃ i,i < s/\a=Y.ca i)\/∃ l i,l < L+1/\i < s/\a=Y.ct l i
structure DC (K:PySem.W.Frag) (D:Addr):Prop where
 c:Cls K D
 np:a1o K D "parted"
 nl:a1o K D "letters"
 nc:a1o K D "codes"
 nt:a1o K D "tails"
section
variable {P':Program} {w:World} {K:PySem.W.Frag} {mg:Str->Option Value} {base:Heap} {f:Addr} {fd:FuncData}
abbrev NBy:List Str:=["self","way","first","end"]
def spBy (D:Addr):Sp:=λvs H Q _=>∃ (r pr:Addr) (L s:Nat) (Y:CY) (Tc:Nat->Nat->OI) (Tt:Nat->Nat->Nat->OI) (wt:Addr) (i wy cut j x y:Nat),vs=[.ref r,.ref wt,.int (i:Int),.int (j:Int)]/\CAt D H r pr L s Y Tc Tt/\H wt=some (.tup [.int (wy:Int),.int (cut:Int)])/\i < s/\cut < s/\j < s/\wy < L/\Tc i cut=some (x:Int)/\Tt (wy+1) cut j=some (y:Int)/\x<=2 ^ 1000/\y<=2 ^ 1000/\Q (.int ((x * y:Nat):Int)) H
theorem scBy:a0k NBy NBy (a0g sBy):=fsk
def b3H (i j:Int):Prop:=(0<=i/\i<=2 ^ 1000)/\(0<=j/\j<=2 ^ 1000)
theorem b3H.ok {i j:Int} (h:b3H i j):IntMulOk i j:=by
 have q:∀ k:Int,0<=k/\k<=2 ^ 1000->PySem.Builtin.Int.intBits k<=1010:=λk hk=>intBits_le_iff.mpr (by
  have e:(2:Nat) ^ 1010=10972248137587377366511872502374418540148785271864664140224003976912394763519345894330351399072725587226569450675744223489916367725489295806448207436491340599228997401420012529071180395583868049283025082524719590383187907857816337980585517000782912424520905193151019179684280147612287372121298604103041024:=by decide
  rw [e];omega)
 exact IntMulOk.of_le (q i h.1) (q j h.2) (by decide)
theorem a8Y {X:Cx}:OpR X (binaryOp .Mult) (rI b3H λi j=>.int (i * j)):=opI λ_ _ _ _ _ _ _ hc q=>PyProof.Rows.mul_int q hc.ok
theorem ok_by {D:Addr} (F:Fun K "by_way" "Counts.by_way" sBy f fd) (rc:DC K D):a0M P' w K mg base CX0 1 f fd NBy (spBy D):=by
 refine F.ok (k:=0) scBy (λvs H Q E h=>?_) (λcdv A outer s H vs Q E hr h=>?_)
 ·obtain ⟨r,pr,L,s',Y,Tc,Tt,wt,i,wy,cut,j,x,y,rfl,_⟩:=h;rfl
 obtain ⟨r,pr,L,s',Y,Tc,Tt,wt,i,wy,cut,j,x,y,rfl,ca,hwt,hi,hcut,hj,hwy,ex,ey,bx,bY,q⟩:=h;refine ⟨_,a0h (a0o (a0l a8Y (pxA a0j (pxA a0j (a0F (pv 0) rfl) (pv 2)) (pxA a0y (pv 1) a0e)) (pxA a0j (pxA a0j (pxA a0j (a0F (pv 0) rfl) (a0l a0t (pxA a0y (pv 1) a0e) a0e)) (pxA a0y (pv 1) a0e)) (pv 3)))),?_⟩;obtain ⟨dx,ho⟩:=ca.ob;refine ⟨_,rfl,r,D,dx,_,_,rfl,ho,rc.c,rc.nc,rfl,_,rfl,Y.cc,_,_,_,rfl,rfl,SqL.of ca.co,a0s hi,_,rfl,wt,_,_,_,rfl,rfl,SqT.of hwt,rfl,Y.ca i,_,_,_,rfl,rfl,SqL.of (ca.cr i hi),a0s hcut,?_⟩;refine ⟨_,rfl,r,D,dx,_,_,rfl,ho,rc.c,rc.nt,rfl,_,rfl,wt,_,_,_,rfl,rfl,SqT.of hwt,rfl,_,_,rfl,rfl,Y.tt,_,_,_,rfl,rfl,SqL.of ca.tl.o,a0s (k:=wy+1) (by omega),_,rfl,wt,_,_,_,rfl,rfl,SqT.of hwt,rfl,Y.bt (wy+1),_,_,_,rfl,rfl,SqL.of (ca.tl.b (wy+1) (by omega)),a0s hcut,_,rfl,Y.ct (wy+1) cut,_,_,_,rfl,rfl,SqL.of (ca.tl.c (wy+1) cut (by omega) hcut),a0s hj,?_⟩;rw [ex,ey];have h1:(x:Int)<=2 ^ 1000:=Int.le_trans (Int.ofNat_le.mpr bx) (by rw [Int.natCast_pow];exact Int.le_refl _);have h2:(y:Int)<=2 ^ 1000:=Int.le_trans (Int.ofNat_le.mpr bY) (by rw [Int.natCast_pow];exact Int.le_refl _);refine ⟨_,_,rfl,rfl,⟨⟨by omega,h1⟩,⟨by omega,h2⟩⟩,?_⟩;have e:((x * y:Nat):Int)=(x:Int) * (y:Int):=Int.natCast_mul x y;rw [e] at q;exact q
abbrev NOv:List Str:=["self","letter","first","end"]
def b2g (C D:Addr):Sp:=λvs H Q _=>∃ (r pr p:Addr) (ps ws:List Int) (X:Ad) (h t:Nat->Nat->Nat->OI) (Y:CY) (Tc:Nat->Nat->OI) (Tt:Nat->Nat->Nat->OI) (c:Nat->Nat->Nat) (u:Nat->Nat->Nat->Nat) (l i j B:Nat),vs=[.ref r,.int (l:Int),.int (i:Int),.int (j:Int)]/\PAt C H pr p ps ws X h t/\CAt D H r pr ps.length (ws.length+1) Y Tc Tt/\ws.length<=24/\ps.length<=6/\l < ps.length/\i < j/\j<=ws.length/\Sm1 ps.length ws.length Tc Tt c u i j (wys ps.length h t l i j) B/\∀ H',a0p H H'->Q (.int (CT.ovr ps.length h t c u l i j:Int)) H'
theorem scOver:a0k NOv NOv (a0g b0M):=fsk
theorem ndOv:(("way":Str) :: NOv).Nodup:=by decide +kernel
theorem a8Z (xs:List Nat):(xs.map λx:Nat=>(x:Int)).sum=((xs.sum:Nat):Int):=by
 induction xs with
 | nil=>rfl
 | cons x xs ih=>rw [List.map_cons,List.sum_cons,List.sum_cons,ih];push_cast;rfl
theorem b3I {C D:Addr} (F:Fun K "over_ways" "Counts.over_ways" b0M f fd) (MW:Mt P' w K mg base C "ways" ["self","letter","first","end"] (a3L C) 3) (MY:Mt P' w K mg base D "by_way" NBy (spBy D) 3) (rcP:PC K C) (rc:DC K D) (ms:mg "sum"=none):a0M P' w K mg base CX0 4 f fd NOv (b2g C D):=by
 refine F.ok (k:=3) scOver (λvs H Q E h=>?_) (λcdv A outer s H vs Q E hr h=>?_)
 ·obtain ⟨r,pr,p,ps,ws,X,h,t,Y,Tc,Tt,c,u,l,i,j,B,rfl,_⟩:=h;rfl
 obtain ⟨r,pr,p,ps,ws,X,h,t,Y,Tc,Tt,c,u,l,i,j,B,rfl,pa,ca,w6,p4,hl,hij,hj,sm,q⟩:=h;refine ⟨_,a0h (a0o (a0G (a2k rfl) (by rfl) ms a8k (a0a (a1B (M:=NOv) rfl (cso (a0g b0M) NOv) ndOv rfl (a5c (a0P (a0F (pv 0) rfl) rcP.c MW.m MW.ok hr MW.b .nil a0Y (a0a (pv 1) (a0a (pv 2) (a0a (pv 3) a0d))))) a6v
   (λcl C s0 H0 fp=>⟨a0L,a0P (pv 1) rc.c MY.m MY.ok hr MY.b .nil a0Y (a0a (pv 0) (a0a (pv 3) (a0a (pv 4) a0d)))⟩)) a0d))),?_⟩
 obtain ⟨dx,ho⟩:=ca.ob;obtain ⟨dp,hop⟩:=pa.ob;refine ⟨λv H1=>∃ d xs,v=.ref d/\a0p H H1/\H1 d=some (.lst xs)/\Paired (Way H1 i) xs (wys ps.length h t l i j),?_,λv H1 hv=>?_⟩
 ·exact ⟨_,rfl,r,D,dx,_,_,rfl,ho,rc.c,rc.np,rfl,pr,dp,_,rfl,hop,rfl,_,rfl,_,rfl,_,rfl,pr,p,ps,ws,X,h,t,l,i,j,rfl,pa,by omega,by omega,hl,hij,hj,λd xs H' s' g' w'=>⟨d,xs,rfl,s',g',w'⟩⟩
 obtain ⟨d,xs,rfl,s1,g1,w1⟩:=hv;have lx:xs.length=(wys ps.length h t l i j).length:=w1.length;have l24:=a4s (L:=ps.length) (l:=l) (i:=i) (j:=j) (h:=h) (t:=t) p4 (by omega);refine ⟨d,_,rfl,SqL.of g1,λe2 he2=>?_⟩;refine ⟨λk H'=>a0p H1 H'/\H' e2=some (.lst ((((wys ps.length h t l i j).take k).map λq=>((c i (i+q.2+1) * u (q.1+1) (i+q.2+1) j:Nat):Int)).map V.int)),⟨a0f he2 _,a0b⟩,λk H' _ hP=>SqL.of (hP.1 _ _ g1),λk x H' hx hP=>?_,λH' hP=>?_⟩
 ·obtain ⟨s2,g2⟩:=hP;obtain ⟨q',hq,wt,rfl,hwt⟩:=Paired.right_of w1 k x hx;have hm:=List.mem_of_getElem? hq;have kl:=(List.getElem?_eq_some_iff.mp hq).1;have s12:=s1.trans s2;have hg:=sm.g q' hm;refine a0E ⟨_,rfl,r,dx,_,rfl,s12 _ _ ho,rfl,_,rfl,_,rfl,_,rfl,r,pr,ps.length,ws.length+1,Y,Tc,Tt,wt,i,q'.1,i+q'.2+1,j,c i (i+q'.2+1),u (q'.1+1) (i+q'.2+1) j,rfl,ca.same s12,s2 _ _ hwt,by omega,by omega,by omega,hg.1,sm.a q' hm,sm.b q' hm,sm.c1 q' hm,sm.u1 q' hm,_,g2,?_,a0n he2 s2,?_⟩
  ·rw [List.length_map,List.length_map,List.length_take];exact a0m (by omega)
  ·rw [a0b,List.take_add_one,hq,List.map_append,List.map_append];rfl
 ·obtain ⟨s2,g2⟩:=hP;rw [lx,List.take_length] at g2;refine ⟨e2,_,rfl,g2,?_⟩;have e:((wys ps.length h t l i j).map λq=>((c i (i+q.2+1) * u (q.1+1) (i+q.2+1) j:Nat):Int)).sum=(CT.ovr ps.length h t c u l i j:Int):=by
   rw [a1D,<-a8Z,List.map_map];rfl
  rw [e];exact q _ (s1.trans s2)
end
end K56
set_option exponentiation.threshold 2000
namespace K56
namespace CT
def tabs (L:Nat):Nat->(Nat->List Code) × (Nat->Nat->List Code)
 | 0=>(λ_=>[],λ_ _=>[])
 | m+1=>(λk=>if k=m+1 then (if m=0 then [[[]]] else rw' L (tabs L m).1 (tabs L m).2 (m+1) 0 m) else (tabs L m).1 k,
   λk l=>if k=m+1 then (if l < L then rw' L (λk=>if k=m+1 then (if m=0 then [[[]]] else rw' L (tabs L m).1 (tabs L m).2 (m+1) 0 m) else (tabs L m).1 k) (tabs L m).2 (m+1) l (m+1) else []) else (tabs L m).2 k l)
def Cs (L m:Nat):List Code:=(tabs L m).1 m
def Rs (L m l:Nat):List Code:=(tabs L m).2 m l
theorem a3l {α β:Type} {f g:α->List β}:∀ {xs:List α},(∀ x∈xs,f x=g x)->xs.flatMap f=xs.flatMap g
 | [],_=>rfl
 | x :: xs,h=>by rw [List.flatMap_cons,List.flatMap_cons,h x (.head _),a3l λy hy=>h y (.tail _ hy)]
theorem a6K {L many low most:Nat} {C C':Nat->List Code} {R R':Nat->Nat->List Code} (hC:∀ k,1<=k->k<=most->C k=C' k) (hR:∀ k l,1<=k->k < many->R k l=R' k l):rw' L C R many low most=rw' L C' R' many low most:=by
 unfold rw';refine a3l λq hq=>?_;obtain ⟨_,_,h3⟩:=a0v.mp hq;rw [hC (q.2+1) (by omega) (by omega)];have:bhd R many q=bhd R' many q:=by
  unfold bhd;split
  ·exact hR _ _ (by omega) (by omega)
  ·rfl
 rw [this]
theorem a9a {L k:Nat}:∀ {m:Nat},k<=m->(tabs L m).1 k=Cs L k
 | 0,h=>by
  have:k=0:=by omega
  subst this;rfl
 | m+1,h=>by
  by_cases e:k=m+1
  ·subst e;rfl
  ·show (if k=m+1 then _ else (tabs L m).1 k)=_;rw [if_neg e];exact a9a (by omega)
theorem a9b {L k l:Nat}:∀ {m:Nat},k<=m->(tabs L m).2 k l=Rs L k l
 | 0,h=>by
  have:k=0:=by omega
  subst this;rfl
 | m+1,h=>by
  by_cases e:k=m+1
  ·subst e;rfl
  ·show (if k=m+1 then _ else (tabs L m).2 k l)=_;rw [if_neg e];exact a9b (by omega)
theorem a1R {L:Nat}:Cs L 1=[[[]]]:=rfl
theorem a5l {L m:Nat} (h:1 < m):Cs L m=rw' L (Cs L) (Rs L) m 0 (m - 1):=by
 obtain ⟨k,rfl⟩:∃ k,m=k+1:=⟨m - 1,by omega⟩
 show (if k+1=k+1 then (if k=0 then [[[]]] else rw' L (tabs L k).1 (tabs L k).2 (k+1) 0 k) else _)=_;rw [if_pos rfl,if_neg (by omega)];exact a6K (λj _ hj=>a9a hj) λj l _ hj=>a9b (by omega)
theorem a5m {L m l:Nat} (h:1<=m) (hl:l < L):Rs L m l=rw' L (Cs L) (Rs L) m l m:=by
 obtain ⟨k,rfl⟩:∃ k,m=k+1:=⟨m - 1,by omega⟩
 show (if k+1=k+1 then (if l < L then rw' L (tabs L (k+1)).1 (tabs L k).2 (k+1) l (k+1) else []) else _)=_;rw [if_pos rfl,if_pos hl];exact a6K (λj _ hj=>a9a hj) λj l _ hj=>a9b (by omega)
theorem a3P {L m l:Nat} (hl:¬ l < L):Rs L m l=[]:=by
 cases m with
 | zero=>rfl
 | succ k =>
  show (if k+1=k+1 then (if l < L then _ else []) else _)=_;rw [if_pos rfl,if_neg hl]
structure Gd (L m B:Nat) (c:Code):Prop where
 ln:c.length=m
 wd:∀ u∈c,u.length<=B/\∀ x∈u,(0:Int)<=x/\x < (L:Int)
theorem rw_gd {L many low most:Nat} {C:Nat->List Code} {R:Nat->Nat->List Code} {B:Nat} (hm:most<=many) (hB:most<=B) (hB2:many<=B+1) (hC:∀ k,1<=k->k<=most->∀ c∈C k,Gd L k (k - 1) c) (hR:∀ k l,1<=k->k < many->∀ r∈R k l,Gd L k k r):∀ c∈rw' L C R many low most,Gd L many B c:=by
 intro c hc;unfold rw' at hc;obtain ⟨q,hq,hc⟩:=List.mem_flatMap.mp hc;obtain ⟨b,hb,hc⟩:=List.mem_flatMap.mp hc;obtain ⟨r,hr,rfl⟩:=List.mem_map.mp hc;obtain ⟨_,h2,h3⟩:=a0v.mp hq;have g1:=hC (q.2+1) (by omega) (by omega) b hb;have g2:Gd L (many - (q.2+1)) B r:=by
  unfold bhd at hr;split at hr
  ·have:=hR _ _ (by omega) (by omega) r hr;exact ⟨this.ln,λu hu=>⟨by have:=(this.wd u hu).1;omega,(this.wd u hu).2⟩⟩
  ·have e:r=[]:=by simpa using hr
   subst e;exact ⟨by simp;omega,λu hu=>by cases hu⟩
 refine ⟨?_,λu hu=>?_⟩
 ·rw [List.length_append,g2.ln];unfold ahd;rw [List.length_map,g1.ln];omega
 ·rcases List.mem_append.mp hu with z | z
  ·unfold ahd at z;obtain ⟨v,hv,rfl⟩:=List.mem_map.mp z;have:=g1.wd v hv;refine ⟨by rw [List.length_cons];omega,λx hx=>?_⟩;rcases List.mem_cons.mp hx with z | z
   ·rw [z];exact ⟨by omega,by omega⟩
   ·exact this.2 x z
  ·exact g2.wd u z
theorem a6L {L:Nat}:∀ d m,m<=d->1<=m->(∀ c∈Cs L m,Gd L m (m - 1) c)/\∀ l,∀ r∈Rs L m l,Gd L m m r
 | 0,m,h,h1=>by omega
 | d+1,m,h,h1=>by
  have ihC:∀ k,1<=k->k < m->∀ c∈Cs L k,Gd L k (k - 1) c:=λk a b=>(a6L d k (by omega) a).1;have ihR:∀ k l,1<=k->k < m->∀ r∈Rs L k l,Gd L k k r:=λk l a b=>(a6L d k (by omega) a).2 l;have hC:∀ c∈Cs L m,Gd L m (m - 1) c:=by
   by_cases e:m=1
   ·subst e;rw [a1R];intro c hc;have:c=[[]]:=by simpa using hc
    subst this;exact ⟨rfl,λu hu=>by
     have:u=[]:=by simpa using hu
     subst this;exact ⟨by simp,λx hx=>by cases hx⟩⟩
   ·rw [a5l (by omega)];exact rw_gd (by omega) (by omega) (by omega) (λk a b=>ihC k a (by omega)) ihR
  refine ⟨hC,λl=>?_⟩;by_cases hl:l < L
  ·rw [a5m h1 hl];refine rw_gd (by omega) (by omega) (by omega) (λk a b=>?_) ihR;by_cases e:k=m
   ·subst e;exact hC
   ·exact ihC k a (by omega)
  ·rw [a3P hl];intro r hr;cases hr
theorem a5n {L m:Nat} (h:1<=m):∀ c∈Cs L m,Gd L m (m - 1) c:=(a6L m m (Nat.le_refl _) h).1
theorem Rs_gd {L m l:Nat} (h:1<=m):∀ c∈Rs L m l,Gd L m m c:=(a6L m m (Nat.le_refl _) h).2 l
def inL (L m:Nat):Prop:=2<=L/\L<=6/\m<=24
def blk (L many l b:Nat):List Code:=(Cs L (b+1)).flatMap λc=>(bhd (Rs L) many (l,b)).map λr=>ahd l c++r
def pc (ps:List Int) (u:List Int):Int:=(u.map λx=>ps.getD x.toNat 0).sum
def co (ps ws:List Int) (i:Nat) (c:Code):Int:=(List.zipWith (λw u=>w * pc ps u) (ws.drop i) c).sum
theorem a5o {ps ws:List Int} {i:Nat}:co ps ws i []=0:=by unfold co;rw [List.zipWith_nil_right];rfl
theorem a3Q (ws:List Int) (i:Nat):(ws.length<=i/\ws.drop i=[])\/∃ w,i < ws.length/\ws.drop i=w :: ws.drop (i+1)/\(ws.take (i+1)).sum=(ws.take i).sum+w:=by
 by_cases h:i < ws.length
 ·refine .inr ⟨ws[i],h,List.drop_eq_getElem_cons h,?_⟩;rw [List.take_succ_eq_append_getElem h,List.sum_append];simp
 ·exact .inl ⟨by omega,List.drop_eq_nil_of_le (by omega)⟩
theorem b2h {ps ws:List Int} {i:Nat}:co ps ws i [[]]=0:=by
 unfold co;rcases a3Q ws i with ⟨_,e⟩ | ⟨w,_,e,_⟩
 ·rw [e];rfl
 ·rw [e];show (w * pc ps [] :: List.zipWith _ _ []).sum=0;rw [List.zipWith_nil_right];show w * 0+0=0;omega
theorem a3R {ps ws:List Int} {l:Nat} {r:Code}:∀ (c:Code) (i:Nat),co ps ws i (ahd l c++r)=pl ps l * Wt ws i (i+c.length)+co ps ws i c+co ps ws (i+c.length) r
 | [],i=>by
  rw [a5o];show co ps ws i r=pl ps l * Wt ws i (i+0)+0+co ps ws (i+0) r;unfold Wt;rw [Nat.add_zero,Int.sub_self,Int.mul_zero];omega
 | u :: c,i=>by
  have ih:=a3R (ps:=ps) (ws:=ws) (l:=l) (r:=r) c (i+1);rw [show i+1+c.length=i+(u :: c).length by rw [List.length_cons];omega] at ih;rcases a3Q ws i with ⟨hn,e⟩ | ⟨w,hn,e,es⟩
  ·have e2:ws.drop (i+(u :: c).length)=[]:=List.drop_eq_nil_of_le (by omega);unfold co;rw [e,e2,List.zipWith_nil_left,List.zipWith_nil_left,List.zipWith_nil_left];unfold Wt;rw [List.take_of_length_le (by omega),List.take_of_length_le (by omega),Int.sub_self,Int.mul_zero];rfl
  ·have e1:co ps ws i (ahd l (u :: c)++r)=w * pc ps ((l:Int) :: u)+co ps ws (i+1) (ahd l c++r):=by
    unfold co;rw [e];exact List.sum_cons
   have e2:co ps ws i (u :: c)=w * pc ps u+co ps ws (i+1) c:=by
    unfold co;rw [e];exact List.sum_cons
   have e3:pc ps ((l:Int) :: u)=pl ps l+pc ps u:=by
    unfold pc;rw [List.map_cons,List.sum_cons];rfl
   have e4:Wt ws i (i+(u :: c).length)=w+Wt ws (i+1) (i+(u :: c).length):=by
    unfold Wt;omega
   rw [e1,e2,e3,e4,ih,Int.mul_add,Int.mul_add,Int.mul_comm w (pl ps l)];omega
theorem en {ps ws:List Int}:En ps.length (pl ps) (Wt ws) (Cs ps.length) (Rs ps.length) (co ps ws) where
 c1:=a1R
 cs:=λm h=>a5l h
 rs:=λm l h hl=>a5m h hl
 rL:=λm=>a3P (by omega)
 nil:=λi=>a5o
 one:=λi=>b2h
 app:=λi l m c r hc=>by
  have hm:1<=m:=by
   cases m with
   | zero=>cases hc
   | succ k=>omega
  have:=(a5n hm c hc).ln;have h:=a3R (ps:=ps) (ws:=ws) (l:=l) (r:=r) c i;rw [this] at h;exact h
end CT
end K56
set_option exponentiation.threshold 2000
namespace K56
open PySem L2
section
variable {P':Program} {w:World} {K:PySem.W.Frag} {mg:Str->Option Value} {base:Heap} {f:Addr} {fd:FuncData}
abbrev NPc:List Str:=["self","first","end","letter"]
def b2i (C D:Addr):Sp:=λvs H Q _=>∃ (H0:Hp) (r pr p:Addr) (ps ws:List Int) (X:Ad) (h t:Nat->Nat->Nat->OI) (Fl:Nat->Nat->OI) (Y:CY) (Tc:Nat->Nat->OI) (Tt:Nat->Nat->Nat->OI) (c:Nat->Nat->Nat) (u:Nat->Nat->Nat->Nat) (i j:Nat),vs=[.ref r,.int (i:Int),.int (j:Int)]/\a0p H0 H/\PAt C H0 pr p ps ws X h t/\(∀ a,ZC Y ps.length (ws.length+1) a->H0 a=none)/\CAt D H r pr ps.length (ws.length+1) Y Tc Tt/\CT.Tb ps.length ws.length h t Fl (pl ps) (Wt ws)/\ws.length<=24/\ps.length<=6/\0 < ps.length/\i < j/\j<=ws.length/\Ctd ps.length ws.length h t Tc Tt c u (Dn i j) /\
 ∀ H' Tc' Tt' c' u',a0p H0 H'->CAt D H' r pr ps.length (ws.length+1) Y Tc' Tt'->Ctd ps.length ws.length h t Tc' Tt' c' u' (Dn i (j+1))->Q .non H'
theorem b2j:a0k NPc ["self","first","end"] (a0g b3x):=fsk
theorem b3J {C D:Addr} (F:Fun K "put_counts" "Counts.put_counts" b3x f fd) (MO:Mt P' w K mg base D "over_ways" NOv (b2g C D) 4) (rc:DC K D) (mr:mg "range"=none):a0M P' w K mg base CX0 5 f fd ["self","first","end"] (b2i C D):=by
 refine F.ok (k:=4) b2j (λvs H Q E h=>?_) (λcdv A outer s H vs Q E hr h=>?_)
 ·obtain ⟨H0,r,pr,p,ps,ws,X,h,t,Fl,Y,Tc,Tt,c,u,i,j,rfl,_⟩:=h;rfl
 obtain ⟨H0,r,pr,p,ps,ws,X,h,t,Fl,Y,Tc,Tt,c,u,i,j,rfl,s0,pa,fz,ca,T,w6,p4,p0,hij,hj,ctd,q⟩:=h;refine ⟨_,a0c (a2C (a5c (b0e (a0r a1J (a0l a1k (pv 2) (pv 1)) a0e (nomark _)) a0e (a0P (pv 0) rc.c MO.m MO.ok hr MO.b .nil a0Y (a0a a0e (a0a (pv 1) (a0a (pv 2) a0d)))))) (a4N (pxA a0j (a0F (pv 0) rfl) (pv 1)) (pv 2) a2j))
  (a0h (a1n PassesOwn.never rfl (a2h (by rfl) mr (a0a (a0F (pv 0) rfl) a0d)) (pgA (i:=3) b2j)
   (a0h (a2C (a0P (pv 0) rc.c MO.m MO.ok hr MO.b .nil a0Y (a0a (pv 3) (a0a (pv 1) (a0a (pv 2) a0d)))) (a4N (pxA a0j (pxA a0j (a0F (pv 0) rfl) (pv 3)) (pv 1)) (pv 2) a2j))))),?_⟩
 have i1:i < ws.length+1:=by omega
 have j1:j < ws.length+1:=by omega
 obtain ⟨dx,ho⟩:=ca.ob;refine ⟨λv H1=>v=.int (v0 ps.length h t c u i j:Int)/\a0p H H1,?_,λv H1 hv=>?_⟩
 ·refine ⟨_,rfl,_,rfl,_,_,rfl,rfl,rfl,_,rfl,?_⟩;refine a2b (λz=>?_) (λz=>?_)
  ·have z1:j - i=1:=by
    have y:V.int ((j:Int) - (i:Int))=V.int 1:=of_decide_eq_true z;have:=V.int.inj y;omega
   refine ⟨?_,a0p.refl _⟩;unfold v0;rw [if_pos z1];rfl
  ·have z1:¬ j - i=1:=λy=>z (decide_eq_true (by show V.int ((j:Int) - (i:Int))=V.int 1;congr 1;omega));refine ⟨_,rfl,r,dx,_,rfl,ho,rfl,_,rfl,_,rfl,r,pr,p,ps,ws,X,h,t,Y,Tc,Tt,c,u,0,i,j,_,rfl,pa.same s0,ca,w6,p4,p0,hij,hj,ctd.s0 T p0 (by omega) hj w6,λH' s'=>⟨?_,s'⟩⟩;unfold v0;rw [if_neg z1]
 obtain ⟨rfl,s1⟩:=hv;have ca1:=ca.same s1;have s01:=s0.trans s1;obtain ⟨dx1,ho1⟩:=ca1.ob;refine ⟨_,rfl,r,D,dx1,_,_,rfl,ho1,rc.c,rc.nc,rfl,_,rfl,Y.cc,_,_,_,rfl,rfl,SqL.of ca1.co,a0s i1,_,rfl,Y.ca i,_,_,j,rfl,rfl,ca1.cr i i1,(by rw [List.length_map,List.length_range];exact a3k j1),?_⟩;have ca2:CAt D (upd H1 (Y.ca i) (.lst (((List.range (ws.length+1)).map λk=>oV (Tc i k)).set j (.int (v0 ps.length h t c u i j:Int))))) r pr ps.length (ws.length+1) Y (up2 Tc i j (some (v0 ps.length h t c u i j:Int))) Tt:=ca1.putc (v:=some (v0 ps.length h t c u i j:Int)) i1 j1;have s02:a0p H0 (upd H1 (Y.ca i) (.lst (((List.range (ws.length+1)).map λk=>oV (Tc i k)).set j (.int (v0 ps.length h t c u i j:Int))))):=a0n (fz _ (.inl ⟨i,i1,rfl⟩)) s01;generalize upd H1 (Y.ca i) (.lst (((List.range (ws.length+1)).map λk=>oV (Tc i k)).set j (.int (v0 ps.length h t c u i j:Int))))=H2 at ca2 s02 ⊢;obtain ⟨dx2,ho2⟩:=ca2.ob;refine ⟨_,rfl,r,D,dx2,_,_,rfl,ho2,rc.c,rc.nl,rfl,_,rfl,by omega,by omega,?_⟩;rw [Int.toNat_natCast];refine a1j (λl σ H'=>a0p H0 H'/\(∃ Tt',CAt D H' r pr ps.length (ws.length+1) Y (up2 Tc i j (some (v0 ps.length h t c u i j:Int))) Tt'/\(∀ l' a b,¬ (a=i/\b=j)->Tt' l' a b=Tt l' a b)/\∀ l',l' < l->Tt' l' i j=some (CT.ovr ps.length h t (upc c i j (v0 ps.length h t c u i j)) u l' i j:Int))/\∃ x3:Option V,σ=[some (.ref r),some (.int (i:Int)),some (.int (j:Int)),x3])
  ⟨s02,⟨Tt,ca2,λ_ _ _ _=>rfl,λl' hl'=>absurd hl' (Nat.not_lt_zero _)⟩,_,rfl⟩ (λl σ H3 hl hP=>?_) (λσ H3 hP=>?_)
 ·obtain ⟨s03,⟨Tt',ca3,t1,t2⟩,x3,rfl⟩:=hP;rw [show (0:Int)+(l:Int)=(l:Int) from Int.zero_add _];obtain ⟨dx3,ho3⟩:=ca3.ob;have sm:=ctd.sl T p0 p4 hij hj w6 hl;have sm':Sm1 ps.length ws.length (up2 Tc i j (some (v0 ps.length h t c u i j:Int))) Tt' (upc c i j (v0 ps.length h t c u i j)) u i j (wys ps.length h t l i j) (256 * 65536 ^ (2 * (j - i) - 2)):=⟨sm.a,λq hq=>by rw [t1 _ _ _ (by omega)];exact sm.b q hq,sm.c1,sm.u1,sm.d,sm.g⟩
  refine ⟨_,rfl,r,dx3,_,rfl,ho3,rfl,_,rfl,_,rfl,_,rfl,r,pr,p,ps,ws,X,h,t,Y,_,Tt',_,u,l,i,j,_,rfl,pa.same s03,ca3,w6,p4,hl,hij,hj,sm',λH4 s4=>?_⟩;have ca4:=ca3.same s4;have s04:=s03.trans s4;obtain ⟨dx4,ho4⟩:=ca4.ob;have l2:l < ps.length+1:=by omega
  refine ⟨_,rfl,r,D,dx4,_,_,rfl,ho4,rc.c,rc.nt,rfl,_,rfl,Y.tt,_,_,_,rfl,rfl,SqL.of ca4.tl.o,a0s l2,_,rfl,Y.bt l,_,_,_,rfl,rfl,SqL.of (ca4.tl.b l l2),a0s i1,_,rfl,Y.ct l i,_,_,j,rfl,rfl,ca4.tl.c l i l2 i1,(by rw [List.length_map,List.length_range];exact a3k j1),?_⟩;refine ⟨a0n (fz _ (.inr ⟨l,i,l2,i1,rfl⟩)) s04,⟨_,ca4.putt (v:=some (CT.ovr ps.length h t (upc c i j (v0 ps.length h t c u i j)) u l i j:Int)) l2 i1 j1,λl' a b z=>?_,λl' hl'=>?_⟩,_,rfl⟩
  ·rw [a2G λy=>z ⟨y.2.1,y.2.2⟩];exact t1 l' a b z
  ·by_cases z:l'=l
   ·subst z;rw [a6J]
   ·rw [a2G λy=>z y.1];exact t2 l' (by omega)
 ·obtain ⟨s03,⟨Tt',ca3,t1,t2⟩,x3,rfl⟩:=hP;obtain ⟨c',u',k⟩:=ctd.step T p0 p4 hij hj w6 t1 t2;exact q H3 _ Tt' c' u' s03 ca3 k
end
def drp (r:Addr) (H:Hp):Hp:=λa=>if a=r then none else H a
theorem a1H {r a:Addr} {H:Hp} (h:a≠r):drp r H a=H a:=if_neg h
theorem a2M {r:Addr} {H H':Hp} (k:a3y r H H'):a0p (drp r H) H':=λa o e=>by
 by_cases z:a=r
 ·unfold drp at e;rw [if_pos z] at e;cases e
 ·rw [a1H z] at e;exact k a o z e
theorem a2N {r:Addr} {H H':Hp} (s:a0p (drp r H) H'):a3y r H H':=λa o ha e=>s a o (by rw [a1H ha];exact e)
theorem PAt.drp {C D:Addr} {H:Hp} {pr p r dx:Addr} {ps ws:List Int} {X:Ad} {h t:Nat->Nat->Nat->OI} (a:PAt C H pr p ps ws X h t) (hr:H r=some (.ins D dx [])):PAt C (K56.drp r H) pr p ps ws X h t:=by
 obtain ⟨dy,ho⟩:=a.ob;refine ⟨⟨dy,?_⟩,?_,?_,⟨?_,λl hl=>?_,λl i hl hi=>?_⟩,⟨?_,λl hl=>?_,λl i hl hi=>?_⟩,a.ih,a.it,a.ix,a.ns⟩
 ·rw [a1H (a0q ho hr (by intro z;cases z))];exact ho
 ·show K56.drp r H p=_;rw [a1H (a0q a.hp hr (by intro z;cases z))];exact a.hp
 ·rw [a1H (a0q a.su hr (by intro z;cases z))];exact a.su
 ·rw [a1H (a0q a.hd.o hr (by intro z;cases z))];exact a.hd.o
 ·rw [a1H (a0q (a.hd.b l hl) hr (by intro z;cases z))];exact a.hd.b l hl
 ·rw [a1H (a0q (a.hd.c l i hl hi) hr (by intro z;cases z))];exact a.hd.c l i hl hi
 ·rw [a1H (a0q a.tl.o hr (by intro z;cases z))];exact a.tl.o
 ·rw [a1H (a0q (a.tl.b l hl) hr (by intro z;cases z))];exact a.tl.b l hl
 ·rw [a1H (a0q (a.tl.c l i hl hi) hr (by intro z;cases z))];exact a.tl.c l i hl hi
end K56
set_option exponentiation.threshold 2000
namespace K56
open PySem L2
section
variable {P':Program} {w:World} {K:PySem.W.Frag} {mg:Str->Option Value} {base:Heap} {f:Addr} {fd:FuncData}
abbrev NCi:List Str:=["self","prices","weights","side","first","end"]
abbrev cf1 (pr:Addr):List (Str × V):=[("parted",.ref pr)]
abbrev cf2 (pr:Addr) (L:Int):List (Str × V):=[("parted",.ref pr),("letters",.int L)]
abbrev cf3 (pr:Addr) (L:Int) (cc:Addr):List (Str × V):=[("parted",.ref pr),("letters",.int L),("codes",.ref cc)]
abbrev tc0:Nat->Nat->OI:=λa b=>if b=a then none else none
abbrev tt0:Nat->Nat->Nat->OI:=λ_ a b=>if b=a then some 1 else none
def a9c (C D:Addr):Sp:=λvs H Q _=>∃ (r dx p q:Addr) (ps ws:List Int),vs=[.ref r,.ref p,.ref q]/\H r=some (.ins D dx [])/\TW H p ps/\TW H q ws/\Num ps ws/\Po ps/\Po ws/\ps.length<=6/\ws.length<=24 /\
 ∀ H' (pr:Addr) X h t Fl Y Tc Tt c u,a3y r H H'->PAt C H' pr p ps ws X h t->CAt D H' r pr ps.length (ws.length+1) Y Tc Tt->CT.Tb ps.length ws.length h t Fl (pl ps) (Wt ws)->Ctd ps.length ws.length h t Tc Tt c u (λ_ _=>True)->Q .non H'
theorem a4t:a0k NCi ["self","prices","weights"] (a0g a4n):=fsk
theorem ndCi:(("letter":Str) :: NCi).Nodup:=by decide +kernel
theorem b0W {C D:Addr} (F:Fun K "__init__" "Counts.__init__" a4n f fd) (GP:Fns P' w K mg base ["prices","weights"] "parted_least" (spPl C) 5) (GQ:Fns P' w K mg base ["side","diagonal"] "square" a4o 5) (MC:Mt P' w K mg base D "put_counts" ["self","first","end"] (b2i C D) 5) (rc:DC K D) (ml:mg "len"=none) (mr:mg "range"=none):a0M P' w K mg base CX0 6 f fd ["self","prices","weights"] (a9c C D):=by
 refine F.ok (k:=5) a4t (λvs H Q E h=>?_) (λcdv A outer s H vs Q E hr h=>?_)
 ·obtain ⟨r,dx,p,q,ps,ws,rfl,_⟩:=h;rfl
 obtain ⟨r,dx,p,q,ps,ws,rfl,hr0,hp,hq,nu,pp,pw,p4,w6,qq⟩:=h;have p2:=nu.p2;have w1:=nu.w1;refine ⟨_,a0c (a2i (pv 0) (pcF GP hr (a0a (pv 1) (a0a (pv 2) a0d))) rfl)
  (a0c (a2i (pv 0) (pln ml (pv 1)) rfl)
  (a0c (psA (i:=3) a4t (a0l a0t (pln ml (pv 2)) a0e))
  (a0c (a2i (pv 0) (pcF GQ hr (a0a (pv 3) (a0a a2A a0d))) rfl)
  (a0c (a2i (pv 0) (a1s (M:=NCi) rfl (cso (a0g a4n) NCi) ndCi rfl (by rfl) mr (a0a (a0l a0t (a0F (pv 0) rfl) a0e) a0d) (a0U (a5M a2Z (a6I a0O) b3g) a1y)
   (λcl C s0 H0 fp=>⟨a0L,pcF GQ hr (a0a (pv 4) (a0a a0e a0d))⟩)) rfl)
  (a0h (a1n PassesOwn.never rfl (a3f (by rfl) mr (a0a (a0l a1k (pln ml (pv 2)) a0e) (a0a (a2r a1w a0e) (a0a (a2r a1w a0e) a0d)))) (pgA (i:=4) a4t)
   (a0h (a1n PassesOwn.never rfl (a1v (by rfl) mr (a0a (a0l a0t (pv 4) a0e) (a0a (pv 3) a0d))) (pgA (i:=5) a4t)
    (a0h (a1h (a0P (pv 0) rc.c MC.m MC.ok hr MC.b .nil a0Y (a0a (pv 4) (a0a (pv 5) a0d))))))))))))),?_⟩
 have pr':p≠r:=a0q hp hr0 (by intro z;cases z);have qr':q≠r:=a0q hq hr0 (by intro z;cases z);refine ⟨_,rfl,_,rfl,p,q,ps,ws,rfl,hp,hq,nu,λpr X h t Fl H1 s1 pa fl=>?_⟩;have T:=fl.tb p2 pp pw;have g1:=s1 _ _ hr0;have paD:=pa.drp g1;have pr1:pr≠r:=by
  obtain ⟨dy,ho⟩:=pa.ob;exact a0q ho g1 (by intro z;cases z)
 refine ⟨_,rfl,r,D,dx,_,rfl,g1,rc.c,rc.np,(by show 0 < 1000;decide),?_⟩;rw [show a2D "parted" (V.ref pr) []=cf1 pr from rfl];have g2:upd H1 r (.ins D dx (cf1 pr)) r=some (.ins D dx (cf1 pr)):=a0b;have k2:a0p (drp r H1) (upd H1 r (.ins D dx (cf1 pr))):=a2M λa o ha e=>by rw [a0i ha];exact e
 have dn:∀ {a o},H a=some o->a≠r->drp r H1 a=some o:=λe ha=>by rw [a1H ha];exact s1 _ _ e
 have hpD:TW (drp r H1) p ps:=dn hp pr';have hqD:TW (drp r H1) q ws:=dn hq qr';have fr:∀ {H':Hp} {a:Addr} {o:HO},a0p (drp r H1) H'->H' r=some o->H' a=none->drp r H1 a=none:=λs g e=>s.free e;generalize upd H1 r (.ins D dx (cf1 pr))=H2 at g2 k2 ⊢;refine ⟨_,rfl,p,_,rfl,.inr (SqT.of (k2 _ _ hpD)),_,rfl,r,D,dx,_,rfl,g2,rc.c,rc.nl,(by show 1 < 1000;decide),?_⟩;rw [List.length_map,show a2D "letters" (V.int (ps.length:Int)) (cf1 pr)=cf2 pr (ps.length:Int) from rfl];have g3:upd H2 r (.ins D dx (cf2 pr (ps.length:Int))) r=some (.ins D dx (cf2 pr (ps.length:Int))):=a0b;have k3:a0p (drp r H1) (upd H2 r (.ins D dx (cf2 pr (ps.length:Int)))):=a2M λa o ha e=>by rw [a0i ha];exact a2N k2 a o ha e
 generalize upd H2 r (.ins D dx (cf2 pr (ps.length:Int)))=H3 at g3 k3 ⊢;refine ⟨_,rfl,q,_,rfl,.inr (SqT.of (k3 _ _ hqD)),_,_,rfl,rfl,?_⟩;rw [List.length_map];refine ⟨_,rfl,ws.length+1,none,rfl,by omega,λcc cA H4 s4 fcc fcA ij cb hb hc=>?_⟩;have g4:=s4 _ _ g3;refine ⟨_,rfl,r,D,dx,_,rfl,g4,rc.c,rc.nc,(by show 2 < 1000;decide),?_⟩;rw [show a2D "codes" (V.ref cc) (cf2 pr (ps.length:Int))=cf3 pr (ps.length:Int) cc from rfl];have cr:cc≠r:=a0q hb g4 (by intro z;cases z);have ar:∀ i,i < ws.length+1->cA i≠r:=λi hi=>a0q (hc i hi) g4 (by intro z;cases z);have g5:upd H4 r (.ins D dx (cf3 pr (ps.length:Int) cc)) r=some (.ins D dx (cf3 pr (ps.length:Int) cc)):=a0b;have k5:a0p (drp r H1) (upd H4 r (.ins D dx (cf3 pr (ps.length:Int) cc))):=a2M λa o ha e=>by rw [a0i ha];exact s4 _ _ (a2N k3 a o ha e)
 have b5:upd H4 r (.ins D dx (cf3 pr (ps.length:Int) cc)) cc=some (.lst ((List.range (ws.length+1)).map λi=>.ref (cA i))):=by rw [a0i cr];exact hb
 have c5:∀ i,i < ws.length+1->upd H4 r (.ins D dx (cf3 pr (ps.length:Int) cc)) (cA i)=some (.lst (b2b (ws.length+1) i none)):=λi hi=>by rw [a0i (ar i hi)];exact hc i hi
 generalize upd H4 r (.ins D dx (cf3 pr (ps.length:Int) cc))=H5 at g5 k5 b5 c5 ⊢;refine ⟨_,rfl,r,D,dx,_,_,rfl,g5,rc.c,rc.nl,rfl,_,_,rfl,rfl,_,rfl,by omega,by omega,λtt htt=>?_⟩;have en:((ps.length:Int)+1).toNat=ps.length+1:=by omega
 rw [en];refine ⟨λi H'=>∃ ba ca,a8L H5 H' (ws.length+1) (some 1) i ba ca tt,⟨_,_,a8L.start htt⟩,λi H' hi hP=>?_,λH6 hP=>?_⟩
 ·obtain ⟨ba,ca,g⟩:=hP;refine a0E ⟨_,rfl,ws.length+1,some 1,rfl,by omega,λb c' H8 s8 fb fc ij cb hb hc=>⟨_,s8 _ _ g.lo_,?_,_,_,g.step htt s8 fb fc ij hb hc⟩⟩;rw [List.length_map,List.length_range];exact a0m (by omega)
 obtain ⟨bt,ct,gt⟩:=hP;have g6:=gt.same _ _ g5;refine ⟨_,rfl,r,D,dx,_,rfl,g6,rc.c,rc.nt,(by show 3 < 1000;decide),?_⟩;rw [show a2D "tails" (V.ref tt) (cf3 pr (ps.length:Int) cc)=cf pr (ps.length:Int) ⟨cc,cA,tt,bt,ct⟩ from rfl];have rt1:tt≠r:=a0q gt.lo_ g6 (by intro z;cases z);have rt2:∀ l,l < ps.length+1->bt l≠r:=λl hl=>a0q (gt.lb l hl) g6 (by intro z;cases z);have rt3:∀ l k,l < ps.length+1->k < ws.length+1->ct l k≠r:=λl k hl hk=>a0q (gt.lc l k hl hk) g6 (by intro z;cases z);have ca7:CAt D (upd H6 r (.ins D dx (cf pr (ps.length:Int) ⟨cc,cA,tt,bt,ct⟩))) r pr ps.length (ws.length+1) ⟨cc,cA,tt,bt,ct⟩ tc0 tt0:=by
  refine ⟨⟨dx,a0b⟩,?_,λi hi=>?_,⟨?_,λl hl=>?_,λl k hl hk=>?_⟩,ij,λl i l' i' hl hl' hi hi' e=>gt.inj l i l' i' hl hl' hi hi' e,λi l k hi hl hk e=>?_⟩
  ·rw [a0i cr];exact gt.same _ _ b5
  ·rw [a0i (ar i hi)];exact gt.same _ _ (c5 i hi)
  ·rw [a0i rt1];exact gt.lo_
  ·rw [a0i (rt2 l hl)];exact gt.lb l hl
  ·rw [a0i (rt3 l k hl hk)];exact gt.lc l k hl hk
  ·have e1:=gt.fc l k hl hk;have e:cA i=ct l k:=e;rw [<-e,c5 i hi] at e1;cases e1
 have k7:a0p (drp r H1) (upd H6 r (.ins D dx (cf pr (ps.length:Int) ⟨cc,cA,tt,bt,ct⟩))):=a2M λa o ha e=>by rw [a0i ha];exact gt.same _ _ (a2N k5 a o ha e)
 have fz:∀ a,ZC ⟨cc,cA,tt,bt,ct⟩ ps.length (ws.length+1) a->drp r H1 a=none:=λa hz=>by
  rcases hz with ⟨i,hi,e⟩ | ⟨l,i,hl,hi,e⟩
  ·have e:a=cA i:=e;rw [e];exact k3.free (fcA i hi)
  ·have e:a=ct l i:=e;rw [e];exact k5.free (gt.fc l i hl hi)
 generalize upd H6 r (.ins D dx (cf pr (ps.length:Int) ⟨cc,cA,tt,bt,ct⟩))=H7 at ca7 k7 ⊢;generalize (⟨cc,cA,tt,bt,ct⟩:CY)=Y at ca7 fz;refine ⟨_,rfl,q,_,rfl,.inr (SqT.of (k7 _ _ hqD)),_,_,rfl,rfl,_,rfl,_,rfl,_,rfl,⟨by rw [List.length_map];omega,by rw [List.length_map];omega⟩,?_⟩;rw [List.length_map,show ((ws.length:Int) - 1+1).toNat=ws.length by omega];refine a2x (λm σ H'=>a0p (drp r H1) H'/\(∃ Tc Tt c u,CAt D H' r pr ps.length (ws.length+1) Y Tc Tt/\Ctd ps.length ws.length h t Tc Tt c u (λi _=>ws.length - m<=i))/\∃ x4 x5:Option V,σ=[some (.ref r),some (.ref p),some (.ref q),some (.int ((ws.length:Int)+1)),x4,x5])
  ⟨k7,⟨tc0,tt0,λ_ _=>0,λ_ _ _=>1,ca7,⟨λl j _ _=>if_pos rfl,λi j a b c=>absurd c (by show ¬ ws.length<=i;omega),λl i j _ a b c=>absurd c (by show ¬ ws.length<=i;omega),λi j a b c=>absurd c (by show ¬ ws.length<=i;omega),λl i j _ a b c=>absurd c (by show ¬ ws.length<=i;omega),λl j _ _=>rfl,λi j a b c=>absurd c (by show ¬ ws.length<=i;omega),λl i j _ a b c=>absurd c (by show ¬ ws.length<=i;omega)⟩⟩,_,_,rfl⟩ (λm σ H8 hm hP=>?_) (λσ H8 hP=>?_)
 ·obtain ⟨s8,⟨Tc,Tt,c,u,ca8,ct8⟩,x4,x5,rfl⟩:=hP;obtain ⟨f,ef⟩:∃ f,f=ws.length - 1 - m:=⟨_,rfl⟩
  have ev:(ws.length:Int) - 1+(m:Int) * (-1)=(f:Int):=by omega
  rw [ev];have hf:f < ws.length:=by omega
  refine ⟨_,rfl,_,_,rfl,rfl,_,rfl,_,_,rfl,⟨by omega,by omega,by omega,by omega⟩,?_⟩;have en2:(((ws.length:Int)+1) - ((f:Int)+1)).toNat=ws.length - f:=by omega
  rw [en2];refine a1j (λk σ H'=>a0p (drp r H1) H'/\(∃ Tc Tt c u,CAt D H' r pr ps.length (ws.length+1) Y Tc Tt/\Ctd ps.length ws.length h t Tc Tt c u (Dn f (f+1+k)))/\∃ x5:Option V,σ=[some (.ref r),some (.ref p),some (.ref q),some (.int ((ws.length:Int)+1)),some (.int (f:Int)),x5])
   ⟨s8,⟨Tc,Tt,c,u,ca8,ct8.weak λi j hij hj d=>by show ws.length - m<=i;rcases d with z | z <;> omega⟩,_,rfl⟩ (λk σ H9 hk hP=>?_) (λσ H9 hP=>?_)
  ·obtain ⟨s9,⟨Tc9,Tt9,c9,u9,ca9,ct9⟩,x5,rfl⟩:=hP;have ee:(f:Int)+1+(k:Int)=((f+1+k:Nat):Int):=by push_cast;omega
   rw [ee];obtain ⟨dx9,ho9⟩:=ca9.ob;refine ⟨_,rfl,r,dx9,_,rfl,ho9,rfl,_,rfl,_,rfl,drp r H1,r,pr,p,ps,ws,X,h,t,Fl,Y,Tc9,Tt9,c9,u9,f,f+1+k,rfl,s9,paD,fz,ca9,T,w6,p4,by omega,by omega,by omega,ct9,λH' Tc' Tt' c' u' s' ca' k'=>?_⟩;exact ⟨s',⟨Tc',Tt',c',u',ca',k'⟩,_,rfl⟩
  ·obtain ⟨s9,⟨Tc9,Tt9,c9,u9,ca9,ct9⟩,x5,rfl⟩:=hP;exact ⟨s9,⟨Tc9,Tt9,c9,u9,ca9,ct9.weak λi j hij hj d=>by
    have d:ws.length - (m+1)<=i:=d;by_cases z:f < i
    ·exact .inl z
    ·exact .inr ⟨by omega,by omega⟩⟩,_,_,rfl⟩
 ·obtain ⟨s8,⟨Tc,Tt,c,u,ca8,ct8⟩,x4,x5,rfl⟩:=hP;exact qq H8 pr X h t Fl Y Tc Tt c u (λa o ha e=>a2N s8 a o ha (s1 _ _ e)) (paD.same s8) ca8 T (ct8.weak λi j _ _ _=>by show ws.length - ws.length<=i;omega)
structure ClC (P:Program) (w:World) (K:PySem.W.Frag) (mg:Str->Option Value) (base:Heap) (C D:Addr) where
 rc:DC K D
 g:mg "Counts"=some (.ref D)
 fi:Addr
 di:FuncData
 mkk:Mk K D fi
 oki:a0M P w K mg base CX0 6 fi di ["self","prices","weights"] (a9c C D)
 bi:a1r K di ["self","prices","weights"] []
end
end K56
set_option exponentiation.threshold 2000
namespace K56
open PySem L2
variable {P:Program} {w:World} {K:PySem.W.Frag} {mg:Str->Option Value} {base:Heap} {f:Addr} {fd:FuncData}
def a6M (K:PySem.W.Frag):Sp:=λvs H Q _=>∃ (a:Addr) (ns:List Int) (k:Int),vs=[.ref a,.int k]/\SqL K H a (ns.map V.int)/\0<=k/\k<=1000/\∀ i,0<=i->Q (.int i) H
theorem a3S:a0k ["script","k","near"] ["script","k"] (a0g b3v):=fsk
theorem e60:(0:Int) < (10:Int) ^ (60:Int).toNat:=by decide
theorem b3K (F:Fun K "_law_cell" "_law_cell" b3v f fd) (ml:mg "len"=none):a0M P w K mg base CX0 1 f fd ["script","k"] (a6M K):=by
 refine F.ok (k:=0) a3S (λvs H Q E h=>?_) (λcdv A outer s H vs Q E hr h=>?_)
 ·obtain ⟨a,ns,k,rfl,_⟩:=h;rfl
 obtain ⟨a,ns,k,rfl,hS,h0,h1,q⟩:=h;refine ⟨_,a0c (a0W (a0r a3s (pv 1) (pln ml (pv 0)) (nomark _)) (a0h (a0o (a0l a1e (pxA a0j (pv 0) (pv 1)) (a0l a6j a0e a0e)))) a0u)
  (a0c (psA (i:=2) a3S a0e)
  (a0c (a3a (a0W (a0r a7O (pln ml (pv 0)) a0e (nomark _)) (a0h (psA (i:=2) a3S (a0l a1e (pxA a0j (pv 0) a0e) (a0l a6j a0e a0e)))) a0u))
  (a0c (psA (i:=2) a3S (a0l a1e (a0l a0t (a0l a0t (pv 2) (a0l a7K a0e (pv 1))) a0e) a0e))
  (a0c (psA (i:=2) a3S (a0l a1e (a0l a3d (pv 2) (pv 2)) a0e))
  (a0c (psA (i:=2) a3S (a0l a1e (a0l a7K (a0l a0t (pv 2) (a0l a7K a0e (pv 1))) a0e) a0e))
  (a0h (a0o (a0l a2s (a0l a1e (a0l a3d (pv 2) (pv 2)) a0e) a0e)))))))),?_⟩
 refine ⟨_,rfl,_,rfl,a,_,rfl,.inl hS,_,_,rfl,rfl,_,rfl,?_⟩;refine a2b (λc=>?_) (λc=>?_)
 ·have c1:k < ((ns.map V.int).length:Int):=of_decide_eq_true c;obtain ⟨n,rfl⟩:∃ n:Nat,k=n:=⟨k.toNat,by omega⟩
  have hn:n < ns.length:=by rw [List.length_map] at c1;omega
  exact ⟨_,rfl,_,rfl,a,_,_,_,rfl,rfl,hS,a3I (List.getElem?_eq_getElem hn),_,_,rfl,rfl,⟨by decide,by decide,by decide⟩,_,_,rfl,rfl,e60,q _ (Int.emod_nonneg _ (Int.ne_of_gt e60))⟩
 refine ⟨λσ' H'=>H'=H/\∃ n:Int,σ'=[some (.ref a),some (.int k),some (.int n)],?_,?_⟩
 ·refine ⟨_,rfl,a,_,rfl,.inl hS,_,_,rfl,rfl,_,rfl,?_⟩;refine a2b (λd=>?_) (λd=>⟨rfl,_,rfl⟩);have d1:((ns.map V.int).length:Int) > 0:=of_decide_eq_true d;have hn:0 < ns.length:=by rw [List.length_map] at d1;omega
  exact ⟨_,rfl,a,_,_,_,rfl,rfl,hS,a3I (k:=0) (List.getElem?_eq_getElem hn),_,_,rfl,rfl,⟨by decide,by decide,by decide⟩,_,_,rfl,rfl,e60,rfl,_,rfl⟩
 rintro σ' H' ⟨rfl,n,rfl⟩;refine ⟨_,rfl,_,rfl,_,_,rfl,rfl,.inl ⟨by decide,by decide⟩,_,_,rfl,rfl,_,_,rfl,rfl,_,_,rfl,rfl,(by show (0:Int) < _;decide),?_⟩;dsimp only;have n0:0<=(n+104729 * k+17) % 618970019642690137449562111:=Int.emod_nonneg _ (by decide);have n1:(n+104729 * k+17) % 618970019642690137449562111 < 618970019642690137449562111:=Int.emod_lt_of_pos _ (by decide);generalize (n+104729 * k+17) % 618970019642690137449562111=n' at n0 n1 ⊢;refine ⟨_,rfl,_,rfl,_,_,rfl,rfl,⟨⟨n0,by unfold B30;omega⟩,⟨n0,by unfold B30;omega⟩⟩,_,_,rfl,rfl,(by show (0:Int) < _;decide),?_⟩;dsimp only;generalize n' * n' % 618970019642690137449562111=n2;refine ⟨_,rfl,_,rfl,_,_,rfl,rfl,.inl ⟨by decide,by decide⟩,_,_,rfl,rfl,_,_,rfl,rfl,.inr ⟨by decide,by decide⟩,_,_,rfl,rfl,(by show (0:Int) < _;decide),?_⟩;dsimp only;have m0:0<=(n2+7919 * k) * 48271 % 2305843009213693951:=Int.emod_nonneg _ (by decide);have m1:(n2+7919 * k) * 48271 % 2305843009213693951 < 2305843009213693951:=Int.emod_lt_of_pos _ (by decide);generalize (n2+7919 * k) * 48271 % 2305843009213693951=m at m0 m1 ⊢;refine ⟨_,rfl,_,rfl,_,_,rfl,rfl,⟨⟨m0,by unfold B30;omega⟩,⟨m0,by unfold B30;omega⟩⟩,_,_,rfl,rfl,(by show (0:Int) < _;decide),_,_,rfl,rfl,⟨by decide,by decide⟩,q _ ?_⟩;have z:0<=m * m % 2305843009213693951:=Int.emod_nonneg _ (by decide);omega
def a6N:Sp:=λvs H Q _=>∃ c i:Int,vs=[.int c,.int i]/\0<=i/\i < 4/\∀ v H',a0p H H'->1<=v->v<=B30->Q (.int v) H'
theorem b0X:a0k ["cell","way"] ["cell","way"] (a0g a5U):=fsk
theorem four {a b c d i:Int} (i0:0<=i) (i1:i < 4) (ha:1<=a/\a<=B30) (hb:1<=b/\b<=B30) (hc:1<=c/\c<=B30) (hd:1<=d/\d<=B30):∃ v,atI [V.int a,.int b,.int c,.int d] i=some (.int v)/\1<=v/\v<=B30:=by
 have h:i=0\/i=1\/i=2\/i=3:=by omega
 rcases h with h | h | h | h <;> subst h
 ·exact ⟨a,rfl,ha⟩
 ·exact ⟨b,rfl,hb⟩
 ·exact ⟨c,rfl,hc⟩
 ·exact ⟨d,rfl,hd⟩
theorem a9d (F:Fun K "_law_number" "_law_number" a5U f fd):a0M P w K mg base CX0 1 f fd ["cell","way"] a6N:=by
 refine F.ok (k:=0) b0X (λvs H Q E h=>?_) (λcdv A outer s H vs Q E hr h=>?_)
 ·obtain ⟨c,i,rfl,_⟩:=h;rfl
 obtain ⟨c,i,rfl,i0,i1,q⟩:=h;refine ⟨_,a0h (a0o (pxA a0j (a0X (a0a (a0l a0t a0e (a0l a1e (pv 0) (a0l a6j a0e a0e))) (a0a (a0l a0t a0e (a0l a1e (pv 0) a0e)) (a0a (a0l a0t a0e (a0l a1e (pv 0) a0e))
  (a0a (a0l a1k (a0l a6j a0e a0e) (a0l a1e (pv 0) a0e)) a0d))))) (pv 1))),?_⟩
 refine ⟨_,rfl,_,_,rfl,rfl,⟨by decide,by decide,by decide⟩,_,_,rfl,rfl,(by show (0:Int) < _;decide),_,_,rfl,rfl,?_⟩;refine ⟨_,rfl,_,_,rfl,rfl,(by show (0:Int) < _;decide),_,_,rfl,rfl,?_⟩;refine ⟨_,rfl,_,_,rfl,rfl,(by show (0:Int) < _;decide),_,_,rfl,rfl,?_⟩;refine ⟨_,_,rfl,rfl,⟨by decide,by decide,by decide⟩,_,rfl,_,_,rfl,rfl,(by show (0:Int) < _;decide),_,_,rfl,rfl,(by show 4<=sizeLine;decide),λl hl=>?_⟩;have s1:=a0f hl (.lst [.int (1+c % 10 ^ (30:Int).toNat),.int (1+c % 3),.int (1+c % 50),.int (10 ^ (30:Int).toNat - c % 3)]);obtain ⟨v,hv,v0,v1⟩:=four (a:=1+c % 10 ^ (30:Int).toNat) (b:=1+c % 3) (c:=1+c % 50) (d:=10 ^ (30:Int).toNat - c % 3) i0 i1 (by rw [e30];unfold B30;omega) (by unfold B30;omega) (by unfold B30;omega) (by rw [e30];unfold B30;omega);exact ⟨_,rfl,l,_,_,_,rfl,rfl,SqL.of a0b,hv,q v _ s1 v0 v1⟩
abbrev NN:List Str:=["script","at","many","way","numbers","k","cell"]
def Bd (ns:List Int):Prop:=∀ x∈ns,1<=x/\x<=B30
def a5p (K:PySem.W.Frag):Sp:=λvs H Q _=>∃ (a:Addr) (ns:List Int) (i m y:Int),vs=[.ref a,.int i,.int m,.int y]/\SqL K H a (ns.map V.int)/\0<=i/\i<=100/\1<=m/\m<=100/\0<=y/\y < 6/\∀ p H' ms,a0p H H'->TW H' p ms->(ms.length:Int)=m->Bd ms->Q (.ref p) H'
theorem a1S:a0k NN ["script","at","many","way"] (a0g a4j):=fsk
theorem a7x (F:Fun K "_law_numbers" "_law_numbers" a4j f fd) (GC:Fns P w K mg base ["script","k"] "_law_cell" (a6M K) 1) (GN:Fns P w K mg base ["cell","way"] "_law_number" a6N 1) (mr:mg "range"=none) (mt:mg "tuple"=none):a0M P w K mg base CX0 2 f fd ["script","at","many","way"] (a5p K):=by
 refine F.ok (k:=1) a1S (λvs H Q E h=>?_) (λcdv A outer s H vs Q E hr h=>?_)
 ·obtain ⟨a,ns,i,m,y,rfl,_⟩:=h;rfl
 obtain ⟨a,ns,i,m,y,rfl,hS,i0,i1,m0,m1,y0,y1,q⟩:=h;refine ⟨_,a0c (psA (i:=4) a1S (a0X a0d))
  (a0c (a1n PassesOwn.never rfl (a2h (by rfl) mr (a0a (pv 2) a0d)) (pgA (i:=5) a1S)
   (a0c (psA (i:=6) a1S (pcF GC hr (a0a (pv 0) (a0a (a0l a0t (pv 1) (pv 5)) a0d))))
   (a0h (a0W (a0r a3s (pv 3) a0e (nomark _))
    (a0h (a1h (a3w PySem.F.plainAttrs_list PySem.F.slot_list_append PySem.F.type_list_append a1f (pv 4) (a0a (pcF GN hr (a0a (pv 6) (a0a (pv 3) a0d))) a0d))))
    (a0h (a1h (a3w PySem.F.plainAttrs_list PySem.F.slot_list_append PySem.F.type_list_append a1f (pv 4) (a0a (pcF GN hr (a0a (a0l a2s (pv 6) a0e) (a0a (a0l a1e (pv 6) a0e) a0d))) a0d))))))))
  (a0c (a3a (a0W (a0r a1J (pv 3) a0e (nomark _)) (a0h (psA (i:=4) a1S (a0l b1P (a0X (a0a (pxA a0j (pv 4) a0e) a0d)) (pv 2)))) a0u))
  (a0h (a0o (a1x a1A (by rfl) mt a2Y (a0a (pv 4) a0d)))))),?_⟩
 refine ⟨(by show 0<=sizeLine;decide),λl hl=>?_⟩;have s0:=a0f hl (.lst []);refine ⟨_,rfl,m,rfl,by omega,by omega,?_⟩;refine a1j (λj σ H'=>∃ (ms:List Int) (x5 x6:Option V),ms.length=j/\σ=[some (.ref a),some (.int i),some (.int m),some (.int y),some (.ref l),x5,x6]/\H' l=some (.lst (ms.map V.int))/\a0p H H'/\Bd ms) ⟨[],none,none,rfl,rfl,a0b,s0,by intro x hx;cases hx⟩ (λj σ H1 hj hP=>?_) (λσ H1 hP=>?_)
 ·obtain ⟨ms,x5,x6,lm,rfl,hm,sm,bm⟩:=hP;have e0:(0:Int)+(j:Int)=((j:Nat):Int):=by omega
  rw [e0];refine ⟨_,rfl,_,rfl,_,rfl,_,_,rfl,rfl,a,ns,i+(j:Int),rfl,sm.seq hS,by omega,by omega,λc c0=>?_⟩;refine ⟨_,rfl,_,_,rfl,rfl,_,rfl,?_⟩;have fin:∀ (v:Int) (H2:Hp),a0p H1 H2->1<=v->v<=B30->∃ l' xs v',V.ref l=.ref l'/\[V.int v]=[v']/\H2 l'=some (.lst xs)/\xs.length < sizeLine/\∃ (ms:List Int) (x5 x6:Option V),ms.length=j+1/\([some (.ref a),some (.int i),some (.int m),some (.int y),some (.ref l),some (.int (j:Int)),some (.int c)]:St)=[some (.ref a),some (.int i),some (.int m),some (.int y),some (.ref l),x5,x6]/\upd H2 l' (.lst (xs++[v'])) l=some (.lst (ms.map V.int))/\a0p H (upd H2 l' (.lst (xs++[v'])))/\Bd ms:=λv H2 s2 v0 v1=>by
   refine ⟨l,_,_,rfl,rfl,s2 _ _ hm,a0m (by rw [List.length_map];omega),ms++[v],_,_,by rw [List.length_append,lm];rfl,rfl,by rw [a0b,List.map_append];rfl,a0n hl (sm.trans s2),λx hx=>?_⟩;rcases List.mem_append.mp hx with z | z
   ·exact bm x z
   ·rw [List.mem_singleton.mp z];exact ⟨v0,v1⟩
  refine a2b (λd=>?_) (λd=>?_)
  ·have d1:y < 4:=of_decide_eq_true d;exact ⟨_,rfl,.inl ⟨rfl,_,SqL.of hm⟩,_,rfl,_,rfl,c,y,rfl,y0,d1,fin⟩
  ·exact ⟨_,rfl,.inl ⟨rfl,_,SqL.of hm⟩,_,rfl,_,_,rfl,rfl,⟨by decide,by decide⟩,_,rfl,_,_,rfl,rfl,(by show (0:Int) < _;decide),c / 4,c % 4,rfl,by omega,by omega,fin⟩
 ·obtain ⟨ms,x5,x6,lm,rfl,hm,sm,bm⟩:=hP;refine ⟨λσ' H'=>∃ (l':Addr) (ms:List Int),σ'=[some (.ref a),some (.int i),some (.int m),some (.int y),some (.ref l'),x5,x6]/\(ms.length:Int)=m/\H' l'=some (.lst (ms.map V.int))/\a0p H H'/\Bd ms,?_,?_⟩
  ·refine ⟨_,rfl,rfl,_,rfl,?_⟩;refine a2b (λd=>?_) (λd=>⟨l,ms,rfl,by omega,hm,sm,bm⟩);have l0:0 < ms.length:=by omega
   refine ⟨_,rfl,l,_,_,_,rfl,rfl,SqL.of hm,a3I (k:=0) (List.getElem?_eq_getElem l0),(by show 1<=sizeLine;decide),λp1 hp1=>?_⟩;have s1:=a0f hp1 (.lst [.int ms[0]]);refine ⟨_,rfl,p1,m,_,rfl,rfl,a0b,by omega,by omega,small (by show 1 * m.toNat<=1000;omega),λp2 hp2=>?_⟩;have s2:=a0f hp2 (.lst (List.replicate m.toNat [V.int ms[0]]).flatten);refine ⟨p2,List.replicate m.toNat ms[0],rfl,by rw [List.length_replicate];omega,?_,(sm.trans s1).trans s2,λx hx=>?_⟩
   ·rw [a0b,List.flatten_replicate_singleton,List.map_replicate]
   ·rw [List.eq_of_mem_replicate hx];exact bm _ (List.getElem_mem l0)
  ·rintro σ' H' ⟨l',ms',rfl,lm',hm',sm',bm'⟩;exact ⟨_,rfl,l',_,rfl,.inl ⟨SqL.of hm',λt ht=>q t _ ms' (sm'.trans (a0f ht _)) a0b lm' bm'⟩⟩
end K56
set_option exponentiation.threshold 2000
namespace K56
namespace CT
section
variable {L n:Nat} {h t:Nat->Nat->Nat->OI} {F:Nat->Nat->OI} {p:Nat->Int} {W:Nat->Nat->Int} {cd:Nat->Nat->Nat} {tl:Nat->Nat->Nat->Nat} {Cs:Nat->List Code} {Rs:Nat->Nat->List Code} {co:Nat->Code->Int}
def CH (F:Nat->Nat->OI) (Cs:Nat->List Code) (co:Nat->Code->Int) (i j:Nat):List Code:=(Cs (j - i)).filter λc=>decide (some (co i c)=F i j)
def TX (t:Nat->Nat->Nat->OI) (Rs:Nat->Nat->List Code) (co:Nat->Code->Int) (l i j:Nat):List Code:=if i=j then [[]] else (Rs (j - i) l).filter λc=>decide (some (co i c)=t l i j)
def prd (l:Nat) (A B:List Code):List Code:=A.flatMap λc=>B.map λr=>ahd l c++r
theorem a5X {α β γ:Type} {g:α->β->γ} {f:γ->Int} {fa:α->Int} {fb:β->Int} {k a b:Int} {B:List β} (hB:∀ r∈B,b<=fb r):∀ (A:List α),(∀ c∈A,∀ r∈B,f (g c r)=k+fa c+fb r)->(∀ c∈A,a<=fa c) ->
  (A.flatMap λc=>B.map (g c)).filter (λx=>decide (some (f x)=some (k+a+b)))=(A.filter λc=>decide (some (fa c)=some a)).flatMap λc=>(B.filter λr=>decide (some (fb r)=some b)).map (g c)
 | [],_,_=>rfl
 | c :: A,h1,h2=>by
  rw [List.flatMap_cons,List.filter_append,a5X hB A (λx hx=>h1 x (.tail _ hx)) (λx hx=>h2 x (.tail _ hx)),List.filter_cons];have e:(B.map (g c)).filter (λx=>decide (some (f x)=some (k+a+b)))=if some (fa c)=some a then (B.filter λr=>decide (some (fb r)=some b)).map (g c) else []:=by
   rw [List.filter_map];by_cases z:fa c=a
   ·rw [if_pos (by rw [z])];congr 1;refine List.filter_congr λr hr=>?_;have:=h1 c (.head _) r hr;show decide (some (f (g c r))=_)=_;rw [this,z];by_cases y:fb r=b
    ·rw [y,decide_eq_true rfl,decide_eq_true rfl]
    ·rw [decide_eq_false (λq=>y (by have:=Option.some.inj q;omega)),decide_eq_false (λq=>y (Option.some.inj q))]
   ·rw [if_neg (λq=>z (Option.some.inj q))];have:B.filter ((λx=>decide (some (f x)=some (k+a+b))) ∘ g c)=[]:=by
     rw [List.filter_eq_nil_iff];intro r hr q;have q1:some (f (g c r))=some (k+a+b):=of_decide_eq_true q;have q2:=Option.some.inj q1;have:=h1 c (.head _) r hr;have:=h2 c (.head _);have:=hB r hr;omega
    rw [this];rfl
  rw [e];by_cases z:fa c=a
  ·rw [if_pos (by rw [z]),if_pos (by rw [z];exact decide_eq_true rfl),List.flatMap_cons]
  ·rw [if_neg (λq=>z (Option.some.inj q)),if_neg (λq=>z (Option.some.inj (of_decide_eq_true q))),List.nil_append]
theorem a6O {α β:Type} {X Y:α->List β} {P:α->Bool}:∀ (B:List α),(∀ b∈B,P b=true->X b=Y b)->(∀ b∈B,P b=false->X b=[])->B.flatMap X=(B.filter P).flatMap Y
 | [],_,_=>rfl
 | b :: B,h1,h2=>by
  rw [List.flatMap_cons,a6O B (λx hx=>h1 x (.tail _ hx)) (λx hx=>h2 x (.tail _ hx)),List.filter_cons];cases e:P b with
  | true=>rw [if_pos rfl,List.flatMap_cons,h1 b (.head _) e]
  | false=>rw [if_neg (by decide),h2 b (.head _) e,List.nil_append]
theorem a9e (T:Tb L n h t F p W) (N:Cn L n h t cd tl) (E:En L p W Cs Rs co) {i w low most:Nat} {m:Int} (hw:i+w<=n) (hm:most<=w) (hl:low<=L) (em:mi ((rw' L Cs Rs w low most).map (co i))=some m) :
  (rw' L Cs Rs w low most).filter (λc=>decide (some (co i c)=some m))=((Bk L low most).filter λq=>decide (vl h t i (i+w) q=some m)).flatMap λq=>prd q.1 (CH F Cs co i (i+q.2+1)) (TX t Rs co (q.1+1) (i+q.2+1) (i+w)):=by
 have cnt:=counted T N E n;have hall:=(a0Q.mp em).2;unfold rw' at em hall ⊢;rw [List.filter_flatMap];refine a6O _ (λq hq e=>?_) (λq hq e=>?_)
 ·obtain ⟨q1,q2,q3⟩:=a0v.mp hq;have ev:vl h t i (i+w) q=some m:=of_decide_eq_true e;unfold vl at ev;rw [T.hh q.1 i (i+q.2+1) q2 (by omega) (by omega)] at ev;have cC:=(cnt (q.2+1) i (by omega) (by omega) (by omega)).1.1;rw [show i+(q.2+1)=i+q.2+1 by omega] at cC;cases fe:F i (i+q.2+1) with
  | none=>rw [fe] at ev;cases ev
  | some a =>
   cases te:t (q.1+1) (i+q.2+1) (i+w) with
   | none=>rw [fe,te] at ev;cases ev
   | some b =>
    rw [fe,te] at ev;have ev2:some (p q.1 * W i (i+q.2+1)+a+b)=some m:=ev;rw [<-Option.some.inj ev2];rw [fe] at cC;have hA:∀ c∈Cs (q.2+1),a<=co i c:=λc hc=>(a0Q.mp cC).2 _ (List.mem_map_of_mem hc);have hg:∀ c∈Cs (q.2+1),∀ r∈bhd Rs w q,co i (ahd q.1 c++r)=p q.1 * W i (i+q.2+1)+co i c+co (i+q.2+1) r:=λc hc r _=>E.app i q.1 (q.2+1) c r hc;have eCH:CH F Cs co i (i+q.2+1)=(Cs (q.2+1)).filter λc=>decide (some (co i c)=some a):=by
     unfold CH;rw [fe,show i+q.2+1 - i=q.2+1 by omega]
    by_cases z:q.2+1 < w
    ·have hL:q.1+1 < L:=by
      by_cases y:q.1+1 < L
      ·exact y
      ·exfalso;have eL:q.1+1=L:=by omega
       rw [T.tt (q.1+1) (i+q.2+1) (i+w) (by omega) (by omega) hw,eL] at te;unfold Bk at te;rw [Nat.sub_self] at te;rw [List.range_zero,List.flatMap_nil,List.map_nil,a3K] at te;cases te
     have cR:=((cnt (w - (q.2+1)) (i+q.2+1) (by omega) (by omega) (by omega)).2 (q.1+1) hL).1;rw [show i+q.2+1+(w - (q.2+1))=i+w by omega,te] at cR;have eB:bhd Rs w q=Rs (w - (q.2+1)) (q.1+1):=if_pos z;have eT:TX t Rs co (q.1+1) (i+q.2+1) (i+w)=(Rs (w - (q.2+1)) (q.1+1)).filter λr=>decide (some (co (i+q.2+1) r)=some b):=by
      unfold TX;rw [if_neg (by omega),te,show i+w - (i+q.2+1)=w - (q.2+1) by omega]
     rw [eCH,eT,<-eB];rw [eB] at hg ⊢;exact a5X (g:=λc r=>ahd q.1 c++r) (f:=co i) (fa:=co i) (fb:=co (i+q.2+1)) (λr hr=>(a0Q.mp cR).2 _ (List.mem_map_of_mem hr)) (Cs (q.2+1)) hg hA
    ·have ee:i+q.2+1=i+w:=by omega
     have eB:bhd Rs w q=[[]]:=if_neg z;have hb:b=0:=by
      rw [ee,T.dg (q.1+1) (i+w) (by omega) hw] at te;exact (Option.some.inj te).symm
     have eT:TX t Rs co (q.1+1) (i+q.2+1) (i+w)=[[]].filter λr=>decide (some (co (i+q.2+1) r)=some b):=by
      unfold TX;rw [if_pos ee,List.filter_cons,if_pos (by rw [E.nil,hb];exact decide_eq_true rfl)];rfl
     rw [eCH,eT];rw [eB] at hg ⊢;refine a5X (g:=λc r=>ahd q.1 c++r) (f:=co i) (fa:=co i) (fb:=co (i+q.2+1)) (λr hr=>?_) (Cs (q.2+1)) hg hA;have:r=[]:=by simpa using hr
     rw [this,E.nil,hb];exact Int.le_refl _
 ·rw [List.filter_eq_nil_iff];intro x hx y;have y1:=Option.some.inj (of_decide_eq_true y);have ne:¬ vl h t i (i+w) q=some m:=of_decide_eq_false e;have R:=b2c T N E hw hm hl (λk a b=>by have:=(cnt k i (by omega) a (by omega)).1;exact this) (λk l j a b c d=>(cnt k j (by omega) a d).2 l c) q hq;refine ne ?_;rw [<-R.1];refine a0Q.mpr ⟨?_,λk hk=>hall k ?_⟩
  ·rw [<-y1];exact List.mem_map_of_mem hx
  ·rw [List.map_flatMap];exact List.mem_flatMap.mpr ⟨q,hq,hk⟩
theorem t_is_F (T:Tb L n h t F p W) (hL:0 < L) {i w:Nat} (hw:i+w<=n) (h2:2<=w):t 0 i (i+w)=F i (i+w):=by
 have eF:F i (i+w)=lo ((Bk L 0 (w - 1)).map (vl h t i (i+w))):=by
  rw [T.ff i (i+w) (by omega) hw,if_neg (by omega),show i+w - 1 - i=w - 1 by omega]
 have et:=T.tt 0 i (i+w) (Nat.zero_le _) (by omega) hw;rw [show i+w - i=w by omega] at et;cases e:t 0 i (i+w) with
 | none=>exact absurd e (T.tn 0 i (i+w) hL (by omega) hw)
 | some x =>
  have hx:=a1a.mp (et.symm.trans e);obtain ⟨q,hq,ev⟩:=List.mem_map.mp hx.1;have:=only T hw h2 q hq (by rw [ev,e]);obtain ⟨a,b,c⟩:=a0v.mp hq;rw [eF];refine (a1a.mpr ⟨List.mem_map.mpr ⟨q,a0v.mpr ⟨a,b,this⟩,ev⟩,λk hk=>?_⟩).symm;obtain ⟨q',hq',ev'⟩:=List.mem_map.mp hk;obtain ⟨a',b',c'⟩:=a0v.mp hq';exact hx.2 k (List.mem_map.mpr ⟨q',a0v.mpr ⟨a',b',by omega⟩,ev'⟩)
theorem bk_cut {P:Nat × Nat->Bool} {w:Nat} (h2:1<=w) (ho:∀ q∈Bk L 0 w,P q=true->q.2 < w - 1):(Bk L 0 w).filter P=(Bk L 0 (w - 1)).filter P:=by
 obtain ⟨w',rfl⟩:∃ v,w=v+1:=⟨w - 1,by omega⟩
 have:∀ a∈List.range (L - 0),(λa=>(List.range (w'+1)).map λb=>(0+a,b)) a=(λa=>((List.range w').map λb=>(0+a,b))++[(0+a,w')]) a:=λa _=>by
  show (List.range (w'+1)).map _=_;rw [List.range_succ,List.map_append];rfl
 have e1:(Bk L 0 (w'+1)).filter P=(List.range (L - 0)).flatMap λa=>((List.range (w'+1)).map λb=>(0+a,b)).filter P:=by
  unfold Bk;rw [List.filter_flatMap]
 have e2:(Bk L 0 w').filter P=(List.range (L - 0)).flatMap λa=>((List.range w').map λb=>(0+a,b)).filter P:=by
  unfold Bk;rw [List.filter_flatMap]
 rw [Nat.add_sub_cancel,e1,e2];refine a1Z λa ha=>?_;have ha':=List.mem_range.mp ha;rw [List.range_succ,List.map_append,List.filter_append];have:([w'].map λb=>(0+a,b)).filter P=[]:=by
  rw [List.map_singleton,List.filter_cons,if_neg]
  ·rfl
  ·intro z;have:=ho (0+a,w') (a0v.mpr ⟨by omega,by show 0+a < L;omega,by show w' < w'+1;omega⟩) z;have:w' < w'+1 - 1:=this;omega
 rw [this,List.append_nil]
abbrev wy (L:Nat) (h t:Nat->Nat->Nat->OI) (l i j:Nat):List (Nat × Nat):=(Bk L l (j - i)).filter λq=>decide (vl h t i j q=t l i j)
theorem CH_eq (T:Tb L n h t F p W) (N:Cn L n h t cd tl) (E:En L p W Cs Rs co) (hL:0 < L) {i j:Nat} (hij:i+2<=j) (hj:j<=n) :
  CH F Cs co i j=(wy L h t 0 i j).flatMap λq=>prd q.1 (CH F Cs co i (i+q.2+1)) (TX t Rs co (q.1+1) (i+q.2+1) j):=by
 obtain ⟨w,rfl⟩:∃ w,j=i+w:=⟨j - i,by omega⟩
 have c1:=(counted T N E n w i (by omega) (by omega) hj).1.1;cases f:F i (i+w) with
 | none=>exact absurd f (T.fn i (i+w) (by omega) hj)
 | some m =>
  rw [f,E.cs w (by omega)] at c1;have r:=a9e T N E hj (show w - 1<=w by omega) (Nat.zero_le _) c1;have e0:CH F Cs co i (i+w)=(rw' L Cs Rs w 0 (w - 1)).filter (λc=>decide (some (co i c)=some m)):=by
   unfold CH;rw [f,show i+w - i=w by omega,E.cs w (by omega)]
  have eT:=t_is_F T hL hj (show 2<=w by omega);rw [e0,r];unfold wy;rw [eT,f,show i+w - i=w by omega,bk_cut (P:=λq=>decide (vl h t i (i+w) q=some m)) (by omega) (λq hq e=>only T hj (by omega) q hq (by rw [eT,f];exact of_decide_eq_true e))]
theorem TX_eq (T:Tb L n h t F p W) (N:Cn L n h t cd tl) (E:En L p W Cs Rs co) {l i j:Nat} (hl:l < L) (hij:i < j) (hj:j<=n) :
  TX t Rs co l i j=(wy L h t l i j).flatMap λq=>prd q.1 (CH F Cs co i (i+q.2+1)) (TX t Rs co (q.1+1) (i+q.2+1) j):=by
 obtain ⟨w,rfl⟩:∃ w,j=i+w:=⟨j - i,by omega⟩
 have c1:=((counted T N E n w i (by omega) (by omega) hj).2 l hl).1;cases f:t l i (i+w) with
 | none=>exact absurd f (T.tn l i (i+w) hl (by omega) hj)
 | some m =>
  rw [f,E.rs w l (by omega) hl] at c1;have r:=a9e T N E hj (Nat.le_refl _) (by omega) c1;have e0:TX t Rs co l i (i+w)=(rw' L Cs Rs w l w).filter (λc=>decide (some (co i c)=some m)):=by
   unfold TX;rw [if_neg (by omega),f,show i+w - i=w by omega,E.rs w l (by omega) hl]
  rw [e0,r];unfold wy;rw [f,show i+w - i=w by omega]
theorem a5Y {α:Type} {f:α->Int} {m:Int}:∀ xs:List α,(xs.filter λc=>decide (some (f c)=some m)).length=(xs.map f).count m
 | []=>rfl
 | x :: xs=>by
  rw [List.filter_cons,List.map_cons,List.count_cons,<-a5Y xs];by_cases z:f x=m
  ·rw [if_pos (by rw [z];exact decide_eq_true rfl),if_pos (beq_iff_eq.mpr z),List.length_cons]
  ·rw [if_neg (λq=>z (Option.some.inj (of_decide_eq_true q))),if_neg (λq=>z (beq_iff_eq.mp q))];rfl
theorem len_CH (T:Tb L n h t F p W) (N:Cn L n h t cd tl) (E:En L p W Cs Rs co) {i j:Nat} (hij:i < j) (hj:j<=n):(CH F Cs co i j).length=cd i j:=by
 obtain ⟨w,rfl⟩:∃ w,j=i+w:=⟨j - i,by omega⟩
 obtain ⟨c1,c2⟩:=(counted T N E n w i (by omega) (by omega) hj).1;cases f:F i (i+w) with
 | none=>exact absurd f (T.fn i (i+w) (by omega) hj)
 | some m =>
  rw [f] at c1;unfold CH;rw [f,show i+w - i=w by omega,a5Y,<-c2,a4r c1]
theorem len_TX (T:Tb L n h t F p W) (N:Cn L n h t cd tl) (E:En L p W Cs Rs co) {l i j:Nat} (hl:l<=L) (hl2:i < j->l < L) (hij:i<=j) (hj:j<=n):(TX t Rs co l i j).length=tl l i j:=by
 by_cases e:i=j
 ·subst e;unfold TX;rw [if_pos rfl,N.td l i hl hj];rfl
 ·obtain ⟨w,rfl⟩:∃ w,j=i+w:=⟨j - i,by omega⟩
  have hl':=hl2 (by omega);obtain ⟨c1,c2⟩:=(counted T N E n w i (by omega) (by omega) hj).2 l hl';cases f:t l i (i+w) with
  | none=>exact absurd f (T.tn l i (i+w) hl' (by omega) hj)
  | some m =>
   rw [f] at c1;unfold TX;rw [if_neg e,f,show i+w - i=w by omega,a5Y,<-c2,a4r c1]
theorem a9f {l:Nat} {B:List Code}:∀ A:List Code,(prd l A B).length=A.length * B.length
 | []=>by unfold prd;simp
 | a :: A=>by
  have:=a9f (l:=l) (B:=B) A;unfold prd at this ⊢;rw [List.flatMap_cons,List.length_append,this,List.length_map,List.length_cons,Nat.succ_mul,Nat.add_comm]
theorem a2O {α β:Type} {X:α->List β} {b:α}:∀ (B:List α) (a r:Nat),B[a]?=some b->r < (X b).length->(B.flatMap X)[((B.take a).map λb=>(X b).length).sum+r]?=(X b)[r]?
 | [],a,r,h,_=>by simp at h
 | c :: B,0,r,h,hr=>by
  have:c=b:=by simpa using h
  subst this;rw [List.flatMap_cons,List.take_zero,List.map_nil,List.sum_nil,Nat.zero_add,List.getElem?_append_left hr]
 | c :: B,a+1,r,h,hr=>by
  have h':B[a]?=some b:=by simpa using h
  rw [List.flatMap_cons,List.take_succ_cons,List.map_cons,List.sum_cons,List.getElem?_append_right (by omega),<-a2O B a r h' hr];congr 1;omega
theorem a9g {l:Nat} {A B:List Code} {x:Nat} (hx:x < A.length * B.length):∃ c r,A[x / B.length]?=some c/\B[x % B.length]?=some r/\(prd l A B)[x]?=some (ahd l c++r):=by
 have hB:0 < B.length:=by
  cases e:B.length with
  | zero=>rw [e,Nat.mul_zero] at hx;omega
  | succ k=>omega
 have h1:x / B.length < A.length:=Nat.div_lt_of_lt_mul (by rw [Nat.mul_comm];exact hx);have h2:x % B.length < B.length:=Nat.mod_lt _ hB;refine ⟨A[x / B.length],B[x % B.length],List.getElem?_eq_getElem h1,List.getElem?_eq_getElem h2,?_⟩;have g:=a2O (X:=λc=>B.map λr=>ahd l c++r) A (x / B.length) (x % B.length) (List.getElem?_eq_getElem h1) (by rw [List.length_map];exact h2);have e:((A.take (x / B.length)).map λc=>(B.map λr=>ahd l c++r).length).sum=B.length * (x / B.length):=by
  have:((A.take (x / B.length)).map λc=>(B.map λr=>ahd l c++r).length)=List.replicate (x / B.length) B.length:=by
   rw [List.eq_replicate_iff];refine ⟨by rw [List.length_map,List.length_take];omega,λy hy=>?_⟩;obtain ⟨c,_,rfl⟩:=List.mem_map.mp hy;exact List.length_map ..
  rw [this,List.sum_replicate_nat,Nat.mul_comm]
 rw [e,Nat.div_add_mod] at g;unfold prd;rw [g,List.getElem?_map,List.getElem?_eq_getElem h2];rfl
end
end CT
end K56
namespace L2
open PySem PySem.Spec PyProof.Rows
abbrev exA (a:Addr) (o:Obj):HO:=.ext λh=>h.get? a=some o
abbrev cdA (c:Addr) (q:Str):HO:=.ext λh=>h.CodeRec (.ref c) q
def unt (as:List Addr) (H:Hp):Hp:=λb=>if b∈as then none else H b
def rtk (as:List Addr) (H H':Hp):Hp:=λb=>if b∈as then H b else H' b
theorem a3m {as:List Addr} {H:Hp} {b:Addr} (h:b∈as):unt as H b=none:=if_pos h
theorem a0H {as:List Addr} {H:Hp} {b:Addr} (h:b∉as):unt as H b=H b:=if_neg h
theorem b2k {as:List Addr} {H H':Hp} {b:Addr} (h:b∈as):rtk as H H' b=H b:=if_pos h
theorem a1E {as:List Addr} {H H':Hp} {b:Addr} (h:b∉as):rtk as H H' b=H' b:=if_neg h
def Exs (H:Hp) (as:List Addr):Prop:=∀ a∈as,∃ o,H a=some (exA a o)
section
variable {P:Program} {w:World} {H H':Hp} {h h':Heap} {as:List Addr} {fs ex:List Addr}
theorem Exs.out (x:Exs H as) {b:Addr} {u:HO} (e:H b=some u) (hn:∀ o,u≠exA b o):b∉as:=λz=>by
 obtain ⟨o,e'⟩:=x b z;rw [e] at e';exact hn o (Option.some.inj e')
theorem HOk.unt (x:HOk P w H h) (e:Exs H as):HOk P w (L2.unt as H) h:=λa o q=>by
 have ne:a∉as:=λz=>by rw [a3m z] at q;cases q
 rw [a0H ne] at q;exact (x a o q).stay (λb u _ r=>r) (λb r=>by rw [a0H (e.out r λo=>by intro z;cases z)];exact r) λb xs r=>by rw [a0H (e.out r λo=>by intro z;cases z)];exact r
theorem a6P {a:Addr} {o:Obj} (e:h.get? a=some o):a0R P w H h a (exA a o):=⟨e,⟨o,e⟩,λh1 h2 e1 k=>k o e1⟩
theorem cdA_ok {c:Addr} {q:Str} (e:h.CodeRec (.ref c) q):a0R P w H h c (cdA c q):=by
 obtain ⟨c2,o,vs,t,e1,g,r⟩:=e;cases e1;refine ⟨⟨c,o,vs,t,rfl,g,r⟩,⟨o,g⟩,λh1 h2 x k=>?_⟩;obtain ⟨c3,o',vs',t',e2,g',r'⟩:=x;cases e2;exact ⟨c,o',vs',t',rfl,k _ g',r'⟩
theorem Un.rtk (u:Un fs ex (L2.unt as H) H' h h') (e:Exs H as):Un fs ex H (L2.rtk as H H') h h':=by
 have no:∀ {b:Addr},H b=none->b∉as:=λ{b} n z=>by obtain ⟨o,q⟩:=e b z;rw [n] at q;cases q
 refine ⟨λb o q n hb hx=>u.keep b o q (by rw [a0H (no n)];exact n) hb hx,λb o q n hb hx=>u.slot b o q (by rw [a0H (no n)];exact n) hb hx,λb o q n hx=>?_,u.there,λb xs q=>?_,λb o u' q=>?_,λb ps q=>?_⟩
 ·rw [a1E (no n)];exact u.free b o q (by rw [a0H (no n)];exact n) hx
 ·have ne:=e.out q λo=>by intro z;cases z
  rw [a1E ne];exact u.tups b xs (by rw [a0H ne];exact q)
 ·have ne:=e.out q λo=>by intro z;cases z
  rw [a1E ne];exact u.frzs b o u' (by rw [a0H ne];exact q)
 ·have ne:=e.out q λo=>by intro z;cases z
  rw [a1E ne];exact u.tbls b ps (by rw [a0H ne];exact q)
theorem HOk.rtk (x:HOk P w H' h') (u:Un fs ex (L2.unt as H) H' h h') (x0:HOk P w H h) (e:Exs H as) (nf:∀ a∈as,a∉fs/\a∉ex):HOk P w (L2.rtk as H H') h':=λa o q=>by
 have no:∀ {b:Addr},b∈as->H' b=none/\∀ o,H b=some (exA b o)->h'.get? b=some o:=λ{b} z=>by
  obtain ⟨o1,q1⟩:=e b z;have g1:h.get? b=some o1:=(x0 b _ q1).1;refine ⟨u.free b o1 g1 (a3m z) (nf b z).2,λo2 q2=>?_⟩;have g2:h.get? b=some o2:=(x0 b _ q2).1;exact u.keep b o2 g2 (a3m z) (nf b z).1 (nf b z).2
 by_cases z:a∈as
 ·rw [b2k z] at q;obtain ⟨o1,q1⟩:=e a z;rw [q1] at q;cases q;exact a6P ((no z).2 o1 q1)
 ·rw [a1E z] at q;have st:∀ {b:Addr} {y:HO},H' b=some y->b∉as:=λ{b y} r k=>by rw [(no k).1] at r;cases r
  exact (x a o q).stay (λb u _ r=>r) (λb r=>by rw [a1E (st r)];exact r) λb xs r=>by rw [a1E (st r)];exact r
end
def cxL (P:Program) (w:World) (K:PySem.W.Frag) (mg:Str->Option Value) (base:Heap) (N:List Str) (qual:Str) (scope:Scope) (g:Addr) (cd:Value) (cl:List (Str × Addr)) (A:Around) (outer:List Env) (s:Shared) (H:Hp) (xe:Value->Shared->Prop):Cx where
 prog:=P
 w:=w
 K:=K
 mg:=mg
 base:=base
 A:=A.deeper (PySem.W.envX qual scope s.heap.objs.size g cd cl)
 N:=N
 s₀:=s
 H₀:=H
 env:=PySem.W.envX qual scope s.heap.objs.size g cd cl
 outer:=outer
 stack:=PySem.W.envX qual scope s.heap.objs.size g cd cl :: outer
 ex:=[]
 calm:=true
 fn:=λ_=>false
 pn:=[]
 xe:=xe
structure a6Q (scope:Scope) (ps:List Str) (cl:List (Str × Addr)):Prop where
 kind:scope.kind=.function
 co:scope.isCoroutine=false
 gen:scope.isGenerator=false
 nd:(ps++cl.map (·.1)).Nodup
 par:∀ x∈ps,scope.names.lookup x=some .local
 nocell:∀ y∈scope.names,y.2≠.cell
 fr:∀ y∈scope.names,y.2=.free->y.1∈cl.map (·.1)
 cap:∀ x∈cl.map (·.1),scope.names.lookup x=some .free
theorem a3n:∀ {cl:List (Str × Addr)} {i:Nat} {x:Str} {c:Addr},(cl.map (·.1)).Nodup->cl[i]?=some (x,c)->cl.lookup x=some c
 | [],_,_,_,_,h=>by simp at h
 | (y,d) :: cl,0,x,c,_,h=>by
  have h:y=x/\d=c:=by simpa using h
  obtain ⟨rfl,rfl⟩:=h;simp [List.lookup]
 | (y,d) :: cl,i+1,x,c,nd,h=>by
  have h:cl[i]?=some (x,c):=by simpa using h
  have ne:x≠y:=λz=>(List.nodup_cons.mp nd).1 (by rw [<-z];exact List.mem_map.mpr ⟨_,List.mem_of_getElem? h,rfl⟩);have e:(x == y)=false:=by simpa using ne
  rw [List.lookup,e];exact a3n (List.nodup_cons.mp nd).2 h
theorem a1T:∀ {cl:List (Str × Addr)} {x:Str} {c:Addr},cl.lookup x=some c->∃ i:Nat,cl[i]?=some (x,c)
 | [],_,_,h=>by cases h
 | (y,d) :: cl,x,c,h=>by
  rw [List.lookup] at h;cases e:(x == y) with
  | true =>
   rw [e] at h;have:d=c:=by simpa using h
   have xy:x=y:=by simpa using e
   exact ⟨0,by rw [xy,this];rfl⟩
  | false =>
   rw [e] at h;obtain ⟨i,hi⟩:=a1T h;exact ⟨i+1,by simpa using hi⟩
theorem a7y {us:List Value}:∀ {ps:List Str},ps.Nodup->∀ {i:Nat} {x:Str} {u:Value},ps[i]?=some x->us[i]?=some u->(ps.zip us).reverse.lookup x=some u:=by
 induction us with
 | nil=>intro ps _ i x u _ h;simp at h
 | cons v us ih =>
  intro ps nd i x u h1 h2;cases ps with
  | nil=>simp at h1
  | cons p ps =>
   rw [List.zip_cons_cons,List.reverse_cons,List.lookup_append];cases i with
   | zero =>
    have e1:p=x:=by simpa using h1
    have e2:v=u:=by simpa using h2
    subst e1 e2;have:(ps.zip us).reverse.lookup p=none:=by
     cases e:(ps.zip us).reverse.lookup p with
     | none=>rfl
     | some y =>
      have:=PySem.mem_of_lookup e;rw [List.mem_reverse] at this;exact absurd (List.of_mem_zip this).1 (List.nodup_cons.mp nd).1
    rw [this];simp [List.lookup]
   | succ i =>
    rw [ih (List.nodup_cons.mp nd).2 (by simpa using h1) (by simpa using h2)];rfl
theorem b0Y {P:Program} {w:World} {K:PySem.W.Frag} {mg:Str->Option Value} {base:Heap} {k:Nat} {name qual:Str} {params:Arguments} {body:Expr} {scope:Scope} {cl:List (Str × Addr)} {pm ctv:Value} {c' g:Addr} {ps:List Str} {A:Around} {outer:List Env} {s:Shared} {H:Hp} {us:List Value} {vs cvs:List V} {Q:VK} {E:XK}
  (S:a6Q scope ps cl) (hr:a1L (k+1) A) (e0:b0a P w K mg base A outer s H) (ho:H g=some (exA g (PySem.W.kla_obj name qual params body scope cl pm c' ctv))) (hc:H c'=some (cdA c' qual)) (nda:(cl.map (·.2)).Nodup)
  (hcl:∀ (i:Nat) (x:Str) (c:Addr),cl[i]?=some (x,c)->∃ o u v,H c=some (exA c o)/\o.data=.cell (some u)/\cvs[i]?=some v/\a0V v u) (lcv:cvs.length=cl.length) (r:a0z vs us) (hl:vs.length=ps.length)
  (hb:bindArgs (PySem.W.kla_fn name qual params body scope cl pm (.ref c') ctv) ⟨us,[]⟩=pure (ps.zip us))
  (hbody:∀ xe,a1L k (A.deeper (PySem.W.envX qual scope s.heap.objs.size g (.ref c') cl))->∃ t,PE (cxL P w K mg base (ps++cl.map (·.1)) qual scope g (.ref c') cl A outer s (unt (cl.map (·.2)) H) xe) body t/\t ((vs++cvs).map some) (unt (cl.map (·.2)) H) λv H'=>(∀ a∈cl.map (·.2),H' a=none)->Q v (rtk (cl.map (·.2)) H H')) :
  codeAny (model P w) A (.call (.ref g) ⟨us,[]⟩) (CR CX0 outer P w H s Q E) s:=by
 have lim:s.heap.NoLimit:=e0.mod.nolimit.keeps λb o e=>(e0.bs b o e).1;have eg:s.heap.get? g=some (PySem.W.kla_obj name qual params body scope cl pm c' ctv):=(e0.hok g _ ho).1;have ec:s.heap.CodeRec (.ref c') qual:=(e0.hok c' _ hc).1;have exs:Exs H (cl.map (·.2)):=λa ha=>by
  obtain ⟨⟨x,c⟩,hm,rfl⟩:=List.mem_map.mp ha;obtain ⟨i,hi⟩:=List.mem_iff_getElem?.mp hm;obtain ⟨o,u,v,e1,_⟩:=hcl i x c hi;exact ⟨o,e1⟩
 have ndp:ps.Nodup:=(List.nodup_append.mp S.nd).1;have ndc:(cl.map (·.1)).Nodup:=(List.nodup_append.mp S.nd).2.1;have lus:us.length=ps.length:=by rw [<-r.length,hl]
 refine PySem.W.kla_callFunE hr.depth eg rfl S.co S.gen rfl ec ?_;rw [hb];refine wpAny_pure (wpAny_newFunctionEnv S.nocell (λy hy=>S.par y.1 (List.of_mem_zip hy).1) (λh₁ hns hsb=>?_) S.kind);have hk₁:∀ b o,s.heap.get? b=some o->h₁.get? b=some o:=λb o e=>hsb.extBut b o (Nat.ne_of_lt (Heap.lt_size e)) (Heap.get?_push_of_some _ e);refine ⟨lim.keeps hk₁,?_⟩;show codeAny _ _ (.expr body (PySem.W.envX qual scope s.heap.objs.size g (.ref c') cl)) _ _;refine PySem.W.kla_codeExpr ?_;obtain ⟨t,ht,hq⟩:=hbody (λe' s'=>wpAny (model P w) (A.deeper (PySem.W.envX qual scope s.heap.objs.size g (.ref c') cl)) (leaving (PySem.W.envX qual scope s.heap.objs.size g (.ref c') cl) e') (λ_ s''=>CR CX0 outer P w H s Q E (.error e') s'') (λe'' s''=>CR CX0 outer P w H s Q E (.error e'') s'') s') (hr.deeper _);have cellAt:∀ x c,cl.lookup x=some c->∃ (i:Nat) (o:Obj) (u:Value) (v:V),cl[i]?=some (x,c)/\H c=some (exA c o)/\h₁.get? c=some o/\o.data=.cell (some u)/\cvs[i]?=some v/\a0V v u:=λx c e=>by
  obtain ⟨i,hi⟩:=a1T e;obtain ⟨o,u,v,e1,e2,e3,e4⟩:=hcl i x c hi;exact ⟨i,o,u,v,hi,e1,hk₁ _ _ (e0.hok c _ e1).1,e2,e3,e4⟩
 have memA:∀ x c,cl.lookup x=some c->c∈cl.map (·.2):=λx c e=>by
  obtain ⟨i,hi⟩:=a1T e;exact List.mem_map.mpr ⟨_,List.mem_of_getElem? hi,rfl⟩
 have noA:∀ b:Addr,b∉([]:List Addr):=λb z=>by cases z
 have utn:∀ {b:Addr},H b=none->unt (cl.map (·.2)) H b=none:=λ{b} n=>by
  by_cases z:b∈cl.map (·.2)
  ·exact a3m z
  ·rw [a0H z];exact n
 have I:Inv (cxL P w K mg base (ps++cl.map (·.1)) qual scope g (.ref c') cl A outer s (unt (cl.map (·.2)) H) (λe' s'=>wpAny (model P w) (A.deeper (PySem.W.envX qual scope s.heap.objs.size g (.ref c') cl)) (leaving (PySem.W.envX qual scope s.heap.objs.size g (.ref c') cl) e') (λ_ s''=>CR CX0 outer P w H s Q E (.error e') s'') (λe'' s''=>CR CX0 outer P w H s Q E (.error e'') s'') s')) [] ((vs++cvs).map some) (unt (cl.map (·.2)) H) { s with heap:=h₁,toks:=s.toks+(ps.zip us).length }:=by
  refine ⟨⟨e0.mod,S.kind,rfl,rfl,Nat.le_refl _,λy z c h1 h2=>?_,λy hy=>?_,λy c z h=>(by cases z),λ_=>hr.hd,Around.frames_deeper e0.frames,.inr ⟨rfl,rfl⟩,λb z=>absurd z (noA b),λb o e=>⟨(e0.bs b o e).1,utn (e0.bs b o e).2⟩,e0.bsz,λb _ _=>noA b,λb z=>absurd z (noA b),e0.funs,λb hb=>utn (e0.frf b hb)⟩,
   rfl,e0.bare,Un.kept hk₁,⟨_,hns,λi y v h1 h2 h3=>?_⟩,λy c h=>?_,utn (e0.hok.fresh (Nat.le_refl _)),λy c h=>a3m (memA y c h),λp hp=>absurd (show p∈([]:List (Addr × Obj)) from hp) (by simp),(e0.hok.unt exs).kept hk₁,?_⟩
  ·obtain ⟨i,hi⟩:=a1T (show cl.lookup y=some c from h1);obtain ⟨j,hj⟩:=a1T (show cl.lookup z=some c from h2);have e1:(cl.map (·.2))[i]?=some c:=by rw [List.getElem?_map,hi];rfl
   have e2:(cl.map (·.2))[j]?=some c:=by rw [List.getElem?_map,hj];rfl
   have il:=(List.getElem?_eq_some_iff.mp e1).1;have ij:i=j:=(List.getElem?_inj il nda).mp (e1.trans e2.symm);subst ij;rw [hi] at hj;exact congrArg Prod.fst (Option.some.inj hj)
  ·have hy:scope.names.lookup y=some .cell\/scope.names.lookup y=some .free:=hy;rcases hy with hy | hy
   ·exact absurd rfl (S.nocell _ (PySem.mem_of_lookup hy))
   ·have hm:=S.fr _ (PySem.mem_of_lookup hy) rfl;obtain ⟨⟨x,c⟩,hx,e⟩:=List.mem_map.mp hm;have e:x=y:=e;subst e;obtain ⟨i,hi⟩:=List.mem_iff_getElem?.mp hx;exact ⟨c,a3n ndc hi⟩
  ·have h1:(ps++cl.map (·.1))[i]?=some y:=h1;rw [List.getElem?_map] at h2;by_cases hi:i < ps.length
   ·rw [List.getElem?_append_left hi] at h1;rw [List.getElem?_append_left (by omega)] at h2;cases ev:vs[i]? with
    | none=>rw [ev] at h2;cases h2
    | some v' =>
     rw [ev] at h2;have:v'=v:=by simpa using h2
     subst this;obtain ⟨u,hu,rv⟩:=r.get ev;exact ⟨u,rv,.inl ⟨S.par y (List.mem_of_getElem? h1),a7y ndp h1 hu⟩⟩
   ·rw [List.getElem?_append_right (by omega),List.getElem?_map] at h1;rw [List.getElem?_append_right (by omega)] at h2;cases ec':cl[i - ps.length]? with
    | none=>rw [ec'] at h1;cases h1
    | some q =>
     obtain ⟨x,c⟩:=q;rw [ec'] at h1;have:x=y:=by simpa using h1
     subst this;obtain ⟨o,u,v',e1,e2,e3,e4⟩:=hcl _ x c ec';rw [hl,e3] at h2;have:v'=v:=by simpa using h2
     subst this;exact ⟨u,e4,.inr ⟨.inr (S.cap x (List.mem_map.mpr ⟨_,List.mem_of_getElem? ec',rfl⟩)),c,a3n ndc ec',o,hk₁ _ _ (e0.hok c _ e1).1,e2⟩⟩
  ·obtain ⟨i,o,u,v,_,_,e3,e4,_⟩:=cellAt y c h;exact ⟨_,o,e3,e4⟩
  ·show ((vs++cvs).map some).length=(ps++cl.map (·.1)).length;rw [List.length_map,List.length_append,List.length_append,List.length_map,hl,lcv]
 refine wpAny_mono (ht [] _ _ _ _ I hq) (λu s' hs=>?_) λe s' hs=>hs;obtain ⟨v,H',J,rv,q⟩:=hs;have nf:∀ a∈cl.map (·.2),a∉frs outer/\a∉([]:List Addr):=λa ha=>⟨λz=>(by
  obtain ⟨o,e⟩:=exs a ha;rw [e0.frf a z] at e;cases e),noA a⟩
 have un:Un (frs outer) [] (unt (cl.map (·.2)) H) H' s.heap s'.heap:=J.base;exact ⟨v,rtk (cl.map (·.2)) H H',J.os,J.bare,un.rtk exs,HOk.rtk J.hok un e0.hok exs nf,rv,q λa ha=>(by
  obtain ⟨o,e⟩:=exs a ha;exact un.free a o (e0.hok a _ e).1 (a3m ha) (noA a))⟩
structure b3L (P:Program) (w:World) (K:PySem.W.Frag) (mg:Str->Option Value) (base:Heap) (k:Nat) (R:Addr->List V->Hp->VK->Prop):Prop where
 at':∀ {g:Addr} {vs:List V} {H:Hp} {Q:VK},R g vs H Q->∃ oc od fd sl,H g=some (exA g ⟨oc,od,.func fd,sl⟩)
 run:∀ (A:Around) (outer:List Env) (s:Shared) (H:Hp) (g:Addr) (us:List Value) (vs:List V) (Q:VK),a1L k A->b0a P w K mg base A outer s H->a0z vs us->R g vs H Q->codeAny (model P w) A (.call (.ref g) ⟨us,[]⟩) (CR CX0 outer P w H s Q E0) s
def tCallV (i:Nat) (R:Addr->List V->Hp->VK->Prop) (t:TA):TE:=λσ H Q=>∃ g oc od fd sl,σ[i]?=some (some (.ref g))/\H g=some (exA g ⟨oc,od,.func fd,sl⟩)/\t σ H λvs H1=>R g vs H1 Q
theorem b0Z {X:Cx} {i k:Nat} {x:Str} {R:Addr->List V->Hp->VK->Prop} {e:Expr} {es:List Expr} {t:TA} {p pos:Pos} (L:b3L X.prog X.w X.K X.mg X.base k R) (hr:a1L k X.A) (hN:X.N[i]?=some x) (hv:Vis X.env.scope x) (ha:PA X (e :: es) t)
  (hd:(x == ("__debug__":Str))=false:=by decide) (hcd:(x == ("__classdict__":Str))=false:=by decide) (he:starEach (e :: es) X.env=(false,eval e X.env) :: starEach es X.env:=by rfl) (hpl:(backTo pos (starEach es X.env)).any (·.1)=false:=by rfl) :
  PE X (.Call (.Name x p) (e :: es) [] pos) (tCallV i R t):=by
 intro pins s σ H Q I h;obtain ⟨g,oc,od,fd,sl,e1,e2,h⟩:=h;refine wpAny_Call_Name_kw (thn ((b1G (pos:=p) hN hv hd hcd) pins s σ H (λv H'=>v=.ref g/\H'=H) I ⟨_,e1,rfl,rfl⟩) λu s1 hu=>?_);obtain ⟨v,H',I1,rv,rfl,rfl⟩:=hu;obtain rfl:u=Value.ref g:=rv;refine PySem.W.callWith_F ⟨oc,od,fd,sl,(I1.hok g _ e2).1⟩ (thn (ha pos pins s1 σ H' _ I1 h) λus s2 ⟨vs,H1,I2,r,q⟩=>⟨?_,?_⟩) he hpl
 ·obtain ⟨oc',od',fd',sl',e3⟩:=L.at' q;exact ⟨oc',od',fd',sl',(I2.hok g _ e3).1⟩
 ·refine wpAny_call (codeAny_mono (L.run X.A X.stack s2 H1 g us vs Q hr I2.env0 r q) λr s' hq=>?_);cases r with
  | error e=>exact False.elim hq
  | ok fl =>
   cases fl with
   | ret u=>exact I2.after hq
   | next=>exact False.elim hq
   | brk=>exact False.elim hq
   | cont=>exact False.elim hq
abbrev a1F (lpos:Pos) (c':Addr):Array Value:=#[rawInt lpos.line,rawInt lpos.col,.ref c']
def a1q (H:Hp) (T:Addr) (lpos:Pos) (q:Str):Prop:=H T=some (.tbl #[])\/∃ c',H T=some (.tbl (a1F lpos c'))/\H c'=some (cdA c' q)
structure LamH (H H2:Hp) (T:Addr) (lpos:Pos) (q:Str) (c' g:Addr) (o:Obj):Prop where
 tb:H2 T=some (.tbl (a1F lpos c'))
 cd:H2 c'=some (cdA c' q)
 ob:H2 g=some (exA g o)
 ot:∀ b u,b≠T->H b=some u->H2 b=some u
 ng:H g=none
 sm:∀ c2,H T=some (.tbl (a1F lpos c2))->c2=c'
theorem b3M {lpos:Pos} {c c':Addr} (e:a1F lpos c=a1F lpos c'):c=c':=by
 have h2:=congrArg (λz:Array Value=>z[2]?) e;have h3:some (Value.ref c)=some (Value.ref c'):=h2;cases h3;rfl
theorem Un.lam {fs:List Addr} {P:Program} {w:World} {H H3:Hp} {h h3:Heap} {T:Addr} {ps more:Array Value} (hok:HOk P w H h) (k:∀ b u,b≠T->h.get? b=some u->h3.get? b=some u) (eT:∃ u,h3.get? T=some u) (e:H T=some (.tbl ps)) (e3:H3 T=some (.tbl (ps++more))) (ot:∀ b,b < h.objs.size->b≠T->H3 b=H b):Un fs [] H H3 h h3:=by
 have nT:∀ {b:Addr},H b=none->b≠T:=λ{b} n z=>by rw [z,e] at n;cases n
 refine ⟨λb o q n _ _=>k b o (nT n) q,λb o q n _ _=>⟨o.slots,k b o (nT n) q⟩,λb o q n _=>?_,λb o q _=>?_,λb xs q=>?_,λb o u q=>?_,λb qs q=>?_⟩
 ·rw [ot b (Heap.lt_size q) (nT n)];exact n
 ·by_cases z:b=T
  ·subst z;exact eT
  ·exact ⟨o,k b o z q⟩
 ·rw [ot b (hok.lt q) (a0q q e (by intro z;cases z))];exact q
 ·rw [ot b (hok.lt q) (a0q q e (by intro z;cases z))];exact q
 ·by_cases z:b=T
  ·subst z;rw [e] at q;cases q;exact ⟨more,e3⟩
  ·exact ⟨#[],by rw [ot b (hok.lt q) z,q];simp⟩
theorem HOk.lam {P:Program} {w:World} {H H3:Hp} {h h3:Heap} {T:Addr} {ps:Array Value} (hok:HOk P w H h) (k:∀ b u,b≠T->h.get? b=some u->h3.get? b=some u) (e:H T=some (.tbl ps)) (ot:∀ b,b < h.objs.size->b≠T->H3 b=H b) (new:∀ a o,H3 a=some o->(a=T\/h.objs.size<=a)->a0R P w H3 h3 a o):HOk P w H3 h3:=λa o q=>by
 by_cases z:a=T
 ·exact new a o q (.inl z)
 by_cases y:h.objs.size<=a
 ·exact new a o q (.inr y)
 have q':H a=some o:=by rw [<-ot a (by omega) z];exact q
 refine (hok a o q').stay (λb u hb r=>k b u ?_ r) (λb r=>?_) λb xs r=>?_
 ·rcases hb with rfl | hb
  ·exact z
  ·exact a0q hb e (by intro z;cases z)
 ·rw [ot b (hok.lt r) (a0q r e (by intro z;cases z))];exact r
 ·rw [ot b (hok.lt r) (a0q r e (by intro z;cases z))];exact r
structure LamMk (X:Cx) (c T bm:Addr):Prop where
 code:X.env.code=.ref c
 hd:PySem.W.codeHdIn X.K c T=true
 hbm:X.mg "__builtins__"=some (.ref bm)
 bo:∃ o,X.base.get? bm=some o/\o.cls=.type "module"/\o.dict=some builtinsNs/\o.data=.plain
 b1:bm≠builtinsNs
 b2:bm≠mainGlobals
 b3:bm≠T
 b4:mainGlobals≠T
def tLam (T:Addr) (lpos:Pos) (q:Str) (mk:Addr->Value->Value->Obj):TE:=λ_ H Q=>a1q H T lpos q/\∀ c' pm ctv g H2,LamH H H2 T lpos q c' g (mk c' pm ctv)->Q (.ref g) H2
theorem pe_lam {X:Cx} {params:Arguments} {body:Expr} {lscope:Scope} {lpos:Pos} {c T bm:Addr} {clos:List (Str × Addr)} (M:LamMk X c T bm) (hcl:closureFor lscope X.env=pure clos) (hdef:defaultsOf params X.env=([],[]):=by rfl) :
  PE X (.Lambda params body lscope lpos) (tLam T lpos (X.env.qual++"<lambda>") λc' pm ctv=>PySem.W.kla_obj "<lambda>" (X.env.qual++"<lambda>") params body lscope clos pm c' ctv):=by
 intro pins s σ H Q I h;obtain ⟨tab,h⟩:=h;refine PySem.W.kla_eval hdef ?_;have hg:s.heap.Ns mainGlobals X.mg:=I.mod.glob.keeps I.bk;have C:=PySem.W.codeHd_of_K I.kIn M.hd;obtain ⟨ob,lo,l1,l2,l3⟩:=M.bo;have hB:s.heap.BuiltinsAt X.mg T:=⟨bm,ob,M.hbm,M.b1,M.b2,M.b3,I.bk _ _ lo,l1,l2,l3⟩
 rcases tab with e | ⟨c',e,ec⟩
 ·have hP:s.heap.get? T=some (PySem.W.tabObj #[]):=I.hok T _ e;refine PySem.W.kla_makeFunction hcl I.ok.glob hg M.code C hP trivial rfl M.b4 hB λc' ctv h' tk hx hge hlt hrec htb=>?_;have ltT:T < s.heap.objs.size:=I.hok.lt e;have gs:s.heap.objs.size<=h'.objs.size:=Nat.le_trans hge (Nat.le_of_lt hlt);have cg:c'≠h'.objs.size:=Nat.ne_of_lt hlt;have cT:c'≠T:=λz=>Nat.lt_irrefl _ (Nat.lt_of_lt_of_le ltT (z▸hge));have gT:h'.objs.size≠T:=λz=>Nat.lt_irrefl _ (Nat.lt_of_lt_of_le ltT (z▸gs));generalize eo:PySem.W.kla_obj "<lambda>" (X.env.qual++"<lambda>") params body lscope clos ((X.mg "__name__").getD .none) c' ctv=o;have hfr:o.isFreed=false:=by rw [<-eo];rfl
  let H3:Hp:=upd (upd (upd H T (.tbl (a1F lpos c'))) c' (cdA c' (X.env.qual++"<lambda>"))) h'.objs.size (exA h'.objs.size o)
  have t3:H3 T=some (.tbl (a1F lpos c')):=by
   show upd _ _ _ T=_;rw [a0i (Ne.symm gT),a0i (Ne.symm cT),a0b]
  have c3:H3 c'=some (cdA c' (X.env.qual++"<lambda>")):=by
   show upd _ _ _ c'=_;rw [a0i cg,a0b]
  have g3:H3 h'.objs.size=some (exA h'.objs.size o):=a0b;have ot:∀ b,b < s.heap.objs.size->b≠T->H3 b=H b:=λb hb hT=>by
   show upd _ _ _ b=_;rw [a0i (Nat.ne_of_lt (Nat.lt_of_lt_of_le hb gs)),a0i (Nat.ne_of_lt (Nat.lt_of_lt_of_le hb hge)),a0i hT]
  have k3:∀ b u,b≠T->s.heap.get? b=some u->(h'.push o).get? b=some u:=λb u hb q=>Heap.get?_push_of_some _ (hx b u hb q);have un:Un X.fs [] H H3 s.heap (h'.push o):=Un.lam (more:=a1F lpos c') I.hok k3 ⟨_,Heap.get?_push_of_some _ htb⟩ e (by rw [t3];simp) ot;have hk3:HOk X.prog X.w H3 (h'.push o):=HOk.lam I.hok k3 e ot λa u q hq=>by
   by_cases z1:a=T
   ·subst z1;rw [t3] at q;cases q;have:(h'.push o).get? a=some (PySem.W.tabObj (#[]++#[rawInt lpos.line,rawInt lpos.col,.ref c'])):=Heap.get?_push_of_some _ htb;show (h'.push o).get? a=some _;simpa using this
   by_cases z2:a=c'
   ·subst z2;rw [c3] at q;cases q;exact cdA_ok (hrec.push _)
   by_cases z3:a=h'.objs.size
   ·subst z3;rw [g3] at q;cases q;exact a6P (Heap.get?_push_size _ hfr)
   ·exfalso;rcases hq with y | y
    ·exact z1 y
    ·have:H3 a=H a:=by
      show upd _ _ _ a=_;rw [a0i z3,a0i z2,a0i z1]
     rw [this,I.hok.fresh y] at q;cases q
  refine ⟨.ref h'.objs.size,H3,I.un (t':=tk) un hk3,rfl,h c' _ ctv h'.objs.size H3 ⟨t3,c3,by rw [g3,<-eo],λb u hb q=>by rw [ot b (I.hok.lt q) hb];exact q,I.hok.fresh gs,λc2 e2=>by
   rw [e] at e2;have h1:=HO.tbl.inj (Option.some.inj e2);have h2:=congrArg Array.size h1;cases h2⟩⟩
 ·have hP:s.heap.get? T=some (PySem.W.tabObj (a1F lpos c')):=I.hok T _ e;refine PySem.W.kla_makeFunctionHit (cv:=.ref c') hcl I.ok.glob hg M.code C hP (by exact trivial) (by simp [a1F,codeAmong,rawInt]) hB λctv h' tk hk hsz=>?_;generalize eo:({ cls:=.type "function",data:=.func (PySem.W.kla_fn "<lambda>" (X.env.qual++"<lambda>") params body lscope clos ((X.mg "__name__").getD .none) (.ref c') ctv) }:Obj)=o;have hfr:o.isFreed=false:=by rw [<-eo];rfl
  have ltc:c' < s.heap.objs.size:=I.hok.lt ec;have ltT:T < s.heap.objs.size:=I.hok.lt e;refine ⟨.ref h'.objs.size,upd H h'.objs.size (exA h'.objs.size o),I.laid (t':=tk) (λb u q=>Heap.get?_push_of_some _ (hk b u q)) hsz (a6P (Heap.get?_push_size _ hfr)),rfl,h c' _ ctv h'.objs.size _ ⟨?_,?_,by rw [a0b,<-eo],λb u hb q=>?_,I.hok.fresh hsz,λc2 e2=>?_⟩⟩
  ·rw [a0i (Nat.ne_of_lt (Nat.lt_of_lt_of_le ltT hsz))];exact e
  ·rw [a0i (Nat.ne_of_lt (Nat.lt_of_lt_of_le ltc hsz))];exact ec
  ·rw [a0i (Nat.ne_of_lt (Nat.lt_of_lt_of_le (I.hok.lt q) hsz))];exact q
  ·rw [e] at e2;exact (b3M (HO.tbl.inj (Option.some.inj e2))).symm
def trk' (as:List Addr) (os:Addr->Obj) (H:Hp):Hp:=λb=>if b∈as then some (exA b (os b)) else H b
theorem b2l {as:List Addr} {os:Addr->Obj} {H:Hp} {b:Addr} (h:b∈as):trk' as os H b=some (exA b (os b)):=if_pos h
theorem a1m {as:List Addr} {os:Addr->Obj} {H:Hp} {b:Addr} (h:b∉as):trk' as os H b=H b:=if_neg h
section
variable {P:Program} {w:World} {H H3:Hp} {h h':Heap} {as:List Addr} {os:Addr->Obj} {fs ex:List Addr}
theorem HOk.trk (x:HOk P w H h) (n:∀ c∈as,H c=none) (g:∀ c∈as,h.get? c=some (os c)):HOk P w (trk' as os H) h:=λa o q=>by
 by_cases z:a∈as
 ·rw [b2l z] at q;cases q;exact a6P (g a z)
 ·rw [a1m z] at q;have no:∀ {b:Addr} {y:HO},H b=some y->b∉as:=λ{b y} r k=>by rw [n b k] at r;cases r
  exact (x a o q).stay (λb u _ r=>r) (λb r=>by rw [a1m (no r)];exact r) λb xs r=>by rw [a1m (no r)];exact r
theorem Un.untrk (u:Un fs ex (trk' as os H) H3 h h') (n:∀ c∈as,H c=none) (g:∀ c∈as,h.get? c=some (os c)) (g3:∀ c∈as,h'.get? c=some (os c)):Un fs ex H (unt as H3) h h':=by
 have no:∀ {b:Addr} {y:HO},H b=some y->b∉as:=λ{b y} r k=>by rw [n b k] at r;cases r
 refine ⟨λb o q nb hb hx=>?_,λb o q nb hb hx=>?_,λb o q nb hx=>?_,λb o q hx=>?_,λb xs q=>?_,λb o u' q=>?_,λb ps q=>?_⟩
 ·by_cases z:b∈as
  ·rw [g b z] at q;cases q;exact g3 b z
  ·exact u.keep b o q (by rw [a1m z];exact nb) hb hx
 ·by_cases z:b∈as
  ·rw [g b z] at q;cases q;exact ⟨_,g3 b z⟩
  ·exact u.slot b o q (by rw [a1m z];exact nb) hb hx
 ·by_cases z:b∈as
  ·exact a3m z
  ·rw [a0H z];exact u.free b o q (by rw [a1m z];exact nb) hx
 ·by_cases z:b∈as
  ·exact ⟨_,g3 b z⟩
  ·exact u.there b o q hx
 ·rw [a0H (no q)];exact u.tups b xs (by rw [a1m (no q)];exact q)
 ·rw [a0H (no q)];exact u.frzs b o u' (by rw [a1m (no q)];exact q)
 ·rw [a0H (no q)];exact u.tbls b ps (by rw [a1m (no q)];exact q)
end
structure a9h (X:Cx) (cl:List (Str × Addr)):Prop where
 at':∀ q∈cl,X.env.cells.lookup q.1=some q.2
 fn:∀ q∈cl,X.fn q.1=true
 ki:∀ q∈cl,X.env.scope.names.lookup q.1=some .cell
def tCallT (X:Cx) (cl:List (Str × Addr)) (sp:Sp) (t:TA):TE:=λσ H Q=>t σ H λvs H1=>∀ os:Addr->Obj,(∀ (j i:Nat) (n:Str) (c:Addr) (v:V),cl[j]?=some (n,c)->X.N[i]?=some n->σ[i]?=some (some v)->∃ u,(os c).data=.cell (some u)/\a0V v u)->(∀ c∈cl.map (·.2),H1 c=none) ->
 sp vs (trk' (cl.map (·.2)) os H1) (λv H3=>(∀ c∈cl.map (·.2),H3 c=some (exA c (os c)))/\Q v (unt (cl.map (·.2)) H3)) E0
theorem b1a {X:Cx} {k:Nat} {f:Addr} {fd:FuncData} {ps:List Str} {sp:Sp} {x:Str} {p pos:Pos} {e:Expr} {es:List Expr} {t:TA} {cl:List (Str × Addr)} (F:a0M X.prog X.w X.K X.mg X.base CX0 k f fd ps sp) (hr:a1L k X.A) (hg:Gl X x) (hm:X.mg x=some (.ref f)) (hk:PySem.W.keepIn X.K (.ref f)=true) (hb:a1r X.K fd ps []) (hc:a9h X cl)
  (ha:PA X (e :: es) t) (hdb:(x == ("__debug__":Str))=false:=by decide) (he:starEach (e :: es) X.env=(false,eval e X.env) :: starEach es X.env:=by rfl) (hpl:(backTo pos (starEach es X.env)).any (·.1)=false:=by rfl) :
  PE X (.Call (.Name x p) (e :: es) [] pos) (tCallT X cl sp t):=by
 intro pins s σ H Q I h;refine wpAny_Call_Name_kw (a2o I hg hm ?_ hdb);refine PySem.W.callWith_K (h₀:=X.base) I.ok.mod.kin hk (thn (ha pos pins s σ H _ I h) λus s1 ⟨vs,H1,I1,r,q⟩=>⟨I1.kIn,?_⟩) he hpl;have mem:∀ c∈cl.map (·.2),∃ n,(n,c)∈cl:=λc hc=>by
  obtain ⟨⟨n,c'⟩,h1,rfl⟩:=List.mem_map.mp hc;exact ⟨n,h1⟩
 let os:Addr->Obj:=λc=>(s1.heap.get? c).getD ⟨.none,none,.plain,#[]⟩
 have g:∀ c∈cl.map (·.2),s1.heap.get? c=some (os c):=λc hc'=>by
  obtain ⟨n,hn⟩:=mem c hc';obtain ⟨v,o,ho,_⟩:=I1.cell n c (hc.at' _ hn);show _=some ((s1.heap.get? c).getD _);rw [ho];rfl
 have nn:∀ c∈cl.map (·.2),H1 c=none:=λc hc'=>by
  obtain ⟨n,hn⟩:=mem c hc';exact I1.freeC n c (hc.at' _ hn)
 have above:∀ c∈cl.map (·.2),X.s₀.heap.objs.size<=c:=λc hc'=>by
  obtain ⟨n,hn⟩:=mem c hc';exact I1.ok.cab n c (hc.fn _ hn) (hc.at' _ hn)
 have hq:=q os (λj i n c v h1 h2 h3=>by
  have hmem:=List.mem_of_getElem? h1;obtain ⟨m,hn,hl⟩:=I1.loc;obtain ⟨u,rv,l⟩:=hl i n v h2 h3 (.inr (.inl (hc.ki _ hmem)));refine ⟨u,?_,rv⟩;rcases l with ⟨hk',_⟩ | ⟨_,c0,e0,o,ho,hd⟩
  ·have z:some NameKind.cell=some .local:=(hc.ki _ hmem).symm.trans hk';cases z
  ·have ec:some c0=some c:=e0.symm.trans (hc.at' _ hmem);cases ec;have:os c=o:=by
    show (s1.heap.get? c).getD _=o;rw [ho];rfl
   rw [this];exact hd) nn
 have e0:=I1.env0;have e1:b0a X.prog X.w X.K X.mg X.base X.A X.stack s1 (trk' (cl.map (·.2)) os H1):=⟨e0.frames,e0.mod,λb o hb'=>⟨(e0.bs b o hb').1,by
  rw [a1m λz=>Nat.lt_irrefl _ (Nat.lt_of_lt_of_le (Heap.lt_size hb') (Nat.le_trans I1.ok.bsz (above b z)))];exact (e0.bs b o hb').2⟩,e0.bsz,e0.funs,λb hb'=>by
  rw [a1m λz=>?_]
  ·exact e0.frf b hb'
  ·obtain ⟨n,hn⟩:=mem b z;rcases List.mem_cons.mp (I1.stkSub b hb') with y | y
   ·exact I1.cne n b (hc.at' _ hn) y
   ·obtain ⟨_,o,ho,_⟩:=I1.ok.funs.mem y;exact Nat.lt_irrefl _ (Nat.lt_of_lt_of_le (Heap.lt_size ho) (above b z)),e0.hok.trk nn g,e0.bare⟩
 have hl:(us++([]:List Value)).length=ps.length:=by rw [List.append_nil,<-r.length];exact F.len _ _ _ _ hq
 have hb1:=hb s1 us I1.kIn hl;rw [List.append_nil] at hb1;refine wpAny_call (codeAny_mono (F.run X.A X.stack s1 _ ⟨us,[]⟩ us vs _ E0 hr e1 hb1 r hq) λr s' hq'=>?_);cases r with
 | error e=>exact False.elim hq'
 | ok fl =>
  cases fl with
  | ret u =>
   obtain ⟨v,H3,os',bare,un,hok3,rv,q3,q4⟩:=hq';have g3:∀ c∈cl.map (·.2),s'.heap.get? c=some (os c):=λc hc'=>(hok3 c _ (q3 c hc')).1;exact I1.after ⟨v,unt (cl.map (·.2)) H3,os',bare,un.untrk nn g g3,hok3.unt λa ha=>⟨_,q3 a ha⟩,rv,q4⟩
  | next=>exact False.elim hq'
  | brk=>exact False.elim hq'
  | cont=>exact False.elim hq'
theorem Fun.okC {P:Program} {w:World} {K:PySem.W.Frag} {mg:Str->Option Value} {base:Heap} {x qual:Str} {st:Stmt} {f:Addr} {fd:FuncData} {N ps:List Str} {k:Nat} {sp:Sp} (F:Fun K x qual st f fd) (S:a0k N ps (a0g st)) (len:∀ vs H Q E,sp vs H Q E->vs.length=ps.length)
  (hbody:∀ (A:Around) (outer:List Env) (s:Shared) (H:Hp) (vs:List V) (Q:VK) (E:XK),a1L k (A.deeper (envOfC qual (a0g st) s.heap.objs.size f fd.code))->sp vs H Q E ->
   ∃ t,PSs (a5B CX0 P w K mg base N qual (a0g st) f fd.code A outer s H E).nox (a0D st) t/\t { nx:=λ_ H'=>Q .non H',rt:=Q } (start N vs) H):a0M P w K mg base CX0 (k+1) f fd ps sp:=by
 obtain ⟨oc,od,kV,doc,pm,an,cdv,ct,osl,rfl,lk,hcd⟩:=F.ex;refine b2T lk hcd S len λA outer s H vs Q E hr hsp=>?_;obtain ⟨t,h,q⟩:=hbody A outer s H vs Q E hr hsp;exact ⟨t,h.nox,q⟩
structure BMod (mg:Str->Option Value) (base:Heap) (ts:List Addr) (bm:Addr):Prop where
 hbm:mg "__builtins__"=some (.ref bm)
 bo:∃ o,base.get? bm=some o/\o.cls=.type "module"/\o.dict=some builtinsNs/\o.data=.plain
 b1:bm≠builtinsNs
 b2:bm≠mainGlobals
 b3:∀ T∈ts,bm≠T
 b4:∀ T∈ts,mainGlobals≠T
theorem a9i {P:Program} {w:World} {K:PySem.W.Frag} {mg mb:Str->Option Value} {CX:CXT} {k:Nat} {fa a:Addr} {fd:FuncData} {x:Str} {sp:Sp} {s₁:Shared} {vs:List Value} {ns:List Int} {ts:List Addr}
  (KX:K.In s₁.heap) (hns:s₁.heap.Ns mainGlobals mg) (hb:s₁.heap.Ns builtinsNs mb) (hbb:∀ x:Str,x≠"__name__"->mb x=bootBuiltins x) (hlim:s₁.heap.NoLimit) (hg:s₁.gens=#[])
  (ha:s₁.heap.get? a=some { cls:=.type "list",data:=.seq vs.toArray }) (hi:IntsAre vs ns) (hl:ns.length<=sizeLine) (hr:a1L k callerA)
  (ht:∀ T∈ts,s₁.heap.get? T=some (PySem.W.tabObj #[])/\(∃ c,PySem.W.CodeHd s₁.heap c T)/\K.lookup T=none)
  (hbm:∃ bm ob,mg "__builtins__"=some (.ref bm)/\bm≠builtinsNs/\s₁.heap.get? bm=some ob/\ob.cls=.type "module"/\ob.dict=some builtinsNs/\ob.data=.plain)
  (F:∀ base:Heap,K.In base->base.Ns mainGlobals mg->(∃ bm,BMod mg base ts bm)->a0M P w K mg base CX k fa fd [x] sp) (hbind:∀ (s:Shared) (u:Value),BindsTo s fd ⟨[u],[]⟩ [(x,u)])
  (hsp:∀ H:Hp,(∀ T∈ts,H T=some (.tbl #[]))->SqL K H a (ns.map V.int)->sp [.ref a] H (λv _=>v=.bl true) λ_ _ _=>False)
  (hCX:∀ H e s',CX [] H s₁ (λ_ _ _=>False) e s'->False) :
  codeAny (model P w) callerA (.call (.ref fa) ⟨[.ref a],[]⟩) (λr s'=>r=.ok (.ret (.bool true))/\OldK s₁.heap s'.heap/\s'.os=s₁.os/\AllBare s'.gens) s₁:=by
 have rv:=a4X hi;have lenV:=hi.length;have core:∀ H:Hp,(∀ b,H b=none\/(∃ o xs,H b=some (.frz o (.lst xs))/\b=a)\/(H b=some (.tbl #[])/\b∈ts))->(∀ T∈ts,H T=some (.tbl #[]))->SqL K H a (ns.map V.int)->HOk P w H s₁.heap->(∀ b,H b≠none->K.lookup b=none) ->
   codeAny (model P w) callerA (.call (.ref fa) ⟨[.ref a],[]⟩) (λr s'=>r=.ok (.ret (.bool true))/\OldK s₁.heap s'.heap/\s'.os=s₁.os/\AllBare s'.gens) s₁:=by
  intro H hO hT hS hok hK;have base_of:∀ {b:Addr} {o:Obj},s₁.heap.get? b=some o->H b=none->(a9Y s₁.heap H).get? b=some o:=λe n=>b0d e n;have noA:∀ {b:Addr} {o:Obj} {es:Array DictEntry} {ep:Nat},s₁.heap.get? b=some o->o.data=.dict es ep->H b=none:=λ{b o es ep} e d=>by
   rcases hO b with z | ⟨_,_,_,rfl⟩ | ⟨_,hb'⟩
   ·exact z
   ·rw [ha] at e;cases e;have d':Data.seq vs.toArray _=Data.dict es ep:=d;cases d'
   ·rw [(ht b hb').1] at e;cases e;have d':Data.fields #[]=Data.dict es ep:=d;cases d'
  have nsK:∀ {b:Addr} {m:Str->Option Value},s₁.heap.Ns b m->(a9Y s₁.heap H).Ns b m:=λ{b m} ⟨o,es,ep,e,d,r⟩=>⟨o,es,ep,base_of e (noA e d),d,r⟩
  have hKb:K.In (a9Y s₁.heap H):=λb o e=>base_of (KX b o e) (by
   cases q:H b with
   | none=>rfl
   | some u =>
    rw [hK b (by rw [q];simp)] at e;cases e)
  have hM:Mod K mg (a9Y s₁.heap H):=⟨hKb,nsK hns,⟨mb,nsK hb,hbb⟩,let ⟨mc,h1,h2⟩:=hlim;⟨mc,nsK h1,h2⟩⟩
  have e0:b0a P w K mg (a9Y s₁.heap H) callerA [] s₁ H:=⟨rfl,hM,λb o e=>b2F e,Nat.le_of_eq (a7F _ _),trivial,λb hb=>absurd (show b∈([]:List Addr) from hb) (by simp),hok,.of_eq hg⟩
  have hBM:∃ bm,BMod mg (a9Y s₁.heap H) ts bm:=by
   obtain ⟨bm,ob,h1,h2,h3,h4,h5,h6⟩:=hbm;have n1:bm≠a:=λz=>by
    rw [z,ha] at h3;cases h3;have h4:Value.type "list"=Value.type "module":=h4;injection h4 with e;exact absurd e (by decide)
   have n2:∀ T∈ts,bm≠T:=λT hT' z=>by
    rw [z,(ht T hT').1] at h3;cases h3;cases h6
   have ng:∀ {o:Obj},s₁.heap.get? mainGlobals=some o->∃ es ep,o.data=.dict es ep:=λ{o} e=>by
    obtain ⟨o',es,ep,e',d,_⟩:=hns;rw [e'] at e;cases e;exact ⟨es,ep,d⟩
   refine ⟨bm,h1,⟨ob,base_of h3 ?_,h4,h5,h6⟩,h2,λz=>?_,n2,λT hT' z=>?_⟩
   ·rcases hO bm with z | ⟨_,_,_,z⟩ | ⟨_,z⟩
    ·exact z
    ·exact absurd z n1
    ·exact absurd rfl (n2 bm z)
   ·rw [z] at h3;obtain ⟨es,ep,d⟩:=ng h3;rw [d] at h6;cases h6
   ·have:=(ht T hT').1;rw [<-z] at this;obtain ⟨es,ep,d⟩:=ng this;cases d
  refine codeAny_mono ((F _ hKb (nsK hns) hBM).run callerA [] s₁ H ⟨[.ref a],[]⟩ [.ref a] [.ref a] _ _ hr e0 (hbind s₁ (.ref a)) (.cons rfl .nil) (hsp H hT hS)) λr s' h=>?_;cases r with
  | error e=>exact (hCX H e s' h).elim
  | ok fl =>
   cases fl with
   | next=>exact False.elim h
   | brk=>exact False.elim h
   | cont=>exact False.elim h
   | ret u =>
    obtain ⟨v,H',os,bare,un,hok',r',q⟩:=h;have q':v=.bl true:=q;subst q';obtain rfl:u=Value.bool true:=r';refine ⟨rfl,⟨λb o e=>?_,λb o e=>un.there b o e (by simp)⟩,os,bare⟩;rcases hO b with z | ⟨ob,xs,z,_⟩ | ⟨z,hb'⟩
    ·exact .inl (un.keep b o e z (by intro z;exact absurd (show b∈([]:List Addr) from z) (by simp)) (by simp))
    ·have z2:=un.frzs b ob _ z;obtain ⟨e1,_⟩:=hok b _ z;obtain ⟨e2,_⟩:=hok' b _ z2;rw [e] at e1;cases e1;exact .inl e2
    ·obtain ⟨more,z2⟩:=un.tbls b _ z;have e1:s₁.heap.get? b=some (PySem.W.tabObj #[]):=(ht b hb').1;have e2:s'.heap.get? b=some { cls:=.none,data:=.fields (#[]++more) }:=hok' b _ z2;rw [e1] at e;cases e;obtain ⟨c,C⟩:=(ht b hb').2.1;exact .inr (.inl ⟨(C.tab e1).isCodeTable,rfl,#[],more,rfl,e2⟩)
 have neA:∀ T∈ts,T≠a:=λT hT z=>by
  have e:=(ht T hT).1;rw [z,ha] at e;cases e
 have tOk:∀ {H:Hp} {T:Addr},T∈ts->a0R P w H s₁.heap T (.tbl #[]):=λ{H T} hT=>(ht T hT).1;cases hk:K.lookup a with
 | some o =>
  have e:=KX a o hk;rw [ha] at e;cases e;refine core (λb=>if b∈ts then some (.tbl #[]) else none) (λb=>?_) (λT hT=>if_pos hT) (.inr ⟨_,vs.toArray,_,hk,rfl,rfl,rfl,by rw [List.size_toArray,lenV];exact hl,by simpa using rv⟩) (λb u z=>?_) λb z=>?_
  ·by_cases y:b∈ts
   ·exact .inr (.inr ⟨if_pos y,y⟩)
   ·exact .inl (if_neg y)
  ·by_cases y:b∈ts
   ·have z':=(if_pos y).symm.trans z;cases z';exact tOk y
   ·have z':=(if_neg y).symm.trans z;cases z'
  ·by_cases y:b∈ts
   ·exact (ht b y).2.2
   ·exact absurd (if_neg y) z
 | none =>
  refine core (λb=>if b∈ts then some (.tbl #[]) else if b=a then some (.frz { cls:=.type "list",data:=.seq vs.toArray } (.lst (ns.map V.int))) else none) (λb=>?_) (λT hT=>if_pos hT) (.inl (.inr ⟨{ cls:=.type "list",data:=.seq vs.toArray },?_⟩)) (λb u z=>?_) λb z=>?_
  ·by_cases y:b∈ts
   ·exact .inr (.inr ⟨if_pos y,y⟩)
   ·by_cases hb':b=a
    ·exact .inr (.inl ⟨_,_,(if_neg y).trans (if_pos hb'),hb'⟩)
    ·exact .inl ((if_neg y).trans (if_neg hb'))
  ·exact (if_neg λy=>neA a y rfl).trans (if_pos rfl)
  ·by_cases y:b∈ts
   ·have z':=(if_pos y).symm.trans z;cases z';exact tOk y
   ·by_cases hb':b=a
    ·have z':=((if_neg y).trans (if_pos hb')).symm.trans z;cases z';subst hb';exact ⟨ha,by rw [List.length_map];exact hl,vs,_,rv,ha⟩
    ·have z':=((if_neg y).trans (if_neg hb')).symm.trans z;cases z'
  ·by_cases y:b∈ts
   ·exact (ht b y).2.2
   ·by_cases hb':b=a
    ·rw [hb'];exact hk
    ·exact absurd ((if_neg y).trans (if_neg hb')) z
theorem b1b {l:PySem.W.OpenLaw} {n k:Nat} {q:Program} {loose:List Str} {XP:(Str->Option Value)->Heap->Prop} {YP:World->Heap->Prop} {d:DefRec} {K:Params->PySem.W.Frag} {CX:World->CXT} {sp:World->Sp} {x:Str} {ts:List Addr}
  (hn:l.most=some n) (hn2:n<=sizeLine) (hdf:d.params.defaults=[]) (hr:a1L k callerA)
  (hY:∀ (w:World) (h:Heap),YP w h->(K w.params).In h/\∀ T∈ts,h.get? T=some (PySem.W.tabObj #[]))
  (hT:∀ (w:World),∀ T∈ts,(∃ c,PySem.W.codeHdIn (K w.params) c T=true)/\(K w.params).lookup T=none)
  (F:∀ (w:World) (mg:Str->Option Value) (fa:Addr) (h:Heap),(K w.params).In h->h.Ns mainGlobals mg->mg d.name=some (.ref fa) ->
   ∃ fd:FuncData,(∀ (s:Shared) (u:Value),BindsTo s fd ⟨[u],[]⟩ [(x,u)]) /\
    ∀ base:Heap,(K w.params).In base->base.Ns mainGlobals mg->(∃ bm,BMod mg base ts bm)->a0M l.prog w (K w.params) mg base (CX w) k fa fd [x] (sp w))
  (hsp:∀ (w:World) (H:Hp) (a:Addr) (ns:List Int),ns.length<=n->(∀ T∈ts,H T=some (.tbl #[]))->SqL (K w.params) H a (ns.map V.int)->sp w [.ref a] H (λv _=>v=.bl true) λ_ _ _=>False)
  (hCX:∀ (w:World) (H:Hp) (s:Shared) (e:Value) (s':Shared),CX w [] H s (λ_ _ _=>False) e s'->False) :
  PySem.W.WalkO q loose XP YP l.row.toRowW d [] (λf vs=>PySem.call f vs):=by
 refine Att.a5G hn hdf λw s₀ s₁ mg mb fa o pm cd doc a vs ns G Y ho hd hcd hmg hobj hints hlen hg=>?_;obtain ⟨KX,KT⟩:=hY w _ Y;obtain ⟨fd,hb,hF⟩:=F w mg fa _ KX G.T.g hmg;exact a9i KX G.T.g G.T.b G.T.builtins G.T.nolimit hg hobj hints (Nat.le_trans hlen hn2) hr (λT hT'=>⟨KT T hT',(let ⟨c,e⟩:=(hT w T hT').1;⟨c,PySem.W.codeHd_of_K KX e⟩),(hT w T hT').2⟩) G.T.bmain hF hb (λH hO hS=>hsp w H a ns hlen hO hS) λH e s'=>hCX w H s₁ e s'
def a1U:List Expr->Option (List (Int × Int))
 | []=>some []
 | .Tuple [.Constant (.int i) _ _,.Constant (.int j) _ _] _ _ :: es=>(a1U es).map λqs=>(i,j) :: qs
 | _ :: _=>none
def tPs:List (Int × Int)->TA
 | []=>b2R
 | q :: qs=>a5C (tTup (a5C (tC (.int q.1)) (a5C (tC (.int q.2)) b2R))) (tPs qs)
theorem a7z {e:Expr} {es:List Expr} {qs:List (Int × Int)} (h:a1U (e :: es)=some qs):∃ i j k1 p1 k2 p2 k p qs',e=.Tuple [.Constant (.int i) k1 p1,.Constant (.int j) k2 p2] k p/\a1U es=some qs'/\qs=(i,j) :: qs':=by
 unfold a1U at h;split at h
 ·rename_i heq;cases heq
 ·rename_i heq;cases heq;cases hq:a1U es with
  | none=>rw [hq] at h;cases h
  | some qs'=>rw [hq] at h;cases h;exact ⟨_,_,_,_,_,_,_,_,qs',rfl,rfl,rfl⟩
 ·cases h
section
variable {X:Cx}
theorem a6R:∀ {es:List Expr} {qs:List (Int × Int)},a1U es=some qs->PA X es (tPs qs)
 | [],qs,h=>by cases h;exact a0d
 | e :: es,qs,h=>by
  obtain ⟨i,j,k1,p1,k2,p2,k,p,qs',rfl,h2,rfl⟩:=a7z h;exact a0a (a1p (a0a a0e (a0a a0e a0d (by rfl)) (by rfl))) (a6R h2) (by rfl)
def RPr (H:Hp) (x:V) (q:Int × Int):Prop:=∃ t,x=.ref t/\H t=some (.tup [.int q.1,.int q.2])
theorem b2m:∀ (qs:List (Int × Int)) {σ:St} {H:Hp} {Q:List V->Hp->Prop},(∀ ts H',a0p H H'->Paired (RPr H') ts qs->Q ts H')->tPs qs σ H Q
 | [],σ,H,Q,h=>h [] H (a0p.refl _) .nil
 | q :: qs,σ,H,Q,h=>by
  refine ⟨(by show 2<=sizeLine;decide),λp hp=>b2m qs λts H' s pp=>?_⟩;exact h _ H' ((a0f hp _).trans s) (.cons ⟨p,rfl,s _ _ a0b⟩ pp)
def tPrs (qs:List (Int × Int)):TE:=λ_ H Q=>qs.length<=1000/\∀ d ts H',a0p H H'->H d=none->H' d=some (.lst ts)->Paired (RPr H') ts qs->Q (.ref d) H'
theorem b1c {es:List Expr} {pos:Pos} {qs:List (Int × Int)} (h:a1U es=some qs:=by rfl):PE X (.List es pos) (tPrs qs):=by
 refine (a0X (a6R h)).imp λσ H Q q=>?_;obtain ⟨l,q⟩:=q;refine b2m qs λts H1 s pp=>⟨Nat.le_of_lt (a0m (by rw [pp.length];exact l)),λd hd=>?_⟩
 have s2:=a0f hd (.lst ts);exact q d ts _ (s.trans s2) (s.free hd) a0b (Paired.mapP pp λ_ _ ⟨t,e,g⟩=>⟨t,e,s2 _ _ g⟩)
end
theorem b1d {X:Cx}:OpR X (binaryOp .FloorDiv) (rI (λ_ j=>0 < j/\j.natAbs.log2 < 9000) λi j=>.int (i / j)):=opI λi j _ _ _ _ _ hc q=>by
 have h1:(0:Int) < j:=hc.1;exact floordiv_int (by omega) (by rw [Int.fdiv_eq_ediv_of_nonneg i (by omega)];exact q) (.inl (PyProof.noPylong_of_log2 hc.2))
variable {prog:Program} {w:World} {A:Around} {E:Value->Shared->Prop} {s:Shared}
theorem b2n {α β:Type} {f:α->Option β} {g:α->β}:∀ (l:List α),(∀ m∈l,f m=some (g m))->l.filterMap f=l.map g
 | [],_=>rfl
 | a :: l,h=>by
  rw [List.filterMap_cons,h a (.head _),List.map_cons,b2n l λm hm=>h m (.tail _ hm)]
theorem b1e (xs:Array Value):((List.range xs.size).filterMap λ(m:Nat)=>xs[(((xs.size:Nat):Int) - 1+(m:Int) * (-1)).toNat]?).toArray=xs.toList.reverse.toArray:=by
 congr 1;have e:∀ m∈List.range xs.size,xs[(((xs.size:Nat):Int) - 1+(m:Int) * (-1)).toNat]?=some (xs.getD (xs.size - 1 - m) .none):=λm hm=>by
  have:=List.mem_range.mp hm;rw [show (((xs.size:Nat):Int) - 1+(m:Int) * (-1)).toNat=xs.size - 1 - m by omega,Array.getD_eq_getD_getElem?,Array.getElem?_eq_getElem (by omega)];rfl
 have e2:(List.range xs.size).filterMap (λ(m:Nat)=>xs[(((xs.size:Nat):Int) - 1+(m:Int) * (-1)).toNat]?)=(List.range xs.size).map λm=>xs.getD (xs.size - 1 - m) .none:=by
  exact b2n _ e
 rw [e2];refine List.ext_getElem? λk=>?_;rw [List.getElem?_map];by_cases hk:k < xs.size
 ·rw [List.getElem?_range hk,List.getElem?_reverse (by rw [Array.length_toList];exact hk),Array.length_toList,Array.getElem?_toList];show some (xs.getD (xs.size - 1 - k) .none)=_;rw [Array.getD_eq_getD_getElem?,Array.getElem?_eq_getElem (by omega)];rfl
 ·rw [List.getElem?_eq_none (by rw [List.length_range];omega),List.getElem?_eq_none (by rw [List.length_reverse,Array.length_toList];omega)];rfl
theorem a0z.rev:∀ {xs:List V} {us:List Value},a0z xs us->a0z xs.reverse us.reverse
 | _,_,.nil=>.nil
 | _,_,.cons a b=>by
  rw [List.reverse_cons,List.reverse_cons];exact Paired.appendP (a0z.rev b) (.cons a .nil)
abbrev B90:Int:=1000000000000000000000000000000000000000000000000000000000000000000000000000000000000000000
end L2
set_option exponentiation.threshold 2000
namespace K56
open PySem L2
theorem b3N {ps:List Int} (hp:∀ x∈ps,0<=x/\x<=B30):∀ ns:List Int,0<=CT.pc ps ns/\CT.pc ps ns<=(ns.length:Int) * B30
 | []=>⟨by show (0:Int)<=0;decide,by show (0:Int)<=0 * B30;decide⟩
 | n :: ns=>by
  obtain ⟨h1,h2⟩:=b3N hp ns;have e:CT.pc ps (n :: ns)=ps.getD n.toNat 0+CT.pc ps ns:=by unfold CT.pc;simp
  have b:0<=ps.getD n.toNat 0/\ps.getD n.toNat 0<=B30:=by
   rw [List.getD_eq_getElem?_getD];cases hz:ps[n.toNat]? with
   | none=>exact ⟨by decide,by decide⟩
   | some z=>exact hp z (List.mem_of_getElem? hz)
  rw [e];have e2:((n :: ns).length:Int) * B30=(ns.length:Int) * B30+B30:=by
   rw [List.length_cons]
   push_cast
   rw [Int.add_mul];simp
  omega
def Lt (L:Nat) (ns:List Int):Prop:=∀ z∈ns,(0:Int)<=z/\z < (L:Int)
structure Cts (C D:Addr) (H:Hp) (r:Addr) (ps ws:List Int) (h t:Nat->Nat->Nat->OI) (F:Nat->Nat->OI) (c:Nat->Nat->Nat) (u:Nat->Nat->Nat->Nat):Prop where
 ob:∃ (pr p:Addr) (X:Ad) (Y:CY) (Tc:Nat->Nat->OI) (Tt:Nat->Nat->Nat->OI),PAt C H pr p ps ws X h t/\CAt D H r pr ps.length (ws.length+1) Y Tc Tt/\Ctd ps.length ws.length h t Tc Tt c u (λ_ _=>True)
 T:CT.Tb ps.length ws.length h t F (pl ps) (Wt ws)
 N:CT.Cn ps.length ws.length h t c u
 il:CT.inL ps.length ws.length
theorem Cts.same {C D:Addr} {H H':Hp} {r:Addr} {ps ws:List Int} {h t:Nat->Nat->Nat->OI} {F:Nat->Nat->OI} {c:Nat->Nat->Nat} {u:Nat->Nat->Nat->Nat} (k:a0p H H') (a:Cts C D H r ps ws h t F c u):Cts C D H' r ps ws h t F c u:=by
 obtain ⟨pr,p,X,Y,Tc,Tt,pa,ca,ct⟩:=a.ob;exact ⟨⟨pr,p,X,Y,Tc,Tt,pa.same k,ca.same k,ct⟩,a.T,a.N,a.il⟩
abbrev Chh (ps ws:List Int) (F:Nat->Nat->OI) (i j:Nat):List CT.Code:=CT.CH F (CT.Cs ps.length) (CT.co ps ws) i j
abbrev Txx (ps ws:List Int) (t:Nat->Nat->Nat->OI) (l i j:Nat):List CT.Code:=CT.TX t (CT.Rs ps.length) (CT.co ps ws) l i j
abbrev pq (ps ws:List Int) (t:Nat->Nat->Nat->OI) (F:Nat->Nat->OI) (i j:Nat) (q:Nat × Nat):List CT.Code:=CT.prd q.1 (Chh ps ws F i (i+q.2+1)) (Txx ps ws t (q.1+1) (i+q.2+1) j)
def Tf (ps ws:List Int) (h t:Nat->Nat->Nat->OI) (F:Nat->Nat->OI) (l i j:Nat):List CT.Code:=if i=j then [[]] else (wys ps.length h t l i j).flatMap (pq ps ws t F i j)
section
variable {C D:Addr} {H:Hp} {r:Addr} {ps ws:List Int} {h t:Nat->Nat->Nat->OI} {F:Nat->Nat->OI} {c:Nat->Nat->Nat} {u:Nat->Nat->Nat->Nat}
theorem Cts.L (a:Cts C D H r ps ws h t F c u):2<=ps.length/\ps.length<=6/\ws.length<=24:=a.il
theorem Cts.tx (a:Cts C D H r ps ws h t F c u) {l i j:Nat} (hl:i < j->l < ps.length) (hij:i<=j) (hj:j<=ws.length):Txx ps ws t l i j=Tf ps ws h t F l i j:=by
 unfold Tf;by_cases e:i=j
 ·rw [if_pos e];unfold Txx CT.TX;rw [if_pos e]
 ·rw [if_neg e];exact CT.TX_eq a.T a.N CT.en (hl (by omega)) (by omega) hj
theorem Cts.ch (a:Cts C D H r ps ws h t F c u) {i j:Nat} (hij:i+2<=j) (hj:j<=ws.length):Chh ps ws F i j=Tf ps ws h t F 0 i j:=by
 unfold Tf;rw [if_neg (by omega)];exact CT.CH_eq a.T a.N CT.en (by have:=a.L;omega) hij hj
theorem Cts.lch (a:Cts C D H r ps ws h t F c u) {i j:Nat} (hij:i < j) (hj:j<=ws.length):(Chh ps ws F i j).length=c i j:=CT.len_CH a.T a.N CT.en hij hj
theorem Cts.ltx (a:Cts C D H r ps ws h t F c u) {l i j:Nat} (hl:l<=ps.length) (hl2:i < j->l < ps.length) (hij:i<=j) (hj:j<=ws.length):(Txx ps ws t l i j).length=u l i j:=CT.len_TX a.T a.N CT.en hl hl2 hij hj
theorem Cts.c9 (a:Cts C D H r ps ws h t F c u) {i j:Nat} (hij:i < j) (hj:j<=ws.length):c i j<=2 ^ 1000:=by
 obtain ⟨pr,p,X,Y,Tc,Tt,pa,ca,ctd⟩:=a.ob;have:=a.L;exact Nat.le_trans (ctd.bc i j hij hj trivial) (a5j (by omega))
theorem Cts.u9 (a:Cts C D H r ps ws h t F c u) {l i j:Nat} (hl:l<=ps.length) (hl2:i < j->l < ps.length) (hij:i<=j) (hj:j<=ws.length):u l i j<=2 ^ 1000:=by
 obtain ⟨pr,p,X,Y,Tc,Tt,pa,ca,ctd⟩:=a.ob;have L:=a.L;by_cases e:i=j
 ·subst e;rw [ctd.td l i hl hj];exact Nat.one_le_two_pow
 ·have h1:=ctd.bt l i j (hl2 (by omega)) (by omega) hj trivial;have h2:=a5j (show 2 * (j - i) - 1<=47 by omega);omega
theorem Cts.wq (a:Cts C D H r ps ws h t F c u) {l i j:Nat} (hl:l < ps.length) (hij:i < j) (hj:j<=ws.length) {q:Nat × Nat} (hq:q∈wys ps.length h t l i j):q.1 < ps.length/\i+q.2+1<=j/\(i+q.2+1 < j->q.1+1 < ps.length):=by
 obtain ⟨h1,h2,h3,h4⟩:=a5k a.T hl hij hj hq;exact ⟨h2,by omega,λz=>h4 (by omega)⟩
theorem Cts.lpq (a:Cts C D H r ps ws h t F c u) {l i j:Nat} (hl:l < ps.length) (hij:i < j) (hj:j<=ws.length) {q:Nat × Nat} (hq:q∈wys ps.length h t l i j):(pq ps ws t F i j q).length=c i (i+q.2+1) * u (q.1+1) (i+q.2+1) j:=by
 obtain ⟨h1,h2,h3⟩:=a.wq hl hij hj hq;unfold pq;rw [CT.a9f,a.lch (by omega) (by omega),a.ltx (by omega) h3 h2 hj]
end
section
variable {P':Program} {w:World} {K:PySem.W.Frag} {mg:Str->Option Value} {base:Heap} {f:Addr} {fd:FuncData}
abbrev NWb:List Str:=["counts","number","first","end"]
abbrev NTw:List Str:=["counts","number","letter","first","end","ways","left","at","way","behind","inside","rest"]
abbrev PTw:List Str:=["counts","number","letter","first","end"]
def spWb (C D:Addr) (d:Nat):Sp:=λvs H Q _=>∃ (r:Addr) (ps ws:List Int) (h t:Nat->Nat->Nat->OI) (F:Nat->Nat->OI) (c:Nat->Nat->Nat) (u:Nat->Nat->Nat->Nat) (x i j:Nat) (cde:CT.Code),vs=[.ref r,.int (x:Int),.int (i:Int),.int (j:Int)]/\Cts C D H r ps ws h t F c u/\i < j/\j<=ws.length/\3 * (j - i)+2<=d/\(Chh ps ws F i j)[x]?=some cde/\cde.length=j - i /\
 ∀ (p:Addr) xs H',a0p H H'->H' p=some (.lst xs)->Ws H' xs cde->Q (.ref p) H'
def spTw (C D:Addr) (d:Nat):Sp:=λvs H Q _=>∃ (r:Addr) (ps ws:List Int) (h t:Nat->Nat->Nat->OI) (F:Nat->Nat->OI) (c:Nat->Nat->Nat) (u:Nat->Nat->Nat->Nat) (x l i j:Nat) (cde:CT.Code),vs=[.ref r,.int (x:Int),.int (l:Int),.int (i:Int),.int (j:Int)]/\Cts C D H r ps ws h t F c u/\i<=j/\(i < j->l < ps.length)/\j<=ws.length/\3 * (j - i)+1<=d/\(∀ q∈wys ps.length h t l i j,3 * (q.2+1)+3<=d)/\(Tf ps ws h t F l i j)[x]?=some cde/\cde.length=j - i /\
 ∀ (p:Addr) xs H',a0p H H'->H' p=some (.lst xs)->Ws H' xs cde->Q (.ref p) H'
theorem scWb:a0k NWb NWb (a0g sWb):=fsk
theorem a9j:a0k NTw PTw (a0g sTw):=fsk
theorem ndTw:(("word":Str) :: NTw).Nodup:=by decide +kernel
theorem ch_one {ps ws:List Int} {F:Nat->Nat->OI} {i x:Nat} {cde:CT.Code} (e:(Chh ps ws F i (i+1))[x]?=some cde):cde=[[]]:=by
 have h1:=List.mem_of_getElem? e;unfold Chh CT.CH at h1;have h2:=(List.mem_filter.mp h1).1;rw [show i+1 - i=1 by omega,CT.a1R] at h2;simpa using h2
theorem b3O {ps ws:List Int} {F:Nat->Nat->OI} {i j x:Nat} {cde:CT.Code} (hij:i < j) (e:(Chh ps ws F i j)[x]?=some cde):CT.Gd ps.length (j - i) (j - i - 1) cde:=by
 have h1:=List.mem_of_getElem? e;unfold Chh CT.CH at h1;exact CT.a5n (by omega) cde (List.mem_filter.mp h1).1
theorem b3P {ps ws:List Int} {t:Nat->Nat->Nat->OI} {l i j x:Nat} {cde:CT.Code} (hij:i<=j) (e:(Txx ps ws t l i j)[x]?=some cde):CT.Gd ps.length (j - i) (j - i) cde:=by
 have h1:=List.mem_of_getElem? e;unfold Txx CT.TX at h1;split at h1
 ·rename_i z;have:cde=[]:=by simpa using h1
  subst this;exact ⟨by simp;omega,λu hu=>by cases hu⟩
 ·rename_i z;exact CT.Rs_gd (by omega) cde (List.mem_filter.mp h1).1
theorem b1f {α:Type} {g:α->Nat} {x:α} {k:Nat} {xs:List α} (h:xs[k]?=some x):((xs.take (k+1)).map g).sum=((xs.take k).map g).sum+g x:=by
 rw [List.take_add_one,h,List.map_append,List.sum_append];simp
theorem a6S {α β:Type} {X:α->List β}:∀ xs:List α,(xs.flatMap X).length=(xs.map λa=>(X a).length).sum
 | []=>rfl
 | x :: xs=>by rw [List.flatMap_cons,List.length_append,a6S xs,List.map_cons,List.sum_cons]
theorem ok_wt {C D:Addr} {f2:Addr} {fd2:FuncData} (FW:Fun K "words_by" "words_by" sWb f fd) (FT:Fun K "tail_words" "tail_words" sTw f2 fd2) (mw:mg "words_by"=some (.ref f)) (kw:PySem.W.keepIn K (.ref f)=true) (bw:a1r K fd NWb []) (mt:mg "tail_words"=some (.ref f2)) (kt:PySem.W.keepIn K (.ref f2)=true) (bt:a1r K fd2 PTw [])
  (MW:Mt P' w K mg base C "ways" ["self","letter","first","end"] (a3L C) 3) (MY:Mt P' w K mg base D "by_way" NBy (spBy D) 3) (rcP:PC K C) (rc:DC K D):∀ d,a0M P' w K mg base CX0 (d+4) f fd NWb (spWb C D d)/\a0M P' w K mg base CX0 (d+4) f2 fd2 PTw (spTw C D d):=by
 intro d
 induction d with
 | zero =>
  refine ⟨FW.ok (k:=3) scWb (λvs H Q E h=>?_) (λcdv A outer s H vs Q E hr h=>?_),FT.ok (k:=3) a9j (λvs H Q E h=>?_) (λcdv A outer s H vs Q E hr h=>?_)⟩
  all_goals exfalso
  ·obtain ⟨r,ps,ws,h,t,F,c,u,x,i,j,cde,rfl,_,_,_,z,_⟩:=h;omega
  ·obtain ⟨r,ps,ws,h,t,F,c,u,x,i,j,cde,rfl,_,_,_,z,_⟩:=h;omega
  ·obtain ⟨r,ps,ws,h,t,F,c,u,x,l,i,j,cde,rfl,_,_,_,_,z,_⟩:=h;omega
  ·obtain ⟨r,ps,ws,h,t,F,c,u,x,l,i,j,cde,rfl,_,_,_,_,z,_⟩:=h;omega
 | succ d ih =>
  obtain ⟨OW,OT⟩:=ih;constructor
  ·refine FW.ok (k:=d+4) scWb (λvs H Q E h=>?_) (λcdv A outer s H vs Q E hr h=>?_)
   ·obtain ⟨r,ps,ws,h,t,F,c,u,x,i,j,cde,rfl,_⟩:=h;rfl
   obtain ⟨r,ps,ws,h,t,F,c,u,x,i,j,cde,rfl,ct,hij,hj,hd,hx,hl,q⟩:=h;refine ⟨_,a0c (a0W (a0r a1J (a0l a1k (pv 3) (pv 2)) a0e (nomark _)) (a0h (a0o (a0X (a0a (a1p a0d) a0d)))) a0u)
    (a0h (a0o (a0Z OT hr (by rfl) mt kt bt .nil a0Y (a0a (pv 0) (a0a (pv 1) (a0a a0e (a0a (pv 2) (a0a (pv 3) a0d)))))))),?_⟩
   refine ⟨_,rfl,_,rfl,_,_,rfl,rfl,rfl,_,rfl,?_⟩;refine a2b (λz=>?_) (λz=>?_)
   ·have z1:j=i+1:=by
     have y:V.int ((j:Int) - (i:Int))=V.int 1:=of_decide_eq_true z;have:=V.int.inj y;omega
    subst z1;have e1:=ch_one hx;subst e1;refine ⟨(by show 0<=sizeLine;decide),λt0 ht0=>?_⟩;have s1:=a0f ht0 (.tup []);have h1:upd H t0 (.tup []) t0=some (.tup []):=a0b;generalize upd H t0 (.tup [])=H1 at s1 h1 ⊢;refine ⟨(by show 1<=sizeLine;decide),λl1 hl1=>?_⟩;have s2:=a0f hl1 (.lst [.ref t0]);exact q l1 [.ref t0] _ (s1.trans s2) a0b (.cons (Wd.of (w:=[]) (s2 _ _ h1)) .nil)
   ·have z1:¬ j - i=1:=λy=>z (decide_eq_true (by show V.int ((j:Int) - (i:Int))=V.int 1;congr 1;omega));have L2':=ct.L;refine ⟨_,rfl,_,rfl,_,rfl,_,rfl,r,ps,ws,h,t,F,c,u,x,0,i,j,cde,rfl,ct,by omega,λ_=>by omega,hj,by omega,λq hq=>?_,?_,hl,q⟩
    ·have:=wys0 ct.T (by omega) (by omega) hj hq;omega
    ·rw [<-ct.ch (by omega) hj];exact hx
  ·refine FT.ok (k:=d+4) a9j (λvs H Q E h=>?_) (λcdv A outer s H vs Q E hr h=>?_)
   ·obtain ⟨r,ps,ws,h,t,F,c,u,x,l,i,j,cde,rfl,_⟩:=h;rfl
   obtain ⟨r,ps,ws,h,t,F,c,u,x,l,i,j,cde,rfl,ct,hij,hlt,hj,hd,hdq,hx,hcl,q⟩:=h;have MW':=MW.up (show 3<=d+4 by omega);have MY':=MY.up (show 3<=d+4 by omega);refine ⟨_,a0c (a0W (a0r a1J (pv 3) (pv 4) (nomark _)) (a0h (a0o (a0X a0d))) a0u)
    (a0c (psA (i:=5) a9j (a0P (a0F (pv 0) rfl) rcP.c MW'.m MW'.ok hr MW'.b .nil a0Y (a0a (pv 2) (a0a (pv 3) (a0a (pv 4) a0d)))))
    (a0c (psA (i:=6) a9j (pv 1))
    (a0c (psA (i:=7) a9j a0e)
    (a0c (a2g PassesOwn.never (a0r op_ge (pv 6) (a0P (pv 0) rc.c MY'.m MY'.ok hr MY'.b .nil a0Y (a0a (pxA a0j (pv 5) (pv 7)) (a0a (pv 3) (a0a (pv 4) a0d)))) (nomark _))
     (a0c (psA (i:=6) a9j (a0l a1k (pv 6) (a0P (pv 0) rc.c MY'.m MY'.ok hr MY'.b .nil a0Y (a0a (pxA a0j (pv 5) (pv 7)) (a0a (pv 3) (a0a (pv 4) a0d))))))
     (a0h (b1H (i:=7) a9j.nd rfl (Or.inl rfl) a0e b1I))))
    (a0c (psA (i:=8) a9j (pxA a0j (pv 5) (pv 7)))
    (a0c (psA (i:=9) a9j (pxA a0j (pxA a0j (pxA a0j (a0F (pv 0) rfl) (a0l a0t (pxA a0y (pv 8) a0e) a0e)) (pxA a0y (pv 8) a0e)) (pv 4)))
    (a0c (psA (i:=10) a9j (a0Z OW hr (by rfl) mw kw bw .nil a0Y (a0a (pv 0) (a0a (a0l b1d (pv 6) (pv 9)) (a0a (pv 3) (a0a (pxA a0y (pv 8) a0e) a0d))))))
    (a0c (psA (i:=11) a9j (a0Z OT hr (by rfl) mt kt bt .nil a0Y (a0a (pv 0) (a0a (a0l a1e (pv 6) (pv 9)) (a0a (a0l a0t (pxA a0y (pv 8) a0e) a0e) (a0a (pxA a0y (pv 8) a0e) (a0a (pv 4) a0d)))))))
    (a0h (a0o (a0l a8b (a1B (M:=NTw) rfl (cso (a0g sTw) NTw) ndTw rfl (pv 10) a0O
     (λcl C s0 H0 fp=>⟨a0L,a0l a8i (a1p (a0a (pxA (ixT K) (pv 9) a0e) a0d)) (pv 0)⟩)) (pv 11)))))))))))),?_⟩
   refine ⟨_,rfl,_,rfl,rfl,_,rfl,?_⟩;refine a2b (λz=>?_) (λz=>?_)
   ·have z1:i=j:=by have:=V.int.inj (of_decide_eq_true z);omega
    subst z1;have e1:cde=[]:=by
     unfold Tf at hx;rw [if_pos rfl] at hx;have:=List.mem_of_getElem? hx;simpa using this
    subst e1;exact ⟨(by show 0<=sizeLine;decide),λl1 hl1=>q l1 [] _ (a0f hl1 _) a0b .nil⟩
   have ne:i≠j:=λy=>z (decide_eq_true (by rw [y]));have hij':i < j:=by omega
   have hl:=hlt hij';have eT:Tf ps ws h t F l i j=(wys ps.length h t l i j).flatMap (pq ps ws t F i j):=if_neg ne;rw [eT] at hx;obtain ⟨pr,p,X,Y,Tc,Tt,pa,ca,ctd⟩:=ct.ob;obtain ⟨dx,ho⟩:=ca.ob;obtain ⟨dp,hop⟩:=pa.ob;obtain ⟨L2',L4,n6⟩:=ct.L;refine ⟨_,rfl,r,D,dx,_,_,rfl,ho,rc.c,rc.np,rfl,pr,dp,_,rfl,hop,rfl,_,rfl,_,rfl,_,rfl,pr,p,ps,ws,X,h,t,l,i,j,rfl,pa,by omega,by omega,hl,hij',hj,λd1 xs H1 s1 g1 w1=>?_⟩
   let sz:Nat × Nat->Nat:=λq=>c i (i+q.2+1) * u (q.1+1) (i+q.2+1) j
   have szE:∀ q∈wys ps.length h t l i j,(pq ps ws t F i j q).length=sz q:=λq hq=>ct.lpq hl hij' hj hq;have tot:x < ((wys ps.length h t l i j).map sz).sum:=by
    have h1:=(List.getElem?_eq_some_iff.mp hx).1;rw [a6S,List.map_congr_left szE] at h1;exact h1
   have ca1:=ca.same s1;have ct1:=ct.same s1;have ho1:=s1 _ _ ho;have bw':∀ q∈wys ps.length h t l i j,q.1 < ps.length/\i+q.2+1<=j/\(i+q.2+1 < j->q.1+1 < ps.length)/\Tc i (i+q.2+1)=some (c i (i+q.2+1):Int)/\Tt (q.1+1) (i+q.2+1) j=some (u (q.1+1) (i+q.2+1) j:Int)/\c i (i+q.2+1)<=2 ^ 1000/\u (q.1+1) (i+q.2+1) j<=2 ^ 1000:=λq hq=>by
    obtain ⟨a1,a2,a3⟩:=ct.wq hl hij' hj hq;refine ⟨a1,a2,a3,ctd.vc i (i+q.2+1) (by omega) (by omega) trivial,?_,ct.c9 (by omega) (by omega),ct.u9 (by omega) a3 a2 hj⟩;by_cases y:i+q.2+1 < j
    ·exact ctd.vt (q.1+1) (i+q.2+1) j (a3 y) y hj trivial
    ·have y1:i+q.2+1=j:=by omega
     rw [y1,ctd.dg (q.1+1) j (by omega) hj,ctd.td (q.1+1) j (by omega) hj];rfl
   have b126:∀ {y:Nat},y<=2 ^ 1000->y<=2 ^ 1000:=λhy=>hy;refine ⟨_,rfl,?_⟩;refine ⟨λm σ H'=>H'=H1/\∃ (a lf:Nat) (x8 x9 x10 x11:Option V),m=(wys ps.length h t l i j).length - a/\x=(((wys ps.length h t l i j).take a).map sz).sum+lf/\σ=[some (.ref r),some (.int (x:Int)),some (.int (l:Int)),some (.int (i:Int)),some (.int (j:Int)),some (.ref d1),some (.int (lf:Int)),some (.int (a:Int)),x8,x9,x10,x11],⟨_,rfl,0,x,_,_,_,_,rfl,by simp,rfl⟩,?_⟩;rintro m σ H' ⟨rfl,a,lf,x8,x9,x10,x11,rfl,ex,rfl⟩;have ha:a < (wys ps.length h t l i j).length:=by
    by_cases y:a < (wys ps.length h t l i j).length
    ·exact y
    ·rw [List.take_of_length_le (by omega)] at ex;omega
   obtain ⟨q',hq⟩:∃ q',(wys ps.length h t l i j)[a]?=some q':=⟨_,List.getElem?_eq_getElem ha⟩
   obtain ⟨v,hv,wt,rfl,hwt⟩:=Paired.left_of w1 a q' hq;have hqm:=List.mem_of_getElem? hq;obtain ⟨b1,b2,b3,b4,b5,b6,b7⟩:=bw' q' hqm;have bydo:∀ {R:V->Hp->Prop},R (.int ((c i (i+q'.2+1) * u (q'.1+1) (i+q'.2+1) j:Nat):Int)) H'->spBy D [.ref r,.ref wt,.int (i:Int),.int (j:Int)] H' R (λ_ _ _=>False):=λhR=>⟨r,pr,ps.length,ws.length+1,Y,Tc,Tt,wt,i,q'.1,i+q'.2+1,j,c i (i+q'.2+1),u (q'.1+1) (i+q'.2+1) j,rfl,ca1,hwt,by omega,by omega,by omega,b1,b4,b5,b126 b6,b126 b7,hR⟩
   refine ⟨_,rfl,_,rfl,r,dx,_,rfl,ho1,rfl,_,rfl,_,rfl,d1,_,_,_,rfl,rfl,SqL.of g1,a1P hv,_,rfl,_,rfl,r,pr,ps.length,ws.length+1,Y,Tc,Tt,wt,i,q'.1,i+q'.2+1,j,c i (i+q'.2+1),u (q'.1+1) (i+q'.2+1) j,rfl,ca1,hwt,by omega,by omega,by omega,b1,b4,b5,b126 b6,b126 b7,?_⟩;refine ⟨_,_,rfl,rfl,_,rfl,?_⟩;refine a2b (λy=>?_) (λy=>?_)
   ·have y1:(lf:Int) >= ((c i (i+q'.2+1) * u (q'.1+1) (i+q'.2+1) j:Nat):Int):=of_decide_eq_true y;have y2:sz q'<=lf:=by
     have:((sz q':Nat):Int)<=(lf:Int):=y1;omega
    refine ⟨_,λσ' H' n'=>n',?_⟩;refine ⟨_,rfl,_,rfl,r,dx,_,rfl,ho1,rfl,_,rfl,_,rfl,d1,_,_,_,rfl,rfl,SqL.of g1,a1P hv,_,rfl,_,rfl,r,pr,ps.length,ws.length+1,Y,Tc,Tt,wt,i,q'.1,i+q'.2+1,j,c i (i+q'.2+1),u (q'.1+1) (i+q'.2+1) j,rfl,ca1,hwt,by omega,by omega,by omega,b1,b4,b5,b126 b6,b126 b7,?_⟩;refine ⟨_,_,rfl,rfl,?_⟩;have ev:(lf:Int) - ((c i (i+q'.2+1) * u (q'.1+1) (i+q'.2+1) j:Nat):Int)=((lf - sz q':Nat):Int):=by
     have:((sz q':Nat):Int)=((c i (i+q'.2+1) * u (q'.1+1) (i+q'.2+1) j:Nat):Int):=rfl;omega
    dsimp only;rw [ev];refine ⟨_,rfl,_,_,rfl,rfl,?_⟩;refine ⟨_,?_,rfl,a+1,lf - sz q',_,_,_,_,rfl,?_,rfl⟩
    ·omega
    ·rw [b1f hq];omega
   have y2:lf < sz q':=by
    by_cases k:lf < sz q'
    ·exact k
    ·refine absurd (decide_eq_true ?_) y;show (lf:Int) >= ((sz q':Nat):Int)
     omega
   have hg:=CT.a2O (X:=pq ps ws t F i j) (wys ps.length h t l i j) a lf hq (by rw [szE q' hqm];exact y2);have es:(((wys ps.length h t l i j).take a).map λb=>(pq ps ws t F i j b).length).sum=(((wys ps.length h t l i j).take a).map sz).sum:=by
    congr 1;exact List.map_congr_left λq hq=>szE q (List.mem_of_mem_take hq)
   rw [es,<-ex,hx] at hg;have lA:=ct.lch (i:=i) (j:=i+q'.2+1) (by omega) (by omega);have lB:=ct.ltx (l:=q'.1+1) (i:=i+q'.2+1) (j:=j) (by omega) b3 b2 hj;obtain ⟨cA,rB,hA,hB,hAB⟩:=CT.a9g (l:=q'.1) (A:=Chh ps ws F i (i+q'.2+1)) (B:=Txx ps ws t (q'.1+1) (i+q'.2+1) j) (x:=lf) (by rw [lA,lB];exact y2);rw [lB] at hA hB;have ecde:cde=CT.ahd q'.1 cA++rB:=Option.some.inj (hg.trans hAB);have gA:=b3O (by omega) hA;have gB:=b3P b2 hB;rw [ct.tx b3 b2 hj] at hB;have u0:0 < u (q'.1+1) (i+q'.2+1) j:=by
    cases e:u (q'.1+1) (i+q'.2+1) j with
    | zero =>
     have:sz q'=c i (i+q'.2+1) * u (q'.1+1) (i+q'.2+1) j:=rfl;rw [e,Nat.mul_zero] at this;omega
    | succ k=>omega
   refine ⟨_,rfl,_,rfl,d1,_,_,_,rfl,rfl,SqL.of g1,a1P hv,?_⟩;refine ⟨_,rfl,r,D,dx,_,_,rfl,ho1,rc.c,rc.nt,rfl,_,rfl,wt,_,_,_,rfl,rfl,SqT.of hwt,rfl,_,_,rfl,rfl,Y.tt,_,_,_,rfl,rfl,SqL.of ca1.tl.o,a0s (k:=q'.1+1) (by omega),_,rfl,wt,_,_,_,rfl,rfl,SqT.of hwt,rfl,Y.bt (q'.1+1),_,_,_,rfl,rfl,SqL.of (ca1.tl.b (q'.1+1) (by omega)),a0s (k:=i+q'.2+1) (by omega),_,rfl,Y.ct (q'.1+1) (i+q'.2+1),_,_,_,rfl,rfl,SqL.of (ca1.tl.c (q'.1+1) (i+q'.2+1) (by omega) (by omega)),a0s (k:=j) (by omega),?_⟩;rw [b5];refine ⟨_,rfl,_,rfl,_,rfl,_,_,rfl,rfl,⟨(by show (0:Int) < (u (q'.1+1) (i+q'.2+1) j:Int);omega),(by show ((u (q'.1+1) (i+q'.2+1) j:Nat):Int).natAbs.log2 < 9000;rw [Int.natAbs_natCast];exact (Nat.log2_lt (by omega)).mpr (Nat.lt_of_le_of_lt b7 (Nat.pow_lt_pow_right (by decide) (by decide))))⟩,_,rfl,_,rfl,wt,_,_,_,rfl,rfl,SqT.of hwt,rfl,?_⟩;refine ⟨r,ps,ws,h,t,F,c,u,lf / u (q'.1+1) (i+q'.2+1) j,i,i+q'.2+1,cA,congrArg (λz=>[V.ref r,V.int z,V.int (i:Int),V.int ((i+q'.2+1:Nat):Int)]) (Int.natCast_ediv lf _).symm,ct1,by omega,by omega,?_,hA,gA.ln,λp1 xs1 H2 s2 g2 w2=>?_⟩
   ·have:=hdq q' hqm;omega
   have hwt2:=s2 _ _ hwt;refine ⟨_,rfl,_,rfl,_,rfl,_,_,rfl,rfl,(by show (0:Int) < (u (q'.1+1) (i+q'.2+1) j:Int);omega),_,rfl,wt,_,_,_,rfl,rfl,SqT.of hwt2,rfl,_,_,rfl,rfl,_,rfl,wt,_,_,_,rfl,rfl,SqT.of hwt2,rfl,_,rfl,?_⟩;refine ⟨r,ps,ws,h,t,F,c,u,lf % u (q'.1+1) (i+q'.2+1) j,q'.1+1,i+q'.2+1,j,rB,congrArg (λz=>[V.ref r,V.int z,V.int ((q'.1+1:Nat):Int),V.int ((i+q'.2+1:Nat):Int),V.int (j:Int)]) (Int.natCast_emod lf _).symm,ct1.same s2,b2,b3,hj,by omega,λq2 hq2=>?_,hB,gB.ln,λp2 xs2 H3 s3 g3 w3=>?_⟩
   ·have e1:=(CT.a0v.mp (a1u.mp hq2).1).2.2;omega
   have hwt3:=s3 _ _ hwt2;have g23:=s3 _ _ g2;have w23:=Ws.same s3 w2;have l1:xs1.length=cA.length:=w2.length;have l2:xs2.length=rB.length:=w3.length;refine ⟨_,rfl,p1,_,rfl,SqL.of g23,λe3 he3=>?_⟩;refine ⟨λk H'=>a0p H3 H'/\∃ zs,H' e3=some (.lst zs)/\Ws H' zs ((cA.take k).map λu=>((q'.1:Nat):Int) :: u),⟨a0f he3 _,[],a0b,.nil⟩,λk H' _ hP=>SqL.of (hP.1 _ _ g23),λk y H' hy hP=>?_,λH4 hP=>?_⟩
   ·obtain ⟨s4,zs,g4,w4⟩:=hP;obtain ⟨o,ho2,ru⟩:=Paired.right_of w23 k y hy;obtain ⟨ua,rfl,hua⟩:=Wd.ti ru;have kl:=(List.getElem?_eq_some_iff.mp ho2).1;have lu:=(gA.wd o (List.mem_of_getElem? ho2)).1;refine a0E ⟨_,rfl,wt,_,_,_,rfl,rfl,SqT.of (s4 _ _ hwt3),rfl,(by show 1<=sizeLine;decide),λt1 ht1=>?_⟩;have s5:=a0f ht1 (.tup [.int (q'.1:Int)]);have h5:upd H' t1 (.tup [.int (q'.1:Int)]) t1=some (.tup [.int (q'.1:Int)]):=a0b;generalize upd H' t1 (.tup [.int (q'.1:Int)])=H5 at s5 h5 ⊢;refine ⟨_,rfl,t1,ua,_,_,rfl,rfl,h5,s5 _ _ (s4 _ _ hua),small (by rw [List.length_map,List.length_singleton];omega),λp5 H6 s6 hp5=>?_⟩;refine ⟨zs,s6 _ _ (s5 _ _ g4),a0m (by rw [w4.length,List.length_map,List.length_take,gA.ln];omega),a0n he3 ((s4.trans s5).trans s6),_,a0b,?_⟩;rw [List.take_add_one,ho2,List.map_append];exact Paired.appendP (Ws.upd (s6 _ _ (s5 _ _ g4)) (Ws.same (s5.trans s6) w4)) (.cons (Wd.upd (s6 _ _ (s5 _ _ g4)) (Wd.of hp5)) .nil)
   obtain ⟨s4,zs4,g4,w4⟩:=hP;rw [l1,List.take_length] at w4;have lz:zs4.length=cA.length:=by rw [w4.length,List.length_map]
   refine ⟨_,rfl,e3,p2,_,_,rfl,rfl,g4,s4 _ _ g3,small (by rw [lz,l2,gA.ln,gB.ln];omega),λp6 hp6=>?_⟩;have s7:=a0f hp6 (.lst (zs4++xs2));refine q p6 _ _ ((((s1.trans s2).trans s3).trans s4).trans s7) a0b ?_;rw [ecde];exact Paired.appendP (Ws.same s7 w4) (Ws.same (s4.trans s7) w3)
end
end K56
set_option exponentiation.threshold 2000
namespace K56
open PySem L2
namespace CT
def Af (u v:List Int):Prop:=HT.a1d u v=true/\v.take u.length≠u
def KP (c:Code):Prop:=c.Pairwise Af
def InL (L:Nat) (c:Code):Prop:=∀ u∈c,∀ x∈u,(0:Int)<=x/\x < (L:Int)
def sz (c:Code):Nat:=(c.map λu=>u.length+1).sum
def Fr (l:Nat) (c:Code):Prop:=∀ u∈c,∃ x w,u=x :: w/\(l:Int)<=x
theorem a9k {x:Int} {u v:List Int}:Af (x :: u) (x :: v)↔Af u v:=by
 unfold Af;rw [HT.a0J,if_pos rfl,List.length_cons,List.take_succ_cons];constructor
 ·rintro ⟨a,b⟩;exact ⟨a,λz=>b (by rw [z])⟩
 ·rintro ⟨a,b⟩;exact ⟨a,λz=>by injection z with _ z;exact b z⟩
theorem af_lt {x y:Int} {u v:List Int} (h:x < y):Af (x :: u) (y :: v):=by
 unfold Af;rw [HT.a0J,if_neg (by omega),List.length_cons,List.take_succ_cons];exact ⟨decide_eq_true h,λz=>by injection z with z _;omega⟩
theorem af_le {x y:Int} {u v:List Int} (h:Af (x :: u) (y :: v)):x<=y:=by
 have h:=h.1;rw [HT.a0J] at h;split at h
 ·omega
 ·have:=of_decide_eq_true h;omega
theorem b2o {l:Nat} {c:Code}:KP (ahd l c)↔KP c:=by
 unfold KP ahd;rw [List.pairwise_map];constructor
 ·intro h;exact h.imp λz=>a9k.mp z
 ·intro h;exact h.imp λz=>a9k.mpr z
theorem sz_app (a b:Code):sz (a++b)=sz a+sz b:=by unfold sz;rw [List.map_append,List.sum_append]
theorem b2p {l:Nat}:∀ c:Code,sz (ahd l c)=sz c+c.length
 | []=>rfl
 | u :: c=>by
  have:=b2p (l:=l) c;unfold sz ahd at *
  rw [List.map_cons,List.map_cons,List.sum_cons,List.map_cons,List.sum_cons,this,List.length_cons,List.length_cons];omega
theorem a5q:∀ (r:Code) (x:Int),KP r->(∀ u∈r,∃ y w,u=y :: w/\x<=y)->∃ c r2:Code,r=c.map (λw=>x :: w)++r2/\∀ u∈r2,∃ y w,u=y :: w/\x < y
 | [],x,_,_=>⟨[],[],rfl,λu hu=>by cases hu⟩
 | u :: r,x,k,h=>by
  obtain ⟨y,w,rfl,hy⟩:=h u (.head _);have kk:=List.pairwise_cons.mp k;by_cases e:x=y
  ·subst e;obtain ⟨c,r2,e1,e2⟩:=a5q r x kk.2 λv hv=>h v (.tail _ hv);exact ⟨w :: c,r2,by rw [e1];rfl,e2⟩
  ·refine ⟨[],(y :: w) :: r,rfl,λv hv=>?_⟩;rcases List.mem_cons.mp hv with rfl | hv
   ·exact ⟨y,w,rfl,by omega⟩
   ·obtain ⟨z,w',rfl,hz⟩:=h v (.tail _ hv);have:=af_le (kk.1 _ hv);exact ⟨z,w',rfl,by omega⟩
theorem split {L l:Nat} {r:Code} (k:KP r) (i:InL L r) (f:Fr l r) (ne:r≠[]):∃ (l1:Nat) (c r2:Code),r=ahd l1 c++r2/\c≠[]/\l<=l1/\l1 < L/\KP c/\InL L c/\KP r2/\InL L r2/\Fr (l1+1) r2/\sz c < sz r/\sz r2 < sz r:=by
 cases r with
 | nil=>exact absurd rfl ne
 | cons u r =>
  obtain ⟨x,w,rfl,hx⟩:=f u (.head _);obtain ⟨x0,x1⟩:=i _ (.head _) x (.head _);obtain ⟨l1,rfl⟩:∃ l1:Nat,x=l1:=⟨x.toNat,by omega⟩
  have kk:=List.pairwise_cons.mp k;obtain ⟨c,r2,e1,e2⟩:=a5q r (l1:Int) kk.2 λv hv=>by
   obtain ⟨z,w',rfl,hz⟩:=f v (.tail _ hv);exact ⟨z,w',rfl,af_le (kk.1 _ hv)⟩
  have e:(((l1:Int) :: w) :: r:Code)=ahd l1 (w :: c)++r2:=by rw [e1];rfl
  rw [e] at k i ⊢;have k':=List.pairwise_append.mp k;have s:=sz_app (ahd l1 (w :: c)) r2;have s2:=b2p (l:=l1) (w :: c);refine ⟨l1,w :: c,r2,rfl,by simp,by omega,by omega,b2o.mp k'.1,λu hu y hy=>i ((l1:Int) :: u) (List.mem_append_left _ (List.mem_map_of_mem hu)) y (.tail _ hy),k'.2.1,λu hu=>i u (List.mem_append_right _ hu),λv hv=>?_,?_,?_⟩
  ·obtain ⟨y,w',rfl,hy⟩:=e2 v hv;exact ⟨y,w',rfl,by omega⟩
  ·rw [s,s2,List.length_cons];omega
  ·rw [s,s2,List.length_cons];omega
def Bst (S:List Code) (f:Code->Int) (c:Code):Prop:=c∈S\/∃ c'∈S,f c' < f c
theorem a3T {L many low most l1 a:Nat} {C:Nat->List Code} {R:Nat->Nat->List Code} {c r:Code} (h1:low<=l1) (h2:l1 < L) (ha:1<=a) (hm:a<=most) (hc:c∈C a) (hr:r∈bhd R many (l1,a - 1)):ahd l1 c++r∈rw' L C R many low most:=by
 unfold rw';refine List.mem_flatMap.mpr ⟨(l1,a - 1),a0v.mpr ⟨h1,h2,by show a - 1 < most;omega⟩,List.mem_flatMap.mpr ⟨c,?_,List.mem_map.mpr ⟨r,hr,rfl⟩⟩⟩;show c∈C (a - 1+1);rw [show a - 1+1=a by omega];exact hc
theorem join {ps ws:List Int} {many low most l1 i:Nat} {c r:Code} (h1:low<=l1) (h2:l1 < ps.length) (ha:1<=c.length) (hm:c.length<=most) (hc:Bst (Cs ps.length c.length) (co ps ws i) c) (hr:Bst (bhd (Rs ps.length) many (l1,c.length - 1)) (co ps ws (i+c.length)) r):Bst (rw' ps.length (Cs ps.length) (Rs ps.length) many low most) (co ps ws i) (ahd l1 c++r):=by
 have ap:=λ(c' r':Code) (e:c'.length=c.length)=>(show co ps ws i (ahd l1 c'++r')=pl ps l1 * Wt ws i (i+c.length)+co ps ws i c'+co ps ws (i+c.length) r' from by rw [<-e];exact a3R c' i)
 rcases hc with hc | ⟨c',hc,lc⟩
 ·rcases hr with hr | ⟨r',hr,lr⟩
  ·exact .inl (a3T h1 h2 ha hm hc hr)
  ·refine .inr ⟨_,a3T h1 h2 ha hm hc hr,?_⟩;rw [ap c r' rfl,ap c r rfl];omega
 ·have e:=(a5n ha c' hc).ln;rcases hr with hr | ⟨r',hr,lr⟩
  ·refine .inr ⟨_,a3T h1 h2 ha hm hc hr,?_⟩;rw [ap c' r e,ap c r rfl];omega
  ·refine .inr ⟨_,a3T h1 h2 ha hm hc hr,?_⟩;rw [ap c' r' e,ap c r rfl];omega
theorem fr_of {c:Code} (k:KP c) {L:Nat} (i:InL L c) (h:2<=c.length):Fr 0 c:=by
 intro u hu;cases u with
 | cons x w =>
  exact ⟨x,w,rfl,by have:=(i _ hu x (.head _)).1;omega⟩
 | nil =>
  exfalso;obtain ⟨j,hj,e⟩:=List.mem_iff_getElem.mp hu;have kk:=List.pairwise_iff_getElem.mp k;by_cases z:j=0
  ·subst z;have:=(kk 0 1 hj (by omega) (by omega)).2;rw [e] at this;exact this rfl
  ·have:=(kk 0 j (by omega) hj (by omega)).1;rw [e] at this;cases h0:c[0]'(by omega) with
   | nil=>rw [h0] at this;cases this
   | cons x w=>rw [h0] at this;cases this
theorem best {ps ws:List Int} (bp:Po ps) (bw:Po ws):∀ (d:Nat) (r:Code) (i:Nat),sz r<=d->r≠[]->i+r.length<=ws.length->KP r->InL ps.length r ->
  (∀ l,Fr l r->Bst (Rs ps.length r.length l) (co ps ws i) r)/\Bst (Cs ps.length r.length) (co ps ws i) r
 | 0,r,i,hd,ne,hi,k,il=>by
  cases r with
  | nil=>exact absurd rfl ne
  | cons u r=>unfold sz at hd;rw [List.map_cons,List.sum_cons] at hd;omega
 | d+1,r,i,hd,ne,hi,k,il=>by
  have ih:=best bp bw d;have beh:∀ (l1:Nat) (c r2:Code),r=ahd l1 c++r2->c≠[]->KP r2->InL ps.length r2->Fr (l1+1) r2->sz r2 < sz r->Bst (bhd (Rs ps.length) r.length (l1,c.length - 1)) (co ps ws (i+c.length)) r2:=by
   intro l1 c r2 e nc k2 i2 f2 s2;have lc:1<=c.length:=by cases c with | nil=>exact absurd rfl nc | cons=>rw [List.length_cons];omega
   have lr:r.length=c.length+r2.length:=by rw [e,List.length_append];unfold ahd;rw [List.length_map]
   unfold bhd;show Bst (if c.length - 1+1 < r.length then Rs ps.length (r.length - (c.length - 1+1)) (l1+1) else [[]]) _ r2;rw [show c.length - 1+1=c.length by omega];by_cases z:r2=[]
   ·subst z;rw [List.length_nil] at lr;rw [if_neg (by omega)];exact .inl (.head _)
   ·have:1<=r2.length:=by cases r2 with | nil=>exact absurd rfl z | cons=>rw [List.length_cons];omega
    rw [if_pos (by omega),show r.length - c.length=r2.length by omega];exact (ih r2 (i+c.length) (by omega) z (by omega) k2 i2).1 (l1+1) f2
  refine ⟨λl f=>?_,?_⟩
  ·obtain ⟨l1,c,r2,e,nc,h1,h2,kc,ic,k2,i2,f2,s1,s2⟩:=split k il f ne;have lc:1<=c.length:=by cases c with | nil=>exact absurd rfl nc | cons=>rw [List.length_cons];omega
   have lr:r.length=c.length+r2.length:=by rw [e,List.length_append];unfold ahd;rw [List.length_map]
   have b:=beh l1 c r2 e nc k2 i2 f2 s2;rw [a5m (by omega) (by omega)];have:=join (ps:=ps) (ws:=ws) (many:=r.length) (low:=l) (most:=r.length) (i:=i) h1 h2 lc (by omega) (ih c i (by omega) nc (by omega) kc ic).2 b;rw [<-e] at this;exact this
  ·by_cases l2:2<=r.length
   ·obtain ⟨l1,c,r2,e,nc,h1,h2,kc,ic,k2,i2,f2,s1,s2⟩:=split k il (fr_of k il l2) ne;have lc:1<=c.length:=by cases c with | nil=>exact absurd rfl nc | cons=>rw [List.length_cons];omega
    have lr:r.length=c.length+r2.length:=by rw [e,List.length_append];unfold ahd;rw [List.length_map]
    by_cases z:r2=[]
    ·subst z;rw [List.length_nil] at lr;have b:=(ih c i (by omega) nc (by omega) kc ic).2;have hc:co ps ws i r=pl ps l1 * Wt ws i (i+c.length)+co ps ws i c+co ps ws (i+c.length) []:=by rw [e];exact a3R c i
     rw [a5o] at hc;have p1:=a8T bp h2;have p2:=a8S (ws:=ws) (i:=i) (j:=i+c.length) bw (by omega) (by omega);have p3:0 < pl ps l1 * Wt ws i (i+c.length):=Int.mul_pos (by omega) (by omega);rw [show r.length=c.length by omega];rcases b with b | ⟨c',b,lb⟩
     ·exact .inr ⟨c,b,by omega⟩
     ·exact .inr ⟨c',b,by omega⟩
    ·have:1<=r2.length:=by cases r2 with | nil=>exact absurd rfl z | cons=>rw [List.length_cons];omega
     have b:=beh l1 c r2 e nc k2 i2 f2 s2;rw [a5l (by omega)];have:=join (ps:=ps) (ws:=ws) (many:=r.length) (low:=0) (most:=r.length - 1) (i:=i) h1 h2 lc (by omega) (ih c i (by omega) nc (by omega) kc ic).2 b;rw [<-e] at this;exact this
   ·cases r with
    | nil=>exact absurd rfl ne
    | cons u r =>
     have er:r=[]:=by
      cases r with
      | nil=>rfl
      | cons=>exfalso;apply l2;simp
     subst er;rw [show ([u]:Code).length=1 from rfl,a1R];cases u with
     | nil=>exact .inl (.head _)
     | cons x u =>
      obtain ⟨x0,x1⟩:=il _ (.head _) x (.head _);obtain ⟨l1,rfl⟩:∃ l1:Nat,x=l1:=⟨x.toNat,by omega⟩
      have hc:co ps ws i [(l1:Int) :: u]=pl ps l1 * Wt ws i (i+1)+co ps ws i [u]+co ps ws (i+1) []:=a3R (l:=l1) (r:=[]) [u] i;rw [a5o] at hc;have hi:i+1<=ws.length:=hi;have p1:=a8T (l:=l1) bp (by omega);have p2:=a8S (ws:=ws) (i:=i) (j:=i+1) bw (by omega) (by omega);have p3:0 < pl ps l1 * Wt ws i (i+1):=Int.mul_pos (by omega) (by omega);have b:=(ih [u] i (by unfold sz at *;simp at hd ⊢;omega) (by simp) hi (List.pairwise_singleton _ _) (λv hv y hy=>by
       rcases List.mem_cons.mp hv with rfl | hv
       ·exact il _ (.head _) y (.tail _ hy)
       ·cases hv)).2
      rw [show ([u]:Code).length=1 from rfl,a1R] at b;rcases b with b | ⟨c',b,lb⟩
      ·have:([u]:Code)=[[]]:=by simpa using b
       exact .inr ⟨[[]],.head _,by rw [<-this];omega⟩
      ·exact .inr ⟨c',b,by omega⟩
theorem rw_kp {L many low most:Nat} {C:Nat->List Code} {R:Nat->Nat->List Code} (hC:∀ k,1<=k->k<=most->∀ c∈C k,KP c) (hR:∀ k l,1<=k->k < many->∀ r∈R k l,KP r/\Fr l r):∀ c∈rw' L C R many low most,KP c/\Fr low c:=by
 intro c hc;unfold rw' at hc;obtain ⟨q,hq,hc⟩:=List.mem_flatMap.mp hc;obtain ⟨c1,hc1,hc⟩:=List.mem_flatMap.mp hc;obtain ⟨r,hr,rfl⟩:=List.mem_map.mp hc;obtain ⟨q1,q2,q3⟩:=a0v.mp hq;have k1:=hC (q.2+1) (by omega) (by omega) c1 hc1;have k2:KP r/\Fr (q.1+1) r:=by
  unfold bhd at hr;split at hr
  ·exact hR _ _ (by omega) (by omega) r hr
  ·have:r=[]:=by simpa using hr
   subst this;exact ⟨List.Pairwise.nil,λu hu=>by cases hu⟩
 refine ⟨List.pairwise_append.mpr ⟨b2o.mpr k1,k2.1,λu hu v hv=>?_⟩,λu hu=>?_⟩
 ·obtain ⟨u',_,rfl⟩:=List.mem_map.mp hu;obtain ⟨y,w,rfl,hy⟩:=k2.2 v hv;exact af_lt (by omega)
 ·rcases List.mem_append.mp hu with hu | hu
  ·obtain ⟨u',_,rfl⟩:=List.mem_map.mp hu;exact ⟨_,_,rfl,by omega⟩
  ·obtain ⟨y,w,rfl,hy⟩:=k2.2 u hu;exact ⟨_,_,rfl,by omega⟩
theorem a9l {L:Nat}:∀ d m,m<=d->1<=m->(∀ c∈Cs L m,KP c)/\∀ l,∀ r∈Rs L m l,KP r/\Fr l r
 | 0,m,h,h1=>by omega
 | d+1,m,h,h1=>by
  have ih:=a9l (L:=L) d;have hc:∀ c∈Cs L m,KP c:=by
   by_cases e:m=1
   ·subst e;intro c hc;rw [a1R] at hc;have:c=[[]]:=by simpa using hc
    subst this;exact List.pairwise_singleton _ _
   ·rw [a5l (by omega)];intro c hc;exact (rw_kp (λk a b=>(ih k (by omega) a).1) (λk l a b=>(ih k (by omega) a).2 l) c hc).1
  refine ⟨hc,λl r hr=>?_⟩;by_cases hl:l < L
  ·rw [a5m h1 hl] at hr;refine rw_kp (λk a b=>?_) (λk l a b=>(ih k (by omega) a).2 l) r hr;by_cases e:k=m
   ·subst e;exact hc
   ·exact (ih k (by omega) a).1
  ·rw [a3P hl] at hr;cases hr
theorem Cs_kp {L m:Nat} (h:1<=m):∀ c∈Cs L m,KP c:=(a9l m m (Nat.le_refl _) h).1
theorem b3Q {L m l:Nat} (h:1<=m):∀ c∈Rs L m l,KP c/\Fr l c:=(a9l m m (Nat.le_refl _) h).2 l
end CT
end K56
set_option exponentiation.threshold 2000
namespace K56
open PySem L2
namespace Kp
theorem hu0 {A:Around} {k:Nat} (hr:a1L k A):A.units < cLine:=by have:=hr.units;omega
abbrev b4C (F:Nat->Nat->OI) (n i:Nat):List OI:=(List.range (n - i)).map λb=>F i (i+b+1)
theorem b2q {X:Cx} (K:PySem.W.Frag) (hu:X.A.units < cLine) (h:X.K=K:=by rfl):OpR X (compareOp .Lt) (rLtT K):=by subst h;exact op_ltT hu
section
variable {P':Program} {w:World} {K:PySem.W.Frag} {mg:Str->Option Value} {base:Heap} {f:Addr} {fd:FuncData}
def a6T:Sp:=λvs H Q _=>∃ (a b:Addr) (u v':List Int),vs=[.ref a,.ref b]/\TW H a u/\TW H b v'/\∀ H',a0p H H'->Q (.bl (decide (v'.take u.length=u))) H'
theorem b1g:a0k ["one","other"] ["one","other"] (a0g a5S):=fsk
theorem a9m (F:Fun K "begins" "begins" a5S f fd) (ml:mg "len"=none):a0M P' w K mg base CX0 1 f fd ["one","other"] a6T:=by
 refine F.ok (k:=0) b1g (λvs H Q E h=>?_) (λcdv A outer s H vs Q E hr h=>?_)
 ·obtain ⟨a,b,u,v',rfl,_⟩:=h;rfl
 obtain ⟨a,b,u,v',rfl,ha,hb,q⟩:=h;refine ⟨_,a0h (a0o (a2t (a8h (hu4 hr)) (a4e a5I (pv 1) a5D (a5E (pln ml (pv 0)))) (pv 0) (nomark _))),?_⟩;refine ⟨_,rfl,_,rfl,a,_,rfl,.inr (SqT.of ha),_,rfl,b,_,rfl,hb,λp1 H1 s1 h1=>?_⟩;rw [List.length_map,cut_to,<-List.map_take] at h1;exact ⟨_,rfl,_,_,a2X h1,a2X (s1 _ _ ha),q _ s1⟩
def Apt (c:CT.Code):Prop:=∀ (i j:Nat) u v',i < j->c[i]?=some u->c[j]?=some v'->v'.take u.length≠u/\u.take v'.length≠v'
abbrev NCc:List Str:=["code","one","other"]
def a9n:Sp:=λvs H Q _=>∃ (a:Addr) (xs:List V) (c:CT.Code),vs=[.ref a]/\H a=some (.tup xs)/\Ws H xs c/\c.length<=100/\∀ H' y,a0p H H'->(Apt c->y=.non)->(¬ Apt c->∃ t,y=.ref t)->Q y H'
theorem a5Z:a0k NCc ["code"] (a0g a8D):=fsk
theorem b1h (F:Fun K "clash" "clash" a8D f fd) (GB:Fns P' w K mg base ["one","other"] "begins" a6T 1) (ml:mg "len"=none) (mr:mg "range"=none):a0M P' w K mg base CX0 2 f fd ["code"] a9n:=by
 refine F.ok (k:=1) a5Z (λvs H Q E h=>?_) (λcdv A outer s H vs Q E hr h=>?_)
 ·obtain ⟨a,xs,c,rfl,_⟩:=h;rfl
 obtain ⟨a,xs,c,rfl,ha,hx,lc,q⟩:=h;have lx:xs.length=c.length:=hx.length;refine ⟨_,a0c (a1n PassesOwn.never rfl (a2h (by rfl) mr (a0a (pln ml (pv 0)) (a0d))) (pgA (i:=1) a5Z) (a0h (a1n PassesOwn.never rfl (a1v (by rfl) mr (a0a (a0l a0t (pv 1) (a0e)) (a0a (pln ml (pv 0)) (a0d)))) (pgA (i:=2) a5Z) (a0h (a0W (PW.pt (a4L (a2c (pcF GB hr (a0a (pxA a0y (pv 0) (pv 1)) (a0a (pxA a0y (pv 0) (pv 2)) (a0d))))) (a2P (a2c (pcF GB hr (a0a (pxA a0y (pv 0) (pv 2)) (a0a (pxA a0y (pv 0) (pv 1)) (a0d)))))))) (a0h (a0o (a1p (a0a (pv 1) (a0a (pv 2) a0d))))) (a0u))))))
   (a0h (a0o (a2A))),?_⟩
 refine ⟨_,rfl,a,_,rfl,.inr (SqT.of ha),_,rfl,by omega,by omega,?_⟩;rw [Int.toNat_natCast];refine a1j (λi σ H'=>a0p H H'/\(∀ (i' j':Nat) u v',i' < i->i' < j'->c[i']?=some u->c[j']?=some v'->v'.take u.length≠u/\u.take v'.length≠v')/\∃ x1 x2:Option V,σ=[some (.ref a),x1,x2]) ⟨a0p.refl _,λi' j' u v' h=>absurd h (Nat.not_lt_zero _),_,_,rfl⟩ (λi σ H1 hi hP=>?_) (λσ H1 hP=>?_)
 rotate_left
 ·obtain ⟨s1,al,x1,x2,rfl⟩:=hP;exact q _ _ s1 (λ_=>rfl) λz=>absurd (λi j u v' hij hu hv=>al i j u v' (by have:=(List.getElem?_eq_some_iff.mp hu).1;omega) hij hu hv) z
 obtain ⟨s1,al,x1,x2,rfl⟩:=hP;rw [show (0:Int)+(i:Int)=(i:Int) from Int.zero_add _];refine ⟨_,rfl,_,_,rfl,rfl,_,rfl,a,_,rfl,.inr (SqT.of (s1 _ _ ha)),_,_,rfl,⟨by omega,by omega,by omega,by omega⟩,?_⟩;refine a1j (λk σ H'=>a0p H H'/\(∀ (j':Nat) u v',i < j'->j' < i+1+k->c[i]?=some u->c[j']?=some v'->v'.take u.length≠u/\u.take v'.length≠v')/\∃ x2:Option V,σ=[some (.ref a),some (.int (i:Int)),x2]) ⟨s1,λj' u v' h1 h2=>by omega,_,rfl⟩ (λk σ H2 hk hP=>?_) (λσ H2 hP=>?_)
 rotate_left
 ·obtain ⟨s2,al2,x2,rfl⟩:=hP;refine ⟨s2,λi' j' u v' h1 h2 hu hv=>?_,_,_,rfl⟩;by_cases z:i'=i
  ·subst z;exact al2 j' u v' h2 (by have:=(List.getElem?_eq_some_iff.mp hv).1;omega) hu hv
  ·exact al i' j' u v' (by omega) h2 hu hv
 obtain ⟨s2,al2,x2,rfl⟩:=hP;obtain ⟨j,ej⟩:∃ j,j=i+1+k:=⟨_,rfl⟩
 have ek:(i:Int)+1+(k:Int)=(j:Int):=by omega
 rw [ek];have hj:j < xs.length:=by omega
 have hi':i < xs.length:=by omega
 have xi:xs[i]?=some xs[i]:=List.getElem?_eq_getElem hi';have xj:xs[j]?=some xs[j]:=List.getElem?_eq_getElem hj;obtain ⟨u,hu,ru⟩:=Paired.right_of hx i _ xi;obtain ⟨v',hv,rv⟩:=Paired.right_of hx j _ xj;obtain ⟨ua,eu,hua⟩:=Wd.ti ru;obtain ⟨va,ev,hva⟩:=Wd.ti rv;rw [eu] at xi;rw [ev] at xj;have ha2:=s2 _ _ ha;refine ⟨_,rfl,_,rfl,a,_,_,_,rfl,rfl,SqT.of ha2,a0S xi,_,rfl,_,rfl,a,_,_,_,rfl,rfl,SqT.of ha2,a0S xj,ua,va,u,v',rfl,s2 _ _ hua,s2 _ _ hva,λH3 s3=>?_⟩;have no:∀ H5,a0p H H5->(v'.take u.length=u\/u.take v'.length=v')->2<=sizeLine/\∀ t,H5 t=none->Q (.ref t) (upd H5 t (.tup [.int (i:Int),.int (j:Int)])):=λH5 s5 bad=>⟨by decide,λt ht=>q _ _ (s5.trans (a0f ht _)) (λz=>by
  obtain ⟨z1,z2⟩:=z i j u v' (by omega) hu hv;rcases bad with w | w
  ·exact absurd w z1
  ·exact absurd w z2) λ_=>⟨t,rfl⟩⟩
 refine ⟨_,rfl,?_⟩;refine a2b (λy=>?_) (λy=>?_)
 ·exact a6r ⟨_,rfl,_,rfl,no H3 (s2.trans s3) (.inl (of_decide_eq_true y))⟩
 have p1:v'.take u.length≠u:=λz=>y (decide_eq_true z);have ha3:=s3 _ _ ha2;have s23:=s2.trans s3;refine ⟨_,rfl,_,rfl,a,_,_,_,rfl,rfl,SqT.of ha3,a0S xj,_,rfl,_,rfl,a,_,_,_,rfl,rfl,SqT.of ha3,a0S xi,va,ua,v',u,rfl,s23 _ _ hva,s23 _ _ hua,λH4 s4=>?_⟩;refine ⟨_,rfl,?_⟩;refine a2b (λy=>?_) (λy=>?_)
 ·exact ⟨_,rfl,_,rfl,no H4 (s23.trans s4) (.inr (of_decide_eq_true y))⟩
 have p2:u.take v'.length≠v':=λz=>y (decide_eq_true z);refine ⟨s23.trans s4,λj' u' v2 h1 h2 hu' hv'=>?_,_,rfl⟩;by_cases z:j'=j
 ·subst z;rw [hu] at hu';rw [hv] at hv';cases hu';cases hv';exact ⟨p1,p2⟩
 ·exact al2 j' u' v2 h1 (by omega) hu' hv'
def b4D (ws:List (List Int)):List Bool:=(List.range (ws.length - 1)).map λi=>HT.a1d (ws.getD i []) (ws.getD (i+1) [])
def rises (ws:List (List Int)):Bool:=(b4D ws).all id
def a9o:Sp:=λvs H Q _=>∃ c xs ws,vs=[.ref c]/\H c=some (.tup xs)/\Ws H xs ws/\ws.length<=100/\∀ H',a0p H H'->Q (.bl (rises ws)) H'
theorem b3R:a0k ["code"] ["code"] (a0g a6F):=fsk
theorem ndT:(("thing":Str) :: ["code"]).Nodup:=by decide +kernel
theorem b1i (F:Fun K "rises" "rises" a6F f fd) (ml:mg "len"=none) (mr:mg "range"=none) (ma:mg "all"=none):a0M P' w K mg base CX0 1 f fd ["code"] a9o:=by
 refine F.ok (k:=0) b3R (λvs H Q E h=>?_) (λcdv A outer s H vs Q E hr h=>?_)
 ·obtain ⟨c,xs,ws,rfl,_⟩:=h;rfl
 obtain ⟨c,xs,ws,rfl,hc,hw,l1,q⟩:=h;have lx:xs.length=ws.length:=hw.length;refine ⟨_,a0h (a0o (a0G (a6s rfl) (by rfl) ma b_all (a0a (a1s (M:=["code"]) rfl (cso (a0g a6F) ["code"]) ndT rfl (by rfl) mr
  (a0a (a0l a1k (pln ml (pv 0)) a0e) a0d) (a0U (a5M a2Z (a8l (a0U a0O a1y)) b3g) a1y)
  (λcl C s0 H0 fp=>⟨a0L,a2t (b2q K (hu0 hr)) (pxA (ixT K) (pv 1) (pv 0)) (pxA (ixT K) (pv 1) (a0l a0t (pv 0) a0e)) (nomark _)⟩)) a0d))),?_⟩
 refine ⟨_,rfl,c,_,rfl,.inr (SqT.of hc),_,_,rfl,rfl,_,rfl,by omega,by omega,λd hd=>?_⟩;have en:((xs.length:Int) - 1).toNat=ws.length - 1:=by omega
 dsimp only;rw [en];refine ⟨λi H'=>a0p H H'/\H' d=some (.lst (((b4D ws).take i).map V.bl)),⟨a0f hd _,a0b⟩,λi H' hi hP=>?_,λH' hP=>?_⟩
 ·obtain ⟨sm,hd'⟩:=hP;have e0:(0:Int)+(i:Int)=((i:Nat):Int):=by omega
  have e1:((i:Nat):Int)+1=((i+1:Nat):Int):=by omega
  have u1:ws[i]?=some ws[i]:=List.getElem?_eq_getElem (by omega);have u2:ws[i+1]?=some ws[i+1]:=List.getElem?_eq_getElem (by omega);obtain ⟨y1,hy1,r1⟩:=L2.Paired.left_of hw _ _ u1;obtain ⟨y2,hy2,r2⟩:=L2.Paired.left_of hw _ _ u2;obtain ⟨a1,rfl,t1⟩:=Wd.ti r1;obtain ⟨a2,rfl,t2⟩:=Wd.ti r2;rw [e0];refine a0E ⟨_,rfl,_,rfl,c,_,_,_,rfl,rfl,SqT.of (sm _ _ hc),a1P hy1,_,rfl,_,rfl,_,_,rfl,rfl,c,_,_,_,rfl,rfl,SqT.of (sm _ _ hc),(by rw [e1];exact a1P hy2),a1,a2,_,_,rfl,rfl,SqT.of (sm _ _ t1),SqT.of (sm _ _ t2),_,hd',?_,a0n hd sm,?_⟩
  ·rw [List.length_map,List.length_take];exact a0m (by omega)
  ·have ri:(b4D ws)[i]?=some (HT.a1d ws[i] ws[i+1]):=by
    unfold b4D;rw [List.getElem?_map,List.getElem?_range hi];simp [List.getD_eq_getElem?_getD,u1,u2]
   rw [a0b,List.take_add_one,ri,List.map_append];rfl
 ·obtain ⟨sm,hd'⟩:=hP;rw [List.take_of_length_le (by unfold b4D;simp)] at hd';exact ⟨d,_,rfl,hd',q H' sm⟩
end
theorem a6U:∀ u v w:List Int,HT.a1d u v=true->HT.a1d v w=true->HT.a1d u w=true
 | [],[],w,h,_=>by cases h
 | [],_ :: _,[],_,h=>by cases h
 | [],_ :: _,_ :: _,_,_=>rfl
 | _ :: _,[],w,h,_=>by cases h
 | _ :: _,_ :: _,[],_,h=>by cases h
 | x :: u,y :: v,z :: w,h1,h2=>by
  rw [HT.a0J] at h1 h2 ⊢;by_cases e1:x=y
  ·subst e1;rw [if_pos rfl] at h1;by_cases e2:x=z
   ·subst e2;rw [if_pos rfl] at h2 ⊢;exact a6U u v w h1 h2
   ·rw [if_neg e2] at h2 ⊢;exact h2
  ·rw [if_neg e1] at h1;have l1:=of_decide_eq_true h1;by_cases e2:y=z
   ·subst e2;rw [if_neg e1];exact h1
   ·rw [if_neg e2] at h2;have l2:=of_decide_eq_true h2;rw [if_neg (by omega)];exact decide_eq_true (by omega)
theorem a5r:∀ u w:List Int,u.take w.length=w->HT.a1d u w=false
 | [],[],_=>rfl
 | [],_ :: _,h=>by cases h
 | _ :: _,[],_=>rfl
 | x :: u,y :: w,h=>by
  rw [List.length_cons,List.take_succ_cons] at h;injection h with h1 h2;rw [HT.a0J,if_pos h1];exact a5r u w h2
theorem a5s:∀ u v w:List Int,HT.a1d u v=true->HT.a1d v w=true->w.take u.length=u->v.take u.length=u
 | [],v,w,_,_,_=>by rw [List.length_nil,List.take_zero]
 | _ :: _,[],w,h,_,_=>by cases h
 | _ :: _,_ :: _,[],_,h,_=>by cases h
 | x :: u,y :: v,z :: w,h1,h2,h=>by
  rw [List.length_cons,List.take_succ_cons] at h;injection h with e h;subst e;rw [HT.a0J] at h1 h2;by_cases e1:z=y
  ·subst e1;rw [if_pos rfl] at h1 h2;rw [List.length_cons,List.take_succ_cons,a5s u v w h1 h2 h]
  ·rw [if_neg e1] at h1;rw [if_neg (Ne.symm e1)] at h2;have:=of_decide_eq_true h1;have:=of_decide_eq_true h2;omega
def Kadj (c:CT.Code):Prop:=∀ (k:Nat) u v',c[k]?=some u->c[k+1]?=some v'->HT.a1d u v'=true/\v'.take u.length≠u
theorem a5t {c:CT.Code}:rises c=true↔∀ (k:Nat) u v',c[k]?=some u->c[k+1]?=some v'->HT.a1d u v'=true:=by
 unfold rises b4D;rw [List.all_eq_true];constructor
 ·intro h k u v' hu hv;have l:=(List.getElem?_eq_some_iff.mp hv).1;have:=h _ (List.mem_map.mpr ⟨k,List.mem_range.mpr (by omega),rfl⟩);rw [List.getD_eq_getElem?_getD,List.getD_eq_getElem?_getD,hu,hv] at this;exact this
 ·intro h b hb;obtain ⟨k,hk,rfl⟩:=List.mem_map.mp hb;have hk:=List.mem_range.mp hk;have h1:c[k]?=some (c[k]'(by omega)):=List.getElem?_eq_getElem _;have h2:c[k+1]?=some (c[k+1]'(by omega)):=List.getElem?_eq_getElem _;show HT.a1d (c.getD k []) (c.getD (k+1) [])=true;rw [List.getD_eq_getElem?_getD,List.getD_eq_getElem?_getD,h1,h2];exact h k _ _ h1 h2
theorem a9p {c:CT.Code} (h:Kadj c):∀ (d i:Nat) u v',c[i]?=some u->c[i+d+1]?=some v'->HT.a1d u v'=true/\v'.take u.length≠u
 | 0,i,u,v',hu,hv=>h i u v' hu hv
 | d+1,i,u,v',hu,hv=>by
  have l:=(List.getElem?_eq_some_iff.mp hv).1;have hm:c[i+d+1]?=some (c[i+d+1]'(by omega)):=List.getElem?_eq_getElem _;obtain ⟨a1,a2⟩:=a9p h d i u _ hu hm;obtain ⟨b1,b2⟩:=h (i+d+1) _ v' hm hv;exact ⟨a6U _ _ _ a1 b1,λz=>a2 (a5s _ _ _ a1 b1 z)⟩
theorem a4u {c:CT.Code}:Kadj c↔rises c=true/\Apt c:=by
 constructor
 ·intro h;refine ⟨a5t.mpr λk u v' hu hv=>(h k u v' hu hv).1,λi j u v' hij hu hv=>?_⟩;obtain ⟨h1,h2⟩:=a9p h (j - i - 1) i u v' hu (by rw [show i+(j - i - 1)+1=j by omega];exact hv);refine ⟨h2,λz=>?_⟩;rw [a5r u v' z] at h1;cases h1
 ·rintro ⟨h1,h2⟩ k u v' hu hv;exact ⟨a5t.mp h1 k u v' hu hv,(h2 k (k+1) u v' (by omega) hu hv).1⟩
theorem last_O {F:Nat->Nat->OI} {n:Nat} (hn:1<=n):atI ((b4C F n 0).map oV) (-1)=some (oV (F 0 n)):=by
 have hr0:b4C F n 0=(List.range (n - 1)).map (λb=>F 0 (0+b+1))++[F 0 n]:=by
  show (List.range (n - 0)).map _=_;rw [show n - 0=(n - 1)+1 by omega,List.range_succ,List.map_append];show _++[F 0 (0+(n - 1)+1)]=_;rw [show 0+(n - 1)+1=n by omega]
 rw [hr0,List.map_append];exact a1V _ _
section
variable {P':Program} {w:World} {K:PySem.W.Frag} {mg:Str->Option Value} {base:Heap} {f:Addr} {fd:FuncData}
def b2r:Sp:=λvs H Q _=>∃ (a:Addr) (xs:List V) (c:CT.Code),vs=[.ref a]/\H a=some (.tup xs)/\Ws H xs c/\c.length<=100/\∀ H' b,a0p H H'->(b=true↔Kadj c)->Q (.bl b) H'
theorem scKept:a0k ["code"] ["code"] (a0g a5T):=fsk
theorem b3S (F:Fun K "is_kept" "is_kept" a5T f fd) (GI:Fns P' w K mg base ["code"] "rises" a9o 2) (GC:Fns P' w K mg base ["code"] "clash" a9n 2):a0M P' w K mg base CX0 3 f fd ["code"] b2r:=by
 refine F.ok (k:=2) scKept (λvs H Q E h=>?_) (λcdv A outer s H vs Q E hr h=>?_)
 ·obtain ⟨c,xs,ws,rfl,_⟩:=h;rfl
 obtain ⟨c,xs,ws,rfl,hc,hw,l1,q⟩:=h;refine ⟨_,a0h (a0o (a3B (pcF GI hr (a0a (pv 0) a0d)) (a3A (pe_cmp (a7G (pcF GC hr (a0a (pv 0) a0d))))))),?_⟩;refine ⟨_,rfl,c,xs,ws,rfl,hc,hw,l1,λH1 s1=>⟨_,rfl,?_⟩⟩;refine a2b (λy=>?_) (λy=>?_)
 ·refine ⟨_,rfl,c,xs,ws,rfl,s1 _ _ hc,Ws.same s1 hw,l1,λH2 v s2 h1 h2=>?_⟩;by_cases ap:Apt ws
  ·rw [h1 ap];exact q H2 true (s1.trans s2) ⟨λ_=>a4u.mpr ⟨y,ap⟩,λ_=>rfl⟩
  ·obtain ⟨t,rfl⟩:=h2 ap;exact q H2 false (s1.trans s2) ⟨(λz=>by cases z),λz=>absurd (a4u.mp z).2 ap⟩
 ·refine q H1 _ s1 ⟨(λz=>by first | cases z | exact absurd z y),λz=>absurd (a4u.mp z).1 y⟩
end
end Kp
end K56
set_option exponentiation.threshold 2000
namespace K56
open PySem L2
theorem a9q {L m:Nat} (h:CT.inL L m):2<=L/\L<=6/\m<=24:=h
def chp (ps ws:List Int):List CT.Code:=(CT.Cs ps.length ws.length).filter λc=>decide (some (CT.co ps ws 0 c)=CT.mi ((CT.Cs ps.length ws.length).map (CT.co ps ws 0)))
theorem a9r {C D:Addr} {H:Hp} {r:Addr} {ps ws:List Int} {h t:Nat->Nat->Nat->OI} {F:Nat->Nat->OI} {c:Nat->Nat->Nat} {u:Nat->Nat->Nat->Nat} (a:Cts C D H r ps ws h t F c u) (n1:1<=ws.length):chp ps ws=Chh ps ws F 0 ws.length:=by
 have key:=(CT.counted a.T a.N CT.en ws.length ws.length 0 (Nat.le_refl _) n1 (by omega)).1.1;rw [Nat.zero_add] at key;unfold chp Chh CT.CH;rw [key];rfl
structure In2 (H:Hp) (p q:Addr) (ps ws:List Int):Prop where
 hp:TW H p ps
 hq:TW H q ws
 nu:Num ps ws
 pp:Po ps
 pw:Po ws
 il:CT.inL ps.length ws.length
theorem In2.same {H H':Hp} {p q:Addr} {ps ws:List Int} (s:a0p H H') (a:In2 H p q ps ws):In2 H' p q ps ws:=⟨s _ _ a.hp,s _ _ a.hq,a.nu,a.pp,a.pw,a.il⟩
section
variable {P':Program} {w:World} {K:PySem.W.Frag} {mg:Str->Option Value} {base:Heap} {f:Addr} {fd:FuncData}
def al (m x:Int):Bool:=decide (0<=x) && decide (x < m)
def alone (m:Int) (ns:List Int):Bool:=(ns.map (al m)).all id
def a9s:Sp:=λvs H Q _=>∃ (x:V) (ns:List Int) (m:Int),vs=[x,.int m]/\Wd H x ns/\ns.length<=1000/\∀ H',a0p H H'->Q (.bl (alone m ns)) H'
theorem b3T:a0k ["word","letters"] ["word","letters"] (a0g a6E):=fsk
theorem ndA:(("letter":Str) :: ["word","letters"]).Nodup:=by decide +kernel
theorem b1j (F:Fun K "has_letters_alone" "has_letters_alone" a6E f fd) (ma:mg "all"=none):a0M P' w K mg base CX0 1 f fd ["word","letters"] a9s:=by
 refine F.ok (k:=0) b3T (λvs H Q E h=>?_) (λcdv A outer s H vs Q E hr h=>?_)
 ·obtain ⟨x,ns,m,rfl,_⟩:=h;rfl
 obtain ⟨x,ns,m,rfl,hx,hl,q⟩:=h;obtain ⟨a,rfl,ha⟩:=hx.ti;refine ⟨_,a0h (a0o (a0G (a6s rfl) (by rfl) ma b_all (a0a (a1W (M:=["word","letters"]) rfl (cso (a0g a6E) ["word","letters"]) ndA rfl (pv 0) a0O
  (λcl C s0 H0 fp=>⟨a0L,b0i b2L a3s a0e (pv 0) (pv 2)⟩)) a0d))),?_⟩
 refine ⟨_,rfl,a,_,rfl,SqT.of ha,λd hd=>?_⟩;refine ⟨λk H'=>a0p H H'/\H' d=some (.lst (((ns.take k).map (al m)).map V.bl)),⟨a0f hd _,a0b⟩,λk H' _ hP=>SqT.of (hP.1 _ _ ha),λk x H' hx hP=>?_,λH' hP=>?_⟩
 ·obtain ⟨sm,hd'⟩:=hP;rw [List.getElem?_map] at hx;cases hz:ns[k]? with
  | none=>rw [hz] at hx;cases hx
  | some z =>
   rw [hz] at hx;cases hx;have hk:=(List.getElem?_eq_some_iff.mp hz).1;have fin:∀ b,b=al m z->∃ ys,H' d=some (.lst ys)/\ys.length < sizeLine/\(a0p H (upd H' d (.lst (ys++[.bl b])))/\upd H' d (.lst (ys++[.bl b])) d=some (.lst (((ns.take (k+1)).map (al m)).map V.bl))):=λb eb=>by
    refine ⟨_,hd',?_,a0n hd sm,?_⟩
    ·rw [List.length_map,List.length_map,List.length_take];exact a0m (by omega)
    ·rw [a0b,List.take_add_one,hz,List.map_append,List.map_append,eb];rfl
   refine a0E ⟨_,rfl,_,_,rfl,rfl,_,rfl,?_⟩;refine a2b (λc=>?_) (λc=>?_)
   ·refine ⟨_,rfl,_,_,rfl,rfl,?_⟩;exact fin _ (by unfold al;rw [c];rfl)
   ·exact fin _ (by unfold al;rw [Bool.eq_false_iff.mpr c];rfl)
 ·obtain ⟨sm,hd'⟩:=hP;rw [List.length_map,List.take_length] at hd';exact ⟨d,_,rfl,hd',q H' sm⟩
theorem a4v {m:Int} {ns:List Int} (h:alone m ns=true):∀ x∈ns,0<=x/\x < m:=λx hx=>by
 have q:=List.all_eq_true.mp h (al m x) (List.mem_map_of_mem hx);unfold al at q;simp only [id,Bool.and_eq_true,decide_eq_true_eq] at q;exact q
theorem a9t {m:Int} {ns:List Int}:alone m ns=true↔∀ x∈ns,0<=x/\x < m:=by
 refine ⟨a4v,λh=>?_⟩;unfold alone;rw [List.all_eq_true];intro b hb;obtain ⟨x,hx,rfl⟩:=List.mem_map.mp hb;obtain ⟨h1,h2⟩:=h x hx;unfold al;simp [h1,h2]
abbrev NNu:List Str:=["prices","weights","number","counts"]
def spNum (CB:Addr):Sp:=λvs H Q E=>∃ (p q:Addr) (ps ws:List Int) (x:Int),vs=[.ref p,.ref q,.int x]/\In2 H p q ps ws/\(∀ (k:Nat) (cde:CT.Code),x=(k:Int)->(chp ps ws)[k]?=some cde->∀ (d:Addr) xs H',a0p H H'->H' d=some (.tup xs)->Ws H' xs cde->Q (.ref d) H')/\(¬ (0<=x/\x < ((chp ps ws).length:Int))->∀ H',a0p H H'->E (.ref CB) none H')
theorem scNu:a0k NNu ["prices","weights","number"] (a0g sNum):=fsk
theorem ok_nu {C D CB:Addr} (F:Fun K "numbered" "numbered" sNum f fd) (cl:ClC P' w K mg base C D) (GW:Fns P' w K mg base NWb "words_by" (spWb C D 76) 80) (ml:mg "len"=none) (mt:mg "tuple"=none) (mB:mg "BadNumber"=some (.ref CB)) (eB:Ecl K CB):a0M P' w K mg base (CXF P' w) 81 f fd ["prices","weights","number"] (spNum CB):=by
 refine F.okF (k:=80) scNu (λvs H Q E h=>?_) (λcdv A outer s H vs Q E hr h=>?_)
 ·obtain ⟨p,q,ps,ws,x,rfl,_⟩:=h;rfl
 obtain ⟨p,q,ps,ws,x,rfl,i2,q1,q2⟩:=h;obtain ⟨hp,hq,nu,pp,pw,il⟩:=i2;obtain ⟨L2',L4,m6⟩:=a9q il;have w1:=nu.w1;have oki:=cl.oki.mono (show 6<=79 by decide);refine ⟨_,a0c (psA (i:=3) scNu (a4b cl.mkk oki hr (by rfl) cl.g cl.bi .nil a0Y (a0a (pv 0) (a0a (pv 1) a0d))))
  (a0c (a0W (a1K (a6k b2L a3s a0e (pv 2) (pxA a0j (pxA a0j (a0F (pv 3) rfl) a0e) (pln ml (pv 1))))) (a0h (a2K a1z rfl (by rfl) mB eB (a0a a6h a0d))) a0u)
  (a0h (a0o (a1x a1A (by rfl) mt a2Y (a0a (pcF GW hr (a0a (pv 3) (a0a (pv 2) (a0a a0e (a0a (pln ml (pv 1)) a0d))))) a0d))))),?_⟩
 refine ⟨_,rfl,_,rfl,λr dx rn hdx _=>?_⟩;have sm:a0p H (upd (upd H dx (.own r)) r (.ins D dx [])):=a0n rn (a0f hdx _);refine ⟨r,dx,p,q,ps,ws,rfl,a0b,sm _ _ hp,sm _ _ hq,nu,pp,pw,L4,m6,λH1 pr X h t Fl Y Tc Tt c u k1 pa ca T ctd=>⟨rfl,?_⟩⟩;have s1:a0p H H1:=λa o e=>k1 a o (λz=>by rw [z,rn] at e;cases e) (sm a o e);have ct:Cts C D H1 r ps ws h t Fl c u:=⟨⟨pr,p,X,Y,Tc,Tt,pa,ca,ctd⟩,T,ctd.cn,il⟩
 obtain ⟨dx1,ho⟩:=ca.ob;have ech:=a9r ct w1;have lch:=ct.lch (i:=0) (j:=ws.length) (by omega) (Nat.le_refl _);rw [<-ech] at lch;have hv:Tc 0 ws.length=some (c 0 ws.length:Int):=ctd.vc 0 ws.length (by omega) (Nat.le_refl _) trivial;have fin:0<=x->x < (c 0 ws.length:Int)->∃ (k:Nat) (cde:CT.Code),x=(k:Int)/\(chp ps ws)[k]?=some cde/\cde.length=ws.length:=λh0 h1=>by
  obtain ⟨k,rfl⟩:∃ k:Nat,x=k:=⟨x.toNat,by omega⟩
  have hk:k < (chp ps ws).length:=by rw [lch];omega
  refine ⟨k,_,rfl,List.getElem?_eq_getElem hk,?_⟩;have e2:(Chh ps ws Fl 0 ws.length)[k]?=some (chp ps ws)[k]:=by rw [<-ech];exact List.getElem?_eq_getElem hk
  have:=(b3O (by omega) e2).ln;omega
 refine ⟨_,rfl,_,_,rfl,rfl,_,rfl,?_⟩;refine a2b (λz=>?_) (λz=>?_)
 ·have z1:(0:Int)<=x:=of_decide_eq_true z;refine ⟨_,rfl,r,D,dx1,_,_,rfl,ho,cl.rc.c,cl.rc.nc,rfl,Y.cc,_,_,_,rfl,rfl,SqL.of ca.co,a0s (k:=0) (by omega),_,rfl,q,_,rfl,.inr (SqT.of (s1 _ _ hq)),?_⟩;rw [List.length_map];refine ⟨Y.ca 0,_,_,_,rfl,rfl,SqL.of (ca.cr 0 (by omega)),a0s (k:=ws.length) (by omega),?_⟩;rw [hv];refine ⟨_,_,rfl,rfl,_,rfl,?_⟩;by_cases y:x < (c 0 ws.length:Int)
  ·obtain ⟨k,cde,rfl,hk,hl⟩:=fin z1 y;rw [decide_eq_true y];refine a3G ?_;refine ⟨_,rfl,_,rfl,_,rfl,q,_,rfl,.inr (SqT.of (s1 _ _ hq)),?_⟩;rw [List.length_map];refine ⟨r,ps,ws,h,t,Fl,c,u,k,0,ws.length,cde,rfl,ct,by omega,Nat.le_refl _,by omega,by rw [<-ech];exact hk,by omega,λp1 xs1 H2 s2 g2 w2=>?_⟩;refine ⟨p1,_,rfl,.inl ⟨SqL.of g2,λd hd=>?_⟩⟩;have s3:=a0f hd (.tup xs1);exact q1 k cde rfl hk d xs1 _ ((s1.trans s2).trans s3) a0b (Ws.same s3 w2)
  ·rw [decide_eq_false y];refine a6r ⟨by decide,q2 (λk=>y ?_) H1 s1⟩;rw [lch] at k;exact k.2
 ·exact ⟨_,rfl,a6r ⟨by decide,q2 (λk=>z (decide_eq_true k.1)) H1 s1⟩⟩
def b2s:Sp:=λvs H Q _=>∃ (p q:Addr) (ps ws:List Int),vs=[.ref p,.ref q]/\In2 H p q ps ws/\∀ H',a0p H H'->Q (.int ((chp ps ws).length:Int)) H'
theorem scMany:a0k ["prices","weights"] ["prices","weights"] (a0g b3u):=fsk
theorem b3U {C D:Addr} (F:Fun K "many_cheapest" "many_cheapest" b3u f fd) (cl:ClC P' w K mg base C D) (ml:mg "len"=none):a0M P' w K mg base CX0 8 f fd ["prices","weights"] b2s:=by
 refine F.ok (k:=7) scMany (λvs H Q E h=>?_) (λcdv A outer s H vs Q E hr h=>?_)
 ·obtain ⟨p,q,ps,ws,rfl,_⟩:=h;rfl
 obtain ⟨p,q,ps,ws,rfl,i2,qq⟩:=h;obtain ⟨hp,hq,nu,pp,pw,il⟩:=i2;obtain ⟨L2',L4,m6⟩:=a9q il;have w1:=nu.w1;have oki:=cl.oki.mono (show 6<=6 by decide);refine ⟨_,a0h (a0o (pxA a0j (pxA a0j (a0F (a4b cl.mkk oki hr (by rfl) cl.g cl.bi .nil a0Y (a0a (pv 0) (a0a (pv 1) a0d))) rfl) a0e) (pln ml (pv 1)))),?_⟩;refine ⟨_,rfl,_,rfl,λr dx rn hdx _=>?_⟩;have sm:a0p H (upd (upd H dx (.own r)) r (.ins D dx [])):=a0n rn (a0f hdx _);refine ⟨r,dx,p,q,ps,ws,rfl,a0b,sm _ _ hp,sm _ _ hq,nu,pp,pw,L4,m6,λH1 pr X h t Fl Y Tc Tt c u k1 pa ca T ctd=>⟨rfl,?_⟩⟩;have s1:a0p H H1:=λa o e=>k1 a o (λz=>by rw [z,rn] at e;cases e) (sm a o e);have ct:Cts C D H1 r ps ws h t Fl c u:=⟨⟨pr,p,X,Y,Tc,Tt,pa,ca,ctd⟩,T,ctd.cn,il⟩
 have ech:=a9r ct w1;have ln:=ct.lch (i:=0) (j:=ws.length) (by omega) (Nat.le_refl _);obtain ⟨dc,hoc⟩:=ca.ob;have at1:atI ((List.range (ws.length+1)).map λj=>oV (Tc 0 j)) ((ws.length:Nat):Int)=some (.int (c 0 ws.length:Int)):=by
  rw [a0s (f:=λj=>oV (Tc 0 j)) (k:=ws.length) (by omega),ctd.vc 0 ws.length (by omega) (Nat.le_refl _) trivial];rfl
 refine ⟨r,D,dc,_,_,rfl,hoc,cl.rc.c,cl.rc.nc,rfl,Y.cc,_,_,_,rfl,rfl,SqL.of ca.co,a0s (k:=0) (by omega),_,rfl,q,_,rfl,.inr (SqT.of (s1 _ _ hq)),?_⟩;rw [List.length_map];refine ⟨Y.ca 0,_,_,_,rfl,rfl,SqL.of (ca.cr 0 (by omega)),at1,?_⟩;have:=qq H1 s1;rw [ech,ln] at this;exact this
end
end K56
set_option exponentiation.threshold 2000
namespace K56
open PySem L2
abbrev NC:List Str:=["prices","weights","code"]
def Bd0 (ns:List Int):Prop:=∀ x∈ns,0<=x/\x<=B30
namespace Kp
variable {P:Program} {w:World} {K:PySem.W.Frag} {mg:Str->Option Value} {base:Heap} {f:Addr} {fd:FuncData}
def a9u (CB:Addr):Sp:=λvs H Q E=>∃ (x y:V) (ps ns:List Int),vs=[x,y]/\Wd H x ps/\Wd H y ns/\ns.length<=1000/\(alone (ps.length:Int) ns=true->∀ H',a0p H H'->Q (.int (CT.pc ps ns)) H')/\(alone (ps.length:Int) ns=false->∀ H',a0p H H'->E (.ref CB) none H')
theorem b3V:a0k ["prices","word"] ["prices","word"] (a0g a4i):=fsk
theorem ndP:(("letter":Str) :: ["prices","word"]).Nodup:=by decide +kernel
theorem b1k {CB:Addr} (F:Fun K "word_price" "word_price" a4i f fd) (G:Fns P w K mg base ["word","letters"] "has_letters_alone" a9s 1) (ml:mg "len"=none) (ms:mg "sum"=none) (mB:mg "BadWord"=some (.ref CB)) (eB:Ecl K CB) :
  a0M P w K mg base (CXF P w) 2 f fd ["prices","word"] (a9u CB):=by
 refine F.okF (k:=1) b3V (λvs H Q E h=>?_) (λcdv A outer s H vs Q E hr h=>?_)
 ·obtain ⟨x,y,ps,ns,rfl,_⟩:=h;rfl
 obtain ⟨x,y,ps,ns,rfl,hx,hy,hl,q1,q2⟩:=h;obtain ⟨p,rfl,hp⟩:=hx.ti;obtain ⟨a,rfl,ha⟩:=hy.ti;refine ⟨_,a0c (a0W (a1K (a2c (pcF G hr (a0a (pv 1) (a0a (pln ml (pv 0)) a0d))))) (a0h (a2K a1z rfl (by rfl) mB eB (a0a a6h a0d))) a0u)
  (a0h (a0o (a0G (a2k rfl) (by rfl) ms a8k (a0a (a1W (M:=["prices","word"]) rfl (cso (a0g a4i) ["prices","word"]) ndP rfl (pv 1) a0O
   (λcl C s0 H0 fp=>⟨a0L,pxA (ixT K) (pv 1) (pv 0)⟩)) a0d)))),?_⟩
 refine ⟨_,rfl,_,rfl,p,_,rfl,.inr (SqT.of hp),.ref a,ns,_,rfl,Wd.of ha,hl,λH1 s1=>?_⟩;rw [List.length_map];refine ⟨_,rfl,?_⟩;refine a2b (λc=>?_) (λc=>?_)
 ·have c1:alone (ps.length:Int) ns=false:=by
   cases hb:alone (ps.length:Int) ns with
   | false=>rfl
   | true=>rw [hb] at c;cases c
  exact ⟨by decide,q2 c1 H1 s1⟩
 have c1:alone (ps.length:Int) ns=true:=by
  cases hb:alone (ps.length:Int) ns with
  | true=>rfl
  | false=>rw [hb] at c;exact absurd rfl c
 have hn:=a4v c1;refine ⟨_,rfl,a,_,rfl,SqT.of (s1 _ _ ha),λd hd=>?_⟩;refine ⟨λk H'=>a0p H1 H'/\H' d=some (.lst (((ns.take k).map λx=>ps.getD x.toNat 0).map V.int)),⟨a0f hd _,a0b⟩,λk H' _ hP=>SqT.of (hP.1 _ _ (s1 _ _ ha)),λk x H' hx hP=>?_,λH' hP=>?_⟩
 ·obtain ⟨sm,hd'⟩:=hP;rw [List.getElem?_map] at hx;cases hz:ns[k]? with
  | none=>rw [hz] at hx;cases hx
  | some z =>
   rw [hz] at hx;cases hx;have hk:=(List.getElem?_eq_some_iff.mp hz).1;obtain ⟨z0,z1⟩:=hn z (List.mem_of_getElem? hz);obtain ⟨n,rfl⟩:∃ n:Nat,z=n:=⟨z.toNat,by omega⟩
   have hn':n < ps.length:=by omega
   refine a0E ⟨_,rfl,_,rfl,p,_,_,_,rfl,rfl,SqT.of (sm _ _ (s1 _ _ hp)),a3I (List.getElem?_eq_getElem hn'),_,hd',?_,a0n hd sm,?_⟩
   ·rw [List.length_map,List.length_map,List.length_take];exact a0m (by omega)
   ·rw [a0b,List.take_add_one,hz,List.map_append,List.map_append];simp [List.getD_eq_getElem?_getD,List.getElem?_eq_getElem hn']
 ·obtain ⟨sm,hd'⟩:=hP;rw [List.length_map,List.take_length] at hd';exact ⟨d,_,rfl,hd',q1 c1 H' (s1.trans sm)⟩
def a3U (CU CB:Addr):Sp:=λvs H Q E=>∃ (p wa c:Addr) (ps ws:List Int) (xs:List V) (nss:List (List Int)),vs=[.ref p,.ref wa,.ref c]/\TW H p ps/\TW H wa ws/\H c=some (.tup xs)/\Ws H xs nss/\nss.length<=100/\(∀ ns∈nss,ns.length<=1000)/\Bd0 ps/\Bd0 ws /\
 (nss.length≠ws.length->∀ H',a0p H H'->E (.ref CU) none H')/\(nss.length=ws.length->(∀ ns∈nss,alone (ps.length:Int) ns=true)->∀ H',a0p H H'->Q (.int (CT.co ps ws 0 nss)) H') /\
 (nss.length=ws.length->(∃ ns∈nss,alone (ps.length:Int) ns=false)->∀ H',a0p H H'->E (.ref CB) none H')
theorem a3o:a0k NC NC (a0g a6G):=fsk
theorem ndC:(("weight":Str) :: "word" :: NC).Nodup:=by decide +kernel
theorem a9v {ps ws:List Int} {nss:List (List Int)} {i:Nat} {x:Int} {ns:List Int} (h1:ws[i]?=some x) (h2:nss[i]?=some ns):(List.zipWith (λx ns=>x * CT.pc ps ns) ws nss)[i]?=some (x * CT.pc ps ns):=by
 rw [List.getElem?_zipWith,h1,h2]
theorem a6a {CU CB:Addr} (F:Fun K "cost" "cost" a6G f fd) (G:b0x P w K mg base ["prices","word"] "word_price" (a9u CB) 2) (ml:mg "len"=none) (ms:mg "sum"=none) (mz:mg "zip"=none) (mU:mg "Unlike"=some (.ref CU)) (eU:Ecl K CU) :
  a0M P w K mg base (CXF P w) 3 f fd NC (a3U CU CB):=by
 refine F.okF (k:=2) a3o (λvs H Q E h=>?_) (λcdv A outer s H vs Q E hr h=>?_)
 ·obtain ⟨p,wa,c,ps,ws,xs,nss,rfl,_⟩:=h;rfl
 obtain ⟨p,wa,c,ps,ws,xs,nss,rfl,hp,hw,hc,hx,l1,l2,bp,bw,q1,q2,q3⟩:=h;have lx:xs.length=nss.length:=hx.length;refine ⟨_,a0c (a0W (a0r b0h (pln ml (pv 2)) (pln ml (pv 1)) (nomark _)) (a0h (a2K a1z rfl (by rfl) mU eU (a0a a6h a0d))) a0u)
  (a0h (a0o (a0G (a2k rfl) (by rfl) ms a8k (a0a (b0E K true true (M:=NC) rfl (cso (a0g a6G) NC) ndC rfl rfl (by rfl) mz (a0a (pv 1) (a0a (pv 2) a0d)) (a0U a0O (a0U a0O a1y))
   (λcl C s0 H0 fp pins σ bk=>⟨a0L,a0l a3d (pv 0) (a0Z G.ok hr (by rfl) G.m G.kp G.b .nil (a5Q bk ⟨rfl,rfl⟩ a7u) (a0a (pv 2) (a0a (pv 1) a0d)))⟩)) a0d)))),?_⟩
 refine ⟨_,rfl,c,_,rfl,.inr (SqT.of hc),_,rfl,wa,_,rfl,.inr (SqT.of hw),rfl,_,rfl,?_⟩;rw [List.length_map,lx];refine a2b (λb=>?_) (λb=>?_)
 ·refine ⟨by decide,q1 (λz=>?_) H (a0p.refl _)⟩;rw [z] at b;simp at b
 have el:nss.length=ws.length:=by
  by_cases z:nss.length=ws.length
  ·exact z
  ·refine absurd ?_ b;rw [Bool.not_eq_true',decide_eq_false_iff_not];intro y;have:=V.int.inj y;omega
 refine ⟨_,rfl,_,rfl,wa,c,_,_,rfl,SqT.of hw,SqT.of hc,by rw [List.length_map];omega,λd hd=>?_⟩;refine ⟨λi H'=>a0p H H'/\H' d=some (.lst (((List.zipWith (λx ns=>x * CT.pc ps ns) ws nss).take i).map V.int))/\∀ j,j < i->∀ ns,nss[j]?=some ns->alone (ps.length:Int) ns=true,⟨a0f hd _,a0b,λj hj=>absurd hj (by omega)⟩,
  λi H' _ hP=>⟨SqT.of (hP.1 _ _ hw),SqT.of (hP.1 _ _ hc)⟩,λi x y pp H' hx' hy' hP hpp=>?_,λH' hP=>?_⟩
 ·obtain ⟨sm,hd',al⟩:=hP;rw [List.getElem?_map] at hx';cases hz:ws[i]? with
  | none=>rw [hz] at hx';cases hx'
  | some wt =>
  rw [hz] at hx';cases hx';obtain ⟨ns,hn,ry⟩:=Paired.right_of hx i y hy';have iw:=(List.getElem?_eq_some_iff.mp hz).1;have s2:=a0f hpp (.tup [.int wt,y]);have dn:d≠pp:=a0A hd' hpp;refine a8w ⟨_,rfl,_,rfl,_,rfl,.ref p,y,ps,ns,rfl,Wd.of (s2 _ _ (sm _ _ hp)),Wd.same (sm.trans s2) ry,l2 ns (List.mem_of_getElem? hn),λok H3 s3=>?_,λbad H3 s3=>?_⟩
  ·obtain ⟨b1,b2⟩:=b3N bp ns;obtain ⟨b3,b4⟩:=bw wt (List.mem_of_getElem? hz);have b5:(ns.length:Int)<=1000:=by have:=l2 ns (List.mem_of_getElem? hn);omega
   have b6:(ns.length:Int) * B30<=1000 * B30:=Int.mul_le_mul_of_nonneg_right b5 (by decide);refine ⟨_,_,rfl,rfl,⟨⟨b3,by unfold B30 at *;omega⟩,⟨b1,by unfold B30 at *;omega⟩⟩,_,s3 _ _ (s2 _ _ hd'),?_,a0n hd ((sm.trans s2).trans s3),?_,λj hj ms hm=>?_⟩
   ·rw [List.length_map,List.length_take,List.length_zipWith];exact a0m (by omega)
   ·rw [a0b,List.take_add_one,a9v hz hn,List.map_append];rfl
   ·rcases Nat.lt_succ_iff_lt_or_eq.mp hj with z | z
    ·exact al j z ms hm
    ·rw [z,hn] at hm;cases hm;exact ok
  ·exact q3 el ⟨ns,List.mem_of_getElem? hn,bad⟩ H3 ((sm.trans s2).trans s3)
 ·obtain ⟨sm,hd',al⟩:=hP;rw [List.length_map] at hd' al;rw [List.take_of_length_le (by rw [List.length_zipWith];omega)] at hd';refine ⟨d,_,rfl,hd',q2 el (λns hns=>?_) H' sm⟩;obtain ⟨j,hj⟩:=List.mem_iff_getElem?.mp hns;exact al j (by have:=(List.getElem?_eq_some_iff.mp hj).1;omega) ns hj
end Kp
end K56
set_option exponentiation.threshold 2000
namespace K56
open PySem L2
namespace CT
section
variable {L n:Nat} {h t:Nat->Nat->Nat->OI} {F:Nat->Nat->OI} {p:Nat->Int} {W:Nat->Nat->Int} {Cs:Nat->List Code} {Rs:Nat->Nat->List Code} {co:Nat->Code->Int}
theorem b3W (T:Tb L n h t F p W) (E:En L p W Cs Rs co) {i w low most:Nat} (hw:i+w<=n) (hm:most<=w) (hl:low<=L)
  (ihC:∀ m,1<=m->m<=most->mi ((Cs m).map (co i))=F i (i+m))
  (ihR:∀ m l k,1<=m->m < w->l < L->k+m<=n->mi ((Rs m l).map (co k))=t l k (k+m)) :
  ∀ q∈Bk L low most,mi (((Cs (q.2+1)).flatMap λc=>(bhd Rs w q).map λr=>ahd q.1 c++r).map (co i))=vl h t i (i+w) q:=by
 intro q hq;obtain ⟨q1,q2,q3⟩:=a0v.mp hq;have e:((Cs (q.2+1)).flatMap λc=>(bhd Rs w q).map λr=>ahd q.1 c++r).map (co i)=sums (p q.1 * W i (i+q.2+1)) ((Cs (q.2+1)).map (co i)) ((bhd Rs w q).map (co (i+q.2+1))):=by
  unfold sums;rw [List.map_flatMap,List.flatMap_map];have:∀ c∈Cs (q.2+1),((bhd Rs w q).map λr=>ahd q.1 c++r).map (co i)=((bhd Rs w q).map (co (i+q.2+1))).map λb=>p q.1 * W i (i+q.2+1)+co i c+b:=λc hc=>by
   rw [List.map_map,List.map_map];refine List.map_congr_left λr _=>?_;show co i (ahd q.1 c++r)=_;rw [E.app i q.1 (q.2+1) c r hc];rfl
  clear hq;generalize Cs (q.2+1)=xs at this
  induction xs with
  | nil=>rfl
  | cons x xs ih =>
   rw [List.flatMap_cons,List.flatMap_cons,this x (.head _),ih λc hc=>this c (.tail _ hc)]
 have c1:=ihC (q.2+1) (by omega) (by omega);have hB:mi ((bhd Rs w q).map (co (i+q.2+1)))=t (q.1+1) (i+q.2+1) (i+w):=by
  by_cases hlt:q.2+1 < w
  ·unfold bhd;rw [if_pos hlt];by_cases hL:q.1+1 < L
   ·have r1:=ihR (w - (q.2+1)) (q.1+1) (i+q.2+1) (by omega) (by omega) hL (by omega);rw [show i+q.2+1+(w - (q.2+1))=i+w by omega] at r1;exact r1
   ·have eL:q.1+1=L:=by omega
    have en:t (q.1+1) (i+q.2+1) (i+w)=none:=by
     rw [T.tt (q.1+1) (i+q.2+1) (i+w) (by omega) (by omega) hw,eL];unfold Bk;rw [Nat.sub_self];exact a3K
    rw [en,eL,E.rL];exact a1l.mpr rfl
  ·unfold bhd;rw [if_neg hlt];have ee:i+q.2+1=i+w:=by omega
   rw [ee,T.dg (q.1+1) (i+w) (by omega) hw];have e1:[([]:Code)].map (co (i+w))=[0]:=by rw [List.map_singleton,E.nil]
   rw [e1];exact a0Q.mpr ⟨.head _,λk hk=>by simp at hk;omega⟩
 rw [e,a5W,hB,c1];show oadd (oadd (some (p q.1 * W i (i+q.2+1))) (F i (i+(q.2+1)))) _=vl h t i (i+w) q;unfold vl;rw [T.hh q.1 i (i+q.2+1) q2 (by omega) (by omega)];rfl
theorem a4w (T:Tb L n h t F p W) (E:En L p W Cs Rs co):∀ d w i,w<=d->1<=w->i+w<=n ->
  mi ((Cs w).map (co i))=F i (i+w)/\∀ l,l < L->mi ((Rs w l).map (co i))=t l i (i+w)
 | 0,w,i,hd,h1,hw=>by omega
 | d+1,w,i,hd,h1,hw=>by
  have ih:=a4w T E d;have hC':∀ m,1<=m->m < w->mi ((Cs m).map (co i))=F i (i+m):=λm a b=>(ih m i (by omega) a (by omega)).1;have hR':∀ m l k,1<=m->m < w->l < L->k+m<=n->mi ((Rs m l).map (co k))=t l k (k+m):=λm l k a b c e=>(ih m k (by omega) a e).2 l c;have blk:∀ low most,most<=w->low<=L->(∀ m,1<=m->m<=most->mi ((Cs m).map (co i))=F i (i+m)) ->
    mi ((rw' L Cs Rs w low most).map (co i))=lo ((Bk L low most).map (vl h t i (i+w))):=by
   intro low most hm hl hC;have R:=b3W T E hw hm hl hC hR';unfold rw';rw [List.map_flatMap,a8Q];congr 1;exact List.map_congr_left λq hq=>R q hq
  have hCw:mi ((Cs w).map (co i))=F i (i+w):=by
   by_cases e:w=1
   ·subst e;rw [E.c1,T.ff i (i+1) (by omega) hw,if_pos (by omega)];have e1:[([[]]:Code)].map (co i)=[0]:=by rw [List.map_singleton,E.one]
    rw [e1];exact a0Q.mpr ⟨.head _,λk hk=>by simp at hk;omega⟩
   ·have b1:=blk 0 (w - 1) (by omega) (Nat.zero_le _) λm a b=>hC' m a (by omega);rw [E.cs w (by omega),b1,T.ff i (i+w) (by omega) hw,if_neg (by omega),show i+w - 1 - i=w - 1 by omega]
  refine ⟨hCw,λl hl=>?_⟩;have b1:=blk l w (Nat.le_refl _) (by omega) λm a b=>by
   by_cases e:m=w
   ·subst e;exact hCw
   ·exact hC' m a (by omega)
  have et:=T.tt l i (i+w) (by omega) (by omega) hw;rw [show i+w - i=w by omega] at et;rw [E.rs w l h1 hl,b1,et]
end
theorem b1l {ps ws:List Int} {h t:Nat->Nat->Nat->OI} {F:Nat->Nat->OI} (T:Tb ps.length ws.length h t F (pl ps) (Wt ws)) (bp:Po ps) (bw:Po ws) (n1:1<=ws.length) {c:Code} (hl:c.length=ws.length) (il:InL ps.length c) :
  (KP c/\some (co ps ws 0 c)=F 0 ws.length)↔c∈(Cs ps.length ws.length).filter λc=>decide (some (co ps ws 0 c)=mi ((Cs ps.length ws.length).map (co ps ws 0))):=by
 have key:=(a4w T (en (ps:=ps) (ws:=ws)) ws.length ws.length 0 (Nat.le_refl _) n1 (by omega)).1;rw [Nat.zero_add] at key;rw [List.mem_filter,key];constructor
 ·rintro ⟨k,e⟩;refine ⟨?_,decide_eq_true e⟩;have ne:c≠[]:=by intro z;rw [z,List.length_nil] at hl;omega
  have b:=(best bp bw (sz c) c 0 (Nat.le_refl _) ne (by omega) k il).2;rw [hl] at b;rcases b with b | ⟨c',hc',lt⟩
  ·exact b
  ·exfalso;rw [<-e] at key;have:=(a0Q.mp key).2 _ (List.mem_map_of_mem hc');omega
 ·rintro ⟨hc,e⟩;exact ⟨Cs_kp n1 c hc,of_decide_eq_true e⟩
end CT
end K56
set_option exponentiation.threshold 2000
namespace K56
open PySem L2
namespace Kp
variable {P:Program} {w:World} {K:PySem.W.Frag} {mg:Str->Option Value} {base:Heap} {f:Addr} {fd:FuncData}
def b2t (C:Addr):Sp:=λvs H Q _=>∃ (r p:Addr) (ps ws:List Int) (X:Ad) (h t:Nat->Nat->Nat->OI) (i:Nat),vs=[.ref r,.int (i:Int)]/\PAt C H r p ps ws X h t/\ws.length<=24/\ps.length<=10/\i < ws.length /\
 ∀ (a:Addr) H',a0p H H'->H a=none->H' a=some (.lst ((List.range (ws.length - i)).map λb=>oV (bnd ps.length h t i (i+b+1))))->Q (.ref a) H'
theorem scBrow:a0k ["self","first"] ["self","first"] (a0g b0L):=fsk
theorem ndBr:(("end":Str) :: ["self","first"]).Nodup:=by decide +kernel
theorem b3X {C:Addr} (F:Fun K "bound_row" "Parted.bound_row" b0L f fd) (M:Mt P w K mg base C "bound" ["self","first","end"] (a5V C) 3) (rc:PC K C) (mr:mg "range"=none):a0M P w K mg base CX0 4 f fd ["self","first"] (b2t C):=by
 refine F.ok (k:=3) scBrow (λvs H Q E h=>?_) (λcdv A outer s H vs Q E hr h=>?_)
 ·obtain ⟨r,p,ps,ws,X,h,t,i,rfl,_⟩:=h;rfl
 obtain ⟨r,p,ps,ws,X,h,t,i,rfl,pa,w20,p10,hi,q⟩:=h;refine ⟨_,a0h (a0o (a5b (M:=["self","first"]) rfl (cso (a0g b0L) ["self","first"]) ndBr rfl (by rfl) mr (a0a (a0l a0t (pv 1) a0e) (a0a (a0l a0t (a0F (pv 0) rfl) a0e) a0d)) (a0U (a5M a2Z a0O b3g) (a0U (a5M a2Z (a6I a0O) b3g) a1y))
   (λcl C s0 H0 fp=>⟨a0L,a0P (pv 1) rc.c M.m M.ok hr M.b .nil a0Y (a0a (pv 2) (a0a (pv 0) a0d))⟩))),?_⟩
 obtain ⟨dx,ho⟩:=pa.ob;refine ⟨_,rfl,_,_,rfl,rfl,_,rfl,r,C,dx,_,_,rfl,ho,rc.c,rc.nn,rfl,_,_,rfl,rfl,_,_,rfl,⟨by omega,by omega,by omega,by omega⟩,λd hd=>?_⟩;have en:(((ws.length:Int)+1) - ((i:Int)+1)).toNat=ws.length - i:=by omega
 dsimp only;rw [en];refine ⟨λb H'=>a0p H H'/\H' d=some (.lst ((List.range b).map λb=>oV (bnd ps.length h t i (i+b+1)))),⟨a0f hd _,a0b⟩,λb H' hb hP=>?_,λH' hP=>?_⟩
 ·obtain ⟨s5,hd'⟩:=hP;have eb:(i:Int)+1+(b:Int)=((i+b+1:Nat):Int):=by push_cast;omega
  rw [eb];refine a0E ⟨_,rfl,r,dx,_,rfl,s5 _ _ ho,rfl,_,rfl,_,rfl,r,p,ps,ws,X,h,t,i,i+b+1,rfl,pa.same s5,w20,p10,by omega,by omega,λH6 s6=>⟨_,s6 _ _ hd',?_,a0n hd (s5.trans s6),?_⟩⟩
  ·rw [List.length_map,List.length_range];exact a0m (by omega)
  ·rw [a0b,List.range_succ,List.map_append];rfl
 ·obtain ⟨s5,hd'⟩:=hP;exact q d H' s5 hd hd'
def a4x (C:Addr):Sp:=λvs H Q _=>∃ (r p:Addr) (ps ws:List Int) (X:Ad) (h t:Nat->Nat->Nat->OI),vs=[.ref r]/\PAt C H r p ps ws X h t/\ws.length<=24/\ps.length<=10 /\
 ∀ (d:Addr) (ra:Nat->Addr) H',a0p H H'->H d=none->(∀ i,i < ws.length->H (ra i)=none)->(∀ i j,i < ws.length->j < ws.length->ra i=ra j->i=j)->(∀ i,i < ws.length->ra i≠d) ->
  H' d=some (.lst ((List.range ws.length).map λi=>.ref (ra i)))->(∀ i,i < ws.length->H' (ra i)=some (.lst ((List.range (ws.length - i)).map λb=>oV (bnd ps.length h t i (i+b+1)))))->Q (.ref d) H'
theorem b1m:a0k ["self"] ["self"] (a0g a4m):=fsk
theorem ndBs:(("first":Str) :: ["self"]).Nodup:=by decide +kernel
theorem a9w {C:Addr} (F:Fun K "bounds" "Parted.bounds" a4m f fd) (M:Mt P w K mg base C "bound_row" ["self","first"] (b2t C) 4) (rc:PC K C) (mr:mg "range"=none):a0M P w K mg base CX0 5 f fd ["self"] (a4x C):=by
 refine F.ok (k:=4) b1m (λvs H Q E h=>?_) (λcdv A outer s H vs Q E hr h=>?_)
 ·obtain ⟨r,p,ps,ws,X,h,t,rfl,_⟩:=h;rfl
 obtain ⟨r,p,ps,ws,X,h,t,rfl,pa,w20,p10,qq⟩:=h;refine ⟨_,a0h (a0o (a1s (M:=["self"]) rfl (cso (a0g a4m) ["self"]) ndBs rfl (by rfl) mr (a0a (a0F (pv 0) rfl) a0d) (a0U (a6I a0O) a1y)
   (λcl C s0 H0 fp=>⟨a0L,a0P (pv 1) rc.c M.m M.ok hr M.b .nil a0Y (a0a (pv 0) a0d)⟩))),?_⟩
 obtain ⟨dx,ho⟩:=pa.ob;refine ⟨_,rfl,r,C,dx,_,_,rfl,ho,rc.c,rc.nn,rfl,_,rfl,by omega,by omega,λd hd=>?_⟩;rw [Int.toNat_natCast];refine ⟨λi H'=>a0p H H'/\∃ ra:Nat->Addr,(∀ k,k < i->H (ra k)=none)/\(∀ j k,j < i->k < i->ra j=ra k->j=k)/\(∀ k,k < i->ra k≠d)/\H' d=some (.lst ((List.range i).map λk=>.ref (ra k)))/\∀ k,k < i->H' (ra k)=some (.lst ((List.range (ws.length - k)).map λb=>oV (bnd ps.length h t k (k+b+1)))),⟨a0f hd _,λ_=>d,λk hk=>absurd hk (Nat.not_lt_zero _),λj k hj=>absurd hj (Nat.not_lt_zero _),λk hk=>absurd hk (Nat.not_lt_zero _),a0b,λk hk=>absurd hk (Nat.not_lt_zero _)⟩,λi H1 hi hP=>?_,λH1 hP=>?_⟩
 ·obtain ⟨s1,ca,c1,c2,c3,c4,c5⟩:=hP;rw [show (0:Int)+(i:Int)=(i:Int) from Int.zero_add _];refine a0E ⟨_,rfl,r,dx,_,rfl,s1 _ _ ho,rfl,_,rfl,r,p,ps,ws,X,h,t,i,rfl,pa.same s1,w20,p10,hi,λa H2 s2 hp2 g2=>?_⟩;have pd:a≠d:=λz=>by rw [z,c4] at hp2;cases hp2
  have pk:∀ k,k < i->ca k≠a:=λk hk z=>by rw [<-z,c5 k hk] at hp2;cases hp2
  refine ⟨_,s2 _ _ c4,?_,a0n hd (s1.trans s2),ext ca i a,λk hk=>?_,λj k hj hk e=>?_,λk hk=>?_,?_,λk hk=>?_⟩
  ·rw [List.length_map,List.length_range];exact a0m (by omega)
  ·by_cases z:k=i
   ·rw [a0w z];exact s1.free hp2
   ·rw [a0I z];exact c1 k (by omega)
  ·by_cases z1:j=i <;> by_cases z2:k=i
   ·omega
   ·rw [a0w z1,a0I z2] at e;exact absurd e.symm (pk k (by omega))
   ·rw [a0I z1,a0w z2] at e;exact absurd e (pk j (by omega))
   ·rw [a0I z1,a0I z2] at e;exact c2 j k (by omega) (by omega) e
  ·by_cases z:k=i
   ·rw [a0w z];exact pd
   ·rw [a0I z];exact c3 k (by omega)
  ·rw [a0b,List.range_succ,List.map_append];refine congrArg (λz=>some (HO.lst z)) ?_;congr 1
   ·refine List.map_congr_left λk hk=>?_;rw [a0I (by have:=List.mem_range.mp hk;omega)]
   ·show [V.ref a]=[V.ref (ext ca i a i)]
    rw [a0w rfl]
  ·by_cases z:k=i
   ·rw [a0w z,a0i pd,z];exact g2
   ·rw [a0I z,a0i (c3 k (by omega))];exact s2 _ _ (c5 k (by omega))
 ·obtain ⟨s1,ca,c1,c2,c3,c4,c5⟩:=hP;exact qq d ca H1 s1 hd c1 c2 c3 c4 c5
section
variable {P':Program} {w:World} {K:PySem.W.Frag} {mg:Str->Option Value} {base:Heap} {f:Addr} {fd:FuncData}
def spLf:Sp:=λvs H Q _=>∃ (p q:Addr) (ps ws:List Int),vs=[.ref p,.ref q]/\In2 H p q ps ws/\∀ (d:Addr) (ra:Nat->Addr) h t F H',a0p H H'->H' d=some (.lst ((List.range ws.length).map λi=>.ref (ra i)))->(∀ i,i < ws.length->H' (ra i)=some (.lst ((b4C F ws.length i).map oV)))->CT.Tb ps.length ws.length h t F (pl ps) (Wt ws)->Q (.ref d) H'
theorem scLf:a0k ["prices","weights"] ["prices","weights"] (a0g sLf):=fsk
theorem ok_lf {C:Addr} (F:Fun K "least_floors" "least_floors" sLf f fd) (G:Fns P' w K mg base ["prices","weights"] "parted_least" (spPl C) 5) (M:Mt P' w K mg base C "bounds" ["self"] (a4x C) 5) (rc:PC K C):a0M P' w K mg base CX0 6 f fd ["prices","weights"] spLf:=by
 refine F.ok (k:=5) scLf (λvs H Q E h=>?_) (λcdv A outer s H vs Q E hr h=>?_)
 ·obtain ⟨p,q,ps,ws,rfl,_⟩:=h;rfl
 obtain ⟨p,q,ps,ws,rfl,i2,qq⟩:=h;have nu:=i2.nu;refine ⟨_,a0h (a0o (a6m (pcF G hr (a0a (pv 0) (a0a (pv 1) a0d))) rc.c M.m M.ok hr M.b .nil a0Y)),?_⟩;refine ⟨_,rfl,_,rfl,p,q,ps,ws,rfl,i2.hp,i2.hq,nu,λr X h t Fl H1 s1 pa fn=>?_⟩;have T':=fn.tb nu.p2 i2.pp i2.pw;obtain ⟨dx,ho⟩:=pa.ob;refine ⟨r,dx,_,rfl,ho,rfl,r,p,ps,ws,X,h,t,rfl,pa,nu.w20,nu.p10,λd ra H2 s2 hd h1 h2 h3 h4 h5=>?_⟩;refine qq d ra h t Fl H2 (s1.trans s2) h4 (λi hi=>?_) T';rw [h5 i hi,List.map_map];refine congrArg (λz=>some (HO.lst z)) (List.map_congr_left λb hb=>?_);have:=List.mem_range.mp hb;show oV (bnd ps.length h t i (i+b+1))=oV (Fl i (i+b+1));rw [fn.bd i (i+b+1) (by omega) (by omega) trivial]
structure Cde (H:Hp) (a:Addr) (c:CT.Code):Prop where
 o:∃ xs,H a=some (.tup xs)/\Ws H xs c
 l:c.length<=100
 w:∀ u∈c,u.length<=1000
theorem Cde.same {H H':Hp} {a:Addr} {c:CT.Code} (s:a0p H H') (h:Cde H a c):Cde H' a c:=by
 obtain ⟨xs,h1,h2⟩:=h.o;exact ⟨⟨xs,s _ _ h1,Ws.same s h2⟩,h.l,h.w⟩
theorem b3Y {c:CT.Code}:Kadj c↔CT.KP c:=by
 constructor
 ·intro h;refine List.pairwise_iff_getElem.mpr λi j hi hj hij=>?_;have:=a9p h (j - i - 1) i c[i] c[j] (List.getElem?_eq_getElem hi) (by rw [show i+(j - i - 1)+1=j by omega];exact List.getElem?_eq_getElem hj);exact this
 ·intro h k u v' hu hv;obtain ⟨hi,rfl⟩:=List.getElem?_eq_some_iff.mp hu;obtain ⟨hj,rfl⟩:=List.getElem?_eq_some_iff.mp hv;exact List.pairwise_iff_getElem.mp h k (k+1) hi hj (by omega)
def spIck (CU CB:Addr):Sp:=λvs H Q E=>∃ (p q a:Addr) (ps ws:List Int) (c:CT.Code),vs=[.ref p,.ref q,.ref a]/\In2 H p q ps ws/\Cde H a c /\
 (c.length≠ws.length->∀ H',a0p H H'->E (.ref CU) none H')/\(c.length=ws.length->(∀ u∈c,alone (ps.length:Int) u=true)->∀ H' b,a0p H H'->(b=true↔c∈chp ps ws)->Q (.bl b) H') /\
 (c.length=ws.length->(∃ u∈c,alone (ps.length:Int) u=false)->∀ H',a0p H H'->E (.ref CB) none H')
theorem scIck:a0k NC NC (a0g sIck):=fsk
theorem ok_ick {CU CB:Addr} (F:Fun K "is_cheapest_kept" "is_cheapest_kept" sIck f fd) (GC:b0x P' w K mg base NC "cost" (a3U CU CB) 6) (GL:Fns P' w K mg base ["prices","weights"] "least_floors" spLf 6) (GK:Fns P' w K mg base ["code"] "is_kept" b2r 6):a0M P' w K mg base (CXF P' w) 7 f fd NC (spIck CU CB):=by
 refine F.okF (k:=6) scIck (λvs H Q E h=>?_) (λcdv A outer s H vs Q E hr h=>?_)
 ·obtain ⟨p,q,a,ps,ws,c,rfl,_⟩:=h;rfl
 obtain ⟨p,q,a,ps,ws,c,rfl,i2,cd,q1,q2,q3⟩:=h;have nu:=i2.nu;have w1:=nu.w1;obtain ⟨xs,ha,hx⟩:=cd.o;refine ⟨_,a0h (a0o (a3B (a2t a1J (a0Z GC.ok hr (by rfl) GC.m GC.kp GC.b .nil a1z (a0a (pv 0) (a0a (pv 1) (a0a (pv 2) a0d)))) (pxA a0j (pxA a0j (pcF GL hr (a0a (pv 0) (a0a (pv 1) a0d))) a0e) (a2r a1w a0e)) (nomark _)) (a3A (pcF GK hr (a0a (pv 2) a0d))))),?_⟩;refine ⟨_,rfl,_,rfl,_,rfl,p,q,a,ps,ws,xs,c,rfl,i2.hp,i2.hq,ha,hx,cd.l,cd.w,nu.bp,nu.bw,q1,λel al H1 s1=>?_,q3⟩;refine ⟨_,rfl,_,rfl,p,q,ps,ws,rfl,i2.same s1,λd ra h t Fl H2 s2 hd hra T=>?_⟩;have s12:=s1.trans s2;refine ⟨d,_,_,_,rfl,rfl,SqL.of hd,a0s (k:=0) (by omega),_,rfl,ra 0,_,_,_,rfl,rfl,SqL.of (hra 0 (by omega)),last_O w1,b2e (some _) (Fl 0 ws.length),_,rfl,?_⟩;have il:CT.InL ps.length c:=λu hu=>a4v (al u hu);have key:=CT.b1l T i2.pp i2.pw w1 el il;have ee:(V.int (CT.co ps ws 0 c)=oV (Fl 0 ws.length))↔some (CT.co ps ws 0 c)=Fl 0 ws.length:=⟨λz=>b2f (a:=some (CT.co ps ws 0 c)) z,λz=>congrArg oV z⟩
 refine a2b (λy=>?_) (λy=>?_)
 ·have y1:=ee.mp (of_decide_eq_true y);refine ⟨_,rfl,a,xs,c,rfl,s12 _ _ ha,Ws.same s12 hx,cd.l,λH3 b s3 hb=>q2 el al H3 b (s12.trans s3) ?_⟩;rw [hb,b3Y];exact ⟨λz=>key.mp ⟨z,y1⟩,λz=>(key.mpr z).1⟩
 ·refine q2 el al H2 _ s12 ⟨(λz=>by first | cases z | exact absurd z y),λz=>absurd (decide_eq_true (ee.mpr (key.mpr z).2)) y⟩
end
end Kp
end K56
set_option exponentiation.threshold 2000
namespace K56
open PySem L2
namespace CT
theorem a6b {l:Nat}:∀ {c c' r r':Code},Fr (l+1) r->Fr (l+1) r'->ahd l c++r=ahd l c'++r'->c=c'/\r=r'
 | [],[],r,r',_,_,e=>⟨rfl,e⟩
 | [],u :: c',r,r',f,_,e=>by
  exfalso;have e:r=((l:Int) :: u) :: (ahd l c'++r'):=e;obtain ⟨x,w,e1,hx⟩:=f ((l:Int) :: u) (by rw [e];exact .head _);injection e1 with e1 _;omega
 | u :: c,[],r,r',_,f,e=>by
  exfalso;have e:((l:Int) :: u) :: (ahd l c++r)=r':=e;obtain ⟨x,w,e1,hx⟩:=f ((l:Int) :: u) (by rw [<-e];exact .head _);injection e1 with e1 _;omega
 | u :: c,v :: c',r,r',f,f',e=>by
  have e:((l:Int) :: u) :: (ahd l c++r)=((l:Int) :: v) :: (ahd l c'++r'):=e;injection e with e1 e2;injection e1 with _ e1;obtain ⟨a,b⟩:=a6b f f' e2;exact ⟨by rw [e1,a],b⟩
theorem ahd_l {l l':Nat} {c c' r r':Code} (h:c≠[]) (h':c'≠[]) (e:ahd l c++r=ahd l' c'++r'):l=l':=by
 cases c with
 | nil=>exact absurd rfl h
 | cons u c =>
  cases c' with
  | nil=>exact absurd rfl h'
  | cons v c' =>
   have e:((l:Int) :: u) :: (ahd l c++r)=((l':Int) :: v) :: (ahd l' c'++r'):=e;injection e with e _;injection e with e _;omega
theorem Bk_lt {L l m:Nat}:(Bk L l m).Pairwise λa b=>a.1 < b.1\/(a.1=b.1/\a.2 < b.2):=by
 unfold Bk;rw [List.pairwise_flatMap];refine ⟨λa _=>?_,?_⟩
 ·rw [List.pairwise_map];exact List.pairwise_lt_range.imp λz=>.inr ⟨rfl,z⟩
 ·refine List.pairwise_lt_range.imp λ{a b} z x hx y hy=>?_;obtain ⟨_,_,rfl⟩:=List.mem_map.mp hx;obtain ⟨_,_,rfl⟩:=List.mem_map.mp hy;exact .inl (by show l+a < l+b;omega)
theorem rw_nd {L many low most:Nat} {C:Nat->List Code} {R:Nat->Nat->List Code} (hC:∀ k,1<=k->k<=most->(C k).Nodup/\∀ c∈C k,c.length=k) (hR:∀ k l,1<=k->k < many->(R k l).Nodup/\∀ r∈R k l,Fr l r):(rw' L C R many low most).Nodup:=by
 have hb:∀ q,(bhd R many q).Nodup/\∀ r∈bhd R many q,Fr (q.1+1) r:=λq=>by
  unfold bhd;split
  ·exact hR _ _ (by omega) (by omega)
  ·exact ⟨List.pairwise_singleton _ _,λr hr u hu=>by
    have:r=[]:=by simpa using hr
    subst this;cases hu⟩
 unfold rw';show List.Pairwise _ _;rw [List.pairwise_flatMap];refine ⟨λq hq=>?_,?_⟩
 ·obtain ⟨q1,q2,q3⟩:=a0v.mp hq;obtain ⟨c1,c2⟩:=hC (q.2+1) (by omega) (by omega);rw [List.pairwise_flatMap];refine ⟨λc hc=>?_,c1.imp_of_mem λ{a b} ha hb' z x hx y hy e=>?_⟩
  ·rw [List.pairwise_map];exact (hb q).1.imp λz e=>z (List.append_cancel_left e)
  ·obtain ⟨r,hr,rfl⟩:=List.mem_map.mp hx;obtain ⟨r',hr',rfl⟩:=List.mem_map.mp hy;exact z (a6b ((hb q).2 r hr) ((hb q).2 r' hr') e).1
 ·refine Bk_lt.imp_of_mem λ{a b} ha hb' z x hx y hy e=>?_;obtain ⟨_,_,a3⟩:=a0v.mp ha;obtain ⟨_,_,b3⟩:=a0v.mp hb';obtain ⟨c,hc,hx⟩:=List.mem_flatMap.mp hx;obtain ⟨r,hr,rfl⟩:=List.mem_map.mp hx;obtain ⟨c',hc',hy⟩:=List.mem_flatMap.mp hy;obtain ⟨r',hr',rfl⟩:=List.mem_map.mp hy;have l1:=(hC (a.2+1) (by omega) (by omega)).2 c hc;have l2:=(hC (b.2+1) (by omega) (by omega)).2 c' hc';have el:a.1=b.1:=ahd_l (by intro y;rw [y,List.length_nil] at l1;omega) (by intro y;rw [y,List.length_nil] at l2;omega) e;rw [<-el] at e;have f2:=(hb b).2 r' hr';rw [<-el] at f2;have:=(a6b ((hb a).2 r hr) f2 e).1;rw [this] at l1;rcases z with z | ⟨_,z⟩ <;> omega
theorem b2u {L:Nat}:∀ d m,m<=d->1<=m->(Cs L m).Nodup/\∀ l,(Rs L m l).Nodup
 | 0,m,h,h1=>by omega
 | d+1,m,h,h1=>by
  have ih:=b2u (L:=L) d;have cl:∀ k,1<=k->∀ c∈Cs L k,c.length=k:=λk a c hc=>(a5n a c hc).ln;have rf:∀ k l,1<=k->∀ r∈Rs L k l,Fr l r:=λk l a r hr=>(b3Q a r hr).2;have hc:(Cs L m).Nodup:=by
   by_cases e:m=1
   ·subst e;rw [a1R];exact List.pairwise_singleton _ _
   ·rw [a5l (by omega)];exact rw_nd (λk a b=>⟨(ih k (by omega) a).1,cl k a⟩) (λk l a b=>⟨(ih k (by omega) a).2 l,rf k l a⟩)
  refine ⟨hc,λl=>?_⟩;by_cases hl:l < L
  ·rw [a5m h1 hl];refine rw_nd (λk a b=>⟨?_,cl k a⟩) (λk l a b=>⟨(ih k (by omega) a).2 l,rf k l a⟩);by_cases e:k=m
   ·subst e;exact hc
   ·exact (ih k (by omega) a).1
  ·rw [a3P hl];exact List.Pairwise.nil
theorem Cs_nd {L m:Nat} (h:1<=m):(Cs L m).Nodup:=(b2u m m (Nat.le_refl _) h).1
theorem prd_at {l a b:Nat} {A B:List Code} {c r:Code} (ha:A[a]?=some c) (hb:B[b]?=some r):(prd l A B)[a * B.length+b]?=some (ahd l c++r):=by
 have la:=(List.getElem?_eq_some_iff.mp ha).1;have lb:=(List.getElem?_eq_some_iff.mp hb).1;have hx:a * B.length+b < A.length * B.length:=by
  have:(a+1) * B.length<=A.length * B.length:=Nat.mul_le_mul_right _ la;rw [Nat.succ_mul] at this;omega
 obtain ⟨c',r',h1,h2,h3⟩:=a9g (l:=l) hx;have e1:(a * B.length+b) / B.length=a:=by
  rw [Nat.mul_comm,Nat.mul_add_div (by omega),Nat.div_eq_of_lt lb,Nat.add_zero]
 have e2:(a * B.length+b) % B.length=b:=by
  rw [Nat.mul_comm,Nat.mul_add_mod,Nat.mod_eq_of_lt lb]
 rw [e1,ha] at h1;rw [e2,hb] at h2;cases h1;cases h2;exact h3
end CT
theorem b1n {L l i j:Nat} {h t:Nat->Nat->Nat->OI} {a:Nat} {q:Nat × Nat} (hq:(wys L h t l i j)[a]?=some q):(wys L h t l i j).filter (λz=>decide (z.1 < q.1\/(z.1=q.1/\z.2 < q.2)))=(wys L h t l i j).take a:=by
 have pw:(wys L h t l i j).Pairwise λa b=>a.1 < b.1\/(a.1=b.1/\a.2 < b.2):=by
  unfold wys;exact CT.Bk_lt.filter _
 generalize wys L h t l i j=xs at hq pw;have la:=(List.getElem?_eq_some_iff.mp hq).1;have e:xs=xs.take a++q :: xs.drop (a+1):=by
  have:=List.getElem?_eq_some_iff.mp hq;obtain ⟨l1,l2⟩:=this;rw [<-l2,List.getElem_cons_drop,List.take_append_drop]
 have pw':=pw;rw [e] at pw';have p:=List.pairwise_append.mp pw';have pc:=List.pairwise_cons.mp p.2.1;have h1:(xs.take a).filter (λz=>decide (z.1 < q.1\/(z.1=q.1/\z.2 < q.2)))=xs.take a:=List.filter_eq_self.mpr λz hz=>decide_eq_true (p.2.2 z hz q (.head _));have h2:(q :: xs.drop (a+1)).filter (λz=>decide (z.1 < q.1\/(z.1=q.1/\z.2 < q.2)))=[]:=by
  refine List.filter_eq_nil_iff.mpr λz hz y=>?_;have y:=of_decide_eq_true y;rcases List.mem_cons.mp hz with rfl | hz
  ·omega
  ·have:=pc.1 z hz;omega
 calc xs.filter _=(xs.take a++q :: xs.drop (a+1)).filter _:=by rw [<-e]
  _=xs.take a:=by rw [List.filter_append,h1,h2,List.append_nil]
def At (c0:CT.Code) (i s:Nat) (cde:CT.Code):Prop:=∀ (k:Nat) v,cde[k]?=some v->∃ u,c0[i+k]?=some u/\u.drop s=v
theorem At.left {c0:CT.Code} {i s l:Nat} {c r:CT.Code} (h:At c0 i s (CT.ahd l c++r)):At c0 i (s+1) c:=λk v hv=>by
 have lk:=(List.getElem?_eq_some_iff.mp hv).1;obtain ⟨u,h1,h2⟩:=h k ((l:Int) :: v) (by
  have:(CT.ahd l c).length=c.length:=List.length_map ..;rw [List.getElem?_append_left (by omega)];unfold CT.ahd;rw [List.getElem?_map,hv];rfl)
 refine ⟨u,h1,?_⟩;rw [<-List.drop_drop,h2];rfl
theorem At.right {c0:CT.Code} {i s l:Nat} {c r:CT.Code} (h:At c0 i s (CT.ahd l c++r)):At c0 (i+c.length) s r:=λk v hv=>by
 obtain ⟨u,h1,h2⟩:=h (c.length+k) v (by
  have:(CT.ahd l c).length=c.length:=List.length_map ..;rw [List.getElem?_append_right (by omega),this,Nat.add_sub_cancel_left];exact hv)
 exact ⟨u,by rw [Nat.add_assoc];exact h1,h2⟩
theorem At.whole {c0:CT.Code}:At c0 0 0 c0:=λk v hv=>⟨v,by rw [Nat.zero_add];exact hv,rfl⟩
section
variable {C D:Addr} {H:Hp} {r:Addr} {ps ws:List Int} {h t:Nat->Nat->Nat->OI} {F:Nat->Nat->OI} {c:Nat->Nat->Nat} {u:Nat->Nat->Nat->Nat}
theorem a9x {i j:Nat} {cde:CT.Code} (hij:i < j) (e:cde∈Chh ps ws F i j):CT.Gd ps.length (j - i) (j - i - 1) cde:=by
 obtain ⟨x,hx⟩:=List.mem_iff_getElem?.mp e;exact b3O hij hx
theorem tx_fr {l i j:Nat} {cde:CT.Code} (hij:i<=j) (e:cde∈Txx ps ws t l i j):CT.Fr l cde/\cde.length=j - i:=by
 obtain ⟨x,hx⟩:=List.mem_iff_getElem?.mp e;refine ⟨?_,(b3P hij hx).ln⟩;unfold Txx CT.TX at e;split at e
 ·have:cde=[]:=by simpa using e
  subst this;intro u hu;cases hu
 ·exact (CT.b3Q (by omega) cde (List.mem_filter.mp e).1).2
theorem Cts.cut (a:Cts C D H r ps ws h t F c u) {l i j:Nat} (hl:l < ps.length) (hij:i < j) (hj:j<=ws.length) {cde:CT.Code} (hc:cde∈Txx ps ws t l i j):∃ (k:Nat) (q:Nat × Nat) (c1 r1:CT.Code),(wys ps.length h t l i j)[k]?=some q/\c1∈Chh ps ws F i (i+q.2+1)/\r1∈Txx ps ws t (q.1+1) (i+q.2+1) j/\cde=CT.ahd q.1 c1++r1/\c1.length=q.2+1/\CT.Fr (q.1+1) r1:=by
 rw [a.tx (λ_=>hl) (by omega) hj] at hc;unfold Tf at hc;rw [if_neg (by omega)] at hc;obtain ⟨q,hq,hc⟩:=List.mem_flatMap.mp hc;obtain ⟨c1,hc1,hc⟩:=List.mem_flatMap.mp hc;obtain ⟨r1,hr1,rfl⟩:=List.mem_map.mp hc;obtain ⟨w1,w2,w3⟩:=a.wq hl hij hj hq;obtain ⟨k,hk⟩:=List.mem_iff_getElem?.mp hq;refine ⟨k,q,c1,r1,hk,hc1,hr1,rfl,?_,(tx_fr w2 hr1).1⟩;have:=(a9x (by omega) hc1).ln;omega
theorem Cts.num (a:Cts C D H r ps ws h t F c u) {l i j:Nat} (hl:l < ps.length) (hij:i < j) (hj:j<=ws.length) {k:Nat} {q:Nat × Nat} {c1 r1:CT.Code} (hk:(wys ps.length h t l i j)[k]?=some q) {x y:Nat} (hx:(Chh ps ws F i (i+q.2+1))[x]?=some c1) (hy:(Txx ps ws t (q.1+1) (i+q.2+1) j)[y]?=some r1) :
  (Txx ps ws t l i j)[(((wys ps.length h t l i j).take k).map λq=>c i (i+q.2+1) * u (q.1+1) (i+q.2+1) j).sum+(x * u (q.1+1) (i+q.2+1) j+y)]?=some (CT.ahd q.1 c1++r1):=by
 have hq:=List.mem_of_getElem? hk;obtain ⟨w1,w2,w3⟩:=a.wq hl hij hj hq;rw [a.tx (λ_=>hl) (by omega) hj];unfold Tf;rw [if_neg (by omega)];have e1:=CT.prd_at (l:=q.1) hx hy;have lt:(Txx ps ws t (q.1+1) (i+q.2+1) j).length=u (q.1+1) (i+q.2+1) j:=a.ltx (by omega) w3 w2 hj;rw [lt] at e1;have:=CT.a2O (X:=pq ps ws t F i j) (b:=q) (wys ps.length h t l i j) k (x * u (q.1+1) (i+q.2+1) j+y) hk (by
  have:=(List.getElem?_eq_some_iff.mp e1).1;exact this)
 have e2:((wys ps.length h t l i j).take k).map (λb=>(pq ps ws t F i j b).length)=((wys ps.length h t l i j).take k).map λq=>c i (i+q.2+1) * u (q.1+1) (i+q.2+1) j:=List.map_congr_left λb hb=>a.lpq hl hij hj (List.mem_of_mem_take hb);rw [e2] at this;rw [this];exact e1
end
end K56
set_option exponentiation.threshold 2000
namespace K56
open PySem L2
namespace Kp
theorem At.head {c0:CT.Code} {i s:Nat} {cde:CT.Code} (h:At c0 i s cde) {k:Nat} {x:Int} {v:List Int} (hv:cde[k]?=some (x :: v)):∃ u,c0[i+k]?=some u/\u[s]?=some x:=by
 obtain ⟨u,h1,h2⟩:=h k _ hv;refine ⟨u,h1,?_⟩;have:=congrArg (λz:List Int=>z[0]?) h2;simpa using this
theorem heads {l:Nat} {c r:CT.Code} (f:CT.Fr (l+1) r) {k:Nat} (hk:k < (CT.ahd l c++r).length):∃ (x:Int) (v:List Int),(CT.ahd l c++r)[k]?=some (x :: v)/\(k < c.length->x=(l:Int))/\(¬ k < c.length->(l:Int) < x):=by
 have lc:(CT.ahd l c).length=c.length:=List.length_map ..;by_cases z:k < c.length
 ·refine ⟨(l:Int),c[k],?_,λ_=>rfl,λy=>absurd z y⟩;rw [List.getElem?_append_left (by omega)];unfold CT.ahd;rw [List.getElem?_map,List.getElem?_eq_getElem z];rfl
 ·rw [List.length_append,lc] at hk;have hk':k - c.length < r.length:=by omega
  obtain ⟨x,v,e,hx⟩:=f _ (List.getElem_mem hk');refine ⟨x,v,?_,λy=>absurd y z,λ_=>by omega⟩;rw [List.getElem?_append_right (by omega),lc,List.getElem?_eq_getElem hk',e]
section
variable {P':Program} {w:World} {K:PySem.W.Frag} {mg:Str->Option Value} {base:Heap} {f:Addr} {fd:FuncData}
abbrev NWo:List Str:=["code","first","end","size","cut"]
abbrev PWo:List Str:=["code","first","end","size"]
def spWo:Sp:=λvs H Q _=>∃ (a:Addr) (c0:CT.Code) (i j s l:Nat) (c r:CT.Code),vs=[.ref a,.int (i:Int),.int (j:Int),.int (s:Int)]/\Cde H a c0/\At c0 i s (CT.ahd l c++r)/\1<=c.length/\CT.Fr (l+1) r/\(CT.ahd l c++r).length=j - i/\i < j/\∀ t H',a0p H H'->H' t=some (.tup [.int (l:Int),.int ((i+c.length:Nat):Int)])->Q (.ref t) H'
theorem scWo:a0k NWo PWo (a0g sWo):=fsk
theorem ok_wo (F:Fun K "way_of" "way_of" sWo f fd):a0M P' w K mg base CX0 1 f fd PWo spWo:=by
 refine F.ok (k:=0) scWo (λvs H Q E h=>?_) (λcdv A outer s H vs Q E hr h=>?_)
 ·obtain ⟨a,c0,i,j,s,l,c,r,rfl,_⟩:=h;rfl
 obtain ⟨a,c0,i,j,s,l,c,r,rfl,cd,at0,c1,fr,ln,hij,q⟩:=h;obtain ⟨xs,ha,hx⟩:=cd.o;refine ⟨_,a0c (psA (i:=4) scWo (pv 1))
  (a0c (a2g PassesOwn.never (PW.pt (pw_and (a0r a3s (pv 4) (pv 2) (nomark _)) (b2I (a0r a1J (pxA a0y (pxA a0y (pv 0) (pv 4)) (pv 3)) (pxA a0y (pxA a0y (pv 0) (pv 1)) (pv 3)) (nomark _)))))
   (a0h (b1H (i:=4) scWo.nd rfl (Or.inl rfl) a0e b1I)))
  (a0h (a0o (a1p (a0a (pxA a0y (pxA a0y (pv 0) (pv 1)) (pv 3)) (a0a (pv 4) a0d)))))),?_⟩
 have lcl:(CT.ahd l c++r).length=c.length+r.length:=by rw [List.length_append];congr 1;exact List.length_map ..
 have rd:∀ k,k < j - i->∃ (b:Addr) (u:List Int) (x:Int),xs[i+k]?=some (.ref b)/\H b=some (.tup (u.map V.int))/\(u.map V.int)[s]?=some (.int x)/\(k < c.length->x=(l:Int))/\(¬ k < c.length->(l:Int) < x):=λk hk=>by
  obtain ⟨x,v,e,h1,h2⟩:=heads (l:=l) (c:=c) (r:=r) fr (k:=k) (by omega);obtain ⟨u,hu,hs⟩:=At.head at0 e;obtain ⟨y,hy,ry⟩:=Paired.left_of hx (i+k) u hu;obtain ⟨b,rfl,hb⟩:=Wd.ti ry;exact ⟨b,u,x,hy,hb,by rw [List.getElem?_map,hs];rfl,h1,h2⟩
 obtain ⟨b0,u0,x0,r1,r2,r3,r4,_⟩:=rd 0 (by omega);have e0:=r4 (by omega);subst e0;rw [Nat.add_zero] at r1;refine ⟨_,rfl,?_⟩;refine ⟨λm σ H'=>H'=H/\∃ k:Nat,m=j - i - k/\k<=c.length/\σ=[some (.ref a),some (.int (i:Int)),some (.int (j:Int)),some (.int (s:Int)),some (.int ((i+k:Nat):Int))],⟨_,rfl,0,rfl,by omega,rfl⟩,?_⟩;rintro m σ H' ⟨rfl,k,rfl,hk,rfl⟩;refine ⟨_,rfl,_,rfl,_,_,rfl,rfl,_,rfl,?_⟩;refine a2b (λy=>?_) (λy=>?_)
 ·have y1:((i+k:Nat):Int) < (j:Int):=of_decide_eq_true y;obtain ⟨b,u,x,k1,k2,k3,k4,k5⟩:=rd k (by omega);refine ⟨_,rfl,_,rfl,a,_,_,_,rfl,rfl,SqT.of ha,a0S k1,_,rfl,b,_,_,_,rfl,rfl,SqT.of k2,a0S k3,_,rfl,_,rfl,a,_,_,_,rfl,rfl,SqT.of ha,a0S r1,_,rfl,b0,_,_,_,rfl,rfl,SqT.of r2,a0S r3,rfl,_,rfl,?_⟩;refine a2b (λz=>?_) (λz=>?_)
  ·have z1:x=(l:Int):=V.int.inj (of_decide_eq_true z);have kc:k < c.length:=by
    by_cases w:k < c.length
    ·exact w
    ·have:=k5 w;omega
   refine ⟨_,λσ' H' n'=>n',?_⟩;refine ⟨_,rfl,_,_,rfl,rfl,j - i - (k+1),by omega,rfl,k+1,rfl,by omega,?_⟩;rfl
  ·have kc:k=c.length:=by
    by_cases w:k < c.length
    ·exact absurd (decide_eq_true (by rw [k4 w])) z
    ·omega
   subst kc;refine ⟨_,rfl,_,rfl,a,_,_,_,rfl,rfl,SqT.of ha,a0S r1,_,rfl,b0,_,_,_,rfl,rfl,SqT.of r2,a0S r3,_,rfl,(by show 2<=sizeLine;decide),λt ht=>q t _ (a0f ht _) a0b⟩
 ·have kc:k=c.length:=by
   have:¬ ((i+k:Nat):Int) < (j:Int):=λz=>y (decide_eq_true z);omega
  subst kc;refine ⟨_,rfl,_,rfl,a,_,_,_,rfl,rfl,SqT.of ha,a0S r1,_,rfl,b0,_,_,_,rfl,rfl,SqT.of r2,a0S r3,_,rfl,(by show 2<=sizeLine;decide),λt ht=>q t _ (a0f ht _) a0b⟩
end
end Kp
end K56
set_option exponentiation.threshold 2000
namespace K56
open PySem L2
namespace Kp
theorem lex2 {a b c d:Nat}:HT.a1d [(a:Int),(b:Int)] [(c:Int),(d:Int)]=decide (a < c\/(a=c/\b < d)):=by
 rw [HT.a0J,HT.a0J];by_cases e:a=c
 ·subst e;rw [if_pos rfl];by_cases e2:b=d
  ·subst e2;rw [if_pos rfl,decide_eq_false (by omega)];rfl
  ·rw [if_neg (by omega)];by_cases z:b < d
   ·rw [decide_eq_true (by omega),decide_eq_true (by omega)]
   ·rw [decide_eq_false (by omega),decide_eq_false (by omega)]
 ·rw [if_neg (by omega)];by_cases z:a < c
  ·rw [decide_eq_true (by omega),decide_eq_true (by omega)]
  ·rw [decide_eq_false (by omega),decide_eq_false (by omega)]
theorem way_tw {H:Hp} {i:Nat} {x:V} {q:Nat × Nat} (h:Way H i x q):∃ a,x=.ref a/\H a=some (.tup ([(q.1:Int),((i+q.2+1:Nat):Int)].map V.int)):=h
section
variable {P':Program} {w:World} {K:PySem.W.Frag} {mg:Str->Option Value} {base:Heap} {f:Addr} {fd:FuncData}
abbrev NNw:List Str:=["counts","code","first","end","size"]
abbrev NNt:List Str:=["counts","code","letter","first","end","size","own","ahead","behind","inside","rest"]
abbrev PNt:List Str:=["counts","code","letter","first","end","size"]
def spNw (C D:Addr) (d:Nat):Sp:=λvs H Q _=>∃ (r:Addr) (ps ws:List Int) (h t:Nat->Nat->Nat->OI) (F:Nat->Nat->OI) (c:Nat->Nat->Nat) (u:Nat->Nat->Nat->Nat) (a:Addr) (c0:CT.Code) (i j s:Nat) (cde:CT.Code),vs=[.ref r,.ref a,.int (i:Int),.int (j:Int),.int (s:Int)]/\Cts C D H r ps ws h t F c u/\Cde H a c0/\i < j/\j<=ws.length/\3 * (j - i)+2<=d/\cde∈Chh ps ws F i j/\At c0 i s cde /\
 ∀ H' (x:Nat),a0p H H'->(Chh ps ws F i j)[x]?=some cde->Q (.int (x:Int)) H'
def spNt (C D:Addr) (d:Nat):Sp:=λvs H Q _=>∃ (r:Addr) (ps ws:List Int) (h t:Nat->Nat->Nat->OI) (F:Nat->Nat->OI) (c:Nat->Nat->Nat) (u:Nat->Nat->Nat->Nat) (a:Addr) (c0:CT.Code) (l i j s:Nat) (cde:CT.Code),vs=[.ref r,.ref a,.int (l:Int),.int (i:Int),.int (j:Int),.int (s:Int)]/\Cts C D H r ps ws h t F c u/\Cde H a c0/\i<=j/\(i < j->l < ps.length)/\j<=ws.length/\3 * (j - i)+1<=d/\(∀ q∈wys ps.length h t l i j,3 * (q.2+1)+3<=d)/\cde∈Txx ps ws t l i j/\At c0 i s cde /\
 ∀ H' (x:Nat),a0p H H'->(Txx ps ws t l i j)[x]?=some cde->Q (.int (x:Int)) H'
theorem scNw:a0k NNw NNw (a0g sNw):=fsk
theorem b3Z:a0k NNt PNt (a0g sNt):=fsk
theorem ndNt:(("way":Str) :: NNt).Nodup:=by decide +kernel
theorem ok_nwt {C D:Addr} {f2:Addr} {fd2:FuncData} (FW:Fun K "number_of_words" "number_of_words" sNw f fd) (FT:Fun K "number_of_tail" "number_of_tail" sNt f2 fd2) (mw:mg "number_of_words"=some (.ref f)) (kw:PySem.W.keepIn K (.ref f)=true) (bw:a1r K fd NNw []) (mt:mg "number_of_tail"=some (.ref f2)) (kt:PySem.W.keepIn K (.ref f2)=true) (bt:a1r K fd2 PNt [])
  (GO:Fns P' w K mg base PWo "way_of" spWo 3) (MW:Mt P' w K mg base C "ways" ["self","letter","first","end"] (a3L C) 3) (MY:Mt P' w K mg base D "by_way" NBy (spBy D) 3) (rcP:PC K C) (rc:DC K D) (ms:mg "sum"=none):∀ d,a0M P' w K mg base CX0 (d+4) f fd NNw (spNw C D d)/\a0M P' w K mg base CX0 (d+4) f2 fd2 PNt (spNt C D d):=by
 intro d
 induction d with
 | zero =>
  refine ⟨FW.ok (k:=3) scNw (λvs H Q E h=>?_) (λcdv A outer s H vs Q E hr h=>?_),FT.ok (k:=3) b3Z (λvs H Q E h=>?_) (λcdv A outer s H vs Q E hr h=>?_)⟩
  all_goals exfalso
  ·obtain ⟨r,ps,ws,h,t,F,c,u,a,c0,i,j,s,cde,rfl,_,_,_,_,z,_⟩:=h;omega
  ·obtain ⟨r,ps,ws,h,t,F,c,u,a,c0,i,j,s,cde,rfl,_,_,_,_,z,_⟩:=h;omega
  ·obtain ⟨r,ps,ws,h,t,F,c,u,a,c0,l,i,j,s,cde,rfl,_,_,_,_,_,z,_⟩:=h;omega
  ·obtain ⟨r,ps,ws,h,t,F,c,u,a,c0,l,i,j,s,cde,rfl,_,_,_,_,_,z,_⟩:=h;omega
 | succ d ih =>
  obtain ⟨OW,OT⟩:=ih;constructor
  ·refine FW.ok (k:=d+4) scNw (λvs H Q E h=>?_) (λcdv A outer s H vs Q E hr h=>?_)
   ·obtain ⟨r,ps,ws,h,t,F,c,u,a,c0,i,j,s,cde,rfl,_⟩:=h;rfl
   obtain ⟨r,ps,ws,h,t,F,c,u,a,c0,i,j,s,cde,rfl,ct,cd,hij,hj,hd,hc,ha,q⟩:=h;refine ⟨_,a0c (a0W (a0r a1J (a0l a1k (pv 3) (pv 2)) a0e (nomark _)) (a0h (a0o a0e)) a0u)
    (a0h (a0o (a0Z OT hr (by rfl) mt kt bt .nil a0Y (a0a (pv 0) (a0a (pv 1) (a0a a0e (a0a (pv 2) (a0a (pv 3) (a0a (pv 4) a0d))))))))),?_⟩
   refine ⟨_,rfl,_,rfl,_,_,rfl,rfl,rfl,_,rfl,?_⟩;refine a2b (λz=>?_) (λz=>?_)
   ·have z1:j=i+1:=by
     have y:V.int ((j:Int) - (i:Int))=V.int 1:=of_decide_eq_true z;have:=V.int.inj y;omega
    subst z1;obtain ⟨x,hx⟩:=List.mem_iff_getElem?.mp hc;have lx:=(List.getElem?_eq_some_iff.mp hx).1;have ll:(Chh ps ws F i (i+1)).length<=1:=by
     refine Nat.le_trans (List.length_filter_le _ _) ?_;rw [show i+1 - i=1 by omega,CT.a1R];exact Nat.le_refl _
    have x0:x=0:=by omega
    subst x0;exact q H 0 (a0p.refl _) hx
   ·have z1:¬ j - i=1:=λy=>z (decide_eq_true (by show V.int ((j:Int) - (i:Int))=V.int 1;congr 1;omega));have L2':=ct.L;have ec:Chh ps ws F i j=Txx ps ws t 0 i j:=by rw [ct.ch (by omega) hj,ct.tx (λ_=>by omega) (by omega) hj]
    refine ⟨_,rfl,_,rfl,_,rfl,_,rfl,_,rfl,r,ps,ws,h,t,F,c,u,a,c0,0,i,j,s,cde,rfl,ct,cd,by omega,λ_=>by omega,hj,by omega,λq hq=>?_,?_,ha,λH' x s' hx=>q H' x s' (by rw [ec];exact hx)⟩
    ·have:=wys0 ct.T (by omega) (by omega) hj hq;omega
    ·rw [<-ec];exact hc
  ·refine FT.ok (k:=d+4) b3Z (λvs H Q E h=>?_) (λcdv A outer s H vs Q E hr h=>?_)
   ·obtain ⟨r,ps,ws,h,t,F,c,u,a,c0,l,i,j,s,cde,rfl,_⟩:=h;rfl
   obtain ⟨r,ps,ws,h,t,F,c,u,a,c0,l,i,j,s,cde,rfl,ct,cd,hij,hlt,hj,hd,hdq,hc,ha,q⟩:=h;have MW':=MW.up (show 3<=d+4 by omega);have MY':=MY.up (show 3<=d+4 by omega);have GO':=GO.up (show 3<=d+4 by omega);refine ⟨_,a0c (a0W (a0r a1J (pv 3) (pv 4) (nomark _)) (a0h (a0o a0e)) a0u)
    (a0c (psA (i:=6) b3Z (a0Z GO'.ok hr (by rfl) GO'.m GO'.kp GO'.b .nil a0Y (a0a (pv 1) (a0a (pv 3) (a0a (pv 4) (a0a (pv 5) a0d))))))
    (a0c (a6A (i:=7) (M:=NNt) b3Z.nd rfl rfl rfl (cso (a0g sNt) NNt) ndNt rfl (a5c (a0P (a0F (pv 0) rfl) rcP.c MW'.m MW'.ok hr MW'.b .nil a0Y (a0a (pv 2) (a0a (pv 3) (a0a (pv 4) a0d))))) a6v
     (λcl C s0 H0 fp=>⟨a2v (a0r (b2q K (hu0 hr)) (pv 0) (pv 7) (nomark _)),pv 0⟩))
    (a0c (psA (i:=8) b3Z (pxA a0j (pxA a0j (pxA a0j (a0F (pv 0) rfl) (a0l a0t (pxA a0y (pv 6) a0e) a0e)) (pxA a0y (pv 6) a0e)) (pv 4)))
    (a0c (psA (i:=9) b3Z (a0Z OW hr (by rfl) mw kw bw .nil a0Y (a0a (pv 0) (a0a (pv 1) (a0a (pv 3) (a0a (pxA a0y (pv 6) a0e) (a0a (a0l a0t (pv 5) a0e) a0d)))))))
    (a0c (psA (i:=10) b3Z (a0Z OT hr (by rfl) mt kt bt .nil a0Y (a0a (pv 0) (a0a (pv 1) (a0a (a0l a0t (pxA a0y (pv 6) a0e) a0e) (a0a (pxA a0y (pv 6) a0e) (a0a (pv 4) (a0a (pv 5) a0d))))))))
    (a0h (a0o (a0l a0t (a0l a0t (a0G (a2k rfl) (by rfl) ms a8k (a0a (a1B (M:=NNt) rfl (cso (a0g sNt) NNt) ndNt rfl (pv 7) a0O
     (λcl C s0 H0 fp=>⟨a0L,a0P (pv 1) rc.c MY'.m MY'.ok hr MY'.b .nil a0Y (a0a (pv 0) (a0a (pv 4) (a0a (pv 5) a0d)))⟩)) a0d)) (a0l a8Y (pv 9) (pv 8))) (pv 10))))))))),?_⟩
   refine ⟨_,rfl,_,rfl,rfl,_,rfl,?_⟩;refine a2b (λz=>?_) (λz=>?_)
   ·have z1:i=j:=by have:=V.int.inj (of_decide_eq_true z);omega
    subst z1;have e1:Txx ps ws t l i i=[[]]:=by unfold Txx CT.TX;rw [if_pos rfl]
    rw [e1] at hc;have:cde=[]:=by simpa using hc
    subst this;exact q H 0 (a0p.refl _) (by rw [e1];rfl)
   have ne:i≠j:=λy=>z (decide_eq_true (by rw [y]));have hij':i < j:=by omega
   have hl:=hlt hij';obtain ⟨k0,q0,c1,r1,hk,hc1,hr1,rfl,lc1,fr1⟩:=ct.cut hl hij' hj hc;have hqm:=List.mem_of_getElem? hk;obtain ⟨pr,p,X,Y,Tc,Tt,pa,ca,ctd⟩:=ct.ob;obtain ⟨dx,ho⟩:=ca.ob;obtain ⟨dp,hop⟩:=pa.ob;obtain ⟨L2',L4,n6⟩:=ct.L;obtain ⟨lr1a,lr1⟩:=tx_fr (ct.wq hl hij' hj hqm).2.1 hr1;have lcde:(CT.ahd q0.1 c1++r1).length=j - i:=by
    obtain ⟨x,hx⟩:=List.mem_iff_getElem?.mp hc;exact (b3P (by omega) hx).ln
   refine ⟨_,rfl,_,rfl,_,rfl,_,rfl,a,c0,i,j,s,q0.1,c1,r1,rfl,cd,ha,by omega,fr1,lcde,hij',λow H1 s1 how=>?_⟩;have e1:i+c1.length=i+q0.2+1:=by omega
   rw [e1] at how;refine ⟨λv H2=>∃ d xs,v=.ref d/\a0p H1 H2/\H2 d=some (.lst xs)/\Paired (Way H2 i) xs (wys ps.length h t l i j),?_,λv H2 hv=>?_⟩
   ·exact ⟨_,rfl,r,D,dx,_,_,rfl,s1 _ _ ho,rc.c,rc.np,rfl,pr,dp,_,rfl,s1 _ _ hop,rfl,_,rfl,_,rfl,_,rfl,pr,p,ps,ws,X,h,t,l,i,j,rfl,pa.same s1,by omega,by omega,hl,hij',hj,λd xs H' s' g' w'=>⟨d,xs,rfl,s',g',w'⟩⟩
   obtain ⟨dw,xw,rfl,s2,g2,w2⟩:=hv;have s12:=s1.trans s2;have lxw:xw.length=(wys ps.length h t l i j).length:=w2.length;have l24:=a4s (L:=ps.length) (l:=l) (i:=i) (j:=j) (h:=h) (t:=t) L4 (by omega)
   let lw:Nat × Nat->Bool:=λz=>decide (z.1 < q0.1\/(z.1=q0.1/\z.2 < q0.2))
   refine ⟨dw,_,rfl,SqL.of g2,λda hda=>?_⟩;refine ⟨λk H'=>a0p H2 H'/\∃ ys,H' da=some (.lst ys)/\Paired (Way H' i) ys (((wys ps.length h t l i j).take k).filter lw),⟨a0f hda _,[],a0b,.nil⟩,λk H' _ hP=>SqL.of (hP.1 _ _ g2),λk x H' hx hP=>?_,λH3 hP=>?_⟩
   ·obtain ⟨s3,ys,g3,w3⟩:=hP;obtain ⟨q',hq,rx⟩:=Paired.right_of w2 k x hx;obtain ⟨wt,rfl,hwt⟩:=way_tw rx;have kl:=(List.getElem?_eq_some_iff.mp hq).1;have et:((wys ps.length h t l i j).take (k+1)).filter lw=((wys ps.length h t l i j).take k).filter lw++[q'].filter lw:=by rw [List.take_add_one,hq,List.filter_append];rfl
    refine ⟨_,rfl,_,rfl,wt,ow,[(q'.1:Int),((i+q'.2+1:Nat):Int)],[(q0.1:Int),((i+q0.2+1:Nat):Int)],rfl,rfl,SqT.of (s3 _ _ hwt),SqT.of ((s2.trans s3) _ _ how),_,rfl,?_⟩;have el:HT.a1d [(q'.1:Int),((i+q'.2+1:Nat):Int)] [(q0.1:Int),((i+q0.2+1:Nat):Int)]=lw q':=by
     rw [lex2];exact decide_eq_decide.mpr (by omega)
    rw [el];refine a2b (λy=>?_) (λy=>?_)
    ·refine ⟨_,rfl,_,g3,?_,a0n hda s3,_,a0b,?_⟩
     ·have h1:=w3.length;have h2:=List.length_filter_le lw ((wys ps.length h t l i j).take k);rw [List.length_take] at h2;exact a0m (by omega)
     ·rw [et,List.filter_cons,if_pos y];exact L2.Paired.appendP (Paired.mapP w3 λ_ _ r=>r.upd g3) (.cons (Way.upd g3 ⟨wt,rfl,s3 _ _ hwt⟩) .nil)
    ·refine ⟨s3,ys,g3,?_⟩;rw [et,List.filter_cons,if_neg y,List.filter_nil,List.append_nil];exact w3
   obtain ⟨s3,ya,g3,w3⟩:=hP;rw [lxw,List.take_length,b1n hk] at w3;have s13:=s12.trans s3;have how3:=(s2.trans s3) _ _ how;have ca3:=ca.same s13;have ho3:=s13 _ _ ho;have bw':∀ q∈wys ps.length h t l i j,q.1 < ps.length/\i+q.2+1<=j/\(i+q.2+1 < j->q.1+1 < ps.length)/\Tc i (i+q.2+1)=some (c i (i+q.2+1):Int)/\Tt (q.1+1) (i+q.2+1) j=some (u (q.1+1) (i+q.2+1) j:Int)/\c i (i+q.2+1)<=2 ^ 1000/\u (q.1+1) (i+q.2+1) j<=2 ^ 1000:=λq hq=>by
    obtain ⟨a1,a2,a3⟩:=ct.wq hl hij' hj hq;refine ⟨a1,a2,a3,ctd.vc i (i+q.2+1) (by omega) (by omega) trivial,?_,ct.c9 (by omega) (by omega),ct.u9 (by omega) a3 a2 hj⟩;by_cases y:i+q.2+1 < j
    ·exact ctd.vt (q.1+1) (i+q.2+1) j (a3 y) y hj trivial
    ·have y1:i+q.2+1=j:=by omega
     rw [y1,ctd.dg (q.1+1) j (by omega) hj,ctd.td (q.1+1) j (by omega) hj];rfl
   have bi:∀ {y:Nat},y<=2 ^ 1000->(y:Int)<=2 ^ 1000:=λhy=>Int.le_trans (Int.ofNat_le.mpr hy) (by rw [Int.natCast_pow];exact Int.le_refl _);obtain ⟨b1,b2,b3,b4,b5,b6,b7⟩:=bw' q0 hqm;refine ⟨_,rfl,r,D,dx,_,_,rfl,ho3,rc.c,rc.nt,rfl,_,rfl,ow,_,_,_,rfl,rfl,SqT.of how3,rfl,_,_,rfl,rfl,Y.tt,_,_,_,rfl,rfl,SqL.of ca3.tl.o,a0s (k:=q0.1+1) (by omega),_,rfl,ow,_,_,_,rfl,rfl,SqT.of how3,rfl,Y.bt (q0.1+1),_,_,_,rfl,rfl,SqL.of (ca3.tl.b (q0.1+1) (by omega)),a0s (k:=i+q0.2+1) (by omega),_,rfl,Y.ct (q0.1+1) (i+q0.2+1),_,_,_,rfl,rfl,SqL.of (ca3.tl.c (q0.1+1) (i+q0.2+1) (by omega) (by omega)),a0s (k:=j) (by omega),?_⟩;rw [b5];refine ⟨_,rfl,_,rfl,_,rfl,_,rfl,ow,_,_,_,rfl,rfl,SqT.of how3,rfl,_,rfl,_,_,rfl,rfl,?_⟩;refine ⟨r,ps,ws,h,t,F,c,u,a,c0,i,i+q0.2+1,s+1,c1,rfl,ct.same s13,cd.same s13,by omega,by omega,?_,hc1,ha.left,λH4 x s4 hx=>?_⟩
   ·have:=hdq q0 hqm;omega
   have how4:=s4 _ _ how3;have s14:=s13.trans s4;refine ⟨_,rfl,_,rfl,_,rfl,ow,_,_,_,rfl,rfl,SqT.of how4,rfl,_,_,rfl,rfl,_,rfl,ow,_,_,_,rfl,rfl,SqT.of how4,rfl,_,rfl,_,rfl,?_⟩;have ar:=ha.right;rw [lc1] at ar;refine ⟨r,ps,ws,h,t,F,c,u,a,c0,q0.1+1,i+q0.2+1,j,s,r1,rfl,ct.same s14,cd.same s14,b2,b3,hj,by omega,λq2 hq2=>?_,hr1,ar,λH5 y s5 hy=>?_⟩
   ·have e1:=(CT.a0v.mp (a1u.mp hq2).1).2.2;omega
   have s15:=s14.trans s5;have g5:=(s4.trans s5) _ _ g3;have w5:Paired (Way H5 i) ya ((wys ps.length h t l i j).take k0):=Paired.mapP w3 λ_ _ r=>r.same (s4.trans s5);have ca5:=ca.same s15;have ho5:=s15 _ _ ho;have ly:ya.length=((wys ps.length h t l i j).take k0).length:=w5.length;refine ⟨_,rfl,da,_,rfl,SqL.of g5,λe2 he2=>?_⟩;refine ⟨λk H'=>a0p H5 H'/\H' e2=some (.lst (((((wys ps.length h t l i j).take k0).take k).map λq=>((c i (i+q.2+1) * u (q.1+1) (i+q.2+1) j:Nat):Int)).map V.int)),⟨a0f he2 _,a0b⟩,λk H' _ hP=>SqL.of (hP.1 _ _ g5),λk x' H' hx' hP=>?_,λH6 hP=>?_⟩
   ·obtain ⟨s6,g6⟩:=hP;obtain ⟨q',hq,rx⟩:=Paired.right_of w5 k x' hx';obtain ⟨wt,rfl,hwt⟩:=rx;have hm:q'∈wys ps.length h t l i j:=List.mem_of_mem_take (List.mem_of_getElem? hq);have kl:=(List.getElem?_eq_some_iff.mp hq).1;rw [List.length_take] at kl;obtain ⟨d1,d2,d3,d4,d5,d6,d7⟩:=bw' q' hm;refine a0E ⟨_,rfl,r,dx,_,rfl,s6 _ _ ho5,rfl,_,rfl,_,rfl,_,rfl,r,pr,ps.length,ws.length+1,Y,Tc,Tt,wt,i,q'.1,i+q'.2+1,j,c i (i+q'.2+1),u (q'.1+1) (i+q'.2+1) j,rfl,ca5.same s6,s6 _ _ hwt,by omega,by omega,by omega,d1,d4,d5,d6,d7,_,g6,?_,a0n he2 s6,?_⟩
    ·rw [List.length_map,List.length_map,List.length_take,List.length_take];exact a0m (by omega)
    ·rw [a0b,List.take_add_one,hq,List.map_append,List.map_append];rfl
   obtain ⟨s6,g6⟩:=hP;rw [ly,List.take_length] at g6;refine ⟨e2,_,rfl,g6,?_⟩;have es:(((wys ps.length h t l i j).take k0).map λq=>((c i (i+q.2+1) * u (q.1+1) (i+q.2+1) j:Nat):Int)).sum=(((((wys ps.length h t l i j).take k0).map λq=>c i (i+q.2+1) * u (q.1+1) (i+q.2+1) j).sum:Nat):Int):=by
    rw [<-a8Z,List.map_map];rfl
   rw [es];have lx:=(List.getElem?_eq_some_iff.mp hx).1;rw [ct.lch (by omega) (by omega)] at lx;refine ⟨_,rfl,_,rfl,_,_,rfl,rfl,⟨⟨Int.natCast_nonneg _,bi (Nat.le_trans (Nat.le_of_lt lx) b6)⟩,⟨Int.natCast_nonneg _,bi b7⟩⟩,_,_,rfl,rfl,_,rfl,_,_,rfl,rfl,?_⟩;have num:=ct.num hl hij' hj hk hx hy;have ev:(((((wys ps.length h t l i j).take k0).map λq=>c i (i+q.2+1) * u (q.1+1) (i+q.2+1) j).sum:Nat):Int)+(x:Int) * (u (q0.1+1) (i+q0.2+1) j:Int)+(y:Int)=(((((wys ps.length h t l i j).take k0).map λq=>c i (i+q.2+1) * u (q.1+1) (i+q.2+1) j).sum+(x * u (q0.1+1) (i+q0.2+1) j+y):Nat):Int):=by
    push_cast
    omega
   dsimp only;rw [ev];exact q H6 _ (s15.trans s6) num
end
end Kp
end K56
set_option exponentiation.threshold 2000
namespace L2
open PySem PySem.Spec PyProof.Rows
end L2
namespace K56
open PySem L2
theorem chp_nd {ps ws:List Int} (n1:1<=ws.length):(chp ps ws).Nodup:=(CT.Cs_nd n1).filter _
namespace Kp
theorem b2v {α:Type} [DecidableEq α] {xs:List α} (nd:xs.Nodup) {x:Nat} {c:α} (h:xs[x]?=some c):xs.idxOf c=x:=by
 obtain ⟨lx,rfl⟩:=List.getElem?_eq_some_iff.mp h;exact List.Nodup.idxOf_getElem nd x lx
def kd (ps ws:List Int) (c:CT.Code):Nat:=if c.length=ws.length then (if c.all (alone (ps.length:Int))=true then (if c∈chp ps ws then 3 else 2) else 1) else 0
section
variable {P':Program} {w:World} {K:PySem.W.Frag} {mg:Str->Option Value} {base:Heap} {f:Addr} {fd:FuncData}
def spNo (CU CB CN:Addr):Sp:=λvs H Q E=>∃ (p q a:Addr) (ps ws:List Int) (c:CT.Code),vs=[.ref p,.ref q,.ref a]/\In2 H p q ps ws/\Cde H a c /\
 (kd ps ws c=0->∀ H',a0p H H'->E (.ref CU) none H')/\(kd ps ws c=1->∀ H',a0p H H'->E (.ref CB) none H')/\(kd ps ws c=2->∀ H',a0p H H'->E (.ref CN) none H') /\
 (kd ps ws c=3->∀ H' (x:Nat),a0p H H'->(chp ps ws)[x]?=some c->Q (.int (x:Int)) H')
theorem scNo:a0k NC NC (a0g sNo):=fsk
theorem ok_no {C D CU CB CN:Addr} (F:Fun K "number_of" "number_of" sNo f fd) (GI:b0x P' w K mg base NC "is_cheapest_kept" (spIck CU CB) 80) (cl:ClC P' w K mg base C D) (GW:Fns P' w K mg base NNw "number_of_words" (spNw C D 76) 80) (ml:mg "len"=none) (mN:mg "NotCheapest"=some (.ref CN)) (eN:Ecl K CN):a0M P' w K mg base (CXF P' w) 81 f fd NC (spNo CU CB CN):=by
 refine F.okF (k:=80) scNo (λvs H Q E h=>?_) (λcdv A outer s H vs Q E hr h=>?_)
 ·obtain ⟨p,q,a,ps,ws,c,rfl,_⟩:=h;rfl
 obtain ⟨p,q,a,ps,ws,cc,rfl,i2,cd,q0,q1,q2,q3⟩:=h;obtain ⟨L2',L4,m6⟩:=a9q i2.il;have nu:=i2.nu;have w1:=nu.w1;have oki:=cl.oki.mono (show 6<=79 by decide);refine ⟨_,a0c (a0W (a1K (a2c (a0Z GI.ok hr (by rfl) GI.m GI.kp GI.b .nil a1z (a0a (pv 0) (a0a (pv 1) (a0a (pv 2) a0d)))))) (a0h (a2K a1z rfl (by rfl) mN eN (a0a a6h a0d))) a0u)
  (a0h (a0o (pcF GW hr (a0a (a4b cl.mkk oki hr (by rfl) cl.g cl.bi .nil a0Y (a0a (pv 0) (a0a (pv 1) a0d))) (a0a (pv 2) (a0a a0e (a0a (pln ml (pv 1)) (a0a a0e a0d)))))))),?_⟩
 refine ⟨_,rfl,_,rfl,_,rfl,p,q,a,ps,ws,cc,rfl,i2,cd,λne=>q0 (by unfold kd;rw [if_neg ne]),λel al H1 b s1 hb=>?_,λel bad=>q1 (by
  unfold kd;rw [if_pos el,if_neg];intro z;obtain ⟨u,hu,e⟩:=bad;have:=List.all_eq_true.mp z u hu;rw [e] at this;cases this)⟩
 have ka:cc.all (alone (ps.length:Int))=true:=List.all_eq_true.mpr al;refine ⟨b,rfl,?_⟩;cases b with
 | false =>
  refine a6r ⟨by decide,q2 ?_ H1 s1⟩;unfold kd;rw [if_pos el,if_pos ka,if_neg λz=>by cases hb.mpr z]
 | true =>
  have hm:=hb.mp rfl;have k3:kd ps ws cc=3:=by unfold kd;rw [if_pos el,if_pos ka,if_pos hm]
  refine a3G ?_;have i21:=i2.same s1;refine ⟨_,rfl,_,rfl,λr dx rn hdx _=>?_⟩;have sm:a0p H1 (upd (upd H1 dx (.own r)) r (.ins D dx [])):=a0n rn (a0f hdx _);refine ⟨r,dx,p,q,ps,ws,rfl,a0b,sm _ _ i21.hp,sm _ _ i21.hq,nu,i2.pp,i2.pw,L4,m6,λH2 pr X h t Fl Y Tc Tt c u k1 pa ca T ctd=>⟨rfl,?_⟩⟩;have s2:a0p H1 H2:=λa o e=>k1 a o (λz=>by rw [z,rn] at e;cases e) (sm a o e);have ct:Cts C D H2 r ps ws h t Fl c u:=⟨⟨pr,p,X,Y,Tc,Tt,pa,ca,ctd⟩,T,ctd.cn,i2.il⟩
  have s12:=s1.trans s2;have ech:=a9r ct w1;refine ⟨_,rfl,_,rfl,q,_,rfl,.inr (SqT.of (s12 _ _ i2.hq)),?_⟩;rw [List.length_map];refine ⟨r,ps,ws,h,t,Fl,c,u,a,cc,0,ws.length,0,cc,rfl,ct,cd.same s12,by omega,Nat.le_refl _,by omega,by rw [<-ech];exact hm,At.whole,λH3 x s3 hx=>q3 k3 H3 x (s12.trans s3) (by rw [ech];exact hx)⟩
end
end Kp
end K56
set_option exponentiation.threshold 2000
namespace K56
open PySem L2
section
variable {L n:Nat} {h t:Nat->Nat->Nat->OI} {F:Nat->Nat->OI} {p:Nat->Int} {W:Nat->Nat->Int}
theorem wys_ne (T:CT.Tb L n h t F p W) {l i j:Nat} (hl:l < L) (hij:i < j) (hj:j<=n):∃ q r,wys L h t l i j=q :: r:=by
 cases e:t l i j with
 | none=>exact absurd e (T.tn l i j hl hij hj)
 | some x =>
  have et:=T.tt l i j (by omega) hij hj;have hx:=(a1a.mp (et.symm.trans e)).1;obtain ⟨q,hq,ev⟩:=List.mem_map.mp hx;have hm:q∈wys L h t l i j:=a1u.mpr ⟨hq,by rw [ev,e]⟩;cases eq:wys L h t l i j with
  | nil=>rw [eq] at hm;cases hm
  | cons q r=>exact ⟨q,r,rfl⟩
mutual
inductive Kc (L:Nat) (h t:Nat->Nat->Nat->OI):Nat->Nat->CT.Code->Prop
 | one (i:Nat):Kc L h t i (i+1) [[]]
 | more (i j:Nat) (c:CT.Code):i+2<=j->Kt L h t 0 i j c->Kc L h t i j c
inductive Kt (L:Nat) (h t:Nat->Nat->Nat->OI):Nat->Nat->Nat->CT.Code->Prop
 | nil (l j:Nat):Kt L h t l j j []
 | cons (l i j:Nat) (q:Nat × Nat) (c r:CT.Code):q∈wys L h t l i j->Kc L h t i (i+q.2+1) c->Kt L h t (q.1+1) (i+q.2+1) j r->Kt L h t l i j (CT.ahd q.1 c++r)
end
end
def a1b (T:Addr) (H H':Hp):Prop:=∀ a o,a≠T->H a=some o->H' a=some o
theorem a1b.trans {T:Addr} {H H1 H2:Hp} (a:a1b T H H1) (b:a1b T H1 H2):a1b T H H2:=λx o n e=>b x o n (a x o n e)
theorem a1b.of {T:Addr} {H H':Hp} (s:a0p H H'):a1b T H H':=λa o _ e=>s a o e
theorem a1q.same {H H':Hp} {T:Addr} {lpos:Pos} {q:Str} (s:a0p H H') (x:a1q H T lpos q):a1q H' T lpos q:=by
 rcases x with e | ⟨c,e,ec⟩
 ·exact .inl (s _ _ e)
 ·exact .inr ⟨c,s _ _ e,s _ _ ec⟩
theorem a1q.tb {H:Hp} {T:Addr} {lpos:Pos} {q:Str} (x:a1q H T lpos q):∃ ps,H T=some (.tbl ps):=by
 rcases x with e | ⟨c,e,_⟩
 ·exact ⟨_,e⟩
 ·exact ⟨_,e⟩
theorem PAt.sameT {C:Addr} {H H':Hp} {r p T:Addr} {ps ws:List Int} {X:Ad} {h t:Nat->Nat->Nat->OI} {qs:Array Value} (a:PAt C H r p ps ws X h t) (hT:H T=some (.tbl qs)) (k:a1b T H H'):PAt C H' r p ps ws X h t:=by
 obtain ⟨dx,ho⟩:=a.ob;refine ⟨⟨dx,k _ _ (a0q ho hT (by intro z;cases z)) ho⟩,k _ _ (a0q a.hp hT (by intro z;cases z)) a.hp,k _ _ (a0q a.su hT (by intro z;cases z)) a.su,⟨k _ _ (a0q a.hd.o hT (by intro z;cases z)) a.hd.o,λl hl=>k _ _ (a0q (a.hd.b l hl) hT (by intro z;cases z)) (a.hd.b l hl),λl i hl hi=>k _ _ (a0q (a.hd.c l i hl hi) hT (by intro z;cases z)) (a.hd.c l i hl hi)⟩,⟨k _ _ (a0q a.tl.o hT (by intro z;cases z)) a.tl.o,λl hl=>k _ _ (a0q (a.tl.b l hl) hT (by intro z;cases z)) (a.tl.b l hl),λl i hl hi=>k _ _ (a0q (a.tl.c l i hl hi) hT (by intro z;cases z)) (a.tl.c l i hl hi)⟩,a.ih,a.it,a.ix,a.ns⟩
def lamE:Expr:=match a0D sKw with
 | [_,.Return (some (.Call _ [_,_,_,e] _ _)) _]=>e
 | _=>.Constant .none 0 ⟨0,0,0,0⟩
def lamP:Arguments:=match lamE with | .Lambda p _ _ _=>p | _=>a0T sKw
def lamB:Expr:=match lamE with | .Lambda _ b _ _=>b | e=>e
def lamS:Scope:=match lamE with | .Lambda _ _ s _=>s | _=>a0g sKw
def a6V:Pos:=match lamE with | .Lambda _ _ _ p=>p | _=>⟨0,0,0,0⟩
abbrev b2w:Str:=(("kept_words":Str)++".<locals>.")++"<lambda>"
abbrev lamK (c:Addr) (c':Addr) (pm ctv:Value):Obj:=PySem.W.kla_obj "<lambda>" b2w lamP lamB lamS [("parted",c)] pm c' ctv
example:lamE=.Lambda lamP lamB lamS a6V:=rfl
theorem scLam (c:Addr):a6Q lamS ["start","stop"] [("parted",c)]:=⟨rfl,rfl,rfl,(by show (["start","stop","parted"]:List Str).Nodup;decide +kernel),by decide +kernel,by decide +kernel,(by show ∀ y∈lamS.names,y.2=.free->y.1∈(["parted"]:List Str);decide +kernel),(by show ∀ x∈(["parted"]:List Str),lamS.names.lookup x=some .free;decide +kernel)⟩
end K56
set_option exponentiation.threshold 2000
namespace K56
open PySem L2
section
variable {P':Program} {w:World} {K:PySem.W.Frag} {mg:Str->Option Value} {base:Heap} {f:Addr} {fd:FuncData}
structure Cok (L:Nat) (h t:Nat->Nat->Nat->OI) (i j:Nat) (c:CT.Code):Prop where
 k:Kc L h t i j c
 ln:c.length=j - i
 wd:∀ u∈c,u.length<=j - i - 1
def TabTo (T:Addr) (H H':Hp):Prop:=a1q H' T a6V b2w/\∀ c',H T=some (.tbl (a1F a6V c'))->H' T=some (.tbl (a1F a6V c'))
abbrev NKw:List Str:=["parted","first","end"]
abbrev PPw:List Str:=["parted","first","end","words_of"]
abbrev NPw:List Str:=["parted","first","end","words_of","words","letter","start","way"]
def spKw (C T:Addr) (d:Nat):Sp:=λvs H Q _=>∃ (r p:Addr) (ps ws:List Int) (X:Ad) (h t:Nat->Nat->Nat->OI) (F:Nat->Nat->OI) (i j:Nat),vs=[.ref r,.int (i:Int),.int (j:Int)]/\PAt C H r p ps ws X h t/\CT.Tb ps.length ws.length h t F (pl ps) (Wt ws)/\2<=ps.length/\ps.length<=10/\ws.length<=24/\i < j/\j<=ws.length/\j - i<=d/\a1q H T a6V b2w /\
 ∀ (a:Addr) xs cde H',a1b T H H'->TabTo T H H'->H' a=some (.lst xs)->Ws H' xs cde->Cok ps.length h t i j cde->Q (.ref a) H'
def lamR (C T:Addr) (d:Nat):Addr->List V->Hp->VK->Prop:=λg vs H Q=>∃ (c c':Addr) (pm ctv:Value) (oc:Obj) (u:Value) (r:Addr),H g=some (exA g (lamK c c' pm ctv))/\H c'=some (cdA c' b2w)/\H c=some (exA c oc)/\oc.data=.cell (some u)/\a0V (.ref r) u/\vs.length=2 /\
 spKw C T d (.ref r :: vs) (unt [c] H) (λv H'=>H' c=none->Q v (rtk [c] H H')) E0
theorem lam_ok {C T:Addr} {d k:Nat} (OK:a0M P' w K mg base CX0 k f fd NKw (spKw C T d)) (mk:mg "kept_words"=some (.ref f)) (kk:PySem.W.keepIn K (.ref f)=true) (bk:a1r K fd NKw []):b3L P' w K mg base (k+1) (lamR C T d) where
 at':=λ⟨c,c',pm,ctv,oc,u,r,e,_⟩=>⟨_,_,_,_,e⟩
 run:=λA outer s H g us vs Q hr e0 r' h=>by
  obtain ⟨c,c',pm,ctv,oc,u,r,eg,ec',ec,ed,rv,lv,hsp⟩:=h;have lu:us.length=2:=by rw [<-r'.length];exact lv
  refine b0Y (k:=k) (cvs:=[.ref r]) (scLam c) hr e0 eg ec' (by simp) (λi x c0 hi=>?_) rfl r' lv ?_ λxe hr'=>⟨_,a0Z OK hr' (by rfl) mk kk bk .nil a0Y (a0a (pv 2) (a0a (pv 0) (a0a (pv 1) a0d))),?_⟩
  ·cases i with
   | zero =>
    have hi:(("parted":Str),c)=(x,c0):=Option.some.inj hi;cases hi;exact ⟨oc,u,.ref r,ec,ed,rfl,rv⟩
   | succ i=>simp at hi
  ·match us,lu with
   | [u1,u2],_=>rfl
  ·match vs,lv,hsp with
   | [v1,v2],_,hsp =>
    refine ⟨_,rfl,_,rfl,_,rfl,?_⟩;obtain ⟨r0,p,ps,ws,X,h,t,F,i,j,e,pa,T',p2,p10,w20,hij,hj,hd,tab,q⟩:=hsp;refine ⟨r0,p,ps,ws,X,h,t,F,i,j,e,pa,T',p2,p10,w20,hij,hj,hd,tab,λa xs cde H' s' tb' g' w' k' hn=>?_⟩;exact q a xs cde H' s' tb' g' w' k' (hn c (by simp))
theorem a1b.upd {T d:Addr} {H H':Hp} {o:HO} (hd:H d=none) (s:a1b T H H'):a1b T H (L2.upd H' d o):=λa u n e=>by
 rw [a0i (λz=>by rw [z,hd] at e;cases e)];exact s a u n e
theorem a1b.rtk {T c:Addr} {H H':Hp} (s:a1b T (unt [c] H) H'):a1b T H (L2.rtk [c] H H'):=λa o n e=>by
 by_cases z:a∈[c]
 ·rw [b2k z];exact e
 ·rw [a1E z];exact s a o n (by rw [a0H z];exact e)
theorem b1o {c:Addr} {H H':Hp} (n:H' c=none):a0p H' (L2.rtk [c] H H'):=λa o e=>by
 rw [a1E (λz=>by rw [List.mem_singleton.mp z,n] at e;cases e)];exact e
theorem PAt.unt {C:Addr} {H:Hp} {r p c:Addr} {ps ws:List Int} {X:Ad} {h t:Nat->Nat->Nat->OI} {oc:Obj} (a:PAt C H r p ps ws X h t) (hc:H c=some (exA c oc)):PAt C (L2.unt [c] H) r p ps ws X h t:=by
 obtain ⟨dx,ho⟩:=a.ob;have u:∀ {b:Addr} {o:HO},H b=some o->o≠exA c oc->L2.unt [c] H b=some o:=λ{b o} e n=>by
  rw [a0H (λz=>by rw [List.mem_singleton.mp z,hc] at e;exact n (Option.some.inj e).symm)];exact e
 refine ⟨⟨dx,u ho (by intro z;cases z)⟩,u a.hp (by intro z;cases z),u a.su (by intro z;cases z),⟨u a.hd.o (by intro z;cases z),λl hl=>u (a.hd.b l hl) (by intro z;cases z),λl i hl hi=>u (a.hd.c l i hl hi) (by intro z;cases z)⟩,⟨u a.tl.o (by intro z;cases z),λl hl=>u (a.tl.b l hl) (by intro z;cases z),λl i hl hi=>u (a.tl.c l i hl hi) (by intro z;cases z)⟩,a.ih,a.it,a.ix,a.ns⟩
structure Clo (H:Hp) (g c c' r:Addr):Prop where
 ex:∃ (pm ctv:Value) (oc:Obj) (u:Value),H g=some (exA g (lamK c c' pm ctv))/\H c'=some (cdA c' b2w)/\H c=some (exA c oc)/\oc.data=.cell (some u)/\a0V (.ref r) u
 ne:c'≠c
theorem Clo.same {H H':Hp} {g c c' r T:Addr} {qs:Array Value} (a:Clo H g c c' r) (hT:H T=some (.tbl qs)) (s:a1b T H H'):Clo H' g c c' r:=by
 obtain ⟨pm,ctv,oc,u,e1,e2,e3,e4,e5⟩:=a.ex;exact ⟨⟨pm,ctv,oc,u,s _ _ (a0q e1 hT (by intro z;cases z)) e1,s _ _ (a0q e2 hT (by intro z;cases z)) e2,s _ _ (a0q e3 hT (by intro z;cases z)) e3,e4,e5⟩,a.ne⟩
theorem a1q.unt {H:Hp} {T c:Addr} {lpos:Pos} {q:Str} {oc:Obj} (x:a1q H T lpos q) (hc:H c=some (exA c oc)) (hn:∀ c',H T=some (.tbl (a1F lpos c'))->c'≠c):a1q (L2.unt [c] H) T lpos q:=by
 obtain ⟨ps,e0⟩:=a1q.tb x;have nT:T∉[c]:=λz=>(a0q e0 hc (by intro z;cases z)) (List.mem_singleton.mp z)
 rcases x with e | ⟨c',e,ec⟩
 ·exact .inl (by rw [a0H nT];exact e)
 ·exact .inr ⟨c',by rw [a0H nT];exact e,by rw [a0H (λz=>hn c' e (List.mem_singleton.mp z))];exact ec⟩
def spPw (C T:Addr) (d:Nat):Sp:=λvs H Q _=>∃ (r p g c c':Addr) (ps ws:List Int) (X:Ad) (h t:Nat->Nat->Nat->OI) (F:Nat->Nat->OI) (i j:Nat),vs=[.ref r,.int (i:Int),.int (j:Int),.ref g]/\PAt C H r p ps ws X h t/\CT.Tb ps.length ws.length h t F (pl ps) (Wt ws)/\2<=ps.length/\ps.length<=10/\ws.length<=24/\i+2<=j/\j<=ws.length/\j - i<=d+1/\H T=some (.tbl (a1F a6V c'))/\Clo H g c c' r /\
 ∀ (a:Addr) xs cde H',a1b T H H'->H' T=some (.tbl (a1F a6V c'))->H' a=some (.lst xs)->Ws H' xs cde->Kt ps.length h t 0 i j cde->cde.length=j - i->(∀ u∈cde,u.length<=j - i - 1)->Q (.ref a) H'
theorem b4a:a0k NPw PPw (a0g sPw):=fsk
theorem ndPw:(("word":Str) :: NPw).Nodup:=by decide +kernel
theorem ok_pw {C T:Addr} {d k:Nat} (hk:3<=k) (F:Fun K "parted_words" "parted_words" sPw f fd) (LO:b3L P' w K mg base k (lamR C T d)) (MW':Mt P' w K mg base C "ways" ["self","letter","first","end"] (a3L C) 3) (rcP:PC K C):a0M P' w K mg base CX0 (k+1) f fd PPw (spPw C T d):=by
 refine F.ok (k:=k) b4a (λvs H Q E h=>?_) (λcdv A outer s H vs Q E hr h=>?_)
 ·obtain ⟨r,p,g,c,c',ps,ws,X,h,t,Fl,i,j,rfl,_⟩:=h;rfl
 obtain ⟨r,p,g,c,c',ps,ws,X,h,t,Fl,i,j,rfl,pa,T',p2,p10,w20,hij,hj,hd,tab,clo,q⟩:=h;have MW:=MW'.up hk;refine ⟨_,a0c (psA (i:=4) b4a (a0X a0d))
  (a0c (psA (i:=5) b4a a0e)
  (a0c (psA (i:=6) b4a (pv 1))
  (a0c (a2g PassesOwn.never (a0r a3s (pv 6) (pv 2) (nomark _))
   (a0c (psA (i:=7) b4a (pxA a0j (a0P (pv 0) rcP.c MW.m MW.ok hr MW.b .nil a0Y (a0a (pv 5) (a0a (pv 6) (a0a (pv 2) a0d)))) a0e))
   (a0c (a1h (a3w PySem.F.plainAttrs_list PySem.F.slot_list_extend PySem.F.type_list_extend a4W (pv 4) (a0a (a1B (M:=NPw) rfl (cso (a0g sPw) NPw) ndPw rfl (a5c (b0Z (i:=3) LO hr rfl (Or.inl rfl) (a0a (pv 6) (a0a (pxA a0y (pv 7) a0e) a0d)))) a6v
    (λcl C s0 H0 fp=>⟨a0L,a0l a8i (a1p (a0a (pxA (ixT K) (pv 8) a0e) a0d)) (pv 0)⟩)) a0d)))
   (a0c (psA (i:=5) b4a (a0l a0t (pxA a0y (pv 7) a0e) a0e))
   (a0h (psA (i:=6) b4a (pxA a0y (pv 7) a0e))))))
  )
  (a0h (a0o (pv 4)))))),?_⟩
 refine ⟨(by show 0<=sizeLine;decide),λd1 hd1=>?_⟩;have s1:a0p H (upd H d1 (.lst [])):=a0f hd1 _;have g1:upd H d1 (.lst []) d1=some (.lst []):=a0b;generalize upd H d1 (.lst [])=H1 at s1 g1 ⊢;refine ⟨_,rfl,?_⟩;refine ⟨λm σ H'=>a1b T H H'/\H' T=some (.tbl (a1F a6V c'))/\∃ (l a:Nat) (acc:CT.Code) (xs:List V) (x7:Option V),m=j - a/\i<=a/\a<=j/\(a < j->l < ps.length)/\(a=i->l=0)/\acc.length=a - i/\(∀ u∈acc,u.length<=j - i - 1)/\(∀ rr,Kt ps.length h t l a j rr->Kt ps.length h t 0 i j (acc++rr))/\H' d1=some (.lst xs)/\Ws H' xs acc/\σ=[some (.ref r),some (.int (i:Int)),some (.int (j:Int)),some (.ref g),some (.ref d1),some (.int (l:Int)),some (.int (a:Int)),x7],
  ⟨_,a1b.of s1,s1 _ _ tab,0,i,[],[],_,rfl,Nat.le_refl _,by omega,λ_=>by omega,λ_=>rfl,by simp,λu hu=>(by cases hu),λrr hr=>hr,g1,.nil,rfl⟩,?_⟩
 rintro m σ H2 ⟨s2,tab2,l,a,acc,xs,x7,rfl,hia,haj,hl,hl0,lac,wac,kac,g2,w2,rfl⟩;refine ⟨_,rfl,_,rfl,_,_,rfl,rfl,_,rfl,?_⟩;refine a2b (λz=>?_) (λz=>?_)
 rotate_left
 ·have z1:a=j:=by
   have:¬ (a:Int) < (j:Int):=λy=>z (decide_eq_true y);omega
  subst z1;have kt:=kac [] (.nil l a);rw [List.append_nil] at kt;exact ⟨_,rfl,q d1 xs acc H2 s2 tab2 g2 w2 kt lac wac⟩
 have z1:a < j:=by
  have:(a:Int) < (j:Int):=of_decide_eq_true z;omega
 have hl':=hl z1;have pa2:=pa.sameT tab s2;have clo2:=clo.same tab s2;obtain ⟨dp,hop⟩:=pa2.ob;obtain ⟨q0,qr,eqs⟩:=wys_ne T' hl' z1 hj;have hq0:q0∈wys ps.length h t l a j:=by rw [eqs];exact .head _
 obtain ⟨b1,b2,b3,b4⟩:=a5k T' hl' z1 hj hq0;have cut:a+q0.2+1 - a<=d:=by
  by_cases y:a=i
  ·have l0:=hl0 y;subst y l0;have hm:=a1u.mp hq0;have:=CT.only T' (i:=a) (w:=j - a) (by omega) (by omega) q0 hm.1 (by rw [show a+(j - a)=j by omega];exact hm.2);omega
  ·omega
 refine ⟨_,λσ' H' n'=>n',?_⟩;refine ⟨_,rfl,r,dp,_,rfl,hop,rfl,_,rfl,_,rfl,_,rfl,r,p,ps,ws,X,h,t,l,a,j,rfl,pa2,w20,p10,hl',z1,hj,λd2 ys H3 s3 g3 w3=>?_⟩;rw [eqs] at w3;cases w3 with
 | cons rw0 wr =>
 obtain ⟨wt,rfl,hwt⟩:=rw0;refine ⟨d2,_,_,_,rfl,rfl,SqL.of g3,(show atI (V.ref wt :: _) 0=some (V.ref wt) from a1P (i:=0) rfl),?_⟩;have g23:=s3 _ _ g2;have tab3:=s3 _ _ tab2;have clo3:=clo2.same tab2 (a1b.of s3);obtain ⟨pm,ctv,oc,u,e1,e2,e3,e4,e5⟩:=clo3.ex;have pa3:=pa2.same s3;have s03:a1b T H H3:=s2.trans (a1b.of s3);refine ⟨_,rfl,.inl ⟨rfl,_,SqL.of g23⟩,?_⟩;refine ⟨λv H'=>∃ al ws' cde,v=.ref al/\a1b T H3 H'/\H' T=some (.tbl (a1F a6V c'))/\H' al=some (.lst ws')/\Ws H' ws' cde/\Cok ps.length h t a (a+q0.2+1) cde,?_,λv H4 hv=>?_⟩
 ·refine ⟨g,_,_,_,_,rfl,e1,_,rfl,_,rfl,wt,_,_,_,rfl,rfl,SqT.of hwt,rfl,?_⟩;refine ⟨c,c',pm,ctv,oc,u,r,e1,e2,e3,e4,e5,rfl,?_⟩;have tu:a1q (unt [c] H3) T a6V b2w:=a1q.unt (.inr ⟨c',tab3,e2⟩) e3 λc2 e=>by
   rw [tab3] at e;have:c'=c2:=by
    have h1:=HO.tbl.inj (Option.some.inj e);have h2:=congrArg (λz:Array Value=>z[2]?) h1;have h3:some (Value.ref c')=some (Value.ref c2):=h2;cases h3;rfl
   rw [<-this];exact clo3.ne
  refine ⟨r,p,ps,ws,X,h,t,Fl,a,a+q0.2+1,rfl,pa3.unt e3,T',p2,p10,w20,by omega,by omega,cut,tu,λal ws' cde H' s' tb' g' w' k' hn=>?_⟩;have sk:=b1o (H:=H3) hn;have nT:T∉[c]:=λz=>(a0q tab3 e3 (by intro z;cases z)) (List.mem_singleton.mp z)
  exact ⟨al,ws',cde,rfl,s'.rtk,sk _ _ (tb'.2 c' (by rw [a0H nT];exact tab3)),sk _ _ g',Ws.same sk w',k'⟩
 obtain ⟨al,ws',cde,rfl,s4,tab4,g4,w4,k4⟩:=hv;have neT:∀ {b:Addr} {o:HO},H3 b=some o->(∀ qs,o≠.tbl qs)->H4 b=some o:=λ{b o} e n=>s4 _ _ (a0q e tab3 (n _)) e;have g24:H4 d1=some (.lst xs):=neT g23 λqs=>by intro z;cases z
 have hwt4:H4 wt=some (.tup [.int (q0.1:Int),.int ((a+q0.2+1:Nat):Int)]):=neT hwt λqs=>by intro z;cases z
 have w24:Ws H4 xs acc:=Paired.mapP (Ws.same s3 w2) λx y hx=>by
  obtain ⟨b,zs,rfl,e,pp⟩:=hx;exact ⟨b,zs,rfl,neT e (λqs=>by intro z;cases z),pp⟩
 have s04:a1b T H H4:=s03.trans s4;have lw:ws'.length=cde.length:=w4.length;refine ⟨al,_,rfl,SqL.of g4,λe3' he3=>?_⟩;refine ⟨λkk H'=>a0p H4 H'/\∃ zs,H' e3'=some (.lst zs)/\Ws H' zs ((cde.take kk).map λu=>((q0.1:Nat):Int) :: u),⟨a0f he3 _,[],a0b,.nil⟩,λkk H' _ hP=>SqL.of (hP.1 _ _ g4),λkk y H' hy hP=>?_,λH5 hP=>?_⟩
 ·obtain ⟨s5,zs,g5,w5⟩:=hP;obtain ⟨o,ho2,ru⟩:=Paired.right_of w4 kk y hy;obtain ⟨ua,rfl,hua⟩:=Wd.ti ru;have kl:=(List.getElem?_eq_some_iff.mp ho2).1;have lu:=k4.wd o (List.mem_of_getElem? ho2);refine a0E ⟨_,rfl,wt,_,_,_,rfl,rfl,SqT.of (s5 _ _ hwt4),rfl,(by show 1<=sizeLine;decide),λt1 ht1=>?_⟩;have s6:=a0f ht1 (.tup [.int (q0.1:Int)]);have h6:upd H' t1 (.tup [.int (q0.1:Int)]) t1=some (.tup [.int (q0.1:Int)]):=a0b;generalize upd H' t1 (.tup [.int (q0.1:Int)])=H6 at s6 h6 ⊢;refine ⟨_,rfl,t1,ua,_,_,rfl,rfl,h6,s6 _ _ (s5 _ _ hua),small (by rw [List.length_map,List.length_singleton];omega),λp5 H7 s7 hp5=>?_⟩;refine ⟨zs,s7 _ _ (s6 _ _ g5),a0m (by rw [w5.length,List.length_map,List.length_take,k4.ln];omega),a0n he3 ((s5.trans s6).trans s7),_,a0b,?_⟩;rw [List.take_add_one,ho2,List.map_append];exact Paired.appendP (Ws.upd (s7 _ _ (s6 _ _ g5)) (Ws.same (s6.trans s7) w5)) (.cons (Wd.upd (s7 _ _ (s6 _ _ g5)) (Wd.of hp5)) .nil)
 obtain ⟨s5,zs5,g5,w5⟩:=hP;rw [lw,List.take_length] at w5;have lz:zs5.length=cde.length:=by rw [w5.length,List.length_map]
 have lx:xs.length=acc.length:=w2.length;have g25:=s5 _ _ g24;have hwt5:=s5 _ _ hwt4;refine ⟨d1,e3',_,_,rfl,rfl,g25,g5,small (by rw [lx,lz,lac,k4.ln];omega),?_⟩;have hwt6:upd H5 d1 (.lst (xs++zs5)) wt=some (.tup [.int (q0.1:Int),.int ((a+q0.2+1:Nat):Int)]):=by rw [a0i (a0q hwt5 g25 (by intro z;cases z))];exact hwt5
 have tab6:upd H5 d1 (.lst (xs++zs5)) T=some (.tbl (a1F a6V c')):=by rw [a0i (a0q (s5 _ _ tab4) g25 (by intro z;cases z))];exact s5 _ _ tab4
 have s06:a1b T H (upd H5 d1 (.lst (xs++zs5))):=(s04.trans (a1b.of s5)).upd hd1;refine ⟨_,rfl,wt,_,_,_,rfl,rfl,SqT.of hwt6,rfl,_,_,rfl,rfl,?_⟩;refine ⟨_,rfl,wt,_,_,_,rfl,rfl,SqT.of hwt6,rfl,?_⟩;refine ⟨_,(by omega:j - (a+q0.2+1) < j - a),s06,tab6,q0.1+1,a+q0.2+1,acc++CT.ahd q0.1 cde,xs++zs5,_,rfl,by omega,by omega,λy=>b4 (by omega),λy=>absurd y (by omega),?_,λu hu=>?_,λrr hrr=>?_,a0b,?_,rfl⟩
 ·rw [List.length_append,lac];unfold CT.ahd;rw [List.length_map,k4.ln];omega
 ·rcases List.mem_append.mp hu with y | y
  ·exact wac u y
  ·unfold CT.ahd at y;obtain ⟨v,hv,rfl⟩:=List.mem_map.mp y;have:=k4.wd v hv;rw [List.length_cons];by_cases ya:a=i
   ·have l0:=hl0 ya;subst ya l0;have hm:=a1u.mp hq0;have:=CT.only T' (i:=a) (w:=j - a) (by omega) (by omega) q0 hm.1 (by rw [show a+(j - a)=j by omega];exact hm.2);omega
   ·omega
 ·rw [List.append_assoc];exact kac _ (.cons l a j q0 cde rr hq0 k4.k hrr)
 ·exact Ws.upd g25 (Paired.appendP (Ws.same s5 w24) w5)
end
end K56
set_option exponentiation.threshold 2000
namespace K56
open PySem L2
section
variable {P':Program} {w:World} {K:PySem.W.Frag} {mg:Str->Option Value} {base:Heap} {f:Addr} {fd:FuncData}
structure LamC (K:PySem.W.Frag) (mg:Str->Option Value) (base:Heap) (c0 T bm:Addr):Prop where
 hd:PySem.W.codeHdIn K c0 T=true
 hbm:mg "__builtins__"=some (.ref bm)
 bo:∃ o,base.get? bm=some o/\o.cls=.type "module"/\o.dict=some builtinsNs/\o.data=.plain
 b1:bm≠builtinsNs
 b2:bm≠mainGlobals
 b3:bm≠T
 b4:mainGlobals≠T
theorem scKw:a0k NKw NKw (a0g sKw):=fsk
theorem ok_kw {C T c0 bm:Addr} {f2:Addr} {fd2:FuncData} (FK:Fun K "kept_words" "kept_words" sKw f fd) (hcd:fd.code=.ref c0) (LC:LamC K mg base c0 T bm) (mk:mg "kept_words"=some (.ref f)) (kk:PySem.W.keepIn K (.ref f)=true) (bk:a1r K fd NKw []) (FP:Fun K "parted_words" "parted_words" sPw f2 fd2) (mp:mg "parted_words"=some (.ref f2)) (kp:PySem.W.keepIn K (.ref f2)=true) (bp:a1r K fd2 PPw []) (MW:Mt P' w K mg base C "ways" ["self","letter","first","end"] (a3L C) 3) (rcP:PC K C):∀ d,a0M P' w K mg base CX0 (3 * d+4) f fd NKw (spKw C T d):=by
 intro d
 induction d with
 | zero =>
  refine FK.okC (k:=3) scKw (λvs H Q E h=>?_) (λA outer s H vs Q E hr h=>?_)
  all_goals exfalso
  all_goals (obtain ⟨r,p,ps,ws,X,h,t,F,i,j,rfl,_,_,_,_,_,h1,_,h2,_⟩:=h;omega)
 | succ d ih =>
  have LO:=lam_ok ih mk kk bk;have OP:=ok_pw (by omega) FP LO MW rcP;refine FK.okC (k:=3 * d+6) scKw (λvs H Q E h=>?_) (λA outer s H vs Q E hr h=>?_)
  ·obtain ⟨r,p,ps,ws,X,h,t,F,i,j,rfl,_⟩:=h;rfl
  obtain ⟨r,p,ps,ws,X,h,t,F,i,j,rfl,pa,T',p2,p10,w20,hij,hj,hd,tab,q⟩:=h;have hcl:a9h (a5B CX0 P' w K mg base NKw "kept_words" (a0g sKw) f fd.code A outer s H E).nox [("parted",s.heap.objs.size+1)]:=⟨λq hq=>by rw [List.mem_singleton.mp hq];rfl,λq hq=>rfl,λq hq=>by rw [List.mem_singleton.mp hq];rfl⟩
  have LM:LamMk (a5B CX0 P' w K mg base NKw "kept_words" (a0g sKw) f fd.code A outer s H E).nox c0 T bm:=⟨hcd,LC.hd,LC.hbm,LC.bo,LC.b1,LC.b2,LC.b3,LC.b4⟩
  refine ⟨_,a0c (a0W (a0r a1J (a0l a1k (pv 2) (pv 1)) a0e (nomark _)) (a0h (a0o (a0X (a0a (a1p a0d) a0d)))) a0u)
   (a0h (a0o (b1a OP hr (by rfl) mp kp bp hcl (a0a (pv 0) (a0a (pv 1) (a0a (pv 2) (a0a (pe_lam LM (clos:=[("parted",s.heap.objs.size+1)]) rfl) a0d))))))),?_⟩
  refine ⟨_,rfl,_,rfl,_,_,rfl,rfl,rfl,_,rfl,?_⟩;refine a2b (λz=>?_) (λz=>?_)
  ·have z1:j=i+1:=by
    have y:V.int ((j:Int) - (i:Int))=V.int 1:=of_decide_eq_true z;have:=V.int.inj y;omega
   subst z1;refine ⟨(by show 0<=sizeLine;decide),λt0 ht0=>?_⟩;have s1:=a0f ht0 (.tup []);have h1:upd H t0 (.tup []) t0=some (.tup []):=a0b;generalize upd H t0 (.tup [])=H1 at s1 h1 ⊢;refine ⟨(by show 1<=sizeLine;decide),λl1 hl1=>?_⟩;have s2:=a0f hl1 (.lst [.ref t0]);have s12:=s1.trans s2;exact q l1 [.ref t0] [[]] _ (a1b.of s12) ⟨a1q.same s12 tab,λc' e=>s12 _ _ e⟩ a0b (.cons (Wd.of (w:=[]) (s2 _ _ h1)) .nil) ⟨.one i,by simp,λu hu=>by
    have:u=[]:=by simpa using hu
    subst this;simp⟩
  have z1:¬ j - i=1:=λy=>z (decide_eq_true (by show V.int ((j:Int) - (i:Int))=V.int 1;congr 1;omega));refine ⟨_,rfl,_,rfl,_,rfl,tab,λc' pm ctv g H2 L=>?_⟩;intro os hos hnn;have hn:H2 (s.heap.objs.size+1)=none:=hnn _ (by simp);obtain ⟨u,hu1,hu2⟩:=hos 0 0 "parted" (s.heap.objs.size+1) (.ref r) rfl rfl rfl;generalize s.heap.objs.size+1=c at hn hu1 L ⊢;have st:a0p H2 (trk' [c] os H2):=λb o e=>by
   rw [a1m (λy=>by rw [List.mem_singleton.mp y,hn] at e;cases e)];exact e
  have sT:a1b T H H2:=λb o n e=>L.ot b o n e;obtain ⟨qs,etb⟩:=a1q.tb tab;have tab2:trk' [c] os H2 T=some (.tbl (a1F a6V c')):=st _ _ L.tb;have ec:trk' [c] os H2 c=some (exA c (os c)):=b2l (by simp);have ecd:=st _ _ L.cd;refine ⟨r,p,g,c,c',ps,ws,X,h,t,F,i,j,rfl,(pa.sameT etb sT).same st,T',p2,p10,w20,by omega,hj,by omega,tab2,⟨⟨pm,ctv,os c,u,st _ _ L.ob,ecd,ec,hu1,hu2⟩,λy=>by
   have:=L.cd;rw [y,hn] at this;cases this⟩,λa xs cde H3 s3 tab3 g3 w3 k3 l3 wd3=>?_⟩
  have e3:H3 c=some (exA c (os c)):=s3 _ _ (a0q ec tab2 (by intro y;cases y)) ec;have out:∀ {b:Addr} {o:HO},H3 b=some o->b≠c->unt [c] H3 b=some o:=λ{b o} e n=>by
   rw [a0H (λy=>n (List.mem_singleton.mp y))];exact e
  have nec:∀ {b:Addr} {o:HO},H2 b=some o->b≠c:=λ{b o} e y=>by rw [y,hn] at e;cases e
  refine ⟨λc2 hc2=>by rw [List.mem_singleton.mp hc2];exact e3,q a xs cde _ (λb o n e=>?_) ⟨.inr ⟨c',out tab3 (nec L.tb),out (s3 _ _ (a0q ecd tab2 (by intro y;cases y)) ecd) (nec L.cd)⟩,λc2 e=>?_⟩ ?_ ?_ ⟨.more i j cde (by omega) k3,l3,wd3⟩⟩
  ·have e2:=L.ot b o n e;exact out (s3 _ _ n (st _ _ e2)) (nec e2)
  ·rw [L.sm c2 e];exact out tab3 (nec L.tb)
  ·exact out g3 (a0q g3 e3 (by intro y;cases y))
  ·exact Paired.mapP w3 λx y hx=>by
    obtain ⟨b,zs,rfl,e,pp⟩:=hx;exact ⟨b,zs,rfl,out e (a0q e e3 (by intro y;cases y)),pp⟩
end
end K56
set_option exponentiation.threshold 2000
namespace K56
open PySem L2
section
variable {P':Program} {w:World} {K:PySem.W.Frag} {mg:Str->Option Value} {base:Heap} {f:Addr} {fd:FuncData}
abbrev NCk:List Str:=["prices","weights","parted","floors","code"]
structure FlO (H:Hp) (d:Addr) (ra:Nat->Addr) (n:Nat) (F:Nat->Nat->OI):Prop where
 o:H d=some (.lst ((List.range n).map λi=>.ref (ra i)))
 r:∀ i,i < n->H (ra i)=some (.lst ((Kp.b4C F n i).map oV))
theorem FlO.same {H H':Hp} {d:Addr} {ra:Nat->Addr} {n:Nat} {F:Nat->Nat->OI} (h:FlO H d ra n F) (s:a0p H H'):FlO H' d ra n F:=⟨s _ _ h.o,λi hi=>s _ _ (h.r i hi)⟩
structure Fnd (H:Hp) (a ca d:Addr) (ra:Nat->Addr) (ps ws:List Int) (h t:Nat->Nat->Nat->OI) (F:Nat->Nat->OI) (cde:CT.Code):Prop where
 o:H a=some (.tup [oV (F 0 ws.length),.ref ca,.ref d])
 fl:FlO H d ra ws.length F
 cd:∃ xs,H ca=some (.tup xs)/\Ws H xs cde
 ok:Cok ps.length h t 0 ws.length cde
 T:CT.Tb ps.length ws.length h t F (pl ps) (Wt ws)
def spCk (T:Addr):Sp:=λvs H Q _=>∃ (p q:Addr) (ps ws:List Int),vs=[.ref p,.ref q]/\TW H p ps/\TW H q ws/\Num ps ws/\Po ps/\Po ws/\a1q H T a6V b2w /\
 ∀ (a ca d:Addr) ra h t F cde H',a1b T H H'->TabTo T H H'->Fnd H' a ca d ra ps ws h t F cde->Q (.ref a) H'
theorem scCk:a0k NCk ["prices","weights"] (a0g sCk):=fsk
theorem ok_ck {C T:Addr} {k:Nat} (hk:7<=k) (F:Fun K "cheapest_kept" "cheapest_kept" sCk f fd) (G:Fns P' w K mg base ["prices","weights"] "parted_least" (spPl C) 5) (M:Mt P' w K mg base C "bounds" ["self"] (Kp.a4x C) 5) (GK:Fns P' w K mg base NKw "kept_words" (spKw C T 24) k) (rc:PC K C) (ml:mg "len"=none) (mt:mg "tuple"=none):a0M P' w K mg base CX0 (k+1) f fd ["prices","weights"] (spCk T):=by
 refine F.ok (k:=k) scCk (λvs H Q E h=>?_) (λcdv A outer s H vs Q E hr h=>?_)
 ·obtain ⟨p,q,ps,ws,rfl,_⟩:=h;rfl
 obtain ⟨p,q,ps,ws,rfl,hp,hq,nu,pp,pw,tab,qq⟩:=h;have G:=G.up (show 5<=k by omega);have M:=M.up (show 5<=k by omega);have w1:=nu.w1;refine ⟨_,a0c (psA (i:=2) scCk (pcF G hr (a0a (pv 0) (a0a (pv 1) a0d))))
  (a0c (psA (i:=3) scCk (a6m (pv 2) rc.c M.m M.ok hr M.b .nil a0Y))
  (a0c (psA (i:=4) scCk (a1x a1A (by rfl) mt a2Y (a0a (pcF GK hr (a0a (pv 2) (a0a a0e (a0a (pln ml (pv 1)) a0d)))) a0d)))
  (a0h (a0o (a1p (a0a (pxA a0j (pxA a0j (pv 3) a0e) (a2r a1w a0e)) (a0a (pv 4) (a0a (pv 3) a0d)))))))),?_⟩
 refine ⟨_,rfl,_,rfl,p,q,ps,ws,rfl,hp,hq,nu,λr X h t Fl H1 s1 pa fn=>?_⟩;have T':=fn.tb nu.p2 pp pw;obtain ⟨dx,ho⟩:=pa.ob;refine ⟨_,rfl,r,dx,_,rfl,ho,rfl,r,p,ps,ws,X,h,t,rfl,pa,nu.w20,nu.p10,λd ra H2 s2 hd h1 h2 h3 h4 h5=>?_⟩;have fl2:FlO H2 d ra ws.length Fl:=⟨h4,λi hi=>by
  rw [h5 i hi,List.map_map];refine congrArg (λz=>some (HO.lst z)) (List.map_congr_left λb hb=>?_);have:=List.mem_range.mp hb;show oV (bnd ps.length h t i (i+b+1))=oV (Fl i (i+b+1));rw [fn.bd i (i+b+1) (by omega) (by omega) trivial]⟩
 have s12:=s1.trans s2;have pa2:=pa.same s2;have tab2:=a1q.same s12 tab;refine ⟨_,rfl,_,rfl,q,_,rfl,.inr (SqT.of (s12 _ _ hq)),?_⟩;rw [List.length_map];refine ⟨r,p,ps,ws,X,h,t,Fl,0,ws.length,rfl,pa2,T',nu.p2,nu.p10,nu.w20,by omega,Nat.le_refl _,by have:=nu.w20;omega,tab2,λal xs cde H3 s3 tb3 g3 w3 k3=>?_⟩;refine ⟨al,_,rfl,.inl ⟨SqL.of g3,λca hca=>?_⟩⟩;have s4:=a0f hca (.tup xs);have g4:upd H3 ca (.tup xs) ca=some (.tup xs):=a0b;generalize upd H3 ca (.tup xs)=H4 at s4 g4 ⊢;obtain ⟨qs,etb⟩:=a1q.tb tab2;have k34:∀ {b:Addr} {zs:List V},H2 b=some (.lst zs)->H4 b=some (.lst zs):=λ{b zs} e=>s4 _ _ (s3 _ _ (a0q e etb (by intro z;cases z)) e);have fl4:FlO H4 d ra ws.length Fl:=⟨k34 fl2.o,λi hi=>k34 (fl2.r i hi)⟩
 have e0:atI ((Kp.b4C Fl ws.length 0).map oV) (-1)=some (oV (Fl 0 ws.length)):=by
  have hr0:Kp.b4C Fl ws.length 0=(List.range (ws.length - 1)).map (λb=>Fl 0 (0+b+1))++[Fl 0 ws.length]:=by
   show (List.range (ws.length - 0)).map _=_;rw [show ws.length - 0=(ws.length - 1)+1 by omega,List.range_succ,List.map_append];show _++[Fl 0 (0+(ws.length - 1)+1)]=_;rw [show 0+(ws.length - 1)+1=ws.length by omega]
  rw [hr0,List.map_append];exact a1V _ _
 refine ⟨_,rfl,d,_,_,_,rfl,rfl,SqL.of fl4.o,a0s (k:=0) (by omega),_,rfl,ra 0,_,_,_,rfl,rfl,SqL.of (fl4.r 0 (by omega)),e0,_,rfl,_,rfl,(by show 3<=sizeLine;decide),λa ha=>?_⟩;have s5:=a0f ha (.tup [oV (Fl 0 ws.length),.ref ca,.ref d]);have s45:=s4.trans s5;refine qq a ca d ra h t Fl cde _ ?_ ?_ ⟨a0b,fl4.same s5,⟨xs,s5 _ _ g4,Ws.same s45 w3⟩,k3,T'⟩
 ·exact ((a1b.of s12).trans s3).trans (a1b.of s45)
 ·exact ⟨a1q.same s45 tb3.1,λc' e=>s45 _ _ (tb3.2 c' (s12 _ _ e))⟩
end
theorem b4b {L n:Nat} {h t:Nat->Nat->Nat->OI} {F:Nat->Nat->OI} {p:Nat->Int} {W:Nat->Nat->Int} (T:CT.Tb L n h t F p W) (hL:0 < L) {i j:Nat} (hij:i+2<=j) (hj:j<=n):t 0 i j=F i j:=by
 obtain ⟨w,rfl⟩:∃ w,j=i+w:=⟨j - i,by omega⟩
 have eF:F i (i+w)=lo ((CT.Bk L 0 (w - 1)).map (CT.vl h t i (i+w))):=by
  rw [T.ff i (i+w) (by omega) hj,if_neg (by omega),show i+w - 1 - i=w - 1 by omega]
 have et:=T.tt 0 i (i+w) (Nat.zero_le _) (by omega) hj;rw [show i+w - i=w by omega] at et;cases e:t 0 i (i+w) with
 | none=>exact absurd e (T.tn 0 i (i+w) hL (by omega) hj)
 | some x =>
  have hx:=a1a.mp (et.symm.trans e);obtain ⟨q,hq,ev⟩:=List.mem_map.mp hx.1;have:=CT.only T hj (by omega) q hq (by rw [ev,e]);obtain ⟨a,b,c⟩:=CT.a0v.mp hq;rw [eF];refine (a1a.mpr ⟨List.mem_map.mpr ⟨q,CT.a0v.mpr ⟨a,b,this⟩,ev⟩,λk hk=>?_⟩).symm;obtain ⟨q',hq',ev'⟩:=List.mem_map.mp hk;obtain ⟨a',b',c'⟩:=CT.a0v.mp hq';exact hx.2 k (List.mem_map.mpr ⟨q',CT.a0v.mpr ⟨a',b',by omega⟩,ev'⟩)
theorem a9y {ps ws:List Int} {h t:Nat->Nat->Nat->OI} {F:Nat->Nat->OI} (T:CT.Tb ps.length ws.length h t F (pl ps) (Wt ws)) (hL:0 < ps.length) {i j:Nat} {c:CT.Code} (k:Kc ps.length h t i j c):c.length=j - i/\i < j/\(∀ u∈c,∀ x∈u,(0:Int)<=x/\x < (ps.length:Int))/\(j<=ws.length->some (CT.co ps ws i c)=F i j):=by
 refine Kc.rec (motive_1:=λi j c _=>c.length=j - i/\i < j/\(∀ u∈c,∀ x∈u,(0:Int)<=x/\x < (ps.length:Int))/\(j<=ws.length->some (CT.co ps ws i c)=F i j)) (motive_2:=λl i j r _=>r.length=j - i/\i<=j/\(l<=ps.length->(i < j->l < ps.length)->j<=ws.length->(∀ u∈r,∀ x∈u,(0:Int)<=x/\x < (ps.length:Int))/\some (CT.co ps ws i r)=t l i j)/\(∀ u∈r,∀ x∈u,(0:Int)<=x/\x < (ps.length:Int))) ?_ ?_ ?_ ?_ k
 ·intro i;refine ⟨by simp,by omega,λu hu=>?_,λhj=>?_⟩
  ·have:u=[]:=by simpa using hu
   subst this;intro x hx;cases hx
  ·rw [CT.b2h,T.ff i (i+1) (by omega) hj,if_pos (by omega)]
 ·intro i j c hij kt ih;refine ⟨ih.1,by omega,ih.2.2.2,λhj=>?_⟩;have:=(ih.2.2.1 (Nat.zero_le _) (λ_=>hL) hj).2;rw [this];exact b4b T hL hij hj
 ·intro l j;refine ⟨by simp,Nat.le_refl _,λhl _ hj=>⟨λu hu=>(by cases hu),?_⟩,λu hu=>(by cases hu)⟩;rw [CT.a5o,T.dg l j hl hj]
 ·intro l i j q c r hq0 kc kt ih1 ih2;have hq:=hq0;have hb:=CT.a0v.mp (a1u.mp hq).1;have lt:∀ u∈CT.ahd q.1 c++r,∀ x∈u,(0:Int)<=x/\x < (ps.length:Int):=λu hu=>by
   rcases List.mem_append.mp hu with y | y
   ·unfold CT.ahd at y;obtain ⟨v,hv,rfl⟩:=List.mem_map.mp y;intro x hx;rcases List.mem_cons.mp hx with z | z
    ·rw [z];exact ⟨by omega,by omega⟩
    ·exact ih1.2.2.1 v hv x z
   ·exact ih2.2.2.2 u y
  refine ⟨?_,by have:=ih1.2.1;have:=ih2.2.1;omega,λhl hlt hj=>⟨lt,?_⟩,lt⟩
  ·rw [List.length_append,ih2.1];unfold CT.ahd;rw [List.length_map,ih1.1];have:=ih1.2.1;have:=ih2.2.1;omega
  ·have hij:i < j:=by have:=ih1.2.1;have:=ih2.2.1;omega
   obtain ⟨b1,b2,b3,b4⟩:=a5k T (hlt hij) hij hj hq;have e1:=ih1.2.2.2 (by omega);have e2:=(ih2.2.2.1 (by omega) (λy=>b4 (by omega)) hj).2;have ev:=(a1u.mp hq).2;unfold CT.vl at ev;rw [T.hh q.1 i (i+q.2+1) b2 (by omega) (by omega),<-e1,<-e2] at ev;rw [CT.a3R,ih1.1,show i+(i+q.2+1 - i)=i+q.2+1 by omega,<-ev];rfl
end K56
set_option exponentiation.threshold 2000
namespace K56
open PySem L2
theorem a9v {ps ws:List Int} {nss:List (List Int)} {i:Nat} {x:Int} {ns:List Int} (h1:ws[i]?=some x) (h2:nss[i]?=some ns):(List.zipWith (λx ns=>x * CT.pc ps ns) ws nss)[i]?=some (x * CT.pc ps ns):=by
 rw [List.getElem?_zipWith,h1,h2]
def mkI (st:Stmt) (es:List Expr):Stmt:=match st with
 | .Assign tg (.Subscript (.List _ p) i p2) pos=>.Assign tg (.Subscript (.List es p) i p2) pos
 | s=>s
def esI (st:Stmt):List Expr:=match st with
 | .Assign _ (.Subscript (.List es _) _ _) _=>es
 | _=>[]
def prsI:List (Int × Int):=[(2,9),(3,8),(2,12),(4,7),(6,6),(5,6),(2,16),(3,12)]
theorem b4c:∀ q∈prsI,∃ L m:Nat,q=((L:Int),(m:Int))/\2<=L/\L<=6/\1<=m/\m<=16:=by
 intro q hq;unfold prsI at hq;simp only [List.mem_cons,List.not_mem_nil,or_false] at hq;rcases hq with rfl | rfl | rfl | rfl | rfl | rfl | rfl | rfl
 ·exact ⟨2,9,rfl,by decide,by decide,by decide,by decide⟩
 ·exact ⟨3,8,rfl,by decide,by decide,by decide,by decide⟩
 ·exact ⟨2,12,rfl,by decide,by decide,by decide,by decide⟩
 ·exact ⟨4,7,rfl,by decide,by decide,by decide,by decide⟩
 ·exact ⟨6,6,rfl,by decide,by decide,by decide,by decide⟩
 ·exact ⟨5,6,rfl,by decide,by decide,by decide,by decide⟩
 ·exact ⟨2,16,rfl,by decide,by decide,by decide,by decide⟩
 ·exact ⟨3,12,rfl,by decide,by decide,by decide,by decide⟩
theorem mod_n {x:Int} {n:Nat} (hn:1<=n):∃ k:Nat,x % (n:Int)=(k:Int)/\k < n:=by
 have h1:0<=x % (n:Int):=Int.emod_nonneg _ (by omega);have h2:x % (n:Int) < (n:Int):=Int.emod_lt_of_pos _ (by omega);exact ⟨(x % (n:Int)).toNat,by omega,by omega⟩
section
variable {P':Program} {w:World} {K:PySem.W.Frag} {mg:Str->Option Value} {base:Heap} {f:Addr} {fd:FuncData}
abbrev NIn:List Str:=["script","head","letters","most","things","prices","weights"]
def a9z (K:PySem.W.Frag):Sp:=λvs H Q _=>∃ (a:Addr) (ns:List Int),vs=[.ref a]/\SqL K H a (ns.map V.int)/\∀ (r p q:Addr) H' ps ws,a0p H H'->H' r=some (.tup [.ref p,.ref q])->TW H' p ps->TW H' q ws->Bd ps->Bd ws->CT.inL ps.length ws.length->1<=ws.length->Q (.ref r) H'
theorem b1p:a0k NIn ["script"] (a0g a2F):=fsk
theorem b1q (F:Fun K "_law_input" "_law_input" a2F f fd) (GC:Fns P' w K mg base ["script","k"] "_law_cell" (a6M K) 2) (GN:Fns P' w K mg base ["script","at","many","way"] "_law_numbers" (a5p K) 2):a0M P' w K mg base CX0 3 f fd ["script"] (a9z K):=by
 refine F.ok (k:=2) b1p (λvs H Q E h=>?_) (λcdv A outer s H vs Q E hr h=>?_)
 ·obtain ⟨a,ns,rfl,_⟩:=h;rfl
 obtain ⟨a,ns,rfl,hS,q⟩:=h;have key:∀ es:List Expr,a1U es=some prsI->∃ t,PSs (a5B CX0 P' w K mg base NIn (Str.ofString "_law_input") (a0g a2F) f cdv A outer s H E).nox ((a0D a2F).getD 0 (.Pass ⟨0,0,0,0⟩) :: mkI ((a0D a2F).getD 1 (.Pass ⟨0,0,0,0⟩)) es :: (a0D a2F).drop 2) t/\t { nx:=λx H'=>Q V.non H',rt:=Q } (L2.start NIn [V.ref a]) H:=by
  intro es hes;refine ⟨_,a0c (psA (i:=1) b1p (pcF GC hr (a0a (pv 0) (a0a (a0e) (a0d)))))
   (a0c (a2C (pxA a0j (b1c (qs:=prsI) hes) (a0l a1e (pv 1) (a0e))) (a4M rfl (a1i (pgA (i:=2) b1p) (a1i (pgA (i:=3) b1p) a2R))))
   (a0c (psA (i:=4) b1p (a0l a0t (a0e) (a0l a1e (a0l a2s (pv 1) (a0e)) (pv 3))))
   (a0c (a3a (a0W (a0r a1J (a0l a1e (a0l a2s (pv 1) (a0e)) (a0e)) (a0e) (nomark _)) (a0c (psA (i:=2) b1p (a0e))
   (a0h (psA (i:=4) b1p (a0e)))) (a0u)))
   (a0c (psA (i:=5) b1p (pcF GN hr (a0a (pv 0) (a0a (a0e) (a0a (pv 2) (a0a (a0l a1e (a0l a2s (pv 1) (a0e)) (a0e)) (a0d)))))))
   (a0c (psA (i:=6) b1p (pcF GN hr (a0a (pv 0) (a0a (a0l a0t (a0e) (pv 2)) (a0a (pv 4) (a0a (a0l a1e (a0l a2s (pv 1) (a0e)) (a0e)) (a0d)))))))
   (a0h (a0o (a1p (a0a (pv 5) (a0a (pv 6) (a0d))))))))))),?_⟩
  refine ⟨_,rfl,a,ns,0,rfl,hS,by decide,by decide,λhd hd0=>?_⟩;refine ⟨by decide,λd ts H1 s1 _ gd pr=>?_⟩;have m0:0<=hd % 8:=Int.emod_nonneg _ (by decide);have lt:ts.length=8:=pr.length;have m1:hd % 8 < (ts.length:Int):=by rw [lt];exact Int.emod_lt_of_pos _ (by decide)
  obtain ⟨y,hy,ay⟩:=at_of m0 m1;obtain ⟨qp,hqp,tp,rfl,htp⟩:=Paired.right_of pr _ y hy;obtain ⟨L0,mo,rfl,l2,l6,mo1,mo16⟩:=b4c qp (List.mem_of_getElem? hqp);refine ⟨_,rfl,_,_,rfl,rfl,(by show (0:Int) < _;decide),d,_,_,_,rfl,rfl,SqL.of gd,ay,tp,_,rfl,SqT.of htp,rfl,_,_,rfl,_,_,rfl,rfl,?_⟩;obtain ⟨k0,e0,lk0⟩:=mod_n (x:=hd / 8) mo1;have e1:(λ(i j:Int)=>V.int (i+j)) 1 (hd / 8 % (mo:Int))=.int ((1+k0:Nat):Int):=congrArg V.int (by rw [e0];omega);refine ⟨_,rfl,_,_,rfl,rfl,⟨by decide,by decide⟩,_,rfl,_,_,rfl,rfl,(by show (0:Int) < _;omega),_,_,rfl,rfl,?_⟩;rw [e1];refine ⟨λσ' H'=>H'=H1/\∃ L n:Nat,2<=L/\L<=6/\1<=n/\n<=24/\σ'=[some (.ref a),some (.int hd),some (.int (L:Int)),some (.int (mo:Int)),some (.int (n:Int)),none,none],?_,?_⟩
  ·refine ⟨_,rfl,_,_,rfl,rfl,⟨by decide,by decide⟩,_,_,rfl,rfl,(by show (0:Int) < _;decide),rfl,_,rfl,?_⟩;exact a2b (λ_=>⟨rfl,2,24,by decide,by decide,by decide,by decide,rfl⟩) (λ_=>⟨rfl,L0,1+k0,l2,l6,by omega,by omega,rfl⟩)
  rintro σ' H' ⟨rfl,L,n,hL2,hL6,hn1,hn24,rfl⟩;have hS1:=s1.seq hS;refine ⟨_,rfl,_,rfl,_,rfl,_,_,rfl,rfl,⟨by decide,by decide⟩,_,_,rfl,rfl,(by show (0:Int) < _;decide),a,ns,1,(L:Int),_,rfl,hS1,by decide,by decide,by omega,by omega,Int.emod_nonneg _ (by decide),Int.emod_lt_of_pos _ (by decide),λp H2 ps s2 hp lp bp=>?_⟩;refine ⟨_,rfl,_,rfl,_,_,rfl,rfl,_,rfl,_,rfl,_,_,rfl,rfl,⟨by decide,by decide⟩,_,_,rfl,rfl,(by show (0:Int) < _;decide),a,ns,1+(L:Int),(n:Int),_,rfl,s2.seq hS1,by omega,by omega,by omega,by omega,Int.emod_nonneg _ (by decide),Int.emod_lt_of_pos _ (by decide),λwv H3 ws s3 hw lw bw=>?_⟩;refine ⟨_,rfl,_,rfl,(by show 2<=sizeLine;decide),λr hr'=>?_⟩;have s4:=a0f hr' (.tup [.ref p,.ref wv]);exact q r p wv _ ps ws (((s1.trans s2).trans s3).trans s4) a0b (s4 _ _ (s3 _ _ hp)) (s4 _ _ hw) bp bw ⟨by omega,by omega,by omega⟩ (by omega)
 exact key (esI ((a0D a2F).getD 1 (.Pass ⟨0,0,0,0⟩))) rfl
def a4y:Sp:=λvs H Q _=>∃ i,vs=[.int i]/\Q (.bl true) H
theorem b4d:a0k ["found"] ["found"] (a0g a8E):=fsk
theorem b1r (F:Fun K "_law_whole" "_law_whole" a8E f fd) (mi:mg "isinstance"=none) (m1:mg "int"=none) (m2:mg "bool"=none):a0M P' w K mg base CX0 1 f fd ["found"] a4y:=by
 refine F.ok (k:=0) b4d (λvs H Q E h=>?_) (λcdv A outer s H vs Q E hr h=>?_)
 ·obtain ⟨i,rfl,_⟩:=h;rfl
 obtain ⟨i,rfl,q⟩:=h;refine ⟨_,a0h (a0o (a3B (a0G a2I (by rfl) mi b0t (a0a (pv 0) (a0a (a3Y (v:=.ty "int") (by rfl) m1 b_int rfl) a0d)))
  (a3A (pe_not (a0G a2I (by rfl) mi b0t (a0a (pv 0) (a0a (a3Y (v:=.ty "bool") (by rfl) m2 b_bool rfl) a0d))))))),?_⟩
 exact ⟨_,rfl,_,_,_,_,rfl,.int i,a5J _,_,rfl,a6r ⟨_,rfl,_,_,_,_,rfl,.int i,a4Z _,_,rfl,q⟩⟩
def spIsw:Sp:=λvs H Q _=>∃ (x:V) (ns:List Int),vs=[x]/\Wd H x ns/\∀ H',a0p H H'->Q (.bl true) H'
theorem ndFd:(("one":Str) :: ["found"]).Nodup:=by decide +kernel
theorem ndFw:(("word":Str) :: ["found"]).Nodup:=by decide +kernel
theorem scIsw:a0k ["found"] ["found"] (a0g a4k):=fsk
theorem scIsc:a0k ["found"] ["found"] (a0g a4l):=fsk
theorem ok_isw (F:Fun K "_law_is_word" "_law_is_word" a4k f fd) (GW:Fns P' w K mg base ["found"] "_law_whole" a4y 1) (ml:mg "len"=none) (mi:mg "isinstance"=none) (mt:mg "tuple"=none):a0M P' w K mg base CX0 2 f fd ["found"] spIsw:=by
 refine F.ok (k:=1) scIsw (λvs H Q E h=>?_) (λcdv A outer s H vs Q E hr h=>?_)
 ·obtain ⟨x,ns,rfl,_⟩:=h;rfl
 obtain ⟨x,ns,rfl,hx,q⟩:=h;obtain ⟨a,rfl,ha⟩:=hx.ti;refine ⟨_,a0h (a0o (a3B (a0G a2I (by rfl) mi b0t (a0a (pv 0) (a0a (a3Y (v:=.ty "tuple") (by rfl) mt a2Y rfl) a0d))) (a3A (a2t a1J (pln ml (a1W (M:=["found"]) rfl (cso (a0g a4k) ["found"]) ndFd rfl (pv 0) a0O
  (λcl C s0 H0 fp=>⟨a2v (a1K (a2c (pcF GW hr (a0a (pv 0) a0d)))),pv 0⟩))) a0e (nomark _))))),?_⟩
 refine ⟨_,rfl,_,_,_,_,rfl,.tup ha,a1O _,_,rfl,a6r ?_⟩;refine ⟨_,rfl,a,_,rfl,SqT.of ha,λd hd=>?_⟩;refine ⟨λi H'=>a0p H H'/\H' d=some (.lst []),⟨a0f hd _,a0b⟩,λi H' _ hP=>SqT.of (hP.1 _ _ ha),λi y H' hy hP=>?_,λH' hP=>?_⟩
 ·rw [List.getElem?_map] at hy;obtain ⟨z,hz,rfl⟩:=Option.map_eq_some_iff.mp hy;exact ⟨_,rfl,z,rfl,_,rfl,hP⟩
 ·exact ⟨d,_,rfl,.inl (SqL.of hP.2),rfl,q H' hP.1⟩
def spIsc:Sp:=λvs H Q _=>∃ (d:Addr) (xs:List V) (c:CT.Code),vs=[.ref d]/\H d=some (.tup xs)/\Ws H xs c/\∀ H',a0p H H'->Q (.bl true) H'
theorem ok_isc (F:Fun K "_law_is_code" "_law_is_code" a4l f fd) (GW:Fns P' w K mg base ["found"] "_law_is_word" spIsw 2) (ml:mg "len"=none) (mi:mg "isinstance"=none) (mt:mg "tuple"=none):a0M P' w K mg base CX0 3 f fd ["found"] spIsc:=by
 refine F.ok (k:=2) scIsc (λvs H Q E h=>?_) (λcdv A outer s H vs Q E hr h=>?_)
 ·obtain ⟨a,xs,c,rfl,_⟩:=h;rfl
 obtain ⟨a,xs,c,rfl,ha,hw,q⟩:=h;refine ⟨_,a0h (a0o (a3B (a0G a2I (by rfl) mi b0t (a0a (pv 0) (a0a (a3Y (v:=.ty "tuple") (by rfl) mt a2Y rfl) a0d))) (a3A (a2t a1J (pln ml (a1W (M:=["found"]) rfl (cso (a0g a4l) ["found"]) ndFw rfl (pv 0) a0O
  (λcl C s0 H0 fp=>⟨a2v (a1K (a2c (pcF GW hr (a0a (pv 0) a0d)))),pv 0⟩))) a0e (nomark _))))),?_⟩
 refine ⟨_,rfl,_,_,_,_,rfl,.tup ha,a1O _,_,rfl,a6r ?_⟩;refine ⟨_,rfl,a,_,rfl,SqT.of ha,λd hd=>?_⟩;refine ⟨λi H'=>a0p H H'/\H' d=some (.lst []),⟨a0f hd _,a0b⟩,λi H' _ hP=>SqT.of (hP.1 _ _ ha),λi y H' hy hP=>?_,λH' hP=>?_⟩
 ·obtain ⟨s1,g1⟩:=hP;obtain ⟨u,hu,ru⟩:=Paired.right_of hw i y hy;exact ⟨_,rfl,y,u,rfl,Wd.same s1 ru,λH2 s2=>⟨_,rfl,s1.trans s2,s2 _ _ g1⟩⟩
 ·exact ⟨d,_,rfl,.inl (SqL.of hP.2),rfl,q H' hP.1⟩
abbrev NCo:List Str:=["prices","weights","code","total","weight","word"]
abbrev PCo:List Str:=["prices","weights","code"]
def hoK (kb:Bool) (xs:List V):HO:=if kb then .tup xs else .lst xs
theorem SqK.of {K:PySem.W.Frag} {kb:Bool} {H:Hp} {a:Addr} {xs:List V} (h:H a=some (hoK kb xs)):SqK K kb H a xs:=by
 cases kb with
 | true=>exact SqT.of h
 | false=>exact SqL.of h
def a3U:Sp:=λvs H Q _=>∃ (kb:Bool) (p wa ca:Addr) (ps ws:List Int) (xs:List V) (c:CT.Code),vs=[.ref p,.ref wa,.ref ca]/\TW H p ps/\TW H wa ws/\H ca=some (hoK kb xs)/\Ws H xs c/\c.length=ws.length/\c.length<=100/\(∀ u∈c,Lt ps.length u/\u.length<=1000)/\Bw ps/\Bw ws/\∀ H',a0p H H'->Q (.int (CT.co ps ws 0 c)) H'
theorem a3o:a0k NCo PCo (a0g b0K):=fsk
theorem ndCo:(("letter":Str) :: NCo).Nodup:=by decide +kernel
theorem a6a (F:Fun K "_law_cost" "_law_cost" b0K f fd) (ms:mg "sum"=none) (mz:mg "zip"=none):a0M P' w K mg base CX0 1 f fd PCo a3U:=by
 refine F.ok (k:=0) a3o (λvs H Q E h=>?_) (λcdv A outer s H vs Q E hr h=>?_)
 ·obtain ⟨kb,p,wa,ca,ps,ws,xs,c,rfl,_⟩:=h;rfl
 obtain ⟨kb,p,wa,ca,ps,ws,xs,nss,rfl,hp,hw,hc,hx,el,l1,l2,bp,bw,q⟩:=h;have lx:xs.length=nss.length:=hx.length;refine ⟨_,a0c (psA (i:=3) a3o a0e)
  (a0c (a1n PassesOwn.never rfl (b1V true kb (by rfl) mz (a0a (pv 1) (a0a (pv 2) a0d))) (a4M rfl (a1i (pgA (i:=4) a3o) (a1i (pgA (i:=5) a3o) a2R)))
   (a0h (psA (i:=3) a3o (a0l a0t (pv 3) (a0l a3d (pv 4) (a0G (a2k rfl) (by rfl) ms a8k (a0a (a1W (M:=NCo) rfl (cso (a0g b0K) NCo) ndCo rfl (pv 5) a0O
   (λcl C s0 H0 fp=>⟨a0L,pxA (ixT K) (pv 1) (pv 0)⟩)) a0d)))))))
  (a0h (a0o (pv 3)))),?_⟩
 refine ⟨_,rfl,_,rfl,wa,ca,_,_,rfl,SqT.of hw,SqK.of hc,?_⟩;refine b3k (xs:=ws.map V.int) (ys:=xs) (λi σ H'=>a0p H H'/\∃ x4 x5:Option V,σ=[some (.ref p),some (.ref wa),some (.ref ca),some (.int ((List.zipWith (λx ns=>x * CT.pc ps ns) ws nss).take i).sum),x4,x5]) ⟨a0p.refl _,none,none,rfl⟩ (by rw [List.length_map];omega)
  (λi σ H' _ hP=>⟨SqT.of (hP.1 _ _ hw),SqK.of (hP.1 _ _ hc)⟩) (λi x y pp σ H6 hx' hy' hP hp6=>?_) (λσ H6 hP=>?_)
 ·obtain ⟨sm,x4,x5,rfl⟩:=hP;rw [List.getElem?_map] at hx';cases hz:ws[i]? with
  | none=>rw [hz] at hx';cases hx'
  | some wt =>
  rw [hz] at hx';cases hx';obtain ⟨ns,hn,ry⟩:=Paired.right_of hx i y hy';obtain ⟨wp,rfl,hwp⟩:=Wd.ti ry;obtain ⟨lok,ln⟩:=l2 ns (List.mem_of_getElem? hn);have s6:=a0f hp6 (.tup [.int wt,.ref wp]);have g6:=sm.trans s6;refine ⟨pp,[.int wt,.ref wp],rfl,SqT.of a0b,rfl,_,_,rfl,_,_,rfl,rfl,?_⟩;generalize upd H6 pp (.tup [.int wt,.ref wp])=H7 at g6 s6 ⊢;refine ⟨_,rfl,_,rfl,_,rfl,wp,_,rfl,SqT.of (g6 _ _ hwp),λd hd=>?_⟩;refine ⟨λk H'=>a0p H7 H'/\H' d=some (.lst (((ns.take k).map λx=>ps.getD x.toNat 0).map V.int)),⟨a0f hd _,a0b⟩,λk H' _ hP=>SqT.of (hP.1 _ _ (g6 _ _ hwp)),λk x H' hx hP=>?_,λH8 hP=>?_⟩
  ·obtain ⟨s8,hd'⟩:=hP;rw [List.getElem?_map] at hx;cases hy:ns[k]? with
   | none=>rw [hy] at hx;cases hx
   | some z =>
    rw [hy] at hx;cases hx;have hk:=(List.getElem?_eq_some_iff.mp hy).1;obtain ⟨z0,z1⟩:=lok z (List.mem_of_getElem? hy);obtain ⟨n,rfl⟩:∃ n:Nat,z=n:=⟨z.toNat,by omega⟩
    have hn':n < ps.length:=by omega
    refine a0E ⟨_,rfl,_,rfl,p,_,_,_,rfl,rfl,SqT.of (s8 _ _ (g6 _ _ hp)),a3I (List.getElem?_eq_getElem hn'),_,hd',?_,a0n hd s8,?_⟩
    ·rw [List.length_map,List.length_map,List.length_take];exact a0m (by omega)
    ·rw [a0b,List.take_add_one,hy,List.map_append,List.map_append];simp [List.getD_eq_getElem?_getD,List.getElem?_eq_getElem hn']
  obtain ⟨s8,hd'⟩:=hP;rw [List.length_map,List.take_length] at hd';obtain ⟨b1,b2⟩:=b3N bp ns;obtain ⟨b3,b4⟩:=bw wt (List.mem_of_getElem? hz);have b5:(ns.length:Int)<=1000:=by omega
  have b6:(ns.length:Int) * B30<=1000 * B30:=Int.mul_le_mul_of_nonneg_right b5 (by decide);have eS:((List.zipWith (λx ns=>x * CT.pc ps ns) ws nss).take (i+1)).sum=((List.zipWith (λx ns=>x * CT.pc ps ns) ws nss).take i).sum+wt * CT.pc ps ns:=by
   rw [List.take_add_one,a9v hz hn,List.sum_append];simp
  refine ⟨d,_,rfl,hd',_,_,rfl,rfl,⟨⟨b3,by unfold B30 at *;omega⟩,⟨b1,by unfold CT.pc B30 at *;omega⟩⟩,_,_,rfl,rfl,g6.trans s8,some (.int wt),some (.ref wp),?_⟩;rw [eS];rfl
 obtain ⟨g6,x4,x5,rfl⟩:=hP;rw [List.length_map,List.take_of_length_le (by rw [List.length_zipWith];omega)];exact ⟨_,rfl,q H6 g6⟩
end
end K56
set_option exponentiation.threshold 2000
namespace K56
open PySem L2
namespace CT
abbrev Gp:=List (Int × Code)
def gst (gs:Gp):List Int->Gp
 | []=>gs
 | x :: u=>match gs.getLast? with
  | some (y,c)=>if y=x then gs.dropLast++[(y,c++[u])] else gs++[(x,[u])]
  | none=>gs++[(x,[u])]
def grp (c:Code):Gp:=c.foldl gst []
def spF:Nat->Code->List (Int × Int)
 | 0,_=>[]
 | f+1,c=>(grp c).flatMap λq=>(q.1,(q.2.length:Int)) :: spF f q.2
theorem a2a {gs:Gp} {x y:Int} {u:List Int} {c:Code}:gst (gs++[(y,c)]) (x :: u)=if y=x then gs++[(y,c++[u])] else gs++[(y,c)]++[(x,[u])]:=by
 unfold gst;rw [List.getLast?_concat,List.dropLast_concat]
theorem a9A {gs:Gp} {l:Nat}:∀ (c d:Code),(ahd l c).foldl gst (gs++[((l:Int),d)])=gs++[((l:Int),d++c)]
 | [],d=>by rw [List.append_nil];rfl
 | u :: c,d=>by
  show (ahd l c).foldl gst (gst (gs++[((l:Int),d)]) ((l:Int) :: u))=_;rw [a2a,if_pos rfl,a9A c,List.append_assoc];rfl
theorem b1s {a:Int × Code} {gs:Gp} (ne:gs≠[]) (w:List Int):gst (a :: gs) w=a :: gst gs w:=by
 cases w with
 | nil=>rfl
 | cons x u =>
  obtain ⟨gs',b,rfl⟩:∃ gs' b,gs=gs'++[b]:=⟨gs.dropLast,gs.getLast ne,(List.dropLast_concat_getLast ne).symm⟩
  obtain ⟨y,c⟩:=b;rw [<-List.cons_append,a2a,a2a];split <;> rfl
theorem gst_ne {gs:Gp} (ne:gs≠[]) (w:List Int):gst gs w≠[]:=by
 cases w with
 | nil=>exact ne
 | cons x u =>
  obtain ⟨gs',b,rfl⟩:∃ gs' b,gs=gs'++[b]:=⟨gs.dropLast,gs.getLast ne,(List.dropLast_concat_getLast ne).symm⟩
  obtain ⟨y,c⟩:=b;rw [a2a];split <;> simp
theorem a5u {a:Int × Code}:∀ (r:Code) {gs:Gp},gs≠[]->r.foldl gst (a :: gs)=a :: r.foldl gst gs
 | [],gs,_=>rfl
 | w :: r,gs,ne=>by
  show r.foldl gst (gst (a :: gs) w)=a :: r.foldl gst (gst gs w);rw [b1s ne,a5u r (gst_ne ne w)]
theorem b1t {l:Nat} {c r:Code} (ne:c≠[]) (f:Fr (l+1) r):grp (ahd l c++r)=((l:Int),c) :: grp r:=by
 unfold grp;rw [List.foldl_append];cases c with
 | nil=>exact absurd rfl ne
 | cons u c =>
  have e:(ahd l (u :: c)).foldl gst []=[((l:Int),u :: c)]:=by
   show (ahd l c).foldl gst (gst [] ((l:Int) :: u))=_;exact a9A (gs:=[]) c [u]
  rw [e];cases r with
  | nil=>rfl
  | cons w r =>
   obtain ⟨x,v,rfl,hx⟩:=f w (.head _);show r.foldl gst (gst [((l:Int),u :: c)] (x :: v))=_ :: r.foldl gst (gst [] (x :: v));have e1:gst [((l:Int),u :: c)] (x :: v)=[((l:Int),u :: c),(x,[v])]:=by
    have:=a2a (gs:=[]) (y:=(l:Int)) (x:=x) (u:=v) (c:=u :: c);rw [if_neg (by omega)] at this;exact this
   rw [e1,a5u r (by simp)];rfl
theorem a2z {f l:Nat} {c r:Code} (ne:c≠[]) (fr:Fr (l+1) r):spF (f+1) (ahd l c++r)=((l:Int),(c.length:Int)) :: (spF f c++spF (f+1) r):=by
 show (grp (ahd l c++r)).flatMap _=_;rw [b1t ne fr,List.flatMap_cons];rfl
def SL (a b:List (Int × Int)):Prop:=∃ p x y s t,a=p++x :: s/\b=p++y :: t/\(x.1 < y.1\/(x.1=y.1/\x.2 < y.2))
theorem SL.cons {a b:List (Int × Int)} (z:Int × Int):SL a b->SL (z :: a) (z :: b)
 | ⟨p,x,y,s,t,e1,e2,h⟩=>⟨z :: p,x,y,s,t,by rw [e1];rfl,by rw [e2];rfl,h⟩
theorem SL.app {a b:List (Int × Int)} (u v:List (Int × Int)):SL a b->SL (a++u) (b++v)
 | ⟨p,x,y,s,t,e1,e2,h⟩=>⟨p,x,y,s++u,t++v,by rw [e1];simp,by rw [e2];simp,h⟩
theorem SL.pre {a b:List (Int × Int)} (u:List (Int × Int)):SL a b->SL (u++a) (u++b)
 | ⟨p,x,y,s,t,e1,e2,h⟩=>⟨u++p,x,y,s,t,by rw [e1,List.append_assoc],by rw [e2,List.append_assoc],h⟩
theorem rw_sl {L many low most f:Nat} {C:Nat->List Code} {R:Nat->Nat->List Code} (hC:∀ k,1<=k->k<=most->(C k).Pairwise (λc c'=>SL (spF f c) (spF f c'))/\∀ c∈C k,c.length=k) (hR:∀ k l,1<=k->k < many->(R k l).Pairwise (λr r'=>SL (spF (f+1) r) (spF (f+1) r'))/\∀ r∈R k l,Fr l r):(rw' L C R many low most).Pairwise λc c'=>SL (spF (f+1) c) (spF (f+1) c'):=by
 have hb:∀ q,(bhd R many q).Pairwise (λr r'=>SL (spF (f+1) r) (spF (f+1) r'))/\∀ r∈bhd R many q,Fr (q.1+1) r:=λq=>by
  unfold bhd;split
  ·exact hR _ _ (by omega) (by omega)
  ·exact ⟨List.pairwise_singleton _ _,λr hr u hu=>by
    have:r=[]:=by simpa using hr
    subst this;cases hu⟩
 unfold rw';rw [List.pairwise_flatMap];refine ⟨λq hq=>?_,?_⟩
 ·obtain ⟨q1,q2,q3⟩:=a0v.mp hq;obtain ⟨c1,c2⟩:=hC (q.2+1) (by omega) (by omega);have ne:∀ c∈C (q.2+1),c≠[]:=λc hc z=>by have:=c2 c hc;rw [z,List.length_nil] at this;omega
  rw [List.pairwise_flatMap];refine ⟨λc hc=>?_,c1.imp_of_mem λ{a b} ha hb' z x hx y hy=>?_⟩
  ·rw [List.pairwise_map];refine (hb q).1.imp_of_mem λ{r r'} hr hr' z=>?_;rw [a2z (ne c hc) ((hb q).2 r hr),a2z (ne c hc) ((hb q).2 r' hr')];exact (z.pre _).cons _
  ·obtain ⟨r,hr,rfl⟩:=List.mem_map.mp hx;obtain ⟨r',hr',rfl⟩:=List.mem_map.mp hy;rw [a2z (ne a ha) ((hb q).2 r hr),a2z (ne b hb') ((hb q).2 r' hr'),c2 a ha,c2 b hb'];exact (z.app _ _).cons _
 ·refine Bk_lt.imp_of_mem λ{a b} ha hb' z x hx y hy=>?_;obtain ⟨_,_,a3⟩:=a0v.mp ha;obtain ⟨_,_,b3⟩:=a0v.mp hb';obtain ⟨c,hc,hx⟩:=List.mem_flatMap.mp hx;obtain ⟨r,hr,rfl⟩:=List.mem_map.mp hx;obtain ⟨c',hc',hy⟩:=List.mem_flatMap.mp hy;obtain ⟨r',hr',rfl⟩:=List.mem_map.mp hy;have l1:=(hC (a.2+1) (by omega) (by omega)).2 c hc;have l2:=(hC (b.2+1) (by omega) (by omega)).2 c' hc';rw [a2z (by intro y;rw [y,List.length_nil] at l1;omega) ((hb a).2 r hr),a2z (by intro y;rw [y,List.length_nil] at l2;omega) ((hb b).2 r' hr')];exact ⟨[],_,_,_,_,rfl,rfl,by show (a.1:Int) < b.1\/((a.1:Int)=b.1/\(c.length:Int) < c'.length);omega⟩
theorem b2x {L:Nat}:∀ d m f,m<=d->1<=m->m<=f->(Cs L m).Pairwise (λc c'=>SL (spF f c) (spF f c'))/\∀ l,(Rs L m l).Pairwise λc c'=>SL (spF (f+1) c) (spF (f+1) c')
 | 0,m,f,h,h1,_=>by omega
 | d+1,m,f,h,h1,hf=>by
  have ih:=b2x (L:=L) d;have cl:∀ k,1<=k->∀ c∈Cs L k,c.length=k:=λk a c hc=>(a5n a c hc).ln;have rf:∀ k l,1<=k->∀ r∈Rs L k l,Fr l r:=λk l a r hr=>(b3Q a r hr).2;have hc:∀ f,m<=f->(Cs L m).Pairwise λc c'=>SL (spF f c) (spF f c'):=λf hf=>by
   by_cases e:m=1
   ·subst e;rw [a1R];exact List.pairwise_singleton _ _
   ·rw [a5l (by omega)];obtain ⟨g,rfl⟩:∃ g,f=g+1:=⟨f - 1,by omega⟩
    exact rw_sl (λk a b=>⟨(ih k g (by omega) a (by omega)).1,cl k a⟩) (λk l a b=>⟨(ih k g (by omega) a (by omega)).2 l,rf k l a⟩)
  refine ⟨hc f hf,λl=>?_⟩;by_cases hl:l < L
  ·rw [a5m h1 hl];refine rw_sl (λk a b=>⟨?_,cl k a⟩) (λk l a b=>⟨(ih k f (by omega) a (by omega)).2 l,rf k l a⟩);by_cases e:k=m
   ·subst e;exact hc f hf
   ·exact (ih k f (by omega) a (by omega)).1
  ·rw [a3P hl];exact List.Pairwise.nil
def LnS (L:Nat) (P:Code->Prop) (c:Code):Prop:=∃ ps:List (Nat × Code),c=ps.flatMap (λq=>ahd q.1 q.2)/\ps.Pairwise (λa b=>a.1 < b.1)/\2<=ps.length/\∀ q∈ps,q.1 < L/\q.2≠[]/\P q.2
def Ln (L:Nat):Nat->Code->Prop
 | 0,_=>False
 | f+1,c=>c=[[]]\/LnS L (Ln L f) c
theorem a6W {L:Nat}:∀ d m l,m<=d->1<=m->∀ r∈Rs L m l,∃ ps:List (Nat × Code),r=ps.flatMap (λq=>ahd q.1 q.2)/\ps.Pairwise (λa b=>a.1 < b.1)/\1<=ps.length/\∀ q∈ps,l<=q.1/\q.1 < L/\q.2≠[]/\q.2.length<=m/\q.2∈Cs L q.2.length
 | 0,m,l,h,h1,r,_=>by omega
 | d+1,m,l,h,h1,r,hr=>by
  by_cases hl:l < L
  ·rw [a5m h1 hl] at hr;unfold rw' at hr;obtain ⟨q,hq,hr⟩:=List.mem_flatMap.mp hr;obtain ⟨c,hc,hr⟩:=List.mem_flatMap.mp hr;obtain ⟨r2,hr2,rfl⟩:=List.mem_map.mp hr;obtain ⟨q1,q2,q3⟩:=a0v.mp hq;have lc:c.length=q.2+1:=(a5n (by omega) c hc).ln;have cm:c∈Cs L c.length:=by rw [lc];exact hc
   have ne:c≠[]:=λz=>by rw [z,List.length_nil] at lc;omega
   unfold bhd at hr2;split at hr2
   ·obtain ⟨ps,e,pw,p1,pa⟩:=a6W d _ (q.1+1) (by omega) (by omega) r2 hr2;refine ⟨(q.1,c) :: ps,by rw [e];rfl,List.pairwise_cons.mpr ⟨λy hy=>(pa y hy).1,pw⟩,by simp,λy hy=>?_⟩;rcases List.mem_cons.mp hy with rfl | hy
    ·exact ⟨q1,q2,ne,by show c.length<=m;omega,cm⟩
    ·obtain ⟨a,b,c',d',e'⟩:=pa y hy;exact ⟨by omega,b,c',by omega,e'⟩
   ·have:r2=[]:=by simpa using hr2
    subst this;refine ⟨[(q.1,c)],by simp,List.pairwise_singleton _ _,by simp,λy hy=>?_⟩;rw [List.mem_singleton.mp hy];exact ⟨q1,q2,ne,by show c.length<=m;omega,cm⟩
  ·rw [a3P hl] at hr;cases hr
theorem b4e {L:Nat}:∀ f m,m<=f->1<=m->∀ c∈Cs L m,Ln L f c
 | 0,m,h,h1,c,_=>by omega
 | f+1,m,h,h1,c,hc=>by
  by_cases e:m=1
  ·subst e;rw [a1R] at hc;exact Or.inl (List.mem_singleton.mp hc)
  ·refine Or.inr ?_;rw [a5l (by omega)] at hc;unfold rw' at hc;obtain ⟨q,hq,hc⟩:=List.mem_flatMap.mp hc;obtain ⟨c1,hc1,hc⟩:=List.mem_flatMap.mp hc;obtain ⟨r2,hr2,rfl⟩:=List.mem_map.mp hc;obtain ⟨q1,q2,q3⟩:=a0v.mp hq;have lc:c1.length=q.2+1:=(a5n (by omega) c1 hc1).ln;have ne:c1≠[]:=λz=>by rw [z,List.length_nil] at lc;omega
   unfold bhd at hr2;rw [if_pos (by omega)] at hr2;obtain ⟨ps,e,pw,p1,pa⟩:=a6W _ _ (q.1+1) (Nat.le_refl _) (by omega) r2 hr2;refine ⟨(q.1,c1) :: ps,by rw [e];rfl,List.pairwise_cons.mpr ⟨λy hy=>(pa y hy).1,pw⟩,by simp;omega,λy hy=>?_⟩;rcases List.mem_cons.mp hy with rfl | hy
   ·exact ⟨q2,ne,b4e f _ (by omega) (by omega) c1 hc1⟩
   ·obtain ⟨a,b,c',d',e'⟩:=pa y hy;exact ⟨b,c',b4e f _ (by omega) (List.length_pos_iff.mpr c') _ e'⟩
end CT
end K56
namespace L2
open PySem PySem.Spec PyProof.Rows PySem.W
def a0B (m:Nat):List Nat:=(List.range 8).filter λi=>m.testBit i
def nxL (m:Nat):Nat->Nat
 | 0=>0
 | i+1=>(a0B m).getD i 0+1
theorem a6X:∀ m < 256,∀ x < 8,m.testBit x=false->SetTable.insertAt (a0B m).toArray (SetTable.below (a0B m).toArray x) x=(a0B (m ||| 1 <<< x)).toArray:=by decide +kernel
theorem b4f:∀ m < 256,∀ i < 9,i<=(a0B m).length->SetTable.below (a0B m).toArray (nxL m i)=i:=by decide +kernel
theorem a9B:∀ m < 256,(a0B m).length=5->SetTable.laid 31 0 0 true true ((a0B m).map Int.ofNat).toArray=some (⟨31,(a0B m).toArray,#[],0,true,0,true⟩,#[0,1,2,3,4]):=by decide +kernel
theorem a6Y:∀ m < 256,∀ x < 8,m.testBit x=false->(a0B (m ||| 1 <<< x)).length=(a0B m).length+1/\(m ||| 1 <<< x) < 256:=by decide +kernel
theorem a4z {m x:Nat}:x∈a0B m↔x < 8/\m.testBit x=true:=by
 unfold a0B;rw [List.mem_filter,List.mem_range]
theorem b1u (f mv:Nat) (l p:Bool) (hs:Array Int) (k:Nat):SetTable.laid k f mv l p hs=(SetTable.laid k 0 0 true true hs).map λq=>(⟨q.1.mask,q.1.place,q.1.dummies,f,l,mv,p⟩,q.2):=by
 unfold SetTable.laid;cases SetTable.layClean k hs <;> rfl
structure SmT (b:Bool) (m:Nat) (t:SetTable):Prop where
 lt:m < 256
 place:t.place=(a0B m).toArray
 dum:t.dummies=#[]
 plain:t.plain=true
 led:t.led=!b
 mask:t.mask=7/\(a0B m).length < 5\/t.mask=31
structure SmE (m:Nat) (es:Array (Int × Value)):Prop where
 vals:es.toList.map (·.1)=(a0B m).map Int.ofNat
 int:∀ e∈es.toList,∃ tk,e.2=.int e.1 tk
theorem SmE.size {m:Nat} {es:Array (Int × Value)} (h:SmE m es):es.size=(a0B m).length:=by
 have:=congrArg List.length h.vals;simpa using this
theorem a2e (m:Nat):(a0B m).length<=8:=by
 unfold a0B;exact Nat.le_trans (List.length_filter_le _ _) (by simp)
theorem SmT.fits {b:Bool} {m:Nat} {t:SetTable} (h:SmT b m t):t.fits (a0B m).length=true:=by
 have:=a2e m;unfold SetTable.fits SetTable.fill;rw [h.place,h.dum];rcases h.mask with ⟨e,l⟩ | e <;> rw [e] <;> simp <;> omega
theorem SmT.free {b:Bool} {m:Nat} {t:SetTable} (h:SmT b m t) {x:Nat} (hx:x < 8) (hn:m.testBit x=false):t.freeSlot (x:Int)=some (x,false):=by
 have hb:SetTable.bits (x:Int) % (t.mask+1)=x:=by
  have k7:∀ x < 8,SetTable.bits (x:Nat) % (7+1)=x:=by decide +kernel
  have k31:∀ x < 8,SetTable.bits (x:Nat) % (31+1)=x:=by decide +kernel
  rcases h.mask with ⟨e,_⟩ | e <;> rw [e]
  ·exact k7 x hx
  ·exact k31 x hx
 have hs:t.slot x=.empty:=by
  unfold SetTable.slot SetTable.has;rw [h.place,h.dum];have:((a0B m).toArray[SetTable.below (a0B m).toArray x]? == some x)=false:=by
   rw [beq_eq_false_iff_ne];intro e;have:=Array.mem_of_getElem? e;rw [List.mem_toArray,a4z] at this;rw [hn] at this;exact Bool.noConfusion this.2
  dsimp only;rw [this];rfl
 have hp:(t.probeStart (x:Int)).j=x:=hb;have hd:(t.probeStart (x:Int)).dummy=none:=rfl;unfold SetTable.freeSlot SetTable.probe;have hf:10 * SetTable.turns t.mask=(10 * SetTable.turns t.mask - 1)+1:=by unfold SetTable.turns;omega
 rw [hf];unfold SetTable.probe.go;rw [hp,hs,hd];rfl
theorem a4A {α:Type} (xs:Array α) (p:Nat) (x:α):(SetTable.insertAt xs p x).toList=xs.toList.take p++x :: xs.toList.drop p:=by
 unfold SetTable.insertAt;simp [Array.toList_extract,List.extract_eq_take_drop];rw [List.take_of_length_le];simp
theorem SmE.ins {m:Nat} {es:Array (Int × Value)} (h:SmE m es) (hm:m < 256) {x:Nat} (hx:x < 8) (hn:m.testBit x=false) (tk:Nat) :
  SmE (m ||| 1 <<< x) (SetTable.insertAt es (SetTable.below (a0B m).toArray x) ((x:Int),.int (x:Int) tk)):=by
 have hp:=congrArg Array.toList (a6X m hm x hx hn);rw [a4A] at hp;simp only at hp;refine ⟨?_,λe he=>?_⟩
 ·rw [a4A,List.map_append,List.map_take,List.map_cons,List.map_drop,h.vals,<-hp,List.map_append,List.map_take,List.map_cons,List.map_drop];rfl
 ·rw [a4A] at he;rcases List.mem_append.mp he with z | z
  ·exact h.int e (List.mem_of_mem_take z)
  ·rcases List.mem_cons.mp z with rfl | z
   ·exact ⟨tk,rfl⟩
   ·exact h.int e (List.mem_of_mem_drop z)
theorem lay_sm {b:Bool} {m:Nat} {t:SetTable} {es:Array (Int × Value)} (T:SmT b m t) (Es:SmE m es) {x:Nat} (hx:x < 8) (hn:m.testBit x=false) (tk:Nat) :
  ∃ es' t',layNew t es (x:Int) (.int (x:Int) tk)=(es',t',false,false)/\SmE (m ||| 1 <<< x) es'/\t'.place=(a0B (m ||| 1 <<< x)).toArray/\t'.dummies=#[]/\t'.plain=true/\t'.led=!b/\t'.mask=t.mask:=by
 have hE:=Es.ins T.lt hx hn tk;have hl:=a6Y m T.lt x hx hn;have h8:=a2e (m ||| 1 <<< x);have pp:=a6X m T.lt x hx hn;have hd:SetTable.has #[] x=false:=rfl;refine ⟨_,⟨t.mask,(a0B (m ||| 1 <<< x)).toArray,#[],t.finger,t.led,t.moves,t.plain⟩,?_,hE,rfl,rfl,T.plain,T.led,rfl⟩;have fit:SetTable.fits ⟨t.mask,(a0B (m ||| 1 <<< x)).toArray,#[],t.finger,t.led,t.moves,t.plain⟩ (a0B (m ||| 1 <<< x)).length=true:=by
  unfold SetTable.fits SetTable.fill;rcases T.mask with ⟨e,l⟩ | e <;> rw [e] <;> simp <;> omega
 unfold layNew;rw [T.free hx hn];unfold SetTable.put;simp only [hd,T.place,pp,T.dum,hE.size,SetTable.orStandIn,fit,Bool.false_eq_true,if_false,if_true,Bool.not_true]
theorem all5 {α:Type} (es:Array α) (h:es.size=5):(#[0,1,2,3,4]:Array Nat).filterMap (es[·]?)=es:=by
 obtain ⟨l⟩:=es
 match l,h with
 | [a,b,c,d,e],_=>rfl
theorem b1v {b:Bool} {m:Nat} {t:SetTable} {es:Array (Int × Value)} (Es:SmE m es) (hm:m < 256) (h5:(a0B m).length=5) (hp:t.plain=true) (hl:t.led=!b) (h7:t.mask=7) :
  ∃ t',relayAll t es (SetTable.grown es.size)=(es,t',false)/\SmT b m t':=by
 have sz:es.size=5:=by rw [Es.size,h5]
 have hh:es.map (·.1)=((a0B m).map Int.ofNat).toArray:=by
  rw [<-Es.vals];cases es;simp
 have ab:SetTable.sizeAbove (SetTable.grown 5) - 1=31:=by decide
 unfold relayAll SetTable.relaid;rw [sz,ab,b1u,hh,a9B m hm h5];refine ⟨⟨31,(a0B m).toArray,#[],t.finger,t.led,t.movedTo 31,t.plain⟩,?_,⟨hm,rfl,rfl,hp,hl,.inr rfl⟩⟩;simp only [Option.map_some];rw [all5 es sz,sz];have fit:SetTable.fits ⟨31,(a0B m).toArray,#[],t.finger,t.led,t.movedTo 31,t.plain⟩ 5=true:=by
  unfold SetTable.fits SetTable.fill;simp [h5]
 rw [fit];rfl
section
variable {prog:Program} {w:World} {A:Around} {E:Value->Shared->Prop} {s:Shared} {b:Bool}
def a7C (b:Bool) (m:Nat) (h:Heap) (a:Addr):Prop:=∃ o es ep t,h.get? a=some o/\o.ExactSet/\o.data=.set es ep t/\SmT b m t/\SmE m es
theorem a7C.at {m:Nat} {h h':Heap} {a:Addr} (x:a7C b m h a) (e:∀ o,h.get? a=some o->h'.get? a=some o):a7C b m h' a:=by
 obtain ⟨o,es,ep,t,ho,r⟩:=x;exact ⟨o,es,ep,t,e o ho,r⟩
theorem a9C:∀ x < 8,hashInt (x:Nat)=x:=by decide +kernel
theorem SmE.mem {m:Nat} {es:Array (Int × Value)} (h:SmE m es) {e:Int × Value} (he:e∈es.toList):∃ y tk,y < 8/\m.testBit y=true/\e=((y:Int),.int (y:Int) tk):=by
 obtain ⟨tk,et⟩:=h.int e he;have:e.1∈(a0B m).map Int.ofNat:=by rw [<-h.vals];exact List.mem_map_of_mem he
 obtain ⟨y,hy,e1⟩:=List.mem_map.mp this;obtain ⟨h8,hb⟩:=a4z.mp hy;obtain ⟨e1',e2'⟩:=e;simp only at e1 et;subst e1;exact ⟨y,tk,h8,hb,by rw [et];rfl⟩
theorem SmE.elems {m:Nat} {es:Array (Int × Value)} (h:SmE m es):ElemsOf (intKind prog w) es.toList:=λe he=>by
 obtain ⟨y,tk,h8,_,rfl⟩:=h.mem he;exact ⟨⟨y,intKind_is _ _ _ _,(a9C y h8).symm⟩,rfl⟩
theorem SmE.has {m:Nat} {es:Array (Int × Value)} (h:SmE m es) {x:Nat} (hx:x < 8) (hb:m.testBit x=true):∃ e∈es.toList,(intKind prog w).is (x:Int) e.2=true:=by
 have:Int.ofNat x∈es.toList.map (·.1):=by rw [h.vals];exact List.mem_map_of_mem (a4z.mpr ⟨hx,hb⟩)
 obtain ⟨e,he,e1⟩:=List.mem_map.mp this;obtain ⟨tk,et⟩:=h.int e he;refine ⟨e,he,?_⟩;rw [et,e1];exact intKind_is _ _ _ _
theorem b4g:∀ m < 256,∀ x < 8,m.testBit x=true->m ||| 1 <<< x=m:=by decide +kernel
theorem add_sm {a:Addr} {m x tk:Nat} {Q:Bool->Shared->Prop} (hS:a7C b m s.heap a) (hx:x < 8)
  (h:∀ h' r,Heap.SameBut a s.heap h'->a7C b (m ||| 1 <<< x) h' a->Q r { s with heap:=h' }):wpAny (model prog w) A (setAddHashed a (.int (x:Int) tk) ((intKind prog w).hash (x:Int))) Q E s:=by
 obtain ⟨o,es,ep,t,ho,hex,hd,T,Es⟩:=hS;have hel:ElemsOf (intKind prog w) es.toList:=Es.elems;have hf:t.fits es.size=true:=by rw [Es.size];exact T.fits
 have sz8:es.size<=8:=by rw [Es.size];exact a2e m
 have hb8:es.size < scanBound:=by unfold scanBound;omega
 have hk:(intKind prog w).is (x:Int) (.int (x:Int) tk)=true:=intKind_is _ _ _ _;have hhx:(intKind prog w).hash (x:Int)=(x:Int):=a9C x hx;unfold setAddHashed setAddHashedIn;refine wpAny_holding (wpAny_bind (wpAny_setState_of ho hd hf ?_));simp only [byScan_of (knd:=intKind prog w) (x:=.int (x:Int) tk) rfl hb8 hel,↓reduceIte];unfold setAddByScan;refine wpAny_bind (wpAny_bind (wpAny_rule (wpAny_bind (wpAny_setScan_of hk ho hd hf hel ?_))));cases hr:List.findIdx? (λe=>(intKind prog w).is (x:Int) e.2) es.toList with
 | some j =>
  obtain ⟨hj,hpj,_⟩:=List.findIdx?_eq_some_iff_getElem.mp hr;obtain ⟨y,tk',h8,hb,ey⟩:=Es.mem (List.getElem_mem hj);have exy:x=y:=by
   rw [ey] at hpj;have:=(intKind prog w).inj _ _ _ hpj (intKind_is _ _ (y:Int) _);exact Int.ofNat.inj this
  subst exy;refine wpAny_pure (wpAny_pure ?_);have:=h s.heap false (Heap.SameBut.refl a s.heap) (by rw [b4g m T.lt x hx hb];exact ⟨o,es,ep,t,ho,hex,hd,T,Es⟩);exact this
 | none =>
  have hn:m.testBit x=false:=by
   cases hb:m.testBit x with
   | false=>rfl
   | true =>
    obtain ⟨e,he,z⟩:=Es.has (prog:=prog) (w:=w) hx hb;have:=List.findIdx?_eq_none_iff.mp hr e he;rw [z] at this;exact Bool.noConfusion this
  obtain ⟨es1,t1,e1,E1,p1,d1,pl1,l1,m1⟩:=lay_sm T Es hx hn tk;have hl:=a6Y m T.lt x hx hn;have h8':=a2e (m ||| 1 <<< x);have sz1:es1.size<=8:=by rw [E1.size];exact h8'
  have fit1:es1.size<=sizeLine:=by rw [sizeLine_eq];omega
  simp only [hhx,e1];refine wpAny_bind (wpAny_pure ?_);simp only [pl1,if_true];refine wpAny_bind (wpAny_of_eq (hashByValue_scannable 8 rfl) ?_);simp only [show plainKind (.int (x:Int) tk)=true from rfl,if_true];refine wpAny_bind (wpAny_storeSet_of ho hd ?_ fit1);have hg:(s.heap.update a (Obj.putSet es1 t1)).get? a=some { o with data:=.set es1 (ep+1) t1 }:=by
   have:=Heap.get?_update_self (Obj.putSet es1 t1) ho (by rw [putSet_of es1 t1 hd];rfl)
   rwa [putSet_of es1 t1 hd] at this
  have sb:=Heap.SameBut.update s.heap a (Obj.putSet es1 t1);have nf:t1.fill=(a0B (m ||| 1 <<< x)).length:=by
   unfold SetTable.fill;rw [p1,d1];simp
  by_cases h5:t1.tooFull=true
  ·have h7:t1.mask=7/\(a0B (m ||| 1 <<< x)).length=5:=by
    unfold SetTable.tooFull at h5;rw [nf] at h5;simp only [ge_iff_le,decide_eq_true_eq] at h5;rcases T.mask with ⟨e,l⟩ | e <;> rw [m1,e] at h5 <;> rw [m1,e] <;> omega
   obtain ⟨t2,e2,T2⟩:=b1v (b:=b) E1 hl.2 h7.2 pl1 l1 h7.1;simp only [h5,e2,Bool.not_false,Bool.and_self,if_true];refine wpAny_bind (wpAny_pure (wpAny_bind (wpAny_storeSet_of hg rfl ?_ fit1)));have hg2:((s.heap.update a (Obj.putSet es1 t1)).update a (Obj.putSet es1 t2)).get? a=some { o with data:=.set es1 (ep+1+1) t2 }:=by
    have:=Heap.get?_update_self (Obj.putSet es1 t2) hg (by rw [putSet_of es1 t2 rfl];rfl)
    rwa [putSet_of es1 t2 rfl] at this
   exact wpAny_pure (wpAny_pure (h _ true (sb.trans (Heap.SameBut.update _ a _)) ⟨_,es1,_,t2,hg2,hex,rfl,T2,E1⟩))
  ·simp only [Bool.not_eq_true] at h5;simp only [h5,Bool.and_false,Bool.false_eq_true,if_false];have h7:t1.mask=7/\(a0B (m ||| 1 <<< x)).length < 5\/t1.mask=31:=by
    unfold SetTable.tooFull at h5;rw [nf] at h5;simp only [ge_iff_le,decide_eq_false_iff_not] at h5;rcases T.mask with ⟨e,l⟩ | e
    ·rw [m1,e] at h5;exact .inl ⟨by rw [m1,e],by omega⟩
    ·exact .inr (by rw [m1,e])
   exact wpAny_pure (wpAny_pure (h _ true sb ⟨_,es1,_,t1,hg,hex,rfl,⟨hl.2,p1,d1,pl1,l1,h7⟩,E1⟩))
end
theorem a6Z {α:Type} (next:Nat->Nat):∀ (f k:Nat) (l:List α) (out:Array α),l.length=f->(pickOrder.go next f k l out).toList.Perm (out.toList++l)
 | 0,k,l,out,h=>by
  obtain rfl:=List.eq_nil_of_length_eq_zero h;unfold pickOrder.go;simp
 | f+1,k,l,out,h=>by
  have hi:next k % l.length < l.length:=Nat.mod_lt _ (by omega)
  unfold pickOrder.go;rw [List.getElem?_eq_getElem hi];dsimp only;refine (a6Z next f (k+1) _ _ (by rw [List.length_eraseIdx_of_lt hi];omega)).trans ?_;rw [Array.toList_push,List.append_assoc];refine List.Perm.append_left _ ?_;rw [List.eraseIdx_eq_take_drop_succ];have e:l=l.take (next k % l.length)++l[next k % l.length] :: l.drop (next k % l.length+1):=by rw [List.getElem_cons_drop,List.take_append_drop]
  have p:(l[next k % l.length] :: (l.take (next k % l.length)++l.drop (next k % l.length+1))).Perm (l.take (next k % l.length)++l[next k % l.length] :: l.drop (next k % l.length+1)):=List.perm_middle.symm;rw [<-e] at p;exact p
theorem a7A {α:Type} (next:Nat->Nat) (xs:Array α):(pickOrder next xs).toList.Perm xs.toList:=by
 unfold pickOrder;simpa using a6Z next xs.size 0 xs.toList #[] (by simp)
theorem a1c:Slot "set_iterator" "__next__" "set_iterator.__next__":=.of (owner:="set_iterator") (n:="__next__") (by rw [typeLookup_type,builtinLookup_eq_fast];kernel_rfl) (by decide +kernel) (by decide +kernel) (by decide +kernel) (by first | exact .inl (by decide +kernel) | exact .inr (by decide +kernel)) (by rw [isSubtype_type];kernel_rfl)
theorem a5v:∃ id,Slot "set_iterator" "__iter__" id/\id="set_iterator.__iter__":=⟨_,.of (owner:="set_iterator") (n:="__iter__") (by rw [typeLookup_type,builtinLookup_eq_fast];kernel_rfl) (by decide +kernel) (by decide +kernel) (by decide +kernel) (by first | exact .inl (by decide +kernel) | exact .inr (by decide +kernel)) (by rw [isSubtype_type];kernel_rfl),rfl⟩
theorem a2m:entryFor table "set_iterator.__next__"=some Builtin.«set_iterator.__next__»:=entryFor_of_tree (by kernel_rfl)
theorem a4B:entryFor table "set.__iter__"=some Builtin.«frozenset.__iter__»:=entryFor_alias (id':="frozenset.__iter__") (by kernel_rfl) rfl (by decide +kernel) (by kernel_rfl)
section
variable {prog:Program} {w:World} {A:Around} {E:Value->Shared->Prop} {s:Shared} {b:Bool} {m ep:Nat} {es:Array (Int × Value)} {t:SetTable} {a it:Addr}
def a7D (b:Bool) (m:Nat) (h:Heap) (a:Addr) (es:Array (Int × Value)) (ep:Nat) (t:SetTable):Prop:=∃ o,h.get? a=some o/\o.ExactSet/\o.data=.set es ep t/\SmT b m t/\SmE m es
theorem a7D.at {h h':Heap} (x:a7D b m h a es ep t) (e:∀ o,h.get? a=some o->h'.get? a=some o):a7D b m h' a es ep t:=by
 obtain ⟨o,ho,r⟩:=x;exact ⟨o,e o ho,r⟩
theorem a7D.fits {h:Heap} (x:a7D b m h a es ep t):t.fits es.size=true:=by
 obtain ⟨o,_,_,_,T,Es⟩:=x;rw [Es.size];exact T.fits
def a5w (w:World) (a:Addr) (ep:Nat) (es:Array (Int × Value)):Array (Int × Value):=if w.params.followText "set-order" then pickOrder (w.params.setOrder a ep) es else es
theorem a4C:(a5w w a ep es).toList.Perm es.toList:=by
 unfold a5w;split
 ·exact a7A _ _
 ·exact .refl _
theorem a2n:(a5w w a ep es).size=es.size:=by
 have:=(a4C (w:=w) (a:=a) (ep:=ep) (es:=es)).length_eq;simpa using this
theorem b1w {Q:Bool->Shared->Prop} (x:a7D b m s.heap a es ep t) (h:Q false s):wpAny (model prog w) A (setDrawn a) Q E s:=by
 have hf:=x.fits;obtain ⟨o,ho,hx,hd,T,Es⟩:=x;unfold setDrawn setsByText;refine wpAny_bind (wpAny_setState_of ho hd hf (wpAny_bind (wpAny_bind (wpAny_askSetting (wpAny_pure (wpAny_pure ?_))))));have e:(!w.params.followText "set-order" && (!t.plain && decide (es.size > 1)))=false:=by rw [T.plain];simp
 show Q (!w.params.followText "set-order" && (!t.plain && decide (es.size > 1))) s;rw [e];exact h
def SWk (b:Bool) (m:Nat) (h:Heap) (it a:Addr) (i n ep:Nat):Prop:=∃ o sl,h.get? it=some o/\o.cls=.type "set_iterator"/\o.data=.fields #[.int (sl:Nat) 0,.int i 0,.ref a,.int n 0,.int ep 0]/\(b=false->sl=nxL m i)
theorem SWk.at {h h':Heap} {i n:Nat} (x:SWk b m h it a i n ep) (e:∀ o,h.get? it=some o->h'.get? it=some o):SWk b m h' it a i n ep:=by
 obtain ⟨o,sl,ho,r⟩:=x;exact ⟨o,sl,e o ho,r⟩
theorem b4h {Q:Value->Shared->Prop} (x:a7D b m s.heap a es ep t) (hQ:Q (.ref s.heap.objs.size) { s with heap:=s.heap.push { cls:=.type "set_iterator",data:=.fields #[.int 0 0,.int 0 0,.ref a,.int es.size 0,.int ep 0] } }) :
  wpAny (model prog w) A (pyIter (.ref a)) Q E s:=by
 have hf:=x.fits;obtain ⟨o,ho,hx,hd,T,Es⟩:=id x;have hT:s.TypeIs (.ref a) "set":=⟨o,ho,hx.1⟩
 refine wpAny_pyIter_slot hT F.slot_set_iter (wpAny_call_entry F.slot_set_iter hT a4B ?_ (F.args_set_iter_1 _));unfold Builtin.«frozenset.__iter__»;show wpAny _ _ (Builtin.Frozenset.sizeOf a >>= _) _ _ s;unfold Builtin.Frozenset.sizeOf;refine wpAny_bind (wpAny_bind (wpAny_setEntries_of ho hd hf (wpAny_pure ?_)));refine wpAny_bind (b1w x ?_);simp only [Bool.false_eq_true,if_false];refine wpAny_bind (wpAny_pure (wpAny_bind (wpAny_setEpoch_of ho hd hf ?_)));refine wpAny_bind (wpAny_newObj_type (wpAny_pure ⟨_,rfl,"set_iterator",_,⟨_,Heap.get?_push_size _ rfl,rfl⟩,a1c.lookup,?_⟩));simpa [rawInt] using hQ
end
theorem a7a:Manifest.owners.lookup (String.ofList ['r','o','t','a','r','e','t','i','_','t','e','s'].reverse)=some Manifest.sig_set_iterator:=by kernel_rfl
theorem a2H (a:Value):argsOk "set_iterator.__next__" ⟨[a],[]⟩:=by
 unfold argsOk;rw [signature?_of (id:="set_iterator.__next__") (n:=['_','_','t','x','e','n','_','_']) (o:=['r','o','t','a','r','e','t','i','_','t','e','s']) (by kernel_rfl) a7a];kernel_rfl
theorem a5x (a:Value):argsOk "set_iterator.__iter__" ⟨[a],[]⟩:=by
 unfold argsOk;rw [signature?_of (id:="set_iterator.__iter__") (n:=['_','_','r','e','t','i','_','_']) (o:=['r','o','t','a','r','e','t','i','_','t','e','s']) (by kernel_rfl) a7a];kernel_rfl
theorem a4D:entryFor table "set_iterator.__iter__"=some Builtin.«dict_keyiterator.__iter__»:=entryFor_alias (id':="dict_keyiterator.__iter__") (by kernel_rfl) rfl (by decide +kernel) (by kernel_rfl)
section
variable {prog:Program} {w:World} {A:Around} {E:Value->Shared->Prop} {s:Shared} {b:Bool} {m ep:Nat} {es:Array (Int × Value)} {t:SetTable} {a it:Addr}
theorem a9D {i sl:Nat} {Q:Option (Value × Nat)->Shared->Prop} (x:a7D b m s.heap a es ep t) (hb:b=w.params.followText "set-order") (hsl:b=false->sl=nxL m i) (hi:i<=es.size)
  (h:∀ sl',(b=false->i < es.size->sl'=nxL m (i+1))->Q (((a5w w a ep es)[i]?).map λe=>(e.2,sl')) s):wpAny (model prog w) A (setNext a sl i ep) Q E s:=by
 have hf:=x.fits;obtain ⟨o,ho,hx,hd,T,Es⟩:=id x;unfold setNext setsByText;refine wpAny_bind (wpAny_setState_of ho hd hf ?_);refine wpAny_bind (wpAny_bind (wpAny_askSetting (wpAny_pure ?_)));cases hw:w.params.followText "set-order" with
 | true =>
  have hw':(model prog w).w.params.followText "set-order"=true:=hw;simp only [hw',if_true,bne_self_eq_false,Bool.false_eq_true,if_false];unfold setWalk setsByText;refine wpAny_bind (wpAny_bind (wpAny_setState_of ho hd hf (wpAny_bind (wpAny_bind (wpAny_askSetting (wpAny_pure ?_))))));simp only [hw',if_true];refine wpAny_bind (wpAny_askSetting (wpAny_pure (wpAny_pure ?_)));have:=h sl (λz=>by rw [hb,hw] at z;cases z);unfold a5w at this;rw [hw] at this;exact this
 | false =>
  have hw':(model prog w).w.params.followText "set-order"=false:=hw;have hb0:b=false:=hb.trans hw;have hl:t.led=true:=by rw [T.led,hb0];rfl
  simp only [hw',Bool.false_eq_true,if_false];have np:¬ ((!t.plain && decide (es.size > 1))=true):=by rw [T.plain];simp
  refine wpAny_ite_split (λz=>absurd z np) λ_=>?_;refine wpAny_bind (m:=(if (!t.led && !es.isEmpty)=true then unsupported "set:maker-not-led" else pure ())) ?_;rw [if_neg (show ¬ ((!t.led && !es.isEmpty)=true) from by rw [hl];simp)];refine wpAny_pure (wpAny_pure ?_);have bl:SetTable.below t.place sl=i:=by
   rw [T.place,hsl hb0];have:=a2e m;exact b4f m T.lt i (by have:=Es.size;omega) (by rw [<-Es.size];exact hi)
  rw [bl,T.place];by_cases hlt:i < es.size
  ·have hl2:i < (a0B m).length:=by rw [<-Es.size];exact hlt
   have:=h (nxL m (i+1)) (λ_ _=>rfl);unfold a5w at this;rw [hw] at this;simp only [Bool.false_eq_true,if_false,Array.getElem?_eq_getElem hlt,Option.map_some] at this;rw [Array.getElem?_eq_getElem hlt,List.getElem?_toArray,List.getElem?_eq_getElem hl2];have e:nxL m (i+1)=(a0B m)[i]+1:=by
    show (a0B m).getD i 0+1=_;simp [List.getD,List.getElem?_eq_getElem hl2]
   rw [e] at this;exact this
  ·have:=h 0 (λ_ z=>absurd z hlt);unfold a5w at this;rw [hw] at this;simp only [Bool.false_eq_true,if_false,Array.getElem?_eq_none (Nat.le_of_not_lt hlt),Option.map_none] at this;rw [Array.getElem?_eq_none (Nat.le_of_not_lt hlt)];exact this
theorem SWk.typeIs {i n:Nat} (y:SWk b m s.heap it a i n ep):s.TypeIs (.ref it) "set_iterator":=by
 obtain ⟨o,sl,ho,hc,_⟩:=y;exact ⟨o,ho,hc⟩
theorem b1x {i:Nat} {e:Int × Value} {Q:Option Value->Shared->Prop} (x:a7D b m s.heap a es ep t) (hb:b=w.params.followText "set-order") (y:SWk b m s.heap it a i es.size ep) (he:(a5w w a ep es)[i]?=some e)
  (hQ:∀ h',SWk b m h' it a (i+1) es.size ep->Heap.SameBut it s.heap h'->Q (some e.2) { s with heap:=h' }):wpAny (model prog w) A (pyNext (.ref it)) Q E s:=by
 have hf:=x.fits;have hT:=y.typeIs;have hlt:i < es.size:=by
  rw [<-a2n (w:=w) (a:=a) (ep:=ep)];exact (Array.getElem?_eq_some_iff.mp he).1
 obtain ⟨od,hod,hx,hdd,T,Es⟩:=id x;obtain ⟨o,sl,ho,hc,hd,hsl⟩:=y;unfold pyNext;refine wpAny_bind (wpAny_attempt (wpAny_callSpecial?_slot (name:=Str.ofString "__next__") hT a1c (wpAny_call_entry a1c hT a2m ?_ (a2H _))));unfold Builtin.«set_iterator.__next__»;refine wpAny_bind (wpAny_pure ?_);refine wpAny_bind (wpAny_fieldsOf ho hd ?_);refine wpAny_bind (wpAny_setEntries_of hod hdd hf ?_);refine wpAny_ite_split (λz=>absurd z (by simp)) λ_=>?_;simp only [Int.toNat_natCast];refine wpAny_bind (a9D x hb hsl (Nat.le_of_lt hlt) λsl' hs'=>?_);rw [he];simp only [Option.map_some];refine wpAny_bind (wpAny_setField ho hd (by simp) ?_);have ho1:(s.heap.update it (Obj.mapFields (·.setIfInBounds 0 (rawInt (sl':Int))))).get? it=some _:=Heap.get?_update_self _ ho (Obj.isFreed_of_fields (Obj.data_mapFields hd _));have hd1:(Obj.mapFields (·.setIfInBounds 0 (rawInt (sl':Int))) o).data=.fields #[.int (sl':Nat) 0,.int i 0,.ref a,.int es.size 0,.int ep 0]:=by
  rw [Obj.data_mapFields hd];simp [rawInt]
 refine wpAny_bind (wpAny_setField (s:={ s with heap:=s.heap.update it (Obj.mapFields (·.setIfInBounds 0 (rawInt (sl':Int)))) }) ho1 hd1 (by simp) ?_);have hd2:(Obj.mapFields (·.setIfInBounds 1 (rawInt ((i:Int)+1))) (Obj.mapFields (·.setIfInBounds 0 (rawInt (sl':Int))) o)).data=.fields #[.int (sl':Nat) 0,.int (i+1:Nat) 0,.ref a,.int es.size 0,.int ep 0]:=by
  rw [Obj.data_mapFields hd1];simp [rawInt]
 have ho2:=Heap.get?_update_self (Obj.mapFields (·.setIfInBounds 1 (rawInt ((i:Int)+1)))) ho1 (Obj.isFreed_of_fields hd2);refine wpAny_pure ⟨_,rfl,wpAny_pure (hQ _ ⟨_,sl',ho2,?_,hd2,λz=>hs' z hlt⟩ ((Heap.SameBut.update ..).trans (Heap.SameBut.update ..)))⟩;rw [Obj.cls_mapFields,Obj.cls_mapFields];exact hc
theorem b4i {Q:Option Value->Shared->Prop} (hh:A.handled=none) (x:a7D b m s.heap a es ep t) (hb:b=w.params.followText "set-order") (y:SWk b m s.heap it a es.size es.size ep)
  (hQ:∀ h',Heap.ExtBut it s.heap h'->Q none { s with heap:=h' }):wpAny (model prog w) A (pyNext (.ref it)) Q E s:=by
 have hf:=x.fits;have hT:=y.typeIs;have he:(a5w w a ep es)[es.size]?=none:=Array.getElem?_eq_none (by rw [a2n];exact Nat.le_refl _);obtain ⟨od,hod,hx,hdd,T,Es⟩:=id x;obtain ⟨o,sl,ho,hc,hd,hsl⟩:=y;unfold pyNext;refine wpAny_bind (wpAny_attempt (wpAny_callSpecial?_slot (name:=Str.ofString "__next__") hT a1c (wpAny_call_entry a1c hT a2m ?_ (a2H _))));unfold Builtin.«set_iterator.__next__»;refine wpAny_bind (wpAny_pure (wpAny_bind (wpAny_fieldsOf ho hd ?_)));refine wpAny_bind (wpAny_setEntries_of hod hdd hf ?_);refine wpAny_ite_split (λz=>absurd z (by simp)) λ_=>?_;simp only [Int.toNat_natCast];refine wpAny_bind (a9D x hb hsl (Nat.le_refl _) λsl' hs'=>?_);rw [he];simp only [Option.map_none];refine wpAny_bind (wpAny_setField ho hd (by simp) (wpAny_bind ?_));simp only [newExc,newTuple];refine wpAny_bind (wpAny_newObj_type ?_ (by size_fits));refine wpAny_bind (m:=firstArgMember _ _) (wpAny_of_eq (a:=Value.none) (by first | rfl | (simp only [firstArgMember];rfl)) (wpAny_newObj_type ?_ (by size_fits)));simp only [raiseNew];refine wpAny_bind (wpAny_handled ?_);rw [show A.in1.handled=none from hh];refine wpAny_bind (wpAny_pure (wpAny_throw ?_));refine wpAny_bind (wpAny_isInstance (T:="StopIteration") (b:=true) ⟨_,Heap.get?_push_size _ rfl,rfl⟩ isSubtype_stop ?_);exact wpAny_pure (hQ _ (((Heap.SameBut.update ..).extBut.push _).push _))
theorem b1y {i n:Nat} {Q:Value->Shared->Prop} (y:SWk b m s.heap it a i n ep) (h:Q (.ref it) s):wpAny (model prog w) A (pyIter (.ref it)) Q E s:=by
 obtain ⟨id,sl,rfl⟩:=a5v;refine wpAny_pyIter_slot y.typeIs sl (wpAny_call_entry sl y.typeIs a4D ?_ (a5x _));show wpAny _ _ (ret (.ref it)) _ _ s;exact wpAny_pure ⟨_,rfl,"set_iterator",_,y.typeIs,a1c.lookup,h⟩
theorem b1z (hh:A.handled=none) (I:Addr) (hne:a≠I) (hb:b=w.params.followText "set-order"):Walks prog w A I [I,a] [I] es.size (λi v=>∃ e,(a5w w a ep es)[i]?=some e/\v=e.2) (λi h=>SWk b m h I a i es.size ep/\a7D b m h a es ep t) where
 sub:=λc hc=>by simp at hc;simp [hc]
 frame:=λ_ _ _ st hk=>⟨st.1.at λo e=>hk I (by simp) o e,st.2.at λo e=>hk a (by simp) o e⟩
 item:=λi s Q E hi st hQ=>by
  have he:(a5w w a ep es)[i]?=some _:=Array.getElem?_eq_getElem (by rw [a2n];exact hi);refine b1x st.2 hb st.1 he λh' hit' hs'=>?_;exact hQ _ h' s.toks ⟨_,he,rfl⟩ ⟨hit',st.2.at λo e=>(hs'.2 a hne).trans e⟩ λb o hb e=>hs'.extBut b o (λh=>hb (by simp [h])) e
 done:=λs Q E st hQ=>b4i hh st.2 hb st.1 λh' he'=>hQ h' s.toks λb o hb e=>he' b o (λh=>hb (by simp [h])) e
 self:=λ_ _ _ _ st hQ=>b1y st.1 hQ
end
theorem bit_or (m x y:Nat):(m ||| 1 <<< x).testBit y=(m.testBit y || decide (x=y)):=by
 rw [Nat.testBit_or,Nat.one_shiftLeft,Nat.testBit_two_pow]
section
variable {prog:Program} {w:World} {A:Around} {E:Value->Shared->Prop} {s:Shared} {b:Bool}
theorem b4j {R:Result->Shared->Prop} {I S:Addr} {fp wr:List Addr} {n:Nat} {P:Nat->Value->Prop} {St:Nat->Heap->Prop} (W:Walks prog w A.in1 I fp wr n P St) (hSf:S∉fp) (val:Nat->Nat)
  (hval:∀ i v,i < n->P i v->val i < 8/\∃ tk,v=.int (val i:Nat) tk):∀ (k i m:Nat) (s:Shared),n - i=k->i<=n->St i s.heap->a7C b m s.heap S ->
   (∀ h' tk m',(∀ c o,c∉S :: wr->s.heap.get? c=some o->h'.get? c=some o)->(∀ x,m'.testBit x=true↔m.testBit x=true\/∃ j,i<=j/\j < n/\val j=x)->a7C b m' h' S->R (.ok (.ret .none)) { s with heap:=h',toks:=tk }) ->
   codeAny (model prog w) A (.builtin "set.update.loop" ⟨[.ref S,.ref I],[]⟩) R s:=by
 have hSw:S∉wr:=λz=>hSf (W.sub _ z);intro k
 induction k with
 | zero =>
  intro i m s hk hi st hS hR;obtain rfl:i=n:=by omega
  refine codeAny_builtin F.entry_set_update_loop ?_;rw [Around.under_plainId F.plain_set_update_loop _];show wpAny _ A.in1 (pyNext (.ref I) >>= λ_=>_) _ _ s;refine wpAny_bind (W.done s _ _ st λh' tk kp=>?_);show wpAny _ A.in1 (ret Value.none) _ _ _;refine wpAny_pure (hR h' tk m (λc o hc e=>kp c o (λz=>hc (List.mem_cons_of_mem _ z)) e) (λx=>⟨.inl,λz=>z.elim id λ⟨j,h1,h2,_⟩=>by omega⟩) (hS.at λo e=>kp S o hSw e))
 | succ k ih =>
  intro i m s hk hi st hS hR;have hlt:i < n:=by omega
  refine codeAny_builtin F.entry_set_update_loop ?_;rw [Around.under_plainId F.plain_set_update_loop _];show wpAny _ A.in1 (pyNext (.ref I) >>= λ_=>_) _ _ s;refine wpAny_bind (W.item i s _ _ hlt st λv h1 tk1 hP st1 kp=>?_);obtain ⟨h8,tk,rfl⟩:=hval i v hlt hP;have hS1:a7C b m h1 S:=hS.at λo e=>kp S o hSw e;show wpAny _ A.in1 (holding [Value.int (val i:Nat) tk] (setAdd S (.int (val i:Nat) tk)) >>= λ_=>_) _ _ _;unfold setAdd;refine wpAny_bind (wpAny_holding (wpAny_holding (wpAny_bind ((intKind prog w).pyHash (k:=((val i:Nat):Int)) (intKind_is _ _ _ _) ?_))));refine add_sm (b:=b) (m:=m) (s:={ s with heap:=h1,toks:=tk1+1 }) hS1 h8 λh2 r sb hS2=>?_;refine wpAny_pure ⟨plainId_quiet F.plain_set_update_loop _,ih (i+1) _ _ (by omega) hlt (W.frame _ _ _ st1 λc hc o e=>?_) hS2 λh' tk' m' kp' hm' hS'=>?_⟩
  ·rw [sb.2 c (λz=>hSf (z▸hc))];exact e
  ·refine hR h' tk' m' (λc o hc e=>kp' c o hc ?_) (λx=>?_) hS'
   ·show h2.get? c=some o;rw [sb.2 c (λz=>hc (by rw [z];exact List.mem_cons_self))];exact kp c o (λz=>hc (List.mem_cons_of_mem _ z)) e
   ·rw [hm' x,bit_or,Bool.or_eq_true,decide_eq_true_eq];constructor
    ·rintro ((z | z) | ⟨j,z1,z2,z3⟩)
     ·exact .inl z
     ·exact .inr ⟨i,Nat.le_refl _,hlt,z⟩
     ·exact .inr ⟨j,by omega,z2,z3⟩
    ·rintro (z | ⟨j,z1,z2,z3⟩)
     ·exact .inl (.inl z)
     ·by_cases e:j=i
      ·subst e;exact .inl (.inr z3)
      ·exact .inr ⟨j,by omega,z2,z3⟩
def b0c (w:World):Obj:={ cls:=.type "set",dict:=none,data:=.set #[] 0 (.fresh 0 0 (!w.params.followText "set-order")) }
theorem new_sm (a:Value) {Q1:Value->Shared->Prop} (h:Q1 (.ref s.heap.objs.size) { s with heap:=s.heap.push (b0c w) }) :
  codeAny (model prog w) A (.call (.builtin "set.__new__") ⟨[.type "set",a],[]⟩) (wants Q1 E) s:=by
 refine codeAny_of_tree (A:=A) ?_;show wpAny _ A.in1 (checkBuiltinCall "set.__new__" ⟨[.type "set",a],[]⟩ >>= λ_=>again (.builtin "set.__new__" ⟨[.type "set",a],[]⟩)) _ _ s;refine wpAny_bind (wpAny_of_eq (PySem.F.newCall_set_1 a) (wpAny_pure ⟨plainId_quiet PySem.F.plain_set_new _,codeAny_builtin PySem.F.entry_set_new ?_⟩));rw [Around.under_plainId PySem.F.plain_set_new _];unfold Builtin.«set.__new__» Builtin.Frozenset.newClass;have sbs:=PySem.sub_set_self;obtain ⟨hp,g,d,tk,os⟩:=s;dsimp only;wp_walk;refine wpAny_askSetting (wpAny_pure ?_);dsimp only;simp only [newObj];exact wpAny_bind (wpAny_alloc (wpAny_pure (wpAny_pure h)))
theorem b4k {h:Heap} {a:Addr} (e:h.get? a=some (b0c w)):a7C (w.params.followText "set-order") 0 h a :=
 ⟨_,#[],0,_,e,⟨rfl,rfl,rfl⟩,rfl,⟨by decide,rfl,rfl,rfl,rfl,.inl ⟨rfl,by decide⟩⟩,⟨rfl,λe he=>by simp at he⟩⟩
theorem a9E {l:Addr} {items:Array Value} {ns:List Nat} {Q:Value->Shared->Prop} (hh:A.handled=none) (hl:s.heap.IsList l items) (hi:IntsAre items.toList (ns.map Int.ofNat)) (h8:∀ x∈ns,x < 8)
  (h:∀ h' tk m,a7C (w.params.followText "set-order") m h' s.heap.objs.size->(∀ x,m.testBit x=true↔x∈ns)->(∀ c o,s.heap.get? c=some o->h'.get? c=some o)->Q (.ref s.heap.objs.size) { s with heap:=h',toks:=tk }) :
  wpAny (model prog w) A (call (.type "set") [.ref l]) Q E s:=by
 obtain ⟨c,tl,hmro⟩:=PySem.F.called_set.mro;have hmade:=PySem.F.called_set.made;have hsub:=PySem.F.called_set.sub;refine wpAny_call (codeAny_of_tree (A:=A) ?_);show wpAny _ _ (callAny (.type "set") _) _ _ _;refine wpAny_pure ⟨Code.quiet_builtin _ (by decide +kernel),codeAny_builtin PySem.F.entry_type_call ?_⟩;rw [Around.under_plain (weight_type_call_type "set" [.ref l] []) rfl];have h1:=PySem.F.called_set.notType;have h2:=PySem.F.called_set.canCreate;have hct:=PySem.F.typeCall_set_1 (.ref l)
 repeat (any_goals (first | assumption | wp_step))
 refine codeAny_mono (new_sm (.ref l) (E:=E) (Q1:=λobj s1=>obj=.ref s.heap.objs.size/\s1={ s with heap:=s.heap.push (b0c w) }) ⟨rfl,rfl⟩) λr s1 hr=>?_;cases r with
 | error e=>exact hr
 | ok fl =>
  cases fl with
  | ret obj =>
   obtain ⟨rfl,rfl⟩:=hr;have hS:(s.heap.push (b0c w)).get? s.heap.objs.size=some (b0c w):=Heap.get?_push_size _ rfl;have hT:Shared.TypeIs { s with heap:=s.heap.push (b0c w) } (.ref s.heap.objs.size) "set":=⟨_,hS,rfl⟩
   have hli:=PySem.F.called_set.init.lookup;have hbi:=PySem.F.called_set.init.bind (.ref s.heap.objs.size)
   repeat (any_goals (first | assumption | wp_step))
   refine codeAny_mono (codeAny_call_builtin (R:=wants (λr s2=>r=.none/\∃ h' tk m,s2={ s with heap:=h',toks:=tk }/\a7C (w.params.followText "set-order") m h' s.heap.objs.size/\(∀ x,m.testBit x=true↔x∈ns)/\(∀ c o,s.heap.get? c=some o->h'.get? c=some o)) E) PySem.F.called_set.init.plain PySem.F.entry_set_init (check_set_init_1 hT ?_)) λr2 s2 hr2=>?_
   ·obtain ⟨ol,hol,hcl,nl,hdl⟩:=hl;obtain ⟨ocls,odict,odata,oslots⟩:=ol;simp only at hcl hdl;subst hcl hdl;have hol1:(s.heap.push (b0c w)).get? l=some { cls:=.type "list",dict:=odict,data:=.seq items nl,slots:=oslots }:=Heap.get?_push_of_some _ hol;have q1:=PySem.F.sub_list_set;have q2:=PySem.F.sub_list_frozenset;have q3:(Value.type "list" == Value.type "dict")=false:=by decide
    have hl1:(s.heap.push (b0c w)).IsList l items:=⟨_,hol1,rfl,nl,rfl⟩
    unfold Builtin.«set.__init__» noKeywords Builtin.Frozenset.updateFrom;generalize hPI:pyIter=PI
    wp_walk
    subst hPI;refine wpAny_pyIter_list hl1 (wpAny_bind (wpAny_runValue ?_));have lS:l < s.heap.objs.size:=Heap.lt_size hol;have ne:l≠(s.heap.push (b0c w)).objs.size:=by rw [Heap.size_push];exact Nat.ne_of_lt (Nat.lt_succ_of_lt lS)
    have nf:s.heap.objs.size∉[(s.heap.push (b0c w)).objs.size,l]:=by
     rw [Heap.size_push];intro z;rcases List.mem_cons.mp z with z | z
     ·exact absurd z (Nat.ne_of_lt (Nat.lt_succ_self _))
     ·exact absurd (List.mem_singleton.mp z) (Nat.ne_of_gt lS)
    have len:items.size=ns.length:=by
     have:=IntsAre.length hi;simpa using this
    refine b4j (b:=w.params.followText "set-order") (Walks.list (by simp [hh]) _ l ne items) nf (λi=>ns.getD i 0) (λi v hlt hv=>?_) (items.size - 0) 0 0 _ rfl (Nat.zero_le _) ⟨⟨_,Heap.get?_push_size _ rfl,rfl,rfl⟩,hl1.push _⟩ (b4k (Heap.get?_push_of_some _ hS)) λh' tk m kp hm hS'=>?_
    ·have hl:i < ns.length:=by rw [<-len];exact hlt
     obtain ⟨tk,e⟩:=IntsAre.int_at hi i v (by rw [Array.getElem?_toList];exact hv);have e1:ns.getD i 0=ns[i]:=by simp [List.getD,List.getElem?_eq_getElem hl]
     have e2:(ns.map Int.ofNat).getD i 0=(ns[i]:Int):=by simp [List.getD,List.getElem?_eq_getElem hl]
     refine ⟨by show ns.getD i 0 < 8;rw [e1];exact h8 _ (List.getElem_mem hl),tk,?_⟩;show v=.int ((ns.getD i 0:Nat):Int) tk;rw [e,e1,e2]
    ·show wpAny _ _ _ _ _ _;refine wpAny_pure (show wpAny _ _ (ret Value.none) _ _ _ from wpAny_pure ⟨rfl,h',tk,m,rfl,hS',λx=>?_,λc o e=>kp c o (λz=>?_) (Heap.get?_push_of_some _ (Heap.get?_push_of_some _ e))⟩)
     ·rw [hm x];constructor
      ·rintro (z | ⟨j,_,z2,rfl⟩)
       ·simp at z
       ·have hl:j < ns.length:=by rw [<-len];exact z2
        have e1:ns.getD j 0=ns[j]:=by simp [List.getD,List.getElem?_eq_getElem hl]
        rw [e1];exact List.getElem_mem hl
      ·intro z;obtain ⟨j,hl,e1⟩:=List.mem_iff_getElem.mp z;exact .inr ⟨j,Nat.zero_le _,by rw [len];exact hl,by simp [List.getD,List.getElem?_eq_getElem hl,e1]⟩
     ·have lc:=Heap.lt_size e;rcases List.mem_cons.mp z with z | z
      ·exact absurd z (Nat.ne_of_lt lc)
      ·have:=List.mem_singleton.mp z;rw [Heap.size_push] at this;exact absurd this (Nat.ne_of_lt (Nat.lt_succ_of_lt lc))
   ·cases r2 with
    | error e=>exact hr2
    | ok fl2 =>
     cases fl2 with
     | ret r =>
      obtain ⟨rfl,h',tk,m,rfl,hS',hm,hk'⟩:=hr2
      repeat (any_goals (first | assumption | wp_step))
      exact h _ _ m hS' hm hk'
     | _=>exact hr2.elim
  | _=>exact hr.elim
end
section
variable {prog:Program} {w:World} {A:Around} {E:Value->Shared->Prop} {s:Shared} {b:Bool} {m ep:Nat} {es:Array (Int × Value)} {t:SetTable} {a it:Addr}
theorem b1A {r:Addr} {Q:Bool->Shared->Prop} (hT:s.TypeIs (.ref r) "set") (h:Q false s):wpAny (model prog w) A (Builtin.List.listLengthHint (.ref r)) Q E s:=by
 unfold Builtin.List.listLengthHint;refine wpAny_bind (wpAny_specialOf hT PySem.F.slot_set_len.lookup ?_);generalize hid:("set.__len__":String)=id0
 wp_delta
 rw [show splitId id0=some ("set","__len__") from by subst hid;decide +kernel];subst hid;refine wpAny_bind (wpAny_isInstance (T:="set") (b:=true) hT (by rw [isSubtype_type];kernel_rfl) ?_);refine wpAny_ite_split (λz=>absurd z (by decide)) (λ_=>wpAny_ite_split (λ_=>?_) (λz=>absurd (by decide +kernel) z));exact wpAny_bind (wpAny_typeOf hT (wpAny_pure h))
theorem b4l (hb:b=w.params.followText "set-order"):KdlSrc prog w "set" a a es.size (λi v=>∃ e,(a5w w a ep es)[i]?=some e/\v=e.2) (λh=>a7D b m h a es ep t) where
 type:=λs ⟨o,ho,hx,_⟩=>⟨o,ho,hx.1⟩
 there:=λh ⟨o,ho,_⟩=>⟨Heap.lt_size ho,Heap.lt_size ho⟩
 keep:=λh h' x k=>x.at λo e=>k a (.inl rfl) o e
 notList:=by decide
 notTuple:=by decide
 hint:=λA E s Q ⟨o,ho,hx,_⟩ h=>b1A ⟨o,ho,hx.1⟩ h
 iter:=λA s hh hok=>by
  have lt:a < s.heap.objs.size:=by obtain ⟨o,ho,_⟩:=hok;exact Heap.lt_size ho
  exact ⟨_,_,λE Q hQ=>b4h hok hQ,b1z (m:=m) hh _ (Nat.ne_of_lt lt) hb,⟨_,0,Heap.get?_push_size _ rfl,rfl,rfl,λ_=>rfl⟩,hok.at λo e=>Heap.get?_push_of_some _ e⟩
theorem a6c {T:String} {r d:Addr} {n:Nat} {P:Nat->Value->Prop} {OK:Heap->Prop} {Q:List Value->Shared->Prop} (K:KdlSrc prog w T r d n P OK) (hh:A.handled=none) (hok:OK s.heap) (hn:n<=sizeLine)
  (h:∀ h' tk (acc:Array Value),(∀ b o,s.heap.get? b=some o->h'.get? b=some o)->ItemsOf P acc n->Q acc.toList { s with heap:=h',toks:=tk }):wpAny (model prog w) A (collect (.ref r)) Q E s:=by
 have lr:=(K.there _ hok).1;have ld:=(K.there _ hok).2;unfold collect;refine wpAny_bind (wpAny_runValue (codeAny_builtin F.entry_proto_collect ?_));rw [Around.under_plainId F.plain_proto_collect _];show wpAny _ A.in1 (newList [] >>= λl=>again (.builtin "list.__iadd__" ⟨[l,.ref r],[]⟩)) _ _ s;refine wpAny_bind (wpAny_newObj_type (wpAny_pure ⟨plainId_quiet F.plain_list_iadd _,codeAny_builtin F.entry_list_iadd ?_⟩));rw [Around.under_plainId F.plain_list_iadd _];show wpAny _ A.in1 (Builtin.List.listExtendWith (.ref s.heap.objs.size) (.ref r) (.ref s.heap.objs.size)) _ _ _;have hS0:(s.heap.push { cls:=.type "list",data:=.seq #[] }).get? s.heap.objs.size=some { cls:=.type "list",data:=.seq #[] }:=Heap.get?_push_size _ rfl;have fin:∀ s':Shared,(∃ acc c,s'.heap.get? s.heap.objs.size=some { cls:=.type "list",dict:=none,data:=.seq acc c,slots:=#[] }/\Q acc.toList s') ->
   wpAny (model prog w) A (match Value.ref s.heap.objs.size with
    | .ref a=>do
     let o <-load a
     match o.data with
     | .seq xs _=>pure xs.toList
     | _=>unsupported "internal:collect"
    | _=>unsupported "internal:collect") Q E s':=λs' ⟨acc,c,hS,q⟩=>by
  show wpAny _ A (load s.heap.objs.size >>= _) _ _ _;exact wpAny_bind (wpAny_load hS (wpAny_pure q))
 refine wpAny_mono (kdl_extend (s:={ s with heap:=s.heap.push { cls:=.type "list",data:=.seq #[] } }) (A:=A)
  (R:=λr s'=>r=.ok (.ret (.ref s.heap.objs.size))/\∃ acc c,s'.heap.get? s.heap.objs.size=some { cls:=.type "list",dict:=none,data:=.seq acc c,slots:=#[] }/\Q acc.toList s')
  K hh (K.keep _ _ hok λc _ o e=>Heap.get?_push_of_some _ e) s.heap.objs.size (Nat.ne_of_gt lr) (Nat.ne_of_gt ld) (.ref s.heap.objs.size) 0 hS0 (λh' tk acc c kp hS hacc=>⟨rfl,acc,c,hS,?_⟩) hn) (λfn s' hz=>?_) (λe s' hz=>?_)
 ·exact h h' tk acc (λb o e=>kp b o (Nat.ne_of_lt (Heap.lt_size e)) (Heap.get?_push_of_some _ e)) hacc
 ·rcases fn with f | c'
  ·obtain ⟨e,z⟩:=hz;cases e;exact fin s' z
  ·refine ⟨hz.1,codeAny_mono hz.2 λr s'' z=>?_⟩;obtain ⟨e,z⟩:=z;subst e;exact fin s'' z
 ·obtain ⟨z,_⟩:=hz;cases z
theorem b1B (Es:SmE m es) {vs:List Value} (h:vs=(a5w w a ep es).toList.map (·.2)):∃ ns:List Int,IntsAre vs ns/\ns.Perm ((a0B m).map Int.ofNat):=by
 refine ⟨(a5w w a ep es).toList.map (·.1),?_,?_⟩
 ·subst h;have all:∀ e∈(a5w w a ep es).toList,∃ tk,e.2=.int e.1 tk:=λe he=>Es.int e (a4C.mem_iff.mp he);generalize (a5w w a ep es).toList=l at all
  induction l with
  | nil=>exact .nil
  | cons e l ih =>
   obtain ⟨tk,et⟩:=all e (.head _);rw [List.map_cons,List.map_cons,et];exact .cons _ _ (ih λe he=>all e (.tail _ he))
 ·rw [<-Es.vals];exact a4C.map _
end
def SetO (w:World) (a:Addr) (m:Nat):HO:=.ext λh=>a7C (w.params.followText "set-order") m h a
def rSetS (w:World):List V->Hp->VK->Prop:=λxs H Q=>∃ (l:Addr) (ns:List Nat),xs=[.ref l]/\H l=some (.lst (ns.map λn=>V.int (Int.ofNat n)))/\(∀ x∈ns,x < 8) /\
 ∀ p H' m,a0p H H'->H p=none->H' p=some (SetO w p m)->(∀ x,m.testBit x=true↔x∈ns)->Q (.ref p) H'
theorem a9F {X:Cx} (hc:X.calm=true):a2q X (.type "set") (rSetS X.w):=by
 intro pins s σ H xs us Q I r h;obtain ⟨l,ns,rfl,e,h8,q⟩:=h;obtain ⟨u,rfl,rx⟩:=a3t r;cases rx;obtain ⟨_,its,n,rv,he⟩:=(show a0R X.prog X.w H s.heap l (.lst (ns.map λn=>V.int (Int.ofNat n))) from I.hok l _ e)
 have hI:IntsAre its (ns.map Int.ofNat):=a1X (by rw [List.map_map];exact rv);have hLn:H s.heap.objs.size=none:=I.hok.fresh (Nat.le_refl _);refine a9E (I.ok.hd hc) ⟨_,he,rfl,n,rfl⟩ hI h8 λh' tk m hS hm kp=>?_;have I2:Inv X pins σ (upd H s.heap.objs.size (SetO X.w s.heap.objs.size m)) { s with heap:=h',toks:=tk }:=I.laid (t':=tk) kp (Nat.le_refl _) ⟨hS,by obtain ⟨o,_,_,_,ho,_⟩:=hS;exact ⟨o,ho⟩,λh1 h2 z k=>z.at k⟩;exact ⟨.ref s.heap.objs.size,_,I2,rfl,q _ _ m (a0f hLn _) hLn a0b hm⟩
def rSortS (w:World):List V->Hp->VK->Prop:=λxs H Q=>∃ (d:Addr) (m:Nat),xs=[.ref d]/\H d=some (SetO w d m)/\∀ p H',a0p H H'->H p=none->H' p=some (.lst ((a0B m).map λn=>V.int (Int.ofNat n)))->Q (.ref p) H'
theorem a9G (m:Nat):((a0B m).map Int.ofNat).Pairwise (·<=·):=by
 rw [List.pairwise_map];unfold a0B;refine List.Pairwise.filter _ ?_;exact (List.pairwise_lt_range (n:=8)).imp λh=>by
  show ((_:Nat):Int)<=((_:Nat):Int)
  omega
theorem b4m {X:Cx} (hc:X.calm=true):a2q X (.builtin "sorted") (rSortS X.w):=by
 intro pins s σ H xs us Q I r h;obtain ⟨d,m,rfl,e,q⟩:=h;obtain ⟨u,rfl,rx⟩:=a3t r;cases rx;obtain ⟨⟨o,es,ep,t,ho,hx,hd,T,Es⟩,_,_⟩:=(show a0R X.prog X.w H s.heap d (SetO X.w d m) from I.hok d _ e)
 have h8:=a2e m;have sz:=Es.size;refine Calls.call_function_entry kind_sorted plain_sorted entry_sorted (args_sorted1 _) ?_;unfold Builtin.«sorted»;refine wpAny_bind (m:=checkCount "sorted" 1 1 _) (wpAny_pure ?_);refine wpAny_bind (a6c (b4l (m:=m) (es:=es) (ep:=ep) (t:=t) rfl) (I.ok.hd hc) ⟨o,ho,hx,hd,T,Es⟩ (by rw [sizeLine_eq];omega) λh1 tk1 acc k1 hacc=>?_);have hvs:acc.toList=(a5w X.w d ep es).toList.map (·.2):=by
  refine List.ext_getElem? λi=>?_;rw [Array.getElem?_toList,List.getElem?_map,Array.getElem?_toList];cases hi:acc[i]? with
  | none =>
   have:acc.size<=i:=Array.getElem?_eq_none_iff.mp hi;rw [Array.getElem?_eq_none (by rw [a2n,<-hacc.1];exact this)];rfl
  | some v =>
   obtain ⟨e,he,rfl⟩:=hacc.2 i v hi;rw [he];rfl
 obtain ⟨ns,hI,pm0⟩:=b1B Es hvs;have len:acc.toList.length=es.size:=by rw [hvs,List.length_map,Array.length_toList,a2n]
 generalize acc.toList=its at hI len ⊢;have li:=a1t hI;refine wpAny_bind (wpAny_newList ?_ (by show its.length<=sizeLine;rw [sizeLine_eq];omega));show wpAny _ _ _ _ _ { s with heap:=h1.push (seqObj "list" its.toArray 0),toks:=tk1 };have hoL:(h1.push (seqObj "list" its.toArray 0)).get? h1.objs.size=some (seqObj "list" its.toArray 0):=Heap.get?_push_size _ rfl;have nL:∀ b o,h1.get? b=some o->b≠h1.objs.size:=λb o e=>Nat.ne_of_lt (Heap.lt_size e);have I1:Inv X pins σ H { s with heap:=h1,toks:=tk1 }:=I.kept k1;have hLn:H h1.objs.size=none:=I1.hok.fresh (Nat.le_refl _);refine wpAny_bind (wpAny_holding (wpAny_call_entry slot_list_sort ⟨_,hoL,rfl⟩ entry_list_sort (list_sort_tree (s:={ s with heap:=h1.push (seqObj "list" its.toArray 0),toks:=tk1 }) hoL hI (by omega) λout ns' ho' pm srt'=>⟨_,rfl,?_⟩) (args_list_sort _)));have es':ns'=(a0B m).map Int.ofNat:=a5d (pm.trans pm0) srt' (a9G m);subst es';have hp:∃ c,(sortedHeap (h1.push (seqObj "list" its.toArray 0)) h1.objs.size its out).get? h1.objs.size=some { cls:=.type "list",data:=.seq out.toList.toArray c }:=by
  unfold sortedHeap;have z1:=get?_update_seq hoL (λ_=>#[]);have z3:=Heap.get?_push_of_some (seqObj "list" #[] 0) (Heap.get?_push_of_some (seqObj "tuple" its.toArray 0) z1);exact ⟨_,get?_update_seq z3 (λ_=>out)⟩
 obtain ⟨c,hp⟩:=hp;have kh:∀ b o,h1.get? b=some o->(sortedHeap (h1.push (seqObj "list" its.toArray 0)) h1.objs.size its out).get? b=some o:=λb o e=>by
  have ne:=nL b o e;unfold sortedHeap;rw [Heap.get?_update_ne _ _ _ _ ne];refine Heap.get?_push_of_some _ (Heap.get?_push_of_some _ ?_);rw [Heap.get?_update_ne _ _ _ _ ne];exact Heap.get?_push_of_some _ e
 have rv:a0z ((a0B m).map λn=>V.int (Int.ofNat n)) out.toList:=by
  have:=a3J ho';rw [List.map_map] at this;exact this
 have I2:Inv X pins σ (upd H h1.objs.size (.lst ((a0B m).map λn=>V.int (Int.ofNat n)))) { s with heap:=sortedHeap (h1.push (seqObj "list" its.toArray 0)) h1.objs.size its out,toks:=tk1 }:=I1.laid (t':=tk1) kh (Nat.le_refl _) ⟨by rw [List.length_map,sizeLine_eq];omega,_,c,rv,hp⟩;exact wpAny_pure ⟨_,rfl,.ref h1.objs.size,_,I2,rfl,q _ _ (a0f hLn _) hLn a0b⟩
end L2
set_option exponentiation.threshold 2000
namespace K56
open PySem L2
def rNeLW:R2:=λx y H Q=>∃ (a b:Addr) (xs ys:List V) (ws us:List (List Int)),x=.ref a/\y=.ref b/\H a=some (.lst xs)/\H b=some (.lst ys)/\Ws H xs ws/\Ws H ys us/\Q (.bl (!decide (ws=us))) H
theorem b4n {X:Cx} (hu:X.A.units+4 < cLine):OpR X (compareOp .NotEq) rNeLW:=by
 intro pins s σ H x y v u Q I rx ry h;obtain ⟨a,b,xs,ys,ws,us,rfl,rfl,e1,e2,p1,p2,q⟩:=h;cases rx;cases ry;exact a8g (A:=X.A) (n:=1) (EqK.tup EqK.int I.hok) I.hok e1 e2 p1 p2 (by omega) _ _ _ _ ⟨.bl _,H,I,rfl,q⟩
theorem b_set:bootBuiltins "set"=some (.type "set"):=by decide +kernel
def tot (ws:List (List Int)):Nat:=(ws.map List.length).sum
def a3z (ws:List (List Int)) (l:Int):List (List Int):=(ws.filter λu=>decide (u.headD 0=l)).map List.tail
def lets (ws:List (List Int)):List Int:=((List.range 8).filter λi=>decide (i∈ws.map λu=>(u.headD 0).toNat)).map Int.ofNat
theorem a9H {m:Nat} {ws:List (List Int)} (h:∀ x,m.testBit x=true↔x∈ws.map λu=>(u.headD 0).toNat):(a0B m).map Int.ofNat=lets ws:=by
 unfold a0B lets;congr 1;apply List.filter_congr;intro x _;by_cases hx:x∈ws.map λu=>(u.headD 0).toNat
 ·rw [(h x).mpr hx,decide_eq_true hx]
 ·rw [decide_eq_false hx];cases hb:m.testBit x with
  | false=>rfl
  | true=>exact absurd ((h x).mp hb) hx
theorem a4E (a b:CT.Code) (l:Int):a3z (a++b) l=a3z a l++a3z b l:=by
 unfold a3z;rw [List.filter_append,List.map_append]
theorem a4F (a:Nat) (l:Int):∀ c:CT.Code,a3z (CT.ahd a c) l=if (a:Int)=l then c else []
 | []=>by
  show []=_;split <;> rfl
 | u :: c=>by
  have ih:=a4F a l c;unfold a3z at ih ⊢;show List.map List.tail (List.filter _ (((a:Int) :: u) :: CT.ahd a c))=_;rw [List.filter_cons];by_cases h:(a:Int)=l
  ·rw [if_pos h] at ih ⊢;rw [if_pos (show decide (((a:Int) :: u).headD 0=l)=true from decide_eq_true h),List.map_cons,ih];rfl
  ·rw [if_neg h] at ih ⊢;rw [if_neg (show ¬ decide (((a:Int) :: u).headD 0=l)=true from λz=>h (of_decide_eq_true z)),ih]
theorem a5y {l:Nat}:∀ (ps:List (Nat × CT.Code)),(∀ q∈ps,l < q.1)->a3z (ps.flatMap λq=>CT.ahd q.1 q.2) (l:Int)=[]
 | [],_=>rfl
 | p :: ps,h=>by
  have h1:=h p (.head _);rw [List.flatMap_cons,a4E,a4F,if_neg (by omega),a5y ps λq hq=>h q (.tail _ hq)];rfl
theorem a5z:∀ (ps:List (Nat × CT.Code)),ps.Pairwise (λa b=>a.1 < b.1)->∀ q∈ps,a3z (ps.flatMap λq=>CT.ahd q.1 q.2) (q.1:Int)=q.2
 | [],_,q,hq=>by cases hq
 | p :: ps,pw,q,hq=>by
  obtain ⟨h1,h2⟩:=List.pairwise_cons.mp pw;rw [List.flatMap_cons,a4E,a4F];rcases List.mem_cons.mp hq with rfl | hq
  ·rw [if_pos rfl,a5y ps h1,List.append_nil]
  ·have:=h1 q hq;rw [if_neg (by omega),a5z ps h2 q hq];rfl
def hds (c:CT.Code):List Int:=c.map λu=>u.headD 0
structure Lst (L:Nat) (c:CT.Code):Prop where
 ne:c≠[]
 wd:∀ u∈c,∃ x v,u=x :: v/\0<=x/\x < (L:Int)
 up:(hds c).Pairwise (·<=·)
 un:(hds c).head?≠(hds c).getLast?
def Lq (L:Nat):Nat->CT.Code->Prop
 | 0,_=>False
 | f+1,c=>c=[[]]\/(Lst L c/\∀ l∈lets c,Lq L f (a3z c l))
theorem a4G {a:Nat} {c:CT.Code} {u:List Int} (h:u∈CT.ahd a c):∃ v∈c,u=(a:Int) :: v:=by
 obtain ⟨v,hv,rfl⟩:=List.mem_map.mp h;exact ⟨v,hv,rfl⟩
theorem ln_q {L:Nat}:∀ f c,CT.Ln L f c->Lq L f c
 | 0,c,h=>h
 | f+1,c,h=>by
  rcases h with h | ⟨ps,rfl,pw,p2,pa⟩
  ·exact Or.inl h
  ·refine Or.inr ⟨⟨?_,λu hu=>?_,?_,?_⟩,λl hl=>?_⟩
   ·obtain ⟨p,ps',rfl⟩:∃ p ps',ps=p :: ps':=by
     cases ps with
     | nil=>simp at p2
     | cons p ps'=>exact ⟨p,ps',rfl⟩
    have:=(pa p (.head _)).2.1;intro z;rw [List.flatMap_cons] at z;have z:=(List.append_eq_nil_iff.mp z).1;exact this (List.map_eq_nil_iff.mp z)
   ·obtain ⟨q,hq,hu⟩:=List.mem_flatMap.mp hu;obtain ⟨v,_,rfl⟩:=a4G hu;have:=(pa q hq).1;exact ⟨_,v,rfl,by omega,by omega⟩
   ·unfold hds;rw [List.pairwise_map,List.pairwise_flatMap];refine ⟨λq _=>?_,pw.imp λ{a b} z u hu v hv=>?_⟩
    ·unfold CT.ahd;rw [List.pairwise_map];exact List.pairwise_of_forall λ_ _=>Int.le_refl _
    ·obtain ⟨_,_,rfl⟩:=a4G hu;obtain ⟨_,_,rfl⟩:=a4G hv;show (a.1:Int)<=b.1;omega
   ·match ps,p2 with
    | p :: r :: ps',_ =>
     obtain ⟨ps'',b,e⟩:∃ ps'' b,r :: ps'=ps''++[b]:=⟨(r :: ps').dropLast,(r :: ps').getLast (by simp),(List.dropLast_concat_getLast (by simp)).symm⟩
     rw [e] at pw pa ⊢;have lt:=(List.pairwise_cons.mp pw).1 b (by simp);have n1:=(pa p (.head _)).2.1;have n2:=(pa b (by simp)).2.1;unfold hds;rw [List.flatMap_cons,List.flatMap_append,List.flatMap_singleton,List.map_append,List.map_append];cases e1:p.2 with
     | nil=>exact absurd e1 n1
     | cons u c1 =>
     obtain ⟨c2,v,e2⟩:∃ c2 v,b.2=c2++[v]:=⟨b.2.dropLast,b.2.getLast n2,(List.dropLast_concat_getLast n2).symm⟩
     have h1:(((CT.ahd p.1 (u :: c1)).map λu=>u.headD 0)++(((ps''.flatMap λq=>CT.ahd q.1 q.2).map λu=>u.headD 0)++(CT.ahd b.1 b.2).map λu=>u.headD 0)).head?=some (p.1:Int):=rfl;rw [h1,e2];have h2:(CT.ahd b.1 (c2++[v])).map (λu=>u.headD 0)=(CT.ahd b.1 c2).map (λu=>u.headD 0)++[(b.1:Int)]:=by
      unfold CT.ahd;rw [List.map_append,List.map_append];rfl
     rw [h2,<-List.append_assoc,<-List.append_assoc,List.getLast?_concat];intro z;have:=Option.some.inj z;omega
   ·unfold lets at hl;obtain ⟨n,hn,rfl⟩:=List.mem_map.mp hl;obtain ⟨u,hu,eu⟩:=List.mem_map.mp (of_decide_eq_true (List.mem_filter.mp hn).2);obtain ⟨q,hq,hu⟩:=List.mem_flatMap.mp hu;obtain ⟨v,_,rfl⟩:=a4G hu;have e:q.1=n:=eu;have g:=a5z ps pw q hq;rw [e] at g;show Lq L f (a3z _ ((n:Nat):Int));rw [g];exact ln_q f _ (pa q hq).2.2
theorem sz_go {c:CT.Code} (h:∀ u∈c,u≠[]) (l:Int):CT.sz (a3z c l)=tot (c.filter λu=>decide (u.headD 0=l)):=by
 unfold CT.sz a3z tot;rw [List.map_map];congr 1;refine List.map_congr_left λu hu=>?_;have:=h u (List.mem_filter.mp hu).1;cases u with
 | nil=>exact absurd rfl this
 | cons x v=>rfl
theorem a9I {a:Int} {n:Nat}:∀ {ls:List Int},ls.Nodup->(ls.map λl=>if a=l then n else 0).sum<=n
 | [],_=>Nat.zero_le _
 | l :: ls,h=>by
  obtain ⟨h1,h2⟩:=List.pairwise_cons.mp h;rw [List.map_cons,List.sum_cons];by_cases e:a=l
  ·rw [if_pos e];have:(ls.map λl=>if a=l then n else 0).sum=0:=by
    have:ls.map (λl=>if a=l then n else 0)=ls.map λ_=>0:=List.map_congr_left λy hy=>if_neg (by rw [e];exact h1 y hy);rw [this];clear h h1 h2 this
    induction ls with
    | nil=>rfl
    | cons _ _ ih=>rw [List.map_cons,List.sum_cons,ih]
   omega
  ·rw [if_neg e];have:=a9I (a:=a) (n:=n) h2;omega
theorem b2y {ls:List Int} (nd:ls.Nodup):∀ c:CT.Code,(ls.map λl=>tot (c.filter λu=>decide (u.headD 0=l))).sum<=tot c
 | []=>by
  have:ls.map (λl=>tot (([]:CT.Code).filter λu=>decide (u.headD 0=l)))=ls.map λ_=>0:=rfl;rw [this];clear nd this
  induction ls with
  | nil=>exact Nat.le_refl _
  | cons _ _ ih=>rw [List.map_cons,List.sum_cons];omega
 | u :: c=>by
  have ih:=b2y nd c;have h1:=a9I (a:=u.headD 0) (n:=u.length) nd;have e:(ls.map λl=>tot ((u :: c).filter λu=>decide (u.headD 0=l))).sum=(ls.map λl=>if u.headD 0=l then u.length else 0).sum+(ls.map λl=>tot (c.filter λu=>decide (u.headD 0=l))).sum:=by
   clear ih h1 nd
   induction ls with
   | nil=>rfl
   | cons l ls ih =>
    rw [List.map_cons,List.map_cons,List.map_cons,List.sum_cons,List.sum_cons,List.sum_cons,ih,List.filter_cons];by_cases h:u.headD 0=l
    ·rw [if_pos h,if_pos (decide_eq_true h)];unfold tot;rw [List.map_cons,List.sum_cons];omega
    ·rw [if_neg h,if_neg (λz=>h (of_decide_eq_true z))];omega
  have e2:tot (u :: c)=u.length+tot c:=by unfold tot;rw [List.map_cons,List.sum_cons]
  omega
theorem a3V:∀ c:CT.Code,CT.sz c=tot c+c.length
 | []=>rfl
 | u :: c=>by
  have:=a3V c;unfold CT.sz tot at *
  rw [List.map_cons,List.sum_cons,List.map_cons,List.sum_cons,this,List.length_cons];omega
end K56
set_option exponentiation.threshold 2000
namespace K56
open PySem L2
def Cw (H:Hp) (a:Addr) (x:V) (c:CT.Code):Prop:=∃ b ys,x=.ref b/\b≠a/\H b=some (.lst ys)/\Ws H ys c
theorem Cw.same {H H':Hp} {a:Addr} {x:V} {c:CT.Code} (s:a0p H H') (h:Cw H a x c):Cw H' a x c:=by
 obtain ⟨b,ys,rfl,n,e,w⟩:=h;exact ⟨b,ys,rfl,n,s _ _ e,Ws.same s w⟩
theorem Cw.upd {H:Hp} {a:Addr} {x:V} {c:CT.Code} {ls ls':List V} (ha:H a=some (.lst ls)) (h:Cw H a x c):Cw (L2.upd H a (.lst ls')) a x c:=by
 obtain ⟨b,ys,rfl,n,e,w⟩:=h;exact ⟨b,ys,rfl,n,by rw [a0i n];exact e,Ws.upd ha w⟩
theorem a2f {α β:Type} {R:α->β->Prop}:∀ {vs:List α} {es:List β},Paired R vs es->vs≠[]->∃ vs0 v es0 e,vs=vs0++[v]/\es=es0++[e]/\Paired R vs0 es0/\R v e
 | [],_,_,h=>absurd rfl h
 | [v],[e],.cons r .nil,_=>⟨[],v,[],e,rfl,rfl,.nil,r⟩
 | v :: v2 :: vs,e :: es,.cons r t,_=>by
  obtain ⟨a,b,c,d,h1,h2,h3,h4⟩:=a2f t (by simp);exact ⟨v :: a,b,e :: c,d,by rw [h1];rfl,by rw [h2];rfl,.cons r h3,h4⟩
theorem srt_up {xs:List Int} (h:xs.Pairwise (·<=·)):srt xs=xs:=(b1X (List.Perm.refl _) h).symm
def Okc (L:Nat) (c:CT.Code):Prop:=(∃ f,Lq L f c)/\c.length<=24
def szs (cs:List CT.Code):Nat:=(cs.map CT.sz).sum
theorem a6d (a b:List CT.Code):szs (a++b)=szs a+szs b:=by unfold szs;rw [List.map_append,List.sum_append]
theorem a9J (c:CT.Code):szs [c]=CT.sz c:=by unfold szs;simp
theorem Lq.ne {L f:Nat} {c:CT.Code} (h:Lq L f c):c≠[]:=by
 cases f with
 | zero=>exact False.elim h
 | succ f =>
  rcases h with rfl | ⟨h,_⟩
  ·simp
  ·exact h.ne
theorem b4o {c:CT.Code} (h:c≠[]):1<=CT.sz c:=by
 rw [a3V];have:=List.length_pos_iff.mpr h;omega
theorem a9K {L:Nat}:∀ {cs:List CT.Code},(∀ c∈cs,Okc L c)->cs.length<=szs cs
 | [],_=>Nat.zero_le _
 | c :: cs,h=>by
  obtain ⟨⟨f,hf⟩,_⟩:=h c (.head _);have h1:=b4o hf.ne;have h2:=a9K λx hx=>h x (.tail _ hx);unfold szs at h2 ⊢;rw [List.map_cons,List.sum_cons,List.length_cons];omega
section
variable {P':Program} {w:World} {K:PySem.W.Frag} {mg:Str->Option Value} {base:Heap} {f:Addr} {fd:FuncData}
abbrev NLe:List Str:=["code","letters","waits","some","heads","letter"]
def b2z:Sp:=λvs H Q _=>∃ (p:Addr) (xs:List V) (c:CT.Code) (L:Nat),vs=[.ref p,.int (L:Int)]/\H p=some (.tup xs)/\Ws H xs c/\Okc L c/\L<=8/\CT.sz c<=900/\∀ H',a0p H H'->Q (.bl true) H'
theorem scLe:a0k NLe ["code","letters"] (a0g a7w):=fsk
theorem b4p:(("word":Str) :: NLe).Nodup:=by decide +kernel
theorem b4q (F:Fun K "_law_lean" "_law_lean" a7w f fd) (ml:mg "len"=none) (mL:mg "list"=none) (mS:mg "sorted"=none) (mT:mg "set"=none):a0M P' w K mg base CX0 1 f fd ["code","letters"] b2z:=by
 refine F.ok (k:=0) scLe (λvs H Q E h=>?_) (λcdv A outer s H vs Q E hr h=>?_)
 ·obtain ⟨p,xs,c,L,rfl,_⟩:=h;rfl
 obtain ⟨p,xs,c,L,rfl,hp,hw,okc,L8,z900,q⟩:=h;refine ⟨_,a0c (psA (i:=2) scLe (a0X (a0a (a1x a2E (by rfl) mL b1T (a0a (pv 0) a0d)) a0d)))
  (a0c (a2g PassesOwn.never (a0r a7O (pln ml (pv 2)) a0e (nomark _))
   (a0c (psA (i:=3) scLe (b1N PySem.F.plainAttrs_list PySem.F.slot_list_pop PySem.F.type_list_pop b1O (pv 2)))
   (a0h (a0W (a0r (b4n (hu4 hr)) (pv 3) (a0X (a0a (a1p a0d) a0d)) (nomark _))
    (a0c (a0W (a0r a7O (pln ml (a1B (M:=NLe) rfl (cso (a0g a7w) NLe) b4p rfl (pv 3) a0O
      (λcl C s0 H0 fp=>⟨a2v (PW.pt (a4L (a0r (a8h (hu4 hr)) (pv 0) (a1p a0d) (nomark _)) (a2P (a1K (a6k b2L a3s a0e (pxA (ixT K) (pv 0) a0e) (pv 2)))))),pv 0⟩))) a0e (nomark _)) (a0h (a0o a3r)) a0u)
    (a0c (a6A (i:=4) (M:=NLe) scLe.nd rfl rfl rfl (cso (a0g a7w) NLe) b4p rfl (pv 3) a0O (λcl C s0 H0 fp=>⟨a0L,pxA (ixT K) (pv 0) a0e⟩))
    (a0c (a0W (PW.pt (a4L (a0r (b3i (hu4 hr)) (pv 4) (a0G b0F (by rfl) mS a5e (a0a (pv 4) a0d)) (nomark _)) (a2P (a0r a1J (pxA a0j (pv 4) a0e) (pxA a0j (pv 4) (a2r a1w a0e)) (nomark _))))) (a0h (a0o a3r)) a0u)
    (a0h (a1n PassesOwn.never rfl (a2S (a0G (b4m rfl) (by rfl) mS a5e (a0a (a1x (a9F rfl) (by rfl) mT b_set (a0a (pv 4) a0d)) a0d))) (pgA (i:=5) scLe)
     (a0h (a1h (a3w PySem.F.plainAttrs_list PySem.F.slot_list_append PySem.F.type_list_append a1f (pv 2) (a0a (a1B (M:=NLe) rfl (cso (a0g a7w) NLe) b4p rfl (pv 3) a0O
      (λcl C s0 H0 fp=>⟨a2v (a0r a1J (pxA (ixT K) (pv 0) a0e) (pv 6) (nomark _)),a4e a5I (pv 0) (a5E a0e) a5D⟩)) a0d)))))))))
    a0u))))
  (a0h (a0o a3r))),?_⟩
 refine ⟨_,rfl,p,_,rfl,.inr (SqT.of hp),λb0 hb0=>?_⟩;have s0:=a0f hb0 (.lst xs);have g0:upd H b0 (.lst xs) b0=some (.lst xs):=a0b;generalize upd H b0 (.lst xs)=H0 at s0 g0 ⊢;refine ⟨(by show 1<=sizeLine;decide),λa ha=>?_⟩;have s1:=a0f ha (.lst [.ref b0]);have g1:upd H0 a (.lst [.ref b0]) a=some (.lst [.ref b0]):=a0b;have na:H a=none:=s0.free ha;have nb:b0≠a:=λz=>by rw [<-z,g0] at ha;cases ha
 generalize upd H0 a (.lst [.ref b0])=H1 at s1 g1 ⊢;have s01:=s0.trans s1;refine ⟨λm σ H'=>a0p H H'/\∃ (ys:List V) (cs:List CT.Code) (x3 x4 x5:Option V),H' a=some (.lst ys)/\Paired (Cw H' a) ys cs/\(∀ c∈cs,Okc L c)/\szs cs<=900/\m=szs cs/\σ=[some (.ref p),some (.int (L:Int)),some (.ref a),x3,x4,x5],
  ⟨_,s01,[.ref b0],[c],_,_,_,g1,.cons ⟨b0,xs,rfl,nb,s1 _ _ g0,Ws.same s01 hw⟩ .nil,λy hy=>by rw [List.mem_singleton.mp hy];exact okc,by rw [a9J];exact z900,rfl,rfl⟩,λm σ H2 hP=>?_⟩
 obtain ⟨s2,ys,cs,x3,x4,x5,g2,pw2,ok2,z2,rfl,rfl⟩:=hP;refine ⟨_,rfl,a,_,rfl,.inl (SqL.of g2),_,_,rfl,rfl,_,rfl,a2b (λz=>?_) (λz=>?_)⟩
 rotate_left
 ·exact q H2 s2
 have nv:ys≠[]:=λy=>by rw [y] at z;exact absurd (of_decide_eq_true z) (by decide)
 refine ⟨_,λσ' H' y=>y,?_⟩;obtain ⟨ys0,y,cs0,c1,rfl,rfl,pw0,hc1⟩:=a2f pw2 nv;rw [a6d,a9J] at z2 ⊢;have okc1:=ok2 c1 (by simp);have ok0:∀ c∈cs0,Okc L c:=λc hc=>ok2 c (List.mem_append_left _ hc);refine ⟨_,rfl,.inl ⟨rfl,_,SqL.of g2⟩,a,ys0++[y],y,rfl,rfl,g2,by simp,?_⟩;rw [List.dropLast_concat];have s3:a0p H (upd H2 a (.lst ys0)):=a0n na s2;have g3:upd H2 a (.lst ys0) a=some (.lst ys0):=a0b;have pw3:Paired (Cw (upd H2 a (.lst ys0)) a) ys0 cs0:=Paired.mapP pw0 λ_ _ r=>r.upd g2;have hc3:=hc1.upd (ls':=ys0) g2;generalize upd H2 a (.lst ys0)=H3 at s3 g3 pw3 hc3 ⊢;obtain ⟨b,ws,rfl,nba,hb,hws⟩:=hc3;have lw:ws.length=c1.length:=hws.length;obtain ⟨⟨fu,lq⟩,l24⟩:=okc1;have sz1:=b4o lq.ne;refine ⟨_,rfl,(by show 0<=sizeLine;decide),λt0 ht0=>?_⟩;have s4:=a0f ht0 (.tup []);have g4:upd H3 t0 (.tup []) t0=some (.tup []):=a0b;generalize upd H3 t0 (.tup [])=H4 at s4 g4 ⊢;refine ⟨(by show 1<=sizeLine;decide),λt1 ht1=>?_⟩;have s5:=a0f ht1 (.lst [.ref t0]);have g5:upd H4 t1 (.lst [.ref t0]) t1=some (.lst [.ref t0]):=a0b;have g54:=s5 _ _ g4;generalize upd H4 t1 (.lst [.ref t0])=H5 at s5 g5 g54 ⊢;have s35:=s4.trans s5;refine ⟨b,t1,ws,[.ref t0],c1,[[]],rfl,rfl,s35 _ _ hb,g5,Ws.same s35 hws,.cons (Wd.of (w:=[]) g54) .nil,_,rfl,a2b (λz1=>?_) (λz1=>?_)⟩
 rotate_left
 ·exact ⟨szs cs0,by omega,s3.trans s35,ys0,cs0,_,_,_,s35 _ _ g3,Paired.mapP pw3 λ_ _ r=>r.same s35,ok0,by omega,rfl,rfl⟩
 have ne1:c1≠[[]]:=by simpa using z1
 obtain ⟨fu,rfl⟩:∃ g,fu=g+1:=by
  cases fu with
  | zero=>exact False.elim lq
  | succ g=>exact ⟨g,rfl⟩
 obtain ⟨ls,lgo⟩:=lq.resolve_left ne1;have hb5:=s35 _ _ hb;have hw5:=Ws.same s35 hws;have g35:=s35 _ _ g3;have pw5:=Paired.mapP pw3 λ_ _ r=>r.same s35;have s05:=s3.trans s35;clear hb hws g3 pw3 s3 s35 s4 s5 g4 g5 g54 pw0 hc1 pw2 g2;refine ⟨_,rfl,b,_,rfl,SqL.of hb5,λd hd=>?_⟩;refine ⟨λkk H'=>a0p H5 H'/\H' d=some (.lst []),⟨a0f hd _,a0b⟩,λkk H' _ hP=>SqL.of (hP.1 _ _ hb5),λkk y H' hy hP=>?_,λH6 hP=>?_⟩
 ·obtain ⟨s6,g6⟩:=hP;obtain ⟨o,ho,ru⟩:=Paired.right_of hw5 kk y hy;obtain ⟨ua,rfl,hua⟩:=Wd.ti ru;obtain ⟨x,v,rfl,x0,x1⟩:=ls.wd o (List.mem_of_getElem? ho);unfold a5a;refine ⟨_,rfl,(by show 0<=sizeLine;decide),λt2 ht2=>?_⟩;have s7:=a0f ht2 (.tup []);have g7:upd H' t2 (.tup []) t2=some (.tup []):=a0b;generalize upd H' t2 (.tup [])=H7 at s7 g7 ⊢;have hua7:TW H7 ua (x :: v):=s7 _ _ (s6 _ _ hua);refine ⟨x :: v,[],Wd.of hua7,Wd.of (w:=[]) g7,_,rfl,?_⟩;rw [decide_eq_false (by simp)];refine a3G ?_;refine ⟨_,rfl,ua,_,_,_,rfl,rfl,SqT.of hua7,(show atI ((x :: v).map V.int) 0=some (V.int x) from a1P (i:=0) rfl),_,_,rfl,rfl,_,rfl,?_⟩;rw [decide_eq_true x0];refine a6r ⟨_,rfl,_,_,rfl,rfl,_,rfl,?_⟩;rw [decide_eq_true x1];exact ⟨s6.trans s7,s7 _ _ g6⟩
 obtain ⟨s6,g6⟩:=hP;refine ⟨d,_,rfl,.inl (SqL.of g6),_,_,rfl,rfl,_,rfl,a3G ?_⟩;have hb6:=s6 _ _ hb5;refine ⟨_,rfl,b,_,rfl,SqL.of hb6,λe he=>?_⟩;refine ⟨λkk H'=>a0p H6 H'/\H' e=some (.lst ((hds (c1.take kk)).map V.int)),⟨a0f he _,a0b⟩,λkk H' _ hP=>SqL.of (hP.1 _ _ hb6),λkk y H' hy hP=>?_,λH7 hP=>?_⟩
 ·obtain ⟨s7,g7⟩:=hP;obtain ⟨o,ho,ru⟩:=Paired.right_of hw5 kk y hy;obtain ⟨ua,rfl,hua⟩:=Wd.ti ru;obtain ⟨x,v,rfl,x0,x1⟩:=ls.wd o (List.mem_of_getElem? ho);refine a0E ⟨_,rfl,ua,_,_,_,rfl,rfl,SqT.of (s7 _ _ (s6 _ _ hua)),(show atI ((x :: v).map V.int) 0=some (V.int x) from a1P (i:=0) rfl),_,g7,a0m (by unfold hds;rw [List.length_map,List.length_map,List.length_take];omega),a0n he s7,?_⟩;rw [a0b,List.take_add_one,ho];unfold hds;rw [List.map_append,List.map_append];rfl
 obtain ⟨s7,g7⟩:=hP;rw [lw,List.take_length] at g7;have lh:(hds c1).length=c1.length:=by unfold hds;rw [List.length_map]
 refine ⟨_,rfl,_,rfl,e,hds c1,rfl,.inl g7,by omega,λsp H8 s8 _ g8=>?_⟩;refine ⟨e,sp,hds c1,srt (hds c1),rfl,rfl,s8 _ _ g7,g8,_,rfl,?_⟩;rw [srt_up ls.up,decide_eq_true rfl];refine a3G ?_;obtain ⟨y0,e0⟩:∃ y0,(hds c1).head?=some y0:=by
  cases z:hds c1 with
  | nil=>exact absurd (List.map_eq_nil_iff.mp z) ls.ne
  | cons y0 _=>exact ⟨y0,rfl⟩
 obtain ⟨y1,e1⟩:∃ y1,(hds c1).getLast?=some y1:=by
  cases z:(hds c1).getLast? with
  | none=>exact absurd (List.map_eq_nil_iff.mp (List.getLast?_eq_none_iff.mp z)) ls.ne
  | some y1=>exact ⟨y1,rfl⟩
 have ny:y0≠y1:=λz=>ls.un (by rw [e0,e1,z]);have a0:atI ((hds c1).map V.int) 0=some (.int y0):=a1P (i:=0) (by rw [List.getElem?_map,<-List.head?_eq_getElem?,e0];rfl);have a1:atI ((hds c1).map V.int) (-1)=some (.int y1):=by
  obtain ⟨zs,ez⟩:=List.getLast?_eq_some_iff.mp e1;rw [ez,List.map_append];exact a1V _ _
 have g78:=s8 _ _ g7;refine ⟨_,rfl,e,_,_,_,rfl,rfl,SqL.of g78,a0,_,rfl,_,rfl,e,_,_,_,rfl,rfl,SqL.of g78,a1,rfl,_,rfl,?_⟩;rw [decide_eq_false (λz=>ny (V.int.inj z))];refine a3G ?_;have x8:∀ u∈c1,∃ (n:Nat) (v:List Int),u=(n:Int) :: v/\n < 8:=λu hu=>by
  obtain ⟨x,v,rfl,x0,x1⟩:=ls.wd u hu;exact ⟨x.toNat,v,by rw [Int.toNat_of_nonneg x0],by omega⟩
 have en:(hds c1).map V.int=(c1.map λu=>(u.headD 0).toNat).map λn=>V.int (Int.ofNat n):=by
  unfold hds;rw [List.map_map,List.map_map];refine List.map_congr_left λu hu=>?_;obtain ⟨n,v,rfl,_⟩:=x8 u hu;rfl
 refine ⟨_,rfl,e,c1.map (λu=>(u.headD 0).toNat),rfl,by rw [<-en];exact g78,λx hx=>?_,λst H9 m s9 hn9 g9 hm=>?_⟩
 ·obtain ⟨u,hu,rfl⟩:=List.mem_map.mp hx;obtain ⟨n,v,rfl,n8⟩:=x8 u hu;exact n8
 refine ⟨st,m,rfl,g9,λlp H10 s10 hn10 g10=>?_⟩;have el:=a9H hm;have ndl:(lets c1).Nodup:=by
  rw [<-el];unfold List.Nodup a0B;rw [List.pairwise_map];exact List.Pairwise.imp (λh z=>h (Int.ofNat.inj z)) (List.Pairwise.filter _ List.nodup_range)
 have s510:a0p H5 H10:=(((s6.trans s7).trans s8).trans s9).trans s10;have s010:=s05.trans s510;have g10':H10 lp=some (.lst ((lets c1).map V.int)):=by rw [g10,<-el,List.map_map];rfl
 have nla:lp≠a:=λz=>by
  have:=(((s6.trans s7).trans s8).trans s9) _ _ g35;rw [<-z,hn10] at this;cases this
 have hb10:=s510 _ _ hb5;have hw10:=Ws.same s510 hw5;have ga10:=s510 _ _ g35;have pw10:=Paired.mapP pw5 λ_ _ r=>r.same s510;refine ⟨lp,rfl,⟨_,SqL.of g10'⟩,?_⟩;refine a3Z (K:=K) (xs:=(lets c1).map V.int) (λi σ H'=>a3y a H10 H'/\a0p H H'/\∃ (ys':List V) (x5:Option V),H' a=some (.lst (ys0++ys'))/\Paired (Cw H' a) (ys0++ys') (cs0++((lets c1).take i).map (a3z c1))/\σ=[some (.ref p),some (.int (L:Int)),some (.ref a),some (.ref b),some (.ref e),x5])
  ⟨λ_ _ _ h=>h,s010,[],_,by rw [List.append_nil];exact ga10,by rw [List.append_nil,List.take_zero,List.map_nil,List.append_nil];exact pw10,rfl⟩ (λi σ H' _ hP=>SqL.of (hP.1 _ _ nla g10')) (λi x σ H11 hx hP=>?_) (λσ H11 hP=>?_)
 ·obtain ⟨k11,s11,ys',x5',g11,pw11,rfl⟩:=hP;rw [List.getElem?_map] at hx;obtain ⟨l,hl,rfl⟩:=Option.map_eq_some_iff.mp hx;have hb11:=k11 _ _ nba hb10;have hw11:Ws H11 ws c1:=Paired.mapP hw10 λ_ _ r=>by
   obtain ⟨ua,rfl,hu⟩:=Wd.ti r;exact Wd.of (k11 _ _ (a0q hu ga10 (by intro z;cases z)) hu)
  refine ⟨_,rfl,.inl ⟨rfl,_,SqL.of g11⟩,_,rfl,b,_,rfl,SqL.of hb11,λd2 hd2=>?_⟩;refine ⟨λkk H'=>a0p H11 H'/\∃ zs,H' d2=some (.lst zs)/\Ws H' zs (a3z (c1.take kk) l),⟨a0f hd2 _,[],a0b,.nil⟩,λkk H' _ hP=>SqL.of (hP.1 _ _ hb11),λkk y H' hy hP=>?_,λH12 hP=>?_⟩
  ·obtain ⟨s12,zs,g12,w12⟩:=hP;obtain ⟨o,ho2,ru⟩:=Paired.right_of hw11 kk y hy;obtain ⟨ua,rfl,hua⟩:=Wd.ti ru;have lz:zs.length<=24:=by
    rw [w12.length];unfold a3z;rw [List.length_map];exact Nat.le_trans (List.length_filter_le _ _) (by rw [List.length_take];omega)
   obtain ⟨x,o,rfl,x0,x1⟩:=ls.wd o (List.mem_of_getElem? ho2);have eg:a3z (c1.take (kk+1)) l=a3z (c1.take kk) l++(if x=l then [o] else []):=by
    rw [List.take_add_one,ho2,a4E];congr 1;unfold a3z;show List.map List.tail (List.filter _ [x :: o])=_;rw [List.filter_cons];by_cases h:x=l
    ·rw [if_pos h,if_pos (show decide ((x :: o).headD 0=l)=true from decide_eq_true h)];rfl
    ·rw [if_neg h,if_neg (show ¬ decide ((x :: o).headD 0=l)=true from λz=>h (of_decide_eq_true z))];rfl
   unfold a5a;refine ⟨_,rfl,ua,_,_,_,rfl,rfl,SqT.of (s12 _ _ hua),(show atI ((x :: o).map V.int) 0=some (V.int x) from a1P (i:=0) rfl),_,rfl,rfl,_,rfl,a2b (λc=>?_) (λc=>?_)⟩
   ·have ex:x=l:=V.int.inj (of_decide_eq_true c);refine ⟨_,rfl,_,rfl,ua,_,rfl,s12 _ _ hua,λp5 H13 s13 hp5=>?_⟩;have hp6:TW H13 p5 o:=hp5.trans (by rw [show (some (1:Int))=some ((1:Nat):Int) from rfl,a6u];rfl);refine ⟨zs,s13 _ _ g12,a0m (by omega),a0n hd2 (s12.trans s13),_,a0b,?_⟩;rw [eg,if_pos ex];exact Paired.appendP (Ws.upd (s13 _ _ g12) (Ws.same s13 w12)) (.cons (Wd.upd (s13 _ _ g12) (Wd.of hp6)) .nil)
   ·have ex:¬ x=l:=λz=>c (decide_eq_true (by rw [z]));refine ⟨s12,zs,g12,?_⟩;rw [eg,if_neg ex,List.append_nil];exact w12
  obtain ⟨s12,zs,g12,w12⟩:=hP;rw [lw,List.take_length] at w12;have nd2:d2≠a:=λz=>by rw [z,g11] at hd2;cases hd2
  have g112:=s12 _ _ g11;have lys:(ys0++ys').length<=2000:=by
   rw [pw11.length,List.length_append,List.length_map,List.length_take];have h1:=a9K ok0;have h2:(lets c1).length<=8:=by rw [<-el,List.length_map];exact a2e m
   omega
  refine ⟨a,_,_,rfl,rfl,g112,Nat.lt_of_le_of_lt lys (by decide),λx o n e=>?_,a0n na (s11.trans s12),ys'++[.ref d2],_,by rw [a0b,List.append_assoc],?_,rfl⟩
  ·rw [a0i n];exact s12 _ _ (k11 _ _ n e)
  ·rw [List.take_add_one,hl,List.map_append,<-List.append_assoc,<-List.append_assoc];refine L2.Paired.appendP (Paired.mapP pw11 λ_ _ r=>(r.same s12).upd g112) (.cons ?_ .nil);exact Cw.upd g112 ⟨d2,zs,rfl,nd2,g12,w12⟩
 ·obtain ⟨k11,s11,ys',x5',g11,pw11,rfl⟩:=hP;rw [List.length_map,List.take_length] at pw11;have z3:szs ((lets c1).map (a3z c1))<=tot c1:=by
   unfold szs;rw [List.map_map];refine Nat.le_trans (Nat.le_of_eq ?_) (b2y ndl c1);congr 1;refine List.map_congr_left λl _=>?_;exact sz_go (λu hu=>by obtain ⟨x,v,rfl,_⟩:=ls.wd u hu;simp) l
  have z4:=a3V c1;have z5:=List.length_pos_iff.mpr ls.ne;refine ⟨szs (cs0++(lets c1).map (a3z c1)),by rw [a6d];omega,s11,_,_,_,_,_,g11,pw11,λc hc=>?_,by rw [a6d];omega,rfl,rfl⟩;rcases List.mem_append.mp hc with y | y
  ·exact ok0 c y
  ·obtain ⟨l,hl,rfl⟩:=List.mem_map.mp y;refine ⟨⟨fu,lgo l hl⟩,?_⟩;unfold a3z;rw [List.length_map];exact Nat.le_trans (List.length_filter_le _ _) l24
end
end K56
namespace L2
open PySem PySem.Spec PyProof.Rows PySem.W
def ev {α:Type} (lt:Nat->Nat->Bool):KasT α->α
 | .ret a=>a
 | .ask i j k=>ev lt (k (lt i j))
variable {n:Nat} {lt:Nat->Nat->Bool} {p:Array Nat} {m:Nat}
variable {prog:Program} {w:World} {A:Around} {E:Value->Shared->Prop} {s:Shared}
def b2A (h:Heap) (v:Value) (ns:List Int):Prop:=∃ (b:Addr) (items:Array Value),v=.ref b/\IsTup h b items/\IntsAre items.toList ns
def nokey:Keyed:=(Value.none,Value.none)
def el (xs:Array Keyed) (i:Nat):Keyed:=xs.getD i nokey
structure SO (less:Keyed->Keyed->Bool) (S:Keyed->Prop):Prop where
 asym:∀ x y,less x y=true->less y x=false
 tr:∀ x y z,less y x=false->less z y=false->less z x=false
variable {κ:SortKind} {less:Keyed->Keyed->Bool} {S:Keyed->Prop}
def Bey (less:Keyed->Keyed->Bool) (left:Bool) (key:Keyed) (arr:Array Keyed) (base i:Nat):Bool:=if left then less (el arr (base+i)) key else !less key (el arr (base+i))
abbrev Lt (less:Keyed->Keyed->Bool) (x y:Keyed):Prop:=less y x=false
structure MC (less:Keyed->Keyed->Bool) (S:Keyed->Prop) (a b:Array Keyed):Prop where
 so:SO less S
 sa:∀ i j,i < j->j < a.size->Lt less (el a i) (el a j)
 sb:∀ i j,i < j->j < b.size->Lt less (el b i) (el b j)
 xa:∀ i,i < a.size->S (el a i)
 xb:∀ i,i < b.size->S (el b i)
 fst:less (el b 0) (el a 0)=true
 lst:∀ j,j < b.size->less (el b j) (el a (a.size - 1))=true
 na:1<=a.size
 nb:1<=b.size
variable {less:Keyed->Keyed->Bool} {S:Keyed->Prop} {a b out:Array Keyed} {ia ib:Nat}
structure Keep1 (st st':SortSt):Prop where
 k:kindOf st'=kindOf st
 a:arrOf st'=arrOf st
 p:pendingOf st'=pendingOf st
 f:failedOf st'=failedOf st
section
variable {prog:Program} {w:World} {A:Around} {E:Value->Shared->Prop} {s:Shared} {κ:SortKind}
end
theorem a9L {ns:List Int} {us:List Value} (r:a0z (ns.map V.int) us):IntsAre us ns:=by
 induction ns generalizing us with
 | nil=>cases r;exact .nil
 | cons n ns ih =>
  cases r with
  | cons r rr =>
   obtain ⟨t,rfl⟩:=r;exact .cons _ _ (ih rr)
theorem a7b:∀ {l:List Value} {ns ms:List Int},IntsAre l ns->IntsAre l ms->ns=ms
 | _,_,_,.nil,.nil=>rfl
 | _,_,_,.cons _ _ h,.cons _ _ h2=>by rw [a7b h h2]
theorem a4H:∀ {l:List Value} {ns:List Int} {j:Nat} {n:Int},IntsAre l ns->ns[j]?=some n->∃ t,l[j]?=some (.int n t)
 | _,_,j,n,.nil,h=>by simp at h
 | _,_,0,n,.cons m t _,h=>by simp at h;subst h;exact ⟨t,rfl⟩
 | _,_,j+1,n,.cons m t r,h=>by
  obtain ⟨t',e⟩:=a4H r (by simpa using h);exact ⟨t',by simpa using e⟩
theorem b2A.inj {h:Heap} {v:Value} {ns ms:List Int} (t1:b2A h v ns) (t2:b2A h v ms):ns=ms:=by
 obtain ⟨b,items,rfl,⟨o,ho,hc,n,hd⟩,hi⟩:=t1;obtain ⟨b2,items2,e,⟨o2,ho2,hc2,n2,hd2⟩,hi2⟩:=t2;cases e;rw [ho] at ho2;cases ho2;rw [hd] at hd2;cases hd2;exact a7b hi hi2
theorem a9M {x y:Value} {ns ms:List Int} (hx:b2A s.heap x ns) (hy:b2A s.heap y ms) (hu:A.units+1 < cLine):SeqAt.EqAt A s x y (decide (ns=ms)):=by
 have hx0:=hx;have hy0:=hy;obtain ⟨a,items,rfl,ht,hi⟩:=hx;obtain ⟨b,items2,rfl,ht2,hj⟩:=hy;by_cases z:a=b
 ·subst z;rw [decide_eq_true (hx0.inj hy0)];exact SeqAt.EqAt.same _
 ·have l1:=hi.length;have l2:=hj.length;rw [Array.length_toList] at l1 l2;refine SeqAt.EqAt.of_refs z ?_;have q:=SeqAt.RcAt.tuples (A:=A) (s:=s) (e:=λj=>match ns[j]?,ms[j]? with | some d,some e=>decide (d=e) | _,_=>true) ht ht2 (by omega) (λj h1 h2=>by
   obtain ⟨t1,e1⟩:=a4H hi (List.getElem?_eq_getElem (show j < ns.length by omega));obtain ⟨t2,e2⟩:=a4H hj (List.getElem?_eq_getElem (show j < ms.length by omega));have f1:items[j]=.int ns[j] t1:=by
    have:=(List.getElem?_eq_some_iff.mp e1).2;simpa using this
   have f2:items2[j]=.int ms[j] t2:=by
    have:=(List.getElem?_eq_some_iff.mp e2).2;simpa using this
   rw [f1,f2];have g:=SeqAt.EqAt.int_int (A:=A.in1) (s:=s) ns[j] t1 ms[j] t2;rw [Bool.beq_eq_decide_eq] at g;simp only [List.getElem?_eq_getElem (show j < ns.length by omega),List.getElem?_eq_getElem (show j < ms.length by omega)];exact g)
  have e:((List.range (min items.size items2.size)).all (λj=>match ns[j]?,ms[j]? with | some d,some e=>decide (d=e) | _,_=>true) && items.size == items2.size)=decide (ns=ms):=by
   rw [l1,l2];exact b1R ns ms _ λj x y h1 h2=>by simp only [h1,h2]
  rw [e] at q;exact q
end L2
namespace HT
open PySem PySem.Spec PyProof.Rows
section
open PySem.SeqAt
open PySem.AutoSeq1 (wpAny_loadPart')
open PySem.MeetsSeq PySem.MeetsSeq2 PySem.MeetsSeq3
theorem a9N (l b:Addr) (items items2:Array Value) (n n2:Nat) (dd dd2:Option Addr) (sl sl2:Array (Option Value)) (j0:Nat) (z1:j0 < items.size) (z2:j0 < items2.size):∀ (k i:Nat),i+k=j0 ->
  Meets (Builtin.«list.__eq__.loop» ⟨[.ref l,.ref b,rawInt (i:Int),rawInt 0],[]⟩)
   (λA R s=>s.heap.get? l=some { cls:=.type "list",dict:=dd,data:=.seq items n,slots:=sl }/\s.heap.get? b=some { cls:=.type "list",dict:=dd2,data:=.seq items2 n2,slots:=sl2 } /\
    (∀ (j:Nat) (h:j < j0),EqAt A.in1 s (items[j]'(Nat.lt_trans h z1)) (items2[j]'(Nat.lt_trans h z2)) true)/\EqAt A.in1 s items[j0] items2[j0] false /\
    (∀ (prog:Program) (w:World) (Q:Value->Shared->Prop) (E:Value->Shared->Prop),Q (.bool true) s->wpAny (model prog w) A.in1 (richCompare .Lt items[j0] items2[j0]) Q E s)/\R (.ok (.ret (.bool true))) s)
 | 0,i,e=>by
  obtain rfl:i=j0:=e;refine .of_wp λprog w A R s h=>?_;obtain ⟨hp,g,d,tk,os⟩:=s;obtain ⟨hl,hb,h1,h2,h3,h⟩:=h
  wp_walk using wpAny_loadPart' hl,wpAny_loadPart' hb
  rw [Int.toNat_natCast,Array.getElem?_eq_getElem z1,Array.getElem?_eq_getElem z2];refine wpAny_bind (h2 prog w _ _ ?_);have hri:=h3 prog w
  wp_walk using wpAny_loadPart' hl,wpAny_loadPart' hb
  rw [Array.getElem?_eq_getElem z1,Array.getElem?_eq_getElem z2]
  wp_walk using hri
  exact ⟨_,rfl,h⟩
 | k+1,i,e=>by
  intro prog w A R s h;obtain ⟨hp,g,d,tk,os⟩:=s;obtain ⟨hl,hb,h1,h2,h3,h⟩:=h
  wp_walk using wpAny_loadPart' hl,wpAny_loadPart' hb
  rw [Int.toNat_natCast,Array.getElem?_eq_getElem (show i < items.size by omega),Array.getElem?_eq_getElem (show i < items2.size by omega)];refine wpAny_bind (h1 i (by omega) prog w _ _ ?_);rw [if_pos rfl];exact (meets_again (S:=_) (by rw [show ((i:Int)+1)=((i+1:Nat):Int) from rfl]) plain_eq_loop entry_eq_loop (a9N l b items items2 n n2 dd dd2 sl sl2 j0 z1 z2 k (i+1) (by omega))) prog w A R _ ⟨hl,hb,h1,h2,h3,h⟩
theorem b4r (l b:Addr) (items items2:Array Value) (n n2:Nat) (dd dd2:Option Addr) (sl sl2:Array (Option Value)) (j0:Nat) (z1:j0 < items.size) (z2:j0 < items2.size) :
  Meets (Builtin.«list.__lt__» ⟨[.ref l,.ref b],[]⟩)
   (λA R s=>s.heap.get? l=some { cls:=.type "list",dict:=dd,data:=.seq items n,slots:=sl }/\s.heap.get? b=some { cls:=.type "list",dict:=dd2,data:=.seq items2 n2,slots:=sl2 } /\
    (∀ (j:Nat) (h:j < j0),EqAt A.in1 s (items[j]'(Nat.lt_trans h z1)) (items2[j]'(Nat.lt_trans h z2)) true)/\EqAt A.in1 s items[j0] items2[j0] false /\
    (∀ (prog:Program) (w:World) (Q:Value->Shared->Prop) (E:Value->Shared->Prop),Q (.bool true) s->wpAny (model prog w) A.in1 (richCompare .Lt items[j0] items2[j0]) Q E s)/\R (.ok (.ret (.bool true))) s):=by
 intro prog w A R s h;obtain ⟨hp,g,d,tk,os⟩:=s;obtain ⟨hl,hb,h1,h2,h3,h⟩:=h
 wp_walk using wpAny_loadPart' hl,wpAny_loadPart' hb
 have f2:=AutoSeq1.sub_list_list;show wpAny _ _ (isSubtype (Value.type "list") (Value.type "list")) _ _ _;rw [f2];refine wpAny_pure ?_;exact (meets_again (S:=_) rfl plain_eq_loop entry_eq_loop (a9N l b items items2 n n2 dd dd2 sl sl2 j0 z1 z2 j0 0 (by omega))) prog w A R _ ⟨hl,hb,h1,h2,h3,h⟩
end
end HT
namespace L2
open PySem PySem.Spec PyProof.Rows
theorem RPr.same {H H':Hp} {x:V} {q:Int × Int} (sm:a0p H H') (h:RPr H x q):RPr H' x q:=by
 obtain ⟨t,rfl,e⟩:=h;exact ⟨t,rfl,sm _ _ e⟩
theorem RPr.upd {H:Hp} {d:Addr} {ls ls':List V} {x:V} {q:Int × Int} (hd:H d=some (.lst ls)) (h:RPr H x q):RPr (L2.upd H d (.lst ls')) x q:=by
 obtain ⟨t,rfl,e⟩:=h;exact ⟨t,rfl,by rw [a0i (a0q e hd (by intro z;cases z))];exact e⟩
theorem a9O {X:Cx} {pins:List (Addr × Obj)} {σ:St} {H:Hp} {s:Shared} (I:Inv X pins σ H s) {x:V} {v:Value} {q:Int × Int} (r:a0V x v) (h:RPr H x q):b2A s.heap v [q.1,q.2]:=by
 obtain ⟨t,rfl,ht⟩:=h;cases r;obtain ⟨_,its2,rv2,it⟩:=a8p ((show a0R X.prog X.w H s.heap t (.tup ([q.1,q.2].map V.int)) from I.hok _ _ ht));exact ⟨t,_,rfl,it,by simpa using a9L rv2⟩
def rLtLP:R2:=λx y H Q=>∃ (a b:Addr) (xs ys:List V) (pp s1 t1:List (Int × Int)) (x1 y1:Int × Int),x=.ref a/\y=.ref b/\H a=some (.lst xs)/\H b=some (.lst ys)/\Paired (RPr H) xs (pp++x1 :: s1)/\Paired (RPr H) ys (pp++y1 :: t1)/\(x1.1 < y1.1\/(x1.1=y1.1/\x1.2 < y1.2))/\Q (.bl true) H
theorem b4s {X:Cx} (hu:X.A.units+4 < cLine):OpR X (compareOp .Lt) rLtLP:=by
 intro pins s σ H x y v u Q I rx ry h;obtain ⟨a,b,xs,ys,pp,s1,t1,x1,y1,rfl,rfl,ha,hb,p1,p2,lt,q⟩:=h;cases rx;cases ry;obtain ⟨_,its,k1,v1,e1⟩:=I.hok a _ ha;obtain ⟨_,its2,k2,v2,e2⟩:=I.hok b _ hb;have l1:its.length=pp.length+1+s1.length:=by rw [<-v1.length,p1.length,List.length_append,List.length_cons];omega
 have l2:its2.length=pp.length+1+t1.length:=by rw [<-v2.length,p2.length,List.length_append,List.length_cons];omega
 have z1:pp.length < its.toArray.size:=by rw [List.size_toArray];omega
 have z2:pp.length < its2.toArray.size:=by rw [List.size_toArray];omega
 have tn:∀ (j:Nat) (h1:j < its.toArray.size) (q0:Int × Int),(pp++x1 :: s1)[j]?=some q0->b2A s.heap its.toArray[j] [q0.1,q0.2]:=λj h1 q0 hq=>by
  obtain ⟨x,hx,rx⟩:=Paired.left_of p1 j q0 hq;obtain ⟨u0,hu0,ru⟩:=v1.get hx;have e:its.toArray[j]=u0:=by
   have:=List.getElem?_eq_some_iff.mp hu0;simpa using this.2
  rw [e];exact a9O I ru rx
 have tn2:∀ (j:Nat) (h1:j < its2.toArray.size) (q0:Int × Int),(pp++y1 :: t1)[j]?=some q0->b2A s.heap its2.toArray[j] [q0.1,q0.2]:=λj h1 q0 hq=>by
  obtain ⟨x,hx,rx⟩:=Paired.left_of p2 j q0 hq;obtain ⟨u0,hu0,ru⟩:=v2.get hx;have e:its2.toArray[j]=u0:=by
   have:=List.getElem?_eq_some_iff.mp hu0;simpa using this.2
  rw [e];exact a9O I ru rx
 have g1:(pp++x1 :: s1)[pp.length]?=some x1:=by simp
 have g2:(pp++y1 :: t1)[pp.length]?=some y1:=by simp
 refine richCompare_meets_room (op:=.Lt) ⟨_,e1,rfl⟩ ⟨_,e2,rfl⟩ PySem.F.slot_list_lt PySem.F.entry_list_lt (PySem.F.args_list_lt_2 _ _) (HT.b4r a b its.toArray its2.toArray k1 k2 none none #[] #[] pp.length z1 z2)
  ⟨e1,e2,λj hj=>?_,?_,λprog w Q' E' hq=>?_,show Value.bool true≠Value.notImplemented/\_ from ⟨(λx=>nomatch x),⟨.bl true,H,I,rfl,q⟩⟩⟩ (by omega)
 ·have gj:pp[j]?=some pp[j]:=List.getElem?_eq_getElem hj;have h1:=tn j (by omega) pp[j] (by rw [List.getElem?_append_left hj];exact gj);have h2:=tn2 j (by omega) pp[j] (by rw [List.getElem?_append_left hj];exact gj);have:=a9M (A:=X.A.in1) (s:=s) h1 h2 (by show X.A.units+1+1 < cLine;omega);rw [decide_eq_true rfl] at this;exact this
 ·have:=a9M (A:=X.A.in1) (s:=s) (tn _ z1 x1 g1) (tn2 _ z2 y1 g2) (by show X.A.units+1+1 < cLine;omega);rw [decide_eq_false (by intro z;injection z with z1 z;injection z with z2 _;omega)] at this;exact this
 ·obtain ⟨c,i1,h1,ht,hh⟩:=tn _ z1 x1 g1;obtain ⟨c2,i2,h2,ht2,hh2⟩:=tn2 _ z2 y1 g2;rw [h1,h2];refine HT.a3D ht ht2 hh hh2 (by show X.A.units+1 < cLine;omega) ?_;have:HT.a1d [x1.1,x1.2] [y1.1,y1.2]=true:=by
   rw [HT.a0J];split
   ·rw [HT.a0J,if_neg (by omega)];exact decide_eq_true (by omega)
   ·exact decide_eq_true (by omega)
  rw [this];exact hq
def tRevL (K:PySem.W.Frag) (te ts:TE):TE:=λσ H Q=>te σ H λx H1=>ts σ H1 λy H2=>∃ a xs,x=.ref a/\y=.int (-1)/\SqL K H2 a xs/\∀ p H',a0p H2 H'->H2 p=none->H' p=some (.lst xs.reverse)->Q (.ref p) H'
theorem a9P (its:List Value):slicePick its.toArray none none (some (-1))=its.reverse.toArray:=by
 have e1:sliceBounds none none (some (-1)) its.toArray.size=(((its.toArray.size:Nat):Int) - 1,-1,-1):=rfl;have e2:sliceRange (((its.toArray.size:Nat):Int) - 1) (-1) (-1)=(List.range its.toArray.size).map λ(k:Nat)=>(((its.toArray.size:Nat):Int) - 1+(k:Int) * (-1)).toNat:=by
  unfold sliceRange;rw [if_neg (by decide)];have c:(if ((its.toArray.size:Nat):Int) - 1 > -1 then (((its.toArray.size:Nat):Int) - 1 - (-1) - (-1) - 1) / -(-1) else 0).toNat=its.toArray.size:=by
   split
   ·rw [show (-(-1):Int)=1 by decide,Int.ediv_one];omega
   ·omega
  dsimp only;rw [c];refine List.map_congr_left λk _=>?_;rw [Int.mul_comm]
 unfold slicePick;rw [e1];dsimp only;rw [e2,List.filterMap_map,show its.reverse=its.toArray.toList.reverse from rfl,<-b1e];rfl
theorem b4t {X:Cx} {e st:Expr} {p2 pos:Pos} {te ts:TE} (he:PE X e te) (hs:PE X st ts):PE X (.Subscript e (.Slice none none (some st) p2) pos) (tRevL X.K te ts):=by
 intro pins s σ H Q I h;refine Subscript_ (thn (he pins s σ H _ I h) λv s1 ⟨x,H1,I1,r1,q1⟩=>?_);refine wpAny_Slice ?_;rw [evalPart_none];refine wpAny_pure ?_;refine wpAny_pure ?_;rw [evalPart_some];refine thn (hs pins s1 σ H1 _ I1 q1) λvs s3 ⟨y,H3,I3,r3,q3⟩=>?_;obtain ⟨a,xs,rfl,rfl,hx,q⟩:=q3;cases r1;obtain ⟨u,rfl⟩:=r3;have I4:Inv X pins σ H3 { s3 with heap:=s3.heap.push { cls:=.type "slice",data:=.fields #[.none,.none,.int (-1) u] } }:=I3.kept (t':=s3.toks) λb ob q=>Heap.get?_push_of_some _ q;obtain ⟨its,r,ht,hz⟩:=I4.list hx;have hlen:=r.length;show wpAny (model X.prog X.w) X.A (subscriptTail e (.Slice none none (some st) p2) (.ref a) (.ref s3.heap.objs.size)) (EP X pins σ Q) X.xe { s3 with heap:=s3.heap.push { cls:=.type "slice",data:=.fields #[.none,.none,.int (-1) u] } };refine tail_any (ops:=[.ref a,.ref s3.heap.objs.size]) ht.isList.typeIs slot_list_getitem.lookup (wpAny_getItem_list_slice ht.isList (Heap.IsSliceOf.new ..) .none .none (.int (-1) u) (by simp) ?_ (by rw [List.size_toArray];omega)) (by with_unfolding_all rfl);rw [a9P];refine ⟨.ref _,_,I4.laid (t':=s3.toks) (o:=.lst xs.reverse) (λb ob q=>Heap.get?_push_of_some _ q) (Nat.le_refl _) ?_,rfl,q _ _ (a0f (I4.hok.fresh (Nat.le_refl _)) _) (I4.hok.fresh (Nat.le_refl _)) a0b⟩;exact ⟨by rw [List.length_reverse];exact hz,_,0,a0z.rev r,Heap.get?_push_size _ rfl⟩
end L2
set_option exponentiation.threshold 2000
namespace K56
open PySem L2
open CT (Gp gst grp spF)
structure GI (d:CT.Code) (gp:Gp):Prop where
 ne:∀ q∈gp,q.2≠[]
 mem:∀ q∈gp,∀ v∈q.2,q.1 :: v∈d
 sum:(gp.map λq=>q.2.length).sum<=d.length
 tt:(gp.map λq=>q.2.length+tot q.2).sum=tot d
theorem a4I (a b:CT.Code):tot (a++b)=tot a+tot b:=by unfold tot;rw [List.map_append,List.sum_append]
theorem a3p (u:List Int):tot [u]=u.length:=by unfold tot;simp
theorem a6e {gp:Gp} {x:Int} {v:List Int} (h:∀ q,gp.getLast?=some q->q.1≠x):gst gp (x :: v)=gp++[(x,[v])]:=by
 unfold gst;cases e:gp.getLast? with
 | none=>rfl
 | some q =>
  obtain ⟨y,c⟩:=q;show (if y=x then _ else _)=_;rw [if_neg (h _ e)]
theorem a9Q {gp:Gp} {x:Int} {c:CT.Code} {v:List Int}:gst (gp++[(x,c)]) (x :: v)=gp++[(x,c++[v])]:=by rw [CT.a2a,if_pos rfl]
theorem a9R (gp:Gp) (x:Int) (v:List Int):(∃ gp0 c,gp=gp0++[(x,c)])\/∀ q,gp.getLast?=some q->q.1≠x:=by
 cases e:gp.getLast? with
 | none=>exact .inr λq h=>by cases h
 | some q =>
  obtain ⟨y,c⟩:=q;obtain ⟨gp0,rfl⟩:=List.getLast?_eq_some_iff.mp e;by_cases h:y=x
  ·subst h;exact .inl ⟨gp0,c,rfl⟩
  ·exact .inr λq hq=>by cases hq;exact h
theorem GI.step {d:CT.Code} {gp:Gp} (h:GI d gp) (u:List Int):GI (d++[u]) (gst gp u):=by
 cases u with
 | nil =>
  refine ⟨h.ne,λq hq v hv=>List.mem_append_left _ (h.mem q hq v hv),?_,?_⟩
  ·rw [List.length_append];exact Nat.le_trans h.sum (Nat.le_add_right _ _)
  ·rw [a4I,a3p];exact h.tt
 | cons x v =>
  rcases a9R gp x v with ⟨gp0,c,rfl⟩ | n
  ·rw [a9Q];have h1:=h.sum;have h2:=h.tt;rw [List.map_append,List.sum_append] at h1 h2;have e1:([(x,c)].map λq:Int × CT.Code=>q.2.length).sum=c.length:=by simp
   have e2:([(x,c)].map λq:Int × CT.Code=>q.2.length+tot q.2).sum=c.length+tot c:=by simp
   rw [e1] at h1;rw [e2] at h2;refine ⟨λq hq=>?_,λq hq w hw=>?_,?_,?_⟩
   ·rcases List.mem_append.mp hq with y | y
    ·exact h.ne q (List.mem_append_left _ y)
    ·rw [List.mem_singleton.mp y];simp
   ·rcases List.mem_append.mp hq with y | y
    ·exact List.mem_append_left _ (h.mem q (List.mem_append_left _ y) w hw)
    ·rw [List.mem_singleton.mp y] at hw ⊢;rcases List.mem_append.mp hw with z | z
     ·exact List.mem_append_left _ (h.mem (x,c) (by simp) w z)
     ·rw [List.mem_singleton.mp z];simp
   ·rw [List.map_append,List.sum_append,List.length_append];have:([(x,c++[v])].map λq:Int × CT.Code=>q.2.length).sum=c.length+1:=by simp
    rw [this];show _<=d.length+1;omega
   ·rw [List.map_append,List.sum_append,a4I,a3p];have:([(x,c++[v])].map λq:Int × CT.Code=>q.2.length+tot q.2).sum=c.length+1+(tot c+v.length):=by
     show (c++[v]).length+tot (c++[v])+0=_;rw [List.length_append,a4I,a3p];rfl
    rw [this,List.length_cons];omega
  ·rw [a6e n];refine ⟨λq hq=>?_,λq hq w hw=>?_,?_,?_⟩
   ·rcases List.mem_append.mp hq with y | y
    ·exact h.ne q y
    ·rw [List.mem_singleton.mp y];simp
   ·rcases List.mem_append.mp hq with y | y
    ·exact List.mem_append_left _ (h.mem q y w hw)
    ·rw [List.mem_singleton.mp y] at hw ⊢;rw [List.mem_singleton.mp hw];simp
   ·rw [List.map_append,List.sum_append,List.length_append];exact Nat.add_le_add h.sum (Nat.le_refl 1)
   ·rw [List.map_append,List.sum_append,a4I,a3p,h.tt];have:([(x,[v])].map λq:Int × CT.Code=>q.2.length+tot q.2).sum=1+v.length:=by
     show 1+tot [v]+0=_;rw [a3p];omega
    rw [this,List.length_cons];omega
theorem GI.fold:∀ (r:CT.Code) {d:CT.Code} {gp:Gp},GI d gp->GI (d++r) (r.foldl gst gp)
 | [],d,gp,h=>by rw [List.append_nil];exact h
 | u :: r,d,gp,h=>by
  have:=GI.fold r (h.step u);rw [List.append_assoc] at this;exact this
theorem GI.nil:GI [] []:=⟨λ_ h=>(by cases h),λ_ h=>(by cases h),Nat.le_refl _,rfl⟩
theorem gi (c:CT.Code):GI c (grp c):=GI.fold c GI.nil
theorem b2B {gp:Gp} (h:∀ q∈gp,q.2≠[]):gp.length<=(gp.map λq=>q.2.length).sum:=by
 induction gp with
 | nil=>exact Nat.le_refl _
 | cons q gp ih =>
  have:=ih λy hy=>h y (.tail _ hy);have:=List.length_pos_iff.mpr (h q (.head _));rw [List.map_cons,List.sum_cons,List.length_cons];omega
theorem b2C {gp:Gp} {q:Int × CT.Code} (h:q∈gp):q.2.length<=(gp.map λq=>q.2.length).sum:=by
 induction gp with
 | nil=>cases h
 | cons p gp ih =>
  rw [List.map_cons,List.sum_cons];rcases List.mem_cons.mp h with rfl | h
  ·omega
  ·have:=ih h;omega
theorem b2D:∀ (f:Nat) (c:CT.Code),(spF f c).length<=tot c
 | 0,c=>Nat.zero_le _
 | f+1,c=>by
  have g:=gi c;rw [<-g.tt];show ((grp c).flatMap λq=>(q.1,(q.2.length:Int)) :: spF f q.2).length<=_;have ne:=g.ne;generalize grp c=gp at ne ⊢
  induction gp with
  | nil=>exact Nat.le_refl _
  | cons q gp ih =>
   have h1:=ih λy hy=>ne y (.tail _ hy);have h2:=List.length_pos_iff.mpr (ne q (.head _));have h3:=b2D f q.2;rw [List.flatMap_cons,List.length_append,List.length_cons,List.map_cons,List.sum_cons];omega
abbrev Sk:=Option Int × CT.Code × Nat
def hdo:Option Int->Nat->List (Int × Int)
 | none,_=>[]
 | some l,n=>[(l,(n:Int))]
def out (e:Sk):List (Int × Int):=hdo e.1 e.2.1.length++spF e.2.2 e.2.1
structure Sok (e:Sk):Prop where
 ne:e.2.1≠[]
 l24:e.2.1.length<=24
 wd:∀ u∈e.2.1,u.length < e.2.2
def szk (st:List Sk):Nat:=(st.map λe=>CT.sz e.2.1).sum
def nxt (c:CT.Code) (f:Nat):List Sk:=(grp c).map λq=>(some q.1,q.2,f)
theorem b4u (c:CT.Code) (f:Nat):(nxt c f).flatMap out=spF (f+1) c:=by
 unfold nxt;show _=(grp c).flatMap _;generalize grp c=gp
 induction gp with
 | nil=>rfl
 | cons q gp ih=>rw [List.map_cons,List.flatMap_cons,List.flatMap_cons,ih];rfl
theorem nxt_ok {c:CT.Code} {f:Nat} (l24:c.length<=24) (wd:∀ u∈c,u.length < f+1):∀ e∈nxt c f,Sok e:=λe he=>by
 obtain ⟨q,hq,rfl⟩:=List.mem_map.mp he;have g:=gi c;refine ⟨g.ne q hq,Nat.le_trans (b2C hq) (Nat.le_trans g.sum l24),λv hv=>?_⟩;have:=wd _ (g.mem q hq v hv);rw [List.length_cons] at this;show v.length < f;omega
theorem nxt_sz {c:CT.Code} (f:Nat) (ne:c≠[]):szk (nxt c f) < CT.sz c:=by
 have g:=(gi c).tt;have:szk (nxt c f)=((grp c).map λq=>q.2.length+tot q.2).sum:=by
  unfold szk nxt;rw [List.map_map];congr 1;refine List.map_congr_left λq _=>?_;show CT.sz q.2=_;rw [a3V];omega
 rw [this,g,a3V];have:=List.length_pos_iff.mpr ne;omega
end K56
set_option exponentiation.threshold 2000
namespace K56
open PySem L2
open CT (Gp gst grp spF)
def Gx (Hb:Hp) (G:Addr) (H:Hp) (bl:Addr) (v:V) (q:Int × CT.Code):Prop:=∃ t b zs,v=.ref t/\H t=some (.tup [.int q.1,.ref b])/\b≠bl/\b≠G/\Hb b=none/\H b=some (.lst zs)/\Ws H zs q.2
theorem Gx.same {Hb:Hp} {G bl:Addr} {H H':Hp} {v:V} {q:Int × CT.Code} (s:a0p H H') (h:Gx Hb G H bl v q):Gx Hb G H' bl v q:=by
 obtain ⟨t,b,zs,rfl,e1,n1,n2,n3,e2,w⟩:=h;exact ⟨t,b,zs,rfl,s _ _ e1,n1,n2,n3,s _ _ e2,Ws.same s w⟩
theorem Gx.upd {Hb:Hp} {G bl d:Addr} {H:Hp} {v:V} {q:Int × CT.Code} {ls ls':List V} (hd:H d=some (.lst ls)) (e:d=bl\/d=G) (h:Gx Hb G H bl v q):Gx Hb G (L2.upd H d (.lst ls')) bl v q:=by
 obtain ⟨t,b,zs,rfl,e1,n1,n2,n3,e2,w⟩:=h;exact ⟨t,b,zs,rfl,by rw [a0i (a0q e1 hd (by intro z;cases z))];exact e1,n1,n2,n3,by rw [a0i (by rcases e with rfl | rfl <;> assumption)];exact e2,Ws.upd hd w⟩
theorem Gx.fresh {Hb:Hp} {G bl bn:Addr} {H:Hp} {v:V} {q:Int × CT.Code} (n:H bn=none) (h:Gx Hb G H bl v q):Gx Hb G H bn v q:=by
 obtain ⟨t,b,zs,rfl,e1,n1,n2,n3,e2,w⟩:=h;exact ⟨t,b,zs,rfl,e1,(λz=>by rw [z,n] at e2;cases e2),n2,n3,e2,w⟩
def Gs (Hb:Hp) (G:Addr) (H:Hp) (gs:List V) (gp:Gp):Prop:=(gs=[]/\gp=[])\/∃ gs0 gp0 tl bl zl x c,gs=gs0++[.ref tl]/\gp=gp0++[(x,c)]/\Paired (Gx Hb G H bl) gs0 gp0/\H tl=some (.tup [.int x,.ref bl])/\H bl=some (.lst zl)/\Ws H zl c/\bl≠G/\Hb bl=none
theorem Gs.same {Hb:Hp} {G:Addr} {H H':Hp} {gs:List V} {gp:Gp} (s:a0p H H') (h:Gs Hb G H gs gp):Gs Hb G H' gs gp:=by
 rcases h with h | ⟨gs0,gp0,tl,bl,zl,x,c,e1,e2,pw,h1,h2,w,n1,n2⟩
 ·exact .inl h
 ·exact .inr ⟨gs0,gp0,tl,bl,zl,x,c,e1,e2,Paired.mapP pw λ_ _ r=>r.same s,s _ _ h1,s _ _ h2,Ws.same s w,n1,n2⟩
theorem Gs.len {Hb:Hp} {G:Addr} {H:Hp} {gs:List V} {gp:Gp} (h:Gs Hb G H gs gp):gs.length=gp.length:=by
 rcases h with ⟨rfl,rfl⟩ | ⟨gs0,gp0,tl,bl,zl,x,c,rfl,rfl,pw,_⟩
 ·rfl
 ·rw [List.length_append,List.length_append,pw.length];rfl
theorem Gs.all {Hb:Hp} {G bn:Addr} {H:Hp} {gs:List V} {gp:Gp} (n:H bn=none) (h:Gs Hb G H gs gp):Paired (Gx Hb G H bn) gs gp:=by
 rcases h with ⟨rfl,rfl⟩ | ⟨gs0,gp0,tl,bl,zl,x,c,rfl,rfl,pw,h1,h2,w,n1,n2⟩
 ·exact .nil
 ·exact L2.Paired.appendP (Paired.mapP pw λ_ _ r=>r.fresh n) (.cons ⟨tl,bl,zl,rfl,h1,(λz=>by rw [z,n] at h2;cases h2),n1,n2,h2,w⟩ .nil)
def lov:Option Int->V
 | none=>.non
 | some l=>.int l
def En (H:Hp) (A B:Addr) (v:V) (e:Sk):Prop:=∃ t b ws,v=.ref t/\H t=some (.tup [lov e.1,.ref b])/\b≠A/\b≠B/\H b=some (.lst ws)/\Ws H ws e.2.1
theorem En.same {H H':Hp} {A B:Addr} {v:V} {e:Sk} (s:a0p H H') (h:En H A B v e):En H' A B v e:=by
 obtain ⟨t,b,ws,rfl,e1,n1,n2,e2,w⟩:=h;exact ⟨t,b,ws,rfl,s _ _ e1,n1,n2,s _ _ e2,Ws.same s w⟩
theorem En.upd {H:Hp} {A B d:Addr} {v:V} {e:Sk} {ls ls':List V} (hd:H d=some (.lst ls)) (ed:d=A\/d=B) (h:En H A B v e):En (L2.upd H d (.lst ls')) A B v e:=by
 obtain ⟨t,b,ws,rfl,e1,n1,n2,e2,w⟩:=h;exact ⟨t,b,ws,rfl,by rw [a0i (a0q e1 hd (by intro z;cases z))];exact e1,n1,n2,by rw [a0i (by rcases ed with rfl | rfl <;> assumption)];exact e2,Ws.upd hd w⟩
theorem a6f (a b:List Sk):szk (a++b)=szk a+szk b:=by unfold szk;rw [List.map_append,List.sum_append]
theorem a9S (e:Sk):szk [e]=CT.sz e.2.1:=by unfold szk;simp
theorem a9T (a:List Sk):szk a.reverse=szk a:=by unfold szk;rw [List.map_reverse,List.sum_reverse]
theorem a9U:∀ {st:List Sk},(∀ e∈st,Sok e)->st.length<=szk st
 | [],_=>Nat.zero_le _
 | e :: st,h=>by
  have h1:=b4o (h e (.head _)).ne;have h2:=a9U λx hx=>h x (.tail _ hx);unfold szk at h2 ⊢;rw [List.map_cons,List.sum_cons,List.length_cons];omega
theorem a3W {α β:Type} {R:α->β->Prop}:∀ {xs:List α} {ys:List β},Paired R xs ys->Paired R xs.reverse ys.reverse
 | _,_,.nil=>.nil
 | _,_,.cons a b=>by
  rw [List.reverse_cons,List.reverse_cons];exact L2.Paired.appendP (a3W b) (.cons a .nil)
theorem a3q {α β γ:Type} {R:α->β->Prop} {R':α->γ->Prop} {g:β->γ} (h:∀ x y,R x y->R' x (g y)):∀ {xs:List α} {ys:List β},Paired R xs ys->Paired R' xs (ys.map g)
 | _,_,.nil=>.nil
 | _,_,.cons a b=>.cons (h _ _ a) (a3q h b)
section
variable {P':Program} {w:World} {K:PySem.W.Frag} {mg:Str->Option Value} {base:Heap} {f:Addr} {fd:FuncData}
abbrev NSp:List Str:=["words","pairs","waits","letter","some","groups","word"]
def a9V:Sp:=λvs H Q _=>∃ (p:Addr) (xs:List V) (c:CT.Code) (F0:Nat),vs=[.ref p]/\H p=some (.tup xs)/\Ws H xs c/\c≠[]/\c.length<=24/\(∀ u∈c,u.length < F0)/\CT.sz c<=900 /\
 ∀ (d:Addr) ys H',a0p H H'->H' d=some (.lst ys)->Paired (RPr H') ys (spF F0 c)->Q (.ref d) H'
theorem b4v:a0k NSp ["words"] (a0g a8F):=fsk
theorem b1C (F:Fun K "_law_spelling" "_law_spelling" a8F f fd) (ml:mg "len"=none) (mL:mg "list"=none):a0M P' w K mg base CX0 1 f fd ["words"] a9V:=by
 refine F.ok (k:=0) b4v (λvs H Q E h=>?_) (λcdv A0 outer s H vs Q E hr h=>?_)
 ·obtain ⟨p,xs,c,F0,rfl,_⟩:=h;rfl
 obtain ⟨p,xs,c0,F0,rfl,hp,hw,ne0,l24,wd0,z900,q⟩:=h;refine ⟨_,a0c (psA (i:=1) b4v (a0X a0d))
  (a0c (psA (i:=2) b4v (a0X (a0a (a1p (a0a a2A (a0a (a1x a2E (by rfl) mL b1T (a0a (pv 0) a0d)) a0d))) a0d)))
  (a0c (a2g PassesOwn.never (a0r a7O (pln ml (pv 2)) a0e (nomark _))
   (a0c (a2C (b1N PySem.F.plainAttrs_list PySem.F.slot_list_pop PySem.F.type_list_pop b1O (pv 2)) (a4M rfl (a1i (pgA (i:=3) b4v) (a1i (pgA (i:=4) b4v) a2R))))
   (a0c (a3a (a0W (a0r b2M (pv 3) a2A (nomark _)) (a0h (a1h (a3w PySem.F.plainAttrs_list PySem.F.slot_list_append PySem.F.type_list_append a1f (pv 1) (a0a (a1p (a0a (pv 3) (a0a (pln ml (pv 4)) a0d))) a0d)))) a0u))
   (a0c (psA (i:=5) b4v (a0X a0d))
   (a0c (a1n PassesOwn.never rfl (a2S (pv 4)) (pgA (i:=6) b4v)
    (a0h (a0W (a0r (b3d (hu4 hr)) (pv 6) (a1p a0d) (nomark _))
     (a0c (a3a (a0W (PW.pt (a4L (a0r a1J (pln ml (pv 5)) a0e (nomark _)) (a2P (a0r b0h (pxA a0y (pxA a0j (pv 5) (a2r a1w a0e)) a0e) (pxA a0y (pv 6) a0e) (nomark _))))) (a0h (a1h (a3w PySem.F.plainAttrs_list PySem.F.slot_list_append PySem.F.type_list_append a1f (pv 5) (a0a (a1p (a0a (pxA a0y (pv 6) a0e) (a0a (a0X a0d) a0d))) a0d)))) a0u))
     (a0h (a1h (a3w PySem.F.plainAttrs_list PySem.F.slot_list_append PySem.F.type_list_append a1f (pxA a0y (pxA a0j (pv 5) (a2r a1w a0e)) a0e) (a0a (a4e a5I (pv 6) (a5E a0e) a5D) a0d)))))
     a0u)))
   (a0h (a1h (a3w PySem.F.plainAttrs_list PySem.F.slot_list_extend PySem.F.type_list_extend a4W (pv 2) (a0a (b4t (pv 5) (a2r a1w a0e)) a0d)))))))))
  (a0h (a0o (pv 1))))),?_⟩
 refine ⟨(by show 0<=sizeLine;decide),λB hB=>?_⟩;have s0:=a0f hB (.lst []);have g0:upd H B (.lst []) B=some (.lst []):=a0b;generalize upd H B (.lst [])=H0 at s0 g0 ⊢;refine ⟨_,rfl,p,_,rfl,.inr (SqT.of (s0 _ _ hp)),λb0 hb0=>?_⟩;have s1:=a0f hb0 (.lst xs);have g1:upd H0 b0 (.lst xs) b0=some (.lst xs):=a0b;generalize upd H0 b0 (.lst xs)=H1 at s1 g1 ⊢;refine ⟨(by show 2<=sizeLine;decide),λt0 ht0=>?_⟩;have s2:=a0f ht0 (.tup [.non,.ref b0]);have g2:upd H1 t0 (.tup [.non,.ref b0]) t0=some (.tup [.non,.ref b0]):=a0b;generalize upd H1 t0 (.tup [.non,.ref b0])=H2 at s2 g2 ⊢;refine ⟨(by show 1<=sizeLine;decide),λA hA=>?_⟩;have s3:=a0f hA (.lst [.ref t0]);have g3:upd H2 A (.lst [.ref t0]) A=some (.lst [.ref t0]):=a0b;have nB:H B=none:=hB;have nA:H A=none:=(s0.trans (s1.trans s2)).free hA;have nAB:A≠B:=λz=>by rw [z,(s1.trans s2) _ _ g0] at hA;cases hA
 have nbA:b0≠A:=λz=>by rw [<-z,s2 _ _ g1] at hA;cases hA
 have nbB:b0≠B:=λz=>by rw [z,g0] at hb0;cases hb0
 generalize upd H2 A (.lst [.ref t0])=H3 at s3 g3 ⊢;have s03:=(s0.trans (s1.trans s2)).trans s3;refine ⟨λm σ H'=>a0p H H'/\∃ (ys ps:List V) (st:List Sk) (told:List (Int × Int)) (x3 x4 x5 x6:Option V),H' A=some (.lst ys)/\H' B=some (.lst ps)/\Paired (En H' A B) ys st/\Paired (RPr H') ps told/\(∀ e∈st,Sok e)/\told++st.reverse.flatMap out=spF F0 c0/\szk st<=900/\m=szk st/\σ=[some (.ref p),some (.ref B),some (.ref A),x3,x4,x5,x6],
  ⟨_,s03,[.ref t0],[],[(none,c0,F0)],[],_,_,_,_,g3,(s1.trans (s2.trans s3)) _ _ g0,.cons ⟨t0,b0,xs,rfl,s3 _ _ g2,nbA,nbB,(s2.trans s3) _ _ g1,Ws.same s03 hw⟩ .nil,.nil,λe he=>by rw [List.mem_singleton.mp he];exact ⟨ne0,l24,wd0⟩,by simp [out,hdo],by rw [a9S];exact z900,rfl,rfl⟩,λm σ H4 hP=>?_⟩
 obtain ⟨s4,ys,ps,st,told,x3,x4,x5,x6,gA,gB,pw,pt,ok,eq,z9,rfl,rfl⟩:=hP;refine ⟨_,rfl,A,_,rfl,.inl (SqL.of gA),_,_,rfl,rfl,_,rfl,a2b (λz=>?_) (λz=>?_)⟩
 rotate_left
 ·have e0:ys=[]:=by
   cases ys with
   | nil=>rfl
   | cons _ _=>exact absurd (decide_eq_true (by simp)) z
  subst e0;cases pw;rw [List.reverse_nil,List.flatMap_nil,List.append_nil] at eq;exact ⟨_,rfl,q B ps H4 s4 gB (by rw [<-eq];exact pt)⟩
 have nv:ys≠[]:=λy=>by rw [y] at z;exact absurd (of_decide_eq_true z) (by decide)
 refine ⟨_,λσ' H' y=>y,?_⟩;obtain ⟨ys0,y,st0,e1,rfl,rfl,pw0,he1⟩:=a2f pw nv;rw [a6f,a9S] at z9 ⊢;have ok1:=ok e1 (by simp);have ok0:∀ e∈st0,Sok e:=λe he=>ok e (List.mem_append_left _ he);obtain ⟨lo,c,fu⟩:=e1;refine ⟨_,rfl,.inl ⟨rfl,_,SqL.of gA⟩,A,ys0++[y],y,rfl,rfl,gA,by simp,?_⟩;rw [List.dropLast_concat];have s5:a0p H (upd H4 A (.lst ys0)):=a0n nA s4;have gA5:upd H4 A (.lst ys0) A=some (.lst ys0):=a0b;have gB5:upd H4 A (.lst ys0) B=some (.lst ps):=by rw [a0i (Ne.symm nAB)];exact gB
 have pw5:Paired (En (upd H4 A (.lst ys0)) A B) ys0 st0:=Paired.mapP pw0 λ_ _ r=>r.upd gA (.inl rfl);have pt5:Paired (RPr (upd H4 A (.lst ys0))) ps told:=Paired.mapP pt λ_ _ r=>r.upd gA;have he5:=he1.upd (ls':=ys0) gA (.inl rfl);generalize upd H4 A (.lst ys0)=H5 at s5 gA5 gB5 pw5 pt5 he5 ⊢;clear pw0 he1 pw pt gA gB s4 ok;obtain ⟨t,b,ws,rfl,ht,nbA',nbB',hb,hws⟩:=he5;have lw:ws.length=c.length:=hws.length;have c24:c.length<=24:=ok1.l24;have wd1:∀ u∈c,u.length < fu:=ok1.wd;obtain ⟨g,rfl⟩:∃ g,fu=g+1:=by
  cases c with
  | nil=>exact absurd rfl ok1.ne
  | cons u _=>have:=wd1 u (.head _);exact ⟨fu - 1,by omega⟩
 have eq1:told++(hdo lo c.length++spF (g+1) c++st0.reverse.flatMap out)=spF F0 c0:=by
  rw [List.reverse_append,List.reverse_singleton,List.singleton_append,List.flatMap_cons] at eq;exact eq
 have ltold:told.length<=900:=by
  have h1:=b2D F0 c0;have h2:=a3V c0;have h3:=congrArg List.length eq1;rw [List.length_append] at h3;omega
 refine ⟨t,_,rfl,SqT.of ht,rfl,_,_,rfl,_,_,rfl,rfl,?_⟩;refine ⟨λσ' H'=>a0p H H'/\∃ (ps':List V) (told':List (Int × Int)),H' A=some (.lst ys0)/\H' B=some (.lst ps')/\Paired (En H' A B) ys0 st0/\Paired (RPr H') ps' told'/\told'++(spF (g+1) c++st0.reverse.flatMap out)=spF F0 c0/\H' b=some (.lst ws)/\Ws H' ws c/\σ'=[some (.ref p),some (.ref B),some (.ref A),some (lov lo),some (.ref b),x5,x6],?_,λσ6 H6 hM=>?_⟩
 ·refine ⟨_,rfl,rfl,_,rfl,?_⟩;cases lo with
  | none=>exact a3G ⟨s5,ps,told,gA5,gB5,pw5,pt5,eq1,hb,hws,rfl⟩
  | some l =>
   refine a6r ⟨_,rfl,.inl ⟨rfl,_,SqL.of gB5⟩,_,rfl,_,rfl,b,_,rfl,.inl (SqL.of hb),(by show 2<=sizeLine;decide),λt1 ht1=>?_⟩;rw [lw];have s6:=a0f ht1 (.tup [lov ((some l,c,g+1):Sk).1,.int (c.length:Int)]);have g6:upd H5 t1 (.tup [lov ((some l,c,g+1):Sk).1,.int (c.length:Int)]) t1=some (.tup [.int l,.int (c.length:Int)]):=a0b;generalize upd H5 t1 (.tup [lov ((some l,c,g+1):Sk).1,.int (c.length:Int)])=H6 at s6 g6 ⊢;have gB6:=s6 _ _ gB5;refine ⟨B,_,_,rfl,rfl,gB6,a0m (by rw [pt5.length];omega),a0n nB (s5.trans s6),ps++[.ref t1],told++[(l,(c.length:Int))],by rw [a0i nAB];exact s6 _ _ gA5,a0b,Paired.mapP pw5 λ_ _ r=>(r.same s6).upd gB6 (.inr rfl),L2.Paired.appendP (Paired.mapP pt5 λ_ _ r=>(r.same s6).upd gB6) (.cons (RPr.upd gB6 ⟨t1,rfl,g6⟩) .nil),by rw [List.append_assoc];exact eq1,by rw [a0i nbB'];exact s6 _ _ hb,Ws.upd gB6 (Ws.same s6 hws),rfl⟩
 obtain ⟨s6,ps',told',gA6,gB6,pw6,pt6,eq6,hb6,hw6,rfl⟩:=hM;clear s5 gA5 gB5 pw5 pt5 hb hws ht eq1 eq ltold;refine ⟨(by show 0<=sizeLine;decide),λG hG=>?_⟩;have s7:=a0f hG (.lst []);have g7:upd H6 G (.lst []) G=some (.lst []):=a0b;generalize upd H6 G (.lst [])=H7 at s7 g7 ⊢;refine ⟨_,rfl,b,rfl,⟨_,SqL.of (s7 _ _ hb6)⟩,?_⟩;refine a3Z (K:=K) (xs:=ws) (λi σ H'=>a0p H6 H'/\∃ (gs:List V) (x6:Option V),H' G=some (.lst gs)/\Gs H6 G H' gs ((c.take i).foldl gst [])/\σ=[some (.ref p),some (.ref B),some (.ref A),some (lov lo),some (.ref b),some (.ref G),x6])
  ⟨s7,[],_,g7,.inl ⟨rfl,rfl⟩,rfl⟩ (λi σ H' _ hP=>SqL.of (hP.1 _ _ hb6)) (λi x σ H8 hx hP=>?_) (λσ H12 hP=>?_)
 ·obtain ⟨s8,gs,x6',g8,hgs,rfl⟩:=hP;obtain ⟨u,hu,ru⟩:=Paired.right_of hw6 i x hx;obtain ⟨ua,rfl,hua⟩:=Wd.ti ru;have ef:(c.take (i+1)).foldl gst []=gst ((c.take i).foldl gst []) u:=by rw [List.take_add_one,hu,List.foldl_append];rfl
  rw [ef];have gi':=GI.fold (c.take i) GI.nil;have lt24:(c.take i).length<=24:=by rw [List.length_take];omega
  have h1:=gi'.sum;rw [List.nil_append] at h1;have l1:=b2B gi'.ne;have ml':=λq hq=>b2C (gp:=(c.take i).foldl gst []) (q:=q) hq;generalize (c.take i).foldl gst []=gp at hgs gi' h1 l1 ml' ⊢;have lgs:=hgs.len;refine ⟨_,rfl,(by show 0<=sizeLine;decide),λt2 ht2=>?_⟩;have s9:=a0f ht2 (.tup []);have g9:upd H8 t2 (.tup []) t2=some (.tup []):=a0b;generalize upd H8 t2 (.tup [])=H9 at s9 g9 ⊢;have gG9:=s9 _ _ g8;have hgs9:=hgs.same s9;have s69:=s8.trans s9;have hua9:TW H9 ua u:=s69 _ _ hua;refine ⟨u,[],Wd.of hua9,Wd.of (w:=[]) g9,_,rfl,?_⟩;cases u with
  | nil =>
   rw [decide_eq_true rfl];exact a3G ⟨s69,gs,_,gG9,hgs9,rfl⟩
  | cons x v =>
  rw [decide_eq_false (by simp)];refine a6r ?_;have at0:atI ((x :: v).map V.int) 0=some (V.int x):=a1P (i:=0) rfl;refine ⟨λσ' H'=>a0p H6 H'/\∃ gs0 gp0 tl bl zl c',H' G=some (.lst (gs0++[.ref tl]))/\Paired (Gx H6 G H' bl) gs0 gp0/\H' tl=some (.tup [.int x,.ref bl])/\H' bl=some (.lst zl)/\Ws H' zl c'/\bl≠G/\H6 bl=none/\gst gp (x :: v)=gp0++[(x,c'++[v])]/\c'.length<=24/\σ'=[some (.ref p),some (.ref B),some (.ref A),some (lov lo),some (.ref b),some (.ref G),some (.ref ua)],?_,λσ10 H10 hM=>?_⟩
  ·refine ⟨_,rfl,G,_,rfl,.inl (SqL.of gG9),rfl,_,rfl,?_⟩;have nw:∀ q,gp.getLast?=some q->q.1≠x->∀ q,gp.getLast?=some q->q.1≠x:=λq e n q' e'=>by rw [e] at e';cases e';exact n
   rcases id hgs9 with ⟨e1,e2⟩ | ⟨gs0,gp0,tl,bl,zl,xl,cl,e1,e2,pw0,h2,h3,w3,n1,n2⟩
   rw [decide_eq_true (by rw [e1];rfl)];refine a6r ?_;have nw:∀ q,gp.getLast?=some q->q.1≠x:=λq e=>by rw [e2] at e;cases e
   rotate_left
   ·rw [decide_eq_false (λz=>by
     have:=V.int.inj z;rw [e1,List.length_append] at this;simp at this;omega)]
    refine a3G ⟨_,rfl,_,rfl,G,_,_,_,rfl,rfl,SqL.of gG9,(by rw [e1];exact a1V _ _),tl,_,_,_,rfl,rfl,SqT.of h2,(rfl:atI [V.int xl,.ref bl] 0=_),_,rfl,ua,_,_,_,rfl,rfl,SqT.of hua9,at0,rfl,_,rfl,?_⟩;by_cases ex:xl=x
    ·rw [decide_eq_true (by rw [ex])];subst ex;exact a3G ⟨s69,gs0,gp0,tl,bl,zl,cl,by rw [gG9,e1],pw0,h2,h3,w3,n1,n2,by rw [e2];exact a9Q,by
      have:=ml' (xl,cl) (by rw [e2];simp);show cl.length<=24;have t:cl.length<=_:=this;omega,rfl⟩
    rw [decide_eq_false (λz=>ex (V.int.inj z))];refine a6r ?_;have nw:∀ q,gp.getLast?=some q->q.1≠x:=nw (xl,cl) (by rw [e2,List.getLast?_concat]) ex;refine ⟨_,rfl,.inl ⟨rfl,_,SqL.of gG9⟩,_,rfl,ua,_,_,_,rfl,rfl,SqT.of hua9,at0,(by show 0<=sizeLine;decide),λbn hbn=>?_⟩;have s10:=a0f hbn (.lst []);have g10:upd H9 bn (.lst []) bn=some (.lst []):=a0b;generalize upd H9 bn (.lst [])=H10 at s10 g10 ⊢;refine ⟨(by show 2<=sizeLine;decide),λtn htn=>?_⟩;have s11:=a0f htn (.tup [.int x,.ref bn]);have g11:upd H10 tn (.tup [.int x,.ref bn]) tn=some (.tup [.int x,.ref bn]):=a0b;generalize upd H10 tn (.tup [.int x,.ref bn])=H11 at s11 g11 ⊢;have s911:=s10.trans s11;have gG11:=s911 _ _ gG9;have nbG:bn≠G:=λz=>by rw [z,gG9] at hbn;cases hbn
    exact ⟨G,_,_,rfl,rfl,gG11,a0m (by omega),a0n hG (s69.trans s911),gs,gp,tn,bn,[],[],a0b,Paired.mapP (hgs9.all hbn) λ_ _ r=>(r.same s911).upd gG11 (.inr rfl),by rw [a0i (a0q g11 gG11 (by intro z;cases z))];exact g11,by rw [a0i nbG];exact s11 _ _ g10,.nil,nbG,s69.free hbn,a6e nw,Nat.zero_le _,rfl⟩
   refine ⟨_,rfl,.inl ⟨rfl,_,SqL.of gG9⟩,_,rfl,ua,_,_,_,rfl,rfl,SqT.of hua9,at0,(by show 0<=sizeLine;decide),λbn hbn=>?_⟩;have s10:=a0f hbn (.lst []);have g10:upd H9 bn (.lst []) bn=some (.lst []):=a0b;generalize upd H9 bn (.lst [])=H10 at s10 g10 ⊢;refine ⟨(by show 2<=sizeLine;decide),λtn htn=>?_⟩;have s11:=a0f htn (.tup [.int x,.ref bn]);have g11:upd H10 tn (.tup [.int x,.ref bn]) tn=some (.tup [.int x,.ref bn]):=a0b;generalize upd H10 tn (.tup [.int x,.ref bn])=H11 at s11 g11 ⊢;have s911:=s10.trans s11;have gG11:=s911 _ _ gG9;have nbG:bn≠G:=λz=>by rw [z,gG9] at hbn;cases hbn
   exact ⟨G,_,_,rfl,rfl,gG11,a0m (by omega),a0n hG (s69.trans s911),gs,gp,tn,bn,[],[],a0b,Paired.mapP (hgs9.all hbn) λ_ _ r=>(r.same s911).upd gG11 (.inr rfl),by rw [a0i (a0q g11 gG11 (by intro z;cases z))];exact g11,by rw [a0i nbG];exact s11 _ _ g10,.nil,nbG,s69.free hbn,a6e nw,Nat.zero_le _,rfl⟩
  obtain ⟨s10,gs0,gp0,tl,bl,zl,c',gG,pw0,htl,hbl,wz,n1,n2,eg,l24',rfl⟩:=hM;have hua10:TW H10 ua (x :: v):=s10 _ _ hua;refine ⟨_,rfl,_,rfl,G,_,_,_,rfl,rfl,SqL.of gG,a1V _ _,tl,_,_,_,rfl,rfl,SqT.of htl,(rfl:atI [V.int x,.ref bl] 1=_),.inl ⟨rfl,_,SqL.of hbl⟩,_,rfl,_,rfl,ua,_,rfl,hua10,λp5 H11 s11 hp5=>?_⟩;have hp6:TW H11 p5 v:=hp5.trans (by rw [show (some (1:Int))=some ((1:Nat):Int) from rfl,a6u];rfl);have hbl11:=s11 _ _ hbl;refine ⟨bl,_,_,rfl,rfl,hbl11,a0m (by rw [wz.length];omega),a0n n2 (s10.trans s11),gs0++[.ref tl],_,by rw [a0i (Ne.symm n1)];exact s11 _ _ gG,?_,rfl⟩;refine .inr ⟨gs0,gp0,tl,bl,zl++[.ref p5],x,c'++[v],rfl,eg,Paired.mapP pw0 λ_ _ r=>(r.same s11).upd hbl11 (.inl rfl),?_,a0b,?_,n1,n2⟩
  ·have:=s11 _ _ htl;rw [a0i (a0q this hbl11 (by intro z;cases z))];exact this
  ·exact L2.Paired.appendP (Ws.upd hbl11 (Ws.same s11 wz)) (.cons (Wd.upd hbl11 (Wd.of hp6)) .nil)
 obtain ⟨s12,gs,x6',g12,hgs,rfl⟩:=hP;rw [lw,List.take_length] at hgs;have gA12:=s12 _ _ gA6;refine ⟨_,rfl,.inl ⟨rfl,_,SqL.of gA12⟩,_,rfl,_,rfl,G,gs,rfl,rfl,SqL.of g12,λrv H13 s13 nrv g13=>?_⟩;have gA13:=s13 _ _ gA12;have s613:=s12.trans s13;have all:=(hgs.all nrv)
 have ge:=gi c;have lg:gs.length<=24:=by
  have h1:=hgs.len;have h2:=b2B ge.ne;have h3:=ge.sum;have h4:gs.length=(grp c).length:=h1;omega
 have ly0:=a9U ok0;have ly1:ys0.length=st0.length:=pw6.length;refine ⟨A,rv,_,_,rfl,rfl,gA13,g13,Nat.le_of_lt (Nat.lt_of_le_of_lt (show _<=2000 by rw [List.length_reverse];omega) (by decide)),?_⟩;have lt:=nxt_sz (c:=c) g ok1.ne;refine ⟨szk (st0++(nxt c g).reverse),by rw [a6f,a9T];show _ < _+CT.sz c;omega,a0n nA (s6.trans s613),ys0++gs.reverse,ps',st0++(nxt c g).reverse,told',_,_,_,_,a0b,by rw [a0i (Ne.symm nAB)];exact s613 _ _ gB6,?_,Paired.mapP pt6 λ_ _ r=>(r.same s613).upd gA13,λe he=>?_,?_,by rw [a6f,a9T];have z9':szk st0+CT.sz c<=900:=z9;omega,rfl,rfl⟩
 ·refine L2.Paired.appendP (Paired.mapP pw6 λ_ _ r=>(r.same s613).upd gA13 (.inl rfl)) (a3W ?_);refine a3q (λv q r=>?_) all;obtain ⟨t,b',zs,rfl,e1,_,_,n3,e2,w'⟩:=r;refine En.upd gA13 (.inl rfl) ⟨t,b',zs,rfl,s13 _ _ e1,λz=>?_,λz=>?_,s13 _ _ e2,Ws.same s13 w'⟩
  ·rw [z,gA6] at n3;cases n3
  ·rw [z,gB6] at n3;cases n3
 ·rcases List.mem_append.mp he with y | y
  ·exact ok0 e y
  ·exact nxt_ok c24 wd1 e (List.mem_reverse.mp y)
 ·rw [List.reverse_append,List.reverse_reverse,List.flatMap_append,b4u];exact eq6
end
end K56
set_option exponentiation.threshold 2000
namespace K56
open PySem L2
theorem sz_le {B:Nat}:∀ {c:CT.Code},(∀ u∈c,u.length<=B)->CT.sz c<=c.length * (B+1)
 | [],_=>Nat.zero_le _
 | u :: c,h=>by
  have h1:=sz_le (B:=B) λx hx=>h x (.tail _ hx);have h2:=h u (.head _);unfold CT.sz at h1 ⊢;rw [List.map_cons,List.sum_cons,List.length_cons,Nat.succ_mul];omega
theorem b2E {L:Nat} (hL:2<=L):∀ d w,w<=d->1<=w->(∃ c,c∈CT.Cs L w)/\∀ l,l < L->∃ r,r∈CT.Rs L w l
 | 0,w,hd,h1=>by omega
 | d+1,w,hd,h1=>by
  have c1:([[]]:CT.Code)∈CT.Cs L 1:=by rw [CT.a1R];exact .head _
  have hC:∃ c,c∈CT.Cs L w:=by
   by_cases e:w=1
   ·subst e;exact ⟨_,c1⟩
   ·rw [CT.a5l (by omega)];obtain ⟨r,hr⟩:=(b2E hL d (w - 1) (by omega) (by omega)).2 1 (by omega);exact ⟨_,CT.a3T (l1:=0) (a:=1) (Nat.le_refl _) (by omega) (Nat.le_refl _) (by omega) c1 (by
     unfold CT.bhd;rw [if_pos (by show 1 - 1+1 < w;omega)];exact hr)⟩
  refine ⟨hC,λl hl=>?_⟩;rw [CT.a5m (by omega) hl];obtain ⟨c,hc⟩:=hC;exact ⟨_,CT.a3T (l1:=l) (a:=w) (r:=[]) (Nat.le_refl _) hl h1 (Nat.le_refl _) hc (by
   unfold CT.bhd;rw [if_neg (by show ¬ w - 1+1 < w;omega)];exact .head _)⟩
theorem chp_ne {ps ws:List Int} (il:CT.inL ps.length ws.length) (w1:1<=ws.length):chp ps ws≠[]:=by
 have hne:0 < (CT.Cs ps.length ws.length).length:=by
  obtain ⟨c,hc⟩:=(b2E il.1 ws.length ws.length (Nat.le_refl _) w1).1;exact List.length_pos_of_mem hc
 cases e:CT.mi ((CT.Cs ps.length ws.length).map (CT.co ps ws 0)) with
 | none =>
  have z:=CT.a1l.mp e;rw [List.map_eq_nil_iff] at z;rw [z] at hne;cases hne
 | some m =>
  obtain ⟨hm,_⟩:=CT.a0Q.mp e;obtain ⟨c,hc,ec⟩:=List.mem_map.mp hm;intro z;have:c∈chp ps ws:=List.mem_filter.mpr ⟨hc,decide_eq_true (by rw [e,ec])⟩;rw [z] at this;cases this
structure Ch (ps ws:List Int) (c:CT.Code):Prop where
 mm:c∈chp ps ws
 cs:c∈CT.Cs ps.length ws.length
 ln:c.length=ws.length
 wd:∀ u∈c,u.length<=23/\∀ x∈u,(0:Int)<=x/\x < (ps.length:Int)
 sz:CT.sz c<=900
 ne:c≠[]
theorem b4w {ps ws:List Int} (n1:1<=ws.length) (n24:ws.length<=24) {c:CT.Code} (h:c∈chp ps ws):Ch ps ws c:=by
 have cs:=(List.mem_filter.mp h).1;have gd:=CT.a5n n1 c cs;have wd:∀ u∈c,u.length<=23/\∀ x∈u,(0:Int)<=x/\x < (ps.length:Int):=λu hu=>⟨by have:=(gd.wd u hu).1;omega,(gd.wd u hu).2⟩
 have z:=sz_le (B:=23) λu hu=>(wd u hu).1;have ln:=gd.ln;have:c.length * (23+1)<=24 * 24:=Nat.mul_le_mul (by omega) (by decide);exact ⟨h,cs,ln,wd,by omega,λe=>by rw [e,List.length_nil] at ln;omega⟩
theorem Ch.ok {ps ws:List Int} {c:CT.Code} (h:Ch ps ws c) (n1:1<=ws.length) (n24:ws.length<=24):Okc ps.length c:=⟨⟨24,ln_q _ _ (CT.b4e 24 ws.length n24 n1 c h.cs)⟩,by rw [h.ln];exact n24⟩
theorem ch_lt {ps ws:List Int} (n1:1<=ws.length) (n24:ws.length<=24) {k:Nat} {c c':CT.Code} (h:(chp ps ws)[k]?=some c) (h':(chp ps ws)[k+1]?=some c'):CT.SL (CT.spF 24 c) (CT.spF 24 c'):=by
 have pw:=(CT.b2x (L:=ps.length) ws.length ws.length 24 (Nat.le_refl _) n1 n24).1;have pf:(chp ps ws).Pairwise λc c'=>CT.SL (CT.spF 24 c) (CT.spF 24 c'):=List.Pairwise.filter _ pw;obtain ⟨a1,rfl⟩:=List.getElem?_eq_some_iff.mp h;obtain ⟨a2,rfl⟩:=List.getElem?_eq_some_iff.mp h';exact List.pairwise_iff_getElem.mp pf k (k+1) a1 a2 (by omega)
theorem ch_co {ps ws:List Int} {h t:Nat->Nat->Nat->OI} {F:Nat->Nat->OI} {cde c:CT.Code} (T:CT.Tb ps.length ws.length h t F (pl ps) (Wt ws)) (hL:0 < ps.length) (n1:1<=ws.length) (k:Kc ps.length h t 0 ws.length cde) (hc:c∈chp ps ws):CT.co ps ws 0 c=CT.co ps ws 0 cde:=by
 have e1:=(a9y T hL k).2.2.2 (Nat.le_refl _);have e2:=(CT.a4w T CT.en ws.length ws.length 0 (Nat.le_refl _) n1 (by omega)).1;rw [Nat.zero_add] at e2;have e3:=of_decide_eq_true (List.mem_filter.mp hc).2;rw [e2,<-e1] at e3;exact Option.some.inj e3
section
variable {P':Program} {w:World} {K:PySem.W.Frag} {mg:Str->Option Value} {base:Heap} {f:Addr} {fd:FuncData}
abbrev NRg:List Str:=["prices","weights","number","code","due","found"]
abbrev PRg:List Str:=["prices","weights","number","code","due"]
def a9W:Sp:=λvs H Q _=>∃ (p q a:Addr) (ps ws:List Int) (xs:List V) (c:CT.Code) (k:Nat) (due:Int),vs=[.ref p,.ref q,.int (k:Int),.ref a,.int due]/\In2 H p q ps ws/\H a=some (.tup xs)/\Ws H xs c/\(chp ps ws)[k]?=some c/\due=CT.co ps ws 0 c/\∀ H',a0p H H'->Q (.bl true) H'
theorem scRg:a0k NRg PRg (a0g a8G):=fsk
theorem b1D {CU CB CN:Addr} (F:Fun K "_law_right" "_law_right" a8G f fd) (GI:Fns P' w K mg base ["found"] "_law_is_code" spIsc 81) (GL:Fns P' w K mg base ["code","letters"] "_law_lean" b2z 81) (GC:Fns P' w K mg base PCo "_law_cost" a3U 81) (GN:b0x P' w K mg base NC "number_of" (Kp.spNo CU CB CN) 81) (GW:Fns P' w K mg base ["found"] "_law_whole" a4y 81) (ml:mg "len"=none):a0M P' w K mg base CX0 82 f fd PRg a9W:=by
 refine F.ok (k:=81) scRg (λvs H Q E h=>?_) (λcdv A outer s H vs Q E hr h=>?_)
 ·obtain ⟨p,q,a,ps,ws,xs,c,k,due,rfl,_⟩:=h;rfl
 obtain ⟨p,q,a,ps,ws,xs,c,k,due,rfl,i2,ha,hw,hk,rfl,qq⟩:=h;obtain ⟨L2',L6,m24⟩:=i2.il;have n1:=i2.nu.w1;have ch:=b4w n1 m24 (List.mem_of_getElem? hk);refine ⟨_,a0c (a0W (PW.pt (a4L (a1K (a2c (pcF GI hr (a0a (pv 3) a0d)))) (a4L (a0r b0h (pln ml (pv 3)) (pln ml (pv 1)) (nomark _)) (a2P (a1K (a2c (pcF GL hr (a0a (pv 3) (a0a (pln ml (pv 0)) a0d))))))))) (a0h (a0o a3r)) a0u)
  (a0c (a0W (a0r b0h (pcF GC hr (a0a (pv 0) (a0a (pv 1) (a0a (pv 3) a0d)))) (pv 4) (nomark _)) (a0h (a0o a3r)) a0u)
  (a0c (psA (i:=5) scRg (a0Z GN.ok hr (by rfl) GN.m GN.kp GN.b .nil b3h (a0a (pv 0) (a0a (pv 1) (a0a (pv 3) a0d)))))
  (a0h (a0o (a3B (pcF GW hr (a0a (pv 5) a0d)) (a3A (a2t a1J (pv 5) (pv 2) (nomark _)))))))),?_⟩
 refine ⟨_,rfl,a,xs,c,rfl,ha,hw,λH1 s1=>⟨_,rfl,a3G ?_⟩⟩;have ha1:=s1 _ _ ha;have lx:xs.length=ws.length:=by rw [hw.length,ch.ln]
 refine ⟨_,rfl,a,_,rfl,.inr (SqT.of ha1),_,rfl,q,_,rfl,.inr (SqT.of (s1 _ _ i2.hq)),rfl,_,rfl,?_⟩;rw [List.length_map,lx,decide_eq_true rfl];refine a3G ⟨_,rfl,_,rfl,p,_,rfl,.inr (SqT.of (s1 _ _ i2.hp)),?_⟩;rw [List.length_map];refine ⟨a,xs,c,ps.length,rfl,ha1,Ws.same s1 hw,ch.ok n1 m24,by omega,ch.sz,λH2 s2=>⟨_,rfl,a3G ?_⟩⟩;have s12:=s1.trans s2;have i22:=i2.same s12;refine ⟨_,rfl,_,rfl,_,rfl,true,p,q,a,ps,ws,xs,c,rfl,i22.hp,i22.hq,s12 _ _ ha,Ws.same s12 hw,ch.ln,by rw [ch.ln];omega,λu hu=>⟨(ch.wd u hu).2,by have:=(ch.wd u hu).1;omega⟩,i2.nu.bp,i2.nu.bw,λH3 s3=>?_⟩;refine ⟨_,rfl,rfl,_,rfl,?_⟩;rw [decide_eq_true rfl];refine a3G ?_;have s13:=s12.trans s3;have k3:Kp.kd ps ws c=3:=by
  unfold Kp.kd;rw [if_pos ch.ln,if_pos (List.all_eq_true.mpr λu hu=>a9t.mpr (ch.wd u hu).2),if_pos ch.mm]
 refine ⟨_,rfl,_,rfl,_,rfl,p,q,a,ps,ws,c,rfl,i2.same s13,⟨⟨xs,s13 _ _ ha,Ws.same s13 hw⟩,by rw [ch.ln];omega,λu hu=>by have:=(ch.wd u hu).1;omega⟩,(λz=>by rw [k3] at z;cases z),(λz=>by rw [k3] at z;cases z),(λz=>by rw [k3] at z;cases z),λ_ H4 x s4 hx=>?_⟩;have ex:x=k:=by
  have nd:=chp_nd (ps:=ps) n1;have h1:=Kp.b2v nd hx;have h2:=Kp.b2v nd hk;omega
 subst ex;refine ⟨_,rfl,_,rfl,_,rfl,a6r ⟨_,rfl,_,rfl,rfl,?_⟩⟩;rw [decide_eq_true rfl];exact qq _ (s13.trans s4)
end
end K56
namespace L2
open PySem PySem.Spec PyProof.Rows
def tTryB (K:PySem.W.Frag) (D:Addr) (tb:(St->XK)->TS) (ts:TS):TS:=λG σ H=>tb (λσ' cls od H'=>∃ C,cls=.ref C/\PySem.W.subIn K (.ref C) (.ref D)=some true /\
 ∀ ea,H' ea=none->ts { G with bk:=λ_ _=>False,ct:=λ_ _=>False } σ' (upd H' ea (excO ea C od))) G σ H
theorem b4x {X:Cx} {body suite:List Stmt} {b₀:Stmt} {c:Str} {D:Addr} {np hpos pos:Pos} {rest:List ExceptHandler} {tb:(St->XK)->TS} {ts:TS} (hfrm:X.stack=X.env :: X.outer/\X.env.frame=some X.env.locals)
  (hb:∀ (pn:List (Addr × Obj)) (xe:Value->Shared->Prop) (Ex:St->XK),a8o (X.tryx pn xe) Ex->PSs (X.tryx pn xe) body (tb Ex)) (hs:∀ ea,PSs (X.hand ea) (b₀ :: suite) ts)
  (hg:Gl X c) (hm:X.mg c=some (.ref D)) (hD:Hcl X.K D) (hdb:(c == ("__debug__":Str))=false:=by decide) :
  PS X (.Try body (.ExceptHandler (some (.Name c np)) none (b₀ :: suite) hpos :: rest) [] [] pos) (tTryB X.K D tb ts):=by
 intro pins s σ H G I h;refine wpAny_Try_except ?_;refine wpAny_mono (hb (X.pn++pins) (λe s₁=>wpAny (model X.prog X.w) X.A (noteFrame e X.env) (λ_ s₂=>wpAny (model X.prog X.w) X.A (setFlight e none) (λ_ s₃ =>
   wpAny (model X.prog X.w) X.A (handleBy e X.env (.ExceptHandler (some (.Name c np)) none (b₀ :: suite) hpos :: rest)) (SP X pins G) X.xe s₃) X.xe s₂) X.xe s₁) _ ?_ [] s σ H G (I.tryx _) h) (λfl s1 q=>?_) λ_ _ z=>z
 ·intro pins' σ1 H1 s1 e s' I1 hx;obtain ⟨ea,cls,od,S,H',rfl,os,bare,un,hok,lo,hS,C,rfl,sb,q⟩:=hx;have J1:Inv X pins σ1 H1 s1:=I1.untryx I.ok;have J2:Inv X pins σ1 H' s':=J1.call' (ch:=[]) os un hok bare (λb z=>absurd z (by simp));show wpAny _ _ (noteFrame (.ref ea) X.env) _ _ s';have st:=J2.stack;rw [hfrm.1] at st;have hfr:=I.ok.frames;rw [hfrm.1] at hfr;refine a8n hfr st hfrm.2 lo λh3 T m3 hs3 hT x3 t3=>?_;rw [<-hfrm.1] at m3;have J3:Inv X pins σ1 H' { s' with heap:=h3,toks:=s'.toks }:=J2.moved (S:=S) m3 λb hb=>⟨J1.off (hS b hb).1,(hS b hb).2⟩
  have oE:=J1.off (hS ea lo.1).1;have nE:=(hS ea lo.1).2;obtain ⟨oe,vs,he,hcls,hdd,hd1,h1⟩:=id x3;refine wpAny_handleBy_cons (codeAny_handlers_test ?_) (by intro z;cases z);refine a2o (X:=X.hand ea) (J3.hand ea) hg hm ?_ hdb;refine a5P (K:=X.K) J3.kIn he hcls hD sb (codeAny_handlers_suite ?_);refine a3c (s:={ s' with heap:=h3,toks:=s'.toks }) x3 t3 hT λh4 m4 x4 t4 k4=>?_;have J4:Inv X pins σ1 H' { s' with heap:=h4,toks:=s'.toks }:=J3.moved (S:=[T]) (λb o hb hn=>by
   have hbT:b≠T:=λz=>hn (by rw [z];exact List.mem_cons_self);have z:=(k4 b hbT).trans hb;exact ⟨λ_=>z,o.slots,z⟩) λb hb=>by
    rw [List.mem_singleton.mp hb];exact ⟨J2.off (Heap.get?_none_of_le hs3),J2.hok.fresh hs3⟩
  have nf:ea∉X.fs:=λz=>by
   obtain ⟨_,o,ho,_⟩:=I.ok.funs.mem z;exact I.ok.exfs ea (oE.1 o ho) z
  obtain ⟨oe4,vs4,he4,hcls4,hdd4,hd14,h14⟩:=id x4;have J5:Inv X pins σ1 (upd H' ea (excO ea C od)) { s' with heap:=h4,toks:=s'.toks }:=J4.track oE nE ⟨oe4,vs4,he4,hcls4,hdd4,hd14⟩ ⟨oe4,he4⟩ (λg1 g2 ⟨o,v,q1,q2⟩ k=>⟨o,v,k o q1,q2⟩) nf;refine wpAny_mono (hs ea pins _ _ _ _ (J5.hand ea) (q ea nE)) (λf s7 z=>?_) λ_ _ z=>z.elim;cases f with
  | next =>
   obtain ⟨σ7,H7,J7,z⟩:=z;exact ⟨_,H7,J7.unhand I.ok,z⟩
  | brk =>
   obtain ⟨σ7,H7,J7,z⟩:=z;exact z.elim
  | cont =>
   obtain ⟨σ7,H7,J7,z⟩:=z;exact z.elim
  | ret u =>
   obtain ⟨v,σ7,H7,J7,r,z⟩:=z;exact ⟨v,_,H7,J7.unhand I.ok,r,z⟩
 ·cases fl with
  | next =>
   obtain ⟨σ',H',J,z⟩:=q;exact wpAny_execs_nil ⟨σ',H',J.untryx I.ok,z⟩
  | brk =>
   obtain ⟨σ',H',J,z⟩:=q;exact ⟨σ',H',J.untryx I.ok,z⟩
  | cont =>
   obtain ⟨σ',H',J,z⟩:=q;exact ⟨σ',H',J.untryx I.ok,z⟩
  | ret u =>
   obtain ⟨v,σ',H',J,r,z⟩:=q;exact ⟨v,σ',H',J.untryx I.ok,r,z⟩
end L2
set_option exponentiation.threshold 2000
namespace K56
open PySem L2
theorem sqL_T {K:PySem.W.Frag} {T:Addr} {H H':Hp} {qs:Array Value} (hT:H T=some (.tbl qs)) (k:a1b T H H') {a:Addr} {xs:List V} (h:SqL K H a xs):SqL K H' a xs:=by
 rcases h with (e | ⟨o,e⟩) | r
 ·exact .inl (.inl (k _ _ (a0q e hT (by intro z;cases z)) e))
 ·exact .inl (.inr ⟨o,k _ _ (a0q e hT (by intro z;cases z)) e⟩)
 ·exact .inr r
section
variable {P':Program} {w:World} {K:PySem.W.Frag} {mg:Str->Option Value} {base:Heap} {f:Addr} {fd:FuncData}
abbrev NLw:List Str:=["script","prices","weights","many","due","asked","number","code","later","refused"]
def b1E (K:PySem.W.Frag) (T:Addr):Sp:=λvs H Q _=>∃ (a:Addr) (ns:List Int),vs=[.ref a]/\SqL K H a (ns.map V.int)/\ns.length<=63/\a1q H T a6V b2w/\∀ H',Q (.bl true) H'
theorem a7c:a0k NLw ["script"] (a0g b0b):=fsk
theorem ndLw:(("k":Str) :: NLw).Nodup:=by decide +kernel
theorem ok_law {T CB:Addr} {e:Addr} {ed:FuncData} (F:Fun K "law" "law" b0b e ed) (GI:Fns P' w K mg base ["script"] "_law_input" (a9z K) 82) (GM:Fns P' w K mg base ["prices","weights"] "many_cheapest" b2s 82) (GW:Fns P' w K mg base ["found"] "_law_whole" a4y 82) (GC:Fns P' w K mg base PCo "_law_cost" a3U 82) (GK:Fns P' w K mg base ["prices","weights"] "cheapest_kept" (spCk T) 82) (GE:Fns P' w K mg base ["script","k"] "_law_cell" (a6M K) 82) (GN:b0x P' w K mg base ["prices","weights","number"] "numbered" (spNum CB) 82) (GR:Fns P' w K mg base PRg "_law_right" a9W 82) (GS:Fns P' w K mg base ["words"] "_law_spelling" a9V 82)
  (mB:mg "BadNumber"=some (.ref CB)) (xB:XC K CB) (ml:mg "len"=none) (mr:mg "range"=none) (mx:mg "max"=none) (mn:mg "min"=none):a0M P' w K mg base CX0 83 e ed ["script"] (b1E K T):=by
 refine F.ok (k:=82) a7c (λvs H Q E h=>?_) (λcdv A outer s H vs Q E hr h=>?_)
 ·obtain ⟨a,ns,rfl,_⟩:=h;rfl
 obtain ⟨a,ns,rfl,hS,h63,tab,q⟩:=h;refine ⟨_,a0c (a2C (pcF GI hr (a0a (pv 0) a0d)) (a4M rfl (a1i (pgA (i:=1) a7c) (a1i (pgA (i:=2) a7c) a2R))))
  (a0c (psA (i:=3) a7c (pcF GM hr (a0a (pv 1) (a0a (pv 2) a0d))))
  (a0c (a0W (PW.pt (a4L (a1K (a2c (pcF GW hr (a0a (pv 3) a0d)))) (a2P (a0r a3s (pv 3) a0e (nomark _))))) (a0h (a0o a3r)) a0u)
  (a0c (psA (i:=4) a7c (pcF GC hr (a0a (pv 1) (a0a (pv 2) (a0a (pxA a0y (pcF GK hr (a0a (pv 1) (a0a (pv 2) a0d))) a0e) a0d)))))
  (a0c (psA (i:=5) a7c (a0X (a0a (a0l a1k (pv 3) a0e) (a0a (a0l a1e (pcF GE hr (a0a (pv 0) (a0a a0e a0d))) (pv 3)) a0d))))
  (a0c (a3a (a0W (a0r a7O (pln ml (pv 2)) a0e (nomark _)) (a0h (psA (i:=5) a7c (a0X (a0a (a0l a1k (pv 3) a0e) a0d)))) a0u))
  (a0c (a3a (a0W (a0r a3s (pln ml (pv 2)) a0e (nomark _)) (a0c (psA (i:=5) a7c (a0l a8b (pv 5) (a0X (a0a a0e (a0a (a0G (a4P rfl) (by rfl) mx b_max (a0a a0e (a0a (a0l a1k (pv 3) a0e) a0d))) a0d))))) (a0h (psA (i:=5) a7c (a0l a8b (pv 5) (a1s (M:=NLw) rfl (cso (a0g b0b) NLw) ndLw rfl (by rfl) mr (a0a (a5c (a0G (a4P rfl) (by rfl) mx b_max (a0a a0e (a0a (a0G (a7P rfl) (by rfl) mn b_min (a0a a0e (a0a (a0l a1k (pln ml (pv 0)) a0e) a0d))) a0d)))) a0d) (a0U a6v a1y) (λcl C s0 H0 fp=>⟨a0L,a0l a1e (pcF GE hr (a0a (pv 1) (a0a (a0l a0t a0e (pv 0)) a0d))) (pv 4)⟩)))))) a0u))
  (a0c (a1n PassesOwn.never rfl (a2S (pv 5)) (pgA (i:=6) a7c)
   (a0c (psA (i:=7) a7c (a0Z GN.ok hr (by rfl) GN.m GN.kp GN.b .nil b3h (a0a (pv 1) (a0a (pv 2) (a0a (pv 6) a0d)))))
   (a0c (a0W (a1K (a2c (pcF GR hr (a0a (pv 1) (a0a (pv 2) (a0a (pv 6) (a0a (pv 7) (a0a (pv 4) a0d)))))))) (a0h (a0o a3r)) a0u)
   (a0h (a0W (a0r a3s (a0l a0t (pv 6) a0e) (pv 3) (nomark _))
    (a0c (psA (i:=8) a7c (a0Z GN.ok hr (by rfl) GN.m GN.kp GN.b .nil b3h (a0a (pv 1) (a0a (pv 2) (a0a (a0l a0t (pv 6) a0e) a0d)))))
    (a0h (a0W (a1K (a0r (b4s (hu4 hr)) (pcF GS hr (a0a (pv 7) a0d)) (pcF GS hr (a0a (pv 8) a0d)) (nomark _))) (a0h (a0o a3r)) a0u)))
    a0u)))))
  (a0c (psA (i:=9) a7c a3r)
  (a0c (b4x ⟨rfl,rfl⟩ (λpn xe Ex hx=>a0h (a1h (b0w GN.ok hr (by rfl) GN.m GN.kp GN.b hx (a0a (pv 1) (a0a (pv 2) (a0a (pv 3) a0d)))))) (λea=>a0h (psA (i:=9) a7c a3r)) (by rfl) mB xB.h)
  (a0h (a0o (pv 9)))))))))))),?_⟩
 refine ⟨_,rfl,a,ns,rfl,hS,λr p q' H1 ps ws s1 hr1 hp hq bp bw il n1=>?_⟩;obtain ⟨L2',L6,m24⟩:=id il;refine ⟨r,_,rfl,SqT.of hr1,rfl,_,_,rfl,_,_,rfl,rfl,?_⟩;have nu:Num ps ws:=⟨L2',by omega,n1,m24,(λx hx=>⟨by have:=bp x hx;omega,(bp x hx).2⟩),(λx hx=>⟨by have:=bw x hx;omega,(bw x hx).2⟩)⟩
 have i2:In2 H1 p q' ps ws:=⟨hp,hq,nu,(λx hx=>(bp x hx).1),(λx hx=>(bw x hx).1),il⟩
 have tab1:=a1q.same s1 tab;have hS1:=s1.seq hS;refine ⟨_,rfl,_,rfl,p,q',ps,ws,rfl,i2,λH2 s2=>?_⟩;obtain ⟨many,em⟩:∃ many,many=(chp ps ws).length:=⟨_,rfl⟩
 rw [<-em];have i22:=i2.same s2;have tab2:=a1q.same s2 tab1;have hS2:=s2.seq hS1;have many1:1<=many:=by rw [em];exact List.length_pos_iff.mpr (chp_ne il n1)
 refine ⟨_,rfl,(many:Int),rfl,_,rfl,a3G ⟨_,rfl,_,_,rfl,rfl,_,rfl,?_⟩⟩;rw [decide_eq_false (by omega)];refine a3G ?_;refine ⟨_,rfl,_,rfl,_,rfl,_,rfl,p,q',ps,ws,rfl,i22.hp,i22.hq,nu,i2.pp,i2.pw,tab2,λra ca dd rra h t F2 cde H3 sT tT fnd=>?_⟩;obtain ⟨qs,hT⟩:=a1q.tb tab2;have hp3:=sT _ _ (a0q i22.hp hT (by intro z;cases z)) i22.hp;have hq3:=sT _ _ (a0q i22.hq hT (by intro z;cases z)) i22.hq;have hS3:=sqL_T hT sT hS2;have i23:In2 H3 p q' ps ws:=⟨hp3,hq3,nu,i2.pp,i2.pw,il⟩
 obtain ⟨xs,hca,hcx⟩:=fnd.cd;have kcl:=(a9y fnd.T (by omega) fnd.ok.k)
 refine ⟨ra,_,_,_,rfl,rfl,SqT.of fnd.o,rfl,true,p,q',ca,ps,ws,xs,cde,rfl,hp3,hq3,hca,hcx,by rw [fnd.ok.ln];omega,by rw [fnd.ok.ln];omega,λu hu=>⟨kcl.2.2.1 u hu,by have:=fnd.ok.wd u hu;omega⟩,(λx hx=>⟨by have:=bp x hx;omega,(bp x hx).2⟩),(λx hx=>⟨by have:=bw x hx;omega,(bw x hx).2⟩),λH4 s4=>?_⟩;have eco:=λc hc=>ch_co (c:=c) fnd.T (by omega) n1 fnd.ok.k hc;obtain ⟨due,ed'⟩:∃ due,due=CT.co ps ws 0 cde:=⟨_,rfl⟩
 rw [<-ed'] at eco ⊢;have i24:=i23.same s4;have hS4:=s4.seq hS3;clear fnd kcl hca hcx sT tT hT;have sub1:∀ {ks ls:List Int},(∀ x∈ks,0<=x/\x < (many:Int))->(∀ x∈ls,0<=x/\x < (many:Int))->∀ x∈ks++ls,0<=x/\x < (many:Int):=λh1 h2 x hx=>(List.mem_append.mp hx).elim (h1 x) (h2 x);have md:∀ z:Int,0<=z % (many:Int)/\z % (many:Int) < (many:Int):=λz=>⟨Int.emod_nonneg _ (by omega),Int.emod_lt_of_pos _ (by omega)⟩
 refine ⟨_,rfl,_,_,rfl,rfl,_,rfl,a,ns,30,rfl,hS4,by decide,by decide,λcl cl0=>?_⟩;refine ⟨_,rfl,_,_,rfl,rfl,(by show (0:Int) < _;omega),(by show 2<=sizeLine;decide),λd0 hd0=>?_⟩;have s5:=a0f hd0 (.lst [.int ((many:Int) - 1),.int (cl % (many:Int))]);have g5:upd H4 d0 (.lst [.int ((many:Int) - 1),.int (cl % (many:Int))]) d0=some (.lst (([(many:Int) - 1,cl % (many:Int)]:List Int).map V.int)):=a0b;generalize upd H4 d0 (.lst [.int ((many:Int) - 1),.int (cl % (many:Int))])=H5 at s5 g5 ⊢;refine ⟨λσ' H'=>a0p H4 H'/\∃ (d:Addr) (ks:List Int),H' d=some (.lst (ks.map V.int))/\(∀ x∈ks,0<=x/\x < (many:Int))/\ks.length<=2/\σ'=[some (.ref a),some (.ref p),some (.ref q'),some (.int (many:Int)),some (.int due),some (.ref d),none,none,none,none],?_,λσ6 H6 hM=>?_⟩
 ·refine ⟨_,rfl,q',_,rfl,.inr (SqT.of (s5 _ _ i24.hq)),_,_,rfl,rfl,_,rfl,a2b (λz=>?_) (λz=>?_)⟩
  ·refine ⟨_,rfl,_,_,rfl,rfl,(by show 1<=sizeLine;decide),λd1 hd1=>?_⟩;exact ⟨s5.trans (a0f hd1 _),d1,[(many:Int) - 1],a0b,λx hx=>by rw [List.mem_singleton.mp hx];omega,(by show 1<=2;decide),rfl⟩
  ·refine ⟨s5,d0,_,g5,λx hx=>?_,(by show 2<=2;decide),rfl⟩;rcases List.mem_cons.mp hx with rfl | hx
   ·omega
   ·rw [List.mem_singleton.mp hx];exact md cl
 obtain ⟨s6,d,ks,g6,ok6,l6,rfl⟩:=hM;have i26:=i24.same s6;have hS6:=s6.seq hS4;refine ⟨λσ' H'=>a0p H4 H'/\∃ (d:Addr) (ks:List Int),H' d=some (.lst (ks.map V.int))/\(∀ x∈ks,0<=x/\x < (many:Int))/\σ'=[some (.ref a),some (.ref p),some (.ref q'),some (.int (many:Int)),some (.int due),some (.ref d),none,none,none,none],?_,λσ7 H7 hM=>?_⟩
 ·refine ⟨_,rfl,q',_,rfl,.inr (SqT.of i26.hq),_,_,rfl,rfl,_,rfl,a2b (λz=>?_) (λz=>⟨s6,d,ks,g6,ok6,rfl⟩)⟩;refine ⟨_,rfl,_,rfl,_,_,rfl,rfl,_,_,rfl,(by show 2<=sizeLine;decide),λd1 hd1=>?_⟩;have mx2:0<=(if (many:Int) - 2 > 0 then (many:Int) - 2 else 0)/\(if (many:Int) - 2 > 0 then (many:Int) - 2 else 0) < (many:Int):=by split <;> omega
  generalize (if (many:Int) - 2 > 0 then (many:Int) - 2 else 0)=m2 at mx2 ⊢;have s7:=a0f hd1 (.lst [.int 0,.int m2]);have g7:upd H6 d1 (.lst [.int 0,.int m2]) d1=some (.lst (([0,m2]:List Int).map V.int)):=a0b;generalize upd H6 d1 (.lst [.int 0,.int m2])=H7 at s7 g7 ⊢;refine ⟨d,d1,_,_,rfl,rfl,s7 _ _ g6,g7,Nat.le_of_lt (a0m (by rw [List.length_map,List.length_map];show ks.length+2<=1000;omega)),λd2 hd2=>?_⟩;rw [<-List.map_append];have s8:=a0f hd2 (.lst ((ks++[0,m2]).map V.int));have g8:upd H7 d2 (.lst ((ks++[0,m2]).map V.int)) d2=some (.lst ((ks++[0,m2]).map V.int)):=a0b;generalize upd H7 d2 (.lst ((ks++[0,m2]).map V.int))=H8 at s8 g8 ⊢;have s68:=s7.trans s8;have hS8:=s68.seq hS6;have ok8:=sub1 ok6 (ls:=[0,m2]) λx hx=>by
   rcases List.mem_cons.mp hx with rfl | hx
   ·omega
   ·rw [List.mem_singleton.mp hx];exact mx2
  have l8:(ks++[0,m2]).length<=4:=by rw [List.length_append];show ks.length+2<=4;omega
  generalize ks++[0,m2]=ks8 at g8 ok8 l8;refine ⟨_,rfl,λv H'=>∃ n:Nat,v=.int (n:Int)/\n<=4/\H8=H',?_,λv H' hv=>?_⟩
  ·refine ⟨_,rfl,a,_,rfl,.inl hS8,_,_,rfl,rfl,_,_,rfl,_,_,rfl,?_⟩;refine ⟨(if (if ((ns.map V.int).length:Int) - 31 < 4 then ((ns.map V.int).length:Int) - 31 else 4) > 1 then (if ((ns.map V.int).length:Int) - 31 < 4 then ((ns.map V.int).length:Int) - 31 else 4) else 1).toNat,?_,?_,rfl⟩
   ·congr 1;split <;> omega
   ·split <;> (try split) <;> omega
  obtain ⟨n,rfl,n4,rfl⟩:=hv;refine ⟨_,rfl,by omega,by omega,λe he=>?_⟩;rw [Int.toNat_natCast];refine ⟨λi H'=>a0p H8 H'/\∃ ls:List Int,H' e=some (.lst (ls.map V.int))/\ls.length=i/\∀ x∈ls,0<=x/\x < (many:Int),⟨a0f he _,[],a0b,rfl,λx hx=>by cases hx⟩,λi H' hi hP=>?_,λH9 hP=>?_⟩
  ·obtain ⟨s9,ls,g9,l9,ok9⟩:=hP;refine a0E ⟨_,rfl,_,rfl,_,_,rfl,rfl,a,ns,31+(0+(i:Int)),rfl,s9.seq hS8,by omega,by omega,λc2 c20=>?_⟩;refine ⟨_,rfl,_,_,rfl,rfl,(by show (0:Int) < _;omega),_,g9,a0m (by rw [List.length_map];omega),a0n he s9,ls++[c2 % (many:Int)],by rw [a0b,List.map_append];rfl,by rw [List.length_append,l9];rfl,sub1 ok9 λx hx=>by rw [List.mem_singleton.mp hx];exact md c2⟩
  obtain ⟨s9,ls,g9,l9,ok9⟩:=hP;refine ⟨d2,e,_,_,rfl,rfl,s9 _ _ g8,g9,Nat.le_of_lt (a0m (by rw [List.length_map,List.length_map];omega)),λd3 hd3=>?_⟩;rw [<-List.map_append];exact ⟨s6.trans (s68.trans (s9.trans (a0f hd3 _))),d3,ks8++ls,a0b,sub1 ok8 ok9,rfl⟩
 obtain ⟨s7,d,ks,g7,ok7,rfl⟩:=hM;have i27:=i24.same s7;have hS7:=s7.seq hS4;clear s6 g6 ok6 l6 i26 hS6 s5 g5;refine ⟨_,rfl,d,rfl,⟨_,SqL.of g7⟩,?_⟩;refine a3Z (K:=K) (xs:=ks.map V.int) (λi σ H'=>a0p H7 H'/\∃ x6 x7 x8:Option V,σ=[some (.ref a),some (.ref p),some (.ref q'),some (.int (many:Int)),some (.int due),some (.ref d),x6,x7,x8,none]) ⟨a0p.refl _,_,_,_,rfl⟩ (λi σ H' _ hP=>SqL.of (hP.1 _ _ g7)) (λi x σ H8 hx hP=>?_) (λσ H8 hP=>?_)
 ·obtain ⟨s8,x6,x7,x8,rfl⟩:=hP;rw [List.getElem?_map] at hx;obtain ⟨y,hy,rfl⟩:=Option.map_eq_some_iff.mp hx;obtain ⟨y0,y1⟩:=ok7 y (List.mem_of_getElem? hy);have i28:=i27.same s8;refine ⟨_,rfl,_,rfl,_,rfl,p,q',ps,ws,y,rfl,i28,λk cde ek hk dc xc H9 s9 hd9 hw9=>?_,λz=>absurd ⟨y0,by rw [<-em];exact y1⟩ z⟩;subst ek;have i29:=i28.same s9;have hm:=List.mem_of_getElem? hk;have ch:=b4w n1 m24 hm;refine ⟨_,rfl,_,rfl,_,rfl,_,rfl,_,rfl,p,q',dc,ps,ws,xc,cde,k,due,rfl,i29,hd9,hw9,hk,(eco cde hm).symm,λH10 s10=>⟨_,rfl,a3G ?_⟩⟩;have s810:=s9.trans s10;have hd10:=s10 _ _ hd9;have hw10:=Ws.same s10 hw9;refine ⟨_,rfl,_,_,rfl,rfl,_,rfl,_,_,rfl,rfl,_,rfl,a2b (λz=>?_) (λz=>⟨s8.trans s810,_,_,_,rfl⟩)⟩;have z1:((k:Int)+1) < (many:Int):=of_decide_eq_true z;have i210:=i29.same s10;refine ⟨_,rfl,_,rfl,_,rfl,_,_,rfl,rfl,p,q',ps,ws,(k:Int)+1,rfl,i210,λk2 cd2 ek2 hk2 d2 x2 H11 s11 hd11 hw11=>?_,λy=>absurd ⟨by omega,by rw [<-em];exact z1⟩ y⟩;have e2:k2=k+1:=by omega
  subst e2;have ch2:=b4w n1 m24 (List.mem_of_getElem? hk2);have sl:=ch_lt n1 m24 hk hk2;obtain ⟨pp,a1,b1,st1,st2,ea,eb,lt⟩:=sl;refine ⟨_,rfl,dc,xc,cde,24,rfl,s11 _ _ hd10,Ws.same s11 hw10,ch.ne,by rw [ch.ln];exact m24,λu hu=>by have:=(ch.wd u hu).1;omega,ch.sz,λe1 ys1 H12 s12 g12 pr12=>?_⟩;refine ⟨_,rfl,d2,x2,cd2,24,rfl,s12 _ _ hd11,Ws.same s12 hw11,ch2.ne,by rw [ch2.ln];exact m24,λu hu=>by have:=(ch2.wd u hu).1;omega,ch2.sz,λe2 ys2 H13 s13 g13 pr13=>?_⟩;rw [ea] at pr12;rw [eb] at pr13;refine ⟨e1,e2,ys1,ys2,pp,st1,st2,a1,b1,rfl,rfl,s13 _ _ g12,g13,Paired.mapP pr12 λ_ _ r=>r.same s13,pr13,lt,_,rfl,a3G ⟨s8.trans (s810.trans (s11.trans (s12.trans s13))),_,_,_,rfl⟩⟩
 obtain ⟨s8,x6,x7,x8,rfl⟩:=hP;have i28:=i27.same s8;refine ⟨_,rfl,_,rfl,_,rfl,p,q',ps,ws,(many:Int),rfl,i28,λk cde ek hk=>?_,λ_ H9 s9=>⟨CB,rfl,xB.sf,λea hea=>⟨_,rfl,q _⟩⟩⟩;have:=(List.getElem?_eq_some_iff.mp hk).1;omega
end
theorem al1 {α:Type} {P:List α->Prop} (h:∀ a0:α,P [a0]):∀ us:List α,us.length=1->P us
 | [a0],_=>h a0
theorem al2 {α:Type} {P:List α->Prop} (h:∀ a0 a1:α,P [a0,a1]):∀ us:List α,us.length=2->P us
 | [a0,a1],_=>h a0 a1
theorem al3 {α:Type} {P:List α->Prop} (h:∀ a0 a1 a2:α,P [a0,a1,a2]):∀ us:List α,us.length=3->P us
 | [a0,a1,a2],_=>h a0 a1 a2
theorem al4 {α:Type} {P:List α->Prop} (h:∀ a0 a1 a2 a3:α,P [a0,a1,a2,a3]):∀ us:List α,us.length=4->P us
 | [a0,a1,a2,a3],_=>h a0 a1 a2 a3
theorem al5 {α:Type} {P:List α->Prop} (h:∀ a0 a1 a2 a3 a4:α,P [a0,a1,a2,a3,a4]):∀ us:List α,us.length=5->P us
 | [a0,a1,a2,a3,a4],_=>h a0 a1 a2 a3 a4
theorem al6 {α:Type} {P:List α->Prop} (h:∀ a0 a1 a2 a3 a4 a5:α,P [a0,a1,a2,a3,a4,a5]):∀ us:List α,us.length=6->P us
 | [a0,a1,a2,a3,a4,a5],_=>h a0 a1 a2 a3 a4 a5
structure FQ (K:PySem.W.Frag) (mg:Str->Option Value) (x:Str) (st:Stmt) (f:Addr) (fd:FuncData):Prop where
 F:Fun K x x st f fd
 m:mg x=some (.ref f)
 k:PySem.W.keepIn K (.ref f)=true
def fnE (K:PySem.W.Frag) (x:Str) (st:Stmt):Prop:=∃ (f:Addr) (oc kV doc pm cd ct:Value) (od an:Option Addr) (sl:Array (Option Value)),PySem.W.nsIn K mainGlobals x=some (some (.ref f))/\K.lookup f=some ⟨oc,od,.func (PySem.W.fnOf x x (a0T st) (a0D st) (a0g st) .none kV doc pm an cd ct),sl⟩/\PySem.W.codeIn K cd x=true/\PySem.W.keepIn K (.ref f)=true
theorem fnE.mk {K:PySem.W.Frag} {x:Str} {st:Stmt} {f:Addr} {oc kV doc pm cd ct:Value} {od an:Option Addr} {sl:Array (Option Value)} (h1:PySem.W.nsIn K mainGlobals x=some (some (.ref f))) (h2:K.lookup f=some ⟨oc,od,.func (PySem.W.fnOf x x (a0T st) (a0D st) (a0g st) .none kV doc pm an cd ct),sl⟩) (h3:PySem.W.codeIn K cd x=true) (h4:PySem.W.keepIn K (.ref f)=true):fnE K x st:=⟨f,oc,kV,doc,pm,cd,ct,od,an,sl,h1,h2,h3,h4⟩
theorem fnE.get {K:PySem.W.Frag} {x:Str} {st:Stmt} {h:Heap} {mg:Str->Option Value} (X:K.In h) (G:h.Ns mainGlobals mg) (p:fnE K x st):∃ f fd,FQ K mg x st f fd:=by
 obtain ⟨f,oc,kV,doc,pm,cd,ct,od,an,sl,h1,h2,h3,h4⟩:=p;exact ⟨f,_,a6q h2 h3 h4,PySem.W.mg_of X G h1,h4⟩
def a1g {P:Program} {w:World} {K:PySem.W.Frag} {mg:Str->Option Value} {base:Heap} {x:Str} {st:Stmt} {f:Addr} {fd:FuncData} {ps:List Str} {sp:Sp} {k:Nat} (q:FQ K mg x st f fd) (ok:a0M P w K mg base CX0 k f fd ps sp)
  (h:∀ (kV doc pm:Value) (an:Option Addr) (cdv ct:Value) (us:List Value),us.length=ps.length->bindArgs (PySem.W.fnOf x x (a0T st) (a0D st) (a0g st) .none kV doc pm an cdv ct) ⟨us,[]⟩=pure (ps.zip us)):Fns P w K mg base ps x sp k:=⟨f,fd,ok,q.F.binds h,q.k,q.m⟩
def fnC (K:PySem.W.Frag) (x:Str) (st:Stmt) (T:Addr):Prop:=∃ (f c:Addr) (oc kV doc pm ct:Value) (od an:Option Addr) (sl:Array (Option Value)),PySem.W.nsIn K mainGlobals x=some (some (.ref f))/\K.lookup f=some ⟨oc,od,.func (PySem.W.fnOf x x (a0T st) (a0D st) (a0g st) .none kV doc pm an (.ref c) ct),sl⟩/\PySem.W.codeIn K (.ref c) x=true/\PySem.W.keepIn K (.ref f)=true/\PySem.W.codeHdIn K c T=true
theorem fnC.mk {K:PySem.W.Frag} {x:Str} {st:Stmt} {f c T:Addr} {oc kV doc pm ct:Value} {od an:Option Addr} {sl:Array (Option Value)} (h1:PySem.W.nsIn K mainGlobals x=some (some (.ref f))) (h2:K.lookup f=some ⟨oc,od,.func (PySem.W.fnOf x x (a0T st) (a0D st) (a0g st) .none kV doc pm an (.ref c) ct),sl⟩) (h3:PySem.W.codeIn K (.ref c) x=true) (h4:PySem.W.keepIn K (.ref f)=true) (h5:PySem.W.codeHdIn K c T=true):fnC K x st T:=⟨f,c,oc,kV,doc,pm,ct,od,an,sl,h1,h2,h3,h4,h5⟩
theorem fnC.get {K:PySem.W.Frag} {x:Str} {st:Stmt} {T:Addr} {h:Heap} {mg:Str->Option Value} (X:K.In h) (G:h.Ns mainGlobals mg) (p:fnC K x st T):∃ f fd c,FQ K mg x st f fd/\fd.code=.ref c/\PySem.W.codeHdIn K c T=true:=by
 obtain ⟨f,c,oc,kV,doc,pm,ct,od,an,sl,h1,h2,h3,h4,h5⟩:=p;exact ⟨f,_,c,⟨a6q h2 h3 h4,PySem.W.mg_of X G h1,h4⟩,rfl,h5⟩
def mtE (K:PySem.W.Frag) (C:Addr) (n x:Str) (st:Stmt):Prop:=∃ (f:Addr) (oc kV doc pm cd ct:Value) (od an:Option Addr) (sl:Array (Option Value)),PySem.W.findIn K (.ref C) x=some (some (.ref f))/\PySem.W.isFn K (.ref f)=true/\K.lookup f=some ⟨oc,od,.func (PySem.W.fnOf x n (a0T st) (a0D st) (a0g st) .none kV doc pm an cd ct),sl⟩/\PySem.W.codeIn K cd n=true/\PySem.W.keepIn K (.ref f)=true
theorem mtE.mk {K:PySem.W.Frag} {C:Addr} {n x:Str} {st:Stmt} {f:Addr} {oc kV doc pm cd ct:Value} {od an:Option Addr} {sl:Array (Option Value)} (h1:PySem.W.findIn K (.ref C) x=some (some (.ref f))) (h0:PySem.W.isFn K (.ref f)=true) (h2:K.lookup f=some ⟨oc,od,.func (PySem.W.fnOf x n (a0T st) (a0D st) (a0g st) .none kV doc pm an cd ct),sl⟩) (h3:PySem.W.codeIn K cd n=true) (h4:PySem.W.keepIn K (.ref f)=true):mtE K C n x st:=⟨f,oc,kV,doc,pm,cd,ct,od,an,sl,h1,h0,h2,h3,h4⟩
theorem mtE.get {K:PySem.W.Frag} {C:Addr} {n x:Str} {st:Stmt} (p:mtE K C n x st):∃ f fd,Fun K x n st f fd/\PySem.W.findIn K (.ref C) x=some (some (.ref f))/\PySem.W.isFn K (.ref f)=true/\PySem.W.keepIn K (.ref f)=true:=by
 obtain ⟨f,oc,kV,doc,pm,cd,ct,od,an,sl,h1,h0,h2,h3,h4⟩:=p;exact ⟨f,_,a6q h2 h3 h4,h1,h0,h4⟩
def b1F {P:Program} {w:World} {K:PySem.W.Frag} {mg:Str->Option Value} {base:Heap} {C:Addr} {x n:Str} {st:Stmt} {f:Addr} {fd:FuncData} {ps:List Str} {sp:Sp} {k:Nat} (F:Fun K x n st f fd) (m:Meth K C x f) (ok:a0M P w K mg base CX0 k f fd ps sp)
  (h:∀ (kV doc pm:Value) (an:Option Addr) (cdv ct:Value) (us:List Value),us.length=ps.length->bindArgs (PySem.W.fnOf x n (a0T st) (a0D st) (a0g st) .none kV doc pm an cdv ct) ⟨us,[]⟩=pure (ps.zip us)):Mt P w K mg base C x ps sp k:=⟨f,fd,m,ok,F.binds h⟩
def a5A {P:Program} {w:World} {K:PySem.W.Frag} {mg:Str->Option Value} {base:Heap} {x:Str} {st:Stmt} {f:Addr} {fd:FuncData} {ps:List Str} {sp:Sp} {k:Nat} (q:FQ K mg x st f fd) (ok:a0M P w K mg base (CXF P w) k f fd ps sp)
  (h:∀ (kV doc pm:Value) (an:Option Addr) (cdv ct:Value) (us:List Value),us.length=ps.length->bindArgs (PySem.W.fnOf x x (a0T st) (a0D st) (a0g st) .none kV doc pm an cdv ct) ⟨us,[]⟩=pure (ps.zip us)):b0x P w K mg base ps x sp k:=⟨f,fd,ok,q.F.binds h,q.k,q.m⟩
theorem all_mk {T C D TW TU TN TB:Addr} {ts:List Addr} (hT:T∈ts) {l:PySem.W.OpenLaw} {w:World} {K:PySem.W.Frag} {h:Heap} {mg:Str->Option Value} {fa fl:Addr} (X:K.In h) (G:h.Ns mainGlobals mg) (hfa:mg "law"=some (.ref fa))
  (gC:PySem.W.nsIn K mainGlobals "Parted"=some (some (.ref C))) (gD:PySem.W.nsIn K mainGlobals "Counts"=some (some (.ref D)))
  (p0:fnE K "weight_sums" b3t) (p1:fnE K "row_with" sRow) (p2:fnE K "square" a4h) (p3:fnE K "least" a6D) (p4:fnE K "added" a8C) (p5:fnE K "parted_least" sPl) (p6:fnE K "parted_words" sPw) (p7:fnE K "has_letters_alone" a6E) (p8:fnE K "word_price" a4i) (p9:fnE K "begins" a5S) (p10:fnE K "many_cheapest" b3u) (p11:fnE K "clash" a8D) (p12:fnE K "rises" a6F) (p13:fnE K "is_kept" a5T) (p14:fnE K "cost" a6G) (p15:fnE K "least_floors" sLf) (p16:fnE K "cheapest_kept" sCk) (p17:fnE K "is_cheapest_kept" sIck) (p18:fnE K "numbered" sNum) (p19:fnE K "words_by" sWb) (p20:fnE K "tail_words" sTw) (p21:fnE K "number_of" sNo) (p22:fnE K "number_of_words" sNw) (p23:fnE K "number_of_tail" sNt) (p24:fnE K "way_of" sWo) (p25:fnE K "_law_cell" b3v) (p26:fnE K "_law_number" a5U) (p27:fnE K "_law_numbers" a4j) (p28:fnE K "_law_input" a2F) (p29:fnE K "_law_whole" a8E) (p30:fnE K "_law_is_word" a4k) (p31:fnE K "_law_is_code" a4l) (p32:fnE K "_law_cost" b0K) (p33:fnE K "_law_lean" a7w) (p34:fnE K "_law_spelling" a8F) (p35:fnE K "_law_right" a8G)
  (t0:fnC K "kept_words" sKw T)
  (yI:mtE K C "Parted.__init__" "__init__" a3j) (yP:mtE K C "Parted.put" "put" sPut) (yL:mtE K C "Parted.least_sum" "least_sum" sLs) (yB:mtE K C "Parted.bound" "bound" a6H) (yR:mtE K C "Parted.bound_row" "bound_row" b0L) (yS:mtE K C "Parted.bounds" "bounds" a4m) (yW:mtE K C "Parted.ways" "ways" b3w) (yJ:mtE K D "Counts.__init__" "__init__" a4n) (yQ:mtE K D "Counts.put_counts" "put_counts" b3x) (yO:mtE K D "Counts.over_ways" "over_ways" b0M) (yY:mtE K D "Counts.by_way" "by_way" sBy)
  (z0:PySem.W.nsIn K mainGlobals "len"=some none) (z1:PySem.W.nsIn K mainGlobals "range"=some none) (z2:PySem.W.nsIn K mainGlobals "tuple"=some none) (z3:PySem.W.nsIn K mainGlobals "sum"=some none) (z4:PySem.W.nsIn K mainGlobals "sorted"=some none) (z5:PySem.W.nsIn K mainGlobals "min"=some none) (z6:PySem.W.nsIn K mainGlobals "zip"=some none) (z7:PySem.W.nsIn K mainGlobals "all"=some none) (z8:PySem.W.nsIn K mainGlobals "isinstance"=some none) (z9:PySem.W.nsIn K mainGlobals "int"=some none) (z10:PySem.W.nsIn K mainGlobals "bool"=some none) (z11:PySem.W.nsIn K mainGlobals "list"=some none) (z12:PySem.W.nsIn K mainGlobals "set"=some none) (z13:PySem.W.nsIn K mainGlobals "max"=some none)
  (pgC:PySem.W.plainGet K C Str.empty=true) (hdC:PySem.W.hasDictIn K C=true) (poC:PySem.W.plainOver K C=true) (saC:PySem.W.findIn K (.ref C) "__setattr__"=some (some (.builtin "object.__setattr__"))) (mkC:PySem.W.makesIn K C=true) (kcC:PySem.W.keepIn K (.ref C)=true) (naC0:PySem.W.findIn K (.ref C) "prices"=some none) (naC1:PySem.W.findIn K (.ref C) "things"=some none) (naC2:PySem.W.findIn K (.ref C) "sums"=some none) (naC3:PySem.W.findIn K (.ref C) "heads"=some none) (naC4:PySem.W.findIn K (.ref C) "tails"=some none) (pgD:PySem.W.plainGet K D Str.empty=true) (hdD:PySem.W.hasDictIn K D=true) (poD:PySem.W.plainOver K D=true) (saD:PySem.W.findIn K (.ref D) "__setattr__"=some (some (.builtin "object.__setattr__"))) (mkD:PySem.W.makesIn K D=true) (kcD:PySem.W.keepIn K (.ref D)=true) (naD0:PySem.W.findIn K (.ref D) "parted"=some none) (naD1:PySem.W.findIn K (.ref D) "letters"=some none) (naD2:PySem.W.findIn K (.ref D) "codes"=some none) (naD3:PySem.W.findIn K (.ref D) "tails"=some none)
  (gTW:PySem.W.nsIn K mainGlobals "BadWord"=some (some (.ref TW))) (gTU:PySem.W.nsIn K mainGlobals "Unlike"=some (some (.ref TU))) (gTN:PySem.W.nsIn K mainGlobals "NotCheapest"=some (some (.ref TN))) (gTB:PySem.W.nsIn K mainGlobals "BadNumber"=some (some (.ref TB))) (eTW:PySem.W.excIn K TW b4A a5O=true) (eTU:PySem.W.excIn K TU b4A a5O=true) (eTN:PySem.W.excIn K TN b4A a5O=true) (eTB:PySem.W.excIn K TB b4A a5O=true) (xTB:xcIn K TB=true)
  {oc kV dc pm cd ct:Value} {od an:Option Addr} {sl:Array (Option Value)} (a1:PySem.W.nsIn K mainGlobals "law"=some (some (.ref fl))) (l1:K.lookup fl=some ⟨oc,od,.func (PySem.W.fnOf "law" "law" (a0T b0b) (a0D b0b) (a0g b0b) .none kV dc pm an cd ct),sl⟩) (c1:PySem.W.codeIn K cd "law"=true) (k1:PySem.W.keepIn K (.ref fl)=true) :
  ∃ fd:FuncData,(∀ (s:Shared) (v:Value),BindsTo s fd ⟨[v],[]⟩ [("script",v)])/\∀ base:Heap,K.In base->base.Ns mainGlobals mg->(∃ bm,L2.BMod mg base ts bm)->a0M l.prog w K mg base CX0 83 fa fd ["script"] (b1E K T):=by
 have e:=hfa.symm.trans (PySem.W.mg_of X G a1);cases e;have FL0:=a6q (st:=b0b) l1 c1 k1;obtain ⟨f0,d0,q0⟩:=p0.get X G;obtain ⟨f1,d1,q1⟩:=p1.get X G;obtain ⟨f2,d2,q2⟩:=p2.get X G;obtain ⟨f3,d3,q3⟩:=p3.get X G;obtain ⟨f4,d4,q4⟩:=p4.get X G;obtain ⟨f5,d5,q5⟩:=p5.get X G;obtain ⟨f6,d6,q6⟩:=p6.get X G;obtain ⟨f7,d7,q7⟩:=p7.get X G;obtain ⟨f8,d8,q8⟩:=p8.get X G;obtain ⟨f9,d9,q9⟩:=p9.get X G;obtain ⟨f10,d10,q10⟩:=p10.get X G;obtain ⟨f11,d11,q11⟩:=p11.get X G;obtain ⟨f12,d12,q12⟩:=p12.get X G;obtain ⟨f13,d13,q13⟩:=p13.get X G;obtain ⟨f14,d14,q14⟩:=p14.get X G;obtain ⟨f15,d15,q15⟩:=p15.get X G;obtain ⟨f16,d16,q16⟩:=p16.get X G;obtain ⟨f17,d17,q17⟩:=p17.get X G;obtain ⟨f18,d18,q18⟩:=p18.get X G;obtain ⟨f19,d19,q19⟩:=p19.get X G;obtain ⟨f20,d20,q20⟩:=p20.get X G;obtain ⟨f21,d21,q21⟩:=p21.get X G;obtain ⟨f22,d22,q22⟩:=p22.get X G;obtain ⟨f23,d23,q23⟩:=p23.get X G;obtain ⟨f24,d24,q24⟩:=p24.get X G;obtain ⟨f25,d25,q25⟩:=p25.get X G;obtain ⟨f26,d26,q26⟩:=p26.get X G;obtain ⟨f27,d27,q27⟩:=p27.get X G;obtain ⟨f28,d28,q28⟩:=p28.get X G;obtain ⟨f29,d29,q29⟩:=p29.get X G;obtain ⟨f30,d30,q30⟩:=p30.get X G;obtain ⟨f31,d31,q31⟩:=p31.get X G;obtain ⟨f32,d32,q32⟩:=p32.get X G;obtain ⟨f33,d33,q33⟩:=p33.get X G;obtain ⟨f34,d34,q34⟩:=p34.get X G;obtain ⟨f35,d35,q35⟩:=p35.get X G;obtain ⟨g0,e0,c0,r0,h0,x0⟩:=t0.get X G;obtain ⟨mI,nI,FI,aI,iI,kI⟩:=yI.get;obtain ⟨mP,nP,FP,aP,iP,kP⟩:=yP.get;obtain ⟨mL,nL,FL,aL,iL,kL⟩:=yL.get;obtain ⟨mB,nB,FB,aB,iB,kB⟩:=yB.get;obtain ⟨mR,nR,FR,aR,iR,kR⟩:=yR.get;obtain ⟨mS,nS,FS,aS,iS,kS⟩:=yS.get;obtain ⟨mW,nW,FW,aW,iW,kW⟩:=yW.get;obtain ⟨mJ,nJ,FJ,aJ,iJ,kJ⟩:=yJ.get;obtain ⟨mQ,nQ,FQ,aQ,iQ,kQ⟩:=yQ.get;obtain ⟨mO,nO,FO,aO,iO,kO⟩:=yO.get;obtain ⟨mY,nY,FY,aY,iY,kY⟩:=yY.get;have B_len:=PySem.W.mg_none_of X G z0;have B_range:=PySem.W.mg_none_of X G z1;have B_tuple:=PySem.W.mg_none_of X G z2;have B_sum:=PySem.W.mg_none_of X G z3;have B_sorted:=PySem.W.mg_none_of X G z4;have B_min:=PySem.W.mg_none_of X G z5;have B_zip:=PySem.W.mg_none_of X G z6;have B_all:=PySem.W.mg_none_of X G z7;have B_isinstance:=PySem.W.mg_none_of X G z8;have B_int:=PySem.W.mg_none_of X G z9;have B_bool:=PySem.W.mg_none_of X G z10;have B_list:=PySem.W.mg_none_of X G z11;have B_set:=PySem.W.mg_none_of X G z12;have B_max:=PySem.W.mg_none_of X G z13;have g_TW:=PySem.W.mg_of X G gTW;have g_TU:=PySem.W.mg_of X G gTU;have g_TN:=PySem.W.mg_of X G gTN;have g_TB:=PySem.W.mg_of X G gTB;refine ⟨PySem.W.fnOf "law" "law" (a0T b0b) (a0D b0b) (a0g b0b) .none kV dc pm an cd ct,λs v=>.of_eq rfl,λbase _ _ hBM=>?_⟩;obtain ⟨bm,BM⟩:=hBM;have LC:LamC K mg base c0 T bm:=⟨x0,BM.hbm,BM.bo,BM.b1,BM.b2,BM.b3 T hT,BM.b4 T hT⟩
 have rc:PC K C:=⟨⟨pgC,hdC,poC,saC⟩,naC0,naC1,naC2,naC3,naC4⟩
 have rd:DC K D:=⟨⟨pgD,hdD,poD,saD⟩,naD0,naD1,naD2,naD3⟩
 have B_weight_sums:=a1g (P:=l.prog) (w:=w) (base:=base) q0 ((b3y q0.F).mono (show _<=2 by decide)) λ_ _ _ _ _ _=>al1 λ_=>rfl;have B_row_with:=a1g (P:=l.prog) (w:=w) (base:=base) q1 (ok_row q1.F) λ_ _ _ _ _ _=>al3 λ_ _ _=>rfl;have B_square:=a1g (P:=l.prog) (w:=w) (base:=base) q2 (a8K q2.F B_row_with B_range) λ_ _ _ _ _ _=>al2 λ_ _=>rfl;have B_least:=a1g (P:=l.prog) (w:=w) (base:=base) q3 (b0Q q3.F B_min) λ_ _ _ _ _ _=>al1 λ_=>rfl;have B_added:=a1g (P:=l.prog) (w:=w) (base:=base) q4 (b0R q4.F) λ_ _ _ _ _ _=>al2 λ_ _=>rfl;have ML:=b1F (P:=l.prog) (w:=w) (mg:=mg) (base:=base) FL ⟨aL,iL,kL⟩ (ok_ls FL B_least B_added rc B_range) λ_ _ _ _ _ _=>al5 λ_ _ _ _ _=>rfl;have MB:=b1F (P:=l.prog) (w:=w) (mg:=mg) (base:=base) FB ⟨aB,iB,kB⟩ (b0T FB (B_least.up (show _<=2 by decide)) ML rc B_len B_range) λ_ _ _ _ _ _=>al3 λ_ _ _=>rfl;have MP:=b1F (P:=l.prog) (w:=w) (mg:=mg) (base:=base) FP ⟨aP,iP,kP⟩ ((ok_put FP (B_least.up (show _<=2 by decide)) (B_added.up (show _<=2 by decide)) ML rc B_len B_range).mono (show _<=4 by decide)) λ_ _ _ _ _ _=>al4 λ_ _ _ _=>rfl;have MW:=b1F (P:=l.prog) (w:=w) (mg:=mg) (base:=base) FW ⟨aW,iW,kW⟩ (b3G FW (B_added.up (show _<=2 by decide)) rc B_len B_range) λ_ _ _ _ _ _=>al4 λ_ _ _ _=>rfl;have MY:=b1F (P:=l.prog) (w:=w) (mg:=mg) (base:=base) FY ⟨aY,iY,kY⟩ ((ok_by FY rd).mono (show _<=3 by decide)) λ_ _ _ _ _ _=>al4 λ_ _ _ _=>rfl;have MO:=b1F (P:=l.prog) (w:=w) (mg:=mg) (base:=base) FO ⟨aO,iO,kO⟩ (b3I FO MW MY rc rd B_sum) λ_ _ _ _ _ _=>al4 λ_ _ _ _=>rfl;have MQ:=b1F (P:=l.prog) (w:=w) (mg:=mg) (base:=base) FQ ⟨aQ,iQ,kQ⟩ (b3J FQ MO rd B_range) λ_ _ _ _ _ _=>al3 λ_ _ _=>rfl;have cl:Cl l.prog w K mg base C:=⟨rc,PySem.W.mg_of X G gC,_,_,⟨mkC,aI,iI,kcC⟩,b0S FI B_weight_sums B_square rc B_len B_range,FI.binds (λ_ _ _ _ _ _=>al3 λ_ _ _=>rfl)⟩
 have B_parted_least:=a1g (P:=l.prog) (w:=w) (base:=base) q5 (ok_pl q5.F cl MP (MB.up (show _<=4 by decide)) B_len B_range) λ_ _ _ _ _ _=>al2 λ_ _=>rfl;have cd:ClC l.prog w K mg base C D:=⟨rd,PySem.W.mg_of X G gD,_,_,⟨mkD,aJ,iJ,kcD⟩,b0W FJ B_parted_least (B_square.up (show _<=5 by decide)) MQ rd B_len B_range,FJ.binds (λ_ _ _ _ _ _=>al3 λ_ _ _=>rfl)⟩
 have MR:=b1F (P:=l.prog) (w:=w) (mg:=mg) (base:=base) FR ⟨aR,iR,kR⟩ (Kp.b3X FR MB rc B_range) λ_ _ _ _ _ _=>al2 λ_ _=>rfl;have MS:=b1F (P:=l.prog) (w:=w) (mg:=mg) (base:=base) FS ⟨aS,iS,kS⟩ (Kp.a9w FS MR rc B_range) λ_ _ _ _ _ _=>al1 λ_=>rfl;have OWT:=ok_wt (P':=l.prog) (w:=w) (base:=base) (C:=C) (D:=D) q19.F q20.F q19.m q19.k (q19.F.binds (λ_ _ _ _ _ _=>al4 λ_ _ _ _=>rfl)) q20.m q20.k (q20.F.binds (λ_ _ _ _ _ _=>al5 λ_ _ _ _ _=>rfl)) MW MY rc rd 76;have B_words_by:=a1g (P:=l.prog) (w:=w) (base:=base) q19 (OWT.1) λ_ _ _ _ _ _=>al4 λ_ _ _ _=>rfl;have B_many_cheapest:=a1g (P:=l.prog) (w:=w) (base:=base) q10 ((b3U q10.F cd B_len).mono (show _<=82 by decide)) λ_ _ _ _ _ _=>al2 λ_ _=>rfl;have B_numbered:=a5A (P:=l.prog) (w:=w) (base:=base) q18 (ok_nu q18.F cd B_words_by B_len B_tuple g_TB ⟨eTB⟩) λ_ _ _ _ _ _=>al3 λ_ _ _=>rfl;have B_has_letters_alone:=a1g (P:=l.prog) (w:=w) (base:=base) q7 (b1j q7.F B_all) λ_ _ _ _ _ _=>al2 λ_ _=>rfl;have B_word_price:=a5A (P:=l.prog) (w:=w) (base:=base) q8 (Kp.b1k q8.F B_has_letters_alone B_len B_sum g_TW ⟨eTW⟩) λ_ _ _ _ _ _=>al2 λ_ _=>rfl;have B_begins:=a1g (P:=l.prog) (w:=w) (base:=base) q9 (Kp.a9m q9.F B_len) λ_ _ _ _ _ _=>al2 λ_ _=>rfl;have B_clash:=a1g (P:=l.prog) (w:=w) (base:=base) q11 (Kp.b1h q11.F B_begins B_len B_range) λ_ _ _ _ _ _=>al1 λ_=>rfl;have B_rises:=a1g (P:=l.prog) (w:=w) (base:=base) q12 ((Kp.b1i q12.F B_len B_range B_all).mono (show _<=2 by decide)) λ_ _ _ _ _ _=>al1 λ_=>rfl;have B_is_kept:=a1g (P:=l.prog) (w:=w) (base:=base) q13 (Kp.b3S q13.F B_rises B_clash) λ_ _ _ _ _ _=>al1 λ_=>rfl;have B_cost:=a5A (P:=l.prog) (w:=w) (base:=base) q14 (Kp.a6a q14.F B_word_price B_len B_sum B_zip g_TU ⟨eTU⟩) λ_ _ _ _ _ _=>al3 λ_ _ _=>rfl;have B_least_floors:=a1g (P:=l.prog) (w:=w) (base:=base) q15 (Kp.ok_lf q15.F B_parted_least MS rc) λ_ _ _ _ _ _=>al2 λ_ _=>rfl;have B_is_cheapest_kept:=a5A (P:=l.prog) (w:=w) (base:=base) q17 (Kp.ok_ick q17.F (B_cost.up (show _<=6 by decide)) B_least_floors (B_is_kept.up (show _<=6 by decide))) λ_ _ _ _ _ _=>al3 λ_ _ _=>rfl;have B_way_of:=a1g (P:=l.prog) (w:=w) (base:=base) q24 (Kp.ok_wo q24.F) λ_ _ _ _ _ _=>al4 λ_ _ _ _=>rfl;have ONT:=Kp.ok_nwt (P':=l.prog) (w:=w) (base:=base) (C:=C) (D:=D) q22.F q23.F q22.m q22.k (q22.F.binds (λ_ _ _ _ _ _=>al5 λ_ _ _ _ _=>rfl)) q23.m q23.k (q23.F.binds (λ_ _ _ _ _ _=>al6 λ_ _ _ _ _ _=>rfl)) (B_way_of.up (by decide)) MW MY rc rd B_sum 76;have B_number_of_words:=a1g (P:=l.prog) (w:=w) (base:=base) q22 (ONT.1) λ_ _ _ _ _ _=>al5 λ_ _ _ _ _=>rfl;have B_number_of:=a5A (P:=l.prog) (w:=w) (base:=base) q21 (Kp.ok_no q21.F (B_is_cheapest_kept.up (show _<=80 by decide)) cd B_number_of_words B_len g_TN ⟨eTN⟩) λ_ _ _ _ _ _=>al3 λ_ _ _=>rfl;have B_kept_words:=a1g (P:=l.prog) (w:=w) (base:=base) r0 (ok_kw r0.F h0 LC r0.m r0.k (r0.F.binds (λ_ _ _ _ _ _=>al3 λ_ _ _=>rfl)) q6.F q6.m q6.k (q6.F.binds (λ_ _ _ _ _ _=>al4 λ_ _ _ _=>rfl)) MW rc 24) λ_ _ _ _ _ _=>al3 λ_ _ _=>rfl;have B_cheapest_kept:=a1g (P:=l.prog) (w:=w) (base:=base) q16 ((ok_ck (by decide) q16.F B_parted_least MS B_kept_words rc B_len B_tuple).mono (show _<=82 by decide)) λ_ _ _ _ _ _=>al2 λ_ _=>rfl;have B_law_cell:=a1g (P:=l.prog) (w:=w) (base:=base) q25 (b3K q25.F B_len) λ_ _ _ _ _ _=>al2 λ_ _=>rfl;have B_law_number:=a1g (P:=l.prog) (w:=w) (base:=base) q26 (a9d q26.F) λ_ _ _ _ _ _=>al2 λ_ _=>rfl;have B_law_numbers:=a1g (P:=l.prog) (w:=w) (base:=base) q27 (a7x q27.F B_law_cell B_law_number B_range B_tuple) λ_ _ _ _ _ _=>al4 λ_ _ _ _=>rfl;have B_law_input:=a1g (P:=l.prog) (w:=w) (base:=base) q28 ((b1q q28.F (B_law_cell.up (show _<=2 by decide)) B_law_numbers).mono (show _<=82 by decide)) λ_ _ _ _ _ _=>al1 λ_=>rfl;have B_law_whole:=a1g (P:=l.prog) (w:=w) (base:=base) q29 (b1r q29.F B_isinstance B_int B_bool) λ_ _ _ _ _ _=>al1 λ_=>rfl;have B_law_is_word:=a1g (P:=l.prog) (w:=w) (base:=base) q30 (ok_isw q30.F B_law_whole B_len B_isinstance B_tuple) λ_ _ _ _ _ _=>al1 λ_=>rfl;have B_law_is_code:=a1g (P:=l.prog) (w:=w) (base:=base) q31 ((ok_isc q31.F B_law_is_word B_len B_isinstance B_tuple).mono (show _<=81 by decide)) λ_ _ _ _ _ _=>al1 λ_=>rfl;have B_law_cost:=a1g (P:=l.prog) (w:=w) (base:=base) q32 ((a6a q32.F B_sum B_zip).mono (show _<=81 by decide)) λ_ _ _ _ _ _=>al3 λ_ _ _=>rfl;have B_law_lean:=a1g (P:=l.prog) (w:=w) (base:=base) q33 ((b4q q33.F B_len B_list B_sorted B_set).mono (show _<=81 by decide)) λ_ _ _ _ _ _=>al2 λ_ _=>rfl;have B_law_spelling:=a1g (P:=l.prog) (w:=w) (base:=base) q34 ((b1C q34.F B_len B_list).mono (show _<=82 by decide)) λ_ _ _ _ _ _=>al1 λ_=>rfl;have B_law_right:=a1g (P:=l.prog) (w:=w) (base:=base) q35 (b1D q35.F B_law_is_code B_law_lean B_law_cost B_number_of (B_law_whole.up (show _<=81 by decide)) B_len) λ_ _ _ _ _ _=>al5 λ_ _ _ _ _=>rfl;exact ok_law FL0 B_law_input B_many_cheapest (B_law_whole.up (show _<=82 by decide)) (B_law_cost.up (show _<=82 by decide)) B_cheapest_kept (B_law_cell.up (show _<=82 by decide)) (B_numbered.up (show _<=82 by decide)) B_law_right B_law_spelling g_TB (XC.of xTB) B_len B_range B_max B_min
theorem walk {l:PySem.W.OpenLaw} {q:Program} {loose:List Str} {XP:(Str->Option Value)->Heap->Prop} {YP:World->Heap->Prop} {d:DefRec} {K:Params->PySem.W.Frag} {ts:List Addr} {T:Addr} (hT:T∈ts) (hn:l.most=some 63) (hdf:d.params.defaults=[])
  (hY:∀ (w:World) (h:Heap),YP w h->(K w.params).In h/\∀ T∈ts,h.get? T=some (PySem.W.tabObj #[]))
  (hC:∀ (w:World),∀ T∈ts,(∃ c,PySem.W.codeHdIn (K w.params) c T=true)/\(K w.params).lookup T=none)
  (F:∀ (w:World) (mg:Str->Option Value) (fa:Addr) (h:Heap),(K w.params).In h->h.Ns mainGlobals mg->mg d.name=some (.ref fa) ->
   ∃ fd:FuncData,(∀ (s:Shared) (u:Value),BindsTo s fd ⟨[u],[]⟩ [("script",u)])/\∀ base:Heap,(K w.params).In base->base.Ns mainGlobals mg->(∃ bm,L2.BMod mg base ts bm)->a0M l.prog w (K w.params) mg base CX0 83 fa fd ["script"] (b1E (K w.params) T)) :
  PySem.W.WalkO q loose XP YP l.row.toRowW d [] (λf vs=>PySem.call f vs) :=
 L2.b1b (n:=63) (k:=83) (x:="script") (ts:=ts) (CX:=λ_=>CX0) (sp:=λw=>b1E (K w.params) T) hn (by decide) hdf ⟨rfl,by decide,by decide⟩ hY hC F (λ_ _ a ns hl hO hS=>⟨a,ns,rfl,hS,hl,.inl (hO T hT),λ_=>rfl⟩) λ_ _ _ _ _ z=>z
end K56
namespace PySem.W.Fast
def tw474999180191853851:=0
def tw17852047125243579196:=0
def tw1702328250415364413:=0
def tw5547068167356170582:=0
def tw2570697727376477633:=0
def tw4070613457698525656:=0
def tw4114825343401703463:=0
def tw7190143446204094571:=0
def tw9786627854958192209:=0
def tw2339790045721454527:=0
def tw1435936591307635141:=0
def tw17115030480004114937:=0
def tw12931678037089171595:=0
def tw17415814647388498335:=0
def tw9165229651948127006:=0
def tw10709455234467683254:=0
def tw1122571496643738699:=0
def tw370507142751349492:=0
def tw2367368997249893362:=0
def tw4378458558214771812:=0
def tw16484250878442929163:=0
def tw8341975075047724411:=0
def tw15181193494896804186:=0
def tw729980573152790628:=0
def tw2408797432777127611:=0
def tw8794372676920344080:=0
def tw14419046307415276344:=0
def tw5102014257162529777:=0
def tw3502507203331782320:=0
def tw1069687493597820724:=0
def tw9477244506236230615:=0
def tw12476621051327333433:=0
def tw5277870094552553565:=0
def tw5690336876726594583:=0
def tw14182402705553790019:=0
def tw10189469577989325391:=0
def tw7715457259411315898:=0
def tw10941430527857191261:=0
def tw10229900124290034057:=0
def tw15342097798792224549:=0
def tw15594127682461254192:=0
def tw15746318645067824641:=0
def tw1653172419520511214:=0
def tw14684436007391472054:=0
def tw6291541579096904801:=0
def tw10223624201268458863:=0
def tw14221089721980156446:=0
def tw15646988686524588502:=0
def tw17714571936543916000:=0
def tw12694469286319694097:=0
def tw12745961864081479375:=0
def tw3079618028670517918:=0
def tw17898831042107331740:=0
def tw16722265486474151314:=0
def tw17638400389735325963:=0
def tw5009356884037555595:=0
def tw451027666915973418:=0
def tw5467649549771858339:=0
def tw13243950616410099043:=0
def tw5687983497678988397:=0
def tw11889610886103413878:=0
def tw9602168574500889405:=0
def tw14382816858361994645:=0
def tw8698852133547857153:=0
def tw10873604232638450936:=0
def tw9297768688256580081:=0
def tw18173247784097740497:=0
def tw1162707304735796646:=0
def tw7585842435194082577:=0
def tw18088741856035745950:=0
def tw5447867469907723063:=0
def tw6439365037428022905:=0
def tw6707238316387702446:=0
def tw6828744342786890081:=0
def tw2143986556792240667:=0
def tw11113650486012547186:=0
def tw3263086042070829466:=0
def tw17681743613213794299:=0
def tw12340084005950075060:=0
def tw13550130236723751985:=0
def tw6822778997538510048:=0
def tw6152328964896927035:=0
def tw11336921997836120489:=0
def tw1131954876234737871:=0
def tw11601017170371362708:=0
def tw15007050208374526846:=0
def tw345775814437411482:=0
def tw1296135456995664914:=0
def tw7591148321173492663:=0
def tw15490666358765380267:=0
def tw12701775665778354539:=0
def tw14924665069065128025:=0
def tw6840343282089346215:=0
def tw5072072498575599908:=0
def tw9542429152155455792:=0
def tw1759023227716440096:=0
def tw9024559706792332883:=0
def tw1752587795282130109:=0
def tw2009150850785858387:=0
def tw16516262246805375848:=0
def tw16486275357489975388:=0
def tw12160363577976861016:=0
def tw5703980093486136237:=0
def tw318128561164779964:=0
def tw17831580466399018505:=0
def tw5145670742221722047:=0
def tw180065067370222512:=0
def tw3973234604774371256:=0
def tw17675309080355765676:=0
def tw9255244554497668707:=0
def tw12599109344235489174:=0
def tw7473892703084092201:=0
def tw1736608764422309245:=0
def tw17937176859014191876:=0
def tw15142146076388433469:=0
def tw4006893057643177579:=0
def tw8066144920252189792:=0
def tw14261589544426827351:=0
def tw436534867369422600:=0
def tw11212469469754343113:=0
def tw4122249211425740498:=0
def tw17670083084543770801:=0
def tw8917720457268528464:=0
def tw14637023509677342942:=0
def tw18203619657393098065:=0
def tw1745560828256736798:=0
def tw12248754437531370688:=0
def tw10733831990498565042:=0
def tw17260426651700900396:=0
def tw18145664947014598830:=0
def tw6047307008100414031:=0
def tw13545018216578210793:=0
def tw10290554452935246673:=0
def tw12959356532758127410:=0
def tw825200048061764196:=0
def tw1480383878173600292:=0
def tw14057637064045167083:=0
def tw14075552439118088574:=0
def tw12706000037224596685:=0
def tw15321849609675877223:=0
def tw3604728278590563389:=0
def tw3783744971399203864:=0
def tw13979037638526582823:=0
def tw14142087780574828244:=0
def tw8841962754315631488:=0
def tw4875139464435967500:=0
def tw1998409720643485041:=0
def tw12197573023273120872:=0
def tw7302814474875119226:=0
def tw12746060578612077804:=0
def tw11101206613893032664:=0
def tw4191547363891364457:=0
def tw11213317077060193276:=0
def tw533179847370463087:=0
def tw15189099966645185368:=0
def tw5591510687822423229:=0
def tw14304917286727155797:=0
def tw7125331548731021522:=0
def tw8085562736687326299:=0
def tw2975479721967517959:=0
def tw16045089325048176161:=0
def tw10651169730346155191:=0
def tw16909324743105509093:=0
def tw13157280258021615975:=0
def tw3475473628693875072:=0
def tw10033501056078899831:=0
def tw136834205559089476:=0
def tw4134295170093827467:=0
def tw10877151543741304658:=0
def tw17276436408746368426:=0
def tw10559771099224093213:=0
def tw7205153993947500023:=0
def tw9048231937789194268:=0
def tw17825058701158592703:=0
def tw915385476655529699:=0
def tw8132358586396758122:=0
def tw5644802940958491088:=0
def tw1354155919282700855:=0
def tw6820651944816010972:=0
def tw12674178613026206993:=0
def tw11335067355013519955:=0
def tw6392613481812535891:=0
def tw17979001182630517924:=0
def tw8515370067191357363:=0
def tw16042582934102894230:=0
def tw5448098575762918781:=0
def tw15859581577385154385:=0
def tw155807229717634955:=0
def tw1483119923974423426:=0
def tw7432658505419154034:=0
def tw5432518549523195331:=0
def tw3447707728876698662:=0
def tw12547668702343374201:=0
def tw11463009420703590141:=0
def tw7521933462980569415:=0
def tw4066177552671436829:=0
def tw3383331239671997127:=0
def tw13258269588985070335:=0
def tw11693291606800454214:=0
def tw6439043676470517810:=0
def tw9682255635674069431:=0
def tw7823367407217903620:=0
def tw11573630015400151628:=0
def tw200256219015391176:=0
def tw17520251687864518853:=0
def tw15873186311538963248:=0
def tw10089177668429487280:=0
def tw7299088265976892193:=0
def tw6865936913577859918:=0
def tw6427350877411214149:=0
def tw615264482797291417:=0
def tw4988755193926963640:=0
def tw3665072654027546023:=0
def tw2444170645479949619:=0
def tw15569540799293746959:=0
def tw13803863354749395921:=0
def tw18092148451646558321:=0
def tw9968907024129332576:=0
def tw9686063661233402473:=0
def tw8117787158818119911:=0
def tw8096793144748285515:=0
def tw7340245718716347823:=0
def tw7020890967863537816:=0
def tw6807013238997528698:=0
def tw5926505201331041417:=0
def tw5180136442817716065:=0
def tw3293701978231573049:=0
def tw2745533323845507633:=0
def tw18360751395722655693:=0
def tw17988603177412989379:=0
def tw17698679964966216256:=0
def tw16890907855009102641:=0
def tw16300067622980457810:=0
def tw16169714671321695841:=0
def tw15574758243136830664:=0
def tw15125386690863122757:=0
def tw14779321915006075145:=0
def tw14043097511185719161:=0
def tw13162974620652246602:=0
def tw11748936646733522228:=0
def tw11551326743064011934:=0
def tw11446751737242921416:=0
def tw7070092505181455197:=0
def tw5026960139669023735:=0
def tw6014984001422683976:=0
def tw8488068393317119025:=0
def tw5350621869287383131:=0
def tw2779150004766284652:=0
def tw16582499314262706772:=0
def tw10395610707961797333:=0
def tw4618181014167524882:=0
def tw4436113675687428447:=0
def tw14720855478177021706:=0
def tw9870494340410551653:=0
def tw10224374547658558015:=0
def tw14890906489992140668:=0
def tw7608281411705674890:=0
def tw4748428740930262332:=0
def tw2100088067879556916:=0
def tw924652080471394522:=0
def tw480143932509360064:=0
def tw6886504826162549839:=0
def tw4019554537187385489:=0
def tw322323191020457568:=0
def tw15682776043351434813:=0
def tw10699812001344921273:=0
def tw8213474631874240418:=0
def tw15115056006667132822:=0
def tw14570088373367646193:=0
def tw7180851937877176392:=0
def tw5947803189228482232:=0
def tw4637441559194644214:=0
def tw17179636693240321031:=0
def tw17127626170967800764:=0
def tw4309050248963530622:=0
def tw16551248281306820850:=0
def tw7609940668203380191:=0
def tw9869720507909100720:=0
def tw9381400517687380057:=0
def tw4664899385982606679:=0
def tw4130123862092668702:=0
def tw15554763825677127490:=0
def tw10155795745498404808:=0
def tw14577366899910729358:=0
def tw16432597975404272604:=0
def tw10863740158219537391:=0
def tw9982358308857018789:=0
def tw9857630674700556756:=0
def tw9313287125931108200:=0
def tw8449038977336951075:=0
def tw8296543189900411255:=0
def tw8065246518630430490:=0
def tw7913134022575561194:=0
def tw7796686353676731167:=0
def tw7419110354098186612:=0
def tw7089744091584847074:=0
def tw7014700083906981289:=0
def tw6659593374106272217:=0
def tw6469131907405671002:=0
def tw5963242274916958257:=0
def tw5822547018439931869:=0
def tw580340162571633913:=0
def tw556537504550682868:=0
def tw5451933215106468675:=0
def tw5376782505045836242:=0
def tw5230220288458964069:=0
def tw4808076825182519595:=0
def tw4773755585376706792:=0
def tw4678001143738409821:=0
def tw4471083962985675640:=0
def tw4258475614247566392:=0
def tw377244804575413123:=0
def tw3650459210799260050:=0
def tw3403641088543439305:=0
def tw3399317151889109116:=0
def tw3338786590829290110:=0
def tw3304813903350556281:=0
def tw291919089390761549:=0
def tw2902608765661356467:=0
def tw2805703757340072397:=0
def tw2182716992793440745:=0
def tw1948746294083374391:=0
def tw18239958054634959891:=0
def tw18145445070872920790:=0
def tw18135275807083045740:=0
def tw17564394097020325542:=0
def tw17367104698377798386:=0
def tw17252578570760176447:=0
def tw17112214177170125521:=0
def tw16975765270535114593:=0
def tw16774096120808394689:=0
def tw16608207381744351370:=0
def tw16340874700079581429:=0
def tw1622229327465899920:=0
def tw16104474441021787893:=0
def tw15859113676052988989:=0
def tw1584644295335721847:=0
def tw1581390493005625505:=0
def tw15660191207902646012:=0
def tw15244104146847490617:=0
def tw15193740699467314447:=0
def tw15098649096227279309:=0
def tw150632472860236988:=0
def tw14912785664278167560:=0
def tw14864384209307061133:=0
def tw14819469484368701960:=0
def tw14814626903294070504:=0
def tw1479993410186140353:=0
def tw14753165588246341624:=0
def tw14602080760131455594:=0
def tw14355734800219978508:=0
def tw14266147102305259806:=0
def tw14258707868939733678:=0
def tw14188767239526860313:=0
def tw14057747901268786976:=0
def tw14035147048350097646:=0
def tw13906305059923203921:=0
def tw13892892237486115148:=0
def tw13817795640021300519:=0
def tw1352091599337906641:=0
def tw13512246315330554568:=0
def tw1270712323434035520:=0
def tw12586683332685455984:=0
def tw12556154409147360469:=0
def tw12553614383494121890:=0
def tw12409131221876703534:=0
def tw12265027415729744170:=0
def tw12251548025069334977:=0
def tw12243785375588117831:=0
def tw12109683515548343665:=0
def tw12090010702792208694:=0
def tw11767362539911982508:=0
def tw11739571904257512472:=0
def tw11342382791522089538:=0
def tw1129567650391737802:=0
def tw11142398539766383107:=0
def tw10983444465644949715:=0
def tw10943271536312069703:=0
def tw1090626648017981315:=0
def tw10409937657224376597:=0
def tw10239764497807838644:=0
def tw10104215411270698768:=0
end PySem.W.Fast
open PySem PySem.W PyProof.Rows
set_option maxRecDepth 100000 in
set_option maxHeartbeats 0 in
theorem PySem.Challenge.cw_lettertoll_k56_whole_numbered_there_and_holds : PySem.Challenge.rw_lettertoll_k56_whole_numbered_there_and.Holds := by
 w_on;o_law;k_head;(case hw=>w_witness2)
 k_fill
 refine K56.walk (T:=273) (l:=PySem.Challenge.rw_lettertoll_k56_whole_numbered_there_and) ?hT rfl rfl (fun w h Y=>⟨PySem.W.km_in_of Y,PySem.W.km_tabs_of Y⟩) ?hC ?F
 (case hT=>exact List.mem_singleton.mpr rfl)
 (case hC=>intro w T hT;cases List.mem_singleton.mp hT;exact ⟨⟨277,by kernel_rfl⟩,by kernel_rfl⟩)
 case F =>
  intro w mg fa h KX G hmg
  refine' K56.all_mk (T:=273) (List.mem_singleton.mpr rfl) KX G hmg ?_ ?_ (.mk ?_ ?_ ?_ ?_) (.mk ?_ ?_ ?_ ?_) (.mk ?_ ?_ ?_ ?_) (.mk ?_ ?_ ?_ ?_) (.mk ?_ ?_ ?_ ?_) (.mk ?_ ?_ ?_ ?_) (.mk ?_ ?_ ?_ ?_) (.mk ?_ ?_ ?_ ?_) (.mk ?_ ?_ ?_ ?_) (.mk ?_ ?_ ?_ ?_) (.mk ?_ ?_ ?_ ?_) (.mk ?_ ?_ ?_ ?_) (.mk ?_ ?_ ?_ ?_) (.mk ?_ ?_ ?_ ?_) (.mk ?_ ?_ ?_ ?_) (.mk ?_ ?_ ?_ ?_) (.mk ?_ ?_ ?_ ?_) (.mk ?_ ?_ ?_ ?_) (.mk ?_ ?_ ?_ ?_) (.mk ?_ ?_ ?_ ?_) (.mk ?_ ?_ ?_ ?_) (.mk ?_ ?_ ?_ ?_) (.mk ?_ ?_ ?_ ?_) (.mk ?_ ?_ ?_ ?_) (.mk ?_ ?_ ?_ ?_) (.mk ?_ ?_ ?_ ?_) (.mk ?_ ?_ ?_ ?_) (.mk ?_ ?_ ?_ ?_) (.mk ?_ ?_ ?_ ?_) (.mk ?_ ?_ ?_ ?_) (.mk ?_ ?_ ?_ ?_) (.mk ?_ ?_ ?_ ?_) (.mk ?_ ?_ ?_ ?_) (.mk ?_ ?_ ?_ ?_) (.mk ?_ ?_ ?_ ?_) (.mk ?_ ?_ ?_ ?_) (.mk ?_ ?_ ?_ ?_ ?_) (.mk ?_ ?_ ?_ ?_ ?_) (.mk ?_ ?_ ?_ ?_ ?_) (.mk ?_ ?_ ?_ ?_ ?_) (.mk ?_ ?_ ?_ ?_ ?_) (.mk ?_ ?_ ?_ ?_ ?_) (.mk ?_ ?_ ?_ ?_ ?_) (.mk ?_ ?_ ?_ ?_ ?_) (.mk ?_ ?_ ?_ ?_ ?_) (.mk ?_ ?_ ?_ ?_ ?_) (.mk ?_ ?_ ?_ ?_ ?_) (.mk ?_ ?_ ?_ ?_ ?_) ?_ ?_ ?_ ?_ ?_ ?_ ?_ ?_ ?_ ?_ ?_ ?_ ?_ ?_ ?_ ?_ ?_ ?_ ?_ ?_ ?_ ?_ ?_ ?_ ?_ ?_ ?_ ?_ ?_ ?_ ?_ ?_ ?_ ?_ ?_ ?_ ?_ ?_ ?_ ?_ ?_ ?_ ?_ ?_ ?_ ?_ ?_ ?_
  any_goals first | k_is | kernel_rfl
