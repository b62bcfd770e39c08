import PyProof.Rows.All
import Wide.All
import OpenK.AllK
import Wide.FinOn
import Lean
import PyProof.EqAt
import PyProof.EqKinds
import PyProof.TupleCall
import PyProof.NeKinds
import PyProof.ConsumeWalk
import PyProof.SumAny
import PyProof.Rows.SumGenD
import PyProof.ZipIter
import PyProof.EnumMake
import KE.IntBitsLaws
import PyProof.WalkInts
import PyProof.MinMaxWalk
import PyProof.TupleOfSeq
import PyProof.Rows.SortShell
import PyProof.WalksS
import PyProof.SeqWrite
import PyProof.Rows.Range3
import PySem.Challenge.RW_lettertoll_k53_numbers_of_codes
set_option Elab.async false
set_option linter.all false
set_option maxRecDepth 100000
namespace L2
open PySem PySem.Spec PyProof.Rows
abbrev Key:=Sum Int Str
def keyIs:Key→Value→Bool
  | .inl k,v=>Value.isInt k v
  | .inr x,v=>Value.isStrOf x v
def keyH (w:World):Key→Int
  | .inl k=>hashInt k
  | .inr x=>hashStr w x
theorem keyIs_shape:∀ {k:Key} {v:Value},keyIs k v=true→(∃ i t,k=Sum.inl i∧v=Value.int i t)∨(∃ x t,k=Sum.inr x∧v=Value.str x t)
  | .inl i,v,h=>by
    obtain ⟨t,e⟩:=Value.isInt_shape (k:=i) (v:=v) h
    exact .inl ⟨i,t,rfl,e⟩
  | .inr x,v,h=>by
    obtain ⟨t,e⟩:=Value.isStrOf_shape (x:=x) (v:=v) h
    exact .inr ⟨x,t,rfl,e⟩
theorem keyIs_int (i:Int) (t:Tok):keyIs (.inl i) (.int i t)=true:=by simp [keyIs,Value.isInt]
theorem keyIs_str (x:Str) (t:Tok):keyIs (.inr x) (.str x t)=true:=by simp [keyIs,Value.isStrOf]
theorem key_ll (a b:Int):decide ((Sum.inl a:Key)=Sum.inl b)=(a == b):=by
  by_cases e:a=b
  · subst e;simp
  · have h:¬ (Sum.inl a:Key)=Sum.inl b:=fun q=>e (Sum.inl.inj q)
    rw [decide_eq_false h]
    exact (beq_eq_false_iff_ne.mpr e).symm
theorem key_rr (a b:Str):decide ((Sum.inr a:Key)=Sum.inr b)=decide (a=b):=by
  by_cases e:a=b
  · subst e;simp
  · have h:¬ (Sum.inr a:Key)=Sum.inr b:=fun q=>e (Sum.inr.inj q)
    rw [decide_eq_false h,decide_eq_false e]
theorem key_lr (a:Int) (b:Str):decide ((Sum.inl a:Key)=Sum.inr b)=false:=decide_eq_false (fun q=>nomatch q)
theorem key_rl (a:Str) (b:Int):decide ((Sum.inr a:Key)=Sum.inl b)=false:=decide_eq_false (fun q=>nomatch q)
def mixKind (prog:Program) (w:World):PySem.KeyKind prog w Key where
  is:=keyIs
  hash:=keyH w
  inj:=fun v a b ha hb=>by
    rcases keyIs_shape ha with ⟨i,t,rfl,rfl⟩ | ⟨x,t,rfl,rfl⟩
    · rcases keyIs_shape hb with ⟨j,u,rfl,e⟩ | ⟨y,u,rfl,e⟩
      · injection e with e1 _;rw [e1]
      · exact nomatch e
    · rcases keyIs_shape hb with ⟨j,u,rfl,e⟩ | ⟨y,u,rfl,e⟩
      · exact nomatch e
      · injection e with e1 _;rw [e1]
  byValue:=fun k v h=>by
    rcases keyIs_shape h with ⟨i,t,rfl,rfl⟩ | ⟨x,t,rfl,rfl⟩ <;> rfl
  pyHash:=fun hv h=>by
    rcases keyIs_shape hv with ⟨i,t,rfl,rfl⟩ | ⟨x,t,rfl,rfl⟩
    · exact wpAny_pyHash_int h
    · exact wpAny_pyHash_str h
  eqBool:=fun hu hv h=>by
    rcases keyIs_shape hu with ⟨i,t,rfl,rfl⟩ | ⟨x,t,rfl,rfl⟩
    · rcases keyIs_shape hv with ⟨j,u,rfl,rfl⟩ | ⟨y,u,rfl,rfl⟩
      · rw [key_ll] at h;exact wpAny_eqBool_int h
      · rw [key_lr] at h;exact SeqAt.EqAt.int_str i t y u _ _ _ _ h
    · rcases keyIs_shape hv with ⟨j,u,rfl,rfl⟩ | ⟨y,u,rfl,rfl⟩
      · rw [key_rl] at h;exact SeqAt.EqAt.str_int x t j u _ _ _ _ h
      · rw [key_rr] at h;exact wpAny_eqBool_str h
  «strs»:=fun k x t v h=>by
    rcases keyIs_shape h with ⟨i,u,rfl,e⟩ | ⟨y,u,rfl,e⟩
    · exact nomatch e
    · injection e with e1 _
      subst e1
      cases v <;> rfl
theorem mixKind_int (prog:Program) (w:World) (i:Int) (t:Tok):(mixKind prog w).is (.inl i) (.int i t)=true:=keyIs_int i t
theorem mixKind_str (prog:Program) (w:World) (x:Str) (t:Tok):(mixKind prog w).is (.inr x) (.str x t)=true:=keyIs_str x t
end L2
namespace L2
open PySem PySem.Spec PyProof.Rows
inductive V where
  | non | bl (b:Bool) | int (i:Int) | str (x:Str) | byt (b:Array UInt8) | flt (b:UInt64) | ref (a:Addr) | ty (n:String)
  deriving DecidableEq
def RelV:V→Value→Prop
  | .non,u=>u=Value.none
  | .bl b,u=>u=Value.bool b
  | .int i,u=>∃ t,u=Value.int i t
  | .str x,u=>∃ t,u=Value.str x t
  | .byt b,u=>∃ t,u=Value.bytes b t
  | .flt b,u=>∃ t,u=Value.float b t
  | .ref a,u=>u=Value.ref a
  | .ty n,u=>u=Value.type n
abbrev Vals:List V→List Value→Prop:=Paired RelV
theorem Vals.length {xs:List V} {us:List Value} (r:Vals xs us):xs.length=us.length:=Paired.length r
theorem Vals.get:∀ {xs:List V} {us:List Value} {i:Nat} {x:V},Vals xs us→xs[i]?=some x→∃ u,us[i]?=some u∧RelV x u
  | _,_,_,_,.nil,e=>by simp at e
  | _,_,0,_,.cons r _,e=>by simp at e;subst e;exact ⟨_,rfl,r⟩
  | _,_,i+1,x,.cons _ t,e=>by
    obtain ⟨u,h1,h2⟩:=Vals.get (i:=i) (x:=x) t (by simpa using e)
    exact ⟨u,by simpa using h1,h2⟩
theorem Vals.set {x:V} {u:Value} (r:RelV x u):∀ {xs:List V} {us:List Value} (i:Nat),Vals xs us→Vals (xs.set i x) (us.set i u)
  | _,_,_,.nil=>.nil
  | _,_,0,.cons _ t=>.cons r t
  | _,_,i+1,.cons q t=>.cons q (Vals.set r i t)
theorem Vals.append:∀ {xs ys:List V} {us ws:List Value},Vals xs us→Vals ys ws→Vals (xs++ys) (us++ws)
  | _,_,_,_,.nil,s=>s
  | _,_,_,_,.cons r t,s=>.cons r (Vals.append t s)
theorem Vals.take:∀ {xs:List V} {us:List Value} (n:Nat),Vals xs us→Vals (xs.take n) (us.take n)
  | _,_,0,_=>.nil
  | _,_,_+1,.nil=>.nil
  | _,_,n+1,.cons r t=>.cons r (Vals.take n t)
theorem Vals.drop:∀ {xs:List V} {us:List Value} (n:Nat),Vals xs us→Vals (xs.drop n) (us.drop n)
  | _,_,0,r=>r
  | _,_,_+1,.nil=>.nil
  | _,_,n+1,.cons _ t=>Vals.drop n t
def RelO:Option V→Option Value→Prop
  | some v,some u=>RelV v u
  | none,none=>True
  | _,_=>False
def KV {κ:Type}:List (κ × V)→List (κ × Value)→Prop:=Paired fun (p:κ × V) (q:κ × Value)=>p.1=q.1∧RelV p.2 q.2
def kV:Key→V
  | .inl i=>.int i
  | .inr x=>.str x
inductive HO where
  | lst (xs:List V)
  | tup (xs:List V)
  | dK (kvs:List (Key × V)) | dT (kvs:List (List Key × V))
  | set (S:Int→Bool) (n:Nat)
  | ins (C dx:Addr) (fs:List (Str × V))
  | own (x:Addr)
  | xd (fs:List (Str × V))
  | met (f x:Addr)
  | rng (lo hi:Int)
  | frz (o:Obj) (u:HO)
  | tbl (ps:Array Value)
  | ext (φ:Heap→Prop)
abbrev Hp:=Addr→Option HO
def upd (H:Hp) (a:Addr) (o:HO):Hp:=fun b=>if b=a then some o else H b
theorem upd_same {H:Hp} {a:Addr} {o:HO}:upd H a o a=some o:=by unfold upd;rw [if_pos rfl]
theorem upd_ne {H:Hp} {a b:Addr} {o:HO} (h:b≠a):upd H a o b=H b:=by unfold upd;rw [if_neg h]
theorem ne_of {H:Hp} {a b:Addr} {o u:HO} (h:H a=some o) (h':H b=some u) (d:o≠u):a≠b:=by
  intro e;subst e;rw [h] at h';exact d (Option.some.inj h')
theorem ne_of_none {H:Hp} {a b:Addr} {o:HO} (h:H a=some o) (h':H b=none):a≠b:=by
  intro e;subst e;rw [h] at h';cases h'
def IsTp (h:Heap) (a:Addr) (items:Array Value):Prop:=∃ o,h.get? a=some o∧∃ n,o={ cls:=.type "tuple",data:=.seq items n }
theorem IsTp.is {h:Heap} {a:Addr} {items:Array Value} (x:IsTp h a items):IsTup h a items:=by
  obtain ⟨o,e,n,rfl⟩:=x
  exact ⟨_,e,rfl,n,rfl⟩
instance {h:Heap} {a:Addr} {items:Array Value}:Coe (IsTp h a items) (IsTup h a items):=⟨IsTp.is⟩
instance {h:Heap} {a:Addr} {items:Array Value}:Coe (IsTp h a items) (Heap.IsTuple h a items):=⟨fun x=>x.is⟩
theorem IsTp.lt {h:Heap} {a:Addr} {items:Array Value} (x:IsTp h a items):a < h.objs.size:=x.is.lt
theorem IsTp.new (h:Heap) (items:Array Value):IsTp (h.push { cls:=.type "tuple",data:=.seq items }) h.objs.size items:=⟨_,Heap.get?_push_size _ rfl,_,rfl⟩
section
variable (P:Program) (w:World)
def ObjOk (H:Hp) (h:Heap) (a:Addr):HO→Prop
  | .lst xs=>xs.length≤sizeLine∧∃ (its:List Value) (n:Nat),Vals xs its∧h.get? a=some { cls:=.type "list",data:=.seq its.toArray n }
  | .tup xs=>xs.length≤sizeLine∧∃ its:List Value,Vals xs its∧IsTp h a its.toArray
  | .dK kvs=>kvs.length≤sizeLine∧(a == sysModules)=false∧∃ vs,KV kvs vs∧h.DictOf (mixKind P w) a vs
  | .dT kvs=>kvs.length≤sizeLine∧(a == sysModules)=false∧∃ xs:List (List Key × Addr × Value),
      Paired (fun (p:List Key × V) (q:List Key × Addr × Value)=>p.1=q.1∧H q.2.1=some (.tup (p.1.map kV))∧RelV p.2 q.2.2) kvs xs ∧
      ∃ o es ep,h.get? a=some o∧o.ExactDict∧o.data=.dict es ep∧es.toList=xs.map (entryOfKey (tupleKind (mixKind P w)))∧(xs.map (·.1)).Nodup
  | .set S n=>h.SetOf (intKind P w) a S n
  | .ins C dx fs=>H dx=some (.own a)∧fs.length≤1000∧dx≠a∧h.get? a=some (PySem.W.instObj C dx) ∧
      ∃ mA,h.Ns1 dx mA∧(∀ f,RelO (fs.lookup f) (mA f))∧PySem.Within mA (fs.map (·.1))
  | .own _=>∃ o,h.get? a=some o
  | .xd fs=>∃ mA,h.Ns1 a mA∧∀ f,RelO (fs.lookup f) (mA f)
  | .rng lo hi=>∃ t u v,h.get? a=some { cls:=.type "range",data:=.fields #[.int lo t,.int hi u,.int 1 v] }
  | .frz o u=>h.get? a=some o∧ObjOk H h a u
  | .tbl ps=>h.get? a=some { cls:=.none,data:=.fields ps }
  | .met f x=>h.get? a=some (PySem.W.methodObj (.ref f) (.ref x))
  | .ext φ=>φ h∧(∃ o,h.get? a=some o)∧∀ h1 h2:Heap,φ h1→(∀ o,h1.get? a=some o→h2.get? a=some o)→φ h2
def HOk (H:Hp) (h:Heap):Prop:=∀ a o,H a=some o→ObjOk P w H h a o
end
section
variable {P:Program} {w:World} {H H':Hp} {h h':Heap} {a:Addr} {o:HO}
theorem ObjOk.lt (x:ObjOk P w H h a o):a < h.objs.size:=by
  cases o with
  | lst xs=>obtain ⟨_,_,_,_,e⟩:=x;exact Heap.lt_size e
  | tup xs=>obtain ⟨_,_,_,p⟩:=x;exact p.lt
  | dK kvs=>obtain ⟨_,_,_,_,o,_,_,e,_⟩:=x;exact Heap.lt_size e
  | dT kvs=>obtain ⟨_,_,_,_,o,_,_,e,_⟩:=x;exact Heap.lt_size e
  | set S n=>obtain ⟨o,_,_,_,e,_⟩:=x;exact Heap.lt_size e
  | ins C dx fs=>obtain ⟨_,_,_,e,_⟩:=x;exact Heap.lt_size e
  | own y=>obtain ⟨_,e⟩:=x;exact Heap.lt_size e
  | xd fs=>obtain ⟨_,⟨_,_,_,e,_⟩,_⟩:=x;exact Heap.lt_size e
  | rng lo hi=>obtain ⟨_,_,_,e⟩:=x;exact Heap.lt_size e
  | frz ob u=>obtain ⟨e,_⟩:=x;exact Heap.lt_size e
  | tbl ps=>exact Heap.lt_size (show h.get? a=some _ from x)
  | met f y=>exact Heap.lt_size (show h.get? a=some _ from x)
  | ext φ=>obtain ⟨_,⟨_,e⟩,_⟩:=x;exact Heap.lt_size e
theorem Paired.mapP {α β:Type} {F G:α→β→Prop}:∀ {l₁:List α} {l₂:List β},Paired F l₁ l₂→(∀ a b,F a b→G a b)→Paired G l₁ l₂
  | _,_,.nil,_=>.nil
  | _,_,.cons r t,f=>.cons (f _ _ r) (Paired.mapP t f)
theorem ObjOk.stay (x:ObjOk P w H h a o) (k:∀ b u,(b=a∨H b=some (.own a))→h.get? b=some u→h'.get? b=some u)
    (ho:∀ b,H b=some (.own a)→H' b=some (.own a)) (ht:∀ b xs,H b=some (.tup xs)→H' b=some (.tup xs)):ObjOk P w H' h' a o:=by
  induction o with
  | lst xs=>obtain ⟨z,its,n,r,e⟩:=x;exact ⟨z,its,n,r,k _ _ (.inl rfl) e⟩
  | tup xs=>obtain ⟨z,its,r,ob,e,c⟩:=x;exact ⟨z,its,r,ob,k _ _ (.inl rfl) e,c⟩
  | dK kvs=>obtain ⟨z,y,vs,r,ob,es,ep,e,c⟩:=x;exact ⟨z,y,vs,r,ob,es,ep,k _ _ (.inl rfl) e,c⟩
  | dT kvs =>
    obtain ⟨z,y,xs,r,ob,es,ep,e,c⟩:=x
    exact ⟨z,y,xs,Paired.mapP r fun p q z=>⟨z.1,ht _ _ z.2.1,z.2.2⟩,ob,es,ep,k _ _ (.inl rfl) e,c⟩
  | set S n=>obtain ⟨ob,es,ep,t,e,c⟩:=x;exact ⟨ob,es,ep,t,k _ _ (.inl rfl) e,c⟩
  | ins C dx fs =>
    obtain ⟨d,z,ne,e,mA,⟨od,es,ep,e2,c⟩,r⟩:=x
    exact ⟨ho _ d,z,ne,k _ _ (.inl rfl) e,mA,⟨od,es,ep,k _ _ (.inr d) e2,c⟩,r⟩
  | own y=>obtain ⟨ob,e⟩:=x;exact ⟨ob,k _ _ (.inl rfl) e⟩
  | xd fs=>obtain ⟨mA,⟨od,es,ep,e,c⟩,r⟩:=x;exact ⟨mA,⟨od,es,ep,k _ _ (.inl rfl) e,c⟩,r⟩
  | rng lo hi=>obtain ⟨t,u,v,e⟩:=x;exact ⟨t,u,v,k _ _ (.inl rfl) e⟩
  | frz ob u ih=>obtain ⟨e,q⟩:=x;exact ⟨k _ _ (.inl rfl) e,ih q⟩
  | tbl ps =>
    have e:h.get? a=some { cls:=.none,data:=.fields ps }:=x
    show h'.get? a=some { cls:=.none,data:=.fields ps }
    exact k a _ (.inl rfl) e
  | met f y =>
    have e:h.get? a=some (PySem.W.methodObj (.ref f) (.ref y)):=x
    show h'.get? a=some (PySem.W.methodObj (.ref f) (.ref y))
    exact k a _ (.inl rfl) e
  | ext φ=>obtain ⟨p,⟨o,e⟩,st⟩:=x;exact ⟨st _ _ p fun o q=>k _ _ (.inl rfl) q,⟨o,k _ _ (.inl rfl) e⟩,st⟩
theorem HOk.lt (x:HOk P w H h) (e:H a=some o):a < h.objs.size:=(x a o e).lt
theorem HOk.fresh (x:HOk P w H h) (e:h.objs.size≤a):H a=none:=by
  cases q:H a with
  | none=>rfl
  | some u=>exact absurd (Nat.lt_of_lt_of_le (x.lt q) e) (Nat.lt_irrefl _)
theorem HOk.kept (x:HOk P w H h) (k:∀ b u,h.get? b=some u→h'.get? b=some u):HOk P w H h':=fun a o e =>
  (x a o e).stay (fun b u _ q=>k b u q) (fun _ q=>q) fun _ _ q=>q
theorem HOk.laid (x:HOk P w H h) (k:∀ b u,h.get? b=some u→h'.get? b=some u) (hp:h.objs.size≤a) (new:ObjOk P w (upd H a o) h' a o):HOk P w (upd H a o) h':=fun b u e=>by
  have hn:=x.fresh hp
  by_cases hb:b=a
  · subst hb;rw [upd_same] at e;cases e;exact new
  · rw [upd_ne hb] at e
    exact (x b u e).stay (fun c v _ q=>k c v q) (fun c q=>by rw [upd_ne (ne_of_none q hn)];exact q) fun c xs q=>by rw [upd_ne (ne_of_none q hn)];exact q
end
def Rd (H:Hp) (a:Addr) (u:HO):Prop:=H a=some u∨∃ o,H a=some (.frz o u)
theorem Rd.ok {P:Program} {w:World} {H:Hp} {h:Heap} {a:Addr} {u:HO} (r:Rd H a u) (x:HOk P w H h):ObjOk P w H h a u:=by
  rcases r with r | ⟨o,r⟩
  · exact x a u r
  · obtain ⟨_,q⟩:=x a _ r
    exact q
def Mut:Option HO→Prop
  | some (.lst _)=>True
  | some (.dK _)=>True
  | some (.dT _)=>True
  | some (.set _ _)=>True
  | some (.ins _ _ _)=>True
  | some (.ext _)=>True
  | _=>False
section
variable {P:Program} {w:World} {H:Hp} {h h':Heap} {x e:Addr} {o':HO}
theorem HOk.write (ok:HOk P w H h) (mu:Mut (H x)) (he:e=x∨H e=some (.own x)) (k:∀ b u,b≠e→h.get? b=some u→h'.get? b=some u) (heo:∃ u,h'.get? e=some u)
    (new:ObjOk P w (upd H x o') h' x o'):HOk P w (upd H x o') h':=fun b u q=>by
  have nown:∀ c y,H c=some (.own y)→c≠x:=fun c y r z=>by subst z;rw [r] at mu;exact mu
  have ntup:∀ c xs,H c=some (.tup xs)→c≠x:=fun c xs r z=>by subst z;rw [r] at mu;exact mu
  by_cases hb:b=x
  · subst hb;rw [upd_same] at q;cases q;exact new
  · rw [upd_ne hb] at q
    by_cases hbe:b=e
    · have q':H b=some (.own x):=by
        rcases he with z | z
        · exact absurd (hbe.trans z) hb
        · rw [hbe];exact z
      rw [q] at q';cases q'
      obtain ⟨v,hv⟩:=heo
      exact ⟨v,by rw [hbe];exact hv⟩
    · refine (ok b u q).stay (fun c v hc r=>k c v ?_ r) (fun c r=>by rw [upd_ne (nown c b r)];exact r) fun c xs r=>by rw [upd_ne (ntup c xs r)];exact r
      rcases hc with rfl | hc
      · exact hbe
      · rintro rfl
        rcases he with z | z
        · exact nown c b hc z
        · rw [hc] at z;cases z;exact hb rfl
end
structure Un (fs ex:List Addr) (H H':Hp) (h h':Heap):Prop where
  keep:∀ b o,h.get? b=some o→H b=none→b∉fs→b∉ex→h'.get? b=some o
  slot:∀ b o,h.get? b=some o→H b=none→b∈fs→b∉ex→∃ sl,h'.get? b=some { o with slots:=sl }
  free:∀ b o,h.get? b=some o→H b=none→b∉ex→H' b=none
  there:∀ b o,h.get? b=some o→b∉ex→∃ o',h'.get? b=some o'
  tups:∀ b xs,H b=some (.tup xs)→H' b=some (.tup xs)
  frzs:∀ b o u,H b=some (.frz o u)→H' b=some (.frz o u)
  tbls:∀ b ps,H b=some (.tbl ps)→∃ more,H' b=some (.tbl (ps++more))
section
variable {fs fs' ex ex':List Addr} {H H1 H2:Hp} {h h1 h2 h':Heap} {a x e:Addr} {o:HO}
theorem Un.any (u:Un fs ex H H1 h h1) {b:Addr} {ob:Obj} (q:h.get? b=some ob) (n:H b=none) (hx:b∉ex):∃ sl,h1.get? b=some { ob with slots:=sl }:=by
  by_cases hb:b∈fs
  · exact u.slot b ob q n hb hx
  · exact ⟨ob.slots,u.keep b ob q n hb hx⟩
theorem Un.kept (k:∀ b u,h.get? b=some u→h'.get? b=some u):Un fs ex H H h h' :=
  ⟨fun b ob q _ _ _=>k b ob q,fun b ob q _ _ _=>⟨ob.slots,k b ob q⟩,fun _ _ _ n _=>n,fun b ob q _=>⟨ob,k b ob q⟩,fun _ _ q=>q,fun _ _ _ q=>q,fun _ ps q=>⟨#[],by rw [q];simp⟩⟩
theorem Un.refl:Un fs ex H H h h:=Un.kept fun _ _ q=>q
theorem Un.laid (k:∀ b u,h.get? b=some u→h'.get? b=some u) (hp:h.objs.size≤a) (hn:H a=none):Un fs ex H (upd H a o) h h' where
  keep:=fun b u q _ _ _=>k b u q
  slot:=fun b u q _ _ _=>⟨u.slots,k b u q⟩
  free:=fun b u q n _=>by rw [upd_ne (Nat.ne_of_lt (Nat.lt_of_lt_of_le (Heap.lt_size q) hp))];exact n
  there:=fun b u q _=>⟨u,k b u q⟩
  tups:=fun b xs q=>by rw [upd_ne (ne_of_none q hn)];exact q
  frzs:=fun b u xs q=>by rw [upd_ne (ne_of_none q hn)];exact q
  tbls:=fun b ps q=>⟨#[],by rw [upd_ne (ne_of_none q hn),q];simp⟩
theorem Un.write (mu:Mut (H x)) (he:e=x∨H e=some (.own x)) (k:∀ b u,b≠e→h.get? b=some u→h'.get? b=some u) (heo:∃ u,h'.get? e=some u):Un fs ex H (upd H x o) h h':=by
  have hx:∀ b,H b=none→b≠x:=fun b n z=>by subst z;rw [n] at mu;exact mu
  have hb:∀ b,H b=none→b≠e:=fun b n z=>by
    subst z
    rcases he with r | r
    · exact hx b n r
    · rw [n] at r;cases r
  have hm:∀ b u,H b=some u→¬ Mut (some u)→b≠x:=fun b u q nm z=>by subst z;rw [q] at mu;exact nm mu
  refine ⟨fun b u q n _ _=>k b u (hb b n) q,fun b u q n _ _=>⟨u.slots,k b u (hb b n) q⟩,fun b u q n _=>by rw [upd_ne (hx b n)];exact n,fun b u q _=>?_,
    fun b xs q=>by rw [upd_ne (hm b _ q fun z=>z)];exact q,fun b u xs q=>by rw [upd_ne (hm b _ q fun z=>z)];exact q,fun b ps q=>⟨#[],by rw [upd_ne (hm b _ q fun z=>z),q];simp⟩⟩
  by_cases hbe:b=e
  · subst hbe;exact heo
  · exact ⟨u,k b u hbe q⟩
end
def trk (h:Heap) (H:Hp):List Addr:=(List.range h.objs.size).filter fun a=>(H a).isSome
def hidT (h:Heap) (H:Hp):Heap:=PySem.W.hideAll h (trk h H)
theorem hidT_size (h:Heap) (H:Hp):(hidT h H).objs.size=h.objs.size:=PySem.W.hideAll_size _ _
theorem hidT_get {h:Heap} {H:Hp} {b:Addr} {o:Obj} (e:h.get? b=some o) (n:H b=none):(hidT h H).get? b=some o :=
  PySem.W.hideAll_get _ e fun hm=>by
    have q:(H b).isSome=true:=(List.mem_filter.mp hm).2
    rw [n] at q;simp at q
theorem of_hidT {h:Heap} {H:Hp} {b:Addr} {o:Obj} (e:(hidT h H).get? b=some o):h.get? b=some o∧H b=none:=by
  have e':h.get? b=some o:=PySem.W.of_hideAll (trk h H) e
  refine ⟨e',?_⟩
  cases q:H b with
  | none=>rfl
  | some x =>
    have hm:b∈trk h H:=List.mem_filter.mpr ⟨List.mem_range.mpr (Heap.lt_size e'),by simp [q]⟩
    have z:(hidT h H).get? b=none:=PySem.W.hideAll_none (trk h H) hm
    rw [z] at e;cases e
def allNews (g h:Heap) (L:Addr):List (Addr × Obj):=(List.range h.objs.size).filterMap fun a=>if a=L∨(g.get? a).isSome=true then none else (h.get? a).map fun o=>(a,o)
def rest (g h:Heap) (L d:Addr):List (Addr × Obj):=(allNews g h L).filter fun p=>decide (p.1≠d)
end L2
namespace L2
open PySem PySem.Spec PyProof.Rows
structure Mod (K:PySem.W.Frag) (mg:Str→Option Value) (base:Heap):Prop where
  kin:K.In base
  glob:base.Ns mainGlobals mg
  blt:∃ mb,base.Ns builtinsNs mb∧∀ x:Str,x≠"__name__"→mb x=bootBuiltins x
  nolimit:base.NoLimit
structure Cx where
  prog:Program
  w:World
  K:PySem.W.Frag
  mg:Str→Option Value
  base:Heap
  A:Around
  N:List Str
  s₀:Shared
  H₀:Hp
  env:Env
  outer:List Env
  stack:List Env
  ex:List Addr
  fn:Str→Bool
  calm:Bool
  pn:List (Addr × Obj)
  xe:Value→Shared→Prop
def frs (l:List Env):List Addr:=l.filterMap (·.frame)
abbrev Cx.fs (X:Cx):List Addr:=frs X.outer
def Vis (sc:Scope) (x:Str):Prop:=sc.names.lookup x=some .local∨sc.names.lookup x=some .cell∨sc.names.lookup x=some .free
def Loc (sc:Scope) (x:Str):Prop:=sc.names.lookup x=some .local∨sc.names.lookup x=some .cell
def Look (env:Env) (h:Heap) (m:Str→Option Value) (x:Str) (u:Value):Prop :=
  (env.kindOf x=some .local∧m x=some u)∨((env.kindOf x=some .cell∨env.kindOf x=some .free)∧∃ c,env.cells.lookup x=some c∧h.IsCell c (some u))
structure Cx.Ok (X:Cx):Prop where
  mod:Mod X.K X.mg X.base
  kind:X.env.scope.kind=.function
  glob:X.env.globals=mainGlobals
  blt:X.env.builtins=builtinsNs
  above:X.s₀.heap.objs.size≤X.env.locals
  inj:∀ x y c,X.env.cells.lookup x=some c→X.env.cells.lookup y=some c→x=y
  has:∀ x,(X.env.kindOf x=some .cell∨X.env.kindOf x=some .free)→∃ c,X.env.cells.lookup x=some c
  cab:∀ x c,X.fn x=true→X.env.cells.lookup x=some c→X.s₀.heap.objs.size≤c
  hd:X.calm=true→X.A.handled=none
  frames:X.A.frames=some X.stack
  stk:X.stack=X.outer∨(X.stack=X.env :: X.outer∧X.env.frame=some X.env.locals)
  exf:∀ b∈X.ex,b≠X.env.locals∧∀ x c,X.env.cells.lookup x=some c→c≠b
  bs:∀ b o,X.base.get? b=some o→X.s₀.heap.get? b=some o∧X.H₀ b=none
  bsz:X.base.objs.size≤X.s₀.heap.objs.size
  noex:∀ b o,X.base.get? b=some o→b∉X.ex
  exfs:∀ b∈X.ex,b∉X.fs
  funs:X.s₀.heap.FunFrames X.base X.outer
  frf:∀ b∈X.fs,X.H₀ b=none
structure Inv (X:Cx) (pins:List (Addr × Obj)) (σ:List (Option V)) (H:Hp) (s:Shared):Prop where
  ok:X.Ok
  os:s.os=X.s₀.os
  bare:AllBare s.gens
  base:Un X.fs X.ex X.H₀ H X.s₀.heap s.heap
  loc:∃ m,s.heap.Ns X.env.locals m∧∀ (i:Nat) (x:Str) (v:V),X.N[i]?=some x→σ[i]?=some (some v)→Vis X.env.scope x→∃ u,RelV v u∧Look X.env s.heap m x u
  cell:∀ x c,X.env.cells.lookup x=some c→∃ v,s.heap.IsCell c v
  free:H X.env.locals=none
  freeC:∀ x c,X.env.cells.lookup x=some c→H c=none
  pin:∀ p∈X.pn++pins,s.heap.get? p.1=some p.2∧H p.1=none∧p.1≠X.env.locals∧p.1∉X.fs∧∀ v,p.2.data≠.cell v
  hok:HOk X.prog X.w H s.heap
  len:σ.length=X.N.length
section
variable {X:Cx} {pins:List (Addr × Obj)} {σ:List (Option V)} {H H':Hp} {s:Shared} {h':Heap}
theorem Cx.Ok.nofr (ok:X.Ok) {b:Addr} {o:Obj} (e:X.base.get? b=some o):b∉X.fs:=fun hb=>by
  have:=(ok.funs.mem hb).1
  rw [e] at this;cases this
theorem Inv.bs (I:Inv X pins σ H s):∀ b o,X.base.get? b=some o→s.heap.get? b=some o∧H b=none:=fun b o e =>
  ⟨I.base.keep b o (I.ok.bs b o e).1 (I.ok.bs b o e).2 (I.ok.nofr e) (I.ok.noex b o e),I.base.free b o (I.ok.bs b o e).1 (I.ok.bs b o e).2 (I.ok.noex b o e)⟩
theorem Inv.bk (I:Inv X pins σ H s):∀ b o,X.base.get? b=some o→s.heap.get? b=some o:=fun b o e=>(I.bs b o e).1
theorem Inv.mod (I:Inv X pins σ H s):Mod X.K X.mg X.base:=I.ok.mod
theorem Inv.kIn (I:Inv X pins σ H s):X.K.In s.heap:=I.ok.mod.kin.keeps I.bk
theorem Inv.lt (I:Inv X pins σ H s):X.env.locals < s.heap.objs.size:=let ⟨_,hn,_⟩:=I.loc;hn.lt
theorem Inv.sz (I:Inv X pins σ H s):X.s₀.heap.objs.size≤s.heap.objs.size:=Nat.le_trans I.ok.above (Nat.le_of_lt I.lt)
theorem Inv.nofs (I:Inv X pins σ H s) {a:Addr} (h:s.heap.objs.size≤a):a∉X.fs:=fun hb=>by
  obtain ⟨_,o,ho,_⟩:=I.ok.funs.mem hb
  exact absurd (Nat.lt_of_lt_of_le (Heap.lt_size ho) (Nat.le_trans I.sz h)) (Nat.lt_irrefl _)
theorem Inv.cne (I:Inv X pins σ H s):∀ x c,X.env.cells.lookup x=some c→c≠X.env.locals:=fun x c e z=>by
  obtain ⟨v,o,ho,hd⟩:=I.cell x c e
  obtain ⟨m,⟨o',es,ep,ho',hd',_⟩,_⟩:=I.loc
  rw [z,ho'] at ho;cases ho;rw [hd'] at hd;cases hd
theorem Inv.funs (I:Inv X pins σ H s):s.heap.FunFrames X.base X.outer:=by
  have all:∀ (l:List Env),(∀ b∈frs l,b∈X.fs)→X.s₀.heap.FunFrames X.base l→s.heap.FunFrames X.base l:=by
    intro l
    induction l with
    | nil=>intro _ _;trivial
    | cons env r ih =>
      intro hs hl
      obtain ⟨hk,⟨L,o,hf,hn,ho,hd⟩,hr⟩:=hl
      have hL:L∈X.fs:=hs L (by unfold frs;rw [List.filterMap_cons,hf];exact List.mem_cons_self)
      obtain ⟨sl,e⟩:=I.base.slot L o ho (I.ok.frf L hL) hL fun z=>I.ok.exfs L z hL
      exact ⟨hk,⟨L,_,hf,hn,e,hd⟩,ih (fun b hb=>hs b (by unfold frs;rw [List.filterMap_cons,hf];exact List.mem_cons_of_mem _ hb)) hr⟩
  exact all X.outer (fun _ hb=>hb) I.ok.funs
theorem Inv.stack (I:Inv X pins σ H s):s.heap.FunFrames X.base X.stack:=by
  rcases I.ok.stk with e | ⟨e,hf⟩
  · rw [e];exact I.funs
  · rw [e]
    obtain ⟨m,hn,_⟩:=I.loc
    refine .cons (by rw [I.ok.kind];decide) hf hn ?_ I.funs
    exact Heap.get?_none_of_le (Nat.le_trans I.ok.bsz I.ok.above)
theorem Inv.stkSub (I:Inv X pins σ H s):∀ b∈frs X.stack,b∈X.env.locals :: X.fs:=fun b hb=>by
  rcases I.ok.stk with e | ⟨e,hf⟩
  · rw [e] at hb;exact List.mem_cons_of_mem _ hb
  · rw [e] at hb
    unfold frs at hb
    rw [List.filterMap_cons,hf] at hb
    exact hb
theorem Inv.stkFree (I:Inv X pins σ H s):∀ b∈frs X.stack,H b=none:=fun b hb=>by
  rcases List.mem_cons.mp (I.stkSub b hb) with e | hb
  · rw [e];exact I.free
  · obtain ⟨_,o,ho,_⟩:=I.ok.funs.mem hb
    exact I.base.free b o ho (I.ok.frf b hb) fun z=>I.ok.exfs b z hb
theorem Inv.step {g':Array GenState} {t':Nat} {d':Drawn} {ch:List Addr} (I:Inv X pins σ H s)
    (hch:∀ b∈ch,(b∈X.ex∨X.s₀.heap.objs.size≤b)∧b≠X.env.locals∧(∀ x c,X.env.cells.lookup x=some c→c≠b)∧∀ p∈X.pn++pins,p.1≠b)
    (keep:∀ b o,b≠X.env.locals→b∉X.fs→b∉ch→s.heap.get? b=some o→H b=none→h'.get? b=some o)
    (slot:∀ b o,b≠X.env.locals→b∈X.fs→b∉ch→s.heap.get? b=some o→H b=none→∃ sl,h'.get? b=some { o with slots:=sl }) (free:∀ b o,b∉ch→s.heap.get? b=some o→H b=none→H' b=none)
    (there:∀ b o,b∉ch→s.heap.get? b=some o→∃ o',h'.get? b=some o')
    (tups:∀ b xs,H b=some (.tup xs)→H' b=some (.tup xs)) (frzs:∀ b o u,H b=some (.frz o u)→H' b=some (.frz o u)) (tbls:∀ b ps,H b=some (.tbl ps)→∃ more,H' b=some (.tbl (ps++more)))
    (ns:∀ m,s.heap.Ns X.env.locals m→h'.Ns X.env.locals m) (hok:HOk X.prog X.w H' h') (hg:AllBare g') :
    Inv X pins σ H' { s with heap:=h',gens:=g',drawn:=d',toks:=t' }:=by
  have neL:∀ b o,X.s₀.heap.get? b=some o→b≠X.env.locals:=fun b o e=>Nat.ne_of_lt (Nat.lt_of_lt_of_le (Heap.lt_size e) I.ok.above)
  have neC:∀ b o,X.s₀.heap.get? b=some o→b∉X.ex→b∉ch:=fun b o e hx hb=>by
    rcases (hch b hb).1 with z | z
    · exact hx z
    · exact absurd (Nat.lt_of_lt_of_le (Heap.lt_size e) z) (Nat.lt_irrefl _)
  have cellK:∀ x c,X.env.cells.lookup x=some c→∀ v,s.heap.IsCell c v→h'.IsCell c v:=fun x c e v ⟨o,ho,hd⟩=>by
    have nch:c∉ch:=fun z=>(hch c z).2.2.1 x c e rfl
    by_cases hc:c∈X.fs
    · obtain ⟨sl,q⟩:=slot c o (I.cne x c e) hc nch ho (I.freeC x c e)
      exact ⟨_,q,hd⟩
    · exact ⟨o,keep c o (I.cne x c e) hc nch ho (I.freeC x c e),hd⟩
  refine ⟨I.ok,I.os,hg,⟨fun b o e n hb hx=>?_,fun b o e n hb hx=>?_,fun b o e n hx=>?_,fun b o e hx=>?_,fun b xs e=>tups b xs (I.base.tups b xs e),fun b o xs e=>frzs b o xs (I.base.frzs b o xs e),fun b ps e=>?_⟩,?_,fun x c e=>?_,?_,fun x c e=>?_,fun p hp=>?_,hok,I.len⟩
  · exact keep b o (neL b o e) hb (neC b o e hx) (I.base.keep b o e n hb hx) (I.base.free b o e n hx)
  · obtain ⟨sl,e1⟩:=I.base.slot b o e n hb hx
    obtain ⟨sl',e2⟩:=slot b _ (neL b o e) hb (neC b o e hx) e1 (I.base.free b o e n hx)
    exact ⟨sl',e2⟩
  · obtain ⟨o',e1⟩:=I.base.there b o e hx
    exact free b o' (neC b o e hx) e1 (I.base.free b o e n hx)
  · obtain ⟨o',e1⟩:=I.base.there b o e hx
    exact there b o' (neC b o e hx) e1
  · obtain ⟨m1,e1⟩:=I.base.tbls b ps e
    obtain ⟨m2,e2⟩:=tbls b _ e1
    exact ⟨m1++m2,by rw [e2,Array.append_assoc]⟩
  · obtain ⟨m,hn,hl⟩:=I.loc
    refine ⟨m,ns m hn,fun i x v e1 e2 e3=>?_⟩
    obtain ⟨u,r,l⟩:=hl i x v e1 e2 e3
    refine ⟨u,r,?_⟩
    rcases l with l | ⟨k,c,e,z⟩
    · exact .inl l
    · exact .inr ⟨k,c,e,cellK x c e _ z⟩
  · obtain ⟨v,z⟩:=I.cell x c e
    exact ⟨v,cellK x c e v z⟩
  · obtain ⟨m,⟨o,_,_,ho,_⟩,_⟩:=I.loc
    exact free _ o (fun z=>(hch _ z).2.1 rfl) ho I.free
  · obtain ⟨v,o,ho,hd⟩:=I.cell x c e
    exact free c o (fun z=>(hch c z).2.2.1 x c e rfl) ho (I.freeC x c e)
  · obtain ⟨e,n,ne,nf,d⟩:=I.pin p hp
    have nch:p.1∉ch:=fun z=>(hch p.1 z).2.2.2 p hp rfl
    exact ⟨keep p.1 p.2 ne nf nch e n,free p.1 p.2 nch e n,ne,nf,d⟩
theorem Inv.un {t':Nat} (I:Inv X pins σ H s) (u:Un X.fs [] H H' s.heap h') (hok:HOk X.prog X.w H' h'):Inv X pins σ H' { s with heap:=h',toks:=t' }:=by
  obtain ⟨m,⟨o,es,ep,ho,r⟩,_⟩:=id I.loc
  obtain ⟨sl,hL⟩:=u.any ho I.free (by simp)
  exact I.step (g':=s.gens) (d':=s.drawn) (ch:=[]) (fun _ z=>nomatch z) (fun b o _ hb _ e n=>u.keep b o e n hb (by simp)) (fun b o _ hb _ e n=>u.slot b o e n hb (by simp)) (fun b o _ e n=>u.free b o e n (by simp)) (fun b o _ e=>u.there b o e (by simp)) u.tups u.frzs u.tbls (fun m' hm=>by
    obtain ⟨o',es',ep',ho',r'⟩:=hm
    rw [ho] at ho';cases ho'
    exact ⟨_,es',ep',hL,r'⟩) hok I.bare
theorem Inv.call {g':Array GenState} {t':Nat} {d':Drawn} {ch:List Addr} (I:Inv X pins σ H s) (u:Un (frs X.stack) ch H H' s.heap h') (hok:HOk X.prog X.w H' h') (hg:AllBare g')
    (hch:∀ b∈ch,(b∈X.ex∨X.s₀.heap.objs.size≤b)∧b≠X.env.locals∧(∀ x c,X.env.cells.lookup x=some c→c≠b)∧∀ p∈X.pn++pins,p.1≠b) :
    Inv X pins σ H' { s with heap:=h',gens:=g',drawn:=d',toks:=t' }:=by
  obtain ⟨m,⟨o,es,ep,ho,r⟩,_⟩:=id I.loc
  obtain ⟨sl,hL⟩:=u.any ho I.free fun z=>(hch _ z).2.1 rfl
  exact I.step (ch:=ch) hch (fun b o hL hb hc e n=>u.keep b o e n (fun z=>(List.mem_cons.mp (I.stkSub b z)).elim hL hb) hc) (fun b o _ _ hc e n=>u.any e n hc) (fun b o hc e n=>u.free b o e n hc) (fun b o hc e=>u.there b o e hc) u.tups u.frzs u.tbls (fun m' hm=>by
    obtain ⟨o',es',ep',ho',r'⟩:=hm
    rw [ho] at ho';cases ho'
    exact ⟨_,es',ep',hL,r'⟩) hok hg
theorem Inv.turned {t':Nat} {it:Addr} (I:Inv X pins σ H s) (k:∀ b o,b≠it→s.heap.get? b=some o→h'.get? b=some o) (hn:H it=none) (hL:it≠X.env.locals)
    (h1:it∈X.ex∨X.s₀.heap.objs.size≤it) (h2:∀ x c,X.env.cells.lookup x=some c→c≠it) (h3:∀ p∈X.pn++pins,p.1≠it):Inv X pins σ H { s with heap:=h',toks:=t' }:=by
  have nit:∀ b u,H b=some u→b≠it:=fun b u e z=>by rw [z,hn] at e;cases e
  refine I.step (g':=s.gens) (d':=s.drawn) (ch:=[it]) (fun b hb=>?_) (fun b o _ _ hc e _=>k b o (fun z=>hc (by simp [z])) e) (fun b o _ _ hc e _=>⟨o.slots,k b o (fun z=>hc (by simp [z])) e⟩) (fun _ _ _ _ n=>n)
    (fun b o hc e=>⟨o,k b o (fun z=>hc (by simp [z])) e⟩) (fun _ _ e=>e) (fun _ _ _ e=>e) (fun b ps e=>⟨#[],by rw [e];simp⟩) (fun m hm=>?_) (fun b u e=>?_) I.bare
  · have e:b=it:=by simpa using hb
    subst e
    exact ⟨h1,hL,h2,h3⟩
  · obtain ⟨o,es,ep,ho,r⟩:=hm
    exact ⟨o,es,ep,k _ o (Ne.symm hL) ho,r⟩
  · refine (I.hok b u e).stay (fun c v hc q=>k c v ?_ q) (fun _ q=>q) fun _ _ q=>q
    rcases hc with z | z
    · rw [z];exact nit b u e
    · exact nit c _ z
theorem Inv.tok (I:Inv X pins σ H s) (t:Nat):Inv X pins σ H { s with toks:=t }:=I.un (h':=s.heap) (t':=t) Un.refl I.hok
theorem Inv.kept {t':Nat} (I:Inv X pins σ H s) (k:∀ b u,s.heap.get? b=some u→h'.get? b=some u):Inv X pins σ H { s with heap:=h',toks:=t' }:=I.un (Un.kept k) (I.hok.kept k)
theorem Inv.laid {a:Addr} {o:HO} {t':Nat} (I:Inv X pins σ H s) (k:∀ b u,s.heap.get? b=some u→h'.get? b=some u) (hp:s.heap.objs.size≤a) (new:ObjOk X.prog X.w (upd H a o) h' a o) :
    Inv X pins σ (upd H a o) { s with heap:=h',toks:=t' }:=I.un (Un.laid k hp (I.hok.fresh hp)) (I.hok.laid k hp new)
theorem Inv.write {x e:Addr} {o:HO} {t':Nat} (I:Inv X pins σ H s) (mu:Mut (H x)) (he:e=x∨H e=some (.own x)) (k:∀ b u,b≠e→s.heap.get? b=some u→h'.get? b=some u) (heo:∃ u,h'.get? e=some u)
    (new:ObjOk X.prog X.w (upd H x o) h' x o):Inv X pins σ (upd H x o) { s with heap:=h',toks:=t' }:=I.un (Un.write mu he k heo) (I.hok.write mu he k heo new)
theorem Inv.weak {σ':List (Option V)} (I:Inv X pins σ H s) (hl:σ'.length=σ.length) (w:∀ (i:Nat) v,σ'[i]?=some (some v)→σ[i]?=some (some v)):Inv X pins σ' H s :=
  ⟨I.ok,I.os,I.bare,I.base,let ⟨m,hn,hl'⟩:=I.loc;⟨m,hn,fun i x v e1 e2 e3=>hl' i x v e1 (w i v e2) e3⟩,I.cell,I.free,I.freeC,I.pin,I.hok,hl.trans I.len⟩
theorem Inv.pins_of {pins':List (Addr × Obj)} (I:Inv X pins σ H s) (h:∀ p∈pins',s.heap.get? p.1=some p.2∧H p.1=none∧p.1≠X.env.locals∧p.1∉X.fs∧∀ v,p.2.data≠.cell v):Inv X pins' σ H s :=
  ⟨I.ok,I.os,I.bare,I.base,I.loc,I.cell,I.free,I.freeC,fun p hp=>(List.mem_append.mp hp).elim (fun z=>I.pin p (List.mem_append_left _ z)) (h p),I.hok,I.len⟩
theorem nodup_ix {N:List Str} (hN:N.Nodup) {i j:Nat} {x:Str} (a:N[i]?=some x) (b:N[j]?=some x):i=j:=by
  obtain ⟨h1,e1⟩:=List.getElem?_eq_some_iff.mp a
  obtain ⟨h2,e2⟩:=List.getElem?_eq_some_iff.mp b
  exact (List.getElem_inj hN).mp (e1.trans e2.symm)
theorem store_ok2 {M:Model} {A:Around} {E:Value→Shared→Prop} {i:Nat} {x:Str} {v:V} {u:Value} {Q:Unit→Shared→Prop} (I:Inv X pins σ H s) (hN:X.N.Nodup) (hi:X.N[i]?=some x) (hx:Loc X.env.scope x) (r:RelV v u)
    (h:∀ s',Inv X pins (σ.set i (some v)) H s'→(∃ a,Heap.SameBut a s.heap s'.heap∧(a=X.env.locals∨X.env.cells.lookup x=some a))→Q () s') (hf:X.fn x=true∨X.env.scope.names.lookup x=some .local:=by first | exact .inl rfl | exact .inr rfl | assumption):wpAny M A (storeName X.env x u) Q E s:=by
  obtain ⟨m,hn,hl⟩:=id I.loc
  have hcls:(X.env.scope.kind == .class || (X.env.scope.kind == .module && X.env.locals != X.env.globals))=false:=by rw [I.ok.kind];rfl
  have hiσ:i < σ.length:=by rw [I.len];exact (List.getElem?_eq_some_iff.mp hi).1
  have cne:=I.cne
  have tracked:∀ {a:Addr} {h':Heap},(∃ o,s.heap.get? a=some o∧H a=none)→Heap.SameBut a s.heap h'→HOk X.prog X.w H h':=fun {a h'} ha hs b ob e=>by
    obtain ⟨_,_,hfree⟩:=ha
    refine (I.hok b ob e).stay (fun c w' hc q=>(hs.2 c ?_).trans q) (fun _ q=>q) fun _ _ q=>q
    rintro rfl
    rcases hc with rfl | hc
    · rw [hfree] at e;cases e
    · rw [hfree] at hc;cases hc
  rcases hx with hk | hk
  · refine wpAny_storeName_local hk hn (fun h' hn' hs=>?_) hcls
    obtain ⟨oL,_,_,hoL,_⟩:=id hn
    refine h _ ⟨I.ok,I.os,I.bare,⟨fun b o e n hb hx=>?_,fun b o e n hb hx=>?_,I.base.free,fun b o e hx=>?_,I.base.tups,I.base.frzs,I.base.tbls⟩,⟨_,hn',fun j y v' e1 e2 e3=>?_⟩,fun y c e=>?_,I.free,I.freeC,fun p hp=>?_,tracked ⟨oL,hoL,I.free⟩ hs,by simpa using I.len⟩ ⟨_,hs,.inl rfl⟩
    · exact (hs.2 b (Nat.ne_of_lt (Nat.lt_of_lt_of_le (Heap.lt_size e) I.ok.above))).trans (I.base.keep b o e n hb hx)
    · obtain ⟨sl,e1⟩:=I.base.slot b o e n hb hx
      exact ⟨sl,(hs.2 b (Nat.ne_of_lt (Nat.lt_of_lt_of_le (Heap.lt_size e) I.ok.above))).trans e1⟩
    · obtain ⟨o',e1⟩:=I.base.there b o e hx
      exact ⟨o',(hs.2 b (Nat.ne_of_lt (Nat.lt_of_lt_of_le (Heap.lt_size e) I.ok.above))).trans e1⟩
    · by_cases hj:j=i
      · subst hj
        rw [hi] at e1;cases e1
        rw [List.getElem?_set_self hiσ] at e2
        cases e2
        exact ⟨u,r,.inl ⟨hk,by simp⟩⟩
      · rw [List.getElem?_set_ne (Ne.symm hj)] at e2
        obtain ⟨u',r',q⟩:=hl j y v' e1 e2 e3
        refine ⟨u',r',?_⟩
        rcases q with ⟨k,e⟩ | ⟨k,c,e,z⟩
        · refine .inl ⟨k,?_⟩
          have:y≠x:=fun e=>hj (nodup_ix hN e1 (e▸hi))
          simp [this,e]
        · exact .inr ⟨k,c,e,z.sameBut hs (cne y c e)⟩
    · obtain ⟨w',z⟩:=I.cell y c e
      exact ⟨w',z.sameBut hs (cne y c e)⟩
    · obtain ⟨e,n,ne,nf,d⟩:=I.pin p hp
      exact ⟨(hs.2 p.1 ne).trans e,n,ne,nf,d⟩
  · have hfn:X.fn x=true:=by
      rcases hf with z | z
      · exact z
      · rw [z] at hk;cases hk
    obtain ⟨c,hc⟩:=I.ok.has x (.inl hk)
    obtain ⟨w',z⟩:=I.cell x c hc
    refine wpAny_storeName_cell I.ok.kind hk hc z (fun h' hc' hs=>?_)
    obtain ⟨oc,hoc,hocd⟩:=id z
    refine h { s with heap:=h' } ⟨I.ok,I.os,I.bare,⟨fun b o e n hb hx=>?_,fun b o e n hb hx=>?_,I.base.free,fun b o e hx=>?_,I.base.tups,I.base.frzs,I.base.tbls⟩,⟨m,hn.sameBut hs (Ne.symm (cne x c hc)),fun j y v' e1 e2 e3=>?_⟩,fun y c' e=>?_,I.free,I.freeC,fun p hp=>?_,tracked ⟨oc,hoc,I.freeC x c hc⟩ hs,by simpa using I.len⟩ ⟨c,hs,.inr hc⟩
    · exact (hs.2 b (Nat.ne_of_lt (Nat.lt_of_lt_of_le (Heap.lt_size e) (I.ok.cab x c hfn hc)))).trans (I.base.keep b o e n hb hx)
    · obtain ⟨sl,e1⟩:=I.base.slot b o e n hb hx
      exact ⟨sl,(hs.2 b (Nat.ne_of_lt (Nat.lt_of_lt_of_le (Heap.lt_size e) (I.ok.cab x c hfn hc)))).trans e1⟩
    · obtain ⟨o',e1⟩:=I.base.there b o e hx
      exact ⟨o',(hs.2 b (Nat.ne_of_lt (Nat.lt_of_lt_of_le (Heap.lt_size e) (I.ok.cab x c hfn hc)))).trans e1⟩
    · by_cases hj:j=i
      · subst hj
        rw [hi] at e1;cases e1
        rw [List.getElem?_set_self hiσ] at e2
        cases e2
        exact ⟨u,r,.inr ⟨.inl hk,c,hc,hc'⟩⟩
      · rw [List.getElem?_set_ne (Ne.symm hj)] at e2
        obtain ⟨u',r',q⟩:=hl j y v' e1 e2 e3
        refine ⟨u',r',?_⟩
        rcases q with q | ⟨k,c',e,z'⟩
        · exact .inl q
        · refine .inr ⟨k,c',e,z'.sameBut hs ?_⟩
          rintro rfl
          exact hj (nodup_ix hN e1 (I.ok.inj _ _ _ e hc▸hi))
    · by_cases hcc:c'=c
      · subst hcc;exact ⟨_,hc'⟩
      · obtain ⟨w2,z2⟩:=I.cell y c' e
        exact ⟨w2,z2.sameBut hs hcc⟩
    · obtain ⟨e,n,ne,nf,d⟩:=I.pin p hp
      refine ⟨(hs.2 p.1 ?_).trans e,n,ne,nf,d⟩
      intro q
      rw [q,hoc] at e
      have q':oc=p.2:=Option.some.inj e
      exact d w' (by rw [←q'];exact hocd)
theorem store_ok {M:Model} {A:Around} {E:Value→Shared→Prop} {i:Nat} {x:Str} {v:V} {u:Value} {Q:Unit→Shared→Prop} (I:Inv X pins σ H s) (hN:X.N.Nodup) (hi:X.N[i]?=some x) (hx:Loc X.env.scope x) (r:RelV v u)
    (h:∀ s',Inv X pins (σ.set i (some v)) H s'→Q () s') (hf:X.fn x=true∨X.env.scope.names.lookup x=some .local:=by first | exact .inl rfl | exact .inr rfl | assumption):wpAny M A (storeName X.env x u) Q E s :=
  store_ok2 I hN hi hx r (fun s' I' _=>h s' I') hf
theorem Inv.call' {s':Shared} {ch:List Addr} (I:Inv X pins σ H s) (ho:s'.os=s.os) (u:Un (frs X.stack) ch H H' s.heap s'.heap) (hok:HOk X.prog X.w H' s'.heap) (hg:AllBare s'.gens)
    (hch:∀ b∈ch,(b∈X.ex∨X.s₀.heap.objs.size≤b)∧b≠X.env.locals∧(∀ x c,X.env.cells.lookup x=some c→c≠b)∧∀ p∈X.pn++pins,p.1≠b):Inv X pins σ H' s':=by
  obtain ⟨h',g',d',t',o'⟩:=s'
  have e:o'=s.os:=ho
  subst e
  exact I.call (g':=g') (t':=t') (d':=d') u hok hg hch
end
abbrev XK:=Value→Option Addr→Hp→Prop
abbrev St:=List (Option V)
abbrev VK:=V→Hp→Prop
abbrev TE:=St→Hp→VK→Prop
abbrev TT:=St→Hp→(Bool→Hp→Prop)→Prop
abbrev TA:=St→Hp→(List V→Hp→Prop)→Prop
structure Ends where
  nx:St→Hp→Prop
  rt:VK
  bk:St→Hp→Prop:=fun _ _=>False
  ct:St→Hp→Prop:=fun _ _=>False
abbrev TS:=Ends→St→Hp→Prop
def EP (X:Cx) (pins:List (Addr × Obj)) (σ:St) (Q:VK) (u:Value) (s':Shared):Prop:=∃ v H',Inv X pins σ H' s'∧RelV v u∧Q v H'
def TP (X:Cx) (pins:List (Addr × Obj)) (σ:St) (Q:Bool→Hp→Prop) (b:Bool) (s':Shared):Prop:=∃ H',Inv X pins σ H' s'∧Q b H'
def AP (X:Cx) (pins:List (Addr × Obj)) (σ:St) (Q:List V→Hp→Prop) (us:List Value) (s':Shared):Prop:=∃ vs H',Inv X pins σ H' s'∧Vals vs us∧Q vs H'
def SP (X:Cx) (pins:List (Addr × Obj)) (D:Ends) (f:Flow) (s':Shared):Prop :=
  match f with
  | .next=>∃ σ' H',Inv X pins σ' H' s'∧D.nx σ' H'
  | .brk=>∃ σ' H',Inv X pins σ' H' s'∧D.bk σ' H'
  | .cont=>∃ σ' H',Inv X pins σ' H' s'∧D.ct σ' H'
  | .ret u=>∃ v σ' H',Inv X pins σ' H' s'∧RelV v u∧D.rt v H'
def PE (X:Cx) (e:Expr) (t:TE):Prop :=
  ∀ (pins:List (Addr × Obj)) (s:Shared) (σ:St) (H:Hp) (Q:VK),Inv X pins σ H s→t σ H Q→wpAny (model X.prog X.w) X.A (eval e X.env) (EP X pins σ Q) X.xe s
def PT (X:Cx) (e:Expr) (t:TT):Prop :=
  ∀ (pins:List (Addr × Obj)) (s:Shared) (σ:St) (H:Hp) (Q:Bool→Hp→Prop),Inv X pins σ H s→t σ H Q→wpAny (model X.prog X.w) X.A (isTrue e X.env (eval e X.env)) (TP X pins σ Q) X.xe s
def PW (X:Cx) (e:Expr) (t:TT):Prop :=
  ∀ (whole:Sem Value) (pins:List (Addr × Obj)) (s:Shared) (σ:St) (H:Hp) (Q:Bool→Hp→Prop),Inv X pins σ H s→t σ H Q→wpAny (model X.prog X.w) X.A (isTrue e X.env whole) (TP X pins σ Q) X.xe s
theorem PW.pt {X:Cx} {e:Expr} {t:TT} (h:PW X e t):PT X e t:=h _
def PA (X:Cx) (es:List Expr) (t:TA):Prop :=
  ∀ (pos:Pos) (pins:List (Addr × Obj)) (s:Shared) (σ:St) (H:Hp) (Q:List V→Hp→Prop),Inv X pins σ H s→t σ H Q→wpAny (model X.prog X.w) X.A (spliced (backTo pos (starEach es X.env))) (AP X pins σ Q) X.xe s
def PS (X:Cx) (st:Stmt) (t:TS):Prop :=
  ∀ (pins:List (Addr × Obj)) (s:Shared) (σ:St) (H:Hp) (D:Ends),Inv X pins σ H s→t D σ H→wpAny (model X.prog X.w) X.A (exec st X.env) (SP X pins D) X.xe s
def PSs (X:Cx) (st:List Stmt) (t:TS):Prop :=
  ∀ (pins:List (Addr × Obj)) (s:Shared) (σ:St) (H:Hp) (D:Ends),Inv X pins σ H s→t D σ H→wpAny (model X.prog X.w) X.A (execs st X.env) (SP X pins D) X.xe s
theorem thn {α:Type} {t:Sem α} {Q Q':α→Shared→Prop} {M:Model} {A:Around} {E:Value→Shared→Prop} {s:Shared} (h:wpAny M A t Q E s) (hQ:∀ a s,Q a s→Q' a s):wpAny M A t Q' E s:=wpAny_mono h hQ fun _ _ x=>x
end L2
namespace L2
open PySem PySem.Spec PyProof.Rows
section
variable {X:Cx}
def tVar (i:Nat):TE:=fun σ H Q=>∃ v,σ[i]?=some (some v)∧Q v H
def tC (v:V):TE:=fun _ H Q=>Q v H
theorem pe_var {i:Nat} {x:Str} {pos:Pos} (hN:X.N[i]?=some x) (hv:Vis X.env.scope x) (hd:(x == ("__debug__":Str))=false:=by decide) (hcd:(x == ("__classdict__":Str))=false:=by decide):PE X (.Name x pos) (tVar i):=by
  intro pins s σ H Q I h
  obtain ⟨v,e,h⟩:=h
  obtain ⟨m,hn,hl⟩:=I.loc
  obtain ⟨u,r,l⟩:=hl i x v hN e hv
  have fin:EP X pins σ Q u s:=⟨v,H,I,r,h⟩
  rcases l with ⟨hk,hm⟩ | ⟨hk,c,hc,hcell⟩
  · exact wpAny_Name (wpAny_loadName_local I.ok.kind hk hn hm fin) hd
  · rcases hk with hk | hk
    · exact wpAny_Name (wpAny_loadName_cell I.ok.kind hk hc hcell fin) hd
    · exact wpAny_Name (wpAny_loadName_free I.ok.kind hk hc hcell fin hcd) hd
theorem pe_int {i j pos}:PE X (.Constant (.int i) j pos) (tC (.int i)):=fun _ _ _ H _ I h=>wpAny_Constant_int ⟨.int i,H,I.tok _,⟨_,rfl⟩,h⟩
theorem pe_bl {b j pos}:PE X (.Constant (.bool b) j pos) (tC (.bl b)):=fun _ _ _ H _ I h=>Constant_bool ⟨.bl b,H,I,rfl,h⟩
theorem pe_non {j pos}:PE X (.Constant .none j pos) (tC .non):=fun _ _ _ H _ I h=>Constant_none ⟨.non,H,I,rfl,h⟩
theorem pe_str {x j pos}:PE X (.Constant (.str x) j pos) (tC (.str x)):=fun _ _ _ H _ I h=>Calls.Constant_str ⟨.str x,H,I.tok _,⟨_,rfl⟩,h⟩
def Gl (X:Cx) (x:Str):Prop:=X.env.kindOf x=some .globalImplicit
theorem ld_glob {E:Value→Shared→Prop} {pins:List (Addr × Obj)} {s:Shared} {σ:St} {H:Hp} {x:Str} {u:Value} {pos:Pos} {Q:Value→Shared→Prop} (I:Inv X pins σ H s) (hg:Gl X x) (hm:X.mg x=some u) (h:Q u s)
    (hd:(x == ("__debug__":Str))=false:=by decide):wpAny (model X.prog X.w) X.A (eval (.Name x pos) X.env) Q E s :=
  Calls.Name_function_global I.ok.kind hg (Calls.loadGlobal_global (by rw [I.ok.glob];exact I.mod.glob.keeps I.bk) hm h) hd
theorem ld_blt {E:Value→Shared→Prop} {pins:List (Addr × Obj)} {s:Shared} {σ:St} {H:Hp} {x:Str} {u:Value} {pos:Pos} {Q:Value→Shared→Prop} (I:Inv X pins σ H s) (hg:Gl X x) (hm:X.mg x=none) (hv:bootBuiltins x=some u) (h:Q u s)
    (hn:x≠"__name__":=by decide) (hd:(x == ("__debug__":Str))=false:=by decide):wpAny (model X.prog X.w) X.A (eval (.Name x pos) X.env) Q E s:=by
  obtain ⟨mb,h1,h2⟩:=I.mod.blt
  exact Calls.Name_function_global I.ok.kind hg (Calls.loadGlobal_builtin (by rw [I.ok.glob];exact I.mod.glob.keeps I.bk) hm (by rw [I.ok.blt];exact h1.keeps I.bk) ((h2 x hn).trans hv) h) hd
theorem pe_glob {x:Str} {v:V} {u:Value} {pos:Pos} (hg:Gl X x) (hm:X.mg x=some u) (r:RelV v u) (hd:(x == ("__debug__":Str))=false:=by decide):PE X (.Name x pos) (tC v) :=
  fun _ _ _ H _ I h=>ld_glob I hg hm ⟨v,H,I,r,h⟩ hd
theorem pe_bltn {x:Str} {v:V} {u:Value} {pos:Pos} (hg:Gl X x) (hm:X.mg x=none) (hv:bootBuiltins x=some u) (r:RelV v u) (hn:x≠"__name__":=by decide) (hd:(x == ("__debug__":Str))=false:=by decide):PE X (.Name x pos) (tC v) :=
  fun _ _ _ H _ I h=>ld_blt I hg hm hv ⟨v,H,I,r,h⟩ hn hd
def t2I (ta tb:TE) (k:Int→Int→Hp→Prop):St→Hp→Prop:=fun σ H=>ta σ H fun x H1=>tb σ H1 fun y H2=>∃ i j,x=.int i∧y=.int j∧k i j H2
def tMul (ta tb:TE):TE:=fun σ H Q=>t2I ta tb (fun i j H2=>(-(2 ^ 64) < i∧i < 2 ^ 64)∧Q (.int (i * j)) H2) σ H
variable {a b:Expr} {ta tb:TE} {pos:Pos}
def PC (X:Cx) (op:CmpOp) (a b:Expr) (t:TE):Prop :=
  ∀ (pins:List (Addr × Obj)) (s:Shared) (σ:St) (H:Hp) (Q:VK),Inv X pins σ H s→t σ H Q →
    wpAny (model X.prog X.w) X.A (eval a X.env) (fun v s₁=>wpAny (model X.prog X.w) X.A (eval b X.env) (fun u s₂=>wpAny (model X.prog X.w) X.A (compareOp op v u) (EP X pins σ Q) X.xe s₂) X.xe s₁) X.xe s
theorem nobehind (b:Expr) {op:CmpOp} (h:op≠.In) (h2:op≠.NotIn):behindInMarks op b=false:=by
  have e1:(op == CmpOp.In)=false:=by cases op <;> first | rfl | exact absurd rfl h
  have e2:(op == CmpOp.NotIn)=false:=by cases op <;> first | rfl | exact absurd rfl h2
  cases b <;> simp [behindInMarks,e1,e2]
def tIsN (ta:TE):TE:=fun σ H Q=>ta σ H fun x H1=>Q (.bl (decide (x=.non))) H1
def tNotN (ta:TE):TE:=fun σ H Q=>ta σ H fun x H1=>Q (.bl (!decide (x=.non))) H1
theorem RelV.none_iff {x:V} {v:Value} (r:RelV x v):(v == Value.none)=decide (x=.non):=by
  cases x with
  | non=>cases r;rfl
  | bl _=>cases r;rfl
  | int _=>obtain ⟨t,rfl⟩:=r;rfl
  | str _=>obtain ⟨t,rfl⟩:=r;rfl
  | byt _=>obtain ⟨t,rfl⟩:=r;rfl
  | flt _=>obtain ⟨t,rfl⟩:=r;rfl
  | ref _=>cases r;rfl
  | ty _=>cases r;rfl
theorem pc_isN {j pos'} (ha:PE X a ta):PC X .Is a (.Constant .none j pos') (tIsN ta):=by
  intro pins s σ H Q I h
  refine thn (ha pins s σ H _ I h) fun v s1 ⟨x,H1,I1,r1,q1⟩=>?_
  exact Constant_none (is_none_gen ⟨.bl _,H1,I1,by rw [r1.none_iff];rfl,q1⟩)
theorem pc_notN {j pos'} (ha:PE X a ta):PC X .IsNot a (.Constant .none j pos') (tNotN ta):=by
  intro pins s σ H Q I h
  refine thn (ha pins s σ H _ I h) fun v s1 ⟨x,H1,I1,r1,q1⟩=>?_
  exact Constant_none (isnot_none_gen ⟨.bl _,H1,I1,by rw [r1.none_iff];rfl,q1⟩)
def tB (t:TE):TT:=fun σ H Q=>t σ H fun x H1=>∃ c,x=.bl c∧Q c H1
theorem pe_cmp {op:CmpOp} {t:TE} (h:PC X op a b t) (h1:behindInMarks op b=false:=by first | exact nobehind _ (by decide) (by decide) | rfl):PE X (.Compare a [op] [b] pos) t:=fun pins s σ H Q I hw=>wpAny_Compare1 (h pins s σ H Q I hw) h1
theorem pt_cmp {op:CmpOp} {t:TE} (h:PC X op a b t) (h1:behindInMarks op b=false:=by first | exact nobehind _ (by decide) (by decide) | rfl):PT X (.Compare a [op] [b] pos) (tB t):=by
  intro pins s σ H Q I hw
  refine wpAny_isTrue_Compare1 (thn (h pins s σ H _ I hw) fun v s1 h1=>thn h1 fun u s2 h2=>thn h2 fun c s3 ⟨x,H1,I1,r1,q1⟩=>?_) h1
  obtain ⟨d,rfl,q⟩:=q1
  cases r1
  exact wpAny_truthy_bool ⟨H1,I1,q⟩
theorem pt_val {e:Expr} {t:TE} (h:PE X e t) (he:∀ whole,isTrue e X.env whole=(do let v ←whole;standAt e.pos;holding [v] (truthy v)):=by intro _;rfl):PT X e (tB t):=by
  intro pins s σ H Q I hw
  refine isTrue_plain (thn (h pins s σ H _ I hw) fun v s1 ⟨x,H1,I1,r1,q1⟩=>?_) (he _)
  obtain ⟨d,rfl,q⟩:=q1
  cases r1
  exact wpAny_truthy_bool ⟨H1,I1,q⟩
variable {tA tB':TT} {rest:List Expr}
def tAnd (t u:TT):TT:=fun σ H Q=>t σ H fun c H1=>if c=true then u σ H1 Q else Q false H1
def tOr (t u:TT):TT:=fun σ H Q=>t σ H fun c H1=>if c=true then Q true H1 else u σ H1 Q
def tNot (t:TT):TT:=fun σ H Q=>t σ H fun c H1=>Q (!c) H1
theorem pw_and1 (ha:PT X a tA):PW X (.BoolOp .And [a] pos) tA:=by
  intro wh pins s σ H Q I h
  refine isTrue_and (thn (ha pins s σ H Q I h) fun c s1 e=>?_)
  cases c with
  | true=>exact isTrue_and_nil e
  | false=>exact e
theorem pw_or1 (ha:PT X a tA):PW X (.BoolOp .Or [a] pos) tA:=by
  intro wh pins s σ H Q I h
  refine isTrue_or (thn (ha pins s σ H Q I h) fun c s1 e=>?_)
  cases c with
  | false=>exact isTrue_or_nil e
  | true=>exact e
theorem pw_and (ha:PT X a tA) (hb:PW X (.BoolOp .And (b :: rest) pos) tB'):PW X (.BoolOp .And (a :: b :: rest) pos) (tAnd tA tB'):=by
  intro wh pins s σ H Q I h
  refine isTrue_and (thn (ha pins s σ H _ I h) fun c s1 ⟨H1,I1,q1⟩=>?_)
  cases c with
  | true=>exact hb wh pins s1 σ H1 Q I1 q1
  | false=>exact ⟨H1,I1,q1⟩
theorem pw_or (ha:PT X a tA) (hb:PW X (.BoolOp .Or (b :: rest) pos) tB'):PW X (.BoolOp .Or (a :: b :: rest) pos) (tOr tA tB'):=by
  intro wh pins s σ H Q I h
  refine isTrue_or (thn (ha pins s σ H _ I h) fun c s1 ⟨H1,I1,q1⟩=>?_)
  cases c with
  | true=>exact ⟨H1,I1,q1⟩
  | false=>exact hb wh pins s1 σ H1 Q I1 q1
theorem pt_not (ha:PT X a tA):PT X (.UnaryOp .Not a pos) (tNot tA):=by
  intro pins s σ H Q I h
  exact isTrue_not (ha pins s σ H (fun c H1=>Q (!c) H1) I h)
def tAndV (ta tb:TE):TE:=fun σ H Q=>ta σ H fun x H1=>∃ c,x=.bl c∧if c=true then tb σ H1 Q else Q (.bl false) H1
def tNotV (ta:TE):TE:=fun σ H Q=>ta σ H fun x H1=>∃ c,x=.bl c∧Q (.bl (!c)) H1
theorem pe_one {op} {t:TE} (h:PE X a t):PE X (.BoolOp op [a] pos) t:=fun pins s σ H Q I hw=>BoolOp_one (h pins s σ H Q I hw)
theorem pe_and (ha:PE X a ta) (hb:PE X (.BoolOp .And (b :: rest) pos) tb):PE X (.BoolOp .And (a :: b :: rest) pos) (tAndV ta tb):=by
  intro pins s σ H Q I h
  refine BoolOp_and (thn (ha pins s σ H _ I h) fun v s1 ⟨x,H1,I1,r1,q1⟩=>?_)
  obtain ⟨c,rfl,q1⟩:=q1
  cases r1
  refine wpAny_truthy_bool ?_
  cases c with
  | true=>exact hb pins s1 σ H1 Q I1 q1
  | false=>exact ⟨.bl false,H1,I1,rfl,q1⟩
theorem pe_not (ha:PE X a ta):PE X (.UnaryOp .Not a pos) (tNotV ta):=by
  intro pins s σ H Q I h
  refine UnaryOp_ (thn (ha pins s σ H _ I h) fun v s1 ⟨x,H1,I1,r1,q1⟩=>?_)
  obtain ⟨c,rfl,q1⟩:=q1
  cases r1
  exact not_of (wpAny_truthy_bool ⟨.bl (!c),H1,I1,rfl,q1⟩)
def tIf (t:TT) (ta tb:TE):TE:=fun σ H Q=>t σ H fun c H1=>if c=true then ta σ H1 Q else tb σ H1 Q
theorem pe_ifExp {c:Expr} (hc:PT X c tA) (ha:PE X a ta) (hb:PE X b tb):PE X (.IfExp c a b pos) (tIf tA ta tb):=by
  intro pins s σ H Q I h
  refine wpAny_IfExp (thn (hc pins s σ H _ I h) fun d s1 ⟨H1,I1,q1⟩=>?_)
  cases d with
  | true=>exact ha pins s1 σ H1 Q I1 q1
  | false=>exact hb pins s1 σ H1 Q I1 q1
end
end L2
namespace L2
open PySem PySem.Spec PyProof.Rows
def SqL (K:PySem.W.Frag) (H:Hp) (a:Addr) (xs:List V):Prop :=
  Rd H a (.lst xs) ∨
    ∃ (o:Obj) (its:Array Value) (n:Nat),K.lookup a=some o∧o.cls=.type "list"∧o.dict=none∧o.data=.seq its n∧its.size≤sizeLine∧Vals xs its.toList
def SqT (K:PySem.W.Frag) (H:Hp) (a:Addr) (xs:List V):Prop :=
  Rd H a (.tup xs) ∨
    ∃ (o:Obj) (its:Array Value) (n:Nat),K.lookup a=some o∧o.cls=.type "tuple"∧o.data=.seq its n∧its.size≤sizeLine∧Vals xs its.toList
def absV:Value→Option V
  | .none=>some .non
  | .bool b=>some (.bl b)
  | .int i _=>some (.int i)
  | .str x _=>some (.str x)
  | .bytes b _=>some (.byt b)
  | .float b _=>some (.flt b)
  | .ref a=>some (.ref a)
  | .type n=>some (.ty n)
  | _=>none
theorem RelV.abs {x:V} {u:Value} (r:RelV x u):absV u=some x:=by
  cases x with
  | non=>cases r;rfl
  | bl _=>cases r;rfl
  | int _=>obtain ⟨t,rfl⟩:=r;rfl
  | str _=>obtain ⟨t,rfl⟩:=r;rfl
  | byt _=>obtain ⟨t,rfl⟩:=r;rfl
  | flt _=>obtain ⟨t,rfl⟩:=r;rfl
  | ref _=>cases r;rfl
  | ty _=>cases r;rfl
theorem RelV.inj {x y:V} {u:Value} (r:RelV x u) (q:RelV y u):x=y:=Option.some.inj (r.abs.symm.trans q.abs)
theorem Vals.inj:∀ {xs ys:List V} {us:List Value},Vals xs us→Vals ys us→xs=ys
  | _,_,_,.nil,.nil=>rfl
  | _,_,_,.cons r t,.cons r' t'=>by rw [r.inj r',Vals.inj t t']
section
variable {X:Cx} {pins:List (Addr × Obj)} {σ:St} {H:Hp} {s:Shared} {a:Addr} {xs ys:List V}
theorem SqL.of {K:PySem.W.Frag} (h:H a=some (.lst xs)):SqL K H a xs:=.inl (.inl h)
theorem SqT.of {K:PySem.W.Frag} (h:H a=some (.tup xs)):SqT K H a xs:=.inl (.inl h)
theorem Inv.list (I:Inv X pins σ H s) (h:SqL X.K H a xs):∃ its:List Value,Vals xs its∧PlainL s.heap a its.toArray∧xs.length≤sizeLine:=by
  rcases h with h | ⟨o,its,n,hk,hc,hd,hs,hz,r⟩
  · obtain ⟨z,its,n,r,e⟩:=h.ok I.hok
    exact ⟨its,r,⟨_,n,e,rfl,rfl,rfl⟩,z⟩
  · refine ⟨its.toList,r,⟨o,n,I.kIn a o hk,hc,hd,by simpa using hs⟩,?_⟩
    have e:=r.length
    simp only [Array.length_toList] at e
    omega
theorem Inv.tuple (I:Inv X pins σ H s) (h:SqT X.K H a xs):∃ its:List Value,Vals xs its∧IsTup s.heap a its.toArray∧xs.length≤sizeLine:=by
  rcases h with h | ⟨o,its,n,hk,hc,hs,hz,r⟩
  · obtain ⟨z,its,r,p⟩:=h.ok I.hok
    exact ⟨its,r,p.is,z⟩
  · refine ⟨its.toList,r,⟨o,I.kIn a o hk,hc,n,by simpa using hs⟩,?_⟩
    have e:=r.length
    simp only [Array.length_toList] at e
    omega
theorem Inv.list_inj (I:Inv X pins σ H s) (h:SqL X.K H a xs) (h':SqL X.K H a ys):xs=ys:=by
  obtain ⟨its,r,⟨o,n,e,_,_,d⟩,_⟩:=I.list h
  obtain ⟨its',r',⟨o',n',e',_,_,d'⟩,_⟩:=I.list h'
  rw [e] at e';cases e'
  rw [d] at d'
  injection d' with d1 _
  have:its=its':=by simpa using congrArg Array.toList d1
  subst this
  exact r.inj r'
theorem Inv.tuple_inj (I:Inv X pins σ H s) (h:SqT X.K H a xs) (h':SqT X.K H a ys):xs=ys:=by
  obtain ⟨its,r,⟨o,e,_,n,d⟩,_⟩:=I.tuple h
  obtain ⟨its',r',⟨o',e',_,n',d'⟩,_⟩:=I.tuple h'
  rw [e] at e';cases e'
  rw [d] at d'
  injection d' with d1 _
  have:its=its':=by simpa using congrArg Array.toList d1
  subst this
  exact r.inj r'
end
abbrev Cx.wish (X:Cx) (E:Value→Shared→Prop):Cx:={ X with xe:=E }
abbrev Cx.nox (X:Cx):Cx:=X.wish fun _ _=>False
theorem Cx.Ok.wish {X:Cx} (ok:X.Ok) (E:Value→Shared→Prop):(X.wish E).Ok :=
  ⟨ok.mod,ok.kind,ok.glob,ok.blt,ok.above,ok.inj,ok.has,ok.cab,ok.hd,ok.frames,ok.stk,ok.exf,ok.bs,ok.bsz,ok.noex,ok.exfs,ok.funs,ok.frf⟩
theorem Cx.Ok.unwish {X:Cx} {E:Value→Shared→Prop} (ok:(X.wish E).Ok):X.Ok :=
  ⟨ok.mod,ok.kind,ok.glob,ok.blt,ok.above,ok.inj,ok.has,ok.cab,ok.hd,ok.frames,ok.stk,ok.exf,ok.bs,ok.bsz,ok.noex,ok.exfs,ok.funs,ok.frf⟩
section
variable {X:Cx} {pins:List (Addr × Obj)} {σ:St} {H:Hp} {s:Shared} {E:Value→Shared→Prop}
theorem Inv.wish (I:Inv X pins σ H s) (E:Value→Shared→Prop):Inv (X.wish E) pins σ H s:=⟨I.ok.wish E,I.os,I.bare,I.base,I.loc,I.cell,I.free,I.freeC,I.pin,I.hok,I.len⟩
theorem Inv.unwish (I:Inv (X.wish E) pins σ H s):Inv X pins σ H s:=⟨I.ok.unwish,I.os,I.bare,I.base,I.loc,I.cell,I.free,I.freeC,I.pin,I.hok,I.len⟩
theorem SP.unwish {D:Ends} {f:Flow} {s':Shared} (h:SP (X.wish E) pins D f s'):SP X pins D f s':=by
  cases f with
  | next=>obtain ⟨σ',H',I,q⟩:=h;exact ⟨σ',H',I.unwish,q⟩
  | brk=>obtain ⟨σ',H',I,q⟩:=h;exact ⟨σ',H',I.unwish,q⟩
  | cont=>obtain ⟨σ',H',I,q⟩:=h;exact ⟨σ',H',I.unwish,q⟩
  | ret u=>obtain ⟨v,σ',H',I,r,q⟩:=h;exact ⟨v,σ',H',I.unwish,r,q⟩
theorem PSs.nox {st:List Stmt} {t:TS} (h:PSs X.nox st t):PSs X st t:=fun pins s σ H D I hw =>
  wpAny_mono (h pins s σ H D (I.wish _) hw) (fun _ _ q=>q.unwish) fun _ _ z=>False.elim z
end
section
variable {X:Cx} {st:Stmt} {rest:List Stmt} {t u:TS} {e:Expr} {te:TE} {pos:Pos}
def tNext:TS:=fun D σ H=>D.nx σ H
def tSeq (t u:TS):TS:=fun D σ H=>t { D with nx:=u D } σ H
theorem pss_nil:PSs X [] tNext:=fun _ _ σ H _ I h=>wpAny_execs_nil ⟨σ,H,I,h⟩
theorem pss_cons (h1:PS X st t) (h2:PSs X rest u):PSs X (st :: rest) (tSeq t u):=by
  intro pins s σ H D I h
  refine wpAny_execs_cons (thn (h1 pins s σ H { D with nx:=u D } I h) fun f s1 q=>?_)
  cases f with
  | next =>
    obtain ⟨σ',H',I',q⟩:=q
    exact h2 pins s1 σ' H' D I' q
  | ret v=>exact q
  | brk=>exact q
  | cont=>exact q
theorem pss_one (h1:PS X st t):PSs X [st] t:=by
  intro pins s σ H D I h
  refine wpAny_execs_cons (thn (h1 pins s σ H D I h) fun f s1 q=>?_)
  cases f with
  | next=>exact wpAny_execs_nil q
  | ret v=>exact q
  | brk=>exact q
  | cont=>exact q
theorem Inv.quiet {pins:List (Addr × Obj)} {σ:St} {H:Hp} {s:Shared} (I:Inv X pins σ H s):interactive X.env=false:=by simp [interactive,I.ok.kind]
def tDrop (te:TE):TS:=fun D σ H=>te σ H fun _ H1=>D.nx σ H1
theorem ps_expr (he:PE X e te) (hs:swapsWith e none pos.line X.env=pure false:=by rfl):PS X (.Expr e pos) (tDrop te):=by
  intro pins s σ H D I h
  exact wpAny_Expr_any (thn (he pins s σ H _ I h) fun v s1 ⟨x,H1,I1,r1,q1⟩=>⟨σ,H1,I1,q1⟩) I.quiet hs
def tRet (te:TE):TS:=fun D σ H=>te σ H D.rt
theorem ps_ret (he:PE X e te):PS X (.Return (some e) pos) (tRet te):=by
  intro pins s σ H D I h
  exact wpAny_Return_some (thn (he pins s σ H _ I h) fun v s1 ⟨x,H1,I1,r1,q1⟩=>⟨x,σ,H1,I1,r1,q1⟩)
def tIfS (c:TT) (t u:TS):TS:=fun D σ H=>c σ H fun b H1=>if b=true then t D σ H1 else u D σ H1
theorem ps_if {c:Expr} {a b:List Stmt} {tc:TT} (hc:PT X c tc) (ha:PSs X a t) (hb:PSs X b u):PS X (.If c a b pos) (tIfS tc t u):=by
  intro pins s σ H D I h
  refine wpAny_If (thn (hc pins s σ H _ I h) fun d s1 ⟨H1,I1,q1⟩=>?_)
  cases d with
  | true=>exact ha pins s1 σ H1 D I1 q1
  | false=>exact hb pins s1 σ H1 D I1 q1
def tNever:TS:=fun _ _ _=>False
end
abbrev TG:=V→St→Hp→(St→Hp→Prop)→Prop
abbrev TGs:=List V→St→Hp→(St→Hp→Prop)→Prop
def PG (X:Cx) (target:Expr) (t:TG):Prop :=
  ∀ (pins:List (Addr × Obj)) (s:Shared) (σ:St) (H:Hp) (v:V) (u:Value) (Q:St→Hp→Prop),Inv X pins σ H s→RelV v u→t v σ H Q →
    wpAny (model X.prog X.w) X.A (assign target X.env u) (fun _ s'=>∃ σ' H',Inv X pins σ' H' s'∧Q σ' H') X.xe s
def PGs (X:Cx) (ts:List Expr) (t:TGs):Prop :=
  ∀ (pins:List (Addr × Obj)) (s:Shared) (σ:St) (H:Hp) (vs:List V) (us:List Value) (Q:St→Hp→Prop),Inv X pins σ H s→Vals vs us→t vs σ H Q →
    wpAny (model X.prog X.w) X.A (assignInOrder ((assignEach ts X.env).map (·.2)) us) (fun _ s'=>∃ σ' H',Inv X pins σ' H' s'∧Q σ' H') X.xe s
abbrev TSet:=V→V→V→Hp→(Hp→Prop)→Prop
def PSet (X:Cx) (t:TSet):Prop :=
  ∀ (pins:List (Addr × Obj)) (s:Shared) (σ:St) (H:Hp) (o i v:V) (ov iv u:Value) (Q:Hp→Prop),Inv X pins σ H s→RelV o ov→RelV i iv→RelV v u→t o i v H Q →
    wpAny (model X.prog X.w) X.A (setItem ov iv u) (fun _ s'=>∃ H',Inv X pins σ H' s'∧Q H') X.xe s
abbrev TIp:=V→V→Hp→VK→Prop
def PIp (X:Cx) (op:Operator) (t:TIp):Prop :=
  ∀ (pins:List (Addr × Obj)) (s:Shared) (σ:St) (H:Hp) (x y:V) (v u:Value) (Q:VK),Inv X pins σ H s→RelV x v→RelV y u→t x y H Q →
    wpAny (model X.prog X.w) X.A (inplaceOp op v u) (EP X pins σ Q) X.xe s
section
variable {X:Cx} {pos:Pos}
def gName (i:Nat):TG:=fun v σ H Q=>Q (σ.set i (some v)) H
theorem pg_name {i:Nat} {x:Str} (hN:X.N.Nodup) (hi:X.N[i]?=some x) (hx:Loc X.env.scope x) (hf:X.fn x=true∨X.env.scope.names.lookup x=some .local:=by first | exact .inl rfl | exact .inr rfl | assumption):PG X (.Name x pos) (gName i):=by
  intro pins s σ H v u Q I r h
  exact wpAny_assign_Name (store_ok I hN hi hx r (fun s' I'=>⟨_,H,I',h⟩) hf)
def gNil:TGs:=fun vs σ H Q=>vs=[]∧Q σ H
def gCons (t:TG) (u:TGs):TGs:=fun vs σ H Q=>∃ v r,vs=v :: r∧t v σ H fun σ' H'=>u r σ' H' Q
theorem pgs_nil:PGs X [] gNil:=by
  intro pins s σ H vs us Q I r h
  obtain ⟨e,h⟩:=h
  subst e
  cases r
  exact assignInOrder_nil ⟨σ,H,I,h⟩
theorem pgs_cons {e:Expr} {es:List Expr} {t:TG} {u:TGs} (h1:PG X e t) (h2:PGs X es u)
    (hs:(assignEach (e :: es) X.env).map (·.2)=assign e X.env :: (assignEach es X.env).map (·.2):=by rfl):PGs X (e :: es) (gCons t u):=by
  intro pins s σ H vs us Q I r h
  obtain ⟨v,vr,e1,h⟩:=h
  subst e1
  cases r with
  | cons r rr =>
    rw [hs]
    refine assignInOrder_cons (thn (h1 pins s σ H _ _ _ I r h) fun _ s1 ⟨σ1,H1,I1,q1⟩=>?_)
    exact h2 pins s1 σ1 H1 _ _ Q I1 rr q1
def gTup (K:PySem.W.Frag) (n:Nat) (t:TGs):TG:=fun v σ H Q=>∃ a xs,v=.ref a∧SqT K H a xs∧xs.length=n∧t xs σ H Q
theorem pg_tup {es:List Expr} {k:Nat} {t:TGs} {n:Nat} (hc:X.calm=true) (h:PGs X es t)
    (hn:(assignEach es X.env).length=n:=by rfl) (hst:(assignEach es X.env).findIdx? (·.1)=none:=by rfl):PG X (.Tuple es k pos) (gTup X.K n t):=by
  intro pins s σ H v u Q I r hw
  obtain ⟨a,xs,e1,hq,hl,hw⟩:=hw
  subst e1
  cases r
  obtain ⟨its,rv,ht,hz⟩:=I.tuple hq
  refine assign_Tuple_tuple (I.ok.hd hc) ht (by simp [hn,←hl,rv.length]) hst fun h' hx=>?_
  have I1:Inv X pins σ H { s with heap:=h' }:=I.kept (t':=s.toks) fun b o e=>hx b o (Nat.ne_of_lt (Heap.lt_size e)) e
  exact h pins _ σ H xs _ Q I1 (by simpa using rv) hw
def gSub (to ti:TE) (t:TSet):TG:=fun v σ H Q=>to σ H fun o H1=>ti σ H1 fun i H2=>t o i v H2 fun H3=>Q σ H3
theorem pg_sub {o i:Expr} {to ti:TE} {t:TSet} (ho:PE X o to) (hi:PE X i ti) (hs:PSet X t)
    (ha:∀ v,assign (.Subscript o i pos) X.env v=(do
      let ov ←holding [v] (eval o X.env)
      let iv ←holding [v,ov] (eval i X.env)
      standAt pos
      holding [v,ov,iv] (setItem ov iv v)
      release [v,ov,iv] []):=by intro _;rfl):PG X (.Subscript o i pos) (gSub to ti t):=by
  intro pins s σ H v u Q I r h
  rw [ha]
  refine wpAny_bind (wpAny_holding (thn (ho pins s σ H _ I h) fun ov s1 ⟨x,H1,I1,r1,q1⟩=>?_))
  refine wpAny_bind (wpAny_holding (thn (hi pins s1 σ H1 _ I1 q1) fun iv s2 ⟨y,H2,I2,r2,q2⟩=>?_))
  refine wpAny_bind (wpAny_standAt (wpAny_bind (wpAny_holding (thn (hs pins s2 σ H2 x y v ov iv u _ I2 r1 r2 r q2) fun _ s3 ⟨H3,I3,q3⟩=>?_))))
  exact wpAny_release ⟨σ,H3,I3,q3⟩
def tAsg (te:TE) (g:TG):TS:=fun D σ H=>te σ H fun x H1=>g x σ H1 D.nx
theorem ps_asg {tg e:Expr} {te:TE} {g:TG} (he:PE X e te) (hg:PG X tg g) (hs:swapsWithSole [tg] e pos.line X.env=pure false:=by rfl) (hw:swappedStores [tg] e X.env=pure none:=by rfl)
    (h1:(assignEach [tg] X.env).map (·.2)=[assign tg X.env]:=by rfl):PS X (.Assign [tg] e pos) (tAsg te g):=by
  intro pins s σ H D I h
  refine wpAny_Assign_stores (thn (he pins s σ H _ I h) fun v s1 ⟨x,H1,I1,r1,q1⟩=>?_) hs hw
  rw [h1]
  exact thn (hg pins s1 σ H1 x v _ I1 r1 q1) fun _ s2 q=>q
theorem ps_set {i:Nat} {x:Str} {e:Expr} {te:TE} {pos':Pos} (hN:X.N.Nodup) (hi:X.N[i]?=some x) (hx:Loc X.env.scope x) (he:PE X e te) (hs:swapsWith e (some (.Name x pos')) pos.line X.env=pure false:=by rfl) (hf:X.fn x=true∨X.env.scope.names.lookup x=some .local:=by first | exact .inl rfl | exact .inr rfl | assumption) :
    PS X (.Assign [.Name x pos'] e pos) (tAsg te (gName i)):=by
  intro pins s σ H D I h
  refine wpAny_Assign_Name (thn (he pins s σ H _ I h) fun v s1 ⟨y,H1,I1,r1,q1⟩=>?_) hs
  exact store_ok I1 hN hi hx r1 (fun s2 I2=>⟨_,H1,I2,q1⟩) hf
def tPar (i j:Nat) (ta:TA):TS:=fun D σ H=>ta σ H fun vs H1=>∃ v w,vs=[v,w]∧D.nx ((σ.set i (some v)).set j (some w)) H1
def tAug (i:Nat) (te:TE) (ti:TIp):TS:=fun D σ H=>∃ x,σ[i]?=some (some x)∧te σ H fun y H1=>ti x y H1 fun z H2=>D.nx (σ.set i (some z)) H2
theorem ps_aug {i:Nat} {x:Str} {e:Expr} {te:TE} {op:Operator} {ti:TIp} {pos':Pos} (hN:X.N.Nodup) (hi:X.N[i]?=some x) (hx:Loc X.env.scope x) (he:PE X e te) (ho:PIp X op ti) (hf:X.fn x=true∨X.env.scope.names.lookup x=some .local:=by first | exact .inl rfl | exact .inr rfl | assumption) :
    PS X (.AugAssign (.Name x pos') op e pos) (tAug i te ti):=by
  intro pins s σ H D I h
  obtain ⟨v,e1,h⟩:=h
  obtain ⟨m,hn,hl⟩:=I.loc
  have vis:Vis X.env.scope x:=by rcases hx with k | k;exact .inl k;exact .inr (.inl k)
  obtain ⟨u,r,l⟩:=hl i x v hi e1 vis
  refine wpAny_AugAssign_Name ?_
  have go:wpAny (model X.prog X.w) X.A (eval e X.env) (fun w s₂=>wpAny (model X.prog X.w) X.A (inplaceOp op u w) (fun r s₃=>wpAny (model X.prog X.w) X.A (storeName X.env x r) (fun _=>SP X pins D .next) X.xe s₃) X.xe s₂) X.xe s:=by
    refine thn (he pins s σ H _ I h) fun w s1 ⟨y,H1,I1,r1,q1⟩=>?_
    refine thn (ho pins s1 σ H1 v y u w _ I1 r r1 q1) fun z s2 ⟨zv,H2,I2,r2,q2⟩=>?_
    exact store_ok I2 hN hi hx r2 (fun s3 I3=>⟨_,H2,I3,q2⟩) hf
  rcases l with ⟨hk,hm⟩ | ⟨hk,c,hc,hcell⟩
  · exact wpAny_loadName_local I.ok.kind hk hn hm go
  · rcases hk with hk | hk
    · exact wpAny_loadName_cell I.ok.kind hk hc hcell go
    · rcases hx with k | k
      · have:X.env.scope.names.lookup x=some .free:=hk
        rw [k] at this;cases this
      · have:X.env.scope.names.lookup x=some .free:=hk
        rw [k] at this;cases this
def tAugS (to ti te:TE) (tget:V→V→Hp→VK→Prop) (tip:TIp) (tset:TSet):TS:=fun D σ H=>to σ H fun o H1=>ti σ H1 fun i H2=>tget o i H2 fun x H3=>te σ H3 fun y H4=>tip x y H4 fun z H5=>tset o i z H5 fun H6=>D.nx σ H6
def PGet (X:Cx) (t:V→V→Hp→VK→Prop):Prop :=
  ∀ (pins:List (Addr × Obj)) (s:Shared) (σ:St) (H:Hp) (o i:V) (ov iv:Value) (Q:VK),Inv X pins σ H s→RelV o ov→RelV i iv→t o i H Q →
    wpAny (model X.prog X.w) X.A (getItem ov iv) (EP X pins σ Q) X.xe s
def ipI (f:Int→Int→Int):TIp:=fun x y H Q=>∃ i j,x=.int i∧y=.int j∧Q (.int (f i j)) H
theorem ip_add:PIp X .Add (ipI fun i j=>i+j):=by
  intro pins s σ H x y v u Q I r1 r2 h
  obtain ⟨i,j,e1,e2,q⟩:=h
  subst e1;subst e2
  obtain ⟨t,rfl⟩:=r1
  obtain ⟨t',rfl⟩:=r2
  exact iadd_int ⟨.int _,H,I.tok _,⟨_,rfl⟩,q⟩
end
section
variable {X:Cx} {pos:Pos}
def tWhile (c:TT) (tb:TS):TS:=fun D σ H=>∃ W:Nat→St→Hp→Prop,(∃ m,W m σ H)∧∀ m σ H,W m σ H →
  c σ H fun b H1=>if b=true then ∃ N:St→Hp→Prop,(∀ σ' H',N σ' H'→∃ m',m' < m∧W m' σ' H')∧tb { D with nx:=N,ct:=N,bk:=D.nx } σ H1 else D.nx σ H1
theorem ps_while {c:Expr} {body:List Stmt} {tc:TT} {tb:TS} (hp:PassesOwn (model X.prog X.w) X.A X.env X.xe) (hc:PT X c tc) (hb:PSs X body tb):PS X (.While c body [] pos) (tWhile tc tb):=by
  intro pins s σ H D I h
  obtain ⟨W,⟨m0,w0⟩,turn⟩:=h
  refine wpAny_While (codeAny_whileLoop (fun n s'=>∃ σ' H',Inv X pins σ' H' s'∧W n σ' H') ?_ m0 ⟨σ,H,I,w0⟩)
  rintro n s1 ⟨σ1,H1,I1,w1⟩
  refine wpAny_passesOwn hp (thn (hc pins s1 σ1 H1 _ I1 (turn n σ1 H1 w1)) fun b s2 ⟨H2,I2,q2⟩=>?_)
  cases b with
  | true =>
    obtain ⟨N,hN,q2⟩:=q2
    rw [if_pos rfl]
    refine wpAny_passesOwn hp (thn (hb pins s2 σ1 H2 _ I2 q2) fun f s3 q3=>?_)
    cases f with
    | next =>
      obtain ⟨σ3,H3,I3,n3⟩:=q3
      obtain ⟨m',hm,w3⟩:=hN σ3 H3 n3
      exact ⟨m',hm,σ3,H3,I3,w3⟩
    | cont =>
      obtain ⟨σ3,H3,I3,n3⟩:=q3
      obtain ⟨m',hm,w3⟩:=hN σ3 H3 n3
      exact ⟨m',hm,σ3,H3,I3,w3⟩
    | brk=>exact q3
    | ret v=>exact q3
  | false =>
    rw [if_neg Bool.false_ne_true]
    exact wpAny_execs_nil ⟨σ1,H2,I2,q2⟩
end
structure It where
  go:Nat→Hp→Prop
  yld:Nat→Hp→V→Hp→Prop
  stop:Nat→Hp→Prop
def FpOk (X:Cx) (pins:List (Addr × Obj)) (H:Hp) (b:Addr):Prop :=
  H b=none∧b≠X.env.locals∧b∉X.fs∧(b∈X.ex∨X.s₀.heap.objs.size≤b)∧(∀ x c,X.env.cells.lookup x=some c→c≠b)∧∀ p∈X.pn++pins,p.1≠b
theorem Inv.fpOk {X:Cx} {pins:List (Addr × Obj)} {σ:St} {H H':Hp} {s:Shared} {b:Addr} (I:Inv X pins σ H s) (hb:s.heap.objs.size≤b) (hn:H' b=none):FpOk X pins H' b:=by
  refine ⟨hn,Nat.ne_of_gt (Nat.lt_of_lt_of_le I.lt hb),I.nofs hb,.inr (Nat.le_trans I.sz hb),fun x c e z=>?_,fun p hp z=>?_⟩
  · obtain ⟨v,q⟩:=I.cell x c e
    exact absurd (Nat.lt_of_lt_of_le q.lt (by rw [z];exact hb)) (Nat.lt_irrefl _)
  · exact absurd (Nat.lt_of_lt_of_le (Heap.lt_size (I.pin p hp).1) (by rw [z];exact hb)) (Nat.lt_irrefl _)
structure Turn (P:Program) (w:World) (K:PySem.W.Frag) (tg:Expr) (J:It) (fp:List Addr) (it:Addr) (tn:Nat→Heap→Prop):Prop where
  mem:it∈fp
  obj:∀ i h,tn i h→∀ b∈fp,∃ o,h.get? b=some o∧∀ v,o.data≠.cell v
  keep:∀ i h h',tn i h→(∀ b∈fp,∀ o,h.get? b=some o→h'.get? b=some o)→tn i h'
  item:∀ (X:Cx),X.prog=P→X.w=w→X.K=K→X.calm=true→∀ (i:Nat) (pins:List (Addr × Obj)) (s:Shared) (σ:St) (H:Hp) (E:Value→Shared→Prop),Inv X pins σ H s→(∀ b∈fp,FpOk X pins H b)→tn i s.heap→J.go i H →
    wpAny (model P w) X.A (pyNext (.ref it)) (fun r s1=>∃ u,r=some u ∧
      wpAny (model P w) X.A (letOwnedTupleGo tg (.ref it) u) (fun _ s2=>∃ x H',Inv X pins σ H' s2∧RelV x u∧J.yld i H x H'∧tn (i+1) s2.heap∧∀ b∈fp,H' b=none) E s1) E s
  done:∀ (X:Cx),X.prog=P→X.w=w→X.K=K→X.calm=true→∀ (i:Nat) (pins:List (Addr × Obj)) (s:Shared) (σ:St) (H:Hp) (E:Value→Shared→Prop),Inv X pins σ H s→(∀ b∈fp,FpOk X pins H b)→tn i s.heap→J.stop i H →
    wpAny (model P w) X.A (pyNext (.ref it)) (fun r s1=>r=none∧Inv X pins σ H s1) E s
  self:∀ (A:Around) (i:Nat) (s:Shared) (Q:Value→Shared→Prop) (E:Value→Shared→Prop),tn i s.heap→Q (.ref it) s→wpAny (model P w) A (pyIter (.ref it)) Q E s
abbrev TI:=St→Hp→(It→Hp→Prop)→Prop
def PIE (X:Cx) (pins:List (Addr × Obj)) (σ:St) (tg:Expr) (R:It→Hp→Prop) (itv:Value) (s2:Shared):Prop :=
  ∃ (it:Addr) (fp:List Addr) (tn:Nat→Heap→Prop) (J:It) (H':Hp),itv=.ref it∧Inv X pins σ H' s2∧Turn X.prog X.w X.K tg J fp it tn∧tn 0 s2.heap∧(∀ b∈fp,FpOk X pins H' b)∧R J H'
def PI (X:Cx) (tg iter:Expr) (wi:TI):Prop :=
  ∀ (pins:List (Addr × Obj)) (s:Shared) (σ:St) (H:Hp) (R:It→Hp→Prop),Inv X pins σ H s→wi σ H R →
    wpAny (model X.prog X.w) X.A (eval iter X.env) (fun v s1=>wpAny (model X.prog X.w) X.A (pyIter v) (PIE X pins σ tg R) X.xe s1) X.xe s
theorem go_of {M:Model} {A:Around} {E:Value→Shared→Prop} {s:Shared} {tg:Expr} {it:Addr} {u:Value} {o:Obj} {n:String} {vs:Array Value} {Q:Unit→Shared→Prop} (ho:s.heap.get? it=some o) (hc:o.cls=.type n) (hd:o.data=.fields vs)
    (hn:["enumerate","zip","dict_itemiterator","dict_reverseitemiterator","odict_iterator","itertools.zip_longest","itertools.pairwise"].contains n=false) (hQ:Q () s):wpAny M A (letOwnedTupleGo tg (.ref it) u) Q E s:=by
  unfold letOwnedTupleGo
  cases tg <;> first
    | exact wpAny_pure hQ
    | (cases u <;> first
        | exact wpAny_pure hQ
        | (refine wpAny_bind (wpAny_load ho ?_)
           rw [hc,hd]
           show wpAny M A (if (["enumerate","zip","dict_itemiterator","dict_reverseitemiterator","odict_iterator","itertools.zip_longest","itertools.pairwise"].contains n && vs[0]? == some (rawInt _))=true then _ else _) Q E s
           rw [if_neg (by intro h;rw [hn,Bool.false_and] at h;cases h)]
           exact wpAny_pure hQ))
def Itl (K:PySem.W.Frag) (a:Addr):It :=
  ⟨fun i H=>∃ xs x,SqL K H a xs∧xs[i]?=some x,fun i H x H'=>H'=H∧∀ xs,SqL K H a xs→xs[i]?=some x,fun i H=>∃ xs,SqL K H a xs∧xs.length≤i⟩
def Itt (K:PySem.W.Frag) (a:Addr):It :=
  ⟨fun i H=>∃ xs x,SqT K H a xs∧xs[i]?=some x,fun i H x H'=>H'=H∧∀ xs,SqT K H a xs→xs[i]?=some x,fun i H=>∃ xs,SqT K H a xs∧xs.length≤i⟩
def Itr (lo:Int) (n:Nat):It:=⟨fun i _=>i < n,fun i H x H'=>H'=H∧x=.int (lo+i),fun i _=>n≤i⟩
theorem turn_list {P:Program} {w:World} {K:PySem.W.Frag} {tg:Expr} (a it:Addr):Turn P w K tg (Itl K a) [it] it (fun i h=>h.IsListIter it a i) where
  mem:=by simp
  obj:=fun i h st b hb=>by
    have e:b=it:=by simpa using hb
    subst e
    obtain ⟨o,e,c,d⟩:=st
    exact ⟨o,e,fun v z=>by rw [d] at z;cases z⟩
  keep:=fun i h h' st k=>st.at fun o e=>k it (by simp) o e
  item:=by
    intro X hP hw hK hc i pins s σ H E I hf st hg
    subst hP hw hK
    obtain ⟨xs,x,hq,hx⟩:=hg
    obtain ⟨its,rv,p,hz⟩:=I.list hq
    obtain ⟨u,hu,ru⟩:=rv.get hx
    obtain ⟨f0,f1,f2,f3,f4,f5⟩:=hf it (by simp)
    refine wpAny_pyNext_list_item st p.isList (x:=u) (by simpa using hu) fun h' st' sb=>?_
    have I1:Inv X pins σ H { s with heap:=h' }:=I.turned (t':=s.toks) (fun b o hb e=>(sb.2 b hb).trans e) f0 f1 f3 f4 f5
    obtain ⟨o,e,c,d⟩:=id st'
    exact ⟨u,rfl,go_of (s:={ s with heap:=h' }) e c d (by decide) ⟨x,H,I1,ru,⟨rfl,fun ys hy=>by rw [I.list_inj hy hq];exact hx⟩,st',fun b hb=>(hf b hb).1⟩⟩
  done:=by
    intro X hP hw hK hc i pins s σ H E I hf st hg
    subst hP hw hK
    obtain ⟨xs,hq,hx⟩:=hg
    obtain ⟨its,rv,p,hz⟩:=I.list hq
    obtain ⟨f0,f1,f2,f3,f4,f5⟩:=hf it (by simp)
    have hl:=rv.length
    exact wpAny_pyNext_list_end (I.ok.hd hc) st p.isList (by simp;omega) fun h' eb=>⟨rfl,I.turned (t':=s.toks) (fun b o hb e=>eb b o hb e) f0 f1 f3 f4 f5⟩
  self:=fun _ _ _ _ _ st h=>wpAny_pyIter_listiter st h
theorem turn_tuple {P:Program} {w:World} {K:PySem.W.Frag} {tg:Expr} (a it:Addr):Turn P w K tg (Itt K a) [it] it (fun i h=>h.IsTupleIter it a i) where
  mem:=by simp
  obj:=fun i h st b hb=>by
    have e:b=it:=by simpa using hb
    subst e
    obtain ⟨o,e,c,d⟩:=st
    exact ⟨o,e,fun v z=>by rw [d] at z;cases z⟩
  keep:=fun i h h' st k=>st.at fun o e=>k it (by simp) o e
  item:=by
    intro X hP hw hK hc i pins s σ H E I hf st hg
    subst hP hw hK
    obtain ⟨xs,x,hq,hx⟩:=hg
    obtain ⟨its,rv,p,hz⟩:=I.tuple hq
    obtain ⟨u,hu,ru⟩:=rv.get hx
    obtain ⟨f0,f1,f2,f3,f4,f5⟩:=hf it (by simp)
    refine wpAny_pyNext_tuple_item st (show s.heap.IsTuple a its.toArray from p) (x:=u) (by simpa using hu) fun h' st' sb=>?_
    have I1:Inv X pins σ H { s with heap:=h' }:=I.turned (t':=s.toks) (fun b o hb e=>(sb.2 b hb).trans e) f0 f1 f3 f4 f5
    obtain ⟨o,e,c,d⟩:=id st'
    exact ⟨u,rfl,go_of (s:={ s with heap:=h' }) e c d (by decide) ⟨x,H,I1,ru,⟨rfl,fun ys hy=>by rw [I.tuple_inj hy hq];exact hx⟩,st',fun b hb=>(hf b hb).1⟩⟩
  done:=by
    intro X hP hw hK hc i pins s σ H E I hf st hg
    subst hP hw hK
    obtain ⟨xs,hq,hx⟩:=hg
    obtain ⟨its,rv,p,hz⟩:=I.tuple hq
    obtain ⟨f0,f1,f2,f3,f4,f5⟩:=hf it (by simp)
    have hl:=rv.length
    exact wpAny_pyNext_tuple_end (I.ok.hd hc) st (show s.heap.IsTuple a its.toArray from p) (by simp;omega) fun h' eb=>⟨rfl,I.turned (t':=s.toks) (fun b o hb e=>eb b o hb e) f0 f1 f3 f4 f5⟩
  self:=fun _ _ _ _ _ st h=>wpAny_pyIter_tupleiter st h
theorem turn_range {P:Program} {w:World} {K:PySem.W.Frag} {tg:Expr} (it:Addr) (lo:Int) (n:Nat):Turn P w K tg (Itr lo n) [it] it (fun i h=>IsRangeIter h it (lo+(i:Nat) * 1) ((n:Int) - (i:Nat)) 1) where
  mem:=by simp
  obj:=fun i h st b hb=>by
    have e:b=it:=by simpa using hb
    subst e
    exact ⟨_,st,fun v z=>by
      have z':Data.fields _=Data.cell v:=z
      cases z'⟩
  keep:=fun i h h' st k=>k it (by simp) _ st
  item:=by
    intro X hP hw hK hc i pins s σ H E I hf st hg
    subst hP hw hK
    obtain ⟨f0,f1,f2,f3,f4,f5⟩:=hf it (by simp)
    have W:=Walks.range (prog:=X.prog) (w:=X.w) (I.ok.hd hc) it lo 1 n
    refine W.item i s _ _ hg st fun v h' tk hv st' kk=>?_
    obtain ⟨t,rfl⟩:=hv
    have I1:Inv X pins σ H { s with heap:=h',toks:=tk }:=I.turned (fun b o hb e=>kk b o (by simpa using hb) e) f0 f1 f3 f4 f5
    refine ⟨_,rfl,go_of (s:={ s with heap:=h',toks:=tk }) (n:="range_iterator") st' rfl rfl (by decide) ⟨.int (lo+i),H,I1,⟨t,?_⟩,⟨rfl,rfl⟩,st',fun b hb=>(hf b hb).1⟩⟩
    rw [Int.mul_one]
  done:=by
    intro X hP hw hK hc i pins s σ H E I hf st hg
    subst hP hw hK
    obtain ⟨f0,f1,f2,f3,f4,f5⟩:=hf it (by simp)
    exact wpAny_pyNext_range_end (I.ok.hd hc) st (by have:n≤i:=hg;omega) fun h' eb=>⟨rfl,I.turned (t':=s.toks) (fun b o hb e=>eb b o hb e) f0 f1 f3 f4 f5⟩
  self:=fun _ _ _ _ _ st h=>wpAny_pyIter_rangeiter st h
end L2
namespace L2
open PySem PySem.Spec PyProof.Rows
section
variable {X:Cx} {tg:Expr}
def iList (K:PySem.W.Frag) (tl:TE):TI:=fun σ H R=>tl σ H fun x H1=>∃ a,x=.ref a∧(∃ xs,SqL K H1 a xs)∧R (Itl K a) H1
def iTup (K:PySem.W.Frag) (tl:TE):TI:=fun σ H R=>tl σ H fun x H1=>∃ a,x=.ref a∧(∃ xs,SqT K H1 a xs)∧R (Itt K a) H1
theorem pi_list {l:Expr} {tl:TE} (hl:PE X l tl):PI X tg l (iList X.K tl):=by
  intro pins s σ H R I h
  refine thn (hl pins s σ H _ I h) fun v s1 ⟨x,H1,I1,r1,q1⟩=>?_
  obtain ⟨a,e,⟨xs,hq⟩,q⟩:=q1
  subst e
  cases r1
  obtain ⟨its,rv,p,hz⟩:=I1.list hq
  refine wpAny_pyIter_list p.isList ?_
  refine ⟨s1.heap.objs.size,[s1.heap.objs.size],_,_,H1,rfl,I1.kept (t':=s1.toks) fun b o e=>Heap.get?_push_of_some _ e,turn_list a _,⟨_,Heap.get?_push_size _ rfl,rfl,rfl⟩,fun b hb=>?_,q⟩
  have e:b=s1.heap.objs.size:=by simpa using hb
  subst e
  exact I1.fpOk (Nat.le_refl _) (I1.hok.fresh (Nat.le_refl _))
theorem pi_tup {l:Expr} {tl:TE} (hl:PE X l tl):PI X tg l (iTup X.K tl):=by
  intro pins s σ H R I h
  refine thn (hl pins s σ H _ I h) fun v s1 ⟨x,H1,I1,r1,q1⟩=>?_
  obtain ⟨a,e,⟨xs,hq⟩,q⟩:=q1
  subst e
  cases r1
  obtain ⟨its,rv,p,hz⟩:=I1.tuple hq
  refine wpAny_pyIter_tuple (show s1.heap.IsTuple a its.toArray from p) ?_
  refine ⟨s1.heap.objs.size,[s1.heap.objs.size],_,_,H1,rfl,I1.kept (t':=s1.toks) fun b o e=>Heap.get?_push_of_some _ e,turn_tuple a _,⟨_,Heap.get?_push_size _ rfl,rfl,rfl⟩,fun b hb=>?_,q⟩
  have e:b=s1.heap.objs.size:=by simpa using hb
  subst e
  exact I1.fpOk (Nat.le_refl _) (I1.hok.fresh (Nat.le_refl _))
theorem range_it {pins:List (Addr × Obj)} {σ:St} {H:Hp} {s:Shared} {R:It→Hp→Prop} {E:Value→Shared→Prop} {lo hi:Int} {t u v:Tok} {tk:Nat} (I:Inv X pins σ H s) (h1:-(2 ^ 62)≤lo) (h2:lo < 2 ^ 62) (h3:-(2 ^ 62)≤hi) (h4:hi < 2 ^ 62)
    (q:R (Itr lo (hi - lo).toNat) H):wpAny (model X.prog X.w) X.A (pyIter (.ref s.heap.objs.size)) (PIE X pins σ tg R) E { s with heap:=s.heap.push { cls:=.type "range",data:=.fields #[.int lo t,.int hi u,.int 1 v] },toks:=tk }:=by
  refine wpAny_pyIter_range (IsRange.new ..) (small_one h1 h2 h3 h4) ?_
  have I1:Inv X pins σ H { s with heap:=s.heap.push { cls:=.type "range",data:=.fields #[.int lo t,.int hi u,.int 1 v] },toks:=tk }:=I.kept fun b o e=>Heap.get?_push_of_some _ e
  refine ⟨(s.heap.push { cls:=.type "range",data:=.fields #[.int lo t,.int hi u,.int 1 v] }).objs.size,[(s.heap.push { cls:=.type "range",data:=.fields #[.int lo t,.int hi u,.int 1 v] }).objs.size],_,_,H,rfl,
    I1.kept (t':=tk) fun b o e=>Heap.get?_push_of_some _ e,turn_range _ lo (hi - lo).toNat,?_,fun b hb=>?_,q⟩
  · have e1:lo+((0:Nat):Int) * 1=lo:=by simp
    have e2:(((hi - lo).toNat:Nat):Int) - ((0:Nat):Int)=Builtin.Range.rangeSize lo hi 1:=by rw [rangeSize_one];split <;> omega
    show IsRangeIter _ _ (lo+((0:Nat):Int) * 1) ((((hi - lo).toNat:Nat):Int) - ((0:Nat):Int)) 1
    rw [e1,e2]
    exact Heap.get?_push_size _ rfl
  · have e:b=(s.heap.push { cls:=.type "range",data:=.fields #[.int lo t,.int hi u,.int 1 v] }).objs.size:=by simpa using hb
    subst e
    exact I1.fpOk (Nat.le_refl _) (I1.hok.fresh (Nat.le_refl _))
def iRng1 (ta:TA):TI:=fun σ H R=>ta σ H fun vs H1=>∃ j:Int,vs=[.int j]∧-(2 ^ 62)≤j∧j < 2 ^ 62∧R (Itr 0 j.toNat) H1
def iRng2 (ta:TA):TI:=fun σ H R=>ta σ H fun vs H1=>∃ i j:Int,vs=[.int i,.int j]∧(-(2 ^ 62)≤i∧i < 2 ^ 62∧-(2 ^ 62)≤j∧j < 2 ^ 62)∧R (Itr i (j - i).toNat) H1
theorem pi_range1 {a:Expr} {ta:TA} {p pos:Pos} (hg:Gl X "range") (hm:X.mg "range"=none) (ha:PA X [a] ta) (hs:starEach [a] X.env=[(false,eval a X.env)]:=by rfl):PI X tg (.Call (.Name "range" p) [a] [] pos) (iRng1 ta):=by
  intro pins s σ H R I h
  refine Call_ (ld_blt I hg hm boot_range (PyProof.Rows.callWith_type1 (thn (ha pos pins s σ H _ I h) fun us s1 ⟨vs,H1,I1,r1,q1⟩=>?_) hs rfl))
  obtain ⟨j,e,q1,q2,q⟩:=q1
  subst e
  cases r1 with
  | cons r rr =>
    cases rr
    obtain ⟨t,rfl⟩:=r
    exact call_range_1 (range_it I1 (by omega) (by omega) q1 q2 (by simpa using q))
theorem pi_range2 {a b:Expr} {ta:TA} {p pos:Pos} (hg:Gl X "range") (hm:X.mg "range"=none) (ha:PA X [a,b] ta) (hs:starEach [a,b] X.env=[(false,eval a X.env),(false,eval b X.env)]:=by rfl) (hs2:starEach [b] X.env=[(false,eval b X.env)]:=by rfl) :
    PI X tg (.Call (.Name "range" p) [a,b] [] pos) (iRng2 ta):=by
  intro pins s σ H R I h
  refine Call_ (ld_blt I hg hm boot_range (PyProof.Rows.callWith_type1 (thn (ha pos pins s σ H _ I h) fun us s1 ⟨vs,H1,I1,r1,q1⟩=>?_) (by rw [hs,hs2]) (by rw [hs2];rfl)))
  obtain ⟨i,j,e,⟨q1,q2,q3,q4⟩,q⟩:=q1
  subst e
  cases r1 with
  | cons r rr =>
    cases rr with
    | cons r' rr =>
      cases rr
      obtain ⟨t,rfl⟩:=r
      obtain ⟨t',rfl⟩:=r'
      exact call_range_2 (range_it I1 q1 q2 q3 q4 q)
def tFor (wi:TI) (g:TG) (tb:TS):TS:=fun D σ H=>wi σ H fun J H1=>∃ W:Nat→Nat→St→Hp→Prop,(∃ m,W 0 m σ H1)∧∀ i m σ H,W i m σ H →
  (J.stop i H∧D.nx σ H)∨(J.go i H∧∃ N:St→Hp→Prop,(∀ σ' H',N σ' H'→∃ m',m' < m∧W (i+1) m' σ' H')∧∀ x H',J.yld i H x H'→g x σ H' fun σ2 H2=>tb { D with nx:=N,ct:=N,bk:=D.nx } σ2 H2)
def pinsAt (fp:List Addr) (h:Heap):List (Addr × Obj):=fp.filterMap fun b=>(h.get? b).map fun o=>(b,o)
theorem mem_pinsAt {fp:List Addr} {h:Heap} {b:Addr} {o:Obj} (hb:b∈fp) (e:h.get? b=some o):(b,o)∈pinsAt fp h:=List.mem_filterMap.mpr ⟨b,hb,by rw [e];rfl⟩
theorem of_pinsAt {fp:List Addr} {h:Heap} {p:Addr × Obj} (hp:p∈pinsAt fp h):p.1∈fp∧h.get? p.1=some p.2:=by
  obtain ⟨b,hb,e⟩:=List.mem_filterMap.mp hp
  cases q:h.get? b with
  | none=>rw [q] at e;cases e
  | some o =>
    rw [q] at e
    have e':(b,o)=p:=Option.some.inj e
    subst e'
    exact ⟨hb,q⟩
theorem Inv.pinned {pins:List (Addr × Obj)} {σ:St} {H:Hp} {s:Shared} {fp:List Addr} (I:Inv X pins σ H s) (hf:∀ b∈fp,FpOk X pins H b) (ho:∀ b∈fp,∃ o,s.heap.get? b=some o∧∀ v,o.data≠.cell v):Inv X (pins++pinsAt fp s.heap) σ H s :=
  I.pins_of fun p hp=>(List.mem_append.mp hp).elim (fun z=>I.pin p (List.mem_append_right _ z)) fun z=>by
    obtain ⟨hb,e⟩:=of_pinsAt z
    obtain ⟨f0,f1,f2,_⟩:=hf p.1 hb
    obtain ⟨o,e',d⟩:=ho p.1 hb
    rw [e] at e';cases e'
    exact ⟨e,f0,f1,f2,d⟩
theorem Inv.unpinned {pins pl:List (Addr × Obj)} {σ:St} {H:Hp} {s:Shared} (I:Inv X (pins++pl) σ H s):Inv X pins σ H s:=I.pins_of fun p hp=>I.pin p (List.mem_append_right _ (List.mem_append_left _ hp))
theorem ps_for {iter:Expr} {body:List Stmt} {wi:TI} {g:TG} {tb:TS} {pos:Pos} (hp:PassesOwn (model X.prog X.w) X.A X.env X.xe) (hc:X.calm=true) (hi:PI X tg iter wi) (hg:PG X tg g) (hb:PSs X body tb)
    (hs:∀ x,foldedSetIterable iter X.env x=pure x:=by intro _;rfl):PS X (.For tg iter body [] pos) (tFor wi g tb):=by
  intro pins s σ H D I h
  refine wpAny_For (thn (hi pins s σ H _ I h) fun v s1 h1=>thn h1 fun itv s2 h2=>?_) hs
  obtain ⟨it,fp,tn,J,H2,e,I2,T,st2,f2,W,⟨m0,w0⟩,turn⟩:=h2
  subst e
  have stat:∀ {H':Hp},(∀ b∈fp,H' b=none)→∀ b∈fp,FpOk X pins H' b:=fun hn b hb=>⟨hn b hb,(f2 b hb).2⟩
  refine codeAny_forLoop_any (fun n s'=>∃ i σ' H',Inv X pins σ' H' s'∧tn i s'.heap∧(∀ b∈fp,H' b=none)∧W i n σ' H') ?_ m0 ⟨0,σ,H2,I2,st2,fun b hb=>(f2 b hb).1,w0⟩
  rintro n s3 ⟨i,σ3,H3,I3,st3,fr3,w3⟩
  rcases turn i n σ3 H3 w3 with ⟨stop,qn⟩ | ⟨go,N,hN,step⟩
  · refine wpAny_passesOwn hp (thn (T.done X rfl rfl rfl hc i pins s3 σ3 H3 X.xe I3 (stat fr3) st3 stop) fun r s4 ⟨hr,I4⟩=>?_)
    subst hr
    exact wpAny_execs_nil ⟨σ3,H3,I4,qn⟩
  · refine wpAny_passesOwn hp (thn (T.item X rfl rfl rfl hc i pins s3 σ3 H3 X.xe I3 (stat fr3) st3 go) fun r s4 ⟨u,hr,h4⟩=>?_)
    subst hr
    refine wpAny_passesOwn hp (thn h4 fun _ s5 ⟨x,H5,I5,r5,y5,st5,fr5⟩=>?_)
    have I5':=I5.pinned (stat fr5) (T.obj _ _ st5)
    refine wpAny_passesOwn hp (thn (hg _ s5 σ3 H5 x u _ I5' r5 (step x H5 y5)) fun _ s6 ⟨σ6,H6,I6,q6⟩=>?_)
    refine wpAny_passesOwn hp (thn (hb _ s6 σ6 H6 _ I6 q6) fun f s7 q7=>?_)
    have again:∀ {σ7:St} {H7:Hp},Inv X (pins++pinsAt fp s5.heap) σ7 H7 s7→N σ7 H7→∃ m,m < n∧∃ i σ' H',Inv X pins σ' H' s7∧tn i s7.heap∧(∀ b∈fp,H' b=none)∧W i m σ' H':=fun {σ7 H7} I7 n7=>by
      obtain ⟨m',hm,w7⟩:=hN σ7 H7 n7
      refine ⟨m',hm,i+1,σ7,H7,I7.unpinned,T.keep _ _ _ st5 fun b hb o e=>(I7.pin (b,o) (List.mem_append_right _ (List.mem_append_right _ (mem_pinsAt hb e)))).1,fun b hb=>?_,w7⟩
      obtain ⟨o,e,d⟩:=T.obj _ _ st5 b hb
      exact (I7.pin (b,o) (List.mem_append_right _ (List.mem_append_right _ (mem_pinsAt hb e)))).2.1
    cases f with
    | next=>obtain ⟨σ7,H7,I7,n7⟩:=q7;exact again I7 n7
    | cont=>obtain ⟨σ7,H7,I7,n7⟩:=q7;exact again I7 n7
    | brk=>obtain ⟨σ7,H7,I7,q7⟩:=q7;exact ⟨σ7,H7,I7.unpinned,q7⟩
    | ret v=>obtain ⟨x7,σ7,H7,I7,r7,q7⟩:=q7;exact ⟨x7,σ7,H7,I7.unpinned,r7,q7⟩
end
theorem for_list {K:PySem.W.Frag} {a:Addr} {xs:List V} {g:TG} {tb:TS} {D:Ends} {σ:St} {H:Hp} (Pv:Nat→St→Hp→Prop) (h0:Pv 0 σ H) (hl:∀ i σ H,i≤xs.length→Pv i σ H→SqL K H a xs)
    (hs:∀ i x σ H,xs[i]?=some x→Pv i σ H→g x σ H fun σ2 H2=>tb { D with nx:=Pv (i+1),ct:=Pv (i+1),bk:=D.nx } σ2 H2) (hd:∀ σ H,Pv xs.length σ H→D.nx σ H) :
    ∃ W:Nat→Nat→St→Hp→Prop,(∃ m,W 0 m σ H)∧∀ i m σ H,W i m σ H →
      ((Itl K a).stop i H∧D.nx σ H)∨((Itl K a).go i H∧∃ N:St→Hp→Prop,(∀ σ' H',N σ' H'→∃ m',m' < m∧W (i+1) m' σ' H')∧∀ x H',(Itl K a).yld i H x H'→g x σ H' fun σ2 H2=>tb { D with nx:=N,ct:=N,bk:=D.nx } σ2 H2):=by
  refine ⟨fun i m σ H=>m=xs.length - i∧i≤xs.length∧Pv i σ H,⟨xs.length,by simp,Nat.zero_le _,h0⟩,?_⟩
  rintro i m σ H ⟨rfl,hi,p⟩
  have q:=hl i σ H hi p
  by_cases hlt:i < xs.length
  · refine .inr ⟨⟨xs,xs[i],q,by simp [hlt]⟩,Pv (i+1),fun σ' H' p'=>⟨xs.length - (i+1),by omega,rfl,hlt,p'⟩,fun x H' y=>?_⟩
    obtain ⟨e,y⟩:=y
    subst e
    exact hs i x σ _ (y xs q) p
  · have e:i=xs.length:=by omega
    subst e
    exact .inl ⟨⟨xs,q,Nat.le_refl _⟩,hd σ H p⟩
theorem for_tup {K:PySem.W.Frag} {a:Addr} {xs:List V} {g:TG} {tb:TS} {D:Ends} {σ:St} {H:Hp} (Pv:Nat→St→Hp→Prop) (h0:Pv 0 σ H) (hl:∀ i σ H,i≤xs.length→Pv i σ H→SqT K H a xs)
    (hs:∀ i x σ H,xs[i]?=some x→Pv i σ H→g x σ H fun σ2 H2=>tb { D with nx:=Pv (i+1),ct:=Pv (i+1),bk:=D.nx } σ2 H2) (hd:∀ σ H,Pv xs.length σ H→D.nx σ H) :
    ∃ W:Nat→Nat→St→Hp→Prop,(∃ m,W 0 m σ H)∧∀ i m σ H,W i m σ H →
      ((Itt K a).stop i H∧D.nx σ H)∨((Itt K a).go i H∧∃ N:St→Hp→Prop,(∀ σ' H',N σ' H'→∃ m',m' < m∧W (i+1) m' σ' H')∧∀ x H',(Itt K a).yld i H x H'→g x σ H' fun σ2 H2=>tb { D with nx:=N,ct:=N,bk:=D.nx } σ2 H2):=by
  refine ⟨fun i m σ H=>m=xs.length - i∧i≤xs.length∧Pv i σ H,⟨xs.length,by simp,Nat.zero_le _,h0⟩,?_⟩
  rintro i m σ H ⟨rfl,hi,p⟩
  have q:=hl i σ H hi p
  by_cases hlt:i < xs.length
  · refine .inr ⟨⟨xs,xs[i],q,by simp [hlt]⟩,Pv (i+1),fun σ' H' p'=>⟨xs.length - (i+1),by omega,rfl,hlt,p'⟩,fun x H' y=>?_⟩
    obtain ⟨e,y⟩:=y
    subst e
    exact hs i x σ _ (y xs q) p
  · have e:i=xs.length:=by omega
    subst e
    exact .inl ⟨⟨xs,q,Nat.le_refl _⟩,hd σ H p⟩
theorem for_range {lo:Int} {n:Nat} {g:TG} {tb:TS} {D:Ends} {σ:St} {H:Hp} (Pv:Nat→St→Hp→Prop) (h0:Pv 0 σ H)
    (hs:∀ i σ H,i < n→Pv i σ H→g (.int (lo+i)) σ H fun σ2 H2=>tb { D with nx:=Pv (i+1),ct:=Pv (i+1),bk:=D.nx } σ2 H2) (hd:∀ σ H,Pv n σ H→D.nx σ H) :
    ∃ W:Nat→Nat→St→Hp→Prop,(∃ m,W 0 m σ H)∧∀ i m σ H,W i m σ H →
      ((Itr lo n).stop i H∧D.nx σ H)∨((Itr lo n).go i H∧∃ N:St→Hp→Prop,(∀ σ' H',N σ' H'→∃ m',m' < m∧W (i+1) m' σ' H')∧∀ x H',(Itr lo n).yld i H x H'→g x σ H' fun σ2 H2=>tb { D with nx:=N,ct:=N,bk:=D.nx } σ2 H2):=by
  refine ⟨fun i m σ H=>m=n - i∧i≤n∧Pv i σ H,⟨n,by simp,Nat.zero_le _,h0⟩,?_⟩
  rintro i m σ H ⟨rfl,hi,p⟩
  by_cases hlt:i < n
  · refine .inr ⟨hlt,Pv (i+1),fun σ' H' p'=>⟨n - (i+1),by omega,rfl,hlt,p'⟩,fun x H' y=>?_⟩
    obtain ⟨e,y⟩:=y
    subst e y
    exact hs i σ _ hlt p
  · have e:i=n:=by omega
    subst e
    exact .inl ⟨Nat.le_refl _,hd σ H p⟩
end L2
namespace L2
open PySem PySem.Spec PyProof.Rows
abbrev R2:=V→V→Hp→VK→Prop
def OpR (X:Cx) (f:Value→Value→Sem Value) (r:R2):Prop :=
  ∀ (pins:List (Addr × Obj)) (s:Shared) (σ:St) (H:Hp) (x y:V) (v u:Value) (Q:VK),Inv X pins σ H s→RelV x v→RelV y u→r x y H Q →
    wpAny (model X.prog X.w) X.A (f v u) (EP X pins σ Q) X.xe s
def UnR (X:Cx) (f:Value→Sem Value) (r:V→Hp→VK→Prop):Prop :=
  ∀ (pins:List (Addr × Obj)) (s:Shared) (σ:St) (H:Hp) (x:V) (v:Value) (Q:VK),Inv X pins σ H s→RelV x v→r x H Q →
    wpAny (model X.prog X.w) X.A (f v) (EP X pins σ Q) X.xe s
def CallR (X:Cx) (f:Value) (r:List V→Hp→VK→Prop):Prop :=
  ∀ (pins:List (Addr × Obj)) (s:Shared) (σ:St) (H:Hp) (xs:List V) (us:List Value) (Q:VK),Inv X pins σ H s→Vals xs us→r xs H Q →
    wpAny (model X.prog X.w) X.A (call f us) (EP X pins σ Q) X.xe s
def TruR (X:Cx) (r:V→Hp→(Bool→Hp→Prop)→Prop):Prop :=
  ∀ (pins:List (Addr × Obj)) (s:Shared) (σ:St) (H:Hp) (x:V) (v:Value) (Q:Bool→Hp→Prop),Inv X pins σ H s→RelV x v→r x H Q →
    wpAny (model X.prog X.w) X.A (truthy v) (TP X pins σ Q) X.xe s
def tOp (r:R2) (ta tb:TE):TE:=fun σ H Q=>ta σ H fun x H1=>tb σ H1 fun y H2=>r x y H2 Q
def tUn (r:V→Hp→VK→Prop) (ta:TE):TE:=fun σ H Q=>ta σ H fun x H1=>r x H1 Q
def rI (C:Int→Int→Prop) (g:Int→Int→V):R2:=fun x y H Q=>∃ i j,x=.int i∧y=.int j∧C i j∧Q (g i j) H
def rI0 (g:Int→Int→V):R2:=fun x y H Q=>∃ i j,x=.int i∧y=.int j∧Q (g i j) H
def rU (g:Int→V):V→Hp→VK→Prop:=fun x H Q=>∃ i,x=.int i∧Q (g i) H
section
variable {X:Cx} {a b c:Expr} {ta tb tc:TE} {pos:Pos}
theorem binT (ha:PE X a ta) (hb:PE X b tb) {pins:List (Addr × Obj)} {s:Shared} {σ:St} {H:Hp} {R:V→V→Hp→Prop} (I:Inv X pins σ H s)
    (h:ta σ H fun x H1=>tb σ H1 fun y H2=>R x y H2) {Q:Value→Shared→Prop} {f:Value→Value→Sem Value}
    (hf:∀ v u s2 x y H2,Inv X pins σ H2 s2→RelV x v→RelV y u→R x y H2→wpAny (model X.prog X.w) X.A (f v u) Q X.xe s2) :
    wpAny (model X.prog X.w) X.A (eval a X.env) (fun v s₁=>wpAny (model X.prog X.w) X.A (eval b X.env) (fun u s₂=>wpAny (model X.prog X.w) X.A (f v u) Q X.xe s₂) X.xe s₁) X.xe s:=by
  refine thn (ha pins s σ H _ I h) fun v s1 ⟨x,H1,I1,r1,q1⟩=>?_
  refine thn (hb pins s1 σ H1 _ I1 q1) fun u s2 ⟨y,H2,I2,r2,q2⟩=>?_
  exact hf v u s2 x y H2 I2 r1 r2 q2
theorem pe_op {op:Operator} {r:R2} (ho:OpR X (binaryOp op) r) (ha:PE X a ta) (hb:PE X b tb):PE X (.BinOp a op b pos) (tOp r ta tb):=by
  intro pins s σ H Q I h
  exact wpAny_BinOp (binT ha hb I h fun v u s2 x y H2 I2 rx ry q=>ho pins s2 σ H2 x y v u Q I2 rx ry q)
theorem pe_un {op:UnaryOp} {r:V→Hp→VK→Prop} (ho:UnR X (unaryOp op) r) (ha:PE X a ta):PE X (.UnaryOp op a pos) (tUn r ta):=by
  intro pins s σ H Q I h
  exact UnaryOp_ (thn (ha pins s σ H _ I h) fun v s1 ⟨x,H1,I1,r1,q1⟩=>ho pins s1 σ H1 x v Q I1 r1 q1)
theorem opI {f:Value→Value→Sem Value} {C:Int→Int→Prop} {g:Int→Int→Int}
    (rule:∀ (i j:Int) (t u:Tok) (s:Shared) (Q:Value→Shared→Prop) (E:Value→Shared→Prop),C i j→Q (.int (g i j) s.toks) { s with toks:=s.toks+1 }→wpAny (model X.prog X.w) X.A (f (.int i t) (.int j u)) Q E s) :
    OpR X f (rI C fun i j=>.int (g i j)):=by
  intro pins s σ H x y v u Q I rx ry h
  obtain ⟨i,j,rfl,rfl,hc,q⟩:=h
  obtain ⟨t,rfl⟩:=rx
  obtain ⟨t',rfl⟩:=ry
  exact rule i j t t' s _ _ hc ⟨.int (g i j),H,I.tok _,⟨_,rfl⟩,q⟩
theorem opI0 {f:Value→Value→Sem Value} {g:Int→Int→Int}
    (rule:∀ (i j:Int) (t u:Tok) (s:Shared) (Q:Value→Shared→Prop) (E:Value→Shared→Prop),Q (.int (g i j) s.toks) { s with toks:=s.toks+1 }→wpAny (model X.prog X.w) X.A (f (.int i t) (.int j u)) Q E s) :
    OpR X f (rI0 fun i j=>.int (g i j)):=by
  intro pins s σ H x y v u Q I rx ry h
  obtain ⟨i,j,rfl,rfl,q⟩:=h
  obtain ⟨t,rfl⟩:=rx
  obtain ⟨t',rfl⟩:=ry
  exact rule i j t t' s _ _ ⟨.int (g i j),H,I.tok _,⟨_,rfl⟩,q⟩
theorem opB0 {f:Value→Value→Sem Value} {g:Int→Int→Bool}
    (rule:∀ (i j:Int) (t u:Tok) (s:Shared) (Q:Value→Shared→Prop) (E:Value→Shared→Prop),Q (.bool (g i j)) s→wpAny (model X.prog X.w) X.A (f (.int i t) (.int j u)) Q E s) :
    OpR X f (rI0 fun i j=>.bl (g i j)):=by
  intro pins s σ H x y v u Q I rx ry h
  obtain ⟨i,j,rfl,rfl,q⟩:=h
  obtain ⟨t,rfl⟩:=rx
  obtain ⟨t',rfl⟩:=ry
  exact rule i j t t' s _ _ ⟨.bl (g i j),H,I,rfl,q⟩
def CDiv (i j:Int):Prop:=0 < j∧j < 1073741824
def CPow (i j:Int):Prop:=0≤j∧j≤1000000∧i.natAbs < 2 ^ 64
def CMul (i j:Int):Prop:=(-(2 ^ 64) < i∧i < 2 ^ 64)∨(-(2 ^ 64) < j∧j < 2 ^ 64)
theorem CMul.ok {i j:Int} (h:CMul i j):IntMulOk i j:=by
  rcases h with ⟨h1,h2⟩ | ⟨h1,h2⟩
  · exact .of_left (intBits_le_64 h1 h2)
  · exact .of_right (intBits_le_64 h1 h2)
theorem op_add:OpR X (binaryOp .Add) (rI0 fun i j=>.int (i+j)):=opI0 fun _ _ _ _ _ _ _ q=>add_int q
theorem op_sub:OpR X (binaryOp .Sub) (rI0 fun i j=>.int (i - j)):=opI0 fun _ _ _ _ _ _ _ q=>sub_int q
theorem op_mul:OpR X (binaryOp .Mult) (rI CMul fun i j=>.int (i * j)):=opI fun _ _ _ _ _ _ _ hc q=>mul_int q hc.ok
theorem op_fdiv:OpR X (binaryOp .FloorDiv) (rI CDiv fun i j=>.int (i / j)):=opI fun i j _ _ _ _ _ hc q=>by
  have h1:(0:Int) < j:=hc.1
  have h2:j < 1073741824:=hc.2
  exact floordiv_int (by omega) (by rw [Int.fdiv_eq_ediv_of_nonneg i (by omega)];exact q) (.inl (PyProof.noPylong_small (by omega)))
theorem op_mod:OpR X (binaryOp .Mod) (rI (fun _ j=>0 < j) fun i j=>.int (i % j)):=opI fun i j _ _ _ _ _ hc q=>by
  have h1:(0:Int) < j:=hc
  exact mod_int' (by omega) (by rw [Int.fmod_eq_emod_of_nonneg i (by omega)];exact q)
theorem op_pow:OpR X (binaryOp .Pow) (rI CPow fun i j=>.int (i ^ j.toNat)):=opI fun _ _ _ _ _ _ _ hc q=>pow_int_small hc.1 hc.2.1 hc.2.2 q
theorem unI {f:Value→Sem Value} {g:Int→Int}
    (rule:∀ (i:Int) (t:Tok) (s:Shared) (Q:Value→Shared→Prop) (E:Value→Shared→Prop),Q (.int (g i) s.toks) { s with toks:=s.toks+1 }→wpAny (model X.prog X.w) X.A (f (.int i t)) Q E s) :
    UnR X f (rU fun i=>.int (g i)):=by
  intro pins s σ H x v Q I rx h
  obtain ⟨i,rfl,q⟩:=h
  obtain ⟨t,rfl⟩:=rx
  exact rule i t s _ _ ⟨.int (g i),H,I.tok _,⟨_,rfl⟩,q⟩
theorem un_neg:UnR X (unaryOp .USub) (rU fun i=>.int (-i)):=unI fun _ _ _ _ _ q=>neg_int q
end
def scal:V→V→Bool
  | .non,.non=>true | .non,.int _=>true | .int _,.non=>true | .non,.bl _=>true | .bl _,.non=>true | .non,.str _=>true | .str _,.non=>true
  | .int _,.int _=>true | .bl _,.bl _=>true | .str _,.str _=>true | .byt _,.byt _=>true
  | .int _,.str _=>true | .str _,.int _=>true | .bl _,.str _=>true | .str _,.bl _=>true
  | _,_=>false
def rEq:R2:=fun x y H Q=>scal x y=true∧Q (.bl (decide (x=y))) H
def rNe:R2:=fun x y H Q=>scal x y=true∧Q (.bl (!decide (x=y))) H
theorem dec_int {i j:Int}:decide (V.int i=V.int j)=(i == j):=by
  rw [Bool.eq_iff_iff]
  simp
theorem dec_bl {i j:Bool}:decide (V.bl i=V.bl j)=(i == j):=by
  rw [Bool.eq_iff_iff]
  simp
theorem dec_str {i j:Str}:decide (V.str i=V.str j)=(i == j):=by
  rw [Bool.eq_iff_iff]
  simp
theorem dec_byt {i j:Array UInt8}:decide (V.byt i=V.byt j)=(i.toList == j.toList):=by
  rw [Bool.eq_iff_iff]
  cases i
  cases j
  simp
section
variable {X:Cx} {a b c:Expr} {ta tb tc:TE} {pos:Pos}
theorem fin_bl {pins:List (Addr × Obj)} {σ:St} {H:Hp} {s:Shared} {Q:VK} {k k':Bool} (I:Inv X pins σ H s) (q:Q (.bl k) H) (e:k=k'):EP X pins σ Q (.bool k') s:=by
  subst e
  exact ⟨.bl k,H,I,rfl,q⟩
theorem op_eq:OpR X (compareOp .Eq) rEq:=by
  intro pins s σ H x y v u Q I rx ry h
  obtain ⟨hs,q⟩:=h
  cases x with
  | non =>
    cases rx
    cases y with
    | non=>cases ry;exact PySem.EqNone.eq_none_none (fin_bl I q (by simp))
    | bl j=>cases ry;exact PySem.EqNone.eq_none_bool (fin_bl I q (by simp))
    | int j=>obtain ⟨t',rfl⟩:=ry;exact PySem.EqNone.eq_none_int (fin_bl I q (by simp))
    | str j=>obtain ⟨t',rfl⟩:=ry;exact PySem.EqNone.eq_none_str (fin_bl I q (by simp))
    | _=>exact absurd (show false=true from hs) Bool.false_ne_true
  | bl i =>
    cases rx
    cases y with
    | non=>cases ry;exact PySem.EqNone.eq_bool_none (fin_bl I q (by simp))
    | bl j=>cases ry;exact eq_bool (fin_bl I q dec_bl)
    | str j=>obtain ⟨t',rfl⟩:=ry;exact PySem.EqMixed.eq_bool_str (fin_bl I q (by simp))
    | _=>exact absurd (show false=true from hs) Bool.false_ne_true
  | int i =>
    obtain ⟨t,rfl⟩:=rx
    cases y with
    | non=>cases ry;exact PySem.EqNone.eq_int_none (fin_bl I q (by simp))
    | int j=>obtain ⟨t',rfl⟩:=ry;exact eq_int (fin_bl I q dec_int)
    | str j=>obtain ⟨t',rfl⟩:=ry;exact PySem.EqMixed.eq_int_str (fin_bl I q (by simp))
    | _=>exact absurd (show false=true from hs) Bool.false_ne_true
  | str i =>
    obtain ⟨t,rfl⟩:=rx
    cases y with
    | non=>cases ry;exact PySem.EqNone.eq_str_none (fin_bl I q (by simp))
    | bl j=>cases ry;exact PySem.EqMixed.eq_str_bool (fin_bl I q (by simp))
    | int j=>obtain ⟨t',rfl⟩:=ry;exact PySem.EqMixed.eq_str_int (fin_bl I q (by simp))
    | str j=>obtain ⟨t',rfl⟩:=ry;exact eq_str (fin_bl I q dec_str)
    | _=>exact absurd (show false=true from hs) Bool.false_ne_true
  | byt i =>
    obtain ⟨t,rfl⟩:=rx
    cases y with
    | byt j=>obtain ⟨t',rfl⟩:=ry;exact PySem.W.eq_bytes (fin_bl I q dec_byt)
    | _=>exact absurd (show false=true from hs) Bool.false_ne_true
  | _=>cases y <;> exact absurd (show false=true from hs) Bool.false_ne_true
theorem op_ne:OpR X (compareOp .NotEq) rNe:=by
  intro pins s σ H x y v u Q I rx ry h
  obtain ⟨hs,q⟩:=h
  cases x with
  | non =>
    cases rx
    cases y with
    | non=>cases ry;exact PySem.EqNone.ne_none_none (fin_bl I q (by simp))
    | bl j=>cases ry;exact PySem.EqNone.ne_none_bool (fin_bl I q (by simp))
    | int j=>obtain ⟨t',rfl⟩:=ry;exact PySem.EqNone.ne_none_int (fin_bl I q (by simp))
    | str j=>obtain ⟨t',rfl⟩:=ry;exact PySem.EqNone.ne_none_str (fin_bl I q (by simp))
    | _=>exact absurd (show false=true from hs) Bool.false_ne_true
  | bl i =>
    cases rx
    cases y with
    | non=>cases ry;exact PySem.EqNone.ne_bool_none (fin_bl I q (by simp))
    | bl j=>cases ry;exact ne_bool (fin_bl I q (congrArg not dec_bl))
    | str j=>obtain ⟨t',rfl⟩:=ry;exact PySem.EqMixed.ne_bool_str (fin_bl I q (by simp))
    | _=>exact absurd (show false=true from hs) Bool.false_ne_true
  | int i =>
    obtain ⟨t,rfl⟩:=rx
    cases y with
    | non=>cases ry;exact PySem.EqNone.ne_int_none (fin_bl I q (by simp))
    | int j=>obtain ⟨t',rfl⟩:=ry;exact ne_int (fin_bl I q (congrArg not dec_int))
    | str j=>obtain ⟨t',rfl⟩:=ry;exact PySem.EqMixed.ne_int_str (fin_bl I q (by simp))
    | _=>exact absurd (show false=true from hs) Bool.false_ne_true
  | str i =>
    obtain ⟨t,rfl⟩:=rx
    cases y with
    | non=>cases ry;exact PySem.EqNone.ne_str_none (fin_bl I q (by simp))
    | bl j=>cases ry;exact PySem.EqMixed.ne_str_bool (fin_bl I q (by simp))
    | int j=>obtain ⟨t',rfl⟩:=ry;exact PySem.EqMixed.ne_str_int (fin_bl I q (by simp))
    | str j=>obtain ⟨t',rfl⟩:=ry;exact ne_str (fin_bl I q (congrArg not dec_str))
    | _=>exact absurd (show false=true from hs) Bool.false_ne_true
  | byt i =>
    obtain ⟨t,rfl⟩:=rx
    cases y with
    | byt j=>obtain ⟨t',rfl⟩:=ry;exact PySem.W.ne_bytes (fin_bl I q (congrArg not dec_byt))
    | _=>exact absurd (show false=true from hs) Bool.false_ne_true
  | _=>cases y <;> exact absurd (show false=true from hs) Bool.false_ne_true
theorem op_lt:OpR X (compareOp .Lt) (rI0 fun i j=>.bl (decide (i < j))):=opB0 fun _ _ _ _ _ _ _ q=>lt_int q
theorem op_le:OpR X (compareOp .LtE) (rI0 fun i j=>.bl (decide (i≤j))):=opB0 fun _ _ _ _ _ _ _ q=>le_int q
theorem op_gt:OpR X (compareOp .Gt) (rI0 fun i j=>.bl (decide (j < i))):=opB0 fun _ _ _ _ _ _ _ q=>gt_int q
theorem op_ge:OpR X (compareOp .GtE) (rI0 fun i j=>.bl (decide (j≤i))):=opB0 fun _ _ _ _ _ _ _ q=>ge_int q
def isObj:HO→Bool
  | .lst _=>true
  | .ins _ _ _=>true
  | _=>false
theorem nomark (b:Expr) {op:CmpOp} (h:op≠.In:=by decide) (h2:op≠.NotIn:=by decide):behindInMarks op b=false:=by
  have e1:(op == CmpOp.In)=false:=by cases op <;> first | rfl | exact absurd rfl h
  have e2:(op == CmpOp.NotIn)=false:=by cases op <;> first | rfl | exact absurd rfl h2
  cases b <;> simp [behindInMarks,e1,e2]
theorem pe_cmpR {op:CmpOp} {r:R2} (ho:OpR X (compareOp op) r) (ha:PE X a ta) (hb:PE X b tb) (hm:behindInMarks op b=false):PE X (.Compare a [op] [b] pos) (tOp r ta tb):=by
  intro pins s σ H Q I h
  exact wpAny_Compare1 (binT ha hb I h fun v u s2 x y H2 I2 rx ry q=>ho pins s2 σ H2 x y v u Q I2 rx ry q) hm
def tTest (t:TE):TT:=fun σ H Q=>t σ H fun x H'=>∃ k,x=.bl k∧Q k H'
theorem pt_cmpR {op:CmpOp} {r:R2} (ho:OpR X (compareOp op) r) (ha:PE X a ta) (hb:PE X b tb) (hm:behindInMarks op b=false):PT X (.Compare a [op] [b] pos) (tTest (tOp r ta tb)):=by
  intro pins s σ H Q I h
  refine wpAny_isTrue_Compare1 (thn (ha pins s σ H _ I h) fun v s1 ⟨x,H1,I1,r1,q1⟩=>thn (hb pins s1 σ H1 _ I1 q1) fun u s2 ⟨y,H2,I2,r2,q2⟩ =>
    thn (ho pins s2 σ H2 x y v u _ I2 r1 r2 q2) fun c s3 ⟨z,H3,I3,r3,k,e,q3⟩=>?_) hm
  subst e
  cases r3
  exact wpAny_truthy_bool ⟨H3,I3,q3⟩
def tChain (r r':R2) (ta tb tc:TE):TE:=fun σ H Q=>ta σ H fun x H1=>tb σ H1 fun y H2=>r x y H2 fun z H3=>∃ k,z=.bl k ∧
  (if k=true then tc σ H3 fun w' H4=>r' y w' H4 Q else Q (.bl false) H3)
theorem pe_chain {op op':CmpOp} {r r':R2} (ho:OpR X (compareOp op) r) (ho':OpR X (compareOp op') r') (ha:PE X a ta) (hb:PE X b tb) (hc:PE X c tc)
    (hm:lastMarks [op,op'] [b,c]=false:=by with_unfolding_all rfl):PE X (.Compare a [op,op'] [b,c] pos) (tChain r r' ta tb tc):=by
  intro pins s σ H Q I h
  refine Compare_chain (thn (ha pins s σ H _ I h) fun v s1 ⟨x,H1,I1,r1,q1⟩=>chain_link (thn (hb pins s1 σ H1 _ I1 q1) fun u s2 ⟨y,H2,I2,r2,q2⟩ =>
    thn (ho pins s2 σ H2 x y v u _ I2 r1 r2 q2) fun d s3 ⟨z,H3,I3,r3,k,e,q3⟩=>?_)) hm
  subst e
  cases r3
  refine wpAny_truthy_bool ?_
  cases k with
  | false=>exact ite_ff ⟨.bl false,H3,I3,rfl,q3⟩
  | true=>exact ite_tt (chain_last (thn (hc pins s3 σ H3 _ I3 q3) fun w' s4 ⟨z',H4,I4,r4,q4⟩=>ho' pins s4 σ H4 y z' u w' Q I4 r2 r4 q4))
def TruV (K:PySem.W.Frag) (x:V) (H:Hp) (k:Bool):Prop :=
  match x with
  | .non=>k=false
  | .bl b=>k=b
  | .int i=>k=(i != 0)
  | .str y=>y.length≤sizeLine∧k=((y.length:Int) != 0)
  | .byt y=>y.size≤sizeLine∧k=((y.size:Int) != 0)
  | .ref p=>(∃ xs,SqL K H p xs∧k=!xs.isEmpty)∨(∃ xs,SqT K H p xs∧k=!xs.isEmpty)∨∃ kvs,H p=some (.dK kvs)∧k=!kvs.isEmpty
  | _=>False
theorem line63:(sizeLine:Nat) < 2 ^ 63:=by rw [sizeLine_eq];decide
theorem vals1 {x:V} {us:List Value} (r:Vals [x] us):∃ u,us=[u]∧RelV x u:=by
  cases r with
  | cons r1 r2=>cases r2;exact ⟨_,rfl,r1⟩
def LenV (K:PySem.W.Frag) (x:V) (H:Hp) (n:Nat):Prop :=
  match x with
  | .str y=>y.length≤sizeLine∧n=y.length
  | .byt y=>y.size≤sizeLine∧n=y.size
  | .ref p=>(∃ xs,SqL K H p xs∧n=xs.length)∨∃ xs,SqT K H p xs∧n=xs.length
  | _=>False
end
end L2
namespace L2
open PySem PySem.Spec PyProof.Rows
structure ObjM (h:Heap) (x dx C:Addr) (mA:Str→Option Value):Prop where
  obj:h.get? x=some (PySem.W.instObj C dx)
  ns:h.Ns1 dx mA
  ne:dx≠x
theorem lookIn_ns {h:Heap} {dx:Addr} {mA:Str→Option Value} (n:h.Ns1 dx mA):∃ od,h.get? dx=some od∧∀ name,PySem.W.lookIn name od=some (mA name):=by
  obtain ⟨o,es,ep,ho,hd,hk,_,hm⟩:=n
  refine ⟨o,ho,fun name=>?_⟩
  have e:=hm name
  unfold nsFind findBy at e
  rw [←Array.find?_toList] at e
  unfold PySem.W.lookIn
  rw [hd]
  dsimp only
  split
  · rename_i y q
    rw [q] at e
    exact congrArg some e
  · rename_i q
    rw [q] at e
    have a:es.toList.any (·.refKey)=false:=by
      rw [List.any_eq_false]
      intro y hy
      obtain ⟨z,t,hkey⟩:=hk y (Array.mem_toList_iff.mp hy)
      simp [DictEntry.refKey,hkey]
    have a':¬ es.toList.any (·.refKey)=true:=by rw [a];exact Bool.false_ne_true
    rw [if_neg a']
    exact congrArg some e
theorem ObjM.look {h:Heap} {x dx C:Addr} {mA:Str→Option Value} (I:ObjM h x dx C mA):∃ od,PySem.W.InstAt h x (PySem.W.instObj C dx) C (some od)∧∀ name,PySem.W.lookIn name od=some (mA name) :=
  let ⟨od,ho,hl⟩:=lookIn_ns I.ns
  ⟨od,⟨I.obj,rfl,rfl,ho⟩,hl⟩
section
variable {prog:Program} {w:World} {A:Around} {E:Value→Shared→Prop} {s:Shared} {K:PySem.W.Frag} {x dx C f:Addr} {mA:Str→Option Value} {name:Str} {v:Value}
theorem get_map {expr:Bool} {Q:Value→Shared→Prop} (X:K.In s.heap) (I:ObjM s.heap x dx C mA) (hg:PySem.W.plainGet K C name=true) (hh:PySem.W.hasDictIn K C=true)
    (ha:PySem.W.findIn K (.ref C) name=some none) (hv:mA name=some v) (hv':PySem.W.handedIn v=true) (h:Q v { s with toks:=s.toks+1 }) :
    wpAny (model prog w) A (getAttr (.ref x) name expr) Q E s:=by
  obtain ⟨od,J,hl⟩:=I.look
  exact PySem.W.get_value X J (PySem.W.plainGet_of hg).1 (PySem.W.findObj_own hh ha rfl (by rw [hl,hv])) hv' h
theorem get_meth {pl:Sem Bool} {Q:Value × List Value→Shared→Prop} (X:K.In s.heap) (I:ObjM s.heap x dx C mA) (hg:PySem.W.plainGet K C name=true)
    (hf:PySem.W.findIn K (.ref C) name=some (some (.ref f))) (ht:PySem.W.isFn K (.ref f)=true) (hv:mA name=none) (h:Q (.ref f,[.ref x]) s) :
    wpAny (model prog w) A (getMethod (.ref x) name pl) Q E s:=by
  obtain ⟨od,J,hl⟩:=I.look
  exact PySem.W.method_fn X J (PySem.W.plainGet_of hg).1 (PySem.W.plainGet_of hg).2 hf (beq_iff_eq.mp ht) (by show (PySem.W.lookIn name od).map (·.isSome)=some false;rw [hl,hv];rfl) h
theorem set_map {ns:List Str} {Q:Unit→Shared→Prop} (X:K.In s.heap) (I:ObjM s.heap x dx C mA)
    (hs:PySem.W.findIn K (.ref C) "__setattr__"=some (some (.builtin "object.__setattr__"))) (hp:PySem.W.plainOver K C=true) (ht:PySem.W.takerIn K C name=some none) (hh:PySem.W.hasDictIn K C=true)
    (hw:PySem.Within mA ns) (hsz:ns.length≤sizeLine)
    (h:∀ h',ObjM h' x dx C (fun y=>if y=name then some v else mA y)→Heap.SameBut dx s.heap h'→Q () { s with heap:=h',toks:=s.toks+2 }) :
    wpAny (model prog w) A (setAttr (.ref x) name v) Q E s:=by
  obtain ⟨od,J,hl⟩:=I.look
  refine PySem.W.set_plain X J hs (PySem.W.osa_open (s:={ s with toks:=s.toks+1 }) (r:=none) X J hp ht fun b=>?_)
  obtain ⟨cd,hc,hd'⟩:=PySem.W.any_some hh
  have hx:s.heap.get? x=some ⟨.ref C,some dx,.plain,#[]⟩:=I.obj
  refine wpAny_bind (wpAny_pure (wpAny_bind (wpAny_bind (wpAny_loadPart hx (wpAny_bind (PySem.W.Looks.here (s:={ s with toks:=s.toks+1 }) (PySem.W.looks_clsIn X hc) ?_))))))
  rw [hd']
  refine wpAny_pure (a:=some dx) (wpAny_bind (wpAny_pure (wpAny_bind ?_)))
  refine wpAny_nsSet1 (s:={ s with toks:=s.toks+1 }) I.ns fun h' hn2 hs2=>?_
  obtain ⟨oD,esD,epD,hoD,hdD,hcD⟩:=hn2.count (PySem.Within.cons name v hw)
  refine wpAny_bind (wpAny_lookBehind hoD (by rw [hdD];exact pastItsLine_dict (Nat.le_trans hcD (by rw [List.length_cons];omega))) ?_)
  exact wpAny_pure (h _ ⟨(hs2.2 _ (Ne.symm I.ne)).trans I.obj,hn2,I.ne⟩ hs2)
theorem make_map {R:Result→Shared→Prop} {vs:List Value} {kw:List (Str × Value)} (X:K.In s.heap) (hm:PySem.W.makesIn K C=true)
    (hi:PySem.W.findIn K (.ref C) "__init__"=some (some (.ref f))) (hf:PySem.W.typeIn K (.ref f)=some (.type "function"))
    (h:codeAny (model prog w) (A.under (.builtin "type.__call__" ⟨.ref C :: vs,kw⟩)) (.call (.ref f) ⟨.ref (s.heap.objs.size+1) :: vs,kw⟩) (PySem.W.InitBack (s.heap.objs.size+1) R)
      { s with heap:=(s.heap.push PySem.W.emptyDict).push (PySem.W.instObj C s.heap.objs.size) }) :
    codeAny (model prog w) A (.call (.ref C) ⟨vs,kw⟩) R s:=by
  obtain ⟨hh,g,d,t,os⟩:=s
  exact PySem.W.make_core (PySem.W.makes_of X hm) (PySem.W.looks_findIn X hi) (fun self=>PySem.W.bind_fn X self hf) (.inl rfl) h
end
def putF (f:Str) (v:V):List (Str × V)→List (Str × V)
  | []=>[(f,v)]
  | (g,x) :: r=>if g=f then (g,v) :: r else (g,x) :: putF f v r
theorem lookup_putF (f g:Str) (v:V):∀ fs:List (Str × V),(putF f v fs).lookup g=if g=f then some v else fs.lookup g
  | []=>by
    show List.lookup g [(f,v)]=_
    by_cases h:g=f
    · have hb:(g == f)=true:=beq_iff_eq.mpr h
      simp only [List.lookup,hb,if_pos h]
    · have hb:(g == f)=false:=beq_eq_false_iff_ne.mpr h
      simp only [List.lookup,hb,if_neg h]
  | (k,x) :: r=>by
    have ih:=lookup_putF f g v r
    rw [show putF f v ((k,x) :: r)=(if k=f then (k,v) :: r else (k,x) :: putF f v r) from rfl]
    by_cases hk:k=f
    · rw [if_pos hk]
      by_cases h:g=k
      · have hb:(g == k)=true:=beq_iff_eq.mpr h
        simp only [List.lookup,hb,if_pos (h.trans hk)]
      · have hb:(g == k)=false:=beq_eq_false_iff_ne.mpr h
        simp only [List.lookup,hb,if_neg (fun e:g=f=>h (e.trans hk.symm))]
    · rw [if_neg hk]
      by_cases h:g=k
      · have hb:(g == k)=true:=beq_iff_eq.mpr h
        simp only [List.lookup,hb,if_neg (fun e:g=f=>hk (h.symm.trans e))]
      · have hb:(g == k)=false:=beq_eq_false_iff_ne.mpr h
        simp only [List.lookup,hb]
        exact ih
theorem keys_putF (f:Str) (v:V):∀ fs:List (Str × V),f∈(putF f v fs).map (·.1)∧∀ g,g∈fs.map (·.1)→g∈(putF f v fs).map (·.1)
  | []=>⟨by simp [putF],fun g h=>by simp at h⟩
  | (k,x) :: r=>by
    obtain ⟨i1,i2⟩:=keys_putF f v r
    rw [show putF f v ((k,x) :: r)=(if k=f then (k,v) :: r else (k,x) :: putF f v r) from rfl]
    by_cases hk:k=f
    · rw [if_pos hk]
      subst hk
      exact ⟨by simp,fun g h=>by simpa using h⟩
    · rw [if_neg hk]
      refine ⟨?_,fun g h=>?_⟩
      · rw [List.map_cons]
        exact List.mem_cons_of_mem _ i1
      · rw [List.map_cons] at h ⊢
        rcases List.mem_cons.mp h with e | e
        · exact List.mem_cons.mpr (.inl e)
        · exact List.mem_cons_of_mem _ (i2 g e)
theorem length_putF (f:Str) (v:V):∀ fs:List (Str × V),(putF f v fs).length≤fs.length+1
  | []=>by simp [putF]
  | (k,x) :: r=>by
    have ih:=length_putF f v r
    rw [show putF f v ((k,x) :: r)=(if k=f then (k,v) :: r else (k,x) :: putF f v r) from rfl]
    by_cases hk:k=f
    · rw [if_pos hk,List.length_cons,List.length_cons];omega
    · rw [if_neg hk,List.length_cons,List.length_cons];omega
theorem RelO.some_of {v:V} {o:Option Value} (r:RelO (some v) o):∃ u,o=some u∧RelV v u:=by
  cases o with
  | none=>exact (show False from r).elim
  | some u=>exact ⟨u,rfl,r⟩
theorem RelO.none_of {o:Option Value} (r:RelO none o):o=none:=by
  cases o with
  | none=>rfl
  | some u=>exact (show False from r).elim
theorem handed_of {v:V} {u:Value} (r:RelV v u):PySem.W.handedIn u=true:=by
  cases v with
  | non=>cases (show u=Value.none from r);rfl
  | bl b=>cases (show u=Value.bool b from r);rfl
  | int i=>obtain ⟨t,e⟩:=(show ∃ t,u=Value.int i t from r);cases e;rfl
  | str x=>obtain ⟨t,e⟩:=(show ∃ t,u=Value.str x t from r);cases e;rfl
  | byt b=>obtain ⟨t,e⟩:=(show ∃ t,u=Value.bytes b t from r);cases e;rfl
  | flt b=>obtain ⟨t,e⟩:=(show ∃ t,u=Value.float b t from r);cases e;rfl
  | ref a=>cases (show u=Value.ref a from r);rfl
  | ty n=>cases (show u=Value.type n from r);rfl
section
variable {P:Program} {w:World} {H H':Hp} {h h':Heap} {a C dx:Addr} {fs fs':List (Str × V)}
theorem ins_get (hok:HOk P w H h) (e:H a=some (.ins C dx fs)):∃ mA,ObjM h a dx C mA∧(∀ f,RelO (fs.lookup f) (mA f))∧PySem.Within mA (fs.map (·.1))∧fs.length≤1000∧H dx=some (.own a):=by
  obtain ⟨d,z,ne,ob,mA,n,r,q⟩:=(show ObjOk P w H h a (.ins C dx fs) from hok a _ e)
  exact ⟨mA,⟨ob,n,ne⟩,r,q,z,d⟩
end
structure Cls (K:PySem.W.Frag) (C:Addr):Prop where
  pg:PySem.W.plainGet K C Str.empty=true
  hd:PySem.W.hasDictIn K C=true
  po:PySem.W.plainOver K C=true
  sa:PySem.W.findIn K (.ref C) "__setattr__"=some (some (.builtin "object.__setattr__"))
theorem Cls.get {K:PySem.W.Frag} {C:Addr} (c:Cls K C) (f:Str):PySem.W.plainGet K C f=true:=c.pg
def NoAttr (K:PySem.W.Frag) (C:Addr) (f:Str):Prop:=PySem.W.findIn K (.ref C) f=some none
theorem NoAttr.taker {K:PySem.W.Frag} {C:Addr} {f:Str} (n:NoAttr K C f):PySem.W.takerIn K C f=some none:=by
  unfold PySem.W.takerIn
  rw [show PySem.W.findIn K (.ref C) f=some none from n]
  rfl
structure Con (K:PySem.W.Frag) (C:Addr) (f:Str) (v:V) (u:Value):Prop where
  at_:PySem.W.findIn K (.ref C) f=some (some u)
  rel:RelV v u
  get:PySem.W.specialIn K u "__get__"=some none
  cp:PySem.W.copiedNames.contains f=false
structure Meth (K:PySem.W.Frag) (C:Addr) (m:Str) (f:Addr):Prop where
  at_:PySem.W.findIn K (.ref C) m=some (some (.ref f))
  fn:PySem.W.isFn K (.ref f)=true
  kp:PySem.W.keepIn K (.ref f)=true
section
variable {X:Cx} {pins:List (Addr × Obj)} {σ:St} {H:Hp} {s:Shared} {a C dx:Addr} {fs:List (Str × V)} {f:Str} {v:V} {A:Around} {E:Value→Shared→Prop}
theorem getattr_ok {b:Bool} {Q:Value→Shared→Prop} (I:Inv X pins σ H s) (e:H a=some (.ins C dx fs)) (c:Cls X.K C) (n:NoAttr X.K C f) (l:fs.lookup f=some v)
    (h:∀ u s',Inv X pins σ H s'→RelV v u→Q u s'):wpAny (model X.prog X.w) A (getAttr (.ref a) f b) Q E s:=by
  obtain ⟨mA,O,r,_,_,_⟩:=ins_get I.hok e
  obtain ⟨u,hu,ru⟩:=RelO.some_of (v:=v) (o:=mA f) (by rw [←l];exact r f)
  exact get_map I.kIn O (c.get f) c.hd n hu (handed_of ru) (h u _ (I.tok _) ru)
theorem getmeth_ok {m:Str} {g:Addr} {pl:Sem Bool} {Q:Value × List Value→Shared→Prop} (I:Inv X pins σ H s) (e:H a=some (.ins C dx fs)) (c:Cls X.K C) (k:Meth X.K C m g) (l:fs.lookup m=none)
    (h:Q (.ref g,[.ref a]) s):wpAny (model X.prog X.w) A (getMethod (.ref a) m pl) Q E s:=by
  obtain ⟨mA,O,r,_,_,_⟩:=ins_get I.hok e
  have hn:mA m=none:=RelO.none_of (by rw [←l];exact r m)
  exact get_meth I.kIn O (c.get m) k.at_ k.fn hn h
theorem setattr_ok {y:V} {u:Value} {Q:Unit→Shared→Prop} (I:Inv X pins σ H s) (e:H a=some (.ins C dx fs)) (c:Cls X.K C) (n:NoAttr X.K C f) (hl:fs.length < 1000) (ry:RelV y u)
    (h:∀ s',Inv X pins σ (upd H a (.ins C dx (putF f y fs))) s'→Q () s'):wpAny (model X.prog X.w) A (setAttr (.ref a) f u) Q E s:=by
  obtain ⟨mA,O,r,wi,_,ho⟩:=ins_get I.hok e
  have hz:(fs.map (·.1)).length≤sizeLine:=by rw [List.length_map,sizeLine_eq];omega
  refine set_map I.kIn O c.sa c.po n.taker c.hd wi hz fun h' O' sb=>h _ ?_
  have hd:∃ o,h'.get? dx=some o:=let ⟨o,_,_,e',_⟩:=O'.ns;⟨o,e'⟩
  refine I.write (x:=a) (e:=dx) (by rw [e];exact True.intro) (.inr ho) (fun b q hb z=>(sb.2 b hb).trans z) hd ?_
  refine ⟨by rw [upd_ne O.ne];exact ho,?_,O.ne,O'.obj,_,O'.ns,fun g=>?_,fun g hg=>?_⟩
  · have:=length_putF f y fs;omega
  · show RelO ((putF f y fs).lookup g) (if g=f then some u else mA g)
    rw [lookup_putF]
    by_cases q:g=f
    · rw [if_pos q,if_pos q];exact ry
    · rw [if_neg q,if_neg q];exact r g
  · by_cases q:g=f
    · rw [q];exact (keys_putF f y fs).1
    · refine (keys_putF f y fs).2 g (wi g fun z=>hg ?_)
      show (if g=f then some u else mA g)=none
      rw [if_neg q];exact z
theorem Inv.made (I:Inv X pins σ H s):Inv X pins σ (upd (upd H s.heap.objs.size (.own (s.heap.objs.size+1))) (s.heap.objs.size+1) (.ins C s.heap.objs.size []))
    { s with heap:=(s.heap.push PySem.W.emptyDict).push (PySem.W.instObj C s.heap.objs.size) }:=by
  have e1:(s.heap.push PySem.W.emptyDict).get? s.heap.objs.size=some PySem.W.emptyDict:=Heap.get?_push_size s.heap rfl
  have e2:((s.heap.push PySem.W.emptyDict).push (PySem.W.instObj C s.heap.objs.size)).get? (s.heap.objs.size+1)=some (PySem.W.instObj C s.heap.objs.size):=by
    have:=Heap.get?_push_size (s.heap.push PySem.W.emptyDict) (o:=PySem.W.instObj C s.heap.objs.size) rfl
    rwa [Heap.size_push] at this
  have e3:(s.heap.push PySem.W.emptyDict).Ns s.heap.objs.size (fun _=>none):=⟨PySem.W.emptyDict,#[],_,e1,rfl,(fun e he=>absurd he (by simp)),fun _=>rfl⟩
  have I1:=I.laid (a:=s.heap.objs.size) (o:=.own (s.heap.objs.size+1)) (h':=s.heap.push PySem.W.emptyDict) (t':=s.toks) (fun b u q=>Heap.get?_push_of_some _ q) (Nat.le_refl _) ⟨_,e1⟩
  refine I1.laid (a:=s.heap.objs.size+1) (o:=.ins C s.heap.objs.size []) (t':=s.toks) (fun b u q=>Heap.get?_push_of_some _ q) (Nat.le_of_eq (Heap.size_push _ _)) ?_
  have ne:s.heap.objs.size≠s.heap.objs.size+1:=Nat.ne_of_lt (Nat.lt_succ_self _)
  refine ⟨by rw [upd_ne ne,upd_same],Nat.zero_le _,ne,e2,fun _=>none,(Heap.Ns1.of_empty e3).at fun o q=>Heap.get?_push_of_some _ q,fun _=>True.intro,fun y hy=>absurd rfl hy⟩
theorem attr_of {prog:Program} {w:World} {env:Env} {e:Expr} {f:Str} {pos:Pos} {s:Shared} {Q:Value→Shared→Prop} (hb:attributeBase e f env (eval e env)=eval e env)
    (h:wpAny (model prog w) A (eval e env) (fun o s₁=>wpAny (model prog w) A (getAttr o f true) Q E s₁) E s):wpAny (model prog w) A (eval (.Attribute e f pos) env) Q E s :=
  Attribute_any_ h (by rw [arm_eval_Attribute,hb])
end
def tFld (K:PySem.W.Frag) (ta:TE) (f:Str):TE:=fun σ H Q=>ta σ H fun x H1=>∃ a C dx fs v,x=.ref a∧H1 a=some (.ins C dx fs)∧Cls K C∧NoAttr K C f∧fs.lookup f=some v∧Q v H1
def tCon (K:PySem.W.Frag) (ta:TE) (f:Str):TE:=fun σ H Q=>ta σ H fun x H1=>∃ a C dx fs v u,x=.ref a∧H1 a=some (.ins C dx fs)∧Cls K C∧Con K C f v u∧fs.lookup f=none∧Q v H1
def sFld (K:PySem.W.Frag) (ta tv:TE) (f:Str):TS:=fun D σ H=>tv σ H fun y H1=>ta σ H1 fun x H2=>∃ a C dx fs,x=.ref a∧H2 a=some (.ins C dx fs)∧Cls K C∧NoAttr K C f∧fs.length < 1000 ∧
  D.nx σ (upd H2 a (.ins C dx (putF f y fs)))
def InOp (X:Cx) (op:Operator) (rd:V→V→Hp→VK→Prop):Prop :=
  ∀ (pins:List (Addr × Obj)) (s:Shared) (σ:St) (H:Hp) (x y:V) (u v:Value) (Q:VK),Inv X pins σ H s→RelV x u→RelV y v→rd x y H Q→wpAny (model X.prog X.w) X.A (inplaceOp op u v) (EP X pins σ Q) X.xe s
def sFldAug (K:PySem.W.Frag) (ta tv:TE) (rd:V→V→Hp→VK→Prop) (f:Str):TS:=fun D σ H=>ta σ H fun x H1=>∃ a C dx fs v,x=.ref a∧H1 a=some (.ins C dx fs)∧Cls K C∧NoAttr K C f∧fs.lookup f=some v ∧
  tv σ H1 fun y H2=>rd v y H2 fun z H3=>∃ dx' fs',H3 a=some (.ins C dx' fs')∧fs'.length < 1000∧D.nx σ (upd H3 a (.ins C dx' (putF f z fs')))
section
variable {X:Cx} {o e value:Expr} {f:Str} {pos pos' tpos:Pos} {ta tv:TE}
theorem pe_fld (he:PE X e ta) (hb:attributeBase e f X.env (eval e X.env)=eval e X.env):PE X (.Attribute e f pos) (tFld X.K ta f):=by
  intro pins s σ H Q I h
  refine attr_of hb (thn (he pins s σ H _ I h) fun u s1 ⟨x,H1,I1,rx,a,C,dx,fs,v,ex,ea,c,n,l,q⟩=>?_)
  subst ex
  obtain rfl:u=Value.ref a:=rx
  exact getattr_ok I1 ea c n l fun u' s2 I2 ru=>⟨v,H1,I2,ru,q⟩
theorem ps_fld (ha:PE X o ta) (hv:PE X value tv) (hs:swapsWith value (some (.Attribute o f pos')) pos.line X.env=pure false):PS X (.Assign [.Attribute o f pos'] value pos) (sFld X.K ta tv f):=by
  intro pins s σ H D I h
  refine plainObj_wpAny_Assign_Attribute (thn (hv pins s σ H _ I h) fun u s1 ⟨y,H1,I1,ry,q⟩=>thn (ha pins s1 σ H1 _ I1 q) fun ov s2 ⟨x,H2,I2,rx,a,C,dx,fs,ex,ea,c,n,l,q2⟩=>?_) hs
  subst ex
  obtain rfl:ov=Value.ref a:=rx
  exact setattr_ok I2 ea c n l ry fun s3 I3=>⟨σ,_,I3,q2⟩
end
section
variable {X:Cx} {pins:List (Addr × Obj)} {σ:St} {H:Hp} {s:Shared} {A:Around} {E:Value→Shared→Prop} {Q:Value→Shared→Prop} {c:Value} {b:Bool}
inductive TyOf (K:PySem.W.Frag) (H:Hp):V→Value→Prop where
  | non:TyOf K H .non (.type "NoneType")
  | bl (x:Bool):TyOf K H (.bl x) (.type "bool")
  | int (i:Int):TyOf K H (.int i) (.type "int")
  | str (x:Str):TyOf K H (.str x) (.type "str")
  | flt (x:UInt64):TyOf K H (.flt x) (.type "float")
  | lst {a:Addr} {xs:List V} (e:H a=some (.lst xs)):TyOf K H (.ref a) (.type "list")
  | frz {a:Addr} {o:Obj} {xs:List V} (e:H a=some (.frz o (.lst xs))):TyOf K H (.ref a) (.type "list")
  | tup {a:Addr} {xs:List V} (e:H a=some (.tup xs)):TyOf K H (.ref a) (.type "tuple")
  | dK {a:Addr} {kvs:List (Key × V)} (e:H a=some (.dK kvs)):TyOf K H (.ref a) (.type "dict")
  | dT {a:Addr} {kvs:List (List Key × V)} (e:H a=some (.dT kvs)):TyOf K H (.ref a) (.type "dict")
  | ins {a C dx:Addr} {fs:List (Str × V)} (e:H a=some (.ins C dx fs)) (cl:Cls K C) (ha:PySem.W.findIn K (.ref C) "__class__"=some (some (.builtin "object.__class__")))
      (hn:PySem.W.specialIn K (.builtin "object.__class__") "__get__"=some (some (.builtin "getset_descriptor.__get__"))) (htk:PySem.W.takesIn K (.builtin "object.__class__")=some true)
      (hm:PySem.W.mroIn K C (.type "object")=some true):TyOf K H (.ref a) (.ref C)
theorem isinst_ok {x:V} {u t:Value} (I:Inv X pins σ H s) (rx:RelV x u) (ty:TyOf X.K H x t) (e:PySem.W.kitOne X.K t c=some b) (h:∀ tk,Q (.bool b) { s with toks:=tk }) :
    wpAny (model X.prog X.w) A (call (.builtin "isinstance") [u,c]) Q E s:=by
  cases ty with
  | non=>cases (show u=Value.none from rx);exact PySem.W.kia_one PySem.W.kitx_none I.kIn True.intro e (fun z=>nomatch z) h
  | bl y=>cases (show u=Value.bool y from rx);exact PySem.W.kia_one PySem.W.kitx_bool I.kIn True.intro e (fun z=>nomatch z) h
  | int i=>obtain ⟨t,q⟩:=(show ∃ t,u=Value.int i t from rx);cases q;exact PySem.W.kia_one PySem.W.kitx_int I.kIn True.intro e (fun z=>nomatch z) h
  | str y=>obtain ⟨t,q⟩:=(show ∃ t,u=Value.str y t from rx);cases q;exact PySem.W.kia_one PySem.W.kitx_str I.kIn True.intro e (fun z=>nomatch z) h
  | flt y=>obtain ⟨t,q⟩:=(show ∃ t,u=Value.float y t from rx);cases q;exact PySem.W.kia_one PySem.W.kitx_float I.kIn True.intro e (fun z=>nomatch z) h
  | @lst a xs ea =>
    cases (show u=Value.ref a from rx)
    obtain ⟨_,_,n,_,h1⟩:=(show ObjOk X.prog X.w H s.heap a (.lst xs) from I.hok a _ ea)
    exact PySem.W.kia_one PySem.W.kitx_list I.kIn ⟨_,h1,rfl⟩ e (fun z=>nomatch z) h
  | @frz a ob xs ea =>
    cases (show u=Value.ref a from rx)
    obtain ⟨_,_,_,n,_,h1⟩:=(show ObjOk X.prog X.w H s.heap a (.frz ob (.lst xs)) from I.hok a _ ea)
    exact PySem.W.kia_one PySem.W.kitx_list I.kIn ⟨_,h1,rfl⟩ e (fun z=>nomatch z) h
  | @tup a xs ea =>
    cases (show u=Value.ref a from rx)
    obtain ⟨_,_,_,p⟩:=(show ObjOk X.prog X.w H s.heap a (.tup xs) from I.hok a _ ea)
    obtain ⟨o,h1,h2,_⟩:=p.is
    exact PySem.W.kia_one PySem.W.kitx_tuple I.kIn ⟨o,h1,h2⟩ e (fun z=>nomatch z) h
  | @dK a kvs ea =>
    cases (show u=Value.ref a from rx)
    obtain ⟨_,_,vs,_,p⟩:=(show ObjOk X.prog X.w H s.heap a (.dK kvs) from I.hok a _ ea)
    obtain ⟨o,es,ep,h1,h2,_⟩:=p
    exact PySem.W.kia_one PySem.W.kitx_dict I.kIn ⟨o,h1,h2.1⟩ e (fun z=>nomatch z) h
  | @dT a kvs ea =>
    cases (show u=Value.ref a from rx)
    obtain ⟨_,_,xs,_,o,es,ep,h1,h2,_⟩:=(show ObjOk X.prog X.w H s.heap a (.dT kvs) from I.hok a _ ea)
    exact PySem.W.kia_one PySem.W.kitx_dict I.kIn ⟨o,h1,h2.1⟩ e (fun z=>nomatch z) h
  | @ins a C dx fs ea cl ha hn htk hm =>
    cases (show u=Value.ref a from rx)
    obtain ⟨mA,O,_⟩:=ins_get I.hok ea
    obtain ⟨od,J,_⟩:=O.look
    exact PySem.W.kia_one (PySem.W.kitx_own (cl.get _) cl.hd ha hn htk hm) I.kIn J e (fun z=>nomatch z) h
end
end L2
namespace L2
open PySem PySem.Spec PyProof.Rows
structure Room (k:Nat) (A:Around):Prop where
  hd:A.handled=none
  dp:A.depth+3 * k+5 < recursionLimit
  un:A.units+16 * k+200 < cLine
theorem Room.mono {j k:Nat} {A:Around} (r:Room k A) (h:j≤k):Room j A:=⟨r.hd,by have:=r.dp;omega,by have:=r.un;omega⟩
theorem Room.deeper {k:Nat} {A:Around} (r:Room (k+1) A) (env:Env):Room k (A.deeper env) :=
  ⟨r.hd,by have:=r.dp;show A.depth+1+3 * k+5 < _;omega,by have:=r.un;show A.units+3+16 * k+200 < _;omega⟩
theorem make_depth {A:Around} {C:Addr} {us:List Value} {kw:List (Str × Value)}:(A.under (.builtin "type.__call__" ⟨.ref C :: us,kw⟩)).depth=A.depth+1:=by
  first | rfl | simp [Around.under,Code.weight,Code.isCreation,Code.isGuard,Code.isCaller,Code.frames,Code.isFrame,guardIds]
theorem make_units {A:Around} {C:Addr} {us:List Value} {kw:List (Str × Value)}:(A.under (.builtin "type.__call__" ⟨.ref C :: us,kw⟩)).units=A.units+1:=by
  first | rfl | simp [Around.under,Code.cUnits,Code.frames,Code.isFrame]
theorem Room.make {k:Nat} {A:Around} (r:Room (k+1) A) (C:Addr) (us:List Value) (kw:List (Str × Value)):Room k (A.under (.builtin "type.__call__" ⟨.ref C :: us,kw⟩)) :=
  ⟨r.hd,by have:=r.dp;rw [make_depth];omega,by have:=r.un;rw [make_units];omega⟩
theorem Room.depth {k:Nat} {A:Around} (r:Room k A):A.depth < recursionLimit:=by have:=r.dp;omega
theorem Room.units {k:Nat} {A:Around} (r:Room k A):A.units+64 < cLine:=by have:=r.un;omega
def tNil:TA:=fun _ H Q=>Q [] H
def tCons (ta:TE) (tr:TA):TA:=fun σ H Q=>ta σ H fun x H1=>tr σ H1 fun xs H2=>Q (x :: xs) H2
section
variable {X:Cx} {e:Expr} {es:List Expr} {te:TE} {t:TA} {pos:Pos}
theorem pa_nil:PA X [] tNil:=fun _ _ _ _ H Q I h=>Calls.spliced_nil ⟨[],H,I,.nil,h⟩
theorem pa_cons (ha:PE X e te) (hr:PA X es t) (hs:starEach (e :: es) X.env=(false,eval e X.env) :: starEach es X.env:=by rfl):PA X (e :: es) (tCons te t):=by
  intro pos pins s σ H Q I h
  rw [hs]
  show wpAny _ _ (spliced ((false,eval e X.env) :: backTo pos (starEach es X.env))) _ _ s
  refine Calls.spliced_cons (thn (ha pins s σ H _ I h) fun u s1 ⟨x,H1,I1,r1,q1⟩=>?_)
  exact thn (hr pos pins s1 σ H1 _ I1 q1) fun us s2 ⟨xs,H2,I2,r2,q2⟩=>⟨x :: xs,H2,I2,.cons r1 r2,q2⟩
def tTup (t:TA):TE:=fun σ H Q=>t σ H fun xs H1=>xs.length≤sizeLine∧∀ p,H1 p=none→Q (.ref p) (upd H1 p (.tup xs))
def tLst (t:TA):TE:=fun σ H Q=>t σ H fun xs H1=>xs.length≤sizeLine∧∀ p,H1 p=none→Q (.ref p) (upd H1 p (.lst xs))
theorem pe_tup {x1} (h:PA X es t):PE X (.Tuple es x1 pos) (tTup t):=by
  intro pins s σ H Q I hq
  refine wpAny_Tuple_spliced (thn (h pos pins s σ H _ I hq) fun us s1 ⟨xs,H1,I1,r,z,q⟩=>⟨by rw [←r.length];exact z,?_⟩)
  have hf:H1 s1.heap.objs.size=none:=I1.hok.fresh (Nat.le_refl _)
  refine ⟨.ref s1.heap.objs.size,upd H1 s1.heap.objs.size (.tup xs),I1.laid (t':=s1.toks) (fun b u e=>Heap.get?_push_of_some _ e) (Nat.le_refl _) ?_,rfl,q _ hf⟩
  exact ⟨z,us,r,⟨_,Heap.get?_push_size _ rfl,_,rfl⟩⟩
theorem pe_lst (h:PA X es t):PE X (.List es pos) (tLst t):=by
  intro pins s σ H Q I hq
  refine wpAny_List_spliced (thn (h pos pins s σ H _ I hq) fun us s1 ⟨xs,H1,I1,r,z,q⟩=>⟨by rw [←r.length];exact z,?_⟩)
  have hf:H1 s1.heap.objs.size=none:=I1.hok.fresh (Nat.le_refl _)
  refine ⟨.ref s1.heap.objs.size,upd H1 s1.heap.objs.size (.lst xs),I1.laid (t':=s1.toks) (fun b u e=>Heap.get?_push_of_some _ e) (Nat.le_refl _) ?_,rfl,q _ hf⟩
  exact ⟨z,us,0,r,Heap.get?_push_size _ rfl⟩
end
abbrev Sp:=List V→Hp→VK→XK→Prop
abbrev CXT:=List Env→Hp→Shared→XK→Value→Shared→Prop
structure Env0 (P:Program) (w:World) (K:PySem.W.Frag) (mg:Str→Option Value) (base:Heap) (A:Around) (outer:List Env) (s:Shared) (H:Hp):Prop where
  frames:A.frames=some outer
  mod:Mod K mg base
  bs:∀ b o,base.get? b=some o→s.heap.get? b=some o∧H b=none
  bsz:base.objs.size≤s.heap.objs.size
  funs:s.heap.FunFrames base outer
  frf:∀ b∈frs outer,H b=none
  hok:HOk P w H s.heap
  bare:AllBare s.gens
def CE (outer:List Env) (P:Program) (w:World) (H:Hp) (s:Shared) (Q:VK) (u:Value) (s':Shared):Prop :=
  ∃ v H',s'.os=s.os∧AllBare s'.gens∧Un (frs outer) [] H H' s.heap s'.heap∧HOk P w H' s'.heap∧RelV v u∧Q v H'
def CR (CX:CXT) (outer:List Env) (P:Program) (w:World) (H:Hp) (s:Shared) (Q:VK) (E:XK) (r:Result) (s':Shared):Prop :=
  match r with
  | .ok (.ret u)=>CE outer P w H s Q u s'
  | .ok _=>False
  | .error e=>CX outer H s E e s'
structure FnOk (P:Program) (w:World) (K:PySem.W.Frag) (mg:Str→Option Value) (base:Heap) (CX:CXT) (k:Nat) (f:Addr) (fd:FuncData) (ps:List Str) (sp:Sp):Prop where
  len:∀ vs H Q E,sp vs H Q E→vs.length=ps.length
  run:∀ (A:Around) (outer:List Env) (s:Shared) (H:Hp) (args:Args) (us:List Value) (vs:List V) (Q:VK) (E:XK),Room k A→Env0 P w K mg base A outer s H→BindsTo s fd args (ps.zip us)→Vals vs us→sp vs H Q E →
    codeAny (model P w) A (.call (.ref f) args) (CR CX outer P w H s Q E) s
theorem FnOk.mono {P:Program} {w:World} {K:PySem.W.Frag} {mg:Str→Option Value} {base:Heap} {CX:CXT} {j k:Nat} {f:Addr} {fd:FuncData} {ps:List Str} {sp:Sp} (F:FnOk P w K mg base CX j f fd ps sp) (h:j≤k) :
    FnOk P w K mg base CX k f fd ps sp:=⟨F.len,fun A outer s H args us vs Q E hr=>F.run A outer s H args us vs Q E (hr.mono h)⟩
theorem Env0.make {P:Program} {w:World} {K:PySem.W.Frag} {mg:Str→Option Value} {base:Heap} {A:Around} {outer:List Env} {s:Shared} {H:Hp} (e:Env0 P w K mg base A outer s H) (C:Addr) (us:List Value) (kw:List (Str × Value)) :
    Env0 P w K mg base (A.under (.builtin "type.__call__" ⟨.ref C :: us,kw⟩)) outer s H:=⟨by first | exact e.frames | (simpa [Around.under,Code.envs,Code.isFrame,pushEnvs] using e.frames),e.mod,e.bs,e.bsz,e.funs,e.frf,e.hok,e.bare⟩
section
variable {X:Cx} {pins:List (Addr × Obj)} {σ:St} {H:Hp} {s s':Shared}
theorem Inv.env0 (I:Inv X pins σ H s):Env0 X.prog X.w X.K X.mg X.base X.A X.stack s H :=
  ⟨I.ok.frames,I.ok.mod,I.bs,Nat.le_trans I.ok.bsz I.sz,I.stack,I.stkFree,I.hok,I.bare⟩
theorem Inv.after {Q:VK} {u:Value} (I:Inv X pins σ H s) (h:CE X.stack X.prog X.w H s Q u s'):EP X pins σ Q u s':=by
  obtain ⟨v,H',os,bare,un,hok,r,q⟩:=h
  obtain ⟨hh,g,d,t,os'⟩:=s'
  obtain rfl:os'=s.os:=os
  exact ⟨v,H',I.call (h':=hh) (g':=g) (d':=d) (t':=t) (ch:=[]) un hok bare (fun b z=>absurd z (by simp)),r,q⟩
end
def tCall (sp:Sp) (dvs:List V) (E:XK) (t:TA):TE:=fun σ H Q=>t σ H fun vs H1=>sp (vs++dvs) H1 Q E
def tMeth (C:Addr) (m:Str) (sp:Sp) (dvs:List V) (E:XK) (ta:TE) (t:TA):TE:=fun σ H Q=>ta σ H fun x H1=>∃ a dx fs,x=.ref a∧H1 a=some (.ins C dx fs)∧fs.lookup m=none ∧
  t σ H1 fun vs H2=>sp (x :: (vs++dvs)) H2 Q E
def tMake (C:Addr) (sp:Sp) (dvs:List V) (E:XK) (t:TA):TE:=fun σ H Q=>t σ H fun vs H1=>∀ x dx,H1 x=none→H1 dx=none→dx≠x →
  sp (.ref x :: (vs++dvs)) (upd (upd H1 dx (.own x)) x (.ins C dx [])) (fun v H2=>v=.non∧Q (.ref x) H2) E
def Binds (K:PySem.W.Frag) (fd:FuncData) (ps:List Str) (ds:List Value):Prop :=
  ∀ (s:Shared) (us:List Value),K.In s.heap→(us++ds).length=ps.length→BindsTo s fd ⟨us,[]⟩ (ps.zip (us++ds))
theorem Binds.all {K:PySem.W.Frag} {fd:FuncData} {ps:List Str} (h:∀ us:List Value,us.length=ps.length→bindArgs fd ⟨us,[]⟩=pure (ps.zip us)):Binds K fd ps []:=fun s us _ hl=>by
  rw [List.append_nil] at hl ⊢
  exact .of_eq (h us hl)
def Passes (CX:CXT) (X:Cx) (E:XK):Prop:=∀ (pins:List (Addr × Obj)) (σ:St) (H:Hp) (s:Shared) (e:Value) (s':Shared),Inv X pins σ H s→CX X.stack H s E e s'→X.xe e s'
section
variable {X:Cx} {CX:CXT} {k:Nat} {f C:Addr} {fd:FuncData} {ps:List Str} {sp:Sp} {dvs:List V} {ds:List Value} {E:XK} {x m:Str} {p pos apos:Pos} {e o:Expr} {es:List Expr} {ta:TE} {t:TA}
theorem run_fn {pins:List (Addr × Obj)} {σ:St} {H:Hp} {s:Shared} {Q:VK} {us:List Value} {vs:List V} (F:FnOk X.prog X.w X.K X.mg X.base CX k f fd ps sp) (hr:Room k X.A) (hb:Binds X.K fd ps ds) (hd:Vals dvs ds) (hx:Passes CX X E)
    (I:Inv X pins σ H s) (r:Vals vs us) (h:sp (vs++dvs) H Q E):wpAny (model X.prog X.w) X.A (call (.ref f) us) (EP X pins σ Q) X.xe s:=by
  have r2:Vals (vs++dvs) (us++ds):=r.append hd
  have hl:(us++ds).length=ps.length:=by rw [←r2.length];exact F.len _ _ _ _ h
  refine wpAny_call (codeAny_mono (F.run X.A X.stack s H ⟨us,[]⟩ (us++ds) (vs++dvs) Q E hr I.env0 (hb s us I.kIn hl) r2 h) fun r s' hq=>?_)
  cases r with
  | error e=>exact hx pins σ H s e s' I hq
  | ok fl =>
    cases fl with
    | ret u=>exact I.after hq
    | next=>exact False.elim hq
    | brk=>exact False.elim hq
    | cont=>exact False.elim hq
theorem pe_call (F:FnOk X.prog X.w X.K X.mg X.base CX k f fd ps sp) (hr:Room k X.A) (hg:Gl X x) (hm:X.mg x=some (.ref f)) (hk:PySem.W.keepIn X.K (.ref f)=true) (hb:Binds X.K fd ps ds) (hd:Vals dvs ds) (hx:Passes CX X E)
    (ha:PA X (e :: es) t) (hdb:(x == ("__debug__":Str))=false:=by decide) (he:starEach (e :: es) X.env=(false,eval e X.env) :: starEach es X.env:=by rfl) (hpl:(backTo pos (starEach es X.env)).any (·.1)=false:=by rfl) :
    PE X (.Call (.Name x p) (e :: es) [] pos) (tCall sp dvs E t):=by
  intro pins s σ H Q I h
  refine wpAny_Call_Name_kw (ld_glob I hg hm ?_ hdb)
  refine PySem.W.callWith_K (h₀:=X.base) I.ok.mod.kin hk (thn (ha pos pins s σ H _ I h) fun us s1 ⟨vs,H1,I1,r,q⟩=>⟨I1.kIn,?_⟩) he hpl
  exact run_fn F hr hb hd hx I1 r q
theorem pe_meth {pl:Sem Bool} (he:PE X o ta) (c:Cls X.K C) (hm:Meth X.K C m f) (F:FnOk X.prog X.w X.K X.mg X.base CX k f fd ps sp) (hr:Room k X.A) (hb:Binds X.K fd ps ds) (hd:Vals dvs ds) (hx:Passes CX X E) (ha:PA X (e :: es) t)
    (hst:starEach (e :: es) X.env=(false,eval e X.env) :: starEach es X.env:=by rfl) (hpl:(backTo pos (starEach es X.env)).any (·.1)=false:=by rfl)
    (ht:eval (.Call (.Attribute o m apos) (e :: es) [] pos) X.env=(do
      let ov ←eval o X.env
      standAt apos.atName
      let (f,first) ←holding [ov] (getMethod ov m pl)
      callWith pos f first (backTo pos (starEach (e :: es) X.env)) (backToKw pos (keywordEach [] X.env))):=by rfl) :
    PE X (.Call (.Attribute o m apos) (e :: es) [] pos) (tMeth C m sp dvs E ta t):=by
  intro pins s σ H Q I h
  refine PySem.W.methodCall_KW (pl:=pl) (thn (he pins s σ H _ I h) fun u s1 ⟨x,H1,I1,rx,a,dx,fs,ex,ea,l,q⟩=>?_) ht
  subst ex
  obtain rfl:u=Value.ref a:=rx
  refine getmeth_ok I1 ea c hm l ?_
  refine PySem.W.callWith_K (first:=[.ref a]) (h₀:=X.base) I.ok.mod.kin hm.kp (thn (ha pos pins s1 σ H1 _ I1 q) fun us s2 ⟨vs,H2,I2,r,q2⟩=>⟨I2.kIn,?_⟩) hst hpl
  exact run_fn (us:=.ref a :: us) (vs:=.ref a :: vs) F hr hb hd hx I2 (.cons rfl r) q2
theorem pe_meth0 {pl:Sem Bool} (he:PE X o ta) (c:Cls X.K C) (hm:Meth X.K C m f) (F:FnOk X.prog X.w X.K X.mg X.base CX k f fd ps sp) (hr:Room k X.A) (hb:Binds X.K fd ps ds) (hd:Vals dvs ds) (hx:Passes CX X E)
    (ht:eval (.Call (.Attribute o m apos) [] [] pos) X.env=(do
      let ov ←eval o X.env
      standAt apos.atName
      let (f,first) ←holding [ov] (getMethod ov m pl)
      callWith pos f first (backTo pos (starEach [] X.env)) (backToKw pos (keywordEach [] X.env))):=by rfl) :
    PE X (.Call (.Attribute o m apos) [] [] pos) (tMeth C m sp dvs E ta tNil):=by
  intro pins s σ H Q I h
  refine PySem.W.methodCall_KW (pl:=pl) (thn (he pins s σ H _ I h) fun u s1 ⟨x,H1,I1,rx,a,dx,fs,ex,ea,l,q⟩=>?_) ht
  subst ex
  obtain rfl:u=Value.ref a:=rx
  refine getmeth_ok I1 ea c hm l ?_
  exact PySem.W.callWith_K0 (first:=[.ref a]) I1.kIn hm.kp (run_fn (us:=[.ref a]) (vs:=[.ref a]) F hr hb hd hx I1 (.cons rfl .nil) q)
structure Mk (K:PySem.W.Frag) (C f:Addr):Prop where
  makes:PySem.W.makesIn K C=true
  init:PySem.W.findIn K (.ref C) "__init__"=some (some (.ref f))
  fn:PySem.W.isFn K (.ref f)=true
  kp:PySem.W.keepIn K (.ref C)=true
theorem run_make {pins:List (Addr × Obj)} {σ:St} {H:Hp} {s:Shared} {Q:VK} {us:List Value} {vs:List V} (M:Mk X.K C f) (F:FnOk X.prog X.w X.K X.mg X.base CX k f fd ps sp) (hr:Room (k+1) X.A) (hb:Binds X.K fd ps ds) (hd:Vals dvs ds)
    (hx:Passes CX X E) (I:Inv X pins σ H s) (r:Vals vs us)
    (h:∀ x dx,H x=none→H dx=none→dx≠x→sp (.ref x :: (vs++dvs)) (upd (upd H dx (.own x)) x (.ins C dx [])) (fun v H2=>v=.non∧Q (.ref x) H2) E) :
    wpAny (model X.prog X.w) X.A (call (.ref C) us) (EP X pins σ Q) X.xe s:=by
  have hq:=h (s.heap.objs.size+1) s.heap.objs.size (I.hok.fresh (Nat.le_succ _)) (I.hok.fresh (Nat.le_refl _)) (Nat.ne_of_lt (Nat.lt_succ_self _))
  have I2:=Inv.made (C:=C) I
  have r2:Vals (V.ref (s.heap.objs.size+1) :: (vs++dvs)) (Value.ref (s.heap.objs.size+1) :: (us++ds)):=.cons rfl (r.append hd)
  have hl:(Value.ref (s.heap.objs.size+1) :: us++ds).length=ps.length:=by
    have e:=r2.length
    rw [F.len _ _ _ _ hq] at e
    exact e.symm
  refine wpAny_call (make_map (f:=f) I.kIn M.makes M.init (beq_iff_eq.mp M.fn) (codeAny_mono (F.run _ X.stack _ _ ⟨Value.ref (s.heap.objs.size+1) :: us,[]⟩ (Value.ref (s.heap.objs.size+1) :: (us++ds)) _ _ E (hr.make C us [])
    (I2.env0.make C us []) (hb _ (Value.ref (s.heap.objs.size+1) :: us) I2.kIn hl) r2 hq) fun r s' hq'=>?_))
  cases r with
  | error e=>exact hx pins σ _ _ e s' I2 hq'
  | ok fl =>
    cases fl with
    | ret u =>
      obtain ⟨v,H',I3,rv,ev,q3⟩:=I2.after hq'
      subst ev
      exact ⟨rv,⟨V.ref (s.heap.objs.size+1),H',I3,rfl,q3⟩⟩
    | next=>exact False.elim hq'
    | brk=>exact False.elim hq'
    | cont=>exact False.elim hq'
theorem pe_make (M:Mk X.K C f) (F:FnOk X.prog X.w X.K X.mg X.base CX k f fd ps sp) (hr:Room (k+1) X.A) (hg:Gl X x) (hm:X.mg x=some (.ref C)) (hb:Binds X.K fd ps ds) (hd:Vals dvs ds) (hx:Passes CX X E)
    (ha:PA X (e :: es) t) (hdb:(x == ("__debug__":Str))=false:=by decide) (he:starEach (e :: es) X.env=(false,eval e X.env) :: starEach es X.env:=by rfl) (hpl:(backTo pos (starEach es X.env)).any (·.1)=false:=by rfl) :
    PE X (.Call (.Name x p) (e :: es) [] pos) (tMake C sp dvs E t):=by
  intro pins s σ H Q I h
  refine wpAny_Call_Name_kw (ld_glob I hg hm ?_ hdb)
  refine PySem.W.callWith_K (h₀:=X.base) I.ok.mod.kin M.kp (thn (ha pos pins s σ H _ I h) fun us s1 ⟨vs,H1,I1,r,q⟩=>⟨I1.kIn,?_⟩) he hpl
  exact run_make M F hr hb hd hx I1 r q
end
def PK (X:Cx) (kws:List Keyword) (t:TA):Prop :=
  ∀ (pos:Pos) (pins:List (Addr × Obj)) (s:Shared) (σ:St) (H:Hp) (Q:List V→Hp→Prop),Inv X pins σ H s→t σ H Q→wpAny (model X.prog X.w) X.A (evalAll ((backToKw pos (keywordEach kws X.env)).map (·.2))) (AP X pins σ Q) X.xe s
section
variable {X:Cx} {CX:CXT} {k:Nat} {f C:Addr} {fd:FuncData} {ps ks:List Str} {sp:Sp} {E:XK} {x m:Str} {p pos apos kpos:Pos} {e o:Expr} {es:List Expr} {kws:List Keyword} {te ta:TE} {t tk:TA} {nm:Option Str}
theorem pk_nil:PK X [] tNil:=fun _ _ _ _ H Q I h=>wpAny_evalAll_nil ⟨[],H,I,.nil,h⟩
theorem pk_cons (ha:PE X e te) (hr:PK X kws t):PK X (⟨nm,e,kpos⟩ :: kws) (tCons te t):=by
  intro pos pins s σ H Q I h
  show wpAny _ _ (evalAll ((do let v ←eval e X.env;standAt pos;pure v) :: (backToKw pos (keywordEach kws X.env)).map (·.2))) _ _ s
  refine wpAny_evalAll_cons (wpAny_bind (thn (ha pins s σ H _ I h) fun u s1 ⟨x,H1,I1,r1,q1⟩=>wpAny_bind (wpAny_standAt (wpAny_pure ?_))))
  exact thn (hr pos pins s1 σ H1 _ I1 q1) fun us s2 ⟨xs,H2,I2,r2,q2⟩=>⟨x :: xs,H2,I2,.cons r1 r2,q2⟩
structure KBinds (K:PySem.W.Frag) (fd:FuncData) (ps ks:List Str) (g:List Value→List Value→List Value) (gV:List V→List V→List V):Prop where
  to:∀ (s:Shared) (us ws:List Value),K.In s.heap→(g us ws).length=ps.length→BindsTo s fd ⟨us,ks.zip ws⟩ (ps.zip (g us ws))
  rel:∀ {vs:List V} {us:List Value} {zs:List V} {ws:List Value},Vals vs us→Vals zs ws→Vals (gV vs zs) (g us ws)
variable {g:List Value→List Value→List Value} {gV:List V→List V→List V}
end
structure FnScope (N P:List Str) (sc:Scope):Prop where
  kind:sc.kind=.function
  co:sc.isCoroutine=false
  gen:sc.isGenerator=false
  nd:N.Nodup
  pre:N.take P.length=P
  par:∀ x∈P,sc.names.lookup x=some .local∨sc.names.lookup x=some .cell
  nofree:∀ y∈sc.names,y.2≠.free
theorem bindL_out {kindOf:Str→Option NameKind} {x:Str}:∀ {binds:List (Str × Value)} {m:Str→Option Value},(∀ v,(x,v)∉binds)→bindL kindOf binds m x=m x
  | [],_,_=>rfl
  | (n,v) :: r,m,h=>by
    unfold bindL
    rw [bindL_out fun w hw=>h w (List.mem_cons_of_mem _ hw)]
    split
    · have:x≠n:=by rintro rfl;exact h v List.mem_cons_self
      simp [this]
    · rfl
theorem bindC_out {kindOf:Str→Option NameKind} {x:Str}:∀ {binds:List (Str × Value)} {m:Str→Option Value},(∀ v,(x,v)∉binds)→bindC kindOf binds m x=m x
  | [],_,_=>rfl
  | (n,v) :: r,m,h=>by
    unfold bindC
    rw [bindC_out fun w hw=>h w (List.mem_cons_of_mem _ hw)]
    split
    · rfl
    · have:x≠n:=by rintro rfl;exact h v List.mem_cons_self
      simp [this]
theorem bindL_get {kindOf:Str→Option NameKind} {x:Str} {v:Value}:∀ {P:List Str} {vs:List Value} {i:Nat} {m:Str→Option Value},P.Nodup→P[i]?=some x→vs[i]?=some v→kindOf x=some .local →
    bindL kindOf (P.zip vs) m x=some v
  | [],_,_,_,_,h,_,_=>by simp at h
  | _ :: _,[],_,_,_,_,h,_=>by simp at h
  | p :: P,w :: vs,0,m,nd,h1,h2,hk=>by
    simp at h1 h2;subst h1;subst h2
    show bindL kindOf ((p,w) :: P.zip vs) m p=_
    unfold bindL
    rw [bindL_out fun v hv=>(List.nodup_cons.mp nd).1 (List.of_mem_zip hv).1,if_pos hk]
    simp
  | p :: P,w :: vs,i+1,m,nd,h1,h2,hk=>by
    show bindL kindOf ((p,w) :: P.zip vs) m x=_
    unfold bindL
    exact bindL_get (i:=i) (List.nodup_cons.mp nd).2 (by simpa using h1) (by simpa using h2) hk
theorem bindC_get {kindOf:Str→Option NameKind} {x:Str} {v:Value}:∀ {P:List Str} {vs:List Value} {i:Nat} {m:Str→Option Value},P.Nodup→P[i]?=some x→vs[i]?=some v→kindOf x≠some .local →
    bindC kindOf (P.zip vs) m x=some v
  | [],_,_,_,_,h,_,_=>by simp at h
  | _ :: _,[],_,_,_,_,h,_=>by simp at h
  | p :: P,w :: vs,0,m,nd,h1,h2,hk=>by
    simp at h1 h2;subst h1;subst h2
    show bindC kindOf ((p,w) :: P.zip vs) m p=_
    unfold bindC
    rw [bindC_out fun v hv=>(List.nodup_cons.mp nd).1 (List.of_mem_zip hv).1,if_neg hk]
    simp
  | p :: P,w :: vs,i+1,m,nd,h1,h2,hk=>by
    show bindC kindOf ((p,w) :: P.zip vs) m x=_
    unfold bindC
    exact bindC_get (i:=i) (List.nodup_cons.mp nd).2 (by simpa using h1) (by simpa using h2) hk
def start (N:List Str) (vs:List V):St:=vs.map some++List.replicate (N.length - vs.length) none
def cxOf (CX:CXT) (P:Program) (w:World) (K:PySem.W.Frag) (mg:Str→Option Value) (base:Heap) (N:List Str) (qual:Str) (scope:Scope) (f:Addr) (cd:Value) (A:Around) (outer:List Env) (s:Shared) (H:Hp) (E:XK):Cx where
  prog:=P
  w:=w
  K:=K
  mg:=mg
  base:=base
  A:=A.deeper (envOfC qual scope s.heap.objs.size f cd)
  N:=N
  s₀:=s
  H₀:=H
  env:=envOfC qual scope s.heap.objs.size f cd
  outer:=outer
  stack:=envOfC qual scope s.heap.objs.size f cd :: outer
  ex:=[]
  calm:=true
  fn:=fun _=>true
  pn:=[]
  xe:=fun e s'=>wpAny (model P w) (A.deeper (envOfC qual scope s.heap.objs.size f cd)) (leaving (envOfC qual scope s.heap.objs.size f cd) e) (fun _ s''=>CX outer H s E e s'') (fun e' s''=>CX outer H s E e' s'') s'
theorem cell_has {sc:Scope} {n:Nat} {x:Str} (h:sc.names.lookup x=some .cell):∃ c,(cellsFrom n sc.names []).lookup x=some c:=by
  have q:=PySem.W.cellsFrom_some sc.names n [] (.inl h)
  exact Option.isSome_iff_exists.mp q
theorem inv_start {CX:CXT} {P:Program} {w:World} {K:PySem.W.Frag} {mg:Str→Option Value} {base:Heap} {N ps:List Str} {qual:Str} {scope:Scope} {f:Addr} {cd:Value} {A:Around} {outer:List Env} {s s1:Shared} {H:Hp} {E:XK} {us:List Value} {vs:List V}
    (S:FnScope N ps scope) (hd:A.handled=none) (e0:Env0 P w K mg base A outer s H) (hl:vs.length=ps.length) (r:Vals vs us)
    (x:InCallC s s.heap.objs.size (bindL (envOfC qual scope s.heap.objs.size f cd).kindOf (ps.zip us) fun _=>none) (cellsFrom (s.heap.objs.size+1) scope.names []) (bindC (envOfC qual scope s.heap.objs.size f cd).kindOf (ps.zip us) fun _=>none) s1) :
    Inv (cxOf CX P w K mg base N qual scope f cd A outer s H E) [] (start N vs) H s1:=by
  have hpl:ps.length≤N.length:=by have:=congrArg List.length S.pre;rw [List.length_take] at this;omega
  obtain ⟨h1,tk,rfl,hk⟩:=x.done
  have noA:∀ b:Addr,b∉(cxOf CX P w K mg base N qual scope f cd A outer s H E).ex:=fun b z=>absurd (show b∈([]:List Addr) from z) (by simp)
  refine ⟨⟨e0.mod,S.kind,rfl,rfl,Nat.le_refl _,fun y z c h1 h2=>?_,fun y hy=>?_,fun y c _ h=>?_,fun _=>hd,Around.frames_deeper e0.frames,.inr ⟨rfl,rfl⟩,fun b z=>absurd z (noA b),e0.bs,e0.bsz,fun b _ _=>noA b,fun b z=>absurd z (noA b),e0.funs,e0.frf⟩,
    rfl,e0.bare,Un.kept hk,⟨_,x.toInCall.ns,fun i y v h1 h2 h3=>?_⟩,fun y c h=>⟨_,x.cell y c h⟩,e0.hok.fresh (Nat.le_refl _),fun y c h=>?_,fun p hp=>absurd (show p∈([]:List (Addr × Obj)) from hp) (by simp),e0.hok.kept hk,?_⟩
  · exact name_of_addr x.apart (PySem.mem_of_lookup h1) (PySem.mem_of_lookup h2)
  · have hy:scope.names.lookup y=some .cell∨scope.names.lookup y=some .free:=hy
    rcases hy with hy | hy
    · exact cell_has hy
    · exact absurd rfl (S.nofree _ (PySem.mem_of_lookup hy))
  · exact Nat.le_of_lt (x.above y c (PySem.mem_of_lookup h))
  · have hi:i < vs.length:=by
      unfold start at h2
      by_cases hi:i < vs.length
      · exact hi
      · rw [List.getElem?_append_right (by simpa using hi)] at h2
        rw [List.getElem?_replicate] at h2
        split at h2 <;> cases h2
    have ha:vs[i]?=some v:=by
      unfold start at h2
      rw [List.getElem?_append_left (by simpa using hi),List.getElem?_map] at h2
      cases e:vs[i]? with
      | none=>rw [e] at h2;cases h2
      | some a=>rw [e] at h2;cases h2;rfl
    obtain ⟨u,hu,rv⟩:=r.get ha
    have hp:ps[i]?=some y:=by
      rw [←S.pre,List.getElem?_take_of_lt (by omega)];exact h1
    have ndP:ps.Nodup:=by rw [←S.pre];exact S.nd.sublist (List.take_sublist _ _)
    refine ⟨u,rv,?_⟩
    rcases S.par y (List.mem_of_getElem? hp) with k | k
    · exact .inl ⟨k,bindL_get ndP hp hu k⟩
    · obtain ⟨c,e⟩:=cell_has (n:=s.heap.objs.size+1) k
      refine .inr ⟨.inl k,c,e,?_⟩
      have q:=x.cell y c e
      rw [bindC_get ndP hp hu (by show scope.names.lookup y≠_;rw [k];decide)] at q
      exact q
  · exact e0.hok.fresh (Nat.le_of_lt (x.above y c (PySem.mem_of_lookup h)))
  · unfold start
    show _=N.length
    rw [List.length_append,List.length_map,List.length_replicate]
    omega
theorem fn_of {CX:CXT} {P:Program} {w:World} {K:PySem.W.Frag} {mg:Str→Option Value} {base:Heap} {k:Nat} {f:Addr} {name qual:Str} {params:Arguments} {body:List Stmt} {scope:Scope} {dV kV doc pm cdv ct oc:Value} {an od:Option Addr}
    {osl:Array (Option Value)} {N ps:List Str} {sp:Sp} (lk:K.lookup f=some ⟨oc,od,.func (PySem.W.fnOf name qual params body scope dV kV doc pm an cdv ct),osl⟩) (hcd:PySem.W.codeIn K cdv qual=true) (S:FnScope N ps scope)
    (len:∀ vs H Q E,sp vs H Q E→vs.length=ps.length)
    (hbody:∀ (A:Around) (outer:List Env) (s:Shared) (H:Hp) (vs:List V) (Q:VK) (E:XK),Room k (A.deeper (envOfC qual scope s.heap.objs.size f cdv))→sp vs H Q E →
      ∃ t,PSs (cxOf CX P w K mg base N qual scope f cdv A outer s H E) body t∧t { nx:=fun _ H'=>Q .non H',rt:=Q } (start N vs) H) :
    FnOk P w K mg base CX (k+1) f (PySem.W.fnOf name qual params body scope dV kV doc pm an cdv ct) ps sp:=by
  refine ⟨len,fun A outer s H args us vs Q E hr e0 hb r hsp=>?_⟩
  have hl:=len _ _ _ _ hsp
  have KX:K.In s.heap:=e0.mod.kin.keeps fun b o e=>(e0.bs b o e).1
  have lim:s.heap.NoLimit:=e0.mod.nolimit.keeps fun b o e=>(e0.bs b o e).1
  have hkind:∀ y∈ps.zip us,scope.names.lookup y.1=some .local∨(scope.names.lookup y.1=some .cell∧((cellsFrom (s.heap.objs.size+1) scope.names []).lookup y.1).isSome=true):=fun ⟨n,v⟩ hy=>by
    rcases S.par n (List.of_mem_zip hy).1 with q | q
    · exact .inl q
    · exact .inr ⟨q,PySem.W.cellsFrom_some _ _ _ (.inl q)⟩
  refine codeAny_call_function hr.depth (KX _ _ lk) rfl S.co S.gen rfl (PySem.W.codeRec_of KX hcd) (hb _ _ _ _ ?_)
  refine wpAny_newFunctionEnv_cells S.kind hkind fun env he s1 x=>?_
  subst he
  refine ⟨lim.keeps x.toInCall.keep,codeAny_func ?_⟩
  obtain ⟨t,ht,hq⟩:=hbody A outer s H vs Q E (hr.deeper _) hsp
  have I:Inv (cxOf CX P w K mg base N qual scope f cdv A outer s H E) [] (start N vs) H s1:=inv_start S hr.hd e0 hl r x
  refine wpAny_mono (ht [] s1 (start N vs) H _ I hq) (fun fl s' hs=>?_) fun e s' hs=>hs
  have fin:∀ {σ':St} {H':Hp} {v:V} {u:Value},Inv (cxOf CX P w K mg base N qual scope f cdv A outer s H E) [] σ' H' s'→RelV v u→Q v H'→CE outer P w H s Q u s' :=
    fun {σ' H' v u} J rv q=>⟨v,H',J.os,J.bare,J.base,J.hok,rv,q⟩
  cases fl with
  | ret u =>
    obtain ⟨v,σ',H',J,rv,q⟩:=hs
    exact fin J rv q
  | next =>
    obtain ⟨σ',H',J,q⟩:=hs
    exact fin (v:=V.non) (u:=Value.none) J rfl q
  | brk =>
    obtain ⟨_,_,_,q⟩:=hs
    exact False.elim q
  | cont =>
    obtain ⟨_,_,_,q⟩:=hs
    exact False.elim q
end L2
namespace L2
open PySem PySem.Spec PyProof.Rows
section
variable {X:Cx} {x:Str} {p pos:Pos} {e:Expr} {es:List Expr} {t:TA} {id T:String} {r:List V→Hp→VK→Prop}
def tCB (r:List V→Hp→VK→Prop) (t:TA):TE:=fun σ H Q=>t σ H fun vs H1=>r vs H1 Q
theorem pe_callB (hc:CallR X (.builtin id) r) (hg:Gl X x) (hm:X.mg x=none) (hv:bootBuiltins x=some (.builtin id)) (ha:PA X (e :: es) t) (hn:x≠"__name__":=by decide) (hdb:(x == ("__debug__":Str))=false:=by decide)
    (he:starEach (e :: es) X.env=(false,eval e X.env) :: starEach es X.env:=by rfl) (hpl:(backTo pos (starEach es X.env)).any (·.1)=false:=by rfl):PE X (.Call (.Name x p) (e :: es) [] pos) (tCB r t):=by
  intro pins s σ H Q I h
  refine wpAny_Call_Name_kw (ld_blt I hg hm hv ?_ hn hdb)
  exact PyProof.Rows.callWith_builtin1 (thn (ha pos pins s σ H _ I h) fun us s1 ⟨vs,H1,I1,r1,q1⟩=>hc pins s1 σ H1 vs us Q I1 r1 q1) he hpl
theorem pe_callTy (hc:CallR X (.type T) r) (hg:Gl X x) (hm:X.mg x=none) (hv:bootBuiltins x=some (.type T)) (ha:PA X (e :: es) t) (hn:x≠"__name__":=by decide) (hdb:(x == ("__debug__":Str))=false:=by decide)
    (he:starEach (e :: es) X.env=(false,eval e X.env) :: starEach es X.env:=by rfl) (hpl:(backTo pos (starEach es X.env)).any (·.1)=false:=by rfl):PE X (.Call (.Name x p) (e :: es) [] pos) (tCB r t):=by
  intro pins s σ H Q I h
  refine wpAny_Call_Name_kw (ld_blt I hg hm hv ?_ hn hdb)
  exact PyProof.Rows.callWith_type1 (thn (ha pos pins s σ H _ I h) fun us s1 ⟨vs,H1,I1,r1,q1⟩=>hc pins s1 σ H1 vs us Q I1 r1 q1) he hpl
end
end L2
namespace HT
open PySem PyProof.Rows
def lexLt:List Int→List Int→Bool
  | [],[]=>false
  | [],_ :: _=>true
  | _ :: _,[]=>false
  | x :: xs,y :: ys=>if x=y then lexLt xs ys else decide (x < y)
theorem lexLt_cons (x y:Int) (xs ys:List Int):lexLt (x :: xs) (y :: ys)=if x=y then lexLt xs ys else decide (x < y):=rfl
theorem lexLt_nil_nil:lexLt [] []=false:=rfl
theorem lexLt_nil_cons (y:Int) (ys:List Int):lexLt [] (y :: ys)=true:=rfl
theorem lexLt_cons_nil (x:Int) (xs:List Int):lexLt (x :: xs) []=false:=rfl
theorem eqAt_int (A:Around) (s:Shared) (a:Int) (t:Tok) (c:Int) (u:Tok):∃ e,SeqAt.EqAt A s (.int a t) (.int c u) e∧(e=true↔a=c) :=
  ⟨(a == c),SeqAt.EqAt.int_int a t c u,by simp⟩
theorem rcLt_int (A:Around) (s:Shared) (a:Int) (t:Tok) (c:Int) (u:Tok) (prog:Program) (w:World) (E:Value→Shared→Prop) (Q:Value→Shared→Prop) (h:Q (.bool (decide (a < c))) s) :
    wpAny (model prog w) A (richCompare .Lt (.int a t) (.int c u)) Q E s :=
  (PyProof.Rows.lt_int h:wpAny (model prog w) A (compareOp .Lt (.int a t) (.int c u)) Q E s)
section
open PySem.SeqAt
open PySem.AutoSeq1 (wpAny_loadPart')
open PySem.MeetsSeq PySem.MeetsSeq2 PySem.MeetsSeq3
theorem tuple_lt_ints (l b:Addr) (items items2:Array Value) (n n2:Nat) (dd dd2:Option Addr) (sl sl2:Array (Option Value)) (ns ms:List Int) (hi:IntsAre items.toList ns) (hj:IntsAre items2.toList ms) :
    Meets (Builtin.«tuple.__lt__» ⟨[.ref l,.ref b],[]⟩)
      (fun _ R s=>s.heap.get? l=some { cls:=.type "tuple",dict:=dd,data:=.seq items n,slots:=sl }∧s.heap.get? b=some { cls:=.type "tuple",dict:=dd2,data:=.seq items2 n2,slots:=sl2 } ∧
        R (.ok (.ret (.bool (lexLt ns ms)))) s) :=
  .of_wp fun prog w A R s h=>by
    obtain ⟨hp,g,d,tk,os⟩:=s;obtain ⟨hl,hb,h⟩:=h
    have f2:=AutoSeq1.sub_tuple_tuple
    have z1:items.size=ns.length:=by rw [←hi.length];simp
    have z2:items2.size=ms.length:=by rw [←hj.length];simp
    wp_walk using wpAny_loadPart' hl,wpAny_loadPart' hb,wpAny_forIn_list _ (fun rest b s'=>b.1=none∧s'=⟨hp,g,d,tk,os⟩∧∃ (vs ws:List Value) (ns' ms':List Int),rest=vs.zip ws ∧
      IntsAre vs ns'∧IntsAre ws ms'∧ns'.length+items2.size=ms'.length+items.size∧R (.ok (.ret (.bool (lexLt ns' ms')))) ⟨hp,g,d,tk,os⟩) _
    case turn =>
      rintro ⟨y,x⟩ rest b s' ⟨hb',rfl,vs,ws,ns',ms',hz,hvi,hwi,hlen,hR⟩
      cases hvi with
      | nil=>rw [List.zip_nil_left] at hz;cases hz
      | cons a t hvi' =>
        cases hwi with
        | nil=>rw [List.zip_nil_right] at hz;cases hz
        | cons c u hwi' =>
          rw [List.zip_cons_cons] at hz
          injection hz with hyx hrest
          injection hyx with hy hx
          subst hy hx
          rw [lexLt_cons] at hR
          simp only [List.length_cons] at hlen
          obtain ⟨e,he,hiff⟩:=eqAt_int A.in1 ⟨hp,g,d,tk,os⟩ a t c u
          refine wpAny_bind (he prog w _ _ ?_)
          cases e with
          | true =>
            rw [if_pos (hiff.mp rfl)] at hR
            wp_walk
            exact ⟨rfl,rfl,_,_,_,_,hrest,hvi',hwi',by omega,hR⟩
          | false =>
            rw [if_neg (fun q=>absurd (hiff.mpr q) Bool.false_ne_true)] at hR
            have hri:=rcLt_int A.in1 ⟨hp,g,d,tk,os⟩ a t c u prog w
            wp_walk using hri
            exact ⟨_,rfl,by simpa using hR⟩
    case fin =>
      rintro ⟨b1,b2⟩ s' ⟨hb',rfl,vs,ws,ns',ms',hz,hvi,hwi,hlen,hR⟩
      simp only at hb'
      subst hb'
      have hv:lexLt ns' ms'=decide (items.size < items2.size):=by
        cases hvi with
        | nil =>
          cases hwi with
          | nil =>
            simp only [List.length_nil] at hlen
            rw [lexLt_nil_nil]
            exact (decide_eq_false (by omega)).symm
          | cons c u hw =>
            simp only [List.length_nil,List.length_cons] at hlen
            rw [lexLt_nil_cons]
            exact (decide_eq_true (by omega)).symm
        | cons a t hv =>
          cases hwi with
          | nil =>
            simp only [List.length_nil,List.length_cons] at hlen
            rw [lexLt_cons_nil]
            exact (decide_eq_false (by omega)).symm
          | cons c u hw =>
            rw [List.zip_cons_cons] at hz
            cases hz
      rw [hv] at hR
      wp_walk
      exact ⟨_,rfl,by simpa [Builtin.Tuple.tupleCompareSizes] using hR⟩
    case h =>
      exact ⟨rfl,rfl,items.toList,items2.toList,ns,ms,rfl,hi,hj,by omega,h⟩
end
section
variable {prog:Program} {w:World} {A:Around} {E:Value→Shared→Prop} {s:Shared}
theorem lt_tupInts {l b:Addr} {items items2:Array Value} {ns ms:List Int} {Q:Value→Shared→Prop} (hl:IsTup s.heap l items) (hb:IsTup s.heap b items2) (hi:IntsAre items.toList ns) (hj:IntsAre items2.toList ms)
    (hu:A.units < cLine) (h:Q (.bool (lexLt ns ms)) s):wpAny (model prog w) A (compareOp .Lt (.ref l) (.ref b)) Q E s:=by
  obtain ⟨⟨cls,dd,data,sl⟩,ho,hc,n,hd⟩:=id hl
  obtain ⟨⟨cls2,dd2,data2,sl2⟩,ho2,hc2,n2,hd2⟩:=id hb
  simp only at hc hd hc2 hd2
  subst hc hd hc2 hd2
  exact richCompare_meets_room (op:=.Lt) ⟨_,ho,rfl⟩ ⟨_,ho2,rfl⟩ PySem.F.slot_tuple_lt PySem.F.entry_tuple_lt (PySem.F.args_tuple_lt_2 _ _) (tuple_lt_ints l b items items2 n n2 dd dd2 sl sl2 ns ms hi hj)
    ⟨ho,ho2,show Value.bool (lexLt ns ms)≠Value.notImplemented∧Q (.bool (lexLt ns ms)) s from ⟨(fun x=>nomatch x),h⟩⟩ hu
theorem cat_tup {t b:Addr} {vs ws:List Value} {Q:Value→Shared→Prop} (ht:IsTup s.heap t vs.toArray) (hb:IsTup s.heap b ws.toArray) (hv:vs≠[])
    (h1:ws=[]→Q (.ref t) s) (h2:ws≠[]→Q (.ref s.heap.objs.size) { s with heap:=s.heap.push { cls:=.type "tuple",data:=.seq (vs++ws).toArray } })
    (hsz:vs.length+ws.length≤sizeLine):wpAny (model prog w) A (binaryOp .Add (.ref t) (.ref b)) Q E s:=by
  obtain ⟨⟨cls,dd,data,sl⟩,ho,hc,n,hd⟩:=id ht
  obtain ⟨⟨cls2,dd2,data2,sl2⟩,ho2,hc2,n2,hd2⟩:=id hb
  simp only at hc hd hc2 hd2
  subst hc hd hc2 hd2
  have e:vs.toArray++ws.toArray=(vs++ws).toArray:=by simp
  by_cases hw:ws=[]
  · exact concat_meets ⟨_,ho,rfl⟩ ⟨_,ho2,rfl⟩ noFill_tuple_add seq_tuple_add PySem.F.slot_tuple_add PySem.F.entry_tuple_add (PySem.F.args_tuple_add_2 _ _)
      (tuple_addW1 t b vs.toArray ws.toArray n n2 dd dd2 sl sl2 (by simpa using hv) (by simp [hw])) ⟨ho,ho2,h1 hw⟩
  · refine concat_meets ⟨_,ho,rfl⟩ ⟨_,ho2,rfl⟩ noFill_tuple_add seq_tuple_add PySem.F.slot_tuple_add PySem.F.entry_tuple_add (PySem.F.args_tuple_add_2 _ _)
      (tuple_addW2 t b vs.toArray ws.toArray n n2 dd dd2 sl sl2 (by simpa using hv) (by simpa using hw) (by rw [List.size_toArray,List.size_toArray];exact hsz)) ⟨ho,ho2,?_⟩
    rw [e]
    exact h2 hw
def sIx (n d:Nat):Option Int→Nat
  | none=>d
  | some v=>if v < 0 then (v+(n:Int)).toNat else min v.toNat n
theorem sIx_none (n d:Nat):sIx n d none=d:=rfl
theorem sIx_nat (n d k:Nat):sIx n d (some (k:Int))=min k n:=by
  show (if (k:Int) < 0 then ((k:Int)+(n:Int)).toNat else min (k:Int).toNat n)=min k n
  rw [if_neg (by omega),Int.toNat_natCast]
theorem sIx_le (n d:Nat) (hd:d≤n) (o:Option Int):sIx n d o≤n:=by
  cases o with
  | none=>exact hd
  | some v =>
    show (if v < 0 then (v+(n:Int)).toNat else min v.toNat n)≤n
    by_cases hv:v < 0
    · rw [if_pos hv];omega
    · rw [if_neg hv];exact Nat.min_le_right _ _
theorem clip_eq (v:Int) (n d:Nat):(if v < 0 then max (v+(n:Int)) 0 else min v (n:Int))=((sIx n d (some v):Nat):Int):=by
  show (if v < 0 then max (v+(n:Int)) 0 else min v (n:Int))=(((if v < 0 then (v+(n:Int)).toNat else min v.toNat n):Nat):Int)
  by_cases hv:v < 0
  · simp only [if_pos hv];omega
  · simp only [if_neg hv];omega
theorem adjust_gen (lo hi:Option Int) (n:Nat):Builtin.Slice.sliceAdjust lo hi 1 (n:Int)=(((sIx n 0 lo:Nat):Int),((sIx n n hi:Nat):Int)):=by
  have h1:¬ ((1:Int) < 0):=by omega
  unfold Builtin.Slice.sliceAdjust
  simp only [h1,if_false]
  refine Prod.ext ?_ ?_
  · cases lo with
    | none=>rfl
    | some v=>exact clip_eq v n 0
  · cases hi with
    | none=>rfl
    | some v=>exact clip_eq v n n
theorem places_gen (i j:Nat):Builtin.Slice.slicePlaces (i:Int) (j:Int) 1=j - i:=by
  unfold Builtin.Slice.slicePlaces
  have h1:(1:Int) > 0:=by omega
  simp only [h1,if_true,Int.ediv_one]
  split <;> omega
theorem slicePart_ {v:Value} {o:Option Int} {Q:Option Int→Shared→Prop} (p:IsPart v o) (h:Q o s):wpAny (model prog w) A (Builtin.Slice.slicePartIndex v) Q E s:=by
  cases p with
  | none=>exact slicePart_none h
  | int i t=>exact slicePart_int h
theorem sliceApplied_gen {sl:Addr} {vl vu:Value} {lo hi:Option Int} {n:Nat} {Q:Int × Int × Nat→Shared→Prop} (hs:s.heap.IsSliceOf sl vl vu .none) (pl:IsPart vl lo) (pu:IsPart vu hi)
    (h:Q (((sIx n 0 lo:Nat):Int),1,sIx n n hi - sIx n 0 lo) s):wpAny (model prog w) A (Builtin.Slice.sliceApplied (.ref sl) (pure (n:Int))) Q E s:=by
  obtain ⟨os,hos,hcs,hds⟩:=id hs
  unfold Builtin.Slice.sliceApplied Builtin.Slice.sliceFields
  refine wpAny_bind (wpAny_bind (wpAny_field hos hds (x:=vl) rfl (wpAny_bind (wpAny_field hos hds (x:=vu) rfl (wpAny_bind (wpAny_field hos hds (x:=.none) rfl (wpAny_pure ?_)))))))
  refine wpAny_bind (slicePart_none ?_)
  show wpAny _ _ (if ((1:Int) == 0)=true then _ else _) _ _ s
  rw [if_neg (by decide)]
  refine wpAny_bind (slicePart_ pl (wpAny_bind (slicePart_ pu (wpAny_bind (wpAny_pure ?_)))))
  show wpAny _ _ (match Builtin.Slice.sliceAdjust lo hi 1 (n:Int) with | (lo,hi)=>pure (lo,(1:Int),Builtin.Slice.slicePlaces lo hi 1)) _ _ s
  rw [adjust_gen lo hi n]
  show wpAny _ _ (pure (((sIx n 0 lo:Nat):Int),(1:Int),Builtin.Slice.slicePlaces ((sIx n 0 lo:Nat):Int) ((sIx n n hi:Nat):Int) 1)) _ _ s
  rw [places_gen]
  exact wpAny_pure h
theorem pick_gen (xs:Array Value) (i k:Nat):((List.range k).filterMap fun (m:Nat)=>xs[((i:Int)+(m:Int) * 1).toNat]?).toArray=((xs.toList.drop i).take k).toArray:=by
  have e:(fun (m:Nat)=>xs[((i:Int)+(m:Int) * 1).toNat]?)=fun m=>xs[i+m]?:=by
    funext m
    have:((i:Int)+(m:Int) * 1).toNat=i+m:=by omega
    rw [this]
  rw [e]
  have:=pick_run xs i k
  rw [List.filterMap_map] at this
  have e2:((fun x=>xs[x]?) ∘ fun x=>i+x)=fun m=>xs[i+m]?:=rfl
  rw [e2] at this
  rw [this]
theorem getItem_tuple_cut {t sl:Addr} {items:Array Value} {vl vu:Value} {lo hi:Option Int} {Q:Value→Shared→Prop} (ht:IsTup s.heap t items) (hs:s.heap.IsSliceOf sl vl vu .none) (pl:IsPart vl lo) (pu:IsPart vu hi)
    (hw:¬ (sIx items.size 0 lo=0∧sIx items.size items.size hi=items.size))
    (h:Q (.ref s.heap.objs.size) { s with heap:=s.heap.push { cls:=.type "tuple",data:=.seq ((items.toList.drop (sIx items.size 0 lo)).take (sIx items.size items.size hi - sIx items.size 0 lo)).toArray } })
    (hsz:items.size≤sizeLine):wpAny (model prog w) A (getItem (.ref t) (.ref sl)) Q E s:=by
  have htake:sizeOk (.seq ((items.toList.drop (sIx items.size 0 lo)).take (sIx items.size items.size hi - sIx items.size 0 lo)).toArray):=by
    show ((items.toList.drop (sIx items.size 0 lo)).take (sIx items.size items.size hi - sIx items.size 0 lo)).toArray.size≤sizeLine
    rw [List.size_toArray,List.length_take,List.length_drop,Array.length_toList]
    omega
  have hj:sIx items.size items.size hi≤items.size:=sIx_le _ _ (Nat.le_refl _) hi
  obtain ⟨os,hos,hcs,hds⟩:=id hs
  have hTs:s.TypeIs (.ref sl) "slice":=⟨os,hos,hcs⟩
  unfold getItem
  try with_reducible refine wpAny_holding ?_
  first | refine wpAny_bind (wpAny_pure ?_) | skip
  refine wpAny_bind (wpAny_sequenceKey ht.typeIs (by decide) ?_)
  refine wpAny_bind (wpAny_callSpecial?_slot (name:=Str.ofString "__getitem__") ht.typeIs PyProof.Rows.slot_tuple_getitem
    (wpAny_call_entry PyProof.Rows.slot_tuple_getitem ht.typeIs entry_tuple_getitem ?_ (args_tuple_getitem _ _)))
  show wpAny _ _ (Builtin.Tuple.tupleItemsOf (.ref t) >>= _) _ _ s
  refine wpAny_bind (tupleItemsOf_ ht ?_)
  refine wpAny_bind (wpAny_typeOf hTs ?_)
  rw [if_pos (by decide)]
  refine wpAny_bind (sliceApplied_gen hs pl pu ?_)
  have hno:¬ ((((sIx items.size 0 lo:Nat):Int) == 0 && (1:Int) == 1 && (sIx items.size items.size hi - sIx items.size 0 lo) == items.size)=true):=by
    intro q
    rw [Bool.and_eq_true,Bool.and_eq_true] at q
    have q1:((sIx items.size 0 lo:Nat):Int)=0:=eq_of_beq q.1.1
    have q2:sIx items.size items.size hi - sIx items.size 0 lo=items.size:=eq_of_beq q.2
    exact hw ⟨by omega,by omega⟩
  show wpAny _ _ (if (((sIx items.size 0 lo:Nat):Int) == 0 && (1:Int) == 1 && (sIx items.size items.size hi - sIx items.size 0 lo) == items.size)=true then _ else _) _ _ s
  rw [if_neg hno,pick_gen]
  first
    | exact wpAny_bind (m:=Builtin.Tuple.tupleExact _) (wpAny_newObj_type (wpAny_pure ⟨_,rfl,wpAny_pure h⟩) htake)
    | exact wpAny_bind (m:=Builtin.Tuple.tupleExact _) (wpAny_newObj_type (wpAny_bind (wpAny_pure (wpAny_pure ⟨_,rfl,wpAny_pure h⟩))) htake)
    | exact wpAny_bind (wpAny_bind (m:=Builtin.Tuple.tupleExact _) (wpAny_newObj_type (wpAny_pure (wpAny_pure ⟨_,rfl,wpAny_pure h⟩)) htake))
    | exact wpAny_bind (wpAny_bind (m:=Builtin.Tuple.tupleExact _) (wpAny_newObj_type (wpAny_pure ⟨_,rfl,wpAny_pure h⟩) htake))
end
end HT
namespace L2
open PySem PySem.Spec PyProof.Rows
abbrev TO:=St→Hp→(Option Int→Hp→Prop)→Prop
def PO (X:Cx) (e:Option Expr) (t:TO):Prop :=
  ∀ (pins:List (Addr × Obj)) (s:Shared) (σ:St) (H:Hp) (Q:Option Int→Hp→Prop),Inv X pins σ H s→t σ H Q →
    wpAny (model X.prog X.w) X.A (evalPart e X.env) (fun u s'=>∃ o H',Inv X pins σ H' s'∧IsPart u o∧Q o H') X.xe s
def tNoPart:TO:=fun _ H Q=>Q none H
def tPart (t:TE):TO:=fun σ H Q=>t σ H fun x H1=>∃ i,x=.int i∧Q (some i) H1
theorem intsAre_of {ns:List Int}:∀ {us:List Value},Vals (ns.map V.int) us→IntsAre us ns:=by
  induction ns with
  | nil=>intro us r;rw [List.map_nil] at r;cases r;exact .nil
  | cons n ns ih =>
    intro us r
    rw [List.map_cons] at r
    cases r with
    | cons r1 r2 =>
      obtain ⟨t,e⟩:=r1
      subst e
      exact .cons n t (ih r2)
section
variable {X:Cx} {e:Expr} {te:TE} {lo hi:Option Expr} {tl th:TO} {pos p2:Pos}
theorem po_none:PO X none tNoPart:=by
  intro pins s σ H Q I h
  rw [evalPart_none]
  exact wpAny_pure ⟨none,H,I,.none,h⟩
theorem po_some (h:PE X e te):PO X (some e) (tPart te):=by
  intro pins s σ H Q I hw
  rw [evalPart_some]
  refine thn (h pins s σ H _ I hw) fun u s1 ⟨x,H1,I1,r1,q1⟩=>?_
  obtain ⟨i,rfl,q⟩:=q1
  obtain ⟨t,rfl⟩:=r1
  exact ⟨some i,H1,I1,.int i t,q⟩
def SlR (X:Cx) (r:V→Option Int→Option Int→Hp→VK→Prop):Prop :=
  ∀ (pins:List (Addr × Obj)) (s:Shared) (σ:St) (H:Hp) (x:V) (v vl vu:Value) (lo hi:Option Int) (sl:Addr) (Q:VK),Inv X pins σ H s→RelV x v→s.heap.IsSliceOf sl vl vu .none→IsPart vl lo→IsPart vu hi→r x lo hi H Q →
    ∃ T id,typeLookup (.type T) "__getitem__"=pure (some (.builtin id))∧s.TypeIs v T∧wpAny (model X.prog X.w) X.A (getItem v (.ref sl)) (EP X pins σ Q) X.xe s
def tSl (r:V→Option Int→Option Int→Hp→VK→Prop) (te:TE) (tl th:TO):TE:=fun σ H Q=>te σ H fun x H1=>tl σ H1 fun l H2=>th σ H2 fun u H3=>r x l u H3 Q
theorem pe_slice {r:V→Option Int→Option Int→Hp→VK→Prop} (hr:SlR X r) (he:PE X e te) (hl:PO X lo tl) (hu:PO X hi th):PE X (.Subscript e (.Slice lo hi none p2) pos) (tSl r te tl th):=by
  intro pins s σ H Q I h
  refine Subscript_ (thn (he pins s σ H _ I h) fun v s1 ⟨x,H1,I1,r1,q1⟩=>?_)
  refine wpAny_Slice (thn (hl pins s1 σ H1 _ I1 q1) fun vl s2 ⟨l,H2,I2,pl,q2⟩=>thn (hu pins s2 σ H2 _ I2 q2) fun vu s3 ⟨u,H3,I3,pu,q3⟩=>?_)
  rw [evalPart_none]
  refine wpAny_pure ?_
  have I4:Inv X pins σ H3 { s3 with heap:=s3.heap.push { cls:=.type "slice",data:=.fields #[vl,vu,.none] } }:=I3.kept (t':=s3.toks) fun b ob q=>Heap.get?_push_of_some _ q
  obtain ⟨T,id,hT,ht,hg⟩:=hr pins { s3 with heap:=s3.heap.push { cls:=.type "slice",data:=.fields #[vl,vu,.none] } } σ H3 x v vl vu l u s3.heap.objs.size Q I4 r1 (Heap.IsSliceOf.new ..) pl pu q3
  show wpAny (model X.prog X.w) X.A (subscriptTail e (.Slice lo hi none p2) v (.ref s3.heap.objs.size)) (EP X pins σ Q) X.xe { s3 with heap:=s3.heap.push { cls:=.type "slice",data:=.fields #[vl,vu,.none] } }
  exact tail_any (ops:=[.ref s3.heap.objs.size,v]) ht hT hg (by with_unfolding_all rfl)
def cutV (xs:List V) (lo hi:Option Int):List V:=(xs.drop (HT.sIx xs.length 0 lo)).take (HT.sIx xs.length xs.length hi - HT.sIx xs.length 0 lo)
theorem cutV_length (xs:List V) (lo hi:Option Int):(cutV xs lo hi).length≤xs.length:=by
  unfold cutV
  rw [List.length_take,List.length_drop]
  omega
def rSlT (K:PySem.W.Frag):V→Option Int→Option Int→Hp→VK→Prop:=fun x lo hi H Q=>∃ a xs,x=.ref a∧SqT K H a xs ∧
  ¬ (HT.sIx xs.length 0 lo=0∧HT.sIx xs.length xs.length hi=xs.length)∧∀ p,H p=none→Q (.ref p) (upd H p (.tup (cutV xs lo hi)))
theorem sl_tup:SlR X (rSlT X.K):=by
  intro pins s σ H x v vl vu lo hi sl Q I rx hs pl pu h
  obtain ⟨a,xs,rfl,hx,hw,q⟩:=h
  cases rx
  obtain ⟨its,r,ht,hz⟩:=I.tuple hx
  have hlen:its.toArray.size=xs.length:=by rw [List.size_toArray];exact r.length.symm
  refine ⟨"tuple",_,PyProof.Rows.slot_tuple_getitem.lookup,ht.typeIs,?_⟩
  refine HT.getItem_tuple_cut ht hs pl pu (by rw [hlen];exact hw) ?_ (by rw [hlen];exact hz)
  rw [hlen]
  refine ⟨.ref s.heap.objs.size,_,I.laid (t':=s.toks) (o:=.tup (cutV xs lo hi)) (fun b ob q=>Heap.get?_push_of_some _ q) (Nat.le_refl _) ?_,rfl,q _ (I.hok.fresh (Nat.le_refl _))⟩
  exact ⟨Nat.le_trans (cutV_length xs lo hi) hz,_,(r.drop (HT.sIx xs.length 0 lo)).take (HT.sIx xs.length xs.length hi - HT.sIx xs.length 0 lo),IsTp.new _ _⟩
def rLtT (K:PySem.W.Frag):R2:=fun x y H Q=>∃ a b ns ms,x=.ref a∧y=.ref b∧SqT K H a (ns.map V.int)∧SqT K H b (ms.map V.int)∧Q (.bl (HT.lexLt ns ms)) H
theorem op_ltT (hu:X.A.units < cLine):OpR X (compareOp .Lt) (rLtT X.K):=by
  intro pins s σ H x y v u Q I rx ry h
  obtain ⟨a,b,ns,ms,rfl,rfl,ha,hb,q⟩:=h
  cases rx
  cases ry
  obtain ⟨its,r1,p1,_⟩:=I.tuple ha
  obtain ⟨its2,r2,p2,_⟩:=I.tuple hb
  have i1:IntsAre its.toArray.toList ns:=intsAre_of r1
  have i2:IntsAre its2.toArray.toList ms:=intsAre_of r2
  exact HT.lt_tupInts p1 p2 i1 i2 hu ⟨.bl (HT.lexLt ns ms),H,I,rfl,q⟩
def rCatT (K:PySem.W.Frag):R2:=fun x y H Q=>∃ a b xs ys,x=.ref a∧y=.ref b∧SqT K H a xs∧SqT K H b ys∧xs≠[]∧xs.length+ys.length≤sizeLine ∧
  (ys=[]→Q (.ref a) H)∧(ys≠[]→∀ p,H p=none→Q (.ref p) (upd H p (.tup (xs++ys))))
theorem Vals.nil_iff {xs:List V} {us:List Value} (r:Vals xs us):us=[]↔xs=[]:=by
  cases r with
  | nil=>simp
  | cons _ _=>simp
theorem op_catT:OpR X (binaryOp .Add) (rCatT X.K):=by
  intro pins s σ H x y v u Q I rx ry h
  obtain ⟨a,b,xs,ys,rfl,rfl,ha,hb,hx,hz,q1,q2⟩:=h
  cases rx
  cases ry
  obtain ⟨its,r1,p1,_⟩:=I.tuple ha
  obtain ⟨its2,r2,p2,_⟩:=I.tuple hb
  refine HT.cat_tup p1 p2 (fun z=>hx (r1.nil_iff.mp z)) (fun z=>⟨.ref a,H,I,rfl,q1 (r2.nil_iff.mp z)⟩) (fun z=>?_) (by rw [←r1.length,←r2.length];exact hz)
  refine ⟨.ref s.heap.objs.size,_,I.laid (t':=s.toks) (o:=.tup (xs++ys)) (fun b ob q=>Heap.get?_push_of_some _ q) (Nat.le_refl _) ?_,rfl,q2 (fun w=>z (r2.nil_iff.mpr w)) _ (I.hok.fresh (Nat.le_refl _))⟩
  exact ⟨by rw [List.length_append];exact hz,_,r1.append r2,IsTp.new _ _⟩
end
end L2
namespace L2
open PySem PySem.Spec PyProof.Rows
def ixN (n:Nat) (i:Int):Option Nat:=if 0≤i then (if i < n then some i.toNat else none) else if -(n:Int)≤i then some (i+n).toNat else none
def atI {α:Type} (xs:List α) (i:Int):Option α:=(ixN xs.length i).bind fun j=>xs[j]?
theorem ixN_seq {n:Nat} {i:Int} {j:Nat} (h:ixN n i=some j):seqIndex? i n=some j∧j < n∧-(n:Int)≤i∧i < n:=by
  unfold ixN at h
  by_cases h0:0≤i
  · rw [if_pos h0] at h
    by_cases h1:i < n
    · rw [if_pos h1] at h
      have e:i.toNat=j:=Option.some.inj h
      exact ⟨by rw [seqIndex_of h0 h1,e],by omega,by omega,h1⟩
    · rw [if_neg h1] at h;cases h
  · rw [if_neg h0] at h
    by_cases h1:-(n:Int)≤i
    · rw [if_pos h1] at h
      have e:(i+n).toNat=j:=Option.some.inj h
      exact ⟨by rw [seqIndex_neg (by omega) h1,e],by omega,h1,by omega⟩
    · rw [if_neg h1] at h;cases h
theorem atI_get {α:Type} {xs:List α} {i:Int} {v:α} (h:atI xs i=some v):∃ j,seqIndex? i xs.length=some j∧xs[j]?=some v∧j < xs.length∧-(xs.length:Int)≤i∧i < xs.length:=by
  unfold atI at h
  cases e:ixN xs.length i with
  | none=>rw [e] at h;cases h
  | some j =>
    rw [e] at h
    obtain ⟨h1,h2,h3,h4⟩:=ixN_seq e
    exact ⟨j,h1,h,h2,h3,h4⟩
theorem atI_nat {α:Type} {xs:List α} {j:Nat} {v:α} (h:xs[j]?=some v):atI xs (j:Int)=some v:=by
  have hj:j < xs.length:=(List.getElem?_eq_some_iff.mp h).1
  have e:ixN xs.length (j:Int)=some j:=by
    unfold ixN
    rw [if_pos (by omega),if_pos (by omega)];simp
  unfold atI;rw [e];exact h
theorem atI_last {α:Type} (xs:List α) (v:α):atI (xs++[v]) (-1)=some v:=by
  have hl:(xs++[v]).length=xs.length+1:=by simp
  have e:ixN (xs++[v]).length (-1)=some xs.length:=by
    unfold ixN
    rw [hl,if_neg (by decide),if_pos (by omega)]
    congr 1
    omega
  unfold atI
  rw [e]
  show (xs++[v])[xs.length]?=some v
  simp
def PlainIx (b:Expr):Prop:=∀ o i,subscripted b false o i=operate [o,i] (getItem o i)
def IxR (X:Cx) (r:R2):Prop :=
  ∀ (value slice:Expr) (pins:List (Addr × Obj)) (s:Shared) (σ:St) (H:Hp) (x y:V) (v u:Value) (Q:VK),Inv X pins σ H s→RelV x v→RelV y u→r x y H Q →
    subscripted slice false v u=operate [v,u] (getItem v u)→wpAny (model X.prog X.w) X.A (subscriptTail value slice v u) (EP X pins σ Q) X.xe s
def MtR (X:Cx) (id:String) (r:V→List V→Hp→VK→Prop):Prop :=
  ∀ (pins:List (Addr × Obj)) (s:Shared) (σ:St) (H:Hp) (x:V) (xs:List V) (v:Value) (us:List Value) (Q:VK),Inv X pins σ H s→RelV x v→Vals xs us→r x xs H Q →
    wpAny (model X.prog X.w) X.A (call (.builtin id) (v :: us)) (EP X pins σ Q) X.xe s
section
variable {X:Cx} {a b:Expr} {ta tb:TE} {pos:Pos}
theorem pe_ix {r:R2} (hr:IxR X r) (ha:PE X a ta) (hb:PE X b tb) (hs:PlainIx b):PE X (.Subscript a b pos) (tOp r ta tb):=by
  intro pins s σ H Q I h
  exact Subscript_ (binT ha hb I h fun v u s2 x y H2 I2 rx ry q=>hr a b pins s2 σ H2 x y v u Q I2 rx ry q (hs _ _))
def rIxL (K:PySem.W.Frag):R2:=fun x y H Q=>∃ p xs i v,x=.ref p∧y=.int i∧SqL K H p xs∧atI xs i=some v∧Q v H
def rIxT (K:PySem.W.Frag):R2:=fun x y H Q=>∃ p xs i v,x=.ref p∧y=.int i∧SqT K H p xs∧atI xs i=some v∧Q v H
def rIxS:R2:=fun x y H Q=>∃ z i c,x=.str z∧y=.int i∧z.length≤sizeLine∧atI z.cps.toList i=some c∧Q (.str ⟨#[c]⟩) H
theorem ix_list:IxR X (rIxL X.K):=by
  intro value slice pins s σ H x y v u Q I rx ry h hs
  obtain ⟨p,xs,i,z,rfl,rfl,hq,he,q⟩:=h
  cases rx
  obtain ⟨t,rfl⟩:=ry
  obtain ⟨its,r,pl,hz⟩:=I.list hq
  obtain ⟨j,h1,h2,h3,h4,h5⟩:=atI_get he
  obtain ⟨w,ew,rw'⟩:=r.get h2
  have hl:=r.length
  have hn:=line63
  have fin:EP X pins σ Q w s:=⟨z,H,I,rw',q⟩
  by_cases h0:0≤i
  · have hj:i.toNat=j:=by
      rw [seqIndex_of h0 h5] at h1
      exact Option.some.inj h1
    exact item_listR pl.isList h0 (by omega) (by rw [hj];simpa using ew) fin hs
  · have hj:(i+(its.toArray.size:Int)).toNat=j:=by
      rw [seqIndex_neg (by omega) h4] at h1
      rw [List.size_toArray,←hl]
      exact Option.some.inj h1
    exact subscriptTail_builtinR (x:=w) pl.isList.typeIs slot_list_getitem.lookup
      (wpAny_getItem_list_neg (Q:=fun r s'=>r=w∧EP X pins σ Q r s') pl.isList (by omega) (by rw [List.size_toArray] <;> omega) (by omega) (by rw [hj];simpa using ew) ⟨rfl,fin⟩) hs
theorem ix_tup:IxR X (rIxT X.K):=by
  intro value slice pins s σ H x y v u Q I rx ry h hs
  obtain ⟨p,xs,i,z,rfl,rfl,hq,he,q⟩:=h
  cases rx
  obtain ⟨t,rfl⟩:=ry
  obtain ⟨its,r,pl,hz⟩:=I.tuple hq
  obtain ⟨j,h1,h2,h3,h4,h5⟩:=atI_get he
  obtain ⟨w,ew,rw'⟩:=r.get h2
  have hl:=r.length
  have hn:=line63
  have fin:EP X pins σ Q w s:=⟨z,H,I,rw',q⟩
  exact subscriptTail_builtinR (x:=w) pl.typeIs slot_tuple_getitem.lookup
    (getItem_tuple (j:=j) (Q:=fun r s'=>r=w∧EP X pins σ Q r s') pl (by omega) (by omega) (by rw [List.size_toArray,←hl];exact h1) (by simpa using ew) ⟨rfl,fin⟩) hs
def rIx (K:PySem.W.Frag):R2:=fun x y H Q=>rIxL K x y H Q∨rIxT K x y H Q∨rIxS x y H Q
theorem mapSeq_set (its:List Value) (n j:Nat) (u:Value):Obj.mapSeq (·.setIfInBounds j u) { cls:=.type "list",data:=.seq its.toArray n }={ cls:=.type "list",data:=.seq (its.set j u).toArray n }:=by
  simp [Obj.mapSeq]
theorem Inv.lst {pins:List (Addr × Obj)} {σ:St} {H:Hp} {s:Shared} {p:Addr} {xs:List V} (I:Inv X pins σ H s) (h:H p=some (.lst xs)) :
    ∃ (its:List Value) (n:Nat),Vals xs its∧s.heap.get? p=some { cls:=.type "list",data:=.seq its.toArray n }∧xs.length≤sizeLine:=by
  obtain ⟨z,its,n,r,e⟩:=I.hok p _ h
  exact ⟨its,n,r,e,z⟩
theorem Inv.lstUpd {pins:List (Addr × Obj)} {σ:St} {H:Hp} {s:Shared} {p:Addr} {xs ys:List V} {its its':List Value} {n n':Nat} {f:Obj→Obj} (I:Inv X pins σ H s) (h:H p=some (.lst xs))
    (ho:s.heap.get? p=some { cls:=.type "list",data:=.seq its.toArray n }) (hf:f { cls:=.type "list",data:=.seq its.toArray n }={ cls:=.type "list",data:=.seq its'.toArray n' }) (r:Vals ys its') (hz:ys.length≤sizeLine) (t:Nat) :
    Inv X pins σ (upd H p (.lst ys)) { s with heap:=s.heap.update p f,toks:=t }:=by
  have e:(s.heap.update p f).get? p=some { cls:=.type "list",data:=.seq its'.toArray n' }:=by
    rw [Heap.get?_update_self f ho (by rw [hf] <;> rfl),hf]
  refine I.write (x:=p) (e:=p) (by rw [h];trivial) (.inl rfl) (fun b u hb q=>(Heap.get?_update_other _ _ (Ne.symm hb)).trans q) ⟨_,e⟩ ?_
  exact ⟨hz,its',n',r,e⟩
def rSetL:V→V→V→Hp→(Hp→Prop)→Prop:=fun o i v H Q=>∃ p xs k j,o=.ref p∧i=.int k∧H p=some (.lst xs)∧ixN xs.length k=some j∧Q (upd H p (.lst (xs.set j v)))
theorem set_list:PSet X rSetL:=by
  intro pins s σ H o i v ov iv u Q I ro ri rv h
  obtain ⟨p,xs,k,j,rfl,rfl,hp,hj,q⟩:=h
  cases ro
  obtain ⟨t,rfl⟩:=ri
  obtain ⟨its,n,r,ho,hz⟩:=I.lst hp
  obtain ⟨h1,h2,h3,h4⟩:=ixN_seq hj
  have hl:=r.length
  have hn:=line63
  have I':Inv X pins σ (upd H p (.lst (xs.set j v))) { s with heap:=s.heap.update p (Obj.mapSeq (·.setIfInBounds j u)) } :=
    I.lstUpd hp ho (mapSeq_set its n j u) (r.set rv j) (by rw [List.length_set];exact hz) s.toks
  by_cases h0:0≤k
  · have hk:k.toNat=j:=by
      rw [seqIndex_of h0 h4] at h1
      exact Option.some.inj h1
    exact PySem.W.ki_setAt ho h0 (by omega) (by rw [List.size_toArray,←hl];exact h4) (by rw [hk];exact ⟨_,I',q⟩)
  · have hk:(k+(its.toArray.size:Int)).toNat=j:=by
      rw [seqIndex_neg (by omega) h3] at h1
      rw [List.size_toArray,←hl]
      exact Option.some.inj h1
    exact PySem.W.ki_setBack ho (by omega) (by rw [List.size_toArray,←hl];exact h3) (by omega) (by rw [hk];exact ⟨_,I',q⟩)
theorem slice_bounds (lo hi:Option Int) (n:Nat):(sliceBounds lo hi none n).1=((HT.sIx n 0 lo:Nat):Int)∧(sliceBounds lo hi none n).2.1=((HT.sIx n n hi:Nat):Int)∧(sliceBounds lo hi none n).2.2=1:=by
  refine ⟨?_,?_,rfl⟩
  · cases lo with
    | none=>simp [sliceBounds,HT.sIx]
    | some i =>
      simp only [sliceBounds,HT.sIx,Option.getD_none,show (1:Int) > 0 by decide,if_true]
      by_cases h:i < 0
      · simp only [h,if_true] <;> omega
      · simp only [h,if_false] <;> omega
  · cases hi with
    | none=>simp [sliceBounds,HT.sIx]
    | some i =>
      simp only [sliceBounds,HT.sIx,Option.getD_none,show (1:Int) > 0 by decide,if_true]
      by_cases h:i < 0
      · simp only [h,if_true] <;> omega
      · simp only [h,if_false] <;> omega
theorem slicePick_cut (its:List Value) (lo hi:Option Int):slicePick its.toArray lo hi none=((its.drop (HT.sIx its.length 0 lo)).take (HT.sIx its.length its.length hi - HT.sIx its.length 0 lo)).toArray:=by
  obtain ⟨h1,h2,h3⟩:=slice_bounds lo hi its.toArray.size
  unfold slicePick
  rw [h1,h2,h3]
  simp only [sliceRange_one,pick_run,List.size_toArray] <;> rfl
def rSlL (K:PySem.W.Frag):V→Option Int→Option Int→Hp→VK→Prop:=fun x lo hi H Q=>∃ a xs,x=.ref a∧SqL K H a xs∧∀ p,H p=none→Q (.ref p) (upd H p (.lst (cutV xs lo hi)))
theorem sl_list:SlR X (rSlL X.K):=by
  intro pins s σ H x v vl vu lo hi sl Q I rx hs pl pu h
  obtain ⟨a,xs,rfl,hx,q⟩:=h
  cases rx
  obtain ⟨its,r,ht,hz⟩:=I.list hx
  have hlen:=r.length
  refine ⟨"list",_,slot_list_getitem.lookup,ht.isList.typeIs,?_⟩
  refine wpAny_getItem_list_slice ht.isList hs pl pu .none (by simp) ?_ (by rw [List.size_toArray] <;> omega)
  rw [slicePick_cut,←hlen]
  refine ⟨.ref s.heap.objs.size,_,I.laid (t':=s.toks) (o:=.lst (cutV xs lo hi)) (fun b ob q=>Heap.get?_push_of_some _ q) (Nat.le_refl _) ?_,rfl,q _ (I.hok.fresh (Nat.le_refl _))⟩
  exact ⟨Nat.le_trans (cutV_length xs lo hi) hz,_,0,(r.drop (HT.sIx xs.length 0 lo)).take (HT.sIx xs.length xs.length hi - HT.sIx xs.length 0 lo),Heap.get?_push_size _ rfl⟩
def flatV:V→Bool
  | .non=>true
  | .bl _=>true
  | .int _=>true
  | .str _=>true
  | _=>false
def eqV:V→V→Bool
  | .non,.non=>true
  | .bl a,.bl b=>a == b
  | .bl a,.int b=>(if a then 1 else 0) == b
  | .int a,.bl b=>a == (if b then 1 else 0)
  | .int a,.int b=>a == b
  | .str a,.str b=>a == b
  | _,_=>false
def eqU (x:V) (u:Value):Bool:=match u with
  | .none=>eqV .non x
  | .bool b=>eqV (.bl b) x
  | .int i _=>eqV (.int i) x
  | .str z _=>eqV (.str z) x
  | _=>false
def inV (x:V) (xs:List V):Bool:=xs.any fun y=>eqV y x
def rIn (K:PySem.W.Frag) (neg:Bool):R2:=fun x y H Q=>∃ p xs,y=.ref p∧(SqL K H p xs∨SqT K H p xs)∧flatV x=true∧xs.all flatV=true∧Q (.bl (if neg then !inV x xs else inV x xs)) H
theorem call_len_seq:CallR X (.builtin "len") (fun xs H Q=>∃ p ys,xs=[.ref p]∧(SqL X.K H p ys∨SqT X.K H p ys)∧Q (.int ys.length) H):=by
  intro pins s σ H xs us Q I r h
  obtain ⟨p,ys,rfl,hq,q⟩:=h
  obtain ⟨u,rfl,rx⟩:=vals1 r
  cases rx
  have hn:=line63
  rcases hq with hq | hq
  · obtain ⟨its,r',pl,hz⟩:=I.list hq
    have hlen:=r'.length
    exact Calls.call_len_list pl.isList (by simp only [List.size_toArray] <;> omega) ⟨.int ys.length,H,I.tok _,⟨s.toks+1,by rw [List.size_toArray,hlen]⟩,q⟩
  · obtain ⟨its,r',pl,hz⟩:=I.tuple hq
    have hlen:=r'.length
    exact len_tuple pl (by simp only [List.size_toArray] <;> omega) ⟨.int ys.length,H,I.tok _,⟨s.toks+1,by rw [List.size_toArray,hlen]⟩,q⟩
theorem call_list_of:CallR X (.type "list") (fun xs H Q=>∃ p ys,xs=[.ref p]∧(SqL X.K H p ys∨SqT X.K H p ys)∧∀ l,H l=none→Q (.ref l) (upd H l (.lst ys))):=by
  intro pins s σ H xs us Q I r h
  obtain ⟨p,ys,rfl,hq,q⟩:=h
  obtain ⟨u,rfl,rx⟩:=vals1 r
  cases rx
  have fin:∀ (its:List Value),Vals ys its→ys.length≤sizeLine→∀ (h':Heap) (c':Nat),(∀ b o',s.heap.get? b=some o'→h'.get? b=some o') →
      h'.get? s.heap.objs.size=some { cls:=.type "list",dict:=none,data:=.seq its.toArray c',slots:=#[] }→EP X pins σ Q (.ref s.heap.objs.size) { s with heap:=h' }:=fun its r' hz h' c' kp e =>
    ⟨.ref s.heap.objs.size,_,I.laid (t':=s.toks) kp (Nat.le_refl _) (show ObjOk X.prog X.w _ h' _ (.lst ys) from ⟨hz,its,c',r',e⟩),rfl,q _ (I.hok.fresh (Nat.le_refl _))⟩
  rcases hq with hq | hq
  · obtain ⟨its,r',pl,hz⟩:=I.list hq
    have hlen:=r'.length
    obtain ⟨o,ho,hc,n,hd⟩:=pl.isList
    exact call_list_seq p (.inl rfl) ho hc hd (fun h' c' kp e=>fin its r' hz h' c' kp e) (by simp only [List.size_toArray] <;> omega)
  · obtain ⟨its,r',pl,hz⟩:=I.tuple hq
    have hlen:=r'.length
    obtain ⟨o,ho,hc,n,hd⟩:=pl
    exact call_list_seq p (.inr rfl) ho hc hd (fun h' c' kp e=>fin its r' hz h' c' kp e) (by simp only [List.size_toArray] <;> omega)
theorem call_tuple_of:CallR X (.type "tuple") (fun xs H Q=>∃ p ys,xs=[.ref p]∧((SqL X.K H p ys∧∀ l,H l=none→Q (.ref l) (upd H l (.tup ys)))∨(SqT X.K H p ys∧Q (.ref p) H))):=by
  intro pins s σ H xs us Q I r h
  obtain ⟨p,ys,rfl,h⟩:=h
  obtain ⟨u,rfl,rx⟩:=vals1 r
  cases rx
  rcases h with ⟨hq,q⟩ | ⟨hq,q⟩
  · obtain ⟨its,r',pl,hz⟩:=I.list hq
    have hlen:=r'.length
    refine call_tuple_list pl.isList (fun h' kp=>?_) (by simp only [List.size_toArray] <;> omega)
    have I1:Inv X pins σ H { s with heap:=h' }:=I.kept (t':=s.toks) kp
    have I2:Inv X pins σ (upd H h'.objs.size (.tup ys)) { s with heap:=h'.push { cls:=.type "tuple",data:=.seq its.toArray } } :=
      I1.laid (t':=s.toks) (fun b o e=>Heap.get?_push_of_some _ e) (Nat.le_refl _) (show ObjOk X.prog X.w _ _ _ (.tup ys) from ⟨hz,its,r',IsTp.new _ _⟩)
    exact ⟨.ref h'.objs.size,_,I2,rfl,q _ (I1.hok.fresh (Nat.le_refl _))⟩
  · obtain ⟨its,r',pl,hz⟩:=I.tuple hq
    exact call_tuple_same pl ⟨.ref p,H,I,rfl,q⟩
def tyV (K:PySem.W.Frag) (T:String) (x:V) (H:Hp):Prop:=match x with
  | .str _=>T="str"
  | .int _=>T="int"
  | .ref p=>(T="list"∧∃ xs,SqL K H p xs)∨(T="tuple"∧∃ o,K.lookup p=some o∧o.cls=.type "tuple"∧o.dict=none) ∨
      (T="dict"∧((∃ kvs,H p=some (.dK kvs))∨∃ kvs,H p=some (.dT kvs)))∨(T="set"∧∃ S n,H p=some (.set S n))
  | _=>False
theorem tyV_is {pins:List (Addr × Obj)} {σ:St} {H:Hp} {s:Shared} {T:String} {x:V} {v:Value} (I:Inv X pins σ H s) (r:RelV x v) (ty:tyV X.K T x H) :
    s.TypeIs v T∧∀ a,v=.ref a→∃ ob,s.heap.get? a=some ob∧ob.dict=none:=by
  cases x with
  | str z =>
    obtain ⟨t,rfl⟩:=r
    cases (show T="str" from ty)
    exact ⟨typeIs_str s z t,fun _ e=>nomatch e⟩
  | int i =>
    obtain ⟨t,rfl⟩:=r
    cases (show T="int" from ty)
    exact ⟨typeIs_int s i t,fun _ e=>nomatch e⟩
  | ref p =>
    cases r
    rcases ty with ⟨rfl,xs,hq⟩ | ⟨rfl,o,hk,hc,hd⟩ | ⟨rfl,hk⟩ | ⟨rfl,S,n,hk⟩
    · obtain ⟨its,_,pl,_⟩:=I.list hq
      refine ⟨pl.isList.typeIs,fun a e=>?_⟩
      cases e
      obtain ⟨o,n,e,c,hd,_⟩:=pl
      exact ⟨o,e,hd⟩
    · refine ⟨⟨o,I.kIn p o hk,hc⟩,fun a e=>?_⟩
      cases e
      exact ⟨o,I.kIn _ o hk,hd⟩
    · have z:∃ o,s.heap.get? p=some o∧o.ExactDict:=by
        rcases hk with ⟨kvs,hk⟩ | ⟨kvs,hk⟩
        · obtain ⟨_,_,_,_,o,_,_,e,ex,_⟩:=I.hok p _ hk
          exact ⟨o,e,ex⟩
        · obtain ⟨_,_,_,_,o,_,_,e,ex,_⟩:=I.hok p _ hk
          exact ⟨o,e,ex⟩
      obtain ⟨o,e,ex⟩:=z
      refine ⟨⟨o,e,ex.1⟩,fun a e2=>?_⟩
      cases e2
      exact ⟨o,e,ex.2.1⟩
    · obtain ⟨o,_,_,_,e,ex,_⟩:=I.hok p _ hk
      refine ⟨⟨o,e,ex.1⟩,fun a e2=>?_⟩
      cases e2
      exact ⟨o,e,ex.2.1⟩
  | _=>exact False.elim ty
def tBM (K:PySem.W.Frag) (T:String) (r:V→List V→Hp→VK→Prop) (to:TE) (t:TA):TE:=fun σ H Q=>to σ H fun x H1=>tyV K T x H1∧t σ H1 fun xs H2=>r x xs H2 Q
variable {o e:Expr} {es:List Expr} {to:TE} {t:TA} {name:Str} {apos cpos:Pos} {T id:String} {r:V→List V→Hp→VK→Prop}
theorem pe_bm (pa:PlainAttrs T) (slot:Slot T name id) (hty:typeOf (.builtin id)=pure (.type "method_descriptor")) (hm:MtR X id r) (ho:PE X o to) (ha:PA X (e :: es) t)
    (hbase:attributeBase o name X.env (eval o X.env)=eval o X.env:=by rfl)
    (hfew:((backTo cpos (starEach (e :: es) X.env)).all (fun x=>!x.1) && (backToKw cpos (keywordEach [] X.env)).all (fun x=>x.1.isSome)
      && decide ((e :: es).length+([]:List Keyword).length+(if ([]:List Keyword).isEmpty then 0 else 1) < 30))=true:=by rfl)
    (hline:(apos.endLine == cpos.line)=true:=by rfl) (hs:starEach (e :: es) X.env=(false,eval e X.env) :: starEach es X.env:=by rfl) (hplain:(backTo cpos (starEach es X.env)).any (·.1)=false:=by rfl) :
    PE X (.Call (.Attribute o name apos) (e :: es) [] cpos) (tBM X.K T r to t):=by
  intro pins s σ H Q I h
  refine wpAny_Call_method_late hbase hfew hline rfl (thn (ho pins s σ H _ I h) fun v s1 ⟨x,H1,I1,r1,ty,q1⟩=>?_)
  obtain ⟨h1,h2⟩:=tyV_is I1 r1 ty
  refine ⟨T,id,pa,slot,hty,h1,h2,?_⟩
  have hA:=ha cpos pins s1 σ H1 _ I1 q1
  rw [hs] at hA ⊢
  refine Calls.callWith_builtin (by show (false || (backTo cpos (starEach es X.env)).any (·.1))=false;rw [hplain] <;> rfl) (Calls.evalArgs_plain ?_)
  exact thn hA fun us s2 ⟨vs,H2,I2,r2,q2⟩=>hm pins s2 σ H2 x vs v us Q I2 r1 r2 q2
end
end L2
namespace L2
open PySem PySem.Spec PyProof.Rows
def MtM (X:Cx) (id:String) (r:V→List V→Hp→VK→Prop):Prop :=
  ∀ (pins:List (Addr × Obj)) (s:Shared) (σ:St) (H:Hp) (x:V) (xs:List V) (v:Value) (us:List Value) (Q:VK),Inv X pins σ H s→RelV x v→Vals xs us→r x xs H Q →
    wpAny (model X.prog X.w) X.A (call (.builtin id) (v :: us)) (EP X pins σ Q) X.xe s
theorem Vals.one:∀ {x:V} {us:List Value},Vals [x] us→∃ u,us=[u]∧RelV x u
  | _,_,.cons r .nil=>⟨_,rfl,r⟩
theorem Vals.two:∀ {x y:V} {us:List Value},Vals [x,y] us→∃ u v,us=[u,v]∧RelV x u∧RelV y v
  | _,_,_,.cons r (.cons q .nil)=>⟨_,_,rfl,r,q⟩
theorem Vals.eraseIdx:∀ {xs:List V} {us:List Value} (i:Nat),Vals xs us→Vals (xs.eraseIdx i) (us.eraseIdx i)
  | _,_,_,.nil=>.nil
  | _,_,0,.cons _ t=>t
  | _,_,i+1,.cons r t=>.cons r (Vals.eraseIdx i t)
theorem Vals.rep {xs:List V} {us:List Value} (h:Vals xs us):∀ k:Nat,Vals (List.replicate k xs).flatten (List.replicate k us).flatten
  | 0=>.nil
  | k+1=>by
    rw [List.replicate_succ,List.replicate_succ,List.flatten_cons,List.flatten_cons]
    exact Vals.append h (Vals.rep h k)
theorem len_erase {α:Type}:∀ (l:List α) (i:Nat),(l.eraseIdx i).length≤l.length
  | [],_=>Nat.le_refl _
  | _ :: _,0=>Nat.le_succ _
  | _ :: r,i+1=>Nat.succ_le_succ (len_erase r i)
theorem foldl_rep (its:List Value):∀ (k:Nat) (acc:List Value),
    List.foldl (fun x1 x2=>x1++x2) acc.toArray (List.replicate k its.toArray)=(acc++(List.replicate k its).flatten).toArray
  | 0,acc=>by simp
  | k+1,acc=>by
    have e:acc.toArray++its.toArray=(acc++its).toArray:=by simp
    have e2:(acc++its)++(List.replicate k its).flatten=acc++(List.replicate (k+1) its).flatten:=by
      rw [List.replicate_succ,List.flatten_cons,List.append_assoc]
    rw [←e2,←foldl_rep its k (acc++its),←e,List.replicate_succ,List.foldl_cons]
section
variable {X:Cx} {pins:List (Addr × Obj)} {σ:St} {H:Hp} {s:Shared} {l b:Addr} {xs ys zs:List V}
theorem Inv.lset {its its':List Value} {n:Nat} {f:Array Value→Array Value} {t':Nat} (I:Inv X pins σ H s) (hH:H l=some (.lst xs))
    (e:s.heap.get? l=some { cls:=.type "list",data:=.seq its.toArray n }) (hf:f its.toArray=its'.toArray) (hv:Vals ys its') (hz:ys.length≤sizeLine) :
    Inv X pins σ (upd H l (.lst ys)) { s with heap:=s.heap.update l (Obj.mapSeq f),toks:=t' }:=by
  have q:=PySem.IsL.update e f
  rw [hf] at q
  refine I.write (x:=l) (e:=l) (by rw [hH];exact trivial) (.inl rfl) (fun b' u hb hu=>(Heap.get?_update_other s.heap (Obj.mapSeq f) (Ne.symm hb)).trans hu) ⟨_,q⟩ ?_
  exact ⟨hz,its',_,hv,q⟩
theorem Inv.lnew {its:List Value} {t':Nat} (I:Inv X pins σ H s) (hv:Vals ys its) (hz:ys.length≤sizeLine) :
    Inv X pins σ (upd H s.heap.objs.size (.lst ys)) { s with heap:=s.heap.push { cls:=.type "list",data:=.seq its.toArray },toks:=t' } :=
  I.laid (fun _ _ q=>Heap.get?_push_of_some _ q) (Nat.le_refl _) ⟨hz,its,0,hv,Heap.get?_push_size _ rfl⟩
theorem Inv.fresh (I:Inv X pins σ H s):H s.heap.objs.size=none:=I.hok.fresh (Nat.le_refl _)
theorem Inv.lstM (I:Inv X pins σ H s) (hH:H l=some (.lst xs)):xs.length≤sizeLine∧∃ (its:List Value) (n:Nat),Vals xs its∧xs.length=its.length∧s.heap.get? l=some { cls:=.type "list",data:=.seq its.toArray n }:=by
  obtain ⟨z,its,n,r,e⟩:=I.hok l _ hH
  exact ⟨z,its,n,r,r.length,e⟩
theorem notLongL {n:Nat} (h:n≤sizeLine):Builtin.List.listTooLong n=false:=by
  unfold Builtin.List.listTooLong
  exact decide_eq_false (by omega)
end
section
variable {X:Cx}
def rAppend:V→List V→Hp→VK→Prop:=fun x vs H Q=>∃ l xs y,x=.ref l∧vs=[y]∧H l=some (.lst xs)∧xs.length < sizeLine∧Q .non (upd H l (.lst (xs++[y])))
theorem mt_append:MtM X "list.append" rAppend:=by
  intro pins s σ H x vs v us Q I rx rv h
  obtain ⟨l,xs,y,rfl,rfl,hH,hz,q⟩:=h
  cases rx
  obtain ⟨u,rfl,ru⟩:=rv.one
  obtain ⟨z,its,n,r,hl,e⟩:=I.lstM hH
  refine call_meets F.slot_list_append ⟨_,e,rfl⟩ F.entry_list_append (F.args_list_append_2 _ _) (PySem.list_append l its.toArray n u (by rw [List.size_toArray];omega)) ⟨e,?_⟩
  refine ⟨.non,_,I.lset (its':=its++[u]) hH e (by simp) (r.append (.cons ru .nil)) ?_,rfl,q⟩
  rw [List.length_append,List.length_singleton]
  omega
def rExtend:V→List V→Hp→VK→Prop:=fun x vs H Q=>∃ l b xs zs,x=.ref l∧vs=[.ref b]∧H l=some (.lst xs)∧H b=some (.lst zs)∧xs.length+zs.length≤sizeLine∧Q .non (upd H l (.lst (xs++zs)))
theorem mt_extend:MtM X "list.extend" rExtend:=by
  intro pins s σ H x vs v us Q I rx rv h
  obtain ⟨l,b,xs,zs,rfl,rfl,hH,hB,hz,q⟩:=h
  cases rx
  obtain ⟨u,rfl,ru⟩:=rv.one
  cases ru
  obtain ⟨z,its,n,r,hl,e⟩:=I.lstM hH
  obtain ⟨z2,its2,n2,r2,hl2,e2⟩:=I.lstM hB
  have hsz:its.toArray.size+its2.toArray.size≤sizeLine:=by rw [List.size_toArray,List.size_toArray];omega
  have hlong:¬ (!its.toArray.isEmpty && Builtin.List.listTooLong (its.toArray.size+its2.toArray.size))=true:=by
    rw [notLongL hsz,Bool.and_false]
    exact Bool.false_ne_true
  refine call_meets F.slot_list_extend ⟨_,e,rfl⟩ F.entry_list_extend (F.args_list_extend_2 _ _)
    (AutoSeq1.list_extend_list_list_0 l its.toArray n b its2.toArray n2 hlong (by rw [List.size_toArray];omega) (by omega)) ⟨e,e2,?_⟩
  refine ⟨.non,_,I.lset (its':=its++its2) hH e (by simp) (r.append r2) ?_,rfl,q⟩
  rw [List.length_append]
  omega
def rPopAt:V→List V→Hp→VK→Prop:=fun x vs H Q=>∃ l xs i k y,x=.ref l∧vs=[.int i]∧H l=some (.lst xs)∧-(2 ^ 63)≤i∧i < 2 ^ 63∧seqIndex? i xs.length=some k∧xs[k]?=some y∧Q y (upd H l (.lst (xs.eraseIdx k)))
theorem mt_popAt:MtM X "list.pop" rPopAt:=by
  intro pins s σ H x vs v us Q I rx rv h
  obtain ⟨l,xs,i,k,y,rfl,rfl,hH,h1,h2,hk,hy,q⟩:=h
  cases rx
  obtain ⟨u,rfl,ru⟩:=rv.one
  obtain ⟨t,rfl⟩:=ru
  obtain ⟨z,its,n,r,hl,e⟩:=I.lstM hH
  obtain ⟨w,hw,rw'⟩:=r.get hy
  refine call_meets F.slot_list_pop ⟨_,e,rfl⟩ F.entry_list_pop (F.args_list_pop_2 _ _)
    (MeetsSeq.list_pop_at l its.toArray n i t k w (fitsIndex_both h1 h2) (by rw [List.size_toArray,←hl];exact hk) (by rw [←Array.getElem?_toList];exact hw) (by rw [List.size_toArray];omega)) ⟨e,?_⟩
  refine ⟨y,_,I.lset (its':=its.eraseIdx k) hH e ?_ (r.eraseIdx k) ?_,rw',q⟩
  · show its.toArray.eraseIdxIfInBounds k=(its.eraseIdx k).toArray
    rw [List.eraseIdxIfInBounds_toArray]
  · have:=len_erase xs k
    omega
def rCat:R2:=fun x y H Q=>∃ l b xs zs,x=.ref l∧y=.ref b∧H l=some (.lst xs)∧H b=some (.lst zs)∧xs.length+zs.length≤sizeLine∧∀ p,H p=none→Q (.ref p) (upd H p (.lst (xs++zs)))
theorem op_cat:OpR X (binaryOp .Add) rCat:=by
  intro pins s σ H x y v u Q I rx ry h
  obtain ⟨l,b,xs,zs,rfl,rfl,hH,hB,hz,q⟩:=h
  cases rx
  cases ry
  obtain ⟨z,its,n,r,hl,e⟩:=I.lstM hH
  obtain ⟨z2,its2,n2,r2,hl2,e2⟩:=I.lstM hB
  refine PySem.P.add_list e e2 ?_ (by rw [List.size_toArray,List.size_toArray];omega)
  have ea:its.toArray++its2.toArray=(its++its2).toArray:=by simp
  rw [ea]
  exact ⟨.ref _,_,I.lnew (t':=s.toks) (r.append r2) (by rw [List.length_append];omega),rfl,q _ I.fresh⟩
def rRep:R2:=fun x y H Q=>∃ l k xs,x=.ref l∧y=.int k∧H l=some (.lst xs)∧-(2 ^ 63)≤k∧k < 2 ^ 63∧xs.length * k.toNat≤sizeLine ∧
  ∀ p,H p=none→Q (.ref p) (upd H p (.lst (List.replicate k.toNat xs).flatten))
theorem len_rep {α:Type} (xs:List α) (k:Nat):(List.replicate k xs).flatten.length=k * xs.length:=by
  induction k with
  | zero=>simp
  | succ k ih=>rw [List.replicate_succ,List.flatten_cons,List.length_append,ih,Nat.succ_mul,Nat.add_comm]
theorem op_rep:OpR X (binaryOp .Mult) rRep:=by
  intro pins s σ H x y v u Q I rx ry h
  obtain ⟨l,k,xs,rfl,rfl,hH,h1,h2,hz,q⟩:=h
  cases rx
  obtain ⟨t,rfl⟩:=ry
  obtain ⟨z,its,n,r,hl,e⟩:=I.lstM hH
  have hlen:its.toArray.size * k.toNat≤sizeLine:=by rw [List.size_toArray,←hl];exact hz
  have hcap:¬ its.toArray.size * k.toNat > (2 ^ 63 - 1) / 8:=by
    have:(sizeLine:Nat)≤(2 ^ 63 - 1) / 8:=by decide
    omega
  have hfit:¬ (!Builtin.List.listFitsIndex k)=true:=by
    rw [fitsIndex_both h1 h2]
    exact Bool.false_ne_true
  have hlong:¬ Builtin.List.listTooLong (its.toArray.size * k.toNat)=true:=by
    rw [notLongL hlen]
    exact Bool.false_ne_true
  have hnew:List.foldl (fun x1 x2=>x1++x2) #[] (List.replicate (if its.toArray.isEmpty=true then 0 else k.toNat) its.toArray)=(List.replicate k.toNat its).flatten.toArray:=by
    have f0:∀ m:Nat,List.foldl (fun x1 x2=>x1++x2) #[] (List.replicate m its.toArray)=(List.replicate m its).flatten.toArray:=fun m=>by
      have:=foldl_rep its m []
      rw [List.nil_append] at this
      exact this
    rw [f0]
    cases its with
    | nil=>simp
    | cons a r'=>rw [if_neg (by simp)]
  refine wpAny_binaryOp_repeat_ref (T:="list") (U:="int") (by decide) ⟨_,e,rfl⟩ (fun s'=>typeIs_int s' k t) noFill_list_mul F.fills_int_mul F.slot_int_rmul repeat_list F.slot_int_index.lookup
    (call_meets F.slot_int_rmul (typeIs_int s k t) F.entry_int_rmul (F.args_int_rmul_2 _ _) (int___rmul___int_list k t l its.toArray n)
      ⟨e,rfl,⟨_,e,rfl⟩,call_meets F.slot_list_mul ⟨_,e,rfl⟩ F.entry_list_mul (F.args_list_mul_2 _ _) (AutoListH.list___mul___list_int_3 l its.toArray n k t hfit hcap hlong) ⟨e,?_⟩⟩)
  rw [hnew]
  exact ⟨.ref _,_,I.lnew (t':=s.toks) (r.rep k.toNat) (by rw [len_rep,Nat.mul_comm];exact hz),rfl,q _ I.fresh⟩
end
section
variable {prog:Program} {w:World} {A:Around} {E:Value→Shared→Prop} {s:Shared}
end
section
variable {X:Cx}
end
end L2
namespace Att
open PySem PySem.W PySem.Calls PyProof.Rows
theorem ints_of_wellAll {P:Params} {h:Heap}:∀ (ns:List Int) (vs:List Value),WellAll P h vs (ns.map WData.int)→IntsAre vs ns:=by
  intro ns
  induction ns with
  | nil =>
    intro vs w
    rw [List.map_nil] at w
    cases w
    exact .nil
  | cons n ns ih =>
    intro vs w
    rw [List.map_cons] at w
    cases w with
    | cons a b =>
      cases a
      exact .cons _ _ (ih _ b)
theorem script_of {l:OpenLaw} {n:Nat} (hn:l.most=some n) {P:Params} {h:Heap} {args:List WData} {vals:List Value}
    (hpre:l.row.toRowW.claim.pre args=true) (hwl:WellAll P h vals args) :
    ∃ a vs ns,vals=[Value.ref a]∧args=[WData.list (ns.map WData.int)]∧h.get? a=some { cls:=.type "list",data:=.seq vs.toArray }∧IntsAre vs ns∧ns.length≤n:=by
  have hsh:WShape.hasAll [] args [.list .int]=true:=(pre_splitW hpre).1
  have hc:l.pre.holds [] { args:=args }=true:=(pre_splitW hpre).2
  obtain ⟨d,r,rfl,h1,h2⟩:=hasAllW_cons hsh
  obtain rfl:=hasAllW_nil h2
  obtain ⟨xs,rfl,h3⟩:=hasW_list h1
  obtain ⟨ns,rfl⟩:=items_int h3
  have hlen:ns.length≤n:=by
    unfold OpenLaw.pre at hc
    have h4:(WTm.not (.lt (.lit (.int (n:Int))) (.len (.arg 0)))).holds [] { args:=[.list (ns.map .int)] }=true:=by
      have h4:=(holds_andW hc).1
      rw [hn] at h4
      exact h4
    have h5:=condW_of h4 (w_not (w_lt w_lit (w_len_list (w_arg rfl))))
    rw [List.length_map] at h5
    refine Nat.le_of_not_lt fun q=>?_
    have q':(n:Int) < ((ns.length:Nat):Int):=by omega
    first
      | (rw [decide_eq_true q'] at h5;exact absurd h5 (by decide))
      | (simp at h5;omega)
  cases hwl with
  | cons w1 w2 =>
    cases w2
    cases w1 with
    | list ho hall=>exact ⟨_,_,ns,rfl,rfl,ho,ints_of_wellAll ns _ hall,hlen⟩
theorem post_true (l:OpenLaw) (args:List WData):l.row.toRowW.claim.post args (.bool true) args=true :=
  postW_of (r:=l.row.toRowW) (X:=(true == true))
    (show WShape.has [] (.bool true) .bool=true by first | rfl | decide | simp [WShape.has,WShape.arms,WShape.armsAll])
    (show (WTm.eq .res (.lit (.bool true))).value [] { args:=args,res:=some (.bool true),after:=args }=some (.bool (true == true)) from w_eq_bool (w_res rfl) w_lit) rfl
theorem attach_call {l:OpenLaw} {n:Nat} {q:Program} {loose:List Str} {XP:(Str→Option Value)→Heap→Prop} {YP:World→Heap→Prop} {d:DefRec}
    (hn:l.most=some n) (hdf:d.params.defaults=[])
    (call:∀ (w:World) (s₀ s₁:Shared) (mg mb:Str→Option Value) (fa:Addr) (o:Obj) (pm cd doc:Value) (a:Addr) (vs:List Value) (ns:List Int),
      Ground q loose [] XP w s₀ mg mb s₁.heap→YP w s₁.heap →
      s₁.heap.get? fa=some o→o.data=.func (docDef d.name d.params d.body d.scope pm cd doc)→s₁.heap.CodeRec cd d.name→mg d.name=some (.ref fa) →
      s₁.heap.get? a=some { cls:=.type "list",data:=.seq vs.toArray }→IntsAre vs ns→ns.length≤n→s₁.gens=#[] →
      codeAny (model l.prog w) callerA (.call (.ref fa) ⟨[.ref a],[]⟩) (fun r s'=>r=.ok (.ret (.bool true))∧OldK s₁.heap s'.heap∧s'.os=s₁.os∧AllBare s'.gens) s₁) :
    WalkO q loose XP YP l.row.toRowW d [] (fun f vs=>PySem.call f vs):=by
  intro w s₀ s₁ mg mb G Y fa o pm cd doc dV kV ho hd hcd hD hmg hg args vals as hpre hlay hrd hwl hlo
  obtain rfl:dV=.none:=Dflts.none hD hdf
  obtain rfl:kV=.none:=Dflts.noKw hD
  obtain ⟨a,vs,ns,rfl,rfl,hobj,hints,hlen⟩:=script_of hn hpre hwl
  refine enter_call (codeAny_mono (call w s₀ s₁ mg mb fa o pm cd doc a vs ns G Y ho (fd_plain hd) hcd hmg hobj hints hlen hg) fun r s' hq=>?_)
  obtain ⟨rfl,h2,h3,h4⟩:=hq
  exact ⟨.inl ⟨.bool true,.bool true,[],rfl,fun _=>rfl,.bool true,post_true l _,fun _=>⟨List.Pairwise.nil,fun _ hm=>(nomatch hm)⟩⟩,h2,h3,h4⟩
section
variable {prog:Program} {w:World} {A:Around} {E:Value→Shared→Prop} {s:Shared} {K:Frag}
def ledger (h:Heap) (L d:Addr):List (Addr × Obj):=(List.range h.objs.size).filterMap fun a=>if a=L∨a=d then none else (h.get? a).map fun o=>(a,o)
end
end Att
namespace L2
open PySem PySem.Spec PyProof.Rows
theorem vals_ints:∀ {vs:List Value} {ns:List Int},IntsAre vs ns→Vals (ns.map V.int) vs
  | _,_,.nil=>.nil
  | _,_,.cons n t h=>.cons ⟨t,rfl⟩ (vals_ints h)
def Only (H:Hp):Prop:=∀ b,H b=none∨∃ o xs,H b=some (.frz o (.lst xs))
theorem law_call {P:Program} {w:World} {K:PySem.W.Frag} {mg mb:Str→Option Value} {CX:CXT} {k:Nat} {fa a:Addr} {fd:FuncData} {x:Str} {sp:Sp} {s₁:Shared} {vs:List Value} {ns:List Int}
    (KX:K.In s₁.heap) (hns:s₁.heap.Ns mainGlobals mg) (hb:s₁.heap.Ns builtinsNs mb) (hbb:∀ x:Str,x≠"__name__"→mb x=bootBuiltins x) (hlim:s₁.heap.NoLimit) (hg:s₁.gens=#[])
    (ha:s₁.heap.get? a=some { cls:=.type "list",data:=.seq vs.toArray }) (hi:IntsAre vs ns) (hl:ns.length≤sizeLine) (hr:Room k callerA)
    (F:∀ base:Heap,K.In base→base.Ns mainGlobals mg→FnOk P w K mg base CX k fa fd [x] sp) (hbind:∀ (s:Shared) (u:Value),BindsTo s fd ⟨[u],[]⟩ [(x,u)])
    (hsp:∀ H:Hp,Only H→SqL K H a (ns.map V.int)→sp [.ref a] H (fun v _=>v=.bl true) fun _ _ _=>False)
    (hCX:∀ H e s',CX [] H s₁ (fun _ _ _=>False) e s'→False) :
    codeAny (model P w) callerA (.call (.ref fa) ⟨[.ref a],[]⟩) (fun r s'=>r=.ok (.ret (.bool true))∧OldK s₁.heap s'.heap∧s'.os=s₁.os∧AllBare s'.gens) s₁:=by
  have rv:=vals_ints hi
  have lenV:=hi.length
  have core:∀ H:Hp,Only H→SqL K H a (ns.map V.int)→HOk P w H s₁.heap→(∀ b,H b≠none→b=a)→(H a≠none→K.lookup a=none) →
      codeAny (model P w) callerA (.call (.ref fa) ⟨[.ref a],[]⟩) (fun r s'=>r=.ok (.ret (.bool true))∧OldK s₁.heap s'.heap∧s'.os=s₁.os∧AllBare s'.gens) s₁:=by
    intro H hO hS hok hA hK
    have base_of:∀ {b:Addr} {o:Obj},s₁.heap.get? b=some o→H b=none→(hidT s₁.heap H).get? b=some o:=fun e n=>hidT_get e n
    have noA:∀ {b:Addr} {o:Obj} {es:Array DictEntry} {ep:Nat},s₁.heap.get? b=some o→o.data=.dict es ep→H b=none:=fun {b o es ep} e d=>by
      cases q:H b with
      | none=>rfl
      | some u =>
        have e':b=a:=hA b (by rw [q];simp)
        subst e'
        rw [ha] at e;cases e
        have d':Data.seq vs.toArray _=Data.dict es ep:=d
        cases d'
    have nsK:∀ {b:Addr} {m:Str→Option Value},s₁.heap.Ns b m→(hidT s₁.heap H).Ns b m:=fun {b m} ⟨o,es,ep,e,d,r⟩=>⟨o,es,ep,base_of e (noA e d),d,r⟩
    have hKb:K.In (hidT s₁.heap H):=fun b o e=>base_of (KX b o e) (by
      cases q:H b with
      | none=>rfl
      | some u =>
        have e':b=a:=hA b (by rw [q];simp)
        subst e'
        rw [hK (by rw [q];simp)] at e;cases e)
    have hM:Mod K mg (hidT s₁.heap H):=⟨hKb,nsK hns,⟨mb,nsK hb,hbb⟩,let ⟨mc,h1,h2⟩:=hlim;⟨mc,nsK h1,h2⟩⟩
    have e0:Env0 P w K mg (hidT s₁.heap H) callerA [] s₁ H:=⟨rfl,hM,fun b o e=>of_hidT e,Nat.le_of_eq (hidT_size _ _),trivial,fun b hb=>absurd (show b∈([]:List Addr) from hb) (by simp),hok,.of_eq hg⟩
    refine codeAny_mono ((F _ hKb (nsK hns)).run callerA [] s₁ H ⟨[.ref a],[]⟩ [.ref a] [.ref a] _ _ hr e0 (hbind s₁ (.ref a)) (.cons rfl .nil) (hsp H hO hS)) fun r s' h=>?_
    cases r with
    | error e=>exact (hCX H e s' h).elim
    | ok fl =>
      cases fl with
      | next=>exact False.elim h
      | brk=>exact False.elim h
      | cont=>exact False.elim h
      | ret u =>
        obtain ⟨v,H',os,bare,un,hok',r',q⟩:=h
        have q':v=.bl true:=q
        subst q'
        obtain rfl:u=Value.bool true:=r'
        refine ⟨rfl,OldK.of_keep fun b o e=>?_,os,bare⟩
        cases q:H b with
        | none=>exact un.keep b o e q (by intro z;exact absurd (show b∈([]:List Addr) from z) (by simp)) (by simp)
        | some u =>
          rcases hO b with z | ⟨ob,xs,z⟩
          · rw [q] at z;cases z
          · have z2:=un.frzs b ob _ z
            obtain ⟨e1,_⟩:=hok b _ z
            obtain ⟨e2,_⟩:=hok' b _ z2
            rw [e] at e1;cases e1
            exact e2
  cases hk:K.lookup a with
  | some o =>
    have e:=KX a o hk
    rw [ha] at e
    cases e
    refine core (fun _=>none) (fun _=>.inl rfl) (.inr ⟨_,vs.toArray,_,hk,rfl,rfl,rfl,by rw [List.size_toArray,lenV];exact hl,by simpa using rv⟩) (fun b u z=>by have z':(none:Option HO)=some u:=z;cases z') (fun b z=>absurd rfl z) fun z=>absurd rfl z
  | none =>
    refine core (fun b=>if b=a then some (.frz { cls:=.type "list",data:=.seq vs.toArray } (.lst (ns.map V.int))) else none) (fun b=>?_) (.inl (.inr ⟨{ cls:=.type "list",data:=.seq vs.toArray },if_pos rfl⟩)) (fun b u z=>?_) (fun b z=>?_) fun _=>hk
    · by_cases hb:b=a
      · exact .inr ⟨_,_,if_pos hb⟩
      · exact .inl (if_neg hb)
    · by_cases hb:b=a
      · have z':=(if_pos hb).symm.trans z
        cases z'
        subst hb
        exact ⟨ha,by rw [List.length_map];exact hl,vs,_,rv,ha⟩
      · have z':=(if_neg hb).symm.trans z
        cases z'
    · by_cases hb:b=a
      · exact hb
      · exact absurd (if_neg hb) z
end L2
namespace L2
open PySem PySem.Spec PyProof.Rows
abbrev KOf {K:PySem.W.Frag} {h:Heap} (_:K.In h):PySem.W.Frag:=K
theorem walk_of {l:PySem.W.OpenLaw} {n k:Nat} {q:Program} {loose:List Str} {XP:(Str→Option Value)→Heap→Prop} {YP:World→Heap→Prop} {d:DefRec} {K:Params→PySem.W.Frag} {CX:World→CXT} {sp:World→Sp} {x:Str}
    (hn:l.most=some n) (hn2:n≤sizeLine) (hdf:d.params.defaults=[]) (hr:Room k callerA)
    (hY:∀ (w:World) (h:Heap),YP w h→(K w.params).In h)
    (F:∀ (w:World) (mg:Str→Option Value) (fa:Addr) (h:Heap),(K w.params).In h→h.Ns mainGlobals mg→mg d.name=some (.ref fa) →
      ∃ fd:FuncData,(∀ (s:Shared) (u:Value),BindsTo s fd ⟨[u],[]⟩ [(x,u)]) ∧
        ∀ base:Heap,(K w.params).In base→base.Ns mainGlobals mg→FnOk l.prog w (K w.params) mg base (CX w) k fa fd [x] (sp w))
    (hsp:∀ (w:World) (H:Hp) (a:Addr) (ns:List Int),ns.length≤n→Only H→SqL (K w.params) H a (ns.map V.int)→sp w [.ref a] H (fun v _=>v=.bl true) fun _ _ _=>False)
    (hCX:∀ (w:World) (H:Hp) (s:Shared) (e:Value) (s':Shared),CX w [] H s (fun _ _ _=>False) e s'→False) :
    PySem.W.WalkO q loose XP YP l.row.toRowW d [] (fun f vs=>PySem.call f vs):=by
  refine Att.attach_call hn hdf fun w s₀ s₁ mg mb fa o pm cd doc a vs ns G Y ho hd hcd hmg hobj hints hlen hg=>?_
  have KX:=hY w _ Y
  obtain ⟨fd,hb,hF⟩:=F w mg fa _ KX G.T.g hmg
  exact law_call KX G.T.g G.T.b G.T.builtins G.T.nolimit hg hobj hints (Nat.le_trans hlen hn2) hr hF hb (fun H hO hS=>hsp w H a ns hlen hO hS) fun H e s'=>hCX w H s₁ e s'
end L2
namespace L2
open PySem PySem.Spec PyProof.Rows
def inClass (s:Stmt) (j:Nat):Stmt:=match s with
  | .ClassDef _ _ _ body _ _ _ _ _ _ _=>body.getD j (.Pass ⟨0,0,0,0⟩)
  | _=>.Pass ⟨0,0,0,0⟩
def defArgs (s:Stmt):Arguments:=match s with
  | .FunctionDef _ a _ _ _ _ _ _ _ _=>a
  | _=>{ posonlyargs:=[],args:=[],vararg:=none,kwonlyargs:=[],kw_defaults:=[],kwarg:=none,defaults:=[] }
def defBody (s:Stmt):List Stmt:=match s with
  | .FunctionDef _ _ b _ _ _ _ _ _ _=>b
  | _=>[]
def defScope (s:Stmt):Scope:=match s with
  | .FunctionDef _ _ _ _ _ _ sc _ _ _=>sc
  | _=>{ kind:=.function,names:=[],isGenerator:=false,isCoroutine:=false }
abbrev CX0:CXT:=fun _ _ _ _ _ _=>False
abbrev E0:XK:=fun _ _ _=>False
theorem pass0 {X:Cx}:Passes CX0 X E0:=fun _ _ _ _ _ _ _ h=>h.elim
structure Fun (K:PySem.W.Frag) (x qual:Str) (st:Stmt) (f:Addr) (fd:FuncData):Prop where
  ex:∃ (oc:Value) (od:Option Addr) (kV doc pm:Value) (an:Option Addr) (cdv ct:Value) (osl:Array (Option Value)),
    fd=PySem.W.fnOf x qual (defArgs st) (defBody st) (defScope st) .none kV doc pm an cdv ct∧K.lookup f=some ⟨oc,od,.func fd,osl⟩∧PySem.W.codeIn K cdv qual=true
  kp:PySem.W.keepIn K (.ref f)=true
section
variable {P:Program} {w:World} {K:PySem.W.Frag} {mg:Str→Option Value} {base:Heap}
theorem Fun.ok {x qual:Str} {st:Stmt} {f:Addr} {fd:FuncData} {N ps:List Str} {k:Nat} {sp:Sp} (F:Fun K x qual st f fd) (S:FnScope N ps (defScope st)) (len:∀ vs H Q E,sp vs H Q E→vs.length=ps.length)
    (hbody:∀ (cdv:Value) (A:Around) (outer:List Env) (s:Shared) (H:Hp) (vs:List V) (Q:VK) (E:XK),Room k (A.deeper (envOfC qual (defScope st) s.heap.objs.size f cdv))→sp vs H Q E →
      ∃ t,PSs (cxOf CX0 P w K mg base N qual (defScope st) f cdv A outer s H E).nox (defBody st) t∧t { nx:=fun _ H'=>Q .non H',rt:=Q } (start N vs) H):FnOk P w K mg base CX0 (k+1) f fd ps sp:=by
  obtain ⟨oc,od,kV,doc,pm,an,cdv,ct,osl,rfl,lk,hcd⟩:=F.ex
  refine fn_of lk hcd S len fun A outer s H vs Q E hr hsp=>?_
  obtain ⟨t,h,q⟩:=hbody cdv A outer s H vs Q E hr hsp
  exact ⟨t,h.nox,q⟩
theorem Fun.binds {x qual:Str} {st:Stmt} {f:Addr} {fd:FuncData} {ps:List Str} (F:Fun K x qual st f fd)
    (h:∀ (kV doc pm:Value) (an:Option Addr) (cdv ct:Value) (us:List Value),us.length=ps.length→bindArgs (PySem.W.fnOf x qual (defArgs st) (defBody st) (defScope st) .none kV doc pm an cdv ct) ⟨us,[]⟩=pure (ps.zip us)):Binds K fd ps []:=by
  obtain ⟨oc,od,kV,doc,pm,an,cdv,ct,osl,rfl,lk,hcd⟩:=F.ex
  exact .all (h kV doc pm an cdv ct)
theorem fun_mk {x qual:Str} {st:Stmt} {f:Addr} {oc:Value} {od an:Option Addr} {osl:Array (Option Value)} {kV doc pm cdv ct:Value} (l:K.lookup f=some ⟨oc,od,.func (PySem.W.fnOf x qual (defArgs st) (defBody st) (defScope st) .none kV doc pm an cdv ct),osl⟩)
    (c:PySem.W.codeIn K cdv qual=true) (k:PySem.W.keepIn K (.ref f)=true):Fun K x qual st f (PySem.W.fnOf x qual (defArgs st) (defBody st) (defScope st) .none kV doc pm an cdv ct):=⟨⟨oc,od,kV,doc,pm,an,cdv,ct,osl,rfl,l,c⟩,k⟩
end
theorem small1000 {n:Nat} (h:n≤1000):n < sizeLine:=Nat.lt_of_le_of_lt h (by decide)
section
variable {X:Cx}
theorem pv (i:Nat) {x:Str} {pos:Pos} (hN:X.N[i]?=some x:=by rfl) (hv:Vis X.env.scope x:=by first | exact Or.inl rfl | exact Or.inr (Or.inl rfl) | exact Or.inr (Or.inr rfl)) (hd:(x == ("__debug__":Str))=false:=by decide)
    (hcd:(x == ("__classdict__":Str))=false:=by decide):PE X (.Name x pos) (tVar i):=pe_var hN hv hd hcd
end
theorem iteF {A B:Prop} (h:B):if false=true then A else B:=by
  rw [if_neg Bool.false_ne_true]
  exact h
theorem iteT {A B:Prop} (h:A):if true=true then A else B:=by
  rw [if_pos rfl]
  exact h
theorem ite2 {c A B:Prop} [Decidable c] (h1:c→A) (h2:¬ c→B):if c then A else B:=by
  by_cases h:c
  · rw [if_pos h]
    exact h1 h
  · rw [if_neg h]
    exact h2 h
def Same (H H':Hp):Prop:=∀ b o,H b=some o→H' b=some o
theorem Same.refl (H:Hp):Same H H:=fun _ _ h=>h
theorem Same.trans {H H1 H2:Hp} (a:Same H H1) (b:Same H1 H2):Same H H2:=fun c o h=>b c o (a c o h)
theorem Same.free {H H':Hp} (e:Same H H') {l:Addr} (h:H' l=Option.none):H l=Option.none:=by
  cases q:H l with
  | none=>rfl
  | some o =>
    rw [e l o q] at h
    cases h
theorem Same.seq {K:PySem.W.Frag} {H H':Hp} {a:Addr} {xs:List V} (e:Same H H') (h:SqL K H a xs):SqL K H' a xs:=by
  rcases h with (h | ⟨o,h⟩) | h
  · exact .inl (.inl (e _ _ h))
  · exact .inl (.inr ⟨o,e _ _ h⟩)
  · exact .inr h
end L2
set_option Elab.async false
set_option linter.all false
set_option maxRecDepth 100000
namespace L2
open PySem PySem.Spec PyProof.Rows
section
variable {prog:Program} {w:World} {A:Around} {R:Result→Shared→Prop} {s:Shared}
abbrev testsOf (cs:List Expr) (en:Env):Sem Bool :=
  forIn cs true fun c r=>if r=true then do let ok ←isTrue c en (eval c en);pure (ForInStep.yield ok) else pure (ForInStep.yield r)
theorem comp_turns {elt tg iter:Expr} {cs:List Expr} {scope:Scope} {pos:Pos} {it acc:Value} {en:Env} {EE:Value→Shared→Prop} (hE:EE=notedBy (model prog w) A en fun e s'=>R (.error e) s') (J:Nat→Shared→Prop)
    (turn:∀ n s,J n s→wpAny (model prog w) A (pyNext it) (fun r s1=>match r with
      | none=>R (.ok .next) s1
      | some v=>wpAny (model prog w) A (letOwnedTupleGo tg it v) (fun _ sg=>wpAny (model prog w) A (assign tg en v) (fun _ s2=>wpAny (model prog w) A (testsOf cs en) (fun ok s3 =>
          if ok=true then wpAny (model prog w) A (eval elt en) (fun y s4=>wpAny (model prog w) A (call (.builtin "list.append") [acc,y]) (fun _ s5=>∃ m,m < n∧J m s5) EE s4) EE s3
          else ∃ m,m < n∧J m s3) EE s2) EE sg) EE s1) EE s)
    (n:Nat) (h:J n s):codeAny (model prog w) A (.compLoop (.ListComp elt [⟨tg,iter,cs,0⟩] scope pos) 0 it acc en) R s:=by
  subst hE
  refine codeAny_loop rfl J (fun n s hJ=>?_) n h
  show wpAny _ A (Sem.onRaise (compTurn (.ListComp elt [⟨tg,iter,cs,0⟩] scope pos) 0 it acc en) (fun x=>do noteFrame x en;theTreesLotGoes x)) _ _ s
  refine wpAny_noted ?_
  rw [compTurn_list]
  refine wpAny_bind (wpAny_standAt (wpAny_bind (thn (turn n s hJ) fun r s1 q1=>?_)))
  cases r with
  | none=>exact wpAny_pure q1
  | some v =>
    refine wpAny_bind (thn q1 fun _ sg qg=>wpAny_bind (thn qg fun _ s2 q2=>wpAny_bind (thn q2 fun ok s3 q3=>?_)))
    cases ok with
    | false=>exact wpAny_pure ⟨rfl,q3⟩
    | true=>exact wpAny_bind (wpAny_bind (thn q3 fun y s4 q4=>wpAny_bind (thn q4 fun _ s5 q5=>wpAny_pure (wpAny_pure ⟨rfl,q5⟩))))
end
def PTs (X:Cx) (cs:List Expr) (t:TT):Prop :=
  ∀ (pins:List (Addr × Obj)) (s:Shared) (σ:St) (H:Hp) (Q:Bool→Hp→Prop),Inv X pins σ H s→t σ H Q→wpAny (model X.prog X.w) X.A (testsOf cs X.env) (TP X pins σ Q) X.xe s
def tTrue:TT:=fun _ H Q=>Q true H
theorem pts_nil {X:Cx}:PTs X [] tTrue:=fun _ _ _ H _ I h=>wpAny_tests_nil ⟨H,I,h⟩
theorem pts_one {X:Cx} {c:Expr} {t:TT} (h:PT X c t):PTs X [c] t:=fun pins s σ H Q I q=>wpAny_tests_one (h pins s σ H Q I q)
theorem closure_list {en:Env}:∀ (names:List (Str × NameKind)) (acc:List (Str × Addr)),(∀ y,(y,NameKind.free)∈names→∃ c,en.cells.lookup y=some c) →
    (∀ y c,acc.lookup y=some c→en.cells.lookup y=some c) →
    ∃ cl,(forIn (m:=Sem) names acc fun p cs=>if (p.2 == .free)=true then (do let a ←cellOf en p.1;pure (ForInStep.yield ((p.1,a) :: cs))) else pure (ForInStep.yield cs))=pure cl ∧
      (∀ y c,cl.lookup y=some c→en.cells.lookup y=some c)∧(∀ y,((y,NameKind.free)∈names∨∃ c,acc.lookup y=some c)→∃ c,cl.lookup y=some c)
  | [],acc,_,h2=>⟨acc,rfl,h2,fun y h=>h.elim (fun z=>by simp at z) id⟩
  | (n,k) :: r,acc,h1,h2=>by
    by_cases hk:k=.free
    · subst hk
      obtain ⟨c,hc⟩:=h1 n (by simp)
      obtain ⟨cl,e,a,b⟩:=closure_list r ((n,c) :: acc) (fun y hy=>h1 y (List.mem_cons_of_mem _ hy)) (fun y d hd=>by
        rw [List.lookup_cons] at hd
        by_cases hy:y=n
        · subst hy;simp at hd;subst hd;exact hc
        · have:(y == n)=false:=by simpa using hy
          rw [this] at hd;exact h2 y d hd)
      refine ⟨cl,?_,a,fun y hy=>b y ?_⟩
      · rw [List.forIn_cons]
        have e1:cellOf en n=pure c:=by unfold cellOf;rw [hc]
        simp only [beq_self_eq_true,if_true,e1,pure_bind]
        exact e
      · rcases hy with hy | ⟨d,hd⟩
        · rcases List.mem_cons.mp hy with z | z
          · cases z;exact .inr ⟨c,by simp⟩
          · exact .inl z
        · by_cases hy:y=n
          · subst hy;exact .inr ⟨c,by simp⟩
          · have:(y == n)=false:=by simpa using hy
            exact .inr ⟨d,by rw [List.lookup_cons,this];exact hd⟩
    · have hb:(k == NameKind.free)=false:=by simpa using hk
      obtain ⟨cl,e,a,b⟩:=closure_list r acc (fun y hy=>h1 y (List.mem_cons_of_mem _ hy)) h2
      refine ⟨cl,?_,a,fun y hy=>b y ?_⟩
      · rw [List.forIn_cons]
        simp only [hb,Bool.false_eq_true,if_false,pure_bind]
        exact e
      · rcases hy with hy | hy
        · rcases List.mem_cons.mp hy with z | z
          · cases z;exact absurd rfl hk
          · exact .inl z
        · exact .inr hy
theorem closure_of {scope:Scope} {en:Env} (h1:∀ y,(y,NameKind.free)∈scope.names→∃ c,en.cells.lookup y=some c) :
    ∃ cl,closureFor scope en=pure cl∧(∀ y c,cl.lookup y=some c→en.cells.lookup y=some c)∧(∀ y,(y,NameKind.free)∈scope.names→∃ c,cl.lookup y=some c):=by
  obtain ⟨cl,e,a,b⟩:=closure_list (en:=en) scope.names [] h1 (fun y c h=>by simp at h)
  refine ⟨cl,?_,a,fun y hy=>b y (.inl hy)⟩
  have q:=congrArg (fun t:Sem (List (Str × Addr))=>t >>= fun c=>pure c) e
  exact q
end L2
set_option Elab.async false
set_option linter.all false
set_option maxRecDepth 100000
namespace L2
open PySem PySem.Spec PyProof.Rows
def xeC (X:Cx) (en:Env) (C:Addr):Value→Shared→Prop :=
  notedBy (model X.prog X.w) X.A en fun e s'=>compPost (model X.prog X.w) X.A X.xe none (fun _ _=>False) Value.none C (.error e) s'
def cxC (X:Cx) (scope:Scope) (cl:List (Str × Addr)) (C:Addr) (s0:Shared) (H0:Hp) (fp:List Addr) (N:List Str):Cx where
  prog:=X.prog
  w:=X.w
  K:=X.K
  mg:=X.mg
  base:=X.base
  A:=X.A
  N:=N
  s₀:=s0
  H₀:=H0
  env:=compEnvC scope cl C X.env
  outer:=X.stack
  stack:=X.stack
  ex:=fp
  fn:=fun _=>false
  calm:=X.calm
  pn:=[]
  xe:=xeC X (compEnvC scope cl C X.env) C
structure CompScope (scope:Scope) (en:Env) (N M:List Str):Prop where
  kind:scope.kind=.function
  nocell:∀ y∈scope.names,y.2≠.cell
  locs:∀ y∈scope.names,y.2=.local→scope.names.lookup y.1=some .local
  free:∀ y,(y,NameKind.free)∈scope.names→en.kindOf y=some .cell∨en.kindOf y=some .free
  len:M.length=N.length
  same:∀ (j:Nat) (y:Str),M[j]?=some y→Vis (relabel scope en) y→N[j]?=some y∧(y,NameKind.free)∈scope.names∧(relabel scope en).names.lookup y≠some .local
  relab:∀ y,((relabel scope en).names.lookup y=some .cell∨(relabel scope en).names.lookup y=some .free)→(y,NameKind.free)∈scope.names
def tComp (k:Nat) (wi:TI) (g:TG) (tc:TT) (te:TE):TE:=fun σ H Q=>wi σ H fun J H1=>∀ d,H1 d=none→∃ W:Nat→Nat→Hp→Prop,(∃ m,W 0 m (upd H1 d (.lst [])))∧∀ i m H,W i m H →
  (J.stop i H∧Q (.ref d) H)∨(J.go i H∧∃ N:Hp→Prop,(∀ H',N H'→∃ m',m' < m∧W (i+1) m' H')∧∀ x H',J.yld i H x H'→g x (List.replicate k none++σ) H' fun σ2 H2 =>
    tc σ2 H2 fun b H3=>if b=true then te σ2 H3 fun y H4=>∃ ys,H4 d=some (.lst ys)∧ys.length < sizeLine∧N (upd H4 d (.lst (ys++[y]))) else N H3)
structure Gone (X:Cx) (pins:List (Addr × Obj)) (H:Hp) (C:Addr):Prop where
  no:H C=none
  ne:C≠X.env.locals
  yg:X.s₀.heap.objs.size≤C
  cl:∀ x c,X.env.cells.lookup x=some c→c≠C
  pn:∀ p∈X.pn++pins,p.1≠C
theorem Inv.gone {X:Cx} {pins:List (Addr × Obj)} {σ:St} {H:Hp} {s:Shared} {C:Addr} {h':Heap} (I:Inv X pins σ H s) (g:Gone X pins H C) (hs:Heap.SameBut C s.heap h'):Inv X pins σ H { s with heap:=h' } :=
  I.turned (t':=s.toks) (it:=C) (fun b o hb e=>hs.extBut b o hb e) g.no g.ne (.inr g.yg) g.cl g.pn
structure Back (X Y:Cx) (pins:List (Addr × Obj)) (σ:St) (fp:List Addr) (C:Addr) (s3:Shared) (H3:Hp):Prop where
  i0:Inv X pins σ H3 s3
  fp:∀ b∈fp,(b∈X.ex∨X.s₀.heap.objs.size≤b)∧b≠X.env.locals∧(∀ x c,X.env.cells.lookup x=some c→c≠b)∧∀ p∈X.pn++pins,p.1≠b
  inv:∀ (pins':List (Addr × Obj)) (σ':St) (H':Hp) (s':Shared),Inv Y pins' σ' H' s'→Inv X pins σ H' s'∧Gone X pins H' C
theorem comp_run {X:Cx} {elt tg iter:Expr} {cs:List Expr} {scope:Scope} {pos:Pos} {wi:TI} {g:TG} {tc:TT} {te:TE} {xs M:List Str} {use:Option (Value→Sem Unit)} {RR:Value→Shared→Prop} (hc:X.calm=true) (S:CompScope scope X.env X.N M) (hi:PI X tg iter wi)
    (hin:∀ (cl:List (Str × Addr)) (C:Addr) (s0:Shared) (H0:Hp) (fp:List Addr) (pins:List (Addr × Obj)) (σ:St),Back X (cxC X scope cl C s0 H0 fp (xs++M)) pins σ fp C s0 H0→PG (cxC X scope cl C s0 H0 fp (xs++M)) tg g∧PTs (cxC X scope cl C s0 H0 fp (xs++M)) cs tc∧PE (cxC X scope cl C s0 H0 fp (xs++M)) elt te)
    (hg:∀ v σ H Q,g v (List.replicate xs.length none++σ) H Q→g v (List.replicate xs.length none++σ) H fun σ2 H2=>(∃ l:St,l.length=xs.length∧σ2=l++σ)∧Q σ2 H2)
    (hs:∀ x,foldedSetIterable iter X.env x=pure x) (pins:List (Addr × Obj)) (s:Shared) (σ:St) (H:Hp) (Q:VK) (I:Inv X pins σ H s) (h:tComp xs.length wi g tc te σ H Q)
    (fin:∀ (d C:Addr) (s6:Shared) (H6:Hp) (m:Str→Option Value),Q (.ref d) H6→Inv X pins σ H6 s6→s6.heap.Ns C m→Gone X pins H6 C→compPost (model X.prog X.w) X.A X.xe use RR (.ref d) C (.ok .next) s6) :
    wpAny (model X.prog X.w) X.A (comprehension (.ListComp elt [⟨tg,iter,cs,0⟩] scope pos) scope X.env (firstIterPos [⟨tg,iter,cs,0⟩] pos) (newList []) false (eval iter X.env) use) RR X.xe s:=by
  obtain ⟨cl,hcl,cl1,cl2⟩:=closure_of (scope:=scope) (en:=X.env) fun y hy=>I.ok.has y (S.free y hy)
  refine wpAny_comprehension_free (use:=use) rfl hs hcl S.kind S.locs (thn (hi pins s σ H _ I h) fun v s1 h1=>thn h1 fun itv s2 h2=>?_)
  obtain ⟨it,fp,tn,J,H2,e,I2,T,st2,f2,h3⟩:=h2
  subst e
  have hf:H2 s2.heap.objs.size=none:=I2.fresh
  obtain ⟨W,⟨m0,w0⟩,turn⟩:=h3 _ hf
  refine wpAny_newObj_type (wpAny_newFunctionEnv S.nocell (by intro y hy;simp at hy) (fun h4 hns hsb=>?_) S.kind)
  have I3:Inv X pins σ (upd H2 s2.heap.objs.size (.lst [])) { s2 with heap:=s2.heap.push { cls:=.type "list",data:=.seq ([]:List Value).toArray } }:=I2.lnew (ys:=[]) (its:=[]) (t':=s2.toks) .nil (Nat.zero_le _)
  generalize hs3:({ s2 with heap:=s2.heap.push { cls:=.type "list",data:=.seq ([]:List Value).toArray } }:Shared)=s3 at I3
  generalize hH3:upd H2 s2.heap.objs.size (.lst [])=H3 at I3 w0
  have e3:s2.heap.push { cls:=.type "list",dict:=none,data:=.seq ([]:List Value).toArray }=s3.heap:=by rw [←hs3]
  dsimp only at hns hsb ⊢
  rw [e3] at hns hsb
  have old:∀ b o,s3.heap.get? b=some o→h4.get? b=some o:=fun b o e=>hsb.extBut b o (Nat.ne_of_lt (Heap.lt_size e)) (Heap.get?_push_of_some _ e)
  have keep2:∀ b o,s2.heap.get? b=some o→s3.heap.get? b=some o:=fun b o e=>by rw [←e3];exact Heap.get?_push_of_some _ e
  have lt3:∀ b∈fp,b < s3.heap.objs.size:=fun b hb=>by
    obtain ⟨o,e,_⟩:=T.obj _ _ st2 b hb
    exact Heap.lt_size (keep2 b o e)
  have n3:∀ b∈fp,H3 b=none:=fun b hb=>by
    obtain ⟨o,e,_⟩:=T.obj _ _ st2 b hb
    rw [←hH3,upd_ne (Nat.ne_of_lt (Heap.lt_size e))]
    exact (f2 b hb).1
  have st4:tn 0 h4:=T.keep _ _ _ st2 fun b _ o e=>old b o (keep2 b o e)
  let Y:Cx:=cxC X scope cl s3.heap.objs.size s3 H3 fp (xs++M)
  have relab:∀ y,((relabel scope X.env).names.lookup y=some .cell∨(relabel scope X.env).names.lookup y=some .free)→∃ c,cl.lookup y=some c:=fun y hy=>cl2 y (S.relab y hy)
  have Yok:Y.Ok:=by
    refine ⟨I3.ok.mod,S.kind,I3.ok.glob,I3.ok.blt,Nat.le_refl _,fun y z c h1 h2=>I3.ok.inj y z c (cl1 y c h1) (cl1 z c h2),fun y hy=>relab y hy,fun _ _ h _=>absurd (show false=true from h) (by decide),I3.ok.hd,I3.ok.frames,.inl rfl,
      fun b hb=>⟨Nat.ne_of_lt (lt3 b hb),fun y c e=>(f2 b hb).2.2.2.2.1 y c (cl1 y c e)⟩,I3.bs,Nat.le_trans I3.ok.bsz I3.sz,fun b o e hb=>?_,fun b hb z=>?_,I3.stack,I3.stkFree⟩
    · rcases (f2 b hb).2.2.2.1 with z | z
      · exact I3.ok.noex b o e z
      · exact absurd (Nat.lt_of_lt_of_le (Heap.lt_size e) (Nat.le_trans I3.ok.bsz z)) (Nat.lt_irrefl _)
    · rcases List.mem_cons.mp (I3.stkSub b z) with z | z
      · exact (f2 b hb).2.1 z
      · exact (f2 b hb).2.2.1 z
  have cells4:∀ y c,cl.lookup y=some c→∀ v,s3.heap.IsCell c v→h4.IsCell c v:=fun y c _ v ⟨o,ho,hd⟩=>⟨o,old c o ho,hd⟩
  have IY:∀ t',Inv Y [] (List.replicate xs.length none++σ) H3 { s3 with heap:=h4,toks:=t' }:=fun t'=>by
    refine ⟨Yok,rfl,I3.bare,Un.kept old,⟨_,hns,fun i y v e1 e2 e3=>?_⟩,fun y c e=>?_,I3.hok.fresh (Nat.le_refl _),fun y c e=>I3.freeC y c (cl1 y c e),fun p hp=>absurd (show p∈([]:List (Addr × Obj)) from hp) (by simp),I3.hok.kept old,?_⟩
    · by_cases hi:i < xs.length
      · rw [List.getElem?_append_left (by simpa using hi),List.getElem?_replicate] at e2
        split at e2 <;> cases e2
      · obtain ⟨j,rfl⟩:∃ j,i=xs.length+j:=⟨i - xs.length,by omega⟩
        have e1':M[j]?=some y:=by
          have q:(xs++M)[xs.length+j]?=some y:=e1
          rw [List.getElem?_append_right (Nat.le_add_right _ _)] at q
          simpa using q
        have e2':σ[j]?=some (some v):=by
          rw [List.getElem?_append_right (by simp)] at e2
          simpa using e2
        obtain ⟨a1,a2,a3⟩:=S.same j y e1' e3
        have vis:Vis X.env.scope y:=by
          rcases S.free y a2 with z | z
          · exact .inr (.inl z)
          · exact .inr (.inr z)
        obtain ⟨m,_,hl⟩:=I3.loc
        obtain ⟨u,r,l⟩:=hl j y v a1 e2' vis
        refine ⟨u,r,?_⟩
        have kk:Y.env.kindOf y=some .cell∨Y.env.kindOf y=some .free:=by
          rcases e3 with z | z | z
          · exact absurd z a3
          · exact .inl z
          · exact .inr z
        rcases l with ⟨k1,_⟩ | ⟨_,c,ec,ic⟩
        · rcases S.free y a2 with z | z
          · rw [z] at k1;cases k1
          · rw [z] at k1;cases k1
        · obtain ⟨c',ec'⟩:=cl2 y a2
          have:=cl1 y c' ec'
          rw [ec] at this
          cases this
          exact .inr ⟨kk,c,ec',cells4 y c ec' _ ic⟩
    · obtain ⟨v,z⟩:=I3.cell y c (cl1 y c e)
      exact ⟨v,cells4 y c e v z⟩
    · show (List.replicate xs.length none++σ).length=(xs++M).length
      rw [List.length_append,List.length_append,List.length_replicate,S.len,I3.len]
  have stat:∀ {pl:List (Addr × Obj)} {H':Hp},(∀ p∈pl,p.1∉fp)→(∀ b∈fp,H' b=none)→∀ b∈fp,FpOk Y pl H' b:=fun hp hn b hb =>
    ⟨hn b hb,Nat.ne_of_lt (lt3 b hb),Yok.exfs b hb,.inl hb,fun y c e=>(f2 b hb).2.2.2.2.1 y c (cl1 y c e),fun p hp' z=>hp p (by simpa [Y,cxC] using hp') (z▸hb)⟩
  have bk:Back X Y pins σ fp s3.heap.objs.size s3 H3:=by
    refine ⟨I3,fun b hb=>⟨(f2 b hb).2.2.2.1,(f2 b hb).2.1,(f2 b hb).2.2.2.2.1,(f2 b hb).2.2.2.2.2⟩,fun pins' σ' H' s' J=>⟨?_,?_⟩⟩
    · exact I3.call' (ch:=fp) J.os J.base J.hok J.bare fun b hb=>⟨(f2 b hb).2.2.2.1,(f2 b hb).2.1,(f2 b hb).2.2.2.2.1,(f2 b hb).2.2.2.2.2⟩
    · refine ⟨J.free,Nat.ne_of_gt I3.lt,I3.sz,fun y c e z=>?_,fun p hp z=>?_⟩
      · obtain ⟨v,q⟩:=I3.cell y c e
        have:=q.lt
        rw [z] at this
        exact Nat.lt_irrefl _ this
      · have:=Heap.lt_size (I3.pin p hp).1
        rw [z] at this
        exact Nat.lt_irrefl _ this
  obtain ⟨hG,hT,hE⟩:=hin cl s3.heap.objs.size s3 H3 fp pins σ bk
  have loop:∀ t',codeAny (model X.prog X.w) X.A (.compLoop (.ListComp elt [⟨tg,iter,cs,0⟩] scope pos) 0 (.ref it) (.ref s2.heap.objs.size) Y.env) (compPost (model X.prog X.w) X.A X.xe use RR (.ref s2.heap.objs.size) s3.heap.objs.size) { s3 with heap:=h4,toks:=t' }:=by
    intro t'
    refine comp_turns (EE:=Y.xe) (by cases use <;> rfl) (fun n s'=>∃ i H',Inv Y [] (List.replicate xs.length none++σ) H' s'∧tn i s'.heap∧(∀ b∈fp,H' b=none)∧W i n H') ?_ m0 ⟨0,H3,IY t',st4,n3,w0⟩
    rintro n s5 ⟨i,H5,I5,st5,fr5,w5⟩
    rcases turn i n H5 w5 with ⟨stop,qn⟩ | ⟨go,N,hN,step⟩
    · refine thn (T.done Y rfl rfl rfl hc i [] s5 (List.replicate xs.length none++σ) H5 _ I5 (stat (by simp) fr5) st5 stop) fun r s6 ⟨hr,I6⟩=>?_
      subst hr
      obtain ⟨m6,hn6,_⟩:=I6.loc
      have I8:Inv X pins σ H5 s6:=I3.call' (ch:=fp) I6.os I6.base I6.hok I6.bare fun b hb=>⟨(f2 b hb).2.2.2.1,(f2 b hb).2.1,(f2 b hb).2.2.2.2.1,(f2 b hb).2.2.2.2.2⟩
      have lt8:X.env.locals < s3.heap.objs.size:=I3.lt
      refine fin _ _ s6 H5 m6 qn I8 hn6 ⟨I6.free,Nat.ne_of_gt lt8,I3.sz,fun y c e z=>?_,fun p hp z=>?_⟩
      · obtain ⟨v,q⟩:=I3.cell y c e
        have:=q.lt
        rw [z] at this
        exact Nat.lt_irrefl _ this
      · have:=Heap.lt_size (I3.pin p hp).1
        rw [z] at this
        exact Nat.lt_irrefl _ this
    · refine thn (T.item Y rfl rfl rfl hc i [] s5 (List.replicate xs.length none++σ) H5 _ I5 (stat (by simp) fr5) st5 go) fun r s6 ⟨u,hr,h6⟩=>?_
      subst hr
      refine thn h6 fun _ s7 ⟨x7,H7,I7,r7,y7,st7,fr7⟩=>?_
      have I7':=I7.pinned (stat (by simp) fr7) (T.obj _ _ st7)
      have again:∀ {σ8:St} {H8:Hp} {s8:Shared},(∃ l:St,l.length=xs.length∧σ8=l++σ)→Inv Y ([]++pinsAt fp s7.heap) σ8 H8 s8→N H8→∃ m,m < n∧∃ i H',Inv Y [] (List.replicate xs.length none++σ) H' s8∧tn i s8.heap∧(∀ b∈fp,H' b=none)∧W i m H':=fun {σ8 H8 s8} l8 I8 n8=>by
        obtain ⟨m',hm,w8⟩:=hN H8 n8
        obtain ⟨l,ll,rfl⟩:=l8
        have pin8:∀ b∈fp,∀ o,s7.heap.get? b=some o→s8.heap.get? b=some o∧H8 b=none:=fun b hb o e=>by
          have z:=I8.pin (b,o) (List.mem_append_right _ (List.mem_append_right _ (mem_pinsAt hb e)))
          exact ⟨z.1,z.2.1⟩
        refine ⟨m',hm,i+1,H8,I8.unpinned.weak (by simp [ll]) (fun j v e=>?_),T.keep _ _ _ st7 fun b hb o e=>(pin8 b hb o e).1,fun b hb=>?_,w8⟩
        · by_cases hj:j < xs.length
          · rw [List.getElem?_append_left (by simpa using hj),List.getElem?_replicate] at e
            split at e <;> cases e
          · rw [List.getElem?_append_right (by simpa using hj)] at e
            rw [List.getElem?_append_right (by omega),ll]
            simpa using e
        · obtain ⟨o,e,_⟩:=T.obj _ _ st7 b hb
          exact (pin8 b hb o e).2
      refine thn (hG _ s7 (List.replicate xs.length none++σ) H7 x7 u _ I7' r7 (hg _ _ _ _ (step x7 H7 y7))) fun _ s8 ⟨σ8,H8,I8,l8,q8⟩=>?_
      refine thn (hT _ s8 σ8 H8 _ I8 q8) fun ok s9 ⟨H9,I9,q9⟩=>?_
      cases ok with
      | false=>exact again l8 I9 q9
      | true =>
        refine thn (hE _ s9 σ8 H9 _ I9 q9) fun y s10 ⟨y10,H10,I10,r10,ys,hd,hl,n10⟩=>?_
        refine thn (mt_append _ s10 σ8 H10 (.ref s2.heap.objs.size) [y10] (.ref s2.heap.objs.size) [y] (fun _ H'=>N H') I10 rfl (.cons r10 .nil) ⟨_,ys,y10,rfl,rfl,hd,hl,n10⟩) fun _ s11 ⟨_,H11,I11,_,n11⟩=>?_
        exact again l8 I11 n11
  refine codeAny_compStart_list (loop _) (T.self _ 0 _ _ _ st4 (loop _))
theorem pe_comp {X:Cx} {elt tg iter:Expr} {cs:List Expr} {scope:Scope} {pos:Pos} {wi:TI} {g:TG} {tc:TT} {te:TE} {xs M:List Str} (hc:X.calm=true) (S:CompScope scope X.env X.N M) (hi:PI X tg iter wi)
    (hin:∀ (cl:List (Str × Addr)) (C:Addr) (s0:Shared) (H0:Hp) (fp:List Addr),PG (cxC X scope cl C s0 H0 fp (xs++M)) tg g∧PTs (cxC X scope cl C s0 H0 fp (xs++M)) cs tc∧PE (cxC X scope cl C s0 H0 fp (xs++M)) elt te)
    (hg:∀ v σ H Q,g v (List.replicate xs.length none++σ) H Q→g v (List.replicate xs.length none++σ) H fun σ2 H2=>(∃ l:St,l.length=xs.length∧σ2=l++σ)∧Q σ2 H2)
    (hs:∀ x,foldedSetIterable iter X.env x=pure x:=by intro _;rfl):PE X (.ListComp elt [⟨tg,iter,cs,0⟩] scope pos) (tComp xs.length wi g tc te):=by
  intro pins s σ H Q I h
  rw [eval_ListComp]
  exact comp_run (use:=none) hc S hi (fun cl C s0 H0 fp _ _ _=>hin cl C s0 H0 fp) hg hs pins s σ H Q I h fun d C s6 H6 m q I6 hn gn=>⟨m,hn,fun h' hs'=>⟨.ref d,H6,I6.gone gn hs',rfl,q⟩⟩
theorem ps_comp {X:Cx} {elt tg iter:Expr} {cs:List Expr} {scope:Scope} {pos pos' spos:Pos} {wi:TI} {g:TG} {tc:TT} {te:TE} {xs M:List Str} {i:Nat} {x:Str} (hc:X.calm=true) (S:CompScope scope X.env X.N M) (hi:PI X tg iter wi)
    (hin:∀ (cl:List (Str × Addr)) (C:Addr) (s0:Shared) (H0:Hp) (fp:List Addr),PG (cxC X scope cl C s0 H0 fp (xs++M)) tg g∧PTs (cxC X scope cl C s0 H0 fp (xs++M)) cs tc∧PE (cxC X scope cl C s0 H0 fp (xs++M)) elt te)
    (hg:∀ v σ H Q,g v (List.replicate xs.length none++σ) H Q→g v (List.replicate xs.length none++σ) H fun σ2 H2=>(∃ l:St,l.length=xs.length∧σ2=l++σ)∧Q σ2 H2)
    (hN:X.N.Nodup) (hix:X.N[i]?=some x) (hx:X.env.scope.names.lookup x=some .local) (hw:swapsWith (.ListComp elt [⟨tg,iter,cs,0⟩] scope pos) (some (.Name x pos')) spos.line X.env=pure true)
    (hs:∀ x,foldedSetIterable iter X.env x=pure x:=by intro _;rfl):PS X (.Assign [.Name x pos'] (.ListComp elt [⟨tg,iter,cs,0⟩] scope pos) spos) (tAsg (tComp xs.length wi g tc te) (gName i)):=by
  intro pins s σ H D I h
  rw [exec_Assign_Name_used _ _ _ _ hw]
  refine wpAny_bind (wpAny_standAt (wpAny_bind ?_))
  show wpAny _ X.A (comprehension (.ListComp elt [⟨tg,iter,cs,0⟩] scope pos) scope X.env _ (newList []) false (eval iter X.env) (some (assign (.Name x pos') X.env)) >>= fun _=>pure ()) _ _ s
  refine wpAny_bind (thn (comp_run (use:=some (assign (.Name x pos') X.env)) (RR:=fun _ s'=>SP X pins D .next s') hc S hi (fun cl C s0 H0 fp _ _ _=>hin cl C s0 H0 fp) hg hs pins s σ H _ I h fun d C s6 H6 m q I6 hn gn=>?_) fun _ s' hq=>wpAny_pure (wpAny_pure hq))
  show wpAny _ X.A (assign (.Name x pos') X.env (.ref d)) _ _ s6
  refine wpAny_assign_Name (store_ok2 I6 hN hix (.inl hx) (v:=.ref d) rfl (fun s7 I7 ch=>?_) (.inr hx))
  obtain ⟨a,hsb,ha⟩:=ch
  have ne:C≠a:=by
    rcases ha with z | z
    · rw [z];exact gn.ne
    · exact fun z'=>gn.cl x a z z'.symm
  exact ⟨m,hn.sameBut hsb ne,fun h' hs'=>⟨_,H6,I7.gone gn hs',q⟩⟩
theorem pe_compB {X:Cx} {elt tg iter:Expr} {cs:List Expr} {scope:Scope} {pos:Pos} {wi:TI} {g:TG} {tc:TT} {te:TE} {xs M:List Str} (hc:X.calm=true) (S:CompScope scope X.env X.N M) (hi:PI X tg iter wi)
    (hin:∀ (cl:List (Str × Addr)) (C:Addr) (s0:Shared) (H0:Hp) (fp:List Addr) (pins:List (Addr × Obj)) (σ:St),Back X (cxC X scope cl C s0 H0 fp (xs++M)) pins σ fp C s0 H0→PG (cxC X scope cl C s0 H0 fp (xs++M)) tg g∧PTs (cxC X scope cl C s0 H0 fp (xs++M)) cs tc∧PE (cxC X scope cl C s0 H0 fp (xs++M)) elt te)
    (hg:∀ v σ H Q,g v (List.replicate xs.length none++σ) H Q→g v (List.replicate xs.length none++σ) H fun σ2 H2=>(∃ l:St,l.length=xs.length∧σ2=l++σ)∧Q σ2 H2)
    (hs:∀ x,foldedSetIterable iter X.env x=pure x:=by intro _;rfl):PE X (.ListComp elt [⟨tg,iter,cs,0⟩] scope pos) (tComp xs.length wi g tc te):=by
  intro pins s σ H Q I h
  rw [eval_ListComp]
  exact comp_run (use:=none) hc S hi hin hg hs pins s σ H Q I h fun d C s6 H6 m q I6 hn gn=>⟨m,hn,fun h' hs'=>⟨.ref d,H6,I6.gone gn hs',rfl,q⟩⟩
end L2
set_option Elab.async false
set_option linter.all false
set_option maxRecDepth 100000
namespace L2
open PySem PySem.Spec PyProof.Rows
structure EqK {α:Type} [DecidableEq α] (H:Hp) (s:Shared) (n:Nat) (R:V→α→Prop):Prop where
  inj:∀ x a b,R x a→R x b→a=b
  eq:∀ (A:Around) (x y:V) (a b:α) (u v:Value),A.units+n < cLine→R x a→R y b→RelV x u→RelV y v→SeqAt.EqAt A s u v (decide (a=b))
def RInt (x:V) (i:Int):Prop:=x=.int i
def RBl (x:V) (b:Bool):Prop:=x=.bl b
def RTup {α:Type} (H:Hp) (R:V→α→Prop) (x:V) (ds:List α):Prop:=∃ a xs,x=.ref a∧H a=some (.tup xs)∧Paired R xs ds
def RLst {α:Type} (H:Hp) (R:V→α→Prop) (x:V) (ds:List α):Prop:=∃ a xs,x=.ref a∧H a=some (.lst xs)∧Paired R xs ds
theorem all_eq {α:Type} [DecidableEq α]:∀ (as bs:List α) (e:Nat→Bool),(∀ j x y,as[j]?=some x→bs[j]?=some y→e j=decide (x=y)) →
    ((List.range (min as.length bs.length)).all e && as.length == bs.length)=decide (as=bs):=by
  intro as bs e h
  rw [Bool.eq_iff_iff]
  simp only [Bool.and_eq_true,List.all_eq_true,List.mem_range,beq_iff_eq,decide_eq_true_eq]
  constructor
  · rintro ⟨h1,h2⟩
    refine List.ext_getElem? fun j=>?_
    by_cases hj:j < as.length
    · have e1:as[j]?=some as[j]:=List.getElem?_eq_getElem hj
      have e2:bs[j]?=some (bs[j]'(by omega)):=List.getElem?_eq_getElem (by omega)
      have q:=h1 j (by omega)
      rw [h j _ _ e1 e2] at q
      rw [e1,e2,of_decide_eq_true q]
    · rw [List.getElem?_eq_none (by omega),List.getElem?_eq_none (by omega)]
  · rintro rfl
    refine ⟨fun j hj=>?_,rfl⟩
    have hj:j < as.length:=by omega
    have e1:as[j]?=some as[j]:=List.getElem?_eq_getElem hj
    rw [h j _ _ e1 e1]
    simp
theorem Paired.right_of {α β:Type} {R:α→β→Prop}:∀ {xs:List α} {ds:List β},Paired R xs ds→∀ (j:Nat) (x:α),xs[j]?=some x→∃ d,ds[j]?=some d∧R x d
  | _,_,.nil,j,x,e=>by simp at e
  | _,_,.cons r t,0,x,e=>by simp at e;subst e;exact ⟨_,rfl,r⟩
  | _,_,.cons r t,j+1,x,e=>by
    obtain ⟨d,e1,e2⟩:=Paired.right_of t j x (by simpa using e)
    exact ⟨d,by simpa using e1,e2⟩
theorem Paired.inj {α β:Type} {R:α→β→Prop} (h:∀ x a b,R x a→R x b→a=b):∀ {xs:List α} {ds es:List β},Paired R xs ds→Paired R xs es→ds=es
  | _,_,_,.nil,.nil=>rfl
  | _,_,_,.cons r t,.cons r' t'=>by rw [h _ _ _ r r',Paired.inj h t t']
theorem Paired.ints:∀ ns:List Int,Paired RInt (ns.map V.int) ns
  | []=>.nil
  | n :: ns=>.cons rfl (Paired.ints ns)
theorem Paired.ofInts:∀ {xs:List V} {ns:List Int},Paired RInt xs ns→xs=ns.map V.int
  | _,_,.nil=>rfl
  | _,_,.cons r t=>by rw [show _=_ from r,Paired.ofInts t];rfl
theorem Paired.bls:∀ ns:List Bool,Paired RBl (ns.map V.bl) ns
  | []=>.nil
  | n :: ns=>.cons rfl (Paired.bls ns)
theorem rtup_ints {H:Hp} {a:Addr} {ns:List Int} (h:H a=some (.tup (ns.map V.int))):RTup H RInt (.ref a) ns:=⟨a,_,rfl,h,Paired.ints ns⟩
section
variable {α:Type} [DecidableEq α] {P:Program} {w:World} {H:Hp} {s:Shared} {n:Nat} {R:V→α→Prop} {A:Around}
theorem EqK.int:EqK H s n RInt:=⟨fun x a b h1 h2=>by unfold RInt at *;rw [h1] at h2;cases h2;rfl,fun A x y a b u v _ h1 h2 r1 r2=>by
  unfold RInt at *
  subst h1 h2
  obtain ⟨t,rfl⟩:=r1
  obtain ⟨t',rfl⟩:=r2
  have q:=SeqAt.EqAt.int_int (A:=A) (s:=s) a t b t'
  rw [Bool.beq_eq_decide_eq] at q
  exact q⟩
theorem EqK.bl:EqK H s n RBl:=⟨fun x a b h1 h2=>by unfold RBl at *;rw [h1] at h2;cases h2;rfl,fun A x y a b u v _ h1 h2 r1 r2=>by
  unfold RBl at *
  subst h1 h2
  cases r1
  cases r2
  have q:=SeqAt.EqAt.bool_bool (A:=A) (s:=s) a b
  rw [Bool.beq_eq_decide_eq] at q
  exact q⟩
theorem items_eq (K:EqK H s n R) {xs ys:List V} {ds es:List α} {its its2:List Value} (p1:Paired R xs ds) (p2:Paired R ys es) (v1:Vals xs its) (v2:Vals ys its2) (hA:A.units+n < cLine) :
    ∃ e:Nat→Bool,(∀ j (h1:j < its.toArray.size) (h2:j < its2.toArray.size),SeqAt.EqAt A s its.toArray[j] its2.toArray[j] (e j))∧((List.range (min its.toArray.size its2.toArray.size)).all e && its.toArray.size == its2.toArray.size)=decide (ds=es):=by
  have l1:its.toArray.size=ds.length:=by rw [List.size_toArray,←v1.length];exact p1.length
  have l2:its2.toArray.size=es.length:=by rw [List.size_toArray,←v2.length];exact p2.length
  refine ⟨fun j=>match ds[j]?,es[j]? with | some d,some e=>decide (d=e) | _,_=>true,fun j h1 h2=>?_,?_⟩
  · have hx:xs[j]?=some (xs[j]'(by rw [v1.length];simpa using h1)):=List.getElem?_eq_getElem _
    have hy:ys[j]?=some (ys[j]'(by rw [v2.length];simpa using h2)):=List.getElem?_eq_getElem _
    obtain ⟨d,e1,r1⟩:=Paired.right_of p1 j _ hx
    obtain ⟨e,e2,r2⟩:=Paired.right_of p2 j _ hy
    obtain ⟨u,e3,r3⟩:=v1.get hx
    obtain ⟨v,e4,r4⟩:=v2.get hy
    have q3:its.toArray[j]=u:=by
      have:=(List.getElem?_eq_some_iff.mp e3).2
      simpa using this
    have q4:its2.toArray[j]=v:=by
      have:=(List.getElem?_eq_some_iff.mp e4).2
      simpa using this
    simp only [e1,e2,q3,q4]
    exact K.eq A _ _ d e u v hA r1 r2 r3 r4
  · rw [l1,l2]
    exact all_eq ds es _ fun j x y h1 h2=>by simp only [h1,h2]
theorem rc_tups (K:EqK H s n R) (ok:HOk P w H s.heap) {a b:Addr} {xs ys:List V} {ds es:List α} (ha:H a=some (.tup xs)) (hb:H b=some (.tup ys)) (p1:Paired R xs ds) (p2:Paired R ys es) (hA:A.units+(n+1) < cLine) :
    SeqAt.RcAt A s (.ref a) (.ref b) (decide (ds=es)):=by
  obtain ⟨_,its,v1,t1⟩:=ok a _ ha
  obtain ⟨_,its2,v2,t2⟩:=ok b _ hb
  obtain ⟨e,h1,h2⟩:=items_eq (A:=A.in1) K p1 p2 v1 v2 (by show A.units+1+n < cLine;omega)
  rw [←h2]
  exact SeqAt.RcAt.tuples t1 t2 (by omega) h1
theorem isL_of {h:Heap} {a:Addr} {its:List Value} {k:Nat} (e:h.get? a=some { cls:=.type "list",data:=.seq its.toArray k }):h.IsList a its.toArray:=⟨_,e,rfl,_,rfl⟩
theorem rc_lsts (K:EqK H s n R) (ok:HOk P w H s.heap) {a b:Addr} {xs ys:List V} {ds es:List α} (ha:H a=some (.lst xs)) (hb:H b=some (.lst ys)) (p1:Paired R xs ds) (p2:Paired R ys es) (hA:A.units+(n+1) < cLine) :
    SeqAt.RcAt A s (.ref a) (.ref b) (decide (ds=es)):=by
  obtain ⟨_,its,k1,v1,t1⟩:=ok a _ ha
  obtain ⟨_,its2,k2,v2,t2⟩:=ok b _ hb
  obtain ⟨e,h1,h2⟩:=items_eq (A:=A.in1) K p1 p2 v1 v2 (by show A.units+1+n < cLine;omega)
  by_cases hz:its.toArray.size=its2.toArray.size
  · have q:=SeqAt.RcAt.lists (isL_of t1) (isL_of t2) hz (show A.units < cLine by omega) h1
    have z:(List.range its.toArray.size).all e=decide (ds=es):=by
      rw [←h2,←hz]
      simp
    rw [z] at q
    exact q
  · have q:=SeqAt.RcAt.lists_lengths (A:=A) (isL_of t1) (isL_of t2) (by simpa using hz) (show A.units < cLine by omega)
    have z:false=decide (ds=es):=by
      rw [←h2]
      have:(its.toArray.size == its2.toArray.size)=false:=by simpa using hz
      rw [this,Bool.and_false]
    rw [z] at q
    exact q
theorem EqK.tup (K:EqK H s n R) (ok:HOk P w H s.heap):EqK H s (n+1) (RTup H R):=by
  refine ⟨fun x a b h1 h2=>?_,fun A x y a b u v hA h1 h2 r1 r2=>?_⟩
  · obtain ⟨c,xs,rfl,e1,p1⟩:=h1
    obtain ⟨c',xs',z,e2,p2⟩:=h2
    cases z
    rw [e1] at e2;cases e2
    exact Paired.inj K.inj p1 p2
  · obtain ⟨c,xs,rfl,e1,p1⟩:=h1
    obtain ⟨c',xs',rfl,e2,p2⟩:=h2
    cases r1;cases r2
    by_cases hc:c=c'
    · subst hc
      rw [e1] at e2;cases e2
      have:=Paired.inj K.inj p1 p2
      subst this
      rw [decide_eq_true rfl]
      exact SeqAt.EqAt.same _
    · exact SeqAt.EqAt.of_refs hc (rc_tups K ok e1 e2 p1 p2 hA)
end
section
variable {X:Cx} {α:Type} [DecidableEq α]
def rEqTI:R2:=fun x y H Q=>∃ ns ms,RTup H RInt x ns∧RTup H RInt y ms∧Q (.bl (decide (ns=ms))) H
theorem op_eqTI (hu:X.A.units+4 < cLine):OpR X (compareOp .Eq) rEqTI:=by
  intro pins s σ H x y v u Q I rx ry h
  obtain ⟨ns,ms,⟨a,xs,rfl,e1,p1⟩,⟨b,ys,rfl,e2,p2⟩,q⟩:=h
  cases rx;cases ry
  exact rc_tups (A:=X.A) (n:=0) EqK.int I.hok e1 e2 p1 p2 (by omega) _ _ _ _ ⟨.bl _,H,I,rfl,q⟩
end
def rIsi (K:PySem.W.Frag):List V→Hp→VK→Prop:=fun xs H Q=>∃ x t T b,xs=[x,.ty T]∧TyOf K H x t∧PySem.W.kitOne K t (.type T)=some b∧Q (.bl b) H
theorem call_isi {X:Cx}:CallR X (.builtin "isinstance") (rIsi X.K):=by
  intro pins s σ H xs us Q I r h
  obtain ⟨x,t,T,b,rfl,ty,e,q⟩:=h
  obtain ⟨u,v,rfl,r1,r2⟩:=r.two
  cases r2
  exact isinst_ok I r1 ty e fun tk=>⟨.bl b,H,I.tok tk,rfl,q⟩
def rSlG:V→Option Int→Option Int→Hp→VK→Prop:=fun x lo hi H Q=>∃ a xs,x=.ref a∧H a=some (.tup xs)∧∀ p H',Same H H'→H' p=some (.tup (cutV xs lo hi))→Q (.ref p) H'
theorem sixAll {n:Nat} {α:Type} (xs:List α) (lo hi:Option Int) (h1:HT.sIx xs.length 0 lo=0) (h2:HT.sIx xs.length xs.length hi=xs.length):(xs.drop (HT.sIx xs.length 0 lo)).take (HT.sIx xs.length xs.length hi - HT.sIx xs.length 0 lo)=xs:=by
  rw [h1,h2];simp
theorem same_newO {H:Hp} {p:Addr} (h:H p=none) (o:HO):Same H (upd H p o):=fun b u q=>by rw [upd_ne (ne_of_none q h)];exact q
theorem whole_tuple {prog:Program} {w:World} {A:Around} {E:Value→Shared→Prop} {s:Shared} {t sl:Addr} {items:Array Value} {vl vu:Value} {lo hi:Option Int} {Q:Value→Shared→Prop} (ht:IsTup s.heap t items) (hs:s.heap.IsSliceOf sl vl vu .none) (pl:IsPart vl lo) (pu:IsPart vu hi)
    (h1:HT.sIx items.size 0 lo=0) (h2:HT.sIx items.size items.size hi=items.size) (h:Q (.ref t) s):wpAny (model prog w) A (getItem (.ref t) (.ref sl)) Q E s:=by
  obtain ⟨os,hos,hcs,hds⟩:=id hs
  have hTs:s.TypeIs (.ref sl) "slice":=⟨os,hos,hcs⟩
  unfold getItem
  try with_reducible refine wpAny_holding ?_
  first | refine wpAny_bind (wpAny_pure ?_) | skip
  refine wpAny_bind (wpAny_sequenceKey ht.typeIs (by decide) ?_)
  refine wpAny_bind (wpAny_callSpecial?_slot (name:=Str.ofString "__getitem__") ht.typeIs PyProof.Rows.slot_tuple_getitem
    (wpAny_call_entry PyProof.Rows.slot_tuple_getitem ht.typeIs entry_tuple_getitem ?_ (args_tuple_getitem _ _)))
  show wpAny _ _ (Builtin.Tuple.tupleItemsOf (.ref t) >>= _) _ _ s
  refine wpAny_bind (tupleItemsOf_ ht ?_)
  refine wpAny_bind (wpAny_typeOf hTs ?_)
  rw [if_pos (by decide)]
  refine wpAny_bind (HT.sliceApplied_gen hs pl pu ?_)
  rw [h1,h2]
  show wpAny _ _ (if (((0:Nat):Int) == 0 && (1:Int) == 1 && (items.size - 0) == items.size)=true then _ else _) _ _ s
  rw [if_pos (by simp)]
  unfold Builtin.Tuple.tupleIsExact
  refine wpAny_bind (wpAny_bind (wpAny_typeOf ht.typeIs (wpAny_pure ?_)))
  rw [if_pos (by decide)]
  first
    | exact wpAny_bind (wpAny_rule (wpAny_bind (wpAny_pure (wpAny_pure ⟨_,rfl,wpAny_pure h⟩))))
    | exact wpAny_bind (wpAny_rule (wpAny_pure ⟨_,rfl,wpAny_pure h⟩))
    | exact wpAny_bind (wpAny_bind (wpAny_rule (wpAny_pure ⟨_,rfl,wpAny_pure h⟩)))
theorem sl_tupG {X:Cx}:SlR X rSlG:=by
  intro pins s σ H x v vl vu lo hi sl Q I rx hs pl pu h
  obtain ⟨a,xs,rfl,hx,q⟩:=h
  by_cases hw:HT.sIx xs.length 0 lo=0∧HT.sIx xs.length xs.length hi=xs.length
  · cases rx
    obtain ⟨hz,its,r,ht⟩:=I.hok a _ hx
    have hlen:its.toArray.size=xs.length:=by rw [List.size_toArray];exact r.length.symm
    refine ⟨"tuple",_,PyProof.Rows.slot_tuple_getitem.lookup,(IsTp.is ht).typeIs,?_⟩
    refine whole_tuple (IsTp.is ht) hs pl pu (by rw [hlen];exact hw.1) (by rw [hlen];exact hw.2) ⟨.ref a,H,I,rfl,q a H (Same.refl H) ?_⟩
    unfold cutV
    rw [sixAll (n:=0) xs lo hi hw.1 hw.2]
    exact hx
  · exact sl_tup pins s σ H (.ref a) v vl vu lo hi sl Q I rx hs pl pu ⟨a,xs,rfl,.inl (.inl hx),hw,fun p hp=>q p _ (same_newO hp _) upd_same⟩
def rCatG:R2:=fun x y H Q=>∃ a b xs ys,x=.ref a∧y=.ref b∧H a=some (.tup xs)∧H b=some (.tup ys)∧xs.length+ys.length≤sizeLine∧∀ p H',Same H H'→H' p=some (.tup (xs++ys))→Q (.ref p) H'
theorem op_catG {X:Cx}:OpR X (binaryOp .Add) rCatG:=by
  intro pins s σ H x y v u Q I rx ry h
  obtain ⟨a,b,xs,ys,rfl,rfl,ha,hb,hz,q⟩:=h
  by_cases hx:xs=[]
  · subst hx
    cases rx;cases ry
    obtain ⟨_,its,r1,p1⟩:=I.hok a _ ha
    obtain ⟨_,its2,r2,p2⟩:=I.hok b _ hb
    have e0:its=[]:=r1.nil_iff.mpr rfl
    subst e0
    obtain ⟨⟨cls,dd,data,sl⟩,ho,hc,n,hd⟩:=id (IsTp.is p1)
    obtain ⟨⟨cls2,dd2,data2,sl2⟩,ho2,hc2,n2,hd2⟩:=id (IsTp.is p2)
    simp only at hc hd hc2 hd2
    subst hc hd hc2 hd2
    exact concat_meets ⟨_,ho,rfl⟩ ⟨_,ho2,rfl⟩ noFill_tuple_add seq_tuple_add PySem.F.slot_tuple_add PySem.F.entry_tuple_add (PySem.F.args_tuple_add_2 _ _)
      (tuple_addW0 a b ([]:List Value).toArray its2.toArray n n2 dd dd2 sl sl2 (by simp)) ⟨ho,ho2,⟨.ref b,H,I,rfl,q b H (Same.refl H) (by simpa using hb)⟩⟩
  · exact op_catT pins s σ H (.ref a) (.ref b) v u Q I rx ry ⟨a,b,xs,ys,rfl,rfl,.inl (.inl ha),.inl (.inl hb),hx,hz,fun z=>q a H (Same.refl H) (by rw [z,List.append_nil];exact ha),fun _ p hp=>q p _ (same_newO hp _) upd_same⟩
def rAll:List V→Hp→VK→Prop:=fun xs H Q=>∃ (a:Addr) (bs:List Bool),xs=[.ref a]∧H a=some (.lst (bs.map V.bl))∧Q (.bl (bs.all id)) H
theorem vals_bls:∀ {bs:List Bool} {us:List Value},Vals (bs.map V.bl) us→us=bs.map Value.bool:=by
  intro bs
  induction bs with
  | nil=>intro us r;rw [List.map_nil] at r;cases r;rfl
  | cons b bs ih =>
    intro us r
    rw [List.map_cons] at r
    cases r with
    | cons r1 r2=>rw [ih r2,show _=Value.bool b from r1];rfl
theorem all_range (bs:List Bool):(List.range bs.length).all (fun i=>bs.getD i true)=bs.all id:=by
  rw [Bool.eq_iff_iff]
  simp only [List.all_eq_true,List.mem_range,id]
  constructor
  · intro h b hb
    obtain ⟨i,hi,rfl⟩:=List.mem_iff_getElem.mp hb
    have q:=h i hi
    rwa [List.getD_eq_getElem?_getD,List.getElem?_eq_getElem hi] at q
  · intro h i hi
    rw [List.getD_eq_getElem?_getD,List.getElem?_eq_getElem hi]
    exact h _ (List.getElem_mem hi)
theorem call_all {X:Cx} (hc:X.calm=true):CallR X (.builtin "all") rAll:=by
  intro pins s σ H xs us Q I r h
  obtain ⟨a,bs,rfl,ha,q⟩:=h
  obtain ⟨u,rfl,ru⟩:=vals1 r
  cases ru
  obtain ⟨hz,its,n,v,e⟩:=I.hok a _ ha
  have ei:=vals_bls v
  subst ei
  refine call_all_walk (wpAny_pyIter_list (isL_of e) ?_)
  have hlt:=Heap.lt_size e
  refine ⟨s.heap.objs.size,_,_,_,_,_,fun i=>bs.getD i true,rfl,Walks.list (A:=X.A.in1) (by show X.A.handled=none;exact I.ok.hd hc) s.heap.objs.size a (Nat.ne_of_lt hlt) (bs.map Value.bool).toArray,⟨⟨_,Heap.get?_push_size _ rfl,rfl,rfl⟩,isL_of (Heap.get?_push_of_some _ e)⟩,?_,fun h' tk hk=>?_⟩
  · intro i v s' Q' E' hv hq
    simp only [List.getElem?_toArray,List.getElem?_map] at hv
    cases hb:bs[i]? with
    | none=>rw [hb] at hv;cases hv
    | some b =>
      rw [hb] at hv;cases hv
      have hq':Q' (bs.getD i true) s':=hq
      rw [List.getD_eq_getElem?_getD,hb] at hq'
      exact wpAny_truthy_bool hq'
  · have e1:(bs.map Value.bool).toArray.size=bs.length:=by simp
    rw [e1,all_range]
    exact ⟨.bl _,H,I.kept (h':=h') (t':=tk) (fun b o eo=>hk b o (by simp;exact Nat.ne_of_lt (Heap.lt_size eo)) (Heap.get?_push_of_some _ eo)),rfl,q⟩
def rSum:List V→Hp→VK→Prop:=fun xs H Q=>∃ (a:Addr) (ns:List Int),xs=[.ref a]∧H a=some (.lst (ns.map V.int))∧Q (.int ns.sum) H
theorem vals_intAt:∀ {ns:List Int} {us:List Value},Vals (ns.map V.int) us→∀ (i:Nat) (v:Value),us[i]?=some v→∃ t,v=.int (ns.getD i 0) t:=by
  intro ns
  induction ns with
  | nil=>intro us r i v e;rw [List.map_nil] at r;cases r;simp at e
  | cons n ns ih =>
    intro us r i v e
    rw [List.map_cons] at r
    cases r with
    | cons r1 r2 =>
      cases i with
      | zero =>
        simp at e;subst e
        obtain ⟨t,z⟩:=r1
        exact ⟨t,by rw [z];simp⟩
      | succ i =>
        obtain ⟨t,z⟩:=ih r2 i v (by simpa using e)
        exact ⟨t,by rw [z];simp⟩
theorem call_sum {X:Cx} (hc:X.calm=true):CallR X (.builtin "sum") rSum:=by
  intro pins s σ H xs us Q I r h
  obtain ⟨a,ns,rfl,ha,q⟩:=h
  obtain ⟨u,rfl,ru⟩:=vals1 r
  cases ru
  obtain ⟨hz,its,n,v,e⟩:=I.hok a _ ha
  refine call_sum_walkAnyS (wpAny_pyIter_list (isL_of e) ?_)
  have hlt:=Heap.lt_size e
  refine ⟨s.heap.objs.size,_,_,_,_,_,_,fun i=>ns.getD i 0,rfl,(Walks.list (A:=X.A.in1) (by show X.A.handled=none;exact I.ok.hd hc) s.heap.objs.size a (Nat.ne_of_lt hlt) its.toArray).toS,⟨⟨_,Heap.get?_push_size _ rfl,rfl,rfl⟩,isL_of (Heap.get?_push_of_some _ e)⟩,?_,?_,fun s' t' mv=>?_⟩
  · intro b hb
    have hp:(s.heap.push { cls:=.type "list_iterator",data:=.fields #[.ref a,rawInt 0] }).objs.size=s.heap.objs.size+1:=Heap.size_push _ _
    rcases List.mem_cons.mp hb with z | z
    · subst z
      exact Heap.lt_size (Heap.get?_push_size _ rfl)
    · have z':b=a:=by simpa using z
      subst z'
      exact Heap.lt_size (Heap.get?_push_of_some _ e)
  · intro i v' hv
    exact vals_intAt v i v' (by simpa using hv)
  · have e1:its.toArray.size=ns.length:=by
      have:=v.length
      rw [List.length_map] at this
      simpa using this.symm
    rw [e1,preSum_getD]
    have e2:ns.take ns.length=ns:=List.take_length
    rw [e2]
    have k:∀ b o,s.heap.get? b=some o→s'.heap.get? b=some o:=fun b o eo=>mv.heap b o (by simp;exact Nat.ne_of_lt (Heap.lt_size eo)) (Heap.get?_push_of_some _ eo)
    obtain ⟨h',g',d',tk',os'⟩:=s'
    have z1:g'=s.gens:=mv.gens
    have z2:d'=s.drawn:=mv.drawn
    have z3:os'=s.os:=mv.os
    subst z1 z2 z3
    exact ⟨.int _,H,I.kept (h':=h') (t':=tk') k,⟨t',rfl⟩,q⟩
end L2
set_option Elab.async false
set_option linter.all false
set_option maxRecDepth 100000
namespace L2
open PySem PySem.Spec PyProof.Rows
theorem lookup_relabel (scope:Scope) (en:Env) (y:Str):(relabel scope en).names.lookup y=(scope.names.lookup y).map fun k=>if (k == NameKind.free && en.scope.kind == .function && en.kindOf y == some .cell)=true then .cell else k:=by
  show List.lookup y (scope.names.map fun (n,k)=>if (k == NameKind.free && en.scope.kind == .function && en.kindOf n == some .cell)=true then (n,NameKind.cell) else (n,k))=_
  generalize scope.names=l
  induction l with
  | nil=>rfl
  | cons p r ih =>
    obtain ⟨n,k⟩:=p
    rw [List.map_cons]
    by_cases hy:y=n
    · subst hy
      show List.lookup y ((if (k == NameKind.free && en.scope.kind == .function && en.kindOf y == some .cell)=true then (y,NameKind.cell) else (y,k)) :: _)=_
      by_cases hc:(k == NameKind.free && en.scope.kind == .function && en.kindOf y == some .cell)=true
      · rw [if_pos hc,List.lookup_cons,List.lookup_cons,beq_self_eq_true]
        show some NameKind.cell=some (if _ then _ else _)
        rw [if_pos hc]
      · rw [if_neg hc,List.lookup_cons,List.lookup_cons,beq_self_eq_true]
        show some k=some (if _ then _ else _)
        rw [if_neg hc]
    · have hb:(y == n)=false:=by simpa using hy
      show List.lookup y ((if (k == NameKind.free && en.scope.kind == .function && en.kindOf n == some .cell)=true then (n,NameKind.cell) else (n,k)) :: _)=_
      by_cases hc:(k == NameKind.free && en.scope.kind == .function && en.kindOf n == some .cell)=true
      · rw [if_pos hc,List.lookup_cons,List.lookup_cons,hb];exact ih
      · rw [if_neg hc,List.lookup_cons,List.lookup_cons,hb];exact ih
def okPair (scope:Scope) (p:Str × Str):Bool:=match scope.names.lookup p.1 with
  | none=>true
  | some .free=>p.1 == p.2
  | some .local=>false
  | some .cell=>false
  | some _=>true
theorem CompScope.of' {scope:Scope} {en:Env} {N M:List Str} (sc:Scope) (N₀:List Str) (hsc:en.scope=sc) (hN:N=N₀) (kind:scope.kind=.function) (nocell:∀ y∈scope.names,y.2≠.cell) (locs:∀ y∈scope.names,y.2=.local→scope.names.lookup y.1=some .local)
    (free:∀ y∈scope.names,y.2=.free→sc.names.lookup y.1=some .cell∨sc.names.lookup y.1=some .free) (len:M.length=N₀.length) (same:((M.zip N₀).all (okPair scope))=true):CompScope scope en N M:=by
  subst hsc hN
  refine ⟨kind,nocell,locs,fun y hy=>free _ hy rfl,len,fun j y e v=>?_,fun y h=>?_⟩
  · have hj:j < N.length:=by rw [←len];exact (List.getElem?_eq_some_iff.mp e).1
    have e2:N[j]?=some N[j]:=List.getElem?_eq_getElem hj
    have hm:(y,N[j])∈M.zip N:=by
      refine List.mem_iff_getElem?.mpr ⟨j,?_⟩
      rw [List.getElem?_zip_eq_some]
      exact ⟨e,e2⟩
    have q:=List.all_eq_true.mp same _ hm
    unfold okPair at q
    unfold Vis at v
    rw [lookup_relabel] at v ⊢
    cases hl:scope.names.lookup y with
    | none=>rw [hl] at v;simp at v
    | some k =>
      rw [hl] at v q
      simp only [Option.map_some] at v ⊢
      cases k with
      | free =>
        have z:y=N[j]:=by simpa using q
        refine ⟨by rw [e2,←z],PySem.mem_of_lookup hl,?_⟩
        split <;> simp
      | «local»=>simp at q
      | cell=>simp at q
      | _=>simp at v
  · rw [lookup_relabel] at h
    cases hl:scope.names.lookup y with
    | none=>rw [hl] at h;simp at h
    | some k =>
      rw [hl] at h
      have hm:=PySem.mem_of_lookup hl
      simp only [Option.map_some] at h
      cases k with
      | free=>exact hm
      | cell=>exact absurd rfl (nocell _ hm)
      | _=>simp at h
theorem CompScope.of {scope:Scope} {en:Env} {N M:List Str} (sc:Scope) (N₀:List Str) (hsc:en.scope=sc) (hN:N=N₀) (kind:scope.kind=.function) (nocell:∀ y∈scope.names,y.2≠.cell) (locs:∀ y∈scope.names,y.2=.local→scope.names.lookup y.1=some .local)
    (free:∀ y∈scope.names,y.2=.free→sc.names.lookup y.1=some .cell∨sc.names.lookup y.1=some .free) (len:M.length=N₀.length) (same:((M.zip N₀).all (okPair scope))=true):CompScope scope en N M:=CompScope.of' sc N₀ hsc hN kind nocell locs free len same
theorem hg_one {v:V} {σ:St} {H:Hp} {Q:St→Hp→Prop} (h:gName 0 v (List.replicate 1 none++σ) H Q):gName 0 v (List.replicate 1 none++σ) H fun σ2 H2=>(∃ l:St,l.length=1∧σ2=l++σ)∧Q σ2 H2 :=
  ⟨⟨[some v],rfl,rfl⟩,h⟩
theorem comp_range {lo:Int} {n:Nat} {k:Nat} {g:TG} {tc:TT} {te:TE} {σ:St} {H:Hp} {Q:VK} {d:Addr} (Pv:Nat→Hp→Prop) (h0:Pv 0 (upd H d (.lst [])))
    (hs:∀ i H,i < n→Pv i H→g (.int (lo+i)) (List.replicate k none++σ) H fun σ2 H2=>tc σ2 H2 fun b H3=>if b=true then te σ2 H3 fun y H4=>∃ ys,H4 d=some (.lst ys)∧ys.length < sizeLine∧Pv (i+1) (upd H4 d (.lst (ys++[y]))) else Pv (i+1) H3)
    (hd:∀ H,Pv n H→Q (.ref d) H) :
    ∃ W:Nat→Nat→Hp→Prop,(∃ m,W 0 m (upd H d (.lst [])))∧∀ i m H,W i m H →
      ((Itr lo n).stop i H∧Q (.ref d) H)∨((Itr lo n).go i H∧∃ N:Hp→Prop,(∀ H',N H'→∃ m',m' < m∧W (i+1) m' H')∧∀ x H',(Itr lo n).yld i H x H'→g x (List.replicate k none++σ) H' fun σ2 H2 =>
        tc σ2 H2 fun b H3=>if b=true then te σ2 H3 fun y H4=>∃ ys,H4 d=some (.lst ys)∧ys.length < sizeLine∧N (upd H4 d (.lst (ys++[y]))) else N H3):=by
  refine ⟨fun i m H=>m=n - i∧i≤n∧Pv i H,⟨n,by simp,Nat.zero_le _,h0⟩,?_⟩
  rintro i m H ⟨rfl,hi,p⟩
  by_cases hlt:i < n
  · refine .inr ⟨hlt,Pv (i+1),fun H' p'=>⟨n - (i+1),by omega,rfl,hlt,p'⟩,fun x H' y=>?_⟩
    obtain ⟨e,y⟩:=y
    subst e y
    exact hs i _ hlt p
  · have e:i=n:=by omega
    subst e
    exact .inl ⟨Nat.le_refl _,hd H p⟩
theorem comp_tup {K:PySem.W.Frag} {a:Addr} {xs:List V} {k:Nat} {g:TG} {tc:TT} {te:TE} {σ:St} {H:Hp} {Q:VK} {d:Addr} (Pv:Nat→Hp→Prop) (h0:Pv 0 (upd H d (.lst []))) (hl:∀ i H,i≤xs.length→Pv i H→SqT K H a xs)
    (hs:∀ i x H,xs[i]?=some x→Pv i H→g x (List.replicate k none++σ) H fun σ2 H2=>tc σ2 H2 fun b H3=>if b=true then te σ2 H3 fun y H4=>∃ ys,H4 d=some (.lst ys)∧ys.length < sizeLine∧Pv (i+1) (upd H4 d (.lst (ys++[y]))) else Pv (i+1) H3)
    (hd:∀ H,Pv xs.length H→Q (.ref d) H) :
    ∃ W:Nat→Nat→Hp→Prop,(∃ m,W 0 m (upd H d (.lst [])))∧∀ i m H,W i m H →
      ((Itt K a).stop i H∧Q (.ref d) H)∨((Itt K a).go i H∧∃ N:Hp→Prop,(∀ H',N H'→∃ m',m' < m∧W (i+1) m' H')∧∀ x H',(Itt K a).yld i H x H'→g x (List.replicate k none++σ) H' fun σ2 H2 =>
        tc σ2 H2 fun b H3=>if b=true then te σ2 H3 fun y H4=>∃ ys,H4 d=some (.lst ys)∧ys.length < sizeLine∧N (upd H4 d (.lst (ys++[y]))) else N H3):=by
  refine ⟨fun i m H=>m=xs.length - i∧i≤xs.length∧Pv i H,⟨xs.length,by simp,Nat.zero_le _,h0⟩,?_⟩
  rintro i m H ⟨rfl,hi,p⟩
  have q:=hl i H hi p
  by_cases hlt:i < xs.length
  · refine .inr ⟨⟨xs,xs[i],q,by simp [hlt]⟩,Pv (i+1),fun H' p'=>⟨xs.length - (i+1),by omega,rfl,hlt,p'⟩,fun x H' y=>?_⟩
    obtain ⟨e,y⟩:=y
    subst e
    exact hs i x _ (y xs q) p
  · have e:i=xs.length:=by omega
    subst e
    exact .inl ⟨⟨xs,q,Nat.le_refl _⟩,hd H p⟩
theorem comp_list {K:PySem.W.Frag} {a:Addr} {xs:List V} {k:Nat} {g:TG} {tc:TT} {te:TE} {σ:St} {H:Hp} {Q:VK} {d:Addr} (Pv:Nat→Hp→Prop) (h0:Pv 0 (upd H d (.lst []))) (hl:∀ i H,i≤xs.length→Pv i H→SqL K H a xs)
    (hs:∀ i x H,xs[i]?=some x→Pv i H→g x (List.replicate k none++σ) H fun σ2 H2=>tc σ2 H2 fun b H3=>if b=true then te σ2 H3 fun y H4=>∃ ys,H4 d=some (.lst ys)∧ys.length < sizeLine∧Pv (i+1) (upd H4 d (.lst (ys++[y]))) else Pv (i+1) H3)
    (hd:∀ H,Pv xs.length H→Q (.ref d) H) :
    ∃ W:Nat→Nat→Hp→Prop,(∃ m,W 0 m (upd H d (.lst [])))∧∀ i m H,W i m H →
      ((Itl K a).stop i H∧Q (.ref d) H)∨((Itl K a).go i H∧∃ N:Hp→Prop,(∀ H',N H'→∃ m',m' < m∧W (i+1) m' H')∧∀ x H',(Itl K a).yld i H x H'→g x (List.replicate k none++σ) H' fun σ2 H2 =>
        tc σ2 H2 fun b H3=>if b=true then te σ2 H3 fun y H4=>∃ ys,H4 d=some (.lst ys)∧ys.length < sizeLine∧N (upd H4 d (.lst (ys++[y]))) else N H3):=by
  refine ⟨fun i m H=>m=xs.length - i∧i≤xs.length∧Pv i H,⟨xs.length,by simp,Nat.zero_le _,h0⟩,?_⟩
  rintro i m H ⟨rfl,hi,p⟩
  have q:=hl i H hi p
  by_cases hlt:i < xs.length
  · refine .inr ⟨⟨xs,xs[i],q,by simp [hlt]⟩,Pv (i+1),fun H' p'=>⟨xs.length - (i+1),by omega,rfl,hlt,p'⟩,fun x H' y=>?_⟩
    obtain ⟨e,y⟩:=y
    subst e
    exact hs i x _ (y xs q) p
  · have e:i=xs.length:=by omega
    subst e
    exact .inl ⟨⟨xs,q,Nat.le_refl _⟩,hd H p⟩
theorem b_isi:bootBuiltins "isinstance"=some (.builtin "isinstance"):=by decide +kernel
theorem b_all:bootBuiltins "all"=some (.builtin "all"):=by decide +kernel
theorem b_sum:bootBuiltins "sum"=some (.builtin "sum"):=by decide +kernel
theorem b_min:bootBuiltins "min"=some (.builtin "min"):=by decide +kernel
theorem b_int:bootBuiltins "int"=some (.type "int"):=by decide +kernel
theorem b_bool:bootBuiltins "bool"=some (.type "bool"):=by decide +kernel
theorem b_list:bootBuiltins "list"=some (.type "list"):=by decide +kernel
theorem b_tuple:bootBuiltins "tuple"=some (.type "tuple"):=by decide +kernel
theorem kit_int_int (K:PySem.W.Frag):PySem.W.kitOne K (.type "int") (.type "int")=some true:=by rfl
theorem kit_int_bool (K:PySem.W.Frag):PySem.W.kitOne K (.type "int") (.type "bool")=some false:=by rfl
theorem PE.imp {X:Cx} {e:Expr} {t t':TE} (h:PE X e t) (hi:∀ σ H Q,t' σ H Q→t σ H Q):PE X e t':=fun pins s σ H Q I q=>h pins s σ H Q I (hi σ H Q q)
def turnC (tc:TT) (te:TE) (σ:St) (d:Addr) (x:V) (H:Hp) (Z:Hp→Prop):Prop :=
  tc (some x :: σ) H fun b H3=>if b=true then te (some x :: σ) H3 fun y H4=>∃ ys,H4 d=some (.lst ys)∧ys.length < sizeLine∧Z (upd H4 d (.lst (ys++[y]))) else Z H3
def tCompR1 (ta:TA) (tc:TT) (te:TE):TE:=fun σ H Q=>ta σ H fun vs H1=>∃ j:Int,vs=[.int j]∧-(2 ^ 62)≤j∧j < 2 ^ 62∧∀ d,H1 d=none →
  ∃ Pv:Nat→Hp→Prop,Pv 0 (upd H1 d (.lst []))∧(∀ i H,i < j.toNat→Pv i H→turnC tc te σ d (.int (0+i)) H (Pv (i+1)))∧∀ H,Pv j.toNat H→Q (.ref d) H
def tCompR2 (ta:TA) (tc:TT) (te:TE):TE:=fun σ H Q=>ta σ H fun vs H1=>∃ lo hi:Int,vs=[.int lo,.int hi]∧(-(2 ^ 62)≤lo∧lo < 2 ^ 62∧-(2 ^ 62)≤hi∧hi < 2 ^ 62)∧∀ d,H1 d=none →
  ∃ Pv:Nat→Hp→Prop,Pv 0 (upd H1 d (.lst []))∧(∀ i H,i < (hi - lo).toNat→Pv i H→turnC tc te σ d (.int (lo+i)) H (Pv (i+1)))∧∀ H,Pv (hi - lo).toNat H→Q (.ref d) H
def tCompL (K:PySem.W.Frag) (tl:TE) (tc:TT) (te:TE):TE:=fun σ H Q=>tl σ H fun v H1=>∃ a xs,v=.ref a∧SqL K H1 a xs∧∀ d,H1 d=none →
  ∃ Pv:Nat→Hp→Prop,Pv 0 (upd H1 d (.lst []))∧(∀ i H,i≤xs.length→Pv i H→SqL K H a xs)∧(∀ i x H,xs[i]?=some x→Pv i H→turnC tc te σ d x H (Pv (i+1)))∧∀ H,Pv xs.length H→Q (.ref d) H
def tCompT (K:PySem.W.Frag) (tl:TE) (tc:TT) (te:TE):TE:=fun σ H Q=>tl σ H fun v H1=>∃ a xs,v=.ref a∧SqT K H1 a xs∧∀ d,H1 d=none →
  ∃ Pv:Nat→Hp→Prop,Pv 0 (upd H1 d (.lst []))∧(∀ i H,i≤xs.length→Pv i H→SqT K H a xs)∧(∀ i x H,xs[i]?=some x→Pv i H→turnC tc te σ d x H (Pv (i+1)))∧∀ H,Pv xs.length H→Q (.ref d) H
def MonoE (t:TE):Prop:=∀ σ H (Q Q':VK),(∀ v H1,Q v H1→Q' v H1)→t σ H Q→t σ H Q'
def MonoA (t:TA):Prop:=∀ σ H (Q Q':List V→Hp→Prop),(∀ v H1,Q v H1→Q' v H1)→t σ H Q→t σ H Q'
section
variable {X:Cx} {elt iter:Expr} {tg:Str} {tp:Pos} {cs:List Expr} {scope:Scope} {pos:Pos} {tc:TT} {te:TE} {M:List Str}
abbrev Inner (X:Cx) (scope:Scope) (tg:Str) (M:List Str) (cs:List Expr) (elt:Expr) (tc:TT) (te:TE):Prop :=
  ∀ (cl:List (Str × Addr)) (C:Addr) (s0:Shared) (H0:Hp) (fp:List Addr),PTs (cxC X scope cl C s0 H0 fp (tg :: M)) cs tc∧PE (cxC X scope cl C s0 H0 fp (tg :: M)) elt te
theorem pe_compG {wi:TI} {t:TE} (hc:X.calm=true) (S:CompScope scope X.env X.N M) (nd:(tg :: M).Nodup) (hl:scope.names.lookup tg=some .local) (hi:PI X (.Name tg tp) iter wi) (hin:Inner X scope tg M cs elt tc te)
    (ht:∀ σ H Q,t σ H Q→tComp 1 wi (gName 0) tc te σ H Q) (hs:∀ x,foldedSetIterable iter X.env x=pure x):PE X (.ListComp elt [⟨.Name tg tp,iter,cs,0⟩] scope pos) t:=by
  have hx:(relabel scope X.env).names.lookup tg=some .local:=by
    rw [lookup_relabel,hl]
    rfl
  exact PE.imp (pe_comp (xs:=[tg]) (M:=M) hc S hi (fun cl C s0 H0 fp=>⟨pg_name (i:=0) nd rfl (Or.inl hx) (Or.inr hx),hin cl C s0 H0 fp⟩) (fun v σ H Q h=>hg_one h) hs) ht
theorem pe_compR1 {a:Expr} {ta:TA} {p pos':Pos} (hc:X.calm=true) (S:CompScope scope X.env X.N M) (nd:(tg :: M).Nodup) (hl:scope.names.lookup tg=some .local) (hg:Gl X "range") (hm:X.mg "range"=none) (ha:PA X [a] ta) (mo:MonoA ta)
    (hin:Inner X scope tg M cs elt tc te) (hs:starEach [a] X.env=[(false,eval a X.env)]:=by rfl) (hf:∀ x,foldedSetIterable (.Call (.Name "range" p) [a] [] pos') X.env x=pure x:=by intro _;rfl) :
    PE X (.ListComp elt [⟨.Name tg tp,.Call (.Name "range" p) [a] [] pos',cs,0⟩] scope pos) (tCompR1 ta tc te):=by
  refine pe_compG hc S nd hl (pi_range1 hg hm ha hs) hin (fun σ H Q h=>?_) hf
  refine mo σ H _ _ (fun vs H1 q=>?_) h
  obtain ⟨j,e,j1,j2,q⟩:=q
  refine ⟨j,e,j1,j2,fun d hd=>?_⟩
  obtain ⟨Pv,h0,hs,hd⟩:=q d hd
  exact comp_range (k:=1) (g:=gName 0) Pv h0 hs hd
theorem pe_compR2 {a b:Expr} {ta:TA} {p pos':Pos} (hc:X.calm=true) (S:CompScope scope X.env X.N M) (nd:(tg :: M).Nodup) (hl:scope.names.lookup tg=some .local) (hg:Gl X "range") (hm:X.mg "range"=none) (ha:PA X [a,b] ta) (mo:MonoA ta)
    (hin:Inner X scope tg M cs elt tc te) (hs:starEach [a,b] X.env=[(false,eval a X.env),(false,eval b X.env)]:=by rfl) (hs2:starEach [b] X.env=[(false,eval b X.env)]:=by rfl) (hf:∀ x,foldedSetIterable (.Call (.Name "range" p) [a,b] [] pos') X.env x=pure x:=by intro _;rfl) :
    PE X (.ListComp elt [⟨.Name tg tp,.Call (.Name "range" p) [a,b] [] pos',cs,0⟩] scope pos) (tCompR2 ta tc te):=by
  refine pe_compG hc S nd hl (pi_range2 hg hm ha hs hs2) hin (fun σ H Q h=>?_) hf
  refine mo σ H _ _ (fun vs H1 q=>?_) h
  obtain ⟨lo,hi,e,j1,q⟩:=q
  refine ⟨lo,hi,e,j1,fun d hd=>?_⟩
  obtain ⟨Pv,h0,hs,hd⟩:=q d hd
  exact comp_range (k:=1) (g:=gName 0) Pv h0 hs hd
theorem pe_compL {tl:TE} (hc:X.calm=true) (S:CompScope scope X.env X.N M) (nd:(tg :: M).Nodup) (hl:scope.names.lookup tg=some .local) (hi:PE X iter tl) (mo:MonoE tl)
    (hin:Inner X scope tg M cs elt tc te) (hf:∀ x,foldedSetIterable iter X.env x=pure x:=by intro _;rfl):PE X (.ListComp elt [⟨.Name tg tp,iter,cs,0⟩] scope pos) (tCompL X.K tl tc te):=by
  refine pe_compG hc S nd hl (pi_list hi) hin (fun σ H Q h=>?_) hf
  refine mo σ H _ _ (fun v H1 q=>?_) h
  obtain ⟨a,xs,e,j1,q⟩:=q
  refine ⟨a,e,⟨xs,j1⟩,fun d hd=>?_⟩
  obtain ⟨Pv,h0,hl,hs,hd⟩:=q d hd
  exact comp_list (k:=1) (g:=gName 0) Pv h0 hl hs hd
theorem pe_compT {tl:TE} (hc:X.calm=true) (S:CompScope scope X.env X.N M) (nd:(tg :: M).Nodup) (hl:scope.names.lookup tg=some .local) (hi:PE X iter tl) (mo:MonoE tl)
    (hin:Inner X scope tg M cs elt tc te) (hf:∀ x,foldedSetIterable iter X.env x=pure x:=by intro _;rfl):PE X (.ListComp elt [⟨.Name tg tp,iter,cs,0⟩] scope pos) (tCompT X.K tl tc te):=by
  refine pe_compG hc S nd hl (pi_tup hi) hin (fun σ H Q h=>?_) hf
  refine mo σ H _ _ (fun v H1 q=>?_) h
  obtain ⟨a,xs,e,j1,q⟩:=q
  refine ⟨a,e,⟨xs,j1⟩,fun d hd=>?_⟩
  obtain ⟨Pv,h0,hl,hs,hd⟩:=q d hd
  exact comp_tup (k:=1) (g:=gName 0) Pv h0 hl hs hd
theorem ps_compG {wi:TI} {t:TE} {i:Nat} {x:Str} {pos1 spos:Pos} (hc:X.calm=true) (S:CompScope scope X.env X.N M) (nd:(tg :: M).Nodup) (hl:scope.names.lookup tg=some .local) (hi:PI X (.Name tg tp) iter wi) (hin:Inner X scope tg M cs elt tc te)
    (ht:∀ σ H Q,t σ H Q→tComp 1 wi (gName 0) tc te σ H Q) (hN:X.N.Nodup) (hix:X.N[i]?=some x) (hx:X.env.scope.names.lookup x=some .local) (hw:swapsWith (.ListComp elt [⟨.Name tg tp,iter,cs,0⟩] scope pos) (some (.Name x pos1)) spos.line X.env=pure true) (hs:∀ x,foldedSetIterable iter X.env x=pure x) :
    PS X (.Assign [.Name x pos1] (.ListComp elt [⟨.Name tg tp,iter,cs,0⟩] scope pos) spos) (tAsg t (gName i)):=by
  have hx':(relabel scope X.env).names.lookup tg=some .local:=by
    rw [lookup_relabel,hl]
    rfl
  intro pins s σ H D I h
  exact ps_comp (xs:=[tg]) (M:=M) hc S hi (fun cl C s0 H0 fp=>⟨pg_name (i:=0) nd rfl (Or.inl hx') (Or.inr hx'),hin cl C s0 H0 fp⟩) (fun v σ H Q h=>hg_one h) hN hix hx hw hs pins s σ H D I (ht _ _ _ h)
theorem ps_compR1 {a:Expr} {ta:TA} {p pos' pos1 spos:Pos} {i:Nat} {x:Str} (hN:X.N.Nodup) (hix:X.N[i]?=some x) (hx:X.env.scope.names.lookup x=some .local) (hc:X.calm=true) (S:CompScope scope X.env X.N M) (nd:(tg :: M).Nodup) (hl:scope.names.lookup tg=some .local) (hg:Gl X "range") (hm:X.mg "range"=none) (ha:PA X [a] ta) (mo:MonoA ta)
    (hin:Inner X scope tg M cs elt tc te) (hw:swapsWith (.ListComp elt [⟨.Name tg tp,.Call (.Name "range" p) [a] [] pos',cs,0⟩] scope pos) (some (.Name x pos1)) spos.line X.env=pure true:=by rfl)
    (hs:starEach [a] X.env=[(false,eval a X.env)]:=by rfl) (hf:∀ x,foldedSetIterable (.Call (.Name "range" p) [a] [] pos') X.env x=pure x:=by intro _;rfl) :
    PS X (.Assign [.Name x pos1] (.ListComp elt [⟨.Name tg tp,.Call (.Name "range" p) [a] [] pos',cs,0⟩] scope pos) spos) (tAsg (tCompR1 ta tc te) (gName i)):=by
  refine ps_compG hc S nd hl (pi_range1 hg hm ha hs) hin (fun σ H Q h=>?_) hN hix hx hw hf
  refine mo σ H _ _ (fun vs H1 q=>?_) h
  obtain ⟨j,e,j1,j2,q⟩:=q
  refine ⟨j,e,j1,j2,fun d hd=>?_⟩
  obtain ⟨Pv,h0,hs,hd⟩:=q d hd
  exact comp_range (k:=1) (g:=gName 0) Pv h0 hs hd
end
theorem turn_all {te:TE} {σ:St} {d:Addr} {x:V} {H:Hp} {Z:Hp→Prop} (h:te (some x :: σ) H fun y H4=>∃ ys,H4 d=some (.lst ys)∧ys.length < sizeLine∧Z (upd H4 d (.lst (ys++[y])))):turnC tTrue te σ d x H Z:=by
  unfold turnC tTrue
  exact iteT h
theorem mo_var {i:Nat}:MonoE (tVar i):=fun _ _ _ _ h ⟨v,e,q⟩=>⟨v,e,h _ _ q⟩
theorem mo_c {v:V}:MonoE (tC v):=fun _ _ _ _ h q=>h _ _ q
theorem mo_nil:MonoA tNil:=fun _ _ _ _ h q=>h _ _ q
theorem mo_cons {te:TE} {ta:TA} (h1:MonoE te) (h2:MonoA ta):MonoA (tCons te ta):=fun σ H Q Q' h q=>h1 σ H _ _ (fun v H1 q1=>h2 σ H1 _ _ (fun vs H2 q2=>h _ _ q2) q1) q
theorem mo_op {r:R2} {ta tb:TE} (hr:∀ x y H (Q Q':VK),(∀ v H1,Q v H1→Q' v H1)→r x y H Q→r x y H Q') (h1:MonoE ta) (h2:MonoE tb):MonoE (tOp r ta tb):=fun σ H Q Q' h q =>
  h1 σ H _ _ (fun v H1 q1=>h2 σ H1 _ _ (fun u H2 q2=>hr _ _ _ _ _ h q2) q1) q
theorem mo_rI0 {g:Int→Int→V}:∀ x y H (Q Q':VK),(∀ v H1,Q v H1→Q' v H1)→rI0 g x y H Q→rI0 g x y H Q':=fun _ _ _ _ _ h ⟨i,j,e1,e2,q⟩=>⟨i,j,e1,e2,h _ _ q⟩
theorem mo_len {K:PySem.W.Frag} {ta:TA} (h1:MonoA ta):MonoE (tCB (fun xs H Q=>∃ p ys,xs=[.ref p]∧(SqL K H p ys∨SqT K H p ys)∧Q (.int (ys.length:Nat)) H) ta):=fun σ H Q Q' h q =>
  h1 σ H _ _ (fun vs H1 ⟨p,ys,e,s,q1⟩=>⟨p,ys,e,s,h _ _ q1⟩) q
end L2
set_option Elab.async false
set_option linter.all false
set_option maxRecDepth 100000
namespace L2
open PySem PySem.Spec PyProof.Rows
abbrev TW (H:Hp) (a:Addr) (ns:List Int):Prop:=H a=some (.tup (ns.map V.int))
abbrev Wd (H:Hp) (x:V) (w:List Int):Prop:=RTup H RInt x w
abbrev Ws (H:Hp) (xs:List V) (ws:List (List Int)):Prop:=Paired (RTup H RInt) xs ws
theorem Wd.ti {H:Hp} {x:V} {w:List Int} (h:Wd H x w):∃ a,x=.ref a∧TW H a w:=by
  obtain ⟨a,xs,rfl,e,p⟩:=h
  exact ⟨a,rfl,by show H a=_;rw [e,Paired.ofInts p]⟩
theorem Wd.of {H:Hp} {a:Addr} {w:List Int} (h:TW H a w):Wd H (.ref a) w:=rtup_ints h
theorem Wd.same {H H':Hp} {x:V} {w:List Int} (sm:Same H H') (h:Wd H x w):Wd H' x w:=by
  obtain ⟨a,xs,rfl,e,p⟩:=h
  exact ⟨a,xs,rfl,sm _ _ e,p⟩
theorem Ws.same {H H':Hp} {xs:List V} {ws:List (List Int)} (sm:Same H H') (h:Ws H xs ws):Ws H' xs ws:=Paired.mapP h fun _ _ q=>Wd.same sm q
section
variable {α β:Type} {R:α→β→Prop}
theorem Paired.takeP:∀ {xs:List α} {ds:List β} (n:Nat),Paired R xs ds→Paired R (xs.take n) (ds.take n)
  | _,_,0,_=>by rw [List.take_zero,List.take_zero];exact .nil
  | _,_,_+1,.nil=>.nil
  | _,_,n+1,.cons r t=>.cons r (Paired.takeP n t)
theorem Paired.dropP:∀ {xs:List α} {ds:List β} (n:Nat),Paired R xs ds→Paired R (xs.drop n) (ds.drop n)
  | _,_,0,r=>r
  | _,_,_+1,.nil=>.nil
  | _,_,n+1,.cons _ t=>Paired.dropP n t
theorem Paired.appendP:∀ {xs ys:List α} {ds es:List β},Paired R xs ds→Paired R ys es→Paired R (xs++ys) (ds++es)
  | _,_,_,_,.nil,s=>s
  | _,_,_,_,.cons r t,s=>.cons r (Paired.appendP t s)
theorem Paired.eraseP:∀ {xs:List α} {ds:List β} (n:Nat),Paired R xs ds→Paired R (xs.eraseIdx n) (ds.eraseIdx n)
  | _,_,_,.nil=>.nil
  | _,_,0,.cons _ t=>t
  | _,_,n+1,.cons r t=>.cons r (Paired.eraseP n t)
theorem Paired.left_of:∀ {xs:List α} {ds:List β},Paired R xs ds→∀ (j:Nat) (d:β),ds[j]?=some d→∃ x,xs[j]?=some x∧R x d
  | _,_,.nil,j,x,e=>by simp at e
  | _,_,.cons r t,0,x,e=>by simp at e;subst e;exact ⟨_,rfl,r⟩
  | _,_,.cons r t,j+1,x,e=>by
    obtain ⟨d,e1,e2⟩:=Paired.left_of t j x (by simpa using e)
    exact ⟨d,by simpa using e1,e2⟩
end
theorem at_nat {xs:List V} {i:Nat} {x:V} (h:xs[i]?=some x):atI xs (i:Int)=some x:=atI_nat h
theorem at_int {ns:List Int} {k:Nat} {x:Int} (h:ns[k]?=some x):atI (ns.map V.int) (k:Int)=some (.int x):=atI_nat (by rw [List.getElem?_map,h];rfl)
theorem hu4 {A:Around} {k:Nat} (hr:Room k A):A.units+4 < cLine:=by have:=hr.units;omega
theorem small {n:Nat} (h:n≤1000):n≤sizeLine:=Nat.le_of_lt (small1000 h)
theorem cut_to (xs:List V) (n:Nat):cutV xs none (some (n:Int))=xs.take n:=by
  unfold cutV
  rw [HT.sIx_nat,HT.sIx_none]
  simp [List.take_eq_take_iff]
theorem same_upd {H H1:Hp} {d:Addr} {o:HO} (h:H d=none) (sm:Same H H1):Same H (upd H1 d o):=fun b u q=>by rw [upd_ne (ne_of_none q h)];exact sm b u q
structure Fns (P:Program) (w:World) (K:PySem.W.Frag) (mg:Str→Option Value) (base:Heap) (ps:List Str) (name:Str) (sp:Sp) (k:Nat) where
  g:Addr
  gd:FuncData
  ok:FnOk P w K mg base CX0 k g gd ps sp
  b:Binds K gd ps []
  kp:PySem.W.keepIn K (.ref g)=true
  m:mg name=some (.ref g)
def Fns.up {P:Program} {w:World} {K:PySem.W.Frag} {mg:Str→Option Value} {base:Heap} {ps:List Str} {name:Str} {sp:Sp} {j k:Nat} (f:Fns P w K mg base ps name sp j) (h:j≤k):Fns P w K mg base ps name sp k:=⟨f.g,f.gd,f.ok.mono h,f.b,f.kp,f.m⟩
end L2
set_option Elab.async false
set_option linter.all false
set_option maxRecDepth 100000
namespace L2
open PySem PySem.Spec PyProof.Rows
def tMid (t:TS):TS:=fun D σ H=>∃ Mid:St→Hp→Prop,t { D with nx:=Mid } σ H∧∀ σ' H',Mid σ' H'→D.nx σ' H'
theorem ps_mid {X:Cx} {st:Stmt} {t:TS} (h:PS X st t):PS X st (tMid t):=by
  intro pins s σ H D I ⟨Mid,h1,h2⟩
  refine thn (h pins s σ H _ I h1) fun fl s' q=>?_
  cases fl with
  | next=>obtain ⟨σ',H',I',m⟩:=q;exact ⟨σ',H',I',h2 _ _ m⟩
  | brk=>exact q
  | cont=>exact q
  | ret u=>exact q
def eMid (t:TE):TE:=fun σ H Q=>∃ Mid:V→Hp→Prop,t σ H Mid∧∀ v H',Mid v H'→Q v H'
theorem pe_mid {X:Cx} {e:Expr} {t:TE} (h:PE X e t):PE X e (eMid t):=by
  intro pins s σ H Q I ⟨Mid,h1,h2⟩
  exact thn (h pins s σ H _ I h1) fun u s' ⟨v,H',I',r,m⟩=>⟨v,H',I',r,h2 _ _ m⟩
theorem mo_mid {t:TE}:MonoE (eMid t):=fun σ H Q Q' h ⟨Mid,h1,h2⟩=>⟨Mid,h1,fun v H' m=>h _ _ (h2 v H' m)⟩
theorem ixL {X:Cx} (K:PySem.W.Frag) (h:X.K=K:=by rfl):IxR X (rIxL K):=by subst h;exact ix_list
theorem ixT {X:Cx} (K:PySem.W.Frag) (h:X.K=K:=by rfl):IxR X (rIxT K):=by subst h;exact ix_tup
def rTupleOf (K:PySem.W.Frag):List V→Hp→VK→Prop:=fun xs H Q=>∃ p ys,xs=[.ref p]∧((SqL K H p ys∧∀ l,H l=none→Q (.ref l) (upd H l (.tup ys)))∨(SqT K H p ys∧Q (.ref p) H))
theorem tupleK {X:Cx} (K:PySem.W.Frag) (h:X.K=K:=by rfl):CallR X (.type "tuple") (rTupleOf K):=by subst h;exact call_tuple_of
theorem Wd.upd {H:Hp} {l:Addr} {ls ls':List V} {x:V} {w:List Int} (hl:H l=some (.lst ls)) (h:Wd H x w):Wd (upd H l (.lst ls')) x w:=by
  obtain ⟨a,xs,rfl,e,p⟩:=h
  exact ⟨a,xs,rfl,by rw [upd_ne (ne_of e hl (by intro z;cases z))];exact e,p⟩
theorem Ws.upd {H:Hp} {l:Addr} {ls ls' xs:List V} {ws:List (List Int)} (hl:H l=some (.lst ls)) (h:Ws H xs ws):Ws (upd H l (.lst ls')) xs ws:=Paired.mapP h fun _ _ q=>Wd.upd hl q
section
variable {X:Cx} {elt iter:Expr} {tg:Str} {tp:Pos} {cs:List Expr} {scope:Scope} {pos:Pos} {tc:TT} {te:TE} {M:List Str}
end
end L2
set_option Elab.async false
set_option linter.all false
set_option maxRecDepth 100000
namespace L2
open PySem PySem.Spec PyProof.Rows
def ExcAt (h:Heap) (e:Addr) (cls:Value) (od:Option Addr) (hd:Value):Prop:=∃ oe vs,h.get? e=some oe∧oe.cls=cls∧oe.dict=od∧oe.data=.fields vs∧vs[1]?=some hd
def TbAt (h:Heap) (T:Addr) (fl:Value):Prop:=∃ oT ts,h.get? T=some oT∧oT.data=.fields ts∧ts[3]?=some fl
def Mv (S fs:List Addr) (h h':Heap):Prop:=∀ b o,h.get? b=some o→b∉S→(b∉fs→h'.get? b=some o)∧∃ sl,h'.get? b=some { o with slots:=sl }
section
variable {S S' fs:List Addr} {h h1 h2:Heap}
theorem Mv.refl:Mv S fs h h:=fun _ o e _=>⟨fun _=>e,o.slots,e⟩
theorem Mv.trans (a:Mv S fs h h1) (b:Mv S fs h1 h2):Mv S fs h h2:=fun c o e n=>by
  obtain ⟨k,sl,e1⟩:=a c o e n
  obtain ⟨_,sl2,e2⟩:=b c _ e1 n
  exact ⟨fun nf=>(b c o (k nf) n).1 nf,sl2,e2⟩
theorem Mv.mono (a:Mv S fs h h1) (hs:∀ b∈S,b∈S'):Mv S' fs h h1:=fun b o e n=>a b o e fun z=>n (hs b z)
theorem Mv.frames (a:Mv S fs h h1) {base:Heap} {l:List Env} (hl:h.FunFrames base l) (hS:∀ b∈S,∀ o,h.get? b=some o→∃ vs,o.data=.fields vs):h1.FunFrames base l :=
  hl.of_keeps fun b o hb hn=>by
    obtain ⟨_,sl,e⟩:=a b o hb fun z=>by
      obtain ⟨vs,q⟩:=hS b z o hb
      exact hn vs q
    exact ⟨_,e,rfl⟩
end
theorem dict_mapFields (f:Array Value→Array Value) (o:Obj):(Obj.mapFields f o).dict=o.dict:=by
  obtain ⟨c,d,dt,sl⟩:=o
  cases dt <;> rfl
section
variable {M:Model} {A:Around} {E:Value→Shared→Prop} {s:Shared} {env:Env} {outer:List Env} {base:Heap} {L e T:Addr} {cls hd fl head:Value} {od:Option Addr} {S:List Addr} {Q:Unit→Shared→Prop}
theorem entry_add {hadNext:Bool} (hfr:A.frames=some (env :: outer)) (hl:s.heap.FunFrames base (env :: outer)) (hf:env.frame=some L) (x:ExcAt s.heap e cls od hd)
    (h:∀ h' T,Mv [e] (frs (env :: outer)) s.heap h'→s.heap.objs.size≤T→T≠e→ExcAt h' e cls od (.ref T)→TbAt h' T (rawInt L)→Q () { s with heap:=h' }) :
    wpAny M A (do let a ←frameOf env;let pl ←entryPlaceOf L hadNext;let b ←EntryCells.newEntry head a .none (rawInt L) .none pl;setField (.ref e) 1 b) Q E s:=by
  obtain ⟨oe,vs,he,hc,hdd,hd1,h1⟩:=x
  have hsz:1 < vs.size:=(Array.getElem?_eq_some_iff.mp h1).1
  have ne:e∉frs (env :: outer):=fun hm=>by
    obtain ⟨_,o,ho,hn⟩:=hl.mem hm
    rw [he] at ho
    cases ho
    exact hn vs hd1
  refine wpAny_bind (wpAny_frameOf_fun hfr hl hf fun g so=>?_)
  refine wpAny_bind (wpAny_entryPlaceOf fun pl hp=>?_)
  unfold EntryCells.newEntry newFields
  refine wpAny_bind (wpAny_newObj_type ?_ (hp.sizeOk5 _ _ _ _ _))
  have e1:g.get? e=some oe:=(so.2.1 e ne).trans he
  have hTe:g.objs.size≠e:=Nat.ne_of_gt (Heap.lt_size e1)
  have t3:([head,.ref L,.none,rawInt L,.none]++(if pl.isEmpty then List.replicate 6 Value.none else pl)).toArray[3]?=some (rawInt L):=by simp
  generalize ([head,.ref L,.none,rawInt L,.none]++(if pl.isEmpty then List.replicate 6 Value.none else pl)).toArray=ts at t3 ⊢
  have e2:=Heap.get?_push_of_some (h:=g) { cls:=.type "traceback",dict:=none,data:=.fields ts } e1
  refine wpAny_setField e2 hd1 hsz (h _ g.objs.size (fun b o hb hn=>?_) (by rw [so.1];exact Nat.le_refl _) hTe ?_ ?_)
  · have hbe:b≠e:=fun z=>hn (by rw [z];exact List.mem_cons_self)
    have mv:∀ o',g.get? b=some o'→((g.push { cls:=.type "traceback",dict:=none,data:=.fields ts }).update e (Obj.mapFields (·.setIfInBounds 1 (Value.ref g.objs.size)))).get? b=some o':=fun o' q=>by
      rw [Heap.get?_update_other _ _ (Ne.symm hbe)]
      exact Heap.get?_push_of_some _ q
    obtain ⟨sl,q⟩:=so.2.2 b o hb
    exact ⟨fun nf=>mv o ((so.2.1 b nf).trans hb),sl,mv _ q⟩
  · exact ⟨_,_,Heap.get?_update_self _ e2 (Obj.isFreed_of_fields (Obj.data_mapFields hd1 _)),(Obj.cls_mapFields _ _).trans hc,(dict_mapFields _ _).trans hdd,Obj.data_mapFields hd1 _,by simp [hsz]⟩
  · refine ⟨{ cls:=.type "traceback",dict:=none,data:=.fields ts },ts,?_,rfl,t3⟩
    rw [Heap.get?_update_other _ _ (Ne.symm hTe)]
    exact Heap.get?_push_size g rfl
def Loose (h:Heap) (e:Addr) (cls:Value) (od:Option Addr) (S:List Addr):Prop :=
  e∈S∧(∀ b∈S,∀ o,h.get? b=some o→∃ vs,o.data=.fields vs)∧∃ hd,ExcAt h e cls od hd∧(hd=.none∨∃ T,T∈S∧hd=.ref T∧T≠e∧TbAt h T .none)
theorem tb_set {x:Value} (t:TbAt s.heap T fl) (h:∀ h',h'.objs.size=s.heap.objs.size→TbAt h' T x→(∀ b,b≠T→h'.get? b=s.heap.get? b)→Q () { s with heap:=h' }):wpAny M A (setField (.ref T) 3 x) Q E s:=by
  obtain ⟨oT,ts,hT,hdT,h3⟩:=t
  have hsz:3 < ts.size:=(Array.getElem?_eq_some_iff.mp h3).1
  exact wpAny_setField hT hdT hsz (h _ (Heap.size_after_update ..) ⟨_,_,Heap.get?_update_self _ hT (Obj.isFreed_of_fields (Obj.data_mapFields hdT _)),Obj.data_mapFields hdT _,by simp [hsz]⟩ fun b hb=>Heap.get?_update_other _ _ (Ne.symm hb))
theorem ExcAt.other {h h':Heap} (x:ExcAt h e cls od hd) (k:h'.get? e=h.get? e):ExcAt h' e cls od hd:=by
  obtain ⟨oe,vs,he,r⟩:=x
  exact ⟨oe,vs,k.trans he,r⟩
theorem note_ex (hfr:A.frames=some (env :: outer)) (hl:s.heap.FunFrames base (env :: outer)) (hf:env.frame=some L) (lo:Loose s.heap e cls od S)
    (h:∀ h' T,Mv S (frs (env :: outer)) s.heap h'→s.heap.objs.size≤T→T≠e→ExcAt h' e cls od (.ref T)→TbAt h' T (rawInt L)→Q () { s with heap:=h' }):wpAny M A (noteFrame (.ref e) env) Q E s:=by
  obtain ⟨heS,hSf,hd,x,hh⟩:=lo
  unfold noteFrame
  simp only [hf]
  obtain ⟨oe,vs,he,hc,hdd,hd1,h1⟩:=id x
  refine wpAny_bind (wpAny_field he hd1 h1 ?_)
  rcases hh with rfl | ⟨T,hTS,rfl,hTe,tb⟩
  · rw [if_neg (by decide)]
    exact entry_add hfr hl hf x fun h' T m hs hT x' t'=>h h' T (m.mono fun b hb=>by rw [List.mem_singleton.mp hb];exact heS) hs hT x' t'
  · rw [if_pos (show (Value.ref T != Value.none)=true from by simp)]
    obtain ⟨oT,ts,hT,hdT,h3⟩:=id tb
    refine wpAny_bind (wpAny_field hT hdT h3 ?_)
    rw [if_neg (show ¬ ((Value.none == rawInt L)=true) from by simp [rawInt])]
    refine wpAny_bind (tb_set tb fun g m1 t1 k1=>?_)
    have m2:Mv S (frs (env :: outer)) s.heap g:=fun b o hb hn=>by
      have hbT:b≠T:=fun z=>hn (by rw [z];exact hTS)
      have q:=(k1 b hbT).trans hb
      exact ⟨fun _=>q,o.slots,q⟩
    refine entry_add (s:={ s with heap:=g }) hfr (m2.frames hl hSf) hf (x.other (k1 e (Ne.symm hTe))) fun h' T' m hs hT' x' t'=>?_
    exact h h' T' (m2.trans (m.mono fun b hb=>by rw [List.mem_singleton.mp hb];exact heS)) (by rw [←m1];exact hs) hT' x' t'
theorem flight_ex (x:ExcAt s.heap e cls od (.ref T)) (t:TbAt s.heap T fl) (hTe:T≠e) (h:∀ h',h'.objs.size=s.heap.objs.size→ExcAt h' e cls od (.ref T)→TbAt h' T .none→(∀ b,b≠T→h'.get? b=s.heap.get? b)→Q () { s with heap:=h' }) :
    wpAny M A (setFlight (.ref e) none) Q E s:=by
  obtain ⟨oe,vs,he,hc,hdd,hd1,h1⟩:=id x
  unfold setFlight
  refine wpAny_bind (wpAny_field he hd1 h1 ?_)
  rw [if_pos (show (Value.ref T != Value.none)=true from by simp)]
  exact tb_set t fun g m1 t1 k1=>h g m1 (x.other (k1 e (Ne.symm hTe))) t1 k1
theorem loose_of {h:Heap} (x:ExcAt h e cls od (.ref T)) (t:TbAt h T .none) (hT:T≠e):Loose h e cls od [T,e]:=by
  refine ⟨List.mem_cons_of_mem _ List.mem_cons_self,fun b hb o ho=>?_,.ref T,x,.inr ⟨T,List.mem_cons_self,rfl,hT,t⟩⟩
  rcases List.mem_cons.mp hb with hb | hb
  · obtain ⟨oT,ts,q,hd,_⟩:=t
    rw [hb,q] at ho
    cases ho
    exact ⟨ts,hd⟩
  · obtain ⟨oe,vs,q,_,_,hd,_⟩:=x
    rw [List.mem_singleton.mp hb,q] at ho
    cases ho
    exact ⟨vs,hd⟩
theorem land_ex (hfr:A.frames=some (env :: outer)) (hl:s.heap.FunFrames base (env :: outer)) (hf:env.frame=some L) (lo:Loose s.heap e cls od S)
    (h:∀ h' T,Mv S (frs (env :: outer)) s.heap h'→s.heap.objs.size≤T→T≠e→ExcAt h' e cls od (.ref T)→TbAt h' T .none→Q () { s with heap:=h' }) :
    wpAny M A (noteFrame (.ref e) env) (fun _ s1=>wpAny M A (setFlight (.ref e) none) Q E s1) E s:=by
  refine note_ex hfr hl hf lo fun g T m hs hT x t=>?_
  refine flight_ex (s:={ s with heap:=g }) x t hT fun h' m1 x' t' k1=>?_
  have mm:Mv S (frs (env :: outer)) s.heap h':=fun b o hb hn=>by
    have hbT:b≠T:=Nat.ne_of_lt (Nat.lt_of_lt_of_le (Heap.lt_size hb) hs)
    obtain ⟨q1,sl,q2⟩:=m b o hb hn
    exact ⟨fun nf=>(k1 b hbT).trans (q1 nf),sl,(k1 b hbT).trans q2⟩
  exact h h' T mm hs hT x' t'
theorem leave_ex (hfr:A.frames=some (env :: outer)) (hl:s.heap.FunFrames base (env :: outer)) (hf:env.frame=some L) (lo:Loose s.heap e cls od S)
    (h:∀ h' T,Mv S (frs (env :: outer)) s.heap h'→s.heap.objs.size≤T→Loose h' e cls od [T,e]→Q () { s with heap:=h' }):wpAny M A (leaving env (.ref e)) Q E s:=by
  unfold leaving
  exact wpAny_bind (land_ex hfr hl hf lo fun h' T m hs hT x t=>h h' T m hs (loose_of x t hT))
end
theorem ObjOk.obj {P:Program} {w:World} {H:Hp} {h:Heap} {a:Addr} {o:HO} (x:ObjOk P w H h a o):∃ ob,h.get? a=some ob:=by
  cases o with
  | lst xs=>obtain ⟨_,_,_,_,e⟩:=x;exact ⟨_,e⟩
  | tup xs=>obtain ⟨_,_,_,ob,e,_⟩:=x;exact ⟨_,e⟩
  | dK kvs=>obtain ⟨_,_,_,_,ob,_,_,e,_⟩:=x;exact ⟨_,e⟩
  | dT kvs=>obtain ⟨_,_,_,_,ob,_,_,e,_⟩:=x;exact ⟨_,e⟩
  | set S n=>obtain ⟨ob,_,_,_,e,_⟩:=x;exact ⟨_,e⟩
  | ins C dx fs=>obtain ⟨_,_,_,e,_⟩:=x;exact ⟨_,e⟩
  | own y=>exact x
  | xd fs=>obtain ⟨_,⟨ob,_,_,e,_⟩,_⟩:=x;exact ⟨_,e⟩
  | rng lo hi=>obtain ⟨_,_,_,e⟩:=x;exact ⟨_,e⟩
  | frz ob u=>obtain ⟨e,_⟩:=x;exact ⟨_,e⟩
  | tbl ps=>exact ⟨_,show h.get? a=some _ from x⟩
  | met f y=>exact ⟨_,show h.get? a=some _ from x⟩
  | ext φ=>obtain ⟨_,e,_⟩:=x;exact e
theorem HOk.none_of {P:Program} {w:World} {H:Hp} {h:Heap} (x:HOk P w H h) {a:Addr} (n:h.get? a=none):H a=none:=by
  cases e:H a with
  | none=>rfl
  | some o =>
    obtain ⟨ob,q⟩:=(x a o e).obj
    rw [n] at q
    cases q
section
variable {X:Cx} {pins:List (Addr × Obj)} {σ:St} {H H':Hp} {s:Shared} {h':Heap} {b:Addr} {S:List Addr}
def Off (X:Cx) (pins:List (Addr × Obj)) (b:Addr):Prop :=
  (∀ o,X.s₀.heap.get? b=some o→b∈X.ex)∧b≠X.env.locals∧(∀ x c,X.env.cells.lookup x=some c→c≠b)∧∀ p∈X.pn++pins,p.1≠b
theorem Inv.off (I:Inv X pins σ H s) (n:s.heap.get? b=none):Off X pins b:=by
  refine ⟨fun o e=>?_,fun z=>?_,fun x c e z=>?_,fun p hp z=>?_⟩
  · by_cases hx:b∈X.ex
    · exact hx
    · obtain ⟨o',e'⟩:=I.base.there b o e hx
      rw [n] at e'
      cases e'
  · obtain ⟨m,⟨o,_,_,ho,_⟩,_⟩:=I.loc
    rw [z,ho] at n
    cases n
  · obtain ⟨v,o,ho,_⟩:=I.cell x c e
    rw [z,n] at ho
    cases ho
  · have q:=(I.pin p hp).1
    rw [z,n] at q
    cases q
theorem Inv.moved {t':Nat} (I:Inv X pins σ H s) (m:Mv S (frs X.stack) s.heap h') (hS:∀ b∈S,Off X pins b∧H b=none):Inv X pins σ H { s with heap:=h',toks:=t' }:=by
  have neL:∀ b o,X.s₀.heap.get? b=some o→b≠X.env.locals:=fun b o e=>Nat.ne_of_lt (Nat.lt_of_lt_of_le (Heap.lt_size e) I.ok.above)
  have nS:∀ b o,X.s₀.heap.get? b=some o→b∉X.ex→b∉S:=fun b o e hx z=>hx ((hS b z).1.1 o e)
  have nst:∀ b,b≠X.env.locals→b∉X.fs→b∉frs X.stack:=fun b h1 h2 z=>(List.mem_cons.mp (I.stkSub b z)).elim h1 h2
  have cellM:∀ x c,X.env.cells.lookup x=some c→∀ v,s.heap.IsCell c v→h'.IsCell c v:=fun x c e v ⟨o,ho,hd⟩=>by
    obtain ⟨_,sl,q⟩:=m c o ho fun z=>(hS c z).1.2.2.1 x c e rfl
    exact ⟨_,q,hd⟩
  refine ⟨I.ok,I.os,I.bare,⟨fun b o e n hb hx=>?_,fun b o e n hb hx=>?_,I.base.free,fun b o e hx=>?_,I.base.tups,I.base.frzs,I.base.tbls⟩,?_,fun x c e=>?_,I.free,I.freeC,fun p hp=>?_,fun b u e=>?_,I.len⟩
  · exact (m b o (I.base.keep b o e n hb hx) (nS b o e hx)).1 (nst b (neL b o e) hb)
  · obtain ⟨sl,e1⟩:=I.base.slot b o e n hb hx
    obtain ⟨_,sl',e2⟩:=m b _ e1 (nS b o e hx)
    exact ⟨sl',e2⟩
  · obtain ⟨o',e1⟩:=I.base.there b o e hx
    obtain ⟨_,sl,e2⟩:=m b _ e1 (nS b o e hx)
    exact ⟨_,e2⟩
  · obtain ⟨mm,hn,hl⟩:=I.loc
    refine ⟨mm,?_,fun i x v e1 e2 e3=>?_⟩
    · obtain ⟨o,es,ep,ho,r⟩:=hn
      obtain ⟨_,sl,q⟩:=m _ o ho fun z=>(hS _ z).1.2.1 rfl
      exact ⟨_,es,ep,q,r⟩
    · obtain ⟨u,r,l⟩:=hl i x v e1 e2 e3
      refine ⟨u,r,?_⟩
      rcases l with l | ⟨k,c,e,z⟩
      · exact .inl l
      · exact .inr ⟨k,c,e,cellM x c e _ z⟩
  · obtain ⟨v,z⟩:=I.cell x c e
    exact ⟨v,cellM x c e v z⟩
  · obtain ⟨e,n,ne,nf,d⟩:=I.pin p hp
    exact ⟨(m _ _ e fun z=>(hS _ z).1.2.2.2 p hp rfl).1 (nst _ ne nf),n,ne,nf,d⟩
  · refine (I.hok b u e).stay (fun c v hc q=>?_) (fun _ q=>q) fun _ _ q=>q
    have ht:H c≠none:=by
      rcases hc with rfl | hc
      · rw [e];exact fun z=>nomatch z
      · rw [hc];exact fun z=>nomatch z
    exact (m c v q fun z=>ht (hS c z).2).1 fun z=>ht (I.stkFree c z)
theorem Inv.track {φ:Heap→Prop} (I:Inv X pins σ H s) (ob:Off X pins b) (n:H b=none) (hφ:φ s.heap) (ho:∃ o,s.heap.get? b=some o) (st:∀ h1 h2:Heap,φ h1→(∀ o,h1.get? b=some o→h2.get? b=some o)→φ h2)
    (nf:b∉X.fs):Inv X pins σ (upd H b (.ext φ)) s:=by
  refine ⟨I.ok,I.os,I.bare,⟨I.base.keep,I.base.slot,fun c o e n' hx=>?_,I.base.there,fun c xs e=>?_,fun c o u e=>?_,fun c ps e=>?_⟩,I.loc,I.cell,?_,fun x c e=>?_,fun p hp=>?_,fun c u e=>?_,I.len⟩
  · have hcb:c≠b:=fun z=>by
      subst z
      exact hx (ob.1 o e)
    rw [upd_ne hcb]
    exact I.base.free c o e n' hx
  · rw [upd_ne (ne_of_none (I.base.tups c xs e) n)]
    exact I.base.tups c xs e
  · rw [upd_ne (ne_of_none (I.base.frzs c o u e) n)]
    exact I.base.frzs c o u e
  · obtain ⟨more,q⟩:=I.base.tbls c ps e
    exact ⟨more,by rw [upd_ne (ne_of_none q n)];exact q⟩
  · rw [upd_ne (Ne.symm ob.2.1)]
    exact I.free
  · rw [upd_ne (ob.2.2.1 x c e)]
    exact I.freeC x c e
  · obtain ⟨e,n',ne,nf',d⟩:=I.pin p hp
    exact ⟨e,by rw [upd_ne (ob.2.2.2 p hp)];exact n',ne,nf',d⟩
  · by_cases hc:c=b
    · subst hc
      rw [upd_same] at e
      cases e
      exact ⟨hφ,ho,st⟩
    · rw [upd_ne hc] at e
      refine (I.hok c u e).stay (fun _ _ _ q=>q) (fun d r=>?_) fun d xs r=>?_
      · rw [upd_ne (ne_of_none r n)];exact r
      · rw [upd_ne (ne_of_none r n)];exact r
end
def CXF (P:Program) (w:World):CXT:=fun outer H s E e s'=>∃ (ea:Addr) (cls:Value) (od:Option Addr) (S:List Addr) (H':Hp),e=.ref ea∧s'.os=s.os∧AllBare s'.gens ∧
  Un (frs outer) [] H H' s.heap s'.heap∧HOk P w H' s'.heap∧Loose s'.heap ea cls od S∧(∀ b∈S,s.heap.get? b=none∧H' b=none)∧E cls od H'
section
variable {P:Program} {w:World} {K:PySem.W.Frag} {mg:Str→Option Value} {base:Heap} {N:List Str} {qual:Str} {scope:Scope} {f:Addr} {cd:Value} {A:Around} {outer:List Env} {s₀:Shared} {H₀:Hp} {E:XK}
theorem takes_def:Passes (CXF P w) (cxOf (CXF P w) P w K mg base N qual scope f cd A outer s₀ H₀ E) E:=by
  intro pins σ H s e s' I h
  obtain ⟨ea,cls,od,S,H',rfl,os,bare,un,hok,lo,hS,q⟩:=h
  have I1:=I.call' (ch:=[]) os un hok bare (fun b z=>absurd z (by simp))
  show wpAny _ _ (leaving _ (.ref ea)) _ _ s'
  refine leave_ex I.ok.frames I1.stack rfl lo fun h' T m hs lo'=>?_
  have I2:Inv _ pins σ H' { s' with heap:=h',toks:=s'.toks }:=I1.moved (S:=S) m fun b hb=>⟨I.off (hS b hb).1,(hS b hb).2⟩
  have out:∀ b,Off (cxOf (CXF P w) P w K mg base N qual scope f cd A outer s₀ H₀ E) pins b→s₀.heap.get? b=none:=fun b ob=>by
    cases e:s₀.heap.get? b with
    | none=>rfl
    | some o=>exact absurd (ob.1 o e) (by show b∉([]:List Addr);simp)
  refine ⟨ea,cls,od,[T,ea],H',rfl,I2.os,I2.bare,I2.base,I2.hok,lo',fun b hb=>?_,q⟩
  rcases List.mem_cons.mp hb with rfl | hb
  · exact ⟨out _ (I1.off (Heap.get?_none_of_le hs)),I1.hok.fresh hs⟩
  · rw [List.mem_singleton.mp hb]
    exact ⟨out _ (I.off (hS ea lo.1).1),(hS ea lo.1).2⟩
theorem Fun.okF {x qual:Str} {st:Stmt} {f:Addr} {fd:FuncData} {N ps:List Str} {k:Nat} {sp:Sp} (F:Fun K x qual st f fd) (S:FnScope N ps (defScope st)) (len:∀ vs H Q E,sp vs H Q E→vs.length=ps.length)
    (hbody:∀ (cdv:Value) (A:Around) (outer:List Env) (s:Shared) (H:Hp) (vs:List V) (Q:VK) (E:XK),Room k (A.deeper (envOfC qual (defScope st) s.heap.objs.size f cdv))→sp vs H Q E →
      ∃ t,PSs (cxOf (CXF P w) P w K mg base N qual (defScope st) f cdv A outer s H E) (defBody st) t∧t { nx:=fun _ H'=>Q .non H',rt:=Q } (start N vs) H):FnOk P w K mg base (CXF P w) (k+1) f fd ps sp:=by
  obtain ⟨oc,od,kV,doc,pm,an,cdv,ct,osl,rfl,lk,hcd⟩:=F.ex
  exact fn_of lk hcd S len fun A outer s H vs Q E hr hsp=>hbody cdv A outer s H vs Q E hr hsp
end
abbrev bmVE:List Value:=[.type "ValueError",.type "Exception",.type "BaseException",.type "object"]
abbrev newVE:String:="ValueError.__new__"
structure Ecl (K:PySem.W.Frag) (C:Addr):Prop where
  ex:PySem.W.excIn K C bmVE newVE=true
theorem Ecl.obj {K:PySem.W.Frag} {C:Addr} (c:Ecl K C) {h:Heap} (X:K.In h):∃ bm N nm q bs hdct sn sub ab col dd k0 k1 k2 k3 k5 mN,h.get? C=some (excClassObj nm q C N bs bm hdct sn sub ab col dd k0 k1 k2 k3 k5 newVE)∧h.Ns N mN∧mN "__init__"=none∧OwnTail h bmVE bm:=by
  have q:=c.ex
  unfold PySem.W.excIn at q
  split at q
  · rename_i dd cd sl ho
    split at q
    · rename_i C' bm k0 k1 k2 k3 n k5 hm hs
      simp only [Bool.and_eq_true,beq_iff_eq,Bool.not_eq_true'] at q
      obtain ⟨⟨⟨⟨⟨rfl,rfl⟩,hdel⟩,ht⟩,hok⟩,hni⟩:=q
      obtain ⟨nm,bs,mro,ns,qn,hd,sn,sub,ab,col,del⟩:=cd
      dsimp only at hm hdel hok hni
      subst hm hdel
      obtain ⟨l⟩:=sl
      have hl:l=[k0,k1,k2,k3,some (.builtin newVE),k5]:=hs
      subst hl
      exact ⟨bm,ns,nm,qn,bs,hd,sn,sub,ab,col,dd,k0,k1,k2,k3,k5,_,X _ _ ho,.of_isNs (PySem.W.isNs_of_in X hok),PySem.W.nsMap_none_of_in X hok hni,PySem.W.tail_of_in X ht⟩
    · cases q
  · cases q
def tRaise (C:Addr) (E:XK) (ta:TA):TS:=fun _ σ H=>ta σ H fun vs H1=>vs.length≤1000∧E (.ref C) none H1
theorem ps_raise {X:Cx} {E:XK} {x:Str} {C:Addr} {np cpos pos:Pos} {e:Expr} {es:List Expr} {ta:TA} (hx:Passes (CXF X.prog X.w) X E) (hc:X.calm=true) (hg:Gl X x) (hm:X.mg x=some (.ref C)) (hcl:Ecl X.K C) (ha:PA X (e :: es) ta)
    (hdb:(x == ("__debug__":Str))=false:=by decide) (he:starEach (e :: es) X.env=(false,eval e X.env) :: starEach es X.env:=by rfl) (hpl:(backTo cpos (starEach (e :: es) X.env)).any (·.1)=false:=by rfl) :
    PS X (.Raise (some (.Call (.Name x np) (e :: es) [] cpos)) none pos) (tRaise C E ta):=by
  intro pins s σ H D I h
  obtain ⟨bm,N,nm,q,bs,hdct,sn,sub,ab,col,dd,k0,k1,k2,k3,k5,mN,hC,hN,hni,T⟩:=hcl.obj I.ok.mod.kin
  refine wpAny_Raise_call_subT (C:=C) (nm:=nm) (q:=q) (N:=N) (bs:=bs) (bm:=bm) (hdct:=hdct) (sn:=sn) (sub:=sub) (ab:=ab) (col:=col) (dd:=dd) (k0:=k0) (k1:=k1) (k2:=k2) (k3:=k3) (k5:=k5) PySem.F.excBase_ValueError (T.hasType (by decide +kernel)) (I.ok.hd hc) hpl hni (ld_glob I hg hm ⟨rfl,?_⟩ hdb)
  have ha':=ha cpos pins s σ H _ I h
  rw [he] at ha' ⊢
  refine Calls.evalArgs_plain (thn ha' fun us s1 ⟨vs,H1,I1,r,hl,q⟩=>?_)
  have kb:=I1.bk
  refine ⟨rfl,?_,kb _ _ hC,hN.keeps kb,T.keeps kb,fun h' ea me=>?_⟩
  · show us.length≤sizeLine
    rw [←r.length]
    exact small hl
  · refine hx pins σ H1 s1 (.ref ea) _ I1 ⟨ea,.ref C,none,[ea],H1,rfl,rfl,I1.bare,Un.kept me.keeps,I1.hok.kept me.keeps,?_,fun b hb=>?_,q⟩
    · obtain ⟨t,ht,_,_⟩:=me.there
      refine ⟨List.mem_cons_self,fun b hb o ho=>?_,.none,⟨_,_,ht,rfl,rfl,rfl,rfl⟩,.inl rfl⟩
      rw [List.mem_singleton.mp hb,ht] at ho
      cases ho
      exact ⟨_,rfl⟩
    · rw [List.mem_singleton.mp hb]
      exact ⟨me.new,I1.hok.none_of me.new⟩
abbrev Cx.tryx (X:Cx) (pn:List (Addr × Obj)) (xe:Value→Shared→Prop):Cx:={ X with pn:=pn,xe:=xe }
abbrev Cx.hand (X:Cx) (ea:Addr):Cx:={ X with A:=X.A.mark (some (.ref ea)),calm:=false,xe:=fun _ _=>False }
section
variable {X:Cx} {pins pins':List (Addr × Obj)} {σ:St} {H:Hp} {s:Shared} {h':Heap} {ea:Addr} {xe:Value→Shared→Prop}
theorem Inv.tryx (I:Inv X pins σ H s) (xe:Value→Shared→Prop):Inv (X.tryx (X.pn++pins) xe) [] σ H s :=
  ⟨⟨I.ok.mod,I.ok.kind,I.ok.glob,I.ok.blt,I.ok.above,I.ok.inj,I.ok.has,I.ok.cab,I.ok.hd,I.ok.frames,I.ok.stk,I.ok.exf,I.ok.bs,I.ok.bsz,I.ok.noex,I.ok.exfs,I.ok.funs,I.ok.frf⟩,I.os,I.bare,I.base,I.loc,I.cell,I.free,I.freeC,
    fun p hp=>I.pin p (by rw [List.append_nil] at hp;exact hp),I.hok,I.len⟩
theorem Inv.untryx (ok:X.Ok) (I:Inv (X.tryx (X.pn++pins) xe) pins' σ H s):Inv X pins σ H s :=
  ⟨ok,I.os,I.bare,I.base,I.loc,I.cell,I.free,I.freeC,fun p hp=>I.pin p (List.mem_append_left _ hp),I.hok,I.len⟩
theorem Inv.hand (I:Inv X pins σ H s) (ea:Addr):Inv (X.hand ea) pins σ H s :=
  ⟨⟨I.ok.mod,I.ok.kind,I.ok.glob,I.ok.blt,I.ok.above,I.ok.inj,I.ok.has,I.ok.cab,fun z=>absurd (show false=true from z) (by decide),I.ok.frames,I.ok.stk,I.ok.exf,I.ok.bs,I.ok.bsz,I.ok.noex,I.ok.exfs,I.ok.funs,I.ok.frf⟩,I.os,I.bare,I.base,I.loc,I.cell,I.free,I.freeC,I.pin,I.hok,I.len⟩
theorem Inv.unhand (ok:X.Ok) (I:Inv (X.hand ea) pins σ H s):Inv X pins σ H s:=⟨ok,I.os,I.bare,I.base,I.loc,I.cell,I.free,I.freeC,I.pin,I.hok,I.len⟩
theorem Inv.unbind {i:Nat} {n:Str} {m:Str→Option Value} {v:Option Value} {t':Nat} (I:Inv X pins σ H s) (hN:X.N.Nodup) (hi:X.N[i]?=some n)
    (hm:∀ (i:Nat) (x:Str) (v:V),X.N[i]?=some x→σ[i]?=some (some v)→Vis X.env.scope x→∃ u,RelV v u∧Look X.env s.heap m x u)
    (hns:h'.Ns X.env.locals (fun x=>if x=n then v else m x)) (hs:Heap.SameBut X.env.locals s.heap h'):Inv X pins (σ.set i none) H { s with heap:=h',toks:=t' }:=by
  have k:∀ b o,b≠X.env.locals→s.heap.get? b=some o→h'.get? b=some o:=fun b o ne e=>(hs.2 b ne).trans e
  have neL:∀ b o,X.s₀.heap.get? b=some o→b≠X.env.locals:=fun b o e=>Nat.ne_of_lt (Nat.lt_of_lt_of_le (Heap.lt_size e) I.ok.above)
  have cellM:∀ x c,X.env.cells.lookup x=some c→∀ v,s.heap.IsCell c v→h'.IsCell c v:=fun x c e v ⟨o,ho,hd⟩=>⟨o,k c o (I.cne x c e) ho,hd⟩
  refine ⟨I.ok,I.os,I.bare,⟨fun b o e n hb hx=>?_,fun b o e n hb hx=>?_,I.base.free,fun b o e hx=>?_,I.base.tups,I.base.frzs,I.base.tbls⟩,⟨_,hns,fun j x w e1 e2 e3=>?_⟩,fun x c e=>?_,I.free,I.freeC,fun p hp=>?_,fun b u e=>?_,?_⟩
  · exact k b o (neL b o e) (I.base.keep b o e n hb hx)
  · obtain ⟨sl,q⟩:=I.base.slot b o e n hb hx
    exact ⟨sl,k b _ (neL b o e) q⟩
  · obtain ⟨o',q⟩:=I.base.there b o e hx
    exact ⟨o',k b _ (neL b o e) q⟩
  · have hji:j≠i:=fun z=>by
      subst z
      rw [List.getElem?_set] at e2
      split at e2
      · split at e2 <;> cases e2
      · contradiction
    rw [List.getElem?_set_ne (Ne.symm hji)] at e2
    have hxn:x≠n:=fun z=>hji (nodup_ix hN (z▸e1) hi)
    obtain ⟨u,r,l⟩:=hm j x w e1 e2 e3
    refine ⟨u,r,?_⟩
    rcases l with ⟨l1,l2⟩ | ⟨l1,c,e,z⟩
    · exact .inl ⟨l1,by show (if x=n then v else m x)=some u;rw [if_neg hxn];exact l2⟩
    · exact .inr ⟨l1,c,e,cellM x c e _ z⟩
  · obtain ⟨v,z⟩:=I.cell x c e
    exact ⟨v,cellM x c e v z⟩
  · obtain ⟨e,n',ne,nf,d⟩:=I.pin p hp
    exact ⟨k _ _ ne e,n',ne,nf,d⟩
  · refine (I.hok b u e).stay (fun c v hc q=>k c v (fun z=>?_) q) (fun _ q=>q) fun _ _ q=>q
    rcases hc with rfl | hc
    · rw [z,I.free] at e;cases e
    · rw [z,I.free] at hc;cases hc
  · rw [List.length_set]
    exact I.len
end
def excO (ea C:Addr) (od:Option Addr):HO:=.ext fun h=>∃ oe vs,h.get? ea=some oe∧oe.cls=.ref C∧oe.dict=od∧oe.data=.fields vs
structure Hcl (K:PySem.W.Frag) (D:Addr):Prop where
  ty:PySem.W.typeIn K (.ref D)=some (.type "type")
  cl:(PySem.W.clsIn K D).isSome=true
  be:PySem.W.subIn K (.ref D) (.type "BaseException")=some true
theorem exc_matches {K:PySem.W.Frag} {M:Model} {A:Around} {E:Value→Shared→Prop} {s:Shared} {ea C D:Addr} {oe:Obj} {Q:Bool→Shared→Prop} (X:K.In s.heap) (he:s.heap.get? ea=some oe) (hc:oe.cls=.ref C) (hD:Hcl K D)
    (sb:PySem.W.subIn K (.ref C) (.ref D)=some true) (h:Q true s):wpAny M A (excMatches (.ref ea) (.ref D)) Q E s:=by
  obtain ⟨hp,g,d,tk,os⟩:=s
  have L1:PySem.W.Looks M hp (typeOf (.ref D)) (.type "type"):=PySem.W.looks_typeIn X hD.ty
  have L2:PySem.W.Looks M hp (isType (.ref D)) true:=by
    have q:=hD.cl
    unfold PySem.W.clsIn at q
    split at q
    · rename_i ho
      intro A' Q' E' s' k q
      unfold isType loadHead
      exact wpAny_bind (wpAny_loadPart (k _ _ (X _ _ ho)) (wpAny_pure q))
    · cases q
  have L3:PySem.W.Looks M hp (isSubtype (.ref D) (.type "BaseException")) true:=PySem.W.looks_subIn X hD.be
  have L4:PySem.W.Looks M hp (isSubtype (.ref C) (.ref D)) true:=PySem.W.looks_subIn X sb
  have L5:PySem.W.Looks M hp (typeOf (.ref ea)) (.ref C):=hc▸(PySem.W.Looks.ld he).andThen .now
  have L6:PySem.W.Looks M hp (isSubtype (.type "type") (.type "tuple")) false:=.of_pure tc_notTuple
  unfold excMatches isInstance
  repeat (first | with_reducible refine PySem.W.Looks.at (by assumption) ?_ | wp_step)
  exact h
end L2
set_option Elab.async false
set_option linter.all false
set_option maxRecDepth 100000
namespace L2
open PySem PySem.Spec PyProof.Rows
def PassesS (X:Cx) (Ex:St→XK):Prop:=∀ (pins:List (Addr × Obj)) (σ:St) (H:Hp) (s:Shared) (e:Value) (s':Shared),Inv X pins σ H s→CXF X.prog X.w X.stack H s (Ex σ) e s'→X.xe e s'
def tCallX (sp:Sp) (Ex:St→XK) (t:TA):TE:=fun σ H Q=>t σ H fun vs H1=>sp vs H1 Q (Ex σ)
theorem pe_callX {X:Cx} {k:Nat} {f:Addr} {fd:FuncData} {ps:List Str} {sp:Sp} {Ex:St→XK} {x:Str} {p pos:Pos} {e:Expr} {es:List Expr} {t:TA} (F:FnOk X.prog X.w X.K X.mg X.base (CXF X.prog X.w) k f fd ps sp) (hr:Room k X.A) (hg:Gl X x) (hm:X.mg x=some (.ref f))
    (hk:PySem.W.keepIn X.K (.ref f)=true) (hb:Binds X.K fd ps []) (hx:PassesS X Ex) (ha:PA X (e :: es) t) (hdb:(x == ("__debug__":Str))=false:=by decide) (he:starEach (e :: es) X.env=(false,eval e X.env) :: starEach es X.env:=by rfl)
    (hpl:(backTo pos (starEach es X.env)).any (·.1)=false:=by rfl):PE X (.Call (.Name x p) (e :: es) [] pos) (tCallX sp Ex t):=by
  intro pins s σ H Q I h
  refine wpAny_Call_Name_kw (ld_glob I hg hm ?_ hdb)
  refine PySem.W.callWith_K (h₀:=X.base) I.ok.mod.kin hk (thn (ha pos pins s σ H _ I h) fun us s1 ⟨vs,H1,I1,r,q⟩=>⟨I1.kIn,?_⟩) he hpl
  have hl:us.length=ps.length:=by rw [←r.length];exact F.len _ _ _ _ q
  have hb':=hb s1 us I1.kIn (by rw [List.append_nil];exact hl)
  rw [List.append_nil] at hb'
  refine wpAny_call (codeAny_mono (F.run X.A X.stack s1 H1 ⟨us,[]⟩ us vs Q (Ex σ) hr I1.env0 hb' r q) fun r s' hq=>?_)
  cases r with
  | error e=>exact hx pins σ H1 s1 e s' I1 hq
  | ok fl =>
    cases fl with
    | ret u=>exact I1.after hq
    | next=>exact False.elim hq
    | brk=>exact False.elim hq
    | cont=>exact False.elim hq
def tTry (K:PySem.W.Frag) (D:Addr) (i:Nat) (tb:(St→XK)→TS) (ts:TS):TS:=fun G σ H=>tb (fun σ' cls od H'=>∃ C,cls=.ref C∧PySem.W.subIn K (.ref C) (.ref D)=some true ∧
  ∀ ea,H' ea=none→ts { G with nx:=fun σ2 H2=>G.nx (σ2.set i none) H2,bk:=fun _ _=>False,ct:=fun _ _=>False } (σ'.set i (some (.ref ea))) (upd H' ea (excO ea C od))) G σ H
theorem ps_try {X:Cx} {body suite:List Stmt} {b₀:Stmt} {c n:Str} {D:Addr} {i:Nat} {np hpos pos:Pos} {tb:(St→XK)→TS} {ts:TS} (hc:X.calm=true) (hfrm:X.stack=X.env :: X.outer∧X.env.frame=some X.env.locals)
    (hb:∀ (pn:List (Addr × Obj)) (xe:Value→Shared→Prop) (Ex:St→XK),PassesS (X.tryx pn xe) Ex→PSs (X.tryx pn xe) body (tb Ex)) (hs:∀ ea,PSs (X.hand ea) (b₀ :: suite) ts)
    (hN:X.N.Nodup) (hi:X.N[i]?=some n) (hn:X.env.scope.names.lookup n=some .local) (hg:Gl X c) (hm:X.mg c=some (.ref D)) (hD:Hcl X.K D) (hdb:(c == ("__debug__":Str))=false:=by decide) :
    PS X (.Try body [.ExceptHandler (some (.Name c np)) (some n) (b₀ :: suite) hpos] [] [] pos) (tTry X.K D i tb ts):=by
  intro pins s σ H G I h
  refine wpAny_Try_except ?_
  refine wpAny_mono (hb (X.pn++pins) (fun e s₁=>wpAny (model X.prog X.w) X.A (noteFrame e X.env) (fun _ s₂=>wpAny (model X.prog X.w) X.A (setFlight e none) (fun _ s₃ =>
      wpAny (model X.prog X.w) X.A (handleBy e X.env [.ExceptHandler (some (.Name c np)) (some n) (b₀ :: suite) hpos]) (SP X pins G) X.xe s₃) X.xe s₂) X.xe s₁) _ ?_ [] s σ H G (I.tryx _) h) (fun fl s1 q=>?_) fun _ _ z=>z
  · intro pins' σ1 H1 s1 e s' I1 hx
    obtain ⟨ea,cls,od,S,H',rfl,os,bare,un,hok,lo,hS,C,rfl,sb,q⟩:=hx
    have J1:Inv X pins σ1 H1 s1:=I1.untryx I.ok
    have J2:Inv X pins σ1 H' s':=J1.call' (ch:=[]) os un hok bare (fun b z=>absurd z (by simp))
    show wpAny _ _ (noteFrame (.ref ea) X.env) _ _ s'
    have st:=J2.stack
    rw [hfrm.1] at st
    have hfr:=I.ok.frames
    rw [hfrm.1] at hfr
    refine land_ex hfr st hfrm.2 lo fun h3 T m3 hs3 hT x3 t3=>?_
    rw [←hfrm.1] at m3
    have J3:Inv X pins σ1 H' { s' with heap:=h3,toks:=s'.toks }:=J2.moved (S:=S) m3 fun b hb=>⟨J1.off (hS b hb).1,(hS b hb).2⟩
    have oE:=J1.off (hS ea lo.1).1
    have nE:=(hS ea lo.1).2
    obtain ⟨oe,vs,he,hcls,hdd,hd1,h1⟩:=id x3
    refine wpAny_handleBy_cons (codeAny_handlers_test ?_) (by intro z;cases z)
    refine ld_glob (X:=X.hand ea) (J3.hand ea) hg hm ?_ hdb
    refine exc_matches (K:=X.K) J3.kIn he hcls hD sb (codeAny_handlers_suite_as ?_)
    refine flight_ex (s:={ s' with heap:=h3,toks:=s'.toks }) x3 t3 hT fun h4 m4 x4 t4 k4=>?_
    have J4:Inv X pins σ1 H' { s' with heap:=h4,toks:=s'.toks }:=J3.moved (S:=[T]) (fun b o hb hn=>by
      have hbT:b≠T:=fun z=>hn (by rw [z];exact List.mem_cons_self)
      have z:=(k4 b hbT).trans hb
      exact ⟨fun _=>z,o.slots,z⟩) fun b hb=>by
        rw [List.mem_singleton.mp hb]
        exact ⟨J2.off (Heap.get?_none_of_le hs3),J2.hok.fresh hs3⟩
    have nf:ea∉X.fs:=fun z=>by
      obtain ⟨_,o,ho,_⟩:=I.ok.funs.mem z
      exact I.ok.exfs ea (oE.1 o ho) z
    obtain ⟨oe4,vs4,he4,hcls4,hdd4,hd14,h14⟩:=id x4
    have J5:Inv X pins σ1 (upd H' ea (excO ea C od)) { s' with heap:=h4,toks:=s'.toks }:=J4.track oE nE ⟨oe4,vs4,he4,hcls4,hdd4,hd14⟩ ⟨oe4,he4⟩ (fun g1 g2 ⟨o,v,q1,q2⟩ k=>⟨o,v,k o q1,q2⟩) nf
    refine store_ok2 (X:=X.hand ea) (J5.hand ea) hN hi (.inl hn) (v:=.ref ea) rfl (fun s6 J6 _=>?_) (.inr hn)
    refine wpAny_mono (hs ea pins s6 _ _ _ J6 (q ea nE)) (fun f s7 z=>?_) fun _ _ z=>z.elim
    have fin:∀ {σ7:St} {H7:Hp} {R:Shared→Prop},Inv (X.hand ea) pins σ7 H7 s7→(∀ s8,Inv X pins (σ7.set i none) H7 s8→R s8)→wpAny (model X.prog X.w) X.A (do bindName X.env n .none;unbindBehindTheSuite X.env n hpos) (fun _ s8=>R s8) X.xe s7:=fun {σ7 H7 R} J7 k=>by
      have J7':=J7.unhand I.ok
      obtain ⟨m,hn7,hl7⟩:=id J7'.loc
      exact wpAny_nameGoes_keeps hn hn7 (by rw [I.ok.kind];rfl) fun h' v hns hsb=>k _ (J7'.unbind hN hi hl7 hns hsb)
    cases f with
    | next =>
      obtain ⟨σ7,H7,J7,z⟩:=z
      exact fin (R:=SP X pins G .next) J7 fun s8 J8=>⟨_,H7,J8,z⟩
    | brk =>
      obtain ⟨σ7,H7,J7,z⟩:=z
      exact z.elim
    | cont =>
      obtain ⟨σ7,H7,J7,z⟩:=z
      exact z.elim
    | ret u =>
      obtain ⟨v,σ7,H7,J7,r,z⟩:=z
      exact fin (R:=SP X pins G (.ret u)) J7 fun s8 J8=>⟨v,_,H7,J8,r,z⟩
  · cases fl with
    | next =>
      obtain ⟨σ',H',J,z⟩:=q
      exact wpAny_execs_nil ⟨σ',H',J.untryx I.ok,z⟩
    | brk =>
      obtain ⟨σ',H',J,z⟩:=q
      exact ⟨σ',H',J.untryx I.ok,z⟩
    | cont =>
      obtain ⟨σ',H',J,z⟩:=q
      exact ⟨σ',H',J.untryx I.ok,z⟩
    | ret u =>
      obtain ⟨v,σ',H',J,r,z⟩:=q
      exact ⟨v,σ',H',J.untryx I.ok,r,z⟩
def tMidT (t:TT):TT:=fun σ H Q=>∃ Mid:Bool→Hp→Prop,t σ H Mid∧∀ b H',Mid b H'→Q b H'
theorem pt_mid {X:Cx} {e:Expr} {t:TT} (h:PT X e t):PT X e (tMidT t):=by
  intro pins s σ H Q I ⟨Mid,h1,h2⟩
  exact thn (h pins s σ H _ I h1) fun b s' ⟨H',I',m⟩=>⟨H',I',h2 _ _ m⟩
end L2
set_option Elab.async false
set_option linter.all false
set_option maxRecDepth 100000
namespace L2
open PySem PySem.Spec PyProof.Rows
structure Ek (K:PySem.W.Frag) (C:Addr):Prop where
  cl:(PySem.W.clsIn K C).isSome=true
  ga:PySem.W.findIn K (.ref C) "__getattribute__"=some (some (.builtin "BaseException.__getattribute__"))
  gt:PySem.W.findIn K (.ref C) "__getattr__"=some none
  ca:PySem.W.findIn K (.ref C) "__class__"=some (some (.builtin "object.__class__"))
  be:PySem.W.subIn K (.ref C) (.type "BaseException")=some true
  ob:PySem.W.mroIn K C (.type "object")=some true
  cg:PySem.W.specialIn K (.builtin "object.__class__") "__get__"=some (some (.builtin "getset_descriptor.__get__"))
  ct:PySem.W.takesIn K (.builtin "object.__class__")=some true
section
variable {K:PySem.W.Frag} {prog:Program} {w:World} {A:Around} {E:Value→Shared→Prop} {s:Shared} {x C:Addr} {ox:Obj} {od:Option Obj} {name:Str} {tk:Tok}
theorem exc_check {M:Model} {nv:Value} {Q:Unit→Shared→Prop} (X:K.In s.heap) (I:PySem.W.InstAt s.heap x ox C od) (G:Ek K C) (h:Q () s):wpAny M A (checkBuiltinCall "BaseException.__getattribute__" ⟨[.ref x,nv],[]⟩) Q E s:=by
  obtain ⟨hp,g,d,t,os⟩:=s
  have hk:builtinKind "BaseException.__getattribute__"=some .slot:=by decide +kernel
  have hsplit:splitId "BaseException.__getattribute__"=some ("BaseException","__getattribute__"):=by decide +kernel
  have L0:=I.type (M:=M)
  have L1:PySem.W.Looks M hp (isSubtype (.ref C) (.type "BaseException")) true:=PySem.W.looks_subIn X G.be
  have ha:=PySem.F.args_bexc_ga (.ref x) nv
  simp only [checkBuiltinCall,hk,hsplit]
  refine wpAny_bind ?_
  unfold isInstance
  repeat (first | with_reducible refine PySem.W.Looks.at (by assumption) ?_ | wp_step)
  exact h
theorem exc_by {fill expr:Bool} {Q:Value→Shared→Prop} (X:K.In s.heap) (I:PySem.W.InstAt s.heap x ox C od) (G:Ek K C)
    (h:wpAny (model prog w) A.in1 (Builtin.«object.__getattribute__» ⟨[.ref x,.str name tk],[]⟩) (fun fin s'=>match fin with | .done (.ret v)=>PySem.W.handedIn v=true∧Q v s' | .again c'=>c'.quiet=true∧codeAny (model prog w) A c' (fun r s''=>match r with | .ok (.ret v)=>PySem.W.handedIn v=true∧Q v s'' | _=>False) s' | _=>False) (fun _ _=>False) s) :
    wpAny (model prog w) A (getAttrBy (.ref x) (.str name tk) fill expr) Q E s:=by
  obtain ⟨hp,g,d,t,os⟩:=s
  have L0:=I.type (M:=model prog w)
  have L1:PySem.W.Looks (model prog w) hp (typeLookup (.ref C) "__getattribute__") (some (.builtin "BaseException.__getattribute__")):=PySem.W.looks_findIn X G.ga
  have L2:PySem.W.Looks (model prog w) hp (typeLookup (.ref C) "__getattr__") none:=PySem.W.looks_findIn X G.gt
  have f3:=PySem.F.attr_ValueError.ga.bind (.ref x)
  unfold getAttrBy
  refine wpAny_holding (wpAny_bind (L0.at (wpAny_bind (L1.at ?_))))
  show wpAny _ _ (if (onTheHeap (.ref C) && Value.builtin "BaseException.__getattribute__" == .builtin "object.__getattribute__")=true then _ else _) _ _ _
  have hb:(onTheHeap (Value.ref C) && Value.builtin "BaseException.__getattribute__" == Value.builtin "object.__getattribute__")=false:=by
    show (true && Value.builtin "BaseException.__getattribute__" == Value.builtin "object.__getattribute__")=false
    decide +kernel
  rw [hb,if_neg Bool.false_ne_true]
  unfold getAttrByItsOwn
  refine wpAny_bind ?_
  show wpAny _ _ (typeLookup (.ref C) "__getattr__") _ _ _
  refine L2.at ?_
  refine wpAny_bind (wpAny_attempt (wpAny_holding ?_))
  unfold callGetattribute
  rw [if_neg (by cases expr <;> decide)]
  unfold boundAndCalled
  refine wpAny_bind (wpAny_of_eq f3 ?_)
  show wpAny _ _ (call (.builtin "BaseException.__getattribute__") [.ref x,.str name tk]) _ _ _
  refine wpAny_call (codeAny_call_builtin PySem.F.attr_ValueError.ga.plain PySem.F.entry_bexc_ga (exc_check X I G ?_))
  refine wpAny_mono h (fun fin s' z=>?_) fun _ _ z=>z.elim
  rcases fin with fl | c'
  · cases fl with
    | ret v =>
      obtain ⟨z1,z2⟩:=z
      show wpAny _ _ (handedOut v) _ _ _
      exact PySem.W.handed_on z1 z2
    | _=>exact z.elim
  · refine ⟨z.1,codeAny_mono z.2 fun r s'' y=>?_⟩
    rcases r with _ | fl
    · exact y.elim
    · cases fl with
      | ret v =>
        obtain ⟨z1,z2⟩:=y
        show wpAny _ _ (handedOut v) _ _ _
        exact PySem.W.handed_on z1 z2
      | _=>exact y.elim
theorem exc_class {Q:Option Value→Shared→Prop} (X:K.In s.heap) (I:PySem.W.InstAt s.heap x ox C od) (G:Ek K C) (h:Q (some (.ref C)) { s with toks:=s.toks+1 }):wpAny (model prog w) A (getAttr? (.ref x) "__class__") Q E s:=by
  obtain ⟨hp,g,d,t,os⟩:=s
  have hf:PySem.W.findObj K C od "__class__"=some (.bind (.builtin "getset_descriptor.__get__") (.builtin "object.__class__")):=by
    obtain ⟨cd,hc⟩:=Option.isSome_iff_exists.mp G.cl
    unfold PySem.W.findObj
    rw [hc,Option.bind_some,G.ca,Option.bind_some]
    simp [G.cg,G.ct]
  have L0:=I.type (M:=model prog w)
  have L1:=PySem.W.looks_find (M:=model prog w) X I hf
  unfold getAttr? getAttrBy?
  refine wpAny_bind (wpAny_mkText (wpAny_bind (wpAny_attempt ?_)))
  refine exc_by (s:=⟨hp,g,d,t+1,os⟩) X I G ?_
  unfold Builtin.«object.__getattribute__»
  repeat (first | with_reducible refine PySem.W.Looks.at (by assumption) ?_ | wp_step)
  exact PySem.W.class_get (s:=⟨hp,g,d,t+1,os⟩) X I G.ob (wpAny_pure ⟨rfl,wpAny_pure h⟩)
end
def xcIn (K:PySem.W.Frag) (C:Addr):Bool :=
  PySem.W.typeIn K (.ref C) == some (.type "type") && (PySem.W.clsIn K C).isSome && PySem.W.subIn K (.ref C) (.type "BaseException") == some true &&
  PySem.W.findIn K (.ref C) "__getattribute__" == some (some (.builtin "BaseException.__getattribute__")) && PySem.W.findIn K (.ref C) "__getattr__" == some none && PySem.W.findIn K (.ref C) "__class__" == some (some (.builtin "object.__class__")) &&
  PySem.W.mroIn K C (.type "object") == some true && PySem.W.specialIn K (.builtin "object.__class__") "__get__" == some (some (.builtin "getset_descriptor.__get__")) && PySem.W.takesIn K (.builtin "object.__class__") == some true &&
  PySem.W.subIn K (.ref C) (.ref C) == some true && PySem.W.subIn K (.ref C) (.type "ValueError") == some true
structure XC (K:PySem.W.Frag) (C:Addr):Prop where
  h:Hcl K C
  e:Ek K C
  sf:PySem.W.subIn K (.ref C) (.ref C)=some true
  ve:PySem.W.subIn K (.ref C) (.type "ValueError")=some true
theorem XC.of {K:PySem.W.Frag} {C:Addr} (q:xcIn K C=true):XC K C:=by
  unfold xcIn at q
  simp only [Bool.and_eq_true,beq_iff_eq] at q
  obtain ⟨⟨⟨⟨⟨⟨⟨⟨⟨⟨q1,q2⟩,q3⟩,q4⟩,q5⟩,q6⟩,q7⟩,q8⟩,q9⟩,q10⟩,q11⟩:=q
  exact ⟨⟨q1,q2,q3⟩,⟨q2,q4,q5,q6,q3,q7,q8,q9⟩,q10,q11⟩
section
variable {K:PySem.W.Frag} {C D:Addr}
theorem kit_t (hD:Hcl K D) (sb:PySem.W.subIn K (.ref C) (.ref D)=some true):PySem.W.kitOne K (.ref C) (.ref D)=some true:=by
  unfold PySem.W.kitOne
  split
  · rfl
  · unfold PySem.W.kitCls
    dsimp only
    rw [if_pos (by rw [hD.cl,hD.ty];rfl)]
    exact sb
theorem kit_f (hC:XC K C) (hD:Hcl K D) (sb:PySem.W.subIn K (.ref C) (.ref D)=some false):PySem.W.kitOne K (.ref C) (.ref D)=some false:=by
  unfold PySem.W.kitOne
  split
  · rename_i z
    have z':=beq_iff_eq.mp z
    rw [←z',hC.sf] at sb
    cases sb
  · unfold PySem.W.kitCls
    dsimp only
    rw [if_pos (by rw [hD.cl,hD.ty];rfl)]
    exact sb
theorem kit_ve (hC:XC K C):PySem.W.kitOne K (.ref C) (.type "ValueError")=some true:=by
  unfold PySem.W.kitOne
  rw [if_neg (by intro z;cases beq_iff_eq.mp z)]
  unfold PySem.W.kitCls
  dsimp only
  rw [if_pos (show PySem.W.kitMeta "ValueError"=true by decide +kernel)]
  exact hC.ve
theorem kitx_exc {x:Addr} (G:Ek K C):PySem.W.KitX K (.ref x) (.ref C) (fun h=>∃ ox od,PySem.W.InstAt h x ox C od) where
  ty:=fun _ _ _ ⟨_,_,I⟩=>I.type
  it:=fun _ _ X _=>by
    have q:=G.cl
    unfold PySem.W.clsIn at q
    split at q
    · rename_i ho
      intro A' Q' E' s' k q
      unfold isType loadHead
      exact wpAny_bind (wpAny_loadPart (k _ _ (X _ _ ho)) (wpAny_pure q))
    · cases q
  ne:=fun h tp dd its n sl X htp=>by
    refine Bool.eq_false_iff.mpr fun z=>?_
    have e:C=tp:=Value.ref.inj (beq_iff_eq.mp z)
    subst e
    have q:=G.cl
    unfold PySem.W.clsIn at q
    split at q
    · rename_i ho
      have z:=(X _ _ ho).symm.trans htp
      cases z
    · cases q
  ca:=fun X ⟨_,_,I⟩ k=>exc_class X I G k
end
def rIsiE (K:PySem.W.Frag):List V→Hp→VK→Prop:=fun xs H Q=>∃ ea C od c b,xs=[.ref ea,c]∧H ea=some (excO ea C od)∧Ek K C∧(od=none∨∃ dx fs,od=some dx∧H dx=some (.xd fs)) ∧
  ((∃ D,c=.ref D∧PySem.W.kitOne K (.ref C) (.ref D)=some b)∨∃ T,c=.ty T∧PySem.W.kitOne K (.ref C) (.type T)=some b)∧Q (.bl b) H
theorem inst_of {X:Cx} {pins:List (Addr × Obj)} {σ:St} {H:Hp} {s:Shared} {ea C:Addr} {od:Option Addr} (I:Inv X pins σ H s) (h:H ea=some (excO ea C od)) (hd:od=none∨∃ dx fs,od=some dx∧H dx=some (.xd fs)) :
    ∃ ox o,PySem.W.InstAt s.heap ea ox C o:=by
  obtain ⟨⟨oe,vs,he,hc,hdd,hdt⟩,_,_⟩:=I.hok ea _ h
  rcases hd with rfl | ⟨dx,fs,rfl,hx⟩
  · exact ⟨oe,none,he,hc,by unfold PySem.W.notCls;rw [hdt],by rw [hdd];trivial⟩
  · obtain ⟨ob,hob⟩:=(I.hok dx _ hx).obj
    exact ⟨oe,some ob,he,hc,by unfold PySem.W.notCls;rw [hdt],by rw [hdd];exact hob⟩
theorem isiE {X:Cx} (K:PySem.W.Frag) (hK:X.K=K:=by rfl):CallR X (.builtin "isinstance") (rIsiE K):=by
  subst hK
  intro pins s σ H xs us Q I r h
  obtain ⟨ea,C,od,c,b,rfl,he,G,hd,hc,q⟩:=h
  obtain ⟨u,v,rfl,r1,r2⟩:=r.two
  cases r1
  obtain ⟨ox,o,IA⟩:=inst_of I he hd
  rcases hc with ⟨D,rfl,e⟩ | ⟨T,rfl,e⟩
  · cases r2
    exact PySem.W.kia_one (kitx_exc G) I.kIn ⟨ox,o,IA⟩ e (fun z=>nomatch z) fun tk=>⟨.bl b,H,I.tok tk,rfl,q⟩
  · cases r2
    exact PySem.W.kia_one (kitx_exc G) I.kIn ⟨ox,o,IA⟩ e (fun z=>nomatch z) fun tk=>⟨.bl b,H,I.tok tk,rfl,q⟩
theorem b_VE:bootBuiltins "ValueError"=some (.type "ValueError"):=by decide +kernel
structure Fns' (P:Program) (w:World) (K:PySem.W.Frag) (mg:Str→Option Value) (base:Heap) (ps:List Str) (name:Str) (sp:Sp) (k:Nat) where
  g:Addr
  gd:FuncData
  ok:FnOk P w K mg base (CXF P w) k g gd ps sp
  b:Binds K gd ps []
  kp:PySem.W.keepIn K (.ref g)=true
  m:mg name=some (.ref g)
theorem passN {P:Program} {w:World} {X:Cx}:Passes (CXF P w) X E0:=fun _ _ _ _ _ _ _ ⟨_,_,_,_,_,_,_,_,_,_,_,_,z⟩=>z.elim
def rEqLB:R2:=fun x y H Q=>∃ (a b:Addr) (ns ms:List Bool),x=.ref a∧y=.ref b∧H a=some (.lst (ns.map V.bl))∧H b=some (.lst (ms.map V.bl))∧Q (.bl (decide (ns=ms))) H
theorem op_eqLB {X:Cx} (hu:X.A.units+4 < cLine):OpR X (compareOp .Eq) rEqLB:=by
  intro pins s σ H x y v u Q I rx ry h
  obtain ⟨a,b,ns,ms,rfl,rfl,e1,e2,q⟩:=h
  cases rx;cases ry
  exact rc_lsts (A:=X.A) (n:=0) EqK.bl I.hok e1 e2 (Paired.bls ns) (Paired.bls ms) (by omega) _ _ _ _ ⟨.bl _,H,I,rfl,q⟩
def Fns'.up {P:Program} {w:World} {K:PySem.W.Frag} {mg:Str→Option Value} {base:Heap} {ps:List Str} {name:Str} {sp:Sp} {j k:Nat} (f:Fns' P w K mg base ps name sp j) (h:j≤k):Fns' P w K mg base ps name sp k:=⟨f.g,f.gd,f.ok.mono h,f.b,f.kp,f.m⟩
end L2
set_option Elab.async false
set_option linter.all false
set_option maxRecDepth 100000
namespace L2
open PySem PySem.Spec PyProof.Rows
theorem old_tup {P:Program} {w:World} {H:Hp} {h:Heap} {a:Addr} {xs:List V} (x:ObjOk P w H h a (.tup xs)):xs.length≤sizeLine∧∃ its:List Value,Vals xs its∧PyProof.Rows.IsTup h a its.toArray:=by
  obtain ⟨z,its,r,p⟩:=x
  exact ⟨z,its,r,IsTp.is p⟩
theorem kit_none {K:PySem.W.Frag} {t:Value}:∀ {cs:List Value},(∀ c∈cs,PySem.W.kitOne K t c=some false)→PySem.W.kitAny K t cs=some false
  | [],_=>rfl
  | c :: cs,h=>by
    unfold PySem.W.kitAny
    rw [h c List.mem_cons_self]
    exact kit_none fun d hd=>h d (List.mem_cons_of_mem _ hd)
theorem vals_refs:∀ {ds:List Addr} {us:List Value},Vals (ds.map V.ref) us→us=ds.map Value.ref:=by
  intro ds
  induction ds with
  | nil=>intro us r;cases r;rfl
  | cons d ds ih =>
    intro us r
    cases r with
    | cons r1 r2=>rw [ih r2,show _=Value.ref d from r1];rfl
def rIsiT (K:PySem.W.Frag):List V→Hp→VK→Prop:=fun xs H Q=>∃ ea C od tp,∃ ds:List Addr,xs=[.ref ea,.ref tp]∧H ea=some (excO ea C od)∧Ek K C∧(od=none∨∃ dx fs,od=some dx∧H dx=some (.xd fs))∧H tp=some (.tup (ds.map V.ref)) ∧
  (∀ D∈ds,PySem.W.kitOne K (.ref C) (.ref D)=some false)∧Q (.bl false) H
theorem isiT {X:Cx} (K:PySem.W.Frag) (hK:X.K=K:=by rfl):CallR X (.builtin "isinstance") (rIsiT K):=by
  subst hK
  intro pins s σ H xs us Q I r h
  obtain ⟨ea,C,od,tp,ds,rfl,he,G,hd,ht,hk,q⟩:=h
  obtain ⟨u,v,rfl,r1,r2⟩:=r.two
  cases r1
  cases r2
  obtain ⟨ox,o,IA⟩:=inst_of I he hd
  obtain ⟨_,its,rv,⟨cls,dd,data,sl⟩,ho,hc,n,hdt⟩:=old_tup (I.hok tp _ ht)
  simp only at hc hdt
  subst hc hdt
  rw [vals_refs rv] at ho
  exact PySem.W.kia_tup (kitx_exc G) I.kIn ⟨ox,o,IA⟩ ho (kit_none fun c hcm=>by
    obtain ⟨D,hD,rfl⟩:=List.mem_map.mp hcm
    exact hk D hD) (fun z=>nomatch z) fun tk=>⟨.bl false,H,I.tok tk,rfl,q⟩
end L2
set_option Elab.async false
set_option linter.all false
set_option maxRecDepth 100000
namespace L2
open PySem PySem.Spec PyProof.Rows
def SIt:Bool→Heap→Addr→Addr→Nat→Prop
  | true,h,i,l,n=>h.IsTupleIter i l n
  | false,h,i,l,n=>h.IsListIter i l n
def SAt:Bool→Heap→Addr→Array Value→Prop
  | true,h,l,xs=>h.IsTuple l xs
  | false,h,l,xs=>h.IsList l xs
theorem SIt.at {k:Bool} {h h':Heap} {i l:Addr} {n:Nat} (x:SIt k h i l n) (e:∀ o,h.get? i=some o→h'.get? i=some o):SIt k h' i l n:=by
  cases k with
  | true=>obtain ⟨o,ho,r⟩:=x;exact ⟨o,e o ho,r⟩
  | false=>obtain ⟨o,ho,r⟩:=x;exact ⟨o,e o ho,r⟩
theorem SIt.obj {k:Bool} {h:Heap} {i l:Addr} {n:Nat} (x:SIt k h i l n):∃ o,h.get? i=some o∧∀ v,o.data≠.cell v:=by
  cases k with
  | true=>obtain ⟨o,ho,_,d⟩:=x;exact ⟨o,ho,fun v z=>by rw [d] at z;cases z⟩
  | false=>obtain ⟨o,ho,_,d⟩:=x;exact ⟨o,ho,fun v z=>by rw [d] at z;cases z⟩
theorem SAt.at {k:Bool} {h h':Heap} {l:Addr} {xs:Array Value} (x:SAt k h l xs) (e:∀ o,h.get? l=some o→h'.get? l=some o):SAt k h' l xs:=by
  cases k with
  | true=>obtain ⟨o,ho,r⟩:=x;exact ⟨o,e o ho,r⟩
  | false=>obtain ⟨o,ho,r⟩:=x;exact ⟨o,e o ho,r⟩
section
variable {prog:Program} {w:World} {A:Around} {E:Value→Shared→Prop} {s:Shared} {k:Bool} {it l:Addr} {i:Nat} {xs:Array Value} {x:Value} {Q:Value→Shared→Prop}
theorem nextS (hit:SIt k s.heap it l i) (hl:SAt k s.heap l xs) (hx:xs[i]?=some x) (hQ:∀ h',SIt k h' it l (i+1)→Heap.SameBut it s.heap h'→Q x { s with heap:=h' }) :
    wpAny (model prog w) A (Builtin.SmallTypes.nextOf (.ref it)) Q E s:=by
  cases k with
  | false=>exact wpAny_nextOf_list_item hit hl hx hQ
  | true =>
    have hit':s.heap.IsTupleIter it l i:=hit
    obtain ⟨o,ho,hc,hd⟩:=id hit'
    obtain ⟨ol,hol,_,nl,hdl⟩:=hl
    unfold Builtin.SmallTypes.nextOf
    refine wpAny_bind (wpAny_callSpecial?_slot (name:=Str.ofString "__next__") hit'.typeIs F.slot_tuple_iterator_next (wpAny_call_entry F.slot_tuple_iterator_next hit'.typeIs F.entry_tuple_iterator_next ?_ (F.args_tuple_iterator_next_1 _)))
    show wpAny _ _ (field (.ref it) 0 >>= _) _ _ s
    refine wpAny_bind (wpAny_field ho hd (x:=.ref l) rfl ?_)
    show wpAny _ _ (if (Value.ref l == Value.none)=true then _ else _) _ _ s
    rw [if_neg (show ¬ ((Value.ref l == Value.none)=true) from Bool.false_ne_true)]
    show wpAny _ _ (field (.ref it) 1 >>= _) _ _ s
    refine wpAny_bind (wpAny_field ho hd (x:=.int i 0) rfl (show wpAny _ _ (seqItems? (.ref l) >>= _) _ _ s from wpAny_bind (wpAny_seqItems hol hdl ?_)))
    simp only [Int.toNat_natCast,hx]
    refine wpAny_bind (wpAny_setField ho hd (by simp) (wpAny_pure ⟨x,rfl,wpAny_pure (hQ _ ?_ (Heap.SameBut.update ..))⟩))
    exact ⟨_,Heap.get?_update_self _ ho (Obj.isFreed_of_fields (Obj.data_mapFields hd _)),(Obj.cls_mapFields ..).trans hc,by rw [Obj.data_mapFields hd];simp [rawInt]⟩
theorem endS (hh:A.handled=none) (hit:SIt k s.heap it l i) (hl:SAt k s.heap l xs) (hx:xs[i]?=none) (hE:∀ h' e,Heap.ExtBut it s.heap h'→(∃ o,h'.get? e=some o∧o.cls=.type "StopIteration")→E (.ref e) { s with heap:=h' }) :
    wpAny (model prog w) A (Builtin.SmallTypes.nextOf (.ref it)) Q E s:=by
  cases k with
  | false=>exact wpAny_nextOf_list_end hh hit hl hx hE
  | true =>
    have hit':s.heap.IsTupleIter it l i:=hit
    obtain ⟨o,ho,hc,hd⟩:=id hit'
    obtain ⟨ol,hol,_,nl,hdl⟩:=hl
    unfold Builtin.SmallTypes.nextOf
    refine wpAny_bind (wpAny_callSpecial?_slot (name:=Str.ofString "__next__") hit'.typeIs F.slot_tuple_iterator_next (wpAny_call_entry F.slot_tuple_iterator_next hit'.typeIs F.entry_tuple_iterator_next ?_ (F.args_tuple_iterator_next_1 _)))
    show wpAny _ _ (field (.ref it) 0 >>= _) _ _ s
    refine wpAny_bind (wpAny_field ho hd (x:=.ref l) rfl ?_)
    show wpAny _ _ (if (Value.ref l == Value.none)=true then _ else _) _ _ s
    rw [if_neg (show ¬ ((Value.ref l == Value.none)=true) from Bool.false_ne_true)]
    show wpAny _ _ (field (.ref it) 1 >>= _) _ _ s
    refine wpAny_bind (wpAny_field ho hd (x:=.int i 0) rfl (show wpAny _ _ (seqItems? (.ref l) >>= _) _ _ s from wpAny_bind (wpAny_seqItems hol hdl ?_)))
    simp only [Int.toNat_natCast,hx]
    refine wpAny_bind (wpAny_rule (wpAny_bind (wpAny_setField ho hd (by simp) ?_)))
    show wpAny _ _ (newExc (.type "StopIteration") [] >>= _) _ _ _
    refine wpAny_bind ?_
    simp only [newExc,newTuple]
    refine wpAny_bind (wpAny_newObj_type ?_ (by size_fits))
    refine wpAny_bind (m:=firstArgMember _ _) (wpAny_of_eq (a:=Value.none) (by first | rfl | (simp only [firstArgMember];rfl)) ?_)
    refine wpAny_newObj_type ?_ (by size_fits)
    simp only [raiseNew]
    refine wpAny_bind (wpAny_handled ?_)
    rw [show A.in1.handled=none from hh]
    refine wpAny_bind (wpAny_pure (wpAny_throw ?_))
    exact hE _ _ (((Heap.SameBut.update ..).extBut.push _).push _) ⟨_,Heap.get?_push_size _ rfl,rfl⟩
end
structure ZAt (ka kb:Bool) (z TI TO i1 i2 l1 l2:Addr) (n:Nat) (h:Heap):Prop where
  zp:IsZip h z TI TO .none
  ti:IsPair h TI (.ref i1) (.ref i2)
  to_:∃ a b,IsPair h TO a b
  a1:SIt ka h i1 l1 n
  a2:SIt kb h i2 l2 n
section
variable {prog:Program} {w:World} {A:Around} {E:Value→Shared→Prop} {s:Shared} {ka kb:Bool} {z TI TO i1 i2 l1 l2:Addr} {n:Nat} {xs ys:Array Value} {x y:Value}
theorem zipS_item {Q:Value→Shared→Prop} (D:ZipApart z TI TO i1 i2 l1 l2) (Z:ZAt ka kb z TI TO i1 i2 l1 l2 n s.heap) (hl1:SAt ka s.heap l1 xs) (hl2:SAt kb s.heap l2 ys) (hx:xs[n]?=some x) (hy:ys[n]?=some y)
    (hQ:∀ h',IsZip h' z TI TO (rawInt s.heap.objs.size)→IsPair h' TO x y→SIt ka h' i1 l1 (n+1)→SIt kb h' i2 l2 (n+1)→IsPair h' s.heap.objs.size x y →
      (∀ c o,c≠z→c≠TO→c≠i1→c≠i2→s.heap.get? c=some o→h'.get? c=some o)→Q (.ref s.heap.objs.size) { s with heap:=h' }) :
    wpAny (model prog w) A (Builtin.«zip.__next__» ⟨[.ref z],[]⟩) (fun fin s'=>∃ v,fin=.done (.ret v)∧Q v s') E s:=by
  obtain ⟨hz,hTI,⟨a,b,hTO⟩,h1,h2⟩:=Z
  show wpAny _ _ (field (.ref z) 2 >>= _) _ _ _
  refine wpAny_bind (wpAny_field hz rfl (x:=.bool false) rfl ?_)
  show wpAny _ _ (field (.ref z) 3 >>= _) _ _ _
  refine wpAny_bind (wpAny_field hz rfl (x:=.ref TI) rfl (wpAny_bind (wpAny_seqItems hTI rfl ?_)))
  show wpAny _ _ (Builtin.SmallTypes.ownedTupleIsFree (.ref z) >>= _) _ _ _
  refine wpAny_bind ?_
  unfold Builtin.SmallTypes.ownedTupleIsFree
  refine wpAny_bind (wpAny_field hz rfl (x:=.none) rfl (wpAny_pure ?_))
  simp only [if_true]
  refine wpAny_bind (wpAny_rule (wpAny_bind (wpAny_field hz rfl (x:=.ref TO) rfl (wpAny_bind (wpAny_setField_rec hz (by simp) fun g1 z1 b1=>?_)))))
  have z1':IsZip g1 z TI TO .ellipsis:=z1
  have k1:∀ c o,c≠z→s.heap.get? c=some o→g1.get? c=some o:=fun c o hc e=>b1.extBut _ _ hc e
  refine wpAny_bind ?_
  simp only [List.zipIdx_cons,List.zipIdx_nil,List.forIn_cons,List.forIn_nil]
  refine wpAny_bind (wpAny_bind (wpAny_onRaise ?_))
  show wpAny _ _ (Builtin.SmallTypes.nextOf (.ref i1) >>= _) _ _ _
  refine wpAny_bind (nextS (s:={ s with heap:=g1 }) (h1.at fun o e=>k1 _ o D.i1z e) (hl1.at fun o e=>k1 _ o D.l1z e) hx fun g2 h12 b2=>wpAny_pure ?_)
  have k2:∀ c o,c≠z→c≠i1→s.heap.get? c=some o→g2.get? c=some o:=fun c o hc hd e=>b2.extBut _ _ hd (k1 c o hc e)
  have o2:IsPair g2 TO a b:=k2 _ _ D.TOz D.TOi1 hTO
  refine wpAny_bind (wpAny_seqItems o2 rfl (wpAny_bind (wpAny_updateSeq_pair (s:={ s with heap:=g2 }) o2 fun g3 o3 b3=>?_)))
  have o3':IsPair g3 TO x b:=o3
  refine wpAny_bind (wpAny_letGo (wpAny_pure ?_))
  refine wpAny_bind (wpAny_bind (wpAny_onRaise ?_))
  show wpAny _ _ (Builtin.SmallTypes.nextOf (.ref i2) >>= _) _ _ _
  have k3:∀ c o,c≠z→c≠i1→c≠TO→s.heap.get? c=some o→g3.get? c=some o:=fun c o hc hd he e=>b3.extBut _ _ he (k2 c o hc hd e)
  refine wpAny_bind (nextS (s:={ s with heap:=g3 }) (h2.at fun o e=>k3 _ o D.i2z D.i12.symm D.TOi2.symm e) (hl2.at fun o e=>k3 _ o D.l2z D.l2i1 D.l2TO e) hy fun g4 h24 b4=>wpAny_pure ?_)
  have o4:IsPair g4 TO x b:=b4.extBut _ _ D.TOi2 o3'
  refine wpAny_bind (wpAny_seqItems o4 rfl (wpAny_bind (wpAny_updateSeq_pair (s:={ s with heap:=g4 }) o4 fun g5 o5 b5=>?_)))
  have o5':IsPair g5 TO x y:=o5
  refine wpAny_bind (wpAny_letGo (wpAny_pure (wpAny_pure ?_)))
  refine wpAny_bind (wpAny_seqItems o5' rfl (wpAny_bind (wpAny_newTuple ?_)))
  have sz:g5.objs.size=s.heap.objs.size:=by rw [b5.1,b4.1,b3.1,b2.1,b1.1]
  have z5:IsZip g5 z TI TO .ellipsis:=b5.extBut _ _ D.TOz.symm (b4.extBut _ _ D.i2z.symm (b3.extBut _ _ D.TOz.symm (b2.extBut _ _ D.i1z.symm z1')))
  have k5:∀ c o,c≠z→c≠TO→c≠i1→c≠i2→s.heap.get? c=some o→g5.get? c=some o:=fun c o c1 c2 c3 c4 e=>b5.extBut _ _ c2 (b4.extBut _ _ c4 (k3 c o c1 c3 c2 e))
  have h15:SIt ka g5 i1 l1 (n+1):=h12.at fun o e=>b5.extBut _ _ D.TOi1.symm (b4.extBut _ _ D.i12 (b3.extBut _ _ D.TOi1.symm e))
  have h25:SIt kb g5 i2 l2 (n+1):=h24.at fun o e=>b5.extBut _ _ D.TOi2.symm e
  have zl:z < g5.objs.size:=Heap.lt_size z5
  show wpAny _ _ (Builtin.SmallTypes.ownedTupleHandOut (.ref z) (.ref g5.objs.size) >>= _) _ _ _
  refine wpAny_bind ?_
  unfold Builtin.SmallTypes.ownedTupleHandOut
  have z6:IsZip (g5.push { cls:=.type "tuple",data:=.seq #[x,y] }) z TI TO .ellipsis:=Heap.get?_push_of_some _ z5
  refine wpAny_bind (wpAny_setField_rec z6 (by simp) fun g7 z7 b7=>?_)
  replace z7:IsZip g7 z TI TO (rawInt g5.objs.size):=z7
  refine wpAny_setField_rec z7 (by simp) fun g8 z8 b8=>?_
  replace z8:IsZip g8 z TI TO (rawInt g5.objs.size):=z8
  have up:∀ c o,c≠z→g5.get? c=some o→g8.get? c=some o:=fun c o c1 e=>b8.extBut _ _ c1 (b7.extBut _ _ c1 (Heap.get?_push_of_some _ e))
  have p8:IsPair g8 g5.objs.size x y:=b8.extBut _ _ (Nat.ne_of_gt zl) (b7.extBut _ _ (Nat.ne_of_gt zl) (Heap.get?_push_size _ rfl))
  rw [sz] at z8 p8
  refine wpAny_pure ⟨_,rfl,?_⟩
  show Q (.ref g5.objs.size) _
  rw [sz]
  exact hQ g8 z8 (up _ _ D.TOz o5') (h15.at fun o e=>up _ o D.i1z e) (h25.at fun o e=>up _ o D.i2z e) p8 fun c o c1 c2 c3 c4 e=>up c o c1 (k5 c o c1 c2 c3 c4 e)
theorem zipS_end {Q:Fin→Shared→Prop} (hh:A.handled=none) (D:ZipApart z TI TO i1 i2 l1 l2) (Z:ZAt ka kb z TI TO i1 i2 l1 l2 n s.heap) (hl1:SAt ka s.heap l1 xs) (hl2:SAt kb s.heap l2 ys) (hend:xs[n]?=none∨ys[n]?=none)
    (hE:∀ h' e,(∀ c o,c≠z→c≠TO→c≠i1→c≠i2→s.heap.get? c=some o→h'.get? c=some o)→(∃ o,h'.get? e=some o∧o.cls=.type "StopIteration")→E (.ref e) { s with heap:=h' }) :
    wpAny (model prog w) A (Builtin.«zip.__next__» ⟨[.ref z],[]⟩) Q E s:=by
  obtain ⟨hz,hTI,⟨a,b,hTO⟩,h1,h2⟩:=Z
  show wpAny _ _ (field (.ref z) 2 >>= _) _ _ _
  refine wpAny_bind (wpAny_field hz rfl (x:=.bool false) rfl ?_)
  show wpAny _ _ (field (.ref z) 3 >>= _) _ _ _
  refine wpAny_bind (wpAny_field hz rfl (x:=.ref TI) rfl (wpAny_bind (wpAny_seqItems hTI rfl ?_)))
  show wpAny _ _ (Builtin.SmallTypes.ownedTupleIsFree (.ref z) >>= _) _ _ _
  refine wpAny_bind ?_
  unfold Builtin.SmallTypes.ownedTupleIsFree
  refine wpAny_bind (wpAny_field hz rfl (x:=.none) rfl (wpAny_pure ?_))
  simp only [if_true]
  refine wpAny_bind (wpAny_rule (wpAny_bind (wpAny_field hz rfl (x:=.ref TO) rfl (wpAny_bind (wpAny_setField_rec hz (by simp) fun g1 z1 b1=>?_)))))
  have z1':IsZip g1 z TI TO .ellipsis:=z1
  have k1:∀ c o,c≠z→s.heap.get? c=some o→g1.get? c=some o:=fun c o hc e=>b1.extBut _ _ hc e
  refine wpAny_bind ?_
  simp only [List.zipIdx_cons,List.zipIdx_nil,List.forIn_cons,List.forIn_nil]
  refine wpAny_bind (wpAny_bind (wpAny_onRaise ?_))
  show wpAny _ _ (Builtin.SmallTypes.nextOf (.ref i1) >>= _) _ _ _
  cases hx:xs[n]? with
  | none =>
    refine wpAny_bind (endS (s:={ s with heap:=g1 }) hh (h1.at fun o e=>k1 _ o D.i1z e) (hl1.at fun o e=>k1 _ o D.l1z e) hx fun g2 e b2 ⟨oe,he,ce⟩=>?_)
    have z2:IsZip g2 z TI TO .ellipsis:=b2 _ _ D.i1z.symm z1'
    have ez:e≠z:=fun q=>by subst q;rw [z2] at he;cases he;simp at ce
    exact wpAny_setField_rec z2 (by simp) fun g3 _ b3=>hE g3 e (fun c o c1 _ c3 _ q=>b3.extBut _ _ c1 (b2 _ _ c3 (k1 c o c1 q))) ⟨oe,b3.extBut _ _ ez he,ce⟩
  | some x =>
    have hy:ys[n]?=none:=hend.resolve_left fun q=>by rw [hx] at q;cases q
    refine wpAny_bind (nextS (s:={ s with heap:=g1 }) (h1.at fun o e=>k1 _ o D.i1z e) (hl1.at fun o e=>k1 _ o D.l1z e) hx fun g2 h12 b2=>wpAny_pure ?_)
    have k2:∀ c o,c≠z→c≠i1→s.heap.get? c=some o→g2.get? c=some o:=fun c o hc hd e=>b2.extBut _ _ hd (k1 c o hc e)
    have o2:IsPair g2 TO a b:=k2 _ _ D.TOz D.TOi1 hTO
    refine wpAny_bind (wpAny_seqItems o2 rfl (wpAny_bind (wpAny_updateSeq_pair (s:={ s with heap:=g2 }) o2 fun g3 o3 b3=>?_)))
    refine wpAny_bind (wpAny_letGo (wpAny_pure ?_))
    refine wpAny_bind (wpAny_bind (wpAny_onRaise ?_))
    show wpAny _ _ (Builtin.SmallTypes.nextOf (.ref i2) >>= _) _ _ _
    have k3:∀ c o,c≠z→c≠i1→c≠TO→s.heap.get? c=some o→g3.get? c=some o:=fun c o hc hd he e=>b3.extBut _ _ he (k2 c o hc hd e)
    refine wpAny_bind (endS (s:={ s with heap:=g3 }) hh (h2.at fun o e=>k3 _ o D.i2z D.i12.symm D.TOi2.symm e) (hl2.at fun o e=>k3 _ o D.l2z D.l2i1 D.l2TO e) hy fun g4 e b4 ⟨oe,he,ce⟩=>?_)
    have z4:IsZip g4 z TI TO .ellipsis:=b4 _ _ D.i2z.symm (b3.extBut _ _ D.TOz.symm (b2.extBut _ _ D.i1z.symm z1'))
    have ez:e≠z:=fun q=>by subst q;rw [z4] at he;cases he;simp at ce
    exact wpAny_setField_rec z4 (by simp) fun g5 _ b5=>hE g5 e (fun c o c1 c2 c3 c4 q=>b5.extBut _ _ c1 (b4 _ _ c4 (k3 c o c1 c3 c2 q))) ⟨oe,b5.extBut _ _ ez he,ce⟩
theorem zipS_next {Q:Option Value→Shared→Prop} (D:ZipApart z TI TO i1 i2 l1 l2) (Z:ZAt ka kb z TI TO i1 i2 l1 l2 n s.heap) (hl1:SAt ka s.heap l1 xs) (hl2:SAt kb s.heap l2 ys) (hx:xs[n]?=some x) (hy:ys[n]?=some y)
    (hQ:∀ h',IsZip h' z TI TO (rawInt s.heap.objs.size)→IsPair h' TO x y→SIt ka h' i1 l1 (n+1)→SIt kb h' i2 l2 (n+1)→IsPair h' s.heap.objs.size x y →
      (∀ c o,c≠z→c≠TO→c≠i1→c≠i2→s.heap.get? c=some o→h'.get? c=some o)→Q (some (.ref s.heap.objs.size)) { s with heap:=h' }):wpAny (model prog w) A (pyNext (.ref z)) Q E s:=by
  have hT:s.TypeIs (.ref z) "zip":=⟨_,Z.zp,rfl⟩
  unfold pyNext
  exact wpAny_bind (wpAny_attempt (wpAny_callSpecial?_slot (name:=Str.ofString "__next__") hT F.slot_zip_next (wpAny_call_entry F.slot_zip_next hT F.entry_zip_next
    (zipS_item D Z hl1 hl2 hx hy fun h' a1 a2 a3 a4 a5 a7=>wpAny_pure (hQ h' a1 a2 a3 a4 a5 a7)) (F.args_zip_next_1 _))))
theorem zipS_stop {Q:Option Value→Shared→Prop} (hh:A.handled=none) (D:ZipApart z TI TO i1 i2 l1 l2) (Z:ZAt ka kb z TI TO i1 i2 l1 l2 n s.heap) (hl1:SAt ka s.heap l1 xs) (hl2:SAt kb s.heap l2 ys) (hend:xs[n]?=none∨ys[n]?=none)
    (hQ:∀ h',(∀ c o,c≠z→c≠TO→c≠i1→c≠i2→s.heap.get? c=some o→h'.get? c=some o)→Q none { s with heap:=h' }):wpAny (model prog w) A (pyNext (.ref z)) Q E s:=by
  have hT:s.TypeIs (.ref z) "zip":=⟨_,Z.zp,rfl⟩
  unfold pyNext
  refine wpAny_bind (wpAny_attempt (wpAny_callSpecial?_slot (name:=Str.ofString "__next__") hT F.slot_zip_next (wpAny_call_entry F.slot_zip_next hT F.entry_zip_next (zipS_end hh D Z hl1 hl2 hend fun h' e hk he=>?_) (F.args_zip_next_1 _))))
  obtain ⟨o,ho,hc⟩:=he
  exact wpAny_bind (wpAny_isInstance (T:="StopIteration") (b:=true) ⟨o,ho,hc⟩ isSubtype_stop (wpAny_pure (hQ _ hk)))
end
end L2
set_option Elab.async false
set_option linter.all false
set_option maxRecDepth 100000
namespace L2
open PySem PySem.Spec PyProof.Rows
def SqK (K:PySem.W.Frag):Bool→Hp→Addr→List V→Prop
  | true,H,a,xs=>SqT K H a xs
  | false,H,a,xs=>SqL K H a xs
theorem seqK {X:Cx} {pins:List (Addr × Obj)} {σ:St} {H:Hp} {s:Shared} {k:Bool} {a:Addr} {xs:List V} (I:Inv X pins σ H s) (h:SqK X.K k H a xs):∃ us,Vals xs us∧SAt k s.heap a us.toArray:=by
  cases k with
  | true =>
    obtain ⟨its,rv,p,hz⟩:=I.tuple h
    exact ⟨its,rv,p⟩
  | false =>
    obtain ⟨its,rv,p,hz⟩:=I.list h
    exact ⟨its,rv,p.isList⟩
theorem seqK_inj {X:Cx} {pins:List (Addr × Obj)} {σ:St} {H:Hp} {s:Shared} {k:Bool} {a:Addr} {xs ys:List V} (I:Inv X pins σ H s) (h:SqK X.K k H a xs) (h2:SqK X.K k H a ys):xs=ys:=by
  cases k with
  | true=>exact I.tuple_inj h h2
  | false=>exact I.list_inj h h2
theorem Inv.turnedL {X:Cx} {pins:List (Addr × Obj)} {σ:St} {H:Hp} {s:Shared} {h':Heap} {t':Nat} {L:List Addr} (I:Inv X pins σ H s) (k:∀ b o,b∉L→s.heap.get? b=some o→h'.get? b=some o) (hf:∀ b∈L,FpOk X pins H b):Inv X pins σ H { s with heap:=h',toks:=t' }:=by
  have nit:∀ b u,H b=some u→b∉L:=fun b u e z=>by rw [(hf b z).1] at e;cases e
  have nl:X.env.locals∉L:=fun z=>(hf _ z).2.1 rfl
  refine I.step (g':=s.gens) (d':=s.drawn) (ch:=L) (fun b hb=>?_) (fun b o _ _ hc e _=>k b o hc e) (fun b o _ _ hc e _=>⟨o.slots,k b o hc e⟩) (fun _ _ _ _ n=>n)
    (fun b o hc e=>⟨o,k b o hc e⟩) (fun _ _ e=>e) (fun _ _ _ e=>e) (fun b ps e=>⟨#[],by rw [e];simp⟩) (fun m hm=>?_) (fun b u e=>?_) I.bare
  · obtain ⟨f0,f1,f2,f3,f4,f5⟩:=hf b hb
    exact ⟨f3,f1,f4,f5⟩
  · obtain ⟨o,es,ep,ho,r⟩:=hm
    exact ⟨o,es,ep,k _ o nl ho,r⟩
  · refine (I.hok b u e).stay (fun c v hc q=>k c v ?_ q) (fun _ q=>q) fun _ _ q=>q
    rcases hc with z | z
    · rw [z];exact nit b u e
    · exact nit c _ z
def Itz (K:PySem.W.Frag) (ka kb:Bool) (a b:Addr):It :=
  ⟨fun i H=>∃ xs ys x y,SqK K ka H a xs∧SqK K kb H b ys∧xs[i]?=some x∧ys[i]?=some y,
   fun i H v H'=>∃ p x y,v=.ref p∧H p=none∧(∀ xs,SqK K ka H a xs→xs[i]?=some x)∧(∀ ys,SqK K kb H b ys→ys[i]?=some y)∧H'=upd H p (.tup [x,y]),
   fun i H=>∃ xs ys,SqK K ka H a xs∧SqK K kb H b ys∧(xs.length≤i∨ys.length≤i)⟩
theorem ZAt.obj {ka kb:Bool} {z TI TO i1 i2 l1 l2:Addr} {n:Nat} {h:Heap} (Z:ZAt ka kb z TI TO i1 i2 l1 l2 n h):∀ b∈[z,TI,TO,i1,i2],∃ o,h.get? b=some o∧∀ v,o.data≠.cell v:=fun b hb=>by
  obtain ⟨hz,hTI,⟨x,y,hTO⟩,h1,h2⟩:=Z
  simp only [List.mem_cons,List.not_mem_nil,or_false] at hb
  rcases hb with rfl | rfl | rfl | rfl | rfl
  · exact ⟨_,hz,fun v z=>by cases z⟩
  · exact ⟨_,hTI,fun v z=>by cases z⟩
  · exact ⟨_,hTO,fun v z=>by cases z⟩
  · exact h1.obj
  · exact h2.obj
theorem turn_zip {P:Program} {w:World} {K:PySem.W.Frag} {elts:List Expr} {x1} {pos:Pos} {ka kb:Bool} {z TI TO i1 i2 a b:Addr} (D:ZipApart z TI TO i1 i2 a b):Turn P w K (.Tuple elts x1 pos) (Itz K ka kb a b) [z,TI,TO,i1,i2] z (fun n h=>ZAt ka kb z TI TO i1 i2 a b n h) where
  mem:=by simp
  obj:=fun i h st=>st.obj
  keep:=fun i h h' ⟨hz,hTI,⟨x,y,hTO⟩,h1,h2⟩ k=>⟨k z (by simp) _ hz,k TI (by simp) _ hTI,⟨x,y,k TO (by simp) _ hTO⟩,h1.at fun o e=>k i1 (by simp) o e,h2.at fun o e=>k i2 (by simp) o e⟩
  item:=by
    intro X hP hw hK hc i pins s σ H E I hf st hg
    subst hP hw hK
    obtain ⟨xs,ys,x,y,q1,q2,hx,hy⟩:=hg
    obtain ⟨us,r1,p1⟩:=seqK I q1
    obtain ⟨vs,r2,p2⟩:=seqK I q2
    obtain ⟨u,hu,ru⟩:=r1.get hx
    obtain ⟨v,hv,rv⟩:=r2.get hy
    have lt:∀ b∈[z,TI,TO,i1,i2],b < s.heap.objs.size:=fun b hb=>by
      obtain ⟨o,ho,_⟩:=st.obj b hb
      exact Heap.lt_size ho
    refine zipS_next D st p1 p2 (x:=u) (y:=v) (by simpa using hu) (by simpa using hv) fun h' z1 o1 a1 a2 pr kk=>?_
    refine ⟨_,rfl,wpAny_letOwnedTupleGo_zip (s:={ s with heap:=h' }) z1 fun h2 z2 b2=>?_⟩
    have hT:H s.heap.objs.size=none:=I.hok.fresh (Nat.le_refl _)
    have I1:Inv X pins σ (upd H s.heap.objs.size (.tup [x,y])) { s with heap:=s.heap.push { cls:=.type "tuple",data:=.seq #[u,v] } }:=I.laid (t':=s.toks) (fun b u e=>Heap.get?_push_of_some _ e) (Nat.le_refl _) ⟨by show 2≤sizeLine;decide,[u,v],.cons ru (.cons rv .nil),⟨_,Heap.get?_push_size _ rfl,_,rfl⟩⟩
    have Tz:s.heap.objs.size≠z:=Nat.ne_of_gt (lt z (by simp))
    have fp:∀ b∈[z,TI,TO,i1,i2],FpOk X pins (upd H s.heap.objs.size (.tup [x,y])) b:=fun b hb=>by
      obtain ⟨f0,f1,f2,f3,f4,f5⟩:=hf b hb
      exact ⟨by rw [upd_ne (Nat.ne_of_lt (lt b hb))];exact f0,f1,f2,f3,f4,f5⟩
    have I2:=I1.turnedL (h':=h2) (t':=s.toks) (fun c o hc e=>by
      simp only [List.mem_cons,List.not_mem_nil,or_false,not_or] at hc
      by_cases zc:c=s.heap.objs.size
      · subst zc
        rw [Heap.get?_push_size _ rfl] at e
        cases e
        exact b2.extBut _ _ Tz pr
      · have e':s.heap.get? c=some o:=by rw [←e];exact (Heap.get?_push_ne _ _ _ zc).symm
        exact b2.extBut _ _ hc.1 (kk c o hc.1 hc.2.2.1 hc.2.2.2.1 hc.2.2.2.2 e')) fp
    refine ⟨.ref s.heap.objs.size,_,I2,rfl,⟨_,x,y,rfl,hT,fun zs hz=>?_,fun zs hz=>?_,rfl⟩,⟨z2,b2.extBut _ _ D.TIz (kk _ _ D.TIz D.TITO D.TIi1 D.TIi2 st.ti),⟨u,v,b2.extBut _ _ D.TOz o1⟩,a1.at fun o e=>b2.extBut _ _ D.i1z e,a2.at fun o e=>b2.extBut _ _ D.i2z e⟩,fun b hb=>(fp b hb).1⟩
    · rw [seqK_inj I hz q1];exact hx
    · rw [seqK_inj I hz q2];exact hy
  done:=by
    intro X hP hw hK hc i pins s σ H E I hf st hg
    subst hP hw hK
    obtain ⟨xs,ys,q1,q2,hl⟩:=hg
    obtain ⟨us,r1,p1⟩:=seqK I q1
    obtain ⟨vs,r2,p2⟩:=seqK I q2
    have e1:=r1.length
    have e2:=r2.length
    refine zipS_stop (I.ok.hd hc) D st p1 p2 (hl.elim (fun q=>.inl (by simp;omega)) fun q=>.inr (by simp;omega)) fun h' kk=>⟨rfl,I.turnedL (t':=s.toks) (fun c o hc e=>?_) hf⟩
    simp only [List.mem_cons,List.not_mem_nil,or_false,not_or] at hc
    exact kk c o hc.1 hc.2.2.1 hc.2.2.2.1 hc.2.2.2.2 e
  self:=fun _ _ _ _ _ st h=>wpAny_pyIter_zip st.zp h
end L2
set_option Elab.async false
set_option linter.all false
set_option maxRecDepth 100000
namespace L2
open PySem PySem.Spec PyProof.Rows
def itO (k:Bool) (l:Addr):Obj:=match k with
  | true=>{ cls:=.type "tuple_iterator",data:=.fields #[.ref l,.int 0 0] }
  | false=>{ cls:=.type "list_iterator",data:=.fields #[.ref l,.int 0 0] }
theorem pyIterS {prog:Program} {w:World} {A:Around} {E:Value→Shared→Prop} {s:Shared} {k:Bool} {l:Addr} {xs:Array Value} {Q:Value→Shared→Prop} (h:SAt k s.heap l xs) (hQ:Q (.ref s.heap.objs.size) { s with heap:=s.heap.push (itO k l) }) :
    wpAny (model prog w) A (pyIter (.ref l)) Q E s:=by
  cases k with
  | true=>exact wpAny_pyIter_tuple h hQ
  | false=>exact wpAny_pyIter_list h hQ
theorem itO_free {k:Bool} {l:Addr}:(itO k l).isFreed=false:=by cases k <;> rfl
theorem SIt.new {k:Bool} {l i:Addr} {h:Heap} (e:h.get? i=some (itO k l)):SIt k h i l 0:=by
  cases k with
  | true=>exact ⟨_,e,rfl,rfl⟩
  | false=>exact ⟨_,e,rfl,rfl⟩
def zip5 (h:Heap) (ka kb:Bool) (l1 l2:Addr):Heap:=((((h.push (itO ka l1)).push (itO kb l2)).push { cls:=.type "tuple",data:=.seq #[.ref h.objs.size,.ref (h.push (itO ka l1)).objs.size] }).push { cls:=.type "tuple",data:=.seq #[.none,.none] }).push
  { cls:=.type "zip",data:=.fields #[.none,.bool false,.bool false,.ref ((h.push (itO ka l1)).push (itO kb l2)).objs.size,.ref (((h.push (itO ka l1)).push (itO kb l2)).push { cls:=.type "tuple",data:=.seq #[.ref h.objs.size,.ref (h.push (itO ka l1)).objs.size] }).objs.size] }
theorem meetsS (ka kb:Bool) (l1 l2:Addr) (xs ys:Array Value) :
    Meets (Builtin.«zip.__new__» ⟨[.type "zip",.ref l1,.ref l2],[]⟩) (fun _ R s=>SAt ka s.heap l1 xs∧SAt kb s.heap l2 ys∧R (.ok (.ret (.ref (s.heap.objs.size+4)))) { s with heap:=zip5 s.heap ka kb l1 l2 }) :=
  .of_wp fun prog w A R s h=>by
    obtain ⟨hp,g,d,tk,os⟩:=s
    obtain ⟨hl1,hl2,h⟩:=h
    have hsub:=sub_zip
    have hL1:SAt ka (Shared.heap ⟨hp,g,d,tk,os⟩) l1 xs:=hl1
    have hL2:SAt kb (Shared.heap ⟨hp.push (itO ka l1),g,d,tk,os⟩) l2 ys:=hl2.at fun o e=>Heap.get?_push_of_some _ e
    wp_walk using pyIterS hL1,pyIterS hL2
    refine ⟨_,rfl,?_⟩
    have z:((((hp.push (itO ka l1)).push (itO kb l2)).push { cls:=.type "tuple",data:=.seq #[.ref hp.objs.size,.ref (hp.push (itO ka l1)).objs.size] }).push { cls:=.type "tuple",data:=.seq #[.none,.none] }).objs.size=hp.objs.size+4:=by
      rw [Heap.size_push,Heap.size_push,Heap.size_push,Heap.size_push]
    rw [←z] at h
    exact h
theorem callS {prog:Program} {w:World} {A:Around} {E:Value→Shared→Prop} {s:Shared} {ka kb:Bool} {l1 l2:Addr} {xs ys:Array Value} {Q:Value→Shared→Prop} (h1:SAt ka s.heap l1 xs) (h2:SAt kb s.heap l2 ys)
    (h:∀ h',ZAt ka kb (s.heap.objs.size+4) (s.heap.objs.size+2) (s.heap.objs.size+3) s.heap.objs.size (s.heap.objs.size+1) l1 l2 0 h'→(∀ c o,s.heap.get? c=some o→h'.get? c=some o)→Q (.ref (s.heap.objs.size+4)) { s with heap:=h' }) :
    wpAny (model prog w) A (call (.type "zip") [.ref l1,.ref l2]) Q E s:=by
  refine callType_new F.called_zip (by decide) (F.typeCall_zip_2 _ _) (F.newCall_zip_2 _ _) (fun obj=>F.args_object_init_3 obj _ _) F.entry_zip_new (meetsS ka kb l1 l2 xs ys) ⟨h1,h2,?_⟩
  have kp:∀ c o,s.heap.get? c=some o→(zip5 s.heap ka kb l1 l2).get? c=some o:=fun c o x=>Heap.get?_push_of_some _ (Heap.get?_push_of_some _ (Heap.get?_push_of_some _ (Heap.get?_push_of_some _ (Heap.get?_push_of_some _ x))))
  have z1:(s.heap.push (itO ka l1)).objs.size=s.heap.objs.size+1:=Heap.size_push ..
  have z2:((s.heap.push (itO ka l1)).push (itO kb l2)).objs.size=s.heap.objs.size+2:=by rw [Heap.size_push,z1]
  have z3:(((s.heap.push (itO ka l1)).push (itO kb l2)).push { cls:=.type "tuple",data:=.seq #[.ref s.heap.objs.size,.ref (s.heap.push (itO ka l1)).objs.size] }).objs.size=s.heap.objs.size+3:=by rw [Heap.size_push,z2]
  have z4:((((s.heap.push (itO ka l1)).push (itO kb l2)).push { cls:=.type "tuple",data:=.seq #[.ref s.heap.objs.size,.ref (s.heap.push (itO ka l1)).objs.size] }).push { cls:=.type "tuple",data:=.seq #[.none,.none] }).objs.size=s.heap.objs.size+4:=by rw [Heap.size_push,z3]
  have g1:(zip5 s.heap ka kb l1 l2).get? s.heap.objs.size=some (itO ka l1):=Heap.get?_push_of_some _ (Heap.get?_push_of_some _ (Heap.get?_push_of_some _ (Heap.get?_push_of_some _ (Heap.get?_push_size _ itO_free))))
  have g2:(zip5 s.heap ka kb l1 l2).get? (s.heap.objs.size+1)=some (itO kb l2):=by rw [←z1];exact Heap.get?_push_of_some _ (Heap.get?_push_of_some _ (Heap.get?_push_of_some _ (Heap.get?_push_size _ itO_free)))
  have g3:(zip5 s.heap ka kb l1 l2).get? (s.heap.objs.size+2)=some { cls:=.type "tuple",data:=.seq #[.ref s.heap.objs.size,.ref (s.heap.objs.size+1)] }:=by
    rw [←z2]
    have q:(zip5 s.heap ka kb l1 l2).get? ((s.heap.push (itO ka l1)).push (itO kb l2)).objs.size=some { cls:=.type "tuple",data:=.seq #[.ref s.heap.objs.size,.ref (s.heap.push (itO ka l1)).objs.size] }:=Heap.get?_push_of_some _ (Heap.get?_push_of_some _ (Heap.get?_push_size _ rfl))
    rw [z1] at q
    exact q
  have g4:(zip5 s.heap ka kb l1 l2).get? (s.heap.objs.size+3)=some { cls:=.type "tuple",data:=.seq #[.none,.none] }:=by rw [←z3];exact Heap.get?_push_of_some _ (Heap.get?_push_size _ rfl)
  have g5:(zip5 s.heap ka kb l1 l2).get? (s.heap.objs.size+4)=some { cls:=.type "zip",data:=.fields #[.none,.bool false,.bool false,.ref (s.heap.objs.size+2),.ref (s.heap.objs.size+3)] }:=by
    rw [←z4]
    have q:(zip5 s.heap ka kb l1 l2).get? ((((s.heap.push (itO ka l1)).push (itO kb l2)).push { cls:=.type "tuple",data:=.seq #[.ref s.heap.objs.size,.ref (s.heap.push (itO ka l1)).objs.size] }).push { cls:=.type "tuple",data:=.seq #[.none,.none] }).objs.size=some { cls:=.type "zip",data:=.fields #[.none,.bool false,.bool false,.ref ((s.heap.push (itO ka l1)).push (itO kb l2)).objs.size,.ref (((s.heap.push (itO ka l1)).push (itO kb l2)).push { cls:=.type "tuple",data:=.seq #[.ref s.heap.objs.size,.ref (s.heap.push (itO ka l1)).objs.size] }).objs.size] }:=Heap.get?_push_size _ rfl
    rw [z2,z3] at q
    exact q
  show _∧_
  exact ⟨⟨_,g5,rfl⟩,h _ ⟨g5,g3,⟨_,_,g4⟩,.new g1,.new g2⟩ kp⟩
theorem b_zip:bootBuiltins "zip"=some (.type "zip"):=by decide +kernel
def iZip (K:PySem.W.Frag) (ka kb:Bool) (ta:TA):TI:=fun σ H R=>ta σ H fun vs H1=>∃ a b xs ys,vs=[.ref a,.ref b]∧SqK K ka H1 a xs∧SqK K kb H1 b ys∧R (Itz K ka kb a b) H1
theorem pi_zip {X:Cx} {elts:List Expr} {x1} {tp:Pos} {a b:Expr} {ta:TA} {p pos:Pos} (ka kb:Bool) (hg:Gl X "zip") (hm:X.mg "zip"=none) (ha:PA X [a,b] ta) (hs:starEach [a,b] X.env=[(false,eval a X.env),(false,eval b X.env)]:=by rfl) (hs2:starEach [b] X.env=[(false,eval b X.env)]:=by rfl) :
    PI X (.Tuple elts x1 tp) (.Call (.Name "zip" p) [a,b] [] pos) (iZip X.K ka kb ta):=by
  intro pins s σ H R I h
  refine Call_ (ld_blt I hg hm b_zip (PyProof.Rows.callWith_type1 (thn (ha pos pins s σ H _ I h) fun us s1 ⟨vs,H1,I1,r1,q1⟩=>?_) (by rw [hs,hs2]) (by rw [hs2];rfl)))
  obtain ⟨a',b',xs,ys,e,q1,q2,q⟩:=q1
  subst e
  obtain ⟨u,v,rfl,r1,r2⟩:=r1.two
  cases r1
  cases r2
  obtain ⟨us,e1,p1⟩:=seqK I1 q1
  obtain ⟨vs,e2,p2⟩:=seqK I1 q2
  have lt:∀ {k:Bool} {l:Addr} {zs:Array Value},SAt k s1.heap l zs→l < s1.heap.objs.size:=fun {k l zs} x=>by
    cases k with
    | true=>obtain ⟨o,ho,_⟩:=x;exact Heap.lt_size ho
    | false=>obtain ⟨o,ho,_⟩:=x;exact Heap.lt_size ho
  have t1:=lt p1
  have t2:=lt p2
  refine callS p1 p2 fun h' Z kp=>wpAny_pyIter_zip (s:={ s1 with heap:=h' }) Z.zp ?_
  have D:ZipApart (s1.heap.objs.size+4) (s1.heap.objs.size+2) (s1.heap.objs.size+3) s1.heap.objs.size (s1.heap.objs.size+1) a' b':=by
    have t1':@LT.lt Nat _ a' s1.heap.objs.size:=t1
    have t2':@LT.lt Nat _ b' s1.heap.objs.size:=t2
    constructor <;> (show ¬ (@Eq Nat _ _);omega)
  refine ⟨_,[s1.heap.objs.size+4,s1.heap.objs.size+2,s1.heap.objs.size+3,s1.heap.objs.size,s1.heap.objs.size+1],_,_,H1,rfl,I1.kept (t':=s1.toks) kp,turn_zip D,Z,fun c hc=>?_,q⟩
  have ge:s1.heap.objs.size≤c:=by
    simp only [List.mem_cons,List.not_mem_nil,or_false] at hc
    rcases hc with rfl | rfl | rfl | rfl | rfl <;> omega
  exact I1.fpOk ge (I1.hok.fresh ge)
end L2
set_option Elab.async false
set_option linter.all false
set_option maxRecDepth 100000
namespace L2
open PySem PySem.Spec PyProof.Rows
section
variable {M:Model} {A:Around} {E:Value→Shared→Prop} {s:Shared} {env:Env} {outer:List Env} {base:Heap} {L e T:Addr} {cls fl:Value} {od:Option Addr} {Q:Unit→Shared→Prop}
theorem note_any (hfr:A.frames=some (env :: outer)) (hl:s.heap.FunFrames base (env :: outer)) (hf:env.frame=some L) (x:ExcAt s.heap e cls od (.ref T)) (t:TbAt s.heap T fl) (hT:T≠e)
    (h:∀ h' T',Mv [T,e] (frs (env :: outer)) s.heap h'→(T'=T∨s.heap.objs.size≤T')→T'≠e→ExcAt h' e cls od (.ref T')→TbAt h' T' (rawInt L)→Q () { s with heap:=h' }):wpAny M A (noteFrame (.ref e) env) Q E s:=by
  unfold noteFrame
  simp only [hf]
  obtain ⟨oe,vs,he,hc,hdd,hd1,h1⟩:=id x
  obtain ⟨oT,ts,hTT,hdT,h3⟩:=id t
  refine wpAny_bind (wpAny_field he hd1 h1 ?_)
  rw [if_pos (show (Value.ref T != Value.none)=true from by simp)]
  refine wpAny_bind (wpAny_field hTT hdT h3 ?_)
  by_cases hz:fl=rawInt L
  · subst hz
    rw [if_pos (by simp)]
    exact wpAny_pure (h s.heap T Mv.refl (.inl rfl) hT x t)
  · rw [if_neg (by simpa using hz)]
    refine wpAny_bind (tb_set t fun g m1 t1 k1=>?_)
    have hSf:∀ b∈[T,e],∀ o,s.heap.get? b=some o→∃ vs,o.data=.fields vs:=fun b hb o ho=>by
      rcases List.mem_cons.mp hb with hb | hb
      · rw [hb,hTT] at ho;cases ho;exact ⟨ts,hdT⟩
      · rw [List.mem_singleton.mp hb,he] at ho;cases ho;exact ⟨vs,hd1⟩
    have m2:Mv [T,e] (frs (env :: outer)) s.heap g:=fun b o hb hn=>by
      have hbT:b≠T:=fun z=>hn (by rw [z];exact List.mem_cons_self)
      have q:=(k1 b hbT).trans hb
      exact ⟨fun _=>q,o.slots,q⟩
    refine entry_add (s:={ s with heap:=g }) hfr (m2.frames hl hSf) hf (x.other (k1 e (Ne.symm hT))) fun h' T' m hs hT' x' t'=>?_
    exact h h' T' (m2.trans (m.mono fun b hb=>by rw [List.mem_singleton.mp hb];exact List.mem_cons_of_mem _ List.mem_cons_self)) (.inr (by rw [←m1];exact hs)) hT' x' t'
theorem flight_any {fr:Option Addr} (x:ExcAt s.heap e cls od (.ref T)) (t:TbAt s.heap T fl) (hTe:T≠e) (h:∀ h' fl',h'.objs.size=s.heap.objs.size→ExcAt h' e cls od (.ref T)→TbAt h' T fl'→(∀ b,b≠T→h'.get? b=s.heap.get? b)→Q () { s with heap:=h' }) :
    wpAny M A (setFlight (.ref e) fr) Q E s:=by
  obtain ⟨oe,vs,he,hc,hdd,hd1,h1⟩:=id x
  unfold setFlight
  refine wpAny_bind (wpAny_field he hd1 h1 ?_)
  rw [if_pos (show (Value.ref T != Value.none)=true from by simp)]
  exact tb_set t fun g m1 t1 k1=>h g _ m1 (x.other (k1 e (Ne.symm hTe))) t1 k1
end
def PassesI (X:Cx) (E:XK):Prop:=∀ (pins:List (Addr × Obj)) (σ:St) (H:Hp) (s:Shared) (ea T:Addr) (cls fl:Value) (od:Option Addr),Inv X pins σ H s→ExcAt s.heap ea cls od (.ref T)→TbAt s.heap T fl→T≠ea →
  (∀ b∈[T,ea],Off X pins b∧H b=none)→E cls od H→X.xe (.ref ea) s
section
variable {P:Program} {w:World} {K:PySem.W.Frag} {mg:Str→Option Value} {base:Heap} {N:List Str} {qual:Str} {scope:Scope} {f:Addr} {cd:Value} {A:Around} {outer:List Env} {s₀:Shared} {H₀:Hp} {E:XK}
theorem takes_defI:PassesI (cxOf (CXF P w) P w K mg base N qual scope f cd A outer s₀ H₀ E) E:=by
  intro pins σ H s ea T cls fl od I x t hT hS q
  show wpAny _ _ (leaving _ (.ref ea)) _ _ s
  unfold leaving
  refine wpAny_bind (note_any I.ok.frames I.stack rfl x t hT fun h1 T' m1 hs1 hT1 x1 t1=>?_)
  refine flight_ex (s:={ s with heap:=h1 }) x1 t1 hT1 fun h2 sz2 x2 t2 k2=>?_
  have out:∀ b,Off (cxOf (CXF P w) P w K mg base N qual scope f cd A outer s₀ H₀ E) pins b→s₀.heap.get? b=none:=fun b ob=>by
    cases e:s₀.heap.get? b with
    | none=>rfl
    | some o=>exact absurd (ob.1 o e) (by show b∉([]:List Addr);simp)
  have oT:Off (cxOf (CXF P w) P w K mg base N qual scope f cd A outer s₀ H₀ E) pins T'∧H T'=none:=by
    rcases hs1 with rfl | hs1
    · exact hS _ List.mem_cons_self
    · exact ⟨I.off (Heap.get?_none_of_le hs1),I.hok.fresh hs1⟩
  have oE:=hS ea (List.mem_cons_of_mem _ List.mem_cons_self)
  have I1:Inv _ pins σ H { s with heap:=h1,toks:=s.toks }:=I.moved (S:=[T,ea]) m1 hS
  have I2:Inv _ pins σ H { s with heap:=h2,toks:=s.toks }:=I1.moved (S:=[T']) (fun b o hb hn=>by
    have hbT:b≠T':=fun z=>hn (by rw [z];exact List.mem_cons_self)
    have z:=(k2 b hbT).trans hb
    exact ⟨fun _=>z,o.slots,z⟩) fun b hb=>by rw [List.mem_singleton.mp hb];exact oT
  refine ⟨ea,cls,od,[T',ea],H,rfl,I2.os,I2.bare,I2.base,I2.hok,loose_of x2 t2 hT1,fun b hb=>?_,q⟩
  rcases List.mem_cons.mp hb with rfl | hb
  · exact ⟨out _ oT.1,oT.2⟩
  · rw [List.mem_singleton.mp hb]
    exact ⟨out _ oE.1,oE.2⟩
end
theorem passes_comp {X:Cx} {E:XK} {scope:Scope} {cl:List (Str × Addr)} {C:Addr} {s0:Shared} {H0:Hp} {fp:List Addr} {N:List Str} {pins:List (Addr × Obj)} {σ:St} (bk:Back X (cxC X scope cl C s0 H0 fp N) pins σ fp C s0 H0) (hfrm:X.stack=X.env :: X.outer∧X.env.frame=some X.env.locals) (hx:PassesI X E) :
    Passes (CXF X.prog X.w) (cxC X scope cl C s0 H0 fp N) E:=by
  intro pins' σ' H s e s' I h
  obtain ⟨ea,cls,od,S,H',rfl,os,bare,un,hok,lo,hS,q⟩:=h
  have I1:=I.call' (ch:=[]) os un hok bare (fun b z=>absurd z (by simp))
  have X1:=(bk.inv _ _ _ _ I1).1
  show notedBy (model X.prog X.w) X.A (compEnvC scope cl C X.env) (fun e s'=>compPost (model X.prog X.w) X.A X.xe none (fun _ _=>False) Value.none C (.error e) s') (.ref ea) s'
  show wpAny (model X.prog X.w) X.A (noteFrame (.ref ea) X.env) _ _ s'
  have st:=X1.stack
  rw [hfrm.1] at st
  have hfr:=bk.i0.ok.frames
  rw [hfrm.1] at hfr
  refine note_ex hfr st hfrm.2 lo fun h3 T m3 hs3 hT x3 t3=>?_
  rw [←hfrm.1] at m3
  have offS:∀ b,s.heap.get? b=none→Off X pins b:=fun b hb=>by
    by_cases hf:b∈fp
    · obtain ⟨f1,f2,f3,f4⟩:=bk.fp b hf
      refine ⟨fun o ho=>f1.elim id fun z=>?_,f2,f3,f4⟩
      exact absurd (Nat.lt_of_lt_of_le (Heap.lt_size ho) z) (Nat.lt_irrefl _)
    · refine bk.i0.off (b:=b) ?_
      cases e:s0.heap.get? b with
      | none=>rfl
      | some o=>exact absurd ((I.off hb).1 o e) hf
  have I3:Inv _ pins' σ' H' { s' with heap:=h3,toks:=s'.toks }:=I1.moved (S:=S) m3 fun b hb=>⟨I.off (hS b hb).1,(hS b hb).2⟩
  obtain ⟨X3,gn⟩:=bk.inv _ _ _ _ I3
  obtain ⟨m,hn,_⟩:=I3.loc
  have oT:=X1.off (Heap.get?_none_of_le hs3)
  have nT:=X1.hok.fresh hs3
  have oE:=offS ea (hS ea lo.1).1
  have nE:=(hS ea lo.1).2
  refine ⟨m,hn,fun h4 sb cenv hcl=>?_⟩
  obtain ⟨oc,es,ep,hoc,hdc,_⟩:=id hn
  have eC:ea≠C:=fun z=>by
    obtain ⟨oe,vs,he,_,_,hd,_⟩:=x3
    rw [z] at he
    have hoc':h3.get? C=some oc:=hoc
    rw [he] at hoc'
    cases hoc'
    rw [hd] at hdc
    cases hdc
  have tC:T≠C:=fun z=>by
    obtain ⟨oe,vs,he,hd,_⟩:=t3
    rw [z] at he
    have hoc':h3.get? C=some oc:=hoc
    rw [he] at hoc'
    cases hoc'
    rw [hd] at hdc
    cases hdc
  have X4:Inv X pins σ H' { s' with heap:=h4 }:=X3.gone gn sb
  have x4:ExcAt h4 ea cls od (.ref T):=x3.other (sb.2 ea eC)
  have t4:TbAt h4 T (rawInt X.env.locals):=by
    obtain ⟨oT,ts,e,r⟩:=t3
    exact ⟨oT,ts,(sb.2 T tC).trans e,r⟩
  unfold PySem.passOn
  obtain ⟨oe,vs,he,hc,hdd,hd1,h1⟩:=id x4
  refine wpAny_bind (wpAny_field (s:={ s' with heap:=h4 }) he hd1 h1 ?_)
  rw [if_neg (by simp)]
  refine wpAny_bind (flight_any (s:={ s' with heap:=h4 }) x4 t4 hT fun h5 fl5 sz5 x5 t5 k5=>wpAny_throw ?_)
  have X5:Inv X pins σ H' { s' with heap:=h5,toks:=s'.toks }:=X4.moved (S:=[T]) (fun b o hb hn=>by
    have hbT:b≠T:=fun z=>hn (by rw [z];exact List.mem_cons_self)
    have z:=(k5 b hbT).trans hb
    exact ⟨fun _=>z,o.slots,z⟩) fun b hb=>by rw [List.mem_singleton.mp hb];exact ⟨oT,nT⟩
  exact hx pins σ H' { s' with heap:=h5,toks:=s'.toks } ea T cls fl5 od X5 x5 t5 hT (fun b hb=>by
    rcases List.mem_cons.mp hb with rfl | hb
    · exact ⟨oT,nT⟩
    · rw [List.mem_singleton.mp hb];exact ⟨oE,nE⟩) q
end L2
set_option Elab.async false
set_option linter.all false
set_option maxRecDepth 100000
namespace L2
open PySem PySem.Spec PyProof.Rows
def turnZ (tc:TT) (te:TE) (σ:St) (d:Addr) (x y:V) (H:Hp) (Z:Hp→Prop):Prop :=
  tc (some x :: some y :: σ) H fun b H3=>if b=true then te (some x :: some y :: σ) H3 fun v H4=>∃ ys,H4 d=some (.lst ys)∧ys.length < sizeLine∧Z (upd H4 d (.lst (ys++[v]))) else Z H3
def tCompZ (K:PySem.W.Frag) (ka kb:Bool) (ta:TA) (tc:TT) (te:TE):TE:=fun σ H Q=>ta σ H fun vs H1=>∃ a b xs ys,vs=[.ref a,.ref b]∧SqK K ka H1 a xs∧SqK K kb H1 b ys∧xs.length=ys.length∧∀ d,H1 d=none →
  ∃ Pv:Nat→Hp→Prop,Pv 0 (upd H1 d (.lst []))∧(∀ i H,i≤xs.length→Pv i H→SqK K ka H a xs∧SqK K kb H b ys)∧(∀ i x y p H,xs[i]?=some x→ys[i]?=some y→Pv i H→H p=none→turnZ tc te σ d x y (upd H p (.tup [x,y])) (Pv (i+1)))∧∀ H,Pv xs.length H→Q (.ref d) H
def gPair (K:PySem.W.Frag):TG:=gTup K 2 (gCons (gName 0) (gCons (gName 1) gNil))
theorem gPair_two {K:PySem.W.Frag} {v:V} {σ:St} {H:Hp} {Q:St→Hp→Prop} (h:gPair K v (List.replicate 2 none++σ) H Q):gPair K v (List.replicate 2 none++σ) H fun σ2 H2=>(∃ l:St,l.length=2∧σ2=l++σ)∧Q σ2 H2:=by
  obtain ⟨a,xs,e,hq,hl,v1,r1,e1,v2,r2,e2,e3,q⟩:=h
  exact ⟨a,xs,e,hq,hl,v1,r1,e1,v2,r2,e2,e3,⟨[some v1,some v2],rfl,rfl⟩,q⟩
theorem comp_zip {K:PySem.W.Frag} {ka kb:Bool} {a b:Addr} {xs ys:List V} {tc:TT} {te:TE} {σ:St} {H:Hp} {Q:VK} {d:Addr} (hlen:xs.length=ys.length) (Pv:Nat→Hp→Prop) (h0:Pv 0 (upd H d (.lst []))) (hl:∀ i H,i≤xs.length→Pv i H→SqK K ka H a xs∧SqK K kb H b ys)
    (hs:∀ i x y p H,xs[i]?=some x→ys[i]?=some y→Pv i H→H p=none→turnZ tc te σ d x y (upd H p (.tup [x,y])) (Pv (i+1)))
    (hd:∀ H,Pv xs.length H→Q (.ref d) H) :
    ∃ W:Nat→Nat→Hp→Prop,(∃ m,W 0 m (upd H d (.lst [])))∧∀ i m H,W i m H →
      ((Itz K ka kb a b).stop i H∧Q (.ref d) H)∨((Itz K ka kb a b).go i H∧∃ N:Hp→Prop,(∀ H',N H'→∃ m',m' < m∧W (i+1) m' H')∧∀ x H',(Itz K ka kb a b).yld i H x H'→gPair K x (List.replicate 2 none++σ) H' fun σ2 H2 =>
        tc σ2 H2 fun b H3=>if b=true then te σ2 H3 fun y H4=>∃ ys,H4 d=some (.lst ys)∧ys.length < sizeLine∧N (upd H4 d (.lst (ys++[y]))) else N H3):=by
  refine ⟨fun i m H=>m=xs.length - i∧i≤xs.length∧Pv i H,⟨xs.length,by simp,Nat.zero_le _,h0⟩,?_⟩
  rintro i m H ⟨rfl,hi,p⟩
  obtain ⟨q1,q2⟩:=hl i H hi p
  by_cases hlt:i < xs.length
  · refine .inr ⟨⟨xs,ys,_,_,q1,q2,List.getElem?_eq_getElem hlt,List.getElem?_eq_getElem (by omega)⟩,Pv (i+1),fun H' n=>⟨xs.length - (i+1),by omega,rfl,by omega,n⟩,?_⟩
    rintro v H' ⟨p',x,y,rfl,hn,e1,e2,rfl⟩
    exact ⟨p',[x,y],rfl,SqT.of upd_same,rfl,x,[y],rfl,y,[],rfl,rfl,hs i x y p' H (e1 _ q1) (e2 _ q2) p hn⟩
  · have e:i=xs.length:=by omega
    subst e
    exact .inl ⟨⟨xs,ys,q1,q2,.inl (Nat.le_refl _)⟩,hd H p⟩
theorem pe_compZ {X:Cx} (K:PySem.W.Frag) (ka kb:Bool) {elt a b:Expr} {t1 t2:Str} {p1 p2 tp p pos pos':Pos} {k:Nat} {cs:List Expr} {scope:Scope} {tc:TT} {te:TE} {ta:TA} {M:List Str} (hc:X.calm=true) (S:CompScope scope X.env X.N M) (nd:(t1 :: t2 :: M).Nodup) (hl1:scope.names.lookup t1=some .local) (hl2:scope.names.lookup t2=some .local)
    (hg:Gl X "zip") (hm:X.mg "zip"=none) (ha:PA X [a,b] ta) (mo:MonoA ta)
    (hin:∀ (cl:List (Str × Addr)) (C:Addr) (s0:Shared) (H0:Hp) (fp:List Addr) (pins:List (Addr × Obj)) (σ:St),Back X (cxC X scope cl C s0 H0 fp (t1 :: t2 :: M)) pins σ fp C s0 H0→PTs (cxC X scope cl C s0 H0 fp (t1 :: t2 :: M)) cs tc∧PE (cxC X scope cl C s0 H0 fp (t1 :: t2 :: M)) elt te)
    (hs:starEach [a,b] X.env=[(false,eval a X.env),(false,eval b X.env)]:=by rfl) (hs2:starEach [b] X.env=[(false,eval b X.env)]:=by rfl) (hf:∀ x,foldedSetIterable (.Call (.Name "zip" p) [a,b] [] pos') X.env x=pure x:=by intro _;rfl) (hK:X.K=K:=by rfl) :
    PE X (.ListComp elt [⟨.Tuple [.Name t1 p1,.Name t2 p2] k tp,.Call (.Name "zip" p) [a,b] [] pos',cs,0⟩] scope pos) (tCompZ K ka kb ta tc te):=by
  subst hK
  have hx1:(relabel scope X.env).names.lookup t1=some .local:=by rw [lookup_relabel,hl1];rfl
  have hx2:(relabel scope X.env).names.lookup t2=some .local:=by rw [lookup_relabel,hl2];rfl
  refine PE.imp (pe_compB (xs:=[t1,t2]) (M:=M) (g:=gPair X.K) hc S (pi_zip ka kb hg hm ha hs hs2) (fun cl C s0 H0 fp pins σ bk=>⟨pg_tup hc (pgs_cons (pg_name (i:=0) nd rfl (Or.inl hx1) (Or.inr hx1)) (pgs_cons (pg_name (i:=1) nd rfl (Or.inl hx2) (Or.inr hx2)) pgs_nil)),hin cl C s0 H0 fp pins σ bk⟩) (fun v σ H Q h=>gPair_two h) hf) (fun σ H Q h=>?_)
  refine mo σ H _ _ (fun vs H1 q=>?_) h
  obtain ⟨a',b',xs,ys,e,q1,q2,hlen,q⟩:=q
  refine ⟨a',b',xs,ys,e,q1,q2,fun d hd=>?_⟩
  obtain ⟨Pv,h0,hl,hs,hd⟩:=q d hd
  exact comp_zip hlen Pv h0 hl hs hd
end L2
set_option Elab.async false
set_option linter.all false
set_option maxRecDepth 100000
namespace L2
open PySem PySem.Spec PyProof.Rows
section
variable {κ:Type} [DecidableEq κ]
def valV (kvs:List (κ × V)) (k:κ):Option V:=(kvs.find? fun kv=>decide (kv.1=k)).map (·.2)
def putK (kvs:List (κ × V)) (k:κ) (v:V):List (κ × V) :=
  if (kvs.any fun kv=>decide (kv.1=k))=true then kvs.map (fun kv=>if kv.1=k then (kv.1,v) else kv) else kvs++[(k,v)]
def dropK (kvs:List (κ × V)) (k:κ):List (κ × V):=kvs.filter fun kv=>decide (kv.1≠k)
theorem valV_pos {p:κ × V} {r:List (κ × V)} {k:κ} (e:p.1=k):valV (p :: r) k=some p.2:=by simp [valV,List.find?_cons,e]
theorem valV_neg {p:κ × V} {r:List (κ × V)} {k:κ} (e:¬ p.1=k):valV (p :: r) k=valV r k:=by simp [valV,List.find?_cons,e]
theorem valV_any (k:κ):∀ kvs:List (κ × V),(kvs.any fun kv=>decide (kv.1=k))=(valV kvs k).isSome
  | []=>rfl
  | p :: r=>by
    rw [List.any_cons]
    by_cases e:p.1=k
    · simp only [valV_pos e,decide_eq_true e,Bool.true_or,Option.isSome_some]
    · rw [valV_neg e,decide_eq_false e,Bool.false_or];exact valV_any k r
theorem valV_map (k j:κ) (y:V):∀ kvs:List (κ × V),valV (kvs.map fun kv=>if kv.1=k then (kv.1,y) else kv) j=(valV kvs j).map fun x=>if j=k then y else x
  | []=>rfl
  | p :: r=>by
    have ih:=valV_map k j y r
    rw [List.map_cons]
    by_cases h:p.1=k
    · rw [if_pos h]
      by_cases e:p.1=j
      · rw [valV_pos (p:=(p.1,y)) e,valV_pos e,Option.map_some,if_pos (e.symm.trans h)]
      · rw [valV_neg (p:=(p.1,y)) e,valV_neg e,ih]
    · rw [if_neg h]
      by_cases e:p.1=j
      · rw [valV_pos (p:=p) e,valV_pos e,Option.map_some,if_neg (fun z=>h (e.trans z))]
      · rw [valV_neg (p:=p) e,valV_neg e,ih]
theorem valV_snoc (k j:κ) (y:V):∀ kvs:List (κ × V),valV kvs k=none→valV (kvs++[(k,y)]) j=if j=k then some y else valV kvs j
  | [],_=>by
    by_cases e:k=j
    · rw [if_pos e.symm];exact valV_pos (p:=(k,y)) e
    · rw [if_neg (fun z=>e z.symm)];exact valV_neg (p:=(k,y)) e
  | p :: r,hn=>by
    rw [List.cons_append]
    have hk:¬ p.1=k:=fun z=>by rw [valV_pos z] at hn;cases hn
    rw [valV_neg hk] at hn
    have ih:=valV_snoc k j y r hn
    by_cases e:p.1=j
    · rw [valV_pos e,valV_pos e,if_neg (fun z=>hk (e.trans z))]
    · rw [valV_neg e,valV_neg e,ih]
theorem valV_put (kvs:List (κ × V)) (k j:κ) (y:V):valV (putK kvs k y) j=if j=k then some y else valV kvs j:=by
  unfold putK
  by_cases a:(kvs.any fun kv=>decide (kv.1=k))=true
  · rw [if_pos a,valV_map]
    rw [valV_any] at a
    by_cases e:j=k
    · obtain ⟨x,hx⟩:=Option.isSome_iff_exists.mp a
      rw [if_pos e,e,hx,Option.map_some,if_pos rfl]
    · rw [if_neg e]
      cases valV kvs j with
      | none=>rfl
      | some x=>rw [Option.map_some,if_neg e]
  · rw [if_neg a]
    refine valV_snoc k j y kvs ?_
    rw [valV_any] at a
    cases q:valV kvs k with
    | none=>rfl
    | some x=>rw [q] at a;exact (a rfl).elim
theorem length_putK (kvs:List (κ × V)) (k:κ) (v:V):(putK kvs k v).length≤kvs.length+1:=by
  unfold putK
  split
  · rw [List.length_map];omega
  · rw [List.length_append,List.length_cons,List.length_nil];omega
theorem RelO.isSome_eq {o:Option V} {u:Option Value} (r:RelO o u):o.isSome=u.isSome:=by
  cases o with
  | none=>cases u with
    | none=>rfl
    | some _=>exact (show False from r).elim
  | some _=>cases u with
    | none=>exact (show False from r).elim
    | some _=>rfl
theorem RelO.getD {o:Option V} {u:Option Value} {d:V} {d':Value} (r:RelO o u) (rd:RelV d d'):RelV (o.getD d) (u.getD d'):=by
  cases o with
  | none=>cases u with
    | none=>exact rd
    | some _=>exact (show False from r).elim
  | some _=>cases u with
    | none=>exact (show False from r).elim
    | some _=>exact r
theorem KV.val {kvs:List (κ × V)} {vs:List (κ × Value)} (r:KV kvs vs) (k:κ):RelO (valV kvs k) (valueAt vs k):=by
  unfold KV at r
  induction r with
  | nil=>exact True.intro
  | @cons p q ps qs h t ih =>
    obtain ⟨h1,h2⟩:=h
    by_cases e:p.1=k
    · have e':q.1=k:=h1.symm.trans e
      have b:valueAt (q :: qs) k=some q.2:=by simp [valueAt,List.find?_cons,e']
      rw [valV_pos e,b];exact h2
    · have e':¬ q.1=k:=fun z=>e (h1.trans z)
      have b:valueAt (q :: qs) k=valueAt qs k:=by simp [valueAt,List.find?_cons,e']
      rw [valV_neg e,b];exact ih
theorem KV.any {kvs:List (κ × V)} {vs:List (κ × Value)} (r:KV kvs vs) (k:κ):(kvs.any fun kv=>decide (kv.1=k))=vs.any fun kv=>decide (kv.1=k):=by
  unfold KV at r
  induction r with
  | nil=>rfl
  | cons h t ih=>rw [List.any_cons,List.any_cons,ih,h.1]
theorem KV.repl {kvs:List (κ × V)} {vs:List (κ × Value)} (r:KV kvs vs) (k:κ) {y:V} {u:Value} (ry:RelV y u) :
    KV (kvs.map fun kv=>if kv.1=k then (kv.1,y) else kv) (vs.map fun kv=>if kv.1=k then (kv.1,u) else kv):=by
  unfold KV at r ⊢
  induction r with
  | nil=>exact .nil
  | @cons p q ps qs h t ih =>
    rw [List.map_cons,List.map_cons]
    refine .cons ?_ ih
    obtain ⟨h1,h2⟩:=h
    by_cases e:p.1=k
    · rw [if_pos e,if_pos (h1.symm.trans e)];exact ⟨h1,ry⟩
    · rw [if_neg e,if_neg (fun z=>e (h1.trans z))];exact ⟨h1,h2⟩
theorem KV.put {kvs:List (κ × V)} {vs:List (κ × Value)} (r:KV kvs vs) (k:κ) {y:V} {u:Value} (ry:RelV y u):KV (putK kvs k y) (stored vs k u):=by
  unfold putK stored
  rw [r.any k]
  by_cases e:(vs.any fun kv=>decide (kv.1=k))=true
  · rw [if_pos e,if_pos e];exact r.repl k ry
  · rw [if_neg e,if_neg e];exact Paired.snoc r ⟨rfl,ry⟩
theorem KV.length {kvs:List (κ × V)} {vs:List (κ × Value)} (r:KV kvs vs):kvs.length=vs.length:=Paired.length r
end
theorem kV_is {P:Program} {w:World} {k:Key} {u:Value} (r:RelV (kV k) u):(mixKind P w).is k u=true:=by
  cases k with
  | inl i=>obtain ⟨t,e⟩:=(show ∃ t,u=Value.int i t from r);subst e;exact mixKind_int P w i t
  | inr x=>obtain ⟨t,e⟩:=(show ∃ t,u=Value.str x t from r);subst e;exact mixKind_str P w x t
theorem items_are {P:Program} {w:World}:∀ {ks:List Key} {us:List Value},Vals (ks.map kV) us→ItemsAre (mixKind P w) ks us
  | [],_,r=>by rw [List.map_nil] at r;cases r;exact .nil
  | k :: ks,_,r=>by
    rw [List.map_cons] at r
    cases r with
    | cons h t=>exact .cons (kV_is h) (items_are t)
abbrev KT (H:Hp):List (List Key × V)→List (List Key × Addr × Value)→Prop:=Paired fun p q=>p.1=q.1∧H q.2.1=some (.tup (p.1.map kV))∧RelV p.2 q.2.2
theorem KT.val {H:Hp} {kvs:List (List Key × V)} {xs:List (List Key × Addr × Value)} (r:KT H kvs xs) (k:List Key):RelO (valV kvs k) ((atKey xs k).map (·.2)):=by
  induction r with
  | nil=>exact True.intro
  | @cons p q ps qs h t ih =>
    obtain ⟨h1,_,h2⟩:=h
    by_cases e:p.1=k
    · have e':q.1=k:=h1.symm.trans e
      have b:atKey (q :: qs) k=some q.2:=by simp [atKey,List.find?_cons,e']
      rw [valV_pos e,b];exact h2
    · have e':¬ q.1=k:=fun z=>e (h1.trans z)
      have b:atKey (q :: qs) k=atKey qs k:=by simp [atKey,List.find?_cons,e']
      rw [valV_neg e,b];exact ih
theorem KT.repl {H:Hp} {kvs:List (List Key × V)} {xs:List (List Key × Addr × Value)} (r:KT H kvs xs) (k:List Key) {y:V} {u:Value} (ry:RelV y u) :
    KT H (kvs.map fun kv=>if kv.1=k then (kv.1,y) else kv) (xs.map (putAt k u)):=by
  induction r with
  | nil=>exact .nil
  | @cons p q ps qs h t ih =>
    rw [List.map_cons,List.map_cons]
    refine .cons ?_ ih
    obtain ⟨h1,h2,h3⟩:=h
    unfold putAt
    by_cases e:p.1=k
    · rw [if_pos e,if_pos (h1.symm.trans e)];exact ⟨h1,h2,ry⟩
    · rw [if_neg e,if_neg (fun z=>e (h1.trans z))];exact ⟨h1,h2,h3⟩
theorem KT.put {H:Hp} {kvs:List (List Key × V)} {xs:List (List Key × Addr × Value)} (r:KT H kvs xs) (k:List Key) {b:Addr} {y:V} {u:Value} (hb:H b=some (.tup (k.map kV))) (ry:RelV y u) :
    KT H (putK kvs k y) (storedH xs k b u):=by
  have e:(kvs.any fun kv=>decide (kv.1=k))=(atKey xs k).isSome:=by
    rw [valV_any,(r.val k).isSome_eq,Option.isSome_map]
  unfold putK storedH
  rw [e]
  by_cases q:(atKey xs k).isSome=true
  · rw [if_pos q,if_pos q];exact r.repl k ry
  · rw [if_neg q,if_neg q];exact Paired.snoc r ⟨rfl,hb,ry⟩
theorem KT.keeps {H H':Hp} {kvs:List (List Key × V)} {xs:List (List Key × Addr × Value)} (r:KT H kvs xs) (ht:∀ b ys,H b=some (.tup ys)→H' b=some (.tup ys)):KT H' kvs xs :=
  Paired.mapP r fun _ _ z=>⟨z.1,ht _ _ z.2.1,z.2.2⟩
section
variable {P:Program} {w:World} {H:Hp} {h:Heap} {a:Addr}
theorem rd_of {u:HO} (ok:HOk P w H h) (e:Rd H a u):ObjOk P w H h a u:=e.ok ok
theorem dk_rd {kvs:List (Key × V)} (ok:HOk P w H h) (e:Rd H a (.dK kvs)):kvs.length≤sizeLine∧(a == sysModules)=false∧∃ vs,KV kvs vs∧h.DictOf (mixKind P w) a vs :=
  show ObjOk P w H h a (.dK kvs) from rd_of ok e
theorem dk_of {kvs:List (Key × V)} (ok:HOk P w H h) (e:H a=some (.dK kvs)):kvs.length≤sizeLine∧(a == sysModules)=false∧∃ vs,KV kvs vs∧h.DictOf (mixKind P w) a vs:=dk_rd ok (.inl e)
theorem key_of {ks:List Key} (ok:HOk P w H h) (e:H a=some (.tup (ks.map kV))):(tupleKind (mixKind P w)).is h ks a:=by
  obtain ⟨_,its,r,o,h1,h2,n,h3⟩:=old_tup (show ObjOk P w H h a (.tup (ks.map kV)) from ok a _ e)
  exact ⟨o,its.toArray,n,h1,h2,h3,by simpa using items_are r⟩
theorem dt_rd {kvs:List (List Key × V)} (ok:HOk P w H h) (e:Rd H a (.dT kvs)):kvs.length≤sizeLine∧(a == sysModules)=false ∧
    ∃ xs,KT H kvs xs∧h.DictOfH (tupleKind (mixKind P w)) a xs:=by
  obtain ⟨z,y,xs,r,o,es,ep,h1,h2,h3,h4,h5⟩:=(show ObjOk P w H h a (.dT kvs) from rd_of ok e)
  refine ⟨z,y,xs,r,o,es,ep,h1,h2,h3,h4,fun x hx=>?_,h5⟩
  have all:∀ {l:List (List Key × V)} {m:List (List Key × Addr × Value)},KT H l m→∀ x∈m,(tupleKind (mixKind P w)).is h x.1 x.2.1:=by
    intro l m q
    induction q with
    | nil=>intro x hx;exact nomatch hx
    | @cons p q ps qs hq t ih =>
      intro x hx
      rcases List.mem_cons.mp hx with e | hx
      · subst e
        exact key_of ok (by rw [←hq.1];exact hq.2.1)
      · exact ih x hx
  exact all r x hx
theorem dt_of {kvs:List (List Key × V)} (ok:HOk P w H h) (e:H a=some (.dT kvs)):kvs.length≤sizeLine∧(a == sysModules)=false ∧
    ∃ xs,KT H kvs xs∧h.DictOfH (tupleKind (mixKind P w)) a xs:=dt_rd ok (.inl e)
end
def DGet (H:Hp) (a:Addr) (y:V) (r:Option V):Prop :=
  (∃ kvs k,Rd H a (.dK kvs)∧y=kV k∧r=valV kvs k)∨∃ kvs k b,Rd H a (.dT kvs)∧y=.ref b∧H b=some (.tup (k.map kV))∧r=valV kvs k
def DPut (H:Hp) (a:Addr) (y v:V) (H':Hp):Prop :=
  (∃ kvs k,H a=some (.dK kvs)∧y=kV k∧kvs.length < sizeLine∧H'=upd H a (.dK (putK kvs k v))) ∨
  ∃ kvs k b,H a=some (.dT kvs)∧y=.ref b∧H b=some (.tup (k.map kV))∧kvs.length < sizeLine∧H'=upd H a (.dT (putK kvs k v))
theorem DGet.k {H:Hp} {a:Addr} {kvs:List (Key × V)} {k:Key} (e:H a=some (.dK kvs)):DGet H a (kV k) (valV kvs k):=.inl ⟨kvs,k,.inl e,rfl,rfl⟩
theorem DGet.t {H:Hp} {a b:Addr} {kvs:List (List Key × V)} {k:List Key} (e:H a=some (.dT kvs)) (eb:H b=some (.tup (k.map kV))):DGet H a (.ref b) (valV kvs k):=.inr ⟨kvs,k,b,.inl e,rfl,eb,rfl⟩
theorem DPut.k {H:Hp} {a:Addr} {kvs:List (Key × V)} {k:Key} {v:V} (e:H a=some (.dK kvs)) (hl:kvs.length < sizeLine):DPut H a (kV k) v (upd H a (.dK (putK kvs k v))):=.inl ⟨kvs,k,e,rfl,hl,rfl⟩
theorem DPut.t {H:Hp} {a b:Addr} {kvs:List (List Key × V)} {k:List Key} {v:V} (e:H a=some (.dT kvs)) (eb:H b=some (.tup (k.map kV))) (hl:kvs.length < sizeLine) :
    DPut H a (.ref b) v (upd H a (.dT (putK kvs k v))):=.inr ⟨kvs,k,b,e,rfl,eb,hl,rfl⟩
section
variable {X:Cx} {pins:List (Addr × Obj)} {σ:St} {H:Hp} {s:Shared} {a:Addr} {y v:V} {u r:Value} {o:Option V} {A:Around} {E:Value→Shared→Prop}
theorem Inv.big (I:Inv X pins σ H s):sysModules < s.heap.objs.size:=by
  have h:mainGlobals < s.heap.objs.size:=(I.mod.glob.keeps I.bk).lt
  exact Nat.lt_trans (by decide) h
theorem d_getItem {Q:Value→Shared→Prop} (hu:A.units+1 < cLine) (I:Inv X pins σ H s) (g:DGet H a y (some v)) (ry:RelV y u) (h:∀ w' s',Inv X pins σ H s'→RelV v w'→Q w' s') :
    wpAny (model X.prog X.w) A (getItem (.ref a) u) Q E s:=by
  rcases g with ⟨kvs,k,e,ey,l⟩ | ⟨kvs,k,b,e,ey,eb,l⟩
  · subst ey
    obtain ⟨z,hd,vs,rel,dd⟩:=dk_rd I.hok e
    obtain ⟨w',hw,rw'⟩:=RelO.some_of (v:=v) (o:=valueAt vs k) (by rw [l];exact rel.val k)
    exact wpAny_getItem_of (kV_is ry) dd.mapOf hw (h w' _ (I.tok _) rw')
  · subst ey
    cases (show u=Value.ref b from ry)
    obtain ⟨z,hd,xs,rel,dd⟩:=dt_rd I.hok e
    obtain ⟨w',hw,rw'⟩:=RelO.some_of (v:=v) (o:=(atKey xs k).map (·.2)) (by rw [l];exact rel.val k)
    obtain ⟨p,hp,hp2⟩:=Option.map_eq_some_iff.mp hw
    refine wpAny_getItem_heap (tupleKind_room_in1 hu) (key_of I.hok eb) dd hp ?_
    rw [hp2]
    exact h w' _ (I.tok _) rw'
theorem d_write {h':Heap} {t':Nat} {ob:HO} (I:Inv X pins σ H s) (mu:Mut (H a)) (hs:Heap.SameBut a s.heap h') (he:∃ q,h'.get? a=some q) (new:ObjOk X.prog X.w (upd H a ob) h' a ob) :
    Inv X pins σ (upd H a ob) { s with heap:=h',toks:=t' } :=
  I.write (x:=a) (e:=a) mu (.inl rfl) (fun b q hb z=>(hs.2 b hb).trans z) he new
theorem dk_new {P:Program} {w:World} {H':Hp} {h':Heap} {kvs:List (Key × V)} {vs:List (Key × Value)} (z:kvs.length≤sizeLine) (hd:(a == sysModules)=false) (rel:KV kvs vs) (dd:h'.DictOf (mixKind P w) a vs) :
    ObjOk P w H' h' a (.dK kvs):=⟨z,hd,vs,rel,dd⟩
theorem d_setItem {H':Hp} {Q:Unit→Shared→Prop} (hu:A.units+1 < cLine) (I:Inv X pins σ H s) (g:DPut H a y v H') (ry:RelV y u) (rv:RelV v r) (h:∀ s',Inv X pins σ H' s'→Q () s') :
    wpAny (model X.prog X.w) A (setItem (.ref a) u r) Q E s:=by
  rcases g with ⟨kvs,k,e,ey,l,eH⟩ | ⟨kvs,k,b,e,ey,eb,l,eH⟩
  · subst ey eH
    obtain ⟨z,hd,vs,rel,dd⟩:=dk_of I.hok e
    have hz:vs.length≤sizeLine:=by rw [←rel.length];exact z
    have hl:(putK kvs k v).length≤sizeLine:=by have:=length_putK kvs k v;omega
    refine wpAny_setItem_pairs (hsz:=hz) (kV_is ry) dd fun h' dd' hs=>h _ ?_
    have he:∃ q,h'.get? a=some q:=let ⟨q,_,_,hq,_⟩:=dd';⟨q,hq⟩
    exact d_write I (by rw [e];exact True.intro) hs he (dk_new hl hd (rel.put k rv) dd')
  · subst ey eH
    cases (show u=Value.ref b from ry)
    obtain ⟨z,hd,xs,rel,dd⟩:=dt_of I.hok e
    have hz:xs.length≤sizeLine:=by rw [←Paired.length rel];exact z
    have hl:(putK kvs k v).length≤sizeLine:=by have:=length_putK kvs k v;omega
    refine wpAny_setItem_heap (hsz:=hz) (tupleKind_room_in1 hu) (key_of I.hok eb) dd fun h' dd' hs=>h _ ?_
    obtain ⟨q,es,ep,hq,h2,h3,h4,_,h5⟩:=dd'
    refine d_write I (by rw [e];exact True.intro) hs ⟨q,hq⟩ ⟨hl,hd,_,(rel.put k eb rv).keeps fun c ys ec=>?_,q,es,ep,hq,h2,h3,h4,h5⟩
    rw [upd_ne (ne_of ec e (fun z=>nomatch z))]
    exact ec
end
section
variable {X:Cx} {pins:List (Addr × Obj)} {σ:St} {H:Hp} {s:Shared} {a:Addr} {kvs:List (Key × V)} {k:Key} {u:Value} {A:Around} {E:Value→Shared→Prop}
end
def NoSl (i:Expr):Prop:=∀ ov iv,subscripted i false ov iv=operate [ov,iv] (getItem ov iv)
theorem subD_of {prog:Program} {w:World} {A:Around} {E:Value→Shared→Prop} {s:Shared} {env:Env} {value slice:Expr} {pos:Pos} {T id:String} {Q:Value→Shared→Prop}
    (hl:typeLookup (.type T) "__getitem__"=pure (some (.builtin id))) (hs:NoSl slice)
    (h:wpAny (model prog w) A (eval value env) (fun o s₁=>wpAny (model prog w) A (eval slice env) (fun i s₂=>s₂.TypeIs o T∧wpAny (model prog w) A (getItem o i) Q E s₂) E s₁) E s) :
    wpAny (model prog w) A (eval (.Subscript value slice pos) env) Q E s:=by
  refine Subscript_ (wpAny_mono h (fun o s₁ h₁=>wpAny_mono h₁ (fun i s₂ h₂=>?_) fun _ _ x=>x) fun _ _ x=>x)
  obtain ⟨hT,h₂⟩:=h₂
  unfold subscriptTail
  refine wpAny_bind ?_
  rw [getitemInPython_of_ne hT.not_modules]
  refine wpAny_bind (wpAny_specialOf hT hl ?_)
  have fin:wpAny (model prog w) A (subscripted slice false o i) (fun r s₃=>wpAny (model prog w) A (letTemporaryGo value o r >>= fun _=>pure r) Q E s₃) E s₂:=by
    rw [hs o i]
    exact wpAny_operating (wpAny_mono h₂ (fun r s₃ h₃=>wpAny_bind (wpAny_letTemporaryGo (wpAny_pure h₃))) fun _ _ x=>x)
  first
    | exact wpAny_pure (wpAny_bind fin)
    | exact wpAny_bind (wpAny_pure (wpAny_bind fin))
    | exact wpAny_bind fin
theorem dict_typeIs {X:Cx} {pins:List (Addr × Obj)} {σ:St} {H:Hp} {s:Shared} {a:Addr} {y:V} {o:Option V} (I:Inv X pins σ H s) (g:DGet H a y o):s.TypeIs (.ref a) "dict":=by
  rcases g with ⟨kvs,k,e,_,_⟩ | ⟨kvs,k,b,e,_,_,_⟩
  · obtain ⟨_,_,vs,_,dd⟩:=dk_rd I.hok e
    exact dd.typeIs
  · obtain ⟨_,_,xs,_,dd⟩:=dt_rd I.hok e
    exact dd.typeIs
def tDGet (td ty:TE):TE:=fun σ H Q=>td σ H fun x H1=>ty σ H1 fun y H2=>∃ a v,x=.ref a∧DGet H2 a y (some v)∧Q v H2
def tDIn (ty td:TE):TE:=fun σ H Q=>ty σ H fun y H1=>td σ H1 fun x H2=>∃ a o,x=.ref a∧DGet H2 a y o∧Q (.bl o.isSome) H2
def sDPut (td ty tv:TE):TS:=fun D σ H=>tv σ H fun v H1=>td σ H1 fun x H2=>ty σ H2 fun y H3=>∃ a H4,x=.ref a∧DPut H3 a y v H4∧D.nx σ H4
def sDAug (td ty tv:TE) (rd:V→V→Hp→VK→Prop):TS:=fun D σ H=>td σ H fun x H1=>ty σ H1 fun y H2=>∃ a v,x=.ref a∧DGet H2 a y (some v) ∧
  tv σ H2 fun y2 H3=>rd v y2 H3 fun z H4=>∃ H5,DPut H4 a y z H5∧D.nx σ H5
def sDDel (td ty:TE):TS:=fun D σ H=>td σ H fun x H1=>ty σ H1 fun y H2=>∃ a kvs k,x=.ref a∧H2 a=some (.dK kvs)∧y=kV k∧(valV kvs k).isSome=true∧D.nx σ (upd H2 a (.dK (dropK kvs k)))
section
variable {X:Cx} {o i e value:Expr} {pos pos' tpos:Pos} {td ty tv:TE}
theorem pe_dget (hu:X.A.units+1 < cLine) (ho:PE X o td) (hi:PE X i ty) (hs:NoSl i):PE X (.Subscript o i pos) (tDGet td ty):=by
  intro pins s σ H Q I h
  refine subD_of PySem.F.slot_dict_getitem.lookup hs (thn (ho pins s σ H _ I h) fun u s1 ⟨x,H1,I1,rx,q1⟩=>thn (hi pins s1 σ H1 _ I1 q1) fun iv s2 ⟨y,H2,I2,ry,a,v,ex,g,q2⟩=>?_)
  subst ex
  obtain rfl:u=Value.ref a:=rx
  exact ⟨dict_typeIs I2 g,d_getItem hu I2 g ry fun w' s3 I3 rw'=>⟨v,H2,I3,rw',q2⟩⟩
theorem ps_dput (hu:X.A.units+1 < cLine) (ho:PE X o td) (hi:PE X i ty) (hv:PE X value tv) (hs:swapsWith value (some (.Subscript o i pos')) pos.line X.env=pure false) :
    PS X (.Assign [.Subscript o i pos'] value pos) (sDPut td ty tv):=by
  intro pins s σ H D I h
  refine wpAny_Assign_Subscript (thn (hv pins s σ H _ I h) fun r s1 ⟨v,H1,I1,rv,q1⟩=>thn (ho pins s1 σ H1 _ I1 q1) fun u s2 ⟨x,H2,I2,rx,q2⟩=>thn (hi pins s2 σ H2 _ I2 q2) fun iv s3 ⟨y,H3,I3,ry,a,H4,ex,g,q3⟩=>?_) hs
  subst ex
  obtain rfl:u=Value.ref a:=rx
  exact d_setItem hu I3 g ry rv fun s4 I4=>⟨σ,H4,I4,q3⟩
end
theorem dk_empty {P:Program} {w:World} {H:Hp} (h:Heap) (hb:sysModules < h.objs.size):ObjOk P w H (h.push { cls:=.type "dict",data:=.dict #[] }) h.objs.size (.dK []) :=
  ⟨Nat.zero_le _,beq_eq_false_iff_ne.mpr (Ne.symm (Nat.ne_of_lt hb)),[],.nil,Heap.DictOf.new h⟩
theorem dt_empty {P:Program} {w:World} {H:Hp} (h:Heap) (hb:sysModules < h.objs.size):ObjOk P w H (h.push { cls:=.type "dict",data:=.dict #[] }) h.objs.size (.dT []) :=
  ⟨Nat.zero_le _,beq_eq_false_iff_ne.mpr (Ne.symm (Nat.ne_of_lt hb)),[],.nil,_,#[],0,Heap.get?_push_size _ rfl,⟨rfl,rfl,rfl⟩,rfl,rfl,List.nodup_nil⟩
def tDNewK:TE:=fun _ H Q=>∀ p,H p=none→Q (.ref p) (upd H p (.dK []))
def tDNewT:TE:=fun _ H Q=>∀ p,H p=none→Q (.ref p) (upd H p (.dT []))
section
variable {X:Cx} {pos:Pos}
theorem pe_dnewT:PE X (.Dict [] [] pos) tDNewT:=fun pins s σ H Q I h =>
  wpAny_Dict_empty ⟨.ref s.heap.objs.size,_,I.laid (a:=s.heap.objs.size) (o:=.dT []) (t':=s.toks) (fun _ _ q=>Heap.get?_push_of_some _ q) (Nat.le_refl _) (dt_empty s.heap I.big),rfl,h _ (I.hok.fresh (Nat.le_refl _))⟩
end
def tPairs:List (TE × TE)→St→Hp→(List (V × V)→Hp→Prop)→Prop
  | [],_,H,Q=>Q [] H
  | (tk,tv) :: r,σ,H,Q=>tk σ H fun x H1=>tv σ H1 fun y H2=>tPairs r σ H2 fun ps H3=>Q ((x,y) :: ps) H3
abbrev VV:List (V × V)→List (Value × Value)→Prop:=Paired fun p q=>RelV p.1 q.1∧RelV p.2 q.2
def PPs (X:Cx) (pos:Pos) (keys:List (Option Expr)) (values:List Expr) (trs:List (TE × TE)):Prop :=
  ∀ (pins:List (Addr × Obj)) (s:Shared) (σ:St) (H:Hp) (Q:List (V × V)→Hp→Prop),Inv X pins σ H s→tPairs trs σ H Q →
    wpAny (model X.prog X.w) X.A (evalPairs (pairTrees keys values X.env pos)) (fun vs s'=>∃ ps H',Inv X pins σ H' s'∧VV ps vs∧Q ps H') X.xe s
theorem pps_nil {X:Cx} {pos:Pos}:PPs X pos [] [] []:=fun pins s σ H Q I h=>pairTrees_nil_walk ⟨[],H,I,.nil,h⟩
theorem pps_cons {X:Cx} {pos:Pos} {k v:Expr} {ks:List (Option Expr)} {vs:List Expr} {tk tv:TE} {trs:List (TE × TE)} (hk:PE X k tk) (hv:PE X v tv) (hr:PPs X pos ks vs trs) :
    PPs X pos (some k :: ks) (v :: vs) ((tk,tv) :: trs):=fun pins s σ H Q I h =>
  pairTrees_cons_walk (thn (hk pins s σ H _ I h) fun u s1 ⟨x,H1,I1,rx,q1⟩=>thn (hv pins s1 σ H1 _ I1 q1) fun w2 s2 ⟨y,H2,I2,ry,q2⟩ =>
    thn (hr pins s2 σ H2 _ I2 q2) fun ws s3 ⟨ps,H3,I3,rel,q3⟩=>⟨(x,y) :: ps,H3,I3,.cons ⟨rx,ry⟩ rel,q3⟩)
def mergeK (kvs more:List (Key × V)):List (Key × V):=more.foldl (fun acc kv=>putK acc kv.1 kv.2) kvs
theorem KV.merge:∀ {more:List (Key × V)} {rs:List (Key × Value)} {kvs:List (Key × V)} {vs:List (Key × Value)},KV more rs→KV kvs vs→KV (mergeK kvs more) (merged vs rs):=by
  intro more rs kvs vs r
  unfold KV at r
  induction r generalizing kvs vs with
  | nil=>intro q;exact q
  | @cons p q ps qs h t ih =>
    intro r0
    have e:KV (putK kvs p.1 p.2) (stored vs q.1 q.2):=by
      have:=r0.put p.1 h.2
      rw [←h.1];exact this
    exact ih e
theorem length_mergeK:∀ (more kvs:List (Key × V)),(mergeK kvs more).length≤kvs.length+more.length
  | [],kvs=>by show kvs.length≤kvs.length+0;omega
  | p :: r,kvs=>by
    have h1:=length_mergeK r (putK kvs p.1 p.2)
    have h2:=length_putK kvs p.1 p.2
    show (mergeK (putK kvs p.1 p.2) r).length≤_
    rw [List.length_cons];omega
theorem carries_of {P:Program} {w:World}:∀ {kvs:List (Key × V)} {ws:List (Value × Value)},VV (kvs.map fun kv=>(kV kv.1,kv.2)) ws→∃ rs,Carries (mixKind P w) ws rs∧KV kvs rs
  | [],_,r=>by rw [List.map_nil] at r;cases r;exact ⟨[],True.intro,.nil⟩
  | p :: kvs,_,r=>by
    rw [List.map_cons] at r
    cases r with
    | @cons a b as bs h t =>
      obtain ⟨rs,c,q⟩:=carries_of (P:=P) (w:=w) t
      obtain ⟨b1,b2⟩:=b
      exact ⟨(p.1,b2) :: rs,⟨kV_is h.1,rfl,c⟩,.cons ⟨rfl,h.2⟩ q⟩
def tDisp (trs:List (TE × TE)):TE:=fun σ H Q=>∀ p,H p=none→tPairs trs σ (upd H p (.dK [])) fun ps H2=>H2 p=some (.dK [])∧∃ kvs:List (Key × V),ps=kvs.map (fun kv=>(kV kv.1,kv.2))∧kvs.length≤15∧Q (.ref p) (upd H2 p (.dK (mergeK [] kvs)))
theorem pe_disp {X:Cx} {pos:Pos} {keys:List (Option Expr)} {values:List Expr} {trs:List (TE × TE)} (h:PPs X pos keys values trs) (hall:keys.all (·.isSome)=true) (hl:keys.length=values.length) (h0:keys≠[])
    (h15:keys.length≤15):PE X (.Dict keys values pos) (tDisp trs):=by
  intro pins s σ H Q I q
  have hn:=I.hok.fresh (Nat.le_refl s.heap.objs.size)
  have I1:=I.laid (a:=s.heap.objs.size) (o:=.dK []) (h':=s.heap.push { cls:=.type "dict",data:=.dict #[] }) (t':=s.toks) (fun _ _ q=>Heap.get?_push_of_some _ q) (Nat.le_refl _) (dk_empty s.heap I.big)
  refine wpAny_Dict_walk (knd:=mixKind X.prog X.w) hall hl h0 h15 (thn (h pins _ σ _ _ I1 (q _ hn)) fun ws s2 ⟨ps,H2,I2,rel,e,kvs,ep,lk,q2⟩=>?_)
  subst ep
  obtain ⟨rs,c,rk⟩:=carries_of (P:=X.prog) (w:=X.w) rel
  obtain ⟨z,hd,vs0,r0,dd⟩:=dk_of I2.hok e
  cases r0
  refine ⟨rs,c,dd,fun h' dd' hs=>⟨.ref s.heap.objs.size,_,?_,rfl,q2⟩⟩
  have hz:(mergeK [] kvs).length≤sizeLine:=by
    have h1:=length_mergeK kvs []
    rw [List.length_nil] at h1
    rw [sizeLine_eq];omega
  have he:∃ q,h'.get? s.heap.objs.size=some q:=let ⟨q,_,_,hq,_⟩:=dd';⟨q,hq⟩
  exact d_write I2 (by rw [e];exact True.intro) hs he (dk_new hz hd (rk.merge .nil) dd')
structure M1 (X:Cx) (o:Expr) (m:Str) (apos:Pos) (e:Expr) (cpos:Pos):Prop where
  base:attributeBase o m X.env (eval o X.env)=eval o X.env
  few:((backTo cpos (starEach [e] X.env)).all (fun x=>!x.1) && (backToKw cpos (keywordEach [] X.env)).all (fun x=>x.1.isSome)
    && decide (([e]:List Expr).length+([]:List Keyword).length+(if ([]:List Keyword).isEmpty then 0 else 1) < 30))=true
  line:(apos.endLine == cpos.line)=true
  trees:backTo cpos (starEach [e] X.env)=[(false,eval e X.env)]
structure M2 (X:Cx) (o:Expr) (m:Str) (apos:Pos) (e f:Expr) (cpos:Pos):Prop where
  base:attributeBase o m X.env (eval o X.env)=eval o X.env
  few:((backTo cpos (starEach [e,f] X.env)).all (fun x=>!x.1) && (backToKw cpos (keywordEach [] X.env)).all (fun x=>x.1.isSome)
    && decide (([e,f]:List Expr).length+([]:List Keyword).length+(if ([]:List Keyword).isEmpty then 0 else 1) < 30))=true
  line:(apos.endLine == cpos.line)=true
  trees:backTo cpos (starEach [e,f] X.env)=[(false,eval e X.env),(false,eval f X.env)]
def IsD (H:Hp) (a:Addr):Prop:=(∃ kvs,Rd H a (.dK kvs))∨∃ kvs,Rd H a (.dT kvs)
theorem isD_at {X:Cx} {pins:List (Addr × Obj)} {σ:St} {H:Hp} {s:Shared} {a:Addr} (I:Inv X pins σ H s) (d:IsD H a) :
    s.TypeIs (.ref a) "dict"∧(∀ b,Value.ref a=.ref b→∃ ob,s.heap.get? b=some ob∧ob.dict=none)∧(a == sysModules)=false:=by
  rcases d with ⟨kvs,e⟩ | ⟨kvs,e⟩
  · obtain ⟨_,hd,vs,_,dd⟩:=dk_rd I.hok e
    refine ⟨dd.typeIs,fun b q=>?_,hd⟩
    cases q
    obtain ⟨ob,_,_,h1,h2,_⟩:=dd
    exact ⟨ob,h1,h2.2.1⟩
  · obtain ⟨_,hd,xs,_,dd⟩:=dt_rd I.hok e
    refine ⟨dd.typeIs,fun b q=>?_,hd⟩
    cases q
    obtain ⟨ob,_,_,h1,h2,_⟩:=dd
    exact ⟨ob,h1,h2.2.1⟩
section
variable {X:Cx} {pins:List (Addr × Obj)} {σ:St} {H:Hp} {s:Shared} {a:Addr} {y d:V} {u r:Value} {o:Option V} {A:Around} {E:Value→Shared→Prop}
theorem d_get2 {Q:Value→Shared→Prop} (hu:A.units+1 < cLine) (I:Inv X pins σ H s) (g:DGet H a y o) (ry:RelV y u) (rd:RelV d r) (h:∀ w' s',Inv X pins σ H s'→RelV (o.getD d) w'→Q w' s') :
    wpAny (model X.prog X.w) A (call (.builtin "dict.get") [.ref a,u,r]) Q E s:=by
  rcases g with ⟨kvs,k,e,ey,l⟩ | ⟨kvs,k,b,e,ey,eb,l⟩
  · subst ey
    obtain ⟨z,hd,vs,rel,dd⟩:=dk_rd I.hok e
    refine call_meetsIn PySem.F.slot_dict_get dd.typeIs PySem.F.entry_dict_get (PySem.F.args_dict_get_3 _ _ _) (meets_dict_get_default (mixKind X.prog X.w) a (kV_is ry) hd r) ⟨_,dd.mapOf,h _ _ (I.tok _) ?_⟩
    rw [l]
    exact (rel.val k).getD rd
  · subst ey
    cases (show u=Value.ref b from ry)
    obtain ⟨z,hd,xs,rel,dd⟩:=dt_rd I.hok e
    refine call_meetsIn PySem.F.slot_dict_get dd.typeIs PySem.F.entry_dict_get (PySem.F.args_dict_get_3 _ _ _) (meetsH_dict_get_default (tupleKind (mixKind X.prog X.w)) a b hd r) ⟨tupleKind_room_in1 hu,k,xs,key_of I.hok eb,dd,h _ _ (I.tok _) ?_⟩
    rw [l]
    exact (rel.val k).getD rd
end
def tDGet2 (td ty tx:TE):TE:=fun σ H Q=>td σ H fun x H1=>∃ a,x=.ref a∧IsD H1 a∧ty σ H1 fun y H2=>tx σ H2 fun z H3=>∃ o,DGet H3 a y o∧Q (o.getD z) H3
def tDPop1 (td ty:TE):TE:=fun σ H Q=>td σ H fun x H1=>∃ a,x=.ref a∧IsD H1 a∧ty σ H1 fun y H2=>∃ kvs k v,H2 a=some (.dK kvs)∧y=kV k∧valV kvs k=some v∧Q v (upd H2 a (.dK (dropK kvs k)))
section
variable {X:Cx} {o e f:Expr} {apos cpos:Pos} {td ty tx:TE}
theorem pe_dget2 (hu:X.A.units+1 < cLine) (ho:PE X o td) (he:PE X e ty) (hf:PE X f tx) (m:M2 X o "get" apos e f cpos):PE X (.Call (.Attribute o "get" apos) [e,f] [] cpos) (tDGet2 td ty tx):=by
  intro pins s σ H Q I h
  refine wpAny_Call_method m.base m.few m.line PySem.F.plainAttrs_dict PySem.F.slot_dict_get PySem.F.type_dict_get (thn (ho pins s σ H _ I h) fun u s1 ⟨x,H1,I1,rx,a,ex,d,q1⟩=>?_)
  subst ex
  obtain rfl:u=Value.ref a:=rx
  obtain ⟨t1,t2,_⟩:=isD_at I1 d
  refine ⟨t1,t2,?_⟩
  rw [m.trees]
  refine Calls.callWith_builtin rfl (Calls.evalArgs_plain (Calls.spliced_cons (thn (he pins s1 σ H1 _ I1 q1) fun iv s2 ⟨y,H2,I2,ry,q2⟩ =>
    Calls.spliced_cons (thn (hf pins s2 σ H2 _ I2 q2) fun fv s3 ⟨z,H3,I3,rz,ov,g,q3⟩=>Calls.spliced_nil ?_))))
  exact d_get2 hu I3 g ry rz fun w' s4 I4 rw'=>⟨_,H3,I4,rw',q3⟩
end
section
variable {X:Cx} {pins:List (Addr × Obj)} {σ:St} {H:Hp} {s:Shared} {a:Addr} {kvs:List (Key × V)} {A:Around} {E:Value→Shared→Prop}
end
section
variable {X:Cx} {pins:List (Addr × Obj)} {σ:St} {H:Hp} {s:Shared} {a:Addr} {y:V} {u:Value} {A:Around} {E:Value→Shared→Prop}
end
end L2
set_option Elab.async false
set_option linter.all false
set_option maxRecDepth 100000
namespace L2
open PySem PySem.Spec PyProof.Rows
section
variable {prog:Program} {w:World} {A:Around} {E:Value→Shared→Prop} {s:Shared} {k:Bool} {ee it l:Addr} {n:Nat} {xs:Array Value} {x old:Value}
theorem enumS_item {Q:Value→Shared→Prop} (he:IsEnum s.heap ee it n old) (hi:SIt k s.heap it l n) (hl:SAt k s.heap l xs) (hx:xs[n]?=some x) (hne:ee≠it)
    (hQ:∀ h',IsEnumOut h' ee it ((n:Int)+1) x s.heap.objs.size→SIt k h' it l (n+1)→h'.get? s.heap.objs.size=some { cls:=.type "tuple",data:=.seq #[.int n s.toks,x] } →
      (∀ b o,b≠ee→b≠it→s.heap.get? b=some o→h'.get? b=some o)→Q (.ref s.heap.objs.size) { s with heap:=h',toks:=s.toks+1 }) :
    wpAny (model prog w) A (Builtin.«enumerate.__next__» ⟨[.ref ee],[]⟩) (fun fin s'=>∃ v,fin=.done (.ret v)∧Q v s') E s:=by
  obtain ⟨hp,g,d,tk,os⟩:=s
  show wpAny _ _ (field (.ref ee) 2 >>= _) _ _ _
  refine wpAny_bind (wpAny_field he rfl (x:=.ref it) rfl (wpAny_bind (nextS hi hl hx fun g1 i1 b1=>?_)))
  replace b1:Heap.SameBut it hp g1:=b1
  have e1:IsEnum g1 ee it n old:=(b1.2 ee hne).trans he
  show wpAny _ _ (field (.ref ee) 3 >>= _) _ _ ⟨g1,g,d,tk,os⟩
  refine wpAny_bind (wpAny_field e1 rfl (x:=rawInt n) rfl ?_)
  show wpAny _ _ (field (.ref ee) 4 >>= _) _ _ ⟨g1,g,d,tk,os⟩
  refine wpAny_bind (wpAny_field e1 rfl (x:=.none) rfl ?_)
  show wpAny _ _ (mkInt n >>= _) _ _ ⟨g1,g,d,tk,os⟩
  refine wpAny_bind (wpAny_mkInt ?_)
  show wpAny _ _ (setField (.ref ee) 3 (rawInt ((n:Int)+1)) >>= _) _ _ ⟨g1,g,d,tk+1,os⟩
  refine wpAny_bind (wpAny_setField_rec e1 (by simp) fun g2 e2 b2=>?_)
  replace b2:Heap.SameBut ee g1 g2:=b2
  replace e2:IsEnum g2 ee it ((n:Int)+1) old:=e2
  show wpAny _ _ (setField (.ref ee) 4 .none >>= _) _ _ ⟨g2,g,d,tk+1,os⟩
  refine wpAny_bind (wpAny_setField_rec e2 (by simp) fun g3 e3 b3=>?_)
  replace b3:Heap.SameBut ee g2 g3:=b3
  replace e3:IsEnum g3 ee it ((n:Int)+1) old:=e3
  show wpAny _ _ (newTuple [.int n tk,x] >>= _) _ _ ⟨g3,g,d,tk+1,os⟩
  refine wpAny_bind (wpAny_newTuple ?_)
  have e4:IsEnum (g3.push { cls:=.type "tuple",data:=.seq #[.int n tk,x] }) ee it ((n:Int)+1) old:=Heap.get?_push_of_some _ e3
  generalize q4:g3.push { cls:=.type "tuple",data:=.seq #[.int n tk,x] }=g4 at e4
  have sz:g3.objs.size=hp.objs.size:=by rw [b3.1,b2.1,b1.1]
  have lt:ee < hp.objs.size:=Heap.lt_size he
  have t4:g4.get? hp.objs.size=some { cls:=.type "tuple",data:=.seq #[.int n tk,x] }:=by rw [←q4,←sz];exact Heap.get?_push_size _ rfl
  have k4:∀ b o,b≠ee→b≠it→hp.get? b=some o→g4.get? b=some o:=fun b o c1 c2 hb=>by
    rw [←q4];exact Heap.get?_push_of_some _ (b3.extBut b o c1 (b2.extBut b o c1 (b1.extBut b o c2 hb)))
  have i4:SIt k g4 it l (n+1):=i1.at fun o e=>by
    rw [←q4];exact Heap.get?_push_of_some _ (b3.extBut _ _ (Ne.symm hne) (b2.extBut _ _ (Ne.symm hne) e))
  show wpAny _ _ (Builtin.SmallTypes.ownedTupleIsFree (.ref ee) >>= _) _ _ ⟨g4,g,d,tk+1,os⟩
  rw [sz]
  clear q4 e3 b3 e2 b2 e1 b1 i1 sz g3 g2 g1
  refine wpAny_bind ?_
  unfold Builtin.SmallTypes.ownedTupleIsFree
  refine wpAny_bind (wpAny_field e4 rfl (x:=.none) rfl (wpAny_pure ?_))
  simp only [if_true]
  refine wpAny_bind (wpAny_rule (wpAny_bind (wpAny_field e4 rfl (x:=old) rfl (wpAny_bind (wpAny_setField_rec e4 (by simp) fun g5 e5 b5=>?_)))))
  replace b5:Heap.SameBut ee g4 g5:=b5
  replace e5:IsEnum g5 ee it ((n:Int)+1) x:=e5
  show wpAny _ _ (Builtin.SmallTypes.ownedTupleHandOut (.ref ee) (.ref hp.objs.size) >>= _) _ _ ⟨g5,g,d,tk+1,os⟩
  refine wpAny_bind ?_
  unfold Builtin.SmallTypes.ownedTupleHandOut
  refine wpAny_bind (wpAny_setField_rec e5 (by simp) fun g6 e6 b6=>?_)
  replace b6:Heap.SameBut ee g5 g6:=b6
  replace e6:IsEnumOut g6 ee it ((n:Int)+1) x hp.objs.size:=e6
  refine wpAny_setField_rec e6 (by simp) fun g7 e7 b7=>?_
  replace b7:Heap.SameBut ee g6 g7:=b7
  replace e7:IsEnumOut g7 ee it ((n:Int)+1) x hp.objs.size:=e7
  have up:∀ b o,b≠ee→g4.get? b=some o→g7.get? b=some o:=fun b o c1 e=>b7.extBut b o c1 (b6.extBut b o c1 (b5.extBut b o c1 e))
  exact wpAny_bind (wpAny_letGo (wpAny_pure ⟨_,rfl,hQ g7 e7 (i4.at fun o e=>up _ o (Ne.symm hne) e) (up _ _ (Nat.ne_of_gt lt) t4) fun b o c1 c2 e=>up b o c1 (k4 b o c1 c2 e)⟩))
theorem enumS_next {Q:Option Value→Shared→Prop} (he:IsEnum s.heap ee it n old) (hi:SIt k s.heap it l n) (hl:SAt k s.heap l xs) (hx:xs[n]?=some x) (hne:ee≠it)
    (hQ:∀ h',IsEnumOut h' ee it ((n:Int)+1) x s.heap.objs.size→SIt k h' it l (n+1)→h'.get? s.heap.objs.size=some { cls:=.type "tuple",data:=.seq #[.int n s.toks,x] } →
      (∀ b o,b≠ee→b≠it→s.heap.get? b=some o→h'.get? b=some o)→Q (some (.ref s.heap.objs.size)) { s with heap:=h',toks:=s.toks+1 }):wpAny (model prog w) A (pyNext (.ref ee)) Q E s:=by
  have hT:s.TypeIs (.ref ee) "enumerate":=⟨_,he,rfl⟩
  unfold pyNext
  exact wpAny_bind (wpAny_attempt (wpAny_callSpecial?_slot (name:=Str.ofString "__next__") hT F.slot_enumerate_next (wpAny_call_entry F.slot_enumerate_next hT F.entry_enumerate_next
    (enumS_item he hi hl hx hne fun h' a b c d=>wpAny_pure (hQ h' a b c d)) (F.args_enumerate_next_1 _))))
theorem enumS_stop {Q:Option Value→Shared→Prop} (hh:A.handled=none) (he:IsEnum s.heap ee it n old) (hi:SIt k s.heap it l n) (hl:SAt k s.heap l xs) (hx:xs[n]?=none)
    (hQ:∀ h',Heap.ExtBut it s.heap h'→Q none { s with heap:=h' }):wpAny (model prog w) A (pyNext (.ref ee)) Q E s:=by
  have hT:s.TypeIs (.ref ee) "enumerate":=⟨_,he,rfl⟩
  unfold pyNext
  refine wpAny_bind (wpAny_attempt (wpAny_callSpecial?_slot (name:=Str.ofString "__next__") hT F.slot_enumerate_next (wpAny_call_entry F.slot_enumerate_next hT F.entry_enumerate_next ?_ (F.args_enumerate_next_1 _))))
  show wpAny _ _ (field (.ref ee) 2 >>= _) _ _ _
  refine wpAny_bind (wpAny_field he rfl (x:=.ref it) rfl (wpAny_bind (endS hh hi hl hx fun h' e b he'=>?_)))
  obtain ⟨o,ho,hc⟩:=he'
  exact wpAny_bind (wpAny_isInstance (T:="StopIteration") (b:=true) ⟨o,ho,hc⟩ isSubtype_stop (wpAny_pure (hQ _ b)))
theorem meetsE (l:Addr) (xs:Array Value) (n:Nat) (dct:Option Addr) (sl:Array (Option Value)) :
    Meets (Builtin.«enumerate.__new__» ⟨[.type "enumerate",.ref l],[]⟩) (fun _ R s=>s.heap.get? l=some { cls:=.type "tuple",dict:=dct,data:=.seq xs n,slots:=sl } ∧
      R (.ok (.ret (.ref (s.heap.push (itO true l)).objs.size))) { s with heap:=(s.heap.push (itO true l)).push { cls:=.type "enumerate",data:=.fields #[.none,.bool false,.ref s.heap.objs.size,rawInt 0,.none,.none] } }) :=
  .of_wp fun prog w A R s h=>by
    obtain ⟨hp,g,d,tk,os⟩:=s
    obtain ⟨hl,h⟩:=h
    have hsub:=sub_enumerate
    have hL:Heap.IsTuple (Shared.heap ⟨hp,g,d,tk,os⟩) l xs:=⟨_,hl,rfl,n,rfl⟩
    wp_walk using AutoSeq1.wpAny_loadPart' hl
    refine wpAny_stack_any fun st=>wpAny_pure ?_
    split
    · rename_i c _ _ _ _ _
      cases (c == Value.type "enumerate") <;> (wp_walk using AutoSeq1.wpAny_loadPart' hl,wpAny_pyIter_tuple hL) <;> exact ⟨_,rfl,h⟩
    · wp_walk using AutoSeq1.wpAny_loadPart' hl,wpAny_pyIter_tuple hL
      exact ⟨_,rfl,h⟩
structure EAt (k:Bool) (ee it l:Addr) (n:Nat) (h:Heap):Prop where
  en:∃ old,IsEnum h ee it n old
  a1:SIt k h it l n
theorem callE {Q:Value→Shared→Prop} (h1:SAt k s.heap l xs) (h:∀ h',EAt k (s.heap.objs.size+1) s.heap.objs.size l 0 h'→(∀ c o,s.heap.get? c=some o→h'.get? c=some o)→Q (.ref (s.heap.objs.size+1)) { s with heap:=h' }) :
    wpAny (model prog w) A (call (.type "enumerate") [.ref l]) Q E s:=by
  cases k with
  | false=>exact call_enumerate_list h1 fun h' he hi _ kp=>h h' ⟨⟨_,he⟩,hi⟩ kp
  | true =>
    obtain ⟨⟨c,dct,dt,sl⟩,hl,hc,n,hd⟩:=h1
    replace hc:c=.type "tuple":=hc
    replace hd:dt=.seq xs n:=hd
    subst hc hd
    refine callType_new F.called_enumerate (by decide) (F.typeCall_enumerate_1 _) (F.newCall_enumerate_1 _) (fun obj=>F.args_object_init_2 obj _) F.entry_enumerate_new (meetsE l xs n dct sl) ⟨hl,?_⟩
    have z1:(s.heap.push (itO true l)).objs.size=s.heap.objs.size+1:=Heap.size_push ..
    show _∧_
    rw [z1]
    have g1:IsEnum ((s.heap.push (itO true l)).push { cls:=.type "enumerate",data:=.fields #[.none,.bool false,.ref s.heap.objs.size,rawInt 0,.none,.none] }) (s.heap.objs.size+1) s.heap.objs.size 0 .none:=by
      have q:=Heap.get?_push_size (s.heap.push (itO true l)) (o:={ cls:=.type "enumerate",data:=.fields #[.none,.bool false,.ref s.heap.objs.size,rawInt 0,.none,.none] }) rfl
      rw [z1] at q
      exact q
    exact ⟨⟨_,g1,rfl⟩,h _ ⟨⟨_,g1⟩,.new (Heap.get?_push_of_some _ (Heap.get?_push_size _ itO_free))⟩ fun c o e=>Heap.get?_push_of_some _ (Heap.get?_push_of_some _ e)⟩
end
def Ite (K:PySem.W.Frag) (k:Bool) (a:Addr):It :=
  ⟨fun i H=>∃ xs x,SqK K k H a xs∧xs[i]?=some x,
   fun i H v H'=>∃ p x,v=.ref p∧H p=none∧(∀ xs,SqK K k H a xs→xs[i]?=some x)∧H'=upd H p (.tup [.int i,x]),
   fun i H=>∃ xs,SqK K k H a xs∧xs.length≤i⟩
theorem EAt.obj {k:Bool} {ee it l:Addr} {n:Nat} {h:Heap} (Z:EAt k ee it l n h):∀ b∈[ee,it],∃ o,h.get? b=some o∧∀ v,o.data≠.cell v:=fun b hb=>by
  obtain ⟨⟨old,he⟩,h1⟩:=Z
  simp only [List.mem_cons,List.not_mem_nil,or_false] at hb
  rcases hb with rfl | rfl
  · exact ⟨_,he,fun v z=>by cases z⟩
  · exact h1.obj
theorem turn_enum {P:Program} {w:World} {K:PySem.W.Frag} {elts:List Expr} {x1} {pos:Pos} {k:Bool} {ee it a:Addr} (hne:ee≠it):Turn P w K (.Tuple elts x1 pos) (Ite K k a) [ee,it] ee (fun n h=>EAt k ee it a n h) where
  mem:=by simp
  obj:=fun i h st=>st.obj
  keep:=fun i h h' ⟨⟨old,he⟩,h1⟩ kp=>⟨⟨old,kp ee (by simp) _ he⟩,h1.at fun o e=>kp it (by simp) o e⟩
  item:=by
    intro X hP hw hK hc i pins s σ H E I hf st hg
    subst hP hw hK
    obtain ⟨xs,x,q1,hx⟩:=hg
    obtain ⟨us,r1,p1⟩:=seqK I q1
    obtain ⟨u,hu,ru⟩:=r1.get hx
    have lt:∀ b∈[ee,it],b < s.heap.objs.size:=fun b hb=>by
      obtain ⟨o,ho,_⟩:=st.obj b hb
      exact Heap.lt_size ho
    obtain ⟨⟨old,he⟩,h1⟩:=st
    refine enumS_next he h1 p1 (x:=u) (by simpa using hu) hne fun h' z1 a1 pr kk=>?_
    refine ⟨_,rfl,wpAny_letOwnedTupleGo_enum (s:={ s with heap:=h',toks:=s.toks+1 }) z1 fun h2 z2 b2=>?_⟩
    replace b2:Heap.SameBut ee h' h2:=b2
    have hT:H s.heap.objs.size=none:=I.hok.fresh (Nat.le_refl _)
    have I1:Inv X pins σ (upd H s.heap.objs.size (.tup [.int i,x])) { s with heap:=s.heap.push { cls:=.type "tuple",data:=.seq #[.int i s.toks,u] },toks:=s.toks+1 }:=I.laid (t':=s.toks+1) (fun b u e=>Heap.get?_push_of_some _ e) (Nat.le_refl _) ⟨by show 2≤sizeLine;decide,[.int i s.toks,u],.cons ⟨_,rfl⟩ (.cons ru .nil),⟨_,Heap.get?_push_size _ rfl,_,rfl⟩⟩
    have Tz:s.heap.objs.size≠ee:=Nat.ne_of_gt (lt ee (by simp))
    have fp:∀ b∈[ee,it],FpOk X pins (upd H s.heap.objs.size (.tup [.int i,x])) b:=fun b hb=>by
      obtain ⟨f0,f1,f2,f3,f4,f5⟩:=hf b hb
      exact ⟨by rw [upd_ne (Nat.ne_of_lt (lt b hb))];exact f0,f1,f2,f3,f4,f5⟩
    have I2:=I1.turnedL (h':=h2) (t':=s.toks+1) (fun c o hc e=>by
      simp only [List.mem_cons,List.not_mem_nil,or_false,not_or] at hc
      by_cases zc:c=s.heap.objs.size
      · subst zc
        rw [Heap.get?_push_size _ rfl] at e
        cases e
        exact b2.extBut _ _ Tz pr
      · have e':s.heap.get? c=some o:=by rw [←e];exact (Heap.get?_push_ne _ _ _ zc).symm
        exact b2.extBut _ _ hc.1 (kk c o hc.1 hc.2 e')) fp
    refine ⟨.ref s.heap.objs.size,_,I2,rfl,⟨_,x,rfl,hT,fun zs hz=>?_,rfl⟩,⟨⟨_,z2⟩,a1.at fun o e=>b2.extBut _ _ (Ne.symm hne) e⟩,fun b hb=>(fp b hb).1⟩
    rw [seqK_inj I hz q1];exact hx
  done:=by
    intro X hP hw hK hc i pins s σ H E I hf st hg
    subst hP hw hK
    obtain ⟨xs,q1,hl⟩:=hg
    obtain ⟨us,r1,p1⟩:=seqK I q1
    have e1:=r1.length
    obtain ⟨⟨old,he⟩,h1⟩:=st
    refine enumS_stop (I.ok.hd hc) he h1 p1 (by simp;omega) fun h' kk=>⟨rfl,I.turnedL (t':=s.toks) (fun c o hc e=>?_) hf⟩
    simp only [List.mem_cons,List.not_mem_nil,or_false,not_or] at hc
    exact kk c o hc.2 e
  self:=fun _ _ _ _ _ ⟨⟨_,he⟩,_⟩ h=>wpAny_pyIter_enum he h
theorem b_enum:bootBuiltins "enumerate"=some (.type "enumerate"):=by decide +kernel
def iEnum (K:PySem.W.Frag) (k:Bool) (ta:TA):TI:=fun σ H R=>ta σ H fun vs H1=>∃ a xs,vs=[.ref a]∧SqK K k H1 a xs∧R (Ite K k a) H1
theorem pi_enum {X:Cx} {elts:List Expr} {x1} {tp:Pos} {a:Expr} {ta:TA} {p pos:Pos} (k:Bool) (hg:Gl X "enumerate") (hm:X.mg "enumerate"=none) (ha:PA X [a] ta) (hs:starEach [a] X.env=[(false,eval a X.env)]:=by rfl) :
    PI X (.Tuple elts x1 tp) (.Call (.Name "enumerate" p) [a] [] pos) (iEnum X.K k ta):=by
  intro pins s σ H R I h
  refine Call_ (ld_blt I hg hm b_enum (PyProof.Rows.callWith_type1 (thn (ha pos pins s σ H _ I h) fun us s1 ⟨vs,H1,I1,r1,q1⟩=>?_) (by rw [hs];rfl) rfl))
  obtain ⟨a',xs,e,q1,q⟩:=q1
  subst e
  obtain ⟨u,rfl,ru⟩:=r1.one
  cases ru
  obtain ⟨us,e1,p1⟩:=seqK I1 q1
  refine callE p1 fun h' Z kp=>?_
  obtain ⟨old,he⟩:=Z.en
  refine wpAny_pyIter_enum (s:={ s1 with heap:=h' }) he ?_
  refine ⟨_,[s1.heap.objs.size+1,s1.heap.objs.size],_,_,H1,rfl,I1.kept (t':=s1.toks) kp,turn_enum (Nat.succ_ne_self _),Z,fun c hc=>?_,q⟩
  have ge:s1.heap.objs.size≤c:=by
    simp only [List.mem_cons,List.not_mem_nil,or_false] at hc
    rcases hc with rfl | rfl <;> omega
  exact I1.fpOk ge (I1.hok.fresh ge)
theorem for_enum {K:PySem.W.Frag} {k:Bool} {a:Addr} {xs:List V} {g:TG} {tb:TS} {D:Ends} {σ:St} {H:Hp} (Pv:Nat→St→Hp→Prop) (h0:Pv 0 σ H) (hl:∀ i σ H,i≤xs.length→Pv i σ H→SqK K k H a xs)
    (hs:∀ i x p σ H,xs[i]?=some x→Pv i σ H→H p=none→g (.ref p) σ (upd H p (.tup [.int i,x])) fun σ2 H2=>tb { D with nx:=Pv (i+1),ct:=Pv (i+1),bk:=D.nx } σ2 H2) (hd:∀ σ H,Pv xs.length σ H→D.nx σ H) :
    ∃ W:Nat→Nat→St→Hp→Prop,(∃ m,W 0 m σ H)∧∀ i m σ H,W i m σ H →
      ((Ite K k a).stop i H∧D.nx σ H)∨((Ite K k a).go i H∧∃ N:St→Hp→Prop,(∀ σ' H',N σ' H'→∃ m',m' < m∧W (i+1) m' σ' H')∧∀ x H',(Ite K k a).yld i H x H'→g x σ H' fun σ2 H2=>tb { D with nx:=N,ct:=N,bk:=D.nx } σ2 H2):=by
  refine ⟨fun i m σ H=>m=xs.length - i∧i≤xs.length∧Pv i σ H,⟨xs.length,by simp,Nat.zero_le _,h0⟩,?_⟩
  rintro i m σ H ⟨rfl,hi,p⟩
  have q1:=hl i σ H hi p
  by_cases hlt:i < xs.length
  · refine .inr ⟨⟨xs,_,q1,List.getElem?_eq_getElem hlt⟩,Pv (i+1),fun σ' H' n=>⟨xs.length - (i+1),by omega,rfl,by omega,n⟩,?_⟩
    rintro v H' ⟨p',x,rfl,hn,e1,rfl⟩
    exact hs i x p' σ H (e1 _ q1) p hn
  · have e:i=xs.length:=by omega
    subst e
    exact .inl ⟨⟨xs,q1,Nat.le_refl _⟩,hd σ H p⟩
end L2
set_option Elab.async false
set_option linter.all false
set_option maxRecDepth 100000
namespace L2
open PySem PySem.Spec PyProof.Rows
abbrev B30:Int:=1000000000000000000000000000000
theorem e30:(10:Int) ^ (30:Int).toNat=B30:=by decide
def CMulB (i j:Int):Prop:=(0≤i∧i≤10000000000 * B30)∧(0≤j∧j≤10000000000 * B30)
theorem CMulB.ok {i j:Int} (h:CMulB i j):IntMulOk i j:=by
  have q:∀ k:Int,0≤k∧k≤10000000000 * B30→PySem.Builtin.Int.intBits k≤140:=fun k hk=>intBits_le_iff.mpr (by
    have e:(2:Nat) ^ 140=1393796574908163946345982392040522594123776:=by decide
    rw [e]
    unfold B30 at hk
    omega)
  exact IntMulOk.of_le (q i h.1) (q j h.2) (by decide)
theorem op_mulB {X:Cx}:OpR X (binaryOp .Mult) (rI CMulB fun i j=>.int (i * j)):=opI fun _ _ _ _ _ _ _ hc q=>PyProof.Rows.mul_int q hc.ok
theorem turnZ_all {te:TE} {σ:St} {d:Addr} {x y:V} {H:Hp} {Z:Hp→Prop} (h:te (some x :: some y :: σ) H fun v H4=>∃ ys,H4 d=some (.lst ys)∧ys.length < sizeLine∧Z (upd H4 d (.lst (ys++[v])))):turnZ tTrue te σ d x y H Z:=by
  show (if true=true then (te (some x :: some y :: σ) H fun v H4=>∃ ys,H4 d=some (.lst ys)∧ys.length < sizeLine∧Z (upd H4 d (.lst (ys++[v])))) else Z H)
  rw [if_pos rfl]
  exact h
end L2
set_option Elab.async false
set_option linter.all false
set_option maxRecDepth 100000
namespace L2
open PySem PySem.Spec PyProof.Rows
section
variable {X:Cx} {elt iter:Expr} {tg:Str} {tp:Pos} {cs:List Expr} {scope:Scope} {pos:Pos} {tc:TT} {te:TE} {M:List Str}
theorem ps_compL {tl:TE} {pos1 spos:Pos} {i:Nat} {x:Str} (hN:X.N.Nodup) (hix:X.N[i]?=some x) (hx:X.env.scope.names.lookup x=some .local) (hc:X.calm=true) (S:CompScope scope X.env X.N M) (nd:(tg :: M).Nodup) (hl:scope.names.lookup tg=some .local) (hi:PE X iter tl) (mo:MonoE tl)
    (hin:Inner X scope tg M cs elt tc te) (hw:swapsWith (.ListComp elt [⟨.Name tg tp,iter,cs,0⟩] scope pos) (some (.Name x pos1)) spos.line X.env=pure true:=by rfl) (hf:∀ x,foldedSetIterable iter X.env x=pure x:=by intro _;rfl) :
    PS X (.Assign [.Name x pos1] (.ListComp elt [⟨.Name tg tp,iter,cs,0⟩] scope pos) spos) (tAsg (tCompL X.K tl tc te) (gName i)):=by
  refine ps_compG hc S nd hl (pi_list hi) hin (fun σ H Q h=>?_) hN hix hx hw hf
  refine mo σ H _ _ (fun v H1 q=>?_) h
  obtain ⟨a,xs,e,j1,q⟩:=q
  refine ⟨a,e,⟨xs,j1⟩,fun d hd=>?_⟩
  obtain ⟨Pv,h0,hl,hs,hd⟩:=q d hd
  exact comp_list (k:=1) (g:=gName 0) Pv h0 hl hs hd
end
end L2
set_option Elab.async false
set_option linter.all false
set_option maxRecDepth 100000
set_option maxHeartbeats 1000000
namespace L2
open PySem PySem.Spec PyProof.Rows
section
variable {P:Program} {w:World} {A:Around} {H:Hp} {s:Shared} {n:Nat} {α β γ:Type} [DecidableEq α] [DecidableEq β] [DecidableEq γ]
variable {R1:V→α→Prop} {R2:V→β→Prop} {R3:V→γ→Prop}
end
def srt (ns:List Int):List Int:=ns.mergeSort fun a b=>decide (a≤b)
theorem srt_perm (ns:List Int):(srt ns).Perm ns:=List.mergeSort_perm ns _
theorem srt_rises (ns:List Int):(srt ns).Pairwise (·≤·):=by
  have h:=List.pairwise_mergeSort (le:=fun a b:Int=>decide (a≤b)) (fun a b c h1 h2=>by simp at *;omega) (fun a b=>by simp;omega) ns
  exact h.imp fun h=>by simpa using h
def SqI (H:Hp) (a:Addr) (ns:List Int):Prop:=H a=some (.lst (ns.map V.int))∨H a=some (.tup (ns.map V.int))
theorem ints_vals2 {ns:List Int} {us:List Value} (r:Vals (ns.map V.int) us):IntsAre us ns:=by
  induction ns generalizing us with
  | nil=>cases r;exact .nil
  | cons n ns ih =>
    cases r with
    | cons r rr =>
      obtain ⟨t,rfl⟩:=r
      exact .cons _ _ (ih rr)
theorem intsAre_len {vs:List Value} {ns:List Int} (h:IntsAre vs ns):vs.length=ns.length:=by
  induction h with
  | nil=>rfl
  | cons n t _ ih=>simp [ih]
end L2
set_option Elab.async false
set_option linter.all false
set_option maxRecDepth 100000
set_option maxHeartbeats 1000000
namespace L2
open PySem PySem.Spec PyProof.Rows
theorem head_min {ns:List Int} {m:Int} (h:m∈ns) (h1:∀ x∈ns,m≤x):(srt ns).headD 0=m:=by
  have p:=srt_perm ns
  have r:=srt_rises ns
  cases e:srt ns with
  | nil =>
    rw [e] at p
    have:=p.symm.mem_iff.mp h
    cases this
  | cons a t =>
    rw [e] at p r
    have ha:m≤a:=h1 a (p.mem_iff.mp (.head _))
    have hm:m∈a :: t:=p.symm.mem_iff.mp h
    show a=m
    cases hm with
    | head=>rfl
    | tail _ hm =>
      have:=(List.pairwise_cons.mp r).1 m hm
      omega
def rMinI:List V→Hp→VK→Prop:=fun xs H Q=>∃ (a:Addr) (ns:List Int),xs=[.ref a]∧SqI H a ns∧ns≠[]∧Q (.int ((srt ns).headD 0)) H
theorem best_is {its:List Value} {ns:List Int} (hI:IntsAre its ns) (ne:ns≠[]) {v:Value} (h:its.toArray[argBest (fun i j=>decide (ns.getD i 0 < ns.getD j 0)) (its.toArray.size - 1)]?=some v):∃ t,v=.int ((srt ns).headD 0) t:=by
  have li:=intsAre_len hI
  have hb:=argBest_lt (fun i=>ns.getD i 0) (its.toArray.size - 1)
  have ez:its.toArray.size=its.length:=List.size_toArray
  have n0:0 < ns.length:=List.length_pos_iff.mpr ne
  have hv:its[argBest (fun i j=>decide (ns.getD i 0 < ns.getD j 0)) (its.toArray.size - 1)]?=some v:=by simpa using h
  obtain ⟨t,e⟩:=hI.int_at _ v hv
  refine ⟨t,?_⟩
  rw [e]
  congr 1
  refine (head_min ?_ fun x hx=>?_).symm
  · rw [List.getD_eq_getElem?_getD,List.getElem?_eq_getElem (by have:=hb.1;omega)]
    exact List.getElem_mem _
  · obtain ⟨j,hj⟩:=List.mem_iff_getElem?.mp hx
    have jl:=(List.getElem?_eq_some_iff.mp hj).1
    have:=hb.2 j (by omega)
    rw [show ns.getD j 0=x by rw [List.getD_eq_getElem?_getD,hj];rfl] at this
    exact this
theorem call_minI {X:Cx} (hc:X.calm=true):CallR X (.builtin "min") rMinI:=by
  intro pins s σ H xs us Q I r h
  obtain ⟨a,ns,rfl,e,ne,q⟩:=h
  obtain ⟨u,rfl,ru⟩:=vals1 r
  cases ru
  have n0:0 < ns.length:=List.length_pos_iff.mpr ne
  rcases e with e | e
  · obtain ⟨_,its,n,rv,he⟩:=(show ObjOk X.prog X.w H s.heap a (.lst (ns.map V.int)) from I.hok a _ e)
    have hI:=ints_vals2 rv
    have li:=intsAre_len hI
    have hlt:=Heap.lt_size he
    refine call_min_walk (wpAny_pyIter_list (isL_of he) ?_)
    refine ⟨s.heap.objs.size,_,_,_,_,_,fun i j=>decide (ns.getD i 0 < ns.getD j 0),rfl,Walks.list (A:=X.A.in1) (by show X.A.handled=none;exact I.ok.hd hc) s.heap.objs.size a (Nat.ne_of_lt hlt) its.toArray,⟨⟨_,Heap.get?_push_size _ rfl,rfl,rfl⟩,isL_of (Heap.get?_push_of_some _ he)⟩,?_,by rw [List.size_toArray];omega,CmpOf.ints_lt _ (fun i v hv=>hI.int_at i v (by simpa using hv)),fun v h' tk hv hk=>?_⟩
    · intro b hb
      have hp:(s.heap.push { cls:=.type "list_iterator",data:=.fields #[.ref a,rawInt 0] }).objs.size=s.heap.objs.size+1:=Heap.size_push _ _
      simp only [List.mem_cons,List.not_mem_nil,or_false] at hb
      show b < (s.heap.push _).objs.size
      rw [Heap.size_push]
      rcases hb with rfl | rfl
      · exact Nat.lt_succ_self _
      · exact Nat.lt_succ_of_lt hlt
    · obtain ⟨t,rfl⟩:=best_is hI ne hv
      exact ⟨.int _,H,I.kept (h':=h') (t':=tk) (fun b o eo=>hk b o (by simp;exact Nat.ne_of_lt (Heap.lt_size eo)) (Heap.get?_push_of_some _ eo)),⟨t,rfl⟩,q⟩
  · obtain ⟨_,its,rv,ht⟩:=old_tup ((show ObjOk X.prog X.w H s.heap a (.tup (ns.map V.int)) from I.hok a _ e))
    have hI:=ints_vals2 rv
    have li:=intsAre_len hI
    have hlt:a < s.heap.objs.size:=by obtain ⟨o,ho,_⟩:=ht;exact Heap.lt_size ho
    refine call_min_walk (wpAny_pyIter_tuple ht ?_)
    refine ⟨s.heap.objs.size,_,_,_,_,_,fun i j=>decide (ns.getD i 0 < ns.getD j 0),rfl,Walks.tuple (A:=X.A.in1) (by show X.A.handled=none;exact I.ok.hd hc) s.heap.objs.size a (Nat.ne_of_lt hlt) its.toArray,⟨⟨_,Heap.get?_push_size _ rfl,rfl,rfl⟩,by obtain ⟨o,ho,r⟩:=ht;exact ⟨o,Heap.get?_push_of_some _ ho,r⟩⟩,?_,by rw [List.size_toArray];omega,CmpOf.ints_lt _ (fun i v hv=>hI.int_at i v (by simpa using hv)),fun v h' tk hv hk=>?_⟩
    · intro b hb
      simp only [List.mem_cons,List.not_mem_nil,or_false] at hb
      show b < (s.heap.push _).objs.size
      rw [Heap.size_push]
      rcases hb with rfl | rfl
      · exact Nat.lt_succ_self _
      · exact Nat.lt_succ_of_lt hlt
    · obtain ⟨t,rfl⟩:=best_is hI ne hv
      exact ⟨.int _,H,I.kept (h':=h') (t':=tk) (fun b o eo=>hk b o (by simp;exact Nat.ne_of_lt (Heap.lt_size eo)) (Heap.get?_push_of_some _ eo)),⟨t,rfl⟩,q⟩
theorem b_min':bootBuiltins "min"=some (.builtin "min"):=by decide +kernel
end L2
set_option Elab.async false
set_option linter.all false
set_option maxRecDepth 100000
set_option maxHeartbeats 1000000
namespace L2
open PySem PySem.Spec PyProof.Rows
section
variable {prog:Program} {w:World} {A:Around} {R:Result→Shared→Prop} {I:Addr} {fp wr:List Addr} {n:Nat} {P:Nat→Value→Prop} {St:Nat→Heap→Prop}
abbrev kwD (d:Value):List (Str × Value):=[(Str.ofString "default",d)]
theorem minD_go (W:Walks prog w A.in1 I fp wr n P St) (bt:Nat→Nat→Bool) (C:CmpOf prog w A.in1 .Lt P bt) (S:Addr) (hS:S∉fp) (d:Value) :
    ∀ (k j:Nat) (s:Shared) (vb:Value) (c:Nat),n - (j+1)=k→j+1≤n→St (j+1) s.heap→P (argBest bt j) vb→s.heap.get? S=some { cls:=.type "list",data:=.seq #[vb,vb] c } →
      (∀ (v:Value) (h':Heap) (tk:Nat),P (argBest bt (n - 1)) v→(∀ (b:Addr) (o:Obj),b∉wr→b≠S→s.heap.get? b=some o→h'.get? b=some o)→R (.ok (.ret v)) { s with heap:=h',toks:=tk }) →
      codeAny (model prog w) A (.builtin "min.loop" ⟨[.ref I,.none,.ref S],kwD d⟩) R s:=by
  intro k
  induction k with
  | zero =>
    intro j s vb c hk hj st pv hs q
    have ej:j+1=n:=by omega
    refine codeAny_builtin F.entry_min_loop ?_
    rw [Around.under_plainId F.plain_min_loop _]
    show wpAny _ A.in1 (seqItems? (.ref S) >>= _) _ _ s
    refine wpAny_bind (wpAny_seqItems hs rfl ?_)
    refine wpAny_bind (wpAny_tryCatch ?_)
    subst ej
    refine W.done s _ _ st fun h' tk hk'=>?_
    have hs':=hk' S _ (fun z=>hS (W.sub _ z)) hs
    show wpAny _ A.in1 (updateSeq S _ >>= _) _ _ _
    refine wpAny_bind (wpAny_updateSeq hs' rfl ?_)
    refine wpAny_bind (wpAny_letGo ?_)
    refine wpAny_pure ?_
    refine q vb _ tk pv fun b o hb hne e=>?_
    rw [Heap.get?_update_ne _ _ _ _ hne]
    exact hk' b o hb e
  | succ k ih =>
    intro j s vb c hk hj st pv hs q
    have hlt:j+1 < n:=by omega
    refine codeAny_builtin F.entry_min_loop ?_
    rw [Around.under_plainId F.plain_min_loop _]
    show wpAny _ A.in1 (seqItems? (.ref S) >>= _) _ _ s
    refine wpAny_bind (wpAny_seqItems hs rfl ?_)
    refine wpAny_bind (wpAny_tryCatch ?_)
    refine W.item (j+1) s _ _ hlt st fun v h' tk hv st' hk'=>?_
    have hs':=hk' S _ (fun z=>hS (W.sub _ z)) hs
    show wpAny _ A.in1 (tryCatch (holding [v,v] (richCompare .Lt v vb >>= _)) _ >>= _) _ _ _
    refine wpAny_bind (wpAny_tryCatch (wpAny_holding (wpAny_bind ?_)))
    refine C (j+1) (argBest bt j) v vb _ _ _ hv pv ?_
    refine wpAny_bind (wpAny_holding (wpAny_truthy_bool ?_))
    refine wpAny_bind (wpAny_letGo (wpAny_pure ?_))
    have eb:argBest bt (j+1)=if bt (j+1) (argBest bt j)=true then j+1 else argBest bt j:=rfl
    cases hb:bt (j+1) (argBest bt j) with
    | true =>
      rw [hb,if_pos rfl] at eb
      show wpAny _ A.in1 (updateSeq S _ >>= _) _ _ _
      refine wpAny_bind (wpAny_updateSeq hs' rfl ?_)
      refine wpAny_bind (wpAny_letGo ?_)
      refine wpAny_pure ⟨plainId_quiet F.plain_min_loop _,?_⟩
      have hs2:=get?_update_seq (c:="list") hs' (fun _=>#[v,v])
      refine ih (j+1) _ v _ (by omega) (by omega) ?_ (by rw [eb];exact hv) hs2 fun v2 h2 tk2 hv2 hk2=>?_
      · refine W.frame (j+2) h' _ st' fun b hb2 o e=>?_
        rw [Heap.get?_update_ne _ _ _ _ (fun z=>hS (by rw [←z];exact hb2))]
        exact e
      · refine q v2 h2 tk2 hv2 fun b o hb2 hne e=>hk2 b o hb2 hne ?_
        rw [Heap.get?_update_ne _ _ _ _ hne]
        exact hk' b o hb2 e
    | false =>
      rw [hb,if_neg (by decide)] at eb
      show wpAny _ A.in1 (letGo _ _ >>= _) _ _ _
      refine wpAny_bind (wpAny_letGo ?_)
      refine wpAny_pure ⟨plainId_quiet F.plain_min_loop _,?_⟩
      exact ih (j+1) _ vb c (by omega) (by omega) st' (by rw [eb];exact pv) hs' fun v2 h2 tk2 hv2 hk2=>q v2 h2 tk2 hv2 fun b o hb2 hne e=>hk2 b o hb2 hne (hk' b o hb2 e)
theorem minD_first (W:Walks prog w A.in1 I fp wr n P St) (bt:Nat→Nat→Bool) (C:CmpOf prog w A.in1 .Lt P bt) (S:Addr) (hS:S∉fp) (d:Value) {s:Shared} {c:Nat} (st:St 0 s.heap) (hs:s.heap.get? S=some { cls:=.type "list",data:=.seq #[] c })
    (q0:n=0→∀ (h':Heap) (tk:Nat),(∀ (b:Addr) (o:Obj),b∉wr→b≠S→s.heap.get? b=some o→h'.get? b=some o)→R (.ok (.ret d)) { s with heap:=h',toks:=tk })
    (q:0 < n→∀ (v:Value) (h':Heap) (tk:Nat),P (argBest bt (n - 1)) v→(∀ (b:Addr) (o:Obj),b∉wr→b≠S→s.heap.get? b=some o→h'.get? b=some o)→R (.ok (.ret v)) { s with heap:=h',toks:=tk }) :
    codeAny (model prog w) A (.builtin "min.loop" ⟨[.ref I,.none,.ref S],kwD d⟩) R s:=by
  refine codeAny_builtin F.entry_min_loop ?_
  rw [Around.under_plainId F.plain_min_loop _]
  show wpAny _ A.in1 (seqItems? (.ref S) >>= _) _ _ s
  refine wpAny_bind (wpAny_seqItems hs rfl ?_)
  refine wpAny_bind (wpAny_tryCatch ?_)
  by_cases n0:n=0
  · subst n0
    refine W.done s _ _ st fun h' tk hk'=>?_
    show wpAny _ A.in1 (rule _ >>= _) _ _ _
    refine wpAny_bind (wpAny_rule (wpAny_pure ?_))
    exact q0 rfl h' tk fun b o hb _ e=>hk' b o hb e
  · have hlt:0 < n:=by omega
    refine W.item 0 s _ _ hlt st fun v h' tk hv st' hk'=>?_
    have hs':=hk' S _ (fun z=>hS (W.sub _ z)) hs
    show wpAny _ A.in1 (updateSeq S _ >>= _) _ _ _
    refine wpAny_bind (wpAny_updateSeq hs' rfl ?_)
    refine wpAny_pure ⟨plainId_quiet F.plain_min_loop _,?_⟩
    have hs2:=get?_update_seq (c:="list") hs' (fun _=>#[v,v])
    refine minD_go W bt C S hS d (n - 1) 0 _ v _ rfl hlt ?_ hv hs2 fun v2 h2 tk2 hv2 hk2=>?_
    · refine W.frame 1 h' _ st' fun b hb2 o e=>?_
      rw [Heap.get?_update_ne _ _ _ _ (fun z=>hS (by rw [←z];exact hb2))]
      exact e
    · refine q hlt v2 h2 tk2 hv2 fun b o hb2 hne e=>hk2 b o hb2 hne ?_
      rw [Heap.get?_update_ne _ _ _ _ hne]
      exact hk' b o hb2 e
end
def rMinD (xs zs:List V) (H:Hp) (Q:VK):Prop:=∃ (a:Addr) (ns:List Int),xs=[.ref a]∧zs=[.non]∧H a=some (.lst (ns.map V.int))∧Q (if ns=[] then .non else .int ((srt ns).headD 0)) H
theorem args_minD (a d:Value):argsOk "min" { pos:=[a],kw:=kwD d }:=rfl
theorem min_dflt {X:Cx} (hc:X.calm=true) {pins:List (Addr × Obj)} {s:Shared} {σ:St} {H:Hp} {vs zs:List V} {us ws:List Value} {Q:VK} (I:Inv X pins σ H s) (r:Vals vs us) (rz:Vals zs ws) (h:rMinD vs zs H Q) :
    wpAny (model X.prog X.w) X.A (call (.builtin "min") us (([Str.ofString "default"]:List Str).zip ws)) (EP X pins σ Q) X.xe s:=by
  obtain ⟨a,ns,rfl,rfl,e,q⟩:=h
  obtain ⟨u,rfl,ru⟩:=vals1 r
  obtain ⟨d,rfl,rd⟩:=vals1 rz
  cases ru
  cases rd
  obtain ⟨_,its,n,rv,he⟩:=(show ObjOk X.prog X.w H s.heap a (.lst (ns.map V.int)) from I.hok a _ e)
  have hI:=ints_vals2 rv
  have li:=intsAre_len hI
  have hlt:=Heap.lt_size he
  show wpAny _ _ (call (.builtin "min") [.ref a] (kwD .none)) _ _ _
  refine kmb_tree F.kind_min F.plain_min F.entry_min (args_minD _ _) ?_
  have eB:Builtin.Builtins.bindParams "min" ["key","default"] 0 { kw:=kwD .none }=pure [none,some .none]:=rfl
  show wpAny _ X.A.in1 (Builtin.Builtins.bindParams "min" ["key","default"] 0 { kw:=kwD .none } >>= _) _ _ s
  rw [eB]
  show wpAny _ X.A.in1 (pyIter (.ref a) >>= _) _ _ s
  refine wpAny_bind (wpAny_pyIter_list (isL_of he) ?_)
  refine wpAny_bind (wpAny_newList ?_ (Nat.zero_le _))
  refine wpAny_pure ⟨plainId_quiet F.plain_min_loop _,?_⟩
  have sz:(s.heap.push { cls:=.type "list_iterator",data:=.fields #[.ref a,rawInt 0] }).objs.size=s.heap.objs.size+1:=Heap.size_push _ _
  have hS:(s.heap.push { cls:=.type "list_iterator",data:=.fields #[.ref a,rawInt 0] }).objs.size∉[s.heap.objs.size,a]:=fun z=>by
    rw [sz] at z
    simp only [List.mem_cons,List.not_mem_nil,or_false] at z
    rcases z with z | z
    · exact absurd z (Nat.ne_of_gt (Nat.lt_succ_self _))
    · rw [←z] at hlt
      exact absurd hlt (Nat.not_lt.mpr (Nat.le_succ _))
  have up:∀ b o,s.heap.get? b=some o→((s.heap.push { cls:=.type "list_iterator",data:=.fields #[.ref a,rawInt 0] }).push { cls:=.type "list",data:=.seq (([]:List Value).toArray) }).get? b=some o:=fun b o eo=>Heap.get?_push_of_some _ (Heap.get?_push_of_some _ eo)
  have ne1:∀ b o,s.heap.get? b=some o→b∉[s.heap.objs.size]:=fun b o eo z=>by
    rw [List.mem_singleton.mp z] at eo
    exact absurd (Heap.lt_size eo) (Nat.lt_irrefl _)
  have ne2:∀ b o,s.heap.get? b=some o→b≠(s.heap.push { cls:=.type "list_iterator",data:=.fields #[.ref a,rawInt 0] }).objs.size:=fun b o eo z=>by
    rw [sz] at z
    rw [z] at eo
    exact absurd (Heap.lt_size eo) (Nat.not_lt.mpr (Nat.le_succ _))
  refine minD_first (A:=X.A) (c:=0) (Walks.list (A:=X.A.in1) (by show X.A.handled=none;exact I.ok.hd hc) s.heap.objs.size a (Nat.ne_of_lt hlt) its.toArray) (fun i j=>decide (ns.getD i 0 < ns.getD j 0)) (CmpOf.ints_lt _ (fun i v hv=>hI.int_at i v (by simpa using hv))) _ hS .none
    ⟨⟨_,Heap.get?_push_of_some _ (Heap.get?_push_size _ rfl),rfl,rfl⟩,isL_of (up _ _ he)⟩ (Heap.get?_push_size _ rfl) (fun n0 h' tk hk=>?_) (fun n0 v h' tk hv hk=>?_)
  · have e0:ns=[]:=List.length_eq_zero_iff.mp (by rw [←li];rw [List.size_toArray] at n0;exact n0)
    rw [if_pos e0] at q
    exact ⟨.non,H,I.kept (h':=h') (t':=tk) (fun b o eo=>hk b o (ne1 b o eo) (ne2 b o eo) (up b o eo)),rfl,q⟩
  · have e0:ns≠[]:=fun z=>by
      rw [z] at li
      rw [List.size_toArray] at n0
      simp at li
      rw [li] at n0
      simp at n0
    rw [if_neg e0] at q
    obtain ⟨t,rfl⟩:=best_is hI e0 hv
    exact ⟨.int _,H,I.kept (h':=h') (t':=tk) (fun b o eo=>hk b o (ne1 b o eo) (ne2 b o eo) (up b o eo)),⟨t,rfl⟩,q⟩
def tMinD (t tk:TA):TE:=fun σ H Q=>t σ H fun vs H1=>tk σ H1 fun zs H2=>rMinD vs zs H2 Q
theorem pe_minD {X:Cx} {e e2:Expr} {p pos kpos:Pos} {t tk:TA} (hc:X.calm=true) (hg:Gl X "min") (hm:X.mg "min"=none) (ha:PA X [e] t) (hk:PK X [⟨some "default",e2,kpos⟩] tk) (h1:backTo pos (starEach [e] X.env)=(false,eval e X.env) :: backTo pos (starEach [] X.env):=by rfl)
    (h2:((backTo pos (starEach [e] X.env)).any (·.1))=false:=by rfl) (h3:(backToKw pos (keywordEach [⟨some "default",e2,kpos⟩] X.env)).all (·.1.isSome)=true:=by rfl) (h4:(backToKw pos (keywordEach [⟨some "default",e2,kpos⟩] X.env)).any (·.1.isNone)=false:=by rfl) (h5:(backToKw pos (keywordEach [⟨some "default",e2,kpos⟩] X.env)).filterMap (·.1)=[Str.ofString "default"]:=by rfl) :
    PE X (.Call (.Name "min" p) [e] [⟨some "default",e2,kpos⟩] pos) (tMinD t tk):=by
  intro pins s σ H Q I h
  refine wpAny_Call_Name_kw (ld_blt I hg hm b_min' ?_)
  refine callWith_kw (thn (ha pos pins s σ H _ I h) fun us s1 ⟨vs,H1,I1,r,q⟩=>?_) h1 h2 h3 h4
  refine thn (hk pos pins s1 σ H1 _ I1 q) fun ws s2 ⟨zs,H2,I2,rz,q2⟩=>?_
  rw [h5]
  exact min_dflt hc I2 r rz q2
end L2
set_option Elab.async false
set_option linter.all false
set_option maxRecDepth 100000
namespace L2
open PySem PySem.Spec PyProof.Rows
def Itr3 (lo st:Int) (n:Nat):It:=⟨fun i _=>i < n,fun i H x H'=>H'=H∧x=.int (lo+i * st),fun i _=>n≤i⟩
theorem turn_range3 {P:Program} {w:World} {K:PySem.W.Frag} {tg:Expr} (it:Addr) (lo st:Int) (n:Nat):Turn P w K tg (Itr3 lo st n) [it] it (fun i h=>IsRangeIter h it (lo+(i:Nat) * st) ((n:Int) - (i:Nat)) st) where
  mem:=by simp
  obj:=fun i h st b hb=>by
    have e:b=it:=by simpa using hb
    subst e
    exact ⟨_,st,fun v z=>by
      have z':Data.fields _=Data.cell v:=z
      cases z'⟩
  keep:=fun i h h' st k=>k it (by simp) _ st
  item:=by
    intro X hP hw hK hc i pins s σ H E I hf st0 hg
    subst hP hw hK
    obtain ⟨f0,f1,f2,f3,f4,f5⟩:=hf it (by simp)
    have W:=Walks.range (prog:=X.prog) (w:=X.w) (I.ok.hd hc) it lo st n
    refine W.item i s _ _ hg st0 fun v h' tk hv st' kk=>?_
    obtain ⟨t,rfl⟩:=hv
    have I1:Inv X pins σ H { s with heap:=h',toks:=tk }:=I.turned (fun b o hb e=>kk b o (by simpa using hb) e) f0 f1 f3 f4 f5
    exact ⟨_,rfl,go_of (s:={ s with heap:=h',toks:=tk }) (n:="range_iterator") st' rfl rfl (by decide) ⟨.int (lo+i * st),H,I1,⟨t,rfl⟩,⟨rfl,rfl⟩,st',fun b hb=>(hf b hb).1⟩⟩
  done:=by
    intro X hP hw hK hc i pins s σ H E I hf st0 hg
    subst hP hw hK
    obtain ⟨f0,f1,f2,f3,f4,f5⟩:=hf it (by simp)
    exact wpAny_pyNext_range_end (I.ok.hd hc) st0 (by have:n≤i:=hg;omega) fun h' eb=>⟨rfl,I.turned (t':=s.toks) (fun b o hb e=>eb b o hb e) f0 f1 f3 f4 f5⟩
  self:=fun _ _ _ _ _ st h=>wpAny_pyIter_rangeiter st h
theorem for_range3 {lo st:Int} {n:Nat} {g:TG} {tb:TS} {D:Ends} {σ:St} {H:Hp} (Pv:Nat→St→Hp→Prop) (h0:Pv 0 σ H) (hs:∀ i σ H,i < n→Pv i σ H→g (.int (lo+i * st)) σ H fun σ2 H2=>tb { D with nx:=Pv (i+1),ct:=Pv (i+1),bk:=D.nx } σ2 H2) (hd:∀ σ H,Pv n σ H→D.nx σ H) :
    ∃ W:Nat→Nat→St→Hp→Prop,(∃ m,W 0 m σ H)∧∀ i m σ H,W i m σ H →
      ((Itr3 lo st n).stop i H∧D.nx σ H)∨((Itr3 lo st n).go i H∧∃ N:St→Hp→Prop,(∀ σ' H',N σ' H'→∃ m',m' < m∧W (i+1) m' σ' H')∧∀ x H',(Itr3 lo st n).yld i H x H'→g x σ H' fun σ2 H2=>tb { D with nx:=N,ct:=N,bk:=D.nx } σ2 H2):=by
  refine ⟨fun i m σ H=>m=n - i∧i≤n∧Pv i σ H,⟨n,by simp,Nat.zero_le _,h0⟩,?_⟩
  rintro i m σ H ⟨rfl,hi,p⟩
  by_cases hlt:i < n
  · refine .inr ⟨hlt,Pv (i+1),fun σ' H' q=>⟨n - (i+1),by omega,rfl,by omega,q⟩,?_⟩
    rintro v H' ⟨rfl,rfl⟩
    exact hs i σ _ hlt p
  · have e:i=n:=by omega
    subst e
    exact .inl ⟨Nat.le_refl _,hd σ H p⟩
end L2
set_option Elab.async false
set_option linter.all false
set_option maxRecDepth 100000
set_option maxHeartbeats 1000000
namespace L2
open PySem PySem.Spec PyProof.Rows
theorem smallD {a:Int} (h1:-1≤a) (h2:a < 1000000):Builtin.Range.small a (-1) (-1)=true∧Builtin.Range.rangeSize a (-1) (-1)=a+1:=by
  have z:Builtin.Range.rangeSize a (-1) (-1)=a+1:=by
    unfold Builtin.Range.rangeSize
    rw [if_neg (by decide)]
    have e1:(a - -1 - 1) / - -1=a:=by
      rw [show (- -1:Int)=1 from rfl,Int.ediv_one]
      omega
    split
    · rw [e1]
    · omega
  refine ⟨?_,z⟩
  have f:∀ i:Int,-2≤i→i≤1000000→Builtin.Range.rangeFitsLong i=true:=fun i h3 h4=>by
    unfold Builtin.Range.rangeFitsLong
    rw [Bool.and_eq_true,decide_eq_true_eq,decide_eq_true_eq]
    omega
  unfold Builtin.Range.small
  rw [z,f a (by omega) (by omega),f (-1) (by omega) (by omega),f (a+1) (by omega) (by omega),if_neg (by decide),f (-1+(-1+1)) (by omega) (by omega)]
  simp
def iRngD (ta:TA):TI:=fun σ H R=>ta σ H fun vs H1=>∃ a:Int,vs=[.int a,.int (-1),.int (-1)]∧(-1≤a∧a < 1000000)∧R (Itr3 a (-1) (a+1).toNat) H1
theorem pi_rangeD {X:Cx} {tg:Expr} {a b c:Expr} {ta:TA} {p pos:Pos} (hg:Gl X "range") (hm:X.mg "range"=none) (ha:PA X [a,b,c] ta) (hs:starEach [a,b,c] X.env=(false,eval a X.env) :: starEach [b,c] X.env:=by rfl) (hs2:(backTo pos (starEach [b,c] X.env)).any (·.1)=false:=by rfl) :
    PI X tg (.Call (.Name "range" p) [a,b,c] [] pos) (iRngD ta):=by
  intro pins s σ H R I h
  refine Call_ (ld_blt I hg hm boot_range (PyProof.Rows.callWith_type1 (thn (ha pos pins s σ H _ I h) fun us s1 ⟨vs,H1,I1,r1,q1⟩=>?_) hs hs2))
  obtain ⟨i,e,⟨h1,h2⟩,q⟩:=q1
  subst e
  cases r1 with
  | cons r rr =>
    cases rr with
    | cons r' rr =>
      cases rr with
      | cons r'' rr =>
        cases rr
        obtain ⟨t,rfl⟩:=r
        obtain ⟨t',rfl⟩:=r'
        obtain ⟨t'',rfl⟩:=r''
        obtain ⟨sm,z0⟩:=smallD h1 h2
        refine call_range_3 (by decide) ?_ (.inl (PyProof.noPylong_small (by decide)))
        refine wpAny_pyIter_range (IsRange.new ..) sm ?_
        have I2:Inv X pins σ H1 { s1 with heap:=s1.heap.push { cls:=.type "range",data:=.fields #[.int i t,.int (-1) t',.int (-1) t''] },toks:=s1.toks }:=I1.kept fun b o e=>Heap.get?_push_of_some _ e
        refine ⟨_,[_],_,_,H1,rfl,I2.kept (t':=s1.toks) fun b o e=>Heap.get?_push_of_some _ e,turn_range3 _ i (-1) (i+1).toNat,?_,fun b hb=>?_,q⟩
        · have e1:i+((0:Nat):Int) * (-1)=i:=by simp
          have e2:((((i+1).toNat:Nat):Int)) - ((0:Nat):Int)=Builtin.Range.rangeSize i (-1) (-1):=by rw [z0];omega
          show IsRangeIter _ _ (i+((0:Nat):Int) * (-1)) ((((i+1).toNat:Nat):Int) - ((0:Nat):Int)) (-1)
          rw [e1,e2]
          exact Heap.get?_push_size _ rfl
        · have e:=List.mem_singleton.mp hb
          subst e
          exact I2.fpOk (Nat.le_refl _) (I2.hok.fresh (Nat.le_refl _))
end L2
set_option Elab.async false
set_option linter.all false
set_option maxRecDepth 100000
set_option maxHeartbeats 1000000
namespace L2
open PySem PySem.Spec PyProof.Rows
def rIns:V→List V→Hp→VK→Prop:=fun x vs H Q=>∃ (l:Addr) (xs:List V) (i:Int) (k:Nat) (y:V),x=.ref l∧vs=[.int i,y]∧i=(k:Int)∧H l=some (.lst xs)∧k≤xs.length∧xs.length < 1000∧Q .non (upd H l (.lst (xs.take k++y :: xs.drop k)))
theorem ins_arr (its:List Value) (y:Value) (k:Nat) (h:k≤its.length):(its.toArray.extract 0 k).push y++its.toArray.extract k=(its.take k++y :: its.drop k).toArray:=by
  simp [List.extract_toArray,List.extract_eq_drop_take]
  exact List.take_of_length_le (by rw [List.length_drop];omega)
theorem mt_insert {X:Cx}:MtM X "list.insert" rIns:=by
  intro pins s σ H x vs v us Q I rx rv h
  obtain ⟨l,xs,i,k,y,rfl,rfl,hi,hH,hk,hz,q⟩:=h
  cases rx
  obtain ⟨u,u2,rfl,ru,ru2⟩:=rv.two
  obtain ⟨t,rfl⟩:=ru
  obtain ⟨z,its,n,r,hl,e⟩:=I.lstM hH
  have li:xs.length=its.length:=r.length
  have hs:=small1000 hz
  have fe:Builtin.List.listFitsIndex i=true:=by
    unfold Builtin.List.listFitsIndex
    rw [Bool.and_eq_true]
    exact ⟨decide_eq_true (by omega),decide_eq_true (by omega)⟩
  have fe':¬ (!Builtin.List.listFitsIndex i)=true:=by rw [fe];exact Bool.false_ne_true
  have sz:its.toArray.size≤sizeLine:=by rw [List.size_toArray];omega
  have M:=AutoSeq1.list_insert_list_int_val_1 l its.toArray n i t u2 fe' sz
  refine call_meets F.slot_list_insert ⟨_,e,rfl⟩ F.entry_list_insert (F.args_list_insert_3 _ _ _) M ⟨e,?_⟩
  refine ⟨.non,_,I.lset (its':=its.take k++u2 :: its.drop k) hH e ?_ ((r.take k).append (.cons ru2 (r.drop k))) ?_,rfl,q⟩
  · show (its.toArray.extract 0 (if i < 0 then (i+(its.toArray.size:Int)).toNat else min i.toNat its.toArray.size)).push u2++its.toArray.extract (if i < 0 then (i+(its.toArray.size:Int)).toNat else min i.toNat its.toArray.size)=_
    have ei:i.toNat=k:=by omega
    have en:¬ i < 0:=by omega
    rw [if_neg en,ei,List.size_toArray,Nat.min_eq_left (by omega)]
    exact ins_arr its u2 k (by omega)
  · rw [List.length_append,List.length_cons,List.length_take,List.length_drop];omega
end L2
set_option Elab.async false
set_option linter.all false
set_option maxRecDepth 100000
set_option maxHeartbeats 1000000
namespace L2
open PySem PySem.Spec PyProof.Rows
section
variable {X:Cx} {pins:List (Addr × Obj)} {σ:St} {H:Hp} {s:Shared}
end
theorem call_lenK {X:Cx} (K:PySem.W.Frag) (hK:X.K=K:=by rfl):CallR X (.builtin "len") (fun xs H Q=>∃ p ys,xs=[.ref p]∧(SqL K H p ys∨SqT K H p ys)∧Q (.int (ys.length:Nat)) H):=by
  subst hK
  exact call_len_seq
end L2
set_option Elab.async false
set_option linter.all false
set_option maxRecDepth 100000
namespace K53
open PySem L2
abbrev OI:=Option Int
def lo (xs:List OI):OI:=if xs.filterMap id=[] then none else some ((srt (xs.filterMap id)).headD 0)
def oadd:OI→OI→OI
  | some a,some b=>some (a+b)
  | _,_=>none
theorem mem_fm {xs:List OI} {k:Int}:k∈xs.filterMap id↔some k∈xs:=by
  rw [List.mem_filterMap]
  constructor
  · rintro ⟨a,h,e⟩
    have e':a=some k:=e
    rw [←e'];exact h
  · intro h
    exact ⟨some k,h,rfl⟩
theorem head_in {ns:List Int} (h:ns≠[]):(srt ns).headD 0∈ns∧∀ x∈ns,(srt ns).headD 0≤x:=by
  have p:=srt_perm ns
  have r:=srt_rises ns
  cases e:srt ns with
  | nil =>
    rw [e] at p
    exact absurd p.symm.eq_nil h
  | cons a t =>
    rw [e] at p r
    refine ⟨p.mem_iff.mp (.head _),fun x hx=>?_⟩
    show a≤x
    rcases List.mem_cons.mp (p.symm.mem_iff.mp hx) with z | z
    · rw [z];exact Int.le_refl _
    · exact (List.pairwise_cons.mp r).1 x z
theorem lo_some {xs:List OI} {m:Int}:lo xs=some m↔some m∈xs∧∀ k,some k∈xs→m≤k:=by
  unfold lo
  split
  · rename_i h
    constructor
    · intro z;cases z
    · rintro ⟨z,_⟩
      have:=mem_fm.mpr z
      rw [h] at this
      cases this
  · rename_i h
    obtain ⟨h1,h2⟩:=head_in h
    constructor
    · intro z
      cases z
      exact ⟨mem_fm.mp h1,fun k hk=>h2 k (mem_fm.mpr hk)⟩
    · rintro ⟨z1,z2⟩
      have a1:=h2 m (mem_fm.mpr z1)
      have a2:=z2 _ (mem_fm.mp h1)
      congr 1
      omega
theorem lo_none {xs:List OI}:lo xs=none↔∀ k,some k∉xs:=by
  unfold lo
  split
  · rename_i h
    refine ⟨fun _ k hk=>?_,fun _=>rfl⟩
    have:=mem_fm.mpr hk
    rw [h] at this
    cases this
  · rename_i h
    refine ⟨fun z=>(by cases z),fun z=>?_⟩
    exact absurd (mem_fm.mp (head_in h).1) (z _)
theorem lo_eq {xs ys:List OI} (h1:∀ m,some m∈xs→∃ k,k≤m∧some k∈ys) (h2:∀ m,some m∈ys→∃ k,k≤m∧some k∈xs):lo xs=lo ys:=by
  cases e:lo ys with
  | none =>
    rw [lo_none] at e ⊢
    intro k hk
    obtain ⟨k',_,h⟩:=h1 k hk
    exact e k' h
  | some m =>
    rw [lo_some] at e ⊢
    obtain ⟨k,hk,hm⟩:=h2 m e.1
    obtain ⟨k',hk',hm'⟩:=h1 k hm
    have:=e.2 k' hm'
    have ek:k=m:=by omega
    subst ek
    refine ⟨hm,fun x hx=>?_⟩
    obtain ⟨y,hy,hy'⟩:=h1 x hx
    have:=e.2 y hy'
    omega
theorem lo_le {xs:List OI} {k:Int} (h:some k∈xs):∃ m,lo xs=some m∧m≤k:=by
  cases e:lo xs with
  | none=>exact absurd h (lo_none.mp e k)
  | some m=>exact ⟨m,rfl,(lo_some.mp e).2 k h⟩
theorem lo_append (xs ys:List OI):lo (xs++ys)=lo [lo xs,lo ys]:=by
  refine lo_eq (fun m hm=>?_) (fun m hm=>?_)
  · rcases List.mem_append.mp hm with h | h
    · obtain ⟨k,e,hk⟩:=lo_le h
      exact ⟨k,hk,by rw [e];exact .head _⟩
    · obtain ⟨k,e,hk⟩:=lo_le h
      exact ⟨k,hk,by rw [e];exact .tail _ (.head _)⟩
  · simp only [List.mem_cons,List.not_mem_nil,or_false] at hm
    rcases hm with h | h
    · exact ⟨m,Int.le_refl _,List.mem_append.mpr (.inl (lo_some.mp h.symm).1)⟩
    · exact ⟨m,Int.le_refl _,List.mem_append.mpr (.inr (lo_some.mp h.symm).1)⟩
theorem lo_flat {α:Type} (xs:List α) (f:α→List OI):lo (xs.flatMap f)=lo (xs.map fun x=>lo (f x)):=by
  refine lo_eq (fun m hm=>?_) (fun m hm=>?_)
  · obtain ⟨x,hx,h⟩:=List.mem_flatMap.mp hm
    obtain ⟨k,e,hk⟩:=lo_le h
    exact ⟨k,hk,List.mem_map.mpr ⟨x,hx,e⟩⟩
  · obtain ⟨x,hx,h⟩:=List.mem_map.mp hm
    exact ⟨m,Int.le_refl _,List.mem_flatMap.mpr ⟨x,hx,(lo_some.mp h).1⟩⟩
theorem lo_add (a:Int) (xs:List OI):oadd (some a) (lo xs)=lo (xs.map (oadd (some a))):=by
  cases e:lo xs with
  | none =>
    symm
    show lo _=none
    rw [lo_none] at e ⊢
    intro k hk
    obtain ⟨x,hx,h⟩:=List.mem_map.mp hk
    cases x with
    | none=>cases h
    | some y=>exact e y hx
  | some m =>
    symm
    show lo _=some (a+m)
    rw [lo_some] at e ⊢
    refine ⟨List.mem_map.mpr ⟨some m,e.1,rfl⟩,fun k hk=>?_⟩
    obtain ⟨x,hx,h⟩:=List.mem_map.mp hk
    cases x with
    | none=>cases h
    | some y =>
      have:=e.2 y hx
      cases h
      omega
theorem lo_addO (x:OI) (xs:List OI):oadd x (lo xs)=lo (xs.map (oadd x)):=by
  cases x with
  | some a=>exact lo_add a xs
  | none =>
    symm
    show lo _=none
    rw [lo_none]
    intro k hk
    obtain ⟨x,hx,h⟩:=List.mem_map.mp hk
    cases h
theorem lo_one (x:OI):lo [x]=x:=by
  cases x with
  | none=>exact lo_none.mpr fun k hk=>by simp at hk
  | some m=>exact lo_some.mpr ⟨.head _,fun k hk=>by simp at hk;omega⟩
theorem lo_nil:lo []=none:=lo_none.mpr fun k hk=>by cases hk
abbrev Pa:=List (Nat × Nat × Nat)
def P:Nat→Nat→Nat→Nat→List Pa
  | 0,_,i,j=>if i=j then [[]] else []
  | m+1,l,i,j=>if i=j then [[]] else ((List.range (j - i)).flatMap fun b=>(P m (l+1) (i+b+1) j).map fun r=>(i,i+b+1,l) :: r)++P m (l+1) i j
theorem P_succ (m l i j:Nat):P (m+1) l i j=if i=j then [[]] else ((List.range (j - i)).flatMap fun b=>(P m (l+1) (i+b+1) j).map fun r=>(i,i+b+1,l) :: r)++P m (l+1) i j:=rfl
theorem P_same (m l i:Nat):P m l i i=[[]]:=by
  cases m <;> (unfold P;rw [if_pos rfl])
section
variable (p:Nat→Int) (W:Nat→Nat→Int) (F:Nat→Nat→OI)
def part (q:Nat × Nat × Nat):OI:=oadd (some (p q.2.2 * W q.1 q.2.1)) (F q.1 q.2.1)
def cost:Pa→OI
  | []=>some 0
  | q :: r=>oadd (part p W F q) (cost r)
structure Eqs (L:Nat) (h t:Nat→Nat→Nat→OI) (i j:Nat):Prop where
  eh:∀ l,l < L→h l i j=oadd (some (p l * W i j)) (F i j)
  et:∀ l,l < L→t l i j=lo [lo ((List.range (j - i)).map fun b=>oadd (h l i (i+b+1)) (t (l+1) (i+b+1) j)),t (l+1) i j]
variable {p W F} {L n:Nat} {h t:Nat→Nat→Nat→OI}
theorem tails_are {i0:Nat} (dg:∀ l i,l≤L→i≤n→t l i i=some 0) (ed:∀ i j,i < j→j≤n→t L i j=none) (eq:∀ i j,i0≤i→i < j→j≤n→Eqs p W F L h t i j) :
    ∀ m l i j,l+m=L→i0≤i→i≤j→j≤n→t l i j=lo ((P m l i j).map fun r=>cost p W F r)
  | 0,l,i,j,hl,h0,hij,hj=>by
    have el:l=L:=by omega
    subst el
    by_cases e:i=j
    · subst e
      rw [dg l i (Nat.le_refl _) hj,P_same]
      exact (lo_one _).symm
    · rw [ed i j (by omega) hj]
      unfold P
      rw [if_neg e]
      exact lo_nil.symm
  | m+1,l,i,j,hl,h0,hij,hj=>by
    by_cases e:i=j
    · subst e
      rw [dg l i (by omega) hj,P_same]
      exact (lo_one _).symm
    · have E:=eq i j h0 (by omega) hj
      rw [E.et l (by omega)]
      unfold P
      rw [if_neg e,List.map_append,lo_append,←tails_are dg ed eq m (l+1) i j (by omega) h0 hij hj]
      congr 2
      rw [List.map_flatMap,lo_flat]
      congr 1
      refine List.map_congr_left fun b hb=>?_
      have hb':=List.mem_range.mp hb
      rw [(eq i (i+b+1) h0 (by omega) (by omega)).eh l (by omega),tails_are dg ed eq m (l+1) (i+b+1) j (by omega) (by omega) (by omega) hj,lo_addO,List.map_map,List.map_map]
      congr 1
def bnd (L:Nat) (h t:Nat→Nat→Nat→OI) (i j:Nat):OI:=if j - i=1 then some 0 else lo ((List.range L).map fun l=>lo ((List.range (j - 1 - i)).map fun b=>oadd (h l i (i+b+1)) (t (l+1) (i+b+1) j)))
theorem P_ne {m l i j:Nat} (hij:i < j):∀ r∈P m l i j,r≠[]:=by
  induction m generalizing l i with
  | zero =>
    intro r hr
    unfold P at hr
    rw [if_neg (by omega)] at hr
    cases hr
  | succ m ih =>
    intro r hr
    unfold P at hr
    rw [if_neg (by omega)] at hr
    rcases List.mem_append.mp hr with z | z
    · obtain ⟨b,_,z⟩:=List.mem_flatMap.mp z
      obtain ⟨r',_,rfl⟩:=List.mem_map.mp z
      intro y;cases y
    · exact ih hij r z
theorem P_some {m l i j:Nat} (hij:i < j):P (m+1) l i j≠[]:=by
  unfold P
  rw [if_neg (by omega)]
  intro z
  have z1:=(List.append_eq_nil_iff.mp z).1
  have:(i,i+(j - i - 1)+1,l) :: []∈(List.range (j - i)).flatMap fun b=>(P m (l+1) (i+b+1) j).map fun r=>(i,i+b+1,l) :: r:=by
    refine List.mem_flatMap.mpr ⟨j - i - 1,List.mem_range.mpr (by omega),List.mem_map.mpr ⟨[],?_,rfl⟩⟩
    rw [show i+(j - i - 1)+1=j by omega,P_same]
    exact .head _
  rw [z1] at this
  cases this
theorem P_many {i j:Nat} (hij:i < j):∀ m l,(P m l i j).filter (fun r=>decide (1 < r.length))=(List.range m).flatMap fun a=>(List.range (j - 1 - i)).flatMap fun b=>(P (m - 1 - a) (l+a+1) (i+b+1) j).map fun r=>(i,i+b+1,l+a) :: r
  | 0,l=>by
    unfold P
    rw [if_neg (by omega)]
    rfl
  | m+1,l=>by
    have ih:=P_many hij m (l+1)
    rw [P_succ m l i j,if_neg (by omega),List.filter_append,ih,List.range_succ_eq_map,List.flatMap_cons,List.flatMap_map]
    congr 1
    · rw [show j - i=(j - 1 - i)+1 by omega,List.range_succ,List.flatMap_append,List.filter_append]
      have e2:([j - 1 - i].flatMap fun b=>(P m (l+1) (i+b+1) j).map fun r=>(i,i+b+1,l) :: r).filter (fun r=>decide (1 < r.length))=[]:=by
        rw [List.flatMap_cons,List.flatMap_nil,List.append_nil,show i+(j - 1 - i)+1=j by omega,P_same]
        rfl
      rw [e2,List.append_nil,List.filter_eq_self.mpr]
      · rfl
      · intro r hr
        obtain ⟨b,hb,z⟩:=List.mem_flatMap.mp hr
        obtain ⟨r',hr',rfl⟩:=List.mem_map.mp z
        have hb':=List.mem_range.mp hb
        have:=P_ne (by omega) r' hr'
        rw [decide_eq_true_eq,List.length_cons]
        have:=List.length_pos_iff.mpr this
        omega
    · refine congrArg (fun f=>(List.range m).flatMap f) (funext fun a=>?_)
      show _=(List.range (j - 1 - i)).flatMap fun b=>(P (m+1 - 1 - (a+1)) (l+(a+1)+1) (i+b+1) j).map fun r=>(i,i+b+1,l+(a+1)) :: r
      rw [show m+1 - 1 - (a+1)=m - 1 - a by omega,show l+(a+1)=l+1+a by omega]
theorem bound_is {i j:Nat} (dg:∀ l i,l≤L→i≤n→t l i i=some 0) (ed:∀ i j,i < j→j≤n→t L i j=none) (hh:∀ l c,l < L→i < c→c < j→h l i c=oadd (some (p l * W i c)) (F i c)) (eq:∀ a b,i+1≤a→a < b→b≤n→Eqs p W F L h t a b) (hij:i+1 < j) (hj:j≤n) :
    bnd L h t i j=lo (((P L 0 i j).filter fun r=>decide (1 < r.length)).map fun r=>cost p W F r):=by
  unfold bnd
  rw [if_neg (by omega),P_many (by omega),List.map_flatMap,lo_flat]
  congr 1
  refine List.map_congr_left fun l hl=>?_
  have hl':=List.mem_range.mp hl
  rw [List.map_flatMap,lo_flat]
  congr 1
  refine List.map_congr_left fun b hb=>?_
  have hb':=List.mem_range.mp hb
  rw [hh l (i+b+1) hl' (by omega) (by omega),tails_are dg ed eq (L - 1 - l) (l+1) (i+b+1) j (by omega) (by omega) (by omega) hj,lo_addO,List.map_map,List.map_map,Nat.zero_add]
  congr 1
theorem many_ne {L i j:Nat} (hL:2≤L) (hij:i+1 < j):(P L 0 i j).filter (fun r=>decide (1 < r.length))≠[]:=by
  rw [P_many (by omega)]
  obtain ⟨L,rfl⟩:∃ K,L=K+2:=⟨L - 2,by omega⟩
  intro z
  have h1:P (L+1) 1 (i+1) j≠[]:=P_some (by omega)
  obtain ⟨r,hr⟩:=List.exists_mem_of_ne_nil _ h1
  have:(i,i+0+1,0) :: r∈(List.range (L+2)).flatMap fun a=>(List.range (j - 1 - i)).flatMap fun b=>(P (L+2 - 1 - a) (0+a+1) (i+b+1) j).map fun r=>(i,i+b+1,0+a) :: r:=by
    refine List.mem_flatMap.mpr ⟨0,List.mem_range.mpr (by omega),List.mem_flatMap.mpr ⟨0,List.mem_range.mpr (by omega),List.mem_map.mpr ⟨r,?_,rfl⟩⟩⟩
    exact hr
  rw [z] at this
  cases this
end
theorem P_in:∀ m l i j,i≤j→∀ r∈P m l i j,∀ q∈r,i≤q.1∧q.1 < q.2.1∧q.2.1≤j∧l≤q.2.2∧q.2.2 < l+m
  | 0,l,i,j,h,r,hr,q,hq=>by
    unfold P at hr
    split at hr
    · rw [List.mem_singleton.mp hr] at hq;cases hq
    · cases hr
  | m+1,l,i,j,h,r,hr,q,hq=>by
    rw [P_succ] at hr
    split at hr
    · rw [List.mem_singleton.mp hr] at hq;cases hq
    · rcases List.mem_append.mp hr with z | z
      · obtain ⟨b,hb,z⟩:=List.mem_flatMap.mp z
        have hb':=List.mem_range.mp hb
        obtain ⟨r',hr',rfl⟩:=List.mem_map.mp z
        rcases List.mem_cons.mp hq with y | y
        · rw [y];exact ⟨Nat.le_refl _,by show i < i+b+1;omega,by show i+b+1≤j;omega,Nat.le_refl _,by show l < l+(m+1);omega⟩
        · have:=P_in m (l+1) (i+b+1) j (by omega) r' hr' q y
          omega
      · have:=P_in m (l+1) i j h r z q hq
        omega
theorem many_in {L i j:Nat} (hij:i < j):∀ r∈(P L 0 i j).filter (fun r=>decide (1 < r.length)),∀ q∈r,i≤q.1∧q.1 < q.2.1∧q.2.1≤j∧q.2.1 - q.1 < j - i∧q.2.2 < L:=fun r hr q hq=>by
  have hP:=P_in L 0 i j (by omega) r (List.mem_filter.mp hr).1 q hq
  rw [P_many hij] at hr
  obtain ⟨a,ha,z⟩:=List.mem_flatMap.mp hr
  obtain ⟨b,hb,z⟩:=List.mem_flatMap.mp z
  have hb':=List.mem_range.mp hb
  obtain ⟨r',hr',rfl⟩:=List.mem_map.mp z
  rcases List.mem_cons.mp hq with y | y
  · rw [y] at hP ⊢
    exact ⟨Nat.le_refl _,by show i < i+b+1;omega,by show i+b+1≤j;omega,by show i+b+1 - i < j - i;omega,by have:=hP.2.2.2.2;omega⟩
  · have:=P_in _ _ _ j (by omega) r' hr' q y
    omega
end K53
set_option Elab.async false
set_option linter.all false
set_option maxRecDepth 100000
namespace K53
open PySem L2
def top (i:Nat):Stmt:=PySem.Challenge.pw_lettertoll_k53_numbers_of_codes.main.body.getD i (.Pass ⟨0,0,0,0⟩)
def kidN (n:Nat):Stmt→Stmt
  | .ClassDef _ _ _ b ..=>b.getD n (.Pass ⟨0,0,0,0⟩)
  | s=>s
abbrev sSums:Stmt:=top 9
abbrev sRow:Stmt:=top 10
abbrev sSquare:Stmt:=top 11
abbrev sLeast:Stmt:=top 12
abbrev sAdded:Stmt:=top 13
abbrev sPl:Stmt:=top 15
abbrev sAlone:Stmt:=top 17
abbrev sPPrice:Stmt:=top 18
abbrev sBegins:Stmt:=top 19
abbrev sClash:Stmt:=top 23
abbrev sRises:Stmt:=top 24
abbrev sIsKept:Stmt:=top 25
abbrev sPCost:Stmt:=top 26
abbrev sLf:Stmt:=top 28
abbrev sIck:Stmt:=top 29
abbrev sNo:Stmt:=top 31
abbrev sNw:Stmt:=top 32
abbrev sNt:Stmt:=top 33
abbrev sWo:Stmt:=top 34
abbrev sCell:Stmt:=top 36
abbrev sNumber:Stmt:=top 37
abbrev sNumbers:Stmt:=top 38
abbrev sInput:Stmt:=top 39
abbrev sRows:Stmt:=top 40
abbrev sCodes:Stmt:=top 41
abbrev sPrice:Stmt:=top 42
abbrev sCost:Stmt:=top 43
abbrev sCheap:Stmt:=top 44
abbrev sWhole:Stmt:=top 45
abbrev sRefusal:Stmt:=top 46
abbrev sSpoilt:Stmt:=top 47
abbrev sDue:Stmt:=top 48
abbrev sLaw:Stmt:=top 49
abbrev iParted:Stmt:=kidN 0 (top 14)
abbrev sPut:Stmt:=kidN 1 (top 14)
abbrev sLs:Stmt:=kidN 2 (top 14)
abbrev sBound:Stmt:=kidN 3 (top 14)
abbrev sBrow:Stmt:=kidN 4 (top 14)
abbrev sBounds:Stmt:=kidN 5 (top 14)
abbrev sWays:Stmt:=kidN 6 (top 14)
abbrev iCounts:Stmt:=kidN 0 (top 21)
abbrev sPutC:Stmt:=kidN 1 (top 21)
abbrev sOver:Stmt:=kidN 2 (top 21)
abbrev sBy:Stmt:=kidN 3 (top 21)
def oV:OI→V
  | none=>.non
  | some i=>.int i
section
variable {P:Program} {w:World} {K:PySem.W.Frag} {mg:Str→Option Value} {base:Heap} {f:Addr} {fd:FuncData}
def sums (ws:List Int) (k:Nat):List Int:=(List.range (k+1)).map fun i=>(ws.take i).sum
def spSums:Sp:=fun vs H Q _=>∃ (q:Addr) (ws:List Int),vs=[.ref q]∧TW H q ws∧ws.length≤100∧∀ (p:Addr) H',Same H H'→H p=none→H' p=some (.lst ((sums ws ws.length).map V.int))→Q (.ref p) H'
theorem scSums:FnScope ["weights","sums","weight"] ["weights"] (defScope sSums):=⟨rfl,rfl,rfl,by decide +kernel,rfl,by decide +kernel,by decide +kernel⟩
theorem sums_succ {ws:List Int} {k:Nat}:sums ws (k+1)=sums ws k++[(ws.take (k+1)).sum]:=by
  unfold sums
  rw [List.range_succ (n:=k+1),List.map_append]
  rfl
theorem sums_last {ws:List Int} {k:Nat}:∃ xs,sums ws k=xs++[(ws.take k).sum]:=by
  unfold sums
  rw [List.range_succ,List.map_append]
  exact ⟨_,rfl⟩
theorem sums_len {ws:List Int} {k:Nat}:(sums ws k).length=k+1:=by unfold sums;rw [List.length_map,List.length_range]
theorem ok_sums (F:Fun K "weight_sums" "weight_sums" sSums f fd):FnOk P w K mg base CX0 1 f fd ["weights"] spSums:=by
  refine F.ok (k:=0) scSums (fun vs H Q E h=>?_) (fun cdv A outer s H vs Q E hr h=>?_)
  · obtain ⟨q,ws,rfl,_⟩:=h
    rfl
  obtain ⟨q,ws,rfl,hq,l1,qq⟩:=h
  refine ⟨_,pss_cons (ps_set (i:=1) scSums.nd rfl (Or.inl rfl) (pe_lst (pa_cons pe_int pa_nil)))
    (pss_cons (ps_for PassesOwn.never rfl (pi_tup (pv 0)) (pg_name (i:=2) scSums.nd rfl (Or.inl rfl))
      (pss_one (ps_expr (pe_bm PySem.F.plainAttrs_list PySem.F.slot_list_append PySem.F.type_list_append mt_append (pv 1) (pa_cons (pe_op op_add (pe_ix ix_list (pv 1) (pe_un un_neg pe_int) (fun _ _=>rfl)) (pv 2)) pa_nil)))))
    (pss_one (ps_ret (pv 1)))),?_⟩
  refine ⟨(by show 1≤sizeLine;decide),fun l hl=>?_⟩
  have s1:=same_newO hl (.lst [.int 0])
  have g1:upd H l (.lst [.int 0]) l=some (.lst ((sums ws 0).map V.int)):=upd_same
  generalize upd H l (.lst [.int 0])=H1 at s1 g1 ⊢
  refine ⟨_,rfl,q,rfl,⟨_,SqT.of (s1 _ _ hq)⟩,?_⟩
  refine for_tup (xs:=ws.map V.int) (fun i σ H'=>Same H H'∧H' l=some (.lst ((sums ws i).map V.int))∧∃ x2:Option V,σ=[some (.ref q),some (.ref l),x2]) ⟨s1,g1,_,rfl⟩ (fun i σ H' _ hP=>SqT.of (hP.1 _ _ hq)) (fun i x σ H2 hx hP=>?_) (fun σ H2 hP=>?_)
  · obtain ⟨s2,g2,x2,rfl⟩:=hP
    have il:=(List.getElem?_eq_some_iff.mp hx).1
    rw [List.length_map] at il
    rw [List.getElem?_map] at hx
    obtain ⟨z,hz,rfl⟩:=Option.map_eq_some_iff.mp hx
    obtain ⟨xs,ex⟩:=sums_last (ws:=ws) (k:=i)
    refine ⟨_,rfl,.inl ⟨rfl,_,SqL.of g2⟩,_,rfl,_,rfl,l,_,_,_,rfl,rfl,SqL.of g2,(by rw [ex,List.map_append];exact atI_last _ _),_,rfl,_,_,rfl,rfl,l,_,_,rfl,rfl,g2,small1000 (by rw [List.length_map,sums_len];omega),same_upd hl s2,?_,_,rfl⟩
    rw [upd_same,sums_succ,List.map_append,List.take_add_one,hz]
    simp
  · obtain ⟨s2,g2,x2,rfl⟩:=hP
    rw [List.length_map] at g2
    exact ⟨_,rfl,qq l H2 s2 hl g2⟩
def rowW (s i:Nat) (o:OI):List V:=(List.range s).map fun j=>oV (if j=i then o else none)
theorem rowW_is {s i:Nat} {o:OI}:(List.replicate s V.non).set i (oV o)=rowW s i o:=by
  refine List.ext_getElem? fun j=>?_
  unfold rowW
  rw [List.getElem?_map]
  by_cases hj:j < s
  · rw [List.getElem?_range hj]
    by_cases e:i=j
    · subst e
      rw [List.getElem?_set_self (by rw [List.length_replicate];exact hj)]
      simp
    · rw [List.getElem?_set_ne e,List.getElem?_replicate,if_pos hj]
      show some V.non=some (oV (if j=i then o else none))
      rw [if_neg (fun z=>e z.symm)]
      rfl
  · rw [List.getElem?_eq_none (by rw [List.length_set,List.length_replicate];omega),List.getElem?_eq_none (by rw [List.length_range];omega)]
    rfl
theorem reps_non (n:Nat):(List.replicate n [V.non]).flatten=List.replicate n V.non:=by
  induction n with
  | zero=>rfl
  | succ n ih=>rw [List.replicate_succ,List.flatten_cons,ih,List.replicate_succ];rfl
def spRow:Sp:=fun vs H Q _=>∃ (s i:Nat) (o:OI),vs=[.int (s:Int),.int (i:Int),oV o]∧i < s∧s≤100∧∀ (p:Addr) H',Same H H'→H p=none→H' p=some (.lst (rowW s i o))→Q (.ref p) H'
theorem scRow:FnScope ["side","at","number","row"] ["side","at","number"] (defScope sRow):=⟨rfl,rfl,rfl,by decide +kernel,rfl,by decide +kernel,by decide +kernel⟩
theorem ixN_nat {n j:Nat} (h:j < n):ixN n (j:Int)=some j:=by
  unfold ixN
  rw [if_pos (by omega),if_pos (by omega)]
  rfl
theorem ok_row (F:Fun K "row_with" "row_with" sRow f fd):FnOk P w K mg base CX0 1 f fd ["side","at","number"] spRow:=by
  refine F.ok (k:=0) scRow (fun vs H Q E h=>?_) (fun cdv A outer s H vs Q E hr h=>?_)
  · obtain ⟨s,i,o,rfl,_⟩:=h
    rfl
  obtain ⟨n,i,o,rfl,hi,hn,qq⟩:=h
  refine ⟨_,pss_cons (ps_set (i:=3) scRow.nd rfl (Or.inl rfl) (pe_op op_rep (pe_lst (pa_cons pe_non pa_nil)) (pv 0)))
    (pss_cons (ps_asg (pv 2) (pg_sub (pv 3) (pv 1) set_list))
    (pss_one (ps_ret (pv 3)))),?_⟩
  refine ⟨(by show 1≤sizeLine;decide),fun l hl=>?_⟩
  have s1:=same_newO hl (.lst [.non])
  have g1:upd H l (.lst [.non]) l=some (.lst [.non]):=upd_same
  generalize upd H l (.lst [.non])=H1 at s1 g1 ⊢
  refine ⟨_,rfl,l,(n:Int),_,rfl,rfl,g1,by omega,by omega,by show 1 * _≤_;exact Nat.le_of_lt (small1000 (by omega)),fun p hp=>?_⟩
  rw [reps_non,Int.toNat_natCast]
  have s2:=same_newO hp (.lst (List.replicate n V.non))
  have g2:upd H1 p (.lst (List.replicate n V.non)) p=some (.lst (List.replicate n V.non)):=upd_same
  generalize upd H1 p (.lst (List.replicate n V.non))=H2 at s2 g2 ⊢
  have hpn:=s1.free hp
  refine ⟨_,rfl,_,rfl,_,rfl,p,_,_,i,rfl,rfl,g2,(by rw [List.length_replicate];exact ixN_nat hi),?_⟩
  rw [rowW_is]
  exact ⟨_,rfl,qq p _ (same_upd hpn (s1.trans s2)) hpn upd_same⟩
def ext {α:Type} (ca:Nat→α) (i:Nat) (p:α):Nat→α:=fun k=>if k=i then p else ca k
theorem ext_same {α:Type} {ca:Nat→α} {i k:Nat} {p:α} (h:k=i):ext ca i p k=p:=if_pos h
theorem ext_ne {α:Type} {ca:Nat→α} {i k:Nat} {p:α} (h:¬ k=i):ext ca i p k=ca k:=if_neg h
def spSquare:Sp:=fun vs H Q _=>∃ (s:Nat) (o:OI),vs=[.int (s:Int),oV o]∧s≤100∧∀ (b:Addr) (ca:Nat→Addr) H',Same H H'→H b=none→(∀ i,i < s→H (ca i)=none)→(∀ i j,i < s→j < s→ca i=ca j→i=j)→(∀ i,i < s→ca i≠b) →
  H' b=some (.lst ((List.range s).map fun i=>.ref (ca i)))→(∀ i,i < s→H' (ca i)=some (.lst (rowW s i o)))→Q (.ref b) H'
theorem scSquare:FnScope ["side","diagonal"] ["side","diagonal"] (defScope sSquare):=⟨rfl,rfl,rfl,by decide +kernel,rfl,by decide +kernel,by decide +kernel⟩
theorem ndSq:(("at":Str) :: ["side","diagonal"]).Nodup:=by decide +kernel
theorem ok_square (F:Fun K "square" "square" sSquare f fd) (GR:Fns P w K mg base ["side","at","number"] "row_with" spRow 1) (mr:mg "range"=none):FnOk P w K mg base CX0 2 f fd ["side","diagonal"] spSquare:=by
  refine F.ok (k:=1) scSquare (fun vs H Q E h=>?_) (fun cdv A outer s H vs Q E hr h=>?_)
  · obtain ⟨s,o,rfl,_⟩:=h
    rfl
  obtain ⟨n,o,rfl,hn,qq⟩:=h
  refine ⟨_,pss_one (ps_ret (pe_compR1 (M:=["side","diagonal"]) rfl (CompScope.of (defScope sSquare) ["side","diagonal"] rfl rfl rfl (by decide +kernel) (by decide +kernel) (by decide +kernel) rfl (by decide +kernel)) ndSq rfl (by rfl) mr (pa_cons (pv 0) pa_nil) (mo_cons mo_var mo_nil)
      (fun cl C s0 H0 fp=>⟨pts_nil,pe_call GR.ok hr (by rfl) GR.m GR.kp GR.b .nil pass0 (pa_cons (pv 1) (pa_cons (pv 0) (pa_cons (pv 2) pa_nil)))⟩))),?_⟩
  refine ⟨_,rfl,(n:Int),rfl,by omega,by omega,fun d hd=>?_⟩
  refine ⟨fun i H'=>Same H H'∧∃ ca:Nat→Addr,(∀ k,k < i→H (ca k)=none)∧(∀ j k,j < i→k < i→ca j=ca k→j=k)∧(∀ k,k < i→ca k≠d)∧H' d=some (.lst ((List.range i).map fun k=>.ref (ca k)))∧∀ k,k < i→H' (ca k)=some (.lst (rowW n k o)),⟨same_newO hd _,fun _=>d,fun k hk=>absurd hk (Nat.not_lt_zero _),fun j k hj=>absurd hj (Nat.not_lt_zero _),fun k hk=>absurd hk (Nat.not_lt_zero _),upd_same,fun k hk=>absurd hk (Nat.not_lt_zero _)⟩,fun i H1 hi hP=>?_,fun H1 hP=>?_⟩
  · obtain ⟨s1,ca,c1,c2,c3,c4,c5⟩:=hP
    have i':i < n:=by omega
    rw [show (0:Int)+(i:Int)=(i:Int) from Int.zero_add _]
    refine turn_all ⟨_,rfl,_,rfl,_,rfl,n,i,o,rfl,i',hn,fun p H2 s2 hp2 g2=>?_⟩
    have pd:p≠d:=fun z=>by rw [z,c4] at hp2;cases hp2
    have pk:∀ k,k < i→ca k≠p:=fun k hk z=>by rw [←z,c5 k hk] at hp2;cases hp2
    refine ⟨_,s2 _ _ c4,?_,same_upd hd (s1.trans s2),ext ca i p,fun k hk=>?_,fun j k hj hk e=>?_,fun k hk=>?_,?_,fun k hk=>?_⟩
    · rw [List.length_map,List.length_range];exact small1000 (by omega)
    · by_cases z:k=i
      · rw [ext_same z];exact s1.free hp2
      · rw [ext_ne z];exact c1 k (by omega)
    · by_cases z1:j=i <;> by_cases z2:k=i
      · omega
      · rw [ext_same z1,ext_ne z2] at e
        exact absurd e.symm (pk k (by omega))
      · rw [ext_ne z1,ext_same z2] at e
        exact absurd e (pk j (by omega))
      · rw [ext_ne z1,ext_ne z2] at e
        exact c2 j k (by omega) (by omega) e
    · by_cases z:k=i
      · rw [ext_same z];exact pd
      · rw [ext_ne z];exact c3 k (by omega)
    · rw [upd_same,List.range_succ,List.map_append]
      refine congrArg (fun z=>some (HO.lst z)) ?_
      congr 1
      · refine List.map_congr_left fun k hk=>?_
        rw [ext_ne (by have:=List.mem_range.mp hk;omega)]
      · show [V.ref p]=[V.ref (ext ca i p i)]
        rw [ext_same rfl]
    · by_cases z:k=i
      · rw [ext_same z,upd_ne pd,z];exact g2
      · rw [ext_ne z,upd_ne (c3 k (by omega))];exact s2 _ _ (c5 k (by omega))
  · obtain ⟨s1,ca,c1,c2,c3,c4,c5⟩:=hP
    rw [Int.toNat_natCast] at c1 c2 c3 c4 c5
    exact qq d ca H1 s1 hd c1 c2 c3 c4 c5
def spLeast:Sp:=fun vs H Q _=>∃ (a:Addr) (xs:List OI),vs=[.ref a]∧H a=some (.lst (xs.map oV))∧xs.length≤100∧∀ H',Same H H'→Q (oV (lo xs)) H'
theorem scLeast:FnScope ["numbers"] ["numbers"] (defScope sLeast):=⟨rfl,rfl,rfl,by decide +kernel,rfl,by decide +kernel,by decide +kernel⟩
theorem ndLe:(("number":Str) :: ["numbers"]).Nodup:=by decide +kernel
set_option maxHeartbeats 4000000 in
theorem ok_least (F:Fun K "least" "least" sLeast f fd) (mn:mg "min"=none):FnOk P w K mg base CX0 1 f fd ["numbers"] spLeast:=by
  refine F.ok (k:=0) scLeast (fun vs H Q E h=>?_) (fun cdv A outer s H vs Q E hr h=>?_)
  · obtain ⟨a,xs,rfl,_⟩:=h
    rfl
  obtain ⟨a,xs,rfl,ha,l1,qq⟩:=h
  refine ⟨_,pss_one (ps_ret (pe_minD rfl (by rfl) mn (pa_cons (pe_compL (M:=["numbers"]) rfl (CompScope.of (defScope sLeast) ["numbers"] rfl rfl rfl (by decide +kernel) (by decide +kernel) (by decide +kernel) rfl (by decide +kernel)) ndLe rfl (pv 0) mo_var
      (fun cl C s0 H0 fp=>⟨pts_one (pt_cmp (pc_notN (pv 0))),pv 0⟩)) pa_nil) (pk_cons pe_non pk_nil))),?_⟩
  refine ⟨_,rfl,a,_,rfl,SqL.of ha,fun d hd=>?_⟩
  refine ⟨fun i H'=>Same H H'∧H' d=some (.lst (((xs.take i).filterMap id).map V.int)),⟨same_newO hd _,upd_same⟩,fun i H' _ hP=>SqL.of (hP.1 _ _ ha),fun i x H' hx hP=>?_,fun H' hP=>?_⟩
  · obtain ⟨s5,hd'⟩:=hP
    have il:=(List.getElem?_eq_some_iff.mp hx).1
    rw [List.length_map] at il
    rw [List.getElem?_map] at hx
    obtain ⟨z,hz,rfl⟩:=Option.map_eq_some_iff.mp hx
    have et:(xs.take (i+1)).filterMap id=(xs.take i).filterMap id++[z].filterMap id:=by rw [List.take_add_one,hz,List.filterMap_append];rfl
    refine ⟨_,rfl,_,rfl,?_⟩
    cases z with
    | none=>exact ⟨s5,by rw [et];simpa using hd'⟩
    | some v =>
      refine ⟨_,rfl,_,hd',?_,same_upd hd s5,?_⟩
      · rw [List.length_map]
        have:=List.length_filterMap_le id (xs.take i)
        rw [List.length_take] at this
        exact small1000 (by omega)
      · rw [upd_same,et,List.map_append]
        rfl
  · obtain ⟨s5,hd'⟩:=hP
    rw [List.length_map,List.take_length] at hd'
    refine ⟨d,_,rfl,rfl,hd',?_⟩
    have:=qq H' s5
    unfold lo at this
    split
    · rename_i h
      rw [if_pos h] at this
      exact this
    · rename_i h
      rw [if_neg h] at this
      exact this
def spAdded:Sp:=fun vs H Q _=>∃ a b:OI,vs=[oV a,oV b]∧Q (oV (oadd a b)) H
theorem scAdded:FnScope ["one","other"] ["one","other"] (defScope sAdded):=⟨rfl,rfl,rfl,by decide +kernel,rfl,by decide +kernel,by decide +kernel⟩
theorem ok_added (F:Fun K "added" "added" sAdded f fd):FnOk P w K mg base CX0 1 f fd ["one","other"] spAdded:=by
  refine F.ok (k:=0) scAdded (fun vs H Q E h=>?_) (fun cdv A outer s H vs Q E hr h=>?_)
  · obtain ⟨a,b,rfl,_⟩:=h
    rfl
  obtain ⟨a,b,rfl,q⟩:=h
  refine ⟨_,pss_cons (ps_if (PW.pt (pw_or (pt_cmp (pc_isN (pv 0))) (pw_or1 (pt_cmp (pc_isN (pv 1)))))) (pss_one (ps_ret pe_non)) pss_nil) (pss_one (ps_ret (pe_op op_add (pv 0) (pv 1)))),?_⟩
  refine ⟨_,rfl,_,rfl,?_⟩
  cases a with
  | none=>exact q
  | some i =>
    refine iteF ?_
    refine ⟨_,rfl,_,rfl,?_⟩
    cases b with
    | none=>exact q
    | some j=>exact iteF ⟨_,rfl,_,rfl,_,_,rfl,rfl,q⟩
end
end K53
set_option Elab.async false
set_option linter.all false
set_option maxRecDepth 100000
namespace K53
open PySem L2
structure Tb (H:Hp) (a:Addr) (ba:Nat→Addr) (ca:Nat→Nat→Addr) (L s:Nat) (T:Nat→Nat→Nat→OI):Prop where
  o:H a=some (.lst ((List.range L).map fun l=>.ref (ba l)))
  b:∀ l,l < L→H (ba l)=some (.lst ((List.range s).map fun i=>.ref (ca l i)))
  c:∀ l i,l < L→i < s→H (ca l i)=some (.lst ((List.range s).map fun j=>oV (T l i j)))
theorem Tb.same {H H':Hp} {a:Addr} {ba:Nat→Addr} {ca:Nat→Nat→Addr} {L s:Nat} {T:Nat→Nat→Nat→OI} (h:Tb H a ba ca L s T) (k:Same H H'):Tb H' a ba ca L s T:=⟨k _ _ h.o,fun l hl=>k _ _ (h.b l hl),fun l i hl hi=>k _ _ (h.c l i hl hi)⟩
structure Ad where
  su:Addr
  th:Addr
  tt:Addr
  bh:Nat→Addr
  ch:Nat→Nat→Addr
  bt:Nat→Addr
  ct:Nat→Nat→Addr
def Z (X:Ad) (L s:Nat) (a:Addr):Prop:=(∃ l i,l < L∧i < s∧a=X.ch l i)∨∃ l i,l < L+1∧i < s∧a=X.ct l i
abbrev pf (p:Addr) (n:Int) (X:Ad):List (Str × V):=[("prices",.ref p),("things",.int n),("sums",.ref X.su),("heads",.ref X.th),("tails",.ref X.tt)]
structure PAt (C:Addr) (H:Hp) (r p:Addr) (ps ws:List Int) (X:Ad) (h t:Nat→Nat→Nat→OI):Prop where
  ob:∃ dx,H r=some (.ins C dx (pf p (ws.length:Int) X))
  hp:TW H p ps
  su:H X.su=some (.lst ((sums ws ws.length).map V.int))
  hd:Tb H X.th X.bh X.ch ps.length (ws.length+1) h
  tl:Tb H X.tt X.bt X.ct (ps.length+1) (ws.length+1) t
  ih:∀ l i l' i',l < ps.length→l' < ps.length→i < ws.length+1→i' < ws.length+1→X.ch l i=X.ch l' i'→l=l'∧i=i'
  it:∀ l i l' i',l < ps.length+1→l' < ps.length+1→i < ws.length+1→i' < ws.length+1→X.ct l i=X.ct l' i'→l=l'∧i=i'
  ix:∀ l i l' i',l < ps.length→l' < ps.length+1→i < ws.length+1→i' < ws.length+1→X.ch l i≠X.ct l' i'
  ns:¬ Z X ps.length (ws.length+1) X.su
theorem PAt.same {C:Addr} {H H':Hp} {r p:Addr} {ps ws:List Int} {X:Ad} {h t:Nat→Nat→Nat→OI} (a:PAt C H r p ps ws X h t) (k:Same H H'):PAt C H' r p ps ws X h t:=by
  obtain ⟨dx,ho⟩:=a.ob
  exact ⟨⟨dx,k _ _ ho⟩,k _ _ a.hp,k _ _ a.su,a.hd.same k,a.tl.same k,a.ih,a.it,a.ix,a.ns⟩
structure PC (K:PySem.W.Frag) (C:Addr):Prop where
  c:Cls K C
  np:NoAttr K C "prices"
  nn:NoAttr K C "things"
  ns:NoAttr K C "sums"
  nh:NoAttr K C "heads"
  nt:NoAttr K C "tails"
abbrev pf1 (p:Addr):List (Str × V):=[("prices",.ref p)]
abbrev pf2 (p:Addr) (n:Int):List (Str × V):=[("prices",.ref p),("things",.int n)]
abbrev pf3 (p:Addr) (n:Int) (su:Addr):List (Str × V):=[("prices",.ref p),("things",.int n),("sums",.ref su)]
abbrev pf4 (p:Addr) (n:Int) (su th:Addr):List (Str × V):=[("prices",.ref p),("things",.int n),("sums",.ref su),("heads",.ref th)]
structure Grow (H0 H':Hp) (s:Nat) (o:OI) (i:Nat) (ba:Nat→Addr) (ca:Nat→Nat→Addr) (d:Addr):Prop where
  same:Same H0 H'
  fb:∀ l,l < i→H0 (ba l)=none
  fc:∀ l k,l < i→k < s→H0 (ca l k)=none
  inj:∀ l k l' k',l < i→l' < i→k < s→k' < s→ca l k=ca l' k'→l=l'∧k=k'
  nb:∀ l,l < i→ba l≠d
  nc:∀ l k,l < i→k < s→ca l k≠d
  lo_:H' d=some (.lst ((List.range i).map fun l=>.ref (ba l)))
  lb:∀ l,l < i→H' (ba l)=some (.lst ((List.range s).map fun k=>.ref (ca l k)))
  lc:∀ l k,l < i→k < s→H' (ca l k)=some (.lst (rowW s k o))
theorem Grow.start {H0:Hp} {s:Nat} {o:OI} {d:Addr} (hd:H0 d=none):Grow H0 (upd H0 d (.lst [])) s o 0 (fun _=>d) (fun _ _=>d) d :=
  ⟨same_newO hd _,fun l hl=>absurd hl (Nat.not_lt_zero _),fun l k hl=>absurd hl (Nat.not_lt_zero _),fun l k l' k' hl=>absurd hl (Nat.not_lt_zero _),fun l hl=>absurd hl (Nat.not_lt_zero _),fun l k hl=>absurd hl (Nat.not_lt_zero _),upd_same,fun l hl=>absurd hl (Nat.not_lt_zero _),fun l k hl=>absurd hl (Nat.not_lt_zero _)⟩
theorem Grow.step {H0 H1 H2:Hp} {s:Nat} {o:OI} {i:Nat} {ba:Nat→Addr} {ca:Nat→Nat→Addr} {d b:Addr} {c':Nat→Addr} (hd:H0 d=none) (g:Grow H0 H1 s o i ba ca d) (k:Same H1 H2) (fb:H1 b=none) (fc:∀ k,k < s→H1 (c' k)=none) (ij:∀ j k,j < s→k < s→c' j=c' k→j=k) (hb:H2 b=some (.lst ((List.range s).map fun k=>.ref (c' k)))) (hc:∀ k,k < s→H2 (c' k)=some (.lst (rowW s k o))) :
    Grow H0 (upd H2 d (.lst (((List.range i).map fun l=>V.ref (ba l))++[.ref b]))) s o (i+1) (ext ba i b) (ext ca i c') d:=by
  have bd:b≠d:=fun z=>by rw [z,g.lo_] at fb;cases fb
  have cd:∀ k,k < s→c' k≠d:=fun k hk z=>by
    have:=fc k hk
    rw [z,g.lo_] at this;cases this
  have cc:∀ l k k',l < i→k < s→k' < s→ca l k≠c' k':=fun l k k' hl hk hk' z=>by
    have:=fc k' hk'
    rw [←z,g.lc l k hl hk] at this;cases this
  refine ⟨same_upd hd (g.same.trans k),fun l hl=>?_,fun l m hl hm=>?_,fun l m l' m' hl hl' hm hm' e=>?_,fun l hl=>?_,fun l m hl hm=>?_,?_,fun l hl=>?_,fun l m hl hm=>?_⟩
  · by_cases z:l=i
    · rw [ext_same z];exact g.same.free fb
    · rw [ext_ne z];exact g.fb l (by omega)
  · by_cases z:l=i
    · rw [ext_same z];exact g.same.free (fc m hm)
    · rw [ext_ne z];exact g.fc l m (by omega) hm
  · by_cases z1:l=i <;> by_cases z2:l'=i
    · rw [ext_same z1,ext_same z2] at e
      exact ⟨by omega,ij m m' hm hm' e⟩
    · rw [ext_same z1,ext_ne z2] at e
      exact absurd e.symm (cc l' m' m (by omega) hm' hm)
    · rw [ext_ne z1,ext_same z2] at e
      exact absurd e (cc l m m' (by omega) hm hm')
    · rw [ext_ne z1,ext_ne z2] at e
      exact g.inj l m l' m' (by omega) (by omega) hm hm' e
  · by_cases z:l=i
    · rw [ext_same z];exact bd
    · rw [ext_ne z];exact g.nb l (by omega)
  · by_cases z:l=i
    · rw [ext_same z];exact cd m hm
    · rw [ext_ne z];exact g.nc l m (by omega) hm
  · rw [upd_same,List.range_succ,List.map_append]
    refine congrArg (fun z=>some (HO.lst z)) ?_
    congr 1
    · refine List.map_congr_left fun l hl=>?_
      rw [ext_ne (by have:=List.mem_range.mp hl;omega)]
    · show [V.ref b]=[V.ref (ext ba i b i)]
      rw [ext_same rfl]
  · by_cases z:l=i
    · rw [ext_same z,ext_same z,upd_ne bd];exact hb
    · rw [ext_ne z,ext_ne z,upd_ne (g.nb l (by omega))];exact k _ _ (g.lb l (by omega))
  · by_cases z:l=i
    · rw [ext_same z,upd_ne (cd m hm)];exact hc m hm
    · rw [ext_ne z,upd_ne (g.nc l m (by omega) hm)];exact k _ _ (g.lc l m (by omega) hm)
def KeepR (r:Addr) (H H':Hp):Prop:=∀ a o,a≠r→H a=some o→H' a=some o
section
variable {P:Program} {w:World} {K:PySem.W.Frag} {mg:Str→Option Value} {base:Heap} {f:Addr} {fd:FuncData}
abbrev NI:List Str:=["self","prices","weights","side"]
abbrev h0:Nat→Nat→Nat→OI:=fun _ a b=>if b=a then none else none
abbrev t0:Nat→Nat→Nat→OI:=fun _ a b=>if b=a then some 0 else none
def spPInit (C:Addr):Sp:=fun vs H Q _=>∃ (r dx p q:Addr) (ps ws:List Int),vs=[.ref r,.ref p,.ref q]∧H r=some (.ins C dx [])∧TW H p ps∧TW H q ws∧1≤ps.length∧ps.length≤10∧ws.length≤20 ∧
  ∀ H' X,KeepR r H H'→PAt C H' r p ps ws X h0 t0→(∀ a,Z X ps.length (ws.length+1) a→H a=none)→Q .non H'
theorem scPInit:FnScope NI ["self","prices","weights"] (defScope iParted):=⟨rfl,rfl,rfl,by decide +kernel,rfl,by decide +kernel,by decide +kernel⟩
theorem ndI1:(("price":Str) :: NI).Nodup:=by decide +kernel
theorem ndI2:(("letter":Str) :: NI).Nodup:=by decide +kernel
set_option maxHeartbeats 8000000 in
theorem ok_pinit {C:Addr} (F:Fun K "__init__" "Parted.__init__" iParted f fd) (GS:Fns P w K mg base ["weights"] "weight_sums" spSums 2) (GQ:Fns P w K mg base ["side","diagonal"] "square" spSquare 2) (rc:PC K C) (ml:mg "len"=none) (mr:mg "range"=none):FnOk P w K mg base CX0 3 f fd ["self","prices","weights"] (spPInit C):=by
  refine F.ok (k:=2) scPInit (fun vs H Q E h=>?_) (fun cdv A outer s H vs Q E hr h=>?_)
  · obtain ⟨r,dx,p,q,ps,ws,rfl,_⟩:=h
    rfl
  obtain ⟨r,dx,p,q,ps,ws,rfl,hr0,hp,hq,p1,p10,w20,qq⟩:=h
  refine ⟨_,pss_cons (ps_fld (pv 0) (pv 1) rfl)
    (pss_cons (ps_fld (pv 0) (pe_callB call_len_seq (by rfl) ml PySem.boot_len (pa_cons (pv 2) pa_nil)) rfl)
    (pss_cons (ps_fld (pv 0) (pe_call GS.ok hr (by rfl) GS.m GS.kp GS.b .nil pass0 (pa_cons (pv 2) pa_nil)) rfl)
    (pss_cons (ps_set (i:=3) scPInit.nd rfl (Or.inr rfl) (pe_op op_add (pe_fld (pv 0) rfl) pe_int))
    (pss_cons (ps_fld (pv 0) (pe_compT (M:=NI) rfl (CompScope.of (defScope iParted) NI rfl rfl rfl (by decide +kernel) (by decide +kernel) (by decide +kernel) rfl (by decide +kernel)) ndI1 rfl (pv 1) mo_var
      (fun cl C s0 H0 fp=>⟨pts_nil,pe_call GQ.ok hr (by rfl) GQ.m GQ.kp GQ.b .nil pass0 (pa_cons (pv 4) (pa_cons pe_non pa_nil))⟩)) rfl)
    (pss_one (ps_fld (pv 0) (pe_compR1 (M:=NI) rfl (CompScope.of (defScope iParted) NI rfl rfl rfl (by decide +kernel) (by decide +kernel) (by decide +kernel) rfl (by decide +kernel)) ndI2 rfl (by rfl) mr (pa_cons (pe_op op_add (pe_callB call_len_seq (by rfl) ml PySem.boot_len (pa_cons (pv 1) pa_nil)) pe_int) pa_nil) (mo_cons (mo_op mo_rI0 (mo_len (mo_cons mo_var mo_nil)) mo_c) mo_nil)
      (fun cl C s0 H0 fp=>⟨pts_nil,pe_call GQ.ok hr (by rfl) GQ.m GQ.kp GQ.b .nil pass0 (pa_cons (pv 4) (pa_cons pe_int pa_nil))⟩)) rfl)))))),?_⟩
  have pr:p≠r:=ne_of hp hr0 (by intro z;cases z)
  have qr:q≠r:=ne_of hq hr0 (by intro z;cases z)
  refine ⟨_,rfl,_,rfl,r,C,dx,_,rfl,hr0,rc.c,rc.np,(by show 0 < 1000;decide),?_⟩
  rw [show putF "prices" (V.ref p) []=(pf1 p) from rfl]
  have g1:upd H r (.ins C dx (pf1 p)) r=some (.ins C dx (pf1 p)):=upd_same
  have k1:KeepR r H (upd H r (.ins C dx (pf1 p))):=fun a o ha e=>by rw [upd_ne ha];exact e
  have f1:∀ a,upd H r (.ins C dx (pf1 p)) a=none→H a=none:=fun a e=>by
    by_cases z:a=r
    · subst z;rw [upd_same] at e;cases e
    · rw [upd_ne z] at e;exact e
  generalize upd H r (.ins C dx (pf1 p))=H1 at g1 k1 f1 ⊢
  refine ⟨_,rfl,q,_,rfl,.inr (SqT.of (k1 _ _ qr hq)),_,rfl,r,C,dx,_,rfl,g1,rc.c,rc.nn,(by show 1 < 1000;decide),?_⟩
  rw [List.length_map,show putF "things" (V.int (ws.length:Int)) (pf1 p)=(pf2 p (ws.length:Int)) from rfl]
  have g2:upd H1 r (.ins C dx (pf2 p (ws.length:Int))) r=some (.ins C dx (pf2 p (ws.length:Int))):=upd_same
  have k2:KeepR r H (upd H1 r (.ins C dx (pf2 p (ws.length:Int)))):=fun a o ha e=>by rw [upd_ne ha];exact k1 a o ha e
  have f2:∀ a,upd H1 r (.ins C dx (pf2 p (ws.length:Int))) a=none→H a=none:=fun a e=>by
    by_cases z:a=r
    · subst z;rw [upd_same] at e;cases e
    · rw [upd_ne z] at e;exact f1 a e
  generalize upd H1 r (.ins C dx (pf2 p (ws.length:Int)))=H2 at g2 k2 f2 ⊢
  refine ⟨_,rfl,q,ws,rfl,k2 _ _ qr hq,by omega,fun su H3 s3 hn3 hs3=>?_⟩
  have g3:=s3 _ _ g2
  refine ⟨_,rfl,r,C,dx,_,rfl,g3,rc.c,rc.ns,(by show 2 < 1000;decide),?_⟩
  have sr:su≠r:=ne_of hs3 g3 (by intro z;cases z)
  rw [show putF "sums" (V.ref su) (pf2 p (ws.length:Int))=(pf3 p (ws.length:Int) su) from rfl]
  have g4:upd H3 r (.ins C dx (pf3 p (ws.length:Int) su)) r=some (.ins C dx (pf3 p (ws.length:Int) su)):=upd_same
  have k4:KeepR r H (upd H3 r (.ins C dx (pf3 p (ws.length:Int) su))):=fun a o ha e=>by rw [upd_ne ha];exact s3 _ _ (k2 a o ha e)
  have f4:∀ a,upd H3 r (.ins C dx (pf3 p (ws.length:Int) su)) a=none→H a=none:=fun a e=>by
    by_cases z:a=r
    · subst z;rw [upd_same] at e;cases e
    · rw [upd_ne z] at e;exact f2 a (s3.free e)
  have hs4:upd H3 r (.ins C dx (pf3 p (ws.length:Int) su)) su=some (.lst ((sums ws ws.length).map V.int)):=by rw [upd_ne sr];exact hs3
  generalize upd H3 r (.ins C dx (pf3 p (ws.length:Int) su))=H4 at g4 k4 f4 hs4 ⊢
  refine ⟨_,rfl,r,C,dx,_,_,rfl,g4,rc.c,rc.nn,rfl,_,_,rfl,rfl,?_⟩
  have hp4:TW H4 p ps:=k4 _ _ pr hp
  refine ⟨_,rfl,p,_,rfl,SqT.of hp4,fun th hth=>?_⟩
  refine ⟨fun i H'=>∃ ba ca,Grow H4 H' (ws.length+1) none i ba ca th,⟨_,_,Grow.start hth⟩,fun i H' _ hP=>(by obtain ⟨ba,ca,g⟩:=hP;exact SqT.of (g.same _ _ hp4)),fun i x H' hx hP=>?_,fun H5 hP=>?_⟩
  · obtain ⟨ba,ca,g⟩:=hP
    have il:=(List.getElem?_eq_some_iff.mp hx).1
    rw [List.length_map] at il
    refine turn_all ⟨_,rfl,ws.length+1,none,rfl,by omega,fun b c' H6 s6 fb fc ij cb hb hc=>⟨_,s6 _ _ g.lo_,?_,_,_,g.step hth s6 fb fc ij hb hc⟩⟩
    rw [List.length_map,List.length_range];exact small1000 (by omega)
  obtain ⟨bh,ch,gh⟩:=hP
  rw [List.length_map] at gh
  have g5:=gh.same _ _ g4
  refine ⟨_,rfl,r,C,dx,_,rfl,g5,rc.c,rc.nh,(by show 3 < 1000;decide),?_⟩
  rw [show putF "heads" (V.ref th) (pf3 p (ws.length:Int) su)=(pf4 p (ws.length:Int) su th) from rfl]
  have rh1:th≠r:=ne_of gh.lo_ g5 (by intro z;cases z)
  have rh2:∀ l,l < ps.length→bh l≠r:=fun l hl=>ne_of (gh.lb l hl) g5 (by intro z;cases z)
  have rh3:∀ l k,l < ps.length→k < ws.length+1→ch l k≠r:=fun l k hl hk=>ne_of (gh.lc l k hl hk) g5 (by intro z;cases z)
  have tb6:Tb (upd H5 r (.ins C dx (pf4 p (ws.length:Int) su th))) th bh ch ps.length (ws.length+1) h0:=⟨by rw [upd_ne rh1];exact gh.lo_,fun l hl=>by rw [upd_ne (rh2 l hl)];exact gh.lb l hl,fun l k hl hk=>by rw [upd_ne (rh3 l k hl hk)];exact gh.lc l k hl hk⟩
  have g6:upd H5 r (.ins C dx (pf4 p (ws.length:Int) su th)) r=some (.ins C dx (pf4 p (ws.length:Int) su th)):=upd_same
  have k46:KeepR r H4 (upd H5 r (.ins C dx (pf4 p (ws.length:Int) su th))):=fun a o ha e=>by rw [upd_ne ha];exact gh.same _ _ e
  have f6:∀ a,upd H5 r (.ins C dx (pf4 p (ws.length:Int) su th)) a=none→H4 a=none:=fun a e=>by
    by_cases z:a=r
    · subst z;rw [upd_same] at e;cases e
    · rw [upd_ne z] at e;exact gh.same.free e
  generalize upd H5 r (.ins C dx (pf4 p (ws.length:Int) su th))=H6 at tb6 g6 k46 f6 ⊢
  have hp6:TW H6 p ps:=k46 _ _ pr hp4
  have hs6:=k46 _ _ sr hs4
  refine ⟨_,rfl,p,_,rfl,.inr (SqT.of hp6),_,_,rfl,rfl,_,rfl,by rw [List.length_map];omega,by rw [List.length_map];omega,fun tt htt=>?_⟩
  have en:((((ps.map V.int).length:Nat):Int)+1).toNat=ps.length+1:=by rw [List.length_map];omega
  rw [en]
  refine ⟨fun i H'=>∃ ba ca,Grow H6 H' (ws.length+1) (some 0) i ba ca tt,⟨_,_,Grow.start htt⟩,fun i H' hi hP=>?_,fun H7 hP=>?_⟩
  · obtain ⟨ba,ca,g⟩:=hP
    refine turn_all ⟨_,rfl,ws.length+1,some 0,rfl,by omega,fun b c' H8 s8 fb fc ij cb hb hc=>⟨_,s8 _ _ g.lo_,?_,_,_,g.step htt s8 fb fc ij hb hc⟩⟩
    rw [List.length_map,List.length_range];exact small1000 (by omega)
  obtain ⟨bt,ct,gt⟩:=hP
  have g7:=gt.same _ _ g6
  refine ⟨_,rfl,r,C,dx,_,rfl,g7,rc.c,rc.nt,(by show 4 < 1000;decide),?_⟩
  rw [show putF "tails" (V.ref tt) (pf4 p (ws.length:Int) su th)=pf p (ws.length:Int) ⟨su,th,tt,bh,ch,bt,ct⟩ from rfl]
  have rt1:tt≠r:=ne_of gt.lo_ g7 (by intro z;cases z)
  have rt2:∀ l,l < ps.length+1→bt l≠r:=fun l hl=>ne_of (gt.lb l hl) g7 (by intro z;cases z)
  have rt3:∀ l k,l < ps.length+1→k < ws.length+1→ct l k≠r:=fun l k hl hk=>ne_of (gt.lc l k hl hk) g7 (by intro z;cases z)
  have k68:KeepR r H6 (upd H7 r (.ins C dx (pf p (ws.length:Int) ⟨su,th,tt,bh,ch,bt,ct⟩))):=fun a o ha e=>by rw [upd_ne ha];exact gt.same _ _ e
  refine qq _ ⟨su,th,tt,bh,ch,bt,ct⟩ (fun a o ha e=>k68 a o ha (k46 a o ha (k4 a o ha e))) ⟨⟨dx,upd_same⟩,k68 _ _ pr hp6,k68 _ _ sr hs6,⟨k68 _ _ rh1 tb6.o,fun l hl=>k68 _ _ (rh2 l hl) (tb6.b l hl),fun l k hl hk=>k68 _ _ (rh3 l k hl hk) (tb6.c l k hl hk)⟩,⟨by rw [upd_ne rt1];exact gt.lo_,fun l hl=>by rw [upd_ne (rt2 l hl)];exact gt.lb l hl,fun l k hl hk=>by rw [upd_ne (rt3 l k hl hk)];exact gt.lc l k hl hk⟩,fun l i l' i' hl hl' hi hi' e=>gh.inj l i l' i' hl hl' hi hi' e,fun l i l' i' hl hl' hi hi' e=>gt.inj l i l' i' hl hl' hi hi' e,fun l i l' i' hl hl' hi hi' e=>?_,fun z=>?_⟩ fun a hz=>?_
  · have e1:=gt.fc l' i' hl' hi'
    have e:ch l i=ct l' i':=e
    rw [←e,tb6.c l i hl hi] at e1
    cases e1
  · rcases z with ⟨l,i,hl,hi,e⟩ | ⟨l,i,hl,hi,e⟩
    · have e1:=gh.fc l i hl hi
      have e:su=ch l i:=e
      rw [←e,hs4] at e1
      cases e1
    · have e1:=gt.fc l i hl hi
      have e:su=ct l i:=e
      rw [←e,hs6] at e1
      cases e1
  · rcases hz with ⟨l,i,hl,hi,e⟩ | ⟨l,i,hl,hi,e⟩
    · have e:a=ch l i:=e
      rw [e]
      exact f4 _ (gh.fc l i hl hi)
    · have e:a=ct l i:=e
      rw [e]
      exact f4 _ (f6 _ (gt.fc l i hl hi))
end
end K53
set_option Elab.async false
set_option linter.all false
set_option maxRecDepth 100000
namespace K53
open PySem L2
theorem at_rng {f:Nat→V} {n k:Nat} (h:k < n):atI ((List.range n).map f) (k:Int)=some (f k):=atI_nat (by rw [List.getElem?_map,List.getElem?_range h];rfl)
theorem mo_fld {K:PySem.W.Frag} {ta:TE} {f:Str} (h:MonoE ta):MonoE (tFld K ta f):=fun σ H Q Q' hq q=>h σ H _ _ (fun v H1 ⟨a,C,dx,fs,u,e1,e2,e3,e4,e5,q1⟩=>⟨a,C,dx,fs,u,e1,e2,e3,e4,e5,hq _ _ q1⟩) q
structure Mt (P:Program) (w:World) (K:PySem.W.Frag) (mg:Str→Option Value) (base:Heap) (C:Addr) (name:Str) (ps:List Str) (sp:Sp) (k:Nat) where
  f:Addr
  fd:FuncData
  m:Meth K C name f
  ok:FnOk P w K mg base CX0 k f fd ps sp
  b:Binds K fd ps []
def Mt.up {P:Program} {w:World} {K:PySem.W.Frag} {mg:Str→Option Value} {base:Heap} {C:Addr} {name:Str} {ps:List Str} {sp:Sp} {j k:Nat} (f:Mt P w K mg base C name ps sp j) (h:j≤k):Mt P w K mg base C name ps sp k:=⟨f.f,f.fd,f.m,f.ok.mono h,f.b⟩
def up3 (T:Nat→Nat→Nat→OI) (l i j:Nat) (v:OI):Nat→Nat→Nat→OI:=fun l' i' j'=>if l'=l∧i'=i∧j'=j then v else T l' i' j'
theorem up3_at {T:Nat→Nat→Nat→OI} {l i j:Nat} {v:OI}:up3 T l i j v l i j=v:=if_pos ⟨rfl,rfl,rfl⟩
theorem up3_ne {T:Nat→Nat→Nat→OI} {l i j l' i' j':Nat} {v:OI} (h:¬ (l'=l∧i'=i∧j'=j)):up3 T l i j v l' i' j'=T l' i' j':=if_neg h
theorem row_set {T:Nat→Nat→Nat→OI} {l i j s:Nat} {v:OI} (hj:j < s):((List.range s).map fun k=>oV (T l i k)).set j (oV v)=(List.range s).map fun k=>oV (up3 T l i j v l i k):=by
  refine List.ext_getElem? fun k=>?_
  rw [List.getElem?_map]
  by_cases hk:k < s
  · rw [List.getElem?_range hk]
    by_cases e:j=k
    · subst e
      rw [List.getElem?_set_self (by rw [List.length_map,List.length_range];exact hk)]
      show some (oV v)=some (oV (up3 T l i j v l i j))
      rw [up3_at]
    · rw [List.getElem?_set_ne e,List.getElem?_map,List.getElem?_range hk]
      show some (oV (T l i k))=some (oV (up3 T l i j v l i k))
      rw [up3_ne fun z=>e z.2.2.symm]
  · rw [List.getElem?_eq_none (by rw [List.length_set,List.length_map,List.length_range];omega),List.getElem?_eq_none (by rw [List.length_range];omega)]
    rfl
theorem ne_refs {f:Nat→Addr} {g:Nat→OI} {m n:Nat} (hm:0 < m) (hn:0 < n):(List.range m).map (fun l=>V.ref (f l))≠(List.range n).map fun j=>oV (g j):=fun z=>by
  have h1:((List.range m).map (fun l=>V.ref (f l)))[0]?=some (V.ref (f 0)):=by rw [List.getElem?_map,List.getElem?_range hm];rfl
  have h2:((List.range n).map fun j=>oV (g j))[0]?=some (oV (g 0)):=by rw [List.getElem?_map,List.getElem?_range hn];rfl
  rw [z,h2] at h1
  cases hg:g 0 <;> (rw [hg] at h1;cases h1)
theorem Tb.keep {H:Hp} {a c:Addr} {ba:Nat→Addr} {ca:Nat→Nat→Addr} {L s:Nat} {T:Nat→Nat→Nat→OI} {g:Nat→OI} {n:Nat} {o:HO} (h:Tb H a ba ca L s T) (hL:0 < L) (hs:0 < s) (hn:0 < n) (hc:H c=some (.lst ((List.range n).map fun j=>oV (g j)))) (nc:∀ l i,l < L→i < s→ca l i≠c):Tb (upd H c o) a ba ca L s T:=by
  refine ⟨?_,fun l hl=>?_,fun l i hl hi=>?_⟩
  · rw [upd_ne (ne_of h.o hc (fun z=>ne_refs hL hn (HO.lst.inj z)))]
    exact h.o
  · rw [upd_ne (ne_of (h.b l hl) hc (fun z=>ne_refs hs hn (HO.lst.inj z)))]
    exact h.b l hl
  · rw [upd_ne (nc l i hl hi)]
    exact h.c l i hl hi
theorem Tb.put {H:Hp} {a:Addr} {ba:Nat→Addr} {ca:Nat→Nat→Addr} {L s:Nat} {T:Nat→Nat→Nat→OI} {l i j:Nat} {v:OI} (h:Tb H a ba ca L s T) (inj:∀ l i l' i',l < L→l' < L→i < s→i' < s→ca l i=ca l' i'→l=l'∧i=i') (hl:l < L) (hi:i < s) (hj:j < s) :
    Tb (upd H (ca l i) (.lst (((List.range s).map fun k=>oV (T l i k)).set j (oV v)))) a ba ca L s (up3 T l i j v):=by
  rw [row_set hj]
  have hc:=h.c l i hl hi
  refine ⟨?_,fun l' hl'=>?_,fun l' i' hl' hi'=>?_⟩
  · rw [upd_ne (ne_of h.o hc (fun z=>ne_refs (m:=L) (n:=s) (by omega) (by omega) (HO.lst.inj z)))]
    exact h.o
  · rw [upd_ne (ne_of (h.b l' hl') hc (fun z=>ne_refs (m:=s) (n:=s) (by omega) (by omega) (HO.lst.inj z)))]
    exact h.b l' hl'
  · by_cases e:l'=l∧i'=i
    · obtain ⟨rfl,rfl⟩:=e
      rw [upd_same]
    · rw [upd_ne (fun z=>e (inj l' i' l i hl' hl hi' hi z)),h.c l' i' hl' hi']
      refine congrArg (fun z=>some (HO.lst z)) (List.map_congr_left fun k _=>?_)
      rw [up3_ne fun z=>e ⟨z.1,z.2.1⟩]
theorem PAt.puth {C:Addr} {H:Hp} {r p:Addr} {ps ws:List Int} {X:Ad} {h t:Nat→Nat→Nat→OI} {l i j:Nat} {v:OI} (a:PAt C H r p ps ws X h t) (hl:l < ps.length) (hi:i < ws.length+1) (hj:j < ws.length+1) :
    PAt C (upd H (X.ch l i) (.lst (((List.range (ws.length+1)).map fun k=>oV (h l i k)).set j (oV v)))) r p ps ws X (up3 h l i j v) t:=by
  obtain ⟨dx,ho⟩:=a.ob
  have hc:=a.hd.c l i hl hi
  refine ⟨⟨dx,?_⟩,?_,?_,a.hd.put a.ih hl hi hj,a.tl.keep (by omega) (by omega) (by omega) hc fun l' i' hl' hi'=>Ne.symm (a.ix l i l' i' hl hl' hi hi'),a.ih,a.it,a.ix,a.ns⟩
  · rw [upd_ne (ne_of ho hc (by intro z;cases z))];exact ho
  · show upd _ _ _ p=_
    rw [upd_ne (ne_of a.hp hc (by intro z;cases z))];exact a.hp
  · rw [upd_ne (fun z=>a.ns (.inl ⟨l,i,hl,hi,z⟩))];exact a.su
theorem PAt.putt {C:Addr} {H:Hp} {r p:Addr} {ps ws:List Int} {X:Ad} {h t:Nat→Nat→Nat→OI} {l i j:Nat} {v:OI} (a:PAt C H r p ps ws X h t) (hL:0 < ps.length) (hl:l < ps.length+1) (hi:i < ws.length+1) (hj:j < ws.length+1) :
    PAt C (upd H (X.ct l i) (.lst (((List.range (ws.length+1)).map fun k=>oV (t l i k)).set j (oV v)))) r p ps ws X h (up3 t l i j v):=by
  obtain ⟨dx,ho⟩:=a.ob
  have hc:=a.tl.c l i hl hi
  refine ⟨⟨dx,?_⟩,?_,?_,a.hd.keep hL (by omega) (by omega) hc fun l' i' hl' hi'=>a.ix l' i' l i hl' hl hi' hi,a.tl.put a.it hl hi hj,a.ih,a.it,a.ix,a.ns⟩
  · rw [upd_ne (ne_of ho hc (by intro z;cases z))];exact ho
  · show upd _ _ _ p=_
    rw [upd_ne (ne_of a.hp hc (by intro z;cases z))];exact a.hp
  · rw [upd_ne (fun z=>a.ns (.inr ⟨l,i,hl,hi,z⟩))];exact a.su
def KZ (X:Ad) (L s:Nat) (H H':Hp):Prop:=∀ a o,¬ Z X L s a→H a=some o→H' a=some o
section
variable {P:Program} {w:World} {K:PySem.W.Frag} {mg:Str→Option Value} {base:Heap} {f:Addr} {fd:FuncData}
abbrev lsum (h t:Nat→Nat→Nat→OI) (l i j k:Nat):OI:=lo ((List.range (k - i)).map fun b=>oadd (h l i (i+b+1)) (t (l+1) (i+b+1) j))
abbrev NLs:List Str:=["self","letter","first","end","last","heads","tails"]
def spLs (C:Addr):Sp:=fun vs H Q _=>∃ (r p:Addr) (ps ws:List Int) (X:Ad) (h t:Nat→Nat→Nat→OI) (l i j k:Nat),vs=[.ref r,.int (l:Int),.int (i:Int),.int (j:Int),.int (k:Int)]∧PAt C H r p ps ws X h t∧ws.length≤20∧l < ps.length∧i≤k∧k≤ws.length∧j≤ws.length∧∀ H',Same H H'→Q (oV (lsum h t l i j k)) H'
theorem scLs:FnScope NLs ["self","letter","first","end","last"] (defScope sLs):=⟨rfl,rfl,rfl,by decide +kernel,rfl,by decide +kernel,by decide +kernel⟩
theorem ndLs:(("cut":Str) :: NLs).Nodup:=by decide +kernel
set_option maxHeartbeats 8000000 in
theorem ok_ls {C:Addr} (F:Fun K "least_sum" "Parted.least_sum" sLs f fd) (GL:Fns P w K mg base ["numbers"] "least" spLeast 1) (GA:Fns P w K mg base ["one","other"] "added" spAdded 1) (rc:PC K C) (mr:mg "range"=none):FnOk P w K mg base CX0 2 f fd ["self","letter","first","end","last"] (spLs C):=by
  refine F.ok (k:=1) scLs (fun vs H Q E h=>?_) (fun cdv A outer s H vs Q E hr h=>?_)
  · obtain ⟨r,p,ps,ws,X,h,t,l,i,j,k,rfl,_⟩:=h
    rfl
  obtain ⟨r,p,ps,ws,X,h,t,l,i,j,k,rfl,pa,w20,hl,hik,hk,hj,q⟩:=h
  refine ⟨_,pss_cons (ps_set (i:=5) scLs.nd rfl (Or.inr rfl) (pe_ix ix_list (pe_ix ix_list (pe_fld (pv 0) rfl) (pv 1) (fun _ _=>rfl)) (pv 2) (fun _ _=>rfl)))
    (pss_cons (ps_set (i:=6) scLs.nd rfl (Or.inr rfl) (pe_ix ix_list (pe_fld (pv 0) rfl) (pe_op op_add (pv 1) pe_int) (fun _ _=>rfl)))
    (pss_one (ps_ret (pe_call GL.ok hr (by rfl) GL.m GL.kp GL.b .nil pass0 (pa_cons (pe_compR2 (M:=NLs) rfl (CompScope.of (defScope sLs) NLs rfl rfl rfl (by decide +kernel) (by decide +kernel) (by decide +kernel) rfl (by decide +kernel)) ndLs rfl (by rfl) mr (pa_cons (pe_op op_add (pv 2) pe_int) (pa_cons (pe_op op_add (pv 4) pe_int) pa_nil)) (mo_cons (mo_op mo_rI0 mo_var mo_c) (mo_cons (mo_op mo_rI0 mo_var mo_c) mo_nil))
      (fun cl C s0 H0 fp=>⟨pts_nil,pe_call GA.ok hr (by rfl) GA.m GA.kp GA.b .nil pass0 (pa_cons (pe_ix (ixL K) (pv 6) (pv 0) (fun _ _=>rfl)) (pa_cons (pe_ix (ixL K) (pe_ix (ixL K) (pv 7) (pv 0) (fun _ _=>rfl)) (pv 4) (fun _ _=>rfl)) pa_nil))⟩)) pa_nil))))),?_⟩
  obtain ⟨dx,ho⟩:=pa.ob
  have i1:i < ws.length+1:=by omega
  have hT:=pa.hd
  have tT:=pa.tl
  refine ⟨_,rfl,r,C,dx,_,_,rfl,ho,rc.c,rc.nh,rfl,_,rfl,X.th,_,_,_,rfl,rfl,SqL.of hT.o,at_rng hl,_,rfl,X.bh l,_,_,_,rfl,rfl,SqL.of (hT.b l hl),at_rng i1,?_⟩
  refine ⟨_,rfl,r,C,dx,_,_,rfl,ho,rc.c,rc.nt,rfl,_,rfl,_,_,rfl,rfl,X.tt,_,_,_,rfl,rfl,SqL.of tT.o,at_rng (k:=l+1) (by omega),?_⟩
  refine ⟨_,rfl,_,_,rfl,rfl,_,rfl,_,_,rfl,rfl,_,_,rfl,⟨by omega,by omega,by omega,by omega⟩,fun d hd=>?_⟩
  have en:(((k:Int)+1) - ((i:Int)+1)).toNat=k - i:=by omega
  dsimp only
  rw [en]
  refine ⟨fun b H'=>Same H H'∧H' d=some (.lst (((List.range b).map fun b=>oadd (h l i (i+b+1)) (t (l+1) (i+b+1) j)).map oV)),⟨same_newO hd _,upd_same⟩,fun b H' hb hP=>?_,fun H' hP=>?_⟩
  · obtain ⟨s5,hd'⟩:=hP
    have eb:(i:Int)+1+(b:Int)=((i+b+1:Nat):Int):=by push_cast;omega
    rw [eb]
    have hb1:i+b+1 < ws.length+1:=by omega
    refine turn_all ⟨_,rfl,_,rfl,X.ch l i,_,_,_,rfl,rfl,SqL.of (s5 _ _ (hT.c l i hl i1)),at_rng hb1,_,rfl,_,rfl,X.bt (l+1),_,_,_,rfl,rfl,SqL.of (s5 _ _ (tT.b (l+1) (by omega))),at_rng hb1,_,rfl,X.ct (l+1) (i+b+1),_,_,_,rfl,rfl,SqL.of (s5 _ _ (tT.c (l+1) (i+b+1) (by omega) hb1)),at_rng (k:=j) (by omega),_,_,rfl,_,hd',?_,same_upd hd s5,?_⟩
    · rw [List.length_map,List.length_map,List.length_range];exact small1000 (by omega)
    · rw [upd_same,List.range_succ,List.map_append,List.map_append];rfl
  · obtain ⟨s5,hd'⟩:=hP
    exact ⟨d,_,rfl,hd',by rw [List.length_map,List.length_range];omega,fun H6 s6=>q H6 (s5.trans s6)⟩
abbrev NB:List Str:=["self","first","end"]
def spBound (C:Addr):Sp:=fun vs H Q _=>∃ (r p:Addr) (ps ws:List Int) (X:Ad) (h t:Nat→Nat→Nat→OI) (i j:Nat),vs=[.ref r,.int (i:Int),.int (j:Int)]∧PAt C H r p ps ws X h t∧ws.length≤20∧ps.length≤10∧i < j∧j≤ws.length∧∀ H',Same H H'→Q (oV (bnd ps.length h t i j)) H'
theorem scBound:FnScope NB ["self","first","end"] (defScope sBound):=⟨rfl,rfl,rfl,by decide +kernel,rfl,by decide +kernel,by decide +kernel⟩
theorem ndB:(("letter":Str) :: NB).Nodup:=by decide +kernel
set_option maxHeartbeats 8000000 in
theorem ok_bound {C:Addr} (F:Fun K "bound" "Parted.bound" sBound f fd) (GL:Fns P w K mg base ["numbers"] "least" spLeast 2) (M:Mt P w K mg base C "least_sum" ["self","letter","first","end","last"] (spLs C) 2) (rc:PC K C) (ml:mg "len"=none) (mr:mg "range"=none):FnOk P w K mg base CX0 3 f fd ["self","first","end"] (spBound C):=by
  refine F.ok (k:=2) scBound (fun vs H Q E h=>?_) (fun cdv A outer s H vs Q E hr h=>?_)
  · obtain ⟨r,p,ps,ws,X,h,t,i,j,rfl,_⟩:=h
    rfl
  obtain ⟨r,p,ps,ws,X,h,t,i,j,rfl,pa,w20,p10,hij,hj,q⟩:=h
  refine ⟨_,pss_cons (ps_if (pt_cmpR op_eq (pe_op op_sub (pv 2) (pv 1)) pe_int (nomark _)) (pss_one (ps_ret pe_int)) pss_nil)
    (pss_one (ps_ret (pe_call GL.ok hr (by rfl) GL.m GL.kp GL.b .nil pass0 (pa_cons (pe_compR1 (M:=NB) rfl (CompScope.of (defScope sBound) NB rfl rfl rfl (by decide +kernel) (by decide +kernel) (by decide +kernel) rfl (by decide +kernel)) ndB rfl (by rfl) mr (pa_cons (pe_callB call_len_seq (by rfl) ml PySem.boot_len (pa_cons (pe_fld (pv 0) rfl) pa_nil)) pa_nil) (mo_cons (mo_len (mo_cons (mo_fld mo_var) mo_nil)) mo_nil)
      (fun cl C s0 H0 fp=>⟨pts_nil,pe_meth (pv 1) rc.c M.m M.ok hr M.b .nil pass0 (pa_cons (pv 0) (pa_cons (pv 2) (pa_cons (pv 3) (pa_cons (pe_op op_sub (pv 3) pe_int) pa_nil))))⟩)) pa_nil)))),?_⟩
  obtain ⟨dx,ho⟩:=pa.ob
  refine ⟨_,rfl,_,rfl,_,_,rfl,rfl,rfl,_,rfl,?_⟩
  refine ite2 (fun z=>?_) (fun z=>?_)
  · have z1:j - i=1:=by
      have y:V.int ((j:Int) - (i:Int))=V.int 1:=of_decide_eq_true z
      have:=V.int.inj y
      omega
    have:=q H (Same.refl _)
    unfold bnd at this
    rw [if_pos z1] at this
    exact this
  · have z1:¬ j - i=1:=fun y=>z (decide_eq_true (by show V.int ((j:Int) - (i:Int))=V.int 1;congr 1;omega))
    unfold bnd at q
    rw [if_neg z1] at q
    refine ⟨_,rfl,r,C,dx,_,_,rfl,ho,rc.c,rc.np,rfl,p,_,rfl,.inr (SqT.of pa.hp),_,rfl,by rw [List.length_map];omega,by rw [List.length_map];omega,fun d hd=>?_⟩
    rw [List.length_map,Int.toNat_natCast]
    refine ⟨fun l H'=>Same H H'∧H' d=some (.lst (((List.range l).map fun l=>lsum h t l i j (j - 1)).map oV)),⟨same_newO hd _,upd_same⟩,fun l H' hl hP=>?_,fun H' hP=>?_⟩
    · obtain ⟨s5,hd'⟩:=hP
      rw [show (0:Int)+(l:Int)=(l:Int) from Int.zero_add _]
      have ej:(j:Int) - 1=((j - 1:Nat):Int):=by omega
      refine turn_all ⟨_,rfl,r,dx,_,rfl,s5 _ _ ho,rfl,_,rfl,_,rfl,_,rfl,_,rfl,_,_,rfl,rfl,r,p,ps,ws,X,h,t,l,i,j,j - 1,(by show V.ref r :: ([V.int (l:Int),V.int (i:Int),V.int (j:Int),V.int ((j:Int) - 1)]++[])=_;rw [ej];rfl),pa.same s5,w20,hl,by omega,by omega,hj,fun H6 s6=>⟨_,s6 _ _ hd',?_,same_upd hd (s5.trans s6),?_⟩⟩
      · rw [List.length_map,List.length_map,List.length_range];exact small1000 (by omega)
      · rw [upd_same,List.range_succ,List.map_append,List.map_append];rfl
    · obtain ⟨s5,hd'⟩:=hP
      exact ⟨d,_,rfl,hd',by rw [List.length_map,List.length_range];omega,fun H6 s6=>q H6 (s5.trans s6)⟩
end
end K53
set_option Elab.async false
set_option linter.all false
set_option maxRecDepth 100000
namespace K53
open PySem L2
def Wt (ws:List Int) (i j:Nat):Int:=(ws.take j).sum - (ws.take i).sum
abbrev pl (ps:List Int) (l:Nat):Int:=ps.getD l 0
def Bw (ns:List Int):Prop:=∀ x∈ns,0≤x∧x≤B30
theorem sum_bd {ns:List Int} (h:Bw ns):0≤ns.sum∧ns.sum≤ns.length * B30:=by
  induction ns with
  | nil=>simp
  | cons a t ih =>
    have h1:=h a (.head _)
    have h2:=ih fun x hx=>h x (.tail _ hx)
    rw [List.sum_cons,List.length_cons]
    have e:(((t.length+1:Nat):Int)) * B30=t.length * B30+B30:=by push_cast;rw [Int.add_mul];omega
    rw [e]
    omega
theorem Wt_is {ws:List Int} {i j:Nat} (h:i≤j):Wt ws i j=((ws.take j).drop i).sum:=by
  have e:ws.take j=ws.take i++(ws.take j).drop i:=by
    have:=(List.take_append_drop i (ws.take j)).symm
    rw [List.take_take,Nat.min_eq_left h] at this
    exact this
  unfold Wt
  have e2:(ws.take j).sum=(ws.take i).sum+((ws.take j).drop i).sum:=by rw [←List.sum_append,←e]
  omega
theorem Wt_bd {ws:List Int} {i j:Nat} (h:i≤j) (b:Bw ws) (l:ws.length≤20):0≤Wt ws i j∧Wt ws i j≤20 * B30:=by
  rw [Wt_is h]
  have b2:Bw ((ws.take j).drop i):=fun x hx=>b x (List.mem_of_mem_take (List.mem_of_mem_drop hx))
  have:=sum_bd b2
  have l2:((ws.take j).drop i).length≤20:=by rw [List.length_drop,List.length_take];omega
  refine ⟨this.1,Int.le_trans this.2 ?_⟩
  exact Int.mul_le_mul_of_nonneg_right (by omega) (by decide)
theorem lsum_congr {h1 h2 t1 t2:Nat→Nat→Nat→OI} {l i j k:Nat} (eh:∀ b,i < b→b≤k→h1 l i b=h2 l i b) (et:∀ a,i < a→a≤k→t1 (l+1) a j=t2 (l+1) a j):lsum h1 t1 l i j k=lsum h2 t2 l i j k:=by
  show lo _=lo _
  congr 1
  refine List.map_congr_left fun b hb=>?_
  have:=List.mem_range.mp hb
  rw [eh _ (by omega) (by omega),et _ (by omega) (by omega)]
structure Put (ps ws:List Int) (h t h' t':Nat→Nat→Nat→OI) (i j:Nat) (fl:OI) (m:Nat):Prop where
  oh:∀ l a b,¬ (a=i∧b=j)→h' l a b=h l a b
  ot:∀ l a b,¬ (a=i∧b=j)→t' l a b=t l a b
  oe:t' ps.length i j=t ps.length i j
  eh:∀ l,ps.length - m≤l→l < ps.length→h' l i j=oadd (some (pl ps l * Wt ws i j)) fl
  et:∀ l,ps.length - m≤l→l < ps.length→t' l i j=lo [lsum h' t' l i j j,t' (l+1) i j]
theorem Put.step {ps ws:List Int} {h t h' t':Nat→Nat→Nat→OI} {i j:Nat} {fl:OI} {m l:Nat} (u:Put ps ws h t h' t' i j fl m) (hm:m < ps.length) (el:l=ps.length - 1 - m) :
    Put ps ws h t (up3 h' l i j (oadd (some (pl ps l * Wt ws i j)) fl)) (up3 t' l i j (lo [lsum (up3 h' l i j (oadd (some (pl ps l * Wt ws i j)) fl)) t' l i j j,t' (l+1) i j])) i j fl (m+1):=by
  generalize ev:oadd (some (pl ps l * Wt ws i j)) fl=v
  have hT:∀ l',l'≠l→∀ v2 a b,up3 t' l i j v2 l' a b=t' l' a b:=fun l' hne v2 a b=>up3_ne fun z=>hne z.1
  have hH:∀ l',l'≠l→∀ a b,up3 h' l i j v l' a b=h' l' a b:=fun l' hne a b=>up3_ne fun z=>hne z.1
  generalize ev2:lo [lsum (up3 h' l i j v) t' l i j j,t' (l+1) i j]=v2
  refine ⟨fun l' a b z=>?_,fun l' a b z=>?_,?_,fun l' h1 h2=>?_,fun l' h1 h2=>?_⟩
  · rw [up3_ne fun y=>z ⟨y.2.1,y.2.2⟩];exact u.oh l' a b z
  · rw [up3_ne fun y=>z ⟨y.2.1,y.2.2⟩];exact u.ot l' a b z
  · rw [hT _ (by omega)];exact u.oe
  · by_cases e:l'=l
    · subst e;rw [up3_at];exact ev.symm
    · rw [hH l' e];exact u.eh l' (by omega) h2
  · by_cases e:l'=l
    · subst e
      rw [up3_at,←ev2,hT (l'+1) (by omega)]
      congr 2
      exact lsum_congr (fun _ _ _=>rfl) fun a _ _=>(hT (l'+1) (by omega) _ a j).symm
    · rw [hT l' e,u.et l' (by omega) h2,hT (l'+1) (by omega)]
      congr 2
      exact lsum_congr (fun b _ _=>(hH l' e i b).symm) fun a _ _=>(hT (l'+1) (by omega) v2 a j).symm
section
variable {P:Program} {w:World} {K:PySem.W.Frag} {mg:Str→Option Value} {base:Heap} {f:Addr} {fd:FuncData}
abbrev NPt:List Str:=["self","first","end","floor","weight","letter","with_letter"]
def spPut (C:Addr):Sp:=fun vs H Q _=>∃ (r p:Addr) (ps ws:List Int) (X:Ad) (h t:Nat→Nat→Nat→OI) (i j:Nat) (fl:OI),vs=[.ref r,.int (i:Int),.int (j:Int),oV fl]∧PAt C H r p ps ws X h t∧ws.length≤20∧1≤ps.length∧ps.length≤10∧Bw ps∧Bw ws∧i < j∧j≤ws.length ∧
  ∀ H' h' t',KZ X ps.length (ws.length+1) H H'→PAt C H' r p ps ws X h' t'→Put ps ws h t h' t' i j fl ps.length→Q .non H'
theorem scPut:FnScope NPt ["self","first","end","floor"] (defScope sPut):=⟨rfl,rfl,rfl,by decide +kernel,rfl,by decide +kernel,by decide +kernel⟩
theorem at_sums {ws:List Int} {k:Nat} (h:k≤ws.length):atI ((sums ws ws.length).map V.int) (k:Int)=some (.int (ws.take k).sum):=by
  unfold sums
  rw [List.map_map]
  exact at_rng (f:=fun i=>V.int (ws.take i).sum) (by omega)
theorem at_pl {ps:List Int} {l:Nat} (h:l < ps.length):atI (ps.map V.int) (l:Int)=some (.int (pl ps l)):=by
  rw [at_int (List.getElem?_eq_getElem h)]
  unfold pl
  rw [List.getD_eq_getElem?_getD,List.getElem?_eq_getElem h]
  rfl
theorem pl_bd {ps:List Int} (b:Bw ps) (l:Nat):0≤pl ps l∧pl ps l≤B30:=by
  unfold pl
  rw [List.getD_eq_getElem?_getD]
  cases e:ps[l]? with
  | none=>exact ⟨by show (0:Int)≤0;omega,by show (0:Int)≤B30;decide⟩
  | some x=>exact b x (List.mem_of_getElem? e)
set_option maxHeartbeats 16000000 in
theorem ok_put {C:Addr} (F:Fun K "put" "Parted.put" sPut f fd) (GL:Fns P w K mg base ["numbers"] "least" spLeast 2) (GA:Fns P w K mg base ["one","other"] "added" spAdded 2) (M:Mt P w K mg base C "least_sum" ["self","letter","first","end","last"] (spLs C) 2) (rc:PC K C) (ml:mg "len"=none) (mr:mg "range"=none):FnOk P w K mg base CX0 3 f fd ["self","first","end","floor"] (spPut C):=by
  refine F.ok (k:=2) scPut (fun vs H Q E h=>?_) (fun cdv A outer s H vs Q E hr h=>?_)
  · obtain ⟨r,p,ps,ws,X,h,t,i,j,fl,rfl,_⟩:=h
    rfl
  obtain ⟨r,p,ps,ws,X,h,t,i,j,fl,rfl,pa,w20,p1,p10,bp,bw,hij,hj,q⟩:=h
  refine ⟨_,pss_cons (ps_set (i:=4) scPut.nd rfl (Or.inl rfl) (pe_op op_sub (pe_ix ix_list (pe_fld (pv 0) rfl) (pv 2) (fun _ _=>rfl)) (pe_ix ix_list (pe_fld (pv 0) rfl) (pv 1) (fun _ _=>rfl))))
    (pss_one (ps_for PassesOwn.never rfl (pi_rangeD (by rfl) mr (pa_cons (pe_op op_sub (pe_callB call_len_seq (by rfl) ml PySem.boot_len (pa_cons (pe_fld (pv 0) rfl) pa_nil)) pe_int) (pa_cons (pe_un un_neg pe_int) (pa_cons (pe_un un_neg pe_int) pa_nil)))) (pg_name (i:=5) scPut.nd rfl (Or.inl rfl))
      (pss_cons (ps_asg (pe_call GA.ok hr (by rfl) GA.m GA.kp GA.b .nil pass0 (pa_cons (pe_op op_mulB (pe_ix ix_tup (pe_fld (pv 0) rfl) (pv 5) (fun _ _=>rfl)) (pv 4)) (pa_cons (pv 3) pa_nil))) (pg_sub (pe_ix ix_list (pe_ix ix_list (pe_fld (pv 0) rfl) (pv 5) (fun _ _=>rfl)) (pv 1) (fun _ _=>rfl)) (pv 2) set_list))
      (pss_cons (ps_set (i:=6) scPut.nd rfl (Or.inl rfl) (pe_meth (pv 0) rc.c M.m M.ok hr M.b .nil pass0 (pa_cons (pv 5) (pa_cons (pv 1) (pa_cons (pv 2) (pa_cons (pv 2) pa_nil))))))
      (pss_one (ps_asg (pe_call GL.ok hr (by rfl) GL.m GL.kp GL.b .nil pass0 (pa_cons (pe_lst (pa_cons (pv 6) (pa_cons (pe_ix ix_list (pe_ix ix_list (pe_ix ix_list (pe_fld (pv 0) rfl) (pe_op op_add (pv 5) pe_int) (fun _ _=>rfl)) (pv 1) (fun _ _=>rfl)) (pv 2) (fun _ _=>rfl)) pa_nil))) pa_nil)) (pg_sub (pe_ix ix_list (pe_ix ix_list (pe_fld (pv 0) rfl) (pv 5) (fun _ _=>rfl)) (pv 1) (fun _ _=>rfl)) (pv 2) set_list))))))),?_⟩
  obtain ⟨dx,ho⟩:=pa.ob
  refine ⟨_,rfl,r,C,dx,_,_,rfl,ho,rc.c,rc.ns,rfl,_,rfl,X.su,_,_,_,rfl,rfl,SqL.of pa.su,at_sums hj,_,rfl,r,C,dx,_,_,rfl,ho,rc.c,rc.ns,rfl,_,rfl,X.su,_,_,_,rfl,rfl,SqL.of pa.su,at_sums (k:=i) (by omega),_,_,rfl,rfl,?_⟩
  have eW:(fun (x y:Int)=>V.int (x - y)) (ws.take j).sum (ws.take i).sum=.int (Wt ws i j):=rfl
  dsimp only at eW ⊢
  rw [eW]
  have wb:=Wt_bd (Nat.le_of_lt hij) bw w20
  refine ⟨_,rfl,r,C,dx,_,_,rfl,ho,rc.c,rc.np,rfl,p,_,rfl,.inr (SqT.of pa.hp),_,_,rfl,rfl,_,rfl,_,rfl,_,rfl,⟨by rw [List.length_map];omega,by rw [List.length_map];omega⟩,?_⟩
  rw [List.length_map,show ((ps.length:Int) - 1+1).toNat=ps.length by omega]
  have i1:i < ws.length+1:=by omega
  have j1:j < ws.length+1:=by omega
  refine for_range3 (fun m σ H'=>KZ X ps.length (ws.length+1) H H'∧(∃ h' t',PAt C H' r p ps ws X h' t'∧Put ps ws h t h' t' i j fl m)∧∃ x5 x6:Option V,σ=[some (.ref r),some (.int (i:Int)),some (.int (j:Int)),some (oV fl),some (.int (Wt ws i j)),x5,x6])
    ⟨fun _ _ _ e=>e,⟨h,t,pa,fun _ _ _ _=>rfl,fun _ _ _ _=>rfl,rfl,fun l a b=>by omega,fun l a b=>by omega⟩,_,_,rfl⟩ (fun m σ H1 hm hP=>?_) (fun σ H1 hP=>?_)
  · obtain ⟨k1,⟨h',t',pa1,u⟩,x5,x6,rfl⟩:=hP
    obtain ⟨l,el⟩:∃ l,l=ps.length - 1 - m:=⟨_,rfl⟩
    have ev:(ps.length:Int) - 1+(m:Int) * (-1)=(l:Int):=by omega
    rw [ev]
    have hl:l < ps.length:=by omega
    obtain ⟨dx1,ho1⟩:=pa1.ob
    have pb:=pl_bd bp l
    refine ⟨_,rfl,r,C,dx1,_,_,rfl,ho1,rc.c,rc.np,rfl,_,rfl,p,_,_,_,rfl,rfl,SqT.of pa1.hp,at_pl hl,_,rfl,_,_,rfl,rfl,⟨⟨pb.1,by unfold B30 at *;omega⟩,⟨wb.1,by unfold B30 at *;omega⟩⟩,_,rfl,some (pl ps l * Wt ws i j),fl,rfl,?_⟩
    refine ⟨_,rfl,r,C,dx1,_,_,rfl,ho1,rc.c,rc.nh,rfl,_,rfl,X.th,_,_,_,rfl,rfl,SqL.of pa1.hd.o,at_rng hl,_,rfl,X.bh l,_,_,_,rfl,rfl,SqL.of (pa1.hd.b l hl),at_rng i1,_,rfl,X.ch l i,_,_,j,rfl,rfl,pa1.hd.c l i hl i1,(by rw [List.length_map,List.length_range];exact ixN_nat j1),?_⟩
    have pa2:=pa1.puth (v:=oadd (some (pl ps l * Wt ws i j)) fl) hl i1 j1
    have k2:KZ X ps.length (ws.length+1) H (upd H1 (X.ch l i) (.lst (((List.range (ws.length+1)).map fun k=>oV (h' l i k)).set j (oV (oadd (some (pl ps l * Wt ws i j)) fl))))):=fun a o hz e=>by
      rw [upd_ne (fun z=>hz (.inl ⟨l,i,hl,i1,z⟩))]
      exact k1 a o hz e
    generalize upd H1 (X.ch l i) (.lst (((List.range (ws.length+1)).map fun k=>oV (h' l i k)).set j (oV (oadd (some (pl ps l * Wt ws i j)) fl))))=H2 at pa2 k2 ⊢
    obtain ⟨dx2,ho2⟩:=pa2.ob
    refine ⟨_,rfl,r,dx2,_,rfl,ho2,rfl,_,rfl,_,rfl,_,rfl,_,rfl,r,p,ps,ws,X,_,t',l,i,j,j,rfl,pa2,w20,hl,by omega,hj,hj,fun H3 s3=>?_⟩
    have pa3:=pa2.same s3
    have k3:KZ X ps.length (ws.length+1) H H3:=fun a o hz e=>s3 _ _ (k2 a o hz e)
    obtain ⟨dx3,ho3⟩:=pa3.ob
    have l1:l+1 < ps.length+1:=by omega
    refine ⟨_,rfl,_,rfl,r,C,dx3,_,_,rfl,ho3,rc.c,rc.nt,rfl,_,rfl,_,_,rfl,rfl,X.tt,_,_,_,rfl,rfl,SqL.of pa3.tl.o,at_rng l1,_,rfl,X.bt (l+1),_,_,_,rfl,rfl,SqL.of (pa3.tl.b _ l1),at_rng i1,_,rfl,X.ct (l+1) i,_,_,_,rfl,rfl,SqL.of (pa3.tl.c _ i l1 i1),at_rng j1,(by show 2≤sizeLine;decide),fun e1 he1=>?_⟩
    have s4:=same_newO he1 (.lst [oV (lsum (up3 h' l i j (oadd (some (pl ps l * Wt ws i j)) fl)) t' l i j j),oV (t' (l+1) i j)])
    have g4:upd H3 e1 (.lst [oV (lsum (up3 h' l i j (oadd (some (pl ps l * Wt ws i j)) fl)) t' l i j j),oV (t' (l+1) i j)]) e1=some (.lst (([lsum (up3 h' l i j (oadd (some (pl ps l * Wt ws i j)) fl)) t' l i j j,t' (l+1) i j]:List OI).map oV)):=upd_same
    generalize upd H3 e1 (.lst [oV (lsum (up3 h' l i j (oadd (some (pl ps l * Wt ws i j)) fl)) t' l i j j),oV (t' (l+1) i j)])=H4 at s4 g4 ⊢
    refine ⟨e1,_,rfl,g4,by show 2≤100;decide,fun H5 s5=>?_⟩
    have pa5:=pa3.same (s4.trans s5)
    have k5:KZ X ps.length (ws.length+1) H H5:=fun a o hz e=>(s4.trans s5) _ _ (k3 a o hz e)
    obtain ⟨dx5,ho5⟩:=pa5.ob
    have l2:l < ps.length+1:=by omega
    refine ⟨_,rfl,r,C,dx5,_,_,rfl,ho5,rc.c,rc.nt,rfl,_,rfl,X.tt,_,_,_,rfl,rfl,SqL.of pa5.tl.o,at_rng l2,_,rfl,X.bt l,_,_,_,rfl,rfl,SqL.of (pa5.tl.b _ l2),at_rng i1,_,rfl,X.ct l i,_,_,j,rfl,rfl,pa5.tl.c l i l2 i1,(by rw [List.length_map,List.length_range];exact ixN_nat j1),?_⟩
    refine ⟨fun a o hz e=>?_,⟨_,_,pa5.putt p1 l2 i1 j1,u.step hm el⟩,_,_,rfl⟩
    rw [upd_ne (fun z=>hz (.inr ⟨l,i,l2,i1,z⟩))]
    exact k5 a o hz e
  · obtain ⟨k1,⟨h',t',pa1,u⟩,x5,x6,rfl⟩:=hP
    exact q H1 h' t' k1 pa1 u
end
end K53
set_option Elab.async false
set_option linter.all false
set_option maxRecDepth 100000
namespace K53
open PySem L2
def Dn (f e i j:Nat):Prop:=f < i∨(i=f∧j < e)
abbrev most (ps ws:List Int) (F:Nat→Nat→OI) (i j:Nat):OI:=lo (((P ps.length 0 i j).filter fun r=>decide (1 < r.length)).map fun r=>cost (pl ps) (Wt ws) F r)
def bdO (ps ws:List Int) (F:Nat→Nat→OI) (i j:Nat):OI:=if j - i=1 then some 0 else most ps ws F i j
theorem bnd_congr {L:Nat} {h t h' t':Nat→Nat→Nat→OI} {i j:Nat} (hij:i < j) (eh:∀ l b,i < b→b < j→h' l i b=h l i b) (et:∀ l a,i < a→a < j→t' l a j=t l a j):bnd L h' t' i j=bnd L h t i j:=by
  unfold bnd
  split
  · rfl
  · congr 1
    refine List.map_congr_left fun l _=>?_
    exact lsum_congr (k:=j - 1) (fun b h1 h2=>eh l b h1 (by omega)) fun a h1 h2=>et (l+1) a h1 (by omega)
section
variable {P:Program} {w:World} {K:PySem.W.Frag} {mg:Str→Option Value} {base:Heap} {f:Addr} {fd:FuncData}
structure Num (ps ws:List Int):Prop where
  p2:2≤ps.length
  p10:ps.length≤10
  w1:1≤ws.length
  w20:ws.length≤20
  bp:Bw ps
  bw:Bw ws
structure Cl (P:Program) (w:World) (K:PySem.W.Frag) (mg:Str→Option Value) (base:Heap) (C:Addr) where
  rc:PC K C
  g:mg "Parted"=some (.ref C)
  fi:Addr
  di:FuncData
  mkk:Mk K C fi
  oki:FnOk P w K mg base CX0 3 fi di ["self","prices","weights"] (spPInit C)
  bi:Binds K di ["self","prices","weights"] []
end
end K53
set_option Elab.async false
set_option linter.all false
set_option maxRecDepth 100000
namespace K53
open PySem L2
structure Fin (ps ws:List Int) (h t:Nat→Nat→Nat→OI) (F:Nat→Nat→OI) (pr:Nat→Nat→Prop):Prop where
  dg:∀ l i,l≤ps.length→i≤ws.length→t l i i=some 0
  ed:∀ i j,i < j→j≤ws.length→t ps.length i j=none
  eq:∀ i j,i < j→j≤ws.length→pr i j→Eqs (pl ps) (Wt ws) F ps.length h t i j
theorem Fin.weak {ps ws:List Int} {h t:Nat→Nat→Nat→OI} {F:Nat→Nat→OI} {pr pr':Nat→Nat→Prop} (a:Fin ps ws h t F pr) (h1:∀ i j,i < j→j≤ws.length→pr' i j→pr i j):Fin ps ws h t F pr' :=
  ⟨a.dg,a.ed,fun i j hij hj hp=>a.eq i j hij hj (h1 i j hij hj hp)⟩
theorem Fin.step {ps ws:List Int} {h t h' t':Nat→Nat→Nat→OI} {F:Nat→Nat→OI} {f e:Nat} (a:Fin ps ws h t F (Dn f e)) (hfe:f < e) (he:e≤ws.length) (u:Put ps ws h t h' t' f e (F f e) ps.length):Fin ps ws h' t' F (Dn f (e+1)):=by
  refine ⟨fun l i hl hi=>?_,fun i j hij hj=>?_,fun i j hij hj hp=>?_⟩
  · rw [u.ot l i i (by omega)];exact a.dg l i hl hi
  · by_cases z:i=f∧j=e
    · rw [z.1,z.2,u.oe];exact a.ed f e hfe he
    · rw [u.ot _ i j z];exact a.ed i j hij hj
  · by_cases z:i=f∧j=e
    · obtain ⟨rfl,rfl⟩:=z
      refine ⟨fun l hl=>?_,fun l hl=>u.et l (by omega) hl⟩
      rw [u.eh l (by omega) hl]
    · have d:Dn f e i j:=by
        rcases hp with y | y
        · exact .inl y
        · exact .inr ⟨y.1,by omega⟩
      have E:=a.eq i j hij hj d
      have nh:∀ b,i < b→b≤j→¬ (i=f∧b=e):=fun b h1 h2 y=>by
        rcases d with w | w <;> omega
      have nt:∀ x,i < x→x≤j→¬ (x=f∧j=e):=fun x h1 h2 y=>by
        rcases d with w | w <;> omega
      refine ⟨fun l hl=>?_,fun l hl=>?_⟩
      · rw [u.oh l i j z];exact E.eh l hl
      · rw [u.ot l i j z,u.ot (l+1) i j z,E.et l hl]
        congr 2
        exact (lsum_congr (k:=j) (fun b h1 h2=>u.oh l i b (nh b h1 h2)) fun x h1 h2=>u.ot (l+1) x j (nt x h1 h2)).symm
theorem Fin.bdO {ps ws:List Int} {h t:Nat→Nat→Nat→OI} {F:Nat→Nat→OI} (a:Fin ps ws h t F (fun _ _=>True)):∀ i j,i < j→j≤ws.length→bnd ps.length h t i j=bdO ps ws F i j:=fun f e hfe he=>by
  unfold K53.bdO
  by_cases e1:e - f=1
  · unfold bnd;rw [if_pos e1,if_pos e1]
  · rw [if_neg e1]
    exact bound_is (p:=pl ps) (W:=Wt ws) (F:=F) a.dg a.ed (fun l c hl h1 h2=>(a.eq f c h1 (by omega) trivial).eh l hl) (fun x y h1 h2 h3=>a.eq x y h2 h3 trivial) (by omega) he
def up2 (F:Nat→Nat→OI) (i j:Nat) (v:OI):Nat→Nat→OI:=fun a b=>if a=i∧b=j then v else F a b
theorem cost_none {p:Nat→Int} {W:Nat→Nat→Int} {F:Nat→Nat→OI}:∀ {r:Pa},cost p W F r=none↔∃ q∈r,F q.1 q.2.1=none
  | []=>⟨fun z=>(by cases z),fun ⟨q,h,_⟩=>(by cases h)⟩
  | q :: r=>by
    have ih:=cost_none (p:=p) (W:=W) (F:=F) (r:=r)
    show oadd (part p W F q) (cost p W F r)=none↔_
    unfold part
    cases e1:F q.1 q.2.1 with
    | none=>exact ⟨fun _=>⟨q,.head _,e1⟩,fun _=>rfl⟩
    | some v =>
      cases e2:cost p W F r with
      | none =>
        obtain ⟨q',h',e'⟩:=ih.mp e2
        exact ⟨fun _=>⟨q',.tail _ h',e'⟩,fun _=>rfl⟩
      | some u =>
        refine ⟨fun z=>(by cases z),fun ⟨q',h',e'⟩=>?_⟩
        rcases List.mem_cons.mp h' with z | z
        · rw [z,e1] at e';cases e'
        · rw [ih.mpr ⟨q',z,e'⟩] at e2;cases e2
structure Fln (ps ws:List Int) (h t:Nat→Nat→Nat→OI) (F:Nat→Nat→OI) (pr:Nat→Nat→Prop):Prop where
  fin:Fin ps ws h t F pr
  bd:∀ i j,i < j→j≤ws.length→pr i j→bnd ps.length h t i j=F i j
theorem Fln.weak {ps ws:List Int} {h t:Nat→Nat→Nat→OI} {F:Nat→Nat→OI} {pr pr':Nat→Nat→Prop} (a:Fln ps ws h t F pr) (h1:∀ i j,i < j→j≤ws.length→pr' i j→pr i j):Fln ps ws h t F pr' :=
  ⟨a.fin.weak h1,fun i j hij hj hp=>a.bd i j hij hj (h1 i j hij hj hp)⟩
theorem Fln.step {ps ws:List Int} {h t h' t':Nat→Nat→Nat→OI} {F:Nat→Nat→OI} {f e:Nat} (a:Fln ps ws h t F (Dn f e)) (hfe:f < e) (he:e≤ws.length) (u:Put ps ws h t h' t' f e (bnd ps.length h t f e) ps.length):∃ F',Fln ps ws h' t' F' (Dn f (e+1)):=by
  have nd:∀ {i j},Dn f e i j→¬ (i=f∧j=e):=fun d z=>by rcases d with w | w <;> omega
  have ef:up2 F f e (bnd ps.length h t f e) f e=bnd ps.length h t f e:=by unfold up2;rw [if_pos ⟨rfl,rfl⟩]
  have a':Fin ps ws h t (up2 F f e (bnd ps.length h t f e)) (Dn f e):=⟨a.fin.dg,a.fin.ed,fun i j hij hj hp=>⟨fun l hl=>by
    unfold up2
    rw [if_neg (nd hp)]
    exact (a.fin.eq i j hij hj hp).eh l hl,(a.fin.eq i j hij hj hp).et⟩⟩
  refine ⟨up2 F f e (bnd ps.length h t f e),a'.step hfe he (by rw [ef];exact u),fun i j hij hj hp=>?_⟩
  by_cases z:i=f∧j=e
  · obtain ⟨rfl,rfl⟩:=z
    rw [ef,bnd_congr hij (fun l b h1 h2=>u.oh l i b (by omega)) (fun l x h1 h2=>u.ot l x j (by omega))]
  · have d:Dn f e i j:=by
      rcases hp with y | y
      · exact .inl y
      · exact .inr ⟨y.1,by omega⟩
    unfold up2
    rw [if_neg z,bnd_congr hij (fun l b h1 h2=>u.oh l i b (fun y=>by rcases d with w | w <;> omega)) (fun l x h1 h2=>u.ot l x j (fun y=>by rcases d with w | w <;> omega))]
    exact a.bd i j hij hj d
theorem Fln.own {ps ws:List Int} {h t:Nat→Nat→Nat→OI} {F:Nat→Nat→OI} (a:Fln ps ws h t F (fun _ _=>True)):∀ i j,i < j→j≤ws.length→F i j=bdO ps ws F i j:=fun i j hij hj=>by
  rw [←a.bd i j hij hj trivial]
  exact a.fin.bdO i j hij hj
section
variable {P:Program} {w:World} {K:PySem.W.Frag} {mg:Str→Option Value} {base:Heap} {f:Addr} {fd:FuncData}
abbrev NPl:List Str:=["prices","weights","parted","first","end"]
def spPl (C:Addr):Sp:=fun vs H Q _=>∃ (p q:Addr) (ps ws:List Int),vs=[.ref p,.ref q]∧TW H p ps∧TW H q ws∧Num ps ws∧∀ (r:Addr) X h t F H',Same H H'→PAt C H' r p ps ws X h t→Fln ps ws h t F (fun _ _=>True)→Q (.ref r) H'
theorem scPl:FnScope NPl ["prices","weights"] (defScope sPl):=⟨rfl,rfl,rfl,by decide +kernel,rfl,by decide +kernel,by decide +kernel⟩
set_option maxHeartbeats 8000000 in
theorem ok_pl {C:Addr} (F:Fun K "parted_least" "parted_least" sPl f fd) (cl:Cl P w K mg base C) (MP:Mt P w K mg base C "put" ["self","first","end","floor"] (spPut C) 4) (MB:Mt P w K mg base C "bound" ["self","first","end"] (spBound C) 4) (ml:mg "len"=none) (mr:mg "range"=none):FnOk P w K mg base CX0 5 f fd ["prices","weights"] (spPl C):=by
  refine F.ok (k:=4) scPl (fun vs H Q E h=>?_) (fun cdv A outer s H vs Q E hr h=>?_)
  · obtain ⟨p,q,ps,ws,rfl,_⟩:=h
    rfl
  obtain ⟨p,q,ps,ws,rfl,hp,hq,nu,qq⟩:=h
  obtain ⟨p2,p10,w1,w20,bp,bw⟩:=nu
  refine ⟨_,pss_cons (ps_set (i:=2) scPl.nd rfl (Or.inl rfl) (pe_make cl.mkk cl.oki hr (by rfl) cl.g cl.bi .nil pass0 (pa_cons (pv 0) (pa_cons (pv 1) pa_nil))))
    (pss_cons (ps_for PassesOwn.never rfl (pi_rangeD (by rfl) mr (pa_cons (pe_op op_sub (pe_callB call_len_seq (by rfl) ml PySem.boot_len (pa_cons (pv 1) pa_nil)) pe_int) (pa_cons (pe_un un_neg pe_int) (pa_cons (pe_un un_neg pe_int) pa_nil)))) (pg_name (i:=3) scPl.nd rfl (Or.inl rfl))
      (pss_one (ps_for PassesOwn.never rfl (pi_range2 (by rfl) mr (pa_cons (pe_op op_add (pv 3) pe_int) (pa_cons (pe_op op_add (pe_callB call_len_seq (by rfl) ml PySem.boot_len (pa_cons (pv 1) pa_nil)) pe_int) pa_nil))) (pg_name (i:=4) scPl.nd rfl (Or.inl rfl))
        (pss_one (ps_expr (pe_meth (pv 2) cl.rc.c MP.m MP.ok hr MP.b .nil pass0 (pa_cons (pv 3) (pa_cons (pv 4) (pa_cons (pe_meth (pv 2) cl.rc.c MB.m MB.ok hr MB.b .nil pass0 (pa_cons (pv 3) (pa_cons (pv 4) pa_nil))) pa_nil)))))))))
    (pss_one (ps_ret (pv 2)))),?_⟩
  refine ⟨_,rfl,_,rfl,fun r dx rn hdx _=>?_⟩
  have sm:Same H (upd (upd H dx (.own r)) r (.ins C dx [])):=same_upd rn (same_newO hdx _)
  refine ⟨r,dx,p,q,ps,ws,rfl,upd_same,sm _ _ hp,sm _ _ hq,by omega,p10,w20,fun H1 X k1 pa1 fz=>⟨rfl,?_⟩⟩
  have s1:Same H H1:=fun a o e=>k1 a o (fun z=>by rw [z,rn] at e;cases e) (sm a o e)
  have fz':∀ a,Z X ps.length (ws.length+1) a→H a=none:=fun a hz=>sm.free (fz a hz)
  have nz:∀ {a o},H a=some o→¬ Z X ps.length (ws.length+1) a:=fun e hz=>by rw [fz' _ hz] at e;cases e
  have st0:∃ F,Fln ps ws h0 t0 F (fun i _=>ws.length≤i):=⟨fun _ _=>none,⟨fun l i _ _=>if_pos rfl,fun i j hij _=>if_neg (by omega),fun i j hij hj hp=>absurd hp (by show ¬ ws.length≤i;omega)⟩,fun i j hij hj hp=>absurd hp (by show ¬ ws.length≤i;omega)⟩
  refine ⟨_,rfl,q,_,rfl,.inr (SqT.of (s1 _ _ hq)),_,_,rfl,rfl,_,rfl,_,rfl,_,rfl,⟨by rw [List.length_map];omega,by rw [List.length_map];omega⟩,?_⟩
  rw [List.length_map,show ((ws.length:Int) - 1+1).toNat=ws.length by omega]
  refine for_range3 (fun m σ H'=>Same H H'∧(∃ h t F,PAt C H' r p ps ws X h t∧Fln ps ws h t F (fun i _=>ws.length - m≤i))∧∃ x3 x4:Option V,σ=[some (.ref p),some (.ref q),some (.ref r),x3,x4])
    ⟨s1,(by obtain ⟨F,hF⟩:=st0;exact ⟨h0,t0,F,pa1,hF⟩),_,_,rfl⟩ (fun m σ H2 hm hP=>?_) (fun σ H2 hP=>?_)
  · obtain ⟨s2,⟨h,t,F,pa2,fn2⟩,x3,x4,rfl⟩:=hP
    obtain ⟨f,ef⟩:∃ f,f=ws.length - 1 - m:=⟨_,rfl⟩
    have ev:(ws.length:Int) - 1+(m:Int) * (-1)=(f:Int):=by omega
    rw [ev]
    have hf:f < ws.length:=by omega
    refine ⟨_,rfl,_,_,rfl,rfl,_,rfl,q,_,rfl,.inr (SqT.of (s2 _ _ hq)),_,_,rfl,rfl,_,_,rfl,⟨by omega,by omega,by rw [List.length_map];omega,by rw [List.length_map];omega⟩,?_⟩
    refine for_range (fun k σ H'=>Same H H'∧(∃ h t F,PAt C H' r p ps ws X h t∧Fln ps ws h t F (Dn f (f+1+k)))∧∃ x4:Option V,σ=[some (.ref p),some (.ref q),some (.ref r),some (.int (f:Int)),x4])
      ⟨s2,⟨h,t,F,pa2,fn2.weak fun i j hij hj d=>by show ws.length - m≤i;rcases d with z | z <;> omega⟩,_,rfl⟩ (fun k σ H3 hk hP=>?_) (fun σ H3 hP=>?_)
    · obtain ⟨s3,⟨h3,t3,F3,pa3,fn3⟩,x4,rfl⟩:=hP
      have hk':f+1+k≤ws.length:=by
        have:(ws.map V.int).length=ws.length:=List.length_map ..
        omega
      have ee:(f:Int)+1+(k:Int)=((f+1+k:Nat):Int):=by push_cast;omega
      rw [ee]
      obtain ⟨dx3,ho3⟩:=pa3.ob
      refine ⟨_,rfl,r,dx3,_,rfl,ho3,rfl,_,rfl,_,rfl,_,rfl,r,dx3,_,rfl,ho3,rfl,_,rfl,_,rfl,r,p,ps,ws,X,h3,t3,f,f+1+k,rfl,pa3,w20,p10,by omega,hk',fun H4 s4=>?_⟩
      refine ⟨r,p,ps,ws,X,h3,t3,f,f+1+k,_,rfl,pa3.same s4,w20,by omega,p10,bp,bw,by omega,hk',fun H5 h5 t5 k5 pa5 u=>?_⟩
      obtain ⟨F5,fn5⟩:=fn3.step (by omega) hk' u
      exact ⟨fun a o e=>k5 a o (nz e) (s4 _ _ (s3 _ _ e)),⟨h5,t5,F5,pa5,fn5⟩,_,rfl⟩
    · obtain ⟨s3,⟨h3,t3,F3,pa3,fn3⟩,x4,rfl⟩:=hP
      have en:(((((ws.map V.int).length:Nat):Int)+1) - ((f:Int)+1)).toNat=ws.length - f:=by rw [List.length_map];omega
      rw [en] at fn3
      exact ⟨s3,⟨h3,t3,F3,pa3,fn3.weak fun i j hij hj d=>by
        have d:ws.length - (m+1)≤i:=d
        by_cases z:f < i
        · exact .inl z
        · exact .inr ⟨by omega,by omega⟩⟩,_,_,rfl⟩
  · obtain ⟨s2,⟨h,t,F,pa2,fn2⟩,x3,x4,rfl⟩:=hP
    exact ⟨_,rfl,qq r X h t F H2 s2 pa2 (fn2.weak fun i j _ _ _=>by show ws.length - ws.length≤i;omega)⟩
end
end K53
set_option Elab.async false
set_option linter.all false
set_option maxRecDepth 100000
namespace K53
open PySem L2
namespace CT
def mi (xs:List Int):OI:=lo (xs.map some)
def ct (xs:List Int):Nat:=match mi xs with
  | none=>0
  | some m=>xs.count m
theorem mi_some {xs:List Int} {m:Int}:mi xs=some m↔m∈xs∧∀ k∈xs,m≤k:=by
  unfold mi
  rw [lo_some]
  constructor
  · rintro ⟨h1,h2⟩
    obtain ⟨x,hx,e⟩:=List.mem_map.mp h1
    cases e
    exact ⟨hx,fun k hk=>h2 k (List.mem_map.mpr ⟨k,hk,rfl⟩)⟩
  · rintro ⟨h1,h2⟩
    refine ⟨List.mem_map.mpr ⟨m,h1,rfl⟩,fun k hk=>?_⟩
    obtain ⟨x,hx,e⟩:=List.mem_map.mp hk
    cases e
    exact h2 _ hx
theorem mi_none {xs:List Int}:mi xs=none↔xs=[]:=by
  unfold mi
  rw [lo_none]
  constructor
  · intro h
    cases xs with
    | nil=>rfl
    | cons x xs=>exact absurd (.head _) (h x)
  · rintro rfl k hk
    cases hk
theorem ct_of {xs:List Int} {m:Int} (h:mi xs=some m):ct xs=xs.count m:=by unfold ct;rw [h]
theorem mi_flat {α:Type} (B:List α) (X:α→List Int):mi (B.flatMap X)=lo (B.map fun b=>mi (X b)):=by
  unfold mi
  rw [List.map_flatMap,lo_flat]
theorem ct_flat {α:Type} {X:α→List Int} {m:Int}:∀ (B:List α),(∀ b∈B,∀ k∈X b,m≤k)→(B.flatMap X).count m=((B.filter fun b=>decide (mi (X b)=some m)).map fun b=>ct (X b)).sum
  | [],_=>rfl
  | b :: B,h=>by
    have ih:=ct_flat B fun c hc=>h c (.tail _ hc)
    rw [List.flatMap_cons,List.count_append,ih,List.filter_cons]
    by_cases e:mi (X b)=some m
    · rw [if_pos (decide_eq_true e),List.map_cons,List.sum_cons,ct_of e]
    · rw [if_neg (by rw [decide_eq_false e];decide)]
      have:(X b).count m=0:=by
        refine List.count_eq_zero.mpr fun hm=>e ?_
        exact mi_some.mpr ⟨hm,fun k hk=>h b (.head _) k hk⟩
      omega
def sums (k:Int) (as bs:List Int):List Int:=as.flatMap fun a=>bs.map fun b=>k+a+b
theorem mi_sums (k:Int) (as bs:List Int):mi (sums k as bs)=oadd (oadd (some k) (mi as)) (mi bs):=by
  cases ea:mi as with
  | none =>
    rw [mi_none.mp ea]
    exact mi_none.mpr rfl
  | some a =>
    cases eb:mi bs with
    | none =>
      rw [mi_none.mp eb]
      refine mi_none.mpr ?_
      unfold sums
      rw [List.flatMap_eq_nil_iff]
      intro x _
      rfl
    | some b =>
      obtain ⟨a1,a2⟩:=mi_some.mp ea
      obtain ⟨b1,b2⟩:=mi_some.mp eb
      refine mi_some.mpr ⟨List.mem_flatMap.mpr ⟨a,a1,List.mem_map.mpr ⟨b,b1,rfl⟩⟩,fun x hx=>?_⟩
      obtain ⟨a',ha,hx⟩:=List.mem_flatMap.mp hx
      obtain ⟨b',hb,rfl⟩:=List.mem_map.mp hx
      have:=a2 a' ha
      have:=b2 b' hb
      omega
theorem count_map_add (k m:Int):∀ bs:List Int,(bs.map fun b=>k+b).count m=bs.count (m - k)
  | []=>rfl
  | b :: bs=>by
    rw [List.map_cons,List.count_cons,List.count_cons,count_map_add k m bs]
    congr 1
    by_cases e:k+b=m
    · have e2:b=m - k:=by omega
      rw [if_pos (beq_iff_eq.mpr e),if_pos (beq_iff_eq.mpr e2)]
    · have e2:¬ b=m - k:=by omega
      rw [if_neg (fun z=>e (beq_iff_eq.mp z)),if_neg (fun z=>e2 (beq_iff_eq.mp z))]
theorem ct_sums (k:Int) (as bs:List Int):ct (sums k as bs)=ct as * ct bs:=by
  cases ea:mi as with
  | none =>
    rw [mi_none.mp ea]
    show ct []=ct [] * _
    have:ct []=0:=by unfold ct;rw [mi_none.mpr rfl]
    rw [this,Nat.zero_mul]
  | some a =>
    cases eb:mi bs with
    | none =>
      have e0:sums k as bs=[]:=by
        rw [mi_none.mp eb]
        unfold sums
        rw [List.flatMap_eq_nil_iff]
        intro x _
        rfl
      have:ct []=0:=by unfold ct;rw [mi_none.mpr rfl]
      rw [e0,mi_none.mp eb,this,Nat.mul_zero]
    | some b =>
      obtain ⟨a1,a2⟩:=mi_some.mp ea
      obtain ⟨b1,b2⟩:=mi_some.mp eb
      have es:mi (sums k as bs)=some (k+a+b):=by rw [mi_sums,ea,eb];rfl
      rw [ct_of es,ct_of ea,ct_of eb]
      unfold sums
      have key:∀ xs:List Int,(∀ x∈xs,a≤x)→(xs.flatMap fun a'=>bs.map fun b'=>k+a'+b').count (k+a+b)=xs.count a * bs.count b:=by
        intro xs
        induction xs with
        | nil=>intro _;simp
        | cons x xs ih =>
          intro h
          rw [List.flatMap_cons,List.count_append,ih fun y hy=>h y (.tail _ hy),count_map_add (k+x),List.count_cons]
          by_cases e:x=a
          · subst e
            rw [show k+x+b - (k+x)=b by omega,if_pos (by simp),Nat.add_mul]
            omega
          · have hx:=h x (.head _)
            have:bs.count (k+a+b - (k+x))=0:=by
              refine List.count_eq_zero.mpr fun hm=>?_
              have:=b2 _ hm
              omega
            rw [this,if_neg (by simpa using e),Nat.add_zero,Nat.zero_add]
      exact key as a2
abbrev Code:=List (List Int)
def Bk (L l m:Nat):List (Nat × Nat):=(List.range (L - l)).flatMap fun a=>(List.range m).map fun b=>(l+a,b)
theorem Bk_mem {L l m:Nat} {q:Nat × Nat}:q∈Bk L l m↔l≤q.1∧q.1 < L∧q.2 < m:=by
  unfold Bk
  constructor
  · intro h
    obtain ⟨a,ha,h⟩:=List.mem_flatMap.mp h
    obtain ⟨b,hb,rfl⟩:=List.mem_map.mp h
    have:=List.mem_range.mp ha
    have:=List.mem_range.mp hb
    exact ⟨by show l≤l+a;omega,by show l+a < L;omega,by assumption⟩
  · rintro ⟨h1,h2,h3⟩
    refine List.mem_flatMap.mpr ⟨q.1 - l,List.mem_range.mpr (by omega),List.mem_map.mpr ⟨q.2,List.mem_range.mpr h3,?_⟩⟩
    rw [show l+(q.1 - l)=q.1 by omega]
section
variable (L n:Nat) (h t:Nat→Nat→Nat→OI) (F:Nat→Nat→OI) (p:Nat→Int) (W:Nat→Nat→Int)
def vl (i j:Nat) (q:Nat × Nat):OI:=oadd (h q.1 i (i+q.2+1)) (t (q.1+1) (i+q.2+1) j)
structure Tb:Prop where
  dg:∀ l j,l≤L→j≤n→t l j j=some 0
  tt:∀ l i j,l≤L→i < j→j≤n→t l i j=lo ((Bk L l (j - i)).map (vl h t i j))
  ff:∀ i j,i < j→j≤n→F i j=if j - i=1 then some 0 else lo ((Bk L 0 (j - 1 - i)).map (vl h t i j))
  hh:∀ l i j,l < L→i < j→j≤n→h l i j=oadd (some (p l * W i j)) (F i j)
  tn:∀ l i j,l < L→i < j→j≤n→t l i j≠none
  fn:∀ i j,i < j→j≤n→F i j≠none
  pw:∀ l i j,l < L→i < j→j≤n→0 < p l * W i j
variable (cd:Nat→Nat→Nat) (tl:Nat→Nat→Nat→Nat)
def ovr (l i j:Nat):Nat:=(((Bk L l (j - i)).filter fun q=>decide (vl h t i j q=t l i j)).map fun q=>cd i (i+q.2+1) * tl (q.1+1) (i+q.2+1) j).sum
structure Cn:Prop where
  cdE:∀ i j,i < j→j≤n→cd i j=if j - i=1 then 1 else ovr L h t cd tl 0 i j
  tlE:∀ l i j,l < L→i < j→j≤n→tl l i j=ovr L h t cd tl l i j
  td:∀ l j,l≤L→j≤n→tl l j j=1
variable (Cs:Nat→List Code) (Rs:Nat→Nat→List Code) (co:Nat→Code→Int)
def ahd (l:Nat) (c:Code):Code:=c.map fun w=>(l:Int) :: w
def bhd (many:Nat) (q:Nat × Nat):List Code:=if q.2+1 < many then Rs (many - (q.2+1)) (q.1+1) else [[]]
def rw' (many low most:Nat):List Code:=(Bk L low most).flatMap fun q=>(Cs (q.2+1)).flatMap fun c=>(bhd Rs many q).map fun r=>ahd q.1 c++r
structure En:Prop where
  c1:Cs 1=[[[]]]
  cs:∀ m,1 < m→Cs m=rw' L Cs Rs m 0 (m - 1)
  rs:∀ m l,1≤m→l < L→Rs m l=rw' L Cs Rs m l m
  rL:∀ m,Rs m L=[]
  nil:∀ i,co i []=0
  one:∀ i,co i [[]]=0
  app:∀ i l m c r,c∈Cs m→co i (ahd l c++r)=p l * W i (i+m)+co i c+co (i+m) r
variable {L n h t F p W cd tl Cs Rs co}
theorem flat_congr {α β:Type} {f g:α→List β}:∀ {xs:List α},(∀ x∈xs,f x=g x)→xs.flatMap f=xs.flatMap g
  | [],_=>rfl
  | x :: xs,h=>by rw [List.flatMap_cons,List.flatMap_cons,h x (.head _),flat_congr fun y hy=>h y (.tail _ hy)]
theorem row_is (T:Tb L n h t F p W) (N:Cn L n h t cd tl) (E:En L p W Cs Rs co) {i w low most:Nat} (hw:i+w≤n) (hm:most≤w) (hl:low≤L)
    (ihC:∀ m,1≤m→m≤most→mi ((Cs m).map (co i))=F i (i+m)∧ct ((Cs m).map (co i))=cd i (i+m))
    (ihR:∀ m l k,1≤m→m < w→l < L→k+m≤n→mi ((Rs m l).map (co k))=t l k (k+m)∧ct ((Rs m l).map (co k))=tl l k (k+m)) :
    ∀ q∈Bk L low most,mi (((Cs (q.2+1)).flatMap fun c=>(bhd Rs w q).map fun r=>ahd q.1 c++r).map (co i))=vl h t i (i+w) q ∧
      (vl h t i (i+w) q≠none→ct (((Cs (q.2+1)).flatMap fun c=>(bhd Rs w q).map fun r=>ahd q.1 c++r).map (co i))=cd i (i+q.2+1) * tl (q.1+1) (i+q.2+1) (i+w)):=by
  intro q hq
  obtain ⟨q1,q2,q3⟩:=Bk_mem.mp hq
  have e:((Cs (q.2+1)).flatMap fun c=>(bhd Rs w q).map fun r=>ahd q.1 c++r).map (co i)=sums (p q.1 * W i (i+q.2+1)) ((Cs (q.2+1)).map (co i)) ((bhd Rs w q).map (co (i+q.2+1))):=by
    unfold sums
    rw [List.map_flatMap,List.flatMap_map]
    have:∀ c∈Cs (q.2+1),((bhd Rs w q).map fun r=>ahd q.1 c++r).map (co i)=((bhd Rs w q).map (co (i+q.2+1))).map fun b=>p q.1 * W i (i+q.2+1)+co i c+b:=fun c hc=>by
      rw [List.map_map,List.map_map]
      refine List.map_congr_left fun r _=>?_
      show co i (ahd q.1 c++r)=_
      rw [E.app i q.1 (q.2+1) c r hc]
      rfl
    clear hq
    generalize Cs (q.2+1)=xs at this
    induction xs with
    | nil=>rfl
    | cons x xs ih =>
      rw [List.flatMap_cons,List.flatMap_cons,this x (.head _),ih fun c hc=>this c (.tail _ hc)]
  obtain ⟨c1,c2⟩:=ihC (q.2+1) (by omega) (by omega)
  have hb:q.2+1 < w→(mi ((bhd Rs w q).map (co (i+q.2+1)))=t (q.1+1) (i+q.2+1) (i+w)∧(t (q.1+1) (i+q.2+1) (i+w)≠none→ct ((bhd Rs w q).map (co (i+q.2+1)))=tl (q.1+1) (i+q.2+1) (i+w))):=fun hlt=>by
    unfold bhd
    rw [if_pos hlt]
    by_cases hL:q.1+1 < L
    · obtain ⟨r1,r2⟩:=ihR (w - (q.2+1)) (q.1+1) (i+q.2+1) (by omega) (by omega) hL (by omega)
      rw [show i+q.2+1+(w - (q.2+1))=i+w by omega] at r1 r2
      exact ⟨r1,fun _=>r2⟩
    · have eL:q.1+1=L:=by omega
      have en:t (q.1+1) (i+q.2+1) (i+w)=none:=by
        rw [T.tt (q.1+1) (i+q.2+1) (i+w) (by omega) (by omega) hw,eL]
        unfold Bk
        rw [Nat.sub_self]
        exact lo_nil
      rw [en,eL,E.rL]
      exact ⟨mi_none.mpr rfl,fun z=>absurd rfl z⟩
  have hb':¬ q.2+1 < w→mi ((bhd Rs w q).map (co (i+q.2+1)))=t (q.1+1) (i+q.2+1) (i+w)∧(t (q.1+1) (i+q.2+1) (i+w)≠none→ct ((bhd Rs w q).map (co (i+q.2+1)))=tl (q.1+1) (i+q.2+1) (i+w)):=fun hge=>by
    unfold bhd
    rw [if_neg hge]
    have ee:i+q.2+1=i+w:=by omega
    rw [ee,T.dg (q.1+1) (i+w) (by omega) hw,N.td (q.1+1) (i+w) (by omega) hw]
    have e1:[([]:Code)].map (co (i+w))=[0]:=by rw [List.map_singleton,E.nil]
    rw [e1]
    have e2:mi [0]=some 0:=mi_some.mpr ⟨.head _,fun k hk=>by simp at hk;omega⟩
    refine ⟨e2,fun _=>?_⟩
    rw [ct_of e2]
    rfl
  have hB:mi ((bhd Rs w q).map (co (i+q.2+1)))=t (q.1+1) (i+q.2+1) (i+w)∧(t (q.1+1) (i+q.2+1) (i+w)≠none→ct ((bhd Rs w q).map (co (i+q.2+1)))=tl (q.1+1) (i+q.2+1) (i+w)):=by
    by_cases z:q.2+1 < w
    · exact hb z
    · exact hb' z
  rw [e,mi_sums,ct_sums,hB.1,c1]
  refine ⟨?_,fun nn=>?_⟩
  · show oadd (oadd (some (p q.1 * W i (i+q.2+1))) (F i (i+(q.2+1)))) _=vl h t i (i+w) q
    unfold vl
    rw [T.hh q.1 i (i+q.2+1) q2 (by omega) (by omega)]
    rfl
  · rw [c2,hB.2 (fun z=>nn ?_)]
    · rfl
    · unfold vl
      rw [z]
      cases h q.1 i (i+q.2+1) <;> rfl
theorem counted (T:Tb L n h t F p W) (N:Cn L n h t cd tl) (E:En L p W Cs Rs co):∀ d w i,w≤d→1≤w→i+w≤n →
    (mi ((Cs w).map (co i))=F i (i+w)∧ct ((Cs w).map (co i))=cd i (i+w))∧∀ l,l < L→mi ((Rs w l).map (co i))=t l i (i+w)∧ct ((Rs w l).map (co i))=tl l i (i+w)
  | 0,w,i,hd,h1,hw=>by omega
  | d+1,w,i,hd,h1,hw=>by
    have ih:=counted T N E d
    have hC':∀ m,1≤m→m < w→mi ((Cs m).map (co i))=F i (i+m)∧ct ((Cs m).map (co i))=cd i (i+m):=fun m a b=>(ih m i (by omega) a (by omega)).1
    have hR':∀ m l k,1≤m→m < w→l < L→k+m≤n→mi ((Rs m l).map (co k))=t l k (k+m)∧ct ((Rs m l).map (co k))=tl l k (k+m):=fun m l k a b c e=>(ih m k (by omega) a e).2 l c
    have blk:∀ low most,most≤w→low≤L→(∀ m,1≤m→m≤most→mi ((Cs m).map (co i))=F i (i+m)∧ct ((Cs m).map (co i))=cd i (i+m)) →
        mi ((rw' L Cs Rs w low most).map (co i))=lo ((Bk L low most).map (vl h t i (i+w)))∧∀ m,mi ((rw' L Cs Rs w low most).map (co i))=some m→ct ((rw' L Cs Rs w low most).map (co i))=(((Bk L low most).filter fun q=>decide (vl h t i (i+w) q=some m)).map fun q=>cd i (i+q.2+1) * tl (q.1+1) (i+q.2+1) (i+w)).sum:=by
      intro low most hm hl hC
      have R:=row_is T N E hw hm hl hC hR'
      unfold rw'
      rw [List.map_flatMap]
      have e1:mi ((Bk L low most).flatMap fun q=>((Cs (q.2+1)).flatMap fun c=>(bhd Rs w q).map fun r=>ahd q.1 c++r).map (co i))=lo ((Bk L low most).map (vl h t i (i+w))):=by
        rw [mi_flat]
        congr 1
        exact List.map_congr_left fun q hq=>(R q hq).1
      refine ⟨e1,fun m em=>?_⟩
      rw [ct_of em,ct_flat _ (fun b hb k hk=>(mi_some.mp em).2 k (List.mem_flatMap.mpr ⟨b,hb,hk⟩))]
      have e2:(Bk L low most).filter (fun b=>decide (mi (((Cs (b.2+1)).flatMap fun c=>(bhd Rs w b).map fun r=>ahd b.1 c++r).map (co i))=some m))=(Bk L low most).filter fun q=>decide (vl h t i (i+w) q=some m):=List.filter_congr fun q hq=>by rw [(R q hq).1]
      rw [e2]
      congr 1
      refine List.map_congr_left fun q hq=>?_
      have hq':=List.mem_filter.mp hq
      exact (R q hq'.1).2 (by rw [of_decide_eq_true hq'.2];intro z;cases z)
    have hCw:mi ((Cs w).map (co i))=F i (i+w)∧ct ((Cs w).map (co i))=cd i (i+w):=by
      by_cases e:w=1
      · subst e
        rw [E.c1,T.ff i (i+1) (by omega) hw,if_pos (by omega),N.cdE i (i+1) (by omega) hw,if_pos (by omega)]
        have e1:[([[]]:Code)].map (co i)=[0]:=by rw [List.map_singleton,E.one]
        rw [e1]
        have e2:mi [0]=some 0:=mi_some.mpr ⟨.head _,fun k hk=>by simp at hk;omega⟩
        refine ⟨e2,?_⟩
        rw [ct_of e2]
        rfl
      · obtain ⟨b1,b2⟩:=blk 0 (w - 1) (by omega) (Nat.zero_le _) fun m a b=>hC' m a (by omega)
        rw [E.cs w (by omega)]
        have eF:F i (i+w)=lo ((Bk L 0 (w - 1)).map (vl h t i (i+w))):=by
          rw [T.ff i (i+w) (by omega) hw,if_neg (by omega),show i+w - 1 - i=w - 1 by omega]
        refine ⟨by rw [b1,eF],?_⟩
        rw [N.cdE i (i+w) (by omega) hw,if_neg (by omega)]
        unfold ovr
        rw [show i+w - i=w by omega]
        have eT:t 0 i (i+w)=F i (i+w)∧∀ q∈Bk L 0 w,vl h t i (i+w) q=t 0 i (i+w)→t 0 i (i+w)≠none→q.2 < w - 1:=by
          have et:=T.tt 0 i (i+w) (Nat.zero_le _) (by omega) hw
          rw [show i+w - i=w by omega] at et
          have hs:∀ q∈Bk L 0 w,¬ q.2 < w - 1→vl h t i (i+w) q=oadd (oadd (some (p q.1 * W i (i+w))) (F i (i+w))) (some 0):=fun q hq hn=>by
            obtain ⟨_,q2,q3⟩:=Bk_mem.mp hq
            have e3:i+q.2+1=i+w:=by omega
            unfold vl
            rw [e3,T.hh q.1 i (i+w) q2 (by omega) hw,T.dg (q.1+1) (i+w) (by omega) hw]
          have sub:∀ q,q∈Bk L 0 (w - 1)→q∈Bk L 0 w:=fun q hq=>by
            obtain ⟨a,b,c⟩:=Bk_mem.mp hq
            exact Bk_mem.mpr ⟨a,b,by omega⟩
          have teq:t 0 i (i+w)=F i (i+w):=by
            rw [et,eF]
            refine lo_eq (fun m hm=>?_) (fun m hm=>?_)
            · obtain ⟨q,hq,ev⟩:=List.mem_map.mp hm
              by_cases z:q.2 < w - 1
              · obtain ⟨a,b,c⟩:=Bk_mem.mp hq
                exact ⟨m,Int.le_refl _,List.mem_map.mpr ⟨q,Bk_mem.mpr ⟨a,b,z⟩,ev⟩⟩
              · rw [hs q hq z] at ev
                cases f:F i (i+w) with
                | none=>rw [f] at ev;cases ev
                | some x =>
                  rw [f] at ev
                  have ev:some (p q.1 * W i (i+w)+x+0)=some m:=ev
                  have:=Option.some.inj ev
                  have pos:=T.pw q.1 i (i+w) (Bk_mem.mp hq).2.1 (by omega) hw
                  rw [eF] at f
                  exact ⟨x,by omega,(lo_some.mp f).1⟩
            · obtain ⟨q,hq,ev⟩:=List.mem_map.mp hm
              exact ⟨m,Int.le_refl _,List.mem_map.mpr ⟨q,sub q hq,ev⟩⟩
          refine ⟨teq,fun q hq ev nn=>?_⟩
          by_cases z:q.2 < w - 1
          · exact z
          · exfalso
            rw [hs q hq z,teq] at ev
            cases f:F i (i+w) with
            | none=>rw [teq,f] at nn;exact nn rfl
            | some x =>
              rw [f] at ev
              have ev:some (p q.1 * W i (i+w)+x+0)=some x:=ev
              have:=Option.some.inj ev
              have pos:=T.pw q.1 i (i+w) (Bk_mem.mp hq).2.1 (by omega) hw
              omega
        obtain ⟨teq,only⟩:=eT
        cases em:mi ((rw' L Cs Rs w 0 (w - 1)).map (co i)) with
        | none =>
          exact absurd (by rw [eF,←b1,em]) (T.fn i (i+w) (by omega) hw)
        | some m =>
          rw [b2 m em]
          have eFm:F i (i+w)=some m:=by rw [eF,←b1,em]
          rw [teq,eFm]
          have e4:(Bk L 0 w).filter (fun q=>decide (vl h t i (i+w) q=some m))=(Bk L 0 (w - 1)).filter fun q=>decide (vl h t i (i+w) q=some m):=by
            unfold Bk
            rw [List.filter_flatMap,List.filter_flatMap]
            refine flat_congr fun a ha=>?_
            have ha':=List.mem_range.mp ha
            obtain ⟨w',rfl⟩:∃ v,w=v+1:=⟨w - 1,by omega⟩
            rw [Nat.add_sub_cancel,List.range_succ,List.map_append,List.filter_append]
            have:([w'].map fun b=>(0+a,b)).filter (fun q=>decide (vl h t i (i+(w'+1)) q=some m))=[]:=by
              rw [List.map_singleton,List.filter_cons]
              rw [if_neg]
              · rfl
              · intro z
                have z1:=of_decide_eq_true z
                have:=only (0+a,w') (Bk_mem.mpr ⟨by omega,by show 0+a < L;omega,by show w' < w'+1;omega⟩) (by rw [teq,eFm];exact z1) (by rw [teq,eFm];intro y;cases y)
                have:w' < w'+1 - 1:=this
                omega
            rw [this,List.append_nil]
          rw [e4]
    refine ⟨hCw,fun l hl=>?_⟩
    obtain ⟨b1,b2⟩:=blk l w (Nat.le_refl _) (by omega) fun m a b=>by
      by_cases e:m=w
      · subst e;exact hCw
      · exact hC' m a (by omega)
    rw [E.rs w l h1 hl]
    have et:=T.tt l i (i+w) (by omega) (by omega) hw
    rw [show i+w - i=w by omega] at et
    refine ⟨by rw [b1,et],?_⟩
    rw [N.tlE l i (i+w) hl (by omega) hw]
    unfold ovr
    rw [show i+w - i=w by omega]
    cases em:mi ((rw' L Cs Rs w l w).map (co i)) with
    | none=>exact absurd (by rw [et,←b1,em]) (T.tn l i (i+w) hl (by omega) hw)
    | some m =>
      rw [b2 m em]
      have:t l i (i+w)=some m:=by rw [et,←b1,em]
      rw [this]
end
end CT
end K53
set_option Elab.async false
set_option linter.all false
set_option maxRecDepth 100000
namespace K53
open PySem L2
abbrev Po (ns:List Int):Prop:=∀ x∈ns,(1:Int)≤x
theorem Wt_pos {ws:List Int} {i j:Nat} (bw:Po ws) (hij:i < j) (hj:j≤ws.length):1≤Wt ws i j:=by
  rw [Wt_is (by omega)]
  have:∀ xs:List Int,xs≠[]→(∀ x∈xs,1≤x)→1≤xs.sum:=by
    intro xs
    induction xs with
    | nil=>intro h;exact absurd rfl h
    | cons x xs ih =>
      intro _ h
      rw [List.sum_cons]
      have h1:=h x (.head _)
      by_cases e:xs=[]
      · rw [e,List.sum_nil];omega
      · have:=ih e fun y hy=>h y (.tail _ hy)
        omega
  refine this _ (fun z=>?_) fun x hx=>bw x (List.mem_of_mem_take (List.mem_of_mem_drop hx))
  have:=congrArg List.length z
  rw [List.length_drop,List.length_take,List.length_nil] at this
  omega
theorem pl_pos {ps:List Int} {l:Nat} (bp:Po ps) (hl:l < ps.length):1≤pl ps l:=by
  have:pl ps l=ps[l]'hl:=by
    unfold pl
    rw [List.getD_eq_getElem?_getD,List.getElem?_eq_getElem hl]
    rfl
  rw [this]
  exact bp _ (List.getElem_mem hl)
theorem F_some {ps ws:List Int} {F:Nat→Nat→OI} (hL:2≤ps.length) (own:∀ i j,i < j→j≤ws.length→F i j=bdO ps ws F i j):∀ d i j,j - i≤d→i < j→j≤ws.length→F i j≠none
  | 0,i,j,hd,hij,hj=>by omega
  | d+1,i,j,hd,hij,hj=>by
    rw [own i j hij hj]
    unfold bdO
    split
    · intro z;cases z
    · rename_i e
      intro z
      obtain ⟨r,hr⟩:=List.exists_mem_of_ne_nil _ (many_ne (L:=ps.length) (i:=i) (j:=j) hL (by omega))
      cases ec:cost (pl ps) (Wt ws) F r with
      | some v=>exact absurd (List.mem_map.mpr ⟨r,hr,ec⟩) (lo_none.mp z v)
      | none =>
        obtain ⟨q,hq,e'⟩:=cost_none.mp ec
        have hin:=many_in hij r hr q hq
        exact F_some hL own d q.1 q.2.1 (by omega) hin.2.1 (by omega) e'
theorem Bk_succ {L l m:Nat} (h:l < L):CT.Bk L l m=((List.range m).map fun b=>(l,b))++CT.Bk L (l+1) m:=by
  unfold CT.Bk
  obtain ⟨k,hk⟩:∃ k,L - l=k+1:=⟨L - l - 1,by omega⟩
  rw [hk,show L - (l+1)=k by omega,List.range_succ_eq_map,List.flatMap_cons,List.flatMap_map]
  congr 1
  refine CT.flat_congr fun a _=>?_
  refine List.map_congr_left fun b _=>?_
  rw [show l+(a+1)=l+1+a by omega]
theorem lo_app2 (xs ys:List OI):lo (xs++ys)=lo [lo xs,lo ys]:=lo_append xs ys
theorem Fln.tt {ps ws:List Int} {h t:Nat→Nat→Nat→OI} {F:Nat→Nat→OI} (a:Fln ps ws h t F (fun _ _=>True)):∀ k l i j,l+k=ps.length→i < j→j≤ws.length→t l i j=lo ((CT.Bk ps.length l (j - i)).map (CT.vl h t i j))
  | 0,l,i,j,hl,hij,hj=>by
    have e:l=ps.length:=by omega
    subst e
    rw [a.fin.ed i j hij hj]
    unfold CT.Bk
    rw [Nat.sub_self]
    exact lo_nil.symm
  | k+1,l,i,j,hl,hij,hj=>by
    rw [(a.fin.eq i j hij hj trivial).et l (by omega),Bk_succ (by omega),List.map_append,lo_app2,a.tt k (l+1) i j (by omega) hij hj,List.map_map]
    rfl
theorem Fln.tb {ps ws:List Int} {h t:Nat→Nat→Nat→OI} {F:Nat→Nat→OI} (a:Fln ps ws h t F (fun _ _=>True)) (hL:2≤ps.length) (bp:Po ps) (bw:Po ws):CT.Tb ps.length ws.length h t F (pl ps) (Wt ws):=by
  have own:=a.own
  have fn:∀ i j,i < j→j≤ws.length→F i j≠none:=fun i j hij hj=>F_some hL own (j - i) i j (Nat.le_refl _) hij hj
  have hh:∀ l i j,l < ps.length→i < j→j≤ws.length→h l i j=oadd (some (pl ps l * Wt ws i j)) (F i j):=fun l i j hl hij hj=>(a.fin.eq i j hij hj trivial).eh l hl
  have tt:∀ l i j,l≤ps.length→i < j→j≤ws.length→t l i j=lo ((CT.Bk ps.length l (j - i)).map (CT.vl h t i j)):=fun l i j hl hij hj=>a.tt (ps.length - l) l i j (by omega) hij hj
  refine ⟨a.fin.dg,tt,fun i j hij hj=>?_,hh,fun l i j hl hij hj=>?_,fn,fun l i j hl hij hj=>?_⟩
  · rw [←a.bd i j hij hj trivial]
    unfold bnd
    split
    · rfl
    · unfold CT.Bk
      rw [Nat.sub_zero,List.map_flatMap,lo_flat]
      congr 1
      refine List.map_congr_left fun l _=>?_
      rw [List.map_map,Nat.zero_add]
      rfl
  · rw [tt l i j (by omega) hij hj]
    intro z
    have hm:CT.vl h t i j (l,j - i - 1)∈(CT.Bk ps.length l (j - i)).map (CT.vl h t i j):=List.mem_map.mpr ⟨_,CT.Bk_mem.mpr ⟨Nat.le_refl _,hl,by show j - i - 1 < j - i;omega⟩,rfl⟩
    have ev:CT.vl h t i j (l,j - i - 1)=oadd (oadd (some (pl ps l * Wt ws i j)) (F i j)) (some 0):=by
      unfold CT.vl
      show oadd (h l i (i+(j - i - 1)+1)) (t (l+1) (i+(j - i - 1)+1) j)=_
      rw [show i+(j - i - 1)+1=j by omega,hh l i j hl hij hj,a.fin.dg (l+1) j (by omega) hj]
    rw [ev] at hm
    cases f:F i j with
    | none=>exact fn i j hij hj f
    | some x =>
      rw [f] at hm
      exact lo_none.mp z _ hm
  · have h1:=pl_pos bp hl
    have h2:=Wt_pos bw hij hj
    exact Int.mul_pos (by omega) (by omega)
section
variable {P':Program} {w:World} {K:PySem.W.Frag} {mg:Str→Option Value} {base:Heap} {f:Addr} {fd:FuncData}
def Way (H:Hp) (i:Nat) (x:V) (q:Nat × Nat):Prop:=∃ a,x=.ref a∧H a=some (.tup [.int (q.1:Int),.int ((i+q.2+1:Nat):Int)])
theorem Way.same {H H':Hp} {i:Nat} {x:V} {q:Nat × Nat} (s:Same H H') (h:Way H i x q):Way H' i x q:=by
  obtain ⟨a,rfl,e⟩:=h
  exact ⟨a,rfl,s _ _ e⟩
theorem Way.upd {H:Hp} {i:Nat} {x:V} {q:Nat × Nat} {d:Addr} {zs:List V} {o:HO} (hd:H d=some (.lst zs)) (h:Way H i x q):Way (L2.upd H d o) i x q:=by
  obtain ⟨a,rfl,e⟩:=h
  exact ⟨a,rfl,by rw [upd_ne (ne_of e hd (by intro z;cases z))];exact e⟩
abbrev NWy:List Str:=["self","letter","first","end","goal","found","way","cut"]
def wys (L:Nat) (h t:Nat→Nat→Nat→OI) (l i j:Nat):List (Nat × Nat):=(CT.Bk L l (j - i)).filter fun q=>decide (CT.vl h t i j q=t l i j)
def spWays (C:Addr):Sp:=fun vs H Q _=>∃ (r p:Addr) (ps ws:List Int) (X:Ad) (h t:Nat→Nat→Nat→OI) (l i j:Nat),vs=[.ref r,.int (l:Int),.int (i:Int),.int (j:Int)]∧PAt C H r p ps ws X h t∧ws.length≤20∧ps.length≤10∧l < ps.length∧i < j∧j≤ws.length ∧
  ∀ (d:Addr) xs H',Same H H'→H' d=some (.lst xs)→Paired (Way H' i) xs (wys ps.length h t l i j)→Q (.ref d) H'
theorem scWays:FnScope NWy ["self","letter","first","end"] (defScope sWays):=⟨rfl,rfl,rfl,by decide +kernel,rfl,by decide +kernel,by decide +kernel⟩
theorem scal_O (a b:OI):scal (oV a) (oV b)=true:=by cases a <;> cases b <;> rfl
theorem oV_inj {a b:OI} (h:oV a=oV b):a=b:=by
  cases a <;> cases b <;> first | rfl | cases h | skip
  rfl
set_option maxHeartbeats 8000000 in
theorem ok_ways {C:Addr} (F:Fun K "ways" "Parted.ways" sWays f fd) (GA:Fns P' w K mg base ["one","other"] "added" spAdded 2) (rc:PC K C) (ml:mg "len"=none) (mr:mg "range"=none):FnOk P' w K mg base CX0 3 f fd ["self","letter","first","end"] (spWays C):=by
  refine F.ok (k:=2) scWays (fun vs H Q E h=>?_) (fun cdv A outer s H vs Q E hr h=>?_)
  · obtain ⟨r,p,ps,ws,X,h,t,l,i,j,rfl,_⟩:=h
    rfl
  obtain ⟨r,p,ps,ws,X,h,t,l,i,j,rfl,pa,w20,p10,hl,hij,hj,q⟩:=h
  refine ⟨_,pss_cons (ps_set (i:=4) scWays.nd rfl (Or.inl rfl) (pe_ix ix_list (pe_ix ix_list (pe_ix ix_list (pe_fld (pv 0) rfl) (pv 1) (fun _ _=>rfl)) (pv 2) (fun _ _=>rfl)) (pv 3) (fun _ _=>rfl)))
    (pss_cons (ps_set (i:=5) scWays.nd rfl (Or.inl rfl) (pe_lst pa_nil))
    (pss_cons (ps_for PassesOwn.never rfl (pi_range2 (by rfl) mr (pa_cons (pv 1) (pa_cons (pe_callB call_len_seq (by rfl) ml PySem.boot_len (pa_cons (pe_fld (pv 0) rfl) pa_nil)) pa_nil))) (pg_name (i:=6) scWays.nd rfl (Or.inl rfl))
      (pss_one (ps_for PassesOwn.never rfl (pi_range2 (by rfl) mr (pa_cons (pe_op op_add (pv 2) pe_int) (pa_cons (pe_op op_add (pv 3) pe_int) pa_nil))) (pg_name (i:=7) scWays.nd rfl (Or.inl rfl))
        (pss_one (ps_if (pt_cmpR op_eq (pe_call GA.ok hr (by rfl) GA.m GA.kp GA.b .nil pass0 (pa_cons (pe_ix ix_list (pe_ix ix_list (pe_ix ix_list (pe_fld (pv 0) rfl) (pv 6) (fun _ _=>rfl)) (pv 2) (fun _ _=>rfl)) (pv 7) (fun _ _=>rfl)) (pa_cons (pe_ix ix_list (pe_ix ix_list (pe_ix ix_list (pe_fld (pv 0) rfl) (pe_op op_add (pv 6) pe_int) (fun _ _=>rfl)) (pv 7) (fun _ _=>rfl)) (pv 3) (fun _ _=>rfl)) pa_nil))) (pv 4) (nomark _))
          (pss_one (ps_expr (pe_bm PySem.F.plainAttrs_list PySem.F.slot_list_append PySem.F.type_list_append mt_append (pv 5) (pa_cons (pe_tup (pa_cons (pv 6) (pa_cons (pv 7) pa_nil))) pa_nil)))) pss_nil)))))
    (pss_one (ps_ret (pv 5))))),?_⟩
  obtain ⟨dx,ho⟩:=pa.ob
  have i1:i < ws.length+1:=by omega
  have j1:j < ws.length+1:=by omega
  refine ⟨_,rfl,r,C,dx,_,_,rfl,ho,rc.c,rc.nt,rfl,_,rfl,X.tt,_,_,_,rfl,rfl,SqL.of pa.tl.o,at_rng (k:=l) (by omega),_,rfl,X.bt l,_,_,_,rfl,rfl,SqL.of (pa.tl.b l (by omega)),at_rng i1,_,rfl,X.ct l i,_,_,_,rfl,rfl,SqL.of (pa.tl.c l i (by omega) i1),at_rng j1,?_⟩
  refine ⟨(by show 0≤sizeLine;decide),fun d hd=>?_⟩
  have s1:=same_newO hd (.lst [])
  have g1:upd H d (.lst []) d=some (.lst []):=upd_same
  generalize upd H d (.lst [])=H1 at s1 g1 ⊢
  refine ⟨_,rfl,_,rfl,r,C,dx,_,_,rfl,s1 _ _ ho,rc.c,rc.np,rfl,p,_,rfl,.inr (SqT.of (s1 _ _ pa.hp)),?_⟩
  rw [List.length_map]
  refine ⟨_,_,rfl,⟨by omega,by omega,by omega,by omega⟩,?_⟩
  have e0:((ps.length:Int) - (l:Int)).toNat=ps.length - l:=by omega
  rw [e0]
  let pw:Nat × Nat→Bool:=fun q=>decide (CT.vl h t i j q=t l i j)
  have fin:∀ a,(((List.range a).flatMap fun a=>(List.range (j - i)).map fun b=>(l+a,b)).filter pw).length≤a * (j - i):=fun a=>by
    refine Nat.le_trans (List.length_filter_le _ _) ?_
    induction a with
    | zero=>simp
    | succ a ih=>rw [List.range_succ,List.flatMap_append,List.length_append,Nat.succ_mul];simp;simp at ih;omega
  refine for_range (fun a σ H'=>Same H H'∧(∃ xs,H' d=some (.lst xs)∧Paired (Way H' i) xs (((List.range a).flatMap fun a=>(List.range (j - i)).map fun b=>(l+a,b)).filter pw))∧∃ x6 x7:Option V,σ=[some (.ref r),some (.int (l:Int)),some (.int (i:Int)),some (.int (j:Int)),some (oV (t l i j)),some (.ref d),x6,x7])
    ⟨s1,⟨[],g1,.nil⟩,_,_,rfl⟩ (fun a σ H2 ha hP=>?_) (fun σ H2 hP=>?_)
  · obtain ⟨s2,⟨xs2,g2,w2⟩,x6,x7,rfl⟩:=hP
    have ea:(l:Int)+(a:Int)=((l+a:Nat):Int):=by push_cast;rfl
    rw [ea]
    refine ⟨_,rfl,_,_,rfl,rfl,_,rfl,_,_,rfl,rfl,_,_,rfl,⟨by omega,by omega,by omega,by omega⟩,?_⟩
    have e1:(((j:Int)+1) - ((i:Int)+1)).toNat=j - i:=by omega
    rw [e1]
    refine for_range (fun b σ H'=>Same H H'∧(∃ xs,H' d=some (.lst xs)∧Paired (Way H' i) xs ((((List.range a).flatMap fun a=>(List.range (j - i)).map fun b=>(l+a,b))++(List.range b).map fun b=>(l+a,b)).filter pw))∧∃ x7:Option V,σ=[some (.ref r),some (.int (l:Int)),some (.int (i:Int)),some (.int (j:Int)),some (oV (t l i j)),some (.ref d),some (.int ((l+a:Nat):Int)),x7])
      ⟨s2,⟨xs2,g2,by rw [List.range_zero,List.map_nil,List.append_nil];exact w2⟩,_,rfl⟩ (fun b σ H3 hb hP=>?_) (fun σ H3 hP=>?_)
    · obtain ⟨s3,⟨xs,g3,w3⟩,x7,rfl⟩:=hP
      have eb:(i:Int)+1+(b:Int)=((i+b+1:Nat):Int):=by push_cast;omega
      rw [eb]
      have pa3:=pa.same s3
      have hla:l+a < ps.length:=by omega
      have hb1:i+b+1 < ws.length+1:=by omega
      have lx:xs.length≤500:=by
        rw [w3.length]
        have h1:=fin a
        have h2:a * (j - i)≤10 * 20:=Nat.mul_le_mul (by omega) (by omega)
        rw [List.filter_append,List.length_append]
        have h3:=List.length_filter_le pw ((List.range b).map fun b=>(l+a,b))
        rw [List.length_map,List.length_range] at h3
        omega
      refine ⟨_,rfl,r,C,dx,_,_,rfl,s3 _ _ ho,rc.c,rc.nh,rfl,_,rfl,X.th,_,_,_,rfl,rfl,SqL.of pa3.hd.o,at_rng hla,_,rfl,X.bh (l+a),_,_,_,rfl,rfl,SqL.of (pa3.hd.b (l+a) hla),at_rng i1,_,rfl,X.ch (l+a) i,_,_,_,rfl,rfl,SqL.of (pa3.hd.c (l+a) i hla i1),at_rng hb1,?_⟩
      refine ⟨_,rfl,r,C,dx,_,_,rfl,s3 _ _ ho,rc.c,rc.nt,rfl,_,rfl,_,_,rfl,rfl,X.tt,_,_,_,rfl,rfl,SqL.of pa3.tl.o,at_rng (k:=l+a+1) (by omega),_,rfl,X.bt (l+a+1),_,_,_,rfl,rfl,SqL.of (pa3.tl.b (l+a+1) (by omega)),at_rng hb1,_,rfl,X.ct (l+a+1) (i+b+1),_,_,_,rfl,rfl,SqL.of (pa3.tl.c (l+a+1) (i+b+1) (by omega) hb1),at_rng j1,?_⟩
      refine ⟨_,_,rfl,_,rfl,scal_O _ _,_,rfl,?_⟩
      have ef:(((List.range a).flatMap fun a=>(List.range (j - i)).map fun b=>(l+a,b))++(List.range (b+1)).map fun b=>(l+a,b)).filter pw=(((List.range a).flatMap fun a=>(List.range (j - i)).map fun b=>(l+a,b))++(List.range b).map fun b=>(l+a,b)).filter pw++(if pw (l+a,b)=true then [(l+a,b)] else []):=by
        rw [List.range_succ,List.map_append,←List.append_assoc,List.filter_append]
        congr 1
        show [(l+a,b)].filter pw=_
        rw [List.filter_cons]
        rfl
      refine ite2 (fun y=>?_) (fun y=>?_)
      · have y1:pw (l+a,b)=true:=decide_eq_true (oV_inj (of_decide_eq_true y))
        refine ⟨_,rfl,.inl ⟨rfl,_,SqL.of g3⟩,_,rfl,_,rfl,(by show 2≤sizeLine;decide),fun tt htt=>?_⟩
        have s4:=same_newO htt (.tup [.int ((l+a:Nat):Int),.int ((i+b+1:Nat):Int)])
        have g4:=s4 _ _ g3
        have ht4:upd H3 tt (.tup [.int ((l+a:Nat):Int),.int ((i+b+1:Nat):Int)]) tt=some (.tup [.int ((l+a:Nat):Int),.int ((i+b+1:Nat):Int)]):=upd_same
        generalize upd H3 tt (.tup [.int ((l+a:Nat):Int),.int ((i+b+1:Nat):Int)])=H4 at s4 g4 ht4 ⊢
        refine ⟨d,_,_,rfl,rfl,g4,small1000 (by omega),same_upd hd (s3.trans s4),⟨_,upd_same,?_⟩,_,rfl⟩
        rw [ef,if_pos y1]
        exact L2.Paired.appendP (Paired.mapP w3 fun _ _ r=>(r.same s4).upd g4) (.cons (Way.upd g4 ⟨tt,rfl,ht4⟩) .nil)
      · have y1:¬ pw (l+a,b)=true:=fun z=>y (decide_eq_true (congrArg oV (of_decide_eq_true z)))
        exact ⟨s3,⟨xs,g3,by rw [ef,if_neg y1,List.append_nil];exact w3⟩,_,rfl⟩
    · obtain ⟨s3,⟨xs,g3,w3⟩,x7,rfl⟩:=hP
      refine ⟨s3,⟨xs,g3,?_⟩,_,_,rfl⟩
      rw [List.range_succ,List.flatMap_append]
      simpa using w3
  · obtain ⟨s2,⟨xs2,g2,w2⟩,x6,x7,rfl⟩:=hP
    exact ⟨_,rfl,q d xs2 H2 s2 g2 w2⟩
end
end K53
set_option Elab.async false
set_option linter.all false
set_option maxRecDepth 100000
namespace K53
open PySem L2
namespace CT
section
variable {L n:Nat} {h t:Nat→Nat→Nat→OI} {F:Nat→Nat→OI} {p:Nat→Int} {W:Nat→Nat→Int}
theorem only (T:Tb L n h t F p W) {i w:Nat} (hw:i+w≤n) (h2:2≤w):∀ q∈Bk L 0 w,vl h t i (i+w) q=t 0 i (i+w)→q.2 < w - 1:=by
  intro q hq ev
  by_cases z:q.2 < w - 1
  · exact z
  exfalso
  obtain ⟨_,q2,q3⟩:=Bk_mem.mp hq
  have e3:i+q.2+1=i+w:=by omega
  have es:vl h t i (i+w) q=oadd (oadd (some (p q.1 * W i (i+w))) (F i (i+w))) (some 0):=by
    unfold vl
    rw [e3,T.hh q.1 i (i+w) q2 (by omega) hw,T.dg (q.1+1) (i+w) (by omega) hw]
  have et:=T.tt 0 i (i+w) (Nat.zero_le _) (by omega) hw
  rw [show i+w - i=w by omega] at et
  have eF:F i (i+w)=lo ((Bk L 0 (w - 1)).map (vl h t i (i+w))):=by
    rw [T.ff i (i+w) (by omega) hw,if_neg (by omega),show i+w - 1 - i=w - 1 by omega]
  cases f:F i (i+w) with
  | none=>exact T.fn i (i+w) (by omega) hw f
  | some x =>
    have hx:=(lo_some.mp (eF.symm.trans f)).1
    obtain ⟨r,hr,er⟩:=List.mem_map.mp hx
    obtain ⟨a,b,c⟩:=Bk_mem.mp hr
    obtain ⟨m,em,hm⟩:=lo_le (List.mem_map.mpr ⟨r,Bk_mem.mpr ⟨a,b,(by omega:r.2 < w)⟩,er⟩:some x∈(Bk L 0 w).map (vl h t i (i+w)))
    rw [←et] at em
    rw [es,f,em] at ev
    have ev:some (p q.1 * W i (i+w)+x+0)=some m:=ev
    have:=Option.some.inj ev
    have pos:=T.pw q.1 i (i+w) q2 (by omega) hw
    omega
end
end CT
structure Ctd (L n:Nat) (h t:Nat→Nat→Nat→OI) (Tc:Nat→Nat→OI) (Tt:Nat→Nat→Nat→OI) (c:Nat→Nat→Nat) (u:Nat→Nat→Nat→Nat) (pr:Nat→Nat→Prop):Prop where
  dg:∀ l j,l≤L→j≤n→Tt l j j=some 1
  vc:∀ i j,i < j→j≤n→pr i j→Tc i j=some (c i j:Int)
  vt:∀ l i j,l < L→i < j→j≤n→pr i j→Tt l i j=some (u l i j:Int)
  ec:∀ i j,i < j→j≤n→pr i j→c i j=if j - i=1 then 1 else CT.ovr L h t c u 0 i j
  et:∀ l i j,l < L→i < j→j≤n→pr i j→u l i j=CT.ovr L h t c u l i j
  td:∀ l j,l≤L→j≤n→u l j j=1
  bc:∀ i j,i < j→j≤n→pr i j→c i j≤32 * 1024 ^ (2 * (j - i) - 2)
  bt:∀ l i j,l < L→i < j→j≤n→pr i j→u l i j≤1024 ^ (2 * (j - i) - 1)
theorem Ctd.weak {L n:Nat} {h t:Nat→Nat→Nat→OI} {Tc:Nat→Nat→OI} {Tt:Nat→Nat→Nat→OI} {c:Nat→Nat→Nat} {u:Nat→Nat→Nat→Nat} {pr pr':Nat→Nat→Prop} (a:Ctd L n h t Tc Tt c u pr) (w:∀ i j,i < j→j≤n→pr' i j→pr i j):Ctd L n h t Tc Tt c u pr' :=
  ⟨a.dg,fun i j hij hj hp=>a.vc i j hij hj (w i j hij hj hp),fun l i j hl hij hj hp=>a.vt l i j hl hij hj (w i j hij hj hp),fun i j hij hj hp=>a.ec i j hij hj (w i j hij hj hp),fun l i j hl hij hj hp=>a.et l i j hl hij hj (w i j hij hj hp),a.td,fun i j hij hj hp=>a.bc i j hij hj (w i j hij hj hp),fun l i j hl hij hj hp=>a.bt l i j hl hij hj (w i j hij hj hp)⟩
theorem sum_le {α:Type} {f:α→Nat} {B:Nat}:∀ xs:List α,(∀ x∈xs,f x≤B)→(xs.map f).sum≤xs.length * B
  | [],_=>by simp
  | x :: xs,h=>by
    rw [List.map_cons,List.sum_cons,List.length_cons,Nat.succ_mul]
    have:=sum_le xs fun y hy=>h y (.tail _ hy)
    have:=h x (.head _)
    omega
theorem Bk_len (L l m:Nat):(CT.Bk L l m).length=(L - l) * m:=by
  unfold CT.Bk
  rw [List.length_flatMap]
  have:((List.range (L - l)).map fun a=>((List.range m).map fun b=>(l+a,b)).length)=List.replicate (L - l) m:=by
    rw [List.eq_replicate_iff]
    refine ⟨by rw [List.length_map,List.length_range],fun x hx=>?_⟩
    obtain ⟨a,_,rfl⟩:=List.mem_map.mp hx
    rw [List.length_map,List.length_range]
  rw [this,List.sum_replicate_nat]
theorem wys_len {L l i j:Nat} {h t:Nat→Nat→Nat→OI} (hL:L≤4) (hw:j - i≤6):(wys L h t l i j).length≤24:=by
  have h1:(wys L h t l i j).length≤(CT.Bk L l (j - i)).length:=List.length_filter_le _ _
  rw [Bk_len] at h1
  have h2:(L - l) * (j - i)≤4 * 6:=Nat.mul_le_mul (by omega) hw
  omega
structure Sm1 (L n:Nat) (Tc:Nat→Nat→OI) (Tt:Nat→Nat→Nat→OI) (c:Nat→Nat→Nat) (u:Nat→Nat→Nat→Nat) (i j:Nat) (ws:List (Nat × Nat)) (B:Nat):Prop where
  a:∀ q∈ws,Tc i (i+q.2+1)=some (c i (i+q.2+1):Int)
  b:∀ q∈ws,Tt (q.1+1) (i+q.2+1) j=some (u (q.1+1) (i+q.2+1) j:Int)
  c1:∀ q∈ws,c i (i+q.2+1)≤2 ^ 126
  u1:∀ q∈ws,u (q.1+1) (i+q.2+1) j≤2 ^ 126
  d:∀ q∈ws,c i (i+q.2+1) * u (q.1+1) (i+q.2+1) j≤B
  g:∀ q∈ws,q.1 < L∧i+q.2+1≤j
theorem pw1024 {a b:Nat} (h:a≤b):1024 ^ a≤1024 ^ b:=Nat.pow_le_pow_right (by decide) h
theorem pw126 {a:Nat} (h:a≤11):32 * 1024 ^ a≤2 ^ 126:=by
  have h1:=pw1024 h
  have h2:32 * 1024 ^ 11≤2 ^ 126:=by decide
  omega
theorem part_le {s w x y:Nat} (hs:1≤s) (hw:s < w) (hx:x≤32 * 1024 ^ (2 * s - 2)) (hy:y≤1024 ^ (2 * (w - s) - 1)):x * y≤1024 ^ (2 * w - 2):=by
  have h1:=Nat.mul_le_mul hx hy
  have e:32 * 1024 ^ (2 * s - 2) * 1024 ^ (2 * (w - s) - 1)=32 * 1024 ^ (2 * w - 3):=by
    rw [Nat.mul_assoc,←Nat.pow_add]
    congr 2
    omega
  have e2:1024 ^ (2 * w - 2)=1024 * 1024 ^ (2 * w - 3):=by
    rw [show 2 * w - 2=(2 * w - 3)+1 by omega,Nat.pow_succ,Nat.mul_comm]
  rw [e] at h1
  rw [e2]
  omega
theorem Ctd.sm {L n:Nat} {h t:Nat→Nat→Nat→OI} {Tc:Nat→Nat→OI} {Tt:Nat→Nat→Nat→OI} {c:Nat→Nat→Nat} {u:Nat→Nat→Nat→Nat} {f e:Nat} (a:Ctd L n h t Tc Tt c u (Dn f e)) (hfe:f < e) (he:e≤n) (n6:n≤6) {ws:List (Nat × Nat)} (hws:∀ q∈ws,q.1+1 < L+1∧q.2+1 < e - f∧(Tt (q.1+1) (f+q.2+1) e≠none→True)∧q.1+1 < L):Sm1 L n Tc Tt c u f e ws (1024 ^ (2 * (e - f) - 2)):=by
  refine ⟨fun q hq=>?_,fun q hq=>?_,fun q hq=>?_,fun q hq=>?_,fun q hq=>?_,fun q hq=>?_⟩
  all_goals obtain ⟨h1,h2,_,h4⟩:=hws q hq
  · exact a.vc f (f+q.2+1) (by omega) (by omega) (.inr ⟨rfl,by omega⟩)
  · exact a.vt (q.1+1) (f+q.2+1) e h4 (by omega) he (.inl (by omega))
  · have:=a.bc f (f+q.2+1) (by omega) (by omega) (.inr ⟨rfl,by omega⟩)
    exact Nat.le_trans this (pw126 (by omega))
  · have:=a.bt (q.1+1) (f+q.2+1) e h4 (by omega) he (.inl (by omega))
    have h5:=pw1024 (show 2 * (e - (f+q.2+1)) - 1≤11 by omega)
    have h6:1024 ^ 11≤2 ^ 126:=by decide
    omega
  · have x:=a.bc f (f+q.2+1) (by omega) (by omega) (.inr ⟨rfl,by omega⟩)
    have y:=a.bt (q.1+1) (f+q.2+1) e h4 (by omega) he (.inl (by omega))
    rw [show f+q.2+1 - f=q.2+1 by omega] at x
    rw [show e - (f+q.2+1)=e - f - (q.2+1) by omega] at y
    exact part_le (by omega) h2 x y
  · exact ⟨by omega,by omega⟩
end K53
set_option Elab.async false
set_option linter.all false
set_option maxRecDepth 100000
namespace K53
open PySem L2
theorem wys_mem {L l i j:Nat} {h t:Nat→Nat→Nat→OI} {q:Nat × Nat}:q∈wys L h t l i j↔q∈CT.Bk L l (j - i)∧CT.vl h t i j q=t l i j:=by
  unfold wys
  rw [List.mem_filter,decide_eq_true_eq]
theorem ovr_wys {L l i j:Nat} {h t:Nat→Nat→Nat→OI} {c:Nat→Nat→Nat} {u:Nat→Nat→Nat→Nat}:CT.ovr L h t c u l i j=((wys L h t l i j).map fun q=>c i (i+q.2+1) * u (q.1+1) (i+q.2+1) j).sum:=rfl
section
variable {L n:Nat} {h t:Nat→Nat→Nat→OI} {F:Nat→Nat→OI} {p:Nat→Int} {W:Nat→Nat→Int}
theorem wys_lt (T:CT.Tb L n h t F p W) {l i j:Nat} (hl:l < L) (hij:i < j) (hj:j≤n) {q:Nat × Nat} (hq:q∈wys L h t l i j):l≤q.1∧q.1 < L∧q.2+1≤j - i∧(q.2+1 < j - i→q.1+1 < L):=by
  obtain ⟨h1,h2⟩:=wys_mem.mp hq
  obtain ⟨a,b,c⟩:=CT.Bk_mem.mp h1
  refine ⟨a,b,by omega,fun hlt=>?_⟩
  by_cases e:q.1+1 < L
  · exact e
  · exfalso
    have eL:q.1+1=L:=by omega
    have en:t (q.1+1) (i+q.2+1) j=none:=by
      rw [T.tt (q.1+1) (i+q.2+1) j (by omega) (by omega) hj,eL]
      unfold CT.Bk
      rw [Nat.sub_self]
      exact lo_nil
    refine T.tn l i j hl hij hj ?_
    rw [←h2]
    unfold CT.vl
    rw [en]
    cases h q.1 i (i+q.2+1) <;> rfl
theorem wys0 (T:CT.Tb L n h t F p W) (hL:0 < L) {i j:Nat} (hij:i+2≤j) (hj:j≤n) {q:Nat × Nat} (hq:q∈wys L h t 0 i j):q.2+1 < j - i∧q.1+1 < L:=by
  have h1:=wys_lt T hL (by omega) hj hq
  obtain ⟨h2,h3⟩:=wys_mem.mp hq
  have:=CT.only T (i:=i) (w:=j - i) (by omega) (by omega) q h2 (by rw [show i+(j - i)=j by omega];exact h3)
  exact ⟨by omega,h1.2.2.2 (by omega)⟩
def upc (c:Nat→Nat→Nat) (f e v:Nat):Nat→Nat→Nat:=fun a b=>if a=f∧b=e then v else c a b
theorem upc_at {c:Nat→Nat→Nat} {f e v:Nat}:upc c f e v f e=v:=if_pos ⟨rfl,rfl⟩
theorem upc_ne {c:Nat→Nat→Nat} {f e v a b:Nat} (h:¬ (a=f∧b=e)):upc c f e v a b=c a b:=if_neg h
def upu (u:Nat→Nat→Nat→Nat) (f e:Nat) (g:Nat→Nat):Nat→Nat→Nat→Nat:=fun l a b=>if a=f∧b=e then g l else u l a b
theorem upu_at {u:Nat→Nat→Nat→Nat} {f e:Nat} {g:Nat→Nat} {l:Nat}:upu u f e g l f e=g l:=if_pos ⟨rfl,rfl⟩
theorem upu_ne {u:Nat→Nat→Nat→Nat} {f e:Nat} {g:Nat→Nat} {l a b:Nat} (h:¬ (a=f∧b=e)):upu u f e g l a b=u l a b:=if_neg h
variable {Tc:Nat→Nat→OI} {Tt:Nat→Nat→Nat→OI} {c:Nat→Nat→Nat} {u:Nat→Nat→Nat→Nat} {f e:Nat}
def v0 (L:Nat) (h t:Nat→Nat→Nat→OI) (c:Nat→Nat→Nat) (u:Nat→Nat→Nat→Nat) (f e:Nat):Nat:=if e - f=1 then 1 else CT.ovr L h t c u 0 f e
theorem Ctd.s0 (T:CT.Tb L n h t F p W) (hL:0 < L) (a:Ctd L n h t Tc Tt c u (Dn f e)) (hfe:f+2≤e) (he:e≤n) (n6:n≤6):Sm1 L n Tc Tt c u f e (wys L h t 0 f e) (1024 ^ (2 * (e - f) - 2)) :=
  a.sm (by omega) he n6 fun q hq=>by
    have:=wys0 T hL hfe he hq
    exact ⟨by omega,this.1,fun _=>trivial,this.2⟩
theorem Ctd.v0_le (T:CT.Tb L n h t F p W) (hL:0 < L) (L4:L≤4) (a:Ctd L n h t Tc Tt c u (Dn f e)) (hfe:f < e) (he:e≤n) (n6:n≤6):v0 L h t c u f e≤32 * 1024 ^ (2 * (e - f) - 2):=by
  unfold v0
  split
  · rename_i z
    rw [z]
    decide
  · have s:=a.s0 T hL (by omega) he n6
    rw [ovr_wys]
    have h1:=sum_le (f:=fun q:Nat × Nat=>c f (f+q.2+1) * u (q.1+1) (f+q.2+1) e) (wys L h t 0 f e) s.d
    have h2:=wys_len (L:=L) (l:=0) (i:=f) (j:=e) (h:=h) (t:=t) L4 (by omega)
    have h3:=Nat.mul_le_mul_right (1024 ^ (2 * (e - f) - 2)) h2
    omega
theorem Ctd.sl (T:CT.Tb L n h t F p W) (hL:0 < L) (L4:L≤4) (a:Ctd L n h t Tc Tt c u (Dn f e)) (hfe:f < e) (he:e≤n) (n6:n≤6) {l:Nat} (hl:l < L):Sm1 L n (up2 Tc f e (some (v0 L h t c u f e:Int))) Tt (upc c f e (v0 L h t c u f e)) u f e (wys L h t l f e) (32 * 1024 ^ (2 * (e - f) - 2)):=by
  have hv:=a.v0_le T hL L4 hfe he n6
  have key:∀ q∈wys L h t l f e,(f+q.2+1=e∧q.1 < L)∨(f+q.2+1 < e∧q.1+1 < L):=fun q hq=>by
    obtain ⟨h1,h2,h3,h4⟩:=wys_lt T hl hfe he hq
    by_cases z:q.2+1 < e - f
    · exact .inr ⟨by omega,h4 z⟩
    · exact .inl ⟨by omega,h2⟩
  have tc:∀ q∈wys L h t l f e,f+q.2+1 < e→up2 Tc f e (some (v0 L h t c u f e:Int)) f (f+q.2+1)=Tc f (f+q.2+1)∧upc c f e (v0 L h t c u f e) f (f+q.2+1)=c f (f+q.2+1):=fun q _ hlt=>by
    refine ⟨?_,upc_ne (by omega)⟩
    unfold up2
    rw [if_neg (by omega)]
  have te:up2 Tc f e (some (v0 L h t c u f e:Int)) f e=some (v0 L h t c u f e:Int):=by unfold up2;rw [if_pos ⟨rfl,rfl⟩]
  refine ⟨fun q hq=>?_,fun q hq=>?_,fun q hq=>?_,fun q hq=>?_,fun q hq=>?_,fun q hq=>?_⟩
  all_goals rcases key q hq with ⟨k1,k2⟩ | ⟨k1,k2⟩
  · rw [k1,te,upc_at]
  · rw [(tc q hq k1).1,(tc q hq k1).2]
    exact a.vc f (f+q.2+1) (by omega) (by omega) (.inr ⟨rfl,by omega⟩)
  · rw [k1,a.dg (q.1+1) e (by omega) he,a.td (q.1+1) e (by omega) he];rfl
  · exact a.vt (q.1+1) (f+q.2+1) e k2 (by omega) he (.inl (by omega))
  · rw [k1,upc_at]
    exact Nat.le_trans hv (pw126 (by omega))
  · rw [(tc q hq k1).2]
    have:=a.bc f (f+q.2+1) (by omega) (by omega) (.inr ⟨rfl,by omega⟩)
    exact Nat.le_trans this (pw126 (by omega))
  · rw [k1,a.td (q.1+1) e (by omega) he];decide
  · have:=a.bt (q.1+1) (f+q.2+1) e k2 (by omega) he (.inl (by omega))
    have h5:=pw1024 (show 2 * (e - (f+q.2+1)) - 1≤11 by omega)
    have h6:1024 ^ 11≤2 ^ 126:=by decide
    omega
  · rw [k1,upc_at,a.td (q.1+1) e (by omega) he,Nat.mul_one]
    exact hv
  · rw [(tc q hq k1).2]
    have x:=a.bc f (f+q.2+1) (by omega) (by omega) (.inr ⟨rfl,by omega⟩)
    have y:=a.bt (q.1+1) (f+q.2+1) e k2 (by omega) he (.inl (by omega))
    rw [show f+q.2+1 - f=q.2+1 by omega] at x
    rw [show e - (f+q.2+1)=e - f - (q.2+1) by omega] at y
    have:=part_le (by omega) (by omega) x y
    omega
  · exact ⟨k2,by omega⟩
  · exact ⟨by omega,by omega⟩
theorem Ctd.step (T:CT.Tb L n h t F p W) (hL:0 < L) (L4:L≤4) (a:Ctd L n h t Tc Tt c u (Dn f e)) (hfe:f < e) (he:e≤n) (n6:n≤6) {Tt':Nat→Nat→Nat→OI} (h1:∀ l a b,¬ (a=f∧b=e)→Tt' l a b=Tt l a b) (h2:∀ l,l < L→Tt' l f e=some (CT.ovr L h t (upc c f e (v0 L h t c u f e)) u l f e:Int)) :
    ∃ c' u',Ctd L n h t (up2 Tc f e (some (v0 L h t c u f e:Int))) Tt' c' u' (Dn f (e+1)):=by
  have hv:=a.v0_le T hL L4 hfe he n6
  refine ⟨upc c f e (v0 L h t c u f e),upu u f e fun l=>CT.ovr L h t (upc c f e (v0 L h t c u f e)) u l f e,?_⟩
  have dn:∀ {i j},Dn f (e+1) i j→¬ (i=f∧j=e)→Dn f e i j:=fun hp z=>by
    rcases hp with y | y
    · exact .inl y
    · exact .inr ⟨y.1,by omega⟩
  have oth:∀ l i j,i < j→Dn f e i j→CT.ovr L h t (upc c f e (v0 L h t c u f e)) (upu u f e fun l=>CT.ovr L h t (upc c f e (v0 L h t c u f e)) u l f e) l i j=CT.ovr L h t c u l i j:=fun l i j hij hp=>by
    rw [ovr_wys,ovr_wys]
    congr 1
    refine List.map_congr_left fun q hq=>?_
    have hb:=(CT.Bk_mem.mp (wys_mem.mp hq).1).2.2
    rw [upc_ne (by rcases hp with y | y <;> omega),upu_ne (by rcases hp with y | y <;> omega)]
  have own:∀ l,CT.ovr L h t (upc c f e (v0 L h t c u f e)) (upu u f e fun l=>CT.ovr L h t (upc c f e (v0 L h t c u f e)) u l f e) l f e=CT.ovr L h t (upc c f e (v0 L h t c u f e)) u l f e:=fun l=>by
    rw [ovr_wys,ovr_wys]
    congr 1
    refine List.map_congr_left fun q hq=>?_
    rw [upu_ne (by omega)]
  refine ⟨fun l j hl hj=>?_,fun i j hij hj hp=>?_,fun l i j hl hij hj hp=>?_,fun i j hij hj hp=>?_,fun l i j hl hij hj hp=>?_,fun l j hl hj=>?_,fun i j hij hj hp=>?_,fun l i j hl hij hj hp=>?_⟩
  · rw [h1 l j j (by omega)];exact a.dg l j hl hj
  · by_cases z:i=f∧j=e
    · obtain ⟨rfl,rfl⟩:=z
      rw [upc_at]
      unfold up2
      rw [if_pos ⟨rfl,rfl⟩]
    · rw [upc_ne z]
      unfold up2
      rw [if_neg z]
      exact a.vc i j hij hj (dn hp z)
  · by_cases z:i=f∧j=e
    · obtain ⟨rfl,rfl⟩:=z
      rw [h2 l hl,upu_at]
    · rw [h1 l i j z,upu_ne z]
      exact a.vt l i j hl hij hj (dn hp z)
  · by_cases z:i=f∧j=e
    · obtain ⟨rfl,rfl⟩:=z
      rw [upc_at]
      by_cases z1:j - i=1
      · unfold v0
        rw [if_pos z1,if_pos z1]
      · rw [if_neg z1,own 0]
        have e0:v0 L h t c u i j=CT.ovr L h t c u 0 i j:=by unfold v0;rw [if_neg z1]
        rw [e0,ovr_wys,ovr_wys]
        congr 1
        refine List.map_congr_left fun q hq=>?_
        have:=wys0 T hL (by omega) hj hq
        rw [upc_ne (by omega)]
    · rw [upc_ne z,oth 0 i j hij (dn hp z)]
      exact a.ec i j hij hj (dn hp z)
  · by_cases z:i=f∧j=e
    · obtain ⟨rfl,rfl⟩:=z
      rw [upu_at,own l]
    · rw [upu_ne z,oth l i j hij (dn hp z)]
      exact a.et l i j hl hij hj (dn hp z)
  · rw [upu_ne (by omega)];exact a.td l j hl hj
  · by_cases z:i=f∧j=e
    · obtain ⟨rfl,rfl⟩:=z
      rw [upc_at];exact hv
    · rw [upc_ne z];exact a.bc i j hij hj (dn hp z)
  · by_cases z:i=f∧j=e
    · obtain ⟨rfl,rfl⟩:=z
      rw [upu_at,ovr_wys]
      have s:=a.sl T hL L4 hij hj n6 hl
      have h3:=sum_le (f:=fun q:Nat × Nat=>upc c i j (v0 L h t c u i j) i (i+q.2+1) * u (q.1+1) (i+q.2+1) j) (wys L h t l i j) s.d
      have h4:=wys_len (L:=L) (l:=l) (i:=i) (j:=j) (h:=h) (t:=t) L4 (by omega)
      have h5:=Nat.mul_le_mul_right (32 * 1024 ^ (2 * (j - i) - 2)) h4
      have h6:1024 ^ (2 * (j - i) - 1)=1024 * 1024 ^ (2 * (j - i) - 2):=by
        rw [show 2 * (j - i) - 1=(2 * (j - i) - 2)+1 by omega,Nat.pow_succ,Nat.mul_comm]
      rw [h6]
      omega
    · rw [upu_ne z];exact a.bt l i j hl hij hj (dn hp z)
theorem Ctd.cn (a:Ctd L n h t Tc Tt c u (fun _ _=>True)):CT.Cn L n h t c u:=⟨fun i j hij hj=>a.ec i j hij hj trivial,fun l i j hl hij hj=>a.et l i j hl hij hj trivial,a.td⟩
end
end K53
set_option Elab.async false
set_option linter.all false
set_option maxRecDepth 100000
namespace K53
open PySem L2
structure CY where
  cc:Addr
  ca:Nat→Addr
  tt:Addr
  bt:Nat→Addr
  ct:Nat→Nat→Addr
abbrev cf (pr:Addr) (L:Int) (Y:CY):List (Str × V):=[("parted",.ref pr),("letters",.int L),("codes",.ref Y.cc),("tails",.ref Y.tt)]
structure CAt (D:Addr) (H:Hp) (r pr:Addr) (L s:Nat) (Y:CY) (Tc:Nat→Nat→OI) (Tt:Nat→Nat→Nat→OI):Prop where
  ob:∃ dx,H r=some (.ins D dx (cf pr (L:Int) Y))
  co:H Y.cc=some (.lst ((List.range s).map fun i=>.ref (Y.ca i)))
  cr:∀ i,i < s→H (Y.ca i)=some (.lst ((List.range s).map fun j=>oV (Tc i j)))
  tl:Tb H Y.tt Y.bt Y.ct (L+1) s Tt
  ic:∀ i j,i < s→j < s→Y.ca i=Y.ca j→i=j
  it:∀ l i l' i',l < L+1→l' < L+1→i < s→i' < s→Y.ct l i=Y.ct l' i'→l=l'∧i=i'
  ix:∀ i l k,i < s→l < L+1→k < s→Y.ca i≠Y.ct l k
theorem CAt.same {D:Addr} {H H':Hp} {r pr:Addr} {L s:Nat} {Y:CY} {Tc:Nat→Nat→OI} {Tt:Nat→Nat→Nat→OI} (a:CAt D H r pr L s Y Tc Tt) (k:Same H H'):CAt D H' r pr L s Y Tc Tt:=by
  obtain ⟨dx,ho⟩:=a.ob
  exact ⟨⟨dx,k _ _ ho⟩,k _ _ a.co,fun i hi=>k _ _ (a.cr i hi),a.tl.same k,a.ic,a.it,a.ix⟩
theorem row_set2 {T:Nat→Nat→OI} {i j s:Nat} {v:OI} (hj:j < s):((List.range s).map fun k=>oV (T i k)).set j (oV v)=(List.range s).map fun k=>oV (up2 T i j v i k):=by
  have:=row_set (T:=fun _=>T) (l:=0) (i:=i) (j:=j) (s:=s) (v:=v) hj
  rw [this]
  refine List.map_congr_left fun k _=>?_
  unfold up2 up3
  by_cases e:k=j
  · rw [if_pos ⟨rfl,rfl,e⟩,if_pos ⟨rfl,e⟩]
  · rw [if_neg (fun z=>e z.2.2),if_neg (fun z=>e z.2)]
theorem CAt.putc {D:Addr} {H:Hp} {r pr:Addr} {L s:Nat} {Y:CY} {Tc:Nat→Nat→OI} {Tt:Nat→Nat→Nat→OI} {i j:Nat} {v:OI} (a:CAt D H r pr L s Y Tc Tt) (hi:i < s) (hj:j < s):CAt D (upd H (Y.ca i) (.lst (((List.range s).map fun k=>oV (Tc i k)).set j (oV v)))) r pr L s Y (up2 Tc i j v) Tt:=by
  obtain ⟨dx,ho⟩:=a.ob
  have hc:=a.cr i hi
  refine ⟨⟨dx,?_⟩,?_,fun k hk=>?_,a.tl.keep (by omega) (by omega) (by omega) hc fun l k hl hk=>Ne.symm (a.ix i l k hi hl hk),a.ic,a.it,a.ix⟩
  · rw [upd_ne (ne_of ho hc (by intro z;cases z))];exact ho
  · rw [upd_ne (ne_of a.co hc (fun z=>ne_refs (m:=s) (n:=s) (by omega) (by omega) (HO.lst.inj z)))];exact a.co
  · by_cases e:k=i
    · subst e
      rw [upd_same,row_set2 hj]
    · rw [upd_ne (fun z=>e (a.ic k i hk hi z)),a.cr k hk]
      refine congrArg (fun z=>some (HO.lst z)) (List.map_congr_left fun m _=>?_)
      unfold up2
      rw [if_neg (fun z=>e z.1)]
theorem CAt.putt {D:Addr} {H:Hp} {r pr:Addr} {L s:Nat} {Y:CY} {Tc:Nat→Nat→OI} {Tt:Nat→Nat→Nat→OI} {l i j:Nat} {v:OI} (a:CAt D H r pr L s Y Tc Tt) (hl:l < L+1) (hi:i < s) (hj:j < s):CAt D (upd H (Y.ct l i) (.lst (((List.range s).map fun k=>oV (Tt l i k)).set j (oV v)))) r pr L s Y Tc (up3 Tt l i j v):=by
  obtain ⟨dx,ho⟩:=a.ob
  have hc:=a.tl.c l i hl hi
  refine ⟨⟨dx,?_⟩,?_,fun k hk=>?_,a.tl.put a.it hl hi hj,a.ic,a.it,a.ix⟩
  · rw [upd_ne (ne_of ho hc (by intro z;cases z))];exact ho
  · rw [upd_ne (ne_of a.co hc (fun z=>ne_refs (m:=s) (n:=s) (by omega) (by omega) (HO.lst.inj z)))];exact a.co
  · rw [upd_ne (a.ix k l i hk hl hi)];exact a.cr k hk
def ZC (Y:CY) (L s:Nat) (a:Addr):Prop:=(∃ i,i < s∧a=Y.ca i)∨∃ l i,l < L+1∧i < s∧a=Y.ct l i
structure DC (K:PySem.W.Frag) (D:Addr):Prop where
  c:Cls K D
  np:NoAttr K D "parted"
  nl:NoAttr K D "letters"
  nc:NoAttr K D "codes"
  nt:NoAttr K D "tails"
section
variable {P':Program} {w:World} {K:PySem.W.Frag} {mg:Str→Option Value} {base:Heap} {f:Addr} {fd:FuncData}
abbrev NBy:List Str:=["self","way","first","end"]
def spBy (D:Addr):Sp:=fun vs H Q _=>∃ (r pr:Addr) (L s:Nat) (Y:CY) (Tc:Nat→Nat→OI) (Tt:Nat→Nat→Nat→OI) (wt:Addr) (i wy cut j x y:Nat),vs=[.ref r,.ref wt,.int (i:Int),.int (j:Int)]∧CAt D H r pr L s Y Tc Tt∧H wt=some (.tup [.int (wy:Int),.int (cut:Int)])∧i < s∧cut < s∧j < s∧wy < L∧Tc i cut=some (x:Int)∧Tt (wy+1) cut j=some (y:Int)∧x≤2 ^ 126∧y≤2 ^ 126∧Q (.int ((x * y:Nat):Int)) H
theorem scBy:FnScope NBy NBy (defScope sBy):=⟨rfl,rfl,rfl,by decide +kernel,rfl,by decide +kernel,by decide +kernel⟩
def CMulN (i j:Int):Prop:=(0≤i∧i≤2 ^ 126)∧(0≤j∧j≤2 ^ 126)
theorem CMulN.ok {i j:Int} (h:CMulN i j):IntMulOk i j:=by
  have q:∀ k:Int,0≤k∧k≤2 ^ 126→PySem.Builtin.Int.intBits k≤140:=fun k hk=>intBits_le_iff.mpr (by
    have e:(2:Nat) ^ 140=1393796574908163946345982392040522594123776:=by decide
    rw [e]
    omega)
  exact IntMulOk.of_le (q i h.1) (q j h.2) (by decide)
theorem op_mulN {X:Cx}:OpR X (binaryOp .Mult) (rI CMulN fun i j=>.int (i * j)):=opI fun _ _ _ _ _ _ _ hc q=>PyProof.Rows.mul_int q hc.ok
set_option maxHeartbeats 4000000 in
theorem ok_by {D:Addr} (F:Fun K "by_way" "Counts.by_way" sBy f fd) (rc:DC K D):FnOk P' w K mg base CX0 1 f fd NBy (spBy D):=by
  refine F.ok (k:=0) scBy (fun vs H Q E h=>?_) (fun cdv A outer s H vs Q E hr h=>?_)
  · obtain ⟨r,pr,L,s',Y,Tc,Tt,wt,i,wy,cut,j,x,y,rfl,_⟩:=h
    rfl
  obtain ⟨r,pr,L,s',Y,Tc,Tt,wt,i,wy,cut,j,x,y,rfl,ca,hwt,hi,hcut,hj,hwy,ex,ey,bx,bY,q⟩:=h
  refine ⟨_,pss_one (ps_ret (pe_op op_mulN (pe_ix ix_list (pe_ix ix_list (pe_fld (pv 0) rfl) (pv 2) (fun _ _=>rfl)) (pe_ix ix_tup (pv 1) pe_int (fun _ _=>rfl)) (fun _ _=>rfl)) (pe_ix ix_list (pe_ix ix_list (pe_ix ix_list (pe_fld (pv 0) rfl) (pe_op op_add (pe_ix ix_tup (pv 1) pe_int (fun _ _=>rfl)) pe_int) (fun _ _=>rfl)) (pe_ix ix_tup (pv 1) pe_int (fun _ _=>rfl)) (fun _ _=>rfl)) (pv 3) (fun _ _=>rfl)))),?_⟩
  obtain ⟨dx,ho⟩:=ca.ob
  refine ⟨_,rfl,r,D,dx,_,_,rfl,ho,rc.c,rc.nc,rfl,_,rfl,Y.cc,_,_,_,rfl,rfl,SqL.of ca.co,at_rng hi,_,rfl,wt,_,_,_,rfl,rfl,SqT.of hwt,rfl,Y.ca i,_,_,_,rfl,rfl,SqL.of (ca.cr i hi),at_rng hcut,?_⟩
  refine ⟨_,rfl,r,D,dx,_,_,rfl,ho,rc.c,rc.nt,rfl,_,rfl,wt,_,_,_,rfl,rfl,SqT.of hwt,rfl,_,_,rfl,rfl,Y.tt,_,_,_,rfl,rfl,SqL.of ca.tl.o,at_rng (k:=wy+1) (by omega),_,rfl,wt,_,_,_,rfl,rfl,SqT.of hwt,rfl,Y.bt (wy+1),_,_,_,rfl,rfl,SqL.of (ca.tl.b (wy+1) (by omega)),at_rng hcut,_,rfl,Y.ct (wy+1) cut,_,_,_,rfl,rfl,SqL.of (ca.tl.c (wy+1) cut (by omega) hcut),at_rng hj,?_⟩
  rw [ex,ey]
  have eh1:((2 ^ 126:Nat):Int)=2 ^ 126:=by decide
  have h1:(x:Int)≤2 ^ 126:=by omega
  have eh2:((2 ^ 126:Nat):Int)=2 ^ 126:=by decide
  have h2:(y:Int)≤2 ^ 126:=by omega
  refine ⟨_,_,rfl,rfl,⟨⟨by omega,h1⟩,⟨by omega,h2⟩⟩,?_⟩
  have e:((x * y:Nat):Int)=(x:Int) * (y:Int):=Int.natCast_mul x y
  rw [e] at q
  exact q
abbrev NOv:List Str:=["self","letter","first","end"]
def spOver (C D:Addr):Sp:=fun vs H Q _=>∃ (r pr p:Addr) (ps ws:List Int) (X:Ad) (h t:Nat→Nat→Nat→OI) (Y:CY) (Tc:Nat→Nat→OI) (Tt:Nat→Nat→Nat→OI) (c:Nat→Nat→Nat) (u:Nat→Nat→Nat→Nat) (l i j B:Nat),vs=[.ref r,.int (l:Int),.int (i:Int),.int (j:Int)]∧PAt C H pr p ps ws X h t∧CAt D H r pr ps.length (ws.length+1) Y Tc Tt∧ws.length≤6∧ps.length≤4∧l < ps.length∧i < j∧j≤ws.length∧Sm1 ps.length ws.length Tc Tt c u i j (wys ps.length h t l i j) B∧∀ H',Same H H'→Q (.int (CT.ovr ps.length h t c u l i j:Int)) H'
theorem scOver:FnScope NOv NOv (defScope sOver):=⟨rfl,rfl,rfl,by decide +kernel,rfl,by decide +kernel,by decide +kernel⟩
theorem ndOv:(("way":Str) :: NOv).Nodup:=by decide +kernel
theorem sum_nat (xs:List Nat):(xs.map fun x:Nat=>(x:Int)).sum=((xs.sum:Nat):Int):=by
  induction xs with
  | nil=>rfl
  | cons x xs ih=>rw [List.map_cons,List.sum_cons,List.sum_cons,ih];push_cast;rfl
set_option maxHeartbeats 8000000 in
theorem ok_over {C D:Addr} (F:Fun K "over_ways" "Counts.over_ways" sOver f fd) (MW:Mt P' w K mg base C "ways" ["self","letter","first","end"] (spWays C) 3) (MY:Mt P' w K mg base D "by_way" NBy (spBy D) 3) (rcP:PC K C) (rc:DC K D) (ms:mg "sum"=none):FnOk P' w K mg base CX0 4 f fd NOv (spOver C D):=by
  refine F.ok (k:=3) scOver (fun vs H Q E h=>?_) (fun cdv A outer s H vs Q E hr h=>?_)
  · obtain ⟨r,pr,p,ps,ws,X,h,t,Y,Tc,Tt,c,u,l,i,j,B,rfl,_⟩:=h
    rfl
  obtain ⟨r,pr,p,ps,ws,X,h,t,Y,Tc,Tt,c,u,l,i,j,B,rfl,pa,ca,w6,p4,hl,hij,hj,sm,q⟩:=h
  refine ⟨_,pss_one (ps_ret (pe_callB (call_sum rfl) (by rfl) ms b_sum (pa_cons (pe_compL (M:=NOv) rfl (CompScope.of (defScope sOver) NOv rfl rfl rfl (by decide +kernel) (by decide +kernel) (by decide +kernel) rfl (by decide +kernel)) ndOv rfl (pe_mid (pe_meth (pe_fld (pv 0) rfl) rcP.c MW.m MW.ok hr MW.b .nil pass0 (pa_cons (pv 1) (pa_cons (pv 2) (pa_cons (pv 3) pa_nil))))) mo_mid
      (fun cl C s0 H0 fp=>⟨pts_nil,pe_meth (pv 1) rc.c MY.m MY.ok hr MY.b .nil pass0 (pa_cons (pv 0) (pa_cons (pv 3) (pa_cons (pv 4) pa_nil)))⟩)) pa_nil))),?_⟩
  obtain ⟨dx,ho⟩:=ca.ob
  obtain ⟨dp,hop⟩:=pa.ob
  refine ⟨fun v H1=>∃ d xs,v=.ref d∧Same H H1∧H1 d=some (.lst xs)∧Paired (Way H1 i) xs (wys ps.length h t l i j),?_,fun v H1 hv=>?_⟩
  · exact ⟨_,rfl,r,D,dx,_,_,rfl,ho,rc.c,rc.np,rfl,pr,dp,_,rfl,hop,rfl,_,rfl,_,rfl,_,rfl,pr,p,ps,ws,X,h,t,l,i,j,rfl,pa,by omega,by omega,hl,hij,hj,fun d xs H' s' g' w'=>⟨d,xs,rfl,s',g',w'⟩⟩
  obtain ⟨d,xs,rfl,s1,g1,w1⟩:=hv
  have lx:xs.length=(wys ps.length h t l i j).length:=w1.length
  have l24:=wys_len (L:=ps.length) (l:=l) (i:=i) (j:=j) (h:=h) (t:=t) p4 (by omega)
  refine ⟨d,_,rfl,SqL.of g1,fun e2 he2=>?_⟩
  refine ⟨fun k H'=>Same H1 H'∧H' e2=some (.lst ((((wys ps.length h t l i j).take k).map fun q=>((c i (i+q.2+1) * u (q.1+1) (i+q.2+1) j:Nat):Int)).map V.int)),⟨same_newO he2 _,upd_same⟩,fun k H' _ hP=>SqL.of (hP.1 _ _ g1),fun k x H' hx hP=>?_,fun H' hP=>?_⟩
  · obtain ⟨s2,g2⟩:=hP
    obtain ⟨q',hq,wt,rfl,hwt⟩:=Paired.right_of w1 k x hx
    have hm:=List.mem_of_getElem? hq
    have kl:=(List.getElem?_eq_some_iff.mp hq).1
    have s12:=s1.trans s2
    have hg:=sm.g q' hm
    refine turn_all ⟨_,rfl,r,dx,_,rfl,s12 _ _ ho,rfl,_,rfl,_,rfl,_,rfl,r,pr,ps.length,ws.length+1,Y,Tc,Tt,wt,i,q'.1,i+q'.2+1,j,c i (i+q'.2+1),u (q'.1+1) (i+q'.2+1) j,rfl,ca.same s12,s2 _ _ hwt,by omega,by omega,by omega,hg.1,sm.a q' hm,sm.b q' hm,sm.c1 q' hm,sm.u1 q' hm,_,g2,?_,same_upd he2 s2,?_⟩
    · rw [List.length_map,List.length_map,List.length_take];exact small1000 (by omega)
    · rw [upd_same,List.take_add_one,hq,List.map_append,List.map_append];rfl
  · obtain ⟨s2,g2⟩:=hP
    rw [lx,List.take_length] at g2
    refine ⟨e2,_,rfl,g2,?_⟩
    have e:((wys ps.length h t l i j).map fun q=>((c i (i+q.2+1) * u (q.1+1) (i+q.2+1) j:Nat):Int)).sum=(CT.ovr ps.length h t c u l i j:Int):=by
      rw [ovr_wys,←sum_nat,List.map_map]
      rfl
    rw [e]
    exact q _ (s1.trans s2)
end
end K53
set_option Elab.async false
set_option linter.all false
set_option maxRecDepth 100000
namespace K53
namespace CT
def tabs (L:Nat):Nat→(Nat→List Code) × (Nat→Nat→List Code)
  | 0=>(fun _=>[],fun _ _=>[])
  | m+1=>(fun k=>if k=m+1 then (if m=0 then [[[]]] else rw' L (tabs L m).1 (tabs L m).2 (m+1) 0 m) else (tabs L m).1 k,
      fun k l=>if k=m+1 then (if l < L then rw' L (fun k=>if k=m+1 then (if m=0 then [[[]]] else rw' L (tabs L m).1 (tabs L m).2 (m+1) 0 m) else (tabs L m).1 k) (tabs L m).2 (m+1) l (m+1) else []) else (tabs L m).2 k l)
def Cs (L m:Nat):List Code:=(tabs L m).1 m
def Rs (L m l:Nat):List Code:=(tabs L m).2 m l
theorem flat_congr' {α β:Type} {f g:α→List β}:∀ {xs:List α},(∀ x∈xs,f x=g x)→xs.flatMap f=xs.flatMap g
  | [],_=>rfl
  | x :: xs,h=>by rw [List.flatMap_cons,List.flatMap_cons,h x (.head _),flat_congr' fun y hy=>h y (.tail _ hy)]
theorem rw_congr {L many low most:Nat} {C C':Nat→List Code} {R R':Nat→Nat→List Code} (hC:∀ k,1≤k→k≤most→C k=C' k) (hR:∀ k l,1≤k→k < many→R k l=R' k l):rw' L C R many low most=rw' L C' R' many low most:=by
  unfold rw'
  refine flat_congr' fun q hq=>?_
  obtain ⟨_,_,h3⟩:=Bk_mem.mp hq
  rw [hC (q.2+1) (by omega) (by omega)]
  have:bhd R many q=bhd R' many q:=by
    unfold bhd
    split
    · exact hR _ _ (by omega) (by omega)
    · rfl
  rw [this]
theorem tabs_C {L k:Nat}:∀ {m:Nat},k≤m→(tabs L m).1 k=Cs L k
  | 0,h=>by
    have:k=0:=by omega
    subst this;rfl
  | m+1,h=>by
    by_cases e:k=m+1
    · subst e;rfl
    · show (if k=m+1 then _ else (tabs L m).1 k)=_
      rw [if_neg e]
      exact tabs_C (by omega)
theorem tabs_R {L k l:Nat}:∀ {m:Nat},k≤m→(tabs L m).2 k l=Rs L k l
  | 0,h=>by
    have:k=0:=by omega
    subst this;rfl
  | m+1,h=>by
    by_cases e:k=m+1
    · subst e;rfl
    · show (if k=m+1 then _ else (tabs L m).2 k l)=_
      rw [if_neg e]
      exact tabs_R (by omega)
theorem Cs_one {L:Nat}:Cs L 1=[[[]]]:=rfl
theorem Cs_eq {L m:Nat} (h:1 < m):Cs L m=rw' L (Cs L) (Rs L) m 0 (m - 1):=by
  obtain ⟨k,rfl⟩:∃ k,m=k+1:=⟨m - 1,by omega⟩
  show (if k+1=k+1 then (if k=0 then [[[]]] else rw' L (tabs L k).1 (tabs L k).2 (k+1) 0 k) else _)=_
  rw [if_pos rfl,if_neg (by omega)]
  exact rw_congr (fun j _ hj=>tabs_C hj) fun j l _ hj=>tabs_R (by omega)
theorem Rs_eq {L m l:Nat} (h:1≤m) (hl:l < L):Rs L m l=rw' L (Cs L) (Rs L) m l m:=by
  obtain ⟨k,rfl⟩:∃ k,m=k+1:=⟨m - 1,by omega⟩
  show (if k+1=k+1 then (if l < L then rw' L (tabs L (k+1)).1 (tabs L k).2 (k+1) l (k+1) else []) else _)=_
  rw [if_pos rfl,if_pos hl]
  exact rw_congr (fun j _ hj=>tabs_C hj) fun j l _ hj=>tabs_R (by omega)
theorem Rs_end {L m l:Nat} (hl:¬ l < L):Rs L m l=[]:=by
  cases m with
  | zero=>rfl
  | succ k =>
    show (if k+1=k+1 then (if l < L then _ else []) else _)=_
    rw [if_pos rfl,if_neg hl]
structure Gd (L m B:Nat) (c:Code):Prop where
  ln:c.length=m
  wd:∀ u∈c,u.length≤B∧∀ x∈u,(0:Int)≤x∧x < (L:Int)
theorem rw_gd {L many low most:Nat} {C:Nat→List Code} {R:Nat→Nat→List Code} {B:Nat} (hm:most≤many) (hB:most≤B) (hB2:many≤B+1) (hC:∀ k,1≤k→k≤most→∀ c∈C k,Gd L k (k - 1) c) (hR:∀ k l,1≤k→k < many→∀ r∈R k l,Gd L k k r):∀ c∈rw' L C R many low most,Gd L many B c:=by
  intro c hc
  unfold rw' at hc
  obtain ⟨q,hq,hc⟩:=List.mem_flatMap.mp hc
  obtain ⟨b,hb,hc⟩:=List.mem_flatMap.mp hc
  obtain ⟨r,hr,rfl⟩:=List.mem_map.mp hc
  obtain ⟨_,h2,h3⟩:=Bk_mem.mp hq
  have g1:=hC (q.2+1) (by omega) (by omega) b hb
  have g2:Gd L (many - (q.2+1)) B r:=by
    unfold bhd at hr
    split at hr
    · have:=hR _ _ (by omega) (by omega) r hr
      exact ⟨this.ln,fun u hu=>⟨by have:=(this.wd u hu).1;omega,(this.wd u hu).2⟩⟩
    · have e:r=[]:=by simpa using hr
      subst e
      exact ⟨by simp;omega,fun u hu=>by cases hu⟩
  refine ⟨?_,fun u hu=>?_⟩
  · rw [List.length_append,g2.ln]
    unfold ahd
    rw [List.length_map,g1.ln]
    omega
  · rcases List.mem_append.mp hu with z | z
    · unfold ahd at z
      obtain ⟨v,hv,rfl⟩:=List.mem_map.mp z
      have:=g1.wd v hv
      refine ⟨by rw [List.length_cons];omega,fun x hx=>?_⟩
      rcases List.mem_cons.mp hx with z | z
      · rw [z];exact ⟨by omega,by omega⟩
      · exact this.2 x z
    · exact g2.wd u z
theorem all_gd {L:Nat}:∀ d m,m≤d→1≤m→(∀ c∈Cs L m,Gd L m (m - 1) c)∧∀ l,∀ r∈Rs L m l,Gd L m m r
  | 0,m,h,h1=>by omega
  | d+1,m,h,h1=>by
    have ihC:∀ k,1≤k→k < m→∀ c∈Cs L k,Gd L k (k - 1) c:=fun k a b=>(all_gd d k (by omega) a).1
    have ihR:∀ k l,1≤k→k < m→∀ r∈Rs L k l,Gd L k k r:=fun k l a b=>(all_gd d k (by omega) a).2 l
    have hC:∀ c∈Cs L m,Gd L m (m - 1) c:=by
      by_cases e:m=1
      · subst e
        rw [Cs_one]
        intro c hc
        have:c=[[]]:=by simpa using hc
        subst this
        refine ⟨rfl,fun u hu=>?_⟩
        have:u=[]:=by simpa using hu
        subst this
        exact ⟨by simp,fun x hx=>by cases hx⟩
      · rw [Cs_eq (by omega)]
        exact rw_gd (by omega) (by omega) (by omega) (fun k a b=>ihC k a (by omega)) ihR
    refine ⟨hC,fun l=>?_⟩
    by_cases hl:l < L
    · rw [Rs_eq h1 hl]
      refine rw_gd (by omega) (by omega) (by omega) (fun k a b=>?_) ihR
      by_cases e:k=m
      · subst e;exact hC
      · exact ihC k a (by omega)
    · rw [Rs_end hl]
      intro r hr
      cases hr
theorem Cs_gd {L m:Nat} (h:1≤m):∀ c∈Cs L m,Gd L m (m - 1) c:=(all_gd m m (Nat.le_refl _) h).1
theorem Rs_gd {L m l:Nat} (h:1≤m):∀ c∈Rs L m l,Gd L m m c:=(all_gd m m (Nat.le_refl _) h).2 l
def smallL (L m:Nat):Bool:=decide ((Cs L m).length≤900) && (List.range (L+1)).all fun l=>decide ((Rs L m l).length≤900)
def inL (L m:Nat):Prop:=(L=2∧m≤6)∨(L=3∧m≤4)∨(L=4∧m≤3)
theorem small2:((List.range 7).all fun m=>smallL 2 m)=true:=by decide +kernel
theorem small3:((List.range 5).all fun m=>smallL 3 m)=true:=by decide +kernel
theorem small4:((List.range 4).all fun m=>smallL 4 m)=true:=by decide +kernel
theorem small_of {L m:Nat} (h:inL L m):smallL L m=true:=by
  rcases h with ⟨rfl,h⟩ | ⟨rfl,h⟩ | ⟨rfl,h⟩
  · exact List.all_eq_true.mp small2 m (List.mem_range.mpr (by omega))
  · exact List.all_eq_true.mp small3 m (List.mem_range.mpr (by omega))
  · exact List.all_eq_true.mp small4 m (List.mem_range.mpr (by omega))
theorem Cs_len {L m:Nat} (h:inL L m):(Cs L m).length≤900:=by
  have:=small_of h
  unfold smallL at this
  rw [Bool.and_eq_true] at this
  exact of_decide_eq_true this.1
theorem Rs_len {L m l:Nat} (h:inL L m):(Rs L m l).length≤900:=by
  by_cases hl:l < L
  · have:=small_of h
    unfold smallL at this
    rw [Bool.and_eq_true] at this
    exact of_decide_eq_true (List.all_eq_true.mp this.2 l (List.mem_range.mpr (by omega)))
  · rw [Rs_end hl];simp
theorem ne2:((List.range 6).all fun m=>decide (0 < (Cs 2 (m+1)).length))=true:=by decide +kernel
theorem ne3:((List.range 4).all fun m=>decide (0 < (Cs 3 (m+1)).length))=true:=by decide +kernel
theorem ne4:((List.range 3).all fun m=>decide (0 < (Cs 4 (m+1)).length))=true:=by decide +kernel
theorem Cs_ne {L m:Nat} (h:inL L m) (hm:1≤m):0 < (Cs L m).length:=by
  obtain ⟨k,rfl⟩:∃ k,m=k+1:=⟨m - 1,by omega⟩
  rcases h with ⟨rfl,h⟩ | ⟨rfl,h⟩ | ⟨rfl,h⟩
  · exact of_decide_eq_true (List.all_eq_true.mp ne2 k (List.mem_range.mpr (by omega)))
  · exact of_decide_eq_true (List.all_eq_true.mp ne3 k (List.mem_range.mpr (by omega)))
  · exact of_decide_eq_true (List.all_eq_true.mp ne4 k (List.mem_range.mpr (by omega)))
def blk (L many l b:Nat):List Code:=(Cs L (b+1)).flatMap fun c=>(bhd (Rs L) many (l,b)).map fun r=>ahd l c++r
theorem rw_blk {L many low most:Nat}:rw' L (Cs L) (Rs L) many low most=(List.range (L - low)).flatMap fun a=>(List.range most).flatMap fun b=>blk L many (low+a) b:=by
  unfold rw' Bk
  rw [List.flatMap_assoc]
  refine flat_congr' fun a _=>?_
  rw [List.flatMap_map]
  rfl
theorem rf_succ {α:Type} (g:Nat→List α) (a:Nat):(List.range (a+1)).flatMap g=(List.range a).flatMap g++g a:=by
  rw [List.range_succ,List.flatMap_append,List.flatMap_singleton]
theorem rf_le {α:Type} {g:Nat→List α} {a:Nat}:∀ {A:Nat},a≤A→((List.range a).flatMap g).length≤((List.range A).flatMap g).length
  | 0,h=>by
    have:a=0:=by omega
    subst this;exact Nat.le_refl _
  | A+1,h=>by
    by_cases e:a=A+1
    · subst e;exact Nat.le_refl _
    · rw [rf_succ,List.length_append]
      have:=rf_le (g:=g) (a:=a) (A:=A) (by omega)
      omega
theorem tk_le {α β:Type} {f:α→List β} (k:Nat) (xs:List α):((xs.take k).flatMap f).length≤(xs.flatMap f).length:=by
  have:xs.flatMap f=(xs.take k).flatMap f++(xs.drop k).flatMap f:=by rw [←List.flatMap_append,List.take_append_drop]
  rw [this,List.length_append]
  omega
theorem part_len {L many low most a b k:Nat} (ha:a < L - low) (hb:b < most):((List.range a).flatMap (fun a=>(List.range most).flatMap fun b=>blk L many (low+a) b)).length+((List.range b).flatMap fun b=>blk L many (low+a) b).length+(((Cs L (b+1)).take k).flatMap fun c=>(bhd (Rs L) many (low+a,b)).map fun r=>ahd (low+a) c++r).length≤(rw' L (Cs L) (Rs L) many low most).length:=by
  have h1:=rf_le (g:=fun a=>(List.range most).flatMap fun b=>blk L many (low+a) b) (a:=a+1) (A:=L - low) (by omega)
  have h2:=rf_le (g:=fun b=>blk L many (low+a) b) (a:=b+1) (A:=most) (by omega)
  have h3:=tk_le (f:=fun c=>(bhd (Rs L) many (low+a,b)).map fun r=>ahd (low+a) c++r) k (Cs L (b+1))
  rw [rf_succ,List.length_append] at h1 h2
  rw [rw_blk]
  have:(blk L many (low+a) b).length=((Cs L (b+1)).flatMap fun c=>(bhd (Rs L) many (low+a,b)).map fun r=>ahd (low+a) c++r).length:=rfl
  omega
def pc (ps:List Int) (u:List Int):Int:=(u.map fun x=>ps.getD x.toNat 0).sum
def co (ps ws:List Int) (i:Nat) (c:Code):Int:=(List.zipWith (fun w u=>w * pc ps u) (ws.drop i) c).sum
theorem co_nil {ps ws:List Int} {i:Nat}:co ps ws i []=0:=by unfold co;rw [List.zipWith_nil_right];rfl
theorem drop_cases (ws:List Int) (i:Nat):(ws.length≤i∧ws.drop i=[])∨∃ w,i < ws.length∧ws.drop i=w :: ws.drop (i+1)∧(ws.take (i+1)).sum=(ws.take i).sum+w:=by
  by_cases h:i < ws.length
  · refine .inr ⟨ws[i],h,List.drop_eq_getElem_cons h,?_⟩
    rw [List.take_succ_eq_append_getElem h,List.sum_append]
    simp
  · exact .inl ⟨by omega,List.drop_eq_nil_of_le (by omega)⟩
theorem co_one {ps ws:List Int} {i:Nat}:co ps ws i [[]]=0:=by
  unfold co
  rcases drop_cases ws i with ⟨_,e⟩ | ⟨w,_,e,_⟩
  · rw [e];rfl
  · rw [e]
    show (w * pc ps [] :: List.zipWith _ _ []).sum=0
    rw [List.zipWith_nil_right]
    show w * 0+0=0
    omega
theorem co_app {ps ws:List Int} {l:Nat} {r:Code}:∀ (c:Code) (i:Nat),co ps ws i (ahd l c++r)=pl ps l * Wt ws i (i+c.length)+co ps ws i c+co ps ws (i+c.length) r
  | [],i=>by
    rw [co_nil]
    show co ps ws i r=pl ps l * Wt ws i (i+0)+0+co ps ws (i+0) r
    unfold Wt
    rw [Nat.add_zero,Int.sub_self,Int.mul_zero]
    omega
  | u :: c,i=>by
    have ih:=co_app (ps:=ps) (ws:=ws) (l:=l) (r:=r) c (i+1)
    rw [show i+1+c.length=i+(u :: c).length by rw [List.length_cons];omega] at ih
    rcases drop_cases ws i with ⟨hn,e⟩ | ⟨w,hn,e,es⟩
    · have e2:ws.drop (i+(u :: c).length)=[]:=List.drop_eq_nil_of_le (by omega)
      unfold co
      rw [e,e2,List.zipWith_nil_left,List.zipWith_nil_left,List.zipWith_nil_left]
      unfold Wt
      rw [List.take_of_length_le (by omega),List.take_of_length_le (by omega),Int.sub_self,Int.mul_zero]
      rfl
    · have e1:co ps ws i (ahd l (u :: c)++r)=w * pc ps ((l:Int) :: u)+co ps ws (i+1) (ahd l c++r):=by
        unfold co
        rw [e]
        exact List.sum_cons
      have e2:co ps ws i (u :: c)=w * pc ps u+co ps ws (i+1) c:=by
        unfold co
        rw [e]
        exact List.sum_cons
      have e3:pc ps ((l:Int) :: u)=pl ps l+pc ps u:=by
        unfold pc
        rw [List.map_cons,List.sum_cons]
        rfl
      have e4:Wt ws i (i+(u :: c).length)=w+Wt ws (i+1) (i+(u :: c).length):=by
        unfold Wt
        omega
      rw [e1,e2,e3,e4,ih,Int.mul_add,Int.mul_add,Int.mul_comm w (pl ps l)]
      omega
theorem en {ps ws:List Int}:En ps.length (pl ps) (Wt ws) (Cs ps.length) (Rs ps.length) (co ps ws) where
  c1:=Cs_one
  cs:=fun m h=>Cs_eq h
  rs:=fun m l h hl=>Rs_eq h hl
  rL:=fun m=>Rs_end (by omega)
  nil:=fun i=>co_nil
  one:=fun i=>co_one
  app:=fun i l m c r hc=>by
    have hm:1≤m:=by
      cases m with
      | zero=>cases hc
      | succ k=>omega
    have:=(Cs_gd hm c hc).ln
    have h:=co_app (ps:=ps) (ws:=ws) (l:=l) (r:=r) c i
    rw [this] at h
    exact h
end CT
end K53
set_option Elab.async false
set_option linter.all false
set_option maxRecDepth 100000
namespace K53
open PySem L2
section
variable {P':Program} {w:World} {K:PySem.W.Frag} {mg:Str→Option Value} {base:Heap} {f:Addr} {fd:FuncData}
abbrev NPc:List Str:=["self","first","end","letter"]
def spPutC (C D:Addr):Sp:=fun vs H Q _=>∃ (H0:Hp) (r pr p:Addr) (ps ws:List Int) (X:Ad) (h t:Nat→Nat→Nat→OI) (Fl:Nat→Nat→OI) (Y:CY) (Tc:Nat→Nat→OI) (Tt:Nat→Nat→Nat→OI) (c:Nat→Nat→Nat) (u:Nat→Nat→Nat→Nat) (i j:Nat),vs=[.ref r,.int (i:Int),.int (j:Int)]∧Same H0 H∧PAt C H0 pr p ps ws X h t∧(∀ a,ZC Y ps.length (ws.length+1) a→H0 a=none)∧CAt D H r pr ps.length (ws.length+1) Y Tc Tt∧CT.Tb ps.length ws.length h t Fl (pl ps) (Wt ws)∧ws.length≤6∧ps.length≤4∧0 < ps.length∧i < j∧j≤ws.length∧Ctd ps.length ws.length h t Tc Tt c u (Dn i j) ∧
  ∀ H' Tc' Tt' c' u',Same H0 H'→CAt D H' r pr ps.length (ws.length+1) Y Tc' Tt'→Ctd ps.length ws.length h t Tc' Tt' c' u' (Dn i (j+1))→Q .non H'
theorem scPutC:FnScope NPc ["self","first","end"] (defScope sPutC):=⟨rfl,rfl,rfl,by decide +kernel,rfl,by decide +kernel,by decide +kernel⟩
set_option maxHeartbeats 8000000 in
theorem ok_putc {C D:Addr} (F:Fun K "put_counts" "Counts.put_counts" sPutC f fd) (MO:Mt P' w K mg base D "over_ways" NOv (spOver C D) 4) (rc:DC K D) (mr:mg "range"=none):FnOk P' w K mg base CX0 5 f fd ["self","first","end"] (spPutC C D):=by
  refine F.ok (k:=4) scPutC (fun vs H Q E h=>?_) (fun cdv A outer s H vs Q E hr h=>?_)
  · obtain ⟨H0,r,pr,p,ps,ws,X,h,t,Fl,Y,Tc,Tt,c,u,i,j,rfl,_⟩:=h
    rfl
  obtain ⟨H0,r,pr,p,ps,ws,X,h,t,Fl,Y,Tc,Tt,c,u,i,j,rfl,s0,pa,fz,ca,T,w6,p4,p0,hij,hj,ctd,q⟩:=h
  refine ⟨_,pss_cons (ps_asg (pe_mid (pe_ifExp (pt_cmpR op_eq (pe_op op_sub (pv 2) (pv 1)) pe_int (nomark _)) pe_int (pe_meth (pv 0) rc.c MO.m MO.ok hr MO.b .nil pass0 (pa_cons pe_int (pa_cons (pv 1) (pa_cons (pv 2) pa_nil)))))) (pg_sub (pe_ix ix_list (pe_fld (pv 0) rfl) (pv 1) (fun _ _=>rfl)) (pv 2) set_list))
    (pss_one (ps_for PassesOwn.never rfl (pi_range1 (by rfl) mr (pa_cons (pe_fld (pv 0) rfl) pa_nil)) (pg_name (i:=3) scPutC.nd rfl (Or.inl rfl))
      (pss_one (ps_asg (pe_meth (pv 0) rc.c MO.m MO.ok hr MO.b .nil pass0 (pa_cons (pv 3) (pa_cons (pv 1) (pa_cons (pv 2) pa_nil)))) (pg_sub (pe_ix ix_list (pe_ix ix_list (pe_fld (pv 0) rfl) (pv 3) (fun _ _=>rfl)) (pv 1) (fun _ _=>rfl)) (pv 2) set_list))))),?_⟩
  have i1:i < ws.length+1:=by omega
  have j1:j < ws.length+1:=by omega
  obtain ⟨dx,ho⟩:=ca.ob
  refine ⟨fun v H1=>v=.int (v0 ps.length h t c u i j:Int)∧Same H H1,?_,fun v H1 hv=>?_⟩
  · refine ⟨_,rfl,_,rfl,_,_,rfl,rfl,rfl,_,rfl,?_⟩
    refine ite2 (fun z=>?_) (fun z=>?_)
    · have z1:j - i=1:=by
        have y:V.int ((j:Int) - (i:Int))=V.int 1:=of_decide_eq_true z
        have:=V.int.inj y
        omega
      refine ⟨?_,Same.refl _⟩
      unfold v0
      rw [if_pos z1]
      rfl
    · have z1:¬ j - i=1:=fun y=>z (decide_eq_true (by show V.int ((j:Int) - (i:Int))=V.int 1;congr 1;omega))
      refine ⟨_,rfl,r,dx,_,rfl,ho,rfl,_,rfl,_,rfl,r,pr,p,ps,ws,X,h,t,Y,Tc,Tt,c,u,0,i,j,_,rfl,pa.same s0,ca,w6,p4,p0,hij,hj,ctd.s0 T p0 (by omega) hj w6,fun H' s'=>⟨?_,s'⟩⟩
      unfold v0
      rw [if_neg z1]
  obtain ⟨rfl,s1⟩:=hv
  have ca1:=ca.same s1
  have s01:=s0.trans s1
  obtain ⟨dx1,ho1⟩:=ca1.ob
  refine ⟨_,rfl,r,D,dx1,_,_,rfl,ho1,rc.c,rc.nc,rfl,_,rfl,Y.cc,_,_,_,rfl,rfl,SqL.of ca1.co,at_rng i1,_,rfl,Y.ca i,_,_,j,rfl,rfl,ca1.cr i i1,(by rw [List.length_map,List.length_range];exact ixN_nat j1),?_⟩
  have ca2:CAt D (upd H1 (Y.ca i) (.lst (((List.range (ws.length+1)).map fun k=>oV (Tc i k)).set j (.int (v0 ps.length h t c u i j:Int))))) r pr ps.length (ws.length+1) Y (up2 Tc i j (some (v0 ps.length h t c u i j:Int))) Tt:=ca1.putc (v:=some (v0 ps.length h t c u i j:Int)) i1 j1
  have s02:Same H0 (upd H1 (Y.ca i) (.lst (((List.range (ws.length+1)).map fun k=>oV (Tc i k)).set j (.int (v0 ps.length h t c u i j:Int))))):=same_upd (fz _ (.inl ⟨i,i1,rfl⟩)) s01
  generalize upd H1 (Y.ca i) (.lst (((List.range (ws.length+1)).map fun k=>oV (Tc i k)).set j (.int (v0 ps.length h t c u i j:Int))))=H2 at ca2 s02 ⊢
  obtain ⟨dx2,ho2⟩:=ca2.ob
  refine ⟨_,rfl,r,D,dx2,_,_,rfl,ho2,rc.c,rc.nl,rfl,_,rfl,by omega,by omega,?_⟩
  rw [Int.toNat_natCast]
  refine for_range (fun l σ H'=>Same H0 H'∧(∃ Tt',CAt D H' r pr ps.length (ws.length+1) Y (up2 Tc i j (some (v0 ps.length h t c u i j:Int))) Tt'∧(∀ l' a b,¬ (a=i∧b=j)→Tt' l' a b=Tt l' a b)∧∀ l',l' < l→Tt' l' i j=some (CT.ovr ps.length h t (upc c i j (v0 ps.length h t c u i j)) u l' i j:Int))∧∃ x3:Option V,σ=[some (.ref r),some (.int (i:Int)),some (.int (j:Int)),x3])
    ⟨s02,⟨Tt,ca2,fun _ _ _ _=>rfl,fun l' hl'=>absurd hl' (Nat.not_lt_zero _)⟩,_,rfl⟩ (fun l σ H3 hl hP=>?_) (fun σ H3 hP=>?_)
  · obtain ⟨s03,⟨Tt',ca3,t1,t2⟩,x3,rfl⟩:=hP
    rw [show (0:Int)+(l:Int)=(l:Int) from Int.zero_add _]
    obtain ⟨dx3,ho3⟩:=ca3.ob
    have sm:=ctd.sl T p0 p4 hij hj w6 hl
    have sm':Sm1 ps.length ws.length (up2 Tc i j (some (v0 ps.length h t c u i j:Int))) Tt' (upc c i j (v0 ps.length h t c u i j)) u i j (wys ps.length h t l i j) (32 * 1024 ^ (2 * (j - i) - 2)):=⟨sm.a,fun q hq=>by rw [t1 _ _ _ (by omega)];exact sm.b q hq,sm.c1,sm.u1,sm.d,sm.g⟩
    refine ⟨_,rfl,r,dx3,_,rfl,ho3,rfl,_,rfl,_,rfl,_,rfl,r,pr,p,ps,ws,X,h,t,Y,_,Tt',_,u,l,i,j,_,rfl,pa.same s03,ca3,w6,p4,hl,hij,hj,sm',fun H4 s4=>?_⟩
    have ca4:=ca3.same s4
    have s04:=s03.trans s4
    obtain ⟨dx4,ho4⟩:=ca4.ob
    have l2:l < ps.length+1:=by omega
    refine ⟨_,rfl,r,D,dx4,_,_,rfl,ho4,rc.c,rc.nt,rfl,_,rfl,Y.tt,_,_,_,rfl,rfl,SqL.of ca4.tl.o,at_rng l2,_,rfl,Y.bt l,_,_,_,rfl,rfl,SqL.of (ca4.tl.b l l2),at_rng i1,_,rfl,Y.ct l i,_,_,j,rfl,rfl,ca4.tl.c l i l2 i1,(by rw [List.length_map,List.length_range];exact ixN_nat j1),?_⟩
    refine ⟨same_upd (fz _ (.inr ⟨l,i,l2,i1,rfl⟩)) s04,⟨_,ca4.putt (v:=some (CT.ovr ps.length h t (upc c i j (v0 ps.length h t c u i j)) u l i j:Int)) l2 i1 j1,fun l' a b z=>?_,fun l' hl'=>?_⟩,_,rfl⟩
    · rw [up3_ne fun y=>z ⟨y.2.1,y.2.2⟩];exact t1 l' a b z
    · by_cases z:l'=l
      · subst z;rw [up3_at]
      · rw [up3_ne fun y=>z y.1];exact t2 l' (by omega)
  · obtain ⟨s03,⟨Tt',ca3,t1,t2⟩,x3,rfl⟩:=hP
    obtain ⟨c',u',k⟩:=ctd.step T p0 p4 hij hj w6 t1 t2
    exact q H3 _ Tt' c' u' s03 ca3 k
end
def drp (r:Addr) (H:Hp):Hp:=fun a=>if a=r then none else H a
theorem drp_ne {r a:Addr} {H:Hp} (h:a≠r):drp r H a=H a:=if_neg h
theorem drp_same {r:Addr} {H H':Hp} (k:KeepR r H H'):Same (drp r H) H':=fun a o e=>by
  by_cases z:a=r
  · unfold drp at e;rw [if_pos z] at e;cases e
  · rw [drp_ne z] at e;exact k a o z e
theorem drp_keep {r:Addr} {H H':Hp} (s:Same (drp r H) H'):KeepR r H H':=fun a o ha e=>s a o (by rw [drp_ne ha];exact e)
theorem PAt.drp {C D:Addr} {H:Hp} {pr p r dx:Addr} {ps ws:List Int} {X:Ad} {h t:Nat→Nat→Nat→OI} (a:PAt C H pr p ps ws X h t) (hr:H r=some (.ins D dx [])):PAt C (K53.drp r H) pr p ps ws X h t:=by
  obtain ⟨dy,ho⟩:=a.ob
  refine ⟨⟨dy,?_⟩,?_,?_,⟨?_,fun l hl=>?_,fun l i hl hi=>?_⟩,⟨?_,fun l hl=>?_,fun l i hl hi=>?_⟩,a.ih,a.it,a.ix,a.ns⟩
  · rw [drp_ne (ne_of ho hr (by intro z;cases z))];exact ho
  · show K53.drp r H p=_
    rw [drp_ne (ne_of a.hp hr (by intro z;cases z))];exact a.hp
  · rw [drp_ne (ne_of a.su hr (by intro z;cases z))];exact a.su
  · rw [drp_ne (ne_of a.hd.o hr (by intro z;cases z))];exact a.hd.o
  · rw [drp_ne (ne_of (a.hd.b l hl) hr (by intro z;cases z))];exact a.hd.b l hl
  · rw [drp_ne (ne_of (a.hd.c l i hl hi) hr (by intro z;cases z))];exact a.hd.c l i hl hi
  · rw [drp_ne (ne_of a.tl.o hr (by intro z;cases z))];exact a.tl.o
  · rw [drp_ne (ne_of (a.tl.b l hl) hr (by intro z;cases z))];exact a.tl.b l hl
  · rw [drp_ne (ne_of (a.tl.c l i hl hi) hr (by intro z;cases z))];exact a.tl.c l i hl hi
end K53
set_option Elab.async false
set_option linter.all false
set_option maxRecDepth 100000
namespace K53
open PySem L2
section
variable {P':Program} {w:World} {K:PySem.W.Frag} {mg:Str→Option Value} {base:Heap} {f:Addr} {fd:FuncData}
abbrev NCi:List Str:=["self","prices","weights","side","first","end"]
abbrev cf1 (pr:Addr):List (Str × V):=[("parted",.ref pr)]
abbrev cf2 (pr:Addr) (L:Int):List (Str × V):=[("parted",.ref pr),("letters",.int L)]
abbrev cf3 (pr:Addr) (L:Int) (cc:Addr):List (Str × V):=[("parted",.ref pr),("letters",.int L),("codes",.ref cc)]
abbrev tc0:Nat→Nat→OI:=fun a b=>if b=a then none else none
abbrev tt0:Nat→Nat→Nat→OI:=fun _ a b=>if b=a then some 1 else none
def spCInit (C D:Addr):Sp:=fun vs H Q _=>∃ (r dx p q:Addr) (ps ws:List Int),vs=[.ref r,.ref p,.ref q]∧H r=some (.ins D dx [])∧TW H p ps∧TW H q ws∧Num ps ws∧Po ps∧Po ws∧ps.length≤4∧ws.length≤6 ∧
  ∀ H' (pr:Addr) X h t Fl Y Tc Tt c u,KeepR r H H'→PAt C H' pr p ps ws X h t→CAt D H' r pr ps.length (ws.length+1) Y Tc Tt→CT.Tb ps.length ws.length h t Fl (pl ps) (Wt ws)→Ctd ps.length ws.length h t Tc Tt c u (fun _ _=>True)→Q .non H'
theorem scCInit:FnScope NCi ["self","prices","weights"] (defScope iCounts):=⟨rfl,rfl,rfl,by decide +kernel,rfl,by decide +kernel,by decide +kernel⟩
theorem ndCi:(("letter":Str) :: NCi).Nodup:=by decide +kernel
set_option maxHeartbeats 8000000 in
theorem ok_cinit {C D:Addr} (F:Fun K "__init__" "Counts.__init__" iCounts f fd) (GP:Fns P' w K mg base ["prices","weights"] "parted_least" (spPl C) 5) (GQ:Fns P' w K mg base ["side","diagonal"] "square" spSquare 5) (MC:Mt P' w K mg base D "put_counts" ["self","first","end"] (spPutC C D) 5) (rc:DC K D) (ml:mg "len"=none) (mr:mg "range"=none):FnOk P' w K mg base CX0 6 f fd ["self","prices","weights"] (spCInit C D):=by
  refine F.ok (k:=5) scCInit (fun vs H Q E h=>?_) (fun cdv A outer s H vs Q E hr h=>?_)
  · obtain ⟨r,dx,p,q,ps,ws,rfl,_⟩:=h
    rfl
  obtain ⟨r,dx,p,q,ps,ws,rfl,hr0,hp,hq,nu,pp,pw,p4,w6,qq⟩:=h
  have p2:=nu.p2
  have w1:=nu.w1
  refine ⟨_,pss_cons (ps_fld (pv 0) (pe_call GP.ok hr (by rfl) GP.m GP.kp GP.b .nil pass0 (pa_cons (pv 1) (pa_cons (pv 2) pa_nil))) rfl)
    (pss_cons (ps_fld (pv 0) (pe_callB call_len_seq (by rfl) ml PySem.boot_len (pa_cons (pv 1) pa_nil)) rfl)
    (pss_cons (ps_set (i:=3) scCInit.nd rfl (Or.inr rfl) (pe_op op_add (pe_callB call_len_seq (by rfl) ml PySem.boot_len (pa_cons (pv 2) pa_nil)) pe_int))
    (pss_cons (ps_fld (pv 0) (pe_call GQ.ok hr (by rfl) GQ.m GQ.kp GQ.b .nil pass0 (pa_cons (pv 3) (pa_cons pe_non pa_nil))) rfl)
    (pss_cons (ps_fld (pv 0) (pe_compR1 (M:=NCi) rfl (CompScope.of (defScope iCounts) NCi rfl rfl rfl (by decide +kernel) (by decide +kernel) (by decide +kernel) rfl (by decide +kernel)) ndCi rfl (by rfl) mr (pa_cons (pe_op op_add (pe_fld (pv 0) rfl) pe_int) pa_nil) (mo_cons (mo_op mo_rI0 (mo_fld mo_var) mo_c) mo_nil)
      (fun cl C s0 H0 fp=>⟨pts_nil,pe_call GQ.ok hr (by rfl) GQ.m GQ.kp GQ.b .nil pass0 (pa_cons (pv 4) (pa_cons pe_int pa_nil))⟩)) rfl)
    (pss_one (ps_for PassesOwn.never rfl (pi_rangeD (by rfl) mr (pa_cons (pe_op op_sub (pe_callB call_len_seq (by rfl) ml PySem.boot_len (pa_cons (pv 2) pa_nil)) pe_int) (pa_cons (pe_un un_neg pe_int) (pa_cons (pe_un un_neg pe_int) pa_nil)))) (pg_name (i:=4) scCInit.nd rfl (Or.inl rfl))
      (pss_one (ps_for PassesOwn.never rfl (pi_range2 (by rfl) mr (pa_cons (pe_op op_add (pv 4) pe_int) (pa_cons (pv 3) pa_nil))) (pg_name (i:=5) scCInit.nd rfl (Or.inl rfl))
        (pss_one (ps_expr (pe_meth (pv 0) rc.c MC.m MC.ok hr MC.b .nil pass0 (pa_cons (pv 4) (pa_cons (pv 5) pa_nil))))))))))))),?_⟩
  have pr':p≠r:=ne_of hp hr0 (by intro z;cases z)
  have qr':q≠r:=ne_of hq hr0 (by intro z;cases z)
  refine ⟨_,rfl,_,rfl,p,q,ps,ws,rfl,hp,hq,nu,fun pr X h t Fl H1 s1 pa fl=>?_⟩
  have T:=fl.tb p2 pp pw
  have g1:=s1 _ _ hr0
  have paD:=pa.drp g1
  have pr1:pr≠r:=by
    obtain ⟨dy,ho⟩:=pa.ob
    exact ne_of ho g1 (by intro z;cases z)
  refine ⟨_,rfl,r,D,dx,_,rfl,g1,rc.c,rc.np,(by show 0 < 1000;decide),?_⟩
  rw [show putF "parted" (V.ref pr) []=cf1 pr from rfl]
  have g2:upd H1 r (.ins D dx (cf1 pr)) r=some (.ins D dx (cf1 pr)):=upd_same
  have k2:Same (drp r H1) (upd H1 r (.ins D dx (cf1 pr))):=drp_same fun a o ha e=>by rw [upd_ne ha];exact e
  have dn:∀ {a o},H a=some o→a≠r→drp r H1 a=some o:=fun e ha=>by rw [drp_ne ha];exact s1 _ _ e
  have hpD:TW (drp r H1) p ps:=dn hp pr'
  have hqD:TW (drp r H1) q ws:=dn hq qr'
  have fr:∀ {H':Hp} {a:Addr} {o:HO},Same (drp r H1) H'→H' r=some o→H' a=none→drp r H1 a=none:=fun s g e=>s.free e
  generalize upd H1 r (.ins D dx (cf1 pr))=H2 at g2 k2 ⊢
  refine ⟨_,rfl,p,_,rfl,.inr (SqT.of (k2 _ _ hpD)),_,rfl,r,D,dx,_,rfl,g2,rc.c,rc.nl,(by show 1 < 1000;decide),?_⟩
  rw [List.length_map,show putF "letters" (V.int (ps.length:Int)) (cf1 pr)=cf2 pr (ps.length:Int) from rfl]
  have g3:upd H2 r (.ins D dx (cf2 pr (ps.length:Int))) r=some (.ins D dx (cf2 pr (ps.length:Int))):=upd_same
  have k3:Same (drp r H1) (upd H2 r (.ins D dx (cf2 pr (ps.length:Int)))):=drp_same fun a o ha e=>by rw [upd_ne ha];exact drp_keep k2 a o ha e
  generalize upd H2 r (.ins D dx (cf2 pr (ps.length:Int)))=H3 at g3 k3 ⊢
  refine ⟨_,rfl,q,_,rfl,.inr (SqT.of (k3 _ _ hqD)),_,_,rfl,rfl,?_⟩
  rw [List.length_map]
  refine ⟨_,rfl,ws.length+1,none,rfl,by omega,fun cc cA H4 s4 fcc fcA ij cb hb hc=>?_⟩
  have g4:=s4 _ _ g3
  refine ⟨_,rfl,r,D,dx,_,rfl,g4,rc.c,rc.nc,(by show 2 < 1000;decide),?_⟩
  rw [show putF "codes" (V.ref cc) (cf2 pr (ps.length:Int))=cf3 pr (ps.length:Int) cc from rfl]
  have cr:cc≠r:=ne_of hb g4 (by intro z;cases z)
  have ar:∀ i,i < ws.length+1→cA i≠r:=fun i hi=>ne_of (hc i hi) g4 (by intro z;cases z)
  have g5:upd H4 r (.ins D dx (cf3 pr (ps.length:Int) cc)) r=some (.ins D dx (cf3 pr (ps.length:Int) cc)):=upd_same
  have k5:Same (drp r H1) (upd H4 r (.ins D dx (cf3 pr (ps.length:Int) cc))):=drp_same fun a o ha e=>by rw [upd_ne ha];exact s4 _ _ (drp_keep k3 a o ha e)
  have b5:upd H4 r (.ins D dx (cf3 pr (ps.length:Int) cc)) cc=some (.lst ((List.range (ws.length+1)).map fun i=>.ref (cA i))):=by rw [upd_ne cr];exact hb
  have c5:∀ i,i < ws.length+1→upd H4 r (.ins D dx (cf3 pr (ps.length:Int) cc)) (cA i)=some (.lst (rowW (ws.length+1) i none)):=fun i hi=>by rw [upd_ne (ar i hi)];exact hc i hi
  generalize upd H4 r (.ins D dx (cf3 pr (ps.length:Int) cc))=H5 at g5 k5 b5 c5 ⊢
  refine ⟨_,rfl,r,D,dx,_,_,rfl,g5,rc.c,rc.nl,rfl,_,_,rfl,rfl,_,rfl,by omega,by omega,fun tt htt=>?_⟩
  have en:((ps.length:Int)+1).toNat=ps.length+1:=by omega
  rw [en]
  refine ⟨fun i H'=>∃ ba ca,Grow H5 H' (ws.length+1) (some 1) i ba ca tt,⟨_,_,Grow.start htt⟩,fun i H' hi hP=>?_,fun H6 hP=>?_⟩
  · obtain ⟨ba,ca,g⟩:=hP
    refine turn_all ⟨_,rfl,ws.length+1,some 1,rfl,by omega,fun b c' H8 s8 fb fc ij cb hb hc=>⟨_,s8 _ _ g.lo_,?_,_,_,g.step htt s8 fb fc ij hb hc⟩⟩
    rw [List.length_map,List.length_range];exact small1000 (by omega)
  obtain ⟨bt,ct,gt⟩:=hP
  have g6:=gt.same _ _ g5
  refine ⟨_,rfl,r,D,dx,_,rfl,g6,rc.c,rc.nt,(by show 3 < 1000;decide),?_⟩
  rw [show putF "tails" (V.ref tt) (cf3 pr (ps.length:Int) cc)=cf pr (ps.length:Int) ⟨cc,cA,tt,bt,ct⟩ from rfl]
  have rt1:tt≠r:=ne_of gt.lo_ g6 (by intro z;cases z)
  have rt2:∀ l,l < ps.length+1→bt l≠r:=fun l hl=>ne_of (gt.lb l hl) g6 (by intro z;cases z)
  have rt3:∀ l k,l < ps.length+1→k < ws.length+1→ct l k≠r:=fun l k hl hk=>ne_of (gt.lc l k hl hk) g6 (by intro z;cases z)
  have ca7:CAt D (upd H6 r (.ins D dx (cf pr (ps.length:Int) ⟨cc,cA,tt,bt,ct⟩))) r pr ps.length (ws.length+1) ⟨cc,cA,tt,bt,ct⟩ tc0 tt0:=by
    refine ⟨⟨dx,upd_same⟩,?_,fun i hi=>?_,⟨?_,fun l hl=>?_,fun l k hl hk=>?_⟩,ij,fun l i l' i' hl hl' hi hi' e=>gt.inj l i l' i' hl hl' hi hi' e,fun i l k hi hl hk e=>?_⟩
    · rw [upd_ne cr];exact gt.same _ _ b5
    · rw [upd_ne (ar i hi)];exact gt.same _ _ (c5 i hi)
    · rw [upd_ne rt1];exact gt.lo_
    · rw [upd_ne (rt2 l hl)];exact gt.lb l hl
    · rw [upd_ne (rt3 l k hl hk)];exact gt.lc l k hl hk
    · have e1:=gt.fc l k hl hk
      have e:cA i=ct l k:=e
      rw [←e,c5 i hi] at e1
      cases e1
  have k7:Same (drp r H1) (upd H6 r (.ins D dx (cf pr (ps.length:Int) ⟨cc,cA,tt,bt,ct⟩))):=drp_same fun a o ha e=>by rw [upd_ne ha];exact gt.same _ _ (drp_keep k5 a o ha e)
  have fz:∀ a,ZC ⟨cc,cA,tt,bt,ct⟩ ps.length (ws.length+1) a→drp r H1 a=none:=fun a hz=>by
    rcases hz with ⟨i,hi,e⟩ | ⟨l,i,hl,hi,e⟩
    · have e:a=cA i:=e
      rw [e];exact k3.free (fcA i hi)
    · have e:a=ct l i:=e
      rw [e];exact k5.free (gt.fc l i hl hi)
  generalize upd H6 r (.ins D dx (cf pr (ps.length:Int) ⟨cc,cA,tt,bt,ct⟩))=H7 at ca7 k7 ⊢
  generalize (⟨cc,cA,tt,bt,ct⟩:CY)=Y at ca7 fz
  refine ⟨_,rfl,q,_,rfl,.inr (SqT.of (k7 _ _ hqD)),_,_,rfl,rfl,_,rfl,_,rfl,_,rfl,⟨by rw [List.length_map];omega,by rw [List.length_map];omega⟩,?_⟩
  rw [List.length_map,show ((ws.length:Int) - 1+1).toNat=ws.length by omega]
  refine for_range3 (fun m σ H'=>Same (drp r H1) H'∧(∃ Tc Tt c u,CAt D H' r pr ps.length (ws.length+1) Y Tc Tt∧Ctd ps.length ws.length h t Tc Tt c u (fun i _=>ws.length - m≤i))∧∃ x4 x5:Option V,σ=[some (.ref r),some (.ref p),some (.ref q),some (.int ((ws.length:Int)+1)),x4,x5])
    ⟨k7,⟨tc0,tt0,fun _ _=>0,fun _ _ _=>1,ca7,⟨fun l j _ _=>if_pos rfl,fun i j a b c=>absurd c (by show ¬ ws.length≤i;omega),fun l i j _ a b c=>absurd c (by show ¬ ws.length≤i;omega),fun i j a b c=>absurd c (by show ¬ ws.length≤i;omega),fun l i j _ a b c=>absurd c (by show ¬ ws.length≤i;omega),fun l j _ _=>rfl,fun i j a b c=>absurd c (by show ¬ ws.length≤i;omega),fun l i j _ a b c=>absurd c (by show ¬ ws.length≤i;omega)⟩⟩,_,_,rfl⟩ (fun m σ H8 hm hP=>?_) (fun σ H8 hP=>?_)
  · obtain ⟨s8,⟨Tc,Tt,c,u,ca8,ct8⟩,x4,x5,rfl⟩:=hP
    obtain ⟨f,ef⟩:∃ f,f=ws.length - 1 - m:=⟨_,rfl⟩
    have ev:(ws.length:Int) - 1+(m:Int) * (-1)=(f:Int):=by omega
    rw [ev]
    have hf:f < ws.length:=by omega
    refine ⟨_,rfl,_,_,rfl,rfl,_,rfl,_,_,rfl,⟨by omega,by omega,by omega,by omega⟩,?_⟩
    have en2:(((ws.length:Int)+1) - ((f:Int)+1)).toNat=ws.length - f:=by omega
    rw [en2]
    refine for_range (fun k σ H'=>Same (drp r H1) H'∧(∃ Tc Tt c u,CAt D H' r pr ps.length (ws.length+1) Y Tc Tt∧Ctd ps.length ws.length h t Tc Tt c u (Dn f (f+1+k)))∧∃ x5:Option V,σ=[some (.ref r),some (.ref p),some (.ref q),some (.int ((ws.length:Int)+1)),some (.int (f:Int)),x5])
      ⟨s8,⟨Tc,Tt,c,u,ca8,ct8.weak fun i j hij hj d=>by show ws.length - m≤i;rcases d with z | z <;> omega⟩,_,rfl⟩ (fun k σ H9 hk hP=>?_) (fun σ H9 hP=>?_)
    · obtain ⟨s9,⟨Tc9,Tt9,c9,u9,ca9,ct9⟩,x5,rfl⟩:=hP
      have ee:(f:Int)+1+(k:Int)=((f+1+k:Nat):Int):=by push_cast;omega
      rw [ee]
      obtain ⟨dx9,ho9⟩:=ca9.ob
      refine ⟨_,rfl,r,dx9,_,rfl,ho9,rfl,_,rfl,_,rfl,drp r H1,r,pr,p,ps,ws,X,h,t,Fl,Y,Tc9,Tt9,c9,u9,f,f+1+k,rfl,s9,paD,fz,ca9,T,w6,p4,by omega,by omega,by omega,ct9,fun H' Tc' Tt' c' u' s' ca' k'=>?_⟩
      exact ⟨s',⟨Tc',Tt',c',u',ca',k'⟩,_,rfl⟩
    · obtain ⟨s9,⟨Tc9,Tt9,c9,u9,ca9,ct9⟩,x5,rfl⟩:=hP
      exact ⟨s9,⟨Tc9,Tt9,c9,u9,ca9,ct9.weak fun i j hij hj d=>by
        have d:ws.length - (m+1)≤i:=d
        by_cases z:f < i
        · exact .inl z
        · exact .inr ⟨by omega,by omega⟩⟩,_,_,rfl⟩
  · obtain ⟨s8,⟨Tc,Tt,c,u,ca8,ct8⟩,x4,x5,rfl⟩:=hP
    exact qq H8 pr X h t Fl Y Tc Tt c u (fun a o ha e=>drp_keep s8 a o ha (s1 _ _ e)) (paD.same s8) ca8 T (ct8.weak fun i j _ _ _=>by show ws.length - ws.length≤i;omega)
structure ClC (P:Program) (w:World) (K:PySem.W.Frag) (mg:Str→Option Value) (base:Heap) (C D:Addr) where
  rc:DC K D
  g:mg "Counts"=some (.ref D)
  fi:Addr
  di:FuncData
  mkk:Mk K D fi
  oki:FnOk P w K mg base CX0 6 fi di ["self","prices","weights"] (spCInit C D)
  bi:Binds K di ["self","prices","weights"] []
end
end K53
set_option Elab.async false
set_option linter.all false
set_option maxRecDepth 100000
namespace K53
open PySem L2
namespace CT
def Af (u v:List Int):Prop:=HT.lexLt u v=true∧v.take u.length≠u
def KP (c:Code):Prop:=c.Pairwise Af
def InL (L:Nat) (c:Code):Prop:=∀ u∈c,∀ x∈u,(0:Int)≤x∧x < (L:Int)
def sz (c:Code):Nat:=(c.map fun u=>u.length+1).sum
def Fr (l:Nat) (c:Code):Prop:=∀ u∈c,∃ x w,u=x :: w∧(l:Int)≤x
theorem af_cons {x:Int} {u v:List Int}:Af (x :: u) (x :: v)↔Af u v:=by
  unfold Af
  rw [HT.lexLt_cons,if_pos rfl,List.length_cons,List.take_succ_cons]
  constructor
  · rintro ⟨a,b⟩;exact ⟨a,fun z=>b (by rw [z])⟩
  · rintro ⟨a,b⟩;exact ⟨a,fun z=>by injection z with _ z;exact b z⟩
theorem af_lt {x y:Int} {u v:List Int} (h:x < y):Af (x :: u) (y :: v):=by
  unfold Af
  rw [HT.lexLt_cons,if_neg (by omega),List.length_cons,List.take_succ_cons]
  exact ⟨decide_eq_true h,fun z=>by injection z with z _;omega⟩
theorem af_le {x y:Int} {u v:List Int} (h:Af (x :: u) (y :: v)):x≤y:=by
  have h:=h.1
  rw [HT.lexLt_cons] at h
  split at h
  · omega
  · have:=of_decide_eq_true h;omega
theorem kp_ahd {l:Nat} {c:Code}:KP (ahd l c)↔KP c:=by
  unfold KP ahd
  rw [List.pairwise_map]
  constructor
  · intro h;exact h.imp fun z=>af_cons.mp z
  · intro h;exact h.imp fun z=>af_cons.mpr z
theorem sz_app (a b:Code):sz (a++b)=sz a+sz b:=by unfold sz;rw [List.map_append,List.sum_append]
theorem sz_ahd {l:Nat}:∀ c:Code,sz (ahd l c)=sz c+c.length
  | []=>rfl
  | u :: c=>by
    have:=sz_ahd (l:=l) c
    unfold sz ahd at *
    rw [List.map_cons,List.map_cons,List.sum_cons,List.map_cons,List.sum_cons,this,List.length_cons,List.length_cons]
    omega
theorem split_row:∀ (r:Code) (x:Int),KP r→(∀ u∈r,∃ y w,u=y :: w∧x≤y)→∃ c r2:Code,r=c.map (fun w=>x :: w)++r2∧∀ u∈r2,∃ y w,u=y :: w∧x < y
  | [],x,_,_=>⟨[],[],rfl,fun u hu=>by cases hu⟩
  | u :: r,x,k,h=>by
    obtain ⟨y,w,rfl,hy⟩:=h u (.head _)
    have kk:=List.pairwise_cons.mp k
    by_cases e:x=y
    · subst e
      obtain ⟨c,r2,e1,e2⟩:=split_row r x kk.2 fun v hv=>h v (.tail _ hv)
      exact ⟨w :: c,r2,by rw [e1];rfl,e2⟩
    · refine ⟨[],(y :: w) :: r,rfl,fun v hv=>?_⟩
      rcases List.mem_cons.mp hv with rfl | hv
      · exact ⟨y,w,rfl,by omega⟩
      · obtain ⟨z,w',rfl,hz⟩:=h v (.tail _ hv)
        have:=af_le (kk.1 _ hv)
        exact ⟨z,w',rfl,by omega⟩
theorem split {L l:Nat} {r:Code} (k:KP r) (i:InL L r) (f:Fr l r) (ne:r≠[]):∃ (l1:Nat) (c r2:Code),r=ahd l1 c++r2∧c≠[]∧l≤l1∧l1 < L∧KP c∧InL L c∧KP r2∧InL L r2∧Fr (l1+1) r2∧sz c < sz r∧sz r2 < sz r:=by
  cases r with
  | nil=>exact absurd rfl ne
  | cons u r =>
    obtain ⟨x,w,rfl,hx⟩:=f u (.head _)
    obtain ⟨x0,x1⟩:=i _ (.head _) x (.head _)
    obtain ⟨l1,rfl⟩:∃ l1:Nat,x=l1:=⟨x.toNat,by omega⟩
    have kk:=List.pairwise_cons.mp k
    obtain ⟨c,r2,e1,e2⟩:=split_row r (l1:Int) kk.2 fun v hv=>by
      obtain ⟨z,w',rfl,hz⟩:=f v (.tail _ hv)
      exact ⟨z,w',rfl,af_le (kk.1 _ hv)⟩
    have e:(((l1:Int) :: w) :: r:Code)=ahd l1 (w :: c)++r2:=by rw [e1];rfl
    rw [e] at k i ⊢
    have k':=List.pairwise_append.mp k
    have s:=sz_app (ahd l1 (w :: c)) r2
    have s2:=sz_ahd (l:=l1) (w :: c)
    refine ⟨l1,w :: c,r2,rfl,by simp,by omega,by omega,kp_ahd.mp k'.1,fun u hu y hy=>i ((l1:Int) :: u) (List.mem_append_left _ (List.mem_map_of_mem hu)) y (.tail _ hy),k'.2.1,fun u hu=>i u (List.mem_append_right _ hu),fun v hv=>?_,?_,?_⟩
    · obtain ⟨y,w',rfl,hy⟩:=e2 v hv
      exact ⟨y,w',rfl,by omega⟩
    · rw [s,s2,List.length_cons];omega
    · rw [s,s2,List.length_cons];omega
def Bst (S:List Code) (f:Code→Int) (c:Code):Prop:=c∈S∨∃ c'∈S,f c' < f c
theorem mem_rw {L many low most l1 a:Nat} {C:Nat→List Code} {R:Nat→Nat→List Code} {c r:Code} (h1:low≤l1) (h2:l1 < L) (ha:1≤a) (hm:a≤most) (hc:c∈C a) (hr:r∈bhd R many (l1,a - 1)):ahd l1 c++r∈rw' L C R many low most:=by
  unfold rw'
  refine List.mem_flatMap.mpr ⟨(l1,a - 1),Bk_mem.mpr ⟨h1,h2,by show a - 1 < most;omega⟩,List.mem_flatMap.mpr ⟨c,?_,List.mem_map.mpr ⟨r,hr,rfl⟩⟩⟩
  show c∈C (a - 1+1)
  rw [show a - 1+1=a by omega]
  exact hc
theorem join {ps ws:List Int} {many low most l1 i:Nat} {c r:Code} (h1:low≤l1) (h2:l1 < ps.length) (ha:1≤c.length) (hm:c.length≤most) (hc:Bst (Cs ps.length c.length) (co ps ws i) c) (hr:Bst (bhd (Rs ps.length) many (l1,c.length - 1)) (co ps ws (i+c.length)) r):Bst (rw' ps.length (Cs ps.length) (Rs ps.length) many low most) (co ps ws i) (ahd l1 c++r):=by
  have ap:=fun (c' r':Code) (e:c'.length=c.length)=>(show co ps ws i (ahd l1 c'++r')=pl ps l1 * Wt ws i (i+c.length)+co ps ws i c'+co ps ws (i+c.length) r' from by rw [←e];exact co_app c' i)
  rcases hc with hc | ⟨c',hc,lc⟩
  · rcases hr with hr | ⟨r',hr,lr⟩
    · exact .inl (mem_rw h1 h2 ha hm hc hr)
    · refine .inr ⟨_,mem_rw h1 h2 ha hm hc hr,?_⟩
      rw [ap c r' rfl,ap c r rfl]
      omega
  · have e:=(Cs_gd ha c' hc).ln
    rcases hr with hr | ⟨r',hr,lr⟩
    · refine .inr ⟨_,mem_rw h1 h2 ha hm hc hr,?_⟩
      rw [ap c' r e,ap c r rfl]
      omega
    · refine .inr ⟨_,mem_rw h1 h2 ha hm hc hr,?_⟩
      rw [ap c' r' e,ap c r rfl]
      omega
theorem fr_of {c:Code} (k:KP c) {L:Nat} (i:InL L c) (h:2≤c.length):Fr 0 c:=by
  intro u hu
  cases u with
  | cons x w =>
    exact ⟨x,w,rfl,by have:=(i _ hu x (.head _)).1;omega⟩
  | nil =>
    exfalso
    obtain ⟨j,hj,e⟩:=List.mem_iff_getElem.mp hu
    have kk:=List.pairwise_iff_getElem.mp k
    by_cases z:j=0
    · subst z
      have:=(kk 0 1 hj (by omega) (by omega)).2
      rw [e] at this
      exact this rfl
    · have:=(kk 0 j (by omega) hj (by omega)).1
      rw [e] at this
      cases h0:c[0]'(by omega) with
      | nil=>rw [h0] at this;cases this
      | cons x w=>rw [h0] at this;cases this
theorem best {ps ws:List Int} (bp:Po ps) (bw:Po ws):∀ (d:Nat) (r:Code) (i:Nat),sz r≤d→r≠[]→i+r.length≤ws.length→KP r→InL ps.length r →
    (∀ l,Fr l r→Bst (Rs ps.length r.length l) (co ps ws i) r)∧Bst (Cs ps.length r.length) (co ps ws i) r
  | 0,r,i,hd,ne,hi,k,il=>by
    cases r with
    | nil=>exact absurd rfl ne
    | cons u r=>unfold sz at hd;rw [List.map_cons,List.sum_cons] at hd;omega
  | d+1,r,i,hd,ne,hi,k,il=>by
    have ih:=best bp bw d
    have beh:∀ (l1:Nat) (c r2:Code),r=ahd l1 c++r2→c≠[]→KP r2→InL ps.length r2→Fr (l1+1) r2→sz r2 < sz r→Bst (bhd (Rs ps.length) r.length (l1,c.length - 1)) (co ps ws (i+c.length)) r2:=by
      intro l1 c r2 e nc k2 i2 f2 s2
      have lc:1≤c.length:=by cases c with | nil=>exact absurd rfl nc | cons=>rw [List.length_cons];omega
      have lr:r.length=c.length+r2.length:=by rw [e,List.length_append];unfold ahd;rw [List.length_map]
      unfold bhd
      show Bst (if c.length - 1+1 < r.length then Rs ps.length (r.length - (c.length - 1+1)) (l1+1) else [[]]) _ r2
      rw [show c.length - 1+1=c.length by omega]
      by_cases z:r2=[]
      · subst z
        rw [List.length_nil] at lr
        rw [if_neg (by omega)]
        exact .inl (.head _)
      · have:1≤r2.length:=by cases r2 with | nil=>exact absurd rfl z | cons=>rw [List.length_cons];omega
        rw [if_pos (by omega),show r.length - c.length=r2.length by omega]
        exact (ih r2 (i+c.length) (by omega) z (by omega) k2 i2).1 (l1+1) f2
    refine ⟨fun l f=>?_,?_⟩
    · obtain ⟨l1,c,r2,e,nc,h1,h2,kc,ic,k2,i2,f2,s1,s2⟩:=split k il f ne
      have lc:1≤c.length:=by cases c with | nil=>exact absurd rfl nc | cons=>rw [List.length_cons];omega
      have lr:r.length=c.length+r2.length:=by rw [e,List.length_append];unfold ahd;rw [List.length_map]
      have b:=beh l1 c r2 e nc k2 i2 f2 s2
      rw [Rs_eq (by omega) (by omega)]
      have:=join (ps:=ps) (ws:=ws) (many:=r.length) (low:=l) (most:=r.length) (i:=i) h1 h2 lc (by omega) (ih c i (by omega) nc (by omega) kc ic).2 b
      rw [←e] at this
      exact this
    · by_cases l2:2≤r.length
      · obtain ⟨l1,c,r2,e,nc,h1,h2,kc,ic,k2,i2,f2,s1,s2⟩:=split k il (fr_of k il l2) ne
        have lc:1≤c.length:=by cases c with | nil=>exact absurd rfl nc | cons=>rw [List.length_cons];omega
        have lr:r.length=c.length+r2.length:=by rw [e,List.length_append];unfold ahd;rw [List.length_map]
        by_cases z:r2=[]
        · subst z
          rw [List.length_nil] at lr
          have b:=(ih c i (by omega) nc (by omega) kc ic).2
          have hc:co ps ws i r=pl ps l1 * Wt ws i (i+c.length)+co ps ws i c+co ps ws (i+c.length) []:=by rw [e];exact co_app c i
          rw [co_nil] at hc
          have p1:=pl_pos bp h2
          have p2:=Wt_pos (ws:=ws) (i:=i) (j:=i+c.length) bw (by omega) (by omega)
          have p3:0 < pl ps l1 * Wt ws i (i+c.length):=Int.mul_pos (by omega) (by omega)
          rw [show r.length=c.length by omega]
          rcases b with b | ⟨c',b,lb⟩
          · exact .inr ⟨c,b,by omega⟩
          · exact .inr ⟨c',b,by omega⟩
        · have:1≤r2.length:=by cases r2 with | nil=>exact absurd rfl z | cons=>rw [List.length_cons];omega
          have b:=beh l1 c r2 e nc k2 i2 f2 s2
          rw [Cs_eq (by omega)]
          have:=join (ps:=ps) (ws:=ws) (many:=r.length) (low:=0) (most:=r.length - 1) (i:=i) h1 h2 lc (by omega) (ih c i (by omega) nc (by omega) kc ic).2 b
          rw [←e] at this
          exact this
      · cases r with
        | nil=>exact absurd rfl ne
        | cons u r =>
          have er:r=[]:=by
            cases r with
            | nil=>rfl
            | cons=>exfalso;apply l2;simp
          subst er
          rw [show ([u]:Code).length=1 from rfl,Cs_one]
          cases u with
          | nil=>exact .inl (.head _)
          | cons x u =>
            obtain ⟨x0,x1⟩:=il _ (.head _) x (.head _)
            obtain ⟨l1,rfl⟩:∃ l1:Nat,x=l1:=⟨x.toNat,by omega⟩
            have hc:co ps ws i [(l1:Int) :: u]=pl ps l1 * Wt ws i (i+1)+co ps ws i [u]+co ps ws (i+1) []:=co_app (l:=l1) (r:=[]) [u] i
            rw [co_nil] at hc
            have hi:i+1≤ws.length:=hi
            have p1:=pl_pos (l:=l1) bp (by omega)
            have p2:=Wt_pos (ws:=ws) (i:=i) (j:=i+1) bw (by omega) (by omega)
            have p3:0 < pl ps l1 * Wt ws i (i+1):=Int.mul_pos (by omega) (by omega)
            have b:=(ih [u] i (by unfold sz at *;simp at hd ⊢;omega) (by simp) hi (List.pairwise_singleton _ _) (fun v hv y hy=>by
              rcases List.mem_cons.mp hv with rfl | hv
              · exact il _ (.head _) y (.tail _ hy)
              · cases hv)).2
            rw [show ([u]:Code).length=1 from rfl,Cs_one] at b
            rcases b with b | ⟨c',b,lb⟩
            · have:([u]:Code)=[[]]:=by simpa using b
              exact .inr ⟨[[]],.head _,by rw [←this];omega⟩
            · exact .inr ⟨c',b,by omega⟩
theorem rw_kp {L many low most:Nat} {C:Nat→List Code} {R:Nat→Nat→List Code} (hC:∀ k,1≤k→k≤most→∀ c∈C k,KP c) (hR:∀ k l,1≤k→k < many→∀ r∈R k l,KP r∧Fr l r):∀ c∈rw' L C R many low most,KP c∧Fr low c:=by
  intro c hc
  unfold rw' at hc
  obtain ⟨q,hq,hc⟩:=List.mem_flatMap.mp hc
  obtain ⟨c1,hc1,hc⟩:=List.mem_flatMap.mp hc
  obtain ⟨r,hr,rfl⟩:=List.mem_map.mp hc
  obtain ⟨q1,q2,q3⟩:=Bk_mem.mp hq
  have k1:=hC (q.2+1) (by omega) (by omega) c1 hc1
  have k2:KP r∧Fr (q.1+1) r:=by
    unfold bhd at hr
    split at hr
    · exact hR _ _ (by omega) (by omega) r hr
    · have:r=[]:=by simpa using hr
      subst this
      exact ⟨List.Pairwise.nil,fun u hu=>by cases hu⟩
  refine ⟨List.pairwise_append.mpr ⟨kp_ahd.mpr k1,k2.1,fun u hu v hv=>?_⟩,fun u hu=>?_⟩
  · obtain ⟨u',_,rfl⟩:=List.mem_map.mp hu
    obtain ⟨y,w,rfl,hy⟩:=k2.2 v hv
    exact af_lt (by omega)
  · rcases List.mem_append.mp hu with hu | hu
    · obtain ⟨u',_,rfl⟩:=List.mem_map.mp hu
      exact ⟨_,_,rfl,by omega⟩
    · obtain ⟨y,w,rfl,hy⟩:=k2.2 u hu
      exact ⟨_,_,rfl,by omega⟩
theorem all_kp {L:Nat}:∀ d m,m≤d→1≤m→(∀ c∈Cs L m,KP c)∧∀ l,∀ r∈Rs L m l,KP r∧Fr l r
  | 0,m,h,h1=>by omega
  | d+1,m,h,h1=>by
    have ih:=all_kp (L:=L) d
    have hc:∀ c∈Cs L m,KP c:=by
      by_cases e:m=1
      · subst e
        intro c hc
        rw [Cs_one] at hc
        have:c=[[]]:=by simpa using hc
        subst this
        exact List.pairwise_singleton _ _
      · rw [Cs_eq (by omega)]
        intro c hc
        exact (rw_kp (fun k a b=>(ih k (by omega) a).1) (fun k l a b=>(ih k (by omega) a).2 l) c hc).1
    refine ⟨hc,fun l r hr=>?_⟩
    by_cases hl:l < L
    · rw [Rs_eq h1 hl] at hr
      refine rw_kp (fun k a b=>?_) (fun k l a b=>(ih k (by omega) a).2 l) r hr
      by_cases e:k=m
      · subst e;exact hc
      · exact (ih k (by omega) a).1
    · rw [Rs_end hl] at hr
      cases hr
theorem Cs_kp {L m:Nat} (h:1≤m):∀ c∈Cs L m,KP c:=(all_kp m m (Nat.le_refl _) h).1
theorem Rs_kp {L m l:Nat} (h:1≤m):∀ c∈Rs L m l,KP c∧Fr l c:=(all_kp m m (Nat.le_refl _) h).2 l
end CT
end K53
set_option Elab.async false
set_option linter.all false
set_option maxRecDepth 100000
namespace K53
open PySem L2
namespace Kp
theorem hu0 {A:Around} {k:Nat} (hr:Room k A):A.units < cLine:=by have:=hr.units;omega
abbrev rowO (F:Nat→Nat→OI) (n i:Nat):List OI:=(List.range (n - i)).map fun b=>F i (i+b+1)
theorem op_ltK {X:Cx} (K:PySem.W.Frag) (hu:X.A.units < cLine) (h:X.K=K:=by rfl):OpR X (compareOp .Lt) (rLtT K):=by subst h;exact op_ltT hu
section
variable {P':Program} {w:World} {K:PySem.W.Frag} {mg:Str→Option Value} {base:Heap} {f:Addr} {fd:FuncData}
def spBegins:Sp:=fun vs H Q _=>∃ (a b:Addr) (u v':List Int),vs=[.ref a,.ref b]∧TW H a u∧TW H b v'∧∀ H',Same H H'→Q (.bl (decide (v'.take u.length=u))) H'
theorem scBegins:FnScope ["one","other"] ["one","other"] (defScope sBegins):=⟨rfl,rfl,rfl,by decide +kernel,rfl,by decide +kernel,by decide +kernel⟩
theorem ok_begins (F:Fun K "begins" "begins" sBegins f fd) (ml:mg "len"=none):FnOk P' w K mg base CX0 1 f fd ["one","other"] spBegins:=by
  refine F.ok (k:=0) scBegins (fun vs H Q E h=>?_) (fun cdv A outer s H vs Q E hr h=>?_)
  · obtain ⟨a,b,u,v',rfl,_⟩:=h
    rfl
  obtain ⟨a,b,u,v',rfl,ha,hb,q⟩:=h
  refine ⟨_,pss_one (ps_ret (pe_cmpR (op_eqTI (hu4 hr)) (pe_slice sl_tupG (pv 1) po_none (po_some (pe_callB call_len_seq (by rfl) ml PySem.boot_len (pa_cons (pv 0) (pa_nil))))) (pv 0) (nomark _))),?_⟩
  refine ⟨_,rfl,_,rfl,a,_,rfl,.inr (SqT.of ha),_,rfl,b,_,rfl,hb,fun p1 H1 s1 h1=>?_⟩
  rw [List.length_map,cut_to,←List.map_take] at h1
  exact ⟨_,rfl,_,_,rtup_ints h1,rtup_ints (s1 _ _ ha),q _ s1⟩
def Apt (c:CT.Code):Prop:=∀ (i j:Nat) u v',i < j→c[i]?=some u→c[j]?=some v'→v'.take u.length≠u∧u.take v'.length≠v'
abbrev NCc:List Str:=["code","one","other"]
def spClash:Sp:=fun vs H Q _=>∃ (a:Addr) (xs:List V) (c:CT.Code),vs=[.ref a]∧H a=some (.tup xs)∧Ws H xs c∧c.length≤100∧∀ H' y,Same H H'→(Apt c→y=.non)→(¬ Apt c→∃ t,y=.ref t)→Q y H'
theorem scClash:FnScope NCc ["code"] (defScope sClash):=⟨rfl,rfl,rfl,by decide +kernel,rfl,by decide +kernel,by decide +kernel⟩
set_option maxHeartbeats 4000000 in
theorem ok_clash (F:Fun K "clash" "clash" sClash f fd) (GB:Fns P' w K mg base ["one","other"] "begins" spBegins 1) (ml:mg "len"=none) (mr:mg "range"=none):FnOk P' w K mg base CX0 2 f fd ["code"] spClash:=by
  refine F.ok (k:=1) scClash (fun vs H Q E h=>?_) (fun cdv A outer s H vs Q E hr h=>?_)
  · obtain ⟨a,xs,c,rfl,_⟩:=h
    rfl
  obtain ⟨a,xs,c,rfl,ha,hx,lc,q⟩:=h
  have lx:xs.length=c.length:=hx.length
  refine ⟨_,pss_cons (ps_for PassesOwn.never rfl (pi_range1 (by rfl) mr (pa_cons (pe_callB call_len_seq (by rfl) ml PySem.boot_len (pa_cons (pv 0) (pa_nil))) (pa_nil))) (pg_name (i:=1) scClash.nd rfl (Or.inl rfl)) (pss_one (ps_for PassesOwn.never rfl (pi_range2 (by rfl) mr (pa_cons (pe_op op_add (pv 1) (pe_int)) (pa_cons (pe_callB call_len_seq (by rfl) ml PySem.boot_len (pa_cons (pv 0) (pa_nil))) (pa_nil)))) (pg_name (i:=2) scClash.nd rfl (Or.inl rfl)) (pss_one (ps_if (PW.pt (pw_or (pt_val (pe_call GB.ok hr (by rfl) GB.m GB.kp GB.b .nil pass0 (pa_cons (pe_ix ix_tup (pv 0) (pv 1) (fun _ _=>rfl)) (pa_cons (pe_ix ix_tup (pv 0) (pv 2) (fun _ _=>rfl)) (pa_nil))))) (pw_or1 (pt_val (pe_call GB.ok hr (by rfl) GB.m GB.kp GB.b .nil pass0 (pa_cons (pe_ix ix_tup (pv 0) (pv 2) (fun _ _=>rfl)) (pa_cons (pe_ix ix_tup (pv 0) (pv 1) (fun _ _=>rfl)) (pa_nil)))))))) (pss_one (ps_ret (pe_tup (pa_cons (pv 1) (pa_cons (pv 2) pa_nil))))) (pss_nil))))))
      (pss_one (ps_ret (pe_non))),?_⟩
  refine ⟨_,rfl,a,_,rfl,.inr (SqT.of ha),_,rfl,by omega,by omega,?_⟩
  rw [Int.toNat_natCast]
  refine for_range (fun i σ H'=>Same H H'∧(∀ (i' j':Nat) u v',i' < i→i' < j'→c[i']?=some u→c[j']?=some v'→v'.take u.length≠u∧u.take v'.length≠v')∧∃ x1 x2:Option V,σ=[some (.ref a),x1,x2]) ⟨Same.refl _,fun i' j' u v' h=>absurd h (Nat.not_lt_zero _),_,_,rfl⟩ (fun i σ H1 hi hP=>?_) (fun σ H1 hP=>?_)
  rotate_left
  · obtain ⟨s1,al,x1,x2,rfl⟩:=hP
    exact q _ _ s1 (fun _=>rfl) fun z=>absurd (fun i j u v' hij hu hv=>al i j u v' (by have:=(List.getElem?_eq_some_iff.mp hu).1;omega) hij hu hv) z
  obtain ⟨s1,al,x1,x2,rfl⟩:=hP
  rw [show (0:Int)+(i:Int)=(i:Int) from Int.zero_add _]
  refine ⟨_,rfl,_,_,rfl,rfl,_,rfl,a,_,rfl,.inr (SqT.of (s1 _ _ ha)),_,_,rfl,⟨by omega,by omega,by omega,by omega⟩,?_⟩
  refine for_range (fun k σ H'=>Same H H'∧(∀ (j':Nat) u v',i < j'→j' < i+1+k→c[i]?=some u→c[j']?=some v'→v'.take u.length≠u∧u.take v'.length≠v')∧∃ x2:Option V,σ=[some (.ref a),some (.int (i:Int)),x2]) ⟨s1,fun j' u v' h1 h2=>by omega,_,rfl⟩ (fun k σ H2 hk hP=>?_) (fun σ H2 hP=>?_)
  rotate_left
  · obtain ⟨s2,al2,x2,rfl⟩:=hP
    refine ⟨s2,fun i' j' u v' h1 h2 hu hv=>?_,_,_,rfl⟩
    by_cases z:i'=i
    · subst z
      exact al2 j' u v' h2 (by have:=(List.getElem?_eq_some_iff.mp hv).1;omega) hu hv
    · exact al i' j' u v' (by omega) h2 hu hv
  obtain ⟨s2,al2,x2,rfl⟩:=hP
  obtain ⟨j,ej⟩:∃ j,j=i+1+k:=⟨_,rfl⟩
  have ek:(i:Int)+1+(k:Int)=(j:Int):=by omega
  rw [ek]
  have hj:j < xs.length:=by omega
  have hi':i < xs.length:=by omega
  have xi:xs[i]?=some xs[i]:=List.getElem?_eq_getElem hi'
  have xj:xs[j]?=some xs[j]:=List.getElem?_eq_getElem hj
  obtain ⟨u,hu,ru⟩:=Paired.right_of hx i _ xi
  obtain ⟨v',hv,rv⟩:=Paired.right_of hx j _ xj
  obtain ⟨ua,eu,hua⟩:=Wd.ti ru
  obtain ⟨va,ev,hva⟩:=Wd.ti rv
  rw [eu] at xi
  rw [ev] at xj
  have ha2:=s2 _ _ ha
  refine ⟨_,rfl,_,rfl,a,_,_,_,rfl,rfl,SqT.of ha2,atI_nat xi,_,rfl,_,rfl,a,_,_,_,rfl,rfl,SqT.of ha2,atI_nat xj,ua,va,u,v',rfl,s2 _ _ hua,s2 _ _ hva,fun H3 s3=>?_⟩
  have no:∀ H5,Same H H5→(v'.take u.length=u∨u.take v'.length=v')→2≤sizeLine∧∀ t,H5 t=none→Q (.ref t) (upd H5 t (.tup [.int (i:Int),.int (j:Int)])):=fun H5 s5 bad=>⟨by decide,fun t ht=>q _ _ (s5.trans (same_newO ht _)) (fun z=>by
    obtain ⟨z1,z2⟩:=z i j u v' (by omega) hu hv
    rcases bad with w | w
    · exact absurd w z1
    · exact absurd w z2) fun _=>⟨t,rfl⟩⟩
  refine ⟨_,rfl,?_⟩
  refine ite2 (fun y=>?_) (fun y=>?_)
  · exact iteT ⟨_,rfl,_,rfl,no H3 (s2.trans s3) (.inl (of_decide_eq_true y))⟩
  have p1:v'.take u.length≠u:=fun z=>y (decide_eq_true z)
  have ha3:=s3 _ _ ha2
  have s23:=s2.trans s3
  refine ⟨_,rfl,_,rfl,a,_,_,_,rfl,rfl,SqT.of ha3,atI_nat xj,_,rfl,_,rfl,a,_,_,_,rfl,rfl,SqT.of ha3,atI_nat xi,va,ua,v',u,rfl,s23 _ _ hva,s23 _ _ hua,fun H4 s4=>?_⟩
  refine ⟨_,rfl,?_⟩
  refine ite2 (fun y=>?_) (fun y=>?_)
  · exact ⟨_,rfl,_,rfl,no H4 (s23.trans s4) (.inr (of_decide_eq_true y))⟩
  have p2:u.take v'.length≠v':=fun z=>y (decide_eq_true z)
  refine ⟨s23.trans s4,fun j' u' v2 h1 h2 hu' hv'=>?_,_,rfl⟩
  by_cases z:j'=j
  · subst z
    rw [hu] at hu'
    rw [hv] at hv'
    cases hu'
    cases hv'
    exact ⟨p1,p2⟩
  · exact al2 j' u' v2 h1 (by omega) hu' hv'
def risL (ws:List (List Int)):List Bool:=(List.range (ws.length - 1)).map fun i=>HT.lexLt (ws.getD i []) (ws.getD (i+1) [])
def rises (ws:List (List Int)):Bool:=(risL ws).all id
def spRises:Sp:=fun vs H Q _=>∃ c xs ws,vs=[.ref c]∧H c=some (.tup xs)∧Ws H xs ws∧ws.length≤100∧∀ H',Same H H'→Q (.bl (rises ws)) H'
theorem scRises:FnScope ["code"] ["code"] (defScope sRises):=⟨rfl,rfl,rfl,by decide +kernel,rfl,by decide +kernel,by decide +kernel⟩
theorem ndT:(("thing":Str) :: ["code"]).Nodup:=by decide +kernel
theorem ok_rises (F:Fun K "rises" "rises" sRises f fd) (ml:mg "len"=none) (mr:mg "range"=none) (ma:mg "all"=none):FnOk P' w K mg base CX0 1 f fd ["code"] spRises:=by
  refine F.ok (k:=0) scRises (fun vs H Q E h=>?_) (fun cdv A outer s H vs Q E hr h=>?_)
  · obtain ⟨c,xs,ws,rfl,_⟩:=h
    rfl
  obtain ⟨c,xs,ws,rfl,hc,hw,l1,q⟩:=h
  have lx:xs.length=ws.length:=hw.length
  refine ⟨_,pss_one (ps_ret (pe_callB (call_all rfl) (by rfl) ma b_all (pa_cons (pe_compR1 (M:=["code"]) rfl (CompScope.of (defScope sRises) ["code"] rfl rfl rfl (by decide +kernel) (by decide +kernel) (by decide +kernel) rfl (by decide +kernel)) ndT rfl (by rfl) mr
    (pa_cons (pe_op op_sub (pe_callB call_len_seq (by rfl) ml PySem.boot_len (pa_cons (pv 0) pa_nil)) pe_int) pa_nil) (mo_cons (mo_op mo_rI0 (mo_len (mo_cons mo_var mo_nil)) mo_c) mo_nil)
    (fun cl C s0 H0 fp=>⟨pts_nil,pe_cmpR (op_ltK K (hu0 hr)) (pe_ix (ixT K) (pv 1) (pv 0) (fun _ _=>rfl)) (pe_ix (ixT K) (pv 1) (pe_op op_add (pv 0) pe_int) (fun _ _=>rfl)) (nomark _)⟩)) pa_nil))),?_⟩
  refine ⟨_,rfl,c,_,rfl,.inr (SqT.of hc),_,_,rfl,rfl,_,rfl,by omega,by omega,fun d hd=>?_⟩
  have en:((xs.length:Int) - 1).toNat=ws.length - 1:=by omega
  dsimp only
  rw [en]
  refine ⟨fun i H'=>Same H H'∧H' d=some (.lst (((risL ws).take i).map V.bl)),⟨same_newO hd _,upd_same⟩,fun i H' hi hP=>?_,fun H' hP=>?_⟩
  · obtain ⟨sm,hd'⟩:=hP
    have e0:(0:Int)+(i:Int)=((i:Nat):Int):=by omega
    have e1:((i:Nat):Int)+1=((i+1:Nat):Int):=by omega
    have u1:ws[i]?=some ws[i]:=List.getElem?_eq_getElem (by omega)
    have u2:ws[i+1]?=some ws[i+1]:=List.getElem?_eq_getElem (by omega)
    obtain ⟨y1,hy1,r1⟩:=L2.Paired.left_of hw _ _ u1
    obtain ⟨y2,hy2,r2⟩:=L2.Paired.left_of hw _ _ u2
    obtain ⟨a1,rfl,t1⟩:=Wd.ti r1
    obtain ⟨a2,rfl,t2⟩:=Wd.ti r2
    rw [e0]
    refine turn_all ⟨_,rfl,_,rfl,c,_,_,_,rfl,rfl,SqT.of (sm _ _ hc),at_nat hy1,_,rfl,_,rfl,_,_,rfl,rfl,c,_,_,_,rfl,rfl,SqT.of (sm _ _ hc),(by rw [e1];exact at_nat hy2),a1,a2,_,_,rfl,rfl,SqT.of (sm _ _ t1),SqT.of (sm _ _ t2),_,hd',?_,same_upd hd sm,?_⟩
    · rw [List.length_map,List.length_take];exact small1000 (by omega)
    · have ri:(risL ws)[i]?=some (HT.lexLt ws[i] ws[i+1]):=by
        unfold risL
        rw [List.getElem?_map,List.getElem?_range hi]
        simp [List.getD_eq_getElem?_getD,u1,u2]
      rw [upd_same,List.take_add_one,ri,List.map_append]
      rfl
  · obtain ⟨sm,hd'⟩:=hP
    rw [List.take_of_length_le (by unfold risL;simp)] at hd'
    exact ⟨d,_,rfl,hd',q H' sm⟩
end
theorem lexLt_tr:∀ u v w:List Int,HT.lexLt u v=true→HT.lexLt v w=true→HT.lexLt u w=true
  | [],[],w,h,_=>by cases h
  | [],_ :: _,[],_,h=>by cases h
  | [],_ :: _,_ :: _,_,_=>rfl
  | _ :: _,[],w,h,_=>by cases h
  | _ :: _,_ :: _,[],_,h=>by cases h
  | x :: u,y :: v,z :: w,h1,h2=>by
    rw [HT.lexLt_cons] at h1 h2 ⊢
    by_cases e1:x=y
    · subst e1
      rw [if_pos rfl] at h1
      by_cases e2:x=z
      · subst e2
        rw [if_pos rfl] at h2 ⊢
        exact lexLt_tr u v w h1 h2
      · rw [if_neg e2] at h2 ⊢;exact h2
    · rw [if_neg e1] at h1
      have l1:=of_decide_eq_true h1
      by_cases e2:y=z
      · subst e2
        rw [if_neg e1];exact h1
      · rw [if_neg e2] at h2
        have l2:=of_decide_eq_true h2
        rw [if_neg (by omega)]
        exact decide_eq_true (by omega)
theorem lexLt_pre:∀ u w:List Int,u.take w.length=w→HT.lexLt u w=false
  | [],[],_=>rfl
  | [],_ :: _,h=>by cases h
  | _ :: _,[],_=>rfl
  | x :: u,y :: w,h=>by
    rw [List.length_cons,List.take_succ_cons] at h
    injection h with h1 h2
    rw [HT.lexLt_cons,if_pos h1]
    exact lexLt_pre u w h2
theorem lexLt_btw:∀ u v w:List Int,HT.lexLt u v=true→HT.lexLt v w=true→w.take u.length=u→v.take u.length=u
  | [],v,w,_,_,_=>by rw [List.length_nil,List.take_zero]
  | _ :: _,[],w,h,_,_=>by cases h
  | _ :: _,_ :: _,[],_,h,_=>by cases h
  | x :: u,y :: v,z :: w,h1,h2,h=>by
    rw [List.length_cons,List.take_succ_cons] at h
    injection h with e h
    subst e
    rw [HT.lexLt_cons] at h1 h2
    by_cases e1:z=y
    · subst e1
      rw [if_pos rfl] at h1 h2
      rw [List.length_cons,List.take_succ_cons,lexLt_btw u v w h1 h2 h]
    · rw [if_neg e1] at h1
      rw [if_neg (Ne.symm e1)] at h2
      have:=of_decide_eq_true h1
      have:=of_decide_eq_true h2
      omega
def Kadj (c:CT.Code):Prop:=∀ (k:Nat) u v',c[k]?=some u→c[k+1]?=some v'→HT.lexLt u v'=true∧v'.take u.length≠u
theorem rises_iff {c:CT.Code}:rises c=true↔∀ (k:Nat) u v',c[k]?=some u→c[k+1]?=some v'→HT.lexLt u v'=true:=by
  unfold rises risL
  rw [List.all_eq_true]
  constructor
  · intro h k u v' hu hv
    have l:=(List.getElem?_eq_some_iff.mp hv).1
    have:=h _ (List.mem_map.mpr ⟨k,List.mem_range.mpr (by omega),rfl⟩)
    rw [List.getD_eq_getElem?_getD,List.getD_eq_getElem?_getD,hu,hv] at this
    exact this
  · intro h b hb
    obtain ⟨k,hk,rfl⟩:=List.mem_map.mp hb
    have hk:=List.mem_range.mp hk
    have h1:c[k]?=some (c[k]'(by omega)):=List.getElem?_eq_getElem _
    have h2:c[k+1]?=some (c[k+1]'(by omega)):=List.getElem?_eq_getElem _
    show HT.lexLt (c.getD k []) (c.getD (k+1) [])=true
    rw [List.getD_eq_getElem?_getD,List.getD_eq_getElem?_getD,h1,h2]
    exact h k _ _ h1 h2
theorem adj_lt {c:CT.Code} (h:Kadj c):∀ (d i:Nat) u v',c[i]?=some u→c[i+d+1]?=some v'→HT.lexLt u v'=true∧v'.take u.length≠u
  | 0,i,u,v',hu,hv=>h i u v' hu hv
  | d+1,i,u,v',hu,hv=>by
    have l:=(List.getElem?_eq_some_iff.mp hv).1
    have hm:c[i+d+1]?=some (c[i+d+1]'(by omega)):=List.getElem?_eq_getElem _
    obtain ⟨a1,a2⟩:=adj_lt h d i u _ hu hm
    obtain ⟨b1,b2⟩:=h (i+d+1) _ v' hm hv
    exact ⟨lexLt_tr _ _ _ a1 b1,fun z=>a2 (lexLt_btw _ _ _ a1 b1 z)⟩
theorem kadj_iff {c:CT.Code}:Kadj c↔rises c=true∧Apt c:=by
  constructor
  · intro h
    refine ⟨rises_iff.mpr fun k u v' hu hv=>(h k u v' hu hv).1,fun i j u v' hij hu hv=>?_⟩
    obtain ⟨h1,h2⟩:=adj_lt h (j - i - 1) i u v' hu (by rw [show i+(j - i - 1)+1=j by omega];exact hv)
    refine ⟨h2,fun z=>?_⟩
    rw [lexLt_pre u v' z] at h1
    cases h1
  · rintro ⟨h1,h2⟩ k u v' hu hv
    exact ⟨rises_iff.mp h1 k u v' hu hv,(h2 k (k+1) u v' (by omega) hu hv).1⟩
theorem last_O {F:Nat→Nat→OI} {n:Nat} (hn:1≤n):atI ((rowO F n 0).map oV) (-1)=some (oV (F 0 n)):=by
  have hr0:rowO F n 0=(List.range (n - 1)).map (fun b=>F 0 (0+b+1))++[F 0 n]:=by
    show (List.range (n - 0)).map _=_
    rw [show n - 0=(n - 1)+1 by omega,List.range_succ,List.map_append]
    show _++[F 0 (0+(n - 1)+1)]=_
    rw [show 0+(n - 1)+1=n by omega]
  rw [hr0,List.map_append]
  exact atI_last _ _
section
variable {P':Program} {w:World} {K:PySem.W.Frag} {mg:Str→Option Value} {base:Heap} {f:Addr} {fd:FuncData}
def spKept:Sp:=fun vs H Q _=>∃ (a:Addr) (xs:List V) (c:CT.Code),vs=[.ref a]∧H a=some (.tup xs)∧Ws H xs c∧c.length≤100∧∀ H' b,Same H H'→(b=true↔Kadj c)→Q (.bl b) H'
theorem scKept:FnScope ["code"] ["code"] (defScope sIsKept):=⟨rfl,rfl,rfl,by decide +kernel,rfl,by decide +kernel,by decide +kernel⟩
theorem ok_kept (F:Fun K "is_kept" "is_kept" sIsKept f fd) (GI:Fns P' w K mg base ["code"] "rises" spRises 2) (GC:Fns P' w K mg base ["code"] "clash" spClash 2):FnOk P' w K mg base CX0 3 f fd ["code"] spKept:=by
  refine F.ok (k:=2) scKept (fun vs H Q E h=>?_) (fun cdv A outer s H vs Q E hr h=>?_)
  · obtain ⟨c,xs,ws,rfl,_⟩:=h
    rfl
  obtain ⟨c,xs,ws,rfl,hc,hw,l1,q⟩:=h
  refine ⟨_,pss_one (ps_ret (pe_and (pe_call GI.ok hr (by rfl) GI.m GI.kp GI.b .nil pass0 (pa_cons (pv 0) pa_nil)) (pe_one (pe_cmp (pc_isN (pe_call GC.ok hr (by rfl) GC.m GC.kp GC.b .nil pass0 (pa_cons (pv 0) pa_nil))))))),?_⟩
  refine ⟨_,rfl,c,xs,ws,rfl,hc,hw,l1,fun H1 s1=>⟨_,rfl,?_⟩⟩
  refine ite2 (fun y=>?_) (fun y=>?_)
  · refine ⟨_,rfl,c,xs,ws,rfl,s1 _ _ hc,Ws.same s1 hw,l1,fun H2 v s2 h1 h2=>?_⟩
    by_cases ap:Apt ws
    · rw [h1 ap]
      exact q H2 true (s1.trans s2) ⟨fun _=>kadj_iff.mpr ⟨y,ap⟩,fun _=>rfl⟩
    · obtain ⟨t,rfl⟩:=h2 ap
      exact q H2 false (s1.trans s2) ⟨(fun z=>by cases z),fun z=>absurd (kadj_iff.mp z).2 ap⟩
  · refine q H1 _ s1 ⟨(fun z=>by first | cases z | exact absurd z y),fun z=>absurd (kadj_iff.mp z).1 y⟩
end
end Kp
end K53
set_option Elab.async false
set_option linter.all false
set_option maxRecDepth 100000
namespace K53
open PySem L2
section
variable {P:Program} {w:World} {K:PySem.W.Frag} {mg:Str→Option Value} {base:Heap} {f:Addr} {fd:FuncData}
def spCell (K:PySem.W.Frag):Sp:=fun vs H Q _=>∃ (a:Addr) (ns:List Int) (k:Int),vs=[.ref a,.int k]∧SqL K H a (ns.map V.int)∧0≤k∧k≤1000∧∀ i,0≤i→Q (.int i) H
theorem scCell:FnScope ["script","k","near"] ["script","k"] (defScope sCell):=⟨rfl,rfl,rfl,by decide +kernel,rfl,by decide +kernel,by decide +kernel⟩
theorem e60:(0:Int) < (10:Int) ^ (60:Int).toNat:=by decide
theorem ok_cell (F:Fun K "_law_cell" "_law_cell" sCell f fd) (ml:mg "len"=none):FnOk P w K mg base CX0 1 f fd ["script","k"] (spCell K):=by
  refine F.ok (k:=0) scCell (fun vs H Q E h=>?_) (fun cdv A outer s H vs Q E hr h=>?_)
  · obtain ⟨a,ns,k,rfl,_⟩:=h
    rfl
  obtain ⟨a,ns,k,rfl,hS,h0,h1,q⟩:=h
  refine ⟨_,pss_cons (ps_if (pt_cmpR op_lt (pv 1) (pe_callB call_len_seq (by rfl) ml PySem.boot_len (pa_cons (pv 0) pa_nil)) (nomark _)) (pss_one (ps_ret (pe_op op_mod (pe_ix ix_list (pv 0) (pv 1) (fun _ _=>rfl)) (pe_op op_pow pe_int pe_int)))) pss_nil)
    (pss_cons (ps_set (i:=2) scCell.nd rfl (Or.inl rfl) pe_int)
    (pss_cons (ps_mid (ps_if (pt_cmpR op_gt (pe_callB call_len_seq (by rfl) ml PySem.boot_len (pa_cons (pv 0) pa_nil)) pe_int (nomark _)) (pss_one (ps_set (i:=2) scCell.nd rfl (Or.inl rfl) (pe_op op_mod (pe_ix ix_list (pv 0) pe_int (fun _ _=>rfl)) (pe_op op_pow pe_int pe_int)))) pss_nil))
    (pss_cons (ps_set (i:=2) scCell.nd rfl (Or.inl rfl) (pe_op op_mod (pe_op op_add (pe_op op_add (pv 2) (pe_op op_mul pe_int (pv 1))) pe_int) pe_int))
    (pss_cons (ps_set (i:=2) scCell.nd rfl (Or.inl rfl) (pe_op op_mod (pe_op op_mulB (pv 2) (pv 2)) pe_int))
    (pss_cons (ps_set (i:=2) scCell.nd rfl (Or.inl rfl) (pe_op op_mod (pe_op op_mul (pe_op op_add (pv 2) (pe_op op_mul pe_int (pv 1))) pe_int) pe_int))
    (pss_one (ps_ret (pe_op op_fdiv (pe_op op_mod (pe_op op_mulB (pv 2) (pv 2)) pe_int) pe_int)))))))),?_⟩
  refine ⟨_,rfl,_,rfl,a,_,rfl,.inl hS,_,_,rfl,rfl,_,rfl,?_⟩
  refine ite2 (fun c=>?_) (fun c=>?_)
  · have c1:k < ((ns.map V.int).length:Int):=of_decide_eq_true c
    obtain ⟨n,rfl⟩:∃ n:Nat,k=n:=⟨k.toNat,by omega⟩
    have hn:n < ns.length:=by rw [List.length_map] at c1;omega
    exact ⟨_,rfl,_,rfl,a,_,_,_,rfl,rfl,hS,at_int (List.getElem?_eq_getElem hn),_,_,rfl,rfl,⟨by decide,by decide,by decide⟩,_,_,rfl,rfl,e60,q _ (Int.emod_nonneg _ (Int.ne_of_gt e60))⟩
  refine ⟨fun σ' H'=>H'=H∧∃ n:Int,σ'=[some (.ref a),some (.int k),some (.int n)],?_,?_⟩
  · refine ⟨_,rfl,a,_,rfl,.inl hS,_,_,rfl,rfl,_,rfl,?_⟩
    refine ite2 (fun d=>?_) (fun d=>⟨rfl,_,rfl⟩)
    have d1:((ns.map V.int).length:Int) > 0:=of_decide_eq_true d
    have hn:0 < ns.length:=by rw [List.length_map] at d1;omega
    exact ⟨_,rfl,a,_,_,_,rfl,rfl,hS,at_int (k:=0) (List.getElem?_eq_getElem hn),_,_,rfl,rfl,⟨by decide,by decide,by decide⟩,_,_,rfl,rfl,e60,rfl,_,rfl⟩
  rintro σ' H' ⟨rfl,n,rfl⟩
  refine ⟨_,rfl,_,rfl,_,_,rfl,rfl,.inl ⟨by decide,by decide⟩,_,_,rfl,rfl,_,_,rfl,rfl,_,_,rfl,rfl,(by show (0:Int) < _;decide),?_⟩
  dsimp only
  have n0:0≤(n+104729 * k+17) % 618970019642690137449562111:=Int.emod_nonneg _ (by decide)
  have n1:(n+104729 * k+17) % 618970019642690137449562111 < 618970019642690137449562111:=Int.emod_lt_of_pos _ (by decide)
  generalize (n+104729 * k+17) % 618970019642690137449562111=n' at n0 n1 ⊢
  refine ⟨_,rfl,_,rfl,_,_,rfl,rfl,⟨⟨n0,by unfold B30;omega⟩,⟨n0,by unfold B30;omega⟩⟩,_,_,rfl,rfl,(by show (0:Int) < _;decide),?_⟩
  dsimp only
  generalize n' * n' % 618970019642690137449562111=n2
  refine ⟨_,rfl,_,rfl,_,_,rfl,rfl,.inl ⟨by decide,by decide⟩,_,_,rfl,rfl,_,_,rfl,rfl,.inr ⟨by decide,by decide⟩,_,_,rfl,rfl,(by show (0:Int) < _;decide),?_⟩
  dsimp only
  have m0:0≤(n2+7919 * k) * 48271 % 2305843009213693951:=Int.emod_nonneg _ (by decide)
  have m1:(n2+7919 * k) * 48271 % 2305843009213693951 < 2305843009213693951:=Int.emod_lt_of_pos _ (by decide)
  generalize (n2+7919 * k) * 48271 % 2305843009213693951=m at m0 m1 ⊢
  refine ⟨_,rfl,_,rfl,_,_,rfl,rfl,⟨⟨m0,by unfold B30;omega⟩,⟨m0,by unfold B30;omega⟩⟩,_,_,rfl,rfl,(by show (0:Int) < _;decide),_,_,rfl,rfl,⟨by decide,by decide⟩,q _ ?_⟩
  have z:0≤m * m % 2305843009213693951:=Int.emod_nonneg _ (by decide)
  omega
def spNumber:Sp:=fun vs H Q _=>∃ c i:Int,vs=[.int c,.int i]∧0≤i∧i < 4∧∀ v H',Same H H'→1≤v→v≤B30→Q (.int v) H'
theorem scNumber:FnScope ["cell","way"] ["cell","way"] (defScope sNumber):=⟨rfl,rfl,rfl,by decide +kernel,rfl,by decide +kernel,by decide +kernel⟩
theorem four {a b c d i:Int} (i0:0≤i) (i1:i < 4) (ha:1≤a∧a≤B30) (hb:1≤b∧b≤B30) (hc:1≤c∧c≤B30) (hd:1≤d∧d≤B30):∃ v,atI [V.int a,.int b,.int c,.int d] i=some (.int v)∧1≤v∧v≤B30:=by
  have h:i=0∨i=1∨i=2∨i=3:=by omega
  rcases h with h | h | h | h <;> subst h
  · exact ⟨a,rfl,ha⟩
  · exact ⟨b,rfl,hb⟩
  · exact ⟨c,rfl,hc⟩
  · exact ⟨d,rfl,hd⟩
theorem ok_number (F:Fun K "_law_number" "_law_number" sNumber f fd):FnOk P w K mg base CX0 1 f fd ["cell","way"] spNumber:=by
  refine F.ok (k:=0) scNumber (fun vs H Q E h=>?_) (fun cdv A outer s H vs Q E hr h=>?_)
  · obtain ⟨c,i,rfl,_⟩:=h
    rfl
  obtain ⟨c,i,rfl,i0,i1,q⟩:=h
  refine ⟨_,pss_one (ps_ret (pe_ix ix_list (pe_lst (pa_cons (pe_op op_add pe_int (pe_op op_mod (pv 0) (pe_op op_pow pe_int pe_int))) (pa_cons (pe_op op_add pe_int (pe_op op_mod (pv 0) pe_int)) (pa_cons (pe_op op_add pe_int (pe_op op_mod (pv 0) pe_int))
    (pa_cons (pe_op op_sub (pe_op op_pow pe_int pe_int) (pe_op op_mod (pv 0) pe_int)) pa_nil))))) (pv 1) (fun _ _=>rfl))),?_⟩
  refine ⟨_,rfl,_,_,rfl,rfl,⟨by decide,by decide,by decide⟩,_,_,rfl,rfl,(by show (0:Int) < _;decide),_,_,rfl,rfl,?_⟩
  refine ⟨_,rfl,_,_,rfl,rfl,(by show (0:Int) < _;decide),_,_,rfl,rfl,?_⟩
  refine ⟨_,rfl,_,_,rfl,rfl,(by show (0:Int) < _;decide),_,_,rfl,rfl,?_⟩
  refine ⟨_,_,rfl,rfl,⟨by decide,by decide,by decide⟩,_,rfl,_,_,rfl,rfl,(by show (0:Int) < _;decide),_,_,rfl,rfl,(by show 4≤sizeLine;decide),fun l hl=>?_⟩
  have s1:=same_newO hl (.lst [.int (1+c % 10 ^ (30:Int).toNat),.int (1+c % 3),.int (1+c % 50),.int (10 ^ (30:Int).toNat - c % 3)])
  obtain ⟨v,hv,v0,v1⟩:=four (a:=1+c % 10 ^ (30:Int).toNat) (b:=1+c % 3) (c:=1+c % 50) (d:=10 ^ (30:Int).toNat - c % 3) i0 i1 (by rw [e30];unfold B30;omega) (by unfold B30;omega) (by unfold B30;omega) (by rw [e30];unfold B30;omega)
  exact ⟨_,rfl,l,_,_,_,rfl,rfl,SqL.of upd_same,hv,q v _ s1 v0 v1⟩
abbrev NN:List Str:=["script","at","many","way","numbers","k","cell"]
def Bd (ns:List Int):Prop:=∀ x∈ns,1≤x∧x≤B30
def spNumbers (K:PySem.W.Frag):Sp:=fun vs H Q _=>∃ (a:Addr) (ns:List Int) (i m y:Int),vs=[.ref a,.int i,.int m,.int y]∧SqL K H a (ns.map V.int)∧0≤i∧i≤100∧1≤m∧m≤100∧0≤y∧y < 6∧∀ p H' ms,Same H H'→TW H' p ms→(ms.length:Int)=m→Bd ms→Q (.ref p) H'
theorem scNumbers:FnScope NN ["script","at","many","way"] (defScope sNumbers):=⟨rfl,rfl,rfl,by decide +kernel,rfl,by decide +kernel,by decide +kernel⟩
theorem ok_numbers (F:Fun K "_law_numbers" "_law_numbers" sNumbers f fd) (GC:Fns P w K mg base ["script","k"] "_law_cell" (spCell K) 1) (GN:Fns P w K mg base ["cell","way"] "_law_number" spNumber 1) (mr:mg "range"=none) (mt:mg "tuple"=none):FnOk P w K mg base CX0 2 f fd ["script","at","many","way"] (spNumbers K):=by
  refine F.ok (k:=1) scNumbers (fun vs H Q E h=>?_) (fun cdv A outer s H vs Q E hr h=>?_)
  · obtain ⟨a,ns,i,m,y,rfl,_⟩:=h
    rfl
  obtain ⟨a,ns,i,m,y,rfl,hS,i0,i1,m0,m1,y0,y1,q⟩:=h
  refine ⟨_,pss_cons (ps_set (i:=4) scNumbers.nd rfl (Or.inl rfl) (pe_lst pa_nil))
    (pss_cons (ps_for PassesOwn.never rfl (pi_range1 (by rfl) mr (pa_cons (pv 2) pa_nil)) (pg_name (i:=5) scNumbers.nd rfl (Or.inl rfl))
      (pss_cons (ps_set (i:=6) scNumbers.nd rfl (Or.inl rfl) (pe_call GC.ok hr (by rfl) GC.m GC.kp GC.b .nil pass0 (pa_cons (pv 0) (pa_cons (pe_op op_add (pv 1) (pv 5)) pa_nil))))
      (pss_one (ps_if (pt_cmpR op_lt (pv 3) pe_int (nomark _))
        (pss_one (ps_expr (pe_bm PySem.F.plainAttrs_list PySem.F.slot_list_append PySem.F.type_list_append mt_append (pv 4) (pa_cons (pe_call GN.ok hr (by rfl) GN.m GN.kp GN.b .nil pass0 (pa_cons (pv 6) (pa_cons (pv 3) pa_nil))) pa_nil))))
        (pss_one (ps_expr (pe_bm PySem.F.plainAttrs_list PySem.F.slot_list_append PySem.F.type_list_append mt_append (pv 4) (pa_cons (pe_call GN.ok hr (by rfl) GN.m GN.kp GN.b .nil pass0 (pa_cons (pe_op op_fdiv (pv 6) pe_int) (pa_cons (pe_op op_mod (pv 6) pe_int) pa_nil))) pa_nil))))))))
    (pss_cons (ps_mid (ps_if (pt_cmpR op_eq (pv 3) pe_int (nomark _)) (pss_one (ps_set (i:=4) scNumbers.nd rfl (Or.inl rfl) (pe_op op_rep (pe_lst (pa_cons (pe_ix ix_list (pv 4) pe_int (fun _ _=>rfl)) pa_nil)) (pv 2)))) pss_nil))
    (pss_one (ps_ret (pe_callTy call_tuple_of (by rfl) mt b_tuple (pa_cons (pv 4) pa_nil)))))),?_⟩
  refine ⟨(by show 0≤sizeLine;decide),fun l hl=>?_⟩
  have s0:=same_newO hl (.lst [])
  refine ⟨_,rfl,m,rfl,by omega,by omega,?_⟩
  refine for_range (fun j σ H'=>∃ (ms:List Int) (x5 x6:Option V),ms.length=j∧σ=[some (.ref a),some (.int i),some (.int m),some (.int y),some (.ref l),x5,x6]∧H' l=some (.lst (ms.map V.int))∧Same H H'∧Bd ms) ⟨[],none,none,rfl,rfl,upd_same,s0,by intro x hx;cases hx⟩ (fun j σ H1 hj hP=>?_) (fun σ H1 hP=>?_)
  · obtain ⟨ms,x5,x6,lm,rfl,hm,sm,bm⟩:=hP
    have e0:(0:Int)+(j:Int)=((j:Nat):Int):=by omega
    rw [e0]
    refine ⟨_,rfl,_,rfl,_,rfl,_,_,rfl,rfl,a,ns,i+(j:Int),rfl,sm.seq hS,by omega,by omega,fun c c0=>?_⟩
    refine ⟨_,rfl,_,_,rfl,rfl,_,rfl,?_⟩
    have fin:∀ (v:Int) (H2:Hp),Same H1 H2→1≤v→v≤B30→∃ l' xs v',V.ref l=.ref l'∧[V.int v]=[v']∧H2 l'=some (.lst xs)∧xs.length < sizeLine∧∃ (ms:List Int) (x5 x6:Option V),ms.length=j+1∧([some (.ref a),some (.int i),some (.int m),some (.int y),some (.ref l),some (.int (j:Int)),some (.int c)]:St)=[some (.ref a),some (.int i),some (.int m),some (.int y),some (.ref l),x5,x6]∧upd H2 l' (.lst (xs++[v'])) l=some (.lst (ms.map V.int))∧Same H (upd H2 l' (.lst (xs++[v'])))∧Bd ms:=fun v H2 s2 v0 v1=>by
      refine ⟨l,_,_,rfl,rfl,s2 _ _ hm,small1000 (by rw [List.length_map];omega),ms++[v],_,_,by rw [List.length_append,lm];rfl,rfl,by rw [upd_same,List.map_append];rfl,same_upd hl (sm.trans s2),fun x hx=>?_⟩
      rcases List.mem_append.mp hx with z | z
      · exact bm x z
      · rw [List.mem_singleton.mp z];exact ⟨v0,v1⟩
    refine ite2 (fun d=>?_) (fun d=>?_)
    · have d1:y < 4:=of_decide_eq_true d
      exact ⟨_,rfl,.inl ⟨rfl,_,SqL.of hm⟩,_,rfl,_,rfl,c,y,rfl,y0,d1,fin⟩
    · exact ⟨_,rfl,.inl ⟨rfl,_,SqL.of hm⟩,_,rfl,_,_,rfl,rfl,⟨by decide,by decide⟩,_,rfl,_,_,rfl,rfl,(by show (0:Int) < _;decide),c / 4,c % 4,rfl,by omega,by omega,fin⟩
  · obtain ⟨ms,x5,x6,lm,rfl,hm,sm,bm⟩:=hP
    refine ⟨fun σ' H'=>∃ (l':Addr) (ms:List Int),σ'=[some (.ref a),some (.int i),some (.int m),some (.int y),some (.ref l'),x5,x6]∧(ms.length:Int)=m∧H' l'=some (.lst (ms.map V.int))∧Same H H'∧Bd ms,?_,?_⟩
    · refine ⟨_,rfl,rfl,_,rfl,?_⟩
      refine ite2 (fun d=>?_) (fun d=>⟨l,ms,rfl,by omega,hm,sm,bm⟩)
      have l0:0 < ms.length:=by omega
      refine ⟨_,rfl,l,_,_,_,rfl,rfl,SqL.of hm,at_int (k:=0) (List.getElem?_eq_getElem l0),(by show 1≤sizeLine;decide),fun p1 hp1=>?_⟩
      have s1:=same_newO hp1 (.lst [.int ms[0]])
      refine ⟨_,rfl,p1,m,_,rfl,rfl,upd_same,by omega,by omega,small (by show 1 * m.toNat≤1000;omega),fun p2 hp2=>?_⟩
      have s2:=same_newO hp2 (.lst (List.replicate m.toNat [V.int ms[0]]).flatten)
      refine ⟨p2,List.replicate m.toNat ms[0],rfl,by rw [List.length_replicate];omega,?_,(sm.trans s1).trans s2,fun x hx=>?_⟩
      · rw [upd_same,List.flatten_replicate_singleton,List.map_replicate]
      · rw [List.eq_of_mem_replicate hx];exact bm _ (List.getElem_mem l0)
    · rintro σ' H' ⟨l',ms',rfl,lm',hm',sm',bm'⟩
      exact ⟨_,rfl,l',_,rfl,.inl ⟨SqL.of hm',fun t ht=>q t _ ms' (sm'.trans (same_newO ht _)) upd_same lm' bm'⟩⟩
abbrev NIn:List Str:=["script","head","letters","most","things","prices","weights"]
def spInput (K:PySem.W.Frag):Sp:=fun vs H Q _=>∃ (a:Addr) (ns:List Int),vs=[.ref a]∧SqL K H a (ns.map V.int)∧∀ (r p q:Addr) H' ps ws,Same H H'→H' r=some (.tup [.ref p,.ref q])→TW H' p ps→TW H' q ws→Bd ps→Bd ws→CT.inL ps.length ws.length→1≤ws.length→Q (.ref r) H'
theorem scInput:FnScope NIn ["script"] (defScope sInput):=⟨rfl,rfl,rfl,by decide +kernel,rfl,by decide +kernel,by decide +kernel⟩
set_option maxHeartbeats 8000000 in
theorem ok_input (F:Fun K "_law_input" "_law_input" sInput f fd) (GC:Fns P w K mg base ["script","k"] "_law_cell" (spCell K) 2) (GN:Fns P w K mg base ["script","at","many","way"] "_law_numbers" (spNumbers K) 2):FnOk P w K mg base CX0 3 f fd ["script"] (spInput K):=by
  refine F.ok (k:=2) scInput (fun vs H Q E h=>?_) (fun cdv A outer s H vs Q E hr h=>?_)
  · obtain ⟨a,ns,rfl,_⟩:=h
    rfl
  obtain ⟨a,ns,rfl,hS,q⟩:=h
  refine ⟨_,pss_cons (ps_set (i:=1) scInput.nd rfl (Or.inl rfl) (pe_call GC.ok hr (by rfl) GC.m GC.kp GC.b .nil pass0 (pa_cons (pv 0) (pa_cons pe_int pa_nil))))
    (pss_cons (ps_asg (pe_ix ix_list (pe_lst (pa_cons (pe_tup (pa_cons pe_int (pa_cons pe_int pa_nil))) (pa_cons (pe_tup (pa_cons pe_int (pa_cons pe_int pa_nil))) (pa_cons (pe_tup (pa_cons pe_int (pa_cons pe_int pa_nil))) (pa_cons (pe_tup (pa_cons pe_int (pa_cons pe_int pa_nil))) pa_nil))))) (pe_op op_mod (pv 1) pe_int) (fun _ _=>rfl)) (pg_tup rfl (pgs_cons (pg_name (i:=2) scInput.nd rfl (Or.inl rfl)) (pgs_cons (pg_name (i:=3) scInput.nd rfl (Or.inl rfl)) pgs_nil))))
    (pss_cons (ps_set (i:=4) scInput.nd rfl (Or.inl rfl) (pe_op op_add pe_int (pe_op op_mod (pe_op op_fdiv (pv 1) pe_int) (pv 3))))
    (pss_cons (ps_set (i:=5) scInput.nd rfl (Or.inl rfl) (pe_call GN.ok hr (by rfl) GN.m GN.kp GN.b .nil pass0 (pa_cons (pv 0) (pa_cons pe_int (pa_cons (pv 2) (pa_cons (pe_op op_mod (pe_op op_fdiv (pv 1) pe_int) pe_int) pa_nil))))))
    (pss_cons (ps_set (i:=6) scInput.nd rfl (Or.inl rfl) (pe_call GN.ok hr (by rfl) GN.m GN.kp GN.b .nil pass0 (pa_cons (pv 0) (pa_cons (pe_op op_add pe_int (pv 2)) (pa_cons (pv 4) (pa_cons (pe_op op_mod (pe_op op_fdiv (pv 1) pe_int) pe_int) pa_nil))))))
    (pss_one (ps_ret (pe_tup (pa_cons (pv 5) (pa_cons (pv 6) pa_nil))))))))),?_⟩
  refine ⟨_,rfl,a,ns,0,rfl,hS,by decide,by decide,fun hd hd0=>?_⟩
  refine ⟨(by show 2≤sizeLine;decide),fun t1 h1=>?_⟩
  have s1:=same_newO h1 (.tup [.int 2,.int 6])
  have e1:upd H t1 (.tup [.int 2,.int 6]) t1=some (.tup [.int 2,.int 6]):=upd_same
  generalize upd H t1 (.tup [.int 2,.int 6])=H1 at s1 e1 ⊢
  refine ⟨(by show 2≤sizeLine;decide),fun t2 h2=>?_⟩
  have s2:=same_newO h2 (.tup [.int 3,.int 4])
  have e2:upd H1 t2 (.tup [.int 3,.int 4]) t2=some (.tup [.int 3,.int 4]):=upd_same
  generalize upd H1 t2 (.tup [.int 3,.int 4])=H2 at s2 e2 ⊢
  refine ⟨(by show 2≤sizeLine;decide),fun t3 h3=>?_⟩
  have s3:=same_newO h3 (.tup [.int 4,.int 3])
  have e3:upd H2 t3 (.tup [.int 4,.int 3]) t3=some (.tup [.int 4,.int 3]):=upd_same
  generalize upd H2 t3 (.tup [.int 4,.int 3])=H3 at s3 e3 ⊢
  refine ⟨(by show 2≤sizeLine;decide),fun t4 h4=>?_⟩
  have s4:=same_newO h4 (.tup [.int 2,.int 5])
  have e4:upd H3 t4 (.tup [.int 2,.int 5]) t4=some (.tup [.int 2,.int 5]):=upd_same
  generalize upd H3 t4 (.tup [.int 2,.int 5])=H4 at s4 e4 ⊢
  refine ⟨(by show 4≤sizeLine;decide),fun l hl=>?_⟩
  have s5:=same_newO hl (.lst [.ref t1,.ref t2,.ref t3,.ref t4])
  have e5:upd H4 l (.lst [.ref t1,.ref t2,.ref t3,.ref t4]) l=some (.lst [.ref t1,.ref t2,.ref t3,.ref t4]):=upd_same
  generalize upd H4 l (.lst [.ref t1,.ref t2,.ref t3,.ref t4])=H5 at s5 e5 ⊢
  have s05:Same H H5:=(((s1.trans s2).trans s3).trans s4).trans s5
  obtain ⟨t,L,m,hv,ht,hc⟩:∃ (t:Addr) (L m:Nat),atI [V.ref t1,.ref t2,.ref t3,.ref t4] (hd % 4)=some (.ref t)∧H5 t=some (.tup [.int (L:Int),.int (m:Int)])∧((L=2∧m=6)∨(L=3∧m=4)∨(L=4∧m=3)∨(L=2∧m=5)):=by
    have h:hd % 4=0∨hd % 4=1∨hd % 4=2∨hd % 4=3:=by omega
    rcases h with h | h | h | h <;> rw [h]
    · exact ⟨t1,2,6,rfl,(((s2.trans s3).trans s4).trans s5) _ _ e1,.inl ⟨rfl,rfl⟩⟩
    · exact ⟨t2,3,4,rfl,((s3.trans s4).trans s5) _ _ e2,.inr (.inl ⟨rfl,rfl⟩)⟩
    · exact ⟨t3,4,3,rfl,(s4.trans s5) _ _ e3,.inr (.inr (.inl ⟨rfl,rfl⟩))⟩
    · exact ⟨t4,2,5,rfl,s5 _ _ e4,.inr (.inr (.inr ⟨rfl,rfl⟩))⟩
  refine ⟨_,rfl,_,_,rfl,rfl,(by show (0:Int) < _;decide),l,_,_,_,rfl,rfl,SqL.of e5,hv,?_⟩
  refine ⟨t,_,rfl,SqT.of ht,rfl,_,_,rfl,_,_,rfl,rfl,?_⟩
  have m0:(0:Int) < (m:Int):=by omega
  refine ⟨_,rfl,_,_,rfl,rfl,⟨by decide,by decide⟩,_,rfl,_,_,rfl,rfl,m0,_,_,rfl,rfl,?_⟩
  have b0:0≤hd / 4 % (m:Int):=Int.emod_nonneg _ (by omega)
  have b1:hd / 4 % (m:Int) < (m:Int):=Int.emod_lt_of_pos _ m0
  refine ⟨_,rfl,_,rfl,_,rfl,_,_,rfl,rfl,⟨by decide,by decide⟩,_,_,rfl,rfl,(by show (0:Int) < _;decide),?_⟩
  refine ⟨a,ns,1,(L:Int),hd / 120 % 6,rfl,s05.seq hS,by decide,by decide,by omega,by omega,by omega,by omega,fun p1 H6 ps s6 hp1 lp bp=>?_⟩
  refine ⟨_,rfl,_,rfl,_,_,rfl,rfl,_,rfl,_,rfl,_,_,rfl,rfl,⟨by decide,by decide⟩,_,_,rfl,rfl,(by show (0:Int) < _;decide),?_⟩
  refine ⟨a,ns,1+(L:Int),1+hd / 4 % (m:Int),hd / 720 % 6,rfl,(s05.trans s6).seq hS,by omega,by omega,by omega,by omega,by omega,by omega,fun p2 H7 ws s7 hp2 lw bw=>?_⟩
  refine ⟨_,rfl,_,rfl,(by show 2≤sizeLine;decide),fun r hr=>?_⟩
  have s8:=same_newO hr (.tup [.ref p1,.ref p2])
  refine q r p1 p2 _ ps ws (((s05.trans s6).trans s7).trans s8) upd_same (s8 _ _ (s7 _ _ hp1)) (s8 _ _ hp2) bp bw ?_ (by omega)
  unfold CT.inL
  rcases hc with ⟨z1,z2⟩ | ⟨z1,z2⟩ | ⟨z1,z2⟩ | ⟨z1,z2⟩
  · exact .inl ⟨by omega,by omega⟩
  · exact .inr (.inl ⟨by omega,by omega⟩)
  · exact .inr (.inr ⟨by omega,by omega⟩)
  · exact .inl ⟨by omega,by omega⟩
end
end K53
set_option Elab.async false
set_option linter.all false
set_option maxRecDepth 100000
namespace K53
open PySem L2
def Cd (H:Hp) (x:V) (c:CT.Code):Prop:=∃ a xs,x=.ref a∧H a=some (.lst xs)∧Ws H xs c
def CL (H:Hp) (x:V) (cs:List CT.Code):Prop:=∃ a xs,x=.ref a∧H a=some (.lst xs)∧Paired (Cd H) xs cs
theorem Cd.same {H H':Hp} {x:V} {c:CT.Code} (s:Same H H') (h:Cd H x c):Cd H' x c:=by
  obtain ⟨a,xs,rfl,e,w⟩:=h
  exact ⟨a,xs,rfl,s _ _ e,w.same s⟩
theorem CL.same {H H':Hp} {x:V} {cs:List CT.Code} (s:Same H H') (h:CL H x cs):CL H' x cs:=by
  obtain ⟨a,xs,rfl,e,w⟩:=h
  exact ⟨a,xs,rfl,s _ _ e,Paired.mapP w fun _ _ r=>r.same s⟩
def KeepL (H H':Hp):Prop:=(∀ a xs,H a=some (.lst xs)→H' a=some (.lst xs))∧∀ a xs,H a=some (.tup xs)→H' a=some (.tup xs)
theorem KeepL.dK {H:Hp} {d:Addr} {kvs:List (Key × V)} {o:HO} (hd:H d=some (.dK kvs)):KeepL H (upd H d o) :=
  ⟨fun a xs e=>by rw [upd_ne (ne_of e hd (by intro z;cases z))];exact e,fun a xs e=>by rw [upd_ne (ne_of e hd (by intro z;cases z))];exact e⟩
theorem KeepL.dT {H:Hp} {d:Addr} {kvs:List (List Key × V)} {o:HO} (hd:H d=some (.dT kvs)):KeepL H (upd H d o) :=
  ⟨fun a xs e=>by rw [upd_ne (ne_of e hd (by intro z;cases z))];exact e,fun a xs e=>by rw [upd_ne (ne_of e hd (by intro z;cases z))];exact e⟩
theorem Ws.keep {H H':Hp} {xs:List V} {ws:List (List Int)} (k:KeepL H H') (h:Ws H xs ws):Ws H' xs ws:=Paired.mapP h fun _ _ q=>by
  obtain ⟨a,ys,rfl,e,p⟩:=q
  exact ⟨a,ys,rfl,k.2 _ _ e,p⟩
theorem CL.keep {H H':Hp} {x:V} {cs:List CT.Code} (k:KeepL H H') (h:CL H x cs):CL H' x cs:=by
  obtain ⟨a,xs,rfl,e,w⟩:=h
  refine ⟨a,xs,rfl,k.1 _ _ e,Paired.mapP w fun _ _ r=>?_⟩
  obtain ⟨b,ys,rfl,e2,w2⟩:=r
  exact ⟨b,ys,rfl,k.1 _ _ e2,Ws.keep k w2⟩
def Cn (H:Hp) (d:Addr) (x:V) (c:CT.Code):Prop:=Cd H x c∧x≠.ref d
theorem Cn.upd {H:Hp} {d:Addr} {x:V} {c:CT.Code} {ls ls':List V} (hd:H d=some (.lst ls)) (h:Cn H d x c):Cn (L2.upd H d (.lst ls')) d x c:=by
  obtain ⟨⟨a,xs,rfl,e,w⟩,ne⟩:=h
  exact ⟨⟨a,xs,rfl,by rw [upd_ne (fun z=>ne (by rw [z]))];exact e,Ws.upd hd w⟩,ne⟩
theorem Cn.same {H H':Hp} {d:Addr} {x:V} {c:CT.Code} (s:Same H H') (h:Cn H d x c):Cn H' d x c:=⟨h.1.same s,h.2⟩
def CLn (H:Hp) (d:Addr) (b:Addr) (cs:List CT.Code):Prop:=b≠d∧∃ xs,H b=some (.lst xs)∧Paired (Cn H d) xs cs
theorem CLn.same {H H':Hp} {d b:Addr} {cs:List CT.Code} (s:Same H H') (h:CLn H d b cs):CLn H' d b cs:=by
  obtain ⟨n,xs,e,w⟩:=h
  exact ⟨n,xs,s _ _ e,Paired.mapP w fun _ _ r=>r.same s⟩
theorem CLn.upd {H:Hp} {d b:Addr} {cs:List CT.Code} {ls ls':List V} (hd:H d=some (.lst ls)) (h:CLn H d b cs):CLn (L2.upd H d (.lst ls')) d b cs:=by
  obtain ⟨n,xs,e,w⟩:=h
  exact ⟨n,xs,by rw [upd_ne n];exact e,Paired.mapP w fun _ _ r=>r.upd hd⟩
theorem CL.cln {H0 H:Hp} {d:Addr} {x:V} {cs:List CT.Code} (hd:H0 d=none) (s:Same H0 H) (h:CL H0 x cs):∃ b,x=.ref b∧CLn H d b cs:=by
  obtain ⟨b,xs,rfl,e,w⟩:=h
  refine ⟨b,rfl,fun z=>(by rw [z,hd] at e;cases e),xs,s _ _ e,Paired.mapP w fun x c r=>⟨r.same s,fun z=>?_⟩⟩
  obtain ⟨a,ys,rfl,e2,_⟩:=r
  have:a=d:=V.ref.inj z
  rw [this,hd] at e2
  cases e2
theorem hu1 {A:Around} {k:Nat} (hr:Room k A):A.units+1 < cLine:=by have:=hr.un;omega
section
variable {P:Program} {w:World} {K:PySem.W.Frag} {mg:Str→Option Value} {base:Heap} {f:Addr} {fd:FuncData}
abbrev NRw:List Str:=["codes","rows","many","low","letters","most","found","letter","size","behind","inner","ahead"]
abbrev k2 (a b:Nat):List Key:=[.inl (a:Int),.inl (b:Int)]
structure Rdy (H:Hp) (ca ra:Addr) (kc:List (Key × V)) (kr:List (List Key × V)) (L most many:Nat):Prop where
  hc:H ca=some (.dK kc)
  hr:H ra=some (.dT kr)
  c:∀ k,1≤k→k≤most→∃ v,valV kc (.inl (k:Int))=some v∧CL H v (CT.Cs L k)
  r:∀ k l,1≤k→k < many→l < L→∃ v,valV kr (k2 k l)=some v∧CL H v (CT.Rs L k l)
  e:∀ k,valV kr (k2 k L)=none
theorem Rdy.same {H H':Hp} {ca ra:Addr} {kc:List (Key × V)} {kr:List (List Key × V)} {L most many:Nat} (s:Same H H') (h:Rdy H ca ra kc kr L most many):Rdy H' ca ra kc kr L most many :=
  ⟨s _ _ h.hc,s _ _ h.hr,fun k a b=>by obtain ⟨v,e,x⟩:=h.c k a b;exact ⟨v,e,x.same s⟩,fun k l a b c=>by obtain ⟨v,e,x⟩:=h.r k l a b c;exact ⟨v,e,x.same s⟩,h.e⟩
def spRows:Sp:=fun vs H Q _=>∃ (ca ra:Addr) (kc:List (Key × V)) (kr:List (List Key × V)) (L many low most:Nat),vs=[.ref ca,.ref ra,.int (many:Int),.int (low:Int),.int (L:Int),.int (most:Int)]∧Rdy H ca ra kc kr L most many∧most≤many∧low < L∧CT.inL L many∧(CT.rw' L (CT.Cs L) (CT.Rs L) many low most).length≤900 ∧
  ∀ (d:Addr) H',Same H H'→CL H' (.ref d) (CT.rw' L (CT.Cs L) (CT.Rs L) many low most)→Q (.ref d) H'
theorem scRows:FnScope NRw ["codes","rows","many","low","letters","most"] (defScope sRows):=⟨rfl,rfl,rfl,by decide +kernel,rfl,by decide +kernel,by decide +kernel⟩
theorem ndRw1:(("word":Str) :: NRw).Nodup:=by decide +kernel
theorem ndRw2:(("rest":Str) :: NRw).Nodup:=by decide +kernel
theorem inL_bd {L m:Nat} (h:CT.inL L m):2≤L∧L≤4∧m≤6:=by
  rcases h with ⟨rfl,h⟩ | ⟨rfl,h⟩ | ⟨rfl,h⟩ <;> omega
theorem inL_le {L m k:Nat} (h:CT.inL L m) (hk:k≤m):CT.inL L k:=by
  rcases h with ⟨rfl,h⟩ | ⟨rfl,h⟩ | ⟨rfl,h⟩
  · exact .inl ⟨rfl,by omega⟩
  · exact .inr (.inl ⟨rfl,by omega⟩)
  · exact .inr (.inr ⟨rfl,by omega⟩)
theorem bhd_gd {L many l b:Nat} (hb:b < many):∀ r∈CT.bhd (CT.Rs L) many (l,b),CT.Gd L (many - (b+1)) many r:=fun r hr=>by
  unfold CT.bhd at hr
  split at hr
  · rename_i h
    have:=CT.Rs_gd (L:=L) (m:=many - (b+1)) (l:=l+1) (by show 1≤many - (b+1);have h:b+1 < many:=h;omega) r hr
    exact ⟨this.ln,fun u hu=>⟨by have:=(this.wd u hu).1;omega,(this.wd u hu).2⟩⟩
  · rename_i h
    have h:¬ b+1 < many:=h
    have e:r=[]:=by simpa using hr
    subst e
    exact ⟨by simp;omega,fun u hu=>by cases hu⟩
theorem bhd_len {L many l b:Nat} (h:CT.inL L many):(CT.bhd (CT.Rs L) many (l,b)).length≤900:=by
  unfold CT.bhd
  split
  · exact CT.Rs_len (inL_le h (by omega))
  · show 1≤900;decide
set_option maxHeartbeats 16000000 in
theorem ok_rows (F:Fun K "_law_rows" "_law_rows" sRows f fd) (mr:mg "range"=none):FnOk P w K mg base CX0 1 f fd ["codes","rows","many","low","letters","most"] spRows:=by
  refine F.ok (k:=0) scRows (fun vs H Q E h=>?_) (fun cdv A outer s H vs Q E hr h=>?_)
  · obtain ⟨ca,ra,kc,kr,L,many,low,most,rfl,_⟩:=h
    rfl
  obtain ⟨ca,ra,kc,kr,L,many,low,most,rfl,rd,hm,hlow,hin,len,q⟩:=h
  obtain ⟨L2',L4,m6⟩:=inL_bd hin
  refine ⟨_,pss_cons (ps_set (i:=6) scRows.nd rfl (Or.inl rfl) (pe_lst pa_nil))
    (pss_cons (ps_for PassesOwn.never rfl (pi_range2 (by rfl) mr (pa_cons (pv 3) (pa_cons (pv 4) pa_nil))) (pg_name (i:=7) scRows.nd rfl (Or.inr rfl))
      (pss_one (ps_for PassesOwn.never rfl (pi_range2 (by rfl) mr (pa_cons pe_int (pa_cons (pe_op op_add (pv 5) pe_int) pa_nil))) (pg_name (i:=8) scRows.nd rfl (Or.inl rfl))
        (pss_cons (ps_set (i:=9) scRows.nd rfl (Or.inl rfl) (pe_lst (pa_cons (pe_lst pa_nil) pa_nil)))
        (pss_cons (ps_mid (ps_if (pt_cmpR op_lt (pv 8) (pv 2) (nomark _)) (pss_one (ps_set (i:=9) scRows.nd rfl (Or.inl rfl) (pe_dget2 (hu1 hr) (pv 1) (pe_tup (pa_cons (pe_op op_sub (pv 2) (pv 8)) (pa_cons (pe_op op_add (pv 7) pe_int) pa_nil))) (pe_lst pa_nil) ⟨rfl,rfl,rfl,rfl⟩))) pss_nil))
        (pss_one (ps_for PassesOwn.never rfl (pi_list (pe_dget (hu1 hr) (pv 0) (pv 8) (fun _ _=>rfl))) (pg_name (i:=10) scRows.nd rfl (Or.inl rfl))
          (pss_cons (ps_set (i:=11) scRows.nd rfl (Or.inr rfl) (pe_compL (M:=NRw) rfl (CompScope.of (defScope sRows) NRw rfl rfl rfl (by decide +kernel) (by decide +kernel) (by decide +kernel) rfl (by decide +kernel)) ndRw1 rfl (pv 10) mo_var
            (fun cl C s0 H0 fp=>⟨pts_nil,pe_op op_catG (pe_tup (pa_cons (pv 8) pa_nil)) (pv 0)⟩)))
          (pss_one (ps_expr (pe_bm PySem.F.plainAttrs_list PySem.F.slot_list_extend PySem.F.type_list_extend mt_extend (pv 6) (pa_cons (pe_compL (M:=NRw) rfl (CompScope.of (defScope sRows) NRw rfl rfl rfl (by decide +kernel) (by decide +kernel) (by decide +kernel) rfl (by decide +kernel)) ndRw2 rfl (pv 9) mo_var
            (fun cl C s0 H0 fp=>⟨pts_nil,pe_op op_cat (pv 12) (pv 0)⟩)) pa_nil))))))))))))
    (pss_one (ps_ret (pv 6)))),?_⟩
  refine ⟨(by show 0≤sizeLine;decide),fun d hd=>?_⟩
  have s1:=same_newO hd (.lst [])
  have g1:upd H d (.lst []) d=some (.lst []):=upd_same
  generalize upd H d (.lst [])=H1 at s1 g1 ⊢
  refine ⟨_,rfl,_,rfl,_,_,rfl,⟨by omega,by omega,by omega,by omega⟩,?_⟩
  rw [show ((L:Int) - (low:Int)).toNat=L - low by omega]
  let ga:Nat→List CT.Code:=fun a=>(List.range most).flatMap fun b=>CT.blk L many (low+a) b
  have ega:CT.rw' L (CT.Cs L) (CT.Rs L) many low most=(List.range (L - low)).flatMap ga:=CT.rw_blk
  refine for_range (fun a σ H'=>Same H H'∧(∃ xs,H' d=some (.lst xs)∧Paired (Cn H' d) xs ((List.range a).flatMap ga))∧∃ x7 x8 x9 x10 x11:Option V,σ=[some (.ref ca),some (.ref ra),some (.int (many:Int)),some (.int (low:Int)),some (.int (L:Int)),some (.int (most:Int)),some (.ref d),x7,x8,x9,x10,x11])
    ⟨s1,⟨[],g1,.nil⟩,_,_,_,_,_,rfl⟩ (fun a σ H2 ha hP=>?_) (fun σ H2 hP=>?_)
  rotate_left
  · obtain ⟨s2,⟨xs,g2,w2⟩,x7,x8,x9,x10,x11,rfl⟩:=hP
    refine ⟨_,rfl,q d H2 s2 ⟨d,xs,rfl,g2,?_⟩⟩
    rw [ega]
    exact Paired.mapP w2 fun _ _ r=>r.1
  obtain ⟨s2,⟨xs2,g2,w2⟩,x7,x8,x9,x10,x11,rfl⟩:=hP
  have ea:(low:Int)+(a:Int)=((low+a:Nat):Int):=by push_cast;rfl
  rw [ea]
  have hla:low+a < L:=by omega
  refine ⟨_,rfl,_,_,rfl,rfl,_,_,rfl,⟨by omega,by omega,by omega,by omega⟩,?_⟩
  rw [show ((most:Int)+1 - 1).toNat=most by omega]
  refine for_range (fun b σ H'=>Same H H'∧(∃ xs,H' d=some (.lst xs)∧Paired (Cn H' d) xs ((List.range a).flatMap ga++(List.range b).flatMap fun b=>CT.blk L many (low+a) b))∧∃ x8 x9 x10 x11:Option V,σ=[some (.ref ca),some (.ref ra),some (.int (many:Int)),some (.int (low:Int)),some (.int (L:Int)),some (.int (most:Int)),some (.ref d),some (.int ((low+a:Nat):Int)),x8,x9,x10,x11])
    ⟨s2,⟨xs2,g2,by rw [List.range_zero,List.flatMap_nil,List.append_nil];exact w2⟩,_,_,_,_,rfl⟩ (fun b σ H3 hb hP=>?_) (fun σ H3 hP=>?_)
  rotate_left
  · obtain ⟨s3,⟨xs,g3,w3⟩,x8,x9,x10,x11,rfl⟩:=hP
    refine ⟨s3,⟨xs,g3,?_⟩,_,_,_,_,_,rfl⟩
    rw [CT.rf_succ]
    exact w3
  obtain ⟨s3,⟨xs3,g3,w3⟩,x8,x9,x10,x11,rfl⟩:=hP
  have eb:(1:Int)+(b:Int)=((b+1:Nat):Int):=by push_cast;omega
  rw [eb]
  refine ⟨(by show 0≤sizeLine;decide),fun e0 he0=>?_⟩
  have s4:=same_newO he0 (.lst [])
  have g4:=s4 _ _ g3
  have e0d:e0≠d:=fun z=>by rw [z,g3] at he0;cases he0
  have h4:upd H3 e0 (.lst []) e0=some (.lst []):=upd_same
  have w4:=Paired.mapP w3 fun _ _ r=>Cn.same s4 r
  generalize upd H3 e0 (.lst [])=H4 at s4 g4 h4 w4 ⊢
  refine ⟨(by show 1≤sizeLine;decide),fun e1 he1=>?_⟩
  have s5:=same_newO he1 (.lst [.ref e0])
  have g5:=s5 _ _ g4
  have e1d:e1≠d:=fun z=>by rw [z,g4] at he1;cases he1
  have h5:upd H4 e1 (.lst [.ref e0]) e1=some (.lst [.ref e0]):=upd_same
  have w5:=Paired.mapP w4 fun _ _ r=>Cn.same s5 r
  have h50:=s5 _ _ h4
  generalize upd H4 e1 (.lst [.ref e0])=H5 at s5 g5 h5 w5 h50 ⊢
  have s05:Same H H5:=(s3.trans s4).trans s5
  refine ⟨fun σ' H'=>Same H H'∧(∃ xs,H' d=some (.lst xs)∧Paired (Cn H' d) xs ((List.range a).flatMap ga++(List.range b).flatMap fun b=>CT.blk L many (low+a) b))∧∃ bl,CLn H' d bl (CT.bhd (CT.Rs L) many (low+a,b))∧σ'=[some (.ref ca),some (.ref ra),some (.int (many:Int)),some (.int (low:Int)),some (.int (L:Int)),some (.int (most:Int)),some (.ref d),some (.int ((low+a:Nat):Int)),some (.int ((b+1:Nat):Int)),some (.ref bl),x10,x11],?_,?_⟩
  · refine ⟨_,rfl,_,rfl,_,_,rfl,rfl,_,rfl,?_⟩
    refine ite2 (fun z=>?_) (fun z=>?_)
    · have z1:((b+1:Nat):Int) < (many:Int):=of_decide_eq_true z
      have z2:b+1 < many:=by omega
      have rd5:=rd.same s05
      refine ⟨_,rfl,ra,rfl,.inr ⟨kr,.inl rd5.hr⟩,_,rfl,_,rfl,_,_,rfl,rfl,_,rfl,_,_,rfl,rfl,(by show 2≤sizeLine;decide),fun tk htk=>?_⟩
      have ek:(many:Int) - ((b+1:Nat):Int)=((many - (b+1):Nat):Int):=by omega
      have el:((low+a:Nat):Int)+1=((low+a+1:Nat):Int):=by push_cast;rfl
      dsimp only
      rw [ek,el]
      have s6:=same_newO htk (.tup [.int ((many - (b+1):Nat):Int),.int ((low+a+1:Nat):Int)])
      have hk6:upd H5 tk (.tup [.int ((many - (b+1):Nat):Int),.int ((low+a+1:Nat):Int)]) tk=some (.tup ((k2 (many - (b+1)) (low+a+1)).map kV)):=upd_same
      have g6:=s6 _ _ g5
      have w6:=Paired.mapP w5 fun _ _ r=>Cn.same s6 r
      generalize upd H5 tk (.tup [.int ((many - (b+1):Nat):Int),.int ((low+a+1:Nat):Int)])=H6 at s6 hk6 g6 w6 ⊢
      refine ⟨(by show 0≤sizeLine;decide),fun e2 he2=>?_⟩
      have s7:=same_newO he2 (.lst [])
      have g7:=s7 _ _ g6
      have e2d:e2≠d:=fun z=>by rw [z,g6] at he2;cases he2
      have w7:=Paired.mapP w6 fun _ _ r=>Cn.same s7 r
      have h7:upd H6 e2 (.lst []) e2=some (.lst []):=upd_same
      have hk7:=s7 _ _ hk6
      generalize upd H6 e2 (.lst [])=H7 at s7 g7 w7 h7 hk7 ⊢
      have s07:Same H H7:=(s05.trans s6).trans s7
      have rd7:=rd.same s07
      refine ⟨_,DGet.t rd7.hr hk7,?_⟩
      obtain ⟨bl,ebl,hbl⟩:∃ bl,(valV kr (k2 (many - (b+1)) (low+a+1))).getD (.ref e2)=.ref bl∧CLn H7 d bl (CT.bhd (CT.Rs L) many (low+a,b)):=by
        have eB:CT.bhd (CT.Rs L) many (low+a,b)=CT.Rs L (many - (b+1)) (low+a+1):=if_pos z2
        rw [eB]
        by_cases y:low+a+1 < L
        · obtain ⟨v,ev,cv⟩:=rd.r (many - (b+1)) (low+a+1) (by omega) (by omega) y
          obtain ⟨bl,rfl,c⟩:=cv.cln hd s07
          exact ⟨bl,by rw [ev];rfl,c⟩
        · have yl:low+a+1=L:=by omega
          refine ⟨e2,by rw [yl,rd.e];rfl,e2d,[],h7,?_⟩
          rw [CT.Rs_end y]
          exact .nil
      rw [ebl]
      exact ⟨s07,⟨_,g7,w7⟩,bl,hbl,rfl⟩
    · have z2:¬ b+1 < many:=fun y=>z (decide_eq_true (by show ((b+1:Nat):Int) < (many:Int);omega))
      refine ⟨s05,⟨_,g5,w5⟩,e1,⟨e1d,_,h5,?_⟩,rfl⟩
      have eB:CT.bhd (CT.Rs L) many (low+a,b)=[[]]:=if_neg z2
      rw [eB]
      exact .cons ⟨⟨e0,[],rfl,h50,.nil⟩,fun z=>e0d (V.ref.inj z)⟩ .nil
  rintro σ' H6 ⟨s6,⟨xs6,g6,w6⟩,bl,hbl,rfl⟩
  obtain ⟨v,ev,cv⟩:=rd.c (b+1) (by omega) (by omega)
  obtain ⟨ia,is_,rfl,hia,wia⟩:=cv
  have lia:is_.length=(CT.Cs L (b+1)).length:=wia.length
  refine ⟨_,rfl,_,rfl,ca,_,rfl,(by have:=DGet.k (k:=.inl ((b+1:Nat):Int)) (rd.same s6).hc;rw [ev] at this;exact this),ia,rfl,⟨_,SqL.of (s6 _ _ hia)⟩,?_⟩
  refine for_list (xs:=is_) (fun k σ H'=>Same H H'∧(∃ xs,H' d=some (.lst xs)∧Paired (Cn H' d) xs (((List.range a).flatMap ga++(List.range b).flatMap fun b=>CT.blk L many (low+a) b)++((CT.Cs L (b+1)).take k).flatMap fun c=>(CT.bhd (CT.Rs L) many (low+a,b)).map fun r=>CT.ahd (low+a) c++r))∧CLn H' d bl (CT.bhd (CT.Rs L) many (low+a,b))∧∃ x10 x11:Option V,σ=[some (.ref ca),some (.ref ra),some (.int (many:Int)),some (.int (low:Int)),some (.int (L:Int)),some (.int (most:Int)),some (.ref d),some (.int ((low+a:Nat):Int)),some (.int ((b+1:Nat):Int)),some (.ref bl),x10,x11])
    ⟨s6,⟨xs6,g6,by rw [List.take_zero,List.flatMap_nil,List.append_nil];exact w6⟩,hbl,_,_,rfl⟩ (fun k σ H' _ hP=>SqL.of (hP.1 _ _ hia)) (fun k x σ H7 hx hP=>?_) (fun σ H7 hP=>?_)
  rotate_left
  · obtain ⟨s7,⟨xs,g7,w7⟩,_,x10,x11,rfl⟩:=hP
    refine ⟨s7,⟨xs,g7,?_⟩,_,_,_,_,rfl⟩
    rw [lia,List.take_length] at w7
    rw [CT.rf_succ,←List.append_assoc]
    exact w7
  obtain ⟨s7,⟨xs7,g7,w7⟩,hbl7,x10,x11,rfl⟩:=hP
  obtain ⟨c,hc,rc⟩:=Paired.right_of wia k x hx
  have hcm:=List.mem_of_getElem? hc
  have gdc:=CT.Cs_gd (L:=L) (m:=b+1) (by omega) c hcm
  obtain ⟨xa,ys,rfl,hxa,wxa⟩:=rc
  have lys:ys.length=c.length:=wxa.length
  refine ⟨_,rfl,xa,_,rfl,SqL.of (s7 _ _ hxa),fun e3 he3=>?_⟩
  refine ⟨fun j H'=>Same H7 H'∧∃ zs,H' e3=some (.lst zs)∧Ws H' zs ((c.take j).map fun u=>((low+a:Nat):Int) :: u),⟨same_newO he3 _,[],upd_same,.nil⟩,fun j H' _ hP=>SqL.of (hP.1 _ _ (s7 _ _ hxa)),fun j x H' hx hP=>?_,fun H8 hP=>?_⟩
  · obtain ⟨s8,zs,g8,w8⟩:=hP
    obtain ⟨u,hu,ru⟩:=Paired.right_of wxa j x hx
    obtain ⟨ua,rfl,hua⟩:=Wd.ti ru
    have jl:=(List.getElem?_eq_some_iff.mp hu).1
    have lu:=(gdc.wd u (List.mem_of_getElem? hu)).1
    refine turn_all ⟨_,rfl,(by show 1≤sizeLine;decide),fun t1 ht1=>?_⟩
    have s9:=same_newO ht1 (.tup [.int ((low+a:Nat):Int)])
    have h9:upd H' t1 (.tup [.int ((low+a:Nat):Int)]) t1=some (.tup [.int ((low+a:Nat):Int)]):=upd_same
    generalize upd H' t1 (.tup [.int ((low+a:Nat):Int)])=H9 at s9 h9 ⊢
    refine ⟨_,rfl,t1,ua,_,_,rfl,rfl,h9,s9 _ _ (s8 _ _ (s7 _ _ hua)),small (by rw [List.length_map,List.length_singleton];omega),fun p H10 s10 hp=>?_⟩
    refine ⟨zs,s10 _ _ (s9 _ _ g8),small1000 (by rw [w8.length,List.length_map,List.length_take,gdc.ln];omega),same_upd he3 ((s8.trans s9).trans s10),_,upd_same,?_⟩
    rw [List.take_add_one,hu,List.map_append]
    exact Paired.appendP (Ws.upd (s10 _ _ (s9 _ _ g8)) (Ws.same (s9.trans s10) w8)) (.cons (Wd.upd (s10 _ _ (s9 _ _ g8)) (Wd.of hp)) .nil)
  obtain ⟨s8,zs8,g8,w8⟩:=hP
  rw [lys,List.take_length] at w8
  have e3d:e3≠d:=fun z=>by rw [z,g7] at he3;cases he3
  have hbl8:=hbl7.same s8
  have w78:=Paired.mapP w7 fun _ _ r=>Cn.same s8 r
  have g78:=s8 _ _ g7
  have s08:=s7.trans s8
  obtain ⟨bd,bxs,hb8,wb8⟩:=hbl8
  have lbx:bxs.length=(CT.bhd (CT.Rs L) many (low+a,b)).length:=wb8.length
  have lb9:=bhd_len (l:=low+a) (b:=b) hin
  have lz8:zs8.length≤6:=by rw [w8.length,List.length_map,gdc.ln];omega
  refine ⟨_,rfl,.inl ⟨rfl,_,SqL.of g78⟩,_,rfl,bl,_,rfl,SqL.of hb8,fun e4 he4=>?_⟩
  have e4d:e4≠d:=fun z=>by rw [z,g78] at he4;cases he4
  refine ⟨fun j H'=>Same H8 H'∧∃ zs,H' e4=some (.lst zs)∧Paired (fun x c=>Cn H' e4 x c∧x≠.ref d) zs (((CT.bhd (CT.Rs L) many (low+a,b)).take j).map fun r=>CT.ahd (low+a) c++r),⟨same_newO he4 _,[],upd_same,.nil⟩,fun j H' _ hP=>SqL.of (hP.1 _ _ hb8),fun j x H' hx hP=>?_,fun H9 hP=>?_⟩
  · obtain ⟨s9,zs,g9,w9⟩:=hP
    obtain ⟨r,hr',rr⟩:=Paired.right_of wb8 j x hx
    have jl:=(List.getElem?_eq_some_iff.mp hr').1
    have gr:=bhd_gd (L:=L) (l:=low+a) (show b < many by omega) r (List.mem_of_getElem? hr')
    obtain ⟨⟨ra',rs,rfl,hra,wra⟩,_⟩:=rr
    have lrs:rs.length≤6:=by rw [wra.length,gr.ln];omega
    refine turn_all ⟨_,rfl,_,rfl,e3,ra',_,_,rfl,rfl,s9 _ _ g8,s9 _ _ hra,small (by omega),fun p hp=>?_⟩
    have s10:=same_newO hp (.lst (zs8++rs))
    have h10:upd H' p (.lst (zs8++rs)) p=some (.lst (zs8++rs)):=upd_same
    have pe4:V.ref p≠.ref e4:=fun z=>by rw [V.ref.inj z,g9] at hp;cases hp
    have pd:V.ref p≠.ref d:=fun z=>by rw [V.ref.inj z,s9 _ _ g78] at hp;cases hp
    generalize upd H' p (.lst (zs8++rs))=H10 at s10 h10 ⊢
    have w10:Ws H10 (zs8++rs) (CT.ahd (low+a) c++r):=Paired.appendP (Ws.same (s9.trans s10) w8) (Ws.same (s9.trans s10) wra)
    refine ⟨zs,s10 _ _ g9,small1000 (by rw [w9.length,List.length_map,List.length_take];omega),same_upd he4 (s9.trans s10),_,upd_same,?_⟩
    rw [List.take_add_one,hr',List.map_append]
    exact Paired.appendP (Paired.mapP w9 fun _ _ q=>⟨(Cn.same s10 q.1).upd (s10 _ _ g9),q.2⟩) (.cons ⟨Cn.upd (s10 _ _ g9) ⟨⟨p,_,rfl,h10,w10⟩,pe4⟩,pd⟩ .nil)
  obtain ⟨s9,zs9,g9,w9⟩:=hP
  rw [lbx,List.take_length] at w9
  have kl:=(List.getElem?_eq_some_iff.mp hc).1
  have pl:=CT.part_len (L:=L) (many:=many) (low:=low) (most:=most) (a:=a) (b:=b) (k:=k+1) ha hb
  have et:((CT.Cs L (b+1)).take (k+1)).flatMap (fun c=>(CT.bhd (CT.Rs L) many (low+a,b)).map fun r=>CT.ahd (low+a) c++r)=((CT.Cs L (b+1)).take k).flatMap (fun c=>(CT.bhd (CT.Rs L) many (low+a,b)).map fun r=>CT.ahd (low+a) c++r)++(CT.bhd (CT.Rs L) many (low+a,b)).map fun r=>CT.ahd (low+a) c++r:=by
    rw [List.take_add_one,hc,List.flatMap_append]
    congr 1
    exact List.flatMap_singleton _ _
  have g79:=s9 _ _ g78
  refine ⟨d,e4,_,_,rfl,rfl,g79,g9,small ?_,same_upd hd ((s7.trans s8).trans s9),⟨_,upd_same,?_⟩,CLn.upd g79 (CLn.same s9 ⟨bd,_,hb8,wb8⟩),_,_,rfl⟩
  · rw [w7.length,w9.length,List.length_map]
    rw [et,List.length_append,List.length_map] at pl
    rw [List.length_append,List.length_append]
    have e2:((List.range a).flatMap ga).length=((List.range a).flatMap fun a=>(List.range most).flatMap fun b=>CT.blk L many (low+a) b).length:=rfl
    omega
  · rw [et,←List.append_assoc]
    exact Paired.appendP (Paired.mapP w78 fun _ _ r=>(Cn.same s9 r).upd g79) (Paired.mapP w9 fun _ _ r=>Cn.upd g79 ⟨r.1.1,r.2⟩)
end
end K53
set_option Elab.async false
set_option linter.all false
set_option maxRecDepth 100000
namespace K53
open PySem L2
def CoD (H:Hp) (ca:Addr) (L b N:Nat):Prop:=∃ kc:List (Key × V),H ca=some (.dK kc)∧kc.length≤N∧∀ k,1≤k→k≤b→∃ v,valV kc (.inl (k:Int))=some v∧CL H v (CT.Cs L k)
def RoD (H:Hp) (ra:Addr) (L N:Nat) (dn:Nat→Nat→Prop):Prop:=∃ kr:List (List Key × V),H ra=some (.dT kr)∧kr.length≤N∧(∀ k l,dn k l→∃ v,valV kr (k2 k l)=some v∧CL H v (CT.Rs L k l))∧∀ k,valV kr (k2 k L)=none
theorem CoD.same {H H':Hp} {ca:Addr} {L b N:Nat} (s:Same H H') (h:CoD H ca L b N):CoD H' ca L b N:=by
  obtain ⟨kc,e,n,c⟩:=h
  exact ⟨kc,s _ _ e,n,fun k a b=>by obtain ⟨v,x,y⟩:=c k a b;exact ⟨v,x,y.same s⟩⟩
theorem RoD.same {H H':Hp} {ra:Addr} {L N:Nat} {dn:Nat→Nat→Prop} (s:Same H H') (h:RoD H ra L N dn):RoD H' ra L N dn:=by
  obtain ⟨kr,e,n,c,z⟩:=h
  exact ⟨kr,s _ _ e,n,fun k l a=>by obtain ⟨v,x,y⟩:=c k l a;exact ⟨v,x,y.same s⟩,z⟩
theorem k2_inj {a b c d:Nat} (h:k2 a b=k2 c d):a=c∧b=d:=by
  have h1:(Sum.inl (a:Int):Key)=.inl (c:Int):=(List.cons.inj h).1
  have h2:(Sum.inl (b:Int):Key)=.inl (d:Int):=(List.cons.inj (List.cons.inj h).2).1
  have h3:=Sum.inl.inj h1
  have h4:=Sum.inl.inj h2
  omega
theorem CoD.put {H:Hp} {ca:Addr} {L b N:Nat} {v:V} (h:CoD H ca L b N) (hv:CL H v (CT.Cs L (b+1))):∃ kc:List (Key × V),H ca=some (.dK kc)∧kc.length≤N∧CoD (upd H ca (.dK (putK kc (.inl ((b+1:Nat):Int)) v))) ca L (b+1) (N+1):=by
  obtain ⟨kc,e,n,c⟩:=h
  refine ⟨kc,e,n,_,upd_same,Nat.le_trans (length_putK _ _ _) (by omega),fun k h1 h2=>?_⟩
  rw [valV_put]
  by_cases z:k=b+1
  · subst z
    rw [if_pos rfl]
    exact ⟨v,rfl,hv.keep (KeepL.dK e)⟩
  · rw [if_neg (fun y=>z (by have:=Sum.inl.inj y;omega))]
    obtain ⟨v',x,y⟩:=c k h1 (by omega)
    exact ⟨v',x,y.keep (KeepL.dK e)⟩
theorem RoD.put {H:Hp} {ra:Addr} {L N m l:Nat} {dn dn':Nat→Nat→Prop} {v:V} (h:RoD H ra L N dn) (hl:l < L) (hv:CL H v (CT.Rs L m l)) (hd:∀ k j,dn' k j→dn k j∨(k=m∧j=l)):∃ kr:List (List Key × V),H ra=some (.dT kr)∧kr.length≤N∧RoD (upd H ra (.dT (putK kr (k2 m l) v))) ra L (N+1) dn':=by
  obtain ⟨kr,e,n,c,zz⟩:=h
  refine ⟨kr,e,n,_,upd_same,Nat.le_trans (length_putK _ _ _) (by omega),fun k j hkj=>?_,fun k=>?_⟩
  · rw [valV_put]
    by_cases z:k2 k j=k2 m l
    · obtain ⟨rfl,rfl⟩:=k2_inj z
      rw [if_pos rfl]
      exact ⟨v,rfl,hv.keep (KeepL.dT e)⟩
    · rw [if_neg z]
      rcases hd k j hkj with y | y
      · obtain ⟨v',x,y⟩:=c k j y
        exact ⟨v',x,y.keep (KeepL.dT e)⟩
      · exact absurd (by rw [y.1,y.2]) z
  · rw [valV_put,if_neg (fun y=>by have:=(k2_inj y).2;omega)]
    exact zz k
theorem CoD.other {H:Hp} {ca ra:Addr} {L b N:Nat} {kr:List (List Key × V)} {o:HO} (h:CoD H ca L b N) (hr:H ra=some (.dT kr)):CoD (upd H ra o) ca L b N:=by
  obtain ⟨kc,e,n,c⟩:=h
  exact ⟨kc,by rw [upd_ne (ne_of e hr (by intro z;cases z))];exact e,n,fun k a b=>by obtain ⟨v,x,y⟩:=c k a b;exact ⟨v,x,y.keep (KeepL.dT hr)⟩⟩
theorem RoD.other {H:Hp} {ca ra:Addr} {L N:Nat} {dn:Nat→Nat→Prop} {kc:List (Key × V)} {o:HO} (h:RoD H ra L N dn) (hc:H ca=some (.dK kc)):RoD (upd H ca o) ra L N dn:=by
  obtain ⟨kr,e,n,c,z⟩:=h
  exact ⟨kr,by rw [upd_ne (ne_of e hc (by intro z;cases z))];exact e,n,fun k l a=>by obtain ⟨v,x,y⟩:=c k l a;exact ⟨v,x,y.keep (KeepL.dK hc)⟩,z⟩
theorem RoD.weak {H:Hp} {ra:Addr} {L N N':Nat} {dn dn':Nat→Nat→Prop} (h:RoD H ra L N dn) (hN:N≤N') (hd:∀ k l,dn' k l→dn k l):RoD H ra L N' dn':=by
  obtain ⟨kr,e,n,c,z⟩:=h
  exact ⟨kr,e,by omega,fun k l a=>c k l (hd k l a),z⟩
def Tw (H:Hp) (x:V) (c:CT.Code):Prop:=∃ a xs,x=.ref a∧H a=some (.tup xs)∧Ws H xs c
theorem Tw.same {H H':Hp} {x:V} {c:CT.Code} (s:Same H H') (h:Tw H x c):Tw H' x c:=by
  obtain ⟨a,xs,rfl,e,w⟩:=h
  exact ⟨a,xs,rfl,s _ _ e,w.same s⟩
theorem Tw.upd {H:Hp} {d:Addr} {x:V} {c:CT.Code} {ls ls':List V} (hd:H d=some (.lst ls)) (h:Tw H x c):Tw (L2.upd H d (.lst ls')) x c:=by
  obtain ⟨a,xs,rfl,e,w⟩:=h
  exact ⟨a,xs,rfl,by rw [upd_ne (ne_of e hd (by intro z;cases z))];exact e,Ws.upd hd w⟩
section
variable {P:Program} {w:World} {K:PySem.W.Frag} {mg:Str→Option Value} {base:Heap} {f:Addr} {fd:FuncData}
abbrev NCo:List Str:=["things","letters","codes","rows","many","letter"]
def spCodes:Sp:=fun vs H Q _=>∃ n L:Nat,vs=[.int (n:Int),.int (L:Int)]∧CT.inL L n∧1≤n∧∀ (d:Addr) xs H',Same H H'→H' d=some (.lst xs)→Paired (Tw H') xs (CT.Cs L n)→Q (.ref d) H'
theorem scCodes:FnScope NCo ["things","letters"] (defScope sCodes):=⟨rfl,rfl,rfl,by decide +kernel,rfl,by decide +kernel,by decide +kernel⟩
theorem ndCo:(("words":Str) :: NCo).Nodup:=by decide +kernel
set_option maxHeartbeats 16000000 in
theorem ok_codes (F:Fun K "_law_codes" "_law_codes" sCodes f fd) (GR:Fns P w K mg base ["codes","rows","many","low","letters","most"] "_law_rows" spRows 1) (mr:mg "range"=none) (mt:mg "tuple"=none):FnOk P w K mg base CX0 2 f fd ["things","letters"] spCodes:=by
  refine F.ok (k:=1) scCodes (fun vs H Q E h=>?_) (fun cdv A outer s H vs Q E hr h=>?_)
  · obtain ⟨n,L,rfl,_⟩:=h
    rfl
  obtain ⟨n,L,rfl,hin,n1,q⟩:=h
  obtain ⟨L2',L4,m6⟩:=inL_bd hin
  refine ⟨_,pss_cons (ps_set (i:=2) scCodes.nd rfl (Or.inl rfl) (pe_disp (pps_cons pe_int (pe_lst (pa_cons (pe_lst (pa_cons (pe_tup pa_nil) pa_nil)) pa_nil)) pps_nil) rfl rfl (by intro z;cases z) (by decide)))
    (pss_cons (ps_set (i:=3) scCodes.nd rfl (Or.inl rfl) pe_dnewT)
    (pss_cons (ps_for PassesOwn.never rfl (pi_range2 (by rfl) mr (pa_cons pe_int (pa_cons (pe_op op_add (pv 0) pe_int) pa_nil))) (pg_name (i:=4) scCodes.nd rfl (Or.inl rfl))
      (pss_cons (ps_mid (ps_if (pt_cmpR op_gt (pv 4) pe_int (nomark _)) (pss_one (ps_dput (hu1 hr) (pv 2) (pv 4) (pe_call GR.ok hr (by rfl) GR.m GR.kp GR.b .nil pass0 (pa_cons (pv 2) (pa_cons (pv 3) (pa_cons (pv 4) (pa_cons pe_int (pa_cons (pv 1) (pa_cons (pe_op op_sub (pv 4) pe_int) pa_nil))))))) rfl)) pss_nil))
      (pss_one (ps_for PassesOwn.never rfl (pi_rangeD (by rfl) mr (pa_cons (pe_op op_sub (pv 1) pe_int) (pa_cons (pe_un un_neg pe_int) (pa_cons (pe_un un_neg pe_int) pa_nil)))) (pg_name (i:=5) scCodes.nd rfl (Or.inl rfl))
        (pss_one (ps_dput (hu1 hr) (pv 3) (pe_tup (pa_cons (pv 4) (pa_cons (pv 5) pa_nil))) (pe_call GR.ok hr (by rfl) GR.m GR.kp GR.b .nil pass0 (pa_cons (pv 2) (pa_cons (pv 3) (pa_cons (pv 4) (pa_cons (pv 5) (pa_cons (pv 1) (pa_cons (pv 4) pa_nil))))))) rfl))))))
    (pss_one (ps_ret (pe_compL (M:=NCo) rfl (CompScope.of (defScope sCodes) NCo rfl rfl rfl (by decide +kernel) (by decide +kernel) (by decide +kernel) rfl (by decide +kernel)) ndCo rfl (pe_mid (pe_dget (hu1 hr) (pv 2) (pv 0) (fun _ _=>rfl))) mo_mid
      (fun cl C s0 H0 fp=>⟨pts_nil,pe_callTy (tupleK K) (by rfl) mt b_tuple (pa_cons (pv 0) pa_nil)⟩)))))),?_⟩
  refine fun ca hca=>?_
  have s1:=same_newO hca (.dK [])
  have g1:upd H ca (.dK []) ca=some (.dK []):=upd_same
  generalize upd H ca (.dK [])=H1 at s1 g1 ⊢
  refine ⟨(by show 0≤sizeLine;decide),fun t0 ht0=>?_⟩
  have s2:=same_newO ht0 (.tup [])
  have h2:upd H1 t0 (.tup []) t0=some (.tup []):=upd_same
  generalize upd H1 t0 (.tup [])=H2 at s2 h2 ⊢
  refine ⟨(by show 1≤sizeLine;decide),fun l1 hl1=>?_⟩
  have s3:=same_newO hl1 (.lst [.ref t0])
  have h3:upd H2 l1 (.lst [.ref t0]) l1=some (.lst [.ref t0]):=upd_same
  generalize upd H2 l1 (.lst [.ref t0])=H3 at s3 h3 ⊢
  refine ⟨(by show 1≤sizeLine;decide),fun l2 hl2=>?_⟩
  have s4:=same_newO hl2 (.lst [.ref l1])
  have h4:upd H3 l2 (.lst [.ref l1]) l2=some (.lst [.ref l1]):=upd_same
  generalize upd H3 l2 (.lst [.ref l1])=H4 at s4 h4 ⊢
  have g4:=s4 _ _ (s3 _ _ (s2 _ _ g1))
  have c1:CL H4 (.ref l2) (CT.Cs L 1):=⟨l2,_,rfl,h4,.cons ⟨l1,_,rfl,s4 _ _ h3,.cons (Wd.of (w:=[]) (s4 _ _ (s3 _ _ h2))) .nil⟩ .nil⟩
  have cd0:CoD H4 ca L 0 0:=⟨[],g4,Nat.le_refl _,fun k a b=>by omega⟩
  have s14:=(s2.trans s3).trans s4
  obtain ⟨kc0,ek0,_,cd1⟩:=cd0.put c1
  have ek1:kc0=[]:=by rw [g4] at ek0;cases ek0;rfl
  subst ek1
  refine ⟨g4,[(.inl 1,.ref l2)],rfl,(by show 1≤15;decide),?_⟩
  have s5:Same H (upd H4 ca (.dK (mergeK [] [(.inl 1,.ref l2)]))):=same_upd hca (s1.trans s14)
  have cd5:CoD (upd H4 ca (.dK (mergeK [] [(.inl 1,.ref l2)]))) ca L 1 1:=cd1
  generalize upd H4 ca (.dK (mergeK [] [(.inl 1,.ref l2)]))=H5 at s5 cd5 ⊢
  refine fun ra hra=>?_
  have s6:=same_newO hra (.dT [])
  have g6:upd H5 ra (.dT []) ra=some (.dT []):=upd_same
  have rn:H ra=none:=s5.free hra
  have cd6:=cd5.same s6
  have s06:=s5.trans s6
  generalize upd H5 ra (.dT [])=H6 at s6 g6 cd6 s06 ⊢
  have rd6:RoD H6 ra L 0 (fun k l=>1≤k∧k≤0∧l < L):=⟨[],g6,Nat.le_refl _,fun k l a=>by omega,fun k=>rfl⟩
  refine ⟨_,rfl,_,_,rfl,rfl,_,_,rfl,⟨by omega,by omega,by omega,by omega⟩,?_⟩
  rw [show ((n:Int)+1 - 1).toNat=n by omega]
  refine for_range (fun m σ H'=>Same H H'∧CoD H' ca L (if m=0 then 1 else m) (m+1)∧RoD H' ra L (4 * m) (fun k l=>1≤k∧k≤m∧l < L)∧∃ x4 x5:Option V,σ=[some (.int (n:Int)),some (.int (L:Int)),some (.ref ca),some (.ref ra),x4,x5])
    ⟨s06,cd6,rd6,_,_,rfl⟩ (fun m σ H7 hm hP=>?_) (fun σ H7 hP=>?_)
  · obtain ⟨s7,cd7,rd7,x4,x5,rfl⟩:=hP
    have em:(1:Int)+(m:Int)=((m+1:Nat):Int):=by push_cast;omega
    rw [em]
    have hinm:CT.inL L (m+1):=inL_le hin (by omega)
    refine ⟨fun σ' H'=>Same H H'∧CoD H' ca L (m+1) (m+2)∧RoD H' ra L (4 * m) (fun k l=>1≤k∧k≤m∧l < L)∧σ'=[some (.int (n:Int)),some (.int (L:Int)),some (.ref ca),some (.ref ra),some (.int ((m+1:Nat):Int)),x5],?_,?_⟩
    · refine ⟨_,rfl,_,_,rfl,rfl,_,rfl,?_⟩
      refine ite2 (fun z=>?_) (fun z=>?_)
      · have z1:((m+1:Nat):Int) > 1:=of_decide_eq_true z
        have m1:m≠0:=by omega
        rw [if_neg m1] at cd7
        obtain ⟨kc,ekc,nkc,ckc⟩:=cd7
        obtain ⟨kr,ekr,nkr,ckr,zkr⟩:=rd7
        have ee:((m+1:Nat):Int) - 1=(m:Int):=by omega
        have eC:CT.rw' L (CT.Cs L) (CT.Rs L) (m+1) 0 m=CT.Cs L (m+1):=(CT.Cs_eq (L:=L) (m:=m+1) (by omega)).symm
        refine ⟨_,rfl,_,rfl,_,rfl,_,rfl,_,rfl,_,_,rfl,rfl,ca,ra,kc,kr,L,m+1,0,m,(by dsimp only;rw [ee];rfl),⟨ekc,ekr,ckc,fun k l a b c=>ckr k l ⟨a,by omega,c⟩,zkr⟩,by omega,by omega,hinm,(by rw [eC];exact CT.Cs_len hinm),fun d H8 s8 c8=>?_⟩
        rw [eC] at c8
        have cd8:CoD H8 ca L m (m+1):=CoD.same s8 ⟨kc,ekc,nkc,ckc⟩
        have rd8:RoD H8 ra L (4 * m) (fun k l=>1≤k∧k≤m∧l < L):=RoD.same s8 ⟨kr,ekr,nkr,ckr,zkr⟩
        obtain ⟨kc',ekc',nkc',cd9⟩:=cd8.put c8
        refine ⟨_,rfl,_,rfl,ca,_,rfl,DPut.k (k:=.inl ((m+1:Nat):Int)) ekc' (small1000 (by omega)),same_upd hca (s7.trans s8),cd9,rd8.other ekc',rfl⟩
      · have z1:¬ ((m+1:Nat):Int) > 1:=fun y=>z (decide_eq_true y)
        have m0:m=0:=by omega
        subst m0
        obtain ⟨kc,ekc,nkc,ckc⟩:=cd7
        exact ⟨s7,⟨kc,ekc,by omega,ckc⟩,rd7,rfl⟩
    rintro σ' H8 ⟨s8,cd8,rd8,rfl⟩
    refine ⟨_,rfl,_,_,rfl,rfl,_,rfl,_,rfl,_,rfl,⟨by omega,by omega⟩,?_⟩
    rw [show ((L:Int) - 1+1).toNat=L by omega]
    refine for_range3 (fun j σ H'=>Same H H'∧CoD H' ca L (m+1) (m+2)∧RoD H' ra L (4 * m+j) (fun k l=>(1≤k∧k≤m∧l < L)∨(k=m+1∧L - j≤l∧l < L))∧∃ x5:Option V,σ=[some (.int (n:Int)),some (.int (L:Int)),some (.ref ca),some (.ref ra),some (.int ((m+1:Nat):Int)),x5])
      ⟨s8,cd8,rd8.weak (by omega) (fun k l a=>by rcases a with y | y <;> omega),_,rfl⟩ (fun j σ H9 hj hP=>?_) (fun σ H9 hP=>?_)
    · obtain ⟨s9,cd9,rd9,x5',rfl⟩:=hP
      obtain ⟨l,el⟩:∃ l,l=L - 1 - j:=⟨_,rfl⟩
      have ev:(L:Int) - 1+(j:Int) * (-1)=(l:Int):=by omega
      rw [ev]
      have hl:l < L:=by omega
      obtain ⟨kc,ekc,nkc,ckc⟩:=cd9
      obtain ⟨kr,ekr,nkr,ckr,zkr⟩:=rd9
      have eR:CT.rw' L (CT.Cs L) (CT.Rs L) (m+1) l (m+1)=CT.Rs L (m+1) l:=(CT.Rs_eq (L:=L) (m:=m+1) (by omega) hl).symm
      refine ⟨_,rfl,_,rfl,_,rfl,_,rfl,_,rfl,_,rfl,ca,ra,kc,kr,L,m+1,l,m+1,rfl,⟨ekc,ekr,ckc,fun k l a b c=>ckr k l (.inl ⟨a,by omega,c⟩),zkr⟩,by omega,hl,hinm,(by rw [eR];exact CT.Rs_len hinm),fun d H10 s10 c10=>?_⟩
      rw [eR] at c10
      refine ⟨_,rfl,_,rfl,_,rfl,(by show 2≤sizeLine;decide),fun tk htk=>?_⟩
      have s11:=same_newO htk (.tup [.int ((m+1:Nat):Int),.int (l:Int)])
      have hk:upd H10 tk (.tup [.int ((m+1:Nat):Int),.int (l:Int)]) tk=some (.tup ((k2 (m+1) l).map kV)):=upd_same
      generalize upd H10 tk (.tup [.int ((m+1:Nat):Int),.int (l:Int)])=H11 at s11 hk ⊢
      have s911:=s10.trans s11
      have cd11:CoD H11 ca L (m+1) (m+2):=CoD.same s911 ⟨kc,ekc,nkc,ckc⟩
      have rd11:RoD H11 ra L (4 * m+j) _:=RoD.same s911 ⟨kr,ekr,nkr,ckr,zkr⟩
      obtain ⟨kr',ekr',nkr',rd12⟩:=rd11.put (dn':=fun k j'=>(1≤k∧k≤m∧j' < L)∨(k=m+1∧L - (j+1)≤j'∧j' < L)) hl (c10.same s11) (fun k j' a=>by
        rcases a with y | y
        · exact .inl (.inl y)
        · by_cases e:j'=l
          · exact .inr ⟨y.1,e⟩
          · exact .inl (.inr ⟨y.1,by omega,y.2.2⟩))
      refine ⟨ra,_,rfl,DPut.t ekr' hk (small1000 (by omega)),same_upd rn (s9.trans s911),cd11.other ekr',rd12,_,rfl⟩
    · obtain ⟨s9,cd9,rd9,x5',rfl⟩:=hP
      refine ⟨s9,?_,rd9.weak (by omega) (fun k l a=>?_),_,_,rfl⟩
      · rw [if_neg (by omega)];exact cd9
      · by_cases e:k=m+1
        · exact .inr ⟨e,by omega,a.2.2⟩
        · exact .inl ⟨a.1,by omega,a.2.2⟩
  · obtain ⟨s7,cd7,rd7,x4,x5,rfl⟩:=hP
    rw [if_neg (by omega)] at cd7
    obtain ⟨kc,ekc,nkc,ckc⟩:=cd7
    obtain ⟨v,ev,cv⟩:=ckc n n1 (Nat.le_refl _)
    obtain ⟨ia,is_,rfl,hia,wia⟩:=cv
    have lia:is_.length=(CT.Cs L n).length:=wia.length
    have l9:=CT.Cs_len hin
    refine ⟨fun v H'=>v=.ref ia∧H'=H7,⟨_,rfl,_,rfl,ca,_,rfl,(by have:=DGet.k (k:=.inl (n:Int)) ekc;rw [ev] at this;exact this),rfl,rfl⟩,?_⟩
    rintro v H' ⟨rfl,rfl⟩
    refine ⟨ia,_,rfl,SqL.of hia,fun e he=>?_⟩
    refine ⟨fun k H''=>Same H' H''∧∃ zs,H'' e=some (.lst zs)∧Paired (Tw H'') zs ((CT.Cs L n).take k),⟨same_newO he _,[],upd_same,.nil⟩,fun k H'' _ hP=>SqL.of (hP.1 _ _ hia),fun k x H8 hx hP=>?_,fun H8 hP=>?_⟩
    · obtain ⟨s8,zs,g8,w8⟩:=hP
      obtain ⟨c,hc,xa,ys,rfl,hxa,wxa⟩:=Paired.right_of wia k x hx
      have kl:=(List.getElem?_eq_some_iff.mp hc).1
      refine turn_all ⟨_,rfl,xa,_,rfl,.inl ⟨SqL.of (s8 _ _ hxa),fun l hl=>?_⟩⟩
      have s9:=same_newO hl (.tup ys)
      have h9:upd H8 l (.tup ys) l=some (.tup ys):=upd_same
      generalize upd H8 l (.tup ys)=H9 at s9 h9 ⊢
      refine ⟨zs,s9 _ _ g8,small1000 (by rw [w8.length,List.length_take];omega),same_upd he (s8.trans s9),_,upd_same,?_⟩
      rw [List.take_add_one,hc]
      exact Paired.appendP (Paired.mapP w8 fun _ _ r=>(Tw.same s9 r).upd (s9 _ _ g8)) (.cons (Tw.upd (s9 _ _ g8) ⟨l,_,rfl,h9,Ws.same (s8.trans s9) wxa⟩) .nil)
    · obtain ⟨s8,zs,g8,w8⟩:=hP
      rw [lia,List.take_length] at w8
      exact q e zs H8 (s7.trans s8) g8 w8
end
end K53
set_option Elab.async false
set_option linter.all false
set_option maxRecDepth 100000
namespace K53
open PySem L2
theorem pc_bd {ps:List Int} (hp:∀ x∈ps,0≤x∧x≤B30):∀ ns:List Int,0≤CT.pc ps ns∧CT.pc ps ns≤(ns.length:Int) * B30
  | []=>⟨by show (0:Int)≤0;decide,by show (0:Int)≤0 * B30;decide⟩
  | n :: ns=>by
    obtain ⟨h1,h2⟩:=pc_bd hp ns
    have e:CT.pc ps (n :: ns)=ps.getD n.toNat 0+CT.pc ps ns:=by unfold CT.pc;simp
    have b:0≤ps.getD n.toNat 0∧ps.getD n.toNat 0≤B30:=by
      rw [List.getD_eq_getElem?_getD]
      cases hz:ps[n.toNat]? with
      | none=>exact ⟨by decide,by decide⟩
      | some z=>exact hp z (List.mem_of_getElem? hz)
    rw [e]
    have e2:((n :: ns).length:Int) * B30=(ns.length:Int) * B30+B30:=by
      rw [List.length_cons]
      push_cast
      rw [Int.add_mul]
      simp
    omega
section
variable {P:Program} {w:World} {K:PySem.W.Frag} {mg:Str→Option Value} {base:Heap} {f:Addr} {fd:FuncData}
def Lt (L:Nat) (ns:List Int):Prop:=∀ z∈ns,(0:Int)≤z∧z < (L:Int)
def spPrice:Sp:=fun vs H Q _=>∃ (x y:V) (ps ns:List Int),vs=[x,y]∧Wd H x ps∧Wd H y ns∧Lt ps.length ns∧ns.length≤1000∧∀ H',Same H H'→Q (.int (CT.pc ps ns)) H'
theorem scPrice:FnScope ["prices","word"] ["prices","word"] (defScope sPrice):=⟨rfl,rfl,rfl,by decide +kernel,rfl,by decide +kernel,by decide +kernel⟩
theorem ndP:(("letter":Str) :: ["prices","word"]).Nodup:=by decide +kernel
theorem ok_price (F:Fun K "_law_price" "_law_price" sPrice f fd) (ms:mg "sum"=none):FnOk P w K mg base CX0 1 f fd ["prices","word"] spPrice:=by
  refine F.ok (k:=0) scPrice (fun vs H Q E h=>?_) (fun cdv A outer s H vs Q E hr h=>?_)
  · obtain ⟨x,y,ps,ns,rfl,_⟩:=h
    rfl
  obtain ⟨x,y,ps,ns,rfl,hx,hy,hn,hl,q1⟩:=h
  obtain ⟨p,rfl,hp⟩:=hx.ti
  obtain ⟨a,rfl,ha⟩:=hy.ti
  refine ⟨_,pss_one (ps_ret (pe_callB (call_sum rfl) (by rfl) ms b_sum (pa_cons (pe_compT (M:=["prices","word"]) rfl (CompScope.of (defScope sPrice) ["prices","word"] rfl rfl rfl (by decide +kernel) (by decide +kernel) (by decide +kernel) rfl (by decide +kernel)) ndP rfl (pv 1) mo_var
      (fun cl C s0 H0 fp=>⟨pts_nil,pe_ix (ixT K) (pv 1) (pv 0) (fun _ _=>rfl)⟩)) pa_nil))),?_⟩
  refine ⟨_,rfl,a,_,rfl,SqT.of ha,fun d hd=>?_⟩
  refine ⟨fun k H'=>Same H H'∧H' d=some (.lst (((ns.take k).map fun x=>ps.getD x.toNat 0).map V.int)),⟨same_newO hd _,upd_same⟩,fun k H' _ hP=>SqT.of (hP.1 _ _ ha),fun k x H' hx hP=>?_,fun H' hP=>?_⟩
  · obtain ⟨sm,hd'⟩:=hP
    rw [List.getElem?_map] at hx
    cases hz:ns[k]? with
    | none=>rw [hz] at hx;cases hx
    | some z =>
      rw [hz] at hx;cases hx
      have hk:=(List.getElem?_eq_some_iff.mp hz).1
      obtain ⟨z0,z1⟩:=hn z (List.mem_of_getElem? hz)
      obtain ⟨n,rfl⟩:∃ n:Nat,z=n:=⟨z.toNat,by omega⟩
      have hn':n < ps.length:=by omega
      refine turn_all ⟨_,rfl,_,rfl,p,_,_,_,rfl,rfl,SqT.of (sm _ _ hp),at_int (List.getElem?_eq_getElem hn'),_,hd',?_,same_upd hd sm,?_⟩
      · rw [List.length_map,List.length_map,List.length_take];exact small1000 (by omega)
      · rw [upd_same,List.take_add_one,hz,List.map_append,List.map_append]
        simp [List.getD_eq_getElem?_getD,List.getElem?_eq_getElem hn']
  · obtain ⟨sm,hd'⟩:=hP
    rw [List.length_map,List.take_length] at hd'
    exact ⟨d,_,rfl,hd',q1 H' sm⟩
abbrev NC:List Str:=["prices","weights","code"]
def Bd0 (ns:List Int):Prop:=∀ x∈ns,0≤x∧x≤B30
def spCost:Sp:=fun vs H Q _=>∃ (p wa:Addr) (ps ws:List Int) (x:V) (c:CT.Code),vs=[.ref p,.ref wa,x]∧TW H p ps∧TW H wa ws∧Tw H x c∧c.length=ws.length∧c.length≤100∧(∀ u∈c,Lt ps.length u∧u.length≤1000)∧Bd0 ps∧Bd0 ws∧∀ H',Same H H'→Q (.int (CT.co ps ws 0 c)) H'
theorem scCost:FnScope NC NC (defScope sCost):=⟨rfl,rfl,rfl,by decide +kernel,rfl,by decide +kernel,by decide +kernel⟩
theorem ndC:(("weight":Str) :: "word" :: NC).Nodup:=by decide +kernel
theorem zip_at {ps ws:List Int} {nss:List (List Int)} {i:Nat} {x:Int} {ns:List Int} (h1:ws[i]?=some x) (h2:nss[i]?=some ns):(List.zipWith (fun x ns=>x * CT.pc ps ns) ws nss)[i]?=some (x * CT.pc ps ns):=by
  rw [List.getElem?_zipWith,h1,h2]
set_option maxHeartbeats 4000000 in
theorem ok_cost (F:Fun K "_law_cost" "_law_cost" sCost f fd) (G:Fns P w K mg base ["prices","word"] "_law_price" spPrice 1) (ms:mg "sum"=none) (mz:mg "zip"=none):FnOk P w K mg base CX0 2 f fd NC spCost:=by
  refine F.ok (k:=1) scCost (fun vs H Q E h=>?_) (fun cdv A outer s H vs Q E hr h=>?_)
  · obtain ⟨p,wa,ps,ws,x,c,rfl,_⟩:=h
    rfl
  obtain ⟨p,wa,ps,ws,x,nss,rfl,hp,hw,hc,el,l1,l2,bp,bw,q⟩:=h
  obtain ⟨c,xs,rfl,hc,hx⟩:=hc
  have lx:xs.length=nss.length:=hx.length
  refine ⟨_,pss_one (ps_ret (pe_callB (call_sum rfl) (by rfl) ms b_sum (pa_cons (pe_compZ K true true (M:=NC) rfl (CompScope.of (defScope sCost) NC rfl rfl rfl (by decide +kernel) (by decide +kernel) (by decide +kernel) rfl (by decide +kernel)) ndC rfl rfl (by rfl) mz (pa_cons (pv 1) (pa_cons (pv 2) pa_nil)) (mo_cons mo_var (mo_cons mo_var mo_nil))
      (fun cl C s0 H0 fp pins σ bk=>⟨pts_nil,pe_op op_mulB (pv 0) (pe_call G.ok hr (by rfl) G.m G.kp G.b .nil pass0 (pa_cons (pv 2) (pa_cons (pv 1) pa_nil)))⟩)) pa_nil))),?_⟩
  refine ⟨_,rfl,_,rfl,wa,c,_,_,rfl,SqT.of hw,SqT.of hc,by rw [List.length_map];omega,fun d hd=>?_⟩
  refine ⟨fun i H'=>Same H H'∧H' d=some (.lst (((List.zipWith (fun x ns=>x * CT.pc ps ns) ws nss).take i).map V.int)),⟨same_newO hd _,upd_same⟩,
    fun i H' _ hP=>⟨SqT.of (hP.1 _ _ hw),SqT.of (hP.1 _ _ hc)⟩,fun i x y pp H' hx' hy' hP hpp=>?_,fun H' hP=>?_⟩
  · obtain ⟨sm,hd'⟩:=hP
    rw [List.getElem?_map] at hx'
    cases hz:ws[i]? with
    | none=>rw [hz] at hx';cases hx'
    | some wt =>
    rw [hz] at hx';cases hx'
    obtain ⟨ns,hn,ry⟩:=Paired.right_of hx i y hy'
    have iw:=(List.getElem?_eq_some_iff.mp hz).1
    have s2:=same_newO hpp (.tup [.int wt,y])
    obtain ⟨lt,l3⟩:=l2 ns (List.mem_of_getElem? hn)
    refine turnZ_all ⟨_,rfl,_,rfl,_,rfl,.ref p,y,ps,ns,rfl,Wd.of (s2 _ _ (sm _ _ hp)),Wd.same (sm.trans s2) ry,lt,l3,fun H3 s3=>?_⟩
    obtain ⟨b1,b2⟩:=pc_bd bp ns
    obtain ⟨b3,b4⟩:=bw wt (List.mem_of_getElem? hz)
    have b5:(ns.length:Int)≤1000:=by omega
    have b6:(ns.length:Int) * B30≤1000 * B30:=Int.mul_le_mul_of_nonneg_right b5 (by decide)
    refine ⟨_,_,rfl,rfl,⟨⟨b3,by unfold B30 at *;omega⟩,⟨b1,by unfold B30 at *;omega⟩⟩,_,s3 _ _ (s2 _ _ hd'),?_,same_upd hd ((sm.trans s2).trans s3),?_⟩
    · rw [List.length_map,List.length_take,List.length_zipWith];exact small1000 (by omega)
    · rw [upd_same,List.take_add_one,zip_at hz hn,List.map_append];rfl
  · obtain ⟨sm,hd'⟩:=hP
    rw [List.length_map] at hd'
    rw [List.take_of_length_le (by rw [List.length_zipWith];omega)] at hd'
    exact ⟨d,_,rfl,hd',q H' sm⟩
abbrev NCh:List Str:=["prices","weights","codes","costs","least_v"]
def chp (ps ws:List Int):List CT.Code:=(CT.Cs ps.length ws.length).filter fun c=>decide (some (CT.co ps ws 0 c)=CT.mi ((CT.Cs ps.length ws.length).map (CT.co ps ws 0)))
theorem len_fil {α:Type} {f:α→Int} {m:Int}:∀ xs:List α,(xs.filter fun c=>decide (some (f c)=some m)).length=(xs.map f).count m
  | []=>rfl
  | x :: xs=>by
    rw [List.filter_cons,List.map_cons,List.count_cons,←len_fil xs]
    by_cases z:f x=m
    · rw [if_pos (by rw [z];exact decide_eq_true rfl),if_pos (beq_iff_eq.mpr z),List.length_cons]
    · rw [if_neg (fun q=>z (Option.some.inj (of_decide_eq_true q))),if_neg (fun q=>z (beq_iff_eq.mp q))];rfl
theorem chp_len {ps ws:List Int} (h:CT.inL ps.length ws.length) (h1:1≤ws.length):(chp ps ws).length=CT.ct ((CT.Cs ps.length ws.length).map (CT.co ps ws 0)):=by
  cases e:CT.mi ((CT.Cs ps.length ws.length).map (CT.co ps ws 0)) with
  | none =>
    have:=CT.Cs_ne h h1
    have z:=congrArg List.length (CT.mi_none.mp e)
    rw [List.length_map,List.length_nil] at z
    omega
  | some m =>
    unfold chp
    rw [e,len_fil,CT.ct_of e]
def spCheap:Sp:=fun vs H Q _=>∃ (p wa:Addr) (ps ws:List Int),vs=[.ref p,.ref wa]∧TW H p ps∧TW H wa ws∧CT.inL ps.length ws.length∧1≤ws.length∧Bd0 ps∧Bd0 ws∧∀ (d:Addr) ys H',Same H H'→H' d=some (.lst ys)→Paired (Tw H') ys (chp ps ws)→Q (.ref d) H'
theorem scCheap:FnScope NCh ["prices","weights"] (defScope sCheap):=⟨rfl,rfl,rfl,by decide +kernel,rfl,by decide +kernel,by decide +kernel⟩
theorem ndCh1:(("code":Str) :: NCh).Nodup:=by decide +kernel
theorem ndCh2:(("code":Str) :: "due" :: NCh).Nodup:=by decide +kernel
theorem mi_is {xs:List Int} (h:xs≠[]):CT.mi xs=some ((srt xs).headD 0):=by
  have e:(xs.map some).filterMap id=xs:=by
    clear h
    induction xs with
    | nil=>rfl
    | cons x xs ih=>rw [List.map_cons,List.filterMap_cons];simp only [id];rw [ih]
  unfold CT.mi lo
  rw [e,if_neg h]
set_option maxHeartbeats 8000000 in
theorem ok_cheap (F:Fun K "_law_cheapest" "_law_cheapest" sCheap f fd) (GC:Fns P w K mg base ["things","letters"] "_law_codes" spCodes 2) (GK:Fns P w K mg base NC "_law_cost" spCost 2) (ml:mg "len"=none) (mn:mg "min"=none) (mz:mg "zip"=none):FnOk P w K mg base CX0 3 f fd ["prices","weights"] spCheap:=by
  refine F.ok (k:=2) scCheap (fun vs H Q E h=>?_) (fun cdv A outer s H vs Q E hr h=>?_)
  · obtain ⟨p,wa,ps,ws,rfl,_⟩:=h
    rfl
  obtain ⟨p,wa,ps,ws,rfl,hp,hw,hin,n1,bp,bw,q⟩:=h
  obtain ⟨L2',L4,m6⟩:=inL_bd hin
  refine ⟨_,pss_cons (ps_set (i:=2) scCheap.nd rfl (Or.inl rfl) (pe_call GC.ok hr (by rfl) GC.m GC.kp GC.b .nil pass0 (pa_cons (pe_callB call_len_seq (by rfl) ml PySem.boot_len (pa_cons (pv 1) pa_nil)) (pa_cons (pe_callB call_len_seq (by rfl) ml PySem.boot_len (pa_cons (pv 0) pa_nil)) pa_nil))))
    (pss_cons (ps_compL (i:=3) (M:=NCh) scCheap.nd rfl rfl rfl (CompScope.of (defScope sCheap) NCh rfl rfl rfl (by decide +kernel) (by decide +kernel) (by decide +kernel) rfl (by decide +kernel)) ndCh1 rfl (pv 2) mo_var
      (fun cl C s0 H0 fp=>⟨pts_nil,pe_call GK.ok hr (by rfl) GK.m GK.kp GK.b .nil pass0 (pa_cons (pv 1) (pa_cons (pv 2) (pa_cons (pv 0) pa_nil)))⟩))
    (pss_cons (ps_set (i:=4) scCheap.nd rfl (Or.inr rfl) (pe_callB (call_minI rfl) (by rfl) mn b_min (pa_cons (pv 3) pa_nil)))
    (pss_one (ps_ret (pe_compZ K false false (M:=NCh) rfl (CompScope.of (defScope sCheap) NCh rfl rfl rfl (by decide +kernel) (by decide +kernel) (by decide +kernel) rfl (by decide +kernel)) ndCh2 rfl rfl (by rfl) mz (pa_cons (pv 2) (pa_cons (pv 3) pa_nil)) (mo_cons mo_var (mo_cons mo_var mo_nil))
      (fun cl C s0 H0 fp pins σ bk=>⟨pts_one (pt_cmpR op_eq (pv 1) (pv 6) (nomark _)),pv 0⟩)))))),?_⟩
  refine ⟨_,rfl,wa,_,rfl,.inr (SqT.of hw),_,rfl,p,_,rfl,.inr (SqT.of hp),?_⟩
  rw [List.length_map,List.length_map]
  refine ⟨ws.length,ps.length,rfl,hin,n1,fun d xs H1 s1 hd wd=>?_⟩
  have lxs:xs.length=(CT.Cs ps.length ws.length).length:=wd.length
  have l9:=CT.Cs_len hin
  have gd:=CT.Cs_gd (L:=ps.length) (m:=ws.length) n1
  refine ⟨_,rfl,d,_,rfl,SqL.of hd,fun e he=>?_⟩
  refine ⟨fun k H'=>Same H1 H'∧H' e=some (.lst ((((CT.Cs ps.length ws.length).take k).map (CT.co ps ws 0)).map V.int)),⟨same_newO he _,upd_same⟩,fun k H' _ hP=>SqL.of (hP.1 _ _ hd),fun k x H2 hx hP=>?_,fun H2 hP=>?_⟩
  · obtain ⟨s2,g2⟩:=hP
    obtain ⟨c,hc,rc⟩:=Paired.right_of wd k x hx
    have kl:=(List.getElem?_eq_some_iff.mp hc).1
    have gc:=gd c (List.mem_of_getElem? hc)
    refine turn_all ⟨_,rfl,_,rfl,_,rfl,p,wa,ps,ws,x,c,rfl,s2 _ _ (s1 _ _ hp),s2 _ _ (s1 _ _ hw),rc.same s2,gc.ln,by rw [gc.ln];omega,fun u hu=>⟨(gc.wd u hu).2,by have:=(gc.wd u hu).1;omega⟩,bp,bw,fun H3 s3=>⟨_,s3 _ _ g2,?_,same_upd he (s2.trans s3),?_⟩⟩
    · rw [List.length_map,List.length_map,List.length_take];exact small1000 (by omega)
    · rw [upd_same,List.take_add_one,hc,List.map_append,List.map_append];rfl
  obtain ⟨s2,g2⟩:=hP
  rw [lxs,List.take_length] at g2
  have eQ:∀ cc:List CT.Code,cc=chp ps ws→cc=(CT.Cs ps.length ws.length).filter fun c=>decide (some (CT.co ps ws 0 c)=CT.mi ((CT.Cs ps.length ws.length).map (CT.co ps ws 0))):=fun _ h=>h
  generalize ecs:(CT.Cs ps.length ws.length).map (CT.co ps ws 0)=cs at g2 eQ
  have lcs:cs.length=(CT.Cs ps.length ws.length).length:=by rw [←ecs,List.length_map]
  have ne:cs≠[]:=fun z=>by
    have:=CT.Cs_ne hin n1
    rw [z] at lcs
    rw [←lcs] at this
    cases this
  refine ⟨_,rfl,e,cs,rfl,.inl g2,ne,?_⟩
  generalize em:(srt cs).headD 0=m
  have mm:CT.mi cs=some m:=by rw [mi_is ne,em]
  refine ⟨_,rfl,_,rfl,d,e,_,_,rfl,SqL.of (s2 _ _ hd),SqL.of g2,by rw [List.length_map,lcs];exact lxs,fun r hr'=>?_⟩
  refine ⟨fun i H'=>Same H2 H'∧∃ ys,H' r=some (.lst ys)∧Paired (Tw H') ys (((CT.Cs ps.length ws.length).take i).filter fun c=>decide (some (CT.co ps ws 0 c)=some m)),⟨same_newO hr' _,[],upd_same,.nil⟩,fun i H' _ hP=>⟨SqL.of (hP.1 _ _ (s2 _ _ hd)),SqL.of (hP.1 _ _ g2)⟩,fun i x y pp H3 hx hy hP hpp=>?_,fun H3 hP=>?_⟩
  · obtain ⟨s3,ys,g3,ly⟩:=hP
    obtain ⟨c,hc,rc⟩:=Paired.right_of wd i x hx
    have ic:=(List.getElem?_eq_some_iff.mp hc).1
    rw [List.getElem?_map,←ecs,List.getElem?_map,hc] at hy
    have hy:y=.int (CT.co ps ws 0 c):=(Option.some.inj hy).symm
    subst hy
    have s4:=same_newO hpp (.tup [x,.int (CT.co ps ws 0 c)])
    have et:((CT.Cs ps.length ws.length).take (i+1)).filter (fun c=>decide (some (CT.co ps ws 0 c)=some m))=((CT.Cs ps.length ws.length).take i).filter (fun c=>decide (some (CT.co ps ws 0 c)=some m))++if CT.co ps ws 0 c=m then [c] else []:=by
      rw [List.take_add_one,hc,List.filter_append]
      congr 1
      show [c].filter _=_
      rw [List.filter_cons]
      by_cases y:CT.co ps ws 0 c=m
      · rw [if_pos y,if_pos (decide_eq_true (by rw [y]))];rfl
      · rw [if_neg y,if_neg (fun k=>y (Option.some.inj (of_decide_eq_true k)))];rfl
    have lt:ys.length≤900:=by
      rw [ly.length]
      refine Nat.le_trans (List.length_filter_le _ _) ?_
      rw [List.length_take]
      omega
    refine ⟨_,rfl,_,rfl,rfl,_,rfl,?_⟩
    refine ite2 (fun y=>?_) (fun y=>?_)
    · have y1:CT.co ps ws 0 c=m:=V.int.inj (of_decide_eq_true y)
      refine ⟨_,rfl,ys,s4 _ _ g3,small1000 (by omega),same_upd hr' (s3.trans s4),_,upd_same,?_⟩
      rw [et,if_pos y1]
      exact Paired.appendP (Paired.mapP ly fun _ _ r=>(Tw.same s4 r).upd (s4 _ _ g3)) (.cons ((rc.same ((s2.trans s3).trans s4)).upd (s4 _ _ g3)) .nil)
    · have y1:¬ CT.co ps ws 0 c=m:=fun k=>y (decide_eq_true (by rw [k]))
      exact ⟨s3.trans s4,ys,s4 _ _ g3,by rw [et,if_neg y1,List.append_nil];exact Paired.mapP ly fun _ _ r=>Tw.same s4 r⟩
  · obtain ⟨s3,ys,g3,ly⟩:=hP
    rw [lxs,List.take_length] at ly
    have eq1:=eQ _ rfl
    rw [mm] at eq1
    rw [←eq1] at ly
    exact q r ys H3 ((s1.trans s2).trans s3) g3 ly
end
end K53
set_option Elab.async false
set_option linter.all false
set_option maxRecDepth 100000
namespace K53
open PySem L2
namespace Kp
section
variable {P:Program} {w:World} {K:PySem.W.Frag} {mg:Str→Option Value} {base:Heap} {f:Addr} {fd:FuncData}
def al (m x:Int):Bool:=decide (0≤x) && decide (x < m)
def alone (m:Int) (ns:List Int):Bool:=(ns.map (al m)).all id
def spAlone:Sp:=fun vs H Q _=>∃ (x:V) (ns:List Int) (m:Int),vs=[x,.int m]∧Wd H x ns∧ns.length≤1000∧∀ H',Same H H'→Q (.bl (alone m ns)) H'
theorem scAlone:FnScope ["word","letters"] ["word","letters"] (defScope sAlone):=⟨rfl,rfl,rfl,by decide +kernel,rfl,by decide +kernel,by decide +kernel⟩
theorem ndA:(("letter":Str) :: ["word","letters"]).Nodup:=by decide +kernel
theorem ok_alone (F:Fun K "has_letters_alone" "has_letters_alone" sAlone f fd) (ma:mg "all"=none):FnOk P w K mg base CX0 1 f fd ["word","letters"] spAlone:=by
  refine F.ok (k:=0) scAlone (fun vs H Q E h=>?_) (fun cdv A outer s H vs Q E hr h=>?_)
  · obtain ⟨x,ns,m,rfl,_⟩:=h
    rfl
  obtain ⟨x,ns,m,rfl,hx,hl,q⟩:=h
  obtain ⟨a,rfl,ha⟩:=hx.ti
  refine ⟨_,pss_one (ps_ret (pe_callB (call_all rfl) (by rfl) ma b_all (pa_cons (pe_compT (M:=["word","letters"]) rfl (CompScope.of (defScope sAlone) ["word","letters"] rfl rfl rfl (by decide +kernel) (by decide +kernel) (by decide +kernel) rfl (by decide +kernel)) ndA rfl (pv 0) mo_var
    (fun cl C s0 H0 fp=>⟨pts_nil,pe_chain op_le op_lt pe_int (pv 0) (pv 2)⟩)) pa_nil))),?_⟩
  refine ⟨_,rfl,a,_,rfl,SqT.of ha,fun d hd=>?_⟩
  refine ⟨fun k H'=>Same H H'∧H' d=some (.lst (((ns.take k).map (al m)).map V.bl)),⟨same_newO hd _,upd_same⟩,fun k H' _ hP=>SqT.of (hP.1 _ _ ha),fun k x H' hx hP=>?_,fun H' hP=>?_⟩
  · obtain ⟨sm,hd'⟩:=hP
    rw [List.getElem?_map] at hx
    cases hz:ns[k]? with
    | none=>rw [hz] at hx;cases hx
    | some z =>
      rw [hz] at hx;cases hx
      have hk:=(List.getElem?_eq_some_iff.mp hz).1
      have fin:∀ b,b=al m z→∃ ys,H' d=some (.lst ys)∧ys.length < sizeLine∧(Same H (upd H' d (.lst (ys++[.bl b])))∧upd H' d (.lst (ys++[.bl b])) d=some (.lst (((ns.take (k+1)).map (al m)).map V.bl))):=fun b eb=>by
        refine ⟨_,hd',?_,same_upd hd sm,?_⟩
        · rw [List.length_map,List.length_map,List.length_take];exact small1000 (by omega)
        · rw [upd_same,List.take_add_one,hz,List.map_append,List.map_append,eb];rfl
      refine turn_all ⟨_,rfl,_,_,rfl,rfl,_,rfl,?_⟩
      refine ite2 (fun c=>?_) (fun c=>?_)
      · refine ⟨_,rfl,_,_,rfl,rfl,?_⟩
        exact fin _ (by unfold al;rw [c];rfl)
      · exact fin _ (by unfold al;rw [Bool.eq_false_iff.mpr c];rfl)
  · obtain ⟨sm,hd'⟩:=hP
    rw [List.length_map,List.take_length] at hd'
    exact ⟨d,_,rfl,hd',q H' sm⟩
theorem alone_of {m:Int} {ns:List Int} (h:alone m ns=true):∀ x∈ns,0≤x∧x < m:=fun x hx=>by
  have q:=List.all_eq_true.mp h (al m x) (List.mem_map_of_mem hx)
  unfold al at q
  simp only [id,Bool.and_eq_true,decide_eq_true_eq] at q
  exact q
theorem alone_iff {m:Int} {ns:List Int}:alone m ns=true↔∀ x∈ns,0≤x∧x < m:=by
  refine ⟨alone_of,fun h=>?_⟩
  unfold alone
  rw [List.all_eq_true]
  intro b hb
  obtain ⟨x,hx,rfl⟩:=List.mem_map.mp hb
  obtain ⟨h1,h2⟩:=h x hx
  unfold al
  simp [h1,h2]
def spPrice (CB:Addr):Sp:=fun vs H Q E=>∃ (x y:V) (ps ns:List Int),vs=[x,y]∧Wd H x ps∧Wd H y ns∧ns.length≤1000∧(alone (ps.length:Int) ns=true→∀ H',Same H H'→Q (.int (CT.pc ps ns)) H')∧(alone (ps.length:Int) ns=false→∀ H',Same H H'→E (.ref CB) none H')
theorem scPrice:FnScope ["prices","word"] ["prices","word"] (defScope sPPrice):=⟨rfl,rfl,rfl,by decide +kernel,rfl,by decide +kernel,by decide +kernel⟩
theorem ndP:(("letter":Str) :: ["prices","word"]).Nodup:=by decide +kernel
theorem ok_price {CB:Addr} (F:Fun K "word_price" "word_price" sPPrice f fd) (G:Fns P w K mg base ["word","letters"] "has_letters_alone" spAlone 1) (ml:mg "len"=none) (ms:mg "sum"=none) (mB:mg "BadWord"=some (.ref CB)) (eB:Ecl K CB) :
    FnOk P w K mg base (CXF P w) 2 f fd ["prices","word"] (spPrice CB):=by
  refine F.okF (k:=1) scPrice (fun vs H Q E h=>?_) (fun cdv A outer s H vs Q E hr h=>?_)
  · obtain ⟨x,y,ps,ns,rfl,_⟩:=h
    rfl
  obtain ⟨x,y,ps,ns,rfl,hx,hy,hl,q1,q2⟩:=h
  obtain ⟨p,rfl,hp⟩:=hx.ti
  obtain ⟨a,rfl,ha⟩:=hy.ti
  refine ⟨_,pss_cons (ps_if (pt_not (pt_val (pe_call G.ok hr (by rfl) G.m G.kp G.b .nil pass0 (pa_cons (pv 1) (pa_cons (pe_callB call_len_seq (by rfl) ml PySem.boot_len (pa_cons (pv 0) pa_nil)) pa_nil))))) (pss_one (ps_raise takes_def rfl (by rfl) mB eB (pa_cons pe_str pa_nil))) pss_nil)
    (pss_one (ps_ret (pe_callB (call_sum rfl) (by rfl) ms b_sum (pa_cons (pe_compT (M:=["prices","word"]) rfl (CompScope.of (defScope sPPrice) ["prices","word"] rfl rfl rfl (by decide +kernel) (by decide +kernel) (by decide +kernel) rfl (by decide +kernel)) ndP rfl (pv 1) mo_var
      (fun cl C s0 H0 fp=>⟨pts_nil,pe_ix (ixT K) (pv 1) (pv 0) (fun _ _=>rfl)⟩)) pa_nil)))),?_⟩
  refine ⟨_,rfl,_,rfl,p,_,rfl,.inr (SqT.of hp),.ref a,ns,_,rfl,Wd.of ha,hl,fun H1 s1=>?_⟩
  rw [List.length_map]
  refine ⟨_,rfl,?_⟩
  refine ite2 (fun c=>?_) (fun c=>?_)
  · have c1:alone (ps.length:Int) ns=false:=by
      cases hb:alone (ps.length:Int) ns with
      | false=>rfl
      | true=>rw [hb] at c;cases c
    exact ⟨by decide,q2 c1 H1 s1⟩
  have c1:alone (ps.length:Int) ns=true:=by
    cases hb:alone (ps.length:Int) ns with
    | true=>rfl
    | false=>rw [hb] at c;exact absurd rfl c
  have hn:=alone_of c1
  refine ⟨_,rfl,a,_,rfl,SqT.of (s1 _ _ ha),fun d hd=>?_⟩
  refine ⟨fun k H'=>Same H1 H'∧H' d=some (.lst (((ns.take k).map fun x=>ps.getD x.toNat 0).map V.int)),⟨same_newO hd _,upd_same⟩,fun k H' _ hP=>SqT.of (hP.1 _ _ (s1 _ _ ha)),fun k x H' hx hP=>?_,fun H' hP=>?_⟩
  · obtain ⟨sm,hd'⟩:=hP
    rw [List.getElem?_map] at hx
    cases hz:ns[k]? with
    | none=>rw [hz] at hx;cases hx
    | some z =>
      rw [hz] at hx;cases hx
      have hk:=(List.getElem?_eq_some_iff.mp hz).1
      obtain ⟨z0,z1⟩:=hn z (List.mem_of_getElem? hz)
      obtain ⟨n,rfl⟩:∃ n:Nat,z=n:=⟨z.toNat,by omega⟩
      have hn':n < ps.length:=by omega
      refine turn_all ⟨_,rfl,_,rfl,p,_,_,_,rfl,rfl,SqT.of (sm _ _ (s1 _ _ hp)),at_int (List.getElem?_eq_getElem hn'),_,hd',?_,same_upd hd sm,?_⟩
      · rw [List.length_map,List.length_map,List.length_take];exact small1000 (by omega)
      · rw [upd_same,List.take_add_one,hz,List.map_append,List.map_append]
        simp [List.getD_eq_getElem?_getD,List.getElem?_eq_getElem hn']
  · obtain ⟨sm,hd'⟩:=hP
    rw [List.length_map,List.take_length] at hd'
    exact ⟨d,_,rfl,hd',q1 c1 H' (s1.trans sm)⟩
end
section
variable {P:Program} {w:World} {K:PySem.W.Frag} {mg:Str→Option Value} {base:Heap} {f:Addr} {fd:FuncData}
def spCost (CU CB:Addr):Sp:=fun vs H Q E=>∃ (p wa c:Addr) (ps ws:List Int) (xs:List V) (nss:List (List Int)),vs=[.ref p,.ref wa,.ref c]∧TW H p ps∧TW H wa ws∧H c=some (.tup xs)∧Ws H xs nss∧nss.length≤100∧(∀ ns∈nss,ns.length≤1000)∧Bd0 ps∧Bd0 ws ∧
  (nss.length≠ws.length→∀ H',Same H H'→E (.ref CU) none H')∧(nss.length=ws.length→(∀ ns∈nss,alone (ps.length:Int) ns=true)→∀ H',Same H H'→Q (.int (CT.co ps ws 0 nss)) H') ∧
  (nss.length=ws.length→(∃ ns∈nss,alone (ps.length:Int) ns=false)→∀ H',Same H H'→E (.ref CB) none H')
theorem scCost:FnScope NC NC (defScope sPCost):=⟨rfl,rfl,rfl,by decide +kernel,rfl,by decide +kernel,by decide +kernel⟩
theorem ndC:(("weight":Str) :: "word" :: NC).Nodup:=by decide +kernel
theorem zip_at {ps ws:List Int} {nss:List (List Int)} {i:Nat} {x:Int} {ns:List Int} (h1:ws[i]?=some x) (h2:nss[i]?=some ns):(List.zipWith (fun x ns=>x * CT.pc ps ns) ws nss)[i]?=some (x * CT.pc ps ns):=by
  rw [List.getElem?_zipWith,h1,h2]
set_option maxHeartbeats 2000000 in
theorem ok_cost {CU CB:Addr} (F:Fun K "cost" "cost" sPCost f fd) (G:Fns' P w K mg base ["prices","word"] "word_price" (spPrice CB) 2) (ml:mg "len"=none) (ms:mg "sum"=none) (mz:mg "zip"=none) (mU:mg "Unlike"=some (.ref CU)) (eU:Ecl K CU) :
    FnOk P w K mg base (CXF P w) 3 f fd NC (spCost CU CB):=by
  refine F.okF (k:=2) scCost (fun vs H Q E h=>?_) (fun cdv A outer s H vs Q E hr h=>?_)
  · obtain ⟨p,wa,c,ps,ws,xs,nss,rfl,_⟩:=h
    rfl
  obtain ⟨p,wa,c,ps,ws,xs,nss,rfl,hp,hw,hc,hx,l1,l2,bp,bw,q1,q2,q3⟩:=h
  have lx:xs.length=nss.length:=hx.length
  refine ⟨_,pss_cons (ps_if (pt_cmpR op_ne (pe_callB call_len_seq (by rfl) ml PySem.boot_len (pa_cons (pv 2) pa_nil)) (pe_callB call_len_seq (by rfl) ml PySem.boot_len (pa_cons (pv 1) pa_nil)) (nomark _)) (pss_one (ps_raise takes_def rfl (by rfl) mU eU (pa_cons pe_str pa_nil))) pss_nil)
    (pss_one (ps_ret (pe_callB (call_sum rfl) (by rfl) ms b_sum (pa_cons (pe_compZ K true true (M:=NC) rfl (CompScope.of (defScope sPCost) NC rfl rfl rfl (by decide +kernel) (by decide +kernel) (by decide +kernel) rfl (by decide +kernel)) ndC rfl rfl (by rfl) mz (pa_cons (pv 1) (pa_cons (pv 2) pa_nil)) (mo_cons mo_var (mo_cons mo_var mo_nil))
      (fun cl C s0 H0 fp pins σ bk=>⟨pts_nil,pe_op op_mulB (pv 0) (pe_call G.ok hr (by rfl) G.m G.kp G.b .nil (passes_comp bk ⟨rfl,rfl⟩ takes_defI) (pa_cons (pv 2) (pa_cons (pv 1) pa_nil)))⟩)) pa_nil)))),?_⟩
  refine ⟨_,rfl,c,_,rfl,.inr (SqT.of hc),_,rfl,wa,_,rfl,.inr (SqT.of hw),rfl,_,rfl,?_⟩
  rw [List.length_map,lx]
  refine ite2 (fun b=>?_) (fun b=>?_)
  · refine ⟨by decide,q1 (fun z=>?_) H (Same.refl _)⟩
    rw [z] at b
    simp at b
  have el:nss.length=ws.length:=by
    by_cases z:nss.length=ws.length
    · exact z
    · refine absurd ?_ b
      rw [Bool.not_eq_true',decide_eq_false_iff_not]
      intro y
      have:=V.int.inj y
      omega
  refine ⟨_,rfl,_,rfl,wa,c,_,_,rfl,SqT.of hw,SqT.of hc,by rw [List.length_map];omega,fun d hd=>?_⟩
  refine ⟨fun i H'=>Same H H'∧H' d=some (.lst (((List.zipWith (fun x ns=>x * CT.pc ps ns) ws nss).take i).map V.int))∧∀ j,j < i→∀ ns,nss[j]?=some ns→alone (ps.length:Int) ns=true,⟨same_newO hd _,upd_same,fun j hj=>absurd hj (by omega)⟩,
    fun i H' _ hP=>⟨SqT.of (hP.1 _ _ hw),SqT.of (hP.1 _ _ hc)⟩,fun i x y pp H' hx' hy' hP hpp=>?_,fun H' hP=>?_⟩
  · obtain ⟨sm,hd',al⟩:=hP
    rw [List.getElem?_map] at hx'
    cases hz:ws[i]? with
    | none=>rw [hz] at hx';cases hx'
    | some wt =>
    rw [hz] at hx';cases hx'
    obtain ⟨ns,hn,ry⟩:=Paired.right_of hx i y hy'
    have iw:=(List.getElem?_eq_some_iff.mp hz).1
    have s2:=same_newO hpp (.tup [.int wt,y])
    have dn:d≠pp:=ne_of_none hd' hpp
    refine turnZ_all ⟨_,rfl,_,rfl,_,rfl,.ref p,y,ps,ns,rfl,Wd.of (s2 _ _ (sm _ _ hp)),Wd.same (sm.trans s2) ry,l2 ns (List.mem_of_getElem? hn),fun ok H3 s3=>?_,fun bad H3 s3=>?_⟩
    · obtain ⟨b1,b2⟩:=pc_bd bp ns
      obtain ⟨b3,b4⟩:=bw wt (List.mem_of_getElem? hz)
      have b5:(ns.length:Int)≤1000:=by have:=l2 ns (List.mem_of_getElem? hn);omega
      have b6:(ns.length:Int) * B30≤1000 * B30:=Int.mul_le_mul_of_nonneg_right b5 (by decide)
      refine ⟨_,_,rfl,rfl,⟨⟨b3,by unfold B30 at *;omega⟩,⟨b1,by unfold B30 at *;omega⟩⟩,_,s3 _ _ (s2 _ _ hd'),?_,same_upd hd ((sm.trans s2).trans s3),?_,fun j hj ms hm=>?_⟩
      · rw [List.length_map,List.length_take,List.length_zipWith];exact small1000 (by omega)
      · rw [upd_same,List.take_add_one,zip_at hz hn,List.map_append];rfl
      · rcases Nat.lt_succ_iff_lt_or_eq.mp hj with z | z
        · exact al j z ms hm
        · rw [z,hn] at hm;cases hm;exact ok
    · exact q3 el ⟨ns,List.mem_of_getElem? hn,bad⟩ H3 ((sm.trans s2).trans s3)
  · obtain ⟨sm,hd',al⟩:=hP
    rw [List.length_map] at hd' al
    rw [List.take_of_length_le (by rw [List.length_zipWith];omega)] at hd'
    refine ⟨d,_,rfl,hd',q2 el (fun ns hns=>?_) H' sm⟩
    obtain ⟨j,hj⟩:=List.mem_iff_getElem?.mp hns
    exact al j (by have:=(List.getElem?_eq_some_iff.mp hj).1;omega) ns hj
end
end Kp
end K53
set_option Elab.async false
set_option linter.all false
set_option maxRecDepth 100000
namespace K53
open PySem L2
namespace CT
section
variable {L n:Nat} {h t:Nat→Nat→Nat→OI} {F:Nat→Nat→OI} {p:Nat→Int} {W:Nat→Nat→Int} {Cs:Nat→List Code} {Rs:Nat→Nat→List Code} {co:Nat→Code→Int}
theorem row_min (T:Tb L n h t F p W) (E:En L p W Cs Rs co) {i w low most:Nat} (hw:i+w≤n) (hm:most≤w) (hl:low≤L)
    (ihC:∀ m,1≤m→m≤most→mi ((Cs m).map (co i))=F i (i+m))
    (ihR:∀ m l k,1≤m→m < w→l < L→k+m≤n→mi ((Rs m l).map (co k))=t l k (k+m)) :
    ∀ q∈Bk L low most,mi (((Cs (q.2+1)).flatMap fun c=>(bhd Rs w q).map fun r=>ahd q.1 c++r).map (co i))=vl h t i (i+w) q:=by
  intro q hq
  obtain ⟨q1,q2,q3⟩:=Bk_mem.mp hq
  have e:((Cs (q.2+1)).flatMap fun c=>(bhd Rs w q).map fun r=>ahd q.1 c++r).map (co i)=sums (p q.1 * W i (i+q.2+1)) ((Cs (q.2+1)).map (co i)) ((bhd Rs w q).map (co (i+q.2+1))):=by
    unfold sums
    rw [List.map_flatMap,List.flatMap_map]
    have:∀ c∈Cs (q.2+1),((bhd Rs w q).map fun r=>ahd q.1 c++r).map (co i)=((bhd Rs w q).map (co (i+q.2+1))).map fun b=>p q.1 * W i (i+q.2+1)+co i c+b:=fun c hc=>by
      rw [List.map_map,List.map_map]
      refine List.map_congr_left fun r _=>?_
      show co i (ahd q.1 c++r)=_
      rw [E.app i q.1 (q.2+1) c r hc]
      rfl
    clear hq
    generalize Cs (q.2+1)=xs at this
    induction xs with
    | nil=>rfl
    | cons x xs ih =>
      rw [List.flatMap_cons,List.flatMap_cons,this x (.head _),ih fun c hc=>this c (.tail _ hc)]
  have c1:=ihC (q.2+1) (by omega) (by omega)
  have hB:mi ((bhd Rs w q).map (co (i+q.2+1)))=t (q.1+1) (i+q.2+1) (i+w):=by
    by_cases hlt:q.2+1 < w
    · unfold bhd
      rw [if_pos hlt]
      by_cases hL:q.1+1 < L
      · have r1:=ihR (w - (q.2+1)) (q.1+1) (i+q.2+1) (by omega) (by omega) hL (by omega)
        rw [show i+q.2+1+(w - (q.2+1))=i+w by omega] at r1
        exact r1
      · have eL:q.1+1=L:=by omega
        have en:t (q.1+1) (i+q.2+1) (i+w)=none:=by
          rw [T.tt (q.1+1) (i+q.2+1) (i+w) (by omega) (by omega) hw,eL]
          unfold Bk
          rw [Nat.sub_self]
          exact lo_nil
        rw [en,eL,E.rL]
        exact mi_none.mpr rfl
    · unfold bhd
      rw [if_neg hlt]
      have ee:i+q.2+1=i+w:=by omega
      rw [ee,T.dg (q.1+1) (i+w) (by omega) hw]
      have e1:[([]:Code)].map (co (i+w))=[0]:=by rw [List.map_singleton,E.nil]
      rw [e1]
      exact mi_some.mpr ⟨.head _,fun k hk=>by simp at hk;omega⟩
  rw [e,mi_sums,hB,c1]
  show oadd (oadd (some (p q.1 * W i (i+q.2+1))) (F i (i+(q.2+1)))) _=vl h t i (i+w) q
  unfold vl
  rw [T.hh q.1 i (i+q.2+1) q2 (by omega) (by omega)]
  rfl
theorem least_is (T:Tb L n h t F p W) (E:En L p W Cs Rs co):∀ d w i,w≤d→1≤w→i+w≤n →
    mi ((Cs w).map (co i))=F i (i+w)∧∀ l,l < L→mi ((Rs w l).map (co i))=t l i (i+w)
  | 0,w,i,hd,h1,hw=>by omega
  | d+1,w,i,hd,h1,hw=>by
    have ih:=least_is T E d
    have hC':∀ m,1≤m→m < w→mi ((Cs m).map (co i))=F i (i+m):=fun m a b=>(ih m i (by omega) a (by omega)).1
    have hR':∀ m l k,1≤m→m < w→l < L→k+m≤n→mi ((Rs m l).map (co k))=t l k (k+m):=fun m l k a b c e=>(ih m k (by omega) a e).2 l c
    have blk:∀ low most,most≤w→low≤L→(∀ m,1≤m→m≤most→mi ((Cs m).map (co i))=F i (i+m)) →
        mi ((rw' L Cs Rs w low most).map (co i))=lo ((Bk L low most).map (vl h t i (i+w))):=by
      intro low most hm hl hC
      have R:=row_min T E hw hm hl hC hR'
      unfold rw'
      rw [List.map_flatMap,mi_flat]
      congr 1
      exact List.map_congr_left fun q hq=>R q hq
    have hCw:mi ((Cs w).map (co i))=F i (i+w):=by
      by_cases e:w=1
      · subst e
        rw [E.c1,T.ff i (i+1) (by omega) hw,if_pos (by omega)]
        have e1:[([[]]:Code)].map (co i)=[0]:=by rw [List.map_singleton,E.one]
        rw [e1]
        exact mi_some.mpr ⟨.head _,fun k hk=>by simp at hk;omega⟩
      · have b1:=blk 0 (w - 1) (by omega) (Nat.zero_le _) fun m a b=>hC' m a (by omega)
        rw [E.cs w (by omega),b1,T.ff i (i+w) (by omega) hw,if_neg (by omega),show i+w - 1 - i=w - 1 by omega]
    refine ⟨hCw,fun l hl=>?_⟩
    have b1:=blk l w (Nat.le_refl _) (by omega) fun m a b=>by
      by_cases e:m=w
      · subst e;exact hCw
      · exact hC' m a (by omega)
    have et:=T.tt l i (i+w) (by omega) (by omega) hw
    rw [show i+w - i=w by omega] at et
    rw [E.rs w l h1 hl,b1,et]
end
theorem kept_iff {ps ws:List Int} {h t:Nat→Nat→Nat→OI} {F:Nat→Nat→OI} (T:Tb ps.length ws.length h t F (pl ps) (Wt ws)) (bp:Po ps) (bw:Po ws) (n1:1≤ws.length) {c:Code} (hl:c.length=ws.length) (il:InL ps.length c) :
    (KP c∧some (co ps ws 0 c)=F 0 ws.length)↔c∈(Cs ps.length ws.length).filter fun c=>decide (some (co ps ws 0 c)=mi ((Cs ps.length ws.length).map (co ps ws 0))):=by
  have key:=(least_is T (en (ps:=ps) (ws:=ws)) ws.length ws.length 0 (Nat.le_refl _) n1 (by omega)).1
  rw [Nat.zero_add] at key
  rw [List.mem_filter,key]
  constructor
  · rintro ⟨k,e⟩
    refine ⟨?_,decide_eq_true e⟩
    have ne:c≠[]:=by intro z;rw [z,List.length_nil] at hl;omega
    have b:=(best bp bw (sz c) c 0 (Nat.le_refl _) ne (by omega) k il).2
    rw [hl] at b
    rcases b with b | ⟨c',hc',lt⟩
    · exact b
    · exfalso
      rw [←e] at key
      have:=(mi_some.mp key).2 _ (List.mem_map_of_mem hc')
      omega
  · rintro ⟨hc,e⟩
    exact ⟨Cs_kp n1 c hc,of_decide_eq_true e⟩
end CT
end K53
set_option Elab.async false
set_option linter.all false
set_option maxRecDepth 100000
namespace K53
open PySem L2
namespace Kp
section
variable {P:Program} {w:World} {K:PySem.W.Frag} {mg:Str→Option Value} {base:Heap} {f:Addr} {fd:FuncData}
def spBrow (C:Addr):Sp:=fun vs H Q _=>∃ (r p:Addr) (ps ws:List Int) (X:Ad) (h t:Nat→Nat→Nat→OI) (i:Nat),vs=[.ref r,.int (i:Int)]∧PAt C H r p ps ws X h t∧ws.length≤20∧ps.length≤10∧i < ws.length ∧
  ∀ (a:Addr) H',Same H H'→H a=none→H' a=some (.lst ((List.range (ws.length - i)).map fun b=>oV (bnd ps.length h t i (i+b+1))))→Q (.ref a) H'
theorem scBrow:FnScope ["self","first"] ["self","first"] (defScope sBrow):=⟨rfl,rfl,rfl,by decide +kernel,rfl,by decide +kernel,by decide +kernel⟩
theorem ndBr:(("end":Str) :: ["self","first"]).Nodup:=by decide +kernel
set_option maxHeartbeats 4000000 in
theorem ok_brow {C:Addr} (F:Fun K "bound_row" "Parted.bound_row" sBrow f fd) (M:Mt P w K mg base C "bound" ["self","first","end"] (spBound C) 3) (rc:PC K C) (mr:mg "range"=none):FnOk P w K mg base CX0 4 f fd ["self","first"] (spBrow C):=by
  refine F.ok (k:=3) scBrow (fun vs H Q E h=>?_) (fun cdv A outer s H vs Q E hr h=>?_)
  · obtain ⟨r,p,ps,ws,X,h,t,i,rfl,_⟩:=h
    rfl
  obtain ⟨r,p,ps,ws,X,h,t,i,rfl,pa,w20,p10,hi,q⟩:=h
  refine ⟨_,pss_one (ps_ret (pe_compR2 (M:=["self","first"]) rfl (CompScope.of (defScope sBrow) ["self","first"] rfl rfl rfl (by decide +kernel) (by decide +kernel) (by decide +kernel) rfl (by decide +kernel)) ndBr rfl (by rfl) mr (pa_cons (pe_op op_add (pv 1) pe_int) (pa_cons (pe_op op_add (pe_fld (pv 0) rfl) pe_int) pa_nil)) (mo_cons (mo_op mo_rI0 mo_var mo_c) (mo_cons (mo_op mo_rI0 (mo_fld mo_var) mo_c) mo_nil))
      (fun cl C s0 H0 fp=>⟨pts_nil,pe_meth (pv 1) rc.c M.m M.ok hr M.b .nil pass0 (pa_cons (pv 2) (pa_cons (pv 0) pa_nil))⟩))),?_⟩
  obtain ⟨dx,ho⟩:=pa.ob
  refine ⟨_,rfl,_,_,rfl,rfl,_,rfl,r,C,dx,_,_,rfl,ho,rc.c,rc.nn,rfl,_,_,rfl,rfl,_,_,rfl,⟨by omega,by omega,by omega,by omega⟩,fun d hd=>?_⟩
  have en:(((ws.length:Int)+1) - ((i:Int)+1)).toNat=ws.length - i:=by omega
  dsimp only
  rw [en]
  refine ⟨fun b H'=>Same H H'∧H' d=some (.lst ((List.range b).map fun b=>oV (bnd ps.length h t i (i+b+1)))),⟨same_newO hd _,upd_same⟩,fun b H' hb hP=>?_,fun H' hP=>?_⟩
  · obtain ⟨s5,hd'⟩:=hP
    have eb:(i:Int)+1+(b:Int)=((i+b+1:Nat):Int):=by push_cast;omega
    rw [eb]
    refine turn_all ⟨_,rfl,r,dx,_,rfl,s5 _ _ ho,rfl,_,rfl,_,rfl,r,p,ps,ws,X,h,t,i,i+b+1,rfl,pa.same s5,w20,p10,by omega,by omega,fun H6 s6=>⟨_,s6 _ _ hd',?_,same_upd hd (s5.trans s6),?_⟩⟩
    · rw [List.length_map,List.length_range];exact small1000 (by omega)
    · rw [upd_same,List.range_succ,List.map_append];rfl
  · obtain ⟨s5,hd'⟩:=hP
    exact q d H' s5 hd hd'
def spBounds (C:Addr):Sp:=fun vs H Q _=>∃ (r p:Addr) (ps ws:List Int) (X:Ad) (h t:Nat→Nat→Nat→OI),vs=[.ref r]∧PAt C H r p ps ws X h t∧ws.length≤20∧ps.length≤10 ∧
  ∀ (d:Addr) (ra:Nat→Addr) H',Same H H'→H d=none→(∀ i,i < ws.length→H (ra i)=none)→(∀ i j,i < ws.length→j < ws.length→ra i=ra j→i=j)→(∀ i,i < ws.length→ra i≠d) →
    H' d=some (.lst ((List.range ws.length).map fun i=>.ref (ra i)))→(∀ i,i < ws.length→H' (ra i)=some (.lst ((List.range (ws.length - i)).map fun b=>oV (bnd ps.length h t i (i+b+1)))))→Q (.ref d) H'
theorem scBounds:FnScope ["self"] ["self"] (defScope sBounds):=⟨rfl,rfl,rfl,by decide +kernel,rfl,by decide +kernel,by decide +kernel⟩
theorem ndBs:(("first":Str) :: ["self"]).Nodup:=by decide +kernel
set_option maxHeartbeats 4000000 in
theorem ok_bounds {C:Addr} (F:Fun K "bounds" "Parted.bounds" sBounds f fd) (M:Mt P w K mg base C "bound_row" ["self","first"] (spBrow C) 4) (rc:PC K C) (mr:mg "range"=none):FnOk P w K mg base CX0 5 f fd ["self"] (spBounds C):=by
  refine F.ok (k:=4) scBounds (fun vs H Q E h=>?_) (fun cdv A outer s H vs Q E hr h=>?_)
  · obtain ⟨r,p,ps,ws,X,h,t,rfl,_⟩:=h
    rfl
  obtain ⟨r,p,ps,ws,X,h,t,rfl,pa,w20,p10,qq⟩:=h
  refine ⟨_,pss_one (ps_ret (pe_compR1 (M:=["self"]) rfl (CompScope.of (defScope sBounds) ["self"] rfl rfl rfl (by decide +kernel) (by decide +kernel) (by decide +kernel) rfl (by decide +kernel)) ndBs rfl (by rfl) mr (pa_cons (pe_fld (pv 0) rfl) pa_nil) (mo_cons (mo_fld mo_var) mo_nil)
      (fun cl C s0 H0 fp=>⟨pts_nil,pe_meth (pv 1) rc.c M.m M.ok hr M.b .nil pass0 (pa_cons (pv 0) pa_nil)⟩))),?_⟩
  obtain ⟨dx,ho⟩:=pa.ob
  refine ⟨_,rfl,r,C,dx,_,_,rfl,ho,rc.c,rc.nn,rfl,_,rfl,by omega,by omega,fun d hd=>?_⟩
  rw [Int.toNat_natCast]
  refine ⟨fun i H'=>Same H H'∧∃ ra:Nat→Addr,(∀ k,k < i→H (ra k)=none)∧(∀ j k,j < i→k < i→ra j=ra k→j=k)∧(∀ k,k < i→ra k≠d)∧H' d=some (.lst ((List.range i).map fun k=>.ref (ra k)))∧∀ k,k < i→H' (ra k)=some (.lst ((List.range (ws.length - k)).map fun b=>oV (bnd ps.length h t k (k+b+1)))),⟨same_newO hd _,fun _=>d,fun k hk=>absurd hk (Nat.not_lt_zero _),fun j k hj=>absurd hj (Nat.not_lt_zero _),fun k hk=>absurd hk (Nat.not_lt_zero _),upd_same,fun k hk=>absurd hk (Nat.not_lt_zero _)⟩,fun i H1 hi hP=>?_,fun H1 hP=>?_⟩
  · obtain ⟨s1,ca,c1,c2,c3,c4,c5⟩:=hP
    rw [show (0:Int)+(i:Int)=(i:Int) from Int.zero_add _]
    refine turn_all ⟨_,rfl,r,dx,_,rfl,s1 _ _ ho,rfl,_,rfl,r,p,ps,ws,X,h,t,i,rfl,pa.same s1,w20,p10,hi,fun a H2 s2 hp2 g2=>?_⟩
    have pd:a≠d:=fun z=>by rw [z,c4] at hp2;cases hp2
    have pk:∀ k,k < i→ca k≠a:=fun k hk z=>by rw [←z,c5 k hk] at hp2;cases hp2
    refine ⟨_,s2 _ _ c4,?_,same_upd hd (s1.trans s2),ext ca i a,fun k hk=>?_,fun j k hj hk e=>?_,fun k hk=>?_,?_,fun k hk=>?_⟩
    · rw [List.length_map,List.length_range];exact small1000 (by omega)
    · by_cases z:k=i
      · rw [ext_same z];exact s1.free hp2
      · rw [ext_ne z];exact c1 k (by omega)
    · by_cases z1:j=i <;> by_cases z2:k=i
      · omega
      · rw [ext_same z1,ext_ne z2] at e
        exact absurd e.symm (pk k (by omega))
      · rw [ext_ne z1,ext_same z2] at e
        exact absurd e (pk j (by omega))
      · rw [ext_ne z1,ext_ne z2] at e
        exact c2 j k (by omega) (by omega) e
    · by_cases z:k=i
      · rw [ext_same z];exact pd
      · rw [ext_ne z];exact c3 k (by omega)
    · rw [upd_same,List.range_succ,List.map_append]
      refine congrArg (fun z=>some (HO.lst z)) ?_
      congr 1
      · refine List.map_congr_left fun k hk=>?_
        rw [ext_ne (by have:=List.mem_range.mp hk;omega)]
      · show [V.ref a]=[V.ref (ext ca i a i)]
        rw [ext_same rfl]
    · by_cases z:k=i
      · rw [ext_same z,upd_ne pd,z];exact g2
      · rw [ext_ne z,upd_ne (c3 k (by omega))];exact s2 _ _ (c5 k (by omega))
  · obtain ⟨s1,ca,c1,c2,c3,c4,c5⟩:=hP
    exact qq d ca H1 s1 hd c1 c2 c3 c4 c5
end
section
variable {P':Program} {w:World} {K:PySem.W.Frag} {mg:Str→Option Value} {base:Heap} {f:Addr} {fd:FuncData}
structure In2 (H:Hp) (p q:Addr) (ps ws:List Int):Prop where
  hp:TW H p ps
  hq:TW H q ws
  nu:Num ps ws
  pp:Po ps
  pw:Po ws
  il:CT.inL ps.length ws.length
theorem In2.same {H H':Hp} {p q:Addr} {ps ws:List Int} (s:Same H H') (a:In2 H p q ps ws):In2 H' p q ps ws:=⟨s _ _ a.hp,s _ _ a.hq,a.nu,a.pp,a.pw,a.il⟩
def spLf:Sp:=fun vs H Q _=>∃ (p q:Addr) (ps ws:List Int),vs=[.ref p,.ref q]∧In2 H p q ps ws∧∀ (d:Addr) (ra:Nat→Addr) h t F H',Same H H'→H' d=some (.lst ((List.range ws.length).map fun i=>.ref (ra i)))→(∀ i,i < ws.length→H' (ra i)=some (.lst ((rowO F ws.length i).map oV)))→CT.Tb ps.length ws.length h t F (pl ps) (Wt ws)→Q (.ref d) H'
theorem scLf:FnScope ["prices","weights"] ["prices","weights"] (defScope sLf):=⟨rfl,rfl,rfl,by decide +kernel,rfl,by decide +kernel,by decide +kernel⟩
theorem ok_lf {C:Addr} (F:Fun K "least_floors" "least_floors" sLf f fd) (G:Fns P' w K mg base ["prices","weights"] "parted_least" (spPl C) 5) (M:Mt P' w K mg base C "bounds" ["self"] (spBounds C) 5) (rc:PC K C):FnOk P' w K mg base CX0 6 f fd ["prices","weights"] spLf:=by
  refine F.ok (k:=5) scLf (fun vs H Q E h=>?_) (fun cdv A outer s H vs Q E hr h=>?_)
  · obtain ⟨p,q,ps,ws,rfl,_⟩:=h
    rfl
  obtain ⟨p,q,ps,ws,rfl,i2,qq⟩:=h
  have nu:=i2.nu
  refine ⟨_,pss_one (ps_ret (pe_meth0 (pe_call G.ok hr (by rfl) G.m G.kp G.b .nil pass0 (pa_cons (pv 0) (pa_cons (pv 1) pa_nil))) rc.c M.m M.ok hr M.b .nil pass0)),?_⟩
  refine ⟨_,rfl,_,rfl,p,q,ps,ws,rfl,i2.hp,i2.hq,nu,fun r X h t Fl H1 s1 pa fn=>?_⟩
  have T':=fn.tb nu.p2 i2.pp i2.pw
  obtain ⟨dx,ho⟩:=pa.ob
  refine ⟨r,dx,_,rfl,ho,rfl,r,p,ps,ws,X,h,t,rfl,pa,nu.w20,nu.p10,fun d ra H2 s2 hd h1 h2 h3 h4 h5=>?_⟩
  refine qq d ra h t Fl H2 (s1.trans s2) h4 (fun i hi=>?_) T'
  rw [h5 i hi,List.map_map]
  refine congrArg (fun z=>some (HO.lst z)) (List.map_congr_left fun b hb=>?_)
  have:=List.mem_range.mp hb
  show oV (bnd ps.length h t i (i+b+1))=oV (Fl i (i+b+1))
  rw [fn.bd i (i+b+1) (by omega) (by omega) trivial]
structure Cde (H:Hp) (a:Addr) (c:CT.Code):Prop where
  o:∃ xs,H a=some (.tup xs)∧Ws H xs c
  l:c.length≤100
  w:∀ u∈c,u.length≤1000
theorem Cde.same {H H':Hp} {a:Addr} {c:CT.Code} (s:Same H H') (h:Cde H a c):Cde H' a c:=by
  obtain ⟨xs,h1,h2⟩:=h.o
  exact ⟨⟨xs,s _ _ h1,Ws.same s h2⟩,h.l,h.w⟩
theorem kadj_kp {c:CT.Code}:Kadj c↔CT.KP c:=by
  constructor
  · intro h
    refine List.pairwise_iff_getElem.mpr fun i j hi hj hij=>?_
    have:=adj_lt h (j - i - 1) i c[i] c[j] (List.getElem?_eq_getElem hi) (by rw [show i+(j - i - 1)+1=j by omega];exact List.getElem?_eq_getElem hj)
    exact this
  · intro h k u v' hu hv
    obtain ⟨hi,rfl⟩:=List.getElem?_eq_some_iff.mp hu
    obtain ⟨hj,rfl⟩:=List.getElem?_eq_some_iff.mp hv
    exact List.pairwise_iff_getElem.mp h k (k+1) hi hj (by omega)
def spIck (CU CB:Addr):Sp:=fun vs H Q E=>∃ (p q a:Addr) (ps ws:List Int) (c:CT.Code),vs=[.ref p,.ref q,.ref a]∧In2 H p q ps ws∧Cde H a c ∧
  (c.length≠ws.length→∀ H',Same H H'→E (.ref CU) none H')∧(c.length=ws.length→(∀ u∈c,alone (ps.length:Int) u=true)→∀ H' b,Same H H'→(b=true↔c∈chp ps ws)→Q (.bl b) H') ∧
  (c.length=ws.length→(∃ u∈c,alone (ps.length:Int) u=false)→∀ H',Same H H'→E (.ref CB) none H')
theorem scIck:FnScope NC NC (defScope sIck):=⟨rfl,rfl,rfl,by decide +kernel,rfl,by decide +kernel,by decide +kernel⟩
set_option maxHeartbeats 4000000 in
theorem ok_ick {CU CB:Addr} (F:Fun K "is_cheapest_kept" "is_cheapest_kept" sIck f fd) (GC:Fns' P' w K mg base NC "cost" (spCost CU CB) 6) (GL:Fns P' w K mg base ["prices","weights"] "least_floors" spLf 6) (GK:Fns P' w K mg base ["code"] "is_kept" spKept 6):FnOk P' w K mg base (CXF P' w) 7 f fd NC (spIck CU CB):=by
  refine F.okF (k:=6) scIck (fun vs H Q E h=>?_) (fun cdv A outer s H vs Q E hr h=>?_)
  · obtain ⟨p,q,a,ps,ws,c,rfl,_⟩:=h
    rfl
  obtain ⟨p,q,a,ps,ws,c,rfl,i2,cd,q1,q2,q3⟩:=h
  have nu:=i2.nu
  have w1:=nu.w1
  obtain ⟨xs,ha,hx⟩:=cd.o
  refine ⟨_,pss_one (ps_ret (pe_and (pe_cmpR op_eq (pe_call GC.ok hr (by rfl) GC.m GC.kp GC.b .nil takes_def (pa_cons (pv 0) (pa_cons (pv 1) (pa_cons (pv 2) pa_nil)))) (pe_ix ix_list (pe_ix ix_list (pe_call GL.ok hr (by rfl) GL.m GL.kp GL.b .nil pass0 (pa_cons (pv 0) (pa_cons (pv 1) pa_nil))) pe_int (fun _ _=>rfl)) (pe_un un_neg pe_int) (fun _ _=>rfl)) (nomark _)) (pe_one (pe_call GK.ok hr (by rfl) GK.m GK.kp GK.b .nil pass0 (pa_cons (pv 2) pa_nil))))),?_⟩
  refine ⟨_,rfl,_,rfl,_,rfl,p,q,a,ps,ws,xs,c,rfl,i2.hp,i2.hq,ha,hx,cd.l,cd.w,nu.bp,nu.bw,q1,fun el al H1 s1=>?_,q3⟩
  refine ⟨_,rfl,_,rfl,p,q,ps,ws,rfl,i2.same s1,fun d ra h t Fl H2 s2 hd hra T=>?_⟩
  have s12:=s1.trans s2
  refine ⟨d,_,_,_,rfl,rfl,SqL.of hd,at_rng (k:=0) (by omega),_,rfl,ra 0,_,_,_,rfl,rfl,SqL.of (hra 0 (by omega)),last_O w1,scal_O (some _) (Fl 0 ws.length),_,rfl,?_⟩
  have il:CT.InL ps.length c:=fun u hu=>alone_of (al u hu)
  have key:=CT.kept_iff T i2.pp i2.pw w1 el il
  have ee:(V.int (CT.co ps ws 0 c)=oV (Fl 0 ws.length))↔some (CT.co ps ws 0 c)=Fl 0 ws.length:=⟨fun z=>oV_inj (a:=some (CT.co ps ws 0 c)) z,fun z=>congrArg oV z⟩
  refine ite2 (fun y=>?_) (fun y=>?_)
  · have y1:=ee.mp (of_decide_eq_true y)
    refine ⟨_,rfl,a,xs,c,rfl,s12 _ _ ha,Ws.same s12 hx,cd.l,fun H3 b s3 hb=>q2 el al H3 b (s12.trans s3) ?_⟩
    rw [hb,kadj_kp]
    exact ⟨fun z=>key.mp ⟨z,y1⟩,fun z=>(key.mpr z).1⟩
  · refine q2 el al H2 _ s12 ⟨(fun z=>by first | cases z | exact absurd z y),fun z=>absurd (decide_eq_true (ee.mpr (key.mpr z).2)) y⟩
end
end Kp
end K53
set_option Elab.async false
set_option linter.all false
set_option maxRecDepth 100000
namespace K53
namespace CT
section
variable {L n:Nat} {h t:Nat→Nat→Nat→OI} {F:Nat→Nat→OI} {p:Nat→Int} {W:Nat→Nat→Int} {cd:Nat→Nat→Nat} {tl:Nat→Nat→Nat→Nat} {Cs:Nat→List Code} {Rs:Nat→Nat→List Code} {co:Nat→Code→Int}
def CH (F:Nat→Nat→OI) (Cs:Nat→List Code) (co:Nat→Code→Int) (i j:Nat):List Code:=(Cs (j - i)).filter fun c=>decide (some (co i c)=F i j)
def TX (t:Nat→Nat→Nat→OI) (Rs:Nat→Nat→List Code) (co:Nat→Code→Int) (l i j:Nat):List Code:=if i=j then [[]] else (Rs (j - i) l).filter fun c=>decide (some (co i c)=t l i j)
def prd (l:Nat) (A B:List Code):List Code:=A.flatMap fun c=>B.map fun r=>ahd l c++r
theorem fil_prd {α β γ:Type} {g:α→β→γ} {f:γ→Int} {fa:α→Int} {fb:β→Int} {k a b:Int} {B:List β} (hB:∀ r∈B,b≤fb r):∀ (A:List α),(∀ c∈A,∀ r∈B,f (g c r)=k+fa c+fb r)→(∀ c∈A,a≤fa c) →
    (A.flatMap fun c=>B.map (g c)).filter (fun x=>decide (some (f x)=some (k+a+b)))=(A.filter fun c=>decide (some (fa c)=some a)).flatMap fun c=>(B.filter fun r=>decide (some (fb r)=some b)).map (g c)
  | [],_,_=>rfl
  | c :: A,h1,h2=>by
    rw [List.flatMap_cons,List.filter_append,fil_prd hB A (fun x hx=>h1 x (.tail _ hx)) (fun x hx=>h2 x (.tail _ hx)),List.filter_cons]
    have e:(B.map (g c)).filter (fun x=>decide (some (f x)=some (k+a+b)))=if some (fa c)=some a then (B.filter fun r=>decide (some (fb r)=some b)).map (g c) else []:=by
      rw [List.filter_map]
      by_cases z:fa c=a
      · rw [if_pos (by rw [z])]
        congr 1
        refine List.filter_congr fun r hr=>?_
        have:=h1 c (.head _) r hr
        show decide (some (f (g c r))=_)=_
        rw [this,z]
        by_cases y:fb r=b
        · rw [y,decide_eq_true rfl,decide_eq_true rfl]
        · rw [decide_eq_false (fun q=>y (by have:=Option.some.inj q;omega)),decide_eq_false (fun q=>y (Option.some.inj q))]
      · rw [if_neg (fun q=>z (Option.some.inj q))]
        have:B.filter ((fun x=>decide (some (f x)=some (k+a+b))) ∘ g c)=[]:=by
          rw [List.filter_eq_nil_iff]
          intro r hr q
          have q1:some (f (g c r))=some (k+a+b):=of_decide_eq_true q
          have q2:=Option.some.inj q1
          have:=h1 c (.head _) r hr
          have:=h2 c (.head _)
          have:=hB r hr
          omega
        rw [this]
        rfl
    rw [e]
    by_cases z:fa c=a
    · rw [if_pos (by rw [z]),if_pos (by rw [z];exact decide_eq_true rfl),List.flatMap_cons]
    · rw [if_neg (fun q=>z (Option.some.inj q)),if_neg (fun q=>z (Option.some.inj (of_decide_eq_true q))),List.nil_append]
theorem fil_flat {α β:Type} {X Y:α→List β} {P:α→Bool}:∀ (B:List α),(∀ b∈B,P b=true→X b=Y b)→(∀ b∈B,P b=false→X b=[])→B.flatMap X=(B.filter P).flatMap Y
  | [],_,_=>rfl
  | b :: B,h1,h2=>by
    rw [List.flatMap_cons,fil_flat B (fun x hx=>h1 x (.tail _ hx)) (fun x hx=>h2 x (.tail _ hx)),List.filter_cons]
    cases e:P b with
    | true=>rw [if_pos rfl,List.flatMap_cons,h1 b (.head _) e]
    | false=>rw [if_neg (by decide),h2 b (.head _) e,List.nil_append]
theorem row_fil (T:Tb L n h t F p W) (N:Cn L n h t cd tl) (E:En L p W Cs Rs co) {i w low most:Nat} {m:Int} (hw:i+w≤n) (hm:most≤w) (hl:low≤L) (em:mi ((rw' L Cs Rs w low most).map (co i))=some m) :
    (rw' L Cs Rs w low most).filter (fun c=>decide (some (co i c)=some m))=((Bk L low most).filter fun q=>decide (vl h t i (i+w) q=some m)).flatMap fun q=>prd q.1 (CH F Cs co i (i+q.2+1)) (TX t Rs co (q.1+1) (i+q.2+1) (i+w)):=by
  have cnt:=counted T N E n
  have hall:=(mi_some.mp em).2
  unfold rw' at em hall ⊢
  rw [List.filter_flatMap]
  refine fil_flat _ (fun q hq e=>?_) (fun q hq e=>?_)
  · obtain ⟨q1,q2,q3⟩:=Bk_mem.mp hq
    have ev:vl h t i (i+w) q=some m:=of_decide_eq_true e
    unfold vl at ev
    rw [T.hh q.1 i (i+q.2+1) q2 (by omega) (by omega)] at ev
    have cC:=(cnt (q.2+1) i (by omega) (by omega) (by omega)).1.1
    rw [show i+(q.2+1)=i+q.2+1 by omega] at cC
    cases fe:F i (i+q.2+1) with
    | none=>rw [fe] at ev;cases ev
    | some a =>
      cases te:t (q.1+1) (i+q.2+1) (i+w) with
      | none=>rw [fe,te] at ev;cases ev
      | some b =>
        rw [fe,te] at ev
        have ev2:some (p q.1 * W i (i+q.2+1)+a+b)=some m:=ev
        rw [←Option.some.inj ev2]
        rw [fe] at cC
        have hA:∀ c∈Cs (q.2+1),a≤co i c:=fun c hc=>(mi_some.mp cC).2 _ (List.mem_map_of_mem hc)
        have hg:∀ c∈Cs (q.2+1),∀ r∈bhd Rs w q,co i (ahd q.1 c++r)=p q.1 * W i (i+q.2+1)+co i c+co (i+q.2+1) r:=fun c hc r _=>E.app i q.1 (q.2+1) c r hc
        have eCH:CH F Cs co i (i+q.2+1)=(Cs (q.2+1)).filter fun c=>decide (some (co i c)=some a):=by
          unfold CH
          rw [fe,show i+q.2+1 - i=q.2+1 by omega]
        by_cases z:q.2+1 < w
        · have hL:q.1+1 < L:=by
            by_cases y:q.1+1 < L
            · exact y
            · exfalso
              have eL:q.1+1=L:=by omega
              rw [T.tt (q.1+1) (i+q.2+1) (i+w) (by omega) (by omega) hw,eL] at te
              unfold Bk at te
              rw [Nat.sub_self] at te
              rw [List.range_zero,List.flatMap_nil,List.map_nil,lo_nil] at te
              cases te
          have cR:=((cnt (w - (q.2+1)) (i+q.2+1) (by omega) (by omega) (by omega)).2 (q.1+1) hL).1
          rw [show i+q.2+1+(w - (q.2+1))=i+w by omega,te] at cR
          have eB:bhd Rs w q=Rs (w - (q.2+1)) (q.1+1):=if_pos z
          have eT:TX t Rs co (q.1+1) (i+q.2+1) (i+w)=(Rs (w - (q.2+1)) (q.1+1)).filter fun r=>decide (some (co (i+q.2+1) r)=some b):=by
            unfold TX
            rw [if_neg (by omega),te,show i+w - (i+q.2+1)=w - (q.2+1) by omega]
          rw [eCH,eT,←eB]
          rw [eB] at hg ⊢
          exact fil_prd (g:=fun c r=>ahd q.1 c++r) (f:=co i) (fa:=co i) (fb:=co (i+q.2+1)) (fun r hr=>(mi_some.mp cR).2 _ (List.mem_map_of_mem hr)) (Cs (q.2+1)) hg hA
        · have ee:i+q.2+1=i+w:=by omega
          have eB:bhd Rs w q=[[]]:=if_neg z
          have hb:b=0:=by
            rw [ee,T.dg (q.1+1) (i+w) (by omega) hw] at te
            exact (Option.some.inj te).symm
          have eT:TX t Rs co (q.1+1) (i+q.2+1) (i+w)=[[]].filter fun r=>decide (some (co (i+q.2+1) r)=some b):=by
            unfold TX
            rw [if_pos ee,List.filter_cons,if_pos (by rw [E.nil,hb];exact decide_eq_true rfl)]
            rfl
          rw [eCH,eT]
          rw [eB] at hg ⊢
          refine fil_prd (g:=fun c r=>ahd q.1 c++r) (f:=co i) (fa:=co i) (fb:=co (i+q.2+1)) (fun r hr=>?_) (Cs (q.2+1)) hg hA
          have:r=[]:=by simpa using hr
          rw [this,E.nil,hb]
          exact Int.le_refl _
  · rw [List.filter_eq_nil_iff]
    intro x hx y
    have y1:=Option.some.inj (of_decide_eq_true y)
    have ne:¬ vl h t i (i+w) q=some m:=of_decide_eq_false e
    have R:=row_is T N E hw hm hl (fun k a b=>by have:=(cnt k i (by omega) a (by omega)).1;exact this) (fun k l j a b c d=>(cnt k j (by omega) a d).2 l c) q hq
    refine ne ?_
    rw [←R.1]
    refine mi_some.mpr ⟨?_,fun k hk=>hall k ?_⟩
    · rw [←y1];exact List.mem_map_of_mem hx
    · rw [List.map_flatMap]
      exact List.mem_flatMap.mpr ⟨q,hq,hk⟩
theorem t_is_F (T:Tb L n h t F p W) (hL:0 < L) {i w:Nat} (hw:i+w≤n) (h2:2≤w):t 0 i (i+w)=F i (i+w):=by
  have eF:F i (i+w)=lo ((Bk L 0 (w - 1)).map (vl h t i (i+w))):=by
    rw [T.ff i (i+w) (by omega) hw,if_neg (by omega),show i+w - 1 - i=w - 1 by omega]
  have et:=T.tt 0 i (i+w) (Nat.zero_le _) (by omega) hw
  rw [show i+w - i=w by omega] at et
  cases e:t 0 i (i+w) with
  | none=>exact absurd e (T.tn 0 i (i+w) hL (by omega) hw)
  | some x =>
    have hx:=lo_some.mp (et.symm.trans e)
    obtain ⟨q,hq,ev⟩:=List.mem_map.mp hx.1
    have:=only T hw h2 q hq (by rw [ev,e])
    obtain ⟨a,b,c⟩:=Bk_mem.mp hq
    rw [eF]
    refine (lo_some.mpr ⟨List.mem_map.mpr ⟨q,Bk_mem.mpr ⟨a,b,this⟩,ev⟩,fun k hk=>?_⟩).symm
    obtain ⟨q',hq',ev'⟩:=List.mem_map.mp hk
    obtain ⟨a',b',c'⟩:=Bk_mem.mp hq'
    exact hx.2 k (List.mem_map.mpr ⟨q',Bk_mem.mpr ⟨a',b',by omega⟩,ev'⟩)
theorem bk_cut {P:Nat × Nat→Bool} {w:Nat} (h2:1≤w) (ho:∀ q∈Bk L 0 w,P q=true→q.2 < w - 1):(Bk L 0 w).filter P=(Bk L 0 (w - 1)).filter P:=by
  obtain ⟨w',rfl⟩:∃ v,w=v+1:=⟨w - 1,by omega⟩
  have:∀ a∈List.range (L - 0),(fun a=>(List.range (w'+1)).map fun b=>(0+a,b)) a=(fun a=>((List.range w').map fun b=>(0+a,b))++[(0+a,w')]) a:=fun a _=>by
    show (List.range (w'+1)).map _=_
    rw [List.range_succ,List.map_append]
    rfl
  have e1:(Bk L 0 (w'+1)).filter P=(List.range (L - 0)).flatMap fun a=>((List.range (w'+1)).map fun b=>(0+a,b)).filter P:=by
    unfold Bk
    rw [List.filter_flatMap]
  have e2:(Bk L 0 w').filter P=(List.range (L - 0)).flatMap fun a=>((List.range w').map fun b=>(0+a,b)).filter P:=by
    unfold Bk
    rw [List.filter_flatMap]
  rw [Nat.add_sub_cancel,e1,e2]
  refine flat_congr fun a ha=>?_
  have ha':=List.mem_range.mp ha
  rw [List.range_succ,List.map_append,List.filter_append]
  have:([w'].map fun b=>(0+a,b)).filter P=[]:=by
    rw [List.map_singleton,List.filter_cons,if_neg]
    · rfl
    · intro z
      have:=ho (0+a,w') (Bk_mem.mpr ⟨by omega,by show 0+a < L;omega,by show w' < w'+1;omega⟩) z
      have:w' < w'+1 - 1:=this
      omega
  rw [this,List.append_nil]
abbrev wy (L:Nat) (h t:Nat→Nat→Nat→OI) (l i j:Nat):List (Nat × Nat):=(Bk L l (j - i)).filter fun q=>decide (vl h t i j q=t l i j)
theorem CH_eq (T:Tb L n h t F p W) (N:Cn L n h t cd tl) (E:En L p W Cs Rs co) (hL:0 < L) {i j:Nat} (hij:i+2≤j) (hj:j≤n) :
    CH F Cs co i j=(wy L h t 0 i j).flatMap fun q=>prd q.1 (CH F Cs co i (i+q.2+1)) (TX t Rs co (q.1+1) (i+q.2+1) j):=by
  obtain ⟨w,rfl⟩:∃ w,j=i+w:=⟨j - i,by omega⟩
  have c1:=(counted T N E n w i (by omega) (by omega) hj).1.1
  cases f:F i (i+w) with
  | none=>exact absurd f (T.fn i (i+w) (by omega) hj)
  | some m =>
    rw [f,E.cs w (by omega)] at c1
    have r:=row_fil T N E hj (show w - 1≤w by omega) (Nat.zero_le _) c1
    have e0:CH F Cs co i (i+w)=(rw' L Cs Rs w 0 (w - 1)).filter (fun c=>decide (some (co i c)=some m)):=by
      unfold CH
      rw [f,show i+w - i=w by omega,E.cs w (by omega)]
    have eT:=t_is_F T hL hj (show 2≤w by omega)
    rw [e0,r]
    unfold wy
    rw [eT,f,show i+w - i=w by omega,bk_cut (P:=fun q=>decide (vl h t i (i+w) q=some m)) (by omega) (fun q hq e=>only T hj (by omega) q hq (by rw [eT,f];exact of_decide_eq_true e))]
theorem TX_eq (T:Tb L n h t F p W) (N:Cn L n h t cd tl) (E:En L p W Cs Rs co) {l i j:Nat} (hl:l < L) (hij:i < j) (hj:j≤n) :
    TX t Rs co l i j=(wy L h t l i j).flatMap fun q=>prd q.1 (CH F Cs co i (i+q.2+1)) (TX t Rs co (q.1+1) (i+q.2+1) j):=by
  obtain ⟨w,rfl⟩:∃ w,j=i+w:=⟨j - i,by omega⟩
  have c1:=((counted T N E n w i (by omega) (by omega) hj).2 l hl).1
  cases f:t l i (i+w) with
  | none=>exact absurd f (T.tn l i (i+w) hl (by omega) hj)
  | some m =>
    rw [f,E.rs w l (by omega) hl] at c1
    have r:=row_fil T N E hj (Nat.le_refl _) (by omega) c1
    have e0:TX t Rs co l i (i+w)=(rw' L Cs Rs w l w).filter (fun c=>decide (some (co i c)=some m)):=by
      unfold TX
      rw [if_neg (by omega),f,show i+w - i=w by omega,E.rs w l (by omega) hl]
    rw [e0,r]
    unfold wy
    rw [f,show i+w - i=w by omega]
theorem len_fil {α:Type} {f:α→Int} {m:Int}:∀ xs:List α,(xs.filter fun c=>decide (some (f c)=some m)).length=(xs.map f).count m
  | []=>rfl
  | x :: xs=>by
    rw [List.filter_cons,List.map_cons,List.count_cons,←len_fil xs]
    by_cases z:f x=m
    · rw [if_pos (by rw [z];exact decide_eq_true rfl),if_pos (beq_iff_eq.mpr z),List.length_cons]
    · rw [if_neg (fun q=>z (Option.some.inj (of_decide_eq_true q))),if_neg (fun q=>z (beq_iff_eq.mp q))];rfl
theorem len_CH (T:Tb L n h t F p W) (N:Cn L n h t cd tl) (E:En L p W Cs Rs co) {i j:Nat} (hij:i < j) (hj:j≤n):(CH F Cs co i j).length=cd i j:=by
  obtain ⟨w,rfl⟩:∃ w,j=i+w:=⟨j - i,by omega⟩
  obtain ⟨c1,c2⟩:=(counted T N E n w i (by omega) (by omega) hj).1
  cases f:F i (i+w) with
  | none=>exact absurd f (T.fn i (i+w) (by omega) hj)
  | some m =>
    rw [f] at c1
    unfold CH
    rw [f,show i+w - i=w by omega,len_fil,←c2,ct_of c1]
theorem len_TX (T:Tb L n h t F p W) (N:Cn L n h t cd tl) (E:En L p W Cs Rs co) {l i j:Nat} (hl:l≤L) (hl2:i < j→l < L) (hij:i≤j) (hj:j≤n):(TX t Rs co l i j).length=tl l i j:=by
  by_cases e:i=j
  · subst e
    unfold TX
    rw [if_pos rfl,N.td l i hl hj]
    rfl
  · obtain ⟨w,rfl⟩:∃ w,j=i+w:=⟨j - i,by omega⟩
    have hl':=hl2 (by omega)
    obtain ⟨c1,c2⟩:=(counted T N E n w i (by omega) (by omega) hj).2 l hl'
    cases f:t l i (i+w) with
    | none=>exact absurd f (T.tn l i (i+w) hl' (by omega) hj)
    | some m =>
      rw [f] at c1
      unfold TX
      rw [if_neg e,f,show i+w - i=w by omega,len_fil,←c2,ct_of c1]
theorem len_prd {l:Nat} {B:List Code}:∀ A:List Code,(prd l A B).length=A.length * B.length
  | []=>by unfold prd;simp
  | a :: A=>by
    have:=len_prd (l:=l) (B:=B) A
    unfold prd at this ⊢
    rw [List.flatMap_cons,List.length_append,this,List.length_map,List.length_cons,Nat.succ_mul,Nat.add_comm]
theorem get_flat {α β:Type} {X:α→List β} {b:α}:∀ (B:List α) (a r:Nat),B[a]?=some b→r < (X b).length→(B.flatMap X)[((B.take a).map fun b=>(X b).length).sum+r]?=(X b)[r]?
  | [],a,r,h,_=>by simp at h
  | c :: B,0,r,h,hr=>by
    have:c=b:=by simpa using h
    subst this
    rw [List.flatMap_cons,List.take_zero,List.map_nil,List.sum_nil,Nat.zero_add,List.getElem?_append_left hr]
  | c :: B,a+1,r,h,hr=>by
    have h':B[a]?=some b:=by simpa using h
    rw [List.flatMap_cons,List.take_succ_cons,List.map_cons,List.sum_cons,List.getElem?_append_right (by omega),←get_flat B a r h' hr]
    congr 1
    omega
theorem get_prd {l:Nat} {A B:List Code} {x:Nat} (hx:x < A.length * B.length):∃ c r,A[x / B.length]?=some c∧B[x % B.length]?=some r∧(prd l A B)[x]?=some (ahd l c++r):=by
  have hB:0 < B.length:=by
    cases e:B.length with
    | zero=>rw [e,Nat.mul_zero] at hx;omega
    | succ k=>omega
  have h1:x / B.length < A.length:=Nat.div_lt_of_lt_mul (by rw [Nat.mul_comm];exact hx)
  have h2:x % B.length < B.length:=Nat.mod_lt _ hB
  refine ⟨A[x / B.length],B[x % B.length],List.getElem?_eq_getElem h1,List.getElem?_eq_getElem h2,?_⟩
  have g:=get_flat (X:=fun c=>B.map fun r=>ahd l c++r) A (x / B.length) (x % B.length) (List.getElem?_eq_getElem h1) (by rw [List.length_map];exact h2)
  have e:((A.take (x / B.length)).map fun c=>(B.map fun r=>ahd l c++r).length).sum=B.length * (x / B.length):=by
    have:((A.take (x / B.length)).map fun c=>(B.map fun r=>ahd l c++r).length)=List.replicate (x / B.length) B.length:=by
      rw [List.eq_replicate_iff]
      refine ⟨by rw [List.length_map,List.length_take];omega,fun y hy=>?_⟩
      obtain ⟨c,_,rfl⟩:=List.mem_map.mp hy
      exact List.length_map ..
    rw [this,List.sum_replicate_nat,Nat.mul_comm]
  rw [e,Nat.div_add_mod] at g
  unfold prd
  rw [g,List.getElem?_map,List.getElem?_eq_getElem h2]
  rfl
end
end CT
end K53
set_option Elab.async false
set_option linter.all false
set_option maxRecDepth 100000
namespace K53
open PySem L2
structure Cts (C D:Addr) (H:Hp) (r:Addr) (ps ws:List Int) (h t:Nat→Nat→Nat→OI) (F:Nat→Nat→OI) (c:Nat→Nat→Nat) (u:Nat→Nat→Nat→Nat):Prop where
  ob:∃ (pr p:Addr) (X:Ad) (Y:CY) (Tc:Nat→Nat→OI) (Tt:Nat→Nat→Nat→OI),PAt C H pr p ps ws X h t∧CAt D H r pr ps.length (ws.length+1) Y Tc Tt∧Ctd ps.length ws.length h t Tc Tt c u (fun _ _=>True)
  T:CT.Tb ps.length ws.length h t F (pl ps) (Wt ws)
  N:CT.Cn ps.length ws.length h t c u
  il:CT.inL ps.length ws.length
theorem Cts.same {C D:Addr} {H H':Hp} {r:Addr} {ps ws:List Int} {h t:Nat→Nat→Nat→OI} {F:Nat→Nat→OI} {c:Nat→Nat→Nat} {u:Nat→Nat→Nat→Nat} (k:Same H H') (a:Cts C D H r ps ws h t F c u):Cts C D H' r ps ws h t F c u:=by
  obtain ⟨pr,p,X,Y,Tc,Tt,pa,ca,ct⟩:=a.ob
  exact ⟨⟨pr,p,X,Y,Tc,Tt,pa.same k,ca.same k,ct⟩,a.T,a.N,a.il⟩
abbrev Chh (ps ws:List Int) (F:Nat→Nat→OI) (i j:Nat):List CT.Code:=CT.CH F (CT.Cs ps.length) (CT.co ps ws) i j
abbrev Txx (ps ws:List Int) (t:Nat→Nat→Nat→OI) (l i j:Nat):List CT.Code:=CT.TX t (CT.Rs ps.length) (CT.co ps ws) l i j
abbrev pq (ps ws:List Int) (t:Nat→Nat→Nat→OI) (F:Nat→Nat→OI) (i j:Nat) (q:Nat × Nat):List CT.Code:=CT.prd q.1 (Chh ps ws F i (i+q.2+1)) (Txx ps ws t (q.1+1) (i+q.2+1) j)
def Tf (ps ws:List Int) (h t:Nat→Nat→Nat→OI) (F:Nat→Nat→OI) (l i j:Nat):List CT.Code:=if i=j then [[]] else (wys ps.length h t l i j).flatMap (pq ps ws t F i j)
section
variable {C D:Addr} {H:Hp} {r:Addr} {ps ws:List Int} {h t:Nat→Nat→Nat→OI} {F:Nat→Nat→OI} {c:Nat→Nat→Nat} {u:Nat→Nat→Nat→Nat}
theorem Cts.L (a:Cts C D H r ps ws h t F c u):2≤ps.length∧ps.length≤4∧ws.length≤6:=inL_bd a.il
theorem Cts.tx (a:Cts C D H r ps ws h t F c u) {l i j:Nat} (hl:i < j→l < ps.length) (hij:i≤j) (hj:j≤ws.length):Txx ps ws t l i j=Tf ps ws h t F l i j:=by
  unfold Tf
  by_cases e:i=j
  · rw [if_pos e];unfold Txx CT.TX;rw [if_pos e]
  · rw [if_neg e]
    exact CT.TX_eq a.T a.N CT.en (hl (by omega)) (by omega) hj
theorem Cts.ch (a:Cts C D H r ps ws h t F c u) {i j:Nat} (hij:i+2≤j) (hj:j≤ws.length):Chh ps ws F i j=Tf ps ws h t F 0 i j:=by
  unfold Tf
  rw [if_neg (by omega)]
  exact CT.CH_eq a.T a.N CT.en (by have:=a.L;omega) hij hj
theorem Cts.lch (a:Cts C D H r ps ws h t F c u) {i j:Nat} (hij:i < j) (hj:j≤ws.length):(Chh ps ws F i j).length=c i j:=CT.len_CH a.T a.N CT.en hij hj
theorem Cts.ltx (a:Cts C D H r ps ws h t F c u) {l i j:Nat} (hl:l≤ps.length) (hl2:i < j→l < ps.length) (hij:i≤j) (hj:j≤ws.length):(Txx ps ws t l i j).length=u l i j:=CT.len_TX a.T a.N CT.en hl hl2 hij hj
theorem Cts.c9 (a:Cts C D H r ps ws h t F c u) {i j:Nat} (hij:i < j) (hj:j≤ws.length):c i j≤900:=by
  rw [←a.lch hij hj]
  exact Nat.le_trans (List.length_filter_le _ _) (CT.Cs_len (inL_le a.il (by omega)))
theorem Cts.u9 (a:Cts C D H r ps ws h t F c u) {l i j:Nat} (hl:l≤ps.length) (hl2:i < j→l < ps.length) (hij:i≤j) (hj:j≤ws.length):u l i j≤900:=by
  rw [←a.ltx hl hl2 hij hj]
  unfold Txx CT.TX
  split
  · show 1≤900;decide
  · exact Nat.le_trans (List.length_filter_le _ _) (CT.Rs_len (inL_le a.il (by omega)))
theorem Cts.wq (a:Cts C D H r ps ws h t F c u) {l i j:Nat} (hl:l < ps.length) (hij:i < j) (hj:j≤ws.length) {q:Nat × Nat} (hq:q∈wys ps.length h t l i j):q.1 < ps.length∧i+q.2+1≤j∧(i+q.2+1 < j→q.1+1 < ps.length):=by
  obtain ⟨h1,h2,h3,h4⟩:=wys_lt a.T hl hij hj hq
  exact ⟨h2,by omega,fun z=>h4 (by omega)⟩
theorem Cts.lpq (a:Cts C D H r ps ws h t F c u) {l i j:Nat} (hl:l < ps.length) (hij:i < j) (hj:j≤ws.length) {q:Nat × Nat} (hq:q∈wys ps.length h t l i j):(pq ps ws t F i j q).length=c i (i+q.2+1) * u (q.1+1) (i+q.2+1) j:=by
  obtain ⟨h1,h2,h3⟩:=a.wq hl hij hj hq
  unfold pq
  rw [CT.len_prd,a.lch (by omega) (by omega),a.ltx (by omega) h3 h2 hj]
end
theorem ch_gd {ps ws:List Int} {F:Nat→Nat→OI} {i j x:Nat} {cde:CT.Code} (hij:i < j) (e:(Chh ps ws F i j)[x]?=some cde):CT.Gd ps.length (j - i) (j - i - 1) cde:=by
  have h1:=List.mem_of_getElem? e
  unfold Chh CT.CH at h1
  exact CT.Cs_gd (by omega) cde (List.mem_filter.mp h1).1
theorem tx_gd {ps ws:List Int} {t:Nat→Nat→Nat→OI} {l i j x:Nat} {cde:CT.Code} (hij:i≤j) (e:(Txx ps ws t l i j)[x]?=some cde):CT.Gd ps.length (j - i) (j - i) cde:=by
  have h1:=List.mem_of_getElem? e
  unfold Txx CT.TX at h1
  split at h1
  · rename_i z
    have:cde=[]:=by simpa using h1
    subst this
    exact ⟨by simp;omega,fun u hu=>by cases hu⟩
  · rename_i z
    exact CT.Rs_gd (by omega) cde (List.mem_filter.mp h1).1
end K53
set_option Elab.async false
set_option linter.all false
set_option maxRecDepth 100000
namespace K53
open PySem L2
namespace CT
theorem ahd_inj {l:Nat}:∀ {c c' r r':Code},Fr (l+1) r→Fr (l+1) r'→ahd l c++r=ahd l c'++r'→c=c'∧r=r'
  | [],[],r,r',_,_,e=>⟨rfl,e⟩
  | [],u :: c',r,r',f,_,e=>by
    exfalso
    have e:r=((l:Int) :: u) :: (ahd l c'++r'):=e
    obtain ⟨x,w,e1,hx⟩:=f ((l:Int) :: u) (by rw [e];exact .head _)
    injection e1 with e1 _
    omega
  | u :: c,[],r,r',_,f,e=>by
    exfalso
    have e:((l:Int) :: u) :: (ahd l c++r)=r':=e
    obtain ⟨x,w,e1,hx⟩:=f ((l:Int) :: u) (by rw [←e];exact .head _)
    injection e1 with e1 _
    omega
  | u :: c,v :: c',r,r',f,f',e=>by
    have e:((l:Int) :: u) :: (ahd l c++r)=((l:Int) :: v) :: (ahd l c'++r'):=e
    injection e with e1 e2
    injection e1 with _ e1
    obtain ⟨a,b⟩:=ahd_inj f f' e2
    exact ⟨by rw [e1,a],b⟩
theorem ahd_l {l l':Nat} {c c' r r':Code} (h:c≠[]) (h':c'≠[]) (e:ahd l c++r=ahd l' c'++r'):l=l':=by
  cases c with
  | nil=>exact absurd rfl h
  | cons u c =>
    cases c' with
    | nil=>exact absurd rfl h'
    | cons v c' =>
      have e:((l:Int) :: u) :: (ahd l c++r)=((l':Int) :: v) :: (ahd l' c'++r'):=e
      injection e with e _
      injection e with e _
      omega
theorem Bk_lt {L l m:Nat}:(Bk L l m).Pairwise fun a b=>a.1 < b.1∨(a.1=b.1∧a.2 < b.2):=by
  unfold Bk
  rw [List.pairwise_flatMap]
  refine ⟨fun a _=>?_,?_⟩
  · rw [List.pairwise_map]
    exact List.pairwise_lt_range.imp fun z=>.inr ⟨rfl,z⟩
  · refine List.pairwise_lt_range.imp fun {a b} z x hx y hy=>?_
    obtain ⟨_,_,rfl⟩:=List.mem_map.mp hx
    obtain ⟨_,_,rfl⟩:=List.mem_map.mp hy
    exact .inl (by show l+a < l+b;omega)
theorem rw_nd {L many low most:Nat} {C:Nat→List Code} {R:Nat→Nat→List Code} (hC:∀ k,1≤k→k≤most→(C k).Nodup∧∀ c∈C k,c.length=k) (hR:∀ k l,1≤k→k < many→(R k l).Nodup∧∀ r∈R k l,Fr l r):(rw' L C R many low most).Nodup:=by
  have hb:∀ q,(bhd R many q).Nodup∧∀ r∈bhd R many q,Fr (q.1+1) r:=fun q=>by
    unfold bhd
    split
    · exact hR _ _ (by omega) (by omega)
    · exact ⟨List.pairwise_singleton _ _,fun r hr u hu=>by
        have:r=[]:=by simpa using hr
        subst this
        cases hu⟩
  unfold rw'
  show List.Pairwise _ _
  rw [List.pairwise_flatMap]
  refine ⟨fun q hq=>?_,?_⟩
  · obtain ⟨q1,q2,q3⟩:=Bk_mem.mp hq
    obtain ⟨c1,c2⟩:=hC (q.2+1) (by omega) (by omega)
    rw [List.pairwise_flatMap]
    refine ⟨fun c hc=>?_,c1.imp_of_mem fun {a b} ha hb' z x hx y hy e=>?_⟩
    · rw [List.pairwise_map]
      exact (hb q).1.imp fun z e=>z (List.append_cancel_left e)
    · obtain ⟨r,hr,rfl⟩:=List.mem_map.mp hx
      obtain ⟨r',hr',rfl⟩:=List.mem_map.mp hy
      exact z (ahd_inj ((hb q).2 r hr) ((hb q).2 r' hr') e).1
  · refine Bk_lt.imp_of_mem fun {a b} ha hb' z x hx y hy e=>?_
    obtain ⟨_,_,a3⟩:=Bk_mem.mp ha
    obtain ⟨_,_,b3⟩:=Bk_mem.mp hb'
    obtain ⟨c,hc,hx⟩:=List.mem_flatMap.mp hx
    obtain ⟨r,hr,rfl⟩:=List.mem_map.mp hx
    obtain ⟨c',hc',hy⟩:=List.mem_flatMap.mp hy
    obtain ⟨r',hr',rfl⟩:=List.mem_map.mp hy
    have l1:=(hC (a.2+1) (by omega) (by omega)).2 c hc
    have l2:=(hC (b.2+1) (by omega) (by omega)).2 c' hc'
    have el:a.1=b.1:=ahd_l (by intro y;rw [y,List.length_nil] at l1;omega) (by intro y;rw [y,List.length_nil] at l2;omega) e
    rw [←el] at e
    have f2:=(hb b).2 r' hr'
    rw [←el] at f2
    have:=(ahd_inj ((hb a).2 r hr) f2 e).1
    rw [this] at l1
    rcases z with z | ⟨_,z⟩ <;> omega
theorem all_nd {L:Nat}:∀ d m,m≤d→1≤m→(Cs L m).Nodup∧∀ l,(Rs L m l).Nodup
  | 0,m,h,h1=>by omega
  | d+1,m,h,h1=>by
    have ih:=all_nd (L:=L) d
    have cl:∀ k,1≤k→∀ c∈Cs L k,c.length=k:=fun k a c hc=>(Cs_gd a c hc).ln
    have rf:∀ k l,1≤k→∀ r∈Rs L k l,Fr l r:=fun k l a r hr=>(Rs_kp a r hr).2
    have hc:(Cs L m).Nodup:=by
      by_cases e:m=1
      · subst e
        rw [Cs_one]
        exact List.pairwise_singleton _ _
      · rw [Cs_eq (by omega)]
        exact rw_nd (fun k a b=>⟨(ih k (by omega) a).1,cl k a⟩) (fun k l a b=>⟨(ih k (by omega) a).2 l,rf k l a⟩)
    refine ⟨hc,fun l=>?_⟩
    by_cases hl:l < L
    · rw [Rs_eq h1 hl]
      refine rw_nd (fun k a b=>⟨?_,cl k a⟩) (fun k l a b=>⟨(ih k (by omega) a).2 l,rf k l a⟩)
      by_cases e:k=m
      · subst e;exact hc
      · exact (ih k (by omega) a).1
    · rw [Rs_end hl]
      exact List.Pairwise.nil
theorem Cs_nd {L m:Nat} (h:1≤m):(Cs L m).Nodup:=(all_nd m m (Nat.le_refl _) h).1
theorem prd_at {l a b:Nat} {A B:List Code} {c r:Code} (ha:A[a]?=some c) (hb:B[b]?=some r):(prd l A B)[a * B.length+b]?=some (ahd l c++r):=by
  have la:=(List.getElem?_eq_some_iff.mp ha).1
  have lb:=(List.getElem?_eq_some_iff.mp hb).1
  have hx:a * B.length+b < A.length * B.length:=by
    have:(a+1) * B.length≤A.length * B.length:=Nat.mul_le_mul_right _ la
    rw [Nat.succ_mul] at this
    omega
  obtain ⟨c',r',h1,h2,h3⟩:=get_prd (l:=l) hx
  have e1:(a * B.length+b) / B.length=a:=by
    rw [Nat.mul_comm,Nat.mul_add_div (by omega),Nat.div_eq_of_lt lb,Nat.add_zero]
  have e2:(a * B.length+b) % B.length=b:=by
    rw [Nat.mul_comm,Nat.mul_add_mod,Nat.mod_eq_of_lt lb]
  rw [e1,ha] at h1
  rw [e2,hb] at h2
  cases h1
  cases h2
  exact h3
end CT
theorem wys_take {L l i j:Nat} {h t:Nat→Nat→Nat→OI} {a:Nat} {q:Nat × Nat} (hq:(wys L h t l i j)[a]?=some q):(wys L h t l i j).filter (fun z=>decide (z.1 < q.1∨(z.1=q.1∧z.2 < q.2)))=(wys L h t l i j).take a:=by
  have pw:(wys L h t l i j).Pairwise fun a b=>a.1 < b.1∨(a.1=b.1∧a.2 < b.2):=by
    unfold wys
    exact CT.Bk_lt.filter _
  generalize wys L h t l i j=xs at hq pw
  have la:=(List.getElem?_eq_some_iff.mp hq).1
  have e:xs=xs.take a++q :: xs.drop (a+1):=by
    have:=List.getElem?_eq_some_iff.mp hq
    obtain ⟨l1,l2⟩:=this
    rw [←l2,List.getElem_cons_drop,List.take_append_drop]
  have pw':=pw
  rw [e] at pw'
  have p:=List.pairwise_append.mp pw'
  have pc:=List.pairwise_cons.mp p.2.1
  have h1:(xs.take a).filter (fun z=>decide (z.1 < q.1∨(z.1=q.1∧z.2 < q.2)))=xs.take a:=List.filter_eq_self.mpr fun z hz=>decide_eq_true (p.2.2 z hz q (.head _))
  have h2:(q :: xs.drop (a+1)).filter (fun z=>decide (z.1 < q.1∨(z.1=q.1∧z.2 < q.2)))=[]:=by
    refine List.filter_eq_nil_iff.mpr fun z hz y=>?_
    have y:=of_decide_eq_true y
    rcases List.mem_cons.mp hz with rfl | hz
    · omega
    · have:=pc.1 z hz
      omega
  calc xs.filter _=(xs.take a++q :: xs.drop (a+1)).filter _:=by rw [←e]
    _=xs.take a:=by rw [List.filter_append,h1,h2,List.append_nil]
def At (c0:CT.Code) (i s:Nat) (cde:CT.Code):Prop:=∀ (k:Nat) v,cde[k]?=some v→∃ u,c0[i+k]?=some u∧u.drop s=v
theorem At.left {c0:CT.Code} {i s l:Nat} {c r:CT.Code} (h:At c0 i s (CT.ahd l c++r)):At c0 i (s+1) c:=fun k v hv=>by
  have lk:=(List.getElem?_eq_some_iff.mp hv).1
  obtain ⟨u,h1,h2⟩:=h k ((l:Int) :: v) (by
    have:(CT.ahd l c).length=c.length:=List.length_map ..
    rw [List.getElem?_append_left (by omega)]
    unfold CT.ahd
    rw [List.getElem?_map,hv]
    rfl)
  refine ⟨u,h1,?_⟩
  rw [←List.drop_drop,h2]
  rfl
theorem At.right {c0:CT.Code} {i s l:Nat} {c r:CT.Code} (h:At c0 i s (CT.ahd l c++r)):At c0 (i+c.length) s r:=fun k v hv=>by
  obtain ⟨u,h1,h2⟩:=h (c.length+k) v (by
    have:(CT.ahd l c).length=c.length:=List.length_map ..
    rw [List.getElem?_append_right (by omega),this,Nat.add_sub_cancel_left]
    exact hv)
  exact ⟨u,by rw [Nat.add_assoc];exact h1,h2⟩
theorem At.whole {c0:CT.Code}:At c0 0 0 c0:=fun k v hv=>⟨v,by rw [Nat.zero_add];exact hv,rfl⟩
section
variable {C D:Addr} {H:Hp} {r:Addr} {ps ws:List Int} {h t:Nat→Nat→Nat→OI} {F:Nat→Nat→OI} {c:Nat→Nat→Nat} {u:Nat→Nat→Nat→Nat}
theorem ch_mem_gd {i j:Nat} {cde:CT.Code} (hij:i < j) (e:cde∈Chh ps ws F i j):CT.Gd ps.length (j - i) (j - i - 1) cde:=by
  obtain ⟨x,hx⟩:=List.mem_iff_getElem?.mp e
  exact ch_gd hij hx
theorem tx_fr {l i j:Nat} {cde:CT.Code} (hij:i≤j) (e:cde∈Txx ps ws t l i j):CT.Fr l cde∧cde.length=j - i:=by
  obtain ⟨x,hx⟩:=List.mem_iff_getElem?.mp e
  refine ⟨?_,(tx_gd hij hx).ln⟩
  unfold Txx CT.TX at e
  split at e
  · have:cde=[]:=by simpa using e
    subst this
    intro u hu
    cases hu
  · exact (CT.Rs_kp (by omega) cde (List.mem_filter.mp e).1).2
theorem Cts.cut (a:Cts C D H r ps ws h t F c u) {l i j:Nat} (hl:l < ps.length) (hij:i < j) (hj:j≤ws.length) {cde:CT.Code} (hc:cde∈Txx ps ws t l i j):∃ (k:Nat) (q:Nat × Nat) (c1 r1:CT.Code),(wys ps.length h t l i j)[k]?=some q∧c1∈Chh ps ws F i (i+q.2+1)∧r1∈Txx ps ws t (q.1+1) (i+q.2+1) j∧cde=CT.ahd q.1 c1++r1∧c1.length=q.2+1∧CT.Fr (q.1+1) r1:=by
  rw [a.tx (fun _=>hl) (by omega) hj] at hc
  unfold Tf at hc
  rw [if_neg (by omega)] at hc
  obtain ⟨q,hq,hc⟩:=List.mem_flatMap.mp hc
  obtain ⟨c1,hc1,hc⟩:=List.mem_flatMap.mp hc
  obtain ⟨r1,hr1,rfl⟩:=List.mem_map.mp hc
  obtain ⟨w1,w2,w3⟩:=a.wq hl hij hj hq
  obtain ⟨k,hk⟩:=List.mem_iff_getElem?.mp hq
  refine ⟨k,q,c1,r1,hk,hc1,hr1,rfl,?_,(tx_fr w2 hr1).1⟩
  have:=(ch_mem_gd (by omega) hc1).ln
  omega
theorem Cts.num (a:Cts C D H r ps ws h t F c u) {l i j:Nat} (hl:l < ps.length) (hij:i < j) (hj:j≤ws.length) {k:Nat} {q:Nat × Nat} {c1 r1:CT.Code} (hk:(wys ps.length h t l i j)[k]?=some q) {x y:Nat} (hx:(Chh ps ws F i (i+q.2+1))[x]?=some c1) (hy:(Txx ps ws t (q.1+1) (i+q.2+1) j)[y]?=some r1) :
    (Txx ps ws t l i j)[(((wys ps.length h t l i j).take k).map fun q=>c i (i+q.2+1) * u (q.1+1) (i+q.2+1) j).sum+(x * u (q.1+1) (i+q.2+1) j+y)]?=some (CT.ahd q.1 c1++r1):=by
  have hq:=List.mem_of_getElem? hk
  obtain ⟨w1,w2,w3⟩:=a.wq hl hij hj hq
  rw [a.tx (fun _=>hl) (by omega) hj]
  unfold Tf
  rw [if_neg (by omega)]
  have e1:=CT.prd_at (l:=q.1) hx hy
  have lt:(Txx ps ws t (q.1+1) (i+q.2+1) j).length=u (q.1+1) (i+q.2+1) j:=a.ltx (by omega) w3 w2 hj
  rw [lt] at e1
  have:=CT.get_flat (X:=pq ps ws t F i j) (b:=q) (wys ps.length h t l i j) k (x * u (q.1+1) (i+q.2+1) j+y) hk (by
    have:=(List.getElem?_eq_some_iff.mp e1).1
    exact this)
  have e2:((wys ps.length h t l i j).take k).map (fun b=>(pq ps ws t F i j b).length)=((wys ps.length h t l i j).take k).map fun q=>c i (i+q.2+1) * u (q.1+1) (i+q.2+1) j:=List.map_congr_left fun b hb=>a.lpq hl hij hj (List.mem_of_mem_take hb)
  rw [e2] at this
  rw [this]
  exact e1
end
end K53
set_option Elab.async false
set_option linter.all false
set_option maxRecDepth 100000
namespace K53
open PySem L2
namespace Kp
theorem At.head {c0:CT.Code} {i s:Nat} {cde:CT.Code} (h:At c0 i s cde) {k:Nat} {x:Int} {v:List Int} (hv:cde[k]?=some (x :: v)):∃ u,c0[i+k]?=some u∧u[s]?=some x:=by
  obtain ⟨u,h1,h2⟩:=h k _ hv
  refine ⟨u,h1,?_⟩
  have:=congrArg (fun z:List Int=>z[0]?) h2
  simpa using this
theorem heads {l:Nat} {c r:CT.Code} (f:CT.Fr (l+1) r) {k:Nat} (hk:k < (CT.ahd l c++r).length):∃ (x:Int) (v:List Int),(CT.ahd l c++r)[k]?=some (x :: v)∧(k < c.length→x=(l:Int))∧(¬ k < c.length→(l:Int) < x):=by
  have lc:(CT.ahd l c).length=c.length:=List.length_map ..
  by_cases z:k < c.length
  · refine ⟨(l:Int),c[k],?_,fun _=>rfl,fun y=>absurd z y⟩
    rw [List.getElem?_append_left (by omega)]
    unfold CT.ahd
    rw [List.getElem?_map,List.getElem?_eq_getElem z]
    rfl
  · rw [List.length_append,lc] at hk
    have hk':k - c.length < r.length:=by omega
    obtain ⟨x,v,e,hx⟩:=f _ (List.getElem_mem hk')
    refine ⟨x,v,?_,fun y=>absurd y z,fun _=>by omega⟩
    rw [List.getElem?_append_right (by omega),lc,List.getElem?_eq_getElem hk',e]
section
variable {P':Program} {w:World} {K:PySem.W.Frag} {mg:Str→Option Value} {base:Heap} {f:Addr} {fd:FuncData}
abbrev NWo:List Str:=["code","first","end","size","cut"]
abbrev PWo:List Str:=["code","first","end","size"]
def spWo:Sp:=fun vs H Q _=>∃ (a:Addr) (c0:CT.Code) (i j s l:Nat) (c r:CT.Code),vs=[.ref a,.int (i:Int),.int (j:Int),.int (s:Int)]∧Cde H a c0∧At c0 i s (CT.ahd l c++r)∧1≤c.length∧CT.Fr (l+1) r∧(CT.ahd l c++r).length=j - i∧i < j∧∀ t H',Same H H'→H' t=some (.tup [.int (l:Int),.int ((i+c.length:Nat):Int)])→Q (.ref t) H'
theorem scWo:FnScope NWo PWo (defScope sWo):=⟨rfl,rfl,rfl,by decide +kernel,rfl,by decide +kernel,by decide +kernel⟩
set_option maxHeartbeats 4000000 in
theorem ok_wo (F:Fun K "way_of" "way_of" sWo f fd):FnOk P' w K mg base CX0 1 f fd PWo spWo:=by
  refine F.ok (k:=0) scWo (fun vs H Q E h=>?_) (fun cdv A outer s H vs Q E hr h=>?_)
  · obtain ⟨a,c0,i,j,s,l,c,r,rfl,_⟩:=h
    rfl
  obtain ⟨a,c0,i,j,s,l,c,r,rfl,cd,at0,c1,fr,ln,hij,q⟩:=h
  obtain ⟨xs,ha,hx⟩:=cd.o
  refine ⟨_,pss_cons (ps_set (i:=4) scWo.nd rfl (Or.inl rfl) (pv 1))
    (pss_cons (ps_while PassesOwn.never (PW.pt (pw_and (pt_cmpR op_lt (pv 4) (pv 2) (nomark _)) (pw_and1 (pt_cmpR op_eq (pe_ix ix_tup (pe_ix ix_tup (pv 0) (pv 4) (fun _ _=>rfl)) (pv 3) (fun _ _=>rfl)) (pe_ix ix_tup (pe_ix ix_tup (pv 0) (pv 1) (fun _ _=>rfl)) (pv 3) (fun _ _=>rfl)) (nomark _)))))
      (pss_one (ps_aug (i:=4) scWo.nd rfl (Or.inl rfl) pe_int ip_add)))
    (pss_one (ps_ret (pe_tup (pa_cons (pe_ix ix_tup (pe_ix ix_tup (pv 0) (pv 1) (fun _ _=>rfl)) (pv 3) (fun _ _=>rfl)) (pa_cons (pv 4) pa_nil)))))),?_⟩
  have lcl:(CT.ahd l c++r).length=c.length+r.length:=by rw [List.length_append];congr 1;exact List.length_map ..
  have rd:∀ k,k < j - i→∃ (b:Addr) (u:List Int) (x:Int),xs[i+k]?=some (.ref b)∧H b=some (.tup (u.map V.int))∧(u.map V.int)[s]?=some (.int x)∧(k < c.length→x=(l:Int))∧(¬ k < c.length→(l:Int) < x):=fun k hk=>by
    obtain ⟨x,v,e,h1,h2⟩:=heads (l:=l) (c:=c) (r:=r) fr (k:=k) (by omega)
    obtain ⟨u,hu,hs⟩:=At.head at0 e
    obtain ⟨y,hy,ry⟩:=Paired.left_of hx (i+k) u hu
    obtain ⟨b,rfl,hb⟩:=Wd.ti ry
    exact ⟨b,u,x,hy,hb,by rw [List.getElem?_map,hs];rfl,h1,h2⟩
  obtain ⟨b0,u0,x0,r1,r2,r3,r4,_⟩:=rd 0 (by omega)
  have e0:=r4 (by omega)
  subst e0
  rw [Nat.add_zero] at r1
  refine ⟨_,rfl,?_⟩
  refine ⟨fun m σ H'=>H'=H∧∃ k:Nat,m=j - i - k∧k≤c.length∧σ=[some (.ref a),some (.int (i:Int)),some (.int (j:Int)),some (.int (s:Int)),some (.int ((i+k:Nat):Int))],⟨_,rfl,0,rfl,by omega,rfl⟩,?_⟩
  rintro m σ H' ⟨rfl,k,rfl,hk,rfl⟩
  refine ⟨_,rfl,_,rfl,_,_,rfl,rfl,_,rfl,?_⟩
  refine ite2 (fun y=>?_) (fun y=>?_)
  · have y1:((i+k:Nat):Int) < (j:Int):=of_decide_eq_true y
    obtain ⟨b,u,x,k1,k2,k3,k4,k5⟩:=rd k (by omega)
    refine ⟨_,rfl,_,rfl,a,_,_,_,rfl,rfl,SqT.of ha,atI_nat k1,_,rfl,b,_,_,_,rfl,rfl,SqT.of k2,atI_nat k3,_,rfl,_,rfl,a,_,_,_,rfl,rfl,SqT.of ha,atI_nat r1,_,rfl,b0,_,_,_,rfl,rfl,SqT.of r2,atI_nat r3,rfl,_,rfl,?_⟩
    refine ite2 (fun z=>?_) (fun z=>?_)
    · have z1:x=(l:Int):=V.int.inj (of_decide_eq_true z)
      have kc:k < c.length:=by
        by_cases w:k < c.length
        · exact w
        · have:=k5 w;omega
      refine ⟨_,fun σ' H' n'=>n',?_⟩
      refine ⟨_,rfl,_,_,rfl,rfl,j - i - (k+1),by omega,rfl,k+1,rfl,by omega,?_⟩
      rfl
    · have kc:k=c.length:=by
        by_cases w:k < c.length
        · exact absurd (decide_eq_true (by rw [k4 w])) z
        · omega
      subst kc
      refine ⟨_,rfl,_,rfl,a,_,_,_,rfl,rfl,SqT.of ha,atI_nat r1,_,rfl,b0,_,_,_,rfl,rfl,SqT.of r2,atI_nat r3,_,rfl,(by show 2≤sizeLine;decide),fun t ht=>q t _ (same_newO ht _) upd_same⟩
  · have kc:k=c.length:=by
      have:¬ ((i+k:Nat):Int) < (j:Int):=fun z=>y (decide_eq_true z)
      omega
    subst kc
    refine ⟨_,rfl,_,rfl,a,_,_,_,rfl,rfl,SqT.of ha,atI_nat r1,_,rfl,b0,_,_,_,rfl,rfl,SqT.of r2,atI_nat r3,_,rfl,(by show 2≤sizeLine;decide),fun t ht=>q t _ (same_newO ht _) upd_same⟩
end
end Kp
end K53
set_option Elab.async false
set_option linter.all false
set_option maxRecDepth 100000
namespace K53
open PySem L2
namespace Kp
theorem lex2 {a b c d:Nat}:HT.lexLt [(a:Int),(b:Int)] [(c:Int),(d:Int)]=decide (a < c∨(a=c∧b < d)):=by
  rw [HT.lexLt_cons,HT.lexLt_cons]
  by_cases e:a=c
  · subst e
    rw [if_pos rfl]
    by_cases e2:b=d
    · subst e2
      rw [if_pos rfl,decide_eq_false (by omega)]
      rfl
    · rw [if_neg (by omega)]
      by_cases z:b < d
      · rw [decide_eq_true (by omega),decide_eq_true (by omega)]
      · rw [decide_eq_false (by omega),decide_eq_false (by omega)]
  · rw [if_neg (by omega)]
    by_cases z:a < c
    · rw [decide_eq_true (by omega),decide_eq_true (by omega)]
    · rw [decide_eq_false (by omega),decide_eq_false (by omega)]
theorem way_tw {H:Hp} {i:Nat} {x:V} {q:Nat × Nat} (h:Way H i x q):∃ a,x=.ref a∧H a=some (.tup ([(q.1:Int),((i+q.2+1:Nat):Int)].map V.int)):=h
section
variable {P':Program} {w:World} {K:PySem.W.Frag} {mg:Str→Option Value} {base:Heap} {f:Addr} {fd:FuncData}
abbrev NNw:List Str:=["counts","code","first","end","size"]
abbrev NNt:List Str:=["counts","code","letter","first","end","size","own","ahead","behind","inside","rest"]
abbrev PNt:List Str:=["counts","code","letter","first","end","size"]
def spNw (C D:Addr) (d:Nat):Sp:=fun vs H Q _=>∃ (r:Addr) (ps ws:List Int) (h t:Nat→Nat→Nat→OI) (F:Nat→Nat→OI) (c:Nat→Nat→Nat) (u:Nat→Nat→Nat→Nat) (a:Addr) (c0:CT.Code) (i j s:Nat) (cde:CT.Code),vs=[.ref r,.ref a,.int (i:Int),.int (j:Int),.int (s:Int)]∧Cts C D H r ps ws h t F c u∧Cde H a c0∧i < j∧j≤ws.length∧3 * (j - i)+2≤d∧cde∈Chh ps ws F i j∧At c0 i s cde ∧
  ∀ H' (x:Nat),Same H H'→(Chh ps ws F i j)[x]?=some cde→Q (.int (x:Int)) H'
def spNt (C D:Addr) (d:Nat):Sp:=fun vs H Q _=>∃ (r:Addr) (ps ws:List Int) (h t:Nat→Nat→Nat→OI) (F:Nat→Nat→OI) (c:Nat→Nat→Nat) (u:Nat→Nat→Nat→Nat) (a:Addr) (c0:CT.Code) (l i j s:Nat) (cde:CT.Code),vs=[.ref r,.ref a,.int (l:Int),.int (i:Int),.int (j:Int),.int (s:Int)]∧Cts C D H r ps ws h t F c u∧Cde H a c0∧i≤j∧(i < j→l < ps.length)∧j≤ws.length∧3 * (j - i)+1≤d∧(∀ q∈wys ps.length h t l i j,3 * (q.2+1)+3≤d)∧cde∈Txx ps ws t l i j∧At c0 i s cde ∧
  ∀ H' (x:Nat),Same H H'→(Txx ps ws t l i j)[x]?=some cde→Q (.int (x:Int)) H'
theorem scNw:FnScope NNw NNw (defScope sNw):=⟨rfl,rfl,rfl,by decide +kernel,rfl,by decide +kernel,by decide +kernel⟩
theorem scNt:FnScope NNt PNt (defScope sNt):=⟨rfl,rfl,rfl,by decide +kernel,rfl,by decide +kernel,by decide +kernel⟩
theorem ndNt:(("way":Str) :: NNt).Nodup:=by decide +kernel
set_option maxHeartbeats 16000000 in
theorem ok_nwt {C D:Addr} {f2:Addr} {fd2:FuncData} (FW:Fun K "number_of_words" "number_of_words" sNw f fd) (FT:Fun K "number_of_tail" "number_of_tail" sNt f2 fd2) (mw:mg "number_of_words"=some (.ref f)) (kw:PySem.W.keepIn K (.ref f)=true) (bw:Binds K fd NNw []) (mt:mg "number_of_tail"=some (.ref f2)) (kt:PySem.W.keepIn K (.ref f2)=true) (bt:Binds K fd2 PNt [])
    (GO:Fns P' w K mg base PWo "way_of" spWo 3) (MW:Mt P' w K mg base C "ways" ["self","letter","first","end"] (spWays C) 3) (MY:Mt P' w K mg base D "by_way" NBy (spBy D) 3) (rcP:PC K C) (rc:DC K D) (ms:mg "sum"=none):∀ d,FnOk P' w K mg base CX0 (d+4) f fd NNw (spNw C D d)∧FnOk P' w K mg base CX0 (d+4) f2 fd2 PNt (spNt C D d):=by
  intro d
  induction d with
  | zero =>
    refine ⟨FW.ok (k:=3) scNw (fun vs H Q E h=>?_) (fun cdv A outer s H vs Q E hr h=>?_),FT.ok (k:=3) scNt (fun vs H Q E h=>?_) (fun cdv A outer s H vs Q E hr h=>?_)⟩
    all_goals exfalso
    · obtain ⟨r,ps,ws,h,t,F,c,u,a,c0,i,j,s,cde,rfl,_,_,_,_,z,_⟩:=h
      omega
    · obtain ⟨r,ps,ws,h,t,F,c,u,a,c0,i,j,s,cde,rfl,_,_,_,_,z,_⟩:=h
      omega
    · obtain ⟨r,ps,ws,h,t,F,c,u,a,c0,l,i,j,s,cde,rfl,_,_,_,_,_,z,_⟩:=h
      omega
    · obtain ⟨r,ps,ws,h,t,F,c,u,a,c0,l,i,j,s,cde,rfl,_,_,_,_,_,z,_⟩:=h
      omega
  | succ d ih =>
    obtain ⟨OW,OT⟩:=ih
    constructor
    · refine FW.ok (k:=d+4) scNw (fun vs H Q E h=>?_) (fun cdv A outer s H vs Q E hr h=>?_)
      · obtain ⟨r,ps,ws,h,t,F,c,u,a,c0,i,j,s,cde,rfl,_⟩:=h
        rfl
      obtain ⟨r,ps,ws,h,t,F,c,u,a,c0,i,j,s,cde,rfl,ct,cd,hij,hj,hd,hc,ha,q⟩:=h
      refine ⟨_,pss_cons (ps_if (pt_cmpR op_eq (pe_op op_sub (pv 3) (pv 2)) pe_int (nomark _)) (pss_one (ps_ret pe_int)) pss_nil)
        (pss_one (ps_ret (pe_call OT hr (by rfl) mt kt bt .nil pass0 (pa_cons (pv 0) (pa_cons (pv 1) (pa_cons pe_int (pa_cons (pv 2) (pa_cons (pv 3) (pa_cons (pv 4) pa_nil))))))))),?_⟩
      refine ⟨_,rfl,_,rfl,_,_,rfl,rfl,rfl,_,rfl,?_⟩
      refine ite2 (fun z=>?_) (fun z=>?_)
      · have z1:j=i+1:=by
          have y:V.int ((j:Int) - (i:Int))=V.int 1:=of_decide_eq_true z
          have:=V.int.inj y
          omega
        subst z1
        obtain ⟨x,hx⟩:=List.mem_iff_getElem?.mp hc
        have lx:=(List.getElem?_eq_some_iff.mp hx).1
        have ll:(Chh ps ws F i (i+1)).length≤1:=by
          refine Nat.le_trans (List.length_filter_le _ _) ?_
          rw [show i+1 - i=1 by omega,CT.Cs_one]
          exact Nat.le_refl _
        have x0:x=0:=by omega
        subst x0
        exact q H 0 (Same.refl _) hx
      · have z1:¬ j - i=1:=fun y=>z (decide_eq_true (by show V.int ((j:Int) - (i:Int))=V.int 1;congr 1;omega))
        have L2':=ct.L
        have ec:Chh ps ws F i j=Txx ps ws t 0 i j:=by rw [ct.ch (by omega) hj,ct.tx (fun _=>by omega) (by omega) hj]
        refine ⟨_,rfl,_,rfl,_,rfl,_,rfl,_,rfl,r,ps,ws,h,t,F,c,u,a,c0,0,i,j,s,cde,rfl,ct,cd,by omega,fun _=>by omega,hj,by omega,fun q hq=>?_,?_,ha,fun H' x s' hx=>q H' x s' (by rw [ec];exact hx)⟩
        · have:=wys0 ct.T (by omega) (by omega) hj hq
          omega
        · rw [←ec];exact hc
    · refine FT.ok (k:=d+4) scNt (fun vs H Q E h=>?_) (fun cdv A outer s H vs Q E hr h=>?_)
      · obtain ⟨r,ps,ws,h,t,F,c,u,a,c0,l,i,j,s,cde,rfl,_⟩:=h
        rfl
      obtain ⟨r,ps,ws,h,t,F,c,u,a,c0,l,i,j,s,cde,rfl,ct,cd,hij,hlt,hj,hd,hdq,hc,ha,q⟩:=h
      have MW':=MW.up (show 3≤d+4 by omega)
      have MY':=MY.up (show 3≤d+4 by omega)
      have GO':=GO.up (show 3≤d+4 by omega)
      refine ⟨_,pss_cons (ps_if (pt_cmpR op_eq (pv 3) (pv 4) (nomark _)) (pss_one (ps_ret pe_int)) pss_nil)
        (pss_cons (ps_set (i:=6) scNt.nd rfl (Or.inr rfl) (pe_call GO'.ok hr (by rfl) GO'.m GO'.kp GO'.b .nil pass0 (pa_cons (pv 1) (pa_cons (pv 3) (pa_cons (pv 4) (pa_cons (pv 5) pa_nil))))))
        (pss_cons (ps_compL (i:=7) (M:=NNt) scNt.nd rfl rfl rfl (CompScope.of (defScope sNt) NNt rfl rfl rfl (by decide +kernel) (by decide +kernel) (by decide +kernel) rfl (by decide +kernel)) ndNt rfl (pe_mid (pe_meth (pe_fld (pv 0) rfl) rcP.c MW'.m MW'.ok hr MW'.b .nil pass0 (pa_cons (pv 2) (pa_cons (pv 3) (pa_cons (pv 4) pa_nil))))) mo_mid
          (fun cl C s0 H0 fp=>⟨pts_one (pt_cmpR (op_ltK K (hu0 hr)) (pv 0) (pv 7) (nomark _)),pv 0⟩))
        (pss_cons (ps_set (i:=8) scNt.nd rfl (Or.inl rfl) (pe_ix ix_list (pe_ix ix_list (pe_ix ix_list (pe_fld (pv 0) rfl) (pe_op op_add (pe_ix ix_tup (pv 6) pe_int (fun _ _=>rfl)) pe_int) (fun _ _=>rfl)) (pe_ix ix_tup (pv 6) pe_int (fun _ _=>rfl)) (fun _ _=>rfl)) (pv 4) (fun _ _=>rfl)))
        (pss_cons (ps_set (i:=9) scNt.nd rfl (Or.inl rfl) (pe_call OW hr (by rfl) mw kw bw .nil pass0 (pa_cons (pv 0) (pa_cons (pv 1) (pa_cons (pv 3) (pa_cons (pe_ix ix_tup (pv 6) pe_int (fun _ _=>rfl)) (pa_cons (pe_op op_add (pv 5) pe_int) pa_nil)))))))
        (pss_cons (ps_set (i:=10) scNt.nd rfl (Or.inl rfl) (pe_call OT hr (by rfl) mt kt bt .nil pass0 (pa_cons (pv 0) (pa_cons (pv 1) (pa_cons (pe_op op_add (pe_ix ix_tup (pv 6) pe_int (fun _ _=>rfl)) pe_int) (pa_cons (pe_ix ix_tup (pv 6) pe_int (fun _ _=>rfl)) (pa_cons (pv 4) (pa_cons (pv 5) pa_nil))))))))
        (pss_one (ps_ret (pe_op op_add (pe_op op_add (pe_callB (call_sum rfl) (by rfl) ms b_sum (pa_cons (pe_compL (M:=NNt) rfl (CompScope.of (defScope sNt) NNt rfl rfl rfl (by decide +kernel) (by decide +kernel) (by decide +kernel) rfl (by decide +kernel)) ndNt rfl (pv 7) mo_var
          (fun cl C s0 H0 fp=>⟨pts_nil,pe_meth (pv 1) rc.c MY'.m MY'.ok hr MY'.b .nil pass0 (pa_cons (pv 0) (pa_cons (pv 4) (pa_cons (pv 5) pa_nil)))⟩)) pa_nil)) (pe_op op_mulN (pv 9) (pv 8))) (pv 10))))))))),?_⟩
      refine ⟨_,rfl,_,rfl,rfl,_,rfl,?_⟩
      refine ite2 (fun z=>?_) (fun z=>?_)
      · have z1:i=j:=by have:=V.int.inj (of_decide_eq_true z);omega
        subst z1
        have e1:Txx ps ws t l i i=[[]]:=by unfold Txx CT.TX;rw [if_pos rfl]
        rw [e1] at hc
        have:cde=[]:=by simpa using hc
        subst this
        exact q H 0 (Same.refl _) (by rw [e1];rfl)
      have ne:i≠j:=fun y=>z (decide_eq_true (by rw [y]))
      have hij':i < j:=by omega
      have hl:=hlt hij'
      obtain ⟨k0,q0,c1,r1,hk,hc1,hr1,rfl,lc1,fr1⟩:=ct.cut hl hij' hj hc
      have hqm:=List.mem_of_getElem? hk
      obtain ⟨pr,p,X,Y,Tc,Tt,pa,ca,ctd⟩:=ct.ob
      obtain ⟨dx,ho⟩:=ca.ob
      obtain ⟨dp,hop⟩:=pa.ob
      obtain ⟨L2',L4,n6⟩:=ct.L
      obtain ⟨lr1a,lr1⟩:=tx_fr (ct.wq hl hij' hj hqm).2.1 hr1
      have lcde:(CT.ahd q0.1 c1++r1).length=j - i:=by
        obtain ⟨x,hx⟩:=List.mem_iff_getElem?.mp hc
        exact (tx_gd (by omega) hx).ln
      refine ⟨_,rfl,_,rfl,_,rfl,_,rfl,a,c0,i,j,s,q0.1,c1,r1,rfl,cd,ha,by omega,fr1,lcde,hij',fun ow H1 s1 how=>?_⟩
      have e1:i+c1.length=i+q0.2+1:=by omega
      rw [e1] at how
      refine ⟨fun v H2=>∃ d xs,v=.ref d∧Same H1 H2∧H2 d=some (.lst xs)∧Paired (Way H2 i) xs (wys ps.length h t l i j),?_,fun v H2 hv=>?_⟩
      · exact ⟨_,rfl,r,D,dx,_,_,rfl,s1 _ _ ho,rc.c,rc.np,rfl,pr,dp,_,rfl,s1 _ _ hop,rfl,_,rfl,_,rfl,_,rfl,pr,p,ps,ws,X,h,t,l,i,j,rfl,pa.same s1,by omega,by omega,hl,hij',hj,fun d xs H' s' g' w'=>⟨d,xs,rfl,s',g',w'⟩⟩
      obtain ⟨dw,xw,rfl,s2,g2,w2⟩:=hv
      have s12:=s1.trans s2
      have lxw:xw.length=(wys ps.length h t l i j).length:=w2.length
      have l24:=wys_len (L:=ps.length) (l:=l) (i:=i) (j:=j) (h:=h) (t:=t) L4 (by omega)
      let lw:Nat × Nat→Bool:=fun z=>decide (z.1 < q0.1∨(z.1=q0.1∧z.2 < q0.2))
      refine ⟨dw,_,rfl,SqL.of g2,fun da hda=>?_⟩
      refine ⟨fun k H'=>Same H2 H'∧∃ ys,H' da=some (.lst ys)∧Paired (Way H' i) ys (((wys ps.length h t l i j).take k).filter lw),⟨same_newO hda _,[],upd_same,.nil⟩,fun k H' _ hP=>SqL.of (hP.1 _ _ g2),fun k x H' hx hP=>?_,fun H3 hP=>?_⟩
      · obtain ⟨s3,ys,g3,w3⟩:=hP
        obtain ⟨q',hq,rx⟩:=Paired.right_of w2 k x hx
        obtain ⟨wt,rfl,hwt⟩:=way_tw rx
        have kl:=(List.getElem?_eq_some_iff.mp hq).1
        have et:((wys ps.length h t l i j).take (k+1)).filter lw=((wys ps.length h t l i j).take k).filter lw++[q'].filter lw:=by rw [List.take_add_one,hq,List.filter_append];rfl
        refine ⟨_,rfl,_,rfl,wt,ow,[(q'.1:Int),((i+q'.2+1:Nat):Int)],[(q0.1:Int),((i+q0.2+1:Nat):Int)],rfl,rfl,SqT.of (s3 _ _ hwt),SqT.of ((s2.trans s3) _ _ how),_,rfl,?_⟩
        have el:HT.lexLt [(q'.1:Int),((i+q'.2+1:Nat):Int)] [(q0.1:Int),((i+q0.2+1:Nat):Int)]=lw q':=by
          rw [lex2]
          exact decide_eq_decide.mpr (by omega)
        rw [el]
        refine ite2 (fun y=>?_) (fun y=>?_)
        · refine ⟨_,rfl,_,g3,?_,same_upd hda s3,_,upd_same,?_⟩
          · have h1:=w3.length
            have h2:=List.length_filter_le lw ((wys ps.length h t l i j).take k)
            rw [List.length_take] at h2
            exact small1000 (by omega)
          · rw [et,List.filter_cons,if_pos y]
            exact L2.Paired.appendP (Paired.mapP w3 fun _ _ r=>r.upd g3) (.cons (Way.upd g3 ⟨wt,rfl,s3 _ _ hwt⟩) .nil)
        · refine ⟨s3,ys,g3,?_⟩
          rw [et,List.filter_cons,if_neg y,List.filter_nil,List.append_nil]
          exact w3
      obtain ⟨s3,ya,g3,w3⟩:=hP
      rw [lxw,List.take_length,wys_take hk] at w3
      have s13:=s12.trans s3
      have how3:=(s2.trans s3) _ _ how
      have ca3:=ca.same s13
      have ho3:=s13 _ _ ho
      have bw':∀ q∈wys ps.length h t l i j,q.1 < ps.length∧i+q.2+1≤j∧(i+q.2+1 < j→q.1+1 < ps.length)∧Tc i (i+q.2+1)=some (c i (i+q.2+1):Int)∧Tt (q.1+1) (i+q.2+1) j=some (u (q.1+1) (i+q.2+1) j:Int)∧c i (i+q.2+1)≤900∧u (q.1+1) (i+q.2+1) j≤900:=fun q hq=>by
        obtain ⟨a1,a2,a3⟩:=ct.wq hl hij' hj hq
        refine ⟨a1,a2,a3,ctd.vc i (i+q.2+1) (by omega) (by omega) trivial,?_,ct.c9 (by omega) (by omega),ct.u9 (by omega) a3 a2 hj⟩
        by_cases y:i+q.2+1 < j
        · exact ctd.vt (q.1+1) (i+q.2+1) j (a3 y) y hj trivial
        · have y1:i+q.2+1=j:=by omega
          rw [y1,ctd.dg (q.1+1) j (by omega) hj,ctd.td (q.1+1) j (by omega) hj]
          rfl
      have b126:∀ {y:Nat},y≤900→y≤2 ^ 126:=fun hy=>Nat.le_trans hy (by decide)
      obtain ⟨b1,b2,b3,b4,b5,b6,b7⟩:=bw' q0 hqm
      refine ⟨_,rfl,r,D,dx,_,_,rfl,ho3,rc.c,rc.nt,rfl,_,rfl,ow,_,_,_,rfl,rfl,SqT.of how3,rfl,_,_,rfl,rfl,Y.tt,_,_,_,rfl,rfl,SqL.of ca3.tl.o,at_rng (k:=q0.1+1) (by omega),_,rfl,ow,_,_,_,rfl,rfl,SqT.of how3,rfl,Y.bt (q0.1+1),_,_,_,rfl,rfl,SqL.of (ca3.tl.b (q0.1+1) (by omega)),at_rng (k:=i+q0.2+1) (by omega),_,rfl,Y.ct (q0.1+1) (i+q0.2+1),_,_,_,rfl,rfl,SqL.of (ca3.tl.c (q0.1+1) (i+q0.2+1) (by omega) (by omega)),at_rng (k:=j) (by omega),?_⟩
      rw [b5]
      refine ⟨_,rfl,_,rfl,_,rfl,_,rfl,ow,_,_,_,rfl,rfl,SqT.of how3,rfl,_,rfl,_,_,rfl,rfl,?_⟩
      refine ⟨r,ps,ws,h,t,F,c,u,a,c0,i,i+q0.2+1,s+1,c1,rfl,ct.same s13,cd.same s13,by omega,by omega,?_,hc1,ha.left,fun H4 x s4 hx=>?_⟩
      · have:=hdq q0 hqm
        omega
      have how4:=s4 _ _ how3
      have s14:=s13.trans s4
      refine ⟨_,rfl,_,rfl,_,rfl,ow,_,_,_,rfl,rfl,SqT.of how4,rfl,_,_,rfl,rfl,_,rfl,ow,_,_,_,rfl,rfl,SqT.of how4,rfl,_,rfl,_,rfl,?_⟩
      have ar:=ha.right
      rw [lc1] at ar
      refine ⟨r,ps,ws,h,t,F,c,u,a,c0,q0.1+1,i+q0.2+1,j,s,r1,rfl,ct.same s14,cd.same s14,b2,b3,hj,by omega,fun q2 hq2=>?_,hr1,ar,fun H5 y s5 hy=>?_⟩
      · have e1:=(CT.Bk_mem.mp (wys_mem.mp hq2).1).2.2
        omega
      have s15:=s14.trans s5
      have g5:=(s4.trans s5) _ _ g3
      have w5:Paired (Way H5 i) ya ((wys ps.length h t l i j).take k0):=Paired.mapP w3 fun _ _ r=>r.same (s4.trans s5)
      have ca5:=ca.same s15
      have ho5:=s15 _ _ ho
      have ly:ya.length=((wys ps.length h t l i j).take k0).length:=w5.length
      refine ⟨_,rfl,da,_,rfl,SqL.of g5,fun e2 he2=>?_⟩
      refine ⟨fun k H'=>Same H5 H'∧H' e2=some (.lst (((((wys ps.length h t l i j).take k0).take k).map fun q=>((c i (i+q.2+1) * u (q.1+1) (i+q.2+1) j:Nat):Int)).map V.int)),⟨same_newO he2 _,upd_same⟩,fun k H' _ hP=>SqL.of (hP.1 _ _ g5),fun k x' H' hx' hP=>?_,fun H6 hP=>?_⟩
      · obtain ⟨s6,g6⟩:=hP
        obtain ⟨q',hq,rx⟩:=Paired.right_of w5 k x' hx'
        obtain ⟨wt,rfl,hwt⟩:=rx
        have hm:q'∈wys ps.length h t l i j:=List.mem_of_mem_take (List.mem_of_getElem? hq)
        have kl:=(List.getElem?_eq_some_iff.mp hq).1
        rw [List.length_take] at kl
        obtain ⟨d1,d2,d3,d4,d5,d6,d7⟩:=bw' q' hm
        refine turn_all ⟨_,rfl,r,dx,_,rfl,s6 _ _ ho5,rfl,_,rfl,_,rfl,_,rfl,r,pr,ps.length,ws.length+1,Y,Tc,Tt,wt,i,q'.1,i+q'.2+1,j,c i (i+q'.2+1),u (q'.1+1) (i+q'.2+1) j,rfl,ca5.same s6,s6 _ _ hwt,by omega,by omega,by omega,d1,d4,d5,b126 d6,b126 d7,_,g6,?_,same_upd he2 s6,?_⟩
        · rw [List.length_map,List.length_map,List.length_take,List.length_take];exact small1000 (by omega)
        · rw [upd_same,List.take_add_one,hq,List.map_append,List.map_append];rfl
      obtain ⟨s6,g6⟩:=hP
      rw [ly,List.take_length] at g6
      refine ⟨e2,_,rfl,g6,?_⟩
      have es:(((wys ps.length h t l i j).take k0).map fun q=>((c i (i+q.2+1) * u (q.1+1) (i+q.2+1) j:Nat):Int)).sum=(((((wys ps.length h t l i j).take k0).map fun q=>c i (i+q.2+1) * u (q.1+1) (i+q.2+1) j).sum:Nat):Int):=by
        rw [←sum_nat,List.map_map]
        rfl
      rw [es]
      have lx:=(List.getElem?_eq_some_iff.mp hx).1
      rw [ct.lch (by omega) (by omega)] at lx
      refine ⟨_,rfl,_,rfl,_,_,rfl,rfl,⟨⟨by omega,by have:=b126 (y:=x) (by omega);omega⟩,⟨by omega,by have:=b126 b7;omega⟩⟩,_,_,rfl,rfl,_,rfl,_,_,rfl,rfl,?_⟩
      have num:=ct.num hl hij' hj hk hx hy
      have ev:(((((wys ps.length h t l i j).take k0).map fun q=>c i (i+q.2+1) * u (q.1+1) (i+q.2+1) j).sum:Nat):Int)+(x:Int) * (u (q0.1+1) (i+q0.2+1) j:Int)+(y:Int)=(((((wys ps.length h t l i j).take k0).map fun q=>c i (i+q.2+1) * u (q.1+1) (i+q.2+1) j).sum+(x * u (q0.1+1) (i+q0.2+1) j+y):Nat):Int):=by
        push_cast
        omega
      dsimp only
      rw [ev]
      exact q H6 _ (s15.trans s6) num
end
end Kp
end K53
set_option Elab.async false
set_option linter.all false
set_option maxRecDepth 100000
namespace L2
open PySem PySem.Spec PyProof.Rows
theorem eqs_of {α:Type} [DecidableEq α] {X:Cx} {pins:List (Addr × Obj)} {s:Shared} {σ:St} {H:Hp} {n:Nat} {R:V→α→Prop} (I:Inv X pins σ H s) (EK:EqK H s n R) (hr:∀ x a,R x a→∃ b,x=.ref b) {A:Around} (hA:A.units+n < cLine) {x:V} {v:Value} {u:α} {xs:List V} {its:List Value} {ws:List α} (hx:R x u) (rx:RelV x v) (r:Vals xs its) (hw:Paired R xs ws) :
    ∃ e:Value→Bool,(∀ z∈its,SeqAt.EqAt A s z v (e z))∧∀ (i:Nat) (z:Value),its[i]?=some z→e z=decide (ws[i]?=some u):=by
  have li:xs.length=its.length:=r.length
  have one:∀ (i:Nat) (z:Value),its[i]?=some z→∃ wd,ws[i]?=some wd∧(∃ xi,R xi wd∧RelV xi z):=fun i z hi=>by
    have il:i < its.length:=(List.getElem?_eq_some_iff.mp hi).1
    have hxi:xs[i]?=some (xs[i]'(by omega)):=List.getElem?_eq_getElem _
    obtain ⟨wd,hwd,rw'⟩:=Paired.right_of hw i _ hxi
    obtain ⟨z',hz',rz⟩:=r.get hxi
    rw [hi] at hz'
    cases hz'
    exact ⟨wd,hwd,_,rw',rz⟩
  refine ⟨fun z=>@decide (∃ i:Nat,its[i]?=some z∧ws[i]?=some u) (Classical.propDecidable _),?_⟩
  have val:∀ (i:Nat) (z:Value) (wd:α),its[i]?=some z→ws[i]?=some wd→@decide (∃ i:Nat,its[i]?=some z∧ws[i]?=some u) (Classical.propDecidable _)=decide (wd=u):=fun i z wd hi hwd=>by
    rw [Bool.eq_iff_iff]
    simp only [decide_eq_true_eq]
    refine ⟨fun ⟨j,h1,h2⟩=>?_,fun h=>⟨i,hi,by rw [hwd,h]⟩⟩
    obtain ⟨w1,e1,x1,p1,q1⟩:=one i z hi
    obtain ⟨w2,e2,x2,p2,q2⟩:=one j z h1
    rw [hwd] at e1
    rw [h2] at e2
    cases e1
    cases e2
    obtain ⟨a1,rfl⟩:=hr _ _ p1
    obtain ⟨a2,rfl⟩:=hr _ _ p2
    have g1:z=.ref a1:=q1
    have g2:z=.ref a2:=q2
    rw [g1] at g2
    cases g2
    exact EK.inj _ _ _ p1 p2
  refine ⟨fun z hz=>?_,fun i z hi=>?_⟩
  · obtain ⟨i,hi⟩:=List.mem_iff_getElem?.mp hz
    obtain ⟨wd,hwd,xi,p,rz⟩:=one i z hi
    show SeqAt.EqAt A s z v (@decide _ (Classical.propDecidable _))
    rw [val i z wd hi hwd]
    exact EK.eq A _ _ wd u z v hA p hx rz rx
  · obtain ⟨wd,hwd,_⟩:=one i z hi
    show @decide _ (Classical.propDecidable _)=_
    rw [val i z wd hi hwd,hwd]
    rw [Bool.eq_iff_iff]
    simp
def rNotInLL:R2:=fun x y H Q=>∃ (c:Addr) (xs:List V) (cs:List (List (List Int))) (u:List (List Int)),y=.ref c∧RLst H (RTup H RInt) x u∧H c=some (.lst xs)∧Paired (RLst H (RTup H RInt)) xs cs∧Q (.bl (!decide (u∈cs))) H
end L2
set_option Elab.async false
set_option linter.all false
set_option maxRecDepth 100000
namespace L2
open PySem PySem.Spec PyProof.Rows
abbrev RCd (H:Hp):V→List (List Int)→Prop:=RTup H (RTup H RInt)
def rInC:R2:=fun x y H Q=>∃ (c:Addr) (xs:List V) (cs:List (List (List Int))) (u:List (List Int)),y=.ref c∧RCd H x u∧H c=some (.lst xs)∧Paired (RCd H) xs cs∧Q (.bl (decide (u∈cs))) H
theorem op_inC {X:Cx} (hu:X.A.units+4 < cLine):OpR X (compareOp .In) rInC:=by
  intro pins s σ H x y v w' Q I rx ry h
  obtain ⟨c,xs,ws,u,rfl,hx,hc,hw,q⟩:=h
  cases ry
  obtain ⟨z,its,n,r,hl,e0⟩:=I.lstM hc
  obtain ⟨e,at_,ev⟩:=eqs_of I (EqK.tup (EqK.tup (H:=H) (s:=s) (n:=0) EqK.int I.hok) I.hok) (fun x a ⟨b,_,e,_⟩=>⟨b,e⟩) (A:=X.A.in1) (by show X.A.units+1+(0+1+1) < cLine;omega) hx rx r hw
  have lw:xs.length=ws.length:=hw.length
  have li:xs.length=its.length:=r.length
  refine SeqAt.in_listAt e ⟨_,e0,rfl,_,rfl⟩ (fun z hz=>at_ z (by simpa using hz)) ⟨.bl _,H,I,rfl,?_⟩
  have ea:its.toArray.any e=decide (u∈ws):=by
    rw [show its.toArray.any e=its.any e by simp,Bool.eq_iff_iff]
    simp only [List.any_eq_true,decide_eq_true_eq]
    constructor
    · rintro ⟨z,hz,hz'⟩
      obtain ⟨i,hi⟩:=List.mem_iff_getElem?.mp hz
      rw [ev i z hi] at hz'
      exact List.mem_of_getElem? (of_decide_eq_true hz')
    · intro hm
      obtain ⟨i,hi⟩:=List.mem_iff_getElem?.mp hm
      have il:i < ws.length:=(List.getElem?_eq_some_iff.mp hi).1
      have hi2:its[i]?=some (its[i]'(by omega)):=List.getElem?_eq_getElem _
      exact ⟨its[i]'(by omega),List.getElem_mem _,by rw [ev i _ hi2];exact decide_eq_true hi⟩
  rw [ea]
  exact q
def rIdxC:V→List V→Hp→VK→Prop:=fun x vs H Q=>∃ (l:Addr) (y:V) (xs:List V) (ws:List (List (List Int))) (u:List (List Int)),x=.ref l∧vs=[y]∧RCd H y u∧H l=some (.lst xs)∧Paired (RCd H) xs ws∧u∈ws∧Q (.int (ws.idxOf u:Nat)) H
theorem mt_indexC {X:Cx} (hu:X.A.units+4 < cLine):MtM X "list.index" rIdxC:=by
  intro pins s σ H x vs v us Q I rx rv h
  obtain ⟨l,y,xs,ws,u,rfl,rfl,hy,hH,hw,hm,q⟩:=h
  cases rx
  obtain ⟨y',rfl,ry⟩:=rv.one
  obtain ⟨z,its,n,r,hl,e0⟩:=I.lstM hH
  have lw:xs.length=ws.length:=hw.length
  have li:xs.length=its.length:=r.length
  obtain ⟨e,at_,ev⟩:=eqs_of I (EqK.tup (EqK.tup (H:=H) (s:=s) (n:=0) EqK.int I.hok) I.hok) (fun x a ⟨b,_,e,_⟩=>⟨b,e⟩) (A:=X.A.in1) (by show X.A.units+1+(0+1+1) < cLine;omega) hy ry r hw
  have hj:ws.idxOf u < ws.length:=List.idxOf_lt_length_iff.mpr hm
  refine call_meets PySem.F.slot_list_index ⟨_,e0,rfl⟩ PySem.F.entry_list_index (PySem.F.args_list_index_2 _ _)
    (SeqAt.list_indexAt l its.toArray n _ _ y' e (ws.idxOf u) (by rw [List.size_toArray];omega) ?_ ?_ ?_) ⟨e0,fun z hz=>at_ z (by simpa using hz),?_⟩
  · have:(sizeLine:Nat) < 2 ^ 62:=by decide
    have:its.length≤sizeLine:=by omega
    omega
  · have h2:its[ws.idxOf u]?=some (its[ws.idxOf u]'(by omega)):=List.getElem?_eq_getElem _
    show e (its[ws.idxOf u]'(by omega))=true
    rw [ev _ _ h2]
    refine decide_eq_true ?_
    rw [List.getElem?_eq_getElem hj,List.getElem_idxOf hj]
  · intro m hm' hlt
    have hm2:m < its.length:=by simpa using hm'
    have h2:its[m]?=some (its[m]'hm2):=List.getElem?_eq_getElem _
    show e (its[m]'hm2)=false
    rw [ev _ _ h2]
    refine decide_eq_false fun hz=>?_
    have hlt':m < ws.findIdx (· == u):=hlt
    obtain ⟨ml,em⟩:=List.getElem?_eq_some_iff.mp hz
    have:=List.not_of_lt_findIdx hlt'
    rw [em] at this
    simp at this
  · exact ⟨.int _,H,I.tok _,⟨_,rfl⟩,q⟩
end L2
namespace K53
open PySem L2
theorem chp_is {C D:Addr} {H:Hp} {r:Addr} {ps ws:List Int} {h t:Nat→Nat→Nat→OI} {F:Nat→Nat→OI} {c:Nat→Nat→Nat} {u:Nat→Nat→Nat→Nat} (a:Cts C D H r ps ws h t F c u) (n1:1≤ws.length):chp ps ws=Chh ps ws F 0 ws.length:=by
  have key:=(CT.counted a.T a.N CT.en ws.length ws.length 0 (Nat.le_refl _) n1 (by omega)).1.1
  rw [Nat.zero_add] at key
  unfold chp Chh CT.CH
  rw [key]
  rfl
theorem chp_nd {ps ws:List Int} (n1:1≤ws.length):(chp ps ws).Nodup:=(CT.Cs_nd n1).filter _
namespace Kp
def kd (ps ws:List Int) (c:CT.Code):Nat:=if c.length=ws.length then (if c.all (alone (ps.length:Int))=true then (if c∈chp ps ws then 3 else 2) else 1) else 0
theorem kd_le {ps ws:List Int} {c:CT.Code}:kd ps ws c≤3:=by
  unfold kd
  split
  · split
    · split <;> omega
    · omega
  · omega
section
variable {P':Program} {w:World} {K:PySem.W.Frag} {mg:Str→Option Value} {base:Heap} {f:Addr} {fd:FuncData}
def spNo (CU CB CN:Addr):Sp:=fun vs H Q E=>∃ (p q a:Addr) (ps ws:List Int) (c:CT.Code),vs=[.ref p,.ref q,.ref a]∧In2 H p q ps ws∧Cde H a c ∧
  (kd ps ws c=0→∀ H',Same H H'→E (.ref CU) none H')∧(kd ps ws c=1→∀ H',Same H H'→E (.ref CB) none H')∧(kd ps ws c=2→∀ H',Same H H'→E (.ref CN) none H') ∧
  (kd ps ws c=3→∀ H' (x:Nat),Same H H'→(chp ps ws)[x]?=some c→Q (.int (x:Int)) H')
theorem scNo:FnScope NC NC (defScope sNo):=⟨rfl,rfl,rfl,by decide +kernel,rfl,by decide +kernel,by decide +kernel⟩
set_option maxHeartbeats 8000000 in
theorem ok_no {C D CU CB CN:Addr} (F:Fun K "number_of" "number_of" sNo f fd) (GI:Fns' P' w K mg base NC "is_cheapest_kept" (spIck CU CB) 24) (cl:ClC P' w K mg base C D) (GW:Fns P' w K mg base NNw "number_of_words" (spNw C D 20) 24) (ml:mg "len"=none) (mN:mg "NotCheapest"=some (.ref CN)) (eN:Ecl K CN):FnOk P' w K mg base (CXF P' w) 25 f fd NC (spNo CU CB CN):=by
  refine F.okF (k:=24) scNo (fun vs H Q E h=>?_) (fun cdv A outer s H vs Q E hr h=>?_)
  · obtain ⟨p,q,a,ps,ws,c,rfl,_⟩:=h
    rfl
  obtain ⟨p,q,a,ps,ws,cc,rfl,i2,cd,q0,q1,q2,q3⟩:=h
  obtain ⟨L2',L4,m6⟩:=inL_bd i2.il
  have nu:=i2.nu
  have w1:=nu.w1
  have oki:=cl.oki.mono (show 6≤23 by decide)
  refine ⟨_,pss_cons (ps_if (pt_not (pt_val (pe_call GI.ok hr (by rfl) GI.m GI.kp GI.b .nil takes_def (pa_cons (pv 0) (pa_cons (pv 1) (pa_cons (pv 2) pa_nil)))))) (pss_one (ps_raise takes_def rfl (by rfl) mN eN (pa_cons pe_str pa_nil))) pss_nil)
    (pss_one (ps_ret (pe_call GW.ok hr (by rfl) GW.m GW.kp GW.b .nil pass0 (pa_cons (pe_make cl.mkk oki hr (by rfl) cl.g cl.bi .nil pass0 (pa_cons (pv 0) (pa_cons (pv 1) pa_nil))) (pa_cons (pv 2) (pa_cons pe_int (pa_cons (pe_callB call_len_seq (by rfl) ml PySem.boot_len (pa_cons (pv 1) pa_nil)) (pa_cons pe_int pa_nil)))))))),?_⟩
  refine ⟨_,rfl,_,rfl,_,rfl,p,q,a,ps,ws,cc,rfl,i2,cd,fun ne=>q0 (by unfold kd;rw [if_neg ne]),fun el al H1 b s1 hb=>?_,fun el bad=>q1 (by
    unfold kd
    rw [if_pos el,if_neg]
    intro z
    obtain ⟨u,hu,e⟩:=bad
    have:=List.all_eq_true.mp z u hu
    rw [e] at this
    cases this)⟩
  have ka:cc.all (alone (ps.length:Int))=true:=List.all_eq_true.mpr al
  refine ⟨b,rfl,?_⟩
  cases b with
  | false =>
    refine iteT ⟨by decide,q2 ?_ H1 s1⟩
    unfold kd
    rw [if_pos el,if_pos ka,if_neg fun z=>by cases hb.mpr z]
  | true =>
    have hm:=hb.mp rfl
    have k3:kd ps ws cc=3:=by unfold kd;rw [if_pos el,if_pos ka,if_pos hm]
    refine iteF ?_
    have i21:=i2.same s1
    refine ⟨_,rfl,_,rfl,fun r dx rn hdx _=>?_⟩
    have sm:Same H1 (upd (upd H1 dx (.own r)) r (.ins D dx [])):=same_upd rn (same_newO hdx _)
    refine ⟨r,dx,p,q,ps,ws,rfl,upd_same,sm _ _ i21.hp,sm _ _ i21.hq,nu,i2.pp,i2.pw,L4,m6,fun H2 pr X h t Fl Y Tc Tt c u k1 pa ca T ctd=>⟨rfl,?_⟩⟩
    have s2:Same H1 H2:=fun a o e=>k1 a o (fun z=>by rw [z,rn] at e;cases e) (sm a o e)
    have ct:Cts C D H2 r ps ws h t Fl c u:=⟨⟨pr,p,X,Y,Tc,Tt,pa,ca,ctd⟩,T,ctd.cn,i2.il⟩
    have s12:=s1.trans s2
    have ech:=chp_is ct w1
    refine ⟨_,rfl,_,rfl,q,_,rfl,.inr (SqT.of (s12 _ _ i2.hq)),?_⟩
    rw [List.length_map]
    refine ⟨r,ps,ws,h,t,Fl,c,u,a,cc,0,ws.length,0,cc,rfl,ct,cd.same s12,by omega,Nat.le_refl _,by omega,by rw [←ech];exact hm,At.whole,fun H3 x s3 hx=>q3 k3 H3 x (s12.trans s3) (by rw [ech];exact hx)⟩
end
end Kp
end K53
set_option Elab.async false
set_option linter.all false
set_option maxRecDepth 100000
namespace K53
open PySem L2
namespace Kp
theorem cuts_ints (ns:List Int) (lo hi:Option Int):∃ ms:List Int,cutV (ns.map V.int) lo hi=ms.map V.int∧ms.length≤ns.length:=by
  unfold cutV
  rw [←List.map_drop,←List.map_take]
  refine ⟨_,rfl,?_⟩
  rw [List.length_take,List.length_drop]
  omega
theorem fourS {a b c d i:Int} (i0:0≤i) (i1:i < 4):∃ v,atI [V.int a,.int b,.int c,.int d] i=some (.int v):=by
  have h:i=0∨i=1∨i=2∨i=3:=by omega
  rcases h with h | h | h | h <;> subst h <;> exact ⟨_,rfl⟩
theorem paired_set {α β:Type} {R:α→β→Prop} {x:α} {u:β}:∀ {xs:List α} {ds:List β} (n:Nat),Paired R xs ds→R x u→Paired R (xs.set n x) (ds.set n u)
  | _,_,_,.nil,_=>.nil
  | _,_,0,.cons _ h,r=>.cons r h
  | _,_,n+1,.cons h1 h,r=>.cons h1 (paired_set n h r)
theorem mod_n {x:Int} {n:Nat} (h:1≤n):∃ k:Nat,x % (n:Int)=(k:Int)∧k < n:=by
  have h1:0≤x % (n:Int):=Int.emod_nonneg _ (by omega)
  have h2:x % (n:Int) < (n:Int):=Int.emod_lt_of_pos _ (by omega)
  exact ⟨(x % (n:Int)).toNat,by omega,by omega⟩
section
variable {P':Program} {w:World} {K:PySem.W.Frag} {mg:Str→Option Value} {base:Heap} {f:Addr} {fd:FuncData}
abbrev NSp:List Str:=["code","letters","cell","made","at","other","spot","strange"]
abbrev PSp:List Str:=["code","letters","cell"]
theorem scSp:FnScope NSp PSp (defScope sSpoilt):=⟨rfl,rfl,rfl,by decide +kernel,rfl,by decide +kernel,by decide +kernel⟩
def spSp:Sp:=fun vs H Q _=>∃ (a:Addr) (xs:List V) (c:CT.Code) (L:Nat) (cl:Int),vs=[.ref a,.int (L:Int),.int cl]∧H a=some (.tup xs)∧Ws H xs c∧1≤c.length∧c.length≤30∧(∀ u∈c,u.length≤400)∧2≤L∧L≤100∧∀ (b:Addr) c' H',Same H H'→Cde H' b c'→Q (.ref b) H'
def Mde (H:Hp) (a:Addr) (L:Nat) (cl:Int) (k k2:Nat) (σ:St) (H':Hp):Prop:=∃ (ml:Addr) (ys:List V) (mss:CT.Code) (x6 x7:Option V),σ=[some (.ref a),some (.int (L:Int)),some (.int cl),some (.ref ml),some (.int (k:Int)),some (.int (k2:Int)),x6,x7]∧Same H H'∧H' ml=some (.lst ys)∧Ws H' ys mss∧mss.length≤60∧∀ ns∈mss,ns.length≤950
set_option maxHeartbeats 16000000 in
theorem ok_sp (F:Fun K "_law_spoilt" "_law_spoilt" sSpoilt f fd) (ml:mg "len"=none) (mL:mg "list"=none) (mt:mg "tuple"=none):FnOk P' w K mg base CX0 1 f fd PSp spSp:=by
  refine F.ok (k:=0) scSp (fun vs H Q E h=>?_) (fun cdv A outer s H vs Q E hr h=>?_)
  · obtain ⟨a,xs,c,L,cl,rfl,_⟩:=h
    rfl
  obtain ⟨a,xs,c,L,cl,rfl,ha,hx,c1,c30,b9,L2',L100,q⟩:=h
  have lx:xs.length=c.length:=hx.length
  refine ⟨_,pss_cons (ps_set (i:=3) scSp.nd rfl (Or.inl rfl) (pe_callTy call_list_of (by rfl) mL b_list (pa_cons (pv 0) (pa_nil))))
      (pss_cons (ps_set (i:=4) scSp.nd rfl (Or.inl rfl) (pe_op op_mod (pe_op op_fdiv (pv 2) (pe_int)) (pe_callB call_len_seq (by rfl) ml PySem.boot_len (pa_cons (pv 3) (pa_nil)))))
      (pss_cons (ps_set (i:=5) scSp.nd rfl (Or.inl rfl) (pe_op op_mod (pe_op op_fdiv (pv 2) (pe_int)) (pe_callB call_len_seq (by rfl) ml PySem.boot_len (pa_cons (pv 3) (pa_nil)))))
      (pss_cons (ps_mid (ps_if (pt_cmpR op_eq (pe_op op_mod (pv 2) (pe_int)) (pe_int) (nomark _)) (pss_one (ps_expr (pe_bm PySem.F.plainAttrs_list PySem.F.slot_list_insert PySem.F.type_list_insert mt_insert (pv 3) (pa_cons (pv 4) (pa_cons (pe_ix ix_list (pv 3) (pv 5) (fun _ _=>rfl)) (pa_nil)))))) (pss_one (ps_if (pt_mid (PW.pt (pw_and (pt_cmpR op_eq (pe_op op_mod (pv 2) (pe_int)) (pe_int) (nomark _)) (pw_and1 (pt_cmpR op_gt (pe_callB call_len_seq (by rfl) ml PySem.boot_len (pa_cons (pv 3) (pa_nil))) (pe_int) (nomark _)))))) (pss_one (ps_expr (pe_bm PySem.F.plainAttrs_list PySem.F.slot_list_pop PySem.F.type_list_pop mt_popAt (pv 3) (pa_cons (pv 4) (pa_nil))))) (pss_one (ps_if (pt_mid (PW.pt (pw_or (pt_cmpR op_eq (pe_op op_mod (pv 2) (pe_int)) (pe_int) (nomark _)) (pw_or1 (pt_cmpR op_eq (pe_op op_mod (pv 2) (pe_int)) (pe_int) (nomark _)))))) (pss_cons (ps_set (i:=6) scSp.nd rfl (Or.inl rfl) (pe_op op_mod (pv 5) (pe_op op_add (pe_callB call_len_seq (by rfl) ml PySem.boot_len (pa_cons (pe_ix ix_list (pv 3) (pv 4) (fun _ _=>rfl)) (pa_nil))) (pe_int))))
      (pss_cons (ps_set (i:=7) scSp.nd rfl (Or.inl rfl) (pe_ix ix_list (pe_lst (pa_cons (pe_un un_neg pe_int) (pa_cons (pv 1) (pa_cons (pe_op op_add (pv 1) (pe_op op_fdiv (pv 2) (pe_int))) (pa_cons (pe_op op_sub (pe_un un_neg pe_int) (pe_op op_fdiv (pv 2) (pe_int))) (pa_nil)))))) (pe_op op_mod (pe_op op_fdiv (pv 2) (pe_int)) (pe_int)) (fun _ _=>rfl)))
      (pss_cons (ps_asg (pe_op op_catG (pe_op op_catG (pe_slice sl_tupG (pe_ix ix_list (pv 3) (pv 4) (fun _ _=>rfl)) po_none (po_some (pv 6))) (pe_tup (pa_cons (pv 7) (pa_nil)))) (pe_slice sl_tupG (pe_ix ix_list (pv 3) (pv 4) (fun _ _=>rfl)) (po_some (pv 6)) po_none)) (pg_sub (pv 3) (pv 4) set_list))
      (pss_one (ps_if (pt_cmpR op_eq (pe_op op_mod (pv 2) (pe_int)) (pe_int) (nomark _)) (pss_one (ps_set (i:=3) scSp.nd rfl (Or.inl rfl) (pe_op op_cat (pv 3) (pe_lst (pa_cons (pe_tup pa_nil) (pa_nil)))))) (pss_nil)))))) (pss_one (ps_if (pt_cmpR op_lt (pe_op op_mod (pv 2) (pe_int)) (pe_int) (nomark _)) (pss_one (ps_asg (pe_op op_catG (pe_ix ix_list (pv 3) (pv 4) (fun _ _=>rfl)) (pe_tup (pa_cons (pe_op op_mod (pe_op op_fdiv (pv 2) (pe_int)) (pv 1)) (pa_nil)))) (pg_sub (pv 3) (pv 4) set_list))) (pss_one (ps_if (pt_cmpR op_eq (pe_op op_mod (pv 2) (pe_int)) (pe_int) (nomark _)) (pss_cons (ps_asg (pe_ix ix_tup (pv 0) (pv 5) (fun _ _=>rfl)) (pg_sub (pv 3) (pv 4) set_list))
      (pss_one (ps_asg (pe_ix ix_tup (pv 0) (pv 4) (fun _ _=>rfl)) (pg_sub (pv 3) (pv 5) set_list)))) (pss_one (ps_asg (pe_ix ix_list (pv 3) (pv 5) (fun _ _=>rfl)) (pg_sub (pv 3) (pv 4) set_list)))))))))))))
      (pss_one (ps_ret (pe_callTy call_tuple_of (by rfl) mt b_tuple (pa_cons (pv 3) (pa_nil)))))))),?_⟩
  refine ⟨_,rfl,a,_,rfl,.inr (SqT.of ha),fun d hd=>?_⟩
  have s1:=same_newO hd (.lst xs)
  have g1:upd H d (.lst xs) d=some (.lst xs):=upd_same
  have hx1:=Ws.same s1 hx
  generalize upd H d (.lst xs)=H1 at s1 g1 hx1 ⊢
  have ha1:=s1 _ _ ha
  obtain ⟨k,ek,hk⟩:=mod_n (x:=cl / 8) c1
  obtain ⟨k2,ek2,hk2⟩:=mod_n (x:=cl / 200) c1
  have ek':(fun (i j:Int)=>V.int (i % j)) (cl / 8) (c.length:Int)=.int (k:Int):=congrArg V.int ek
  have ek2':(fun (i j:Int)=>V.int (i % j)) (cl / 200) (c.length:Int)=.int (k2:Int):=congrArg V.int ek2
  refine ⟨_,rfl,_,_,rfl,rfl,⟨by decide,by decide⟩,_,rfl,d,_,rfl,.inl (SqL.of g1),?_⟩
  rw [lx]
  refine ⟨_,_,rfl,rfl,(by show (0:Int) < _;omega),?_⟩
  rw [ek']
  refine ⟨_,rfl,_,_,rfl,rfl,⟨by decide,by decide⟩,_,rfl,d,_,rfl,.inl (SqL.of g1),?_⟩
  rw [lx]
  refine ⟨_,_,rfl,rfl,(by show (0:Int) < _;omega),?_⟩
  rw [ek2']
  have hx0:xs[k]?=some (xs[k]'(by omega)):=List.getElem?_eq_getElem _
  obtain ⟨u,hu,ru⟩:=Paired.right_of hx1 k _ hx0
  obtain ⟨ua,eu,hua⟩:=Wd.ti ru
  rw [eu] at hx0
  have hx2:xs[k2]?=some (xs[k2]'(by omega)):=List.getElem?_eq_getElem _
  obtain ⟨u2,hu2,ru2⟩:=Paired.right_of hx1 k2 _ hx2
  obtain ⟨ua2,eu2,hua2⟩:=Wd.ti ru2
  rw [eu2] at hx2
  have lu:=b9 u (List.mem_of_getElem? hu)
  have lu2:=b9 u2 (List.mem_of_getElem? hu2)
  have b95:∀ ns∈c,ns.length≤950:=fun ns h=>by have:=b9 ns h;omega
  have bset:∀ (cs:CT.Code) (j:Nat) (v:List Int),(∀ ns∈cs,ns.length≤950)→v.length≤950→∀ ns∈cs.set j v,ns.length≤950:=fun cs j v h1 h2 ns hns=>by
    rcases List.mem_or_eq_of_mem_set hns with z | z
    · exact h1 ns z
    · rw [z];exact h2
  refine ⟨Mde H a L cl k k2,?_,?_⟩
  rotate_left
  · rintro σ H2 ⟨ml',ys,mss,x6,x7,rfl,s2,g2,w2,l60,b2⟩
    refine ⟨_,rfl,ml',_,rfl,.inl ⟨SqL.of g2,fun t ht=>?_⟩⟩
    have s3:=same_newO ht (.tup ys)
    exact q t mss _ (s2.trans s3) ⟨⟨ys,upd_same,Ws.same s3 w2⟩,by omega,fun ns h=>by have:=b2 ns h;omega⟩
  refine ⟨_,rfl,_,_,rfl,rfl,(by show (0:Int) < _;decide),rfl,_,rfl,?_⟩
  refine ite2 (fun _=>?_) (fun _=>?_)
  · refine ⟨_,rfl,.inl ⟨rfl,_,SqL.of g1⟩,_,rfl,_,rfl,_,rfl,d,_,_,_,rfl,rfl,SqL.of g1,at_nat hx2,?_⟩
    refine ⟨d,_,(k:Int),k,_,rfl,rfl,rfl,g1,by omega,by omega,d,_,c.take k++u2 :: c.drop k,_,_,rfl,same_upd hd s1,upd_same,Ws.upd g1 (L2.Paired.appendP (Paired.takeP k hx1) (.cons (Wd.of hua2) (Paired.dropP k hx1))),?_,fun ns hns=>?_⟩
    · rw [List.length_append,List.length_cons,List.length_take,List.length_drop];omega
    · rcases List.mem_append.mp hns with z | z
      · exact b95 ns (List.mem_of_mem_take z)
      · rcases List.mem_cons.mp z with z | z
        · rw [z];omega
        · exact b95 ns (List.mem_of_mem_drop z)
  refine ⟨fun b H'=>H'=H1,?_,?_⟩
  · refine ⟨_,rfl,_,_,rfl,rfl,(by show (0:Int) < _;decide),rfl,_,rfl,?_⟩
    refine ite2 (fun _=>?_) (fun _=>rfl)
    exact ⟨_,rfl,d,_,rfl,.inl (SqL.of g1),_,_,rfl,rfl,_,rfl,rfl⟩
  rintro b H3 rfl
  refine ite2 (fun _=>?_) (fun _=>?_)
  · have hk2:k < xs.length:=by omega
    refine ⟨_,rfl,.inl ⟨rfl,_,SqL.of g1⟩,_,rfl,d,_,(k:Int),k,xs[k]'hk2,rfl,rfl,g1,by omega,by omega,(ixN_seq (ixN_nat hk2)).1,List.getElem?_eq_getElem hk2,d,_,c.eraseIdx k,_,_,rfl,same_upd hd s1,upd_same,Ws.upd g1 (Paired.eraseP k hx1),?_,fun ns hns=>b95 ns (List.mem_of_mem_eraseIdx hns)⟩
    rw [List.length_eraseIdx]
    split <;> omega
  refine ⟨fun b H'=>H'=H3,?_,?_⟩
  · refine ⟨_,rfl,_,_,rfl,rfl,(by show (0:Int) < _;decide),rfl,_,rfl,?_⟩
    refine ite2 (fun _=>rfl) (fun _=>?_)
    exact ⟨_,rfl,_,_,rfl,rfl,(by show (0:Int) < _;decide),rfl,_,rfl,rfl⟩
  rintro b H4 rfl
  refine ite2 (fun _=>?_) (fun _=>?_)
  · refine ⟨_,rfl,_,rfl,_,rfl,d,_,_,_,rfl,rfl,SqL.of g1,at_nat hx0,ua,_,rfl,.inr (SqT.of hua),_,_,rfl,rfl,_,_,rfl,rfl,(by show (0:Int) < _;rw [List.length_map];omega),?_⟩
    dsimp only
    generalize (k2:Int) % (((u.map V.int).length:Int)+1)=so
    refine ⟨_,rfl,_,rfl,_,rfl,_,rfl,_,_,rfl,rfl,⟨by decide,by decide⟩,_,_,rfl,rfl,_,rfl,_,rfl,_,_,rfl,rfl,⟨by decide,by decide⟩,_,_,rfl,rfl,(by show 4≤sizeLine;decide),fun lL hL=>?_⟩
    dsimp only
    obtain ⟨sv,hsv⟩:=fourS (a:=-1) (b:=(L:Int)) (c:=(L:Int)+cl / 5000) (d:=-1 - cl / 5000) (i:=cl / 8 % 4) (by omega) (by omega)
    have s4:=same_newO hL (.lst [V.int (-1),.int (L:Int),.int ((L:Int)+cl / 5000),.int (-1 - cl / 5000)])
    have h4:upd H4 lL (.lst [V.int (-1),.int (L:Int),.int ((L:Int)+cl / 5000),.int (-1 - cl / 5000)]) lL=some (.lst [V.int (-1),.int (L:Int),.int ((L:Int)+cl / 5000),.int (-1 - cl / 5000)]):=upd_same
    generalize upd H4 lL (.lst [V.int (-1),.int (L:Int),.int ((L:Int)+cl / 5000),.int (-1 - cl / 5000)])=H5 at s4 h4 ⊢
    refine ⟨_,rfl,_,_,rfl,rfl,⟨by decide,by decide⟩,_,_,rfl,rfl,(by show (0:Int) < _;decide),lL,_,_,_,rfl,rfl,SqL.of h4,hsv,?_⟩
    obtain ⟨m1,em1,lm1⟩:=cuts_ints u none (some so)
    obtain ⟨m2,em2,lm2⟩:=cuts_ints u (some so) none
    refine ⟨_,rfl,_,rfl,d,_,_,_,rfl,rfl,SqL.of (s4 _ _ g1),at_nat hx0,_,rfl,_,rfl,ua,_,rfl,s4 _ _ hua,fun t1 H6 s6 h6=>?_⟩
    rw [em1] at h6
    refine ⟨_,rfl,(by show 1≤sizeLine;decide),fun t2 ht2=>?_⟩
    have s7:=same_newO ht2 (.tup [.int sv])
    refine ⟨t1,t2,_,_,rfl,rfl,s7 _ _ h6,upd_same,small (by rw [List.length_map];show _+1≤1000;omega),fun p7 H8 s8 h8=>?_⟩
    have s48:=((s4.trans s6).trans s7).trans s8
    refine ⟨_,rfl,_,rfl,d,_,_,_,rfl,rfl,SqL.of (s48 _ _ g1),at_nat hx0,_,rfl,_,rfl,ua,_,rfl,s48 _ _ hua,fun t3 H9 s9 h9=>?_⟩
    rw [em2] at h9
    refine ⟨p7,t3,_,_,rfl,rfl,s9 _ _ h8,h9,small (by rw [List.length_append,List.length_map,List.length_map];show _+1+_≤1000;omega),fun p10 H10 s10 h10=>?_⟩
    have s410:=(s48.trans s9).trans s10
    have hw:TW H10 p10 (m1++[sv]++m2):=by show H10 p10=_;rw [h10,List.map_append,List.map_append];rfl
    have lw:(m1++[sv]++m2).length≤950:=by rw [List.length_append,List.length_append];show _+1+_≤950;omega
    have g10:=s410 _ _ g1
    refine ⟨_,rfl,_,rfl,d,_,(k:Int),k,rfl,rfl,g10,ixN_nat (by omega),?_⟩
    have w11:Ws (upd H10 d (.lst (xs.set k (.ref p10)))) (xs.set k (.ref p10)) (c.set k (m1++[sv]++m2)):=Ws.upd g10 (paired_set k (Ws.same s410 hx1) (Wd.of hw))
    have s11:Same H (upd H10 d (.lst (xs.set k (.ref p10)))):=same_upd hd (s1.trans s410)
    have g11:upd H10 d (.lst (xs.set k (.ref p10))) d=some (.lst (xs.set k (.ref p10))):=upd_same
    generalize upd H10 d (.lst (xs.set k (.ref p10)))=H11 at w11 s11 g11 ⊢
    have b11:=bset c k (m1++[sv]++m2) b95 lw
    refine ⟨_,rfl,_,_,rfl,rfl,(by show (0:Int) < _;decide),rfl,_,rfl,?_⟩
    refine ite2 (fun _=>?_) (fun _=>?_)
    · refine ⟨_,rfl,(by show 0≤sizeLine;decide),fun t0 ht0=>?_⟩
      have s12:=same_newO ht0 (.tup [])
      have h12:upd H11 t0 (.tup []) t0=some (.tup []):=upd_same
      generalize upd H11 t0 (.tup [])=H12 at s12 h12 ⊢
      refine ⟨(by show 1≤sizeLine;decide),fun l1 hl1=>?_⟩
      have s13:=same_newO hl1 (.lst [.ref t0])
      refine ⟨d,l1,_,_,rfl,rfl,s13 _ _ (s12 _ _ g11),upd_same,small (by rw [List.length_set];show _+1≤1000;omega),fun p14 hp14=>?_⟩
      have s14:=same_newO hp14 (.lst (xs.set k (.ref p10)++[.ref t0]))
      have s1214:=(s12.trans s13).trans s14
      refine ⟨p14,_,c.set k (m1++[sv]++m2)++[[]],_,_,rfl,s11.trans s1214,upd_same,L2.Paired.appendP (Ws.same s1214 w11) (.cons (Wd.of (w:=[]) (s14 _ _ (s13 _ _ h12))) .nil),?_,fun ns hns=>?_⟩
      · rw [List.length_append,List.length_set];show _+1≤60;omega
      · rcases List.mem_append.mp hns with z | z
        · exact b11 ns z
        · rw [List.mem_singleton.mp z];show 0≤950;omega
    · exact ⟨d,_,_,_,_,rfl,s11,g11,w11,by rw [List.length_set];omega,b11⟩
  refine ⟨_,rfl,_,_,rfl,rfl,(by show (0:Int) < _;decide),_,_,rfl,rfl,_,rfl,?_⟩
  refine ite2 (fun _=>?_) (fun _=>?_)
  · refine ⟨_,rfl,_,rfl,d,_,_,_,rfl,rfl,SqL.of g1,at_nat hx0,_,rfl,_,_,rfl,rfl,⟨by decide,by decide⟩,_,rfl,_,_,rfl,rfl,(by show (0:Int) < _;omega),(by show 1≤sizeLine;decide),fun t1 ht1=>?_⟩
    have s2:=same_newO ht1 (.tup [.int (cl / 5000 % (L:Int))])
    refine ⟨ua,t1,_,_,rfl,rfl,s2 _ _ hua,upd_same,small (by rw [List.length_map];show _+1≤1000;omega),fun p7 H7 s7 hp7=>?_⟩
    have s27:=s2.trans s7
    have g7:=s27 _ _ g1
    have hw:TW H7 p7 (u++[cl / 5000 % (L:Int)]):=by show H7 p7=_;rw [hp7,List.map_append];rfl
    exact ⟨_,rfl,_,rfl,d,_,(k:Int),k,rfl,rfl,g7,ixN_nat (by omega),d,_,c.set k (u++[cl / 5000 % (L:Int)]),_,_,rfl,same_upd hd (s1.trans s27),upd_same,Ws.upd g7 (paired_set k (Ws.same s27 hx1) (Wd.of hw)),by rw [List.length_set];omega,bset c k _ b95 (by rw [List.length_append];show _+1≤950;omega)⟩
  refine ⟨_,rfl,_,_,rfl,rfl,(by show (0:Int) < _;decide),rfl,_,rfl,?_⟩
  refine ite2 (fun _=>?_) (fun _=>?_)
  · refine ⟨_,rfl,_,rfl,a,_,_,_,rfl,rfl,SqT.of ha1,at_nat hx2,_,rfl,_,rfl,d,_,(k:Int),k,rfl,rfl,g1,ixN_nat (by omega),?_⟩
    have w11:Ws (upd H4 d (.lst (xs.set k (.ref ua2)))) (xs.set k (.ref ua2)) (c.set k u2):=Ws.upd g1 (paired_set k hx1 (Wd.of hua2))
    have s11:Same H (upd H4 d (.lst (xs.set k (.ref ua2)))):=same_upd hd s1
    have g11:upd H4 d (.lst (xs.set k (.ref ua2))) d=some (.lst (xs.set k (.ref ua2))):=upd_same
    have hua1:upd H4 d (.lst (xs.set k (.ref ua2))) ua=some (.tup (u.map V.int)):=by rw [upd_ne (ne_of hua g1 (by intro z;cases z))];exact hua
    generalize upd H4 d (.lst (xs.set k (.ref ua2)))=H5 at w11 s11 g11 hua1 ⊢
    refine ⟨_,rfl,_,rfl,a,_,_,_,rfl,rfl,SqT.of (s11 _ _ ha),at_nat hx0,_,rfl,_,rfl,d,_,(k2:Int),k2,rfl,rfl,g11,ixN_nat (by rw [List.length_set];omega),?_⟩
    exact ⟨d,_,(c.set k u2).set k2 u,_,_,rfl,same_upd hd s11,upd_same,Ws.upd g11 (paired_set k2 w11 (Wd.of hua1)),by rw [List.length_set,List.length_set];omega,bset _ _ _ (bset c k u2 b95 (by omega)) (by omega)⟩
  · exact ⟨_,rfl,_,rfl,d,_,_,_,rfl,rfl,SqL.of g1,at_nat hx2,_,rfl,_,rfl,d,_,(k:Int),k,rfl,rfl,g1,ixN_nat (by omega),d,_,c.set k u2,_,_,rfl,same_upd hd s1,upd_same,Ws.upd g1 (paired_set k hx1 (Wd.of hua2)),by rw [List.length_set];omega,bset c k u2 b95 (by omega)⟩
end
end Kp
end K53
set_option Elab.async false
set_option linter.all false
set_option maxRecDepth 100000
namespace K53
open PySem L2
namespace Kp
def kinds (c:Nat):List Bool:=if c < 3 then [decide (c=0),decide (c=1),decide (c=2),true,false] else []
def nm (c:Nat):Str:=match c with
  | 0=>"unlike"
  | 1=>"word"
  | 2=>"cheapest"
  | _=>"told"
theorem kne:∀ j g:Nat,j < 3→g≤3→(kinds g=[decide (V.int (j:Int)=V.int 0),decide (V.int (j:Int)=V.int 1),decide (V.int (j:Int)=V.int 2),true,false]↔g=j):=by
  intro j g hj hg
  have h1:j=0∨j=1∨j=2:=by omega
  have h2:g=0∨g=1∨g=2∨g=3:=by omega
  rcases h1 with rfl | rfl | rfl <;> rcases h2 with rfl | rfl | rfl | rfl <;> decide
section
variable {P':Program} {w:World} {K:PySem.W.Frag} {mg:Str→Option Value} {base:Heap} {f:Addr} {fd:FuncData}
structure Cl3 (K:PySem.W.Frag) (mg:Str→Option Value) (D CB CV CN CP CW CC:Addr):Prop where
  gD:mg "TollError"=some (.ref D)
  gB:mg "Unlike"=some (.ref CB)
  gT:mg "BadWord"=some (.ref CV)
  gN:mg "NotCheapest"=some (.ref CN)
  gP:mg "BadNumber"=some (.ref CP)
  gW:mg "Clash"=some (.ref CW)
  gC:mg "NoThing"=some (.ref CC)
  gV:mg "ValueError"=none
  xD:XC K D
  xB:XC K CB
  xT:XC K CV
  xN:XC K CN
  xP:XC K CP
  xW:XC K CW
  xC:XC K CC
  eB:Ecl K CB
  eT:Ecl K CV
  eN:Ecl K CN
  bD:PySem.W.subIn K (.ref CB) (.ref D)=some true
  tD:PySem.W.subIn K (.ref CV) (.ref D)=some true
  nD:PySem.W.subIn K (.ref CN) (.ref D)=some true
  bT:PySem.W.subIn K (.ref CB) (.ref CV)=some false
  bN:PySem.W.subIn K (.ref CB) (.ref CN)=some false
  bP:PySem.W.subIn K (.ref CB) (.ref CP)=some false
  bW:PySem.W.subIn K (.ref CB) (.ref CW)=some false
  bC:PySem.W.subIn K (.ref CB) (.ref CC)=some false
  tB:PySem.W.subIn K (.ref CV) (.ref CB)=some false
  tN:PySem.W.subIn K (.ref CV) (.ref CN)=some false
  tP:PySem.W.subIn K (.ref CV) (.ref CP)=some false
  tW:PySem.W.subIn K (.ref CV) (.ref CW)=some false
  tC:PySem.W.subIn K (.ref CV) (.ref CC)=some false
  nB:PySem.W.subIn K (.ref CN) (.ref CB)=some false
  nT:PySem.W.subIn K (.ref CN) (.ref CV)=some false
  nP:PySem.W.subIn K (.ref CN) (.ref CP)=some false
  nW:PySem.W.subIn K (.ref CN) (.ref CW)=some false
  nC:PySem.W.subIn K (.ref CN) (.ref CC)=some false
structure Kd3 (K:PySem.W.Frag) (D CB CV CN CP CW CC C:Addr) (c:Nat):Prop where
  x:XC K C
  d:PySem.W.subIn K (.ref C) (.ref D)=some true
  k0:PySem.W.kitOne K (.ref C) (.ref CB)=some (decide (c=0))
  k1:PySem.W.kitOne K (.ref C) (.ref CV)=some (decide (c=1))
  k2:PySem.W.kitOne K (.ref C) (.ref CN)=some (decide (c=2))
  no:∀ E∈[CP,CW,CC],PySem.W.kitOne K (.ref C) (.ref E)=some false
  lt:c < 3
theorem no3 {K:PySem.W.Frag} {C a b c:Addr} (ha:PySem.W.kitOne K (.ref C) (.ref a)=some false) (hb:PySem.W.kitOne K (.ref C) (.ref b)=some false) (hc:PySem.W.kitOne K (.ref C) (.ref c)=some false):∀ E∈[a,b,c],PySem.W.kitOne K (.ref C) (.ref E)=some false:=fun E hE=>by
  rcases List.mem_cons.mp hE with rfl | hE
  · exact ha
  rcases List.mem_cons.mp hE with rfl | hE
  · exact hb
  · rw [List.mem_singleton.mp hE];exact hc
variable {D CB CV CN CP CW CC:Addr}
theorem Cl3.kB (c:Cl3 K mg D CB CV CN CP CW CC):Kd3 K D CB CV CN CP CW CC CB 0:=⟨c.xB,c.bD,kit_t c.xB.h c.xB.sf,kit_f c.xB c.xT.h c.bT,kit_f c.xB c.xN.h c.bN,no3 (kit_f c.xB c.xP.h c.bP) (kit_f c.xB c.xW.h c.bW) (kit_f c.xB c.xC.h c.bC),by decide⟩
theorem Cl3.kT (c:Cl3 K mg D CB CV CN CP CW CC):Kd3 K D CB CV CN CP CW CC CV 1:=⟨c.xT,c.tD,kit_f c.xT c.xB.h c.tB,kit_t c.xT.h c.xT.sf,kit_f c.xT c.xN.h c.tN,no3 (kit_f c.xT c.xP.h c.tP) (kit_f c.xT c.xW.h c.tW) (kit_f c.xT c.xC.h c.tC),by decide⟩
theorem Cl3.kN (c:Cl3 K mg D CB CV CN CP CW CC):Kd3 K D CB CV CN CP CW CC CN 2:=⟨c.xN,c.nD,kit_f c.xN c.xB.h c.nB,kit_f c.xN c.xT.h c.nT,kit_t c.xN.h c.xN.sf,no3 (kit_f c.xN c.xP.h c.nP) (kit_f c.xN c.xW.h c.nW) (kit_f c.xN c.xC.h c.nC),by decide⟩
abbrev NRf:List Str:=["prices","weights","code","told","e","k","word"]
def spRf:Sp:=fun vs H Q _=>∃ (p q a:Addr) (ps ws:List Int) (c:CT.Code),vs=[.ref p,.ref q,.ref a]∧In2 H p q ps ws∧Cde H a c∧∀ H',Same H H'→Q (.str (nm (kd ps ws c))) H'
theorem scRf:FnScope NRf NC (defScope sRefusal):=⟨rfl,rfl,rfl,by decide +kernel,rfl,by decide +kernel,by decide +kernel⟩
set_option maxHeartbeats 16000000 in
theorem ok_rf (F:Fun K "_law_refusal" "_law_refusal" sRefusal f fd) (GN:Fns' P' w K mg base NC "number_of" (spNo CB CV CN) 25) (c:Cl3 K mg D CB CV CN CP CW CC) (mi:mg "isinstance"=none) (me:mg "enumerate"=none):FnOk P' w K mg base CX0 26 f fd NC spRf:=by
  refine F.ok (k:=25) scRf (fun vs H Q E h=>?_) (fun cdv A outer s H vs Q E hr h=>?_)
  · obtain ⟨p,q,a,ps,ws,cc,rfl,_⟩:=h
    rfl
  obtain ⟨p,q,a,ps,ws,cc,rfl,i2,cd,fin⟩:=h
  refine ⟨_,pss_cons (ps_set (i:=3) scRf.nd rfl (Or.inl rfl) (pe_lst pa_nil))
      (pss_cons (ps_mid (ps_try (i:=4) rfl ⟨rfl,rfl⟩ (fun pn xe Ex hx=>pss_one (ps_expr (pe_callX GN.ok hr (by rfl) GN.m GN.kp GN.b hx (pa_cons (pv 0) (pa_cons (pv 1) (pa_cons (pv 2) (pa_nil)))))))
      (fun ea=>pss_cons (ps_set (i:=3) scRf.nd rfl (Or.inl rfl) (pe_lst (pa_cons (pe_callB (isiE K) (by rfl) mi b_isi (pa_cons (pv 4) (pa_cons (pe_glob (v:=.ref CB) (by rfl) c.gB rfl) pa_nil))) (pa_cons (pe_callB (isiE K) (by rfl) mi b_isi (pa_cons (pv 4) (pa_cons (pe_glob (v:=.ref CV) (by rfl) c.gT rfl) pa_nil))) (pa_cons (pe_callB (isiE K) (by rfl) mi b_isi (pa_cons (pv 4) (pa_cons (pe_glob (v:=.ref CN) (by rfl) c.gN rfl) pa_nil))) (pa_nil))))))
      (pss_one (ps_set (i:=3) scRf.nd rfl (Or.inl rfl) (pe_op op_cat (pv 3) (pe_lst (pa_cons (pe_callB (isiE K) (by rfl) mi b_isi (pa_cons (pv 4) (pa_cons (pe_bltn (v:=.ty "ValueError") (by rfl) c.gV b_VE rfl) pa_nil))) (pa_cons (pe_callB (isiT K) (by rfl) mi b_isi (pa_cons (pv 4) (pa_cons (pe_tup (pa_cons (pe_glob (v:=.ref CP) (by rfl) c.gP rfl) (pa_cons (pe_glob (v:=.ref CW) (by rfl) c.gW rfl) (pa_cons (pe_glob (v:=.ref CC) (by rfl) c.gC rfl) pa_nil)))) pa_nil))) (pa_nil))))))))
      scRf.nd rfl rfl (by rfl) c.gD c.xD.h))
      (pss_cons (ps_for PassesOwn.never rfl (pi_enum false (by rfl) me (pa_cons (pe_lst (pa_cons pe_str (pa_cons pe_str (pa_cons pe_str pa_nil)))) pa_nil)) (pg_tup rfl (pgs_cons (pg_name (i:=5) scRf.nd rfl (Or.inl rfl)) (pgs_cons (pg_name (i:=6) scRf.nd rfl (Or.inl rfl)) (pgs_nil)))) (pss_one (ps_if (pt_cmpR (op_eqLB (hu4 hr)) (pv 3) (pe_lst (pa_cons (pe_cmpR op_eq (pv 5) pe_int (nomark _)) (pa_cons (pe_cmpR op_eq (pv 5) pe_int (nomark _)) (pa_cons (pe_cmpR op_eq (pv 5) pe_int (nomark _)) (pa_cons (pe_bl) (pa_cons (pe_bl) (pa_nil))))))) (nomark _)) (pss_one (ps_ret (pv 6))) (pss_nil))))
      (pss_one (ps_ret (pe_ifExp (pt_cmpR (op_eqLB (hu4 hr)) (pv 3) (pe_lst pa_nil) (nomark _)) pe_str pe_str))))),?_⟩
  refine ⟨(by show 0≤sizeLine;decide),fun t0 ht0=>?_⟩
  have s1:=same_newO ht0 (.lst [])
  have h0:upd H t0 (.lst []) t0=some (.lst []):=upd_same
  generalize upd H t0 (.lst [])=H1 at s1 h0 ⊢
  refine ⟨fun σ' H'=>∃ (kl:Addr) (g:Nat),σ'=[some (.ref p),some (.ref q),some (.ref a),some (.ref kl),none,none,none]∧Same H H'∧H' kl=some (.lst ((kinds g).map V.bl))∧kd ps ws cc=g,?_,?_⟩
  · refine ⟨_,rfl,_,rfl,_,rfl,p,q,a,ps,ws,cc,rfl,i2.same s1,cd.same s1,fun kg H3 s3=>?_,fun kg H3 s3=>?_,fun kg H3 s3=>?_,fun kg H3 x s3 hx=>?_⟩
    · have kd':=c.kB
      refine ⟨CB,rfl,kd'.d,fun ea hea=>?_⟩
      have s4:=same_newO hea (excO ea CB none)
      have hE:upd H3 ea (excO ea CB none) ea=some (excO ea CB none):=upd_same
      generalize upd H3 ea (excO ea CB none)=H4 at s4 hE ⊢
      refine ⟨_,rfl,ea,CB,none,_,_,rfl,hE,kd'.x.e,.inl rfl,.inl ⟨CB,rfl,kd'.k0⟩,?_⟩
      refine ⟨_,rfl,ea,CB,none,_,_,rfl,hE,kd'.x.e,.inl rfl,.inl ⟨CV,rfl,kd'.k1⟩,?_⟩
      refine ⟨_,rfl,ea,CB,none,_,_,rfl,hE,kd'.x.e,.inl rfl,.inl ⟨CN,rfl,kd'.k2⟩,(by show 3≤sizeLine;decide),fun t3 ht3=>?_⟩
      have s5:=same_newO ht3 (.lst [.bl (decide ((0:Nat)=0)),.bl (decide ((0:Nat)=1)),.bl (decide ((0:Nat)=2))])
      have h5:upd H4 t3 (.lst [.bl (decide ((0:Nat)=0)),.bl (decide ((0:Nat)=1)),.bl (decide ((0:Nat)=2))]) t3=some (.lst [.bl (decide ((0:Nat)=0)),.bl (decide ((0:Nat)=1)),.bl (decide ((0:Nat)=2))]):=upd_same
      generalize upd H4 t3 (.lst [.bl (decide ((0:Nat)=0)),.bl (decide ((0:Nat)=1)),.bl (decide ((0:Nat)=2))])=H5 at s5 h5 ⊢
      refine ⟨_,rfl,_,rfl,ea,CB,none,_,true,rfl,s5 _ _ hE,kd'.x.e,.inl rfl,.inr ⟨"ValueError",rfl,kit_ve kd'.x⟩,?_⟩
      refine ⟨_,rfl,(by show 3≤sizeLine;decide),fun tp htp=>?_⟩
      have s6:=same_newO htp (.tup [.ref CP,.ref CW,.ref CC])
      refine ⟨ea,CB,none,tp,[CP,CW,CC],rfl,s6 _ _ (s5 _ _ hE),kd'.x.e,.inl rfl,upd_same,kd'.no,(by show 2≤sizeLine;decide),fun t7 ht7=>?_⟩
      have s7:=same_newO ht7 (.lst [.bl true,.bl false])
      refine ⟨t3,t7,_,_,rfl,rfl,s7 _ _ (s6 _ _ h5),upd_same,(by show 3+2≤sizeLine;decide),fun t8 ht8=>?_⟩
      have s8:=same_newO ht8 (.lst ([.bl (decide ((0:Nat)=0)),.bl (decide ((0:Nat)=1)),.bl (decide ((0:Nat)=2))]++[.bl true,.bl false]))
      exact ⟨t8,0,rfl,((((((s1.trans s3).trans s4).trans s5).trans s6).trans s7).trans s8),upd_same,kg⟩
    · have kd':=c.kT
      refine ⟨CV,rfl,kd'.d,fun ea hea=>?_⟩
      have s4:=same_newO hea (excO ea CV none)
      have hE:upd H3 ea (excO ea CV none) ea=some (excO ea CV none):=upd_same
      generalize upd H3 ea (excO ea CV none)=H4 at s4 hE ⊢
      refine ⟨_,rfl,ea,CV,none,_,_,rfl,hE,kd'.x.e,.inl rfl,.inl ⟨CB,rfl,kd'.k0⟩,?_⟩
      refine ⟨_,rfl,ea,CV,none,_,_,rfl,hE,kd'.x.e,.inl rfl,.inl ⟨CV,rfl,kd'.k1⟩,?_⟩
      refine ⟨_,rfl,ea,CV,none,_,_,rfl,hE,kd'.x.e,.inl rfl,.inl ⟨CN,rfl,kd'.k2⟩,(by show 3≤sizeLine;decide),fun t3 ht3=>?_⟩
      have s5:=same_newO ht3 (.lst [.bl (decide ((1:Nat)=0)),.bl (decide ((1:Nat)=1)),.bl (decide ((1:Nat)=2))])
      have h5:upd H4 t3 (.lst [.bl (decide ((1:Nat)=0)),.bl (decide ((1:Nat)=1)),.bl (decide ((1:Nat)=2))]) t3=some (.lst [.bl (decide ((1:Nat)=0)),.bl (decide ((1:Nat)=1)),.bl (decide ((1:Nat)=2))]):=upd_same
      generalize upd H4 t3 (.lst [.bl (decide ((1:Nat)=0)),.bl (decide ((1:Nat)=1)),.bl (decide ((1:Nat)=2))])=H5 at s5 h5 ⊢
      refine ⟨_,rfl,_,rfl,ea,CV,none,_,true,rfl,s5 _ _ hE,kd'.x.e,.inl rfl,.inr ⟨"ValueError",rfl,kit_ve kd'.x⟩,?_⟩
      refine ⟨_,rfl,(by show 3≤sizeLine;decide),fun tp htp=>?_⟩
      have s6:=same_newO htp (.tup [.ref CP,.ref CW,.ref CC])
      refine ⟨ea,CV,none,tp,[CP,CW,CC],rfl,s6 _ _ (s5 _ _ hE),kd'.x.e,.inl rfl,upd_same,kd'.no,(by show 2≤sizeLine;decide),fun t7 ht7=>?_⟩
      have s7:=same_newO ht7 (.lst [.bl true,.bl false])
      refine ⟨t3,t7,_,_,rfl,rfl,s7 _ _ (s6 _ _ h5),upd_same,(by show 3+2≤sizeLine;decide),fun t8 ht8=>?_⟩
      have s8:=same_newO ht8 (.lst ([.bl (decide ((1:Nat)=0)),.bl (decide ((1:Nat)=1)),.bl (decide ((1:Nat)=2))]++[.bl true,.bl false]))
      exact ⟨t8,1,rfl,((((((s1.trans s3).trans s4).trans s5).trans s6).trans s7).trans s8),upd_same,kg⟩
    · have kd':=c.kN
      refine ⟨CN,rfl,kd'.d,fun ea hea=>?_⟩
      have s4:=same_newO hea (excO ea CN none)
      have hE:upd H3 ea (excO ea CN none) ea=some (excO ea CN none):=upd_same
      generalize upd H3 ea (excO ea CN none)=H4 at s4 hE ⊢
      refine ⟨_,rfl,ea,CN,none,_,_,rfl,hE,kd'.x.e,.inl rfl,.inl ⟨CB,rfl,kd'.k0⟩,?_⟩
      refine ⟨_,rfl,ea,CN,none,_,_,rfl,hE,kd'.x.e,.inl rfl,.inl ⟨CV,rfl,kd'.k1⟩,?_⟩
      refine ⟨_,rfl,ea,CN,none,_,_,rfl,hE,kd'.x.e,.inl rfl,.inl ⟨CN,rfl,kd'.k2⟩,(by show 3≤sizeLine;decide),fun t3 ht3=>?_⟩
      have s5:=same_newO ht3 (.lst [.bl (decide ((2:Nat)=0)),.bl (decide ((2:Nat)=1)),.bl (decide ((2:Nat)=2))])
      have h5:upd H4 t3 (.lst [.bl (decide ((2:Nat)=0)),.bl (decide ((2:Nat)=1)),.bl (decide ((2:Nat)=2))]) t3=some (.lst [.bl (decide ((2:Nat)=0)),.bl (decide ((2:Nat)=1)),.bl (decide ((2:Nat)=2))]):=upd_same
      generalize upd H4 t3 (.lst [.bl (decide ((2:Nat)=0)),.bl (decide ((2:Nat)=1)),.bl (decide ((2:Nat)=2))])=H5 at s5 h5 ⊢
      refine ⟨_,rfl,_,rfl,ea,CN,none,_,true,rfl,s5 _ _ hE,kd'.x.e,.inl rfl,.inr ⟨"ValueError",rfl,kit_ve kd'.x⟩,?_⟩
      refine ⟨_,rfl,(by show 3≤sizeLine;decide),fun tp htp=>?_⟩
      have s6:=same_newO htp (.tup [.ref CP,.ref CW,.ref CC])
      refine ⟨ea,CN,none,tp,[CP,CW,CC],rfl,s6 _ _ (s5 _ _ hE),kd'.x.e,.inl rfl,upd_same,kd'.no,(by show 2≤sizeLine;decide),fun t7 ht7=>?_⟩
      have s7:=same_newO ht7 (.lst [.bl true,.bl false])
      refine ⟨t3,t7,_,_,rfl,rfl,s7 _ _ (s6 _ _ h5),upd_same,(by show 3+2≤sizeLine;decide),fun t8 ht8=>?_⟩
      have s8:=same_newO ht8 (.lst ([.bl (decide ((2:Nat)=0)),.bl (decide ((2:Nat)=1)),.bl (decide ((2:Nat)=2))]++[.bl true,.bl false]))
      exact ⟨t8,2,rfl,((((((s1.trans s3).trans s4).trans s5).trans s6).trans s7).trans s8),upd_same,kg⟩
    · exact ⟨t0,3,rfl,s1.trans s3,s3 _ _ h0,kg⟩
  rintro σ' H1' ⟨kl,g,rfl,sm,hk,kg⟩
  have g3:g≤3:=by rw [←kg];exact kd_le
  rw [kg] at fin
  refine ⟨(by show 3≤sizeLine;decide),fun l hl=>?_⟩
  have s2:=same_newO hl (.lst [.str "unlike",.str "word",.str "cheapest"])
  refine ⟨l,_,rfl,SqL.of upd_same,?_⟩
  have hl2:upd H1' l (.lst [.str "unlike",.str "word",.str "cheapest"]) l=some (.lst [.str "unlike",.str "word",.str "cheapest"]):=upd_same
  generalize upd H1' l (.lst [.str "unlike",.str "word",.str "cheapest"])=H2 at s2 hl2 ⊢
  refine for_enum (k:=false) (xs:=[.str "unlike",.str "word",.str "cheapest"]) (fun j σ H'=>j≤g∧Same H2 H'∧∃ x7 x8:Option V,σ=[some (.ref p),some (.ref q),some (.ref a),some (.ref kl),none,x7,x8]) ⟨by omega,Same.refl _,_,_,rfl⟩ (fun j σ H' _ hP=>SqL.of (hP.2.1 _ _ hl2)) (fun j x pp σ H3 hx hP hpp=>?_) (fun σ H3 hP=>?_)
  · obtain ⟨jg,s3,x7,x8,rfl⟩:=hP
    have s4:=same_newO hpp (.tup [.int (j:Int),x])
    refine ⟨pp,_,rfl,SqT.of upd_same,rfl,_,_,rfl,_,_,rfl,rfl,?_⟩
    refine ⟨_,rfl,_,rfl,rfl,_,rfl,rfl,_,rfl,rfl,(by show 5≤sizeLine;decide),fun t5 ht5=>?_⟩
    have s5:=same_newO ht5 (.lst [.bl (decide (V.int (j:Int)=V.int 0)),.bl (decide (V.int (j:Int)=V.int 1)),.bl (decide (V.int (j:Int)=V.int 2)),.bl true,.bl false])
    have g5:Same H1' _:=((s2.trans s3).trans s4).trans s5
    refine ⟨kl,t5,kinds g,[decide (V.int (j:Int)=V.int 0),decide (V.int (j:Int)=V.int 1),decide (V.int (j:Int)=V.int 2),true,false],rfl,rfl,g5 _ _ hk,upd_same,_,rfl,?_⟩
    have hj:j < 3:=(List.getElem?_eq_some_iff.mp hx).1
    refine ite2 (fun z=>?_) (fun z=>⟨?_,(s3.trans s4).trans s5,_,_,rfl⟩)
    · have e:=(kne j g hj g3).mp (of_decide_eq_true z)
      subst e
      refine ⟨_,rfl,?_⟩
      have:=fin _ (sm.trans g5)
      have h1:g=0∨g=1∨g=2:=by omega
      rcases h1 with rfl | rfl | rfl <;> cases hx <;> exact this
    · have ne:g≠j:=fun e=>z (decide_eq_true ((kne j g hj g3).mpr e))
      omega
  · obtain ⟨jg,s3,x7,x8,rfl⟩:=hP
    have jg':3≤g:=jg
    have g3':g=3:=by omega
    subst g3'
    refine ⟨_,rfl,(by show 0≤sizeLine;decide),fun t6 ht6=>?_⟩
    have s6:=same_newO ht6 (.lst [])
    have g6:Same H1' _:=(s2.trans s3).trans s6
    refine ⟨kl,t6,[],[],rfl,rfl,g6 _ _ hk,upd_same,_,rfl,?_⟩
    rw [decide_eq_true rfl]
    exact iteT (fin _ (sm.trans g6))
end
end Kp
end K53
set_option Elab.async false
set_option linter.all false
set_option maxRecDepth 100000
namespace K53
open PySem L2
namespace Kp
def bad (m x:Int):Bool:=decide (x < 0) || decide (x ≥ m)
theorem bad_iff {m x:Int}:bad m x=true↔x < 0∨x ≥ m:=by
  unfold bad
  rw [Bool.or_eq_true,decide_eq_true_iff,decide_eq_true_iff]
theorem bad_al {m:Int} {u:List Int}:(u.filter (bad m)).length > 0↔¬ alone m u=true:=by
  rw [alone_iff,gt_iff_lt,List.length_pos_iff,ne_eq,List.filter_eq_nil_iff]
  constructor
  · intro h z
    refine h fun x hx y=>?_
    have:=z x hx
    rcases bad_iff.mp y with y | y <;> omega
  · intro h z
    refine h fun x hx=>?_
    have:=z x hx
    rw [bad_iff] at this
    omega
section
variable {P':Program} {w:World} {K:PySem.W.Frag} {mg:Str→Option Value} {base:Heap} {f:Addr} {fd:FuncData}
def spWhole:Sp:=fun vs H Q _=>∃ i,vs=[.int i]∧Q (.bl true) H
theorem scWhole:FnScope ["found"] ["found"] (defScope sWhole):=⟨rfl,rfl,rfl,by decide +kernel,rfl,by decide +kernel,by decide +kernel⟩
theorem ok_whole (F:Fun K "_law_whole" "_law_whole" sWhole f fd) (mi:mg "isinstance"=none) (m1:mg "int"=none) (m2:mg "bool"=none):FnOk P' w K mg base CX0 1 f fd ["found"] spWhole:=by
  refine F.ok (k:=0) scWhole (fun vs H Q E h=>?_) (fun cdv A outer s H vs Q E hr h=>?_)
  · obtain ⟨i,rfl,_⟩:=h
    rfl
  obtain ⟨i,rfl,q⟩:=h
  refine ⟨_,pss_one (ps_ret (pe_and (pe_callB call_isi (by rfl) mi b_isi (pa_cons (pv 0) (pa_cons (pe_bltn (v:=.ty "int") (by rfl) m1 b_int rfl) pa_nil)))
    (pe_one (pe_not (pe_callB call_isi (by rfl) mi b_isi (pa_cons (pv 0) (pa_cons (pe_bltn (v:=.ty "bool") (by rfl) m2 b_bool rfl) pa_nil))))))),?_⟩
  exact ⟨_,rfl,_,_,_,_,rfl,.int i,kit_int_int _,_,rfl,iteT ⟨_,rfl,_,_,_,_,rfl,.int i,kit_int_bool _,_,rfl,q⟩⟩
abbrev NDu:List Str:=["code","things","letters","cheapest","word"]
abbrev PDu:List Str:=["code","things","letters","cheapest"]
def spDu:Sp:=fun vs H Q _=>∃ (a ch:Addr) (ps ws:List Int) (c:CT.Code) (ys:List V),vs=[.ref a,.int (ws.length:Int),.int (ps.length:Int),.ref ch]∧Cde H a c∧H ch=some (.lst ys)∧Paired (Tw H) ys (chp ps ws)∧∀ H',Same H H'→Q (.str (nm (kd ps ws c))) H'
theorem scDu:FnScope NDu PDu (defScope sDue):=⟨rfl,rfl,rfl,by decide +kernel,rfl,by decide +kernel,by decide +kernel⟩
theorem ndDu:(("letter":Str) :: NDu).Nodup:=by decide +kernel
set_option maxHeartbeats 8000000 in
theorem ok_du (F:Fun K "_law_due" "_law_due" sDue f fd) (ml:mg "len"=none):FnOk P' w K mg base CX0 1 f fd PDu spDu:=by
  refine F.ok (k:=0) scDu (fun vs H Q E h=>?_) (fun cdv A outer s H vs Q E hr h=>?_)
  · obtain ⟨a,ch,ps,ws,c,ys,rfl,_⟩:=h
    rfl
  obtain ⟨a,ch,ps,ws,c,ys,rfl,cd,hch,hys,q⟩:=h
  obtain ⟨xs,ha,hx⟩:=cd.o
  have lx:xs.length=c.length:=hx.length
  refine ⟨_,pss_cons (ps_if (pt_cmpR op_ne (pe_callB call_len_seq (by rfl) ml PySem.boot_len (pa_cons (pv 0) (pa_nil))) (pv 1) (nomark _)) (pss_one (ps_ret (pe_str))) (pss_nil))
      (pss_cons (ps_for PassesOwn.never rfl (pi_tup (pv 0)) (pg_name (i:=4) scDu.nd rfl (Or.inl rfl)) (pss_one (ps_if (pt_cmpR op_gt (pe_callB call_len_seq (by rfl) ml PySem.boot_len (pa_cons (pe_compT (M:=NDu) rfl (CompScope.of (defScope sDue) NDu rfl rfl rfl (by decide +kernel) (by decide +kernel) (by decide +kernel) rfl (by decide +kernel)) ndDu rfl (pv 4) mo_var
      (fun cl C s0 H0 fp=>⟨pts_one (pt_mid (PW.pt (pw_or (pt_cmpR op_lt (pv 0) pe_int (nomark _)) (pw_or1 (pt_cmpR op_ge (pv 0) (pv 3) (nomark _)))))),pv 0⟩)) (pa_nil))) (pe_int) (nomark _)) (pss_one (ps_ret (pe_str))) (pss_nil))))
      (pss_one (ps_ret (pe_ifExp (pt_cmpR (op_inC (hu4 hr)) (pv 0) (pv 3) rfl) pe_str pe_str)))),?_⟩
  refine ⟨_,rfl,a,_,rfl,.inr (SqT.of ha),_,rfl,rfl,_,rfl,?_⟩
  rw [lx]
  refine ite2 (fun y=>?_) (fun y=>?_)
  · have ne:c.length≠ws.length:=fun z=>by rw [z] at y;simp at y
    have:=q H (Same.refl _)
    unfold kd at this
    rw [if_neg ne] at this
    exact this
  have el:c.length=ws.length:=by
    by_cases z:c.length=ws.length
    · exact z
    · refine absurd ?_ y
      rw [Bool.not_eq_true',decide_eq_false_iff_not]
      intro x
      have:=V.int.inj x
      omega
  refine ⟨_,rfl,a,rfl,⟨_,SqT.of ha⟩,?_⟩
  refine for_tup (xs:=xs) (fun i σ H'=>Same H H'∧(∀ u∈c.take i,alone (ps.length:Int) u=true)∧∃ x4:Option V,σ=[some (.ref a),some (.int (ws.length:Int)),some (.int (ps.length:Int)),some (.ref ch),x4]) ⟨Same.refl _,(fun u hu=>by rw [List.take_zero] at hu;cases hu),_,rfl⟩ (fun i σ H' _ hP=>SqT.of (hP.1 _ _ ha)) (fun i x σ H1 hxi hP=>?_) (fun σ H1 hP=>?_)
  · obtain ⟨s1,al,x4,rfl⟩:=hP
    obtain ⟨v,hv,rv⟩:=Paired.right_of hx i x hxi
    obtain ⟨wo,rfl,hwo0⟩:=Wd.ti rv
    have hwo:=s1 _ _ hwo0
    have lv:=cd.w v (List.mem_of_getElem? hv)
    refine ⟨_,rfl,wo,_,rfl,SqT.of hwo,fun d1 hd1=>?_⟩
    refine ⟨fun j H'=>Same H1 H'∧H' d1=some (.lst (((v.take j).filter (bad (ps.length:Int))).map V.int)),⟨same_newO hd1 _,upd_same⟩,fun j H' _ hP=>SqT.of (hP.1 _ _ hwo),fun j y H' hy hP=>?_,fun H' hP=>?_⟩
    · obtain ⟨sm,hd'⟩:=hP
      rw [List.getElem?_map] at hy
      obtain ⟨z,hz,rfl⟩:=Option.map_eq_some_iff.mp hy
      have et:(v.take (j+1)).filter (bad (ps.length:Int))=(v.take j).filter (bad (ps.length:Int))++(if bad (ps.length:Int) z=true then [z] else []):=by
        rw [List.take_add_one,hz,List.filter_append]
        congr 1
        show [z].filter _=_
        rw [List.filter_cons]
        rfl
      refine ⟨fun b H2=>b=bad (ps.length:Int) z∧H2=H',?_,?_⟩
      · refine ⟨_,rfl,_,_,rfl,rfl,_,rfl,?_⟩
        refine ite2 (fun y=>⟨?_,rfl⟩) (fun y=>?_)
        · exact (bad_iff.mpr (.inl (of_decide_eq_true y))).symm
        · refine ⟨_,rfl,_,rfl,_,_,rfl,rfl,_,rfl,?_,rfl⟩
          have y1:¬ z < 0:=fun w=>y (decide_eq_true w)
          by_cases g:z ≥ (ps.length:Int)
          · rw [bad_iff.mpr (.inr g)];exact decide_eq_true g
          · rw [show bad (ps.length:Int) z=false from Bool.eq_false_iff.mpr fun w=>by rcases bad_iff.mp w with w | w <;> omega];exact decide_eq_false g
      · rintro b H2 ⟨rfl,rfl⟩
        refine ite2 (fun y=>?_) (fun y=>?_)
        · refine ⟨_,rfl,_,hd',?_,same_upd hd1 sm,?_⟩
          · rw [List.length_map]
            have:=List.length_filter_le (bad (ps.length:Int)) (v.take j)
            rw [List.length_take] at this
            exact small1000 (by omega)
          · rw [upd_same,et,if_pos y,List.map_append];rfl
        · exact ⟨sm,by rw [hd',et,if_neg y,List.append_nil]⟩
    obtain ⟨sm,hd'⟩:=hP
    rw [List.length_map,List.take_length] at hd'
    refine ⟨d1,_,rfl,.inl (SqL.of hd'),_,_,rfl,rfl,_,rfl,?_⟩
    rw [List.length_map]
    refine ite2 (fun y=>?_) (fun y=>?_)
    · have y1:((v.filter (bad (ps.length:Int))).length:Int) > 0:=of_decide_eq_true y
      have nb:=bad_al.mp (show (v.filter (bad (ps.length:Int))).length > 0 by omega)
      have:=q H' (s1.trans sm)
      unfold kd at this
      rw [if_pos el,if_neg fun z=>nb (List.all_eq_true.mp z v (List.mem_of_getElem? hv))] at this
      exact this
    · refine ⟨s1.trans sm,fun u hu=>?_,_,rfl⟩
      rw [List.take_add_one,hv] at hu
      rcases List.mem_append.mp hu with z | z
      · exact al u z
      · have:u=v:=by simpa using z
        subst this
        by_cases g:alone (ps.length:Int) u=true
        · exact g
        · have:=bad_al.mpr g
          exact absurd (decide_eq_true (show ((u.filter (bad (ps.length:Int))).length:Int) > 0 by omega)) y
  · obtain ⟨s1,al,x4,rfl⟩:=hP
    rw [lx,List.take_length] at al
    have ka:c.all (alone (ps.length:Int))=true:=List.all_eq_true.mpr al
    have:=q H1 s1
    unfold kd at this
    rw [if_pos el,if_pos ka] at this
    refine ⟨_,rfl,_,rfl,ch,ys,chp ps ws,c,rfl,⟨a,xs,rfl,s1 _ _ ha,Ws.same s1 hx⟩,s1 _ _ hch,Paired.mapP hys fun x c h=>Tw.same s1 h,_,rfl,?_⟩
    refine ite2 (fun y=>?_) (fun y=>?_)
    · rw [if_pos (of_decide_eq_true y)] at this
      exact this
    · rw [if_neg fun z=>y (decide_eq_true z)] at this
      exact this
end
end Kp
end K53
set_option Elab.async false
set_option linter.all false
set_option maxRecDepth 100000
namespace K53
open PySem L2
namespace Kp
theorem ps_nv {X:Cx} {st:Stmt}:PS X st (fun _ _ _=>False):=fun _ _ _ _ _ _ h=>h.elim
theorem nm_told {g:Nat} (h:g≤3):nm g="told"↔g=3:=by
  have:g=0∨g=1∨g=2∨g=3:=by omega
  rcases this with rfl | rfl | rfl | rfl <;> decide
theorem idx_cd {xs:List (List (List Int))} (nd:xs.Nodup) {x:Nat} {c:List (List Int)} (h:xs[x]?=some c):xs.idxOf c=x:=by
  obtain ⟨lx,rfl⟩:=List.getElem?_eq_some_iff.mp h
  exact List.Nodup.idxOf_getElem nd x lx
def CdV (H:Hp) (x:V) (c:CT.Code):Prop:=∃ a,x=.ref a∧Cde H a c
theorem CdV.same {H H':Hp} {x:V} {c:CT.Code} (s:Same H H') (h:CdV H x c):CdV H' x c:=by
  obtain ⟨a,e,h⟩:=h
  exact ⟨a,e,h.same s⟩
theorem CdV.upd {H:Hp} {d:Addr} {zs zs':List V} {x:V} {c:CT.Code} (hd:H d=some (.lst zs)) (h:CdV H x c):CdV (L2.upd H d (.lst zs')) x c:=by
  obtain ⟨a,e,⟨xs,h1,h2⟩,h3,h4⟩:=h
  exact ⟨a,e,⟨xs,by rw [upd_ne (ne_of h1 hd (by intro z;cases z))];exact h1,Ws.upd hd h2⟩,h3,h4⟩
theorem CdV.of {H:Hp} {x:V} {c:CT.Code} {L n:Nat} (h:Tw H x c) (g:CT.Gd L n (n - 1) c) (n6:n≤6):CdV H x c:=by
  obtain ⟨a,xs,e,h1,h2⟩:=h
  exact ⟨a,e,⟨xs,h1,h2⟩,by have:=g.ln;omega,fun u hu=>by have:=(g.wd u hu).1;omega⟩
theorem cutP {α:Type} {R:V→α→Prop} {xs:List V} {ws:List α} (h:Paired R xs ws) (lo hi:Option Int):∃ ms:List α,Paired R (cutV xs lo hi) ms:=by
  unfold cutV
  exact ⟨_,Paired.takeP _ (Paired.dropP _ h)⟩
section
variable {P':Program} {w:World} {K:PySem.W.Frag} {mg:Str→Option Value} {base:Heap} {f:Addr} {fd:FuncData}
abbrev NL:List Str:=["script","prices","weights","codes","cheapest","some","k","cell","code","word","found"]
abbrev NLm:List Str:=["script","prices","weights","codes","cheapest","some","-","cell","code","word","found"]
theorem ndLm:(("k":Str) :: NLm).Nodup:=by decide +kernel
def spLaw (K:PySem.W.Frag):Sp:=fun vs H Q _=>∃ (a:Addr) (ns:List Int),vs=[.ref a]∧SqL K H a (ns.map V.int)∧ns.length≤63∧∀ H',Q (.bl true) H'
theorem scLaw:FnScope NL ["script"] (defScope sLaw):=⟨rfl,rfl,rfl,by decide +kernel,rfl,by decide +kernel,by decide +kernel⟩
set_option maxHeartbeats 16000000 in
theorem ok_law {CU CB CN:Addr} {e:Addr} {ed:FuncData} (F:Fun K "law" "law" sLaw e ed) (GI:Fns P' w K mg base ["script"] "_law_input" (spInput K) 26) (GO:Fns P' w K mg base ["things","letters"] "_law_codes" spCodes 26) (GC:Fns P' w K mg base ["prices","weights"] "_law_cheapest" spCheap 26) (GA:Fns P' w K mg base ["script","k"] "_law_cell" (spCell K) 26) (GS:Fns P' w K mg base PSp "_law_spoilt" spSp 26) (GR:Fns P' w K mg base NC "_law_refusal" spRf 26) (GD:Fns P' w K mg base PDu "_law_due" spDu 26) (GN:Fns' P' w K mg base NC "number_of" (spNo CU CB CN) 26) (GW:Fns P' w K mg base ["found"] "_law_whole" spWhole 26) (ml:mg "len"=none) (mr:mg "range"=none):FnOk P' w K mg base CX0 27 e ed ["script"] (spLaw K):=by
  refine F.ok (k:=26) scLaw (fun vs H Q E h=>?_) (fun cdv A outer s H vs Q E hr h=>?_)
  · obtain ⟨a,ns,rfl,_⟩:=h
    rfl
  obtain ⟨a,ns,rfl,hS,ln63,q⟩:=h
  refine ⟨_,pss_cons (ps_asg (pe_call GI.ok hr (by rfl) GI.m GI.kp GI.b .nil pass0 (pa_cons (pv 0) (pa_nil))) (pg_tup rfl (pgs_cons (pg_name (i:=1) scLaw.nd rfl (Or.inl rfl)) (pgs_cons (pg_name (i:=2) scLaw.nd rfl (Or.inl rfl)) (pgs_nil)))))
      (pss_cons (ps_set (i:=3) scLaw.nd rfl (Or.inr rfl) (pe_call GO.ok hr (by rfl) GO.m GO.kp GO.b .nil pass0 (pa_cons (pe_callB call_len_seq (by rfl) ml PySem.boot_len (pa_cons (pv 2) (pa_nil))) (pa_cons (pe_callB call_len_seq (by rfl) ml PySem.boot_len (pa_cons (pv 1) (pa_nil))) (pa_nil)))))
      (pss_cons (ps_set (i:=4) scLaw.nd rfl (Or.inl rfl) (pe_call GC.ok hr (by rfl) GC.m GC.kp GC.b .nil pass0 (pa_cons (pv 1) (pa_cons (pv 2) (pa_nil)))))
      (pss_cons (ps_compR1 (i:=5) (M:=NLm) scLaw.nd rfl rfl rfl (CompScope.of (defScope sLaw) NL rfl rfl rfl (by decide +kernel) (by decide +kernel) (by decide +kernel) rfl (by decide +kernel)) ndLm rfl (by rfl) mr (pa_cons pe_int pa_nil) (mo_cons mo_c mo_nil) (fun cl C s0 H0 fp=>⟨pts_nil,pe_ix (ixL K) (pv 4) (pe_op op_mod (pe_call GA.ok hr (by rfl) GA.m GA.kp GA.b .nil pass0 (pa_cons (pv 1) (pa_cons (pe_op op_add pe_int (pv 0)) pa_nil))) (pe_callB (call_lenK K) (by rfl) ml PySem.boot_len (pa_cons (pv 4) pa_nil))) (fun _ _=>rfl)⟩))
      (pss_cons (ps_for PassesOwn.never rfl (pi_range1 (by rfl) mr (pa_cons (pe_int) (pa_nil))) (pg_name (i:=6) scLaw.nd rfl (Or.inl rfl)) (pss_cons (ps_set (i:=7) scLaw.nd rfl (Or.inl rfl) (pe_call GA.ok hr (by rfl) GA.m GA.kp GA.b .nil pass0 (pa_cons (pv 0) (pa_cons (pe_op op_add (pe_int) (pv 6)) (pa_nil)))))
      (pss_one (ps_expr (pe_bm PySem.F.plainAttrs_list PySem.F.slot_list_append PySem.F.type_list_append mt_append (pv 5) (pa_cons (pe_call GS.ok hr (by rfl) GS.m GS.kp GS.b .nil pass0 (pa_cons (pe_ix ix_list (pv 4) (pe_op op_mod (pe_op op_fdiv (pv 7) (pe_int)) (pe_callB call_len_seq (by rfl) ml PySem.boot_len (pa_cons (pv 4) (pa_nil)))) (fun _ _=>rfl)) (pa_cons (pe_callB call_len_seq (by rfl) ml PySem.boot_len (pa_cons (pv 1) (pa_nil))) (pa_cons (pv 7) (pa_nil))))) (pa_nil)))))))
      (pss_cons (ps_for PassesOwn.never rfl (pi_list (pe_op op_cat (pe_op op_cat (pv 5) (pe_slice sl_list (pv 4) po_none (po_some (pe_int)))) (pe_slice sl_list (pv 4) (po_some (pe_un un_neg pe_int)) po_none))) (pg_name (i:=8) scLaw.nd rfl (Or.inl rfl)) (pss_cons (ps_set (i:=9) scLaw.nd rfl (Or.inl rfl) (pe_call GR.ok hr (by rfl) GR.m GR.kp GR.b .nil pass0 (pa_cons (pv 1) (pa_cons (pv 2) (pa_cons (pv 8) (pa_nil))))))
      (pss_cons (ps_if (pt_cmpR op_ne (pv 9) (pe_call GD.ok hr (by rfl) GD.m GD.kp GD.b .nil pass0 (pa_cons (pv 8) (pa_cons (pe_callB call_len_seq (by rfl) ml PySem.boot_len (pa_cons (pv 2) (pa_nil))) (pa_cons (pe_callB call_len_seq (by rfl) ml PySem.boot_len (pa_cons (pv 1) (pa_nil))) (pa_cons (pv 4) (pa_nil)))))) (nomark _)) (pss_one (ps_nv)) (pss_nil))
      (pss_one (ps_if (pt_cmpR op_eq (pv 9) (pe_str) (nomark _)) (pss_cons (ps_set (i:=10) scLaw.nd rfl (Or.inl rfl) (pe_call GN.ok hr (by rfl) GN.m GN.kp GN.b .nil passN (pa_cons (pv 1) (pa_cons (pv 2) (pa_cons (pv 8) (pa_nil))))))
      (pss_one (ps_if (PW.pt (pw_or (pt_not (pt_val (pe_call GW.ok hr (by rfl) GW.m GW.kp GW.b .nil pass0 (pa_cons (pv 10) (pa_nil))))) (pw_or1 (pt_cmpR op_ne (pv 10) (pe_bm PySem.F.plainAttrs_list PySem.F.slot_list_index PySem.F.type_list_index (mt_indexC (hu4 hr)) (pv 4) (pa_cons (pv 8) (pa_nil))) (nomark _))))) (pss_one (ps_nv)) (pss_nil)))) (pss_nil))))))
      (pss_one (ps_ret (pe_bl)))))))),?_⟩
  refine ⟨_,rfl,a,ns,rfl,hS,fun r p wa H1 ps ws s1 hr1 hp hw bp bw hin n1=>?_⟩
  obtain ⟨L2',L4,m6⟩:=inL_bd hin
  have b0p:Bd0 ps:=fun x hx=>by have:=bp x hx;exact ⟨by omega,this.2⟩
  have b0w:Bd0 ws:=fun x hx=>by have:=bw x hx;exact ⟨by omega,this.2⟩
  have i2:In2 H1 p wa ps ws:=⟨hp,hw,⟨L2',by omega,n1,by omega,b0p,b0w⟩,fun x hx=>(bp x hx).1,fun x hx=>(bw x hx).1,hin⟩
  refine ⟨r,_,rfl,SqT.of hr1,rfl,_,_,rfl,_,_,rfl,rfl,?_⟩
  refine ⟨_,rfl,wa,_,rfl,.inr (SqT.of hw),_,rfl,p,_,rfl,.inr (SqT.of hp),ws.length,ps.length,by rw [List.length_map,List.length_map];rfl,hin,n1,fun d0 xs0 H2 s2 hd0 tw0=>?_⟩
  refine ⟨_,rfl,_,rfl,p,wa,ps,ws,rfl,s2 _ _ hp,s2 _ _ hw,hin,n1,b0p,b0w,fun d ys H3 s3 hd wd=>?_⟩
  have s13:=s2.trans s3
  have i3:=i2.same s13
  have hS3:=(s1.trans s13).seq hS
  have hd03:=s3 _ _ hd0
  have ly:ys.length=(chp ps ws).length:=wd.length
  have lx0:xs0.length=(CT.Cs ps.length ws.length).length:=tw0.length
  have lc:(chp ps ws).length≤900:=Nat.le_trans (List.length_filter_le _ _) (CT.Cs_len hin)
  have lc0:=CT.Cs_ne hin n1
  have l0:0 < (chp ps ws).length:=by
    rw [chp_len hin n1]
    cases e:CT.mi ((CT.Cs ps.length ws.length).map (CT.co ps ws 0)) with
    | none =>
      have z:=congrArg List.length (CT.mi_none.mp e)
      rw [List.length_map,List.length_nil] at z
      omega
    | some m =>
      rw [CT.ct_of e]
      exact List.count_pos_iff.mpr (CT.mi_some.mp e).1
  have gd:∀ c∈chp ps ws,CT.Gd ps.length ws.length (ws.length - 1) c:=fun c hc=>CT.Cs_gd n1 c (List.mem_filter.mp hc).1
  refine ⟨_,rfl,by decide,by decide,fun ds hds=>?_⟩
  refine ⟨fun i H'=>Same H3 H'∧∃ (zs:List V) (cs:List CT.Code),H' ds=some (.lst zs)∧Paired (CdV H') zs cs∧zs.length=i,⟨same_newO hds _,[],[],upd_same,.nil,rfl⟩,fun i H' hi hP=>?_,fun H4 hP=>?_⟩
  · obtain ⟨s4,zs,cs,g4,w4,l4⟩:=hP
    have hi4:i < 4:=by
      have:(4:Int).toNat=4:=rfl
      omega
    rw [show (0:Int)+(i:Int)=(i:Int) from Int.zero_add _]
    refine turn_all ⟨_,rfl,_,rfl,_,rfl,_,_,rfl,rfl,a,ns,12+(i:Int),rfl,s4.seq hS3,by omega,by omega,fun cl c0=>?_⟩
    obtain ⟨k,ek,hk⟩:=mod_n (x:=cl) (n:=xs0.length) (by omega)
    have hx0:xs0[k]?=some (xs0[k]'hk):=List.getElem?_eq_getElem _
    obtain ⟨c,hc,rc⟩:=Paired.right_of tw0 k _ hx0
    generalize xs0[k]'hk=x0 at hx0 rc
    have cv:=CdV.same (s3.trans s4) (CdV.of rc (CT.Cs_gd n1 c (List.mem_of_getElem? hc)) m6)
    refine ⟨_,rfl,d0,_,rfl,.inl (SqL.of (s4 _ _ hd03)),_,_,rfl,rfl,(by show (0:Int) < _;omega),?_⟩
    dsimp only
    rw [ek]
    refine ⟨d0,_,_,_,rfl,rfl,SqL.of (s4 _ _ hd03),at_nat hx0,_,g4,small1000 (by omega),same_upd hds s4,zs++[x0],cs++[c],upd_same,?_,by rw [List.length_append];show _+1=_;omega⟩
    exact L2.Paired.appendP (Paired.mapP w4 fun _ _ h=>h.upd g4) (.cons (cv.upd g4) .nil)
  obtain ⟨s4,zs,cs,g4,w4,l4⟩:=hP
  have l4:zs.length=4:=l4
  refine ⟨_,rfl,by decide,by decide,?_⟩
  refine for_range (fun m σ H'=>Same H3 H'∧(∃ (zs:List V) (cs:List CT.Code),H' ds=some (.lst zs)∧Paired (CdV H') zs cs∧zs.length=4+m)∧∃ x6 x7 x8 x9 x10:Option V,σ=[some (.ref a),some (.ref p),some (.ref wa),some (.ref d0),some (.ref d),some (.ref ds),x6,x7,x8,x9,x10]) ⟨s4,⟨zs,cs,g4,w4,l4⟩,_,_,_,_,_,rfl⟩ (fun m σ H5 hm hP=>?_) (fun σ H5 hP=>?_)
  · obtain ⟨s5,⟨zs5,cs5,g5,w5,l5⟩,x6,x7,x8,x9,x10,rfl⟩:=hP
    have hm8:m < 8:=by
      have:(8:Int).toNat=8:=rfl
      omega
    rw [show (0:Int)+(m:Int)=(m:Int) from Int.zero_add _]
    refine ⟨_,rfl,_,rfl,_,_,rfl,rfl,a,ns,16+(m:Int),rfl,s5.seq hS3,by omega,by omega,fun cl c0=>?_⟩
    obtain ⟨k,ek,hk⟩:=mod_n (x:=cl / 7) (n:=ys.length) (by omega)
    have hy0:ys[k]?=some (ys[k]'hk):=List.getElem?_eq_getElem _
    obtain ⟨c,hc,rc⟩:=Paired.right_of wd k _ hy0
    generalize ys[k]'hk=y0 at hy0 rc
    have gc:=gd c (List.mem_of_getElem? hc)
    obtain ⟨ca,xc,rfl,hca,hxc⟩:=rc
    refine ⟨_,rfl,.inl ⟨rfl,_,SqL.of g5⟩,_,rfl,_,rfl,_,_,rfl,rfl,⟨by decide,by decide⟩,_,rfl,d,_,rfl,.inl (SqL.of (s5 _ _ hd)),_,_,rfl,rfl,(by show (0:Int) < _;omega),?_⟩
    dsimp only
    rw [ek]
    refine ⟨d,_,_,_,rfl,rfl,SqL.of (s5 _ _ hd),at_nat hy0,_,rfl,p,_,rfl,.inr (SqT.of (s5 _ _ i3.hp)),_,rfl,ca,xc,c,ps.length,cl,by rw [List.length_map];rfl,s5 _ _ hca,Ws.same s5 hxc,by have:=gc.ln;omega,by have:=gc.ln;omega,fun u hu=>by have:=(gc.wd u hu).1;omega,L2',by omega,fun b c' H6 s6 cd6=>?_⟩
    have g6:=s6 _ _ g5
    refine ⟨ds,_,_,rfl,rfl,g6,small1000 (by omega),same_upd hds (s5.trans s6),⟨zs5++[.ref b],cs5++[c'],upd_same,?_,by rw [List.length_append];show _+1=_;omega⟩,_,_,_,_,_,rfl⟩
    exact L2.Paired.appendP (Paired.mapP w5 fun _ _ h=>(h.same s6).upd g6) (.cons (CdV.upd g6 ⟨b,rfl,cd6⟩) .nil)
  obtain ⟨s5,⟨zs5,cs5,g5,w5,l5⟩,x6,x7,x8,x9,x10,rfl⟩:=hP
  have l5:zs5.length=4+8:=l5
  have wy:Paired (CdV H3) ys (chp ps ws):=by
    have key:∀ (xs:List V) (cs:List CT.Code),Paired (Tw H3) xs cs→(∀ c∈cs,c∈chp ps ws)→Paired (CdV H3) xs cs:=fun xs cs h=>by
      induction h with
      | nil=>intro _;exact .nil
      | cons h1 _ ih=>intro hm;exact .cons (CdV.of h1 (gd _ (hm _ (.head _))) m6) (ih fun c hc=>hm c (.tail _ hc))
    exact key _ _ wd fun c hc=>hc
  obtain ⟨m1,wm1⟩:=cutP wy none (some 6)
  obtain ⟨m2,wm2⟩:=cutP wy (some (-1)) none
  have lc1:(cutV ys none (some 6)).length≤6:=by
    rw [show (6:Int)=((6:Nat):Int) from rfl,cut_to,List.length_take]
    omega
  have lc2:(cutV ys (some (-1)) none).length≤ys.length:=cutV_length _ _ _
  refine ⟨_,rfl,_,rfl,_,rfl,d,_,rfl,SqL.of (s5 _ _ hd),fun p1 hp1=>?_⟩
  have s6:=same_newO hp1 (.lst (cutV ys none (some 6)))
  have h6:upd H5 p1 (.lst (cutV ys none (some 6))) p1=some (.lst (cutV ys none (some 6))):=upd_same
  generalize upd H5 p1 (.lst (cutV ys none (some 6)))=H6 at s6 h6 ⊢
  refine ⟨ds,p1,_,_,rfl,rfl,s6 _ _ g5,h6,small (by omega),fun p2 hp2=>?_⟩
  have s7:=same_newO hp2 (.lst (zs5++cutV ys none (some 6)))
  have h7:upd H6 p2 (.lst (zs5++cutV ys none (some 6))) p2=some (.lst (zs5++cutV ys none (some 6))):=upd_same
  generalize upd H6 p2 (.lst (zs5++cutV ys none (some 6)))=H7 at s7 h7 ⊢
  have s57:=s6.trans s7
  refine ⟨_,rfl,_,rfl,_,rfl,d,_,rfl,SqL.of ((s5.trans s57) _ _ hd),fun p3 hp3=>?_⟩
  have s8:=same_newO hp3 (.lst (cutV ys (some (-1)) none))
  have h8:upd H7 p3 (.lst (cutV ys (some (-1)) none)) p3=some (.lst (cutV ys (some (-1)) none)):=upd_same
  generalize upd H7 p3 (.lst (cutV ys (some (-1)) none))=H8 at s8 h8 ⊢
  refine ⟨p2,p3,_,_,rfl,rfl,s8 _ _ h7,h8,small (by rw [List.length_append];omega),fun p4 hp4=>?_⟩
  have s9:=same_newO hp4 (.lst (zs5++cutV ys none (some 6)++cutV ys (some (-1)) none))
  have h9:upd H8 p4 (.lst (zs5++cutV ys none (some 6)++cutV ys (some (-1)) none)) p4=some (.lst (zs5++cutV ys none (some 6)++cutV ys (some (-1)) none)):=upd_same
  generalize upd H8 p4 (.lst (zs5++cutV ys none (some 6)++cutV ys (some (-1)) none))=H9 at s9 h9 ⊢
  have s59:=(s57.trans s8).trans s9
  have s39:=s5.trans s59
  have w9:Paired (CdV H9) (zs5++cutV ys none (some 6)++cutV ys (some (-1)) none) (cs5++m1++m2):=L2.Paired.appendP (L2.Paired.appendP (Paired.mapP w5 fun _ _ h=>h.same s59) (Paired.mapP wm1 fun _ _ h=>h.same s39)) (Paired.mapP wm2 fun _ _ h=>h.same s39)
  refine ⟨_,rfl,⟨_,SqL.of h9⟩,?_⟩
  refine for_list (xs:=zs5++cutV ys none (some 6)++cutV ys (some (-1)) none) (fun m σ H'=>Same H9 H'∧∃ x8 x9 x10:Option V,σ=[some (.ref a),some (.ref p),some (.ref wa),some (.ref d0),some (.ref d),some (.ref ds),x6,x7,x8,x9,x10]) ⟨Same.refl _,_,_,_,rfl⟩ (fun m σ H' _ hP=>SqL.of (hP.1 _ _ h9)) (fun m x σ H10 hx hP=>?_) (fun σ H10 hP=>?_)
  · obtain ⟨s10,x8,x9,x10,rfl⟩:=hP
    obtain ⟨c,hc,rc⟩:=Paired.right_of w9 m x hx
    obtain ⟨ca,rfl,cd9⟩:=rc
    have s310:=s39.trans s10
    refine ⟨_,rfl,_,rfl,_,rfl,p,wa,ca,ps,ws,c,rfl,i3.same s310,cd9.same s10,fun H11 s11=>?_⟩
    have s311:=s310.trans s11
    have i11:=i3.same s311
    refine ⟨_,rfl,_,rfl,_,rfl,wa,_,rfl,.inr (SqT.of i11.hq),_,rfl,p,_,rfl,.inr (SqT.of i11.hp),_,rfl,ca,d,ps,ws,c,ys,by rw [List.length_map,List.length_map];rfl,cd9.same (s10.trans s11),s311 _ _ hd,Paired.mapP wd (fun x c h=>Tw.same s311 h),fun H12 s12=>?_⟩
    have s312:=s311.trans s12
    refine ⟨rfl,_,rfl,?_⟩
    rw [decide_eq_true rfl]
    refine iteF ?_
    refine ⟨_,rfl,rfl,_,rfl,?_⟩
    refine ite2 (fun y=>?_) (fun y=>⟨(s10.trans s11).trans s12,_,_,_,rfl⟩)
    have k3:kd ps ws c=3:=(nm_told kd_le).mp (V.str.inj (of_decide_eq_true y))
    refine ⟨_,rfl,_,rfl,_,rfl,p,wa,ca,ps,ws,c,rfl,i3.same s312,cd9.same ((s10.trans s11).trans s12),(fun z=>by rw [k3] at z;cases z),(fun z=>by rw [k3] at z;cases z),(fun z=>by rw [k3] at z;cases z),fun _ H13 x s13 hx=>?_⟩
    have s313:=s312.trans s13
    refine ⟨_,rfl,_,rfl,_,rfl,?_⟩
    refine iteF ?_
    obtain ⟨xc,hca,hxc⟩:=(cd9.same (((s10.trans s11).trans s12).trans s13)).o
    refine ⟨_,rfl,_,rfl,.inl ⟨rfl,_,SqL.of (s313 _ _ hd)⟩,_,rfl,d,_,ys,chp ps ws,c,rfl,rfl,⟨ca,xc,rfl,hca,hxc⟩,s313 _ _ hd,Paired.mapP wd (fun x c h=>Tw.same s313 h),List.mem_of_getElem? hx,rfl,_,rfl,?_⟩
    rw [idx_cd (chp_nd n1) hx,decide_eq_true rfl]
    exact iteF ⟨((s10.trans s11).trans s12).trans s13,_,_,_,rfl⟩
  · obtain ⟨s10,x8,x9,x10,rfl⟩:=hP
    exact q H10
end
end Kp
end K53
set_option Elab.async false
set_option linter.all false
set_option maxRecDepth 100000
namespace K53
open PySem L2
open Kp (spLaw)
theorem al1 {α:Type} {P:List α→Prop} (h:∀ a0:α,P [a0]):∀ us:List α,us.length=1→P us
  | [a0],_=>h a0
theorem al2 {α:Type} {P:List α→Prop} (h:∀ a0 a1:α,P [a0,a1]):∀ us:List α,us.length=2→P us
  | [a0,a1],_=>h a0 a1
theorem al3 {α:Type} {P:List α→Prop} (h:∀ a0 a1 a2:α,P [a0,a1,a2]):∀ us:List α,us.length=3→P us
  | [a0,a1,a2],_=>h a0 a1 a2
theorem al4 {α:Type} {P:List α→Prop} (h:∀ a0 a1 a2 a3:α,P [a0,a1,a2,a3]):∀ us:List α,us.length=4→P us
  | [a0,a1,a2,a3],_=>h a0 a1 a2 a3
theorem al5 {α:Type} {P:List α→Prop} (h:∀ a0 a1 a2 a3 a4:α,P [a0,a1,a2,a3,a4]):∀ us:List α,us.length=5→P us
  | [a0,a1,a2,a3,a4],_=>h a0 a1 a2 a3 a4
theorem al6 {α:Type} {P:List α→Prop} (h:∀ a0 a1 a2 a3 a4 a5:α,P [a0,a1,a2,a3,a4,a5]):∀ us:List α,us.length=6→P us
  | [a0,a1,a2,a3,a4,a5],_=>h a0 a1 a2 a3 a4 a5
set_option maxHeartbeats 0 in
theorem all_mk {l:PySem.W.OpenLaw} {w:World} {K:PySem.W.Frag} {h:Heap} {mg:Str→Option Value} {fa f1 f2 f3 f4 f5 f6 f7 f8 f9 f10 f11 f12 f13 f14 f15 f16 f17 f18 f19 f20 f21 f22 f23 f24 f25 f26 f27 f28 f29 f30 f31 f32 f33:Addr} (X:K.In h) (G:h.Ns mainGlobals mg) (hfa:mg "law"=some (.ref fa))
    {od1 an1 od2 an2 od3 an3 od4 an4 od5 an5 od6 an6 od7 an7 od8 an8 od9 an9 od10 an10 od11 an11 od12 an12 od13 an13 od14 an14 od15 an15 od16 an16 od17 an17 od18 an18 od19 an19 od20 an20 od21 an21 od22 an22 od23 an23 od24 an24 od25 an25 od26 an26 od27 an27 od28 an28 od29 an29 od30 an30 od31 an31 od32 an32 od33 an33:Option Addr} {sl1 sl2 sl3 sl4 sl5 sl6 sl7 sl8 sl9 sl10 sl11 sl12 sl13 sl14 sl15 sl16 sl17 sl18 sl19 sl20 sl21 sl22 sl23 sl24 sl25 sl26 sl27 sl28 sl29 sl30 sl31 sl32 sl33:Array (Option Value)}
    {oc1 kV1 dc1 pm1 cd1 ct1 oc2 kV2 dc2 pm2 cd2 ct2 oc3 kV3 dc3 pm3 cd3 ct3 oc4 kV4 dc4 pm4 cd4 ct4 oc5 kV5 dc5 pm5 cd5 ct5 oc6 kV6 dc6 pm6 cd6 ct6 oc7 kV7 dc7 pm7 cd7 ct7 oc8 kV8 dc8 pm8 cd8 ct8 oc9 kV9 dc9 pm9 cd9 ct9 oc10 kV10 dc10 pm10 cd10 ct10 oc11 kV11 dc11 pm11 cd11 ct11 oc12 kV12 dc12 pm12 cd12 ct12 oc13 kV13 dc13 pm13 cd13 ct13 oc14 kV14 dc14 pm14 cd14 ct14 oc15 kV15 dc15 pm15 cd15 ct15 oc16 kV16 dc16 pm16 cd16 ct16 oc17 kV17 dc17 pm17 cd17 ct17 oc18 kV18 dc18 pm18 cd18 ct18 oc19 kV19 dc19 pm19 cd19 ct19 oc20 kV20 dc20 pm20 cd20 ct20 oc21 kV21 dc21 pm21 cd21 ct21 oc22 kV22 dc22 pm22 cd22 ct22 oc23 kV23 dc23 pm23 cd23 ct23 oc24 kV24 dc24 pm24 cd24 ct24 oc25 kV25 dc25 pm25 cd25 ct25 oc26 kV26 dc26 pm26 cd26 ct26 oc27 kV27 dc27 pm27 cd27 ct27 oc28 kV28 dc28 pm28 cd28 ct28 oc29 kV29 dc29 pm29 cd29 ct29 oc30 kV30 dc30 pm30 cd30 ct30 oc31 kV31 dc31 pm31 cd31 ct31 oc32 kV32 dc32 pm32 cd32 ct32 oc33 kV33 dc33 pm33 cd33 ct33:Value}
    (a1:PySem.W.nsIn K mainGlobals "weight_sums"=some (some (.ref f1))) (l1:K.lookup f1=some ⟨oc1,od1,.func (PySem.W.fnOf "weight_sums" "weight_sums" (defArgs sSums) (defBody sSums) (defScope sSums) .none kV1 dc1 pm1 an1 cd1 ct1),sl1⟩) (c1:PySem.W.codeIn K cd1 "weight_sums"=true) (k1:PySem.W.keepIn K (.ref f1)=true)
    (a2:PySem.W.nsIn K mainGlobals "row_with"=some (some (.ref f2))) (l2:K.lookup f2=some ⟨oc2,od2,.func (PySem.W.fnOf "row_with" "row_with" (defArgs sRow) (defBody sRow) (defScope sRow) .none kV2 dc2 pm2 an2 cd2 ct2),sl2⟩) (c2:PySem.W.codeIn K cd2 "row_with"=true) (k2:PySem.W.keepIn K (.ref f2)=true)
    (a3:PySem.W.nsIn K mainGlobals "square"=some (some (.ref f3))) (l3:K.lookup f3=some ⟨oc3,od3,.func (PySem.W.fnOf "square" "square" (defArgs sSquare) (defBody sSquare) (defScope sSquare) .none kV3 dc3 pm3 an3 cd3 ct3),sl3⟩) (c3:PySem.W.codeIn K cd3 "square"=true) (k3:PySem.W.keepIn K (.ref f3)=true)
    (a4:PySem.W.nsIn K mainGlobals "least"=some (some (.ref f4))) (l4:K.lookup f4=some ⟨oc4,od4,.func (PySem.W.fnOf "least" "least" (defArgs sLeast) (defBody sLeast) (defScope sLeast) .none kV4 dc4 pm4 an4 cd4 ct4),sl4⟩) (c4:PySem.W.codeIn K cd4 "least"=true) (k4:PySem.W.keepIn K (.ref f4)=true)
    (a5:PySem.W.nsIn K mainGlobals "added"=some (some (.ref f5))) (l5:K.lookup f5=some ⟨oc5,od5,.func (PySem.W.fnOf "added" "added" (defArgs sAdded) (defBody sAdded) (defScope sAdded) .none kV5 dc5 pm5 an5 cd5 ct5),sl5⟩) (c5:PySem.W.codeIn K cd5 "added"=true) (k5:PySem.W.keepIn K (.ref f5)=true)
    (a6:PySem.W.nsIn K mainGlobals "parted_least"=some (some (.ref f6))) (l6:K.lookup f6=some ⟨oc6,od6,.func (PySem.W.fnOf "parted_least" "parted_least" (defArgs sPl) (defBody sPl) (defScope sPl) .none kV6 dc6 pm6 an6 cd6 ct6),sl6⟩) (c6:PySem.W.codeIn K cd6 "parted_least"=true) (k6:PySem.W.keepIn K (.ref f6)=true)
    (a7:PySem.W.nsIn K mainGlobals "has_letters_alone"=some (some (.ref f7))) (l7:K.lookup f7=some ⟨oc7,od7,.func (PySem.W.fnOf "has_letters_alone" "has_letters_alone" (defArgs sAlone) (defBody sAlone) (defScope sAlone) .none kV7 dc7 pm7 an7 cd7 ct7),sl7⟩) (c7:PySem.W.codeIn K cd7 "has_letters_alone"=true) (k7:PySem.W.keepIn K (.ref f7)=true)
    (a8:PySem.W.nsIn K mainGlobals "word_price"=some (some (.ref f8))) (l8:K.lookup f8=some ⟨oc8,od8,.func (PySem.W.fnOf "word_price" "word_price" (defArgs sPPrice) (defBody sPPrice) (defScope sPPrice) .none kV8 dc8 pm8 an8 cd8 ct8),sl8⟩) (c8:PySem.W.codeIn K cd8 "word_price"=true) (k8:PySem.W.keepIn K (.ref f8)=true)
    (a9:PySem.W.nsIn K mainGlobals "begins"=some (some (.ref f9))) (l9:K.lookup f9=some ⟨oc9,od9,.func (PySem.W.fnOf "begins" "begins" (defArgs sBegins) (defBody sBegins) (defScope sBegins) .none kV9 dc9 pm9 an9 cd9 ct9),sl9⟩) (c9:PySem.W.codeIn K cd9 "begins"=true) (k9:PySem.W.keepIn K (.ref f9)=true)
    (a10:PySem.W.nsIn K mainGlobals "clash"=some (some (.ref f10))) (l10:K.lookup f10=some ⟨oc10,od10,.func (PySem.W.fnOf "clash" "clash" (defArgs sClash) (defBody sClash) (defScope sClash) .none kV10 dc10 pm10 an10 cd10 ct10),sl10⟩) (c10:PySem.W.codeIn K cd10 "clash"=true) (k10:PySem.W.keepIn K (.ref f10)=true)
    (a11:PySem.W.nsIn K mainGlobals "rises"=some (some (.ref f11))) (l11:K.lookup f11=some ⟨oc11,od11,.func (PySem.W.fnOf "rises" "rises" (defArgs sRises) (defBody sRises) (defScope sRises) .none kV11 dc11 pm11 an11 cd11 ct11),sl11⟩) (c11:PySem.W.codeIn K cd11 "rises"=true) (k11:PySem.W.keepIn K (.ref f11)=true)
    (a12:PySem.W.nsIn K mainGlobals "is_kept"=some (some (.ref f12))) (l12:K.lookup f12=some ⟨oc12,od12,.func (PySem.W.fnOf "is_kept" "is_kept" (defArgs sIsKept) (defBody sIsKept) (defScope sIsKept) .none kV12 dc12 pm12 an12 cd12 ct12),sl12⟩) (c12:PySem.W.codeIn K cd12 "is_kept"=true) (k12:PySem.W.keepIn K (.ref f12)=true)
    (a13:PySem.W.nsIn K mainGlobals "cost"=some (some (.ref f13))) (l13:K.lookup f13=some ⟨oc13,od13,.func (PySem.W.fnOf "cost" "cost" (defArgs sPCost) (defBody sPCost) (defScope sPCost) .none kV13 dc13 pm13 an13 cd13 ct13),sl13⟩) (c13:PySem.W.codeIn K cd13 "cost"=true) (k13:PySem.W.keepIn K (.ref f13)=true)
    (a14:PySem.W.nsIn K mainGlobals "least_floors"=some (some (.ref f14))) (l14:K.lookup f14=some ⟨oc14,od14,.func (PySem.W.fnOf "least_floors" "least_floors" (defArgs sLf) (defBody sLf) (defScope sLf) .none kV14 dc14 pm14 an14 cd14 ct14),sl14⟩) (c14:PySem.W.codeIn K cd14 "least_floors"=true) (k14:PySem.W.keepIn K (.ref f14)=true)
    (a15:PySem.W.nsIn K mainGlobals "is_cheapest_kept"=some (some (.ref f15))) (l15:K.lookup f15=some ⟨oc15,od15,.func (PySem.W.fnOf "is_cheapest_kept" "is_cheapest_kept" (defArgs sIck) (defBody sIck) (defScope sIck) .none kV15 dc15 pm15 an15 cd15 ct15),sl15⟩) (c15:PySem.W.codeIn K cd15 "is_cheapest_kept"=true) (k15:PySem.W.keepIn K (.ref f15)=true)
    (a16:PySem.W.nsIn K mainGlobals "number_of"=some (some (.ref f16))) (l16:K.lookup f16=some ⟨oc16,od16,.func (PySem.W.fnOf "number_of" "number_of" (defArgs sNo) (defBody sNo) (defScope sNo) .none kV16 dc16 pm16 an16 cd16 ct16),sl16⟩) (c16:PySem.W.codeIn K cd16 "number_of"=true) (k16:PySem.W.keepIn K (.ref f16)=true)
    (a17:PySem.W.nsIn K mainGlobals "number_of_words"=some (some (.ref f17))) (l17:K.lookup f17=some ⟨oc17,od17,.func (PySem.W.fnOf "number_of_words" "number_of_words" (defArgs sNw) (defBody sNw) (defScope sNw) .none kV17 dc17 pm17 an17 cd17 ct17),sl17⟩) (c17:PySem.W.codeIn K cd17 "number_of_words"=true) (k17:PySem.W.keepIn K (.ref f17)=true)
    (a18:PySem.W.nsIn K mainGlobals "number_of_tail"=some (some (.ref f18))) (l18:K.lookup f18=some ⟨oc18,od18,.func (PySem.W.fnOf "number_of_tail" "number_of_tail" (defArgs sNt) (defBody sNt) (defScope sNt) .none kV18 dc18 pm18 an18 cd18 ct18),sl18⟩) (c18:PySem.W.codeIn K cd18 "number_of_tail"=true) (k18:PySem.W.keepIn K (.ref f18)=true)
    (a19:PySem.W.nsIn K mainGlobals "way_of"=some (some (.ref f19))) (l19:K.lookup f19=some ⟨oc19,od19,.func (PySem.W.fnOf "way_of" "way_of" (defArgs sWo) (defBody sWo) (defScope sWo) .none kV19 dc19 pm19 an19 cd19 ct19),sl19⟩) (c19:PySem.W.codeIn K cd19 "way_of"=true) (k19:PySem.W.keepIn K (.ref f19)=true)
    (a20:PySem.W.nsIn K mainGlobals "_law_cell"=some (some (.ref f20))) (l20:K.lookup f20=some ⟨oc20,od20,.func (PySem.W.fnOf "_law_cell" "_law_cell" (defArgs sCell) (defBody sCell) (defScope sCell) .none kV20 dc20 pm20 an20 cd20 ct20),sl20⟩) (c20:PySem.W.codeIn K cd20 "_law_cell"=true) (k20:PySem.W.keepIn K (.ref f20)=true)
    (a21:PySem.W.nsIn K mainGlobals "_law_number"=some (some (.ref f21))) (l21:K.lookup f21=some ⟨oc21,od21,.func (PySem.W.fnOf "_law_number" "_law_number" (defArgs sNumber) (defBody sNumber) (defScope sNumber) .none kV21 dc21 pm21 an21 cd21 ct21),sl21⟩) (c21:PySem.W.codeIn K cd21 "_law_number"=true) (k21:PySem.W.keepIn K (.ref f21)=true)
    (a22:PySem.W.nsIn K mainGlobals "_law_numbers"=some (some (.ref f22))) (l22:K.lookup f22=some ⟨oc22,od22,.func (PySem.W.fnOf "_law_numbers" "_law_numbers" (defArgs sNumbers) (defBody sNumbers) (defScope sNumbers) .none kV22 dc22 pm22 an22 cd22 ct22),sl22⟩) (c22:PySem.W.codeIn K cd22 "_law_numbers"=true) (k22:PySem.W.keepIn K (.ref f22)=true)
    (a23:PySem.W.nsIn K mainGlobals "_law_input"=some (some (.ref f23))) (l23:K.lookup f23=some ⟨oc23,od23,.func (PySem.W.fnOf "_law_input" "_law_input" (defArgs sInput) (defBody sInput) (defScope sInput) .none kV23 dc23 pm23 an23 cd23 ct23),sl23⟩) (c23:PySem.W.codeIn K cd23 "_law_input"=true) (k23:PySem.W.keepIn K (.ref f23)=true)
    (a24:PySem.W.nsIn K mainGlobals "_law_rows"=some (some (.ref f24))) (l24:K.lookup f24=some ⟨oc24,od24,.func (PySem.W.fnOf "_law_rows" "_law_rows" (defArgs sRows) (defBody sRows) (defScope sRows) .none kV24 dc24 pm24 an24 cd24 ct24),sl24⟩) (c24:PySem.W.codeIn K cd24 "_law_rows"=true) (k24:PySem.W.keepIn K (.ref f24)=true)
    (a25:PySem.W.nsIn K mainGlobals "_law_codes"=some (some (.ref f25))) (l25:K.lookup f25=some ⟨oc25,od25,.func (PySem.W.fnOf "_law_codes" "_law_codes" (defArgs sCodes) (defBody sCodes) (defScope sCodes) .none kV25 dc25 pm25 an25 cd25 ct25),sl25⟩) (c25:PySem.W.codeIn K cd25 "_law_codes"=true) (k25:PySem.W.keepIn K (.ref f25)=true)
    (a26:PySem.W.nsIn K mainGlobals "_law_price"=some (some (.ref f26))) (l26:K.lookup f26=some ⟨oc26,od26,.func (PySem.W.fnOf "_law_price" "_law_price" (defArgs sPrice) (defBody sPrice) (defScope sPrice) .none kV26 dc26 pm26 an26 cd26 ct26),sl26⟩) (c26:PySem.W.codeIn K cd26 "_law_price"=true) (k26:PySem.W.keepIn K (.ref f26)=true)
    (a27:PySem.W.nsIn K mainGlobals "_law_cost"=some (some (.ref f27))) (l27:K.lookup f27=some ⟨oc27,od27,.func (PySem.W.fnOf "_law_cost" "_law_cost" (defArgs sCost) (defBody sCost) (defScope sCost) .none kV27 dc27 pm27 an27 cd27 ct27),sl27⟩) (c27:PySem.W.codeIn K cd27 "_law_cost"=true) (k27:PySem.W.keepIn K (.ref f27)=true)
    (a28:PySem.W.nsIn K mainGlobals "_law_cheapest"=some (some (.ref f28))) (l28:K.lookup f28=some ⟨oc28,od28,.func (PySem.W.fnOf "_law_cheapest" "_law_cheapest" (defArgs sCheap) (defBody sCheap) (defScope sCheap) .none kV28 dc28 pm28 an28 cd28 ct28),sl28⟩) (c28:PySem.W.codeIn K cd28 "_law_cheapest"=true) (k28:PySem.W.keepIn K (.ref f28)=true)
    (a29:PySem.W.nsIn K mainGlobals "_law_whole"=some (some (.ref f29))) (l29:K.lookup f29=some ⟨oc29,od29,.func (PySem.W.fnOf "_law_whole" "_law_whole" (defArgs sWhole) (defBody sWhole) (defScope sWhole) .none kV29 dc29 pm29 an29 cd29 ct29),sl29⟩) (c29:PySem.W.codeIn K cd29 "_law_whole"=true) (k29:PySem.W.keepIn K (.ref f29)=true)
    (a30:PySem.W.nsIn K mainGlobals "_law_refusal"=some (some (.ref f30))) (l30:K.lookup f30=some ⟨oc30,od30,.func (PySem.W.fnOf "_law_refusal" "_law_refusal" (defArgs sRefusal) (defBody sRefusal) (defScope sRefusal) .none kV30 dc30 pm30 an30 cd30 ct30),sl30⟩) (c30:PySem.W.codeIn K cd30 "_law_refusal"=true) (k30:PySem.W.keepIn K (.ref f30)=true)
    (a31:PySem.W.nsIn K mainGlobals "_law_spoilt"=some (some (.ref f31))) (l31:K.lookup f31=some ⟨oc31,od31,.func (PySem.W.fnOf "_law_spoilt" "_law_spoilt" (defArgs sSpoilt) (defBody sSpoilt) (defScope sSpoilt) .none kV31 dc31 pm31 an31 cd31 ct31),sl31⟩) (c31:PySem.W.codeIn K cd31 "_law_spoilt"=true) (k31:PySem.W.keepIn K (.ref f31)=true)
    (a32:PySem.W.nsIn K mainGlobals "_law_due"=some (some (.ref f32))) (l32:K.lookup f32=some ⟨oc32,od32,.func (PySem.W.fnOf "_law_due" "_law_due" (defArgs sDue) (defBody sDue) (defScope sDue) .none kV32 dc32 pm32 an32 cd32 ct32),sl32⟩) (c32:PySem.W.codeIn K cd32 "_law_due"=true) (k32:PySem.W.keepIn K (.ref f32)=true)
    (a33:PySem.W.nsIn K mainGlobals "law"=some (some (.ref f33))) (l33:K.lookup f33=some ⟨oc33,od33,.func (PySem.W.fnOf "law" "law" (defArgs sLaw) (defBody sLaw) (defScope sLaw) .none kV33 dc33 pm33 an33 cd33 ct33),sl33⟩) (c33:PySem.W.codeIn K cd33 "law"=true) (k33:PySem.W.keepIn K (.ref f33)=true)
    (z1:PySem.W.nsIn K mainGlobals "len"=some none)
    (z2:PySem.W.nsIn K mainGlobals "range"=some none)
    (z3:PySem.W.nsIn K mainGlobals "sum"=some none)
    (z4:PySem.W.nsIn K mainGlobals "min"=some none)
    (z5:PySem.W.nsIn K mainGlobals "tuple"=some none)
    (z6:PySem.W.nsIn K mainGlobals "all"=some none)
    (z7:PySem.W.nsIn K mainGlobals "isinstance"=some none)
    (z8:PySem.W.nsIn K mainGlobals "int"=some none)
    (z9:PySem.W.nsIn K mainGlobals "bool"=some none)
    (z10:PySem.W.nsIn K mainGlobals "zip"=some none)
    (z11:PySem.W.nsIn K mainGlobals "ValueError"=some none)
    (z12:PySem.W.nsIn K mainGlobals "list"=some none)
    (z13:PySem.W.nsIn K mainGlobals "enumerate"=some none)
    {DT:Addr} (gDT:PySem.W.nsIn K mainGlobals "TollError"=some (some (.ref DT)))
    (xDT:xcIn K DT=true)
    {TU:Addr} (gTU:PySem.W.nsIn K mainGlobals "Unlike"=some (some (.ref TU)))
    (xTU:xcIn K TU=true)
    (eTU:PySem.W.excIn K TU bmVE newVE=true)
    {TW:Addr} (gTW:PySem.W.nsIn K mainGlobals "BadWord"=some (some (.ref TW)))
    (xTW:xcIn K TW=true)
    (eTW:PySem.W.excIn K TW bmVE newVE=true)
    {TN:Addr} (gTN:PySem.W.nsIn K mainGlobals "NotCheapest"=some (some (.ref TN)))
    (xTN:xcIn K TN=true)
    (eTN:PySem.W.excIn K TN bmVE newVE=true)
    {CP:Addr} (gCP:PySem.W.nsIn K mainGlobals "BadNumber"=some (some (.ref CP)))
    (xCP:xcIn K CP=true)
    {CW:Addr} (gCW:PySem.W.nsIn K mainGlobals "Clash"=some (some (.ref CW)))
    (xCW:xcIn K CW=true)
    {CC:Addr} (gCC:PySem.W.nsIn K mainGlobals "NoThing"=some (some (.ref CC)))
    (xCC:xcIn K CC=true)
    (sTUDT:PySem.W.subIn K (.ref TU) (.ref DT)=some true)
    (sTWDT:PySem.W.subIn K (.ref TW) (.ref DT)=some true)
    (sTNDT:PySem.W.subIn K (.ref TN) (.ref DT)=some true)
    (sTUTW:PySem.W.subIn K (.ref TU) (.ref TW)=some false)
    (sTUTN:PySem.W.subIn K (.ref TU) (.ref TN)=some false)
    (sTUCP:PySem.W.subIn K (.ref TU) (.ref CP)=some false)
    (sTUCW:PySem.W.subIn K (.ref TU) (.ref CW)=some false)
    (sTUCC:PySem.W.subIn K (.ref TU) (.ref CC)=some false)
    (sTWTU:PySem.W.subIn K (.ref TW) (.ref TU)=some false)
    (sTWTN:PySem.W.subIn K (.ref TW) (.ref TN)=some false)
    (sTWCP:PySem.W.subIn K (.ref TW) (.ref CP)=some false)
    (sTWCW:PySem.W.subIn K (.ref TW) (.ref CW)=some false)
    (sTWCC:PySem.W.subIn K (.ref TW) (.ref CC)=some false)
    (sTNTU:PySem.W.subIn K (.ref TN) (.ref TU)=some false)
    (sTNTW:PySem.W.subIn K (.ref TN) (.ref TW)=some false)
    (sTNCP:PySem.W.subIn K (.ref TN) (.ref CP)=some false)
    (sTNCW:PySem.W.subIn K (.ref TN) (.ref CW)=some false)
    (sTNCC:PySem.W.subIn K (.ref TN) (.ref CC)=some false)
    {C:Addr} (gC:PySem.W.nsIn K mainGlobals "Parted"=some (some (.ref C)))
    {qCinit:Addr} (faCinit:PySem.W.findIn K (.ref C) "__init__"=some (some (.ref qCinit)))
    (fiCinit:PySem.W.isFn K (.ref qCinit)=true)
    {oiCinit:Value} {diCinit:Option Addr} {kiCinit:Value} {uiCinit:Value} {miCinit:Value} {niCinit:Option Addr} {viCinit:Value} {tiCinit:Value} {siCinit:Array (Option Value)} (liCinit:K.lookup qCinit=some ⟨oiCinit,diCinit,.func (PySem.W.fnOf "__init__" "Parted.__init__" (defArgs iParted) (defBody iParted) (defScope iParted) .none kiCinit uiCinit miCinit niCinit viCinit tiCinit),siCinit⟩)
    (ciCinit:PySem.W.codeIn K viCinit "Parted.__init__"=true)
    (kkCinit:PySem.W.keepIn K (.ref qCinit)=true)
    {qCput:Addr} (faCput:PySem.W.findIn K (.ref C) "put"=some (some (.ref qCput)))
    (fiCput:PySem.W.isFn K (.ref qCput)=true)
    {oiCput:Value} {diCput:Option Addr} {kiCput:Value} {uiCput:Value} {miCput:Value} {niCput:Option Addr} {viCput:Value} {tiCput:Value} {siCput:Array (Option Value)} (liCput:K.lookup qCput=some ⟨oiCput,diCput,.func (PySem.W.fnOf "put" "Parted.put" (defArgs sPut) (defBody sPut) (defScope sPut) .none kiCput uiCput miCput niCput viCput tiCput),siCput⟩)
    (ciCput:PySem.W.codeIn K viCput "Parted.put"=true)
    (kkCput:PySem.W.keepIn K (.ref qCput)=true)
    {qCleast_sum:Addr} (faCleast_sum:PySem.W.findIn K (.ref C) "least_sum"=some (some (.ref qCleast_sum)))
    (fiCleast_sum:PySem.W.isFn K (.ref qCleast_sum)=true)
    {oiCleast_sum:Value} {diCleast_sum:Option Addr} {kiCleast_sum:Value} {uiCleast_sum:Value} {miCleast_sum:Value} {niCleast_sum:Option Addr} {viCleast_sum:Value} {tiCleast_sum:Value} {siCleast_sum:Array (Option Value)} (liCleast_sum:K.lookup qCleast_sum=some ⟨oiCleast_sum,diCleast_sum,.func (PySem.W.fnOf "least_sum" "Parted.least_sum" (defArgs sLs) (defBody sLs) (defScope sLs) .none kiCleast_sum uiCleast_sum miCleast_sum niCleast_sum viCleast_sum tiCleast_sum),siCleast_sum⟩)
    (ciCleast_sum:PySem.W.codeIn K viCleast_sum "Parted.least_sum"=true)
    (kkCleast_sum:PySem.W.keepIn K (.ref qCleast_sum)=true)
    {qCbound:Addr} (faCbound:PySem.W.findIn K (.ref C) "bound"=some (some (.ref qCbound)))
    (fiCbound:PySem.W.isFn K (.ref qCbound)=true)
    {oiCbound:Value} {diCbound:Option Addr} {kiCbound:Value} {uiCbound:Value} {miCbound:Value} {niCbound:Option Addr} {viCbound:Value} {tiCbound:Value} {siCbound:Array (Option Value)} (liCbound:K.lookup qCbound=some ⟨oiCbound,diCbound,.func (PySem.W.fnOf "bound" "Parted.bound" (defArgs sBound) (defBody sBound) (defScope sBound) .none kiCbound uiCbound miCbound niCbound viCbound tiCbound),siCbound⟩)
    (ciCbound:PySem.W.codeIn K viCbound "Parted.bound"=true)
    (kkCbound:PySem.W.keepIn K (.ref qCbound)=true)
    {qCbound_row:Addr} (faCbound_row:PySem.W.findIn K (.ref C) "bound_row"=some (some (.ref qCbound_row)))
    (fiCbound_row:PySem.W.isFn K (.ref qCbound_row)=true)
    {oiCbound_row:Value} {diCbound_row:Option Addr} {kiCbound_row:Value} {uiCbound_row:Value} {miCbound_row:Value} {niCbound_row:Option Addr} {viCbound_row:Value} {tiCbound_row:Value} {siCbound_row:Array (Option Value)} (liCbound_row:K.lookup qCbound_row=some ⟨oiCbound_row,diCbound_row,.func (PySem.W.fnOf "bound_row" "Parted.bound_row" (defArgs sBrow) (defBody sBrow) (defScope sBrow) .none kiCbound_row uiCbound_row miCbound_row niCbound_row viCbound_row tiCbound_row),siCbound_row⟩)
    (ciCbound_row:PySem.W.codeIn K viCbound_row "Parted.bound_row"=true)
    (kkCbound_row:PySem.W.keepIn K (.ref qCbound_row)=true)
    {qCbounds:Addr} (faCbounds:PySem.W.findIn K (.ref C) "bounds"=some (some (.ref qCbounds)))
    (fiCbounds:PySem.W.isFn K (.ref qCbounds)=true)
    {oiCbounds:Value} {diCbounds:Option Addr} {kiCbounds:Value} {uiCbounds:Value} {miCbounds:Value} {niCbounds:Option Addr} {viCbounds:Value} {tiCbounds:Value} {siCbounds:Array (Option Value)} (liCbounds:K.lookup qCbounds=some ⟨oiCbounds,diCbounds,.func (PySem.W.fnOf "bounds" "Parted.bounds" (defArgs sBounds) (defBody sBounds) (defScope sBounds) .none kiCbounds uiCbounds miCbounds niCbounds viCbounds tiCbounds),siCbounds⟩)
    (ciCbounds:PySem.W.codeIn K viCbounds "Parted.bounds"=true)
    (kkCbounds:PySem.W.keepIn K (.ref qCbounds)=true)
    {qCways:Addr} (faCways:PySem.W.findIn K (.ref C) "ways"=some (some (.ref qCways)))
    (fiCways:PySem.W.isFn K (.ref qCways)=true)
    {oiCways:Value} {diCways:Option Addr} {kiCways:Value} {uiCways:Value} {miCways:Value} {niCways:Option Addr} {viCways:Value} {tiCways:Value} {siCways:Array (Option Value)} (liCways:K.lookup qCways=some ⟨oiCways,diCways,.func (PySem.W.fnOf "ways" "Parted.ways" (defArgs sWays) (defBody sWays) (defScope sWays) .none kiCways uiCways miCways niCways viCways tiCways),siCways⟩)
    (ciCways:PySem.W.codeIn K viCways "Parted.ways"=true)
    (kkCways:PySem.W.keepIn K (.ref qCways)=true)
    (pgC:PySem.W.plainGet K C Str.empty=true)
    (hdC:PySem.W.hasDictIn K C=true)
    (poC:PySem.W.plainOver K C=true)
    (saC:PySem.W.findIn K (.ref C) "__setattr__"=some (some (.builtin "object.__setattr__")))
    (mkC:PySem.W.makesIn K C=true)
    (kcC:PySem.W.keepIn K (.ref C)=true)
    (naCprices:PySem.W.findIn K (.ref C) "prices"=some none)
    (naCthings:PySem.W.findIn K (.ref C) "things"=some none)
    (naCsums:PySem.W.findIn K (.ref C) "sums"=some none)
    (naCheads:PySem.W.findIn K (.ref C) "heads"=some none)
    (naCtails:PySem.W.findIn K (.ref C) "tails"=some none)
    {D:Addr} (gD:PySem.W.nsIn K mainGlobals "Counts"=some (some (.ref D)))
    {qDinit:Addr} (faDinit:PySem.W.findIn K (.ref D) "__init__"=some (some (.ref qDinit)))
    (fiDinit:PySem.W.isFn K (.ref qDinit)=true)
    {oiDinit:Value} {diDinit:Option Addr} {kiDinit:Value} {uiDinit:Value} {miDinit:Value} {niDinit:Option Addr} {viDinit:Value} {tiDinit:Value} {siDinit:Array (Option Value)} (liDinit:K.lookup qDinit=some ⟨oiDinit,diDinit,.func (PySem.W.fnOf "__init__" "Counts.__init__" (defArgs iCounts) (defBody iCounts) (defScope iCounts) .none kiDinit uiDinit miDinit niDinit viDinit tiDinit),siDinit⟩)
    (ciDinit:PySem.W.codeIn K viDinit "Counts.__init__"=true)
    (kkDinit:PySem.W.keepIn K (.ref qDinit)=true)
    {qDput_counts:Addr} (faDput_counts:PySem.W.findIn K (.ref D) "put_counts"=some (some (.ref qDput_counts)))
    (fiDput_counts:PySem.W.isFn K (.ref qDput_counts)=true)
    {oiDput_counts:Value} {diDput_counts:Option Addr} {kiDput_counts:Value} {uiDput_counts:Value} {miDput_counts:Value} {niDput_counts:Option Addr} {viDput_counts:Value} {tiDput_counts:Value} {siDput_counts:Array (Option Value)} (liDput_counts:K.lookup qDput_counts=some ⟨oiDput_counts,diDput_counts,.func (PySem.W.fnOf "put_counts" "Counts.put_counts" (defArgs sPutC) (defBody sPutC) (defScope sPutC) .none kiDput_counts uiDput_counts miDput_counts niDput_counts viDput_counts tiDput_counts),siDput_counts⟩)
    (ciDput_counts:PySem.W.codeIn K viDput_counts "Counts.put_counts"=true)
    (kkDput_counts:PySem.W.keepIn K (.ref qDput_counts)=true)
    {qDover_ways:Addr} (faDover_ways:PySem.W.findIn K (.ref D) "over_ways"=some (some (.ref qDover_ways)))
    (fiDover_ways:PySem.W.isFn K (.ref qDover_ways)=true)
    {oiDover_ways:Value} {diDover_ways:Option Addr} {kiDover_ways:Value} {uiDover_ways:Value} {miDover_ways:Value} {niDover_ways:Option Addr} {viDover_ways:Value} {tiDover_ways:Value} {siDover_ways:Array (Option Value)} (liDover_ways:K.lookup qDover_ways=some ⟨oiDover_ways,diDover_ways,.func (PySem.W.fnOf "over_ways" "Counts.over_ways" (defArgs sOver) (defBody sOver) (defScope sOver) .none kiDover_ways uiDover_ways miDover_ways niDover_ways viDover_ways tiDover_ways),siDover_ways⟩)
    (ciDover_ways:PySem.W.codeIn K viDover_ways "Counts.over_ways"=true)
    (kkDover_ways:PySem.W.keepIn K (.ref qDover_ways)=true)
    {qDby_way:Addr} (faDby_way:PySem.W.findIn K (.ref D) "by_way"=some (some (.ref qDby_way)))
    (fiDby_way:PySem.W.isFn K (.ref qDby_way)=true)
    {oiDby_way:Value} {diDby_way:Option Addr} {kiDby_way:Value} {uiDby_way:Value} {miDby_way:Value} {niDby_way:Option Addr} {viDby_way:Value} {tiDby_way:Value} {siDby_way:Array (Option Value)} (liDby_way:K.lookup qDby_way=some ⟨oiDby_way,diDby_way,.func (PySem.W.fnOf "by_way" "Counts.by_way" (defArgs sBy) (defBody sBy) (defScope sBy) .none kiDby_way uiDby_way miDby_way niDby_way viDby_way tiDby_way),siDby_way⟩)
    (ciDby_way:PySem.W.codeIn K viDby_way "Counts.by_way"=true)
    (kkDby_way:PySem.W.keepIn K (.ref qDby_way)=true)
    (pgD:PySem.W.plainGet K D Str.empty=true)
    (hdD:PySem.W.hasDictIn K D=true)
    (poD:PySem.W.plainOver K D=true)
    (saD:PySem.W.findIn K (.ref D) "__setattr__"=some (some (.builtin "object.__setattr__")))
    (mkD:PySem.W.makesIn K D=true)
    (kcD:PySem.W.keepIn K (.ref D)=true)
    (naDparted:PySem.W.findIn K (.ref D) "parted"=some none)
    (naDletters:PySem.W.findIn K (.ref D) "letters"=some none)
    (naDcodes:PySem.W.findIn K (.ref D) "codes"=some none)
    (naDtails:PySem.W.findIn K (.ref D) "tails"=some none) :
    ∃ fd:FuncData,(∀ (s:Shared) (v:Value),BindsTo s fd ⟨[v],[]⟩ [("script",v)])∧∀ base:Heap,K.In base→base.Ns mainGlobals mg→FnOk l.prog w K mg base CX0 27 fa fd ["script"] (spLaw K):=by
  have e:=hfa.symm.trans (PySem.W.mg_of X G a33)
  cases e
  have F1:=fun_mk (st:=sSums) l1 c1 k1
  have m1:=PySem.W.mg_of X G a1
  have b1:=F1.binds (ps:=["weights"]) fun _ _ _ _ _ _=>al1 fun _=>rfl
  have F2:=fun_mk (st:=sRow) l2 c2 k2
  have m2:=PySem.W.mg_of X G a2
  have b2:=F2.binds (ps:=["side","at","number"]) fun _ _ _ _ _ _=>al3 fun _ _ _=>rfl
  have F3:=fun_mk (st:=sSquare) l3 c3 k3
  have m3:=PySem.W.mg_of X G a3
  have b3:=F3.binds (ps:=["side","diagonal"]) fun _ _ _ _ _ _=>al2 fun _ _=>rfl
  have F4:=fun_mk (st:=sLeast) l4 c4 k4
  have m4:=PySem.W.mg_of X G a4
  have b4:=F4.binds (ps:=["numbers"]) fun _ _ _ _ _ _=>al1 fun _=>rfl
  have F5:=fun_mk (st:=sAdded) l5 c5 k5
  have m5:=PySem.W.mg_of X G a5
  have b5:=F5.binds (ps:=["one","other"]) fun _ _ _ _ _ _=>al2 fun _ _=>rfl
  have F6:=fun_mk (st:=sPl) l6 c6 k6
  have m6:=PySem.W.mg_of X G a6
  have b6:=F6.binds (ps:=["prices","weights"]) fun _ _ _ _ _ _=>al2 fun _ _=>rfl
  have F7:=fun_mk (st:=sAlone) l7 c7 k7
  have m7:=PySem.W.mg_of X G a7
  have b7:=F7.binds (ps:=["word","letters"]) fun _ _ _ _ _ _=>al2 fun _ _=>rfl
  have F8:=fun_mk (st:=sPPrice) l8 c8 k8
  have m8:=PySem.W.mg_of X G a8
  have b8:=F8.binds (ps:=["prices","word"]) fun _ _ _ _ _ _=>al2 fun _ _=>rfl
  have F9:=fun_mk (st:=sBegins) l9 c9 k9
  have m9:=PySem.W.mg_of X G a9
  have b9:=F9.binds (ps:=["one","other"]) fun _ _ _ _ _ _=>al2 fun _ _=>rfl
  have F10:=fun_mk (st:=sClash) l10 c10 k10
  have m10:=PySem.W.mg_of X G a10
  have b10:=F10.binds (ps:=["code"]) fun _ _ _ _ _ _=>al1 fun _=>rfl
  have F11:=fun_mk (st:=sRises) l11 c11 k11
  have m11:=PySem.W.mg_of X G a11
  have b11:=F11.binds (ps:=["code"]) fun _ _ _ _ _ _=>al1 fun _=>rfl
  have F12:=fun_mk (st:=sIsKept) l12 c12 k12
  have m12:=PySem.W.mg_of X G a12
  have b12:=F12.binds (ps:=["code"]) fun _ _ _ _ _ _=>al1 fun _=>rfl
  have F13:=fun_mk (st:=sPCost) l13 c13 k13
  have m13:=PySem.W.mg_of X G a13
  have b13:=F13.binds (ps:=["prices","weights","code"]) fun _ _ _ _ _ _=>al3 fun _ _ _=>rfl
  have F14:=fun_mk (st:=sLf) l14 c14 k14
  have m14:=PySem.W.mg_of X G a14
  have b14:=F14.binds (ps:=["prices","weights"]) fun _ _ _ _ _ _=>al2 fun _ _=>rfl
  have F15:=fun_mk (st:=sIck) l15 c15 k15
  have m15:=PySem.W.mg_of X G a15
  have b15:=F15.binds (ps:=["prices","weights","code"]) fun _ _ _ _ _ _=>al3 fun _ _ _=>rfl
  have F16:=fun_mk (st:=sNo) l16 c16 k16
  have m16:=PySem.W.mg_of X G a16
  have b16:=F16.binds (ps:=["prices","weights","code"]) fun _ _ _ _ _ _=>al3 fun _ _ _=>rfl
  have F17:=fun_mk (st:=sNw) l17 c17 k17
  have m17:=PySem.W.mg_of X G a17
  have b17:=F17.binds (ps:=["counts","code","first","end","size"]) fun _ _ _ _ _ _=>al5 fun _ _ _ _ _=>rfl
  have F18:=fun_mk (st:=sNt) l18 c18 k18
  have m18:=PySem.W.mg_of X G a18
  have b18:=F18.binds (ps:=["counts","code","letter","first","end","size"]) fun _ _ _ _ _ _=>al6 fun _ _ _ _ _ _=>rfl
  have F19:=fun_mk (st:=sWo) l19 c19 k19
  have m19:=PySem.W.mg_of X G a19
  have b19:=F19.binds (ps:=["code","first","end","size"]) fun _ _ _ _ _ _=>al4 fun _ _ _ _=>rfl
  have F20:=fun_mk (st:=sCell) l20 c20 k20
  have m20:=PySem.W.mg_of X G a20
  have b20:=F20.binds (ps:=["script","k"]) fun _ _ _ _ _ _=>al2 fun _ _=>rfl
  have F21:=fun_mk (st:=sNumber) l21 c21 k21
  have m21:=PySem.W.mg_of X G a21
  have b21:=F21.binds (ps:=["cell","way"]) fun _ _ _ _ _ _=>al2 fun _ _=>rfl
  have F22:=fun_mk (st:=sNumbers) l22 c22 k22
  have m22:=PySem.W.mg_of X G a22
  have b22:=F22.binds (ps:=["script","at","many","way"]) fun _ _ _ _ _ _=>al4 fun _ _ _ _=>rfl
  have F23:=fun_mk (st:=sInput) l23 c23 k23
  have m23:=PySem.W.mg_of X G a23
  have b23:=F23.binds (ps:=["script"]) fun _ _ _ _ _ _=>al1 fun _=>rfl
  have F24:=fun_mk (st:=sRows) l24 c24 k24
  have m24:=PySem.W.mg_of X G a24
  have b24:=F24.binds (ps:=["codes","rows","many","low","letters","most"]) fun _ _ _ _ _ _=>al6 fun _ _ _ _ _ _=>rfl
  have F25:=fun_mk (st:=sCodes) l25 c25 k25
  have m25:=PySem.W.mg_of X G a25
  have b25:=F25.binds (ps:=["things","letters"]) fun _ _ _ _ _ _=>al2 fun _ _=>rfl
  have F26:=fun_mk (st:=sPrice) l26 c26 k26
  have m26:=PySem.W.mg_of X G a26
  have b26:=F26.binds (ps:=["prices","word"]) fun _ _ _ _ _ _=>al2 fun _ _=>rfl
  have F27:=fun_mk (st:=sCost) l27 c27 k27
  have m27:=PySem.W.mg_of X G a27
  have b27:=F27.binds (ps:=["prices","weights","code"]) fun _ _ _ _ _ _=>al3 fun _ _ _=>rfl
  have F28:=fun_mk (st:=sCheap) l28 c28 k28
  have m28:=PySem.W.mg_of X G a28
  have b28:=F28.binds (ps:=["prices","weights"]) fun _ _ _ _ _ _=>al2 fun _ _=>rfl
  have F29:=fun_mk (st:=sWhole) l29 c29 k29
  have m29:=PySem.W.mg_of X G a29
  have b29:=F29.binds (ps:=["found"]) fun _ _ _ _ _ _=>al1 fun _=>rfl
  have F30:=fun_mk (st:=sRefusal) l30 c30 k30
  have m30:=PySem.W.mg_of X G a30
  have b30:=F30.binds (ps:=["prices","weights","code"]) fun _ _ _ _ _ _=>al3 fun _ _ _=>rfl
  have F31:=fun_mk (st:=sSpoilt) l31 c31 k31
  have m31:=PySem.W.mg_of X G a31
  have b31:=F31.binds (ps:=["code","letters","cell"]) fun _ _ _ _ _ _=>al3 fun _ _ _=>rfl
  have F32:=fun_mk (st:=sDue) l32 c32 k32
  have m32:=PySem.W.mg_of X G a32
  have b32:=F32.binds (ps:=["code","things","letters","cheapest"]) fun _ _ _ _ _ _=>al4 fun _ _ _ _=>rfl
  have F33:=fun_mk (st:=sLaw) l33 c33 k33
  have m33:=PySem.W.mg_of X G a33
  have B_len:=PySem.W.mg_none_of X G z1
  have B_range:=PySem.W.mg_none_of X G z2
  have B_sum:=PySem.W.mg_none_of X G z3
  have B_min:=PySem.W.mg_none_of X G z4
  have B_tuple:=PySem.W.mg_none_of X G z5
  have B_all:=PySem.W.mg_none_of X G z6
  have B_isinstance:=PySem.W.mg_none_of X G z7
  have B_int:=PySem.W.mg_none_of X G z8
  have B_bool:=PySem.W.mg_none_of X G z9
  have B_zip:=PySem.W.mg_none_of X G z10
  have B_ValueError:=PySem.W.mg_none_of X G z11
  have B_list:=PySem.W.mg_none_of X G z12
  have B_enumerate:=PySem.W.mg_none_of X G z13
  refine ⟨PySem.W.fnOf "law" "law" (defArgs sLaw) (defBody sLaw) (defScope sLaw) .none kV33 dc33 pm33 an33 cd33 ct33,fun s v=>.of_eq rfl,fun base _ _=>?_⟩
  have rc:PC K C:=⟨⟨pgC,hdC,poC,saC⟩,naCprices,naCthings,naCsums,naCheads,naCtails⟩
  have rd:DC K D:=⟨⟨pgD,hdD,poD,saD⟩,naDparted,naDletters,naDcodes,naDtails⟩
  have FI:=fun_mk (st:=iParted) liCinit ciCinit kkCinit
  have bI:=FI.binds (ps:=["self","prices","weights"]) fun _ _ _ _ _ _=>al3 fun _ _ _=>rfl
  have FP:=fun_mk (st:=sPut) liCput ciCput kkCput
  have bP:=FP.binds (ps:=["self","first","end","floor"]) fun _ _ _ _ _ _=>al4 fun _ _ _ _=>rfl
  have FL:=fun_mk (st:=sLs) liCleast_sum ciCleast_sum kkCleast_sum
  have bL:=FL.binds (ps:=["self","letter","first","end","last"]) fun _ _ _ _ _ _=>al5 fun _ _ _ _ _=>rfl
  have FB:=fun_mk (st:=sBound) liCbound ciCbound kkCbound
  have bB:=FB.binds (ps:=["self","first","end"]) fun _ _ _ _ _ _=>al3 fun _ _ _=>rfl
  have FW:=fun_mk (st:=sWays) liCways ciCways kkCways
  have bW:=FW.binds (ps:=["self","letter","first","end"]) fun _ _ _ _ _ _=>al4 fun _ _ _ _=>rfl
  have FJ:=fun_mk (st:=iCounts) liDinit ciDinit kkDinit
  have bJ:=FJ.binds (ps:=["self","prices","weights"]) fun _ _ _ _ _ _=>al3 fun _ _ _=>rfl
  have FQ:=fun_mk (st:=sPutC) liDput_counts ciDput_counts kkDput_counts
  have bQ:=FQ.binds (ps:=["self","first","end"]) fun _ _ _ _ _ _=>al3 fun _ _ _=>rfl
  have FO:=fun_mk (st:=sOver) liDover_ways ciDover_ways kkDover_ways
  have bO:=FO.binds (ps:=["self","letter","first","end"]) fun _ _ _ _ _ _=>al4 fun _ _ _ _=>rfl
  have FY:=fun_mk (st:=sBy) liDby_way ciDby_way kkDby_way
  have bY:=FY.binds (ps:=["self","way","first","end"]) fun _ _ _ _ _ _=>al4 fun _ _ _ _=>rfl
  have FR:=fun_mk (st:=sBrow) liCbound_row ciCbound_row kkCbound_row
  have bR:=FR.binds (ps:=["self","first"]) fun _ _ _ _ _ _=>al2 fun _ _=>rfl
  have FS:=fun_mk (st:=sBounds) liCbounds ciCbounds kkCbounds
  have bS:=FS.binds (ps:=["self"]) fun _ _ _ _ _ _=>al1 fun _=>rfl
  have B1:Fns l.prog w K mg base ["weights"] "weight_sums" spSums 2:=⟨_,_,(ok_sums F1).mono (by decide),b1,k1,m1⟩
  have B2:Fns l.prog w K mg base ["side","at","number"] "row_with" spRow 1:=⟨_,_,ok_row F2,b2,k2,m2⟩
  have B3:Fns l.prog w K mg base ["side","diagonal"] "square" spSquare 2:=⟨_,_,ok_square F3 (B2.up (by decide)) B_range,b3,k3,m3⟩
  have B4:Fns l.prog w K mg base ["numbers"] "least" spLeast 1:=⟨_,_,ok_least F4 B_min,b4,k4,m4⟩
  have B5:Fns l.prog w K mg base ["one","other"] "added" spAdded 1:=⟨_,_,ok_added F5,b5,k5,m5⟩
  have ML:Mt l.prog w K mg base C "least_sum" ["self","letter","first","end","last"] (spLs C) 2:=⟨_,_,⟨faCleast_sum,fiCleast_sum,kkCleast_sum⟩,ok_ls FL B4 B5 rc B_range,bL⟩
  have MB:Mt l.prog w K mg base C "bound" ["self","first","end"] (spBound C) 3:=⟨_,_,⟨faCbound,fiCbound,kkCbound⟩,ok_bound FB (B4.up (by decide)) ML rc B_len B_range,bB⟩
  have MP:Mt l.prog w K mg base C "put" ["self","first","end","floor"] (spPut C) 3:=⟨_,_,⟨faCput,fiCput,kkCput⟩,ok_put FP (B4.up (by decide)) (B5.up (by decide)) ML rc B_len B_range,bP⟩
  have MW:Mt l.prog w K mg base C "ways" ["self","letter","first","end"] (spWays C) 3:=⟨_,_,⟨faCways,fiCways,kkCways⟩,ok_ways FW (B5.up (by decide)) rc B_len B_range,bW⟩
  have MY:Mt l.prog w K mg base D "by_way" NBy (spBy D) 3:=⟨_,_,⟨faDby_way,fiDby_way,kkDby_way⟩,(ok_by FY rd).mono (by decide),bY⟩
  have MO:Mt l.prog w K mg base D "over_ways" NOv (spOver C D) 4:=⟨_,_,⟨faDover_ways,fiDover_ways,kkDover_ways⟩,ok_over FO MW MY rc rd B_sum,bO⟩
  have MC:Mt l.prog w K mg base D "put_counts" ["self","first","end"] (spPutC C D) 5:=⟨_,_,⟨faDput_counts,fiDput_counts,kkDput_counts⟩,ok_putc FQ MO rd B_range,bQ⟩
  have cl:Cl l.prog w K mg base C:=⟨rc,PySem.W.mg_of X G gC,_,_,⟨mkC,faCinit,fiCinit,kcC⟩,ok_pinit FI B1 B3 rc B_len B_range,bI⟩
  have B6:Fns l.prog w K mg base ["prices","weights"] "parted_least" (spPl C) 5:=⟨_,_,ok_pl F6 cl (MP.up (by decide)) (MB.up (by decide)) B_len B_range,b6,k6,m6⟩
  have cd:ClC l.prog w K mg base C D:=⟨rd,PySem.W.mg_of X G gD,_,_,⟨mkD,faDinit,fiDinit,kcD⟩,ok_cinit FJ B6 (B3.up (by decide)) MC rd B_len B_range,bJ⟩
  have MR:Mt l.prog w K mg base C "bound_row" ["self","first"] (Kp.spBrow C) 4:=⟨_,_,⟨faCbound_row,fiCbound_row,kkCbound_row⟩,Kp.ok_brow FR MB rc B_range,bR⟩
  have MS:Mt l.prog w K mg base C "bounds" ["self"] (Kp.spBounds C) 5:=⟨_,_,⟨faCbounds,fiCbounds,kkCbounds⟩,Kp.ok_bounds FS MR rc B_range,bS⟩
  have xDT:=XC.of xDT
  have xTU:=XC.of xTU
  have xTW:=XC.of xTW
  have xTN:=XC.of xTN
  have xCP:=XC.of xCP
  have xCW:=XC.of xCW
  have xCC:=XC.of xCC
  have cc:Kp.Cl3 K mg DT TU TW TN CP CW CC:=⟨PySem.W.mg_of X G gDT,PySem.W.mg_of X G gTU,PySem.W.mg_of X G gTW,PySem.W.mg_of X G gTN,PySem.W.mg_of X G gCP,PySem.W.mg_of X G gCW,PySem.W.mg_of X G gCC,B_ValueError,xDT,xTU,xTW,xTN,xCP,xCW,xCC,⟨eTU⟩,⟨eTW⟩,⟨eTN⟩,sTUDT,sTWDT,sTNDT,sTUTW,sTUTN,sTUCP,sTUCW,sTUCC,sTWTU,sTWTN,sTWCP,sTWCW,sTWCC,sTNTU,sTNTW,sTNCP,sTNCW,sTNCC⟩
  have B7:Fns l.prog w K mg base ["word","letters"] "has_letters_alone" Kp.spAlone 1:=⟨_,_,Kp.ok_alone F7 B_all,b7,k7,m7⟩
  have B8:Fns' l.prog w K mg base ["prices","word"] "word_price" (Kp.spPrice TW) 2:=⟨_,_,Kp.ok_price F8 B7 B_len B_sum cc.gT cc.eT,b8,k8,m8⟩
  have B9:Fns l.prog w K mg base ["one","other"] "begins" Kp.spBegins 1:=⟨_,_,Kp.ok_begins F9 B_len,b9,k9,m9⟩
  have B10:Fns l.prog w K mg base ["code"] "clash" Kp.spClash 2:=⟨_,_,Kp.ok_clash F10 B9 B_len B_range,b10,k10,m10⟩
  have B11:Fns l.prog w K mg base ["code"] "rises" Kp.spRises 2:=⟨_,_,(Kp.ok_rises F11 B_len B_range B_all).mono (by decide),b11,k11,m11⟩
  have B12:Fns l.prog w K mg base ["code"] "is_kept" Kp.spKept 3:=⟨_,_,Kp.ok_kept F12 B11 B10,b12,k12,m12⟩
  have B13:Fns' l.prog w K mg base ["prices","weights","code"] "cost" (Kp.spCost TU TW) 3:=⟨_,_,Kp.ok_cost F13 B8 B_len B_sum B_zip cc.gB cc.eB,b13,k13,m13⟩
  have B14:Fns l.prog w K mg base ["prices","weights"] "least_floors" Kp.spLf 6:=⟨_,_,Kp.ok_lf F14 B6 MS rc,b14,k14,m14⟩
  have B15:Fns' l.prog w K mg base ["prices","weights","code"] "is_cheapest_kept" (Kp.spIck TU TW) 7:=⟨_,_,Kp.ok_ick F15 (B13.up (by decide)) B14 (B12.up (by decide)),b15,k15,m15⟩
  have B19:Fns l.prog w K mg base ["code","first","end","size"] "way_of" Kp.spWo 1:=⟨_,_,Kp.ok_wo F19,b19,k19,m19⟩
  have OWT:=Kp.ok_nwt (C:=C) (D:=D) F17 F18 m17 k17 b17 m18 k18 b18 (B19.up (by decide)) MW MY rc rd B_sum 20
  have B17:Fns l.prog w K mg base ["counts","code","first","end","size"] "number_of_words" (Kp.spNw C D 20) 24:=⟨_,_,OWT.1,b17,k17,m17⟩
  have B16:Fns' l.prog w K mg base ["prices","weights","code"] "number_of" (Kp.spNo TU TW TN) 25:=⟨_,_,Kp.ok_no F16 (B15.up (by decide)) cd B17 B_len cc.gN cc.eN,b16,k16,m16⟩
  have B20:Fns l.prog w K mg base ["script","k"] "_law_cell" (spCell K) 1:=⟨_,_,ok_cell F20 B_len,b20,k20,m20⟩
  have B21:Fns l.prog w K mg base ["cell","way"] "_law_number" spNumber 1:=⟨_,_,ok_number F21,b21,k21,m21⟩
  have B22:Fns l.prog w K mg base ["script","at","many","way"] "_law_numbers" (spNumbers K) 2:=⟨_,_,ok_numbers F22 B20 B21 B_range B_tuple,b22,k22,m22⟩
  have B23:Fns l.prog w K mg base ["script"] "_law_input" (spInput K) 26:=⟨_,_,(ok_input F23 (B20.up (by decide)) B22).mono (by decide),b23,k23,m23⟩
  have B24:Fns l.prog w K mg base ["codes","rows","many","low","letters","most"] "_law_rows" spRows 1:=⟨_,_,ok_rows F24 B_range,b24,k24,m24⟩
  have B25:Fns l.prog w K mg base ["things","letters"] "_law_codes" spCodes 2:=⟨_,_,ok_codes F25 B24 B_range B_tuple,b25,k25,m25⟩
  have B26:Fns l.prog w K mg base ["prices","word"] "_law_price" spPrice 1:=⟨_,_,ok_price F26 B_sum,b26,k26,m26⟩
  have B27:Fns l.prog w K mg base ["prices","weights","code"] "_law_cost" spCost 2:=⟨_,_,ok_cost F27 B26 B_sum B_zip,b27,k27,m27⟩
  have B28:Fns l.prog w K mg base ["prices","weights"] "_law_cheapest" spCheap 26:=⟨_,_,(ok_cheap F28 B25 B27 B_len B_min B_zip).mono (by decide),b28,k28,m28⟩
  have B29:Fns l.prog w K mg base ["found"] "_law_whole" Kp.spWhole 1:=⟨_,_,Kp.ok_whole F29 B_isinstance B_int B_bool,b29,k29,m29⟩
  have B30:Fns l.prog w K mg base ["prices","weights","code"] "_law_refusal" Kp.spRf 26:=⟨_,_,Kp.ok_rf F30 B16 cc B_isinstance B_enumerate,b30,k30,m30⟩
  have B31:Fns l.prog w K mg base ["code","letters","cell"] "_law_spoilt" Kp.spSp 1:=⟨_,_,Kp.ok_sp F31 B_len B_list B_tuple,b31,k31,m31⟩
  have B32:Fns l.prog w K mg base ["code","things","letters","cheapest"] "_law_due" Kp.spDu 1:=⟨_,_,Kp.ok_du F32 B_len,b32,k32,m32⟩
  exact Kp.ok_law F33 (B23.up (by decide)) (B25.up (by decide)) (B28.up (by decide)) (B20.up (by decide)) (B31.up (by decide)) B30 (B32.up (by decide)) (B16.up (by decide)) (B29.up (by decide)) B_len B_range
theorem walk {l:PySem.W.OpenLaw} {q:Program} {loose:List Str} {XP:(Str→Option Value)→Heap→Prop} {YP:World→Heap→Prop} {d:DefRec} {K:Params→PySem.W.Frag} (hn:l.most=some 63) (hdf:d.params.defaults=[])
    (hY:∀ (w:World) (h:Heap),YP w h→(K w.params).In h)
    (F:∀ (w:World) (mg:Str→Option Value) (fa:Addr) (h:Heap),(K w.params).In h→h.Ns mainGlobals mg→mg d.name=some (.ref fa) →
      ∃ fd:FuncData,(∀ (s:Shared) (u:Value),BindsTo s fd ⟨[u],[]⟩ [("script",u)])∧∀ base:Heap,(K w.params).In base→base.Ns mainGlobals mg→FnOk l.prog w (K w.params) mg base CX0 27 fa fd ["script"] (spLaw (K w.params))) :
    PySem.W.WalkO q loose XP YP l.row.toRowW d [] (fun f vs=>PySem.call f vs) :=
  L2.walk_of (n:=63) (k:=27) (x:="script") (CX:=fun _=>CX0) (sp:=fun w=>spLaw (K w.params)) hn (by decide) hdf ⟨rfl,by decide,by decide⟩ hY F (fun _ _ a ns hl _ hS=>⟨a,ns,rfl,hS,hl,fun _=>rfl⟩) fun _ _ _ _ _ z=>z
end K53
namespace PySem.W.Fast
def tw11187433328004478986:=0
def tw17453220349186834677:=0
def tw6325046781528215417:=0
def tw4849564711671298132:=0
def tw13147800820960954127:=0
def tw10733906606258112272:=0
def tw8341121858062077137:=0
def tw15863443257533753558:=0
def tw7708528215769699644:=0
def tw3167300641688357196:=0
def tw8529483224714842979:=0
def tw2823602412698303866:=0
def tw4424836701022381879:=0
def tw12558675649658413359:=0
def tw9841574568365659808:=0
def tw7485020739026652576:=0
def tw14811437898952959203:=0
def tw2473589204931933203:=0
def tw18163538957135002913:=0
def tw13499341678145426551:=0
def tw2766755823076816251:=0
def tw14375145316015822445:=0
def tw14772762123496698664:=0
def tw5437913045776979937:=0
def tw3790702509995369598:=0
def tw2595803178948711670:=0
def tw16657099035853551390:=0
def tw12386972816671799015:=0
def tw14387896930398278297:=0
def tw4006607358740944337:=0
def tw12149352107393174350:=0
def tw17929516252535196489:=0
def tw8725765957321326677:=0
def tw702205668880140030:=0
def tw14912427561051597843:=0
def tw6731862649993766995:=0
def tw218041960932546593:=0
def tw6338016811533456684:=0
def tw15805344066655211058:=0
def tw13572880220798945550:=0
def tw3641653855967418240:=0
def tw10600418995077472134:=0
def tw18005201214926953231:=0
def tw13808590645990558343:=0
def tw13199785347576658835:=0
def tw16360997700203631638:=0
def tw11242420712301863774:=0
def tw3906469022797782574:=0
def tw14243457157337247424:=0
def tw4644982908868954965:=0
def tw11658935797200865807:=0
def tw731965522325654689:=0
def tw13443994769938474973:=0
def tw4460857863981437205:=0
def tw14242535736593061207:=0
def tw13551283859420817840:=0
def tw11630816321173981415:=0
def tw10336299237236650041:=0
def tw16373960646072834229:=0
def tw10771195003697571561:=0
def tw10038737305110810228:=0
def tw4921154514179491039:=0
def tw16591047516909967016:=0
def tw13895666267708903444:=0
def tw14343568518090871824:=0
def tw15711382360399802961:=0
def tw10861564253652001546:=0
def tw8754379834791884932:=0
def tw10545393920855407089:=0
def tw9474035376317169946:=0
def tw6474830644961901429:=0
def tw12709299596087351832:=0
def tw18043100189129146749:=0
def tw16787567332231698594:=0
def tw16232089348858063316:=0
def tw2770146298981146200:=0
def tw7186331350641150739:=0
def tw16234270926531519479:=0
def tw5873588849366278187:=0
def tw5873383406205770235:=0
def tw9467427218371860866:=0
def tw6383364266260580687:=0
def tw4021115504600928652:=0
def tw10517487520432854217:=0
def tw15630488361939303173:=0
def tw14953222443450263947:=0
def tw8049789688422032608:=0
def tw9398947005749559432:=0
def tw1298679908028102578:=0
def tw3974465495266185633:=0
def tw8567658916526628206:=0
def tw6728881639135168953:=0
def tw2102507816812599022:=0
def tw4711133898153588795:=0
def tw7792778394419368481:=0
def tw8602109276735583454:=0
def tw1056567083082464818:=0
def tw8224667454460380441:=0
def tw13993890753592535470:=0
def tw12731813781329502740:=0
def tw12322739685248396172:=0
def tw928372193852396313:=0
def tw5856897313811167946:=0
def tw5646115180113605492:=0
def tw730683586039002883:=0
def tw17562884884314871092:=0
def tw9177459430724824869:=0
def tw11741762202231513814:=0
def tw15530028379251255189:=0
def tw2994346538436723945:=0
def tw9841916510567526195:=0
def tw1797982381070941544:=0
def tw8025640760785316081:=0
def tw17392274731698201928:=0
def tw12718080237855052503:=0
end PySem.W.Fast
open PySem PySem.W PyProof.Rows
set_option maxRecDepth 100000 in
set_option maxHeartbeats 0 in
theorem PySem.Challenge.cw_lettertoll_k53_numbers_of_codes_holds : PySem.Challenge.rw_lettertoll_k53_numbers_of_codes.Holds := by
  w_on;o_law;k_head;(case hw=>w_witness2)
  k_fill
  refine K53.walk (l:=PySem.Challenge.rw_lettertoll_k53_numbers_of_codes) rfl rfl (fun w h Y=>PySem.W.kIn_of Y) ?F
  case F =>
    intro w mg fa h KX G hmg
    refine' K53.all_mk KX G hmg ?a1 ?l1 ?c1 ?k1 ?a2 ?l2 ?c2 ?k2 ?a3 ?l3 ?c3 ?k3 ?a4 ?l4 ?c4 ?k4 ?a5 ?l5 ?c5 ?k5 ?a6 ?l6 ?c6 ?k6 ?a7 ?l7 ?c7 ?k7 ?a8 ?l8 ?c8 ?k8 ?a9 ?l9 ?c9 ?k9 ?a10 ?l10 ?c10 ?k10 ?a11 ?l11 ?c11 ?k11 ?a12 ?l12 ?c12 ?k12 ?a13 ?l13 ?c13 ?k13 ?a14 ?l14 ?c14 ?k14 ?a15 ?l15 ?c15 ?k15 ?a16 ?l16 ?c16 ?k16 ?a17 ?l17 ?c17 ?k17 ?a18 ?l18 ?c18 ?k18 ?a19 ?l19 ?c19 ?k19 ?a20 ?l20 ?c20 ?k20 ?a21 ?l21 ?c21 ?k21 ?a22 ?l22 ?c22 ?k22 ?a23 ?l23 ?c23 ?k23 ?a24 ?l24 ?c24 ?k24 ?a25 ?l25 ?c25 ?k25 ?a26 ?l26 ?c26 ?k26 ?a27 ?l27 ?c27 ?k27 ?a28 ?l28 ?c28 ?k28 ?a29 ?l29 ?c29 ?k29 ?a30 ?l30 ?c30 ?k30 ?a31 ?l31 ?c31 ?k31 ?a32 ?l32 ?c32 ?k32 ?a33 ?l33 ?c33 ?k33 ?z1 ?z2 ?z3 ?z4 ?z5 ?z6 ?z7 ?z8 ?z9 ?z10 ?z11 ?z12 ?z13 ?gDT ?xDT ?gTU ?xTU ?eTU ?gTW ?xTW ?eTW ?gTN ?xTN ?eTN ?gCP ?xCP ?gCW ?xCW ?gCC ?xCC ?sTUDT ?sTWDT ?sTNDT ?sTUTW ?sTUTN ?sTUCP ?sTUCW ?sTUCC ?sTWTU ?sTWTN ?sTWCP ?sTWCW ?sTWCC ?sTNTU ?sTNTW ?sTNCP ?sTNCW ?sTNCC ?gC ?faCinit ?fiCinit ?liCinit ?ciCinit ?kkCinit ?faCput ?fiCput ?liCput ?ciCput ?kkCput ?faCleast_sum ?fiCleast_sum ?liCleast_sum ?ciCleast_sum ?kkCleast_sum ?faCbound ?fiCbound ?liCbound ?ciCbound ?kkCbound ?faCbound_row ?fiCbound_row ?liCbound_row ?ciCbound_row ?kkCbound_row ?faCbounds ?fiCbounds ?liCbounds ?ciCbounds ?kkCbounds ?faCways ?fiCways ?liCways ?ciCways ?kkCways ?pgC ?hdC ?poC ?saC ?mkC ?kcC ?naCprices ?naCthings ?naCsums ?naCheads ?naCtails ?gD ?faDinit ?fiDinit ?liDinit ?ciDinit ?kkDinit ?faDput_counts ?fiDput_counts ?liDput_counts ?ciDput_counts ?kkDput_counts ?faDover_ways ?fiDover_ways ?liDover_ways ?ciDover_ways ?kkDover_ways ?faDby_way ?fiDby_way ?liDby_way ?ciDby_way ?kkDby_way ?pgD ?hdD ?poD ?saD ?mkD ?kcD ?naDparted ?naDletters ?naDcodes ?naDtails
    (case a1=>k_is);(case l1=>k_is);(case c1=>k_is);(case k1=>k_is)
    (case a2=>k_is);(case l2=>k_is);(case c2=>k_is);(case k2=>k_is)
    (case a3=>k_is);(case l3=>k_is);(case c3=>k_is);(case k3=>k_is)
    (case a4=>k_is);(case l4=>k_is);(case c4=>k_is);(case k4=>k_is)
    (case a5=>k_is);(case l5=>k_is);(case c5=>k_is);(case k5=>k_is)
    (case a6=>k_is);(case l6=>k_is);(case c6=>k_is);(case k6=>k_is)
    (case a7=>k_is);(case l7=>k_is);(case c7=>k_is);(case k7=>k_is)
    (case a8=>k_is);(case l8=>k_is);(case c8=>k_is);(case k8=>k_is)
    (case a9=>k_is);(case l9=>k_is);(case c9=>k_is);(case k9=>k_is)
    (case a10=>k_is);(case l10=>k_is);(case c10=>k_is);(case k10=>k_is)
    (case a11=>k_is);(case l11=>k_is);(case c11=>k_is);(case k11=>k_is)
    (case a12=>k_is);(case l12=>k_is);(case c12=>k_is);(case k12=>k_is)
    (case a13=>k_is);(case l13=>k_is);(case c13=>k_is);(case k13=>k_is)
    (case a14=>k_is);(case l14=>k_is);(case c14=>k_is);(case k14=>k_is)
    (case a15=>k_is);(case l15=>k_is);(case c15=>k_is);(case k15=>k_is)
    (case a16=>k_is);(case l16=>k_is);(case c16=>k_is);(case k16=>k_is)
    (case a17=>k_is);(case l17=>k_is);(case c17=>k_is);(case k17=>k_is)
    (case a18=>k_is);(case l18=>k_is);(case c18=>k_is);(case k18=>k_is)
    (case a19=>k_is);(case l19=>k_is);(case c19=>k_is);(case k19=>k_is)
    (case a20=>k_is);(case l20=>k_is);(case c20=>k_is);(case k20=>k_is)
    (case a21=>k_is);(case l21=>k_is);(case c21=>k_is);(case k21=>k_is)
    (case a22=>k_is);(case l22=>k_is);(case c22=>k_is);(case k22=>k_is)
    (case a23=>k_is);(case l23=>k_is);(case c23=>k_is);(case k23=>k_is)
    (case a24=>k_is);(case l24=>k_is);(case c24=>k_is);(case k24=>k_is)
    (case a25=>k_is);(case l25=>k_is);(case c25=>k_is);(case k25=>k_is)
    (case a26=>k_is);(case l26=>k_is);(case c26=>k_is);(case k26=>k_is)
    (case a27=>k_is);(case l27=>k_is);(case c27=>k_is);(case k27=>k_is)
    (case a28=>k_is);(case l28=>k_is);(case c28=>k_is);(case k28=>k_is)
    (case a29=>k_is);(case l29=>k_is);(case c29=>k_is);(case k29=>k_is)
    (case a30=>k_is);(case l30=>k_is);(case c30=>k_is);(case k30=>k_is)
    (case a31=>k_is);(case l31=>k_is);(case c31=>k_is);(case k31=>k_is)
    (case a32=>k_is);(case l32=>k_is);(case c32=>k_is);(case k32=>k_is)
    (case a33=>k_is);(case l33=>k_is);(case c33=>k_is);(case k33=>k_is)
    (case z1=>k_is)
    (case z2=>k_is)
    (case z3=>k_is)
    (case z4=>k_is)
    (case z5=>k_is)
    (case z6=>k_is)
    (case z7=>k_is)
    (case z8=>k_is)
    (case z9=>k_is)
    (case z10=>k_is)
    (case z11=>k_is)
    (case z12=>k_is)
    (case z13=>k_is)
    (case gDT=>k_is)
    (case xDT=>kernel_rfl)
    (case gTU=>k_is)
    (case xTU=>kernel_rfl)
    (case eTU=>kernel_rfl)
    (case gTW=>k_is)
    (case xTW=>kernel_rfl)
    (case eTW=>kernel_rfl)
    (case gTN=>k_is)
    (case xTN=>kernel_rfl)
    (case eTN=>kernel_rfl)
    (case gCP=>k_is)
    (case xCP=>kernel_rfl)
    (case gCW=>k_is)
    (case xCW=>kernel_rfl)
    (case gCC=>k_is)
    (case xCC=>kernel_rfl)
    (case sTUDT=>k_is)
    (case sTWDT=>k_is)
    (case sTNDT=>k_is)
    (case sTUTW=>k_is)
    (case sTUTN=>k_is)
    (case sTUCP=>k_is)
    (case sTUCW=>k_is)
    (case sTUCC=>k_is)
    (case sTWTU=>k_is)
    (case sTWTN=>k_is)
    (case sTWCP=>k_is)
    (case sTWCW=>k_is)
    (case sTWCC=>k_is)
    (case sTNTU=>k_is)
    (case sTNTW=>k_is)
    (case sTNCP=>k_is)
    (case sTNCW=>k_is)
    (case sTNCC=>k_is)
    (case gC=>k_is)
    (case faCinit=>k_is)
    (case fiCinit=>k_is)
    (case liCinit=>k_is)
    (case ciCinit=>k_is)
    (case kkCinit=>k_is)
    (case faCput=>k_is)
    (case fiCput=>k_is)
    (case liCput=>k_is)
    (case ciCput=>k_is)
    (case kkCput=>k_is)
    (case faCleast_sum=>k_is)
    (case fiCleast_sum=>k_is)
    (case liCleast_sum=>k_is)
    (case ciCleast_sum=>k_is)
    (case kkCleast_sum=>k_is)
    (case faCbound=>k_is)
    (case fiCbound=>k_is)
    (case liCbound=>k_is)
    (case ciCbound=>k_is)
    (case kkCbound=>k_is)
    (case faCbound_row=>k_is)
    (case fiCbound_row=>k_is)
    (case liCbound_row=>k_is)
    (case ciCbound_row=>k_is)
    (case kkCbound_row=>k_is)
    (case faCbounds=>k_is)
    (case fiCbounds=>k_is)
    (case liCbounds=>k_is)
    (case ciCbounds=>k_is)
    (case kkCbounds=>k_is)
    (case faCways=>k_is)
    (case fiCways=>k_is)
    (case liCways=>k_is)
    (case ciCways=>k_is)
    (case kkCways=>k_is)
    (case pgC=>k_is)
    (case hdC=>k_is)
    (case poC=>k_is)
    (case saC=>k_is)
    (case mkC=>k_is)
    (case kcC=>k_is)
    (case naCprices=>k_is)
    (case naCthings=>k_is)
    (case naCsums=>k_is)
    (case naCheads=>k_is)
    (case naCtails=>k_is)
    (case gD=>k_is)
    (case faDinit=>k_is)
    (case fiDinit=>k_is)
    (case liDinit=>k_is)
    (case ciDinit=>k_is)
    (case kkDinit=>k_is)
    (case faDput_counts=>k_is)
    (case fiDput_counts=>k_is)
    (case liDput_counts=>k_is)
    (case ciDput_counts=>k_is)
    (case kkDput_counts=>k_is)
    (case faDover_ways=>k_is)
    (case fiDover_ways=>k_is)
    (case liDover_ways=>k_is)
    (case ciDover_ways=>k_is)
    (case kkDover_ways=>k_is)
    (case faDby_way=>k_is)
    (case fiDby_way=>k_is)
    (case liDby_way=>k_is)
    (case ciDby_way=>k_is)
    (case kkDby_way=>k_is)
    (case pgD=>k_is)
    (case hdD=>k_is)
    (case poD=>k_is)
    (case saD=>k_is)
    (case mkD=>k_is)
    (case kcD=>k_is)
    (case naDparted=>k_is)
    (case naDletters=>k_is)
    (case naDcodes=>k_is)
    (case naDtails=>k_is)
