import PyProof.Rows.All
import Wide.All
import KE.KNestM
import KE.KLam
import OpenK.KOwn
import KE.KItem
import KE.KFromBytes
import KE.KDictList
import KE.KIsAll
import KE.KMinBuiltin
import KE.KRevIter
import KE.KDictOf
import KE.KxBytes
import KE.KSortTup
import KE.KSortAsk
import Wide.FinOn
import Lean
import PyProof.EqAt
import PyProof.EqKinds
import PyProof.TupleCall
import PyProof.NeKinds
import PyProof.ConsumeWalk
import PyProof.SumAny
import PyProof.Rows.SumGenD
import PyProof.ZipIter
import PyProof.DictWalks
import KE.KSortTup
import KE.KDictList
import PyProof.EnumMake
import KE.IntBitsLaws
import PyProof.Rows.Range3
import PyProof.WalkInts
import PyProof.MinMaxWalk
import PyProof.TupleOfSeq
import PyProof.Rows.SortShell
import PyProof.WalksS
import PyProof.SeqWrite
import KE.KIntText
import KE.IntTextLaws
import PyProof.Rows.FStr
import PyProof.Rows.StrNews
import PyProof.StrLawsTight
import PyProof.StrWalks
import PyProof.StrLawsIn
import PyProof.SliceSyntax
import PyProof.Rows.StrBin
import PySem.Challenge.RW_lettertoll_k95_whole_desks_write_and_rea
set_option Elab.async false
set_option linter.all false
set_option maxRecDepth 100000
set_option maxHeartbeats 16000000
set_option tactic.hygienic false
theorem BC9{P:Prop}(h:¬P->False):P:=Classical.byContradiction h
local macro_rules
 | `(tactic|obtain $p:rcasesPatMed:= $e)=> do
  if ((toString p.raw).splitOn "\",\"").length < 4 then Lean.Macro.throwUnsupported
  `(tactic|first |(refine BC9 fun hG=> ?_; rcases $e:term with $p:rcasesPatMed <;> refine hG ?_ <;> clear hG) |rcases $e:term with $p:rcasesPatMed)
local macro_rules
 | `(tactic|rintro $ps:rintroPat* $q:rcasesPat)=> do
  if ((toString q.raw).splitOn "\",\"").length < 4 then Lean.Macro.throwUnsupported
  if ps.isEmpty then `(tactic|(intro hh; refine BC9 fun hG=> ?_; rcases hh with $q:rcasesPat <;> refine hG ?_ <;> clear hG))
  else `(tactic|(rintro $ps:rintroPat*; intro hh; refine BC9 fun hG=> ?_; rcases hh with $q:rcasesPat <;> refine hG ?_ <;> clear hG))
local macro_rules
 | `(command|def $i:declId $t:optDeclSig $v:declVal)=> `(command|noncomputable def $i:declId $t:optDeclSig $v:declVal)
 | `(command|abbrev $i:declId $t:optDeclSig $v:declVal)=> `(command|noncomputable abbrev $i:declId $t:optDeclSig $v:declVal)
noncomputable section
set_option genInjectivity false
set_option genSizeOf false
def b6b:=@List.length_map
def b6c:=@PySem.wpAny_bind
def b6d:=@List.getElem?_eq_some_iff
def b6e:=@PySem.Heap.get?_push_of_some
def b6f:=@List.getElem?_eq_getElem
def b6g:=@List.map_append
def b6h:=@List.mem_of_getElem?
def b6i:=@decide_eq_true
def b6j:=@PySem.wpAny_pure
def b6k:=@Nat.le_refl
def b6l:=@List.length_take
def b6m:=@PySem.Heap.get?_push_size
def b6n:=@List.size_toArray
def b6o:=@List.length_append
def b6p:=@List.getElem?_map
def b6q:=@List.getD_eq_getElem?_getD
def b6r:=@List.mem_singleton
def b6s:=@List.take_add_one
def b6t:=@PySem.Heap.lt_size
def b6u:=@Bool.false_ne_true
def b6v:=@List.take_length
def b6w:=@decide_eq_false
def b6x:=@List.mem_map
def b6y:=@Nat.le_of_lt
def b6z:=@List.map_cons
def b6A:=@Option.map_eq_some_iff
def b6B:=@of_decide_eq_true
def b6C:=@List.length_range
def b6D:=@List.mem_cons
def b6E:=@PySem.F.plainAttrs_list
def b6F:=@List.length_cons
def b6G:=@List.mem_append
def b6H:=@Array.length_toList
def b6I:=@Option.some.inj
def b6J:=@List.map_congr_left
def b6K:=@PySem.PassesOwn.never
def b6L:=@Nat.ne_of_lt
def b6M:=@List.mem_append_right
def b6N:=@List.mem_iff_getElem?
def b6O:=@Nat.zero_le
def b6P:=@Nat.lt_of_lt_of_le
def b6Q:=@Int.toNat_natCast
def b6R:=@Nat.le_trans
def b6S:=@PySem.F.slot_list_append
def b6T:=@PySem.F.type_list_append
def b6U:=@List.getElem?_append_right
def b6V:=@List.mem_range
def b6W:=@List.length_zipWith
def b6X:=@PySem.wpAny_callSpecial?_slot
def b6Y:=@Bool.and_eq_true
def b6Z:=@PySem.W.mg_none_of
def b7a:=@PySem.wpAny_field
def b7b:=@Nat.not_lt_zero
def b7c:=@PySem.F.plainAttrs_str
def b7d:=@congrArg
def b7e:=@List.append_nil
def b7f:=@PySem.Heap.size_push
def b7g:=@List.mem_cons_of_mem
def b7h:=@List.mem_of_mem_take
def b7i:=@List.all_eq_true
def b7j:=@PyProof.Rows.callWith_type1
def b7k:=@PyProof.Rows.slot_tuple_getitem
def b7l:=@PySem.wpAny_newObj_type
def b7m:=@decide_eq_true_eq
def b7n:=@PySem.wpAny_setField_rec
def b7o:=@List.length_replicate
def b7p:=@PySem.F.slot_str_join
def b7q:=@PySem.F.type_str_join
def b7r:=@List.length_drop
def b7s:=@PySem.wpAny_call_entry
def b7t:=@List.range_succ
def b7u:=@PySem.wpAny_truthy_bool
def b7v:=@List.map_map
def b7w:=@List.getElem_mem
def b7x:=@List.not_mem_nil
def b7y:=@Nat.lt_irrefl
def b7z:=@PySem.Str.length_append
def b7A:=@PySem.Around.under_plainId
def b7B:=@Int.emod_lt_of_pos
def b7C:=@List.nodup_cons
def b7D:=@List.getElem?_append_left
def b7E:=@PySem.boot_len
def b7F:=@PySem.wpAny_holding
def b7G:=@List.lookup_cons
def b7H:=@PySem.W.mg_of
def b7I:=@List.getElem?_range
def b7J:=@Array.getElem?_toList
def b7K:=@Bool.eq_false_iff
def b7L:=@List.getElem?_zipWith
def b7M:=@PySem.F.slot_dict_keyiterator_next
def b7N:=@PySem.wpAny_seqItems
def b7O:=@List.mem_cons_self
def b7P:=@PySem.Obj.data_mapFields
def b7Q:=@List.filter_append
def b7R:=@PySem.F.called_set
def b7S:=@List.mem_append_left
def b7T:=@PySem.mem_of_lookup
def b7U:=@List.replicate_succ
def b7V:=@PySem.Heap.SameBut.update
def b7W:=@PySem.Heap.get?_update_ne
def b7X:=@List.cons.inj
def b7Y:=@Nat.ne_of_gt
def b7Z:=@PySem.Heap.get?_update_self
def b8a:=@List.getElem?_eq_none
def b8b:=@PySem.codeAny_builtin
def b8c:=@Int.emod_nonneg
def b8d:=@PySem.AutoSeq1.wpAny_loadPart'
def b8e:=@PySem.F.slot_tuple_index
def b8f:=@PySem.sizeLine_eq
def b8g:=@PySem.wpAny_typeNameOfWhole_keyiter
def b8h:=@PySem.List.filterMap_getElem?_range_length
def b8i:=@beq_eq_false_iff_ne
def b8j:=@Bool.eq_iff_iff
def b8k:=@PySem.Heap.get?_update_other
def b8l:=@PySem.Calls.callWith_builtin
def b8m:=@List.take_of_length_le
def b8n:=@PySem.F.slot_str_split
def b8o:=@PySem.F.type_str_split
def b8p:=@PySem.F.slot_tuple_iterator_next
def b8q:=@PySem.call_meets
def b8r:=@PySem.F.plain_min_loop
def b8s:=@PySem.Paired.length
def b8t:=@PySem.wpAny_pyIter_tuple
def b8u:=@List.map_take
def b8v:=@List.length_filter_le
def b8w:=@List.mem_or_eq_of_mem_set
def b8x:=@PySem.wpAny_passesOwn
def b8y:=@PySem.wpAny_pyIter_list
def b8z:=@List.length_set
def b8A:=@List.flatten_cons
def b8B:=@List.append_assoc
def b8C:=@Option.map_some
def b8D:=@PySem.F.type_tuple_index
def b8E:=@List.filterMap_cons
def b8F:=@List.getElem?_replicate
def b8G:=@Bool.false_and
def b8H:=@List.getElem?_set_self
def b8I:=@PySem.wpAny_Call_Name_kw
def b8J:=@PySem.SeqAt.EqAt.str_str
def b8K:=@PySem.F.slot_dict_setdefault
def b8L:=@PySem.codeAny_mono
def b8M:=@List.length_nil
def b8N:=@List.map_nil
def b8O:=@Bool.beq_eq_decide_eq
def b8P:=@PySem.Obj.isFreed_of_fields
def b8Q:=@List.find?_cons
def b8R:=@PySem.wpAny_isOneOf_keyiter
def b8S:=@PySem.F.slot_enumerate_next
def b8T:=@List.take_append_drop
def b8U:=@List.cons_prefix_cons
def b8V:=@PySem.wpAny_mono
def b8W:=@List.ext_getElem?
def b8X:=@PySem.wpAny_rule
def b8Y:=@PySem.plainId_quiet
def b8Z:=@List.getElem?_set_ne
def b9a:=@PySem.Calls.evalArgs_plain
def b9b:=@List.length_dropLast
def b9c:=@List.mem_of_mem_drop
def b9d:=@List.replicate_succ'
def b9e:=@PySem.wpAny_setField
def b9f:=@List.mem_flatMap
def b9g:=@PySem.wpAny_letGo
def b9h:=@List.flatMap_append
def b9i:=@List.length_pos_iff
def b9j:=@List.getElem?_take_of_lt
def b9k:=@PySem.F.args_tuple_add_2
def b9l:=@PySem.typeIs_str
def b9m:=@PySem.wpAny_execs_nil
def b9n:=@PySem.W.callWith_K
def b9o:=@PySem.F.entry_tuple_add
def b9p:=@List.any_cons
def b9q:=@Nat.lt_of_le_of_lt
def b9r:=@PySem.wpAny_attempt
def b9s:=@PySem.tupleKind_room_in1
def b9t:=@List.sum_cons
def b9u:=@PyProof.Rows.F.plain_set_update_loop
def b9v:=@PySem.wpAny_getItem_str_slice
def b9w:=@Bool.true_and
def b9x:=@of_decide_eq_false
def b9y:=@PySem.F.slot_list_index
def b9z:=@PyProof.noPylong_small
def b9A:=@PySem.F.slot_tuple_add
def b9B:=@PySem.wpAny_Call_method_late
def b9C:=@beq_iff_eq
def b9D:=@PySem.wpAny_dictEntries
def b9E:=@Bool.and_false
def b9F:=@or_false
def b9G:=@PySem.W.methodCall_KW
def b9H:=@List.length_singleton
def b9I:=@PySem.F.args_dict_keyiterator_next_1
def b9J:=@Int.mul_le_mul_of_nonneg_right
def b9K:=@Nat.lt_succ_self
def b9L:=@Nat.le_add_right
def b9M:=@PySem.F.entry_dict_keyiterator_next
def b9N:=@List.map_zipWith
def b9O:=@decide_eq_decide
def b9P:=@List.eq_nil_of_length_eq_zero
def b9Q:=@PySem.wpAny_updateSeq_pair
def b9R:=@Nat.mul_le_mul_right
def b9S:=@PySem.F.args_tuple_iterator_next_1
def b9T:=@PySem.W.plainGet_of
def b9U:=@List.forIn_cons
def b9V:=@Nat.min_eq_left
def b9W:=@PySem.F.slot_zip_next
def b9X:=@PyProof.Rows.get?_update_seq
def b9Y:=@List.cons.injEq
def b9Z:=@PySem.wpAny_updateSeq
def c0a:=@List.mem_map_of_mem
def c0b:=@Int.le_refl
def c0c:=@ne_true_of_eq_false
def c0d:=@List.toList_toArray
def c0e:=@Array.toList_append
def c0f:=@Int.fdiv_eq_ediv_of_nonneg
def c0g:=@Array.getElem?_eq_some_iff
def c0h:=@PySem.wpAny_pyIter_range
def c0i:=@List.mem_filterMap
def c0j:=@PySem.Calls.spliced_cons
def c0k:=@PySem.SeqAt.EqAt.int_int
def c0l:=@Bool.false_eq_true
def c0m:=@PySem.F.args_str_split_2
def c0n:=@PySem.F.slot_str_getitem
def c0o:=@Nat.add_sub_cancel
def c0p:=@List.all_map
def c0q:=@PySem.sliceRange_one
def c0r:=@Array.getElem?_eq_getElem
def c0s:=@PySem.wpAny_tryCatch
def c0t:=@PySem.Obj.cls_mapFields
def c0u:=@List.nodup_append
def c0v:=@List.flatMap_cons
def c0w:=@PySem.F.entry_str_split
def c0x:=@List.pairwise_map
def c0y:=@PySem.StrLaws.found_one
def c0z:=@PySem.wpAny_standAt
def c0A:=@PySem.wpAny_onRaise
def c0B:=@Bool.false_or
def c0C:=@List.getElem_inj
def c0D:=@PySem.noFill_tuple_add
def c0E:=@beq_self_eq_true
def c0F:=@PySem.wpAny_isInstance
def c0G:=@PySem.F.entry_min_loop
def c0H:=@PySem.F.slot_str_split
def c0I:=@List.mem_filter
def c0J:=@List.of_mem_zip
def c0K:=@Nat.succ_mul
def c0L:=@Bool.true_or
def c0M:=@Nat.sub_self
def c0N:=@PySem.wpAny_call
def c0O:=@List.take_zero
def c0P:=@List.nodup_nil
def c0Q:=@Nat.mul_le_mul
def c0R:=@if_false
namespace L2
open PySem PySem.Spec PyProof.Rows
abbrev Key:=Sum Int Str
def a7J:Key->Value->Bool
 |.inl k,v=>Value.isInt k v
 |.inr x,v=>Value.isStrOf x v
def keyH(w:World):Key->Int
 |.inl k=>hashInt k
 |.inr x=>hashStr w x
theorem a0W:∀{k:Key}{v:Value},a7J k v=true->(∃i t,k=Sum.inl i/\v=Value.int i t)\/(∃x t,k=Sum.inr x/\v=Value.str x t)
 |.inl i,v,h=>by
  obtain⟨t,e⟩:=Value.isInt_shape (k:=i) (v:=v) h;exact .inl ⟨i,t,rfl,e⟩
 |.inr x,v,h=>by
  obtain⟨t,e⟩:=Value.isStrOf_shape (x:=x) (v:=v) h;exact .inr ⟨x,t,rfl,e⟩
theorem a8s(i:Int)(t:Tok):a7J (.inl i) (.int i t)=true:=by simp[a7J,Value.isInt]
theorem a8t(x:Str)(t:Tok):a7J (.inr x) (.str x t)=true:=by simp[a7J,Value.isStrOf]
theorem key_ll(a b:Int):decide ((Sum.inl a:Key)=Sum.inl b)=(a==b):=by
 by_cases e:a=b
 ·subst e;simp
 ·have h:¬(Sum.inl a:Key)=Sum.inl b:=λq=>e (Sum.inl.inj q);rw[b6w h];exact(b8i.mpr e).symm
theorem key_rr(a b:Str):decide ((Sum.inr a:Key)=Sum.inr b)=decide (a=b):=by
 by_cases e:a=b
 ·subst e;simp
 ·have h:¬(Sum.inr a:Key)=Sum.inr b:=λq=>e (Sum.inr.inj q);rw[b6w h,b6w e]
theorem key_lr(a:Int)(b:Str):decide ((Sum.inl a:Key)=Sum.inr b)=false:=b6w (λq=>nomatch q)
theorem key_rl(a:Str)(b:Int):decide ((Sum.inr a:Key)=Sum.inl b)=false:=b6w (λq=>nomatch q)
def a1A(prog:Program)(w:World):PySem.KeyKind prog w Key where
 is:=a7J
 hash:=keyH w
 inj:=λv a b ha hb=>by
  rcases a0W ha with ⟨i,t,rfl,rfl⟩|⟨x,t,rfl,rfl⟩
  ·rcases a0W hb with ⟨j,u,rfl,e⟩|⟨y,u,rfl,e⟩
   ·injection e with e1 _;rw[e1]
   ·exact nomatch e
  ·rcases a0W hb with ⟨j,u,rfl,e⟩|⟨y,u,rfl,e⟩
   ·exact nomatch e
   ·injection e with e1 _;rw[e1]
 byValue:=λk v h=>by
  rcases a0W h with ⟨i,t,rfl,rfl⟩|⟨x,t,rfl,rfl⟩<;>rfl
 pyHash:=λhv h=>by
  rcases a0W hv with ⟨i,t,rfl,rfl⟩|⟨x,t,rfl,rfl⟩
  ·exact wpAny_pyHash_int h
  ·exact wpAny_pyHash_str h
 eqBool:=λhu hv h=>by
  rcases a0W hu with ⟨i,t,rfl,rfl⟩|⟨x,t,rfl,rfl⟩
  ·rcases a0W hv with ⟨j,u,rfl,rfl⟩|⟨y,u,rfl,rfl⟩
   ·rw[key_ll] at h;exact wpAny_eqBool_int h
   ·rw[key_lr] at h;exact SeqAt.EqAt.int_str i t y u _ _ _ _ h
  ·rcases a0W hv with ⟨j,u,rfl,rfl⟩|⟨y,u,rfl,rfl⟩
   ·rw[key_rl] at h;exact SeqAt.EqAt.str_int x t j u _ _ _ _ h
   ·rw[key_rr] at h;exact wpAny_eqBool_str h
 «strs»:=λk x t v h=>by
  rcases a0W h with ⟨i,u,rfl,e⟩|⟨y,u,rfl,e⟩
  ·exact nomatch e
  ·injection e with e1 _;subst e1;cases v<;>rfl
theorem a6r(prog:Program)(w:World)(i:Int)(t:Tok):(a1A prog w).is (.inl i) (.int i t)=true:=a8s i t
theorem a6s(prog:Program)(w:World)(x:Str)(t:Tok):(a1A prog w).is (.inr x) (.str x t)=true:=a8t x t
set_option genInjectivity true in
inductive V where
 |non|bl (b:Bool)|int (i:Int)|str (x:Str)|byt (b:Array UInt8)|flt (b:UInt64)|ref (a:Addr)|ty (n:String)
 deriving DecidableEq
def a1h:V->Value->Prop
 |.non,u=>u=Value.none
 |.bl b,u=>u=Value.bool b
 |.int i,u=>∃t,u=Value.int i t
 |.str x,u=>∃t,u=Value.str x t
 |.byt b,u=>∃t,u=Value.bytes b t
 |.flt b,u=>∃t,u=Value.float b t
 |.ref a,u=>u=Value.ref a
 |.ty n,u=>u=Value.type n
abbrev a0P:List V->List Value->Prop:=Paired a1h
theorem a0P.length{xs:List V}{us:List Value}(r:a0P xs us):xs.length=us.length:=b8s r
theorem a0P.get:∀{xs:List V}{us:List Value}{i:Nat}{x:V},a0P xs us->xs[i]?=some x->∃u,us[i]?=some u/\a1h x u
 |_,_,_,_,.nil,e=>by simp at e
 |_,_,0,_,.cons r _,e=>by simp at e;subst e;exact⟨_,rfl,r⟩
 |_,_,i+1,x,.cons _ t,e=>by
  obtain⟨u,h1,h2⟩:=a0P.get (i:=i) (x:=x) t (by simpa using e);exact⟨u,by simpa using h1,h2⟩
theorem a0P.set{x:V}{u:Value}(r:a1h x u):∀{xs:List V}{us:List Value}(i:Nat),a0P xs us->a0P (xs.set i x) (us.set i u)
 |_,_,_,.nil=>.nil
 |_,_,0,.cons _ t=>.cons r t
 |_,_,i+1,.cons q t=>.cons q (a0P.set r i t)
theorem a0P.append:∀{xs ys:List V}{us ws:List Value},a0P xs us->a0P ys ws->a0P (xs++ys) (us++ws)
 |_,_,_,_,.nil,s=>s
 |_,_,_,_,.cons r t,s=>.cons r (a0P.append t s)
theorem a0P.take:∀{xs:List V}{us:List Value}(n:Nat),a0P xs us->a0P (xs.take n) (us.take n)
 |_,_,0,_=>.nil
 |_,_,_+1,.nil=>.nil
 |_,_,n+1,.cons r t=>.cons r (a0P.take n t)
theorem a0P.drop:∀{xs:List V}{us:List Value}(n:Nat),a0P xs us->a0P (xs.drop n) (us.drop n)
 |_,_,0,r=>r
 |_,_,_+1,.nil=>.nil
 |_,_,n+1,.cons _ t=>a0P.drop n t
def a6p:Option V->Option Value->Prop
 |some v,some u=>a1h v u
 |none,none=>True
 |_,_=>False
def KV{κ:Type}:List (κ×V)->List (κ×Value)->Prop:=Paired λ(p:κ×V)(q:κ×Value)=>p.1=q.1/\a1h p.2 q.2
def kV:Key->V
 |.inl i=>.int i
 |.inr x=>.str x
set_option genInjectivity true in
inductive HO where
 |lst (xs:List V)
 |tup (xs:List V)
 |dK (kvs:List (Key×V))|dT (kvs:List (List Key×V))
 |set (S:Int->Bool)(n:Nat)
 |ins (C dx:Addr)(fs:List (Str×V))
 |own (x:Addr)
 |xd (fs:List (Str×V))
 |met (f x:Addr)
 |rng (lo hi:Int)
 |frz (o:Obj)(u:HO)
 |tbl (ps:Array Value)
 |ext (φ:Heap->Prop)
abbrev Hp:=Addr->Option HO
def upd(H:Hp)(a:Addr)(o:HO):Hp:=λb=>if b=a then some o else H b
theorem a0b{H:Hp}{a:Addr}{o:HO}:upd H a o a=some o:=by unfold upd;rw[if_pos rfl]
theorem a0i{H:Hp}{a b:Addr}{o:HO}(h:b≠a):upd H a o b=H b:=by unfold upd;rw[if_neg h]
theorem a0B{H:Hp}{a b:Addr}{o u:HO}(h:H a=some o)(h':H b=some u)(d:o≠u):a≠b:=by
 intro e;subst e;rw[h] at h';exact d (b6I h')
theorem a0N{H:Hp}{a b:Addr}{o:HO}(h:H a=some o)(h':H b=none):a≠b:=by
 intro e;subst e;rw[h] at h';cases h'
def a5t(h:Heap)(a:Addr)(items:Array Value):Prop:=∃o,h.get? a=some o/\∃n,o={cls:=.type "tuple",data:=.seq items n}
theorem a5t.is{h:Heap}{a:Addr}{items:Array Value}(x:a5t h a items):IsTup h a items:=by
 obtain⟨o,e,n,rfl⟩:=x;exact⟨_,e,rfl,n,rfl⟩
instance {h:Heap}{a:Addr}{items:Array Value}:Coe (a5t h a items) (IsTup h a items):=⟨a5t.is⟩
instance {h:Heap}{a:Addr}{items:Array Value}:Coe (a5t h a items) (Heap.IsTuple h a items):=⟨λx=>x.is⟩
theorem a5t.lt{h:Heap}{a:Addr}{items:Array Value}(x:a5t h a items):a<h.objs.size:=x.is.lt
theorem a5t.new(h:Heap)(items:Array Value):a5t (h.push {cls:=.type "tuple",data:=.seq items}) h.objs.size items:=⟨_,b6m _ rfl,_,rfl⟩
section
variable (P:Program)(w:World)
def a1s(H:Hp)(h:Heap)(a:Addr):HO->Prop
 |.lst xs=>xs.length<=sizeLine/\∃(its:List Value)(n:Nat),a0P xs its/\h.get? a=some {cls:=.type "list",data:=.seq its.toArray n}
 |.tup xs=>xs.length<=sizeLine/\∃its:List Value,a0P xs its/\a5t h a its.toArray
 |.dK kvs=>kvs.length<=sizeLine/\(a==sysModules)=false/\∃vs,KV kvs vs/\h.DictOf (a1A P w) a vs
 |.dT kvs=>kvs.length<=sizeLine/\(a==sysModules)=false/\∃xs:List (List Key×Addr×Value),
   Paired (λ(p:List Key×V)(q:List Key×Addr×Value)=>p.1=q.1/\H q.2.1=some (.tup (p.1.map kV))/\a1h p.2 q.2.2) kvs xs /\
   ∃o es ep,h.get? a=some o/\o.ExactDict/\o.data=.dict es ep/\es.toList=xs.map (entryOfKey (tupleKind (a1A P w)))/\(xs.map (·.1)).Nodup
 |.set S n=>h.SetOf (intKind P w) a S n
 |.ins C dx fs=>H dx=some (.own a)/\fs.length<=1000/\dx≠a/\h.get? a=some (PySem.W.instObj C dx) /\
   ∃mA,h.Ns1 dx mA/\(∀f,a6p (fs.lookup f) (mA f))/\PySem.Within mA (fs.map (·.1))
 |.own _=>∃o,h.get? a=some o
 |.xd fs=>∃mA,h.Ns1 a mA/\∀f,a6p (fs.lookup f) (mA f)
 |.rng lo hi=>∃t u v,h.get? a=some {cls:=.type "range",data:=.fields #[.int lo t,.int hi u,.int 1 v]}
 |.frz o u=>h.get? a=some o/\a1s H h a u
 |.tbl ps=>h.get? a=some {cls:=.none,data:=.fields ps}
 |.met f x=>h.get? a=some (PySem.W.methodObj (.ref f) (.ref x))
 |.ext φ=>φ h/\(∃o,h.get? a=some o)/\∀h1 h2:Heap,φ h1->(∀o,h1.get? a=some o->h2.get? a=some o)->φ h2
def HOk(H:Hp)(h:Heap):Prop:=∀a o,H a=some o->a1s P w H h a o
end
section
variable {P:Program}{w:World}{H H':Hp}{h h':Heap}{a:Addr}{o:HO}
theorem a1s.lt(x:a1s P w H h a o):a<h.objs.size:=by
 cases o with
 |lst xs=>obtain⟨_,_,_,_,e⟩:=x;exact b6t e
 |tup xs=>obtain⟨_,_,_,p⟩:=x;exact p.lt
 |dK kvs=>obtain⟨_,_,_,_,o,_,_,e,_⟩:=x;exact b6t e
 |dT kvs=>obtain⟨_,_,_,_,o,_,_,e,_⟩:=x;exact b6t e
 |set S n=>obtain⟨o,_,_,_,e,_⟩:=x;exact b6t e
 |ins C dx fs=>obtain⟨_,_,_,e,_⟩:=x;exact b6t e
 |own y=>obtain⟨_,e⟩:=x;exact b6t e
 |xd fs=>obtain⟨_,⟨_,_,_,e,_⟩,_⟩:=x;exact b6t e
 |rng lo hi=>obtain⟨_,_,_,e⟩:=x;exact b6t e
 |frz ob u=>obtain⟨e,_⟩:=x;exact b6t e
 |tbl ps=>exact b6t (show h.get? a=some _ from x)
 |met f y=>exact b6t (show h.get? a=some _ from x)
 |ext φ=>obtain⟨_,⟨_,e⟩,_⟩:=x;exact b6t e
theorem Paired.mapP{α β:Type}{F G:α->β->Prop}:∀{l₁:List α}{l₂:List β},Paired F l₁ l₂->(∀a b,F a b->G a b)->Paired G l₁ l₂
 |_,_,.nil,_=>.nil
 |_,_,.cons r t,f=>.cons (f _ _ r) (Paired.mapP t f)
theorem a1s.stay(x:a1s P w H h a o)(k:∀b u,(b=a\/H b=some (.own a))->h.get? b=some u->h'.get? b=some u)
  (ho:∀b,H b=some (.own a)->H' b=some (.own a))(ht:∀b xs,H b=some (.tup xs)->H' b=some (.tup xs)):a1s P w H' h' a o:=by
 induction o with
 |lst xs=>obtain⟨z,its,n,r,e⟩:=x;exact⟨z,its,n,r,k _ _ (.inl rfl) e⟩
 |tup xs=>obtain⟨z,its,r,ob,e,c⟩:=x;exact⟨z,its,r,ob,k _ _ (.inl rfl) e,c⟩
 |dK kvs=>obtain⟨z,y,vs,r,ob,es,ep,e,c⟩:=x;exact⟨z,y,vs,r,ob,es,ep,k _ _ (.inl rfl) e,c⟩
 |dT kvs=>
  obtain⟨z,y,xs,r,ob,es,ep,e,c⟩:=x;exact⟨z,y,xs,Paired.mapP r λp q z=>⟨z.1,ht _ _ z.2.1,z.2.2⟩,ob,es,ep,k _ _ (.inl rfl) e,c⟩
 |set S n=>obtain⟨ob,es,ep,t,e,c⟩:=x;exact⟨ob,es,ep,t,k _ _ (.inl rfl) e,c⟩
 |ins C dx fs=>
  obtain⟨d,z,ne,e,mA,⟨od,es,ep,e2,c⟩,r⟩:=x;exact⟨ho _ d,z,ne,k _ _ (.inl rfl) e,mA,⟨od,es,ep,k _ _ (.inr d) e2,c⟩,r⟩
 |own y=>obtain⟨ob,e⟩:=x;exact⟨ob,k _ _ (.inl rfl) e⟩
 |xd fs=>obtain⟨mA,⟨od,es,ep,e,c⟩,r⟩:=x;exact⟨mA,⟨od,es,ep,k _ _ (.inl rfl) e,c⟩,r⟩
 |rng lo hi=>obtain⟨t,u,v,e⟩:=x;exact⟨t,u,v,k _ _ (.inl rfl) e⟩
 |frz ob u ih=>obtain⟨e,q⟩:=x;exact⟨k _ _ (.inl rfl) e,ih q⟩
 |tbl ps=>
  have e:h.get? a=some {cls:=.none,data:=.fields ps}:=x;show h'.get? a=some {cls:=.none,data:=.fields ps};exact k a _ (.inl rfl) e
 |met f y=>
  have e:h.get? a=some (PySem.W.methodObj (.ref f) (.ref y)):=x;show h'.get? a=some (PySem.W.methodObj (.ref f) (.ref y));exact k a _ (.inl rfl) e
 |ext φ=>obtain⟨p,⟨o,e⟩,st⟩:=x;exact⟨st _ _ p λo q=>k _ _ (.inl rfl) q,⟨o,k _ _ (.inl rfl) e⟩,st⟩
theorem HOk.lt(x:HOk P w H h)(e:H a=some o):a<h.objs.size:=(x a o e).lt
theorem HOk.fresh(x:HOk P w H h)(e:h.objs.size<=a):H a=none:=by
 cases q:H a with
 |none=>rfl
 |some u=>exact absurd (b6P (x.lt q) e) (b7y _)
theorem HOk.kept(x:HOk P w H h)(k:∀b u,h.get? b=some u->h'.get? b=some u):HOk P w H h':=λa o e=>
 (x a o e).stay (λb u _ q=>k b u q) (λ_ q=>q) λ_ _ q=>q
theorem HOk.laid(x:HOk P w H h)(k:∀b u,h.get? b=some u->h'.get? b=some u)(hp:h.objs.size<=a)(new:a1s P w (upd H a o) h' a o):HOk P w (upd H a o) h':=λb u e=>by
 have hn:=x.fresh hp;by_cases hb:b=a
 ·subst hb;rw[a0b] at e;cases e;exact new
 ·rw[a0i hb] at e;exact(x b u e).stay (λc v _ q=>k c v q) (λc q=>by rw[a0i (a0N q hn)];exact q) λc xs q=>by rw[a0i (a0N q hn)];exact q
end
def Rd(H:Hp)(a:Addr)(u:HO):Prop:=H a=some u\/∃o,H a=some (.frz o u)
theorem Rd.ok{P:Program}{w:World}{H:Hp}{h:Heap}{a:Addr}{u:HO}(r:Rd H a u)(x:HOk P w H h):a1s P w H h a u:=by
 rcases r with r|⟨o,r⟩
 ·exact x a u r
 ·obtain⟨_,q⟩:=x a _ r;exact q
def Mut:Option HO->Prop
 |some (.lst _)=>True
 |some (.dK _)=>True
 |some (.dT _)=>True
 |some (.set _ _)=>True
 |some (.ins _ _ _)=>True
 |some (.ext _)=>True
 |_=>False
section
variable {P:Program}{w:World}{H:Hp}{h h':Heap}{x e:Addr}{o':HO}
theorem HOk.write(ok:HOk P w H h)(mu:Mut (H x))(he:e=x\/H e=some (.own x))(k:∀b u,b≠e->h.get? b=some u->h'.get? b=some u)(heo:∃u,h'.get? e=some u)
  (new:a1s P w (upd H x o') h' x o'):HOk P w (upd H x o') h':=λb u q=>by
 have nown:∀c y,H c=some (.own y)->c≠x:=λc y r z=>by subst z;rw[r] at mu;exact mu
 have ntup:∀c xs,H c=some (.tup xs)->c≠x:=λc xs r z=>by subst z;rw[r] at mu;exact mu
 by_cases hb:b=x
 ·subst hb;rw[a0b] at q;cases q;exact new
 ·rw[a0i hb] at q;by_cases hbe:b=e
  ·have q':H b=some (.own x):=by
    rcases he with z|z
    ·exact absurd (hbe.trans z) hb
    ·rw[hbe];exact z
   rw[q] at q';cases q';obtain⟨v,hv⟩:=heo;exact⟨v,by rw[hbe];exact hv⟩
  ·refine(ok b u q).stay (λc v hc r=>k c v ?_ r) (λc r=>by rw[a0i (nown c b r)];exact r) λc xs r=>by rw[a0i (ntup c xs r)];exact r
   rcases hc with rfl|hc
   ·exact hbe
   ·rintro rfl;rcases he with z|z
    ·exact nown c b hc z
    ·rw[hc] at z;cases z;exact hb rfl
end
structure Un(fs ex:List Addr)(H H':Hp)(h h':Heap):Prop where
 keep:∀b o,h.get? b=some o->H b=none->b∉fs->b∉ex->h'.get? b=some o
 slot:∀b o,h.get? b=some o->H b=none->b∈fs->b∉ex->∃sl,h'.get? b=some {o with slots:=sl}
 free:∀b o,h.get? b=some o->H b=none->b∉ex->H' b=none
 there:∀b o,h.get? b=some o->b∉ex->∃o',h'.get? b=some o'
 tups:∀b xs,H b=some (.tup xs)->H' b=some (.tup xs)
 frzs:∀b o u,H b=some (.frz o u)->H' b=some (.frz o u)
 tbls:∀b ps,H b=some (.tbl ps)->∃more,H' b=some (.tbl (ps++more))
section
variable {fs fs' ex ex':List Addr}{H H1 H2:Hp}{h h1 h2 h':Heap}{a x e:Addr}{o:HO}
theorem Un.any(u:Un fs ex H H1 h h1){b:Addr}{ob:Obj}(q:h.get? b=some ob)(n:H b=none)(hx:b∉ex):∃sl,h1.get? b=some {ob with slots:=sl}:=by
 by_cases hb:b∈fs
 ·exact u.slot b ob q n hb hx
 ·exact⟨ob.slots,u.keep b ob q n hb hx⟩
theorem Un.kept(k:∀b u,h.get? b=some u->h'.get? b=some u):Un fs ex H H h h':=
 ⟨λb ob q _ _ _=>k b ob q,λb ob q _ _ _=>⟨ob.slots,k b ob q⟩,λ_ _ _ n _=>n,λb ob q _=>⟨ob,k b ob q⟩,λ_ _ q=>q,λ_ _ _ q=>q,λ_ ps q=>⟨#[],by rw[q];simp⟩⟩
theorem Un.refl:Un fs ex H H h h:=Un.kept λ_ _ q=>q
theorem Un.laid(k:∀b u,h.get? b=some u->h'.get? b=some u)(hp:h.objs.size<=a)(hn:H a=none):Un fs ex H (upd H a o) h h' where
 keep:=λb u q _ _ _=>k b u q
 slot:=λb u q _ _ _=>⟨u.slots,k b u q⟩
 free:=λb u q n _=>by rw[a0i (b6L (b6P (b6t q) hp))];exact n
 there:=λb u q _=>⟨u,k b u q⟩
 tups:=λb xs q=>by rw[a0i (a0N q hn)];exact q
 frzs:=λb u xs q=>by rw[a0i (a0N q hn)];exact q
 tbls:=λb ps q=>⟨#[],by rw[a0i (a0N q hn),q];simp⟩
theorem Un.write(mu:Mut (H x))(he:e=x\/H e=some (.own x))(k:∀b u,b≠e->h.get? b=some u->h'.get? b=some u)(heo:∃u,h'.get? e=some u):Un fs ex H (upd H x o) h h':=by
 have hx:∀b,H b=none->b≠x:=λb n z=>by subst z;rw[n] at mu;exact mu
 have hb:∀b,H b=none->b≠e:=λb n z=>by
  subst z;rcases he with r|r
  ·exact hx b n r
  ·rw[n] at r;cases r
 have hm:∀b u,H b=some u->¬Mut (some u)->b≠x:=λb u q nm z=>by subst z;rw[q] at mu;exact nm mu
 refine⟨λb u q n _ _=>k b u (hb b n) q,λb u q n _ _=>⟨u.slots,k b u (hb b n) q⟩,λb u q n _=>by rw[a0i (hx b n)];exact n,λb u q _=>?_,
  λb xs q=>by rw[a0i (hm b _ q λz=>z)];exact q,λb u xs q=>by rw[a0i (hm b _ q λz=>z)];exact q,λb ps q=>⟨#[],by rw[a0i (hm b _ q λz=>z),q];simp⟩⟩
 by_cases hbe:b=e
 ·subst hbe;exact heo
 ·exact⟨u,k b u hbe q⟩
end
def trk(h:Heap)(H:Hp):List Addr:=(List.range h.objs.size).filter λa=>(H a).isSome
def b0U(h:Heap)(H:Hp):Heap:=PySem.W.hideAll h (trk h H)
theorem a8u(h:Heap)(H:Hp):(b0U h H).objs.size=h.objs.size:=PySem.W.hideAll_size _ _
theorem b0V{h:Heap}{H:Hp}{b:Addr}{o:Obj}(e:h.get? b=some o)(n:H b=none):(b0U h H).get? b=some o:=
 PySem.W.hideAll_get _ e λhm=>by
  have q:(H b).isSome=true:=(c0I.mp hm).2;rw[n] at q;simp at q
theorem b3O{h:Heap}{H:Hp}{b:Addr}{o:Obj}(e:(b0U h H).get? b=some o):h.get? b=some o/\H b=none:=by
 have e':h.get? b=some o:=PySem.W.of_hideAll (trk h H) e;refine⟨e',?_⟩;cases q:H b with
 |none=>rfl
 |some x=>
  have hm:b∈trk h H:=c0I.mpr ⟨b6V.mpr (b6t e'),by simp[q]⟩;have z:(b0U h H).get? b=none:=PySem.W.hideAll_none (trk h H) hm;rw[z] at e;cases e
def b3P(g h:Heap)(L:Addr):List (Addr×Obj):=(List.range h.objs.size).filterMap λa=>if a=L\/(g.get? a).isSome=true then none else (h.get? a).map λo=>(a,o)
def rest(g h:Heap)(L d:Addr):List (Addr×Obj):=(b3P g h L).filter λp=>decide (p.1≠d)
structure Mod(K:PySem.W.Frag)(mg:Str->Option Value)(base:Heap):Prop where
 kin:K.In base
 glob:base.Ns mainGlobals mg
 blt:∃mb,base.Ns builtinsNs mb/\∀x:Str,x≠"__name__"->mb x=bootBuiltins x
 nolimit:base.NoLimit
structure Cx where
 prog:Program
 w:World
 K:PySem.W.Frag
 mg:Str->Option Value
 base:Heap
 A:Around
 N:List Str
 s₀:Shared
 H₀:Hp
 env:Env
 outer:List Env
 stack:List Env
 ex:List Addr
 fn:Str->Bool
 calm:Bool
 pn:List (Addr×Obj)
 xe:Value->Shared->Prop
def frs(l:List Env):List Addr:=l.filterMap (·.frame)
abbrev Cx.fs(X:Cx):List Addr:=frs X.outer
def Vis(sc:Scope)(x:Str):Prop:=sc.names.lookup x=some .local\/sc.names.lookup x=some .cell\/sc.names.lookup x=some .free
def Loc(sc:Scope)(x:Str):Prop:=sc.names.lookup x=some .local\/sc.names.lookup x=some .cell
def Look(env:Env)(h:Heap)(m:Str->Option Value)(x:Str)(u:Value):Prop:=
 (env.kindOf x=some .local/\m x=some u)\/((env.kindOf x=some .cell\/env.kindOf x=some .free)/\∃c,env.cells.lookup x=some c/\h.IsCell c (some u))
structure Cx.Ok(X:Cx):Prop where
 mod:Mod X.K X.mg X.base
 kind:X.env.scope.kind=.function
 glob:X.env.globals=mainGlobals
 blt:X.env.builtins=builtinsNs
 above:X.s₀.heap.objs.size<=X.env.locals
 inj:∀x y c,X.env.cells.lookup x=some c->X.env.cells.lookup y=some c->x=y
 has:∀x,(X.env.kindOf x=some .cell\/X.env.kindOf x=some .free)->∃c,X.env.cells.lookup x=some c
 cab:∀x c,X.fn x=true->X.env.cells.lookup x=some c->X.s₀.heap.objs.size<=c
 hd:X.calm=true->X.A.handled=none
 frames:X.A.frames=some X.stack
 stk:X.stack=X.outer\/(X.stack=X.env::X.outer/\X.env.frame=some X.env.locals)
 exf:∀b∈X.ex,b≠X.env.locals/\∀x c,X.env.cells.lookup x=some c->c≠b
 bs:∀b o,X.base.get? b=some o->X.s₀.heap.get? b=some o/\X.H₀ b=none
 bsz:X.base.objs.size<=X.s₀.heap.objs.size
 noex:∀b o,X.base.get? b=some o->b∉X.ex
 exfs:∀b∈X.ex,b∉X.fs
 funs:X.s₀.heap.FunFrames X.base X.outer
 frf:∀b∈X.fs,X.H₀ b=none
structure Inv(X:Cx)(pins:List (Addr×Obj))(σ:List (Option V))(H:Hp)(s:Shared):Prop where
 ok:X.Ok
 os:s.os=X.s₀.os
 bare:AllBare s.gens
 base:Un X.fs X.ex X.H₀ H X.s₀.heap s.heap
 loc:∃m,s.heap.Ns X.env.locals m/\∀(i:Nat)(x:Str)(v:V),X.N[i]?=some x->σ[i]?=some (some v)->Vis X.env.scope x->∃u,a1h v u/\Look X.env s.heap m x u
 cell:∀x c,X.env.cells.lookup x=some c->∃v,s.heap.IsCell c v
 free:H X.env.locals=none
 freeC:∀x c,X.env.cells.lookup x=some c->H c=none
 pin:∀p∈X.pn++pins,s.heap.get? p.1=some p.2/\H p.1=none/\p.1≠X.env.locals/\p.1∉X.fs/\∀v,p.2.data≠.cell v
 hok:HOk X.prog X.w H s.heap
 len:σ.length=X.N.length
section
variable {X:Cx}{pins:List (Addr×Obj)}{σ:List (Option V)}{H H':Hp}{s:Shared}{h':Heap}
theorem Cx.Ok.nofr(ok:X.Ok){b:Addr}{o:Obj}(e:X.base.get? b=some o):b∉X.fs:=λhb=>by
 have:=(ok.funs.mem hb).1;rw[e] at this;cases this
theorem Inv.bs(I:Inv X pins σ H s):∀b o,X.base.get? b=some o->s.heap.get? b=some o/\H b=none:=λb o e=>
 ⟨I.base.keep b o (I.ok.bs b o e).1 (I.ok.bs b o e).2 (I.ok.nofr e) (I.ok.noex b o e),I.base.free b o (I.ok.bs b o e).1 (I.ok.bs b o e).2 (I.ok.noex b o e)⟩
theorem Inv.bk(I:Inv X pins σ H s):∀b o,X.base.get? b=some o->s.heap.get? b=some o:=λb o e=>(I.bs b o e).1
theorem Inv.mod(I:Inv X pins σ H s):Mod X.K X.mg X.base:=I.ok.mod
theorem Inv.kIn(I:Inv X pins σ H s):X.K.In s.heap:=I.ok.mod.kin.keeps I.bk
theorem Inv.lt(I:Inv X pins σ H s):X.env.locals<s.heap.objs.size:=let ⟨_,hn,_⟩:=I.loc;hn.lt
theorem Inv.sz(I:Inv X pins σ H s):X.s₀.heap.objs.size<=s.heap.objs.size:=b6R I.ok.above (b6y I.lt)
theorem Inv.nofs(I:Inv X pins σ H s){a:Addr}(h:s.heap.objs.size<=a):a∉X.fs:=λhb=>by
 obtain⟨_,o,ho,_⟩:=I.ok.funs.mem hb;exact absurd (b6P (b6t ho) (b6R I.sz h)) (b7y _)
theorem Inv.cne(I:Inv X pins σ H s):∀x c,X.env.cells.lookup x=some c->c≠X.env.locals:=λx c e z=>by
 obtain⟨v,o,ho,hd⟩:=I.cell x c e;obtain⟨m,⟨o',es,ep,ho',hd',_⟩,_⟩:=I.loc;rw[z,ho'] at ho;cases ho;rw[hd'] at hd;cases hd
theorem Inv.funs(I:Inv X pins σ H s):s.heap.FunFrames X.base X.outer:=by
 have all:∀(l:List Env),(∀b∈frs l,b∈X.fs)->X.s₀.heap.FunFrames X.base l->s.heap.FunFrames X.base l:=by
  intro l
  induction l with
  |nil=>intro _ _;trivial
  |cons env r ih=>
   intro hs hl;obtain⟨hk,⟨L,o,hf,hn,ho,hd⟩,hr⟩:=hl;have hL:L∈X.fs:=hs L (by unfold frs;rw[b8E,hf];exact b7O);obtain⟨sl,e⟩:=I.base.slot L o ho (I.ok.frf L hL) hL λz=>I.ok.exfs L z hL;exact⟨hk,⟨L,_,hf,hn,e,hd⟩,ih (λb hb=>hs b (by unfold frs;rw[b8E,hf];exact b7g _ hb)) hr⟩
 exact all X.outer (λ_ hb=>hb) I.ok.funs
theorem Inv.stack(I:Inv X pins σ H s):s.heap.FunFrames X.base X.stack:=by
 rcases I.ok.stk with e|⟨e,hf⟩
 ·rw[e];exact I.funs
 ·rw[e];obtain⟨m,hn,_⟩:=I.loc;refine .cons (by rw[I.ok.kind];decide) hf hn ?_ I.funs;exact Heap.get?_none_of_le (b6R I.ok.bsz I.ok.above)
theorem Inv.stkSub(I:Inv X pins σ H s):∀b∈frs X.stack,b∈X.env.locals::X.fs:=λb hb=>by
 rcases I.ok.stk with e|⟨e,hf⟩
 ·rw[e] at hb;exact b7g _ hb
 ·rw[e] at hb;unfold frs at hb;rw[b8E,hf] at hb;exact hb
theorem Inv.stkFree(I:Inv X pins σ H s):∀b∈frs X.stack,H b=none:=λb hb=>by
 rcases b6D.mp (I.stkSub b hb) with e|hb
 ·rw[e];exact I.free
 ·obtain⟨_,o,ho,_⟩:=I.ok.funs.mem hb;exact I.base.free b o ho (I.ok.frf b hb) λz=>I.ok.exfs b z hb
theorem Inv.step{g':Array GenState}{t':Nat}{d':Drawn}{ch:List Addr}(I:Inv X pins σ H s)
  (hch:∀b∈ch,(b∈X.ex\/X.s₀.heap.objs.size<=b)/\b≠X.env.locals/\(∀x c,X.env.cells.lookup x=some c->c≠b)/\∀p∈X.pn++pins,p.1≠b)
  (keep:∀b o,b≠X.env.locals->b∉X.fs->b∉ch->s.heap.get? b=some o->H b=none->h'.get? b=some o)
  (slot:∀b o,b≠X.env.locals->b∈X.fs->b∉ch->s.heap.get? b=some o->H b=none->∃sl,h'.get? b=some {o with slots:=sl})(free:∀b o,b∉ch->s.heap.get? b=some o->H b=none->H' b=none)
  (there:∀b o,b∉ch->s.heap.get? b=some o->∃o',h'.get? b=some o')
  (tups:∀b xs,H b=some (.tup xs)->H' b=some (.tup xs))(frzs:∀b o u,H b=some (.frz o u)->H' b=some (.frz o u))(tbls:∀b ps,H b=some (.tbl ps)->∃more,H' b=some (.tbl (ps++more)))
  (ns:∀m,s.heap.Ns X.env.locals m->h'.Ns X.env.locals m)(hok:HOk X.prog X.w H' h')(hg:AllBare g') :
  Inv X pins σ H' {s with heap:=h',gens:=g',drawn:=d',toks:=t' }:=by
 have neL:∀b o,X.s₀.heap.get? b=some o->b≠X.env.locals:=λb o e=>b6L (b6P (b6t e) I.ok.above);have neC:∀b o,X.s₀.heap.get? b=some o->b∉X.ex->b∉ch:=λb o e hx hb=>by
  rcases(hch b hb).1 with z|z
  ·exact hx z
  ·exact absurd (b6P (b6t e) z) (b7y _)
 have cellK:∀x c,X.env.cells.lookup x=some c->∀v,s.heap.IsCell c v->h'.IsCell c v:=λx c e v ⟨o,ho,hd⟩=>by
  have nch:c∉ch:=λz=>(hch c z).2.2.1 x c e rfl;by_cases hc:c∈X.fs
  ·obtain⟨sl,q⟩:=slot c o (I.cne x c e) hc nch ho (I.freeC x c e);exact⟨_,q,hd⟩
  ·exact⟨o,keep c o (I.cne x c e) hc nch ho (I.freeC x c e),hd⟩
 refine⟨I.ok,I.os,hg,⟨λb o e n hb hx=>?_,λb o e n hb hx=>?_,λb o e n hx=>?_,λb o e hx=>?_,λb xs e=>tups b xs (I.base.tups b xs e),λb o xs e=>frzs b o xs (I.base.frzs b o xs e),λb ps e=>?_⟩,?_,λx c e=>?_,?_,λx c e=>?_,λp hp=>?_,hok,I.len⟩
 ·exact keep b o (neL b o e) hb (neC b o e hx) (I.base.keep b o e n hb hx) (I.base.free b o e n hx)
 ·obtain⟨sl,e1⟩:=I.base.slot b o e n hb hx;obtain⟨sl',e2⟩:=slot b _ (neL b o e) hb (neC b o e hx) e1 (I.base.free b o e n hx);exact⟨sl',e2⟩
 ·obtain⟨o',e1⟩:=I.base.there b o e hx;exact free b o' (neC b o e hx) e1 (I.base.free b o e n hx)
 ·obtain⟨o',e1⟩:=I.base.there b o e hx;exact there b o' (neC b o e hx) e1
 ·obtain⟨m1,e1⟩:=I.base.tbls b ps e;obtain⟨m2,e2⟩:=tbls b _ e1;exact⟨m1++m2,by rw[e2,Array.append_assoc]⟩
 ·obtain⟨m,hn,hl⟩:=I.loc;refine⟨m,ns m hn,λi x v e1 e2 e3=>?_⟩;obtain⟨u,r,l⟩:=hl i x v e1 e2 e3;refine⟨u,r,?_⟩;rcases l with l|⟨k,c,e,z⟩
  ·exact .inl l
  ·exact .inr ⟨k,c,e,cellK x c e _ z⟩
 ·obtain⟨v,z⟩:=I.cell x c e;exact⟨v,cellK x c e v z⟩
 ·obtain⟨m,⟨o,_,_,ho,_⟩,_⟩:=I.loc;exact free _ o (λz=>(hch _ z).2.1 rfl) ho I.free
 ·obtain⟨v,o,ho,hd⟩:=I.cell x c e;exact free c o (λz=>(hch c z).2.2.1 x c e rfl) ho (I.freeC x c e)
 ·obtain⟨e,n,ne,nf,d⟩:=I.pin p hp;have nch:p.1∉ch:=λz=>(hch p.1 z).2.2.2 p hp rfl;exact⟨keep p.1 p.2 ne nf nch e n,free p.1 p.2 nch e n,ne,nf,d⟩
theorem Inv.un{t':Nat}(I:Inv X pins σ H s)(u:Un X.fs [] H H' s.heap h')(hok:HOk X.prog X.w H' h'):Inv X pins σ H' {s with heap:=h',toks:=t' }:=by
 obtain⟨m,⟨o,es,ep,ho,r⟩,_⟩:=id I.loc;obtain⟨sl,hL⟩:=u.any ho I.free (by simp);exact I.step (g':=s.gens) (d':=s.drawn) (ch:=[]) (λ_ z=>nomatch z) (λb o _ hb _ e n=>u.keep b o e n hb (by simp)) (λb o _ hb _ e n=>u.slot b o e n hb (by simp)) (λb o _ e n=>u.free b o e n (by simp)) (λb o _ e=>u.there b o e (by simp)) u.tups u.frzs u.tbls (λm' hm=>by
  obtain⟨o',es',ep',ho',r'⟩:=hm;rw[ho] at ho';cases ho';exact⟨_,es',ep',hL,r'⟩) hok I.bare
theorem Inv.call{g':Array GenState}{t':Nat}{d':Drawn}{ch:List Addr}(I:Inv X pins σ H s)(u:Un (frs X.stack) ch H H' s.heap h')(hok:HOk X.prog X.w H' h')(hg:AllBare g')
  (hch:∀b∈ch,(b∈X.ex\/X.s₀.heap.objs.size<=b)/\b≠X.env.locals/\(∀x c,X.env.cells.lookup x=some c->c≠b)/\∀p∈X.pn++pins,p.1≠b) :
  Inv X pins σ H' {s with heap:=h',gens:=g',drawn:=d',toks:=t' }:=by
 obtain⟨m,⟨o,es,ep,ho,r⟩,_⟩:=id I.loc;obtain⟨sl,hL⟩:=u.any ho I.free λz=>(hch _ z).2.1 rfl;exact I.step (ch:=ch) hch (λb o hL hb hc e n=>u.keep b o e n (λz=>(b6D.mp (I.stkSub b z)).elim hL hb) hc) (λb o _ _ hc e n=>u.any e n hc) (λb o hc e n=>u.free b o e n hc) (λb o hc e=>u.there b o e hc) u.tups u.frzs u.tbls (λm' hm=>by
  obtain⟨o',es',ep',ho',r'⟩:=hm;rw[ho] at ho';cases ho';exact⟨_,es',ep',hL,r'⟩) hok hg
theorem Inv.turned{t':Nat}{it:Addr}(I:Inv X pins σ H s)(k:∀b o,b≠it->s.heap.get? b=some o->h'.get? b=some o)(hn:H it=none)(hL:it≠X.env.locals)
  (h1:it∈X.ex\/X.s₀.heap.objs.size<=it)(h2:∀x c,X.env.cells.lookup x=some c->c≠it)(h3:∀p∈X.pn++pins,p.1≠it):Inv X pins σ H {s with heap:=h',toks:=t' }:=by
 have nit:∀b u,H b=some u->b≠it:=λb u e z=>by rw[z,hn] at e;cases e
 refine I.step (g':=s.gens) (d':=s.drawn) (ch:=[it]) (λb hb=>?_) (λb o _ _ hc e _=>k b o (λz=>hc (by simp[z])) e) (λb o _ _ hc e _=>⟨o.slots,k b o (λz=>hc (by simp[z])) e⟩) (λ_ _ _ _ n=>n)
  (λb o hc e=>⟨o,k b o (λz=>hc (by simp[z])) e⟩) (λ_ _ e=>e) (λ_ _ _ e=>e) (λb ps e=>⟨#[],by rw[e];simp⟩) (λm hm=>?_) (λb u e=>?_) I.bare
 ·have e:b=it:=by simpa using hb
  subst e;exact⟨h1,hL,h2,h3⟩
 ·obtain⟨o,es,ep,ho,r⟩:=hm;exact⟨o,es,ep,k _ o (Ne.symm hL) ho,r⟩
 ·refine(I.hok b u e).stay (λc v hc q=>k c v ?_ q) (λ_ q=>q) λ_ _ q=>q;rcases hc with z|z
  ·rw[z];exact nit b u e
  ·exact nit c _ z
theorem Inv.tok(I:Inv X pins σ H s)(t:Nat):Inv X pins σ H {s with toks:=t}:=I.un (h':=s.heap) (t':=t) Un.refl I.hok
theorem Inv.kept{t':Nat}(I:Inv X pins σ H s)(k:∀b u,s.heap.get? b=some u->h'.get? b=some u):Inv X pins σ H {s with heap:=h',toks:=t' }:=I.un (Un.kept k) (I.hok.kept k)
theorem Inv.laid{a:Addr}{o:HO}{t':Nat}(I:Inv X pins σ H s)(k:∀b u,s.heap.get? b=some u->h'.get? b=some u)(hp:s.heap.objs.size<=a)(new:a1s X.prog X.w (upd H a o) h' a o) :
  Inv X pins σ (upd H a o) {s with heap:=h',toks:=t' }:=I.un (Un.laid k hp (I.hok.fresh hp)) (I.hok.laid k hp new)
theorem Inv.write{x e:Addr}{o:HO}{t':Nat}(I:Inv X pins σ H s)(mu:Mut (H x))(he:e=x\/H e=some (.own x))(k:∀b u,b≠e->s.heap.get? b=some u->h'.get? b=some u)(heo:∃u,h'.get? e=some u)
  (new:a1s X.prog X.w (upd H x o) h' x o):Inv X pins σ (upd H x o) {s with heap:=h',toks:=t' }:=I.un (Un.write mu he k heo) (I.hok.write mu he k heo new)
theorem Inv.weak{σ':List (Option V)}(I:Inv X pins σ H s)(hl:σ'.length=σ.length)(w:∀(i:Nat) v,σ'[i]?=some (some v)->σ[i]?=some (some v)):Inv X pins σ' H s:=
 ⟨I.ok,I.os,I.bare,I.base,let ⟨m,hn,hl'⟩:=I.loc;⟨m,hn,λi x v e1 e2 e3=>hl' i x v e1 (w i v e2) e3⟩,I.cell,I.free,I.freeC,I.pin,I.hok,hl.trans I.len⟩
theorem Inv.pins_of{pins':List (Addr×Obj)}(I:Inv X pins σ H s)(h:∀p∈pins',s.heap.get? p.1=some p.2/\H p.1=none/\p.1≠X.env.locals/\p.1∉X.fs/\∀v,p.2.data≠.cell v):Inv X pins' σ H s:=
 ⟨I.ok,I.os,I.bare,I.base,I.loc,I.cell,I.free,I.freeC,λp hp=>(b6G.mp hp).elim (λz=>I.pin p (b7S _ z)) (h p),I.hok,I.len⟩
theorem a6U{N:List Str}(hN:N.Nodup){i j:Nat}{x:Str}(a:N[i]?=some x)(b:N[j]?=some x):i=j:=by
 obtain⟨h1,e1⟩:=b6d.mp a;obtain⟨h2,e2⟩:=b6d.mp b;exact(c0C hN).mp (e1.trans e2.symm)
theorem a5u{M:Model}{A:Around}{E:Value->Shared->Prop}{i:Nat}{x:Str}{v:V}{u:Value}{Q:Unit->Shared->Prop}(I:Inv X pins σ H s)(hN:X.N.Nodup)(hi:X.N[i]?=some x)(hx:Loc X.env.scope x)(r:a1h v u)
  (h:∀s',Inv X pins (σ.set i (some v)) H s'->(∃a,Heap.SameBut a s.heap s'.heap/\(a=X.env.locals\/X.env.cells.lookup x=some a))->Q () s')(hf:X.fn x=true\/X.env.scope.names.lookup x=some .local:=by first|exact .inl rfl|exact .inr rfl|assumption):wpAny M A (storeName X.env x u) Q E s:=by
 obtain⟨m,hn,hl⟩:=id I.loc;have hcls:(X.env.scope.kind==.class||(X.env.scope.kind==.module&&X.env.locals !=X.env.globals))=false:=by rw[I.ok.kind];rfl
 have hiσ:i < σ.length:=by rw[I.len];exact(b6d.mp hi).1
 have cne:=I.cne;have tracked:∀{a:Addr}{h':Heap},(∃o,s.heap.get? a=some o/\H a=none)->Heap.SameBut a s.heap h'->HOk X.prog X.w H h':=λ{a h'} ha hs b ob e=>by
  obtain⟨_,_,hfree⟩:=ha;refine(I.hok b ob e).stay (λc w' hc q=>(hs.2 c ?_).trans q) (λ_ q=>q) λ_ _ q=>q;rintro rfl;rcases hc with rfl|hc
  ·rw[hfree] at e;cases e
  ·rw[hfree] at hc;cases hc
 rcases hx with hk|hk
 ·refine wpAny_storeName_local hk hn (λh' hn' hs=>?_) hcls;obtain⟨oL,_,_,hoL,_⟩:=id hn;refine h _ ⟨I.ok,I.os,I.bare,⟨λb o e n hb hx=>?_,λb o e n hb hx=>?_,I.base.free,λb o e hx=>?_,I.base.tups,I.base.frzs,I.base.tbls⟩,⟨_,hn',λj y v' e1 e2 e3=>?_⟩,λy c e=>?_,I.free,I.freeC,λp hp=>?_,tracked ⟨oL,hoL,I.free⟩ hs,by simpa using I.len⟩ ⟨_,hs,.inl rfl⟩
  ·exact(hs.2 b (b6L (b6P (b6t e) I.ok.above))).trans (I.base.keep b o e n hb hx)
  ·obtain⟨sl,e1⟩:=I.base.slot b o e n hb hx;exact⟨sl,(hs.2 b (b6L (b6P (b6t e) I.ok.above))).trans e1⟩
  ·obtain⟨o',e1⟩:=I.base.there b o e hx;exact⟨o',(hs.2 b (b6L (b6P (b6t e) I.ok.above))).trans e1⟩
  ·by_cases hj:j=i
   ·subst hj;rw[hi] at e1;cases e1;rw[b8H hiσ] at e2;cases e2;exact⟨u,r,.inl ⟨hk,by simp⟩⟩
   ·rw[b8Z (Ne.symm hj)] at e2;obtain⟨u',r',q⟩:=hl j y v' e1 e2 e3;refine⟨u',r',?_⟩;rcases q with ⟨k,e⟩|⟨k,c,e,z⟩
    ·refine .inl ⟨k,?_⟩;have:y≠x:=λe=>hj (a6U hN e1 (e▸hi));simp[this,e]
    ·exact .inr ⟨k,c,e,z.sameBut hs (cne y c e)⟩
  ·obtain⟨w',z⟩:=I.cell y c e;exact⟨w',z.sameBut hs (cne y c e)⟩
  ·obtain⟨e,n,ne,nf,d⟩:=I.pin p hp;exact⟨(hs.2 p.1 ne).trans e,n,ne,nf,d⟩
 ·have hfn:X.fn x=true:=by
   rcases hf with z|z
   ·exact z
   ·rw[z] at hk;cases hk
  obtain⟨c,hc⟩:=I.ok.has x (.inl hk);obtain⟨w',z⟩:=I.cell x c hc;refine wpAny_storeName_cell I.ok.kind hk hc z (λh' hc' hs=>?_);obtain⟨oc,hoc,hocd⟩:=id z;refine h {s with heap:=h' } ⟨I.ok,I.os,I.bare,⟨λb o e n hb hx=>?_,λb o e n hb hx=>?_,I.base.free,λb o e hx=>?_,I.base.tups,I.base.frzs,I.base.tbls⟩,⟨m,hn.sameBut hs (Ne.symm (cne x c hc)),λj y v' e1 e2 e3=>?_⟩,λy c' e=>?_,I.free,I.freeC,λp hp=>?_,tracked ⟨oc,hoc,I.freeC x c hc⟩ hs,by simpa using I.len⟩ ⟨c,hs,.inr hc⟩
  ·exact(hs.2 b (b6L (b6P (b6t e) (I.ok.cab x c hfn hc)))).trans (I.base.keep b o e n hb hx)
  ·obtain⟨sl,e1⟩:=I.base.slot b o e n hb hx;exact⟨sl,(hs.2 b (b6L (b6P (b6t e) (I.ok.cab x c hfn hc)))).trans e1⟩
  ·obtain⟨o',e1⟩:=I.base.there b o e hx;exact⟨o',(hs.2 b (b6L (b6P (b6t e) (I.ok.cab x c hfn hc)))).trans e1⟩
  ·by_cases hj:j=i
   ·subst hj;rw[hi] at e1;cases e1;rw[b8H hiσ] at e2;cases e2;exact⟨u,r,.inr ⟨.inl hk,c,hc,hc'⟩⟩
   ·rw[b8Z (Ne.symm hj)] at e2;obtain⟨u',r',q⟩:=hl j y v' e1 e2 e3;refine⟨u',r',?_⟩;rcases q with q|⟨k,c',e,z'⟩
    ·exact .inl q
    ·refine .inr ⟨k,c',e,z'.sameBut hs ?_⟩;rintro rfl;exact hj (a6U hN e1 (I.ok.inj _ _ _ e hc▸hi))
  ·by_cases hcc:c'=c
   ·subst hcc;exact⟨_,hc'⟩
   ·obtain⟨w2,z2⟩:=I.cell y c' e;exact⟨w2,z2.sameBut hs hcc⟩
  ·obtain⟨e,n,ne,nf,d⟩:=I.pin p hp;refine⟨(hs.2 p.1 ?_).trans e,n,ne,nf,d⟩;intro q;rw[q,hoc] at e;have q':oc=p.2:=b6I e;exact d w' (by rw[<-q'];exact hocd)
theorem a6V{M:Model}{A:Around}{E:Value->Shared->Prop}{i:Nat}{x:Str}{v:V}{u:Value}{Q:Unit->Shared->Prop}(I:Inv X pins σ H s)(hN:X.N.Nodup)(hi:X.N[i]?=some x)(hx:Loc X.env.scope x)(r:a1h v u)
  (h:∀s',Inv X pins (σ.set i (some v)) H s'->Q () s')(hf:X.fn x=true\/X.env.scope.names.lookup x=some .local:=by first|exact .inl rfl|exact .inr rfl|assumption):wpAny M A (storeName X.env x u) Q E s:=
 a5u I hN hi hx r (λs' I' _=>h s' I') hf
theorem Inv.call'{s':Shared}{ch:List Addr}(I:Inv X pins σ H s)(ho:s'.os=s.os)(u:Un (frs X.stack) ch H H' s.heap s'.heap)(hok:HOk X.prog X.w H' s'.heap)(hg:AllBare s'.gens)
  (hch:∀b∈ch,(b∈X.ex\/X.s₀.heap.objs.size<=b)/\b≠X.env.locals/\(∀x c,X.env.cells.lookup x=some c->c≠b)/\∀p∈X.pn++pins,p.1≠b):Inv X pins σ H' s':=by
 obtain⟨h',g',d',t',o'⟩:=s';have e:o'=s.os:=ho;subst e;exact I.call (g':=g') (t':=t') (d':=d') u hok hg hch
end
abbrev XK:=Value->Option Addr->Hp->Prop
abbrev St:=List (Option V)
abbrev VK:=V->Hp->Prop
abbrev TE:=St->Hp->VK->Prop
abbrev TT:=St->Hp->(Bool->Hp->Prop)->Prop
abbrev TA:=St->Hp->(List V->Hp->Prop)->Prop
structure a8v where
 nx:St->Hp->Prop
 rt:VK
 bk:St->Hp->Prop:=λ_ _=>False
 ct:St->Hp->Prop:=λ_ _=>False
abbrev TS:=a8v->St->Hp->Prop
def EP(X:Cx)(pins:List (Addr×Obj))(σ:St)(Q:VK)(u:Value)(s':Shared):Prop:=∃v H',Inv X pins σ H' s'/\a1h v u/\Q v H'
def TP(X:Cx)(pins:List (Addr×Obj))(σ:St)(Q:Bool->Hp->Prop)(b:Bool)(s':Shared):Prop:=∃H',Inv X pins σ H' s'/\Q b H'
def AP(X:Cx)(pins:List (Addr×Obj))(σ:St)(Q:List V->Hp->Prop)(us:List Value)(s':Shared):Prop:=∃vs H',Inv X pins σ H' s'/\a0P vs us/\Q vs H'
def SP(X:Cx)(pins:List (Addr×Obj))(D:a8v)(f:Flow)(s':Shared):Prop:=
 match f with
 |.next=>∃σ' H',Inv X pins σ' H' s'/\D.nx σ' H'
 |.brk=>∃σ' H',Inv X pins σ' H' s'/\D.bk σ' H'
 |.cont=>∃σ' H',Inv X pins σ' H' s'/\D.ct σ' H'
 |.ret u=>∃v σ' H',Inv X pins σ' H' s'/\a1h v u/\D.rt v H'
def PE(X:Cx)(e:Expr)(t:TE):Prop:=
 ∀(pins:List (Addr×Obj))(s:Shared)(σ:St)(H:Hp)(Q:VK),Inv X pins σ H s->t σ H Q->wpAny (model X.prog X.w) X.A (eval e X.env) (EP X pins σ Q) X.xe s
def PT(X:Cx)(e:Expr)(t:TT):Prop:=
 ∀(pins:List (Addr×Obj))(s:Shared)(σ:St)(H:Hp)(Q:Bool->Hp->Prop),Inv X pins σ H s->t σ H Q->wpAny (model X.prog X.w) X.A (isTrue e X.env (eval e X.env)) (TP X pins σ Q) X.xe s
def PW(X:Cx)(e:Expr)(t:TT):Prop:=
 ∀(whole:Sem Value)(pins:List (Addr×Obj))(s:Shared)(σ:St)(H:Hp)(Q:Bool->Hp->Prop),Inv X pins σ H s->t σ H Q->wpAny (model X.prog X.w) X.A (isTrue e X.env whole) (TP X pins σ Q) X.xe s
theorem PW.pt{X:Cx}{e:Expr}{t:TT}(h:PW X e t):PT X e t:=h _
def PA(X:Cx)(es:List Expr)(t:TA):Prop:=
 ∀(pos:Pos)(pins:List (Addr×Obj))(s:Shared)(σ:St)(H:Hp)(Q:List V->Hp->Prop),Inv X pins σ H s->t σ H Q->wpAny (model X.prog X.w) X.A (spliced (backTo pos (starEach es X.env))) (AP X pins σ Q) X.xe s
def PS(X:Cx)(st:Stmt)(t:TS):Prop:=
 ∀(pins:List (Addr×Obj))(s:Shared)(σ:St)(H:Hp)(D:a8v),Inv X pins σ H s->t D σ H->wpAny (model X.prog X.w) X.A (exec st X.env) (SP X pins D) X.xe s
def PSs(X:Cx)(st:List Stmt)(t:TS):Prop:=
 ∀(pins:List (Addr×Obj))(s:Shared)(σ:St)(H:Hp)(D:a8v),Inv X pins σ H s->t D σ H->wpAny (model X.prog X.w) X.A (execs st X.env) (SP X pins D) X.xe s
theorem thn{α:Type}{t:Sem α}{Q Q':α->Shared->Prop}{M:Model}{A:Around}{E:Value->Shared->Prop}{s:Shared}(h:wpAny M A t Q E s)(hQ:∀a s,Q a s->Q' a s):wpAny M A t Q' E s:=b8V h hQ λ_ _ x=>x
section
variable {X:Cx}
def b3Q(i:Nat):TE:=λσ H Q=>∃v,σ[i]?=some (some v)/\Q v H
def tC(v:V):TE:=λ_ H Q=>Q v H
theorem pe_var{i:Nat}{x:Str}{pos:Pos}(hN:X.N[i]?=some x)(hv:Vis X.env.scope x)(hd:(x==("__debug__":Str))=false:=by decide)(hcd:(x==("__classdict__":Str))=false:=by decide):PE X (.Name x pos) (b3Q i):=by
 intro pins s σ H Q I h;obtain⟨v,e,h⟩:=h;obtain⟨m,hn,hl⟩:=I.loc;obtain⟨u,r,l⟩:=hl i x v hN e hv;have fin:EP X pins σ Q u s:=⟨v,H,I,r,h⟩
 rcases l with ⟨hk,hm⟩|⟨hk,c,hc,hcell⟩
 ·exact wpAny_Name (wpAny_loadName_local I.ok.kind hk hn hm fin) hd
 ·rcases hk with hk|hk
  ·exact wpAny_Name (wpAny_loadName_cell I.ok.kind hk hc hcell fin) hd
  ·exact wpAny_Name (wpAny_loadName_free I.ok.kind hk hc hcell fin hcd) hd
theorem a0h{i j pos}:PE X (.Constant (.int i) j pos) (tC (.int i)):=λ_ _ _ H _ I h=>wpAny_Constant_int ⟨.int i,H,I.tok _,⟨_,rfl⟩,h⟩
theorem a6t{b j pos}:PE X (.Constant (.bool b) j pos) (tC (.bl b)):=λ_ _ _ H _ I h=>Constant_bool ⟨.bl b,H,I,rfl,h⟩
theorem a2J{j pos}:PE X (.Constant .none j pos) (tC .non):=λ_ _ _ H _ I h=>Constant_none ⟨.non,H,I,rfl,h⟩
theorem a0t{x j pos}:PE X (.Constant (.str x) j pos) (tC (.str x)):=λ_ _ _ H _ I h=>Calls.Constant_str ⟨.str x,H,I.tok _,⟨_,rfl⟩,h⟩
def Gl(X:Cx)(x:Str):Prop:=X.env.kindOf x=some .globalImplicit
theorem a4F{E:Value->Shared->Prop}{pins:List (Addr×Obj)}{s:Shared}{σ:St}{H:Hp}{x:Str}{u:Value}{pos:Pos}{Q:Value->Shared->Prop}(I:Inv X pins σ H s)(hg:Gl X x)(hm:X.mg x=some u)(h:Q u s)
  (hd:(x==("__debug__":Str))=false:=by decide):wpAny (model X.prog X.w) X.A (eval (.Name x pos) X.env) Q E s:=
 Calls.Name_function_global I.ok.kind hg (Calls.loadGlobal_global (by rw[I.ok.glob];exact I.mod.glob.keeps I.bk) hm h) hd
theorem a2K{E:Value->Shared->Prop}{pins:List (Addr×Obj)}{s:Shared}{σ:St}{H:Hp}{x:Str}{u:Value}{pos:Pos}{Q:Value->Shared->Prop}(I:Inv X pins σ H s)(hg:Gl X x)(hm:X.mg x=none)(hv:bootBuiltins x=some u)(h:Q u s)
  (hn:x≠"__name__":=by decide)(hd:(x==("__debug__":Str))=false:=by decide):wpAny (model X.prog X.w) X.A (eval (.Name x pos) X.env) Q E s:=by
 obtain⟨mb,h1,h2⟩:=I.mod.blt;exact Calls.Name_function_global I.ok.kind hg (Calls.loadGlobal_builtin (by rw[I.ok.glob];exact I.mod.glob.keeps I.bk) hm (by rw[I.ok.blt];exact h1.keeps I.bk) ((h2 x hn).trans hv) h) hd
theorem a2a{x:Str}{v:V}{u:Value}{pos:Pos}(hg:Gl X x)(hm:X.mg x=some u)(r:a1h v u)(hd:(x==("__debug__":Str))=false:=by decide):PE X (.Name x pos) (tC v):=
 λ_ _ _ H _ I h=>a4F I hg hm ⟨v,H,I,r,h⟩ hd
def t2I(ta tb:TE)(k:Int->Int->Hp->Prop):St->Hp->Prop:=λσ H=>ta σ H λx H1=>tb σ H1 λy H2=>∃i j,x=.int i/\y=.int j/\k i j H2
def tMul(ta tb:TE):TE:=λσ H Q=>t2I ta tb (λi j H2=>(-(2 ^ 64)<i/\i<2 ^ 64)/\Q (.int (i*j)) H2) σ H
variable {a b:Expr}{ta tb:TE}{pos:Pos}
def PC(X:Cx)(op:CmpOp)(a b:Expr)(t:TE):Prop:=
 ∀(pins:List (Addr×Obj))(s:Shared)(σ:St)(H:Hp)(Q:VK),Inv X pins σ H s->t σ H Q ->
  wpAny (model X.prog X.w) X.A (eval a X.env) (λv s₁=>wpAny (model X.prog X.w) X.A (eval b X.env) (λu s₂=>wpAny (model X.prog X.w) X.A (compareOp op v u) (EP X pins σ Q) X.xe s₂) X.xe s₁) X.xe s
theorem nobehind(b:Expr){op:CmpOp}(h:op≠.In)(h2:op≠.NotIn):behindInMarks op b=false:=by
 have e1:(op==CmpOp.In)=false:=by cases op<;>first|rfl|exact absurd rfl h
 have e2:(op==CmpOp.NotIn)=false:=by cases op<;>first|rfl|exact absurd rfl h2
 cases b<;>simp[behindInMarks,e1,e2]
def tIsN(ta:TE):TE:=λσ H Q=>ta σ H λx H1=>Q (.bl (decide (x=.non))) H1
def tNotN(ta:TE):TE:=λσ H Q=>ta σ H λx H1=>Q (.bl (!decide (x=.non))) H1
theorem a1h.none_iff{x:V}{v:Value}(r:a1h x v):(v==Value.none)=decide (x=.non):=by
 cases x with
 |non=>cases r;rfl
 |bl _=>cases r;rfl
 |int _=>obtain⟨t,rfl⟩:=r;rfl
 |str _=>obtain⟨t,rfl⟩:=r;rfl
 |byt _=>obtain⟨t,rfl⟩:=r;rfl
 |flt _=>obtain⟨t,rfl⟩:=r;rfl
 |ref _=>cases r;rfl
 |ty _=>cases r;rfl
theorem a8w{j pos'}(ha:PE X a ta):PC X .Is a (.Constant .none j pos') (tIsN ta):=by
 intro pins s σ H Q I h;refine thn (ha pins s σ H _ I h) λv s1 ⟨x,H1,I1,r1,q1⟩=>?_;exact Constant_none (is_none_gen ⟨.bl _,H1,I1,by rw[r1.none_iff];rfl,q1⟩)
theorem a8x{j pos'}(ha:PE X a ta):PC X .IsNot a (.Constant .none j pos') (tNotN ta):=by
 intro pins s σ H Q I h;refine thn (ha pins s σ H _ I h) λv s1 ⟨x,H1,I1,r1,q1⟩=>?_;exact Constant_none (isnot_none_gen ⟨.bl _,H1,I1,by rw[r1.none_iff];rfl,q1⟩)
def tB(t:TE):TT:=λσ H Q=>t σ H λx H1=>∃c,x=.bl c/\Q c H1
theorem a4p{op:CmpOp}{t:TE}(h:PC X op a b t)(h1:behindInMarks op b=false:=by first|exact nobehind _ (by decide) (by decide)|rfl):PT X (.Compare a [op] [b] pos) (tB t):=by
 intro pins s σ H Q I hw;refine wpAny_isTrue_Compare1 (thn (h pins s σ H _ I hw) λv s1 h1=>thn h1 λu s2 h2=>thn h2 λc s3 ⟨x,H1,I1,r1,q1⟩=>?_) h1;obtain⟨d,rfl,q⟩:=q1;cases r1;exact b7u ⟨H1,I1,q⟩
theorem a1x{e:Expr}{t:TE}(h:PE X e t)(he:∀whole,isTrue e X.env whole=(do let v <-whole;standAt e.pos;holding [v] (truthy v)):=by intro _;rfl):PT X e (tB t):=by
 intro pins s σ H Q I hw;refine isTrue_plain (thn (h pins s σ H _ I hw) λv s1 ⟨x,H1,I1,r1,q1⟩=>?_) (he _);obtain⟨d,rfl,q⟩:=q1;cases r1;exact b7u ⟨H1,I1,q⟩
variable {tA tB':TT}{rest:List Expr}
def tAnd(t u:TT):TT:=λσ H Q=>t σ H λc H1=>if c=true then u σ H1 Q else Q false H1
def tOr(t u:TT):TT:=λσ H Q=>t σ H λc H1=>if c=true then Q true H1 else u σ H1 Q
def tNot(t:TT):TT:=λσ H Q=>t σ H λc H1=>Q (!c) H1
theorem a4G(ha:PT X a tA):PW X (.BoolOp .And [a] pos) tA:=by
 intro wh pins s σ H Q I h;refine isTrue_and (thn (ha pins s σ H Q I h) λc s1 e=>?_);cases c with
 |true=>exact isTrue_and_nil e
 |false=>exact e
theorem a2w(ha:PT X a tA):PW X (.BoolOp .Or [a] pos) tA:=by
 intro wh pins s σ H Q I h;refine isTrue_or (thn (ha pins s σ H Q I h) λc s1 e=>?_);cases c with
 |false=>exact isTrue_or_nil e
 |true=>exact e
theorem a5v(ha:PT X a tA)(hb:PW X (.BoolOp .And (b::rest) pos) tB'):PW X (.BoolOp .And (a::b::rest) pos) (tAnd tA tB'):=by
 intro wh pins s σ H Q I h;refine isTrue_and (thn (ha pins s σ H _ I h) λc s1 ⟨H1,I1,q1⟩=>?_);cases c with
 |true=>exact hb wh pins s1 σ H1 Q I1 q1
 |false=>exact⟨H1,I1,q1⟩
theorem a4g(ha:PT X a tA)(hb:PW X (.BoolOp .Or (b::rest) pos) tB'):PW X (.BoolOp .Or (a::b::rest) pos) (tOr tA tB'):=by
 intro wh pins s σ H Q I h;refine isTrue_or (thn (ha pins s σ H _ I h) λc s1 ⟨H1,I1,q1⟩=>?_);cases c with
 |true=>exact⟨H1,I1,q1⟩
 |false=>exact hb wh pins s1 σ H1 Q I1 q1
theorem a1o(ha:PT X a tA):PT X (.UnaryOp .Not a pos) (tNot tA):=by
 intro pins s σ H Q I h;exact isTrue_not (ha pins s σ H (λc H1=>Q (!c) H1) I h)
def tAndV(ta tb:TE):TE:=λσ H Q=>ta σ H λx H1=>∃c,x=.bl c/\if c=true then tb σ H1 Q else Q (.bl false) H1
def tOrV(ta tb:TE):TE:=λσ H Q=>ta σ H λx H1=>∃c,x=.bl c/\if c=true then Q (.bl true) H1 else tb σ H1 Q
theorem a2x{op}{t:TE}(h:PE X a t):PE X (.BoolOp op [a] pos) t:=λpins s σ H Q I hw=>BoolOp_one (h pins s σ H Q I hw)
theorem a2i(ha:PE X a ta)(hb:PE X (.BoolOp .And (b::rest) pos) tb):PE X (.BoolOp .And (a::b::rest) pos) (tAndV ta tb):=by
 intro pins s σ H Q I h;refine BoolOp_and (thn (ha pins s σ H _ I h) λv s1 ⟨x,H1,I1,r1,q1⟩=>?_);obtain⟨c,rfl,q1⟩:=q1;cases r1;refine b7u ?_;cases c with
 |true=>exact hb pins s1 σ H1 Q I1 q1
 |false=>exact⟨.bl false,H1,I1,rfl,q1⟩
theorem b3R(ha:PE X a ta)(hb:PE X (.BoolOp .Or (b::rest) pos) tb):PE X (.BoolOp .Or (a::b::rest) pos) (tOrV ta tb):=by
 intro pins s σ H Q I h;refine BoolOp_or (thn (ha pins s σ H _ I h) λv s1 ⟨x,H1,I1,r1,q1⟩=>?_);obtain⟨c,rfl,q1⟩:=q1;cases r1;refine b7u ?_;cases c with
 |false=>exact hb pins s1 σ H1 Q I1 q1
 |true=>exact⟨.bl true,H1,I1,rfl,q1⟩
def tIf(t:TT)(ta tb:TE):TE:=λσ H Q=>t σ H λc H1=>if c=true then ta σ H1 Q else tb σ H1 Q
theorem b0W{c:Expr}(hc:PT X c tA)(ha:PE X a ta)(hb:PE X b tb):PE X (.IfExp c a b pos) (tIf tA ta tb):=by
 intro pins s σ H Q I h;refine wpAny_IfExp (thn (hc pins s σ H _ I h) λd s1 ⟨H1,I1,q1⟩=>?_);cases d with
 |true=>exact ha pins s1 σ H1 Q I1 q1
 |false=>exact hb pins s1 σ H1 Q I1 q1
end
def SqL(K:PySem.W.Frag)(H:Hp)(a:Addr)(xs:List V):Prop:=
 Rd H a (.lst xs) \/
  ∃(o:Obj)(its:Array Value)(n:Nat),K.lookup a=some o/\o.cls=.type "list"/\o.dict=none/\o.data=.seq its n/\its.size<=sizeLine/\a0P xs its.toList
def SqT(K:PySem.W.Frag)(H:Hp)(a:Addr)(xs:List V):Prop:=
 Rd H a (.tup xs) \/
  ∃(o:Obj)(its:Array Value)(n:Nat),K.lookup a=some o/\o.cls=.type "tuple"/\o.data=.seq its n/\its.size<=sizeLine/\a0P xs its.toList
def absV:Value->Option V
 |.none=>some .non
 |.bool b=>some (.bl b)
 |.int i _=>some (.int i)
 |.str x _=>some (.str x)
 |.bytes b _=>some (.byt b)
 |.float b _=>some (.flt b)
 |.ref a=>some (.ref a)
 |.type n=>some (.ty n)
 |_=>none
theorem a1h.abs{x:V}{u:Value}(r:a1h x u):absV u=some x:=by
 cases x with
 |non=>cases r;rfl
 |bl _=>cases r;rfl
 |int _=>obtain⟨t,rfl⟩:=r;rfl
 |str _=>obtain⟨t,rfl⟩:=r;rfl
 |byt _=>obtain⟨t,rfl⟩:=r;rfl
 |flt _=>obtain⟨t,rfl⟩:=r;rfl
 |ref _=>cases r;rfl
 |ty _=>cases r;rfl
theorem a1h.inj{x y:V}{u:Value}(r:a1h x u)(q:a1h y u):x=y:=b6I (r.abs.symm.trans q.abs)
theorem a0P.inj:∀{xs ys:List V}{us:List Value},a0P xs us->a0P ys us->xs=ys
 |_,_,_,.nil,.nil=>rfl
 |_,_,_,.cons r t,.cons r' t'=>by rw[r.inj r',a0P.inj t t']
section
variable {X:Cx}{pins:List (Addr×Obj)}{σ:St}{H:Hp}{s:Shared}{a:Addr}{xs ys:List V}
theorem SqL.of{K:PySem.W.Frag}(h:H a=some (.lst xs)):SqL K H a xs:=.inl (.inl h)
theorem SqT.of{K:PySem.W.Frag}(h:H a=some (.tup xs)):SqT K H a xs:=.inl (.inl h)
theorem Inv.list(I:Inv X pins σ H s)(h:SqL X.K H a xs):∃its:List Value,a0P xs its/\PlainL s.heap a its.toArray/\xs.length<=sizeLine:=by
 rcases h with h|⟨o,its,n,hk,hc,hd,hs,hz,r⟩
 ·obtain⟨z,its,n,r,e⟩:=h.ok I.hok;exact⟨its,r,⟨_,n,e,rfl,rfl,rfl⟩,z⟩
 ·refine⟨its.toList,r,⟨o,n,I.kIn a o hk,hc,hd,by simpa using hs⟩,?_⟩;have e:=r.length;simp only[b6H] at e;omega
theorem Inv.tuple(I:Inv X pins σ H s)(h:SqT X.K H a xs):∃its:List Value,a0P xs its/\IsTup s.heap a its.toArray/\xs.length<=sizeLine:=by
 rcases h with h|⟨o,its,n,hk,hc,hs,hz,r⟩
 ·obtain⟨z,its,r,p⟩:=h.ok I.hok;exact⟨its,r,p.is,z⟩
 ·refine⟨its.toList,r,⟨o,I.kIn a o hk,hc,n,by simpa using hs⟩,?_⟩;have e:=r.length;simp only[b6H] at e;omega
theorem Inv.list_inj(I:Inv X pins σ H s)(h:SqL X.K H a xs)(h':SqL X.K H a ys):xs=ys:=by
 obtain⟨its,r,⟨o,n,e,_,_,d⟩,_⟩:=I.list h;obtain⟨its',r',⟨o',n',e',_,_,d'⟩,_⟩:=I.list h';rw[e] at e';cases e';rw[d] at d';injection d' with d1 _;have:its=its':=by simpa using b7d Array.toList d1
 subst this;exact r.inj r'
theorem Inv.tuple_inj(I:Inv X pins σ H s)(h:SqT X.K H a xs)(h':SqT X.K H a ys):xs=ys:=by
 obtain⟨its,r,⟨o,e,_,n,d⟩,_⟩:=I.tuple h;obtain⟨its',r',⟨o',e',_,n',d'⟩,_⟩:=I.tuple h';rw[e] at e';cases e';rw[d] at d';injection d' with d1 _;have:its=its':=by simpa using b7d Array.toList d1
 subst this;exact r.inj r'
end
abbrev Cx.wish(X:Cx)(E:Value->Shared->Prop):Cx:={X with xe:=E}
abbrev Cx.nox(X:Cx):Cx:=X.wish λ_ _=>False
theorem Cx.Ok.wish{X:Cx}(ok:X.Ok)(E:Value->Shared->Prop):(X.wish E).Ok:=
 ⟨ok.mod,ok.kind,ok.glob,ok.blt,ok.above,ok.inj,ok.has,ok.cab,ok.hd,ok.frames,ok.stk,ok.exf,ok.bs,ok.bsz,ok.noex,ok.exfs,ok.funs,ok.frf⟩
theorem Cx.Ok.unwish{X:Cx}{E:Value->Shared->Prop}(ok:(X.wish E).Ok):X.Ok:=
 ⟨ok.mod,ok.kind,ok.glob,ok.blt,ok.above,ok.inj,ok.has,ok.cab,ok.hd,ok.frames,ok.stk,ok.exf,ok.bs,ok.bsz,ok.noex,ok.exfs,ok.funs,ok.frf⟩
section
variable {X:Cx}{pins:List (Addr×Obj)}{σ:St}{H:Hp}{s:Shared}{E:Value->Shared->Prop}
theorem Inv.wish(I:Inv X pins σ H s)(E:Value->Shared->Prop):Inv (X.wish E) pins σ H s:=⟨I.ok.wish E,I.os,I.bare,I.base,I.loc,I.cell,I.free,I.freeC,I.pin,I.hok,I.len⟩
theorem Inv.unwish(I:Inv (X.wish E) pins σ H s):Inv X pins σ H s:=⟨I.ok.unwish,I.os,I.bare,I.base,I.loc,I.cell,I.free,I.freeC,I.pin,I.hok,I.len⟩
theorem SP.unwish{D:a8v}{f:Flow}{s':Shared}(h:SP (X.wish E) pins D f s'):SP X pins D f s':=by
 cases f with
 |next=>obtain⟨σ',H',I,q⟩:=h;exact⟨σ',H',I.unwish,q⟩
 |brk=>obtain⟨σ',H',I,q⟩:=h;exact⟨σ',H',I.unwish,q⟩
 |cont=>obtain⟨σ',H',I,q⟩:=h;exact⟨σ',H',I.unwish,q⟩
 |ret u=>obtain⟨v,σ',H',I,r,q⟩:=h;exact⟨v,σ',H',I.unwish,r,q⟩
theorem PSs.nox{st:List Stmt}{t:TS}(h:PSs X.nox st t):PSs X st t:=λpins s σ H D I hw=>
 b8V (h pins s σ H D (I.wish _) hw) (λ_ _ q=>q.unwish) λ_ _ z=>False.elim z
end
section
variable {X:Cx}{st:Stmt}{rest:List Stmt}{t u:TS}{e:Expr}{te:TE}{pos:Pos}
def tNext:TS:=λD σ H=>D.nx σ H
def tSeq(t u:TS):TS:=λD σ H=>t {D with nx:=u D} σ H
theorem a0n:PSs X [] tNext:=λ_ _ σ H _ I h=>b9m ⟨σ,H,I,h⟩
theorem a0c(h1:PS X st t)(h2:PSs X rest u):PSs X (st::rest) (tSeq t u):=by
 intro pins s σ H D I h;refine wpAny_execs_cons (thn (h1 pins s σ H {D with nx:=u D} I h) λf s1 q=>?_);cases f with
 |next=>
  obtain⟨σ',H',I',q⟩:=q;exact h2 pins s1 σ' H' D I' q
 |ret v=>exact q
 |brk=>exact q
 |cont=>exact q
theorem a0f(h1:PS X st t):PSs X [st] t:=by
 intro pins s σ H D I h;refine wpAny_execs_cons (thn (h1 pins s σ H D I h) λf s1 q=>?_);cases f with
 |next=>exact b9m q
 |ret v=>exact q
 |brk=>exact q
 |cont=>exact q
theorem Inv.quiet{pins:List (Addr×Obj)}{σ:St}{H:Hp}{s:Shared}(I:Inv X pins σ H s):interactive X.env=false:=by simp[interactive,I.ok.kind]
def tDrop(te:TE):TS:=λD σ H=>te σ H λ_ H1=>D.nx σ H1
theorem a0J(he:PE X e te)(hs:swapsWith e none pos.line X.env=pure false:=by rfl):PS X (.Expr e pos) (tDrop te):=by
 intro pins s σ H D I h;exact wpAny_Expr_any (thn (he pins s σ H _ I h) λv s1 ⟨x,H1,I1,r1,q1⟩=>⟨σ,H1,I1,q1⟩) I.quiet hs
def tRet(te:TE):TS:=λD σ H=>te σ H D.rt
theorem a0o(he:PE X e te):PS X (.Return (some e) pos) (tRet te):=by
 intro pins s σ H D I h;exact wpAny_Return_some (thn (he pins s σ H _ I h) λv s1 ⟨x,H1,I1,r1,q1⟩=>⟨x,σ,H1,I1,r1,q1⟩)
def tIfS(c:TT)(t u:TS):TS:=λD σ H=>c σ H λb H1=>if b=true then t D σ H1 else u D σ H1
theorem a0z{c:Expr}{a b:List Stmt}{tc:TT}(hc:PT X c tc)(ha:PSs X a t)(hb:PSs X b u):PS X (.If c a b pos) (tIfS tc t u):=by
 intro pins s σ H D I h;refine wpAny_If (thn (hc pins s σ H _ I h) λd s1 ⟨H1,I1,q1⟩=>?_);cases d with
 |true=>exact ha pins s1 σ H1 D I1 q1
 |false=>exact hb pins s1 σ H1 D I1 q1
def tNever:TS:=λ_ _ _=>False
end
abbrev TG:=V->St->Hp->(St->Hp->Prop)->Prop
abbrev TGs:=List V->St->Hp->(St->Hp->Prop)->Prop
def PG(X:Cx)(target:Expr)(t:TG):Prop:=
 ∀(pins:List (Addr×Obj))(s:Shared)(σ:St)(H:Hp)(v:V)(u:Value)(Q:St->Hp->Prop),Inv X pins σ H s->a1h v u->t v σ H Q ->
  wpAny (model X.prog X.w) X.A (assign target X.env u) (λ_ s'=>∃σ' H',Inv X pins σ' H' s'/\Q σ' H') X.xe s
def PGs(X:Cx)(ts:List Expr)(t:TGs):Prop:=
 ∀(pins:List (Addr×Obj))(s:Shared)(σ:St)(H:Hp)(vs:List V)(us:List Value)(Q:St->Hp->Prop),Inv X pins σ H s->a0P vs us->t vs σ H Q ->
  wpAny (model X.prog X.w) X.A (assignInOrder ((assignEach ts X.env).map (·.2)) us) (λ_ s'=>∃σ' H',Inv X pins σ' H' s'/\Q σ' H') X.xe s
abbrev TSet:=V->V->V->Hp->(Hp->Prop)->Prop
def PSet(X:Cx)(t:TSet):Prop:=
 ∀(pins:List (Addr×Obj))(s:Shared)(σ:St)(H:Hp)(o i v:V)(ov iv u:Value)(Q:Hp->Prop),Inv X pins σ H s->a1h o ov->a1h i iv->a1h v u->t o i v H Q ->
  wpAny (model X.prog X.w) X.A (setItem ov iv u) (λ_ s'=>∃H',Inv X pins σ H' s'/\Q H') X.xe s
abbrev TIp:=V->V->Hp->VK->Prop
section
variable {X:Cx}{pos:Pos}
def a1B(i:Nat):TG:=λv σ H Q=>Q (σ.set i (some v)) H
theorem a2C{i:Nat}{x:Str}(hN:X.N.Nodup)(hi:X.N[i]?=some x)(hx:Loc X.env.scope x)(hf:X.fn x=true\/X.env.scope.names.lookup x=some .local:=by first|exact .inl rfl|exact .inr rfl|assumption):PG X (.Name x pos) (a1B i):=by
 intro pins s σ H v u Q I r h;exact wpAny_assign_Name (a6V I hN hi hx r (λs' I'=>⟨_,H,I',h⟩) hf)
def gNil:TGs:=λvs σ H Q=>vs=[]/\Q σ H
def b3S(t:TG)(u:TGs):TGs:=λvs σ H Q=>∃v r,vs=v::r/\t v σ H λσ' H'=>u r σ' H' Q
theorem a2Z:PGs X [] gNil:=by
 intro pins s σ H vs us Q I r h;obtain⟨e,h⟩:=h;subst e;cases r;exact assignInOrder_nil ⟨σ,H,I,h⟩
theorem a1l{e:Expr}{es:List Expr}{t:TG}{u:TGs}(h1:PG X e t)(h2:PGs X es u)
  (hs:(assignEach (e::es) X.env).map (·.2)=assign e X.env::(assignEach es X.env).map (·.2):=by rfl):PGs X (e::es) (b3S t u):=by
 intro pins s σ H vs us Q I r h;obtain⟨v,vr,e1,h⟩:=h;subst e1;cases r with
 |cons r rr=>
  rw[hs];refine assignInOrder_cons (thn (h1 pins s σ H _ _ _ I r h) λ_ s1 ⟨σ1,H1,I1,q1⟩=>?_);exact h2 pins s1 σ1 H1 _ _ Q I1 rr q1
def gTup(K:PySem.W.Frag)(n:Nat)(t:TGs):TG:=λv σ H Q=>∃a xs,v=.ref a/\SqT K H a xs/\xs.length=n/\t xs σ H Q
theorem a4q{es:List Expr}{k:Nat}{t:TGs}{n:Nat}(hc:X.calm=true)(h:PGs X es t)
  (hn:(assignEach es X.env).length=n:=by rfl)(hst:(assignEach es X.env).findIdx? (·.1)=none:=by rfl):PG X (.Tuple es k pos) (gTup X.K n t):=by
 intro pins s σ H v u Q I r hw;obtain⟨a,xs,e1,hq,hl,hw⟩:=hw;subst e1;cases r;obtain⟨its,rv,ht,hz⟩:=I.tuple hq;refine assign_Tuple_tuple (I.ok.hd hc) ht (by simp[hn,<-hl,rv.length]) hst λh' hx=>?_;have I1:Inv X pins σ H {s with heap:=h' }:=I.kept (t':=s.toks) λb o e=>hx b o (b6L (b6t e)) e;exact h pins _ σ H xs _ Q I1 (by simpa using rv) hw
def gSub(to ti:TE)(t:TSet):TG:=λv σ H Q=>to σ H λo H1=>ti σ H1 λi H2=>t o i v H2 λH3=>Q σ H3
theorem a3w{o i:Expr}{to ti:TE}{t:TSet}(ho:PE X o to)(hi:PE X i ti)(hs:PSet X t)
  (ha:∀v,assign (.Subscript o i pos) X.env v=(do
   let ov <-holding [v] (eval o X.env)
   let iv <-holding [v,ov] (eval i X.env)
   standAt pos
   holding [v,ov,iv] (setItem ov iv v)
   release [v,ov,iv] []):=by intro _;rfl):PG X (.Subscript o i pos) (gSub to ti t):=by
 intro pins s σ H v u Q I r h;rw[ha];refine b6c (b7F (thn (ho pins s σ H _ I h) λov s1 ⟨x,H1,I1,r1,q1⟩=>?_));refine b6c (b7F (thn (hi pins s1 σ H1 _ I1 q1) λiv s2 ⟨y,H2,I2,r2,q2⟩=>?_));refine b6c (c0z (b6c (b7F (thn (hs pins s2 σ H2 x y v ov iv u _ I2 r1 r2 r q2) λ_ s3 ⟨H3,I3,q3⟩=>?_))));exact wpAny_release ⟨σ,H3,I3,q3⟩
def b0O(te:TE)(g:TG):TS:=λD σ H=>te σ H λx H1=>g x σ H1 D.nx
theorem a2L{tg e:Expr}{te:TE}{g:TG}(he:PE X e te)(hg:PG X tg g)(hs:swapsWithSole [tg] e pos.line X.env=pure false:=by rfl)(hw:swappedStores [tg] e X.env=pure none:=by rfl)
  (h1:(assignEach [tg] X.env).map (·.2)=[assign tg X.env]:=by rfl):PS X (.Assign [tg] e pos) (b0O te g):=by
 intro pins s σ H D I h;refine wpAny_Assign_stores (thn (he pins s σ H _ I h) λv s1 ⟨x,H1,I1,r1,q1⟩=>?_) hs hw;rw[h1];exact thn (hg pins s1 σ H1 x v _ I1 r1 q1) λ_ s2 q=>q
theorem b2F{i:Nat}{x:Str}{e:Expr}{te:TE}{pos':Pos}(hN:X.N.Nodup)(hi:X.N[i]?=some x)(hx:Loc X.env.scope x)(he:PE X e te)(hs:swapsWith e (some (.Name x pos')) pos.line X.env=pure false:=by rfl)(hf:X.fn x=true\/X.env.scope.names.lookup x=some .local:=by first|exact .inl rfl|exact .inr rfl|assumption) :
  PS X (.Assign [.Name x pos'] e pos) (b0O te (a1B i)):=by
 intro pins s σ H D I h;refine wpAny_Assign_Name (thn (he pins s σ H _ I h) λv s1 ⟨y,H1,I1,r1,q1⟩=>?_) hs;exact a6V I1 hN hi hx r1 (λs2 I2=>⟨_,H1,I2,q1⟩) hf
def tPar(i j:Nat)(ta:TA):TS:=λD σ H=>ta σ H λvs H1=>∃v w,vs=[v,w]/\D.nx ((σ.set i (some v)).set j (some w)) H1
def tAug(i:Nat)(te:TE)(ti:TIp):TS:=λD σ H=>∃x,σ[i]?=some (some x)/\te σ H λy H1=>ti x y H1 λz H2=>D.nx (σ.set i (some z)) H2
def tAugS(to ti te:TE)(tget:V->V->Hp->VK->Prop)(tip:TIp)(tset:TSet):TS:=λD σ H=>to σ H λo H1=>ti σ H1 λi H2=>tget o i H2 λx H3=>te σ H3 λy H4=>tip x y H4 λz H5=>tset o i z H5 λH6=>D.nx σ H6
def PGet(X:Cx)(t:V->V->Hp->VK->Prop):Prop:=
 ∀(pins:List (Addr×Obj))(s:Shared)(σ:St)(H:Hp)(o i:V)(ov iv:Value)(Q:VK),Inv X pins σ H s->a1h o ov->a1h i iv->t o i H Q ->
  wpAny (model X.prog X.w) X.A (getItem ov iv) (EP X pins σ Q) X.xe s
def ipI(f:Int->Int->Int):TIp:=λx y H Q=>∃i j,x=.int i/\y=.int j/\Q (.int (f i j)) H
def tWhile(c:TT)(tb:TS):TS:=λD σ H=>∃W:Nat->St->Hp->Prop,(∃m,W m σ H)/\∀m σ H,W m σ H ->
 c σ H λb H1=>if b=true then ∃N:St->Hp->Prop,(∀σ' H',N σ' H'->∃m',m'<m/\W m' σ' H')/\tb {D with nx:=N,ct:=N,bk:=D.nx} σ H1 else D.nx σ H1
theorem b0X{c:Expr}{body:List Stmt}{tc:TT}{tb:TS}(hp:PassesOwn (model X.prog X.w) X.A X.env X.xe)(hc:PT X c tc)(hb:PSs X body tb):PS X (.While c body [] pos) (tWhile tc tb):=by
 intro pins s σ H D I h;obtain⟨W,⟨m0,w0⟩,turn⟩:=h;refine wpAny_While (codeAny_whileLoop (λn s'=>∃σ' H',Inv X pins σ' H' s'/\W n σ' H') ?_ m0 ⟨σ,H,I,w0⟩);rintro n s1 ⟨σ1,H1,I1,w1⟩;refine b8x hp (thn (hc pins s1 σ1 H1 _ I1 (turn n σ1 H1 w1)) λb s2 ⟨H2,I2,q2⟩=>?_);cases b with
 |true=>
  obtain⟨N,hN,q2⟩:=q2;rw[if_pos rfl];refine b8x hp (thn (hb pins s2 σ1 H2 _ I2 q2) λf s3 q3=>?_);cases f with
  |next=>
   obtain⟨σ3,H3,I3,n3⟩:=q3;obtain⟨m',hm,w3⟩:=hN σ3 H3 n3;exact⟨m',hm,σ3,H3,I3,w3⟩
  |cont=>
   obtain⟨σ3,H3,I3,n3⟩:=q3;obtain⟨m',hm,w3⟩:=hN σ3 H3 n3;exact⟨m',hm,σ3,H3,I3,w3⟩
  |brk=>exact q3
  |ret v=>exact q3
 |false=>
  rw[if_neg b6u];exact b9m ⟨σ1,H2,I2,q2⟩
end
structure It where
 go:Nat->Hp->Prop
 yld:Nat->Hp->V->Hp->Prop
 stop:Nat->Hp->Prop
def b0P(X:Cx)(pins:List (Addr×Obj))(H:Hp)(b:Addr):Prop:=
 H b=none/\b≠X.env.locals/\b∉X.fs/\(b∈X.ex\/X.s₀.heap.objs.size<=b)/\(∀x c,X.env.cells.lookup x=some c->c≠b)/\∀p∈X.pn++pins,p.1≠b
theorem Inv.fpOk{X:Cx}{pins:List (Addr×Obj)}{σ:St}{H H':Hp}{s:Shared}{b:Addr}(I:Inv X pins σ H s)(hb:s.heap.objs.size<=b)(hn:H' b=none):b0P X pins H' b:=by
 refine⟨hn,b7Y (b6P I.lt hb),I.nofs hb,.inr (b6R I.sz hb),λx c e z=>?_,λp hp z=>?_⟩
 ·obtain⟨v,q⟩:=I.cell x c e;exact absurd (b6P q.lt (by rw[z];exact hb)) (b7y _)
 ·exact absurd (b6P (b6t (I.pin p hp).1) (by rw[z];exact hb)) (b7y _)
structure b2G(P:Program)(w:World)(K:PySem.W.Frag)(tg:Expr)(J:It)(fp:List Addr)(it:Addr)(tn:Nat->Heap->Prop):Prop where
 mem:it∈fp
 obj:∀i h,tn i h->∀b∈fp,∃o,h.get? b=some o/\∀v,o.data≠.cell v
 keep:∀i h h',tn i h->(∀b∈fp,∀o,h.get? b=some o->h'.get? b=some o)->tn i h'
 item:∀(X:Cx),X.prog=P->X.w=w->X.K=K->X.calm=true->∀(i:Nat)(pins:List (Addr×Obj))(s:Shared)(σ:St)(H:Hp)(E:Value->Shared->Prop),Inv X pins σ H s->(∀b∈fp,b0P X pins H b)->tn i s.heap->J.go i H ->
  wpAny (model P w) X.A (pyNext (.ref it)) (λr s1=>∃u,r=some u /\
   wpAny (model P w) X.A (letOwnedTupleGo tg (.ref it) u) (λ_ s2=>∃x H',Inv X pins σ H' s2/\a1h x u/\J.yld i H x H'/\tn (i+1) s2.heap/\∀b∈fp,H' b=none) E s1) E s
 done:∀(X:Cx),X.prog=P->X.w=w->X.K=K->X.calm=true->∀(i:Nat)(pins:List (Addr×Obj))(s:Shared)(σ:St)(H:Hp)(E:Value->Shared->Prop),Inv X pins σ H s->(∀b∈fp,b0P X pins H b)->tn i s.heap->J.stop i H ->
  wpAny (model P w) X.A (pyNext (.ref it)) (λr s1=>r=none/\Inv X pins σ H s1) E s
 self:∀(A:Around)(i:Nat)(s:Shared)(Q:Value->Shared->Prop)(E:Value->Shared->Prop),tn i s.heap->Q (.ref it) s->wpAny (model P w) A (pyIter (.ref it)) Q E s
abbrev TI:=St->Hp->(It->Hp->Prop)->Prop
def PIE(X:Cx)(pins:List (Addr×Obj))(σ:St)(tg:Expr)(R:It->Hp->Prop)(itv:Value)(s2:Shared):Prop:=
 ∃(it:Addr)(fp:List Addr)(tn:Nat->Heap->Prop)(J:It)(H':Hp),itv=.ref it/\Inv X pins σ H' s2/\b2G X.prog X.w X.K tg J fp it tn/\tn 0 s2.heap/\(∀b∈fp,b0P X pins H' b)/\R J H'
def PI(X:Cx)(tg iter:Expr)(wi:TI):Prop:=
 ∀(pins:List (Addr×Obj))(s:Shared)(σ:St)(H:Hp)(R:It->Hp->Prop),Inv X pins σ H s->wi σ H R ->
  wpAny (model X.prog X.w) X.A (eval iter X.env) (λv s1=>wpAny (model X.prog X.w) X.A (pyIter v) (PIE X pins σ tg R) X.xe s1) X.xe s
theorem a8y{M:Model}{A:Around}{E:Value->Shared->Prop}{s:Shared}{tg:Expr}{it:Addr}{u:Value}{o:Obj}{n:String}{vs:Array Value}{Q:Unit->Shared->Prop}(ho:s.heap.get? it=some o)(hc:o.cls=.type n)(hd:o.data=.fields vs)
  (hn:["enumerate","zip","dict_itemiterator","dict_reverseitemiterator","odict_iterator","itertools.zip_longest","itertools.pairwise"].contains n=false)(hQ:Q () s):wpAny M A (letOwnedTupleGo tg (.ref it) u) Q E s:=by
 unfold letOwnedTupleGo;cases tg<;>first
  |exact b6j hQ
  |(cases u<;>first
    |exact b6j hQ
    | (refine b6c (wpAny_load ho ?_)
       rw[hc,hd];show wpAny M A (if (["enumerate","zip","dict_itemiterator","dict_reverseitemiterator","odict_iterator","itertools.zip_longest","itertools.pairwise"].contains n&&vs[0]?==some (rawInt _))=true then _ else _) Q E s;rw[if_neg (by intro h;rw[hn,b8G] at h;cases h)];exact b6j hQ))
def Itl(K:PySem.W.Frag)(a:Addr):It:=
 ⟨λi H=>∃xs x,SqL K H a xs/\xs[i]?=some x,λi H x H'=>H'=H/\∀xs,SqL K H a xs->xs[i]?=some x,λi H=>∃xs,SqL K H a xs/\xs.length<=i⟩
def Itt(K:PySem.W.Frag)(a:Addr):It:=
 ⟨λi H=>∃xs x,SqT K H a xs/\xs[i]?=some x,λi H x H'=>H'=H/\∀xs,SqT K H a xs->xs[i]?=some x,λi H=>∃xs,SqT K H a xs/\xs.length<=i⟩
def Itr(lo:Int)(n:Nat):It:=⟨λi _=>i<n,λi H x H'=>H'=H/\x=.int (lo+i),λi _=>n<=i⟩
theorem a5w{P:Program}{w:World}{K:PySem.W.Frag}{tg:Expr}(a it:Addr):b2G P w K tg (Itl K a) [it] it (λi h=>h.IsListIter it a i) where
 mem:=by simp
 obj:=λi h st b hb=>by
  have e:b=it:=by simpa using hb
  subst e;obtain⟨o,e,c,d⟩:=st;exact⟨o,e,λv z=>by rw[d] at z;cases z⟩
 keep:=λi h h' st k=>st.at λo e=>k it (by simp) o e
 item:=by
  intro X hP hw hK hc i pins s σ H E I hf st hg;subst hP hw hK;obtain⟨xs,x,hq,hx⟩:=hg;obtain⟨its,rv,p,hz⟩:=I.list hq;obtain⟨u,hu,ru⟩:=rv.get hx;obtain⟨f0,f1,f2,f3,f4,f5⟩:=hf it (by simp);refine wpAny_pyNext_list_item st p.isList (x:=u) (by simpa using hu) λh' st' sb=>?_;have I1:Inv X pins σ H {s with heap:=h' }:=I.turned (t':=s.toks) (λb o hb e=>(sb.2 b hb).trans e) f0 f1 f3 f4 f5;obtain⟨o,e,c,d⟩:=id st';exact⟨u,rfl,a8y (s:={s with heap:=h' }) e c d (by decide) ⟨x,H,I1,ru,⟨rfl,λys hy=>by rw[I.list_inj hy hq];exact hx⟩,st',λb hb=>(hf b hb).1⟩⟩
 done:=by
  intro X hP hw hK hc i pins s σ H E I hf st hg;subst hP hw hK;obtain⟨xs,hq,hx⟩:=hg;obtain⟨its,rv,p,hz⟩:=I.list hq;obtain⟨f0,f1,f2,f3,f4,f5⟩:=hf it (by simp);have hl:=rv.length;exact wpAny_pyNext_list_end (I.ok.hd hc) st p.isList (by simp;omega) λh' eb=>⟨rfl,I.turned (t':=s.toks) (λb o hb e=>eb b o hb e) f0 f1 f3 f4 f5⟩
 self:=λ_ _ _ _ _ st h=>wpAny_pyIter_listiter st h
theorem a4r{P:Program}{w:World}{K:PySem.W.Frag}{tg:Expr}(a it:Addr):b2G P w K tg (Itt K a) [it] it (λi h=>h.IsTupleIter it a i) where
 mem:=by simp
 obj:=λi h st b hb=>by
  have e:b=it:=by simpa using hb
  subst e;obtain⟨o,e,c,d⟩:=st;exact⟨o,e,λv z=>by rw[d] at z;cases z⟩
 keep:=λi h h' st k=>st.at λo e=>k it (by simp) o e
 item:=by
  intro X hP hw hK hc i pins s σ H E I hf st hg;subst hP hw hK;obtain⟨xs,x,hq,hx⟩:=hg;obtain⟨its,rv,p,hz⟩:=I.tuple hq;obtain⟨u,hu,ru⟩:=rv.get hx;obtain⟨f0,f1,f2,f3,f4,f5⟩:=hf it (by simp);refine wpAny_pyNext_tuple_item st (show s.heap.IsTuple a its.toArray from p) (x:=u) (by simpa using hu) λh' st' sb=>?_;have I1:Inv X pins σ H {s with heap:=h' }:=I.turned (t':=s.toks) (λb o hb e=>(sb.2 b hb).trans e) f0 f1 f3 f4 f5;obtain⟨o,e,c,d⟩:=id st';exact⟨u,rfl,a8y (s:={s with heap:=h' }) e c d (by decide) ⟨x,H,I1,ru,⟨rfl,λys hy=>by rw[I.tuple_inj hy hq];exact hx⟩,st',λb hb=>(hf b hb).1⟩⟩
 done:=by
  intro X hP hw hK hc i pins s σ H E I hf st hg;subst hP hw hK;obtain⟨xs,hq,hx⟩:=hg;obtain⟨its,rv,p,hz⟩:=I.tuple hq;obtain⟨f0,f1,f2,f3,f4,f5⟩:=hf it (by simp);have hl:=rv.length;exact wpAny_pyNext_tuple_end (I.ok.hd hc) st (show s.heap.IsTuple a its.toArray from p) (by simp;omega) λh' eb=>⟨rfl,I.turned (t':=s.toks) (λb o hb e=>eb b o hb e) f0 f1 f3 f4 f5⟩
 self:=λ_ _ _ _ _ st h=>wpAny_pyIter_tupleiter st h
theorem a7K{P:Program}{w:World}{K:PySem.W.Frag}{tg:Expr}(it:Addr)(lo:Int)(n:Nat):b2G P w K tg (Itr lo n) [it] it (λi h=>IsRangeIter h it (lo+(i:Nat)*1) ((n:Int)-(i:Nat)) 1) where
 mem:=by simp
 obj:=λi h st b hb=>by
  have e:b=it:=by simpa using hb
  subst e;exact⟨_,st,λv z=>by
   have z':Data.fields _=Data.cell v:=z;cases z'⟩
 keep:=λi h h' st k=>k it (by simp) _ st
 item:=by
  intro X hP hw hK hc i pins s σ H E I hf st hg;subst hP hw hK;obtain⟨f0,f1,f2,f3,f4,f5⟩:=hf it (by simp);have W:=Walks.range (prog:=X.prog) (w:=X.w) (I.ok.hd hc) it lo 1 n;refine W.item i s _ _ hg st λv h' tk hv st' kk=>?_;obtain⟨t,rfl⟩:=hv;have I1:Inv X pins σ H {s with heap:=h',toks:=tk}:=I.turned (λb o hb e=>kk b o (by simpa using hb) e) f0 f1 f3 f4 f5;refine⟨_,rfl,a8y (s:={s with heap:=h',toks:=tk}) (n:="range_iterator") st' rfl rfl (by decide) ⟨.int (lo+i),H,I1,⟨t,?_⟩,⟨rfl,rfl⟩,st',λb hb=>(hf b hb).1⟩⟩;rw[Int.mul_one]
 done:=by
  intro X hP hw hK hc i pins s σ H E I hf st hg;subst hP hw hK;obtain⟨f0,f1,f2,f3,f4,f5⟩:=hf it (by simp);exact wpAny_pyNext_range_end (I.ok.hd hc) st (by have:n<=i:=hg;omega) λh' eb=>⟨rfl,I.turned (t':=s.toks) (λb o hb e=>eb b o hb e) f0 f1 f3 f4 f5⟩
 self:=λ_ _ _ _ _ st h=>wpAny_pyIter_rangeiter st h
section
variable {X:Cx}{tg:Expr}
def iList(K:PySem.W.Frag)(tl:TE):TI:=λσ H R=>tl σ H λx H1=>∃a,x=.ref a/\(∃xs,SqL K H1 a xs)/\R (Itl K a) H1
def iTup(K:PySem.W.Frag)(tl:TE):TI:=λσ H R=>tl σ H λx H1=>∃a,x=.ref a/\(∃xs,SqT K H1 a xs)/\R (Itt K a) H1
theorem a4H{l:Expr}{tl:TE}(hl:PE X l tl):PI X tg l (iList X.K tl):=by
 intro pins s σ H R I h;refine thn (hl pins s σ H _ I h) λv s1 ⟨x,H1,I1,r1,q1⟩=>?_;obtain⟨a,e,⟨xs,hq⟩,q⟩:=q1;subst e;cases r1;obtain⟨its,rv,p,hz⟩:=I1.list hq;refine b8y p.isList ?_;refine⟨s1.heap.objs.size,[s1.heap.objs.size],_,_,H1,rfl,I1.kept (t':=s1.toks) λb o e=>b6e _ e,a5w a _,⟨_,b6m _ rfl,rfl,rfl⟩,λb hb=>?_,q⟩;have e:b=s1.heap.objs.size:=by simpa using hb
 subst e;exact I1.fpOk (b6k _) (I1.hok.fresh (b6k _))
theorem a6W{l:Expr}{tl:TE}(hl:PE X l tl):PI X tg l (iTup X.K tl):=by
 intro pins s σ H R I h;refine thn (hl pins s σ H _ I h) λv s1 ⟨x,H1,I1,r1,q1⟩=>?_;obtain⟨a,e,⟨xs,hq⟩,q⟩:=q1;subst e;cases r1;obtain⟨its,rv,p,hz⟩:=I1.tuple hq;refine b8t (show s1.heap.IsTuple a its.toArray from p) ?_;refine⟨s1.heap.objs.size,[s1.heap.objs.size],_,_,H1,rfl,I1.kept (t':=s1.toks) λb o e=>b6e _ e,a4r a _,⟨_,b6m _ rfl,rfl,rfl⟩,λb hb=>?_,q⟩;have e:b=s1.heap.objs.size:=by simpa using hb
 subst e;exact I1.fpOk (b6k _) (I1.hok.fresh (b6k _))
theorem a6X{pins:List (Addr×Obj)}{σ:St}{H:Hp}{s:Shared}{R:It->Hp->Prop}{E:Value->Shared->Prop}{lo hi:Int}{t u v:Tok}{tk:Nat}(I:Inv X pins σ H s)(h1:-(2 ^ 62)<=lo)(h2:lo<2 ^ 62)(h3:-(2 ^ 62)<=hi)(h4:hi<2 ^ 62)
  (q:R (Itr lo (hi-lo).toNat) H):wpAny (model X.prog X.w) X.A (pyIter (.ref s.heap.objs.size)) (PIE X pins σ tg R) E {s with heap:=s.heap.push {cls:=.type "range",data:=.fields #[.int lo t,.int hi u,.int 1 v]},toks:=tk}:=by
 refine c0h (IsRange.new ..) (small_one h1 h2 h3 h4) ?_;have I1:Inv X pins σ H {s with heap:=s.heap.push {cls:=.type "range",data:=.fields #[.int lo t,.int hi u,.int 1 v]},toks:=tk}:=I.kept λb o e=>b6e _ e;refine⟨(s.heap.push {cls:=.type "range",data:=.fields #[.int lo t,.int hi u,.int 1 v]}).objs.size,[(s.heap.push {cls:=.type "range",data:=.fields #[.int lo t,.int hi u,.int 1 v]}).objs.size],_,_,H,rfl,
  I1.kept (t':=tk) λb o e=>b6e _ e,a7K _ lo (hi-lo).toNat,?_,λb hb=>?_,q⟩
 ·have e1:lo+((0:Nat):Int)*1=lo:=by simp
  have e2:(((hi-lo).toNat:Nat):Int)-((0:Nat):Int)=Builtin.Range.rangeSize lo hi 1:=by rw[rangeSize_one];split<;>omega
  show IsRangeIter _ _ (lo+((0:Nat):Int)*1) ((((hi-lo).toNat:Nat):Int)-((0:Nat):Int)) 1;rw[e1,e2];exact b6m _ rfl
 ·have e:b=(s.heap.push {cls:=.type "range",data:=.fields #[.int lo t,.int hi u,.int 1 v]}).objs.size:=by simpa using hb
  subst e;exact I1.fpOk (b6k _) (I1.hok.fresh (b6k _))
def iRng1(ta:TA):TI:=λσ H R=>ta σ H λvs H1=>∃j:Int,vs=[.int j]/\-(2 ^ 62)<=j/\j<2 ^ 62/\R (Itr 0 j.toNat) H1
def iRng2(ta:TA):TI:=λσ H R=>ta σ H λvs H1=>∃i j:Int,vs=[.int i,.int j]/\(-(2 ^ 62)<=i/\i<2 ^ 62/\-(2 ^ 62)<=j/\j<2 ^ 62)/\R (Itr i (j-i).toNat) H1
theorem a1u{a:Expr}{ta:TA}{p pos:Pos}(hg:Gl X "range")(hm:X.mg "range"=none)(ha:PA X [a] ta)(hs:starEach [a] X.env=[(false,eval a X.env)]:=by rfl):PI X tg (.Call (.Name "range" p) [a] [] pos) (iRng1 ta):=by
 intro pins s σ H R I h;refine Call_ (a2K I hg hm boot_range (b7j (thn (ha pos pins s σ H _ I h) λus s1 ⟨vs,H1,I1,r1,q1⟩=>?_) hs rfl));obtain⟨j,e,q1,q2,q⟩:=q1;subst e;cases r1 with
 |cons r rr=>
  cases rr;obtain⟨t,rfl⟩:=r;exact call_range_1 (a6X I1 (by omega) (by omega) q1 q2 (by simpa using q))
theorem a1U{a b:Expr}{ta:TA}{p pos:Pos}(hg:Gl X "range")(hm:X.mg "range"=none)(ha:PA X [a,b] ta)(hs:starEach [a,b] X.env=[(false,eval a X.env),(false,eval b X.env)]:=by rfl)(hs2:starEach [b] X.env=[(false,eval b X.env)]:=by rfl) :
  PI X tg (.Call (.Name "range" p) [a,b] [] pos) (iRng2 ta):=by
 intro pins s σ H R I h;refine Call_ (a2K I hg hm boot_range (b7j (thn (ha pos pins s σ H _ I h) λus s1 ⟨vs,H1,I1,r1,q1⟩=>?_) (by rw[hs,hs2]) (by rw[hs2];rfl)));obtain⟨i,j,e,⟨q1,q2,q3,q4⟩,q⟩:=q1;subst e;cases r1 with
 |cons r rr=>
  cases rr with
  |cons r' rr=>
   cases rr;obtain⟨t,rfl⟩:=r;obtain⟨t',rfl⟩:=r';exact call_range_2 (a6X I1 q1 q2 q3 q4 q)
def tFor(wi:TI)(g:TG)(tb:TS):TS:=λD σ H=>wi σ H λJ H1=>∃W:Nat->Nat->St->Hp->Prop,(∃m,W 0 m σ H1)/\∀i m σ H,W i m σ H ->
 (J.stop i H/\D.nx σ H)\/(J.go i H/\∃N:St->Hp->Prop,(∀σ' H',N σ' H'->∃m',m'<m/\W (i+1) m' σ' H')/\∀x H',J.yld i H x H'->g x σ H' λσ2 H2=>tb {D with nx:=N,ct:=N,bk:=D.nx} σ2 H2)
def a5x(fp:List Addr)(h:Heap):List (Addr×Obj):=fp.filterMap λb=>(h.get? b).map λo=>(b,o)
theorem a3a{fp:List Addr}{h:Heap}{b:Addr}{o:Obj}(hb:b∈fp)(e:h.get? b=some o):(b,o)∈a5x fp h:=c0i.mpr ⟨b,hb,by rw[e];rfl⟩
theorem a8z{fp:List Addr}{h:Heap}{p:Addr×Obj}(hp:p∈a5x fp h):p.1∈fp/\h.get? p.1=some p.2:=by
 obtain⟨b,hb,e⟩:=c0i.mp hp;cases q:h.get? b with
 |none=>rw[q] at e;cases e
 |some o=>
  rw[q] at e;have e':(b,o)=p:=b6I e;subst e';exact⟨hb,q⟩
theorem Inv.pinned{pins:List (Addr×Obj)}{σ:St}{H:Hp}{s:Shared}{fp:List Addr}(I:Inv X pins σ H s)(hf:∀b∈fp,b0P X pins H b)(ho:∀b∈fp,∃o,s.heap.get? b=some o/\∀v,o.data≠.cell v):Inv X (pins++a5x fp s.heap) σ H s:=
 I.pins_of λp hp=>(b6G.mp hp).elim (λz=>I.pin p (b6M _ z)) λz=>by
  obtain⟨hb,e⟩:=a8z z;obtain⟨f0,f1,f2,_⟩:=hf p.1 hb;obtain⟨o,e',d⟩:=ho p.1 hb;rw[e] at e';cases e';exact⟨e,f0,f1,f2,d⟩
theorem Inv.unpinned{pins pl:List (Addr×Obj)}{σ:St}{H:Hp}{s:Shared}(I:Inv X (pins++pl) σ H s):Inv X pins σ H s:=I.pins_of λp hp=>I.pin p (b6M _ (b7S _ hp))
theorem a1d{iter:Expr}{body:List Stmt}{wi:TI}{g:TG}{tb:TS}{pos:Pos}(hp:PassesOwn (model X.prog X.w) X.A X.env X.xe)(hc:X.calm=true)(hi:PI X tg iter wi)(hg:PG X tg g)(hb:PSs X body tb)
  (hs:∀x,foldedSetIterable iter X.env x=pure x:=by intro _;rfl):PS X (.For tg iter body [] pos) (tFor wi g tb):=by
 intro pins s σ H D I h;refine wpAny_For (thn (hi pins s σ H _ I h) λv s1 h1=>thn h1 λitv s2 h2=>?_) hs;obtain⟨it,fp,tn,J,H2,e,I2,T,st2,f2,W,⟨m0,w0⟩,turn⟩:=h2;subst e;have stat:∀{H':Hp},(∀b∈fp,H' b=none)->∀b∈fp,b0P X pins H' b:=λhn b hb=>⟨hn b hb,(f2 b hb).2⟩
 refine codeAny_forLoop_any (λn s'=>∃i σ' H',Inv X pins σ' H' s'/\tn i s'.heap/\(∀b∈fp,H' b=none)/\W i n σ' H') ?_ m0 ⟨0,σ,H2,I2,st2,λb hb=>(f2 b hb).1,w0⟩;rintro n s3 ⟨i,σ3,H3,I3,st3,fr3,w3⟩;rcases turn i n σ3 H3 w3 with ⟨stop,qn⟩|⟨go,N,hN,step⟩
 ·refine b8x hp (thn (T.done X rfl rfl rfl hc i pins s3 σ3 H3 X.xe I3 (stat fr3) st3 stop) λr s4 ⟨hr,I4⟩=>?_);subst hr;exact b9m ⟨σ3,H3,I4,qn⟩
 ·refine b8x hp (thn (T.item X rfl rfl rfl hc i pins s3 σ3 H3 X.xe I3 (stat fr3) st3 go) λr s4 ⟨u,hr,h4⟩=>?_);subst hr;refine b8x hp (thn h4 λ_ s5 ⟨x,H5,I5,r5,y5,st5,fr5⟩=>?_);have I5':=I5.pinned (stat fr5) (T.obj _ _ st5);refine b8x hp (thn (hg _ s5 σ3 H5 x u _ I5' r5 (step x H5 y5)) λ_ s6 ⟨σ6,H6,I6,q6⟩=>?_);refine b8x hp (thn (hb _ s6 σ6 H6 _ I6 q6) λf s7 q7=>?_);have again:∀{σ7:St}{H7:Hp},Inv X (pins++a5x fp s5.heap) σ7 H7 s7->N σ7 H7->∃m,m<n/\∃i σ' H',Inv X pins σ' H' s7/\tn i s7.heap/\(∀b∈fp,H' b=none)/\W i m σ' H':=λ{σ7 H7} I7 n7=>by
   obtain⟨m',hm,w7⟩:=hN σ7 H7 n7;refine⟨m',hm,i+1,σ7,H7,I7.unpinned,T.keep _ _ _ st5 λb hb o e=>(I7.pin (b,o) (b6M _ (b6M _ (a3a hb e)))).1,λb hb=>?_,w7⟩;obtain⟨o,e,d⟩:=T.obj _ _ st5 b hb;exact(I7.pin (b,o) (b6M _ (b6M _ (a3a hb e)))).2.1
  cases f with
  |next=>obtain⟨σ7,H7,I7,n7⟩:=q7;exact again I7 n7
  |cont=>obtain⟨σ7,H7,I7,n7⟩:=q7;exact again I7 n7
  |brk=>obtain⟨σ7,H7,I7,q7⟩:=q7;exact⟨σ7,H7,I7.unpinned,q7⟩
  |ret v=>obtain⟨x7,σ7,H7,I7,r7,q7⟩:=q7;exact⟨x7,σ7,H7,I7.unpinned,r7,q7⟩
end
theorem a4I{K:PySem.W.Frag}{a:Addr}{xs:List V}{g:TG}{tb:TS}{D:a8v}{σ:St}{H:Hp}(Pv:Nat->St->Hp->Prop)(h0:Pv 0 σ H)(hl:∀i σ H,i<=xs.length->Pv i σ H->SqL K H a xs)
  (hs:∀i x σ H,xs[i]?=some x->Pv i σ H->g x σ H λσ2 H2=>tb {D with nx:=Pv (i+1),ct:=Pv (i+1),bk:=D.nx} σ2 H2)(hd:∀σ H,Pv xs.length σ H->D.nx σ H) :
  ∃W:Nat->Nat->St->Hp->Prop,(∃m,W 0 m σ H)/\∀i m σ H,W i m σ H ->
   ((Itl K a).stop i H/\D.nx σ H)\/((Itl K a).go i H/\∃N:St->Hp->Prop,(∀σ' H',N σ' H'->∃m',m'<m/\W (i+1) m' σ' H')/\∀x H',(Itl K a).yld i H x H'->g x σ H' λσ2 H2=>tb {D with nx:=N,ct:=N,bk:=D.nx} σ2 H2):=by
 refine⟨λi m σ H=>m=xs.length-i/\i<=xs.length/\Pv i σ H,⟨xs.length,by simp,b6O _,h0⟩,?_⟩;rintro i m σ H ⟨rfl,hi,p⟩;have q:=hl i σ H hi p;by_cases hlt:i<xs.length
 ·refine .inr ⟨⟨xs,xs[i],q,by simp[hlt]⟩,Pv (i+1),λσ' H' p'=>⟨xs.length-(i+1),by omega,rfl,hlt,p'⟩,λx H' y=>?_⟩;obtain⟨e,y⟩:=y;subst e;exact hs i x σ _ (y xs q) p
 ·have e:i=xs.length:=by omega
  subst e;exact .inl ⟨⟨xs,q,b6k _⟩,hd σ H p⟩
theorem a4J{K:PySem.W.Frag}{a:Addr}{xs:List V}{g:TG}{tb:TS}{D:a8v}{σ:St}{H:Hp}(Pv:Nat->St->Hp->Prop)(h0:Pv 0 σ H)(hl:∀i σ H,i<=xs.length->Pv i σ H->SqT K H a xs)
  (hs:∀i x σ H,xs[i]?=some x->Pv i σ H->g x σ H λσ2 H2=>tb {D with nx:=Pv (i+1),ct:=Pv (i+1),bk:=D.nx} σ2 H2)(hd:∀σ H,Pv xs.length σ H->D.nx σ H) :
  ∃W:Nat->Nat->St->Hp->Prop,(∃m,W 0 m σ H)/\∀i m σ H,W i m σ H ->
   ((Itt K a).stop i H/\D.nx σ H)\/((Itt K a).go i H/\∃N:St->Hp->Prop,(∀σ' H',N σ' H'->∃m',m'<m/\W (i+1) m' σ' H')/\∀x H',(Itt K a).yld i H x H'->g x σ H' λσ2 H2=>tb {D with nx:=N,ct:=N,bk:=D.nx} σ2 H2):=by
 refine⟨λi m σ H=>m=xs.length-i/\i<=xs.length/\Pv i σ H,⟨xs.length,by simp,b6O _,h0⟩,?_⟩;rintro i m σ H ⟨rfl,hi,p⟩;have q:=hl i σ H hi p;by_cases hlt:i<xs.length
 ·refine .inr ⟨⟨xs,xs[i],q,by simp[hlt]⟩,Pv (i+1),λσ' H' p'=>⟨xs.length-(i+1),by omega,rfl,hlt,p'⟩,λx H' y=>?_⟩;obtain⟨e,y⟩:=y;subst e;exact hs i x σ _ (y xs q) p
 ·have e:i=xs.length:=by omega
  subst e;exact .inl ⟨⟨xs,q,b6k _⟩,hd σ H p⟩
theorem a0Z{lo:Int}{n:Nat}{g:TG}{tb:TS}{D:a8v}{σ:St}{H:Hp}(Pv:Nat->St->Hp->Prop)(h0:Pv 0 σ H)
  (hs:∀i σ H,i<n->Pv i σ H->g (.int (lo+i)) σ H λσ2 H2=>tb {D with nx:=Pv (i+1),ct:=Pv (i+1),bk:=D.nx} σ2 H2)(hd:∀σ H,Pv n σ H->D.nx σ H) :
  ∃W:Nat->Nat->St->Hp->Prop,(∃m,W 0 m σ H)/\∀i m σ H,W i m σ H ->
   ((Itr lo n).stop i H/\D.nx σ H)\/((Itr lo n).go i H/\∃N:St->Hp->Prop,(∀σ' H',N σ' H'->∃m',m'<m/\W (i+1) m' σ' H')/\∀x H',(Itr lo n).yld i H x H'->g x σ H' λσ2 H2=>tb {D with nx:=N,ct:=N,bk:=D.nx} σ2 H2):=by
 refine⟨λi m σ H=>m=n-i/\i<=n/\Pv i σ H,⟨n,by simp,b6O _,h0⟩,?_⟩;rintro i m σ H ⟨rfl,hi,p⟩;by_cases hlt:i<n
 ·refine .inr ⟨hlt,Pv (i+1),λσ' H' p'=>⟨n-(i+1),by omega,rfl,hlt,p'⟩,λx H' y=>?_⟩;obtain⟨e,y⟩:=y;subst e y;exact hs i σ _ hlt p
 ·have e:i=n:=by omega
  subst e;exact .inl ⟨b6k _,hd σ H p⟩
abbrev R2:=V->V->Hp->VK->Prop
def OpR(X:Cx)(f:Value->Value->Sem Value)(r:R2):Prop:=
 ∀(pins:List (Addr×Obj))(s:Shared)(σ:St)(H:Hp)(x y:V)(v u:Value)(Q:VK),Inv X pins σ H s->a1h x v->a1h y u->r x y H Q ->
  wpAny (model X.prog X.w) X.A (f v u) (EP X pins σ Q) X.xe s
def UnR(X:Cx)(f:Value->Sem Value)(r:V->Hp->VK->Prop):Prop:=
 ∀(pins:List (Addr×Obj))(s:Shared)(σ:St)(H:Hp)(x:V)(v:Value)(Q:VK),Inv X pins σ H s->a1h x v->r x H Q ->
  wpAny (model X.prog X.w) X.A (f v) (EP X pins σ Q) X.xe s
def a2v(X:Cx)(f:Value)(r:List V->Hp->VK->Prop):Prop:=
 ∀(pins:List (Addr×Obj))(s:Shared)(σ:St)(H:Hp)(xs:List V)(us:List Value)(Q:VK),Inv X pins σ H s->a0P xs us->r xs H Q ->
  wpAny (model X.prog X.w) X.A (call f us) (EP X pins σ Q) X.xe s
def TruR(X:Cx)(r:V->Hp->(Bool->Hp->Prop)->Prop):Prop:=
 ∀(pins:List (Addr×Obj))(s:Shared)(σ:St)(H:Hp)(x:V)(v:Value)(Q:Bool->Hp->Prop),Inv X pins σ H s->a1h x v->r x H Q ->
  wpAny (model X.prog X.w) X.A (truthy v) (TP X pins σ Q) X.xe s
def tOp(r:R2)(ta tb:TE):TE:=λσ H Q=>ta σ H λx H1=>tb σ H1 λy H2=>r x y H2 Q
def tUn(r:V->Hp->VK->Prop)(ta:TE):TE:=λσ H Q=>ta σ H λx H1=>r x H1 Q
def rI(C:Int->Int->Prop)(g:Int->Int->V):R2:=λx y H Q=>∃i j,x=.int i/\y=.int j/\C i j/\Q (g i j) H
def rI0(g:Int->Int->V):R2:=λx y H Q=>∃i j,x=.int i/\y=.int j/\Q (g i j) H
def rU(g:Int->V):V->Hp->VK->Prop:=λx H Q=>∃i,x=.int i/\Q (g i) H
section
variable {X:Cx}{a b c:Expr}{ta tb tc:TE}{pos:Pos}
theorem binT(ha:PE X a ta)(hb:PE X b tb){pins:List (Addr×Obj)}{s:Shared}{σ:St}{H:Hp}{R:V->V->Hp->Prop}(I:Inv X pins σ H s)
  (h:ta σ H λx H1=>tb σ H1 λy H2=>R x y H2){Q:Value->Shared->Prop}{f:Value->Value->Sem Value}
  (hf:∀v u s2 x y H2,Inv X pins σ H2 s2->a1h x v->a1h y u->R x y H2->wpAny (model X.prog X.w) X.A (f v u) Q X.xe s2) :
  wpAny (model X.prog X.w) X.A (eval a X.env) (λv s₁=>wpAny (model X.prog X.w) X.A (eval b X.env) (λu s₂=>wpAny (model X.prog X.w) X.A (f v u) Q X.xe s₂) X.xe s₁) X.xe s:=by
 refine thn (ha pins s σ H _ I h) λv s1 ⟨x,H1,I1,r1,q1⟩=>?_;refine thn (hb pins s1 σ H1 _ I1 q1) λu s2 ⟨y,H2,I2,r2,q2⟩=>?_;exact hf v u s2 x y H2 I2 r1 r2 q2
theorem a0q{op:Operator}{r:R2}(ho:OpR X (binaryOp op) r)(ha:PE X a ta)(hb:PE X b tb):PE X (.BinOp a op b pos) (tOp r ta tb):=by
 intro pins s σ H Q I h;exact wpAny_BinOp (binT ha hb I h λv u s2 x y H2 I2 rx ry q=>ho pins s2 σ H2 x y v u Q I2 rx ry q)
theorem a3m{op:UnaryOp}{r:V->Hp->VK->Prop}(ho:UnR X (unaryOp op) r)(ha:PE X a ta):PE X (.UnaryOp op a pos) (tUn r ta):=by
 intro pins s σ H Q I h;exact UnaryOp_ (thn (ha pins s σ H _ I h) λv s1 ⟨x,H1,I1,r1,q1⟩=>ho pins s1 σ H1 x v Q I1 r1 q1)
theorem opI{f:Value->Value->Sem Value}{C:Int->Int->Prop}{g:Int->Int->Int}
  (rule:∀(i j:Int)(t u:Tok)(s:Shared)(Q:Value->Shared->Prop)(E:Value->Shared->Prop),C i j->Q (.int (g i j) s.toks) {s with toks:=s.toks+1}->wpAny (model X.prog X.w) X.A (f (.int i t) (.int j u)) Q E s) :
  OpR X f (rI C λi j=>.int (g i j)):=by
 intro pins s σ H x y v u Q I rx ry h;obtain⟨i,j,rfl,rfl,hc,q⟩:=h;obtain⟨t,rfl⟩:=rx;obtain⟨t',rfl⟩:=ry;exact rule i j t t' s _ _ hc ⟨.int (g i j),H,I.tok _,⟨_,rfl⟩,q⟩
theorem opI0{f:Value->Value->Sem Value}{g:Int->Int->Int}
  (rule:∀(i j:Int)(t u:Tok)(s:Shared)(Q:Value->Shared->Prop)(E:Value->Shared->Prop),Q (.int (g i j) s.toks) {s with toks:=s.toks+1}->wpAny (model X.prog X.w) X.A (f (.int i t) (.int j u)) Q E s) :
  OpR X f (rI0 λi j=>.int (g i j)):=by
 intro pins s σ H x y v u Q I rx ry h;obtain⟨i,j,rfl,rfl,q⟩:=h;obtain⟨t,rfl⟩:=rx;obtain⟨t',rfl⟩:=ry;exact rule i j t t' s _ _ ⟨.int (g i j),H,I.tok _,⟨_,rfl⟩,q⟩
theorem opB0{f:Value->Value->Sem Value}{g:Int->Int->Bool}
  (rule:∀(i j:Int)(t u:Tok)(s:Shared)(Q:Value->Shared->Prop)(E:Value->Shared->Prop),Q (.bool (g i j)) s->wpAny (model X.prog X.w) X.A (f (.int i t) (.int j u)) Q E s) :
  OpR X f (rI0 λi j=>.bl (g i j)):=by
 intro pins s σ H x y v u Q I rx ry h;obtain⟨i,j,rfl,rfl,q⟩:=h;obtain⟨t,rfl⟩:=rx;obtain⟨t',rfl⟩:=ry;exact rule i j t t' s _ _ ⟨.bl (g i j),H,I,rfl,q⟩
def CDiv(i j:Int):Prop:=0<j/\j<1073741824
def CPow(i j:Int):Prop:=0<=j/\j<=1000000/\i.natAbs<2 ^ 64
def CMul(i j:Int):Prop:=(-(2 ^ 64)<i/\i<2 ^ 64)\/(-(2 ^ 64)<j/\j<2 ^ 64)
theorem CMul.ok{i j:Int}(h:CMul i j):IntMulOk i j:=by
 rcases h with ⟨h1,h2⟩|⟨h1,h2⟩
 ·exact .of_left (intBits_le_64 h1 h2)
 ·exact .of_right (intBits_le_64 h1 h2)
theorem a0K:OpR X (binaryOp .Add) (rI0 λi j=>.int (i+j)):=opI0 λ_ _ _ _ _ _ _ q=>add_int q
theorem a2y:OpR X (binaryOp .Sub) (rI0 λi j=>.int (i-j)):=opI0 λ_ _ _ _ _ _ _ q=>sub_int q
theorem b2H:OpR X (binaryOp .Mult) (rI CMul λi j=>.int (i*j)):=opI λ_ _ _ _ _ _ _ hc q=>mul_int q hc.ok
theorem a1F:OpR X (binaryOp .FloorDiv) (rI CDiv λi j=>.int (i / j)):=opI λi j _ _ _ _ _ hc q=>by
 have h1:(0:Int)<j:=hc.1;have h2:j<1073741824:=hc.2;exact floordiv_int (by omega) (by rw[c0f i (by omega)];exact q) (.inl (b9z (by omega)))
theorem a0V:OpR X (binaryOp .Mod) (rI (λ_ j=>0<j) λi j=>.int (i % j)):=opI λi j _ _ _ _ _ hc q=>by
 have h1:(0:Int)<j:=hc;exact mod_int' (by omega) (by rw[Int.fmod_eq_emod_of_nonneg i (by omega)];exact q)
theorem a5y:OpR X (binaryOp .Pow) (rI CPow λi j=>.int (i ^ j.toNat)):=opI λ_ _ _ _ _ _ _ hc q=>pow_int_small hc.1 hc.2.1 hc.2.2 q
theorem unI{f:Value->Sem Value}{g:Int->Int}
  (rule:∀(i:Int)(t:Tok)(s:Shared)(Q:Value->Shared->Prop)(E:Value->Shared->Prop),Q (.int (g i) s.toks) {s with toks:=s.toks+1}->wpAny (model X.prog X.w) X.A (f (.int i t)) Q E s) :
  UnR X f (rU λi=>.int (g i)):=by
 intro pins s σ H x v Q I rx h;obtain⟨i,rfl,q⟩:=h;obtain⟨t,rfl⟩:=rx;exact rule i t s _ _ ⟨.int (g i),H,I.tok _,⟨_,rfl⟩,q⟩
theorem a2f:UnR X (unaryOp .USub) (rU λi=>.int (-i)):=unI λ_ _ _ _ _ q=>neg_int q
end
def scal:V->V->Bool
 |.non,.non=>true |.non,.int _=>true |.int _,.non=>true |.non,.bl _=>true |.bl _,.non=>true |.non,.str _=>true |.str _,.non=>true
 |.int _,.int _=>true |.bl _,.bl _=>true |.str _,.str _=>true |.byt _,.byt _=>true
 |.int _,.str _=>true |.str _,.int _=>true |.bl _,.str _=>true |.str _,.bl _=>true
 |_,_=>false
def rEq:R2:=λx y H Q=>scal x y=true/\Q (.bl (decide (x=y))) H
def rNe:R2:=λx y H Q=>scal x y=true/\Q (.bl (!decide (x=y))) H
theorem a8A{i j:Int}:decide (V.int i=V.int j)=(i==j):=by
 rw[b8j];simp
theorem b2I{i j:Bool}:decide (V.bl i=V.bl j)=(i==j):=by
 rw[b8j];simp
theorem a8B{i j:Str}:decide (V.str i=V.str j)=(i==j):=by
 rw[b8j];simp
theorem a8C{i j:Array UInt8}:decide (V.byt i=V.byt j)=(i.toList==j.toList):=by
 rw[b8j];cases i;cases j;simp
section
variable {X:Cx}{a b c:Expr}{ta tb tc:TE}{pos:Pos}
theorem a0L{pins:List (Addr×Obj)}{σ:St}{H:Hp}{s:Shared}{Q:VK}{k k':Bool}(I:Inv X pins σ H s)(q:Q (.bl k) H)(e:k=k'):EP X pins σ Q (.bool k') s:=by
 subst e;exact⟨.bl k,H,I,rfl,q⟩
theorem a0U:OpR X (compareOp .Eq) rEq:=by
 intro pins s σ H x y v u Q I rx ry h;obtain⟨hs,q⟩:=h;cases x with
 |non=>
  cases rx;cases y with
  |non=>cases ry;exact PySem.EqNone.eq_none_none (a0L I q (by simp))
  |bl j=>cases ry;exact PySem.EqNone.eq_none_bool (a0L I q (by simp))
  |int j=>obtain⟨t',rfl⟩:=ry;exact PySem.EqNone.eq_none_int (a0L I q (by simp))
  |str j=>obtain⟨t',rfl⟩:=ry;exact PySem.EqNone.eq_none_str (a0L I q (by simp))
  |_=>exact absurd (show false=true from hs) b6u
 |bl i=>
  cases rx;cases y with
  |non=>cases ry;exact PySem.EqNone.eq_bool_none (a0L I q (by simp))
  |bl j=>cases ry;exact eq_bool (a0L I q b2I)
  |str j=>obtain⟨t',rfl⟩:=ry;exact PySem.EqMixed.eq_bool_str (a0L I q (by simp))
  |_=>exact absurd (show false=true from hs) b6u
 |int i=>
  obtain⟨t,rfl⟩:=rx;cases y with
  |non=>cases ry;exact PySem.EqNone.eq_int_none (a0L I q (by simp))
  |int j=>obtain⟨t',rfl⟩:=ry;exact eq_int (a0L I q a8A)
  |str j=>obtain⟨t',rfl⟩:=ry;exact PySem.EqMixed.eq_int_str (a0L I q (by simp))
  |_=>exact absurd (show false=true from hs) b6u
 |str i=>
  obtain⟨t,rfl⟩:=rx;cases y with
  |non=>cases ry;exact PySem.EqNone.eq_str_none (a0L I q (by simp))
  |bl j=>cases ry;exact PySem.EqMixed.eq_str_bool (a0L I q (by simp))
  |int j=>obtain⟨t',rfl⟩:=ry;exact PySem.EqMixed.eq_str_int (a0L I q (by simp))
  |str j=>obtain⟨t',rfl⟩:=ry;exact eq_str (a0L I q a8B)
  |_=>exact absurd (show false=true from hs) b6u
 |byt i=>
  obtain⟨t,rfl⟩:=rx;cases y with
  |byt j=>obtain⟨t',rfl⟩:=ry;exact PySem.W.eq_bytes (a0L I q a8C)
  |_=>exact absurd (show false=true from hs) b6u
 |_=>cases y<;>exact absurd (show false=true from hs) b6u
theorem a7L:OpR X (compareOp .NotEq) rNe:=by
 intro pins s σ H x y v u Q I rx ry h;obtain⟨hs,q⟩:=h;cases x with
 |non=>
  cases rx;cases y with
  |non=>cases ry;exact PySem.EqNone.ne_none_none (a0L I q (by simp))
  |bl j=>cases ry;exact PySem.EqNone.ne_none_bool (a0L I q (by simp))
  |int j=>obtain⟨t',rfl⟩:=ry;exact PySem.EqNone.ne_none_int (a0L I q (by simp))
  |str j=>obtain⟨t',rfl⟩:=ry;exact PySem.EqNone.ne_none_str (a0L I q (by simp))
  |_=>exact absurd (show false=true from hs) b6u
 |bl i=>
  cases rx;cases y with
  |non=>cases ry;exact PySem.EqNone.ne_bool_none (a0L I q (by simp))
  |bl j=>cases ry;exact ne_bool (a0L I q (b7d not b2I))
  |str j=>obtain⟨t',rfl⟩:=ry;exact PySem.EqMixed.ne_bool_str (a0L I q (by simp))
  |_=>exact absurd (show false=true from hs) b6u
 |int i=>
  obtain⟨t,rfl⟩:=rx;cases y with
  |non=>cases ry;exact PySem.EqNone.ne_int_none (a0L I q (by simp))
  |int j=>obtain⟨t',rfl⟩:=ry;exact ne_int (a0L I q (b7d not a8A))
  |str j=>obtain⟨t',rfl⟩:=ry;exact PySem.EqMixed.ne_int_str (a0L I q (by simp))
  |_=>exact absurd (show false=true from hs) b6u
 |str i=>
  obtain⟨t,rfl⟩:=rx;cases y with
  |non=>cases ry;exact PySem.EqNone.ne_str_none (a0L I q (by simp))
  |bl j=>cases ry;exact PySem.EqMixed.ne_str_bool (a0L I q (by simp))
  |int j=>obtain⟨t',rfl⟩:=ry;exact PySem.EqMixed.ne_str_int (a0L I q (by simp))
  |str j=>obtain⟨t',rfl⟩:=ry;exact ne_str (a0L I q (b7d not a8B))
  |_=>exact absurd (show false=true from hs) b6u
 |byt i=>
  obtain⟨t,rfl⟩:=rx;cases y with
  |byt j=>obtain⟨t',rfl⟩:=ry;exact PySem.W.ne_bytes (a0L I q (b7d not a8C))
  |_=>exact absurd (show false=true from hs) b6u
 |_=>cases y<;>exact absurd (show false=true from hs) b6u
theorem a4h:OpR X (compareOp .Lt) (rI0 λi j=>.bl (decide (i<j))):=opB0 λ_ _ _ _ _ _ _ q=>lt_int q
theorem a2j:OpR X (compareOp .LtE) (rI0 λi j=>.bl (decide (i<=j))):=opB0 λ_ _ _ _ _ _ _ q=>le_int q
theorem a7M:OpR X (compareOp .Gt) (rI0 λi j=>.bl (decide (j<i))):=opB0 λ_ _ _ _ _ _ _ q=>gt_int q
theorem op_ge:OpR X (compareOp .GtE) (rI0 λi j=>.bl (decide (j<=i))):=opB0 λ_ _ _ _ _ _ _ q=>ge_int q
theorem a3x:OpR X (compareOp .In) (λx y H Q=>∃i j,x=.str i/\y=.str j/\Q (.bl (!(Builtin.Str.occurrences j i 0 j.length 1).isEmpty)) H):=by
 intro pins s σ H x y v u Q I rx ry h;obtain⟨i,j,rfl,rfl,q⟩:=h;obtain⟨t,rfl⟩:=rx;obtain⟨t',rfl⟩:=ry;exact in_str (a0L I q rfl)
theorem b2J:OpR X (compareOp .Is) (λx y H Q=>y=.non/\Q (.bl (decide (x=.non))) H):=by
 intro pins s σ H x y v u Q I rx ry h;obtain⟨rfl,q⟩:=h;cases ry;refine is_none_gen (a0L I q ?_);cases x<;>first
  |(cases rx;rfl)
  |(obtain⟨t,rfl⟩:=rx;rfl)
def isObj:HO->Bool
 |.lst _=>true
 |.ins _ _ _=>true
 |_=>false
theorem nomark(b:Expr){op:CmpOp}(h:op≠.In:=by decide)(h2:op≠.NotIn:=by decide):behindInMarks op b=false:=by
 have e1:(op==CmpOp.In)=false:=by cases op<;>first|rfl|exact absurd rfl h
 have e2:(op==CmpOp.NotIn)=false:=by cases op<;>first|rfl|exact absurd rfl h2
 cases b<;>simp[behindInMarks,e1,e2]
theorem a0H{op:CmpOp}{r:R2}(ho:OpR X (compareOp op) r)(ha:PE X a ta)(hb:PE X b tb)(hm:behindInMarks op b=false):PE X (.Compare a [op] [b] pos) (tOp r ta tb):=by
 intro pins s σ H Q I h;exact wpAny_Compare1 (binT ha hb I h λv u s2 x y H2 I2 rx ry q=>ho pins s2 σ H2 x y v u Q I2 rx ry q) hm
def tTest(t:TE):TT:=λσ H Q=>t σ H λx H'=>∃k,x=.bl k/\Q k H'
theorem a0p{op:CmpOp}{r:R2}(ho:OpR X (compareOp op) r)(ha:PE X a ta)(hb:PE X b tb)(hm:behindInMarks op b=false):PT X (.Compare a [op] [b] pos) (tTest (tOp r ta tb)):=by
 intro pins s σ H Q I h;refine wpAny_isTrue_Compare1 (thn (ha pins s σ H _ I h) λv s1 ⟨x,H1,I1,r1,q1⟩=>thn (hb pins s1 σ H1 _ I1 q1) λu s2 ⟨y,H2,I2,r2,q2⟩=>
  thn (ho pins s2 σ H2 x y v u _ I2 r1 r2 q2) λc s3 ⟨z,H3,I3,r3,k,e,q3⟩=>?_) hm
 subst e;cases r3;exact b7u ⟨H3,I3,q3⟩
def b2K(r r':R2)(ta tb tc:TE):TE:=λσ H Q=>ta σ H λx H1=>tb σ H1 λy H2=>r x y H2 λz H3=>∃k,z=.bl k /\
 (if k=true then tc σ H3 λw' H4=>r' y w' H4 Q else Q (.bl false) H3)
theorem a2r{op op':CmpOp}{r r':R2}(ho:OpR X (compareOp op) r)(ho':OpR X (compareOp op') r')(ha:PE X a ta)(hb:PE X b tb)(hc:PE X c tc)
  (hm:lastMarks [op,op'] [b,c]=false:=by with_unfolding_all rfl):PE X (.Compare a [op,op'] [b,c] pos) (b2K r r' ta tb tc):=by
 intro pins s σ H Q I h;refine Compare_chain (thn (ha pins s σ H _ I h) λv s1 ⟨x,H1,I1,r1,q1⟩=>chain_link (thn (hb pins s1 σ H1 _ I1 q1) λu s2 ⟨y,H2,I2,r2,q2⟩=>
  thn (ho pins s2 σ H2 x y v u _ I2 r1 r2 q2) λd s3 ⟨z,H3,I3,r3,k,e,q3⟩=>?_)) hm
 subst e;cases r3;refine b7u ?_;cases k with
 |false=>exact ite_ff ⟨.bl false,H3,I3,rfl,q3⟩
 |true=>exact ite_tt (chain_last (thn (hc pins s3 σ H3 _ I3 q3) λw' s4 ⟨z',H4,I4,r4,q4⟩=>ho' pins s4 σ H4 y z' u w' Q I4 r2 r4 q4))
theorem a2M{op op':CmpOp}{r r':R2}(ho:OpR X (compareOp op) r)(ho':OpR X (compareOp op') r')(ha:PE X a ta)(hb:PE X b tb)(hc:PE X c tc)
  (hm:lastMarks [op,op'] [b,c]=false:=by with_unfolding_all rfl):PT X (.Compare a [op,op'] [b,c] pos) (tTest (b2K r r' ta tb tc)):=by
 intro pins s σ H Q I h;refine isTrue_chain (thn (ha pins s σ H _ I h) λv s1 ⟨x,H1,I1,r1,q1⟩=>test_link (thn (hb pins s1 σ H1 _ I1 q1) λu s2 ⟨y,H2,I2,r2,q2⟩=>
  thn (ho pins s2 σ H2 x y v u _ I2 r1 r2 q2) λd s3 ⟨z,H3,I3,r3,k,e,q3⟩=>?_)) hm
 subst e;cases r3;refine b7u ?_;cases k with
 |false=>
  obtain⟨k',e',q'⟩:=q3;cases e';exact ite_ff ⟨H3,I3,q'⟩
 |true=>
  refine ite_tt (test_last (thn (hc pins s3 σ H3 _ I3 q3) λw' s4 ⟨z',H4,I4,r4,q4⟩=>thn (ho' pins s4 σ H4 y z' u w' _ I4 r2 r4 q4) λd' s5 ⟨z2,H5,I5,r5,k2,e2,q5⟩=>?_));subst e2;cases r5;exact b7u ⟨H5,I5,q5⟩
def TruV(K:PySem.W.Frag)(x:V)(H:Hp)(k:Bool):Prop:=
 match x with
 |.non=>k=false
 |.bl b=>k=b
 |.int i=>k=(i !=0)
 |.str y=>y.length<=sizeLine/\k=((y.length:Int)!=0)
 |.byt y=>y.size<=sizeLine/\k=((y.size:Int)!=0)
 |.ref p=>(∃xs,SqL K H p xs/\k=!xs.isEmpty)\/(∃xs,SqT K H p xs/\k=!xs.isEmpty)\/∃kvs,H p=some (.dK kvs)/\k=!kvs.isEmpty
 |_=>False
theorem a4s:(sizeLine:Nat)<2 ^ 63:=by rw[b8f];decide
theorem a0F:OpR X (binaryOp .Add) (λx y H Q=>∃i j,x=.str i/\y=.str j/\i.length+j.length<=sizeLine/\Q (.str (i++j)) H):=by
 intro pins s σ H x y v u Q I rx ry h;obtain⟨i,j,rfl,rfl,hz,q⟩:=h;obtain⟨t,rfl⟩:=rx;obtain⟨t',rfl⟩:=ry;exact add_str (λt' tk=>⟨.str (i++j),H,I.tok _,⟨_,rfl⟩,q⟩) hz
theorem a2D{x:V}{us:List Value}(r:a0P [x] us):∃u,us=[u]/\a1h x u:=by
 cases r with
 |cons r1 r2=>cases r2;exact⟨_,rfl,r1⟩
theorem a5z:a2v X (.type "int") (λxs H Q=>(∃i,xs=[.int i]/\Q (.int i) H)\/∃k,xs=[.bl k]/\Q (.int (if k then 1 else 0)) H):=by
 intro pins s σ H xs us Q I r h;rcases h with ⟨i,rfl,q⟩|⟨k,rfl,q⟩
 ·obtain⟨u,rfl,t,rfl⟩:=a2D r;exact call_int_int ⟨.int i,H,I,⟨_,rfl⟩,q⟩
 ·obtain⟨u,rfl,r1⟩:=a2D r;cases r1;exact call_int_bool ⟨.int (if k then 1 else 0),H,I.tok _,⟨_,rfl⟩,q⟩
theorem a3h:a2v X (.type "str") (λxs H Q=>∃i,xs=[.int i]/\i.natAbs.log2<1920/\Q (.str (toString i)) H):=by
 intro pins s σ H xs us Q I r h;obtain⟨i,rfl,hz,q⟩:=h;obtain⟨u,rfl,t,rfl⟩:=a2D r;exact PySem.P.str_of_int hz ⟨.str _,H,I.tok _,⟨_,rfl⟩,q⟩
def LenV(K:PySem.W.Frag)(x:V)(H:Hp)(n:Nat):Prop:=
 match x with
 |.str y=>y.length<=sizeLine/\n=y.length
 |.byt y=>y.size<=sizeLine/\n=y.size
 |.ref p=>(∃xs,SqL K H p xs/\n=xs.length)\/∃xs,SqT K H p xs/\n=xs.length
 |_=>False
end
structure b3T(h:Heap)(x dx C:Addr)(mA:Str->Option Value):Prop where
 obj:h.get? x=some (PySem.W.instObj C dx)
 ns:h.Ns1 dx mA
 ne:dx≠x
set_option tactic.hygienic true in
theorem a8D{h:Heap}{dx:Addr}{mA:Str->Option Value}(n:h.Ns1 dx mA):∃od,h.get? dx=some od/\∀name,PySem.W.lookIn name od=some (mA name):=by
 obtain⟨o,es,ep,ho,hd,hk,_,hm⟩:=n;refine⟨o,ho,λname=>?_⟩;have e:=hm name;unfold nsFind findBy at e;rw[<-Array.find?_toList] at e;unfold PySem.W.lookIn;rw[hd];dsimp only;split
 ·rename_i y q;rw[q] at e;exact b7d some e
 ·rename_i q;rw[q] at e;have a:es.toList.any (·.refKey)=false:=by
   rw[List.any_eq_false];intro y hy;obtain⟨z,t,hkey⟩:=hk y (Array.mem_toList_iff.mp hy);simp[DictEntry.refKey,hkey]
  have a':¬es.toList.any (·.refKey)=true:=by rw[a];exact b6u
  rw[if_neg a'];exact b7d some e
theorem b3T.look{h:Heap}{x dx C:Addr}{mA:Str->Option Value}(I:b3T h x dx C mA):∃od,PySem.W.InstAt h x (PySem.W.instObj C dx) C (some od)/\∀name,PySem.W.lookIn name od=some (mA name):=
 let ⟨od,ho,hl⟩:=a8D I.ns
 ⟨od,⟨I.obj,rfl,rfl,ho⟩,hl⟩
section
variable {prog:Program}{w:World}{A:Around}{E:Value->Shared->Prop}{s:Shared}{K:PySem.W.Frag}{x dx C f:Addr}{mA:Str->Option Value}{name:Str}{v:Value}
theorem b3U{expr:Bool}{Q:Value->Shared->Prop}(X:K.In s.heap)(I:b3T s.heap x dx C mA)(hg:PySem.W.plainGet K C name=true)(hh:PySem.W.hasDictIn K C=true)
  (ha:PySem.W.findIn K (.ref C) name=some none)(hv:mA name=some v)(hv':PySem.W.handedIn v=true)(h:Q v {s with toks:=s.toks+1}) :
  wpAny (model prog w) A (getAttr (.ref x) name expr) Q E s:=by
 obtain⟨od,J,hl⟩:=I.look;exact PySem.W.get_value X J (b9T hg).1 (PySem.W.findObj_own hh ha rfl (by rw[hl,hv])) hv' h
theorem b0Y{pl:Sem Bool}{Q:Value×List Value->Shared->Prop}(X:K.In s.heap)(I:b3T s.heap x dx C mA)(hg:PySem.W.plainGet K C name=true)
  (hf:PySem.W.findIn K (.ref C) name=some (some (.ref f)))(ht:PySem.W.isFn K (.ref f)=true)(hv:mA name=none)(h:Q (.ref f,[.ref x]) s) :
  wpAny (model prog w) A (getMethod (.ref x) name pl) Q E s:=by
 obtain⟨od,J,hl⟩:=I.look;exact PySem.W.method_fn X J (b9T hg).1 (b9T hg).2 hf (b9C.mp ht) (by show(PySem.W.lookIn name od).map (·.isSome)=some false;rw[hl,hv];rfl) h
theorem b3V{ns:List Str}{Q:Unit->Shared->Prop}(X:K.In s.heap)(I:b3T s.heap x dx C mA)
  (hs:PySem.W.findIn K (.ref C) "__setattr__"=some (some (.builtin "object.__setattr__")))(hp:PySem.W.plainOver K C=true)(ht:PySem.W.takerIn K C name=some none)(hh:PySem.W.hasDictIn K C=true)
  (hw:PySem.Within mA ns)(hsz:ns.length<=sizeLine)
  (h:∀h',b3T h' x dx C (λy=>if y=name then some v else mA y)->Heap.SameBut dx s.heap h'->Q () {s with heap:=h',toks:=s.toks+2}) :
  wpAny (model prog w) A (setAttr (.ref x) name v) Q E s:=by
 obtain⟨od,J,hl⟩:=I.look;refine PySem.W.set_plain X J hs (PySem.W.osa_open (s:={s with toks:=s.toks+1}) (r:=none) X J hp ht λb=>?_);obtain⟨cd,hc,hd'⟩:=PySem.W.any_some hh;have hx:s.heap.get? x=some ⟨.ref C,some dx,.plain,#[]⟩:=I.obj;refine b6c (b6j (b6c (b6c (wpAny_loadPart hx (b6c (PySem.W.Looks.here (s:={s with toks:=s.toks+1}) (PySem.W.looks_clsIn X hc) ?_))))));rw[hd'];refine b6j (a:=some dx) (b6c (b6j (b6c ?_)));refine wpAny_nsSet1 (s:={s with toks:=s.toks+1}) I.ns λh' hn2 hs2=>?_;obtain⟨oD,esD,epD,hoD,hdD,hcD⟩:=hn2.count (PySem.Within.cons name v hw);refine b6c (wpAny_lookBehind hoD (by rw[hdD];exact pastItsLine_dict (b6R hcD (by rw[b6F];omega))) ?_);exact b6j (h _ ⟨(hs2.2 _ (Ne.symm I.ne)).trans I.obj,hn2,I.ne⟩ hs2)
theorem b0Z{R:Result->Shared->Prop}{vs:List Value}{kw:List (Str×Value)}(X:K.In s.heap)(hm:PySem.W.makesIn K C=true)
  (hi:PySem.W.findIn K (.ref C) "__init__"=some (some (.ref f)))(hf:PySem.W.typeIn K (.ref f)=some (.type "function"))
  (h:codeAny (model prog w) (A.under (.builtin "type.__call__" ⟨.ref C::vs,kw⟩)) (.call (.ref f) ⟨.ref (s.heap.objs.size+1)::vs,kw⟩) (PySem.W.InitBack (s.heap.objs.size+1) R)
   {s with heap:=(s.heap.push PySem.W.emptyDict).push (PySem.W.instObj C s.heap.objs.size)}) :
  codeAny (model prog w) A (.call (.ref C) ⟨vs,kw⟩) R s:=by
 obtain⟨hh,g,d,t,os⟩:=s;exact PySem.W.make_core (PySem.W.makes_of X hm) (PySem.W.looks_findIn X hi) (λself=>PySem.W.bind_fn X self hf) (.inl rfl) h
end
def a1t(f:Str)(v:V):List (Str×V)->List (Str×V)
 |[]=>[(f,v)]
 |(g,x)::r=>if g=f then (g,v)::r else (g,x)::a1t f v r
theorem a3y(f g:Str)(v:V):∀fs:List (Str×V),(a1t f v fs).lookup g=if g=f then some v else fs.lookup g
 |[]=>by
  show List.lookup g [(f,v)]=_;by_cases h:g=f
  ·have hb:(g==f)=true:=b9C.mpr h;simp only[List.lookup,hb,if_pos h]
  ·have hb:(g==f)=false:=b8i.mpr h;simp only[List.lookup,hb,if_neg h]
 |(k,x)::r=>by
  have ih:=a3y f g v r;rw[show a1t f v ((k,x)::r)=(if k=f then (k,v)::r else (k,x)::a1t f v r) from rfl];by_cases hk:k=f
  ·rw[if_pos hk];by_cases h:g=k
   ·have hb:(g==k)=true:=b9C.mpr h;simp only[List.lookup,hb,if_pos (h.trans hk)]
   ·have hb:(g==k)=false:=b8i.mpr h;simp only[List.lookup,hb,if_neg (λe:g=f=>h (e.trans hk.symm))]
  ·rw[if_neg hk];by_cases h:g=k
   ·have hb:(g==k)=true:=b9C.mpr h;simp only[List.lookup,hb,if_neg (λe:g=f=>hk (h.symm.trans e))]
   ·have hb:(g==k)=false:=b8i.mpr h;simp only[List.lookup,hb];exact ih
theorem a3z(f:Str)(v:V):∀fs:List (Str×V),f∈(a1t f v fs).map (·.1)/\∀g,g∈fs.map (·.1)->g∈(a1t f v fs).map (·.1)
 |[]=>⟨by simp[a1t],λg h=>by simp at h⟩
 |(k,x)::r=>by
  obtain⟨i1,i2⟩:=a3z f v r;rw[show a1t f v ((k,x)::r)=(if k=f then (k,v)::r else (k,x)::a1t f v r) from rfl];by_cases hk:k=f
  ·rw[if_pos hk];subst hk;exact⟨by simp,λg h=>by simpa using h⟩
  ·rw[if_neg hk];refine⟨?_,λg h=>?_⟩
   ·rw[b6z];exact b7g _ i1
   ·rw[b6z] at h ⊢;rcases b6D.mp h with e|e
    ·exact b6D.mpr (.inl e)
    ·exact b7g _ (i2 g e)
theorem a3A(f:Str)(v:V):∀fs:List (Str×V),(a1t f v fs).length<=fs.length+1
 |[]=>by simp[a1t]
 |(k,x)::r=>by
  have ih:=a3A f v r;rw[show a1t f v ((k,x)::r)=(if k=f then (k,v)::r else (k,x)::a1t f v r) from rfl];by_cases hk:k=f
  ·rw[if_pos hk,b6F,b6F];omega
  ·rw[if_neg hk,b6F,b6F];omega
theorem a6p.some_of{v:V}{o:Option Value}(r:a6p (some v) o):∃u,o=some u/\a1h v u:=by
 cases o with
 |none=>exact(show False from r).elim
 |some u=>exact⟨u,rfl,r⟩
theorem a6p.none_of{o:Option Value}(r:a6p none o):o=none:=by
 cases o with
 |none=>rfl
 |some u=>exact(show False from r).elim
theorem a8E{v:V}{u:Value}(r:a1h v u):PySem.W.handedIn u=true:=by
 cases v with
 |non=>cases (show u=Value.none from r);rfl
 |bl b=>cases (show u=Value.bool b from r);rfl
 |int i=>obtain⟨t,e⟩:=(show ∃t,u=Value.int i t from r);cases e;rfl
 |str x=>obtain⟨t,e⟩:=(show ∃t,u=Value.str x t from r);cases e;rfl
 |byt b=>obtain⟨t,e⟩:=(show ∃t,u=Value.bytes b t from r);cases e;rfl
 |flt b=>obtain⟨t,e⟩:=(show ∃t,u=Value.float b t from r);cases e;rfl
 |ref a=>cases (show u=Value.ref a from r);rfl
 |ty n=>cases (show u=Value.type n from r);rfl
section
variable {P:Program}{w:World}{H H':Hp}{h h':Heap}{a C dx:Addr}{fs fs':List (Str×V)}
theorem a6u(hok:HOk P w H h)(e:H a=some (.ins C dx fs)):∃mA,b3T h a dx C mA/\(∀f,a6p (fs.lookup f) (mA f))/\PySem.Within mA (fs.map (·.1))/\fs.length<=1000/\H dx=some (.own a):=by
 obtain⟨d,z,ne,ob,mA,n,r,q⟩:=(show a1s P w H h a (.ins C dx fs) from hok a _ e)
 exact⟨mA,⟨ob,n,ne⟩,r,q,z,d⟩
end
structure Cls(K:PySem.W.Frag)(C:Addr):Prop where
 pg:PySem.W.plainGet K C Str.empty=true
 hd:PySem.W.hasDictIn K C=true
 po:PySem.W.plainOver K C=true
 sa:PySem.W.findIn K (.ref C) "__setattr__"=some (some (.builtin "object.__setattr__"))
theorem Cls.get{K:PySem.W.Frag}{C:Addr}(c:Cls K C)(f:Str):PySem.W.plainGet K C f=true:=c.pg
def a1a(K:PySem.W.Frag)(C:Addr)(f:Str):Prop:=PySem.W.findIn K (.ref C) f=some none
theorem a1a.taker{K:PySem.W.Frag}{C:Addr}{f:Str}(n:a1a K C f):PySem.W.takerIn K C f=some none:=by
 unfold PySem.W.takerIn;rw[show PySem.W.findIn K (.ref C) f=some none from n];rfl
structure Con(K:PySem.W.Frag)(C:Addr)(f:Str)(v:V)(u:Value):Prop where
 at_:PySem.W.findIn K (.ref C) f=some (some u)
 rel:a1h v u
 get:PySem.W.specialIn K u "__get__"=some none
 cp:PySem.W.copiedNames.contains f=false
structure a8F(K:PySem.W.Frag)(C:Addr)(m:Str)(f:Addr):Prop where
 at_:PySem.W.findIn K (.ref C) m=some (some (.ref f))
 fn:PySem.W.isFn K (.ref f)=true
 kp:PySem.W.keepIn K (.ref f)=true
section
variable {X:Cx}{pins:List (Addr×Obj)}{σ:St}{H:Hp}{s:Shared}{a C dx:Addr}{fs:List (Str×V)}{f:Str}{v:V}{A:Around}{E:Value->Shared->Prop}
theorem a7N{b:Bool}{Q:Value->Shared->Prop}(I:Inv X pins σ H s)(e:H a=some (.ins C dx fs))(c:Cls X.K C)(n:a1a X.K C f)(l:fs.lookup f=some v)
  (h:∀u s',Inv X pins σ H s'->a1h v u->Q u s'):wpAny (model X.prog X.w) A (getAttr (.ref a) f b) Q E s:=by
 obtain⟨mA,O,r,_,_,_⟩:=a6u I.hok e;obtain⟨u,hu,ru⟩:=a6p.some_of (v:=v) (o:=mA f) (by rw[<-l];exact r f);exact b3U I.kIn O (c.get f) c.hd n hu (a8E ru) (h u _ (I.tok _) ru)
theorem a3b{m:Str}{g:Addr}{pl:Sem Bool}{Q:Value×List Value->Shared->Prop}(I:Inv X pins σ H s)(e:H a=some (.ins C dx fs))(c:Cls X.K C)(k:a8F X.K C m g)(l:fs.lookup m=none)
  (h:Q (.ref g,[.ref a]) s):wpAny (model X.prog X.w) A (getMethod (.ref a) m pl) Q E s:=by
 obtain⟨mA,O,r,_,_,_⟩:=a6u I.hok e;have hn:mA m=none:=a6p.none_of (by rw[<-l];exact r m);exact b0Y I.kIn O (c.get m) k.at_ k.fn hn h
theorem a7O{y:V}{u:Value}{Q:Unit->Shared->Prop}(I:Inv X pins σ H s)(e:H a=some (.ins C dx fs))(c:Cls X.K C)(n:a1a X.K C f)(hl:fs.length<1000)(ry:a1h y u)
  (h:∀s',Inv X pins σ (upd H a (.ins C dx (a1t f y fs))) s'->Q () s'):wpAny (model X.prog X.w) A (setAttr (.ref a) f u) Q E s:=by
 obtain⟨mA,O,r,wi,_,ho⟩:=a6u I.hok e;have hz:(fs.map (·.1)).length<=sizeLine:=by rw[b6b,b8f];omega
 refine b3V I.kIn O c.sa c.po n.taker c.hd wi hz λh' O' sb=>h _ ?_;have hd:∃o,h'.get? dx=some o:=let ⟨o,_,_,e',_⟩:=O'.ns;⟨o,e'⟩
 refine I.write (x:=a) (e:=dx) (by rw[e];exact True.intro) (.inr ho) (λb q hb z=>(sb.2 b hb).trans z) hd ?_;refine⟨by rw[a0i O.ne];exact ho,?_,O.ne,O'.obj,_,O'.ns,λg=>?_,λg hg=>?_⟩
 ·have:=a3A f y fs;omega
 ·show a6p ((a1t f y fs).lookup g) (if g=f then some u else mA g);rw[a3y];by_cases q:g=f
  ·rw[if_pos q,if_pos q];exact ry
  ·rw[if_neg q,if_neg q];exact r g
 ·by_cases q:g=f
  ·rw[q];exact(a3z f y fs).1
  ·refine(a3z f y fs).2 g (wi g λz=>hg ?_);show(if g=f then some u else mA g)=none;rw[if_neg q];exact z
theorem Inv.made(I:Inv X pins σ H s):Inv X pins σ (upd (upd H s.heap.objs.size (.own (s.heap.objs.size+1))) (s.heap.objs.size+1) (.ins C s.heap.objs.size []))
  {s with heap:=(s.heap.push PySem.W.emptyDict).push (PySem.W.instObj C s.heap.objs.size)}:=by
 have e1:(s.heap.push PySem.W.emptyDict).get? s.heap.objs.size=some PySem.W.emptyDict:=b6m s.heap rfl;have e2:((s.heap.push PySem.W.emptyDict).push (PySem.W.instObj C s.heap.objs.size)).get? (s.heap.objs.size+1)=some (PySem.W.instObj C s.heap.objs.size):=by
  have:=b6m (s.heap.push PySem.W.emptyDict) (o:=PySem.W.instObj C s.heap.objs.size) rfl
  rwa [b7f] at this
 have e3:(s.heap.push PySem.W.emptyDict).Ns s.heap.objs.size (λ_=>none):=⟨PySem.W.emptyDict,#[],_,e1,rfl,(λe he=>absurd he (by simp)),λ_=>rfl⟩
 have I1:=I.laid (a:=s.heap.objs.size) (o:=.own (s.heap.objs.size+1)) (h':=s.heap.push PySem.W.emptyDict) (t':=s.toks) (λb u q=>b6e _ q) (b6k _) ⟨_,e1⟩;refine I1.laid (a:=s.heap.objs.size+1) (o:=.ins C s.heap.objs.size []) (t':=s.toks) (λb u q=>b6e _ q) (Nat.le_of_eq (b7f _ _)) ?_;have ne:s.heap.objs.size≠s.heap.objs.size+1:=b6L (b9K _);refine⟨by rw[a0i ne,a0b],b6O _,ne,e2,λ_=>none,(Heap.Ns1.of_empty e3).at λo q=>b6e _ q,λ_=>True.intro,λy hy=>absurd rfl hy⟩
theorem b3W{prog:Program}{w:World}{env:Env}{e:Expr}{f:Str}{pos:Pos}{s:Shared}{Q:Value->Shared->Prop}(hb:attributeBase e f env (eval e env)=eval e env)
  (h:wpAny (model prog w) A (eval e env) (λo s₁=>wpAny (model prog w) A (getAttr o f true) Q E s₁) E s):wpAny (model prog w) A (eval (.Attribute e f pos) env) Q E s:=
 Attribute_any_ h (by rw[arm_eval_Attribute,hb])
end
def tFld(K:PySem.W.Frag)(ta:TE)(f:Str):TE:=λσ H Q=>ta σ H λx H1=>∃a C dx fs v,x=.ref a/\H1 a=some (.ins C dx fs)/\Cls K C/\a1a K C f/\fs.lookup f=some v/\Q v H1
def tCon(K:PySem.W.Frag)(ta:TE)(f:Str):TE:=λσ H Q=>ta σ H λx H1=>∃a C dx fs v u,x=.ref a/\H1 a=some (.ins C dx fs)/\Cls K C/\Con K C f v u/\fs.lookup f=none/\Q v H1
def sFld(K:PySem.W.Frag)(ta tv:TE)(f:Str):TS:=λD σ H=>tv σ H λy H1=>ta σ H1 λx H2=>∃a C dx fs,x=.ref a/\H2 a=some (.ins C dx fs)/\Cls K C/\a1a K C f/\fs.length<1000 /\
 D.nx σ (upd H2 a (.ins C dx (a1t f y fs)))
def InOp(X:Cx)(op:Operator)(rd:V->V->Hp->VK->Prop):Prop:=
 ∀(pins:List (Addr×Obj))(s:Shared)(σ:St)(H:Hp)(x y:V)(u v:Value)(Q:VK),Inv X pins σ H s->a1h x u->a1h y v->rd x y H Q->wpAny (model X.prog X.w) X.A (inplaceOp op u v) (EP X pins σ Q) X.xe s
def sFldAug(K:PySem.W.Frag)(ta tv:TE)(rd:V->V->Hp->VK->Prop)(f:Str):TS:=λD σ H=>ta σ H λx H1=>∃a C dx fs v,x=.ref a/\H1 a=some (.ins C dx fs)/\Cls K C/\a1a K C f/\fs.lookup f=some v /\
 tv σ H1 λy H2=>rd v y H2 λz H3=>∃dx' fs',H3 a=some (.ins C dx' fs')/\fs'.length<1000/\D.nx σ (upd H3 a (.ins C dx' (a1t f z fs')))
section
variable {X:Cx}{o e value:Expr}{f:Str}{pos pos' tpos:Pos}{ta tv:TE}
theorem a0s(he:PE X e ta)(hb:attributeBase e f X.env (eval e X.env)=eval e X.env):PE X (.Attribute e f pos) (tFld X.K ta f):=by
 intro pins s σ H Q I h;refine b3W hb (thn (he pins s σ H _ I h) λu s1 ⟨x,H1,I1,rx,a,C,dx,fs,v,ex,ea,c,n,l,q⟩=>?_);subst ex;obtain rfl:u=Value.ref a:=rx;exact a7N I1 ea c n l λu' s2 I2 ru=>⟨v,H1,I2,ru,q⟩
theorem a1e(ha:PE X o ta)(hv:PE X value tv)(hs:swapsWith value (some (.Attribute o f pos')) pos.line X.env=pure false):PS X (.Assign [.Attribute o f pos'] value pos) (sFld X.K ta tv f):=by
 intro pins s σ H D I h;refine plainObj_wpAny_Assign_Attribute (thn (hv pins s σ H _ I h) λu s1 ⟨y,H1,I1,ry,q⟩=>thn (ha pins s1 σ H1 _ I1 q) λov s2 ⟨x,H2,I2,rx,a,C,dx,fs,ex,ea,c,n,l,q2⟩=>?_) hs;subst ex;obtain rfl:ov=Value.ref a:=rx;exact a7O I2 ea c n l ry λs3 I3=>⟨σ,_,I3,q2⟩
end
section
variable {X:Cx}{pins:List (Addr×Obj)}{σ:St}{H:Hp}{s:Shared}{A:Around}{E:Value->Shared->Prop}{Q:Value->Shared->Prop}{c:Value}{b:Bool}
inductive a8G(K:PySem.W.Frag)(H:Hp):V->Value->Prop where
 |non:a8G K H .non (.type "NoneType")
 |bl (x:Bool):a8G K H (.bl x) (.type "bool")
 |int (i:Int):a8G K H (.int i) (.type "int")
 |str (x:Str):a8G K H (.str x) (.type "str")
 |flt (x:UInt64):a8G K H (.flt x) (.type "float")
 |lst {a:Addr} {xs:List V} (e:H a=some (.lst xs)):a8G K H (.ref a) (.type "list")
 |frz {a:Addr} {o:Obj} {xs:List V} (e:H a=some (.frz o (.lst xs))):a8G K H (.ref a) (.type "list")
 |tup {a:Addr} {xs:List V} (e:H a=some (.tup xs)):a8G K H (.ref a) (.type "tuple")
 |dK {a:Addr} {kvs:List (Key×V)} (e:H a=some (.dK kvs)):a8G K H (.ref a) (.type "dict")
 |dT {a:Addr} {kvs:List (List Key×V)} (e:H a=some (.dT kvs)):a8G K H (.ref a) (.type "dict")
 |ins {a C dx:Addr} {fs:List (Str×V)} (e:H a=some (.ins C dx fs)) (cl:Cls K C) (ha:PySem.W.findIn K (.ref C) "__class__"=some (some (.builtin "object.__class__")))
   (hn:PySem.W.specialIn K (.builtin "object.__class__") "__get__"=some (some (.builtin "getset_descriptor.__get__"))) (htk:PySem.W.takesIn K (.builtin "object.__class__")=some true)
   (hm:PySem.W.mroIn K C (.type "object")=some true):a8G K H (.ref a) (.ref C)
end
structure a2I(k:Nat)(A:Around):Prop where
 hd:A.handled=none
 dp:A.depth+3*k+5<recursionLimit
 un:A.units+16*k+200<cLine
theorem a2I.mono{j k:Nat}{A:Around}(r:a2I k A)(h:j<=k):a2I j A:=⟨r.hd,by have:=r.dp;omega,by have:=r.un;omega⟩
theorem a2I.deeper{k:Nat}{A:Around}(r:a2I (k+1) A)(env:Env):a2I k (A.deeper env):=
 ⟨r.hd,by have:=r.dp;show A.depth+1+3*k+5<_;omega,by have:=r.un;show A.units+3+16*k+200<_;omega⟩
theorem a7P{A:Around}{C:Addr}{us:List Value}{kw:List (Str×Value)}:(A.under (.builtin "type.__call__" ⟨.ref C::us,kw⟩)).depth=A.depth+1:=by
 first|rfl|simp[Around.under,Code.weight,Code.isCreation,Code.isGuard,Code.isCaller,Code.frames,Code.isFrame,guardIds]
theorem a7Q{A:Around}{C:Addr}{us:List Value}{kw:List (Str×Value)}:(A.under (.builtin "type.__call__" ⟨.ref C::us,kw⟩)).units=A.units+1:=by
 first|rfl|simp[Around.under,Code.cUnits,Code.frames,Code.isFrame]
theorem a2I.make{k:Nat}{A:Around}(r:a2I (k+1) A)(C:Addr)(us:List Value)(kw:List (Str×Value)):a2I k (A.under (.builtin "type.__call__" ⟨.ref C::us,kw⟩)):=
 ⟨r.hd,by have:=r.dp;rw[a7P];omega,by have:=r.un;rw[a7Q];omega⟩
theorem a2I.depth{k:Nat}{A:Around}(r:a2I k A):A.depth<recursionLimit:=by have:=r.dp;omega
theorem a2I.units{k:Nat}{A:Around}(r:a2I k A):A.units+64<cLine:=by have:=r.un;omega
def b2L:TA:=λ_ H Q=>Q [] H
def a6v(ta:TE)(tr:TA):TA:=λσ H Q=>ta σ H λx H1=>tr σ H1 λxs H2=>Q (x::xs) H2
section
variable {X:Cx}{e:Expr}{es:List Expr}{te:TE}{t:TA}{pos:Pos}
theorem a0d:PA X [] b2L:=λ_ _ _ _ H Q I h=>Calls.spliced_nil ⟨[],H,I,.nil,h⟩
theorem a0a(ha:PE X e te)(hr:PA X es t)(hs:starEach (e::es) X.env=(false,eval e X.env)::starEach es X.env:=by rfl):PA X (e::es) (a6v te t):=by
 intro pos pins s σ H Q I h;rw[hs];show wpAny _ _ (spliced ((false,eval e X.env)::backTo pos (starEach es X.env))) _ _ s;refine c0j (thn (ha pins s σ H _ I h) λu s1 ⟨x,H1,I1,r1,q1⟩=>?_);exact thn (hr pos pins s1 σ H1 _ I1 q1) λus s2 ⟨xs,H2,I2,r2,q2⟩=>⟨x::xs,H2,I2,.cons r1 r2,q2⟩
def tTup(t:TA):TE:=λσ H Q=>t σ H λxs H1=>xs.length<=sizeLine/\∀p,H1 p=none->Q (.ref p) (upd H1 p (.tup xs))
def tLst(t:TA):TE:=λσ H Q=>t σ H λxs H1=>xs.length<=sizeLine/\∀p,H1 p=none->Q (.ref p) (upd H1 p (.lst xs))
theorem a1v{x1}(h:PA X es t):PE X (.Tuple es x1 pos) (tTup t):=by
 intro pins s σ H Q I hq;refine wpAny_Tuple_spliced (thn (h pos pins s σ H _ I hq) λus s1 ⟨xs,H1,I1,r,z,q⟩=>⟨by rw[<-r.length];exact z,?_⟩);have hf:H1 s1.heap.objs.size=none:=I1.hok.fresh (b6k _);refine⟨.ref s1.heap.objs.size,upd H1 s1.heap.objs.size (.tup xs),I1.laid (t':=s1.toks) (λb u e=>b6e _ e) (b6k _) ?_,rfl,q _ hf⟩;exact⟨z,us,r,⟨_,b6m _ rfl,_,rfl⟩⟩
theorem a1p(h:PA X es t):PE X (.List es pos) (tLst t):=by
 intro pins s σ H Q I hq;refine wpAny_List_spliced (thn (h pos pins s σ H _ I hq) λus s1 ⟨xs,H1,I1,r,z,q⟩=>⟨by rw[<-r.length];exact z,?_⟩);have hf:H1 s1.heap.objs.size=none:=I1.hok.fresh (b6k _);refine⟨.ref s1.heap.objs.size,upd H1 s1.heap.objs.size (.lst xs),I1.laid (t':=s1.toks) (λb u e=>b6e _ e) (b6k _) ?_,rfl,q _ hf⟩;exact⟨z,us,0,r,b6m _ rfl⟩
end
abbrev Sp:=List V->Hp->VK->XK->Prop
abbrev CXT:=List Env->Hp->Shared->XK->Value->Shared->Prop
structure b3X(P:Program)(w:World)(K:PySem.W.Frag)(mg:Str->Option Value)(base:Heap)(A:Around)(outer:List Env)(s:Shared)(H:Hp):Prop where
 frames:A.frames=some outer
 mod:Mod K mg base
 bs:∀b o,base.get? b=some o->s.heap.get? b=some o/\H b=none
 bsz:base.objs.size<=s.heap.objs.size
 funs:s.heap.FunFrames base outer
 frf:∀b∈frs outer,H b=none
 hok:HOk P w H s.heap
 bare:AllBare s.gens
def CE(outer:List Env)(P:Program)(w:World)(H:Hp)(s:Shared)(Q:VK)(u:Value)(s':Shared):Prop:=
 ∃v H',s'.os=s.os/\AllBare s'.gens/\Un (frs outer) [] H H' s.heap s'.heap/\HOk P w H' s'.heap/\a1h v u/\Q v H'
def CR(CX:CXT)(outer:List Env)(P:Program)(w:World)(H:Hp)(s:Shared)(Q:VK)(E:XK)(r:Result)(s':Shared):Prop:=
 match r with
 |.ok (.ret u)=>CE outer P w H s Q u s'
 |.ok _=>False
 |.error e=>CX outer H s E e s'
structure a0I(P:Program)(w:World)(K:PySem.W.Frag)(mg:Str->Option Value)(base:Heap)(CX:CXT)(k:Nat)(f:Addr)(fd:FuncData)(ps:List Str)(sp:Sp):Prop where
 len:∀vs H Q E,sp vs H Q E->vs.length=ps.length
 run:∀(A:Around)(outer:List Env)(s:Shared)(H:Hp)(args:Args)(us:List Value)(vs:List V)(Q:VK)(E:XK),a2I k A->b3X P w K mg base A outer s H->BindsTo s fd args (ps.zip us)->a0P vs us->sp vs H Q E ->
  codeAny (model P w) A (.call (.ref f) args) (CR CX outer P w H s Q E) s
theorem a0I.mono{P:Program}{w:World}{K:PySem.W.Frag}{mg:Str->Option Value}{base:Heap}{CX:CXT}{j k:Nat}{f:Addr}{fd:FuncData}{ps:List Str}{sp:Sp}(F:a0I P w K mg base CX j f fd ps sp)(h:j<=k) :
  a0I P w K mg base CX k f fd ps sp:=⟨F.len,λA outer s H args us vs Q E hr=>F.run A outer s H args us vs Q E (hr.mono h)⟩
theorem b3X.make{P:Program}{w:World}{K:PySem.W.Frag}{mg:Str->Option Value}{base:Heap}{A:Around}{outer:List Env}{s:Shared}{H:Hp}(e:b3X P w K mg base A outer s H)(C:Addr)(us:List Value)(kw:List (Str×Value)) :
  b3X P w K mg base (A.under (.builtin "type.__call__" ⟨.ref C::us,kw⟩)) outer s H:=⟨by first|exact e.frames|(simpa [Around.under,Code.envs,Code.isFrame,pushEnvs] using e.frames),e.mod,e.bs,e.bsz,e.funs,e.frf,e.hok,e.bare⟩
section
variable {X:Cx}{pins:List (Addr×Obj)}{σ:St}{H:Hp}{s s':Shared}
theorem Inv.env0(I:Inv X pins σ H s):b3X X.prog X.w X.K X.mg X.base X.A X.stack s H:=
 ⟨I.ok.frames,I.ok.mod,I.bs,b6R I.ok.bsz I.sz,I.stack,I.stkFree,I.hok,I.bare⟩
theorem Inv.after{Q:VK}{u:Value}(I:Inv X pins σ H s)(h:CE X.stack X.prog X.w H s Q u s'):EP X pins σ Q u s':=by
 obtain⟨v,H',os,bare,un,hok,r,q⟩:=h;obtain⟨hh,g,d,t,os'⟩:=s';obtain rfl:os'=s.os:=os;exact⟨v,H',I.call (h':=hh) (g':=g) (d':=d) (t':=t) (ch:=[]) un hok bare (λb z=>absurd z (by simp)),r,q⟩
end
def tCall(sp:Sp)(dvs:List V)(E:XK)(t:TA):TE:=λσ H Q=>t σ H λvs H1=>sp (vs++dvs) H1 Q E
def tMeth(C:Addr)(m:Str)(sp:Sp)(dvs:List V)(E:XK)(ta:TE)(t:TA):TE:=λσ H Q=>ta σ H λx H1=>∃a dx fs,x=.ref a/\H1 a=some (.ins C dx fs)/\fs.lookup m=none /\
 t σ H1 λvs H2=>sp (x::(vs++dvs)) H2 Q E
def tMake(C:Addr)(sp:Sp)(dvs:List V)(E:XK)(t:TA):TE:=λσ H Q=>t σ H λvs H1=>∀x dx,H1 x=none->H1 dx=none->dx≠x ->
 sp (.ref x::(vs++dvs)) (upd (upd H1 dx (.own x)) x (.ins C dx [])) (λv H2=>v=.non/\Q (.ref x) H2) E
def a1K(K:PySem.W.Frag)(fd:FuncData)(ps:List Str)(ds:List Value):Prop:=
 ∀(s:Shared)(us:List Value),K.In s.heap->(us++ds).length=ps.length->BindsTo s fd ⟨us,[]⟩ (ps.zip (us++ds))
theorem a1K.all{K:PySem.W.Frag}{fd:FuncData}{ps:List Str}(h:∀us:List Value,us.length=ps.length->bindArgs fd ⟨us,[]⟩=pure (ps.zip us)):a1K K fd ps []:=λs us _ hl=>by
 rw[b7e] at hl ⊢;exact .of_eq (h us hl)
def a3B(CX:CXT)(X:Cx)(E:XK):Prop:=∀(pins:List (Addr×Obj))(σ:St)(H:Hp)(s:Shared)(e:Value)(s':Shared),Inv X pins σ H s->CX X.stack H s E e s'->X.xe e s'
section
variable {X:Cx}{CX:CXT}{k:Nat}{f C:Addr}{fd:FuncData}{ps:List Str}{sp:Sp}{dvs:List V}{ds:List Value}{E:XK}{x m:Str}{p pos apos:Pos}{e o:Expr}{es:List Expr}{ta:TE}{t:TA}
theorem a8H{pins:List (Addr×Obj)}{σ:St}{H:Hp}{s:Shared}{Q:VK}{us:List Value}{vs:List V}(F:a0I X.prog X.w X.K X.mg X.base CX k f fd ps sp)(hr:a2I k X.A)(hb:a1K X.K fd ps ds)(hd:a0P dvs ds)(hx:a3B CX X E)
  (I:Inv X pins σ H s)(r:a0P vs us)(h:sp (vs++dvs) H Q E):wpAny (model X.prog X.w) X.A (call (.ref f) us) (EP X pins σ Q) X.xe s:=by
 have r2:a0P (vs++dvs) (us++ds):=r.append hd;have hl:(us++ds).length=ps.length:=by rw[<-r2.length];exact F.len _ _ _ _ h
 refine c0N (b8L (F.run X.A X.stack s H ⟨us,[]⟩ (us++ds) (vs++dvs) Q E hr I.env0 (hb s us I.kIn hl) r2 h) λr s' hq=>?_);cases r with
 |error e=>exact hx pins σ H s e s' I hq
 |ok fl=>
  cases fl with
  |ret u=>exact I.after hq
  |next=>exact False.elim hq
  |brk=>exact False.elim hq
  |cont=>exact False.elim hq
theorem a4K(F:a0I X.prog X.w X.K X.mg X.base CX k f fd ps sp)(hr:a2I k X.A)(hg:Gl X x)(hm:X.mg x=some (.ref f))(hk:PySem.W.keepIn X.K (.ref f)=true)(hb:a1K X.K fd ps ds)(hd:a0P dvs ds)(hx:a3B CX X E)
  (ha:PA X (e::es) t)(hdb:(x==("__debug__":Str))=false:=by decide)(he:starEach (e::es) X.env=(false,eval e X.env)::starEach es X.env:=by rfl)(hpl:(backTo pos (starEach es X.env)).any (·.1)=false:=by rfl) :
  PE X (.Call (.Name x p) (e::es) [] pos) (tCall sp dvs E t):=by
 intro pins s σ H Q I h;refine b8I (a4F I hg hm ?_ hdb);refine b9n (h₀:=X.base) I.ok.mod.kin hk (thn (ha pos pins s σ H _ I h) λus s1 ⟨vs,H1,I1,r,q⟩=>⟨I1.kIn,?_⟩) he hpl;exact a8H F hr hb hd hx I1 r q
theorem a0T{pl:Sem Bool}(he:PE X o ta)(c:Cls X.K C)(hm:a8F X.K C m f)(F:a0I X.prog X.w X.K X.mg X.base CX k f fd ps sp)(hr:a2I k X.A)(hb:a1K X.K fd ps ds)(hd:a0P dvs ds)(hx:a3B CX X E)(ha:PA X (e::es) t)
  (hst:starEach (e::es) X.env=(false,eval e X.env)::starEach es X.env:=by rfl)(hpl:(backTo pos (starEach es X.env)).any (·.1)=false:=by rfl)
  (ht:eval (.Call (.Attribute o m apos) (e::es) [] pos) X.env=(do
   let ov <-eval o X.env
   standAt apos.atName
   let (f,first) <-holding [ov] (getMethod ov m pl)
   callWith pos f first (backTo pos (starEach (e::es) X.env)) (backToKw pos (keywordEach [] X.env))):=by rfl) :
  PE X (.Call (.Attribute o m apos) (e::es) [] pos) (tMeth C m sp dvs E ta t):=by
 intro pins s σ H Q I h;refine b9G (pl:=pl) (thn (he pins s σ H _ I h) λu s1 ⟨x,H1,I1,rx,a,dx,fs,ex,ea,l,q⟩=>?_) ht;subst ex;obtain rfl:u=Value.ref a:=rx;refine a3b I1 ea c hm l ?_;refine b9n (first:=[.ref a]) (h₀:=X.base) I.ok.mod.kin hm.kp (thn (ha pos pins s1 σ H1 _ I1 q) λus s2 ⟨vs,H2,I2,r,q2⟩=>⟨I2.kIn,?_⟩) hst hpl;exact a8H (us:=.ref a::us) (vs:=.ref a::vs) F hr hb hd hx I2 (.cons rfl r) q2
theorem a2N{pl:Sem Bool}(he:PE X o ta)(c:Cls X.K C)(hm:a8F X.K C m f)(F:a0I X.prog X.w X.K X.mg X.base CX k f fd ps sp)(hr:a2I k X.A)(hb:a1K X.K fd ps ds)(hd:a0P dvs ds)(hx:a3B CX X E)
  (ht:eval (.Call (.Attribute o m apos) [] [] pos) X.env=(do
   let ov <-eval o X.env
   standAt apos.atName
   let (f,first) <-holding [ov] (getMethod ov m pl)
   callWith pos f first (backTo pos (starEach [] X.env)) (backToKw pos (keywordEach [] X.env))):=by rfl) :
  PE X (.Call (.Attribute o m apos) [] [] pos) (tMeth C m sp dvs E ta b2L):=by
 intro pins s σ H Q I h;refine b9G (pl:=pl) (thn (he pins s σ H _ I h) λu s1 ⟨x,H1,I1,rx,a,dx,fs,ex,ea,l,q⟩=>?_) ht;subst ex;obtain rfl:u=Value.ref a:=rx;refine a3b I1 ea c hm l ?_;exact PySem.W.callWith_K0 (first:=[.ref a]) I1.kIn hm.kp (a8H (us:=[.ref a]) (vs:=[.ref a]) F hr hb hd hx I1 (.cons rfl .nil) q)
structure Mk(K:PySem.W.Frag)(C f:Addr):Prop where
 makes:PySem.W.makesIn K C=true
 init:PySem.W.findIn K (.ref C) "__init__"=some (some (.ref f))
 fn:PySem.W.isFn K (.ref f)=true
 kp:PySem.W.keepIn K (.ref C)=true
theorem b1a{pins:List (Addr×Obj)}{σ:St}{H:Hp}{s:Shared}{Q:VK}{us:List Value}{vs:List V}(M:Mk X.K C f)(F:a0I X.prog X.w X.K X.mg X.base CX k f fd ps sp)(hr:a2I (k+1) X.A)(hb:a1K X.K fd ps ds)(hd:a0P dvs ds)
  (hx:a3B CX X E)(I:Inv X pins σ H s)(r:a0P vs us)
  (h:∀x dx,H x=none->H dx=none->dx≠x->sp (.ref x::(vs++dvs)) (upd (upd H dx (.own x)) x (.ins C dx [])) (λv H2=>v=.non/\Q (.ref x) H2) E) :
  wpAny (model X.prog X.w) X.A (call (.ref C) us) (EP X pins σ Q) X.xe s:=by
 have hq:=h (s.heap.objs.size+1) s.heap.objs.size (I.hok.fresh (Nat.le_succ _)) (I.hok.fresh (b6k _)) (b6L (b9K _));have I2:=Inv.made (C:=C) I;have r2:a0P (V.ref (s.heap.objs.size+1)::(vs++dvs)) (Value.ref (s.heap.objs.size+1)::(us++ds)):=.cons rfl (r.append hd);have hl:(Value.ref (s.heap.objs.size+1)::us++ds).length=ps.length:=by
  have e:=r2.length;rw[F.len _ _ _ _ hq] at e;exact e.symm
 refine c0N (b0Z (f:=f) I.kIn M.makes M.init (b9C.mp M.fn) (b8L (F.run _ X.stack _ _ ⟨Value.ref (s.heap.objs.size+1)::us,[]⟩ (Value.ref (s.heap.objs.size+1)::(us++ds)) _ _ E (hr.make C us [])
  (I2.env0.make C us []) (hb _ (Value.ref (s.heap.objs.size+1)::us) I2.kIn hl) r2 hq) λr s' hq'=>?_))
 cases r with
 |error e=>exact hx pins σ _ _ e s' I2 hq'
 |ok fl=>
  cases fl with
  |ret u=>
   obtain⟨v,H',I3,rv,ev,q3⟩:=I2.after hq';subst ev;exact⟨rv,⟨V.ref (s.heap.objs.size+1),H',I3,rfl,q3⟩⟩
  |next=>exact False.elim hq'
  |brk=>exact False.elim hq'
  |cont=>exact False.elim hq'
theorem a4L(M:Mk X.K C f)(F:a0I X.prog X.w X.K X.mg X.base CX k f fd ps sp)(hr:a2I (k+1) X.A)(hg:Gl X x)(hm:X.mg x=some (.ref C))(hb:a1K X.K fd ps ds)(hd:a0P dvs ds)(hx:a3B CX X E)
  (ha:PA X (e::es) t)(hdb:(x==("__debug__":Str))=false:=by decide)(he:starEach (e::es) X.env=(false,eval e X.env)::starEach es X.env:=by rfl)(hpl:(backTo pos (starEach es X.env)).any (·.1)=false:=by rfl) :
  PE X (.Call (.Name x p) (e::es) [] pos) (tMake C sp dvs E t):=by
 intro pins s σ H Q I h;refine b8I (a4F I hg hm ?_ hdb);refine b9n (h₀:=X.base) I.ok.mod.kin M.kp (thn (ha pos pins s σ H _ I h) λus s1 ⟨vs,H1,I1,r,q⟩=>⟨I1.kIn,?_⟩) he hpl;exact b1a M F hr hb hd hx I1 r q
end
def PK(X:Cx)(kws:List Keyword)(t:TA):Prop:=
 ∀(pos:Pos)(pins:List (Addr×Obj))(s:Shared)(σ:St)(H:Hp)(Q:List V->Hp->Prop),Inv X pins σ H s->t σ H Q->wpAny (model X.prog X.w) X.A (evalAll ((backToKw pos (keywordEach kws X.env)).map (·.2))) (AP X pins σ Q) X.xe s
section
variable {X:Cx}{CX:CXT}{k:Nat}{f C:Addr}{fd:FuncData}{ps ks:List Str}{sp:Sp}{E:XK}{x m:Str}{p pos apos kpos:Pos}{e o:Expr}{es:List Expr}{kws:List Keyword}{te ta:TE}{t tk:TA}{nm:Option Str}
theorem pk_nil:PK X [] b2L:=λ_ _ _ _ H Q I h=>wpAny_evalAll_nil ⟨[],H,I,.nil,h⟩
theorem b3Y(ha:PE X e te)(hr:PK X kws t):PK X (⟨nm,e,kpos⟩::kws) (a6v te t):=by
 intro pos pins s σ H Q I h;show wpAny _ _ (evalAll ((do let v <-eval e X.env;standAt pos;pure v)::(backToKw pos (keywordEach kws X.env)).map (·.2))) _ _ s;refine wpAny_evalAll_cons (b6c (thn (ha pins s σ H _ I h) λu s1 ⟨x,H1,I1,r1,q1⟩=>b6c (c0z (b6j ?_))));exact thn (hr pos pins s1 σ H1 _ I1 q1) λus s2 ⟨xs,H2,I2,r2,q2⟩=>⟨x::xs,H2,I2,.cons r1 r2,q2⟩
structure KBinds(K:PySem.W.Frag)(fd:FuncData)(ps ks:List Str)(g:List Value->List Value->List Value)(gV:List V->List V->List V):Prop where
 to:∀(s:Shared)(us ws:List Value),K.In s.heap->(g us ws).length=ps.length->BindsTo s fd ⟨us,ks.zip ws⟩ (ps.zip (g us ws))
 rel:∀{vs:List V}{us:List Value}{zs:List V}{ws:List Value},a0P vs us->a0P zs ws->a0P (gV vs zs) (g us ws)
variable {g:List Value->List Value->List Value}{gV:List V->List V->List V}
end
structure a0k(N P:List Str)(sc:Scope):Prop where
 kind:sc.kind=.function
 co:sc.isCoroutine=false
 gen:sc.isGenerator=false
 nd:N.Nodup
 pre:N.take P.length=P
 par:∀x∈P,sc.names.lookup x=some .local\/sc.names.lookup x=some .cell
 nofree:∀y∈sc.names,y.2≠.free
theorem pgA{X:Cx}{i:Nat}{x:Str}{pos:Pos}{Ps:List Str}{sc:Scope}(S:a0k X.N Ps sc)(hi:X.N[i]?=some x:=by rfl)(hx:Loc X.env.scope x:=by first|exact .inl rfl|exact .inr rfl)(hf:X.fn x=true\/X.env.scope.names.lookup x=some .local:=by first|exact .inl rfl|exact .inr rfl|assumption):PG X (.Name x pos) (a1B i):=a2C S.nd hi hx hf
theorem psA{X:Cx}{i:Nat}{x:Str}{e:Expr}{te:TE}{pos pos':Pos}{Ps:List Str}{sc:Scope}(S:a0k X.N Ps sc)(he:PE X e te)(hi:X.N[i]?=some x:=by rfl)(hx:Loc X.env.scope x:=by first|exact .inl rfl|exact .inr rfl)(hs:swapsWith e (some (.Name x pos')) pos.line X.env=pure false:=by rfl)(hf:X.fn x=true\/X.env.scope.names.lookup x=some .local:=by first|exact .inl rfl|exact .inr rfl|assumption):PS X (.Assign [.Name x pos'] e pos) (b0O te (a1B i)):=b2F S.nd hi hx he hs hf
theorem fsk{N P:List Str}{sc:Scope}(h1:sc.kind=.function:=by rfl)(h2:sc.isCoroutine=false:=by rfl)(h3:sc.isGenerator=false:=by rfl)(h4:N.Nodup:=by decide +kernel)(h5:N.take P.length=P:=by rfl)(h6:∀x∈P,sc.names.lookup x=some .local\/sc.names.lookup x=some .cell:=by decide +kernel)(h7:∀y∈sc.names,y.2≠.free:=by decide +kernel):a0k N P sc:=⟨h1,h2,h3,h4,h5,h6,h7⟩
theorem a5A{kindOf:Str->Option NameKind}{x:Str}:∀{binds:List (Str×Value)}{m:Str->Option Value},(∀v,(x,v)∉binds)->bindL kindOf binds m x=m x
 |[],_,_=>rfl
 |(n,v)::r,m,h=>by
  unfold bindL;rw[a5A λw hw=>h w (b7g _ hw)];split
  ·have:x≠n:=by rintro rfl;exact h v b7O
   simp[this]
  ·rfl
theorem a5B{kindOf:Str->Option NameKind}{x:Str}:∀{binds:List (Str×Value)}{m:Str->Option Value},(∀v,(x,v)∉binds)->bindC kindOf binds m x=m x
 |[],_,_=>rfl
 |(n,v)::r,m,h=>by
  unfold bindC;rw[a5B λw hw=>h w (b7g _ hw)];split
  ·rfl
  ·have:x≠n:=by rintro rfl;exact h v b7O
   simp[this]
theorem a5C{kindOf:Str->Option NameKind}{x:Str}{v:Value}:∀{P:List Str}{vs:List Value}{i:Nat}{m:Str->Option Value},P.Nodup->P[i]?=some x->vs[i]?=some v->kindOf x=some .local ->
  bindL kindOf (P.zip vs) m x=some v
 |[],_,_,_,_,h,_,_=>by simp at h
 |_::_,[],_,_,_,_,h,_=>by simp at h
 |p::P,w::vs,0,m,nd,h1,h2,hk=>by
  simp at h1 h2;subst h1;subst h2;show bindL kindOf ((p,w)::P.zip vs) m p=_;unfold bindL;rw[a5A λv hv=>(b7C.mp nd).1 (c0J hv).1,if_pos hk];simp
 |p::P,w::vs,i+1,m,nd,h1,h2,hk=>by
  show bindL kindOf ((p,w)::P.zip vs) m x=_;unfold bindL;exact a5C (i:=i) (b7C.mp nd).2 (by simpa using h1) (by simpa using h2) hk
theorem a5D{kindOf:Str->Option NameKind}{x:Str}{v:Value}:∀{P:List Str}{vs:List Value}{i:Nat}{m:Str->Option Value},P.Nodup->P[i]?=some x->vs[i]?=some v->kindOf x≠some .local ->
  bindC kindOf (P.zip vs) m x=some v
 |[],_,_,_,_,h,_,_=>by simp at h
 |_::_,[],_,_,_,_,h,_=>by simp at h
 |p::P,w::vs,0,m,nd,h1,h2,hk=>by
  simp at h1 h2;subst h1;subst h2;show bindC kindOf ((p,w)::P.zip vs) m p=_;unfold bindC;rw[a5B λv hv=>(b7C.mp nd).1 (c0J hv).1,if_neg hk];simp
 |p::P,w::vs,i+1,m,nd,h1,h2,hk=>by
  show bindC kindOf ((p,w)::P.zip vs) m x=_;unfold bindC;exact a5D (i:=i) (b7C.mp nd).2 (by simpa using h1) (by simpa using h2) hk
def start(N:List Str)(vs:List V):St:=vs.map some++List.replicate (N.length-vs.length) none
def b2M(CX:CXT)(P:Program)(w:World)(K:PySem.W.Frag)(mg:Str->Option Value)(base:Heap)(N:List Str)(qual:Str)(scope:Scope)(f:Addr)(cd:Value)(A:Around)(outer:List Env)(s:Shared)(H:Hp)(E:XK):Cx where
 prog:=P
 w:=w
 K:=K
 mg:=mg
 base:=base
 A:=A.deeper (envOfC qual scope s.heap.objs.size f cd)
 N:=N
 s₀:=s
 H₀:=H
 env:=envOfC qual scope s.heap.objs.size f cd
 outer:=outer
 stack:=envOfC qual scope s.heap.objs.size f cd::outer
 ex:=[]
 calm:=true
 fn:=λ_=>true
 pn:=[]
 xe:=λe s'=>wpAny (model P w) (A.deeper (envOfC qual scope s.heap.objs.size f cd)) (leaving (envOfC qual scope s.heap.objs.size f cd) e) (λ_ s''=>CX outer H s E e s'') (λe' s''=>CX outer H s E e' s'') s'
theorem a6Y{sc:Scope}{n:Nat}{x:Str}(h:sc.names.lookup x=some .cell):∃c,(cellsFrom n sc.names []).lookup x=some c:=by
 have q:=PySem.W.cellsFrom_some sc.names n [] (.inl h);exact Option.isSome_iff_exists.mp q
theorem a8I{CX:CXT}{P:Program}{w:World}{K:PySem.W.Frag}{mg:Str->Option Value}{base:Heap}{N ps:List Str}{qual:Str}{scope:Scope}{f:Addr}{cd:Value}{A:Around}{outer:List Env}{s s1:Shared}{H:Hp}{E:XK}{us:List Value}{vs:List V}
  (S:a0k N ps scope)(hd:A.handled=none)(e0:b3X P w K mg base A outer s H)(hl:vs.length=ps.length)(r:a0P vs us)
  (x:InCallC s s.heap.objs.size (bindL (envOfC qual scope s.heap.objs.size f cd).kindOf (ps.zip us) λ_=>none) (cellsFrom (s.heap.objs.size+1) scope.names []) (bindC (envOfC qual scope s.heap.objs.size f cd).kindOf (ps.zip us) λ_=>none) s1) :
  Inv (b2M CX P w K mg base N qual scope f cd A outer s H E) [] (start N vs) H s1:=by
 have hpl:ps.length<=N.length:=by have:=b7d List.length S.pre;rw[b6l] at this;omega
 obtain⟨h1,tk,rfl,hk⟩:=x.done;have noA:∀b:Addr,b∉(b2M CX P w K mg base N qual scope f cd A outer s H E).ex:=λb z=>absurd (show b∈([]:List Addr) from z) (by simp);refine⟨⟨e0.mod,S.kind,rfl,rfl,b6k _,λy z c h1 h2=>?_,λy hy=>?_,λy c _ h=>?_,λ_=>hd,Around.frames_deeper e0.frames,.inr ⟨rfl,rfl⟩,λb z=>absurd z (noA b),e0.bs,e0.bsz,λb _ _=>noA b,λb z=>absurd z (noA b),e0.funs,e0.frf⟩,
  rfl,e0.bare,Un.kept hk,⟨_,x.toInCall.ns,λi y v h1 h2 h3=>?_⟩,λy c h=>⟨_,x.cell y c h⟩,e0.hok.fresh (b6k _),λy c h=>?_,λp hp=>absurd (show p∈([]:List (Addr×Obj)) from hp) (by simp),e0.hok.kept hk,?_⟩
 ·exact name_of_addr x.apart (b7T h1) (b7T h2)
 ·have hy:scope.names.lookup y=some .cell\/scope.names.lookup y=some .free:=hy;rcases hy with hy|hy
  ·exact a6Y hy
  ·exact absurd rfl (S.nofree _ (b7T hy))
 ·exact b6y (x.above y c (b7T h))
 ·have hi:i<vs.length:=by
   unfold start at h2;by_cases hi:i<vs.length
   ·exact hi
   ·rw[b6U (by simpa using hi)] at h2;rw[b8F] at h2;split at h2<;>cases h2
  have ha:vs[i]?=some v:=by
   unfold start at h2;rw[b7D (by simpa using hi),b6p] at h2;cases e:vs[i]? with
   |none=>rw[e] at h2;cases h2
   |some a=>rw[e] at h2;cases h2;rfl
  obtain⟨u,hu,rv⟩:=r.get ha;have hp:ps[i]?=some y:=by
   rw[<-S.pre,b9j (by omega)];exact h1
  have ndP:ps.Nodup:=by rw[<-S.pre];exact S.nd.sublist (List.take_sublist _ _)
  refine⟨u,rv,?_⟩;rcases S.par y (b6h hp) with k|k
  ·exact .inl ⟨k,a5C ndP hp hu k⟩
  ·obtain⟨c,e⟩:=a6Y (n:=s.heap.objs.size+1) k;refine .inr ⟨.inl k,c,e,?_⟩;have q:=x.cell y c e;rw[a5D ndP hp hu (by show scope.names.lookup y≠_;rw[k];decide)] at q;exact q
 ·exact e0.hok.fresh (b6y (x.above y c (b7T h)))
 ·unfold start;show _=N.length;rw[b6o,b6b,b7o];omega
theorem fn_of{CX:CXT}{P:Program}{w:World}{K:PySem.W.Frag}{mg:Str->Option Value}{base:Heap}{k:Nat}{f:Addr}{name qual:Str}{params:Arguments}{body:List Stmt}{scope:Scope}{dV kV doc pm cdv ct oc:Value}{an od:Option Addr}
  {osl:Array (Option Value)}{N ps:List Str}{sp:Sp}(lk:K.lookup f=some ⟨oc,od,.func (PySem.W.fnOf name qual params body scope dV kV doc pm an cdv ct),osl⟩)(hcd:PySem.W.codeIn K cdv qual=true)(S:a0k N ps scope)
  (len:∀vs H Q E,sp vs H Q E->vs.length=ps.length)
  (hbody:∀(A:Around)(outer:List Env)(s:Shared)(H:Hp)(vs:List V)(Q:VK)(E:XK),a2I k (A.deeper (envOfC qual scope s.heap.objs.size f cdv))->sp vs H Q E ->
   ∃t,PSs (b2M CX P w K mg base N qual scope f cdv A outer s H E) body t/\t {nx:=λ_ H'=>Q .non H',rt:=Q} (start N vs) H) :
  a0I P w K mg base CX (k+1) f (PySem.W.fnOf name qual params body scope dV kV doc pm an cdv ct) ps sp:=by
 refine⟨len,λA outer s H args us vs Q E hr e0 hb r hsp=>?_⟩;have hl:=len _ _ _ _ hsp;have KX:K.In s.heap:=e0.mod.kin.keeps λb o e=>(e0.bs b o e).1;have lim:s.heap.NoLimit:=e0.mod.nolimit.keeps λb o e=>(e0.bs b o e).1;have hkind:∀y∈ps.zip us,scope.names.lookup y.1=some .local\/(scope.names.lookup y.1=some .cell/\((cellsFrom (s.heap.objs.size+1) scope.names []).lookup y.1).isSome=true):=λ⟨n,v⟩ hy=>by
  rcases S.par n (c0J hy).1 with q|q
  ·exact .inl q
  ·exact .inr ⟨q,PySem.W.cellsFrom_some _ _ _ (.inl q)⟩
 refine codeAny_call_function hr.depth (KX _ _ lk) rfl S.co S.gen rfl (PySem.W.codeRec_of KX hcd) (hb _ _ _ _ ?_);refine wpAny_newFunctionEnv_cells S.kind hkind λenv he s1 x=>?_;subst he;refine⟨lim.keeps x.toInCall.keep,codeAny_func ?_⟩;obtain⟨t,ht,hq⟩:=hbody A outer s H vs Q E (hr.deeper _) hsp;have I:Inv (b2M CX P w K mg base N qual scope f cdv A outer s H E) [] (start N vs) H s1:=a8I S hr.hd e0 hl r x;refine b8V (ht [] s1 (start N vs) H _ I hq) (λfl s' hs=>?_) λe s' hs=>hs;have fin:∀{σ':St}{H':Hp}{v:V}{u:Value},Inv (b2M CX P w K mg base N qual scope f cdv A outer s H E) [] σ' H' s'->a1h v u->Q v H'->CE outer P w H s Q u s':=
  λ{σ' H' v u} J rv q=>⟨v,H',J.os,J.bare,J.base,J.hok,rv,q⟩
 cases fl with
 |ret u=>
  obtain⟨v,σ',H',J,rv,q⟩:=hs;exact fin J rv q
 |next=>
  obtain⟨σ',H',J,q⟩:=hs;exact fin (v:=V.non) (u:=Value.none) J rfl q
 |brk=>
  obtain⟨_,_,_,q⟩:=hs;exact False.elim q
 |cont=>
  obtain⟨_,_,_,q⟩:=hs;exact False.elim q
section
variable {X:Cx}{x:Str}{p pos:Pos}{e:Expr}{es:List Expr}{t:TA}{id T:String}{r:List V->Hp->VK->Prop}
def tCB(r:List V->Hp->VK->Prop)(t:TA):TE:=λσ H Q=>t σ H λvs H1=>r vs H1 Q
theorem a0C(hc:a2v X (.builtin id) r)(hg:Gl X x)(hm:X.mg x=none)(hv:bootBuiltins x=some (.builtin id))(ha:PA X (e::es) t)(hn:x≠"__name__":=by decide)(hdb:(x==("__debug__":Str))=false:=by decide)
  (he:starEach (e::es) X.env=(false,eval e X.env)::starEach es X.env:=by rfl)(hpl:(backTo pos (starEach es X.env)).any (·.1)=false:=by rfl):PE X (.Call (.Name x p) (e::es) [] pos) (tCB r t):=by
 intro pins s σ H Q I h;refine b8I (a2K I hg hm hv ?_ hn hdb);exact PyProof.Rows.callWith_builtin1 (thn (ha pos pins s σ H _ I h) λus s1 ⟨vs,H1,I1,r1,q1⟩=>hc pins s1 σ H1 vs us Q I1 r1 q1) he hpl
theorem a0w(hc:a2v X (.type T) r)(hg:Gl X x)(hm:X.mg x=none)(hv:bootBuiltins x=some (.type T))(ha:PA X (e::es) t)(hn:x≠"__name__":=by decide)(hdb:(x==("__debug__":Str))=false:=by decide)
  (he:starEach (e::es) X.env=(false,eval e X.env)::starEach es X.env:=by rfl)(hpl:(backTo pos (starEach es X.env)).any (·.1)=false:=by rfl):PE X (.Call (.Name x p) (e::es) [] pos) (tCB r t):=by
 intro pins s σ H Q I h;refine b8I (a2K I hg hm hv ?_ hn hdb);exact b7j (thn (ha pos pins s σ H _ I h) λus s1 ⟨vs,H1,I1,r1,q1⟩=>hc pins s1 σ H1 vs us Q I1 r1 q1) he hpl
end
end L2
namespace HT
open PySem PyProof.Rows
def a4M:List Int->List Int->Bool
 |[],[]=>false
 |[],_::_=>true
 |_::_,[]=>false
 |x::xs,y::ys=>if x=y then a4M xs ys else decide (x<y)
theorem a7R(x y:Int)(xs ys:List Int):a4M (x::xs) (y::ys)=if x=y then a4M xs ys else decide (x<y):=rfl
theorem a4N:a4M [] []=false:=rfl
theorem a4i(y:Int)(ys:List Int):a4M [] (y::ys)=true:=rfl
theorem a4j(x:Int)(xs:List Int):a4M (x::xs) []=false:=rfl
theorem b1b(A:Around)(s:Shared)(a:Int)(t:Tok)(c:Int)(u:Tok):∃e,SeqAt.EqAt A s (.int a t) (.int c u) e/\(e=true↔a=c):=
 ⟨(a==c),c0k a t c u,by simp⟩
theorem b1c(A:Around)(s:Shared)(a:Int)(t:Tok)(c:Int)(u:Tok)(prog:Program)(w:World)(E:Value->Shared->Prop)(Q:Value->Shared->Prop)(h:Q (.bool (decide (a<c))) s) :
  wpAny (model prog w) A (richCompare .Lt (.int a t) (.int c u)) Q E s:=
 (PyProof.Rows.lt_int h:wpAny (model prog w) A (compareOp .Lt (.int a t) (.int c u)) Q E s)
section
open PySem.SeqAt
open PySem.AutoSeq1 (wpAny_loadPart')
open PySem.MeetsSeq PySem.MeetsSeq2 PySem.MeetsSeq3
theorem a4O(l b:Addr)(items items2:Array Value)(n n2:Nat)(dd dd2:Option Addr)(sl sl2:Array (Option Value))(ns ms:List Int)(hi:IntsAre items.toList ns)(hj:IntsAre items2.toList ms) :
  Meets (Builtin.«tuple.__lt__» ⟨[.ref l,.ref b],[]⟩)
   (λ_ R s=>s.heap.get? l=some {cls:=.type "tuple",dict:=dd,data:=.seq items n,slots:=sl}/\s.heap.get? b=some {cls:=.type "tuple",dict:=dd2,data:=.seq items2 n2,slots:=sl2} /\
    R (.ok (.ret (.bool (a4M ns ms)))) s):=
 .of_wp λprog w A R s h=>by
  obtain⟨hp,g,d,tk,os⟩:=s;obtain⟨hl,hb,h⟩:=h;have f2:=AutoSeq1.sub_tuple_tuple;have z1:items.size=ns.length:=by rw[<-hi.length];simp
  have z2:items2.size=ms.length:=by rw[<-hj.length];simp
  wp_walk using wpAny_loadPart' hl,wpAny_loadPart' hb,wpAny_forIn_list _ (λrest b s'=>b.1=none/\s'=⟨hp,g,d,tk,os⟩/\∃(vs ws:List Value)(ns' ms':List Int),rest=vs.zip ws /\
   IntsAre vs ns'/\IntsAre ws ms'/\ns'.length+items2.size=ms'.length+items.size/\R (.ok (.ret (.bool (a4M ns' ms')))) ⟨hp,g,d,tk,os⟩) _
  case turn=>
   rintro⟨y,x⟩ rest b s' ⟨hb',rfl,vs,ws,ns',ms',hz,hvi,hwi,hlen,hR⟩;cases hvi with
   |nil=>rw[List.zip_nil_left] at hz;cases hz
   |cons a t hvi'=>
    cases hwi with
    |nil=>rw[List.zip_nil_right] at hz;cases hz
    |cons c u hwi'=>
     rw[List.zip_cons_cons] at hz;injection hz with hyx hrest;injection hyx with hy hx;subst hy hx;rw[a7R] at hR;simp only[b6F] at hlen;obtain⟨e,he,hiff⟩:=b1b A.in1 ⟨hp,g,d,tk,os⟩ a t c u;refine b6c (he prog w _ _ ?_);cases e with
     |true=>
      rw[if_pos (hiff.mp rfl)] at hR
      wp_walk
      exact⟨rfl,rfl,_,_,_,_,hrest,hvi',hwi',by omega,hR⟩
     |false=>
      rw[if_neg (λq=>absurd (hiff.mpr q) b6u)] at hR;have hri:=b1c A.in1 ⟨hp,g,d,tk,os⟩ a t c u prog w
      wp_walk using hri
      exact⟨_,rfl,by simpa using hR⟩
  case fin=>
   rintro⟨b1,b2⟩ s' ⟨hb',rfl,vs,ws,ns',ms',hz,hvi,hwi,hlen,hR⟩;simp only at hb';subst hb';have hv:a4M ns' ms'=decide (items.size<items2.size):=by
    cases hvi with
    |nil=>
     cases hwi with
     |nil=>
      simp only[b8M] at hlen;rw[a4N];exact(b6w (by omega)).symm
     |cons c u hw=>
      simp only[b8M,b6F] at hlen;rw[a4i];exact(b6i (by omega)).symm
    |cons a t hv=>
     cases hwi with
     |nil=>
      simp only[b8M,b6F] at hlen;rw[a4j];exact(b6w (by omega)).symm
     |cons c u hw=>
      rw[List.zip_cons_cons] at hz;cases hz
   rw[hv] at hR
   wp_walk
   exact⟨_,rfl,by simpa [Builtin.Tuple.tupleCompareSizes] using hR⟩
  case h=>
   exact⟨rfl,rfl,items.toList,items2.toList,ns,ms,rfl,hi,hj,by omega,h⟩
end
section
variable {prog:Program}{w:World}{A:Around}{E:Value->Shared->Prop}{s:Shared}
theorem b3Z{t b:Addr}{vs ws:List Value}{Q:Value->Shared->Prop}(ht:IsTup s.heap t vs.toArray)(hb:IsTup s.heap b ws.toArray)(hv:vs≠[])
  (h1:ws=[]->Q (.ref t) s)(h2:ws≠[]->Q (.ref s.heap.objs.size) {s with heap:=s.heap.push {cls:=.type "tuple",data:=.seq (vs++ws).toArray}})
  (hsz:vs.length+ws.length<=sizeLine):wpAny (model prog w) A (binaryOp .Add (.ref t) (.ref b)) Q E s:=by
 obtain⟨⟨cls,dd,data,sl⟩,ho,hc,n,hd⟩:=id ht;obtain⟨⟨cls2,dd2,data2,sl2⟩,ho2,hc2,n2,hd2⟩:=id hb;simp only at hc hd hc2 hd2;subst hc hd hc2 hd2;have e:vs.toArray++ws.toArray=(vs++ws).toArray:=by simp
 by_cases hw:ws=[]
 ·exact concat_meets ⟨_,ho,rfl⟩ ⟨_,ho2,rfl⟩ c0D seq_tuple_add b9A b9o (b9k _ _)
   (tuple_addW1 t b vs.toArray ws.toArray n n2 dd dd2 sl sl2 (by simpa using hv) (by simp[hw])) ⟨ho,ho2,h1 hw⟩
 ·refine concat_meets ⟨_,ho,rfl⟩ ⟨_,ho2,rfl⟩ c0D seq_tuple_add b9A b9o (b9k _ _)
   (tuple_addW2 t b vs.toArray ws.toArray n n2 dd dd2 sl sl2 (by simpa using hv) (by simpa using hw) (by rw[b6n,b6n];exact hsz)) ⟨ho,ho2,?_⟩
  rw[e];exact h2 hw
def sIx(n d:Nat):Option Int->Nat
 |none=>d
 |some v=>if v<0 then (v+(n:Int)).toNat else min v.toNat n
theorem a6Z(n d:Nat):sIx n d none=d:=rfl
theorem a8J(n d k:Nat):sIx n d (some (k:Int))=min k n:=by
 show(if (k:Int)<0 then ((k:Int)+(n:Int)).toNat else min (k:Int).toNat n)=min k n;rw[if_neg (by omega),b6Q]
theorem sIx_le(n d:Nat)(hd:d<=n)(o:Option Int):sIx n d o<=n:=by
 cases o with
 |none=>exact hd
 |some v=>
  show(if v<0 then (v+(n:Int)).toNat else min v.toNat n)<=n;by_cases hv:v<0
  ·rw[if_pos hv];omega
  ·rw[if_neg hv];exact Nat.min_le_right _ _
theorem a8K(v:Int)(n d:Nat):(if v<0 then max (v+(n:Int)) 0 else min v (n:Int))=((sIx n d (some v):Nat):Int):=by
 show(if v<0 then max (v+(n:Int)) 0 else min v (n:Int))=(((if v<0 then (v+(n:Int)).toNat else min v.toNat n):Nat):Int)
 by_cases hv:v<0
 ·simp only[if_pos hv];omega
 ·simp only[if_neg hv];omega
theorem a7S(lo hi:Option Int)(n:Nat):Builtin.Slice.sliceAdjust lo hi 1 (n:Int)=(((sIx n 0 lo:Nat):Int),((sIx n n hi:Nat):Int)):=by
 have h1:¬((1:Int)<0):=by omega
 unfold Builtin.Slice.sliceAdjust;simp only[h1,c0R];refine Prod.ext ?_ ?_
 ·cases lo with
  |none=>rfl
  |some v=>exact a8K v n 0
 ·cases hi with
  |none=>rfl
  |some v=>exact a8K v n n
theorem a7T(i j:Nat):Builtin.Slice.slicePlaces (i:Int) (j:Int) 1=j-i:=by
 unfold Builtin.Slice.slicePlaces;have h1:(1:Int)>0:=by omega
 simp only[h1,if_true,Int.ediv_one];split<;>omega
theorem a4t{v:Value}{o:Option Int}{Q:Option Int->Shared->Prop}(p:IsPart v o)(h:Q o s):wpAny (model prog w) A (Builtin.Slice.slicePartIndex v) Q E s:=by
 cases p with
 |none=>exact slicePart_none h
 |int i t=>exact slicePart_int h
theorem a2g{sl:Addr}{vl vu:Value}{lo hi:Option Int}{n:Nat}{Q:Int×Int×Nat->Shared->Prop}(hs:s.heap.IsSliceOf sl vl vu .none)(pl:IsPart vl lo)(pu:IsPart vu hi)
  (h:Q (((sIx n 0 lo:Nat):Int),1,sIx n n hi-sIx n 0 lo) s):wpAny (model prog w) A (Builtin.Slice.sliceApplied (.ref sl) (pure (n:Int))) Q E s:=by
 obtain⟨os,hos,hcs,hds⟩:=id hs;unfold Builtin.Slice.sliceApplied Builtin.Slice.sliceFields;refine b6c (b6c (b7a hos hds (x:=vl) rfl (b6c (b7a hos hds (x:=vu) rfl (b6c (b7a hos hds (x:=.none) rfl (b6j ?_)))))));refine b6c (slicePart_none ?_);show wpAny _ _ (if ((1:Int)==0)=true then _ else _) _ _ s;rw[if_neg (by decide)];refine b6c (a4t pl (b6c (a4t pu (b6c (b6j ?_)))));show wpAny _ _ (match Builtin.Slice.sliceAdjust lo hi 1 (n:Int) with|(lo,hi)=>pure (lo,(1:Int),Builtin.Slice.slicePlaces lo hi 1)) _ _ s;rw[a7S lo hi n];show wpAny _ _ (pure (((sIx n 0 lo:Nat):Int),(1:Int),Builtin.Slice.slicePlaces ((sIx n 0 lo:Nat):Int) ((sIx n n hi:Nat):Int) 1)) _ _ s;rw[a7T];exact b6j h
theorem b1d(xs:Array Value)(i k:Nat):((List.range k).filterMap λ(m:Nat)=>xs[((i:Int)+(m:Int)*1).toNat]?).toArray=((xs.toList.drop i).take k).toArray:=by
 have e:(λ(m:Nat)=>xs[((i:Int)+(m:Int)*1).toNat]?)=λm=>xs[i+m]?:=by
  funext m;have:((i:Int)+(m:Int)*1).toNat=i+m:=by omega
  rw[this]
 rw[e];have:=pick_run xs i k;rw[List.filterMap_map] at this;have e2:((λx=>xs[x]?) ∘ λx=>i+x)=λm=>xs[i+m]?:=rfl;rw[e2] at this;rw[this]
theorem a3c{t sl:Addr}{items:Array Value}{vl vu:Value}{lo hi:Option Int}{Q:Value->Shared->Prop}(ht:IsTup s.heap t items)(hs:s.heap.IsSliceOf sl vl vu .none)(pl:IsPart vl lo)(pu:IsPart vu hi)
  (hw:¬(sIx items.size 0 lo=0/\sIx items.size items.size hi=items.size))
  (h:Q (.ref s.heap.objs.size) {s with heap:=s.heap.push {cls:=.type "tuple",data:=.seq ((items.toList.drop (sIx items.size 0 lo)).take (sIx items.size items.size hi-sIx items.size 0 lo)).toArray}})
  (hsz:items.size<=sizeLine):wpAny (model prog w) A (getItem (.ref t) (.ref sl)) Q E s:=by
 have htake:sizeOk (.seq ((items.toList.drop (sIx items.size 0 lo)).take (sIx items.size items.size hi-sIx items.size 0 lo)).toArray):=by
  show((items.toList.drop (sIx items.size 0 lo)).take (sIx items.size items.size hi-sIx items.size 0 lo)).toArray.size<=sizeLine;rw[b6n,b6l,b7r,b6H];omega
 have hj:sIx items.size items.size hi<=items.size:=sIx_le _ _ (b6k _) hi;obtain⟨os,hos,hcs,hds⟩:=id hs;have hTs:s.TypeIs (.ref sl) "slice":=⟨os,hos,hcs⟩
 unfold getItem
 try with_reducible refine b7F ?_
 first|refine b6c (b6j ?_)|skip
 refine b6c (wpAny_sequenceKey ht.typeIs (by decide) ?_);refine b6c (b6X (name:=Str.ofString "__getitem__") ht.typeIs b7k
  (b7s b7k ht.typeIs entry_tuple_getitem ?_ (args_tuple_getitem _ _)))
 show wpAny _ _ (Builtin.Tuple.tupleItemsOf (.ref t) >>= _) _ _ s;refine b6c (tupleItemsOf_ ht ?_);refine b6c (wpAny_typeOf hTs ?_);rw[if_pos (by decide)];refine b6c (a2g hs pl pu ?_);have hno:¬((((sIx items.size 0 lo:Nat):Int)==0&&(1:Int)==1&&(sIx items.size items.size hi-sIx items.size 0 lo)==items.size)=true):=by
  intro q;rw[b6Y,b6Y] at q;have q1:((sIx items.size 0 lo:Nat):Int)=0:=eq_of_beq q.1.1;have q2:sIx items.size items.size hi-sIx items.size 0 lo=items.size:=eq_of_beq q.2;exact hw ⟨by omega,by omega⟩
 show wpAny _ _ (if (((sIx items.size 0 lo:Nat):Int)==0&&(1:Int)==1&&(sIx items.size items.size hi-sIx items.size 0 lo)==items.size)=true then _ else _) _ _ s;rw[if_neg hno,b1d]
 first
  |exact b6c (m:=Builtin.Tuple.tupleExact _) (b7l (b6j ⟨_,rfl,b6j h⟩) htake)
  |exact b6c (m:=Builtin.Tuple.tupleExact _) (b7l (b6c (b6j (b6j ⟨_,rfl,b6j h⟩))) htake)
  |exact b6c (b6c (m:=Builtin.Tuple.tupleExact _) (b7l (b6j (b6j ⟨_,rfl,b6j h⟩)) htake))
  |exact b6c (b6c (m:=Builtin.Tuple.tupleExact _) (b7l (b6j ⟨_,rfl,b6j h⟩) htake))
end
end HT
namespace L2
open PySem PySem.Spec PyProof.Rows
abbrev TO:=St->Hp->(Option Int->Hp->Prop)->Prop
def PO(X:Cx)(e:Option Expr)(t:TO):Prop:=
 ∀(pins:List (Addr×Obj))(s:Shared)(σ:St)(H:Hp)(Q:Option Int->Hp->Prop),Inv X pins σ H s->t σ H Q ->
  wpAny (model X.prog X.w) X.A (evalPart e X.env) (λu s'=>∃o H',Inv X pins σ H' s'/\IsPart u o/\Q o H') X.xe s
def b4a:TO:=λ_ H Q=>Q none H
def tPart(t:TE):TO:=λσ H Q=>t σ H λx H1=>∃i,x=.int i/\Q (some i) H1
section
variable {X:Cx}{e:Expr}{te:TE}{lo hi:Option Expr}{tl th:TO}{pos p2:Pos}
theorem a1m:PO X none b4a:=by
 intro pins s σ H Q I h;rw[evalPart_none];exact b6j ⟨none,H,I,.none,h⟩
theorem a1n(h:PE X e te):PO X (some e) (tPart te):=by
 intro pins s σ H Q I hw;rw[evalPart_some];refine thn (h pins s σ H _ I hw) λu s1 ⟨x,H1,I1,r1,q1⟩=>?_;obtain⟨i,rfl,q⟩:=q1;obtain⟨t,rfl⟩:=r1;exact⟨some i,H1,I1,.int i t,q⟩
def SlR(X:Cx)(r:V->Option Int->Option Int->Hp->VK->Prop):Prop:=
 ∀(pins:List (Addr×Obj))(s:Shared)(σ:St)(H:Hp)(x:V)(v vl vu:Value)(lo hi:Option Int)(sl:Addr)(Q:VK),Inv X pins σ H s->a1h x v->s.heap.IsSliceOf sl vl vu .none->IsPart vl lo->IsPart vu hi->r x lo hi H Q ->
  ∃T id,typeLookup (.type T) "__getitem__"=pure (some (.builtin id))/\s.TypeIs v T/\wpAny (model X.prog X.w) X.A (getItem v (.ref sl)) (EP X pins σ Q) X.xe s
def tSl(r:V->Option Int->Option Int->Hp->VK->Prop)(te:TE)(tl th:TO):TE:=λσ H Q=>te σ H λx H1=>tl σ H1 λl H2=>th σ H2 λu H3=>r x l u H3 Q
theorem a0X{r:V->Option Int->Option Int->Hp->VK->Prop}(hr:SlR X r)(he:PE X e te)(hl:PO X lo tl)(hu:PO X hi th):PE X (.Subscript e (.Slice lo hi none p2) pos) (tSl r te tl th):=by
 intro pins s σ H Q I h;refine Subscript_ (thn (he pins s σ H _ I h) λv s1 ⟨x,H1,I1,r1,q1⟩=>?_);refine wpAny_Slice (thn (hl pins s1 σ H1 _ I1 q1) λvl s2 ⟨l,H2,I2,pl,q2⟩=>thn (hu pins s2 σ H2 _ I2 q2) λvu s3 ⟨u,H3,I3,pu,q3⟩=>?_);rw[evalPart_none];refine b6j ?_;have I4:Inv X pins σ H3 {s3 with heap:=s3.heap.push {cls:=.type "slice",data:=.fields #[vl,vu,.none]}}:=I3.kept (t':=s3.toks) λb ob q=>b6e _ q;obtain⟨T,id,hT,ht,hg⟩:=hr pins {s3 with heap:=s3.heap.push {cls:=.type "slice",data:=.fields #[vl,vu,.none]}} σ H3 x v vl vu l u s3.heap.objs.size Q I4 r1 (Heap.IsSliceOf.new ..) pl pu q3;show wpAny (model X.prog X.w) X.A (subscriptTail e (.Slice lo hi none p2) v (.ref s3.heap.objs.size)) (EP X pins σ Q) X.xe {s3 with heap:=s3.heap.push {cls:=.type "slice",data:=.fields #[vl,vu,.none]}};exact tail_any (ops:=[.ref s3.heap.objs.size,v]) ht hT hg (by with_unfolding_all rfl)
def a4f(xs:List V)(lo hi:Option Int):List V:=(xs.drop (HT.sIx xs.length 0 lo)).take (HT.sIx xs.length xs.length hi-HT.sIx xs.length 0 lo)
theorem a3C(xs:List V)(lo hi:Option Int):(a4f xs lo hi).length<=xs.length:=by
 unfold a4f;rw[b6l,b7r];omega
def rSlT(K:PySem.W.Frag):V->Option Int->Option Int->Hp->VK->Prop:=λx lo hi H Q=>∃a xs,x=.ref a/\SqT K H a xs /\
 ¬(HT.sIx xs.length 0 lo=0/\HT.sIx xs.length xs.length hi=xs.length)/\∀p,H p=none->Q (.ref p) (upd H p (.tup (a4f xs lo hi)))
theorem sl_tup:SlR X (rSlT X.K):=by
 intro pins s σ H x v vl vu lo hi sl Q I rx hs pl pu h;obtain⟨a,xs,rfl,hx,hw,q⟩:=h;cases rx;obtain⟨its,r,ht,hz⟩:=I.tuple hx;have hlen:its.toArray.size=xs.length:=by rw[b6n];exact r.length.symm
 refine⟨"tuple",_,b7k.lookup,ht.typeIs,?_⟩;refine HT.a3c ht hs pl pu (by rw[hlen];exact hw) ?_ (by rw[hlen];exact hz);rw[hlen];refine⟨.ref s.heap.objs.size,_,I.laid (t':=s.toks) (o:=.tup (a4f xs lo hi)) (λb ob q=>b6e _ q) (b6k _) ?_,rfl,q _ (I.hok.fresh (b6k _))⟩;exact⟨b6R (a3C xs lo hi) hz,_,(r.drop (HT.sIx xs.length 0 lo)).take (HT.sIx xs.length xs.length hi-HT.sIx xs.length 0 lo),a5t.new _ _⟩
def rCatT(K:PySem.W.Frag):R2:=λx y H Q=>∃a b xs ys,x=.ref a/\y=.ref b/\SqT K H a xs/\SqT K H b ys/\xs≠[]/\xs.length+ys.length<=sizeLine /\
 (ys=[]->Q (.ref a) H)/\(ys≠[]->∀p,H p=none->Q (.ref p) (upd H p (.tup (xs++ys))))
theorem a0P.nil_iff{xs:List V}{us:List Value}(r:a0P xs us):us=[]↔xs=[]:=by
 cases r with
 |nil=>simp
 |cons _ _=>simp
theorem b4b:OpR X (binaryOp .Add) (rCatT X.K):=by
 intro pins s σ H x y v u Q I rx ry h;obtain⟨a,b,xs,ys,rfl,rfl,ha,hb,hx,hz,q1,q2⟩:=h;cases rx;cases ry;obtain⟨its,r1,p1,_⟩:=I.tuple ha;obtain⟨its2,r2,p2,_⟩:=I.tuple hb;refine HT.b3Z p1 p2 (λz=>hx (r1.nil_iff.mp z)) (λz=>⟨.ref a,H,I,rfl,q1 (r2.nil_iff.mp z)⟩) (λz=>?_) (by rw[<-r1.length,<-r2.length];exact hz);refine⟨.ref s.heap.objs.size,_,I.laid (t':=s.toks) (o:=.tup (xs++ys)) (λb ob q=>b6e _ q) (b6k _) ?_,rfl,q2 (λw=>z (r2.nil_iff.mpr w)) _ (I.hok.fresh (b6k _))⟩;exact⟨by rw[b6o];exact hz,_,r1.append r2,a5t.new _ _⟩
end
def ixN(n:Nat)(i:Int):Option Nat:=if 0<=i then (if i<n then some i.toNat else none) else if -(n:Int)<=i then some (i+n).toNat else none
def atI{α:Type}(xs:List α)(i:Int):Option α:=(ixN xs.length i).bind λj=>xs[j]?
theorem a8L{n:Nat}{i:Int}{j:Nat}(h:ixN n i=some j):seqIndex? i n=some j/\j<n/\-(n:Int)<=i/\i<n:=by
 unfold ixN at h;by_cases h0:0<=i
 ·rw[if_pos h0] at h;by_cases h1:i<n
  ·rw[if_pos h1] at h;have e:i.toNat=j:=b6I h;exact⟨by rw[seqIndex_of h0 h1,e],by omega,by omega,h1⟩
  ·rw[if_neg h1] at h;cases h
 ·rw[if_neg h0] at h;by_cases h1:-(n:Int)<=i
  ·rw[if_pos h1] at h;have e:(i+n).toNat=j:=b6I h;exact⟨by rw[seqIndex_neg (by omega) h1,e],by omega,h1,by omega⟩
  ·rw[if_neg h1] at h;cases h
theorem a6w{α:Type}{xs:List α}{i:Int}{v:α}(h:atI xs i=some v):∃j,seqIndex? i xs.length=some j/\xs[j]?=some v/\j<xs.length/\-(xs.length:Int)<=i/\i<xs.length:=by
 unfold atI at h;cases e:ixN xs.length i with
 |none=>rw[e] at h;cases h
 |some j=>
  rw[e] at h;obtain⟨h1,h2,h3,h4⟩:=a8L e;exact⟨j,h1,h,h2,h3,h4⟩
theorem a1M{α:Type}{xs:List α}{j:Nat}{v:α}(h:xs[j]?=some v):atI xs (j:Int)=some v:=by
 have hj:j<xs.length:=(b6d.mp h).1;have e:ixN xs.length (j:Int)=some j:=by
  unfold ixN;rw[if_pos (by omega),if_pos (by omega)];simp
 unfold atI;rw[e];exact h
theorem b1e{α:Type}(xs:List α)(v:α):atI (xs++[v]) (-1)=some v:=by
 have hl:(xs++[v]).length=xs.length+1:=by simp
 have e:ixN (xs++[v]).length (-1)=some xs.length:=by
  unfold ixN;rw[hl,if_neg (by decide),if_pos (by omega)];congr 1;omega
 unfold atI;rw[e];show(xs++[v])[xs.length]?=some v;simp
def a8M(b:Expr):Prop:=∀o i,subscripted b false o i=operate [o,i] (getItem o i)
def IxR(X:Cx)(r:R2):Prop:=
 ∀(value slice:Expr)(pins:List (Addr×Obj))(s:Shared)(σ:St)(H:Hp)(x y:V)(v u:Value)(Q:VK),Inv X pins σ H s->a1h x v->a1h y u->r x y H Q ->
  subscripted slice false v u=operate [v,u] (getItem v u)->wpAny (model X.prog X.w) X.A (subscriptTail value slice v u) (EP X pins σ Q) X.xe s
def MtR(X:Cx)(id:String)(r:V->List V->Hp->VK->Prop):Prop:=
 ∀(pins:List (Addr×Obj))(s:Shared)(σ:St)(H:Hp)(x:V)(xs:List V)(v:Value)(us:List Value)(Q:VK),Inv X pins σ H s->a1h x v->a0P xs us->r x xs H Q ->
  wpAny (model X.prog X.w) X.A (call (.builtin id) (v::us)) (EP X pins σ Q) X.xe s
section
variable {X:Cx}{a b:Expr}{ta tb:TE}{pos:Pos}
theorem pe_ix{r:R2}(hr:IxR X r)(ha:PE X a ta)(hb:PE X b tb)(hs:a8M b):PE X (.Subscript a b pos) (tOp r ta tb):=by
 intro pins s σ H Q I h;exact Subscript_ (binT ha hb I h λv u s2 x y H2 I2 rx ry q=>hr a b pins s2 σ H2 x y v u Q I2 rx ry q (hs _ _))
theorem pxA{r:R2}(hr:IxR X r)(ha:PE X a ta)(hb:PE X b tb)(hs:a8M b:=by exact λ_ _=>rfl):PE X (.Subscript a b pos) (tOp r ta tb):=pe_ix hr ha hb hs
def rIxL(K:PySem.W.Frag):R2:=λx y H Q=>∃p xs i v,x=.ref p/\y=.int i/\SqL K H p xs/\atI xs i=some v/\Q v H
def rIxT(K:PySem.W.Frag):R2:=λx y H Q=>∃p xs i v,x=.ref p/\y=.int i/\SqT K H p xs/\atI xs i=some v/\Q v H
def rIxS:R2:=λx y H Q=>∃z i c,x=.str z/\y=.int i/\z.length<=sizeLine/\atI z.cps.toList i=some c/\Q (.str ⟨#[c]⟩) H
theorem a0m:IxR X (rIxL X.K):=by
 intro value slice pins s σ H x y v u Q I rx ry h hs;obtain⟨p,xs,i,z,rfl,rfl,hq,he,q⟩:=h;cases rx;obtain⟨t,rfl⟩:=ry;obtain⟨its,r,pl,hz⟩:=I.list hq;obtain⟨j,h1,h2,h3,h4,h5⟩:=a6w he;obtain⟨w,ew,rw'⟩:=r.get h2;have hl:=r.length;have hn:=a4s;have fin:EP X pins σ Q w s:=⟨z,H,I,rw',q⟩
 by_cases h0:0<=i
 ·have hj:i.toNat=j:=by
   rw[seqIndex_of h0 h5] at h1;exact b6I h1
  exact item_listR pl.isList h0 (by omega) (by rw[hj];simpa using ew) fin hs
 ·have hj:(i+(its.toArray.size:Int)).toNat=j:=by
   rw[seqIndex_neg (by omega) h4] at h1;rw[b6n,<-hl];exact b6I h1
  exact subscriptTail_builtinR (x:=w) pl.isList.typeIs slot_list_getitem.lookup
   (wpAny_getItem_list_neg (Q:=λr s'=>r=w/\EP X pins σ Q r s') pl.isList (by omega) (by rw[b6n]<;>omega) (by omega) (by rw[hj];simpa using ew) ⟨rfl,fin⟩) hs
theorem a0D:IxR X (rIxT X.K):=by
 intro value slice pins s σ H x y v u Q I rx ry h hs;obtain⟨p,xs,i,z,rfl,rfl,hq,he,q⟩:=h;cases rx;obtain⟨t,rfl⟩:=ry;obtain⟨its,r,pl,hz⟩:=I.tuple hq;obtain⟨j,h1,h2,h3,h4,h5⟩:=a6w he;obtain⟨w,ew,rw'⟩:=r.get h2;have hl:=r.length;have hn:=a4s;have fin:EP X pins σ Q w s:=⟨z,H,I,rw',q⟩
 exact subscriptTail_builtinR (x:=w) pl.typeIs slot_tuple_getitem.lookup
  (getItem_tuple (j:=j) (Q:=λr s'=>r=w/\EP X pins σ Q r s') pl (by omega) (by omega) (by rw[b6n,<-hl];exact h1) (by simpa using ew) ⟨rfl,fin⟩) hs
theorem a5E:IxR X rIxS:=by
 intro value slice pins s σ H x y v u Q I rx ry h hs;obtain⟨z,i,c,rfl,rfl,hz,he,q⟩:=h;obtain⟨t,rfl⟩:=rx;obtain⟨t',rfl⟩:=ry;obtain⟨j,h1,h2,h3,h4,h5⟩:=a6w he;have hl:z.cps.toList.length=z.length:=by simp[Str.length]
 rw[hl] at h1 h4 h5;have hn:=a4s;exact tail_any (b9l s z t) slot_str_getitem.lookup (getItem_str (c:=c) (by
  have e1:decide (i < -(2 ^ 63:Int))=false:=b6w (by omega);have e2:decide (i >= 2 ^ 63)=false:=b6w (by omega);rw[e1,e2,Bool.or_false]) (by rw[h1];simpa using h2) ⟨.str ⟨#[c]⟩,H,I.tok _,⟨_,rfl⟩,q⟩) hs
def rIx(K:PySem.W.Frag):R2:=λx y H Q=>rIxL K x y H Q\/rIxT K x y H Q\/rIxS x y H Q
theorem a7U(its:List Value)(n j:Nat)(u:Value):Obj.mapSeq (·.setIfInBounds j u) {cls:=.type "list",data:=.seq its.toArray n}={cls:=.type "list",data:=.seq (its.set j u).toArray n}:=by
 simp[Obj.mapSeq]
theorem Inv.lst{pins:List (Addr×Obj)}{σ:St}{H:Hp}{s:Shared}{p:Addr}{xs:List V}(I:Inv X pins σ H s)(h:H p=some (.lst xs)) :
  ∃(its:List Value)(n:Nat),a0P xs its/\s.heap.get? p=some {cls:=.type "list",data:=.seq its.toArray n}/\xs.length<=sizeLine:=by
 obtain⟨z,its,n,r,e⟩:=I.hok p _ h;exact⟨its,n,r,e,z⟩
theorem Inv.lstUpd{pins:List (Addr×Obj)}{σ:St}{H:Hp}{s:Shared}{p:Addr}{xs ys:List V}{its its':List Value}{n n':Nat}{f:Obj->Obj}(I:Inv X pins σ H s)(h:H p=some (.lst xs))
  (ho:s.heap.get? p=some {cls:=.type "list",data:=.seq its.toArray n})(hf:f {cls:=.type "list",data:=.seq its.toArray n}={cls:=.type "list",data:=.seq its'.toArray n' })(r:a0P ys its')(hz:ys.length<=sizeLine)(t:Nat) :
  Inv X pins σ (upd H p (.lst ys)) {s with heap:=s.heap.update p f,toks:=t}:=by
 have e:(s.heap.update p f).get? p=some {cls:=.type "list",data:=.seq its'.toArray n' }:=by
  rw[b7Z f ho (by rw[hf]<;>rfl),hf]
 refine I.write (x:=p) (e:=p) (by rw[h];trivial) (.inl rfl) (λb u hb q=>(b8k _ _ (Ne.symm hb)).trans q) ⟨_,e⟩ ?_;exact⟨hz,its',n',r,e⟩
def rSetL:V->V->V->Hp->(Hp->Prop)->Prop:=λo i v H Q=>∃p xs k j,o=.ref p/\i=.int k/\H p=some (.lst xs)/\ixN xs.length k=some j/\Q (upd H p (.lst (xs.set j v)))
theorem a2b:PSet X rSetL:=by
 intro pins s σ H o i v ov iv u Q I ro ri rv h;obtain⟨p,xs,k,j,rfl,rfl,hp,hj,q⟩:=h;cases ro;obtain⟨t,rfl⟩:=ri;obtain⟨its,n,r,ho,hz⟩:=I.lst hp;obtain⟨h1,h2,h3,h4⟩:=a8L hj;have hl:=r.length;have hn:=a4s;have I':Inv X pins σ (upd H p (.lst (xs.set j v))) {s with heap:=s.heap.update p (Obj.mapSeq (·.setIfInBounds j u))}:=
  I.lstUpd hp ho (a7U its n j u) (r.set rv j) (by rw[b8z];exact hz) s.toks
 by_cases h0:0<=k
 ·have hk:k.toNat=j:=by
   rw[seqIndex_of h0 h4] at h1;exact b6I h1
  exact PySem.W.ki_setAt ho h0 (by omega) (by rw[b6n,<-hl];exact h4) (by rw[hk];exact⟨_,I',q⟩)
 ·have hk:(k+(its.toArray.size:Int)).toNat=j:=by
   rw[seqIndex_neg (by omega) h3] at h1;rw[b6n,<-hl];exact b6I h1
  exact PySem.W.ki_setBack ho (by omega) (by rw[b6n,<-hl];exact h3) (by omega) (by rw[hk];exact⟨_,I',q⟩)
theorem a5F(lo hi:Option Int)(n:Nat):(sliceBounds lo hi none n).1=((HT.sIx n 0 lo:Nat):Int)/\(sliceBounds lo hi none n).2.1=((HT.sIx n n hi:Nat):Int)/\(sliceBounds lo hi none n).2.2=1:=by
 refine⟨?_,?_,rfl⟩
 ·cases lo with
  |none=>simp[sliceBounds,HT.sIx]
  |some i=>
   simp only[sliceBounds,HT.sIx,Option.getD_none,show(1:Int)>0 by decide,if_true];by_cases h:i<0
   ·simp only[h,if_true]<;>omega
   ·simp only[h,c0R]<;>omega
 ·cases hi with
  |none=>simp[sliceBounds,HT.sIx]
  |some i=>
   simp only[sliceBounds,HT.sIx,Option.getD_none,show(1:Int)>0 by decide,if_true];by_cases h:i<0
   ·simp only[h,if_true]<;>omega
   ·simp only[h,c0R]<;>omega
theorem a4P(its:List Value)(lo hi:Option Int):slicePick its.toArray lo hi none=((its.drop (HT.sIx its.length 0 lo)).take (HT.sIx its.length its.length hi-HT.sIx its.length 0 lo)).toArray:=by
 obtain⟨h1,h2,h3⟩:=a5F lo hi its.toArray.size;unfold slicePick;rw[h1,h2,h3];simp only[c0q,pick_run,b6n]<;>rfl
def rSlL(K:PySem.W.Frag):V->Option Int->Option Int->Hp->VK->Prop:=λx lo hi H Q=>∃a xs,x=.ref a/\SqL K H a xs/\∀p,H p=none->Q (.ref p) (upd H p (.lst (a4f xs lo hi)))
theorem a3d:SlR X (rSlL X.K):=by
 intro pins s σ H x v vl vu lo hi sl Q I rx hs pl pu h;obtain⟨a,xs,rfl,hx,q⟩:=h;cases rx;obtain⟨its,r,ht,hz⟩:=I.list hx;have hlen:=r.length;refine⟨"list",_,slot_list_getitem.lookup,ht.isList.typeIs,?_⟩;refine wpAny_getItem_list_slice ht.isList hs pl pu .none (by simp) ?_ (by rw[b6n]<;>omega);rw[a4P,<-hlen];refine⟨.ref s.heap.objs.size,_,I.laid (t':=s.toks) (o:=.lst (a4f xs lo hi)) (λb ob q=>b6e _ q) (b6k _) ?_,rfl,q _ (I.hok.fresh (b6k _))⟩;exact⟨b6R (a3C xs lo hi) hz,_,0,(r.drop (HT.sIx xs.length 0 lo)).take (HT.sIx xs.length xs.length hi-HT.sIx xs.length 0 lo),b6m _ rfl⟩
def a4Q:V->Bool
 |.non=>true
 |.bl _=>true
 |.int _=>true
 |.str _=>true
 |_=>false
def eqV:V->V->Bool
 |.non,.non=>true
 |.bl a,.bl b=>a==b
 |.bl a,.int b=>(if a then 1 else 0)==b
 |.int a,.bl b=>a==(if b then 1 else 0)
 |.int a,.int b=>a==b
 |.str a,.str b=>a==b
 |_,_=>false
theorem eqAt_V{A:Around}{s:Shared}{y x:V}{u v:Value}(ry:a1h y u)(rx:a1h x v)(fy:a4Q y=true)(fx:a4Q x=true):SeqAt.EqAt A s u v (eqV y x):=by
 cases y with
 |non=>
  cases ry;cases x with
  |non=>cases rx;exact SeqAt.EqAt.same _
  |bl b=>cases rx;exact SeqAt.EqAt.none_bool b
  |int b=>obtain⟨t,rfl⟩:=rx;exact SeqAt.EqAt.none_int b t
  |str b=>obtain⟨t,rfl⟩:=rx;exact SeqAt.EqAt.none_str b t
  |_=>exact absurd (show false=true from fx) b6u
 |bl a=>
  cases ry;cases x with
  |non=>cases rx;exact SeqAt.EqAt.bool_none a
  |bl b=>cases rx;exact SeqAt.EqAt.bool_bool a b
  |int b=>obtain⟨t,rfl⟩:=rx;exact SeqAt.EqAt.bool_int a b t
  |str b=>obtain⟨t,rfl⟩:=rx;exact SeqAt.EqAt.bool_str a b t
  |_=>exact absurd (show false=true from fx) b6u
 |int a=>
  obtain⟨t',rfl⟩:=ry;cases x with
  |non=>cases rx;exact SeqAt.EqAt.int_none a t'
  |bl b=>cases rx;exact SeqAt.EqAt.int_bool a t' b
  |int b=>obtain⟨t,rfl⟩:=rx;exact c0k a t' b t
  |str b=>obtain⟨t,rfl⟩:=rx;exact SeqAt.EqAt.int_str a t' b t
  |_=>exact absurd (show false=true from fx) b6u
 |str a=>
  obtain⟨t',rfl⟩:=ry;cases x with
  |non=>cases rx;exact SeqAt.EqAt.str_none a t'
  |bl b=>cases rx;exact SeqAt.EqAt.str_bool a t' b
  |int b=>obtain⟨t,rfl⟩:=rx;exact SeqAt.EqAt.str_int a t' b t
  |str b=>obtain⟨t,rfl⟩:=rx;exact b8J a t' b t
  |_=>exact absurd (show false=true from fx) b6u
 |_=>exact absurd (show false=true from fy) b6u
def eqU(x:V)(u:Value):Bool:=match u with
 |.none=>eqV .non x
 |.bool b=>eqV (.bl b) x
 |.int i _=>eqV (.int i) x
 |.str z _=>eqV (.str z) x
 |_=>false
theorem b2N{x y:V}{u:Value}(r:a1h y u)(f:a4Q y=true):eqU x u=eqV y x:=by
 cases y with
 |non=>cases r;rfl
 |bl b=>cases r;rfl
 |int i=>obtain⟨t,rfl⟩:=r;rfl
 |str z=>obtain⟨t,rfl⟩:=r;rfl
 |_=>exact absurd (show false=true from f) b6u
theorem a3D{x:V}:∀{xs:List V}{us:List Value},a0P xs us->xs.all a4Q=true->us.any (eqU x)=xs.any λy=>eqV y x
 |_,_,.nil,_=>rfl
 |y::xs,u::us,.cons r t,f=>by
  rw[List.all_cons,b6Y] at f;rw[b9p,b9p,b2N r f.1,a3D t f.2]
theorem a2O{A:Around}{s:Shared}{x:V}{v:Value}(rx:a1h x v)(fx:a4Q x=true):∀{xs:List V}{us:List Value},a0P xs us->xs.all a4Q=true->∀u∈us,SeqAt.EqAt A s u v (eqU x u)
 |_,_,.nil,_=>λu hu=>by cases hu
 |y::xs,u::us,.cons r t,f=>λu' hu=>by
  rw[List.all_cons,b6Y] at f;rcases b6D.mp hu with rfl|hu
  ·rw[b2N r f.1];exact eqAt_V r rx f.1 fx
  ·exact a2O rx fx t f.2 u' hu
def inV(x:V)(xs:List V):Bool:=xs.any λy=>eqV y x
def rIn(K:PySem.W.Frag)(neg:Bool):R2:=λx y H Q=>∃p xs,y=.ref p/\(SqL K H p xs\/SqT K H p xs)/\a4Q x=true/\xs.all a4Q=true/\Q (.bl (if neg then !inV x xs else inV x xs)) H
theorem a1V:OpR X (compareOp .In) (rIn X.K false):=by
 intro pins s σ H x y v u Q I rx ry h;obtain⟨p,xs,rfl,hq,fx,fs,q⟩:=h;cases ry;rcases hq with hq|hq
 ·obtain⟨its,r,pl,hz⟩:=I.list hq;refine SeqAt.in_listAt (eqU x) pl.isList (λw hw=>a2O rx fx r fs w (by simpa using hw)) ⟨.bl _,H,I,rfl,?_⟩;rw[show its.toArray.any (eqU x)=its.any (eqU x) by simp,a3D r fs];exact q
 ·obtain⟨its,r,pl,hz⟩:=I.tuple hq;refine SeqAt.in_tupleAt (eqU x) pl (λw hw=>a2O rx fx r fs w (by simpa using hw)) ⟨.bl _,H,I,rfl,?_⟩;rw[show its.toArray.any (eqU x)=its.any (eqU x) by simp,a3D r fs];exact q
theorem a1Q:OpR X (compareOp .NotIn) (rIn X.K true):=by
 intro pins s σ H x y v u Q I rx ry h;obtain⟨p,xs,rfl,hq,fx,fs,q⟩:=h;cases ry;rcases hq with hq|hq
 ·obtain⟨its,r,pl,hz⟩:=I.list hq;refine SeqAt.notIn_listAt (eqU x) pl.isList (λw hw=>a2O rx fx r fs w (by simpa using hw)) ⟨.bl _,H,I,rfl,?_⟩;rw[show its.toArray.any (eqU x)=its.any (eqU x) by simp,a3D r fs];exact q
 ·obtain⟨its,r,pl,hz⟩:=I.tuple hq;refine SeqAt.notIn_tupleAt (eqU x) pl (λw hw=>a2O rx fx r fs w (by simpa using hw)) ⟨.bl _,H,I,rfl,?_⟩;rw[show its.toArray.any (eqU x)=its.any (eqU x) by simp,a3D r fs];exact q
theorem a2k:a2v X (.builtin "len") (λxs H Q=>∃p ys,xs=[.ref p]/\(SqL X.K H p ys\/SqT X.K H p ys)/\Q (.int ys.length) H):=by
 intro pins s σ H xs us Q I r h;obtain⟨p,ys,rfl,hq,q⟩:=h;obtain⟨u,rfl,rx⟩:=a2D r;cases rx;have hn:=a4s;rcases hq with hq|hq
 ·obtain⟨its,r',pl,hz⟩:=I.list hq;have hlen:=r'.length;exact Calls.call_len_list pl.isList (by simp only[b6n]<;>omega) ⟨.int ys.length,H,I.tok _,⟨s.toks+1,by rw[b6n,hlen]⟩,q⟩
 ·obtain⟨its,r',pl,hz⟩:=I.tuple hq;have hlen:=r'.length;exact len_tuple pl (by simp only[b6n]<;>omega) ⟨.int ys.length,H,I.tok _,⟨s.toks+1,by rw[b6n,hlen]⟩,q⟩
theorem pln{e:Expr}{te:TE}{p pos:Pos}(ml:X.mg "len"=none)(ha:PE X e te)(hg:Gl X "len":=by rfl)(he:starEach [e] X.env=[(false,eval e X.env)]:=by rfl):PE X (.Call (.Name "len" p) [e] [] pos) (tCB (λxs H Q=>∃p ys,xs=[.ref p]/\(SqL X.K H p ys\/SqT X.K H p ys)/\Q (.int ys.length) H) (a6v te b2L)):=a0C a2k hg ml b7E (a0a ha a0d he) (by decide) (by decide) he rfl
theorem a1f:a2v X (.builtin "len") (λxs H Q=>∃z,xs=[.str z]/\z.length<=sizeLine/\Q (.int z.length) H):=by
 intro pins s σ H xs us Q I r h;obtain⟨z,rfl,hz,q⟩:=h;obtain⟨u,rfl,t,rfl⟩:=a2D r;have hn:=a4s;exact len_str (by omega) ⟨.int z.length,H,I.tok _,⟨_,rfl⟩,q⟩
theorem a3i:a2v X (.type "list") (λxs H Q=>∃p ys,xs=[.ref p]/\(SqL X.K H p ys\/SqT X.K H p ys)/\∀l,H l=none->Q (.ref l) (upd H l (.lst ys))):=by
 intro pins s σ H xs us Q I r h;obtain⟨p,ys,rfl,hq,q⟩:=h;obtain⟨u,rfl,rx⟩:=a2D r;cases rx;have fin:∀(its:List Value),a0P ys its->ys.length<=sizeLine->∀(h':Heap)(c':Nat),(∀b o',s.heap.get? b=some o'->h'.get? b=some o') ->
   h'.get? s.heap.objs.size=some {cls:=.type "list",dict:=none,data:=.seq its.toArray c',slots:=#[]}->EP X pins σ Q (.ref s.heap.objs.size) {s with heap:=h' }:=λits r' hz h' c' kp e=>
  ⟨.ref s.heap.objs.size,_,I.laid (t':=s.toks) kp (b6k _) (show a1s X.prog X.w _ h' _ (.lst ys) from⟨hz,its,c',r',e⟩),rfl,q _ (I.hok.fresh (b6k _))⟩
 rcases hq with hq|hq
 ·obtain⟨its,r',pl,hz⟩:=I.list hq;have hlen:=r'.length;obtain⟨o,ho,hc,n,hd⟩:=pl.isList;exact call_list_seq p (.inl rfl) ho hc hd (λh' c' kp e=>fin its r' hz h' c' kp e) (by simp only[b6n]<;>omega)
 ·obtain⟨its,r',pl,hz⟩:=I.tuple hq;have hlen:=r'.length;obtain⟨o,ho,hc,n,hd⟩:=pl;exact call_list_seq p (.inr rfl) ho hc hd (λh' c' kp e=>fin its r' hz h' c' kp e) (by simp only[b6n]<;>omega)
theorem a0A:a2v X (.type "tuple") (λxs H Q=>∃p ys,xs=[.ref p]/\((SqL X.K H p ys/\∀l,H l=none->Q (.ref l) (upd H l (.tup ys)))\/(SqT X.K H p ys/\Q (.ref p) H))):=by
 intro pins s σ H xs us Q I r h;obtain⟨p,ys,rfl,h⟩:=h;obtain⟨u,rfl,rx⟩:=a2D r;cases rx;rcases h with ⟨hq,q⟩|⟨hq,q⟩
 ·obtain⟨its,r',pl,hz⟩:=I.list hq;have hlen:=r'.length;refine call_tuple_list pl.isList (λh' kp=>?_) (by simp only[b6n]<;>omega);have I1:Inv X pins σ H {s with heap:=h' }:=I.kept (t':=s.toks) kp;have I2:Inv X pins σ (upd H h'.objs.size (.tup ys)) {s with heap:=h'.push {cls:=.type "tuple",data:=.seq its.toArray}}:=
   I1.laid (t':=s.toks) (λb o e=>b6e _ e) (b6k _) (show a1s X.prog X.w _ _ _ (.tup ys) from⟨hz,its,r',a5t.new _ _⟩)
  exact⟨.ref h'.objs.size,_,I2,rfl,q _ (I1.hok.fresh (b6k _))⟩
 ·obtain⟨its,r',pl,hz⟩:=I.tuple hq;exact call_tuple_same pl ⟨.ref p,H,I,rfl,q⟩
def tyV(K:PySem.W.Frag)(T:String)(x:V)(H:Hp):Prop:=match x with
 |.str _=>T="str"
 |.int _=>T="int"
 |.ref p=>(T="list"/\∃xs,SqL K H p xs)\/(T="tuple"/\∃o,K.lookup p=some o/\o.cls=.type "tuple"/\o.dict=none) \/
   (T="dict"/\((∃kvs,H p=some (.dK kvs))\/∃kvs,H p=some (.dT kvs)))\/(T="set"/\∃S n,H p=some (.set S n))
 |_=>False
theorem a8N{pins:List (Addr×Obj)}{σ:St}{H:Hp}{s:Shared}{T:String}{x:V}{v:Value}(I:Inv X pins σ H s)(r:a1h x v)(ty:tyV X.K T x H) :
  s.TypeIs v T/\∀a,v=.ref a->∃ob,s.heap.get? a=some ob/\ob.dict=none:=by
 cases x with
 |str z=>
  obtain⟨t,rfl⟩:=r;cases (show T="str" from ty);exact⟨b9l s z t,λ_ e=>nomatch e⟩
 |int i=>
  obtain⟨t,rfl⟩:=r;cases (show T="int" from ty);exact⟨typeIs_int s i t,λ_ e=>nomatch e⟩
 |ref p=>
  cases r;rcases ty with ⟨rfl,xs,hq⟩|⟨rfl,o,hk,hc,hd⟩|⟨rfl,hk⟩|⟨rfl,S,n,hk⟩
  ·obtain⟨its,_,pl,_⟩:=I.list hq;refine⟨pl.isList.typeIs,λa e=>?_⟩;cases e;obtain⟨o,n,e,c,hd,_⟩:=pl;exact⟨o,e,hd⟩
  ·refine⟨⟨o,I.kIn p o hk,hc⟩,λa e=>?_⟩;cases e;exact⟨o,I.kIn _ o hk,hd⟩
  ·have z:∃o,s.heap.get? p=some o/\o.ExactDict:=by
    rcases hk with ⟨kvs,hk⟩|⟨kvs,hk⟩
    ·obtain⟨_,_,_,_,o,_,_,e,ex,_⟩:=I.hok p _ hk;exact⟨o,e,ex⟩
    ·obtain⟨_,_,_,_,o,_,_,e,ex,_⟩:=I.hok p _ hk;exact⟨o,e,ex⟩
   obtain⟨o,e,ex⟩:=z;refine⟨⟨o,e,ex.1⟩,λa e2=>?_⟩;cases e2;exact⟨o,e,ex.2.1⟩
  ·obtain⟨o,_,_,_,e,ex,_⟩:=I.hok p _ hk;refine⟨⟨o,e,ex.1⟩,λa e2=>?_⟩;cases e2;exact⟨o,e,ex.2.1⟩
 |_=>exact False.elim ty
def tBM0(K:PySem.W.Frag)(T:String)(r:V->List V->Hp->VK->Prop)(to:TE):TE:=λσ H Q=>to σ H λx H1=>tyV K T x H1/\r x [] H1 Q
def tBM(K:PySem.W.Frag)(T:String)(r:V->List V->Hp->VK->Prop)(to:TE)(t:TA):TE:=λσ H Q=>to σ H λx H1=>tyV K T x H1/\t σ H1 λxs H2=>r x xs H2 Q
variable {o e:Expr}{es:List Expr}{to:TE}{t:TA}{name:Str}{apos cpos:Pos}{T id:String}{r:V->List V->Hp->VK->Prop}
theorem b2O(pa:PlainAttrs T)(slot:Slot T name id)(hty:typeOf (.builtin id)=pure (.type "method_descriptor"))(hm:MtR X id r)(ho:PE X o to)
  (hbase:attributeBase o name X.env (eval o X.env)=eval o X.env:=by rfl)(hline:(apos.endLine==cpos.line)=true:=by rfl):PE X (.Call (.Attribute o name apos) [] [] cpos) (tBM0 X.K T r to):=by
 intro pins s σ H Q I h;refine wpAny_Call_method0_late hbase hline (thn (ho pins s σ H _ I h) λv s1 ⟨x,H1,I1,r1,ty,q1⟩=>?_);obtain⟨h1,h2⟩:=a8N I1 r1 ty;exact⟨T,id,pa,slot,hty,h1,h2,b8l rfl (PySem.evalArgs_none (hm pins s1 σ H1 x [] v [] Q I1 r1 .nil q1))⟩
theorem a1N(pa:PlainAttrs T)(slot:Slot T name id)(hty:typeOf (.builtin id)=pure (.type "method_descriptor"))(hm:MtR X id r)(ho:PE X o to)(ha:PA X (e::es) t)
  (hbase:attributeBase o name X.env (eval o X.env)=eval o X.env:=by rfl)
  (hfew:((backTo cpos (starEach (e::es) X.env)).all (λx=>!x.1)&&(backToKw cpos (keywordEach [] X.env)).all (λx=>x.1.isSome)
   && decide ((e::es).length+([]:List Keyword).length+(if ([]:List Keyword).isEmpty then 0 else 1)<30))=true:=by rfl)
  (hline:(apos.endLine==cpos.line)=true:=by rfl)(hs:starEach (e::es) X.env=(false,eval e X.env)::starEach es X.env:=by rfl)(hplain:(backTo cpos (starEach es X.env)).any (·.1)=false:=by rfl) :
  PE X (.Call (.Attribute o name apos) (e::es) [] cpos) (tBM X.K T r to t):=by
 intro pins s σ H Q I h;refine b9B hbase hfew hline rfl (thn (ho pins s σ H _ I h) λv s1 ⟨x,H1,I1,r1,ty,q1⟩=>?_);obtain⟨h1,h2⟩:=a8N I1 r1 ty;refine⟨T,id,pa,slot,hty,h1,h2,?_⟩;have hA:=ha cpos pins s1 σ H1 _ I1 q1;rw[hs] at hA ⊢;refine b8l (by show(false||(backTo cpos (starEach es X.env)).any (·.1))=false;rw[hplain]<;>rfl) (b9a ?_);exact thn hA λus s2 ⟨vs,H2,I2,r2,q2⟩=>hm pins s2 σ H2 x vs v us Q I2 r1 r2 q2
end
def MtM(X:Cx)(id:String)(r:V->List V->Hp->VK->Prop):Prop:=
 ∀(pins:List (Addr×Obj))(s:Shared)(σ:St)(H:Hp)(x:V)(xs:List V)(v:Value)(us:List Value)(Q:VK),Inv X pins σ H s->a1h x v->a0P xs us->r x xs H Q ->
  wpAny (model X.prog X.w) X.A (call (.builtin id) (v::us)) (EP X pins σ Q) X.xe s
theorem a0P.one:∀{x:V}{us:List Value},a0P [x] us->∃u,us=[u]/\a1h x u
 |_,_,.cons r .nil=>⟨_,rfl,r⟩
theorem a0P.two:∀{x y:V}{us:List Value},a0P [x,y] us->∃u v,us=[u,v]/\a1h x u/\a1h y v
 |_,_,_,.cons r (.cons q .nil)=>⟨_,_,rfl,r,q⟩
theorem a0P.zero:∀{us:List Value},a0P [] us->us=[]
 |_,.nil=>rfl
theorem a0P.dropLast{xs:List V}{us:List Value}(h:a0P xs us):a0P xs.dropLast us.dropLast:=by
 induction h with
 |nil=>exact .nil
 |cons r t ih=>
  cases t with
  |nil=>exact .nil
  |cons q t'=>exact .cons r ih
theorem a0P.rep{xs:List V}{us:List Value}(h:a0P xs us):∀k:Nat,a0P (List.replicate k xs).flatten (List.replicate k us).flatten
 |0=>.nil
 |k+1=>by
  rw[b7U,b7U,b8A,b8A];exact a0P.append h (a0P.rep h k)
theorem a7V{α:Type}(l:List α):l.eraseIdx (l.length-1)=l.dropLast:=by
 induction l with
 |nil=>rfl
 |cons a r ih=>
  cases r with
  |nil=>rfl
  |cons b r=>
   have e:(a::b::r).length-1=((b::r).length-1)+1:=by
    have h1:(a::b::r).length=r.length+2:=rfl;have h2:(b::r).length=r.length+1:=rfl;omega
   rw[e,List.eraseIdx_cons_succ,ih]
   all_goals rfl
theorem a5G(its:List Value):∀(k:Nat)(acc:List Value),
  List.foldl (λx1 x2=>x1++x2) acc.toArray (List.replicate k its.toArray)=(acc++(List.replicate k its).flatten).toArray
 |0,acc=>by simp
 |k+1,acc=>by
  have e:acc.toArray++its.toArray=(acc++its).toArray:=by simp
  have e2:(acc++its)++(List.replicate k its).flatten=acc++(List.replicate (k+1) its).flatten:=by
   rw[b7U,b8A,b8B]
  rw[<-e2,<-a5G its k (acc++its),<-e,b7U,List.foldl_cons]
section
variable {X:Cx}{pins:List (Addr×Obj)}{σ:St}{H:Hp}{s:Shared}{l b:Addr}{xs ys zs:List V}
theorem Inv.lset{its its':List Value}{n:Nat}{f:Array Value->Array Value}{t':Nat}(I:Inv X pins σ H s)(hH:H l=some (.lst xs))
  (e:s.heap.get? l=some {cls:=.type "list",data:=.seq its.toArray n})(hf:f its.toArray=its'.toArray)(hv:a0P ys its')(hz:ys.length<=sizeLine) :
  Inv X pins σ (upd H l (.lst ys)) {s with heap:=s.heap.update l (Obj.mapSeq f),toks:=t' }:=by
 have q:=PySem.IsL.update e f;rw[hf] at q;refine I.write (x:=l) (e:=l) (by rw[hH];exact trivial) (.inl rfl) (λb' u hb hu=>(b8k s.heap (Obj.mapSeq f) (Ne.symm hb)).trans hu) ⟨_,q⟩ ?_;exact⟨hz,its',_,hv,q⟩
theorem Inv.lnew{its:List Value}{t':Nat}(I:Inv X pins σ H s)(hv:a0P ys its)(hz:ys.length<=sizeLine) :
  Inv X pins σ (upd H s.heap.objs.size (.lst ys)) {s with heap:=s.heap.push {cls:=.type "list",data:=.seq its.toArray},toks:=t' }:=
 I.laid (λ_ _ q=>b6e _ q) (b6k _) ⟨hz,its,0,hv,b6m _ rfl⟩
theorem Inv.fresh(I:Inv X pins σ H s):H s.heap.objs.size=none:=I.hok.fresh (b6k _)
theorem Inv.lstM(I:Inv X pins σ H s)(hH:H l=some (.lst xs)):xs.length<=sizeLine/\∃(its:List Value)(n:Nat),a0P xs its/\xs.length=its.length/\s.heap.get? l=some {cls:=.type "list",data:=.seq its.toArray n}:=by
 obtain⟨z,its,n,r,e⟩:=I.hok l _ hH;exact⟨z,its,n,r,r.length,e⟩
theorem a4R{n:Nat}(h:n<=sizeLine):Builtin.List.listTooLong n=false:=by
 unfold Builtin.List.listTooLong;exact b6w (by omega)
end
section
variable {X:Cx}
def b4c:V->List V->Hp->VK->Prop:=λx vs H Q=>∃l xs y,x=.ref l/\vs=[y]/\H l=some (.lst xs)/\xs.length<sizeLine/\Q .non (upd H l (.lst (xs++[y])))
theorem a1b:MtM X "list.append" b4c:=by
 intro pins s σ H x vs v us Q I rx rv h;obtain⟨l,xs,y,rfl,rfl,hH,hz,q⟩:=h;cases rx;obtain⟨u,rfl,ru⟩:=rv.one;obtain⟨z,its,n,r,hl,e⟩:=I.lstM hH;refine b8q F.slot_list_append ⟨_,e,rfl⟩ F.entry_list_append (F.args_list_append_2 _ _) (PySem.list_append l its.toArray n u (by rw[b6n];omega)) ⟨e,?_⟩;refine⟨.non,_,I.lset (its':=its++[u]) hH e (by simp) (r.append (.cons ru .nil)) ?_,rfl,q⟩;rw[b6o,b9H];omega
def b4d:V->List V->Hp->VK->Prop:=λx vs H Q=>∃l b xs zs,x=.ref l/\vs=[.ref b]/\H l=some (.lst xs)/\H b=some (.lst zs)/\xs.length+zs.length<=sizeLine/\Q .non (upd H l (.lst (xs++zs)))
theorem a8O:MtM X "list.extend" b4d:=by
 intro pins s σ H x vs v us Q I rx rv h;obtain⟨l,b,xs,zs,rfl,rfl,hH,hB,hz,q⟩:=h;cases rx;obtain⟨u,rfl,ru⟩:=rv.one;cases ru;obtain⟨z,its,n,r,hl,e⟩:=I.lstM hH;obtain⟨z2,its2,n2,r2,hl2,e2⟩:=I.lstM hB;have hsz:its.toArray.size+its2.toArray.size<=sizeLine:=by rw[b6n,b6n];omega
 have hlong:¬(!its.toArray.isEmpty&&Builtin.List.listTooLong (its.toArray.size+its2.toArray.size))=true:=by
  rw[a4R hsz,b9E];exact b6u
 refine b8q F.slot_list_extend ⟨_,e,rfl⟩ F.entry_list_extend (F.args_list_extend_2 _ _)
  (AutoSeq1.list_extend_list_list_0 l its.toArray n b its2.toArray n2 hlong (by rw[b6n];omega) (by omega)) ⟨e,e2,?_⟩
 refine⟨.non,_,I.lset (its':=its++its2) hH e (by simp) (r.append r2) ?_,rfl,q⟩;rw[b6o];omega
def rPop:V->List V->Hp->VK->Prop:=λx vs H Q=>∃l xs y,x=.ref l/\vs=[]/\H l=some (.lst xs)/\xs[xs.length-1]?=some y/\Q y (upd H l (.lst xs.dropLast))
theorem b2P:MtM X "list.pop" rPop:=by
 intro pins s σ H x vs v us Q I rx rv h;obtain⟨l,xs,y,rfl,rfl,hH,hy,q⟩:=h;cases rx;have hus:=rv.zero;subst hus;obtain⟨z,its,n,r,hl,e⟩:=I.lstM hH;obtain⟨u,hu,ru⟩:=r.get hy;have hy':its.toArray[its.toArray.size-1]?=some u:=by
  show its.toArray[its.length-1]?=some u;rw[<-b7J,<-hl];exact hu
 refine b8q F.slot_list_pop ⟨_,e,rfl⟩ F.entry_list_pop (F.args_list_pop_1 _) (MeetsSeq.list_pop_last l its.toArray n u hy' (by rw[b6n];omega)) ⟨e,?_⟩;refine⟨y,_,I.lset (its':=its.dropLast) hH e ?_ r.dropLast ?_,ru,q⟩
 ·show its.toArray.eraseIdxIfInBounds (its.toArray.size-1)=its.dropLast.toArray;rw[b6n,List.eraseIdxIfInBounds_toArray,a7V]
 ·rw[b9b];omega
def rCat:R2:=λx y H Q=>∃l b xs zs,x=.ref l/\y=.ref b/\H l=some (.lst xs)/\H b=some (.lst zs)/\xs.length+zs.length<=sizeLine/\∀p,H p=none->Q (.ref p) (upd H p (.lst (xs++zs)))
theorem a8P:OpR X (binaryOp .Add) rCat:=by
 intro pins s σ H x y v u Q I rx ry h;obtain⟨l,b,xs,zs,rfl,rfl,hH,hB,hz,q⟩:=h;cases rx;cases ry;obtain⟨z,its,n,r,hl,e⟩:=I.lstM hH;obtain⟨z2,its2,n2,r2,hl2,e2⟩:=I.lstM hB;refine PySem.P.add_list e e2 ?_ (by rw[b6n,b6n];omega);have ea:its.toArray++its2.toArray=(its++its2).toArray:=by simp
 rw[ea];exact⟨.ref _,_,I.lnew (t':=s.toks) (r.append r2) (by rw[b6o];omega),rfl,q _ I.fresh⟩
def rRep:R2:=λx y H Q=>∃l k xs,x=.ref l/\y=.int k/\H l=some (.lst xs)/\-(2 ^ 63)<=k/\k<2 ^ 63/\xs.length*k.toNat<=sizeLine /\
 ∀p,H p=none->Q (.ref p) (upd H p (.lst (List.replicate k.toNat xs).flatten))
theorem b4e{α:Type}(xs:List α)(k:Nat):(List.replicate k xs).flatten.length=k*xs.length:=by
 induction k with
 |zero=>simp
 |succ k ih=>rw[b7U,b8A,b6o,ih,c0K,Nat.add_comm]
theorem op_rep:OpR X (binaryOp .Mult) rRep:=by
 intro pins s σ H x y v u Q I rx ry h;obtain⟨l,k,xs,rfl,rfl,hH,h1,h2,hz,q⟩:=h;cases rx;obtain⟨t,rfl⟩:=ry;obtain⟨z,its,n,r,hl,e⟩:=I.lstM hH;have hlen:its.toArray.size*k.toNat<=sizeLine:=by rw[b6n,<-hl];exact hz
 have hcap:¬its.toArray.size*k.toNat>(2 ^ 63-1) / 8:=by
  have:(sizeLine:Nat)<=(2 ^ 63-1) / 8:=by decide
  omega
 have hfit:¬(!Builtin.List.listFitsIndex k)=true:=by
  rw[fitsIndex_both h1 h2];exact b6u
 have hlong:¬Builtin.List.listTooLong (its.toArray.size*k.toNat)=true:=by
  rw[a4R hlen];exact b6u
 have hnew:List.foldl (λx1 x2=>x1++x2) #[] (List.replicate (if its.toArray.isEmpty=true then 0 else k.toNat) its.toArray)=(List.replicate k.toNat its).flatten.toArray:=by
  have f0:∀m:Nat,List.foldl (λx1 x2=>x1++x2) #[] (List.replicate m its.toArray)=(List.replicate m its).flatten.toArray:=λm=>by
   have:=a5G its m [];rw[List.nil_append] at this;exact this
  rw[f0];cases its with
  |nil=>simp
  |cons a r'=>rw[if_neg (by simp)]
 refine wpAny_binaryOp_repeat_ref (T:="list") (U:="int") (by decide) ⟨_,e,rfl⟩ (λs'=>typeIs_int s' k t) noFill_list_mul F.fills_int_mul F.slot_int_rmul repeat_list F.slot_int_index.lookup
  (b8q F.slot_int_rmul (typeIs_int s k t) F.entry_int_rmul (F.args_int_rmul_2 _ _) (int___rmul___int_list k t l its.toArray n)
   ⟨e,rfl,⟨_,e,rfl⟩,b8q F.slot_list_mul ⟨_,e,rfl⟩ F.entry_list_mul (F.args_list_mul_2 _ _) (AutoListH.list___mul___list_int_3 l its.toArray n k t hfit hcap hlong) ⟨e,?_⟩⟩)
 rw[hnew];exact⟨.ref _,_,I.lnew (t':=s.toks) (r.rep k.toNat) (by rw[b4e,Nat.mul_comm];exact hz),rfl,q _ I.fresh⟩
end
variable {prog:Program}{w:World}{A:Around}{E:Value->Shared->Prop}{s:Shared}
section
variable {X:Cx}
end
end L2
namespace Att
open PySem PySem.W PySem.Calls PyProof.Rows
theorem a3E{P:Params}{h:Heap}:∀(ns:List Int)(vs:List Value),WellAll P h vs (ns.map WData.int)->IntsAre vs ns:=by
 intro ns
 induction ns with
 |nil=>
  intro vs w;rw[b8N] at w;cases w;exact .nil
 |cons n ns ih=>
  intro vs w;rw[b6z] at w;cases w with
  |cons a b=>
   cases a;exact .cons _ _ (ih _ b)
theorem a8Q{l:OpenLaw}{n:Nat}(hn:l.most=some n){P:Params}{h:Heap}{args:List WData}{vals:List Value}
  (hpre:l.row.toRowW.claim.pre args=true)(hwl:WellAll P h vals args) :
  ∃a vs ns,vals=[Value.ref a]/\args=[WData.list (ns.map WData.int)]/\h.get? a=some {cls:=.type "list",data:=.seq vs.toArray}/\IntsAre vs ns/\ns.length<=n:=by
 have hsh:WShape.hasAll [] args [.list .int]=true:=(pre_splitW hpre).1;have hc:l.pre.holds [] {args:=args}=true:=(pre_splitW hpre).2;obtain⟨d,r,rfl,h1,h2⟩:=hasAllW_cons hsh;obtain rfl:=hasAllW_nil h2;obtain⟨xs,rfl,h3⟩:=hasW_list h1;obtain⟨ns,rfl⟩:=items_int h3;have hlen:ns.length<=n:=by
  unfold OpenLaw.pre at hc;have h4:(WTm.not (.lt (.lit (.int (n:Int))) (.len (.arg 0)))).holds [] {args:=[.list (ns.map .int)]}=true:=by
   have h4:=(holds_andW hc).1;rw[hn] at h4;exact h4
  have h5:=condW_of h4 (w_not (w_lt w_lit (w_len_list (w_arg rfl))));rw[b6b] at h5;refine Nat.le_of_not_lt λq=>?_;have q':(n:Int)<((ns.length:Nat):Int):=by omega
  first
   |(rw[b6i q'] at h5;exact absurd h5 (by decide))
   |(simp at h5;omega)
 cases hwl with
 |cons w1 w2=>
  cases w2;cases w1 with
  |list ho hall=>exact⟨_,_,ns,rfl,rfl,ho,a3E ns _ hall,hlen⟩
theorem a8R(l:OpenLaw)(args:List WData):l.row.toRowW.claim.post args (.bool true) args=true:=
 postW_of (r:=l.row.toRowW) (X:=(true==true))
  (show WShape.has [] (.bool true) .bool=true by first|rfl|decide|simp[WShape.has,WShape.arms,WShape.armsAll])
  (show(WTm.eq .res (.lit (.bool true))).value [] {args:=args,res:=some (.bool true),after:=args}=some (.bool (true==true)) from w_eq_bool (w_res rfl) w_lit) rfl
theorem a6x{l:OpenLaw}{n:Nat}{q:Program}{loose:List Str}{XP:(Str->Option Value)->Heap->Prop}{YP:World->Heap->Prop}{d:DefRec}
  (hn:l.most=some n)(hdf:d.params.defaults=[])
  (call:∀(w:World)(s₀ s₁:Shared)(mg mb:Str->Option Value)(fa:Addr)(o:Obj)(pm cd doc:Value)(a:Addr)(vs:List Value)(ns:List Int),
   Ground q loose [] XP w s₀ mg mb s₁.heap->YP w s₁.heap ->
   s₁.heap.get? fa=some o->o.data=.func (docDef d.name d.params d.body d.scope pm cd doc)->s₁.heap.CodeRec cd d.name->mg d.name=some (.ref fa) ->
   s₁.heap.get? a=some {cls:=.type "list",data:=.seq vs.toArray}->IntsAre vs ns->ns.length<=n->s₁.gens=#[] ->
   codeAny (model l.prog w) callerA (.call (.ref fa) ⟨[.ref a],[]⟩) (λr s'=>r=.ok (.ret (.bool true))/\OldK s₁.heap s'.heap/\s'.os=s₁.os/\AllBare s'.gens) s₁) :
  WalkO q loose XP YP l.row.toRowW d [] (λf vs=>PySem.call f vs):=by
 intro w s₀ s₁ mg mb G Y fa o pm cd doc dV kV ho hd hcd hD hmg hg args vals as hpre hlay hrd hwl hlo;obtain rfl:dV=.none:=Dflts.none hD hdf;obtain rfl:kV=.none:=Dflts.noKw hD;obtain⟨a,vs,ns,rfl,rfl,hobj,hints,hlen⟩:=a8Q hn hpre hwl;refine enter_call (b8L (call w s₀ s₁ mg mb fa o pm cd doc a vs ns G Y ho (fd_plain hd) hcd hmg hobj hints hlen hg) λr s' hq=>?_);obtain⟨rfl,h2,h3,h4⟩:=hq;exact⟨.inl ⟨.bool true,.bool true,[],rfl,λ_=>rfl,.bool true,a8R l _,λ_=>⟨List.Pairwise.nil,λ_ hm=>(nomatch hm)⟩⟩,h2,h3,h4⟩
section
variable {prog:Program}{w:World}{A:Around}{E:Value->Shared->Prop}{s:Shared}{K:Frag}
def ledger(h:Heap)(L d:Addr):List (Addr×Obj):=(List.range h.objs.size).filterMap λa=>if a=L\/a=d then none else (h.get? a).map λo=>(a,o)
end
end Att
namespace L2
open PySem PySem.Spec PyProof.Rows
theorem a5H:∀{vs:List Value}{ns:List Int},IntsAre vs ns->a0P (ns.map V.int) vs
 |_,_,.nil=>.nil
 |_,_,.cons n t h=>.cons ⟨t,rfl⟩ (a5H h)
def Only(H:Hp):Prop:=∀b,H b=none\/∃o xs,H b=some (.frz o (.lst xs))
theorem b1f{P:Program}{w:World}{K:PySem.W.Frag}{mg mb:Str->Option Value}{CX:CXT}{k:Nat}{fa a:Addr}{fd:FuncData}{x:Str}{sp:Sp}{s₁:Shared}{vs:List Value}{ns:List Int}
  (KX:K.In s₁.heap)(hns:s₁.heap.Ns mainGlobals mg)(hb:s₁.heap.Ns builtinsNs mb)(hbb:∀x:Str,x≠"__name__"->mb x=bootBuiltins x)(hlim:s₁.heap.NoLimit)(hg:s₁.gens=#[])
  (ha:s₁.heap.get? a=some {cls:=.type "list",data:=.seq vs.toArray})(hi:IntsAre vs ns)(hl:ns.length<=sizeLine)(hr:a2I k callerA)
  (F:∀base:Heap,K.In base->base.Ns mainGlobals mg->a0I P w K mg base CX k fa fd [x] sp)(hbind:∀(s:Shared)(u:Value),BindsTo s fd ⟨[u],[]⟩ [(x,u)])
  (hsp:∀H:Hp,Only H->SqL K H a (ns.map V.int)->sp [.ref a] H (λv _=>v=.bl true) λ_ _ _=>False)
  (hCX:∀H e s',CX [] H s₁ (λ_ _ _=>False) e s'->False) :
  codeAny (model P w) callerA (.call (.ref fa) ⟨[.ref a],[]⟩) (λr s'=>r=.ok (.ret (.bool true))/\OldK s₁.heap s'.heap/\s'.os=s₁.os/\AllBare s'.gens) s₁:=by
 have rv:=a5H hi;have lenV:=hi.length;have core:∀H:Hp,Only H->SqL K H a (ns.map V.int)->HOk P w H s₁.heap->(∀b,H b≠none->b=a)->(H a≠none->K.lookup a=none) ->
   codeAny (model P w) callerA (.call (.ref fa) ⟨[.ref a],[]⟩) (λr s'=>r=.ok (.ret (.bool true))/\OldK s₁.heap s'.heap/\s'.os=s₁.os/\AllBare s'.gens) s₁:=by
  intro H hO hS hok hA hK;have base_of:∀{b:Addr}{o:Obj},s₁.heap.get? b=some o->H b=none->(b0U s₁.heap H).get? b=some o:=λe n=>b0V e n;have noA:∀{b:Addr}{o:Obj}{es:Array DictEntry}{ep:Nat},s₁.heap.get? b=some o->o.data=.dict es ep->H b=none:=λ{b o es ep} e d=>by
   cases q:H b with
   |none=>rfl
   |some u=>
    have e':b=a:=hA b (by rw[q];simp);subst e';rw[ha] at e;cases e;have d':Data.seq vs.toArray _=Data.dict es ep:=d;cases d'
  have nsK:∀{b:Addr}{m:Str->Option Value},s₁.heap.Ns b m->(b0U s₁.heap H).Ns b m:=λ{b m} ⟨o,es,ep,e,d,r⟩=>⟨o,es,ep,base_of e (noA e d),d,r⟩
  have hKb:K.In (b0U s₁.heap H):=λb o e=>base_of (KX b o e) (by
   cases q:H b with
   |none=>rfl
   |some u=>
    have e':b=a:=hA b (by rw[q];simp);subst e';rw[hK (by rw[q];simp)] at e;cases e)
  have hM:Mod K mg (b0U s₁.heap H):=⟨hKb,nsK hns,⟨mb,nsK hb,hbb⟩,let ⟨mc,h1,h2⟩:=hlim;⟨mc,nsK h1,h2⟩⟩
  have e0:b3X P w K mg (b0U s₁.heap H) callerA [] s₁ H:=⟨rfl,hM,λb o e=>b3O e,Nat.le_of_eq (a8u _ _),trivial,λb hb=>absurd (show b∈([]:List Addr) from hb) (by simp),hok,.of_eq hg⟩
  refine b8L ((F _ hKb (nsK hns)).run callerA [] s₁ H ⟨[.ref a],[]⟩ [.ref a] [.ref a] _ _ hr e0 (hbind s₁ (.ref a)) (.cons rfl .nil) (hsp H hO hS)) λr s' h=>?_;cases r with
  |error e=>exact(hCX H e s' h).elim
  |ok fl=>
   cases fl with
   |next=>exact False.elim h
   |brk=>exact False.elim h
   |cont=>exact False.elim h
   |ret u=>
    obtain⟨v,H',os,bare,un,hok',r',q⟩:=h;have q':v=.bl true:=q;subst q';obtain rfl:u=Value.bool true:=r';refine⟨rfl,OldK.of_keep λb o e=>?_,os,bare⟩;cases q:H b with
    |none=>exact un.keep b o e q (by intro z;exact absurd (show b∈([]:List Addr) from z) (by simp)) (by simp)
    |some u=>
     rcases hO b with z|⟨ob,xs,z⟩
     ·rw[q] at z;cases z
     ·have z2:=un.frzs b ob _ z;obtain⟨e1,_⟩:=hok b _ z;obtain⟨e2,_⟩:=hok' b _ z2;rw[e] at e1;cases e1;exact e2
 cases hk:K.lookup a with
 |some o=>
  have e:=KX a o hk;rw[ha] at e;cases e;refine core (λ_=>none) (λ_=>.inl rfl) (.inr ⟨_,vs.toArray,_,hk,rfl,rfl,rfl,by rw[b6n,lenV];exact hl,by simpa using rv⟩) (λb u z=>by have z':(none:Option HO)=some u:=z;cases z') (λb z=>absurd rfl z) λz=>absurd rfl z
 |none=>
  refine core (λb=>if b=a then some (.frz {cls:=.type "list",data:=.seq vs.toArray} (.lst (ns.map V.int))) else none) (λb=>?_) (.inl (.inr ⟨{cls:=.type "list",data:=.seq vs.toArray},if_pos rfl⟩)) (λb u z=>?_) (λb z=>?_) λ_=>hk
  ·by_cases hb:b=a
   ·exact .inr ⟨_,_,if_pos hb⟩
   ·exact .inl (if_neg hb)
  ·by_cases hb:b=a
   ·have z':=(if_pos hb).symm.trans z;cases z';subst hb;exact⟨ha,by rw[b6b];exact hl,vs,_,rv,ha⟩
   ·have z':=(if_neg hb).symm.trans z;cases z'
  ·by_cases hb:b=a
   ·exact hb
   ·exact absurd (if_neg hb) z
abbrev KOf{K:PySem.W.Frag}{h:Heap}(_:K.In h):PySem.W.Frag:=K
theorem b4f{l:PySem.W.OpenLaw}{n k:Nat}{q:Program}{loose:List Str}{XP:(Str->Option Value)->Heap->Prop}{YP:World->Heap->Prop}{d:DefRec}{K:Params->PySem.W.Frag}{CX:World->CXT}{sp:World->Sp}{x:Str}
  (hn:l.most=some n)(hn2:n<=sizeLine)(hdf:d.params.defaults=[])(hr:a2I k callerA)
  (hY:∀(w:World)(h:Heap),YP w h->(K w.params).In h)
  (F:∀(w:World)(mg:Str->Option Value)(fa:Addr)(h:Heap),(K w.params).In h->h.Ns mainGlobals mg->mg d.name=some (.ref fa) ->
   ∃fd:FuncData,(∀(s:Shared)(u:Value),BindsTo s fd ⟨[u],[]⟩ [(x,u)]) /\
    ∀base:Heap,(K w.params).In base->base.Ns mainGlobals mg->a0I l.prog w (K w.params) mg base (CX w) k fa fd [x] (sp w))
  (hsp:∀(w:World)(H:Hp)(a:Addr)(ns:List Int),ns.length<=n->Only H->SqL (K w.params) H a (ns.map V.int)->sp w [.ref a] H (λv _=>v=.bl true) λ_ _ _=>False)
  (hCX:∀(w:World)(H:Hp)(s:Shared)(e:Value)(s':Shared),CX w [] H s (λ_ _ _=>False) e s'->False) :
  PySem.W.WalkO q loose XP YP l.row.toRowW d [] (λf vs=>PySem.call f vs):=by
 refine Att.a6x hn hdf λw s₀ s₁ mg mb fa o pm cd doc a vs ns G Y ho hd hcd hmg hobj hints hlen hg=>?_;have KX:=hY w _ Y;obtain⟨fd,hb,hF⟩:=F w mg fa _ KX G.T.g hmg;exact b1f KX G.T.g G.T.b G.T.builtins G.T.nolimit hg hobj hints (b6R hlen hn2) hr hF hb (λH hO hS=>hsp w H a ns hlen hO hS) λH e s'=>hCX w H s₁ e s'
def inClass(s:Stmt)(j:Nat):Stmt:=match s with
 |.ClassDef _ _ _ body _ _ _ _ _ _ _=>body.getD j (.Pass ⟨0,0,0,0⟩)
 |_=>.Pass ⟨0,0,0,0⟩
def a1C(s:Stmt):Arguments:=match s with
 |.FunctionDef _ a _ _ _ _ _ _ _ _=>a
 |_=>{posonlyargs:=[],args:=[],vararg:=none,kwonlyargs:=[],kw_defaults:=[],kwarg:=none,defaults:=[]}
def a0Q(s:Stmt):List Stmt:=match s with
 |.FunctionDef _ _ b _ _ _ _ _ _ _=>b
 |_=>[]
def a0g(s:Stmt):Scope:=match s with
 |.FunctionDef _ _ _ _ _ _ sc _ _ _=>sc
 |_=>{kind:=.function,names:=[],isGenerator:=false,isCoroutine:=false}
abbrev CX0:CXT:=λ_ _ _ _ _ _=>False
abbrev E0:XK:=λ_ _ _=>False
theorem a1g{X:Cx}:a3B CX0 X E0:=λ_ _ _ _ _ _ _ h=>h.elim
structure Fun(K:PySem.W.Frag)(x qual:Str)(st:Stmt)(f:Addr)(fd:FuncData):Prop where
 ex:∃(oc:Value)(od:Option Addr)(kV doc pm:Value)(an:Option Addr)(cdv ct:Value)(osl:Array (Option Value)),
  fd=PySem.W.fnOf x qual (a1C st) (a0Q st) (a0g st) .none kV doc pm an cdv ct/\K.lookup f=some ⟨oc,od,.func fd,osl⟩/\PySem.W.codeIn K cdv qual=true
 kp:PySem.W.keepIn K (.ref f)=true
section
variable {P:Program}{w:World}{K:PySem.W.Frag}{mg:Str->Option Value}{base:Heap}
theorem Fun.ok{x qual:Str}{st:Stmt}{f:Addr}{fd:FuncData}{N ps:List Str}{k:Nat}{sp:Sp}(F:Fun K x qual st f fd)(S:a0k N ps (a0g st))(len:∀vs H Q E,sp vs H Q E->vs.length=ps.length)
  (hbody:∀(cdv:Value)(A:Around)(outer:List Env)(s:Shared)(H:Hp)(vs:List V)(Q:VK)(E:XK),a2I k (A.deeper (envOfC qual (a0g st) s.heap.objs.size f cdv))->sp vs H Q E ->
   ∃t,PSs (b2M CX0 P w K mg base N qual (a0g st) f cdv A outer s H E).nox (a0Q st) t/\t {nx:=λ_ H'=>Q .non H',rt:=Q} (start N vs) H):a0I P w K mg base CX0 (k+1) f fd ps sp:=by
 obtain⟨oc,od,kV,doc,pm,an,cdv,ct,osl,rfl,lk,hcd⟩:=F.ex;refine fn_of lk hcd S len λA outer s H vs Q E hr hsp=>?_;obtain⟨t,h,q⟩:=hbody cdv A outer s H vs Q E hr hsp;exact⟨t,h.nox,q⟩
theorem Fun.binds{x qual:Str}{st:Stmt}{f:Addr}{fd:FuncData}{ps:List Str}(F:Fun K x qual st f fd)
  (h:∀(kV doc pm:Value)(an:Option Addr)(cdv ct:Value)(us:List Value),us.length=ps.length->bindArgs (PySem.W.fnOf x qual (a1C st) (a0Q st) (a0g st) .none kV doc pm an cdv ct) ⟨us,[]⟩=pure (ps.zip us)):a1K K fd ps []:=by
 obtain⟨oc,od,kV,doc,pm,an,cdv,ct,osl,rfl,lk,hcd⟩:=F.ex;exact .all (h kV doc pm an cdv ct)
theorem a8S{x qual:Str}{st:Stmt}{f:Addr}{oc:Value}{od an:Option Addr}{osl:Array (Option Value)}{kV doc pm cdv ct:Value}(l:K.lookup f=some ⟨oc,od,.func (PySem.W.fnOf x qual (a1C st) (a0Q st) (a0g st) .none kV doc pm an cdv ct),osl⟩)
  (c:PySem.W.codeIn K cdv qual=true)(k:PySem.W.keepIn K (.ref f)=true):Fun K x qual st f (PySem.W.fnOf x qual (a1C st) (a0Q st) (a0g st) .none kV doc pm an cdv ct):=⟨⟨oc,od,kV,doc,pm,an,cdv,ct,osl,rfl,l,c⟩,k⟩
end
theorem a0j{n:Nat}(h:n<=1000):n<sizeLine:=b9q h (by decide)
section
variable {X:Cx}
theorem pv(i:Nat){x:Str}{pos:Pos}(hN:X.N[i]?=some x:=by rfl)(hv:Vis X.env.scope x:=by first|exact Or.inl rfl|exact Or.inr (Or.inl rfl)|exact Or.inr (Or.inr rfl))(hd:(x==("__debug__":Str))=false:=by decide)
  (hcd:(x==("__classdict__":Str))=false:=by decide):PE X (.Name x pos) (b3Q i):=pe_var hN hv hd hcd
end
theorem a1q{A B:Prop}(h:B):if false=true then A else B:=by
 rw[if_neg b6u];exact h
theorem a4S{A B:Prop}(h:A):if true=true then A else B:=by
 rw[if_pos rfl];exact h
theorem a2c{c A B:Prop}[Decidable c](h1:c->A)(h2:¬c->B):if c then A else B:=by
 by_cases h:c
 ·rw[if_pos h];exact h1 h
 ·rw[if_neg h];exact h2 h
theorem iteNS{c A B:Prop}[Decidable c](hc:c)(h:B):if (!decide c)=true then A else B:=by
 rw[b6i hc];exact a1q h
def a0r(H H':Hp):Prop:=∀b o,H b=some o->H' b=some o
theorem a0r.refl(H:Hp):a0r H H:=λ_ _ h=>h
theorem a0r.trans{H H1 H2:Hp}(a:a0r H H1)(b:a0r H1 H2):a0r H H2:=λc o h=>b c o (a c o h)
theorem a0r.free{H H':Hp}(e:a0r H H'){l:Addr}(h:H' l=Option.none):H l=Option.none:=by
 cases q:H l with
 |none=>rfl
 |some o=>
  rw[e l o q] at h;cases h
theorem a0r.seq{K:PySem.W.Frag}{H H':Hp}{a:Addr}{xs:List V}(e:a0r H H')(h:SqL K H a xs):SqL K H' a xs:=by
 rcases h with (h|⟨o,h⟩)|h
 ·exact .inl (.inl (e _ _ h))
 ·exact .inl (.inr ⟨o,e _ _ h⟩)
 ·exact .inr h
section
variable {prog:Program}{w:World}{A:Around}{R:Result->Shared->Prop}{s:Shared}
abbrev a8T(cs:List Expr)(en:Env):Sem Bool:=
 forIn cs true λc r=>if r=true then do let ok <-isTrue c en (eval c en);pure (ForInStep.yield ok) else pure (ForInStep.yield r)
theorem a7W{pos:Pos}(hE:EE=notedBy (model prog w) A en λe s'=>R (.error e) s')(J:Nat->Shared->Prop)
  (turn:∀n s,J n s->wpAny (model prog w) A (pyNext it) (λr s1=>match r with
   |none=>R (.ok .next) s1
   |some v=>wpAny (model prog w) A (letOwnedTupleGo tg it v) (λ_ sg=>wpAny (model prog w) A (assign tg en v) (λ_ s2=>wpAny (model prog w) A (a8T cs en) (λok s3=>
     if ok=true then wpAny (model prog w) A (eval elt en) (λy s4=>wpAny (model prog w) A (call (.builtin "list.append") [acc,y]) (λ_ s5=>∃m,m<n/\J m s5) EE s4) EE s3
     else ∃m,m<n/\J m s3) EE s2) EE sg) EE s1) EE s)
  (n:Nat)(h:J n s):codeAny (model prog w) A (.compLoop (.ListComp elt [⟨tg,iter,cs,0⟩] scope pos) 0 it acc en) R s:=by
 subst hE;refine codeAny_loop rfl J (λn s hJ=>?_) n h;show wpAny _ A (Sem.onRaise (compTurn (.ListComp elt [⟨tg,iter,cs,0⟩] scope pos) 0 it acc en) (λx=>do noteFrame x en;theTreesLotGoes x)) _ _ s;refine wpAny_noted ?_;rw[compTurn_list];refine b6c (c0z (b6c (thn (turn n s hJ) λr s1 q1=>?_)));cases r with
 |none=>exact b6j q1
 |some v=>
  refine b6c (thn q1 λ_ sg qg=>b6c (thn qg λ_ s2 q2=>b6c (thn q2 λok s3 q3=>?_)));cases ok with
  |false=>exact b6j ⟨rfl,q3⟩
  |true=>exact b6c (b6c (thn q3 λy s4 q4=>b6c (thn q4 λ_ s5 q5=>b6j (b6j ⟨rfl,q5⟩))))
end
def PTs(X:Cx)(cs:List Expr)(t:TT):Prop:=
 ∀(pins:List (Addr×Obj))(s:Shared)(σ:St)(H:Hp)(Q:Bool->Hp->Prop),Inv X pins σ H s->t σ H Q->wpAny (model X.prog X.w) X.A (a8T cs X.env) (TP X pins σ Q) X.xe s
def a8U:TT:=λ_ H Q=>Q true H
theorem a0v:PTs X [] a8U:=λ_ _ _ H _ I h=>wpAny_tests_nil ⟨H,I,h⟩
theorem a6y{t:TT}(h:PT X c t):PTs X [c] t:=λpins s σ H Q I q=>wpAny_tests_one (h pins s σ H Q I q)
theorem a2l:∀(names:List (Str×NameKind))(acc:List (Str×Addr)),(∀y,(y,NameKind.free)∈names->∃c,en.cells.lookup y=some c) ->
  (∀y c,acc.lookup y=some c->en.cells.lookup y=some c) ->
  ∃cl,(forIn (m:=Sem) names acc λp cs=>if (p.2==.free)=true then (do let a <-cellOf en p.1;pure (ForInStep.yield ((p.1,a)::cs))) else pure (ForInStep.yield cs))=pure cl /\
   (∀y c,cl.lookup y=some c->en.cells.lookup y=some c)/\(∀y,((y,NameKind.free)∈names\/∃c,acc.lookup y=some c)->∃c,cl.lookup y=some c)
 |[],acc,_,h2=>⟨acc,rfl,h2,λy h=>h.elim (λz=>by simp at z) id⟩
 |(n,k)::r,acc,h1,h2=>by
  by_cases hk:k=.free
  ·subst hk;obtain⟨c,hc⟩:=h1 n (by simp);obtain⟨cl,e,a,b⟩:=a2l r ((n,c)::acc) (λy hy=>h1 y (b7g _ hy)) (λy d hd=>by
    rw[b7G] at hd;by_cases hy:y=n
    ·subst hy;simp at hd;subst hd;exact hc
    ·have:(y==n)=false:=by simpa using hy
     rw[this] at hd;exact h2 y d hd)
   refine⟨cl,?_,a,λy hy=>b y ?_⟩
   ·rw[b9U];have e1:cellOf en n=pure c:=by unfold cellOf;rw[hc]
    simp only[c0E,if_true,e1,pure_bind];exact e
   ·rcases hy with hy|⟨d,hd⟩
    ·rcases b6D.mp hy with z|z
     ·cases z;exact .inr ⟨c,by simp⟩
     ·exact .inl z
    ·by_cases hy:y=n
     ·subst hy;exact .inr ⟨c,by simp⟩
     ·have:(y==n)=false:=by simpa using hy
      exact .inr ⟨d,by rw[b7G,this];exact hd⟩
  ·have hb:(k==NameKind.free)=false:=by simpa using hk
   obtain⟨cl,e,a,b⟩:=a2l r acc (λy hy=>h1 y (b7g _ hy)) h2;refine⟨cl,?_,a,λy hy=>b y ?_⟩
   ·rw[b9U];simp only[hb,c0l,c0R,pure_bind];exact e
   ·rcases hy with hy|hy
    ·rcases b6D.mp hy with z|z
     ·cases z;exact absurd rfl hk
     ·exact .inl z
    ·exact .inr hy
theorem a7X(h1:∀y,(y,NameKind.free)∈scope.names->∃c,en.cells.lookup y=some c) :
  ∃cl,closureFor scope en=pure cl/\(∀y c,cl.lookup y=some c->en.cells.lookup y=some c)/\(∀y,(y,NameKind.free)∈scope.names->∃c,cl.lookup y=some c):=by
 obtain⟨cl,e,a,b⟩:=a2l (en:=en) scope.names [] h1 (λy c h=>by simp at h);refine⟨cl,?_,a,λy hy=>b y (.inl hy)⟩;have q:=b7d (λt:Sem (List (Str×Addr))=>t >>= λc=>pure c) e;exact q
def xeC(X:Cx)(en:Env)(C:Addr):Value->Shared->Prop:=
 notedBy (model X.prog X.w) X.A en λe s'=>compPost (model X.prog X.w) X.A X.xe none (λ_ _=>False) Value.none C (.error e) s'
def cxC(X:Cx)(scope:Scope)(cl:List (Str×Addr))(C:Addr)(s0:Shared)(H0:Hp)(fp:List Addr)(N:List Str):Cx where
 prog:=X.prog
 w:=X.w
 K:=X.K
 mg:=X.mg
 base:=X.base
 A:=X.A
 N:=N
 s₀:=s0
 H₀:=H0
 env:=compEnvC scope cl C X.env
 outer:=X.stack
 stack:=X.stack
 ex:=fp
 fn:=λ_=>false
 calm:=X.calm
 pn:=[]
 xe:=xeC X (compEnvC scope cl C X.env) C
structure a0x(scope:Scope)(en:Env)(N M:List Str):Prop where
 kind:scope.kind=.function
 nocell:∀y∈scope.names,y.2≠.cell
 locs:∀y∈scope.names,y.2=.local->scope.names.lookup y.1=some .local
 free:∀y,(y,NameKind.free)∈scope.names->en.kindOf y=some .cell\/en.kindOf y=some .free
 len:M.length=N.length
 same:∀(j:Nat)(y:Str),M[j]?=some y->Vis (relabel scope en) y->N[j]?=some y/\(y,NameKind.free)∈scope.names/\(relabel scope en).names.lookup y≠some .local
 relab:∀y,((relabel scope en).names.lookup y=some .cell\/(relabel scope en).names.lookup y=some .free)->(y,NameKind.free)∈scope.names
def a7Y(k:Nat)(wi:TI)(g:TG)(tc:TT)(te:TE):TE:=λσ H Q=>wi σ H λJ H1=>∀d,H1 d=none->∃W:Nat->Nat->Hp->Prop,(∃m,W 0 m (upd H1 d (.lst [])))/\∀i m H,W i m H ->
 (J.stop i H/\Q (.ref d) H)\/(J.go i H/\∃N:Hp->Prop,(∀H',N H'->∃m',m'<m/\W (i+1) m' H')/\∀x H',J.yld i H x H'->g x (List.replicate k none++σ) H' λσ2 H2=>
  tc σ2 H2 λb H3=>if b=true then te σ2 H3 λy H4=>∃ys,H4 d=some (.lst ys)/\ys.length<sizeLine/\N (upd H4 d (.lst (ys++[y]))) else N H3)
structure Gone(X:Cx)(pins:List (Addr×Obj))(H:Hp)(C:Addr):Prop where
 no:H C=none
 ne:C≠X.env.locals
 yg:X.s₀.heap.objs.size<=C
 cl:∀x c,X.env.cells.lookup x=some c->c≠C
 pn:∀p∈X.pn++pins,p.1≠C
theorem Inv.gone{s:Shared}(I:Inv X pins σ H s)(g:Gone X pins H C)(hs:Heap.SameBut C s.heap h'):Inv X pins σ H {s with heap:=h' }:=
 I.turned (t':=s.toks) (it:=C) (λb o hb e=>hs.extBut b o hb e) g.no g.ne (.inr g.yg) g.cl g.pn
structure Back(X Y:Cx)(pins:List (Addr×Obj))(σ:St)(fp:List Addr)(C:Addr)(s3:Shared)(H3:Hp):Prop where
 i0:Inv X pins σ H3 s3
 fp:∀b∈fp,(b∈X.ex\/X.s₀.heap.objs.size<=b)/\b≠X.env.locals/\(∀x c,X.env.cells.lookup x=some c->c≠b)/\∀p∈X.pn++pins,p.1≠b
 inv:∀(pins':List (Addr×Obj))(σ':St)(H':Hp)(s':Shared),Inv Y pins' σ' H' s'->Inv X pins σ H' s'/\Gone X pins H' C
theorem a4T{pos:Pos}(hc:X.calm=true)(S:a0x scope X.env X.N M)(hi:PI X tg iter wi)
  (hin:∀(cl:List (Str×Addr))(C:Addr)(s0:Shared)(H0:Hp)(fp:List Addr)(pins:List (Addr×Obj))(σ:St),Back X (cxC X scope cl C s0 H0 fp (xs++M)) pins σ fp C s0 H0->PG (cxC X scope cl C s0 H0 fp (xs++M)) tg g/\PTs (cxC X scope cl C s0 H0 fp (xs++M)) cs tc/\PE (cxC X scope cl C s0 H0 fp (xs++M)) elt te)
  (hg:∀v σ H Q,g v (List.replicate xs.length none++σ) H Q->g v (List.replicate xs.length none++σ) H λσ2 H2=>(∃l:St,l.length=xs.length/\σ2=l++σ)/\Q σ2 H2)
  (hs:∀x,foldedSetIterable iter X.env x=pure x)(pins:List (Addr×Obj))(s:Shared)(σ:St)(H:Hp)(Q:VK)(I:Inv X pins σ H s)(h:a7Y xs.length wi g tc te σ H Q)
  (fin:∀(d C:Addr)(s6:Shared)(H6:Hp)(m:Str->Option Value),Q (.ref d) H6->Inv X pins σ H6 s6->s6.heap.Ns C m->Gone X pins H6 C->compPost (model X.prog X.w) X.A X.xe use RR (.ref d) C (.ok .next) s6) :
  wpAny (model X.prog X.w) X.A (comprehension (.ListComp elt [⟨tg,iter,cs,0⟩] scope pos) scope X.env (firstIterPos [⟨tg,iter,cs,0⟩] pos) (newList []) false (eval iter X.env) use) RR X.xe s:=by
 obtain⟨cl,hcl,cl1,cl2⟩:=a7X (scope:=scope) (en:=X.env) λy hy=>I.ok.has y (S.free y hy);refine wpAny_comprehension_free (use:=use) rfl hs hcl S.kind S.locs (thn (hi pins s σ H _ I h) λv s1 h1=>thn h1 λitv s2 h2=>?_);obtain⟨it,fp,tn,J,H2,e,I2,T,st2,f2,h3⟩:=h2;subst e;have hf:H2 s2.heap.objs.size=none:=I2.fresh;obtain⟨W,⟨m0,w0⟩,turn⟩:=h3 _ hf;refine b7l (wpAny_newFunctionEnv S.nocell (by intro y hy;simp at hy) (λh4 hns hsb=>?_) S.kind);have I3:Inv X pins σ (upd H2 s2.heap.objs.size (.lst [])) {s2 with heap:=s2.heap.push {cls:=.type "list",data:=.seq ([]:List Value).toArray}}:=I2.lnew (ys:=[]) (its:=[]) (t':=s2.toks) .nil (b6O _);generalize hs3:({s2 with heap:=s2.heap.push {cls:=.type "list",data:=.seq ([]:List Value).toArray}}:Shared)=s3 at I3;generalize hH3:upd H2 s2.heap.objs.size (.lst [])=H3 at I3 w0;have e3:s2.heap.push {cls:=.type "list",dict:=none,data:=.seq ([]:List Value).toArray}=s3.heap:=by rw[<-hs3]
 dsimp only at hns hsb ⊢;rw[e3] at hns hsb;have old:∀b o,s3.heap.get? b=some o->h4.get? b=some o:=λb o e=>hsb.extBut b o (b6L (b6t e)) (b6e _ e);have keep2:∀b o,s2.heap.get? b=some o->s3.heap.get? b=some o:=λb o e=>by rw[<-e3];exact b6e _ e
 have lt3:∀b∈fp,b<s3.heap.objs.size:=λb hb=>by
  obtain⟨o,e,_⟩:=T.obj _ _ st2 b hb;exact b6t (keep2 b o e)
 have n3:∀b∈fp,H3 b=none:=λb hb=>by
  obtain⟨o,e,_⟩:=T.obj _ _ st2 b hb;rw[<-hH3,a0i (b6L (b6t e))];exact(f2 b hb).1
 have st4:tn 0 h4:=T.keep _ _ _ st2 λb _ o e=>old b o (keep2 b o e)
 let Y:Cx:=cxC X scope cl s3.heap.objs.size s3 H3 fp (xs++M)
 have relab:∀y,((relabel scope X.env).names.lookup y=some .cell\/(relabel scope X.env).names.lookup y=some .free)->∃c,cl.lookup y=some c:=λy hy=>cl2 y (S.relab y hy);have Yok:Y.Ok:=by
  refine⟨I3.ok.mod,S.kind,I3.ok.glob,I3.ok.blt,b6k _,λy z c h1 h2=>I3.ok.inj y z c (cl1 y c h1) (cl1 z c h2),λy hy=>relab y hy,λ_ _ h _=>absurd (show false=true from h) (by decide),I3.ok.hd,I3.ok.frames,.inl rfl,
   λb hb=>⟨b6L (lt3 b hb),λy c e=>(f2 b hb).2.2.2.2.1 y c (cl1 y c e)⟩,I3.bs,b6R I3.ok.bsz I3.sz,λb o e hb=>?_,λb hb z=>?_,I3.stack,I3.stkFree⟩
  ·rcases(f2 b hb).2.2.2.1 with z|z
   ·exact I3.ok.noex b o e z
   ·exact absurd (b6P (b6t e) (b6R I3.ok.bsz z)) (b7y _)
  ·rcases b6D.mp (I3.stkSub b z) with z|z
   ·exact(f2 b hb).2.1 z
   ·exact(f2 b hb).2.2.1 z
 have cells4:∀y c,cl.lookup y=some c->∀v,s3.heap.IsCell c v->h4.IsCell c v:=λy c _ v ⟨o,ho,hd⟩=>⟨o,old c o ho,hd⟩
 have IY:∀t',Inv Y [] (List.replicate xs.length none++σ) H3 {s3 with heap:=h4,toks:=t' }:=λt'=>by
  refine⟨Yok,rfl,I3.bare,Un.kept old,⟨_,hns,λi y v e1 e2 e3=>?_⟩,λy c e=>?_,I3.hok.fresh (b6k _),λy c e=>I3.freeC y c (cl1 y c e),λp hp=>absurd (show p∈([]:List (Addr×Obj)) from hp) (by simp),I3.hok.kept old,?_⟩
  ·by_cases hi:i<xs.length
   ·rw[b7D (by simpa using hi),b8F] at e2;split at e2<;>cases e2
   ·obtain⟨j,rfl⟩:∃j,i=xs.length+j:=⟨i-xs.length,by grind⟩
    have e1':M[j]?=some y:=by
     have q:(xs++M)[xs.length+j]?=some y:=e1;rw[b6U (b9L _ _)] at q;simpa using q
    have e2':σ[j]?=some (some v):=by
     rw[b6U (by simp)] at e2;simpa using e2
    obtain⟨a1,a2,a3⟩:=S.same j y e1' e3;have vis:Vis X.env.scope y:=by
     rcases S.free y a2 with z|z
     ·exact .inr (.inl z)
     ·exact .inr (.inr z)
    obtain⟨m,_,hl⟩:=I3.loc;obtain⟨u,r,l⟩:=hl j y v a1 e2' vis;refine⟨u,r,?_⟩;have kk:Y.env.kindOf y=some .cell\/Y.env.kindOf y=some .free:=by
     rcases e3 with z|z|z
     ·exact absurd z a3
     ·exact .inl z
     ·exact .inr z
    rcases l with ⟨k1,_⟩|⟨_,c,ec,ic⟩
    ·rcases S.free y a2 with z|z
     ·rw[z] at k1;cases k1
     ·rw[z] at k1;cases k1
    ·obtain⟨c',ec'⟩:=cl2 y a2;have:=cl1 y c' ec';rw[ec] at this;cases this;exact .inr ⟨kk,c,ec',cells4 y c ec' _ ic⟩
  ·obtain⟨v,z⟩:=I3.cell y c (cl1 y c e);exact⟨v,cells4 y c e v z⟩
  ·show(List.replicate xs.length none++σ).length=(xs++M).length;rw[b6o,b6o,b7o,S.len,I3.len]
 have stat:∀{pl:List (Addr×Obj)}{H':Hp},(∀p∈pl,p.1∉fp)->(∀b∈fp,H' b=none)->∀b∈fp,b0P Y pl H' b:=λhp hn b hb=>
  ⟨hn b hb,b6L (lt3 b hb),Yok.exfs b hb,.inl hb,λy c e=>(f2 b hb).2.2.2.2.1 y c (cl1 y c e),λp hp' z=>hp p (by simpa [Y,cxC] using hp') (z▸hb)⟩
 have bk:Back X Y pins σ fp s3.heap.objs.size s3 H3:=by
  refine⟨I3,λb hb=>⟨(f2 b hb).2.2.2.1,(f2 b hb).2.1,(f2 b hb).2.2.2.2.1,(f2 b hb).2.2.2.2.2⟩,λpins' σ' H' s' J=>⟨?_,?_⟩⟩
  ·exact I3.call' (ch:=fp) J.os J.base J.hok J.bare λb hb=>⟨(f2 b hb).2.2.2.1,(f2 b hb).2.1,(f2 b hb).2.2.2.2.1,(f2 b hb).2.2.2.2.2⟩
  ·refine⟨J.free,b7Y I3.lt,I3.sz,λy c e z=>?_,λp hp z=>?_⟩
   ·obtain⟨v,q⟩:=I3.cell y c e;have:=q.lt;rw[z] at this;exact b7y _ this
   ·have:=b6t (I3.pin p hp).1;rw[z] at this;exact b7y _ this
 obtain⟨hG,hT,hE⟩:=hin cl s3.heap.objs.size s3 H3 fp pins σ bk;have loop:∀t',codeAny (model X.prog X.w) X.A (.compLoop (.ListComp elt [⟨tg,iter,cs,0⟩] scope pos) 0 (.ref it) (.ref s2.heap.objs.size) Y.env) (compPost (model X.prog X.w) X.A X.xe use RR (.ref s2.heap.objs.size) s3.heap.objs.size) {s3 with heap:=h4,toks:=t' }:=by
  intro t';refine a7W (EE:=Y.xe) (by cases use<;>rfl) (λn s'=>∃i H',Inv Y [] (List.replicate xs.length none++σ) H' s'/\tn i s'.heap/\(∀b∈fp,H' b=none)/\W i n H') ?_ m0 ⟨0,H3,IY t',st4,n3,w0⟩;rintro n s5 ⟨i,H5,I5,st5,fr5,w5⟩;rcases turn i n H5 w5 with ⟨stop,qn⟩|⟨go,N,hN,step⟩
  ·refine thn (T.done Y rfl rfl rfl hc i [] s5 (List.replicate xs.length none++σ) H5 _ I5 (stat (by simp) fr5) st5 stop) λr s6 ⟨hr,I6⟩=>?_;subst hr;obtain⟨m6,hn6,_⟩:=I6.loc;have I8:Inv X pins σ H5 s6:=I3.call' (ch:=fp) I6.os I6.base I6.hok I6.bare λb hb=>⟨(f2 b hb).2.2.2.1,(f2 b hb).2.1,(f2 b hb).2.2.2.2.1,(f2 b hb).2.2.2.2.2⟩
   have lt8:X.env.locals<s3.heap.objs.size:=I3.lt;refine fin _ _ s6 H5 m6 qn I8 hn6 ⟨I6.free,b7Y lt8,I3.sz,λy c e z=>?_,λp hp z=>?_⟩
   ·obtain⟨v,q⟩:=I3.cell y c e;have:=q.lt;rw[z] at this;exact b7y _ this
   ·have:=b6t (I3.pin p hp).1;rw[z] at this;exact b7y _ this
  ·refine thn (T.item Y rfl rfl rfl hc i [] s5 (List.replicate xs.length none++σ) H5 _ I5 (stat (by simp) fr5) st5 go) λr s6 ⟨u,hr,h6⟩=>?_;subst hr;refine thn h6 λ_ s7 ⟨x7,H7,I7,r7,y7,st7,fr7⟩=>?_;have I7':=I7.pinned (stat (by simp) fr7) (T.obj _ _ st7);have again:∀{σ8:St}{H8:Hp}{s8:Shared},(∃l:St,l.length=xs.length/\σ8=l++σ)->Inv Y ([]++a5x fp s7.heap) σ8 H8 s8->N H8->∃m,m<n/\∃i H',Inv Y [] (List.replicate xs.length none++σ) H' s8/\tn i s8.heap/\(∀b∈fp,H' b=none)/\W i m H':=λ{σ8 H8 s8} l8 I8 n8=>by
    obtain⟨m',hm,w8⟩:=hN H8 n8;obtain⟨l,ll,rfl⟩:=l8;have pin8:∀b∈fp,∀o,s7.heap.get? b=some o->s8.heap.get? b=some o/\H8 b=none:=λb hb o e=>by
     have z:=I8.pin (b,o) (b6M _ (b6M _ (a3a hb e)));exact⟨z.1,z.2.1⟩
    refine⟨m',hm,i+1,H8,I8.unpinned.weak (by simp[ll]) (λj v e=>?_),T.keep _ _ _ st7 λb hb o e=>(pin8 b hb o e).1,λb hb=>?_,w8⟩
    ·by_cases hj:j<xs.length
     ·rw[b7D (by simpa using hj),b8F] at e;split at e<;>cases e
     ·rw[b6U (by simpa using hj)] at e;rw[b6U (by lia),ll];simpa using e
    ·obtain⟨o,e,_⟩:=T.obj _ _ st7 b hb;exact(pin8 b hb o e).2
   refine thn (hG _ s7 (List.replicate xs.length none++σ) H7 x7 u _ I7' r7 (hg _ _ _ _ (step x7 H7 y7))) λ_ s8 ⟨σ8,H8,I8,l8,q8⟩=>?_;refine thn (hT _ s8 σ8 H8 _ I8 q8) λok s9 ⟨H9,I9,q9⟩=>?_;cases ok with
   |false=>exact again l8 I9 q9
   |true=>
    refine thn (hE _ s9 σ8 H9 _ I9 q9) λy s10 ⟨y10,H10,I10,r10,ys,hd,hl,n10⟩=>?_;refine thn (a1b _ s10 σ8 H10 (.ref s2.heap.objs.size) [y10] (.ref s2.heap.objs.size) [y] (λ_ H'=>N H') I10 rfl (.cons r10 .nil) ⟨_,ys,y10,rfl,rfl,hd,hl,n10⟩) λ_ s11 ⟨_,H11,I11,_,n11⟩=>?_;exact again l8 I11 n11
 refine codeAny_compStart_list (loop _) (T.self _ 0 _ _ _ st4 (loop _))
theorem b4g{pos:Pos}(hc:X.calm=true)(S:a0x scope X.env X.N M)(hi:PI X tg iter wi)
  (hin:∀(cl:List (Str×Addr))(C:Addr)(s0:Shared)(H0:Hp)(fp:List Addr),PG (cxC X scope cl C s0 H0 fp (xs++M)) tg g/\PTs (cxC X scope cl C s0 H0 fp (xs++M)) cs tc/\PE (cxC X scope cl C s0 H0 fp (xs++M)) elt te)
  (hg:∀v σ H Q,g v (List.replicate xs.length none++σ) H Q->g v (List.replicate xs.length none++σ) H λσ2 H2=>(∃l:St,l.length=xs.length/\σ2=l++σ)/\Q σ2 H2)
  (hs:∀x,foldedSetIterable iter X.env x=pure x:=by intro _;rfl):PE X (.ListComp elt [⟨tg,iter,cs,0⟩] scope pos) (a7Y xs.length wi g tc te):=by
 intro pins s σ H Q I h;rw[eval_ListComp];exact a4T (use:=none) hc S hi (λcl C s0 H0 fp _ _ _=>hin cl C s0 H0 fp) hg hs pins s σ H Q I h λd C s6 H6 m q I6 hn gn=>⟨m,hn,λh' hs'=>⟨.ref d,H6,I6.gone gn hs',rfl,q⟩⟩
theorem a8V{pos pos' spos:Pos}(hc:X.calm=true)(S:a0x scope X.env X.N M)(hi:PI X tg iter wi)
  (hin:∀(cl:List (Str×Addr))(C:Addr)(s0:Shared)(H0:Hp)(fp:List Addr),PG (cxC X scope cl C s0 H0 fp (xs++M)) tg g/\PTs (cxC X scope cl C s0 H0 fp (xs++M)) cs tc/\PE (cxC X scope cl C s0 H0 fp (xs++M)) elt te)
  (hg:∀v σ H Q,g v (List.replicate xs.length none++σ) H Q->g v (List.replicate xs.length none++σ) H λσ2 H2=>(∃l:St,l.length=xs.length/\σ2=l++σ)/\Q σ2 H2)
  (hN:X.N.Nodup)(hix:X.N[i]?=some x)(hx:X.env.scope.names.lookup x=some .local)(hw:swapsWith (.ListComp elt [⟨tg,iter,cs,0⟩] scope pos) (some (.Name x pos')) spos.line X.env=pure true)
  (hs:∀x,foldedSetIterable iter X.env x=pure x:=by intro _;rfl):PS X (.Assign [.Name x pos'] (.ListComp elt [⟨tg,iter,cs,0⟩] scope pos) spos) (b0O (a7Y xs.length wi g tc te) (a1B i)):=by
 intro pins s σ H D I h;rw[exec_Assign_Name_used _ _ _ _ hw];refine b6c (c0z (b6c ?_));show wpAny _ X.A (comprehension (.ListComp elt [⟨tg,iter,cs,0⟩] scope pos) scope X.env _ (newList []) false (eval iter X.env) (some (assign (.Name x pos') X.env)) >>= λ_=>pure ()) _ _ s;refine b6c (thn (a4T (use:=some (assign (.Name x pos') X.env)) (RR:=λ_ s'=>SP X pins D .next s') hc S hi (λcl C s0 H0 fp _ _ _=>hin cl C s0 H0 fp) hg hs pins s σ H _ I h λd C s6 H6 m q I6 hn gn=>?_) λ_ s' hq=>b6j (b6j hq));show wpAny _ X.A (assign (.Name x pos') X.env (.ref d)) _ _ s6;refine wpAny_assign_Name (a5u I6 hN hix (.inl hx) (v:=.ref d) rfl (λs7 I7 ch=>?_) (.inr hx));obtain⟨a,hsb,ha⟩:=ch;have ne:C≠a:=by
  rcases ha with z|z
  ·rw[z];exact gn.ne
  ·exact λz'=>gn.cl x a z z'.symm
 exact⟨m,hn.sameBut hsb ne,λh' hs'=>⟨_,H6,I7.gone gn hs',q⟩⟩
theorem b1g{pos:Pos}(hc:X.calm=true)(S:a0x scope X.env X.N M)(hi:PI X tg iter wi)
  (hin:∀(cl:List (Str×Addr))(C:Addr)(s0:Shared)(H0:Hp)(fp:List Addr)(pins:List (Addr×Obj))(σ:St),Back X (cxC X scope cl C s0 H0 fp (xs++M)) pins σ fp C s0 H0->PG (cxC X scope cl C s0 H0 fp (xs++M)) tg g/\PTs (cxC X scope cl C s0 H0 fp (xs++M)) cs tc/\PE (cxC X scope cl C s0 H0 fp (xs++M)) elt te)
  (hg:∀v σ H Q,g v (List.replicate xs.length none++σ) H Q->g v (List.replicate xs.length none++σ) H λσ2 H2=>(∃l:St,l.length=xs.length/\σ2=l++σ)/\Q σ2 H2)
  (hs:∀x,foldedSetIterable iter X.env x=pure x:=by intro _;rfl):PE X (.ListComp elt [⟨tg,iter,cs,0⟩] scope pos) (a7Y xs.length wi g tc te):=by
 intro pins s σ H Q I h;rw[eval_ListComp];exact a4T (use:=none) hc S hi hin hg hs pins s σ H Q I h λd C s6 H6 m q I6 hn gn=>⟨m,hn,λh' hs'=>⟨.ref d,H6,I6.gone gn hs',rfl,q⟩⟩
structure EqK{α:Type}[DecidableEq α](H:Hp)(s:Shared)(n:Nat)(R:V->α->Prop):Prop where
 inj:∀x a b,R x a->R x b->a=b
 eq:∀(A:Around)(x y:V)(a b:α)(u v:Value),A.units+n<cLine->R x a->R y b->a1h x u->a1h y v->SeqAt.EqAt A s u v (decide (a=b))
def a8W(x:V)(i:Int):Prop:=x=.int i
def b4h{α:Type}(H:Hp)(R:V->α->Prop)(x:V)(ds:List α):Prop:=∃a xs,x=.ref a/\H a=some (.tup xs)/\Paired R xs ds
def RLst{α:Type}(H:Hp)(R:V->α->Prop)(x:V)(ds:List α):Prop:=∃a xs,x=.ref a/\H a=some (.lst xs)/\Paired R xs ds
def ROpt{α:Type}(R:V->α->Prop)(x:V):Option α->Prop
 |none=>x=.non
 |some d=>R x d/\∃a,x=.ref a
theorem all_eq{α:Type}[DecidableEq α]:∀(as bs:List α)(e:Nat->Bool),(∀j x y,as[j]?=some x->bs[j]?=some y->e j=decide (x=y)) ->
  ((List.range (min as.length bs.length)).all e&&as.length==bs.length)=decide (as=bs):=by
 intro as bs e h;rw[b8j];simp only[b6Y,b7i,b6V,b9C,b7m];constructor
 ·rintro⟨h1,h2⟩;refine b8W λj=>?_;by_cases hj:j<as.length
  ·have e1:as[j]?=some as[j]:=b6f hj;have e2:bs[j]?=some (bs[j]'(by lia)):=b6f (by omega);have q:=h1 j (by lia);rw[h j _ _ e1 e2] at q;rw[e1,e2,b6B q]
  ·rw[b8a (by lia),b8a (by lia)]
 ·rintro rfl;refine⟨λj hj=>?_,rfl⟩;have hj:j<as.length:=by lia
  have e1:as[j]?=some as[j]:=b6f hj;rw[h j _ _ e1 e1];simp
theorem Paired.right_of{α β:Type}{R:α->β->Prop}:∀{xs:List α}{ds:List β},Paired R xs ds->∀(j:Nat)(x:α),xs[j]?=some x->∃d,ds[j]?=some d/\R x d
 |_,_,.nil,j,x,e=>by simp at e
 |_,_,.cons r t,0,x,e=>by simp at e;subst e;exact⟨_,rfl,r⟩
 |_,_,.cons r t,j+1,x,e=>by
  obtain⟨d,e1,e2⟩:=Paired.right_of t j x (by simpa using e);exact⟨d,by simpa using e1,e2⟩
theorem Paired.inj{α β:Type}{R:α->β->Prop}(h:∀x a b,R x a->R x b->a=b):∀{xs:List α}{ds es:List β},Paired R xs ds->Paired R xs es->ds=es
 |_,_,_,.nil,.nil=>rfl
 |_,_,_,.cons r t,.cons r' t'=>by rw[h _ _ _ r r',Paired.inj h t t']
theorem Paired.ints:∀ns:List Int,Paired a8W (ns.map V.int) ns
 |[]=>.nil
 |n::ns=>.cons rfl (Paired.ints ns)
theorem Paired.ofInts:∀{xs:List V}{ns:List Int},Paired a8W xs ns->xs=ns.map V.int
 |_,_,.nil=>rfl
 |_,_,.cons r t=>by rw[show _=_ from r,Paired.ofInts t];rfl
theorem a3F{H:Hp}{a:Addr}{ns:List Int}(h:H a=some (.tup (ns.map V.int))):b4h H a8W (.ref a) ns:=⟨a,_,rfl,h,Paired.ints ns⟩
section
variable {α:Type}[DecidableEq α]{P:Program}{w:World}{H:Hp}{s:Shared}{n:Nat}{R:V->α->Prop}{A:Around}
theorem EqK.int:EqK H s n a8W:=⟨λx a b h1 h2=>by unfold a8W at *;rw[h1] at h2;cases h2;rfl,λA x y a b u v _ h1 h2 r1 r2=>by
 unfold a8W at *
 subst h1 h2;obtain⟨t,rfl⟩:=r1;obtain⟨t',rfl⟩:=r2;have q:=c0k (A:=A) (s:=s) a t b t';rw[b8O] at q;exact q⟩
theorem a4U(K:EqK H s n R){xs ys:List V}{ds es:List α}{its its2:List Value}(p1:Paired R xs ds)(p2:Paired R ys es)(v1:a0P xs its)(v2:a0P ys its2)(hA:A.units+n<cLine) :
  ∃e:Nat->Bool,(∀j (h1:j<its.toArray.size)(h2:j<its2.toArray.size),SeqAt.EqAt A s its.toArray[j] its2.toArray[j] (e j))/\((List.range (min its.toArray.size its2.toArray.size)).all e&&its.toArray.size==its2.toArray.size)=decide (ds=es):=by
 have l1:its.toArray.size=ds.length:=by rw[b6n,<-v1.length];exact p1.length
 have l2:its2.toArray.size=es.length:=by rw[b6n,<-v2.length];exact p2.length
 refine⟨λj=>match ds[j]?,es[j]? with|some d,some e=>decide (d=e)|_,_=>true,λj h1 h2=>?_,?_⟩
 ·have hx:xs[j]?=some (xs[j]'(by rw[v1.length];simpa using h1)):=b6f _;have hy:ys[j]?=some (ys[j]'(by rw[v2.length];simpa using h2)):=b6f _;obtain⟨d,e1,r1⟩:=Paired.right_of p1 j _ hx;obtain⟨e,e2,r2⟩:=Paired.right_of p2 j _ hy;obtain⟨u,e3,r3⟩:=v1.get hx;obtain⟨v,e4,r4⟩:=v2.get hy;have q3:its.toArray[j]=u:=by
   have:=(b6d.mp e3).2;simpa using this
  have q4:its2.toArray[j]=v:=by
   have:=(b6d.mp e4).2;simpa using this
  simp only[e1,e2,q3,q4];exact K.eq A _ _ d e u v hA r1 r2 r3 r4
 ·rw[l1,l2];exact all_eq ds es _ λj x y h1 h2=>by simp only[h1,h2]
theorem a8X(K:EqK H s n R)(ok:HOk P w H s.heap){a b:Addr}{xs ys:List V}{ds es:List α}(ha:H a=some (.tup xs))(hb:H b=some (.tup ys))(p1:Paired R xs ds)(p2:Paired R ys es)(hA:A.units+(n+1)<cLine) :
  SeqAt.RcAt A s (.ref a) (.ref b) (decide (ds=es)):=by
 obtain⟨_,its,v1,t1⟩:=ok a _ ha;obtain⟨_,its2,v2,t2⟩:=ok b _ hb;obtain⟨e,h1,h2⟩:=a4U (A:=A.in1) K p1 p2 v1 v2 (by show A.units+1+n<cLine;lia);rw[<-h2];exact SeqAt.RcAt.tuples t1 t2 (by lia) h1
theorem a1R{h:Heap}{a:Addr}{its:List Value}{k:Nat}(e:h.get? a=some {cls:=.type "list",data:=.seq its.toArray k}):h.IsList a its.toArray:=⟨_,e,rfl,_,rfl⟩
theorem a8Y(K:EqK H s n R)(ok:HOk P w H s.heap){a b:Addr}{xs ys:List V}{ds es:List α}(ha:H a=some (.lst xs))(hb:H b=some (.lst ys))(p1:Paired R xs ds)(p2:Paired R ys es)(hA:A.units+(n+1)<cLine) :
  SeqAt.RcAt A s (.ref a) (.ref b) (decide (ds=es)):=by
 obtain⟨_,its,k1,v1,t1⟩:=ok a _ ha;obtain⟨_,its2,k2,v2,t2⟩:=ok b _ hb;obtain⟨e,h1,h2⟩:=a4U (A:=A.in1) K p1 p2 v1 v2 (by show A.units+1+n<cLine;omega);by_cases hz:its.toArray.size=its2.toArray.size
 ·have q:=SeqAt.RcAt.lists (a1R t1) (a1R t2) hz (show A.units<cLine by lia) h1;have z:(List.range its.toArray.size).all e=decide (ds=es):=by
   rw[<-h2,<-hz];simp
  rw[z] at q;exact q
 ·have q:=SeqAt.RcAt.lists_lengths (A:=A) (a1R t1) (a1R t2) (by simpa using hz) (show A.units<cLine by omega);have z:false=decide (ds=es):=by
   rw[<-h2];have:(its.toArray.size==its2.toArray.size)=false:=by simpa using hz
   rw[this,b9E]
  rw[z] at q;exact q
theorem b4i(K:EqK H s n R)(ok:HOk P w H s.heap){a b:Addr}{xs ys:List V}{ds es:List α}(ha:H a=some (.lst xs))(hb:H b=some (.lst ys))(p1:Paired R xs ds)(p2:Paired R ys es)(hA:A.units+(n+1)<cLine) :
  SeqAt.RcNeAt A s (.ref a) (.ref b) (!decide (ds=es)):=by
 obtain⟨_,its,k1,v1,t1⟩:=ok a _ ha;obtain⟨_,its2,k2,v2,t2⟩:=ok b _ hb;obtain⟨e,h1,h2⟩:=a4U (A:=A.in1) K p1 p2 v1 v2 (by show A.units+1+n<cLine;omega);by_cases hz:its.toArray.size=its2.toArray.size
 ·have q:=SeqAt.RcNeAt.lists (a1R t1) (a1R t2) hz (show A.units<cLine by omega) h1;have z:(List.range its.toArray.size).all e=decide (ds=es):=by
   rw[<-h2,<-hz];simp
  rw[z] at q;exact q
 ·have q:=SeqAt.RcNeAt.lists_lengths (A:=A) (a1R t1) (a1R t2) (by simpa using hz) (show A.units<cLine by omega);have z:false=decide (ds=es):=by
   rw[<-h2];have:(its.toArray.size==its2.toArray.size)=false:=by simpa using hz
   rw[this,b9E]
  rw[<-z];exact q
theorem EqK.tup(K:EqK H s n R)(ok:HOk P w H s.heap):EqK H s (n+1) (b4h H R):=by
 refine⟨λx a b h1 h2=>?_,λA x y a b u v hA h1 h2 r1 r2=>?_⟩
 ·obtain⟨c,xs,rfl,e1,p1⟩:=h1;obtain⟨c',xs',z,e2,p2⟩:=h2;cases z;rw[e1] at e2;cases e2;exact Paired.inj K.inj p1 p2
 ·obtain⟨c,xs,rfl,e1,p1⟩:=h1;obtain⟨c',xs',rfl,e2,p2⟩:=h2;cases r1;cases r2;by_cases hc:c=c'
  ·subst hc;rw[e1] at e2;cases e2;have:=Paired.inj K.inj p1 p2;subst this;rw[b6i rfl];exact SeqAt.EqAt.same _
  ·exact SeqAt.EqAt.of_refs hc (a8X K ok e1 e2 p1 p2 hA)
theorem EqK.lst(K:EqK H s n R)(ok:HOk P w H s.heap):EqK H s (n+1) (RLst H R):=by
 refine⟨λx a b h1 h2=>?_,λA x y a b u v hA h1 h2 r1 r2=>?_⟩
 ·obtain⟨c,xs,rfl,e1,p1⟩:=h1;obtain⟨c',xs',z,e2,p2⟩:=h2;cases z;rw[e1] at e2;cases e2;exact Paired.inj K.inj p1 p2
 ·obtain⟨c,xs,rfl,e1,p1⟩:=h1;obtain⟨c',xs',rfl,e2,p2⟩:=h2;cases r1;cases r2;by_cases hc:c=c'
  ·subst hc;rw[e1] at e2;cases e2;have:=Paired.inj K.inj p1 p2;subst this;rw[b6i rfl];exact SeqAt.EqAt.same _
  ·exact SeqAt.EqAt.of_refs hc (a8Y K ok e1 e2 p1 p2 hA)
end
section
variable {X:Cx}{α:Type}[DecidableEq α]
def rEqTI:R2:=λx y H Q=>∃ns ms,b4h H a8W x ns/\b4h H a8W y ms/\Q (.bl (decide (ns=ms))) H
theorem b4j(hu:X.A.units+4<cLine):OpR X (compareOp .Eq) rEqTI:=by
 intro pins s σ H x y v u Q I rx ry h;obtain⟨ns,ms,⟨a,xs,rfl,e1,p1⟩,⟨b,ys,rfl,e2,p2⟩,q⟩:=h;cases rx;cases ry;exact a8X (A:=X.A) (n:=0) EqK.int I.hok e1 e2 p1 p2 (by lia) _ _ _ _ ⟨.bl _,H,I,rfl,q⟩
end
def rSlG:V->Option Int->Option Int->Hp->VK->Prop:=λx lo hi H Q=>∃a xs,x=.ref a/\H a=some (.tup xs)/\∀p H',a0r H H'->H' p=some (.tup (a4f xs lo hi))->Q (.ref p) H'
theorem sixAll{n:Nat}{α:Type}(xs:List α)(lo hi:Option Int)(h1:HT.sIx xs.length 0 lo=0)(h2:HT.sIx xs.length xs.length hi=xs.length):(xs.drop (HT.sIx xs.length 0 lo)).take (HT.sIx xs.length xs.length hi-HT.sIx xs.length 0 lo)=xs:=by
 rw[h1,h2];simp
theorem a0e{H:Hp}{p:Addr}(h:H p=none)(o:HO):a0r H (upd H p o):=λb u q=>by rw[a0i (a0N q h)];exact q
theorem a6z{prog:Program}{w:World}{A:Around}{E:Value->Shared->Prop}{s:Shared}{t sl:Addr}{items:Array Value}{vl vu:Value}{lo hi:Option Int}{Q:Value->Shared->Prop}(ht:IsTup s.heap t items)(hs:s.heap.IsSliceOf sl vl vu .none)(pl:IsPart vl lo)(pu:IsPart vu hi)
  (h1:HT.sIx items.size 0 lo=0)(h2:HT.sIx items.size items.size hi=items.size)(h:Q (.ref t) s):wpAny (model prog w) A (getItem (.ref t) (.ref sl)) Q E s:=by
 obtain⟨os,hos,hcs,hds⟩:=id hs;have hTs:s.TypeIs (.ref sl) "slice":=⟨os,hos,hcs⟩
 unfold getItem
 try with_reducible refine b7F ?_
 first|refine b6c (b6j ?_)|skip
 refine b6c (wpAny_sequenceKey ht.typeIs (by decide) ?_);refine b6c (b6X (name:=Str.ofString "__getitem__") ht.typeIs b7k
  (b7s b7k ht.typeIs entry_tuple_getitem ?_ (args_tuple_getitem _ _)))
 show wpAny _ _ (Builtin.Tuple.tupleItemsOf (.ref t) >>= _) _ _ s;refine b6c (tupleItemsOf_ ht ?_);refine b6c (wpAny_typeOf hTs ?_);rw[if_pos (by decide)];refine b6c (HT.a2g hs pl pu ?_);rw[h1,h2];show wpAny _ _ (if (((0:Nat):Int)==0&&(1:Int)==1&&(items.size-0)==items.size)=true then _ else _) _ _ s;rw[if_pos (by simp)];unfold Builtin.Tuple.tupleIsExact;refine b6c (b6c (wpAny_typeOf ht.typeIs (b6j ?_)));rw[if_pos (by decide)]
 first
  |exact b6c (b8X (b6c (b6j (b6j ⟨_,rfl,b6j h⟩))))
  |exact b6c (b8X (b6j ⟨_,rfl,b6j h⟩))
  |exact b6c (b6c (b8X (b6j ⟨_,rfl,b6j h⟩)))
theorem a4V{X:Cx}:SlR X rSlG:=by
 intro pins s σ H x v vl vu lo hi sl Q I rx hs pl pu h;obtain⟨a,xs,rfl,hx,q⟩:=h;by_cases hw:HT.sIx xs.length 0 lo=0/\HT.sIx xs.length xs.length hi=xs.length
 ·cases rx;obtain⟨hz,its,r,ht⟩:=I.hok a _ hx;have hlen:its.toArray.size=xs.length:=by rw[b6n];exact r.length.symm
  refine⟨"tuple",_,b7k.lookup,(a5t.is ht).typeIs,?_⟩;refine a6z (a5t.is ht) hs pl pu (by rw[hlen];exact hw.1) (by rw[hlen];exact hw.2) ⟨.ref a,H,I,rfl,q a H (a0r.refl H) ?_⟩;unfold a4f;rw[sixAll (n:=0) xs lo hi hw.1 hw.2];exact hx
 ·exact sl_tup pins s σ H (.ref a) v vl vu lo hi sl Q I rx hs pl pu ⟨a,xs,rfl,.inl (.inl hx),hw,λp hp=>q p _ (a0e hp _) a0b⟩
def rCatG:R2:=λx y H Q=>∃a b xs ys,x=.ref a/\y=.ref b/\H a=some (.tup xs)/\H b=some (.tup ys)/\xs.length+ys.length<=sizeLine/\∀p H',a0r H H'->H' p=some (.tup (xs++ys))->Q (.ref p) H'
theorem a3G{X:Cx}:OpR X (binaryOp .Add) rCatG:=by
 intro pins s σ H x y v u Q I rx ry h;obtain⟨a,b,xs,ys,rfl,rfl,ha,hb,hz,q⟩:=h;by_cases hx:xs=[]
 ·subst hx;cases rx;cases ry;obtain⟨_,its,r1,p1⟩:=I.hok a _ ha;obtain⟨_,its2,r2,p2⟩:=I.hok b _ hb;have e0:its=[]:=r1.nil_iff.mpr rfl;subst e0;obtain⟨⟨cls,dd,data,sl⟩,ho,hc,n,hd⟩:=id (a5t.is p1);obtain⟨⟨cls2,dd2,data2,sl2⟩,ho2,hc2,n2,hd2⟩:=id (a5t.is p2);simp only at hc hd hc2 hd2;subst hc hd hc2 hd2;exact concat_meets ⟨_,ho,rfl⟩ ⟨_,ho2,rfl⟩ c0D seq_tuple_add b9A b9o (b9k _ _)
   (tuple_addW0 a b ([]:List Value).toArray its2.toArray n n2 dd dd2 sl sl2 (by simp)) ⟨ho,ho2,⟨.ref b,H,I,rfl,q b H (a0r.refl H) (by simpa using hb)⟩⟩
 ·exact b4b pins s σ H (.ref a) (.ref b) v u Q I rx ry ⟨a,b,xs,ys,rfl,rfl,.inl (.inl ha),.inl (.inl hb),hx,hz,λz=>q a H (a0r.refl H) (by rw[z,b7e];exact ha),λ_ p hp=>q p _ (a0e hp _) a0b⟩
def rAll:List V->Hp->VK->Prop:=λxs H Q=>∃(a:Addr)(bs:List Bool),xs=[.ref a]/\H a=some (.lst (bs.map V.bl))/\Q (.bl (bs.all id)) H
theorem b1h:∀{bs:List Bool}{us:List Value},a0P (bs.map V.bl) us->us=bs.map Value.bool:=by
 intro bs
 induction bs with
 |nil=>intro us r;rw[b8N] at r;cases r;rfl
 |cons b bs ih=>
  intro us r;rw[b6z] at r;cases r with
  |cons r1 r2=>rw[ih r2,show _=Value.bool b from r1];rfl
theorem a8Z(bs:List Bool):(List.range bs.length).all (λi=>bs.getD i true)=bs.all id:=by
 rw[b8j];simp only[b7i,b6V,id];constructor
 ·intro h b hb;obtain⟨i,hi,rfl⟩:=List.mem_iff_getElem.mp hb;have q:=h i hi
  rwa [b6q,b6f hi] at q
 ·intro h i hi;rw[b6q,b6f hi];exact h _ (b7w hi)
theorem a1E{X:Cx}(hc:X.calm=true):a2v X (.builtin "all") rAll:=by
 intro pins s σ H xs us Q I r h;obtain⟨a,bs,rfl,ha,q⟩:=h;obtain⟨u,rfl,ru⟩:=a2D r;cases ru;obtain⟨hz,its,n,v,e⟩:=I.hok a _ ha;have ei:=b1h v;subst ei;refine call_all_walk (b8y (a1R e) ?_);have hlt:=b6t e;refine⟨s.heap.objs.size,_,_,_,_,_,λi=>bs.getD i true,rfl,Walks.list (A:=X.A.in1) (by show X.A.handled=none;exact I.ok.hd hc) s.heap.objs.size a (b6L hlt) (bs.map Value.bool).toArray,⟨⟨_,b6m _ rfl,rfl,rfl⟩,a1R (b6e _ e)⟩,?_,λh' tk hk=>?_⟩
 ·intro i v s' Q' E' hv hq;simp only[List.getElem?_toArray,b6p] at hv;cases hb:bs[i]? with
  |none=>rw[hb] at hv;cases hv
  |some b=>
   rw[hb] at hv;cases hv;have hq':Q' (bs.getD i true) s':=hq;rw[b6q,hb] at hq';exact b7u hq'
 ·have e1:(bs.map Value.bool).toArray.size=bs.length:=by simp
  rw[e1,a8Z];exact⟨.bl _,H,I.kept (h':=h') (t':=tk) (λb o eo=>hk b o (by simp;exact b6L (b6t eo)) (b6e _ eo)),rfl,q⟩
def rSum:List V->Hp->VK->Prop:=λxs H Q=>∃(a:Addr)(ns:List Int),xs=[.ref a]/\H a=some (.lst (ns.map V.int))/\Q (.int ns.sum) H
theorem a7Z:∀{ns:List Int}{us:List Value},a0P (ns.map V.int) us->∀(i:Nat)(v:Value),us[i]?=some v->∃t,v=.int (ns.getD i 0) t:=by
 intro ns
 induction ns with
 |nil=>intro us r i v e;rw[b8N] at r;cases r;simp at e
 |cons n ns ih=>
  intro us r i v e;rw[b6z] at r;cases r with
  |cons r1 r2=>
   cases i with
   |zero=>
    simp at e;subst e;obtain⟨t,z⟩:=r1;exact⟨t,by rw[z];simp⟩
   |succ i=>
    obtain⟨t,z⟩:=ih r2 i v (by simpa using e);exact⟨t,by rw[z];simp⟩
theorem b1i{X:Cx}(hc:X.calm=true):a2v X (.builtin "sum") rSum:=by
 intro pins s σ H xs us Q I r h;obtain⟨a,ns,rfl,ha,q⟩:=h;obtain⟨u,rfl,ru⟩:=a2D r;cases ru;obtain⟨hz,its,n,v,e⟩:=I.hok a _ ha;refine call_sum_walkAnyS (b8y (a1R e) ?_);have hlt:=b6t e;refine⟨s.heap.objs.size,_,_,_,_,_,_,λi=>ns.getD i 0,rfl,(Walks.list (A:=X.A.in1) (by show X.A.handled=none;exact I.ok.hd hc) s.heap.objs.size a (b6L hlt) its.toArray).toS,⟨⟨_,b6m _ rfl,rfl,rfl⟩,a1R (b6e _ e)⟩,?_,?_,λs' t' mv=>?_⟩
 ·intro b hb;have hp:(s.heap.push {cls:=.type "list_iterator",data:=.fields #[.ref a,rawInt 0]}).objs.size=s.heap.objs.size+1:=b7f _ _;rcases b6D.mp hb with z|z
  ·subst z;exact b6t (b6m _ rfl)
  ·have z':b=a:=by simpa using z
   subst z';exact b6t (b6e _ e)
 ·intro i v' hv;exact a7Z v i v' (by simpa using hv)
 ·have e1:its.toArray.size=ns.length:=by
   have:=v.length;rw[b6b] at this;simpa using this.symm
  rw[e1,preSum_getD];have e2:ns.take ns.length=ns:=b6v;rw[e2];have k:∀b o,s.heap.get? b=some o->s'.heap.get? b=some o:=λb o eo=>mv.heap b o (by simp;exact b6L (b6t eo)) (b6e _ eo);obtain⟨h',g',d',tk',os'⟩:=s';have z1:g'=s.gens:=mv.gens;have z2:d'=s.drawn:=mv.drawn;have z3:os'=s.os:=mv.os;subst z1 z2 z3;exact⟨.int _,H,I.kept (h':=h') (t':=tk') k,⟨t',rfl⟩,q⟩
theorem a0M(scope:Scope)(en:Env)(y:Str):(relabel scope en).names.lookup y=(scope.names.lookup y).map λk=>if (k==NameKind.free&&en.scope.kind==.function&&en.kindOf y==some .cell)=true then .cell else k:=by
 show List.lookup y (scope.names.map λ(n,k)=>if (k==NameKind.free&&en.scope.kind==.function&&en.kindOf n==some .cell)=true then (n,NameKind.cell) else (n,k))=_;generalize scope.names=l
 induction l with
 |nil=>rfl
 |cons p r ih=>
  obtain⟨n,k⟩:=p;rw[b6z];by_cases hy:y=n
  ·subst hy;show List.lookup y ((if (k==NameKind.free&&en.scope.kind==.function&&en.kindOf y==some .cell)=true then (y,NameKind.cell) else (y,k))::_)=_;by_cases hc:(k==NameKind.free&&en.scope.kind==.function&&en.kindOf y==some .cell)=true
   ·rw[if_pos hc,b7G,b7G,c0E];show some NameKind.cell=some (if _ then _ else _);rw[if_pos hc]
   ·rw[if_neg hc,b7G,b7G,c0E];show some k=some (if _ then _ else _);rw[if_neg hc]
  ·have hb:(y==n)=false:=by simpa using hy
   show List.lookup y ((if (k==NameKind.free&&en.scope.kind==.function&&en.kindOf n==some .cell)=true then (n,NameKind.cell) else (n,k))::_)=_;by_cases hc:(k==NameKind.free&&en.scope.kind==.function&&en.kindOf n==some .cell)=true
   ·rw[if_pos hc,b7G,b7G,hb];exact ih
   ·rw[if_neg hc,b7G,b7G,hb];exact ih
def a7a(scope:Scope)(p:Str×Str):Bool:=match scope.names.lookup p.1 with
 |none=>true
 |some .free=>p.1==p.2
 |some .local=>false
 |some .cell=>false
 |some _=>true
theorem a0x.of'(sc:Scope)(N₀:List Str)(hsc:en.scope=sc)(hN:N=N₀)(kind:scope.kind=.function)(nocell:∀y∈scope.names,y.2≠.cell)(locs:∀y∈scope.names,y.2=.local->scope.names.lookup y.1=some .local)
  (free:∀y∈scope.names,y.2=.free->sc.names.lookup y.1=some .cell\/sc.names.lookup y.1=some .free)(len:M.length=N₀.length)(same:((M.zip N₀).all (a7a scope))=true):a0x scope en N M:=by
 subst hsc hN;refine⟨kind,nocell,locs,λy hy=>free _ hy rfl,len,λj y e v=>?_,λy h=>?_⟩
 ·have hj:j<N.length:=by rw[<-len];exact(b6d.mp e).1
  have e2:N[j]?=some N[j]:=b6f hj;have hm:(y,N[j])∈M.zip N:=by
   refine b6N.mpr ⟨j,?_⟩;rw[List.getElem?_zip_eq_some];exact⟨e,e2⟩
  have q:=b7i.mp same _ hm;unfold a7a at q;unfold Vis at v;rw[a0M] at v ⊢;cases hl:scope.names.lookup y with
  |none=>rw[hl] at v;simp at v
  |some k=>
   rw[hl] at v q;simp only[b8C] at v ⊢;cases k with
   |free=>
    have z:y=N[j]:=by simpa using q
    refine⟨by rw[e2,<-z],b7T hl,?_⟩;split<;>simp
   | «local»=>simp at q
   |cell=>simp at q
   |_=>simp at v
 ·rw[a0M] at h;cases hl:scope.names.lookup y with
  |none=>rw[hl] at h;simp at h
  |some k=>
   rw[hl] at h;have hm:=b7T hl;simp only[b8C] at h;cases k with
   |free=>exact hm
   |cell=>exact absurd rfl (nocell _ hm)
   |_=>simp at h
theorem a0x.of(sc:Scope)(N₀:List Str)(hsc:en.scope=sc)(hN:N=N₀)(kind:scope.kind=.function)(nocell:∀y∈scope.names,y.2≠.cell)(locs:∀y∈scope.names,y.2=.local->scope.names.lookup y.1=some .local)
  (free:∀y∈scope.names,y.2=.free->sc.names.lookup y.1=some .cell\/sc.names.lookup y.1=some .free)(len:M.length=N₀.length)(same:((M.zip N₀).all (a7a scope))=true):a0x scope en N M:=a0x.of' sc N₀ hsc hN kind nocell locs free len same
theorem cso{scope:Scope}{en:Env}{N M:List Str}(sc:Scope)(N₀:List Str)(hsc:en.scope=sc:=by rfl)(hN:N=N₀:=by rfl)(kind:scope.kind=.function:=by rfl)(nocell:∀y∈scope.names,y.2≠.cell:=by decide +kernel)(locs:∀y∈scope.names,y.2=.local->scope.names.lookup y.1=some .local:=by decide +kernel)(free:∀y∈scope.names,y.2=.free->sc.names.lookup y.1=some .cell\/sc.names.lookup y.1=some .free:=by decide +kernel)(len:M.length=N₀.length:=by rfl)(same:((M.zip N₀).all (a7a scope))=true:=by decide +kernel):a0x scope en N M:=a0x.of sc N₀ hsc hN kind nocell locs free len same
theorem b2Q(h:a1B 0 v (List.replicate 1 none++σ) H Q):a1B 0 v (List.replicate 1 none++σ) H λσ2 H2=>(∃l:St,l.length=1/\σ2=l++σ)/\Q σ2 H2:=
 ⟨⟨[some v],rfl,rfl⟩,h⟩
theorem a3e{lo:Int}{n:Nat}{k:Nat}{g:TG}{tc:TT}{te:TE}{σ:St}{H:Hp}{Q:VK}{d:Addr}(Pv:Nat->Hp->Prop)(h0:Pv 0 (upd H d (.lst [])))
  (hs:∀i H,i<n->Pv i H->g (.int (lo+i)) (List.replicate k none++σ) H λσ2 H2=>tc σ2 H2 λb H3=>if b=true then te σ2 H3 λy H4=>∃ys,H4 d=some (.lst ys)/\ys.length<sizeLine/\Pv (i+1) (upd H4 d (.lst (ys++[y]))) else Pv (i+1) H3)
  (hd:∀H,Pv n H->Q (.ref d) H) :
  ∃W:Nat->Nat->Hp->Prop,(∃m,W 0 m (upd H d (.lst [])))/\∀i m H,W i m H ->
   ((Itr lo n).stop i H/\Q (.ref d) H)\/((Itr lo n).go i H/\∃N:Hp->Prop,(∀H',N H'->∃m',m'<m/\W (i+1) m' H')/\∀x H',(Itr lo n).yld i H x H'->g x (List.replicate k none++σ) H' λσ2 H2=>
    tc σ2 H2 λb H3=>if b=true then te σ2 H3 λy H4=>∃ys,H4 d=some (.lst ys)/\ys.length<sizeLine/\N (upd H4 d (.lst (ys++[y]))) else N H3):=by
 refine⟨λi m H=>m=n-i/\i<=n/\Pv i H,⟨n,by simp,b6O _,h0⟩,?_⟩;rintro i m H ⟨rfl,hi,p⟩;by_cases hlt:i<n
 ·refine .inr ⟨hlt,Pv (i+1),λH' p'=>⟨n-(i+1),by grind,rfl,hlt,p'⟩,λx H' y=>?_⟩;obtain⟨e,y⟩:=y;subst e y;exact hs i _ hlt p
 ·have e:i=n:=by lia
  subst e;exact .inl ⟨b6k _,hd H p⟩
theorem a7b{K:PySem.W.Frag}{a:Addr}{xs:List V}{k:Nat}{g:TG}{tc:TT}{te:TE}{σ:St}{H:Hp}{Q:VK}{d:Addr}(Pv:Nat->Hp->Prop)(h0:Pv 0 (upd H d (.lst [])))(hl:∀i H,i<=xs.length->Pv i H->SqT K H a xs)
  (hs:∀i x H,xs[i]?=some x->Pv i H->g x (List.replicate k none++σ) H λσ2 H2=>tc σ2 H2 λb H3=>if b=true then te σ2 H3 λy H4=>∃ys,H4 d=some (.lst ys)/\ys.length<sizeLine/\Pv (i+1) (upd H4 d (.lst (ys++[y]))) else Pv (i+1) H3)
  (hd:∀H,Pv xs.length H->Q (.ref d) H) :
  ∃W:Nat->Nat->Hp->Prop,(∃m,W 0 m (upd H d (.lst [])))/\∀i m H,W i m H ->
   ((Itt K a).stop i H/\Q (.ref d) H)\/((Itt K a).go i H/\∃N:Hp->Prop,(∀H',N H'->∃m',m'<m/\W (i+1) m' H')/\∀x H',(Itt K a).yld i H x H'->g x (List.replicate k none++σ) H' λσ2 H2=>
    tc σ2 H2 λb H3=>if b=true then te σ2 H3 λy H4=>∃ys,H4 d=some (.lst ys)/\ys.length<sizeLine/\N (upd H4 d (.lst (ys++[y]))) else N H3):=by
 refine⟨λi m H=>m=xs.length-i/\i<=xs.length/\Pv i H,⟨xs.length,by simp,b6O _,h0⟩,?_⟩;rintro i m H ⟨rfl,hi,p⟩;have q:=hl i H hi p;by_cases hlt:i<xs.length
 ·refine .inr ⟨⟨xs,xs[i],q,by simp[hlt]⟩,Pv (i+1),λH' p'=>⟨xs.length-(i+1),by grind,rfl,hlt,p'⟩,λx H' y=>?_⟩;obtain⟨e,y⟩:=y;subst e;exact hs i x _ (y xs q) p
 ·have e:i=xs.length:=by lia
  subst e;exact .inl ⟨⟨xs,q,b6k _⟩,hd H p⟩
theorem a3H{K:PySem.W.Frag}{a:Addr}{xs:List V}{k:Nat}{g:TG}{tc:TT}{te:TE}{σ:St}{H:Hp}{Q:VK}{d:Addr}(Pv:Nat->Hp->Prop)(h0:Pv 0 (upd H d (.lst [])))(hl:∀i H,i<=xs.length->Pv i H->SqL K H a xs)
  (hs:∀i x H,xs[i]?=some x->Pv i H->g x (List.replicate k none++σ) H λσ2 H2=>tc σ2 H2 λb H3=>if b=true then te σ2 H3 λy H4=>∃ys,H4 d=some (.lst ys)/\ys.length<sizeLine/\Pv (i+1) (upd H4 d (.lst (ys++[y]))) else Pv (i+1) H3)
  (hd:∀H,Pv xs.length H->Q (.ref d) H) :
  ∃W:Nat->Nat->Hp->Prop,(∃m,W 0 m (upd H d (.lst [])))/\∀i m H,W i m H ->
   ((Itl K a).stop i H/\Q (.ref d) H)\/((Itl K a).go i H/\∃N:Hp->Prop,(∀H',N H'->∃m',m'<m/\W (i+1) m' H')/\∀x H',(Itl K a).yld i H x H'->g x (List.replicate k none++σ) H' λσ2 H2=>
    tc σ2 H2 λb H3=>if b=true then te σ2 H3 λy H4=>∃ys,H4 d=some (.lst ys)/\ys.length<sizeLine/\N (upd H4 d (.lst (ys++[y]))) else N H3):=by
 refine⟨λi m H=>m=xs.length-i/\i<=xs.length/\Pv i H,⟨xs.length,by simp,b6O _,h0⟩,?_⟩;rintro i m H ⟨rfl,hi,p⟩;have q:=hl i H hi p;by_cases hlt:i<xs.length
 ·refine .inr ⟨⟨xs,xs[i],q,by simp[hlt]⟩,Pv (i+1),λH' p'=>⟨xs.length-(i+1),by omega,rfl,hlt,p'⟩,λx H' y=>?_⟩;obtain⟨e,y⟩:=y;subst e;exact hs i x _ (y xs q) p
 ·have e:i=xs.length:=by omega
  subst e;exact .inl ⟨⟨xs,q,b6k _⟩,hd H p⟩
theorem a4k:bootBuiltins "all"=some (.builtin "all"):=by decide +kernel
theorem b_sum:bootBuiltins "sum"=some (.builtin "sum"):=by decide +kernel
theorem a9a:bootBuiltins "int"=some (.type "int"):=by decide +kernel
theorem b2R:bootBuiltins "list"=some (.type "list"):=by decide +kernel
theorem a1G:bootBuiltins "tuple"=some (.type "tuple"):=by decide +kernel
theorem PE.imp{t t':TE}(h:PE X e t)(hi:∀σ H Q,t' σ H Q->t σ H Q):PE X e t':=λpins s σ H Q I q=>h pins s σ H Q I (hi σ H Q q)
def a5I(tc:TT)(te:TE)(σ:St)(d:Addr)(x:V)(H:Hp)(Z:Hp->Prop):Prop:=
 tc (some x :: σ) H λb H3=>if b=true then te (some x :: σ) H3 λy H4=>∃ys,H4 d=some (.lst ys)/\ys.length<sizeLine/\Z (upd H4 d (.lst (ys++[y]))) else Z H3
def a9b(ta:TA)(tc:TT)(te:TE):TE:=λσ H Q=>ta σ H λvs H1=>∃j:Int,vs=[.int j]/\-(2 ^ 62)<=j/\j<2 ^ 62/\∀d,H1 d=none ->
 ∃Pv:Nat->Hp->Prop,Pv 0 (upd H1 d (.lst []))/\(∀i H,i<j.toNat->Pv i H->a5I tc te σ d (.int (0+i)) H (Pv (i+1)))/\∀H,Pv j.toNat H->Q (.ref d) H
def b4k(ta:TA)(tc:TT)(te:TE):TE:=λσ H Q=>ta σ H λvs H1=>∃lo hi:Int,vs=[.int lo,.int hi]/\(-(2 ^ 62)<=lo/\lo<2 ^ 62/\-(2 ^ 62)<=hi/\hi<2 ^ 62)/\∀d,H1 d=none ->
 ∃Pv:Nat->Hp->Prop,Pv 0 (upd H1 d (.lst []))/\(∀i H,i<(hi-lo).toNat->Pv i H->a5I tc te σ d (.int (lo+i)) H (Pv (i+1)))/\∀H,Pv (hi-lo).toNat H->Q (.ref d) H
def a9c(K:PySem.W.Frag)(tl:TE)(tc:TT)(te:TE):TE:=λσ H Q=>tl σ H λv H1=>∃a xs,v=.ref a/\SqL K H1 a xs/\∀d,H1 d=none ->
 ∃Pv:Nat->Hp->Prop,Pv 0 (upd H1 d (.lst []))/\(∀i H,i<=xs.length->Pv i H->SqL K H a xs)/\(∀i x H,xs[i]?=some x->Pv i H->a5I tc te σ d x H (Pv (i+1)))/\∀H,Pv xs.length H->Q (.ref d) H
def tCompT(K:PySem.W.Frag)(tl:TE)(tc:TT)(te:TE):TE:=λσ H Q=>tl σ H λv H1=>∃a xs,v=.ref a/\SqT K H1 a xs/\∀d,H1 d=none ->
 ∃Pv:Nat->Hp->Prop,Pv 0 (upd H1 d (.lst []))/\(∀i H,i<=xs.length->Pv i H->SqT K H a xs)/\(∀i x H,xs[i]?=some x->Pv i H->a5I tc te σ d x H (Pv (i+1)))/\∀H,Pv xs.length H->Q (.ref d) H
def a2E(t:TE):Prop:=∀σ H (Q Q':VK),(∀v H1,Q v H1->Q' v H1)->t σ H Q->t σ H Q'
def a4W(t:TA):Prop:=∀σ H (Q Q':List V->Hp->Prop),(∀v H1,Q v H1->Q' v H1)->t σ H Q->t σ H Q'
section
variable {X:Cx}{elt iter:Expr}{tg:Str}{tp:Pos}{cs:List Expr}{scope:Scope}{pos:Pos}{tc:TT}{te:TE}{M:List Str}
abbrev a4l(X:Cx)(scope:Scope)(tg:Str)(M:List Str)(cs:List Expr)(elt:Expr)(tc:TT)(te:TE):Prop:=
 ∀(cl:List (Str×Addr))(C:Addr)(s0:Shared)(H0:Hp)(fp:List Addr),PTs (cxC X scope cl C s0 H0 fp (tg::M)) cs tc/\PE (cxC X scope cl C s0 H0 fp (tg::M)) elt te
theorem a2s{t:TE}(hc:X.calm=true)(S:a0x scope X.env X.N M)(nd:(tg::M).Nodup)(hl:scope.names.lookup tg=some .local)(hi:PI X (.Name tg tp) iter wi)(hin:a4l X scope tg M cs elt tc te)
  (ht:∀σ H Q,t σ H Q->a7Y 1 wi (a1B 0) tc te σ H Q)(hs:∀x,foldedSetIterable iter X.env x=pure x):PE X (.ListComp elt [⟨.Name tg tp,iter,cs,0⟩] scope pos) t:=by
 have hx:(relabel scope X.env).names.lookup tg=some .local:=by
  rw[a0M,hl];rfl
 exact PE.imp (b4g (xs:=[tg]) (M:=M) hc S hi (λcl C s0 H0 fp=>⟨a2C (i:=0) nd rfl (Or.inl hx) (Or.inr hx),hin cl C s0 H0 fp⟩) (λv σ H Q h=>b2Q h) hs) ht
theorem a1O(hc:X.calm=true)(S:a0x scope X.env X.N M)(nd:(tg::M).Nodup)(hl:scope.names.lookup tg=some .local)(hg:Gl X "range")(hm:X.mg "range"=none)(ha:PA X [a] ta)(mo:a4W ta)
  (hin:a4l X scope tg M cs elt tc te)(hs:starEach [a] X.env=[(false,eval a X.env)]:=by rfl)(hf:∀x,foldedSetIterable (.Call (.Name "range" p) [a] [] pos') X.env x=pure x:=by intro _;rfl) :
  PE X (.ListComp elt [⟨.Name tg tp,.Call (.Name "range" p) [a] [] pos',cs,0⟩] scope pos) (a9b ta tc te):=by
 refine a2s hc S nd hl (a1u hg hm ha hs) hin (λσ H Q h=>?_) hf;refine mo σ H _ _ (λvs H1 q=>?_) h;obtain⟨j,e,j1,j2,q⟩:=q;refine⟨j,e,j1,j2,λd hd=>?_⟩;obtain⟨Pv,h0,hs,hd⟩:=q d hd;exact a3e (k:=1) (g:=a1B 0) Pv h0 hs hd
theorem a9d(hc:X.calm=true)(S:a0x scope X.env X.N M)(nd:(tg::M).Nodup)(hl:scope.names.lookup tg=some .local)(hg:Gl X "range")(hm:X.mg "range"=none)(ha:PA X [a,b] ta)(mo:a4W ta)
  (hin:a4l X scope tg M cs elt tc te)(hs:starEach [a,b] X.env=[(false,eval a X.env),(false,eval b X.env)]:=by rfl)(hs2:starEach [b] X.env=[(false,eval b X.env)]:=by rfl)(hf:∀x,foldedSetIterable (.Call (.Name "range" p) [a,b] [] pos') X.env x=pure x:=by intro _;rfl) :
  PE X (.ListComp elt [⟨.Name tg tp,.Call (.Name "range" p) [a,b] [] pos',cs,0⟩] scope pos) (b4k ta tc te):=by
 refine a2s hc S nd hl (a1U hg hm ha hs hs2) hin (λσ H Q h=>?_) hf;refine mo σ H _ _ (λvs H1 q=>?_) h;obtain⟨lo,hi,e,j1,q⟩:=q;refine⟨lo,hi,e,j1,λd hd=>?_⟩;obtain⟨Pv,h0,hs,hd⟩:=q d hd;exact a3e (k:=1) (g:=a1B 0) Pv h0 hs hd
theorem a0Y(hc:X.calm=true)(S:a0x scope X.env X.N M)(nd:(tg::M).Nodup)(hl:scope.names.lookup tg=some .local)(hi:PE X iter tl)(mo:a2E tl)
  (hin:a4l X scope tg M cs elt tc te)(hf:∀x,foldedSetIterable iter X.env x=pure x:=by intro _;rfl):PE X (.ListComp elt [⟨.Name tg tp,iter,cs,0⟩] scope pos) (a9c X.K tl tc te):=by
 refine a2s hc S nd hl (a4H hi) hin (λσ H Q h=>?_) hf;refine mo σ H _ _ (λv H1 q=>?_) h;obtain⟨a,xs,e,j1,q⟩:=q;refine⟨a,e,⟨xs,j1⟩,λd hd=>?_⟩;obtain⟨Pv,h0,hl,hs,hd⟩:=q d hd;exact a3H (k:=1) (g:=a1B 0) Pv h0 hl hs hd
theorem a3o(hc:X.calm=true)(S:a0x scope X.env X.N M)(nd:(tg::M).Nodup)(hl:scope.names.lookup tg=some .local)(hi:PE X iter tl)(mo:a2E tl)
  (hin:a4l X scope tg M cs elt tc te)(hf:∀x,foldedSetIterable iter X.env x=pure x:=by intro _;rfl):PE X (.ListComp elt [⟨.Name tg tp,iter,cs,0⟩] scope pos) (tCompT X.K tl tc te):=by
 refine a2s hc S nd hl (a6W hi) hin (λσ H Q h=>?_) hf;refine mo σ H _ _ (λv H1 q=>?_) h;obtain⟨a,xs,e,j1,q⟩:=q;refine⟨a,e,⟨xs,j1⟩,λd hd=>?_⟩;obtain⟨Pv,h0,hl,hs,hd⟩:=q d hd;exact a7b (k:=1) (g:=a1B 0) Pv h0 hl hs hd
theorem a7c{t:TE}(hc:X.calm=true)(S:a0x scope X.env X.N M)(nd:(tg::M).Nodup)(hl:scope.names.lookup tg=some .local)(hi:PI X (.Name tg tp) iter wi)(hin:a4l X scope tg M cs elt tc te)
  (ht:∀σ H Q,t σ H Q->a7Y 1 wi (a1B 0) tc te σ H Q)(hN:X.N.Nodup)(hix:X.N[i]?=some x)(hx:X.env.scope.names.lookup x=some .local)(hw:swapsWith (.ListComp elt [⟨.Name tg tp,iter,cs,0⟩] scope pos) (some (.Name x pos1)) spos.line X.env=pure true)(hs:∀x,foldedSetIterable iter X.env x=pure x) :
  PS X (.Assign [.Name x pos1] (.ListComp elt [⟨.Name tg tp,iter,cs,0⟩] scope pos) spos) (b0O t (a1B i)):=by
 have hx':(relabel scope X.env).names.lookup tg=some .local:=by
  rw[a0M,hl];rfl
 intro pins s σ H D I h;exact a8V (xs:=[tg]) (M:=M) hc S hi (λcl C s0 H0 fp=>⟨a2C (i:=0) nd rfl (Or.inl hx') (Or.inr hx'),hin cl C s0 H0 fp⟩) (λv σ H Q h=>b2Q h) hN hix hx hw hs pins s σ H D I (ht _ _ _ h)
theorem a9e(hN:X.N.Nodup)(hix:X.N[i]?=some x)(hx:X.env.scope.names.lookup x=some .local)(hc:X.calm=true)(S:a0x scope X.env X.N M)(nd:(tg::M).Nodup)(hl:scope.names.lookup tg=some .local)(hg:Gl X "range")(hm:X.mg "range"=none)(ha:PA X [a] ta)(mo:a4W ta)
  (hin:a4l X scope tg M cs elt tc te)(hw:swapsWith (.ListComp elt [⟨.Name tg tp,.Call (.Name "range" p) [a] [] pos',cs,0⟩] scope pos) (some (.Name x pos1)) spos.line X.env=pure true:=by rfl)
  (hs:starEach [a] X.env=[(false,eval a X.env)]:=by rfl)(hf:∀x,foldedSetIterable (.Call (.Name "range" p) [a] [] pos') X.env x=pure x:=by intro _;rfl) :
  PS X (.Assign [.Name x pos1] (.ListComp elt [⟨.Name tg tp,.Call (.Name "range" p) [a] [] pos',cs,0⟩] scope pos) spos) (b0O (a9b ta tc te) (a1B i)):=by
 refine a7c hc S nd hl (a1u hg hm ha hs) hin (λσ H Q h=>?_) hN hix hx hw hf;refine mo σ H _ _ (λvs H1 q=>?_) h;obtain⟨j,e,j1,j2,q⟩:=q;refine⟨j,e,j1,j2,λd hd=>?_⟩;obtain⟨Pv,h0,hs,hd⟩:=q d hd;exact a3e (k:=1) (g:=a1B 0) Pv h0 hs hd
end
theorem a0u{Z:Hp->Prop}(h:te (some x :: σ) H λy H4=>∃ys,H4 d=some (.lst ys)/\ys.length<sizeLine/\Z (upd H4 d (.lst (ys++[y])))):a5I a8U te σ d x H Z:=by
 unfold a5I a8U;exact a4S h
theorem a0E:a2E (b3Q i):=λ_ _ _ _ h ⟨v,e,q⟩=>⟨v,e,h _ _ q⟩
theorem mo_c:a2E (tC v):=λ_ _ _ _ h q=>h _ _ q
theorem a1W:a4W b2L:=λ_ _ _ _ h q=>h _ _ q
theorem a1k(h1:a2E te)(h2:a4W ta):a4W (a6v te ta):=λσ H Q Q' h q=>h1 σ H _ _ (λv H1 q1=>h2 σ H1 _ _ (λvs H2 q2=>h _ _ q2) q1) q
theorem b1j{ta tb:TE}(hr:∀x y H (Q Q':VK),(∀v H1,Q v H1->Q' v H1)->r x y H Q->r x y H Q')(h1:a2E ta)(h2:a2E tb):a2E (tOp r ta tb):=λσ H Q Q' h q=>
 h1 σ H _ _ (λv H1 q1=>h2 σ H1 _ _ (λu H2 q2=>hr _ _ _ _ _ h q2) q1) q
theorem a7d:∀x y H (Q Q':VK),(∀v H1,Q v H1->Q' v H1)->rI0 g x y H Q->rI0 g x y H Q':=λ_ _ _ _ _ h ⟨i,j,e1,e2,q⟩=>⟨i,j,e1,e2,h _ _ q⟩
theorem b2S{K:PySem.W.Frag}{ta:TA}(h1:a4W ta):a2E (tCB (λxs H Q=>∃p ys,xs=[.ref p]/\(SqL K H p ys\/SqT K H p ys)/\Q (.int (ys.length:Nat)) H) ta):=λσ H Q Q' h q=>
 h1 σ H _ _ (λvs H1 ⟨p,ys,e,s,q1⟩=>⟨p,ys,e,s,h _ _ q1⟩) q
abbrev TW(H:Hp)(a:Addr)(ns:List Int):Prop:=H a=some (.tup (ns.map V.int))
abbrev Wd(H:Hp)(x:V)(w:List Int):Prop:=b4h H a8W x w
abbrev Ws(H:Hp)(xs:List V)(ws:List (List Int)):Prop:=Paired (b4h H a8W) xs ws
theorem Wd.ti{w:List Int}(h:Wd H x w):∃a,x=.ref a/\TW H a w:=by
 obtain⟨a,xs,rfl,e,p⟩:=h;exact⟨a,rfl,by show H a=_;rw[e,Paired.ofInts p]⟩
theorem Wd.of{w:List Int}(h:TW H a w):Wd H (.ref a) w:=a3F h
theorem Wd.same{w:List Int}(sm:a0r H H')(h:Wd H x w):Wd H' x w:=by
 obtain⟨a,xs,rfl,e,p⟩:=h;exact⟨a,xs,rfl,sm _ _ e,p⟩
theorem Ws.same(sm:a0r H H')(h:Ws H xs ws):Ws H' xs ws:=Paired.mapP h λ_ _ q=>Wd.same sm q
section
variable {α β:Type}{R:α->β->Prop}
theorem Paired.takeP:∀{xs:List α}{ds:List β}(n:Nat),Paired R xs ds->Paired R (xs.take n) (ds.take n)
 |_,_,0,_=>by rw[c0O,c0O];exact .nil
 |_,_,_+1,.nil=>.nil
 |_,_,n+1,.cons r t=>.cons r (Paired.takeP n t)
theorem Paired.appendP:∀{xs ys:List α}{ds es:List β},Paired R xs ds->Paired R ys es->Paired R (xs++ys) (ds++es)
 |_,_,_,_,.nil,s=>s
 |_,_,_,_,.cons r t,s=>.cons r (Paired.appendP t s)
theorem Paired.left_of:∀{xs:List α}{ds:List β},Paired R xs ds->∀(j:Nat)(d:β),ds[j]?=some d->∃x,xs[j]?=some x/\R x d
 |_,_,.nil,j,x,e=>by simp at e
 |_,_,.cons r t,0,x,e=>by simp at e;subst e;exact⟨_,rfl,r⟩
 |_,_,.cons r t,j+1,x,e=>by
  obtain⟨d,e1,e2⟩:=Paired.left_of t j x (by simpa using e);exact⟨d,by simpa using e1,e2⟩
theorem Paired.oneP(r:R a b):Paired R [a] [b]:=.cons r .nil
end
theorem a3I{xs:List V}{i:Nat}{x:V}(h:xs[i]?=some x):atI xs (i:Int)=some x:=a1M h
theorem a4u{ns:List Int}{k:Nat}{x:Int}(h:ns[k]?=some x):atI (ns.map V.int) (k:Int)=some (.int x):=a1M (by rw[b6p,h];rfl)
theorem hu4{A:Around}{k:Nat}(hr:a2I k A):A.units+4<cLine:=by have:=hr.units;lia
theorem small(h:n<=1000):n<=sizeLine:=b6y (a0j h)
theorem a7e(xs:List V)(n:Nat):a4f xs none (some (n:Int))=xs.take n:=by
 unfold a4f;rw[HT.a8J,HT.a6Z];simp[List.take_eq_take_iff]
theorem b1k(xs:List V)(n:Nat):a4f xs (some (n:Int)) none=xs.drop n:=by
 unfold a4f;rw[HT.a8J,HT.a6Z];by_cases h:n<=xs.length
 ·rw[b9V h];exact b8m (by rw[b7r];simp)
 ·rw[Nat.min_eq_right (by lia),List.drop_eq_nil_of_le (b6k _),List.drop_eq_nil_of_le (by omega)];simp
theorem b2T(xs:List V)(i:Int)(h:0<=i):a4f xs none (some i)=xs.take i.toNat:=by
 obtain⟨n,rfl⟩:∃n:Nat,i=n:=⟨i.toNat,by lia⟩
 rw[a7e];rfl
theorem a6A(xs:List V)(i:Int)(h:0<=i):a4f xs (some i) none=xs.drop i.toNat:=by
 obtain⟨n,rfl⟩:∃n:Nat,i=n:=⟨i.toNat,by omega⟩
 rw[b1k];rfl
theorem b4l(xs:List V)(lo hi:Option Int):∃a b,a4f xs lo hi=(xs.drop a).take b:=⟨_,_,rfl⟩
theorem a0l(h:H d=none)(sm:a0r H H1):a0r H (upd H1 d o):=λb u q=>by rw[a0i (a0N q h)];exact sm b u q
theorem a9f(ns:List Int)(lo hi:Option Int):∃ms:List Int,a4f (ns.map V.int) lo hi=ms.map V.int/\ms.length<=ns.length:=by
 obtain⟨a,b,e⟩:=b4l (ns.map V.int) lo hi;exact⟨(ns.drop a).take b,by rw[e,b8u,List.map_drop],by rw[b6l,b7r];omega⟩
structure Fns(P:Program)(w:World)(K:PySem.W.Frag)(mg:Str->Option Value)(base:Heap)(ps:List Str)(name:Str)(sp:Sp)(k:Nat) where
 g:Addr
 gd:FuncData
 ok:a0I P w K mg base CX0 k g gd ps sp
 b:a1K K gd ps []
 kp:PySem.W.keepIn K (.ref g)=true
 m:mg name=some (.ref g)
theorem pcF{X:Cx}{ps:List Str}{x:Str}{sp:Sp}{k:Nat}{e:Expr}{es:List Expr}{t:TA}{p pos:Pos}(G:Fns X.prog X.w X.K X.mg X.base ps x sp k)(hr:a2I k X.A)(ha:PA X (e::es) t)(hg:Gl X x:=by rfl)(hdb:(x==("__debug__":Str))=false:=by decide)(he:starEach (e::es) X.env=(false,eval e X.env)::starEach es X.env:=by rfl)(hpl:(backTo pos (starEach es X.env)).any (·.1)=false:=by rfl):PE X (.Call (.Name x p) (e::es) [] pos) (tCall sp [] E0 t):=a4K G.ok hr hg G.m G.kp G.b .nil a1g ha hdb he hpl
def Fns.up{P:Program}{w:World}{K:PySem.W.Frag}{mg:Str->Option Value}{base:Heap}{ps:List Str}{name:Str}{sp:Sp}{j k:Nat}(f:Fns P w K mg base ps name sp j)(h:j<=k):Fns P w K mg base ps name sp k:=⟨f.g,f.gd,f.ok.mono h,f.b,f.kp,f.m⟩
def tMid(t:TS):TS:=λD σ H=>∃Mid:St->Hp->Prop,t {D with nx:=Mid} σ H/\∀σ' H',Mid σ' H'->D.nx σ' H'
theorem a3J{X:Cx}{st:Stmt}{t:TS}(h:PS X st t):PS X st (tMid t):=by
 intro pins s σ H D I ⟨Mid,h1,h2⟩;refine thn (h pins s σ H _ I h1) λfl s' q=>?_;cases fl with
 |next=>obtain⟨σ',H',I',m⟩:=q;exact⟨σ',H',I',h2 _ _ m⟩
 |brk=>exact q
 |cont=>exact q
 |ret u=>exact q
def eMid(t:TE):TE:=λσ H Q=>∃Mid:V->Hp->Prop,t σ H Mid/\∀v H',Mid v H'->Q v H'
theorem a3j{t:TE}(h:PE X e t):PE X e (eMid t):=by
 intro pins s σ H Q I ⟨Mid,h1,h2⟩;exact thn (h pins s σ H _ I h1) λu s' ⟨v,H',I',r,m⟩=>⟨v,H',I',r,h2 _ _ m⟩
theorem a4v{t:TE}:a2E (eMid t):=λσ H Q Q' h ⟨Mid,h1,h2⟩=>⟨Mid,h1,λv H' m=>h _ _ (h2 v H' m)⟩
structure Wok(b:Int)(m:Nat)(ws:List (List Int)):Prop where
 len:∀w∈ws,w.length<=m
 let':∀w∈ws,∀x∈w,0<=x/\x<b
theorem ixL(K:PySem.W.Frag)(h:X.K=K:=by rfl):IxR X (rIxL K):=by subst h;exact a0m
theorem ixT(K:PySem.W.Frag)(h:X.K=K:=by rfl):IxR X (rIxT K):=by subst h;exact a0D
def rLen(K:PySem.W.Frag):List V->Hp->VK->Prop:=λxs H Q=>∃p ys,xs=[.ref p]/\(SqL K H p ys\/SqT K H p ys)/\Q (.int ys.length) H
theorem lenS(K:PySem.W.Frag)(h:X.K=K:=by rfl):a2v X (.builtin "len") (rLen K):=by subst h;exact a2k
def b1l(K:PySem.W.Frag):List V->Hp->VK->Prop:=λxs H Q=>∃p ys,xs=[.ref p]/\((SqL K H p ys/\∀l,H l=none->Q (.ref l) (upd H l (.tup ys)))\/(SqT K H p ys/\Q (.ref p) H))
theorem tupleK(K:PySem.W.Frag)(h:X.K=K:=by rfl):a2v X (.type "tuple") (b1l K):=by subst h;exact a0A
theorem Wd.upd{w:List Int}(hl:H l=some (.lst ls))(h:Wd H x w):Wd (upd H l (.lst ls')) x w:=by
 obtain⟨a,xs,rfl,e,p⟩:=h;exact⟨a,xs,rfl,by rw[a0i (a0B e hl (by intro z;cases z))];exact e,p⟩
theorem Ws.upd(hl:H l=some (.lst ls))(h:Ws H xs ws):Ws (upd H l (.lst ls')) xs ws:=Paired.mapP h λ_ _ q=>Wd.upd hl q
section
variable {X:Cx}{elt iter:Expr}{tg:Str}{tp:Pos}{cs:List Expr}{scope:Scope}{pos:Pos}{tc:TT}{te:TE}{M:List Str}
end
def a4m(h:Heap)(e:Addr)(cls:Value)(od:Option Addr)(hd:Value):Prop:=∃oe vs,h.get? e=some oe/\oe.cls=cls/\oe.dict=od/\oe.data=.fields vs/\vs[1]?=some hd
def b2U(h:Heap)(T:Addr)(fl:Value):Prop:=∃oT ts,h.get? T=some oT/\oT.data=.fields ts/\ts[3]?=some fl
def Mv(S fs:List Addr)(h h':Heap):Prop:=∀b o,h.get? b=some o->b∉S->(b∉fs->h'.get? b=some o)/\∃sl,h'.get? b=some {o with slots:=sl}
section
variable {S S' fs:List Addr}{h h1 h2:Heap}
theorem Mv.trans(a:Mv S fs h h1)(b:Mv S fs h1 h2):Mv S fs h h2:=λc o e n=>by
 obtain⟨k,sl,e1⟩:=a c o e n;obtain⟨_,sl2,e2⟩:=b c _ e1 n;exact⟨λnf=>(b c o (k nf) n).1 nf,sl2,e2⟩
theorem Mv.mono(a:Mv S fs h h1)(hs:∀b∈S,b∈S'):Mv S' fs h h1:=λb o e n=>a b o e λz=>n (hs b z)
theorem Mv.frames(a:Mv S fs h h1){base:Heap}(hl:h.FunFrames base l)(hS:∀b∈S,∀o,h.get? b=some o->∃vs,o.data=.fields vs):h1.FunFrames base l:=
 hl.of_keeps λb o hb hn=>by
  obtain⟨_,sl,e⟩:=a b o hb λz=>by
   obtain⟨vs,q⟩:=hS b z o hb;exact hn vs q
  exact⟨_,e,rfl⟩
end
theorem a4n(f:Array Value->Array Value)(o:Obj):(Obj.mapFields f o).dict=o.dict:=by
 obtain⟨c,d,dt,sl⟩:=o;cases dt<;>rfl
section
variable {M:Model}{A:Around}{E:Value->Shared->Prop}{s:Shared}{env:Env}{outer:List Env}{base:Heap}{L e T:Addr}{cls hd fl head:Value}{od:Option Addr}{S:List Addr}{Q:Unit->Shared->Prop}
theorem a5J(hfr:A.frames=some (env::outer))(hl:s.heap.FunFrames base (env::outer))(hf:env.frame=some L)(x:a4m s.heap e cls od hd)
  (h:∀h' T,Mv [e] (frs (env::outer)) s.heap h'->s.heap.objs.size<=T->T≠e->a4m h' e cls od (.ref T)->b2U h' T (rawInt L)->Q () {s with heap:=h' }) :
  wpAny M A (do let a <-frameOf env;let pl <-entryPlaceOf L hadNext;let b <-EntryCells.newEntry head a .none (rawInt L) .none pl;setField (.ref e) 1 b) Q E s:=by
 obtain⟨oe,vs,he,hc,hdd,hd1,h1⟩:=x;have hsz:1<vs.size:=(c0g.mp h1).1;have ne:e∉frs (env::outer):=λhm=>by
  obtain⟨_,o,ho,hn⟩:=hl.mem hm;rw[he] at ho;cases ho;exact hn vs hd1
 refine b6c (wpAny_frameOf_fun hfr hl hf λg so=>?_);refine b6c (wpAny_entryPlaceOf λpl hp=>?_);unfold EntryCells.newEntry newFields;refine b6c (b7l ?_ (hp.sizeOk5 _ _ _ _ _));have e1:g.get? e=some oe:=(so.2.1 e ne).trans he;have hTe:g.objs.size≠e:=b7Y (b6t e1);have t3:([head,.ref L,.none,rawInt L,.none]++(if pl.isEmpty then List.replicate 6 Value.none else pl)).toArray[3]?=some (rawInt L):=by simp
 generalize ([head,.ref L,.none,rawInt L,.none]++(if pl.isEmpty then List.replicate 6 Value.none else pl)).toArray=ts at t3 ⊢;have e2:=b6e (h:=g) {cls:=.type "traceback",dict:=none,data:=.fields ts} e1;refine b9e e2 hd1 hsz (h _ g.objs.size (λb o hb hn=>?_) (by rw[so.1];exact b6k _) hTe ?_ ?_)
 ·have hbe:b≠e:=λz=>hn (by rw[z];exact b7O);have mv:∀o',g.get? b=some o'->((g.push {cls:=.type "traceback",dict:=none,data:=.fields ts}).update e (Obj.mapFields (·.setIfInBounds 1 (Value.ref g.objs.size)))).get? b=some o':=λo' q=>by
   rw[b8k _ _ (Ne.symm hbe)];exact b6e _ q
  obtain⟨sl,q⟩:=so.2.2 b o hb;exact⟨λnf=>mv o ((so.2.1 b nf).trans hb),sl,mv _ q⟩
 ·exact⟨_,_,b7Z _ e2 (b8P (b7P hd1 _)),(c0t _ _).trans hc,(a4n _ _).trans hdd,b7P hd1 _,by simp[hsz]⟩
 ·refine⟨{cls:=.type "traceback",dict:=none,data:=.fields ts},ts,?_,rfl,t3⟩;rw[b8k _ _ (Ne.symm hTe)];exact b6m g rfl
def b4m(h:Heap)(e:Addr)(cls:Value)(od:Option Addr)(S:List Addr):Prop:=
 e∈S/\(∀b∈S,∀o,h.get? b=some o->∃vs,o.data=.fields vs)/\∃hd,a4m h e cls od hd/\(hd=.none\/∃T,T∈S/\hd=.ref T/\T≠e/\b2U h T .none)
theorem b2V(t:b2U s.heap T fl)(h:∀h',h'.objs.size=s.heap.objs.size->b2U h' T x->(∀b,b≠T->h'.get? b=s.heap.get? b)->Q () {s with heap:=h' }):wpAny M A (setField (.ref T) 3 x) Q E s:=by
 obtain⟨oT,ts,hT,hdT,h3⟩:=t;have hsz:3<ts.size:=(c0g.mp h3).1;exact b9e hT hdT hsz (h _ (Heap.size_after_update ..) ⟨_,_,b7Z _ hT (b8P (b7P hdT _)),b7P hdT _,by simp[hsz]⟩ λb hb=>b8k _ _ (Ne.symm hb))
theorem a4m.other(x:a4m h e cls od hd)(k:h'.get? e=h.get? e):a4m h' e cls od hd:=by
 obtain⟨oe,vs,he,r⟩:=x;exact⟨oe,vs,k.trans he,r⟩
theorem b4n(hfr:A.frames=some (env::outer))(hl:s.heap.FunFrames base (env::outer))(hf:env.frame=some L)(lo:b4m s.heap e cls od S)
  (h:∀h' T,Mv S (frs (env::outer)) s.heap h'->s.heap.objs.size<=T->T≠e->a4m h' e cls od (.ref T)->b2U h' T (rawInt L)->Q () {s with heap:=h' }):wpAny M A (noteFrame (.ref e) env) Q E s:=by
 obtain⟨heS,hSf,hd,x,hh⟩:=lo;unfold noteFrame;simp only[hf];obtain⟨oe,vs,he,hc,hdd,hd1,h1⟩:=id x;refine b6c (b7a he hd1 h1 ?_);rcases hh with rfl|⟨T,hTS,rfl,hTe,tb⟩
 ·rw[if_neg (by decide)];exact a5J hfr hl hf x λh' T m hs hT x' t'=>h h' T (m.mono λb hb=>by rw[b6r.mp hb];exact heS) hs hT x' t'
 ·rw[if_pos (show(Value.ref T !=Value.none)=true from by simp)];obtain⟨oT,ts,hT,hdT,h3⟩:=id tb;refine b6c (b7a hT hdT h3 ?_);rw[if_neg (show ¬((Value.none==rawInt L)=true) from by simp[rawInt])];refine b6c (b2V tb λg m1 t1 k1=>?_);have m2:Mv S (frs (env::outer)) s.heap g:=λb o hb hn=>by
   have hbT:b≠T:=λz=>hn (by rw[z];exact hTS);have q:=(k1 b hbT).trans hb;exact⟨λ_=>q,o.slots,q⟩
  refine a5J (s:={s with heap:=g}) hfr (m2.frames hl hSf) hf (x.other (k1 e (Ne.symm hTe))) λh' T' m hs hT' x' t'=>?_;exact h h' T' (m2.trans (m.mono λb hb=>by rw[b6r.mp hb];exact heS)) (by rw[<-m1];exact hs) hT' x' t'
theorem a5K(x:a4m s.heap e cls od (.ref T))(t:b2U s.heap T fl)(hTe:T≠e)(h:∀h',h'.objs.size=s.heap.objs.size->a4m h' e cls od (.ref T)->b2U h' T .none->(∀b,b≠T->h'.get? b=s.heap.get? b)->Q () {s with heap:=h' }) :
  wpAny M A (setFlight (.ref e) none) Q E s:=by
 obtain⟨oe,vs,he,hc,hdd,hd1,h1⟩:=id x;unfold setFlight;refine b6c (b7a he hd1 h1 ?_);rw[if_pos (show(Value.ref T !=Value.none)=true from by simp)];exact b2V t λg m1 t1 k1=>h g m1 (x.other (k1 e (Ne.symm hTe))) t1 k1
theorem b4o(hfr:A.frames=some (env::outer))(hl:s.heap.FunFrames base (env::outer))(hf:env.frame=some L)(lo:b4m s.heap e cls od S)
  (h:∀h' T,Mv S (frs (env::outer)) s.heap h'->s.heap.objs.size<=T->T≠e->a4m h' e cls od (.ref T)->b2U h' T .none->Q () {s with heap:=h' }) :
  wpAny M A (noteFrame (.ref e) env) (λ_ s1=>wpAny M A (setFlight (.ref e) none) Q E s1) E s:=by
 refine b4n hfr hl hf lo λg T m hs hT x t=>?_;refine a5K (s:={s with heap:=g}) x t hT λh' m1 x' t' k1=>?_;have mm:Mv S (frs (env::outer)) s.heap h':=λb o hb hn=>by
  have hbT:b≠T:=b6L (b6P (b6t hb) hs);obtain⟨q1,sl,q2⟩:=m b o hb hn;exact⟨λnf=>(k1 b hbT).trans (q1 nf),sl,(k1 b hbT).trans q2⟩
 exact h h' T mm hs hT x' t'
end
section
variable {X:Cx}{pins:List (Addr×Obj)}{σ:St}{H H':Hp}{s:Shared}{h':Heap}{b:Addr}{S:List Addr}
def Off(X:Cx)(pins:List (Addr×Obj))(b:Addr):Prop:=
 (∀o,X.s₀.heap.get? b=some o->b∈X.ex)/\b≠X.env.locals/\(∀x c,X.env.cells.lookup x=some c->c≠b)/\∀p∈X.pn++pins,p.1≠b
theorem Inv.off(I:Inv X pins σ H s)(n:s.heap.get? b=none):Off X pins b:=by
 refine⟨λo e=>?_,λz=>?_,λx c e z=>?_,λp hp z=>?_⟩
 ·by_cases hx:b∈X.ex
  ·exact hx
  ·obtain⟨o',e'⟩:=I.base.there b o e hx;rw[n] at e';cases e'
 ·obtain⟨m,⟨o,_,_,ho,_⟩,_⟩:=I.loc;rw[z,ho] at n;cases n
 ·obtain⟨v,o,ho,_⟩:=I.cell x c e;rw[z,n] at ho;cases ho
 ·have q:=(I.pin p hp).1;rw[z,n] at q;cases q
theorem Inv.moved(I:Inv X pins σ H s)(m:Mv S (frs X.stack) s.heap h')(hS:∀b∈S,Off X pins b/\H b=none):Inv X pins σ H {s with heap:=h',toks:=t' }:=by
 have neL:∀b o,X.s₀.heap.get? b=some o->b≠X.env.locals:=λb o e=>b6L (b6P (b6t e) I.ok.above);have nS:∀b o,X.s₀.heap.get? b=some o->b∉X.ex->b∉S:=λb o e hx z=>hx ((hS b z).1.1 o e);have nst:∀b,b≠X.env.locals->b∉X.fs->b∉frs X.stack:=λb h1 h2 z=>(b6D.mp (I.stkSub b z)).elim h1 h2;have cellM:∀x c,X.env.cells.lookup x=some c->∀v,s.heap.IsCell c v->h'.IsCell c v:=λx c e v ⟨o,ho,hd⟩=>by
  obtain⟨_,sl,q⟩:=m c o ho λz=>(hS c z).1.2.2.1 x c e rfl;exact⟨_,q,hd⟩
 refine⟨I.ok,I.os,I.bare,⟨λb o e n hb hx=>?_,λb o e n hb hx=>?_,I.base.free,λb o e hx=>?_,I.base.tups,I.base.frzs,I.base.tbls⟩,?_,λx c e=>?_,I.free,I.freeC,λp hp=>?_,λb u e=>?_,I.len⟩
 ·exact(m b o (I.base.keep b o e n hb hx) (nS b o e hx)).1 (nst b (neL b o e) hb)
 ·obtain⟨sl,e1⟩:=I.base.slot b o e n hb hx;obtain⟨_,sl',e2⟩:=m b _ e1 (nS b o e hx);exact⟨sl',e2⟩
 ·obtain⟨o',e1⟩:=I.base.there b o e hx;obtain⟨_,sl,e2⟩:=m b _ e1 (nS b o e hx);exact⟨_,e2⟩
 ·obtain⟨mm,hn,hl⟩:=I.loc;refine⟨mm,?_,λi x v e1 e2 e3=>?_⟩
  ·obtain⟨o,es,ep,ho,r⟩:=hn;obtain⟨_,sl,q⟩:=m _ o ho λz=>(hS _ z).1.2.1 rfl;exact⟨_,es,ep,q,r⟩
  ·obtain⟨u,r,l⟩:=hl i x v e1 e2 e3;refine⟨u,r,?_⟩;rcases l with l|⟨k,c,e,z⟩
   ·exact .inl l
   ·exact .inr ⟨k,c,e,cellM x c e _ z⟩
 ·obtain⟨v,z⟩:=I.cell x c e;exact⟨v,cellM x c e v z⟩
 ·obtain⟨e,n,ne,nf,d⟩:=I.pin p hp;exact⟨(m _ _ e λz=>(hS _ z).1.2.2.2 p hp rfl).1 (nst _ ne nf),n,ne,nf,d⟩
 ·refine(I.hok b u e).stay (λc v hc q=>?_) (λ_ q=>q) λ_ _ q=>q;have ht:H c≠none:=by
   rcases hc with rfl|hc
   ·rw[e];exact λz=>nomatch z
   ·rw[hc];exact λz=>nomatch z
  exact(m c v q λz=>ht (hS c z).2).1 λz=>ht (I.stkFree c z)
theorem Inv.track(I:Inv X pins σ H s)(ob:Off X pins b)(n:H b=none)(hφ:φ s.heap)(ho:∃o,s.heap.get? b=some o)(st:∀h1 h2:Heap,φ h1->(∀o,h1.get? b=some o->h2.get? b=some o)->φ h2)
  (nf:b∉X.fs):Inv X pins σ (upd H b (.ext φ)) s:=by
 refine⟨I.ok,I.os,I.bare,⟨I.base.keep,I.base.slot,λc o e n' hx=>?_,I.base.there,λc xs e=>?_,λc o u e=>?_,λc ps e=>?_⟩,I.loc,I.cell,?_,λx c e=>?_,λp hp=>?_,λc u e=>?_,I.len⟩
 ·have hcb:c≠b:=λz=>by
   subst z;exact hx (ob.1 o e)
  rw[a0i hcb];exact I.base.free c o e n' hx
 ·rw[a0i (a0N (I.base.tups c xs e) n)];exact I.base.tups c xs e
 ·rw[a0i (a0N (I.base.frzs c o u e) n)];exact I.base.frzs c o u e
 ·obtain⟨more,q⟩:=I.base.tbls c ps e;exact⟨more,by rw[a0i (a0N q n)];exact q⟩
 ·rw[a0i (Ne.symm ob.2.1)];exact I.free
 ·rw[a0i (ob.2.2.1 x c e)];exact I.freeC x c e
 ·obtain⟨e,n',ne,nf',d⟩:=I.pin p hp;exact⟨e,by rw[a0i (ob.2.2.2 p hp)];exact n',ne,nf',d⟩
 ·by_cases hc:c=b
  ·subst hc;rw[a0b] at e;cases e;exact⟨hφ,ho,st⟩
  ·rw[a0i hc] at e;refine(I.hok c u e).stay (λ_ _ _ q=>q) (λd r=>?_) λd xs r=>?_
   ·rw[a0i (a0N r n)];exact r
   ·rw[a0i (a0N r n)];exact r
end
def CXF(P:Program)(w:World):CXT:=λouter H s E e s'=>∃(ea:Addr)(cls:Value)(od:Option Addr)(S:List Addr)(H':Hp),e=.ref ea/\s'.os=s.os/\AllBare s'.gens /\
 Un (frs outer) [] H H' s.heap s'.heap/\HOk P w H' s'.heap/\b4m s'.heap ea cls od S/\(∀b∈S,s.heap.get? b=none/\H' b=none)/\E cls od H'
section
variable {P:Program}{w:World}{K:PySem.W.Frag}{mg:Str->Option Value}{base:Heap}{N:List Str}{qual:Str}{scope:Scope}{f:Addr}{cd:Value}{A:Around}{outer:List Env}{s₀:Shared}{H₀:Hp}{E:XK}
theorem Fun.okF{x qual:Str}{st:Stmt}{f:Addr}{fd:FuncData}{N ps:List Str}{k:Nat}{sp:Sp}(F:Fun K x qual st f fd)(S:a0k N ps (a0g st))(len:∀vs H Q E,sp vs H Q E->vs.length=ps.length)
  (hbody:∀(cdv:Value)(A:Around)(outer:List Env)(s:Shared)(H:Hp)(vs:List V)(Q:VK)(E:XK),a2I k (A.deeper (envOfC qual (a0g st) s.heap.objs.size f cdv))->sp vs H Q E ->
   ∃t,PSs (b2M (CXF P w) P w K mg base N qual (a0g st) f cdv A outer s H E) (a0Q st) t/\t {nx:=λ_ H'=>Q .non H',rt:=Q} (start N vs) H):a0I P w K mg base (CXF P w) (k+1) f fd ps sp:=by
 obtain⟨oc,od,kV,doc,pm,an,cdv,ct,osl,rfl,lk,hcd⟩:=F.ex;exact fn_of lk hcd S len λA outer s H vs Q E hr hsp=>hbody cdv A outer s H vs Q E hr hsp
end
abbrev Cx.tryx(X:Cx)(pn:List (Addr×Obj))(xe:Value->Shared->Prop):Cx:={X with pn:=pn,xe:=xe}
abbrev Cx.hand(X:Cx)(ea:Addr):Cx:={X with A:=X.A.mark (some (.ref ea)),calm:=false,xe:=λ_ _=>False}
section
variable {X:Cx}{pins pins':List (Addr×Obj)}{σ:St}{H:Hp}{s:Shared}{h':Heap}{ea:Addr}{xe:Value->Shared->Prop}
theorem Inv.tryx(I:Inv X pins σ H s)(xe:Value->Shared->Prop):Inv (X.tryx (X.pn++pins) xe) [] σ H s:=
 ⟨⟨I.ok.mod,I.ok.kind,I.ok.glob,I.ok.blt,I.ok.above,I.ok.inj,I.ok.has,I.ok.cab,I.ok.hd,I.ok.frames,I.ok.stk,I.ok.exf,I.ok.bs,I.ok.bsz,I.ok.noex,I.ok.exfs,I.ok.funs,I.ok.frf⟩,I.os,I.bare,I.base,I.loc,I.cell,I.free,I.freeC,
  λp hp=>I.pin p (by rw[b7e] at hp;exact hp),I.hok,I.len⟩
theorem Inv.untryx(ok:X.Ok)(I:Inv (X.tryx (X.pn++pins) xe) pins' σ H s):Inv X pins σ H s:=
 ⟨ok,I.os,I.bare,I.base,I.loc,I.cell,I.free,I.freeC,λp hp=>I.pin p (b7S _ hp),I.hok,I.len⟩
theorem Inv.hand(I:Inv X pins σ H s)(ea:Addr):Inv (X.hand ea) pins σ H s:=
 ⟨⟨I.ok.mod,I.ok.kind,I.ok.glob,I.ok.blt,I.ok.above,I.ok.inj,I.ok.has,I.ok.cab,λz=>absurd (show false=true from z) (by decide),I.ok.frames,I.ok.stk,I.ok.exf,I.ok.bs,I.ok.bsz,I.ok.noex,I.ok.exfs,I.ok.funs,I.ok.frf⟩,I.os,I.bare,I.base,I.loc,I.cell,I.free,I.freeC,I.pin,I.hok,I.len⟩
theorem Inv.unhand(ok:X.Ok)(I:Inv (X.hand ea) pins σ H s):Inv X pins σ H s:=⟨ok,I.os,I.bare,I.base,I.loc,I.cell,I.free,I.freeC,I.pin,I.hok,I.len⟩
end
def excO(ea C:Addr)(od:Option Addr):HO:=.ext λh=>∃oe vs,h.get? ea=some oe/\oe.cls=.ref C/\oe.dict=od/\oe.data=.fields vs
structure Hcl(K:PySem.W.Frag)(D:Addr):Prop where
 ty:PySem.W.typeIn K (.ref D)=some (.type "type")
 cl:(PySem.W.clsIn K D).isSome=true
 be:PySem.W.subIn K (.ref D) (.type "BaseException")=some true
set_option tactic.hygienic true in
theorem a6B{K:PySem.W.Frag}{M:Model}{A:Around}{E:Value->Shared->Prop}{s:Shared}{ea C D:Addr}{oe:Obj}{Q:Bool->Shared->Prop}(X:K.In s.heap)(he:s.heap.get? ea=some oe)(hc:oe.cls=.ref C)(hD:Hcl K D)
  (sb:PySem.W.subIn K (.ref C) (.ref D)=some true)(h:Q true s):wpAny M A (excMatches (.ref ea) (.ref D)) Q E s:=by
 obtain⟨hp,g,d,tk,os⟩:=s;have L1:PySem.W.Looks M hp (typeOf (.ref D)) (.type "type"):=PySem.W.looks_typeIn X hD.ty;have L2:PySem.W.Looks M hp (isType (.ref D)) true:=by
  have q:=hD.cl;unfold PySem.W.clsIn at q;split at q
  ·rename_i ho;intro A' Q' E' s' k q;unfold isType loadHead;exact b6c (wpAny_loadPart (k _ _ (X _ _ ho)) (b6j q))
  ·cases q
 have L3:PySem.W.Looks M hp (isSubtype (.ref D) (.type "BaseException")) true:=PySem.W.looks_subIn X hD.be;have L4:PySem.W.Looks M hp (isSubtype (.ref C) (.ref D)) true:=PySem.W.looks_subIn X sb;have L5:PySem.W.Looks M hp (typeOf (.ref ea)) (.ref C):=hc▸(PySem.W.Looks.ld he).andThen .now;have L6:PySem.W.Looks M hp (isSubtype (.type "type") (.type "tuple")) false:=.of_pure tc_notTuple;unfold excMatches isInstance
 repeat (first|with_reducible refine PySem.W.Looks.at (by assumption) ?_|wp_step)
 exact h
def a6C(X:Cx)(Ex:St->XK):Prop:=∀(pins:List (Addr×Obj))(σ:St)(H:Hp)(s:Shared)(e:Value)(s':Shared),Inv X pins σ H s->CXF X.prog X.w X.stack H s (Ex σ) e s'->X.xe e s'
structure Ek(K:PySem.W.Frag)(C:Addr):Prop where
 cl:(PySem.W.clsIn K C).isSome=true
 ga:PySem.W.findIn K (.ref C) "__getattribute__"=some (some (.builtin "BaseException.__getattribute__"))
 gt:PySem.W.findIn K (.ref C) "__getattr__"=some none
 ca:PySem.W.findIn K (.ref C) "__class__"=some (some (.builtin "object.__class__"))
 be:PySem.W.subIn K (.ref C) (.type "BaseException")=some true
 ob:PySem.W.mroIn K C (.type "object")=some true
 cg:PySem.W.specialIn K (.builtin "object.__class__") "__get__"=some (some (.builtin "getset_descriptor.__get__"))
 ct:PySem.W.takesIn K (.builtin "object.__class__")=some true
section
variable {K:PySem.W.Frag}{prog:Program}{w:World}{A:Around}{E:Value->Shared->Prop}{s:Shared}{x C:Addr}{ox:Obj}{od:Option Obj}{name:Str}{tk:Tok}
end
def xcIn(K:PySem.W.Frag)(C:Addr):Bool:=
 PySem.W.typeIn K (.ref C)==some (.type "type")&&(PySem.W.clsIn K C).isSome&&PySem.W.subIn K (.ref C) (.type "BaseException")==some true &&
 PySem.W.findIn K (.ref C) "__getattribute__" == some (some (.builtin "BaseException.__getattribute__"))&&PySem.W.findIn K (.ref C) "__getattr__" == some none&&PySem.W.findIn K (.ref C) "__class__" == some (some (.builtin "object.__class__")) &&
 PySem.W.mroIn K C (.type "object")==some true&&PySem.W.specialIn K (.builtin "object.__class__") "__get__" == some (some (.builtin "getset_descriptor.__get__"))&&PySem.W.takesIn K (.builtin "object.__class__")==some true &&
 PySem.W.subIn K (.ref C) (.ref C)==some true&&PySem.W.subIn K (.ref C) (.type "ValueError")==some true
structure XC(K:PySem.W.Frag)(C:Addr):Prop where
 h:Hcl K C
 e:Ek K C
 sf:PySem.W.subIn K (.ref C) (.ref C)=some true
 ve:PySem.W.subIn K (.ref C) (.type "ValueError")=some true
theorem XC.of{K:PySem.W.Frag}{C:Addr}(q:xcIn K C=true):XC K C:=by
 unfold xcIn at q;simp only[b6Y,b9C] at q;obtain⟨⟨⟨⟨⟨⟨⟨⟨⟨⟨q1,q2⟩,q3⟩,q4⟩,q5⟩,q6⟩,q7⟩,q8⟩,q9⟩,q10⟩,q11⟩:=q;exact⟨⟨q1,q2,q3⟩,⟨q2,q4,q5,q6,q3,q7,q8,q9⟩,q10,q11⟩
section
variable {K:PySem.W.Frag}{C D:Addr}
end
structure Fns'(P:Program)(w:World)(K:PySem.W.Frag)(mg:Str->Option Value)(base:Heap)(ps:List Str)(name:Str)(sp:Sp)(k:Nat) where
 g:Addr
 gd:FuncData
 ok:a0I P w K mg base (CXF P w) k g gd ps sp
 b:a1K K gd ps []
 kp:PySem.W.keepIn K (.ref g)=true
 m:mg name=some (.ref g)
def Fns'.up{P:Program}{w:World}{K:PySem.W.Frag}{mg:Str->Option Value}{base:Heap}{ps:List Str}{name:Str}{sp:Sp}{j k:Nat}(f:Fns' P w K mg base ps name sp j)(h:j<=k):Fns' P w K mg base ps name sp k:=⟨f.g,f.gd,f.ok.mono h,f.b,f.kp,f.m⟩
theorem b2W{X:Cx}(K:PySem.W.Frag){T id:String}{name:Str}{o e:Expr}{es:List Expr}{apos cpos:Pos}{to:TE}{t:TA}{r:V->List V->Hp->VK->Prop}(pa:PlainAttrs T)(slot:Slot T name id)(hty:typeOf (.builtin id)=pure (.type "method_descriptor"))(hm:MtR X id r)(ho:PE X o to)(ha:PA X (e::es) t)
  (hbase:attributeBase o name X.env (eval o X.env)=eval o X.env:=by rfl)
  (hfew:((backTo cpos (starEach (e::es) X.env)).all (λx=>!x.1)&&(backToKw cpos (keywordEach [] X.env)).all (λx=>x.1.isSome)&&decide ((e::es).length+([]:List Keyword).length+(if ([]:List Keyword).isEmpty then 0 else 1)<30))=true:=by rfl)
  (hline:(apos.endLine==cpos.line)=true:=by rfl)(hs:starEach (e::es) X.env=(false,eval e X.env)::starEach es X.env:=by rfl)(hplain:(backTo cpos (starEach es X.env)).any (·.1)=false:=by rfl)(hK:X.K=K:=by rfl) :
  PE X (.Call (.Attribute o name apos) (e::es) [] cpos) (tBM K T r to t):=by
 subst hK;exact a1N pa slot hty hm ho ha hbase hfew hline hs hplain
theorem a3K{P:Program}{w:World}(x:a1s P w H h a (.tup xs)):xs.length<=sizeLine/\∃its:List Value,a0P xs its/\PyProof.Rows.IsTup h a its.toArray:=by
 obtain⟨z,its,r,p⟩:=x;exact⟨z,its,r,a5t.is p⟩
def SqB(b:Bool)(K:PySem.W.Frag)(H:Hp)(a:Addr)(xs:List V):Prop:=match b with
 |true=>SqL K H a xs
 |false=>SqT K H a xs
theorem a0r.seqT{K:PySem.W.Frag}{H H':Hp}{a:Addr}{xs:List V}(e:a0r H H')(h:SqT K H a xs):SqT K H' a xs:=by
 rcases h with (h|⟨o,h⟩)|h
 ·exact .inl (.inl (e _ _ h))
 ·exact .inl (.inr ⟨o,e _ _ h⟩)
 ·exact .inr h
theorem SqB.same{b:Bool}{K:PySem.W.Frag}{H H':Hp}{a:Addr}{xs:List V}(sm:a0r H H')(h:SqB b K H a xs):SqB b K H' a xs:=by
 cases b with
 |true=>exact sm.seq h
 |false=>exact sm.seqT h
def Itb(b:Bool)(K:PySem.W.Frag)(a:Addr):It:=match b with
 |true=>Itl K a
 |false=>Itt K a
def iSeq(K:PySem.W.Frag)(tl:TE):TI:=λσ H R=>tl σ H λx H1=>∃a b,x=.ref a/\(∃xs,SqB b K H1 a xs)/\R (Itb b K a) H1
theorem b2X(hl:PE X l tl):PI X tg l (iSeq X.K tl):=by
 intro pins s σ H R I h;refine thn (hl pins s σ H _ I h) λv s1 ⟨x,H1,I1,r1,q1⟩=>?_;obtain⟨a,b,e,⟨xs,hq⟩,q⟩:=q1;subst e;cases r1;cases b with
 |true=>
  obtain⟨its,rv,p,hz⟩:=I1.list hq;refine b8y p.isList ?_;refine⟨s1.heap.objs.size,[s1.heap.objs.size],_,_,H1,rfl,I1.kept (t':=s1.toks) λb o e=>b6e _ e,a5w a _,⟨_,b6m _ rfl,rfl,rfl⟩,λb hb=>?_,q⟩;have e:b=s1.heap.objs.size:=by simpa using hb
  subst e;exact I1.fpOk (b6k _) (I1.hok.fresh (b6k _))
 |false=>
  obtain⟨its,rv,p,hz⟩:=I1.tuple hq;refine b8t (show s1.heap.IsTuple a its.toArray from p) ?_;refine⟨s1.heap.objs.size,[s1.heap.objs.size],_,_,H1,rfl,I1.kept (t':=s1.toks) λb o e=>b6e _ e,a4r a _,⟨_,b6m _ rfl,rfl,rfl⟩,λb hb=>?_,q⟩;have e:b=s1.heap.objs.size:=by simpa using hb
  subst e;exact I1.fpOk (b6k _) (I1.hok.fresh (b6k _))
def tCompS(K:PySem.W.Frag)(tl:TE)(tc:TT)(te:TE):TE:=λσ H Q=>tl σ H λv H1=>∃a xs b,v=.ref a/\SqB b K H1 a xs/\∀d,H1 d=none ->
 ∃Pv:Nat->Hp->Prop,Pv 0 (upd H1 d (.lst []))/\(∀i H,i<=xs.length->Pv i H->SqB b K H a xs)/\(∀i x H,xs[i]?=some x->Pv i H->a5I tc te σ d x H (Pv (i+1)))/\∀H,Pv xs.length H->Q (.ref d) H
theorem b1m{pos:Pos}(hc:X.calm=true)(S:a0x scope X.env X.N M)(nd:(tg::M).Nodup)(hl:scope.names.lookup tg=some .local)(hi:PE X iter tl)(mo:a2E tl)
  (hin:a4l X scope tg M cs elt tc te)(hf:∀x,foldedSetIterable iter X.env x=pure x:=by intro _;rfl):PE X (.ListComp elt [⟨.Name tg tp,iter,cs,0⟩] scope pos) (tCompS X.K tl tc te):=by
 refine a2s hc S nd hl (b2X hi) hin (λσ H Q h=>?_) hf;refine mo σ H _ _ (λv H1 q=>?_) h;obtain⟨a,xs,b,e,j1,q⟩:=q;refine⟨a,b,e,⟨xs,j1⟩,λd hd=>?_⟩;obtain⟨Pv,h0,hl,hs,hd⟩:=q d hd;cases b with
 |true=>exact a3H (k:=1) (g:=a1B 0) Pv h0 hl hs hd
 |false=>exact a7b (k:=1) (g:=a1B 0) Pv h0 hl hs hd
def SIt:Bool->Heap->Addr->Addr->Nat->Prop
 |true,h,i,l,n=>h.IsTupleIter i l n
 |false,h,i,l,n=>h.IsListIter i l n
def SAt:Bool->Heap->Addr->Array Value->Prop
 |true,h,l,xs=>h.IsTuple l xs
 |false,h,l,xs=>h.IsList l xs
theorem SIt.at{k:Bool}(x:SIt k h i l n)(e:∀o,h.get? i=some o->h'.get? i=some o):SIt k h' i l n:=by
 cases k with
 |true=>obtain⟨o,ho,r⟩:=x;exact⟨o,e o ho,r⟩
 |false=>obtain⟨o,ho,r⟩:=x;exact⟨o,e o ho,r⟩
theorem SIt.obj{k:Bool}(x:SIt k h i l n):∃o,h.get? i=some o/\∀v,o.data≠.cell v:=by
 cases k with
 |true=>obtain⟨o,ho,_,d⟩:=x;exact⟨o,ho,λv z=>by rw[d] at z;cases z⟩
 |false=>obtain⟨o,ho,_,d⟩:=x;exact⟨o,ho,λv z=>by rw[d] at z;cases z⟩
theorem SAt.at{k:Bool}(x:SAt k h l xs)(e:∀o,h.get? l=some o->h'.get? l=some o):SAt k h' l xs:=by
 cases k with
 |true=>obtain⟨o,ho,r⟩:=x;exact⟨o,e o ho,r⟩
 |false=>obtain⟨o,ho,r⟩:=x;exact⟨o,e o ho,r⟩
section
variable {prog:Program}{w:World}{A:Around}{E:Value->Shared->Prop}{s:Shared}{k:Bool}{it l:Addr}{i:Nat}{xs:Array Value}{x:Value}{Q:Value->Shared->Prop}
theorem b1n(hit:SIt k s.heap it l i)(hl:SAt k s.heap l xs)(hx:xs[i]?=some x)(hQ:∀h',SIt k h' it l (i+1)->Heap.SameBut it s.heap h'->Q x {s with heap:=h' }) :
  wpAny (model prog w) A (Builtin.SmallTypes.nextOf (.ref it)) Q E s:=by
 cases k with
 |false=>exact wpAny_nextOf_list_item hit hl hx hQ
 |true=>
  have hit':s.heap.IsTupleIter it l i:=hit;obtain⟨o,ho,hc,hd⟩:=id hit';obtain⟨ol,hol,_,nl,hdl⟩:=hl;unfold Builtin.SmallTypes.nextOf;refine b6c (b6X (name:=Str.ofString "__next__") hit'.typeIs b8p (b7s b8p hit'.typeIs F.entry_tuple_iterator_next ?_ (b9S _)));show wpAny _ _ (field (.ref it) 0 >>= _) _ _ s;refine b6c (b7a ho hd (x:=.ref l) rfl ?_);show wpAny _ _ (if (Value.ref l==Value.none)=true then _ else _) _ _ s;rw[if_neg (show ¬((Value.ref l==Value.none)=true) from b6u)];show wpAny _ _ (field (.ref it) 1 >>= _) _ _ s;refine b6c (b7a ho hd (x:=.int i 0) rfl (show wpAny _ _ (seqItems? (.ref l) >>= _) _ _ s from b6c (b7N hol hdl ?_)));simp only[b6Q,hx];refine b6c (b9e ho hd (by simp) (b6j ⟨x,rfl,b6j (hQ _ ?_ (b7V ..))⟩));exact⟨_,b7Z _ ho (b8P (b7P hd _)),(c0t ..).trans hc,by rw[b7P hd];simp[rawInt]⟩
theorem endS(hh:A.handled=none)(hit:SIt k s.heap it l i)(hl:SAt k s.heap l xs)(hx:xs[i]?=none)(hE:∀h' e,Heap.ExtBut it s.heap h'->(∃o,h'.get? e=some o/\o.cls=.type "StopIteration")->E (.ref e) {s with heap:=h' }) :
  wpAny (model prog w) A (Builtin.SmallTypes.nextOf (.ref it)) Q E s:=by
 cases k with
 |false=>exact wpAny_nextOf_list_end hh hit hl hx hE
 |true=>
  have hit':s.heap.IsTupleIter it l i:=hit;obtain⟨o,ho,hc,hd⟩:=id hit';obtain⟨ol,hol,_,nl,hdl⟩:=hl;unfold Builtin.SmallTypes.nextOf;refine b6c (b6X (name:=Str.ofString "__next__") hit'.typeIs b8p (b7s b8p hit'.typeIs F.entry_tuple_iterator_next ?_ (b9S _)));show wpAny _ _ (field (.ref it) 0 >>= _) _ _ s;refine b6c (b7a ho hd (x:=.ref l) rfl ?_);show wpAny _ _ (if (Value.ref l==Value.none)=true then _ else _) _ _ s;rw[if_neg (show ¬((Value.ref l==Value.none)=true) from b6u)];show wpAny _ _ (field (.ref it) 1 >>= _) _ _ s;refine b6c (b7a ho hd (x:=.int i 0) rfl (show wpAny _ _ (seqItems? (.ref l) >>= _) _ _ s from b6c (b7N hol hdl ?_)));simp only[b6Q,hx];refine b6c (b8X (b6c (b9e ho hd (by simp) ?_)));show wpAny _ _ (newExc (.type "StopIteration") [] >>= _) _ _ _;refine b6c ?_;simp only[newExc,newTuple];refine b6c (b7l ?_ (by size_fits));refine b6c (m:=firstArgMember _ _) (wpAny_of_eq (a:=Value.none) (by first|rfl|(simp only[firstArgMember];rfl)) ?_);refine b7l ?_ (by size_fits);simp only[raiseNew];refine b6c (wpAny_handled ?_);rw[show A.in1.handled=none from hh];refine b6c (b6j (wpAny_throw ?_));exact hE _ _ (((b7V ..).extBut.push _).push _) ⟨_,b6m _ rfl,rfl⟩
end
structure ZAt(ka kb:Bool)(z TI TO i1 i2 l1 l2:Addr)(n:Nat)(h:Heap):Prop where
 zp:IsZip h z TI TO .none
 ti:IsPair h TI (.ref i1) (.ref i2)
 to_:∃a b,IsPair h TO a b
 a1:SIt ka h i1 l1 n
 a2:SIt kb h i2 l2 n
section
variable {prog:Program}{w:World}{A:Around}{E:Value->Shared->Prop}{s:Shared}{ka kb:Bool}{z TI TO i1 i2 l1 l2:Addr}{n:Nat}{xs ys:Array Value}{x y:Value}
theorem a9g{Q:Value->Shared->Prop}(D:ZipApart z TI TO i1 i2 l1 l2)(Z:ZAt ka kb z TI TO i1 i2 l1 l2 n s.heap)(hl1:SAt ka s.heap l1 xs)(hl2:SAt kb s.heap l2 ys)(hx:xs[n]?=some x)(hy:ys[n]?=some y)
  (hQ:∀h',IsZip h' z TI TO (rawInt s.heap.objs.size)->IsPair h' TO x y->SIt ka h' i1 l1 (n+1)->SIt kb h' i2 l2 (n+1)->IsPair h' s.heap.objs.size x y ->
   (∀c o,c≠z->c≠TO->c≠i1->c≠i2->s.heap.get? c=some o->h'.get? c=some o)->Q (.ref s.heap.objs.size) {s with heap:=h' }) :
  wpAny (model prog w) A (Builtin.«zip.__next__» ⟨[.ref z],[]⟩) (λfin s'=>∃v,fin=.done (.ret v)/\Q v s') E s:=by
 obtain⟨hz,hTI,⟨a,b,hTO⟩,h1,h2⟩:=Z;show wpAny _ _ (field (.ref z) 2 >>= _) _ _ _;refine b6c (b7a hz rfl (x:=.bool false) rfl ?_);show wpAny _ _ (field (.ref z) 3 >>= _) _ _ _;refine b6c (b7a hz rfl (x:=.ref TI) rfl (b6c (b7N hTI rfl ?_)));show wpAny _ _ (Builtin.SmallTypes.ownedTupleIsFree (.ref z) >>= _) _ _ _;refine b6c ?_;unfold Builtin.SmallTypes.ownedTupleIsFree;refine b6c (b7a hz rfl (x:=.none) rfl (b6j ?_));simp only[if_true];refine b6c (b8X (b6c (b7a hz rfl (x:=.ref TO) rfl (b6c (b7n hz (by simp) λg1 z1 b1=>?_)))));have z1':IsZip g1 z TI TO .ellipsis:=z1;have k1:∀c o,c≠z->s.heap.get? c=some o->g1.get? c=some o:=λc o hc e=>b1.extBut _ _ hc e;refine b6c ?_;simp only[List.zipIdx_cons,List.zipIdx_nil,b9U,List.forIn_nil];refine b6c (b6c (c0A ?_));show wpAny _ _ (Builtin.SmallTypes.nextOf (.ref i1) >>= _) _ _ _;refine b6c (b1n (s:={s with heap:=g1}) (h1.at λo e=>k1 _ o D.i1z e) (hl1.at λo e=>k1 _ o D.l1z e) hx λg2 h12 b2=>b6j ?_);have k2:∀c o,c≠z->c≠i1->s.heap.get? c=some o->g2.get? c=some o:=λc o hc hd e=>b2.extBut _ _ hd (k1 c o hc e);have o2:IsPair g2 TO a b:=k2 _ _ D.TOz D.TOi1 hTO;refine b6c (b7N o2 rfl (b6c (b9Q (s:={s with heap:=g2}) o2 λg3 o3 b3=>?_)));have o3':IsPair g3 TO x b:=o3;refine b6c (b9g (b6j ?_));refine b6c (b6c (c0A ?_));show wpAny _ _ (Builtin.SmallTypes.nextOf (.ref i2) >>= _) _ _ _;have k3:∀c o,c≠z->c≠i1->c≠TO->s.heap.get? c=some o->g3.get? c=some o:=λc o hc hd he e=>b3.extBut _ _ he (k2 c o hc hd e);refine b6c (b1n (s:={s with heap:=g3}) (h2.at λo e=>k3 _ o D.i2z D.i12.symm D.TOi2.symm e) (hl2.at λo e=>k3 _ o D.l2z D.l2i1 D.l2TO e) hy λg4 h24 b4=>b6j ?_);have o4:IsPair g4 TO x b:=b4.extBut _ _ D.TOi2 o3';refine b6c (b7N o4 rfl (b6c (b9Q (s:={s with heap:=g4}) o4 λg5 o5 b5=>?_)));have o5':IsPair g5 TO x y:=o5;refine b6c (b9g (b6j (b6j ?_)));refine b6c (b7N o5' rfl (b6c (wpAny_newTuple ?_)));have sz:g5.objs.size=s.heap.objs.size:=by rw[b5.1,b4.1,b3.1,b2.1,b1.1]
 have z5:IsZip g5 z TI TO .ellipsis:=b5.extBut _ _ D.TOz.symm (b4.extBut _ _ D.i2z.symm (b3.extBut _ _ D.TOz.symm (b2.extBut _ _ D.i1z.symm z1')));have k5:∀c o,c≠z->c≠TO->c≠i1->c≠i2->s.heap.get? c=some o->g5.get? c=some o:=λc o c1 c2 c3 c4 e=>b5.extBut _ _ c2 (b4.extBut _ _ c4 (k3 c o c1 c3 c2 e));have h15:SIt ka g5 i1 l1 (n+1):=h12.at λo e=>b5.extBut _ _ D.TOi1.symm (b4.extBut _ _ D.i12 (b3.extBut _ _ D.TOi1.symm e));have h25:SIt kb g5 i2 l2 (n+1):=h24.at λo e=>b5.extBut _ _ D.TOi2.symm e;have zl:z<g5.objs.size:=b6t z5;show wpAny _ _ (Builtin.SmallTypes.ownedTupleHandOut (.ref z) (.ref g5.objs.size) >>= _) _ _ _;refine b6c ?_;unfold Builtin.SmallTypes.ownedTupleHandOut;have z6:IsZip (g5.push {cls:=.type "tuple",data:=.seq #[x,y]}) z TI TO .ellipsis:=b6e _ z5;refine b6c (b7n z6 (by simp) λg7 z7 b7=>?_)
 replace z7:IsZip g7 z TI TO (rawInt g5.objs.size):=z7
 refine b7n z7 (by simp) λg8 z8 b8=>?_
 replace z8:IsZip g8 z TI TO (rawInt g5.objs.size):=z8
 have up:∀c o,c≠z->g5.get? c=some o->g8.get? c=some o:=λc o c1 e=>b8.extBut _ _ c1 (b7.extBut _ _ c1 (b6e _ e));have p8:IsPair g8 g5.objs.size x y:=b8.extBut _ _ (b7Y zl) (b7.extBut _ _ (b7Y zl) (b6m _ rfl));rw[sz] at z8 p8;refine b6j ⟨_,rfl,?_⟩;show Q (.ref g5.objs.size) _;rw[sz];exact hQ g8 z8 (up _ _ D.TOz o5') (h15.at λo e=>up _ o D.i1z e) (h25.at λo e=>up _ o D.i2z e) p8 λc o c1 c2 c3 c4 e=>up c o c1 (k5 c o c1 c2 c3 c4 e)
theorem b1o(hh:A.handled=none)(D:ZipApart z TI TO i1 i2 l1 l2)(Z:ZAt ka kb z TI TO i1 i2 l1 l2 n s.heap)(hl1:SAt ka s.heap l1 xs)(hl2:SAt kb s.heap l2 ys)(hend:xs[n]?=none\/ys[n]?=none)
  (hE:∀h' e,(∀c o,c≠z->c≠TO->c≠i1->c≠i2->s.heap.get? c=some o->h'.get? c=some o)->(∃o,h'.get? e=some o/\o.cls=.type "StopIteration")->E (.ref e) {s with heap:=h' }) :
  wpAny (model prog w) A (Builtin.«zip.__next__» ⟨[.ref z],[]⟩) Q E s:=by
 obtain⟨hz,hTI,⟨a,b,hTO⟩,h1,h2⟩:=Z;show wpAny _ _ (field (.ref z) 2 >>= _) _ _ _;refine b6c (b7a hz rfl (x:=.bool false) rfl ?_);show wpAny _ _ (field (.ref z) 3 >>= _) _ _ _;refine b6c (b7a hz rfl (x:=.ref TI) rfl (b6c (b7N hTI rfl ?_)));show wpAny _ _ (Builtin.SmallTypes.ownedTupleIsFree (.ref z) >>= _) _ _ _;refine b6c ?_;unfold Builtin.SmallTypes.ownedTupleIsFree;refine b6c (b7a hz rfl (x:=.none) rfl (b6j ?_));simp only[if_true];refine b6c (b8X (b6c (b7a hz rfl (x:=.ref TO) rfl (b6c (b7n hz (by simp) λg1 z1 b1=>?_)))));have z1':IsZip g1 z TI TO .ellipsis:=z1;have k1:∀c o,c≠z->s.heap.get? c=some o->g1.get? c=some o:=λc o hc e=>b1.extBut _ _ hc e;refine b6c ?_;simp only[List.zipIdx_cons,List.zipIdx_nil,b9U,List.forIn_nil];refine b6c (b6c (c0A ?_));show wpAny _ _ (Builtin.SmallTypes.nextOf (.ref i1) >>= _) _ _ _;cases hx:xs[n]? with
 |none=>
  refine b6c (endS (s:={s with heap:=g1}) hh (h1.at λo e=>k1 _ o D.i1z e) (hl1.at λo e=>k1 _ o D.l1z e) hx λg2 e b2 ⟨oe,he,ce⟩=>?_);have z2:IsZip g2 z TI TO .ellipsis:=b2 _ _ D.i1z.symm z1';have ez:e≠z:=λq=>by subst q;rw[z2] at he;cases he;simp at ce
  exact b7n z2 (by simp) λg3 _ b3=>hE g3 e (λc o c1 _ c3 _ q=>b3.extBut _ _ c1 (b2 _ _ c3 (k1 c o c1 q))) ⟨oe,b3.extBut _ _ ez he,ce⟩
 |some x=>
  have hy:ys[n]?=none:=hend.resolve_left λq=>by rw[hx] at q;cases q
  refine b6c (b1n (s:={s with heap:=g1}) (h1.at λo e=>k1 _ o D.i1z e) (hl1.at λo e=>k1 _ o D.l1z e) hx λg2 h12 b2=>b6j ?_);have k2:∀c o,c≠z->c≠i1->s.heap.get? c=some o->g2.get? c=some o:=λc o hc hd e=>b2.extBut _ _ hd (k1 c o hc e);have o2:IsPair g2 TO a b:=k2 _ _ D.TOz D.TOi1 hTO;refine b6c (b7N o2 rfl (b6c (b9Q (s:={s with heap:=g2}) o2 λg3 o3 b3=>?_)));refine b6c (b9g (b6j ?_));refine b6c (b6c (c0A ?_));show wpAny _ _ (Builtin.SmallTypes.nextOf (.ref i2) >>= _) _ _ _;have k3:∀c o,c≠z->c≠i1->c≠TO->s.heap.get? c=some o->g3.get? c=some o:=λc o hc hd he e=>b3.extBut _ _ he (k2 c o hc hd e);refine b6c (endS (s:={s with heap:=g3}) hh (h2.at λo e=>k3 _ o D.i2z D.i12.symm D.TOi2.symm e) (hl2.at λo e=>k3 _ o D.l2z D.l2i1 D.l2TO e) hy λg4 e b4 ⟨oe,he,ce⟩=>?_);have z4:IsZip g4 z TI TO .ellipsis:=b4 _ _ D.i2z.symm (b3.extBut _ _ D.TOz.symm (b2.extBut _ _ D.i1z.symm z1'));have ez:e≠z:=λq=>by subst q;rw[z4] at he;cases he;simp at ce
  exact b7n z4 (by simp) λg5 _ b5=>hE g5 e (λc o c1 c2 c3 c4 q=>b5.extBut _ _ c1 (b4 _ _ c4 (k3 c o c1 c3 c2 q))) ⟨oe,b5.extBut _ _ ez he,ce⟩
theorem a9h(D:ZipApart z TI TO i1 i2 l1 l2)(Z:ZAt ka kb z TI TO i1 i2 l1 l2 n s.heap)(hl1:SAt ka s.heap l1 xs)(hl2:SAt kb s.heap l2 ys)(hx:xs[n]?=some x)(hy:ys[n]?=some y)
  (hQ:∀h',IsZip h' z TI TO (rawInt s.heap.objs.size)->IsPair h' TO x y->SIt ka h' i1 l1 (n+1)->SIt kb h' i2 l2 (n+1)->IsPair h' s.heap.objs.size x y ->
   (∀c o,c≠z->c≠TO->c≠i1->c≠i2->s.heap.get? c=some o->h'.get? c=some o)->Q (some (.ref s.heap.objs.size)) {s with heap:=h' }):wpAny (model prog w) A (pyNext (.ref z)) Q E s:=by
 have hT:s.TypeIs (.ref z) "zip":=⟨_,Z.zp,rfl⟩
 unfold pyNext;exact b6c (b9r (b6X (name:=Str.ofString "__next__") hT b9W (b7s b9W hT F.entry_zip_next
  (a9g D Z hl1 hl2 hx hy λh' a1 a2 a3 a4 a5 a7=>b6j (hQ h' a1 a2 a3 a4 a5 a7)) (F.args_zip_next_1 _))))
theorem a9i(hh:A.handled=none)(D:ZipApart z TI TO i1 i2 l1 l2)(Z:ZAt ka kb z TI TO i1 i2 l1 l2 n s.heap)(hl1:SAt ka s.heap l1 xs)(hl2:SAt kb s.heap l2 ys)(hend:xs[n]?=none\/ys[n]?=none)
  (hQ:∀h',(∀c o,c≠z->c≠TO->c≠i1->c≠i2->s.heap.get? c=some o->h'.get? c=some o)->Q none {s with heap:=h' }):wpAny (model prog w) A (pyNext (.ref z)) Q E s:=by
 have hT:s.TypeIs (.ref z) "zip":=⟨_,Z.zp,rfl⟩
 unfold pyNext;refine b6c (b9r (b6X (name:=Str.ofString "__next__") hT b9W (b7s b9W hT F.entry_zip_next (b1o hh D Z hl1 hl2 hend λh' e hk he=>?_) (F.args_zip_next_1 _))));obtain⟨o,ho,hc⟩:=he;exact b6c (c0F (T:="StopIteration") (b:=true) ⟨o,ho,hc⟩ isSubtype_stop (b6j (hQ _ hk)))
end
def SqK(K:PySem.W.Frag):Bool->Hp->Addr->List V->Prop
 |true,H,a,xs=>SqT K H a xs
 |false,H,a,xs=>SqL K H a xs
theorem b1p{s:Shared}{k:Bool}(I:Inv X pins σ H s)(h:SqK X.K k H a xs):∃us,a0P xs us/\SAt k s.heap a us.toArray:=by
 cases k with
 |true=>
  obtain⟨its,rv,p,hz⟩:=I.tuple h;exact⟨its,rv,p⟩
 |false=>
  obtain⟨its,rv,p,hz⟩:=I.list h;exact⟨its,rv,p.isList⟩
theorem a4X{s:Shared}{k:Bool}(I:Inv X pins σ H s)(h:SqK X.K k H a xs)(h2:SqK X.K k H a ys):xs=ys:=by
 cases k with
 |true=>exact I.tuple_inj h h2
 |false=>exact I.list_inj h h2
theorem Inv.turnedL{X:Cx}{pins:List (Addr×Obj)}{σ:St}{H:Hp}{s:Shared}{h':Heap}{t':Nat}{L:List Addr}(I:Inv X pins σ H s)(k:∀b o,b∉L->s.heap.get? b=some o->h'.get? b=some o)(hf:∀b∈L,b0P X pins H b):Inv X pins σ H {s with heap:=h',toks:=t' }:=by
 have nit:∀b u,H b=some u->b∉L:=λb u e z=>by rw[(hf b z).1] at e;cases e
 have nl:X.env.locals∉L:=λz=>(hf _ z).2.1 rfl;refine I.step (g':=s.gens) (d':=s.drawn) (ch:=L) (λb hb=>?_) (λb o _ _ hc e _=>k b o hc e) (λb o _ _ hc e _=>⟨o.slots,k b o hc e⟩) (λ_ _ _ _ n=>n)
  (λb o hc e=>⟨o,k b o hc e⟩) (λ_ _ e=>e) (λ_ _ _ e=>e) (λb ps e=>⟨#[],by rw[e];simp⟩) (λm hm=>?_) (λb u e=>?_) I.bare
 ·obtain⟨f0,f1,f2,f3,f4,f5⟩:=hf b hb;exact⟨f3,f1,f4,f5⟩
 ·obtain⟨o,es,ep,ho,r⟩:=hm;exact⟨o,es,ep,k _ o nl ho,r⟩
 ·refine(I.hok b u e).stay (λc v hc q=>k c v ?_ q) (λ_ q=>q) λ_ _ q=>q;rcases hc with z|z
  ·rw[z];exact nit b u e
  ·exact nit c _ z
def Itz(K:PySem.W.Frag)(ka kb:Bool)(a b:Addr):It:=
 ⟨λi H=>∃xs ys x y,SqK K ka H a xs/\SqK K kb H b ys/\xs[i]?=some x/\ys[i]?=some y,
  λi H v H'=>∃p x y,v=.ref p/\H p=none/\(∀xs,SqK K ka H a xs->xs[i]?=some x)/\(∀ys,SqK K kb H b ys->ys[i]?=some y)/\H'=upd H p (.tup [x,y]),
  λi H=>∃xs ys,SqK K ka H a xs/\SqK K kb H b ys/\(xs.length<=i\/ys.length<=i)⟩
theorem ZAt.obj{z TI TO i1 i2 l1 l2:Addr}(Z:ZAt ka kb z TI TO i1 i2 l1 l2 n h):∀b∈[z,TI,TO,i1,i2],∃o,h.get? b=some o/\∀v,o.data≠.cell v:=λb hb=>by
 obtain⟨hz,hTI,⟨x,y,hTO⟩,h1,h2⟩:=Z;simp only[b6D,b7x,b9F] at hb;rcases hb with rfl|rfl|rfl|rfl|rfl
 ·exact⟨_,hz,λv z=>by cases z⟩
 ·exact⟨_,hTI,λv z=>by cases z⟩
 ·exact⟨_,hTO,λv z=>by cases z⟩
 ·exact h1.obj
 ·exact h2.obj
theorem b1q{P:Program}{w:World}{K:PySem.W.Frag}{elts:List Expr}{x1}{pos:Pos}{ka kb:Bool}{z TI TO i1 i2 a b:Addr}(D:ZipApart z TI TO i1 i2 a b):b2G P w K (.Tuple elts x1 pos) (Itz K ka kb a b) [z,TI,TO,i1,i2] z (λn h=>ZAt ka kb z TI TO i1 i2 a b n h) where
 mem:=by simp
 obj:=λi h st=>st.obj
 keep:=λi h h' ⟨hz,hTI,⟨x,y,hTO⟩,h1,h2⟩ k=>⟨k z (by simp) _ hz,k TI (by simp) _ hTI,⟨x,y,k TO (by simp) _ hTO⟩,h1.at λo e=>k i1 (by simp) o e,h2.at λo e=>k i2 (by simp) o e⟩
 item:=by
  intro X hP hw hK hc i pins s σ H E I hf st hg;subst hP hw hK;obtain⟨xs,ys,x,y,q1,q2,hx,hy⟩:=hg;obtain⟨us,r1,p1⟩:=b1p I q1;obtain⟨vs,r2,p2⟩:=b1p I q2;obtain⟨u,hu,ru⟩:=r1.get hx;obtain⟨v,hv,rv⟩:=r2.get hy;have lt:∀b∈[z,TI,TO,i1,i2],b<s.heap.objs.size:=λb hb=>by
   obtain⟨o,ho,_⟩:=st.obj b hb;exact b6t ho
  refine a9h D st p1 p2 (x:=u) (y:=v) (by simpa using hu) (by simpa using hv) λh' z1 o1 a1 a2 pr kk=>?_;refine⟨_,rfl,wpAny_letOwnedTupleGo_zip (s:={s with heap:=h' }) z1 λh2 z2 b2=>?_⟩;have hT:H s.heap.objs.size=none:=I.hok.fresh (b6k _);have I1:Inv X pins σ (upd H s.heap.objs.size (.tup [x,y])) {s with heap:=s.heap.push {cls:=.type "tuple",data:=.seq #[u,v]}}:=I.laid (t':=s.toks) (λb u e=>b6e _ e) (b6k _) ⟨by show 2<=sizeLine;decide,[u,v],.cons ru (.cons rv .nil),⟨_,b6m _ rfl,_,rfl⟩⟩;have Tz:s.heap.objs.size≠z:=b7Y (lt z (by simp));have fp:∀b∈[z,TI,TO,i1,i2],b0P X pins (upd H s.heap.objs.size (.tup [x,y])) b:=λb hb=>by
   obtain⟨f0,f1,f2,f3,f4,f5⟩:=hf b hb;exact⟨by rw[a0i (b6L (lt b hb))];exact f0,f1,f2,f3,f4,f5⟩
  have I2:=I1.turnedL (h':=h2) (t':=s.toks) (λc o hc e=>by
   simp only[b6D,b7x,b9F,not_or] at hc;by_cases zc:c=s.heap.objs.size
   ·subst zc;rw[b6m _ rfl] at e;cases e;exact b2.extBut _ _ Tz pr
   ·have e':s.heap.get? c=some o:=by rw[<-e];exact(Heap.get?_push_ne _ _ _ zc).symm
    exact b2.extBut _ _ hc.1 (kk c o hc.1 hc.2.2.1 hc.2.2.2.1 hc.2.2.2.2 e')) fp
  refine⟨.ref s.heap.objs.size,_,I2,rfl,⟨_,x,y,rfl,hT,λzs hz=>?_,λzs hz=>?_,rfl⟩,⟨z2,b2.extBut _ _ D.TIz (kk _ _ D.TIz D.TITO D.TIi1 D.TIi2 st.ti),⟨u,v,b2.extBut _ _ D.TOz o1⟩,a1.at λo e=>b2.extBut _ _ D.i1z e,a2.at λo e=>b2.extBut _ _ D.i2z e⟩,λb hb=>(fp b hb).1⟩
  ·rw[a4X I hz q1];exact hx
  ·rw[a4X I hz q2];exact hy
 done:=by
  intro X hP hw hK hc i pins s σ H E I hf st hg;subst hP hw hK;obtain⟨xs,ys,q1,q2,hl⟩:=hg;obtain⟨us,r1,p1⟩:=b1p I q1;obtain⟨vs,r2,p2⟩:=b1p I q2;have e1:=r1.length;have e2:=r2.length;refine a9i (I.ok.hd hc) D st p1 p2 (hl.elim (λq=>.inl (by simp;lia)) λq=>.inr (by simp;lia)) λh' kk=>⟨rfl,I.turnedL (t':=s.toks) (λc o hc e=>?_) hf⟩
  simp only[b6D,b7x,b9F,not_or] at hc;exact kk c o hc.1 hc.2.2.1 hc.2.2.2.1 hc.2.2.2.2 e
 self:=λ_ _ _ _ _ st h=>wpAny_pyIter_zip st.zp h
def itO(k:Bool)(l:Addr):Obj:=match k with
 |true=>{cls:=.type "tuple_iterator",data:=.fields #[.ref l,.int 0 0]}
 |false=>{cls:=.type "list_iterator",data:=.fields #[.ref l,.int 0 0]}
theorem a9j{prog:Program}{w:World}{A:Around}{E:Value->Shared->Prop}{s:Shared}{k:Bool}(h:SAt k s.heap l xs)(hQ:Q (.ref s.heap.objs.size) {s with heap:=s.heap.push (itO k l)}) :
  wpAny (model prog w) A (pyIter (.ref l)) Q E s:=by
 cases k with
 |true=>exact b8t h hQ
 |false=>exact b8y h hQ
theorem a4Y{k:Bool}:(itO k l).isFreed=false:=by cases k<;>rfl
theorem SIt.new{k:Bool}(e:h.get? i=some (itO k l)):SIt k h i l 0:=by
 cases k with
 |true=>exact⟨_,e,rfl,rfl⟩
 |false=>exact⟨_,e,rfl,rfl⟩
def b1r(h:Heap)(ka kb:Bool)(l1 l2:Addr):Heap:=((((h.push (itO ka l1)).push (itO kb l2)).push {cls:=.type "tuple",data:=.seq #[.ref h.objs.size,.ref (h.push (itO ka l1)).objs.size]}).push {cls:=.type "tuple",data:=.seq #[.none,.none]}).push
 {cls:=.type "zip",data:=.fields #[.none,.bool false,.bool false,.ref ((h.push (itO ka l1)).push (itO kb l2)).objs.size,.ref (((h.push (itO ka l1)).push (itO kb l2)).push {cls:=.type "tuple",data:=.seq #[.ref h.objs.size,.ref (h.push (itO ka l1)).objs.size]}).objs.size]}
theorem meetsS(ka kb:Bool)(l1 l2:Addr)(xs ys:Array Value) :
  Meets (Builtin.«zip.__new__» ⟨[.type "zip",.ref l1,.ref l2],[]⟩) (λ_ R s=>SAt ka s.heap l1 xs/\SAt kb s.heap l2 ys/\R (.ok (.ret (.ref (s.heap.objs.size+4)))) {s with heap:=b1r s.heap ka kb l1 l2}):=
 .of_wp λprog w A R s h=>by
  obtain⟨hp,g,d,tk,os⟩:=s;obtain⟨hl1,hl2,h⟩:=h;have hsub:=sub_zip;have hL1:SAt ka (Shared.heap ⟨hp,g,d,tk,os⟩) l1 xs:=hl1;have hL2:SAt kb (Shared.heap ⟨hp.push (itO ka l1),g,d,tk,os⟩) l2 ys:=hl2.at λo e=>b6e _ e
  wp_walk using a9j hL1,a9j hL2
  refine⟨_,rfl,?_⟩;have z:((((hp.push (itO ka l1)).push (itO kb l2)).push {cls:=.type "tuple",data:=.seq #[.ref hp.objs.size,.ref (hp.push (itO ka l1)).objs.size]}).push {cls:=.type "tuple",data:=.seq #[.none,.none]}).objs.size=hp.objs.size+4:=by
   rw[b7f,b7f,b7f,b7f]
  rw[<-z] at h;exact h
theorem callS{prog:Program}{w:World}{A:Around}{E:Value->Shared->Prop}{s:Shared}(h1:SAt ka s.heap l1 xs)(h2:SAt kb s.heap l2 ys)
  (h:∀h',ZAt ka kb (s.heap.objs.size+4) (s.heap.objs.size+2) (s.heap.objs.size+3) s.heap.objs.size (s.heap.objs.size+1) l1 l2 0 h'->(∀c o,s.heap.get? c=some o->h'.get? c=some o)->Q (.ref (s.heap.objs.size+4)) {s with heap:=h' }) :
  wpAny (model prog w) A (call (.type "zip") [.ref l1,.ref l2]) Q E s:=by
 refine callType_new F.called_zip (by decide) (F.typeCall_zip_2 _ _) (F.newCall_zip_2 _ _) (λobj=>F.args_object_init_3 obj _ _) F.entry_zip_new (meetsS ka kb l1 l2 xs ys) ⟨h1,h2,?_⟩;have kp:∀c o,s.heap.get? c=some o->(b1r s.heap ka kb l1 l2).get? c=some o:=λc o x=>b6e _ (b6e _ (b6e _ (b6e _ (b6e _ x))));have z1:(s.heap.push (itO ka l1)).objs.size=s.heap.objs.size+1:=b7f ..;have z2:((s.heap.push (itO ka l1)).push (itO kb l2)).objs.size=s.heap.objs.size+2:=by rw[b7f,z1]
 have z3:(((s.heap.push (itO ka l1)).push (itO kb l2)).push {cls:=.type "tuple",data:=.seq #[.ref s.heap.objs.size,.ref (s.heap.push (itO ka l1)).objs.size]}).objs.size=s.heap.objs.size+3:=by rw[b7f,z2]
 have z4:((((s.heap.push (itO ka l1)).push (itO kb l2)).push {cls:=.type "tuple",data:=.seq #[.ref s.heap.objs.size,.ref (s.heap.push (itO ka l1)).objs.size]}).push {cls:=.type "tuple",data:=.seq #[.none,.none]}).objs.size=s.heap.objs.size+4:=by rw[b7f,z3]
 have g1:(b1r s.heap ka kb l1 l2).get? s.heap.objs.size=some (itO ka l1):=b6e _ (b6e _ (b6e _ (b6e _ (b6m _ a4Y))));have g2:(b1r s.heap ka kb l1 l2).get? (s.heap.objs.size+1)=some (itO kb l2):=by rw[<-z1];exact b6e _ (b6e _ (b6e _ (b6m _ a4Y)))
 have g3:(b1r s.heap ka kb l1 l2).get? (s.heap.objs.size+2)=some {cls:=.type "tuple",data:=.seq #[.ref s.heap.objs.size,.ref (s.heap.objs.size+1)]}:=by
  rw[<-z2];have q:(b1r s.heap ka kb l1 l2).get? ((s.heap.push (itO ka l1)).push (itO kb l2)).objs.size=some {cls:=.type "tuple",data:=.seq #[.ref s.heap.objs.size,.ref (s.heap.push (itO ka l1)).objs.size]}:=b6e _ (b6e _ (b6m _ rfl));rw[z1] at q;exact q
 have g4:(b1r s.heap ka kb l1 l2).get? (s.heap.objs.size+3)=some {cls:=.type "tuple",data:=.seq #[.none,.none]}:=by rw[<-z3];exact b6e _ (b6m _ rfl)
 have g5:(b1r s.heap ka kb l1 l2).get? (s.heap.objs.size+4)=some {cls:=.type "zip",data:=.fields #[.none,.bool false,.bool false,.ref (s.heap.objs.size+2),.ref (s.heap.objs.size+3)]}:=by
  rw[<-z4];have q:(b1r s.heap ka kb l1 l2).get? ((((s.heap.push (itO ka l1)).push (itO kb l2)).push {cls:=.type "tuple",data:=.seq #[.ref s.heap.objs.size,.ref (s.heap.push (itO ka l1)).objs.size]}).push {cls:=.type "tuple",data:=.seq #[.none,.none]}).objs.size=some {cls:=.type "zip",data:=.fields #[.none,.bool false,.bool false,.ref ((s.heap.push (itO ka l1)).push (itO kb l2)).objs.size,.ref (((s.heap.push (itO ka l1)).push (itO kb l2)).push {cls:=.type "tuple",data:=.seq #[.ref s.heap.objs.size,.ref (s.heap.push (itO ka l1)).objs.size]}).objs.size]}:=b6m _ rfl;rw[z2,z3] at q;exact q
 show _/\_;exact⟨⟨_,g5,rfl⟩,h _ ⟨g5,g3,⟨_,_,g4⟩,.new g1,.new g2⟩ kp⟩
theorem b_zip:bootBuiltins "zip"=some (.type "zip"):=by decide +kernel
def iZip(K:PySem.W.Frag)(ka kb:Bool)(ta:TA):TI:=λσ H R=>ta σ H λvs H1=>∃a b xs ys,vs=[.ref a,.ref b]/\SqK K ka H1 a xs/\SqK K kb H1 b ys/\R (Itz K ka kb a b) H1
theorem b2Y{x1}{p pos:Pos}(ka kb:Bool)(hg:Gl X "zip")(hm:X.mg "zip"=none)(ha:PA X [a,b] ta)(hs:starEach [a,b] X.env=[(false,eval a X.env),(false,eval b X.env)]:=by rfl)(hs2:starEach [b] X.env=[(false,eval b X.env)]:=by rfl) :
  PI X (.Tuple elts x1 tp) (.Call (.Name "zip" p) [a,b] [] pos) (iZip X.K ka kb ta):=by
 intro pins s σ H R I h;refine Call_ (a2K I hg hm b_zip (b7j (thn (ha pos pins s σ H _ I h) λus s1 ⟨vs,H1,I1,r1,q1⟩=>?_) (by rw[hs,hs2]) (by rw[hs2];rfl)));obtain⟨a',b',xs,ys,e,q1,q2,q⟩:=q1;subst e;obtain⟨u,v,rfl,r1,r2⟩:=r1.two;cases r1;cases r2;obtain⟨us,e1,p1⟩:=b1p I1 q1;obtain⟨vs,e2,p2⟩:=b1p I1 q2;have lt:∀{k:Bool}{l:Addr}{zs:Array Value},SAt k s1.heap l zs->l<s1.heap.objs.size:=λ{k l zs} x=>by
  cases k with
  |true=>obtain⟨o,ho,_⟩:=x;exact b6t ho
  |false=>obtain⟨o,ho,_⟩:=x;exact b6t ho
 have t1:=lt p1;have t2:=lt p2;refine callS p1 p2 λh' Z kp=>wpAny_pyIter_zip (s:={s1 with heap:=h' }) Z.zp ?_;have D:ZipApart (s1.heap.objs.size+4) (s1.heap.objs.size+2) (s1.heap.objs.size+3) s1.heap.objs.size (s1.heap.objs.size+1) a' b':=by
  have t1':@LT.lt Nat _ a' s1.heap.objs.size:=t1;have t2':@LT.lt Nat _ b' s1.heap.objs.size:=t2;constructor<;>(show ¬(@Eq Nat _ _);lia)
 refine⟨_,[s1.heap.objs.size+4,s1.heap.objs.size+2,s1.heap.objs.size+3,s1.heap.objs.size,s1.heap.objs.size+1],_,_,H1,rfl,I1.kept (t':=s1.toks) kp,b1q D,Z,λc hc=>?_,q⟩;have ge:s1.heap.objs.size<=c:=by
  simp only[b6D,b7x,b9F] at hc;rcases hc with rfl|rfl|rfl|rfl|rfl<;>simp
 exact I1.fpOk ge (I1.hok.fresh ge)
def b4p(tc:TT)(te:TE)(σ:St)(d:Addr)(x y:V)(H:Hp)(Z:Hp->Prop):Prop:=
 tc (some x::some y :: σ) H λb H3=>if b=true then te (some x::some y :: σ) H3 λv H4=>∃ys,H4 d=some (.lst ys)/\ys.length<sizeLine/\Z (upd H4 d (.lst (ys++[v]))) else Z H3
def b2Z(K:PySem.W.Frag)(ka kb:Bool)(ta:TA)(tc:TT)(te:TE):TE:=λσ H Q=>ta σ H λvs H1=>∃a b xs ys,vs=[.ref a,.ref b]/\SqK K ka H1 a xs/\SqK K kb H1 b ys/\xs.length=ys.length/\∀d,H1 d=none ->
 ∃Pv:Nat->Hp->Prop,Pv 0 (upd H1 d (.lst []))/\(∀i H,i<=xs.length->Pv i H->SqK K ka H a xs/\SqK K kb H b ys)/\(∀i x y p H,xs[i]?=some x->ys[i]?=some y->Pv i H->H p=none->b4p tc te σ d x y (upd H p (.tup [x,y])) (Pv (i+1)))/\∀H,Pv xs.length H->Q (.ref d) H
def a9k(K:PySem.W.Frag):TG:=gTup K 2 (b3S (a1B 0) (b3S (a1B 1) gNil))
theorem a5L{K:PySem.W.Frag}{v:V}{σ:St}{H:Hp}{Q:St->Hp->Prop}(h:a9k K v (List.replicate 2 none++σ) H Q):a9k K v (List.replicate 2 none++σ) H λσ2 H2=>(∃l:St,l.length=2/\σ2=l++σ)/\Q σ2 H2:=by
 obtain⟨a,xs,e,hq,hl,v1,r1,e1,v2,r2,e2,e3,q⟩:=h;exact⟨a,xs,e,hq,hl,v1,r1,e1,v2,r2,e2,e3,⟨[some v1,some v2],rfl,rfl⟩,q⟩
theorem a7f{K:PySem.W.Frag}{ka kb:Bool}{a b:Addr}{xs ys:List V}{tc:TT}{te:TE}{σ:St}{H:Hp}{Q:VK}{d:Addr}(hlen:xs.length=ys.length)(Pv:Nat->Hp->Prop)(h0:Pv 0 (upd H d (.lst [])))(hl:∀i H,i<=xs.length->Pv i H->SqK K ka H a xs/\SqK K kb H b ys)
  (hs:∀i x y p H,xs[i]?=some x->ys[i]?=some y->Pv i H->H p=none->b4p tc te σ d x y (upd H p (.tup [x,y])) (Pv (i+1)))
  (hd:∀H,Pv xs.length H->Q (.ref d) H) :
  ∃W:Nat->Nat->Hp->Prop,(∃m,W 0 m (upd H d (.lst [])))/\∀i m H,W i m H ->
   ((Itz K ka kb a b).stop i H/\Q (.ref d) H)\/((Itz K ka kb a b).go i H/\∃N:Hp->Prop,(∀H',N H'->∃m',m'<m/\W (i+1) m' H')/\∀x H',(Itz K ka kb a b).yld i H x H'->a9k K x (List.replicate 2 none++σ) H' λσ2 H2=>
    tc σ2 H2 λb H3=>if b=true then te σ2 H3 λy H4=>∃ys,H4 d=some (.lst ys)/\ys.length<sizeLine/\N (upd H4 d (.lst (ys++[y]))) else N H3):=by
 refine⟨λi m H=>m=xs.length-i/\i<=xs.length/\Pv i H,⟨xs.length,by simp,b6O _,h0⟩,?_⟩;rintro i m H ⟨rfl,hi,p⟩;obtain⟨q1,q2⟩:=hl i H hi p;by_cases hlt:i<xs.length
 ·refine .inr ⟨⟨xs,ys,_,_,q1,q2,b6f hlt,b6f (by lia)⟩,Pv (i+1),λH' n=>⟨xs.length-(i+1),by grind,rfl,by assumption,n⟩,?_⟩;rintro v H' ⟨p',x,y,rfl,hn,e1,e2,rfl⟩;exact⟨p',[x,y],rfl,SqT.of a0b,rfl,x,[y],rfl,y,[],rfl,rfl,hs i x y p' H (e1 _ q1) (e2 _ q2) p hn⟩
 ·have e:i=xs.length:=by lia
  subst e;exact .inl ⟨⟨xs,ys,q1,q2,.inl (b6k _)⟩,hd H p⟩
theorem b1s(K:PySem.W.Frag)(ka kb:Bool){p1 p2 tp p pos pos':Pos}{k:Nat}(hc:X.calm=true)(S:a0x scope X.env X.N M)(nd:(t1::t2::M).Nodup)(hl1:scope.names.lookup t1=some .local)(hl2:scope.names.lookup t2=some .local)
  (hg:Gl X "zip")(hm:X.mg "zip"=none)(ha:PA X [a,b] ta)(mo:a4W ta)
  (hin:∀(cl:List (Str×Addr))(C:Addr)(s0:Shared)(H0:Hp)(fp:List Addr)(pins:List (Addr×Obj))(σ:St),Back X (cxC X scope cl C s0 H0 fp (t1::t2::M)) pins σ fp C s0 H0->PTs (cxC X scope cl C s0 H0 fp (t1::t2::M)) cs tc/\PE (cxC X scope cl C s0 H0 fp (t1::t2::M)) elt te)
  (hs:starEach [a,b] X.env=[(false,eval a X.env),(false,eval b X.env)]:=by rfl)(hs2:starEach [b] X.env=[(false,eval b X.env)]:=by rfl)(hf:∀x,foldedSetIterable (.Call (.Name "zip" p) [a,b] [] pos') X.env x=pure x:=by intro _;rfl)(hK:X.K=K:=by rfl) :
  PE X (.ListComp elt [⟨.Tuple [.Name t1 p1,.Name t2 p2] k tp,.Call (.Name "zip" p) [a,b] [] pos',cs,0⟩] scope pos) (b2Z K ka kb ta tc te):=by
 subst hK;have hx1:(relabel scope X.env).names.lookup t1=some .local:=by rw[a0M,hl1];rfl
 have hx2:(relabel scope X.env).names.lookup t2=some .local:=by rw[a0M,hl2];rfl
 refine PE.imp (b1g (xs:=[t1,t2]) (M:=M) (g:=a9k X.K) hc S (b2Y ka kb hg hm ha hs hs2) (λcl C s0 H0 fp pins σ bk=>⟨a4q hc (a1l (a2C (i:=0) nd rfl (Or.inl hx1) (Or.inr hx1)) (a1l (a2C (i:=1) nd rfl (Or.inl hx2) (Or.inr hx2)) a2Z)),hin cl C s0 H0 fp pins σ bk⟩) (λv σ H Q h=>a5L h) hf) (λσ H Q h=>?_);refine mo σ H _ _ (λvs H1 q=>?_) h;obtain⟨a',b',xs,ys,e,q1,q2,hlen,q⟩:=q;refine⟨a',b',xs,ys,e,q1,q2,λd hd=>?_⟩;obtain⟨Pv,h0,hl,hs,hd⟩:=q d hd;exact a7f hlen Pv h0 hl hs hd
section
variable {κ:Type}[DecidableEq κ]
def a1Z(kvs:List (κ×V))(k:κ):Option V:=(kvs.find? λkv=>decide (kv.1=k)).map (·.2)
def a3k(kvs:List (κ×V))(k:κ)(v:V):List (κ×V):=
 if (kvs.any λkv=>decide (kv.1=k))=true then kvs.map (λkv=>if kv.1=k then (kv.1,v) else kv) else kvs++[(k,v)]
def dropK(kvs:List (κ×V))(k:κ):List (κ×V):=kvs.filter λkv=>decide (kv.1≠k)
theorem b1t{k:κ}:a1Z ([]:List (κ×V)) k=none:=rfl
theorem a1i{k:κ}(e:p.1=k):a1Z (p::r) k=some p.2:=by simp[a1Z,b8Q,e]
theorem a1j{k:κ}(e:¬p.1=k):a1Z (p::r) k=a1Z r k:=by simp[a1Z,b8Q,e]
theorem a2P(k:κ):∀kvs:List (κ×V),(kvs.any λkv=>decide (kv.1=k))=(a1Z kvs k).isSome
 |[]=>rfl
 |p::r=>by
  rw[b9p];by_cases e:p.1=k
  ·simp only[a1i e,b6i e,c0L,Option.isSome_some]
  ·rw[a1j e,b6w e,c0B];exact a2P k r
theorem a7g(k j:κ)(y:V):∀kvs:List (κ×V),a1Z (kvs.map λkv=>if kv.1=k then (kv.1,y) else kv) j=(a1Z kvs j).map λx=>if j=k then y else x
 |[]=>rfl
 |p::r=>by
  have ih:=a7g k j y r;rw[b6z];by_cases h:p.1=k
  ·rw[if_pos h];by_cases e:p.1=j
   ·rw[a1i (p:=(p.1,y)) e,a1i e,b8C,if_pos (e.symm.trans h)]
   ·rw[a1j (p:=(p.1,y)) e,a1j e,ih]
  ·rw[if_neg h];by_cases e:p.1=j
   ·rw[a1i (p:=p) e,a1i e,b8C,if_neg (λz=>h (e.trans z))]
   ·rw[a1j (p:=p) e,a1j e,ih]
theorem a5M(k j:κ)(y:V):∀kvs:List (κ×V),a1Z kvs k=none->a1Z (kvs++[(k,y)]) j=if j=k then some y else a1Z kvs j
 |[],_=>by
  by_cases e:k=j
  ·rw[if_pos e.symm];exact a1i (p:=(k,y)) e
  ·rw[if_neg (λz=>e z.symm)];exact a1j (p:=(k,y)) e
 |p::r,hn=>by
  rw[List.cons_append];have hk:¬p.1=k:=λz=>by rw[a1i z] at hn;cases hn
  rw[a1j hk] at hn;have ih:=a5M k j y r hn;by_cases e:p.1=j
  ·rw[a1i e,a1i e,if_neg (λz=>hk (e.trans z))]
  ·rw[a1j e,a1j e,ih]
theorem a4Z(kvs:List (κ×V))(k j:κ)(y:V):a1Z (a3k kvs k y) j=if j=k then some y else a1Z kvs j:=by
 unfold a3k;by_cases a:(kvs.any λkv=>decide (kv.1=k))=true
 ·rw[if_pos a,a7g];rw[a2P] at a;by_cases e:j=k
  ·obtain⟨x,hx⟩:=Option.isSome_iff_exists.mp a;rw[if_pos e,e,hx,b8C,if_pos rfl]
  ·rw[if_neg e];cases a1Z kvs j with
   |none=>rfl
   |some x=>rw[b8C,if_neg e]
 ·rw[if_neg a];refine a5M k j y kvs ?_;rw[a2P] at a;cases q:a1Z kvs k with
  |none=>rfl
  |some x=>rw[q] at a;exact(a rfl).elim
theorem a2F(kvs:List (κ×V))(k:κ)(v:V):(a3k kvs k v).length<=kvs.length+1:=by
 unfold a3k;split
 ·rw[b6b];simp
 ·rw[b6o,b6F,b8M];simp
theorem a7h{k:κ}(v:V)(h:a1Z kvs k=none):a3k kvs k v=kvs++[(k,v)]:=by
 unfold a3k;rw[a2P,h];exact if_neg (by decide)
theorem a6p.isSome_eq(r:a6p o u):o.isSome=u.isSome:=by
 cases o with
 |none=>cases u with
  |none=>rfl
  |some _=>exact(show False from r).elim
 |some _=>cases u with
  |none=>exact(show False from r).elim
  |some _=>rfl
theorem KV.val(r:KV kvs vs)(k:κ):a6p (a1Z kvs k) (valueAt vs k):=by
 unfold KV at r
 induction r with
 |nil=>exact True.intro
 | @cons p q ps qs h t ih=>
  obtain⟨h1,h2⟩:=h;by_cases e:p.1=k
  ·have e':q.1=k:=h1.symm.trans e;have b:valueAt (q::qs) k=some q.2:=by simp[valueAt,b8Q,e']
   rw[a1i e,b];exact h2
  ·have e':¬q.1=k:=λz=>e (h1.trans z);have b:valueAt (q::qs) k=valueAt qs k:=by simp[valueAt,b8Q,e']
   rw[a1j e,b];exact ih
theorem KV.any(r:KV kvs vs)(k:κ):(kvs.any λkv=>decide (kv.1=k))=vs.any λkv=>decide (kv.1=k):=by
 unfold KV at r
 induction r with
 |nil=>rfl
 |cons h t ih=>rw[b9p,b9p,ih,h.1]
theorem KV.repl(r:KV kvs vs)(k:κ)(ry:a1h y u) :
  KV (kvs.map λkv=>if kv.1=k then (kv.1,y) else kv) (vs.map λkv=>if kv.1=k then (kv.1,u) else kv):=by
 unfold KV at r ⊢
 induction r with
 |nil=>exact .nil
 | @cons p q ps qs h t ih=>
  rw[b6z,b6z];refine .cons ?_ ih;obtain⟨h1,h2⟩:=h;by_cases e:p.1=k
  ·rw[if_pos e,if_pos (h1.symm.trans e)];exact⟨h1,ry⟩
  ·rw[if_neg e,if_neg (λz=>e (h1.trans z))];exact⟨h1,h2⟩
theorem KV.put(r:KV kvs vs)(k:κ)(ry:a1h y u):KV (a3k kvs k y) (stored vs k u):=by
 unfold a3k stored;rw[r.any k];by_cases e:(vs.any λkv=>decide (kv.1=k))=true
 ·rw[if_pos e,if_pos e];exact r.repl k ry
 ·rw[if_neg e,if_neg e];exact Paired.snoc r ⟨rfl,ry⟩
theorem KV.length(r:KV kvs vs):kvs.length=vs.length:=b8s r
end
theorem b1u{P:Program}{w:World}{k:Key}(r:a1h (kV k) u):(a1A P w).is k u=true:=by
 cases k with
 |inl i=>obtain⟨t,e⟩:=(show ∃t,u=Value.int i t from r);subst e;exact a6r P w i t
 |inr x=>obtain⟨t,e⟩:=(show ∃t,u=Value.str x t from r);subst e;exact a6s P w x t
theorem a5N{P:Program}{w:World}:∀{ks:List Key}{us:List Value},a0P (ks.map kV) us->ItemsAre (a1A P w) ks us
 |[],_,r=>by rw[b8N] at r;cases r;exact .nil
 |k::ks,_,r=>by
  rw[b6z] at r;cases r with
  |cons h t=>exact .cons (b1u h) (a5N t)
abbrev KT(H:Hp):List (List Key×V)->List (List Key×Addr×Value)->Prop:=Paired λp q=>p.1=q.1/\H q.2.1=some (.tup (p.1.map kV))/\a1h p.2 q.2.2
theorem KT.val(r:KT H kvs xs)(k:List Key):a6p (a1Z kvs k) ((atKey xs k).map (·.2)):=by
 induction r with
 |nil=>exact True.intro
 | @cons p q ps qs h t ih=>
  obtain⟨h1,_,h2⟩:=h;by_cases e:p.1=k
  ·have e':q.1=k:=h1.symm.trans e;have b:atKey (q::qs) k=some q.2:=by simp[atKey,b8Q,e']
   rw[a1i e,b];exact h2
  ·have e':¬q.1=k:=λz=>e (h1.trans z);have b:atKey (q::qs) k=atKey qs k:=by simp[atKey,b8Q,e']
   rw[a1j e,b];exact ih
theorem KT.repl(r:KT H kvs xs)(k:List Key)(ry:a1h y u) :
  KT H (kvs.map λkv=>if kv.1=k then (kv.1,y) else kv) (xs.map (putAt k u)):=by
 induction r with
 |nil=>exact .nil
 | @cons p q ps qs h t ih=>
  rw[b6z,b6z];refine .cons ?_ ih;obtain⟨h1,h2,h3⟩:=h;unfold putAt;by_cases e:p.1=k
  ·rw[if_pos e,if_pos (h1.symm.trans e)];exact⟨h1,h2,ry⟩
  ·rw[if_neg e,if_neg (λz=>e (h1.trans z))];exact⟨h1,h2,h3⟩
theorem KT.put(r:KT H kvs xs)(k:List Key)(hb:H b=some (.tup (k.map kV)))(ry:a1h y u) :
  KT H (a3k kvs k y) (storedH xs k b u):=by
 have e:(kvs.any λkv=>decide (kv.1=k))=(atKey xs k).isSome:=by
  rw[a2P,(r.val k).isSome_eq,Option.isSome_map]
 unfold a3k storedH;rw[e];by_cases q:(atKey xs k).isSome=true
 ·rw[if_pos q,if_pos q];exact r.repl k ry
 ·rw[if_neg q,if_neg q];exact Paired.snoc r ⟨rfl,hb,ry⟩
theorem KT.keeps(r:KT H kvs xs)(ht:∀b ys,H b=some (.tup ys)->H' b=some (.tup ys)):KT H' kvs xs:=
 Paired.mapP r λ_ _ z=>⟨z.1,ht _ _ z.2.1,z.2.2⟩
section
variable {P:Program}{w:World}{H:Hp}{h:Heap}{a:Addr}
theorem rd_of(ok:HOk P w H h)(e:Rd H a u):a1s P w H h a u:=e.ok ok
theorem a9l(ok:HOk P w H h)(e:Rd H a (.dK kvs)):kvs.length<=sizeLine/\(a==sysModules)=false/\∃vs,KV kvs vs/\h.DictOf (a1A P w) a vs:=
 show a1s P w H h a (.dK kvs) from rd_of ok e
theorem dk_of(ok:HOk P w H h)(e:H a=some (.dK kvs)):kvs.length<=sizeLine/\(a==sysModules)=false/\∃vs,KV kvs vs/\h.DictOf (a1A P w) a vs:=a9l ok (.inl e)
theorem a3L(ok:HOk P w H h)(e:H a=some (.tup (ks.map kV))):(tupleKind (a1A P w)).is h ks a:=by
 obtain⟨_,its,r,o,h1,h2,n,h3⟩:=a3K (show a1s P w H h a (.tup (ks.map kV)) from ok a _ e);exact⟨o,its.toArray,n,h1,h2,h3,by simpa using a5N r⟩
theorem a9m(ok:HOk P w H h)(e:Rd H a (.dT kvs)):kvs.length<=sizeLine/\(a==sysModules)=false /\
  ∃xs,KT H kvs xs/\h.DictOfH (tupleKind (a1A P w)) a xs:=by
 obtain⟨z,y,xs,r,o,es,ep,h1,h2,h3,h4,h5⟩:=(show a1s P w H h a (.dT kvs) from rd_of ok e)
 refine⟨z,y,xs,r,o,es,ep,h1,h2,h3,h4,λx hx=>?_,h5⟩;have all:∀{l:List (List Key×V)}{m:List (List Key×Addr×Value)},KT H l m->∀x∈m,(tupleKind (a1A P w)).is h x.1 x.2.1:=by
  intro l m q
  induction q with
  |nil=>intro x hx;exact nomatch hx
  | @cons p q ps qs hq t ih=>
   intro x hx;rcases b6D.mp hx with e|hx
   ·subst e;exact a3L ok (by rw[<-hq.1];exact hq.2.1)
   ·exact ih x hx
 exact all r x hx
theorem dt_of(ok:HOk P w H h)(e:H a=some (.dT kvs)):kvs.length<=sizeLine/\(a==sysModules)=false /\
  ∃xs,KT H kvs xs/\h.DictOfH (tupleKind (a1A P w)) a xs:=a9m ok (.inl e)
end
def a8a(H:Hp)(a:Addr)(y:V)(r:Option V):Prop:=
 (∃kvs k,Rd H a (.dK kvs)/\y=kV k/\r=a1Z kvs k)\/∃kvs k b,Rd H a (.dT kvs)/\y=.ref b/\H b=some (.tup (k.map kV))/\r=a1Z kvs k
def a9n(H:Hp)(a:Addr)(y v:V)(H':Hp):Prop:=
 (∃kvs k,H a=some (.dK kvs)/\y=kV k/\kvs.length<sizeLine/\H'=upd H a (.dK (a3k kvs k v))) \/
 ∃kvs k b,H a=some (.dT kvs)/\y=.ref b/\H b=some (.tup (k.map kV))/\kvs.length<sizeLine/\H'=upd H a (.dT (a3k kvs k v))
theorem a8a.t{k:List Key}(e:H a=some (.dT kvs))(eb:H b=some (.tup (k.map kV))):a8a H a (.ref b) (a1Z kvs k):=.inr ⟨kvs,k,b,.inl e,rfl,eb,rfl⟩
theorem a9n.k{k:Key}(e:H a=some (.dK kvs))(hl:kvs.length<sizeLine):a9n H a (kV k) v (upd H a (.dK (a3k kvs k v))):=.inl ⟨kvs,k,e,rfl,hl,rfl⟩
theorem a9n.t{k:List Key}(e:H a=some (.dT kvs))(eb:H b=some (.tup (k.map kV)))(hl:kvs.length<sizeLine) :
  a9n H a (.ref b) v (upd H a (.dT (a3k kvs k v))):=.inr ⟨kvs,k,b,e,rfl,eb,hl,rfl⟩
section
variable {X:Cx}{pins:List (Addr×Obj)}{σ:St}{H:Hp}{s:Shared}{a:Addr}{y v:V}{u r:Value}{o:Option V}{A:Around}{E:Value->Shared->Prop}
theorem Inv.big(I:Inv X pins σ H s):sysModules<s.heap.objs.size:=by
 have h:mainGlobals<s.heap.objs.size:=(I.mod.glob.keeps I.bk).lt;exact Nat.lt_trans (by decide) h
theorem a9o(hu:A.units+1<cLine)(I:Inv X pins σ H s)(g:a8a H a y (some v))(ry:a1h y u)(h:∀w' s',Inv X pins σ H s'->a1h v w'->Q w' s') :
  wpAny (model X.prog X.w) A (getItem (.ref a) u) Q E s:=by
 rcases g with ⟨kvs,k,e,ey,l⟩|⟨kvs,k,b,e,ey,eb,l⟩
 ·subst ey;obtain⟨z,hd,vs,rel,dd⟩:=a9l I.hok e;obtain⟨w',hw,rw'⟩:=a6p.some_of (v:=v) (o:=valueAt vs k) (by rw[l];exact rel.val k);exact wpAny_getItem_of (b1u ry) dd.mapOf hw (h w' _ (I.tok _) rw')
 ·subst ey;cases (show u=Value.ref b from ry);obtain⟨z,hd,xs,rel,dd⟩:=a9m I.hok e;obtain⟨w',hw,rw'⟩:=a6p.some_of (v:=v) (o:=(atKey xs k).map (·.2)) (by rw[l];exact rel.val k);obtain⟨p,hp,hp2⟩:=b6A.mp hw;refine wpAny_getItem_heap (b9s hu) (a3L I.hok eb) dd hp ?_;rw[hp2];exact h w' _ (I.tok _) rw'
theorem b4q(hu:A.units+1<cLine)(I:Inv X pins σ H s)(g:a8a H a y o)(ry:a1h y u)(h:∀s',Inv X pins σ H s'->Q (.bool (!o.isSome)) s') :
  wpAny (model X.prog X.w) A (compareOp .NotIn u (.ref a)) Q E s:=by
 rcases g with ⟨kvs,k,e,ey,l⟩|⟨kvs,k,b,e,ey,eb,l⟩
 ·subst ey;obtain⟨z,hd,vs,rel,dd⟩:=a9l I.hok e;refine wpAny_notIn_of (b1u ry) hd dd.mapOf ?_;rw[<-(rel.val k).isSome_eq,<-l];exact h _ (I.tok _)
 ·subst ey;cases (show u=Value.ref b from ry);obtain⟨z,hd,xs,rel,dd⟩:=a9m I.hok e;refine wpAny_notIn_heap (b9s hu) (a3L I.hok eb) hd dd ?_;have q:=(rel.val k).isSome_eq;rw[Option.isSome_map] at q;rw[<-q,<-l];exact h _ (I.tok _)
theorem a6D(I:Inv X pins σ H s)(mu:Mut (H a))(hs:Heap.SameBut a s.heap h')(he:∃q,h'.get? a=some q)(new:a1s X.prog X.w (upd H a ob) h' a ob) :
  Inv X pins σ (upd H a ob) {s with heap:=h',toks:=t' }:=
 I.write (x:=a) (e:=a) mu (.inl rfl) (λb q hb z=>(hs.2 b hb).trans z) he new
theorem dk_new{P:Program}{w:World}(z:kvs.length<=sizeLine)(hd:(a==sysModules)=false)(rel:KV kvs vs)(dd:h'.DictOf (a1A P w) a vs) :
  a1s P w H' h' a (.dK kvs):=⟨z,hd,vs,rel,dd⟩
theorem a9p(hu:A.units+1<cLine)(I:Inv X pins σ H s)(g:a9n H a y v H')(ry:a1h y u)(rv:a1h v r)(h:∀s',Inv X pins σ H' s'->Q () s') :
  wpAny (model X.prog X.w) A (setItem (.ref a) u r) Q E s:=by
 rcases g with ⟨kvs,k,e,ey,l,eH⟩|⟨kvs,k,b,e,ey,eb,l,eH⟩
 ·subst ey eH;obtain⟨z,hd,vs,rel,dd⟩:=dk_of I.hok e;have hz:vs.length<=sizeLine:=by rw[<-rel.length];exact z
  have hl:(a3k kvs k v).length<=sizeLine:=by have:=a2F kvs k v;lia
  refine wpAny_setItem_pairs (hsz:=hz) (b1u ry) dd λh' dd' hs=>h _ ?_;have he:∃q,h'.get? a=some q:=let ⟨q,_,_,hq,_⟩:=dd';⟨q,hq⟩
  exact a6D I (by rw[e];exact True.intro) hs he (dk_new hl hd (rel.put k rv) dd')
 ·subst ey eH;cases (show u=Value.ref b from ry);obtain⟨z,hd,xs,rel,dd⟩:=dt_of I.hok e;have hz:xs.length<=sizeLine:=by rw[<-b8s rel];exact z
  have hl:(a3k kvs k v).length<=sizeLine:=by have:=a2F kvs k v;lia
  refine wpAny_setItem_heap (hsz:=hz) (b9s hu) (a3L I.hok eb) dd λh' dd' hs=>h _ ?_;obtain⟨q,es,ep,hq,h2,h3,h4,_,h5⟩:=dd';refine a6D I (by rw[e];exact True.intro) hs ⟨q,hq⟩ ⟨hl,hd,_,(rel.put k eb rv).keeps λc ys ec=>?_,q,es,ep,hq,h2,h3,h4,h5⟩;rw[a0i (a0B ec e (λz=>nomatch z))];exact ec
end
section
variable {X:Cx}{pins:List (Addr×Obj)}{σ:St}{H:Hp}{s:Shared}{a:Addr}{kvs:List (Key×V)}{k:Key}{u:Value}{A:Around}{E:Value->Shared->Prop}
end
def NoSl(i:Expr):Prop:=∀ov iv,subscripted i false ov iv=operate [ov,iv] (getItem ov iv)
theorem b4r{prog:Program}{w:World}{A:Around}{E:Value->Shared->Prop}{s:Shared}{env:Env}{value slice:Expr}{pos:Pos}{T id:String}{Q:Value->Shared->Prop}
  (hl:typeLookup (.type T) "__getitem__"=pure (some (.builtin id)))(hs:NoSl slice)
  (h:wpAny (model prog w) A (eval value env) (λo s₁=>wpAny (model prog w) A (eval slice env) (λi s₂=>s₂.TypeIs o T/\wpAny (model prog w) A (getItem o i) Q E s₂) E s₁) E s) :
  wpAny (model prog w) A (eval (.Subscript value slice pos) env) Q E s:=by
 refine Subscript_ (b8V h (λo s₁ h₁=>b8V h₁ (λi s₂ h₂=>?_) λ_ _ x=>x) λ_ _ x=>x);obtain⟨hT,h₂⟩:=h₂;unfold subscriptTail;refine b6c ?_;rw[getitemInPython_of_ne hT.not_modules];refine b6c (wpAny_specialOf hT hl ?_);have fin:wpAny (model prog w) A (subscripted slice false o i) (λr s₃=>wpAny (model prog w) A (letTemporaryGo value o r >>= λ_=>pure r) Q E s₃) E s₂:=by
  rw[hs o i];exact wpAny_operating (b8V h₂ (λr s₃ h₃=>b6c (wpAny_letTemporaryGo (b6j h₃))) λ_ _ x=>x)
 first
  |exact b6j (b6c fin)
  |exact b6c (b6j (b6c fin))
  |exact b6c fin
theorem a6E{s:Shared}(I:Inv X pins σ H s)(g:a8a H a y o):s.TypeIs (.ref a) "dict":=by
 rcases g with ⟨kvs,k,e,_,_⟩|⟨kvs,k,b,e,_,_,_⟩
 ·obtain⟨_,_,vs,_,dd⟩:=a9l I.hok e;exact dd.typeIs
 ·obtain⟨_,_,xs,_,dd⟩:=a9m I.hok e;exact dd.typeIs
def tDGet(td ty:TE):TE:=λσ H Q=>td σ H λx H1=>ty σ H1 λy H2=>∃a v,x=.ref a/\a8a H2 a y (some v)/\Q v H2
def tDIn(ty td:TE):TE:=λσ H Q=>ty σ H λy H1=>td σ H1 λx H2=>∃a o,x=.ref a/\a8a H2 a y o/\Q (.bl o.isSome) H2
def b4s(ty td:TE):TE:=λσ H Q=>ty σ H λy H1=>td σ H1 λx H2=>∃a o,x=.ref a/\a8a H2 a y o/\Q (.bl (!o.isSome)) H2
def sDPut(td ty tv:TE):TS:=λD σ H=>tv σ H λv H1=>td σ H1 λx H2=>ty σ H2 λy H3=>∃a H4,x=.ref a/\a9n H3 a y v H4/\D.nx σ H4
def sDAug(td ty tv:TE)(rd:V->V->Hp->VK->Prop):TS:=λD σ H=>td σ H λx H1=>ty σ H1 λy H2=>∃a v,x=.ref a/\a8a H2 a y (some v) /\
 tv σ H2 λy2 H3=>rd v y2 H3 λz H4=>∃H5,a9n H4 a y z H5/\D.nx σ H5
def sDDel(td ty:TE):TS:=λD σ H=>td σ H λx H1=>ty σ H1 λy H2=>∃a kvs k,x=.ref a/\H2 a=some (.dK kvs)/\y=kV k/\(a1Z kvs k).isSome=true/\D.nx σ (upd H2 a (.dK (dropK kvs k)))
section
variable {X:Cx}{o i e value:Expr}{pos pos' tpos:Pos}{td ty tv:TE}
theorem b4t(hu:X.A.units+1<cLine)(ho:PE X o td)(hi:PE X i ty)(hs:NoSl i):PE X (.Subscript o i pos) (tDGet td ty):=by
 intro pins s σ H Q I h;refine b4r PySem.F.slot_dict_getitem.lookup hs (thn (ho pins s σ H _ I h) λu s1 ⟨x,H1,I1,rx,q1⟩=>thn (hi pins s1 σ H1 _ I1 q1) λiv s2 ⟨y,H2,I2,ry,a,v,ex,g,q2⟩=>?_);subst ex;obtain rfl:u=Value.ref a:=rx;exact⟨a6E I2 g,a9o hu I2 g ry λw' s3 I3 rw'=>⟨v,H2,I3,rw',q2⟩⟩
theorem a9q(hu:X.A.units+1<cLine)(hi:PE X i ty)(ho:PE X o td):PC X .NotIn i o (b4s ty td):=by
 intro pins s σ H Q I h;refine thn (hi pins s σ H _ I h) λiv s1 ⟨y,H1,I1,ry,q1⟩=>thn (ho pins s1 σ H1 _ I1 q1) λu s2 ⟨x,H2,I2,rx,a,ov,ex,g,q2⟩=>?_;subst ex;obtain rfl:u=Value.ref a:=rx;exact b4q hu I2 g ry λs3 I3=>⟨.bl (!ov.isSome),H2,I3,rfl,q2⟩
theorem a6F(hu:X.A.units+1<cLine)(ho:PE X o td)(hi:PE X i ty)(hv:PE X value tv)(hs:swapsWith value (some (.Subscript o i pos')) pos.line X.env=pure false) :
  PS X (.Assign [.Subscript o i pos'] value pos) (sDPut td ty tv):=by
 intro pins s σ H D I h;refine wpAny_Assign_Subscript (thn (hv pins s σ H _ I h) λr s1 ⟨v,H1,I1,rv,q1⟩=>thn (ho pins s1 σ H1 _ I1 q1) λu s2 ⟨x,H2,I2,rx,q2⟩=>thn (hi pins s2 σ H2 _ I2 q2) λiv s3 ⟨y,H3,I3,ry,a,H4,ex,g,q3⟩=>?_) hs;subst ex;obtain rfl:u=Value.ref a:=rx;exact a9p hu I3 g ry rv λs4 I4=>⟨σ,H4,I4,q3⟩
end
theorem b1v{P:Program}{w:World}(h:Heap)(hb:sysModules<h.objs.size):a1s P w H (h.push {cls:=.type "dict",data:=.dict #[]}) h.objs.size (.dK []):=
 ⟨b6O _,b8i.mpr (Ne.symm (b6L hb)),[],.nil,Heap.DictOf.new h⟩
theorem b1w{P:Program}{w:World}(h:Heap)(hb:sysModules<h.objs.size):a1s P w H (h.push {cls:=.type "dict",data:=.dict #[]}) h.objs.size (.dT []):=
 ⟨b6O _,b8i.mpr (Ne.symm (b6L hb)),[],.nil,_,#[],0,b6m _ rfl,⟨rfl,rfl,rfl⟩,rfl,rfl,c0P⟩
def tDNewK:TE:=λ_ H Q=>∀p,H p=none->Q (.ref p) (upd H p (.dK []))
def tDNewT:TE:=λ_ H Q=>∀p,H p=none->Q (.ref p) (upd H p (.dT []))
section
variable {X:Cx}{pos:Pos}
theorem b1x:PE X (.Dict [] [] pos) tDNewK:=λpins s σ H Q I h=>
 wpAny_Dict_empty ⟨.ref s.heap.objs.size,_,I.laid (a:=s.heap.objs.size) (o:=.dK []) (t':=s.toks) (λ_ _ q=>b6e _ q) (b6k _) (b1v s.heap I.big),rfl,h _ (I.hok.fresh (b6k _))⟩
theorem a7i:PE X (.Dict [] [] pos) tDNewT:=λpins s σ H Q I h=>
 wpAny_Dict_empty ⟨.ref s.heap.objs.size,_,I.laid (a:=s.heap.objs.size) (o:=.dT []) (t':=s.toks) (λ_ _ q=>b6e _ q) (b6k _) (b1w s.heap I.big),rfl,h _ (I.hok.fresh (b6k _))⟩
end
def b3a:List (TE×TE)->St->Hp->(List (V×V)->Hp->Prop)->Prop
 |[],_,H,Q=>Q [] H
 |(tk,tv)::r,σ,H,Q=>tk σ H λx H1=>tv σ H1 λy H2=>b3a r σ H2 λps H3=>Q ((x,y)::ps) H3
def mergeK(kvs more:List (Key×V)):List (Key×V):=more.foldl (λacc kv=>a3k acc kv.1 kv.2) kvs
def tDisp(trs:List (TE×TE)):TE:=λσ H Q=>∀p,H p=none->b3a trs σ (upd H p (.dK [])) λps H2=>H2 p=some (.dK [])/\∃kvs:List (Key×V),ps=kvs.map (λkv=>(kV kv.1,kv.2))/\kvs.length<=15/\Q (.ref p) (upd H2 p (.dK (mergeK [] kvs)))
structure M1(X:Cx)(o:Expr)(m:Str)(apos:Pos)(e:Expr)(cpos:Pos):Prop where
 base:attributeBase o m X.env (eval o X.env)=eval o X.env
 few:((backTo cpos (starEach [e] X.env)).all (λx=>!x.1)&&(backToKw cpos (keywordEach [] X.env)).all (λx=>x.1.isSome)
  && decide (([e]:List Expr).length+([]:List Keyword).length+(if ([]:List Keyword).isEmpty then 0 else 1)<30))=true
 line:(apos.endLine==cpos.line)=true
 trees:backTo cpos (starEach [e] X.env)=[(false,eval e X.env)]
structure M2(X:Cx)(o:Expr)(m:Str)(apos:Pos)(e f:Expr)(cpos:Pos):Prop where
 base:attributeBase o m X.env (eval o X.env)=eval o X.env
 few:((backTo cpos (starEach [e,f] X.env)).all (λx=>!x.1)&&(backToKw cpos (keywordEach [] X.env)).all (λx=>x.1.isSome)
  && decide (([e,f]:List Expr).length+([]:List Keyword).length+(if ([]:List Keyword).isEmpty then 0 else 1)<30))=true
 line:(apos.endLine==cpos.line)=true
 trees:backTo cpos (starEach [e,f] X.env)=[(false,eval e X.env),(false,eval f X.env)]
def IsD(H:Hp)(a:Addr):Prop:=(∃kvs,Rd H a (.dK kvs))\/∃kvs,Rd H a (.dT kvs)
theorem isD_at{s:Shared}(I:Inv X pins σ H s)(d:IsD H a) :
  s.TypeIs (.ref a) "dict"/\(∀b,Value.ref a=.ref b->∃ob,s.heap.get? b=some ob/\ob.dict=none)/\(a==sysModules)=false:=by
 rcases d with ⟨kvs,e⟩|⟨kvs,e⟩
 ·obtain⟨_,hd,vs,_,dd⟩:=a9l I.hok e;refine⟨dd.typeIs,λb q=>?_,hd⟩;cases q;obtain⟨ob,_,_,h1,h2,_⟩:=dd;exact⟨ob,h1,h2.2.1⟩
 ·obtain⟨_,hd,xs,_,dd⟩:=a9m I.hok e;refine⟨dd.typeIs,λb q=>?_,hd⟩;cases q;obtain⟨ob,_,_,h1,h2,_⟩:=dd;exact⟨ob,h1,h2.2.1⟩
section
variable {X:Cx}{pins:List (Addr×Obj)}{σ:St}{H:Hp}{s:Shared}{a:Addr}{y d:V}{u r:Value}{o:Option V}{A:Around}{E:Value->Shared->Prop}
end
def tDPop1(td ty:TE):TE:=λσ H Q=>td σ H λx H1=>∃a,x=.ref a/\IsD H1 a/\ty σ H1 λy H2=>∃kvs k v,H2 a=some (.dK kvs)/\y=kV k/\a1Z kvs k=some v/\Q v (upd H2 a (.dK (dropK kvs k)))
section
variable {X:Cx}{o e f:Expr}{apos cpos:Pos}{td ty tx:TE}
end
section
variable {X:Cx}{pins:List (Addr×Obj)}{σ:St}{H:Hp}{s:Shared}{a:Addr}{kvs:List (Key×V)}{A:Around}{E:Value->Shared->Prop}
end
section
variable {X:Cx}{pins:List (Addr×Obj)}{σ:St}{H:Hp}{s:Shared}{a:Addr}{y:V}{u:Value}{A:Around}{E:Value->Shared->Prop}
end
section
variable {prog:Program}{w:World}{K:Type}[DecidableEq K]{knd:HeapKind prog w K}{A:Around}{E:Value->Shared->Prop}{s:Shared}{d a:Addr}{k:K}{xs:List (K×Addr×Value)}{v:Value}
theorem a6G(hu:knd.room A)(hkey:knd.is s.heap k a)(hm:s.heap.DictOfH knd d xs)(h1:∀p,atKey xs k=some p->Q p.2 {s with toks:=s.toks+knd.draws k})
  (h2:atKey xs k=none->∀h',h'.DictOfH knd d (storedH xs k a v)->Heap.SameBut d s.heap h'->Q v {s with heap:=h',toks:=s.toks+knd.draws k})(hsz:xs.length<=sizeLine) :
  wpAny (model prog w) A (dictSetDefault d (.ref a) v) Q E s:=by
 obtain⟨o,es,ep,ho,hc,hd,he,his,hn⟩:=hm;unfold dictSetDefault
 try with_reducible refine b7F ?_
 refine b6c (knd.pyHash hu hkey (b6c (wpAny_dictFind_heap (s:={s with toks:=s.toks+knd.draws k}) hu hkey ho hd he his hn (λhno=>?_) λj p hj=>?_)))
 ·have e0:=atKey_none_of_get hno;have hnot:k∉xs.map (·.1):=not_mem_keys_of_get hno;refine b6c (b8X (b6c (wpAny_updateDictKeys (hz:=by have e:=size_of_entries he;lia) (s:={s with toks:=s.toks+knd.draws k}) ho hd (b6j (h2 e0 _ ⟨_,_,ep+1,b7Z _ ho (Obj.isFreed_of_dict (Obj.data_mapDictKeys hd _)),hc.mapDictKeys _,Obj.data_mapDictKeys hd _,?_,?_,?_⟩ (b7V ..))))))
  ·rw[storedH_new e0];simp[he,entryOfKey]
  ·rw[storedH_new e0];intro x hx;rcases b6G.mp hx with hx|hx
   ·exact knd.keeps (his x hx) ho hd (b7V ..)
   ·rw[b6r.mp hx];exact knd.keeps hkey ho hd (b7V ..)
  ·rw[storedH_new e0,b6g,c0u];refine⟨hn,by simp,λx hx y hy=>?_⟩;rw[b6z,b8N,b6r] at hy;subst hy;exact λe=>hnot (e▸hx)
 ·refine b6c (b9D (s:={s with toks:=s.toks+knd.draws k}) ho hd ?_);rw[entry_at he j,hj];exact b6c (b8X (b6j (h1 _ (atKey_of_get hn hj))))
end
def tDSetd(td ty tx:TE):TE:=λσ H Q=>td σ H λx H1=>∃a,x=.ref a/\IsD H1 a/\ty σ H1 λy H2=>tx σ H2 λz H3=>∃kvs k b,H3 a=some (.dT kvs)/\y=.ref b/\H3 b=some (.tup (k.map kV))/\kvs.length<sizeLine/\(∀v,a1Z kvs k=some v->Q v H3)/\(a1Z kvs k=none->Q z (upd H3 a (.dT (a3k kvs k z))))
theorem b1y{o e f:Expr}{td ty tx:TE}(hu:X.A.units+1<cLine)(ho:PE X o td)(he:PE X e ty)(hf:PE X f tx)(m:M2 X o "setdefault" apos e f cpos):PE X (.Call (.Attribute o "setdefault" apos) [e,f] [] cpos) (tDSetd td ty tx):=by
 intro pins s σ H Q I h;refine wpAny_Call_method m.base m.few m.line PySem.F.plainAttrs_dict b8K PySem.F.type_dict_setdefault (thn (ho pins s σ H _ I h) λu s1 ⟨x,H1,I1,rx,a,ex,d,q1⟩=>?_);subst ex;obtain rfl:u=Value.ref a:=rx;obtain⟨t1,t2,_⟩:=isD_at I1 d;refine⟨t1,t2,?_⟩;rw[m.trees];refine b8l rfl (b9a (c0j (thn (he pins s1 σ H1 _ I1 q1) λiv s2 ⟨y,H2,I2,ry,q2⟩=>
  c0j (thn (hf pins s2 σ H2 _ I2 q2) λfv s3 ⟨z,H3,I3,rz,kvs,k,b,e3,ey,eb,l,qs,qn⟩=>Calls.spliced_nil ?_))))
 subst ey;cases (show iv=Value.ref b from ry);obtain⟨z3,hd,xs,rel,dd⟩:=dt_of I3.hok e3;have hz:xs.length<=sizeLine:=by rw[<-b8s rel];exact z3
 have hl:(a3k kvs k z).length<=sizeLine:=by have:=a2F kvs k z;grind
 refine c0N (codeAny_call_builtin b8K.plain PySem.F.entry_dict_setdefault (b8K.check _ _ _ _ _ _ _ _ dd.typeIs (PySem.F.args_dict_setdefault_3 _ _ _) ?_));show wpAny _ _ (Builtin.«dict.setdefault» ⟨[.ref a,.ref b,fv],[]⟩) _ _ s3;unfold Builtin.«dict.setdefault»;refine b6c ?_;unfold Builtin.Dict.keyAndDefault;refine b6c (wpAny_notOrdered_dict dd.typeIs ?_);show wpAny _ _ (pure (a,Value.ref b,some fv)) _ _ s3;refine b6j ?_;show wpAny _ _ (if (a==sysModules)=true then _ else (dictSetDefault a (.ref b) fv >>= _)) _ _ s3;rw[if_neg (by rw[hd];exact b6u)];refine b6c (a6G (b9s hu) (a3L I3.hok eb) dd (λp hp=>b6j ?_) (λhn h' dd' hs=>b6j ?_) hz)
 ·have r:=rel.val k;rw[hp] at r;cases hv:a1Z kvs k with
  |none=>rw[hv] at r;exact False.elim r
  |some v=>
   rw[hv] at r;exact⟨v,H3,I3.tok _,r,qs v hv⟩
 ·have r:=rel.val k;rw[hn] at r;have e0:a1Z kvs k=none:=by
   cases hv:a1Z kvs k with
   |none=>rfl
   |some v=>rw[hv] at r;exact False.elim r
  obtain⟨q,es,ep,hq,h2,h3,h4,_,h5⟩:=dd';refine⟨z,upd H3 a (.dT (a3k kvs k z)),a6D I3 (ob:=.dT (a3k kvs k z)) (by rw[e3];exact True.intro) hs ⟨q,hq⟩ ⟨hl,hd,_,(rel.put k eb rz).keeps λc ys ec=>?_,q,es,ep,hq,h2,h3,h4,h5⟩,rz,qn e0⟩;rw[a0i (a0B ec e3 (λz=>nomatch z))];exact ec
def a5a(h:Heap)(d:Addr)(es:Array DictEntry)(ep:Nat):Prop:=∃o,h.get? d=some o/\o.ExactDict/\o.data=.dict es ep
section
variable {prog:Program}{w:World}{A:Around}{E:Value->Shared->Prop}{s:Shared}{it d:Addr}{i ep:Nat}{es:Array DictEntry}
theorem b4u(hit:s.heap.IsKeyIter it d i es.size ep)(hm:a5a s.heap d es ep)(hx:es[i]?=some e)
  (hQ:∀h',h'.IsKeyIter it d (i+1) es.size ep->Heap.SameBut it s.heap h'->Q (some e.key) {s with heap:=h' }):wpAny (model prog w) A (pyNext (.ref it)) Q E s:=by
 obtain⟨o,ho,hc,hd⟩:=id hit;obtain⟨od,hod,hcd,hdd⟩:=hm;have hT:=hit.typeIs;unfold pyNext;refine b6c (b9r (b6X (name:=Str.ofString "__next__") hT b7M (b7s b7M hT b9M ?_ (b9I _))));unfold Builtin.«dict_keyiterator.__next__»
 repeat (first|with_reducible refine b8g hT ?_|with_reducible refine wpAny_fieldsOf ho hd ?_|with_reducible refine b9D hod hdd ?_|with_reducible refine wpAny_dictEpoch hod hdd ?_|with_reducible refine b8R hT ?_|wp_step)
 have em:(if (i:Int)<0 then none else es[(i:Int).toNat]?)=some e:=by rw[if_neg (by simp),b6Q,hx]
 rw[em];refine b6c (b6c (b8g hT (b6j ?_)));refine b6c (b8R hT ?_);show wpAny _ _ (setField (.ref it) 1 (rawInt ((i:Int)+1)) >>= _) _ _ s;refine b6c (b9e ho hd (by simp) ?_);have hit':(s.heap.update it (Obj.mapFields (·.setIfInBounds 1 (rawInt ((i:Int)+1))))).IsKeyIter it d (i+1) es.size ep:=
  ⟨_,b7Z _ ho (b8P (b7P hd _)),(c0t ..).trans hc,by rw[b7P hd];simp[rawInt]⟩
 refine b6c (b7F (b6c (b8R (s:={s with heap:=s.heap.update it (Obj.mapFields (·.setIfInBounds 1 (rawInt ((i:Int)+1))))}) hit'.typeIs ?_)));show wpAny _ _ (pure e.key) _ _ _;exact b6j (b6j ⟨_,rfl,b6j (hQ _ hit' (b7V ..))⟩)
theorem b4v(hh:A.handled=none)(hit:s.heap.IsKeyIter it d i es.size ep)(hm:a5a s.heap d es ep)(hx:es[i]?=none)(hQ:∀h',Heap.ExtBut it s.heap h'->Q none {s with heap:=h' }) :
  wpAny (model prog w) A (pyNext (.ref it)) Q E s:=by
 obtain⟨o,ho,hc,hd⟩:=id hit;obtain⟨od,hod,hcd,hdd⟩:=hm;have hT:=hit.typeIs;unfold pyNext;refine b6c (b9r (b6X (name:=Str.ofString "__next__") hT b7M (b7s b7M hT b9M ?_ (b9I _))));unfold Builtin.«dict_keyiterator.__next__»
 repeat (first|with_reducible refine b8g hT ?_|with_reducible refine wpAny_fieldsOf ho hd ?_|with_reducible refine b9D hod hdd ?_|with_reducible refine wpAny_dictEpoch hod hdd ?_|with_reducible refine b8R hT ?_|wp_step)
 have em:(if (i:Int)<0 then none else es[(i:Int).toNat]?)=none:=by rw[if_neg (by omega),b6Q,hx]
 rw[em];refine b6c (b6c (b8g hT (b6j ?_)));show wpAny _ _ (setField (.ref it) 0 .none >>= _) _ _ s;refine b6c (b9e ho hd (by simp) ?_);show wpAny _ _ (newExc (.type "StopIteration") [] >>= _) _ _ _;refine b6c ?_;simp only[newExc,newTuple];refine b6c (b7l ?_ (by size_fits));refine b6c (m:=firstArgMember _ _) (wpAny_of_eq (a:=Value.none) (by first|rfl|(simp only[firstArgMember];rfl)) ?_);refine b7l ?_ (by size_fits);simp only[raiseNew];refine b6c (wpAny_handled ?_);rw[show A.in1.handled=none from hh];refine b6c (b6j (wpAny_throw ?_));refine b6c (c0F (T:="StopIteration") (b:=true) ⟨_,b6m _ rfl,rfl⟩ isSubtype_stop ?_);exact b6j (hQ _ (((b7V ..).extBut.push _).push _))
theorem b4w(hd:(d==sysModules)=false)(hm:a5a s.heap d es ep)(hQ:Q (.ref s.heap.objs.size) {s with heap:=s.heap.push {cls:=.type "dict_keyiterator",data:=.fields #[.ref d,.int 0 0,.int es.size 0,.int ep 0]}}) :
  wpAny (model prog w) A (pyIter (.ref d)) Q E s:=by
 obtain⟨o,ho,hc,hdat⟩:=hm;have hT:s.TypeIs (.ref d) "dict":=⟨o,ho,hc.1⟩
 refine wpAny_pyIter_slot hT F.slot_dict_iter (b7s F.slot_dict_iter hT F.entry_dict_iter ?_ (F.args_dict_iter_1 _));unfold Builtin.«dict.__iter__»;refine b6c ?_;unfold Builtin.Dict.dictSlotNone;refine b6c (wpAny_notOrdered_dict hT ?_);show wpAny _ _ (pure (Value.ref d)) _ _ s;refine b6j ?_;show wpAny _ _ (Builtin.Dict.showsAll d >>= _) _ _ s;unfold Builtin.Dict.showsAll;rw[if_neg (by rw[hd];exact b6u)];refine b6c (b6j (b6c (b9D ho hdat (b6c (wpAny_dictEpoch ho hdat ?_)))));refine b6c (b7l (b6j ⟨_,rfl,"dict_keyiterator",_,⟨_,b6m _ rfl,rfl⟩,b7M.lookup,?_⟩));simpa [rawInt] using hQ
end
end L2
namespace L2
open PySem PySem.Spec PyProof.Rows PySem.W
def Lf{α:Type}(n:Nat)(P:α->Prop):KasT α->Prop
 |.ret a=>P a
 |.ask i j k=>i<n/\j<n/\∀b,Lf n P (k b)
theorem Lf.bind{α β:Type}{n:Nat}{P:α->Prop}{Q:β->Prop}{f:α->KasT β}(hf:∀a,P a->Lf n Q (f a)):∀{t:KasT α},Lf n P t->Lf n Q (t.bind f)
 |.ret a,h=>hf a h
 |.ask i j k,⟨h1,h2,h3⟩=>⟨h1,h2,λb=>Lf.bind hf (h3 b)⟩
def Pm(n:Nat)(p:Array Nat):Prop:=p.Perm (List.range n).toArray
theorem Pm.lt(h:Pm n p)(hn:0<n)(i:Nat):p.getD i 0<n:=by
 by_cases hi:i<p.size
 ·have e:p.getD i 0=p[i]:=by simp[Array.getD,hi]
  rw[e];have m:p[i]∈(List.range n).toArray:=h.mem_iff.mp (Array.getElem_mem hi);simpa using m
 ·have e:p.getD i 0=0:=by simp[Array.getD,hi]
  rw[e];exact hn
theorem Pm.rev(h:Pm n p)(i j:Nat):Pm n (kas_rev p i j):=(mirror_perm p i j _).trans h
theorem a9r(hn:0<n)(h:Pm n p):∀f m,Lf n (λ_=>True) (kas_asc p f m)
 |0,_=>trivial
 |f+1,m=>⟨h.lt hn _,h.lt hn _,λb=>by
  cases b with
  |true=>show Lf n _ (if true=true then _ else _);rw[if_pos rfl];trivial
  |false=>show Lf n _ (if false=true then _ else _);rw[if_neg (by decide)];exact a9r hn h f (m+1)⟩
theorem a5b(hn:0<n):∀f p m q,Pm n p->Lf n (λr=>Pm n r.1) (kas_desc f p m q)
 |0,_,_,_,h=>h
 |f+1,p,m,q,h=>⟨h.lt hn _,h.lt hn _,λb=>by
  cases b with
  |true=>
   show Lf n _ (if true=true then _ else _);rw[if_pos rfl];by_cases hq:q>0
   ·rw[if_pos hq];exact a5b hn f _ _ _ (h.rev _ _)
   ·rw[if_neg hq];exact a5b hn f _ _ _ h
  |false=>
   show Lf n _ (if false=true then _ else _);rw[if_neg (by decide)];refine⟨h.lt hn _,h.lt hn _,λc=>?_⟩;cases c with
   |true=>show Lf n _ (if true=true then _ else _);rw[if_pos rfl];exact h
   |false=>show Lf n _ (if false=true then _ else _);rw[if_neg (by decide)];exact a5b hn f _ _ _ h⟩
theorem a7j{n:Nat}{p:Array Nat}(hn:0<n)(h:Pm n p)(m r:Nat):Lf n (λx=>Pm n x.2) (kas_tail3 m r p):=by
 refine Lf.bind (λa _=>?_) (a9r hn (h.rev 0 m) (r-m) m);exact h.rev 0 m
theorem a3M{n:Nat}{p:Array Nat}(hn:0<n)(h:Pm n p)(m r:Nat):Lf n (λx=>Pm n x.2) (kas_descPart m r p):=by
 refine Lf.bind (λx hx=>?_) (a5b hn _ _ _ _ h);show Lf n _ (if x.2.2>0 then _ else _);by_cases hq:x.2.2>0
 ·rw[if_pos hq];exact a7j hn (hx.rev _ _) _ _
 ·rw[if_neg hq];exact a7j hn hx _ _
theorem b1z{n:Nat}{p:Array Nat}(hn:0<n)(h:Pm n p)(r:Nat):Lf n (λx=>Pm n x.2) (kas_count r p):=by
 refine Lf.bind (λm _=>?_) (a9r hn h _ _);show Lf n _ (if (m==r)=true then _ else if m>1 then _ else _);by_cases h1:(m==r)=true
 ·rw[if_pos h1];exact h
 ·rw[if_neg h1];by_cases h2:m>1
  ·rw[if_pos h2];refine⟨h.lt hn _,h.lt hn _,λc=>?_⟩;cases c with
   |true=>show Lf n _ (if true=true then _ else _);rw[if_pos rfl];exact h
   |false=>show Lf n _ (if false=true then _ else _);rw[if_neg (by decide)];exact a3M hn (h.rev _ _) _ _
  ·rw[if_neg h2];exact a3M hn h _ _
theorem a5c(hn:0<n)(h:Pm n p)(k:Nat):∀f l r,Lf n (λ_=>True) (kas_place p k f l r)
 |0,_,_=>trivial
 |f+1,l,r=>by
  show Lf n _ (if l >= r then _ else _);by_cases hl:l >= r
  ·rw[if_pos hl];trivial
  ·rw[if_neg hl];refine⟨h.lt hn _,h.lt hn _,λc=>?_⟩;cases c with
   |true=>show Lf n _ (if true=true then _ else _);rw[if_pos rfl];exact a5c hn h k f _ _
   |false=>show Lf n _ (if false=true then _ else _);rw[if_neg (by decide)];exact a5c hn h k f _ _
theorem b3b{n:Nat}(hn:0<n):∀f p k,Pm n p->Lf n (Pm n) (kas_bin f p k)
 |0,_,_,h=>h
 |f+1,p,k,h=>Lf.bind (λl _=>b3b hn f _ _ ((bubble_perm p k _).trans h)) (a5c hn h k k 0 k)
theorem b4x{n:Nat}(hn:0<n):Lf n (Pm n) (kas_sort n):=by
 refine Lf.bind (λr hr=>?_) (b1z hn (Array.Perm.refl _) n);show Lf n _ (if r.1<n then _ else _);by_cases h:r.1<n
 ·rw[if_pos h];exact b3b hn _ _ _ hr
 ·rw[if_neg h];exact hr
theorem a7k{α:Type}{n:Nat}{P:α->Prop}{cmp:Nat->Nat->(Bool->Shared->Prop)->Shared->Prop}{I:Shared->Prop}(hc:∀i j C s,I s->i<n->j<n->(∀b s',I s'->C b s')->cmp i j C s) :
  ∀{t:KasT α}{s:Shared},Lf n P t->I s->t.kasWp cmp (λa s'=>P a/\I s') s
 |.ret a,s,h,hI=>⟨h,hI⟩
 |.ask i j k,s,⟨h1,h2,h3⟩,hI=>hc i j _ s hI h1 h2 λb s' hI'=>a7k hc (h3 b) hI'
variable {prog:Program}{w:World}{A:Around}{E:Value->Shared->Prop}{s:Shared}
def a8b(h:Heap)(v:Value):Prop:=∃(b:Addr)(items:Array Value)(ns:List Int),v=.ref b/\IsTup h b items/\IntsAre items.toList ns
theorem a8b.ty(t:a8b h v):Looks M h (typeOf v) (.type "tuple"):=by
 obtain⟨b,items,ns,rfl,⟨o,ho,hc,_⟩,_⟩:=t;exact hc▸(Looks.ld ho).andThen .now
theorem a9s(hx:a8b s.heap x)(hy:a8b s.heap y)(hu:A.units<cLine)(h:∀b,Q b s):wpAny (model prog w) A (oneLt' true x y) Q E s:=by
 obtain⟨a,items,ns,rfl,ht,hi⟩:=hx;obtain⟨b,items2,ms,rfl,ht2,hj⟩:=hy;obtain⟨⟨cls,dd,data,sl⟩,ho,hc,n,hd⟩:=id ht;obtain⟨⟨cls2,dd2,data2,sl2⟩,ho2,hc2,n2,hd2⟩:=id ht2;simp only at hc hd hc2 hd2;subst hc hd hc2 hd2;rw[oneLt'_eq];simp only[if_true];refine b6c (wpAny_cRoomFor hu ?_);refine b6c (wpAny_callSpecialIfBound?_slot (T:="tuple") ⟨_,ho,rfl⟩ PySem.F.slot_tuple_lt (b8q PySem.F.slot_tuple_lt ⟨_,ho,rfl⟩ PySem.F.entry_tuple_lt (PySem.F.args_tuple_lt_2 _ _) (HT.a4O a b items items2 n n2 dd dd2 sl sl2 ns ms hi hj) ⟨ho,ho2,?_⟩));exact b7u (h _)
theorem a9t{α β:Type}{M:Model}{f:α->Sem β}{g:α->β}:∀(l:List α){Q:List β->Shared->Prop},(∀v∈l,∀(Q':β->Shared->Prop),Q' (g v) s->wpAny M A (f v) Q' E s)->Q (l.map g) s->wpAny M A (l.mapM f) Q E s
 |[],_,_,h=>by rw[List.mapM_nil];exact b6j h
 |x::l,Q,hf,h=>by
  rw[List.mapM_cons];exact b6c (hf x (.head _) _ (b6c (a9t l (Q:=λbs s'=>wpAny M A (pure (g x::bs)) Q E s') (λv hv=>hf v (.tail _ hv)) (b6j h))))
def fst?(h:Heap):Value->Option Value
 |.ref b=>match h.get? b with
  |some o=>match o.data with
   |.seq xs _=>xs[0]?
   |_=>none
  |none=>none
 |_=>none
theorem b1A{M:Model}{v0:Value}{vs:List Value}{Q:SortKind->Shared->Prop}(t:∀v∈v0::vs,a8b s.heap v)(h0:fst? s.heap v0=none)(h:Q oneType' s):wpAny M A (keyKind' (v0::vs).toArray) Q E s:=by
 rw[kat_kind_eq,List.mapM_toArray,map_eq_pure_bind];refine b6c (b6c (a9t (g:=fst? s.heap) _ (λv hv Q' hq=>?_) (b6j ?_)))
 ·have ty:=(t v hv).ty (M:=M);obtain⟨b,items,ns,rfl,⟨o,ho,hc,n,hd⟩,_⟩:=t v hv;rw[kas_first_eq];refine b6c (ty.here ?_);rw[if_neg (by simp)];refine b6c (listItems_at ho hd (b6j ?_));have e:fst? s.heap (.ref b)=items[0]?:=by unfold fst?;simp only[ho,hd]
  rw[<-e];exact hq
 ·have na:((List.map (fst? s.heap) (v0::vs)).toArray.all λx=>x.isSome)=false:=by
   simp[h0]
  have n0:((List.map (fst? s.heap) (v0::vs)).toArray[0]?.bind id).isSome=false:=by simp[h0]
  rw[if_neg (by rw[na];decide),if_neg (by rw[n0];decide)];rw[oneTypeOnly'_eq,List.mapM_toArray,map_eq_pure_bind];refine b6c (b6c (b6c (kas_mapM (r:=Value.type "tuple") _ (λv hv Q' hq=>((t v hv).ty (M:=M)).here hq) (b6j ?_))));have hall:((List.map (λ_=>Value.type "tuple") (v0::vs)).toArray.all λx=>x==Value.type "tuple")=true:=by
   simp
  have e0:(List.map (λ_=>Value.type "tuple") (v0::vs)).toArray[0]?=some (Value.type "tuple"):=by simp
  rw[e0];simp only[hall,if_true];exact b6j (b6j h)
theorem a8b.keep(t:a8b h v)(ho:h.get? a=some o)(hc:o.cls=.type "list")(k:∀b o,b≠a->h.get? b=some o->h'.get? b=some o):a8b h' v/\fst? h' v=fst? h v:=by
 obtain⟨b,items,ns,rfl,⟨ob,hb,hcb,n,hd⟩,hi⟩:=t;have ne:b≠a:=λz=>by rw[z,ho] at hb;cases hb;rw[hc] at hcb;exact absurd (Value.type.inj hcb) (by decide)
 have hb':=k b ob ne hb;refine⟨⟨b,items,ns,rfl,⟨ob,hb',hcb,n,hd⟩,hi⟩,?_⟩;unfold fst?;simp only[hb,hb']
theorem b1B(h:Pm n p)(hn:vs.length=n):(p.toList.map λi=>vs.getD i Value.none).Perm vs:=by
 have e:(List.range n).map (λi=>vs.getD i Value.none)=vs:=by
  subst hn;refine List.ext_getElem (by simp) λi h1 h2=>?_;simp[b6q,b6f h2]
 have q:p.toList.Perm (List.range n):=by
  have:=h.toList;simpa using this
 have q2:=q.map λi=>vs.getD i Value.none;rw[e] at q2;exact q2
theorem b1C{P:PySem.Fin->Shared->Prop}(ho:s.heap.get? a=some (seqObj "list" vs.toArray n))(h64:vs.length<64)(t:∀v∈vs,a8b s.heap v)(h0:∀v0 rest,vs=v0::rest->fst? s.heap v0=none)(hu:A.units<cLine)
  (h:∀(h':Heap)(out:List Value)(c:Nat),out.Perm vs->h'.get? a=some (seqObj "list" out.toArray c)->(∀b o,b≠a->s.heap.get? b=some o->h'.get? b=some o)->P (.done (.ret .none)) {s with heap:=h' }) :
  wpAny (model prog w) A (Builtin.«list.sort» ⟨[.ref a],[]⟩) P E s:=by
 have ha:a<s.heap.objs.size:=b6t ho;obtain⟨e1,ho1⟩:∃e1,(s.heap.update a (Obj.mapSeq λ_=>(#[]:Array Value))).get? a=some (seqObj "list" #[] e1):=⟨_,b9X ho λ_=>#[]⟩
 rw[list_sort_plain];refine b6c (listItems_at ho rfl (b6c (listUpdate_at ho rfl ?_ (by rw[b6n,b8f];lia) (b6O _))));refine b6c (seqEpoch_at ho1 rfl (b6c (wpAny_newTuple ?_ (by show vs.length<=_;rw[b8f];omega))));refine b6c (wpAny_newList ?_ (b6O _));refine b7F ?_;have k1:∀b o,b≠a->s.heap.get? b=some o->(((s.heap.update a (Obj.mapSeq λ_=>(#[]:Array Value))).push (seqObj "tuple" vs.toArray 0)).push (seqObj "list" #[] 0)).get? b=some o:=λb o hb e=>
  b6e _ (b6e _ ((b7W _ _ _ _ hb).trans e))
 have ho6:(((s.heap.update a (Obj.mapSeq λ_=>(#[]:Array Value))).push (seqObj "tuple" vs.toArray 0)).push (seqObj "list" #[] 0)).get? a=some (seqObj "list" #[] e1):=b6e _ (b6e _ ho1);show wpAny (model prog w) A _ P E {s with heap:=((s.heap.update a (Obj.mapSeq λ_=>(#[]:Array Value))).push (seqObj "tuple" vs.toArray 0)).push (seqObj "list" #[] 0)};generalize (((s.heap.update a (Obj.mapSeq λ_=>(#[]:Array Value))).push (seqObj "tuple" vs.toArray 0)).push (seqObj "list" #[] 0))=h1 at k1 ho6 ⊢;dsimp only;have last:∀(out:List Value),out.Perm vs->∃c,(h1.update a (Obj.mapSeq λ_=>out.toArray)).get? a=some (seqObj "list" out.toArray c)/\(∀b o,b≠a->s.heap.get? b=some o->(h1.update a (Obj.mapSeq λ_=>out.toArray)).get? b=some o):=λout hp=>
  ⟨_,b9X ho6 λ_=>out.toArray,λb o hb e=>(b7W _ _ _ _ hb).trans (k1 b o hb e)⟩
 by_cases h2:vs.toArray.size<2
 ·rw[if_pos h2,if_pos h2];refine b6c (b6j ?_);rw[StateT.run_pure];refine b6c (b6j ?_);dsimp only;refine b6c (seqEpoch_at ho6 rfl ?_);have e2:Array.map (λx=>x.snd) (arrOf (SortSt.mk' general' (vs.toArray.zip vs.toArray) #[] 7 none))=vs.toArray:=by
   show Array.map (λx=>x.snd) (vs.toArray.zip vs.toArray)=vs.toArray;apply Array.toList_inj.mp;simp[List.map_snd_zip]
  rw[e2];obtain⟨c,hc,kk⟩:=last vs (List.Perm.refl _);refine b6c (listUpdate_at ho6 rfl ?_ (b6O _) (by rw[b6n,b8f];lia));simp only[bne_self_eq_false,c0l,c0R];exact b6j (h _ vs c (List.Perm.refl _) hc kk)
 ·rw[if_neg h2,if_neg h2];rw[b6n] at h2;obtain⟨v0,rest,rfl⟩:∃v0 rest,vs=v0::rest:=by
   match vs,h2 with
   |[],h2=>simp at h2
   |v0::rest,_=>exact⟨v0,rest,rfl⟩
  have tk:=λv hv=>a8b.keep (t v hv) ho rfl k1;refine b6c (b1A (s:={s with heap:=h1}) (λv hv=>(tk v hv).1) (by rw[(tk v0 (.head _)).2];exact h0 v0 rest rfl) ?_);have tree:(kas_sort (v0::rest).length).kasWp (kas_ask prog w A oneType' (v0::rest)) (λp s'=>Pm (v0::rest).length p/\s'={s with heap:=h1}) {s with heap:=h1}:=by
   refine a7k (I:=λs'=>s'={s with heap:=h1}) (λi j C s' hI hi hj hC=>?_) (b4x (by simp)) rfl;subst hI;have at_:∀i,i<(v0::rest).length->a8b h1 ((v0::rest).getD i Value.none):=λi hi=>by
    rw[b6q,b6f hi];exact(tk _ (b7w hi)).1
   show wpAny (model prog w) A (keyLt' oneType' _ _) C _ _;rw[keyLt'_oneType];exact a9s (at_ i hi) (at_ j hj) hu λb=>hC b _ rfl
  refine b6c (b8V (kat_run (Q:=λst' s'=>∃p:Array Nat,arrOf st'=p.map (kas_item ((v0::rest).toArray.zip (v0::rest).toArray))/\failedOf st'=none/\Pm (v0::rest).length p/\s'={s with heap:=h1}) rfl (by lia) h64 (λp' st' s' a1 a2 a3 a4=>⟨p',a2,a3,a4.1,a4.2⟩) tree) ?_ λ_ _ e=>e);rintro⟨⟨⟩,st'⟩ s' ⟨p,har,hf,hp,rfl⟩;dsimp only;have hout:=kat_snds rfl har;have po:=b1B hp rfl;obtain⟨c,hc,kk⟩:=last _ po;refine b6c (seqEpoch_at ho6 rfl ?_);rw[hout];refine b6c (listUpdate_at ho6 rfl ?_ (b6O _) (by rw[b6n,po.length_eq,b8f];lia));rw[hf];simp only[bne_self_eq_false,c0l,c0R];exact b6j (h _ _ c po hc kk)
section
variable {prog:Program}{w:World}{A:Around}{E:Value->Shared->Prop}{s:Shared}{d:Addr}{es:Array DictEntry}{ep:Nat}
theorem a5a.at(x:a5a h d es ep)(e:∀o,h.get? d=some o->h'.get? d=some o):a5a h' d es ep:=by
 obtain⟨o,ho,r⟩:=x;exact⟨o,e o ho,r⟩
theorem a9u(hh:A.handled=none)(I:Addr)(hne:d≠I):Walks prog w A I [I,d] [I] es.size (λi v=>∃e,es[i]?=some e/\v=e.key) (λi h=>h.IsKeyIter I d i es.size ep/\a5a h d es ep) where
 sub:=λb hb=>by simp at hb;simp[hb]
 frame:=λ_ _ _ st hk=>⟨st.1.at λo e=>hk I (by simp) o e,st.2.at λo e=>hk d (by simp) o e⟩
 item:=λi s Q E hi st hQ=>by
  have he:es[i]?=some es[i]:=c0r hi;refine b4u st.1 st.2 he λh' hit' hs'=>?_;exact hQ _ h' s.toks ⟨_,he,rfl⟩ ⟨hit',st.2.at λo e=>(hs'.2 d hne).trans e⟩ λb o hb e=>hs'.extBut b o (λh=>hb (by simp[h])) e
 done:=λs Q E st hQ=>b4v hh st.1 st.2 (by simp) λh' he'=>hQ h' s.toks λb o hb e=>he' b o (λh=>hb (by simp[h])) e
 self:=λ_ _ _ _ st hQ=>wpAny_pyIter_keyiter st.1 hQ
theorem b1D(hd:(d==sysModules)=false):KdlSrc prog w "dict" d d es.size (λi v=>∃e,es[i]?=some e/\v=e.key) (λh=>a5a h d es ep) where
 type:=λs ⟨o,ho,hx,_⟩=>⟨o,ho,hx.1⟩
 there:=λh ⟨o,ho,_⟩=>⟨b6t ho,b6t ho⟩
 keep:=λh h' x k=>x.at λo e=>k d (.inl rfl) o e
 notList:=by decide
 notTuple:=by decide
 hint:=λA E s Q ⟨o,ho,hx,_⟩ h=>kdl_hint_dict ⟨o,ho,hx.1⟩ h
 iter:=λA s hh hok=>by
  have lt:d<s.heap.objs.size:=by obtain⟨o,ho,_⟩:=hok;exact b6t ho
  exact⟨_,_,λE Q hQ=>b4w hd hok hQ,a9u hh _ (b6L lt),⟨_,b6m _ rfl,rfl,rfl⟩,hok.at λo e=>b6e _ e⟩
theorem a5O(hh:A.handled=none)(hd:(d==sysModules)=false)(hok:a5a s.heap d es ep)(hn:es.size<=sizeLine)
  (h:∀h' tk,(∀b o,s.heap.get? b=some o->h'.get? b=some o)->Q (es.toList.map (·.key)) {s with heap:=h',toks:=tk}):wpAny (model prog w) A (collect (.ref d)) Q E s:=by
 have lt:d<s.heap.objs.size:=by obtain⟨o,ho,_⟩:=hok;exact b6t ho
 have ne:s.heap.objs.size≠d:=b7Y lt;unfold collect;refine b6c (wpAny_runValue (b8b F.entry_proto_collect ?_));rw[b7A F.plain_proto_collect _];show wpAny _ A.in1 (newList [] >>= λl=>again (.builtin "list.__iadd__" ⟨[l,.ref d],[]⟩)) _ _ s;refine b6c (b7l ?_);refine b6j ⟨b8Y F.plain_list_iadd _,b8b F.entry_list_iadd ?_⟩;rw[b7A F.plain_list_iadd _];show wpAny _ A.in1 (Builtin.List.listExtendWith (.ref s.heap.objs.size) (.ref d) (.ref s.heap.objs.size)) _ _ _;have hS0:(s.heap.push {cls:=.type "list",data:=.seq #[]}).get? s.heap.objs.size=some {cls:=.type "list",data:=.seq #[]}:=b6m _ rfl;have fin:∀s':Shared,(∃acc c,s'.heap.get? s.heap.objs.size=some {cls:=.type "list",dict:=none,data:=.seq acc c,slots:=#[]}/\acc.toList=es.toList.map (·.key)/\Q (es.toList.map (·.key)) s') ->
   wpAny (model prog w) A (match Value.ref s.heap.objs.size with
    |.ref a=>do
     let o <-load a
     match o.data with
     |.seq xs _=>pure xs.toList
     |_=>unsupported "internal:collect"
    |_=>unsupported "internal:collect") Q E s':=λs' ⟨acc,c,hS,ea,q⟩=>by
  show wpAny _ A (load s.heap.objs.size >>= _) _ _ _;refine b6c (wpAny_load hS (b6j ?_));show Q acc.toList _;rw[ea];exact q
 refine b8V (kdl_extend (s:={s with heap:=s.heap.push {cls:=.type "list",data:=.seq #[]}}) (A:=A)
  (R:=λr s'=>r=.ok (.ret (.ref s.heap.objs.size))/\∃acc c,s'.heap.get? s.heap.objs.size=some {cls:=.type "list",dict:=none,data:=.seq acc c,slots:=#[]}/\acc.toList=es.toList.map (·.key)/\Q (es.toList.map (·.key)) s')
  (b1D (es:=es) (ep:=ep) hd) hh (hok.at λo e=>b6e _ e) s.heap.objs.size ne ne (.ref s.heap.objs.size) 0 hS0 (λh' tk acc c kp hS hacc=>⟨rfl,acc,c,hS,?_,?_⟩) hn) (λfn s' hz=>?_) (λe s' hz=>?_)
 ·refine b8W λi=>?_;rw[b7J,b6p,b7J];cases hi:acc[i]? with
  |none=>
   have:acc.size<=i:=Array.getElem?_eq_none_iff.mp hi;rw[Array.getElem?_eq_none (by rw[<-hacc.1];exact this)];rfl
  |some v=>
   obtain⟨e,he,rfl⟩:=hacc.2 i v hi;rw[he];rfl
 ·exact h h' tk λb o e=>kp b o (b6L (b6t e)) (b6e _ e)
 ·rcases fn with f|c'
  ·obtain⟨e,z⟩:=hz;cases e;exact fin s' z
  ·refine⟨hz.1,b8L hz.2 λr s'' z=>?_⟩;obtain⟨e,z⟩:=z;subst e;exact fin s'' z
 ·obtain⟨z,_⟩:=hz;cases z
end
def b1E(H:Hp)(x:V)(k:List Key):Prop:=∃b,x=.ref b/\H b=some (.tup (k.map kV))
def rSortD:List V->Hp->VK->Prop:=λxs H Q=>∃d kvs,xs=[.ref d]/\H d=some (.dT kvs)/\kvs.length<64/\(∀kv∈kvs,∃ns:List Int,kv.1=ns.map Sum.inl)/\(∀k v r,kvs=(k,v)::r->k=[]) /\
 ∀p H' out ks,a0r H H'->H p=none->H' p=some (.lst out)->ks.Perm (kvs.map (·.1))->Paired (b1E H') out ks->Q (.ref p) H'
theorem a8c{us:List Value}(r:a0P ((ns.map Sum.inl).map kV) us):IntsAre us ns:=by
 induction ns generalizing us with
 |nil=>cases r;exact .nil
 |cons n ns ih=>
  cases r with
  |cons r rr=>
   obtain⟨t,rfl⟩:=r;exact .cons _ _ (ih rr)
theorem unmap{α β:Type}{f:α->β}{l m:List β}(h:l.Perm m):∀xs,m=xs.map f->∃ys:List α,ys.Perm xs/\l=ys.map f:=by
 induction h with
 |nil=>exact λxs e=>⟨[],by cases xs with|nil=>exact .nil|cons a t=>simp at e,rfl⟩
 |cons x h ih=>
  intro xs e;cases xs with
  |nil=>simp at e
  |cons a t=>
   simp only[b6z,b9Y] at e;obtain⟨ys,p,rfl⟩:=ih t e.2;exact⟨a::ys,.cons _ p,by rw[e.1];rfl⟩
 |swap x y l=>
  intro xs e
  match xs,e with
  |[],e=>simp at e
  |[_],e=>simp at e
  |a::b::t,e=>
   simp only[b6z,b9Y] at e;exact⟨b::a::t,.swap _ _ _,by rw[e.1,e.2.1,e.2.2];rfl⟩
 |trans h1 h2 ih1 ih2=>
  intro xs e;obtain⟨ys,p,rfl⟩:=ih2 xs e;obtain⟨zs,p2,rfl⟩:=ih1 ys rfl;exact⟨zs,p2.trans p,rfl⟩
theorem a3N{α:Type}(g:α->Addr):∀ys:List α,a0P (ys.map λx=>V.ref (g x)) (ys.map λx=>Value.ref (g x))
 |[]=>.nil
 |y::ys=>.cons rfl (a3N g ys)
theorem a3O:∀ys:List (List Key×Addr×Value),(∀y∈ys,H' y.2.1=some (.tup (y.1.map kV)))->Paired (b1E H') (ys.map λx=>V.ref x.2.1) (ys.map (·.1))
 |[],_=>.nil
 |y::ys,h=>.cons ⟨_,rfl,h y (.head _)⟩ (a3O ys λz hz=>h z (.tail _ hz))
theorem fst_eq{H:Hp}{kvs:List (List Key×V)}{xs:List (List Key×Addr×Value)}(r:Paired (λ(p:List Key×V)(q:List Key×Addr×Value)=>p.1=q.1/\H q.2.1=some (.tup (p.1.map kV))/\a1h p.2 q.2.2) kvs xs):kvs.map (·.1)=xs.map (·.1):=by
 induction r with
 |nil=>rfl
 |cons a _ ih=>rw[b6z,b6z,a.1,ih]
theorem b1F{X:Cx}(hc:X.calm=true)(hu:X.A.units+4<cLine):a2v X (.builtin "sorted") rSortD:=by
 intro pins s σ H xs us Q I r h;obtain⟨d,kvs,rfl,e,h64,hi,h0,q⟩:=h;obtain⟨u,rfl,rx⟩:=a2D r;cases rx;obtain⟨z,hd,xs,rel,ob,es,ep,ho,hx,hdat,he,hn⟩:=(show a1s X.prog X.w H s.heap d (.dT kvs) from I.hok d _ e)
 have lx:kvs.length=xs.length:=b8s rel;have sz:es.size=xs.length:=size_of_entries he;have hk:es.toList.map (·.key)=xs.map λx=>Value.ref x.2.1:=by
  rw[he,b7v];rfl
 have tup:∀x∈xs,a8b s.heap (.ref x.2.1)/\∃k,H x.2.1=some (.tup (k.map kV))/\k=x.1:=λx hxm=>by
  obtain⟨i,hi'⟩:=b6N.mp hxm;obtain⟨kv,hkv,r1,r2,r3⟩:=L2.Paired.left_of rel i x hi';obtain⟨ns,en⟩:=hi kv (b6h hkv);obtain⟨_,its,rv,it⟩:=a3K ((show a1s X.prog X.w H s.heap x.2.1 (.tup (kv.1.map kV)) from I.hok _ _ r2));rw[en] at rv;exact⟨⟨_,_,ns,rfl,it,by simpa using a8c rv⟩,kv.1,r2,r1⟩
 refine Calls.call_function_entry kind_sorted plain_sorted entry_sorted (args_sorted1 _) ?_;unfold Builtin.«sorted»;refine b6c (m:=checkCount "sorted" 1 1 _) (b6j ?_);refine b6c (a5O (I.ok.hd hc) hd ⟨ob,ho,hx,hdat⟩ (by rw[sz,<-lx,b8f];assumption) λh1 tk1 k1=>?_);rw[hk];refine b6c (wpAny_newList ?_ (by rw[b6b,<-lx,b8f];assumption));have hoL:(h1.push (seqObj "list" (xs.map λx=>Value.ref x.2.1).toArray 0)).get? h1.objs.size=some (seqObj "list" (xs.map λx=>Value.ref x.2.1).toArray 0):=b6m _ rfl;have k2:∀b o,s.heap.get? b=some o->(h1.push (seqObj "list" (xs.map λx=>Value.ref x.2.1).toArray 0)).get? b=some o:=λb o e=>b6e _ (k1 b o e);show wpAny _ _ _ _ _ {s with heap:=h1.push (seqObj "list" (xs.map λx=>Value.ref x.2.1).toArray 0),toks:=tk1};have nL:∀b o,h1.get? b=some o->b≠h1.objs.size:=λb o e=>b6L (b6t e);have I1:Inv X pins σ H {s with heap:=h1,toks:=tk1}:=I.kept k1;have hLn:H h1.objs.size=none:=I1.hok.fresh (b6k _);have tk:∀v∈xs.map (λx=>Value.ref x.2.1),a8b (h1.push (seqObj "list" (xs.map λx=>Value.ref x.2.1).toArray 0)) v:=λv hv=>by
  obtain⟨x,hxm,rfl⟩:=b6x.mp hv;obtain⟨b,items,ns,eb,⟨o,hb,rr⟩,hh⟩:=(tup x hxm).1;exact⟨b,items,ns,eb,⟨o,k2 b o hb,rr⟩,hh⟩
 refine b6c (b7F (b7s slot_list_sort ⟨_,hoL,rfl⟩ entry_list_sort (b1C (s:={s with heap:=h1.push (seqObj "list" (xs.map λx=>Value.ref x.2.1).toArray 0),toks:=tk1}) hoL (by rw[b6b,<-lx];exact h64) tk (λv0 rest ev=>?_) ?_ λh' out c po hL kp=>⟨_,rfl,?_⟩) (args_list_sort _)))
 ·cases hxs:xs with
  |nil=>rw[hxs] at ev;simp at ev
  |cons x0 xr=>
   rw[hxs] at ev;simp only[b6z,b9Y] at ev;obtain⟨rfl,_⟩:=ev;obtain⟨kv0,hkv,r1,r2,r3⟩:=L2.Paired.left_of rel 0 x0 (by rw[hxs];rfl);have ek:kv0.1=[]:=by
    cases hkk:kvs with
    |nil=>rw[hkk] at hkv;simp at hkv
    |cons p pr=>
     rw[hkk] at hkv;simp at hkv;subst hkv;exact h0 p.1 p.2 pr hkk
   rw[ek] at r2;obtain⟨_,its,rv,⟨o,hb,hcl,n,hdd⟩⟩:=a3K ((show a1s X.prog X.w H s.heap x0.2.1 (.tup []) from I.hok _ _ r2));cases rv;have hb':=k2 _ _ hb;rw[hxs] at hb';unfold fst?;simp only[hb',hdd];rfl
 ·show X.A.units+1+1<cLine
  lia
 ·obtain⟨ys,py,rfl⟩:=unmap po xs rfl;have kh:∀b o,h1.get? b=some o->h'.get? b=some o:=λb o e=>kp b o (nL b o e) (b6e _ e);have I2:Inv X pins σ (upd H h1.objs.size (.lst (ys.map λx=>V.ref x.2.1))) {s with heap:=h',toks:=tk1}:=I1.laid (t':=tk1) kh (b6k _) ⟨by rw[b6b,py.length_eq,<-lx,b8f];assumption,_,c,a3N (λx:List Key×Addr×Value=>x.2.1) ys,hL⟩;have sm:=a0e hLn (.lst (ys.map λx=>V.ref x.2.1));refine b6j ⟨_,rfl,.ref h1.objs.size,_,I2,rfl,q _ _ _ (ys.map (·.1)) sm hLn a0b (by rw[fst_eq rel];exact py.map _) (a3O ys λy hy=>sm _ _ ?_)⟩;obtain⟨k,hk2,rfl⟩:=(tup y (py.mem_iff.mp hy)).2;exact hk2
end L2
namespace L2
open PySem PySem.Spec
def a8q(ls:List Int):List (Key×V):=ls.map λl=>((Sum.inl l:Key),V.bl true)
def b4y(l:Int)(ls:List Int):List Int:=if l∈ls then ls else ls++[l]
def a3P(k:List Int)(l:Int):List (List Int×List Int)->List (List Int×List Int)
 |[]=>[(k,[l])]
 |(k',ls)::r=>if k'=k then (k',b4y l ls)::r else (k',ls)::a3P k l r
abbrev kI(k:List Int):List Key:=k.map Sum.inl
def a6q(H:Hp)(kvs:List (List Key×V))(wy:List (List Int×List Int)):Prop:=Paired (λ(kv:List Key×V)(q:List Int×List Int)=>kv.1=kI q.1/\∃dx,kv.2=.ref dx/\H dx=some (.dK (a8q q.2))) kvs wy
theorem a7l{a b:List Int}(h:kI a=kI b):a=b:=by
 induction a generalizing b with
 |nil=>cases b with
  |nil=>rfl
  |cons y ys=>simp[kI] at h
 |cons x xs ih=>cases b with
  |nil=>simp[kI] at h
  |cons y ys=>
   simp only[kI,b6z,b9Y,Sum.inl.injEq] at h;rw[h.1,ih h.2]
theorem a9v(l:Int):∀ls,a3k (a8q ls) (Sum.inl l) (.bl true)=a8q (b4y l ls):=λls=>by
 by_cases hm:l∈ls
 ·have hv:∀ls:List Int,l∈ls->(a8q ls).any (λkv=>decide (kv.1=Sum.inl l))=true:=λls h=>by
   rw[List.any_eq_true];exact⟨(Sum.inl l,.bl true),b6x.mpr ⟨l,h,rfl⟩,by simp⟩
  unfold b4y;rw[if_pos hm];unfold a3k;rw[if_pos (hv ls hm)];refine b8W λi=>?_;rw[b6p];unfold a8q;rw[b6p];cases ls[i]? with
  |none=>rfl
  |some y=>
   simp only[b8C];split<;>rfl
 ·have hv:a1Z (a8q ls) (Sum.inl l)=none:=by
   unfold a1Z;rw[Option.map_eq_none_iff,List.find?_eq_none];intro x hx;obtain⟨y,hy,rfl⟩:=b6x.mp hx;simp only[b7m,Sum.inl.injEq];exact λz=>hm (z▸hy)
  rw[a7h _ hv];unfold b4y;rw[if_neg hm];unfold a8q;rw[b6g];rfl
theorem a6q.ups{H:Hp}{kvs:List (List Key×V)}{wy:List (List Int×List Int)}{dx:Addr}{o:HO}(h:a6q H kvs wy)(hn:V.ref dx∉kvs.map (·.2)):a6q (upd H dx o) kvs wy:=by
 induction h with
 |nil=>exact .nil
 |cons r t ih=>
  rw[b6z,b6D,not_or] at hn;obtain⟨e1,d1,e2,e3⟩:=r;exact .cons ⟨e1,d1,e2,by rw[a0i (λz=>hn.1 (by rw[e2,z]))];exact e3⟩ (ih hn.2)
theorem wy_old{H:Hp}{k:List Int}{l:Int}{v:V}{kvs:List (List Key×V)}{wy:List (List Int×List Int)}(h:a6q H kvs wy):(kvs.map (·.2)).Nodup->a1Z kvs (kI k)=some v ->
  ∃dx ls,v=.ref dx/\v∈kvs.map (·.2)/\(∃q∈wy,q.2=ls)/\H dx=some (.dK (a8q ls))/\a6q (upd H dx (.dK (a8q (b4y l ls)))) kvs (a3P k l wy):=by
 induction h with
 |nil=>intro _ z;cases z
 | @cons kv q kvs wy r t ih=>
  intro nd hv;rw[b6z,b7C] at nd;obtain⟨e1,d1,e2,e3⟩:=r;obtain⟨qk,qs⟩:=q;by_cases hk:kv.1=kI k
  ·rw[a1i hk] at hv;have ek:qk=k:=a7l (e1.symm.trans hk);cases hv;refine⟨d1,qs,e2,by rw[b6z];exact .head _,⟨_,.head _,rfl⟩,e3,?_⟩;unfold a3P;rw[if_pos ek];exact .cons ⟨e1,d1,e2,a0b⟩ (a6q.ups t (by rw[<-e2];exact nd.1))
  ·rw[a1j hk] at hv;obtain⟨dx,ls,rfl,hm,⟨q1,hq1,eq1⟩,hd,hw⟩:=ih nd.2 hv;refine⟨dx,ls,rfl,by rw[b6z];exact .tail _ hm,⟨q1,.tail _ hq1,eq1⟩,hd,?_⟩;unfold a3P;rw[if_neg (λz=>hk (by rw[e1,z]))];exact .cons ⟨e1,d1,e2,by rw[a0i (λz=>nd.1 (by rw[e2,z];exact hm))];exact e3⟩ hw
theorem wy_new{H:Hp}{k:List Int}{l:Int}{dx:Addr}{kvs:List (List Key×V)}{wy:List (List Int×List Int)}(h:a6q H kvs wy):a1Z kvs (kI k)=none->H dx=some (.dK (a8q [l])) ->
  a6q H (kvs++[(kI k,.ref dx)]) (a3P k l wy):=by
 induction h with
 |nil=>exact λ_ hd=>.cons ⟨rfl,dx,rfl,hd⟩ .nil
 | @cons kv q kvs wy r t ih=>
  intro hv hd;obtain⟨e1,d1,e2,e3⟩:=r;obtain⟨qk,qs⟩:=q;by_cases hk:kv.1=kI k
  ·rw[a1i hk] at hv;cases hv
  ·rw[a1j hk] at hv;unfold a3P;rw[if_neg (λz=>hk (by rw[e1,z]))];exact .cons ⟨e1,d1,e2,e3⟩ (ih hv hd)
end L2
namespace L2
open PySem PySem.Spec PyProof.Rows
section
variable {prog:Program}{w:World}{A:Around}{E:Value->Shared->Prop}{s:Shared}{k:Bool}{ee it l:Addr}{n:Nat}{xs:Array Value}{x old:Value}
theorem a8d{Q:Value->Shared->Prop}(he:IsEnum s.heap ee it n old)(hi:SIt k s.heap it l n)(hl:SAt k s.heap l xs)(hx:xs[n]?=some x)(hne:ee≠it)
  (hQ:∀h',IsEnumOut h' ee it ((n:Int)+1) x s.heap.objs.size->SIt k h' it l (n+1)->h'.get? s.heap.objs.size=some {cls:=.type "tuple",data:=.seq #[.int n s.toks,x]} ->
   (∀b o,b≠ee->b≠it->s.heap.get? b=some o->h'.get? b=some o)->Q (.ref s.heap.objs.size) {s with heap:=h',toks:=s.toks+1}) :
  wpAny (model prog w) A (Builtin.«enumerate.__next__» ⟨[.ref ee],[]⟩) (λfin s'=>∃v,fin=.done (.ret v)/\Q v s') E s:=by
 obtain⟨hp,g,d,tk,os⟩:=s;show wpAny _ _ (field (.ref ee) 2 >>= _) _ _ _;refine b6c (b7a he rfl (x:=.ref it) rfl (b6c (b1n hi hl hx λg1 i1 b1=>?_)))
 replace b1:Heap.SameBut it hp g1:=b1
 have e1:IsEnum g1 ee it n old:=(b1.2 ee hne).trans he;show wpAny _ _ (field (.ref ee) 3 >>= _) _ _ ⟨g1,g,d,tk,os⟩;refine b6c (b7a e1 rfl (x:=rawInt n) rfl ?_);show wpAny _ _ (field (.ref ee) 4 >>= _) _ _ ⟨g1,g,d,tk,os⟩;refine b6c (b7a e1 rfl (x:=.none) rfl ?_);show wpAny _ _ (mkInt n >>= _) _ _ ⟨g1,g,d,tk,os⟩;refine b6c (wpAny_mkInt ?_);show wpAny _ _ (setField (.ref ee) 3 (rawInt ((n:Int)+1)) >>= _) _ _ ⟨g1,g,d,tk+1,os⟩;refine b6c (b7n e1 (by simp) λg2 e2 b2=>?_)
 replace b2:Heap.SameBut ee g1 g2:=b2
 replace e2:IsEnum g2 ee it ((n:Int)+1) old:=e2
 show wpAny _ _ (setField (.ref ee) 4 .none >>= _) _ _ ⟨g2,g,d,tk+1,os⟩;refine b6c (b7n e2 (by simp) λg3 e3 b3=>?_)
 replace b3:Heap.SameBut ee g2 g3:=b3
 replace e3:IsEnum g3 ee it ((n:Int)+1) old:=e3
 show wpAny _ _ (newTuple [.int n tk,x] >>= _) _ _ ⟨g3,g,d,tk+1,os⟩;refine b6c (wpAny_newTuple ?_);have e4:IsEnum (g3.push {cls:=.type "tuple",data:=.seq #[.int n tk,x]}) ee it ((n:Int)+1) old:=b6e _ e3;generalize q4:g3.push {cls:=.type "tuple",data:=.seq #[.int n tk,x]}=g4 at e4;have sz:g3.objs.size=hp.objs.size:=by rw[b3.1,b2.1,b1.1]
 have lt:ee<hp.objs.size:=b6t he;have t4:g4.get? hp.objs.size=some {cls:=.type "tuple",data:=.seq #[.int n tk,x]}:=by rw[<-q4,<-sz];exact b6m _ rfl
 have k4:∀b o,b≠ee->b≠it->hp.get? b=some o->g4.get? b=some o:=λb o c1 c2 hb=>by
  rw[<-q4];exact b6e _ (b3.extBut b o c1 (b2.extBut b o c1 (b1.extBut b o c2 hb)))
 have i4:SIt k g4 it l (n+1):=i1.at λo e=>by
  rw[<-q4];exact b6e _ (b3.extBut _ _ (Ne.symm hne) (b2.extBut _ _ (Ne.symm hne) e))
 show wpAny _ _ (Builtin.SmallTypes.ownedTupleIsFree (.ref ee) >>= _) _ _ ⟨g4,g,d,tk+1,os⟩;rw[sz];clear q4 e3 b3 e2 b2 e1 b1 i1 sz g3 g2 g1;refine b6c ?_;unfold Builtin.SmallTypes.ownedTupleIsFree;refine b6c (b7a e4 rfl (x:=.none) rfl (b6j ?_));simp only[if_true];refine b6c (b8X (b6c (b7a e4 rfl (x:=old) rfl (b6c (b7n e4 (by simp) λg5 e5 b5=>?_)))))
 replace b5:Heap.SameBut ee g4 g5:=b5
 replace e5:IsEnum g5 ee it ((n:Int)+1) x:=e5
 show wpAny _ _ (Builtin.SmallTypes.ownedTupleHandOut (.ref ee) (.ref hp.objs.size) >>= _) _ _ ⟨g5,g,d,tk+1,os⟩;refine b6c ?_;unfold Builtin.SmallTypes.ownedTupleHandOut;refine b6c (b7n e5 (by simp) λg6 e6 b6=>?_)
 replace b6:Heap.SameBut ee g5 g6:=b6
 replace e6:IsEnumOut g6 ee it ((n:Int)+1) x hp.objs.size:=e6
 refine b7n e6 (by simp) λg7 e7 b7=>?_
 replace b7:Heap.SameBut ee g6 g7:=b7
 replace e7:IsEnumOut g7 ee it ((n:Int)+1) x hp.objs.size:=e7
 have up:∀b o,b≠ee->g4.get? b=some o->g7.get? b=some o:=λb o c1 e=>b7.extBut b o c1 (b6.extBut b o c1 (b5.extBut b o c1 e));exact b6c (b9g (b6j ⟨_,rfl,hQ g7 e7 (i4.at λo e=>up _ o (Ne.symm hne) e) (up _ _ (b7Y lt) t4) λb o c1 c2 e=>up b o c1 (k4 b o c1 c2 e)⟩))
theorem a8e(he:IsEnum s.heap ee it n old)(hi:SIt k s.heap it l n)(hl:SAt k s.heap l xs)(hx:xs[n]?=some x)(hne:ee≠it)
  (hQ:∀h',IsEnumOut h' ee it ((n:Int)+1) x s.heap.objs.size->SIt k h' it l (n+1)->h'.get? s.heap.objs.size=some {cls:=.type "tuple",data:=.seq #[.int n s.toks,x]} ->
   (∀b o,b≠ee->b≠it->s.heap.get? b=some o->h'.get? b=some o)->Q (some (.ref s.heap.objs.size)) {s with heap:=h',toks:=s.toks+1}):wpAny (model prog w) A (pyNext (.ref ee)) Q E s:=by
 have hT:s.TypeIs (.ref ee) "enumerate":=⟨_,he,rfl⟩
 unfold pyNext;exact b6c (b9r (b6X (name:=Str.ofString "__next__") hT b8S (b7s b8S hT F.entry_enumerate_next
  (a8d he hi hl hx hne λh' a b c d=>b6j (hQ h' a b c d)) (F.args_enumerate_next_1 _))))
theorem a8f(hh:A.handled=none)(he:IsEnum s.heap ee it n old)(hi:SIt k s.heap it l n)(hl:SAt k s.heap l xs)(hx:xs[n]?=none)
  (hQ:∀h',Heap.ExtBut it s.heap h'->Q none {s with heap:=h' }):wpAny (model prog w) A (pyNext (.ref ee)) Q E s:=by
 have hT:s.TypeIs (.ref ee) "enumerate":=⟨_,he,rfl⟩
 unfold pyNext;refine b6c (b9r (b6X (name:=Str.ofString "__next__") hT b8S (b7s b8S hT F.entry_enumerate_next ?_ (F.args_enumerate_next_1 _))));show wpAny _ _ (field (.ref ee) 2 >>= _) _ _ _;refine b6c (b7a he rfl (x:=.ref it) rfl (b6c (endS hh hi hl hx λh' e b he'=>?_)));obtain⟨o,ho,hc⟩:=he';exact b6c (c0F (T:="StopIteration") (b:=true) ⟨o,ho,hc⟩ isSubtype_stop (b6j (hQ _ b)))
set_option tactic.hygienic true in
theorem meetsE(l:Addr)(xs:Array Value)(n:Nat)(dct:Option Addr)(sl:Array (Option Value)) :
  Meets (Builtin.«enumerate.__new__» ⟨[.type "enumerate",.ref l],[]⟩) (λ_ R s=>s.heap.get? l=some {cls:=.type "tuple",dict:=dct,data:=.seq xs n,slots:=sl} /\
   R (.ok (.ret (.ref (s.heap.push (itO true l)).objs.size))) {s with heap:=(s.heap.push (itO true l)).push {cls:=.type "enumerate",data:=.fields #[.none,.bool false,.ref s.heap.objs.size,rawInt 0,.none,.none]}}):=
 .of_wp λprog w A R s h=>by
  obtain⟨hp,g,d,tk,os⟩:=s;obtain⟨hl,h⟩:=h;have hsub:=sub_enumerate;have hL:Heap.IsTuple (Shared.heap ⟨hp,g,d,tk,os⟩) l xs:=⟨_,hl,rfl,n,rfl⟩
  wp_walk using b8d hl
  refine wpAny_stack_any λst=>b6j ?_;split
  ·rename_i c _ _ _ _ _;cases (c==Value.type "enumerate")<;>(wp_walk using b8d hl,b8t hL)<;>exact⟨_,rfl,h⟩
  ·wp_walk using b8d hl,b8t hL
   exact⟨_,rfl,h⟩
structure EAt(k:Bool)(ee it l:Addr)(n:Nat)(h:Heap):Prop where
 en:∃old,IsEnum h ee it n old
 a1:SIt k h it l n
theorem callE(h1:SAt k s.heap l xs)(h:∀h',EAt k (s.heap.objs.size+1) s.heap.objs.size l 0 h'->(∀c o,s.heap.get? c=some o->h'.get? c=some o)->Q (.ref (s.heap.objs.size+1)) {s with heap:=h' }) :
  wpAny (model prog w) A (call (.type "enumerate") [.ref l]) Q E s:=by
 cases k with
 |false=>exact call_enumerate_list h1 λh' he hi _ kp=>h h' ⟨⟨_,he⟩,hi⟩ kp
 |true=>
  obtain⟨⟨c,dct,dt,sl⟩,hl,hc,n,hd⟩:=h1
  replace hc:c=.type "tuple":=hc
  replace hd:dt=.seq xs n:=hd
  subst hc hd;refine callType_new F.called_enumerate (by decide) (F.typeCall_enumerate_1 _) (F.newCall_enumerate_1 _) (λobj=>F.args_object_init_2 obj _) F.entry_enumerate_new (meetsE l xs n dct sl) ⟨hl,?_⟩;have z1:(s.heap.push (itO true l)).objs.size=s.heap.objs.size+1:=b7f ..;show _/\_;rw[z1];have g1:IsEnum ((s.heap.push (itO true l)).push {cls:=.type "enumerate",data:=.fields #[.none,.bool false,.ref s.heap.objs.size,rawInt 0,.none,.none]}) (s.heap.objs.size+1) s.heap.objs.size 0 .none:=by
   have q:=b6m (s.heap.push (itO true l)) (o:={cls:=.type "enumerate",data:=.fields #[.none,.bool false,.ref s.heap.objs.size,rawInt 0,.none,.none]}) rfl;rw[z1] at q;exact q
  exact⟨⟨_,g1,rfl⟩,h _ ⟨⟨_,g1⟩,.new (b6e _ (b6m _ a4Y))⟩ λc o e=>b6e _ (b6e _ e)⟩
end
def Ite(K:PySem.W.Frag)(k:Bool)(a:Addr):It:=
 ⟨λi H=>∃xs x,SqK K k H a xs/\xs[i]?=some x,
  λi H v H'=>∃p x,v=.ref p/\H p=none/\(∀xs,SqK K k H a xs->xs[i]?=some x)/\H'=upd H p (.tup [.int i,x]),
  λi H=>∃xs,SqK K k H a xs/\xs.length<=i⟩
theorem EAt.obj{k:Bool}(Z:EAt k ee it l n h):∀b∈[ee,it],∃o,h.get? b=some o/\∀v,o.data≠.cell v:=λb hb=>by
 obtain⟨⟨old,he⟩,h1⟩:=Z;simp only[b6D,b7x,b9F] at hb;rcases hb with rfl|rfl
 ·exact⟨_,he,λv z=>by cases z⟩
 ·exact h1.obj
theorem a9w{P:Program}{w:World}{K:PySem.W.Frag}{elts:List Expr}{x1}{pos:Pos}{k:Bool}{ee it a:Addr}(hne:ee≠it):b2G P w K (.Tuple elts x1 pos) (Ite K k a) [ee,it] ee (λn h=>EAt k ee it a n h) where
 mem:=by simp
 obj:=λi h st=>st.obj
 keep:=λi h h' ⟨⟨old,he⟩,h1⟩ kp=>⟨⟨old,kp ee (by simp) _ he⟩,h1.at λo e=>kp it (by simp) o e⟩
 item:=by
  intro X hP hw hK hc i pins s σ H E I hf st hg;subst hP hw hK;obtain⟨xs,x,q1,hx⟩:=hg;obtain⟨us,r1,p1⟩:=b1p I q1;obtain⟨u,hu,ru⟩:=r1.get hx;have lt:∀b∈[ee,it],b<s.heap.objs.size:=λb hb=>by
   obtain⟨o,ho,_⟩:=st.obj b hb;exact b6t ho
  obtain⟨⟨old,he⟩,h1⟩:=st;refine a8e he h1 p1 (x:=u) (by simpa using hu) hne λh' z1 a1 pr kk=>?_;refine⟨_,rfl,wpAny_letOwnedTupleGo_enum (s:={s with heap:=h',toks:=s.toks+1}) z1 λh2 z2 b2=>?_⟩
  replace b2:Heap.SameBut ee h' h2:=b2
  have hT:H s.heap.objs.size=none:=I.hok.fresh (b6k _);have I1:Inv X pins σ (upd H s.heap.objs.size (.tup [.int i,x])) {s with heap:=s.heap.push {cls:=.type "tuple",data:=.seq #[.int i s.toks,u]},toks:=s.toks+1}:=I.laid (t':=s.toks+1) (λb u e=>b6e _ e) (b6k _) ⟨by show 2<=sizeLine;decide,[.int i s.toks,u],.cons ⟨_,rfl⟩ (.cons ru .nil),⟨_,b6m _ rfl,_,rfl⟩⟩;have Tz:s.heap.objs.size≠ee:=b7Y (lt ee (by simp));have fp:∀b∈[ee,it],b0P X pins (upd H s.heap.objs.size (.tup [.int i,x])) b:=λb hb=>by
   obtain⟨f0,f1,f2,f3,f4,f5⟩:=hf b hb;exact⟨by rw[a0i (b6L (lt b hb))];exact f0,f1,f2,f3,f4,f5⟩
  have I2:=I1.turnedL (h':=h2) (t':=s.toks+1) (λc o hc e=>by
   simp only[b6D,b7x,b9F,not_or] at hc;by_cases zc:c=s.heap.objs.size
   ·subst zc;rw[b6m _ rfl] at e;cases e;exact b2.extBut _ _ Tz pr
   ·have e':s.heap.get? c=some o:=by rw[<-e];exact(Heap.get?_push_ne _ _ _ zc).symm
    exact b2.extBut _ _ hc.1 (kk c o hc.1 hc.2 e')) fp
  refine⟨.ref s.heap.objs.size,_,I2,rfl,⟨_,x,rfl,hT,λzs hz=>?_,rfl⟩,⟨⟨_,z2⟩,a1.at λo e=>b2.extBut _ _ (Ne.symm hne) e⟩,λb hb=>(fp b hb).1⟩;rw[a4X I hz q1];exact hx
 done:=by
  intro X hP hw hK hc i pins s σ H E I hf st hg;subst hP hw hK;obtain⟨xs,q1,hl⟩:=hg;obtain⟨us,r1,p1⟩:=b1p I q1;have e1:=r1.length;obtain⟨⟨old,he⟩,h1⟩:=st;refine a8f (I.ok.hd hc) he h1 p1 (by simp;lia) λh' kk=>⟨rfl,I.turnedL (t':=s.toks) (λc o hc e=>?_) hf⟩
  simp only[b6D,b7x,b9F,not_or] at hc;exact kk c o hc.2 e
 self:=λ_ _ _ _ _ ⟨⟨_,he⟩,_⟩ h=>wpAny_pyIter_enum he h
theorem b_enum:bootBuiltins "enumerate"=some (.type "enumerate"):=by decide +kernel
def iEnum(K:PySem.W.Frag)(k:Bool)(ta:TA):TI:=λσ H R=>ta σ H λvs H1=>∃a xs,vs=[.ref a]/\SqK K k H1 a xs/\R (Ite K k a) H1
theorem a9x{x1}{p pos:Pos}(k:Bool)(hg:Gl X "enumerate")(hm:X.mg "enumerate"=none)(ha:PA X [a] ta)(hs:starEach [a] X.env=[(false,eval a X.env)]:=by rfl) :
  PI X (.Tuple elts x1 tp) (.Call (.Name "enumerate" p) [a] [] pos) (iEnum X.K k ta):=by
 intro pins s σ H R I h;refine Call_ (a2K I hg hm b_enum (b7j (thn (ha pos pins s σ H _ I h) λus s1 ⟨vs,H1,I1,r1,q1⟩=>?_) (by rw[hs];rfl) rfl));obtain⟨a',xs,e,q1,q⟩:=q1;subst e;obtain⟨u,rfl,ru⟩:=r1.one;cases ru;obtain⟨us,e1,p1⟩:=b1p I1 q1;refine callE p1 λh' Z kp=>?_;obtain⟨old,he⟩:=Z.en;refine wpAny_pyIter_enum (s:={s1 with heap:=h' }) he ?_;refine⟨_,[s1.heap.objs.size+1,s1.heap.objs.size],_,_,H1,rfl,I1.kept (t':=s1.toks) kp,a9w (Nat.succ_ne_self _),Z,λc hc=>?_,q⟩;have ge:s1.heap.objs.size<=c:=by
  simp only[b6D,b7x,b9F] at hc;rcases hc with rfl|rfl<;>simp
 exact I1.fpOk ge (I1.hok.fresh ge)
theorem a7m{K:PySem.W.Frag}{k:Bool}{a:Addr}{xs:List V}{g:TG}{tb:TS}{D:a8v}{σ:St}{H:Hp}(Pv:Nat->St->Hp->Prop)(h0:Pv 0 σ H)(hl:∀i σ H,i<=xs.length->Pv i σ H->SqK K k H a xs)
  (hs:∀i x p σ H,xs[i]?=some x->Pv i σ H->H p=none->g (.ref p) σ (upd H p (.tup [.int i,x])) λσ2 H2=>tb {D with nx:=Pv (i+1),ct:=Pv (i+1),bk:=D.nx} σ2 H2)(hd:∀σ H,Pv xs.length σ H->D.nx σ H) :
  ∃W:Nat->Nat->St->Hp->Prop,(∃m,W 0 m σ H)/\∀i m σ H,W i m σ H ->
   ((Ite K k a).stop i H/\D.nx σ H)\/((Ite K k a).go i H/\∃N:St->Hp->Prop,(∀σ' H',N σ' H'->∃m',m'<m/\W (i+1) m' σ' H')/\∀x H',(Ite K k a).yld i H x H'->g x σ H' λσ2 H2=>tb {D with nx:=N,ct:=N,bk:=D.nx} σ2 H2):=by
 refine⟨λi m σ H=>m=xs.length-i/\i<=xs.length/\Pv i σ H,⟨xs.length,by simp,b6O _,h0⟩,?_⟩;rintro i m σ H ⟨rfl,hi,p⟩;have q1:=hl i σ H hi p;by_cases hlt:i<xs.length
 ·refine .inr ⟨⟨xs,_,q1,b6f hlt⟩,Pv (i+1),λσ' H' n=>⟨xs.length-(i+1),by grind,rfl,by assumption,n⟩,?_⟩;rintro v H' ⟨p',x,rfl,hn,e1,rfl⟩;exact hs i x p' σ H (e1 _ q1) p hn
 ·have e:i=xs.length:=by lia
  subst e;exact .inl ⟨⟨xs,q1,b6k _⟩,hd σ H p⟩
abbrev B30:Int:=1000000000000000000000000000000
def b4z(i j:Int):Prop:=(0<=i/\i<=10000000000*B30)/\(0<=j/\j<=10000000000*B30)
theorem b4z.ok(h:b4z i j):IntMulOk i j:=by
 have q:∀k:Int,0<=k/\k<=10000000000*B30->PySem.Builtin.Int.intBits k<=140:=λk hk=>intBits_le_iff.mpr (by
  have e:(2:Nat) ^ 140=1393796574908163946345982392040522594123776:=by decide
  rw[e];unfold B30 at hk
  lia)
 exact IntMulOk.of_le (q i h.1) (q j h.2) (by decide)
theorem b4A:OpR X (binaryOp .Mult) (rI b4z λi j=>.int (i*j)):=opI λ_ _ _ _ _ _ _ hc q=>PyProof.Rows.mul_int q hc.ok
end L2
namespace L2
open PySem
def a5P(u v:List Int):Prop:=¬u<+:v/\¬v<+:u
theorem a5P.symm{u v:List Int}(h:a5P u v):a5P v u:=⟨h.2,h.1⟩
abbrev PF(ws:List (List Int)):Prop:=ws.Pairwise a5P
theorem a7n{α:Type}{ws:List α}{t:Nat}{u:α}(h:ws[t]?=some u):ws=ws.take t++u::ws.drop (t+1):=by
 have ht:=(b6d.mp h).1;have e:=(b6d.mp h).2;rw[<-e];simp
variable {b:Int}{lo:Bool}{n:Nat}{ws:List (List Int)}
theorem PF.ne{ws:List (List Int)}(h:PF ws){i j:Nat}{u v:List Int}(hi:ws[i]?=some u)(hj:ws[j]?=some v)(ne:i≠j):a5P u v:=by
 have w:=List.pairwise_iff_getElem.mp h;obtain⟨i1,rfl⟩:=b6d.mp hi;obtain⟨j1,rfl⟩:=b6d.mp hj;rcases Nat.lt_or_gt_of_ne ne with z|z
 ·exact w i j i1 j1 z
 ·exact(w j i j1 i1 z).symm
end L2
namespace L2
open PySem PySem.Spec PyProof.Rows
theorem meetsX(l:Addr)(xs:Array Value)(n:Nat)(c:Addr)(ys:Array Value)(m:Nat)(dct:Option Addr)(sl:Array (Option Value))(h0:¬(!xs.isEmpty&&Builtin.List.listTooLong (xs.size+ys.size))=true)(h1:xs.size<=sizeLine)(h2:xs.size+ys.size<=sizeLine+1) :
  Meets (Builtin.«list.extend» ⟨[.ref l,.ref c],[]⟩) (λ_ R s=>s.heap.get? l=some {cls:=.type "list",dict:=none,data:=.seq xs n,slots:=#[]}/\s.heap.get? c=some {cls:=.type "tuple",dict:=dct,data:=.seq ys m,slots:=sl} /\
   R (.ok (.ret Value.none)) {s with heap:=s.heap.update l (Obj.mapSeq λx=>x++ys),toks:=s.toks}):=
 .of_wp λprog w A R s h=>by
  obtain⟨hp,g,d,tk,os⟩:=s;obtain⟨hl,hc,h⟩:=h;have q1:=AutoSeq1.idx_int;have q2:=AutoSeq1.sub_tuple_tuple;have q3:=AutoSeq1.sub_list_list;have q4:=AutoSeq1.sub_tuple_list;have q5:=AutoSeq1.sub_list_tuple;have hz:(xs++ys).size<=sizeLine+1:=by rw[Array.size_append];exact h2
  wp_walk using(b9Z hl rfl (hz:=h1) (_hz':=hz)),b8d hl,b8d hc
  exact⟨_,rfl,h⟩
def b1G(K:PySem.W.Frag):V->List V->Hp->VK->Prop:=λx vs H Q=>∃l b xs zs,x=.ref l/\vs=[.ref b]/\H l=some (.lst xs)/\SqT K H b zs/\xs.length+zs.length<=sizeLine/\Q .non (upd H l (.lst (xs++zs)))
theorem a8g(K:PySem.W.Frag)(hK:X.K=K:=by rfl):MtM X "list.extend" (b1G K):=by
 subst hK;intro pins s σ H x vs v us Q I rx rv h;obtain⟨l,b,xs,zs,rfl,rfl,hH,hB,hz,q⟩:=h;cases rx;obtain⟨u,rfl,ru⟩:=rv.one;cases ru;obtain⟨z,its,n,r,hl,e⟩:=I.lstM hH;obtain⟨its2,r2,p2,z2⟩:=I.tuple hB;obtain⟨⟨c,dct,dt,sl⟩,e2,hc,n2,hd⟩:=p2
 replace hc:c=.type "tuple":=hc
 replace hd:dt=.seq its2.toArray n2:=hd
 subst hc hd;have l2:=r2.length;have sz:its.toArray.size+its2.toArray.size<=sizeLine:=by rw[b6n,b6n];lia
 have lg:¬(!its.toArray.isEmpty&&Builtin.List.listTooLong (its.toArray.size+its2.toArray.size))=true:=by
  rw[a4R sz,b9E];exact b6u
 refine b8q F.slot_list_extend ⟨_,e,rfl⟩ F.entry_list_extend (F.args_list_extend_2 _ _) (meetsX l its.toArray n b its2.toArray n2 dct sl lg (by rw[b6n];grind) (by lia)) ⟨e,e2,?_⟩;refine⟨.non,_,I.lset (its':=its++its2) hH e (by simp) (r.append r2) ?_,rfl,q⟩;rw[b6o];assumption
theorem b4B{K:PySem.W.Frag}{b:Bool}{a:Addr}{xs:List V}{g:TG}{tb:TS}{D:a8v}{σ:St}{H:Hp}(Pv:Nat->St->Hp->Prop)(h0:Pv 0 σ H)(hl:∀i σ H,i<=xs.length->Pv i σ H->SqB b K H a xs)
  (hs:∀i x σ H,xs[i]?=some x->Pv i σ H->g x σ H λσ2 H2=>tb {D with nx:=Pv (i+1),ct:=Pv (i+1),bk:=D.nx} σ2 H2)(hd:∀σ H,Pv xs.length σ H->D.nx σ H) :
  ∃W:Nat->Nat->St->Hp->Prop,(∃m,W 0 m σ H)/\∀i m σ H,W i m σ H ->
   ((Itb b K a).stop i H/\D.nx σ H)\/((Itb b K a).go i H/\∃N:St->Hp->Prop,(∀σ' H',N σ' H'->∃m',m'<m/\W (i+1) m' σ' H')/\∀x H',(Itb b K a).yld i H x H'->g x σ H' λσ2 H2=>tb {D with nx:=N,ct:=N,bk:=D.nx} σ2 H2):=by
 cases b with
 |true=>exact a4I Pv h0 hl hs hd
 |false=>exact a4J Pv h0 hl hs hd
end L2
namespace K95R
open PySem L2
def top(i:Nat):Stmt:=PySem.Challenge.pw_lettertoll_k95_whole_desks_write_and_rea.main.body.getD i (.Pass ⟨0,0,0,0⟩)
abbrev a6H:Stmt:=top 49
def a6I(word:List Int)(n:Nat)(wy:List (List Int×List Int)):List (List Int×List Int):=(List.range n).foldl (λwy i=>a3P (word.take i) (word.getD i 0) wy) wy
theorem a1w(word:List Int)(n:Nat)(wy:List (List Int×List Int)):a6I word (n+1) wy=a3P (word.take n) (word.getD n 0) (a6I word n wy):=by
 unfold a6I;rw[b7t,List.foldl_append];rfl
def a1I(ws:List (List Int))(n:Nat):List (List Int×List Int):=(ws.take n).foldl (λwy word=>a6I word word.length wy) []
theorem a1D(h:ws[n]?=some word):a1I ws (n+1)=a6I word word.length (a1I ws n):=by
 unfold a1I;rw[b6s,h,List.foldl_append];rfl
def a2Q(ws:List (List Int)):List (List Int×List Int):=a1I ws ws.length
theorem a7o(k:List Int)(l:Int):∀wy,(a3P k l wy).length<=wy.length+1
 |[]=>b6k _
 |(k',ls)::r=>by
  unfold a3P;split
  ·simp
  ·have:=a7o k l r;simp only[b6F]
   lia
def Few(n:Nat)(wy:List (List Int×List Int)):Prop:=∀q∈wy,q.2.length<=n
theorem a7p(k:List Int)(l:Int):∀{wy:List (List Int×List Int)},Few n wy->Few (n+1) (a3P k l wy)
 |[],_=>λq hq=>by
  rw[show a3P k l []=[(k,[l])] from rfl] at hq;rw[b6r.mp hq];exact Nat.le_add_left 1 n
 |(k',ls)::r,h=>λq hq=>by
  unfold a3P at hq;have hr:Few n r:=λq hq=>h q (.tail _ hq);split at hq
  ·rcases b6D.mp hq with z|z
   ·rw[z];have hz:ls.length<=n:=h (k',ls) (.head _);show(b4y l ls).length<=n+1;unfold b4y;split
    ·lia
    ·rw[b6o];show ls.length+1<=n+1;lia
   ·have:=hr q z;lia
  ·rcases b6D.mp hq with z|z
   ·rw[z];have:=h _ (.head _);lia
   ·exact a7p k l hr q z
theorem a6q.same(h:a6q H kvs wy)(sm:a0r H H'):a6q H' kvs wy:=Paired.mapP h λ_ _ ⟨e1,dx,e2,e3⟩=>⟨e1,dx,e2,sm _ _ e3⟩
def WAt(H H':Hp)(d:Addr)(wy:List (List Int×List Int)):Prop:=H d=none/\a0r H H'/\∃kvs,H' d=some (.dT kvs)/\a6q H' kvs wy/\(kvs.map (·.2)).Nodup/\∀dx,V.ref dx∈kvs.map (·.2)->H dx=none/\dx≠d/\∃o,H' dx=some o
variable {P:Program}{w:World}{K:PySem.W.Frag}{mg:Str->Option Value}{base:Heap}{f:Addr}{fd:FuncData}
def a4w:Sp:=λvs H Q _=>∃c xs ws,vs=[.ref c]/\H c=some (.tup xs)/\Ws H xs ws/\ws.length<=100/\(∀x∈ws,x.length<=100)/\∀d H',WAt H H' d (a2Q ws)->Q (.ref d) H'
abbrev NY:List Str:=["code","ways","word","size","letters"]
theorem a2m:a0k NY ["code"] (a0g a6H):=fsk
theorem hu1{A:Around}{k:Nat}(hr:a2I k A):A.units+1<cLine:=by have:=hu4 hr;lia
theorem a6J(F:Fun K "ways_on" "ways_on" a6H f fd)(ml:mg "len"=none)(mr:mg "range"=none):a0I P w K mg base CX0 1 f fd ["code"] a4w:=by
 refine F.ok (k:=0) a2m (λvs H Q E h=>?_) (λcdv A outer s H vs Q E hr h=>?_)
 ·obtain⟨c,xs,ws,rfl,_⟩:=h;rfl
 obtain⟨c,xs,ws,rfl,hc,hw,l1,l2,q⟩:=h;refine⟨_,a0c (psA (i:=1) a2m a7i)
  (a0c (a1d b6K rfl (a6W (pv 0)) (pgA (i:=2) a2m)
   (a0f (a1d b6K rfl (a1u (by rfl) mr (a0a (pln ml (pv 2)) a0d)) (pgA (i:=3) a2m)
    (a0c (psA (i:=4) a2m (b1y (hu1 hr) (pv 1) (a0X a4V (pv 2) a1m (a1n (pv 3))) b1x ⟨rfl,rfl,rfl,rfl⟩))
    (a0f (a6F (hu1 hr) (pv 4) (pxA (ixT K) (pv 2) (pv 3)) a6t rfl))))))
  (a0f (a0o (pv 1)))),?_⟩
 have lx:xs.length=ws.length:=hw.length;refine λd hd=>?_;refine⟨_,rfl,c,rfl,⟨_,SqT.of (a0e hd _ _ _ hc)⟩,?_⟩;refine a4J (xs:=xs) (λi σ H'=>((a1I ws i).length<=i*100/\Few (i*100) (a1I ws i))/\WAt H H' d (a1I ws i)/\∃x2 x3 x4:Option V,σ=[some (.ref c),some (.ref d),x2,x3,x4]) ⟨⟨b6O _,λq hq=>nomatch hq⟩,⟨hd,a0e hd _,[],a0b,.nil,c0P,λdx h=>by simp at h⟩,none,none,none,rfl⟩ (λi σ H' _ hP=>SqT.of (hP.2.1.2.1 _ _ hc)) (λi x σ H1 hx hP=>?_) (λσ H1 hP=>?_)
 ·obtain⟨lw,wt,x2,x3,x4,rfl⟩:=hP;obtain⟨ns,hn,rx⟩:=Paired.right_of hw i x hx;have ln:=l2 ns (b6h hn);have iw:=(b6d.mp hn).1;obtain⟨a,rfl,ha⟩:=Wd.ti rx;refine⟨_,rfl,a,_,rfl,.inr (SqT.of (wt.2.1 _ _ ha)),_,rfl,by rw[b6b];simp,by rw[b6b];lia,?_⟩;rw[b6b];refine a0Z (λj σ H'=>((a6I ns j (a1I ws i)).length<=i*100+j/\Few (i*100+j) (a6I ns j (a1I ws i)))/\WAt H H' d (a6I ns j (a1I ws i))/\∃x3 x4:Option V,σ=[some (.ref c),some (.ref d),some (.ref a),x3,x4]) ⟨lw,wt,_,_,rfl⟩ (λj σ H2 hj hP=>?_) (λσ H2 hP=>?_)
  ·obtain⟨⟨lj,fw⟩,⟨_,sm,kvs,hdk,wy,nd,young⟩,x3,x4,rfl⟩:=hP;have hj':j<ns.length:=by assumption
   have e0:(0:Int)+(j:Int)=((j:Nat):Int):=by simp
   rw[e0];have lk:kvs.length=(a6I ns j (a1I ws i)).length:=b8s wy;refine⟨_,rfl,d,rfl,.inr ⟨kvs,.inl hdk⟩,_,rfl,_,rfl,_,rfl,a,_,rfl,sm _ _ ha,λp H3 s3 hp3=>?_⟩;rw[a7e,<-b8u] at hp3;refine λdn hdn=>?_;have s4:=a0e hdn (.dK []);have g4:=(sm.trans s3).trans s4;have kp:upd H3 dn (.dK []) p=some (.tup ((kI (ns.take j)).map kV)):=by
    rw[s4 _ _ hp3,b7v];rfl
   have ndn:H dn=none:=(sm.trans s3).free hdn;have hd4:upd H3 dn (.dK []) d=some (.dT kvs):=s4 _ _ (s3 _ _ hdk);have wy4:=a6q.same wy (s3.trans s4);have dnd:dn≠d:=λz=>by rw[z,s3 _ _ hdk] at hdn;cases hdn
   have dnv:V.ref dn∉kvs.map (·.2):=λz=>by
    obtain⟨_,_,o,ho⟩:=young dn z;rw[s3 _ _ ho] at hdn;cases hdn
   have hj2:ns[j]?=some ns[j]:=b6f hj';have gD:ns.getD j 0=ns[j]:=by rw[b6q,hj2];rfl
   have fa:=a7p (ns.take j) (ns.getD j 0) fw;have la:=a7o (ns.take j) (ns.getD j 0) (a6I ns j (a1I ws i));have hdn4:upd H3 dn (.dK []) dn=some (.dK []):=a0b;generalize upd H3 dn (.dK [])=H4 at s4 g4 kp hd4 wy4 hdn4 ⊢;refine⟨kvs,kI (ns.take j),p,hd4,rfl,kp,by rw[b8f];lia,λv hv=>?_,λhv=>?_⟩
   ·obtain⟨dx,ls,rfl,hm,⟨q1,hq1,rfl⟩,hdx,hw'⟩:=wy_old (l:=ns.getD j 0) wy4 nd hv;obtain⟨y1,y2,_⟩:=young dx hm;refine⟨_,rfl,_,rfl,_,rfl,a,_,_,_,rfl,rfl,SqT.of (g4 _ _ ha),L2.a4u hj2,dx,_,rfl,a9n.k (k:=Sum.inl ns[j]) hdx ?_,?_⟩
    ·have:=fw q1 hq1;unfold a8q;rw[b6b,b8f]
     lia
    ·rw[a9v,<-gD];refine⟨⟨by rw[a1w];lia,by rw[a1w];exact fa⟩,⟨hd,a0l y1 g4,kvs,by rw[a0i (Ne.symm y2)];exact hd4,by rw[a1w];exact hw',nd,λdy hy=>?_⟩,_,_,rfl⟩;obtain⟨z1,z2,o,ho⟩:=young dy hy;refine⟨z1,z2,?_⟩;by_cases zz:dy=dx
     ·rw[zz];exact⟨_,a0b⟩
     ·rw[a0i zz];exact⟨o,s4 _ _ (s3 _ _ ho)⟩
   ·rw[a7h _ hv];have hdn5:upd H4 d (.dT (kvs++[(kI (ns.take j),.ref dn)])) dn=some (.dK []):=by rw[a0i dnd];exact hdn4
    have g5:=a0l (o:=.dT (kvs++[(kI (ns.take j),.ref dn)])) hd g4;have dv:V.ref d∉kvs.map (·.2):=λz=>(young d z).2.1 rfl;refine⟨_,rfl,_,rfl,_,rfl,a,_,_,_,rfl,rfl,SqT.of (g5 _ _ ha),L2.a4u hj2,dn,_,rfl,a9n.k (k:=Sum.inl ns[j]) hdn5 (by show 0<sizeLine;decide),?_⟩;have ep:a3k ([]:List (Key×V)) (Sum.inl ns[j]) (.bl true)=a8q [ns.getD j 0]:=by rw[gD];exact a9v ns[j] []
    rw[ep];refine⟨⟨by rw[a1w];omega,by rw[a1w];exact fa⟩,⟨hd,a0l ndn g5,kvs++[(kI (ns.take j),.ref dn)],by rw[a0i (Ne.symm dnd),a0b],?_,?_,λdy hy=>?_⟩,_,_,rfl⟩
    ·rw[a1w];exact wy_new (a6q.ups (a6q.ups wy4 dv) dnv) hv a0b
    ·rw[b6g,c0u];refine⟨nd,by simp,λx hx y hy z=>?_⟩;simp only[b6z,b8N,b6r] at hy;exact dnv (by rw[<-hy,<-z];exact hx)
    ·rw[b6g] at hy;rcases b6G.mp hy with m|m
     ·obtain⟨z1,z2,o,ho⟩:=young dy m;refine⟨z1,z2,o,?_⟩;rw[a0i (λz=>dnv (by rw[<-z];exact m)),a0i z2];exact s4 _ _ (s3 _ _ ho)
     ·simp only[b6z,b8N,b6r] at m;cases m;exact⟨ndn,dnd,_,a0b⟩
  ·obtain⟨⟨lj,fw⟩,wt,x3,x4,rfl⟩:=hP;rw[show((ns.length:Int)).toNat=ns.length from by simp] at lj fw wt;refine⟨⟨by rw[a1D hn];lia,λq hq=>?_⟩,by rw[a1D hn];exact wt,_,_,_,rfl⟩;rw[a1D hn] at hq;have:=fw q hq
   lia
 ·obtain⟨_,wt,x2,x3,x4,rfl⟩:=hP;rw[lx] at wt;exact⟨_,rfl,q d H1 wt⟩
abbrev a6K:Stmt:=top 46
theorem b4C(k:List Int)(l:Int):∀wy,a3P k l wy≠[]
 |[]=>by unfold a3P;simp
 |(k',ls)::r=>by unfold a3P;split<;>simp
theorem a2R(k:List Int)(l:Int):∀wy,((a3P k l wy).map (·.1)=wy.map (·.1)/\k∈wy.map (·.1))\/((a3P k l wy).map (·.1)=wy.map (·.1)++[k]/\k∉wy.map (·.1))
 |[]=>.inr ⟨rfl,by simp⟩
 |(k',ls)::r=>by
  unfold a3P;by_cases h:k'=k
  ·rw[if_pos h];exact .inl ⟨rfl,by rw[b6z];exact h▸.head _⟩
  ·rw[if_neg h];rcases a2R k l r with ⟨e,m⟩|⟨e,m⟩
   ·exact .inl ⟨by rw[b6z,b6z,e],by rw[b6z];exact .tail _ m⟩
   ·refine .inr ⟨by rw[b6z,b6z,e];rfl,?_⟩;rw[b6z,b6D,not_or];exact⟨λz=>h z.symm,m⟩
structure Wok(wy:List (List Int×List Int)):Prop where
 nd:(wy.map (·.1)).Nodup
 hd:∀q r,wy=q::r->q.1=[]
theorem Wok.add(h:Wok wy){k:List Int}(l:Int)(hk:wy=[]->k=[]):Wok (a3P k l wy):=by
 refine⟨?_,λq r e=>?_⟩
 ·rcases a2R k l wy with ⟨e,_⟩|⟨e,m⟩
  ·rw[e];exact h.nd
  ·rw[e,c0u];refine⟨h.nd,by simp,λx hx y hy z=>m ?_⟩;rw[b6r.mp hy] at z;rw[<-z];exact hx
 ·cases wy with
  |nil=>
   rw[show a3P k l []=[(k,[l])] from rfl] at e;cases e;exact hk rfl
  |cons q' r'=>
   have hq:=h.hd q' r' rfl;obtain⟨k',ls⟩:=q';unfold a3P at e;split at e
   ·cases e;exact hq
   ·cases e;exact hq
theorem a9y(word:List Int)(h:Wok wy):∀n,Wok (a6I word n wy)/\(a6I word n wy=[]->n=0)
 |0=>⟨h,λ_=>rfl⟩
 |n+1=>by
  obtain⟨a,b⟩:=a9y word h n;rw[a1w];exact⟨a.add _ λz=>by rw[b z];rfl,λz=>absurd z (b4C _ _ _)⟩
theorem a5Q(ws:List (List Int)):∀n,n<=ws.length->Wok (a1I ws n)
 |0,_=>⟨c0P,λ_ _ e=>by cases e⟩
 |n+1,h=>by
  rw[a1D (b6f (show n<ws.length by assumption))];exact(a9y _ (a5Q ws n (by exact b6y ‹_›)) _).1
theorem a5R(ws:List (List Int)):Wok (a2Q ws):=a5Q ws _ (b6k _)
theorem b4D(h:a6q H kvs wy):kvs.map (·.1)=wy.map λq=>kI q.1:=by
 induction h with
 |nil=>rfl
 |cons r _ ih=>rw[b6z,b6z,r.1,ih]
abbrev a6L:Stmt:=top 39
abbrev a9z:Stmt:=top 45
abbrev b1H:Stmt:=top 120
def a5S(K:PySem.W.Frag):Sp:=λvs H Q _=>∃(a:Addr)(ns:List Int)(k:Int),vs=[.ref a,.int k]/\SqL K H a (ns.map V.int)/\0<=k/\∀i,Q (.int i) H
def spBeg:Sp:=λvs H Q _=>∃x y ns ms,vs=[x,y]/\Wd H x ns/\Wd H y ms/\∀H',a0r H H'->Q (.bl (decide (ms.take ns.length=ns))) H'
theorem b1I:a0k ["one","other"] ["one","other"] (a0g a6L):=fsk
theorem a9A(F:Fun K "begins" "begins" a6L f fd)(ml:mg "len"=none):a0I P w K mg base CX0 1 f fd ["one","other"] spBeg:=by
 refine F.ok (k:=0) b1I (λvs H Q E h=>?_) (λcdv A outer s H vs Q E hr h=>?_)
 ·obtain⟨x,y,ns,ms,rfl,_⟩:=h;rfl
 obtain⟨x,y,ns,ms,rfl,hx,hy,q⟩:=h;obtain⟨a,rfl,ha⟩:=hx.ti;obtain⟨b,rfl,hb⟩:=hy.ti;refine⟨_,a0f (a0o (a0H (b4j (hu4 hr)) (a0X a4V (pv 1) a1m (a1n (a0C a2k rfl ml b7E (a0a (pv 0) a0d)))) (pv 0) (nomark _))),?_⟩;refine⟨_,rfl,_,rfl,a,_,rfl,.inr (SqT.of ha),_,rfl,b,_,rfl,hb,λp H' sm hp=>?_⟩;rw[b6b,a7e,<-b8u] at hp;exact⟨_,rfl,_,_,a3F hp,a3F (sm _ _ ha),q H' sm⟩
def cAt(ws:List (List Int))(i j:Nat):Prop:=∃u v,ws[i]?=some u/\ws[j]?=some v/\(v.take u.length=u\/u.take v.length=v)
def a9B(ws:List (List Int))(i j:Nat):Prop:=∀a b,a<b->(a<i\/(a=i/\b<j))->¬cAt ws a b
def isF(ws:List (List Int)):Option (List Int)->Prop
 |none=>∀a b,a<b->¬cAt ws a b
 |some r=>∃i j:Nat,i<j/\r=[(i:Int),(j:Int)]/\cAt ws i j/\a9B ws i j
theorem b4E(h:isF ws o)(h':isF ws o'):o=o':=by
 cases o with
 |none=>
  cases o' with
  |none=>rfl
  |some r=>
   obtain⟨i,j,hij,_,c,_⟩:=h';exact absurd c (h i j hij)
 |some r=>
  obtain⟨i,j,hij,rfl,c,fr⟩:=h;cases o' with
  |none=>exact absurd c (h' i j hij)
  |some r'=>
   obtain⟨i',j',hij',rfl,c',fr'⟩:=h';have h1:¬(i<i'\/(i=i'/\j<j')):=λz=>fr' i j hij z c;have h2:¬(i'<i\/(i'=i/\j'<j)):=λz=>fr i' j' hij' z c';have e1:i=i':=by lia
   have e2:j=j':=by lia
   subst e1 e2;rfl
theorem b3c(h:cAt ws i j):j<ws.length:=by
 obtain⟨u,v,_,e,_⟩:=h;exact(b6d.mp e).1
def a9C:Sp:=λvs H Q _=>∃c xs ws,vs=[.ref c]/\H c=some (.tup xs)/\Ws H xs ws/\ws.length<=1000/\∀r H' o,a0r H H'->ROpt (b4h H' a8W) r o->isF ws o->Q r H'
theorem a3Q:a0k ["code","one","other"] ["code"] (a0g a9z):=fsk
theorem a8h(F:Fun K "clash" "clash" a9z f fd)(G:Fns P w K mg base ["one","other"] "begins" spBeg 1)(ml:mg "len"=none)(mr:mg "range"=none):a0I P w K mg base CX0 2 f fd ["code"] a9C:=by
 refine F.ok (k:=1) a3Q (λvs H Q E h=>?_) (λcdv A outer s H vs Q E hr h=>?_)
 ·obtain⟨c,xs,ws,rfl,_⟩:=h;rfl
 obtain⟨c,xs,ws,rfl,hc,hw,hl,q⟩:=h;refine⟨_,a0c (a1d b6K rfl (a1u (by rfl) mr (a0a (pln ml (pv 0)) a0d)) (pgA (i:=1) a3Q)
   (a0f (a1d b6K rfl (a1U (by rfl) mr (a0a (a0q a0K (pv 1) a0h) (a0a (pln ml (pv 0)) a0d))) (pgA (i:=2) a3Q)
    (a0f (a0z (a4g (a1x (pcF G hr (a0a (pxA a0D (pv 0) (pv 1)) (a0a (pxA a0D (pv 0) (pv 2)) a0d))))
      (a2w (a1x (pcF G hr (a0a (pxA a0D (pv 0) (pv 2)) (a0a (pxA a0D (pv 0) (pv 1)) a0d)))))).pt
     (a0f (a0o (a1v (a0a (pv 1) (a0a (pv 2) a0d))))) a0n)))))
  (a0f (a0o a2J)),?_⟩
 have ll:xs.length=ws.length:=hw.length;refine⟨_,rfl,c,_,rfl,.inr (SqT.of hc),_,rfl,by simp,by lia,?_⟩;refine a0Z (λi σ H'=>a0r H H'/\a9B ws i 0/\∃x1 x2:Option V,σ=[some (.ref c),x1,x2]) ⟨a0r.refl _,λa b h1 h2=>by lia,_,_,rfl⟩ (λi σ H1 hi hP=>?_) (λσ H1 hP=>?_)
 ·obtain⟨sm,fr,x1,x2,rfl⟩:=hP;have hi':i<ws.length:=by lia
  have e0:(0:Int)+(i:Int)=((i:Nat):Int):=by simp
  rw[e0];refine⟨_,rfl,_,_,rfl,rfl,_,rfl,c,_,rfl,.inr (SqT.of (sm _ _ hc)),_,_,rfl,by lia,?_⟩;refine a0Z (λj σ H'=>a0r H H'/\a9B ws i (i+1+j)/\∃x2:Option V,σ=[some (.ref c),some (.int i),x2]) ⟨sm,λa b h1 h2=>fr a b h1 (by lia),_,rfl⟩ (λj σ H2 hj hP=>?_) (λσ H2 hP=>?_)
  ·obtain⟨sm2,fr2,x2,rfl⟩:=hP;have hj':i+1+j<ws.length:=by omega
   have e1:(i:Int)+1+(j:Int)=((i+1+j:Nat):Int):=by simp
   rw[e1];have u1:ws[i]?=some ws[i]:=b6f hi';have u2:ws[i+1+j]?=some ws[i+1+j]:=b6f hj';obtain⟨y1,hy1,r1⟩:=Paired.left_of hw _ _ u1;obtain⟨y2,hy2,r2⟩:=Paired.left_of hw _ _ u2;have yes:∀H3,a0r H H3->cAt ws i (i+1+j)->(∃v,([some (.ref c),some (.int i),some (.int ((i+1+j:Nat):Int))]:St)[1]?=some (some v)/\∃v',([some (.ref c),some (.int i),some (.int ((i+1+j:Nat):Int))]:St)[2]?=some (some v')/\([v,v']:List V).length<=sizeLine/\∀p,H3 p=none->Q (.ref p) (upd H3 p (.tup [v,v']))):=λH3 sm3 c3=>
    ⟨_,rfl,_,rfl,(by show 2<=sizeLine;decide),λp hp=>q _ _ (some [(i:Int),((i+1+j:Nat):Int)]) (sm3.trans (a0e hp _)) ⟨⟨p,_,rfl,a0b,.cons rfl (.cons rfl .nil)⟩,p,rfl⟩ ⟨i,i+1+j,by exact b9L _ _,rfl,c3,fr2⟩⟩
   refine⟨_,rfl,_,rfl,c,_,_,_,rfl,rfl,SqT.of (sm2 _ _ hc),a3I hy1,_,rfl,_,rfl,c,_,_,_,rfl,rfl,SqT.of (sm2 _ _ hc),a3I hy2,y1,y2,_,_,rfl,Wd.same sm2 r1,Wd.same sm2 r2,λH3 sm3=>?_⟩;refine⟨_,rfl,?_⟩;refine a2c (λc1=>?_) (λc1=>?_)
   ·exact a4S (yes H3 (sm2.trans sm3) ⟨_,_,u1,u2,.inl (b6B c1)⟩)
   ·refine⟨_,rfl,_,rfl,c,_,_,_,rfl,rfl,SqT.of (sm3 _ _ (sm2 _ _ hc)),a3I hy2,_,rfl,_,rfl,c,_,_,_,rfl,rfl,SqT.of (sm3 _ _ (sm2 _ _ hc)),a3I hy1,y2,y1,_,_,rfl,Wd.same (sm2.trans sm3) r2,Wd.same (sm2.trans sm3) r1,λH4 sm4=>?_⟩;refine⟨_,rfl,?_⟩;refine a2c (λc2=>?_) (λc2=>?_)
    ·exact yes H4 ((sm2.trans sm3).trans sm4) ⟨_,_,u1,u2,.inr (b6B c2)⟩
    ·refine⟨(sm2.trans sm3).trans sm4,λa b h1 h2=>?_,_,rfl⟩;by_cases hb:b<i+1+j\/a<i
     ·exact fr2 a b h1 (by grind)
     ·have ea:a=i:=by lia
      have eb:b=i+1+j:=by lia
      subst ea eb;rintro⟨u,v,g1,g2,g3⟩;rw[u1] at g1;rw[u2] at g2;cases g1;cases g2;rcases g3 with g3|g3
      ·exact c1 (b6i g3)
      ·exact c2 (b6i g3)
  ·obtain⟨sm2,fr2,x2,rfl⟩:=hP;refine⟨sm2,λa b h1 h2 c3=>?_,_,_,rfl⟩;have:=b3c c3;exact fr2 a b h1 (by grind) c3
 ·obtain⟨sm,fr,x1,x2,rfl⟩:=hP;refine q .non H1 none sm rfl λa b h1 c3=>?_;have:=b3c c3;exact fr a b h1 (by lia) c3
def spRC(NC:List (List Int)->Prop):Sp:=λvs H Q _=>∃c xs ws,vs=[.ref c]/\H c=some (.tup xs)/\Ws H xs ws/\ws.length<=100/\NC ws/\∀H',a0r H H'->Q .non H'
theorem a3p:PS X st (λ_ _ _=>False):=λ_ _ _ _ _ _ h=>h.elim
def noC(ws:List (List Int)):Prop:=isF ws none
theorem a7q:a0k ["code","pair"] ["code"] (a0g a6K):=fsk
theorem a9D(F:Fun K "refuse_clash" "refuse_clash" a6K f fd)(G:Fns P w K mg base ["code"] "clash" a9C 2):a0I P w K mg base CX0 3 f fd ["code"] (spRC noC):=by
 refine F.ok (k:=2) a7q (λvs H Q E h=>?_) (λcdv A outer s H vs Q E hr h=>?_)
 ·obtain⟨c,xs,ws,rfl,_⟩:=h;rfl
 obtain⟨c,xs,ws,rfl,hc,hw,l1,nc,q⟩:=h;refine⟨_,a0c (psA (i:=1) a7q (pcF G hr (a0a (pv 0) a0d)))
  (a0f (a0z (a4p (a8x (pv 1))) (a0f a3p) a0n)),?_⟩
 refine⟨_,rfl,c,xs,ws,rfl,hc,hw,by lia,λr H' o sm ro fo=>?_⟩;have e:o=none:=b4E fo nc;subst e;obtain rfl:r=.non:=ro;exact⟨_,rfl,_,rfl,iteNS rfl (q H' sm)⟩
theorem b3d(h:PF ws):isF ws none:=λa b hab z=>by
 obtain⟨u,v,h1,h2,h3⟩:=z;have ap:=PF.ne h h1 h2 (by lia);rcases h3 with e|e
 ·exact ap.1 (List.prefix_iff_eq_take.mpr e.symm)
 ·exact ap.2 (List.prefix_iff_eq_take.mpr e.symm)
def Kn(S:List (List Int))(ws:List (List Int)):Prop:=∀x∈ws,∀n,n<x.length->x.take n∈S
theorem a7r{S:List (List Int)}(h:∀k∈wy.map (·.1),k∈S):∀n,n<=word.length->(∀m,m<word.length->word.take m∈S)->∀k∈(a6I word n wy).map (·.1),k∈S
 |0,_,_=>h
 |n+1,hn,hw=>λk hk=>by
  rw[a1w] at hk;have ih:=a7r h n (by exact b6y ‹_›) hw;rcases a2R (word.take n) (word.getD n 0) (a6I word n wy) with ⟨e,_⟩|⟨e,_⟩
  ·rw[e] at hk;exact ih k hk
  ·rw[e] at hk;rcases b6G.mp hk with z|z
   ·exact ih k z
   ·rw[b6r.mp z];exact hw n (by assumption)
theorem a4x{S ws:List (List Int)}(h:Kn S ws):∀n,n<=ws.length->∀k∈(a1I ws n).map (·.1),k∈S
 |0,_=>λk hk=>by
  rw[show a1I ws 0=[] from rfl] at hk;cases hk
 |n+1,hn=>by
  rw[a1D (b6f (show n<ws.length by assumption))];exact a7r (a4x h n (by exact b6y ‹_›)) _ (b6k _) λm hm=>h _ (b7w _) m hm
theorem a5T{α:Type}[DecidableEq α]:∀{l S:List α},l.Nodup->(∀x∈l,x∈S)->l.length<=S.length
 |[],_,_,_=>b6O _
 |x::l,S,n,h=>by
  rw[b7C] at n;have m:x∈S:=h x (.head _);have q:=a5T (S:=S.erase x) n.2 λy hy=>by
   have ne:y≠x:=λz=>n.1 (by rw[<-z];exact hy);exact(List.mem_erase_of_ne ne).mpr (h y (.tail _ hy))
  have e:=List.length_erase_of_mem m;have p:0<S.length:=List.length_pos_of_mem m;simp only[b6F]
  lia
theorem b1J{S ws:List (List Int)}(h:Kn S ws):(a2Q ws).length<=S.length:=by
 have q:=a5T (a5R ws).nd (a4x h _ (b6k _));rw[b6b] at q;exact q
theorem Kn.mono{S S' ws:List (List Int)}(h:Kn S ws)(hs:∀x∈S,x∈S'):Kn S' ws:=λx hx n hn=>hs _ (h x hx n hn)
theorem Kn.app{S ws ws':List (List Int)}(h:Kn S ws)(h':Kn S ws'):Kn S (ws++ws'):=λx hx=>(b6G.mp hx).elim (h x) (h' x)
abbrev a5d:Stmt:=top 125
abbrev a3q:Stmt:=top 95
abbrev NTh:List Str:=["script","at","many","first","things","rest","k","cell"]
def a7s(K:PySem.W.Frag):Sp:=λvs H Q _=>∃(a:Addr)(ns:List Int)(i m:Int),vs=[.ref a,.int i,.int m]/\SqL K H a (ns.map V.int)/\ns.length<=63/\0<=i/\i<=50/\1<=m/\m<=100 /\
 ∀(l:Addr)(H':Hp)(ts:List Int),a0r H H'->H' l=some (.lst (ts.map V.int))->ts.length<=63->(∀t∈ts,0<=t/\t<m)->Q (.ref l) H'
theorem a2d:a0k NTh ["script","at","many"] (a0g a5d):=fsk
theorem a9E(F:Fun K "_law_things" "_law_things" a5d f fd)(GA:Fns P w K mg base ["script","k"] "_law_cell_at" (a5S K) 1)(mr:mg "range"=none):a0I P w K mg base CX0 2 f fd ["script","at","many"] (a7s K):=by
 refine F.ok (k:=1) a2d (λvs H Q E h=>?_) (λcdv A outer s H vs Q E hr h=>?_)
 ·obtain⟨a,ns,i,m,rfl,_⟩:=h;rfl
 obtain⟨a,ns,i,m,rfl,hS,h63,i0,i1,m0,m1,q⟩:=h;refine⟨_,a0c (psA (i:=3) a2d (pcF GA hr (a0a (pv 0) (a0a (pv 1) a0d))))
  (a0c (psA (i:=4) a2d (a1p a0d))
  (a0c (a0z (a0p a0U (a0q a0V (pv 3) a0h) a0h (nomark _))
   (a0c (psA (i:=5) a2d (a0q a0V (a0q a1F (pv 3) a0h) (a0q a5y a0h a0h)))
   (a0c (a1d b6K rfl (a1u (by rfl) mr (a0a (a0q a0V (pcF GA hr (a0a (pv 0) (a0a (a0q a0K (pv 1) a0h) a0d))) a0h) a0d)) (pgA (i:=6) a2d)
    (a0c (a0J (a1N b6E b6S b6T a1b (pv 4) (a0a (a0q a0V (pv 5) (pv 2)) a0d)))
    (a0f (psA (i:=5) a2d (a0q a1F (pv 5) (pv 2))))))
   (a0f (a0o (pv 4))))) a0n)
  (a0c (a1d b6K rfl (a4H (a0X a3d (pv 0) (a1n (a0q a0K (pv 1) a0h)) a1m)) (pgA (i:=7) a2d)
   (a0f (a0J (a1N b6E b6S b6T a1b (pv 4) (a0a (a0q a0V (pv 7) (pv 2)) a0d)))))
  (a0f (a0o (pv 4)))))),?_⟩
 refine⟨_,rfl,_,rfl,a,ns,i,rfl,hS,i0,λc=>?_⟩;refine⟨(by show 0<=sizeLine;decide),λl hl=>?_⟩;have s1:=a0e hl (.lst []);have hl1:upd H l (.lst []) l=some (.lst []):=a0b;generalize upd H l (.lst [])=H1 at s1 hl1 ⊢;refine⟨_,rfl,_,_,rfl,rfl,(by show(0:Int)<_;decide),rfl,_,rfl,?_⟩;have add:∀{ts:List Int}{z:Int},(∀t∈ts,0<=t/\t<m)->∀t∈ts++[z % m],0<=t/\t<m:=λ{ts z} h t ht=>by
  rcases b6G.mp ht with y|y
  ·exact h t y
  ·rw[b6r.mp y];exact⟨b8c _ (by lia),b7B _ (by assumption)⟩
 refine a2c (λ_=>?_) (λ_=>?_)
 ·refine⟨_,rfl,_,_,rfl,rfl,⟨by decide,by decide⟩,_,_,rfl,rfl,⟨by decide,by decide,by decide⟩,_,_,rfl,rfl,(by show(0:Int)<_;decide),?_⟩;refine⟨_,rfl,_,rfl,_,_,rfl,rfl,a,ns,i+1,rfl,s1.seq hS,by lia,λc2=>?_⟩;refine⟨_,_,rfl,rfl,(by show(0:Int)<_;decide),_,rfl,by lia,by lia,?_⟩;refine a0Z (λk σ H2=>a0r H H2/\∃(y:Int)(x6:Option V)(ts:List Int),σ=[some (.ref a),some (.int i),some (.int m),some (.int c),some (.ref l),some (.int y),x6,none]/\H2 l=some (.lst (ts.map V.int))/\ts.length=k/\∀t∈ts,0<=t/\t<m) ⟨s1,_,_,[],rfl,hl1,rfl,by simp⟩ (λk σ H2 hk hP=>?_) (λσ H2 hP=>?_)
  ·obtain⟨sm,y,x6,ts,rfl,hl2,lt,ht⟩:=hP;refine⟨_,rfl,.inl ⟨rfl,_,SqL.of hl2⟩,_,rfl,_,rfl,_,_,rfl,rfl,(by show(0:Int)<_;assumption),l,_,_,rfl,rfl,hl2,a0j (by rw[b6b];lia),?_⟩;exact⟨_,rfl,_,rfl,_,_,rfl,rfl,⟨by assumption,by lia⟩,a0l hl sm,_,_,ts++[y % m],rfl,by rw[a0b,b6g];rfl,by rw[b6o,lt];rfl,add ht⟩
  ·obtain⟨sm,y,x6,ts,rfl,hl2,lt,ht⟩:=hP;exact⟨_,rfl,q l H2 ts sm hl2 (by lia) ht⟩
 ·obtain⟨ms,em,lm⟩:=a9f ns (some (i+2)) none;refine⟨_,rfl,_,rfl,_,_,rfl,rfl,_,rfl,a,_,rfl,s1.seq hS,λp2 hp2=>?_⟩;have s2:=a0e hp2 (.lst (a4f (ns.map V.int) (some (i+2)) none));have hp3:upd H1 p2 (.lst (a4f (ns.map V.int) (some (i+2)) none)) p2=some (.lst (ms.map V.int)):=by rw[a0b,em]
  refine⟨p2,rfl,⟨_,SqL.of hp3⟩,?_⟩;have hl2:=s2 _ _ hl1;generalize upd H1 p2 (.lst (a4f (ns.map V.int) (some (i+2)) none))=H2 at s2 hp3 hl2 ⊢;have np:H p2=none:=s1.free hp2;have lp:l≠p2:=λz=>by rw[z,hp2] at hl1;cases hl1
  refine a4I (xs:=ms.map V.int) (λk σ H3=>a0r H H3/\H3 p2=some (.lst (ms.map V.int))/\∃(x7:Option V)(ts:List Int),σ=[some (.ref a),some (.int i),some (.int m),some (.int c),some (.ref l),none,none,x7]/\H3 l=some (.lst (ts.map V.int))/\ts.length=k/\∀t∈ts,0<=t/\t<m) ⟨s1.trans s2,hp3,_,[],rfl,hl2,rfl,by simp⟩ (λk σ H3 _ hP=>SqL.of hP.2.1) (λk x σ H3 hx hP=>?_) (λσ H3 hP=>?_)
  ·obtain⟨sm,hp4,x7,ts,rfl,hl3,lt,ht⟩:=hP;rw[b6p] at hx;cases hz:ms[k]? with
   |none=>rw[hz] at hx;cases hx
   |some z=>
   rw[hz] at hx;cases hx;have hk:=(b6d.mp hz).1;refine⟨_,rfl,.inl ⟨rfl,_,SqL.of hl3⟩,_,rfl,_,rfl,_,_,rfl,rfl,(by show(0:Int)<_;assumption),l,_,_,rfl,rfl,hl3,a0j (by rw[b6b];lia),?_⟩;exact⟨a0l hl sm,by rw[a0i (Ne.symm lp)];exact hp4,_,ts++[z % m],rfl,by rw[a0b,b6g];rfl,by rw[b6o,lt];rfl,add ht⟩
  ·obtain⟨sm,hp4,x7,ts,rfl,hl3,lt,ht⟩:=hP;rw[b6b] at lt;exact⟨_,rfl,q l H3 ts sm hl3 (by lia) ht⟩
def a0O(ws:List (List Int))(ts:List Int):List Int:=ts.flatMap λt=>ws.getD t.toNat []
def inT(n t:Int):Bool:=decide (0<=t)&&decide (t<n)
def allT(n:Int)(ts:List Int):Bool:=(ts.map (inT n)).all id
theorem a9F(h:allT n ts=true):∀t∈ts,0<=t/\t<n:=λt ht=>by
 have q:=b7i.mp h (inT n t) (c0a ht);unfold inT at q;simp only[id,b6Y,b7m] at q;exact q
theorem b1K:allT n ts=true↔∀t∈ts,0<=t/\t<n:=by
 refine⟨a9F,λh=>?_⟩;unfold allT;rw[b7i];intro b hb;obtain⟨x,hx,rfl⟩:=b6x.mp hb;obtain⟨h1,h2⟩:=h x hx;unfold inT;simp[h1,h2]
theorem a5U(h:∀u∈ws,u.length<=60):∀ts:List Int,(a0O ws ts).length<=60*ts.length
 |[]=>b6k _
 |t::ts=>by
  have ih:=a5U h ts;have e:a0O ws (t::ts)=ws.getD t.toNat []++a0O ws ts:=rfl;have b:(ws.getD t.toNat []).length<=60:=by
   rw[b6q];cases hz:ws[t.toNat]? with
   |none=>exact b6O _
   |some z=>exact h z (b6h hz)
  rw[e,b6o,b6F]
  lia
abbrev NWr:List Str:=["code","things","letters","thing"]
def a5V(K:PySem.W.Frag):Sp:=λvs H Q E=>∃(c r:Addr)(xs:List V)(ws:List (List Int))(b:Bool)(ts:List Int),vs=[.ref c,.ref r]/\H c=some (.tup xs)/\Ws H xs ws/\ws.length<=100/\(∀u∈ws,u.length<=60)/\SqB b K H r (ts.map V.int)/\ts.length<=110 /\
 isF ws none/\allT (ws.length:Int) ts=true/\(∀p H',a0r H H'->TW H' p (a0O ws ts)->Q (.ref p) H')
theorem a3R:a0k NWr ["code","things"] (a0g a3q):=fsk
abbrev MWr:List Str:=["code","things","letters","-"]
theorem ndWr:(("thing":Str)::MWr).Nodup:=by decide +kernel
theorem a8i(F:Fun K "written" "written" a3q f fd)(G:Fns P w K mg base ["code"] "refuse_clash" (spRC noC) 3)(ml:mg "len"=none)(ma:mg "all"=none)(mt:mg "tuple"=none) :
  a0I P w K mg base CX0 4 f fd ["code","things"] (a5V K):=by
 refine F.ok (k:=3) a3R (λvs H Q E h=>?_) (λcdv A outer s H vs Q E hr h=>?_)
 ·obtain⟨c,r,xs,ws,b,ts,rfl,_⟩:=h;rfl
 obtain⟨c,r,xs,ws,b,ts,rfl,hc,hw,l1,l60,hr2,l2,nf,c2,q3⟩:=h;have lx:xs.length=ws.length:=hw.length;refine⟨_,a0c (a0J (pcF G hr (a0a (pv 0) a0d)))
  (a0c (a0z (a1o (a1x (a0C (a1E rfl) (by rfl) ma a4k (a0a (b1m (M:=MWr) rfl (cso (a0g a3q) NWr) ndWr rfl (pv 1) a0E
    (λcl C s0 H0 fp=>⟨a0v,a2r a2j a4h a0h (pv 0) (a0C (lenS K) (by rfl) ml b7E (a0a (pv 1) a0d))⟩)) a0d)))) (a0f a3p) a0n)
  (a0c (psA (i:=2) a3R (a1p a0d))
  (a0c (a1d b6K rfl (b2X (pv 1)) (pgA (i:=3) a3R)
   (a0f (a0J (a1N b6E PySem.F.slot_list_extend PySem.F.type_list_extend (a8g K) (pv 2) (a0a (pxA (ixT K) (pv 0) (pv 3)) a0d)))))
  (a0f (a0o (a0w (tupleK K) (by rfl) mt a1G (a0a (pv 2) a0d))))))),?_⟩
 refine⟨_,rfl,c,xs,ws,rfl,hc,hw,by assumption,nf,λH1 s1=>?_⟩;refine⟨_,rfl,r,_,b,rfl,SqB.same s1 hr2,λd hd=>?_⟩;refine⟨λk H'=>a0r H1 H'/\H' d=some (.lst (((ts.take k).map (inT (ws.length:Int))).map V.bl)),⟨a0e hd _,a0b⟩,λk H' _ hP=>SqB.same (s1.trans hP.1) hr2,λk x H' hx hP=>?_,λH' hP=>?_⟩
 ·obtain⟨sm,hd'⟩:=hP;rw[b6p] at hx;cases hz:ts[k]? with
  |none=>rw[hz] at hx;cases hx
  |some z=>
  rw[hz] at hx;cases hx;have hk:=(b6d.mp hz).1;have fin:∀b,b=inT (ws.length:Int) z->∃ys,H' d=some (.lst ys)/\ys.length<sizeLine/\(a0r H1 (upd H' d (.lst (ys++[.bl b])))/\upd H' d (.lst (ys++[.bl b])) d=some (.lst (((ts.take (k+1)).map (inT (ws.length:Int))).map V.bl))):=λb eb=>by
   refine⟨_,hd',?_,a0l hd sm,?_⟩
   ·rw[b6b,b6b,b6l];exact a0j (by grind)
   ·rw[a0b,b6s,hz,b6g,b6g,eb];rfl
  refine a0u ⟨_,rfl,_,_,rfl,rfl,_,rfl,?_⟩;refine a2c (λc1=>?_) (λc1=>?_)
  ·refine⟨_,rfl,c,_,rfl,.inr (SqT.of (sm _ _ (s1 _ _ hc))),_,_,rfl,rfl,?_⟩;rw[lx];exact fin _ (by unfold inT;rw[c1];rfl)
  ·exact fin _ (by unfold inT;rw[b7K.mpr c1];rfl)
 obtain⟨sm,hd'⟩:=hP;rw[b6b,b6v] at hd';refine⟨d,_,rfl,hd',_,rfl,?_⟩;have s2:=s1.trans sm;have c3:(ts.map (inT (ws.length:Int))).all id=true:=c2;rw[c3];refine a1q ?_;have hts:=a9F c2;refine⟨(by show 0<=sizeLine;decide),λl hl=>?_⟩;have s3:=a0e hl (.lst []);refine⟨_,rfl,r,b,rfl,⟨_,SqB.same (s2.trans s3) hr2⟩,?_⟩;refine b4B (xs:=ts.map V.int) (λk σ H2=>a0r H H2/\(∃x3:Option V,σ=[some (.ref c),some (.ref r),some (.ref l),x3])/\H2 l=some (.lst ((a0O ws (ts.take k)).map V.int))) ⟨s2.trans s3,⟨_,rfl⟩,a0b⟩ (λk σ H2 _ hP=>SqB.same hP.1 hr2) (λk x σ H2 hx hP=>?_) (λσ H2 hP=>?_)
 ·obtain⟨sm2,⟨x3,rfl⟩,hl2⟩:=hP;rw[b6p] at hx;cases hz:ts[k]? with
  |none=>rw[hz] at hx;cases hx
  |some z=>
  rw[hz] at hx;cases hx;have hk:=(b6d.mp hz).1;obtain⟨z0,z1⟩:=hts z (b6h hz);obtain⟨n,rfl⟩:∃n:Nat,z=n:=⟨z.toNat,by grind⟩
  have hn:n<ws.length:=by lia
  obtain⟨y,hy,ry⟩:=Paired.left_of hw n _ (b6f hn);obtain⟨a,rfl,ha⟩:=Wd.ti ry;have lr:=a5U l60 (ts.take k);have lt:(ts.take k).length<=110:=by rw[b6l];grind
  have lw:=l60 _ (b7w hn);refine⟨_,rfl,.inl ⟨rfl,_,SqL.of hl2⟩,_,rfl,_,rfl,c,_,_,_,rfl,rfl,SqT.of (sm2 _ _ hc),a3I hy,l,a,_,_,rfl,rfl,hl2,SqT.of (sm2 _ _ ha),?_,?_⟩
  ·rw[b6b,b6b];have:(60*110+60:Nat)<=sizeLine:=by decide
   lia
  ·refine⟨a0l (s2.free hl) sm2,⟨_,rfl⟩,?_⟩;rw[a0b,b6s,hz,<-b6g];unfold a0O;rw[b9h];simp[b6q,b6f hn]
 ·obtain⟨sm2,⟨x3,rfl⟩,hl2⟩:=hP;rw[b6b,b6v] at hl2;exact⟨_,rfl,l,_,rfl,.inl ⟨SqL.of hl2,λt ht=>q3 t _ (sm2.trans (a0e ht _)) a0b⟩⟩
end K95R
namespace L2
open PySem PySem.Spec PyProof.Rows
def rInTW:R2:=λx y H Q=>∃(c:Addr)(xs:List V)(ws:List (List Int))(u:List Int),y=.ref c/\Wd H x u/\H c=some (.tup xs)/\Ws H xs ws/\Q (.bl (decide (u∈ws))) H
theorem b4F(hu:X.A.units+4<cLine):OpR X (compareOp .In) rInTW:=by
 intro pins s σ H x y v w' Q I rx ry h;obtain⟨c,xs,ws,u,rfl,hx,hc,hw,q⟩:=h;cases ry;obtain⟨its,r,pl,hz⟩:=I.tuple (SqT.of hc);have EK:=EqK.tup (H:=H) (s:=s) (n:=0) EqK.int I.hok;have li:xs.length=its.length:=r.length;have lw:xs.length=ws.length:=hw.length
 let e:Value->Bool:=λz=>@decide (∃i:Nat,its[i]?=some z/\ws[i]?=some u) (Classical.propDecidable _)
 have at_:∀z∈its,SeqAt.EqAt X.A.in1 s z v (e z):=λz hz=>by
  obtain⟨i,hi⟩:=b6N.mp hz;have il:i<its.length:=(b6d.mp hi).1;have hxi:xs[i]?=some (xs[i]'(by lia)):=b6f _;obtain⟨wd,hwd,rw'⟩:=Paired.right_of hw i _ hxi;obtain⟨z',hz',rz⟩:=r.get hxi;rw[hi] at hz';cases hz';have q1:=EK.eq X.A.in1 _ _ wd u z v (by show X.A.units+1+(0+1)<cLine;lia) rw' hx rz rx;have q2:e z=decide (wd=u):=by
   show @decide _ (Classical.propDecidable _)=_;rw[b8j];simp only[b7m];refine⟨λ⟨j,h1,h2⟩=>?_,λh=>⟨i,hi,by rw[hwd,h]⟩⟩;have jl:j<its.length:=(b6d.mp h1).1;have hxj:xs[j]?=some (xs[j]'(by lia)):=b6f _;obtain⟨wj,hwj,rwj⟩:=Paired.right_of hw j _ hxj;obtain⟨zj,hzj,rzj⟩:=r.get hxj;rw[h1] at hzj;cases hzj;rw[h2] at hwj;cases hwj;obtain⟨a1,e1,t1⟩:=Wd.ti rw';obtain⟨a2,e2,t2⟩:=Wd.ti rwj;rw[e1] at rz;rw[e2] at rzj;have f1:z=.ref a1:=rz;have f2:z=.ref a2:=rzj;rw[f1] at f2;cases f2;exact EK.inj _ _ _ (Wd.of t1) (Wd.of t2)
  rw[q2];exact q1
 refine SeqAt.in_tupleAt e pl (λz hz=>at_ z (by simpa using hz)) ⟨.bl _,H,I,rfl,?_⟩;have ea:its.toArray.any e=decide (u∈ws):=by
  rw[show its.toArray.any e=its.any e by simp,b8j];simp only[List.any_eq_true,b7m];constructor
  ·rintro⟨z,_,hz⟩;have hz':∃i:Nat,its[i]?=some z/\ws[i]?=some u:=@b6B _ (Classical.propDecidable _) hz;obtain⟨i,_,h2⟩:=hz';exact b6h h2
  ·intro hm;obtain⟨i,hi⟩:=b6N.mp hm;have il:i<ws.length:=(b6d.mp hi).1;have hi2:its[i]?=some (its[i]'(by lia)):=b6f _;exact⟨its[i]'(by omega),b7w _,@b6i _ (Classical.propDecidable _) ⟨i,hi2,hi⟩⟩
 rw[ea];exact q
end L2
namespace K95R
open PySem L2
def a7t(n:Nat):Stmt->Stmt
 |.ClassDef _ _ _ b ..=>b.getD n (.Pass ⟨0,0,0,0⟩)
 |s=>s
abbrev a9G:Stmt:=top 50
abbrev b4G:Stmt:=a7t 0 (top 97)
abbrev b4H:Stmt:=a7t 1 (top 97)
abbrev b4I:Stmt:=a7t 2 (top 97)
abbrev b4J:Stmt:=a7t 3 (top 97)
def a2n(ws:List (List Int)):List (List Int):=(a2Q ws).map (·.1)
structure Fo(ws:List (List Int))(ks:List (List Int))(kvs:List (List Key×V)):Prop where
 w:∀(i:Nat)(u:List Int),ws[i]?=some u->a1Z kvs (kI u)=some (.int (i:Int))
 k:∀key:List Int,key∉ws->a1Z kvs (kI key)=if key∈ks then some .non else none
structure RAt(C:Addr)(ws:List (List Int))(H:Hp)(r d lt lp:Addr)(ths lf:List Int)(ps:List (List Int)):Prop where
 ob:∃dx tl,H r=some (.ins C dx [("found",.ref d),("things",.ref lt),("left",.ref tl),("past",.ref lp)])/\TW H tl lf
 fo:∃kvs,H d=some (.dT kvs)/\Fo ws (a2n ws) kvs
 th:H lt=some (.lst (ths.map V.int))
 pa:∃pv,H lp=some (.lst pv)/\Ws H pv ps
 ne:lt≠lp
theorem RAt.same{r d lt lp:Addr}(h:RAt C ws H r d lt lp ths lf ps)(s:a0r H H'):RAt C ws H' r d lt lp ths lf ps:=by
 obtain⟨⟨dx,tl,h1,h2⟩,⟨kvs,h3,h4⟩,h5,⟨pv,h6,h7⟩,h8⟩:=h;exact⟨⟨dx,tl,s _ _ h1,s _ _ h2⟩,⟨kvs,s _ _ h3,h4⟩,s _ _ h5,⟨pv,s _ _ h6,h7.same s⟩,h8⟩
def b3e(L:List Addr)(H H':Hp):Prop:=∀a o,a∉L->H a=some o->H' a=some o
variable {P:Program}{w:World}{K:PySem.W.Frag}{mg:Str->Option Value}{base:Heap}{f:Addr}{fd:FuncData}
def a9H:Sp:=λvs H Q _=>∃c xs ws,vs=[.ref c]/\H c=some (.tup xs)/\Ws H xs ws/\ws.length<=100/\(∀x∈ws,x.length<=100)/\(a2Q ws).length<64/\isF ws none /\
 ∀(p:Addr)(H':Hp)(out:List V)(ks:List (List Key)),a0r H H'->H' p=some (.lst out)->ks.Perm ((a2n ws).map kI)->Paired (b1E H') out ks->Q (.ref p) H'
theorem b4K:a0k ["code"] ["code"] (a0g a9G):=fsk
theorem b1L(F:Fun K "knots_of" "knots_of" a9G f fd)(GR:Fns P w K mg base ["code"] "refuse_clash" (spRC noC) 3)(GY:Fns P w K mg base ["code"] "ways_on" a4w 3)(ms:mg "sorted"=none):a0I P w K mg base CX0 4 f fd ["code"] a9H:=by
 refine F.ok (k:=3) b4K (λvs H Q E h=>?_) (λcdv A outer s H vs Q E hr h=>?_)
 ·obtain⟨c,xs,ws,rfl,_⟩:=h;rfl
 obtain⟨c,xs,ws,rfl,hc,hw,l1,l2,h64,nf,q⟩:=h;refine⟨_,a0c (a0J (pcF GR hr (a0a (pv 0) a0d)))
  (a0f (a0o (a0C (b1F rfl (hu4 hr)) (by rfl) ms PyProof.Rows.boot_sorted (a0a (pcF GY hr (a0a (pv 0) a0d)) a0d)))),?_⟩
 refine⟨_,rfl,c,xs,ws,rfl,hc,hw,l1,nf,λH1 s1=>?_⟩;refine⟨_,rfl,c,xs,ws,rfl,s1 _ _ hc,Ws.same s1 hw,l1,l2,λd H2 wt=>?_⟩;obtain⟨hd,s2,kvs,hdk,wy,nd,young⟩:=wt;have wok:=a5R ws;have lk:kvs.length=(a2Q ws).length:=b8s wy;refine⟨d,kvs,rfl,hdk,by lia,λkv hkv=>?_,λk0 v0 r0 e0=>?_,λp H3 out ks s3 hpn hp3 pk pd=>q p H3 out ks ((s1.trans s2).trans s3) hp3 ?_ pd⟩
 ·obtain⟨i,hi⟩:=b6N.mp hkv;obtain⟨q0,_,e1,_⟩:=Paired.right_of wy i kv hi;exact⟨q0.1,e1⟩
 ·rw[e0] at wy;cases hwy:a2Q ws with
  |nil=>rw[hwy] at wy;cases wy
  |cons q0 r=>
   rw[hwy] at wy;cases wy with
   |cons a _=>
    rw[show k0=kI q0.1 from a.1,wok.hd q0 r hwy];rfl
 ·rw[b4D wy] at pk;unfold a2n;rw[b7v];exact pk
theorem a9I(kvs:List (List Key×V))(k:List Key)(v:V):(a3k kvs k v).length<=kvs.length+1:=by
 unfold a3k;split
 ·rw[b6b];simp
 ·rw[b6o];exact b6k _
structure RC(K:PySem.W.Frag)(C:Addr):Prop where
 c:Cls K C
 nf:a1a K C "found"
 nt:a1a K C "things"
 nl:a1a K C "left"
 np:a1a K C "past"
abbrev NI:List Str:=["self","code","knots","knot","thing","word"]
def a9J(C:Addr):Sp:=λvs H Q _=>∃(r dx c:Addr)(xs:List V)(ws:List (List Int)),vs=[.ref r,.ref c]/\H r=some (.ins C dx [])/\H c=some (.tup xs)/\Ws H xs ws/\ws.length<=100/\(∀x∈ws,x.length<=100)/\(a2Q ws).length<64/\isF ws none/\[]∉ws/\ws.Nodup /\
 ∀(H':Hp)(d lt lp:Addr),b3e [r] H H'->RAt C ws H' r d lt lp [] [] []->H d=none->H lt=none->H lp=none->Q .non H'
theorem a5W:a0k NI ["self","code"] (a0g b4G):=fsk
theorem b4L(F:Fun K "__init__" "Reader.__init__" b4G f fd)(GK:Fns P w K mg base ["code"] "knots_of" a9H 4)(rc:RC K C)(me:mg "enumerate"=none):a0I P w K mg base CX0 5 f fd ["self","code"] (a9J C):=by
 refine F.ok (k:=4) a5W (λvs H Q E h=>?_) (λcdv A outer s H vs Q E hr h=>?_)
 ·obtain⟨r,dx,c,xs,ws,rfl,_⟩:=h;rfl
 obtain⟨r,dx,c,xs,ws,rfl,hr0,hc,hw,l1,l2,h64,nf,ne,nd,q⟩:=h;refine⟨_,a0c (psA (i:=2) a5W (pcF GK hr (a0a (pv 1) a0d)))
  (a0c (a0z (a0p (b4F (hu4 hr)) (a1v a0d) (pv 1) rfl) (a0f a3p) a0n)
  (a0c (a1e (pv 0) a7i rfl)
  (a0c (a1d b6K rfl (a4H (pv 2)) (pgA (i:=3) a5W) (a0f (a6F (hu1 hr) (a0s (pv 0) rfl) (pv 3) a2J rfl)))
  (a0c (a1d b6K rfl (a9x true (by rfl) me (a0a (pv 1) a0d)) (a4q rfl (a1l (pgA (i:=4) a5W) (a1l (pgA (i:=5) a5W) a2Z)))
   (a0f (a6F (hu1 hr) (a0s (pv 0) rfl) (pv 5) (pv 4) rfl)))
  (a0c (a1e (pv 0) (a1p a0d) rfl)
  (a0c (a1e (pv 0) (a1v a0d) rfl)
  (a0f (a1e (pv 0) (a1p a0d) rfl)))))))),?_⟩
 refine⟨_,rfl,c,xs,ws,rfl,hc,hw,l1,l2,h64,nf,λkp H1 out ks s1 hkp pk pd=>?_⟩;refine⟨(by show 0<=sizeLine;decide),λt0 ht0=>?_⟩;have s2:=a0e ht0 (.tup []);have s02:=s1.trans s2;refine⟨_,rfl,c,xs,ws,[],rfl,Wd.of (w:=[]) a0b,s02 _ _ hc,hw.same s02,_,rfl,?_⟩;rw[b6w ne];refine a1q ?_;have hkp2:=s2 _ _ hkp;have pd2:Paired (b1E (upd H1 t0 (.tup []))) out ks:=L2.Paired.mapP pd λ_ _ ⟨b,e,h⟩=>⟨b,e,s2 _ _ h⟩
 generalize upd H1 t0 (.tup [])=H2 at s02 hkp2 pd2 ⊢;refine λd hd=>?_;have s3:=a0e hd (.dT []);refine⟨_,rfl,r,C,dx,_,rfl,s3 _ _ (s02 _ _ hr0),rc.c,rc.nf,(by show 0<1000;decide),?_⟩;have hdr:d≠r:=λz=>by rw[z,s02 _ _ hr0] at hd;cases hd
 have dn:H d=none:=s02.free hd;have k3:b3e [r] H2 (upd (upd H2 d (.dT [])) r (.ins C dx [("found",.ref d)])):=λa o ha e=>by
  rw[a0i (λz=>ha (by rw[z];exact b6r.mpr rfl)),a0i (a0N e hd)];exact e
 have hr3:upd (upd H2 d (.dT [])) r (.ins C dx [("found",.ref d)]) r=some (.ins C dx [("found",.ref d)]):=a0b;have hd3:upd (upd H2 d (.dT [])) r (.ins C dx [("found",.ref d)]) d=some (.dT []):=by rw[a0i hdr,a0b]
 show tSeq _ _ _ _ (upd (upd H2 d (.dT [])) r (.ins C dx [("found",.ref d)]));generalize upd (upd H2 d (.dT [])) r (.ins C dx [("found",.ref d)])=H3 at k3 hr3 hd3 ⊢;have notr:∀{a:Addr}{o:HO},H2 a=some o->(∀x y,o≠.ins C x y)->H3 a=some o:=λ{a o} e h=>k3 a o (λz=>by
  rw[b6r.mp z,s02 _ _ hr0] at e;exact h _ _ (b6I e).symm) e
 have lks:ks.length<64:=by rw[pk.length_eq,b6b];unfold a2n;rw[b6b];exact h64
 have lout:out.length=ks.length:=b8s pd;have hc3:=notr (s02 _ _ hc) (by intro x y z;cases z);have hkp3:=notr hkp2 (by intro x y z;cases z);have word3:∀{x:V}{u:List Int},Wd H x u->∃b,x=.ref b/\TW H3 b u:=λ{x u} h=>by
  obtain⟨b,e,hb⟩:=Wd.ti h;exact⟨b,e,notr (s02 _ _ hb) (by intro x y z;cases z)⟩
 refine⟨_,rfl,kp,rfl,⟨_,SqL.of hkp3⟩,?_⟩;refine a4I (xs:=out) (λi σ H'=>(∀a o,a≠d->H3 a=some o->H' a=some o)/\(∃kvs:List (List Key×V),H' d=some (.dT kvs)/\kvs.length<=i/\∀key:List Key,(key∈ks.take i->a1Z kvs key=some V.non)/\(key∉ks.take i->a1Z kvs key=none))/\∃x3:Option V,σ=[some (.ref r),some (.ref c),some (.ref kp),x3,none,none])
  ⟨λa o _ e=>e,⟨[],hd3,b6k _,λkey=>⟨λh=>by simp at h,λ_=>b1t⟩⟩,_,rfl⟩ (λi σ H' _ hP=>SqL.of (hP.1 _ _ (λz=>by rw[z,hd3] at hkp3;cases hkp3) hkp3)) (λi x σ H4 hx hP=>?_) (λσ H4 hP=>?_)
 ·obtain⟨k4,⟨kvs,hd4,lk,vk⟩,x3,rfl⟩:=hP;obtain⟨k,hk,b,rfl,hb⟩:=Paired.right_of pd2 i x hx;have hb3:=notr hb (by intro x y z;cases z);have hb4:=k4 _ _ (λz=>by rw[z,hd3] at hb3;cases hb3) hb3;have ik:=(b6d.mp hk).1;refine⟨_,rfl,r,C,dx,_,_,rfl,k4 _ _ (Ne.symm hdr) hr3,rc.c,rc.nf,rfl,_,rfl,d,_,rfl,a9n.t hd4 hb4 (by rw[b8f];lia),?_⟩;refine⟨λa o ha e=>by rw[a0i ha];exact k4 a o ha e,⟨_,a0b,?_,λkey=>?_⟩,_,rfl⟩
  ·have:=a9I kvs k .non;lia
  ·rw[a4Z,b6s,hk];by_cases z:key=k
   ·subst z;rw[if_pos rfl];exact⟨λ_=>rfl,λh=>absurd (b6M _ (b6r.mpr rfl)) h⟩
   ·rw[if_neg z];have e:key∈ks.take i++(some k).toList↔key∈ks.take i:=by
     rw[b6G];exact⟨λh=>h.resolve_right λy=>z (by simpa using y),.inl⟩
    exact⟨λh=>(vk key).1 (e.mp h),λh=>(vk key).2 λy=>h (e.mpr y)⟩
 obtain⟨k4,⟨kvs,hd4,lk,vk⟩,x3,rfl⟩:=hP;rw[lout,b6v] at vk;have hc4:=k4 _ _ (λz=>by rw[z,hd3] at hc3;cases hc3) hc3;have kmem:∀key:List Int,kI key∈ks↔key∈a2n ws:=λkey=>by
  rw[pk.mem_iff,b6x];exact⟨λ⟨z,h1,h2⟩=>by rw[<-a7l h2];exact h1,λh=>⟨key,h,rfl⟩⟩
 refine⟨_,rfl,c,xs,rfl,SqT.of hc4,?_⟩;refine a7m (k:=true) (xs:=xs) (λi σ H'=>(∀a o,a≠d->H3 a=some o->H' a=some o)/\(∃kvs:List (List Key×V),H' d=some (.dT kvs)/\kvs.length<=64+i/\(∀(j:Nat)(u:List Int),j<i->ws[j]?=some u->a1Z kvs (kI u)=some (.int (j:Int)))/\∀key:List Int,key∉ws.take i->a1Z kvs (kI key)=if key∈a2n ws then some V.non else none)/\∃x3 x4 x5:Option V,σ=[some (.ref r),some (.ref c),some (.ref kp),x3,x4,x5])
  ⟨k4,⟨kvs,hd4,by lia,λj u hj=>absurd hj (b7b _),λkey _=>by
   by_cases z:key∈a2n ws
   ·rw[if_pos z];exact(vk _).1 ((kmem key).mpr z)
   ·rw[if_neg z];exact(vk _).2 λy=>z ((kmem key).mp y)⟩,_,_,_,rfl⟩ (λi σ H' _ hP=>SqT.of (hP.1 _ _ (λz=>by rw[z,hd3] at hc3;cases hc3) hc3)) (λi x pp σ H5 hx hP hpp=>?_) (λσ H5 hP=>?_)
 ·obtain⟨k5,⟨kvs,hd5,lk,vw,vk⟩,x3,x4,x5,rfl⟩:=hP;obtain⟨u,hu,ru⟩:=Paired.right_of hw i x hx;obtain⟨b,rfl,hb3⟩:=word3 ru;have s6:=a0e hpp (.tup [.int (i:Int),.ref b]);refine⟨pp,_,rfl,SqT.of a0b,rfl,_,_,rfl,_,_,rfl,rfl,?_⟩;have hb6:=s6 _ _ (k5 _ _ (λz=>by have y:H3 b=some (.tup (u.map V.int)):=hb3;rw[z,hd3] at y;cases y) hb3);have hb7:upd H5 pp (.tup [.int (i:Int),.ref b]) b=some (.tup ((kI u).map kV)):=by rw[hb6,b7v];rfl
  have iw:=(b6d.mp hu).1;refine⟨_,rfl,_,rfl,r,C,dx,_,_,rfl,s6 _ _ (k5 _ _ (Ne.symm hdr) hr3),rc.c,rc.nf,rfl,_,rfl,d,_,rfl,a9n.t (s6 _ _ hd5) hb7 (by rw[b8f];lia),?_⟩;refine⟨λa o ha e=>by rw[a0i ha];exact s6 _ _ (k5 a o ha e),⟨_,a0b,?_,λj v hj hv=>?_,λkey hk=>?_⟩,_,_,_,rfl⟩
  ·have:=a9I kvs (kI u) (.int (i:Int));lia
  ·rw[a4Z];by_cases z:j=i
   ·subst z;rw[hu] at hv;cases hv;rw[if_pos rfl]
   ·have vu:v≠u:=λy=>z (by
     subst y;obtain⟨h1,h2⟩:=b6d.mp hv;obtain⟨h3,h4⟩:=b6d.mp hu;exact(c0C nd).mp (h2.trans h4.symm))
    rw[if_neg (λy=>vu (a7l y))];exact vw j v (by lia) hv
  ·rw[b6s,hu,b6G,not_or] at hk;have ku:key≠u:=λy=>hk.2 (by rw[y];simp);rw[a4Z,if_neg (λy=>ku (a7l y))];exact vk key hk.1
 obtain⟨k5,⟨kvs5,hd5,lk5,vw,vk5⟩,y3,y4,y5,rfl⟩:=hP;have lx:xs.length=ws.length:=hw.length;rw[lx] at vw vk5;rw[b6v] at vk5;have fo:Fo ws (a2n ws) kvs5:=⟨λi u h=>vw i u (b6d.mp h).1 h,vk5⟩
 have hr5:=k5 _ _ (Ne.symm hdr) hr3;refine⟨(by show 0<=sizeLine;decide),λlt hlt=>?_⟩;have s6:=a0e hlt (.lst []);refine⟨_,rfl,r,C,dx,_,rfl,s6 _ _ hr5,rc.c,rc.nt,(by show 1<1000;decide),?_⟩;have ltr:lt≠r:=λz=>by rw[z,hr5] at hlt;cases hlt
 have ltd:lt≠d:=λz=>by rw[z,hd5] at hlt;cases hlt
 rw[show a1t "things" (V.ref lt) ([("found",V.ref d)]:List (Str×V))=([("found",.ref d),("things",.ref lt)]:List (Str×V)) from rfl];have hr6:upd (upd H5 lt (.lst [])) r (.ins C dx [("found",.ref d),("things",.ref lt)]) r=some (.ins C dx [("found",.ref d),("things",.ref lt)]):=a0b;have h6:∀a o,a≠r->H5 a=some o->upd (upd H5 lt (.lst [])) r (.ins C dx [("found",.ref d),("things",.ref lt)]) a=some o:=λa o ha e=>by rw[a0i ha];exact s6 _ _ e
 have hlt6:upd (upd H5 lt (.lst [])) r (.ins C dx [("found",.ref d),("things",.ref lt)]) lt=some (.lst []):=by rw[a0i ltr,a0b]
 generalize upd (upd H5 lt (.lst [])) r (.ins C dx [("found",.ref d),("things",.ref lt)])=H6 at hr6 h6 hlt6 ⊢;refine⟨(by show 0<=sizeLine;decide),λtl htl=>?_⟩;have s7:=a0e htl (.tup []);refine⟨_,rfl,r,C,dx,_,rfl,s7 _ _ hr6,rc.c,rc.nl,(by show 2<1000;decide),?_⟩;have tlr:tl≠r:=λz=>by rw[z,hr6] at htl;cases htl
 rw[show a1t "left" (V.ref tl) ([("found",V.ref d),("things",V.ref lt)]:List (Str×V))=([("found",.ref d),("things",.ref lt),("left",.ref tl)]:List (Str×V)) from rfl];have hr7:upd (upd H6 tl (.tup [])) r (.ins C dx [("found",.ref d),("things",.ref lt),("left",.ref tl)]) r=some (.ins C dx [("found",.ref d),("things",.ref lt),("left",.ref tl)]):=a0b;have h7:∀a o,a≠r->H6 a=some o->upd (upd H6 tl (.tup [])) r (.ins C dx [("found",.ref d),("things",.ref lt),("left",.ref tl)]) a=some o:=λa o ha e=>by rw[a0i ha];exact s7 _ _ e
 have htl7:upd (upd H6 tl (.tup [])) r (.ins C dx [("found",.ref d),("things",.ref lt),("left",.ref tl)]) tl=some (.tup []):=by rw[a0i tlr,a0b]
 generalize upd (upd H6 tl (.tup [])) r (.ins C dx [("found",.ref d),("things",.ref lt),("left",.ref tl)])=H7 at hr7 h7 htl7 ⊢;refine⟨(by show 0<=sizeLine;decide),λlp hlp=>?_⟩;have s8:=a0e hlp (.lst []);refine⟨_,rfl,r,C,dx,_,rfl,s8 _ _ hr7,rc.c,rc.np,(by show 3<1000;decide),?_⟩;have lpr:lp≠r:=λz=>by rw[z,hr7] at hlp;cases hlp
 rw[show a1t "past" (V.ref lp) ([("found",V.ref d),("things",V.ref lt),("left",V.ref tl)]:List (Str×V))=([("found",.ref d),("things",.ref lt),("left",.ref tl),("past",.ref lp)]:List (Str×V)) from rfl];have h8:∀a o,a≠r->H7 a=some o->upd (upd H7 lp (.lst [])) r (.ins C dx [("found",.ref d),("things",.ref lt),("left",.ref tl),("past",.ref lp)]) a=some o:=λa o ha e=>by rw[a0i ha];exact s8 _ _ e
 have kp8:b3e [r] H (upd (upd H7 lp (.lst [])) r (.ins C dx [("found",.ref d),("things",.ref lt),("left",.ref tl),("past",.ref lp)])):=λa o ha e=>by
  have ar:a≠r:=λz=>ha (by rw[z];exact b6r.mpr rfl);have ad:a≠d:=λz=>by rw[z,dn] at e;cases e
  exact h8 a o ar (h7 a o ar (h6 a o ar (k5 a o ad (k3 a o ha (s02 _ _ e)))))
 have free:∀{a:Addr}{G:Hp},(∀b o,b≠r->H b=some o->G b=some o)->G a=none->a≠r->H a=none:=λ{a G} h e ar=>by
  cases z:H a with
  |none=>rfl
  |some o=>rw[h a o ar z] at e;cases e
 have g5:∀b o,b≠r->H b=some o->H5 b=some o:=λb o br e=>k5 b o (λz=>by rw[z,dn] at e;cases e) (k3 b o (λz=>br (b6r.mp z)) (s02 _ _ e));refine q _ d lt lp kp8 ⟨⟨dx,tl,a0b,h8 _ _ tlr htl7⟩,⟨kvs5,h8 _ _ hdr (h7 _ _ hdr (h6 _ _ hdr hd5)),fo⟩,h8 _ _ ltr (h7 _ _ ltr hlt6),⟨[],by rw[a0i lpr,a0b],.nil⟩,λz=>by rw[<-z,h7 _ _ ltr hlt6] at hlp;cases hlp⟩ dn (free g5 hlt ltr) (free (λb o br e=>h7 b o br (h6 b o br (g5 b o br e))) hlp lpr)
end K95R
namespace L2
open PySem
theorem b4M(hd:∀xs,H d≠some (.tup xs))(h:Wd H x u):Wd (upd H d o) x u:=by
 obtain⟨a',xs',rfl,e',p'⟩:=h;refine⟨a',xs',rfl,?_,p'⟩;rw[a0i (λz=>hd xs' (by rw[<-z];exact e'))];exact e'
theorem a9K(hd:∀xs,H d≠some (.tup xs))(h:Ws H xs ws):Ws (upd H d o) xs ws:=Paired.mapP h λ_ _ q=>b4M hd q
end L2
namespace K95R
open PySem L2
variable {P:Program}{w:World}{K:PySem.W.Frag}{mg:Str->Option Value}{base:Heap}{f:Addr}{fd:FuncData}
def b3f(C:Addr):Sp:=λvs H Q _=>∃(r d lt lp:Addr)(x:Int)(ws:List (List Int))(ths lf:List Int)(ps:List (List Int)),vs=[.ref r,.int x]/\RAt C ws H r d lt lp ths lf ps/\ths.length<=9000/\ps.length<=9000/\lf.length<=900 /\
 ((∃i:Nat,ws[i]?=some (lf++[x])/\∀H',b3e [r,lt,lp] H H'->RAt C ws H' r d lt lp (ths++[(i:Int)]) [] (ps++[lf])->Q (.int (i:Int)) H') \/
  (lf++[x]∉ws/\lf++[x]∈a2n ws/\∀H',b3e [r,lt,lp] H H'->RAt C ws H' r d lt lp ths (lf++[x]) (ps++[lf])->Q .non H'))
theorem a9L:a0k ["self","letter","longer","thing"] ["self","letter"] (a0g b4H):=fsk
theorem b3g(h:n<=9001):n<sizeLine:=b9q h (by decide)
abbrev flds(d lt tl lp:Addr):List (Str×V):=[("found",.ref d),("things",.ref lt),("left",.ref tl),("past",.ref lp)]
theorem b4N(F:Fun K "take" "Reader.take" b4H f fd)(rc:RC K C):a0I P w K mg base CX0 1 f fd ["self","letter"] (b3f C):=by
 refine F.ok (k:=0) a9L (λvs H Q E h=>?_) (λcdv A outer s H vs Q E hr h=>?_)
 ·obtain⟨r,d,lt,lp,x,ws,ths,lf,ps,rfl,_⟩:=h;rfl
 obtain⟨r,d,lt,lp,x,ws,ths,lf,ps,rfl,ra,l1,l2,l3,q⟩:=h;obtain⟨⟨dx,tl,hr0,htl⟩,⟨kvs,hd0,fo⟩,hlt,⟨pvs,hlp,hP⟩,ne⟩:=ra;refine⟨_,a0c (psA (i:=2) a9L (a0q a3G (a0s (pv 0) rfl) (a1v (a0a (pv 1) a0d))))
  (a0c (a0z (a4p (a9q (hu1 hr) (pv 2) (a0s (pv 0) rfl))) (a0f a3p) a0n)
  (a0c (a0J (a1N b6E b6S b6T a1b (a0s (pv 0) rfl) (a0a (a0s (pv 0) rfl) a0d)))
  (a0c (psA (i:=3) a9L (b4t (hu1 hr) (a0s (pv 0) rfl) (pv 2) (λ_ _=>rfl)))
  (a0c (a0z (a4p (a8w (pv 3))) (a0f (a1e (pv 0) (pv 2) rfl))
   (a0c (a1e (pv 0) (a1v a0d) rfl) (a0f (a0J (a1N b6E b6S b6T a1b (a0s (pv 0) rfl) (a0a (pv 3) a0d))))))
  (a0f (a0o (pv 3))))))),?_⟩
 refine⟨_,rfl,r,C,dx,_,_,rfl,hr0,rc.c,rc.nl,rfl,_,rfl,(by show 1<=sizeLine;decide),λt1 ht1=>?_⟩;have s1:=a0e ht1 (.tup [.int x]);refine⟨tl,t1,_,_,rfl,rfl,s1 _ _ htl,a0b,small (by rw[b6b];show lf.length+1<=1000;lia),λp2 H2 s2 hp2=>?_⟩;have s02:=s1.trans s2;have hp2':TW H2 p2 (lf++[x]):=by show H2 p2=_;rw[hp2,b6g];rfl
 have key2:H2 p2=some (.tup ((kI (lf++[x])).map kV)):=by rw[show H2 p2=_ from hp2',b7v];rfl
 have hr2:=s02 _ _ hr0;have hd2:=s02 _ _ hd0;have hlt2:=s02 _ _ hlt;have hlp2:=s02 _ _ hlp;have htl2:TW H2 tl lf:=s02 _ _ htl;have hP2:=hP.same s02;have lpv:pvs.length=ps.length:=hP.length;obtain⟨v,hv,hvc⟩:∃v,a1Z kvs (kI (lf++[x]))=some v/\((∃i:Nat,v=.int (i:Int)/\ws[i]?=some (lf++[x])/\∀H',b3e [r,lt,lp] H H'->RAt C ws H' r d lt lp (ths++[(i:Int)]) [] (ps++[lf])->Q (.int (i:Int)) H')\/(v=.non/\∀H',b3e [r,lt,lp] H H'->RAt C ws H' r d lt lp ths (lf++[x]) (ps++[lf])->Q .non H')):=by
  rcases q with ⟨i,hi,q⟩|⟨h1,h2,q⟩
  ·exact⟨_,fo.w i _ hi,.inl ⟨i,rfl,hi,q⟩⟩
  ·exact⟨.non,by rw[fo.k _ h1,if_pos h2],.inr ⟨rfl,q⟩⟩
 have dg2:a8a H2 d (.ref p2) (some v):=by rw[<-hv];exact a8a.t hd2 key2
 refine⟨_,rfl,_,rfl,r,C,dx,_,_,rfl,hr2,rc.c,rc.nf,rfl,d,some v,rfl,dg2,_,rfl,a1q ?_⟩;refine⟨_,rfl,r,C,dx,_,_,rfl,hr2,rc.c,rc.np,rfl,.inl ⟨rfl,_,SqL.of hlp2⟩,_,rfl,r,C,dx,_,_,rfl,hr2,rc.c,rc.nl,rfl,lp,_,_,rfl,rfl,hlp2,b3g (by lia),?_⟩;have rlp:r≠lp:=a0B hr2 hlp2 (by intro z;cases z);have rlt:r≠lt:=a0B hr2 hlt2 (by intro z;cases z);have dlp:d≠lp:=a0B hd2 hlp2 (by intro z;cases z);have dlt:d≠lt:=a0B hd2 hlt2 (by intro z;cases z);have dr:d≠r:=a0B hd2 hr2 (by intro z;cases z);have hr3:upd H2 lp (.lst (pvs++[.ref tl])) r=some (.ins C dx (flds d lt tl lp)):=by rw[a0i rlp];exact hr2
 have hd3:upd H2 lp (.lst (pvs++[.ref tl])) d=some (.dT kvs):=by rw[a0i dlp];exact hd2
 have hlt3:upd H2 lp (.lst (pvs++[.ref tl])) lt=some (.lst (ths.map V.int)):=by rw[a0i ne];exact hlt2
 have hlp3:upd H2 lp (.lst (pvs++[.ref tl])) lp=some (.lst (pvs++[.ref tl])):=a0b;have hp3:TW (upd H2 lp (.lst (pvs++[.ref tl]))) p2 (lf++[x]):=by show upd _ _ _ p2=_;rw[a0i (a0B hp2' hlp2 (by intro z;cases z))];exact hp2'
 have hP3:Ws (upd H2 lp (.lst (pvs++[.ref tl]))) (pvs++[.ref tl]) (ps++[lf]):=Ws.upd hlp2 (L2.Paired.appendP hP2 (L2.Paired.oneP (Wd.of htl2)));have k3:∀a o,a≠lp->H a=some o->upd H2 lp (.lst (pvs++[.ref tl])) a=some o:=λa o ha e=>by rw[a0i ha];exact s02 _ _ e
 generalize upd H2 lp (.lst (pvs++[.ref tl]))=H3 at hr3 hd3 hlt3 hlp3 hp3 hP3 k3 ⊢;have key3:H3 p2=some (.tup ((kI (lf++[x])).map kV)):=by rw[show H3 p2=_ from hp3,b7v];rfl
 have dg3:a8a H3 d (.ref p2) (some v):=by rw[<-hv];exact a8a.t hd3 key3
 refine⟨_,rfl,r,C,dx,_,_,rfl,hr3,rc.c,rc.nf,rfl,_,rfl,d,v,rfl,dg3,?_⟩;rcases hvc with ⟨i,rfl,hi,q⟩|⟨rfl,q⟩
 ·-- a whole word
  refine⟨_,rfl,_,rfl,?_⟩;rw[b6w (by intro z;cases z)];refine a1q ?_;refine⟨(by show 0<=sizeLine;decide),λt4 ht4=>?_⟩;have s4:=a0e ht4 (.tup []);refine⟨_,rfl,r,C,dx,_,rfl,s4 _ _ hr3,rc.c,rc.nl,(by show 4<1000;decide),?_⟩;rw[show a1t "left" (V.ref t4) (flds d lt tl lp)=flds d lt t4 lp from rfl];have t4r:t4≠r:=λz=>by rw[z,hr3] at ht4;cases ht4
  have nr:∀xs,upd H3 t4 (.tup []) r≠some (.tup xs):=λxs z=>by rw[s4 _ _ hr3] at z;cases z
  have hr5:upd (upd H3 t4 (.tup [])) r (.ins C dx (flds d lt t4 lp)) r=some (.ins C dx (flds d lt t4 lp)):=a0b;have k5:∀a o,a≠r->H3 a=some o->upd (upd H3 t4 (.tup [])) r (.ins C dx (flds d lt t4 lp)) a=some o:=λa o ha e=>by rw[a0i ha];exact s4 _ _ e
  have ht5:TW (upd (upd H3 t4 (.tup [])) r (.ins C dx (flds d lt t4 lp))) t4 []:=by show upd _ _ _ t4=_;rw[a0i t4r,a0b];rfl
  have hP5:Ws (upd (upd H3 t4 (.tup [])) r (.ins C dx (flds d lt t4 lp))) (pvs++[.ref tl]) (ps++[lf]):=a9K nr (hP3.same s4);generalize upd (upd H3 t4 (.tup [])) r (.ins C dx (flds d lt t4 lp))=H5 at hr5 k5 ht5 hP5 ⊢;have hlt5:=k5 _ _ (Ne.symm rlt) hlt3;refine⟨_,rfl,r,C,dx,_,_,rfl,hr5,rc.c,rc.nt,rfl,.inl ⟨rfl,_,SqL.of hlt5⟩,_,rfl,lt,_,_,rfl,rfl,hlt5,b3g (by rw[b6b];lia),?_⟩;refine⟨_,rfl,q _ (λa o ha e=>?_) ⟨⟨dx,t4,?_,?_⟩,⟨kvs,?_,fo⟩,?_,⟨_,?_,Ws.upd hlt5 hP5⟩,ne⟩⟩
  ·have a1:a≠r:=λz=>ha (by rw[z];exact .head _);have a2:a≠lt:=λz=>ha (by rw[z];exact .tail _ (.head _));have a3:a≠lp:=λz=>ha (by rw[z];exact .tail _ (.tail _ (.head _)));rw[a0i a2];exact k5 a o a1 (k3 a o a3 e)
  ·rw[a0i rlt];exact hr5
  ·show upd _ _ _ t4=_;rw[a0i (a0B ht5 hlt5 (by intro z;cases z))];exact ht5
  ·rw[a0i dlt];exact k5 _ _ dr hd3
  ·rw[a0b,b6g];rfl
  ·rw[a0i (Ne.symm ne)];exact k5 _ _ (Ne.symm rlp) hlp3
 ·-- a knot
  refine⟨_,rfl,_,rfl,?_⟩;rw[b6i rfl];refine a4S ?_;refine⟨_,rfl,_,rfl,r,C,dx,_,rfl,hr3,rc.c,rc.nl,(by show 4<1000;decide),?_⟩;rw[show a1t "left" (V.ref p2) (flds d lt tl lp)=flds d lt p2 lp from rfl];have nr:∀xs,H3 r≠some (.tup xs):=λxs z=>by rw[hr3] at z;cases z
  refine⟨_,rfl,q _ (λa o ha e=>?_) ⟨⟨dx,p2,a0b,?_⟩,⟨kvs,?_,fo⟩,?_,⟨_,?_,a9K nr hP3⟩,ne⟩⟩
  ·have a1:a≠r:=λz=>ha (by rw[z];exact .head _);have a3:a≠lp:=λz=>ha (by rw[z];exact .tail _ (.tail _ (.head _)));rw[a0i a1];exact k3 a o a3 e
  ·show upd _ _ _ p2=_;rw[a0i (a0B hp3 hr3 (by intro z;cases z))];exact hp3
  ·rw[a0i dr];exact hd3
  ·rw[a0i (Ne.symm rlt)];exact hlt3
  ·rw[a0i (Ne.symm rlp)];exact hlp3
def b3h(C:Addr):Sp:=λvs H Q _=>∃(r d lt lp:Addr)(ws:List (List Int))(ths lf:List Int)(ps:List (List Int)),vs=[.ref r]/\RAt C ws H r d lt lp ths lf ps/\∀(p:Addr)(H':Hp),a0r H H'->H p=none->H' p=some (.lst (ths.map V.int))->Q (.ref p) H'
theorem scTold:a0k ["self"] ["self"] (a0g b4I):=fsk
theorem b4O(F:Fun K "told" "Reader.told" b4I f fd)(rc:RC K C)(mL:mg "list"=none):a0I P w K mg base CX0 1 f fd ["self"] (b3h C):=by
 refine F.ok (k:=0) scTold (λvs H Q E h=>?_) (λcdv A outer s H vs Q E hr h=>?_)
 ·obtain⟨r,d,lt,lp,ws,ths,lf,ps,rfl,_⟩:=h;rfl
 obtain⟨r,d,lt,lp,ws,ths,lf,ps,rfl,ra,q⟩:=h;obtain⟨⟨dx,tl,hr0,htl⟩,⟨kvs,hd0,fo⟩,hlt,⟨pvs,hlp,hP⟩,ne⟩:=ra;refine⟨_,a0f (a0o (a0w a3i (by rfl) mL b2R (a0a (a0s (pv 0) rfl) a0d))),?_⟩;exact⟨_,rfl,r,C,dx,_,_,rfl,hr0,rc.c,rc.nt,rfl,lt,_,rfl,.inl (SqL.of hlt),λp hp=>q p _ (a0e hp _) hp a0b⟩
def b3i(C:Addr):Sp:=λvs H Q _=>∃(r d lt lp:Addr)(ws:List (List Int))(ths lf:List Int)(ps:List (List Int)),vs=[.ref r]/\RAt C ws H r d lt lp ths lf ps/\∀p:Addr,TW H p lf->Q (.ref p) H
theorem scRest:a0k ["self"] ["self"] (a0g b4J):=fsk
theorem b4P(F:Fun K "rest" "Reader.rest" b4J f fd)(rc:RC K C):a0I P w K mg base CX0 1 f fd ["self"] (b3i C):=by
 refine F.ok (k:=0) scRest (λvs H Q E h=>?_) (λcdv A outer s H vs Q E hr h=>?_)
 ·obtain⟨r,d,lt,lp,ws,ths,lf,ps,rfl,_⟩:=h;rfl
 obtain⟨r,d,lt,lp,ws,ths,lf,ps,rfl,ra,q⟩:=h;obtain⟨⟨dx,tl,hr0,htl⟩,⟨kvs,hd0,fo⟩,hlt,⟨pvs,hlp,hP⟩,ne⟩:=ra;refine⟨_,a0f (a0o (a0s (pv 0) rfl)),?_⟩;exact⟨_,rfl,r,C,dx,_,_,rfl,hr0,rc.c,rc.nl,rfl,q tl htl⟩
theorem b1M{k k':List Int}(h:k'∈wy.map (·.1)\/k'=k):k'∈(a3P k l wy).map (·.1):=by
 rcases a2R k l wy with ⟨e,m⟩|⟨e,m⟩
 ·rw[e];rcases h with h|h
  ·exact h
  ·rw[h];exact m
 ·rw[e,b6G];rcases h with h|h
  ·exact .inl h
  ·exact .inr (b6r.mpr h)
theorem a3r{word k:List Int}:∀n,(k∈wy.map (·.1)\/∃i,i<n/\k=word.take i)->k∈(a6I word n wy).map (·.1)
 |0,h=>by
  rcases h with h|⟨i,hi,_⟩
  ·exact h
  ·exact absurd hi (b7b _)
 |n+1,h=>by
  rw[a1w];refine b1M ?_;rcases h with h|⟨i,hi,e⟩
  ·exact .inl (a3r n (.inl h))
  ·by_cases z:i=n
   ·subst z;exact .inr e
   ·exact .inl (a3r n (.inr ⟨i,by lia,e⟩))
theorem b3j(hi:i<u.length):∀n,n<=ws.length->∀j,j<n->ws[j]?=some u->u.take i∈(a1I ws n).map (·.1)
 |0,_,j,hj,_=>absurd hj (b7b _)
 |n+1,hn,j,hj,hu=>by
  have hw:ws[n]?=some (ws[n]'(by assumption)):=b6f _;rw[a1D hw];by_cases z:j=n
  ·subst z;rw[hw] at hu;rw[b6I hu];exact a3r _ (.inr ⟨i,hi,rfl⟩)
  ·exact a3r _ (.inl (b3j hi n (by exact b6y ‹_›) j (by lia) hu))
theorem a3L{ws:List (List Int)}{u:List Int}{i j:Nat}(hu:ws[j]?=some u)(hi:i<u.length):u.take i∈a2n ws:=b3j hi ws.length (b6k _) j (b6d.mp hu).1 hu
structure Cd(ws:List (List Int)):Prop where
 pf:PF ws
 ne:[]∉ws
theorem Cd.proper(c:Cd ws){j k:Nat}(hu:ws[j]?=some u)(hk:k<u.length):u.take k∉ws:=λh=>by
 obtain⟨i,hi⟩:=b6N.mp h;by_cases z:i=j
 ·subst z;rw[hi] at hu;have:=b7d List.length (b6I hu);rw[b6l] at this
  lia
 ·exact(c.pf.ne hi hu z).1 (List.take_prefix k u)
structure Cut(ws:List (List Int))(ts:List Int)(c m:Nat)(rest:List Int):Prop where
 le:m<=ts.length
 eq:(a0O ws ts).take c=a0O ws (ts.take m)++rest
 rs:(m=ts.length/\rest=[])\/∃(i:Nat)(u:List Int),ts[m]?=some (i:Int)/\ws[i]?=some u/\rest=u.take rest.length/\rest.length<u.length
def okT(ws:List (List Int))(ts:List Int):Prop:=∀t∈ts,0<=t/\t<(ws.length:Int)
theorem a1X(ws:List (List Int))(t:Int)(ts:List Int):a0O ws (t::ts)=ws.getD t.toNat []++a0O ws ts:=rfl
theorem a2S(ws:List (List Int))(ts us:List Int):a0O ws (ts++us)=a0O ws ts++a0O ws us:=by
 unfold a0O;rw[b9h]
theorem cut0(c:Cd ws)(ok:okT ws ts):Cut ws ts 0 0 []:=by
 refine⟨b6O _,by simp[a0O],?_⟩;cases ts with
 |nil=>exact .inl ⟨rfl,rfl⟩
 |cons t ts=>
  obtain⟨t0,t1⟩:=ok t (.head _);have hl:t.toNat<ws.length:=by lia
  have hu:ws[t.toNat]?=some (ws[t.toNat]'hl):=b6f _;refine .inr ⟨t.toNat,ws[t.toNat]'hl,by simp;lia,hu,by simp,?_⟩;cases hz:ws[t.toNat]'hl with
  |nil=>rw[hz] at hu;exact absurd (b6h hu) c.ne
  |cons a b=>simp
theorem Cut.step{ws:List (List Int)}(cd:Cd ws){ts:List Int}(ok:okT ws ts){c m:Nat}{rest:List Int}(h:Cut ws ts c m rest){x:Int}(hx:(a0O ws ts)[c]?=some x) :
  (∃i:Nat,ws[i]?=some (rest++[x])/\ts[m]?=some (i:Int)/\Cut ws ts (c+1) (m+1) [])\/(rest++[x]∉ws/\rest++[x]∈a2n ws/\Cut ws ts (c+1) m (rest++[x])):=by
 have hc:c<(a0O ws ts).length:=(b6d.mp hx).1;obtain⟨le,eq,rs⟩:=h;have lenc:(a0O ws (ts.take m)).length+rest.length=c:=by
  have:=b7d List.length eq;rw[b6l,b6o] at this
  grind
 rcases rs with ⟨rfl,rfl⟩|⟨i,u,ht,hu,hr,hlt⟩
 ·rw[b6v] at lenc;simp at lenc
  lia
 have hm:m<ts.length:=(b6d.mp ht).1;have sp:ts=ts.take m++(i:Int)::ts.drop (m+1):=a7n ht;have gu:ws.getD ((i:Int)).toNat []=u:=by rw[b6Q,b6q,hu];rfl
 have row:a0O ws ts=a0O ws (ts.take m)++(u++a0O ws (ts.drop (m+1))):=by
  conv=>lhs;rw[sp]
  rw[a2S,a1X,gu]
 have hx2:u[rest.length]?=some x:=by
  rw[row,b6U (by lia),b7D (by lia)] at hx;rw[<-hx];congr 1
  lia
 have grow:rest++[x]=u.take (rest.length+1):=by
  conv=>lhs;rw[hr]
  rw[b6s,hx2];rfl
 have eq2:(a0O ws ts).take (c+1)=a0O ws (ts.take m)++(rest++[x]):=by
  rw[b6s,hx,eq,b8B];rfl
 by_cases z:rest.length+1=u.length
 ·have eu:rest++[x]=u:=by rw[grow,z,b6v]
  refine .inl ⟨i,by rw[eu];exact hu,ht,by assumption,?_,?_⟩
  ·rw[eq2,eu,b7e,b6s,ht];show _=a0O ws (ts.take m++[(i:Int)]);rw[a2S,a1X,gu];simp[a0O]
  ·by_cases y:m+1=ts.length
   ·exact .inl ⟨y,rfl⟩
   ·have hm2:m+1<ts.length:=by lia
    have h2:ts[m+1]?=some ts[m+1]:=b6f hm2;obtain⟨t0,t1⟩:=ok ts[m+1] (b7w hm2);have hl:ts[m+1].toNat<ws.length:=by lia
    have hv:ws[ts[m+1].toNat]?=some (ws[ts[m+1].toNat]'hl):=b6f _;refine .inr ⟨ts[m+1].toNat,ws[ts[m+1].toNat]'hl,by rw[h2];congr 1;lia,hv,by simp,?_⟩;cases hz:ws[ts[m+1].toNat]'hl with
    |nil=>rw[hz] at hv;exact absurd (b6h hv) cd.ne
    |cons a b=>simp
 ·have l1:(rest++[x]).length=rest.length+1:=by rw[b6o];rfl
  refine .inr ⟨by rw[grow];exact cd.proper hu (by lia),by rw[grow];exact a3L hu (by omega),le,eq2,.inr ⟨i,u,ht,hu,by rw[l1];exact grow,by rw[l1];omega⟩⟩
theorem Cut.full{rest:List Int}(ok:okT ws ts)(cd:Cd ws)(h:Cut ws ts (a0O ws ts).length m rest):m=ts.length/\rest=[]:=by
 obtain⟨le,eq,rs⟩:=h;rcases rs with z|⟨i,u,ht,hu,hr,hlt⟩
 ·exact z
 exfalso;rw[b6v] at eq;have sp:ts=ts.take m++(i:Int)::ts.drop (m+1):=a7n ht;have gu:ws.getD ((i:Int)).toNat []=u:=by rw[b6Q,b6q,hu];rfl
 have row:a0O ws ts=a0O ws (ts.take m)++(u++a0O ws (ts.drop (m+1))):=by
  conv=>lhs;rw[sp]
  rw[a2S,a1X,gu]
 rw[row] at eq;have:=b7d List.length eq;rw[b6o,b6o,b6o] at this
 lia
theorem Cut.behind{rest:List Int}(h:Cut ws ts c m rest):rest++(a0O ws ts).drop c=a0O ws (ts.drop m):=by
 have e1:a0O ws ts=a0O ws (ts.take m)++a0O ws (ts.drop m):=by rw[<-a2S,b8T]
 have e2:a0O ws ts=a0O ws (ts.take m)++(rest++(a0O ws ts).drop c):=by
  rw[<-b8B,<-h.eq,b8T]
 exact List.append_cancel_left (e2.symm.trans e1)
end K95R
namespace L2
open PySem PySem.Spec PyProof.Rows
def b5Y(lo st:Int)(n:Nat):It:=⟨λi _=>i<n,λi H x H'=>H'=H/\x=.int (lo+i*st),λi _=>n<=i⟩
theorem a3S{P:Program}{w:World}{K:PySem.W.Frag}{tg:Expr}(it:Addr)(lo st:Int)(n:Nat):b2G P w K tg (b5Y lo st n) [it] it (λi h=>IsRangeIter h it (lo+(i:Nat)*st) ((n:Int)-(i:Nat)) st) where
 mem:=by simp
 obj:=λi h st b hb=>by
  have e:b=it:=by simpa using hb
  subst e;exact⟨_,st,λv z=>by
   have z':Data.fields _=Data.cell v:=z;cases z'⟩
 keep:=λi h h' st k=>k it (by simp) _ st
 item:=by
  intro X hP hw hK hc i pins s σ H E I hf st0 hg;subst hP hw hK;obtain⟨f0,f1,f2,f3,f4,f5⟩:=hf it (by simp);have W:=Walks.range (prog:=X.prog) (w:=X.w) (I.ok.hd hc) it lo st n;refine W.item i s _ _ hg st0 λv h' tk hv st' kk=>?_;obtain⟨t,rfl⟩:=hv;have I1:Inv X pins σ H {s with heap:=h',toks:=tk}:=I.turned (λb o hb e=>kk b o (by simpa using hb) e) f0 f1 f3 f4 f5;exact⟨_,rfl,a8y (s:={s with heap:=h',toks:=tk}) (n:="range_iterator") st' rfl rfl (by decide) ⟨.int (lo+i*st),H,I1,⟨t,rfl⟩,⟨rfl,rfl⟩,st',λb hb=>(hf b hb).1⟩⟩
 done:=by
  intro X hP hw hK hc i pins s σ H E I hf st0 hg;subst hP hw hK;obtain⟨f0,f1,f2,f3,f4,f5⟩:=hf it (by simp);exact wpAny_pyNext_range_end (I.ok.hd hc) st0 (by have:n<=i:=hg;lia) λh' eb=>⟨rfl,I.turned (t':=s.toks) (λb o hb e=>eb b o hb e) f0 f1 f3 f4 f5⟩
 self:=λ_ _ _ _ _ st h=>wpAny_pyIter_rangeiter st h
theorem small3(h1:0<=a)(h2:a<1000000)(h3:0<=b)(h4:b<1000000)(h5:0<c)(h6:c<1000000):Builtin.Range.small a b c=true/\0<=Builtin.Range.rangeSize a b c/\∀i:Nat,(i:Int)<Builtin.Range.rangeSize a b c->a+i*c<b:=by
 have d0:a<b->0<=(b-a-1) / c:=λh=>Int.ediv_nonneg (by lia) (by lia);have d1:a<b->(b-a-1) / c<=b-a-1:=λh=>Int.ediv_le_self _ (by omega);have d2:c*((b-a-1) / c)<=b-a-1:=Int.mul_ediv_self_le (by lia);have z:Builtin.Range.rangeSize a b c=if a<b then (b-a-1) / c+1 else 0:=by unfold Builtin.Range.rangeSize;rw[if_pos h5]
 refine⟨?_,?_,λi hi=>?_⟩
 ·unfold Builtin.Range.small;rw[z];have h5':c>0:=h5;simp only[Builtin.Range.rangeFitsLong,b6Y,Bool.or_eq_true,b7m,b9C,h5',if_true];split
  ·have:=d0 (by assumption);have:=d1 (by assumption);omega
  ·lia
 ·rw[z];split
  ·have:=d0 (by assumption);omega
  ·simp
 ·rw[z] at hi;split at hi
  ·have m:(i:Int)*c<=(b-a-1) / c*c:=b9J (by omega) (by lia);rw[Int.mul_comm ((b-a-1) / c) c] at m;omega
  ·lia
def iRng3(ta:TA):TI:=λσ H R=>ta σ H λvs H1=>∃a b c:Int,vs=[.int a,.int b,.int c]/\(0<=a/\a<1000000/\0<=b/\b<1000000/\0<c/\c<1000000)/\∀n:Nat,(∀i:Nat,i<n->a+i*c<b)->R (b5Y a c n) H1
theorem a9M{X:Cx}{tg:Expr}{a b c:Expr}{ta:TA}{p pos:Pos}(hg:Gl X "range")(hm:X.mg "range"=none)(ha:PA X [a,b,c] ta)(hs:starEach [a,b,c] X.env=(false,eval a X.env)::starEach [b,c] X.env:=by rfl)(hs2:(backTo pos (starEach [b,c] X.env)).any (·.1)=false:=by rfl) :
  PI X tg (.Call (.Name "range" p) [a,b,c] [] pos) (iRng3 ta):=by
 intro pins s σ H R I h;refine Call_ (a2K I hg hm boot_range (b7j (thn (ha pos pins s σ H _ I h) λus s1 ⟨vs,H1,I1,r1,q1⟩=>?_) hs hs2));obtain⟨i,j,k,e,⟨h1,h2,h3,h4,h5,h6⟩,q⟩:=q1;subst e;cases r1 with
 |cons r rr=>
  cases rr with
  |cons r' rr=>
   cases rr with
   |cons r'' rr=>
    cases rr;obtain⟨t,rfl⟩:=r;obtain⟨t',rfl⟩:=r';obtain⟨t'',rfl⟩:=r'';obtain⟨sm,z0,zl⟩:=small3 h1 h2 h3 h4 h5 h6;refine call_range_3 (by omega) ?_ (.inl (b9z (by grind)));refine c0h (IsRange.new ..) sm ?_;have I2:Inv X pins σ H1 {s1 with heap:=s1.heap.push {cls:=.type "range",data:=.fields #[.int i t,.int j t',.int k t'']},toks:=s1.toks}:=I1.kept λb o e=>b6e _ e;refine⟨_,[_],_,_,H1,rfl,I2.kept (t':=s1.toks) λb o e=>b6e _ e,a3S _ i k (Builtin.Range.rangeSize i j k).toNat,?_,λb hb=>?_,q _ λm hm=>zl m (by lia)⟩
    ·have e1:i+((0:Nat):Int)*k=i:=by simp
     have e2:(((Builtin.Range.rangeSize i j k).toNat:Nat):Int)-((0:Nat):Int)=Builtin.Range.rangeSize i j k:=by lia
     show IsRangeIter _ _ (i+((0:Nat):Int)*k) ((((Builtin.Range.rangeSize i j k).toNat:Nat):Int)-((0:Nat):Int)) k;rw[e1,e2];exact b6m _ rfl
    ·have e:=b6r.mp hb;subst e;exact I2.fpOk (b6k _) (I2.hok.fresh (b6k _))
theorem a2t{lo st:Int}{n:Nat}{g:TG}{tb:TS}{D:a8v}{σ:St}{H:Hp}(Pv:Nat->St->Hp->Prop)(h0:Pv 0 σ H)(hs:∀i σ H,i<n->Pv i σ H->g (.int (lo+i*st)) σ H λσ2 H2=>tb {D with nx:=Pv (i+1),ct:=Pv (i+1),bk:=D.nx} σ2 H2)(hd:∀σ H,Pv n σ H->D.nx σ H) :
  ∃W:Nat->Nat->St->Hp->Prop,(∃m,W 0 m σ H)/\∀i m σ H,W i m σ H ->
   ((b5Y lo st n).stop i H/\D.nx σ H)\/((b5Y lo st n).go i H/\∃N:St->Hp->Prop,(∀σ' H',N σ' H'->∃m',m'<m/\W (i+1) m' σ' H')/\∀x H',(b5Y lo st n).yld i H x H'->g x σ H' λσ2 H2=>tb {D with nx:=N,ct:=N,bk:=D.nx} σ2 H2):=by
 refine⟨λi m σ H=>m=n-i/\i<=n/\Pv i σ H,⟨n,by simp,b6O _,h0⟩,?_⟩;rintro i m σ H ⟨rfl,hi,p⟩;by_cases hlt:i<n
 ·refine .inr ⟨hlt,Pv (i+1),λσ' H' q=>⟨n-(i+1),by grind,rfl,by assumption,q⟩,?_⟩;rintro v H' ⟨rfl,rfl⟩;exact hs i σ _ hlt p
 ·have e:i=n:=by lia
  subst e;exact .inl ⟨b6k _,hd σ H p⟩
end L2
namespace K95R
open PySem L2
abbrev b4Q:Stmt:=top 96
structure Code(ws:List (List Int)):Prop where
 cd:Cd ws
 l1:ws.length<=60
 l2:∀x∈ws,x.length<=60
 h64:(a2Q ws).length<64
theorem PF.nodup(h:PF ws):ws.Nodup:=by
 rw[List.nodup_iff_pairwise_ne] at *
 exact h.imp λ{a b} ap e=>by
  subst e;exact ap.1 (List.prefix_refl _)
inductive b3k(ts:List Int):Nat->List (List Int)->Nat->List Int->Prop
 |zero:b3k ts 0 [] 0 []
 |word {c ps m l0}:b3k ts c ps m l0->m<ts.length->b3k ts (c+1) (ps++[l0]) (m+1) []
 |knot {c ps m l0 lf}:b3k ts c ps m l0->lf≠[]->b3k ts (c+1) (ps++[l0]) m lf
theorem b3k.len(h:b3k ts c ps m lf):ps.length=c:=by
 induction h with
 |zero=>rfl
 |word _ _ ih=>rw[b6o,ih];rfl
 |knot _ _ ih=>rw[b6o,ih];rfl
theorem Cut.rest_len{rest:List Int}(h:Cut ws ts c m rest)(l2:∀x∈ws,x.length<=60):rest.length<=60:=by
 rcases h.rs with ⟨_,rfl⟩|⟨i,u,_,hu,_,hl⟩
 ·exact b6O _
 ·have:=l2 u (b6h hu)
  lia
theorem a3T(s:a0r H H1)(k:b3e L H1 H2)(n:∀a∈L,H a=none):a0r H H2:=λa o e=>k a o (λz=>by rw[n a z] at e;cases e) (s a o e)
variable {P:Program}{w:World}{K:PySem.W.Frag}{mg:Str->Option Value}{base:Heap}{f:Addr}{fd:FuncData}
structure Rdr(P:Program)(w:World)(K:PySem.W.Frag)(mg:Str->Option Value)(base:Heap)(C:Addr) where
 rc:RC K C
 g:mg "Reader"=some (.ref C)
 fi:Addr
 di:FuncData
 mkk:Mk K C fi
 oki:a0I P w K mg base CX0 5 fi di ["self","code"] (a9J C)
 bi:a1K K di ["self","code"] []
 ft:Addr
 dt:FuncData
 mt:a8F K C "take" ft
 okt:a0I P w K mg base CX0 6 ft dt ["self","letter"] (b3f C)
 bt:a1K K dt ["self","letter"] []
 fo:Addr
 do_:FuncData
 mo:a8F K C "told" fo
 oko:a0I P w K mg base CX0 6 fo do_ ["self"] (b3h C)
 bo:a1K K do_ ["self"] []
 fr:Addr
 dr:FuncData
 mr:a8F K C "rest" fr
 okr:a0I P w K mg base CX0 6 fr dr ["self"] (b3i C)
 br:a1K K dr ["self"] []
theorem RAt.at_{r d lt lp:Addr}(h:RAt C ws H r d lt lp ths lf ps)(m:Str)(hm:(["found","things","left","past"]:List Str).contains m=false):∃dx fs,H r=some (.ins C dx fs)/\fs.lookup m=none:=by
 obtain⟨⟨dx,tl,h1,h2⟩,_⟩:=h;refine⟨dx,_,h1,?_⟩;simp only[List.contains_cons,List.contains_nil,Bool.or_eq_false_iff] at hm;obtain⟨m1,m2,m3,m4,_⟩:=hm;simp only[List.lookup,m1,m2,m3,m4]
theorem made{C:Addr}{ws:List (List Int)}(cc:Code ws){H:Hp}{c:Addr}{xs:List V}(hc:H c=some (.tup xs))(hw:Ws H xs ws){E:XK}{Q:Hp->Prop}{x dx:Addr}(hx:H x=none)(hdx:H dx=none)
  (q:∀(d lt lp:Addr)(H':Hp),a0r H H'->H lt=none->H lp=none->RAt C ws H' x d lt lp [] [] []->Q H') :
  a9J C (.ref x::([.ref c]++[])) (upd (upd H dx (.own x)) x (.ins C dx [])) (λv H2=>v=.non/\Q H2) E:=by
 have s1:a0r H (upd (upd H dx (.own x)) x (.ins C dx [])):=a0l hx (a0e hdx _);refine⟨x,dx,c,xs,ws,rfl,a0b,s1 _ _ hc,hw.same s1,by have:=cc.l1;lia,λu hu=>by have:=cc.l2 u hu;lia,cc.h64,b3d cc.cd.pf,cc.cd.ne,PF.nodup cc.cd.pf,λH' d lt lp kp ra dn ltn lpn=>⟨rfl,?_⟩⟩;exact q d lt lp H' (a3T s1 kp λa ha=>by rw[b6r.mp ha];exact hx) (s1.free ltn) (s1.free lpn) ra
abbrev NRd:List Str:=["code","letters","reader","letter"]
def b3l:Sp:=λvs H Q _=>∃(c p:Addr)(xs:List V)(ws:List (List Int))(ts:List Int)(cut:Nat),vs=[.ref c,.ref p]/\H c=some (.tup xs)/\Ws H xs ws/\Code ws/\okT ws ts/\ts.length<=1000/\cut<=(a0O ws ts).length/\cut<=9000/\TW H p ((a0O ws ts).take cut) /\
 ∀(m:Nat)(rest:List Int),Cut ws ts cut m rest->∀(q l t:Addr)(H':Hp),a0r H H'->H' q=some (.tup [.ref l,.ref t])->H' l=some (.lst ((ts.take m).map V.int))->TW H' t rest->Q (.ref q) H'
theorem a9N:a0k NRd ["code","letters"] (a0g b4Q):=fsk
theorem b4R(F:Fun K "read" "read" b4Q f fd)(R:Rdr P w K mg base C):a0I P w K mg base CX0 7 f fd ["code","letters"] b3l:=by
 refine F.ok (k:=6) a9N (λvs H Q E h=>?_) (λcdv A outer s H vs Q E hr h=>?_)
 ·obtain⟨c,p,xs,ws,ts,cut,rfl,_⟩:=h;rfl
 obtain⟨c,p,xs,ws,ts,cut,rfl,hc,hw,cc,ok,l1,l2,l9,hp,q⟩:=h;refine⟨_,a0c (psA (i:=2) a9N (a4L R.mkk R.oki hr (by rfl) R.g R.bi .nil a1g (a0a (pv 0) a0d)))
  (a0c (a1d b6K rfl (a6W (pv 1)) (pgA (i:=3) a9N) (a0f (a0J (a0T (pv 2) R.rc.c R.mt R.okt hr R.bt .nil a1g (a0a (pv 3) a0d)))))
  (a0f (a0o (a1v (a0a (a2N (pv 2) R.rc.c R.mo R.oko hr R.bo .nil a1g) (a0a (a2N (pv 2) R.rc.c R.mr R.okr hr R.br .nil a1g) a0d)))))),?_⟩
 refine⟨_,rfl,λr dx0 rn hdx0 ne0=>made cc hc hw rn hdx0 λd lt lp H1 s1 ltn lpn ra=>?_⟩;refine⟨_,rfl,p,rfl,⟨_,SqT.of (s1 _ _ hp)⟩,?_⟩;refine a4J (K:=K) (a:=p) (xs:=((a0O ws ts).take cut).map V.int) (λi σ H'=>a0r H H'/\(∃(m:Nat)(rest:List Int)(ps:List (List Int)),Cut ws ts i m rest/\b3k ts i ps m rest/\RAt C ws H' r d lt lp (ts.take m) rest ps)/\∃x3:Option V,σ=[some (.ref c),some (.ref p),some (.ref r),x3])
  ⟨s1,⟨0,[],[],cut0 cc.cd ok,.zero,ra⟩,_,rfl⟩ (λi σ H' _ hP=>SqT.of (hP.1 _ _ hp)) (λi x σ H2 hx hP=>?_) (λσ H2 hP=>?_)
 ·obtain⟨s2,⟨m,rest,ps,ct,hs,ra2⟩,x3,rfl⟩:=hP;rw[b6p] at hx;obtain⟨n,hn,rfl⟩:=b6A.mp hx;have ic:i<cut:=by
   have:=(b6d.mp hn).1;rw[b6l] at this
   lia
  rw[b9j ic] at hn;obtain⟨dx,fs,hr2,lk⟩:=RAt.at_ ra2 "take" (by decide);refine⟨_,rfl,r,dx,fs,rfl,hr2,lk,_,rfl,r,d,lt,lp,n,ws,ts.take m,rest,ps,rfl,ra2,by rw[b6l];grind,by rw[hs.len];lia,by have:=ct.rest_len cc.l2;lia,?_⟩;have fresh:∀a∈[r,lt,lp],H a=none:=λa ha=>by
   cases ha with
   |head=>exact rn
   |tail _ ha=>cases ha with
    |head=>exact ltn
    |tail _ ha=>cases ha with
     |head=>exact lpn
     |tail _ ha=>cases ha
  rcases ct.step cc.cd ok hn with ⟨k,h1,h2,ct'⟩|⟨h1,h2,ct'⟩
  ·refine .inl ⟨k,h1,λH3 k3 ra3=>⟨a3T s2 k3 fresh,⟨m+1,[],ps++[rest],ct',hs.word (b6d.mp h2).1,?_⟩,_,rfl⟩⟩;rw[b6s,h2];exact ra3
  ·exact .inr ⟨h1,h2,λH3 k3 ra3=>⟨a3T s2 k3 fresh,⟨m,rest++[n],ps++[rest],ct',hs.knot (by simp),ra3⟩,_,rfl⟩⟩
 ·obtain⟨s2,⟨m,rest,ps,ct,hs,ra2⟩,x3,rfl⟩:=hP;have lc:(((a0O ws ts).take cut).map V.int).length=cut:=by rw[b6b,b6l];lia
  rw[lc] at ct;obtain⟨dx,fs,hr2,lk⟩:=RAt.at_ ra2 "told" (by decide);refine⟨_,rfl,r,dx,fs,rfl,hr2,lk,r,d,lt,lp,ws,ts.take m,rest,ps,rfl,ra2,λl H3 s3 ln hl=>?_⟩;have ra3:=ra2.same s3;obtain⟨dx3,fs3,hr3,lk3⟩:=RAt.at_ ra3 "rest" (by decide);refine⟨_,rfl,r,dx3,fs3,rfl,hr3,lk3,r,d,lt,lp,ws,ts.take m,rest,ps,rfl,ra3,λt ht=>?_⟩;refine⟨(by show 2<=sizeLine;decide),λz hz=>?_⟩;have s4:=a0e hz (.tup [.ref l,.ref t]);exact q m rest ct z l t _ ((s2.trans s3).trans s4) a0b (s4 _ _ hl) (s4 _ _ ht)
end K95R
namespace L2
open PySem PySem.Spec PyProof.Rows
section
variable {X:Cx}{k:Nat}{f C:Addr}{fd:FuncData}{ps:List Str}{sp:Sp}{Ex:St->XK}{x m:Str}{p pos apos:Pos}{e o:Expr}{es:List Expr}{ta:TE}{t:TA}
theorem b4S{s:Shared}{us:List Value}(F:a0I X.prog X.w X.K X.mg X.base (CXF X.prog X.w) k f fd ps sp)(hr:a2I k X.A)(hb:a1K X.K fd ps [])(hx:a6C X Ex)
  (I:Inv X pins σ H s)(r:a0P vs us)(h:sp vs H Q (Ex σ)):wpAny (model X.prog X.w) X.A (call (.ref f) us) (EP X pins σ Q) X.xe s:=by
 have hl:us.length=ps.length:=by rw[<-r.length];exact F.len _ _ _ _ h
 have hb':=hb s us I.kIn (by rw[b7e];exact hl);rw[b7e] at hb';refine c0N (b8L (F.run X.A X.stack s H ⟨us,[]⟩ us vs Q (Ex σ) hr I.env0 hb' r h) λr s' hq=>?_);cases r with
 |error e=>exact hx pins σ H s e s' I hq
 |ok fl=>
  cases fl with
  |ret u=>exact I.after hq
  |next=>exact False.elim hq
  |brk=>exact False.elim hq
  |cont=>exact False.elim hq
def tMethX(C:Addr)(m:Str)(sp:Sp)(Ex:St->XK)(ta:TE)(t:TA):TE:=λσ H Q=>ta σ H λx H1=>∃a dx fs,x=.ref a/\H1 a=some (.ins C dx fs)/\fs.lookup m=none /\
 t σ H1 λvs H2=>sp (x::vs) H2 Q (Ex σ)
theorem b1N{pl:Sem Bool}(he:PE X o ta)(c:Cls X.K C)(hm:a8F X.K C m f)(F:a0I X.prog X.w X.K X.mg X.base (CXF X.prog X.w) k f fd ps sp)(hr:a2I k X.A)(hb:a1K X.K fd ps [])(hx:a6C X Ex)(ha:PA X (e::es) t)
  (hst:starEach (e::es) X.env=(false,eval e X.env)::starEach es X.env:=by rfl)(hpl:(backTo pos (starEach es X.env)).any (·.1)=false:=by rfl)
  (ht:eval (.Call (.Attribute o m apos) (e::es) [] pos) X.env=(do
   let ov <-eval o X.env
   standAt apos.atName
   let (f,first) <-holding [ov] (getMethod ov m pl)
   callWith pos f first (backTo pos (starEach (e::es) X.env)) (backToKw pos (keywordEach [] X.env))):=by rfl) :
  PE X (.Call (.Attribute o m apos) (e::es) [] pos) (tMethX C m sp Ex ta t):=by
 intro pins s σ H Q I h;refine b9G (pl:=pl) (thn (he pins s σ H _ I h) λu s1 ⟨x,H1,I1,rx,a,dx,fs,ex,ea,l,q⟩=>?_) ht;subst ex;obtain rfl:u=Value.ref a:=rx;refine a3b I1 ea c hm l ?_;refine b9n (first:=[.ref a]) (h₀:=X.base) I.ok.mod.kin hm.kp (thn (ha pos pins s1 σ H1 _ I1 q) λus s2 ⟨vs,H2,I2,r,q2⟩=>⟨I2.kIn,?_⟩) hst hpl;exact b4S (us:=.ref a::us) (vs:=.ref a::vs) F hr hb hx I2 (.cons rfl r) q2
end
section
variable {X:Cx}{elt iter:Expr}{tg:Str}{tp:Pos}{cs:List Expr}{scope:Scope}{pos:Pos}{tc:TT}{te:TE}{M:List Str}
theorem a2T(hN:X.N.Nodup)(hix:X.N[i]?=some x)(hx:X.env.scope.names.lookup x=some .local)(hc:X.calm=true)(S:a0x scope X.env X.N M)(nd:(tg::M).Nodup)(hl:scope.names.lookup tg=some .local)(hi:PE X iter tl)(mo:a2E tl)
  (hin:a4l X scope tg M cs elt tc te)(hw:swapsWith (.ListComp elt [⟨.Name tg tp,iter,cs,0⟩] scope pos) (some (.Name x pos1)) spos.line X.env=pure true:=by rfl)(hf:∀x,foldedSetIterable iter X.env x=pure x:=by intro _;rfl) :
  PS X (.Assign [.Name x pos1] (.ListComp elt [⟨.Name tg tp,iter,cs,0⟩] scope pos) spos) (b0O (a9c X.K tl tc te) (a1B i)):=by
 refine a7c hc S nd hl (a4H hi) hin (λσ H Q h=>?_) hN hix hx hw hf;refine mo σ H _ _ (λv H1 q=>?_) h;obtain⟨a,xs,e,j1,q⟩:=q;refine⟨a,e,⟨xs,j1⟩,λd hd=>?_⟩;obtain⟨Pv,h0,hl,hs,hd⟩:=q d hd;exact a3H (k:=1) (g:=a1B 0) Pv h0 hl hs hd
end
section
variable {P:Program}{w:World}{A:Around}{H:Hp}{s:Shared}{n:Nat}{α β γ:Type}[DecidableEq α][DecidableEq β][DecidableEq γ]
variable {R1:V->α->Prop}{R2:V->β->Prop}{R3:V->γ->Prop}
end
def srt(ns:List Int):List Int:=ns.mergeSort λa b=>decide (a<=b)
theorem a7u(ns:List Int):(srt ns).Perm ns:=List.mergeSort_perm ns _
theorem a5X(ns:List Int):(srt ns).Pairwise (·<=·):=by
 have h:=List.pairwise_mergeSort (le:=λa b:Int=>decide (a<=b)) (λa b c h1 h2=>by simp at *;lia) (λa b=>by simp;lia) ns;exact h.imp λh=>by simpa using h
def SqI(H:Hp)(a:Addr)(ns:List Int):Prop:=H a=some (.lst (ns.map V.int))\/H a=some (.tup (ns.map V.int))
theorem a8j{us:List Value}(r:a0P (ns.map V.int) us):IntsAre us ns:=by
 induction ns generalizing us with
 |nil=>cases r;exact .nil
 |cons n ns ih=>
  cases r with
  |cons r rr=>
   obtain⟨t,rfl⟩:=r;exact .cons _ _ (ih rr)
theorem a3U(h:IntsAre vs ns):vs.length=ns.length:=by
 induction h with
 |nil=>rfl
 |cons n t _ ih=>simp[ih]
theorem b1O(h:m∈ns)(h1:∀x∈ns,m<=x):(srt ns).headD 0=m:=by
 have p:=a7u ns;have r:=a5X ns;cases e:srt ns with
 |nil=>
  rw[e] at p;have:=p.symm.mem_iff.mp h;cases this
 |cons a t=>
  rw[e] at p r;have ha:m<=a:=h1 a (p.mem_iff.mp (.head _));have hm:m∈a::t:=p.symm.mem_iff.mp h;show a=m;cases hm with
  |head=>rfl
  |tail _ hm=>
   have:=(List.pairwise_cons.mp r).1 m hm
   lia
theorem b4T(hI:IntsAre its ns)(ne:ns≠[])(h:its.toArray[argBest (λi j=>decide (ns.getD i 0<ns.getD j 0)) (its.toArray.size-1)]?=some v):∃t,v=.int ((srt ns).headD 0) t:=by
 have li:=a3U hI;have hb:=argBest_lt (λi=>ns.getD i 0) (its.toArray.size-1);have ez:its.toArray.size=its.length:=b6n;have n0:0<ns.length:=b9i.mpr ne;have hv:its[argBest (λi j=>decide (ns.getD i 0<ns.getD j 0)) (its.toArray.size-1)]?=some v:=by simpa using h
 obtain⟨t,e⟩:=hI.int_at _ v hv;refine⟨t,?_⟩;rw[e];congr 1;refine(b1O ?_ λx hx=>?_).symm
 ·rw[b6q,b6f (by have:=hb.1;omega)];exact b7w _
 ·obtain⟨j,hj⟩:=b6N.mp hx;have jl:=(b6d.mp hj).1;have:=hb.2 j (by grind);rw[show ns.getD j 0=x by rw[b6q,hj];rfl] at this;exact this
theorem b_min':bootBuiltins "min"=some (.builtin "min"):=by decide +kernel
section
variable {prog:Program}{w:World}{A:Around}{R:Result->Shared->Prop}{I:Addr}{fp wr:List Addr}{n:Nat}{P:Nat->Value->Prop}{St:Nat->Heap->Prop}
abbrev kwD(d:Value):List (Str×Value):=[(Str.ofString "default",d)]
theorem b4U(W:Walks prog w A.in1 I fp wr n P St)(bt:Nat->Nat->Bool)(C:CmpOf prog w A.in1 .Lt P bt)(S:Addr)(hS:S∉fp)(d:Value) :
  ∀(k j:Nat)(s:Shared)(vb:Value)(c:Nat),n-(j+1)=k->j+1<=n->St (j+1) s.heap->P (argBest bt j) vb->s.heap.get? S=some {cls:=.type "list",data:=.seq #[vb,vb] c} ->
   (∀(v:Value)(h':Heap)(tk:Nat),P (argBest bt (n-1)) v->(∀(b:Addr)(o:Obj),b∉wr->b≠S->s.heap.get? b=some o->h'.get? b=some o)->R (.ok (.ret v)) {s with heap:=h',toks:=tk}) ->
   codeAny (model prog w) A (.builtin "min.loop" ⟨[.ref I,.none,.ref S],kwD d⟩) R s:=by
 intro k
 induction k with
 |zero=>
  intro j s vb c hk hj st pv hs q;have ej:j+1=n:=by grind
  refine b8b c0G ?_;rw[b7A b8r _];show wpAny _ A.in1 (seqItems? (.ref S) >>= _) _ _ s;refine b6c (b7N hs rfl ?_);refine b6c (c0s ?_);subst ej;refine W.done s _ _ st λh' tk hk'=>?_;have hs':=hk' S _ (λz=>hS (W.sub _ z)) hs;show wpAny _ A.in1 (updateSeq S _ >>= _) _ _ _;refine b6c (b9Z hs' rfl ?_);refine b6c (b9g ?_);refine b6j ?_;refine q vb _ tk pv λb o hb hne e=>?_;rw[b7W _ _ _ _ hne];exact hk' b o hb e
 |succ k ih=>
  intro j s vb c hk hj st pv hs q;have hlt:j+1<n:=by omega
  refine b8b c0G ?_;rw[b7A b8r _];show wpAny _ A.in1 (seqItems? (.ref S) >>= _) _ _ s;refine b6c (b7N hs rfl ?_);refine b6c (c0s ?_);refine W.item (j+1) s _ _ hlt st λv h' tk hv st' hk'=>?_;have hs':=hk' S _ (λz=>hS (W.sub _ z)) hs;show wpAny _ A.in1 (tryCatch (holding [v,v] (richCompare .Lt v vb >>= _)) _ >>= _) _ _ _;refine b6c (c0s (b7F (b6c ?_)));refine C (j+1) (argBest bt j) v vb _ _ _ hv pv ?_;refine b6c (b7F (b7u ?_));refine b6c (b9g (b6j ?_));have eb:argBest bt (j+1)=if bt (j+1) (argBest bt j)=true then j+1 else argBest bt j:=rfl
  cases hb:bt (j+1) (argBest bt j) with
  |true=>
   rw[hb,if_pos rfl] at eb;show wpAny _ A.in1 (updateSeq S _ >>= _) _ _ _;refine b6c (b9Z hs' rfl ?_);refine b6c (b9g ?_);refine b6j ⟨b8Y b8r _,?_⟩;have hs2:=b9X (c:="list") hs' (λ_=>#[v,v]);refine ih (j+1) _ v _ (by grind) (by assumption) ?_ (by rw[eb];exact hv) hs2 λv2 h2 tk2 hv2 hk2=>?_
   ·refine W.frame (j+2) h' _ st' λb hb2 o e=>?_;rw[b7W _ _ _ _ (λz=>hS (by rw[<-z];exact hb2))];exact e
   ·refine q v2 h2 tk2 hv2 λb o hb2 hne e=>hk2 b o hb2 hne ?_;rw[b7W _ _ _ _ hne];exact hk' b o hb2 e
  |false=>
   rw[hb,if_neg (by decide)] at eb;show wpAny _ A.in1 (letGo _ _ >>= _) _ _ _;refine b6c (b9g ?_);refine b6j ⟨b8Y b8r _,?_⟩;exact ih (j+1) _ vb c (by grind) (by assumption) st' (by rw[eb];exact pv) hs' λv2 h2 tk2 hv2 hk2=>q v2 h2 tk2 hv2 λb o hb2 hne e=>hk2 b o hb2 hne (hk' b o hb2 e)
theorem a8k(W:Walks prog w A.in1 I fp wr n P St)(bt:Nat->Nat->Bool)(C:CmpOf prog w A.in1 .Lt P bt)(S:Addr)(hS:S∉fp)(d:Value){s:Shared}(st:St 0 s.heap)(hs:s.heap.get? S=some {cls:=.type "list",data:=.seq #[] c})
  (q0:n=0->∀(h':Heap)(tk:Nat),(∀(b:Addr)(o:Obj),b∉wr->b≠S->s.heap.get? b=some o->h'.get? b=some o)->R (.ok (.ret d)) {s with heap:=h',toks:=tk})
  (q:0<n->∀(v:Value)(h':Heap)(tk:Nat),P (argBest bt (n-1)) v->(∀(b:Addr)(o:Obj),b∉wr->b≠S->s.heap.get? b=some o->h'.get? b=some o)->R (.ok (.ret v)) {s with heap:=h',toks:=tk}) :
  codeAny (model prog w) A (.builtin "min.loop" ⟨[.ref I,.none,.ref S],kwD d⟩) R s:=by
 refine b8b c0G ?_;rw[b7A b8r _];show wpAny _ A.in1 (seqItems? (.ref S) >>= _) _ _ s;refine b6c (b7N hs rfl ?_);refine b6c (c0s ?_);by_cases n0:n=0
 ·subst n0;refine W.done s _ _ st λh' tk hk'=>?_;show wpAny _ A.in1 (rule _ >>= _) _ _ _;refine b6c (b8X (b6j ?_));exact q0 rfl h' tk λb o hb _ e=>hk' b o hb e
 ·have hlt:0<n:=by lia
  refine W.item 0 s _ _ hlt st λv h' tk hv st' hk'=>?_;have hs':=hk' S _ (λz=>hS (W.sub _ z)) hs;show wpAny _ A.in1 (updateSeq S _ >>= _) _ _ _;refine b6c (b9Z hs' rfl ?_);refine b6j ⟨b8Y b8r _,?_⟩;have hs2:=b9X (c:="list") hs' (λ_=>#[v,v]);refine b4U W bt C S hS d (n-1) 0 _ v _ rfl hlt ?_ hv hs2 λv2 h2 tk2 hv2 hk2=>?_
  ·refine W.frame 1 h' _ st' λb hb2 o e=>?_;rw[b7W _ _ _ _ (λz=>hS (by rw[<-z];exact hb2))];exact e
  ·refine q hlt v2 h2 tk2 hv2 λb o hb2 hne e=>hk2 b o hb2 hne ?_;rw[b7W _ _ _ _ hne];exact hk' b o hb2 e
end
def rMinD(xs zs:List V)(H:Hp)(Q:VK):Prop:=∃(a:Addr)(ns:List Int),xs=[.ref a]/\zs=[.non]/\H a=some (.lst (ns.map V.int))/\Q (if ns=[] then .non else .int ((srt ns).headD 0)) H
theorem a9O(a d:Value):argsOk "min" {pos:=[a],kw:=kwD d}:=rfl
theorem b1P(hc:X.calm=true){s:Shared}{us ws:List Value}(I:Inv X pins σ H s)(r:a0P vs us)(rz:a0P zs ws)(h:rMinD vs zs H Q) :
  wpAny (model X.prog X.w) X.A (call (.builtin "min") us (([Str.ofString "default"]:List Str).zip ws)) (EP X pins σ Q) X.xe s:=by
 obtain⟨a,ns,rfl,rfl,e,q⟩:=h;obtain⟨u,rfl,ru⟩:=a2D r;obtain⟨d,rfl,rd⟩:=a2D rz;cases ru;cases rd;obtain⟨_,its,n,rv,he⟩:=(show a1s X.prog X.w H s.heap a (.lst (ns.map V.int)) from I.hok a _ e)
 have hI:=a8j rv;have li:=a3U hI;have hlt:=b6t he;show wpAny _ _ (call (.builtin "min") [.ref a] (kwD .none)) _ _ _;refine kmb_tree F.kind_min F.plain_min F.entry_min (a9O _ _) ?_;have eB:Builtin.Builtins.bindParams "min" ["key","default"] 0 {kw:=kwD .none}=pure [none,some .none]:=rfl;show wpAny _ X.A.in1 (Builtin.Builtins.bindParams "min" ["key","default"] 0 {kw:=kwD .none} >>= _) _ _ s;rw[eB];show wpAny _ X.A.in1 (pyIter (.ref a) >>= _) _ _ s;refine b6c (b8y (a1R he) ?_);refine b6c (wpAny_newList ?_ (b6O _));refine b6j ⟨b8Y b8r _,?_⟩;have sz:(s.heap.push {cls:=.type "list_iterator",data:=.fields #[.ref a,rawInt 0]}).objs.size=s.heap.objs.size+1:=b7f _ _;have hS:(s.heap.push {cls:=.type "list_iterator",data:=.fields #[.ref a,rawInt 0]}).objs.size∉[s.heap.objs.size,a]:=λz=>by
  rw[sz] at z;simp only[b6D,b7x,b9F] at z;rcases z with z|z
  ·exact absurd z (b7Y (b9K _))
  ·rw[<-z] at hlt;exact absurd hlt (Nat.not_lt.mpr (Nat.le_succ _))
 have up:∀b o,s.heap.get? b=some o->((s.heap.push {cls:=.type "list_iterator",data:=.fields #[.ref a,rawInt 0]}).push {cls:=.type "list",data:=.seq (([]:List Value).toArray)}).get? b=some o:=λb o eo=>b6e _ (b6e _ eo);have ne1:∀b o,s.heap.get? b=some o->b∉[s.heap.objs.size]:=λb o eo z=>by
  rw[b6r.mp z] at eo;exact absurd (b6t eo) (b7y _)
 have ne2:∀b o,s.heap.get? b=some o->b≠(s.heap.push {cls:=.type "list_iterator",data:=.fields #[.ref a,rawInt 0]}).objs.size:=λb o eo z=>by
  rw[sz] at z;rw[z] at eo;exact absurd (b6t eo) (Nat.not_lt.mpr (Nat.le_succ _))
 refine a8k (A:=X.A) (c:=0) (Walks.list (A:=X.A.in1) (by show X.A.handled=none;exact I.ok.hd hc) s.heap.objs.size a (b6L hlt) its.toArray) (λi j=>decide (ns.getD i 0<ns.getD j 0)) (CmpOf.ints_lt _ (λi v hv=>hI.int_at i v (by simpa using hv))) _ hS .none
  ⟨⟨_,b6e _ (b6m _ rfl),rfl,rfl⟩,a1R (up _ _ he)⟩ (b6m _ rfl) (λn0 h' tk hk=>?_) (λn0 v h' tk hv hk=>?_)
 ·have e0:ns=[]:=List.length_eq_zero_iff.mp (by rw[<-li];rw[b6n] at n0;exact n0);rw[if_pos e0] at q;exact⟨.non,H,I.kept (h':=h') (t':=tk) (λb o eo=>hk b o (ne1 b o eo) (ne2 b o eo) (up b o eo)),rfl,q⟩
 ·have e0:ns≠[]:=λz=>by
   rw[z] at li;rw[b6n] at n0;simp at li;rw[li] at n0;simp at n0
  rw[if_neg e0] at q;obtain⟨t,rfl⟩:=b4T hI e0 hv;exact⟨.int _,H,I.kept (h':=h') (t':=tk) (λb o eo=>hk b o (ne1 b o eo) (ne2 b o eo) (up b o eo)),⟨t,rfl⟩,q⟩
def tMinD(t tk:TA):TE:=λσ H Q=>t σ H λvs H1=>tk σ H1 λzs H2=>rMinD vs zs H2 Q
theorem b4V{p pos kpos:Pos}{t tk:TA}(hc:X.calm=true)(hg:Gl X "min")(hm:X.mg "min"=none)(ha:PA X [e] t)(hk:PK X [⟨some "default",e2,kpos⟩] tk)(h1:backTo pos (starEach [e] X.env)=(false,eval e X.env)::backTo pos (starEach [] X.env):=by rfl)
  (h2:((backTo pos (starEach [e] X.env)).any (·.1))=false:=by rfl)(h3:(backToKw pos (keywordEach [⟨some "default",e2,kpos⟩] X.env)).all (·.1.isSome)=true:=by rfl)(h4:(backToKw pos (keywordEach [⟨some "default",e2,kpos⟩] X.env)).any (·.1.isNone)=false:=by rfl)(h5:(backToKw pos (keywordEach [⟨some "default",e2,kpos⟩] X.env)).filterMap (·.1)=[Str.ofString "default"]:=by rfl) :
  PE X (.Call (.Name "min" p) [e] [⟨some "default",e2,kpos⟩] pos) (tMinD t tk):=by
 intro pins s σ H Q I h;refine b8I (a2K I hg hm b_min' ?_);refine callWith_kw (thn (ha pos pins s σ H _ I h) λus s1 ⟨vs,H1,I1,r,q⟩=>?_) h1 h2 h3 h4;refine thn (hk pos pins s1 σ H1 _ I1 q) λws s2 ⟨zs,H2,I2,rz,q2⟩=>?_;rw[h5];exact b1P hc I2 r rz q2
theorem smallD(h1:-1<=a)(h2:a<1000000):Builtin.Range.small a (-1) (-1)=true/\Builtin.Range.rangeSize a (-1) (-1)=a+1:=by
 have z:Builtin.Range.rangeSize a (-1) (-1)=a+1:=by
  unfold Builtin.Range.rangeSize;rw[if_neg (by decide)];have e1:(a - -1-1) / - -1=a:=by
   rw[show(- -1:Int)=1 from rfl,Int.ediv_one];simp
  split
  ·rw[e1]
  ·lia
 refine⟨?_,z⟩;have f:∀i:Int,-2<=i->i<=1000000->Builtin.Range.rangeFitsLong i=true:=λi h3 h4=>by
  unfold Builtin.Range.rangeFitsLong;rw[b6Y,b7m,b7m]
  lia
 unfold Builtin.Range.small;rw[z,f a (by lia) (by lia),f (-1) (by simp) (by simp),f (a+1) (by lia) (by assumption),if_neg (by decide),f (-1+(-1+1)) (by simp) (by simp)];simp
def iRngD(ta:TA):TI:=λσ H R=>ta σ H λvs H1=>∃a:Int,vs=[.int a,.int (-1),.int (-1)]/\(-1<=a/\a<1000000)/\R (b5Y a (-1) (a+1).toNat) H1
theorem a3V{p pos:Pos}(hg:Gl X "range")(hm:X.mg "range"=none)(ha:PA X [a,b,c] ta)(hs:starEach [a,b,c] X.env=(false,eval a X.env)::starEach [b,c] X.env:=by rfl)(hs2:(backTo pos (starEach [b,c] X.env)).any (·.1)=false:=by rfl) :
  PI X tg (.Call (.Name "range" p) [a,b,c] [] pos) (iRngD ta):=by
 intro pins s σ H R I h;refine Call_ (a2K I hg hm boot_range (b7j (thn (ha pos pins s σ H _ I h) λus s1 ⟨vs,H1,I1,r1,q1⟩=>?_) hs hs2));obtain⟨i,e,⟨h1,h2⟩,q⟩:=q1;subst e;cases r1 with
 |cons r rr=>
  cases rr with
  |cons r' rr=>
   cases rr with
   |cons r'' rr=>
    cases rr;obtain⟨t,rfl⟩:=r;obtain⟨t',rfl⟩:=r';obtain⟨t'',rfl⟩:=r'';obtain⟨sm,z0⟩:=smallD h1 h2;refine call_range_3 (by decide) ?_ (.inl (b9z (by decide)));refine c0h (IsRange.new ..) sm ?_;have I2:Inv X pins σ H1 {s1 with heap:=s1.heap.push {cls:=.type "range",data:=.fields #[.int i t,.int (-1) t',.int (-1) t'']},toks:=s1.toks}:=I1.kept λb o e=>b6e _ e;refine⟨_,[_],_,_,H1,rfl,I2.kept (t':=s1.toks) λb o e=>b6e _ e,a3S _ i (-1) (i+1).toNat,?_,λb hb=>?_,q⟩
    ·have e1:i+((0:Nat):Int)*(-1)=i:=by simp
     have e2:((((i+1).toNat:Nat):Int))-((0:Nat):Int)=Builtin.Range.rangeSize i (-1) (-1):=by rw[z0];lia
     show IsRangeIter _ _ (i+((0:Nat):Int)*(-1)) ((((i+1).toNat:Nat):Int)-((0:Nat):Int)) (-1);rw[e1,e2];exact b6m _ rfl
    ·have e:=b6r.mp hb;subst e;exact I2.fpOk (b6k _) (I2.hok.fresh (b6k _))
section
variable {X:Cx}{pins:List (Addr×Obj)}{σ:St}{H:Hp}{s:Shared}
theorem Inv.tup0(I:Inv X pins σ H s)(e:H a=some (.tup xs)):xs.length<=sizeLine/\∃(its:List Value)(n:Nat),a0P xs its/\s.heap.get? a=some {cls:=.type "tuple",data:=.seq its.toArray n}:=by
 obtain⟨z,its,r,o,e1,n,rfl⟩:=(show a1s X.prog X.w H s.heap a (.tup xs) from I.hok a _ e)
 exact⟨z,its,n,r,e1⟩
end
def tBMT(r:V->List V->Hp->VK->Prop)(to:TE)(t:TA):TE:=λσ H Q=>to σ H λx H1=>(∃a xs,x=.ref a/\H1 a=some (.tup xs))/\t σ H1 λxs H2=>r x xs H2 Q
theorem a7v{X:Cx}{id:String}{name:Str}{o e:Expr}{es:List Expr}{apos cpos:Pos}{to:TE}{t:TA}{r:V->List V->Hp->VK->Prop}(slot:Slot "tuple" name id)(hty:typeOf (.builtin id)=pure (.type "method_descriptor"))(hm:MtR X id r)(ho:PE X o to)(ha:PA X (e::es) t)
  (hbase:attributeBase o name X.env (eval o X.env)=eval o X.env:=by rfl)
  (hfew:((backTo cpos (starEach (e::es) X.env)).all (λx=>!x.1)&&(backToKw cpos (keywordEach [] X.env)).all (λx=>x.1.isSome)&&decide ((e::es).length+([]:List Keyword).length+(if ([]:List Keyword).isEmpty then 0 else 1)<30))=true:=by rfl)
  (hline:(apos.endLine==cpos.line)=true:=by rfl)(hs:starEach (e::es) X.env=(false,eval e X.env)::starEach es X.env:=by rfl)(hplain:(backTo cpos (starEach es X.env)).any (·.1)=false:=by rfl) :
  PE X (.Call (.Attribute o name apos) (e::es) [] cpos) (tBMT r to t):=by
 intro pins s σ H Q I h;refine b9B hbase hfew hline rfl (thn (ho pins s σ H _ I h) λv s1 ⟨x,H1,I1,r1,ty,q1⟩=>?_);obtain⟨a,xs,rfl,ea⟩:=ty;cases r1;obtain⟨_,its,n,_,e1⟩:=I1.tup0 ea;refine⟨"tuple",id,PySem.F.plainAttrs_tuple,slot,hty,⟨_,e1,rfl⟩,λb eb=>?_,?_⟩
 ·cases eb;exact⟨_,e1,rfl⟩
 have hA:=ha cpos pins s1 σ H1 _ I1 q1;rw[hs] at hA ⊢;refine b8l (by show(false||(backTo cpos (starEach es X.env)).any (·.1))=false;rw[hplain]<;>rfl) (b9a ?_);exact thn hA λus s2 ⟨vs,H2,I2,r2,q2⟩=>hm pins s2 σ H2 (.ref a) vs _ us Q I2 rfl r2 q2
end L2
set_option exponentiation.threshold 2000
namespace K95C
open PySem L2
abbrev OI:=Option Int
def lo(xs:List OI):OI:=if xs.filterMap id=[] then none else some ((srt (xs.filterMap id)).headD 0)
def oadd:OI->OI->OI
 |some a,some b=>some (a+b)
 |_,_=>none
theorem a3W{xs:List OI}{k:Int}:k∈xs.filterMap id↔some k∈xs:=by
 rw[c0i];constructor
 ·rintro⟨a,h,e⟩;have e':a=some k:=e;rw[<-e'];exact h
 ·intro h;exact⟨some k,h,rfl⟩
theorem a9P(h:ns≠[]):(srt ns).headD 0∈ns/\∀x∈ns,(srt ns).headD 0<=x:=by
 have p:=a7u ns;have r:=a5X ns;cases e:srt ns with
 |nil=>
  rw[e] at p;exact absurd p.symm.eq_nil h
 |cons a t=>
  rw[e] at p r;refine⟨p.mem_iff.mp (.head _),λx hx=>?_⟩;show a<=x;rcases b6D.mp (p.symm.mem_iff.mp hx) with z|z
  ·rw[z];exact c0b _
  ·exact(List.pairwise_cons.mp r).1 x z
set_option tactic.hygienic true in
theorem a2G{xs:List OI}{m:Int}:lo xs=some m↔some m∈xs/\∀k,some k∈xs->m<=k:=by
 unfold lo;split
 ·rename_i h;constructor
  ·intro z;cases z
  ·rintro⟨z,_⟩;have:=a3W.mpr z;rw[h] at this;cases this
 ·rename_i h;obtain⟨h1,h2⟩:=a9P h;constructor
  ·intro z;cases z;exact⟨a3W.mp h1,λk hk=>h2 k (a3W.mpr hk)⟩
  ·rintro⟨z1,z2⟩;have a1:=h2 m (a3W.mpr z1);have a2:=z2 _ (a3W.mp h1);congr 1
   lia
set_option tactic.hygienic true in
theorem a3f{xs:List OI}:lo xs=none↔∀k,some k∉xs:=by
 unfold lo;split
 ·rename_i h;refine⟨λ_ k hk=>?_,λ_=>rfl⟩;have:=a3W.mpr hk;rw[h] at this;cases this
 ·rename_i h;refine⟨λz=>(by cases z),λz=>?_⟩;exact absurd (a3W.mp (a9P h).1) (z _)
theorem lo_eq(h1:∀m,some m∈xs->∃k,k<=m/\some k∈ys)(h2:∀m,some m∈ys->∃k,k<=m/\some k∈xs):lo xs=lo ys:=by
 cases e:lo ys with
 |none=>
  rw[a3f] at e ⊢;intro k hk;obtain⟨k',_,h⟩:=h1 k hk;exact e k' h
 |some m=>
  rw[a2G] at e ⊢;obtain⟨k,hk,hm⟩:=h2 m e.1;obtain⟨k',hk',hm'⟩:=h1 k hm;have:=e.2 k' hm';have ek:k=m:=by lia
  subst ek;refine⟨hm,λx hx=>?_⟩;obtain⟨y,hy,hy'⟩:=h1 x hx;have:=e.2 y hy'
  grind
theorem b1Q{k:Int}(h:some k∈xs):∃m,lo xs=some m/\m<=k:=by
 cases e:lo xs with
 |none=>exact absurd h (a3f.mp e k)
 |some m=>exact⟨m,rfl,(a2G.mp e).2 k h⟩
theorem a9Q(xs ys:List OI):lo (xs++ys)=lo [lo xs,lo ys]:=by
 refine lo_eq (λm hm=>?_) (λm hm=>?_)
 ·rcases b6G.mp hm with h|h
  ·obtain⟨k,e,hk⟩:=b1Q h;exact⟨k,hk,by rw[e];exact .head _⟩
  ·obtain⟨k,e,hk⟩:=b1Q h;exact⟨k,hk,by rw[e];exact .tail _ (.head _)⟩
 ·simp only[b6D,b7x,b9F] at hm;rcases hm with h|h
  ·exact⟨m,c0b _,b6G.mpr (.inl (a2G.mp h.symm).1)⟩
  ·exact⟨m,c0b _,b6G.mpr (.inr (a2G.mp h.symm).1)⟩
theorem b4W{α:Type}(xs:List α)(f:α->List OI):lo (xs.flatMap f)=lo (xs.map λx=>lo (f x)):=by
 refine lo_eq (λm hm=>?_) (λm hm=>?_)
 ·obtain⟨x,hx,h⟩:=b9f.mp hm;obtain⟨k,e,hk⟩:=b1Q h;exact⟨k,hk,b6x.mpr ⟨x,hx,e⟩⟩
 ·obtain⟨x,hx,h⟩:=b6x.mp hm;exact⟨m,c0b _,b9f.mpr ⟨x,hx,(a2G.mp h).1⟩⟩
theorem a9R(a:OI):oadd a (some 0)=a:=by
 cases a<;>first|rfl|(show some _=some _;rw[Int.add_zero])
theorem b3m:lo []=none:=a3f.mpr λk hk=>by cases hk
section
variable (p:Nat->Int)(W:Nat->Nat->Int)(F:Nat->Nat->OI)
structure Eqs(L:Nat)(h t:Nat->Nat->Nat->OI)(i j:Nat):Prop where
 eh:∀l,l<L->h l i j=oadd (some (p l*W i j)) (F i j)
 et:∀l,l<L->t l i j=lo [lo ((List.range (j-i)).map λb=>oadd (h l i (i+b+1)) (t (l+1) (i+b+1) j)),t (l+1) i j]
variable {p W F}{L n:Nat}{h t:Nat->Nat->Nat->OI}
def bnd(L:Nat)(h t:Nat->Nat->Nat->OI)(i j:Nat):OI:=if j-i=1 then some 0 else lo ((List.range L).map λl=>lo ((List.range (j-1-i)).map λb=>oadd (h l i (i+b+1)) (t (l+1) (i+b+1) j)))
end
end K95C
set_option exponentiation.threshold 2000
namespace K95C
open PySem L2
def top(i:Nat):Stmt:=PySem.Challenge.pw_lettertoll_k95_whole_desks_write_and_rea.main.body.getD i (.Pass ⟨0,0,0,0⟩)
def a7t(n:Nat):Stmt->Stmt
 |.ClassDef _ _ _ b ..=>b.getD n (.Pass ⟨0,0,0,0⟩)
 |s=>s
abbrev b4X:Stmt:=top 17
abbrev sRow:Stmt:=top 18
abbrev a5e:Stmt:=top 19
abbrev a7w:Stmt:=top 20
abbrev a9S:Stmt:=top 21
abbrev sPl:Stmt:=top 24
abbrev sNum:Stmt:=top 89
abbrev sWb:Stmt:=top 90
abbrev sTw:Stmt:=top 91
abbrev a5Y:Stmt:=top 37
abbrev a3X:Stmt:=a7t 0 (top 22)
abbrev sPut:Stmt:=a7t 1 (top 22)
abbrev sLs:Stmt:=a7t 2 (top 22)
abbrev a7x:Stmt:=a7t 3 (top 22)
abbrev a6H:Stmt:=a7t 6 (top 22)
abbrev a5f:Stmt:=a7t 0 (top 41)
abbrev b4Y:Stmt:=a7t 1 (top 41)
abbrev b1R:Stmt:=a7t 2 (top 41)
abbrev sBy:Stmt:=a7t 3 (top 41)
def oV:OI->V
 |none=>.non
 |some i=>.int i
variable {P:Program}{w:World}{K:PySem.W.Frag}{mg:Str->Option Value}{base:Heap}{f:Addr}{fd:FuncData}
def sums(ws:List Int)(k:Nat):List Int:=(List.range (k+1)).map λi=>(ws.take i).sum
def b3n:Sp:=λvs H Q _=>∃(q:Addr)(ws:List Int),vs=[.ref q]/\TW H q ws/\ws.length<=100/\∀(p:Addr) H',a0r H H'->H p=none->H' p=some (.lst ((sums ws ws.length).map V.int))->Q (.ref p) H'
theorem a9T:a0k ["weights","sums","weight"] ["weights"] (a0g b4X):=fsk
theorem a9U{ws:List Int}{k:Nat}:sums ws (k+1)=sums ws k++[(ws.take (k+1)).sum]:=by
 unfold sums;rw[b7t (n:=k+1),b6g];rfl
theorem a9V{ws:List Int}{k:Nat}:∃xs,sums ws k=xs++[(ws.take k).sum]:=by
 unfold sums;rw[b7t,b6g];exact⟨_,rfl⟩
theorem b1S{ws:List Int}{k:Nat}:(sums ws k).length=k+1:=by unfold sums;rw[b6b,b6C]
theorem b4Z(F:Fun K "weight_sums" "weight_sums" b4X f fd):a0I P w K mg base CX0 1 f fd ["weights"] b3n:=by
 refine F.ok (k:=0) a9T (λvs H Q E h=>?_) (λcdv A outer s H vs Q E hr h=>?_)
 ·obtain⟨q,ws,rfl,_⟩:=h;rfl
 obtain⟨q,ws,rfl,hq,l1,qq⟩:=h;refine⟨_,a0c (psA (i:=1) a9T (a1p (a0a a0h a0d)))
  (a0c (a1d b6K rfl (a6W (pv 0)) (pgA (i:=2) a9T)
   (a0f (a0J (a1N b6E b6S b6T a1b (pv 1) (a0a (a0q a0K (pxA a0m (pv 1) (a3m a2f a0h)) (pv 2)) a0d)))))
  (a0f (a0o (pv 1)))),?_⟩
 refine⟨(by show 1<=sizeLine;decide),λl hl=>?_⟩;have s1:=a0e hl (.lst [.int 0]);have g1:upd H l (.lst [.int 0]) l=some (.lst ((sums ws 0).map V.int)):=a0b;generalize upd H l (.lst [.int 0])=H1 at s1 g1 ⊢;refine⟨_,rfl,q,rfl,⟨_,SqT.of (s1 _ _ hq)⟩,?_⟩;refine a4J (xs:=ws.map V.int) (λi σ H'=>a0r H H'/\H' l=some (.lst ((sums ws i).map V.int))/\∃x2:Option V,σ=[some (.ref q),some (.ref l),x2]) ⟨s1,g1,_,rfl⟩ (λi σ H' _ hP=>SqT.of (hP.1 _ _ hq)) (λi x σ H2 hx hP=>?_) (λσ H2 hP=>?_)
 ·obtain⟨s2,g2,x2,rfl⟩:=hP;have il:=(b6d.mp hx).1;rw[b6b] at il;rw[b6p] at hx;obtain⟨z,hz,rfl⟩:=b6A.mp hx;obtain⟨xs,ex⟩:=a9V (ws:=ws) (k:=i);refine⟨_,rfl,.inl ⟨rfl,_,SqL.of g2⟩,_,rfl,_,rfl,l,_,_,_,rfl,rfl,SqL.of g2,(by rw[ex,b6g];exact b1e _ _),_,rfl,_,_,rfl,rfl,l,_,_,rfl,rfl,g2,a0j (by rw[b6b,b1S];lia),a0l hl s2,?_,_,rfl⟩;rw[a0b,a9U,b6g,b6s,hz];simp
 ·obtain⟨s2,g2,x2,rfl⟩:=hP;rw[b6b] at g2;exact⟨_,rfl,qq l H2 s2 hl g2⟩
def b3o(s i:Nat)(o:OI):List V:=(List.range s).map λj=>oV (if j=i then o else none)
theorem b5a{s i:Nat}{o:OI}:(List.replicate s V.non).set i (oV o)=b3o s i o:=by
 refine b8W λj=>?_;unfold b3o;rw[b6p];by_cases hj:j<s
 ·rw[b7I hj];by_cases e:i=j
  ·subst e;rw[b8H (by rw[b7o];exact hj)];simp
  ·rw[b8Z e,b8F,if_pos hj];show some V.non=some (oV (if j=i then o else none));rw[if_neg (λz=>e z.symm)];rfl
 ·rw[b8a (by rw[b8z,b7o];lia),b8a (by rw[b6C];omega)];rfl
theorem b1T(n:Nat):(List.replicate n [V.non]).flatten=List.replicate n V.non:=by
 induction n with
 |zero=>rfl
 |succ n ih=>rw[b7U,b8A,ih,b7U];rfl
def spRow:Sp:=λvs H Q _=>∃(s i:Nat)(o:OI),vs=[.int (s:Int),.int (i:Int),oV o]/\i<s/\s<=100/\∀(p:Addr) H',a0r H H'->H p=none->H' p=some (.lst (b3o s i o))->Q (.ref p) H'
theorem scRow:a0k ["side","at","number","row"] ["side","at","number"] (a0g sRow):=fsk
theorem a3Y{n j:Nat}(h:j<n):ixN n (j:Int)=some j:=by
 unfold ixN;rw[if_pos (by simp),if_pos (by lia)];rfl
theorem ok_row(F:Fun K "row_with" "row_with" sRow f fd):a0I P w K mg base CX0 1 f fd ["side","at","number"] spRow:=by
 refine F.ok (k:=0) scRow (λvs H Q E h=>?_) (λcdv A outer s H vs Q E hr h=>?_)
 ·obtain⟨s,i,o,rfl,_⟩:=h;rfl
 obtain⟨n,i,o,rfl,hi,hn,qq⟩:=h;refine⟨_,a0c (psA (i:=3) scRow (a0q op_rep (a1p (a0a a2J a0d)) (pv 0)))
  (a0c (a2L (pv 2) (a3w (pv 3) (pv 1) a2b))
  (a0f (a0o (pv 3)))),?_⟩
 refine⟨(by show 1<=sizeLine;decide),λl hl=>?_⟩;have s1:=a0e hl (.lst [.non]);have g1:upd H l (.lst [.non]) l=some (.lst [.non]):=a0b;generalize upd H l (.lst [.non])=H1 at s1 g1 ⊢;refine⟨_,rfl,l,(n:Int),_,rfl,rfl,g1,by simp,by lia,by show 1*_<=_;exact b6y (a0j (by lia)),λp hp=>?_⟩;rw[b1T,b6Q];have s2:=a0e hp (.lst (List.replicate n V.non));have g2:upd H1 p (.lst (List.replicate n V.non)) p=some (.lst (List.replicate n V.non)):=a0b;generalize upd H1 p (.lst (List.replicate n V.non))=H2 at s2 g2 ⊢;have hpn:=s1.free hp;refine⟨_,rfl,_,rfl,_,rfl,p,_,_,i,rfl,rfl,g2,(by rw[b7o];exact a3Y hi),?_⟩;rw[b5a];exact⟨_,rfl,qq p _ (a0l hpn (s1.trans s2)) hpn a0b⟩
def ext{α:Type}(ca:Nat->α)(i:Nat)(p:α):Nat->α:=λk=>if k=i then p else ca k
theorem a0R{α:Type}{ca:Nat->α}{i k:Nat}{p:α}(h:k=i):ext ca i p k=p:=if_pos h
theorem a1r{α:Type}{ca:Nat->α}{i k:Nat}{p:α}(h:¬k=i):ext ca i p k=ca k:=if_neg h
def a5g:Sp:=λvs H Q _=>∃(s:Nat)(o:OI),vs=[.int (s:Int),oV o]/\s<=100/\∀(b:Addr)(ca:Nat->Addr) H',a0r H H'->H b=none->(∀i,i<s->H (ca i)=none)->(∀i j,i<s->j<s->ca i=ca j->i=j)->(∀i,i<s->ca i≠b) ->
 H' b=some (.lst ((List.range s).map λi=>.ref (ca i)))->(∀i,i<s->H' (ca i)=some (.lst (b3o s i o)))->Q (.ref b) H'
theorem b1U:a0k ["side","diagonal"] ["side","diagonal"] (a0g a5e):=fsk
theorem ndSq:(("at":Str)::["side","diagonal"]).Nodup:=by decide +kernel
theorem a9W(F:Fun K "square" "square" a5e f fd)(GR:Fns P w K mg base ["side","at","number"] "row_with" spRow 1)(mr:mg "range"=none):a0I P w K mg base CX0 2 f fd ["side","diagonal"] a5g:=by
 refine F.ok (k:=1) b1U (λvs H Q E h=>?_) (λcdv A outer s H vs Q E hr h=>?_)
 ·obtain⟨s,o,rfl,_⟩:=h;rfl
 obtain⟨n,o,rfl,hn,qq⟩:=h;refine⟨_,a0f (a0o (a1O (M:=["side","diagonal"]) rfl (cso (a0g a5e) ["side","diagonal"]) ndSq rfl (by rfl) mr (a0a (pv 0) a0d) (a1k a0E a1W)
   (λcl C s0 H0 fp=>⟨a0v,pcF GR hr (a0a (pv 1) (a0a (pv 0) (a0a (pv 2) a0d)))⟩))),?_⟩
 refine⟨_,rfl,(n:Int),rfl,by simp,by lia,λd hd=>?_⟩;refine⟨λi H'=>a0r H H'/\∃ca:Nat->Addr,(∀k,k<i->H (ca k)=none)/\(∀j k,j<i->k<i->ca j=ca k->j=k)/\(∀k,k<i->ca k≠d)/\H' d=some (.lst ((List.range i).map λk=>.ref (ca k)))/\∀k,k<i->H' (ca k)=some (.lst (b3o n k o)),⟨a0e hd _,λ_=>d,λk hk=>absurd hk (b7b _),λj k hj=>absurd hj (b7b _),λk hk=>absurd hk (b7b _),a0b,λk hk=>absurd hk (b7b _)⟩,λi H1 hi hP=>?_,λH1 hP=>?_⟩
 ·obtain⟨s1,ca,c1,c2,c3,c4,c5⟩:=hP;have i':i<n:=by assumption
  rw[show(0:Int)+(i:Int)=(i:Int) from Int.zero_add _];refine a0u ⟨_,rfl,_,rfl,_,rfl,n,i,o,rfl,i',hn,λp H2 s2 hp2 g2=>?_⟩;have pd:p≠d:=λz=>by rw[z,c4] at hp2;cases hp2
  have pk:∀k,k<i->ca k≠p:=λk hk z=>by rw[<-z,c5 k hk] at hp2;cases hp2
  refine⟨_,s2 _ _ c4,?_,a0l hd (s1.trans s2),ext ca i p,λk hk=>?_,λj k hj hk e=>?_,λk hk=>?_,?_,λk hk=>?_⟩
  ·rw[b6b,b6C];exact a0j (by lia)
  ·by_cases z:k=i
   ·rw[a0R z];exact s1.free hp2
   ·rw[a1r z];exact c1 k (by lia)
  ·by_cases z1:j=i<;>by_cases z2:k=i
   ·lia
   ·rw[a0R z1,a1r z2] at e;exact absurd e.symm (pk k (by lia))
   ·rw[a1r z1,a0R z2] at e;exact absurd e (pk j (by lia))
   ·rw[a1r z1,a1r z2] at e;exact c2 j k (by lia) (by lia) e
  ·by_cases z:k=i
   ·rw[a0R z];exact pd
   ·rw[a1r z];exact c3 k (by omega)
  ·rw[a0b,b7t,b6g];refine b7d (λz=>some (HO.lst z)) ?_;congr 1
   ·refine b6J λk hk=>?_;rw[a1r (by have:=b6V.mp hk;lia)]
   ·show[V.ref p]=[V.ref (ext ca i p i)]
    rw[a0R rfl]
  ·by_cases z:k=i
   ·rw[a0R z,a0i pd,z];exact g2
   ·rw[a1r z,a0i (c3 k (by omega))];exact s2 _ _ (c5 k (by omega))
 ·obtain⟨s1,ca,c1,c2,c3,c4,c5⟩:=hP;rw[b6Q] at c1 c2 c3 c4 c5;exact qq d ca H1 s1 hd c1 c2 c3 c4 c5
def a5h:Sp:=λvs H Q _=>∃(a:Addr)(xs:List OI),vs=[.ref a]/\H a=some (.lst (xs.map oV))/\xs.length<=100/\∀H',a0r H H'->Q (oV (lo xs)) H'
theorem b5b:a0k ["numbers"] ["numbers"] (a0g a7w):=fsk
theorem ndLe:(("number":Str)::["numbers"]).Nodup:=by decide +kernel
set_option tactic.hygienic true in
theorem b1V(F:Fun K "least" "least" a7w f fd)(mn:mg "min"=none):a0I P w K mg base CX0 1 f fd ["numbers"] a5h:=by
 refine F.ok (k:=0) b5b (λvs H Q E h=>?_) (λcdv A outer s H vs Q E hr h=>?_)
 ·obtain⟨a,xs,rfl,_⟩:=h;rfl
 obtain⟨a,xs,rfl,ha,l1,qq⟩:=h;refine⟨_,a0f (a0o (b4V rfl (by rfl) mn (a0a (a0Y (M:=["numbers"]) rfl (cso (a0g a7w) ["numbers"]) ndLe rfl (pv 0) a0E
   (λcl C s0 H0 fp=>⟨a6y (a4p (a8x (pv 0))),pv 0⟩)) a0d) (b3Y a2J pk_nil))),?_⟩
 refine⟨_,rfl,a,_,rfl,SqL.of ha,λd hd=>?_⟩;refine⟨λi H'=>a0r H H'/\H' d=some (.lst (((xs.take i).filterMap id).map V.int)),⟨a0e hd _,a0b⟩,λi H' _ hP=>SqL.of (hP.1 _ _ ha),λi x H' hx hP=>?_,λH' hP=>?_⟩
 ·obtain⟨s5,hd'⟩:=hP;have il:=(b6d.mp hx).1;rw[b6b] at il;rw[b6p] at hx;obtain⟨z,hz,rfl⟩:=b6A.mp hx;have et:(xs.take (i+1)).filterMap id=(xs.take i).filterMap id++[z].filterMap id:=by rw[b6s,hz,List.filterMap_append];rfl
  refine⟨_,rfl,_,rfl,?_⟩;cases z with
  |none=>exact⟨s5,by rw[et];simpa using hd'⟩
  |some v=>
   refine⟨_,rfl,_,hd',?_,a0l hd s5,?_⟩
   ·rw[b6b];have:=List.length_filterMap_le id (xs.take i);rw[b6l] at this;exact a0j (by lia)
   ·rw[a0b,et,b6g];rfl
 ·obtain⟨s5,hd'⟩:=hP;rw[b6b,b6v] at hd';refine⟨d,_,rfl,rfl,hd',?_⟩;have:=qq H' s5;unfold lo at this;split
  ·rename_i h;rw[if_pos h] at this;exact this
  ·rename_i h;rw[if_neg h] at this;exact this
def a5i:Sp:=λvs H Q _=>∃a b:OI,vs=[oV a,oV b]/\Q (oV (oadd a b)) H
theorem b5c:a0k ["one","other"] ["one","other"] (a0g a9S):=fsk
theorem b1W(F:Fun K "added" "added" a9S f fd):a0I P w K mg base CX0 1 f fd ["one","other"] a5i:=by
 refine F.ok (k:=0) b5c (λvs H Q E h=>?_) (λcdv A outer s H vs Q E hr h=>?_)
 ·obtain⟨a,b,rfl,_⟩:=h;rfl
 obtain⟨a,b,rfl,q⟩:=h;refine⟨_,a0c (a0z (PW.pt (a4g (a4p (a8w (pv 0))) (a2w (a4p (a8w (pv 1)))))) (a0f (a0o a2J)) a0n) (a0f (a0o (a0q a0K (pv 0) (pv 1)))),?_⟩;refine⟨_,rfl,_,rfl,?_⟩;cases a with
 |none=>exact q
 |some i=>
  refine a1q ?_;refine⟨_,rfl,_,rfl,?_⟩;cases b with
  |none=>exact q
  |some j=>exact a1q ⟨_,rfl,_,rfl,_,_,rfl,rfl,q⟩
end K95C
set_option exponentiation.threshold 2000
namespace K95C
open PySem L2
structure Tb(H:Hp)(a:Addr)(ba:Nat->Addr)(ca:Nat->Nat->Addr)(L s:Nat)(T:Nat->Nat->Nat->OI):Prop where
 o:H a=some (.lst ((List.range L).map λl=>.ref (ba l)))
 b:∀l,l<L->H (ba l)=some (.lst ((List.range s).map λi=>.ref (ca l i)))
 c:∀l i,l<L->i<s->H (ca l i)=some (.lst ((List.range s).map λj=>oV (T l i j)))
theorem Tb.same{L s:Nat}(h:Tb H a ba ca L s T)(k:a0r H H'):Tb H' a ba ca L s T:=⟨k _ _ h.o,λl hl=>k _ _ (h.b l hl),λl i hl hi=>k _ _ (h.c l i hl hi)⟩
structure Ad where
 su:Addr
 th:Addr
 tt:Addr
 bh:Nat->Addr
 ch:Nat->Nat->Addr
 bt:Nat->Addr
 ct:Nat->Nat->Addr
def Z(X:Ad)(L s:Nat)(a:Addr):Prop:=(∃l i,l<L/\i<s/\a=X.ch l i)\/∃l i,l<L+1/\i<s/\a=X.ct l i
abbrev pf(p:Addr)(n:Int)(X:Ad):List (Str×V):=[("prices",.ref p),("things",.int n),("sums",.ref X.su),("heads",.ref X.th),("tails",.ref X.tt)]
structure PAt(C:Addr)(H:Hp)(r p:Addr)(ps ws:List Int)(X:Ad)(h t:Nat->Nat->Nat->OI):Prop where
 ob:∃dx,H r=some (.ins C dx (pf p (ws.length:Int) X))
 hp:TW H p ps
 su:H X.su=some (.lst ((sums ws ws.length).map V.int))
 hd:Tb H X.th X.bh X.ch ps.length (ws.length+1) h
 tl:Tb H X.tt X.bt X.ct (ps.length+1) (ws.length+1) t
 ih:∀l i l' i',l<ps.length->l'<ps.length->i<ws.length+1->i'<ws.length+1->X.ch l i=X.ch l' i'->l=l'/\i=i'
 it:∀l i l' i',l<ps.length+1->l'<ps.length+1->i<ws.length+1->i'<ws.length+1->X.ct l i=X.ct l' i'->l=l'/\i=i'
 ix:∀l i l' i',l<ps.length->l'<ps.length+1->i<ws.length+1->i'<ws.length+1->X.ch l i≠X.ct l' i'
 ns:¬Z X ps.length (ws.length+1) X.su
theorem PAt.same{h t:Nat->Nat->Nat->OI}(a:PAt C H r p ps ws X h t)(k:a0r H H'):PAt C H' r p ps ws X h t:=by
 obtain⟨dx,ho⟩:=a.ob;exact⟨⟨dx,k _ _ ho⟩,k _ _ a.hp,k _ _ a.su,a.hd.same k,a.tl.same k,a.ih,a.it,a.ix,a.ns⟩
structure PC(K:PySem.W.Frag)(C:Addr):Prop where
 c:Cls K C
 np:a1a K C "prices"
 nn:a1a K C "things"
 ns:a1a K C "sums"
 nh:a1a K C "heads"
 nt:a1a K C "tails"
abbrev pf1(p:Addr):List (Str×V):=[("prices",.ref p)]
abbrev pf2(p:Addr)(n:Int):List (Str×V):=[("prices",.ref p),("things",.int n)]
abbrev pf3(p:Addr)(n:Int)(su:Addr):List (Str×V):=[("prices",.ref p),("things",.int n),("sums",.ref su)]
abbrev pf4(p:Addr)(n:Int)(su th:Addr):List (Str×V):=[("prices",.ref p),("things",.int n),("sums",.ref su),("heads",.ref th)]
structure a9X(H0 H':Hp)(s:Nat)(o:OI)(i:Nat)(ba:Nat->Addr)(ca:Nat->Nat->Addr)(d:Addr):Prop where
 same:a0r H0 H'
 fb:∀l,l<i->H0 (ba l)=none
 fc:∀l k,l<i->k<s->H0 (ca l k)=none
 inj:∀l k l' k',l<i->l'<i->k<s->k'<s->ca l k=ca l' k'->l=l'/\k=k'
 nb:∀l,l<i->ba l≠d
 nc:∀l k,l<i->k<s->ca l k≠d
 lo_:H' d=some (.lst ((List.range i).map λl=>.ref (ba l)))
 lb:∀l,l<i->H' (ba l)=some (.lst ((List.range s).map λk=>.ref (ca l k)))
 lc:∀l k,l<i->k<s->H' (ca l k)=some (.lst (b3o s k o))
theorem a9X.start{s:Nat}(hd:H0 d=none):a9X H0 (upd H0 d (.lst [])) s o 0 (λ_=>d) (λ_ _=>d) d:=
 ⟨a0e hd _,λl hl=>absurd hl (b7b _),λl k hl=>absurd hl (b7b _),λl k l' k' hl=>absurd hl (b7b _),λl hl=>absurd hl (b7b _),λl k hl=>absurd hl (b7b _),a0b,λl hl=>absurd hl (b7b _),λl k hl=>absurd hl (b7b _)⟩
theorem a9X.step{s:Nat}(hd:H0 d=none)(g:a9X H0 H1 s o i ba ca d)(k:a0r H1 H2)(fb:H1 b=none)(fc:∀k,k<s->H1 (c' k)=none)(ij:∀j k,j<s->k<s->c' j=c' k->j=k)(hb:H2 b=some (.lst ((List.range s).map λk=>.ref (c' k))))(hc:∀k,k<s->H2 (c' k)=some (.lst (b3o s k o))) :
  a9X H0 (upd H2 d (.lst (((List.range i).map λl=>V.ref (ba l))++[.ref b]))) s o (i+1) (ext ba i b) (ext ca i c') d:=by
 have bd:b≠d:=λz=>by rw[z,g.lo_] at fb;cases fb
 have cd:∀k,k<s->c' k≠d:=λk hk z=>by
  have:=fc k hk;rw[z,g.lo_] at this;cases this
 have cc:∀l k k',l<i->k<s->k'<s->ca l k≠c' k':=λl k k' hl hk hk' z=>by
  have:=fc k' hk';rw[<-z,g.lc l k hl hk] at this;cases this
 refine⟨a0l hd (g.same.trans k),λl hl=>?_,λl m hl hm=>?_,λl m l' m' hl hl' hm hm' e=>?_,λl hl=>?_,λl m hl hm=>?_,?_,λl hl=>?_,λl m hl hm=>?_⟩
 ·by_cases z:l=i
  ·rw[a0R z];exact g.same.free fb
  ·rw[a1r z];exact g.fb l (by lia)
 ·by_cases z:l=i
  ·rw[a0R z];exact g.same.free (fc m hm)
  ·rw[a1r z];exact g.fc l m (by lia) hm
 ·by_cases z1:l=i<;>by_cases z2:l'=i
  ·rw[a0R z1,a0R z2] at e;exact⟨by lia,ij m m' hm hm' e⟩
  ·rw[a0R z1,a1r z2] at e;exact absurd e.symm (cc l' m' m (by lia) hm' hm)
  ·rw[a1r z1,a0R z2] at e;exact absurd e (cc l m m' (by lia) hm hm')
  ·rw[a1r z1,a1r z2] at e;exact g.inj l m l' m' (by lia) (by lia) hm hm' e
 ·by_cases z:l=i
  ·rw[a0R z];exact bd
  ·rw[a1r z];exact g.nb l (by omega)
 ·by_cases z:l=i
  ·rw[a0R z];exact cd m hm
  ·rw[a1r z];exact g.nc l m (by omega) hm
 ·rw[a0b,b7t,b6g];refine b7d (λz=>some (HO.lst z)) ?_;congr 1
  ·refine b6J λl hl=>?_;rw[a1r (by have:=b6V.mp hl;lia)]
  ·show[V.ref b]=[V.ref (ext ba i b i)]
   rw[a0R rfl]
 ·by_cases z:l=i
  ·rw[a0R z,a0R z,a0i bd];exact hb
  ·rw[a1r z,a1r z,a0i (g.nb l (by omega))];exact k _ _ (g.lb l (by omega))
 ·by_cases z:l=i
  ·rw[a0R z,a0i (cd m hm)];exact hc m hm
  ·rw[a1r z,a0i (g.nc l m (by omega) hm)];exact k _ _ (g.lc l m (by omega) hm)
def a5j(r:Addr)(H H':Hp):Prop:=∀a o,a≠r->H a=some o->H' a=some o
abbrev NI:List Str:=["self","prices","weights","side"]
abbrev h0:Nat->Nat->Nat->OI:=λ_ a b=>if b=a then none else none
abbrev t0:Nat->Nat->Nat->OI:=λ_ a b=>if b=a then some 0 else none
def a9Y(C:Addr):Sp:=λvs H Q _=>∃(r dx p q:Addr)(ps ws:List Int),vs=[.ref r,.ref p,.ref q]/\H r=some (.ins C dx [])/\TW H p ps/\TW H q ws/\1<=ps.length/\ps.length<=10/\ws.length<=24 /\
 ∀H' X,a5j r H H'->PAt C H' r p ps ws X h0 t0->(∀a,Z X ps.length (ws.length+1) a->H a=none)->Q .non H'
theorem a9Z:a0k NI ["self","prices","weights"] (a0g a3X):=fsk
theorem ndI1:(("price":Str)::NI).Nodup:=by decide +kernel
theorem ndI2:(("letter":Str)::NI).Nodup:=by decide +kernel
theorem b1X(F:Fun K "__init__" "Parted.__init__" a3X f fd)(GS:Fns P w K mg base ["weights"] "weight_sums" b3n 2)(GQ:Fns P w K mg base ["side","diagonal"] "square" a5g 2)(rc:PC K C)(ml:mg "len"=none)(mr:mg "range"=none):a0I P w K mg base CX0 3 f fd ["self","prices","weights"] (a9Y C):=by
 refine F.ok (k:=2) a9Z (λvs H Q E h=>?_) (λcdv A outer s H vs Q E hr h=>?_)
 ·obtain⟨r,dx,p,q,ps,ws,rfl,_⟩:=h;rfl
 obtain⟨r,dx,p,q,ps,ws,rfl,hr0,hp,hq,p1,p10,w20,qq⟩:=h;refine⟨_,a0c (a1e (pv 0) (pv 1) rfl)
  (a0c (a1e (pv 0) (pln ml (pv 2)) rfl)
  (a0c (a1e (pv 0) (pcF GS hr (a0a (pv 2) a0d)) rfl)
  (a0c (psA (i:=3) a9Z (a0q a0K (a0s (pv 0) rfl) a0h))
  (a0c (a1e (pv 0) (a3o (M:=NI) rfl (cso (a0g a3X) NI) ndI1 rfl (pv 1) a0E
   (λcl C s0 H0 fp=>⟨a0v,pcF GQ hr (a0a (pv 4) (a0a a2J a0d))⟩)) rfl)
  (a0f (a1e (pv 0) (a1O (M:=NI) rfl (cso (a0g a3X) NI) ndI2 rfl (by rfl) mr (a0a (a0q a0K (pln ml (pv 1)) a0h) a0d) (a1k (b1j a7d (b2S (a1k a0E a1W)) mo_c) a1W)
   (λcl C s0 H0 fp=>⟨a0v,pcF GQ hr (a0a (pv 4) (a0a a0h a0d))⟩)) rfl)))))),?_⟩
 have pr:p≠r:=a0B hp hr0 (by intro z;cases z);have qr:q≠r:=a0B hq hr0 (by intro z;cases z);refine⟨_,rfl,_,rfl,r,C,dx,_,rfl,hr0,rc.c,rc.np,(by show 0<1000;decide),?_⟩;rw[show a1t "prices" (V.ref p) []=(pf1 p) from rfl];have g1:upd H r (.ins C dx (pf1 p)) r=some (.ins C dx (pf1 p)):=a0b;have k1:a5j r H (upd H r (.ins C dx (pf1 p))):=λa o ha e=>by rw[a0i ha];exact e
 have f1:∀a,upd H r (.ins C dx (pf1 p)) a=none->H a=none:=λa e=>by
  by_cases z:a=r
  ·subst z;rw[a0b] at e;cases e
  ·rw[a0i z] at e;exact e
 generalize upd H r (.ins C dx (pf1 p))=H1 at g1 k1 f1 ⊢;refine⟨_,rfl,q,_,rfl,.inr (SqT.of (k1 _ _ qr hq)),_,rfl,r,C,dx,_,rfl,g1,rc.c,rc.nn,(by show 1<1000;decide),?_⟩;rw[b6b,show a1t "things" (V.int (ws.length:Int)) (pf1 p)=(pf2 p (ws.length:Int)) from rfl];have g2:upd H1 r (.ins C dx (pf2 p (ws.length:Int))) r=some (.ins C dx (pf2 p (ws.length:Int))):=a0b;have k2:a5j r H (upd H1 r (.ins C dx (pf2 p (ws.length:Int)))):=λa o ha e=>by rw[a0i ha];exact k1 a o ha e
 have f2:∀a,upd H1 r (.ins C dx (pf2 p (ws.length:Int))) a=none->H a=none:=λa e=>by
  by_cases z:a=r
  ·subst z;rw[a0b] at e;cases e
  ·rw[a0i z] at e;exact f1 a e
 generalize upd H1 r (.ins C dx (pf2 p (ws.length:Int)))=H2 at g2 k2 f2 ⊢;refine⟨_,rfl,q,ws,rfl,k2 _ _ qr hq,by lia,λsu H3 s3 hn3 hs3=>?_⟩;have g3:=s3 _ _ g2;refine⟨_,rfl,r,C,dx,_,rfl,g3,rc.c,rc.ns,(by show 2<1000;decide),?_⟩;have sr:su≠r:=a0B hs3 g3 (by intro z;cases z);rw[show a1t "sums" (V.ref su) (pf2 p (ws.length:Int))=(pf3 p (ws.length:Int) su) from rfl];have g4:upd H3 r (.ins C dx (pf3 p (ws.length:Int) su)) r=some (.ins C dx (pf3 p (ws.length:Int) su)):=a0b;have k4:a5j r H (upd H3 r (.ins C dx (pf3 p (ws.length:Int) su))):=λa o ha e=>by rw[a0i ha];exact s3 _ _ (k2 a o ha e)
 have f4:∀a,upd H3 r (.ins C dx (pf3 p (ws.length:Int) su)) a=none->H a=none:=λa e=>by
  by_cases z:a=r
  ·subst z;rw[a0b] at e;cases e
  ·rw[a0i z] at e;exact f2 a (s3.free e)
 have hs4:upd H3 r (.ins C dx (pf3 p (ws.length:Int) su)) su=some (.lst ((sums ws ws.length).map V.int)):=by rw[a0i sr];exact hs3
 generalize upd H3 r (.ins C dx (pf3 p (ws.length:Int) su))=H4 at g4 k4 f4 hs4 ⊢;refine⟨_,rfl,r,C,dx,_,_,rfl,g4,rc.c,rc.nn,rfl,_,_,rfl,rfl,?_⟩;have hp4:TW H4 p ps:=k4 _ _ pr hp;refine⟨_,rfl,p,_,rfl,SqT.of hp4,λth hth=>?_⟩;refine⟨λi H'=>∃ba ca,a9X H4 H' (ws.length+1) none i ba ca th,⟨_,_,a9X.start hth⟩,λi H' _ hP=>(by obtain⟨ba,ca,g⟩:=hP;exact SqT.of (g.same _ _ hp4)),λi x H' hx hP=>?_,λH5 hP=>?_⟩
 ·obtain⟨ba,ca,g⟩:=hP;have il:=(b6d.mp hx).1;rw[b6b] at il;refine a0u ⟨_,rfl,ws.length+1,none,rfl,by lia,λb c' H6 s6 fb fc ij cb hb hc=>⟨_,s6 _ _ g.lo_,?_,_,_,g.step hth s6 fb fc ij hb hc⟩⟩;rw[b6b,b6C];exact a0j (by lia)
 obtain⟨bh,ch,gh⟩:=hP;rw[b6b] at gh;have g5:=gh.same _ _ g4;refine⟨_,rfl,r,C,dx,_,rfl,g5,rc.c,rc.nh,(by show 3<1000;decide),?_⟩;rw[show a1t "heads" (V.ref th) (pf3 p (ws.length:Int) su)=(pf4 p (ws.length:Int) su th) from rfl];have rh1:th≠r:=a0B gh.lo_ g5 (by intro z;cases z);have rh2:∀l,l<ps.length->bh l≠r:=λl hl=>a0B (gh.lb l hl) g5 (by intro z;cases z);have rh3:∀l k,l<ps.length->k<ws.length+1->ch l k≠r:=λl k hl hk=>a0B (gh.lc l k hl hk) g5 (by intro z;cases z);have tb6:Tb (upd H5 r (.ins C dx (pf4 p (ws.length:Int) su th))) th bh ch ps.length (ws.length+1) h0:=⟨by rw[a0i rh1];exact gh.lo_,λl hl=>by rw[a0i (rh2 l hl)];exact gh.lb l hl,λl k hl hk=>by rw[a0i (rh3 l k hl hk)];exact gh.lc l k hl hk⟩
 have g6:upd H5 r (.ins C dx (pf4 p (ws.length:Int) su th)) r=some (.ins C dx (pf4 p (ws.length:Int) su th)):=a0b;have k46:a5j r H4 (upd H5 r (.ins C dx (pf4 p (ws.length:Int) su th))):=λa o ha e=>by rw[a0i ha];exact gh.same _ _ e
 have f6:∀a,upd H5 r (.ins C dx (pf4 p (ws.length:Int) su th)) a=none->H4 a=none:=λa e=>by
  by_cases z:a=r
  ·subst z;rw[a0b] at e;cases e
  ·rw[a0i z] at e;exact gh.same.free e
 generalize upd H5 r (.ins C dx (pf4 p (ws.length:Int) su th))=H6 at tb6 g6 k46 f6 ⊢;have hp6:TW H6 p ps:=k46 _ _ pr hp4;have hs6:=k46 _ _ sr hs4;refine⟨_,rfl,p,_,rfl,.inr (SqT.of hp6),_,_,rfl,rfl,_,rfl,by rw[b6b];lia,by rw[b6b];lia,λtt htt=>?_⟩;have en:((((ps.map V.int).length:Nat):Int)+1).toNat=ps.length+1:=by rw[b6b];simp
 rw[en];refine⟨λi H'=>∃ba ca,a9X H6 H' (ws.length+1) (some 0) i ba ca tt,⟨_,_,a9X.start htt⟩,λi H' hi hP=>?_,λH7 hP=>?_⟩
 ·obtain⟨ba,ca,g⟩:=hP;refine a0u ⟨_,rfl,ws.length+1,some 0,rfl,by omega,λb c' H8 s8 fb fc ij cb hb hc=>⟨_,s8 _ _ g.lo_,?_,_,_,g.step htt s8 fb fc ij hb hc⟩⟩;rw[b6b,b6C];exact a0j (by lia)
 obtain⟨bt,ct,gt⟩:=hP;have g7:=gt.same _ _ g6;refine⟨_,rfl,r,C,dx,_,rfl,g7,rc.c,rc.nt,(by show 4<1000;decide),?_⟩;rw[show a1t "tails" (V.ref tt) (pf4 p (ws.length:Int) su th)=pf p (ws.length:Int) ⟨su,th,tt,bh,ch,bt,ct⟩ from rfl];have rt1:tt≠r:=a0B gt.lo_ g7 (by intro z;cases z);have rt2:∀l,l<ps.length+1->bt l≠r:=λl hl=>a0B (gt.lb l hl) g7 (by intro z;cases z);have rt3:∀l k,l<ps.length+1->k<ws.length+1->ct l k≠r:=λl k hl hk=>a0B (gt.lc l k hl hk) g7 (by intro z;cases z);have k68:a5j r H6 (upd H7 r (.ins C dx (pf p (ws.length:Int) ⟨su,th,tt,bh,ch,bt,ct⟩))):=λa o ha e=>by rw[a0i ha];exact gt.same _ _ e
 refine qq _ ⟨su,th,tt,bh,ch,bt,ct⟩ (λa o ha e=>k68 a o ha (k46 a o ha (k4 a o ha e))) ⟨⟨dx,a0b⟩,k68 _ _ pr hp6,k68 _ _ sr hs6,⟨k68 _ _ rh1 tb6.o,λl hl=>k68 _ _ (rh2 l hl) (tb6.b l hl),λl k hl hk=>k68 _ _ (rh3 l k hl hk) (tb6.c l k hl hk)⟩,⟨by rw[a0i rt1];exact gt.lo_,λl hl=>by rw[a0i (rt2 l hl)];exact gt.lb l hl,λl k hl hk=>by rw[a0i (rt3 l k hl hk)];exact gt.lc l k hl hk⟩,λl i l' i' hl hl' hi hi' e=>gh.inj l i l' i' hl hl' hi hi' e,λl i l' i' hl hl' hi hi' e=>gt.inj l i l' i' hl hl' hi hi' e,λl i l' i' hl hl' hi hi' e=>?_,λz=>?_⟩ λa hz=>?_
 ·have e1:=gt.fc l' i' hl' hi';have e:ch l i=ct l' i':=e;rw[<-e,tb6.c l i hl hi] at e1;cases e1
 ·rcases z with ⟨l,i,hl,hi,e⟩|⟨l,i,hl,hi,e⟩
  ·have e1:=gh.fc l i hl hi;have e:su=ch l i:=e;rw[<-e,hs4] at e1;cases e1
  ·have e1:=gt.fc l i hl hi;have e:su=ct l i:=e;rw[<-e,hs6] at e1;cases e1
 ·rcases hz with ⟨l,i,hl,hi,e⟩|⟨l,i,hl,hi,e⟩
  ·have e:a=ch l i:=e;rw[e];exact f4 _ (gh.fc l i hl hi)
  ·have e:a=ct l i:=e;rw[e];exact f4 _ (f6 _ (gt.fc l i hl hi))
end K95C
set_option exponentiation.threshold 2000
namespace K95C
open PySem L2
theorem a0G{f:Nat->V}{n k:Nat}(h:k<n):atI ((List.range n).map f) (k:Int)=some (f k):=a1M (by rw[b6p,b7I h];rfl)
theorem b3p{K:PySem.W.Frag}{f:Str}(h:a2E ta):a2E (tFld K ta f):=λσ H Q Q' hq q=>h σ H _ _ (λv H1 ⟨a,C,dx,fs,u,e1,e2,e3,e4,e5,q1⟩=>⟨a,C,dx,fs,u,e1,e2,e3,e4,e5,hq _ _ q1⟩) q
structure Mt(P:Program)(w:World)(K:PySem.W.Frag)(mg:Str->Option Value)(base:Heap)(C:Addr)(name:Str)(ps:List Str)(sp:Sp)(k:Nat) where
 f:Addr
 fd:FuncData
 m:a8F K C name f
 ok:a0I P w K mg base CX0 k f fd ps sp
 b:a1K K fd ps []
def Mt.up{P:Program}{w:World}{K:PySem.W.Frag}{mg:Str->Option Value}{base:Heap}{C:Addr}{name:Str}{ps:List Str}{sp:Sp}{j k:Nat}(f:Mt P w K mg base C name ps sp j)(h:j<=k):Mt P w K mg base C name ps sp k:=⟨f.f,f.fd,f.m,f.ok.mono h,f.b⟩
def up3(T:Nat->Nat->Nat->OI)(l i j:Nat)(v:OI):Nat->Nat->Nat->OI:=λl' i' j'=>if l'=l/\i'=i/\j'=j then v else T l' i' j'
theorem a7y:up3 T l i j v l i j=v:=if_pos ⟨rfl,rfl,rfl⟩
theorem a3l(h:¬(l'=l/\i'=i/\j'=j)):up3 T l i j v l' i' j'=T l' i' j':=if_neg h
theorem b0a{l i j s:Nat}(hj:j<s):((List.range s).map λk=>oV (T l i k)).set j (oV v)=(List.range s).map λk=>oV (up3 T l i j v l i k):=by
 refine b8W λk=>?_;rw[b6p];by_cases hk:k<s
 ·rw[b7I hk];by_cases e:j=k
  ·subst e;rw[b8H (by rw[b6b,b6C];exact hk)];show some (oV v)=some (oV (up3 T l i j v l i j));rw[a7y]
  ·rw[b8Z e,b6p,b7I hk];show some (oV (T l i k))=some (oV (up3 T l i j v l i k));rw[a3l λz=>e z.2.2.symm]
 ·rw[b8a (by rw[b8z,b6b,b6C];lia),b8a (by rw[b6C];omega)];rfl
theorem a3g{f:Nat->Addr}{g:Nat->OI}{m n:Nat}(hm:0<m)(hn:0<n):(List.range m).map (λl=>V.ref (f l))≠(List.range n).map λj=>oV (g j):=λz=>by
 have h1:((List.range m).map (λl=>V.ref (f l)))[0]?=some (V.ref (f 0)):=by rw[b6p,b7I hm];rfl
 have h2:((List.range n).map λj=>oV (g j))[0]?=some (oV (g 0)):=by rw[b6p,b7I hn];rfl
 rw[z,h2] at h1;cases hg:g 0<;>(rw[hg] at h1;cases h1)
theorem Tb.keep{H:Hp}{a c:Addr}{ba:Nat->Addr}{ca:Nat->Nat->Addr}{L s:Nat}{T:Nat->Nat->Nat->OI}{g:Nat->OI}{n:Nat}{o:HO}(h:Tb H a ba ca L s T)(hL:0<L)(hs:0<s)(hn:0<n)(hc:H c=some (.lst ((List.range n).map λj=>oV (g j))))(nc:∀l i,l<L->i<s->ca l i≠c):Tb (upd H c o) a ba ca L s T:=by
 refine⟨?_,λl hl=>?_,λl i hl hi=>?_⟩
 ·rw[a0i (a0B h.o hc (λz=>a3g hL hn (HO.lst.inj z)))];exact h.o
 ·rw[a0i (a0B (h.b l hl) hc (λz=>a3g hs hn (HO.lst.inj z)))];exact h.b l hl
 ·rw[a0i (nc l i hl hi)];exact h.c l i hl hi
theorem Tb.put{L s:Nat}(h:Tb H a ba ca L s T)(inj:∀l i l' i',l<L->l'<L->i<s->i'<s->ca l i=ca l' i'->l=l'/\i=i')(hl:l<L)(hi:i<s)(hj:j<s) :
  Tb (upd H (ca l i) (.lst (((List.range s).map λk=>oV (T l i k)).set j (oV v)))) a ba ca L s (up3 T l i j v):=by
 rw[b0a hj];have hc:=h.c l i hl hi;refine⟨?_,λl' hl'=>?_,λl' i' hl' hi'=>?_⟩
 ·rw[a0i (a0B h.o hc (λz=>a3g (m:=L) (n:=s) (by lia) (by lia) (HO.lst.inj z)))];exact h.o
 ·rw[a0i (a0B (h.b l' hl') hc (λz=>a3g (m:=s) (n:=s) (by lia) (by omega) (HO.lst.inj z)))];exact h.b l' hl'
 ·by_cases e:l'=l/\i'=i
  ·obtain⟨rfl,rfl⟩:=e;rw[a0b]
  ·rw[a0i (λz=>e (inj l' i' l i hl' hl hi' hi z)),h.c l' i' hl' hi'];refine b7d (λz=>some (HO.lst z)) (b6J λk _=>?_);rw[a3l λz=>e ⟨z.1,z.2.1⟩]
theorem PAt.puth{C:Addr}{H:Hp}{r p:Addr}{ps ws:List Int}{X:Ad}{h t:Nat->Nat->Nat->OI}{l i j:Nat}{v:OI}(a:PAt C H r p ps ws X h t)(hl:l<ps.length)(hi:i<ws.length+1)(hj:j<ws.length+1) :
  PAt C (upd H (X.ch l i) (.lst (((List.range (ws.length+1)).map λk=>oV (h l i k)).set j (oV v)))) r p ps ws X (up3 h l i j v) t:=by
 obtain⟨dx,ho⟩:=a.ob;have hc:=a.hd.c l i hl hi;refine⟨⟨dx,?_⟩,?_,?_,a.hd.put a.ih hl hi hj,a.tl.keep (by simp) (by simp) (by simp) hc λl' i' hl' hi'=>Ne.symm (a.ix l i l' i' hl hl' hi hi'),a.ih,a.it,a.ix,a.ns⟩
 ·rw[a0i (a0B ho hc (by intro z;cases z))];exact ho
 ·show upd _ _ _ p=_;rw[a0i (a0B a.hp hc (by intro z;cases z))];exact a.hp
 ·rw[a0i (λz=>a.ns (.inl ⟨l,i,hl,hi,z⟩))];exact a.su
theorem PAt.putt{h t:Nat->Nat->Nat->OI}(a:PAt C H r p ps ws X h t)(hL:0<ps.length)(hl:l<ps.length+1)(hi:i<ws.length+1)(hj:j<ws.length+1) :
  PAt C (upd H (X.ct l i) (.lst (((List.range (ws.length+1)).map λk=>oV (t l i k)).set j (oV v)))) r p ps ws X h (up3 t l i j v):=by
 obtain⟨dx,ho⟩:=a.ob;have hc:=a.tl.c l i hl hi;refine⟨⟨dx,?_⟩,?_,?_,a.hd.keep hL (by simp) (by simp) hc λl' i' hl' hi'=>a.ix l' i' l i hl' hl hi' hi,a.tl.put a.it hl hi hj,a.ih,a.it,a.ix,a.ns⟩
 ·rw[a0i (a0B ho hc (by intro z;cases z))];exact ho
 ·show upd _ _ _ p=_;rw[a0i (a0B a.hp hc (by intro z;cases z))];exact a.hp
 ·rw[a0i (λz=>a.ns (.inr ⟨l,i,hl,hi,z⟩))];exact a.su
def KZ(X:Ad)(L s:Nat)(H H':Hp):Prop:=∀a o,¬Z X L s a->H a=some o->H' a=some o
abbrev lsum(h t:Nat->Nat->Nat->OI)(l i j k:Nat):OI:=lo ((List.range (k-i)).map λb=>oadd (h l i (i+b+1)) (t (l+1) (i+b+1) j))
abbrev NLs:List Str:=["self","letter","first","end","last","heads","tails"]
def spLs(C:Addr):Sp:=λvs H Q _=>∃(r p:Addr)(ps ws:List Int)(X:Ad)(h t:Nat->Nat->Nat->OI)(l i j k:Nat),vs=[.ref r,.int (l:Int),.int (i:Int),.int (j:Int),.int (k:Int)]/\PAt C H r p ps ws X h t/\ws.length<=24/\l<ps.length/\i<=k/\k<=ws.length/\j<=ws.length/\∀H',a0r H H'->Q (oV (lsum h t l i j k)) H'
theorem scLs:a0k NLs ["self","letter","first","end","last"] (a0g sLs):=fsk
theorem ndLs:(("cut":Str)::NLs).Nodup:=by decide +kernel
theorem ok_ls(F:Fun K "least_sum" "Parted.least_sum" sLs f fd)(GL:Fns P w K mg base ["numbers"] "least" a5h 1)(GA:Fns P w K mg base ["one","other"] "added" a5i 1)(rc:PC K C)(mr:mg "range"=none):a0I P w K mg base CX0 2 f fd ["self","letter","first","end","last"] (spLs C):=by
 refine F.ok (k:=1) scLs (λvs H Q E h=>?_) (λcdv A outer s H vs Q E hr h=>?_)
 ·obtain⟨r,p,ps,ws,X,h,t,l,i,j,k,rfl,_⟩:=h;rfl
 obtain⟨r,p,ps,ws,X,h,t,l,i,j,k,rfl,pa,w20,hl,hik,hk,hj,q⟩:=h;refine⟨_,a0c (psA (i:=5) scLs (pxA a0m (pxA a0m (a0s (pv 0) rfl) (pv 1)) (pv 2)))
  (a0c (psA (i:=6) scLs (pxA a0m (a0s (pv 0) rfl) (a0q a0K (pv 1) a0h)))
  (a0f (a0o (pcF GL hr (a0a (a9d (M:=NLs) rfl (cso (a0g sLs) NLs) ndLs rfl (by rfl) mr (a0a (a0q a0K (pv 2) a0h) (a0a (a0q a0K (pv 4) a0h) a0d)) (a1k (b1j a7d a0E mo_c) (a1k (b1j a7d a0E mo_c) a1W))
   (λcl C s0 H0 fp=>⟨a0v,pcF GA hr (a0a (pxA (ixL K) (pv 6) (pv 0)) (a0a (pxA (ixL K) (pxA (ixL K) (pv 7) (pv 0)) (pv 4)) a0d))⟩)) a0d))))),?_⟩
 obtain⟨dx,ho⟩:=pa.ob;have i1:i<ws.length+1:=by lia
 have hT:=pa.hd;have tT:=pa.tl;refine⟨_,rfl,r,C,dx,_,_,rfl,ho,rc.c,rc.nh,rfl,_,rfl,X.th,_,_,_,rfl,rfl,SqL.of hT.o,a0G hl,_,rfl,X.bh l,_,_,_,rfl,rfl,SqL.of (hT.b l hl),a0G i1,?_⟩;refine⟨_,rfl,r,C,dx,_,_,rfl,ho,rc.c,rc.nt,rfl,_,rfl,_,_,rfl,rfl,X.tt,_,_,_,rfl,rfl,SqL.of tT.o,a0G (k:=l+1) (by lia),?_⟩;refine⟨_,rfl,_,_,rfl,rfl,_,rfl,_,_,rfl,rfl,_,_,rfl,⟨by lia,by lia,by lia,by lia⟩,λd hd=>?_⟩;have en:(((k:Int)+1)-((i:Int)+1)).toNat=k-i:=by lia
 dsimp only;rw[en];refine⟨λb H'=>a0r H H'/\H' d=some (.lst (((List.range b).map λb=>oadd (h l i (i+b+1)) (t (l+1) (i+b+1) j)).map oV)),⟨a0e hd _,a0b⟩,λb H' hb hP=>?_,λH' hP=>?_⟩
 ·obtain⟨s5,hd'⟩:=hP;have eb:(i:Int)+1+(b:Int)=((i+b+1:Nat):Int):=by push_cast;lia
  rw[eb];have hb1:i+b+1<ws.length+1:=by grind
  refine a0u ⟨_,rfl,_,rfl,X.ch l i,_,_,_,rfl,rfl,SqL.of (s5 _ _ (hT.c l i hl i1)),a0G hb1,_,rfl,_,rfl,X.bt (l+1),_,_,_,rfl,rfl,SqL.of (s5 _ _ (tT.b (l+1) (by lia))),a0G hb1,_,rfl,X.ct (l+1) (i+b+1),_,_,_,rfl,rfl,SqL.of (s5 _ _ (tT.c (l+1) (i+b+1) (by omega) hb1)),a0G (k:=j) (by lia),_,_,rfl,_,hd',?_,a0l hd s5,?_⟩
  ·rw[b6b,b6b,b6C];exact a0j (by lia)
  ·rw[a0b,b7t,b6g,b6g];rfl
 ·obtain⟨s5,hd'⟩:=hP;exact⟨d,_,rfl,hd',by rw[b6b,b6C];grind,λH6 s6=>q H6 (s5.trans s6)⟩
abbrev NB:List Str:=["self","first","end"]
def b0b(C:Addr):Sp:=λvs H Q _=>∃(r p:Addr)(ps ws:List Int)(X:Ad)(h t:Nat->Nat->Nat->OI)(i j:Nat),vs=[.ref r,.int (i:Int),.int (j:Int)]/\PAt C H r p ps ws X h t/\ws.length<=24/\ps.length<=10/\i<j/\j<=ws.length/\∀H',a0r H H'->Q (oV (bnd ps.length h t i j)) H'
theorem b5d:a0k NB ["self","first","end"] (a0g a7x):=fsk
theorem ndB:(("letter":Str)::NB).Nodup:=by decide +kernel
theorem b1Y(F:Fun K "bound" "Parted.bound" a7x f fd)(GL:Fns P w K mg base ["numbers"] "least" a5h 2)(M:Mt P w K mg base C "least_sum" ["self","letter","first","end","last"] (spLs C) 2)(rc:PC K C)(ml:mg "len"=none)(mr:mg "range"=none):a0I P w K mg base CX0 3 f fd ["self","first","end"] (b0b C):=by
 refine F.ok (k:=2) b5d (λvs H Q E h=>?_) (λcdv A outer s H vs Q E hr h=>?_)
 ·obtain⟨r,p,ps,ws,X,h,t,i,j,rfl,_⟩:=h;rfl
 obtain⟨r,p,ps,ws,X,h,t,i,j,rfl,pa,w20,p10,hij,hj,q⟩:=h;refine⟨_,a0c (a0z (a0p a0U (a0q a2y (pv 2) (pv 1)) a0h (nomark _)) (a0f (a0o a0h)) a0n)
  (a0f (a0o (pcF GL hr (a0a (a1O (M:=NB) rfl (cso (a0g a7x) NB) ndB rfl (by rfl) mr (a0a (pln ml (a0s (pv 0) rfl)) a0d) (a1k (b2S (a1k (b3p a0E) a1W)) a1W)
   (λcl C s0 H0 fp=>⟨a0v,a0T (pv 1) rc.c M.m M.ok hr M.b .nil a1g (a0a (pv 0) (a0a (pv 2) (a0a (pv 3) (a0a (a0q a2y (pv 3) a0h) a0d))))⟩)) a0d)))),?_⟩
 obtain⟨dx,ho⟩:=pa.ob;refine⟨_,rfl,_,rfl,_,_,rfl,rfl,rfl,_,rfl,?_⟩;refine a2c (λz=>?_) (λz=>?_)
 ·have z1:j-i=1:=by
   have y:V.int ((j:Int)-(i:Int))=V.int 1:=b6B z;have:=V.int.inj y
   grind
  have:=q H (a0r.refl _);unfold bnd at this;rw[if_pos z1] at this;exact this
 ·have z1:¬j-i=1:=λy=>z (b6i (by show V.int ((j:Int)-(i:Int))=V.int 1;congr 1;grind));unfold bnd at q;rw[if_neg z1] at q;refine⟨_,rfl,r,C,dx,_,_,rfl,ho,rc.c,rc.np,rfl,p,_,rfl,.inr (SqT.of pa.hp),_,rfl,by rw[b6b];simp,by rw[b6b];lia,λd hd=>?_⟩;rw[b6b,b6Q];refine⟨λl H'=>a0r H H'/\H' d=some (.lst (((List.range l).map λl=>lsum h t l i j (j-1)).map oV)),⟨a0e hd _,a0b⟩,λl H' hl hP=>?_,λH' hP=>?_⟩
  ·obtain⟨s5,hd'⟩:=hP;rw[show(0:Int)+(l:Int)=(l:Int) from Int.zero_add _];have ej:(j:Int)-1=((j-1:Nat):Int):=by lia
   refine a0u ⟨_,rfl,r,dx,_,rfl,s5 _ _ ho,rfl,_,rfl,_,rfl,_,rfl,_,rfl,_,_,rfl,rfl,r,p,ps,ws,X,h,t,l,i,j,j-1,(by show V.ref r::([V.int (l:Int),V.int (i:Int),V.int (j:Int),V.int ((j:Int)-1)]++[])=_;rw[ej];rfl),pa.same s5,w20,hl,by lia,by lia,hj,λH6 s6=>⟨_,s6 _ _ hd',?_,a0l hd (s5.trans s6),?_⟩⟩
   ·rw[b6b,b6b,b6C];exact a0j (by lia)
   ·rw[a0b,b7t,b6g,b6g];rfl
  ·obtain⟨s5,hd'⟩:=hP;exact⟨d,_,rfl,hd',by rw[b6b,b6C];lia,λH6 s6=>q H6 (s5.trans s6)⟩
end K95C
set_option exponentiation.threshold 2000
namespace K95C
open PySem L2
def Wt(ws:List Int)(i j:Nat):Int:=(ws.take j).sum-(ws.take i).sum
abbrev pl(ps:List Int)(l:Nat):Int:=ps.getD l 0
def Bw(ns:List Int):Prop:=∀x∈ns,0<=x/\x<=B30
theorem sum_bd(h:Bw ns):0<=ns.sum/\ns.sum<=ns.length*B30:=by
 induction ns with
 |nil=>simp
 |cons a t ih=>
  have h1:=h a (.head _);have h2:=ih λx hx=>h x (.tail _ hx);rw[b9t,b6F];have e:(((t.length+1:Nat):Int))*B30=t.length*B30+B30:=by push_cast;rw[Int.add_mul];simp
  rw[e]
  lia
theorem Wt_is(h:i<=j):Wt ws i j=((ws.take j).drop i).sum:=by
 have e:ws.take j=ws.take i++(ws.take j).drop i:=by
  have:=(b8T i (ws.take j)).symm;rw[List.take_take,b9V h] at this;exact this
 unfold Wt;have e2:(ws.take j).sum=(ws.take i).sum+((ws.take j).drop i).sum:=by rw[<-List.sum_append,<-e]
 lia
theorem Wt_bd(h:i<=j)(b:Bw ws)(l:ws.length<=24):0<=Wt ws i j/\Wt ws i j<=24*B30:=by
 rw[Wt_is h];have b2:Bw ((ws.take j).drop i):=λx hx=>b x (b7h (b9c hx));have:=sum_bd b2;have l2:((ws.take j).drop i).length<=24:=by rw[b7r,b6l];omega
 refine⟨this.1,Int.le_trans this.2 ?_⟩;exact b9J (by lia) (by decide)
theorem a2u{l i j k:Nat}(eh:∀b,i<b->b<=k->h1 l i b=h2 l i b)(et:∀a,i<a->a<=k->t1 (l+1) a j=t2 (l+1) a j):lsum h1 t1 l i j k=lsum h2 t2 l i j k:=by
 show lo _=lo _;congr 1;refine b6J λb hb=>?_;have:=b6V.mp hb;rw[eh _ (by lia) (by lia),et _ (by omega) (by omega)]
structure Put(ps ws:List Int)(h t h' t':Nat->Nat->Nat->OI)(i j:Nat)(fl:OI)(m:Nat):Prop where
 oh:∀l a b,¬(a=i/\b=j)->h' l a b=h l a b
 ot:∀l a b,¬(a=i/\b=j)->t' l a b=t l a b
 oe:t' ps.length i j=t ps.length i j
 eh:∀l,ps.length-m<=l->l<ps.length->h' l i j=oadd (some (pl ps l*Wt ws i j)) fl
 et:∀l,ps.length-m<=l->l<ps.length->t' l i j=lo [lsum h' t' l i j j,t' (l+1) i j]
theorem Put.step{h t h' t':Nat->Nat->Nat->OI}(u:Put ps ws h t h' t' i j fl m)(hm:m<ps.length)(el:l=ps.length-1-m) :
  Put ps ws h t (up3 h' l i j (oadd (some (pl ps l*Wt ws i j)) fl)) (up3 t' l i j (lo [lsum (up3 h' l i j (oadd (some (pl ps l*Wt ws i j)) fl)) t' l i j j,t' (l+1) i j])) i j fl (m+1):=by
 generalize ev:oadd (some (pl ps l*Wt ws i j)) fl=v;have hT:∀l',l'≠l->∀v2 a b,up3 t' l i j v2 l' a b=t' l' a b:=λl' hne v2 a b=>a3l λz=>hne z.1;have hH:∀l',l'≠l->∀a b,up3 h' l i j v l' a b=h' l' a b:=λl' hne a b=>a3l λz=>hne z.1;generalize ev2:lo [lsum (up3 h' l i j v) t' l i j j,t' (l+1) i j]=v2;refine⟨λl' a b z=>?_,λl' a b z=>?_,?_,λl' h1 h2=>?_,λl' h1 h2=>?_⟩
 ·rw[a3l λy=>z ⟨y.2.1,y.2.2⟩];exact u.oh l' a b z
 ·rw[a3l λy=>z ⟨y.2.1,y.2.2⟩];exact u.ot l' a b z
 ·rw[hT _ (by omega)];exact u.oe
 ·by_cases e:l'=l
  ·subst e;rw[a7y];exact ev.symm
  ·rw[hH l' e];exact u.eh l' (by lia) h2
 ·by_cases e:l'=l
  ·subst e;rw[a7y,<-ev2,hT (l'+1) (by simp)];congr 2;exact a2u (λ_ _ _=>rfl) λa _ _=>(hT (l'+1) (by simp) _ a j).symm
  ·rw[hT l' e,u.et l' (by omega) h2,hT (l'+1) (by lia)];congr 2;exact a2u (λb _ _=>(hH l' e i b).symm) λa _ _=>(hT (l'+1) (by lia) v2 a j).symm
abbrev NPt:List Str:=["self","first","end","floor","weight","letter","with_letter"]
def a6M(C:Addr):Sp:=λvs H Q _=>∃(r p:Addr)(ps ws:List Int)(X:Ad)(h t:Nat->Nat->Nat->OI)(i j:Nat)(fl:OI),vs=[.ref r,.int (i:Int),.int (j:Int),oV fl]/\PAt C H r p ps ws X h t/\ws.length<=24/\1<=ps.length/\ps.length<=10/\Bw ps/\Bw ws/\i<j/\j<=ws.length /\
 ∀H' h' t',KZ X ps.length (ws.length+1) H H'->PAt C H' r p ps ws X h' t'->Put ps ws h t h' t' i j fl ps.length->Q .non H'
theorem b1Z:a0k NPt ["self","first","end","floor"] (a0g sPut):=fsk
theorem b0c{k:Nat}(h:k<=ws.length):atI ((sums ws ws.length).map V.int) (k:Int)=some (.int (ws.take k).sum):=by
 unfold sums;rw[b7v];exact a0G (f:=λi=>V.int (ws.take i).sum) (by lia)
theorem at_pl{ps:List Int}{l:Nat}(h:l<ps.length):atI (ps.map V.int) (l:Int)=some (.int (pl ps l)):=by
 rw[a4u (b6f h)];unfold pl;rw[b6q,b6f h];rfl
theorem pl_bd(b:Bw ps)(l:Nat):0<=pl ps l/\pl ps l<=B30:=by
 unfold pl;rw[b6q];cases e:ps[l]? with
 |none=>exact⟨by show(0:Int)<=0;simp,by show(0:Int)<=B30;decide⟩
 |some x=>exact b x (b6h e)
theorem ok_put{C:Addr}(F:Fun K "put" "Parted.put" sPut f fd)(GL:Fns P w K mg base ["numbers"] "least" a5h 2)(GA:Fns P w K mg base ["one","other"] "added" a5i 2)(M:Mt P w K mg base C "least_sum" ["self","letter","first","end","last"] (spLs C) 2)(rc:PC K C)(ml:mg "len"=none)(mr:mg "range"=none):a0I P w K mg base CX0 3 f fd ["self","first","end","floor"] (a6M C):=by
 refine F.ok (k:=2) b1Z (λvs H Q E h=>?_) (λcdv A outer s H vs Q E hr h=>?_)
 ·obtain⟨r,p,ps,ws,X,h,t,i,j,fl,rfl,_⟩:=h;rfl
 obtain⟨r,p,ps,ws,X,h,t,i,j,fl,rfl,pa,w20,p1,p10,bp,bw,hij,hj,q⟩:=h;refine⟨_,a0c (psA (i:=4) b1Z (a0q a2y (pxA a0m (a0s (pv 0) rfl) (pv 2)) (pxA a0m (a0s (pv 0) rfl) (pv 1))))
  (a0f (a1d b6K rfl (a3V (by rfl) mr (a0a (a0q a2y (pln ml (a0s (pv 0) rfl)) a0h) (a0a (a3m a2f a0h) (a0a (a3m a2f a0h) a0d)))) (pgA (i:=5) b1Z)
   (a0c (a2L (pcF GA hr (a0a (a0q b4A (pxA a0D (a0s (pv 0) rfl) (pv 5)) (pv 4)) (a0a (pv 3) a0d))) (a3w (pxA a0m (pxA a0m (a0s (pv 0) rfl) (pv 5)) (pv 1)) (pv 2) a2b))
   (a0c (psA (i:=6) b1Z (a0T (pv 0) rc.c M.m M.ok hr M.b .nil a1g (a0a (pv 5) (a0a (pv 1) (a0a (pv 2) (a0a (pv 2) a0d))))))
   (a0f (a2L (pcF GL hr (a0a (a1p (a0a (pv 6) (a0a (pxA a0m (pxA a0m (pxA a0m (a0s (pv 0) rfl) (a0q a0K (pv 5) a0h)) (pv 1)) (pv 2)) a0d))) a0d)) (a3w (pxA a0m (pxA a0m (a0s (pv 0) rfl) (pv 5)) (pv 1)) (pv 2) a2b))))))),?_⟩
 obtain⟨dx,ho⟩:=pa.ob;refine⟨_,rfl,r,C,dx,_,_,rfl,ho,rc.c,rc.ns,rfl,_,rfl,X.su,_,_,_,rfl,rfl,SqL.of pa.su,b0c hj,_,rfl,r,C,dx,_,_,rfl,ho,rc.c,rc.ns,rfl,_,rfl,X.su,_,_,_,rfl,rfl,SqL.of pa.su,b0c (k:=i) (by lia),_,_,rfl,rfl,?_⟩;have eW:(λ(x y:Int)=>V.int (x-y)) (ws.take j).sum (ws.take i).sum=.int (Wt ws i j):=rfl;dsimp only at eW ⊢;rw[eW];have wb:=Wt_bd (b6y hij) bw w20;refine⟨_,rfl,r,C,dx,_,_,rfl,ho,rc.c,rc.np,rfl,p,_,rfl,.inr (SqT.of pa.hp),_,_,rfl,rfl,_,rfl,_,rfl,_,rfl,⟨by rw[b6b];lia,by rw[b6b];lia⟩,?_⟩;rw[b6b,show((ps.length:Int)-1+1).toNat=ps.length by simp];have i1:i<ws.length+1:=by lia
 have j1:j<ws.length+1:=by lia
 refine a2t (λm σ H'=>KZ X ps.length (ws.length+1) H H'/\(∃h' t',PAt C H' r p ps ws X h' t'/\Put ps ws h t h' t' i j fl m)/\∃x5 x6:Option V,σ=[some (.ref r),some (.int (i:Int)),some (.int (j:Int)),some (oV fl),some (.int (Wt ws i j)),x5,x6])
  ⟨λ_ _ _ e=>e,⟨h,t,pa,λ_ _ _ _=>rfl,λ_ _ _ _=>rfl,rfl,λl a b=>by lia,λl a b=>by omega⟩,_,_,rfl⟩ (λm σ H1 hm hP=>?_) (λσ H1 hP=>?_)
 ·obtain⟨k1,⟨h',t',pa1,u⟩,x5,x6,rfl⟩:=hP;obtain⟨l,el⟩:∃l,l=ps.length-1-m:=⟨_,rfl⟩
  have ev:(ps.length:Int)-1+(m:Int)*(-1)=(l:Int):=by grind
  rw[ev];have hl:l<ps.length:=by lia
  obtain⟨dx1,ho1⟩:=pa1.ob;have pb:=pl_bd bp l;refine⟨_,rfl,r,C,dx1,_,_,rfl,ho1,rc.c,rc.np,rfl,_,rfl,p,_,_,_,rfl,rfl,SqT.of pa1.hp,at_pl hl,_,rfl,_,_,rfl,rfl,⟨⟨pb.1,by unfold B30 at *;lia⟩,⟨wb.1,by unfold B30 at *;grind⟩⟩,_,rfl,some (pl ps l*Wt ws i j),fl,rfl,?_⟩;refine⟨_,rfl,r,C,dx1,_,_,rfl,ho1,rc.c,rc.nh,rfl,_,rfl,X.th,_,_,_,rfl,rfl,SqL.of pa1.hd.o,a0G hl,_,rfl,X.bh l,_,_,_,rfl,rfl,SqL.of (pa1.hd.b l hl),a0G i1,_,rfl,X.ch l i,_,_,j,rfl,rfl,pa1.hd.c l i hl i1,(by rw[b6b,b6C];exact a3Y j1),?_⟩;have pa2:=pa1.puth (v:=oadd (some (pl ps l*Wt ws i j)) fl) hl i1 j1;have k2:KZ X ps.length (ws.length+1) H (upd H1 (X.ch l i) (.lst (((List.range (ws.length+1)).map λk=>oV (h' l i k)).set j (oV (oadd (some (pl ps l*Wt ws i j)) fl))))):=λa o hz e=>by
   rw[a0i (λz=>hz (.inl ⟨l,i,hl,i1,z⟩))];exact k1 a o hz e
  generalize upd H1 (X.ch l i) (.lst (((List.range (ws.length+1)).map λk=>oV (h' l i k)).set j (oV (oadd (some (pl ps l*Wt ws i j)) fl))))=H2 at pa2 k2 ⊢;obtain⟨dx2,ho2⟩:=pa2.ob;refine⟨_,rfl,r,dx2,_,rfl,ho2,rfl,_,rfl,_,rfl,_,rfl,_,rfl,r,p,ps,ws,X,_,t',l,i,j,j,rfl,pa2,w20,hl,by exact b6y ‹_›,hj,hj,λH3 s3=>?_⟩;have pa3:=pa2.same s3;have k3:KZ X ps.length (ws.length+1) H H3:=λa o hz e=>s3 _ _ (k2 a o hz e);obtain⟨dx3,ho3⟩:=pa3.ob;have l1:l+1<ps.length+1:=by lia
  refine⟨_,rfl,_,rfl,r,C,dx3,_,_,rfl,ho3,rc.c,rc.nt,rfl,_,rfl,_,_,rfl,rfl,X.tt,_,_,_,rfl,rfl,SqL.of pa3.tl.o,a0G l1,_,rfl,X.bt (l+1),_,_,_,rfl,rfl,SqL.of (pa3.tl.b _ l1),a0G i1,_,rfl,X.ct (l+1) i,_,_,_,rfl,rfl,SqL.of (pa3.tl.c _ i l1 i1),a0G j1,(by show 2<=sizeLine;decide),λe1 he1=>?_⟩;have s4:=a0e he1 (.lst [oV (lsum (up3 h' l i j (oadd (some (pl ps l*Wt ws i j)) fl)) t' l i j j),oV (t' (l+1) i j)]);have g4:upd H3 e1 (.lst [oV (lsum (up3 h' l i j (oadd (some (pl ps l*Wt ws i j)) fl)) t' l i j j),oV (t' (l+1) i j)]) e1=some (.lst (([lsum (up3 h' l i j (oadd (some (pl ps l*Wt ws i j)) fl)) t' l i j j,t' (l+1) i j]:List OI).map oV)):=a0b;generalize upd H3 e1 (.lst [oV (lsum (up3 h' l i j (oadd (some (pl ps l*Wt ws i j)) fl)) t' l i j j),oV (t' (l+1) i j)])=H4 at s4 g4 ⊢;refine⟨e1,_,rfl,g4,by show 2<=100;decide,λH5 s5=>?_⟩;have pa5:=pa3.same (s4.trans s5);have k5:KZ X ps.length (ws.length+1) H H5:=λa o hz e=>(s4.trans s5) _ _ (k3 a o hz e);obtain⟨dx5,ho5⟩:=pa5.ob;have l2:l<ps.length+1:=by exact b6y ‹_›
  refine⟨_,rfl,r,C,dx5,_,_,rfl,ho5,rc.c,rc.nt,rfl,_,rfl,X.tt,_,_,_,rfl,rfl,SqL.of pa5.tl.o,a0G l2,_,rfl,X.bt l,_,_,_,rfl,rfl,SqL.of (pa5.tl.b _ l2),a0G i1,_,rfl,X.ct l i,_,_,j,rfl,rfl,pa5.tl.c l i l2 i1,(by rw[b6b,b6C];exact a3Y j1),?_⟩;refine⟨λa o hz e=>?_,⟨_,_,pa5.putt p1 l2 i1 j1,u.step hm el⟩,_,_,rfl⟩;rw[a0i (λz=>hz (.inr ⟨l,i,l2,i1,z⟩))];exact k5 a o hz e
 ·obtain⟨k1,⟨h',t',pa1,u⟩,x5,x6,rfl⟩:=hP;exact q H1 h' t' k1 pa1 u
end K95C
set_option exponentiation.threshold 2000
namespace K95C
open PySem L2
def Dn(f e i j:Nat):Prop:=f<i\/(i=f/\j<e)
theorem a5Z{h t h' t':Nat->Nat->Nat->OI}(hij:i<j)(eh:∀l b,i<b->b<j->h' l i b=h l i b)(et:∀l a,i<a->a<j->t' l a j=t l a j):bnd L h' t' i j=bnd L h t i j:=by
 unfold bnd;split
 ·rfl
 ·congr 1;refine b6J λl _=>?_;exact a2u (k:=j-1) (λb h1 h2=>eh l b h1 (by omega)) λa h1 h2=>et (l+1) a h1 (by omega)
structure Num(ps ws:List Int):Prop where
 p2:2<=ps.length
 p10:ps.length<=10
 w1:1<=ws.length
 w20:ws.length<=24
 bp:Bw ps
 bw:Bw ws
structure Cl(P:Program)(w:World)(K:PySem.W.Frag)(mg:Str->Option Value)(base:Heap)(C:Addr) where
 rc:PC K C
 g:mg "Parted"=some (.ref C)
 fi:Addr
 di:FuncData
 mkk:Mk K C fi
 oki:a0I P w K mg base CX0 3 fi di ["self","prices","weights"] (a9Y C)
 bi:a1K K di ["self","prices","weights"] []
end K95C
set_option exponentiation.threshold 2000
namespace K95C
open PySem L2
structure Fin(ps ws:List Int)(h t:Nat->Nat->Nat->OI)(F:Nat->Nat->OI)(pr:Nat->Nat->Prop):Prop where
 dg:∀l i,l<=ps.length->i<=ws.length->t l i i=some 0
 ed:∀i j,i<j->j<=ws.length->t ps.length i j=none
 eq:∀i j,i<j->j<=ws.length->pr i j->Eqs (pl ps) (Wt ws) F ps.length h t i j
theorem Fin.weak{h t:Nat->Nat->Nat->OI}(a:Fin ps ws h t F pr)(h1:∀i j,i<j->j<=ws.length->pr' i j->pr i j):Fin ps ws h t F pr':=
 ⟨a.dg,a.ed,λi j hij hj hp=>a.eq i j hij hj (h1 i j hij hj hp)⟩
theorem Fin.step{h t h' t':Nat->Nat->Nat->OI}{f e:Nat}(a:Fin ps ws h t F (Dn f e))(hfe:f<e)(he:e<=ws.length)(u:Put ps ws h t h' t' f e (F f e) ps.length):Fin ps ws h' t' F (Dn f (e+1)):=by
 refine⟨λl i hl hi=>?_,λi j hij hj=>?_,λi j hij hj hp=>?_⟩
 ·rw[u.ot l i i (by lia)];exact a.dg l i hl hi
 ·by_cases z:i=f/\j=e
  ·rw[z.1,z.2,u.oe];exact a.ed f e hfe he
  ·rw[u.ot _ i j z];exact a.ed i j hij hj
 ·by_cases z:i=f/\j=e
  ·obtain⟨rfl,rfl⟩:=z;refine⟨λl hl=>?_,λl hl=>u.et l (by simp) hl⟩;rw[u.eh l (by omega) hl]
  ·have d:Dn f e i j:=by
    rcases hp with y|y
    ·exact .inl y
    ·exact .inr ⟨y.1,by lia⟩
   have E:=a.eq i j hij hj d;have nh:∀b,i<b->b<=j->¬(i=f/\b=e):=λb h1 h2 y=>by
    rcases d with w|w<;>grind
   have nt:∀x,i<x->x<=j->¬(x=f/\j=e):=λx h1 h2 y=>by
    rcases d with w|w<;>lia
   refine⟨λl hl=>?_,λl hl=>?_⟩
   ·rw[u.oh l i j z];exact E.eh l hl
   ·rw[u.ot l i j z,u.ot (l+1) i j z,E.et l hl];congr 2;exact(a2u (k:=j) (λb h1 h2=>u.oh l i b (nh b h1 h2)) λx h1 h2=>u.ot (l+1) x j (nt x h1 h2)).symm
def up2(F:Nat->Nat->OI)(i j:Nat)(v:OI):Nat->Nat->OI:=λa b=>if a=i/\b=j then v else F a b
structure Fln(ps ws:List Int)(h t:Nat->Nat->Nat->OI)(F:Nat->Nat->OI)(pr:Nat->Nat->Prop):Prop where
 fin:Fin ps ws h t F pr
 bd:∀i j,i<j->j<=ws.length->pr i j->bnd ps.length h t i j=F i j
theorem Fln.weak{h t:Nat->Nat->Nat->OI}(a:Fln ps ws h t F pr)(h1:∀i j,i<j->j<=ws.length->pr' i j->pr i j):Fln ps ws h t F pr':=
 ⟨a.fin.weak h1,λi j hij hj hp=>a.bd i j hij hj (h1 i j hij hj hp)⟩
theorem Fln.step{h t h' t':Nat->Nat->Nat->OI}{f e:Nat}(a:Fln ps ws h t F (Dn f e))(hfe:f<e)(he:e<=ws.length)(u:Put ps ws h t h' t' f e (bnd ps.length h t f e) ps.length):∃F',Fln ps ws h' t' F' (Dn f (e+1)):=by
 have nd:∀{i j},Dn f e i j->¬(i=f/\j=e):=λd z=>by rcases d with w|w<;>lia
 have ef:up2 F f e (bnd ps.length h t f e) f e=bnd ps.length h t f e:=by unfold up2;rw[if_pos ⟨rfl,rfl⟩]
 have a':Fin ps ws h t (up2 F f e (bnd ps.length h t f e)) (Dn f e):=⟨a.fin.dg,a.fin.ed,λi j hij hj hp=>⟨λl hl=>by
  unfold up2;rw[if_neg (nd hp)];exact(a.fin.eq i j hij hj hp).eh l hl,(a.fin.eq i j hij hj hp).et⟩⟩
 refine⟨up2 F f e (bnd ps.length h t f e),a'.step hfe he (by rw[ef];exact u),λi j hij hj hp=>?_⟩;by_cases z:i=f/\j=e
 ·obtain⟨rfl,rfl⟩:=z;rw[ef,a5Z hij (λl b h1 h2=>u.oh l i b (by lia)) (λl x h1 h2=>u.ot l x j (by lia))]
 ·have d:Dn f e i j:=by
   rcases hp with y|y
   ·exact .inl y
   ·exact .inr ⟨y.1,by omega⟩
  unfold up2;rw[if_neg z,a5Z hij (λl b h1 h2=>u.oh l i b (λy=>by rcases d with w|w<;>omega)) (λl x h1 h2=>u.ot l x j (λy=>by rcases d with w|w<;>omega))];exact a.bd i j hij hj d
abbrev NPl:List Str:=["prices","weights","parted","first","end"]
def spPl(C:Addr):Sp:=λvs H Q _=>∃(p q:Addr)(ps ws:List Int),vs=[.ref p,.ref q]/\TW H p ps/\TW H q ws/\Num ps ws/\∀(r:Addr) X h t F H',a0r H H'->PAt C H' r p ps ws X h t->Fln ps ws h t F (λ_ _=>True)->Q (.ref r) H'
theorem scPl:a0k NPl ["prices","weights"] (a0g sPl):=fsk
theorem ok_pl(F:Fun K "parted_least" "parted_least" sPl f fd)(cl:Cl P w K mg base C)(MP:Mt P w K mg base C "put" ["self","first","end","floor"] (a6M C) 4)(MB:Mt P w K mg base C "bound" ["self","first","end"] (b0b C) 4)(ml:mg "len"=none)(mr:mg "range"=none):a0I P w K mg base CX0 5 f fd ["prices","weights"] (spPl C):=by
 refine F.ok (k:=4) scPl (λvs H Q E h=>?_) (λcdv A outer s H vs Q E hr h=>?_)
 ·obtain⟨p,q,ps,ws,rfl,_⟩:=h;rfl
 obtain⟨p,q,ps,ws,rfl,hp,hq,nu,qq⟩:=h;obtain⟨p2,p10,w1,w20,bp,bw⟩:=nu;refine⟨_,a0c (psA (i:=2) scPl (a4L cl.mkk cl.oki hr (by rfl) cl.g cl.bi .nil a1g (a0a (pv 0) (a0a (pv 1) a0d))))
  (a0c (a1d b6K rfl (a3V (by rfl) mr (a0a (a0q a2y (pln ml (pv 1)) a0h) (a0a (a3m a2f a0h) (a0a (a3m a2f a0h) a0d)))) (pgA (i:=3) scPl)
   (a0f (a1d b6K rfl (a1U (by rfl) mr (a0a (a0q a0K (pv 3) a0h) (a0a (a0q a0K (pln ml (pv 1)) a0h) a0d))) (pgA (i:=4) scPl)
    (a0f (a0J (a0T (pv 2) cl.rc.c MP.m MP.ok hr MP.b .nil a1g (a0a (pv 3) (a0a (pv 4) (a0a (a0T (pv 2) cl.rc.c MB.m MB.ok hr MB.b .nil a1g (a0a (pv 3) (a0a (pv 4) a0d))) a0d)))))))))
  (a0f (a0o (pv 2)))),?_⟩
 refine⟨_,rfl,_,rfl,λr dx rn hdx _=>?_⟩;have sm:a0r H (upd (upd H dx (.own r)) r (.ins C dx [])):=a0l rn (a0e hdx _);refine⟨r,dx,p,q,ps,ws,rfl,a0b,sm _ _ hp,sm _ _ hq,by exact b6y ‹_›,p10,w20,λH1 X k1 pa1 fz=>⟨rfl,?_⟩⟩;have s1:a0r H H1:=λa o e=>k1 a o (λz=>by rw[z,rn] at e;cases e) (sm a o e);have fz':∀a,Z X ps.length (ws.length+1) a->H a=none:=λa hz=>sm.free (fz a hz);have nz:∀{a o},H a=some o->¬Z X ps.length (ws.length+1) a:=λe hz=>by rw[fz' _ hz] at e;cases e
 have st0:∃F,Fln ps ws h0 t0 F (λi _=>ws.length<=i):=⟨λ_ _=>none,⟨λl i _ _=>if_pos rfl,λi j hij _=>if_neg (by lia),λi j hij hj hp=>absurd hp (by show ¬ws.length<=i;lia)⟩,λi j hij hj hp=>absurd hp (by show ¬ws.length<=i;omega)⟩
 refine⟨_,rfl,q,_,rfl,.inr (SqT.of (s1 _ _ hq)),_,_,rfl,rfl,_,rfl,_,rfl,_,rfl,⟨by rw[b6b];lia,by rw[b6b];lia⟩,?_⟩;rw[b6b,show((ws.length:Int)-1+1).toNat=ws.length by simp];refine a2t (λm σ H'=>a0r H H'/\(∃h t F,PAt C H' r p ps ws X h t/\Fln ps ws h t F (λi _=>ws.length-m<=i))/\∃x3 x4:Option V,σ=[some (.ref p),some (.ref q),some (.ref r),x3,x4])
  ⟨s1,(by obtain⟨F,hF⟩:=st0;exact⟨h0,t0,F,pa1,hF⟩),_,_,rfl⟩ (λm σ H2 hm hP=>?_) (λσ H2 hP=>?_)
 ·obtain⟨s2,⟨h,t,F,pa2,fn2⟩,x3,x4,rfl⟩:=hP;obtain⟨f,ef⟩:∃f,f=ws.length-1-m:=⟨_,rfl⟩
  have ev:(ws.length:Int)-1+(m:Int)*(-1)=(f:Int):=by grind
  rw[ev];have hf:f<ws.length:=by lia
  refine⟨_,rfl,_,_,rfl,rfl,_,rfl,q,_,rfl,.inr (SqT.of (s2 _ _ hq)),_,_,rfl,rfl,_,_,rfl,⟨by omega,by grind,by rw[b6b];lia,by rw[b6b];lia⟩,?_⟩;refine a0Z (λk σ H'=>a0r H H'/\(∃h t F,PAt C H' r p ps ws X h t/\Fln ps ws h t F (Dn f (f+1+k)))/\∃x4:Option V,σ=[some (.ref p),some (.ref q),some (.ref r),some (.int (f:Int)),x4])
   ⟨s2,⟨h,t,F,pa2,fn2.weak λi j hij hj d=>by show ws.length-m<=i;rcases d with z|z<;>grind⟩,_,rfl⟩ (λk σ H3 hk hP=>?_) (λσ H3 hP=>?_)
  ·obtain⟨s3,⟨h3,t3,F3,pa3,fn3⟩,x4,rfl⟩:=hP;have hk':f+1+k<=ws.length:=by
    have:(ws.map V.int).length=ws.length:=b6b ..
    grind
   have ee:(f:Int)+1+(k:Int)=((f+1+k:Nat):Int):=by push_cast;simp
   rw[ee];obtain⟨dx3,ho3⟩:=pa3.ob;refine⟨_,rfl,r,dx3,_,rfl,ho3,rfl,_,rfl,_,rfl,_,rfl,r,dx3,_,rfl,ho3,rfl,_,rfl,_,rfl,r,p,ps,ws,X,h3,t3,f,f+1+k,rfl,pa3,w20,p10,by exact b9L _ _,hk',λH4 s4=>?_⟩;refine⟨r,p,ps,ws,X,h3,t3,f,f+1+k,_,rfl,pa3.same s4,w20,by exact b6y ‹_›,p10,bp,bw,by omega,hk',λH5 h5 t5 k5 pa5 u=>?_⟩;obtain⟨F5,fn5⟩:=fn3.step (by omega) hk' u;exact⟨λa o e=>k5 a o (nz e) (s4 _ _ (s3 _ _ e)),⟨h5,t5,F5,pa5,fn5⟩,_,rfl⟩
  ·obtain⟨s3,⟨h3,t3,F3,pa3,fn3⟩,x4,rfl⟩:=hP;have en:(((((ws.map V.int).length:Nat):Int)+1)-((f:Int)+1)).toNat=ws.length-f:=by rw[b6b];grind
   rw[en] at fn3;exact⟨s3,⟨h3,t3,F3,pa3,fn3.weak λi j hij hj d=>by
    have d:ws.length-(m+1)<=i:=d;by_cases z:f<i
    ·exact .inl z
    ·exact .inr ⟨by lia,by grind⟩⟩,_,_,rfl⟩
 ·obtain⟨s2,⟨h,t,F,pa2,fn2⟩,x3,x4,rfl⟩:=hP;exact⟨_,rfl,qq r X h t F H2 s2 pa2 (fn2.weak λi j _ _ _=>by show ws.length-ws.length<=i;simp)⟩
end K95C
set_option exponentiation.threshold 2000
namespace K95C
open PySem L2
namespace CT
abbrev Code:=List (List Int)
def Bk(L l m:Nat):List (Nat×Nat):=(List.range (L-l)).flatMap λa=>(List.range m).map λb=>(l+a,b)
theorem a1y:q∈Bk L l m↔l<=q.1/\q.1<L/\q.2<m:=by
 unfold Bk;constructor
 ·intro h;obtain⟨a,ha,h⟩:=b9f.mp h;obtain⟨b,hb,rfl⟩:=b6x.mp h;have:=b6V.mp ha;have:=b6V.mp hb;exact⟨by show l<=l+a;simp,by show l+a<L;omega,by assumption⟩
 ·rintro⟨h1,h2,h3⟩;refine b9f.mpr ⟨q.1-l,b6V.mpr (by grind),b6x.mpr ⟨q.2,b6V.mpr h3,?_⟩⟩;rw[show l+(q.1-l)=q.1 by grind]
section
variable (L n:Nat)(h t:Nat->Nat->Nat->OI)(F:Nat->Nat->OI)(p:Nat->Int)(W:Nat->Nat->Int)
def vl(i j:Nat)(q:Nat×Nat):OI:=oadd (h q.1 i (i+q.2+1)) (t (q.1+1) (i+q.2+1) j)
structure Tb:Prop where
 dg:∀l j,l<=L->j<=n->t l j j=some 0
 tt:∀l i j,l<=L->i<j->j<=n->t l i j=lo ((Bk L l (j-i)).map (vl h t i j))
 ff:∀i j,i<j->j<=n->F i j=if j-i=1 then some 0 else lo ((Bk L 0 (j-1-i)).map (vl h t i j))
 hh:∀l i j,l<L->i<j->j<=n->h l i j=oadd (some (p l*W i j)) (F i j)
 tn:∀l i j,l<L->i<j->j<=n->t l i j≠none
 fn:∀i j,i<j->j<=n->F i j≠none
 pw:∀l i j,l<L->i<j->j<=n->0<p l*W i j
variable (cd:Nat->Nat->Nat)(tl:Nat->Nat->Nat->Nat)
def ovr(l i j:Nat):Nat:=(((Bk L l (j-i)).filter λq=>decide (vl h t i j q=t l i j)).map λq=>cd i (i+q.2+1)*tl (q.1+1) (i+q.2+1) j).sum
end
def ahd(l:Nat)(c:Code):Code:=c.map λw=>(l:Int)::w
theorem a4y{α β:Type}{f g:α->List β}:∀{xs:List α},(∀x∈xs,f x=g x)->xs.flatMap f=xs.flatMap g
 |[],_=>rfl
 |x::xs,h=>by rw[c0v,c0v,h x (.head _),a4y λy hy=>h y (.tail _ hy)]
end CT
end K95C
set_option exponentiation.threshold 2000
namespace K95C
open PySem L2
abbrev Po(ns:List Int):Prop:=∀x∈ns,(1:Int)<=x
theorem b3q{ws:List Int}{i j:Nat}(bw:Po ws)(hij:i<j)(hj:j<=ws.length):1<=Wt ws i j:=by
 rw[Wt_is (by exact b6y ‹_›)];have:∀xs:List Int,xs≠[]->(∀x∈xs,1<=x)->1<=xs.sum:=by
  intro xs
  induction xs with
  |nil=>intro h;exact absurd rfl h
  |cons x xs ih=>
   intro _ h;rw[b9t];have h1:=h x (.head _);by_cases e:xs=[]
   ·rw[e,List.sum_nil];lia
   ·have:=ih e λy hy=>h y (.tail _ hy)
    lia
 refine this _ (λz=>?_) λx hx=>bw x (b7h (b9c hx));have:=b7d List.length z;rw[b7r,b6l,b8M] at this
 grind
theorem b3r{ps:List Int}{l:Nat}(bp:Po ps)(hl:l<ps.length):1<=pl ps l:=by
 have:pl ps l=ps[l]'hl:=by
  unfold pl;rw[b6q,b6f hl];rfl
 rw[this];exact bp _ (b7w hl)
theorem b5e{L l m:Nat}(h:l<L):CT.Bk L l m=((List.range m).map λb=>(l,b))++CT.Bk L (l+1) m:=by
 unfold CT.Bk;obtain⟨k,hk⟩:∃k,L-l=k+1:=⟨L-l-1,by grind⟩
 rw[hk,show L-(l+1)=k by grind,List.range_succ_eq_map,c0v,List.flatMap_map];congr 1;refine CT.a4y λa _=>?_;refine b6J λb _=>?_;rw[show l+(a+1)=l+1+a by lia]
theorem b5f(xs ys:List OI):lo (xs++ys)=lo [lo xs,lo ys]:=a9Q xs ys
theorem Fln.tt{ps ws:List Int}{h t:Nat->Nat->Nat->OI}{F:Nat->Nat->OI}(a:Fln ps ws h t F (λ_ _=>True)):∀k l i j,l+k=ps.length->i<j->j<=ws.length->t l i j=lo ((CT.Bk ps.length l (j-i)).map (CT.vl h t i j))
 |0,l,i,j,hl,hij,hj=>by
  have e:l=ps.length:=by assumption
  subst e;rw[a.fin.ed i j hij hj];unfold CT.Bk;rw[c0M];exact b3m.symm
 |k+1,l,i,j,hl,hij,hj=>by
  rw[(a.fin.eq i j hij hj trivial).et l (by lia),b5e (by omega),b6g,b5f,a.tt k (l+1) i j (by grind) hij hj,b7v];rfl
theorem Fln.ff{ps ws:List Int}{h t:Nat->Nat->Nat->OI}{F:Nat->Nat->OI}(a:Fln ps ws h t F (λ_ _=>True)){i j:Nat}(hij:i<j)(hj:j<=ws.length):F i j=if j-i=1 then some 0 else lo ((CT.Bk ps.length 0 (j-1-i)).map (CT.vl h t i j)):=by
 rw[<-a.bd i j hij hj trivial];unfold bnd;split
 ·rfl
 ·unfold CT.Bk;rw[Nat.sub_zero,List.map_flatMap,b4W];congr 1;refine b6J λl _=>?_;rw[b7v,Nat.zero_add];rfl
theorem Fln.tn{ps ws:List Int}{h t:Nat->Nat->Nat->OI}{F:Nat->Nat->OI}(a:Fln ps ws h t F (λ_ _=>True)){l i j:Nat}(hl:l<ps.length)(hij:i<j)(hj:j<=ws.length)(fn:F i j≠none):t l i j≠none:=by
 rw[a.tt (ps.length-l) l i j (by lia) hij hj];intro z;cases f:F i j with
 |none=>exact fn f
 |some x=>
  refine a3f.mp z (pl ps l*Wt ws i j+x+0) (b6x.mpr ⟨(l,j-i-1),CT.a1y.mpr ⟨b6k _,hl,by show j-i-1<j-i;grind⟩,?_⟩);show oadd (h l i (i+(j-i-1)+1)) (t (l+1) (i+(j-i-1)+1) j)=_;rw[show i+(j-i-1)+1=j by grind,(a.fin.eq i j hij hj trivial).eh l hl,a.fin.dg (l+1) j (by assumption) hj,f];rfl
theorem Fln.fn{ps ws:List Int}{h t:Nat->Nat->Nat->OI}{F:Nat->Nat->OI}(a:Fln ps ws h t F (λ_ _=>True))(hL:2<=ps.length):∀d i j,j-i<=d->i<j->j<=ws.length->F i j≠none
 |0,i,j,hd,hij,hj=>by grind
 |d+1,i,j,hd,hij,hj=>by
  rw[a.ff hij hj];split
  ·intro z;cases z
  intro z;cases e1:F i (i+1) with
  |none=>exact a.fn hL d i (i+1) (by lia) (by simp) (by lia) e1
  |some x=>
  cases e2:t 1 (i+1) j with
  |none=>exact a.tn hL (by lia) hj (a.fn hL d (i+1) j (by grind) (by omega) hj) e2
  |some y=>
   refine a3f.mp z (pl ps 0*Wt ws i (i+1)+x+y) (b6x.mpr ⟨(0,0),CT.a1y.mpr ⟨b6k _,by exact b6y ‹_›,by show 0<_;grind⟩,?_⟩);show oadd (h 0 i (i+1)) (t 1 (i+1) j)=_;rw[e2,(a.fin.eq i (i+1) (by simp) (by omega) trivial).eh 0 (by exact b6y ‹_›),e1];rfl
theorem Fln.tb{ps ws:List Int}{h t:Nat->Nat->Nat->OI}{F:Nat->Nat->OI}(a:Fln ps ws h t F (λ_ _=>True))(hL:2<=ps.length)(bp:Po ps)(bw:Po ws):CT.Tb ps.length ws.length h t F (pl ps) (Wt ws):=
 have fn:∀i j,i<j->j<=ws.length->F i j≠none:=λi j=>a.fn hL (j-i) i j (b6k _)
 ⟨a.fin.dg,λl i j hl=>a.tt (ps.length-l) l i j (by grind),λi j=>a.ff,λl i j hl hij hj=>(a.fin.eq i j hij hj trivial).eh l hl,λl i j hl hij hj=>a.tn hl hij hj (fn i j hij hj),fn,λl i j hl hij hj=>Int.mul_pos (b3r bp hl) (b3q bw hij hj)⟩
section
variable {P':Program}{w:World}{K:PySem.W.Frag}{mg:Str->Option Value}{base:Heap}{f:Addr}{fd:FuncData}
def Way(H:Hp)(i:Nat)(x:V)(q:Nat×Nat):Prop:=∃a,x=.ref a/\H a=some (.tup [.int (q.1:Int),.int ((i+q.2+1:Nat):Int)])
theorem Way.same{H H':Hp}{i:Nat}{x:V}{q:Nat×Nat}(s:a0r H H')(h:Way H i x q):Way H' i x q:=by
 obtain⟨a,rfl,e⟩:=h;exact⟨a,rfl,s _ _ e⟩
theorem Way.upd{H:Hp}{i:Nat}{x:V}{q:Nat×Nat}{d:Addr}{zs:List V}{o:HO}(hd:H d=some (.lst zs))(h:Way H i x q):Way (L2.upd H d o) i x q:=by
 obtain⟨a,rfl,e⟩:=h;exact⟨a,rfl,by rw[a0i (a0B e hd (by intro z;cases z))];exact e⟩
abbrev NWy:List Str:=["self","letter","first","end","goal","found","way","cut"]
def wys(L:Nat)(h t:Nat->Nat->Nat->OI)(l i j:Nat):List (Nat×Nat):=(CT.Bk L l (j-i)).filter λq=>decide (CT.vl h t i j q=t l i j)
def a4w(C:Addr):Sp:=λvs H Q _=>∃(r p:Addr)(ps ws:List Int)(X:Ad)(h t:Nat->Nat->Nat->OI)(l i j:Nat),vs=[.ref r,.int (l:Int),.int (i:Int),.int (j:Int)]/\PAt C H r p ps ws X h t/\ws.length<=24/\ps.length<=10/\l<ps.length/\i<j/\j<=ws.length /\
 ∀(d:Addr) xs H',a0r H H'->H' d=some (.lst xs)->Paired (Way H' i) xs (wys ps.length h t l i j)->Q (.ref d) H'
theorem a2m:a0k NWy ["self","letter","first","end"] (a0g a6H):=fsk
theorem scal_O(a b:OI):scal (oV a) (oV b)=true:=by cases a<;>cases b<;>rfl
theorem oV_inj{a b:OI}(h:oV a=oV b):a=b:=by
 cases a<;>cases b<;>first|rfl|cases h|skip
 rfl
theorem a6J{C:Addr}(F:Fun K "ways" "Parted.ways" a6H f fd)(GA:Fns P' w K mg base ["one","other"] "added" a5i 2)(rc:PC K C)(ml:mg "len"=none)(mr:mg "range"=none):a0I P' w K mg base CX0 3 f fd ["self","letter","first","end"] (a4w C):=by
 refine F.ok (k:=2) a2m (λvs H Q E h=>?_) (λcdv A outer s H vs Q E hr h=>?_)
 ·obtain⟨r,p,ps,ws,X,h,t,l,i,j,rfl,_⟩:=h;rfl
 obtain⟨r,p,ps,ws,X,h,t,l,i,j,rfl,pa,w20,p10,hl,hij,hj,q⟩:=h;refine⟨_,a0c (psA (i:=4) a2m (pxA a0m (pxA a0m (pxA a0m (a0s (pv 0) rfl) (pv 1)) (pv 2)) (pv 3)))
  (a0c (psA (i:=5) a2m (a1p a0d))
  (a0c (a1d b6K rfl (a1U (by rfl) mr (a0a (pv 1) (a0a (pln ml (a0s (pv 0) rfl)) a0d))) (pgA (i:=6) a2m)
   (a0f (a1d b6K rfl (a1U (by rfl) mr (a0a (a0q a0K (pv 2) a0h) (a0a (a0q a0K (pv 3) a0h) a0d))) (pgA (i:=7) a2m)
    (a0f (a0z (a0p a0U (pcF GA hr (a0a (pxA a0m (pxA a0m (pxA a0m (a0s (pv 0) rfl) (pv 6)) (pv 2)) (pv 7)) (a0a (pxA a0m (pxA a0m (pxA a0m (a0s (pv 0) rfl) (a0q a0K (pv 6) a0h)) (pv 7)) (pv 3)) a0d))) (pv 4) (nomark _))
     (a0f (a0J (a1N b6E b6S b6T a1b (pv 5) (a0a (a1v (a0a (pv 6) (a0a (pv 7) a0d))) a0d)))) a0n)))))
  (a0f (a0o (pv 5))))),?_⟩
 obtain⟨dx,ho⟩:=pa.ob;have i1:i<ws.length+1:=by lia
 have j1:j<ws.length+1:=by lia
 refine⟨_,rfl,r,C,dx,_,_,rfl,ho,rc.c,rc.nt,rfl,_,rfl,X.tt,_,_,_,rfl,rfl,SqL.of pa.tl.o,a0G (k:=l) (by lia),_,rfl,X.bt l,_,_,_,rfl,rfl,SqL.of (pa.tl.b l (by omega)),a0G i1,_,rfl,X.ct l i,_,_,_,rfl,rfl,SqL.of (pa.tl.c l i (by omega) i1),a0G j1,?_⟩;refine⟨(by show 0<=sizeLine;decide),λd hd=>?_⟩;have s1:=a0e hd (.lst []);have g1:upd H d (.lst []) d=some (.lst []):=a0b;generalize upd H d (.lst [])=H1 at s1 g1 ⊢;refine⟨_,rfl,_,rfl,r,C,dx,_,_,rfl,s1 _ _ ho,rc.c,rc.np,rfl,p,_,rfl,.inr (SqT.of (s1 _ _ pa.hp)),?_⟩;rw[b6b];refine⟨_,_,rfl,⟨by simp,by lia,by simp,by lia⟩,?_⟩;have e0:((ps.length:Int)-(l:Int)).toNat=ps.length-l:=by simp
 rw[e0]
 let pw:Nat×Nat->Bool:=λq=>decide (CT.vl h t i j q=t l i j)
 have fin:∀a,(((List.range a).flatMap λa=>(List.range (j-i)).map λb=>(l+a,b)).filter pw).length<=a*(j-i):=λa=>by
  refine b6R (b8v _ _) ?_
  induction a with
  |zero=>simp
  |succ a ih=>rw[b7t,b9h,b6o,c0K];simp;simp at ih;assumption
 refine a0Z (λa σ H'=>a0r H H'/\(∃xs,H' d=some (.lst xs)/\Paired (Way H' i) xs (((List.range a).flatMap λa=>(List.range (j-i)).map λb=>(l+a,b)).filter pw))/\∃x6 x7:Option V,σ=[some (.ref r),some (.int (l:Int)),some (.int (i:Int)),some (.int (j:Int)),some (oV (t l i j)),some (.ref d),x6,x7])
  ⟨s1,⟨[],g1,.nil⟩,_,_,rfl⟩ (λa σ H2 ha hP=>?_) (λσ H2 hP=>?_)
 ·obtain⟨s2,⟨xs2,g2,w2⟩,x6,x7,rfl⟩:=hP;have ea:(l:Int)+(a:Int)=((l+a:Nat):Int):=by push_cast;rfl
  rw[ea];refine⟨_,rfl,_,_,rfl,rfl,_,rfl,_,_,rfl,rfl,_,_,rfl,⟨by lia,by lia,by lia,by lia⟩,?_⟩;have e1:(((j:Int)+1)-((i:Int)+1)).toNat=j-i:=by grind
  rw[e1];refine a0Z (λb σ H'=>a0r H H'/\(∃xs,H' d=some (.lst xs)/\Paired (Way H' i) xs ((((List.range a).flatMap λa=>(List.range (j-i)).map λb=>(l+a,b))++(List.range b).map λb=>(l+a,b)).filter pw))/\∃x7:Option V,σ=[some (.ref r),some (.int (l:Int)),some (.int (i:Int)),some (.int (j:Int)),some (oV (t l i j)),some (.ref d),some (.int ((l+a:Nat):Int)),x7])
   ⟨s2,⟨xs2,g2,by rw[List.range_zero,b8N,b7e];exact w2⟩,_,rfl⟩ (λb σ H3 hb hP=>?_) (λσ H3 hP=>?_)
  ·obtain⟨s3,⟨xs,g3,w3⟩,x7,rfl⟩:=hP;have eb:(i:Int)+1+(b:Int)=((i+b+1:Nat):Int):=by push_cast;lia
   rw[eb];have pa3:=pa.same s3;have hla:l+a<ps.length:=by grind
   have hb1:i+b+1<ws.length+1:=by grind
   have lx:xs.length<=500:=by
    rw[w3.length];have h1:=fin a;have h2:a*(j-i)<=10*24:=c0Q (by lia) (by grind);rw[b7Q,b6o];have h3:=b8v pw ((List.range b).map λb=>(l+a,b));rw[b6b,b6C] at h3
    lia
   refine⟨_,rfl,r,C,dx,_,_,rfl,s3 _ _ ho,rc.c,rc.nh,rfl,_,rfl,X.th,_,_,_,rfl,rfl,SqL.of pa3.hd.o,a0G hla,_,rfl,X.bh (l+a),_,_,_,rfl,rfl,SqL.of (pa3.hd.b (l+a) hla),a0G i1,_,rfl,X.ch (l+a) i,_,_,_,rfl,rfl,SqL.of (pa3.hd.c (l+a) i hla i1),a0G hb1,?_⟩;refine⟨_,rfl,r,C,dx,_,_,rfl,s3 _ _ ho,rc.c,rc.nt,rfl,_,rfl,_,_,rfl,rfl,X.tt,_,_,_,rfl,rfl,SqL.of pa3.tl.o,a0G (k:=l+a+1) (by lia),_,rfl,X.bt (l+a+1),_,_,_,rfl,rfl,SqL.of (pa3.tl.b (l+a+1) (by omega)),a0G hb1,_,rfl,X.ct (l+a+1) (i+b+1),_,_,_,rfl,rfl,SqL.of (pa3.tl.c (l+a+1) (i+b+1) (by omega) hb1),a0G j1,?_⟩;refine⟨_,_,rfl,_,rfl,scal_O _ _,_,rfl,?_⟩;have ef:(((List.range a).flatMap λa=>(List.range (j-i)).map λb=>(l+a,b))++(List.range (b+1)).map λb=>(l+a,b)).filter pw=(((List.range a).flatMap λa=>(List.range (j-i)).map λb=>(l+a,b))++(List.range b).map λb=>(l+a,b)).filter pw++(if pw (l+a,b)=true then [(l+a,b)] else []):=by
    rw[b7t,b6g,<-b8B,b7Q];congr 1;show[(l+a,b)].filter pw=_;rw[List.filter_cons];rfl
   refine a2c (λy=>?_) (λy=>?_)
   ·have y1:pw (l+a,b)=true:=b6i (oV_inj (b6B y));refine⟨_,rfl,.inl ⟨rfl,_,SqL.of g3⟩,_,rfl,_,rfl,(by show 2<=sizeLine;decide),λtt htt=>?_⟩;have s4:=a0e htt (.tup [.int ((l+a:Nat):Int),.int ((i+b+1:Nat):Int)]);have g4:=s4 _ _ g3;have ht4:upd H3 tt (.tup [.int ((l+a:Nat):Int),.int ((i+b+1:Nat):Int)]) tt=some (.tup [.int ((l+a:Nat):Int),.int ((i+b+1:Nat):Int)]):=a0b;generalize upd H3 tt (.tup [.int ((l+a:Nat):Int),.int ((i+b+1:Nat):Int)])=H4 at s4 g4 ht4 ⊢;refine⟨d,_,_,rfl,rfl,g4,a0j (by lia),a0l hd (s3.trans s4),⟨_,a0b,?_⟩,_,rfl⟩;rw[ef,if_pos y1];exact L2.Paired.appendP (Paired.mapP w3 λ_ _ r=>(r.same s4).upd g4) (.cons (Way.upd g4 ⟨tt,rfl,ht4⟩) .nil)
   ·have y1:¬pw (l+a,b)=true:=λz=>y (b6i (b7d oV (b6B z)));exact⟨s3,⟨xs,g3,by rw[ef,if_neg y1,b7e];exact w3⟩,_,rfl⟩
  ·obtain⟨s3,⟨xs,g3,w3⟩,x7,rfl⟩:=hP;refine⟨s3,⟨xs,g3,?_⟩,_,_,rfl⟩;rw[b7t,b9h];simpa using w3
 ·obtain⟨s2,⟨xs2,g2,w2⟩,x6,x7,rfl⟩:=hP;exact⟨_,rfl,q d xs2 H2 s2 g2 w2⟩
end
end K95C
set_option exponentiation.threshold 2000
namespace K95C
open PySem L2
namespace CT
section
variable {L n:Nat}{h t:Nat->Nat->Nat->OI}{F:Nat->Nat->OI}{p:Nat->Int}{W:Nat->Nat->Int}
theorem only(T:Tb L n h t F p W){i w:Nat}(hw:i+w<=n)(h2:2<=w):∀q∈Bk L 0 w,vl h t i (i+w) q=t 0 i (i+w)->q.2<w-1:=by
 intro q hq ev;by_cases z:q.2<w-1
 ·exact z
 exfalso;obtain⟨_,q2,q3⟩:=a1y.mp hq;have e3:i+q.2+1=i+w:=by lia
 have es:vl h t i (i+w) q=oadd (oadd (some (p q.1*W i (i+w))) (F i (i+w))) (some 0):=by
  unfold vl;rw[e3,T.hh q.1 i (i+w) q2 (by lia) hw,T.dg (q.1+1) (i+w) (by assumption) hw]
 have et:=T.tt 0 i (i+w) (b6O _) (by omega) hw;rw[show i+w-i=w by simp] at et;have eF:F i (i+w)=lo ((Bk L 0 (w-1)).map (vl h t i (i+w))):=by
  rw[T.ff i (i+w) (by omega) hw,if_neg (by grind),show i+w-1-i=w-1 by lia]
 cases f:F i (i+w) with
 |none=>exact T.fn i (i+w) (by omega) hw f
 |some x=>
  have hx:=(a2G.mp (eF.symm.trans f)).1;obtain⟨r,hr,er⟩:=b6x.mp hx;obtain⟨a,b,c⟩:=a1y.mp hr;obtain⟨m,em,hm⟩:=b1Q (b6x.mpr ⟨r,a1y.mpr ⟨a,b,(by lia:r.2<w)⟩,er⟩:some x∈(Bk L 0 w).map (vl h t i (i+w)));rw[<-et] at em;rw[es,f,em] at ev;have ev:some (p q.1*W i (i+w)+x+0)=some m:=ev;have:=b6I ev;have pos:=T.pw q.1 i (i+w) q2 (by lia) hw
  lia
end
end CT
structure Ctd(L n:Nat)(h t:Nat->Nat->Nat->OI)(Tc:Nat->Nat->OI)(Tt:Nat->Nat->Nat->OI)(c:Nat->Nat->Nat)(u:Nat->Nat->Nat->Nat)(pr:Nat->Nat->Prop):Prop where
 dg:∀l j,l<=L->j<=n->Tt l j j=some 1
 vc:∀i j,i<j->j<=n->pr i j->Tc i j=some (c i j:Int)
 vt:∀l i j,l<L->i<j->j<=n->pr i j->Tt l i j=some (u l i j:Int)
 ec:∀i j,i<j->j<=n->pr i j->c i j=if j-i=1 then 1 else CT.ovr L h t c u 0 i j
 et:∀l i j,l<L->i<j->j<=n->pr i j->u l i j=CT.ovr L h t c u l i j
 td:∀l j,l<=L->j<=n->u l j j=1
 bc:∀i j,i<j->j<=n->pr i j->c i j<=256*65536 ^ (2*(j-i)-2)
 bt:∀l i j,l<L->i<j->j<=n->pr i j->u l i j<=65536 ^ (2*(j-i)-1)
theorem Ctd.weak{h t:Nat->Nat->Nat->OI}(a:Ctd L n h t Tc Tt c u pr)(w:∀i j,i<j->j<=n->pr' i j->pr i j):Ctd L n h t Tc Tt c u pr':=
 ⟨a.dg,λi j hij hj hp=>a.vc i j hij hj (w i j hij hj hp),λl i j hl hij hj hp=>a.vt l i j hl hij hj (w i j hij hj hp),λi j hij hj hp=>a.ec i j hij hj (w i j hij hj hp),λl i j hl hij hj hp=>a.et l i j hl hij hj (w i j hij hj hp),a.td,λi j hij hj hp=>a.bc i j hij hj (w i j hij hj hp),λl i j hl hij hj hp=>a.bt l i j hl hij hj (w i j hij hj hp)⟩
theorem b0d{α:Type}{f:α->Nat}:∀xs:List α,(∀x∈xs,f x<=B)->(xs.map f).sum<=xs.length*B
 |[],_=>by simp
 |x::xs,h=>by
  rw[b6z,b9t,b6F,c0K];have:=b0d xs λy hy=>h y (.tail _ hy);have:=h x (.head _)
  lia
theorem Bk_len(L l m:Nat):(CT.Bk L l m).length=(L-l)*m:=by
 unfold CT.Bk;rw[List.length_flatMap];have:((List.range (L-l)).map λa=>((List.range m).map λb=>(l+a,b)).length)=List.replicate (L-l) m:=by
  rw[List.eq_replicate_iff];refine⟨by rw[b6b,b6C],λx hx=>?_⟩;obtain⟨a,_,rfl⟩:=b6x.mp hx;rw[b6b,b6C]
 rw[this,List.sum_replicate_nat]
theorem a6N{h t:Nat->Nat->Nat->OI}(hL:L<=6)(hw:j-i<=24):(wys L h t l i j).length<=144:=by
 have h1:(wys L h t l i j).length<=(CT.Bk L l (j-i)).length:=b8v _ _;rw[Bk_len] at h1;have h2:(L-l)*(j-i)<=6*24:=c0Q (by lia) hw
 lia
structure Sm1(L n:Nat)(Tc:Nat->Nat->OI)(Tt:Nat->Nat->Nat->OI)(c:Nat->Nat->Nat)(u:Nat->Nat->Nat->Nat)(i j:Nat)(ws:List (Nat×Nat))(B:Nat):Prop where
 a:∀q∈ws,Tc i (i+q.2+1)=some (c i (i+q.2+1):Int)
 b:∀q∈ws,Tt (q.1+1) (i+q.2+1) j=some (u (q.1+1) (i+q.2+1) j:Int)
 c1:∀q∈ws,c i (i+q.2+1)<=2 ^ 1000
 u1:∀q∈ws,u (q.1+1) (i+q.2+1) j<=2 ^ 1000
 d:∀q∈ws,c i (i+q.2+1)*u (q.1+1) (i+q.2+1) j<=B
 g:∀q∈ws,q.1<L/\i+q.2+1<=j
theorem b0e(h:a<=b):65536 ^ a<=65536 ^ b:=Nat.pow_le_pow_right (by decide) h
theorem a6a(h:a<=47):256*65536 ^ a<=2 ^ 1000:=by
 have h1:=b0e h;have h2:32*65536 ^ 47<=2 ^ 1000:=by decide
 lia
theorem b0f{s w x y:Nat}(hs:1<=s)(hw:s<w)(hx:x<=256*65536 ^ (2*s-2))(hy:y<=65536 ^ (2*(w-s)-1)):x*y<=65536 ^ (2*w-2):=by
 have h1:=c0Q hx hy;have e:256*65536 ^ (2*s-2)*65536 ^ (2*(w-s)-1)=256*65536 ^ (2*w-3):=by
  rw[Nat.mul_assoc,<-Nat.pow_add];congr 2
  grind
 have e2:65536 ^ (2*w-2)=65536*65536 ^ (2*w-3):=by
  rw[show 2*w-2=(2*w-3)+1 by grind,Nat.pow_succ,Nat.mul_comm]
 rw[e] at h1;rw[e2]
 lia
theorem Ctd.sm{h t:Nat->Nat->Nat->OI}{f e:Nat}(a:Ctd L n h t Tc Tt c u (Dn f e))(hfe:f<e)(he:e<=n)(n6:n<=24)(hws:∀q∈ws,q.1+1<L+1/\q.2+1<e-f/\(Tt (q.1+1) (f+q.2+1) e≠none->True)/\q.1+1<L):Sm1 L n Tc Tt c u f e ws (65536 ^ (2*(e-f)-2)):=by
 refine⟨λq hq=>?_,λq hq=>?_,λq hq=>?_,λq hq=>?_,λq hq=>?_,λq hq=>?_⟩
 all_goals obtain⟨h1,h2,_,h4⟩:=hws q hq
 ·exact a.vc f (f+q.2+1) (by lia) (by lia) (.inr ⟨rfl,by grind⟩)
 ·exact a.vt (q.1+1) (f+q.2+1) e h4 (by omega) he (.inl (by omega))
 ·have:=a.bc f (f+q.2+1) (by omega) (by omega) (.inr ⟨rfl,by omega⟩);exact b6R this (a6a (by omega))
 ·have:=a.bt (q.1+1) (f+q.2+1) e h4 (by omega) he (.inl (by omega));have h5:=b0e (show 2*(e-(f+q.2+1))-1<=47 by omega);have h6:65536 ^ 47<=2 ^ 1000:=by decide
  lia
 ·have x:=a.bc f (f+q.2+1) (by omega) (by omega) (.inr ⟨rfl,by omega⟩);have y:=a.bt (q.1+1) (f+q.2+1) e h4 (by grind) he (.inl (by lia));rw[show f+q.2+1-f=q.2+1 by lia] at x;rw[show e-(f+q.2+1)=e-f-(q.2+1) by lia] at y;exact b0f (by simp) h2 x y
 ·exact⟨by exact b6y ‹_›,by grind⟩
end K95C
set_option exponentiation.threshold 2000
namespace K95C
open PySem L2
theorem a2o{h t:Nat->Nat->Nat->OI}:q∈wys L h t l i j↔q∈CT.Bk L l (j-i)/\CT.vl h t i j q=t l i j:=by
 unfold wys;rw[c0I,b7m]
theorem a1P{h t:Nat->Nat->Nat->OI}:CT.ovr L h t c u l i j=((wys L h t l i j).map λq=>c i (i+q.2+1)*u (q.1+1) (i+q.2+1) j).sum:=rfl
section
variable {L n:Nat}{h t:Nat->Nat->Nat->OI}{F:Nat->Nat->OI}{p:Nat->Int}{W:Nat->Nat->Int}
theorem a3Z(T:CT.Tb L n h t F p W)(hl:l<L)(hij:i<j)(hj:j<=n)(hq:q∈wys L h t l i j):l<=q.1/\q.1<L/\q.2+1<=j-i/\(q.2+1<j-i->q.1+1<L):=by
 obtain⟨h1,h2⟩:=a2o.mp hq;obtain⟨a,b,c⟩:=CT.a1y.mp h1;refine⟨a,b,by assumption,λhlt=>?_⟩;by_cases e:q.1+1<L
 ·exact e
 ·exfalso;have eL:q.1+1=L:=by lia
  have en:t (q.1+1) (i+q.2+1) j=none:=by
   rw[T.tt (q.1+1) (i+q.2+1) j (by assumption) (by grind) hj,eL];unfold CT.Bk;rw[c0M];exact b3m
  refine T.tn l i j hl hij hj ?_;rw[<-h2];unfold CT.vl;rw[en];cases h q.1 i (i+q.2+1)<;>rfl
theorem b5g(T:CT.Tb L n h t F p W)(hL:0<L)(hij:i+2<=j)(hj:j<=n)(hq:q∈wys L h t 0 i j):q.2+1<j-i/\q.1+1<L:=by
 have h1:=a3Z T hL (by exact b6y ‹_›) hj hq;obtain⟨h2,h3⟩:=a2o.mp hq;have:=CT.only T (i:=i) (w:=j-i) (by grind) (by grind) q h2 (by rw[show i+(j-i)=j by grind];exact h3);exact⟨by grind,h1.2.2.2 (by omega)⟩
def upc(c:Nat->Nat->Nat)(f e v:Nat):Nat->Nat->Nat:=λa b=>if a=f/\b=e then v else c a b
theorem a4z{f e v:Nat}:upc c f e v f e=v:=if_pos ⟨rfl,rfl⟩
theorem a4A{f e v a b:Nat}(h:¬(a=f/\b=e)):upc c f e v a b=c a b:=if_neg h
def upu(u:Nat->Nat->Nat->Nat)(f e:Nat)(g:Nat->Nat):Nat->Nat->Nat->Nat:=λl a b=>if a=f/\b=e then g l else u l a b
theorem b0g{f e:Nat}:upu u f e g l f e=g l:=if_pos ⟨rfl,rfl⟩
theorem a4B{f e:Nat}(h:¬(a=f/\b=e)):upu u f e g l a b=u l a b:=if_neg h
variable {Tc:Nat->Nat->OI}{Tt:Nat->Nat->Nat->OI}{c:Nat->Nat->Nat}{u:Nat->Nat->Nat->Nat}{f e:Nat}
def v0(L:Nat)(h t:Nat->Nat->Nat->OI)(c:Nat->Nat->Nat)(u:Nat->Nat->Nat->Nat)(f e:Nat):Nat:=if e-f=1 then 1 else CT.ovr L h t c u 0 f e
theorem Ctd.s0(T:CT.Tb L n h t F p W)(hL:0<L)(a:Ctd L n h t Tc Tt c u (Dn f e))(hfe:f+2<=e)(he:e<=n)(n6:n<=24):Sm1 L n Tc Tt c u f e (wys L h t 0 f e) (65536 ^ (2*(e-f)-2)):=
 a.sm (by omega) he n6 λq hq=>by
  have:=b5g T hL hfe he hq;exact⟨by lia,this.1,λ_=>trivial,this.2⟩
set_option tactic.hygienic true in
theorem Ctd.v0_le(T:CT.Tb L n h t F p W)(hL:0<L)(L4:L<=6)(a:Ctd L n h t Tc Tt c u (Dn f e))(hfe:f<e)(he:e<=n)(n6:n<=24):v0 L h t c u f e<=256*65536 ^ (2*(e-f)-2):=by
 unfold v0;split
 ·rename_i z;rw[z];decide
 ·have s:=a.s0 T hL (by lia) he n6;rw[a1P];have h1:=b0d (f:=λq:Nat×Nat=>c f (f+q.2+1)*u (q.1+1) (f+q.2+1) e) (wys L h t 0 f e) s.d;have h2:=a6N (L:=L) (l:=0) (i:=f) (j:=e) (h:=h) (t:=t) L4 (by lia);have h3:=b9R (65536 ^ (2*(e-f)-2)) h2
  grind
theorem Ctd.sl(T:CT.Tb L n h t F p W)(hL:0<L)(L4:L<=6)(a:Ctd L n h t Tc Tt c u (Dn f e))(hfe:f<e)(he:e<=n)(n6:n<=24)(hl:l<L):Sm1 L n (up2 Tc f e (some (v0 L h t c u f e:Int))) Tt (upc c f e (v0 L h t c u f e)) u f e (wys L h t l f e) (256*65536 ^ (2*(e-f)-2)):=by
 have hv:=a.v0_le T hL L4 hfe he n6;have key:∀q∈wys L h t l f e,(f+q.2+1=e/\q.1<L)\/(f+q.2+1<e/\q.1+1<L):=λq hq=>by
  obtain⟨h1,h2,h3,h4⟩:=a3Z T hl hfe he hq;by_cases z:q.2+1<e-f
  ·exact .inr ⟨by grind,h4 z⟩
  ·exact .inl ⟨by grind,h2⟩
 have tc:∀q∈wys L h t l f e,f+q.2+1<e->up2 Tc f e (some (v0 L h t c u f e:Int)) f (f+q.2+1)=Tc f (f+q.2+1)/\upc c f e (v0 L h t c u f e) f (f+q.2+1)=c f (f+q.2+1):=λq _ hlt=>by
  refine⟨?_,a4A (by lia)⟩;unfold up2;rw[if_neg (by omega)]
 have te:up2 Tc f e (some (v0 L h t c u f e:Int)) f e=some (v0 L h t c u f e:Int):=by unfold up2;rw[if_pos ⟨rfl,rfl⟩]
 refine⟨λq hq=>?_,λq hq=>?_,λq hq=>?_,λq hq=>?_,λq hq=>?_,λq hq=>?_⟩
 all_goals rcases key q hq with ⟨k1,k2⟩|⟨k1,k2⟩
 ·rw[k1,te,a4z]
 ·rw[(tc q hq k1).1,(tc q hq k1).2];exact a.vc f (f+q.2+1) (by lia) (by lia) (.inr ⟨rfl,by assumption⟩)
 ·rw[k1,a.dg (q.1+1) e (by assumption) he,a.td (q.1+1) e (by assumption) he];rfl
 ·exact a.vt (q.1+1) (f+q.2+1) e k2 (by assumption) he (.inl (by omega))
 ·rw[k1,a4z];exact b6R hv (a6a (by lia))
 ·rw[(tc q hq k1).2];have:=a.bc f (f+q.2+1) (by omega) (by omega) (.inr ⟨rfl,by assumption⟩);exact b6R this (a6a (by omega))
 ·rw[k1,a.td (q.1+1) e (by assumption) he];decide
 ·have:=a.bt (q.1+1) (f+q.2+1) e k2 (by assumption) he (.inl (by omega));have h5:=b0e (show 2*(e-(f+q.2+1))-1<=47 by omega);have h6:65536 ^ 47<=2 ^ 1000:=by decide
  lia
 ·rw[k1,a4z,a.td (q.1+1) e (by assumption) he,Nat.mul_one];exact hv
 ·rw[(tc q hq k1).2];have x:=a.bc f (f+q.2+1) (by omega) (by omega) (.inr ⟨rfl,by assumption⟩);have y:=a.bt (q.1+1) (f+q.2+1) e k2 (by assumption) he (.inl (by omega));rw[show f+q.2+1-f=q.2+1 by lia] at x;rw[show e-(f+q.2+1)=e-f-(q.2+1) by lia] at y;have:=b0f (by simp) (by grind) x y
  lia
 ·exact⟨k2,by lia⟩
 ·exact⟨by exact b6y ‹_›,by exact b6y ‹_›⟩
theorem Ctd.step(T:CT.Tb L n h t F p W)(hL:0<L)(L4:L<=6)(a:Ctd L n h t Tc Tt c u (Dn f e))(hfe:f<e)(he:e<=n)(n6:n<=24)(h1:∀l a b,¬(a=f/\b=e)->Tt' l a b=Tt l a b)(h2:∀l,l<L->Tt' l f e=some (CT.ovr L h t (upc c f e (v0 L h t c u f e)) u l f e:Int)) :
  ∃c' u',Ctd L n h t (up2 Tc f e (some (v0 L h t c u f e:Int))) Tt' c' u' (Dn f (e+1)):=by
 have hv:=a.v0_le T hL L4 hfe he n6;refine⟨upc c f e (v0 L h t c u f e),upu u f e λl=>CT.ovr L h t (upc c f e (v0 L h t c u f e)) u l f e,?_⟩;have dn:∀{i j},Dn f (e+1) i j->¬(i=f/\j=e)->Dn f e i j:=λhp z=>by
  rcases hp with y|y
  ·exact .inl y
  ·exact .inr ⟨y.1,by lia⟩
 have oth:∀l i j,i<j->Dn f e i j->CT.ovr L h t (upc c f e (v0 L h t c u f e)) (upu u f e λl=>CT.ovr L h t (upc c f e (v0 L h t c u f e)) u l f e) l i j=CT.ovr L h t c u l i j:=λl i j hij hp=>by
  rw[a1P,a1P];congr 1;refine b6J λq hq=>?_;have hb:=(CT.a1y.mp (a2o.mp hq).1).2.2;rw[a4A (by rcases hp with y|y<;>grind),a4B (by rcases hp with y|y<;>lia)]
 have own:∀l,CT.ovr L h t (upc c f e (v0 L h t c u f e)) (upu u f e λl=>CT.ovr L h t (upc c f e (v0 L h t c u f e)) u l f e) l f e=CT.ovr L h t (upc c f e (v0 L h t c u f e)) u l f e:=λl=>by
  rw[a1P,a1P];congr 1;refine b6J λq hq=>?_;rw[a4B (by lia)]
 refine⟨λl j hl hj=>?_,λi j hij hj hp=>?_,λl i j hl hij hj hp=>?_,λi j hij hj hp=>?_,λl i j hl hij hj hp=>?_,λl j hl hj=>?_,λi j hij hj hp=>?_,λl i j hl hij hj hp=>?_⟩
 ·rw[h1 l j j (by lia)];exact a.dg l j hl hj
 ·by_cases z:i=f/\j=e
  ·obtain⟨rfl,rfl⟩:=z;rw[a4z];unfold up2;rw[if_pos ⟨rfl,rfl⟩]
  ·rw[a4A z];unfold up2;rw[if_neg z];exact a.vc i j hij hj (dn hp z)
 ·by_cases z:i=f/\j=e
  ·obtain⟨rfl,rfl⟩:=z;rw[h2 l hl,b0g]
  ·rw[h1 l i j z,a4B z];exact a.vt l i j hl hij hj (dn hp z)
 ·by_cases z:i=f/\j=e
  ·obtain⟨rfl,rfl⟩:=z;rw[a4z];by_cases z1:j-i=1
   ·unfold v0;rw[if_pos z1,if_pos z1]
   ·rw[if_neg z1,own 0];have e0:v0 L h t c u i j=CT.ovr L h t c u 0 i j:=by unfold v0;rw[if_neg z1]
    rw[e0,a1P,a1P];congr 1;refine b6J λq hq=>?_;have:=b5g T hL (by grind) hj hq;rw[a4A (by lia)]
  ·rw[a4A z,oth 0 i j hij (dn hp z)];exact a.ec i j hij hj (dn hp z)
 ·by_cases z:i=f/\j=e
  ·obtain⟨rfl,rfl⟩:=z;rw[b0g,own l]
  ·rw[a4B z,oth l i j hij (dn hp z)];exact a.et l i j hl hij hj (dn hp z)
 ·rw[a4B (by omega)];exact a.td l j hl hj
 ·by_cases z:i=f/\j=e
  ·obtain⟨rfl,rfl⟩:=z;rw[a4z];exact hv
  ·rw[a4A z];exact a.bc i j hij hj (dn hp z)
 ·by_cases z:i=f/\j=e
  ·obtain⟨rfl,rfl⟩:=z;rw[b0g,a1P];have s:=a.sl T hL L4 hij hj n6 hl;have h3:=b0d (f:=λq:Nat×Nat=>upc c i j (v0 L h t c u i j) i (i+q.2+1)*u (q.1+1) (i+q.2+1) j) (wys L h t l i j) s.d;have h4:=a6N (L:=L) (l:=l) (i:=i) (j:=j) (h:=h) (t:=t) L4 (by lia);have h5:=b9R (256*65536 ^ (2*(j-i)-2)) h4;have h6:65536 ^ (2*(j-i)-1)=65536*65536 ^ (2*(j-i)-2):=by
    rw[show 2*(j-i)-1=(2*(j-i)-2)+1 by lia,Nat.pow_succ,Nat.mul_comm]
   rw[h6]
   lia
  ·rw[a4B z];exact a.bt l i j hl hij hj (dn hp z)
end
end K95C
set_option exponentiation.threshold 2000
namespace K95C
open PySem L2
structure CY where
 cc:Addr
 ca:Nat->Addr
 tt:Addr
 bt:Nat->Addr
 ct:Nat->Nat->Addr
abbrev cf(pr:Addr)(L:Int)(Y:CY):List (Str×V):=[("parted",.ref pr),("letters",.int L),("codes",.ref Y.cc),("tails",.ref Y.tt)]
structure CAt(D:Addr)(H:Hp)(r pr:Addr)(L s:Nat)(Y:CY)(Tc:Nat->Nat->OI)(Tt:Nat->Nat->Nat->OI):Prop where
 ob:∃dx,H r=some (.ins D dx (cf pr (L:Int) Y))
 co:H Y.cc=some (.lst ((List.range s).map λi=>.ref (Y.ca i)))
 cr:∀i,i<s->H (Y.ca i)=some (.lst ((List.range s).map λj=>oV (Tc i j)))
 tl:Tb H Y.tt Y.bt Y.ct (L+1) s Tt
 ic:∀i j,i<s->j<s->Y.ca i=Y.ca j->i=j
 it:∀l i l' i',l<L+1->l'<L+1->i<s->i'<s->Y.ct l i=Y.ct l' i'->l=l'/\i=i'
 ix:∀i l k,i<s->l<L+1->k<s->Y.ca i≠Y.ct l k
theorem CAt.same{L s:Nat}(a:CAt D H r pr L s Y Tc Tt)(k:a0r H H'):CAt D H' r pr L s Y Tc Tt:=by
 obtain⟨dx,ho⟩:=a.ob;exact⟨⟨dx,k _ _ ho⟩,k _ _ a.co,λi hi=>k _ _ (a.cr i hi),a.tl.same k,a.ic,a.it,a.ix⟩
theorem b2a{i j s:Nat}(hj:j<s):((List.range s).map λk=>oV (T i k)).set j (oV v)=(List.range s).map λk=>oV (up2 T i j v i k):=by
 have:=b0a (T:=λ_=>T) (l:=0) (i:=i) (j:=j) (s:=s) (v:=v) hj;rw[this];refine b6J λk _=>?_;unfold up2 up3;by_cases e:k=j
 ·rw[if_pos ⟨rfl,rfl,e⟩,if_pos ⟨rfl,e⟩]
 ·rw[if_neg (λz=>e z.2.2),if_neg (λz=>e z.2)]
theorem CAt.putc{L s:Nat}(a:CAt D H r pr L s Y Tc Tt)(hi:i<s)(hj:j<s):CAt D (upd H (Y.ca i) (.lst (((List.range s).map λk=>oV (Tc i k)).set j (oV v)))) r pr L s Y (up2 Tc i j v) Tt:=by
 obtain⟨dx,ho⟩:=a.ob;have hc:=a.cr i hi;refine⟨⟨dx,?_⟩,?_,λk hk=>?_,a.tl.keep (by simp) (by lia) (by omega) hc λl k hl hk=>Ne.symm (a.ix i l k hi hl hk),a.ic,a.it,a.ix⟩
 ·rw[a0i (a0B ho hc (by intro z;cases z))];exact ho
 ·rw[a0i (a0B a.co hc (λz=>a3g (m:=s) (n:=s) (by omega) (by omega) (HO.lst.inj z)))];exact a.co
 ·by_cases e:k=i
  ·subst e;rw[a0b,b2a hj]
  ·rw[a0i (λz=>e (a.ic k i hk hi z)),a.cr k hk];refine b7d (λz=>some (HO.lst z)) (b6J λm _=>?_);unfold up2;rw[if_neg (λz=>e z.1)]
theorem CAt.putt{L s:Nat}(a:CAt D H r pr L s Y Tc Tt)(hl:l<L+1)(hi:i<s)(hj:j<s):CAt D (upd H (Y.ct l i) (.lst (((List.range s).map λk=>oV (Tt l i k)).set j (oV v)))) r pr L s Y Tc (up3 Tt l i j v):=by
 obtain⟨dx,ho⟩:=a.ob;have hc:=a.tl.c l i hl hi;refine⟨⟨dx,?_⟩,?_,λk hk=>?_,a.tl.put a.it hl hi hj,a.ic,a.it,a.ix⟩
 ·rw[a0i (a0B ho hc (by intro z;cases z))];exact ho
 ·rw[a0i (a0B a.co hc (λz=>a3g (m:=s) (n:=s) (by lia) (by omega) (HO.lst.inj z)))];exact a.co
 ·rw[a0i (a.ix k l i hk hl hi)];exact a.cr k hk
def ZC(Y:CY)(L s:Nat)(a:Addr):Prop:=(∃i,i<s/\a=Y.ca i)\/∃l i,l<L+1/\i<s/\a=Y.ct l i
structure DC(K:PySem.W.Frag)(D:Addr):Prop where
 c:Cls K D
 np:a1a K D "parted"
 nl:a1a K D "letters"
 nc:a1a K D "codes"
 nt:a1a K D "tails"
section
variable {P':Program}{w:World}{K:PySem.W.Frag}{mg:Str->Option Value}{base:Heap}{f:Addr}{fd:FuncData}
abbrev NBy:List Str:=["self","way","first","end"]
def spBy(D:Addr):Sp:=λvs H Q _=>∃(r pr:Addr)(L s:Nat)(Y:CY)(Tc:Nat->Nat->OI)(Tt:Nat->Nat->Nat->OI)(wt:Addr)(i wy cut j x y:Nat),vs=[.ref r,.ref wt,.int (i:Int),.int (j:Int)]/\CAt D H r pr L s Y Tc Tt/\H wt=some (.tup [.int (wy:Int),.int (cut:Int)])/\i<s/\cut<s/\j<s/\wy<L/\Tc i cut=some (x:Int)/\Tt (wy+1) cut j=some (y:Int)/\x<=2 ^ 1000/\y<=2 ^ 1000/\Q (.int ((x*y:Nat):Int)) H
theorem scBy:a0k NBy NBy (a0g sBy):=fsk
def b5h(i j:Int):Prop:=(0<=i/\i<=2 ^ 1000)/\(0<=j/\j<=2 ^ 1000)
theorem b5h.ok(h:b5h i j):IntMulOk i j:=by
 have q:∀k:Int,0<=k/\k<=2 ^ 1000->PySem.Builtin.Int.intBits k<=1010:=λk hk=>intBits_le_iff.mpr (by
  have e:(2:Nat) ^ 1010=10972248137587377366511872502374418540148785271864664140224003976912394763519345894330351399072725587226569450675744223489916367725489295806448207436491340599228997401420012529071180395583868049283025082524719590383187907857816337980585517000782912424520905193151019179684280147612287372121298604103041024:=by decide
  rw[e]
  lia)
 exact IntMulOk.of_le (q i h.1) (q j h.2) (by decide)
theorem b5i:OpR X (binaryOp .Mult) (rI b5h λi j=>.int (i*j)):=opI λ_ _ _ _ _ _ _ hc q=>PyProof.Rows.mul_int q hc.ok
theorem ok_by(F:Fun K "by_way" "Counts.by_way" sBy f fd)(rc:DC K D):a0I P' w K mg base CX0 1 f fd NBy (spBy D):=by
 refine F.ok (k:=0) scBy (λvs H Q E h=>?_) (λcdv A outer s H vs Q E hr h=>?_)
 ·obtain⟨r,pr,L,s',Y,Tc,Tt,wt,i,wy,cut,j,x,y,rfl,_⟩:=h;rfl
 obtain⟨r,pr,L,s',Y,Tc,Tt,wt,i,wy,cut,j,x,y,rfl,ca,hwt,hi,hcut,hj,hwy,ex,ey,bx,bY,q⟩:=h;refine⟨_,a0f (a0o (a0q b5i (pxA a0m (pxA a0m (a0s (pv 0) rfl) (pv 2)) (pxA a0D (pv 1) a0h)) (pxA a0m (pxA a0m (pxA a0m (a0s (pv 0) rfl) (a0q a0K (pxA a0D (pv 1) a0h) a0h)) (pxA a0D (pv 1) a0h)) (pv 3)))),?_⟩;obtain⟨dx,ho⟩:=ca.ob;refine⟨_,rfl,r,D,dx,_,_,rfl,ho,rc.c,rc.nc,rfl,_,rfl,Y.cc,_,_,_,rfl,rfl,SqL.of ca.co,a0G hi,_,rfl,wt,_,_,_,rfl,rfl,SqT.of hwt,rfl,Y.ca i,_,_,_,rfl,rfl,SqL.of (ca.cr i hi),a0G hcut,?_⟩;refine⟨_,rfl,r,D,dx,_,_,rfl,ho,rc.c,rc.nt,rfl,_,rfl,wt,_,_,_,rfl,rfl,SqT.of hwt,rfl,_,_,rfl,rfl,Y.tt,_,_,_,rfl,rfl,SqL.of ca.tl.o,a0G (k:=wy+1) (by lia),_,rfl,wt,_,_,_,rfl,rfl,SqT.of hwt,rfl,Y.bt (wy+1),_,_,_,rfl,rfl,SqL.of (ca.tl.b (wy+1) (by omega)),a0G hcut,_,rfl,Y.ct (wy+1) cut,_,_,_,rfl,rfl,SqL.of (ca.tl.c (wy+1) cut (by omega) hcut),a0G hj,?_⟩;rw[ex,ey];have h1:(x:Int)<=2 ^ 1000:=Int.le_trans (Int.ofNat_le.mpr bx) (by rw[Int.natCast_pow];exact c0b _);have h2:(y:Int)<=2 ^ 1000:=Int.le_trans (Int.ofNat_le.mpr bY) (by rw[Int.natCast_pow];exact c0b _);refine⟨_,_,rfl,rfl,⟨⟨by simp,h1⟩,⟨by simp,h2⟩⟩,?_⟩;have e:((x*y:Nat):Int)=(x:Int)*(y:Int):=Int.natCast_mul x y;rw[e] at q;exact q
abbrev NOv:List Str:=["self","letter","first","end"]
def b3s(C D:Addr):Sp:=λvs H Q _=>∃(r pr p:Addr)(ps ws:List Int)(X:Ad)(h t:Nat->Nat->Nat->OI)(Y:CY)(Tc:Nat->Nat->OI)(Tt:Nat->Nat->Nat->OI)(c:Nat->Nat->Nat)(u:Nat->Nat->Nat->Nat)(l i j B:Nat),vs=[.ref r,.int (l:Int),.int (i:Int),.int (j:Int)]/\PAt C H pr p ps ws X h t/\CAt D H r pr ps.length (ws.length+1) Y Tc Tt/\ws.length<=24/\ps.length<=6/\l<ps.length/\i<j/\j<=ws.length/\Sm1 ps.length ws.length Tc Tt c u i j (wys ps.length h t l i j) B/\∀H',a0r H H'->Q (.int (CT.ovr ps.length h t c u l i j:Int)) H'
theorem scOver:a0k NOv NOv (a0g b1R):=fsk
theorem ndOv:(("way":Str)::NOv).Nodup:=by decide +kernel
theorem b5j(xs:List Nat):(xs.map λx:Nat=>(x:Int)).sum=((xs.sum:Nat):Int):=by
 induction xs with
 |nil=>rfl
 |cons x xs ih=>rw[b6z,b9t,b9t,ih];push_cast;rfl
theorem b5k(F:Fun K "over_ways" "Counts.over_ways" b1R f fd)(MW:Mt P' w K mg base C "ways" ["self","letter","first","end"] (a4w C) 3)(MY:Mt P' w K mg base D "by_way" NBy (spBy D) 3)(rcP:PC K C)(rc:DC K D)(ms:mg "sum"=none):a0I P' w K mg base CX0 4 f fd NOv (b3s C D):=by
 refine F.ok (k:=3) scOver (λvs H Q E h=>?_) (λcdv A outer s H vs Q E hr h=>?_)
 ·obtain⟨r,pr,p,ps,ws,X,h,t,Y,Tc,Tt,c,u,l,i,j,B,rfl,_⟩:=h;rfl
 obtain⟨r,pr,p,ps,ws,X,h,t,Y,Tc,Tt,c,u,l,i,j,B,rfl,pa,ca,w6,p4,hl,hij,hj,sm,q⟩:=h;refine⟨_,a0f (a0o (a0C (b1i rfl) (by rfl) ms b_sum (a0a (a0Y (M:=NOv) rfl (cso (a0g b1R) NOv) ndOv rfl (a3j (a0T (a0s (pv 0) rfl) rcP.c MW.m MW.ok hr MW.b .nil a1g (a0a (pv 1) (a0a (pv 2) (a0a (pv 3) a0d))))) a4v
   (λcl C s0 H0 fp=>⟨a0v,a0T (pv 1) rc.c MY.m MY.ok hr MY.b .nil a1g (a0a (pv 0) (a0a (pv 3) (a0a (pv 4) a0d)))⟩)) a0d))),?_⟩
 obtain⟨dx,ho⟩:=ca.ob;obtain⟨dp,hop⟩:=pa.ob;refine⟨λv H1=>∃d xs,v=.ref d/\a0r H H1/\H1 d=some (.lst xs)/\Paired (Way H1 i) xs (wys ps.length h t l i j),?_,λv H1 hv=>?_⟩
 ·exact⟨_,rfl,r,D,dx,_,_,rfl,ho,rc.c,rc.np,rfl,pr,dp,_,rfl,hop,rfl,_,rfl,_,rfl,_,rfl,pr,p,ps,ws,X,h,t,l,i,j,rfl,pa,by assumption,by lia,hl,hij,hj,λd xs H' s' g' w'=>⟨d,xs,rfl,s',g',w'⟩⟩
 obtain⟨d,xs,rfl,s1,g1,w1⟩:=hv;have lx:xs.length=(wys ps.length h t l i j).length:=w1.length;have l24:=a6N (L:=ps.length) (l:=l) (i:=i) (j:=j) (h:=h) (t:=t) p4 (by lia);refine⟨d,_,rfl,SqL.of g1,λe2 he2=>?_⟩;refine⟨λk H'=>a0r H1 H'/\H' e2=some (.lst ((((wys ps.length h t l i j).take k).map λq=>((c i (i+q.2+1)*u (q.1+1) (i+q.2+1) j:Nat):Int)).map V.int)),⟨a0e he2 _,a0b⟩,λk H' _ hP=>SqL.of (hP.1 _ _ g1),λk x H' hx hP=>?_,λH' hP=>?_⟩
 ·obtain⟨s2,g2⟩:=hP;obtain⟨q',hq,wt,rfl,hwt⟩:=Paired.right_of w1 k x hx;have hm:=b6h hq;have kl:=(b6d.mp hq).1;have s12:=s1.trans s2;have hg:=sm.g q' hm;refine a0u ⟨_,rfl,r,dx,_,rfl,s12 _ _ ho,rfl,_,rfl,_,rfl,_,rfl,r,pr,ps.length,ws.length+1,Y,Tc,Tt,wt,i,q'.1,i+q'.2+1,j,c i (i+q'.2+1),u (q'.1+1) (i+q'.2+1) j,rfl,ca.same s12,s2 _ _ hwt,by lia,by lia,by lia,hg.1,sm.a q' hm,sm.b q' hm,sm.c1 q' hm,sm.u1 q' hm,_,g2,?_,a0l he2 s2,?_⟩
  ·rw[b6b,b6b,b6l];exact a0j (by grind)
  ·rw[a0b,b6s,hq,b6g,b6g];rfl
 ·obtain⟨s2,g2⟩:=hP;rw[lx,b6v] at g2;refine⟨e2,_,rfl,g2,?_⟩;have e:((wys ps.length h t l i j).map λq=>((c i (i+q.2+1)*u (q.1+1) (i+q.2+1) j:Nat):Int)).sum=(CT.ovr ps.length h t c u l i j:Int):=by
   rw[a1P,<-b5j,b7v];rfl
  rw[e];exact q _ (s1.trans s2)
end
end K95C
set_option exponentiation.threshold 2000
namespace K95C
open PySem L2
section
variable {P':Program}{w:World}{K:PySem.W.Frag}{mg:Str->Option Value}{base:Heap}{f:Addr}{fd:FuncData}
abbrev NPc:List Str:=["self","first","end","letter"]
def b3t(C D:Addr):Sp:=λvs H Q _=>∃(H0:Hp)(r pr p:Addr)(ps ws:List Int)(X:Ad)(h t:Nat->Nat->Nat->OI)(Fl:Nat->Nat->OI)(Y:CY)(Tc:Nat->Nat->OI)(Tt:Nat->Nat->Nat->OI)(c:Nat->Nat->Nat)(u:Nat->Nat->Nat->Nat)(i j:Nat),vs=[.ref r,.int (i:Int),.int (j:Int)]/\a0r H0 H/\PAt C H0 pr p ps ws X h t/\(∀a,ZC Y ps.length (ws.length+1) a->H0 a=none)/\CAt D H r pr ps.length (ws.length+1) Y Tc Tt/\CT.Tb ps.length ws.length h t Fl (pl ps) (Wt ws)/\ws.length<=24/\ps.length<=6/\0<ps.length/\i<j/\j<=ws.length/\Ctd ps.length ws.length h t Tc Tt c u (Dn i j) /\
 ∀H' Tc' Tt' c' u',a0r H0 H'->CAt D H' r pr ps.length (ws.length+1) Y Tc' Tt'->Ctd ps.length ws.length h t Tc' Tt' c' u' (Dn i (j+1))->Q .non H'
theorem b3u:a0k NPc ["self","first","end"] (a0g b4Y):=fsk
theorem b5l(F:Fun K "put_counts" "Counts.put_counts" b4Y f fd)(MO:Mt P' w K mg base D "over_ways" NOv (b3s C D) 4)(rc:DC K D)(mr:mg "range"=none):a0I P' w K mg base CX0 5 f fd ["self","first","end"] (b3t C D):=by
 refine F.ok (k:=4) b3u (λvs H Q E h=>?_) (λcdv A outer s H vs Q E hr h=>?_)
 ·obtain⟨H0,r,pr,p,ps,ws,X,h,t,Fl,Y,Tc,Tt,c,u,i,j,rfl,_⟩:=h;rfl
 obtain⟨H0,r,pr,p,ps,ws,X,h,t,Fl,Y,Tc,Tt,c,u,i,j,rfl,s0,pa,fz,ca,T,w6,p4,p0,hij,hj,ctd,q⟩:=h;refine⟨_,a0c (a2L (a3j (b0W (a0p a0U (a0q a2y (pv 2) (pv 1)) a0h (nomark _)) a0h (a0T (pv 0) rc.c MO.m MO.ok hr MO.b .nil a1g (a0a a0h (a0a (pv 1) (a0a (pv 2) a0d)))))) (a3w (pxA a0m (a0s (pv 0) rfl) (pv 1)) (pv 2) a2b))
  (a0f (a1d b6K rfl (a1u (by rfl) mr (a0a (a0s (pv 0) rfl) a0d)) (pgA (i:=3) b3u)
   (a0f (a2L (a0T (pv 0) rc.c MO.m MO.ok hr MO.b .nil a1g (a0a (pv 3) (a0a (pv 1) (a0a (pv 2) a0d)))) (a3w (pxA a0m (pxA a0m (a0s (pv 0) rfl) (pv 3)) (pv 1)) (pv 2) a2b))))),?_⟩
 have i1:i<ws.length+1:=by lia
 have j1:j<ws.length+1:=by lia
 obtain⟨dx,ho⟩:=ca.ob;refine⟨λv H1=>v=.int (v0 ps.length h t c u i j:Int)/\a0r H H1,?_,λv H1 hv=>?_⟩
 ·refine⟨_,rfl,_,rfl,_,_,rfl,rfl,rfl,_,rfl,?_⟩;refine a2c (λz=>?_) (λz=>?_)
  ·have z1:j-i=1:=by
    have y:V.int ((j:Int)-(i:Int))=V.int 1:=b6B z;have:=V.int.inj y
    grind
   refine⟨?_,a0r.refl _⟩;unfold v0;rw[if_pos z1];rfl
  ·have z1:¬j-i=1:=λy=>z (b6i (by show V.int ((j:Int)-(i:Int))=V.int 1;congr 1;grind));refine⟨_,rfl,r,dx,_,rfl,ho,rfl,_,rfl,_,rfl,r,pr,p,ps,ws,X,h,t,Y,Tc,Tt,c,u,0,i,j,_,rfl,pa.same s0,ca,w6,p4,p0,hij,hj,ctd.s0 T p0 (by grind) hj w6,λH' s'=>⟨?_,s'⟩⟩;unfold v0;rw[if_neg z1]
 obtain⟨rfl,s1⟩:=hv;have ca1:=ca.same s1;have s01:=s0.trans s1;obtain⟨dx1,ho1⟩:=ca1.ob;refine⟨_,rfl,r,D,dx1,_,_,rfl,ho1,rc.c,rc.nc,rfl,_,rfl,Y.cc,_,_,_,rfl,rfl,SqL.of ca1.co,a0G i1,_,rfl,Y.ca i,_,_,j,rfl,rfl,ca1.cr i i1,(by rw[b6b,b6C];exact a3Y j1),?_⟩;have ca2:CAt D (upd H1 (Y.ca i) (.lst (((List.range (ws.length+1)).map λk=>oV (Tc i k)).set j (.int (v0 ps.length h t c u i j:Int))))) r pr ps.length (ws.length+1) Y (up2 Tc i j (some (v0 ps.length h t c u i j:Int))) Tt:=ca1.putc (v:=some (v0 ps.length h t c u i j:Int)) i1 j1;have s02:a0r H0 (upd H1 (Y.ca i) (.lst (((List.range (ws.length+1)).map λk=>oV (Tc i k)).set j (.int (v0 ps.length h t c u i j:Int))))):=a0l (fz _ (.inl ⟨i,i1,rfl⟩)) s01;generalize upd H1 (Y.ca i) (.lst (((List.range (ws.length+1)).map λk=>oV (Tc i k)).set j (.int (v0 ps.length h t c u i j:Int))))=H2 at ca2 s02 ⊢;obtain⟨dx2,ho2⟩:=ca2.ob;refine⟨_,rfl,r,D,dx2,_,_,rfl,ho2,rc.c,rc.nl,rfl,_,rfl,by simp,by lia,?_⟩;rw[b6Q];refine a0Z (λl σ H'=>a0r H0 H'/\(∃Tt',CAt D H' r pr ps.length (ws.length+1) Y (up2 Tc i j (some (v0 ps.length h t c u i j:Int))) Tt'/\(∀l' a b,¬(a=i/\b=j)->Tt' l' a b=Tt l' a b)/\∀l',l'<l->Tt' l' i j=some (CT.ovr ps.length h t (upc c i j (v0 ps.length h t c u i j)) u l' i j:Int))/\∃x3:Option V,σ=[some (.ref r),some (.int (i:Int)),some (.int (j:Int)),x3])
  ⟨s02,⟨Tt,ca2,λ_ _ _ _=>rfl,λl' hl'=>absurd hl' (b7b _)⟩,_,rfl⟩ (λl σ H3 hl hP=>?_) (λσ H3 hP=>?_)
 ·obtain⟨s03,⟨Tt',ca3,t1,t2⟩,x3,rfl⟩:=hP;rw[show(0:Int)+(l:Int)=(l:Int) from Int.zero_add _];obtain⟨dx3,ho3⟩:=ca3.ob;have sm:=ctd.sl T p0 p4 hij hj w6 hl;have sm':Sm1 ps.length ws.length (up2 Tc i j (some (v0 ps.length h t c u i j:Int))) Tt' (upc c i j (v0 ps.length h t c u i j)) u i j (wys ps.length h t l i j) (256*65536 ^ (2*(j-i)-2)):=⟨sm.a,λq hq=>by rw[t1 _ _ _ (by lia)];exact sm.b q hq,sm.c1,sm.u1,sm.d,sm.g⟩
  refine⟨_,rfl,r,dx3,_,rfl,ho3,rfl,_,rfl,_,rfl,_,rfl,r,pr,p,ps,ws,X,h,t,Y,_,Tt',_,u,l,i,j,_,rfl,pa.same s03,ca3,w6,p4,hl,hij,hj,sm',λH4 s4=>?_⟩;have ca4:=ca3.same s4;have s04:=s03.trans s4;obtain⟨dx4,ho4⟩:=ca4.ob;have l2:l<ps.length+1:=by lia
  refine⟨_,rfl,r,D,dx4,_,_,rfl,ho4,rc.c,rc.nt,rfl,_,rfl,Y.tt,_,_,_,rfl,rfl,SqL.of ca4.tl.o,a0G l2,_,rfl,Y.bt l,_,_,_,rfl,rfl,SqL.of (ca4.tl.b l l2),a0G i1,_,rfl,Y.ct l i,_,_,j,rfl,rfl,ca4.tl.c l i l2 i1,(by rw[b6b,b6C];exact a3Y j1),?_⟩;refine⟨a0l (fz _ (.inr ⟨l,i,l2,i1,rfl⟩)) s04,⟨_,ca4.putt (v:=some (CT.ovr ps.length h t (upc c i j (v0 ps.length h t c u i j)) u l i j:Int)) l2 i1 j1,λl' a b z=>?_,λl' hl'=>?_⟩,_,rfl⟩
  ·rw[a3l λy=>z ⟨y.2.1,y.2.2⟩];exact t1 l' a b z
  ·by_cases z:l'=l
   ·subst z;rw[a7y]
   ·rw[a3l λy=>z y.1];exact t2 l' (by lia)
 ·obtain⟨s03,⟨Tt',ca3,t1,t2⟩,x3,rfl⟩:=hP;obtain⟨c',u',k⟩:=ctd.step T p0 p4 hij hj w6 t1 t2;exact q H3 _ Tt' c' u' s03 ca3 k
end
def drp(r:Addr)(H:Hp):Hp:=λa=>if a=r then none else H a
theorem a2h(h:a≠r):drp r H a=H a:=if_neg h
theorem a3s(k:a5j r H H'):a0r (drp r H) H':=λa o e=>by
 by_cases z:a=r
 ·unfold drp at e;rw[if_pos z] at e;cases e
 ·rw[a2h z] at e;exact k a o z e
theorem a3t(s:a0r (drp r H) H'):a5j r H H':=λa o ha e=>s a o (by rw[a2h ha];exact e)
theorem PAt.drp{h t:Nat->Nat->Nat->OI}(a:PAt C H pr p ps ws X h t)(hr:H r=some (.ins D dx [])):PAt C (K95C.drp r H) pr p ps ws X h t:=by
 obtain⟨dy,ho⟩:=a.ob;refine⟨⟨dy,?_⟩,?_,?_,⟨?_,λl hl=>?_,λl i hl hi=>?_⟩,⟨?_,λl hl=>?_,λl i hl hi=>?_⟩,a.ih,a.it,a.ix,a.ns⟩
 ·rw[a2h (a0B ho hr (by intro z;cases z))];exact ho
 ·show K95C.drp r H p=_;rw[a2h (a0B a.hp hr (by intro z;cases z))];exact a.hp
 ·rw[a2h (a0B a.su hr (by intro z;cases z))];exact a.su
 ·rw[a2h (a0B a.hd.o hr (by intro z;cases z))];exact a.hd.o
 ·rw[a2h (a0B (a.hd.b l hl) hr (by intro z;cases z))];exact a.hd.b l hl
 ·rw[a2h (a0B (a.hd.c l i hl hi) hr (by intro z;cases z))];exact a.hd.c l i hl hi
 ·rw[a2h (a0B a.tl.o hr (by intro z;cases z))];exact a.tl.o
 ·rw[a2h (a0B (a.tl.b l hl) hr (by intro z;cases z))];exact a.tl.b l hl
 ·rw[a2h (a0B (a.tl.c l i hl hi) hr (by intro z;cases z))];exact a.tl.c l i hl hi
end K95C
set_option exponentiation.threshold 2000
namespace K95C
open PySem L2
section
variable {P':Program}{w:World}{K:PySem.W.Frag}{mg:Str->Option Value}{base:Heap}{f:Addr}{fd:FuncData}
abbrev NCi:List Str:=["self","prices","weights","side","first","end"]
abbrev cf1(pr:Addr):List (Str×V):=[("parted",.ref pr)]
abbrev cf2(pr:Addr)(L:Int):List (Str×V):=[("parted",.ref pr),("letters",.int L)]
abbrev cf3(pr:Addr)(L:Int)(cc:Addr):List (Str×V):=[("parted",.ref pr),("letters",.int L),("codes",.ref cc)]
abbrev tc0:Nat->Nat->OI:=λa b=>if b=a then none else none
abbrev tt0:Nat->Nat->Nat->OI:=λ_ a b=>if b=a then some 1 else none
def b0h(C D:Addr):Sp:=λvs H Q _=>∃(r dx p q:Addr)(ps ws:List Int),vs=[.ref r,.ref p,.ref q]/\H r=some (.ins D dx [])/\TW H p ps/\TW H q ws/\Num ps ws/\Po ps/\Po ws/\ps.length<=6/\ws.length<=24 /\
 ∀H' (pr:Addr) X h t Fl Y Tc Tt c u,a5j r H H'->PAt C H' pr p ps ws X h t->CAt D H' r pr ps.length (ws.length+1) Y Tc Tt->CT.Tb ps.length ws.length h t Fl (pl ps) (Wt ws)->Ctd ps.length ws.length h t Tc Tt c u (λ_ _=>True)->Q .non H'
theorem a5k:a0k NCi ["self","prices","weights"] (a0g a5f):=fsk
theorem ndCi:(("letter":Str)::NCi).Nodup:=by decide +kernel
theorem b2b(F:Fun K "__init__" "Counts.__init__" a5f f fd)(GP:Fns P' w K mg base ["prices","weights"] "parted_least" (spPl C) 5)(GQ:Fns P' w K mg base ["side","diagonal"] "square" a5g 5)(MC:Mt P' w K mg base D "put_counts" ["self","first","end"] (b3t C D) 5)(rc:DC K D)(ml:mg "len"=none)(mr:mg "range"=none):a0I P' w K mg base CX0 6 f fd ["self","prices","weights"] (b0h C D):=by
 refine F.ok (k:=5) a5k (λvs H Q E h=>?_) (λcdv A outer s H vs Q E hr h=>?_)
 ·obtain⟨r,dx,p,q,ps,ws,rfl,_⟩:=h;rfl
 obtain⟨r,dx,p,q,ps,ws,rfl,hr0,hp,hq,nu,pp,pw,p4,w6,qq⟩:=h;have p2:=nu.p2;have w1:=nu.w1;refine⟨_,a0c (a1e (pv 0) (pcF GP hr (a0a (pv 1) (a0a (pv 2) a0d))) rfl)
  (a0c (a1e (pv 0) (pln ml (pv 1)) rfl)
  (a0c (psA (i:=3) a5k (a0q a0K (pln ml (pv 2)) a0h))
  (a0c (a1e (pv 0) (pcF GQ hr (a0a (pv 3) (a0a a2J a0d))) rfl)
  (a0c (a1e (pv 0) (a1O (M:=NCi) rfl (cso (a0g a5f) NCi) ndCi rfl (by rfl) mr (a0a (a0q a0K (a0s (pv 0) rfl) a0h) a0d) (a1k (b1j a7d (b3p a0E) mo_c) a1W)
   (λcl C s0 H0 fp=>⟨a0v,pcF GQ hr (a0a (pv 4) (a0a a0h a0d))⟩)) rfl)
  (a0f (a1d b6K rfl (a3V (by rfl) mr (a0a (a0q a2y (pln ml (pv 2)) a0h) (a0a (a3m a2f a0h) (a0a (a3m a2f a0h) a0d)))) (pgA (i:=4) a5k)
   (a0f (a1d b6K rfl (a1U (by rfl) mr (a0a (a0q a0K (pv 4) a0h) (a0a (pv 3) a0d))) (pgA (i:=5) a5k)
    (a0f (a0J (a0T (pv 0) rc.c MC.m MC.ok hr MC.b .nil a1g (a0a (pv 4) (a0a (pv 5) a0d))))))))))))),?_⟩
 have pr':p≠r:=a0B hp hr0 (by intro z;cases z);have qr':q≠r:=a0B hq hr0 (by intro z;cases z);refine⟨_,rfl,_,rfl,p,q,ps,ws,rfl,hp,hq,nu,λpr X h t Fl H1 s1 pa fl=>?_⟩;have T:=fl.tb p2 pp pw;have g1:=s1 _ _ hr0;have paD:=pa.drp g1;have pr1:pr≠r:=by
  obtain⟨dy,ho⟩:=pa.ob;exact a0B ho g1 (by intro z;cases z)
 refine⟨_,rfl,r,D,dx,_,rfl,g1,rc.c,rc.np,(by show 0<1000;decide),?_⟩;rw[show a1t "parted" (V.ref pr) []=cf1 pr from rfl];have g2:upd H1 r (.ins D dx (cf1 pr)) r=some (.ins D dx (cf1 pr)):=a0b;have k2:a0r (drp r H1) (upd H1 r (.ins D dx (cf1 pr))):=a3s λa o ha e=>by rw[a0i ha];exact e
 have dn:∀{a o},H a=some o->a≠r->drp r H1 a=some o:=λe ha=>by rw[a2h ha];exact s1 _ _ e
 have hpD:TW (drp r H1) p ps:=dn hp pr';have hqD:TW (drp r H1) q ws:=dn hq qr';have fr:∀{H':Hp}{a:Addr}{o:HO},a0r (drp r H1) H'->H' r=some o->H' a=none->drp r H1 a=none:=λs g e=>s.free e;generalize upd H1 r (.ins D dx (cf1 pr))=H2 at g2 k2 ⊢;refine⟨_,rfl,p,_,rfl,.inr (SqT.of (k2 _ _ hpD)),_,rfl,r,D,dx,_,rfl,g2,rc.c,rc.nl,(by show 1<1000;decide),?_⟩;rw[b6b,show a1t "letters" (V.int (ps.length:Int)) (cf1 pr)=cf2 pr (ps.length:Int) from rfl];have g3:upd H2 r (.ins D dx (cf2 pr (ps.length:Int))) r=some (.ins D dx (cf2 pr (ps.length:Int))):=a0b;have k3:a0r (drp r H1) (upd H2 r (.ins D dx (cf2 pr (ps.length:Int)))):=a3s λa o ha e=>by rw[a0i ha];exact a3t k2 a o ha e
 generalize upd H2 r (.ins D dx (cf2 pr (ps.length:Int)))=H3 at g3 k3 ⊢;refine⟨_,rfl,q,_,rfl,.inr (SqT.of (k3 _ _ hqD)),_,_,rfl,rfl,?_⟩;rw[b6b];refine⟨_,rfl,ws.length+1,none,rfl,by lia,λcc cA H4 s4 fcc fcA ij cb hb hc=>?_⟩;have g4:=s4 _ _ g3;refine⟨_,rfl,r,D,dx,_,rfl,g4,rc.c,rc.nc,(by show 2<1000;decide),?_⟩;rw[show a1t "codes" (V.ref cc) (cf2 pr (ps.length:Int))=cf3 pr (ps.length:Int) cc from rfl];have cr:cc≠r:=a0B hb g4 (by intro z;cases z);have ar:∀i,i<ws.length+1->cA i≠r:=λi hi=>a0B (hc i hi) g4 (by intro z;cases z);have g5:upd H4 r (.ins D dx (cf3 pr (ps.length:Int) cc)) r=some (.ins D dx (cf3 pr (ps.length:Int) cc)):=a0b;have k5:a0r (drp r H1) (upd H4 r (.ins D dx (cf3 pr (ps.length:Int) cc))):=a3s λa o ha e=>by rw[a0i ha];exact s4 _ _ (a3t k3 a o ha e)
 have b5:upd H4 r (.ins D dx (cf3 pr (ps.length:Int) cc)) cc=some (.lst ((List.range (ws.length+1)).map λi=>.ref (cA i))):=by rw[a0i cr];exact hb
 have c5:∀i,i<ws.length+1->upd H4 r (.ins D dx (cf3 pr (ps.length:Int) cc)) (cA i)=some (.lst (b3o (ws.length+1) i none)):=λi hi=>by rw[a0i (ar i hi)];exact hc i hi
 generalize upd H4 r (.ins D dx (cf3 pr (ps.length:Int) cc))=H5 at g5 k5 b5 c5 ⊢;refine⟨_,rfl,r,D,dx,_,_,rfl,g5,rc.c,rc.nl,rfl,_,_,rfl,rfl,_,rfl,by lia,by lia,λtt htt=>?_⟩;have en:((ps.length:Int)+1).toNat=ps.length+1:=by simp
 rw[en];refine⟨λi H'=>∃ba ca,a9X H5 H' (ws.length+1) (some 1) i ba ca tt,⟨_,_,a9X.start htt⟩,λi H' hi hP=>?_,λH6 hP=>?_⟩
 ·obtain⟨ba,ca,g⟩:=hP;refine a0u ⟨_,rfl,ws.length+1,some 1,rfl,by lia,λb c' H8 s8 fb fc ij cb hb hc=>⟨_,s8 _ _ g.lo_,?_,_,_,g.step htt s8 fb fc ij hb hc⟩⟩;rw[b6b,b6C];exact a0j (by lia)
 obtain⟨bt,ct,gt⟩:=hP;have g6:=gt.same _ _ g5;refine⟨_,rfl,r,D,dx,_,rfl,g6,rc.c,rc.nt,(by show 3<1000;decide),?_⟩;rw[show a1t "tails" (V.ref tt) (cf3 pr (ps.length:Int) cc)=cf pr (ps.length:Int) ⟨cc,cA,tt,bt,ct⟩ from rfl];have rt1:tt≠r:=a0B gt.lo_ g6 (by intro z;cases z);have rt2:∀l,l<ps.length+1->bt l≠r:=λl hl=>a0B (gt.lb l hl) g6 (by intro z;cases z);have rt3:∀l k,l<ps.length+1->k<ws.length+1->ct l k≠r:=λl k hl hk=>a0B (gt.lc l k hl hk) g6 (by intro z;cases z);have ca7:CAt D (upd H6 r (.ins D dx (cf pr (ps.length:Int) ⟨cc,cA,tt,bt,ct⟩))) r pr ps.length (ws.length+1) ⟨cc,cA,tt,bt,ct⟩ tc0 tt0:=by
  refine⟨⟨dx,a0b⟩,?_,λi hi=>?_,⟨?_,λl hl=>?_,λl k hl hk=>?_⟩,ij,λl i l' i' hl hl' hi hi' e=>gt.inj l i l' i' hl hl' hi hi' e,λi l k hi hl hk e=>?_⟩
  ·rw[a0i cr];exact gt.same _ _ b5
  ·rw[a0i (ar i hi)];exact gt.same _ _ (c5 i hi)
  ·rw[a0i rt1];exact gt.lo_
  ·rw[a0i (rt2 l hl)];exact gt.lb l hl
  ·rw[a0i (rt3 l k hl hk)];exact gt.lc l k hl hk
  ·have e1:=gt.fc l k hl hk;have e:cA i=ct l k:=e;rw[<-e,c5 i hi] at e1;cases e1
 have k7:a0r (drp r H1) (upd H6 r (.ins D dx (cf pr (ps.length:Int) ⟨cc,cA,tt,bt,ct⟩))):=a3s λa o ha e=>by rw[a0i ha];exact gt.same _ _ (a3t k5 a o ha e)
 have fz:∀a,ZC ⟨cc,cA,tt,bt,ct⟩ ps.length (ws.length+1) a->drp r H1 a=none:=λa hz=>by
  rcases hz with ⟨i,hi,e⟩|⟨l,i,hl,hi,e⟩
  ·have e:a=cA i:=e;rw[e];exact k3.free (fcA i hi)
  ·have e:a=ct l i:=e;rw[e];exact k5.free (gt.fc l i hl hi)
 generalize upd H6 r (.ins D dx (cf pr (ps.length:Int) ⟨cc,cA,tt,bt,ct⟩))=H7 at ca7 k7 ⊢;generalize (⟨cc,cA,tt,bt,ct⟩:CY)=Y at ca7 fz;refine⟨_,rfl,q,_,rfl,.inr (SqT.of (k7 _ _ hqD)),_,_,rfl,rfl,_,rfl,_,rfl,_,rfl,⟨by rw[b6b];lia,by rw[b6b];lia⟩,?_⟩;rw[b6b,show((ws.length:Int)-1+1).toNat=ws.length by simp];refine a2t (λm σ H'=>a0r (drp r H1) H'/\(∃Tc Tt c u,CAt D H' r pr ps.length (ws.length+1) Y Tc Tt/\Ctd ps.length ws.length h t Tc Tt c u (λi _=>ws.length-m<=i))/\∃x4 x5:Option V,σ=[some (.ref r),some (.ref p),some (.ref q),some (.int ((ws.length:Int)+1)),x4,x5])
  ⟨k7,⟨tc0,tt0,λ_ _=>0,λ_ _ _=>1,ca7,⟨λl j _ _=>if_pos rfl,λi j a b c=>absurd c (by show ¬ws.length<=i;lia),λl i j _ a b c=>absurd c (by show ¬ws.length<=i;lia),λi j a b c=>absurd c (by show ¬ws.length<=i;omega),λl i j _ a b c=>absurd c (by show ¬ws.length<=i;omega),λl j _ _=>rfl,λi j a b c=>absurd c (by show ¬ws.length<=i;omega),λl i j _ a b c=>absurd c (by show ¬ws.length<=i;omega)⟩⟩,_,_,rfl⟩ (λm σ H8 hm hP=>?_) (λσ H8 hP=>?_)
 ·obtain⟨s8,⟨Tc,Tt,c,u,ca8,ct8⟩,x4,x5,rfl⟩:=hP;obtain⟨f,ef⟩:∃f,f=ws.length-1-m:=⟨_,rfl⟩
  have ev:(ws.length:Int)-1+(m:Int)*(-1)=(f:Int):=by grind
  rw[ev];have hf:f<ws.length:=by lia
  refine⟨_,rfl,_,_,rfl,rfl,_,rfl,_,_,rfl,⟨by omega,by grind,by lia,by lia⟩,?_⟩;have en2:(((ws.length:Int)+1)-((f:Int)+1)).toNat=ws.length-f:=by grind
  rw[en2];refine a0Z (λk σ H'=>a0r (drp r H1) H'/\(∃Tc Tt c u,CAt D H' r pr ps.length (ws.length+1) Y Tc Tt/\Ctd ps.length ws.length h t Tc Tt c u (Dn f (f+1+k)))/\∃x5:Option V,σ=[some (.ref r),some (.ref p),some (.ref q),some (.int ((ws.length:Int)+1)),some (.int (f:Int)),x5])
   ⟨s8,⟨Tc,Tt,c,u,ca8,ct8.weak λi j hij hj d=>by show ws.length-m<=i;rcases d with z|z<;>grind⟩,_,rfl⟩ (λk σ H9 hk hP=>?_) (λσ H9 hP=>?_)
  ·obtain⟨s9,⟨Tc9,Tt9,c9,u9,ca9,ct9⟩,x5,rfl⟩:=hP;have ee:(f:Int)+1+(k:Int)=((f+1+k:Nat):Int):=by push_cast;simp
   rw[ee];obtain⟨dx9,ho9⟩:=ca9.ob;refine⟨_,rfl,r,dx9,_,rfl,ho9,rfl,_,rfl,_,rfl,drp r H1,r,pr,p,ps,ws,X,h,t,Fl,Y,Tc9,Tt9,c9,u9,f,f+1+k,rfl,s9,paD,fz,ca9,T,w6,p4,by exact b6y ‹_›,by exact b9L _ _,by lia,ct9,λH' Tc' Tt' c' u' s' ca' k'=>?_⟩;exact⟨s',⟨Tc',Tt',c',u',ca',k'⟩,_,rfl⟩
  ·obtain⟨s9,⟨Tc9,Tt9,c9,u9,ca9,ct9⟩,x5,rfl⟩:=hP;exact⟨s9,⟨Tc9,Tt9,c9,u9,ca9,ct9.weak λi j hij hj d=>by
    have d:ws.length-(m+1)<=i:=d;by_cases z:f<i
    ·exact .inl z
    ·exact .inr ⟨by lia,by lia⟩⟩,_,_,rfl⟩
 ·obtain⟨s8,⟨Tc,Tt,c,u,ca8,ct8⟩,x4,x5,rfl⟩:=hP;exact qq H8 pr X h t Fl Y Tc Tt c u (λa o ha e=>a3t s8 a o ha (s1 _ _ e)) (paD.same s8) ca8 T (ct8.weak λi j _ _ _=>by show ws.length-ws.length<=i;simp)
structure ClC(P:Program)(w:World)(K:PySem.W.Frag)(mg:Str->Option Value)(base:Heap)(C D:Addr) where
 rc:DC K D
 g:mg "Counts"=some (.ref D)
 fi:Addr
 di:FuncData
 mkk:Mk K D fi
 oki:a0I P w K mg base CX0 6 fi di ["self","prices","weights"] (b0h C D)
 bi:a1K K di ["self","prices","weights"] []
end
end K95C
namespace L2
open PySem PySem.Spec PyProof.Rows
section
variable {X:Cx}
def tFmt(tv:TE):TE:=λσ H Q=>tv σ H λv H1=>(∃z,v=.str z/\z.length<=sizeLine/\Q (.str z) H1)\/∃i,v=.int i/\i.natAbs.log2<1920/\Q (.str (toString i)) H1
theorem a7z{value:Expr}{pos:Pos}{tv:TE}(hv:PE X value tv):PE X (.FormattedValue value (-1) none pos) (tFmt tv):=by
 intro pins s σ H Q I h;refine FormattedValue_plain (thn (hv pins s σ H _ I h) λv s1 ⟨x,H1,I1,r1,q1⟩=>?_);rcases q1 with ⟨z,rfl,hz,q⟩|⟨i,rfl,hi,q⟩
 ·obtain⟨t,rfl⟩:=r1;exact formatField_str (λt' tk=>⟨.str z,H1,I1.tok _,⟨_,rfl⟩,q⟩) hz
 ·obtain⟨t,rfl⟩:=r1;exact formatField_int_small hi ⟨.str _,H1,I1.tok _,⟨_,rfl⟩,q⟩
abbrev TJ:=Str->TE
def PJ(X:Cx)(es:List Expr)(t:TJ):Prop:=∀(out:Str)(pins:List (Addr×Obj))(s:Shared)(σ:St)(H:Hp)(Q:VK),Inv X pins σ H s->t out σ H Q->wpAny (model X.prog X.w) X.A (joinParts out (evalEach es X.env)) (EP X pins σ Q) X.xe s
def tJ0:TJ:=λout σ H Q=>out.length<=sizeLine/\Q (.str out) H
def tJ1(te:TE)(tj:TJ):TJ:=λout σ H Q=>te σ H λv H1=>∃z,v=.str z/\(out++z).length<=sizeLine/\tj (out++z) σ H1 Q
theorem b3v:PJ X [] tJ0:=λout pins s σ H Q I h=>joinParts_nil ⟨.str out,H,I.tok _,⟨_,rfl⟩,h.2⟩ h.1
theorem a1T{e:Expr}{es:List Expr}{te:TE}{tj:TJ}(he:PE X e te)(hj:PJ X es tj):PJ X (e::es) (tJ1 te tj):=by
 intro out pins s σ H Q I h;show wpAny _ _ (joinParts out (eval e X.env::evalEach es X.env)) _ _ _;refine joinParts_cons (thn (he pins s σ H _ I h) λv s1 ⟨x,H1,I1,r1,q1⟩=>?_);obtain⟨z,rfl,hz,q⟩:=q1;obtain⟨t,rfl⟩:=r1;exact⟨hz,hj _ pins s1 σ H1 Q I1 q⟩
theorem a6b{v1 v2:Expr}{rest:List Expr}{pos:Pos}{t:TJ}(h:PJ X (v1::v2::rest) t):PE X (.JoinedStr (v1::v2::rest) pos) (t Str.empty):=by
 intro pins s σ H Q I hq;exact JoinedStr_many (h Str.empty pins s σ H Q I hq)
theorem a6c:∀{zs:List Str}{its:List Value},a0P (zs.map V.str) its->∃l:List (Str×Tok),its=strValues l/\l.map (·.1)=zs
 |[],_,.nil=>⟨[],rfl,rfl⟩
 |z::zs,_,.cons ⟨t,e⟩ r=>by
  obtain⟨l,e1,e2⟩:=a6c r;exact⟨(z,t)::l,by rw[e,e1];rfl,by rw[b6z,e2]⟩
theorem a6d:∀l:List (Str×Tok),a0P ((l.map (·.1)).map V.str) (strValues l)
 |[]=>.nil
 |(z,t)::l=>.cons ⟨t,rfl⟩ (a6d l)
def rJoin:V->List V->Hp->VK->Prop:=λx vs H Q=>∃(sep:Str)(l:Addr)(zs:List Str)(B:Nat),x=.str sep/\vs=[.ref l]/\H l=some (.lst (zs.map V.str))/\(∀z∈zs,z.length<=B)/\zs.length*B+zs.length*sep.length<=16777216/\Q (.str (Str.join sep zs)) H
theorem a2e:MtM X "str.join" rJoin:=by
 intro pins s σ H x vs v us Q I rx rv h;obtain⟨sep,l,zs,B,rfl,rfl,hH,hB,hz,q⟩:=h;obtain⟨t,rfl⟩:=rx;obtain⟨u,rfl,ru⟩:=rv.one;cases ru;obtain⟨z,its,n,r,hl,e⟩:=I.lstM hH;obtain⟨ps,rfl,hp⟩:=a6c r;have fit:=StrLaws.joinFits hB hz;have fl:=joinFit_length fit;rw[<-hp] at fit fl;refine b8q F.slot_str_join (b9l _ _ _) F.entry_str_join (F.args_str_join_2 _ _) (meets_str_join_list sep t l ps fit) ⟨⟨_,e,rfl,n,rfl⟩,?_⟩;rw[<-hp,<-StrLaws.glued_eq_join] at q
 match ps,q with
 |[],q=>exact⟨fl,.str _,H,I.tok _,⟨_,rfl⟩,q⟩
 |[p],q=>
  have e1:Builtin.Str.glued sep ([p].map (·.1))=p.1:=by rw[StrLaws.glued_eq_join];rfl
  rw[e1] at q;exact⟨.str p.1,H,I,⟨_,rfl⟩,q⟩
 |p::p2::r,q=>exact⟨fl,.str _,H,I.tok _,⟨_,rfl⟩,q⟩
def rSplit:V->List V->Hp->VK->Prop:=λx vs H Q=>∃z y:Str,x=.str z/\vs=[.str y]/\(y.length==0)=false/\z.length+2<=sizeLine/\∀p,H p=none->Q (.ref p) (upd H p (.lst ((Txt.split z y).map V.str)))
theorem a2U:MtM X "str.split" rSplit:=by
 intro pins s σ H x vs v us Q I rx rv h;obtain⟨z,y,rfl,rfl,hy,hz,q⟩:=h;obtain⟨t,rfl⟩:=rx;obtain⟨w',rfl,ru⟩:=rv.one;obtain⟨u,rfl⟩:=ru;have fin:∀(l:List (Str×Tok))(k:Nat),l.map (·.1)=Txt.split z y->EP X pins σ Q (.ref s.heap.objs.size) {s with toks:=k,heap:=s.heap.push {cls:=.type "list",data:=.seq (strValues l).toArray}}:=λl k e=>by
  have r:=a6d l;rw[e] at r;exact⟨.ref _,_,I.lnew (t':=k) r (by
   rw[b6b];have:=split_le z y
   lia),rfl,q _ I.fresh⟩
 have hn:(Builtin.Str.partsBetween z (Builtin.Str.occurrences z y 0 z.length (z.length+1)) y.length).length<=sizeLine:=by
  have e1:=StrLaws.occ_length_le z y 0 z.length (z.length+1);rw[length_partsBetween];lia
 cases h1:(decide (z.length<y.length)||decide (Builtin.Str.strKind z<Builtin.Str.strKind y))
 ·cases hf:(Builtin.Str.occurrences z y 0 z.length (z.length+1)).isEmpty
  ·refine b8q c0H (b9l _ _ _) c0w (c0m _ _) (meets_str_split_sep z y t u h1 hy hf (by lia) hn) ?_;show wants _ _ _ {s with toks:=_,heap:=s.heap.push {cls:=.type "list",data:=.seq (strsFrom s.toks (Builtin.Str.partsBetween z (Builtin.Str.occurrences z y 0 z.length (z.length+1)) y.length)).toArray}};rw[strsFrom_eq];exact fin (numbered s.toks _) _ ((numbered_texts _ _).trans ((if_neg (c0c h1)).trans (if_neg (c0c hf))).symm)
  ·exact b8q c0H (b9l _ _ _) c0w (c0m _ _) (meets_str_split_not_found z y t u h1 hy hf) (fin [(z,t)] s.toks ((if_neg (c0c h1)).trans (if_pos hf)).symm)
 ·exact b8q c0H (b9l _ _ _) c0w (c0m _ _) (meets_str_split_cannot_occur z y t u h1) (fin [(z,t)] s.toks (if_pos h1).symm)
def rIntS:List V->Hp->VK->Prop:=λxs H Q=>∃(z:Str)(n:Int),xs=[.str z]/\PySem.intText? z=some n/\z.length<=640/\Q (.int n) H
theorem a2p:a2v X (.type "int") rIntS:=by
 intro pins s σ H xs us Q I r h;obtain⟨z,n,rfl,hn,hl,q⟩:=h;obtain⟨u,rfl,t,rfl⟩:=a2D r;exact PySem.W.KIN.call_text hn hl ⟨.int n,H,I.tok _,⟨_,rfl⟩,q⟩
end
def Asc(z:Str):Prop:=z.cps.all (·<128)=true
def Its(z:Str):It:=⟨λi _=>i<z.cps.size,λi H x H'=>H'=H/\∃c,z.cps[i]?=some c/\x=.str ⟨#[c]⟩,λi _=>z.cps.size<=i⟩
theorem b2c{P:Program}{w:World}{K:PySem.W.Frag}{tg:Expr}(z:Str)(t:Tok)(it:Addr):b2G P w K tg (Its z) [it] it (λi h=>h.IsStrIter it "str_ascii_iterator" z t i) where
 mem:=by simp
 obj:=λi h st b hb=>by
  have e:b=it:=by simpa using hb
  subst e;obtain⟨o,e,c,d⟩:=st;exact⟨o,e,λv z=>by rw[d] at z;cases z⟩
 keep:=λi h h' st k=>let ⟨o,ho,r⟩:=st;⟨o,k it (by simp) o ho,r⟩
 item:=by
  intro X hP hw hK hc i pins s σ H E I hf st hg;subst hP hw hK;obtain⟨f0,f1,f2,f3,f4,f5⟩:=hf it (by simp);have hg:i<z.cps.size:=hg;refine wpAny_pyNext_ascii_item st (c:=z.cps[i]) (by simp[hg]) λh' st' sb=>?_;have I1:Inv X pins σ H {s with heap:=h',toks:=s.toks+1}:=I.turned (t':=s.toks+1) (λb o hb e=>(sb.2 b hb).trans e) f0 f1 f3 f4 f5;obtain⟨o,e,c,d⟩:=id st';exact⟨_,rfl,a8y (s:={s with heap:=h',toks:=s.toks+1}) e c d (by decide) ⟨.str ⟨#[z.cps[i]]⟩,H,I1,⟨_,rfl⟩,⟨rfl,_,by simp[hg],rfl⟩,st',λb hb=>(hf b hb).1⟩⟩
 done:=by
  intro X hP hw hK hc i pins s σ H E I hf st hg;subst hP hw hK;obtain⟨f0,f1,f2,f3,f4,f5⟩:=hf it (by simp);have hg:z.cps.size<=i:=hg;exact wpAny_pyNext_ascii_end (I.ok.hd hc) st (by simp[hg]) λh' eb=>⟨rfl,I.turned (t':=s.toks) (λb o hb e=>eb b o hb e) f0 f1 f3 f4 f5⟩
 self:=λ_ _ _ _ _ st h=>wpAny_pyIter_striter_ascii st h
section
variable {X:Cx}{tg:Expr}
def iStr(tl:TE):TI:=λσ H R=>tl σ H λx H1=>∃z,x=.str z/\Asc z/\R (Its z) H1
theorem pi_str{l:Expr}{tl:TE}(hl:PE X l tl):PI X tg l (iStr tl):=by
 intro pins s σ H R I h;refine thn (hl pins s σ H _ I h) λv s1 ⟨x,H1,I1,r1,q1⟩=>?_;obtain⟨z,e,ha,q⟩:=q1;subst e;obtain⟨t,rfl⟩:=r1;refine wpAny_pyIter_ascii ha ?_;refine⟨s1.heap.objs.size,[s1.heap.objs.size],_,_,H1,rfl,I1.kept (t':=s1.toks) λb o e=>b6e _ e,b2c z t _,⟨_,b6m _ rfl,rfl,rfl⟩,λb hb=>?_,q⟩;have e:b=s1.heap.objs.size:=by simpa using hb
 subst e;exact I1.fpOk (b6k _) (I1.hok.fresh (b6k _))
end
theorem b2d{z:Str}{k:Nat}{g:TG}{tc:TT}{te:TE}{σ:St}{H:Hp}{Q:VK}{d:Addr}(Pv:Nat->Hp->Prop)(h0:Pv 0 (upd H d (.lst [])))
  (hs:∀i c H,z.cps.toList[i]?=some c->Pv i H->g (.str ⟨#[c]⟩) (List.replicate k none++σ) H λσ2 H2=>tc σ2 H2 λb H3=>if b=true then te σ2 H3 λy H4=>∃ys,H4 d=some (.lst ys)/\ys.length<sizeLine/\Pv (i+1) (upd H4 d (.lst (ys++[y]))) else Pv (i+1) H3)
  (hd:∀H,Pv z.cps.size H->Q (.ref d) H) :
  ∃W:Nat->Nat->Hp->Prop,(∃m,W 0 m (upd H d (.lst [])))/\∀i m H,W i m H ->
   ((Its z).stop i H/\Q (.ref d) H)\/((Its z).go i H/\∃N:Hp->Prop,(∀H',N H'->∃m',m'<m/\W (i+1) m' H')/\∀x H',(Its z).yld i H x H'->g x (List.replicate k none++σ) H' λσ2 H2=>
    tc σ2 H2 λb H3=>if b=true then te σ2 H3 λy H4=>∃ys,H4 d=some (.lst ys)/\ys.length<sizeLine/\N (upd H4 d (.lst (ys++[y]))) else N H3):=by
 refine⟨λi m H=>m=z.cps.size-i/\i<=z.cps.size/\Pv i H,⟨z.cps.size,by simp,b6O _,h0⟩,?_⟩;rintro i m H ⟨rfl,hi,p⟩;by_cases hlt:i<z.cps.size
 ·refine .inr ⟨hlt,Pv (i+1),λH' p'=>⟨z.cps.size-(i+1),by grind,rfl,hlt,p'⟩,λx H' y=>?_⟩;obtain⟨e,c,hc,y⟩:=y;subst e y;exact hs i c _ (by rw[b7J];exact hc) p
 ·have e:i=z.cps.size:=by lia
  subst e;exact .inl ⟨b6k _,hd H p⟩
def b2e(tl:TE)(tc:TT)(te:TE):TE:=λσ H Q=>tl σ H λv H1=>∃z,v=.str z/\Asc z/\∀d,H1 d=none ->
 ∃Pv:Nat->Hp->Prop,Pv 0 (upd H1 d (.lst []))/\(∀i c H,z.cps.toList[i]?=some c->Pv i H->a5I tc te σ d (.str ⟨#[c]⟩) H (Pv (i+1)))/\∀H,Pv z.cps.size H->Q (.ref d) H
section
variable {X:Cx}{elt iter:Expr}{tg:Str}{tp:Pos}{cs:List Expr}{scope:Scope}{pos:Pos}{tc:TT}{te:TE}{M:List Str}
theorem a1L{tl:TE}(hc:X.calm=true)(S:a0x scope X.env X.N M)(nd:(tg::M).Nodup)(hl:scope.names.lookup tg=some .local)(hi:PE X iter tl)(mo:a2E tl)
  (hin:a4l X scope tg M cs elt tc te)(hf:∀x,foldedSetIterable iter X.env x=pure x:=by intro _;rfl):PE X (.ListComp elt [⟨.Name tg tp,iter,cs,0⟩] scope pos) (b2e tl tc te):=by
 refine a2s hc S nd hl (pi_str hi) hin (λσ H Q h=>?_) hf;refine mo σ H _ _ (λv H1 q=>?_) h;obtain⟨z,e,ha,q⟩:=q;refine⟨z,e,ha,λd hd=>?_⟩;obtain⟨Pv,h0,hs,hd⟩:=q d hd;exact b2d (k:=1) (g:=a1B 0) Pv h0 hs hd
end
theorem b2f:OpR X (binaryOp .FloorDiv) (rI (λ_ j=>0<j/\j.natAbs.log2<9000) λi j=>.int (i / j)):=opI λi j _ _ _ _ _ hc q=>by
 have h1:(0:Int)<j:=hc.1;exact floordiv_int (by omega) (by rw[c0f i (by lia)];exact q) (.inl (PyProof.noPylong_of_log2 hc.2))
variable {prog:Program}{w:World}{A:Around}{E:Value->Shared->Prop}{s:Shared}
abbrev B90:Int:=1000000000000000000000000000000000000000000000000000000000000000000000000000000000000000000
end L2
namespace L2
open PySem PySem.Spec PyProof.Rows PySem.W
section
variable {prog:Program}{w:World}{A:Around}{E:Value->Shared->Prop}{s:Shared}{b:Bool}
def b0Q(w:World):Obj:={cls:=.type "set",dict:=none,data:=.set #[] 0 (.fresh 0 0 (!w.params.followText "set-order"))}
theorem new_sm(a:Value){Q1:Value->Shared->Prop}(h:Q1 (.ref s.heap.objs.size) {s with heap:=s.heap.push (b0Q w)}) :
  codeAny (model prog w) A (.call (.builtin "set.__new__") ⟨[.type "set",a],[]⟩) (wants Q1 E) s:=by
 refine codeAny_of_tree (A:=A) ?_;show wpAny _ A.in1 (checkBuiltinCall "set.__new__" ⟨[.type "set",a],[]⟩ >>= λ_=>again (.builtin "set.__new__" ⟨[.type "set",a],[]⟩)) _ _ s;refine b6c (wpAny_of_eq (PySem.F.newCall_set_1 a) (b6j ⟨b8Y PySem.F.plain_set_new _,b8b PySem.F.entry_set_new ?_⟩));rw[b7A PySem.F.plain_set_new _];unfold Builtin.«set.__new__» Builtin.Frozenset.newClass;have sbs:=PySem.sub_set_self;obtain⟨hp,g,d,tk,os⟩:=s;dsimp only;wp_walk;refine wpAny_askSetting (b6j ?_);dsimp only;simp only[newObj];exact b6c (wpAny_alloc (b6j (b6j h)))
end
variable {prog:Program}{w:World}{A:Around}{E:Value->Shared->Prop}{s:Shared}
def StS(prog:Program)(w:World)(zs:List Str)(h:Heap)(a:Addr):Prop:=h.SetOf (PySem.strKind prog w) a (λk=>decide (k∈zs)) zs.length
theorem StS.at{zs:List Str}{h h':Heap}{a:Addr}(x:StS prog w zs h a)(e:∀o,h.get? a=some o->h'.get? a=some o):StS prog w zs h' a:=by
 obtain⟨o,es,ep,t,ho,r⟩:=x;exact⟨o,es,ep,t,e o ho,r⟩
theorem b3w(z:Str)(t:Tok):(PySem.strKind prog w).is z (.str z t)=true:=by
 show Value.isStrOf z (.str z t)=true;simp[Value.isStrOf]
theorem b5m{R:Result->Shared->Prop}{I S:Addr}{fp wr:List Addr}{n:Nat}{P:Nat->Value->Prop}{St:Nat->Heap->Prop}(W:Walks prog w A.in1 I fp wr n P St)(hSf:S∉fp)(zs:List Str)(nd:zs.Nodup)(hn:n=zs.length)(h4:n<4000)
  (hval:∀i v,i<n->P i v->∃z tk,zs[i]?=some z/\v=.str z tk):∀(k i:Nat)(s:Shared),n-i=k->i<=n->St i s.heap->StS prog w (zs.take i) s.heap S ->
   (∀h' tk,(∀c o,c∉S::wr->s.heap.get? c=some o->h'.get? c=some o)->StS prog w zs h' S->R (.ok (.ret .none)) {s with heap:=h',toks:=tk}) ->
   codeAny (model prog w) A (.builtin "set.update.loop" ⟨[.ref S,.ref I],[]⟩) R s:=by
 have hSw:S∉wr:=λz=>hSf (W.sub _ z);intro k
 induction k with
 |zero=>
  intro i s hk hi st hS hR;obtain rfl:i=n:=by grind
  refine b8b F.entry_set_update_loop ?_;rw[b7A b9u _];show wpAny _ A.in1 (pyNext (.ref I) >>= λ_=>_) _ _ s;refine b6c (W.done s _ _ st λh' tk kp=>?_);show wpAny _ A.in1 (ret Value.none) _ _ _;rw[hn,b6v] at hS;exact b6j (hR h' tk (λc o hc e=>kp c o (λz=>hc (b7g _ z)) e) (hS.at λo e=>kp S o hSw e))
 |succ k ih=>
  intro i s hk hi st hS hR;have hlt:i<n:=by grind
  refine b8b F.entry_set_update_loop ?_;rw[b7A b9u _];show wpAny _ A.in1 (pyNext (.ref I) >>= λ_=>_) _ _ s;refine b6c (W.item i s _ _ hlt st λv h1 tk1 hP st1 kp=>?_);obtain⟨z,tk,hz,rfl⟩:=hval i v hlt hP;have hS1:StS prog w (zs.take i) h1 S:=hS.at λo e=>kp S o hSw e;have li:i<zs.length:=by lia
  have nin:z∉zs.take i:=λhm=>by
   obtain⟨j,hj,e⟩:=List.mem_iff_getElem.mp hm;rw[b6l] at hj;rw[List.getElem_take] at e;have e2:zs[i]=z:=by rw[b6f li] at hz;exact b6I hz
   have:=(c0C nd (h₀:=by grind) (h₁:=li)).mp (e.trans e2.symm)
   lia
  show wpAny _ A.in1 (holding [Value.str z tk] (setAdd S (.str z tk)) >>= λ_=>_) _ _ _;unfold setAdd;refine b6c (b7F (b7F (b6c ((PySem.strKind prog w).pyHash (k:=z) (b3w z tk) ?_))));refine wpAny_setAddHashed_of (knd:=PySem.strKind prog w) (s:={s with heap:=h1,toks:=tk1+1}) (b3w z tk) rfl hS1 (by rw[b6l];unfold scanBound;lia) λh2 sb hS2=>?_;have hS3:StS prog w (zs.take (i+1)) h2 S:=by
   refine SetOf_congr hS2 (λk'=>?_) ?_
   ·rw[b6s,hz];simp[b6G,Bool.decide_or]
   ·rw[if_neg (by simp[nin]),b6l,b6l]
    lia
  refine b6j ⟨b8Y b9u _,ih (i+1) _ (by grind) hlt (W.frame _ _ _ st1 λc hc o e=>?_) hS3 λh' tk' kp' hS'=>?_⟩
  ·rw[sb.2 c (λz=>hSf (z▸hc))];exact e
  ·refine hR h' tk' (λc o hc e=>kp' c o hc ?_) hS';show h2.get? c=some o;rw[sb.2 c (λz=>hc (by rw[z];exact b7O))];exact kp c o (λz=>hc (b7g _ z)) e
theorem b5n{h:Heap}{a:Addr}(e:h.get? a=some (b0Q w)):StS prog w [] h a:=
 ⟨_,#[],0,_,e,⟨rfl,rfl,rfl⟩,rfl,λe he=>by simp at he,λk=>by simp,by unfold scanBound;decide,rfl,rfl⟩
theorem a5l:isSubtype (.type "tuple") (.type "set")=pure false:=by rw[isSubtype_type];kernel_rfl
theorem a2H:isSubtype (.type "tuple") (.type "frozenset")=pure false:=by rw[isSubtype_type];kernel_rfl
theorem b0i{l:Addr}{items:Array Value}{zs:List Str}{Q:Value->Shared->Prop}(hh:A.handled=none)(hl:s.heap.IsTuple l items)(hi:a0P (zs.map V.str) items.toList)(nd:zs.Nodup)(h4:zs.length<4000)
  (h:∀h' tk,StS prog w zs h' s.heap.objs.size->(∀c o,s.heap.get? c=some o->h'.get? c=some o)->Q (.ref s.heap.objs.size) {s with heap:=h',toks:=tk}) :
  wpAny (model prog w) A (call (.type "set") [.ref l]) Q E s:=by
 obtain⟨c,tl,hmro⟩:=b7R.mro;have hmade:=b7R.made;have hsub:=b7R.sub;refine c0N (codeAny_of_tree (A:=A) ?_);show wpAny _ _ (callAny (.type "set") _) _ _ _;refine b6j ⟨Code.quiet_builtin _ (by decide +kernel),b8b PySem.F.entry_type_call ?_⟩;rw[Around.under_plain (weight_type_call_type "set" [.ref l] []) rfl];have h1:=b7R.notType;have h2:=b7R.canCreate;have hct:=PySem.F.typeCall_set_1 (.ref l)
 repeat (any_goals (first|assumption|wp_step))
 refine b8L (new_sm (.ref l) (E:=E) (Q1:=λobj s1=>obj=.ref s.heap.objs.size/\s1={s with heap:=s.heap.push (b0Q w)}) ⟨rfl,rfl⟩) λr s1 hr=>?_;cases r with
 |error e=>exact hr
 |ok fl=>
  cases fl with
  |ret obj=>
   obtain⟨rfl,rfl⟩:=hr;have hS:(s.heap.push (b0Q w)).get? s.heap.objs.size=some (b0Q w):=b6m _ rfl;have hT:Shared.TypeIs {s with heap:=s.heap.push (b0Q w)} (.ref s.heap.objs.size) "set":=⟨_,hS,rfl⟩
   have hli:=b7R.init.lookup;have hbi:=b7R.init.bind (.ref s.heap.objs.size)
   repeat (any_goals (first|assumption|wp_step))
   refine b8L (codeAny_call_builtin (R:=wants (λr s2=>r=.none/\∃h' tk,s2={s with heap:=h',toks:=tk}/\StS prog w zs h' s.heap.objs.size/\(∀c o,s.heap.get? c=some o->h'.get? c=some o)) E) b7R.init.plain PySem.F.entry_set_init (check_set_init_1 hT ?_)) λr2 s2 hr2=>?_
   ·obtain⟨ol,hol,hcl,nl,hdl⟩:=hl;obtain⟨ocls,odict,odata,oslots⟩:=ol;simp only at hcl hdl;subst hcl hdl;have hol1:(s.heap.push (b0Q w)).get? l=some {cls:=.type "tuple",dict:=odict,data:=.seq items nl,slots:=oslots}:=b6e _ hol;have q1:=a5l;have q2:=a2H;have q3:(Value.type "tuple" == Value.type "dict")=false:=by decide
    have hl1:(s.heap.push (b0Q w)).IsTuple l items:=⟨_,hol1,rfl,nl,rfl⟩
    unfold Builtin.«set.__init__» noKeywords Builtin.Frozenset.updateFrom;generalize hPI:pyIter=PI
    wp_walk
    subst hPI;refine b8t hl1 (b6c (wpAny_runValue ?_));have lS:l<s.heap.objs.size:=b6t hol;have ne:l≠(s.heap.push (b0Q w)).objs.size:=by rw[b7f];exact b6L (Nat.lt_succ_of_lt lS)
    have nf:s.heap.objs.size∉[(s.heap.push (b0Q w)).objs.size,l]:=by
     rw[b7f];intro z;rcases b6D.mp z with z|z
     ·exact absurd z (b6L (b9K _))
     ·exact absurd (b6r.mp z) (b7Y lS)
    have len:items.size=zs.length:=by
     have:=hi.length;simpa using this.symm
    refine b5m (Walks.tuple (by simp[hh]) _ l ne items) nf zs nd len (by lia) (λi v hlt hv=>?_) (items.size-0) 0 _ rfl (b6O _) ⟨⟨_,b6m _ rfl,rfl,rfl⟩,hl1.at λo e=>b6e _ e⟩ (b5n (b6e _ hS)) λh' tk kp hS'=>?_
    ·have hl:i<zs.length:=by rw[<-len];exact hlt
     obtain⟨u,hu,ru⟩:=hi.get (show(zs.map V.str)[i]?=some (.str zs[i]) by rw[b6p,b6f hl];rfl);rw[b7J] at hu;have hv:items[i]?=some v:=hv;rw[hu] at hv;obtain⟨tk,e⟩:=ru;exact⟨zs[i],tk,b6f hl,by rw[<-b6I hv,e]⟩
    ·show wpAny _ _ _ _ _ _;refine b6j (show wpAny _ _ (ret Value.none) _ _ _ from b6j ⟨rfl,h',tk,rfl,hS',λc o e=>kp c o (λz=>?_) (b6e _ (b6e _ e))⟩);have lc:=b6t e;rcases b6D.mp z with z|z
     ·exact absurd z (b6L lc)
     ·have:=b6r.mp z;rw[b7f] at this;exact absurd this (b6L (Nat.lt_succ_of_lt lc))
   ·cases r2 with
    |error e=>exact hr2
    |ok fl2=>
     cases fl2 with
     |ret r=>
      obtain⟨rfl,h',tk,rfl,hS',hk'⟩:=hr2
      repeat (any_goals (first|assumption|wp_step))
      exact h _ _ hS' hk'
     |_=>exact hr2.elim
  |_=>exact hr.elim
def SetT(P:Program)(w:World)(a:Addr)(zs:List Str):HO:=.ext λh=>StS P w zs h a
def rSetT(P:Program)(w:World)(K:PySem.W.Frag):List V->Hp->VK->Prop:=λxs H Q=>∃(l:Addr)(zs:List Str),xs=[.ref l]/\SqT K H l (zs.map V.str)/\zs.Nodup/\zs.length<4000 /\
 ∀p H',a0r H H'->H p=none->H' p=some (SetT P w p zs)->Q (.ref p) H'
theorem a4C{X:Cx}(hc:X.calm=true):a2v X (.type "set") (rSetT X.prog X.w X.K):=by
 intro pins s σ H xs us Q I r h;obtain⟨l,zs,rfl,e,nd,h4,q⟩:=h;obtain⟨u,rfl,rx⟩:=a2D r;cases rx;obtain⟨its,rv,ht,hz⟩:=I.tuple e;have hLn:H s.heap.objs.size=none:=I.hok.fresh (b6k _);refine b0i (I.ok.hd hc) (show s.heap.IsTuple l its.toArray from ht) (by rw[c0d];exact rv) nd h4 λh' tk hS kp=>?_;have I2:Inv X pins σ (upd H s.heap.objs.size (SetT X.prog X.w s.heap.objs.size zs)) {s with heap:=h',toks:=tk}:=I.laid (t':=tk) kp (b6k _) ⟨hS,by obtain⟨o,_,_,_,ho,_⟩:=hS;exact⟨o,ho⟩,λh1 h2 z k=>z.at k⟩;exact⟨.ref s.heap.objs.size,_,I2,rfl,q _ _ (a0e hLn _) hLn a0b⟩
def rLenS(P:Program)(w:World):List V->Hp->VK->Prop:=λxs H Q=>∃d zs,xs=[.ref d]/\H d=some (SetT P w d zs)/\zs.length<4000/\Q (.int zs.length) H
theorem a6e{X:Cx}:a2v X (.builtin "len") (rLenS X.prog X.w):=by
 intro pins s σ H xs us Q I r h;obtain⟨d,zs,rfl,e,h4,q⟩:=h;obtain⟨u,rfl,rx⟩:=a2D r;cases rx;obtain⟨⟨o,es,ep,t,ho,hex,hd,_,_,_,hf,hn⟩,_⟩:=(show a1s X.prog X.w H s.heap d (SetT X.prog X.w d zs) from I.hok d _ e)
 refine call_len_set ho hex hd hf (by rw[hn];lia) ?_;rw[hn];exact⟨.int _,H,I.tok _,⟨_,rfl⟩,q⟩
end L2
namespace L2
open PySem PySem.Spec PyProof.Rows
def RStr(x:V)(z:Str):Prop:=x=.str z
section
variable {H:Hp}{s:Shared}{n:Nat}
theorem EqK.str:EqK H s n RStr:=⟨λx a b h1 h2=>by unfold RStr at *;rw[h1] at h2;cases h2;rfl,λA x y a b u v _ h1 h2 r1 r2=>by
 unfold RStr at *
 subst h1 h2;obtain⟨t,rfl⟩:=r1;obtain⟨t',rfl⟩:=r2;have q:=b8J (A:=A) (s:=s) a t b t';rw[b8O] at q;exact q⟩
theorem Paired.strs:∀zs:List Str,Paired RStr (zs.map V.str) zs
 |[]=>.nil
 |z::zs=>.cons rfl (Paired.strs zs)
end
def b5o(H:Hp)(a:Addr)(sg:List Str)(ps:List Int)(nm:List Str)(ws:List Int):Prop:=∃b1 b2 b3 b4,H a=some (.tup [.ref b1,.ref b2,.ref b3,.ref b4])/\H b1=some (.tup (sg.map V.str))/\H b2=some (.tup (ps.map V.int))/\H b3=some (.tup (nm.map V.str))/\H b4=some (.tup (ws.map V.int))
def b5p:V->Option Int->Option Int->Hp->VK->Prop:=λx lo hi H Q=>∃z:Str,x=.str z/\lo=none/\hi=some (-1)/\1<=z.length/\z.length<=sizeLine/\Q (.str ⟨z.cps.toList.dropLast.toArray⟩) H
theorem a6O{n:Nat}(h:1<=n):Builtin.Str.strSliceIndices none (some (-1)) 1 n=List.range (n-1):=by
 have e:(max 0 (min ((if (-1:Int)<0 then -1+(n:Int) else -1)) (n:Int)))=((n-1:Nat):Int):=by
  rw[if_pos (by decide)]
  grind
 show sliceRange 0 (max 0 (min ((if (-1:Int)<0 then -1+(n:Int) else -1)) (n:Int))) 1=_;rw[e];have:=c0q 0 (n-1);simpa using this
theorem a2V{α β:Type}{f g:α->Option β}:∀{l:List α},(∀x∈l,f x=g x)->l.filterMap f=l.filterMap g
 |[],_=>rfl
 |x::l,h=>by
  rw[b8E,b8E,h x (.head _),a2V λy hy=>h y (.tail _ hy)]
theorem b0j{X:Cx}:SlR X b5p:=by
 intro pins s σ H x v vl vu lo hi sl Q I rx hs pl pu h;obtain⟨z,rfl,rfl,rfl,h1,hz,q⟩:=h;obtain⟨t,rfl⟩:=rx;cases pl;cases pu with
 |int i tk=>
 refine⟨"str",_,c0n.lookup,b9l _ _ _,?_⟩;refine b9v (l:=none) (u:=some (-1,tk)) (st:=none) hs rfl ?_;have e1:slicePicked z none (some (-1,tk)) none=List.range (z.length-1):=a6O h1;have e2:(z.length-1==z.length)=false:=by simp;omega
 unfold sliceMade;rw[e1,b6C,e2,b9E,if_neg b6u];have e3:(List.range (z.length-1)).filterMap (z.cps[·]?)=z.cps.toList.dropLast:=by
  have hl:z.length-1=z.cps.toList.dropLast.length:=by rw[b9b];rfl
  have hc:∀i∈List.range (z.length-1),z.cps[i]?=z.cps.toList.dropLast[i]?:=λi hi=>by
   have:=b6V.mp hi;rw[List.getElem?_dropLast,if_pos (by rw[b6H];exact this),b7J]
  rw[a2V hc,hl];exact b8h _
 rw[e3];refine⟨?_,.str _,H,I.tok _,⟨_,rfl⟩,q⟩;show z.cps.toList.dropLast.toArray.size<=_;rw[b6n,b9b,b6H];exact b6R (Nat.sub_le _ _) hz
theorem tindex(l:Addr)(items:Array Value)(x:Value)(e:Value->Bool)(j:Nat)(hj:j<items.size)(hit:e items[j]=true)(hno:∀m (hm:m<items.size),m<j->e items[m]=false) :
  Meets (Builtin.«tuple.index» ⟨[.ref l,x],[]⟩) (λA R s=>s.heap.IsTuple l items/\(∀y,y∈items->SeqAt.EqAt A.in1 s y x (e y))/\R (.ok (.ret (.int j s.toks))) {s with toks:=s.toks+1}):=by
 intro prog w A R s h;obtain⟨hl,he,h⟩:=h;obtain⟨⟨cls,dd,data,sl⟩,ho,hc,n,hd⟩:=id hl;simp only at hc hd;subst hc hd;unfold Builtin.«tuple.index»;refine b6c (m:=selfAndSome "tuple.index" "index" 1 3 {pos:=[Value.ref l,x]}) (b6j ?_);have ti:∀{Q:Array Value->Shared->Prop},Q items s->wpAny (model prog w) A.in1 (Builtin.Tuple.tupleItemsOf (.ref l)) Q (λe s'=>R (.error e) s') s:=λq=>by
  unfold Builtin.Tuple.tupleItemsOf seqItems?;exact b6c (b6c (wpAny_load ho (b6j (b6j q))))
 refine b6c (ti ?_);refine b6c (m:=pure 0) (b6j (b6c (m:=pure items.size) (b6j ?_)));refine b6c ?_;rw[Nat.min_self,Std.Legacy.Range.forIn_eq_forIn_range'];simp only[Std.Legacy.Range.size,Nat.sub_zero,c0o,Nat.div_one];refine wpAny_forIn_list _ (λrest b s'=>s'=s/\b=(none,())/\∃i,i<=j/\rest=List.range' i (items.size-i)) _ ?_ ?_ _ _ ⟨rfl,rfl,0,b6O _,by simp⟩
 ·rintro i rest b s' ⟨rfl,rfl,i',hi',hr⟩;obtain⟨rfl,hrest⟩:i=i'/\rest=List.range' (i'+1) (items.size-(i'+1)):=by
   have e:items.size-i'=(items.size-(i'+1))+1:=by grind
   rw[e,List.range'_succ] at hr;injection hr with h1 h2;exact⟨h1,h2⟩
  have hi:i<items.size:=by lia
  rw[c0r hi];refine b6c (he items[i] (Array.getElem_mem hi) _ _ _ _ ?_);by_cases c:i=j
  ·subst c;rw[hit,if_pos rfl];unfold retInt;refine b6c (b6c (wpAny_mkInt ?_));exact b6j (b6j (b6j h))
  ·rw[hno i hi (by lia),if_neg b6u];exact b6j ⟨rfl,rfl,i+1,by lia,hrest⟩
 ·rintro b s' ⟨_,_,i,hi,hr⟩;have:=b7d List.length hr;rw[List.length_range'] at this;exact absurd this (by show ¬(0=items.size-i);lia)
def rIdxT(K:PySem.W.Frag):V->List V->Hp->VK->Prop:=λx vs H Q=>∃(l:Addr)(zs:List Str)(u:Str),x=.ref l/\vs=[.str u]/\SqT K H l (zs.map V.str)/\u∈zs/\Q (.int (zs.idxOf u:Nat)) H
theorem a2W{X:Cx}(K:PySem.W.Frag)(hK:X.K=K:=by rfl):MtM X "tuple.index" (rIdxT K):=by
 subst hK;intro pins s σ H x vs v us Q I rx rv h;obtain⟨l,zs,u,rfl,rfl,hH,hm,q⟩:=h;cases rx;obtain⟨y',rfl,ry⟩:=rv.one;obtain⟨its,r,ht,hz⟩:=I.tuple hH;obtain⟨tu,rfl⟩:=ry;have li:(zs.map V.str).length=its.length:=r.length;rw[b6b] at li;have ev:∀(i:Nat)(z:Value),its[i]?=some z->∃k t,zs[i]?=some k/\z=.str k t:=λi z hi=>by
  have il:i<its.length:=(b6d.mp hi).1;have hxi:(zs.map V.str)[i]?=some (.str (zs[i]'(by lia))):=by rw[b6p,b6f (by omega)];rfl
  obtain⟨z',hz',rz⟩:=r.get hxi;rw[hi] at hz';cases hz';obtain⟨t,e⟩:=rz;exact⟨_,t,b6f (by omega),e⟩
 have hj:zs.idxOf u<zs.length:=List.idxOf_lt_length_iff.mpr hm;refine b8q b8e ht.typeIs PySem.F.entry_tuple_index (PySem.F.args_tuple_index_2 _ _)
  (tindex l its.toArray _ (λz=>match z with |.str k _=>decide (k=u)|_=>false) (zs.idxOf u) (by rw[b6n];lia) ?_ ?_) ⟨ht,λz hz=>?_,⟨.int _,H,I.tok _,⟨_,rfl⟩,q⟩⟩
 ·obtain⟨k,t,hk,e⟩:=ev (zs.idxOf u) (its[zs.idxOf u]'(by omega)) (b6f _);show(match its[zs.idxOf u]'(by omega) with |.str k _=>decide (k=u)|_=>false)=true;rw[e];refine b6i ?_;rw[b6f hj,List.getElem_idxOf hj] at hk;cases hk;rfl
 ·intro m hm' hlt;have hm2:m<its.length:=by simpa using hm'
  obtain⟨k,t,hk,e⟩:=ev m (its[m]'hm2) (b6f _);show(match its[m]'hm2 with |.str k _=>decide (k=u)|_=>false)=false;rw[e];refine b6w λhz=>?_;have hlt':m<zs.findIdx (·==u):=hlt;obtain⟨ml,em⟩:=b6d.mp hk;have:=List.not_of_lt_findIdx hlt';rw[em,hz] at this;simp at this
 ·have hz':z∈its:=by simpa using hz
  obtain⟨i,hi⟩:=b6N.mp hz';obtain⟨k,t,hk,rfl⟩:=ev i z hi;have q:=b8J (A:=X.A.in1) (s:=s) k t u tu;rw[b8O] at q;exact q
end L2
namespace K95
open PySem PySem.NumText L2 PyProof.Rows
def S(l:List Nat):Str:=⟨l.toArray⟩
theorem b0k(l:List Nat):(S l).cps.toList=l:=c0d
theorem a8l(l:List Nat):(S l).length=l.length:=b6n
theorem S_of(z:Str):S z.cps.toList=z:=rfl
theorem b2g(a b:List Nat):S a++S b=S (a++b):=by
 show(⟨a.toArray++b.toArray⟩:Str)=⟨(a++b).toArray⟩
 rw[List.append_toArray]
theorem S_inj(h:S a=S b):a=b:=by
 have:=b7d (λz:Str=>z.cps.toList) h;simpa [S] using this
def jn(c:Nat):List (List Nat)->List Nat
 |[]=>[]
 |[a]=>a
 |a::b::r=>a++c::jn c (b::r)
theorem b2h(c:Nat):∀zs:List Str,(Str.join ⟨#[c]⟩ zs).cps.toList=jn c (zs.map λz=>z.cps.toList)
 |[]=>rfl
 |[a]=>rfl
 |a::b::r=>by
  have ih:=b2h c (b::r);show(a++(⟨#[c]⟩:Str)++Str.join ⟨#[c]⟩ (b::r)).cps.toList=_;show((a.cps++#[c])++(Str.join ⟨#[c]⟩ (b::r)).cps).toList=_;rw[c0e,c0e,ih];simp[jn]
theorem b0l:∀{a b r t:List Nat},c∉a->c∉b->a++c::r=b++c::t->a=b/\r=t
 |[],[],_,_,_,_,h=>⟨rfl,(b7X h).2⟩
 |[],y::b,_,_,_,hb,h=>absurd ((b7X h).1▸b7O) hb
 |x::a,[],_,_,ha,_,h=>absurd ((b7X h).1▸b7O) ha
 |x::a,y::b,r,t,ha,hb,h=>by
  obtain⟨h1,h2⟩:=b7X h;obtain⟨e1,e2⟩:=b0l (λz=>ha (.tail _ z)) (λz=>hb (.tail _ z)) h2;exact⟨by rw[h1,e1],e2⟩
theorem b0m:∀{A B:List (List Nat)},A≠[]->B≠[]->(∀a∈A,c∉a)->(∀b∈B,c∉b)->jn c A=jn c B->A=B
 |[],_,h,_,_,_,_=>absurd rfl h
 |_,[],_,h,_,_,_=>absurd rfl h
 |[a],[b],_,_,_,_,h=>by rw[show a=b from h]
 |[a],b::b2::r,_,_,fa,_,h=>by
  have h:a=b++c::jn c (b2::r):=h;exact absurd (by rw[h];simp) (fa a (.head _))
 |a::a2::r,[b],_,_,_,fb,h=>by
  have h:a++c::jn c (a2::r)=b:=h;exact absurd (by rw[<-h];simp) (fb b (.head _))
 |a::a2::r,b::b2::t,_,_,fa,fb,h=>by
  obtain⟨e1,e2⟩:=b0l (fa a (.head _)) (fb b (.head _)) (show a++c::jn c (a2::r)=b++c::jn c (b2::t) from h);rw[e1,b0m (by simp) (by simp) (λx hx=>fa x (.tail _ hx)) (λx hx=>fb x (.tail _ hx)) e2]
theorem a5m(hB:B≠[])(fb:∀b∈B,c∉b)(h:x.cps.toList=jn c B):Txt.split x ⟨#[c]⟩=B.map S:=by
 have e1:=b2h c (Txt.split x ⟨#[c]⟩);rw[StrLaws.join_split,h] at e1;have ne:(Txt.split x ⟨#[c]⟩).map (λz=>z.cps.toList)≠[]:=λz=>by
  have:=split_pos x ⟨#[c]⟩;rw[List.map_eq_nil_iff.mp z] at this;exact absurd this (by decide)
 have:=b0m hB ne fb (λa ha=>by
  obtain⟨p,hp,rfl⟩:=b6x.mp ha;exact StrLaws.split_free x c p hp) e1
 rw[this,b7v];exact(List.map_id' _).symm.trans (b6J λz _=>rfl)
def dg(n:Int):List Nat:=(Nat.toDigits 10 n.toNat).map Char.toNat
def nS(n:Int):Str:=S (dg n)
theorem nS_is(h:0<=n):(Str.ofString (toString n))=nS n:=by
 obtain⟨m,rfl⟩:∃m:Nat,n=m:=⟨n.toNat,by lia⟩
 have:=PySem.W.KIN.signs_num m;show _=S (dg m);rw[<-S_of (Str.ofString (toString (m:Int))),this];rfl
theorem b0n(h1:n<=B30):(dg n).length<=31:=by
 unfold dg;rw[b6b];refine toDigits_len_pow (by decide) (by decide) ?_;have:B30<10 ^ 31:=by unfold B30;decide
 lia
theorem b3x(n:Int):1<=(dg n).length:=by
 unfold dg;rw[b6b];exact toDigits_len_ge 10 _
theorem b2i:∀d:Nat,d<10->48<=(Nat.digitChar d).toNat/\(Nat.digitChar d).toNat<=57/\(d≠0->(Nat.digitChar d).toNat≠48):=by decide
theorem a7A(n:Int):∀c∈dg n,48<=c/\c<=57:=λc hc=>by
 obtain⟨ch,hch,rfl⟩:=b6x.mp hc;exact digit_range (Nat.isDigit_of_mem_toDigits (by decide) (by decide) hch)
theorem dg_nat(m:Nat)(h:1<=m):((Nat.toDigits 10 m).map Char.toNat).getD 0 0≠48:=by
 induction m using Nat.strongRecOn with
 |_ m ih=>
  by_cases c:m<10
  ·rw[Nat.toDigits_of_lt_base c];exact(b2i m c).2.2 (by lia)
  ·have hm:m % 10<10:=Nat.mod_lt m (by decide);have t:Nat.toDigits 10 (m / 10)++Nat.toDigits 10 (m % 10)=Nat.toDigits 10 (10*(m / 10)+m % 10):=Nat.toDigits_append_toDigits (by decide) (by lia) hm;rw[Nat.div_add_mod] at t;have ih:=ih (m / 10) (by lia) (by lia);have l:=toDigits_len_ge 10 (m / 10);rw[<-t,b6g];rw[b6q] at ih ⊢;rw[b7D (by rw[b6b];assumption)];exact ih
theorem b2j(h:1<=n):(dg n).getD 0 0≠48:=dg_nat n.toNat (by lia)
theorem a7B(h0:1<=n)(h1:n<=B30):PySem.intText? (nS n)=some n:=by
 have l:=b0n h1;have p:=b3x n;have e0:(nS n).cps.toList=dg n:=b0k _;have e:=intText_digits (x:=nS n) (by rw[e0];exact a7A n) (by rw[e0];intro z;rw[z] at p;exact absurd p (by decide)) (by show(S (dg n)).length<=_;rw[a8l];lia);rw[e0] at e;have vb:=PySem.W.KIN.val_back n.toNat;rw[e];show some ((NumText.digitsVal (dg n):Nat):Int)=some n;rw[show NumText.digitsVal (dg n)=n.toNat from vb];congr 1
 grind
def top(i:Nat):Stmt:=PySem.Challenge.pw_lettertoll_k95_whole_desks_write_and_rea.main.body.getD i (.Pass ⟨0,0,0,0⟩)
abbrev b2k:Stmt:=top 33
abbrev sAre:Stmt:=top 34
abbrev sMP:Stmt:=top 35
abbrev sMW:Stmt:=top 36
abbrev sBT:Stmt:=top 102
abbrev sRB:Stmt:=top 103
abbrev sRO:Stmt:=top 104
abbrev sILR:Stmt:=top 105
abbrev sITR:Stmt:=top 106
abbrev sIN:Stmt:=top 107
abbrev b5Z:Stmt:=top 108
abbrev b1H:Stmt:=top 120
abbrev a6P:Stmt:=top 121
abbrev a7C:Stmt:=top 122
abbrev a1S:Stmt:=top 123
abbrev b0o:Stmt:=top 124
abbrev b2l:Stmt:=top 126
abbrev a5d:Stmt:=top 125
abbrev b0p:Stmt:=top 127
abbrev b0q:Stmt:=top 128
abbrev b0R:Stmt:=top 129
abbrev sIsQ:Stmt:=top 115
abbrev sPM:Stmt:=top 74
abbrev sWM:Stmt:=top 75
abbrev sRL:Stmt:=top 76
abbrev sRTh:Stmt:=top 77
abbrev sWN:Stmt:=top 78
abbrev sWT:Stmt:=top 109
abbrev sRW:Stmt:=top 110
abbrev a5Y:Stmt:=top 37
theorem a0y{X:Cx}{st:Stmt}:PS X st (λ_ _ _=>False):=λ_ _ _ _ _ _ h=>h.elim
end K95
set_option exponentiation.threshold 2000
namespace K95C
open PySem L2
def CT.inL(L m:Nat):Prop:=2<=L/\L<=6/\m<=24
section
variable {L n:Nat}{h t:Nat->Nat->Nat->OI}{F:Nat->Nat->OI}{p:Nat->Int}{W:Nat->Nat->Int}
theorem a6f(T:CT.Tb L n h t F p W)(hl:l<L)(hij:i<j)(hj:j<=n):∃q r,wys L h t l i j=q::r:=by
 cases e:t l i j with
 |none=>exact absurd e (T.tn l i j hl hij hj)
 |some x=>
  have et:=T.tt l i j (by exact b6y ‹_›) hij hj;have hx:=(a2G.mp (et.symm.trans e)).1;obtain⟨q,hq,ev⟩:=b6x.mp hx;have hm:q∈wys L h t l i j:=a2o.mpr ⟨hq,by rw[ev,e]⟩;cases eq:wys L h t l i j with
  |nil=>rw[eq] at hm;cases hm
  |cons q r=>exact⟨q,r,rfl⟩
mutual
inductive Kc(L:Nat)(h t:Nat->Nat->Nat->OI):Nat->Nat->CT.Code->Prop
 |one (i:Nat):Kc L h t i (i+1) [[]]
 |more (i j:Nat) (c:CT.Code):i+2<=j->Kt L h t 0 i j c->Kc L h t i j c
inductive Kt(L:Nat)(h t:Nat->Nat->Nat->OI):Nat->Nat->Nat->CT.Code->Prop
 |nil (l j:Nat):Kt L h t l j j []
 |cons (l i j:Nat) (q:Nat×Nat) (c r:CT.Code):(wys L h t l i j)[0]?=some q->Kc L h t i (i+q.2+1) c->Kt L h t (q.1+1) (i+q.2+1) j r->Kt L h t l i j (CT.ahd q.1 c++r)
end
end
namespace CT
section
variable {L n:Nat}{h t h' t':Nat->Nat->Nat->OI}{F F':Nat->Nat->OI}{p:Nat->Int}{W:Nat->Nat->Int}
theorem a5n(e1:h q.1 i (i+q.2+1)=h' q.1 i (i+q.2+1))(e2:t (q.1+1) (i+q.2+1) j=t' (q.1+1) (i+q.2+1) j):vl h t i j q=vl h' t' i j q:=by
 unfold vl;rw[e1,e2]
theorem Tb.uniq(T:Tb L n h t F p W)(T':Tb L n h' t' F' p W):∀w i j,j-i<=w->i<=j->j<=n->(i<j->F i j=F' i j/\∀l,l<L->h l i j=h' l i j)/\∀l,l<=L->t l i j=t' l i j
 |0,i,j,hw,hij,hj=>by
  have e:i=j:=by grind
  subst e;exact⟨λz=>absurd z (b7y _),λl hl=>by rw[T.dg l i hl hj,T'.dg l i hl hj]⟩
 |w+1,i,j,hw,hij,hj=>by
  by_cases z:i<j
  ·have ih:=Tb.uniq T T' w;have eF:F i j=F' i j:=by
    rw[T.ff i j z hj,T'.ff i j z hj];split
    ·rfl
    ·congr 1;refine b6J λq hq=>?_;obtain⟨b1,b2,b3⟩:=a1y.mp hq;exact a5n (((ih i (i+q.2+1) (by omega) (by lia) (by lia)).1 (by lia)).2 q.1 b2) ((ih (i+q.2+1) j (by lia) (by lia) hj).2 (q.1+1) (by assumption))
   have eh:∀l,l<L->h l i j=h' l i j:=λl hl=>by rw[T.hh l i j hl z hj,T'.hh l i j hl z hj,eF]
   refine⟨λ_=>⟨eF,eh⟩,λl hl=>?_⟩;rw[T.tt l i j hl z hj,T'.tt l i j hl z hj];congr 1;refine b6J λq hq=>?_;obtain⟨b1,b2,b3⟩:=a1y.mp hq;refine a5n ?_ ((ih (i+q.2+1) j (by omega) (by omega) hj).2 (q.1+1) (by omega));by_cases y:i+q.2+1=j
   ·rw[y];exact eh q.1 b2
   ·exact((ih i (i+q.2+1) (by omega) (by omega) (by omega)).1 (by omega)).2 q.1 b2
  ·have e:i=j:=by omega
   subst e;exact⟨λz=>absurd z (b7y _),λl hl=>by rw[T.dg l i hl hj,T'.dg l i hl hj]⟩
end
end CT
section
variable {L n:Nat}{h t h' t':Nat->Nat->Nat->OI}{F F':Nat->Nat->OI}{p:Nat->Int}{W:Nat->Nat->Int}
theorem b5q(T:CT.Tb L n h t F p W)(T':CT.Tb L n h' t' F' p W)(hl:l<=L)(hij:i<=j)(hj:j<=n):wys L h t l i j=wys L h' t' l i j:=by
 unfold wys;refine List.filter_congr λq hq=>?_;obtain⟨b1,b2,b3⟩:=CT.a1y.mp hq;have u:=CT.Tb.uniq T T' (j-i);rw[CT.a5n (h':=h') (t':=t') (((u i (i+q.2+1) (by omega) (by omega) (by omega)).1 (by omega)).2 q.1 b2) ((u (i+q.2+1) j (by omega) (by omega) hj).2 (q.1+1) (by omega)),(u i j (by omega) hij hj).2 l hl]
theorem b5r(k:Kc L h t i j c):i<j:=by
 refine Kc.rec (motive_1:=λi j _ _=>i<j) (motive_2:=λ_ i j _ _=>i<=j) ?_ ?_ ?_ ?_ k
 ·intro i;simp
 ·intro i j c hij _ _;exact b6y ‹_›
 ·intro l j;exact b6k _
 ·intro l i j q c r _ _ _ h1 h2;lia
theorem b2m(k:Kt L h t l i j c):i<=j:=by
 cases k with
 |nil=>exact b6k _
 |cons _ _ _ q c r hq kc kt=>
  refine Kt.rec (motive_1:=λi j _ _=>True) (motive_2:=λ_ i j _ _=>i<=j) (λ_=>trivial) (λ_ _ _ _ _ _=>trivial) (λ_ _=>b6k _) (λl i j q c r _ kc _ _ h2=>by have:=b5r kc;lia) (Kt.cons l i j q c r hq kc kt)
theorem kc_one(T:CT.Tb L n h t F p W)(T':CT.Tb L n h' t' F' p W)(k:Kc L h t i j c):j<=n->∀c',Kc L h' t' i j c'->c=c':=by
 refine Kc.rec (motive_1:=λi j c _=>j<=n->∀c',Kc L h' t' i j c'->c=c') (motive_2:=λl i j r _=>l<=L->j<=n->∀r',Kt L h' t' l i j r'->r=r') ?_ ?_ ?_ ?_ k
 ·intro i hj c' k';generalize ej:i+1=j at k';cases k' with
  |one=>rfl
  |more _ _ _ hij _=>lia
 ·intro i j c hij kt ih hj c' k';generalize ei:i=i' at k';generalize ej:j=j' at k';cases k' with
  |one=>lia
  |more _ _ _ _ kt'=>subst ei ej;exact ih (b6O _) hj c' kt'
 ·intro l j hl hj r' k';generalize ej:j=j' at k';cases k' with
  |nil=>rfl
  |cons _ _ _ q c r hq kc kt=>
   exfalso;have:=b5r kc;have:=b2m kt
   lia
 ·intro l i j q c r hq kc kt ih1 ih2 hl hj r' k';have hij:i<j:=by have:=b5r kc;have:=b2m kt;lia
  have b:=CT.a1y.mp (a2o.mp (b6h hq)).1;have el:=b5q T T' hl (b6y hij) hj;generalize ei:i=i' at k';cases k' with
  |nil=>lia
  |cons _ _ _ q' c' r'' hq' kc' kt'=>
   subst ei;rw[<-el,hq] at hq';obtain rfl:=b6I hq';rw[ih1 (by grind) c' kc',ih2 (by lia) hj r'' kt']
structure Gd(L m B:Nat)(c:CT.Code):Prop where
 ln:c.length=m
 wd:∀u∈c,u.length<=B/\∀x∈u,(0:Int)<=x/\x<(L:Int)
theorem kc_gd(T:CT.Tb L n h t F p W)(hL:0<L)(k:Kc L h t i j c):j<=n->Gd L (j-i) (j-i-1) c:=by
 refine Kc.rec (motive_1:=λi j c _=>j<=n->Gd L (j-i) (j-i-1) c) (motive_2:=λl i j r _=>j<=n->Gd L (j-i) (j-i) r/\(l=0->i+2<=j->Gd L (j-i) (j-i-1) r)) ?_ ?_ ?_ ?_ k
 ·intro i _;exact⟨by simp,λu hu=>by rw[b6r.mp hu];exact⟨b6O _,λx hx=>by cases hx⟩⟩
 ·intro i j c hij _ ih hj;exact(ih hj).2 rfl hij
 ·intro l j _;exact⟨⟨by simp,λu hu=>by cases hu⟩,λ_ z=>absurd z (by simp)⟩
 ·intro l i j q c r hq kc kt ih1 ih2 hj;have:=b2m kt;have mq:=b6h hq;have b:=CT.a1y.mp (a2o.mp mq).1;obtain⟨l1,w1⟩:=ih1 (by lia);obtain⟨⟨l2,w2⟩,_⟩:=ih2 hj;have ln:(CT.ahd q.1 c++r).length=j-i:=by
   unfold CT.ahd;rw[b6o,b6b]
   lia
  have key:∀B,q.2+1<=B->j-(i+q.2+1)<=B->Gd L (j-i) B (CT.ahd q.1 c++r):=λB h1 h2=>⟨ln,λu hu=>by
   rcases b6G.mp hu with hu|hu
   ·obtain⟨v,hv,rfl⟩:=b6x.mp hu;refine⟨by have:=(w1 v hv).1;rw[b6F];lia,λx hx=>?_⟩;rcases b6D.mp hx with rfl|hx
    ·lia
    ·exact(w1 v hv).2 x hx
   ·exact⟨by have:=(w2 u hu).1;lia,(w2 u hu).2⟩⟩
  refine⟨key _ (by lia) (by grind),λe0 z=>?_⟩;subst e0;have:=b5g T hL z hj mq;exact key _ (by grind) (by grind)
end
theorem b0r{α:Type}{f:α->Nat}{x:α}{xs:List α}(h:1<=f x):1<=((x::xs).map f).sum:=by rw[b6z,b9t];lia
theorem Ctd.pos{L n:Nat}{h t:Nat->Nat->Nat->OI}{F:Nat->Nat->OI}{p:Nat->Int}{W:Nat->Nat->Int}{Tc:Nat->Nat->OI}{Tt:Nat->Nat->Nat->OI}{c:Nat->Nat->Nat}{u:Nat->Nat->Nat->Nat}(T:CT.Tb L n h t F p W)(hL:0<L)(a:Ctd L n h t Tc Tt c u (λ_ _=>True)):∀w i j,j-i<=w->i<j->j<=n->1<=c i j/\∀l,l<L->1<=u l i j
 |0,i,j,hw,hij,hj=>by grind
 |w+1,i,j,hw,hij,hj=>by
  have ih:=a.pos T hL w;have tl:∀{q:Nat×Nat}{l:Nat},l<L->q∈wys L h t l i j->1<=u (q.1+1) (i+q.2+1) j:=λ{q l} hl hq=>by
   obtain⟨b1,b2,b3,b4⟩:=a3Z T hl hij hj hq;by_cases z:i+q.2+1=j
   ·rw[z,a.td (q.1+1) j (by assumption) hj];exact b6k _
   ·exact(ih (i+q.2+1) j (by lia) (by grind) hj).2 _ (b4 (by grind))
  have c1:1<=c i j:=by
   rw[a.ec i j hij hj trivial];split
   ·exact b6k _
   ·obtain⟨q,r,e⟩:=a6f T hL hij hj;have mq:q∈wys L h t 0 i j:=by rw[e];exact .head _
    have b:=b5g T hL (by grind) hj mq;rw[a1P,e];exact b0r (Nat.mul_pos (ih i (i+q.2+1) (by omega) (by omega) (by grind)).1 (tl hL mq))
  refine⟨c1,λl hl=>?_⟩;obtain⟨q,r,e⟩:=a6f T hl hij hj;have mq:q∈wys L h t l i j:=by rw[e];exact .head _
  obtain⟨b1,b2,b3,b4⟩:=a3Z T hl hij hj mq;rw[a.et l i j hl hij hj trivial,a1P,e];refine b0r (Nat.mul_pos ?_ (tl hl mq));by_cases z:i+q.2+1=j
  ·rw[z];exact c1
  ·exact(ih i (i+q.2+1) (by lia) (by lia) (by grind)).1
structure Cts(C D:Addr)(H:Hp)(r:Addr)(ps ws:List Int)(h t:Nat->Nat->Nat->OI)(F:Nat->Nat->OI)(c:Nat->Nat->Nat)(u:Nat->Nat->Nat->Nat):Prop where
 ob:∃(pr p:Addr)(X:Ad)(Y:CY)(Tc:Nat->Nat->OI)(Tt:Nat->Nat->Nat->OI),PAt C H pr p ps ws X h t/\CAt D H r pr ps.length (ws.length+1) Y Tc Tt/\Ctd ps.length ws.length h t Tc Tt c u (λ_ _=>True)
 T:CT.Tb ps.length ws.length h t F (pl ps) (Wt ws)
 il:CT.inL ps.length ws.length
theorem Cts.same{h t:Nat->Nat->Nat->OI}(k:a0r H H')(a:Cts C D H r ps ws h t F c u):Cts C D H' r ps ws h t F c u:=by
 obtain⟨pr,p,X,Y,Tc,Tt,pa,ca,ct⟩:=a.ob;exact⟨⟨pr,p,X,Y,Tc,Tt,pa.same k,ca.same k,ct⟩,a.T,a.il⟩
section
variable {P':Program}{w:World}{K:PySem.W.Frag}{mg:Str->Option Value}{base:Heap}{f:Addr}{fd:FuncData}
abbrev NWb:List Str:=["counts","number","first","end"]
abbrev NTw:List Str:=["counts","number","letter","first","end","ways","left","at","way","behind","inside","rest"]
abbrev PTw:List Str:=["counts","number","letter","first","end"]
def spWb(C D:Addr)(d:Nat):Sp:=λvs H Q _=>∃(r:Addr)(ps ws:List Int)(h t:Nat->Nat->Nat->OI)(F:Nat->Nat->OI)(c:Nat->Nat->Nat)(u:Nat->Nat->Nat->Nat)(i j:Nat),vs=[.ref r,.int 0,.int (i:Int),.int (j:Int)]/\Cts C D H r ps ws h t F c u/\i<j/\j<=ws.length/\3*(j-i)+2<=d /\
 ∀(p:Addr) xs cde H',a0r H H'->H' p=some (.lst xs)->Ws H' xs cde->Kc ps.length h t i j cde->Q (.ref p) H'
def spTw(C D:Addr)(d:Nat):Sp:=λvs H Q _=>∃(r:Addr)(ps ws:List Int)(h t:Nat->Nat->Nat->OI)(F:Nat->Nat->OI)(c:Nat->Nat->Nat)(u:Nat->Nat->Nat->Nat)(l i j:Nat),vs=[.ref r,.int 0,.int (l:Int),.int (i:Int),.int (j:Int)]/\Cts C D H r ps ws h t F c u/\i<=j/\(i<j->l<ps.length)/\j<=ws.length/\3*(j-i)+1<=d/\(∀q∈wys ps.length h t l i j,3*(q.2+1)+3<=d) /\
 ∀(p:Addr) xs cde H',a0r H H'->H' p=some (.lst xs)->Ws H' xs cde->Kt ps.length h t l i j cde->cde.length=j-i->Q (.ref p) H'
theorem scWb:a0k NWb NWb (a0g sWb):=fsk
theorem b2n:a0k NTw PTw (a0g sTw):=fsk
theorem ndTw:(("word":Str)::NTw).Nodup:=by decide +kernel
theorem b5s{C D:Addr}{f2:Addr}{fd2:FuncData}(FW:Fun K "words_by" "words_by" sWb f fd)(FT:Fun K "tail_words" "tail_words" sTw f2 fd2)(mw:mg "words_by"=some (.ref f))(kw:PySem.W.keepIn K (.ref f)=true)(bw:a1K K fd NWb [])(mt:mg "tail_words"=some (.ref f2))(kt:PySem.W.keepIn K (.ref f2)=true)(bt:a1K K fd2 PTw [])
  (MW:Mt P' w K mg base C "ways" ["self","letter","first","end"] (a4w C) 3)(MY:Mt P' w K mg base D "by_way" NBy (spBy D) 3)(rcP:PC K C)(rc:DC K D):∀d,a0I P' w K mg base CX0 (d+4) f fd NWb (spWb C D d)/\a0I P' w K mg base CX0 (d+4) f2 fd2 PTw (spTw C D d):=by
 intro d
 induction d with
 |zero=>
  refine⟨FW.ok (k:=3) scWb (λvs H Q E h=>?_) (λcdv A outer s H vs Q E hr h=>?_),FT.ok (k:=3) b2n (λvs H Q E h=>?_) (λcdv A outer s H vs Q E hr h=>?_)⟩
  all_goals exfalso
  ·obtain⟨r,ps,ws,h,t,F,c,u,i,j,rfl,_,_,_,z,_⟩:=h
   lia
  ·obtain⟨r,ps,ws,h,t,F,c,u,i,j,rfl,_,_,_,z,_⟩:=h;omega
  ·obtain⟨r,ps,ws,h,t,F,c,u,l,i,j,rfl,_,_,_,_,z,_⟩:=h
   lia
  ·obtain⟨r,ps,ws,h,t,F,c,u,l,i,j,rfl,_,_,_,_,z,_⟩:=h;omega
 |succ d ih=>
  obtain⟨OW,OT⟩:=ih;constructor
  ·refine FW.ok (k:=d+4) scWb (λvs H Q E h=>?_) (λcdv A outer s H vs Q E hr h=>?_)
   ·obtain⟨r,ps,ws,h,t,F,c,u,i,j,rfl,_⟩:=h;rfl
   obtain⟨r,ps,ws,h,t,F,c,u,i,j,rfl,ct,hij,hj,hd,q⟩:=h;refine⟨_,a0c (a0z (a0p a0U (a0q a2y (pv 3) (pv 2)) a0h (nomark _)) (a0f (a0o (a1p (a0a (a1v a0d) a0d)))) a0n)
    (a0f (a0o (a4K OT hr (by rfl) mt kt bt .nil a1g (a0a (pv 0) (a0a (pv 1) (a0a a0h (a0a (pv 2) (a0a (pv 3) a0d)))))))),?_⟩
   refine⟨_,rfl,_,rfl,_,_,rfl,rfl,rfl,_,rfl,?_⟩;refine a2c (λz=>?_) (λz=>?_)
   ·have z1:j=i+1:=by
     have y:V.int ((j:Int)-(i:Int))=V.int 1:=b6B z;have:=V.int.inj y
     lia
    subst z1;refine⟨(by show 0<=sizeLine;decide),λt0 ht0=>?_⟩;have s1:=a0e ht0 (.tup []);have h1:upd H t0 (.tup []) t0=some (.tup []):=a0b;generalize upd H t0 (.tup [])=H1 at s1 h1 ⊢;refine⟨(by show 1<=sizeLine;decide),λl1 hl1=>?_⟩;have s2:=a0e hl1 (.lst [.ref t0]);exact q l1 [.ref t0] [[]] _ (s1.trans s2) a0b (.cons (Wd.of (w:=[]) (s2 _ _ h1)) .nil) (.one i)
   ·have z1:¬j-i=1:=λy=>z (b6i (by show V.int ((j:Int)-(i:Int))=V.int 1;congr 1;grind));have L2':=ct.il.1;refine⟨_,rfl,_,rfl,_,rfl,_,rfl,r,ps,ws,h,t,F,c,u,0,i,j,rfl,ct,by exact b6y ‹_›,λ_=>by exact b6y ‹_›,hj,by lia,λq hq=>?_,λp xs cde H' s' g' w' k' _=>q p xs cde H' s' g' w' (.more i j cde (by grind) k')⟩;have:=b5g ct.T (by omega) (by grind) hj hq
    lia
  ·refine FT.ok (k:=d+4) b2n (λvs H Q E h=>?_) (λcdv A outer s H vs Q E hr h=>?_)
   ·obtain⟨r,ps,ws,h,t,F,c,u,l,i,j,rfl,_⟩:=h;rfl
   obtain⟨r,ps,ws,h,t,F,c,u,l,i,j,rfl,ct,hij,hlt,hj,hd,hdq,q⟩:=h;have MW':=MW.up (show 3<=d+4 by simp);have MY':=MY.up (show 3<=d+4 by simp);refine⟨_,a0c (a0z (a0p a0U (pv 3) (pv 4) (nomark _)) (a0f (a0o (a1p a0d))) a0n)
    (a0c (psA (i:=5) b2n (a0T (a0s (pv 0) rfl) rcP.c MW'.m MW'.ok hr MW'.b .nil a1g (a0a (pv 2) (a0a (pv 3) (a0a (pv 4) a0d)))))
    (a0c (psA (i:=6) b2n (pv 1))
    (a0c (psA (i:=7) b2n a0h)
    (a0c (b0X b6K (a0p op_ge (pv 6) (a0T (pv 0) rc.c MY'.m MY'.ok hr MY'.b .nil a1g (a0a (pxA a0m (pv 5) (pv 7)) (a0a (pv 3) (a0a (pv 4) a0d)))) (nomark _))
     (a0c K95.a0y (a0f K95.a0y)))
    (a0c (psA (i:=8) b2n (pxA a0m (pv 5) (pv 7)))
    (a0c (psA (i:=9) b2n (pxA a0m (pxA a0m (pxA a0m (a0s (pv 0) rfl) (a0q a0K (pxA a0D (pv 8) a0h) a0h)) (pxA a0D (pv 8) a0h)) (pv 4)))
    (a0c (psA (i:=10) b2n (a4K OW hr (by rfl) mw kw bw .nil a1g (a0a (pv 0) (a0a (a0q b2f (pv 6) (pv 9)) (a0a (pv 3) (a0a (pxA a0D (pv 8) a0h) a0d))))))
    (a0c (psA (i:=11) b2n (a4K OT hr (by rfl) mt kt bt .nil a1g (a0a (pv 0) (a0a (a0q a0V (pv 6) (pv 9)) (a0a (a0q a0K (pxA a0D (pv 8) a0h) a0h) (a0a (pxA a0D (pv 8) a0h) (a0a (pv 4) a0d)))))))
    (a0f (a0o (a0q a8P (a0Y (M:=NTw) rfl (cso (a0g sTw) NTw) ndTw rfl (pv 10) a0E
     (λcl C s0 H0 fp=>⟨a0v,a0q a3G (a1v (a0a (pxA (ixT K) (pv 9) a0h) a0d)) (pv 0)⟩)) (pv 11)))))))))))),?_⟩
   refine⟨_,rfl,_,rfl,rfl,_,rfl,?_⟩;refine a2c (λz=>?_) (λz=>?_)
   ·have z1:i=j:=by have:=V.int.inj (b6B z);lia
    subst z1;exact⟨(by show 0<=sizeLine;decide),λl1 hl1=>q l1 [] [] _ (a0e hl1 _) a0b .nil (.nil l i) (by simp)⟩
   have ne:i≠j:=λy=>z (b6i (by rw[y]));have hij':i<j:=by lia
   have hl:=hlt hij';obtain⟨pr,p,X,Y,Tc,Tt,pa,ca,ctd⟩:=ct.ob;obtain⟨dx,ho⟩:=ca.ob;obtain⟨dp,hop⟩:=pa.ob;obtain⟨L2',L4,n6⟩:=ct.il;refine⟨_,rfl,r,D,dx,_,_,rfl,ho,rc.c,rc.np,rfl,pr,dp,_,rfl,hop,rfl,_,rfl,_,rfl,_,rfl,pr,p,ps,ws,X,h,t,l,i,j,rfl,pa,by assumption,by lia,hl,hij',hj,λd1 xs H1 s1 g1 w1=>?_⟩;obtain⟨q',r',eq⟩:=a6f ct.T hl hij' hj;have hq:(wys ps.length h t l i j)[0]?=some q':=by rw[eq];rfl
   have hqm:=b6h hq;obtain⟨_,b1,b2,b3⟩:=a3Z ct.T hl hij' hj hqm;have ca1:=ca.same s1;have ct1:=ct.same s1;have ho1:=s1 _ _ ho;have b4:=ctd.vc i (i+q'.2+1) (by lia) (by grind) trivial;have b6:c i (i+q'.2+1)<=2 ^ 1000:=b6R (ctd.bc i (i+q'.2+1) (by omega) (by omega) trivial) (a6a (by omega));have p1:=(ctd.pos ct.T (by exact b6y ‹_›) _ i (i+q'.2+1) (b6k _) (by lia) (by grind)).1;obtain⟨b5,b7,u0⟩:Tt (q'.1+1) (i+q'.2+1) j=some (u (q'.1+1) (i+q'.2+1) j:Int)/\u (q'.1+1) (i+q'.2+1) j<=2 ^ 1000/\0<u (q'.1+1) (i+q'.2+1) j:=by
    by_cases y:i+q'.2+1<j
    ·have b8:=b3 (by grind);refine⟨ctd.vt (q'.1+1) (i+q'.2+1) j b8 y hj trivial,?_,(ctd.pos ct.T (by omega) _ (i+q'.2+1) j (b6k _) y hj).2 _ b8⟩;have h1:=ctd.bt (q'.1+1) (i+q'.2+1) j b8 y hj trivial;have h2:=a6a (show 2*(j-(i+q'.2+1))-1<=47 by omega)
     lia
    ·have y1:i+q'.2+1=j:=by grind
     rw[y1,ctd.dg (q'.1+1) j (by assumption) hj,ctd.td (q'.1+1) j (by assumption) hj];exact⟨rfl,Nat.one_le_two_pow,by decide⟩
   refine⟨_,rfl,?_⟩;obtain⟨v,hv,wt,rfl,hwt⟩:=Paired.left_of w1 0 q' hq;refine⟨λm σ H'=>m=0/\H'=H1/\∃(x8 x9 x10 x11:Option V),σ=[some (.ref r),some (.int 0),some (.int (l:Int)),some (.int (i:Int)),some (.int (j:Int)),some (.ref d1),some (.int 0),some (.int ((0:Nat):Int)),x8,x9,x10,x11],⟨_,rfl,rfl,_,_,_,_,rfl⟩,?_⟩;rintro m σ H' ⟨rfl,rfl,x8,x9,x10,x11,rfl⟩;refine⟨_,rfl,_,rfl,r,dx,_,rfl,ho1,rfl,_,rfl,_,rfl,d1,_,_,_,rfl,rfl,SqL.of g1,a3I hv,_,rfl,_,rfl,r,pr,ps.length,ws.length+1,Y,Tc,Tt,wt,i,q'.1,i+q'.2+1,j,c i (i+q'.2+1),u (q'.1+1) (i+q'.2+1) j,rfl,ca1,hwt,by lia,by grind,by lia,b1,b4,b5,b6,b7,?_⟩;refine⟨_,_,rfl,rfl,_,rfl,?_⟩;rw[b6w (show ¬(0:Int) >= ((c i (i+q'.2+1)*u (q'.1+1) (i+q'.2+1) j:Nat):Int) from λy=>by have:=Nat.mul_pos p1 u0;lia)];refine a1q ?_;refine⟨_,rfl,_,rfl,d1,_,_,_,rfl,rfl,SqL.of g1,a3I hv,?_⟩;refine⟨_,rfl,r,D,dx,_,_,rfl,ho1,rc.c,rc.nt,rfl,_,rfl,wt,_,_,_,rfl,rfl,SqT.of hwt,rfl,_,_,rfl,rfl,Y.tt,_,_,_,rfl,rfl,SqL.of ca1.tl.o,a0G (k:=q'.1+1) (by lia),_,rfl,wt,_,_,_,rfl,rfl,SqT.of hwt,rfl,Y.bt (q'.1+1),_,_,_,rfl,rfl,SqL.of (ca1.tl.b (q'.1+1) (by omega)),a0G (k:=i+q'.2+1) (by omega),_,rfl,Y.ct (q'.1+1) (i+q'.2+1),_,_,_,rfl,rfl,SqL.of (ca1.tl.c (q'.1+1) (i+q'.2+1) (by omega) (by omega)),a0G (k:=j) (by omega),?_⟩;rw[b5];refine⟨_,rfl,_,rfl,_,rfl,_,_,rfl,rfl,⟨(by show(0:Int)<(u (q'.1+1) (i+q'.2+1) j:Int);lia),(by show((u (q'.1+1) (i+q'.2+1) j:Nat):Int).natAbs.log2<9000;rw[Int.natAbs_natCast];exact(Nat.log2_lt (by lia)).mpr (b9q b7 (Nat.pow_lt_pow_right (by decide) (by decide))))⟩,_,rfl,_,rfl,wt,_,_,_,rfl,rfl,SqT.of hwt,rfl,?_⟩;refine⟨r,ps,ws,h,t,F,c,u,i,i+q'.2+1,b7d (λz=>[V.ref r,V.int z,V.int (i:Int),V.int ((i+q'.2+1:Nat):Int)]) (Int.zero_ediv _),ct1,by lia,by grind,?_,λp1 xs1 cA H2 s2 g2 w2 kA=>?_⟩
   ·have:=hdq q' hqm;omega
   have gA:=kc_gd ct.T (by exact b6y ‹_›) kA (by omega);have hwt2:=s2 _ _ hwt;refine⟨_,rfl,_,rfl,_,rfl,_,_,rfl,rfl,(by show(0:Int)<(u (q'.1+1) (i+q'.2+1) j:Int);omega),_,rfl,wt,_,_,_,rfl,rfl,SqT.of hwt2,rfl,_,_,rfl,rfl,_,rfl,wt,_,_,_,rfl,rfl,SqT.of hwt2,rfl,_,rfl,?_⟩;refine⟨r,ps,ws,h,t,F,c,u,q'.1+1,i+q'.2+1,j,b7d (λz=>[V.ref r,V.int z,V.int ((q'.1+1:Nat):Int),V.int ((i+q'.2+1:Nat):Int),V.int (j:Int)]) (Int.zero_emod _),ct1.same s2,by grind,λz=>b3 (by grind),hj,by lia,λq2 hq2=>?_,λp2 xs2 rB H3 s3 g3 w3 kB lB=>?_⟩
   ·have e1:=(CT.a1y.mp (a2o.mp hq2).1).2.2
    grind
   have hwt3:=s3 _ _ hwt2;have g23:=s3 _ _ g2;have w23:=Ws.same s3 w2;have l1:xs1.length=cA.length:=w2.length;have l2:xs2.length=rB.length:=w3.length;refine⟨_,rfl,p1,_,rfl,SqL.of g23,λe3 he3=>?_⟩;refine⟨λk H'=>a0r H3 H'/\∃zs,H' e3=some (.lst zs)/\Ws H' zs ((cA.take k).map λu=>((q'.1:Nat):Int)::u),⟨a0e he3 _,[],a0b,.nil⟩,λk H' _ hP=>SqL.of (hP.1 _ _ g23),λk y H' hy hP=>?_,λH4 hP=>?_⟩
   ·obtain⟨s4,zs,g4,w4⟩:=hP;obtain⟨o,ho2,ru⟩:=Paired.right_of w23 k y hy;obtain⟨ua,rfl,hua⟩:=Wd.ti ru;have kl:=(b6d.mp ho2).1;have lu:=(gA.wd o (b6h ho2)).1;refine a0u ⟨_,rfl,wt,_,_,_,rfl,rfl,SqT.of (s4 _ _ hwt3),rfl,(by show 1<=sizeLine;decide),λt1 ht1=>?_⟩;have s5:=a0e ht1 (.tup [.int (q'.1:Int)]);have h5:upd H' t1 (.tup [.int (q'.1:Int)]) t1=some (.tup [.int (q'.1:Int)]):=a0b;generalize upd H' t1 (.tup [.int (q'.1:Int)])=H5 at s5 h5 ⊢;refine⟨_,rfl,t1,ua,_,_,rfl,rfl,h5,s5 _ _ (s4 _ _ hua),small (by rw[b6b,b9H];grind),λp5 H6 s6 hp5=>?_⟩;refine⟨zs,s6 _ _ (s5 _ _ g4),a0j (by rw[w4.length,b6b,b6l,gA.ln];lia),a0l he3 ((s4.trans s5).trans s6),_,a0b,?_⟩;rw[b6s,ho2,b6g];exact Paired.appendP (Ws.upd (s6 _ _ (s5 _ _ g4)) (Ws.same (s5.trans s6) w4)) (.cons (Wd.upd (s6 _ _ (s5 _ _ g4)) (Wd.of hp5)) .nil)
   obtain⟨s4,zs4,g4,w4⟩:=hP;rw[l1,b6v] at w4;have lz:zs4.length=cA.length:=by rw[w4.length,b6b]
   have lA:=gA.ln;refine⟨_,rfl,e3,p2,_,_,rfl,rfl,g4,s4 _ _ g3,small (by rw[lz,l2,lA,lB];lia),λp6 hp6=>?_⟩;have s7:=a0e hp6 (.lst (zs4++xs2));refine q p6 _ (CT.ahd q'.1 cA++rB) _ ((((s1.trans s2).trans s3).trans s4).trans s7) a0b (Paired.appendP (Ws.same s7 w4) (Ws.same (s4.trans s7) w3)) (.cons l i j q' cA rB hq kA kB) ?_;unfold CT.ahd;rw[b6o,b6b]
   grind
end
end K95C
set_option exponentiation.threshold 2000
namespace K95C
open PySem L2
theorem inL_bd(h:CT.inL L m):2<=L/\L<=6/\m<=24:=h
def IsC(ps ws:List Int)(c:CT.Code):Prop:=∃(h t:Nat->Nat->Nat->OI)(F:Nat->Nat->OI),CT.Tb ps.length ws.length h t F (pl ps) (Wt ws)/\Kc ps.length h t 0 ws.length c
theorem IsC.eq(a:IsC ps ws c)(b:IsC ps ws c'):c=c':=by
 obtain⟨h,t,F,T,k⟩:=a;obtain⟨h',t',F',T',k'⟩:=b;exact kc_one T T' k (b6k _) c' k'
open Classical in
noncomputable def b5t(ps ws:List Int):CT.Code:=if e:∃c,IsC ps ws c then Classical.choose e else []
theorem a3u(a:IsC ps ws c):b5t ps ws=c:=by
 have e:∃c,IsC ps ws c:=⟨c,a⟩
 unfold b5t;rw[dif_pos e];exact(Classical.choose_spec e).eq a
structure In2(H:Hp)(p q:Addr)(ps ws:List Int):Prop where
 hp:TW H p ps
 hq:TW H q ws
 nu:Num ps ws
 pp:Po ps
 pw:Po ws
 il:CT.inL ps.length ws.length
section
variable {P':Program}{w:World}{K:PySem.W.Frag}{mg:Str->Option Value}{base:Heap}{f:Addr}{fd:FuncData}
def al(m x:Int):Bool:=decide (0<=x)&&decide (x<m)
def alone(m:Int)(ns:List Int):Bool:=(ns.map (al m)).all id
def b0s:Sp:=λvs H Q _=>∃(x:V)(ns:List Int)(m:Int),vs=[x,.int m]/\Wd H x ns/\ns.length<=1000/\∀H',a0r H H'->Q (.bl (alone m ns)) H'
theorem b5u:a0k ["word","letters"] ["word","letters"] (a0g a5Y):=fsk
theorem ndA:(("letter":Str)::["word","letters"]).Nodup:=by decide +kernel
theorem b2o(F:Fun K "has_letters_alone" "has_letters_alone" a5Y f fd)(ma:mg "all"=none):a0I P' w K mg base CX0 1 f fd ["word","letters"] b0s:=by
 refine F.ok (k:=0) b5u (λvs H Q E h=>?_) (λcdv A outer s H vs Q E hr h=>?_)
 ·obtain⟨x,ns,m,rfl,_⟩:=h;rfl
 obtain⟨x,ns,m,rfl,hx,hl,q⟩:=h;obtain⟨a,rfl,ha⟩:=hx.ti;refine⟨_,a0f (a0o (a0C (a1E rfl) (by rfl) ma a4k (a0a (a3o (M:=["word","letters"]) rfl (cso (a0g a5Y) ["word","letters"]) ndA rfl (pv 0) a0E
  (λcl C s0 H0 fp=>⟨a0v,a2r a2j a4h a0h (pv 0) (pv 2)⟩)) a0d))),?_⟩
 refine⟨_,rfl,a,_,rfl,SqT.of ha,λd hd=>?_⟩;refine⟨λk H'=>a0r H H'/\H' d=some (.lst (((ns.take k).map (al m)).map V.bl)),⟨a0e hd _,a0b⟩,λk H' _ hP=>SqT.of (hP.1 _ _ ha),λk x H' hx hP=>?_,λH' hP=>?_⟩
 ·obtain⟨sm,hd'⟩:=hP;rw[b6p] at hx;cases hz:ns[k]? with
  |none=>rw[hz] at hx;cases hx
  |some z=>
   rw[hz] at hx;cases hx;have hk:=(b6d.mp hz).1;have fin:∀b,b=al m z->∃ys,H' d=some (.lst ys)/\ys.length<sizeLine/\(a0r H (upd H' d (.lst (ys++[.bl b])))/\upd H' d (.lst (ys++[.bl b])) d=some (.lst (((ns.take (k+1)).map (al m)).map V.bl))):=λb eb=>by
    refine⟨_,hd',?_,a0l hd sm,?_⟩
    ·rw[b6b,b6b,b6l];exact a0j (by grind)
    ·rw[a0b,b6s,hz,b6g,b6g,eb];rfl
   refine a0u ⟨_,rfl,_,_,rfl,rfl,_,rfl,?_⟩;refine a2c (λc=>?_) (λc=>?_)
   ·refine⟨_,rfl,_,_,rfl,rfl,?_⟩;exact fin _ (by unfold al;rw[c];rfl)
   ·exact fin _ (by unfold al;rw[b7K.mpr c];rfl)
 ·obtain⟨sm,hd'⟩:=hP;rw[b6b,b6v] at hd';exact⟨d,_,rfl,hd',q H' sm⟩
theorem b2p(h:alone m ns=true):∀x∈ns,0<=x/\x<m:=λx hx=>by
 have q:=b7i.mp h (al m x) (c0a hx);unfold al at q;simp only[id,b6Y,b7m] at q;exact q
theorem b0t:alone m ns=true↔∀x∈ns,0<=x/\x<m:=by
 refine⟨b2p,λh=>?_⟩;unfold alone;rw[b7i];intro b hb;obtain⟨x,hx,rfl⟩:=b6x.mp hb;obtain⟨h1,h2⟩:=h x hx;unfold al;simp[h1,h2]
abbrev NNu:List Str:=["prices","weights","number","counts"]
def b5v:Sp:=λvs H Q _=>∃(p q:Addr)(ps ws:List Int),vs=[.ref p,.ref q,.int 0]/\In2 H p q ps ws/\(∀(d:Addr) xs c H',a0r H H'->H' d=some (.tup xs)->Ws H' xs c->IsC ps ws c->Q (.ref d) H')
theorem scNu:a0k NNu ["prices","weights","number"] (a0g sNum):=fsk
theorem b5w(F:Fun K "numbered" "numbered" sNum f fd)(cl:ClC P' w K mg base C D)(GW:Fns P' w K mg base NWb "words_by" (spWb C D 76) 80)(ml:mg "len"=none)(mt:mg "tuple"=none):a0I P' w K mg base CX0 81 f fd ["prices","weights","number"] b5v:=by
 refine F.ok (k:=80) scNu (λvs H Q E h=>?_) (λcdv A outer s H vs Q E hr h=>?_)
 ·obtain⟨p,q,ps,ws,rfl,_⟩:=h;rfl
 obtain⟨p,q,ps,ws,rfl,i2,q1⟩:=h;obtain⟨hp,hq,nu,pp,pw,il⟩:=i2;obtain⟨L2',L4,m6⟩:=inL_bd il;have w1:=nu.w1;have oki:=cl.oki.mono (show 6<=79 by decide);refine⟨_,a0c (psA (i:=3) scNu (a4L cl.mkk oki hr (by rfl) cl.g cl.bi .nil a1g (a0a (pv 0) (a0a (pv 1) a0d))))
  (a0c (a0z (a1o (a2M a2j a4h a0h (pv 2) (pxA a0m (pxA a0m (a0s (pv 3) rfl) a0h) (pln ml (pv 1))))) (a0f K95.a0y) a0n)
  (a0f (a0o (a0w a0A (by rfl) mt a1G (a0a (pcF GW hr (a0a (pv 3) (a0a (pv 2) (a0a a0h (a0a (pln ml (pv 1)) a0d))))) a0d))))),?_⟩
 refine⟨_,rfl,_,rfl,λr dx rn hdx _=>?_⟩;have sm:a0r H (upd (upd H dx (.own r)) r (.ins D dx [])):=a0l rn (a0e hdx _);refine⟨r,dx,p,q,ps,ws,rfl,a0b,sm _ _ hp,sm _ _ hq,nu,pp,pw,L4,m6,λH1 pr X h t Fl Y Tc Tt c u k1 pa ca T ctd=>⟨rfl,?_⟩⟩;have s1:a0r H H1:=λa o e=>k1 a o (λz=>by rw[z,rn] at e;cases e) (sm a o e);have ct:Cts C D H1 r ps ws h t Fl c u:=⟨⟨pr,p,X,Y,Tc,Tt,pa,ca,ctd⟩,T,il⟩
 obtain⟨dx1,ho⟩:=ca.ob;have hv:Tc 0 ws.length=some (c 0 ws.length:Int):=ctd.vc 0 ws.length (by assumption) (b6k _) trivial;have y:(0:Int)<(c 0 ws.length:Int):=by have:=(ctd.pos T (by exact b6y ‹_›) _ 0 ws.length (b6k _) (by assumption) (b6k _)).1;lia
 refine⟨_,rfl,_,_,rfl,rfl,_,rfl,?_⟩;refine a4S ?_;refine⟨_,rfl,r,D,dx1,_,_,rfl,ho,cl.rc.c,cl.rc.nc,rfl,Y.cc,_,_,_,rfl,rfl,SqL.of ca.co,a0G (k:=0) (by simp),_,rfl,q,_,rfl,.inr (SqT.of (s1 _ _ hq)),?_⟩;rw[b6b];refine⟨Y.ca 0,_,_,_,rfl,rfl,SqL.of (ca.cr 0 (by simp)),a0G (k:=ws.length) (by simp),?_⟩;rw[hv];refine⟨_,_,rfl,rfl,_,rfl,?_⟩;rw[b6i y];refine a1q ?_;refine⟨_,rfl,_,rfl,_,rfl,q,_,rfl,.inr (SqT.of (s1 _ _ hq)),?_⟩;rw[b6b];refine⟨r,ps,ws,h,t,Fl,c,u,0,ws.length,rfl,ct,by assumption,b6k _,by lia,λp1 xs1 cde H2 s2 g2 w2 k2=>?_⟩;refine⟨p1,_,rfl,.inl ⟨SqL.of g2,λd hd=>?_⟩⟩;have s3:=a0e hd (.tup xs1);exact q1 d xs1 cde _ ((s1.trans s2).trans s3) a0b (Ws.same s3 w2) ⟨h,t,Fl,T,k2⟩
end
end K95C
namespace K95
open PySem L2
theorem b5x{x:Int}{u v:List Int}(h:a5P u v):a5P (x::u) (x::v):=⟨λz=>h.1 (b8U.mp z).2,λz=>h.2 (b8U.mp z).2⟩
theorem ap_ne(h:x≠y):a5P (x::u) (y::v):=⟨λz=>h (b8U.mp z).1,λz=>h (b8U.mp z).1.symm⟩
structure Gk(m:Nat)(c:List (List Int)):Prop where
 pf:PF c
 kn:∃S,S.length+1<=m/\K95R.Kn S c
structure Gw(m l:Nat)(c:List (List Int)):Prop where
 pf:PF c
 fr:∀u∈c,∃(x:Int)(w:List Int),u=x::w/\(l:Int)<=x
 kn:∃S,S.length+1<=m/\K95R.Kn ([]::S) c
theorem b3y{l:Nat}{S c:List (List Int)}(h:K95R.Kn S c):K95R.Kn ([]::S.map ((l:Int)::·)) (K95C.CT.ahd l c):=λx hx n hn=>by
 obtain⟨u,hu,rfl⟩:=b6x.mp hx;cases n with
 |zero=>exact .head _
 |succ n=>exact .tail _ (c0a (h u hu n (by simpa using hn)))
section
variable {L n:Nat}{h t:Nat->Nat->Nat->K95C.OI}{F:Nat->Nat->K95C.OI}{p:Nat->Int}{W:Nat->Nat->Int}
theorem kc_gk(T:K95C.CT.Tb L n h t F p W)(hL:0<L)(k:K95C.Kc L h t i j c):j<=n->Gk (j-i) c:=by
 refine K95C.Kc.rec (motive_1:=λi j c _=>j<=n->Gk (j-i) c) (motive_2:=λl i j r _=>j<=n->(i<j->Gw (j-i) l r)/\(i=j->r=[])/\(l=0->i+2<=j->Gk (j-i) r)) ?_ ?_ ?_ ?_ k
 ·intro i _;exact⟨List.pairwise_singleton _ _,[],by simp,λx hx n hn=>by rw[b6r.mp hx] at hn;exact absurd hn (b7b _)⟩
 ·intro i j c hij _ ih hj;exact(ih hj).2.2 rfl hij
 ·intro l j _;exact⟨λz=>absurd z (b7y _),λ_=>rfl,λ_ z=>by lia⟩
 ·intro l i j q c r hq kc kt ih1 ih2 hj;have:=K95C.b2m kt;have mq:=b6h hq;have b:=K95C.CT.a1y.mp (K95C.a2o.mp mq).1;obtain⟨p1,S1,l1,k1⟩:=ih1 (by lia);obtain⟨i1,i2,_⟩:=ih2 hj;have p2:PF (K95C.CT.ahd q.1 c):=c0x.mpr (p1.imp b5x);by_cases z:i+q.2+1<j
  ·obtain⟨p3,fr,S2,l2,k2⟩:=i1 z;have pf:PF (K95C.CT.ahd q.1 c++r):=List.pairwise_append.mpr ⟨p2,p3,λu hu v hv=>by
    obtain⟨u',_,rfl⟩:=b6x.mp hu;obtain⟨y,w,rfl,hy⟩:=fr v hv;exact ap_ne (by lia)⟩
   have kn:K95R.Kn ([]::(S1.map ((q.1:Int)::·)++S2)) (K95C.CT.ahd q.1 c++r):=((b3y k1).mono λx hx=>(b6D.mp hx).elim (λe=>e▸.head _) λh=>.tail _ (b7S _ h)).app (k2.mono λx hx=>(b6D.mp hx).elim (λe=>e▸.head _) λh=>.tail _ (b6M _ h));have ln:(S1.map ((q.1:Int)::·)++S2).length+2<=j-i:=by rw[b6o,b6b];grind
   refine⟨λ_=>⟨pf,λu hu=>?_,_,by exact b6y ‹_›,kn⟩,λe=>by lia,λ_ _=>⟨pf,_,by rw[b6F];assumption,kn⟩⟩;rcases b6G.mp hu with hu|hu
   ·obtain⟨u',_,rfl⟩:=b6x.mp hu;exact⟨_,_,rfl,by lia⟩
   ·obtain⟨y,w,rfl,hy⟩:=fr u hu;exact⟨_,_,rfl,by lia⟩
  ·have:=i2 (by lia);subst this;rw[b7e];refine⟨λ_=>⟨p2,λu hu=>?_,_,?_,b3y k1⟩,λe=>by lia,λe y=>?_⟩
   ·obtain⟨u',_,rfl⟩:=b6x.mp hu;exact⟨_,_,rfl,by lia⟩
   ·rw[b6b];grind
   ·subst e;have:=K95C.b5g T hL y hj mq
    grind
theorem kc_ex(T:K95C.CT.Tb L n h t F p W)(hL:0<L):∀w i j,j-i<=w->i<j->j<=n->(∃c,K95C.Kc L h t i j c)/\∀l,l<L->∃r,K95C.Kt L h t l i j r
 |0,i,j,hw,hij,hj=>by grind
 |w+1,i,j,hw,hij,hj=>by
  have ih:=kc_ex T hL w;have tl:∀{q:Nat×Nat}{l:Nat},l<L->q∈K95C.wys L h t l i j->∃r,K95C.Kt L h t (q.1+1) (i+q.2+1) j r:=λ{q l} hl hq=>by
   obtain⟨b1,b2,b3,b4⟩:=K95C.a3Z T hl hij hj hq;by_cases z:i+q.2+1=j
   ·exact⟨[],z▸.nil _ _⟩
   ·exact(ih (i+q.2+1) j (by lia) (by grind) hj).2 _ (b4 (by grind))
  have c1:∃c,K95C.Kc L h t i j c:=by
   by_cases y:j=i+1
   ·subst y;exact⟨_,.one i⟩
   ·obtain⟨q,r,e⟩:=K95C.a6f T hL hij hj;have mq:q∈K95C.wys L h t 0 i j:=by rw[e];exact .head _
    have b:=K95C.b5g T hL (by lia) hj mq;obtain⟨c,kc⟩:=(ih i (i+q.2+1) (by omega) (by lia) (by grind)).1;obtain⟨r,kr⟩:=tl hL mq;exact⟨_,.more _ _ _ (by lia) (.cons _ _ _ q _ _ (by rw[e];rfl) kc kr)⟩
  refine⟨c1,λl hl=>?_⟩;obtain⟨q,r,e⟩:=K95C.a6f T hl hij hj;have mq:q∈K95C.wys L h t l i j:=by rw[e];exact .head _
  obtain⟨b1,b2,b3,b4⟩:=K95C.a3Z T hl hij hj mq;obtain⟨r,kr⟩:=tl hl mq;obtain⟨c,kc⟩:∃c,K95C.Kc L h t i (i+q.2+1) c:=by
   by_cases z:i+q.2+1=j
   ·rw[z];exact c1
   ·exact(ih i (i+q.2+1) (by lia) (by lia) (by grind)).1
  exact⟨_,.cons _ _ _ q _ _ (by rw[e];rfl) kc kr⟩
end
section
variable (L:Nat)(p:Nat->Int)(W:Nat->Nat->Int)
noncomputable def tb(i j:Nat):K95C.OI×(Nat->K95C.OI):=
 let sub (a b:Nat):K95C.OI×(Nat->K95C.OI):=if b-a<j-i then tb a b else (none,λ_=>none)
 let F:=if j-i=1 then some 0 else K95C.lo ((K95C.CT.Bk L 0 (j-1-i)).map λq=>K95C.oadd (K95C.oadd (some (p q.1*W i (i+q.2+1))) (sub i (i+q.2+1)).1) ((sub (i+q.2+1) j).2 (q.1+1)))
 (F,λl=>if i=j then some 0 else K95C.lo ((K95C.CT.Bk L l (j-i)).map λq=>K95C.oadd (K95C.oadd (some (p q.1*W i (i+q.2+1))) (if i+q.2+1=j then F else (sub i (i+q.2+1)).1)) ((sub (i+q.2+1) j).2 (q.1+1))))
termination_by j-i
end
theorem tb_ex(hL:2<=L)(pw:∀l i j,l<L->i<j->j<=n->0<p l*W i j):∃h t F,K95C.CT.Tb L n h t F p W:=by
 have tt:∀l i j,i<j->(tb L p W i j).2 l=K95C.lo ((K95C.CT.Bk L l (j-i)).map (K95C.CT.vl (λl i j=>K95C.oadd (some (p l*W i j)) (tb L p W i j).1) (λl i j=>(tb L p W i j).2 l) i j)):=λl i j hij=>by
  have e1:∀b,b≠j->b<=j->i<b->(if b-i<j-i then tb L p W i b else (none,λ_=>none))=tb L p W i b:=λb h1 h2 h3=>if_pos (by grind);have eF:(tb L p W i j).1=(tb L p W i j).1:=rfl
  conv at eF=>lhs;rw[tb]
  rw[tb];dsimp only at eF ⊢;rw[eF,if_neg (by lia)];congr 1;refine b6J λq hq=>?_;have b:=K95C.CT.a1y.mp hq;unfold K95C.CT.vl;rw[if_pos (show j-(i+q.2+1)<j-i by omega)];by_cases z:i+q.2+1=j
  ·rw[if_pos z,z]
  ·rw[if_neg z,if_pos (show i+q.2+1-i<j-i by omega)]
 have ff:∀i j,i<j->(tb L p W i j).1=if j-i=1 then some 0 else K95C.lo ((K95C.CT.Bk L 0 (j-1-i)).map (K95C.CT.vl (λl i j=>K95C.oadd (some (p l*W i j)) (tb L p W i j).1) (λl i j=>(tb L p W i j).2 l) i j)):=λi j hij=>by
  rw[tb];dsimp only;split
  ·rfl
  ·congr 1;refine b6J λq hq=>?_;have b:=K95C.CT.a1y.mp hq;unfold K95C.CT.vl;rw[if_pos (show j-(i+q.2+1)<j-i by omega),if_pos (show i+q.2+1-i<j-i by omega)]
 have dg:∀l j,(tb L p W j j).2 l=some 0:=λl j=>by rw[tb];exact if_pos rfl
 have ad:∀{x y:K95C.OI},x≠none->y≠none->∃k,K95C.oadd x y=some k:=λ{x y} hx hy=>by
  cases x with
  |none=>exact absurd rfl hx
  |some x=>cases y with
   |none=>exact absurd rfl hy
   |some y=>exact⟨_,rfl⟩
 have nn:∀{xs:List K95C.OI}{k:Int},some k∈xs->K95C.lo xs≠none:=λ{xs k} h e=>K95C.a3f.mp e k h;have tn:∀l i j,l<L->i<j->(tb L p W i j).1≠none->(tb L p W i j).2 l≠none:=λl i j hl hij hf=>by
  obtain⟨k,hk⟩:=ad (x:=some (p l*W i j)) (by simp) hf;rw[tt l i j hij];refine nn (k:=k) (b6x.mpr ⟨(l,j-i-1),K95C.CT.a1y.mpr ⟨b6k _,hl,by show j-i-1<j-i;grind⟩,?_⟩);unfold K95C.CT.vl;dsimp only;rw[show i+(j-i-1)+1=j by grind,dg,hk,K95C.a9R]
 have fn:∀w i j,j-i<=w->i<j->(tb L p W i j).1≠none:=λw=>by
  induction w with
  |zero=>intro i j h1 h2;grind
  |succ w ih=>
   intro i j h1 h2;rw[ff i j h2];split
   ·simp
   ·obtain⟨k1,hk1⟩:=ad (x:=some (p 0*W i (i+1))) (by simp) (ih i (i+1) (by grind) (by simp));obtain⟨k,hk⟩:=ad (x:=some k1) (by simp) (tn 1 (i+1) j (by assumption) (by lia) (ih (i+1) j (by grind) (by omega)));refine nn (k:=k) (b6x.mpr ⟨(0,0),K95C.CT.a1y.mpr ⟨b6k _,by show 0<L;exact b6y ‹_›,by show 0<j-1-i;grind⟩,?_⟩);unfold K95C.CT.vl;dsimp only;rw[show i+0+1=i+1 from rfl,show 0+1=1 from rfl,hk1,hk]
 exact⟨_,_,λi j=>(tb L p W i j).1,λl j _ _=>dg l j,λl i j _ hij _=>tt l i j hij,λi j hij _=>ff i j hij,λ_ _ _ _ _ _=>rfl,λl i j hl hij _=>tn l i j hl hij (fn _ i j (b6k _) hij),λi j hij _=>fn _ i j (b6k _) hij,pw⟩
noncomputable abbrev us(q:List Int×List Int):List (List Int):=K95C.b5t q.1 q.2
structure Us(q:List Int×List Int):Prop where
 cc:K95R.Code (us q)
 ln:(us q).length=q.2.length
 wd:∀u∈us q,u.length<=9/\∀x∈u,(0:Int)<=x/\x<(q.1.length:Int)
theorem us_ok(l2:2<=q.1.length)(bp:K95C.Po q.1)(bw:K95C.Po q.2)(n2:2<=q.2.length)(n10:q.2.length<=10):Us q:=by
 obtain⟨h,t,F,T⟩:=tb_ex (n:=q.2.length) (p:=K95C.pl q.1) (W:=K95C.Wt q.2) l2 λl i j hl hij hj=>Int.mul_pos (K95C.b3r bp hl) (K95C.b3q bw hij hj);obtain⟨c,k⟩:=(kc_ex T (by exact b6y ‹_›) _ 0 q.2.length (b6k _) (by exact b6y ‹_›) (b6k _)).1;have eu:us q=c:=K95C.a3u ⟨h,t,F,T,k⟩;obtain⟨ln,wd⟩:=K95C.kc_gd T (by omega) k (b6k _);obtain⟨pf,S,hS,kn⟩:=kc_gk T (by exact b6y ‹_›) k (b6k _);rw[<-eu] at ln wd pf kn;have w9:∀u∈us q,u.length<=9:=λu hu=>by have:=(wd u hu).1;lia
 refine⟨⟨⟨pf,λz=>?_⟩,by lia,λu hu=>by have:=w9 u hu;lia,by have:=K95R.b1J kn;lia⟩,ln,λu hu=>⟨w9 u hu,(wd u hu).2⟩⟩;obtain⟨i,hi⟩:=b6N.mp z;have il:=(b6d.mp hi).1;obtain⟨j,hj,ne⟩:∃j,j<(us q).length/\i≠j:=by
  by_cases e:i=0
  ·exact⟨1,by lia,by lia⟩
  ·exact⟨0,by lia,e⟩
 exact(PF.ne pf hi (b6f hj) ne).1 (List.nil_prefix)
theorem e30:(10:Int) ^ (30:Int).toNat=B30:=by unfold B30;decide
def alpha:Str:=Str.ofString "abcdefghijklmnopqrstuvwxyz"
theorem b0u:alpha.cps.toList=(List.range 26).map (97+·):=by decide +kernel
theorem a5o(h0:0<=i)(h1:i<26):atI alpha.cps.toList i=some (97+i.toNat):=by
 obtain⟨k,rfl⟩:∃k:Nat,i=k:=⟨i.toNat,by lia⟩
 refine a1M ?_;rw[b0u,b6p,b7I (by lia)];rfl
theorem a4a:alpha.length<=sizeLine:=by decide +kernel
variable {P:Program}{w:World}{K:PySem.W.Frag}{mg:Str->Option Value}{base:Heap}{f:Addr}{fd:FuncData}
def a5S(K:PySem.W.Frag):Sp:=λvs H Q _=>∃(a:Addr)(ns:List Int)(k:Int),vs=[.ref a,.int k]/\SqL K H a (ns.map V.int)/\0<=k/\∀i,Q (.int i) H
theorem scCell:a0k ["script","k"] ["script","k"] (a0g b1H):=fsk
theorem b5y(F:Fun K "_law_cell_at" "_law_cell_at" b1H f fd)(ml:mg "len"=none):a0I P w K mg base CX0 1 f fd ["script","k"] (a5S K):=by
 refine F.ok (k:=0) scCell (λvs H Q E h=>?_) (λcdv A outer s H vs Q E hr h=>?_)
 ·obtain⟨a,ns,k,rfl,_⟩:=h;rfl
 obtain⟨a,ns,k,rfl,hS,h0,q⟩:=h;refine⟨_,a0c (a0z (a0p a4h (pv 1) (pln ml (pv 0)) (nomark _)) (a0f (a0o (pxA a0m (pv 0) (pv 1)))) a0n) (a0f (a0o a0h)),?_⟩;refine⟨_,rfl,_,rfl,a,_,rfl,.inl hS,_,_,rfl,rfl,_,rfl,?_⟩;refine a2c (λc=>?_) (λc=>q 0);have c1:k<((ns.map V.int).length:Int):=b6B c;obtain⟨n,rfl⟩:∃n:Nat,k=n:=⟨k.toNat,by lia⟩
 have hn:n<ns.length:=by rw[b6b] at c1;lia
 exact⟨_,rfl,_,rfl,a,_,_,_,rfl,rfl,hS,a4u (b6f hn),q _⟩
def a5p:Sp:=λvs H Q _=>∃c:Int,vs=[.int c]/\∀i,1<=i->i<=B30->Q (.int i) H
theorem a7D:a0k ["cell","rest"] ["cell"] (a0g a6P):=fsk
theorem b0v(F:Fun K "_law_amount" "_law_amount" a6P f fd):a0I P w K mg base CX0 1 f fd ["cell"] a5p:=by
 refine F.ok (k:=0) a7D (λvs H Q E h=>?_) (λcdv A outer s H vs Q E hr h=>?_)
 ·obtain⟨c,rfl,_⟩:=h;rfl
 obtain⟨c,rfl,q⟩:=h;refine⟨_,a0c (psA (i:=1) a7D (a0q a1F (pv 0) a0h))
  (a0c (a0z (a0p a0U (a0q a0V (pv 0) a0h) a0h (nomark _)) (a0f (a0o (a0q a0K a0h (a0q a0V (pv 1) (a0q a5y a0h a0h))))) a0n)
  (a0c (a0z (a0p a0U (a0q a0V (pv 0) a0h) a0h (nomark _)) (a0f (a0o (a0q a2y (a0q a5y a0h a0h) (a0q a0V (pv 1) a0h)))) a0n)
  (a0c (a0z (a0p a0U (a0q a0V (pv 0) a0h) a0h (nomark _)) (a0f (a0o (a0q a0K a0h (a0q a0V (pv 1) a0h)))) a0n)
  (a0f (a0o (a0q a0K a0h (a0q a0V (pv 1) a0h))))))),?_⟩
 refine⟨_,rfl,_,_,rfl,rfl,⟨by decide,by decide⟩,?_⟩;refine⟨_,rfl,_,_,rfl,rfl,(by show(0:Int)<_;decide),rfl,_,rfl,?_⟩;refine a2c (λ_=>⟨_,rfl,_,_,rfl,rfl,⟨by decide,by decide,by decide⟩,_,_,rfl,rfl,(by show(0:Int)<_;decide),_,_,rfl,rfl,q _ (by rw[e30];unfold B30;grind) (by rw[e30];unfold B30;grind)⟩) (λ_=>?_);refine⟨_,rfl,_,_,rfl,rfl,(by show(0:Int)<_;decide),rfl,_,rfl,?_⟩;refine a2c (λ_=>⟨_,_,rfl,rfl,⟨by decide,by decide,by decide⟩,_,rfl,_,_,rfl,rfl,(by show(0:Int)<_;decide),_,_,rfl,rfl,q _ (by rw[e30];unfold B30;grind) (by rw[e30];unfold B30;grind)⟩) (λ_=>?_);refine⟨_,rfl,_,_,rfl,rfl,(by show(0:Int)<_;decide),rfl,_,rfl,?_⟩;refine a2c (λ_=>⟨_,rfl,_,_,rfl,rfl,(by show(0:Int)<_;decide),_,_,rfl,rfl,q _ (by grind) (by unfold B30;grind)⟩) (λ_=>?_);exact⟨_,rfl,_,_,rfl,rfl,(by show(0:Int)<_;decide),_,_,rfl,rfl,q _ (by grind) (by unfold B30;grind)⟩
def sgL(c:Int)(n:Nat):List Str:=(List.range n).map λk:Nat=>S [97+((c+5*(k:Int)) % 26).toNat]
abbrev NSg:List Str:=["cell","many","letters"]
abbrev PSg:List Str:=["cell","many"]
def spSg:Sp:=λvs H Q _=>∃(c:Int)(n:Nat),vs=[.int c,.int n]/\n<=30/\∀d H',a0r H H'->H d=none->H' d=some (.lst ((sgL c n).map V.str))->Q (.ref d) H'
theorem scSg:a0k NSg PSg (a0g a7C):=fsk
theorem ndSg:(("k":Str)::NSg).Nodup:=by decide +kernel
theorem ok_sg(F:Fun K "_law_signs" "_law_signs" a7C f fd)(mr:mg "range"=none):a0I P w K mg base CX0 1 f fd PSg spSg:=by
 refine F.ok (k:=0) scSg (λvs H Q E h=>?_) (λcdv A outer s H vs Q E hr h=>?_)
 ·obtain⟨c,n,rfl,_⟩:=h;rfl
 obtain⟨c,n,rfl,n30,q⟩:=h;refine⟨_,a0c (psA (i:=2) scSg a0t)
  (a0f (a0o (a1O (M:=NSg) rfl (cso (a0g a7C) NSg) ndSg rfl (by rfl) mr (a0a (pv 1) a0d) (a1k a0E a1W)
   (λcl C s0 H0 fp=>⟨a0v,pxA a5E (pv 3) (a0q a0V (a0q a0K (pv 1) (a0q b2H a0h (pv 0))) a0h)⟩)))),?_⟩
 refine⟨_,rfl,_,rfl,by simp,by lia,λd hd=>?_⟩;have en:((n:Int)).toNat=n:=b6Q n;rw[en];refine⟨λi H'=>a0r H H'/\H' d=some (.lst ((sgL c i).map V.str)),⟨a0e hd _,a0b⟩,λi H' hi hP=>?_,λH' hP=>q d H' hP.1 hd hP.2⟩;obtain⟨s1,hz⟩:=hP;have ei:(0:Int)+(i:Int)=(i:Int):=by simp
 rw[ei];have h0:=b8c (c+5*(i:Int)) (show(26:Int)≠0 by decide);have h1:=b7B (c+5*(i:Int)) (show(0:Int)<26 by decide);refine a0u ⟨_,rfl,_,rfl,_,rfl,_,_,rfl,rfl,.inl ⟨by decide,by decide⟩,_,_,rfl,rfl,_,_,rfl,rfl,(by show(0:Int)<_;decide),alpha,_,_,rfl,rfl,a4a,a5o h0 h1,_,hz,?_,a0l hd s1,?_⟩
 ·rw[b6b];unfold sgL;rw[b6b,b6C];exact a0j (by lia)
 ·rw[a0b];unfold sgL;rw[b7t,b6g,b6g];rfl
end K95
namespace L2
open PySem PySem.Spec PyProof.Rows
section
variable {X:Cx}
def a2z:List Expr->Option (List Str)
 |[]=>some []
 |.Constant (.str i) _ _::es=>(a2z es).map λqs=>i::qs
 |_::_=>none
def tSs:List Str->TA
 |[]=>b2L
 |q::qs=>a6v (tC (.str q)) (tSs qs)
set_option tactic.hygienic true in
theorem b0w{e:Expr}{es:List Expr}{qs:List Str}(h:a2z (e::es)=some qs):∃i k p qs',e=.Constant (.str i) k p/\a2z es=some qs'/\qs=i::qs':=by
 unfold a2z at h;split at h
 ·rename_i heq;cases heq
 ·rename_i heq;cases heq;cases hq:a2z es with
  |none=>rw[hq] at h;cases h
  |some qs'=>rw[hq] at h;cases h;exact⟨_,_,_,qs',rfl,rfl,rfl⟩
 ·cases h
theorem b0x:∀{es:List Expr}{qs:List Str},a2z es=some qs->PA X es (tSs qs)
 |[],qs,h=>by cases h;exact a0d
 |e::es,qs,h=>by
  obtain⟨i,k,p,qs',rfl,h2,rfl⟩:=b0w h;exact a0a a0t (b0x h2) (by rfl)
theorem b3z:∀(qs:List Str){σ:St}{H:Hp}{Q:List V->Hp->Prop},Q (qs.map V.str) H->tSs qs σ H Q
 |[],σ,H,Q,h=>h
 |q::qs,σ,H,Q,h=>b3z qs h
def b5z(qs:List Str):TE:=λ_ H Q=>qs.length<=1000/\∀d H',a0r H H'->H d=none->H' d=some (.lst (qs.map V.str))->Q (.ref d) H'
theorem b5A{es:List Expr}{pos:Pos}{qs:List Str}(h:a2z es=some qs:=by rfl):PE X (.List es pos) (b5z qs):=by
 refine(a1p (b0x h)).imp λσ H Q q=>?_;obtain⟨l,q⟩:=q;refine b3z qs ⟨b6y (a0j (by rw[b6b];exact l)),λd hd=>?_⟩;exact q d _ (a0e hd _) hd a0b
theorem b5B(i:Nat){x:Str}{pos' lp pos:Pos}{es:List Expr}(qs:List Str)(h:a2z es=some qs)(hN:X.N.Nodup)(hi:X.N[i]?=some x)(hx:Loc X.env.scope x)(hf:X.fn x=true\/X.env.scope.names.lookup x=some .local) :
  PS X (.Assign [.Name x pos'] (.List es lp) pos) (b0O (b5z qs) (a1B i)):=b2F hN hi hx (b5A h) (by rfl) hf
def a6Q:Stmt->Option (Str×List Str)
 |.Assign [.Name x _] (.List es _) _=>(a2z es).map λq=>(x,q)
 |_=>none
set_option tactic.hygienic true in
theorem ps_sts(i:Nat)(st:Stmt){x:Str}(qs:List Str)(h:a6Q st=some (x,qs))(hN:X.N.Nodup)(hi:X.N[i]?=some x)(hx:Loc X.env.scope x)(hf:X.fn x=true\/X.env.scope.names.lookup x=some .local):PS X st (b0O (b5z qs) (a1B i)):=by
 unfold a6Q at h;split at h
 ·rename_i y p0 es lp pos;cases hq:a2z es with
  |none=>rw[hq] at h;cases h
  |some q=>rw[hq] at h;cases h;exact b5B i qs hq hN hi hx hf
 ·cases h
end
end L2
namespace K95
open PySem L2
def Lo(l:List Nat):Prop:=∀c∈l,97<=c/\c<=122
structure Nm(m:Nat)(z:Str):Prop where
 l1:1<=z.cps.toList.length
 l8:z.cps.toList.length<=m
 lo:Lo z.cps.toList
theorem b0y{α:Type}{w:α}:∀{zs:List α}{i:Nat},zs.Nodup->w∉zs->(zs.set i w).Nodup
 |[],_,h,_=>h
 |z::zs,0,h,hw=>b7C.mpr ⟨λx=>hw (.tail _ x),(b7C.mp h).2⟩
 |z::zs,i+1,h,hw=>by
  refine b7C.mpr ⟨λx=>?_,b0y (b7C.mp h).2 (λx=>hw (.tail _ x))⟩;rcases b8w x with y|y
  ·exact(b7C.mp h).1 y
  ·exact hw (y▸.head _)
theorem a1H{w:Str}{zs:List Str}:inV (.str w) (zs.map V.str)=decide (w∈zs):=by
 unfold inV;rw[List.any_map]
 induction zs with
 |nil=>rfl
 |cons z zs ih=>
  rw[b9p,ih];show(z==w||_)=_;by_cases e:z=w
  ·subst e;simp
  ·have:¬w=z:=λx=>e x.symm;simp[e,this]
theorem a1c(zs:List Str):(zs.map V.str).all a4Q=true:=by
 rw[c0p,b7i];intro z _;rfl
theorem b5C(s:a0r H H')(h:H' d=none):H d=none:=by
 cases e:H d with
 |none=>rfl
 |some o=>rw[s _ _ e] at h;cases h
def hd(r:Int)(k:Nat):Nat:=97+((r+7*(k:Int)) % 26).toNat
theorem hd_lo(r:Int)(k:Nat):97<=hd r k/\hd r k<=122:=by unfold hd;grind
theorem hd_inj(hi:i<24)(hj:j<24)(h:hd r i=hd r j):i=j:=by unfold hd at h;omega
def nm1(b:Bool)(t:List Nat)(h:Nat):List Nat:=if b then t++[h] else h::t
def nms(b:Bool)(t:List Nat)(r:Int)(n:Nat):List Str:=(List.range n).map λk=>S (nm1 b t (hd r k))
theorem b5D{t:List Nat}(e:nm1 b t h=nm1 b t h'):h=h':=by
 unfold nm1 at e;split at e
 ·exact List.head_eq_of_cons_eq (List.append_cancel_left e)
 ·exact(b7X e).1
theorem nms_nd{t:List Nat}(h:n<=24):(nms b t r n).Nodup:=by
 unfold nms List.Nodup;rw[c0x];refine List.Pairwise.imp_of_mem ?_ (List.nodup_range (n:=n));intro i j hi hj ne e;exact ne (hd_inj (by have:=b6V.mp hi;lia) (by have:=b6V.mp hj;omega) (b5D (S_inj e)))
theorem nms_ok{t:List Nat}(h:t.length<=7)(lo:Lo t):∀z∈nms b t r n,Nm 8 z:=λz hz=>by
 obtain⟨k,_,rfl⟩:=b6x.mp hz;have:=hd_lo r k;refine⟨?_,?_,?_⟩<;>rw[b0k]<;>unfold nm1<;>split
 ·simp
 ·simp
 ·rw[b6o];exact Nat.succ_le_succ h
 ·exact Nat.succ_le_succ h
 ·intro c hc;rcases b6G.mp hc with x|x
  ·exact lo c x
  ·rw[b6r.mp x];exact this
 ·intro c hc;rcases b6D.mp hc with x|x
  ·rw[x];exact this
  ·exact lo c x
def wds:List Str:=[Str.ofString "cost",Str.ofString "many",Str.ofString "free",Str.ofString "code",Str.ofString "sure",Str.ofString "bounded",Str.ofString "price",Str.ofString "weight",Str.ofString "write",Str.ofString "read",Str.ofString "none",Str.ofString "thing"]
theorem wds_ok:∀z∈wds,Nm 8 z:=by
 have h:∀z∈wds,1<=z.cps.toList.length/\z.cps.toList.length<=8/\∀c∈z.cps.toList,97<=c/\c<=122:=by decide +kernel
 exact λz hz=>⟨(h z hz).1,(h z hz).2.1,(h z hz).2.2⟩
variable {P:Program}{w:World}{K:PySem.W.Frag}{mg:Str->Option Value}{base:Heap}{f:Addr}{fd:FuncData}
abbrev NNm:List Str:=["cell","many","letters","rest","tail","k","heads","names","words","word"]
abbrev MNm:List Str:=["cell","many","letters","rest","tail","-","heads","names","words","word"]
abbrev PNm:List Str:=["cell","many"]
def spNm:Sp:=λvs H Q _=>∃(c:Int)(n:Nat),vs=[.int c,.int n]/\1<=n/\n<=24/\∀(d:Addr)(zs:List Str) H',a0r H H'->H d=none->H' d=some (.lst (zs.map V.str))->zs.length=n->zs.Nodup->(∀z∈zs,Nm 8 z)->Q (.ref d) H'
theorem b0z:a0k NNm PNm (a0g a1S):=fsk
theorem ndNm1:(("k":Str)::MNm).Nodup:=by decide +kernel
theorem ndNm2:(("head":Str)::MNm).Nodup:=by decide +kernel
abbrev stW:Stmt:=(a0Q a1S).getD 6 (.Pass ⟨0,0,0,0⟩)
theorem ok_nm(F:Fun K "_law_names" "_law_names" a1S f fd)(mr:mg "range"=none):a0I P w K mg base CX0 1 f fd PNm spNm:=by
 refine F.ok (k:=0) b0z (λvs H Q E h=>?_) (λcdv A outer s H vs Q E hr h=>?_)
 ·obtain⟨c,n,rfl,_⟩:=h;rfl
 obtain⟨c,n,rfl,n1,n24,qq⟩:=h;have key:∀st2:Stmt,a6Q st2=some (("words":Str),wds)->∃t,PSs (b2M CX0 P w K mg base NNm (Str.ofString "_law_names") (a0g a1S) f cdv A outer s H E).nox ((a0Q a1S).getD 0 (.Pass ⟨0,0,0,0⟩)::(a0Q a1S).getD 1 (.Pass ⟨0,0,0,0⟩)::(a0Q a1S).getD 2 (.Pass ⟨0,0,0,0⟩)::(a0Q a1S).getD 3 (.Pass ⟨0,0,0,0⟩)::(a0Q a1S).getD 4 (.Pass ⟨0,0,0,0⟩)::(a0Q a1S).getD 5 (.Pass ⟨0,0,0,0⟩)::st2::(a0Q a1S).drop 7) t/\t {nx:=λx H'=>Q V.non H',rt:=Q} (L2.start NNm [V.int c,V.int n]) H:=by
  intro st2 hst2;refine⟨_,a0c (psA (i:=2) b0z (a0t))
   (a0c (psA (i:=3) b0z (a0q a1F (pv 0) (a0h)))
   (a0c (psA (i:=4) b0z (a0t))
   (a0c (a1d b6K rfl (a1u (by rfl) mr (a0a (a0q a0V (a0q a1F (pv 0) (a0h)) (a0h)) (a0d))) (pgA (i:=5) b0z) (a0c (psA (i:=4) b0z (a0q a0F (pv 4) (pxA a5E (pv 2) (a0q a0V (pv 3) (a0h)))))
   (a0f (psA (i:=3) b0z (a0q a1F (pv 3) (a0h))))))
   (a0c (a9e (i:=6) (M:=MNm) b0z.nd rfl rfl rfl (cso (a0g a1S) NNm) ndNm1 rfl (by rfl) mr (a0a (pv 1) a0d) (a1k a0E a1W)
   (λcl C s0 H0 fp=>⟨a0v,pxA a5E (pv 3) (a0q a0V (a0q a0K (pv 4) (a0q b2H (a0h) (pv 0))) (a0h))⟩))
   (a0c (a2T (i:=7) (M:=MNm) b0z.nd rfl rfl rfl (cso (a0g a1S) NNm) ndNm2 rfl (pv 6) a0E
   (λcl C s0 H0 fp=>⟨a0v,pxA (ixL K) (a1p (a0a (a0q a0F (pv 0) (pv 5)) (a0a (a0q a0F (pv 5) (pv 0)) (a0d)))) (a0q a0V (pv 1) (a0h))⟩))
   (a0c (ps_sts 8 _ wds hst2 b0z.nd rfl (Or.inl rfl) (Or.inl rfl))
   (a0c (psA (i:=9) b0z (pxA a0m (pv 8) (a0q a0V (a0q a1F (pv 0) (a0h)) (a0h))))
   (a0c (a3J (a0z (PW.pt (a5v (a0p a0U (a0q a0V (pv 0) (a0h)) (a0h) (nomark _)) (a4G (a0p a1Q (pv 9) (pv 7) rfl)))) (a0f (a2L (pv 9) (a3w (pv 7) (a0h) a2b))) (a0n)))
   (a0c (a3J (a0z (PW.pt (a5v (a0p a7M (pv 1) (a0h) (nomark _)) (a5v (a0p a0U (a0q a0V (pv 0) (a0h)) (a0h) (nomark _)) (a4G (a0p a1Q (a0X b0j (pxA a0m (pv 7) (a0h)) a1m (a1n (a3m a2f a0h))) (a0q a8P (pv 7) (a1p (a0a (a0t) (a0d)))) rfl))))) (a0f (a2L (a0X b0j (pxA a0m (pv 7) (a0h)) a1m (a1n (a3m a2f a0h))) (a3w (pv 7) (a0h) a2b))) (a0n)))
   (a0f (a0o (pv 7)))))))))))),?_⟩
  refine⟨_,rfl,_,_,rfl,rfl,⟨by decide,by decide⟩,?_⟩;have m0:=b8c (c / 6) (show(8:Int)≠0 by decide);have m8:=b7B (c / 6) (show(0:Int)<8 by decide);refine⟨_,rfl,_,_,rfl,rfl,⟨by decide,by decide⟩,_,_,rfl,rfl,(by show(0:Int)<_;decide),_,rfl,by lia,by lia,?_⟩;refine a0Z (λi σ H'=>H=H'/\∃(t:List Nat)(r:Int)(x5:Option V),σ=[some (.int c),some (.int n),some (.str alpha),some (.int r),some (.str (S t)),x5,none,none,none,none]/\t.length=i/\Lo t) ⟨rfl,[],_,_,rfl,rfl,λc hc=>by cases hc⟩ (λi σ H1 hi hP=>?_) (λσ H1 hP=>?_)
  ·obtain⟨rfl,t,r,x5,rfl,lt,lo⟩:=hP;have h0:=b8c r (show(26:Int)≠0 by decide);have h1:=b7B r (show(0:Int)<26 by decide);refine⟨_,rfl,_,rfl,_,rfl,_,_,rfl,rfl,(by show(0:Int)<_;decide),alpha,_,_,rfl,rfl,a4a,a5o h0 h1,_,_,rfl,rfl,?_,?_⟩
   ·show(S t).length+1<=sizeLine;rw[a8l];exact b6y (a0j (by lia))
   refine⟨_,rfl,_,_,rfl,rfl,⟨by decide,by decide⟩,rfl,t++[97+(r % 26).toNat],r / 26,some (.int (0+(i:Int))),?_,by simp[lt],λc hc=>?_⟩
   ·rw[<-b2g];rfl
   ·rcases b6G.mp hc with x|x
    ·exact lo c x
    ·rw[b6r.mp x];lia
  obtain⟨rfl,t,r,x5,rfl,lt,lo⟩:=hP;have t7:t.length<=7:=by lia
  refine⟨_,rfl,_,rfl,by simp,by omega,λd1 hd1=>?_⟩;have en:((n:Int)).toNat=n:=b6Q n;rw[en];refine⟨λi H'=>a0r H H'/\H' d1=some (.lst (((List.range i).map λk=>S [hd r k]).map V.str)),⟨a0e hd1 _,a0b⟩,λi H' hi hP=>?_,λH1 hP=>?_⟩
  ·obtain⟨s1,hz⟩:=hP;have ei:(0:Int)+(i:Int)=(i:Int):=by simp
   rw[ei];have h0:=b8c (r+7*(i:Int)) (show(26:Int)≠0 by decide);have h1:=b7B (r+7*(i:Int)) (show(0:Int)<26 by decide);refine a0u ⟨_,rfl,_,rfl,_,rfl,_,_,rfl,rfl,.inl ⟨by decide,by decide⟩,_,_,rfl,rfl,_,_,rfl,rfl,(by show(0:Int)<_;decide),alpha,_,_,rfl,rfl,a4a,a5o h0 h1,_,hz,?_,a0l hd1 s1,?_⟩
   ·rw[b6b,b6b,b6C];exact a0j (by lia)
   ·rw[a0b,b7t,b6g,b6g];rfl
  obtain⟨s1,g1⟩:=hP;obtain⟨b,hb⟩:∃b:Bool,b=decide (c % 2=1):=⟨_,rfl⟩
  refine⟨_,rfl,d1,_,rfl,SqL.of g1,λd hd'=>?_⟩;refine⟨λi H'=>a0r H1 H'/\H' d=some (.lst ((nms b t r i).map V.str)),⟨a0e hd' _,a0b⟩,λi H' _ hP=>SqL.of (hP.1 _ _ g1),λi x H' hx hP=>?_,λH2 hP=>?_⟩
  ·obtain⟨s2,hz⟩:=hP;rw[b7v] at hx;have il:i<n:=by have:=(b6d.mp hx).1;rw[b6b,b6C] at this;exact this
   rw[b6p,b7I il] at hx;have ex:x=.str (S [hd r i]):=(b6I hx).symm;subst ex;have hl:∀a b:List Nat,a.length+b.length<=8->(S a).length+(S b).length<=sizeLine:=λa b h=>by rw[a8l,a8l];exact b6y (a0j (by lia))
   have l1:[hd r i].length=1:=rfl;refine a0u ⟨_,rfl,_,rfl,_,_,rfl,rfl,hl _ _ (by lia),_,rfl,_,rfl,_,_,rfl,rfl,hl _ _ (by lia),(by show 2<=sizeLine;decide),λo ho=>?_⟩;have hat:atI [V.str (S [hd r i]++S t),.str (S t++S [hd r i])] (c % 2)=some (.str (S (nm1 b t (hd r i)))):=by
    have h:c % 2=0\/c % 2=1:=by lia
    rw[hb];unfold nm1;rcases h with h|h
    ·rw[h,b6w (by decide),if_neg b6u,b2g];rfl
    ·rw[h,b6i rfl,if_pos rfl,b2g,b2g];rfl
   have s3:=s2.trans (a0e ho (.lst [V.str (S [hd r i]++S t),.str (S t++S [hd r i])]));refine⟨_,rfl,_,_,rfl,rfl,(by show(0:Int)<_;decide),o,_,_,_,rfl,rfl,SqL.of a0b,hat,_,a0e ho _ _ _ hz,?_,a0l hd' s3,?_⟩
   ·rw[b6b];unfold nms;rw[b6b,b6C];exact a0j (by omega)
   ·rw[a0b];unfold nms;rw[b7t,b6g,b6g];rfl
  obtain⟨s2,g2⟩:=hP;rw[b6b,b6b,b6C] at g2;have s02:=s1.trans s2;have hdn:H d=none:=b5C s1 hd';refine⟨by show 12<=1000;decide,λo H3 s3 ho g3=>?_⟩;have w0:=b8c (c / 35) (show(12:Int)≠0 by decide);have w12:=b7B (c / 35) (show(0:Int)<12 by decide);obtain⟨wd,hwd,hat⟩:∃wd,wd∈wds/\atI (wds.map V.str) (c / 35 % 12)=some (.str wd):=by
   obtain⟨k,hk⟩:∃k:Nat,c / 35 % 12=k:=⟨(c / 35 % 12).toNat,by lia⟩
   have lk:k<wds.length:=by show k<12;lia
   refine⟨wds[k],b7w lk,?_⟩;rw[hk];exact a1M (by rw[b6p,b6f lk];rfl)
  generalize hz0:nms b t r n=zs0 at g2;have nd0:zs0.Nodup:=hz0▸nms_nd n24;have ok0:∀z∈zs0,Nm 8 z:=hz0▸nms_ok t7 lo;have ln0:zs0.length=n:=by rw[<-hz0];unfold nms;rw[b6b,b6C]
  have s03:=s02.trans s3;have g4:=s3 _ _ g2;refine⟨_,rfl,_,rfl,_,_,rfl,rfl,⟨by decide,by decide⟩,_,_,rfl,rfl,(by show(0:Int)<_;decide),o,_,_,_,rfl,rfl,SqL.of g3,hat,?_⟩;have len0:∀{zs:List Str},zs.length=n->ixN (zs.map V.str).length 0=some 0:=λh=>by
   unfold ixN;rw[if_pos (by decide),if_pos (by rw[b6b,h];lia)];rfl
  refine⟨λσ' H'=>∃zs:List Str,σ'=[some (.int c),some (.int n),some (.str alpha),some (.int r),some (.str (S t)),x5,some (.ref d1),some (.ref d),some (.ref o),some (.str wd)]/\a0r H H'/\H' d=some (.lst (zs.map V.str))/\zs.length=n/\zs.Nodup/\∀z∈zs,Nm 8 z,?_,?_⟩
  ·refine⟨_,rfl,_,_,rfl,rfl,(by show(0:Int)<_;decide),rfl,_,rfl,a2c (λ_=>?_) (λ_=>⟨zs0,rfl,s03,g4,ln0,nd0,ok0⟩)⟩;refine⟨_,rfl,_,rfl,d,_,rfl,.inl (SqL.of g4),rfl,a1c _,_,rfl,a2c (λhc=>?_) (λ_=>⟨zs0,rfl,s03,g4,ln0,nd0,ok0⟩)⟩;rw[a1H] at hc;have ni:wd∉zs0:=λx=>by rw[b6i x] at hc;cases hc
   refine⟨_,rfl,_,rfl,d,_,_,0,rfl,rfl,g4,len0 ln0,zs0.set 0 wd,rfl,a0l hdn s03,?_,by rw[b8z];exact ln0,b0y nd0 ni,λz hz=>?_⟩
   ·rw[a0b,List.map_set]
   ·rcases b8w hz with x|x
    ·exact ok0 z x
    ·rw[x];exact wds_ok wd hwd
  rintro σ' H4 ⟨zs,rfl,s4,g5,ln,nd,ok⟩;refine⟨λσ' H'=>∃zs:List Str,σ'=[some (.int c),some (.int n),some (.str alpha),some (.int r),some (.str (S t)),x5,some (.ref d1),some (.ref d),some (.ref o),some (.str wd)]/\a0r H H'/\H' d=some (.lst (zs.map V.str))/\zs.length=n/\zs.Nodup/\∀z∈zs,Nm 8 z,?_,?_⟩
  ·obtain⟨z0,hz0⟩:∃z0,zs[0]?=some z0:=⟨zs[0]'(by lia),b6f (by omega)⟩
   have N0:=ok z0 (b6h hz0);have a0:atI (zs.map V.str) 0=some (.str z0):=a1M (j:=0) (by rw[b6p,hz0];rfl);have zl1:1<=z0.length:=by have:=N0.l1;rw[b6H] at this;exact this
   have zl2:z0.length<=sizeLine:=b6y (a0j (by have:=N0.l8;rw[b6H] at this;show z0.cps.size<=1000;lia));refine⟨_,rfl,_,_,rfl,rfl,_,rfl,a2c (λn1'=>?_) (λ_=>⟨zs,rfl,s4,g5,ln,nd,ok⟩)⟩;refine⟨_,rfl,_,_,rfl,rfl,(by show(0:Int)<_;decide),rfl,_,rfl,a2c (λ_=>?_) (λ_=>⟨zs,rfl,s4,g5,ln,nd,ok⟩)⟩;refine⟨_,rfl,d,_,_,_,rfl,rfl,SqL.of g5,a0,_,rfl,_,rfl,z0,rfl,rfl,rfl,zl1,zl2,?_⟩;refine⟨_,rfl,(by show 1<=sizeLine;decide),λp hp=>?_⟩;have s5:=a0e hp (.lst [V.str (Str.ofString "")]);refine⟨d,p,_,_,rfl,rfl,s5 _ _ g5,a0b,b6y (a0j (by rw[b6b];show zs.length+1<=1000;lia)),λp2 hp2=>?_⟩;have s6:=s5.trans (a0e hp2 (.lst (zs.map V.str++[V.str (Str.ofString "")])));have ec:zs.map V.str++[V.str (Str.ofString "")]=(zs++[Str.ofString ""]).map V.str:=by rw[b6g];rfl
   have s46:=s4.trans s6;have g6:=s6 _ _ g5;refine⟨p2,_,rfl,.inl (SqL.of a0b),rfl,by rw[ec];exact a1c _,_,rfl,a2c (λhc=>?_) (λ_=>⟨zs,rfl,s46,g6,ln,nd,ok⟩)⟩;rw[ec,a1H] at hc;have ni:(⟨z0.cps.toList.dropLast.toArray⟩:Str)∉zs++[Str.ofString ""]:=λx=>by rw[b6i x] at hc;cases hc
   have n2:1<n:=by have:=b6B n1';lia
   have i1:ixN (zs.map V.str).length 1=some 1:=by
    unfold ixN;rw[if_pos (by decide),if_pos (by rw[b6b,ln];lia)];rfl
   refine⟨_,rfl,d,_,_,_,rfl,rfl,SqL.of g6,a0,_,rfl,_,rfl,z0,rfl,rfl,rfl,zl1,zl2,_,rfl,d,_,_,1,rfl,rfl,g6,i1,zs.set 1 ⟨z0.cps.toList.dropLast.toArray⟩,rfl,a0l hdn s46,?_,by rw[b8z];exact ln,b0y nd (λx=>ni (b7S _ x)),λz hz=>?_⟩
   ·rw[a0b,List.map_set]
   ·rcases b8w hz with x|x
    ·exact ok z x
    ·rw[x];have e:(⟨z0.cps.toList.dropLast.toArray⟩:Str).cps.toList=z0.cps.toList.dropLast:=c0d;refine⟨?_,?_,?_⟩<;>rw[e]
     ·rcases Nat.eq_zero_or_pos z0.cps.toList.dropLast.length with y|y
      ·exfalso;refine ni (b6M _ (b6r.mpr ?_));rw[List.length_eq_zero_iff.mp y];rfl
      ·exact y
     ·rw[b9b];exact b6R (Nat.sub_le _ _) N0.l8
     ·exact λc hc=>N0.lo c (List.dropLast_subset _ hc)
  rintro σ' H5 ⟨zs,rfl,s5,g6,ln,nd,ok⟩;exact⟨_,rfl,qq d zs H5 s5 hdn g6 ln nd ok⟩
 exact key stW rfl
end K95
namespace L2
open PySem PySem.Spec PyProof.Rows
theorem b2q{X:Cx}(K:PySem.W.Frag)(ka kb:Bool){elt a b:Expr}{t1 t2 x:Str}{p1 p2 tp p pos pos' pos1 spos:Pos}{k i:Nat}{cs:List Expr}{scope:Scope}{tc:TT}{te:TE}{ta:TA}{M:List Str}(hN:X.N.Nodup)(hix:X.N[i]?=some x)(hx:X.env.scope.names.lookup x=some .local)(hc:X.calm=true)(S:a0x scope X.env X.N M)(nd:(t1::t2::M).Nodup)(hl1:scope.names.lookup t1=some .local)(hl2:scope.names.lookup t2=some .local)
  (hg:Gl X "zip")(hm:X.mg "zip"=none)(ha:PA X [a,b] ta)(mo:a4W ta)
  (hin:∀(cl:List (Str×Addr))(C:Addr)(s0:Shared)(H0:Hp)(fp:List Addr),PTs (cxC X scope cl C s0 H0 fp (t1::t2::M)) cs tc/\PE (cxC X scope cl C s0 H0 fp (t1::t2::M)) elt te)
  (hw:swapsWith (.ListComp elt [⟨.Tuple [.Name t1 p1,.Name t2 p2] k tp,.Call (.Name "zip" p) [a,b] [] pos',cs,0⟩] scope pos) (some (.Name x pos1)) spos.line X.env=pure true:=by rfl)
  (hs:starEach [a,b] X.env=[(false,eval a X.env),(false,eval b X.env)]:=by rfl)(hs2:starEach [b] X.env=[(false,eval b X.env)]:=by rfl)(hf:∀x,foldedSetIterable (.Call (.Name "zip" p) [a,b] [] pos') X.env x=pure x:=by intro _;rfl)(hK:X.K=K:=by rfl) :
  PS X (.Assign [.Name x pos1] (.ListComp elt [⟨.Tuple [.Name t1 p1,.Name t2 p2] k tp,.Call (.Name "zip" p) [a,b] [] pos',cs,0⟩] scope pos) spos) (b0O (b2Z K ka kb ta tc te) (a1B i)):=by
 subst hK;have hx1:(relabel scope X.env).names.lookup t1=some .local:=by rw[a0M,hl1];rfl
 have hx2:(relabel scope X.env).names.lookup t2=some .local:=by rw[a0M,hl2];rfl
 intro pins s σ H D I h;refine a8V (xs:=[t1,t2]) (M:=M) (g:=a9k X.K) hc S (b2Y ka kb hg hm ha hs hs2) (λcl C s0 H0 fp=>⟨a4q hc (a1l (a2C (i:=0) nd rfl (Or.inl hx1) (Or.inr hx1)) (a1l (a2C (i:=1) nd rfl (Or.inl hx2) (Or.inr hx2)) a2Z)),hin cl C s0 H0 fp⟩) (λv σ H Q h=>a5L h) hN hix hx hw hf pins s σ H D I ?_;refine mo σ H _ _ (λvs H1 q=>?_) h;obtain⟨a',b',xs,ys,e,q1,q2,hlen,q⟩:=q;refine⟨a',b',xs,ys,e,q1,q2,λd hd=>?_⟩;obtain⟨Pv,h0,hl,hs,hd⟩:=q d hd;exact a7f (Q:=λx H1=>a1B i x σ H1 D.nx) hlen Pv h0 hl hs hd
section
variable {X:Cx}{o e:Expr}{es:List Expr}{to:TE}{t:TA}{name:Str}{apos cpos:Pos}{id:String}{r:V->List V->Hp->VK->Prop}
def tBMS(r:V->List V->Hp->VK->Prop)(to:TE)(t:TA):TE:=λσ H Q=>to σ H λx H1=>(∃z,x=.str z)/\t σ H1 λxs H2=>r x xs H2 Q
theorem a6g(slot:Slot "str" name id)(hty:typeOf (.builtin id)=pure (.type "method_descriptor"))(hm:MtR X id r)(ho:PE X o to)(ha:PA X (e::es) t)
  (hbase:attributeBase o name X.env (eval o X.env)=eval o X.env:=by rfl)
  (hfew:((backTo cpos (starEach (e::es) X.env)).all (λx=>!x.1)&&(backToKw cpos (keywordEach [] X.env)).all (λx=>x.1.isSome)
   && decide ((e::es).length+([]:List Keyword).length+(if ([]:List Keyword).isEmpty then 0 else 1)<30))=true:=by rfl)
  (hline:(apos.endLine==cpos.line)=true:=by rfl)(hs:starEach (e::es) X.env=(false,eval e X.env)::starEach es X.env:=by rfl)(hplain:(backTo cpos (starEach es X.env)).any (·.1)=false:=by rfl) :
  PE X (.Call (.Attribute o name apos) (e::es) [] cpos) (tBMS r to t):=by
 intro pins s σ H Q I h;refine b9B hbase hfew hline rfl (thn (ho pins s σ H _ I h) λv s1 ⟨x,H1,I1,r1,ty,q1⟩=>?_);obtain⟨z,rfl⟩:=ty;obtain⟨h1,h2⟩:=a8N I1 r1 (show tyV X.K "str" (.str z) H1 from rfl);refine⟨"str",id,b7c,slot,hty,h1,h2,?_⟩;have hA:=ha cpos pins s1 σ H1 _ I1 q1;rw[hs] at hA ⊢;refine b8l (by show(false||(backTo cpos (starEach es X.env)).any (·.1))=false;rw[hplain]<;>rfl) (b9a ?_);exact thn hA λus s2 ⟨vs,H2,I2,r2,q2⟩=>hm pins s2 σ H2 _ vs v us Q I2 r1 r2 q2
end
end L2
namespace K95
open PySem L2
def Bo(ns:List Int):Prop:=∀x∈ns,1<=x/\x<=B30
structure Bk(sg:List Str)(ps:List Int)(nm:List Str)(ws:List Int):Prop where
 ls:sg.length=ps.length
 ln:nm.length=ws.length
 l2:2<=ps.length
 l6:ps.length<=6
 n1:1<=ws.length
 n24:ws.length<=24
 os:∀z∈sg,Nm 1 z
 on:∀z∈nm,Nm 8 z
 ds:sg.Nodup
 dn:nm.Nodup
 bp:Bo ps
 bw:Bo ws
theorem Nm.le(h:Nm 1 z)(hm:1<=m):Nm m z:=⟨h.l1,b6R h.l8 hm,h.lo⟩
theorem Nm.len(h:Nm m z):z.length<=m:=by have:=h.l8;rw[b6H] at this;exact this
def kL:Str:=Str.ofString "letter "
def kT:Str:=Str.ofString "thing "
def sp:Str:=Str.ofString " "
def nl:Str:=Str.ofString "\n"
theorem l_kL:kL.length=7:=by decide +kernel
theorem l_kT:kT.length=6:=by decide +kernel
theorem b3A:sp.length=1:=by decide +kernel
theorem l_nl:nl.length=1:=by decide +kernel
def r0(k z:Str)(n:Int):Str:=k++z++sp++nS n
def rwS(k z:Str)(n:Int):Str:=r0 k z n++nl
def a2X(sg:List Str)(ps:List Int)(nm:List Str)(ws:List Int):List Str:=List.zipWith (rwS kL) sg ps++List.zipWith (rwS kT) nm ws
def a3n(sg:List Str)(ps:List Int)(nm:List Str)(ws:List Int):Str:=Str.join Str.empty (a2X sg ps nm ws)
theorem S_emp(z:Str):Str.empty++z=z:=by
 show(⟨#[]++z.cps⟩:Str)=z;rw[Array.empty_append]
theorem a4D(h:n<=B30):(nS n).length<=31:=by
 show(S (dg n)).length<=_;rw[a8l];exact b0n h
theorem lg(h0:1<=n)(h1:n<=B30):n.natAbs.log2<1920:=by
 rw[Nat.log2_lt (by grind)];have:B30<2 ^ 100:=by unfold B30;decide
 have h2:n.natAbs<2 ^ 100:=by grind
 exact Nat.lt_trans h2 (Nat.pow_lt_pow_right (by decide) (by decide))
theorem a4o{z:Str}(h:z.length<=200):z.length<=sizeLine:=b6y (a0j (by lia))
theorem a7E{α β γ:Type}{f:α->β->γ}{xs:List α}{ys:List β}{i:Nat}{x:α}{y:β}(hx:xs[i]?=some x)(hy:ys[i]?=some y):(List.zipWith f xs ys)[i]?=some (f x y):=by rw[b7L,hx,hy]
theorem b5E{k z:Str}(hk:k.length<=7)(hz:z.length<=8)(hn:n<=B30):(rwS k z n).length<=60:=by
 have:=a4D hn;unfold rwS r0;simp only[b7z,b3A,l_nl]
 lia
theorem b0A{k:Str}(hk:k.length<=7)(hz:∀z∈zs,Nm 8 z)(hn:Bo ns):∀r∈List.zipWith (rwS k) zs ns,r.length<=60:=λr hr=>by
 obtain⟨i,hi⟩:=b6N.mp hr;rw[b7L] at hi;cases hx:zs[i]? with
 |none=>rw[hx] at hi;cases hi
 |some z=>
  cases hy:ns[i]? with
  |none=>rw[hx,hy] at hi;cases hi
  |some n=>
   rw[hx,hy] at hi;have e:rwS k z n=r:=b6I hi;rw[<-e];exact b5E hk (hz z (b6h hx)).len (hn n (b6h hy)).2
theorem Bk.rows_le(B:Bk sg ps nm ws):(∀r∈a2X sg ps nm ws,r.length<=60)/\(a2X sg ps nm ws).length<=30:=by
 constructor
 ·intro r hr;rcases b6G.mp hr with h|h
  ·exact b0A (by rw[l_kL];decide) (λz hz=>(B.os z hz).le (by decide)) B.bp r h
  ·exact b0A (by rw[l_kT];decide) B.on B.bw r h
 ·unfold a2X;rw[b6o,b6W,b6W];have:=B.l6;have:=B.n24
  lia
theorem a6h{Z:Hp->Prop}(h:te (some x::some y :: σ) H λv H4=>∃ys,H4 d=some (.lst ys)/\ys.length<sizeLine/\Z (upd H4 d (.lst (ys++[v])))):b4p a8U te σ d x y H Z:=by
 show(if true=true then (te (some x::some y :: σ) H λv H4=>∃ys,H4 d=some (.lst ys)/\ys.length<sizeLine/\Z (upd H4 d (.lst (ys++[v])))) else Z H);rw[if_pos rfl];exact h
variable {P:Program}{w:World}{K:PySem.W.Frag}{mg:Str->Option Value}{base:Heap}{f:Addr}{fd:FuncData}
theorem b_str:bootBuiltins "str"=some (.type "str"):=by decide +kernel
abbrev NBT:List Str:=["signs","prices","names","weights","rows"]
abbrev PBT:List Str:=["signs","prices","names","weights"]
def spBT:Sp:=λvs H Q _=>∃(a b c d:Addr)(sg:List Str)(ps:List Int)(nm:List Str)(ws:List Int),vs=[.ref a,.ref b,.ref c,.ref d]/\H a=some (.tup (sg.map V.str))/\H b=some (.tup (ps.map V.int))/\H c=some (.tup (nm.map V.str))/\H d=some (.tup (ws.map V.int))/\Bk sg ps nm ws/\∀H',a0r H H'->Q (.str (a3n sg ps nm ws)) H'
theorem scBT:a0k NBT PBT (a0g sBT):=fsk
theorem ndBT1:(("sign":Str)::("price":Str)::NBT).Nodup:=by decide +kernel
theorem ndBT2:(("name":Str)::("weight":Str)::NBT).Nodup:=by decide +kernel
theorem b0B{k z:Str}(hk:k.length<=7)(hz:z.length<=8)(h1:1<=n)(hn:n<=B30):(Str.empty++k).length<=sizeLine/\(Str.empty++k++z).length<=sizeLine/\(Str.empty++k++z++sp).length<=sizeLine/\(Str.empty++k++z++sp++Str.ofString (toString n)).length<=sizeLine/\(Str.empty++k++z++sp++Str.ofString (toString n)++nl).length<=sizeLine/\Str.empty++k++z++sp++Str.ofString (toString n)++nl=rwS k z n:=by
 have:=a4D hn;rw[S_emp,nS_is (show 0<=n by lia)];refine⟨a4o (by lia),a4o ?_,a4o ?_,a4o ?_,a4o ?_,rfl⟩<;>simp only[b7z,b3A,l_nl]<;>lia
theorem ok_bt(F:Fun K "book_text" "book_text" sBT f fd)(mz:mg "zip"=none):a0I P w K mg base CX0 1 f fd PBT spBT:=by
 refine F.ok (k:=0) scBT (λvs H Q E h=>?_) (λcdv A outer s H vs Q E hr h=>?_)
 ·obtain⟨a,b,c,d,sg,ps,nm,ws,rfl,_⟩:=h;rfl
 obtain⟨a,b,c,d,sg,ps,nm,ws,rfl,ha,hb,hc,hd,B,qq⟩:=h;refine⟨_,a0c (b2q (i:=4) K true true (M:=NBT) scBT.nd rfl rfl rfl (cso (a0g sBT) NBT) ndBT1 rfl rfl (by rfl) mz (a0a (pv 0) (a0a (pv 1) (a0d))) (a1k a0E (a1k a0E a1W)) (λcl C s0 H0 fp=>⟨a0v,a6b (a1T a0t (a1T (a7z (pv 0)) (a1T a0t (a1T (a7z (pv 1)) (a1T a0t b3v)))))⟩))
   (a0c (a0J (a1N b6E PySem.F.slot_list_extend PySem.F.type_list_extend a8O (pv 4) (a0a (b1s K true true (M:=NBT) rfl (cso (a0g sBT) NBT) ndBT2 rfl rfl (by rfl) mz (a0a (pv 2) (a0a (pv 3) (a0d))) (a1k a0E (a1k a0E a1W)) (λcl C s0 H0 fp pins σ bk=>⟨a0v,a6b (a1T a0t (a1T (a7z (pv 0)) (a1T a0t (a1T (a7z (pv 1)) (a1T a0t b3v)))))⟩)) (a0d))))
   (a0f (a0o (a1N b7c b7p b7q a2e (a0t) (a0a (pv 4) (a0d)))))),?_⟩
 refine⟨_,rfl,_,rfl,a,b,_,_,rfl,SqT.of ha,SqT.of hb,by rw[b6b,b6b];exact B.ls,λl hl=>?_⟩;refine⟨λi H'=>a0r H H'/\H' l=some (.lst (((List.zipWith (rwS kL) sg ps).take i).map V.str)),⟨a0e hl _,a0b⟩,λi H' _ hP=>⟨SqT.of (hP.1 _ _ ha),SqT.of (hP.1 _ _ hb)⟩,λi x y p H' hx hy hP hp=>?_,λH1 hP=>?_⟩
 ·obtain⟨s1,hz⟩:=hP;rw[b6p] at hx hy;obtain⟨z,hz1,rfl⟩:=b6A.mp hx;obtain⟨n,hn1,rfl⟩:=b6A.mp hy;have Z:=B.os z (b6h hz1);have N:=B.bp n (b6h hn1);obtain⟨l1,l2,l3,l4,l5,e5⟩:=b0B (k:=kL) (z:=z) (n:=n) (by rw[l_kL];decide) (b6R Z.len (by decide)) N.1 N.2;have il:i<6:=by have:=(b6d.mp hn1).1;have:=B.l6;lia
  refine a6h ⟨_,rfl,l1,_,rfl,.inl ⟨_,rfl,a4o (by have:=Z.len;lia),_,rfl,l2,_,rfl,l3,_,rfl,.inr ⟨_,rfl,lg N.1 N.2,_,rfl,l4,_,rfl,l5,l5,?_⟩⟩⟩;refine⟨_,a0e hp _ _ _ hz,?_,a0l hl (s1.trans (a0e hp _)),?_⟩
  ·rw[b6b,b6l];exact a0j (by grind)
  ·rw[a0b,b6s,a7E hz1 hn1,b6g,<-e5];rfl
 obtain⟨s1,g1⟩:=hP;have eT:(List.zipWith (rwS kL) sg ps).take (sg.map V.str).length=List.zipWith (rwS kL) sg ps:=b8m (by rw[b6W,b6b];lia);rw[eT] at g1;have ha1:=s1 _ _ ha;have hc1:=s1 _ _ hc;have hd1:=s1 _ _ hd;refine⟨_,rfl,.inl ⟨rfl,_,SqL.of g1⟩,_,rfl,_,rfl,c,d,_,_,rfl,SqT.of hc1,SqT.of hd1,by rw[b6b,b6b];exact B.ln,λl2 hl2=>?_⟩;refine⟨λi H'=>a0r H1 H'/\H' l2=some (.lst (((List.zipWith (rwS kT) nm ws).take i).map V.str)),⟨a0e hl2 _,a0b⟩,λi H' _ hP=>⟨SqT.of (hP.1 _ _ hc1),SqT.of (hP.1 _ _ hd1)⟩,λi x y p H' hx hy hP hp=>?_,λH2 hP=>?_⟩
 ·obtain⟨s2,hz⟩:=hP;rw[b6p] at hx hy;obtain⟨z,hz1,rfl⟩:=b6A.mp hx;obtain⟨n,hn1,rfl⟩:=b6A.mp hy;have Z:=B.on z (b6h hz1);have N:=B.bw n (b6h hn1);obtain⟨l1,l2,l3,l4,l5,e5⟩:=b0B (k:=kT) (z:=z) (n:=n) (by rw[l_kT];decide) Z.len N.1 N.2;have il:i<24:=by have:=(b6d.mp hn1).1;have:=B.n24;lia
  refine a6h ⟨_,rfl,l1,_,rfl,.inl ⟨_,rfl,a4o (by have:=Z.len;lia),_,rfl,l2,_,rfl,l3,_,rfl,.inr ⟨_,rfl,lg N.1 N.2,_,rfl,l4,_,rfl,l5,l5,?_⟩⟩⟩;refine⟨_,a0e hp _ _ _ hz,?_,a0l hl2 (s2.trans (a0e hp _)),?_⟩
  ·rw[b6b,b6l];exact a0j (by grind)
  ·rw[a0b,b6s,a7E hz1 hn1,b6g,<-e5];rfl
 obtain⟨s2,g2⟩:=hP;have eT2:(List.zipWith (rwS kT) nm ws).take (nm.map V.str).length=List.zipWith (rwS kT) nm ws:=b8m (by rw[b6W,b6b];omega);rw[eT2] at g2;have R:=B.rows_le;have el:(List.zipWith (rwS kL) sg ps).map V.str++(List.zipWith (rwS kT) nm ws).map V.str=(a2X sg ps nm ws).map V.str:=by unfold a2X;rw[b6g]
 refine⟨l,l2,_,_,rfl,rfl,s2 _ _ g1,g2,?_,?_⟩
 ·have e2:=b7d List.length el;rw[b6o] at e2;rw[e2,b6b];exact b6y (a0j (by lia))
 rw[el];refine⟨rfl,_,rfl,Str.empty,l,a2X sg ps nm ws,60,rfl,rfl,a0b,R.1,?_,qq _ (a0l hl (s1.trans s2))⟩;have:Str.empty.length=0:=rfl;rw[this]
 lia
abbrev NTx:List Str:=["book","rows","k"]
def spTx:Sp:=λvs H Q _=>∃(a:Addr)(sg:List Str)(ps:List Int)(nm:List Str)(ws:List Int),vs=[.ref a]/\b5o H a sg ps nm ws/\Bk sg ps nm ws/\∀H',a0r H H'->Q (.str (a3n sg ps nm ws)) H'
theorem scTx:a0k NTx ["book"] (a0g b2l):=fsk
theorem ndTx:(("row":Str)::NTx).Nodup:=by decide +kernel
theorem b0C{k z:Str}(hk:k.length<=7)(hz:z.length<=8)(h1:1<=n)(hn:n<=B30):k.length+z.length<=sizeLine/\(k++z).length+sp.length<=sizeLine/\(k++z++sp).length+(Str.ofString (toString n)).length<=sizeLine/\k++z++sp++Str.ofString (toString n)=r0 k z n/\(r0 k z n).length<=55:=by
 have:=a4D hn;have ok:∀{m:Nat},m<=200->m<=sizeLine:=λh=>b6y (a0j (by lia));rw[nS_is (show 0<=n by omega)];unfold r0;refine⟨ok (by omega),ok ?_,ok ?_,rfl,?_⟩<;>simp only[b7z,b3A]<;>omega
theorem b5F(sg:List Str)(ps:List Int)(nm:List Str)(ws:List Int):(List.zipWith (r0 kL) sg ps++List.zipWith (r0 kT) nm ws).map (·++nl)=a2X sg ps nm ws:=by
 unfold a2X;rw[b6g,b9N,b9N];rfl
theorem ok_tx(F:Fun K "_law_text" "_law_text" b2l f fd)(ml:mg "len"=none)(mr:mg "range"=none)(ms:mg "str"=none):a0I P w K mg base CX0 1 f fd ["book"] spTx:=by
 refine F.ok (k:=0) scTx (λvs H Q E h=>?_) (λcdv A outer s H vs Q E hr h=>?_)
 ·obtain⟨a,sg,ps,nm,ws,rfl,_⟩:=h;rfl
 obtain⟨a,sg,ps,nm,ws,rfl,⟨b1,b2,b3,b4,ha,h1,h2,h3,h4⟩,B,qq⟩:=h;refine⟨_,a0c (psA (i:=1) scTx (a1p (a0d)))
   (a0c (a1d b6K rfl (a1u (by rfl) mr (a0a (pln ml (pxA a0D (pv 0) (a0h))) (a0d))) (pgA (i:=2) scTx) (a0f (a0J (a1N b6E b6S b6T a1b (pv 1) (a0a (a0q a0F (a0q a0F (a0q a0F (a0t) (pxA a0D (pxA a0D (pv 0) (a0h)) (pv 2))) (a0t)) (a0w a3h (by rfl) ms b_str (a0a (pxA a0D (pxA a0D (pv 0) (a0h)) (pv 2)) (a0d)))) (a0d))))))
   (a0c (a1d b6K rfl (a1u (by rfl) mr (a0a (pln ml (pxA a0D (pv 0) (a0h))) (a0d))) (pgA (i:=2) scTx) (a0f (a0J (a1N b6E b6S b6T a1b (pv 1) (a0a (a0q a0F (a0q a0F (a0q a0F (a0t) (pxA a0D (pxA a0D (pv 0) (a0h)) (pv 2))) (a0t)) (a0w a3h (by rfl) ms b_str (a0a (pxA a0D (pxA a0D (pv 0) (a0h)) (pv 2)) (a0d)))) (a0d))))))
   (a0f (a0o (a1N b7c b7p b7q a2e (a0t) (a0a (a0Y (M:=NTx) rfl (cso (a0g b2l) NTx) ndTx rfl (pv 1) a0E (λcl C s0 H0 fp=>⟨a0v,a0q a0F (pv 0) (a0t)⟩)) (a0d))))))),?_⟩
 refine⟨(by show 0<=sizeLine;decide),λl hl=>?_⟩;have s1:=a0e hl (.lst []);have g1:upd H l (.lst []) l=some (.lst []):=a0b;generalize upd H l (.lst [])=H1 at s1 g1 ⊢;have i0:atI [V.ref b1,.ref b2,.ref b3,.ref b4] 0=some (.ref b1):=rfl;have i1:atI [V.ref b1,.ref b2,.ref b3,.ref b4] 1=some (.ref b2):=rfl;have i2:atI [V.ref b1,.ref b2,.ref b3,.ref b4] 2=some (.ref b3):=rfl;have i3:atI [V.ref b1,.ref b2,.ref b3,.ref b4] 3=some (.ref b4):=rfl;have at_s:∀{zs:List Str}{k:Nat}{z:Str},zs[k]?=some z->atI (zs.map V.str) (k:Int)=some (.str z):=λh=>a1M (by rw[b6p,h];rfl);have l6:=B.l6;have n24:=B.n24;refine⟨_,rfl,a,_,_,_,rfl,rfl,SqT.of (s1 _ _ ha),i0,b1,_,rfl,.inr (SqT.of (s1 _ _ h1)),_,rfl,by rw[b6b,B.ls];simp,by rw[b6b,B.ls];lia,?_⟩;have e6:(((sg.map V.str).length:Nat):Int).toNat=sg.length:=by rw[b6b];simp
 rw[e6];refine a0Z (λi σ H'=>a0r H H'/\H' l=some (.lst (((List.zipWith (r0 kL) sg ps).take i).map V.str))/\∃x2:Option V,σ=[some (.ref a),some (.ref l),x2]) ⟨s1,g1,_,rfl⟩ (λi σ H2 hi hP=>?_) (λσ H2 hP=>?_)
 ·obtain⟨s2,hz,x2,rfl⟩:=hP;have ei:(0:Int)+(i:Int)=(i:Int):=by simp
  rw[ei];have hz1:sg[i]?=some sg[i]:=b6f hi;have hn1:ps[i]?=some (ps[i]'(by rw[<-B.ls];exact hi)):=b6f _;have Z:=B.os _ (b6h hz1);have N:=B.bp _ (b6h hn1);obtain⟨l1,l2,l3,e4,_⟩:=b0C (k:=kL) (by rw[l_kL];decide) (b6R Z.len (by decide)) N.1 N.2;refine⟨_,rfl,.inl ⟨rfl,_,SqL.of hz⟩,_,rfl,a,_,_,_,rfl,rfl,SqT.of (s2 _ _ ha),i0,_,rfl,b1,_,_,_,rfl,rfl,SqT.of (s2 _ _ h1),at_s hz1,_,_,rfl,rfl,l1,_,_,rfl,rfl,l2,_,rfl,a,_,_,_,rfl,rfl,SqT.of (s2 _ _ ha),i1,_,rfl,b2,_,_,_,rfl,rfl,SqT.of (s2 _ _ h2),a4u hn1,_,rfl,lg N.1 N.2,_,_,rfl,rfl,l3,l,_,_,rfl,rfl,hz,?_,a0l hl s2,?_,_,rfl⟩
  ·rw[b6b,b6l];exact a0j (by have:=B.ls;grind)
  ·rw[a0b,b6s,a7E hz1 hn1,b6g,<-e4];rfl
 obtain⟨s2,g2,x2,rfl⟩:=hP;rw[b8m (show(List.zipWith (r0 kL) sg ps).length<=sg.length by rw[b6W];omega)] at g2;refine⟨_,rfl,a,_,_,_,rfl,rfl,SqT.of (s2 _ _ ha),i2,b3,_,rfl,.inr (SqT.of (s2 _ _ h3)),_,rfl,by rw[b6b,B.ln];simp,by rw[b6b,B.ln];lia,?_⟩;have e7:(((nm.map V.str).length:Nat):Int).toNat=nm.length:=by rw[b6b];simp
 rw[e7];have ln1:(List.zipWith (r0 kL) sg ps).length<=6:=by rw[b6W];grind
 refine a0Z (λi σ H'=>a0r H H'/\H' l=some (.lst ((List.zipWith (r0 kL) sg ps++(List.zipWith (r0 kT) nm ws).take i).map V.str))/\∃x2:Option V,σ=[some (.ref a),some (.ref l),x2]) ⟨s2,by rw[c0O,b7e];exact g2,_,rfl⟩ (λi σ H3 hi hP=>?_) (λσ H3 hP=>?_)
 ·obtain⟨s3,hz,x2,rfl⟩:=hP;have ei:(0:Int)+(i:Int)=(i:Int):=by simp
  rw[ei];have hz1:nm[i]?=some nm[i]:=b6f hi;have hn1:ws[i]?=some (ws[i]'(by rw[<-B.ln];exact hi)):=b6f _;have Z:=B.on _ (b6h hz1);have N:=B.bw _ (b6h hn1);obtain⟨l1,l2,l3,e4,_⟩:=b0C (k:=kT) (by rw[l_kT];decide) Z.len N.1 N.2;refine⟨_,rfl,.inl ⟨rfl,_,SqL.of hz⟩,_,rfl,a,_,_,_,rfl,rfl,SqT.of (s3 _ _ ha),i2,_,rfl,b3,_,_,_,rfl,rfl,SqT.of (s3 _ _ h3),at_s hz1,_,_,rfl,rfl,l1,_,_,rfl,rfl,l2,_,rfl,a,_,_,_,rfl,rfl,SqT.of (s3 _ _ ha),i3,_,rfl,b4,_,_,_,rfl,rfl,SqT.of (s3 _ _ h4),a4u hn1,_,rfl,lg N.1 N.2,_,_,rfl,rfl,l3,l,_,_,rfl,rfl,hz,?_,a0l hl s3,?_,_,rfl⟩
  ·rw[b6b,b6o,b6l];exact a0j (by have:=B.ln;grind)
  ·rw[a0b,b6s,a7E hz1 hn1,<-b8B,b6g (l₂:=(some (r0 kT nm[i] _)).toList),<-e4];rfl
 obtain⟨s3,g3,x2,rfl⟩:=hP;rw[b8m (show(List.zipWith (r0 kT) nm ws).length<=nm.length by rw[b6W];grind)] at g3;have ln2:(List.zipWith (r0 kL) sg ps++List.zipWith (r0 kT) nm ws).length<=30:=by rw[b6o,b6W,b6W];omega
 have R:=B.rows_le;have er:=b5F sg ps nm ws;generalize List.zipWith (r0 kL) sg ps++List.zipWith (r0 kT) nm ws=rs at g3 ln2 er;have rl:∀r∈rs,(r++nl).length<=60:=λr hr=>R.1 _ (by rw[<-er];exact b6x.mpr ⟨r,hr,rfl⟩);refine⟨rfl,_,rfl,l,_,rfl,SqL.of g3,λd hd=>?_⟩;refine⟨λi H'=>a0r H3 H'/\H' d=some (.lst (((rs.take i).map (·++nl)).map V.str)),⟨a0e hd _,a0b⟩,λi H' _ hP=>SqL.of (hP.1 _ _ g3),λi x H' hx hP=>?_,λH4 hP=>?_⟩
 ·obtain⟨s4,hz⟩:=hP;rw[b6p] at hx;obtain⟨r,hr1,rfl⟩:=b6A.mp hx;have il:=(b6d.mp hr1).1;have lr:=rl r (b6h hr1);rw[b7z] at lr;refine a0u ⟨_,rfl,_,_,rfl,rfl,b6y (a0j (by show r.length+nl.length<=1000;lia)),_,hz,?_,a0l hd s4,?_⟩
  ·rw[b6b,b6b,b6l];exact a0j (by grind)
  ·rw[a0b,b6s,hr1,b6g,b6g];rfl
 obtain⟨s4,g4⟩:=hP;rw[b6b,b6v,er] at g4;refine⟨Str.empty,d,a2X sg ps nm ws,60,rfl,rfl,g4,R.1,?_,qq _ (s3.trans s4)⟩;have:Str.empty.length=0:=rfl;rw[this]
 lia
def figs:Str:=Str.ofString "0123456789"
theorem b3B:figs.cps.toList=(List.range 10).map (48+·):=by decide +kernel
theorem b2r(h:97<=c/\c<=122):(!(Builtin.Str.occurrences alpha ⟨#[c]⟩ 0 alpha.length 1).isEmpty)=true:=by
 rw[c0y,b0u];exact b6i (b6x.mpr ⟨c-97,b6V.mpr (by omega),by grind⟩)
theorem b5G(h:48<=c/\c<=57):(!(Builtin.Str.occurrences figs ⟨#[c]⟩ 0 figs.length 1).isEmpty)=true:=by
 rw[c0y,b3B];exact b6i (b6x.mpr ⟨c-48,b6V.mpr (by omega),by grind⟩)
theorem a6i(h:∀c∈z.cps.toList,c<128):Asc z:=by
 unfold Asc;rw[Array.all_eq_true'];intro c hc;exact b6i (h c (by simpa using hc))
theorem a3v(n:Nat):(List.replicate n true).all id=true:=by rw[b7i];intro z hz;rw[List.eq_of_mem_replicate hz];rfl
theorem b2s(c:Nat):(!(Builtin.Str.occurrences figs ⟨#[c]⟩ 0 figs.length 1).isEmpty)=decide (48<=c/\c<=57):=by
 rw[c0y,b3B];refine b9O.mpr ⟨λh=>?_,λh=>b6x.mpr ⟨c-48,b6V.mpr (by omega),by omega⟩⟩;obtain⟨k,hk,rfl⟩:=b6x.mp h;have:=b6V.mp hk
 lia
theorem a6R(h:n<=5000):n<=sizeLine:=b6R h (by decide)
theorem lt5(h:n<=5000):n<sizeLine:=b9q h (by decide)
def dgB(l:List Nat):Bool:=l.all λc=>decide (48<=c/\c<=57)
def nuB(z:Str):Bool:=decide (1<=z.length)&&(decide (z.length<=40)&&(dgB z.cps.toList&&(decide (z=Str.ofString "0")||decide (z.cps.toList.getD 0 0≠48))))
abbrev NIn:List Str:=["text","most"]
def spIn:Sp:=λvs H Q _=>∃(z:Str)(m:Nat),vs=[.str z,.int m]/\m<=8/\Nm m z/\∀H',a0r H H'->Q (.bl true) H'
theorem scIn:a0k NIn NIn (a0g sIN):=fsk
theorem ndIn:(("sign":Str)::NIn).Nodup:=by decide +kernel
theorem ok_in(F:Fun K "is_name" "is_name" sIN f fd)(gS:mg "SIGNS"=some (.str alpha tS))(ml:mg "len"=none)(ma:mg "all"=none):a0I P w K mg base CX0 1 f fd NIn spIn:=by
 refine F.ok (k:=0) scIn (λvs H Q E h=>?_) (λcdv A outer s H vs Q E hr h=>?_)
 ·obtain⟨z,m,rfl,_⟩:=h;rfl
 obtain⟨z,m,rfl,m8,N,qq⟩:=h;refine⟨_,a0f (a0o (a2i (a2r a2j a2j a0h (a0C a1f (by rfl) ml b7E (a0a (pv 0) (a0d))) (pv 1)) (a2x (a0C (a1E rfl) (by rfl) ma a4k (a0a (a1L (M:=NIn) rfl (cso (a0g sIN) NIn) ndIn rfl (pv 0) a0E (λcl C s0 H0 fp=>⟨a0v,a0H a3x (pv 0) (a2a (v:=.str alpha) (by rfl) gS ⟨_,rfl⟩) rfl⟩)) (a0d)))))),?_⟩;have e:z.cps.toList.length=z.length:=b6H;have l1:=N.l1;have l8:=N.l8;rw[e] at l1 l8;refine⟨_,rfl,z,rfl,a4o (by lia),_,_,rfl,rfl,_,rfl,?_⟩;rw[if_pos (b6i (by lia))];refine⟨_,rfl,_,_,rfl,rfl,_,rfl,?_⟩;rw[if_pos (b6i (by lia))];refine⟨_,rfl,z,rfl,a6i (λc hc=>by have:=N.lo c hc;lia),λd hd=>?_⟩;refine⟨λi H'=>a0r H H'/\H' d=some (.lst ((List.replicate i true).map V.bl)),⟨a0e hd _,a0b⟩,λi c H' hc hP=>?_,λH' hP=>?_⟩
 ·obtain⟨s5,hz⟩:=hP;have il:=(b6d.mp hc).1;refine a0u ⟨_,rfl,_,_,rfl,rfl,_,hz,?_,a0l hd s5,?_⟩
  ·rw[b6b,b7o];exact a0j (by lia)
  ·rw[a0b,b2r (N.lo c (b6h hc)),b9d,b6g];rfl
 ·obtain⟨s5,hz⟩:=hP;refine⟨d,_,rfl,hz,?_⟩;rw[a3v];exact qq H' s5
abbrev NNu:List Str:=["text"]
def spNu:Sp:=λvs H Q _=>∃n:Int,vs=[.str (nS n)]/\1<=n/\n<=B30/\∀H',a0r H H'->Q (.bl true) H'
theorem scNu:a0k NNu NNu (a0g b5Z):=fsk
theorem ndNu:(("figure":Str)::NNu).Nodup:=by decide +kernel
theorem b5w(F:Fun K "is_number" "is_number" b5Z f fd)(gF:mg "FIGURES"=some (.str figs tF))(ml:mg "len"=none)(ma:mg "all"=none):a0I P w K mg base CX0 1 f fd NNu spNu:=by
 refine F.ok (k:=0) scNu (λvs H Q E h=>?_) (λcdv A outer s H vs Q E hr h=>?_)
 ·obtain⟨n,rfl,_⟩:=h;rfl
 obtain⟨n,rfl,n1,n30,qq⟩:=h;refine⟨_,a0c (a0z (PW.pt (a4g (a1o (a2M a2j a2j a0h (a0C a1f (by rfl) ml b7E (a0a (pv 0) (a0d))) a0h)) (a2w (a1o (a1x (a0C (a1E rfl) (by rfl) ma a4k (a0a (a1L (M:=NNu) rfl (cso (a0g b5Z) NNu) ndNu rfl (pv 0) a0E (λcl C s0 H0 fp=>⟨a0v,a0H a3x (pv 0) (a2a (v:=.str figs) (by rfl) gF ⟨_,rfl⟩) rfl⟩)) (a0d)))))))) (a0f (a0o a6t)) (a0n))
   (a0f (a0o (b3R (a0H a0U (pv 0) a0t (nomark _)) (a2x (a0H a7L (pxA a5E (pv 0) (a0h)) a0t (nomark _)))))),?_⟩
 have e:(nS n).length=(dg n).length:=a8l _;have l1:=b3x n;have l31:=b0n n30;have ec:(nS n).cps.toList=dg n:=b0k _;refine⟨_,rfl,nS n,rfl,a4o (by lia),_,_,rfl,rfl,_,rfl,?_⟩;rw[if_pos (b6i (by lia))];refine⟨_,_,rfl,rfl,_,rfl,?_⟩;rw[b6i (by lia)];refine a1q ?_;refine⟨_,rfl,nS n,rfl,a6i (λc hc=>by rw[ec] at hc;have:=a7A n c hc;lia),λd hd=>?_⟩;refine⟨λi H'=>a0r H H'/\H' d=some (.lst ((List.replicate i true).map V.bl)),⟨a0e hd _,a0b⟩,λi c H' hc hP=>?_,λH' hP=>?_⟩
 ·obtain⟨s5,hz⟩:=hP;rw[ec] at hc;have il:=(b6d.mp hc).1;refine a0u ⟨_,rfl,_,_,rfl,rfl,_,hz,?_,a0l hd s5,?_⟩
  ·rw[b6b,b7o];exact a0j (by lia)
  ·rw[a0b,b5G (a7A n c (b6h hc)),b9d,b6g];rfl
 ·obtain⟨s5,hz⟩:=hP;refine⟨d,_,rfl,hz,_,rfl,?_⟩;rw[a3v];refine a1q ?_;obtain⟨c0,h0⟩:∃c0,(dg n)[0]?=some c0:=⟨(dg n)[0]'(by assumption),b6f _⟩
  have f0:=b2j n1;rw[b6q,h0] at f0;have f0:c0≠48:=f0;have a0:atI (nS n).cps.toList 0=some c0:=by rw[ec];exact a1M (j:=0) h0
  have ne:nS n≠Str.ofString "0":=λz=>by
   have:(nS n).cps.toList=(Str.ofString "0").cps.toList:=b7d (λz:Str=>z.cps.toList) z;rw[ec] at this;rw[this] at h0;exact f0 (b6I h0).symm
  refine⟨_,rfl,rfl,_,rfl,?_⟩;rw[b6w (λz=>ne (V.str.inj z))];rw[if_neg b6u];refine⟨_,rfl,nS n,_,c0,rfl,rfl,a4o (by omega),a0,rfl,?_⟩;have ne2:¬V.str ⟨#[c0]⟩=V.str (Str.ofString "0"):=λz=>by
   have:=b7d (λz:Str=>z.cps.toList) (V.str.inj z);exact f0 (b7X this).1
  rw[b6w ne2];exact qq H' s5
def spNx:Sp:=λvs H Q _=>∃z:Str,vs=[.str z]/\Asc z/\z.length<=4500/\∀H',a0r H H'->Q (.bl (nuB z)) H'
theorem ok_nx(F:Fun K "is_number" "is_number" b5Z f fd)(gF:mg "FIGURES"=some (.str figs tF))(ml:mg "len"=none)(ma:mg "all"=none):a0I P w K mg base CX0 1 f fd NNu spNx:=by
 refine F.ok (k:=0) scNu (λvs H Q E h=>?_) (λcdv A outer s H vs Q E hr h=>?_)
 ·obtain⟨z,rfl,_⟩:=h;rfl
 obtain⟨z,rfl,as,l5,qq⟩:=h;refine⟨_,a0c (a0z (PW.pt (a4g (a1o (a2M a2j a2j a0h (a0C a1f (by rfl) ml b7E (a0a (pv 0) (a0d))) a0h)) (a2w (a1o (a1x (a0C (a1E rfl) (by rfl) ma a4k (a0a (a1L (M:=NNu) rfl (cso (a0g b5Z) NNu) ndNu rfl (pv 0) a0E (λcl C s0 H0 fp=>⟨a0v,a0H a3x (pv 0) (a2a (v:=.str figs) (by rfl) gF ⟨_,rfl⟩) rfl⟩)) (a0d)))))))) (a0f (a0o a6t)) (a0n))
   (a0f (a0o (b3R (a0H a0U (pv 0) a0t (nomark _)) (a2x (a0H a7L (pxA a5E (pv 0) (a0h)) a0t (nomark _)))))),?_⟩
 unfold nuB at qq;have e:z.cps.toList.length=z.length:=b6H;refine⟨_,rfl,z,rfl,a6R (by lia),_,_,rfl,rfl,_,rfl,a2c (λc=>?_) (λc=>?_)⟩
 case' refine_2=>
  rw[b6w (show ¬ 1<=z.length by intro h;exact c (b6i (by lia))),b8G] at qq;exact⟨_,rfl,a4S (qq H (a0r.refl _))⟩
 have c:=b6B c;rw[b6i (show 1<=z.length by lia),b9w] at qq;refine⟨_,_,rfl,rfl,_,rfl,?_⟩;by_cases c40:z.length<=40
 case neg=>
  rw[b6w c40,b8G] at qq;rw[b6w (by lia)];exact a4S (qq H (a0r.refl _))
 rw[b6i c40,b9w] at qq;rw[b6i (by lia)];refine a1q ?_;refine⟨_,rfl,z,rfl,as,λd hd=>?_⟩;refine⟨λi H'=>a0r H H'/\H' d=some (.lst (((z.cps.toList.take i).map λc=>decide (48<=c/\c<=57)).map V.bl)),⟨a0e hd _,a0b⟩,λi c H' hc hP=>?_,λH' hP=>?_⟩
 ·obtain⟨s5,hz⟩:=hP;have il:=(b6d.mp hc).1;refine a0u ⟨_,rfl,_,_,rfl,rfl,_,hz,?_,a0l hd s5,?_⟩
  ·rw[b6b,b6b,b6l];exact lt5 (by grind)
  ·rw[a0b,b2s,b6s,hc,b6g,b6g];rfl
 ·obtain⟨s5,hz⟩:=hP;rw[show z.cps.size=z.cps.toList.length from b6H.symm,b6v] at hz;refine⟨d,_,rfl,hz,_,rfl,?_⟩;have ed:(z.cps.toList.map λc=>decide (48<=c/\c<=57)).all id=dgB z.cps.toList:=by rw[c0p];rfl
  rw[ed];cases hD:dgB z.cps.toList with
  |false=>
   rw[hD,b8G] at qq;exact a4S (qq H' s5)
  |true=>
  rw[hD,b9w] at qq;refine a1q ?_;refine⟨_,rfl,rfl,_,rfl,a2c (λc0=>?_) (λc0=>?_)⟩
  ·have c0:z=Str.ofString "0":=V.str.inj (b6B c0);rw[b6i c0,c0L] at qq;exact qq H' s5
  ·have c1:¬z=Str.ofString "0":=λh=>c0 (b6i (b7d V.str h));rw[b6w c1,c0B] at qq;obtain⟨x0,h0⟩:∃x0,z.cps.toList[0]?=some x0:=⟨z.cps.toList[0]'(by lia),b6f _⟩
   rw[b6q,h0] at qq;refine⟨_,rfl,z,_,x0,rfl,rfl,a6R (by lia),a1M (j:=0) h0,rfl,?_⟩;have e2:(!decide (V.str ⟨#[x0]⟩=V.str (Str.ofString "0")))=decide ((some x0).getD 0≠48):=by
    by_cases e3:x0=48
    ·subst e3;decide +kernel
    ·have:¬V.str ⟨#[x0]⟩=V.str (Str.ofString "0"):=λh=>e3 (b7X (b7d (λz:Str=>z.cps.toList) (V.str.inj h))).1;rw[b6w this];exact(b6i (show(some x0).getD 0≠48 from e3)).symm
   show Q (.bl (!decide (V.str ⟨#[x0]⟩=V.str (Str.ofString "0")))) H';rw[e2];exact qq H' s5
abbrev NRr:List Str:=["row"]
def tL:Str:=Str.ofString "letter"
def tT:Str:=Str.ofString "thing"
def spRr(k:Str)(m:Nat):Sp:=λvs H Q _=>∃(l:Addr)(k' z:Str)(n:Int),vs=[.ref l]/\H l=some (.lst [.str k',.str z,.str (nS n)])/\(k'=k->Nm m z)/\1<=n/\n<=B30/\∀H',a0r H H'->Q (.bl (decide (k'=k))) H'
theorem scLr:a0k NRr NRr (a0g sILR):=fsk
theorem scTr:a0k NRr NRr (a0g sITR):=fsk
theorem ok_lr(F:Fun K "is_letter_row" "is_letter_row" sILR f fd)(GN:Fns P w K mg base NIn "is_name" spIn 1)(GU:Fns P w K mg base NNu "is_number" spNu 1)(ml:mg "len"=none):a0I P w K mg base CX0 2 f fd NRr (spRr tL 1):=by
 refine F.ok (k:=1) scLr (λvs H Q E h=>?_) (λcdv A outer s H vs Q E hr h=>?_)
 ·obtain⟨l,k',z,n,rfl,_⟩:=h;rfl
 obtain⟨l,k',z,n,rfl,hl,N,n1,n30,qq⟩:=h;refine⟨_,a0f (a0o (a2i (a0H a0U (pln ml (pv 0)) a0h (nomark _)) (a2i (a0H a0U (pxA a0m (pv 0) (a0h)) a0t (nomark _)) (a2i (pcF GN hr (a0a (pxA a0m (pv 0) (a0h)) (a0a (a0h) (a0d)))) (a2x (pcF GU hr (a0a (pxA a0m (pv 0) (a0h)) (a0d)))))))),?_⟩;have i0:atI [V.str k',.str z,.str (nS n)] 0=some (.str k'):=rfl;have i1:atI [V.str k',.str z,.str (nS n)] 1=some (.str z):=rfl;have i2:atI [V.str k',.str z,.str (nS n)] 2=some (.str (nS n)):=rfl;refine⟨_,rfl,l,_,rfl,.inl (SqL.of hl),rfl,_,rfl,?_⟩;rw[if_pos (b6i (show V.int (([V.str k',V.str z,V.str (nS n)].length:Nat):Int)=V.int 3 from rfl))];refine⟨_,rfl,l,_,_,_,rfl,rfl,SqL.of hl,i0,rfl,_,rfl,a2c (λc=>?_) (λc=>?_)⟩
 ·have e:k'=tL:=V.str.inj (b6B c);rw[b6i e] at qq;refine⟨_,rfl,l,_,_,_,rfl,rfl,SqL.of hl,i1,z,1,rfl,by decide,N e,λH1 s1=>?_⟩;refine⟨_,rfl,a4S ⟨_,rfl,l,_,_,_,rfl,rfl,SqL.of (s1 _ _ hl),i2,n,rfl,n1,n30,λH2 s2=>qq H2 (s1.trans s2)⟩⟩
 ·have e0:¬k'=tL:=λz=>c (b6i (b7d V.str z));rw[b6w e0] at qq;exact qq H (a0r.refl _)
theorem ok_tr(F:Fun K "is_thing_row" "is_thing_row" sITR f fd)(GN:Fns P w K mg base NIn "is_name" spIn 1)(GU:Fns P w K mg base NNu "is_number" spNu 1)(ml:mg "len"=none):a0I P w K mg base CX0 2 f fd NRr (spRr tT 8):=by
 refine F.ok (k:=1) scTr (λvs H Q E h=>?_) (λcdv A outer s H vs Q E hr h=>?_)
 ·obtain⟨l,k',z,n,rfl,_⟩:=h;rfl
 obtain⟨l,k',z,n,rfl,hl,N,n1,n30,qq⟩:=h;refine⟨_,a0f (a0o (a2i (a0H a0U (pln ml (pv 0)) a0h (nomark _)) (a2i (a0H a0U (pxA a0m (pv 0) (a0h)) a0t (nomark _)) (a2i (pcF GN hr (a0a (pxA a0m (pv 0) (a0h)) (a0a (a0h) (a0d)))) (a2x (pcF GU hr (a0a (pxA a0m (pv 0) (a0h)) (a0d)))))))),?_⟩;have i0:atI [V.str k',.str z,.str (nS n)] 0=some (.str k'):=rfl;have i1:atI [V.str k',.str z,.str (nS n)] 1=some (.str z):=rfl;have i2:atI [V.str k',.str z,.str (nS n)] 2=some (.str (nS n)):=rfl;refine⟨_,rfl,l,_,rfl,.inl (SqL.of hl),rfl,_,rfl,?_⟩;rw[if_pos (b6i (show V.int (([V.str k',V.str z,V.str (nS n)].length:Nat):Int)=V.int 3 from rfl))];refine⟨_,rfl,l,_,_,_,rfl,rfl,SqL.of hl,i0,rfl,_,rfl,a2c (λc=>?_) (λc=>?_)⟩
 ·have e:k'=tT:=V.str.inj (b6B c);rw[b6i e] at qq;refine⟨_,rfl,l,_,_,_,rfl,rfl,SqL.of hl,i1,z,8,rfl,by decide,N e,λH1 s1=>?_⟩;refine⟨_,rfl,a4S ⟨_,rfl,l,_,_,_,rfl,rfl,SqL.of (s1 _ _ hl),i2,n,rfl,n1,n30,λH2 s2=>qq H2 (s1.trans s2)⟩⟩
 ·have e0:¬k'=tT:=λz=>c (b6i (b7d V.str z));rw[b6w e0] at qq;exact qq H (a0r.refl _)
abbrev Tr:=Str×Str×Int
def lnS(t:Tr):Str:=r0 (t.1++sp) t.2.1 t.2.2
def trs(sg:List Str)(ps:List Int)(nm:List Str)(ws:List Int):List Tr:=List.zipWith (λz n=>(tL,z,n)) sg ps++List.zipWith (λz n=>(tT,z,n)) nm ws
structure GT(t:Tr):Prop where
 k:(t.1=tL/\Nm 1 t.2.1)\/(t.1=tT/\Nm 8 t.2.1)
 n1:1<=t.2.2
 n30:t.2.2<=B30
theorem kL_is:kL=tL++sp:=by decide +kernel
theorem kT_is:kT=tT++sp:=by decide +kernel
theorem tLT:tL≠tT:=by decide +kernel
theorem a5q(B:Bk sg ps nm ws):∀t∈trs sg ps nm ws,GT t:=λt ht=>by
 rcases b6G.mp ht with h|h
 ·obtain⟨i,hi⟩:=b6N.mp h;rw[b7L] at hi;cases hx:sg[i]? with
  |none=>rw[hx] at hi;cases hi
  |some z=>
   cases hy:ps[i]? with
   |none=>rw[hx,hy] at hi;cases hi
   |some n=>
    rw[hx,hy] at hi;rw[<-b6I hi];exact⟨.inl ⟨rfl,B.os z (b6h hx)⟩,(B.bp n (b6h hy)).1,(B.bp n (b6h hy)).2⟩
 ·obtain⟨i,hi⟩:=b6N.mp h;rw[b7L] at hi;cases hx:nm[i]? with
  |none=>rw[hx] at hi;cases hi
  |some z=>
   cases hy:ws[i]? with
   |none=>rw[hx,hy] at hi;cases hi
   |some n=>
    rw[hx,hy] at hi;rw[<-b6I hi];exact⟨.inr ⟨rfl,B.on z (b6h hx)⟩,(B.bw n (b6h hy)).1,(B.bw n (b6h hy)).2⟩
theorem b2t(sg:List Str)(ps:List Int)(nm:List Str)(ws:List Int):a2X sg ps nm ws=(trs sg ps nm ws).map λt=>lnS t++nl:=by
 unfold a2X trs;rw[b6g,b9N,b9N];unfold lnS;dsimp only;rw[<-kL_is,<-kT_is];rfl
theorem a2q(a b:Str):(a++b).cps.toList=a.cps.toList++b.cps.toList:=by
 show(a.cps++b.cps).toList=_;rw[c0e]
theorem sp_c:sp.cps.toList=[32]:=by decide +kernel
theorem nl_c:nl.cps.toList=[10]:=by decide +kernel
theorem nl_is:nl=⟨#[10]⟩:=by decide +kernel
theorem b5H:sp=⟨#[32]⟩:=by decide +kernel
theorem b3C(t:Tr):(lnS t).cps.toList=jn 32 [t.1.cps.toList,t.2.1.cps.toList,dg t.2.2]:=by
 unfold lnS r0;rw[a2q,a2q,a2q,a2q,sp_c,show(nS t.2.2).cps.toList=dg t.2.2 from b0k _];simp[jn]
theorem tL_lo:∀c∈tL.cps.toList,97<=c/\c<=122:=by decide +kernel
theorem tT_lo:∀c∈tT.cps.toList,97<=c/\c<=122:=by decide +kernel
theorem GT.lo{t:Tr}(h:GT t):(∀c∈t.1.cps.toList,97<=c/\c<=122)/\(∀c∈t.2.1.cps.toList,97<=c/\c<=122)/\∀c∈dg t.2.2,48<=c/\c<=57:=by
 refine⟨?_,?_,a7A _⟩
 ·rcases h.k with ⟨e,_⟩|⟨e,_⟩<;>rw[e]
  ·exact tL_lo
  ·exact tT_lo
 ·rcases h.k with ⟨_,e⟩|⟨_,e⟩<;>exact e.lo
theorem b2u{t:Tr}(h:GT t):Txt.split (lnS t) sp=[t.1,t.2.1,nS t.2.2]:=by
 obtain⟨h1,h2,h3⟩:=h.lo;rw[b5H];refine a5m (B:=[t.1.cps.toList,t.2.1.cps.toList,dg t.2.2]) (by simp) (λb hb=>?_) (b3C t);simp only[b6D,b7x,b9F] at hb;rcases hb with rfl|rfl|rfl
 ·exact λz=>by have:=h1 _ z;lia
 ·exact λz=>by have:=h2 _ z;omega
 ·exact λz=>by have:=h3 _ z;lia
theorem b5I{t:Tr}(h:GT t):10∉(lnS t).cps.toList:=by
 obtain⟨h1,h2,h3⟩:=h.lo;rw[b3C];intro z;simp only[jn,b6G,b6D] at z;rcases z with z|z|z|z|z
 ·have:=h1 _ z;lia
 ·lia
 ·have:=h2 _ z;omega
 ·omega
 ·have:=h3 _ z;lia
theorem ln_len{t:Tr}(h:GT t):(lnS t).length<=60:=by
 have e:(lnS t).length=(lnS t).cps.toList.length:=b6H.symm;have l1:t.1.length<=6:=by rcases h.k with ⟨e,_⟩|⟨e,_⟩<;>rw[e]<;>decide +kernel
 have l2:t.2.1.length<=8:=by
  rcases h.k with ⟨_,e⟩|⟨_,e⟩
  ·exact b6R e.len (by decide)
  ·exact e.len
 have:=a4D h.n30;unfold lnS r0;simp only[b7z,b3A]
 lia
theorem a6j:∀zs:List Str,(Str.join Str.empty zs).cps.toList=(zs.map λz=>z.cps.toList).flatten
 |[]=>rfl
 |[a]=>by show a.cps.toList=a.cps.toList++[];rw[b7e]
 |a::b::r=>by
  have ih:=a6j (b::r);show(a++Str.empty++Str.join Str.empty (b::r)).cps.toList=a.cps.toList++((b::r).map λz=>z.cps.toList).flatten;rw[a2q,a2q,ih];show a.cps.toList++[]++_=_;rw[b7e]
theorem b0D(c:Nat):∀ls:List (List Nat),(ls.map (·++[c])).flatten=jn c (ls++[[]])
 |[]=>rfl
 |[a]=>by simp[jn]
 |a::b::r=>by
  have ih:=b0D c (b::r);show a++[c]++((b::r).map (·++[c])).flatten=a++c::jn c (b::r++[[]]);rw[ih];simp
theorem a8m(B:Bk sg ps nm ws):Txt.split (a3n sg ps nm ws) nl=(trs sg ps nm ws).map lnS++[Str.empty]:=by
 rw[nl_is];have e:=a5m (c:=10) (x:=a3n sg ps nm ws) (B:=(trs sg ps nm ws).map (λt=>(lnS t).cps.toList)++[[]]) (by simp) (λb hb=>?_) ?_
 ·rw[e,b6g,b7v];rfl
 ·rcases b6G.mp hb with h|h
  ·obtain⟨t,ht,rfl⟩:=b6x.mp h;exact b5I (a5q B t ht)
  ·rw[b6r.mp h];simp
 ·unfold a3n;rw[a6j,b2t,<-b0D,b7v,b7v];congr 1;refine b6J λt _=>?_;show(lnS t++nl).cps.toList=(lnS t).cps.toList++[10]
  rw[a2q,nl_c]
theorem b2v(B:Bk sg ps nm ws):(a3n sg ps nm ws).length<=1800:=by
 have R:=B.rows_le;unfold a3n;have h1:=StrLaws.join_length_le Str.empty (a2X sg ps nm ws);have h2:=StrLaws.sumLen_le (a2X sg ps nm ws) R.1;have:Str.empty.length=0:=rfl;rw[this] at h1
 lia
theorem b0E(B:Bk sg ps nm ws):(trs sg ps nm ws).length<=30:=by
 unfold trs;rw[b6o,b6W,b6W];have:=B.l6;have:=B.n24
 lia
theorem a8n(B:Bk sg ps nm ws){t u:Tr}(h:(trs sg ps nm ws)[i+1]?=some t)(hu:(trs sg ps nm ws)[i]?=some u)(e:t.1=tL):u.1=tL:=by
 unfold trs at h hu;have key:∀j v,(List.zipWith (λz n=>(tL,z,n)) sg ps++List.zipWith (λz n=>(tT,z,n)) nm ws)[j]?=some v->(v:Tr).1=tL->j<(List.zipWith (λz n=>((tL,z,n):Tr)) sg ps).length:=λj v hv ev=>by
  rcases Nat.lt_or_ge j (List.zipWith (λz n=>((tL,z,n):Tr)) sg ps).length with c|c
  ·exact c
  ·exfalso;rw[b6U c] at hv;have hm:=b6h hv;obtain⟨k,hk⟩:=b6N.mp hm;rw[b7L] at hk;cases hx:nm[k]? with
   |none=>rw[hx] at hk;cases hk
   |some z=>
    cases hy:ws[k]? with
    |none=>rw[hx,hy] at hk;cases hk
    |some n=>
     rw[hx,hy] at hk;have:=b6I hk;rw[<-this] at ev;exact tLT ev.symm
 have li:=key _ _ h e;rw[b7D (by exact b6y ‹_›),b7L] at hu;cases hx:sg[i]? with
 |none=>rw[hx] at hu;cases hu
 |some z=>
  cases hy:ps[i]? with
  |none=>rw[hx,hy] at hu;cases hu
  |some n=>
   rw[hx,hy] at hu;rw[<-b6I hu]
def b2w(H:Hp)(x:V)(t:Tr):Prop:=∃l,x=.ref l/\H l=some (.lst [.str t.1,.str t.2.1,.str (nS t.2.2)])
theorem b2w.same(s:a0r H H')(h:Paired (b2w H) xs ts):Paired (b2w H') xs ts:=Paired.mapP h λ_ _ ⟨l,e,hl⟩=>⟨l,e,s _ _ hl⟩
abbrev NRo:List Str:=["text","pieces","last","rows","at","row","behind_a_thing"]
def spRo:Sp:=λvs H Q _=>∃(sg:List Str)(ps:List Int)(nm:List Str)(ws:List Int),vs=[.str (a3n sg ps nm ws)]/\Bk sg ps nm ws/\∀(d:Addr) xs H',a0r H H'->H' d=some (.lst xs)->Paired (b2w H') xs (trs sg ps nm ws)->Q (.ref d) H'
theorem b5J:a0k NRo ["text"] (a0g sRO):=fsk
theorem ndRo:(("piece":Str)::NRo).Nodup:=by decide +kernel
theorem ok_ro(F:Fun K "rows_of" "rows_of" sRO f fd)(GT:Fns P w K mg base NRr "is_thing_row" (spRr tT 8) 2)(GL:Fns P w K mg base NRr "is_letter_row" (spRr tL 1) 2)(ml:mg "len"=none)(me:mg "enumerate"=none):a0I P w K mg base CX0 3 f fd ["text"] spRo:=by
 refine F.ok (k:=2) b5J (λvs H Q E h=>?_) (λcdv A outer s H vs Q E hr h=>?_)
 ·obtain⟨sg,ps,nm,ws,rfl,_⟩:=h;rfl
 obtain⟨sg,ps,nm,ws,rfl,B,qq⟩:=h;refine⟨_,a0c (psA (i:=1) b5J (a6g b8n b8o a2U (pv 0) (a0a (a0t) (a0d))))
   (a0c (psA (i:=2) b5J (b2O b6E PySem.F.slot_list_pop PySem.F.type_list_pop b2P (pv 1)))
   (a0c (a2T (i:=3) (M:=NRo) b5J.nd rfl rfl rfl (cso (a0g sRO) NRo) ndRo rfl (pv 1) a0E (λcl C s0 H0 fp=>⟨a0v,a6g b8n b8o a2U (pv 0) (a0a (a0t) (a0d))⟩))
   (a0c (a1d b6K rfl (a9x false (by rfl) me (a0a (pv 3) (a0d))) (a4q rfl (a1l (pgA (i:=4) b5J) (a1l (pgA (i:=5) b5J) (a2Z)))) (a0c (psA (i:=6) b5J (a3j (a2i (a0H a7M (pv 4) a0h (nomark _)) (a2x (a0H a0U (pxA a0m (pxA a0m (pv 3) (a0q a2y (pv 4) (a0h))) (a0h)) a0t (nomark _))))))
   (a0f (a3J (a0z (PW.pt (a5v (a1o (a1x (pcF GT hr (a0a (pv 5) (a0d))))) (a4G (PW.pt (a4g (a1x (pv 6)) (a2w (a1o (a1x (pcF GL hr (a0a (pv 5) (a0d))))))))))) (a0f (a0y)) (a0n))))))
   (a0c (a0z (a0p a7M (a0C a1f (by rfl) ml b7E (a0a (pv 2) (a0d))) (a0h) (nomark _)) (a0f (a0y)) (a0n))
   (a0f (a0o (pv 3))))))),?_⟩
 have tg:=a5q B;have tl:=b0E B;have bl:=b2v B;have bs:=a8m B;have tb:∀{i:Nat}{t u:Tr},(trs sg ps nm ws)[i+1]?=some t->(trs sg ps nm ws)[i]?=some u->t.1=tL->u.1=tL:=λh1 h2=>a8n B h1 h2;generalize a3n sg ps nm ws=z at bl bs ⊢;generalize trs sg ps nm ws=ts at tg tl bs tb qq;refine⟨_,rfl,⟨_,rfl⟩,z,nl,rfl,rfl,(by decide +kernel),a6R (by lia),λp hp=>?_⟩;rw[bs];have s1:=a0e hp (.lst ((ts.map lnS++[Str.empty]).map V.str));have g1:upd H p (.lst ((ts.map lnS++[Str.empty]).map V.str)) p=some (.lst ((ts.map lnS).map V.str++[.str Str.empty])):=by rw[a0b,b6g];rfl
 generalize upd H p (.lst ((ts.map lnS++[Str.empty]).map V.str))=H1 at s1 g1 ⊢;refine⟨_,rfl,.inl ⟨rfl,_,SqL.of g1⟩,p,_,.str Str.empty,rfl,rfl,g1,?_,?_⟩
 ·rw[b6o,b6U (by simp)];simp
 rw[List.dropLast_concat];have s2:=a0l (o:=.lst ((ts.map lnS).map V.str)) hp s1;have g2:upd H1 p (.lst ((ts.map lnS).map V.str)) p=some (.lst ((ts.map lnS).map V.str)):=a0b;generalize upd H1 p (.lst ((ts.map lnS).map V.str))=H2 at s2 g2 ⊢;refine⟨_,rfl,p,_,rfl,SqL.of g2,λd hd=>?_⟩;refine⟨λi H'=>a0r H2 H'/\∃xs,H' d=some (.lst xs)/\Paired (λx t=>b2w H' x t/\x≠.ref d) xs (ts.take i),⟨a0e hd _,[],a0b,.nil⟩,λi H' _ hP=>SqL.of (hP.1 _ _ g2),λi x H' hx hP=>?_,λH3 hP=>?_⟩
 ·obtain⟨s3,xs,hz,px⟩:=hP;rw[b7v,b6p] at hx;obtain⟨t,ht,rfl⟩:=b6A.mp hx;have G:=tg t (b6h ht);have il:=(b6d.mp ht).1;have lx:xs.length=(ts.take i).length:=px.length;rw[b6l] at lx;refine a0u ⟨_,rfl,⟨_,rfl⟩,lnS t,sp,rfl,rfl,(by decide +kernel),a6R (by have:=ln_len G;lia),λq hq=>?_⟩;rw[b2u G];have nq:q≠d:=λe=>by rw[e,hz] at hq;cases hq
  have s4:=a0e hq (.lst ([t.1,t.2.1,nS t.2.2].map V.str));refine⟨_,s4 _ _ hz,a0j (by grind),a0l hd (s3.trans s4),xs++[.ref q],a0b,?_⟩;rw[b6s,ht];refine Paired.appendP (Paired.mapP px λv t' ⟨⟨l,e,hl⟩,nd⟩=>⟨⟨l,e,?_⟩,nd⟩) (Paired.oneP ⟨⟨q,rfl,?_⟩,λe=>nq (V.ref.inj e)⟩)
  ·have nl:l≠d:=λe2=>nd (by rw[e,e2]);rw[a0i nl];exact s4 _ _ hl
  ·rw[a0i nq,a0b];rfl
 obtain⟨s3,xs,g3,px⟩:=hP;rw[b6b,b6b,b6v] at px;have px:Paired (b2w H3) xs ts:=Paired.mapP px λ_ _ h=>h.1;have s03:=s2.trans s3;have lx:xs.length=ts.length:=px.length;refine⟨_,rfl,d,xs,rfl,SqL.of g3,?_⟩;refine a7m (k:=false) (xs:=xs) (λi σ H'=>a0r H3 H'/\∃x4 x5 x6:Option V,σ=[some (.str z),some (.ref p),some (.str Str.empty),some (.ref d),x4,x5,x6]) ⟨a0r.refl _,_,_,_,rfl⟩ (λi σ H' _ hP=>SqL.of (hP.1 _ _ g3)) (λi x q σ H4 hx hP hq=>?_) (λσ H4 hP=>?_)
 ·obtain⟨s4,x4,x5,x6,rfl⟩:=hP;obtain⟨t,ht,l,rfl,hl⟩:=Paired.right_of px i x hx;have G:=tg t (b6h ht);have s5:=s4.trans (a0e hq (.tup [.int i,.ref l]));have gq:upd H4 q (.tup [.int i,.ref l]) q=some (.tup [.int i,.ref l]):=a0b;generalize upd H4 q (.tup [.int i,.ref l])=H5 at s5 gq ⊢;refine⟨q,_,rfl,SqT.of gq,rfl,_,_,rfl,_,_,rfl,rfl,?_⟩;refine⟨λv H'=>H5=H'/\∃b,v=.bl b/\(t.1=tL->b=false),?_,λv H' hv=>?_⟩
  ·refine⟨_,rfl,_,_,rfl,rfl,_,rfl,a2c (λc=>?_) (λc=>⟨rfl,false,rfl,λ_=>rfl⟩)⟩;have i0:0<(i:Int):=b6B c;obtain⟨j,rfl⟩:∃j,i=j+1:=⟨i-1,by lia⟩
   have lj:j<xs.length:=by have:=(b6d.mp hx).1;exact b6y ‹_›
   have hj:xs[j]?=some (xs[j]'lj):=b6f lj;obtain⟨u,hu,l',e',hl'⟩:=Paired.right_of px j _ hj;have aj:atI xs (((j+1:Nat):Int)-1)=some (.ref l'):=by
    rw[show((j+1:Nat):Int)-1=(j:Int) by simp];exact a1M (by rw[hj,e'])
   refine⟨_,rfl,_,rfl,_,_,rfl,rfl,d,_,_,_,rfl,rfl,SqL.of (s5 _ _ g3),aj,l',_,_,_,rfl,rfl,SqL.of (s5 _ _ hl'),(rfl:atI [V.str u.1,.str u.2.1,.str (nS u.2.2)] 0=_),rfl,rfl,_,rfl,λe=>?_⟩;have eu:=tb ht hu e;refine b6w λh=>?_;rw[eu] at h;exact tLT (V.str.inj h)
  obtain⟨rfl,b,rfl,hb⟩:=hv;refine⟨λσ' H'=>a0r H3 H'/\∃x4 x5 x6:Option V,σ'=[some (.str z),some (.ref p),some (.str Str.empty),some (.ref d),x4,x5,x6],?_,λ_ _ h=>h⟩;refine⟨_,rfl,l,t.1,t.2.1,t.2.2,rfl,s5 _ _ hl,(λe=>?_),G.n1,G.n30,λH6 s6=>?_⟩
  ·rcases G.k with ⟨e2,_⟩|⟨_,e2⟩
   ·rw[e2] at e;exact absurd e tLT
   ·exact e2
  have s36:=s5.trans s6;refine⟨_,rfl,?_⟩;rcases G.k with ⟨e2,N⟩|⟨e2,N⟩
  ·rw[b6w (show ¬t.1=tT by rw[e2];exact tLT)];refine a4S ?_;rw[hb e2];refine⟨_,rfl,_,rfl,a1q ?_⟩;refine⟨_,rfl,l,t.1,t.2.1,t.2.2,rfl,s36 _ _ hl,λ_=>N,G.n1,G.n30,λH7 s7=>?_⟩;refine⟨_,rfl,?_⟩;rw[b6i e2];exact a1q ⟨s36.trans s7,_,_,_,rfl⟩
  ·rw[b6i e2];exact a1q ⟨s36,_,_,_,rfl⟩
 obtain⟨s4,x4,x5,x6,rfl⟩:=hP;refine⟨_,rfl,Str.empty,rfl,(by show 0<=sizeLine;decide),_,_,rfl,rfl,_,rfl,a1q ?_⟩;exact⟨_,rfl,qq d xs H4 (s03.trans s4) (s4 _ _ g3) (b2w.same s4 px)⟩
theorem b3D:bootBuiltins "set"=some (.type "set"):=by decide +kernel
theorem zw1{k:Str}:∀{zs:List Str}{ns:List Int},zs.length=ns.length->(List.zipWith (λz n=>((k,z,n):Tr)) zs ns).map (·.2.1)=zs
 |[],[],_=>rfl
 |z::zs,n::ns,h=>by
  show z::_=_;rw[zw1 (Nat.succ.inj h)]
theorem zw2{k:Str}:∀{zs:List Str}{ns:List Int},zs.length=ns.length->(List.zipWith (λz n=>((k,z,n):Tr)) zs ns).map (·.2.2)=ns
 |[],[],_=>rfl
 |z::zs,n::ns,h=>by
  show n::_=_;rw[zw2 (Nat.succ.inj h)]
theorem zw_k{k:Str}:∀t∈List.zipWith (λz n=>((k,z,n):Tr)) zs ns,t.1=k:=λt ht=>by
 obtain⟨i,hi⟩:=b6N.mp ht;rw[b7L] at hi;cases hx:zs[i]? with
 |none=>rw[hx] at hi;cases hi
 |some z=>
  cases hy:ns[i]? with
  |none=>rw[hx,hy] at hi;cases hi
  |some n=>
   rw[hx,hy] at hi;rw[<-b6I hi]
theorem flt_y{k:Str}{t:Tr}(c:decide (V.str t.1=V.str k)=true):List.filter (λt:Tr=>decide (V.str t.1=V.str k)) [t]=[t]:=List.filter_cons_of_pos c
theorem flt_n{k:Str}{t:Tr}(c:¬decide (V.str t.1=V.str k)=true):List.filter (λt:Tr=>decide (V.str t.1=V.str k)) [t]=[]:=List.filter_cons_of_neg c
theorem flt_L(sg:List Str)(ps:List Int)(nm:List Str)(ws:List Int):(trs sg ps nm ws).filter (λt=>decide (V.str t.1=V.str tL))=List.zipWith (λz n=>((tL,z,n):Tr)) sg ps:=by
 unfold trs;rw[b7Q,List.filter_eq_self.mpr λt ht=>b6i (b7d V.str (zw_k t ht)),List.filter_eq_nil_iff.mpr (λt ht=>?_),b7e];rw[zw_k t ht];exact λh=>tLT (V.str.inj (b6B h)).symm
theorem flt_T(sg:List Str)(ps:List Int)(nm:List Str)(ws:List Int):(trs sg ps nm ws).filter (λt=>decide (V.str t.1=V.str tT))=List.zipWith (λz n=>((tT,z,n):Tr)) nm ws:=by
 unfold trs;rw[b7Q,List.filter_eq_nil_iff.mpr (λt ht=>?_),List.filter_eq_self.mpr λt ht=>b6i (b7d V.str (zw_k t ht)),List.nil_append];rw[zw_k t ht];exact λh=>tLT (V.str.inj (b6B h))
def spIs:Sp:=λvs H Q _=>∃n:Int,vs=[.int n]/\1<=n/\n<=B30/\Q (.bl true) H
theorem scIs:a0k ["number"] ["number"] (a0g b2k):=fsk
theorem ok_is(F:Fun K "is_amount" "is_amount" b2k f fd):a0I P w K mg base CX0 1 f fd ["number"] spIs:=by
 refine F.ok (k:=0) scIs (λvs H Q E h=>?_) (λcdv A outer s H vs Q E hr h=>?_)
 ·obtain⟨n,rfl,_⟩:=h;rfl
 obtain⟨n,rfl,n1,n30,q⟩:=h;refine⟨_,a0f (a0o (a2r a2j a2j a0h (pv 0) (a0q a5y a0h a0h))),?_⟩;refine⟨_,rfl,_,_,rfl,rfl,_,rfl,?_⟩;rw[if_pos (b6i n1)];refine⟨_,_,rfl,rfl,⟨by decide,by decide,by decide⟩,_,_,rfl,rfl,?_⟩;show Q (.bl (decide (n<=10 ^ (30:Int).toNat))) H;rw[b6i (by rw[e30];exact n30)];exact q
abbrev NAr:List Str:=["numbers","fewest","most"]
def spAr:Sp:=λvs H Q _=>∃(l:Addr)(ns:List Int)(lo hi:Nat),vs=[.ref l,.int lo,.int hi]/\H l=some (.lst (ns.map V.int))/\lo<=ns.length/\ns.length<=hi/\hi<=30/\Bo ns/\∀H',a0r H H'->Q (.bl true) H'
theorem scAr:a0k NAr NAr (a0g sAre):=fsk
theorem ndAr:(("number":Str)::NAr).Nodup:=by decide +kernel
theorem ok_ar(F:Fun K "are_amounts" "are_amounts" sAre f fd)(GA:Fns P w K mg base ["number"] "is_amount" spIs 1)(ml:mg "len"=none)(ma:mg "all"=none):a0I P w K mg base CX0 2 f fd NAr spAr:=by
 refine F.ok (k:=1) scAr (λvs H Q E h=>?_) (λcdv A outer s H vs Q E hr h=>?_)
 ·obtain⟨l,ns,lo,hi,rfl,_⟩:=h;rfl
 obtain⟨l,ns,lo,hi,rfl,hl,h1,h2,h3,bo,qq⟩:=h;refine⟨_,a0f (a0o (a2i (a2r a2j a2j (pv 1) (pln ml (pv 0)) (pv 2)) (a2x (a0C (a1E rfl) (by rfl) ma a4k (a0a (a0Y (M:=NAr) rfl (cso (a0g sAre) NAr) ndAr rfl (pv 0) a0E (λcl C s0 H0 fp=>⟨a0v,pcF GA hr (a0a (pv 0) (a0d))⟩)) (a0d)))))),?_⟩;refine⟨_,rfl,_,rfl,l,_,rfl,.inl (SqL.of hl),_,_,rfl,rfl,_,rfl,?_⟩;rw[b6b,if_pos (b6i (by lia))];refine⟨_,rfl,_,_,rfl,rfl,_,rfl,?_⟩;rw[if_pos (b6i (by lia))];refine⟨_,rfl,l,_,rfl,SqL.of hl,λd hd=>?_⟩;refine⟨λi H'=>a0r H H'/\H' d=some (.lst ((List.replicate i true).map V.bl)),⟨a0e hd _,a0b⟩,λi H' _ hP=>SqL.of (hP.1 _ _ hl),λi x H' hx hP=>?_,λH' hP=>?_⟩
 ·obtain⟨s5,hz⟩:=hP;rw[b6p] at hx;obtain⟨n,hn,rfl⟩:=b6A.mp hx;have il:=(b6d.mp hn).1;have N:=bo n (b6h hn);refine a0u ⟨_,rfl,n,rfl,N.1,N.2,_,hz,?_,a0l hd s5,?_⟩
  ·rw[b6b,b7o];exact a0j (by lia)
  ·rw[a0b,b9d,b6g];rfl
 ·obtain⟨s5,hz⟩:=hP;refine⟨d,_,rfl,hz,?_⟩;rw[a3v];exact qq H' s5
def spMk(lo hi:Nat):Sp:=λvs H Q _=>∃(l:Addr)(ns:List Int),vs=[.ref l]/\H l=some (.lst (ns.map V.int))/\lo<=ns.length/\ns.length<=hi/\Bo ns/\∀p H',a0r H H'->H' p=some (.tup (ns.map V.int))->Q (.ref p) H'
theorem scMP:a0k ["prices"] ["prices"] (a0g sMP):=fsk
theorem scMW:a0k ["weights"] ["weights"] (a0g sMW):=fsk
theorem ok_mp(F:Fun K "made_prices" "made_prices" sMP f fd)(GA:Fns P w K mg base NAr "are_amounts" spAr 2)(mt:mg "tuple"=none):a0I P w K mg base CX0 3 f fd ["prices"] (spMk 2 6):=by
 refine F.ok (k:=2) scMP (λvs H Q E h=>?_) (λcdv A outer s H vs Q E hr h=>?_)
 ·obtain⟨l,ns,rfl,_⟩:=h;rfl
 obtain⟨l,ns,rfl,hl,h1,h2,bo,qq⟩:=h;refine⟨_,a0c (a0z (a1o (a1x (pcF GA hr (a0a (pv 0) (a0a (a0h) (a0a (a0h) (a0d))))))) (a0f (a0y)) (a0n))
   (a0f (a0o (a0w a0A (by rfl) mt a1G (a0a (pv 0) (a0d))))),?_⟩
 refine⟨_,rfl,l,ns,2,6,rfl,hl,h1,h2,by decide,bo,λH1 s1=>⟨_,rfl,a1q ?_⟩⟩;exact⟨_,rfl,l,_,rfl,.inl ⟨SqL.of (s1 _ _ hl),λp hp=>qq p _ (s1.trans (a0e hp _)) a0b⟩⟩
theorem ok_mw(F:Fun K "made_weights" "made_weights" sMW f fd)(GA:Fns P w K mg base NAr "are_amounts" spAr 2)(mt:mg "tuple"=none):a0I P w K mg base CX0 3 f fd ["weights"] (spMk 1 24):=by
 refine F.ok (k:=2) scMW (λvs H Q E h=>?_) (λcdv A outer s H vs Q E hr h=>?_)
 ·obtain⟨l,ns,rfl,_⟩:=h;rfl
 obtain⟨l,ns,rfl,hl,h1,h2,bo,qq⟩:=h;refine⟨_,a0c (a0z (a1o (a1x (pcF GA hr (a0a (pv 0) (a0a (a0h) (a0a (a0h) (a0d))))))) (a0f (a0y)) (a0n))
   (a0f (a0o (a0w a0A (by rfl) mt a1G (a0a (pv 0) (a0d))))),?_⟩
 refine⟨_,rfl,l,ns,1,24,rfl,hl,h1,h2,by decide,bo,λH1 s1=>⟨_,rfl,a1q ?_⟩⟩;exact⟨_,rfl,l,_,rfl,.inl ⟨SqL.of (s1 _ _ hl),λp hp=>qq p _ (s1.trans (a0e hp _)) a0b⟩⟩
abbrev NRb:List Str:=["text","rows","letters","things","signs","names","prices","weights"]
def spRb:Sp:=λvs H Q _=>∃(sg:List Str)(ps:List Int)(nm:List Str)(ws:List Int),vs=[.str (a3n sg ps nm ws)]/\Bk sg ps nm ws/\∀(p:Addr) H',a0r H H'->b5o H' p sg ps nm ws->Q (.ref p) H'
theorem b3E:a0k NRb ["text"] (a0g sRB):=fsk
theorem b6a:(("row":Str)::NRb).Nodup:=by decide +kernel
theorem ok_rb(F:Fun K "read_book" "read_book" sRB f fd)(GR:Fns P w K mg base ["text"] "rows_of" spRo 3)(GP:Fns P w K mg base ["prices"] "made_prices" (spMk 2 6) 3)(GW:Fns P w K mg base ["weights"] "made_weights" (spMk 1 24) 3)(ml:mg "len"=none)(mt:mg "tuple"=none)(mse:mg "set"=none)(mI:mg "int"=none):a0I P w K mg base CX0 4 f fd ["text"] spRb:=by
 refine F.ok (k:=3) b3E (λvs H Q E h=>?_) (λcdv A outer s H vs Q E hr h=>?_)
 ·obtain⟨sg,ps,nm,ws,rfl,_⟩:=h;rfl
 obtain⟨sg,ps,nm,ws,rfl,B,qq⟩:=h;refine⟨_,a0c (psA (i:=1) b3E (pcF GR hr (a0a (pv 0) (a0d))))
   (a0c (a2T (i:=2) (M:=NRb) b3E.nd rfl rfl rfl (cso (a0g sRB) NRb) b6a rfl (pv 1) a0E (λcl C s0 H0 fp=>⟨a6y (a0p a0U (pxA (ixL K) (pv 0) (a0h)) a0t (nomark _)),pv 0⟩))
   (a0c (a2T (i:=3) (M:=NRb) b3E.nd rfl rfl rfl (cso (a0g sRB) NRb) b6a rfl (pv 1) a0E (λcl C s0 H0 fp=>⟨a6y (a0p a0U (pxA (ixL K) (pv 0) (a0h)) a0t (nomark _)),pv 0⟩))
   (a0c (psA (i:=4) b3E (a0w a0A (by rfl) mt a1G (a0a (a0Y (M:=NRb) rfl (cso (a0g sRB) NRb) b6a rfl (pv 2) a0E (λcl C s0 H0 fp=>⟨a0v,pxA (ixL K) (pv 0) (a0h)⟩)) (a0d))))
   (a0c (psA (i:=5) b3E (a0w a0A (by rfl) mt a1G (a0a (a0Y (M:=NRb) rfl (cso (a0g sRB) NRb) b6a rfl (pv 3) a0E (λcl C s0 H0 fp=>⟨a0v,pxA (ixL K) (pv 0) (a0h)⟩)) (a0d))))
   (a0c (a0z (PW.pt (a4g (a0p a4h (a0C a6e (by rfl) ml b7E (a0a (a0w (a4C rfl) (by rfl) mse b3D (a0a (pv 4) (a0d))) (a0d))) (pln ml (pv 4)) (nomark _)) (a2w (a0p a4h (a0C a6e (by rfl) ml b7E (a0a (a0w (a4C rfl) (by rfl) mse b3D (a0a (pv 5) (a0d))) (a0d))) (pln ml (pv 5)) (nomark _))))) (a0f (a0y)) (a0n))
   (a0c (psA (i:=6) b3E (pcF GP hr (a0a (a0Y (M:=NRb) rfl (cso (a0g sRB) NRb) b6a rfl (pv 2) a0E (λcl C s0 H0 fp=>⟨a0v,a0w a2p (by rfl) mI a9a (a0a (pxA (ixL K) (pv 0) (a0h)) (a0d))⟩)) (a0d))))
   (a0c (psA (i:=7) b3E (pcF GW hr (a0a (a0Y (M:=NRb) rfl (cso (a0g sRB) NRb) b6a rfl (pv 3) a0E (λcl C s0 H0 fp=>⟨a0v,a0w a2p (by rfl) mI a9a (a0a (pxA (ixL K) (pv 0) (a0h)) (a0d))⟩)) (a0d))))
   (a0f (a0o (a1v (a0a (pv 4) (a0a (pv 6) (a0a (pv 5) (a0a (pv 7) (a0d))))))))))))))),?_⟩
 have tg:=a5q B;have tl:=b0E B;have fL:=flt_L sg ps nm ws;have fT:=flt_T sg ps nm ws;have l6:=B.l6;have n24:=B.n24;refine⟨_,rfl,sg,ps,nm,ws,rfl,B,λr xs H1 s1 hr1 px=>?_⟩;have lx:xs.length=(trs sg ps nm ws).length:=px.length;refine⟨_,rfl,r,xs,rfl,SqL.of ((a0r.refl H1) _ _ hr1),λd1 hd1=>?_⟩;refine⟨λi H'=>a0r H1 H'/\∃ys,H' d1=some (.lst ys)/\Paired (b2w H1) ys (((trs sg ps nm ws).take i).filter λt=>decide (V.str t.1=V.str tL)),⟨a0e hd1 _,[],a0b,.nil⟩,λi H' _ hP=>SqL.of (hP.1 _ _ ((a0r.refl H1) _ _ hr1)),λi x H' hx hP=>?_,λH2 hP=>?_⟩
 ·obtain⟨s2,ys,hz,py⟩:=hP;obtain⟨t,ht,l,rfl,hl⟩:=Paired.right_of px i x hx;have il:=(b6d.mp ht).1;have ly:ys.length=_:=py.length;have ly2:=b8v (λt:Tr=>decide (V.str t.1=V.str tL)) ((trs sg ps nm ws).take i);rw[b6l] at ly2;refine⟨_,rfl,l,_,_,_,rfl,rfl,SqL.of (s2 _ _ ((a0r.refl H1) _ _ hl)),(rfl:atI [V.str t.1,.str t.2.1,.str (nS t.2.2)] 0=_),rfl,_,rfl,a2c (λc=>?_) (λc=>?_)⟩
  ·refine⟨_,rfl,ys,hz,a0j (by grind),a0l hd1 s2,ys++[.ref l],a0b,?_⟩;rw[b6s,ht,b7Q];refine Paired.appendP py ?_;show Paired _ _ (List.filter _ [t]);rw[flt_y (k:=tL) c];exact Paired.oneP ⟨l,rfl,hl⟩
  ·refine⟨s2,ys,hz,?_⟩;rw[b6s,ht,b7Q];show Paired _ _ (_++List.filter _ [t]);rw[flt_n (k:=tL) c,b7e];exact py
 obtain⟨sya,ya,gya,pya⟩:=hP;rw[lx,b6v] at pya;have s12:a0r H1 H2:=sya;refine⟨_,rfl,r,xs,rfl,SqL.of (s12 _ _ hr1),λd2 hd2=>?_⟩;refine⟨λi H'=>a0r H2 H'/\∃ys,H' d2=some (.lst ys)/\Paired (b2w H1) ys (((trs sg ps nm ws).take i).filter λt=>decide (V.str t.1=V.str tT)),⟨a0e hd2 _,[],a0b,.nil⟩,λi H' _ hP=>SqL.of (hP.1 _ _ (s12 _ _ hr1)),λi x H' hx hP=>?_,λH3 hP=>?_⟩
 ·obtain⟨s2,ys,hz,py⟩:=hP;obtain⟨t,ht,l,rfl,hl⟩:=Paired.right_of px i x hx;have il:=(b6d.mp ht).1;have ly:ys.length=_:=py.length;have ly2:=b8v (λt:Tr=>decide (V.str t.1=V.str tT)) ((trs sg ps nm ws).take i);rw[b6l] at ly2;refine⟨_,rfl,l,_,_,_,rfl,rfl,SqL.of (s2 _ _ (s12 _ _ hl)),(rfl:atI [V.str t.1,.str t.2.1,.str (nS t.2.2)] 0=_),rfl,_,rfl,a2c (λc=>?_) (λc=>?_)⟩
  ·refine⟨_,rfl,ys,hz,a0j (by grind),a0l hd2 s2,ys++[.ref l],a0b,?_⟩;rw[b6s,ht,b7Q];refine Paired.appendP py ?_;show Paired _ _ (List.filter _ [t]);rw[flt_y (k:=tT) c];exact Paired.oneP ⟨l,rfl,hl⟩
  ·refine⟨s2,ys,hz,?_⟩;rw[b6s,ht,b7Q];show Paired _ _ (_++List.filter _ [t]);rw[flt_n (k:=tT) c,b7e];exact py
 obtain⟨syb,yb,gyb,pyb⟩:=hP;rw[lx,b6v] at pyb;have s13:=s12.trans syb;rw[fL] at pya;rw[fT] at pyb;have inL:∀t∈List.zipWith (λz n=>((tL,z,n):Tr)) sg ps,t∈trs sg ps nm ws:=λt ht=>b7S _ ht;have inT:∀t∈List.zipWith (λz n=>((tT,z,n):Tr)) nm ws,t∈trs sg ps nm ws:=λt ht=>b6M _ ht;have eL1:=zw1 (k:=tL) B.ls;have eL2:=zw2 (k:=tL) B.ls;have eT1:=zw1 (k:=tT) B.ln;have eT2:=zw2 (k:=tT) B.ln;have lL:(List.zipWith (λz n=>((tL,z,n):Tr)) sg ps).length<=6:=by rw[b6W];lia
 have lT:(List.zipWith (λz n=>((tT,z,n):Tr)) nm ws).length<=24:=by rw[b6W];lia
 generalize List.zipWith (λz n=>((tL,z,n):Tr)) sg ps=tsL at pya inL eL1 eL2 lL;generalize List.zipWith (λz n=>((tT,z,n):Tr)) nm ws=tsT at pyb inT eT1 eT2 lT;have gya3:=syb _ _ gya;refine⟨_,rfl,d1,ya,rfl,SqL.of gya3,λd3 hd3=>?_⟩;refine⟨λi H'=>a0r H3 H'/\H' d3=some (.lst (((tsL.take i).map (·.2.1)).map V.str)),⟨a0e hd3 _,a0b⟩,λi H' _ hP=>SqL.of (hP.1 _ _ gya3),λi x H' hx hP=>?_,λH4 hP=>?_⟩
 ·obtain⟨s2,hz⟩:=hP;obtain⟨t,ht,l,rfl,hl⟩:=Paired.right_of pya i x hx;have il:=(b6d.mp ht).1;have G:=tg t (inL t (b6h ht));refine a0u ⟨_,rfl,l,_,_,_,rfl,rfl,SqL.of (s2 _ _ (s13 _ _ hl)),(rfl:atI [V.str t.1,.str t.2.1,.str (nS t.2.2)] 1=_),_,hz,?_,a0l hd3 s2,?_⟩
  ·rw[b6b,b6b,b6l];exact a0j (by grind)
  ·rw[a0b,b6s,ht,b6g,b6g];rfl
 obtain⟨sd3,gd3⟩:=hP;rw[pya.length,b6v] at gd3;rw[eL1] at gd3;refine⟨d3,_,rfl,.inl ⟨SqL.of gd3,λp1 hp1=>?_⟩⟩;have sp1:=a0e hp1 (.tup (sg.map V.str));have gp1:upd H4 p1 (.tup (sg.map V.str)) p1=some (.tup (sg.map V.str)):=a0b;generalize upd H4 p1 (.tup (sg.map V.str))=H5 at sp1 gp1 ⊢;have s35:=sd3.trans sp1;have s15:=s13.trans s35;have gyb5:=s35 _ _ gyb;refine⟨_,rfl,d2,yb,rfl,SqL.of gyb5,λd4 hd4=>?_⟩;refine⟨λi H'=>a0r H5 H'/\H' d4=some (.lst (((tsT.take i).map (·.2.1)).map V.str)),⟨a0e hd4 _,a0b⟩,λi H' _ hP=>SqL.of (hP.1 _ _ gyb5),λi x H' hx hP=>?_,λH6 hP=>?_⟩
 ·obtain⟨s2,hz⟩:=hP;obtain⟨t,ht,l,rfl,hl⟩:=Paired.right_of pyb i x hx;have il:=(b6d.mp ht).1;have G:=tg t (inT t (b6h ht));refine a0u ⟨_,rfl,l,_,_,_,rfl,rfl,SqL.of (s2 _ _ (s15 _ _ hl)),(rfl:atI [V.str t.1,.str t.2.1,.str (nS t.2.2)] 1=_),_,hz,?_,a0l hd4 s2,?_⟩
  ·rw[b6b,b6b,b6l];exact a0j (by grind)
  ·rw[a0b,b6s,ht,b6g,b6g];rfl
 obtain⟨sd4,gd4⟩:=hP;rw[pyb.length,b6v] at gd4;rw[eT1] at gd4;refine⟨d4,_,rfl,.inl ⟨SqL.of gd4,λp2 hp2=>?_⟩⟩;have sp2:=a0e hp2 (.tup (nm.map V.str));have gp2:upd H6 p2 (.tup (nm.map V.str)) p2=some (.tup (nm.map V.str)):=a0b;generalize upd H6 p2 (.tup (nm.map V.str))=H7 at sp2 gp2 ⊢;have s57:=sd4.trans sp2;have s17:=s15.trans s57;have gp1':=s57 _ _ gp1;refine⟨_,rfl,p1,sg,rfl,SqT.of gp1',B.ds,by rw[B.ls];lia,λe1 H8 s8 he1 ge1=>?_⟩;refine⟨e1,sg,rfl,ge1,by rw[B.ls];omega,_,rfl,p1,_,rfl,.inr (SqT.of (s8 _ _ gp1')),_,_,rfl,rfl,_,rfl,?_⟩;rw[b6b,b6w (Int.lt_irrefl _)];refine a1q ?_;refine⟨_,rfl,p2,nm,rfl,SqT.of (s8 _ _ gp2),B.dn,by rw[B.ln];lia,λe2 H9 s9 he2 ge2=>?_⟩;refine⟨e2,nm,rfl,ge2,by rw[B.ln];omega,_,rfl,p2,_,rfl,.inr (SqT.of (s9 _ _ (s8 _ _ gp2))),_,_,rfl,rfl,_,rfl,?_⟩;rw[b6b,b6w (Int.lt_irrefl _)];refine a1q ?_;have s79:=s8.trans s9;have s19:=s17.trans s79;have gya9:=s79 _ _ (s57 _ _ (s35 _ _ gya3));refine⟨_,rfl,d1,ya,rfl,SqL.of gya9,λd5 hd5=>?_⟩;refine⟨λi H'=>a0r H9 H'/\H' d5=some (.lst (((tsL.take i).map (·.2.2)).map V.int)),⟨a0e hd5 _,a0b⟩,λi H' _ hP=>SqL.of (hP.1 _ _ gya9),λi x H' hx hP=>?_,λH10 hP=>?_⟩
 ·obtain⟨s2,hz⟩:=hP;obtain⟨t,ht,l,rfl,hl⟩:=Paired.right_of pya i x hx;have il:=(b6d.mp ht).1;have G:=tg t (inL t (b6h ht));refine a0u ⟨_,rfl,l,_,_,_,rfl,rfl,SqL.of (s2 _ _ (s19 _ _ hl)),(rfl:atI [V.str t.1,.str t.2.1,.str (nS t.2.2)] 2=_),_,_,rfl,a7B G.n1 G.n30,by have:=a4D G.n30;lia,_,hz,?_,a0l hd5 s2,?_⟩
  ·rw[b6b,b6b,b6l];exact a0j (by omega)
  ·rw[a0b,b6s,ht,b6g,b6g];rfl
 obtain⟨sd5,gd5⟩:=hP;rw[pya.length,b6v] at gd5;rw[eL2] at gd5;refine⟨d5,ps,rfl,gd5,B.l2,B.l6,B.bp,λp3 H11 s11 gp3=>?_⟩;have s911:=sd5.trans s11;have s1b:=s19.trans s911;have gybb:=s911 _ _ (s79 _ _ (s57 _ _ gyb5));refine⟨_,rfl,d2,yb,rfl,SqL.of gybb,λd6 hd6=>?_⟩;refine⟨λi H'=>a0r H11 H'/\H' d6=some (.lst (((tsT.take i).map (·.2.2)).map V.int)),⟨a0e hd6 _,a0b⟩,λi H' _ hP=>SqL.of (hP.1 _ _ gybb),λi x H' hx hP=>?_,λH12 hP=>?_⟩
 ·obtain⟨s2,hz⟩:=hP;obtain⟨t,ht,l,rfl,hl⟩:=Paired.right_of pyb i x hx;have il:=(b6d.mp ht).1;have G:=tg t (inT t (b6h ht));refine a0u ⟨_,rfl,l,_,_,_,rfl,rfl,SqL.of (s2 _ _ (s1b _ _ hl)),(rfl:atI [V.str t.1,.str t.2.1,.str (nS t.2.2)] 2=_),_,_,rfl,a7B G.n1 G.n30,by have:=a4D G.n30;omega,_,hz,?_,a0l hd6 s2,?_⟩
  ·rw[b6b,b6b,b6l];exact a0j (by omega)
  ·rw[a0b,b6s,ht,b6g,b6g];rfl
 obtain⟨sd6,gd6⟩:=hP;rw[pyb.length,b6v] at gd6;rw[eT2] at gd6;refine⟨d6,ws,rfl,gd6,B.n1,B.n24,B.bw,λp4 H13 s13' gp4=>?_⟩;have sE:=sd6.trans s13';refine⟨_,rfl,_,rfl,_,rfl,_,rfl,(by show 4<=sizeLine;decide),λq hq=>?_⟩;have sq:=a0e hq (.tup [.ref p1,.ref p3,.ref p2,.ref p4]);have k1:=sq _ _ (sE _ _ (s911 _ _ (s79 _ _ gp1')));have k2:=sq _ _ (sE _ _ gp3);have k3:=sq _ _ (sE _ _ (s911 _ _ (s79 _ _ gp2)));have k4:=sq _ _ gp4;exact qq q _ ((s1.trans s1b).trans (sE.trans sq)) ⟨p1,p3,p2,p4,a0b,k1,k2,k3,k4⟩
end K95
namespace L2
open PySem PySem.Spec PyProof.Rows PySem.W
def dd(zs:List Str):List Str:=zs.foldl (λacc z=>if z∈acc then acc else acc++[z]) []
variable {prog:Program}{w:World}{A:Around}{E:Value->Shared->Prop}{s:Shared}
end L2
namespace L2
open PySem PySem.Spec PyProof.Rows
def eB(b:Bool):Value->Bool:=λz=>match z with
 |.bool c=>decide (c=b)
 |_=>false
def tTryB(K:PySem.W.Frag)(D:Addr)(tb:(St->XK)->TS)(ts:TS):TS:=λG σ H=>tb (λσ' cls od H'=>∃C,cls=.ref C/\PySem.W.subIn K (.ref C) (.ref D)=some true /\
 ∀ea,H' ea=none->ts {G with bk:=λ_ _=>False,ct:=λ_ _=>False} σ' (upd H' ea (excO ea C od))) G σ H
theorem b5K{X:Cx}{body suite:List Stmt}{b₀:Stmt}{c:Str}{D:Addr}{np hpos pos:Pos}{rest:List ExceptHandler}{tb:(St->XK)->TS}{ts:TS}(hfrm:X.stack=X.env::X.outer/\X.env.frame=some X.env.locals)
  (hb:∀(pn:List (Addr×Obj))(xe:Value->Shared->Prop)(Ex:St->XK),a6C (X.tryx pn xe) Ex->PSs (X.tryx pn xe) body (tb Ex))(hs:∀ea,PSs (X.hand ea) (b₀ :: suite) ts)
  (hg:Gl X c)(hm:X.mg c=some (.ref D))(hD:Hcl X.K D)(hdb:(c==("__debug__":Str))=false:=by decide) :
  PS X (.Try body (.ExceptHandler (some (.Name c np)) none (b₀ :: suite) hpos::rest) [] [] pos) (tTryB X.K D tb ts):=by
 intro pins s σ H G I h;refine wpAny_Try_except ?_;refine b8V (hb (X.pn++pins) (λe s₁=>wpAny (model X.prog X.w) X.A (noteFrame e X.env) (λ_ s₂=>wpAny (model X.prog X.w) X.A (setFlight e none) (λ_ s₃=>
   wpAny (model X.prog X.w) X.A (handleBy e X.env (.ExceptHandler (some (.Name c np)) none (b₀ :: suite) hpos::rest)) (SP X pins G) X.xe s₃) X.xe s₂) X.xe s₁) _ ?_ [] s σ H G (I.tryx _) h) (λfl s1 q=>?_) λ_ _ z=>z
 ·intro pins' σ1 H1 s1 e s' I1 hx;obtain⟨ea,cls,od,S,H',rfl,os,bare,un,hok,lo,hS,C,rfl,sb,q⟩:=hx;have J1:Inv X pins σ1 H1 s1:=I1.untryx I.ok;have J2:Inv X pins σ1 H' s':=J1.call' (ch:=[]) os un hok bare (λb z=>absurd z (by simp));show wpAny _ _ (noteFrame (.ref ea) X.env) _ _ s';have st:=J2.stack;rw[hfrm.1] at st;have hfr:=I.ok.frames;rw[hfrm.1] at hfr;refine b4o hfr st hfrm.2 lo λh3 T m3 hs3 hT x3 t3=>?_;rw[<-hfrm.1] at m3;have J3:Inv X pins σ1 H' {s' with heap:=h3,toks:=s'.toks}:=J2.moved (S:=S) m3 λb hb=>⟨J1.off (hS b hb).1,(hS b hb).2⟩
  have oE:=J1.off (hS ea lo.1).1;have nE:=(hS ea lo.1).2;obtain⟨oe,vs,he,hcls,hdd,hd1,h1⟩:=id x3;refine wpAny_handleBy_cons (codeAny_handlers_test ?_) (by intro z;cases z);refine a4F (X:=X.hand ea) (J3.hand ea) hg hm ?_ hdb;refine a6B (K:=X.K) J3.kIn he hcls hD sb (codeAny_handlers_suite ?_);refine a5K (s:={s' with heap:=h3,toks:=s'.toks}) x3 t3 hT λh4 m4 x4 t4 k4=>?_;have J4:Inv X pins σ1 H' {s' with heap:=h4,toks:=s'.toks}:=J3.moved (S:=[T]) (λb o hb hn=>by
   have hbT:b≠T:=λz=>hn (by rw[z];exact b7O);have z:=(k4 b hbT).trans hb;exact⟨λ_=>z,o.slots,z⟩) λb hb=>by
    rw[b6r.mp hb];exact⟨J2.off (Heap.get?_none_of_le hs3),J2.hok.fresh hs3⟩
  have nf:ea∉X.fs:=λz=>by
   obtain⟨_,o,ho,_⟩:=I.ok.funs.mem z;exact I.ok.exfs ea (oE.1 o ho) z
  obtain⟨oe4,vs4,he4,hcls4,hdd4,hd14,h14⟩:=id x4;have J5:Inv X pins σ1 (upd H' ea (excO ea C od)) {s' with heap:=h4,toks:=s'.toks}:=J4.track oE nE ⟨oe4,vs4,he4,hcls4,hdd4,hd14⟩ ⟨oe4,he4⟩ (λg1 g2 ⟨o,v,q1,q2⟩ k=>⟨o,v,k o q1,q2⟩) nf;refine b8V (hs ea pins _ _ _ _ (J5.hand ea) (q ea nE)) (λf s7 z=>?_) λ_ _ z=>z.elim;cases f with
  |next=>
   obtain⟨σ7,H7,J7,z⟩:=z;exact⟨_,H7,J7.unhand I.ok,z⟩
  |brk=>
   obtain⟨σ7,H7,J7,z⟩:=z;exact z.elim
  |cont=>
   obtain⟨σ7,H7,J7,z⟩:=z;exact z.elim
  |ret u=>
   obtain⟨v,σ7,H7,J7,r,z⟩:=z;exact⟨v,_,H7,J7.unhand I.ok,r,z⟩
 ·cases fl with
  |next=>
   obtain⟨σ',H',J,z⟩:=q;exact b9m ⟨σ',H',J.untryx I.ok,z⟩
  |brk=>
   obtain⟨σ',H',J,z⟩:=q;exact⟨σ',H',J.untryx I.ok,z⟩
  |cont=>
   obtain⟨σ',H',J,z⟩:=q;exact⟨σ',H',J.untryx I.ok,z⟩
  |ret u=>
   obtain⟨v,σ',H',J,r,z⟩:=q;exact⟨v,σ',H',J.untryx I.ok,r,z⟩
end L2
namespace K95
open PySem L2
def a4b(i:Nat):Stmt->Stmt
 |.ClassDef _ _ _ b ..=>b.getD i (.Pass ⟨0,0,0,0⟩)
 |s=>s
abbrev b5L:Stmt:=a4b 0 (top 118)
abbrev b5M:Stmt:=a4b 1 (top 118)
abbrev mPP:Stmt:=a4b 2 (top 118)
abbrev mPW:Stmt:=a4b 3 (top 118)
abbrev b5N:Stmt:=a4b 4 (top 118)
abbrev mAns:Stmt:=a4b 5 (top 118)
abbrev a6k:Stmt:=a4b 6 (top 118)
abbrev mAK:Stmt:=a4b 7 (top 118)
abbrev mAF:Stmt:=a4b 8 (top 118)
abbrev mCT:Stmt:=a4b 9 (top 118)
abbrev mRT:Stmt:=a4b 11 (top 118)
structure DC(K:PySem.W.Frag)(C:Addr):Prop where
 c:Cls K C
 n1:a1a K C "signs"
 n2:a1a K C "prices"
 n3:a1a K C "names"
 n4:a1a K C "weights"
 n5:a1a K C "past"
abbrev b0S(b1 b2 b3 b4 l:Addr):List (Str×V):=[("signs",.ref b1),("prices",.ref b2),("names",.ref b3),("weights",.ref b4),("past",.ref l)]
abbrev Pw:=List Int×List Int
def PwAt(H:Hp)(x:V)(q:Pw):Prop:=∃t b2 b4,x=.ref t/\H t=some (.tup [.ref b2,.ref b4])/\H b2=some (.tup (q.1.map V.int))/\H b4=some (.tup (q.2.map V.int))
def a5r(C:Addr)(H:Hp)(r l:Addr)(sg nm:List Str)(q:Pw)(hs:List Pw):Prop:=∃dx b1 b2 b3 b4 xs,H r=some (.ins C dx (b0S b1 b2 b3 b4 l))/\H b1=some (.tup (sg.map V.str))/\H b2=some (.tup (q.1.map V.int))/\H b3=some (.tup (nm.map V.str))/\H b4=some (.tup (q.2.map V.int))/\H l=some (.lst xs)/\Paired (PwAt H) xs hs
def KeT(H H':Hp):Prop:=∀a xs,H a=some (.tup xs)->H' a=some (.tup xs)
theorem PwAt.ke(k:KeT H H')(h:PwAt H x q):PwAt H' x q:=by
 obtain⟨t,b2,b4,rfl,h1,h2,h3⟩:=h;exact⟨t,b2,b4,rfl,k _ _ h1,k _ _ h2,k _ _ h3⟩
def K2(r l:Addr)(H H':Hp):Prop:=∀a o,a≠r->a≠l->H a=some o->H' a=some o
theorem K2.ke{fs:List (Str×V)}(k:K2 r l H H')(hr:H r=some (.ins C dx fs))(hl:H l=some (.lst xs)):KeT H H':=λa ys h=>k a _ (a0B h hr (by intro z;cases z)) (a0B h hl (by intro z;cases z)) h
theorem a5r.same(s:a0r H H')(h:a5r C H r l sg nm q hs):a5r C H' r l sg nm q hs:=by
 obtain⟨dx',b1,b2,b3,b4,xs,h0,h1,h2,h3,h4,h5,h6⟩:=h;exact⟨dx',b1,b2,b3,b4,xs,s _ _ h0,s _ _ h1,s _ _ h2,s _ _ h3,s _ _ h4,s _ _ h5,Paired.mapP h6 λ_ _ p=>p.ke λ_ _ e=>s _ _ e⟩
def am(x:Int):Bool:=decide (1<=x)&&decide (x<=(10:Int) ^ (30:Int).toNat)
def In(i:Int)(ns:List Int):Prop:=0<=i/\i<(ns.length:Int)
variable {P:Program}{w:World}{K:PySem.W.Frag}{mg:Str->Option Value}{base:Heap}{f:Addr}{fd:FuncData}
def spIx:Sp:=λvs H Q _=>∃n:Int,vs=[.int n]/\Q (.bl (am n)) H
theorem ok_ix(F:Fun K "is_amount" "is_amount" b2k f fd):a0I P w K mg base CX0 1 f fd ["number"] spIx:=by
 refine F.ok (k:=0) scIs (λvs H Q E h=>?_) (λcdv A outer s H vs Q E hr h=>?_)
 ·obtain⟨n,rfl,_⟩:=h;rfl
 obtain⟨n,rfl,q⟩:=h;refine⟨_,a0f (a0o (a2r a2j a2j a0h (pv 0) (a0q a5y a0h a0h))),?_⟩;refine⟨_,rfl,_,_,rfl,rfl,_,rfl,?_⟩;unfold am at q;refine a2c (λc=>?_) (λc=>?_)
 ·refine⟨_,_,rfl,rfl,⟨by decide,by decide,by decide⟩,_,_,rfl,rfl,?_⟩;rw[c,b9w] at q;exact q
 ·rw[b7K.mpr c,b8G] at q;exact q
def b2x:Sp:=λvs H Q _=>∃(p:Addr)(ns:List Int)(i:Int),vs=[.ref p,.int i]/\TW H p ns/\In i ns/\Q .non H
theorem scRL:a0k ["prices","letter"] ["prices","letter"] (a0g sRL):=fsk
theorem scRT:a0k ["weights","thing"] ["weights","thing"] (a0g sRTh):=fsk
theorem ok_RL(F:Fun K "refuse_letter" "refuse_letter" sRL f fd)(ml:mg "len"=none):a0I P w K mg base CX0 1 f fd ["prices","letter"] b2x:=by
 refine F.ok (k:=0) scRL (λvs H Q E h=>?_) (λcdv A outer s H vs Q E hr h=>?_)
 ·obtain⟨p,ns,i,rfl,_⟩:=h;rfl
 obtain⟨p,ns,i,rfl,hp,hi,q⟩:=h;refine⟨_,a0f (a0z (a1o (a2M a2j a4h a0h (pv 1) (pln ml (pv 0)))) (a0f (a0y)) (a0n)),?_⟩;refine⟨_,rfl,_,_,rfl,rfl,_,rfl,?_⟩;rw[b6i hi.1];refine a4S ⟨_,rfl,p,_,rfl,.inr (SqT.of hp),_,_,rfl,rfl,_,rfl,?_⟩;rw[b6b,b6i hi.2];exact a1q q
theorem ok_RT(F:Fun K "refuse_thing" "refuse_thing" sRTh f fd)(ml:mg "len"=none):a0I P w K mg base CX0 1 f fd ["weights","thing"] b2x:=by
 refine F.ok (k:=0) scRT (λvs H Q E h=>?_) (λcdv A outer s H vs Q E hr h=>?_)
 ·obtain⟨p,ns,i,rfl,_⟩:=h;rfl
 obtain⟨p,ns,i,rfl,hp,hi,q⟩:=h;refine⟨_,a0f (a0z (a1o (a2M a2j a4h a0h (pv 1) (pln ml (pv 0)))) (a0f (a0y)) (a0n)),?_⟩;refine⟨_,rfl,_,_,rfl,rfl,_,rfl,?_⟩;rw[b6i hi.1];refine a4S ⟨_,rfl,p,_,rfl,.inr (SqT.of hp),_,_,rfl,rfl,_,rfl,?_⟩;rw[b6b,b6i hi.2];exact a1q q
def b5O:Sp:=λvs H Q _=>∃(p:Addr)(ns:List Int)(i n:Int),vs=[.ref p,.int i,.int n]/\TW H p ns/\ns.length<=900/\In i ns/\am n=true/\∀p' H',a0r H H'->TW H' p' (ns.set i.toNat n)->Q (.ref p') H'
theorem scWN:a0k ["numbers","at","number"] ["numbers","at","number"] (a0g sWN):=fsk
theorem ok_WN(F:Fun K "with_number" "with_number" sWN f fd)(G:Fns P w K mg base ["number"] "is_amount" spIx 1):a0I P w K mg base CX0 2 f fd ["numbers","at","number"] b5O:=by
 refine F.ok (k:=1) scWN (λvs H Q E h=>?_) (λcdv A outer s H vs Q E hr h=>?_)
 ·obtain⟨p,ns,i,n,rfl,_⟩:=h;rfl
 obtain⟨p,ns,i,n,rfl,hp,l1,hi,c1,q1⟩:=h;refine⟨_,a0c (a0z (a1o (a1x (pcF G hr (a0a (pv 2) (a0d))))) (a0f (a0y)) (a0n))
   (a0f (a0o (a0q a3G (a0q a3G (a0X a4V (pv 0) a1m (a1n (pv 1))) (a1v (a0a (pv 2) (a0d)))) (a0X a4V (pv 0) (a1n (a0q a0K (pv 1) (a0h))) a1m)))),?_⟩
 refine⟨_,rfl,n,rfl,_,rfl,?_⟩;obtain⟨i0,i1⟩:=hi;rw[c1];refine a1q ?_;refine⟨_,rfl,_,rfl,_,rfl,p,_,rfl,hp,λp1 H1 s1 hp1=>?_⟩;rw[b2T _ _ i0,<-b8u] at hp1;refine⟨_,rfl,(by show 1<=sizeLine;decide),λp2 hp2=>?_⟩;have s2:=a0e hp2 (.tup [.int n]);refine⟨p1,p2,_,_,rfl,rfl,s2 _ _ hp1,a0b,small (by rw[b6b,b6l];show min _ _+1<=1000;omega),λp3 H3 s3 hp3=>?_⟩;refine⟨_,rfl,_,rfl,_,_,rfl,rfl,_,rfl,p,_,rfl,s3 _ _ (s2 _ _ (s1 _ _ hp)),λp4 H4 s4 hp4=>?_⟩;rw[a6A _ _ (by lia),<-List.map_drop] at hp4;refine⟨p3,p4,_,_,rfl,rfl,s4 _ _ hp3,hp4,small (by rw[b6o,b6b,b6b,b6l,b7r];show min _ _+1+_<=1000;grind),λp5 H5 s5 hp5=>?_⟩;refine q1 p5 H5 ((((s1.trans s2).trans s3).trans s4).trans s5) ?_;show H5 p5=_;have e:(i+1).toNat=i.toNat+1:=by lia
 rw[hp5,List.set_eq_take_append_cons_drop,if_pos (by grind),e,b6g,b6z,b8B];rfl
theorem scPM:a0k ["prices","letter","number"] ["prices","letter","number"] (a0g sPM):=fsk
theorem scWM:a0k ["weights","thing","number"] ["weights","thing","number"] (a0g sWM):=fsk
theorem ok_PM(F:Fun K "price_moved" "price_moved" sPM f fd)(GR:Fns P w K mg base ["prices","letter"] "refuse_letter" b2x 2)(GW:Fns P w K mg base ["numbers","at","number"] "with_number" b5O 2):a0I P w K mg base CX0 3 f fd ["prices","letter","number"] b5O:=by
 refine F.ok (k:=2) scPM (λvs H Q E h=>?_) (λcdv A outer s H vs Q E hr h=>?_)
 ·obtain⟨p,ns,i,n,rfl,_⟩:=h;rfl
 obtain⟨p,ns,i,n,rfl,hp,l1,hi,c,q⟩:=h;refine⟨_,a0c (a0J (pcF GR hr (a0a (pv 0) (a0a (pv 1) (a0d)))))
   (a0f (a0o (pcF GW hr (a0a (pv 0) (a0a (pv 1) (a0a (pv 2) (a0d))))))),?_⟩
 exact⟨_,rfl,_,rfl,p,ns,i,rfl,hp,hi,_,rfl,_,rfl,_,rfl,p,ns,i,n,rfl,hp,l1,hi,c,q⟩
theorem ok_WM(F:Fun K "weight_moved" "weight_moved" sWM f fd)(GR:Fns P w K mg base ["weights","thing"] "refuse_thing" b2x 2)(GW:Fns P w K mg base ["numbers","at","number"] "with_number" b5O 2):a0I P w K mg base CX0 3 f fd ["weights","thing","number"] b5O:=by
 refine F.ok (k:=2) scWM (λvs H Q E h=>?_) (λcdv A outer s H vs Q E hr h=>?_)
 ·obtain⟨p,ns,i,n,rfl,_⟩:=h;rfl
 obtain⟨p,ns,i,n,rfl,hp,l1,hi,c,q⟩:=h;refine⟨_,a0c (a0J (pcF GR hr (a0a (pv 0) (a0a (pv 1) (a0d)))))
   (a0f (a0o (pcF GW hr (a0a (pv 0) (a0a (pv 1) (a0a (pv 2) (a0d))))))),?_⟩
 exact⟨_,rfl,_,rfl,p,ns,i,rfl,hp,hi,_,rfl,_,rfl,_,rfl,p,ns,i,n,rfl,hp,l1,hi,c,q⟩
abbrev NDi:List Str:=["self","text","told"]
def spDi(C:Addr):Sp:=λvs H Q _=>∃(r dx:Addr)(sg nm:List Str)(q:Pw),vs=[.ref r,.str (a3n sg q.1 nm q.2)]/\H r=some (.ins C dx [])/\Bk sg q.1 nm q.2 /\
 ∀(l:Addr) H',(∀a o,a≠r->H a=some o->H' a=some o)->H l=none->a5r C H' r l sg nm q []->Q .non H'
theorem scDi:a0k NDi ["self","text"] (a0g b5L):=fsk
theorem ok_di(F:Fun K "__init__" "Desk.__init__" b5L f fd)(dc:DC K C)(GR:Fns P w K mg base ["text"] "read_book" spRb 4):a0I P w K mg base CX0 5 f fd ["self","text"] (spDi C):=by
 refine F.ok (k:=4) scDi (λvs H Q E h=>?_) (λcdv A outer s H vs Q E hr h=>?_)
 ·obtain⟨r,dx,sg,nm,q,rfl,_⟩:=h;rfl
 obtain⟨r,dx,sg,nm,q,rfl,hr0,B,qb⟩:=h;refine⟨_,a0c (psA (i:=2) scDi (pcF GR hr (a0a (pv 1) (a0d))))
   (a0c (a1e (pv 0) (pxA a0D (pv 2) (a0h)) rfl)
   (a0c (a1e (pv 0) (pxA a0D (pv 2) (a0h)) rfl)
   (a0c (a1e (pv 0) (pxA a0D (pv 2) (a0h)) rfl)
   (a0c (a1e (pv 0) (pxA a0D (pv 2) (a0h)) rfl)
   (a0f (a1e (pv 0) (a1p (a0d)) rfl)))))),?_⟩
 refine⟨_,rfl,sg,q.1,nm,q.2,rfl,B,λp H1 s1 bk=>?_⟩;obtain⟨b1,b2,b3,b4,h0,h1,h2,h3,h4⟩:=bk;have hr1:=s1 _ _ hr0;have up:∀{H':Hp}{fs gs:List (Str×V)},H' r=some (.ins C dx fs)->KeT H' (upd H' r (.ins C dx gs)):=λhr' a xs ha=>by
  rw[a0i (a0B ha hr' (by intro z;cases z))];exact ha
 have i0:atI [V.ref b1,.ref b2,.ref b3,.ref b4] 0=some (.ref b1):=rfl;have i1:atI [V.ref b1,.ref b2,.ref b3,.ref b4] 1=some (.ref b2):=rfl;have i2:atI [V.ref b1,.ref b2,.ref b3,.ref b4] 2=some (.ref b3):=rfl;have i3:atI [V.ref b1,.ref b2,.ref b3,.ref b4] 3=some (.ref b4):=rfl;have st:∀{H':Hp}{fs:List (Str×V)}(gs:List (Str×V)),KeT H1 H'->(∀a o,a≠r->H a=some o->H' a=some o)->H' r=some (.ins C dx fs)->KeT H1 (upd H' r (.ins C dx gs))/\(∀a o,a≠r->H a=some o->upd H' r (.ins C dx gs) a=some o)/\upd H' r (.ins C dx gs) r=some (.ins C dx gs):=λgs k kp hr'=>⟨λa xs e=>up hr' _ _ (k _ _ e),λa o ne ho=>by rw[a0i ne];exact kp a o ne ho,a0b⟩
 refine⟨_,rfl,p,_,_,_,rfl,rfl,SqT.of h0,i0,_,rfl,r,C,dx,_,rfl,hr1,dc.c,dc.n1,(by show 0<1000;decide),?_⟩;obtain⟨t1,k1,hs1⟩:=st (a1t "signs" (.ref b1) []) (λ_ _ e=>e) (λa o ne ho=>s1 _ _ ho) hr1;generalize upd H1 r (.ins C dx (a1t "signs" (.ref b1) []))=H2 at t1 k1 hs1 ⊢;refine⟨_,rfl,p,_,_,_,rfl,rfl,SqT.of (t1 _ _ h0),i1,_,rfl,r,C,dx,_,rfl,hs1,dc.c,dc.n2,(by show 1<1000;decide),?_⟩;obtain⟨t2,k2,hs2⟩:=st (a1t "prices" (.ref b2) (a1t "signs" (.ref b1) [])) t1 k1 hs1;generalize upd H2 r (.ins C dx (a1t "prices" (.ref b2) (a1t "signs" (.ref b1) [])))=H3 at t2 k2 hs2 ⊢;refine⟨_,rfl,p,_,_,_,rfl,rfl,SqT.of (t2 _ _ h0),i2,_,rfl,r,C,dx,_,rfl,hs2,dc.c,dc.n3,(by show 2<1000;decide),?_⟩;obtain⟨t3,k3,hs3⟩:=st (a1t "names" (.ref b3) (a1t "prices" (.ref b2) (a1t "signs" (.ref b1) []))) t2 k2 hs2;generalize upd H3 r (.ins C dx (a1t "names" (.ref b3) (a1t "prices" (.ref b2) (a1t "signs" (.ref b1) []))))=H4 at t3 k3 hs3 ⊢;refine⟨_,rfl,p,_,_,_,rfl,rfl,SqT.of (t3 _ _ h0),i3,_,rfl,r,C,dx,_,rfl,hs3,dc.c,dc.n4,(by show 3<1000;decide),?_⟩;obtain⟨t4,k4,hs4⟩:=st (a1t "weights" (.ref b4) (a1t "names" (.ref b3) (a1t "prices" (.ref b2) (a1t "signs" (.ref b1) [])))) t3 k3 hs3;generalize upd H4 r (.ins C dx (a1t "weights" (.ref b4) (a1t "names" (.ref b3) (a1t "prices" (.ref b2) (a1t "signs" (.ref b1) [])))))=H5 at t4 k4 hs4 ⊢;refine⟨(by show 0<=sizeLine;decide),λl hl=>?_⟩;have sl:=a0e hl (.lst []);have rl:l≠r:=λe=>by rw[e,hs4] at hl;cases hl
 refine⟨_,rfl,r,C,dx,_,rfl,sl _ _ hs4,dc.c,dc.n5,(by show 4<1000;decide),?_⟩;have u:∀{a:Addr}{xs:List V},H1 a=some (.tup xs)->upd (upd H5 l (.lst [])) r (.ins C dx (a1t "past" (.ref l) (a1t "weights" (.ref b4) (a1t "names" (.ref b3) (a1t "prices" (.ref b2) (a1t "signs" (.ref b1) [])))))) a=some (.tup xs):=λha=>up (sl _ _ hs4) _ _ (sl _ _ (t4 _ _ ha));have ln:H l=none:=by
  cases e:H l with
  |none=>rfl
  |some o=>have:=k4 l o rl e;rw[hl] at this;cases this
 exact qb l _ (λa o ne ho=>by rw[a0i ne];exact sl _ _ (k4 a o ne ho)) ln ⟨dx,b1,b2,b3,b4,[],a0b,u h1,u h2,u h3,u h4,by rw[a0i rl,a0b],.nil⟩
def spDb(C:Addr):Sp:=λvs H Q _=>∃(r l:Addr)(sg nm:List Str)(q:Pw)(hs:List Pw),vs=[.ref r]/\a5r C H r l sg nm q hs/\Bk sg q.1 nm q.2/\∀H',a0r H H'->Q (.str (a3n sg q.1 nm q.2)) H'
theorem scDb:a0k ["self"] ["self"] (a0g b5M):=fsk
theorem ok_db(F:Fun K "book" "Desk.book" b5M f fd)(dc:DC K C)(GB:Fns P w K mg base PBT "book_text" spBT 1):a0I P w K mg base CX0 2 f fd ["self"] (spDb C):=by
 refine F.ok (k:=1) scDb (λvs H Q E h=>?_) (λcdv A outer s H vs Q E hr h=>?_)
 ·obtain⟨r,l,sg,nm,q,hs,rfl,_⟩:=h;rfl
 obtain⟨r,l,sg,nm,q,hs,rfl,⟨dx,b1,b2,b3,b4,xs,h0,h1,h2,h3,h4,_⟩,B,qq⟩:=h;refine⟨_,a0f (a0o (pcF GB hr (a0a (a0s (pv 0) rfl) (a0a (a0s (pv 0) rfl) (a0a (a0s (pv 0) rfl) (a0a (a0s (pv 0) rfl) (a0d))))))),?_⟩;exact⟨_,rfl,r,C,dx,_,_,rfl,h0,dc.c,dc.n1,rfl,_,rfl,r,C,dx,_,_,rfl,h0,dc.c,dc.n2,rfl,_,rfl,r,C,dx,_,_,rfl,h0,dc.c,dc.n3,rfl,_,rfl,r,C,dx,_,_,rfl,h0,dc.c,dc.n4,rfl,b1,b2,b3,b4,sg,q.1,nm,q.2,rfl,h1,h2,h3,h4,B,qq⟩
theorem b3F{z:Str}{zs:List Str}{ns:List Int}(h:z∈zs)(e:zs.length=ns.length):In ((zs.idxOf z:Nat):Int) ns:=⟨Int.natCast_nonneg _,by have:=List.idxOf_lt_length_of_mem h;lia⟩
abbrev NPP:List Str:=["self","sign","price"]
abbrev NPW:List Str:=["self","name","weight"]
def mvd(b:Bool)(sg nm:List Str)(q:Pw)(z:Str)(n:Int):Pw:=if b then (q.1.set (sg.idxOf z) n,q.2) else (q.1,q.2.set (nm.idxOf z) n)
def a6M(b:Bool)(C:Addr):Sp:=λvs H Q _=>∃(r l:Addr)(sg nm:List Str)(q:Pw)(hs:List Pw)(z:Str)(n:Int),vs=[.ref r,.str z,.int n]/\a5r C H r l sg nm q hs/\hs.length<=900/\sg.length=q.1.length/\nm.length=q.2.length/\q.1.length<=900/\q.2.length<=900 /\
 z∈(if b then sg else nm)/\am n=true/\(∀H',K2 r l H H'->a5r C H' r l sg nm (mvd b sg nm q z n) (hs++[q])->Q .non H')
theorem scPP:a0k NPP NPP (a0g mPP):=fsk
theorem scPW:a0k NPW NPW (a0g mPW):=fsk
theorem b0F{r l dx b1 b2 b3 b4 t b2' b4':Addr}{fs:List (Str×V)}(hn:H t=none)(h0:H r=some (.ins C dx (b0S b1 b2 b3 b4 l)))(h1:H b1=some (.tup (sg.map V.str)))(h2:H b2=some (.tup (q.1.map V.int)))(h3:H b3=some (.tup (nm.map V.str)))(h4:H b4=some (.tup (q.2.map V.int)))(h5:H l=some (.lst xs))(h6:Paired (PwAt H) xs hs)
  (e2:H2=upd (upd H t (.tup [.ref b2,.ref b4])) l (.lst (xs++[.ref t])))(s3:a0r H2 H3)(g2:H3 b2'=some (.tup (q'.1.map V.int)))(g4:H3 b4'=some (.tup (q'.2.map V.int))):K2 r l H (upd H3 r (.ins C dx (b0S b1 b2' b3 b4' l)))/\a5r C (upd H3 r (.ins C dx (b0S b1 b2' b3 b4' l))) r l sg nm q' (hs++[q]):=by
 have tl:t≠l:=λe=>by rw[e,h5] at hn;cases hn
 have tr:t≠r:=λe=>by rw[e,h0] at hn;cases hn
 have rl:r≠l:=a0B h0 h5 (by intro z;cases z);have k1:∀a o,a≠l->H a=some o->H2 a=some o:=λa o na ha=>by
  rw[e2,a0i na,a0i (λe=>by rw[e,hn] at ha;cases ha)];exact ha
 have k2:K2 r l H (upd H3 r (.ins C dx (b0S b1 b2' b3 b4' l))):=λa o na nl ha=>by rw[a0i na];exact s3 _ _ (k1 a o nl ha)
 have ke:=k2.ke h0 h5;have hr3:H3 r=some (.ins C dx (b0S b1 b2 b3 b4 l)):=s3 _ _ (k1 r _ rl h0);have kt:KeT H3 (upd H3 r (.ins C dx (b0S b1 b2' b3 b4' l))):=λa ys ha=>by rw[a0i (a0B ha hr3 (by intro z;cases z))];exact ha
 refine⟨k2,dx,b1,b2',b3,b4',xs++[.ref t],a0b,ke _ _ h1,kt _ _ g2,ke _ _ h3,kt _ _ g4,?_,Paired.appendP (Paired.mapP h6 λ_ _ p=>p.ke ke) (.cons ⟨t,b2,b4,rfl,?_,ke _ _ h2,ke _ _ h4⟩ .nil)⟩
 ·rw[a0i (Ne.symm rl)];refine s3 _ _ ?_;rw[e2,a0b]
 ·rw[a0i tr];refine s3 _ _ ?_;rw[e2,a0i tl,a0b]
theorem ok_pp{C:Addr}(F:Fun K "put_price" "Desk.put_price" mPP f fd)(dc:DC K C)(GI:Fns P w K mg base ["number"] "is_amount" spIx 3)(GM:Fns P w K mg base ["prices","letter","number"] "price_moved" b5O 3):a0I P w K mg base CX0 4 f fd NPP (a6M true C):=by
 refine F.ok (k:=3) scPP (λvs H Q E h=>?_) (λcdv A outer s H vs Q E hr h=>?_)
 ·obtain⟨r,l,sg,nm,q,hs,z,n,rfl,_⟩:=h;rfl
 obtain⟨r,l,sg,nm,q,hs,z,n,rfl,⟨dx,b1,b2,b3,b4,xs,h0,h1,h2,h3,h4,h5,h6⟩,h9,e1,e2,p9,w9,zi,c2,qq⟩:=h;refine⟨_,a0c (a0z (a0p a1Q (pv 1) (a0s (pv 0) rfl) rfl) (a0f a0y) (a0n))
   (a0c (a0z (a1o (a1x (pcF GI hr (a0a (pv 2) (a0d))))) (a0f a0y) (a0n))
   (a0c (a0J (a1N b6E b6S b6T a1b (a0s (pv 0) rfl) (a0a (a1v (a0a (a0s (pv 0) rfl) (a0a (a0s (pv 0) rfl) (a0d)))) (a0d))))
   (a0f (a1e (pv 0) (pcF GM hr (a0a (a0s (pv 0) rfl) (a0a (a7v b8e b8D (a2W K) (a0s (pv 0) rfl) (a0a (pv 1) (a0d))) (a0a (pv 2) (a0d))))) rfl)))),?_⟩
 refine⟨_,rfl,_,rfl,r,C,dx,_,_,rfl,h0,dc.c,dc.n1,rfl,b1,_,rfl,.inr (SqT.of h1),rfl,a1c _,_,rfl,?_⟩;rw[if_pos rfl] at zi;rw[a1H,b6i zi];refine a1q ?_;refine⟨_,rfl,n,rfl,_,rfl,?_⟩;rw[c2];refine a1q ?_;refine⟨_,rfl,r,C,dx,_,_,rfl,h0,dc.c,dc.n5,rfl,.inl ⟨rfl,_,SqL.of h5⟩,_,rfl,r,C,dx,_,_,rfl,h0,dc.c,dc.n2,rfl,_,rfl,r,C,dx,_,_,rfl,h0,dc.c,dc.n4,rfl,(by show 2<=sizeLine;decide),λt ht=>?_⟩;have lt:xs.length=hs.length:=h6.length;have st:=a0e ht (.tup [.ref b2,.ref b4]);have tl:t≠l:=λe=>by rw[e,h5] at ht;cases ht
 refine⟨l,_,_,rfl,rfl,st _ _ h5,a0j (by lia),?_⟩;have rl:r≠l:=a0B h0 h5 (by intro z;cases z);obtain⟨H2,eH2⟩:∃H2,H2=upd (upd H t (.tup [.ref b2,.ref b4])) l (.lst (xs++[.ref t])):=⟨_,rfl⟩
 rw[<-eH2];have k1:∀a o,a≠l->H a=some o->H2 a=some o:=λa o na ha=>by rw[eH2,a0i na];exact st _ _ ha
 have h0':=k1 _ _ rl h0;have nt:∀{a:Addr}{ys:List V},H a=some (.tup ys)->a≠l:=λha=>a0B ha h5 (by intro z;cases z);refine⟨_,rfl,r,C,dx,_,_,rfl,h0',dc.c,dc.n2,rfl,_,rfl,r,C,dx,_,_,rfl,h0',dc.c,dc.n1,rfl,⟨b1,_,rfl,k1 _ _ (nt h1) h1⟩,_,rfl,b1,sg,z,rfl,rfl,SqT.of (k1 _ _ (nt h1) h1),zi,_,rfl,b2,q.1,_,n,rfl,k1 _ _ (nt h2) h2,p9,b3F zi e1,c2,λp' H3 s3 hp'=>?_⟩;obtain⟨kk,dd⟩:=b0F (q':=mvd true sg nm q z n) (fs:=[]) ht h0 h1 h2 h3 h4 h5 h6 eH2 s3 (b2':=p') (b4':=b4) hp' (s3 _ _ (k1 _ _ (nt h4) h4));exact⟨_,rfl,r,C,dx,_,rfl,s3 _ _ h0',dc.c,dc.n2,(by show 5<1000;decide),qq _ kk dd⟩
theorem ok_pw{C:Addr}(F:Fun K "put_weight" "Desk.put_weight" mPW f fd)(dc:DC K C)(GI:Fns P w K mg base ["number"] "is_amount" spIx 3)(GM:Fns P w K mg base ["weights","thing","number"] "weight_moved" b5O 3):a0I P w K mg base CX0 4 f fd NPW (a6M false C):=by
 refine F.ok (k:=3) scPW (λvs H Q E h=>?_) (λcdv A outer s H vs Q E hr h=>?_)
 ·obtain⟨r,l,sg,nm,q,hs,z,n,rfl,_⟩:=h;rfl
 obtain⟨r,l,sg,nm,q,hs,z,n,rfl,⟨dx,b1,b2,b3,b4,xs,h0,h1,h2,h3,h4,h5,h6⟩,h9,e1,e2,p9,w9,zi,c2,qq⟩:=h;refine⟨_,a0c (a0z (a0p a1Q (pv 1) (a0s (pv 0) rfl) rfl) (a0f a0y) (a0n))
   (a0c (a0z (a1o (a1x (pcF GI hr (a0a (pv 2) (a0d))))) (a0f a0y) (a0n))
   (a0c (a0J (a1N b6E b6S b6T a1b (a0s (pv 0) rfl) (a0a (a1v (a0a (a0s (pv 0) rfl) (a0a (a0s (pv 0) rfl) (a0d)))) (a0d))))
   (a0f (a1e (pv 0) (pcF GM hr (a0a (a0s (pv 0) rfl) (a0a (a7v b8e b8D (a2W K) (a0s (pv 0) rfl) (a0a (pv 1) (a0d))) (a0a (pv 2) (a0d))))) rfl)))),?_⟩
 refine⟨_,rfl,_,rfl,r,C,dx,_,_,rfl,h0,dc.c,dc.n3,rfl,b3,_,rfl,.inr (SqT.of h3),rfl,a1c _,_,rfl,?_⟩;rw[if_neg (by decide)] at zi;rw[a1H,b6i zi];refine a1q ?_;refine⟨_,rfl,n,rfl,_,rfl,?_⟩;rw[c2];refine a1q ?_;refine⟨_,rfl,r,C,dx,_,_,rfl,h0,dc.c,dc.n5,rfl,.inl ⟨rfl,_,SqL.of h5⟩,_,rfl,r,C,dx,_,_,rfl,h0,dc.c,dc.n2,rfl,_,rfl,r,C,dx,_,_,rfl,h0,dc.c,dc.n4,rfl,(by show 2<=sizeLine;decide),λt ht=>?_⟩;have lt:xs.length=hs.length:=h6.length;have st:=a0e ht (.tup [.ref b2,.ref b4]);have tl:t≠l:=λe=>by rw[e,h5] at ht;cases ht
 refine⟨l,_,_,rfl,rfl,st _ _ h5,a0j (by omega),?_⟩;have rl:r≠l:=a0B h0 h5 (by intro z;cases z);obtain⟨H2,eH2⟩:∃H2,H2=upd (upd H t (.tup [.ref b2,.ref b4])) l (.lst (xs++[.ref t])):=⟨_,rfl⟩
 rw[<-eH2];have k1:∀a o,a≠l->H a=some o->H2 a=some o:=λa o na ha=>by rw[eH2,a0i na];exact st _ _ ha
 have h0':=k1 _ _ rl h0;have nt:∀{a:Addr}{ys:List V},H a=some (.tup ys)->a≠l:=λha=>a0B ha h5 (by intro z;cases z);refine⟨_,rfl,r,C,dx,_,_,rfl,h0',dc.c,dc.n4,rfl,_,rfl,r,C,dx,_,_,rfl,h0',dc.c,dc.n3,rfl,⟨b3,_,rfl,k1 _ _ (nt h3) h3⟩,_,rfl,b3,nm,z,rfl,rfl,SqT.of (k1 _ _ (nt h3) h3),zi,_,rfl,b4,q.2,_,n,rfl,k1 _ _ (nt h4) h4,w9,b3F zi e2,c2,λp' H3 s3 hp'=>?_⟩;obtain⟨kk,dd⟩:=b0F (q':=mvd false sg nm q z n) (fs:=[]) ht h0 h1 h2 h3 h4 h5 h6 eH2 s3 (b2':=b2) (b4':=p') (s3 _ _ (k1 _ _ (nt h2) h2)) hp';exact⟨_,rfl,r,C,dx,_,rfl,s3 _ _ h0',dc.c,dc.n4,(by show 5<1000;decide),qq _ kk dd⟩
abbrev NDk:List Str:=["self","ahead"]
def spDk(C:Addr):Sp:=λvs H Q _=>∃(r l:Addr)(sg nm:List Str)(q:Pw)(hs:List Pw),vs=[.ref r]/\a5r C H r l sg nm q hs/\hs.length<=900/\hs≠[] /\
 (∀hs' q',hs=hs'++[q']->∀H',K2 r l H H'->a5r C H' r l sg nm q' hs'->Q .non H')
theorem scDk:a0k NDk ["self"] (a0g b5N):=fsk
theorem ok_dk(F:Fun K "back" "Desk.back" b5N f fd)(dc:DC K C)(ml:mg "len"=none):a0I P w K mg base CX0 4 f fd ["self"] (spDk C):=by
 refine F.ok (k:=3) scDk (λvs H Q E h=>?_) (λcdv A outer s H vs Q E hr h=>?_)
 ·obtain⟨r,l,sg,nm,q,hs,rfl,_⟩:=h;rfl
 obtain⟨r,l,sg,nm,q,hs,rfl,⟨dx,b1,b2,b3,b4,xs,h0,h1,h2,h3,h4,h5,h6⟩,h9,qe,qq⟩:=h;refine⟨_,a0c (a0z (a0p a0U (pln ml (a0s (pv 0) rfl)) (a0h) (nomark _)) (a0f a0y) (a0n))
   (a0c (psA (i:=1) scDk (b2O b6E PySem.F.slot_list_pop PySem.F.type_list_pop b2P (a0s (pv 0) rfl)))
   (a0c (a1e (pv 0) (pxA a0D (pv 1) (a0h)) rfl)
   (a0f (a1e (pv 0) (pxA a0D (pv 1) (a0h)) rfl)))),?_⟩
 have lt:xs.length=hs.length:=h6.length;refine⟨_,rfl,r,C,dx,_,_,rfl,h0,dc.c,dc.n5,rfl,l,_,rfl,.inl (SqL.of h5),rfl,_,rfl,a2c (λc=>?_) (λc=>?_)⟩
 ·have c:((xs.length:Nat):Int)=0:=V.int.inj (b6B c);exact qe (b9P (by lia))
 have c:¬((xs.length:Nat):Int)=0:=λe=>c (b6i (b7d V.int e));obtain⟨hs',q',rfl⟩:∃hs' q',hs=hs'++[q']:=by
  rcases List.eq_nil_or_concat hs with e|⟨a,b,e⟩
  ·rw[e] at lt;exact absurd (by rw[lt];rfl) c
  ·exact⟨a,b,by rw[e,List.concat_eq_append]⟩
 have ll:xs.length=hs'.length+1:=by rw[lt,b6o];rfl
 obtain⟨y,hy⟩:∃y,xs[xs.length-1]?=some y:=⟨_,b6f (by lia)⟩
 obtain⟨q2,hq2,t,a2,a4,rfl,g0,g2,g4⟩:=Paired.right_of h6 _ _ hy;have eq2:q2=q':=by
  rw[ll,c0o,b6U (b6k _),c0M] at hq2;exact(b6I hq2).symm
 subst eq2;refine⟨_,rfl,r,C,dx,_,_,rfl,h0,dc.c,dc.n5,rfl,.inl ⟨rfl,_,SqL.of h5⟩,l,_,_,rfl,rfl,h5,hy,?_⟩;have rl:r≠l:=a0B h0 h5 (by intro z;cases z);have k1:∀a o,a≠l->H a=some o->upd H l (.lst xs.dropLast) a=some o:=λa o na ha=>by rw[a0i na];exact ha
 have gl:upd H l (.lst xs.dropLast) l=some (.lst xs.dropLast):=a0b;generalize upd H l (.lst xs.dropLast)=H1 at k1 gl ⊢;have nt:∀{a:Addr}{ys:List V},H a=some (.tup ys)->H1 a=some (.tup ys):=λha=>k1 _ _ (a0B ha h5 (by intro z;cases z)) ha;have h01:=k1 _ _ rl h0;refine⟨_,rfl,t,_,_,_,rfl,rfl,SqT.of (nt g0),(rfl:atI [V.ref a2,.ref a4] 0=some (.ref a2)),_,rfl,r,C,dx,_,rfl,h01,dc.c,dc.n2,(by show 5<1000;decide),?_⟩;have up:∀{H':Hp}{fs gs:List (Str×V)},H' r=some (.ins C dx fs)->KeT H' (upd H' r (.ins C dx gs)):=λhr' a xs ha=>by
  rw[a0i (a0B ha hr' (by intro z;cases z))];exact ha
 have gt:upd H1 r (.ins C dx (a1t "prices" (.ref a2) (b0S b1 b2 b3 b4 l))) t=some (.tup [.ref a2,.ref a4]):=up h01 _ _ (nt g0);refine⟨_,rfl,t,_,_,_,rfl,rfl,SqT.of gt,(rfl:atI [V.ref a2,.ref a4] 1=some (.ref a4)),_,rfl,r,C,dx,_,rfl,a0b,dc.c,dc.n4,(by show 5<1000;decide),?_⟩;have kk:K2 r l H (upd (upd H1 r (.ins C dx (a1t "prices" (.ref a2) (b0S b1 b2 b3 b4 l)))) r (.ins C dx (a1t "weights" (.ref a4) (a1t "prices" (.ref a2) (b0S b1 b2 b3 b4 l))))):=λa o na nl ha=>by rw[a0i na,a0i na];exact k1 a o nl ha
 have ke:=kk.ke h0 h5;refine qq hs' q2 rfl _ kk ⟨dx,b1,a2,b3,a4,xs.dropLast,a0b,ke _ _ h1,ke _ _ g2,ke _ _ h3,ke _ _ g4,by rw[a0i (Ne.symm rl),a0i (Ne.symm rl)];exact gl,?_⟩;have:=Paired.mapP h6 λ_ _ p=>p.ke ke;have:=Paired.takeP hs'.length this;rw[List.take_left] at this;rw[List.dropLast_eq_take,ll,c0o];exact this
theorem b0G(K:PySem.W.Frag)(hK:X.K=K:=by rfl):OpR X (compareOp .In) (rIn K false):=by subst hK;exact a1V
theorem a4c(K:PySem.W.Frag){f:Str}{pos:Pos}(he:PE X e ta)(hb:attributeBase e f X.env (eval e X.env)=eval e X.env)(hK:X.K=K:=by rfl):PE X (.Attribute e f pos) (tFld K ta f):=by subst hK;exact a0s he hb
def alone:List Str:=[Str.ofString "cost",Str.ofString "many",Str.ofString "free"]
def wnum:List Str:=[Str.ofString "code",Str.ofString "bounded"]
def wword:List Str:=[Str.ofString "sure",Str.ofString "price",Str.ofString "weight",Str.ofString "read"]
def a2A:Str:=Str.ofString "write"
def a7F:Str:=Str.ofString "price"
def a2Y:Str:=Str.ofString "read"
structure Wc(K:PySem.W.Frag)(mg:Str->Option Value)(a1 a2 a3:Addr):Prop where
 g1:mg "ALONE"=some (.ref a1)
 g2:mg "WITH_NUMBER"=some (.ref a2)
 g3:mg "WITH_WORD"=some (.ref a3)
 s1:∀H,SqT K H a1 (alone.map V.str)
 s2:∀H,SqT K H a2 (wnum.map V.str)
 s3:∀H,SqT K H a3 (wword.map V.str)
def full(W:List Str):Bool:=W.all λz=>decide (z.length>0)
def isQ(W:List Str):Bool:=full W&&match W with
 |[]=>false
 |[a]=>decide (a∈alone)
 |a::b::r=>decide (a=a2A)||(r.isEmpty&&(decide (a∈wword)||(decide (a∈wnum)&&nuB b)))
def kn(sg nm:List Str)(W:List Str):Bool:=match W with
 |[]=>true
 |a::r=>if a=a7F then decide (r.headD Str.empty∈sg) else if a=a2Y then (r.headD Str.empty).cps.toList.all λc=>decide ((⟨#[c]⟩:Str)∈sg) else if a∈wnum then true else r.all λz=>decide (z∈nm)
def Wo(W:List Str):Prop:=1<=W.length/\W.length<=900/\∀z∈W,Asc z/\z.length<=900
abbrev NIq:List Str:=["words"]
def spIq:Sp:=λvs H Q _=>∃(a:Addr)(W:List Str),vs=[.ref a]/\H a=some (.lst (W.map V.str))/\Wo W/\∀H',a0r H H'->Q (.bl (isQ W)) H'
theorem scIq:a0k NIq NIq (a0g sIsQ):=fsk
theorem ndIq:(("word":Str)::NIq).Nodup:=by decide +kernel
theorem b0H:decide (V.int a=V.int b)=decide (a=b):=b9O.mpr ⟨V.int.inj,b7d _⟩
theorem a4E:decide (V.str a=V.str b)=decide (a=b):=b9O.mpr ⟨V.str.inj,b7d _⟩
theorem a1z{W:List Str}{j:Nat}{z:Str}(h:W[j]?=some z):atI (W.map V.str) (j:Int)=some (.str z):=a1M (by rw[b6p,h];rfl)
theorem ok_iq{a1 a2 a3:Addr}(F:Fun K "is_question" "is_question" sIsQ f fd)(wc:Wc K mg a1 a2 a3)(GN:Fns P w K mg base NNu "is_number" spNx 1)(ml:mg "len"=none)(ma:mg "all"=none):a0I P w K mg base CX0 2 f fd NIq spIq:=by
 refine F.ok (k:=1) scIq (λvs H Q E h=>?_) (λcdv A outer s H vs Q E hr h=>?_)
 ·obtain⟨a,W,rfl,_⟩:=h;rfl
 obtain⟨a,W,rfl,ha,⟨w1,w9,wz⟩,qq⟩:=h;refine⟨_,a0c (a0z (a1o (a1x (a0C (a1E rfl) (by rfl) ma a4k (a0a (a0Y (M:=NIq) rfl (cso (a0g sIsQ) NIq) ndIq rfl (pv 0) a0E (λcl C s0 H0 fp=>⟨a0v,a0H a7M (a0C a1f (by rfl) ml b7E (a0a (pv 0) (a0d))) a0h (nomark _)⟩)) (a0d))))) (a0f (a0o a6t)) (a0n))
   (a0c (a0z (a0p a0U (pln ml (pv 0)) (a0h) (nomark _)) (a0f (a0o (a0H a1V (pxA a0m (pv 0) (a0h)) (a2a (v:=.ref a1) (by rfl) wc.g1 rfl) rfl))) (a0n))
   (a0c (a0z (a0p a0U (pxA a0m (pv 0) (a0h)) (a0t) (nomark _)) (a0f (a0o a6t)) (a0n))
   (a0c (a0z (a0p a7M (pln ml (pv 0)) (a0h) (nomark _)) (a0f (a0o a6t)) (a0n))
   (a0f (a0o (b3R (a0H a1V (pxA a0m (pv 0) (a0h)) (a2a (v:=.ref a3) (by rfl) wc.g3 rfl) rfl) (a2x (a2i (a0H a1V (pxA a0m (pv 0) (a0h)) (a2a (v:=.ref a2) (by rfl) wc.g2 rfl) rfl) (a2x (pcF GN hr (a0a (pxA a0m (pv 0) (a0h)) (a0d)))))))))))),?_⟩
 refine⟨_,rfl,a,_,rfl,SqL.of ha,λd hd=>?_⟩;refine⟨λi H'=>a0r H H'/\H' d=some (.lst (((W.take i).map λz=>decide (z.length>0)).map V.bl)),⟨a0e hd _,a0b⟩,λi H' _ hP=>SqL.of (hP.1 _ _ ha),λi x H' hx hP=>?_,λH' hP=>?_⟩
 ·obtain⟨s5,hz⟩:=hP;rw[b6p] at hx;obtain⟨z,hz',rfl⟩:=b6A.mp hx;have il:=(b6d.mp hz').1;have:=(wz z (b6h hz')).2;refine a0u ⟨_,rfl,z,rfl,a6R (by lia),_,_,rfl,rfl,_,hz,?_,a0l hd s5,?_⟩
  ·rw[b6b,b6b,b6l];exact lt5 (by grind)
  ·rw[a0b,b6s,hz',b6g,b6g];refine b7d (λb=>some (HO.lst (_++[V.bl b]))) (b9O.mpr ?_);simp
 obtain⟨s5,hz⟩:=hP;rw[b6b,b6v] at hz;refine⟨d,_,rfl,hz,_,rfl,?_⟩;have ef:(W.map λz=>decide (z.length>0)).all id=full W:=by rw[c0p];rfl
 rw[ef];unfold isQ at qq;cases hf:full W with
 |false=>
  rw[hf,b8G] at qq;exact a4S (qq H' s5)
 |true=>
 rw[hf,b9w] at qq;refine a1q ?_;have ha':=s5 _ _ ha;refine⟨_,rfl,a,_,rfl,.inl (SqL.of ha'),rfl,_,rfl,?_⟩;rw[b6b,b0H];obtain⟨z,r,rfl⟩:∃z r,W=z::r:=by
  cases W with
  |nil=>exact absurd w1 (by decide)
  |cons z r=>exact⟨z,r,rfl⟩
 cases r with
 |nil=>
  refine a4S ⟨_,rfl,a,_,_,_,rfl,rfl,SqL.of ha',(a1z (j:=0) rfl),a1,_,rfl,.inr (wc.s1 _),rfl,a1c _,?_⟩;rw[if_neg (by decide),a1H];exact qq H' s5
 |cons b r=>
 have n1:¬(((z::b::r).length:Nat):Int)=1:=by rw[b6F,b6F];lia
 rw[b6w n1];refine a1q ?_;refine⟨_,rfl,a,_,_,_,rfl,rfl,SqL.of ha',(a1z (j:=0) rfl),rfl,_,rfl,?_⟩;rw[a4E];refine a2c (λc=>?_) (λc=>?_)
 ·have c:=b6B c;have qq:=qq H' s5;dsimp only at qq;rw[b6i (show z=a2A from c),c0L] at qq;exact qq
 have c:=b9x (b7K.mpr c);dsimp only at qq;rw[b6w (show ¬z=a2A from c),c0B] at qq;refine⟨_,rfl,a,_,rfl,.inl (SqL.of ha'),_,_,rfl,rfl,_,rfl,?_⟩;rw[b6b];cases r with
 |cons x r=>
  have n2:(((z::b::x::r).length:Nat):Int)>2:=by rw[b6F,b6F,b6F];lia
  rw[b6i n2];exact a4S (qq H' s5)
 |nil=>
 refine a1q ?_;refine⟨_,rfl,a,_,_,_,rfl,rfl,SqL.of ha',(a1z (j:=0) rfl),a3,_,rfl,.inr (wc.s3 _),rfl,a1c _,?_⟩;rw[if_neg (by decide),a1H];have qq:∀H',a0r H H'->Q (.bl (decide (z∈wword)||(decide (z∈wnum)&&nuB b))) H':=qq;refine⟨_,rfl,a2c (λc=>?_) (λc=>?_)⟩
 ·rw[c,c0L] at qq;exact qq H' s5
 rw[b7K.mpr c,c0B] at qq;refine⟨_,rfl,a,_,_,_,rfl,rfl,SqL.of ha',(a1z (j:=0) rfl),a2,_,rfl,.inr (wc.s2 _),rfl,a1c _,?_⟩;rw[if_neg (by decide),a1H];refine⟨_,rfl,a2c (λc2=>?_) (λc2=>?_)⟩
 ·rw[c2,b9w] at qq;have:=wz b (.tail _ (.head _));exact⟨_,rfl,a,_,_,_,rfl,rfl,SqL.of ha',(a1z (j:=1) rfl),b,rfl,this.1,by lia,λH2 s2=>qq H2 (s5.trans s2)⟩
 ·rw[b7K.mpr c2,b8G] at qq;exact qq H' s5
abbrev NKw:List Str:=["self","words"]
def spKw(C:Addr):Sp:=λvs H Q _=>∃(r l a:Addr)(sg nm:List Str)(q:Pw)(hs:List Pw)(W:List Str),vs=[.ref r,.ref a]/\a5r C H r l sg nm q hs/\H a=some (.lst (W.map V.str))/\Wo W/\isQ W=true/\∀H',a0r H H'->Q (.bl (kn sg nm W)) H'
theorem scKw:a0k NKw NKw (a0g a6k):=fsk
theorem ndKw1:(("sign":Str)::NKw).Nodup:=by decide +kernel
theorem ndKw2:(("name":Str)::NKw).Nodup:=by decide +kernel
theorem b0I(h:isQ (z::r)=true)(e:z=a7F\/z=a2Y):∃b r',r=b::r':=by
 cases r with
 |cons b r=>exact⟨b,r,rfl⟩
 |nil=>
  exfalso;unfold isQ at h;have h2:=(b6Y _ _ |>.mp h).2;have h3:z∈alone:=b6B h2;rcases e with e|e
  ·rw[e] at h3;exact absurd h3 (by decide +kernel)
  ·rw[e] at h3;exact absurd h3 (by decide +kernel)
theorem ok_kw{C a1 a2 a3:Addr}(F:Fun K "knows" "Desk.knows" a6k f fd)(dc:DC K C)(wc:Wc K mg a1 a2 a3)(ma:mg "all"=none):a0I P w K mg base CX0 1 f fd NKw (spKw C):=by
 refine F.ok (k:=0) scKw (λvs H Q E h=>?_) (λcdv A outer s H vs Q E hr h=>?_)
 ·obtain⟨r,l,a,sg,nm,q,hs,W,rfl,_⟩:=h;rfl
 obtain⟨r,l,a,sg,nm,q,hs,W,rfl,⟨dx,b1,b2,b3,b4,xs,h0,h1,h2,h3,h4,h5,h6⟩,ha,⟨w1,w9,wz⟩,hq,qq⟩:=h;refine⟨_,a0c (a0z (a0p a0U (pxA a0m (pv 1) (a0h)) (a0t) (nomark _)) (a0f (a0o (a0H a1V (pxA a0m (pv 1) (a0h)) (a0s (pv 0) rfl) rfl))) (a0n))
   (a0c (a0z (a0p a0U (pxA a0m (pv 1) (a0h)) (a0t) (nomark _)) (a0f (a0o (a0C (a1E rfl) (by rfl) ma a4k (a0a (a1L (M:=NKw) rfl (cso (a0g a6k) NKw) ndKw1 rfl (a3j (pxA a0m (pv 1) (a0h))) a4v (λcl C s0 H0 fp=>⟨a0v,a0H (b0G K) (pv 0) (a4c K (pv 1) rfl) rfl⟩)) (a0d))))) (a0n))
   (a0c (a0z (a0p a1V (pxA a0m (pv 1) (a0h)) (a2a (v:=.ref a2) (by rfl) wc.g2 rfl) rfl) (a0f (a0o a6t)) (a0n))
   (a0f (a0o (a0C (a1E rfl) (by rfl) ma a4k (a0a (a0Y (M:=NKw) rfl (cso (a0g a6k) NKw) ndKw2 rfl (a3j (a0X a3d (pv 1) (a1n a0h) a1m)) a4v (λcl C s0 H0 fp=>⟨a0v,a0H (b0G K) (pv 0) (a4c K (pv 1) rfl) rfl⟩)) (a0d))))))),?_⟩
 obtain⟨z,rs,rfl⟩:∃z r,W=z::r:=by
  cases W with
  |nil=>exact absurd w1 (by decide)
  |cons z r=>exact⟨z,r,rfl⟩
 unfold kn at qq;dsimp only at qq;refine⟨_,rfl,a,_,_,_,rfl,rfl,SqL.of ha,(a1z (j:=0) rfl),rfl,_,rfl,?_⟩;rw[a4E];refine a2c (λc=>?_) (λc=>?_)
 ·have c:z=a7F:=b6B c;rw[if_pos c] at qq;obtain⟨b,r',rfl⟩:=b0I hq (.inl c);refine⟨_,rfl,a,_,_,_,rfl,rfl,SqL.of ha,(a1z (j:=1) rfl),_,rfl,r,C,dx,_,_,rfl,h0,dc.c,dc.n1,rfl,b1,_,rfl,.inr (SqT.of h1),rfl,a1c _,?_⟩;rw[if_neg (by decide),a1H];exact qq H (a0r.refl _)
 have c:¬z=a7F:=b9x (b7K.mpr c);rw[if_neg c] at qq;refine⟨_,rfl,a,_,_,_,rfl,rfl,SqL.of ha,(a1z (j:=0) rfl),rfl,_,rfl,?_⟩;rw[a4E];refine a2c (λc2=>?_) (λc2=>?_)
 ·have c2:z=a2Y:=b6B c2;rw[if_pos c2] at qq;obtain⟨b,r',rfl⟩:=b0I hq (.inr c2);have wb:=wz b (.tail _ (.head _));refine⟨λv H'=>H=H'/\v=.str b,⟨_,rfl,a,_,_,_,rfl,rfl,SqL.of ha,(a1z (j:=1) rfl),rfl,rfl⟩,?_⟩;rintro v H' ⟨rfl,rfl⟩;refine⟨b,rfl,wb.1,λd hd=>?_⟩;refine⟨λi H'=>a0r H H'/\H' d=some (.lst (((b.cps.toList.take i).map λc=>decide ((⟨#[c]⟩:Str)∈sg)).map V.bl)),⟨a0e hd _,a0b⟩,λi c H' hc hP=>?_,λH' hP=>?_⟩
  ·obtain⟨s5,hz⟩:=hP;have il:=(b6d.mp hc).1;have e:b.cps.toList.length=b.length:=b6H;refine a0u ⟨_,rfl,_,rfl,r,C,dx,_,_,rfl,s5 _ _ h0,dc.c,dc.n1,rfl,b1,_,rfl,.inr (SqT.of (s5 _ _ h1)),rfl,a1c _,_,hz,?_,a0l hd s5,?_⟩
   ·rw[b6b,b6b,b6l];exact lt5 (by grind)
   ·rw[a0b,if_neg (by decide),a1H,b6s,hc,b6g,b6g];rfl
  ·obtain⟨s5,hz⟩:=hP;rw[show b.cps.size=b.cps.toList.length from b6H.symm,b6v] at hz;refine⟨d,_,rfl,hz,?_⟩;rw[c0p];exact qq H' s5
 have c2:¬z=a2Y:=b9x (b7K.mpr c2);rw[if_neg c2] at qq;refine⟨_,rfl,a,_,_,_,rfl,rfl,SqL.of ha,(a1z (j:=0) rfl),a2,_,rfl,.inr (wc.s2 _),rfl,a1c _,_,rfl,?_⟩;rw[if_neg (by decide),a1H];refine a2c (λc3=>?_) (λc3=>?_)
 ·rw[if_pos (b6B c3)] at qq;exact qq H (a0r.refl _)
 rw[if_neg (b9x (b7K.mpr c3))] at qq;refine⟨λv H'=>a0r H H'/\∃p,v=.ref p/\H' p=some (.lst (rs.map V.str)),?_,?_⟩
 ·refine⟨_,rfl,_,rfl,a,_,rfl,SqL.of ha,λp hp=>⟨a0e hp _,p,rfl,?_⟩⟩;rw[a0b,a6A _ _ (by decide)];rfl
 rintro v H1 ⟨s1,p,rfl,hp⟩;refine⟨p,_,rfl,SqL.of hp,λd hd=>?_⟩;refine⟨λi H'=>a0r H1 H'/\H' d=some (.lst (((rs.take i).map λz=>decide (z∈nm)).map V.bl)),⟨a0e hd _,a0b⟩,λi H' _ hP=>SqL.of (hP.1 _ _ hp),λi x H' hx hP=>?_,λH' hP=>?_⟩
 ·obtain⟨s5,hz⟩:=hP;rw[b6p] at hx;obtain⟨u,hu,rfl⟩:=b6A.mp hx;have il:=(b6d.mp hu).1;rw[b6F] at w9;have s15:=s1.trans s5;refine a0u ⟨_,rfl,_,rfl,r,C,dx,_,_,rfl,s15 _ _ h0,dc.c,dc.n3,rfl,b3,_,rfl,.inr (SqT.of (s15 _ _ h3)),rfl,a1c _,_,hz,?_,a0l hd s5,?_⟩
  ·rw[b6b,b6b,b6l];exact lt5 (by grind)
  ·rw[a0b,if_neg (by decide),a1H,b6s,hu,b6g,b6g];rfl
 ·obtain⟨s5,hz⟩:=hP;rw[b6b,b6v] at hz;refine⟨d,_,rfl,hz,?_⟩;rw[c0p];exact qq H' (s1.trans s5)
theorem sg_ok(c:Int)(n:Nat):∀z∈sgL c n,Nm 1 z:=λz hz=>by
 obtain⟨k,_,rfl⟩:=b6x.mp hz;refine⟨?_,?_,?_⟩<;>rw[b0k]
 ·simp
 ·simp
 ·intro x hx;rw[b6r.mp hx]
  grind
theorem sg_nd(c:Int)(h:n<=6):(sgL c n).Nodup:=by
 unfold sgL List.Nodup;rw[c0x];refine List.Pairwise.imp_of_mem ?_ (List.nodup_range (n:=n));intro i j hi hj ne e;have:=(b7X (S_inj e)).1;have:=b6V.mp hi;have:=b6V.mp hj
 lia
theorem b0J(s:a0r H H')(h:b5o H a sg ps nm ws):b5o H' a sg ps nm ws:=by
 obtain⟨b1,b2,b3,b4,h0,h1,h2,h3,h4⟩:=h;exact⟨b1,b2,b3,b4,s _ _ h0,s _ _ h1,s _ _ h2,s _ _ h3,s _ _ h4⟩
structure Bk5(sg:List Str)(ps:List Int)(nm:List Str)(ws:List Int):Prop where
 b:Bk sg ps nm ws
 l4:ps.length<=4
 n10:ws.length<=10
abbrev NBo:List Str:=["script","most","first","letters","many","signs","names","prices","weights"]
def spBo(K:PySem.W.Frag):Sp:=λvs H Q _=>∃(a:Addr)(ns:List Int)(mo:Int),vs=[.ref a,.int mo]/\1<=mo/\mo<=10/\SqL K H a (ns.map V.int)/\∀(p:Addr) sg nm (q:Pw) H',a0r H H'->b5o H' p sg q.1 nm q.2->Bk5 sg q.1 nm q.2->Q (.ref p) H'
theorem b3G:a0k NBo ["script","most"] (a0g b0o):=fsk
theorem ndBo:(("k":Str)::NBo).Nodup:=by decide +kernel
theorem ok_bo(F:Fun K "_law_book" "_law_book" b0o f fd)(GC:Fns P w K mg base ["script","k"] "_law_cell_at" (a5S K) 1)(GA:Fns P w K mg base ["cell"] "_law_amount" a5p 1)(GS:Fns P w K mg base PSg "_law_signs" spSg 1)(GN:Fns P w K mg base PNm "_law_names" spNm 1)(mr:mg "range"=none)(mt:mg "tuple"=none):a0I P w K mg base CX0 2 f fd ["script","most"] (spBo K):=by
 refine F.ok (k:=1) b3G (λvs H Q E h=>?_) (λcdv A outer s H vs Q E hr h=>?_)
 ·obtain⟨a,ns,mo,rfl,_⟩:=h;rfl
 obtain⟨a,ns,mo,rfl,mo1,mo10,hS,q⟩:=h;refine⟨_,a0c (psA (i:=2) b3G (pcF GC hr (a0a (pv 0) (a0a (a0h) (a0d)))))
   (a0c (psA (i:=3) b3G (a0q a0K (a0h) (a0q a0V (pv 2) (a0h))))
   (a0c (psA (i:=4) b3G (a0q a0K (a0h) (a0q a0V (a0q a1F (pv 2) (a0h)) (pv 1))))
   (a0c (psA (i:=5) b3G (a0w a0A (by rfl) mt a1G (a0a (pcF GS hr (a0a (pcF GC hr (a0a (pv 0) (a0a (a0h) (a0d)))) (a0a (pv 3) (a0d)))) (a0d))))
   (a0c (psA (i:=6) b3G (a0w a0A (by rfl) mt a1G (a0a (pcF GN hr (a0a (pcF GC hr (a0a (pv 0) (a0a (a0h) (a0d)))) (a0a (pv 4) (a0d)))) (a0d))))
   (a0c (psA (i:=7) b3G (a0w a0A (by rfl) mt a1G (a0a (a1O (M:=NBo) rfl (cso (a0g b0o) NBo) ndBo rfl (by rfl) mr (a0a (pv 3) a0d) (a1k a0E a1W) (λcl C s0 H0 fp=>⟨a0v,pcF GA hr (a0a (pcF GC hr (a0a (pv 1) (a0a (a0q a0K (a0h) (pv 0)) (a0d)))) (a0d))⟩)) (a0d))))
   (a0c (psA (i:=8) b3G (a0w a0A (by rfl) mt a1G (a0a (a1O (M:=NBo) rfl (cso (a0g b0o) NBo) ndBo rfl (by rfl) mr (a0a (pv 4) a0d) (a1k a0E a1W) (λcl C s0 H0 fp=>⟨a0v,pcF GA hr (a0a (pcF GC hr (a0a (pv 1) (a0a (a0q a0K (a0h) (pv 0)) (a0d)))) (a0d))⟩)) (a0d))))
   (a0f (a0o (a1v (a0a (pv 5) (a0a (pv 7) (a0a (pv 6) (a0a (pv 8) (a0d)))))))))))))),?_⟩
 refine⟨_,rfl,a,ns,0,rfl,hS,by decide,λfirst=>?_⟩;refine⟨_,rfl,_,_,rfl,rfl,(by show(0:Int)<_;decide),_,_,rfl,rfl,?_⟩;refine⟨_,rfl,_,_,rfl,rfl,⟨by decide,by decide⟩,_,rfl,_,_,rfl,rfl,(by show(0:Int)<mo;assumption),_,_,rfl,rfl,?_⟩;dsimp only;obtain⟨L,eL,L2,L4⟩:∃L:Nat,2+first % 3=(L:Int)/\2<=L/\L<=4:=⟨(2+first % 3).toNat,by grind,by lia,by lia⟩
 have m0:=b8c (first / 3) (show mo≠0 by lia);have m1:=b7B (first / 3) (show 0<mo by assumption);obtain⟨M,eM,M1,M5⟩:∃M:Nat,1+first / 3 % mo=(M:Int)/\1<=M/\M<=10:=⟨(1+first / 3 % mo).toNat,by grind,by lia,by lia⟩
 rw[eL,eM];refine⟨_,rfl,a,ns,1,rfl,hS,by decide,λc1=>?_⟩;refine⟨_,rfl,c1,L,rfl,by grind,λd1 H1 s1 _ g1=>?_⟩;refine⟨d1,_,rfl,.inl ⟨SqL.of g1,λpS hpS=>?_⟩⟩;have s2:=s1.trans (a0e hpS (.tup ((sgL c1 L).map V.str)));have gS:upd H1 pS (.tup ((sgL c1 L).map V.str)) pS=some (.tup ((sgL c1 L).map V.str)):=a0b;have lS:(sgL c1 L).length=L:=by unfold sgL;rw[b6b,b6C]
 have oS:=sg_ok c1 L;have dS:=sg_nd c1 (n:=L) (by grind);generalize upd H1 pS (.tup ((sgL c1 L).map V.str))=H2 at s2 gS ⊢;generalize sgL c1 L=sg at gS lS oS dS;refine⟨_,rfl,a,ns,2,rfl,s2.seq hS,by decide,λc2=>?_⟩;refine⟨_,rfl,c2,M,rfl,M1,by grind,λd2 nm H3 s3 _ g3 lN dN oN=>?_⟩;refine⟨d2,_,rfl,.inl ⟨SqL.of g3,λpN hpN=>?_⟩⟩;have s4:=s3.trans (a0e hpN (.tup (nm.map V.str)));have gN:upd H3 pN (.tup (nm.map V.str)) pN=some (.tup (nm.map V.str)):=a0b;generalize upd H3 pN (.tup (nm.map V.str))=H4 at s4 gN ⊢;have s04:=s2.trans s4;have gS4:=s4 _ _ gS;refine⟨_,rfl,L,rfl,by simp,by omega,λd3 hd3=>?_⟩;rw[b6Q];refine⟨λi H'=>a0r H4 H'/\∃ps:List Int,ps.length=i/\Bo ps/\H' d3=some (.lst (ps.map V.int)),⟨a0e hd3 _,[],rfl,(λx hx=>by cases hx),a0b⟩,λi H' hi hP=>?_,λH5 hP=>?_⟩
 ·obtain⟨sm,ps,ln,bo,hz⟩:=hP;refine a0u ⟨_,rfl,_,rfl,_,_,rfl,rfl,a,ns,_,rfl,(s04.trans sm).seq hS,by lia,λc=>?_⟩;refine⟨c,rfl,λv v1 v30=>⟨_,hz,by rw[b6b];exact a0j (by grind),a0l hd3 sm,ps++[v],by rw[b6o,ln];rfl,λx hx=>?_,by rw[a0b,b6g];rfl⟩⟩;rcases b6G.mp hx with h|h
  ·exact bo x h
  ·rw[b6r.mp h];exact⟨v1,v30⟩
 obtain⟨s5,ps,lps,bps,gd3⟩:=hP;refine⟨d3,_,rfl,.inl ⟨SqL.of gd3,λpP hpP=>?_⟩⟩;have s6:=s5.trans (a0e hpP (.tup (ps.map V.int)));have gP:upd H5 pP (.tup (ps.map V.int)) pP=some (.tup (ps.map V.int)):=a0b;generalize upd H5 pP (.tup (ps.map V.int))=H6 at s6 gP ⊢;have s06:=s04.trans s6;refine⟨_,rfl,M,rfl,by simp,by omega,λd4 hd4=>?_⟩;rw[b6Q];refine⟨λi H'=>a0r H6 H'/\∃ws:List Int,ws.length=i/\Bo ws/\H' d4=some (.lst (ws.map V.int)),⟨a0e hd4 _,[],rfl,(λx hx=>by cases hx),a0b⟩,λi H' hi hP=>?_,λH7 hP=>?_⟩
 ·obtain⟨sm,ws,ln,bo,hz⟩:=hP;refine a0u ⟨_,rfl,_,rfl,_,_,rfl,rfl,a,ns,_,rfl,(s06.trans sm).seq hS,by lia,λc=>?_⟩;refine⟨c,rfl,λv v1 v30=>⟨_,hz,by rw[b6b];exact a0j (by grind),a0l hd4 sm,ws++[v],by rw[b6o,ln];rfl,λx hx=>?_,by rw[a0b,b6g];rfl⟩⟩;rcases b6G.mp hx with h|h
  ·exact bo x h
  ·rw[b6r.mp h];exact⟨v1,v30⟩
 obtain⟨s7,ws,lws,bws,gd4⟩:=hP;refine⟨d4,_,rfl,.inl ⟨SqL.of gd4,λpW hpW=>?_⟩⟩;have s8:=s7.trans (a0e hpW (.tup (ws.map V.int)));have gW:upd H7 pW (.tup (ws.map V.int)) pW=some (.tup (ws.map V.int)):=a0b;generalize upd H7 pW (.tup (ws.map V.int))=H8 at s8 gW ⊢;refine⟨_,rfl,_,rfl,_,rfl,_,rfl,(by show 4<=sizeLine;decide),λp hp=>?_⟩;have s9:=a0e hp (.tup [.ref pS,.ref pP,.ref pN,.ref pW]);have s69:=s8.trans s9;have BB:Bk5 sg ps nm ws:=⟨⟨by lia,by lia,by grind,by grind,by lia,by grind,oS,oN,dS,dN,bps,bws⟩,by grind,by grind⟩
 exact q p sg nm (ps,ws) _ (s06.trans s69) ⟨pS,pP,pN,pW,a0b,s69 _ _ (s6 _ _ gS4),s69 _ _ gP,s69 _ _ (s6 _ _ gN),s9 _ _ gW⟩ BB
def wZ(sg:List Str)(u:List Int):List Str:=u.map λi=>sg.getD i.toNat Str.empty
def wX(sg:List Str)(u:List Int):Str:=Str.join Str.empty (wZ sg u)
def a8o:Str:=Str.ofString "."
def wT(sg:List Str)(u:List Int):Str:=if u=[] then a8o else wX sg u
def Lw(n:Nat)(u:List Int):Prop:=∀i∈u,(0:Int)<=i/\i<(n:Int)
theorem b0K{sg:List Str}{i:Int}(h0:0<=i)(h1:i<(sg.length:Int)):atI (sg.map V.str) i=some (.str (sg.getD i.toNat Str.empty)):=by
 obtain⟨j,rfl⟩:∃j:Nat,i=j:=⟨i.toNat,by lia⟩
 have hj:sg[j]?=some (sg[j]'(by lia)):=b6f _;rw[b6Q,b6q,hj];exact a1z hj
theorem b3H(h8:∀z∈sg,z.length<=8)(u:List Int):∀z∈wZ sg u,z.length<=8:=λz hz=>by
 obtain⟨i,_,rfl⟩:=b6x.mp hz;rw[b6q];cases e:sg[i.toNat]? with
 |none=>exact b6O _
 |some y=>exact h8 y (b6h e)
def ch(sg:List Str)(i:Int):Nat:=(sg.getD i.toNat Str.empty).cps.toList.headD 0
theorem a6l(os:∀z∈sg,Nm 1 z)(h:(0:Int)<=i/\i<(sg.length:Int)):sg.getD i.toNat Str.empty=S [ch sg i]/\97<=ch sg i/\ch sg i<=122:=by
 have hj:i.toNat<sg.length:=by lia
 have e2:sg.getD i.toNat Str.empty=sg[i.toNat]:=by rw[b6q,b6f hj];rfl
 obtain⟨l1,l8,lo⟩:=os _ (b7w hj);unfold ch;rw[e2];cases e:sg[i.toNat].cps.toList with
 |nil=>rw[e] at l1;exact absurd l1 (by decide)
 |cons c r=>
  cases r with
  |cons _ _=>rw[e] at l8;exact absurd l8 (by simp)
  |nil=>exact⟨by rw[<-S_of sg[i.toNat],e];rfl,lo c (by rw[e];exact .head _)⟩
theorem a1J(os:∀z∈sg,Nm 1 z):∀{u:List Int},Lw sg.length u->(wX sg u).cps.toList=u.map (ch sg)
 |[],_=>rfl
 |i::u,h=>by
  have ih:=a1J os (u:=u) λx hx=>h x (.tail _ hx);unfold wX wZ at ih ⊢;rw[a6j] at ih ⊢;rw[b6z,b6z,b8A,ih,(a6l os (h i (.head _))).1];rfl
abbrev NWt:List Str:=["signs","word"]
def spWt:Sp:=λvs H Q _=>∃(b:Addr)(x:V)(sg:List Str)(u:List Int),vs=[.ref b,x]/\H b=some (.tup (sg.map V.str))/\Wd H x u/\u.length<=900/\Lw sg.length u/\(∀z∈sg,z.length<=8)/\∀H',a0r H H'->Q (.str (wT sg u)) H'
theorem scWt:a0k NWt NWt (a0g sWT):=fsk
theorem ndWt:(("letter":Str)::NWt).Nodup:=by decide +kernel
theorem b5s{tE:Tok}(F:Fun K "word_text" "word_text" sWT f fd)(GA:Fns P w K mg base ["word","letters"] "has_letters_alone" K95C.b0s 1)(gE:mg "EMPTY_WORD"=some (.str a8o tE))(ml:mg "len"=none):a0I P w K mg base CX0 2 f fd NWt spWt:=by
 refine F.ok (k:=1) scWt (λvs H Q E h=>?_) (λcdv A outer s H vs Q E hr h=>?_)
 ·obtain⟨b,x,sg,u,rfl,_⟩:=h;rfl
 obtain⟨b,x,sg,u,rfl,hb,hx,l9,lw,h8,qq⟩:=h;obtain⟨a,rfl,ha⟩:=hx.ti;refine⟨_,a0c (a0z (a1o (a1x (pcF GA hr (a0a (pv 1) (a0a (pln ml (pv 0)) a0d))))) (a0f a0y) a0n)
   (a0c (a0z (a0p a0U (pln ml (pv 1)) a0h (nomark _)) (a0f (a0o (a2a (v:=.str a8o) (by rfl) gE ⟨_,rfl⟩))) a0n)
   (a0f (a0o (a1N b7c b7p b7q a2e a0t (a0a (a3o (M:=NWt) rfl (cso (a0g sWT) NWt) ndWt rfl (pv 1) a0E (λcl C s0 H0 fp=>⟨a0v,pxA (ixT K) (pv 1) (pv 0)⟩)) a0d))))),?_⟩
 refine⟨_,rfl,_,rfl,b,_,rfl,.inr (SqT.of hb),.ref a,u,_,rfl,hx,by lia,λH1 s1=>⟨_,rfl,?_⟩⟩;rw[b6b,K95C.b0t.mpr lw];refine a1q ?_;refine⟨_,rfl,a,_,rfl,.inr (SqT.of (s1 _ _ ha)),rfl,_,rfl,?_⟩;rw[b0H,b6b];refine a2c (λc=>?_) (λc=>?_)
 ·have c:((u.length:Nat):Int)=0:=b6B c;have e:u=[]:=b9P (by lia);have:=qq H1 s1;unfold wT at this;rw[if_pos e] at this;exact this
 have e:u≠[]:=λe=>c (b6i (by rw[e];rfl));have q2:=qq;unfold wT at q2;refine⟨rfl,_,rfl,a,_,rfl,SqT.of (s1 _ _ ha),λd hd=>?_⟩;refine⟨λi H'=>a0r H1 H'/\H' d=some (.lst ((wZ sg (u.take i)).map V.str)),⟨a0e hd _,a0b⟩,λk H' _ hP=>SqT.of (hP.1 _ _ (s1 _ _ ha)),λi x H' hx' hP=>?_,λH' hP=>?_⟩
 ·obtain⟨s5,hz⟩:=hP;rw[b6p] at hx';obtain⟨y,hy,rfl⟩:=b6A.mp hx';have il:=(b6d.mp hy).1;have ly:=lw y (b6h hy);refine a0u ⟨_,rfl,_,rfl,b,_,_,_,rfl,rfl,SqT.of (s5 _ _ (s1 _ _ hb)),b0K ly.1 ly.2,_,hz,?_,a0l hd s5,?_⟩
  ·unfold wZ;rw[b6b,b6b,b6l];exact a0j (by grind)
  ·rw[a0b,b6s,hy];unfold wZ;rw[b6g,b6g];rfl
 ·obtain⟨s5,hz⟩:=hP;rw[b6b,b6v] at hz;refine⟨Str.empty,d,wZ sg u,8,rfl,rfl,hz,b3H h8 u,?_,?_⟩
  ·unfold wZ;rw[b6b];show u.length*8+u.length*0<=_;lia
  ·have:=q2 H' (s1.trans s5);rw[if_neg e] at this;exact this
def spRw:Sp:=λvs H Q _=>∃(b:Addr)(sg:List Str)(u:List Int),vs=[.ref b,.str (wX sg u)]/\H b=some (.tup (sg.map V.str))/\u≠[]/\u.length<=900/\Lw sg.length u/\(∀z∈sg,Nm 1 z)/\sg.Nodup/\∀p H',a0r H H'->TW H' p u->Q (.ref p) H'
abbrev NRw:List Str:=["signs","text"]
theorem scRw:a0k NRw NRw (a0g sRW):=fsk
theorem ndRw:(("sign":Str)::NRw).Nodup:=by decide +kernel
theorem ok_rw(F:Fun K "read_word" "read_word" sRW f fd)(gE:mg "EMPTY_WORD"=some (.str a8o tE))(ml:mg "len"=none)(ma:mg "all"=none)(mt:mg "tuple"=none):a0I P w K mg base CX0 2 f fd NRw spRw:=by
 refine F.ok (k:=1) scRw (λvs H Q E h=>?_) (λcdv A outer s H vs Q E hr h=>?_)
 ·obtain⟨b,sg,u,rfl,_⟩:=h;rfl
 obtain⟨b,sg,u,rfl,hb,ne,l9,lw,os,nd,qq⟩:=h;refine⟨_,a0c (a0z (a0p a0U (pv 1) (a2a (v:=.str a8o) (by rfl) gE ⟨_,rfl⟩) (nomark _)) (a0f a0y) a0n)
   (a0c (a0z (PW.pt (a4g (a0p a0U (a0C a1f (by rfl) ml b7E (a0a (pv 1) a0d)) a0h (nomark _)) (a2w (a1o (a1x (a0C (a1E rfl) (by rfl) ma a4k (a0a (a1L (M:=NRw) rfl (cso (a0g sRW) NRw) ndRw rfl (pv 1) a0E (λcl C s0 H0 fp=>⟨a0v,a0H (b0G K) (pv 0) (pv 1) rfl⟩)) a0d))))))) (a0f a0y) a0n)
   (a0f (a0o (a0w a0A (by rfl) mt a1G (a0a (a1L (M:=NRw) rfl (cso (a0g sRW) NRw) ndRw rfl (pv 1) a0E (λcl C s0 H0 fp=>⟨a0v,a7v b8e b8D (a2W K) (pv 1) (a0a (pv 0) a0d)⟩)) a0d))))),?_⟩
 have ec:=a1J os lw;have lz:(wX sg u).length=u.length:=by
  rw[show(wX sg u).length=(wX sg u).cps.toList.length from b6H.symm,ec,b6b]
 have asc:Asc (wX sg u):=a6i λc hc=>by
  rw[ec] at hc;obtain⟨i,hi,rfl⟩:=b6x.mp hc;have:=(a6l os (lw i hi)).2
  lia
 have lp:=b9i.mpr ne;refine⟨_,rfl,rfl,_,rfl,?_⟩;rw[a4E,b6w (λe=>by
  have h1:(wX sg u).cps.toList=[46]:=by rw[e];decide +kernel
  rw[ec] at h1;cases u with
  |nil=>exact ne rfl
  |cons i u=>
   rw[b6z] at h1;have:=(a6l os (lw i (.head _))).2;have:=(b7X h1).1
   lia)]
 refine a1q ?_;refine⟨_,rfl,_,rfl,by rw[lz];exact b6y (a0j (by lia)),rfl,_,rfl,?_⟩;rw[b0H,b6w (by rw[lz];lia)];refine a1q ?_;refine⟨_,rfl,_,rfl,asc,λd hd=>?_⟩;have at_:∀{i c:Nat},(wX sg u).cps.toList[i]?=some c->∃x,u[i]?=some x/\(⟨#[c]⟩:Str)∈sg/\((sg.idxOf (⟨#[c]⟩:Str):Nat):Int)=x:=λ{i c} hc=>by
  rw[ec,b6p] at hc;obtain⟨x,hx,rfl⟩:=b6A.mp hc;have lx:=lw x (b6h hx);have e1:=(a6l os lx).1;have hj:x.toNat<sg.length:=by lia
  have e2:sg.getD x.toNat Str.empty=sg[x.toNat]:=by rw[b6q,b6f hj];rfl
  rw[e2] at e1;refine⟨x,hx,?_,?_⟩
  ·rw[show(⟨#[ch sg x]⟩:Str)=sg[x.toNat] from e1.symm];exact b7w hj
  ·rw[show(⟨#[ch sg x]⟩:Str)=sg[x.toNat] from e1.symm,nd.idxOf_getElem _ hj];grind
 refine⟨λi H'=>a0r H H'/\H' d=some (.lst ((List.replicate i true).map V.bl)),⟨a0e hd _,a0b⟩,λi c H' hc hP=>?_,λH1 hP=>?_⟩
 ·obtain⟨s5,hz⟩:=hP;have il:=(b6d.mp hc).1;rw[ec,b6b] at il;obtain⟨x,hx,mem,_⟩:=at_ hc
  refine a0u ⟨_,rfl,_,rfl,b,_,rfl,.inr (SqT.of (s5 _ _ hb)),rfl,a1c _,_,hz,?_,a0l hd s5,?_⟩
  ·rw[b6b,b7o];exact a0j (by lia)
  ·rw[a0b,if_neg (by decide),a1H,b6i mem,b9d,b6g];rfl
 obtain⟨s5,hz⟩:=hP;refine⟨d,_,rfl,hz,_,rfl,?_⟩;rw[a3v];refine a1q ?_;refine⟨_,rfl,_,rfl,asc,λd2 hd2=>?_⟩;refine⟨λi H'=>a0r H1 H'/\H' d2=some (.lst ((u.take i).map V.int)),⟨a0e hd2 _,a0b⟩,λi c H' hc hP=>?_,λH2 hP=>?_⟩
 ·obtain⟨s6,hz6⟩:=hP;have il:=(b6d.mp hc).1;rw[ec,b6b] at il;obtain⟨x,hx,mem,ei⟩:=at_ hc
  have hb6:=s6 _ _ (s5 _ _ hb);refine a0u ⟨_,rfl,⟨b,_,rfl,hb6⟩,_,rfl,b,sg,_,rfl,rfl,SqT.of hb6,mem,_,hz6,?_,a0l hd2 s6,?_⟩
  ·rw[b6b,b6l];exact a0j (by grind)
  ·rw[a0b,b6s,hx,ei,b6g];rfl
 obtain⟨s6,hz6⟩:=hP;rw[show(wX sg u).cps.size=u.length from lz,b6v] at hz6;refine⟨d2,_,rfl,.inl ⟨SqL.of hz6,λp hp=>?_⟩⟩;exact qq p _ ((s5.trans s6).trans (a0e hp _)) a0b
structure Mx(P:Program)(w:World)(K:PySem.W.Frag)(mg:Str->Option Value)(base:Heap)(CX:CXT)(C:Addr)(name:Str)(ps:List Str)(sp:Sp)(k:Nat) where
 f:Addr
 fd:FuncData
 m:a8F K C name f
 ok:a0I P w K mg base CX k f fd ps sp
 b:a1K K fd ps []
def nA(nm:List Str)(t:Int):Str:=nm.getD t.toNat Str.empty
theorem a6m(os:∀z∈sg,Nm 1 z)(h:Lw sg.length u):(wT sg u).length<=u.length+1:=by
 unfold wT;split
 ·exact b6R (by decide +kernel:a8o.length<=1) (by simp)
 ·rw[show(wX sg u).length=(wX sg u).cps.toList.length from b6H.symm,a1J os h,b6b];simp
theorem os8{sg:List Str}(os:∀z∈sg,Nm 1 z):∀z∈sg,z.length<=8:=λz hz=>b6R (os z hz).len (by decide)
abbrev NCt:List Str:=["self","code"]
def spCt(C:Addr):Sp:=λvs H Q _=>∃(r l c:Addr)(sg nm:List Str)(q:Pw)(hs:List Pw)(xs:List V)(us:List (List Int)),vs=[.ref r,.ref c]/\a5r C H r l sg nm q hs/\(∀z∈sg,Nm 1 z)/\H c=some (.tup xs)/\Ws H xs us/\us.length<=100/\(∀u∈us,u.length<=60/\Lw sg.length u)/\∀H',a0r H H'->Q (.str (Str.join sp (us.map (wT sg)))) H'
theorem scCt:a0k NCt NCt (a0g mCT):=fsk
theorem ndCt:(("word":Str)::NCt).Nodup:=by decide +kernel
theorem ok_ct{C:Addr}(F:Fun K "code_text" "Desk.code_text" mCT f fd)(dc:DC K C)(GW:Fns P w K mg base NWt "word_text" spWt 2):a0I P w K mg base CX0 3 f fd NCt (spCt C):=by
 refine F.ok (k:=2) scCt (λvs H Q E h=>?_) (λcdv A outer s H vs Q E hr h=>?_)
 ·obtain⟨r,l,c,sg,nm,q,hs,xs,us,rfl,_⟩:=h;rfl
 obtain⟨r,l,c,sg,nm,q,hs,xs,us,rfl,⟨dx,b1,b2,b3,b4,ys,h0,h1,_⟩,os,hc,hw,l1,lu,qq⟩:=h;refine⟨_,a0f (a0o (a1N b7c b7p b7q a2e a0t (a0a (a3o (M:=NCt) rfl (cso (a0g mCT) NCt) ndCt rfl (pv 1) a0E (λcl C s0 H0 fp=>⟨a0v,pcF GW hr (a0a (a4c K (pv 1) rfl) (a0a (pv 0) a0d))⟩)) a0d))),?_⟩;have lx:=b8s hw;refine⟨rfl,_,rfl,c,_,rfl,SqT.of hc,λd hd=>?_⟩;refine⟨λi H'=>a0r H H'/\H' d=some (.lst (((us.take i).map (wT sg)).map V.str)),⟨a0e hd _,a0b⟩,λk H' _ hP=>SqT.of (hP.1 _ _ hc),λi x H' hx hP=>?_,λH' hP=>?_⟩
 ·obtain⟨s5,hz⟩:=hP;obtain⟨u,hu,wd⟩:=Paired.right_of hw i x hx;have il:=(b6d.mp hu).1;have lu':=lu u (b6h hu);refine a0u ⟨_,rfl,r,C,dx,_,_,rfl,s5 _ _ h0,dc.c,dc.n1,rfl,_,rfl,b1,x,sg,u,rfl,s5 _ _ h1,Wd.same s5 wd,by lia,lu'.2,os8 os,λH2 s2=>⟨_,s2 _ _ hz,?_,a0l hd (s5.trans s2),?_⟩⟩
  ·rw[b6b,b6b,b6l];exact a0j (by grind)
  ·rw[a0b,b6s,hu,b6g,b6g];rfl
 ·obtain⟨s5,hz⟩:=hP;rw[lx,b6v] at hz;refine⟨sp,d,us.map (wT sg),61,rfl,rfl,hz,λz hz=>?_,?_,qq H' s5⟩
  ·obtain⟨u,hu,rfl⟩:=b6x.mp hz;have:=a6m os (lu u hu).2;have:=(lu u hu).1
   lia
  ·rw[b6b,b3A];lia
def rdS(sg nm:List Str)(ts:List Int)(rest:List Int):Str:=Str.join sp (ts.map (nA nm)++[wT sg rest])
abbrev NRt:List Str:=["self","things_and_rest","names"]
def spRt(C:Addr):Sp:=λvs H Q _=>∃(r l t a p:Addr)(sg nm:List Str)(q:Pw)(hs:List Pw)(ts rest:List Int),vs=[.ref r,.ref t]/\a5r C H r l sg nm q hs/\(∀z∈sg,Nm 1 z)/\(∀z∈nm,Nm 8 z)/\H t=some (.tup [.ref a,.ref p])/\H a=some (.lst (ts.map V.int))/\TW H p rest/\ts.length<=100/\rest.length<=60/\Lw nm.length ts/\Lw sg.length rest/\∀H',a0r H H'->Q (.str (rdS sg nm ts rest)) H'
theorem scRt:a0k NRt ["self","things_and_rest"] (a0g mRT):=fsk
theorem ndRt:(("thing":Str)::NRt).Nodup:=by decide +kernel
theorem ok_rt{C:Addr}(F:Fun K "read_text" "Desk.read_text" mRT f fd)(dc:DC K C)(GW:Fns P w K mg base NWt "word_text" spWt 2):a0I P w K mg base CX0 3 f fd ["self","things_and_rest"] (spRt C):=by
 refine F.ok (k:=2) scRt (λvs H Q E h=>?_) (λcdv A outer s H vs Q E hr h=>?_)
 ·obtain⟨r,l,t,a,p,sg,nm,q,hs,ts,rest,rfl,_⟩:=h;rfl
 obtain⟨r,l,t,a,p,sg,nm,q,hs,ts,rest,rfl,⟨dx,b1,b2,b3,b4,ys,h0,h1,h2,h3,_⟩,os,on,ht,ha,hp,lt,lr,lwt,lwr,qq⟩:=h;refine⟨_,a0c (a2T (i:=2) (M:=NRt) scRt.nd rfl rfl rfl (cso (a0g mRT) NRt) ndRt rfl (a3j (pxA a0D (pv 1) a0h)) a4v (λcl C s0 H0 fp=>⟨a0v,pxA (ixT K) (a4c K (pv 1) rfl) (pv 0)⟩))
   (a0c (a0J (a1N b6E b6S b6T a1b (pv 2) (a0a (pcF GW hr (a0a (a0s (pv 0) rfl) (a0a (pxA a0D (pv 1) a0h) a0d))) a0d)))
   (a0f (a0o (a1N b7c b7p b7q a2e a0t (a0a (pv 2) a0d))))),?_⟩
 refine⟨λv H'=>H=H'/\v=.ref a,⟨_,rfl,t,_,_,_,rfl,rfl,SqT.of ht,(rfl:atI [V.ref a,.ref p] 0=some (.ref a)),rfl,rfl⟩,?_⟩;rintro v H' ⟨rfl,rfl⟩;refine⟨a,_,rfl,SqL.of ha,λd hd=>?_⟩;refine⟨λi H'=>a0r H H'/\H' d=some (.lst (((ts.take i).map (nA nm)).map V.str)),⟨a0e hd _,a0b⟩,λi H' _ hP=>SqL.of (hP.1 _ _ ha),λi x H' hx hP=>?_,λH1 hP=>?_⟩
 ·obtain⟨s5,hz⟩:=hP;rw[b6p] at hx;obtain⟨y,hy,rfl⟩:=b6A.mp hx;have il:=(b6d.mp hy).1;have ly:=lwt y (b6h hy);refine a0u ⟨_,rfl,r,C,dx,_,_,rfl,s5 _ _ h0,dc.c,dc.n3,rfl,_,rfl,b3,_,_,_,rfl,rfl,SqT.of (s5 _ _ h3),b0K ly.1 ly.2,_,hz,?_,a0l hd s5,?_⟩
  ·rw[b6b,b6b,b6l];exact a0j (by grind)
  ·rw[a0b,b6s,hy,b6g,b6g];rfl
 obtain⟨s1,g1⟩:=hP;rw[b6b,b6v] at g1;refine⟨_,rfl,.inl ⟨rfl,_,SqL.of g1⟩,_,rfl,r,C,dx,_,_,rfl,s1 _ _ h0,dc.c,dc.n1,rfl,_,rfl,t,_,_,_,rfl,rfl,SqT.of (s1 _ _ ht),(rfl:atI [V.ref a,.ref p] 1=some (.ref p)),b1,.ref p,sg,rest,rfl,s1 _ _ h1,Wd.of (s1 _ _ hp),by lia,lwr,os8 os,λH2 s2=>?_⟩;refine⟨d,_,_,rfl,rfl,s2 _ _ g1,by rw[b6b,b6b];exact a0j (by lia),?_⟩;have s3:a0r H (upd H2 d (.lst ((ts.map (nA nm)).map V.str++[.str (wT sg rest)]))):=a0l hd (s1.trans s2);have g3:upd H2 d (.lst ((ts.map (nA nm)).map V.str++[.str (wT sg rest)])) d=some (.lst ((ts.map (nA nm)++[wT sg rest]).map V.str)):=by rw[a0b,b6g];rfl
 generalize upd H2 d (.lst ((ts.map (nA nm)).map V.str++[.str (wT sg rest)]))=H3 at s3 g3 ⊢;refine⟨rfl,_,rfl,sp,d,_,61,rfl,rfl,g3,λz hz=>?_,?_,qq H3 s3⟩
 ·rcases b6G.mp hz with hz|hz
  ·obtain⟨y,hy,rfl⟩:=b6x.mp hz;have:=b3H (λz hz=>(on z hz).len) [y] (nA nm y) (.head _)
   lia
  ·rw[b6r.mp hz];have:=a6m os lwr
   lia
 ·rw[b6o,b6b,b3A];show(ts.length+1)*61+(ts.length+1)*1<=_
  lia
def b2y:Str:=Str.ofString "code"
def zS:Str:=Str.ofString "0"
noncomputable abbrev row(q:Pw)(ts:List Int):List Int:=K95R.a0O (us q) ts
structure Rw(q:Pw)(ts:List Int):Prop where
 ok:K95R.okT (us q) ts
 l:ts.length<=90
structure BkD(sg:List Str)(nm:List Str)(q:Pw):Prop where
 b:Bk sg q.1 nm q.2
 u:Us q
 l4:q.1.length<=4
 n10:q.2.length<=10
 n2:2<=q.2.length
def Al2(sg nm:List Str)(q:Pw)(W:List Str)(H:Hp)(Q:VK):Prop:=
 (∃ts,Rw q ts/\W=a2A::ts.map (nA nm)/\∀H',a0r H H'->Q (.str (wT sg (row q ts))) H') \/
 (∃ts cut,Rw q ts/\W=[a2Y,wX sg ((row q ts).take cut)]/\0<cut/\cut<=(row q ts).length/\∀m rest H',K95R.Cut (us q) ts cut m rest->a0r H H'->Q (.str (rdS sg nm (ts.take m) rest)) H')
def Al(sg nm:List Str)(q:Pw)(W:List Str)(H:Hp)(Q:VK):Prop:=
 Al2 sg nm q W H Q\/(W=[b2y,zS]/\∀H',a0r H H'->Q (.str (Str.join sp ((us q).map (wT sg)))) H')
theorem Al2.same(s:a0r H H1)(h:Al2 sg nm q W H Q):Al2 sg nm q W H1 Q:=by
 rcases h with ⟨ts,r,e,k⟩|⟨ts,cut,r,e,c1,c2,k⟩
 ·exact .inl ⟨ts,r,e,λH' s'=>k H' (s.trans s')⟩
 ·exact .inr ⟨ts,cut,r,e,c1,c2,λm rest H' c s'=>k m rest H' c (s.trans s')⟩
theorem Al.same(s:a0r H H1)(h:Al sg nm q W H Q):Al sg nm q W H1 Q:=by
 rcases h with h|⟨e,k⟩
 ·exact .inl (h.same s)
 ·exact .inr ⟨e,λH' s'=>k H' (s.trans s')⟩
theorem BkD.lw(B:BkD sg nm q):∀u∈us q,u.length<=9/\Lw sg.length u:=λu hu=>⟨(B.u.wd u hu).1,λx hx=>by rw[B.b.ls];exact(B.u.wd u hu).2 x hx⟩
theorem a4d(B:BkD sg nm q)(ts:List Int):Lw sg.length (row q ts):=λx hx=>by
 obtain⟨t,_,ht⟩:=b9f.mp hx;rw[b6q] at ht;cases e:(us q)[t.toNat]? with
 |none=>rw[e] at ht;cases ht
 |some u=>rw[e] at ht;exact(B.lw u (b6h e)).2 x ht
theorem rowl(B:BkD sg nm q):∀ts:List Int,(row q ts).length<=9*ts.length
 |[]=>b6O _
 |t::ts=>by
  have ih:=rowl B ts;show(K95R.a0O (us q) (t::ts)).length<=_;rw[K95R.a1X,b6o,b6F];have:((us q).getD t.toNat []).length<=9:=by
   rw[b6q];cases e:(us q)[t.toNat]? with
   |none=>exact b6O _
   |some u=>exact(B.lw u (b6h e)).1
  show _+(row q ts).length<=_
  lia
theorem BkD.in2(B:BkD sg nm q)(h2:H b2=some (.tup (q.1.map V.int)))(h4:H b4=some (.tup (q.2.map V.int))):K95C.In2 H b2 b4 q.1 q.2:=by
 have:=B.l4;have:=B.n10;have:=B.b.l2;have:=B.n2;exact⟨h2,h4,⟨by assumption,by lia,by exact b6y ‹_›,by lia,λx hx=>⟨by have:=(B.b.bp x hx).1;lia,(B.b.bp x hx).2⟩,λx hx=>⟨by have:=(B.b.bw x hx).1;omega,(B.b.bw x hx).2⟩⟩,λx hx=>(B.b.bp x hx).1,λx hx=>(B.b.bw x hx).1,⟨by assumption,by lia,by omega⟩⟩
theorem a4e(h:K95R.okT (us q) ts)(e:n=(us q).length):Lw n ts:=λt ht=>by rw[e];exact h t ht
theorem a2B{t:Int}(h:(0:Int)<=t/\t<(nm.length:Int)):nA nm t∈nm/\nm[t.toNat]?=some (nA nm t):=by
 have hj:t.toNat<nm.length:=by lia
 have e:nm[t.toNat]?=some (nA nm t):=by unfold nA;rw[b6q,b6f hj];rfl
 exact⟨b6h e,e⟩
theorem b3I{nm:List Str}(nd:nm.Nodup){t:Int}(h:(0:Int)<=t/\t<(nm.length:Int)):((nm.idxOf (nA nm t):Nat):Int)=t:=by
 obtain⟨hj,e⟩:=b6d.mp (a2B h).2;rw[<-e,nd.idxOf_getElem _ hj]
 lia
abbrev NAf:List Str:=["self","words","kind","code"]
def spAf(C:Addr):Sp:=λvs H Q _=>∃(r l a:Addr)(sg nm:List Str)(q:Pw)(hs:List Pw)(W:List Str),vs=[.ref r,.ref a]/\a5r C H r l sg nm q hs/\BkD sg nm q/\H a=some (.lst (W.map V.str))/\Al2 sg nm q W H Q
theorem scAf:a0k NAf ["self","words"] (a0g mAF):=fsk
theorem ndAf:(("name":Str)::NAf).Nodup:=by decide +kernel
theorem ok_af(F:Fun K "answer_of_first" "Desk.answer_of_first" mAF f fd)(dc:DC K C)(GN:Fns P w K mg base ["prices","weights","number"] "numbered" K95C.b5v 82)(GW:Fns P w K mg base NWt "word_text" spWt 82)(GR:Fns P w K mg base NRw "read_word" spRw 82)(GE:Fns P w K mg base ["code","letters"] "read" K95R.b3l 82)(GI:Fns P w K mg base ["code","things"] "written" (K95R.a5V K) 82)(MR:Mx P w K mg base CX0 C "read_text" ["self","things_and_rest"] (spRt C) 82):a0I P w K mg base CX0 83 f fd ["self","words"] (spAf C):=by
 refine F.ok (k:=82) scAf (λvs H Q E h=>?_) (λcdv A outer s H vs Q E hr h=>?_)
 ·obtain⟨r,l,a,sg,nm,q,hs,W,rfl,_⟩:=h;rfl
 obtain⟨r,l,a,sg,nm,q,hs,W,rfl,⟨dx,b1,b2,b3,b4,ys,h0,h1,h2,h3,h4,h5,h6⟩,B,ha,al⟩:=h;refine⟨_,a0c (psA (i:=2) scAf (pxA a0m (pv 1) (a0h)))
   (a0c (psA (i:=3) scAf (pcF GN hr (a0a (a0s (pv 0) rfl) (a0a (a0s (pv 0) rfl) (a0a a0h a0d)))))
   (a0c (a0z (a0p a0U (pv 2) (a0t) (nomark _)) (a0f (a0y)) (a0n))
   (a0c (a0z (a0p a0U (pv 2) (a0t) (nomark _)) (a0f (a0y)) (a0n))
   (a0c (a0z (a0p a0U (pv 2) (a0t) (nomark _)) (a0f (a0o (pcF GW hr (a0a (a0s (pv 0) rfl) (a0a (pcF GI hr (a0a (pv 3) (a0a (a0Y (M:=NAf) rfl (cso (a0g mAF) NAf) ndAf rfl (a3j (a0X a3d (pv 1) (a1n a0h) a1m)) a4v (λcl C s0 H0 fp=>⟨a0v,a7v b8e b8D (a2W K) (a4c K (pv 1) rfl) (a0a (pv 0) a0d)⟩)) a0d))) a0d))))) (a0n))
   (a0f (a0o (a0T (pv 0) dc.c MR.m MR.ok hr MR.b .nil a1g (a0a (pcF GE hr (a0a (pv 3) (a0a (pcF GR hr (a0a (a0s (pv 0) rfl) (a0a (pxA a0m (pv 1) (a0h)) a0d))) a0d))) a0d)))))))),?_⟩
 have n1:∀{x y:Str},x≠y->decide (V.str x=V.str y)=false:=λh=>b6w λe=>h (V.str.inj e);have cc:=B.u.cc;have lu:=B.u.ln;have ln:=B.b.ln;have n10:=B.n10;rcases al with ⟨ts,rw',rfl,k⟩|⟨ts,cut,rw',rfl,c1,c2,k⟩
 ·refine⟨_,rfl,a,_,_,_,rfl,rfl,SqL.of ha,a1z (j:=0) rfl,?_⟩;refine⟨_,rfl,r,C,dx,_,_,rfl,h0,dc.c,dc.n2,rfl,_,rfl,r,C,dx,_,_,rfl,h0,dc.c,dc.n4,rfl,b2,b4,q.1,q.2,rfl,B.in2 h2 h4,λc xs cz H1 s1 hc hw ic=>?_⟩;obtain rfl:=K95C.a3u ic;refine⟨_,rfl,rfl,_,rfl,?_⟩;rw[n1 (by decide +kernel)];refine a1q ⟨_,rfl,rfl,_,rfl,?_⟩;rw[n1 (by decide +kernel)];refine a1q ⟨_,rfl,rfl,_,rfl,a4S ?_⟩;refine⟨_,rfl,r,C,dx,_,_,rfl,s1 _ _ h0,dc.c,dc.n1,rfl,_,rfl,?_⟩;refine⟨λv H'=>a0r H1 H'/\∃p,v=.ref p/\H' p=some (.lst ((ts.map (nA nm)).map V.str)),?_,?_⟩
  ·refine⟨_,rfl,_,rfl,a,_,rfl,SqL.of (s1 _ _ ha),λp hp=>⟨a0e hp _,p,rfl,?_⟩⟩;rw[a0b,a6A _ _ (by decide)];rfl
  rintro v H2 ⟨s2,p,rfl,hp⟩;refine⟨p,_,rfl,SqL.of hp,λd hd=>?_⟩;refine⟨λi H'=>a0r H2 H'/\H' d=some (.lst ((ts.take i).map V.int)),⟨a0e hd _,a0b⟩,λi H' _ hP=>SqL.of (hP.1 _ _ hp),λi x H' hx hP=>?_,λH3 hP=>?_⟩
  ·obtain⟨s5,hz⟩:=hP;rw[b6p,b6p] at hx;obtain⟨y,hy,rfl⟩:=b6A.mp hx;obtain⟨t,ht,rfl⟩:=b6A.mp hy;have il:=(b6d.mp ht).1;have lt:=a4e rw'.ok (ln.trans lu.symm) t (b6h ht);have s15:=(s1.trans s2).trans s5;have hl:=rw'.l;refine a0u ⟨_,rfl,r,C,dx,_,_,rfl,s15 _ _ h0,dc.c,dc.n3,rfl,⟨b3,_,rfl,s15 _ _ h3⟩,_,rfl,b3,nm,_,rfl,rfl,SqT.of (s15 _ _ h3),(a2B lt).1,_,hz,?_,a0l hd s5,?_⟩
   ·rw[b6b,b6l];exact a0j (by grind)
   ·rw[a0b,b6s,ht,b3I B.b.dn lt,b6g];rfl
  obtain⟨s3,hz⟩:=hP;rw[b6b,b6b,b6v] at hz;have s13:=s2.trans s3;refine⟨c,d,xs,us q,true,ts,rfl,s13 _ _ hc,Ws.same s13 hw,by lia,λu hu=>by have:=(B.lw u hu).1;lia,SqL.of hz,by have:=rw'.l;lia,K95R.b3d cc.cd.pf,K95R.b1K.mpr rw'.ok,λp' H4 s4 hp'=>?_⟩;have s04:=(s1.trans s13).trans s4;have:=rowl B ts;have:=rw'.l;exact⟨b1,.ref p',sg,_,rfl,s04 _ _ h1,Wd.of hp',by show(row q ts).length<=900;lia,a4d B ts,os8 B.b.os,λH5 s5=>k H5 (s04.trans s5)⟩
 ·refine⟨_,rfl,a,_,_,_,rfl,rfl,SqL.of ha,a1z (j:=0) rfl,?_⟩;refine⟨_,rfl,r,C,dx,_,_,rfl,h0,dc.c,dc.n2,rfl,_,rfl,r,C,dx,_,_,rfl,h0,dc.c,dc.n4,rfl,b2,b4,q.1,q.2,rfl,B.in2 h2 h4,λc xs cz H1 s1 hc hw ic=>?_⟩;obtain rfl:=K95C.a3u ic;refine⟨_,rfl,rfl,_,rfl,?_⟩;rw[n1 (by decide +kernel)];refine a1q ⟨_,rfl,rfl,_,rfl,?_⟩;rw[n1 (by decide +kernel)];refine a1q ⟨_,rfl,rfl,_,rfl,?_⟩;rw[n1 (by decide +kernel)];refine a1q ?_;have:=rowl B ts;have:=rw'.l;have ll:((row q ts).take cut).length=cut:=by rw[b6l];lia
  have lw1:Lw sg.length ((row q ts).take cut):=λx hx=>a4d B ts x (b7h hx);refine⟨_,rfl,r,dx,_,rfl,s1 _ _ h0,rfl,_,rfl,_,rfl,r,C,dx,_,_,rfl,s1 _ _ h0,dc.c,dc.n1,rfl,_,rfl,a,_,_,_,rfl,rfl,SqL.of (s1 _ _ ha),a1z (j:=1) rfl,b1,sg,_,rfl,s1 _ _ h1,λe=>by rw[e] at ll;exact absurd ll (by simp;lia),by lia,lw1,B.b.os,B.b.ds,λp H2 s2 hp=>?_⟩;refine⟨c,p,xs,us q,ts,cut,rfl,s2 _ _ hc,Ws.same s2 hw,cc,rw'.ok,by lia,c2,by have:(K95R.a0O (us q) ts).length<=9*ts.length:=rowl B ts;lia,hp,λm rest ct t' l' w' H3 s3 g1 g2 g3=>?_⟩;have s03:=(s1.trans s2).trans s3;have dk:a5r C H r l sg nm q hs:=⟨dx,b1,b2,b3,b4,ys,h0,h1,h2,h3,h4,h5,h6⟩
  refine⟨r,l,t',l',w',sg,nm,q,hs,ts.take m,rest,rfl,dk.same s03,B.b.os,B.b.on,g1,g2,g3,by rw[b6l];grind,ct.rest_len cc.l2,λt ht=>a4e rw'.ok (ln.trans lu.symm) t (b7h ht),λx hx=>?_,λH4 s4=>k m rest H4 ct (s03.trans s4)⟩;refine lw1 x ?_;have:=ct.eq;show x∈(K95R.a0O (us q) ts).take cut;rw[this];exact b6M _ hx
abbrev NAk:List Str:=["self","words","kind"]
def spAk(C:Addr):Sp:=λvs H Q _=>∃(r l a:Addr)(sg nm:List Str)(q:Pw)(hs:List Pw)(W:List Str),vs=[.ref r,.ref a]/\a5r C H r l sg nm q hs/\BkD sg nm q/\H a=some (.lst (W.map V.str))/\Al sg nm q W H Q
theorem scAk:a0k NAk ["self","words"] (a0g mAK):=fsk
theorem ok_ak(F:Fun K "answer_known" "Desk.answer_known" mAK f fd)(dc:DC K C)(GN:Fns P w K mg base ["prices","weights","number"] "numbered" K95C.b5v 83)(MC:Mx P w K mg base CX0 C "code_text" NCt (spCt C) 83)(MF:Mx P w K mg base CX0 C "answer_of_first" ["self","words"] (spAf C) 83)(mI:mg "int"=none):a0I P w K mg base (CXF P w) 84 f fd ["self","words"] (spAk C):=by
 refine F.okF (k:=83) scAk (λvs H Q E h=>?_) (λcdv A outer s H vs Q E hr h=>?_)
 ·obtain⟨r,l,a,sg,nm,q,hs,W,rfl,_⟩:=h;rfl
 obtain⟨r,l,a,sg,nm,q,hs,W,rfl,dk,B,ha,al⟩:=h;obtain⟨dx,b1,b2,b3,b4,ys,h0,h1,h2,h3,h4,h5,h6⟩:=id dk;refine⟨_,a0c (psA (i:=2) scAk (pxA a0m (pv 1) (a0h)))
   (a0c (a0z (a0p a0U (pv 2) (a0t) (nomark _)) (a0f (a0y)) (a0n))
   (a0c (a0z (a0p a0U (pv 2) (a0t) (nomark _)) (a0f (a0y)) (a0n))
   (a0c (a0z (a0p a0U (pv 2) (a0t) (nomark _)) (a0f (a0y)) (a0n))
   (a0c (a0z (a0p a0U (pv 2) (a0t) (nomark _)) (a0f (a0o (a0T (pv 0) dc.c MC.m MC.ok hr MC.b .nil a1g (a0a (pcF GN hr (a0a (a0s (pv 0) rfl) (a0a (a0s (pv 0) rfl) (a0a (a0w a2p (by rfl) mI a9a (a0a (pxA a0m (pv 1) (a0h)) (a0d))) (a0d))))) (a0d))))) (a0n))
   (a0c (a0z (a0p a0U (pv 2) (a0t) (nomark _)) (a0f (a0y)) (a0n))
   (a0c (a0z (a0p a0U (pv 2) (a0t) (nomark _)) (a0f (a0y)) (a0n))
   (a0f (a0o (a0T (pv 0) dc.c MF.m MF.ok hr MF.b .nil a1g (a0a (pv 1) a0d)))))))))),?_⟩
 have n1:∀{x y:Str},x≠y->decide (V.str x=V.str y)=false:=λh=>b6w λe=>h (V.str.inj e);rcases al with al|⟨rfl,k⟩
 ·obtain⟨x,r',rfl,hx⟩:∃x r',W=x::r'/\(x=a2A\/x=a2Y):=by
   rcases al with ⟨ts,_,rfl,_⟩|⟨ts,cut,_,rfl,_⟩
   ·exact⟨_,_,rfl,.inl rfl⟩
   ·exact⟨_,_,rfl,.inr rfl⟩
  have nx:∀y∈([Str.ofString "cost",Str.ofString "many",Str.ofString "free",Str.ofString "code",Str.ofString "bounded",Str.ofString "sure"]:List Str),x≠y:=by
   rcases hx with rfl|rfl<;>decide +kernel
  refine⟨_,rfl,a,_,_,_,rfl,rfl,SqL.of ha,a1z (j:=0) rfl,?_⟩;refine⟨_,rfl,rfl,_,rfl,?_⟩;rw[n1 (nx _ (by simp))];refine a1q ⟨_,rfl,rfl,_,rfl,?_⟩;rw[n1 (nx _ (by simp))];refine a1q ⟨_,rfl,rfl,_,rfl,?_⟩;rw[n1 (nx _ (by simp))];refine a1q ⟨_,rfl,rfl,_,rfl,?_⟩;rw[n1 (nx _ (by simp))];refine a1q ⟨_,rfl,rfl,_,rfl,?_⟩;rw[n1 (nx _ (by simp))];refine a1q ⟨_,rfl,rfl,_,rfl,?_⟩;rw[n1 (nx _ (by simp))];refine a1q ?_;exact⟨_,rfl,r,dx,_,rfl,h0,rfl,_,rfl,r,l,a,sg,nm,q,hs,_,rfl,dk,B,ha,al⟩
 ·refine⟨_,rfl,a,_,_,_,rfl,rfl,SqL.of ha,a1z (j:=0) rfl,?_⟩;refine⟨_,rfl,rfl,_,rfl,?_⟩;rw[n1 (by decide +kernel)];refine a1q ⟨_,rfl,rfl,_,rfl,?_⟩;rw[n1 (by decide +kernel)];refine a1q ⟨_,rfl,rfl,_,rfl,?_⟩;rw[n1 (by decide +kernel)];refine a1q ⟨_,rfl,rfl,_,rfl,a4S ?_⟩;refine⟨_,rfl,r,dx,_,rfl,h0,rfl,_,rfl,r,C,dx,_,_,rfl,h0,dc.c,dc.n2,rfl,_,rfl,r,C,dx,_,_,rfl,h0,dc.c,dc.n4,rfl,_,rfl,a,_,_,_,rfl,rfl,SqL.of ha,a1z (j:=1) rfl,zS,0,rfl,by decide +kernel,by decide +kernel,b2,b4,q.1,q.2,rfl,B.in2 h2 h4,λc xs cz H1 s1 hc hw ic=>?_⟩;obtain rfl:=K95C.a3u ic;have:=B.u.ln;have:=B.n10;exact⟨r,l,c,sg,nm,q,hs,xs,us q,rfl,dk.same s1,B.b.os,hc,hw,by lia,λu hu=>⟨by have:=(B.lw u hu).1;lia,(B.lw u hu).2⟩,λH2 s2=>k H2 (s1.trans s2)⟩
abbrev NAn:List Str:=["self","question","words"]
def spAn(C:Addr):Sp:=λvs H Q _=>∃(r l:Addr)(sg nm:List Str)(q:Pw)(hs:List Pw)(z:Str)(W:List Str),vs=[.ref r,.str z]/\a5r C H r l sg nm q hs/\BkD sg nm q/\z.length<=900/\Txt.split z K95.sp=W/\Wo W/\isQ W=true/\kn sg nm W=true/\Al sg nm q W H Q
theorem scAn:a0k NAn ["self","question"] (a0g mAns):=fsk
theorem ok_an(F:Fun K "answer" "Desk.answer" mAns f fd)(dc:DC K C)(GQ:Fns P w K mg base NIq "is_question" spIq 84)(MK:Mx P w K mg base CX0 C "knows" NKw (spKw C) 84)(MA:Mx P w K mg base (CXF P w) C "answer_known" ["self","words"] (spAk C) 84)(mB:mg "BadNumber"=some (.ref CB))(eB:Hcl K CB):a0I P w K mg base CX0 85 f fd ["self","question"] (spAn C):=by
 refine F.ok (k:=84) scAn (λvs H Q E h=>?_) (λcdv A outer s H vs Q E hr h=>?_)
 ·obtain⟨r,l,sg,nm,q,hs,z,W,rfl,_⟩:=h;rfl
 obtain⟨r,l,sg,nm,q,hs,z,W,rfl,dk,B,l9,eW,wo,hq,hk,al⟩:=h;refine⟨_,a0c (psA (i:=2) scAn (a6g b8n b8o a2U (pv 1) (a0a (a0t) (a0d))))
   (a0c (a0z (a1o (a1x (pcF GQ hr (a0a (pv 2) (a0d))))) (a0f a0y) (a0n))
   (a0c (a0z (a1o (a1x (a0T (pv 0) dc.c MK.m MK.ok hr MK.b .nil a1g (a0a (pv 2) (a0d))))) (a0f a0y) (a0n))
   (a0f (b5K ⟨rfl,rfl⟩ (λpn xe Ex hx=>a0f (a0o (b1N (pv 0) dc.c MA.m MA.ok hr MA.b hx (a0a (pv 2) (a0d))))) (λea=>a0f a0y) (by rfl) mB eB)))),?_⟩
 refine⟨_,rfl,⟨z,rfl⟩,z,_,rfl,rfl,by decide +kernel,a6R (by lia),λp hp=>?_⟩;rw[show Str.ofString " "=K95.sp from rfl,eW];have s1:=a0e hp (.lst (W.map V.str));have g1:upd H p (.lst (W.map V.str)) p=some (.lst (W.map V.str)):=a0b;generalize upd H p (.lst (W.map V.str))=H1 at s1 g1 ⊢;refine⟨_,rfl,p,_,rfl,g1,wo,λH2 s2=>⟨_,rfl,?_⟩⟩;rw[hq];refine a1q ?_;have s12:=s1.trans s2;have dk2:=dk.same s12;obtain⟨dx,b1,b2,b3,b4,xs,h0,_⟩:=id dk2;refine⟨_,rfl,r,dx,_,rfl,h0,rfl,_,rfl,r,l,p,sg,nm,q,hs,_,rfl,dk2,s2 _ _ g1,wo,hq,λH3 s3=>⟨_,rfl,?_⟩⟩;rw[hk];refine a1q ?_;exact⟨_,rfl,r,dx,_,rfl,s3 _ _ h0,rfl,_,rfl,r,l,p,sg,nm,q,hs,_,rfl,dk2.same s3,B,s3 _ _ (s2 _ _ g1),al.same (s12.trans s3)⟩
end K95
namespace L2
open PySem PySem.Spec PyProof.Rows
def rEqLS:R2:=λx y H Q=>∃(a b:Addr)(ns ms:List Str),x=.ref a/\y=.ref b/\H a=some (.lst (ns.map V.str))/\H b=some (.lst (ms.map V.str))/\Q (.bl (decide (ns=ms))) H
theorem b5P{X:Cx}(hu:X.A.units+4<cLine):OpR X (compareOp .Eq) rEqLS:=by
 intro pins s σ H x y v u Q I rx ry h;obtain⟨a,b,ns,ms,rfl,rfl,e1,e2,q⟩:=h;cases rx;cases ry;exact a8Y (A:=X.A) (n:=0) EqK.str I.hok e1 e2 (Paired.strs ns) (Paired.strs ms) (by lia) _ _ _ _ ⟨.bl _,H,I,rfl,q⟩
def rNeLS:R2:=λx y H Q=>∃(a b:Addr)(ns:List Str),x=.ref a/\y=.ref b/\H a=some (.lst (ns.map V.str))/\H b=some (.lst (ns.map V.str))/\Q (.bl false) H
theorem b0L{X:Cx}(hu:X.A.units+4<cLine):OpR X (compareOp .NotEq) rNeLS:=by
 intro pins s σ H x y v u Q I rx ry h;obtain⟨a,b,ns,rfl,rfl,e1,e2,q⟩:=h;cases rx;cases ry;refine b4i (A:=X.A) (n:=0) EqK.str I.hok e1 e2 (Paired.strs ns) (Paired.strs ns) (by omega) _ _ _ _ ?_;rw[b6i rfl];exact⟨.bl _,H,I,rfl,q⟩
def rNePS:R2:=λx y H Q=>∃(a b l1 l2:Addr)(zs:List Str)(z:Str),x=.ref a/\y=.ref b/\H a=some (.tup [.ref l1,.str z])/\H b=some (.tup [.ref l2,.str z])/\H l1=some (.lst (zs.map V.str))/\H l2=some (.lst (zs.map V.str))/\Q (.bl false) H
theorem b5Q{X:Cx}(hu:X.A.units+4<cLine):OpR X (compareOp .NotEq) rNePS:=by
 intro pins s σ H x y v w' Q I rx ry h;obtain⟨a,b,l1,l2,zs,z,rfl,rfl,ha,hb,e1,e2,q⟩:=h;cases rx;cases ry;obtain⟨_,its,v1,p1⟩:=a3K (I.hok a _ ha);obtain⟨_,its2,v2,p2⟩:=a3K (I.hok b _ hb);obtain⟨u1,u2,rfl,r1,r2⟩:=v1.two;obtain⟨w1,w2,rfl,r3,r4⟩:=v2.two;have EL:=EqK.lst (H:=H) (s:=s) (n:=0) EqK.str I.hok;have q1:SeqAt.EqAt X.A.in1 s u1 w1 (decide (zs=zs)):=EL.eq X.A.in1 _ _ zs zs u1 w1 (by show X.A.units+1+(0+1)<cLine;lia) ⟨l1,_,rfl,e1,Paired.strs zs⟩ ⟨l2,_,rfl,e2,Paired.strs zs⟩ r1 r3;rw[b6i rfl] at q1;obtain⟨t2,rfl⟩:=r2;obtain⟨t4,rfl⟩:=r4;have q2:SeqAt.EqAt X.A.in1 s (.str z t2) (.str z t4) true:=by
  have:=b8J (A:=X.A.in1) (s:=s) z t2 z t4;simpa using this
 have z':=SeqAt.RcNeAt.tuples (A:=X.A) (e:=λ_=>true) p1 p2 (by lia) (λj h1 h2=>by
  match j,h1,h2 with
  |0,_,_=>exact q1
  |1,_,_=>exact q2
  |j+2,h1,_=>exact absurd (show j+2<2 from h1) (by simp))
 refine z' _ _ _ _ ⟨.bl _,H,I,rfl,?_⟩;have ez:((List.range (min [u1,Value.str z t2].toArray.size [w1,Value.str z t4].toArray.size)).all (λ_=>true)&&[u1,Value.str z t2].toArray.size==[w1,Value.str z t4].toArray.size)=true:=by
  show((List.range 2).all _&&true)=_;decide
 rw[ez];exact q
def rIdxS:V->List V->Hp->VK->Prop:=λx vs H Q=>∃(l:Addr)(ns:List Str)(u:Str),x=.ref l/\vs=[.str u]/\H l=some (.lst (ns.map V.str))/\u∈ns/\Q (.int (ns.idxOf u:Nat)) H
theorem a6n{X:Cx}:MtM X "list.index" rIdxS:=by
 intro pins s σ H x vs v us Q I rx rv h;obtain⟨l,ns,u,rfl,rfl,hH,hm,q⟩:=h;cases rx;obtain⟨y',rfl,ry⟩:=rv.one;obtain⟨z,its,n,r,hl,e0⟩:=I.lstM hH;have lw:(ns.map V.str).length=ns.length:=b6b ..;have li:(ns.map V.str).length=its.length:=r.length;obtain⟨tu,rfl⟩:=ry;have ev:∀(i:Nat)(z:Value),its[i]?=some z->∃k t,ns[i]?=some k/\z=.str k t:=λi z hi=>by
  have il:i<its.length:=(b6d.mp hi).1;have hxi:(ns.map V.str)[i]?=some (.str (ns[i]'(by lia))):=by rw[b6p,b6f (by omega)];rfl
  obtain⟨z',hz',rz⟩:=r.get hxi;rw[hi] at hz';cases hz';obtain⟨t,e⟩:=rz;exact⟨_,t,b6f (by omega),e⟩
 have hj:ns.idxOf u<ns.length:=List.idxOf_lt_length_iff.mpr hm;refine b8q b9y ⟨_,e0,rfl⟩ PySem.F.entry_list_index (PySem.F.args_list_index_2 _ _)
  (SeqAt.list_indexAt l its.toArray n _ _ _ (λz=>match z with |.str k _=>decide (k=u)|_=>false) (ns.idxOf u) (by rw[b6n];lia) ?_ ?_ ?_) ⟨e0,λz hz=>?_,?_⟩
 ·have:(sizeLine:Nat)<2 ^ 62:=by decide
  have:its.length<=sizeLine:=by lia
  lia
 ·obtain⟨k,t,hk,e⟩:=ev (ns.idxOf u) (its[ns.idxOf u]'(by omega)) (b6f _);show(match its[ns.idxOf u]'(by omega) with |.str k _=>decide (k=u)|_=>false)=true;rw[e];refine b6i ?_;rw[b6f hj,List.getElem_idxOf hj] at hk;cases hk;rfl
 ·intro m hm' hlt;have hm2:m<its.length:=by simpa using hm'
  obtain⟨k,t,hk,e⟩:=ev m (its[m]'hm2) (b6f _);show(match its[m]'hm2 with |.str k _=>decide (k=u)|_=>false)=false;rw[e];refine b6w λhz=>?_;have hlt':m<ns.findIdx (·==u):=hlt;obtain⟨ml,em⟩:=b6d.mp hk;have:=List.not_of_lt_findIdx hlt';rw[em,hz] at this;simp at this
 ·have hz':z∈its:=by simpa using hz
  obtain⟨i,hi⟩:=b6N.mp hz';obtain⟨k,t,hk,rfl⟩:=ev i z hi;have q:=b8J (A:=X.A.in1) (s:=s) k t u tu;rw[b8O] at q;exact q
 ·exact⟨.int _,H,I.tok _,⟨_,rfl⟩,q⟩
def rSlN:V->Option Int->Option Int->Hp->VK->Prop:=λx lo hi H Q=>∃(z:Str)(i:Nat),x=.str z/\i<=z.length/\z.length<=sizeLine/\((lo=none/\hi=some (i:Int)/\Q (.str ⟨(z.cps.toList.take i).toArray⟩) H)\/(lo=some (i:Int)/\hi=none/\Q (.str ⟨(z.cps.toList.drop i).toArray⟩) H))
theorem b5R{α:Type}(l:List α)(i:Nat):((List.range (l.length-i)).map (i+·)).filterMap (l[·]?)=l.drop i:=by
 rw[List.filterMap_map];have e:(List.range (l.length-i)).filterMap ((l[·]?) ∘ (i+·))=(List.range (l.drop i).length).filterMap ((l.drop i)[·]?):=by
  rw[b7r];refine a2V λx _=>?_;show l[i+x]?=_;rw[List.getElem?_drop]
 rw[e];exact b8h _
theorem b5S{α:Type}(l:List α){i:Nat}(h:i<=l.length):(List.range i).filterMap (l[·]?)=l.take i:=by
 have e:(List.range i).filterMap (l[·]?)=(List.range (l.take i).length).filterMap ((l.take i)[·]?):=by
  rw[b6l,b9V h];refine a2V λx hx=>?_;rw[b9j (b6V.mp hx)]
 rw[e];exact b8h _
set_option tactic.hygienic true in
theorem a6S{X:Cx}:SlR X rSlN:=by
 intro pins s σ H x v vl vu lo hi sl Q I rx hs pl pu h;obtain⟨z,i,rfl,hi',hz,h⟩:=h;obtain⟨t,rfl⟩:=rx;have ez:z.cps.toList.length=z.length:=b6H;have fz:∀l:List Nat,l.filterMap (z.cps[·]?)=l.filterMap (z.cps.toList[·]?):=λl=>a2V λx _=>by rw[b7J]
 have mm:max 0 (min ((if (i:Int)<0 then (i:Int)+(z.length:Int) else (i:Int))) (z.length:Int))=(i:Int):=by
  rw[if_neg (by simp)];grind
 rcases h with ⟨rfl,rfl,q⟩|⟨rfl,rfl,q⟩
 ·cases pl;cases pu with
  |int i' tk=>
  refine⟨"str",_,c0n.lookup,b9l _ _ _,?_⟩;refine b9v (l:=none) (u:=some ((i:Int),tk)) (st:=none) hs rfl ?_;have e1:slicePicked z none (some ((i:Int),tk)) none=List.range i:=by
   show sliceRange 0 (max 0 (min ((if (i:Int)<0 then (i:Int)+(z.length:Int) else (i:Int))) (z.length:Int))) 1=_;rw[mm];have:=c0q 0 i;simpa using this
  unfold sliceMade;rw[e1];split
  ·rename_i c;have c:i=z.length:=by simpa using c
   rw[c,<-ez,b6v] at q;exact⟨.str _,H,I,⟨_,rfl⟩,q⟩
  ·rw[fz,b5S _ (by assumption)];refine⟨?_,.str _,H,I.tok _,⟨_,rfl⟩,q⟩;show(z.cps.toList.take i).toArray.size<=_;rw[b6n,b6l]
   lia
 ·cases pu;cases pl with
  |int i' tk=>
  refine⟨"str",_,c0n.lookup,b9l _ _ _,?_⟩;refine b9v (l:=some ((i:Int),tk)) (u:=none) (st:=none) hs rfl ?_;have e1:slicePicked z (some ((i:Int),tk)) none none=(List.range (z.length-i)).map (i+·):=by
   show sliceRange (max 0 (min ((if (i:Int)<0 then (i:Int)+(z.length:Int) else (i:Int))) (z.length:Int))) (z.length:Int) 1=_;rw[mm];exact c0q i z.length
  unfold sliceMade;rw[e1];split
  ·rename_i c;have c:z.length-i=z.length:=by simpa using c
   have q':Q (.str z) H:=by
    have y:i=0:=by grind
    rw[y] at q;exact q
   exact⟨.str _,H,I,⟨_,rfl⟩,q'⟩
  ·rw[fz,<-ez,b5R];refine⟨?_,.str _,H,I.tok _,⟨_,rfl⟩,q⟩;show(z.cps.toList.drop i).toArray.size<=_;rw[b6n,b7r]
   grind
end L2
namespace K95
open PySem L2
abbrev kWr:Str:=Str.ofString "write "
abbrev kRd:Str:=Str.ofString "read "
abbrev kC0:Str:=Str.ofString "code 0"
def NS(z:Str):Prop:=32∉z.cps.toList
theorem a1Y(ne:zs≠[])(f:∀z∈zs,NS z):Txt.split (Str.join K95.sp zs) K95.sp=zs:=by
 have h:=b2h 32 zs;rw[b5H];have:=a5m (c:=32) (x:=Str.join ⟨#[32]⟩ zs) (B:=zs.map λz=>z.cps.toList) (by simpa using ne) (λb hb=>by
  obtain⟨z,hz,rfl⟩:=b6x.mp hb;exact f z hz) h
 rw[this,b7v];exact(b6J λz _=>S_of z).trans (List.map_id _)
theorem b3J:∀{B:List (List Nat)},(∀b∈B,b.length<=n)->(jn c B).length<=B.length*(n+1)
 |[],_=>b6O _
 |[b],h=>by
  have:=h b (.head _);show b.length<=1*(n+1)
  lia
 |b::b'::B,h=>by
  have ih:=b3J (c:=c) (n:=n) (B:=b'::B) λx hx=>h x (.tail _ hx);have:=h b (.head _);show(b++c::jn c (b'::B)).length<=_;rw[b6o,b6F,b6F,c0K]
  lia
theorem a5s(h:∀z∈zs,z.length<=n):(Str.join K95.sp zs).length<=zs.length*(n+1):=by
 have e:=b2h 32 zs;rw[<-b5H] at e;rw[show(Str.join K95.sp zs).length=(Str.join K95.sp zs).cps.toList.length from b6H.symm,e];have:=b3J (c:=32) (n:=n) (B:=zs.map λz=>z.cps.toList) λb hb=>by
  obtain⟨z,hz,rfl⟩:=b6x.mp hb;rw[b6H];exact h z hz
 rw[b6b] at this;exact this
theorem b2z(h:Nm m z):NS z/\Asc z/\0<z.length:=⟨λhc=>by have:=h.lo 32 hc;lia,a6i λc hc=>by have:=h.lo c hc;lia,by have:=h.l1;rw[b6H] at this;exact this⟩
theorem a8p(os:∀z∈sg,Nm 1 z)(lw:Lw sg.length u):NS (wX sg u)/\Asc (wX sg u)/\(wX sg u).length=u.length:=by
 have e:=a1J os lw;refine⟨λhc=>?_,a6i λc hc=>?_,by rw[show(wX sg u).length=(wX sg u).cps.toList.length from b6H.symm,e,b6b]⟩
 ·rw[e] at hc;obtain⟨i,hi,ei⟩:=b6x.mp hc;have:=(a6l os (lw i hi)).2
  lia
 ·rw[e] at hc;obtain⟨i,hi,rfl⟩:=b6x.mp hc;have:=(a6l os (lw i hi)).2
  lia
theorem wT_ns(os:∀z∈sg,Nm 1 z)(lw:Lw sg.length u):NS (wT sg u):=by
 unfold wT;split
 ·show 32∉a8o.cps.toList;decide +kernel
 ·exact(a8p os lw).1
structure Qz(sg nm:List Str)(z:Str)(W:List Str):Prop where
 l:z.length<=900
 s:Txt.split z K95.sp=W
 o:Wo W
 q:isQ W=true
 k:kn sg nm W=true
theorem wr_is:kWr=a2A++K95.sp:=by decide +kernel
theorem rd_is:kRd=a2Y++K95.sp:=by decide +kernel
theorem lw1:∀z∈[a2A,a2Y],NS z/\Asc z/\0<z.length/\z.length<=5:=by
 intro z hz;have:(decide (32∉z.cps.toList)&&(z.cps.all (λx=>decide (x<128))&&(decide (0<z.length)&&decide (z.length<=5))))=true:=by
  revert z
  decide +kernel
 simp only[b6Y,b7m] at this;exact⟨this.1,this.2.1,this.2.2.1,this.2.2.2⟩
theorem a7G(B:BkD sg nm q)(R:Rw q ts)(ne:ts≠[]):Qz sg nm (kWr++Str.join K95.sp (ts.map (nA nm))) (a2A::ts.map (nA nm)):=by
 obtain⟨a1,a2,a3,a4⟩:=lw1 a2A (by simp);have hn:∀z∈ts.map (nA nm),z∈nm:=λz hz=>by
  obtain⟨t,ht,rfl⟩:=b6x.mp hz;exact(a2B (a4e R.ok (B.b.ln.trans B.u.ln.symm) t ht)).1
 have h8:∀z∈ts.map (nA nm),z.length<=8:=λz hz=>(B.b.on z (hn z hz)).len;have e:kWr++Str.join K95.sp (ts.map (nA nm))=Str.join K95.sp (a2A::ts.map (nA nm)):=by
  cases ts with
  |nil=>exact absurd rfl ne
  |cons t ts=>rw[wr_is];rfl
 have lt:=R.l;have ln:(ts.map (nA nm)).length=ts.length:=b6b _;refine⟨?_,?_,⟨by simp,by rw[b6F];lia,λz hz=>?_⟩,?_,?_⟩
 ·have:=a5s h8;rw[ln] at this;rw[b7z,show kWr.length=6 from by decide +kernel]
  lia
 ·rw[e];refine a1Y (by simp) λz hz=>?_;rcases b6D.mp hz with rfl|hz
  ·exact a1
  ·exact(b2z (B.b.on z (hn z hz))).1
 ·rcases b6D.mp hz with rfl|hz
  ·exact⟨a2,by lia⟩
  ·exact⟨(b2z (B.b.on z (hn z hz))).2.1,by have:=h8 z hz;lia⟩
 ·cases ts with
  |nil=>exact absurd rfl ne
  |cons t ts=>
   unfold isQ;rw[b6Y];refine⟨?_,by simp⟩;unfold full;rw[b7i];intro z hz;rcases b6D.mp hz with rfl|hz
   ·exact b6i a3
   ·exact b6i (b2z (B.b.on z (hn z hz))).2.2
 ·unfold kn;dsimp only;rw[if_neg (by decide +kernel),if_neg (by decide +kernel),if_neg (by decide +kernel),b7i];intro z hz;exact b6i (hn z hz)
theorem b5T(sg nm:List Str):Qz sg nm kC0 [b2y,zS]:=by
 have e:kC0=Str.join K95.sp [b2y,zS]:=by decide +kernel
 have h:∀z∈[b2y,zS],NS z/\Asc z/\z.length<=900:=by
  intro z hz;have:(decide (32∉z.cps.toList)&&(z.cps.all (λx=>decide (x<128))&&decide (z.length<=900)))=true:=by
   revert z
   decide +kernel
  simp only[b6Y,b7m] at this;exact⟨this.1,this.2.1,this.2.2⟩
 refine⟨by decide +kernel,?_,⟨by decide,by decide,λz hz=>(h z hz).2⟩,by decide +kernel,?_⟩
 ·rw[e];exact a1Y (by simp) λz hz=>(h z hz).1
 ·unfold kn;dsimp only;rw[if_neg (by decide +kernel),if_neg (by decide +kernel),if_pos (by decide +kernel)]
theorem b5U(os:∀z∈sg,Nm 1 z)(ne:v≠[])(lw:Lw sg.length v)(l:v.length<=880):Qz sg nm (kRd++wX sg v) [a2Y,wX sg v]:=by
 obtain⟨a1,a2,a3,a4⟩:=lw1 a2Y (by simp);obtain⟨b1,b2,b3⟩:=a8p os lw;have lp:=b9i.mpr ne;have e:kRd++wX sg v=Str.join K95.sp [a2Y,wX sg v]:=by rw[rd_is];rfl
 have mm:∀{P:Str->Prop},P a2Y->P (wX sg v)->∀z∈[a2Y,wX sg v],P z:=λh1 h2 z hz=>by
  rcases b6D.mp hz with rfl|hz
  ·exact h1
  ·rw[b6r.mp hz];exact h2
 refine⟨?_,?_,⟨by simp,by simp,mm ⟨a2,by lia⟩ ⟨b2,by lia⟩⟩,?_,?_⟩
 ·rw[b7z,show kRd.length=5 from by decide +kernel]
  lia
 ·rw[e];exact a1Y (by simp) (mm a1 b1)
 ·unfold isQ;rw[b6Y];refine⟨b7i.mpr (mm (b6i a3) (b6i (by lia))),?_⟩;dsimp only;rw[show decide (a2Y∈wword)=true from by decide +kernel];simp
 ·unfold kn;dsimp only;rw[if_neg (by decide +kernel),if_pos rfl,b7i];intro c hc;have hc:c∈(wX sg v).cps.toList:=hc;rw[a1J os lw] at hc;obtain⟨i,hi,rfl⟩:=b6x.mp hc;have li:=lw i hi;have e1:=(a6l os li).1;refine b6i ?_;rw[show(⟨#[ch sg i]⟩:Str)=sg.getD i.toNat Str.empty from e1.symm];exact(a2B (nm:=sg) li).1
theorem at_end(xs:List V)(y:V):atI (xs++[y]) (-1)=some y:=by
 unfold atI ixN;rw[b6o,b9H,if_neg (by decide),if_pos (by lia),show((-1:Int)+((xs.length+1:Nat):Int)).toNat=xs.length by lia];show(xs++[y])[xs.length]?=_;rw[b6U (b6k _),c0M];rfl
theorem b2A(xs:List V)(y:V):a4f (xs++[y]) none (some (-1))=xs:=by
 unfold a4f HT.sIx;simp;rw[show(-1+((xs.length:Int)+1)).toNat=xs.length by lia,List.take_left'];rfl
theorem wX_ne(os:∀z∈sg,Nm 1 z)(lw:Lw sg.length v)(ne:v≠[]):wX sg v≠Str.empty/\wX sg v≠a8o:=by
 have e:=a1J os lw;cases v with
 |nil=>exact absurd rfl ne
 |cons i v=>
  rw[b6z] at e;refine⟨λz=>?_,λz=>?_⟩
  ·rw[z] at e;cases e
  ·rw[z] at e;have:=(b7X ((by decide +kernel:a8o.cps.toList=[46]).symm.trans e)).1;have:=(a6l os (lw i (.head _))).2
   lia
variable {P:Program}{w:World}{K:PySem.W.Frag}{mg:Str->Option Value}{base:Heap}{f:Addr}{fd:FuncData}
abbrev NLr:List Str:=["desk","signs","words","rest"]
def spLr(C:Addr):Sp:=λvs H Q _=>∃(r l:Addr)(sg nm:List Str)(q:Pw)(hs:List Pw)(ts:List Int)(cut:Nat),vs=[.ref r,.str (wX sg ((row q ts).take cut))]/\a5r C H r l sg nm q hs/\BkD sg nm q/\Rw q ts/\cut<=(row q ts).length/\∀m rest (t a:Addr) H',K95R.Cut (us q) ts cut m rest->a0r H H'->H' t=some (.tup [.ref a,.str (wX sg rest)])->H' a=some (.lst (((ts.take m).map (nA nm)).map V.str))->Q (.ref t) H'
theorem scLq:a0k NLr ["desk","signs"] (a0g b0p):=fsk
theorem ok_lr2(F:Fun K "_law_read" "_law_read" b0p f fd)(dc:DC K C)(MA:Mx P w K mg base CX0 C "answer" ["self","question"] (spAn C) 85):a0I P w K mg base CX0 86 f fd ["desk","signs"] (spLr C):=by
 refine F.ok (k:=85) scLq (λvs H Q E h=>?_) (λcdv A outer s H vs Q E hr h=>?_)
 ·obtain⟨r,l,sg,nm,q,hs,ts,cut,rfl,_⟩:=h;rfl
 obtain⟨r,l,sg,nm,q,hs,ts,cut,rfl,dk,B,R,hc,qq⟩:=h;refine⟨_,a0c (a0z (a0p a0U (pv 1) a0t (nomark _)) (a0f (a0o (a1v (a0a (a1p a0d) (a0a a0t a0d))))) a0n)
   (a0c (psA (i:=2) scLq (a6g b8n b8o a2U (a0T (pv 0) dc.c MA.m MA.ok hr MA.b .nil a1g (a0a (a0q a0F a0t (pv 1)) a0d)) (a0a a0t a0d)))
   (a0c (psA (i:=3) scLq (pxA a0m (pv 2) (a3m a2f a0h)))
   (a0c (a3J (a0z (a0p a0U (pv 3) a0t (nomark _)) (a0f (psA (i:=3) scLq a0t)) a0n))
   (a0f (a0o (a1v (a0a (a0X a3d (pv 2) a1m (a1n (a3m a2f a0h))) (a0a (pv 3) a0d)))))))),?_⟩
 have cc:=B.u.cc;have lr:=rowl B ts;have hl:=R.l;have lv:Lw sg.length ((row q ts).take cut):=λx hx=>a4d B ts x (b7h hx);have ll:((row q ts).take cut).length=cut:=by rw[b6l];lia
 refine⟨_,rfl,rfl,_,rfl,?_⟩;rw[a4E];refine a2c (λc=>?_) (λc=>?_)
 ·have c:wX sg ((row q ts).take cut)=Str.empty:=b6B c;have e:(row q ts).take cut=[]:=Classical.byContradiction λz=>(wX_ne B.b.os lv z).1 c;rw[e] at ll;have c0:cut=0:=ll.symm;subst c0;refine⟨(by show 0<=sizeLine;decide),λa ha=>?_⟩;have s1:=a0e ha (.lst []);have g1:upd H a (.lst []) a=some (.lst []):=a0b;generalize upd H a (.lst [])=H1 at s1 g1 ⊢;refine⟨(by show 2<=sizeLine;decide),λt ht=>?_⟩;have s2:=a0e ht (.tup [.ref a,.str Str.empty]);exact qq 0 [] t a _ (K95R.cut0 cc.cd R.ok) (s1.trans s2) a0b (s2 _ _ g1)
 have c:¬wX sg ((row q ts).take cut)=Str.empty:=λe=>c (b6i e);have ne:(row q ts).take cut≠[]:=λe=>c (by rw[e];rfl);have cp:0<cut:=by have:=b9i.mpr ne;lia
 obtain⟨dx,b1,b2,b3,b4,ys,h0,_⟩:=id dk;have Z:=b5U (nm:=nm) B.b.os ne lv (by lia);refine⟨_,rfl,r,dx,_,rfl,h0,rfl,_,rfl,_,_,rfl,rfl,?_,r,l,sg,nm,q,hs,_,_,rfl,dk,B,Z.l,Z.s,Z.o,Z.q,Z.k,.inl (.inr ⟨ts,cut,R,rfl,cp,hc,λm rest H1 ct s1=>?_⟩)⟩
 ·have:=Z.l;rw[b7z] at this;exact a6R (by show kRd.length+_<=5000;lia)
 have rl:=ct.rest_len cc.l2;have lwr:Lw sg.length rest:=λx hx=>lv x (by
  show x∈(K95R.a0O (us q) ts).take cut;rw[ct.eq];exact b6M _ hx)
 have hn:∀z∈(ts.take m).map (nA nm),Nm 8 z:=λz hz=>by
  obtain⟨t,ht,rfl⟩:=b6x.mp hz;exact B.b.on _ (a2B (a4e R.ok (B.b.ln.trans B.u.ln.symm) t (b7h ht))).1
 have es:Txt.split (rdS sg nm (ts.take m) rest) K95.sp=(ts.take m).map (nA nm)++[wT sg rest]:=a1Y (by simp) λz hz=>by
  rcases b6G.mp hz with hz|hz
  ·exact(b2z (hn z hz)).1
  ·rw[b6r.mp hz];exact wT_ns B.b.os lwr
 refine⟨⟨_,rfl⟩,_,_,rfl,rfl,by decide +kernel,?_,λp hp=>?_⟩
 ·have:(rdS sg nm (ts.take m) rest).length<=((ts.take m).map (nA nm)++[wT sg rest]).length*(61+1):=a5s λz hz=>by
   rcases b6G.mp hz with hz|hz
   ·have:=(hn z hz).len;lia
   ·rw[b6r.mp hz];have:=a6m B.b.os lwr;lia
  rw[b6o,b6b,b6l] at this;refine b6R (show _<=6000 from ?_) (by decide);have:min m ts.length<=90:=by grind
  have e1:([wT sg rest]:List Str).length=1:=rfl
  lia
 rw[show Str.ofString " "=K95.sp from rfl,es,b6g];have s2:=a0e hp (.lst (((ts.take m).map (nA nm)).map V.str++[wT sg rest].map V.str));have g2:upd H1 p (.lst (((ts.take m).map (nA nm)).map V.str++[wT sg rest].map V.str)) p=some (.lst (((ts.take m).map (nA nm)).map V.str++[.str (wT sg rest)])):=a0b;generalize upd H1 p (.lst (((ts.take m).map (nA nm)).map V.str++[wT sg rest].map V.str))=H2 at s2 g2 ⊢;refine⟨_,rfl,_,rfl,p,_,_,_,rfl,rfl,SqL.of g2,at_end _ _,?_⟩;refine⟨λσ' H'=>H'=H2/\σ'=[some (.ref r),some (.str (wX sg ((row q ts).take cut))),some (.ref p),some (.str (wX sg rest))],?_,?_⟩
 ·refine⟨_,rfl,rfl,_,rfl,?_⟩;rw[a4E];by_cases e:rest=[]
  ·subst e;rw[show wT sg []=a8o from rfl,b6i (show a8o=Str.ofString "." from rfl)];exact a4S ⟨rfl,rfl⟩
  ·have e2:wT sg rest=wX sg rest:=if_neg e;rw[e2,show Str.ofString "."=a8o from rfl,b6w (wX_ne B.b.os lwr e).2];exact a1q ⟨rfl,rfl⟩
 rintro σ' H' ⟨rfl,rfl⟩;refine⟨_,rfl,_,rfl,_,rfl,p,_,rfl,SqL.of g2,λa ha=>?_⟩;have s3:=a0e ha (.lst ((ts.take m).map (nA nm) |>.map V.str));have g3:upd H' a (.lst ((ts.take m).map (nA nm) |>.map V.str)) a=some (.lst ((ts.take m).map (nA nm) |>.map V.str)):=a0b;rw[b2A];generalize upd H' a (.lst ((ts.take m).map (nA nm) |>.map V.str))=H3 at s3 g3 ⊢;refine⟨_,rfl,(by show 2<=sizeLine;decide),λt ht=>?_⟩;have s4:=a0e ht (.tup [.ref a,.str (wX sg rest)]);exact qq m rest t a _ ct (((s1.trans s2).trans s3).trans s4) a0b (s4 _ _ g3)
theorem a6T{a b:Str}(h:a.cps.toList=b.cps.toList):a=b:=by rw[<-S_of a,<-S_of b,h]
theorem b3K{l:List Nat}{b:Str}(h:l=b.cps.toList):(⟨l.toArray⟩:Str)=b:=a6T (by rw[<-h])
theorem a6o(h:Lw n (u++v)):Lw n u/\Lw n v:=⟨λx hx=>h x (b7S _ hx),λx hx=>h x (b6M _ hx)⟩
section
variable {sg nm:List Str}{q:Pw}{ts:List Int}
theorem b3L{u v:List Int}(os:∀z∈sg,Nm 1 z)(h:Lw sg.length (u++v)):wX sg u++wX sg v=wX sg (u++v):=by
 refine a6T ?_;rw[a2q,a1J os (a6o h).1,a1J os (a6o h).2,a1J os h,b6g]
theorem b0M(os:∀z∈sg,Nm 1 z)(h:Lw sg.length u)(c:Nat):(⟨((wX sg u).cps.toList.take c).toArray⟩:Str)=wX sg (u.take c):=by
 refine b3K ?_;rw[a1J os h,a1J os λx hx=>h x (b7h hx),b8u]
theorem b5V(os:∀z∈sg,Nm 1 z)(h:Lw sg.length u)(c:Nat):(⟨((wX sg u).cps.toList.drop c).toArray⟩:Str)=wX sg (u.drop c):=by
 refine b3K ?_;rw[a1J os h,a1J os λx hx=>h x (b9c hx),List.map_drop]
noncomputable def wdR(sg:List Str)(q:Pw)(ts:List Int):List Str:=ts.map λt=>wT sg ((us q).getD t.toNat [])
theorem b2B(B:BkD sg nm q)(R:K95R.okT (us q) ts){t:Int}(ht:t∈ts):(us q)[t.toNat]?=some ((us q).getD t.toNat [])/\(us q).getD t.toNat []≠[]/\(us q).getD t.toNat []∈us q:=by
 have h:=R t ht;have hj:t.toNat<(us q).length:=by omega
 have e:(us q)[t.toNat]?=some ((us q).getD t.toNat []):=by rw[b6q,b6f hj];rfl
 have m:=b6h e;exact⟨e,λz=>B.u.cc.cd.ne (by rw[z] at m;exact m),m⟩
theorem a7H(B:BkD sg nm q):∀{ts:List Int},K95R.okT (us q) ts->Str.join Str.empty (wdR sg q ts)=wX sg (row q ts)
 |[],_=>rfl
 |t::ts,R=>by
  have ih:=a7H B (ts:=ts) λx hx=>R x (.tail _ hx);have h:=b2B B R (.head _);have ra:=a4d B (t::ts);refine a6T ?_;have e1:(Str.join Str.empty (wdR sg q ts)).cps.toList=(wX sg (row q ts)).cps.toList:=by rw[ih]
  rw[a6j] at e1;rw[a6j,a1J B.b.os ra];show(wT sg ((us q).getD t.toNat [])).cps.toList++((wdR sg q ts).map λz=>z.cps.toList).flatten=(K95R.a0O (us q) (t::ts)).map (ch sg);rw[e1,K95R.a1X,b6g,a1J B.b.os (a4d B ts),show wT sg ((us q).getD t.toNat [])=wX sg ((us q).getD t.toNat []) from if_neg h.2.1,a1J B.b.os (B.lw _ h.2.2).2]
theorem b5W(B:BkD sg nm q)(R:K95R.okT (us q) ts):∀z∈wdR sg q ts,z.length<=10:=λz hz=>by
 obtain⟨t,ht,rfl⟩:=b6x.mp hz;have h:=b2B B R ht;have:=a6m B.b.os (B.lw _ h.2.2).2;have:=(B.lw _ h.2.2).1
 lia
theorem b3M(B:BkD sg nm q)(R:K95R.okT (us q) ts)(ne:ts≠[]):row q ts≠[]:=by
 cases ts with
 |nil=>exact absurd rfl ne
 |cons t ts=>
  intro z;have h:=b2B B R (.head _);have:(us q).getD t.toNat []++K95R.a0O (us q) ts=[]:=z;exact h.2.1 (List.append_eq_nil_iff.mp this).1
theorem Rw.take(R:Rw q ts)(m:Nat):Rw q (ts.take m):=⟨λt ht=>R.ok t (b7h ht),by have:=R.l;rw[b6l];grind⟩
theorem Rw.drop(R:Rw q ts)(m:Nat):Rw q (ts.drop m):=⟨λt ht=>R.ok t (b9c ht),by have:=R.l;rw[b7r];lia⟩
end
noncomputable abbrev cds(sg:List Str)(q:Pw):List Str:=(us q).map (wT sg)
theorem cds_at(B:BkD sg nm q)(R:K95R.okT (us q) ts){t:Int}(ht:t∈ts):atI ((cds sg q).map V.str) t=some (.str (wT sg ((us q).getD t.toNat []))):=by
 have h:=(b2B B R ht).1;have h0:=(R t ht).1;obtain⟨j,rfl⟩:∃j:Nat,t=j:=⟨t.toNat,by lia⟩
 rw[b6Q] at h ⊢;exact a1z (by rw[b6p,h];rfl)
theorem b0N(B:BkD sg nm q)(R:Rw q ts)(hj:σ[j]?=some (some (.ref la)))(h1:σ[1]?=some (some (.ref na)))(h4:σ[4]?=some (some (.ref ca)))(hl:H la=some (.lst ((ts.map (nA nm)).map V.str)))(hn:H na=some (.lst (nm.map V.str)))(hc:H ca=some (.lst ((cds sg q).map V.str)))(k:∀H',a0r H H'->Q (.str (wX sg (row q ts))) H') :
  tBM K' "str" rJoin (tC (.str (Str.ofString ""))) (a6v (a9c K' (b3Q j) a8U (tOp (rIxL K) (b3Q 5) (tBM K "list" rIdxS (b3Q 2) (a6v (b3Q 0) b2L)))) b2L) σ H Q:=by
 refine⟨rfl,_,hj,la,_,rfl,SqL.of hl,λd hd=>?_⟩;refine⟨λi H'=>a0r H H'/\H' d=some (.lst ((wdR sg q (ts.take i)).map V.str)),⟨a0e hd _,a0b⟩,λi H' _ hP=>SqL.of (hP.1 _ _ hl),λi x H' hx hP=>?_,λH1 hP=>?_⟩
 ·obtain⟨s5,hz⟩:=hP;rw[b6p,b6p] at hx;obtain⟨y,hy,rfl⟩:=b6A.mp hx;obtain⟨t,ht,rfl⟩:=b6A.mp hy;have il:=(b6d.mp ht).1;have mt:=b6h ht;have lt:=a4e R.ok (B.b.ln.trans B.u.ln.symm) t mt;have hR:=R.l;refine a0u ⟨_,h4,_,h1,.inl ⟨rfl,_,SqL.of (s5 _ _ hn)⟩,_,rfl,na,nm,_,rfl,rfl,s5 _ _ hn,(a2B lt).1,ca,_,_,_,rfl,rfl,SqL.of (s5 _ _ hc),by rw[b3I B.b.dn lt];exact cds_at B R.ok mt,_,hz,?_,a0l hd s5,?_⟩
  ·unfold wdR;rw[b6b,b6b,b6l];exact a0j (by grind)
  ·rw[a0b,b6s,ht];unfold wdR;rw[b6g,b6g];rfl
 ·obtain⟨s5,hz⟩:=hP;rw[b6b,b6b,b6v] at hz;have hR:=R.l;refine⟨Str.empty,d,wdR sg q ts,10,rfl,rfl,hz,b5W B R.ok,?_,?_⟩
  ·unfold wdR;rw[b6b];show ts.length*10+ts.length*0<=_;lia
  ·rw[a7H B R.ok];exact k H1 s5
abbrev NG:List Str:=["desk","names","row","told","code","cut","first","rest","ahead","behind","left"]
def spGd(C:Addr):Sp:=λvs H Q _=>∃(r l na ra:Addr)(sg nm:List Str)(q:Pw)(hs:List Pw)(ts:List Int),vs=[.ref r,.ref na,.ref ra]/\a5r C H r l sg nm q hs/\BkD sg nm q/\Rw q ts/\ts≠[]/\H na=some (.lst (nm.map V.str))/\H ra=some (.lst ((ts.map (nA nm)).map V.str))/\∀H',a0r H H'->Q (.str (wX sg (row q ts))) H'
theorem b2C:a0k NG ["desk","names","row"] (a0g b0q):=fsk
theorem ndGd:(("name":Str)::NG).Nodup:=by decide +kernel
theorem ok_gd(F:Fun K "_law_good" "_law_good" b0q f fd)(dc:DC K C)(MA:Mx P w K mg base CX0 C "answer" ["self","question"] (spAn C) 86)(GR:Fns P w K mg base ["desk","signs"] "_law_read" (spLr C) 86)(ml:mg "len"=none)(mr:mg "range"=none)(mI:mg "int"=none):a0I P w K mg base CX0 87 f fd ["desk","names","row"] (spGd C):=by
 refine F.ok (k:=86) b2C (λvs H Q E h=>?_) (λcdv A outer s H vs Q E hr h=>?_)
 ·obtain⟨r,l,na,ra,sg,nm,q,hs,ts,rfl,_⟩:=h;rfl
 obtain⟨r,l,na,ra,sg,nm,q,hs,ts,rfl,dk,B,R,ne,hn,hra,qq⟩:=h;have hE:=hu4 hr;refine⟨_,a0c (psA (i:=3) b2C (a0T (pv 0) dc.c MA.m MA.ok hr MA.b .nil a1g (a0a (a0q a0F a0t (a1N b7c b7p b7q a2e a0t (a0a (pv 2) a0d))) a0d)))
   (a0c (psA (i:=4) b2C (a6g b8n b8o a2U (a0T (pv 0) dc.c MA.m MA.ok hr MA.b .nil a1g (a0a a0t a0d)) (a0a a0t a0d)))
   (a0c (a0z (PW.pt (a4g (a0p a7L (pln ml (pv 4)) (pln ml (pv 1)) (nomark _)) (a2w (a0p a7L (pv 3) (a1N b7c b7p b7q a2e a0t (a0a (a0Y (M:=NG) rfl (cso (a0g b0q) NG) ndGd rfl (pv 2) a0E (λcl C s0 H0 fp=>⟨a0v,pxA (ixL K) (pv 5) (b2W K b6E b9y PySem.F.type_list_index a6n (pv 2) (a0a (pv 0) a0d))⟩)) a0d)) (nomark _))))) (a0f a0y) a0n)
   (a0c (a0z (a0p (b5Q hE) (pcF GR hr (a0a (pv 0) (a0a (pv 3) a0d))) (a1v (a0a (pv 2) (a0a a0t a0d))) (nomark _)) (a0f a0y) a0n)
   (a0c (a1d b6K rfl (a9M (by rfl) mr (a0a a0h (a0a (a0C a1f (by rfl) ml b7E (a0a (pv 3) a0d)) (a0a (pxA a0m (a1p (a0a a0h (a0a a0h a0d))) (a0w a5z (by rfl) mI a9a (a0a (a0H a7M (pln ml (pv 1)) a0h (nomark _)) a0d))) a0d)))) (pgA (i:=5) b2C)
    (a0c (a2L (pcF GR hr (a0a (pv 0) (a0a (a0X a6S (pv 3) a1m (a1n (pv 5))) a0d))) (a4q rfl (a1l (pgA (i:=6) b2C) (a1l (pgA (i:=7) b2C) a2Z))))
    (a0c (psA (i:=8) b2C (a1N b7c b7p b7q a2e a0t (a0a (a0Y (M:=NG) rfl (cso (a0g b0q) NG) ndGd rfl (pv 6) a0E (λcl C s0 H0 fp=>⟨a0v,pxA (ixL K) (pv 5) (b2W K b6E b9y PySem.F.type_list_index a6n (pv 2) (a0a (pv 0) a0d))⟩)) a0d)))
    (a0c (a0z (PW.pt (a4g (a0p (b0L hE) (pv 6) (a0X a3d (pv 2) a1m (a1n (pln ml (pv 6)))) (nomark _)) (a2w (a0p a7L (a0q a0F (pv 8) (pv 7)) (a0X a6S (pv 3) a1m (a1n (pv 5))) (nomark _))))) (a0f a0y) a0n)
    (a0c (a2L (pcF GR hr (a0a (pv 0) (a0a (a0q a0F (pv 7) (a0X a6S (pv 3) (a1n (pv 5)) a1m)) a0d))) (a4q rfl (a1l (pgA (i:=9) b2C) (a1l (pgA (i:=10) b2C) a2Z))))
    (a0f (a0z (PW.pt (a4g (a0p (b0L hE) (a0q a8P (pv 6) (pv 9)) (pv 2) (nomark _)) (a2w (a0p a7L (pv 10) a0t (nomark _))))) (a0f a0y) a0n)))))))
   (a0f (a0o (pv 3))))))),?_⟩
 have cc:=B.u.cc;have lr:=rowl B ts;have hl:=R.l;have rn:=b3M B R.ok ne;have ra_lw:=a4d B ts;have et:wT sg (row q ts)=wX sg (row q ts):=if_neg rn;have Z:=a7G B R ne;have Zc:=b5T sg nm;have hnm:∀z∈ts.map (nA nm),z.length<=8:=λz hz=>by
  obtain⟨t,ht,rfl⟩:=b6x.mp hz;exact(B.b.on _ (a2B (a4e R.ok (B.b.ln.trans B.u.ln.symm) t ht)).1).len
 obtain⟨lX,aX,wl⟩:=a8p B.b.os ra_lw;obtain⟨dx,b1,b2,b3,b4,ys,h0,_⟩:=id dk;refine⟨_,rfl,r,dx,_,rfl,h0,rfl,rfl,_,rfl,K95.sp,ra,_,8,rfl,rfl,hra,hnm,?_,_,_,rfl,rfl,?_,r,l,sg,nm,q,hs,_,_,rfl,dk,B,Z.l,Z.s,Z.o,Z.q,Z.k,.inl (.inl ⟨ts,R,rfl,λH1 s1=>?_⟩)⟩
 ·rw[b6b,b3A];lia
 ·have:=Z.l;rw[b7z] at this;exact a6R (by show kWr.length+(Str.join K95.sp (ts.map (nA nm))).length<=5000;lia)
 rw[et];refine⟨_,rfl,r,dx,_,rfl,s1 _ _ h0,rfl,r,l,sg,nm,q,hs,_,_,rfl,dk.same s1,B,Zc.l,Zc.s,Zc.o,Zc.q,Zc.k,.inr ⟨rfl,λH2 s2=>?_⟩⟩;have e10:∀z∈cds sg q,z.length<=10:=λz hz=>by
  obtain⟨u,hu,rfl⟩:=b6x.mp hz;have:=a6m B.b.os (B.lw u hu).2;have:=(B.lw u hu).1
  lia
 have n10:=B.n10;have lu:=B.u.ln;have esp:Txt.split (Str.join K95.sp (cds sg q)) K95.sp=cds sg q:=a1Y (λz=>by
  have:=b7d List.length z;rw[b6b,b8M] at this;have:=B.n2
  lia) λz hz=>by
  obtain⟨u,hu,rfl⟩:=b6x.mp hz;exact wT_ns B.b.os (B.lw u hu).2
 refine⟨⟨_,rfl⟩,_,_,rfl,rfl,by decide +kernel,?_,λca hca=>?_⟩
 ·have:=a5s e10;rw[b6b] at this;refine b6R (show _<=300 from ?_) (by decide);have:(us q).length*11<=10*11:=b9R _ (by lia);show(Str.join K95.sp (cds sg q)).length+2<=300
  lia
 rw[show Str.ofString " "=K95.sp from rfl,esp];have s3:=a0e hca (.lst ((cds sg q).map V.str));have gc:upd H2 ca (.lst ((cds sg q).map V.str)) ca=some (.lst ((cds sg q).map V.str)):=a0b;generalize upd H2 ca (.lst ((cds sg q).map V.str))=H3 at s3 gc ⊢;have s03:=(s1.trans s2).trans s3;refine⟨_,rfl,ca,_,rfl,.inl (SqL.of gc),_,rfl,na,_,rfl,.inl (SqL.of (s03 _ _ hn)),rfl,_,rfl,?_⟩;have el:decide (V.int ((((cds sg q).map V.str).length:Nat):Int)=V.int (((nm.map V.str).length:Nat):Int))=true:=b6i (by rw[b6b,b6b,b6b,lu,B.b.ln]);rw[el];refine a1q ?_;refine⟨_,rfl,b0N B R rfl rfl rfl (s03 _ _ hra) (s03 _ _ hn) gc λH4 s4=>⟨rfl,_,rfl,?_⟩⟩;rw[b6i rfl];refine a1q ?_;have s04:=s03.trans s4;refine⟨_,rfl,_,rfl,r,l,sg,nm,q,hs,ts,(row q ts).length,by rw[b6v];rfl,dk.same s04,B,R,b6k _,λm rest t a H5 ct s5 g1 g2=>?_⟩;obtain⟨em,er⟩:=K95R.Cut.full R.ok cc.cd ct;subst em er;rw[b6v] at g2;have s05:=s04.trans s5;refine⟨_,rfl,(by show 2<=sizeLine;decide),λp hp=>?_⟩;have s6:=a0e hp (.tup [.ref ra,.str (Str.ofString "")]);have g6:upd H5 p (.tup [.ref ra,.str (Str.ofString "")]) p=some (.tup [.ref ra,.str (Str.ofString "")]):=a0b;generalize upd H5 p (.tup [.ref ra,.str (Str.ofString "")])=H6 at s6 g6 ⊢;have s06:=s05.trans s6;refine⟨t,p,a,ra,ts.map (nA nm),Str.ofString "",rfl,rfl,s6 _ _ g1,g6,s6 _ _ g2,s06 _ _ hra,_,rfl,?_⟩;refine a1q ?_;have gc6:=s6 _ _ (s5 _ _ (s4 _ _ gc));refine⟨_,rfl,_,rfl,a6R (by lia),(by show 2<=sizeLine;decide),λpl hpl=>?_⟩;have s7:=a0e hpl (.lst [.int 4,.int 64]);have g7:upd H6 pl (.lst [.int 4,.int 64]) pl=some (.lst [.int 4,.int 64]):=a0b;generalize upd H6 pl (.lst [.int 4,.int 64])=H7 at s7 g7 ⊢;have s07:=s06.trans s7;obtain⟨st,hst,est⟩:∃st:Int,(0<st/\st<1000000)/\atI [V.int 4,.int 64] (if decide ((((nm.map V.str).length:Nat):Int)>4)=true then 1 else 0)=some (.int st):=by
  split
  ·exact⟨64,by decide,rfl⟩
  ·exact⟨4,by decide,rfl⟩
 refine⟨_,rfl,na,_,rfl,.inl (SqL.of (s07 _ _ hn)),_,_,rfl,rfl,.inr ⟨_,rfl,pl,_,_,_,rfl,rfl,SqL.of g7,est,_,_,_,rfl,⟨by decide,by decide,by simp,by lia,hst.1,hst.2⟩,λn hn'=>?_⟩⟩;have gc7:=s7 _ _ gc6;refine a2t (λi σ H'=>a0r H7 H'/\∃x5 x6 x7 x8 x9 x10:Option V,σ=[some (.ref r),some (.ref na),some (.ref ra),some (.str (wX sg (row q ts))),some (.ref ca),x5,x6,x7,x8,x9,x10]) ⟨λ_ _ e=>e,_,_,_,_,_,_,rfl⟩ (λi σ H8 hi hP=>?_) (λσ H8 hP=>?_)
 ·obtain⟨s8,x5,x6,x7,x8,x9,x10,rfl⟩:=hP;have s08:=s07.trans s8;have hc:=hn' i hi;rw[wl] at hc;have nn:0<=(i:Int)*st:=Int.mul_nonneg (Int.natCast_nonneg _) (by lia);obtain⟨c,ec,cl⟩:∃c:Nat,1+(i:Int)*st=(c:Int)/\c<=(row q ts).length:=⟨(1+(i:Int)*st).toNat,by grind,by grind⟩
  rw[ec];have zl:(wX sg (row q ts)).length<=sizeLine:=a6R (by lia);refine⟨_,rfl,_,rfl,_,rfl,_,rfl,_,c,rfl,by grind,zl,.inl ⟨rfl,rfl,?_⟩⟩;rw[b0M B.b.os ra_lw];refine⟨r,l,sg,nm,q,hs,ts,c,rfl,dk.same s08,B,R,cl,λm rest t1 a1 H9 ct s9 g9 k9=>?_⟩;have s09:=s08.trans s9;have eq1:row q (ts.take m)++rest=(row q ts).take c:=ct.eq.symm;have lw2:Lw sg.length (row q (ts.take m)++rest):=by rw[eq1];exact λx hx=>ra_lw x (b7h hx)
  have eq2:rest++(row q ts).drop c=row q (ts.drop m):=ct.behind;have lw3:Lw sg.length (rest++(row q ts).drop c):=by rw[eq2];exact a4d B _
  have rl:=ct.rest_len cc.l2;refine⟨t1,_,rfl,SqT.of g9,rfl,_,_,rfl,_,_,rfl,rfl,?_⟩;refine b0N B (R.take m) rfl rfl rfl k9 (s09 _ _ hn) (s9 _ _ (s8 _ _ gc7)) λH10 s10=>?_;have s010:=s09.trans s10;have k10:=s10 _ _ k9;refine⟨_,rfl,_,rfl,_,rfl,a1,_,rfl,.inl (SqL.of k10),_,rfl,ra,_,rfl,SqL.of (s010 _ _ hra),λp1 hp1=>?_⟩;have ecut:a4f ((ts.map (nA nm)).map V.str) none (some ((((ts.take m).map (nA nm)).map V.str).length:Int))=((ts.take m).map (nA nm)).map V.str:=by
   rw[a7e,b6b,b6b,b6l,b9V ct.le,<-b8u,<-b8u]
  rw[ecut];have s11:=a0e hp1 (.lst (((ts.take m).map (nA nm)).map V.str));have g11:upd H10 p1 (.lst (((ts.take m).map (nA nm)).map V.str)) p1=some (.lst (((ts.take m).map (nA nm)).map V.str)):=a0b;generalize upd H10 p1 (.lst (((ts.take m).map (nA nm)).map V.str))=H11 at s11 g11 ⊢;have s011:=s010.trans s11;refine⟨a1,p1,_,rfl,rfl,s11 _ _ k10,g11,_,rfl,?_⟩;refine a1q ?_;have l1:(wX sg (row q (ts.take m))).length<=900:=by
   rw[(a8p B.b.os (a6o lw2).1).2.2];have:=rowl B (ts.take m);rw[b6l] at this
   lia
  have l2:(wX sg rest).length<=60:=by rw[(a8p B.b.os (a6o lw2).2).2.2];exact rl
  refine⟨_,rfl,_,rfl,_,_,rfl,rfl,a6R (by lia),_,rfl,_,rfl,_,rfl,_,c,rfl,by grind,zl,.inl ⟨rfl,rfl,?_⟩⟩;rw[b0M B.b.os ra_lw,b3L B.b.os lw2,eq1];refine⟨rfl,_,rfl,?_⟩;rw[b6i rfl];refine a1q ?_;refine⟨_,rfl,_,rfl,_,rfl,_,rfl,_,rfl,_,c,rfl,by omega,zl,.inr ⟨rfl,rfl,?_⟩⟩;rw[b5V B.b.os ra_lw];have l3:(wX sg ((row q ts).drop c)).length<=900:=by
   rw[(a8p B.b.os (a6o lw3).2).2.2,b7r]
   grind
  refine⟨_,_,rfl,rfl,a6R (by lia),?_⟩;rw[b3L B.b.os lw3,eq2];refine⟨r,l,sg,nm,q,hs,ts.drop m,(row q (ts.drop m)).length,by rw[b6v];rfl,dk.same s011,B,R.drop m,b6k _,λm' rest' t2 a2 H12 ct' s12 g12 k12=>?_⟩;obtain⟨em,er⟩:=K95R.Cut.full (R.drop m).ok cc.cd ct';subst em er;rw[b6v] at k12;have s012:=s011.trans s12;refine⟨t2,_,rfl,SqT.of g12,rfl,_,_,rfl,_,_,rfl,rfl,?_⟩;have lt1:((ts.take m).map (nA nm)).length<=90:=by rw[b6b,b6l];lia
  have lt2:((ts.drop m).map (nA nm)).length<=90:=by rw[b6b,b7r];lia
  refine⟨_,rfl,_,rfl,a1,a2,_,_,rfl,rfl,s12 _ _ (s11 _ _ k10),k12,by simp only[b6b] at lt1 lt2 ⊢;exact a6R (by lia),λp2 hp2=>?_⟩;have s13:=a0e hp2 (.lst (((ts.take m).map (nA nm)).map V.str++((ts.drop m).map (nA nm)).map V.str));have g13:upd H12 p2 (.lst (((ts.take m).map (nA nm)).map V.str++((ts.drop m).map (nA nm)).map V.str)) p2=some (.lst ((ts.map (nA nm)).map V.str)):=by
   rw[a0b,<-b6g,<-b6g,b8T]
  generalize upd H12 p2 (.lst (((ts.take m).map (nA nm)).map V.str++((ts.drop m).map (nA nm)).map V.str))=H13 at s13 g13 ⊢;have s013:=s012.trans s13;refine⟨_,rfl,p2,ra,_,rfl,rfl,g13,s013 _ _ hra,_,rfl,?_⟩;refine a1q ?_;refine⟨_,rfl,rfl,_,rfl,?_⟩;rw[b6i (show V.str (wX sg [])=V.str (Str.ofString "") from rfl)];refine a1q ?_;exact⟨((((s8.trans s9).trans s10).trans s11).trans s12).trans s13,_,_,_,_,_,_,rfl⟩
 ·obtain⟨s8,x5,x6,x7,x8,x9,x10,rfl⟩:=hP;exact⟨_,rfl,qq H8 (s07.trans s8)⟩
theorem b3N{ns:List Int}{i:Nat}{x:Int}(h:Bo ns)(h1:1<=x)(h2:x<=B30):Bo (ns.set i x):=λy hy=>by
 rcases b8w hy with z|z
 ·exact h y z
 ·rw[z];exact⟨h1,h2⟩
theorem am_ok{x:Int}(h1:1<=x)(h2:x<=B30):am x=true:=by
 unfold am;rw[e30,b6i h1,b6i h2];rfl
theorem BkD.of{sg nm:List Str}{q:Pw}(B:Bk sg q.1 nm q.2)(l4:q.1.length<=4)(n10:q.2.length<=10)(n2:2<=q.2.length):BkD sg nm q:=⟨B,us_ok B.l2 (λx hx=>(B.bp x hx).1) (λx hx=>(B.bw x hx).1) n2 n10,l4,n10,n2⟩
theorem BkD.mv{sg nm:List Str}{q:Pw}(B:BkD sg nm q)(b:Bool){z:Str}{x:Int}(h1:1<=x)(h2:x<=B30):BkD sg nm (mvd b sg nm q z x):=by
 obtain⟨⟨a1,a2,a3,a4,a5,a6,a7,a8,a9,a10,a11,a12⟩,_,l4,n10,n2⟩:=B;unfold mvd;cases b with
 |true=>
  rw[if_pos rfl];have e:(q.1.set (sg.idxOf z) x).length=q.1.length:=b8z;exact .of ⟨a1.trans e.symm,a2,by show 2<=(q.1.set _ _).length;lia,by show(q.1.set _ _).length<=6;lia,a5,a6,a7,a8,a9,a10,b3N a11 h1 h2,a12⟩ (by show(q.1.set _ _).length<=4;lia) n10 n2
 |false=>
  rw[if_neg (by decide)];have e:(q.2.set (nm.idxOf z) x).length=q.2.length:=b8z;exact .of ⟨a1,a2.trans e.symm,a3,a4,by show 1<=(q.2.set _ _).length;lia,by show(q.2.set _ _).length<=24;lia,a7,a8,a9,a10,a11,b3N a12 h1 h2⟩ l4 (by show(q.2.set _ _).length<=10;lia) (by show 2<=(q.2.set _ _).length;lia)
theorem b2D{nm:List Str}(h:0<nm.length):atI (nm.map V.str) (-1)=some (.str (nA nm ((nm.length-1:Nat):Int))):=by
 have h1:nm[nm.length-1]?=some (nm[nm.length-1]'(by omega)):=b6f _;unfold atI ixN nA;rw[b6b,if_neg (by decide),if_pos (by lia),show((-1:Int)+(nm.length:Int)).toNat=nm.length-1 by lia,b6Q,b6q,h1];show(nm.map V.str)[nm.length-1]?=_;rw[b6p,h1];rfl
theorem a7I{α:Type}{xs ys:List α}{a b:α}(h:xs++[a]=ys++[b]):xs=ys/\a=b:=by
 obtain⟨h1,h2⟩:=List.append_inj' h rfl;exact⟨h1,(b7X h2).1⟩
structure Dsk(P:Program)(w:World)(K:PySem.W.Frag)(mg:Str->Option Value)(base:Heap)(C:Addr) where
 c:Cls K C
 g:mg "Desk"=some (.ref C)
 fi:Addr
 di:FuncData
 mkk:Mk K C fi
 oki:a0I P w K mg base CX0 86 fi di ["self","text"] (spDi C)
 bi:a1K K di ["self","text"] []
abbrev NL:List Str:=["script","book","names","desk","row","told","cell"]
def b2E(K:PySem.W.Frag):Sp:=λvs H Q _=>∃(a:Addr)(ns:List Int),vs=[.ref a]/\SqL K H a (ns.map V.int)/\ns.length<=63/\∀H',Q (.bl true) H'
theorem b0T:a0k NL ["script"] (a0g b0R):=fsk
theorem ndLw:(("thing":Str)::NL).Nodup:=by decide +kernel
theorem ok_law{e C:Addr}{ed:FuncData}(F:Fun K "law" "law" b0R e ed)(dk:Dsk P w K mg base C)(MK:Mx P w K mg base CX0 C "book" ["self"] (spDb C) 87)(MA:Mx P w K mg base CX0 C "answer" ["self","question"] (spAn C) 87)(MP:Mx P w K mg base CX0 C "put_price" NPP (a6M true C) 87)(MW:Mx P w K mg base CX0 C "put_weight" NPW (a6M false C) 87)(MB:Mx P w K mg base CX0 C "back" ["self"] (spDk C) 87)(GC:Fns P w K mg base ["script","k"] "_law_cell_at" (a5S K) 87)(GA:Fns P w K mg base ["cell"] "_law_amount" a5p 87)(GK:Fns P w K mg base ["script","most"] "_law_book" (spBo K) 87)(GN:Fns P w K mg base PNm "_law_names" spNm 87)(GT:Fns P w K mg base ["book"] "_law_text" spTx 87)(GH:Fns P w K mg base ["script","at","many"] "_law_things" (K95R.a7s K) 87)(GG:Fns P w K mg base ["desk","names","row"] "_law_good" (spGd C) 87)
  (ml:mg "len"=none)(mI:mg "int"=none)(mt:mg "tuple"=none)(mL:mg "list"=none):a0I P w K mg base CX0 88 e ed ["script"] (b2E K):=by
 refine F.ok (k:=87) b0T (λvs H Q E h=>?_) (λcdv A outer s H vs Q E hr h=>?_)
 ·obtain⟨a,ns,rfl,_⟩:=h;rfl
 obtain⟨a,ns,rfl,hS,h63,qq⟩:=h;have hE:=hu4 hr;refine⟨_,a0c (psA (i:=1) b0T (pcF GK hr (a0a (pv 0) (a0a (pxA a0m (a1p (a0a a0h (a0a a0h a0d))) (a0w a5z (by rfl) mI a9a (a0a (a0H a0U (a0q a0V (a0q a1F (pcF GC hr (a0a (pv 0) (a0a a0h a0d))) a0h) a0h) a0h (nomark _)) a0d))) a0d))))
   (a0c (a3J (a0z (a0p a4h (pln ml (pxA a0D (pv 1) a0h)) a0h (nomark _)) (a0c (psA (i:=2) b0T (pcF GN hr (a0a (pcF GC hr (a0a (pv 0) (a0a a0h a0d))) (a0a a0h a0d))))
    (a0f (psA (i:=1) b0T (a1v (a0a (pxA a0D (pv 1) a0h) (a0a (pxA a0D (pv 1) a0h) (a0a (a0w a0A (by rfl) mt a1G (a0a (pv 2) a0d)) (a0a (a0q a3G (pxA a0D (pv 1) a0h) (a1v (a0a (pcF GA hr (a0a (pcF GC hr (a0a (pv 0) (a0a a0h a0d))) a0d)) a0d))) a0d)))))))) a0n))
   (a0c (psA (i:=3) b0T (a4L dk.mkk dk.oki hr (by rfl) dk.g dk.bi .nil a1g (a0a (pcF GT hr (a0a (pv 1) a0d)) a0d)))
   (a0c (psA (i:=2) b0T (a0w a3i (by rfl) mL b2R (a0a (pxA a0D (pv 1) a0h) a0d)))
   (a0c (psA (i:=4) b0T (a0X a3d (a0Y (M:=NL) rfl (cso (a0g b0R) NL) ndLw rfl (a3j (pcF GH hr (a0a (pv 0) (a0a a0h (a0a (pln ml (pv 2)) a0d))))) a4v (λcl C s0 H0 fp=>⟨a0v,pxA (ixL K) (pv 3) (pv 0)⟩)) a1m (a1n a0h)))
   (a0c (a3J (a0z (a0p (b5P hE) (pv 4) (a1p a0d) (nomark _)) (a0f (psA (i:=4) b0T (a1p (a0a (pxA a0m (pv 2) (a3m a2f a0h)) a0d)))) a0n))
   (a0c (psA (i:=5) b0T (pcF GG hr (a0a (pv 3) (a0a (pv 2) (a0a (pv 4) a0d)))))
   (a0c (a0z (a0p b2J (pv 5) a2J rfl) (a0f a0y) a0n)
   (a0c (psA (i:=6) b0T (pcF GC hr (a0a (pv 0) (a0a a0h a0d))))
   (a0c (a0J (a0T (pv 3) dk.c MP.m MP.ok hr MP.b .nil a1g (a0a (pxA a0D (pxA a0D (pv 1) a0h) (a0q a0V (pv 6) (pln ml (pxA a0D (pv 1) a0h)))) (a0a (pcF GA hr (a0a (a0q a1F (pv 6) a0h) a0d)) a0d))))
   (a0c (a0J (a0T (pv 3) dk.c MW.m MW.ok hr MW.b .nil a1g (a0a (pxA a0m (pv 2) (a0q a0V (a0q a1F (pv 6) a0h) (pln ml (pv 2)))) (a0a (pcF GA hr (a0a (a0q a1F (pv 6) a0h) a0d)) a0d))))
   (a0c (a3J (a0z (PW.pt (a5v (a0p a4h (pln ml (pv 2)) a0h (nomark _)) (a4G (a0p b2J (pcF GG hr (a0a (pv 3) (a0a (pv 2) (a0a (pv 4) a0d)))) a2J rfl)))) (a0f a0y) a0n))
   (a0c (a0J (a2N (pv 3) dk.c MB.m MB.ok hr MB.b .nil a1g))
   (a0c (a0J (a2N (pv 3) dk.c MB.m MB.ok hr MB.b .nil a1g))
   (a0f (a0o (a2i (a0H a0U (a0T (pv 3) dk.c MA.m MA.ok hr MA.b .nil a1g (a0a (a0q a0F a0t (a1N b7c b7p b7q a2e a0t (a0a (pv 4) a0d))) a0d)) (pv 5) (nomark _)) (a2x (a0H a0U (a2N (pv 3) dk.c MK.m MK.ok hr MK.b .nil a1g) (pcF GT hr (a0a (pv 1) a0d)) (nomark _))))))))))))))))))),?_⟩
 refine⟨_,rfl,(by show 2<=sizeLine;decide),λpl hpl=>?_⟩;have s1:=a0e hpl (.lst [.int 4,.int 10]);have g1:upd H pl (.lst [.int 4,.int 10]) pl=some (.lst [.int 4,.int 10]):=a0b;generalize upd H pl (.lst [.int 4,.int 10])=H1 at s1 g1 ⊢;refine⟨_,rfl,a,ns,0,rfl,s1.seq hS,by decide,λc0=>?_⟩;obtain⟨mo,hmo,emo⟩:∃mo:Int,(1<=mo/\mo<=10)/\atI [V.int 4,.int 10] (if decide (V.int (c0 / 977 % 16)=V.int 1)=true then 1 else 0)=some (.int mo):=by
  split
  ·exact⟨10,by decide,rfl⟩
  ·exact⟨4,by decide,rfl⟩
 refine⟨_,_,rfl,rfl,⟨by decide,by decide⟩,_,_,rfl,rfl,(by show(0:Int)<_;decide),rfl,.inr ⟨_,rfl,pl,_,_,_,rfl,rfl,SqL.of g1,emo,a,ns,mo,rfl,hmo.1,hmo.2,s1.seq hS,λp sg nm q H2 s2 bk B5=>?_⟩⟩;have s02:=s1.trans s2;refine⟨λσ' H'=>∃(p:Addr)(sg nm:List Str)(q:Pw)(x2:Option V),a0r H H'/\b5o H' p sg q.1 nm q.2/\BkD sg nm q/\σ'=[some (.ref a),some (.ref p),x2,none,none,none,none],?_,?_⟩
 ·obtain⟨b1,b2,b3,b4,h0,h1,h2,h3,h4⟩:=id bk;have i0:atI [V.ref b1,.ref b2,.ref b3,.ref b4] 0=some (.ref b1):=rfl;have i1:atI [V.ref b1,.ref b2,.ref b3,.ref b4] 1=some (.ref b2):=rfl;have i2:atI [V.ref b1,.ref b2,.ref b3,.ref b4] 2=some (.ref b3):=rfl;have i3:atI [V.ref b1,.ref b2,.ref b3,.ref b4] 3=some (.ref b4):=rfl;have ln:=B5.b.ln;have n1:=B5.b.n1;refine⟨_,rfl,p,_,_,_,rfl,rfl,SqT.of h0,i2,b3,_,rfl,.inr (SqT.of h3),_,_,rfl,rfl,_,rfl,a2c (λc=>?_) (λc=>?_)⟩
  rotate_left
  ·have c:¬(((nm.map V.str).length:Nat):Int)<2:=λz=>c (b6i z);rw[b6b] at c;exact⟨p,sg,nm,q,_,s02,bk,.of B5.b B5.l4 B5.n10 (by lia),rfl⟩
  have c:(((nm.map V.str).length:Nat):Int)<2:=b6B c;rw[b6b] at c;refine⟨_,rfl,a,ns,2,rfl,s02.seq hS,by decide,λc2=>⟨c2,2,rfl,by decide,by decide,λd zs H3 s3 _ g3 lz nz oz=>?_⟩⟩;have s03:=s02.trans s3;refine⟨_,rfl,p,_,_,_,rfl,rfl,SqT.of (s3 _ _ h0),i0,_,rfl,p,_,_,_,rfl,rfl,SqT.of (s3 _ _ h0),i1,_,rfl,d,_,rfl,.inl ⟨SqL.of g3,λt1 ht1=>?_⟩⟩;have s4:=a0e ht1 (.tup (zs.map V.str));have g4:upd H3 t1 (.tup (zs.map V.str)) t1=some (.tup (zs.map V.str)):=a0b;generalize upd H3 t1 (.tup (zs.map V.str))=H4 at s4 g4 ⊢;have s04:=s03.trans s4;refine⟨_,rfl,p,_,_,_,rfl,rfl,SqT.of (s4 _ _ (s3 _ _ h0)),i3,_,rfl,a,ns,8,rfl,s04.seq hS,by decide,λc8=>⟨c8,rfl,λv v1 v30=>⟨(by show 1<=sizeLine;decide),λt2 ht2=>?_⟩⟩⟩;have s5:=a0e ht2 (.tup [.int v]);have g5:upd H4 t2 (.tup [.int v]) t2=some (.tup [.int v]):=a0b;generalize upd H4 t2 (.tup [.int v])=H5 at s5 g5 ⊢;have s25:=(s3.trans s4).trans s5;have n10:=B5.n10;refine⟨b4,t2,_,_,rfl,rfl,s25 _ _ h4,g5,a6R (by rw[b6b];show q.2.length+1<=5000;lia),λp4 H6 s6 g6=>?_⟩;have s26:=s25.trans s6;refine⟨(by show 4<=sizeLine;decide),λp5 hp5=>?_⟩;have s7:=a0e hp5 (.tup [.ref b1,.ref b2,.ref t1,.ref p4]);have g7:upd H6 p5 (.tup [.ref b1,.ref b2,.ref t1,.ref p4]) p5=some (.tup [.ref b1,.ref b2,.ref t1,.ref p4]):=a0b;generalize upd H6 p5 (.tup [.ref b1,.ref b2,.ref t1,.ref p4])=H7 at s7 g7 ⊢;have s27:=s26.trans s7;have e2:(q.2++[v]).length=q.2.length+1:=by rw[b6o];rfl
  refine⟨p5,sg,zs,(q.1,q.2++[v]),_,s02.trans s27,⟨b1,b2,t1,p4,g7,s27 _ _ h1,s27 _ _ h2,s7 _ _ (s6 _ _ (s5 _ _ g4)),?_⟩,.of ⟨B5.b.ls,by show zs.length=(q.2++[v]).length;lia,B5.b.l2,B5.b.l6,by show 1<=(q.2++[v]).length;simp,by show(q.2++[v]).length<=24;lia,B5.b.os,oz,B5.b.ds,nz,B5.b.bp,λx hx=>?_⟩ B5.l4 (by show(q.2++[v]).length<=10;lia) (by show 2<=(q.2++[v]).length;lia),rfl⟩
  ·rw[s7 _ _ g6];show _=some (HO.tup ((q.2++[v]).map V.int));rw[b6g];rfl
  ·rcases b6G.mp hx with hx|hx
   ·exact B5.b.bw x hx
   ·rw[b6r.mp hx];exact⟨v1,v30⟩
 clear bk B5 s02 s2;rintro σ' H3 ⟨p,sg,nm,q,x2,s03,bk,B,rfl⟩;refine⟨_,rfl,p,sg,q.1,nm,q.2,rfl,bk,B.b,λH4 s4 r d0 rn hd0 ne0=>?_⟩;have sm:a0r H4 (upd (upd H4 d0 (.own r)) r (.ins C d0 [])):=a0l rn (a0e hd0 _);refine⟨r,d0,sg,nm,q,rfl,a0b,B.b,λl H5 k5 lnn D=>⟨rfl,?_⟩⟩;have s45:a0r H4 H5:=λx o hx=>k5 x o (λe=>by rw[e,rn] at hx;cases hx) (sm _ _ hx);have s05:=(s03.trans s4).trans s45;have bk:=b0J (s4.trans s45) bk;obtain⟨b1,b2,b3,b4,h0,h1,h2,h3,h4⟩:=id bk;have i0:atI [V.ref b1,.ref b2,.ref b3,.ref b4] 0=some (.ref b1):=rfl;have i2:atI [V.ref b1,.ref b2,.ref b3,.ref b4] 2=some (.ref b3):=rfl;refine⟨_,rfl,p,_,_,_,rfl,rfl,SqT.of h0,i2,b3,_,rfl,.inr (SqT.of h3),λna hna=>?_⟩;have s6:=a0e hna (.lst (nm.map V.str));have g6:upd H5 na (.lst (nm.map V.str)) na=some (.lst (nm.map V.str)):=a0b;obtain⟨dx,c1,c2,c3,c4,ys,k0,k1,k2,k3,k4,kl,kp⟩:=id D;have nal:na≠l:=λe=>by rw[e,kl] at hna;cases hna
 have nar:na≠r:=λe=>by rw[e,k0] at hna;cases hna
 generalize upd H5 na (.lst (nm.map V.str))=H6 at s6 g6 ⊢;have s06:=s05.trans s6;have ln:=B.b.ln;have n10:=B.n10;have n2:=B.n2;refine⟨λv H'=>a0r H6 H'/\∃lt ts,v=.ref lt/\H' lt=some (.lst (ts.map V.int))/\ts.length<=63/\Lw nm.length ts,⟨_,rfl,_,rfl,na,_,rfl,.inl (SqL.of g6),a,ns,13,_,rfl,s06.seq hS,h63,by decide,by decide,by rw[b6b];lia,by rw[b6b];lia,λlt H' ts s' g' l9 hts=>⟨s',lt,ts,rfl,g',l9,λt ht=>by have:=hts t ht;rw[b6b] at this;exact this⟩⟩,?_⟩;rintro v H7 ⟨s7,lt,ts0,rfl,g7,l63,lw0⟩;refine⟨lt,_,rfl,SqL.of g7,λd hd=>?_⟩;refine⟨λi H'=>a0r H7 H'/\H' d=some (.lst (((ts0.take i).map (nA nm)).map V.str)),⟨a0e hd _,a0b⟩,λi H' _ hP=>SqL.of (hP.1 _ _ g7),λi x H' hx hP=>?_,λH8 hP=>?_⟩
 ·obtain⟨s8,hz⟩:=hP;rw[b6p] at hx;obtain⟨y,hy,rfl⟩:=b6A.mp hx;have il:=(b6d.mp hy).1;have ly:=lw0 y (b6h hy);refine a0u ⟨_,rfl,_,rfl,na,_,_,_,rfl,rfl,SqL.of (s8 _ _ (s7 _ _ g6)),b0K ly.1 ly.2,_,hz,?_,a0l hd s8,?_⟩
  ·rw[b6b,b6b,b6l];exact a0j (by grind)
  ·rw[a0b,b6s,hy,b6g,b6g];rfl
 obtain⟨s8,g8⟩:=hP;rw[b6b,b6v] at g8;refine⟨_,rfl,d,_,rfl,SqL.of g8,λra0 hra0=>?_⟩;rw[b2T _ _ (by decide),<-b8u,<-b8u];have s9:=a0e hra0 (.lst (((ts0.take (6:Int).toNat).map (nA nm)).map V.str));have g9:upd H8 ra0 (.lst (((ts0.take (6:Int).toNat).map (nA nm)).map V.str)) ra0=some (.lst (((ts0.take (6:Int).toNat).map (nA nm)).map V.str)):=a0b;generalize upd H8 ra0 (.lst (((ts0.take (6:Int).toNat).map (nA nm)).map V.str))=H9 at s9 g9 ⊢;have lt6:(ts0.take (6:Int).toNat).length<=6:=by rw[b6l];exact Nat.min_le_left _ _
 have lw6:Lw nm.length (ts0.take (6:Int).toNat):=λt ht=>lw0 t (b7h ht);generalize ts0.take (6:Int).toNat=ts1 at g9 lt6 lw6;have s69:=(s7.trans s8).trans s9;have eu:(us q).length=nm.length:=B.u.ln.trans ln.symm;have f6:∀{x:Addr},H6 x=none->x≠r/\x≠l:=λhx=>⟨λe=>(by rw[e,s6 _ _ k0] at hx;cases hx),λe=>(by rw[e,s6 _ _ kl] at hx;cases hx)⟩
 refine⟨λσ' H'=>∃(ra:Addr)(ts:List Int),a0r H6 H'/\ra≠r/\ra≠l/\H' ra=some (.lst ((ts.map (nA nm)).map V.str))/\Rw q ts/\ts≠[]/\σ'=[some (.ref a),some (.ref p),some (.ref na),some (.ref r),some (.ref ra),none,none],?_,?_⟩
 ·refine⟨_,rfl,(by show 0<=sizeLine;decide),λe0 he0=>?_⟩;have s10:=a0e he0 (.lst []);have g10:upd H9 e0 (.lst []) e0=some (.lst (([]:List Str).map V.str)):=a0b;generalize upd H9 e0 (.lst [])=H10 at s10 g10 ⊢;have s610:=s69.trans s10;refine⟨ra0,e0,_,[],rfl,rfl,s10 _ _ g9,g10,_,rfl,a2c (λc=>?_) (λc=>?_)⟩
  ·refine⟨_,rfl,_,rfl,na,_,_,_,rfl,rfl,SqL.of (s610 _ _ g6),b2D (by lia),(by show 1<=sizeLine;decide),λra hra=>?_⟩;have s11:=a0e hra (.lst [.str (nA nm ((nm.length-1:Nat):Int))]);have f:=f6 (s610.free hra);exact⟨ra,[((nm.length-1:Nat):Int)],s610.trans s11,f.1,f.2,a0b,⟨λt ht=>by rw[b6r.mp ht];lia,by simp⟩,by simp,rfl⟩
  ·have c:¬ts1.map (nA nm)=[]:=λz=>c (b6i z);have f:=f6 ((s7.trans s8).free hra0);exact⟨ra0,ts1,s610,f.1,f.2,s10 _ _ g9,⟨λt ht=>by rw[eu];exact lw6 t ht,by lia⟩,λz=>c (by rw[z];rfl),rfl⟩
 rintro σ' H10 ⟨ra,ts,s610,rar,ral,gra,R,ne,rfl⟩;have s510:=s6.trans s610;have gna:=s610 _ _ g6;refine⟨_,rfl,_,rfl,_,rfl,r,l,na,ra,sg,nm,q,[],ts,rfl,D.same s510,B,R,ne,gna,gra,λH11 s11=>?_⟩;refine⟨_,rfl,rfl,_,rfl,?_⟩;rw[b6w (by intro z;cases z)];refine a1q ?_;have s511:=s510.trans s11;refine⟨_,rfl,a,ns,12,rfl,(s05.trans s511).seq hS,by decide,λcl=>?_⟩;have D11:=D.same s511;have h011:=s511 _ _ h0;have h111:=s511 _ _ h1;have lsg:=B.b.ls;have l2:=B.b.l2;have l4:=B.l4;obtain⟨dy,_,_,_,_,ys1,y0,_,_,_,_,yl,_⟩:=id D11;have m1:=b8c cl (show((sg.length:Nat):Int)≠0 by lia);have m2:=b7B cl (show(0:Int)<((sg.length:Nat):Int) by lia);have lS:(sg.map V.str).length=sg.length:=b6b _;have lN:(nm.map V.str).length=nm.length:=b6b _;refine⟨_,rfl,r,dy,_,rfl,y0,rfl,_,rfl,p,_,_,_,rfl,rfl,SqT.of h011,i0,_,rfl,_,rfl,p,_,_,_,rfl,rfl,SqT.of h011,i0,b1,_,rfl,.inr (SqT.of h111),_,_,rfl,rfl,by rw[lS];lia,b1,_,_,_,rfl,rfl,SqT.of h111,by rw[lS];exact b0K m1 m2,_,rfl,_,_,rfl,rfl,⟨by decide,by decide⟩,_,rfl,λv v1 v30=>?_⟩;refine⟨r,l,sg,nm,q,[],_,v,rfl,D11,by simp,lsg,ln,by lia,by lia,(a2B (nm:=sg) ⟨m1,m2⟩).1,am_ok v1 v30,λH12 k12 D12=>?_⟩;have B12:=B.mv true (z:=sg.getD (cl % ((sg.length:Nat):Int)).toNat Str.empty) v1 v30;generalize mvd true sg nm q (sg.getD (cl % ((sg.length:Nat):Int)).toNat Str.empty) v=q1 at D12 B12;have gna12:=k12 _ _ nar nal (s11 _ _ gna);have gra12:=k12 _ _ rar ral (s11 _ _ gra);obtain⟨dz,_,_,_,_,ys2,z0,_,_,_,_,zl,_⟩:=id D12;have m3:=b8c (cl / 7) (show((nm.length:Nat):Int)≠0 by lia);have m4:=b7B (cl / 7) (show(0:Int)<((nm.length:Nat):Int) by lia);refine⟨_,rfl,r,dz,_,rfl,z0,rfl,_,rfl,_,rfl,_,_,rfl,rfl,⟨by decide,by decide⟩,_,rfl,na,_,rfl,.inl (SqL.of gna12),_,_,rfl,rfl,by rw[lN];lia,na,_,_,_,rfl,rfl,SqL.of gna12,by rw[lN];exact b0K m3 m4,_,rfl,_,_,rfl,rfl,⟨by decide,by decide⟩,_,rfl,λv' v1' v30'=>?_⟩;refine⟨r,l,sg,nm,q1,_,_,v',rfl,D12,by simp,B12.b.ls,B12.b.ln,by have:=B12.l4;lia,by have:=B12.n10;lia,(a2B (nm:=nm) ⟨m3,m4⟩).1,am_ok v1' v30',λH13 k13 D13=>?_⟩;have B13:=B12.mv false (z:=nm.getD (cl / 7 % ((nm.length:Nat):Int)).toNat Str.empty) v1' v30';generalize mvd false sg nm q1 (nm.getD (cl / 7 % ((nm.length:Nat):Int)).toNat Str.empty) v'=q2 at D13 B13;have gna13:=k13 _ _ nar nal gna12;have gra13:=k13 _ _ rar ral gra12;have e2:q2.2.length=nm.length:=B13.b.ln.symm;have R13:Rw q2 ts:=⟨λt ht=>by have:=R.ok t ht;rw[B13.u.ln,e2];rw[eu] at this;exact this,R.l⟩
 refine⟨λσ' H'=>a0r H13 H'/\σ'=[some (.ref a),some (.ref p),some (.ref na),some (.ref r),some (.ref ra),some (.str (wX sg (row q ts))),some (.int cl)],?_,?_⟩
 ·refine⟨_,rfl,na,_,rfl,.inl (SqL.of gna13),_,_,rfl,rfl,_,rfl,a2c (λc=>?_) (λc=>?_)⟩
  ·refine⟨_,rfl,_,rfl,_,rfl,r,l,na,ra,sg,nm,q2,_,ts,rfl,D13,B13,R13,ne,gna13,gra13,λH14 s14=>?_⟩;refine⟨rfl,_,rfl,?_⟩;rw[b6w (by intro z;cases z)];exact a1q ⟨s14,rfl⟩
  ·exact a1q ⟨λ_ _ e=>e,rfl⟩
 rintro σ' H14 ⟨s14,rfl⟩;have D14:=D13.same s14;obtain⟨du,_,_,_,_,ys3,u0,_,_,_,_,ul,_⟩:=id D14;refine⟨_,rfl,r,du,_,rfl,u0,rfl,r,l,sg,nm,q2,_,rfl,D14,by simp,by simp,λhs' q' eh H15 k15 D15=>?_⟩;obtain⟨rfl,rfl⟩:=a7I eh;obtain⟨dv,_,_,_,_,ys4,v0,_,_,_,_,vl,_⟩:=id D15;refine⟨_,rfl,r,dv,_,rfl,v0,rfl,r,l,sg,nm,q1,_,rfl,D15,by simp,by simp,λhs' q' eh H16 k16 D16=>?_⟩;obtain⟨rfl,rfl⟩:=a7I eh;have gra16:=k16 _ _ rar ral (k15 _ _ rar ral (s14 _ _ gra13));have t11:KeT H5 H16:=λx xs hx=>k16.ke v0 vl _ _ (k15.ke u0 ul _ _ (s14 _ _ (k13.ke z0 zl _ _ (k12.ke y0 yl _ _ (s511 _ _ hx)))));have bk16:b5o H16 p sg q.1 nm q.2:=⟨b1,b2,b3,b4,t11 _ _ h0,t11 _ _ h1,t11 _ _ h2,t11 _ _ h3,t11 _ _ h4⟩
 obtain⟨dw,_,_,_,_,_,w0,_⟩:=id D16;have Z:=a7G B R ne;have hnm:∀z∈ts.map (nA nm),z.length<=8:=λz hz=>by
  obtain⟨t,ht,rfl⟩:=b6x.mp hz;exact(B.b.on _ (a2B (a4e R.ok (ln.trans B.u.ln.symm) t ht)).1).len
 have hl:=R.l;refine⟨_,rfl,r,dw,_,rfl,w0,rfl,rfl,_,rfl,K95.sp,ra,_,8,rfl,rfl,gra16,hnm,?_,_,_,rfl,rfl,?_,r,l,sg,nm,q,_,_,_,rfl,D16,B,Z.l,Z.s,Z.o,Z.q,Z.k,.inl (.inl ⟨ts,R,rfl,λH17 s17=>?_⟩)⟩
 ·rw[b6b,b3A];lia
 ·have:=Z.l;rw[b7z] at this;exact a6R (by show kWr.length+(Str.join K95.sp (ts.map (nA nm))).length<=5000;lia)
 rw[show wT sg (row q ts)=wX sg (row q ts) from if_neg (b3M B R.ok ne)];refine⟨_,rfl,rfl,_,rfl,?_⟩;rw[b6i rfl];refine a4S ?_;refine⟨_,rfl,r,dw,_,rfl,s17 _ _ w0,rfl,r,l,sg,nm,q,_,rfl,D16.same s17,B.b,λH18 s18=>?_⟩;refine⟨_,rfl,p,sg,q.1,nm,q.2,rfl,b0J (s17.trans s18) bk16,B.b,λH19 s19=>⟨rfl,?_⟩⟩;rw[b6i rfl];exact qq H19
theorem al1{α:Type}{P:List α->Prop}(h:∀a0:α,P [a0]):∀us:List α,us.length=1->P us
 |[a0],_=>h a0
theorem al2{α:Type}{P:List α->Prop}(h:∀a0 a1:α,P [a0,a1]):∀us:List α,us.length=2->P us
 |[a0,a1],_=>h a0 a1
theorem al3{α:Type}{P:List α->Prop}(h:∀a0 a1 a2:α,P [a0,a1,a2]):∀us:List α,us.length=3->P us
 |[a0,a1,a2],_=>h a0 a1 a2
theorem al4{α:Type}{P:List α->Prop}(h:∀a0 a1 a2 a3:α,P [a0,a1,a2,a3]):∀us:List α,us.length=4->P us
 |[a0,a1,a2,a3],_=>h a0 a1 a2 a3
theorem al5{α:Type}{P:List α->Prop}(h:∀a0 a1 a2 a3 a4:α,P [a0,a1,a2,a3,a4]):∀us:List α,us.length=5->P us
 |[a0,a1,a2,a3,a4],_=>h a0 a1 a2 a3 a4
structure FQ(K:PySem.W.Frag)(mg:Str->Option Value)(x:Str)(st:Stmt)(f:Addr)(fd:FuncData):Prop where
 F:Fun K x x st f fd
 m:mg x=some (.ref f)
 k:PySem.W.keepIn K (.ref f)=true
def fnE(K:PySem.W.Frag)(x:Str)(st:Stmt):Prop:=∃(f:Addr)(oc kV doc pm cd ct:Value)(od an:Option Addr)(sl:Array (Option Value)),PySem.W.nsIn K mainGlobals x=some (some (.ref f))/\K.lookup f=some ⟨oc,od,.func (PySem.W.fnOf x x (a1C st) (a0Q st) (a0g st) .none kV doc pm an cd ct),sl⟩/\PySem.W.codeIn K cd x=true/\PySem.W.keepIn K (.ref f)=true
theorem fnE.mk{K:PySem.W.Frag}{x:Str}{st:Stmt}{f:Addr}{oc kV doc pm cd ct:Value}{od an:Option Addr}{sl:Array (Option Value)}(h1:PySem.W.nsIn K mainGlobals x=some (some (.ref f)))(h2:K.lookup f=some ⟨oc,od,.func (PySem.W.fnOf x x (a1C st) (a0Q st) (a0g st) .none kV doc pm an cd ct),sl⟩)(h3:PySem.W.codeIn K cd x=true)(h4:PySem.W.keepIn K (.ref f)=true):fnE K x st:=⟨f,oc,kV,doc,pm,cd,ct,od,an,sl,h1,h2,h3,h4⟩
theorem fnE.get{K:PySem.W.Frag}{x:Str}{st:Stmt}{h:Heap}{mg:Str->Option Value}(X:K.In h)(G:h.Ns mainGlobals mg)(p:fnE K x st):∃f fd,FQ K mg x st f fd:=by
 obtain⟨f,oc,kV,doc,pm,cd,ct,od,an,sl,h1,h2,h3,h4⟩:=p;exact⟨f,_,a8S h2 h3 h4,b7H X G h1,h4⟩
def a0S{P:Program}{w:World}{K:PySem.W.Frag}{mg:Str->Option Value}{base:Heap}{x:Str}{st:Stmt}{f:Addr}{fd:FuncData}{ps:List Str}{sp:Sp}{k:Nat}(q:FQ K mg x st f fd)(ok:a0I P w K mg base CX0 k f fd ps sp)
  (h:∀(kV doc pm:Value)(an:Option Addr)(cdv ct:Value)(us:List Value),us.length=ps.length->bindArgs (PySem.W.fnOf x x (a1C st) (a0Q st) (a0g st) .none kV doc pm an cdv ct) ⟨us,[]⟩=pure (ps.zip us)):Fns P w K mg base ps x sp k:=⟨f,fd,ok,q.F.binds h,q.k,q.m⟩
def mtE(K:PySem.W.Frag)(C:Addr)(n x:Str)(st:Stmt):Prop:=∃(f:Addr)(oc kV doc pm cd ct:Value)(od an:Option Addr)(sl:Array (Option Value)),PySem.W.findIn K (.ref C) x=some (some (.ref f))/\PySem.W.isFn K (.ref f)=true/\K.lookup f=some ⟨oc,od,.func (PySem.W.fnOf x n (a1C st) (a0Q st) (a0g st) .none kV doc pm an cd ct),sl⟩/\PySem.W.codeIn K cd n=true/\PySem.W.keepIn K (.ref f)=true
theorem mtE.mk{K:PySem.W.Frag}{C:Addr}{n x:Str}{st:Stmt}{f:Addr}{oc kV doc pm cd ct:Value}{od an:Option Addr}{sl:Array (Option Value)}(h1:PySem.W.findIn K (.ref C) x=some (some (.ref f)))(h0:PySem.W.isFn K (.ref f)=true)(h2:K.lookup f=some ⟨oc,od,.func (PySem.W.fnOf x n (a1C st) (a0Q st) (a0g st) .none kV doc pm an cd ct),sl⟩)(h3:PySem.W.codeIn K cd n=true)(h4:PySem.W.keepIn K (.ref f)=true):mtE K C n x st:=⟨f,oc,kV,doc,pm,cd,ct,od,an,sl,h1,h0,h2,h3,h4⟩
theorem mtE.get{K:PySem.W.Frag}{C:Addr}{n x:Str}{st:Stmt}(p:mtE K C n x st):∃f fd,Fun K x n st f fd/\PySem.W.findIn K (.ref C) x=some (some (.ref f))/\PySem.W.isFn K (.ref f)=true/\PySem.W.keepIn K (.ref f)=true:=by
 obtain⟨f,oc,kV,doc,pm,cd,ct,od,an,sl,h1,h0,h2,h3,h4⟩:=p;exact⟨f,_,a8S h2 h3 h4,h1,h0,h4⟩
def b5X{P:Program}{w:World}{K:PySem.W.Frag}{mg:Str->Option Value}{base:Heap}{C:Addr}{x n:Str}{st:Stmt}{f:Addr}{fd:FuncData}{ps:List Str}{sp:Sp}{k:Nat}(F:Fun K x n st f fd)(m:a8F K C x f)(ok:a0I P w K mg base CX0 k f fd ps sp)
  (h:∀(kV doc pm:Value)(an:Option Addr)(cdv ct:Value)(us:List Value),us.length=ps.length->bindArgs (PySem.W.fnOf x n (a1C st) (a0Q st) (a0g st) .none kV doc pm an cdv ct) ⟨us,[]⟩=pure (ps.zip us)):K95C.Mt P w K mg base C x ps sp k:=⟨f,fd,m,ok,F.binds h⟩
def a8r{P:Program}{w:World}{K:PySem.W.Frag}{mg:Str->Option Value}{base:Heap}{CX:CXT}{C:Addr}{x n:Str}{st:Stmt}{f:Addr}{fd:FuncData}{ps:List Str}{sp:Sp}{k:Nat}(F:Fun K x n st f fd)(m:a8F K C x f)(ok:a0I P w K mg base CX k f fd ps sp)
  (h:∀(kV doc pm:Value)(an:Option Addr)(cdv ct:Value)(us:List Value),us.length=ps.length->bindArgs (PySem.W.fnOf x n (a1C st) (a0Q st) (a0g st) .none kV doc pm an cdv ct) ⟨us,[]⟩=pure (ps.zip us)):Mx P w K mg base CX C x ps sp k:=⟨f,fd,m,ok,F.binds h⟩
theorem all_mk{PA CO RD DK TB uA uB uC:Addr}{tS tF tE:Tok}{duA:Option Addr}{tuA0 tuA1 tuA2:Tok}{nuA:Nat}{euA:Array (Option Value)}{duB:Option Addr}{tuB0 tuB1:Tok}{nuB:Nat}{euB:Array (Option Value)}{duC:Option Addr}{tuC0 tuC1 tuC2 tuC3:Tok}{nuC:Nat}{euC:Array (Option Value)}{l:PySem.W.OpenLaw}{w:World}{K:PySem.W.Frag}{h:Heap}{mg:Str->Option Value}{fa fl:Addr}(X:K.In h)(G:h.Ns mainGlobals mg)(hfa:mg "law"=some (.ref fa))
  (gPA:PySem.W.nsIn K mainGlobals "Parted"=some (some (.ref PA)))(gCO:PySem.W.nsIn K mainGlobals "Counts"=some (some (.ref CO)))(gRD:PySem.W.nsIn K mainGlobals "Reader"=some (some (.ref RD)))(gDK:PySem.W.nsIn K mainGlobals "Desk"=some (some (.ref DK)))
  (p0:fnE K "weight_sums" K95C.b4X)(p1:fnE K "row_with" K95C.sRow)(p2:fnE K "square" K95C.a5e)(p3:fnE K "least" K95C.a7w)(p4:fnE K "added" K95C.a9S)(p5:fnE K "parted_least" K95C.sPl)(p6:fnE K "numbered" K95C.sNum)(p7:fnE K "words_by" K95C.sWb)(p8:fnE K "tail_words" K95C.sTw)(p9:fnE K "has_letters_alone" K95C.a5Y)(p10:fnE K "begins" K95R.a6L)(p11:fnE K "clash" K95R.a9z)(p12:fnE K "refuse_clash" K95R.a6K)(p13:fnE K "ways_on" K95R.a6H)(p14:fnE K "knots_of" K95R.a9G)(p15:fnE K "written" K95R.a3q)(p16:fnE K "read" K95R.b4Q)(p17:fnE K "is_amount" b2k)(p18:fnE K "are_amounts" sAre)(p19:fnE K "made_prices" sMP)(p20:fnE K "made_weights" sMW)(p21:fnE K "price_moved" sPM)(p22:fnE K "weight_moved" sWM)(p23:fnE K "refuse_letter" sRL)(p24:fnE K "refuse_thing" sRTh)(p25:fnE K "with_number" sWN)(p26:fnE K "book_text" sBT)(p27:fnE K "read_book" sRB)(p28:fnE K "rows_of" sRO)(p29:fnE K "is_letter_row" sILR)(p30:fnE K "is_thing_row" sITR)(p31:fnE K "is_name" sIN)(p32:fnE K "is_number" b5Z)(p33:fnE K "word_text" sWT)(p34:fnE K "read_word" sRW)(p35:fnE K "is_question" sIsQ)(p36:fnE K "_law_cell_at" b1H)(p37:fnE K "_law_amount" a6P)(p38:fnE K "_law_signs" a7C)(p39:fnE K "_law_names" a1S)(p40:fnE K "_law_book" b0o)(p41:fnE K "_law_things" K95R.a5d)(p42:fnE K "_law_text" b2l)(p43:fnE K "_law_read" b0p)(p44:fnE K "_law_good" b0q)
  (yI:mtE K PA "Parted.__init__" "__init__" K95C.a3X)(yP:mtE K PA "Parted.put" "put" K95C.sPut)(yL:mtE K PA "Parted.least_sum" "least_sum" K95C.sLs)(yB:mtE K PA "Parted.bound" "bound" K95C.a7x)(yW:mtE K PA "Parted.ways" "ways" K95C.a6H)(yJ:mtE K CO "Counts.__init__" "__init__" K95C.a5f)(yQ:mtE K CO "Counts.put_counts" "put_counts" K95C.b4Y)(yO:mtE K CO "Counts.over_ways" "over_ways" K95C.b1R)(yY:mtE K CO "Counts.by_way" "by_way" K95C.sBy)(yR1:mtE K RD "Reader.__init__" "__init__" K95R.b4G)(yR2:mtE K RD "Reader.take" "take" K95R.b4H)(yR3:mtE K RD "Reader.told" "told" K95R.b4I)(yR4:mtE K RD "Reader.rest" "rest" K95R.b4J)(yD1:mtE K DK "Desk.__init__" "__init__" b5L)(yD2:mtE K DK "Desk.book" "book" b5M)(yD3:mtE K DK "Desk.put_price" "put_price" mPP)(yD4:mtE K DK "Desk.put_weight" "put_weight" mPW)(yD5:mtE K DK "Desk.back" "back" b5N)(yD6:mtE K DK "Desk.answer" "answer" mAns)(yD7:mtE K DK "Desk.knows" "knows" a6k)(yD8:mtE K DK "Desk.answer_known" "answer_known" mAK)(yD9:mtE K DK "Desk.answer_of_first" "answer_of_first" mAF)(yD10:mtE K DK "Desk.code_text" "code_text" mCT)(yD11:mtE K DK "Desk.read_text" "read_text" mRT)
  (z0:PySem.W.nsIn K mainGlobals "len"=some none)(z1:PySem.W.nsIn K mainGlobals "range"=some none)(z2:PySem.W.nsIn K mainGlobals "tuple"=some none)(z3:PySem.W.nsIn K mainGlobals "list"=some none)(z4:PySem.W.nsIn K mainGlobals "int"=some none)(z5:PySem.W.nsIn K mainGlobals "all"=some none)(z6:PySem.W.nsIn K mainGlobals "str"=some none)(z7:PySem.W.nsIn K mainGlobals "set"=some none)(z8:PySem.W.nsIn K mainGlobals "zip"=some none)(z9:PySem.W.nsIn K mainGlobals "enumerate"=some none)(z10:PySem.W.nsIn K mainGlobals "sum"=some none)(z11:PySem.W.nsIn K mainGlobals "min"=some none)(z12:PySem.W.nsIn K mainGlobals "sorted"=some none)
  (pgPA:PySem.W.plainGet K PA Str.empty=true)(hdPA:PySem.W.hasDictIn K PA=true)(poPA:PySem.W.plainOver K PA=true)(saPA:PySem.W.findIn K (.ref PA) "__setattr__"=some (some (.builtin "object.__setattr__")))(mkPA:PySem.W.makesIn K PA=true)(kcPA:PySem.W.keepIn K (.ref PA)=true)(naPA0:PySem.W.findIn K (.ref PA) "prices"=some none)(naPA1:PySem.W.findIn K (.ref PA) "things"=some none)(naPA2:PySem.W.findIn K (.ref PA) "sums"=some none)(naPA3:PySem.W.findIn K (.ref PA) "heads"=some none)(naPA4:PySem.W.findIn K (.ref PA) "tails"=some none)(pgCO:PySem.W.plainGet K CO Str.empty=true)(hdCO:PySem.W.hasDictIn K CO=true)(poCO:PySem.W.plainOver K CO=true)(saCO:PySem.W.findIn K (.ref CO) "__setattr__"=some (some (.builtin "object.__setattr__")))(mkCO:PySem.W.makesIn K CO=true)(kcCO:PySem.W.keepIn K (.ref CO)=true)(naCO0:PySem.W.findIn K (.ref CO) "parted"=some none)(naCO1:PySem.W.findIn K (.ref CO) "letters"=some none)(naCO2:PySem.W.findIn K (.ref CO) "codes"=some none)(naCO3:PySem.W.findIn K (.ref CO) "tails"=some none)(pgRD:PySem.W.plainGet K RD Str.empty=true)(hdRD:PySem.W.hasDictIn K RD=true)(poRD:PySem.W.plainOver K RD=true)(saRD:PySem.W.findIn K (.ref RD) "__setattr__"=some (some (.builtin "object.__setattr__")))(mkRD:PySem.W.makesIn K RD=true)(kcRD:PySem.W.keepIn K (.ref RD)=true)(naRD0:PySem.W.findIn K (.ref RD) "found"=some none)(naRD1:PySem.W.findIn K (.ref RD) "things"=some none)(naRD2:PySem.W.findIn K (.ref RD) "left"=some none)(naRD3:PySem.W.findIn K (.ref RD) "past"=some none)(pgDK:PySem.W.plainGet K DK Str.empty=true)(hdDK:PySem.W.hasDictIn K DK=true)(poDK:PySem.W.plainOver K DK=true)(saDK:PySem.W.findIn K (.ref DK) "__setattr__"=some (some (.builtin "object.__setattr__")))(mkDK:PySem.W.makesIn K DK=true)(kcDK:PySem.W.keepIn K (.ref DK)=true)(naDK0:PySem.W.findIn K (.ref DK) "signs"=some none)(naDK1:PySem.W.findIn K (.ref DK) "prices"=some none)(naDK2:PySem.W.findIn K (.ref DK) "names"=some none)(naDK3:PySem.W.findIn K (.ref DK) "weights"=some none)(naDK4:PySem.W.findIn K (.ref DK) "past"=some none)
  (gTB:PySem.W.nsIn K mainGlobals "BadNumber"=some (some (.ref TB)))(xTB:xcIn K TB=true)(gS:PySem.W.nsIn K mainGlobals "SIGNS"=some (some (.str alpha tS)))(gF:PySem.W.nsIn K mainGlobals "FIGURES"=some (some (.str figs tF)))(gE:PySem.W.nsIn K mainGlobals "EMPTY_WORD"=some (some (.str a8o tE)))(guA:PySem.W.nsIn K mainGlobals "ALONE"=some (some (.ref uA)))(luA:K.lookup uA=some ⟨.type "tuple",duA,.seq #[.str (Str.ofString "cost") tuA0,.str (Str.ofString "many") tuA1,.str (Str.ofString "free") tuA2] nuA,euA⟩)(guB:PySem.W.nsIn K mainGlobals "WITH_NUMBER"=some (some (.ref uB)))(luB:K.lookup uB=some ⟨.type "tuple",duB,.seq #[.str (Str.ofString "code") tuB0,.str (Str.ofString "bounded") tuB1] nuB,euB⟩)(guC:PySem.W.nsIn K mainGlobals "WITH_WORD"=some (some (.ref uC)))(luC:K.lookup uC=some ⟨.type "tuple",duC,.seq #[.str (Str.ofString "sure") tuC0,.str (Str.ofString "price") tuC1,.str (Str.ofString "weight") tuC2,.str (Str.ofString "read") tuC3] nuC,euC⟩)
  {oc kV dc pm cd ct:Value}{od an:Option Addr}{sl:Array (Option Value)}(a1:PySem.W.nsIn K mainGlobals "law"=some (some (.ref fl)))(l1:K.lookup fl=some ⟨oc,od,.func (PySem.W.fnOf "law" "law" (a1C b0R) (a0Q b0R) (a0g b0R) .none kV dc pm an cd ct),sl⟩)(c1:PySem.W.codeIn K cd "law"=true)(k1:PySem.W.keepIn K (.ref fl)=true) :
  ∃fd:FuncData,(∀(s:Shared)(v:Value),BindsTo s fd ⟨[v],[]⟩ [("script",v)])/\∀base:Heap,K.In base->base.Ns mainGlobals mg->a0I l.prog w K mg base CX0 88 fa fd ["script"] (b2E K):=by
 have e:=hfa.symm.trans (b7H X G a1);cases e;have FL0:=a8S (st:=b0R) l1 c1 k1;obtain⟨f0,d0,q0⟩:=p0.get X G;obtain⟨f1,d1,q1⟩:=p1.get X G;obtain⟨f2,d2,q2⟩:=p2.get X G;obtain⟨f3,d3,q3⟩:=p3.get X G;obtain⟨f4,d4,q4⟩:=p4.get X G;obtain⟨f5,d5,q5⟩:=p5.get X G;obtain⟨f6,d6,q6⟩:=p6.get X G;obtain⟨f7,d7,q7⟩:=p7.get X G;obtain⟨f8,d8,q8⟩:=p8.get X G;obtain⟨f9,d9,q9⟩:=p9.get X G;obtain⟨f10,d10,q10⟩:=p10.get X G;obtain⟨f11,d11,q11⟩:=p11.get X G;obtain⟨f12,d12,q12⟩:=p12.get X G;obtain⟨f13,d13,q13⟩:=p13.get X G;obtain⟨f14,d14,q14⟩:=p14.get X G;obtain⟨f15,d15,q15⟩:=p15.get X G;obtain⟨f16,d16,q16⟩:=p16.get X G;obtain⟨f17,d17,q17⟩:=p17.get X G;obtain⟨f18,d18,q18⟩:=p18.get X G;obtain⟨f19,d19,q19⟩:=p19.get X G;obtain⟨f20,d20,q20⟩:=p20.get X G;obtain⟨f21,d21,q21⟩:=p21.get X G;obtain⟨f22,d22,q22⟩:=p22.get X G;obtain⟨f23,d23,q23⟩:=p23.get X G;obtain⟨f24,d24,q24⟩:=p24.get X G;obtain⟨f25,d25,q25⟩:=p25.get X G;obtain⟨f26,d26,q26⟩:=p26.get X G;obtain⟨f27,d27,q27⟩:=p27.get X G;obtain⟨f28,d28,q28⟩:=p28.get X G;obtain⟨f29,d29,q29⟩:=p29.get X G;obtain⟨f30,d30,q30⟩:=p30.get X G;obtain⟨f31,d31,q31⟩:=p31.get X G;obtain⟨f32,d32,q32⟩:=p32.get X G;obtain⟨f33,d33,q33⟩:=p33.get X G;obtain⟨f34,d34,q34⟩:=p34.get X G;obtain⟨f35,d35,q35⟩:=p35.get X G;obtain⟨f36,d36,q36⟩:=p36.get X G;obtain⟨f37,d37,q37⟩:=p37.get X G;obtain⟨f38,d38,q38⟩:=p38.get X G;obtain⟨f39,d39,q39⟩:=p39.get X G;obtain⟨f40,d40,q40⟩:=p40.get X G;obtain⟨f41,d41,q41⟩:=p41.get X G;obtain⟨f42,d42,q42⟩:=p42.get X G;obtain⟨f43,d43,q43⟩:=p43.get X G;obtain⟨f44,d44,q44⟩:=p44.get X G;obtain⟨mI,nI,FI,aI,iI,kI⟩:=yI.get;obtain⟨mP,nP,FP,aP,iP,kP⟩:=yP.get;obtain⟨mL,nL,FL,aL,iL,kL⟩:=yL.get;obtain⟨mB,nB,FB,aB,iB,kB⟩:=yB.get;obtain⟨mW,nW,FW,aW,iW,kW⟩:=yW.get;obtain⟨mJ,nJ,FJ,aJ,iJ,kJ⟩:=yJ.get;obtain⟨mQ,nQ,FQ,aQ,iQ,kQ⟩:=yQ.get;obtain⟨mO,nO,FO,aO,iO,kO⟩:=yO.get;obtain⟨mY,nY,FY,aY,iY,kY⟩:=yY.get;obtain⟨mR1,nR1,FR1,aR1,iR1,kR1⟩:=yR1.get;obtain⟨mR2,nR2,FR2,aR2,iR2,kR2⟩:=yR2.get;obtain⟨mR3,nR3,FR3,aR3,iR3,kR3⟩:=yR3.get;obtain⟨mR4,nR4,FR4,aR4,iR4,kR4⟩:=yR4.get;obtain⟨mD1,nD1,FD1,aD1,iD1,kD1⟩:=yD1.get;obtain⟨mD2,nD2,FD2,aD2,iD2,kD2⟩:=yD2.get;obtain⟨mD3,nD3,FD3,aD3,iD3,kD3⟩:=yD3.get;obtain⟨mD4,nD4,FD4,aD4,iD4,kD4⟩:=yD4.get;obtain⟨mD5,nD5,FD5,aD5,iD5,kD5⟩:=yD5.get;obtain⟨mD6,nD6,FD6,aD6,iD6,kD6⟩:=yD6.get;obtain⟨mD7,nD7,FD7,aD7,iD7,kD7⟩:=yD7.get;obtain⟨mD8,nD8,FD8,aD8,iD8,kD8⟩:=yD8.get;obtain⟨mD9,nD9,FD9,aD9,iD9,kD9⟩:=yD9.get;obtain⟨mD10,nD10,FD10,aD10,iD10,kD10⟩:=yD10.get;obtain⟨mD11,nD11,FD11,aD11,iD11,kD11⟩:=yD11.get;have B_len:=b6Z X G z0;have B_range:=b6Z X G z1;have B_tuple:=b6Z X G z2;have B_list:=b6Z X G z3;have B_int:=b6Z X G z4;have B_all:=b6Z X G z5;have B_str:=b6Z X G z6;have B_set:=b6Z X G z7;have B_zip:=b6Z X G z8;have B_enumerate:=b6Z X G z9;have B_sum:=b6Z X G z10;have B_min:=b6Z X G z11;have B_sorted:=b6Z X G z12;have g_TB:=b7H X G gTB;have C_SIGNS:=b7H X G gS;have C_FIGURES:=b7H X G gF;have C_EMPTY:=b7H X G gE;refine⟨PySem.W.fnOf "law" "law" (a1C b0R) (a0Q b0R) (a0g b0R) .none kV dc pm an cd ct,λs v=>.of_eq rfl,λbase _ _=>?_⟩;have rc:K95C.PC K PA:=⟨⟨pgPA,hdPA,poPA,saPA⟩,naPA0,naPA1,naPA2,naPA3,naPA4⟩
 have rd:K95C.DC K CO:=⟨⟨pgCO,hdCO,poCO,saCO⟩,naCO0,naCO1,naCO2,naCO3⟩
 have rr:K95R.RC K RD:=⟨⟨pgRD,hdRD,poRD,saRD⟩,naRD0,naRD1,naRD2,naRD3⟩
 have dc:DC K DK:=⟨⟨pgDK,hdDK,poDK,saDK⟩,naDK0,naDK1,naDK2,naDK3,naDK4⟩
 have wc:Wc K mg uA uB uC:=⟨b7H X G guA,b7H X G guB,b7H X G guC,λH=>.inr ⟨_,_,_,luA,rfl,rfl,(by show 3<=sizeLine;decide),.cons ⟨_,rfl⟩ (.cons ⟨_,rfl⟩ (.cons ⟨_,rfl⟩ (.nil)))⟩,λH=>.inr ⟨_,_,_,luB,rfl,rfl,(by show 2<=sizeLine;decide),.cons ⟨_,rfl⟩ (.cons ⟨_,rfl⟩ (.nil))⟩,λH=>.inr ⟨_,_,_,luC,rfl,rfl,(by show 4<=sizeLine;decide),.cons ⟨_,rfl⟩ (.cons ⟨_,rfl⟩ (.cons ⟨_,rfl⟩ (.cons ⟨_,rfl⟩ (.nil))))⟩⟩
 have B_weight_sums:=a0S (P:=l.prog) (w:=w) (base:=base) q0 ((K95C.b4Z q0.F).mono (show _<=2 by decide)) λ_ _ _ _ _ _=>al1 λ_=>rfl;have B_row_with:=a0S (P:=l.prog) (w:=w) (base:=base) q1 (K95C.ok_row q1.F) λ_ _ _ _ _ _=>al3 λ_ _ _=>rfl;have B_square:=a0S (P:=l.prog) (w:=w) (base:=base) q2 (K95C.a9W q2.F B_row_with B_range) λ_ _ _ _ _ _=>al2 λ_ _=>rfl;have B_least:=a0S (P:=l.prog) (w:=w) (base:=base) q3 (K95C.b1V q3.F B_min) λ_ _ _ _ _ _=>al1 λ_=>rfl;have B_added:=a0S (P:=l.prog) (w:=w) (base:=base) q4 (K95C.b1W q4.F) λ_ _ _ _ _ _=>al2 λ_ _=>rfl;have ML:=b5X (P:=l.prog) (w:=w) (mg:=mg) (base:=base) FL ⟨aL,iL,kL⟩ (K95C.ok_ls FL B_least B_added rc B_range) λ_ _ _ _ _ _=>al5 λ_ _ _ _ _=>rfl;have MB:=b5X (P:=l.prog) (w:=w) (mg:=mg) (base:=base) FB ⟨aB,iB,kB⟩ (K95C.b1Y FB (B_least.up (show _<=2 by decide)) ML rc B_len B_range) λ_ _ _ _ _ _=>al3 λ_ _ _=>rfl;have MP:=b5X (P:=l.prog) (w:=w) (mg:=mg) (base:=base) FP ⟨aP,iP,kP⟩ ((K95C.ok_put FP (B_least.up (show _<=2 by decide)) (B_added.up (show _<=2 by decide)) ML rc B_len B_range).mono (show _<=4 by decide)) λ_ _ _ _ _ _=>al4 λ_ _ _ _=>rfl;have MW:=b5X (P:=l.prog) (w:=w) (mg:=mg) (base:=base) FW ⟨aW,iW,kW⟩ (K95C.a6J FW (B_added.up (show _<=2 by decide)) rc B_len B_range) λ_ _ _ _ _ _=>al4 λ_ _ _ _=>rfl;have MY:=b5X (P:=l.prog) (w:=w) (mg:=mg) (base:=base) FY ⟨aY,iY,kY⟩ ((K95C.ok_by FY rd).mono (show _<=3 by decide)) λ_ _ _ _ _ _=>al4 λ_ _ _ _=>rfl;have MO:=b5X (P:=l.prog) (w:=w) (mg:=mg) (base:=base) FO ⟨aO,iO,kO⟩ (K95C.b5k FO MW MY rc rd B_sum) λ_ _ _ _ _ _=>al4 λ_ _ _ _=>rfl;have MQ:=b5X (P:=l.prog) (w:=w) (mg:=mg) (base:=base) FQ ⟨aQ,iQ,kQ⟩ (K95C.b5l FQ MO rd B_range) λ_ _ _ _ _ _=>al3 λ_ _ _=>rfl;have cl:K95C.Cl l.prog w K mg base PA:=⟨rc,b7H X G gPA,_,_,⟨mkPA,aI,iI,kcPA⟩,K95C.b1X FI B_weight_sums B_square rc B_len B_range,FI.binds (λ_ _ _ _ _ _=>al3 λ_ _ _=>rfl)⟩
 have B_parted_least:=a0S (P:=l.prog) (w:=w) (base:=base) q5 (K95C.ok_pl q5.F cl MP (MB.up (show _<=4 by decide)) B_len B_range) λ_ _ _ _ _ _=>al2 λ_ _=>rfl;have cd:K95C.ClC l.prog w K mg base PA CO:=⟨rd,b7H X G gCO,_,_,⟨mkCO,aJ,iJ,kcCO⟩,K95C.b2b FJ B_parted_least (B_square.up (show _<=5 by decide)) MQ rd B_len B_range,FJ.binds (λ_ _ _ _ _ _=>al3 λ_ _ _=>rfl)⟩
 have OWT:=K95C.b5s (P':=l.prog) (w:=w) (base:=base) (C:=PA) (D:=CO) q7.F q8.F q7.m q7.k (q7.F.binds (λ_ _ _ _ _ _=>al4 λ_ _ _ _=>rfl)) q8.m q8.k (q8.F.binds (λ_ _ _ _ _ _=>al5 λ_ _ _ _ _=>rfl)) MW MY rc rd 76;have B_words_by:=a0S (P:=l.prog) (w:=w) (base:=base) q7 (OWT.1) λ_ _ _ _ _ _=>al4 λ_ _ _ _=>rfl;have B_numbered:=a0S (P:=l.prog) (w:=w) (base:=base) q6 ((K95C.b5w q6.F cd B_words_by B_len B_tuple).mono (show _<=82 by decide)) λ_ _ _ _ _ _=>al3 λ_ _ _=>rfl;have B_has_letters_alone:=a0S (P:=l.prog) (w:=w) (base:=base) q9 (K95C.b2o q9.F B_all) λ_ _ _ _ _ _=>al2 λ_ _=>rfl;have B_begins:=a0S (P:=l.prog) (w:=w) (base:=base) q10 (K95R.a9A q10.F B_len) λ_ _ _ _ _ _=>al2 λ_ _=>rfl;have B_clash:=a0S (P:=l.prog) (w:=w) (base:=base) q11 (K95R.a8h q11.F B_begins B_len B_range) λ_ _ _ _ _ _=>al1 λ_=>rfl;have B_refuse_clash:=a0S (P:=l.prog) (w:=w) (base:=base) q12 (K95R.a9D q12.F B_clash) λ_ _ _ _ _ _=>al1 λ_=>rfl;have B_ways_on:=a0S (P:=l.prog) (w:=w) (base:=base) q13 ((K95R.a6J q13.F B_len B_range).mono (show _<=3 by decide)) λ_ _ _ _ _ _=>al1 λ_=>rfl;have B_knots_of:=a0S (P:=l.prog) (w:=w) (base:=base) q14 (K95R.b1L q14.F B_refuse_clash B_ways_on B_sorted) λ_ _ _ _ _ _=>al1 λ_=>rfl;have B_written:=a0S (P:=l.prog) (w:=w) (base:=base) q15 ((K95R.a8i q15.F B_refuse_clash B_len B_all B_tuple).mono (show _<=82 by decide)) λ_ _ _ _ _ _=>al2 λ_ _=>rfl;have rdr:K95R.Rdr l.prog w K mg base RD:=⟨rr,b7H X G gRD,_,_,⟨mkRD,aR1,iR1,kcRD⟩,K95R.b4L FR1 B_knots_of rr B_enumerate,FR1.binds (λ_ _ _ _ _ _=>al2 λ_ _=>rfl),_,_,⟨aR2,iR2,kR2⟩,(K95R.b4N FR2 rr).mono (show _<=6 by decide),FR2.binds (λ_ _ _ _ _ _=>al2 λ_ _=>rfl),_,_,⟨aR3,iR3,kR3⟩,(K95R.b4O FR3 rr B_list).mono (show _<=6 by decide),FR3.binds (λ_ _ _ _ _ _=>al1 λ_=>rfl),_,_,⟨aR4,iR4,kR4⟩,(K95R.b4P FR4 rr).mono (show _<=6 by decide),FR4.binds (λ_ _ _ _ _ _=>al1 λ_=>rfl)⟩
 have B_read:=a0S (P:=l.prog) (w:=w) (base:=base) q16 ((K95R.b4R q16.F rdr).mono (show _<=82 by decide)) λ_ _ _ _ _ _=>al2 λ_ _=>rfl;have B_is_amount:=a0S (P:=l.prog) (w:=w) (base:=base) q17 (ok_is q17.F) λ_ _ _ _ _ _=>al1 λ_=>rfl;have B_is_amountx:=a0S (P:=l.prog) (w:=w) (base:=base) q17 (ok_ix q17.F) λ_ _ _ _ _ _=>al1 λ_=>rfl;have B_are_amounts:=a0S (P:=l.prog) (w:=w) (base:=base) q18 (ok_ar q18.F B_is_amount B_len B_all) λ_ _ _ _ _ _=>al3 λ_ _ _=>rfl;have B_made_prices:=a0S (P:=l.prog) (w:=w) (base:=base) q19 (ok_mp q19.F B_are_amounts B_tuple) λ_ _ _ _ _ _=>al1 λ_=>rfl;have B_made_weights:=a0S (P:=l.prog) (w:=w) (base:=base) q20 (ok_mw q20.F B_are_amounts B_tuple) λ_ _ _ _ _ _=>al1 λ_=>rfl;have B_refuse_letter:=a0S (P:=l.prog) (w:=w) (base:=base) q23 ((ok_RL q23.F B_len).mono (show _<=2 by decide)) λ_ _ _ _ _ _=>al2 λ_ _=>rfl;have B_refuse_thing:=a0S (P:=l.prog) (w:=w) (base:=base) q24 ((ok_RT q24.F B_len).mono (show _<=2 by decide)) λ_ _ _ _ _ _=>al2 λ_ _=>rfl;have B_with_number:=a0S (P:=l.prog) (w:=w) (base:=base) q25 (ok_WN q25.F B_is_amountx) λ_ _ _ _ _ _=>al3 λ_ _ _=>rfl;have B_price_moved:=a0S (P:=l.prog) (w:=w) (base:=base) q21 (ok_PM q21.F B_refuse_letter B_with_number) λ_ _ _ _ _ _=>al3 λ_ _ _=>rfl;have B_weight_moved:=a0S (P:=l.prog) (w:=w) (base:=base) q22 (ok_WM q22.F B_refuse_thing B_with_number) λ_ _ _ _ _ _=>al3 λ_ _ _=>rfl;have B_book_text:=a0S (P:=l.prog) (w:=w) (base:=base) q26 (ok_bt q26.F B_zip) λ_ _ _ _ _ _=>al4 λ_ _ _ _=>rfl;have B_is_name:=a0S (P:=l.prog) (w:=w) (base:=base) q31 (ok_in q31.F C_SIGNS B_len B_all) λ_ _ _ _ _ _=>al2 λ_ _=>rfl;have B_is_number:=a0S (P:=l.prog) (w:=w) (base:=base) q32 (b5w q32.F C_FIGURES B_len B_all) λ_ _ _ _ _ _=>al1 λ_=>rfl;have B_is_numberx:=a0S (P:=l.prog) (w:=w) (base:=base) q32 (ok_nx q32.F C_FIGURES B_len B_all) λ_ _ _ _ _ _=>al1 λ_=>rfl;have B_is_letter_row:=a0S (P:=l.prog) (w:=w) (base:=base) q29 (ok_lr q29.F B_is_name B_is_number B_len) λ_ _ _ _ _ _=>al1 λ_=>rfl;have B_is_thing_row:=a0S (P:=l.prog) (w:=w) (base:=base) q30 (ok_tr q30.F B_is_name B_is_number B_len) λ_ _ _ _ _ _=>al1 λ_=>rfl;have B_rows_of:=a0S (P:=l.prog) (w:=w) (base:=base) q28 (ok_ro q28.F B_is_thing_row B_is_letter_row B_len B_enumerate) λ_ _ _ _ _ _=>al1 λ_=>rfl;have B_read_book:=a0S (P:=l.prog) (w:=w) (base:=base) q27 (ok_rb q27.F B_rows_of B_made_prices B_made_weights B_len B_tuple B_set B_int) λ_ _ _ _ _ _=>al1 λ_=>rfl;have B_is_question:=a0S (P:=l.prog) (w:=w) (base:=base) q35 ((ok_iq q35.F wc B_is_numberx B_len B_all).mono (show _<=84 by decide)) λ_ _ _ _ _ _=>al1 λ_=>rfl;have B_word_text:=a0S (P:=l.prog) (w:=w) (base:=base) q33 (b5s q33.F B_has_letters_alone C_EMPTY B_len) λ_ _ _ _ _ _=>al2 λ_ _=>rfl;have B_read_word:=a0S (P:=l.prog) (w:=w) (base:=base) q34 ((ok_rw q34.F C_EMPTY B_len B_all B_tuple).mono (show _<=82 by decide)) λ_ _ _ _ _ _=>al2 λ_ _=>rfl;have dk:Dsk l.prog w K mg base DK:=⟨⟨pgDK,hdDK,poDK,saDK⟩,b7H X G gDK,_,_,⟨mkDK,aD1,iD1,kcDK⟩,(ok_di FD1 dc B_read_book).mono (show _<=86 by decide),FD1.binds (λ_ _ _ _ _ _=>al2 λ_ _=>rfl)⟩
 have X2:=a8r (P:=l.prog) (w:=w) (mg:=mg) (base:=base) FD2 ⟨aD2,iD2,kD2⟩ ((ok_db FD2 dc B_book_text).mono (show _<=87 by decide)) λ_ _ _ _ _ _=>al1 λ_=>rfl;have X3:=a8r (P:=l.prog) (w:=w) (mg:=mg) (base:=base) FD3 ⟨aD3,iD3,kD3⟩ ((ok_pp FD3 dc (B_is_amountx.up (show _<=3 by decide)) B_price_moved).mono (show _<=87 by decide)) λ_ _ _ _ _ _=>al3 λ_ _ _=>rfl;have X4:=a8r (P:=l.prog) (w:=w) (mg:=mg) (base:=base) FD4 ⟨aD4,iD4,kD4⟩ ((ok_pw FD4 dc (B_is_amountx.up (show _<=3 by decide)) B_weight_moved).mono (show _<=87 by decide)) λ_ _ _ _ _ _=>al3 λ_ _ _=>rfl;have X5:=a8r (P:=l.prog) (w:=w) (mg:=mg) (base:=base) FD5 ⟨aD5,iD5,kD5⟩ ((ok_dk FD5 dc B_len).mono (show _<=87 by decide)) λ_ _ _ _ _ _=>al1 λ_=>rfl;have X7:=a8r (P:=l.prog) (w:=w) (mg:=mg) (base:=base) FD7 ⟨aD7,iD7,kD7⟩ ((ok_kw FD7 dc wc B_all).mono (show _<=84 by decide)) λ_ _ _ _ _ _=>al2 λ_ _=>rfl;have X10:=a8r (P:=l.prog) (w:=w) (mg:=mg) (base:=base) FD10 ⟨aD10,iD10,kD10⟩ ((ok_ct FD10 dc B_word_text).mono (show _<=83 by decide)) λ_ _ _ _ _ _=>al2 λ_ _=>rfl;have X11:=a8r (P:=l.prog) (w:=w) (mg:=mg) (base:=base) FD11 ⟨aD11,iD11,kD11⟩ ((ok_rt FD11 dc B_word_text).mono (show _<=82 by decide)) λ_ _ _ _ _ _=>al2 λ_ _=>rfl;have X9:=a8r (P:=l.prog) (w:=w) (mg:=mg) (base:=base) FD9 ⟨aD9,iD9,kD9⟩ (ok_af FD9 dc B_numbered (B_word_text.up (show _<=82 by decide)) B_read_word B_read B_written X11) λ_ _ _ _ _ _=>al2 λ_ _=>rfl;have X8:=a8r (P:=l.prog) (w:=w) (mg:=mg) (base:=base) FD8 ⟨aD8,iD8,kD8⟩ (ok_ak FD8 dc (B_numbered.up (show _<=83 by decide)) X10 X9 B_int) λ_ _ _ _ _ _=>al2 λ_ _=>rfl;have oan:=ok_an FD6 dc B_is_question X7 X8 g_TB (XC.of xTB).h;have X6:=a8r (P:=l.prog) (w:=w) (mg:=mg) (base:=base) FD6 ⟨aD6,iD6,kD6⟩ (oan) λ_ _ _ _ _ _=>al2 λ_ _=>rfl;have X6a:=a8r (P:=l.prog) (w:=w) (mg:=mg) (base:=base) FD6 ⟨aD6,iD6,kD6⟩ ((oan).mono (show _<=86 by decide)) λ_ _ _ _ _ _=>al2 λ_ _=>rfl;have X6b:=a8r (P:=l.prog) (w:=w) (mg:=mg) (base:=base) FD6 ⟨aD6,iD6,kD6⟩ ((oan).mono (show _<=87 by decide)) λ_ _ _ _ _ _=>al2 λ_ _=>rfl;have B_law_cell_at:=a0S (P:=l.prog) (w:=w) (base:=base) q36 (b5y q36.F B_len) λ_ _ _ _ _ _=>al2 λ_ _=>rfl;have B_law_amount:=a0S (P:=l.prog) (w:=w) (base:=base) q37 (b0v q37.F) λ_ _ _ _ _ _=>al1 λ_=>rfl;have B_law_signs:=a0S (P:=l.prog) (w:=w) (base:=base) q38 (ok_sg q38.F B_range) λ_ _ _ _ _ _=>al2 λ_ _=>rfl;have B_law_names:=a0S (P:=l.prog) (w:=w) (base:=base) q39 (ok_nm q39.F B_range) λ_ _ _ _ _ _=>al2 λ_ _=>rfl;have B_law_book:=a0S (P:=l.prog) (w:=w) (base:=base) q40 ((ok_bo q40.F B_law_cell_at B_law_amount B_law_signs B_law_names B_range B_tuple).mono (show _<=87 by decide)) λ_ _ _ _ _ _=>al2 λ_ _=>rfl;have B_law_things:=a0S (P:=l.prog) (w:=w) (base:=base) q41 ((K95R.a9E q41.F B_law_cell_at B_range).mono (show _<=87 by decide)) λ_ _ _ _ _ _=>al3 λ_ _ _=>rfl;have B_law_text:=a0S (P:=l.prog) (w:=w) (base:=base) q42 ((ok_tx q42.F B_len B_range B_str).mono (show _<=87 by decide)) λ_ _ _ _ _ _=>al1 λ_=>rfl;have B_law_read:=a0S (P:=l.prog) (w:=w) (base:=base) q43 (ok_lr2 q43.F dc X6) λ_ _ _ _ _ _=>al2 λ_ _=>rfl;have B_law_good:=a0S (P:=l.prog) (w:=w) (base:=base) q44 (ok_gd q44.F dc X6a B_law_read B_len B_range B_int) λ_ _ _ _ _ _=>al3 λ_ _ _=>rfl;exact ok_law FL0 dk X2 X6b X3 X4 X5 (B_law_cell_at.up (show _<=87 by decide)) (B_law_amount.up (show _<=87 by decide)) B_law_book (B_law_names.up (show _<=87 by decide)) B_law_text B_law_things B_law_good B_len B_int B_tuple B_list
theorem walk{l:PySem.W.OpenLaw}{q:Program}{loose:List Str}{XP:(Str->Option Value)->Heap->Prop}{YP:World->Heap->Prop}{d:DefRec}{K:Params->PySem.W.Frag}(hn:l.most=some 63)(hdf:d.params.defaults=[])
  (hY:∀(w:World)(h:Heap),YP w h->(K w.params).In h)
  (F:∀(w:World)(mg:Str->Option Value)(fa:Addr)(h:Heap),(K w.params).In h->h.Ns mainGlobals mg->mg d.name=some (.ref fa) ->
   ∃fd:FuncData,(∀(s:Shared)(u:Value),BindsTo s fd ⟨[u],[]⟩ [("script",u)])/\∀base:Heap,(K w.params).In base->base.Ns mainGlobals mg->a0I l.prog w (K w.params) mg base CX0 88 fa fd ["script"] (b2E (K w.params))) :
  PySem.W.WalkO q loose XP YP l.row.toRowW d [] (λf vs=>PySem.call f vs):=
 L2.b4f (n:=63) (k:=88) (x:="script") (CX:=λ_=>CX0) (sp:=λw=>b2E (K w.params)) hn (by decide) hdf ⟨rfl,by decide,by decide⟩ hY F (λ_ _ a ns hl _ hS=>⟨a,ns,rfl,hS,hl,λ_=>rfl⟩) λ_ _ _ _ _ z=>z
end K95
namespace PySem.W.Fast
def tw18190419766612587027:=0
def tw4255193084835363485:=0
def tw8451776355124335999:=0
def tw10172647852685350710:=0
def tw9372741262167276843:=0
def tw8821669967533155918:=0
def tw1905010833929982174:=0
def tw14035604170797423352:=0
def tw17184591806529218819:=0
def tw14943646064489736740:=0
def tw10945238784253773612:=0
def tw14482153597037345958:=0
def tw15596689943648542885:=0
def tw3053112934834083930:=0
def tw320897614166747707:=0
def tw8555851122490727606:=0
def tw3063238877085374189:=0
def tw855936942589312903:=0
def tw10129129606387561980:=0
def tw6994075694840433135:=0
def tw2953896710976300335:=0
def tw2229027954044020793:=0
def tw17998519339888232704:=0
def tw3625649591313142400:=0
def tw10843635459486348417:=0
def tw8087923320981380889:=0
def tw12997785697019499645:=0
def tw3968463631324835982:=0
def tw8654979001120369834:=0
def tw9198471922550676146:=0
def tw8040489858526850971:=0
def tw13002091544407933213:=0
def tw195541917619538440:=0
def tw217865424197863128:=0
def tw1397315408437274033:=0
def tw797791671265554855:=0
def tw6304751481492396054:=0
def tw773948480988218469:=0
def tw638213928904133456:=0
def tw16838883944959126896:=0
def tw1820480562200040431:=0
def tw5432851210304284801:=0
def tw10275262475214555739:=0
def tw7179658315979125397:=0
def tw17559399114469365837:=0
def tw12951201229176859877:=0
def tw1827393693944900271:=0
def tw2302063858270557991:=0
def tw16701413069194310141:=0
def tw7504667458051034264:=0
def tw16936341860686640878:=0
def tw17553673347227989965:=0
def tw9160361292396431696:=0
def tw16660722629554650097:=0
def tw17507037341774197174:=0
def tw11369837894492626111:=0
def tw14554130756944794028:=0
def tw13755900977878035812:=0
def tw15596472469000684666:=0
def tw12790167505421504427:=0
def tw10142440929622050802:=0
def tw7569320219735853452:=0
def tw5901647630636657944:=0
def tw11243568668343602063:=0
def tw2771119377869099701:=0
def tw6031761366724088499:=0
def tw2233327011920751763:=0
def tw10921436185737459396:=0
def tw2339979260311028200:=0
def tw14991788340507877452:=0
def tw12706412823406950658:=0
def tw16450892199155241364:=0
def tw7204907378336142495:=0
def tw926005942701687295:=0
def tw7728969343363697959:=0
def tw17772743053655457839:=0
def tw18222097397721122771:=0
def tw420215970435565399:=0
def tw5293768720248525391:=0
def tw4276829315633534987:=0
def tw8939242571795028632:=0
def tw8507696408493967433:=0
def tw3710594906378230417:=0
def tw7003872938295900342:=0
def tw12568520638128350318:=0
def tw9129175138615242439:=0
def tw9664953357972121275:=0
def tw12764443189803287496:=0
def tw2555024300798414990:=0
def tw13400025663003169616:=0
def tw17547726607139399451:=0
def tw4998464180725895080:=0
def tw15793181485234376514:=0
def tw14973854393921700253:=0
def tw7182534728626233066:=0
def tw3610517409953932918:=0
def tw8698899187886612404:=0
def tw13829778728508704427:=0
def tw15926057093525875483:=0
def tw1701997171568692878:=0
def tw8869314263155862460:=0
def tw14834910267052047256:=0
def tw10683280464608760402:=0
def tw3033813792408338989:=0
def tw17532767435664152728:=0
def tw1016296908876541237:=0
def tw12964448970311605737:=0
def tw9778893129021195544:=0
def tw5926859390593200509:=0
def tw5600826153594969545:=0
def tw1540745263862935466:=0
def tw1385185880445592183:=0
def tw11901952130700577760:=0
def tw18382534743981322612:=0
def tw17154410818241286079:=0
def tw5859565676341468839:=0
def tw3144855054491928140:=0
def tw11674495572096996952:=0
def tw13331647473037976968:=0
def tw5593176228931949963:=0
def tw16670252727726534734:=0
def tw2007602007554694810:=0
def tw3041319762101732870:=0
def tw1103705505218898377:=0
def tw14796739655579041863:=0
def tw14325115880979025786:=0
def tw13461266338174248848:=0
def tw16279694199733787177:=0
def tw11582753816962618279:=0
def tw9100571000272686413:=0
def tw5446475732920629895:=0
def tw11236915194435708600:=0
def tw18412182112856772460:=0
def tw15986397698004909161:=0
def tw820217352182025417:=0
def tw3829980599688179757:=0
def tw16772599179435863494:=0
def tw1554340067818145377:=0
def tw9232369215211480409:=0
def tw16354802004886865790:=0
def tw9104919328797576337:=0
def tw16497275967932435912:=0
def tw8706958785784800017:=0
def tw11291274042841542691:=0
def tw18147495513189057348:=0
def tw3425944525838911623:=0
def tw15673355522542391503:=0
def tw935322647107398340:=0
def tw2851799398029164867:=0
def tw16145974891231302325:=0
def tw947058628925109473:=0
def tw9131228500660352802:=0
def tw5883223086334463654:=0
def tw10309938112865898456:=0
def tw12362935587164504258:=0
def tw2083964354277880170:=0
def tw13066618098095065547:=0
def tw3024729267517753291:=0
def tw365657898734006221:=0
def tw3663839454578976821:=0
def tw17929242812499674242:=0
def tw12877336811245006741:=0
def tw1786699974438790334:=0
def tw5162508933792242164:=0
def tw3662417652309151368:=0
def tw10589209101394865033:=0
def tw13302236323694274760:=0
def tw4309239293294207312:=0
def tw14504139444531196703:=0
def tw6770103647584721706:=0
def tw8260568578538209557:=0
def tw12337010958652762009:=0
def tw8195974251857094053:=0
def tw3855306644979773387:=0
def tw430014346151226373:=0
def tw15349114438774718199:=0
def tw2900445724394593943:=0
def tw374263657155428722:=0
def tw87517868015338812:=0
def tw14764713246694454261:=0
def tw274055509038276729:=0
def tw16124122808708573275:=0
def tw762703766797979641:=0
def tw17556543873740914314:=0
def tw13063079852935464802:=0
def tw864813565765289435:=0
def tw2786712240385575767:=0
def tw4250174747033067479:=0
def tw8244138664959928986:=0
def tw4892704930343834164:=0
def tw1308529197860932254:=0
def tw13429590481817682859:=0
def tw5375775725939298764:=0
def tw17687887271126120418:=0
def tw14524066858760280908:=0
def tw13825682363923601708:=0
def tw14247483393700281865:=0
def tw9782119020672824280:=0
def tw4723516889375920253:=0
def tw2041999399565469958:=0
def tw4033656761536426080:=0
def tw7346483678041965248:=0
def tw9094967691184305265:=0
def tw2564758717453815668:=0
def tw11303828449899591015:=0
def tw9161349079244084475:=0
def tw17931588167752250194:=0
def tw10057972363045631111:=0
def tw10244406100625704306:=0
def tw14926411440795376203:=0
def tw14121991890134428849:=0
def tw14606956293432955261:=0
def tw703855115327700940:=0
def tw5671271068107471571:=0
def tw10442398216957758051:=0
def tw2958405415350396617:=0
def tw2523531595343631214:=0
def tw16211855539230759559:=0
def tw16793649759059740961:=0
def tw16128306948966937768:=0
def tw8260051265760063391:=0
def tw9340793916312590876:=0
def tw16659681832896564011:=0
def tw6671569550801412503:=0
def tw4738405624002658541:=0
def tw4158681155069693495:=0
def tw6333309883229738273:=0
def tw17593768906743217188:=0
def tw7959411317082100138:=0
def tw1863324850674652168:=0
def tw7439721093315503707:=0
def tw15128992918810296057:=0
def tw16008886175897135098:=0
def tw401778067901541369:=0
def tw6421459998000871328:=0
def tw1822801738726841880:=0
def tw4074363027881662503:=0
def tw6085387864670378057:=0
def tw12627933930713227787:=0
def tw4503890742090834931:=0
def tw4640758588029246123:=0
def tw18430595506584207844:=0
def tw2062218251773738721:=0
def tw7585759018296661962:=0
def tw16501451134784674604:=0
def tw7670846800474373389:=0
def tw15527271154462648870:=0
def tw16398068568953137500:=0
def tw9766889980429396564:=0
def tw14664344294681843741:=0
def tw9563806278868214097:=0
def tw6252323444828019619:=0
def tw17707299366065036189:=0
def tw6243317550131358079:=0
def tw17177348557400634004:=0
def tw8631522476345929965:=0
def tw13564478900521718424:=0
def tw14368676606231552519:=0
def tw13821745283693992370:=0
def tw15428814178684914582:=0
def tw17151415268709831707:=0
def tw6223770942611169722:=0
def tw104082682839926479:=0
def tw2215973241162918641:=0
def tw13215036805252308634:=0
def tw16718584416937218133:=0
def tw111009448417816102:=0
def tw16455906474910937993:=0
def tw3134463169079094778:=0
def tw14400907635815127145:=0
def tw1344784602746990780:=0
def tw2028925341702726360:=0
def tw5030858508857989469:=0
def tw2217368032406204240:=0
def tw1535345302857390219:=0
def tw10858337023057106109:=0
def tw14943560072670713824:=0
def tw6327908876230313533:=0
def tw1403987449542568034:=0
def tw9407428085559698892:=0
def tw15624574145772490699:=0
def tw18409035256913662273:=0
def tw6701058384164348974:=0
def tw15746738601563036270:=0
def tw3473581413194750680:=0
def tw6014136707248585806:=0
def tw11166202556785085917:=0
def tw843281091526766659:=0
def tw15575949524854596131:=0
def tw3540333289379199640:=0
def tw7246952477679503865:=0
def tw7213197601100325389:=0
def tw16314690164619156010:=0
def tw9387038184103917328:=0
def tw14641541311999820927:=0
def tw5218809847356290877:=0
def tw18025503665047306996:=0
def tw12616427122565881140:=0
def tw16237431237970719550:=0
def tw1843654303166913013:=0
def tw5857847078912043129:=0
def tw7168839951956400134:=0
def tw9620067229539061328:=0
def tw9556076288945943557:=0
def tw5645468957470994590:=0
def tw11767799418112312621:=0
def tw3946805456176440409:=0
def tw2988178696565946731:=0
def tw15347102117712938850:=0
def tw3053459001766622523:=0
def tw1995857843450600844:=0
def tw8092659325692526951:=0
def tw12728823758625607700:=0
def tw11250335717794203352:=0
def tw17902410081512540334:=0
def tw11259701854096774446:=0
def tw1918006634245607424:=0
def tw3852171614193968572:=0
def tw9455262675485690032:=0
def tw24099190095699429:=0
def tw4024934736140754719:=0
def tw7138381612378823101:=0
def tw4851735374092561684:=0
def tw15479775398154486262:=0
def tw4182161111497274983:=0
def tw12551593049993452431:=0
def tw11033436750842944691:=0
def tw13845231579582366230:=0
def tw16292468030961614004:=0
def tw5926470239085472326:=0
def tw9135534837897276166:=0
def tw103089853157313019:=0
def tw14524372114539469614:=0
def tw5118800697130582326:=0
def tw8711050319979394116:=0
def tw6107323638067953164:=0
def tw14982234651315907863:=0
def tw4849297155064061826:=0
def tw13627601249996381988:=0
def tw6328795794354582206:=0
def tw7970438510815905190:=0
def tw12112089161087758614:=0
def tw18038586118097024252:=0
def tw11317250834056790347:=0
def tw8255612050599465182:=0
def tw3700279501397412671:=0
def tw16477493114753528334:=0
def tw642775146832131046:=0
def tw8339053084555729305:=0
def tw9717994505674538851:=0
def tw11900102403314416278:=0
def tw16560301488545069432:=0
def tw12131008912644487410:=0
def tw13471372024812508550:=0
def tw9030879488709480524:=0
def tw14075531094798739383:=0
def tw4694142779923852270:=0
def tw5328577226221789110:=0
def tw15074130610372621353:=0
def tw2514444243865628244:=0
def tw7674973936909219574:=0
def tw3405917166442182747:=0
def tw2588044353210530208:=0
def tw17662764281128356454:=0
def tw15846916863278279400:=0
def tw12448478404787248805:=0
def tw15107197010258090150:=0
def tw9807100271752499951:=0
def tw7806509376337153861:=0
def tw12941504470822452455:=0
def tw14528866851561652628:=0
def tw15494744792595645410:=0
def tw17735713810151311726:=0
def tw7463013949696137436:=0
def tw5919693322804268854:=0
def tw4860376241339928203:=0
def tw1285012980468025687:=0
def tw15856349644808927611:=0
def tw17689716153893622261:=0
def tw15582680778744392468:=0
def tw94377570137402947:=0
def tw16234073658729262766:=0
def tw49040306795169944:=0
def tw12879139611173528683:=0
def tw6188046801268542530:=0
def tw12025837327649460327:=0
def tw8372052707116361226:=0
def tw5530445388555566270:=0
def tw9558994579194960120:=0
def tw1076392774780804036:=0
def tw7818180040860755565:=0
def tw8941905279467776332:=0
def tw17334027265118247334:=0
def tw17434896231546325741:=0
def tw7523476595863680671:=0
def tw11390224661160592782:=0
def tw13610246889191950678:=0
def tw15719433428310426610:=0
def tw6948890099572994135:=0
def tw12933071794355918957:=0
def tw12357708923143930189:=0
def tw5064556189028531096:=0
def tw12892402590534750225:=0
def tw2803848277234059678:=0
def tw4257312516015761499:=0
def tw15046818186675481863:=0
def tw4863776191630896187:=0
def tw16746187515999938556:=0
def tw4145147201109132429:=0
def tw5648092856735489161:=0
def tw8494370650924495614:=0
def tw6654959287564643356:=0
def tw15898280656341376327:=0
def tw3731166156535390746:=0
def tw2722547012828569129:=0
def tw3689755681068959098:=0
def tw4876522553276638753:=0
def tw6809866955767884591:=0
def tw3217757270960084056:=0
def tw16522287607075786943:=0
def tw9974745779734801197:=0
def tw6612254937590611624:=0
def tw17441494887675424138:=0
def tw6849967602855661505:=0
def tw15765120913835600911:=0
def tw17760890502307423786:=0
def tw18287749895199365845:=0
def tw15710891267676702401:=0
def tw11908066367188003277:=0
def tw2018502001814798856:=0
def tw6920205180637133255:=0
def tw178589201631132479:=0
def tw15340188309434735827:=0
def tw8916061272680327718:=0
def tw18040709336712098150:=0
def tw16592923938884799804:=0
def tw9520200599943096702:=0
def tw1361546250887850374:=0
def tw13563807694217077984:=0
def tw15635851163973531910:=0
def tw8828996369400109295:=0
def tw10104908883970905352:=0
def tw5397953521138871219:=0
def tw6757737013994739937:=0
def tw8317182164682508719:=0
def tw3438852311394041910:=0
def tw11583250259537433416:=0
def tw7732177302295642897:=0
def tw13151951046878496112:=0
def tw8199187827940619038:=0
def tw18351284834510036403:=0
def tw4386289755388880645:=0
def tw17271925050124390161:=0
def tw3751127276702328187:=0
def tw11398002965482769580:=0
def tw2405673022123148863:=0
def tw7213753958189073961:=0
def tw4294980318566602392:=0
def tw6651709124412747129:=0
def tw15485644660913883476:=0
def tw14639715020466617439:=0
def tw14116827477646687948:=0
def tw2355056575840761201:=0
def tw12030346299047530205:=0
def tw12838896023978168759:=0
def tw17113898694027230835:=0
def tw6983842667348918936:=0
def tw5322458928758449012:=0
def tw890900331942001737:=0
def tw4411149515818623758:=0
def tw3657447427740183688:=0
def tw3033811233716549023:=0
def tw3721367231813172075:=0
def tw12798601922974871989:=0
def tw3965433294205334810:=0
def tw18271749685340154716:=0
def tw7522933021344909033:=0
def tw13887796299004936923:=0
def tw4555142573612776750:=0
def tw3692873110250212869:=0
def tw17356427148658623927:=0
def tw16346202062489142190:=0
def tw4840735448524095587:=0
def tw3937177422292851001:=0
def tw6361988931659467667:=0
def tw9898978616276929959:=0
def tw16455777294180053985:=0
def tw1712291089076122723:=0
def tw9503960583860163820:=0
def tw6437230027794976571:=0
def tw17088950072045548603:=0
def tw8828017852426768740:=0
def tw16314255560379240575:=0
def tw2071369099557756663:=0
def tw8949798323609546361:=0
def tw10866993359700089855:=0
def tw14573219773332238033:=0
def tw7169653515614661098:=0
def tw2896204782558435220:=0
def tw16758459694340213183:=0
def tw11299941670996750614:=0
def tw2203236512659653255:=0
def tw6380504941511880910:=0
def tw5335187877295553498:=0
def tw13083926552956249075:=0
def tw8171124069368452087:=0
def tw8305757393479259956:=0
def tw1712444284643470408:=0
def tw12041147051501636262:=0
def tw17473756696659788140:=0
def tw11031665724068393931:=0
def tw17687206444204731760:=0
def tw11682892969317173259:=0
def tw2764991986570661997:=0
def tw3442566528338445797:=0
def tw12636709275048720957:=0
def tw10525207990863233149:=0
def tw2946361010407642697:=0
def tw5071245986696232637:=0
def tw17120866946894686669:=0
def tw14423208951021525331:=0
def tw14954902684118898540:=0
def tw13017679873128187379:=0
def tw12030456956728819478:=0
def tw14820230302181694804:=0
def tw550676808478248434:=0
def tw2917625866061190331:=0
def tw9727623148799468069:=0
def tw1513963859766566697:=0
def tw2587300642685152579:=0
def tw15383719733875608923:=0
def tw16006400654125263786:=0
def tw9135040817970650774:=0
def tw7789385766719420887:=0
def tw4693067474389186513:=0
def tw7943738201082975352:=0
def tw4407662005393444280:=0
def tw17549673144795213019:=0
def tw287683424202777195:=0
def tw16806317851338678552:=0
def tw5534933297433138297:=0
def tw8547721994452628777:=0
def tw908645972987097411:=0
def tw3951085523793111774:=0
def tw16896041008245479403:=0
def tw17587851066856087697:=0
def tw6786794063754331407:=0
def tw2948438467361593250:=0
def tw198710607942554269:=0
def tw10415522343047907034:=0
def tw1557784034779006501:=0
def tw13896560220434154055:=0
def tw12045664636027998851:=0
def tw15062741437278519315:=0
def tw7941394887782055361:=0
def tw10994973534442510593:=0
def tw13090892044627255136:=0
def tw5707325027771491509:=0
def tw1181994557916787085:=0
def tw14026613878309129493:=0
def tw3340075232891227407:=0
def tw1168071474531644880:=0
def tw9552587190309860167:=0
def tw7293139351333007374:=0
def tw5772313490050108129:=0
def tw3785800289445205476:=0
def tw11510433000237276384:=0
def tw8129544387787033880:=0
def tw12508879172419957696:=0
def tw1919230731585911087:=0
def tw11549424754871955362:=0
def tw7646497533862702015:=0
def tw13244570885941231800:=0
def tw4442909649747792711:=0
def tw11454815136895535820:=0
def tw8732764571695730357:=0
def tw2297107739086023150:=0
def tw2147086369481313160:=0
def tw13546896265281542871:=0
def tw1619435591209830433:=0
def tw15990329575832706885:=0
def tw9040775469984027000:=0
def tw7227148644489406852:=0
def tw7649335013602664511:=0
def tw884872055351185832:=0
def tw2823904869204749834:=0
def tw10498907487005197378:=0
def tw8640496179346682971:=0
def tw16430897621172304425:=0
def tw15137468549445961395:=0
def tw15919908165541458556:=0
def tw9214458460780266234:=0
def tw15969757082355055529:=0
def tw5951864099060339695:=0
def tw15469047059140000427:=0
def tw7145068706727885176:=0
def tw16433791412877660698:=0
def tw253245099953261535:=0
def tw7679246857392235125:=0
def tw3999015513499052441:=0
def tw17006450668537122005:=0
def tw10650636103639251543:=0
def tw16625127401368926584:=0
def tw2531165662961672880:=0
def tw4859898679346385136:=0
def tw9432310065486760138:=0
def tw15870216681168330496:=0
def tw9187655897863200043:=0
def tw8859746170286912916:=0
def tw1138160469582231804:=0
def tw6327505469788084396:=0
def tw16899350549605681276:=0
def tw344154931546613867:=0
def tw12279576925394559437:=0
def tw9681089641256257794:=0
def tw13243774861954418576:=0
def tw2194039560841967976:=0
def tw5339437621008361173:=0
def tw12927724612495949314:=0
def tw18254742541644187932:=0
def tw9705535480142307096:=0
def tw4360387630614142649:=0
def tw12910575030716945935:=0
def tw11196239557726225717:=0
def tw10602249674677830998:=0
def tw16101348959630957659:=0
def tw11720445225890954708:=0
def tw12051490689001894606:=0
def tw2760045288536849940:=0
def tw15104560906240802583:=0
def tw4192948368909658100:=0
def tw4691818318554950795:=0
def tw8048932468869741819:=0
def tw8820251030486717953:=0
def tw12979681059558849657:=0
def tw4351377064525854214:=0
def tw5736722708850253682:=0
def tw12689108243992034557:=0
def tw6161102524670288760:=0
def tw6502416544716489443:=0
def tw1362398217638408639:=0
def tw55814332569313111:=0
def tw18065067075392939417:=0
def tw6413935103797422379:=0
def tw11584667603744916320:=0
def tw3304163934850787819:=0
def tw16621542084545411377:=0
def tw1216967256003720715:=0
def tw8843346918796508310:=0
def tw7721241645554692065:=0
def tw13485098210947078136:=0
def tw13623191922271987460:=0
def tw5646865331528639845:=0
def tw6140911009401239044:=0
def tw7461206373512508961:=0
def tw552809350707168135:=0
def tw1046839593083149850:=0
def tw6877694134364039983:=0
def tw8173262300296177717:=0
def tw9672546058976795190:=0
def tw10656642787355796657:=0
def tw12407829137737900064:=0
def tw6941651266586833107:=0
def tw11385948989670996113:=0
def tw17772944168785026859:=0
def tw11959031674686308087:=0
def tw4148032008875332695:=0
def tw13276101064338440955:=0
def tw8259560532062393962:=0
def tw9286165196947039010:=0
def tw12318548978469334052:=0
def tw6326443976522873167:=0
def tw5940849425894314842:=0
def tw15737651716143839336:=0
def tw14865089222024891336:=0
def tw12588308728779787592:=0
def tw4079881310972788775:=0
def tw14281811043382685953:=0
def tw12956944997965477642:=0
def tw7298023588821211184:=0
def tw16051785110615915701:=0
def tw2199913591993812715:=0
def tw10799006459571442693:=0
def tw12858725343118111518:=0
def tw4036131309706699978:=0
def tw2546124371398567818:=0
def tw14362083112459631972:=0
def tw11479434553312793149:=0
def tw18258600580967294230:=0
def tw15166793437177241124:=0
def tw8115556126506463378:=0
def tw4699988915490418327:=0
def tw11054359577698569965:=0
def tw17568101486690765905:=0
def tw13761154764886842909:=0
def tw7778066251864130838:=0
def tw15108794572567658924:=0
def tw3463819681350251141:=0
def tw7013408655783752904:=0
def tw8603505021796537162:=0
def tw13903192893566385328:=0
def tw15899358748033224193:=0
def tw8705554794440252736:=0
def tw14000863189583173549:=0
def tw10423874634500883825:=0
def tw12405509231750359510:=0
def tw7444269702058545246:=0
def tw18192907993888351641:=0
def tw5992374831080679135:=0
def tw10982695839918459508:=0
def tw13628917359959017738:=0
def tw16921177054195856630:=0
def tw12387086505178340928:=0
def tw4136260961344309931:=0
def tw3026182476821267427:=0
def tw1856897346222341806:=0
def tw3108347402862969674:=0
def tw1617842359959549815:=0
def tw18426141434180088053:=0
def tw12809185487508545854:=0
def tw14255333253961173739:=0
def tw1432633526589876400:=0
def tw741659816973938720:=0
def tw5420820030782998582:=0
def tw3362045888586981953:=0
def tw6506346760075078072:=0
def tw10522887102237428854:=0
def tw2424052893574804778:=0
def tw10455150155026542569:=0
def tw17054209553883674795:=0
def tw7140754876755430933:=0
def tw9228842964038164354:=0
def tw7459499326894998354:=0
def tw7089536998868274868:=0
def tw16372766925054888625:=0
def tw12509481962678695568:=0
def tw8873723224411709522:=0
def tw17794612283298552064:=0
def tw16071016441643808002:=0
def tw16418492415715059395:=0
def tw17266627849529465905:=0
def tw3942464141953578199:=0
def tw14670339045874395019:=0
def tw9502750435561191997:=0
def tw14654731166631619463:=0
def tw15813329131363039776:=0
def tw9115026232066830052:=0
def tw6669884928037519309:=0
def tw12836167040753300616:=0
def tw6793993075016207097:=0
def tw17465714517421625439:=0
def tw9179993541000984587:=0
def tw1627388099087119291:=0
def tw2196537952386886703:=0
def tw14463852662463543743:=0
def tw2567337483192064436:=0
def tw6757904358349481197:=0
def tw11105088553960395158:=0
def tw3123642659899599580:=0
def tw2124395441030485239:=0
def tw2835773280514705331:=0
def tw888124975395793105:=0
def tw6357781392383802558:=0
def tw4631759050035696457:=0
def tw17404615947086367949:=0
def tw11394494184360204413:=0
def tw13256769431646045939:=0
def tw11904541806351592322:=0
def tw9318704100627503305:=0
def tw15027661080979475681:=0
def tw18004374393866985952:=0
def tw1867789115907926218:=0
def tw11557218495603232761:=0
def tw2744531289394852784:=0
def tw14966174176775543483:=0
def tw14017424155428258199:=0
def tw2471197375380579810:=0
def tw2472633684612469658:=0
def tw15374424867202517899:=0
def tw18265895958800631628:=0
def tw6266082169048763011:=0
def tw7474010347341022858:=0
def tw17338686643759835005:=0
def tw18280253351304439995:=0
def tw3321124717172333865:=0
def tw4817348707111565081:=0
def tw7633581431383814542:=0
def tw5845027557390099776:=0
def tw11785242804151361857:=0
def tw5147154993162121625:=0
def tw3129926886342496307:=0
def tw16819161291262252159:=0
def tw6984582155795317657:=0
def tw1719065133556725952:=0
def tw8818293100419028227:=0
def tw11555186994256351216:=0
def tw5510227348146850845:=0
def tw8363791490760339112:=0
def tw4987712800550069604:=0
def tw5319323423824852221:=0
def tw5895506830868401058:=0
def tw7308854501450980789:=0
def tw2301560964597450781:=0
def tw17874678047778952129:=0
def tw14021735435854289291:=0
def tw14074154414856013021:=0
def tw8530418058817159377:=0
def tw3032413185618529937:=0
def tw17938939084414081190:=0
def tw14184160427454451232:=0
def tw5552020145615823001:=0
def tw9279391978816232500:=0
def tw8677975572401163088:=0
def tw13034749796106823799:=0
def tw13474285613322799643:=0
def tw405186138303872775:=0
def tw16128062071178948990:=0
def tw4658500018847372211:=0
def tw2531488494194041873:=0
def tw15658558768453830858:=0
def tw16243709181064341598:=0
def tw3055462254500050492:=0
def tw12499653891739376887:=0
def tw2192662419848518660:=0
def tw10603583294007663920:=0
def tw16967670586775568531:=0
def tw7307792151195447683:=0
def tw7654543821488593248:=0
def tw15768726459614192051:=0
def tw2452988465425340139:=0
def tw18195762834642946894:=0
def tw11671413789113017961:=0
def tw2635882940978812662:=0
def tw6260978019160271586:=0
def tw14992729916505397122:=0
def tw11607976987064591368:=0
def tw695937201464082152:=0
def tw8052977659498574576:=0
def tw16535266247643728612:=0
def tw1414314065417674990:=0
def tw2203569799281487946:=0
def tw516677400649675210:=0
def tw6892586748884706192:=0
def tw7678866931408201629:=0
def tw2688836119218736514:=0
def tw18168918593044729494:=0
def tw360758826499849035:=0
def tw2558057142941702301:=0
def tw5974230922505827771:=0
def tw15644762921697340318:=0
def tw12060720956027583825:=0
def tw16916701112031623112:=0
def tw17774036584402608648:=0
def tw6318472406327432538:=0
def tw3304451617291639664:=0
def tw10683216303543074518:=0
def tw3041620547587745590:=0
def tw3604488722045222902:=0
def tw4502176570488390607:=0
def tw2618320541996900770:=0
def tw8493622765405298098:=0
def tw17788330455041407198:=0
def tw6867726740490379680:=0
def tw15376245087157460248:=0
def tw14424141850828714044:=0
def tw11013463534250072909:=0
def tw15534251979587894990:=0
def tw13365516481847628467:=0
def tw6754218303731768368:=0
def tw10489357531524508679:=0
def tw4882397551946969945:=0
def tw1263291369422454598:=0
def tw5575040023257540716:=0
def tw4469261926622696702:=0
def tw4091142034752932608:=0
def tw3199750096279968886:=0
def tw8079088529740547142:=0
def tw1508368016056413809:=0
def tw7243071237149630769:=0
def tw2797790353031671545:=0
def tw16319022099603781940:=0
def tw1290121157796853598:=0
def tw159441585644893470:=0
def tw18110604387712196890:=0
def tw1311952658685431884:=0
def tw2893292559623011244:=0
def tw3929312078613939069:=0
def tw6866262504684459630:=0
def tw16051334670352337116:=0
def tw3540656693439204714:=0
def tw2345911402141978566:=0
def tw882723880151487848:=0
def tw2350855513663998430:=0
def tw16180953714644365448:=0
def tw7296419812043305462:=0
def tw14264253646513017810:=0
def tw6939130165316387243:=0
def tw14634685758755975810:=0
def tw4398212321331828391:=0
def tw10989632638110536350:=0
end PySem.W.Fast
open PySem PySem.W PyProof.Rows
set_option maxRecDepth 100000 in
set_option maxHeartbeats 0 in
theorem PySem.Challenge.cw_lettertoll_k95_whole_desks_write_and_rea_holds : PySem.Challenge.rw_lettertoll_k95_whole_desks_write_and_rea.Holds := by
 w_on;o_law;k_head;(case hw=>w_witness2)
 k_fill
 refine K95.walk (l:=PySem.Challenge.rw_lettertoll_k95_whole_desks_write_and_rea) rfl rfl (fun w h Y=>PySem.W.km_in_of Y) ?F
 case F =>
  intro w mg fa h KX G hmg
  refine' K95.all_mk KX G hmg ?_ ?_ ?_ ?_ (.mk ?_ ?_ ?_ ?_) (.mk ?_ ?_ ?_ ?_) (.mk ?_ ?_ ?_ ?_) (.mk ?_ ?_ ?_ ?_) (.mk ?_ ?_ ?_ ?_) (.mk ?_ ?_ ?_ ?_) (.mk ?_ ?_ ?_ ?_) (.mk ?_ ?_ ?_ ?_) (.mk ?_ ?_ ?_ ?_) (.mk ?_ ?_ ?_ ?_) (.mk ?_ ?_ ?_ ?_) (.mk ?_ ?_ ?_ ?_) (.mk ?_ ?_ ?_ ?_) (.mk ?_ ?_ ?_ ?_) (.mk ?_ ?_ ?_ ?_) (.mk ?_ ?_ ?_ ?_) (.mk ?_ ?_ ?_ ?_) (.mk ?_ ?_ ?_ ?_) (.mk ?_ ?_ ?_ ?_) (.mk ?_ ?_ ?_ ?_) (.mk ?_ ?_ ?_ ?_) (.mk ?_ ?_ ?_ ?_) (.mk ?_ ?_ ?_ ?_) (.mk ?_ ?_ ?_ ?_) (.mk ?_ ?_ ?_ ?_) (.mk ?_ ?_ ?_ ?_) (.mk ?_ ?_ ?_ ?_) (.mk ?_ ?_ ?_ ?_) (.mk ?_ ?_ ?_ ?_) (.mk ?_ ?_ ?_ ?_) (.mk ?_ ?_ ?_ ?_) (.mk ?_ ?_ ?_ ?_) (.mk ?_ ?_ ?_ ?_) (.mk ?_ ?_ ?_ ?_) (.mk ?_ ?_ ?_ ?_) (.mk ?_ ?_ ?_ ?_) (.mk ?_ ?_ ?_ ?_) (.mk ?_ ?_ ?_ ?_) (.mk ?_ ?_ ?_ ?_) (.mk ?_ ?_ ?_ ?_) (.mk ?_ ?_ ?_ ?_) (.mk ?_ ?_ ?_ ?_) (.mk ?_ ?_ ?_ ?_) (.mk ?_ ?_ ?_ ?_) (.mk ?_ ?_ ?_ ?_) (.mk ?_ ?_ ?_ ?_ ?_) (.mk ?_ ?_ ?_ ?_ ?_) (.mk ?_ ?_ ?_ ?_ ?_) (.mk ?_ ?_ ?_ ?_ ?_) (.mk ?_ ?_ ?_ ?_ ?_) (.mk ?_ ?_ ?_ ?_ ?_) (.mk ?_ ?_ ?_ ?_ ?_) (.mk ?_ ?_ ?_ ?_ ?_) (.mk ?_ ?_ ?_ ?_ ?_) (.mk ?_ ?_ ?_ ?_ ?_) (.mk ?_ ?_ ?_ ?_ ?_) (.mk ?_ ?_ ?_ ?_ ?_) (.mk ?_ ?_ ?_ ?_ ?_) (.mk ?_ ?_ ?_ ?_ ?_) (.mk ?_ ?_ ?_ ?_ ?_) (.mk ?_ ?_ ?_ ?_ ?_) (.mk ?_ ?_ ?_ ?_ ?_) (.mk ?_ ?_ ?_ ?_ ?_) (.mk ?_ ?_ ?_ ?_ ?_) (.mk ?_ ?_ ?_ ?_ ?_) (.mk ?_ ?_ ?_ ?_ ?_) (.mk ?_ ?_ ?_ ?_ ?_) (.mk ?_ ?_ ?_ ?_ ?_) (.mk ?_ ?_ ?_ ?_ ?_) ?_ ?_ ?_ ?_ ?_ ?_ ?_ ?_ ?_ ?_ ?_ ?_ ?_ ?_ ?_ ?_ ?_ ?_ ?_ ?_ ?_ ?_ ?_ ?_ ?_ ?_ ?_ ?_ ?_ ?_ ?_ ?_ ?_ ?_ ?_ ?_ ?_ ?_ ?_ ?_ ?_ ?_ ?_ ?_ ?_ ?_ ?_ ?_ ?_ ?_ ?_ ?_ ?_ ?_ ?_ ?_ ?_ ?_ ?_ ?_ ?_ ?_ ?_ ?_ ?_ ?_ ?_ ?_ ?_ ?_
  any_goals first | k_is | kernel_rfl
