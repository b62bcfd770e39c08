import PyProof.Rows.All
import Wide.All
import OpenK.AllK
import Wide.FinOn
import Lean
import PyProof.EqAt
import PyProof.EqKinds
import PyProof.TupleCall
import PyProof.NeKinds
import PyProof.ConsumeWalk
import PyProof.SumAny
import PyProof.Rows.SumGenD
import PyProof.ZipIter
import PyProof.DictWalks
import KE.KSortTup
import KE.KDictList
import KE.IntBitsLaws
import PyProof.Rows.SortLt
import PyProof.Rows.SortRuns
import PyProof.WalkInts
import PyProof.MinMaxWalk
import PyProof.TupleOfSeq
import PyProof.Rows.SortShell
import PyProof.WalksS
import PyProof.SeqWrite
import PyProof.Rows.Range3
import PyProof.ListRange
import KE.KLam
import KE.KNestM
import PyProof.Rows.SetFrom
import KE.KSortKey
import PyProof.TupleKey
import PyProof.DictKinds
import PyProof.DictItems
import KE.KItemsList
import PyProof.AttrMissHeap
import PyProof.ListNew
import PySem.Challenge.RW_lettertoll_k77_whole_all_orders
set_option Elab.async false
set_option linter.all false
set_option maxRecDepth 100000
set_option maxHeartbeats 16000000
theorem BC9 {P:Prop} (h:¬P->False):P:=Classical.byContradiction h
local macro_rules
 | `(tactic| obtain $p:rcasesPatMed := $e) => do
  if ((toString p.raw).splitOn "\",\"").length < 4 then Lean.Macro.throwUnsupported
  `(tactic| first | (refine BC9 fun hG => ?_; rcases $e:term with $p:rcasesPatMed <;> refine hG ?_ <;> clear hG) | rcases $e:term with $p:rcasesPatMed)
local macro_rules
 | `(tactic| rintro $ps:rintroPat* $q:rcasesPat) => do
  if ((toString q.raw).splitOn "\",\"").length < 4 then Lean.Macro.throwUnsupported
  if ps.isEmpty then `(tactic| (intro hh; refine BC9 fun hG => ?_; rcases hh with $q:rcasesPat <;> refine hG ?_ <;> clear hG))
  else `(tactic| (rintro $ps:rintroPat*; intro hh; refine BC9 fun hG => ?_; rcases hh with $q:rcasesPat <;> refine hG ?_ <;> clear hG))
local macro_rules
 | `(command| def $i:declId $t:optDeclSig $v:declVal) => `(command| noncomputable def $i:declId $t:optDeclSig $v:declVal)
noncomputable section
def b5w:=@PySem.wpAny_bind
def b5x:=@List.length_map
def b5y:=@PySem.Heap.get?_push_of_some
def b5z:=@List.getElem?_eq_getElem
def b5A:=@PySem.wpAny_pure
def b5B:=@List.getD_eq_getElem?_getD
def b5C:=@List.mem_singleton
def b5D:=@PySem.Heap.get?_push_size
def b5E:=@List.getElem?_eq_some_iff
def b5F:=@PySem.Heap.lt_size
def b5G:=@Nat.le_refl
def b5H:=@List.map_append
def b5I:=@List.size_toArray
def b5J:=@List.length_append
def b5K:=@List.mem_map
def b5L:=@List.getElem?_map
def b5M:=@List.mem_of_getElem?
def b5N:=@List.mem_append_right
def b5O:=@Nat.ne_of_lt
def b5P:=@PySem.Heap.get?_update_ne
def b5Q:=@List.mem_cons
def b5R:=@List.length_take
def b5S:=@Nat.lt_of_lt_of_le
def b5T:=@List.length_cons
def b5U:=@Option.some.inj
def b5V:=@List.length_range
def b5W:=@List.mem_append
def b5X:=@of_decide_eq_true
def b5Y:=@Bool.false_ne_true
def b5Z:=@PySem.Around.under_plainId
def b6a:=@Array.length_toList
def b6b:=@decide_eq_true
def b6c:=@List.map_congr_left
def b6d:=@PySem.wpAny_holding
def b6e:=@Nat.zero_le
def b6f:=@List.take_add_one
def b6g:=@List.length_eq_zero_iff
def b6h:=@PySem.Heap.size_push
def b6i:=@PySem.wpAny_call_entry
def b6j:=@Bool.false_eq_true
def b6k:=@List.pairwise_map
def b6l:=@PySem.sizeLine_eq
def b6m:=@List.map_cons
def b6n:=@List.getElem_map
def b6o:=@Nat.ne_of_gt
def b6p:=@PySem.wpAny_newObj_type
def b6q:=@PySem.codeAny_builtin
def b6r:=@List.map_map
def b6s:=@PySem.wpAny_callSpecial?_slot
def b6t:=@List.sum_cons
def b6u:=@List.mem_append_left
def b6v:=@PySem.wpAny_field
def b6w:=@List.getElem?_append_right
def b6x:=@Array.perm_iff_toList_perm
def b6y:=@PySem.wpAny_Call_Name_kw
def b6z:=@List.take_length
def b6A:=@Nat.lt_irrefl
def b6B:=@List.append_nil
def b6C:=@PySem.wpAny_setField_rec
def b6D:=@PySem.plainId_quiet
def b6E:=@List.pairwise_cons
def b6F:=@List.mem_range
def b6G:=@PySem.wpAny_seqItems
def b6H:=@Option.map_eq_some_iff
def b6I:=@PySem.F.plainAttrs_list
def b6J:=@List.mem_iff_getElem?
def b6K:=@decide_eq_true_eq
def b6L:=@List.not_mem_nil
def b6M:=@PySem.F.plain_min_loop
def b6N:=@decide_eq_false
def b6O:=@Nat.not_lt_zero
def b6P:=@List.length_pos_iff
def b6Q:=@PySem.PassesOwn.never
def b6R:=@Nat.le_trans
def b6S:=@List.pairwise_singleton
def b6T:=@List.getElem?_append_left
def b6U:=@List.getElem?_range
def b6V:=@List.mem_of_mem_take
def b6W:=@Bool.and_eq_true
def b6X:=@List.perm_middle
def b6Y:=@PyProof.Rows.callWith_type1
def b6Z:=@Int.toNat_natCast
def b7a:=@PyProof.Rows.slot_tuple_getitem
def b7b:=@List.range_succ
def b7c:=@PyProof.Rows.wpS_bind
def b7d:=@PySem.Heap.get?_update_self
def b7e:=@PySem.mem_of_lookup
def b7f:=@PyProof.Rows.get?_update_seq
def b7g:=@List.pairwise_iff_getElem
def b7h:=@List.mem_cons_of_mem
def b7i:=@List.mem_iff_getElem
def b7j:=@List.take_of_length_le
def b7k:=@PySem.F.slot_list_append
def b7l:=@PySem.F.type_list_append
def b7m:=@congrArg
def b7n:=@Nat.le_of_lt
def b7o:=@List.length_nil
def b7p:=@List.replicate_succ
def b7q:=@List.getElem?_eq_none
def b7r:=@PySem.wpAny_updateSeq
def b7s:=@PySem.F.plain_extend_loop
def b7t:=@List.getElem_mem
def b7u:=@List.ext_getElem
def b7v:=@PySem.wpAny_pyIter_list
def b7w:=@List.append_assoc
def b7x:=@List.pairwise_append
def b7y:=@PySem.codeAny_mono
def b7z:=@Array.forIn_toList
def b7A:=@PySem.W.mg_none_of
def b7B:=@Array.getElem?_eq_getElem
def b7C:=@List.lookup_cons
def b7D:=@PySem.F.slot_dict_itemiterator_next
def b7E:=@PySem.wpAny_truthy_bool
def b7F:=@Array.getElem?_toList
def b7G:=@PySem.F.slot_dict_keyiterator_next
def b7H:=@PySem.wpAny_tryCatch
def b7I:=@List.nodup_cons
def b7J:=@PySem.wpAny_newList
def b7K:=@PySem.wpAny_rule
def b7L:=@if_false
def b7M:=@PyProof.Rows.wpS_pure
def b7N:=@PySem.wpAny_attempt
def b7O:=@List.cons.inj
def b7P:=@List.length_replicate
def b7Q:=@PySem.wpAny_typeNameOfWhole_itemiter
def b7R:=@List.sum_append
def b7S:=@List.append_of_mem
def b7T:=@Nat.lt_succ_self
def b7U:=@PySem.wpAny_letGo
def b7V:=@PySem.wpAny_isInstance
def b7W:=@PySem.wpAny_typeNameOfWhole_keyiter
def b7X:=@List.getElem?_of_mem
def b7Y:=@PySem.wpAny_mono
def b7Z:=@beq_eq_false_iff_ne
def b8a:=@List.forIn_cons
def b8b:=@PySem.F.slot_zip_next
def b8c:=@PySem.Heap.get?_update_other
def b8d:=@List.zipWith_nil_right
def b8e:=@PySem.F.slot_tuple_iterator_next
def b8f:=@List.getElem_inj
def b8g:=@List.mem_flatMap
def b8h:=@List.zip_cons_cons
def b8i:=@Nat.lt_of_le_of_lt
def b8j:=@PySem.Calls.call_function_entry
def b8k:=@PySem.wpAny_typeNameOf_itemiter
def b8l:=@Int.le_refl
def b8m:=@PySem.wpAny_passesOwn
def b8n:=@List.flatten_cons
def b8o:=@PySem.wpAny_specialOf
def b8p:=@PySem.wpAny_dictEntries
def b8q:=@PyProof.Rows.callWith_builtin1
def b8r:=@Int.le_trans
def b8s:=@Int.mul_le_mul_of_nonneg_right
def b8t:=@List.getElem?_replicate
def b8u:=@PySem.Heap.SameBut.update
def b8v:=@PyProof.Rows.listUpdate_at
def b8w:=@PySem.F.plain_list_iadd
def b8x:=@PySem.F.slot_tuple_hash
def b8y:=@List.map_eq_nil_iff
def b8z:=@PySem.wpAny_forIn_list
def b8A:=@List.length_drop
def b8B:=@List.all_eq_true
def b8C:=@List.nodup_range
def b8D:=@PySem.F.entry_min_loop
def b8E:=@List.length_tail
def b8F:=@PySem.wpAny_newTuple
def b8G:=@List.getElem?_set_self
def b8H:=@List.drop_eq_nil_of_le
def b8I:=@List.mem_cons_self
def b8J:=@PySem.Calls.spliced_cons
def b8K:=@or_false
def b8L:=@Bool.eq_iff_iff
def b8M:=@PySem.wpAny_loadPart'
def b8N:=@PySem.wpAny_dictEpoch
def b8O:=@PySem.wpAny_isOneOf_keyiter
def b8P:=@PyProof.Rows.entry_list_sort
def b8Q:=@PySem.builtinLookup_eq_fast
def b8R:=@PySem.F.slot_tuple_eq
def b8S:=@Int.zero_add
def b8T:=@Int.le_of_eq
def b8U:=@List.Perm.append_left
def b8V:=@List.perm_append_comm
def b8W:=@PySem.Calls.spliced_nil
def b8X:=@List.ext_getElem?
def b8Y:=@List.getElem?_set_ne
def b8Z:=@List.getElem?_zip_eq_some
def b9a:=@List.forIn_nil
def b9b:=@PyProof.Rows.slot_list_sort
def b9c:=@PySem.Heap.size_update
def b9d:=@PySem.F.entry_extend_loop
def b9e:=@List.mem_map_of_mem
def b9f:=@Nat.add_le_add_left
def b9g:=@List.length_zipWith
def b9h:=@List.take_succ_cons
def b9i:=@List.flatMap_append
def b9j:=@PySem.F.args_tuple_add_2
def b9k:=@PySem.wpAny_typeOf
def b9l:=@PyProof.Rows.wpS_forRange
def b9m:=@PySem.F.slot_list_getattribute
def b9n:=@List.mem_filter
def b9o:=@List.mem_filterMap
def b9p:=@PySem.W.callWith_K
def b9q:=@List.of_mem_zip
def b9r:=@PySem.F.entry_tuple_add
def b9s:=@PySem.Obj.data_mapFields
def b9t:=@Bool.not_true
def b9u:=@List.getElem_range
def b9v:=@PySem.wpAny_pyNext_list_item
def b9w:=@PySem.F.slot_tuple_add
def b9x:=@PySem.Calls.callWith_builtin
def b9y:=@PySem.wpAny_isOneOf_itemiter
def b9z:=@Nat.le_succ
def b9A:=@PySem.F.args_zip_next_1
def b9B:=@PySem.F.plain_list_iadd
def b9C:=@Option.isSome_map
def b9D:=@PySem.F.args_dict_itemiterator_next_1
def b9E:=@List.flatMap_cons
def b9F:=@Prod.ext
def b9G:=@PySem.wpAny_setField
def b9H:=@PySem.isSubtype_stop
def b9I:=@List.take_zero
def b9J:=@PySem.F.args_dict_keyiterator_next_1
def b9K:=@PySem.wpAny_notOrdered_dict
def b9L:=@Nat.zero_add
def b9M:=@PyProof.Rows.plain_sorted
def b9N:=@PyProof.Rows.entry_sorted
def b9O:=@PySem.isSubtype_tuple_tuple
def b9P:=@Nat.sub_self
def b9Q:=@PySem.F.entry_dict_itemiterator_next
def b9R:=@List.zipWith_nil_left
def b9S:=@PySem.wpAny_eqBool_int
def b9T:=@PySem.F.entry_zip_next
def b9U:=@PySem.F.entry_dict_keyiterator_next
def b9V:=@PyProof.Rows.reverseSlice'_eq
def b9W:=@decide_eq_decide
def b9X:=@List.getElem_zip
def b9Y:=@Int.mul_le_mul_of_nonneg_left
def b9Z:=@PySem.wpAny_updateSeq_pair
def c0a:=@List.mem_of_mem_drop
def c0b:=@PySem.Paired.length
def c0c:=@PySem.F.args_tuple_iterator_next_1
def c0d:=@List.prefix_append_right_inj
def c0e:=@PySem.CmpOf.ints_lt
def c0f:=@List.map_take
def c0g:=@List.dropLast_concat_getLast
def c0h:=@PySem.W.mg_of
def c0i:=@PySem.wpAny_load
def c0j:=@PySem.wpAny_call
def c0k:=@PySem.Walks.list
def c0l:=@List.filterMap_cons
def c0m:=@PySem.wpAny_execs_nil
def c0n:=@PySem.W.plainGet_of
def c0o:=@PyProof.Rows.seqEpoch_at
def c0p:=@PyProof.Rows.kind_sorted
def c0q:=@PySem.F.plain_proto_collect
def c0r:=@PySem.typeLookup_type
def c0s:=@Int.mul_add
def c0t:=@Bool.or_eq_true
def c0u:=@PySem.wpAny_pyIter_tuple
def c0v:=@Nat.lt_trans
def c0w:=@PyProof.Rows.listItems_at
def c0x:=@PySem.wpAny_tupleItemsOf
def c0y:=@Int.add_zero
def c0z:=@List.filter_append
def c0A:=@PySem.wpAny_fieldsOf
def c0B:=@PySem.wpAny_runValue
def c0C:=@PyProof.Rows.args_list_sort
def c0D:=@List.drop_eq_getElem_cons
def c0E:=@PySem.Value.isInt_shape
def c0F:=@beq_iff_eq
def c0G:=@List.take_sublist
def c0H:=@PySem.call_meets
def c0I:=@PySem.Heap.get?_push_ne
def c0J:=@PyProof.Rows.wpS_modify
def c0K:=@List.getElem?_inj
def c0L:=@bne_self_eq_false
def c0M:=@Nat.lt_succ_of_lt
def c0N:=@List.nodup_append
def c0O:=@List.reverse_perm
def c0P:=@List.Pairwise.imp
def c0Q:=@PySem.wpAny_standAt
def c0R:=@PySem.wpAny_of_eq
def c0S:=@PySem.wpAny_onRaise
def c0T:=@PyProof.Rows.callWith_kw
def c0U:=@Nat.add_assoc
def c0V:=@Int.add_mul
def c0W:=@PySem.noFill_tuple_add
def c0X:=@beq_self_eq_true
def c0Y:=@PySem.wpAny_pyIter_zip
def c0Z:=@Array.toList_inj
def c1a:=@List.map_snd_zip
def c1b:=@List.length_set
def c1c:=@List.map_nil
def c1d:=@Array.Perm.refl
def c1e:=@Int.mul_comm
def c1f:=@List.length_zip
def c1g:=@Int.add_le_add
namespace L2
open PySem PySem.Spec PyProof.Rows
abbrev Key:=Sum Int Str
def keyIs:Key->Value->Bool
 | .inl k,v=>Value.isInt k v
 | .inr x,v=>Value.isStrOf x v
def keyH (w:World):Key->Int
 | .inl k=>hashInt k
 | .inr x=>hashStr w x
theorem a0M:∀{k:Key} {v:Value},keyIs k v=true->(∃i t,k=Sum.inl i/\v=Value.int i t)\/(∃x t,k=Sum.inr x/\v=Value.str x t)
 | .inl i,v,h=>by
  obtain⟨t,e⟩:=c0E (k:=i) (v:=v) h;exact .inl ⟨i,t,rfl,e⟩
 | .inr x,v,h=>by
  obtain⟨t,e⟩:=Value.isStrOf_shape (x:=x) (v:=v) h;exact .inr ⟨x,t,rfl,e⟩
theorem key_ll (a b:Int):decide ((Sum.inl a:Key)=Sum.inl b)=(a==b):=by
 by_cases e:a=b
 ·subst e;simp
 ·have h:¬(Sum.inl a:Key)=Sum.inl b:=λq=>e (Sum.inl.inj q);rw[b6N h];exact(b7Z.mpr e).symm
theorem key_rr (a b:Str):decide ((Sum.inr a:Key)=Sum.inr b)=decide (a=b):=by
 by_cases e:a=b
 ·subst e;simp
 ·have h:¬(Sum.inr a:Key)=Sum.inr b:=λq=>e (Sum.inr.inj q);rw[b6N h,b6N e]
theorem key_lr (a:Int) (b:Str):decide ((Sum.inl a:Key)=Sum.inr b)=false:=b6N (λq=>nomatch q)
theorem key_rl (a:Str) (b:Int):decide ((Sum.inr a:Key)=Sum.inl b)=false:=b6N (λq=>nomatch q)
def a3Y (prog:Program) (w:World):PySem.KeyKind prog w Key where
 is:=keyIs
 hash:=keyH w
 inj:=λv a b ha hb=>by
  rcases a0M ha with ⟨i,t,rfl,rfl⟩|⟨x,t,rfl,rfl⟩
  ·rcases a0M hb with ⟨j,u,rfl,e⟩|⟨y,u,rfl,e⟩
   ·injection e with e1 _;rw[e1]
   ·exact nomatch e
  ·rcases a0M hb with ⟨j,u,rfl,e⟩|⟨y,u,rfl,e⟩
   ·exact nomatch e
   ·injection e with e1 _;rw[e1]
 byValue:=λk v h=>by
  rcases a0M h with ⟨i,t,rfl,rfl⟩|⟨x,t,rfl,rfl⟩<;>rfl
 pyHash:=λhv h=>by
  rcases a0M hv with ⟨i,t,rfl,rfl⟩|⟨x,t,rfl,rfl⟩
  ·exact wpAny_pyHash_int h
  ·exact wpAny_pyHash_str h
 eqBool:=λhu hv h=>by
  rcases a0M hu with ⟨i,t,rfl,rfl⟩|⟨x,t,rfl,rfl⟩
  ·rcases a0M hv with ⟨j,u,rfl,rfl⟩|⟨y,u,rfl,rfl⟩
   ·rw[key_ll] at h;exact b9S h
   ·rw[key_lr] at h;exact SeqAt.EqAt.int_str i t y u _ _ _ _ h
  ·rcases a0M hv with ⟨j,u,rfl,rfl⟩|⟨y,u,rfl,rfl⟩
   ·rw[key_rl] at h;exact SeqAt.EqAt.str_int x t j u _ _ _ _ h
   ·rw[key_rr] at h;exact wpAny_eqBool_str h
 «strs»:=λk x t v h=>by
  rcases a0M h with ⟨i,u,rfl,e⟩|⟨y,u,rfl,e⟩
  ·exact nomatch e
  ·injection e with e1 _;subst e1;cases v<;>rfl
inductive V where
 | non|bl (b:Bool)|int (i:Int)|str (x:Str)|byt (b:Array UInt8)|flt (b:UInt64)|ref (a:Addr)|ty (n:String)
 deriving DecidableEq
def a0Q:V->Value->Prop
 | .non,u=>u=Value.none
 | .bl b,u=>u=Value.bool b
 | .int i,u=>∃t,u=Value.int i t
 | .str x,u=>∃t,u=Value.str x t
 | .byt b,u=>∃t,u=Value.bytes b t
 | .flt b,u=>∃t,u=Value.float b t
 | .ref a,u=>u=Value.ref a
 | .ty n,u=>u=Value.type n
abbrev a0w:List V->List Value->Prop:=Paired a0Q
theorem a0w.length {xs:List V} {us:List Value} (r:a0w xs us):xs.length=us.length:=c0b r
theorem a0w.get:∀{xs:List V} {us:List Value} {i:Nat} {x:V},a0w xs us->xs[i]?=some x->∃u,us[i]?=some u/\a0Q x u
 | _,_,_,_,.nil,e=>by simp at e
 | _,_,0,_,.cons r _,e=>by simp at e;subst e;exact⟨_,rfl,r⟩
 | _,_,i+1,x,.cons _ t,e=>by
  obtain⟨u,h1,h2⟩:=a0w.get (i:=i) (x:=x) t (by simpa using e);exact⟨u,by simpa using h1,h2⟩
theorem a0w.set {x:V} {u:Value} (r:a0Q x u):∀{xs:List V} {us:List Value} (i:Nat),a0w xs us->a0w (xs.set i x) (us.set i u)
 | _,_,_,.nil=>.nil
 | _,_,0,.cons _ t=>.cons r t
 | _,_,i+1,.cons q t=>.cons q (a0w.set r i t)
theorem a0w.append:∀{xs ys:List V} {us ws:List Value},a0w xs us->a0w ys ws->a0w (xs++ys) (us++ws)
 | _,_,_,_,.nil,s=>s
 | _,_,_,_,.cons r t,s=>.cons r (a0w.append t s)
theorem a0w.take:∀{xs:List V} {us:List Value} (n:Nat),a0w xs us->a0w (xs.take n) (us.take n)
 | _,_,0,_=>.nil
 | _,_,_+1,.nil=>.nil
 | _,_,n+1,.cons r t=>.cons r (a0w.take n t)
theorem a0w.drop:∀{xs:List V} {us:List Value} (n:Nat),a0w xs us->a0w (xs.drop n) (us.drop n)
 | _,_,0,r=>r
 | _,_,_+1,.nil=>.nil
 | _,_,n+1,.cons _ t=>a0w.drop n t
def a6I:Option V->Option Value->Prop
 | some v,some u=>a0Q v u
 | none,none=>True
 | _,_=>False
def KV {κ:Type}:List (κ × V)->List (κ × Value)->Prop:=Paired λ(p:κ × V) (q:κ × Value)=>p.1=q.1/\a0Q p.2 q.2
def kV:Key->V
 | .inl i=>.int i
 | .inr x=>.str x
inductive HO where
 | lst (xs:List V)
 | tup (xs:List V)
 | dK (kvs:List (Key × V))|dT (kvs:List (List Key × V))
 | set (S:Int->Bool) (n:Nat)
 | ins (C dx:Addr) (fs:List (Str × V))
 | own (x:Addr)
 | xd (fs:List (Str × V))
 | met (f x:Addr)
 | rng (lo hi:Int)
 | frz (o:Obj) (u:HO)
 | tbl (ps:Array Value)
 | ext (φ:Heap->Prop)
abbrev Hp:=Addr->Option HO
def upd (H:Hp) (a:Addr) (o:HO):Hp:=λb=>if b=a then some o else H b
theorem a0b {H:Hp} {a:Addr} {o:HO}:upd H a o a=some o:=by unfold upd;rw[if_pos rfl]
theorem a0h {H:Hp} {a b:Addr} {o:HO} (h:b≠a):upd H a o b=H b:=by unfold upd;rw[if_neg h]
theorem b3B {H:Hp} {a:Addr} {o u:HO}:upd (upd H a o) a u=upd H a u:=by
 funext b;unfold upd;split<;>rfl
theorem a0r {H:Hp} {a b:Addr} {o u:HO} (h:H a=some o) (h':H b=some u) (d:o≠u):a≠b:=by
 intro e;subst e;rw[h] at h';exact d (b5U h')
theorem a0A {H:Hp} {a b:Addr} {o:HO} (h:H a=some o) (h':H b=none):a≠b:=by
 intro e;subst e;rw[h] at h';cases h'
def a4R (h:Heap) (a:Addr) (items:Array Value):Prop:=∃o,h.get? a=some o/\∃n,o={ cls:=.type "tuple",data:=.seq items n }
theorem a4R.is {h:Heap} {a:Addr} {items:Array Value} (x:a4R h a items):IsTup h a items:=by
 obtain⟨o,e,n,rfl⟩:=x;exact⟨_,e,rfl,n,rfl⟩
instance {h:Heap} {a:Addr} {items:Array Value}:Coe (a4R h a items) (IsTup h a items):=⟨a4R.is⟩
instance {h:Heap} {a:Addr} {items:Array Value}:Coe (a4R h a items) (Heap.IsTuple h a items):=⟨λx=>x.is⟩
theorem a4R.lt {h:Heap} {a:Addr} {items:Array Value} (x:a4R h a items):a<h.objs.size:=x.is.lt
theorem a4R.new (h:Heap) (items:Array Value):a4R (h.push { cls:=.type "tuple",data:=.seq items }) h.objs.size items:=⟨_,b5D _ rfl,_,rfl⟩
section
variable (P:Program) (w:World)
def a0B (H:Hp) (h:Heap) (a:Addr):HO->Prop
 | .lst xs=>xs.length<=sizeLine/\∃(its:List Value) (n:Nat),a0w xs its/\h.get? a=some { cls:=.type "list",data:=.seq its.toArray n }
 | .tup xs=>xs.length<=sizeLine/\∃its:List Value,a0w xs its/\a4R h a its.toArray
 | .dK kvs=>kvs.length<=sizeLine/\(a==sysModules)=false/\∃vs,KV kvs vs/\h.DictOf (a3Y P w) a vs
 | .dT kvs=>kvs.length<=sizeLine/\(a==sysModules)=false/\∃xs:List (List Key × Addr × Value),
   Paired (λ(p:List Key × V) (q:List Key × Addr × Value)=>p.1=q.1/\H q.2.1=some (.tup (p.1.map kV))/\a0Q p.2 q.2.2) kvs xs /\
   ∃o es ep,h.get? a=some o/\o.ExactDict/\o.data=.dict es ep/\es.toList=xs.map (entryOfKey (tupleKind (a3Y P w)))/\(xs.map (·.1)).Nodup
 | .set S n=>h.SetOf (intKind P w) a S n
 | .ins C dx fs=>H dx=some (.own a)/\fs.length<=1000/\dx≠a/\h.get? a=some (PySem.W.instObj C dx) /\
   ∃mA,h.Ns1 dx mA/\(∀f,a6I (fs.lookup f) (mA f))/\PySem.Within mA (fs.map (·.1))
 | .own _=>∃o,h.get? a=some o
 | .xd fs=>∃mA,h.Ns1 a mA/\∀f,a6I (fs.lookup f) (mA f)
 | .rng lo hi=>∃t u v,h.get? a=some { cls:=.type "range",data:=.fields #[.int lo t,.int hi u,.int 1 v] }
 | .frz o u=>h.get? a=some o/\a0B H h a u
 | .tbl ps=>h.get? a=some { cls:=.none,data:=.fields ps }
 | .met f x=>h.get? a=some (PySem.W.methodObj (.ref f) (.ref x))
 | .ext φ=>φ h/\(∃o,h.get? a=some o)/\∀h1 h2:Heap,φ h1->(∀o,h1.get? a=some o->h2.get? a=some o)->φ h2
def HOk (H:Hp) (h:Heap):Prop:=∀a o,H a=some o->a0B P w H h a o
end
section
variable {P:Program} {w:World} {H H':Hp} {h h':Heap} {a:Addr} {o:HO}
theorem a0B.lt (x:a0B P w H h a o):a<h.objs.size:=by
 cases o with
 | lst xs=>obtain⟨_,_,_,_,e⟩:=x;exact b5F e
 | tup xs=>obtain⟨_,_,_,p⟩:=x;exact p.lt
 | dK kvs=>obtain⟨_,_,_,_,o,_,_,e,_⟩:=x;exact b5F e
 | dT kvs=>obtain⟨_,_,_,_,o,_,_,e,_⟩:=x;exact b5F e
 | set S n=>obtain⟨o,_,_,_,e,_⟩:=x;exact b5F e
 | ins C dx fs=>obtain⟨_,_,_,e,_⟩:=x;exact b5F e
 | own y=>obtain⟨_,e⟩:=x;exact b5F e
 | xd fs=>obtain⟨_,⟨_,_,_,e,_⟩,_⟩:=x;exact b5F e
 | rng lo hi=>obtain⟨_,_,_,e⟩:=x;exact b5F e
 | frz ob u=>obtain⟨e,_⟩:=x;exact b5F e
 | tbl ps=>exact b5F (show h.get? a=some _ from x)
 | met f y=>exact b5F (show h.get? a=some _ from x)
 | ext φ=>obtain⟨_,⟨_,e⟩,_⟩:=x;exact b5F e
theorem Paired.mapP {α β:Type} {F G:α->β->Prop}:∀{l₁:List α} {l₂:List β},Paired F l₁ l₂->(∀a b,F a b->G a b)->Paired G l₁ l₂
 | _,_,.nil,_=>.nil
 | _,_,.cons r t,f=>.cons (f _ _ r) (Paired.mapP t f)
theorem a0B.stay (x:a0B P w H h a o) (k:∀b u,(b=a\/H b=some (.own a))->h.get? b=some u->h'.get? b=some u)
  (ho:∀b,H b=some (.own a)->H' b=some (.own a)) (ht:∀b xs,H b=some (.tup xs)->H' b=some (.tup xs)):a0B P w H' h' a o:=by
 induction o with
 | lst xs=>obtain⟨z,its,n,r,e⟩:=x;exact⟨z,its,n,r,k _ _ (.inl rfl) e⟩
 | tup xs=>obtain⟨z,its,r,ob,e,c⟩:=x;exact⟨z,its,r,ob,k _ _ (.inl rfl) e,c⟩
 | dK kvs=>obtain⟨z,y,vs,r,ob,es,ep,e,c⟩:=x;exact⟨z,y,vs,r,ob,es,ep,k _ _ (.inl rfl) e,c⟩
 | dT kvs =>
  obtain⟨z,y,xs,r,ob,es,ep,e,c⟩:=x;exact⟨z,y,xs,Paired.mapP r λp q z=>⟨z.1,ht _ _ z.2.1,z.2.2⟩,ob,es,ep,k _ _ (.inl rfl) e,c⟩
 | set S n=>obtain⟨ob,es,ep,t,e,c⟩:=x;exact⟨ob,es,ep,t,k _ _ (.inl rfl) e,c⟩
 | ins C dx fs =>
  obtain⟨d,z,ne,e,mA,⟨od,es,ep,e2,c⟩,r⟩:=x;exact⟨ho _ d,z,ne,k _ _ (.inl rfl) e,mA,⟨od,es,ep,k _ _ (.inr d) e2,c⟩,r⟩
 | own y=>obtain⟨ob,e⟩:=x;exact⟨ob,k _ _ (.inl rfl) e⟩
 | xd fs=>obtain⟨mA,⟨od,es,ep,e,c⟩,r⟩:=x;exact⟨mA,⟨od,es,ep,k _ _ (.inl rfl) e,c⟩,r⟩
 | rng lo hi=>obtain⟨t,u,v,e⟩:=x;exact⟨t,u,v,k _ _ (.inl rfl) e⟩
 | frz ob u ih=>obtain⟨e,q⟩:=x;exact⟨k _ _ (.inl rfl) e,ih q⟩
 | tbl ps =>
  have e:h.get? a=some { cls:=.none,data:=.fields ps }:=x;show h'.get? a=some { cls:=.none,data:=.fields ps };exact k a _ (.inl rfl) e
 | met f y =>
  have e:h.get? a=some (PySem.W.methodObj (.ref f) (.ref y)):=x;show h'.get? a=some (PySem.W.methodObj (.ref f) (.ref y));exact k a _ (.inl rfl) e
 | ext φ=>obtain⟨p,⟨o,e⟩,st⟩:=x;exact⟨st _ _ p λo q=>k _ _ (.inl rfl) q,⟨o,k _ _ (.inl rfl) e⟩,st⟩
theorem HOk.lt (x:HOk P w H h) (e:H a=some o):a<h.objs.size:=(x a o e).lt
theorem HOk.fresh (x:HOk P w H h) (e:h.objs.size<=a):H a=none:=by
 cases q:H a with
 | none=>rfl
 | some u=>exact absurd (b5S (x.lt q) e) (b6A _)
theorem HOk.kept (x:HOk P w H h) (k:∀b u,h.get? b=some u->h'.get? b=some u):HOk P w H h':=λa o e =>
 (x a o e).stay (λb u _ q=>k b u q) (λ_ q=>q) λ_ _ q=>q
theorem HOk.laid (x:HOk P w H h) (k:∀b u,h.get? b=some u->h'.get? b=some u) (hp:h.objs.size<=a) (new:a0B P w (upd H a o) h' a o):HOk P w (upd H a o) h':=λb u e=>by
 have hn:=x.fresh hp;by_cases hb:b=a
 ·subst hb;rw[a0b] at e;cases e;exact new
 ·rw[a0h hb] at e;exact(x b u e).stay (λc v _ q=>k c v q) (λc q=>by rw[a0h (a0A q hn)];exact q) λc xs q=>by rw[a0h (a0A q hn)];exact q
end
def Rd (H:Hp) (a:Addr) (u:HO):Prop:=H a=some u\/∃o,H a=some (.frz o u)
theorem Rd.ok {P:Program} {w:World} {H:Hp} {h:Heap} {a:Addr} {u:HO} (r:Rd H a u) (x:HOk P w H h):a0B P w H h a u:=by
 rcases r with r|⟨o,r⟩
 ·exact x a u r
 ·obtain⟨_,q⟩:=x a _ r;exact q
def Mut:Option HO->Prop
 | some (.lst _)=>True
 | some (.dK _)=>True
 | some (.dT _)=>True
 | some (.set _ _)=>True
 | some (.ins _ _ _)=>True
 | some (.ext _)=>True
 | _=>False
section
variable {P:Program} {w:World} {H:Hp} {h h':Heap} {x e:Addr} {o':HO}
theorem HOk.write (ok:HOk P w H h) (mu:Mut (H x)) (he:e=x\/H e=some (.own x)) (k:∀b u,b≠e->h.get? b=some u->h'.get? b=some u) (heo:∃u,h'.get? e=some u)
  (new:a0B P w (upd H x o') h' x o'):HOk P w (upd H x o') h':=λb u q=>by
 have nown:∀c y,H c=some (.own y)->c≠x:=λc y r z=>by subst z;rw[r] at mu;exact mu
 have ntup:∀c xs,H c=some (.tup xs)->c≠x:=λc xs r z=>by subst z;rw[r] at mu;exact mu
 by_cases hb:b=x
 ·subst hb;rw[a0b] at q;cases q;exact new
 ·rw[a0h hb] at q;by_cases hbe:b=e
  ·have q':H b=some (.own x):=by
    rcases he with z|z
    ·exact absurd (hbe.trans z) hb
    ·rw[hbe];exact z
   rw[q] at q';cases q';obtain⟨v,hv⟩:=heo;exact⟨v,by rw[hbe];exact hv⟩
  ·refine(ok b u q).stay (λc v hc r=>k c v ?_ r) (λc r=>by rw[a0h (nown c b r)];exact r) λc xs r=>by rw[a0h (ntup c xs r)];exact r
   rcases hc with rfl|hc
   ·exact hbe
   ·rintro rfl;rcases he with z|z
    ·exact nown c b hc z
    ·rw[hc] at z;cases z;exact hb rfl
end
structure Un (fs ex:List Addr) (H H':Hp) (h h':Heap):Prop where
 keep:∀b o,h.get? b=some o->H b=none->b∉fs->b∉ex->h'.get? b=some o
 slot:∀b o,h.get? b=some o->H b=none->b∈fs->b∉ex->∃sl,h'.get? b=some { o with slots:=sl }
 free:∀b o,h.get? b=some o->H b=none->b∉ex->H' b=none
 there:∀b o,h.get? b=some o->b∉ex->∃o',h'.get? b=some o'
 tups:∀b xs,H b=some (.tup xs)->H' b=some (.tup xs)
 frzs:∀b o u,H b=some (.frz o u)->H' b=some (.frz o u)
 tbls:∀b ps,H b=some (.tbl ps)->∃more,H' b=some (.tbl (ps++more))
section
variable {fs fs' ex ex':List Addr} {H H1 H2:Hp} {h h1 h2 h':Heap} {a x e:Addr} {o:HO}
theorem Un.any (u:Un fs ex H H1 h h1) {b:Addr} {ob:Obj} (q:h.get? b=some ob) (n:H b=none) (hx:b∉ex):∃sl,h1.get? b=some { ob with slots:=sl }:=by
 by_cases hb:b∈fs
 ·exact u.slot b ob q n hb hx
 ·exact⟨ob.slots,u.keep b ob q n hb hx⟩
theorem Un.kept (k:∀b u,h.get? b=some u->h'.get? b=some u):Un fs ex H H h h' :=
 ⟨λb ob q _ _ _=>k b ob q,λb ob q _ _ _=>⟨ob.slots,k b ob q⟩,λ_ _ _ n _=>n,λb ob q _=>⟨ob,k b ob q⟩,λ_ _ q=>q,λ_ _ _ q=>q,λ_ ps q=>⟨#[],by rw[q];simp⟩⟩
theorem Un.refl:Un fs ex H H h h:=Un.kept λ_ _ q=>q
theorem Un.laid (k:∀b u,h.get? b=some u->h'.get? b=some u) (hp:h.objs.size<=a) (hn:H a=none):Un fs ex H (upd H a o) h h' where
 keep:=λb u q _ _ _=>k b u q
 slot:=λb u q _ _ _=>⟨u.slots,k b u q⟩
 free:=λb u q n _=>by rw[a0h (b5O (b5S (b5F q) hp))];exact n
 there:=λb u q _=>⟨u,k b u q⟩
 tups:=λb xs q=>by rw[a0h (a0A q hn)];exact q
 frzs:=λb u xs q=>by rw[a0h (a0A q hn)];exact q
 tbls:=λb ps q=>⟨#[],by rw[a0h (a0A q hn),q];simp⟩
theorem Un.write (mu:Mut (H x)) (he:e=x\/H e=some (.own x)) (k:∀b u,b≠e->h.get? b=some u->h'.get? b=some u) (heo:∃u,h'.get? e=some u):Un fs ex H (upd H x o) h h':=by
 have hx:∀b,H b=none->b≠x:=λb n z=>by subst z;rw[n] at mu;exact mu
 have hb:∀b,H b=none->b≠e:=λb n z=>by
  subst z;rcases he with r|r
  ·exact hx b n r
  ·rw[n] at r;cases r
 have hm:∀b u,H b=some u->¬Mut (some u)->b≠x:=λb u q nm z=>by subst z;rw[q] at mu;exact nm mu
 refine⟨λb u q n _ _=>k b u (hb b n) q,λb u q n _ _=>⟨u.slots,k b u (hb b n) q⟩,λb u q n _=>by rw[a0h (hx b n)];exact n,λb u q _=>?_,
  λb xs q=>by rw[a0h (hm b _ q λz=>z)];exact q,λb u xs q=>by rw[a0h (hm b _ q λz=>z)];exact q,λb ps q=>⟨#[],by rw[a0h (hm b _ q λz=>z),q];simp⟩⟩
 by_cases hbe:b=e
 ·subst hbe;exact heo
 ·exact⟨u,k b u hbe q⟩
end
def trk (h:Heap) (H:Hp):List Addr:=(List.range h.objs.size).filter λa=>(H a).isSome
def b1d (h:Heap) (H:Hp):Heap:=PySem.W.hideAll h (trk h H)
theorem a8H (h:Heap) (H:Hp):(b1d h H).objs.size=h.objs.size:=PySem.W.hideAll_size _ _
theorem b1i {h:Heap} {H:Hp} {b:Addr} {o:Obj} (e:h.get? b=some o) (n:H b=none):(b1d h H).get? b=some o :=
 PySem.W.hideAll_get _ e λhm=>by
  have q:(H b).isSome=true:=(b9n.mp hm).2;rw[n] at q;simp at q
theorem b3C {h:Heap} {H:Hp} {b:Addr} {o:Obj} (e:(b1d h H).get? b=some o):h.get? b=some o/\H b=none:=by
 have e':h.get? b=some o:=PySem.W.of_hideAll (trk h H) e;refine⟨e',?_⟩;cases q:H b with
 | none=>rfl
 | some x =>
  have hm:b∈trk h H:=b9n.mpr ⟨b6F.mpr (b5F e'),by simp[q]⟩;have z:(b1d h H).get? b=none:=PySem.W.hideAll_none (trk h H) hm;rw[z] at e;cases e
def b3D (g h:Heap) (L:Addr):List (Addr × Obj):=(List.range h.objs.size).filterMap λa=>if a=L\/(g.get? a).isSome=true then none else (h.get? a).map λo=>(a,o)
def rest (g h:Heap) (L d:Addr):List (Addr × Obj):=(b3D g h L).filter λp=>decide (p.1≠d)
structure Mod (K:PySem.W.Frag) (mg:Str->Option Value) (base:Heap):Prop where
 kin:K.In base
 glob:base.Ns mainGlobals mg
 blt:∃mb,base.Ns builtinsNs mb/\∀x:Str,x≠"__name__"->mb x=bootBuiltins x
 nolimit:base.NoLimit
structure Cx where
 prog:Program
 w:World
 K:PySem.W.Frag
 mg:Str->Option Value
 base:Heap
 A:Around
 N:List Str
 s₀:Shared
 H₀:Hp
 env:Env
 outer:List Env
 stack:List Env
 ex:List Addr
 fn:Str->Bool
 calm:Bool
 pn:List (Addr × Obj)
 xe:Value->Shared->Prop
def frs (l:List Env):List Addr:=l.filterMap (·.frame)
abbrev Cx.fs (X:Cx):List Addr:=frs X.outer
def Vis (sc:Scope) (x:Str):Prop:=sc.names.lookup x=some .local\/sc.names.lookup x=some .cell\/sc.names.lookup x=some .free
def Loc (sc:Scope) (x:Str):Prop:=sc.names.lookup x=some .local\/sc.names.lookup x=some .cell
def Look (env:Env) (h:Heap) (m:Str->Option Value) (x:Str) (u:Value):Prop :=
 (env.kindOf x=some .local/\m x=some u)\/((env.kindOf x=some .cell\/env.kindOf x=some .free)/\∃c,env.cells.lookup x=some c/\h.IsCell c (some u))
structure Cx.Ok (X:Cx):Prop where
 mod:Mod X.K X.mg X.base
 kind:X.env.scope.kind=.function
 glob:X.env.globals=mainGlobals
 blt:X.env.builtins=builtinsNs
 above:X.s₀.heap.objs.size<=X.env.locals
 inj:∀x y c,X.env.cells.lookup x=some c->X.env.cells.lookup y=some c->x=y
 has:∀x,(X.env.kindOf x=some .cell\/X.env.kindOf x=some .free)->∃c,X.env.cells.lookup x=some c
 cab:∀x c,X.fn x=true->X.env.cells.lookup x=some c->X.s₀.heap.objs.size<=c
 hd:X.calm=true->X.A.handled=none
 frames:X.A.frames=some X.stack
 stk:X.stack=X.outer\/(X.stack=X.env::X.outer/\X.env.frame=some X.env.locals)
 exf:∀b∈X.ex,b≠X.env.locals/\∀x c,X.env.cells.lookup x=some c->c≠b
 bs:∀b o,X.base.get? b=some o->X.s₀.heap.get? b=some o/\X.H₀ b=none
 bsz:X.base.objs.size<=X.s₀.heap.objs.size
 noex:∀b o,X.base.get? b=some o->b∉X.ex
 exfs:∀b∈X.ex,b∉X.fs
 funs:X.s₀.heap.FunFrames X.base X.outer
 frf:∀b∈X.fs,X.H₀ b=none
structure Inv (X:Cx) (pins:List (Addr × Obj)) (σ:List (Option V)) (H:Hp) (s:Shared):Prop where
 ok:X.Ok
 os:s.os=X.s₀.os
 bare:AllBare s.gens
 base:Un X.fs X.ex X.H₀ H X.s₀.heap s.heap
 loc:∃m,s.heap.Ns X.env.locals m/\∀(i:Nat) (x:Str) (v:V),X.N[i]?=some x->σ[i]?=some (some v)->Vis X.env.scope x->∃u,a0Q v u/\Look X.env s.heap m x u
 cell:∀x c,X.env.cells.lookup x=some c->∃v,s.heap.IsCell c v
 free:H X.env.locals=none
 freeC:∀x c,X.env.cells.lookup x=some c->H c=none
 pin:∀p∈X.pn++pins,s.heap.get? p.1=some p.2/\H p.1=none/\p.1≠X.env.locals/\p.1∉X.fs/\∀v,p.2.data≠.cell v
 hok:HOk X.prog X.w H s.heap
 len:σ.length=X.N.length
section
variable {X:Cx} {pins:List (Addr × Obj)} {σ:List (Option V)} {H H':Hp} {s:Shared} {h':Heap}
theorem Cx.Ok.nofr (ok:X.Ok) {b:Addr} {o:Obj} (e:X.base.get? b=some o):b∉X.fs:=λhb=>by
 have:=(ok.funs.mem hb).1;rw[e] at this;cases this
theorem Inv.bs (I:Inv X pins σ H s):∀b o,X.base.get? b=some o->s.heap.get? b=some o/\H b=none:=λb o e =>
 ⟨I.base.keep b o (I.ok.bs b o e).1 (I.ok.bs b o e).2 (I.ok.nofr e) (I.ok.noex b o e),I.base.free b o (I.ok.bs b o e).1 (I.ok.bs b o e).2 (I.ok.noex b o e)⟩
theorem Inv.bk (I:Inv X pins σ H s):∀b o,X.base.get? b=some o->s.heap.get? b=some o:=λb o e=>(I.bs b o e).1
theorem Inv.mod (I:Inv X pins σ H s):Mod X.K X.mg X.base:=I.ok.mod
theorem Inv.kIn (I:Inv X pins σ H s):X.K.In s.heap:=I.ok.mod.kin.keeps I.bk
theorem Inv.lt (I:Inv X pins σ H s):X.env.locals<s.heap.objs.size:=let ⟨_,hn,_⟩:=I.loc;hn.lt
theorem Inv.sz (I:Inv X pins σ H s):X.s₀.heap.objs.size<=s.heap.objs.size:=b6R I.ok.above (b7n I.lt)
theorem Inv.nofs (I:Inv X pins σ H s) {a:Addr} (h:s.heap.objs.size<=a):a∉X.fs:=λhb=>by
 obtain⟨_,o,ho,_⟩:=I.ok.funs.mem hb;exact absurd (b5S (b5F ho) (b6R I.sz h)) (b6A _)
theorem Inv.cne (I:Inv X pins σ H s):∀x c,X.env.cells.lookup x=some c->c≠X.env.locals:=λx c e z=>by
 obtain⟨v,o,ho,hd⟩:=I.cell x c e;obtain⟨m,⟨o',es,ep,ho',hd',_⟩,_⟩:=I.loc;rw[z,ho'] at ho;cases ho;rw[hd'] at hd;cases hd
theorem Inv.funs (I:Inv X pins σ H s):s.heap.FunFrames X.base X.outer:=by
 have all:∀(l:List Env),(∀b∈frs l,b∈X.fs)->X.s₀.heap.FunFrames X.base l->s.heap.FunFrames X.base l:=by
  intro l
  induction l with
  | nil=>intro _ _;trivial
  | cons env r ih =>
   intro hs hl;obtain⟨hk,⟨L,o,hf,hn,ho,hd⟩,hr⟩:=hl;have hL:L∈X.fs:=hs L (by unfold frs;rw[c0l,hf];exact b8I);obtain⟨sl,e⟩:=I.base.slot L o ho (I.ok.frf L hL) hL λz=>I.ok.exfs L z hL;exact⟨hk,⟨L,_,hf,hn,e,hd⟩,ih (λb hb=>hs b (by unfold frs;rw[c0l,hf];exact b7h _ hb)) hr⟩
 exact all X.outer (λ_ hb=>hb) I.ok.funs
theorem Inv.stack (I:Inv X pins σ H s):s.heap.FunFrames X.base X.stack:=by
 rcases I.ok.stk with e|⟨e,hf⟩
 ·rw[e];exact I.funs
 ·rw[e];obtain⟨m,hn,_⟩:=I.loc;refine .cons (by rw[I.ok.kind];decide) hf hn ?_ I.funs;exact Heap.get?_none_of_le (b6R I.ok.bsz I.ok.above)
theorem Inv.stkSub (I:Inv X pins σ H s):∀b∈frs X.stack,b∈X.env.locals::X.fs:=λb hb=>by
 rcases I.ok.stk with e|⟨e,hf⟩
 ·rw[e] at hb;exact b7h _ hb
 ·rw[e] at hb;unfold frs at hb;rw[c0l,hf] at hb;exact hb
theorem Inv.stkFree (I:Inv X pins σ H s):∀b∈frs X.stack,H b=none:=λb hb=>by
 rcases b5Q.mp (I.stkSub b hb) with e|hb
 ·rw[e];exact I.free
 ·obtain⟨_,o,ho,_⟩:=I.ok.funs.mem hb;exact I.base.free b o ho (I.ok.frf b hb) λz=>I.ok.exfs b z hb
theorem Inv.step {g':Array GenState} {t':Nat} {d':Drawn} {ch:List Addr} (I:Inv X pins σ H s)
  (hch:∀b∈ch,(b∈X.ex\/X.s₀.heap.objs.size<=b)/\b≠X.env.locals/\(∀x c,X.env.cells.lookup x=some c->c≠b)/\∀p∈X.pn++pins,p.1≠b)
  (keep:∀b o,b≠X.env.locals->b∉X.fs->b∉ch->s.heap.get? b=some o->H b=none->h'.get? b=some o)
  (slot:∀b o,b≠X.env.locals->b∈X.fs->b∉ch->s.heap.get? b=some o->H b=none->∃sl,h'.get? b=some { o with slots:=sl }) (free:∀b o,b∉ch->s.heap.get? b=some o->H b=none->H' b=none)
  (there:∀b o,b∉ch->s.heap.get? b=some o->∃o',h'.get? b=some o')
  (tups:∀b xs,H b=some (.tup xs)->H' b=some (.tup xs)) (frzs:∀b o u,H b=some (.frz o u)->H' b=some (.frz o u)) (tbls:∀b ps,H b=some (.tbl ps)->∃more,H' b=some (.tbl (ps++more)))
  (ns:∀m,s.heap.Ns X.env.locals m->h'.Ns X.env.locals m) (hok:HOk X.prog X.w H' h') (hg:AllBare g') :
  Inv X pins σ H' { s with heap:=h',gens:=g',drawn:=d',toks:=t' }:=by
 have neL:∀b o,X.s₀.heap.get? b=some o->b≠X.env.locals:=λb o e=>b5O (b5S (b5F e) I.ok.above);have neC:∀b o,X.s₀.heap.get? b=some o->b∉X.ex->b∉ch:=λb o e hx hb=>by
  rcases(hch b hb).1 with z|z
  ·exact hx z
  ·exact absurd (b5S (b5F e) z) (b6A _)
 have cellK:∀x c,X.env.cells.lookup x=some c->∀v,s.heap.IsCell c v->h'.IsCell c v:=λx c e v ⟨o,ho,hd⟩=>by
  have nch:c∉ch:=λz=>(hch c z).2.2.1 x c e rfl;by_cases hc:c∈X.fs
  ·obtain⟨sl,q⟩:=slot c o (I.cne x c e) hc nch ho (I.freeC x c e);exact⟨_,q,hd⟩
  ·exact⟨o,keep c o (I.cne x c e) hc nch ho (I.freeC x c e),hd⟩
 refine⟨I.ok,I.os,hg,⟨λb o e n hb hx=>?_,λb o e n hb hx=>?_,λb o e n hx=>?_,λb o e hx=>?_,λb xs e=>tups b xs (I.base.tups b xs e),λb o xs e=>frzs b o xs (I.base.frzs b o xs e),λb ps e=>?_⟩,?_,λx c e=>?_,?_,λx c e=>?_,λp hp=>?_,hok,I.len⟩
 ·exact keep b o (neL b o e) hb (neC b o e hx) (I.base.keep b o e n hb hx) (I.base.free b o e n hx)
 ·obtain⟨sl,e1⟩:=I.base.slot b o e n hb hx;obtain⟨sl',e2⟩:=slot b _ (neL b o e) hb (neC b o e hx) e1 (I.base.free b o e n hx);exact⟨sl',e2⟩
 ·obtain⟨o',e1⟩:=I.base.there b o e hx;exact free b o' (neC b o e hx) e1 (I.base.free b o e n hx)
 ·obtain⟨o',e1⟩:=I.base.there b o e hx;exact there b o' (neC b o e hx) e1
 ·obtain⟨m1,e1⟩:=I.base.tbls b ps e;obtain⟨m2,e2⟩:=tbls b _ e1;exact⟨m1++m2,by rw[e2,Array.append_assoc]⟩
 ·obtain⟨m,hn,hl⟩:=I.loc;refine⟨m,ns m hn,λi x v e1 e2 e3=>?_⟩;obtain⟨u,r,l⟩:=hl i x v e1 e2 e3;refine⟨u,r,?_⟩;rcases l with l|⟨k,c,e,z⟩
  ·exact .inl l
  ·exact .inr ⟨k,c,e,cellK x c e _ z⟩
 ·obtain⟨v,z⟩:=I.cell x c e;exact⟨v,cellK x c e v z⟩
 ·obtain⟨m,⟨o,_,_,ho,_⟩,_⟩:=I.loc;exact free _ o (λz=>(hch _ z).2.1 rfl) ho I.free
 ·obtain⟨v,o,ho,hd⟩:=I.cell x c e;exact free c o (λz=>(hch c z).2.2.1 x c e rfl) ho (I.freeC x c e)
 ·obtain⟨e,n,ne,nf,d⟩:=I.pin p hp;have nch:p.1∉ch:=λz=>(hch p.1 z).2.2.2 p hp rfl;exact⟨keep p.1 p.2 ne nf nch e n,free p.1 p.2 nch e n,ne,nf,d⟩
theorem Inv.un {t':Nat} (I:Inv X pins σ H s) (u:Un X.fs [] H H' s.heap h') (hok:HOk X.prog X.w H' h'):Inv X pins σ H' { s with heap:=h',toks:=t' }:=by
 obtain⟨m,⟨o,es,ep,ho,r⟩,_⟩:=id I.loc;obtain⟨sl,hL⟩:=u.any ho I.free (by simp);exact I.step (g':=s.gens) (d':=s.drawn) (ch:=[]) (λ_ z=>nomatch z) (λb o _ hb _ e n=>u.keep b o e n hb (by simp)) (λb o _ hb _ e n=>u.slot b o e n hb (by simp)) (λb o _ e n=>u.free b o e n (by simp)) (λb o _ e=>u.there b o e (by simp)) u.tups u.frzs u.tbls (λm' hm=>by
  obtain⟨o',es',ep',ho',r'⟩:=hm;rw[ho] at ho';cases ho';exact⟨_,es',ep',hL,r'⟩) hok I.bare
theorem Inv.call {g':Array GenState} {t':Nat} {d':Drawn} {ch:List Addr} (I:Inv X pins σ H s) (u:Un (frs X.stack) ch H H' s.heap h') (hok:HOk X.prog X.w H' h') (hg:AllBare g')
  (hch:∀b∈ch,(b∈X.ex\/X.s₀.heap.objs.size<=b)/\b≠X.env.locals/\(∀x c,X.env.cells.lookup x=some c->c≠b)/\∀p∈X.pn++pins,p.1≠b) :
  Inv X pins σ H' { s with heap:=h',gens:=g',drawn:=d',toks:=t' }:=by
 obtain⟨m,⟨o,es,ep,ho,r⟩,_⟩:=id I.loc;obtain⟨sl,hL⟩:=u.any ho I.free λz=>(hch _ z).2.1 rfl;exact I.step (ch:=ch) hch (λb o hL hb hc e n=>u.keep b o e n (λz=>(b5Q.mp (I.stkSub b z)).elim hL hb) hc) (λb o _ _ hc e n=>u.any e n hc) (λb o hc e n=>u.free b o e n hc) (λb o hc e=>u.there b o e hc) u.tups u.frzs u.tbls (λm' hm=>by
  obtain⟨o',es',ep',ho',r'⟩:=hm;rw[ho] at ho';cases ho';exact⟨_,es',ep',hL,r'⟩) hok hg
theorem Inv.turned {t':Nat} {it:Addr} (I:Inv X pins σ H s) (k:∀b o,b≠it->s.heap.get? b=some o->h'.get? b=some o) (hn:H it=none) (hL:it≠X.env.locals)
  (h1:it∈X.ex\/X.s₀.heap.objs.size<=it) (h2:∀x c,X.env.cells.lookup x=some c->c≠it) (h3:∀p∈X.pn++pins,p.1≠it):Inv X pins σ H { s with heap:=h',toks:=t' }:=by
 have nit:∀b u,H b=some u->b≠it:=λb u e z=>by rw[z,hn] at e;cases e
 refine I.step (g':=s.gens) (d':=s.drawn) (ch:=[it]) (λb hb=>?_) (λb o _ _ hc e _=>k b o (λz=>hc (by simp[z])) e) (λb o _ _ hc e _=>⟨o.slots,k b o (λz=>hc (by simp[z])) e⟩) (λ_ _ _ _ n=>n)
  (λb o hc e=>⟨o,k b o (λz=>hc (by simp[z])) e⟩) (λ_ _ e=>e) (λ_ _ _ e=>e) (λb ps e=>⟨#[],by rw[e];simp⟩) (λm hm=>?_) (λb u e=>?_) I.bare
 ·have e:b=it:=by simpa using hb
  subst e;exact⟨h1,hL,h2,h3⟩
 ·obtain⟨o,es,ep,ho,r⟩:=hm;exact⟨o,es,ep,k _ o (Ne.symm hL) ho,r⟩
 ·refine(I.hok b u e).stay (λc v hc q=>k c v ?_ q) (λ_ q=>q) λ_ _ q=>q;rcases hc with z|z
  ·rw[z];exact nit b u e
  ·exact nit c _ z
theorem Inv.tok (I:Inv X pins σ H s) (t:Nat):Inv X pins σ H { s with toks:=t }:=I.un (h':=s.heap) (t':=t) Un.refl I.hok
theorem Inv.kept {t':Nat} (I:Inv X pins σ H s) (k:∀b u,s.heap.get? b=some u->h'.get? b=some u):Inv X pins σ H { s with heap:=h',toks:=t' }:=I.un (Un.kept k) (I.hok.kept k)
theorem Inv.laid {a:Addr} {o:HO} {t':Nat} (I:Inv X pins σ H s) (k:∀b u,s.heap.get? b=some u->h'.get? b=some u) (hp:s.heap.objs.size<=a) (new:a0B X.prog X.w (upd H a o) h' a o) :
  Inv X pins σ (upd H a o) { s with heap:=h',toks:=t' }:=I.un (Un.laid k hp (I.hok.fresh hp)) (I.hok.laid k hp new)
theorem Inv.write {x e:Addr} {o:HO} {t':Nat} (I:Inv X pins σ H s) (mu:Mut (H x)) (he:e=x\/H e=some (.own x)) (k:∀b u,b≠e->s.heap.get? b=some u->h'.get? b=some u) (heo:∃u,h'.get? e=some u)
  (new:a0B X.prog X.w (upd H x o) h' x o):Inv X pins σ (upd H x o) { s with heap:=h',toks:=t' }:=I.un (Un.write mu he k heo) (I.hok.write mu he k heo new)
theorem Inv.weak {σ':List (Option V)} (I:Inv X pins σ H s) (hl:σ'.length=σ.length) (w:∀(i:Nat) v,σ'[i]?=some (some v)->σ[i]?=some (some v)):Inv X pins σ' H s :=
 ⟨I.ok,I.os,I.bare,I.base,let ⟨m,hn,hl'⟩:=I.loc;⟨m,hn,λi x v e1 e2 e3=>hl' i x v e1 (w i v e2) e3⟩,I.cell,I.free,I.freeC,I.pin,I.hok,hl.trans I.len⟩
theorem Inv.pins_of {pins':List (Addr × Obj)} (I:Inv X pins σ H s) (h:∀p∈pins',s.heap.get? p.1=some p.2/\H p.1=none/\p.1≠X.env.locals/\p.1∉X.fs/\∀v,p.2.data≠.cell v):Inv X pins' σ H s :=
 ⟨I.ok,I.os,I.bare,I.base,I.loc,I.cell,I.free,I.freeC,λp hp=>(b5W.mp hp).elim (λz=>I.pin p (b6u _ z)) (h p),I.hok,I.len⟩
theorem a6J {N:List Str} (hN:N.Nodup) {i j:Nat} {x:Str} (a:N[i]?=some x) (b:N[j]?=some x):i=j:=by
 obtain⟨h1,e1⟩:=b5E.mp a;obtain⟨h2,e2⟩:=b5E.mp b;exact(b8f hN).mp (e1.trans e2.symm)
theorem a4T {M:Model} {A:Around} {E:Value->Shared->Prop} {i:Nat} {x:Str} {v:V} {u:Value} {Q:Unit->Shared->Prop} (I:Inv X pins σ H s) (hN:X.N.Nodup) (hi:X.N[i]?=some x) (hx:Loc X.env.scope x) (r:a0Q v u)
  (h:∀s',Inv X pins (σ.set i (some v)) H s'->(∃a,Heap.SameBut a s.heap s'.heap/\(a=X.env.locals\/X.env.cells.lookup x=some a))->Q () s') (hf:X.fn x=true\/X.env.scope.names.lookup x=some .local:=by first|exact .inl rfl|exact .inr rfl|assumption):wpAny M A (storeName X.env x u) Q E s:=by
 obtain⟨m,hn,hl⟩:=id I.loc;have hcls:(X.env.scope.kind==.class||(X.env.scope.kind==.module&&X.env.locals !=X.env.globals))=false:=by rw[I.ok.kind];rfl
 have hiσ:i < σ.length:=by rw[I.len];exact(b5E.mp hi).1
 have cne:=I.cne;have tracked:∀{a:Addr} {h':Heap},(∃o,s.heap.get? a=some o/\H a=none)->Heap.SameBut a s.heap h'->HOk X.prog X.w H h':=λ{a h'} ha hs b ob e=>by
  obtain⟨_,_,hfree⟩:=ha;refine(I.hok b ob e).stay (λc w' hc q=>(hs.2 c ?_).trans q) (λ_ q=>q) λ_ _ q=>q;rintro rfl;rcases hc with rfl|hc
  ·rw[hfree] at e;cases e
  ·rw[hfree] at hc;cases hc
 rcases hx with hk|hk
 ·refine wpAny_storeName_local hk hn (λh' hn' hs=>?_) hcls;obtain⟨oL,_,_,hoL,_⟩:=id hn;refine h _ ⟨I.ok,I.os,I.bare,⟨λb o e n hb hx=>?_,λb o e n hb hx=>?_,I.base.free,λb o e hx=>?_,I.base.tups,I.base.frzs,I.base.tbls⟩,⟨_,hn',λj y v' e1 e2 e3=>?_⟩,λy c e=>?_,I.free,I.freeC,λp hp=>?_,tracked ⟨oL,hoL,I.free⟩ hs,by simpa using I.len⟩ ⟨_,hs,.inl rfl⟩
  ·exact(hs.2 b (b5O (b5S (b5F e) I.ok.above))).trans (I.base.keep b o e n hb hx)
  ·obtain⟨sl,e1⟩:=I.base.slot b o e n hb hx;exact⟨sl,(hs.2 b (b5O (b5S (b5F e) I.ok.above))).trans e1⟩
  ·obtain⟨o',e1⟩:=I.base.there b o e hx;exact⟨o',(hs.2 b (b5O (b5S (b5F e) I.ok.above))).trans e1⟩
  ·by_cases hj:j=i
   ·subst hj;rw[hi] at e1;cases e1;rw[b8G hiσ] at e2;cases e2;exact⟨u,r,.inl ⟨hk,by simp⟩⟩
   ·rw[b8Y (Ne.symm hj)] at e2;obtain⟨u',r',q⟩:=hl j y v' e1 e2 e3;refine⟨u',r',?_⟩;rcases q with ⟨k,e⟩|⟨k,c,e,z⟩
    ·refine .inl ⟨k,?_⟩;have:y≠x:=λe=>hj (a6J hN e1 (e▸hi));simp[this,e]
    ·exact .inr ⟨k,c,e,z.sameBut hs (cne y c e)⟩
  ·obtain⟨w',z⟩:=I.cell y c e;exact⟨w',z.sameBut hs (cne y c e)⟩
  ·obtain⟨e,n,ne,nf,d⟩:=I.pin p hp;exact⟨(hs.2 p.1 ne).trans e,n,ne,nf,d⟩
 ·have hfn:X.fn x=true:=by
   rcases hf with z|z
   ·exact z
   ·rw[z] at hk;cases hk
  obtain⟨c,hc⟩:=I.ok.has x (.inl hk);obtain⟨w',z⟩:=I.cell x c hc;refine wpAny_storeName_cell I.ok.kind hk hc z (λh' hc' hs=>?_);obtain⟨oc,hoc,hocd⟩:=id z;refine h { s with heap:=h' } ⟨I.ok,I.os,I.bare,⟨λb o e n hb hx=>?_,λb o e n hb hx=>?_,I.base.free,λb o e hx=>?_,I.base.tups,I.base.frzs,I.base.tbls⟩,⟨m,hn.sameBut hs (Ne.symm (cne x c hc)),λj y v' e1 e2 e3=>?_⟩,λy c' e=>?_,I.free,I.freeC,λp hp=>?_,tracked ⟨oc,hoc,I.freeC x c hc⟩ hs,by simpa using I.len⟩ ⟨c,hs,.inr hc⟩
  ·exact(hs.2 b (b5O (b5S (b5F e) (I.ok.cab x c hfn hc)))).trans (I.base.keep b o e n hb hx)
  ·obtain⟨sl,e1⟩:=I.base.slot b o e n hb hx;exact⟨sl,(hs.2 b (b5O (b5S (b5F e) (I.ok.cab x c hfn hc)))).trans e1⟩
  ·obtain⟨o',e1⟩:=I.base.there b o e hx;exact⟨o',(hs.2 b (b5O (b5S (b5F e) (I.ok.cab x c hfn hc)))).trans e1⟩
  ·by_cases hj:j=i
   ·subst hj;rw[hi] at e1;cases e1;rw[b8G hiσ] at e2;cases e2;exact⟨u,r,.inr ⟨.inl hk,c,hc,hc'⟩⟩
   ·rw[b8Y (Ne.symm hj)] at e2;obtain⟨u',r',q⟩:=hl j y v' e1 e2 e3;refine⟨u',r',?_⟩;rcases q with q|⟨k,c',e,z'⟩
    ·exact .inl q
    ·refine .inr ⟨k,c',e,z'.sameBut hs ?_⟩;rintro rfl;exact hj (a6J hN e1 (I.ok.inj _ _ _ e hc▸hi))
  ·by_cases hcc:c'=c
   ·subst hcc;exact⟨_,hc'⟩
   ·obtain⟨w2,z2⟩:=I.cell y c' e;exact⟨w2,z2.sameBut hs hcc⟩
  ·obtain⟨e,n,ne,nf,d⟩:=I.pin p hp;refine⟨(hs.2 p.1 ?_).trans e,n,ne,nf,d⟩;intro q;rw[q,hoc] at e;have q':oc=p.2:=b5U e;exact d w' (by rw[<-q'];exact hocd)
theorem a6K {M:Model} {A:Around} {E:Value->Shared->Prop} {i:Nat} {x:Str} {v:V} {u:Value} {Q:Unit->Shared->Prop} (I:Inv X pins σ H s) (hN:X.N.Nodup) (hi:X.N[i]?=some x) (hx:Loc X.env.scope x) (r:a0Q v u)
  (h:∀s',Inv X pins (σ.set i (some v)) H s'->Q () s') (hf:X.fn x=true\/X.env.scope.names.lookup x=some .local:=by first|exact .inl rfl|exact .inr rfl|assumption):wpAny M A (storeName X.env x u) Q E s :=
 a4T I hN hi hx r (λs' I' _=>h s' I') hf
theorem Inv.call' {s':Shared} {ch:List Addr} (I:Inv X pins σ H s) (ho:s'.os=s.os) (u:Un (frs X.stack) ch H H' s.heap s'.heap) (hok:HOk X.prog X.w H' s'.heap) (hg:AllBare s'.gens)
  (hch:∀b∈ch,(b∈X.ex\/X.s₀.heap.objs.size<=b)/\b≠X.env.locals/\(∀x c,X.env.cells.lookup x=some c->c≠b)/\∀p∈X.pn++pins,p.1≠b):Inv X pins σ H' s':=by
 obtain⟨h',g',d',t',o'⟩:=s';have e:o'=s.os:=ho;subst e;exact I.call (g':=g') (t':=t') (d':=d') u hok hg hch
end
abbrev XK:=Value->Option Addr->Hp->Prop
abbrev St:=List (Option V)
abbrev VK:=V->Hp->Prop
abbrev TE:=St->Hp->VK->Prop
abbrev TT:=St->Hp->(Bool->Hp->Prop)->Prop
abbrev TA:=St->Hp->(List V->Hp->Prop)->Prop
structure b1j where
 nx:St->Hp->Prop
 rt:VK
 bk:St->Hp->Prop:=λ_ _=>False
 ct:St->Hp->Prop:=λ_ _=>False
abbrev TS:=b1j->St->Hp->Prop
def EP (X:Cx) (pins:List (Addr × Obj)) (σ:St) (Q:VK) (u:Value) (s':Shared):Prop:=∃v H',Inv X pins σ H' s'/\a0Q v u/\Q v H'
def TP (X:Cx) (pins:List (Addr × Obj)) (σ:St) (Q:Bool->Hp->Prop) (b:Bool) (s':Shared):Prop:=∃H',Inv X pins σ H' s'/\Q b H'
def AP (X:Cx) (pins:List (Addr × Obj)) (σ:St) (Q:List V->Hp->Prop) (us:List Value) (s':Shared):Prop:=∃vs H',Inv X pins σ H' s'/\a0w vs us/\Q vs H'
def SP (X:Cx) (pins:List (Addr × Obj)) (D:b1j) (f:Flow) (s':Shared):Prop :=
 match f with
 | .next=>∃σ' H',Inv X pins σ' H' s'/\D.nx σ' H'
 | .brk=>∃σ' H',Inv X pins σ' H' s'/\D.bk σ' H'
 | .cont=>∃σ' H',Inv X pins σ' H' s'/\D.ct σ' H'
 | .ret u=>∃v σ' H',Inv X pins σ' H' s'/\a0Q v u/\D.rt v H'
def PE (X:Cx) (e:Expr) (t:TE):Prop :=
 ∀(pins:List (Addr × Obj)) (s:Shared) (σ:St) (H:Hp) (Q:VK),Inv X pins σ H s->t σ H Q->wpAny (model X.prog X.w) X.A (eval e X.env) (EP X pins σ Q) X.xe s
def PT (X:Cx) (e:Expr) (t:TT):Prop :=
 ∀(pins:List (Addr × Obj)) (s:Shared) (σ:St) (H:Hp) (Q:Bool->Hp->Prop),Inv X pins σ H s->t σ H Q->wpAny (model X.prog X.w) X.A (isTrue e X.env (eval e X.env)) (TP X pins σ Q) X.xe s
def PW (X:Cx) (e:Expr) (t:TT):Prop :=
 ∀(whole:Sem Value) (pins:List (Addr × Obj)) (s:Shared) (σ:St) (H:Hp) (Q:Bool->Hp->Prop),Inv X pins σ H s->t σ H Q->wpAny (model X.prog X.w) X.A (isTrue e X.env whole) (TP X pins σ Q) X.xe s
theorem PW.pt {X:Cx} {e:Expr} {t:TT} (h:PW X e t):PT X e t:=h _
def PA (X:Cx) (es:List Expr) (t:TA):Prop :=
 ∀(pos:Pos) (pins:List (Addr × Obj)) (s:Shared) (σ:St) (H:Hp) (Q:List V->Hp->Prop),Inv X pins σ H s->t σ H Q->wpAny (model X.prog X.w) X.A (spliced (backTo pos (starEach es X.env))) (AP X pins σ Q) X.xe s
def PS (X:Cx) (st:Stmt) (t:TS):Prop :=
 ∀(pins:List (Addr × Obj)) (s:Shared) (σ:St) (H:Hp) (D:b1j),Inv X pins σ H s->t D σ H->wpAny (model X.prog X.w) X.A (exec st X.env) (SP X pins D) X.xe s
def PSs (X:Cx) (st:List Stmt) (t:TS):Prop :=
 ∀(pins:List (Addr × Obj)) (s:Shared) (σ:St) (H:Hp) (D:b1j),Inv X pins σ H s->t D σ H->wpAny (model X.prog X.w) X.A (execs st X.env) (SP X pins D) X.xe s
theorem thn {α:Type} {t:Sem α} {Q Q':α->Shared->Prop} {M:Model} {A:Around} {E:Value->Shared->Prop} {s:Shared} (h:wpAny M A t Q E s) (hQ:∀a s,Q a s->Q' a s):wpAny M A t Q' E s:=b7Y h hQ λ_ _ x=>x
section
variable {X:Cx}
def tVar (i:Nat):TE:=λσ H Q=>∃v,σ[i]?=some (some v)/\Q v H
def tC (v:V):TE:=λ_ H Q=>Q v H
theorem b2M {i:Nat} {x:Str} {pos:Pos} (hN:X.N[i]?=some x) (hv:Vis X.env.scope x) (hd:(x==("__debug__":Str))=false:=by decide) (hcd:(x==("__classdict__":Str))=false:=by decide):PE X (.Name x pos) (tVar i):=by
 intro pins s σ H Q I h;obtain⟨v,e,h⟩:=h;obtain⟨m,hn,hl⟩:=I.loc;obtain⟨u,r,l⟩:=hl i x v hN e hv;have fin:EP X pins σ Q u s:=⟨v,H,I,r,h⟩
 rcases l with ⟨hk,hm⟩|⟨hk,c,hc,hcell⟩
 ·exact wpAny_Name (wpAny_loadName_local I.ok.kind hk hn hm fin) hd
 ·rcases hk with hk|hk
  ·exact wpAny_Name (wpAny_loadName_cell I.ok.kind hk hc hcell fin) hd
  ·exact wpAny_Name (wpAny_loadName_free I.ok.kind hk hc hcell fin hcd) hd
theorem a0g {i j pos}:PE X (.Constant (.int i) j pos) (tC (.int i)):=λ_ _ _ H _ I h=>wpAny_Constant_int ⟨.int i,H,I.tok _,⟨_,rfl⟩,h⟩
theorem pe_bl {b j pos}:PE X (.Constant (.bool b) j pos) (tC (.bl b)):=λ_ _ _ H _ I h=>Constant_bool ⟨.bl b,H,I,rfl,h⟩
theorem a6L {j pos}:PE X (.Constant .none j pos) (tC .non):=λ_ _ _ H _ I h=>Constant_none ⟨.non,H,I,rfl,h⟩
def Gl (X:Cx) (x:Str):Prop:=X.env.kindOf x=some .globalImplicit
theorem a3Z {E:Value->Shared->Prop} {pins:List (Addr × Obj)} {s:Shared} {σ:St} {H:Hp} {x:Str} {u:Value} {pos:Pos} {Q:Value->Shared->Prop} (I:Inv X pins σ H s) (hg:Gl X x) (hm:X.mg x=some u) (h:Q u s)
  (hd:(x==("__debug__":Str))=false:=by decide):wpAny (model X.prog X.w) X.A (eval (.Name x pos) X.env) Q E s :=
 Calls.Name_function_global I.ok.kind hg (Calls.loadGlobal_global (by rw[I.ok.glob];exact I.mod.glob.keeps I.bk) hm h) hd
theorem a1i {E:Value->Shared->Prop} {pins:List (Addr × Obj)} {s:Shared} {σ:St} {H:Hp} {x:Str} {u:Value} {pos:Pos} {Q:Value->Shared->Prop} (I:Inv X pins σ H s) (hg:Gl X x) (hm:X.mg x=none) (hv:bootBuiltins x=some u) (h:Q u s)
  (hn:x≠"__name__":=by decide) (hd:(x==("__debug__":Str))=false:=by decide):wpAny (model X.prog X.w) X.A (eval (.Name x pos) X.env) Q E s:=by
 obtain⟨mb,h1,h2⟩:=I.mod.blt;exact Calls.Name_function_global I.ok.kind hg (Calls.loadGlobal_builtin (by rw[I.ok.glob];exact I.mod.glob.keeps I.bk) hm (by rw[I.ok.blt];exact h1.keeps I.bk) ((h2 x hn).trans hv) h) hd
theorem a5S {x:Str} {v:V} {u:Value} {pos:Pos} (hg:Gl X x) (hm:X.mg x=some u) (r:a0Q v u) (hd:(x==("__debug__":Str))=false:=by decide):PE X (.Name x pos) (tC v) :=
 λ_ _ _ H _ I h=>a3Z I hg hm ⟨v,H,I,r,h⟩ hd
def t2I (ta tb:TE) (k:Int->Int->Hp->Prop):St->Hp->Prop:=λσ H=>ta σ H λx H1=>tb σ H1 λy H2=>∃i j,x=.int i/\y=.int j/\k i j H2
def tMul (ta tb:TE):TE:=λσ H Q=>t2I ta tb (λi j H2=>(-(2 ^ 64)<i/\i<2 ^ 64)/\Q (.int (i*j)) H2) σ H
variable {a b:Expr} {ta tb:TE} {pos:Pos}
def PC (X:Cx) (op:CmpOp) (a b:Expr) (t:TE):Prop :=
 ∀(pins:List (Addr × Obj)) (s:Shared) (σ:St) (H:Hp) (Q:VK),Inv X pins σ H s->t σ H Q ->
  wpAny (model X.prog X.w) X.A (eval a X.env) (λv s₁=>wpAny (model X.prog X.w) X.A (eval b X.env) (λu s₂=>wpAny (model X.prog X.w) X.A (compareOp op v u) (EP X pins σ Q) X.xe s₂) X.xe s₁) X.xe s
theorem nobehind (b:Expr) {op:CmpOp} (h:op≠.In) (h2:op≠.NotIn):behindInMarks op b=false:=by
 have e1:(op==CmpOp.In)=false:=by cases op<;>first|rfl|exact absurd rfl h
 have e2:(op==CmpOp.NotIn)=false:=by cases op<;>first|rfl|exact absurd rfl h2
 cases b<;>simp[behindInMarks,e1,e2]
def tIsN (ta:TE):TE:=λσ H Q=>ta σ H λx H1=>Q (.bl (decide (x=.non))) H1
def tNotN (ta:TE):TE:=λσ H Q=>ta σ H λx H1=>Q (.bl (!decide (x=.non))) H1
theorem a0Q.none_iff {x:V} {v:Value} (r:a0Q x v):(v==Value.none)=decide (x=.non):=by
 cases x with
 | non=>cases r;rfl
 | bl _=>cases r;rfl
 | int _=>obtain⟨t,rfl⟩:=r;rfl
 | str _=>obtain⟨t,rfl⟩:=r;rfl
 | byt _=>obtain⟨t,rfl⟩:=r;rfl
 | flt _=>obtain⟨t,rfl⟩:=r;rfl
 | ref _=>cases r;rfl
 | ty _=>cases r;rfl
theorem b2N {j pos'} (ha:PE X a ta):PC X .Is a (.Constant .none j pos') (tIsN ta):=by
 intro pins s σ H Q I h;refine thn (ha pins s σ H _ I h) λv s1 ⟨x,H1,I1,r1,q1⟩=>?_;exact Constant_none (is_none_gen ⟨.bl _,H1,I1,by rw[r1.none_iff];rfl,q1⟩)
theorem b3E {j pos'} (ha:PE X a ta):PC X .IsNot a (.Constant .none j pos') (tNotN ta):=by
 intro pins s σ H Q I h;refine thn (ha pins s σ H _ I h) λv s1 ⟨x,H1,I1,r1,q1⟩=>?_;exact Constant_none (isnot_none_gen ⟨.bl _,H1,I1,by rw[r1.none_iff];rfl,q1⟩)
def tB (t:TE):TT:=λσ H Q=>t σ H λx H1=>∃c,x=.bl c/\Q c H1
theorem a8I {op:CmpOp} {t:TE} (h:PC X op a b t) (h1:behindInMarks op b=false:=by first|exact nobehind _ (by decide) (by decide)|rfl):PT X (.Compare a [op] [b] pos) (tB t):=by
 intro pins s σ H Q I hw;refine wpAny_isTrue_Compare1 (thn (h pins s σ H _ I hw) λv s1 h1=>thn h1 λu s2 h2=>thn h2 λc s3 ⟨x,H1,I1,r1,q1⟩=>?_) h1;obtain⟨d,rfl,q⟩:=q1;cases r1;exact b7E ⟨H1,I1,q⟩
theorem pt_val {e:Expr} {t:TE} (h:PE X e t) (he:∀whole,isTrue e X.env whole=(do let v <-whole;standAt e.pos;holding [v] (truthy v)):=by intro _;rfl):PT X e (tB t):=by
 intro pins s σ H Q I hw;refine isTrue_plain (thn (h pins s σ H _ I hw) λv s1 ⟨x,H1,I1,r1,q1⟩=>?_) (he _);obtain⟨d,rfl,q⟩:=q1;cases r1;exact b7E ⟨H1,I1,q⟩
variable {tA tB':TT} {rest:List Expr}
def tOr (t u:TT):TT:=λσ H Q=>t σ H λc H1=>if c=true then Q true H1 else u σ H1 Q
def tNot (t:TT):TT:=λσ H Q=>t σ H λc H1=>Q (!c) H1
theorem b2O (ha:PT X a tA):PW X (.BoolOp .Or [a] pos) tA:=by
 intro wh pins s σ H Q I h;refine isTrue_or (thn (ha pins s σ H Q I h) λc s1 e=>?_);cases c with
 | false=>exact isTrue_or_nil e
 | true=>exact e
theorem pw_or (ha:PT X a tA) (hb:PW X (.BoolOp .Or (b::rest) pos) tB'):PW X (.BoolOp .Or (a::b::rest) pos) (tOr tA tB'):=by
 intro wh pins s σ H Q I h;refine isTrue_or (thn (ha pins s σ H _ I h) λc s1 ⟨H1,I1,q1⟩=>?_);cases c with
 | true=>exact⟨H1,I1,q1⟩
 | false=>exact hb wh pins s1 σ H1 Q I1 q1
theorem pt_not (ha:PT X a tA):PT X (.UnaryOp .Not a pos) (tNot tA):=by
 intro pins s σ H Q I h;exact isTrue_not (ha pins s σ H (λc H1=>Q (!c) H1) I h)
def tAndV (ta tb:TE):TE:=λσ H Q=>ta σ H λx H1=>∃c,x=.bl c/\if c=true then tb σ H1 Q else Q (.bl false) H1
theorem pe_one {op} {t:TE} (h:PE X a t):PE X (.BoolOp op [a] pos) t:=λpins s σ H Q I hw=>BoolOp_one (h pins s σ H Q I hw)
theorem pe_and (ha:PE X a ta) (hb:PE X (.BoolOp .And (b::rest) pos) tb):PE X (.BoolOp .And (a::b::rest) pos) (tAndV ta tb):=by
 intro pins s σ H Q I h;refine BoolOp_and (thn (ha pins s σ H _ I h) λv s1 ⟨x,H1,I1,r1,q1⟩=>?_);obtain⟨c,rfl,q1⟩:=q1;cases r1;refine b7E ?_;cases c with
 | true=>exact hb pins s1 σ H1 Q I1 q1
 | false=>exact⟨.bl false,H1,I1,rfl,q1⟩
def tIf (t:TT) (ta tb:TE):TE:=λσ H Q=>t σ H λc H1=>if c=true then ta σ H1 Q else tb σ H1 Q
theorem b1k {c:Expr} (hc:PT X c tA) (ha:PE X a ta) (hb:PE X b tb):PE X (.IfExp c a b pos) (tIf tA ta tb):=by
 intro pins s σ H Q I h;refine wpAny_IfExp (thn (hc pins s σ H _ I h) λd s1 ⟨H1,I1,q1⟩=>?_);cases d with
 | true=>exact ha pins s1 σ H1 Q I1 q1
 | false=>exact hb pins s1 σ H1 Q I1 q1
end
def SqL (K:PySem.W.Frag) (H:Hp) (a:Addr) (xs:List V):Prop :=
 Rd H a (.lst xs) \/
  ∃(o:Obj) (its:Array Value) (n:Nat),K.lookup a=some o/\o.cls=.type "list"/\o.dict=none/\o.data=.seq its n/\its.size<=sizeLine/\a0w xs its.toList
def SqT (K:PySem.W.Frag) (H:Hp) (a:Addr) (xs:List V):Prop :=
 Rd H a (.tup xs) \/
  ∃(o:Obj) (its:Array Value) (n:Nat),K.lookup a=some o/\o.cls=.type "tuple"/\o.data=.seq its n/\its.size<=sizeLine/\a0w xs its.toList
def absV:Value->Option V
 | .none=>some .non
 | .bool b=>some (.bl b)
 | .int i _=>some (.int i)
 | .str x _=>some (.str x)
 | .bytes b _=>some (.byt b)
 | .float b _=>some (.flt b)
 | .ref a=>some (.ref a)
 | .type n=>some (.ty n)
 | _=>none
theorem a0Q.abs {x:V} {u:Value} (r:a0Q x u):absV u=some x:=by
 cases x with
 | non=>cases r;rfl
 | bl _=>cases r;rfl
 | int _=>obtain⟨t,rfl⟩:=r;rfl
 | str _=>obtain⟨t,rfl⟩:=r;rfl
 | byt _=>obtain⟨t,rfl⟩:=r;rfl
 | flt _=>obtain⟨t,rfl⟩:=r;rfl
 | ref _=>cases r;rfl
 | ty _=>cases r;rfl
theorem a0Q.inj {x y:V} {u:Value} (r:a0Q x u) (q:a0Q y u):x=y:=b5U (r.abs.symm.trans q.abs)
theorem a0w.inj:∀{xs ys:List V} {us:List Value},a0w xs us->a0w ys us->xs=ys
 | _,_,_,.nil,.nil=>rfl
 | _,_,_,.cons r t,.cons r' t'=>by rw[r.inj r',a0w.inj t t']
section
variable {X:Cx} {pins:List (Addr × Obj)} {σ:St} {H:Hp} {s:Shared} {a:Addr} {xs ys:List V}
theorem SqL.of {K:PySem.W.Frag} (h:H a=some (.lst xs)):SqL K H a xs:=.inl (.inl h)
theorem SqT.of {K:PySem.W.Frag} (h:H a=some (.tup xs)):SqT K H a xs:=.inl (.inl h)
theorem Inv.list (I:Inv X pins σ H s) (h:SqL X.K H a xs):∃its:List Value,a0w xs its/\PlainL s.heap a its.toArray/\xs.length<=sizeLine:=by
 rcases h with h|⟨o,its,n,hk,hc,hd,hs,hz,r⟩
 ·obtain⟨z,its,n,r,e⟩:=h.ok I.hok;exact⟨its,r,⟨_,n,e,rfl,rfl,rfl⟩,z⟩
 ·refine⟨its.toList,r,⟨o,n,I.kIn a o hk,hc,hd,by simpa using hs⟩,?_⟩;have e:=r.length;simp only[b6a] at e;omega
theorem Inv.tuple (I:Inv X pins σ H s) (h:SqT X.K H a xs):∃its:List Value,a0w xs its/\IsTup s.heap a its.toArray/\xs.length<=sizeLine:=by
 rcases h with h|⟨o,its,n,hk,hc,hs,hz,r⟩
 ·obtain⟨z,its,r,p⟩:=h.ok I.hok;exact⟨its,r,p.is,z⟩
 ·refine⟨its.toList,r,⟨o,I.kIn a o hk,hc,n,by simpa using hs⟩,?_⟩;have e:=r.length;simp only[b6a] at e;omega
theorem Inv.list_inj (I:Inv X pins σ H s) (h:SqL X.K H a xs) (h':SqL X.K H a ys):xs=ys:=by
 obtain⟨its,r,⟨o,n,e,_,_,d⟩,_⟩:=I.list h;obtain⟨its',r',⟨o',n',e',_,_,d'⟩,_⟩:=I.list h';rw[e] at e';cases e';rw[d] at d';injection d' with d1 _;have:its=its':=by simpa using b7m Array.toList d1
 subst this;exact r.inj r'
theorem Inv.tuple_inj (I:Inv X pins σ H s) (h:SqT X.K H a xs) (h':SqT X.K H a ys):xs=ys:=by
 obtain⟨its,r,⟨o,e,_,n,d⟩,_⟩:=I.tuple h;obtain⟨its',r',⟨o',e',_,n',d'⟩,_⟩:=I.tuple h';rw[e] at e';cases e';rw[d] at d';injection d' with d1 _;have:its=its':=by simpa using b7m Array.toList d1
 subst this;exact r.inj r'
end
abbrev Cx.wish (X:Cx) (E:Value->Shared->Prop):Cx:={ X with xe:=E }
abbrev Cx.nox (X:Cx):Cx:=X.wish λ_ _=>False
theorem Cx.Ok.wish {X:Cx} (ok:X.Ok) (E:Value->Shared->Prop):(X.wish E).Ok :=
 ⟨ok.mod,ok.kind,ok.glob,ok.blt,ok.above,ok.inj,ok.has,ok.cab,ok.hd,ok.frames,ok.stk,ok.exf,ok.bs,ok.bsz,ok.noex,ok.exfs,ok.funs,ok.frf⟩
theorem Cx.Ok.unwish {X:Cx} {E:Value->Shared->Prop} (ok:(X.wish E).Ok):X.Ok :=
 ⟨ok.mod,ok.kind,ok.glob,ok.blt,ok.above,ok.inj,ok.has,ok.cab,ok.hd,ok.frames,ok.stk,ok.exf,ok.bs,ok.bsz,ok.noex,ok.exfs,ok.funs,ok.frf⟩
section
variable {X:Cx} {pins:List (Addr × Obj)} {σ:St} {H:Hp} {s:Shared} {E:Value->Shared->Prop}
theorem Inv.wish (I:Inv X pins σ H s) (E:Value->Shared->Prop):Inv (X.wish E) pins σ H s:=⟨I.ok.wish E,I.os,I.bare,I.base,I.loc,I.cell,I.free,I.freeC,I.pin,I.hok,I.len⟩
theorem Inv.unwish (I:Inv (X.wish E) pins σ H s):Inv X pins σ H s:=⟨I.ok.unwish,I.os,I.bare,I.base,I.loc,I.cell,I.free,I.freeC,I.pin,I.hok,I.len⟩
theorem SP.unwish {D:b1j} {f:Flow} {s':Shared} (h:SP (X.wish E) pins D f s'):SP X pins D f s':=by
 cases f with
 | next=>obtain⟨σ',H',I,q⟩:=h;exact⟨σ',H',I.unwish,q⟩
 | brk=>obtain⟨σ',H',I,q⟩:=h;exact⟨σ',H',I.unwish,q⟩
 | cont=>obtain⟨σ',H',I,q⟩:=h;exact⟨σ',H',I.unwish,q⟩
 | ret u=>obtain⟨v,σ',H',I,r,q⟩:=h;exact⟨v,σ',H',I.unwish,r,q⟩
theorem PSs.nox {st:List Stmt} {t:TS} (h:PSs X.nox st t):PSs X st t:=λpins s σ H D I hw =>
 b7Y (h pins s σ H D (I.wish _) hw) (λ_ _ q=>q.unwish) λ_ _ z=>False.elim z
end
section
variable {X:Cx} {st:Stmt} {rest:List Stmt} {t u:TS} {e:Expr} {te:TE} {pos:Pos}
def tNext:TS:=λD σ H=>D.nx σ H
def tSeq (t u:TS):TS:=λD σ H=>t { D with nx:=u D } σ H
theorem a0K:PSs X [] tNext:=λ_ _ σ H _ I h=>c0m ⟨σ,H,I,h⟩
theorem a0e (h1:PS X st t) (h2:PSs X rest u):PSs X (st::rest) (tSeq t u):=by
 intro pins s σ H D I h;refine wpAny_execs_cons (thn (h1 pins s σ H { D with nx:=u D } I h) λf s1 q=>?_);cases f with
 | next =>
  obtain⟨σ',H',I',q⟩:=q;exact h2 pins s1 σ' H' D I' q
 | ret v=>exact q
 | brk=>exact q
 | cont=>exact q
theorem a0i (h1:PS X st t):PSs X [st] t:=by
 intro pins s σ H D I h;refine wpAny_execs_cons (thn (h1 pins s σ H D I h) λf s1 q=>?_);cases f with
 | next=>exact c0m q
 | ret v=>exact q
 | brk=>exact q
 | cont=>exact q
theorem Inv.quiet {pins:List (Addr × Obj)} {σ:St} {H:Hp} {s:Shared} (I:Inv X pins σ H s):interactive X.env=false:=by simp[interactive,I.ok.kind]
def tDrop (te:TE):TS:=λD σ H=>te σ H λ_ H1=>D.nx σ H1
theorem a1h (he:PE X e te) (hs:swapsWith e none pos.line X.env=pure false:=by rfl):PS X (.Expr e pos) (tDrop te):=by
 intro pins s σ H D I h;exact wpAny_Expr_any (thn (he pins s σ H _ I h) λv s1 ⟨x,H1,I1,r1,q1⟩=>⟨σ,H1,I1,q1⟩) I.quiet hs
def tRet (te:TE):TS:=λD σ H=>te σ H D.rt
theorem a0q (he:PE X e te):PS X (.Return (some e) pos) (tRet te):=by
 intro pins s σ H D I h;exact wpAny_Return_some (thn (he pins s σ H _ I h) λv s1 ⟨x,H1,I1,r1,q1⟩=>⟨x,σ,H1,I1,r1,q1⟩)
def tIfS (c:TT) (t u:TS):TS:=λD σ H=>c σ H λb H1=>if b=true then t D σ H1 else u D σ H1
theorem a1q {c:Expr} {a b:List Stmt} {tc:TT} (hc:PT X c tc) (ha:PSs X a t) (hb:PSs X b u):PS X (.If c a b pos) (tIfS tc t u):=by
 intro pins s σ H D I h;refine wpAny_If (thn (hc pins s σ H _ I h) λd s1 ⟨H1,I1,q1⟩=>?_);cases d with
 | true=>exact ha pins s1 σ H1 D I1 q1
 | false=>exact hb pins s1 σ H1 D I1 q1
def tNever:TS:=λ_ _ _=>False
end
abbrev TG:=V->St->Hp->(St->Hp->Prop)->Prop
abbrev TGs:=List V->St->Hp->(St->Hp->Prop)->Prop
def PG (X:Cx) (target:Expr) (t:TG):Prop :=
 ∀(pins:List (Addr × Obj)) (s:Shared) (σ:St) (H:Hp) (v:V) (u:Value) (Q:St->Hp->Prop),Inv X pins σ H s->a0Q v u->t v σ H Q ->
  wpAny (model X.prog X.w) X.A (assign target X.env u) (λ_ s'=>∃σ' H',Inv X pins σ' H' s'/\Q σ' H') X.xe s
def PGs (X:Cx) (ts:List Expr) (t:TGs):Prop :=
 ∀(pins:List (Addr × Obj)) (s:Shared) (σ:St) (H:Hp) (vs:List V) (us:List Value) (Q:St->Hp->Prop),Inv X pins σ H s->a0w vs us->t vs σ H Q ->
  wpAny (model X.prog X.w) X.A (assignInOrder ((assignEach ts X.env).map (·.2)) us) (λ_ s'=>∃σ' H',Inv X pins σ' H' s'/\Q σ' H') X.xe s
abbrev TSet:=V->V->V->Hp->(Hp->Prop)->Prop
def PSet (X:Cx) (t:TSet):Prop :=
 ∀(pins:List (Addr × Obj)) (s:Shared) (σ:St) (H:Hp) (o i v:V) (ov iv u:Value) (Q:Hp->Prop),Inv X pins σ H s->a0Q o ov->a0Q i iv->a0Q v u->t o i v H Q ->
  wpAny (model X.prog X.w) X.A (setItem ov iv u) (λ_ s'=>∃H',Inv X pins σ H' s'/\Q H') X.xe s
abbrev TIp:=V->V->Hp->VK->Prop
section
variable {X:Cx} {pos:Pos}
def a1J (i:Nat):TG:=λv σ H Q=>Q (σ.set i (some v)) H
theorem a2b {i:Nat} {x:Str} (hN:X.N.Nodup) (hi:X.N[i]?=some x) (hx:Loc X.env.scope x) (hf:X.fn x=true\/X.env.scope.names.lookup x=some .local:=by first|exact .inl rfl|exact .inr rfl|assumption):PG X (.Name x pos) (a1J i):=by
 intro pins s σ H v u Q I r h;exact wpAny_assign_Name (a6K I hN hi hx r (λs' I'=>⟨_,H,I',h⟩) hf)
def gNil:TGs:=λvs σ H Q=>vs=[]/\Q σ H
def b3F (t:TG) (u:TGs):TGs:=λvs σ H Q=>∃v r,vs=v::r/\t v σ H λσ' H'=>u r σ' H' Q
theorem a8J:PGs X [] gNil:=by
 intro pins s σ H vs us Q I r h;obtain⟨e,h⟩:=h;subst e;cases r;exact assignInOrder_nil ⟨σ,H,I,h⟩
theorem a2I {e:Expr} {es:List Expr} {t:TG} {u:TGs} (h1:PG X e t) (h2:PGs X es u)
  (hs:(assignEach (e::es) X.env).map (·.2)=assign e X.env::(assignEach es X.env).map (·.2):=by rfl):PGs X (e::es) (b3F t u):=by
 intro pins s σ H vs us Q I r h;obtain⟨v,vr,e1,h⟩:=h;subst e1;cases r with
 | cons r rr =>
  rw[hs];refine assignInOrder_cons (thn (h1 pins s σ H _ _ _ I r h) λ_ s1 ⟨σ1,H1,I1,q1⟩=>?_);exact h2 pins s1 σ1 H1 _ _ Q I1 rr q1
def gTup (K:PySem.W.Frag) (n:Nat) (t:TGs):TG:=λv σ H Q=>∃a xs,v=.ref a/\SqT K H a xs/\xs.length=n/\t xs σ H Q
theorem b2P {es:List Expr} {k:Nat} {t:TGs} {n:Nat} (hc:X.calm=true) (h:PGs X es t)
  (hn:(assignEach es X.env).length=n:=by rfl) (hst:(assignEach es X.env).findIdx? (·.1)=none:=by rfl):PG X (.Tuple es k pos) (gTup X.K n t):=by
 intro pins s σ H v u Q I r hw;obtain⟨a,xs,e1,hq,hl,hw⟩:=hw;subst e1;cases r;obtain⟨its,rv,ht,hz⟩:=I.tuple hq;refine assign_Tuple_tuple (I.ok.hd hc) ht (by simp[hn,<-hl,rv.length]) hst λh' hx=>?_;have I1:Inv X pins σ H { s with heap:=h' }:=I.kept (t':=s.toks) λb o e=>hx b o (b5O (b5F e)) e;exact h pins _ σ H xs _ Q I1 (by simpa using rv) hw
def gSub (to ti:TE) (t:TSet):TG:=λv σ H Q=>to σ H λo H1=>ti σ H1 λi H2=>t o i v H2 λH3=>Q σ H3
theorem a8K {o i:Expr} {to ti:TE} {t:TSet} (ho:PE X o to) (hi:PE X i ti) (hs:PSet X t)
  (ha:∀v,assign (.Subscript o i pos) X.env v=(do
   let ov <-holding [v] (eval o X.env)
   let iv <-holding [v,ov] (eval i X.env)
   standAt pos
   holding [v,ov,iv] (setItem ov iv v)
   release [v,ov,iv] []):=by intro _;rfl):PG X (.Subscript o i pos) (gSub to ti t):=by
 intro pins s σ H v u Q I r h;rw[ha];refine b5w (b6d (thn (ho pins s σ H _ I h) λov s1 ⟨x,H1,I1,r1,q1⟩=>?_));refine b5w (b6d (thn (hi pins s1 σ H1 _ I1 q1) λiv s2 ⟨y,H2,I2,r2,q2⟩=>?_));refine b5w (c0Q (b5w (b6d (thn (hs pins s2 σ H2 x y v ov iv u _ I2 r1 r2 r q2) λ_ s3 ⟨H3,I3,q3⟩=>?_))));exact wpAny_release ⟨σ,H3,I3,q3⟩
def b5r (te:TE) (g:TG):TS:=λD σ H=>te σ H λx H1=>g x σ H1 D.nx
theorem a8L {tg e:Expr} {te:TE} {g:TG} (he:PE X e te) (hg:PG X tg g) (hs:swapsWithSole [tg] e pos.line X.env=pure false:=by rfl) (hw:swappedStores [tg] e X.env=pure none:=by rfl)
  (h1:(assignEach [tg] X.env).map (·.2)=[assign tg X.env]:=by rfl):PS X (.Assign [tg] e pos) (b5r te g):=by
 intro pins s σ H D I h;refine wpAny_Assign_stores (thn (he pins s σ H _ I h) λv s1 ⟨x,H1,I1,r1,q1⟩=>?_) hs hw;rw[h1];exact thn (hg pins s1 σ H1 x v _ I1 r1 q1) λ_ s2 q=>q
theorem ps_set {i:Nat} {x:Str} {e:Expr} {te:TE} {pos':Pos} (hN:X.N.Nodup) (hi:X.N[i]?=some x) (hx:Loc X.env.scope x) (he:PE X e te) (hs:swapsWith e (some (.Name x pos')) pos.line X.env=pure false:=by rfl) (hf:X.fn x=true\/X.env.scope.names.lookup x=some .local:=by first|exact .inl rfl|exact .inr rfl|assumption) :
  PS X (.Assign [.Name x pos'] e pos) (b5r te (a1J i)):=by
 intro pins s σ H D I h;refine wpAny_Assign_Name (thn (he pins s σ H _ I h) λv s1 ⟨y,H1,I1,r1,q1⟩=>?_) hs;exact a6K I1 hN hi hx r1 (λs2 I2=>⟨_,H1,I2,q1⟩) hf
def tPar (i j:Nat) (ta:TA):TS:=λD σ H=>ta σ H λvs H1=>∃v w,vs=[v,w]/\D.nx ((σ.set i (some v)).set j (some w)) H1
def tAug (i:Nat) (te:TE) (ti:TIp):TS:=λD σ H=>∃x,σ[i]?=some (some x)/\te σ H λy H1=>ti x y H1 λz H2=>D.nx (σ.set i (some z)) H2
def tAugS (to ti te:TE) (tget:V->V->Hp->VK->Prop) (tip:TIp) (tset:TSet):TS:=λD σ H=>to σ H λo H1=>ti σ H1 λi H2=>tget o i H2 λx H3=>te σ H3 λy H4=>tip x y H4 λz H5=>tset o i z H5 λH6=>D.nx σ H6
def PGet (X:Cx) (t:V->V->Hp->VK->Prop):Prop :=
 ∀(pins:List (Addr × Obj)) (s:Shared) (σ:St) (H:Hp) (o i:V) (ov iv:Value) (Q:VK),Inv X pins σ H s->a0Q o ov->a0Q i iv->t o i H Q ->
  wpAny (model X.prog X.w) X.A (getItem ov iv) (EP X pins σ Q) X.xe s
def ipI (f:Int->Int->Int):TIp:=λx y H Q=>∃i j,x=.int i/\y=.int j/\Q (.int (f i j)) H
def tWhile (c:TT) (tb:TS):TS:=λD σ H=>∃W:Nat->St->Hp->Prop,(∃m,W m σ H)/\∀m σ H,W m σ H ->
 c σ H λb H1=>if b=true then ∃N:St->Hp->Prop,(∀σ' H',N σ' H'->∃m',m'<m/\W m' σ' H')/\tb { D with nx:=N,ct:=N,bk:=D.nx } σ H1 else D.nx σ H1
theorem a4a {c:Expr} {body:List Stmt} {tc:TT} {tb:TS} (hp:PassesOwn (model X.prog X.w) X.A X.env X.xe) (hc:PT X c tc) (hb:PSs X body tb):PS X (.While c body [] pos) (tWhile tc tb):=by
 intro pins s σ H D I h;obtain⟨W,⟨m0,w0⟩,turn⟩:=h;refine wpAny_While (codeAny_whileLoop (λn s'=>∃σ' H',Inv X pins σ' H' s'/\W n σ' H') ?_ m0 ⟨σ,H,I,w0⟩);rintro n s1 ⟨σ1,H1,I1,w1⟩;refine b8m hp (thn (hc pins s1 σ1 H1 _ I1 (turn n σ1 H1 w1)) λb s2 ⟨H2,I2,q2⟩=>?_);cases b with
 | true =>
  obtain⟨N,hN,q2⟩:=q2;rw[if_pos rfl];refine b8m hp (thn (hb pins s2 σ1 H2 _ I2 q2) λf s3 q3=>?_);cases f with
  | next =>
   obtain⟨σ3,H3,I3,n3⟩:=q3;obtain⟨m',hm,w3⟩:=hN σ3 H3 n3;exact⟨m',hm,σ3,H3,I3,w3⟩
  | cont =>
   obtain⟨σ3,H3,I3,n3⟩:=q3;obtain⟨m',hm,w3⟩:=hN σ3 H3 n3;exact⟨m',hm,σ3,H3,I3,w3⟩
  | brk=>exact q3
  | ret v=>exact q3
 | false =>
  rw[if_neg b5Y];exact c0m ⟨σ1,H2,I2,q2⟩
end
structure It where
 go:Nat->Hp->Prop
 yld:Nat->Hp->V->Hp->Prop
 stop:Nat->Hp->Prop
def a2F (X:Cx) (pins:List (Addr × Obj)) (H:Hp) (b:Addr):Prop :=
 H b=none/\b≠X.env.locals/\b∉X.fs/\(b∈X.ex\/X.s₀.heap.objs.size<=b)/\(∀x c,X.env.cells.lookup x=some c->c≠b)/\∀p∈X.pn++pins,p.1≠b
theorem Inv.fpOk {X:Cx} {pins:List (Addr × Obj)} {σ:St} {H H':Hp} {s:Shared} {b:Addr} (I:Inv X pins σ H s) (hb:s.heap.objs.size<=b) (hn:H' b=none):a2F X pins H' b:=by
 refine⟨hn,b6o (b5S I.lt hb),I.nofs hb,.inr (b6R I.sz hb),λx c e z=>?_,λp hp z=>?_⟩
 ·obtain⟨v,q⟩:=I.cell x c e;exact absurd (b5S q.lt (by rw[z];exact hb)) (b6A _)
 ·exact absurd (b5S (b5F (I.pin p hp).1) (by rw[z];exact hb)) (b6A _)
structure b5s (P:Program) (w:World) (K:PySem.W.Frag) (tg:Expr) (J:It) (fp:List Addr) (it:Addr) (tn:Nat->Heap->Prop):Prop where
 mem:it∈fp
 obj:∀i h,tn i h->∀b∈fp,∃o,h.get? b=some o/\∀v,o.data≠.cell v
 keep:∀i h h',tn i h->(∀b∈fp,∀o,h.get? b=some o->h'.get? b=some o)->tn i h'
 item:∀(X:Cx),X.prog=P->X.w=w->X.K=K->X.calm=true->∀(i:Nat) (pins:List (Addr × Obj)) (s:Shared) (σ:St) (H:Hp) (E:Value->Shared->Prop),Inv X pins σ H s->(∀b∈fp,a2F X pins H b)->tn i s.heap->J.go i H ->
  wpAny (model P w) X.A (pyNext (.ref it)) (λr s1=>∃u,r=some u /\
   wpAny (model P w) X.A (letOwnedTupleGo tg (.ref it) u) (λ_ s2=>∃x H',Inv X pins σ H' s2/\a0Q x u/\J.yld i H x H'/\tn (i+1) s2.heap/\∀b∈fp,H' b=none) E s1) E s
 done:∀(X:Cx),X.prog=P->X.w=w->X.K=K->X.calm=true->∀(i:Nat) (pins:List (Addr × Obj)) (s:Shared) (σ:St) (H:Hp) (E:Value->Shared->Prop),Inv X pins σ H s->(∀b∈fp,a2F X pins H b)->tn i s.heap->J.stop i H ->
  wpAny (model P w) X.A (pyNext (.ref it)) (λr s1=>r=none/\Inv X pins σ H s1) E s
 self:∀(A:Around) (i:Nat) (s:Shared) (Q:Value->Shared->Prop) (E:Value->Shared->Prop),tn i s.heap->Q (.ref it) s->wpAny (model P w) A (pyIter (.ref it)) Q E s
abbrev TI:=St->Hp->(It->Hp->Prop)->Prop
def PIE (X:Cx) (pins:List (Addr × Obj)) (σ:St) (tg:Expr) (R:It->Hp->Prop) (itv:Value) (s2:Shared):Prop :=
 ∃(it:Addr) (fp:List Addr) (tn:Nat->Heap->Prop) (J:It) (H':Hp),itv=.ref it/\Inv X pins σ H' s2/\b5s X.prog X.w X.K tg J fp it tn/\tn 0 s2.heap/\(∀b∈fp,a2F X pins H' b)/\R J H'
def PI (X:Cx) (tg iter:Expr) (wi:TI):Prop :=
 ∀(pins:List (Addr × Obj)) (s:Shared) (σ:St) (H:Hp) (R:It->Hp->Prop),Inv X pins σ H s->wi σ H R ->
  wpAny (model X.prog X.w) X.A (eval iter X.env) (λv s1=>wpAny (model X.prog X.w) X.A (pyIter v) (PIE X pins σ tg R) X.xe s1) X.xe s
theorem b1l {M:Model} {A:Around} {E:Value->Shared->Prop} {s:Shared} {tg:Expr} {it:Addr} {u:Value} {o:Obj} {n:String} {vs:Array Value} {Q:Unit->Shared->Prop} (ho:s.heap.get? it=some o) (hc:o.cls=.type n) (hd:o.data=.fields vs)
  (hn:["enumerate","zip","dict_itemiterator","dict_reverseitemiterator","odict_iterator","itertools.zip_longest","itertools.pairwise"].contains n=false) (hQ:Q () s):wpAny M A (letOwnedTupleGo tg (.ref it) u) Q E s:=by
 unfold letOwnedTupleGo;cases tg<;>first
  | exact b5A hQ
  | (cases u<;>first
    | exact b5A hQ
    | (refine b5w (c0i ho ?_)
       rw[hc,hd];show wpAny M A (if (["enumerate","zip","dict_itemiterator","dict_reverseitemiterator","odict_iterator","itertools.zip_longest","itertools.pairwise"].contains n&&vs[0]?==some (rawInt _))=true then _ else _) Q E s;rw[if_neg (by intro h;rw[hn,Bool.false_and] at h;cases h)];exact b5A hQ))
def Itl (K:PySem.W.Frag) (a:Addr):It :=
 ⟨λi H=>∃xs x,SqL K H a xs/\xs[i]?=some x,λi H x H'=>H'=H/\∀xs,SqL K H a xs->xs[i]?=some x,λi H=>∃xs,SqL K H a xs/\xs.length<=i⟩
def Itt (K:PySem.W.Frag) (a:Addr):It :=
 ⟨λi H=>∃xs x,SqT K H a xs/\xs[i]?=some x,λi H x H'=>H'=H/\∀xs,SqT K H a xs->xs[i]?=some x,λi H=>∃xs,SqT K H a xs/\xs.length<=i⟩
def Itr (lo:Int) (n:Nat):It:=⟨λi _=>i<n,λi H x H'=>H'=H/\x=.int (lo+i),λi _=>n<=i⟩
theorem a8M {P:Program} {w:World} {K:PySem.W.Frag} {tg:Expr} (a it:Addr):b5s P w K tg (Itl K a) [it] it (λi h=>h.IsListIter it a i) where
 mem:=by simp
 obj:=λi h st b hb=>by
  have e:b=it:=by simpa using hb
  subst e;obtain⟨o,e,c,d⟩:=st;exact⟨o,e,λv z=>by rw[d] at z;cases z⟩
 keep:=λi h h' st k=>st.at λo e=>k it (by simp) o e
 item:=by
  intro X hP hw hK hc i pins s σ H E I hf st hg;subst hP hw hK;obtain⟨xs,x,hq,hx⟩:=hg;obtain⟨its,rv,p,hz⟩:=I.list hq;obtain⟨u,hu,ru⟩:=rv.get hx;obtain⟨f0,f1,f2,f3,f4,f5⟩:=hf it (by simp);refine b9v st p.isList (x:=u) (by simpa using hu) λh' st' sb=>?_;have I1:Inv X pins σ H { s with heap:=h' }:=I.turned (t':=s.toks) (λb o hb e=>(sb.2 b hb).trans e) f0 f1 f3 f4 f5;obtain⟨o,e,c,d⟩:=id st';exact⟨u,rfl,b1l (s:={ s with heap:=h' }) e c d (by decide) ⟨x,H,I1,ru,⟨rfl,λys hy=>by rw[I.list_inj hy hq];exact hx⟩,st',λb hb=>(hf b hb).1⟩⟩
 done:=by
  intro X hP hw hK hc i pins s σ H E I hf st hg;subst hP hw hK;obtain⟨xs,hq,hx⟩:=hg;obtain⟨its,rv,p,hz⟩:=I.list hq;obtain⟨f0,f1,f2,f3,f4,f5⟩:=hf it (by simp);have hl:=rv.length;exact wpAny_pyNext_list_end (I.ok.hd hc) st p.isList (by simp;omega) λh' eb=>⟨rfl,I.turned (t':=s.toks) (λb o hb e=>eb b o hb e) f0 f1 f3 f4 f5⟩
 self:=λ_ _ _ _ _ st h=>wpAny_pyIter_listiter st h
theorem a7P {P:Program} {w:World} {K:PySem.W.Frag} {tg:Expr} (a it:Addr):b5s P w K tg (Itt K a) [it] it (λi h=>h.IsTupleIter it a i) where
 mem:=by simp
 obj:=λi h st b hb=>by
  have e:b=it:=by simpa using hb
  subst e;obtain⟨o,e,c,d⟩:=st;exact⟨o,e,λv z=>by rw[d] at z;cases z⟩
 keep:=λi h h' st k=>st.at λo e=>k it (by simp) o e
 item:=by
  intro X hP hw hK hc i pins s σ H E I hf st hg;subst hP hw hK;obtain⟨xs,x,hq,hx⟩:=hg;obtain⟨its,rv,p,hz⟩:=I.tuple hq;obtain⟨u,hu,ru⟩:=rv.get hx;obtain⟨f0,f1,f2,f3,f4,f5⟩:=hf it (by simp);refine wpAny_pyNext_tuple_item st (show s.heap.IsTuple a its.toArray from p) (x:=u) (by simpa using hu) λh' st' sb=>?_;have I1:Inv X pins σ H { s with heap:=h' }:=I.turned (t':=s.toks) (λb o hb e=>(sb.2 b hb).trans e) f0 f1 f3 f4 f5;obtain⟨o,e,c,d⟩:=id st';exact⟨u,rfl,b1l (s:={ s with heap:=h' }) e c d (by decide) ⟨x,H,I1,ru,⟨rfl,λys hy=>by rw[I.tuple_inj hy hq];exact hx⟩,st',λb hb=>(hf b hb).1⟩⟩
 done:=by
  intro X hP hw hK hc i pins s σ H E I hf st hg;subst hP hw hK;obtain⟨xs,hq,hx⟩:=hg;obtain⟨its,rv,p,hz⟩:=I.tuple hq;obtain⟨f0,f1,f2,f3,f4,f5⟩:=hf it (by simp);have hl:=rv.length;exact wpAny_pyNext_tuple_end (I.ok.hd hc) st (show s.heap.IsTuple a its.toArray from p) (by simp;omega) λh' eb=>⟨rfl,I.turned (t':=s.toks) (λb o hb e=>eb b o hb e) f0 f1 f3 f4 f5⟩
 self:=λ_ _ _ _ _ st h=>wpAny_pyIter_tupleiter st h
theorem a7Q {P:Program} {w:World} {K:PySem.W.Frag} {tg:Expr} (it:Addr) (lo:Int) (n:Nat):b5s P w K tg (Itr lo n) [it] it (λi h=>IsRangeIter h it (lo+(i:Nat)*1) ((n:Int)-(i:Nat)) 1) where
 mem:=by simp
 obj:=λi h st b hb=>by
  have e:b=it:=by simpa using hb
  subst e;exact⟨_,st,λv z=>by
   have z':Data.fields _=Data.cell v:=z;cases z'⟩
 keep:=λi h h' st k=>k it (by simp) _ st
 item:=by
  intro X hP hw hK hc i pins s σ H E I hf st hg;subst hP hw hK;obtain⟨f0,f1,f2,f3,f4,f5⟩:=hf it (by simp);have W:=Walks.range (prog:=X.prog) (w:=X.w) (I.ok.hd hc) it lo 1 n;refine W.item i s _ _ hg st λv h' tk hv st' kk=>?_;obtain⟨t,rfl⟩:=hv;have I1:Inv X pins σ H { s with heap:=h',toks:=tk }:=I.turned (λb o hb e=>kk b o (by simpa using hb) e) f0 f1 f3 f4 f5;refine⟨_,rfl,b1l (s:={ s with heap:=h',toks:=tk }) (n:="range_iterator") st' rfl rfl (by decide) ⟨.int (lo+i),H,I1,⟨t,?_⟩,⟨rfl,rfl⟩,st',λb hb=>(hf b hb).1⟩⟩;rw[Int.mul_one]
 done:=by
  intro X hP hw hK hc i pins s σ H E I hf st hg;subst hP hw hK;obtain⟨f0,f1,f2,f3,f4,f5⟩:=hf it (by simp);exact wpAny_pyNext_range_end (I.ok.hd hc) st (by have:n<=i:=hg;omega) λh' eb=>⟨rfl,I.turned (t':=s.toks) (λb o hb e=>eb b o hb e) f0 f1 f3 f4 f5⟩
 self:=λ_ _ _ _ _ st h=>wpAny_pyIter_rangeiter st h
section
variable {X:Cx} {tg:Expr}
def iList (K:PySem.W.Frag) (tl:TE):TI:=λσ H R=>tl σ H λx H1=>∃a,x=.ref a/\(∃xs,SqL K H1 a xs)/\R (Itl K a) H1
def iTup (K:PySem.W.Frag) (tl:TE):TI:=λσ H R=>tl σ H λx H1=>∃a,x=.ref a/\(∃xs,SqT K H1 a xs)/\R (Itt K a) H1
theorem a2c {l:Expr} {tl:TE} (hl:PE X l tl):PI X tg l (iList X.K tl):=by
 intro pins s σ H R I h;refine thn (hl pins s σ H _ I h) λv s1 ⟨x,H1,I1,r1,q1⟩=>?_;obtain⟨a,e,⟨xs,hq⟩,q⟩:=q1;subst e;cases r1;obtain⟨its,rv,p,hz⟩:=I1.list hq;refine b7v p.isList ?_;refine⟨s1.heap.objs.size,[s1.heap.objs.size],_,_,H1,rfl,I1.kept (t':=s1.toks) λb o e=>b5y _ e,a8M a _,⟨_,b5D _ rfl,rfl,rfl⟩,λb hb=>?_,q⟩;have e:b=s1.heap.objs.size:=by simpa using hb
 subst e;exact I1.fpOk (b5G _) (I1.hok.fresh (b5G _))
theorem a8N {l:Expr} {tl:TE} (hl:PE X l tl):PI X tg l (iTup X.K tl):=by
 intro pins s σ H R I h;refine thn (hl pins s σ H _ I h) λv s1 ⟨x,H1,I1,r1,q1⟩=>?_;obtain⟨a,e,⟨xs,hq⟩,q⟩:=q1;subst e;cases r1;obtain⟨its,rv,p,hz⟩:=I1.tuple hq;refine c0u (show s1.heap.IsTuple a its.toArray from p) ?_;refine⟨s1.heap.objs.size,[s1.heap.objs.size],_,_,H1,rfl,I1.kept (t':=s1.toks) λb o e=>b5y _ e,a7P a _,⟨_,b5D _ rfl,rfl,rfl⟩,λb hb=>?_,q⟩;have e:b=s1.heap.objs.size:=by simpa using hb
 subst e;exact I1.fpOk (b5G _) (I1.hok.fresh (b5G _))
theorem a6M {pins:List (Addr × Obj)} {σ:St} {H:Hp} {s:Shared} {R:It->Hp->Prop} {E:Value->Shared->Prop} {lo hi:Int} {t u v:Tok} {tk:Nat} (I:Inv X pins σ H s) (h1:-(2 ^ 62)<=lo) (h2:lo<2 ^ 62) (h3:-(2 ^ 62)<=hi) (h4:hi<2 ^ 62)
  (q:R (Itr lo (hi-lo).toNat) H):wpAny (model X.prog X.w) X.A (pyIter (.ref s.heap.objs.size)) (PIE X pins σ tg R) E { s with heap:=s.heap.push { cls:=.type "range",data:=.fields #[.int lo t,.int hi u,.int 1 v] },toks:=tk }:=by
 refine wpAny_pyIter_range (IsRange.new ..) (small_one h1 h2 h3 h4) ?_;have I1:Inv X pins σ H { s with heap:=s.heap.push { cls:=.type "range",data:=.fields #[.int lo t,.int hi u,.int 1 v] },toks:=tk }:=I.kept λb o e=>b5y _ e;refine⟨(s.heap.push { cls:=.type "range",data:=.fields #[.int lo t,.int hi u,.int 1 v] }).objs.size,[(s.heap.push { cls:=.type "range",data:=.fields #[.int lo t,.int hi u,.int 1 v] }).objs.size],_,_,H,rfl,
  I1.kept (t':=tk) λb o e=>b5y _ e,a7Q _ lo (hi-lo).toNat,?_,λb hb=>?_,q⟩
 ·have e1:lo+((0:Nat):Int)*1=lo:=by simp
  have e2:(((hi-lo).toNat:Nat):Int)-((0:Nat):Int)=Builtin.Range.rangeSize lo hi 1:=by rw[rangeSize_one];split<;>omega
  show IsRangeIter _ _ (lo+((0:Nat):Int)*1) ((((hi-lo).toNat:Nat):Int)-((0:Nat):Int)) 1;rw[e1,e2];exact b5D _ rfl
 ·have e:b=(s.heap.push { cls:=.type "range",data:=.fields #[.int lo t,.int hi u,.int 1 v] }).objs.size:=by simpa using hb
  subst e;exact I1.fpOk (b5G _) (I1.hok.fresh (b5G _))
def iRng1 (ta:TA):TI:=λσ H R=>ta σ H λvs H1=>∃j:Int,vs=[.int j]/\-(2 ^ 62)<=j/\j<2 ^ 62/\R (Itr 0 j.toNat) H1
def iRng2 (ta:TA):TI:=λσ H R=>ta σ H λvs H1=>∃i j:Int,vs=[.int i,.int j]/\(-(2 ^ 62)<=i/\i<2 ^ 62/\-(2 ^ 62)<=j/\j<2 ^ 62)/\R (Itr i (j-i).toNat) H1
theorem a4U {a:Expr} {ta:TA} {p pos:Pos} (hg:Gl X "range") (hm:X.mg "range"=none) (ha:PA X [a] ta) (hs:starEach [a] X.env=[(false,eval a X.env)]:=by rfl):PI X tg (.Call (.Name "range" p) [a] [] pos) (iRng1 ta):=by
 intro pins s σ H R I h;refine Call_ (a1i I hg hm boot_range (b6Y (thn (ha pos pins s σ H _ I h) λus s1 ⟨vs,H1,I1,r1,q1⟩=>?_) hs rfl));obtain⟨j,e,q1,q2,q⟩:=q1;subst e;cases r1 with
 | cons r rr =>
  cases rr;obtain⟨t,rfl⟩:=r;exact call_range_1 (a6M I1 (by omega) (by omega) q1 q2 (by simpa using q))
theorem a1K {a b:Expr} {ta:TA} {p pos:Pos} (hg:Gl X "range") (hm:X.mg "range"=none) (ha:PA X [a,b] ta) (hs:starEach [a,b] X.env=[(false,eval a X.env),(false,eval b X.env)]:=by rfl) (hs2:starEach [b] X.env=[(false,eval b X.env)]:=by rfl) :
  PI X tg (.Call (.Name "range" p) [a,b] [] pos) (iRng2 ta):=by
 intro pins s σ H R I h;refine Call_ (a1i I hg hm boot_range (b6Y (thn (ha pos pins s σ H _ I h) λus s1 ⟨vs,H1,I1,r1,q1⟩=>?_) (by rw[hs,hs2]) (by rw[hs2];rfl)));obtain⟨i,j,e,⟨q1,q2,q3,q4⟩,q⟩:=q1;subst e;cases r1 with
 | cons r rr =>
  cases rr with
  | cons r' rr =>
   cases rr;obtain⟨t,rfl⟩:=r;obtain⟨t',rfl⟩:=r';exact call_range_2 (a6M I1 q1 q2 q3 q4 q)
def tFor (wi:TI) (g:TG) (tb:TS):TS:=λD σ H=>wi σ H λJ H1=>∃W:Nat->Nat->St->Hp->Prop,(∃m,W 0 m σ H1)/\∀i m σ H,W i m σ H ->
 (J.stop i H/\D.nx σ H)\/(J.go i H/\∃N:St->Hp->Prop,(∀σ' H',N σ' H'->∃m',m'<m/\W (i+1) m' σ' H')/\∀x H',J.yld i H x H'->g x σ H' λσ2 H2=>tb { D with nx:=N,ct:=N,bk:=D.nx } σ2 H2)
def a4V (fp:List Addr) (h:Heap):List (Addr × Obj):=fp.filterMap λb=>(h.get? b).map λo=>(b,o)
theorem a0G {fp:List Addr} {h:Heap} {b:Addr} {o:Obj} (hb:b∈fp) (e:h.get? b=some o):(b,o)∈a4V fp h:=b9o.mpr ⟨b,hb,by rw[e];rfl⟩
theorem a8O {fp:List Addr} {h:Heap} {p:Addr × Obj} (hp:p∈a4V fp h):p.1∈fp/\h.get? p.1=some p.2:=by
 obtain⟨b,hb,e⟩:=b9o.mp hp;cases q:h.get? b with
 | none=>rw[q] at e;cases e
 | some o =>
  rw[q] at e;have e':(b,o)=p:=b5U e;subst e';exact⟨hb,q⟩
theorem Inv.pinned {pins:List (Addr × Obj)} {σ:St} {H:Hp} {s:Shared} {fp:List Addr} (I:Inv X pins σ H s) (hf:∀b∈fp,a2F X pins H b) (ho:∀b∈fp,∃o,s.heap.get? b=some o/\∀v,o.data≠.cell v):Inv X (pins++a4V fp s.heap) σ H s :=
 I.pins_of λp hp=>(b5W.mp hp).elim (λz=>I.pin p (b5N _ z)) λz=>by
  obtain⟨hb,e⟩:=a8O z;obtain⟨f0,f1,f2,_⟩:=hf p.1 hb;obtain⟨o,e',d⟩:=ho p.1 hb;rw[e] at e';cases e';exact⟨e,f0,f1,f2,d⟩
theorem Inv.unpinned {pins pl:List (Addr × Obj)} {σ:St} {H:Hp} {s:Shared} (I:Inv X (pins++pl) σ H s):Inv X pins σ H s:=I.pins_of λp hp=>I.pin p (b5N _ (b6u _ hp))
theorem a1r {iter:Expr} {body:List Stmt} {wi:TI} {g:TG} {tb:TS} {pos:Pos} (hp:PassesOwn (model X.prog X.w) X.A X.env X.xe) (hc:X.calm=true) (hi:PI X tg iter wi) (hg:PG X tg g) (hb:PSs X body tb)
  (hs:∀x,foldedSetIterable iter X.env x=pure x:=by intro _;rfl):PS X (.For tg iter body [] pos) (tFor wi g tb):=by
 intro pins s σ H D I h;refine wpAny_For (thn (hi pins s σ H _ I h) λv s1 h1=>thn h1 λitv s2 h2=>?_) hs;obtain⟨it,fp,tn,J,H2,e,I2,T,st2,f2,W,⟨m0,w0⟩,turn⟩:=h2;subst e;have stat:∀{H':Hp},(∀b∈fp,H' b=none)->∀b∈fp,a2F X pins H' b:=λhn b hb=>⟨hn b hb,(f2 b hb).2⟩
 refine codeAny_forLoop_any (λn s'=>∃i σ' H',Inv X pins σ' H' s'/\tn i s'.heap/\(∀b∈fp,H' b=none)/\W i n σ' H') ?_ m0 ⟨0,σ,H2,I2,st2,λb hb=>(f2 b hb).1,w0⟩;rintro n s3 ⟨i,σ3,H3,I3,st3,fr3,w3⟩;rcases turn i n σ3 H3 w3 with ⟨stop,qn⟩|⟨go,N,hN,step⟩
 ·refine b8m hp (thn (T.done X rfl rfl rfl hc i pins s3 σ3 H3 X.xe I3 (stat fr3) st3 stop) λr s4 ⟨hr,I4⟩=>?_);subst hr;exact c0m ⟨σ3,H3,I4,qn⟩
 ·refine b8m hp (thn (T.item X rfl rfl rfl hc i pins s3 σ3 H3 X.xe I3 (stat fr3) st3 go) λr s4 ⟨u,hr,h4⟩=>?_);subst hr;refine b8m hp (thn h4 λ_ s5 ⟨x,H5,I5,r5,y5,st5,fr5⟩=>?_);have I5':=I5.pinned (stat fr5) (T.obj _ _ st5);refine b8m hp (thn (hg _ s5 σ3 H5 x u _ I5' r5 (step x H5 y5)) λ_ s6 ⟨σ6,H6,I6,q6⟩=>?_);refine b8m hp (thn (hb _ s6 σ6 H6 _ I6 q6) λf s7 q7=>?_);have again:∀{σ7:St} {H7:Hp},Inv X (pins++a4V fp s5.heap) σ7 H7 s7->N σ7 H7->∃m,m<n/\∃i σ' H',Inv X pins σ' H' s7/\tn i s7.heap/\(∀b∈fp,H' b=none)/\W i m σ' H':=λ{σ7 H7} I7 n7=>by
   obtain⟨m',hm,w7⟩:=hN σ7 H7 n7;refine⟨m',hm,i+1,σ7,H7,I7.unpinned,T.keep _ _ _ st5 λb hb o e=>(I7.pin (b,o) (b5N _ (b5N _ (a0G hb e)))).1,λb hb=>?_,w7⟩;obtain⟨o,e,d⟩:=T.obj _ _ st5 b hb;exact(I7.pin (b,o) (b5N _ (b5N _ (a0G hb e)))).2.1
  cases f with
  | next=>obtain⟨σ7,H7,I7,n7⟩:=q7;exact again I7 n7
  | cont=>obtain⟨σ7,H7,I7,n7⟩:=q7;exact again I7 n7
  | brk=>obtain⟨σ7,H7,I7,q7⟩:=q7;exact⟨σ7,H7,I7.unpinned,q7⟩
  | ret v=>obtain⟨x7,σ7,H7,I7,r7,q7⟩:=q7;exact⟨x7,σ7,H7,I7.unpinned,r7,q7⟩
end
theorem a2J {K:PySem.W.Frag} {a:Addr} {xs:List V} {g:TG} {tb:TS} {D:b1j} {σ:St} {H:Hp} (Pv:Nat->St->Hp->Prop) (h0:Pv 0 σ H) (hl:∀i σ H,i<=xs.length->Pv i σ H->SqL K H a xs)
  (hs:∀i x σ H,xs[i]?=some x->Pv i σ H->g x σ H λσ2 H2=>tb { D with nx:=Pv (i+1),ct:=Pv (i+1),bk:=D.nx } σ2 H2) (hd:∀σ H,Pv xs.length σ H->D.nx σ H) :
  ∃W:Nat->Nat->St->Hp->Prop,(∃m,W 0 m σ H)/\∀i m σ H,W i m σ H ->
   ((Itl K a).stop i H/\D.nx σ H)\/((Itl K a).go i H/\∃N:St->Hp->Prop,(∀σ' H',N σ' H'->∃m',m'<m/\W (i+1) m' σ' H')/\∀x H',(Itl K a).yld i H x H'->g x σ H' λσ2 H2=>tb { D with nx:=N,ct:=N,bk:=D.nx } σ2 H2):=by
 refine⟨λi m σ H=>m=xs.length-i/\i<=xs.length/\Pv i σ H,⟨xs.length,by simp,b6e _,h0⟩,?_⟩;rintro i m σ H ⟨rfl,hi,p⟩;have q:=hl i σ H hi p;by_cases hlt:i<xs.length
 ·refine .inr ⟨⟨xs,xs[i],q,by simp[hlt]⟩,Pv (i+1),λσ' H' p'=>⟨xs.length-(i+1),by omega,rfl,hlt,p'⟩,λx H' y=>?_⟩;obtain⟨e,y⟩:=y;subst e;exact hs i x σ _ (y xs q) p
 ·have e:i=xs.length:=by omega
  subst e;exact .inl ⟨⟨xs,q,b5G _⟩,hd σ H p⟩
theorem a8P {K:PySem.W.Frag} {a:Addr} {xs:List V} {g:TG} {tb:TS} {D:b1j} {σ:St} {H:Hp} (Pv:Nat->St->Hp->Prop) (h0:Pv 0 σ H) (hl:∀i σ H,i<=xs.length->Pv i σ H->SqT K H a xs)
  (hs:∀i x σ H,xs[i]?=some x->Pv i σ H->g x σ H λσ2 H2=>tb { D with nx:=Pv (i+1),ct:=Pv (i+1),bk:=D.nx } σ2 H2) (hd:∀σ H,Pv xs.length σ H->D.nx σ H) :
  ∃W:Nat->Nat->St->Hp->Prop,(∃m,W 0 m σ H)/\∀i m σ H,W i m σ H ->
   ((Itt K a).stop i H/\D.nx σ H)\/((Itt K a).go i H/\∃N:St->Hp->Prop,(∀σ' H',N σ' H'->∃m',m'<m/\W (i+1) m' σ' H')/\∀x H',(Itt K a).yld i H x H'->g x σ H' λσ2 H2=>tb { D with nx:=N,ct:=N,bk:=D.nx } σ2 H2):=by
 refine⟨λi m σ H=>m=xs.length-i/\i<=xs.length/\Pv i σ H,⟨xs.length,by simp,b6e _,h0⟩,?_⟩;rintro i m σ H ⟨rfl,hi,p⟩;have q:=hl i σ H hi p;by_cases hlt:i<xs.length
 ·refine .inr ⟨⟨xs,xs[i],q,by simp[hlt]⟩,Pv (i+1),λσ' H' p'=>⟨xs.length-(i+1),by omega,rfl,hlt,p'⟩,λx H' y=>?_⟩;obtain⟨e,y⟩:=y;subst e;exact hs i x σ _ (y xs q) p
 ·have e:i=xs.length:=by omega
  subst e;exact .inl ⟨⟨xs,q,b5G _⟩,hd σ H p⟩
theorem a1L {lo:Int} {n:Nat} {g:TG} {tb:TS} {D:b1j} {σ:St} {H:Hp} (Pv:Nat->St->Hp->Prop) (h0:Pv 0 σ H)
  (hs:∀i σ H,i<n->Pv i σ H->g (.int (lo+i)) σ H λσ2 H2=>tb { D with nx:=Pv (i+1),ct:=Pv (i+1),bk:=D.nx } σ2 H2) (hd:∀σ H,Pv n σ H->D.nx σ H) :
  ∃W:Nat->Nat->St->Hp->Prop,(∃m,W 0 m σ H)/\∀i m σ H,W i m σ H ->
   ((Itr lo n).stop i H/\D.nx σ H)\/((Itr lo n).go i H/\∃N:St->Hp->Prop,(∀σ' H',N σ' H'->∃m',m'<m/\W (i+1) m' σ' H')/\∀x H',(Itr lo n).yld i H x H'->g x σ H' λσ2 H2=>tb { D with nx:=N,ct:=N,bk:=D.nx } σ2 H2):=by
 refine⟨λi m σ H=>m=n-i/\i<=n/\Pv i σ H,⟨n,by simp,b6e _,h0⟩,?_⟩;rintro i m σ H ⟨rfl,hi,p⟩;by_cases hlt:i<n
 ·refine .inr ⟨hlt,Pv (i+1),λσ' H' p'=>⟨n-(i+1),by omega,rfl,hlt,p'⟩,λx H' y=>?_⟩;obtain⟨e,y⟩:=y;subst e y;exact hs i σ _ hlt p
 ·have e:i=n:=by omega
  subst e;exact .inl ⟨b5G _,hd σ H p⟩
abbrev R2:=V->V->Hp->VK->Prop
def OpR (X:Cx) (f:Value->Value->Sem Value) (r:R2):Prop :=
 ∀(pins:List (Addr × Obj)) (s:Shared) (σ:St) (H:Hp) (x y:V) (v u:Value) (Q:VK),Inv X pins σ H s->a0Q x v->a0Q y u->r x y H Q ->
  wpAny (model X.prog X.w) X.A (f v u) (EP X pins σ Q) X.xe s
def UnR (X:Cx) (f:Value->Sem Value) (r:V->Hp->VK->Prop):Prop :=
 ∀(pins:List (Addr × Obj)) (s:Shared) (σ:St) (H:Hp) (x:V) (v:Value) (Q:VK),Inv X pins σ H s->a0Q x v->r x H Q ->
  wpAny (model X.prog X.w) X.A (f v) (EP X pins σ Q) X.xe s
def a2w (X:Cx) (f:Value) (r:List V->Hp->VK->Prop):Prop :=
 ∀(pins:List (Addr × Obj)) (s:Shared) (σ:St) (H:Hp) (xs:List V) (us:List Value) (Q:VK),Inv X pins σ H s->a0w xs us->r xs H Q ->
  wpAny (model X.prog X.w) X.A (call f us) (EP X pins σ Q) X.xe s
def TruR (X:Cx) (r:V->Hp->(Bool->Hp->Prop)->Prop):Prop :=
 ∀(pins:List (Addr × Obj)) (s:Shared) (σ:St) (H:Hp) (x:V) (v:Value) (Q:Bool->Hp->Prop),Inv X pins σ H s->a0Q x v->r x H Q ->
  wpAny (model X.prog X.w) X.A (truthy v) (TP X pins σ Q) X.xe s
def tOp (r:R2) (ta tb:TE):TE:=λσ H Q=>ta σ H λx H1=>tb σ H1 λy H2=>r x y H2 Q
def tUn (r:V->Hp->VK->Prop) (ta:TE):TE:=λσ H Q=>ta σ H λx H1=>r x H1 Q
def rI (C:Int->Int->Prop) (g:Int->Int->V):R2:=λx y H Q=>∃i j,x=.int i/\y=.int j/\C i j/\Q (g i j) H
def rI0 (g:Int->Int->V):R2:=λx y H Q=>∃i j,x=.int i/\y=.int j/\Q (g i j) H
def rU (g:Int->V):V->Hp->VK->Prop:=λx H Q=>∃i,x=.int i/\Q (g i) H
section
variable {X:Cx} {a b c:Expr} {ta tb tc:TE} {pos:Pos}
theorem binT (ha:PE X a ta) (hb:PE X b tb) {pins:List (Addr × Obj)} {s:Shared} {σ:St} {H:Hp} {R:V->V->Hp->Prop} (I:Inv X pins σ H s)
  (h:ta σ H λx H1=>tb σ H1 λy H2=>R x y H2) {Q:Value->Shared->Prop} {f:Value->Value->Sem Value}
  (hf:∀v u s2 x y H2,Inv X pins σ H2 s2->a0Q x v->a0Q y u->R x y H2->wpAny (model X.prog X.w) X.A (f v u) Q X.xe s2) :
  wpAny (model X.prog X.w) X.A (eval a X.env) (λv s₁=>wpAny (model X.prog X.w) X.A (eval b X.env) (λu s₂=>wpAny (model X.prog X.w) X.A (f v u) Q X.xe s₂) X.xe s₁) X.xe s:=by
 refine thn (ha pins s σ H _ I h) λv s1 ⟨x,H1,I1,r1,q1⟩=>?_;refine thn (hb pins s1 σ H1 _ I1 q1) λu s2 ⟨y,H2,I2,r2,q2⟩=>?_;exact hf v u s2 x y H2 I2 r1 r2 q2
theorem a0o {op:Operator} {r:R2} (ho:OpR X (binaryOp op) r) (ha:PE X a ta) (hb:PE X b tb):PE X (.BinOp a op b pos) (tOp r ta tb):=by
 intro pins s σ H Q I h;exact wpAny_BinOp (binT ha hb I h λv u s2 x y H2 I2 rx ry q=>ho pins s2 σ H2 x y v u Q I2 rx ry q)
theorem a5T {op:UnaryOp} {r:V->Hp->VK->Prop} (ho:UnR X (unaryOp op) r) (ha:PE X a ta):PE X (.UnaryOp op a pos) (tUn r ta):=by
 intro pins s σ H Q I h;exact UnaryOp_ (thn (ha pins s σ H _ I h) λv s1 ⟨x,H1,I1,r1,q1⟩=>ho pins s1 σ H1 x v Q I1 r1 q1)
theorem opI {f:Value->Value->Sem Value} {C:Int->Int->Prop} {g:Int->Int->Int}
  (rule:∀(i j:Int) (t u:Tok) (s:Shared) (Q:Value->Shared->Prop) (E:Value->Shared->Prop),C i j->Q (.int (g i j) s.toks) { s with toks:=s.toks+1 }->wpAny (model X.prog X.w) X.A (f (.int i t) (.int j u)) Q E s) :
  OpR X f (rI C λi j=>.int (g i j)):=by
 intro pins s σ H x y v u Q I rx ry h;obtain⟨i,j,rfl,rfl,hc,q⟩:=h;obtain⟨t,rfl⟩:=rx;obtain⟨t',rfl⟩:=ry;exact rule i j t t' s _ _ hc ⟨.int (g i j),H,I.tok _,⟨_,rfl⟩,q⟩
theorem opI0 {f:Value->Value->Sem Value} {g:Int->Int->Int}
  (rule:∀(i j:Int) (t u:Tok) (s:Shared) (Q:Value->Shared->Prop) (E:Value->Shared->Prop),Q (.int (g i j) s.toks) { s with toks:=s.toks+1 }->wpAny (model X.prog X.w) X.A (f (.int i t) (.int j u)) Q E s) :
  OpR X f (rI0 λi j=>.int (g i j)):=by
 intro pins s σ H x y v u Q I rx ry h;obtain⟨i,j,rfl,rfl,q⟩:=h;obtain⟨t,rfl⟩:=rx;obtain⟨t',rfl⟩:=ry;exact rule i j t t' s _ _ ⟨.int (g i j),H,I.tok _,⟨_,rfl⟩,q⟩
theorem opB0 {f:Value->Value->Sem Value} {g:Int->Int->Bool}
  (rule:∀(i j:Int) (t u:Tok) (s:Shared) (Q:Value->Shared->Prop) (E:Value->Shared->Prop),Q (.bool (g i j)) s->wpAny (model X.prog X.w) X.A (f (.int i t) (.int j u)) Q E s) :
  OpR X f (rI0 λi j=>.bl (g i j)):=by
 intro pins s σ H x y v u Q I rx ry h;obtain⟨i,j,rfl,rfl,q⟩:=h;obtain⟨t,rfl⟩:=rx;obtain⟨t',rfl⟩:=ry;exact rule i j t t' s _ _ ⟨.bl (g i j),H,I,rfl,q⟩
def CDiv (i j:Int):Prop:=0<j/\j<1073741824
def CPow (i j:Int):Prop:=0<=j/\j<=1000000/\i.natAbs<2 ^ 64
theorem a0C:OpR X (binaryOp .Add) (rI0 λi j=>.int (i+j)):=opI0 λ_ _ _ _ _ _ _ q=>add_int q
theorem a1M:OpR X (binaryOp .Sub) (rI0 λi j=>.int (i-j)):=opI0 λ_ _ _ _ _ _ _ q=>sub_int q
theorem a5U:OpR X (binaryOp .FloorDiv) (rI CDiv λi j=>.int (i / j)):=opI λi j _ _ _ _ _ hc q=>by
 have h1:(0:Int)<j:=hc.1;have h2:j<1073741824:=hc.2;exact floordiv_int (by omega) (by rw[Int.fdiv_eq_ediv_of_nonneg i (by omega)];exact q) (.inl (PyProof.noPylong_small (by omega)))
theorem a1s:OpR X (binaryOp .Mod) (rI (λ_ j=>0<j) λi j=>.int (i % j)):=opI λi j _ _ _ _ _ hc q=>by
 have h1:(0:Int)<j:=hc;exact mod_int' (by omega) (by rw[Int.fmod_eq_emod_of_nonneg i (by omega)];exact q)
theorem a8Q:OpR X (binaryOp .Pow) (rI CPow λi j=>.int (i ^ j.toNat)):=opI λ_ _ _ _ _ _ _ hc q=>pow_int_small hc.1 hc.2.1 hc.2.2 q
theorem unI {f:Value->Sem Value} {g:Int->Int}
  (rule:∀(i:Int) (t:Tok) (s:Shared) (Q:Value->Shared->Prop) (E:Value->Shared->Prop),Q (.int (g i) s.toks) { s with toks:=s.toks+1 }->wpAny (model X.prog X.w) X.A (f (.int i t)) Q E s) :
  UnR X f (rU λi=>.int (g i)):=by
 intro pins s σ H x v Q I rx h;obtain⟨i,rfl,q⟩:=h;obtain⟨t,rfl⟩:=rx;exact rule i t s _ _ ⟨.int (g i),H,I.tok _,⟨_,rfl⟩,q⟩
theorem a2S:UnR X (unaryOp .USub) (rU λi=>.int (-i)):=unI λ_ _ _ _ _ q=>neg_int q
end
def scal:V->V->Bool
 | .non,.non=>true | .non,.int _=>true | .int _,.non=>true | .non,.bl _=>true | .bl _,.non=>true | .non,.str _=>true | .str _,.non=>true
 | .int _,.int _=>true | .bl _,.bl _=>true | .str _,.str _=>true | .byt _,.byt _=>true
 | .int _,.str _=>true | .str _,.int _=>true | .bl _,.str _=>true | .str _,.bl _=>true
 | _,_=>false
def rEq:R2:=λx y H Q=>scal x y=true/\Q (.bl (decide (x=y))) H
def rNe:R2:=λx y H Q=>scal x y=true/\Q (.bl (!decide (x=y))) H
theorem a8R {i j:Int}:decide (V.int i=V.int j)=(i==j):=by
 rw[b8L];simp
theorem b2Q {i j:Bool}:decide (V.bl i=V.bl j)=(i==j):=by
 rw[b8L];simp
theorem a8S {i j:Str}:decide (V.str i=V.str j)=(i==j):=by
 rw[b8L];simp
theorem a8T {i j:Array UInt8}:decide (V.byt i=V.byt j)=(i.toList==j.toList):=by
 rw[b8L];cases i;cases j;simp
section
variable {X:Cx} {a b c:Expr} {ta tb tc:TE} {pos:Pos}
theorem a0E {pins:List (Addr × Obj)} {σ:St} {H:Hp} {s:Shared} {Q:VK} {k k':Bool} (I:Inv X pins σ H s) (q:Q (.bl k) H) (e:k=k'):EP X pins σ Q (.bool k') s:=by
 subst e;exact⟨.bl k,H,I,rfl,q⟩
theorem a2d:OpR X (compareOp .Eq) rEq:=by
 intro pins s σ H x y v u Q I rx ry h;obtain⟨hs,q⟩:=h;cases x with
 | non =>
  cases rx;cases y with
  | non=>cases ry;exact PySem.EqNone.eq_none_none (a0E I q (by simp))
  | bl j=>cases ry;exact PySem.EqNone.eq_none_bool (a0E I q (by simp))
  | int j=>obtain⟨t',rfl⟩:=ry;exact PySem.EqNone.eq_none_int (a0E I q (by simp))
  | str j=>obtain⟨t',rfl⟩:=ry;exact PySem.EqNone.eq_none_str (a0E I q (by simp))
  | _=>exact absurd (show false=true from hs) b5Y
 | bl i =>
  cases rx;cases y with
  | non=>cases ry;exact PySem.EqNone.eq_bool_none (a0E I q (by simp))
  | bl j=>cases ry;exact eq_bool (a0E I q b2Q)
  | str j=>obtain⟨t',rfl⟩:=ry;exact PySem.EqMixed.eq_bool_str (a0E I q (by simp))
  | _=>exact absurd (show false=true from hs) b5Y
 | int i =>
  obtain⟨t,rfl⟩:=rx;cases y with
  | non=>cases ry;exact PySem.EqNone.eq_int_none (a0E I q (by simp))
  | int j=>obtain⟨t',rfl⟩:=ry;exact eq_int (a0E I q a8R)
  | str j=>obtain⟨t',rfl⟩:=ry;exact PySem.EqMixed.eq_int_str (a0E I q (by simp))
  | _=>exact absurd (show false=true from hs) b5Y
 | str i =>
  obtain⟨t,rfl⟩:=rx;cases y with
  | non=>cases ry;exact PySem.EqNone.eq_str_none (a0E I q (by simp))
  | bl j=>cases ry;exact PySem.EqMixed.eq_str_bool (a0E I q (by simp))
  | int j=>obtain⟨t',rfl⟩:=ry;exact PySem.EqMixed.eq_str_int (a0E I q (by simp))
  | str j=>obtain⟨t',rfl⟩:=ry;exact eq_str (a0E I q a8S)
  | _=>exact absurd (show false=true from hs) b5Y
 | byt i =>
  obtain⟨t,rfl⟩:=rx;cases y with
  | byt j=>obtain⟨t',rfl⟩:=ry;exact PySem.W.eq_bytes (a0E I q a8T)
  | _=>exact absurd (show false=true from hs) b5Y
 | _=>cases y<;>exact absurd (show false=true from hs) b5Y
theorem op_ne:OpR X (compareOp .NotEq) rNe:=by
 intro pins s σ H x y v u Q I rx ry h;obtain⟨hs,q⟩:=h;cases x with
 | non =>
  cases rx;cases y with
  | non=>cases ry;exact PySem.EqNone.ne_none_none (a0E I q (by simp))
  | bl j=>cases ry;exact PySem.EqNone.ne_none_bool (a0E I q (by simp))
  | int j=>obtain⟨t',rfl⟩:=ry;exact PySem.EqNone.ne_none_int (a0E I q (by simp))
  | str j=>obtain⟨t',rfl⟩:=ry;exact PySem.EqNone.ne_none_str (a0E I q (by simp))
  | _=>exact absurd (show false=true from hs) b5Y
 | bl i =>
  cases rx;cases y with
  | non=>cases ry;exact PySem.EqNone.ne_bool_none (a0E I q (by simp))
  | bl j=>cases ry;exact ne_bool (a0E I q (b7m not b2Q))
  | str j=>obtain⟨t',rfl⟩:=ry;exact PySem.EqMixed.ne_bool_str (a0E I q (by simp))
  | _=>exact absurd (show false=true from hs) b5Y
 | int i =>
  obtain⟨t,rfl⟩:=rx;cases y with
  | non=>cases ry;exact PySem.EqNone.ne_int_none (a0E I q (by simp))
  | int j=>obtain⟨t',rfl⟩:=ry;exact ne_int (a0E I q (b7m not a8R))
  | str j=>obtain⟨t',rfl⟩:=ry;exact PySem.EqMixed.ne_int_str (a0E I q (by simp))
  | _=>exact absurd (show false=true from hs) b5Y
 | str i =>
  obtain⟨t,rfl⟩:=rx;cases y with
  | non=>cases ry;exact PySem.EqNone.ne_str_none (a0E I q (by simp))
  | bl j=>cases ry;exact PySem.EqMixed.ne_str_bool (a0E I q (by simp))
  | int j=>obtain⟨t',rfl⟩:=ry;exact PySem.EqMixed.ne_str_int (a0E I q (by simp))
  | str j=>obtain⟨t',rfl⟩:=ry;exact ne_str (a0E I q (b7m not a8S))
  | _=>exact absurd (show false=true from hs) b5Y
 | byt i =>
  obtain⟨t,rfl⟩:=rx;cases y with
  | byt j=>obtain⟨t',rfl⟩:=ry;exact PySem.W.ne_bytes (a0E I q (b7m not a8T))
  | _=>exact absurd (show false=true from hs) b5Y
 | _=>cases y<;>exact absurd (show false=true from hs) b5Y
theorem a8U:OpR X (compareOp .Lt) (rI0 λi j=>.bl (decide (i<j))):=opB0 λ_ _ _ _ _ _ _ q=>lt_int q
theorem op_le:OpR X (compareOp .LtE) (rI0 λi j=>.bl (decide (i<=j))):=opB0 λ_ _ _ _ _ _ _ q=>le_int q
theorem b3G:OpR X (compareOp .Gt) (rI0 λi j=>.bl (decide (j<i))):=opB0 λ_ _ _ _ _ _ _ q=>gt_int q
def isObj:HO->Bool
 | .lst _=>true
 | .ins _ _ _=>true
 | _=>false
theorem nomark (b:Expr) {op:CmpOp} (h:op≠.In:=by decide) (h2:op≠.NotIn:=by decide):behindInMarks op b=false:=by
 have e1:(op==CmpOp.In)=false:=by cases op<;>first|rfl|exact absurd rfl h
 have e2:(op==CmpOp.NotIn)=false:=by cases op<;>first|rfl|exact absurd rfl h2
 cases b<;>simp[behindInMarks,e1,e2]
theorem a8V {op:CmpOp} {r:R2} (ho:OpR X (compareOp op) r) (ha:PE X a ta) (hb:PE X b tb) (hm:behindInMarks op b=false):PE X (.Compare a [op] [b] pos) (tOp r ta tb):=by
 intro pins s σ H Q I h;exact wpAny_Compare1 (binT ha hb I h λv u s2 x y H2 I2 rx ry q=>ho pins s2 σ H2 x y v u Q I2 rx ry q) hm
def tTest (t:TE):TT:=λσ H Q=>t σ H λx H'=>∃k,x=.bl k/\Q k H'
theorem a0D {op:CmpOp} {r:R2} (ho:OpR X (compareOp op) r) (ha:PE X a ta) (hb:PE X b tb) (hm:behindInMarks op b=false):PT X (.Compare a [op] [b] pos) (tTest (tOp r ta tb)):=by
 intro pins s σ H Q I h;refine wpAny_isTrue_Compare1 (thn (ha pins s σ H _ I h) λv s1 ⟨x,H1,I1,r1,q1⟩=>thn (hb pins s1 σ H1 _ I1 q1) λu s2 ⟨y,H2,I2,r2,q2⟩ =>
  thn (ho pins s2 σ H2 x y v u _ I2 r1 r2 q2) λc s3 ⟨z,H3,I3,r3,k,e,q3⟩=>?_) hm
 subst e;cases r3;exact b7E ⟨H3,I3,q3⟩
def tChain (r r':R2) (ta tb tc:TE):TE:=λσ H Q=>ta σ H λx H1=>tb σ H1 λy H2=>r x y H2 λz H3=>∃k,z=.bl k /\
 (if k=true then tc σ H3 λw' H4=>r' y w' H4 Q else Q (.bl false) H3)
theorem b1m {op op':CmpOp} {r r':R2} (ho:OpR X (compareOp op) r) (ho':OpR X (compareOp op') r') (ha:PE X a ta) (hb:PE X b tb) (hc:PE X c tc)
  (hm:lastMarks [op,op'] [b,c]=false:=by with_unfolding_all rfl):PE X (.Compare a [op,op'] [b,c] pos) (tChain r r' ta tb tc):=by
 intro pins s σ H Q I h;refine Compare_chain (thn (ha pins s σ H _ I h) λv s1 ⟨x,H1,I1,r1,q1⟩=>chain_link (thn (hb pins s1 σ H1 _ I1 q1) λu s2 ⟨y,H2,I2,r2,q2⟩ =>
  thn (ho pins s2 σ H2 x y v u _ I2 r1 r2 q2) λd s3 ⟨z,H3,I3,r3,k,e,q3⟩=>?_)) hm
 subst e;cases r3;refine b7E ?_;cases k with
 | false=>exact ite_ff ⟨.bl false,H3,I3,rfl,q3⟩
 | true=>exact ite_tt (chain_last (thn (hc pins s3 σ H3 _ I3 q3) λw' s4 ⟨z',H4,I4,r4,q4⟩=>ho' pins s4 σ H4 y z' u w' Q I4 r2 r4 q4))
def TruV (K:PySem.W.Frag) (x:V) (H:Hp) (k:Bool):Prop :=
 match x with
 | .non=>k=false
 | .bl b=>k=b
 | .int i=>k=(i !=0)
 | .str y=>y.length<=sizeLine/\k=((y.length:Int)!=0)
 | .byt y=>y.size<=sizeLine/\k=((y.size:Int)!=0)
 | .ref p=>(∃xs,SqL K H p xs/\k=!xs.isEmpty)\/(∃xs,SqT K H p xs/\k=!xs.isEmpty)\/∃kvs,H p=some (.dK kvs)/\k=!kvs.isEmpty
 | _=>False
theorem a6N:(sizeLine:Nat)<2 ^ 63:=by rw[b6l];decide
theorem a1Z {x:V} {us:List Value} (r:a0w [x] us):∃u,us=[u]/\a0Q x u:=by
 cases r with
 | cons r1 r2=>cases r2;exact⟨_,rfl,r1⟩
theorem vals2 {x y:V} {us:List Value} (r:a0w [x,y] us):∃u w',us=[u,w']/\a0Q x u/\a0Q y w':=by
 cases r with
 | cons r1 r2 =>
  cases r2 with
  | cons r3 r4=>cases r4;exact⟨_,_,rfl,r1,r3⟩
theorem a8W (hc:X.calm=true):a2w X (.builtin "min") (λxs H Q=>∃i j,xs=[.int i,.int j]/\Q (.int (if j<i then j else i)) H):=by
 intro pins s σ H xs us Q I r h;obtain⟨i,j,rfl,q⟩:=h;obtain⟨u,w',rfl,⟨t,rfl⟩,⟨t',rfl⟩⟩:=vals2 r;refine min_two_ints (I.ok.hd hc) λh' tk k=>⟨_,H,I.kept k,?_,q⟩
 by_cases hj:j<i
 ·rw[if_pos hj,if_pos hj];exact⟨_,rfl⟩
 ·rw[if_neg hj,if_neg hj];exact⟨_,rfl⟩
def LenV (K:PySem.W.Frag) (x:V) (H:Hp) (n:Nat):Prop :=
 match x with
 | .str y=>y.length<=sizeLine/\n=y.length
 | .byt y=>y.size<=sizeLine/\n=y.size
 | .ref p=>(∃xs,SqL K H p xs/\n=xs.length)\/∃xs,SqT K H p xs/\n=xs.length
 | _=>False
end
structure b3H (h:Heap) (x dx C:Addr) (mA:Str->Option Value):Prop where
 obj:h.get? x=some (PySem.W.instObj C dx)
 ns:h.Ns1 dx mA
 ne:dx≠x
theorem a8X {h:Heap} {dx:Addr} {mA:Str->Option Value} (n:h.Ns1 dx mA):∃od,h.get? dx=some od/\∀name,PySem.W.lookIn name od=some (mA name):=by
 obtain⟨o,es,ep,ho,hd,hk,_,hm⟩:=n;refine⟨o,ho,λname=>?_⟩;have e:=hm name;unfold nsFind findBy at e;rw[<-Array.find?_toList] at e;unfold PySem.W.lookIn;rw[hd];dsimp only;split
 ·rename_i y q;rw[q] at e;exact b7m some e
 ·rename_i q;rw[q] at e;have a:es.toList.any (·.refKey)=false:=by
   rw[List.any_eq_false];intro y hy;obtain⟨z,t,hkey⟩:=hk y (Array.mem_toList_iff.mp hy);simp[DictEntry.refKey,hkey]
  have a':¬es.toList.any (·.refKey)=true:=by rw[a];exact b5Y
  rw[if_neg a'];exact b7m some e
theorem b3H.look {h:Heap} {x dx C:Addr} {mA:Str->Option Value} (I:b3H h x dx C mA):∃od,PySem.W.InstAt h x (PySem.W.instObj C dx) C (some od)/\∀name,PySem.W.lookIn name od=some (mA name) :=
 let ⟨od,ho,hl⟩:=a8X I.ns
 ⟨od,⟨I.obj,rfl,rfl,ho⟩,hl⟩
section
variable {prog:Program} {w:World} {A:Around} {E:Value->Shared->Prop} {s:Shared} {K:PySem.W.Frag} {x dx C f:Addr} {mA:Str->Option Value} {name:Str} {v:Value}
theorem b3I {expr:Bool} {Q:Value->Shared->Prop} (X:K.In s.heap) (I:b3H s.heap x dx C mA) (hg:PySem.W.plainGet K C name=true) (hh:PySem.W.hasDictIn K C=true)
  (ha:PySem.W.findIn K (.ref C) name=some none) (hv:mA name=some v) (hv':PySem.W.handedIn v=true) (h:Q v { s with toks:=s.toks+1 }) :
  wpAny (model prog w) A (getAttr (.ref x) name expr) Q E s:=by
 obtain⟨od,J,hl⟩:=I.look;exact PySem.W.get_value X J (c0n hg).1 (PySem.W.findObj_own hh ha rfl (by rw[hl,hv])) hv' h
theorem b1n {pl:Sem Bool} {Q:Value × List Value->Shared->Prop} (X:K.In s.heap) (I:b3H s.heap x dx C mA) (hg:PySem.W.plainGet K C name=true)
  (hf:PySem.W.findIn K (.ref C) name=some (some (.ref f))) (ht:PySem.W.isFn K (.ref f)=true) (hv:mA name=none) (h:Q (.ref f,[.ref x]) s) :
  wpAny (model prog w) A (getMethod (.ref x) name pl) Q E s:=by
 obtain⟨od,J,hl⟩:=I.look;exact PySem.W.method_fn X J (c0n hg).1 (c0n hg).2 hf (c0F.mp ht) (by show(PySem.W.lookIn name od).map (·.isSome)=some false;rw[hl,hv];rfl) h
theorem b3J {ns:List Str} {Q:Unit->Shared->Prop} (X:K.In s.heap) (I:b3H s.heap x dx C mA)
  (hs:PySem.W.findIn K (.ref C) "__setattr__"=some (some (.builtin "object.__setattr__"))) (hp:PySem.W.plainOver K C=true) (ht:PySem.W.takerIn K C name=some none) (hh:PySem.W.hasDictIn K C=true)
  (hw:PySem.Within mA ns) (hsz:ns.length<=sizeLine)
  (h:∀h',b3H h' x dx C (λy=>if y=name then some v else mA y)->Heap.SameBut dx s.heap h'->Q () { s with heap:=h',toks:=s.toks+2 }) :
  wpAny (model prog w) A (setAttr (.ref x) name v) Q E s:=by
 obtain⟨od,J,hl⟩:=I.look;refine PySem.W.set_plain X J hs (PySem.W.osa_open (s:={ s with toks:=s.toks+1 }) (r:=none) X J hp ht λb=>?_);obtain⟨cd,hc,hd'⟩:=PySem.W.any_some hh;have hx:s.heap.get? x=some ⟨.ref C,some dx,.plain,#[]⟩:=I.obj;refine b5w (b5A (b5w (b5w (wpAny_loadPart hx (b5w (PySem.W.Looks.here (s:={ s with toks:=s.toks+1 }) (PySem.W.looks_clsIn X hc) ?_))))));rw[hd'];refine b5A (a:=some dx) (b5w (b5A (b5w ?_)));refine wpAny_nsSet1 (s:={ s with toks:=s.toks+1 }) I.ns λh' hn2 hs2=>?_;obtain⟨oD,esD,epD,hoD,hdD,hcD⟩:=hn2.count (PySem.Within.cons name v hw);refine b5w (wpAny_lookBehind hoD (by rw[hdD];exact pastItsLine_dict (b6R hcD (by rw[b5T];omega))) ?_);exact b5A (h _ ⟨(hs2.2 _ (Ne.symm I.ne)).trans I.obj,hn2,I.ne⟩ hs2)
theorem b1o {R:Result->Shared->Prop} {vs:List Value} {kw:List (Str × Value)} (X:K.In s.heap) (hm:PySem.W.makesIn K C=true)
  (hi:PySem.W.findIn K (.ref C) "__init__"=some (some (.ref f))) (hf:PySem.W.typeIn K (.ref f)=some (.type "function"))
  (h:codeAny (model prog w) (A.under (.builtin "type.__call__" ⟨.ref C::vs,kw⟩)) (.call (.ref f) ⟨.ref (s.heap.objs.size+1)::vs,kw⟩) (PySem.W.InitBack (s.heap.objs.size+1) R)
   { s with heap:=(s.heap.push PySem.W.emptyDict).push (PySem.W.instObj C s.heap.objs.size) }) :
  codeAny (model prog w) A (.call (.ref C) ⟨vs,kw⟩) R s:=by
 obtain⟨hh,g,d,t,os⟩:=s;exact PySem.W.make_core (PySem.W.makes_of X hm) (PySem.W.looks_findIn X hi) (λself=>PySem.W.bind_fn X self hf) (.inl rfl) h
end
def a3z (f:Str) (v:V):List (Str × V)->List (Str × V)
 | []=>[(f,v)]
 | (g,x)::r=>if g=f then (g,v)::r else (g,x)::a3z f v r
theorem a2T (f g:Str) (v:V):∀fs:List (Str × V),(a3z f v fs).lookup g=if g=f then some v else fs.lookup g
 | []=>by
  show List.lookup g [(f,v)]=_;by_cases h:g=f
  ·have hb:(g==f)=true:=c0F.mpr h;simp only[List.lookup,hb,if_pos h]
  ·have hb:(g==f)=false:=b7Z.mpr h;simp only[List.lookup,hb,if_neg h]
 | (k,x)::r=>by
  have ih:=a2T f g v r;rw[show a3z f v ((k,x)::r)=(if k=f then (k,v)::r else (k,x)::a3z f v r) from rfl];by_cases hk:k=f
  ·rw[if_pos hk];by_cases h:g=k
   ·have hb:(g==k)=true:=c0F.mpr h;simp only[List.lookup,hb,if_pos (h.trans hk)]
   ·have hb:(g==k)=false:=b7Z.mpr h;simp only[List.lookup,hb,if_neg (λe:g=f=>h (e.trans hk.symm))]
  ·rw[if_neg hk];by_cases h:g=k
   ·have hb:(g==k)=true:=c0F.mpr h;simp only[List.lookup,hb,if_neg (λe:g=f=>hk (h.symm.trans e))]
   ·have hb:(g==k)=false:=b7Z.mpr h;simp only[List.lookup,hb];exact ih
theorem a2U (f:Str) (v:V):∀fs:List (Str × V),f∈(a3z f v fs).map (·.1)/\∀g,g∈fs.map (·.1)->g∈(a3z f v fs).map (·.1)
 | []=>⟨by simp[a3z],λg h=>by simp at h⟩
 | (k,x)::r=>by
  obtain⟨i1,i2⟩:=a2U f v r;rw[show a3z f v ((k,x)::r)=(if k=f then (k,v)::r else (k,x)::a3z f v r) from rfl];by_cases hk:k=f
  ·rw[if_pos hk];subst hk;exact⟨by simp,λg h=>by simpa using h⟩
  ·rw[if_neg hk];refine⟨?_,λg h=>?_⟩
   ·rw[b6m];exact b7h _ i1
   ·rw[b6m] at h ⊢;rcases b5Q.mp h with e|e
    ·exact b5Q.mpr (.inl e)
    ·exact b7h _ (i2 g e)
theorem a2V (f:Str) (v:V):∀fs:List (Str × V),(a3z f v fs).length<=fs.length+1
 | []=>by simp[a3z]
 | (k,x)::r=>by
  have ih:=a2V f v r;rw[show a3z f v ((k,x)::r)=(if k=f then (k,v)::r else (k,x)::a3z f v r) from rfl];by_cases hk:k=f
  ·rw[if_pos hk,b5T,b5T];omega
  ·rw[if_neg hk,b5T,b5T];omega
theorem a6I.some_of {v:V} {o:Option Value} (r:a6I (some v) o):∃u,o=some u/\a0Q v u:=by
 cases o with
 | none=>exact(show False from r).elim
 | some u=>exact⟨u,rfl,r⟩
theorem a6I.none_of {o:Option Value} (r:a6I none o):o=none:=by
 cases o with
 | none=>rfl
 | some u=>exact(show False from r).elim
theorem a8Y {v:V} {u:Value} (r:a0Q v u):PySem.W.handedIn u=true:=by
 cases v with
 | non=>cases (show u=Value.none from r);rfl
 | bl b=>cases (show u=Value.bool b from r);rfl
 | int i=>obtain⟨t,e⟩:=(show ∃t,u=Value.int i t from r);cases e;rfl
 | str x=>obtain⟨t,e⟩:=(show ∃t,u=Value.str x t from r);cases e;rfl
 | byt b=>obtain⟨t,e⟩:=(show ∃t,u=Value.bytes b t from r);cases e;rfl
 | flt b=>obtain⟨t,e⟩:=(show ∃t,u=Value.float b t from r);cases e;rfl
 | ref a=>cases (show u=Value.ref a from r);rfl
 | ty n=>cases (show u=Value.type n from r);rfl
section
variable {P:Program} {w:World} {H H':Hp} {h h':Heap} {a C dx:Addr} {fs fs':List (Str × V)}
theorem a5V (hok:HOk P w H h) (e:H a=some (.ins C dx fs)):∃mA,b3H h a dx C mA/\(∀f,a6I (fs.lookup f) (mA f))/\PySem.Within mA (fs.map (·.1))/\fs.length<=1000/\H dx=some (.own a):=by
 obtain⟨d,z,ne,ob,mA,n,r,q⟩:=(show a0B P w H h a (.ins C dx fs) from hok a _ e)
 exact⟨mA,⟨ob,n,ne⟩,r,q,z,d⟩
end
structure Cls (K:PySem.W.Frag) (C:Addr):Prop where
 pg:PySem.W.plainGet K C Str.empty=true
 hd:PySem.W.hasDictIn K C=true
 po:PySem.W.plainOver K C=true
 sa:PySem.W.findIn K (.ref C) "__setattr__"=some (some (.builtin "object.__setattr__"))
theorem Cls.get {K:PySem.W.Frag} {C:Addr} (c:Cls K C) (f:Str):PySem.W.plainGet K C f=true:=c.pg
def a1G (K:PySem.W.Frag) (C:Addr) (f:Str):Prop:=PySem.W.findIn K (.ref C) f=some none
theorem a1G.taker {K:PySem.W.Frag} {C:Addr} {f:Str} (n:a1G K C f):PySem.W.takerIn K C f=some none:=by
 unfold PySem.W.takerIn;rw[show PySem.W.findIn K (.ref C) f=some none from n];rfl
structure Con (K:PySem.W.Frag) (C:Addr) (f:Str) (v:V) (u:Value):Prop where
 at_:PySem.W.findIn K (.ref C) f=some (some u)
 rel:a0Q v u
 get:PySem.W.specialIn K u "__get__"=some none
 cp:PySem.W.copiedNames.contains f=false
structure Meth (K:PySem.W.Frag) (C:Addr) (m:Str) (f:Addr):Prop where
 at_:PySem.W.findIn K (.ref C) m=some (some (.ref f))
 fn:PySem.W.isFn K (.ref f)=true
 kp:PySem.W.keepIn K (.ref f)=true
section
variable {X:Cx} {pins:List (Addr × Obj)} {σ:St} {H:Hp} {s:Shared} {a C dx:Addr} {fs:List (Str × V)} {f:Str} {v:V} {A:Around} {E:Value->Shared->Prop}
theorem a7R {b:Bool} {Q:Value->Shared->Prop} (I:Inv X pins σ H s) (e:H a=some (.ins C dx fs)) (c:Cls X.K C) (n:a1G X.K C f) (l:fs.lookup f=some v)
  (h:∀u s',Inv X pins σ H s'->a0Q v u->Q u s'):wpAny (model X.prog X.w) A (getAttr (.ref a) f b) Q E s:=by
 obtain⟨mA,O,r,_,_,_⟩:=a5V I.hok e;obtain⟨u,hu,ru⟩:=a6I.some_of (v:=v) (o:=mA f) (by rw[<-l];exact r f);exact b3I I.kIn O (c.get f) c.hd n hu (a8Y ru) (h u _ (I.tok _) ru)
theorem a3G {m:Str} {g:Addr} {pl:Sem Bool} {Q:Value × List Value->Shared->Prop} (I:Inv X pins σ H s) (e:H a=some (.ins C dx fs)) (c:Cls X.K C) (k:Meth X.K C m g) (l:fs.lookup m=none)
  (h:Q (.ref g,[.ref a]) s):wpAny (model X.prog X.w) A (getMethod (.ref a) m pl) Q E s:=by
 obtain⟨mA,O,r,_,_,_⟩:=a5V I.hok e;have hn:mA m=none:=a6I.none_of (by rw[<-l];exact r m);exact b1n I.kIn O (c.get m) k.at_ k.fn hn h
theorem a7S {y:V} {u:Value} {Q:Unit->Shared->Prop} (I:Inv X pins σ H s) (e:H a=some (.ins C dx fs)) (c:Cls X.K C) (n:a1G X.K C f) (hl:fs.length<1000) (ry:a0Q y u)
  (h:∀s',Inv X pins σ (upd H a (.ins C dx (a3z f y fs))) s'->Q () s'):wpAny (model X.prog X.w) A (setAttr (.ref a) f u) Q E s:=by
 obtain⟨mA,O,r,wi,_,ho⟩:=a5V I.hok e;have hz:(fs.map (·.1)).length<=sizeLine:=by rw[b5x,b6l];omega
 refine b3J I.kIn O c.sa c.po n.taker c.hd wi hz λh' O' sb=>h _ ?_;have hd:∃o,h'.get? dx=some o:=let ⟨o,_,_,e',_⟩:=O'.ns;⟨o,e'⟩
 refine I.write (x:=a) (e:=dx) (by rw[e];exact True.intro) (.inr ho) (λb q hb z=>(sb.2 b hb).trans z) hd ?_;refine⟨by rw[a0h O.ne];exact ho,?_,O.ne,O'.obj,_,O'.ns,λg=>?_,λg hg=>?_⟩
 ·have:=a2V f y fs;omega
 ·show a6I ((a3z f y fs).lookup g) (if g=f then some u else mA g);rw[a2T];by_cases q:g=f
  ·rw[if_pos q,if_pos q];exact ry
  ·rw[if_neg q,if_neg q];exact r g
 ·by_cases q:g=f
  ·rw[q];exact(a2U f y fs).1
  ·refine(a2U f y fs).2 g (wi g λz=>hg ?_);show(if g=f then some u else mA g)=none;rw[if_neg q];exact z
theorem Inv.made (I:Inv X pins σ H s):Inv X pins σ (upd (upd H s.heap.objs.size (.own (s.heap.objs.size+1))) (s.heap.objs.size+1) (.ins C s.heap.objs.size []))
  { s with heap:=(s.heap.push PySem.W.emptyDict).push (PySem.W.instObj C s.heap.objs.size) }:=by
 have e1:(s.heap.push PySem.W.emptyDict).get? s.heap.objs.size=some PySem.W.emptyDict:=b5D s.heap rfl;have e2:((s.heap.push PySem.W.emptyDict).push (PySem.W.instObj C s.heap.objs.size)).get? (s.heap.objs.size+1)=some (PySem.W.instObj C s.heap.objs.size):=by
  have:=b5D (s.heap.push PySem.W.emptyDict) (o:=PySem.W.instObj C s.heap.objs.size) rfl
  rwa [b6h] at this
 have e3:(s.heap.push PySem.W.emptyDict).Ns s.heap.objs.size (λ_=>none):=⟨PySem.W.emptyDict,#[],_,e1,rfl,(λe he=>absurd he (by simp)),λ_=>rfl⟩
 have I1:=I.laid (a:=s.heap.objs.size) (o:=.own (s.heap.objs.size+1)) (h':=s.heap.push PySem.W.emptyDict) (t':=s.toks) (λb u q=>b5y _ q) (b5G _) ⟨_,e1⟩;refine I1.laid (a:=s.heap.objs.size+1) (o:=.ins C s.heap.objs.size []) (t':=s.toks) (λb u q=>b5y _ q) (Nat.le_of_eq (b6h _ _)) ?_;have ne:s.heap.objs.size≠s.heap.objs.size+1:=b5O (b7T _);refine⟨by rw[a0h ne,a0b],b6e _,ne,e2,λ_=>none,(Heap.Ns1.of_empty e3).at λo q=>b5y _ q,λ_=>True.intro,λy hy=>absurd rfl hy⟩
theorem b3K {prog:Program} {w:World} {env:Env} {e:Expr} {f:Str} {pos:Pos} {s:Shared} {Q:Value->Shared->Prop} (hb:attributeBase e f env (eval e env)=eval e env)
  (h:wpAny (model prog w) A (eval e env) (λo s₁=>wpAny (model prog w) A (getAttr o f true) Q E s₁) E s):wpAny (model prog w) A (eval (.Attribute e f pos) env) Q E s :=
 Attribute_any_ h (by rw[arm_eval_Attribute,hb])
end
def tFld (K:PySem.W.Frag) (ta:TE) (f:Str):TE:=λσ H Q=>ta σ H λx H1=>∃a C dx fs v,x=.ref a/\H1 a=some (.ins C dx fs)/\Cls K C/\a1G K C f/\fs.lookup f=some v/\Q v H1
def tCon (K:PySem.W.Frag) (ta:TE) (f:Str):TE:=λσ H Q=>ta σ H λx H1=>∃a C dx fs v u,x=.ref a/\H1 a=some (.ins C dx fs)/\Cls K C/\Con K C f v u/\fs.lookup f=none/\Q v H1
def sFld (K:PySem.W.Frag) (ta tv:TE) (f:Str):TS:=λD σ H=>tv σ H λy H1=>ta σ H1 λx H2=>∃a C dx fs,x=.ref a/\H2 a=some (.ins C dx fs)/\Cls K C/\a1G K C f/\fs.length<1000 /\
 D.nx σ (upd H2 a (.ins C dx (a3z f y fs)))
def InOp (X:Cx) (op:Operator) (rd:V->V->Hp->VK->Prop):Prop :=
 ∀(pins:List (Addr × Obj)) (s:Shared) (σ:St) (H:Hp) (x y:V) (u v:Value) (Q:VK),Inv X pins σ H s->a0Q x u->a0Q y v->rd x y H Q->wpAny (model X.prog X.w) X.A (inplaceOp op u v) (EP X pins σ Q) X.xe s
def sFldAug (K:PySem.W.Frag) (ta tv:TE) (rd:V->V->Hp->VK->Prop) (f:Str):TS:=λD σ H=>ta σ H λx H1=>∃a C dx fs v,x=.ref a/\H1 a=some (.ins C dx fs)/\Cls K C/\a1G K C f/\fs.lookup f=some v /\
 tv σ H1 λy H2=>rd v y H2 λz H3=>∃dx' fs',H3 a=some (.ins C dx' fs')/\fs'.length<1000/\D.nx σ (upd H3 a (.ins C dx' (a3z f z fs')))
section
variable {X:Cx} {o e value:Expr} {f:Str} {pos pos' tpos:Pos} {ta tv:TE}
theorem a1e (he:PE X e ta) (hb:attributeBase e f X.env (eval e X.env)=eval e X.env):PE X (.Attribute e f pos) (tFld X.K ta f):=by
 intro pins s σ H Q I h;refine b3K hb (thn (he pins s σ H _ I h) λu s1 ⟨x,H1,I1,rx,a,C,dx,fs,v,ex,ea,c,n,l,q⟩=>?_);subst ex;obtain rfl:u=Value.ref a:=rx;exact a7R I1 ea c n l λu' s2 I2 ru=>⟨v,H1,I2,ru,q⟩
theorem a4W (ha:PE X o ta) (hv:PE X value tv) (hs:swapsWith value (some (.Attribute o f pos')) pos.line X.env=pure false):PS X (.Assign [.Attribute o f pos'] value pos) (sFld X.K ta tv f):=by
 intro pins s σ H D I h;refine plainObj_wpAny_Assign_Attribute (thn (hv pins s σ H _ I h) λu s1 ⟨y,H1,I1,ry,q⟩=>thn (ha pins s1 σ H1 _ I1 q) λov s2 ⟨x,H2,I2,rx,a,C,dx,fs,ex,ea,c,n,l,q2⟩=>?_) hs;subst ex;obtain rfl:ov=Value.ref a:=rx;exact a7S I2 ea c n l ry λs3 I3=>⟨σ,_,I3,q2⟩
end
section
variable {X:Cx} {pins:List (Addr × Obj)} {σ:St} {H:Hp} {s:Shared} {A:Around} {E:Value->Shared->Prop} {Q:Value->Shared->Prop} {c:Value} {b:Bool}
inductive a8Z (K:PySem.W.Frag) (H:Hp):V->Value->Prop where
 | non:a8Z K H .non (.type "NoneType")
 | bl (x:Bool):a8Z K H (.bl x) (.type "bool")
 | int (i:Int):a8Z K H (.int i) (.type "int")
 | str (x:Str):a8Z K H (.str x) (.type "str")
 | flt (x:UInt64):a8Z K H (.flt x) (.type "float")
 | lst {a:Addr} {xs:List V} (e:H a=some (.lst xs)):a8Z K H (.ref a) (.type "list")
 | frz {a:Addr} {o:Obj} {xs:List V} (e:H a=some (.frz o (.lst xs))):a8Z K H (.ref a) (.type "list")
 | tup {a:Addr} {xs:List V} (e:H a=some (.tup xs)):a8Z K H (.ref a) (.type "tuple")
 | dK {a:Addr} {kvs:List (Key × V)} (e:H a=some (.dK kvs)):a8Z K H (.ref a) (.type "dict")
 | dT {a:Addr} {kvs:List (List Key × V)} (e:H a=some (.dT kvs)):a8Z K H (.ref a) (.type "dict")
 | ins {a C dx:Addr} {fs:List (Str × V)} (e:H a=some (.ins C dx fs)) (cl:Cls K C) (ha:PySem.W.findIn K (.ref C) "__class__"=some (some (.builtin "object.__class__")))
   (hn:PySem.W.specialIn K (.builtin "object.__class__") "__get__"=some (some (.builtin "getset_descriptor.__get__"))) (htk:PySem.W.takesIn K (.builtin "object.__class__")=some true)
   (hm:PySem.W.mroIn K C (.type "object")=some true):a8Z K H (.ref a) (.ref C)
end
structure a1z (k:Nat) (A:Around):Prop where
 hd:A.handled=none
 dp:A.depth+3*k+5<recursionLimit
 un:A.units+16*k+200<cLine
theorem a1z.mono {j k:Nat} {A:Around} (r:a1z k A) (h:j<=k):a1z j A:=⟨r.hd,by have:=r.dp;omega,by have:=r.un;omega⟩
theorem a1z.deeper {k:Nat} {A:Around} (r:a1z (k+1) A) (env:Env):a1z k (A.deeper env) :=
 ⟨r.hd,by have:=r.dp;show A.depth+1+3*k+5<_;omega,by have:=r.un;show A.units+3+16*k+200<_;omega⟩
theorem a1z.in1 {k:Nat} {A:Around} (r:a1z (k+1) A):a1z k A.in1 :=
 ⟨r.hd,by have:=r.dp;show A.depth+3*k+5<_;omega,by have:=r.un;show A.units+1+16*k+200<_;omega⟩
theorem a7T {A:Around} {C:Addr} {us:List Value} {kw:List (Str × Value)}:(A.under (.builtin "type.__call__" ⟨.ref C::us,kw⟩)).depth=A.depth+1:=by
 first|rfl|simp[Around.under,Code.weight,Code.isCreation,Code.isGuard,Code.isCaller,Code.frames,Code.isFrame,guardIds]
theorem a7U {A:Around} {C:Addr} {us:List Value} {kw:List (Str × Value)}:(A.under (.builtin "type.__call__" ⟨.ref C::us,kw⟩)).units=A.units+1:=by
 first|rfl|simp[Around.under,Code.cUnits,Code.frames,Code.isFrame]
theorem a1z.make {k:Nat} {A:Around} (r:a1z (k+1) A) (C:Addr) (us:List Value) (kw:List (Str × Value)):a1z k (A.under (.builtin "type.__call__" ⟨.ref C::us,kw⟩)) :=
 ⟨r.hd,by have:=r.dp;rw[a7T];omega,by have:=r.un;rw[a7U];omega⟩
theorem a1z.depth {k:Nat} {A:Around} (r:a1z k A):A.depth<recursionLimit:=by have:=r.dp;omega
theorem a1z.units {k:Nat} {A:Around} (r:a1z k A):A.units+64<cLine:=by have:=r.un;omega
def tNil:TA:=λ_ H Q=>Q [] H
def b1p (ta:TE) (tr:TA):TA:=λσ H Q=>ta σ H λx H1=>tr σ H1 λxs H2=>Q (x::xs) H2
section
variable {X:Cx} {e:Expr} {es:List Expr} {te:TE} {t:TA} {pos:Pos}
theorem a0f:PA X [] tNil:=λ_ _ _ _ H Q I h=>b8W ⟨[],H,I,.nil,h⟩
theorem a0a (ha:PE X e te) (hr:PA X es t) (hs:starEach (e::es) X.env=(false,eval e X.env)::starEach es X.env:=by rfl):PA X (e::es) (b1p te t):=by
 intro pos pins s σ H Q I h;rw[hs];show wpAny _ _ (spliced ((false,eval e X.env)::backTo pos (starEach es X.env))) _ _ s;refine b8J (thn (ha pins s σ H _ I h) λu s1 ⟨x,H1,I1,r1,q1⟩=>?_);exact thn (hr pos pins s1 σ H1 _ I1 q1) λus s2 ⟨xs,H2,I2,r2,q2⟩=>⟨x::xs,H2,I2,.cons r1 r2,q2⟩
def tTup (t:TA):TE:=λσ H Q=>t σ H λxs H1=>xs.length<=sizeLine/\∀p,H1 p=none->Q (.ref p) (upd H1 p (.tup xs))
def tLst (t:TA):TE:=λσ H Q=>t σ H λxs H1=>xs.length<=sizeLine/\∀p,H1 p=none->Q (.ref p) (upd H1 p (.lst xs))
theorem a0Z {x1} (h:PA X es t):PE X (.Tuple es x1 pos) (tTup t):=by
 intro pins s σ H Q I hq;refine wpAny_Tuple_spliced (thn (h pos pins s σ H _ I hq) λus s1 ⟨xs,H1,I1,r,z,q⟩=>⟨by rw[<-r.length];exact z,?_⟩);have hf:H1 s1.heap.objs.size=none:=I1.hok.fresh (b5G _);refine⟨.ref s1.heap.objs.size,upd H1 s1.heap.objs.size (.tup xs),I1.laid (t':=s1.toks) (λb u e=>b5y _ e) (b5G _) ?_,rfl,q _ hf⟩;exact⟨z,us,r,⟨_,b5D _ rfl,_,rfl⟩⟩
theorem a1n (h:PA X es t):PE X (.List es pos) (tLst t):=by
 intro pins s σ H Q I hq;refine wpAny_List_spliced (thn (h pos pins s σ H _ I hq) λus s1 ⟨xs,H1,I1,r,z,q⟩=>⟨by rw[<-r.length];exact z,?_⟩);have hf:H1 s1.heap.objs.size=none:=I1.hok.fresh (b5G _);refine⟨.ref s1.heap.objs.size,upd H1 s1.heap.objs.size (.lst xs),I1.laid (t':=s1.toks) (λb u e=>b5y _ e) (b5G _) ?_,rfl,q _ hf⟩;exact⟨z,us,0,r,b5D _ rfl⟩
end
abbrev Sp:=List V->Hp->VK->XK->Prop
abbrev CXT:=List Env->Hp->Shared->XK->Value->Shared->Prop
structure a5W (P:Program) (w:World) (K:PySem.W.Frag) (mg:Str->Option Value) (base:Heap) (A:Around) (outer:List Env) (s:Shared) (H:Hp):Prop where
 frames:A.frames=some outer
 mod:Mod K mg base
 bs:∀b o,base.get? b=some o->s.heap.get? b=some o/\H b=none
 bsz:base.objs.size<=s.heap.objs.size
 funs:s.heap.FunFrames base outer
 frf:∀b∈frs outer,H b=none
 hok:HOk P w H s.heap
 bare:AllBare s.gens
def CE (outer:List Env) (P:Program) (w:World) (H:Hp) (s:Shared) (Q:VK) (u:Value) (s':Shared):Prop :=
 ∃v H',s'.os=s.os/\AllBare s'.gens/\Un (frs outer) [] H H' s.heap s'.heap/\HOk P w H' s'.heap/\a0Q v u/\Q v H'
def CR (CX:CXT) (outer:List Env) (P:Program) (w:World) (H:Hp) (s:Shared) (Q:VK) (E:XK) (r:Result) (s':Shared):Prop :=
 match r with
 | .ok (.ret u)=>CE outer P w H s Q u s'
 | .ok _=>False
 | .error e=>CX outer H s E e s'
structure a0Y (P:Program) (w:World) (K:PySem.W.Frag) (mg:Str->Option Value) (base:Heap) (CX:CXT) (k:Nat) (f:Addr) (fd:FuncData) (ps:List Str) (sp:Sp):Prop where
 len:∀vs H Q E,sp vs H Q E->vs.length=ps.length
 run:∀(A:Around) (outer:List Env) (s:Shared) (H:Hp) (args:Args) (us:List Value) (vs:List V) (Q:VK) (E:XK),a1z k A->a5W P w K mg base A outer s H->BindsTo s fd args (ps.zip us)->a0w vs us->sp vs H Q E ->
  codeAny (model P w) A (.call (.ref f) args) (CR CX outer P w H s Q E) s
theorem a0Y.mono {P:Program} {w:World} {K:PySem.W.Frag} {mg:Str->Option Value} {base:Heap} {CX:CXT} {j k:Nat} {f:Addr} {fd:FuncData} {ps:List Str} {sp:Sp} (F:a0Y P w K mg base CX j f fd ps sp) (h:j<=k) :
  a0Y P w K mg base CX k f fd ps sp:=⟨F.len,λA outer s H args us vs Q E hr=>F.run A outer s H args us vs Q E (hr.mono h)⟩
theorem a5W.make {P:Program} {w:World} {K:PySem.W.Frag} {mg:Str->Option Value} {base:Heap} {A:Around} {outer:List Env} {s:Shared} {H:Hp} (e:a5W P w K mg base A outer s H) (C:Addr) (us:List Value) (kw:List (Str × Value)) :
  a5W P w K mg base (A.under (.builtin "type.__call__" ⟨.ref C::us,kw⟩)) outer s H:=⟨by first|exact e.frames|(simpa [Around.under,Code.envs,Code.isFrame,pushEnvs] using e.frames),e.mod,e.bs,e.bsz,e.funs,e.frf,e.hok,e.bare⟩
theorem a5W.in1 {P:Program} {w:World} {K:PySem.W.Frag} {mg:Str->Option Value} {base:Heap} {A:Around} {outer:List Env} {s:Shared} {H:Hp} (e:a5W P w K mg base A outer s H) :
  a5W P w K mg base A.in1 outer s H:=⟨e.frames,e.mod,e.bs,e.bsz,e.funs,e.frf,e.hok,e.bare⟩
section
variable {X:Cx} {pins:List (Addr × Obj)} {σ:St} {H:Hp} {s s':Shared}
theorem Inv.env0 (I:Inv X pins σ H s):a5W X.prog X.w X.K X.mg X.base X.A X.stack s H :=
 ⟨I.ok.frames,I.ok.mod,I.bs,b6R I.ok.bsz I.sz,I.stack,I.stkFree,I.hok,I.bare⟩
theorem Inv.after {Q:VK} {u:Value} (I:Inv X pins σ H s) (h:CE X.stack X.prog X.w H s Q u s'):EP X pins σ Q u s':=by
 obtain⟨v,H',os,bare,un,hok,r,q⟩:=h;obtain⟨hh,g,d,t,os'⟩:=s';obtain rfl:os'=s.os:=os;exact⟨v,H',I.call (h':=hh) (g':=g) (d':=d) (t':=t) (ch:=[]) un hok bare (λb z=>absurd z (by simp)),r,q⟩
end
def tCall (sp:Sp) (dvs:List V) (E:XK) (t:TA):TE:=λσ H Q=>t σ H λvs H1=>sp (vs++dvs) H1 Q E
def tMeth (C:Addr) (m:Str) (sp:Sp) (dvs:List V) (E:XK) (ta:TE) (t:TA):TE:=λσ H Q=>ta σ H λx H1=>∃a dx fs,x=.ref a/\H1 a=some (.ins C dx fs)/\fs.lookup m=none /\
 t σ H1 λvs H2=>sp (x::(vs++dvs)) H2 Q E
def tMake (C:Addr) (sp:Sp) (dvs:List V) (E:XK) (t:TA):TE:=λσ H Q=>t σ H λvs H1=>∀x dx,H1 x=none->H1 dx=none->dx≠x ->
 sp (.ref x::(vs++dvs)) (upd (upd H1 dx (.own x)) x (.ins C dx [])) (λv H2=>v=.non/\Q (.ref x) H2) E
def a1N (K:PySem.W.Frag) (fd:FuncData) (ps:List Str) (ds:List Value):Prop :=
 ∀(s:Shared) (us:List Value),K.In s.heap->(us++ds).length=ps.length->BindsTo s fd ⟨us,[]⟩ (ps.zip (us++ds))
theorem a1N.all {K:PySem.W.Frag} {fd:FuncData} {ps:List Str} (h:∀us:List Value,us.length=ps.length->bindArgs fd ⟨us,[]⟩=pure (ps.zip us)):a1N K fd ps []:=λs us _ hl=>by
 rw[b6B] at hl ⊢;exact .of_eq (h us hl)
def a2W (CX:CXT) (X:Cx) (E:XK):Prop:=∀(pins:List (Addr × Obj)) (σ:St) (H:Hp) (s:Shared) (e:Value) (s':Shared),Inv X pins σ H s->CX X.stack H s E e s'->X.xe e s'
section
variable {X:Cx} {CX:CXT} {k:Nat} {f C:Addr} {fd:FuncData} {ps:List Str} {sp:Sp} {dvs:List V} {ds:List Value} {E:XK} {x m:Str} {p pos apos:Pos} {e o:Expr} {es:List Expr} {ta:TE} {t:TA}
theorem a9a {pins:List (Addr × Obj)} {σ:St} {H:Hp} {s:Shared} {Q:VK} {us:List Value} {vs:List V} (F:a0Y X.prog X.w X.K X.mg X.base CX k f fd ps sp) (hr:a1z k X.A) (hb:a1N X.K fd ps ds) (hd:a0w dvs ds) (hx:a2W CX X E)
  (I:Inv X pins σ H s) (r:a0w vs us) (h:sp (vs++dvs) H Q E):wpAny (model X.prog X.w) X.A (call (.ref f) us) (EP X pins σ Q) X.xe s:=by
 have r2:a0w (vs++dvs) (us++ds):=r.append hd;have hl:(us++ds).length=ps.length:=by rw[<-r2.length];exact F.len _ _ _ _ h
 refine c0j (b7y (F.run X.A X.stack s H ⟨us,[]⟩ (us++ds) (vs++dvs) Q E hr I.env0 (hb s us I.kIn hl) r2 h) λr s' hq=>?_);cases r with
 | error e=>exact hx pins σ H s e s' I hq
 | ok fl =>
  cases fl with
  | ret u=>exact I.after hq
  | next=>exact False.elim hq
  | brk=>exact False.elim hq
  | cont=>exact False.elim hq
theorem a9b (F:a0Y X.prog X.w X.K X.mg X.base CX k f fd ps sp) (hr:a1z k X.A) (hg:Gl X x) (hm:X.mg x=some (.ref f)) (hk:PySem.W.keepIn X.K (.ref f)=true) (hb:a1N X.K fd ps ds) (hd:a0w dvs ds) (hx:a2W CX X E)
  (ha:PA X (e::es) t) (hdb:(x==("__debug__":Str))=false:=by decide) (he:starEach (e::es) X.env=(false,eval e X.env)::starEach es X.env:=by rfl) (hpl:(backTo pos (starEach es X.env)).any (·.1)=false:=by rfl) :
  PE X (.Call (.Name x p) (e::es) [] pos) (tCall sp dvs E t):=by
 intro pins s σ H Q I h;refine b6y (a3Z I hg hm ?_ hdb);refine b9p (h₀:=X.base) I.ok.mod.kin hk (thn (ha pos pins s σ H _ I h) λus s1 ⟨vs,H1,I1,r,q⟩=>⟨I1.kIn,?_⟩) he hpl;exact a9a F hr hb hd hx I1 r q
theorem a2e {pl:Sem Bool} (he:PE X o ta) (c:Cls X.K C) (hm:Meth X.K C m f) (F:a0Y X.prog X.w X.K X.mg X.base CX k f fd ps sp) (hr:a1z k X.A) (hb:a1N X.K fd ps ds) (hd:a0w dvs ds) (hx:a2W CX X E) (ha:PA X (e::es) t)
  (hst:starEach (e::es) X.env=(false,eval e X.env)::starEach es X.env:=by rfl) (hpl:(backTo pos (starEach es X.env)).any (·.1)=false:=by rfl)
  (ht:eval (.Call (.Attribute o m apos) (e::es) [] pos) X.env=(do
   let ov <-eval o X.env
   standAt apos.atName
   let (f,first) <-holding [ov] (getMethod ov m pl)
   callWith pos f first (backTo pos (starEach (e::es) X.env)) (backToKw pos (keywordEach [] X.env))):=by rfl) :
  PE X (.Call (.Attribute o m apos) (e::es) [] pos) (tMeth C m sp dvs E ta t):=by
 intro pins s σ H Q I h;refine PySem.W.methodCall_KW (pl:=pl) (thn (he pins s σ H _ I h) λu s1 ⟨x,H1,I1,rx,a,dx,fs,ex,ea,l,q⟩=>?_) ht;subst ex;obtain rfl:u=Value.ref a:=rx;refine a3G I1 ea c hm l ?_;refine b9p (first:=[.ref a]) (h₀:=X.base) I.ok.mod.kin hm.kp (thn (ha pos pins s1 σ H1 _ I1 q) λus s2 ⟨vs,H2,I2,r,q2⟩=>⟨I2.kIn,?_⟩) hst hpl;exact a9a (us:=.ref a::us) (vs:=.ref a::vs) F hr hb hd hx I2 (.cons rfl r) q2
theorem b1q {pl:Sem Bool} (he:PE X o ta) (c:Cls X.K C) (hm:Meth X.K C m f) (F:a0Y X.prog X.w X.K X.mg X.base CX k f fd ps sp) (hr:a1z k X.A) (hb:a1N X.K fd ps ds) (hd:a0w dvs ds) (hx:a2W CX X E)
  (ht:eval (.Call (.Attribute o m apos) [] [] pos) X.env=(do
   let ov <-eval o X.env
   standAt apos.atName
   let (f,first) <-holding [ov] (getMethod ov m pl)
   callWith pos f first (backTo pos (starEach [] X.env)) (backToKw pos (keywordEach [] X.env))):=by rfl) :
  PE X (.Call (.Attribute o m apos) [] [] pos) (tMeth C m sp dvs E ta tNil):=by
 intro pins s σ H Q I h;refine PySem.W.methodCall_KW (pl:=pl) (thn (he pins s σ H _ I h) λu s1 ⟨x,H1,I1,rx,a,dx,fs,ex,ea,l,q⟩=>?_) ht;subst ex;obtain rfl:u=Value.ref a:=rx;refine a3G I1 ea c hm l ?_;exact PySem.W.callWith_K0 (first:=[.ref a]) I1.kIn hm.kp (a9a (us:=[.ref a]) (vs:=[.ref a]) F hr hb hd hx I1 (.cons rfl .nil) q)
structure Mk (K:PySem.W.Frag) (C f:Addr):Prop where
 makes:PySem.W.makesIn K C=true
 init:PySem.W.findIn K (.ref C) "__init__"=some (some (.ref f))
 fn:PySem.W.isFn K (.ref f)=true
 kp:PySem.W.keepIn K (.ref C)=true
theorem b1r {pins:List (Addr × Obj)} {σ:St} {H:Hp} {s:Shared} {Q:VK} {us:List Value} {vs:List V} (M:Mk X.K C f) (F:a0Y X.prog X.w X.K X.mg X.base CX k f fd ps sp) (hr:a1z (k+1) X.A) (hb:a1N X.K fd ps ds) (hd:a0w dvs ds)
  (hx:a2W CX X E) (I:Inv X pins σ H s) (r:a0w vs us)
  (h:∀x dx,H x=none->H dx=none->dx≠x->sp (.ref x::(vs++dvs)) (upd (upd H dx (.own x)) x (.ins C dx [])) (λv H2=>v=.non/\Q (.ref x) H2) E) :
  wpAny (model X.prog X.w) X.A (call (.ref C) us) (EP X pins σ Q) X.xe s:=by
 have hq:=h (s.heap.objs.size+1) s.heap.objs.size (I.hok.fresh (b9z _)) (I.hok.fresh (b5G _)) (b5O (b7T _));have I2:=Inv.made (C:=C) I;have r2:a0w (V.ref (s.heap.objs.size+1)::(vs++dvs)) (Value.ref (s.heap.objs.size+1)::(us++ds)):=.cons rfl (r.append hd);have hl:(Value.ref (s.heap.objs.size+1)::us++ds).length=ps.length:=by
  have e:=r2.length;rw[F.len _ _ _ _ hq] at e;exact e.symm
 refine c0j (b1o (f:=f) I.kIn M.makes M.init (c0F.mp M.fn) (b7y (F.run _ X.stack _ _ ⟨Value.ref (s.heap.objs.size+1)::us,[]⟩ (Value.ref (s.heap.objs.size+1)::(us++ds)) _ _ E (hr.make C us [])
  (I2.env0.make C us []) (hb _ (Value.ref (s.heap.objs.size+1)::us) I2.kIn hl) r2 hq) λr s' hq'=>?_))
 cases r with
 | error e=>exact hx pins σ _ _ e s' I2 hq'
 | ok fl =>
  cases fl with
  | ret u =>
   obtain⟨v,H',I3,rv,ev,q3⟩:=I2.after hq';subst ev;exact⟨rv,⟨V.ref (s.heap.objs.size+1),H',I3,rfl,q3⟩⟩
  | next=>exact False.elim hq'
  | brk=>exact False.elim hq'
  | cont=>exact False.elim hq'
theorem b3L (M:Mk X.K C f) (F:a0Y X.prog X.w X.K X.mg X.base CX k f fd ps sp) (hr:a1z (k+1) X.A) (hg:Gl X x) (hm:X.mg x=some (.ref C)) (hb:a1N X.K fd ps ds) (hd:a0w dvs ds) (hx:a2W CX X E)
  (ha:PA X (e::es) t) (hdb:(x==("__debug__":Str))=false:=by decide) (he:starEach (e::es) X.env=(false,eval e X.env)::starEach es X.env:=by rfl) (hpl:(backTo pos (starEach es X.env)).any (·.1)=false:=by rfl) :
  PE X (.Call (.Name x p) (e::es) [] pos) (tMake C sp dvs E t):=by
 intro pins s σ H Q I h;refine b6y (a3Z I hg hm ?_ hdb);refine b9p (h₀:=X.base) I.ok.mod.kin M.kp (thn (ha pos pins s σ H _ I h) λus s1 ⟨vs,H1,I1,r,q⟩=>⟨I1.kIn,?_⟩) he hpl;exact b1r M F hr hb hd hx I1 r q
end
def PK (X:Cx) (kws:List Keyword) (t:TA):Prop :=
 ∀(pos:Pos) (pins:List (Addr × Obj)) (s:Shared) (σ:St) (H:Hp) (Q:List V->Hp->Prop),Inv X pins σ H s->t σ H Q->wpAny (model X.prog X.w) X.A (evalAll ((backToKw pos (keywordEach kws X.env)).map (·.2))) (AP X pins σ Q) X.xe s
section
variable {X:Cx} {CX:CXT} {k:Nat} {f C:Addr} {fd:FuncData} {ps ks:List Str} {sp:Sp} {E:XK} {x m:Str} {p pos apos kpos:Pos} {e o:Expr} {es:List Expr} {kws:List Keyword} {te ta:TE} {t tk:TA} {nm:Option Str}
theorem a3H:PK X [] tNil:=λ_ _ _ _ H Q I h=>wpAny_evalAll_nil ⟨[],H,I,.nil,h⟩
theorem a2f (ha:PE X e te) (hr:PK X kws t):PK X (⟨nm,e,kpos⟩::kws) (b1p te t):=by
 intro pos pins s σ H Q I h;show wpAny _ _ (evalAll ((do let v <-eval e X.env;standAt pos;pure v)::(backToKw pos (keywordEach kws X.env)).map (·.2))) _ _ s;refine wpAny_evalAll_cons (b5w (thn (ha pins s σ H _ I h) λu s1 ⟨x,H1,I1,r1,q1⟩=>b5w (c0Q (b5A ?_))));exact thn (hr pos pins s1 σ H1 _ I1 q1) λus s2 ⟨xs,H2,I2,r2,q2⟩=>⟨x::xs,H2,I2,.cons r1 r2,q2⟩
structure KBinds (K:PySem.W.Frag) (fd:FuncData) (ps ks:List Str) (g:List Value->List Value->List Value) (gV:List V->List V->List V):Prop where
 to:∀(s:Shared) (us ws:List Value),K.In s.heap->(g us ws).length=ps.length->BindsTo s fd ⟨us,ks.zip ws⟩ (ps.zip (g us ws))
 rel:∀{vs:List V} {us:List Value} {zs:List V} {ws:List Value},a0w vs us->a0w zs ws->a0w (gV vs zs) (g us ws)
variable {g:List Value->List Value->List Value} {gV:List V->List V->List V}
end
structure a0l (N P:List Str) (sc:Scope):Prop where
 kind:sc.kind=.function
 co:sc.isCoroutine=false
 gen:sc.isGenerator=false
 nd:N.Nodup
 pre:N.take P.length=P
 par:∀x∈P,sc.names.lookup x=some .local\/sc.names.lookup x=some .cell
 nofree:∀y∈sc.names,y.2≠.free
theorem pgA {X:Cx} {i:Nat} {x:Str} {pos:Pos} {Ps:List Str} {sc:Scope} (S:a0l X.N Ps sc) (hi:X.N[i]?=some x:=by rfl) (hx:Loc X.env.scope x:=by first|exact .inl rfl|exact .inr rfl) (hf:X.fn x=true\/X.env.scope.names.lookup x=some .local:=by first|exact .inl rfl|exact .inr rfl|assumption):PG X (.Name x pos) (a1J i):=a2b S.nd hi hx hf
theorem psA {X:Cx} {i:Nat} {x:Str} {e:Expr} {te:TE} {pos pos':Pos} {Ps:List Str} {sc:Scope} (S:a0l X.N Ps sc) (he:PE X e te) (hi:X.N[i]?=some x:=by rfl) (hx:Loc X.env.scope x:=by first|exact .inl rfl|exact .inr rfl) (hs:swapsWith e (some (.Name x pos')) pos.line X.env=pure false:=by rfl) (hf:X.fn x=true\/X.env.scope.names.lookup x=some .local:=by first|exact .inl rfl|exact .inr rfl|assumption):PS X (.Assign [.Name x pos'] e pos) (b5r te (a1J i)):=ps_set S.nd hi hx he hs hf
theorem fsk {N P:List Str} {sc:Scope} (h1:sc.kind=.function:=by rfl) (h2:sc.isCoroutine=false:=by rfl) (h3:sc.isGenerator=false:=by rfl) (h4:N.Nodup:=by decide +kernel) (h5:N.take P.length=P:=by rfl) (h6:∀x∈P,sc.names.lookup x=some .local\/sc.names.lookup x=some .cell:=by decide +kernel) (h7:∀y∈sc.names,y.2≠.free:=by decide +kernel):a0l N P sc:=⟨h1,h2,h3,h4,h5,h6,h7⟩
theorem a4X {kindOf:Str->Option NameKind} {x:Str}:∀{binds:List (Str × Value)} {m:Str->Option Value},(∀v,(x,v)∉binds)->bindL kindOf binds m x=m x
 | [],_,_=>rfl
 | (n,v)::r,m,h=>by
  unfold bindL;rw[a4X λw hw=>h w (b7h _ hw)];split
  ·have:x≠n:=by rintro rfl;exact h v b8I
   simp[this]
  ·rfl
theorem a4Y {kindOf:Str->Option NameKind} {x:Str}:∀{binds:List (Str × Value)} {m:Str->Option Value},(∀v,(x,v)∉binds)->bindC kindOf binds m x=m x
 | [],_,_=>rfl
 | (n,v)::r,m,h=>by
  unfold bindC;rw[a4Y λw hw=>h w (b7h _ hw)];split
  ·rfl
  ·have:x≠n:=by rintro rfl;exact h v b8I
   simp[this]
theorem a4Z {kindOf:Str->Option NameKind} {x:Str} {v:Value}:∀{P:List Str} {vs:List Value} {i:Nat} {m:Str->Option Value},P.Nodup->P[i]?=some x->vs[i]?=some v->kindOf x=some .local ->
  bindL kindOf (P.zip vs) m x=some v
 | [],_,_,_,_,h,_,_=>by simp at h
 | _::_,[],_,_,_,_,h,_=>by simp at h
 | p::P,w::vs,0,m,nd,h1,h2,hk=>by
  simp at h1 h2;subst h1;subst h2;show bindL kindOf ((p,w)::P.zip vs) m p=_;unfold bindL;rw[a4X λv hv=>(b7I.mp nd).1 (b9q hv).1,if_pos hk];simp
 | p::P,w::vs,i+1,m,nd,h1,h2,hk=>by
  show bindL kindOf ((p,w)::P.zip vs) m x=_;unfold bindL;exact a4Z (i:=i) (b7I.mp nd).2 (by simpa using h1) (by simpa using h2) hk
theorem a5a {kindOf:Str->Option NameKind} {x:Str} {v:Value}:∀{P:List Str} {vs:List Value} {i:Nat} {m:Str->Option Value},P.Nodup->P[i]?=some x->vs[i]?=some v->kindOf x≠some .local ->
  bindC kindOf (P.zip vs) m x=some v
 | [],_,_,_,_,h,_,_=>by simp at h
 | _::_,[],_,_,_,_,h,_=>by simp at h
 | p::P,w::vs,0,m,nd,h1,h2,hk=>by
  simp at h1 h2;subst h1;subst h2;show bindC kindOf ((p,w)::P.zip vs) m p=_;unfold bindC;rw[a4Y λv hv=>(b7I.mp nd).1 (b9q hv).1,if_neg hk];simp
 | p::P,w::vs,i+1,m,nd,h1,h2,hk=>by
  show bindC kindOf ((p,w)::P.zip vs) m x=_;unfold bindC;exact a5a (i:=i) (b7I.mp nd).2 (by simpa using h1) (by simpa using h2) hk
def start (N:List Str) (vs:List V):St:=vs.map some++List.replicate (N.length-vs.length) none
def a4S (CX:CXT) (P:Program) (w:World) (K:PySem.W.Frag) (mg:Str->Option Value) (base:Heap) (N:List Str) (qual:Str) (scope:Scope) (f:Addr) (cd:Value) (A:Around) (outer:List Env) (s:Shared) (H:Hp) (E:XK):Cx where
 prog:=P
 w:=w
 K:=K
 mg:=mg
 base:=base
 A:=A.deeper (envOfC qual scope s.heap.objs.size f cd)
 N:=N
 s₀:=s
 H₀:=H
 env:=envOfC qual scope s.heap.objs.size f cd
 outer:=outer
 stack:=envOfC qual scope s.heap.objs.size f cd::outer
 ex:=[]
 calm:=true
 fn:=λ_=>true
 pn:=[]
 xe:=λe s'=>wpAny (model P w) (A.deeper (envOfC qual scope s.heap.objs.size f cd)) (leaving (envOfC qual scope s.heap.objs.size f cd) e) (λ_ s''=>CX outer H s E e s'') (λe' s''=>CX outer H s E e' s'') s'
theorem a6O {sc:Scope} {n:Nat} {x:Str} (h:sc.names.lookup x=some .cell):∃c,(cellsFrom n sc.names []).lookup x=some c:=by
 have q:=PySem.W.cellsFrom_some sc.names n [] (.inl h);exact Option.isSome_iff_exists.mp q
theorem a9c {CX:CXT} {P:Program} {w:World} {K:PySem.W.Frag} {mg:Str->Option Value} {base:Heap} {N ps:List Str} {qual:Str} {scope:Scope} {f:Addr} {cd:Value} {A:Around} {outer:List Env} {s s1:Shared} {H:Hp} {E:XK} {us:List Value} {vs:List V}
  (S:a0l N ps scope) (hd:A.handled=none) (e0:a5W P w K mg base A outer s H) (hl:vs.length=ps.length) (r:a0w vs us)
  (x:InCallC s s.heap.objs.size (bindL (envOfC qual scope s.heap.objs.size f cd).kindOf (ps.zip us) λ_=>none) (cellsFrom (s.heap.objs.size+1) scope.names []) (bindC (envOfC qual scope s.heap.objs.size f cd).kindOf (ps.zip us) λ_=>none) s1) :
  Inv (a4S CX P w K mg base N qual scope f cd A outer s H E) [] (start N vs) H s1:=by
 have hpl:ps.length<=N.length:=by have:=b7m List.length S.pre;rw[b5R] at this;omega
 obtain⟨h1,tk,rfl,hk⟩:=x.done;have noA:∀b:Addr,b∉(a4S CX P w K mg base N qual scope f cd A outer s H E).ex:=λb z=>absurd (show b∈([]:List Addr) from z) (by simp);refine⟨⟨e0.mod,S.kind,rfl,rfl,b5G _,λy z c h1 h2=>?_,λy hy=>?_,λy c _ h=>?_,λ_=>hd,Around.frames_deeper e0.frames,.inr ⟨rfl,rfl⟩,λb z=>absurd z (noA b),e0.bs,e0.bsz,λb _ _=>noA b,λb z=>absurd z (noA b),e0.funs,e0.frf⟩,
  rfl,e0.bare,Un.kept hk,⟨_,x.toInCall.ns,λi y v h1 h2 h3=>?_⟩,λy c h=>⟨_,x.cell y c h⟩,e0.hok.fresh (b5G _),λy c h=>?_,λp hp=>absurd (show p∈([]:List (Addr × Obj)) from hp) (by simp),e0.hok.kept hk,?_⟩
 ·exact name_of_addr x.apart (b7e h1) (b7e h2)
 ·have hy:scope.names.lookup y=some .cell\/scope.names.lookup y=some .free:=hy;rcases hy with hy|hy
  ·exact a6O hy
  ·exact absurd rfl (S.nofree _ (b7e hy))
 ·exact b7n (x.above y c (b7e h))
 ·have hi:i<vs.length:=by
   unfold start at h2;by_cases hi:i<vs.length
   ·exact hi
   ·rw[b6w (by simpa using hi)] at h2;rw[b8t] at h2;split at h2<;>cases h2
  have ha:vs[i]?=some v:=by
   unfold start at h2;rw[b6T (by simpa using hi),b5L] at h2;cases e:vs[i]? with
   | none=>rw[e] at h2;cases h2
   | some a=>rw[e] at h2;cases h2;rfl
  obtain⟨u,hu,rv⟩:=r.get ha;have hp:ps[i]?=some y:=by
   rw[<-S.pre,List.getElem?_take_of_lt (by omega)];exact h1
  have ndP:ps.Nodup:=by rw[<-S.pre];exact S.nd.sublist (c0G _ _)
  refine⟨u,rv,?_⟩;rcases S.par y (b5M hp) with k|k
  ·exact .inl ⟨k,a4Z ndP hp hu k⟩
  ·obtain⟨c,e⟩:=a6O (n:=s.heap.objs.size+1) k;refine .inr ⟨.inl k,c,e,?_⟩;have q:=x.cell y c e;rw[a5a ndP hp hu (by show scope.names.lookup y≠_;rw[k];decide)] at q;exact q
 ·exact e0.hok.fresh (b7n (x.above y c (b7e h)))
 ·unfold start;show _=N.length;rw[b5J,b5x,b7P];omega
theorem fn_of {CX:CXT} {P:Program} {w:World} {K:PySem.W.Frag} {mg:Str->Option Value} {base:Heap} {k:Nat} {f:Addr} {name qual:Str} {params:Arguments} {body:List Stmt} {scope:Scope} {dV kV doc pm cdv ct oc:Value} {an od:Option Addr}
  {osl:Array (Option Value)} {N ps:List Str} {sp:Sp} (lk:K.lookup f=some ⟨oc,od,.func (PySem.W.fnOf name qual params body scope dV kV doc pm an cdv ct),osl⟩) (hcd:PySem.W.codeIn K cdv qual=true) (S:a0l N ps scope)
  (len:∀vs H Q E,sp vs H Q E->vs.length=ps.length)
  (hbody:∀(A:Around) (outer:List Env) (s:Shared) (H:Hp) (vs:List V) (Q:VK) (E:XK),a1z k (A.deeper (envOfC qual scope s.heap.objs.size f cdv))->sp vs H Q E ->
   ∃t,PSs (a4S CX P w K mg base N qual scope f cdv A outer s H E) body t/\t { nx:=λ_ H'=>Q .non H',rt:=Q } (start N vs) H) :
  a0Y P w K mg base CX (k+1) f (PySem.W.fnOf name qual params body scope dV kV doc pm an cdv ct) ps sp:=by
 refine⟨len,λA outer s H args us vs Q E hr e0 hb r hsp=>?_⟩;have hl:=len _ _ _ _ hsp;have KX:K.In s.heap:=e0.mod.kin.keeps λb o e=>(e0.bs b o e).1;have lim:s.heap.NoLimit:=e0.mod.nolimit.keeps λb o e=>(e0.bs b o e).1;have hkind:∀y∈ps.zip us,scope.names.lookup y.1=some .local\/(scope.names.lookup y.1=some .cell/\((cellsFrom (s.heap.objs.size+1) scope.names []).lookup y.1).isSome=true):=λ⟨n,v⟩ hy=>by
  rcases S.par n (b9q hy).1 with q|q
  ·exact .inl q
  ·exact .inr ⟨q,PySem.W.cellsFrom_some _ _ _ (.inl q)⟩
 refine codeAny_call_function hr.depth (KX _ _ lk) rfl S.co S.gen rfl (PySem.W.codeRec_of KX hcd) (hb _ _ _ _ ?_);refine wpAny_newFunctionEnv_cells S.kind hkind λenv he s1 x=>?_;subst he;refine⟨lim.keeps x.toInCall.keep,codeAny_func ?_⟩;obtain⟨t,ht,hq⟩:=hbody A outer s H vs Q E (hr.deeper _) hsp;have I:Inv (a4S CX P w K mg base N qual scope f cdv A outer s H E) [] (start N vs) H s1:=a9c S hr.hd e0 hl r x;refine b7Y (ht [] s1 (start N vs) H _ I hq) (λfl s' hs=>?_) λe s' hs=>hs;have fin:∀{σ':St} {H':Hp} {v:V} {u:Value},Inv (a4S CX P w K mg base N qual scope f cdv A outer s H E) [] σ' H' s'->a0Q v u->Q v H'->CE outer P w H s Q u s' :=
  λ{σ' H' v u} J rv q=>⟨v,H',J.os,J.bare,J.base,J.hok,rv,q⟩
 cases fl with
 | ret u =>
  obtain⟨v,σ',H',J,rv,q⟩:=hs;exact fin J rv q
 | next =>
  obtain⟨σ',H',J,q⟩:=hs;exact fin (v:=V.non) (u:=Value.none) J rfl q
 | brk =>
  obtain⟨_,_,_,q⟩:=hs;exact False.elim q
 | cont =>
  obtain⟨_,_,_,q⟩:=hs;exact False.elim q
section
variable {X:Cx} {x:Str} {p pos:Pos} {e:Expr} {es:List Expr} {t:TA} {id T:String} {r:List V->Hp->VK->Prop}
def tCB (r:List V->Hp->VK->Prop) (t:TA):TE:=λσ H Q=>t σ H λvs H1=>r vs H1 Q
theorem a0S (hc:a2w X (.builtin id) r) (hg:Gl X x) (hm:X.mg x=none) (hv:bootBuiltins x=some (.builtin id)) (ha:PA X (e::es) t) (hn:x≠"__name__":=by decide) (hdb:(x==("__debug__":Str))=false:=by decide)
  (he:starEach (e::es) X.env=(false,eval e X.env)::starEach es X.env:=by rfl) (hpl:(backTo pos (starEach es X.env)).any (·.1)=false:=by rfl):PE X (.Call (.Name x p) (e::es) [] pos) (tCB r t):=by
 intro pins s σ H Q I h;refine b6y (a1i I hg hm hv ?_ hn hdb);exact b8q (thn (ha pos pins s σ H _ I h) λus s1 ⟨vs,H1,I1,r1,q1⟩=>hc pins s1 σ H1 vs us Q I1 r1 q1) he hpl
theorem a1j (hc:a2w X (.type T) r) (hg:Gl X x) (hm:X.mg x=none) (hv:bootBuiltins x=some (.type T)) (ha:PA X (e::es) t) (hn:x≠"__name__":=by decide) (hdb:(x==("__debug__":Str))=false:=by decide)
  (he:starEach (e::es) X.env=(false,eval e X.env)::starEach es X.env:=by rfl) (hpl:(backTo pos (starEach es X.env)).any (·.1)=false:=by rfl):PE X (.Call (.Name x p) (e::es) [] pos) (tCB r t):=by
 intro pins s σ H Q I h;refine b6y (a1i I hg hm hv ?_ hn hdb);exact b6Y (thn (ha pos pins s σ H _ I h) λus s1 ⟨vs,H1,I1,r1,q1⟩=>hc pins s1 σ H1 vs us Q I1 r1 q1) he hpl
end
end L2
namespace HT
open PySem PyProof.Rows
def a0x:List Int->List Int->Bool
 | [],[]=>false
 | [],_::_=>true
 | _::_,[]=>false
 | x::xs,y::ys=>if x=y then a0x xs ys else decide (x<y)
theorem a0L (x y:Int) (xs ys:List Int):a0x (x::xs) (y::ys)=if x=y then a0x xs ys else decide (x<y):=rfl
theorem a4b:a0x [] []=false:=rfl
theorem a3B (y:Int) (ys:List Int):a0x [] (y::ys)=true:=rfl
theorem a3C (x:Int) (xs:List Int):a0x (x::xs) []=false:=rfl
theorem a6P (A:Around) (s:Shared) (a:Int) (t:Tok) (c:Int) (u:Tok):∃e,SeqAt.EqAt A s (.int a t) (.int c u) e/\(e=true↔a=c) :=
 ⟨(a==c),SeqAt.EqAt.int_int a t c u,by simp⟩
theorem a6Q (A:Around) (s:Shared) (a:Int) (t:Tok) (c:Int) (u:Tok) (prog:Program) (w:World) (E:Value->Shared->Prop) (Q:Value->Shared->Prop) (h:Q (.bool (decide (a<c))) s) :
  wpAny (model prog w) A (richCompare .Lt (.int a t) (.int c u)) Q E s :=
 (PyProof.Rows.lt_int h:wpAny (model prog w) A (compareOp .Lt (.int a t) (.int c u)) Q E s)
section
open PySem.SeqAt
open PySem.AutoSeq1 (wpAny_loadPart')
open PySem.MeetsSeq PySem.MeetsSeq2 PySem.MeetsSeq3
theorem a4c (l b:Addr) (items items2:Array Value) (n n2:Nat) (dd dd2:Option Addr) (sl sl2:Array (Option Value)) (ns ms:List Int) (hi:IntsAre items.toList ns) (hj:IntsAre items2.toList ms) :
  Meets (Builtin.«tuple.__lt__» ⟨[.ref l,.ref b],[]⟩)
   (λ_ R s=>s.heap.get? l=some { cls:=.type "tuple",dict:=dd,data:=.seq items n,slots:=sl }/\s.heap.get? b=some { cls:=.type "tuple",dict:=dd2,data:=.seq items2 n2,slots:=sl2 } /\
    R (.ok (.ret (.bool (a0x ns ms)))) s) :=
 .of_wp λprog w A R s h=>by
  obtain⟨hp,g,d,tk,os⟩:=s;obtain⟨hl,hb,h⟩:=h;have f2:=AutoSeq1.sub_tuple_tuple;have z1:items.size=ns.length:=by rw[<-hi.length];simp
  have z2:items2.size=ms.length:=by rw[<-hj.length];simp
  wp_walk using b8M hl,b8M hb,b8z _ (λrest b s'=>b.1=none/\s'=⟨hp,g,d,tk,os⟩/\∃(vs ws:List Value) (ns' ms':List Int),rest=vs.zip ws /\
   IntsAre vs ns'/\IntsAre ws ms'/\ns'.length+items2.size=ms'.length+items.size/\R (.ok (.ret (.bool (a0x ns' ms')))) ⟨hp,g,d,tk,os⟩) _
  case turn =>
   rintro⟨y,x⟩ rest b s' ⟨hb',rfl,vs,ws,ns',ms',hz,hvi,hwi,hlen,hR⟩;cases hvi with
   | nil=>rw[List.zip_nil_left] at hz;cases hz
   | cons a t hvi' =>
    cases hwi with
    | nil=>rw[List.zip_nil_right] at hz;cases hz
    | cons c u hwi' =>
     rw[b8h] at hz;injection hz with hyx hrest;injection hyx with hy hx;subst hy hx;rw[a0L] at hR;simp only[b5T] at hlen;obtain⟨e,he,hiff⟩:=a6P A.in1 ⟨hp,g,d,tk,os⟩ a t c u;refine b5w (he prog w _ _ ?_);cases e with
     | true =>
      rw[if_pos (hiff.mp rfl)] at hR
      wp_walk
      exact⟨rfl,rfl,_,_,_,_,hrest,hvi',hwi',by omega,hR⟩
     | false =>
      rw[if_neg (λq=>absurd (hiff.mpr q) b5Y)] at hR;have hri:=a6Q A.in1 ⟨hp,g,d,tk,os⟩ a t c u prog w
      wp_walk using hri
      exact⟨_,rfl,by simpa using hR⟩
  case fin =>
   rintro⟨b1,b2⟩ s' ⟨hb',rfl,vs,ws,ns',ms',hz,hvi,hwi,hlen,hR⟩;simp only at hb';subst hb';have hv:a0x ns' ms'=decide (items.size<items2.size):=by
    cases hvi with
    | nil =>
     cases hwi with
     | nil =>
      simp only[b7o] at hlen;rw[a4b];exact(b6N (by omega)).symm
     | cons c u hw =>
      simp only[b7o,b5T] at hlen;rw[a3B];exact(b6b (by omega)).symm
    | cons a t hv =>
     cases hwi with
     | nil =>
      simp only[b7o,b5T] at hlen;rw[a3C];exact(b6N (by omega)).symm
     | cons c u hw =>
      rw[b8h] at hz;cases hz
   rw[hv] at hR
   wp_walk
   exact⟨_,rfl,by simpa [Builtin.Tuple.tupleCompareSizes] using hR⟩
  case h =>
   exact⟨rfl,rfl,items.toList,items2.toList,ns,ms,rfl,hi,hj,by omega,h⟩
end
section
variable {prog:Program} {w:World} {A:Around} {E:Value->Shared->Prop} {s:Shared}
theorem a3I {l b:Addr} {items items2:Array Value} {ns ms:List Int} {Q:Value->Shared->Prop} (hl:IsTup s.heap l items) (hb:IsTup s.heap b items2) (hi:IntsAre items.toList ns) (hj:IntsAre items2.toList ms)
  (hu:A.units<cLine) (h:Q (.bool (a0x ns ms)) s):wpAny (model prog w) A (compareOp .Lt (.ref l) (.ref b)) Q E s:=by
 obtain⟨⟨cls,dd,data,sl⟩,ho,hc,n,hd⟩:=id hl;obtain⟨⟨cls2,dd2,data2,sl2⟩,ho2,hc2,n2,hd2⟩:=id hb;simp only at hc hd hc2 hd2;subst hc hd hc2 hd2;exact richCompare_meets_room (op:=.Lt) ⟨_,ho,rfl⟩ ⟨_,ho2,rfl⟩ PySem.F.slot_tuple_lt PySem.F.entry_tuple_lt (PySem.F.args_tuple_lt_2 _ _) (a4c l b items items2 n n2 dd dd2 sl sl2 ns ms hi hj)
  ⟨ho,ho2,show Value.bool (a0x ns ms)≠Value.notImplemented/\Q (.bool (a0x ns ms)) s from⟨(λx=>nomatch x),h⟩⟩ hu
theorem b3M {t b:Addr} {vs ws:List Value} {Q:Value->Shared->Prop} (ht:IsTup s.heap t vs.toArray) (hb:IsTup s.heap b ws.toArray) (hv:vs≠[])
  (h1:ws=[]->Q (.ref t) s) (h2:ws≠[]->Q (.ref s.heap.objs.size) { s with heap:=s.heap.push { cls:=.type "tuple",data:=.seq (vs++ws).toArray } })
  (hsz:vs.length+ws.length<=sizeLine):wpAny (model prog w) A (binaryOp .Add (.ref t) (.ref b)) Q E s:=by
 obtain⟨⟨cls,dd,data,sl⟩,ho,hc,n,hd⟩:=id ht;obtain⟨⟨cls2,dd2,data2,sl2⟩,ho2,hc2,n2,hd2⟩:=id hb;simp only at hc hd hc2 hd2;subst hc hd hc2 hd2;have e:vs.toArray++ws.toArray=(vs++ws).toArray:=by simp
 by_cases hw:ws=[]
 ·exact concat_meets ⟨_,ho,rfl⟩ ⟨_,ho2,rfl⟩ c0W seq_tuple_add b9w b9r (b9j _ _)
   (tuple_addW1 t b vs.toArray ws.toArray n n2 dd dd2 sl sl2 (by simpa using hv) (by simp[hw])) ⟨ho,ho2,h1 hw⟩
 ·refine concat_meets ⟨_,ho,rfl⟩ ⟨_,ho2,rfl⟩ c0W seq_tuple_add b9w b9r (b9j _ _)
   (tuple_addW2 t b vs.toArray ws.toArray n n2 dd dd2 sl sl2 (by simpa using hv) (by simpa using hw) (by rw[b5I,b5I];exact hsz)) ⟨ho,ho2,?_⟩
  rw[e];exact h2 hw
def sIx (n d:Nat):Option Int->Nat
 | none=>d
 | some v=>if v<0 then (v+(n:Int)).toNat else min v.toNat n
theorem a6R (n d:Nat):sIx n d none=d:=rfl
theorem a5X (n d k:Nat):sIx n d (some (k:Int))=min k n:=by
 show(if (k:Int)<0 then ((k:Int)+(n:Int)).toNat else min (k:Int).toNat n)=min k n;rw[if_neg (by omega),b6Z]
theorem sIx_le (n d:Nat) (hd:d<=n) (o:Option Int):sIx n d o<=n:=by
 cases o with
 | none=>exact hd
 | some v =>
  show(if v<0 then (v+(n:Int)).toNat else min v.toNat n)<=n;by_cases hv:v<0
  ·rw[if_pos hv];omega
  ·rw[if_neg hv];exact Nat.min_le_right _ _
theorem a9d (v:Int) (n d:Nat):(if v<0 then max (v+(n:Int)) 0 else min v (n:Int))=((sIx n d (some v):Nat):Int):=by
 show(if v<0 then max (v+(n:Int)) 0 else min v (n:Int))=(((if v<0 then (v+(n:Int)).toNat else min v.toNat n):Nat):Int)
 by_cases hv:v<0
 ·simp only[if_pos hv];omega
 ·simp only[if_neg hv];omega
theorem a7V (lo hi:Option Int) (n:Nat):Builtin.Slice.sliceAdjust lo hi 1 (n:Int)=(((sIx n 0 lo:Nat):Int),((sIx n n hi:Nat):Int)):=by
 have h1:¬((1:Int)<0):=by omega
 unfold Builtin.Slice.sliceAdjust;simp only[h1,b7L];refine b9F ?_ ?_
 ·cases lo with
  | none=>rfl
  | some v=>exact a9d v n 0
 ·cases hi with
  | none=>rfl
  | some v=>exact a9d v n n
theorem a7W (i j:Nat):Builtin.Slice.slicePlaces (i:Int) (j:Int) 1=j-i:=by
 unfold Builtin.Slice.slicePlaces;have h1:(1:Int)>0:=by omega
 simp only[h1,if_true,Int.ediv_one];split<;>omega
theorem a3J {v:Value} {o:Option Int} {Q:Option Int->Shared->Prop} (p:IsPart v o) (h:Q o s):wpAny (model prog w) A (Builtin.Slice.slicePartIndex v) Q E s:=by
 cases p with
 | none=>exact slicePart_none h
 | int i t=>exact slicePart_int h
theorem a1H {sl:Addr} {vl vu:Value} {lo hi:Option Int} {n:Nat} {Q:Int × Int × Nat->Shared->Prop} (hs:s.heap.IsSliceOf sl vl vu .none) (pl:IsPart vl lo) (pu:IsPart vu hi)
  (h:Q (((sIx n 0 lo:Nat):Int),1,sIx n n hi-sIx n 0 lo) s):wpAny (model prog w) A (Builtin.Slice.sliceApplied (.ref sl) (pure (n:Int))) Q E s:=by
 obtain⟨os,hos,hcs,hds⟩:=id hs;unfold Builtin.Slice.sliceApplied Builtin.Slice.sliceFields;refine b5w (b5w (b6v hos hds (x:=vl) rfl (b5w (b6v hos hds (x:=vu) rfl (b5w (b6v hos hds (x:=.none) rfl (b5A ?_)))))));refine b5w (slicePart_none ?_);show wpAny _ _ (if ((1:Int)==0)=true then _ else _) _ _ s;rw[if_neg (by decide)];refine b5w (a3J pl (b5w (a3J pu (b5w (b5A ?_)))));show wpAny _ _ (match Builtin.Slice.sliceAdjust lo hi 1 (n:Int) with|(lo,hi)=>pure (lo,(1:Int),Builtin.Slice.slicePlaces lo hi 1)) _ _ s;rw[a7V lo hi n];show wpAny _ _ (pure (((sIx n 0 lo:Nat):Int),(1:Int),Builtin.Slice.slicePlaces ((sIx n 0 lo:Nat):Int) ((sIx n n hi:Nat):Int) 1)) _ _ s;rw[a7W];exact b5A h
theorem b1s (xs:Array Value) (i k:Nat):((List.range k).filterMap λ(m:Nat)=>xs[((i:Int)+(m:Int)*1).toNat]?).toArray=((xs.toList.drop i).take k).toArray:=by
 have e:(λ(m:Nat)=>xs[((i:Int)+(m:Int)*1).toNat]?)=λm=>xs[i+m]?:=by
  funext m;have:((i:Int)+(m:Int)*1).toNat=i+m:=by omega
  rw[this]
 rw[e];have:=pick_run xs i k;rw[List.filterMap_map] at this;have e2:((λx=>xs[x]?) ∘ λx=>i+x)=λm=>xs[i+m]?:=rfl;rw[e2] at this;rw[this]
theorem a2x {t sl:Addr} {items:Array Value} {vl vu:Value} {lo hi:Option Int} {Q:Value->Shared->Prop} (ht:IsTup s.heap t items) (hs:s.heap.IsSliceOf sl vl vu .none) (pl:IsPart vl lo) (pu:IsPart vu hi)
  (hw:¬(sIx items.size 0 lo=0/\sIx items.size items.size hi=items.size))
  (h:Q (.ref s.heap.objs.size) { s with heap:=s.heap.push { cls:=.type "tuple",data:=.seq ((items.toList.drop (sIx items.size 0 lo)).take (sIx items.size items.size hi-sIx items.size 0 lo)).toArray } })
  (hsz:items.size<=sizeLine):wpAny (model prog w) A (getItem (.ref t) (.ref sl)) Q E s:=by
 have htake:sizeOk (.seq ((items.toList.drop (sIx items.size 0 lo)).take (sIx items.size items.size hi-sIx items.size 0 lo)).toArray):=by
  show((items.toList.drop (sIx items.size 0 lo)).take (sIx items.size items.size hi-sIx items.size 0 lo)).toArray.size<=sizeLine;rw[b5I,b5R,b8A,b6a];omega
 have hj:sIx items.size items.size hi<=items.size:=sIx_le _ _ (b5G _) hi;obtain⟨os,hos,hcs,hds⟩:=id hs;have hTs:s.TypeIs (.ref sl) "slice":=⟨os,hos,hcs⟩
 unfold getItem
 try with_reducible refine b6d ?_
 first|refine b5w (b5A ?_)|skip
 refine b5w (wpAny_sequenceKey ht.typeIs (by decide) ?_);refine b5w (b6s (name:=Str.ofString "__getitem__") ht.typeIs b7a
  (b6i b7a ht.typeIs entry_tuple_getitem ?_ (args_tuple_getitem _ _)))
 show wpAny _ _ (Builtin.Tuple.tupleItemsOf (.ref t) >>= _) _ _ s;refine b5w (tupleItemsOf_ ht ?_);refine b5w (b9k hTs ?_);rw[if_pos (by decide)];refine b5w (a1H hs pl pu ?_);have hno:¬((((sIx items.size 0 lo:Nat):Int)==0&&(1:Int)==1&&(sIx items.size items.size hi-sIx items.size 0 lo)==items.size)=true):=by
  intro q;rw[b6W,b6W] at q;have q1:((sIx items.size 0 lo:Nat):Int)=0:=eq_of_beq q.1.1;have q2:sIx items.size items.size hi-sIx items.size 0 lo=items.size:=eq_of_beq q.2;exact hw ⟨by omega,by omega⟩
 show wpAny _ _ (if (((sIx items.size 0 lo:Nat):Int)==0&&(1:Int)==1&&(sIx items.size items.size hi-sIx items.size 0 lo)==items.size)=true then _ else _) _ _ s;rw[if_neg hno,b1s]
 first
  | exact b5w (m:=Builtin.Tuple.tupleExact _) (b6p (b5A ⟨_,rfl,b5A h⟩) htake)
  | exact b5w (m:=Builtin.Tuple.tupleExact _) (b6p (b5w (b5A (b5A ⟨_,rfl,b5A h⟩))) htake)
  | exact b5w (b5w (m:=Builtin.Tuple.tupleExact _) (b6p (b5A (b5A ⟨_,rfl,b5A h⟩)) htake))
  | exact b5w (b5w (m:=Builtin.Tuple.tupleExact _) (b6p (b5A ⟨_,rfl,b5A h⟩) htake))
end
end HT
namespace L2
open PySem PySem.Spec PyProof.Rows
abbrev TO:=St->Hp->(Option Int->Hp->Prop)->Prop
def PO (X:Cx) (e:Option Expr) (t:TO):Prop :=
 ∀(pins:List (Addr × Obj)) (s:Shared) (σ:St) (H:Hp) (Q:Option Int->Hp->Prop),Inv X pins σ H s->t σ H Q ->
  wpAny (model X.prog X.w) X.A (evalPart e X.env) (λu s'=>∃o H',Inv X pins σ H' s'/\IsPart u o/\Q o H') X.xe s
def b3N:TO:=λ_ H Q=>Q none H
def tPart (t:TE):TO:=λσ H Q=>t σ H λx H1=>∃i,x=.int i/\Q (some i) H1
section
variable {X:Cx} {e:Expr} {te:TE} {lo hi:Option Expr} {tl th:TO} {pos p2:Pos}
theorem a1O:PO X none b3N:=by
 intro pins s σ H Q I h;rw[evalPart_none];exact b5A ⟨none,H,I,.none,h⟩
theorem a1P (h:PE X e te):PO X (some e) (tPart te):=by
 intro pins s σ H Q I hw;rw[evalPart_some];refine thn (h pins s σ H _ I hw) λu s1 ⟨x,H1,I1,r1,q1⟩=>?_;obtain⟨i,rfl,q⟩:=q1;obtain⟨t,rfl⟩:=r1;exact⟨some i,H1,I1,.int i t,q⟩
def SlR (X:Cx) (r:V->Option Int->Option Int->Hp->VK->Prop):Prop :=
 ∀(pins:List (Addr × Obj)) (s:Shared) (σ:St) (H:Hp) (x:V) (v vl vu:Value) (lo hi:Option Int) (sl:Addr) (Q:VK),Inv X pins σ H s->a0Q x v->s.heap.IsSliceOf sl vl vu .none->IsPart vl lo->IsPart vu hi->r x lo hi H Q ->
  ∃T id,typeLookup (.type T) "__getitem__"=pure (some (.builtin id))/\s.TypeIs v T/\wpAny (model X.prog X.w) X.A (getItem v (.ref sl)) (EP X pins σ Q) X.xe s
def tSl (r:V->Option Int->Option Int->Hp->VK->Prop) (te:TE) (tl th:TO):TE:=λσ H Q=>te σ H λx H1=>tl σ H1 λl H2=>th σ H2 λu H3=>r x l u H3 Q
theorem a1o {r:V->Option Int->Option Int->Hp->VK->Prop} (hr:SlR X r) (he:PE X e te) (hl:PO X lo tl) (hu:PO X hi th):PE X (.Subscript e (.Slice lo hi none p2) pos) (tSl r te tl th):=by
 intro pins s σ H Q I h;refine Subscript_ (thn (he pins s σ H _ I h) λv s1 ⟨x,H1,I1,r1,q1⟩=>?_);refine wpAny_Slice (thn (hl pins s1 σ H1 _ I1 q1) λvl s2 ⟨l,H2,I2,pl,q2⟩=>thn (hu pins s2 σ H2 _ I2 q2) λvu s3 ⟨u,H3,I3,pu,q3⟩=>?_);rw[evalPart_none];refine b5A ?_;have I4:Inv X pins σ H3 { s3 with heap:=s3.heap.push { cls:=.type "slice",data:=.fields #[vl,vu,.none] } }:=I3.kept (t':=s3.toks) λb ob q=>b5y _ q;obtain⟨T,id,hT,ht,hg⟩:=hr pins { s3 with heap:=s3.heap.push { cls:=.type "slice",data:=.fields #[vl,vu,.none] } } σ H3 x v vl vu l u s3.heap.objs.size Q I4 r1 (Heap.IsSliceOf.new ..) pl pu q3;show wpAny (model X.prog X.w) X.A (subscriptTail e (.Slice lo hi none p2) v (.ref s3.heap.objs.size)) (EP X pins σ Q) X.xe { s3 with heap:=s3.heap.push { cls:=.type "slice",data:=.fields #[vl,vu,.none] } };exact tail_any (ops:=[.ref s3.heap.objs.size,v]) ht hT hg (by with_unfolding_all rfl)
def a5b (xs:List V) (lo hi:Option Int):List V:=(xs.drop (HT.sIx xs.length 0 lo)).take (HT.sIx xs.length xs.length hi-HT.sIx xs.length 0 lo)
theorem a2X (xs:List V) (lo hi:Option Int):(a5b xs lo hi).length<=xs.length:=by
 unfold a5b;rw[b5R,b8A];omega
def rSlT (K:PySem.W.Frag):V->Option Int->Option Int->Hp->VK->Prop:=λx lo hi H Q=>∃a xs,x=.ref a/\SqT K H a xs /\
 ¬(HT.sIx xs.length 0 lo=0/\HT.sIx xs.length xs.length hi=xs.length)/\∀p,H p=none->Q (.ref p) (upd H p (.tup (a5b xs lo hi)))
theorem b2R:SlR X (rSlT X.K):=by
 intro pins s σ H x v vl vu lo hi sl Q I rx hs pl pu h;obtain⟨a,xs,rfl,hx,hw,q⟩:=h;cases rx;obtain⟨its,r,ht,hz⟩:=I.tuple hx;have hlen:its.toArray.size=xs.length:=by rw[b5I];exact r.length.symm
 refine⟨"tuple",_,b7a.lookup,ht.typeIs,?_⟩;refine HT.a2x ht hs pl pu (by rw[hlen];exact hw) ?_ (by rw[hlen];exact hz);rw[hlen];refine⟨.ref s.heap.objs.size,_,I.laid (t':=s.toks) (o:=.tup (a5b xs lo hi)) (λb ob q=>b5y _ q) (b5G _) ?_,rfl,q _ (I.hok.fresh (b5G _))⟩;exact⟨b6R (a2X xs lo hi) hz,_,(r.drop (HT.sIx xs.length 0 lo)).take (HT.sIx xs.length xs.length hi-HT.sIx xs.length 0 lo),a4R.new _ _⟩
def rCatT (K:PySem.W.Frag):R2:=λx y H Q=>∃a b xs ys,x=.ref a/\y=.ref b/\SqT K H a xs/\SqT K H b ys/\xs≠[]/\xs.length+ys.length<=sizeLine /\
 (ys=[]->Q (.ref a) H)/\(ys≠[]->∀p,H p=none->Q (.ref p) (upd H p (.tup (xs++ys))))
theorem a0w.nil_iff {xs:List V} {us:List Value} (r:a0w xs us):us=[]↔xs=[]:=by
 cases r with
 | nil=>simp
 | cons _ _=>simp
theorem b3O:OpR X (binaryOp .Add) (rCatT X.K):=by
 intro pins s σ H x y v u Q I rx ry h;obtain⟨a,b,xs,ys,rfl,rfl,ha,hb,hx,hz,q1,q2⟩:=h;cases rx;cases ry;obtain⟨its,r1,p1,_⟩:=I.tuple ha;obtain⟨its2,r2,p2,_⟩:=I.tuple hb;refine HT.b3M p1 p2 (λz=>hx (r1.nil_iff.mp z)) (λz=>⟨.ref a,H,I,rfl,q1 (r2.nil_iff.mp z)⟩) (λz=>?_) (by rw[<-r1.length,<-r2.length];exact hz);refine⟨.ref s.heap.objs.size,_,I.laid (t':=s.toks) (o:=.tup (xs++ys)) (λb ob q=>b5y _ q) (b5G _) ?_,rfl,q2 (λw=>z (r2.nil_iff.mpr w)) _ (I.hok.fresh (b5G _))⟩;exact⟨by rw[b5J];exact hz,_,r1.append r2,a4R.new _ _⟩
end
def ixN (n:Nat) (i:Int):Option Nat:=if 0<=i then (if i<n then some i.toNat else none) else if -(n:Int)<=i then some (i+n).toNat else none
def atI {α:Type} (xs:List α) (i:Int):Option α:=(ixN xs.length i).bind λj=>xs[j]?
theorem a9e {n:Nat} {i:Int} {j:Nat} (h:ixN n i=some j):seqIndex? i n=some j/\j<n/\-(n:Int)<=i/\i<n:=by
 unfold ixN at h;by_cases h0:0<=i
 ·rw[if_pos h0] at h;by_cases h1:i<n
  ·rw[if_pos h1] at h;have e:i.toNat=j:=b5U h;exact⟨by rw[seqIndex_of h0 h1,e],by omega,by omega,h1⟩
  ·rw[if_neg h1] at h;cases h
 ·rw[if_neg h0] at h;by_cases h1:-(n:Int)<=i
  ·rw[if_pos h1] at h;have e:(i+n).toNat=j:=b5U h;exact⟨by rw[seqIndex_neg (by omega) h1,e],by omega,h1,by omega⟩
  ·rw[if_neg h1] at h;cases h
theorem a9f {α:Type} {xs:List α} {i:Int} {v:α} (h:atI xs i=some v):∃j,seqIndex? i xs.length=some j/\xs[j]?=some v/\j<xs.length/\-(xs.length:Int)<=i/\i<xs.length:=by
 unfold atI at h;cases e:ixN xs.length i with
 | none=>rw[e] at h;cases h
 | some j =>
  rw[e] at h;obtain⟨h1,h2,h3,h4⟩:=a9e e;exact⟨j,h1,h,h2,h3,h4⟩
theorem a4d {α:Type} {xs:List α} {j:Nat} {v:α} (h:xs[j]?=some v):atI xs (j:Int)=some v:=by
 have hj:j<xs.length:=(b5E.mp h).1;have e:ixN xs.length (j:Int)=some j:=by
  unfold ixN;rw[if_pos (by omega),if_pos (by omega)];simp
 unfold atI;rw[e];exact h
theorem a6S {α:Type} (xs:List α) (v:α):atI (xs++[v]) (-1)=some v:=by
 have hl:(xs++[v]).length=xs.length+1:=by simp
 have e:ixN (xs++[v]).length (-1)=some xs.length:=by
  unfold ixN;rw[hl,if_neg (by decide),if_pos (by omega)];congr 1;omega
 unfold atI;rw[e];show(xs++[v])[xs.length]?=some v;simp
def a9g (b:Expr):Prop:=∀o i,subscripted b false o i=operate [o,i] (getItem o i)
def IxR (X:Cx) (r:R2):Prop :=
 ∀(value slice:Expr) (pins:List (Addr × Obj)) (s:Shared) (σ:St) (H:Hp) (x y:V) (v u:Value) (Q:VK),Inv X pins σ H s->a0Q x v->a0Q y u->r x y H Q ->
  subscripted slice false v u=operate [v,u] (getItem v u)->wpAny (model X.prog X.w) X.A (subscriptTail value slice v u) (EP X pins σ Q) X.xe s
def MtR (X:Cx) (id:String) (r:V->List V->Hp->VK->Prop):Prop :=
 ∀(pins:List (Addr × Obj)) (s:Shared) (σ:St) (H:Hp) (x:V) (xs:List V) (v:Value) (us:List Value) (Q:VK),Inv X pins σ H s->a0Q x v->a0w xs us->r x xs H Q ->
  wpAny (model X.prog X.w) X.A (call (.builtin id) (v::us)) (EP X pins σ Q) X.xe s
section
variable {X:Cx} {a b:Expr} {ta tb:TE} {pos:Pos}
theorem pe_ix {r:R2} (hr:IxR X r) (ha:PE X a ta) (hb:PE X b tb) (hs:a9g b):PE X (.Subscript a b pos) (tOp r ta tb):=by
 intro pins s σ H Q I h;exact Subscript_ (binT ha hb I h λv u s2 x y H2 I2 rx ry q=>hr a b pins s2 σ H2 x y v u Q I2 rx ry q (hs _ _))
theorem pxA {r:R2} (hr:IxR X r) (ha:PE X a ta) (hb:PE X b tb) (hs:a9g b:=by exact λ_ _=>rfl):PE X (.Subscript a b pos) (tOp r ta tb):=pe_ix hr ha hb hs
def rIxL (K:PySem.W.Frag):R2:=λx y H Q=>∃p xs i v,x=.ref p/\y=.int i/\SqL K H p xs/\atI xs i=some v/\Q v H
def rIxT (K:PySem.W.Frag):R2:=λx y H Q=>∃p xs i v,x=.ref p/\y=.int i/\SqT K H p xs/\atI xs i=some v/\Q v H
def rIxS:R2:=λx y H Q=>∃z i c,x=.str z/\y=.int i/\z.length<=sizeLine/\atI z.cps.toList i=some c/\Q (.str ⟨#[c]⟩) H
theorem a0u:IxR X (rIxL X.K):=by
 intro value slice pins s σ H x y v u Q I rx ry h hs;obtain⟨p,xs,i,z,rfl,rfl,hq,he,q⟩:=h;cases rx;obtain⟨t,rfl⟩:=ry;obtain⟨its,r,pl,hz⟩:=I.list hq;obtain⟨j,h1,h2,h3,h4,h5⟩:=a9f he;obtain⟨w,ew,rw'⟩:=r.get h2;have hl:=r.length;have hn:=a6N;have fin:EP X pins σ Q w s:=⟨z,H,I,rw',q⟩
 by_cases h0:0<=i
 ·have hj:i.toNat=j:=by
   rw[seqIndex_of h0 h5] at h1;exact b5U h1
  exact item_listR pl.isList h0 (by omega) (by rw[hj];simpa using ew) fin hs
 ·have hj:(i+(its.toArray.size:Int)).toNat=j:=by
   rw[seqIndex_neg (by omega) h4] at h1;rw[b5I,<-hl];exact b5U h1
  exact subscriptTail_builtinR (x:=w) pl.isList.typeIs slot_list_getitem.lookup
   (wpAny_getItem_list_neg (Q:=λr s'=>r=w/\EP X pins σ Q r s') pl.isList (by omega) (by rw[b5I]<;>omega) (by omega) (by rw[hj];simpa using ew) ⟨rfl,fin⟩) hs
theorem a1I:IxR X (rIxT X.K):=by
 intro value slice pins s σ H x y v u Q I rx ry h hs;obtain⟨p,xs,i,z,rfl,rfl,hq,he,q⟩:=h;cases rx;obtain⟨t,rfl⟩:=ry;obtain⟨its,r,pl,hz⟩:=I.tuple hq;obtain⟨j,h1,h2,h3,h4,h5⟩:=a9f he;obtain⟨w,ew,rw'⟩:=r.get h2;have hl:=r.length;have hn:=a6N;have fin:EP X pins σ Q w s:=⟨z,H,I,rw',q⟩
 exact subscriptTail_builtinR (x:=w) pl.typeIs slot_tuple_getitem.lookup
  (getItem_tuple (j:=j) (Q:=λr s'=>r=w/\EP X pins σ Q r s') pl (by omega) (by omega) (by rw[b5I,<-hl];exact h1) (by simpa using ew) ⟨rfl,fin⟩) hs
def rIx (K:PySem.W.Frag):R2:=λx y H Q=>rIxL K x y H Q\/rIxT K x y H Q\/rIxS x y H Q
theorem a7X (its:List Value) (n j:Nat) (u:Value):Obj.mapSeq (·.setIfInBounds j u) { cls:=.type "list",data:=.seq its.toArray n }={ cls:=.type "list",data:=.seq (its.set j u).toArray n }:=by
 simp[Obj.mapSeq]
theorem Inv.lst {pins:List (Addr × Obj)} {σ:St} {H:Hp} {s:Shared} {p:Addr} {xs:List V} (I:Inv X pins σ H s) (h:H p=some (.lst xs)) :
  ∃(its:List Value) (n:Nat),a0w xs its/\s.heap.get? p=some { cls:=.type "list",data:=.seq its.toArray n }/\xs.length<=sizeLine:=by
 obtain⟨z,its,n,r,e⟩:=I.hok p _ h;exact⟨its,n,r,e,z⟩
theorem Inv.lstUpd {pins:List (Addr × Obj)} {σ:St} {H:Hp} {s:Shared} {p:Addr} {xs ys:List V} {its its':List Value} {n n':Nat} {f:Obj->Obj} (I:Inv X pins σ H s) (h:H p=some (.lst xs))
  (ho:s.heap.get? p=some { cls:=.type "list",data:=.seq its.toArray n }) (hf:f { cls:=.type "list",data:=.seq its.toArray n }={ cls:=.type "list",data:=.seq its'.toArray n' }) (r:a0w ys its') (hz:ys.length<=sizeLine) (t:Nat) :
  Inv X pins σ (upd H p (.lst ys)) { s with heap:=s.heap.update p f,toks:=t }:=by
 have e:(s.heap.update p f).get? p=some { cls:=.type "list",data:=.seq its'.toArray n' }:=by
  rw[b7d f ho (by rw[hf]<;>rfl),hf]
 refine I.write (x:=p) (e:=p) (by rw[h];trivial) (.inl rfl) (λb u hb q=>(b8c _ _ (Ne.symm hb)).trans q) ⟨_,e⟩ ?_;exact⟨hz,its',n',r,e⟩
def rSetL:V->V->V->Hp->(Hp->Prop)->Prop:=λo i v H Q=>∃p xs k j,o=.ref p/\i=.int k/\H p=some (.lst xs)/\ixN xs.length k=some j/\Q (upd H p (.lst (xs.set j v)))
theorem a4e:PSet X rSetL:=by
 intro pins s σ H o i v ov iv u Q I ro ri rv h;obtain⟨p,xs,k,j,rfl,rfl,hp,hj,q⟩:=h;cases ro;obtain⟨t,rfl⟩:=ri;obtain⟨its,n,r,ho,hz⟩:=I.lst hp;obtain⟨h1,h2,h3,h4⟩:=a9e hj;have hl:=r.length;have hn:=a6N;have I':Inv X pins σ (upd H p (.lst (xs.set j v))) { s with heap:=s.heap.update p (Obj.mapSeq (·.setIfInBounds j u)) } :=
  I.lstUpd hp ho (a7X its n j u) (r.set rv j) (by rw[c1b];exact hz) s.toks
 by_cases h0:0<=k
 ·have hk:k.toNat=j:=by
   rw[seqIndex_of h0 h4] at h1;exact b5U h1
  exact PySem.W.ki_setAt ho h0 (by omega) (by rw[b5I,<-hl];exact h4) (by rw[hk];exact⟨_,I',q⟩)
 ·have hk:(k+(its.toArray.size:Int)).toNat=j:=by
   rw[seqIndex_neg (by omega) h3] at h1;rw[b5I,<-hl];exact b5U h1
  exact PySem.W.ki_setBack ho (by omega) (by rw[b5I,<-hl];exact h3) (by omega) (by rw[hk];exact⟨_,I',q⟩)
theorem a5c (lo hi:Option Int) (n:Nat):(sliceBounds lo hi none n).1=((HT.sIx n 0 lo:Nat):Int)/\(sliceBounds lo hi none n).2.1=((HT.sIx n n hi:Nat):Int)/\(sliceBounds lo hi none n).2.2=1:=by
 refine⟨?_,?_,rfl⟩
 ·cases lo with
  | none=>simp[sliceBounds,HT.sIx]
  | some i =>
   simp only[sliceBounds,HT.sIx,Option.getD_none,show(1:Int)>0 by decide,if_true];by_cases h:i<0
   ·simp only[h,if_true]<;>omega
   ·simp only[h,b7L]<;>omega
 ·cases hi with
  | none=>simp[sliceBounds,HT.sIx]
  | some i =>
   simp only[sliceBounds,HT.sIx,Option.getD_none,show(1:Int)>0 by decide,if_true];by_cases h:i<0
   ·simp only[h,if_true]<;>omega
   ·simp only[h,b7L]<;>omega
theorem a4f (its:List Value) (lo hi:Option Int):slicePick its.toArray lo hi none=((its.drop (HT.sIx its.length 0 lo)).take (HT.sIx its.length its.length hi-HT.sIx its.length 0 lo)).toArray:=by
 obtain⟨h1,h2,h3⟩:=a5c lo hi its.toArray.size;unfold slicePick;rw[h1,h2,h3];simp only[sliceRange_one,pick_run,b5I]<;>rfl
def rSlL (K:PySem.W.Frag):V->Option Int->Option Int->Hp->VK->Prop:=λx lo hi H Q=>∃a xs,x=.ref a/\SqL K H a xs/\∀p,H p=none->Q (.ref p) (upd H p (.lst (a5b xs lo hi)))
theorem a4g:SlR X (rSlL X.K):=by
 intro pins s σ H x v vl vu lo hi sl Q I rx hs pl pu h;obtain⟨a,xs,rfl,hx,q⟩:=h;cases rx;obtain⟨its,r,ht,hz⟩:=I.list hx;have hlen:=r.length;refine⟨"list",_,slot_list_getitem.lookup,ht.isList.typeIs,?_⟩;refine wpAny_getItem_list_slice ht.isList hs pl pu .none (by simp) ?_ (by rw[b5I]<;>omega);rw[a4f,<-hlen];refine⟨.ref s.heap.objs.size,_,I.laid (t':=s.toks) (o:=.lst (a5b xs lo hi)) (λb ob q=>b5y _ q) (b5G _) ?_,rfl,q _ (I.hok.fresh (b5G _))⟩;exact⟨b6R (a2X xs lo hi) hz,_,0,(r.drop (HT.sIx xs.length 0 lo)).take (HT.sIx xs.length xs.length hi-HT.sIx xs.length 0 lo),b5D _ rfl⟩
def flatV:V->Bool
 | .non=>true
 | .bl _=>true
 | .int _=>true
 | .str _=>true
 | _=>false
def eqV:V->V->Bool
 | .non,.non=>true
 | .bl a,.bl b=>a==b
 | .bl a,.int b=>(if a then 1 else 0)==b
 | .int a,.bl b=>a==(if b then 1 else 0)
 | .int a,.int b=>a==b
 | .str a,.str b=>a==b
 | _,_=>false
def eqU (x:V) (u:Value):Bool:=match u with
 | .none=>eqV .non x
 | .bool b=>eqV (.bl b) x
 | .int i _=>eqV (.int i) x
 | .str z _=>eqV (.str z) x
 | _=>false
def inV (x:V) (xs:List V):Bool:=xs.any λy=>eqV y x
def rIn (K:PySem.W.Frag) (neg:Bool):R2:=λx y H Q=>∃p xs,y=.ref p/\(SqL K H p xs\/SqT K H p xs)/\flatV x=true/\xs.all flatV=true/\Q (.bl (if neg then !inV x xs else inV x xs)) H
theorem a5d:a2w X (.builtin "len") (λxs H Q=>∃p ys,xs=[.ref p]/\(SqL X.K H p ys\/SqT X.K H p ys)/\Q (.int ys.length) H):=by
 intro pins s σ H xs us Q I r h;obtain⟨p,ys,rfl,hq,q⟩:=h;obtain⟨u,rfl,rx⟩:=a1Z r;cases rx;have hn:=a6N;rcases hq with hq|hq
 ·obtain⟨its,r',pl,hz⟩:=I.list hq;have hlen:=r'.length;exact Calls.call_len_list pl.isList (by simp only[b5I]<;>omega) ⟨.int ys.length,H,I.tok _,⟨s.toks+1,by rw[b5I,hlen]⟩,q⟩
 ·obtain⟨its,r',pl,hz⟩:=I.tuple hq;have hlen:=r'.length;exact len_tuple pl (by simp only[b5I]<;>omega) ⟨.int ys.length,H,I.tok _,⟨s.toks+1,by rw[b5I,hlen]⟩,q⟩
theorem pln {e:Expr} {te:TE} {p pos:Pos} (ml:X.mg "len"=none) (ha:PE X e te) (hg:Gl X "len":=by rfl) (he:starEach [e] X.env=[(false,eval e X.env)]:=by rfl):PE X (.Call (.Name "len" p) [e] [] pos) (tCB (λxs H Q=>∃p ys,xs=[.ref p]/\(SqL X.K H p ys\/SqT X.K H p ys)/\Q (.int ys.length) H) (b1p te tNil)):=a0S a5d hg ml PySem.boot_len (a0a ha a0f he) (by decide) (by decide) he rfl
theorem a0T:a2w X (.type "tuple") (λxs H Q=>∃p ys,xs=[.ref p]/\((SqL X.K H p ys/\∀l,H l=none->Q (.ref l) (upd H l (.tup ys)))\/(SqT X.K H p ys/\Q (.ref p) H))):=by
 intro pins s σ H xs us Q I r h;obtain⟨p,ys,rfl,h⟩:=h;obtain⟨u,rfl,rx⟩:=a1Z r;cases rx;rcases h with ⟨hq,q⟩|⟨hq,q⟩
 ·obtain⟨its,r',pl,hz⟩:=I.list hq;have hlen:=r'.length;refine call_tuple_list pl.isList (λh' kp=>?_) (by simp only[b5I]<;>omega);have I1:Inv X pins σ H { s with heap:=h' }:=I.kept (t':=s.toks) kp;have I2:Inv X pins σ (upd H h'.objs.size (.tup ys)) { s with heap:=h'.push { cls:=.type "tuple",data:=.seq its.toArray } } :=
   I1.laid (t':=s.toks) (λb o e=>b5y _ e) (b5G _) (show a0B X.prog X.w _ _ _ (.tup ys) from⟨hz,its,r',a4R.new _ _⟩)
  exact⟨.ref h'.objs.size,_,I2,rfl,q _ (I1.hok.fresh (b5G _))⟩
 ·obtain⟨its,r',pl,hz⟩:=I.tuple hq;exact call_tuple_same pl ⟨.ref p,H,I,rfl,q⟩
def tyV (K:PySem.W.Frag) (T:String) (x:V) (H:Hp):Prop:=match x with
 | .str _=>T="str"
 | .int _=>T="int"
 | .ref p=>(T="list"/\∃xs,SqL K H p xs)\/(T="tuple"/\∃o,K.lookup p=some o/\o.cls=.type "tuple"/\o.dict=none) \/
   (T="dict"/\((∃kvs,H p=some (.dK kvs))\/∃kvs,H p=some (.dT kvs)))\/(T="set"/\∃S n,H p=some (.set S n))
 | _=>False
theorem b2S {pins:List (Addr × Obj)} {σ:St} {H:Hp} {s:Shared} {T:String} {x:V} {v:Value} (I:Inv X pins σ H s) (r:a0Q x v) (ty:tyV X.K T x H) :
  s.TypeIs v T/\∀a,v=.ref a->∃ob,s.heap.get? a=some ob/\ob.dict=none:=by
 cases x with
 | str z =>
  obtain⟨t,rfl⟩:=r;cases (show T="str" from ty);exact⟨typeIs_str s z t,λ_ e=>nomatch e⟩
 | int i =>
  obtain⟨t,rfl⟩:=r;cases (show T="int" from ty);exact⟨typeIs_int s i t,λ_ e=>nomatch e⟩
 | ref p =>
  cases r;rcases ty with ⟨rfl,xs,hq⟩|⟨rfl,o,hk,hc,hd⟩|⟨rfl,hk⟩|⟨rfl,S,n,hk⟩
  ·obtain⟨its,_,pl,_⟩:=I.list hq;refine⟨pl.isList.typeIs,λa e=>?_⟩;cases e;obtain⟨o,n,e,c,hd,_⟩:=pl;exact⟨o,e,hd⟩
  ·refine⟨⟨o,I.kIn p o hk,hc⟩,λa e=>?_⟩;cases e;exact⟨o,I.kIn _ o hk,hd⟩
  ·have z:∃o,s.heap.get? p=some o/\o.ExactDict:=by
    rcases hk with ⟨kvs,hk⟩|⟨kvs,hk⟩
    ·obtain⟨_,_,_,_,o,_,_,e,ex,_⟩:=I.hok p _ hk;exact⟨o,e,ex⟩
    ·obtain⟨_,_,_,_,o,_,_,e,ex,_⟩:=I.hok p _ hk;exact⟨o,e,ex⟩
   obtain⟨o,e,ex⟩:=z;refine⟨⟨o,e,ex.1⟩,λa e2=>?_⟩;cases e2;exact⟨o,e,ex.2.1⟩
  ·obtain⟨o,_,_,_,e,ex,_⟩:=I.hok p _ hk;refine⟨⟨o,e,ex.1⟩,λa e2=>?_⟩;cases e2;exact⟨o,e,ex.2.1⟩
 | _=>exact False.elim ty
def tBM0 (K:PySem.W.Frag) (T:String) (r:V->List V->Hp->VK->Prop) (to:TE):TE:=λσ H Q=>to σ H λx H1=>tyV K T x H1/\r x [] H1 Q
def tBM (K:PySem.W.Frag) (T:String) (r:V->List V->Hp->VK->Prop) (to:TE) (t:TA):TE:=λσ H Q=>to σ H λx H1=>tyV K T x H1/\t σ H1 λxs H2=>r x xs H2 Q
variable {o e:Expr} {es:List Expr} {to:TE} {t:TA} {name:Str} {apos cpos:Pos} {T id:String} {r:V->List V->Hp->VK->Prop}
theorem pe_bm0 (pa:PlainAttrs T) (slot:Slot T name id) (hty:typeOf (.builtin id)=pure (.type "method_descriptor")) (hm:MtR X id r) (ho:PE X o to)
  (hbase:attributeBase o name X.env (eval o X.env)=eval o X.env:=by rfl) (hline:(apos.endLine==cpos.line)=true:=by rfl):PE X (.Call (.Attribute o name apos) [] [] cpos) (tBM0 X.K T r to):=by
 intro pins s σ H Q I h;refine wpAny_Call_method0_late hbase hline (thn (ho pins s σ H _ I h) λv s1 ⟨x,H1,I1,r1,ty,q1⟩=>?_);obtain⟨h1,h2⟩:=b2S I1 r1 ty;exact⟨T,id,pa,slot,hty,h1,h2,b9x rfl (PySem.evalArgs_none (hm pins s1 σ H1 x [] v [] Q I1 r1 .nil q1))⟩
theorem a4h (pa:PlainAttrs T) (slot:Slot T name id) (hty:typeOf (.builtin id)=pure (.type "method_descriptor")) (hm:MtR X id r) (ho:PE X o to) (ha:PA X (e::es) t)
  (hbase:attributeBase o name X.env (eval o X.env)=eval o X.env:=by rfl)
  (hfew:((backTo cpos (starEach (e::es) X.env)).all (λx=>!x.1)&&(backToKw cpos (keywordEach [] X.env)).all (λx=>x.1.isSome)
   && decide ((e::es).length+([]:List Keyword).length+(if ([]:List Keyword).isEmpty then 0 else 1)<30))=true:=by rfl)
  (hline:(apos.endLine==cpos.line)=true:=by rfl) (hs:starEach (e::es) X.env=(false,eval e X.env)::starEach es X.env:=by rfl) (hplain:(backTo cpos (starEach es X.env)).any (·.1)=false:=by rfl) :
  PE X (.Call (.Attribute o name apos) (e::es) [] cpos) (tBM X.K T r to t):=by
 intro pins s σ H Q I h;refine wpAny_Call_method_late hbase hfew hline rfl (thn (ho pins s σ H _ I h) λv s1 ⟨x,H1,I1,r1,ty,q1⟩=>?_);obtain⟨h1,h2⟩:=b2S I1 r1 ty;refine⟨T,id,pa,slot,hty,h1,h2,?_⟩;have hA:=ha cpos pins s1 σ H1 _ I1 q1;rw[hs] at hA ⊢;refine b9x (by show(false||(backTo cpos (starEach es X.env)).any (·.1))=false;rw[hplain]<;>rfl) (Calls.evalArgs_plain ?_);exact thn hA λus s2 ⟨vs,H2,I2,r2,q2⟩=>hm pins s2 σ H2 x vs v us Q I2 r1 r2 q2
end
def MtM (X:Cx) (id:String) (r:V->List V->Hp->VK->Prop):Prop :=
 ∀(pins:List (Addr × Obj)) (s:Shared) (σ:St) (H:Hp) (x:V) (xs:List V) (v:Value) (us:List Value) (Q:VK),Inv X pins σ H s->a0Q x v->a0w xs us->r x xs H Q ->
  wpAny (model X.prog X.w) X.A (call (.builtin id) (v::us)) (EP X pins σ Q) X.xe s
theorem a0w.one:∀{x:V} {us:List Value},a0w [x] us->∃u,us=[u]/\a0Q x u
 | _,_,.cons r .nil=>⟨_,rfl,r⟩
theorem a0w.two:∀{x y:V} {us:List Value},a0w [x,y] us->∃u v,us=[u,v]/\a0Q x u/\a0Q y v
 | _,_,_,.cons r (.cons q .nil)=>⟨_,_,rfl,r,q⟩
theorem a0w.zero:∀{us:List Value},a0w [] us->us=[]
 | _,.nil=>rfl
theorem a0w.dropLast {xs:List V} {us:List Value} (h:a0w xs us):a0w xs.dropLast us.dropLast:=by
 induction h with
 | nil=>exact .nil
 | cons r t ih =>
  cases t with
  | nil=>exact .nil
  | cons q t'=>exact .cons r ih
theorem a0w.rep {xs:List V} {us:List Value} (h:a0w xs us):∀k:Nat,a0w (List.replicate k xs).flatten (List.replicate k us).flatten
 | 0=>.nil
 | k+1=>by
  rw[b7p,b7p,b8n,b8n];exact a0w.append h (a0w.rep h k)
theorem a7Y {α:Type} (l:List α):l.eraseIdx (l.length-1)=l.dropLast:=by
 induction l with
 | nil=>rfl
 | cons a r ih =>
  cases r with
  | nil=>rfl
  | cons b r =>
   have e:(a::b::r).length-1=((b::r).length-1)+1:=by
    have h1:(a::b::r).length=r.length+2:=rfl;have h2:(b::r).length=r.length+1:=rfl;omega
   rw[e,List.eraseIdx_cons_succ,ih]
   all_goals rfl
theorem a5e (its:List Value):∀(k:Nat) (acc:List Value),
  List.foldl (λx1 x2=>x1++x2) acc.toArray (List.replicate k its.toArray)=(acc++(List.replicate k its).flatten).toArray
 | 0,acc=>by simp
 | k+1,acc=>by
  have e:acc.toArray++its.toArray=(acc++its).toArray:=by simp
  have e2:(acc++its)++(List.replicate k its).flatten=acc++(List.replicate (k+1) its).flatten:=by
   rw[b7p,b8n,b7w]
  rw[<-e2,<-a5e its k (acc++its),<-e,b7p,List.foldl_cons]
section
variable {X:Cx} {pins:List (Addr × Obj)} {σ:St} {H:Hp} {s:Shared} {l b:Addr} {xs ys zs:List V}
theorem Inv.lset {its its':List Value} {n:Nat} {f:Array Value->Array Value} {t':Nat} (I:Inv X pins σ H s) (hH:H l=some (.lst xs))
  (e:s.heap.get? l=some { cls:=.type "list",data:=.seq its.toArray n }) (hf:f its.toArray=its'.toArray) (hv:a0w ys its') (hz:ys.length<=sizeLine) :
  Inv X pins σ (upd H l (.lst ys)) { s with heap:=s.heap.update l (Obj.mapSeq f),toks:=t' }:=by
 have q:=PySem.IsL.update e f;rw[hf] at q;refine I.write (x:=l) (e:=l) (by rw[hH];exact trivial) (.inl rfl) (λb' u hb hu=>(b8c s.heap (Obj.mapSeq f) (Ne.symm hb)).trans hu) ⟨_,q⟩ ?_;exact⟨hz,its',_,hv,q⟩
theorem Inv.lnew {its:List Value} {t':Nat} (I:Inv X pins σ H s) (hv:a0w ys its) (hz:ys.length<=sizeLine) :
  Inv X pins σ (upd H s.heap.objs.size (.lst ys)) { s with heap:=s.heap.push { cls:=.type "list",data:=.seq its.toArray },toks:=t' } :=
 I.laid (λ_ _ q=>b5y _ q) (b5G _) ⟨hz,its,0,hv,b5D _ rfl⟩
theorem Inv.fresh (I:Inv X pins σ H s):H s.heap.objs.size=none:=I.hok.fresh (b5G _)
theorem Inv.lstM (I:Inv X pins σ H s) (hH:H l=some (.lst xs)):xs.length<=sizeLine/\∃(its:List Value) (n:Nat),a0w xs its/\xs.length=its.length/\s.heap.get? l=some { cls:=.type "list",data:=.seq its.toArray n }:=by
 obtain⟨z,its,n,r,e⟩:=I.hok l _ hH;exact⟨z,its,n,r,r.length,e⟩
theorem a6T {n:Nat} (h:n<=sizeLine):Builtin.List.listTooLong n=false:=by
 unfold Builtin.List.listTooLong;exact b6N (by omega)
end
section
variable {X:Cx}
def b3P:V->List V->Hp->VK->Prop:=λx vs H Q=>∃l xs y,x=.ref l/\vs=[y]/\H l=some (.lst xs)/\xs.length<sizeLine/\Q .non (upd H l (.lst (xs++[y])))
theorem a1f:MtM X "list.append" b3P:=by
 intro pins s σ H x vs v us Q I rx rv h;obtain⟨l,xs,y,rfl,rfl,hH,hz,q⟩:=h;cases rx;obtain⟨u,rfl,ru⟩:=rv.one;obtain⟨z,its,n,r,hl,e⟩:=I.lstM hH;refine c0H F.slot_list_append ⟨_,e,rfl⟩ F.entry_list_append (F.args_list_append_2 _ _) (PySem.list_append l its.toArray n u (by rw[b5I];omega)) ⟨e,?_⟩;refine⟨.non,_,I.lset (its':=its++[u]) hH e (by simp) (r.append (.cons ru .nil)) ?_,rfl,q⟩;rw[b5J,List.length_singleton];omega
def b3Q:V->List V->Hp->VK->Prop:=λx vs H Q=>∃l b xs zs,x=.ref l/\vs=[.ref b]/\H l=some (.lst xs)/\H b=some (.lst zs)/\xs.length+zs.length<=sizeLine/\Q .non (upd H l (.lst (xs++zs)))
theorem a5f:MtM X "list.extend" b3Q:=by
 intro pins s σ H x vs v us Q I rx rv h;obtain⟨l,b,xs,zs,rfl,rfl,hH,hB,hz,q⟩:=h;cases rx;obtain⟨u,rfl,ru⟩:=rv.one;cases ru;obtain⟨z,its,n,r,hl,e⟩:=I.lstM hH;obtain⟨z2,its2,n2,r2,hl2,e2⟩:=I.lstM hB;have hsz:its.toArray.size+its2.toArray.size<=sizeLine:=by rw[b5I,b5I];omega
 have hlong:¬(!its.toArray.isEmpty&&Builtin.List.listTooLong (its.toArray.size+its2.toArray.size))=true:=by
  rw[a6T hsz,Bool.and_false];exact b5Y
 refine c0H F.slot_list_extend ⟨_,e,rfl⟩ F.entry_list_extend (F.args_list_extend_2 _ _)
  (AutoSeq1.list_extend_list_list_0 l its.toArray n b its2.toArray n2 hlong (by rw[b5I];omega) (by omega)) ⟨e,e2,?_⟩
 refine⟨.non,_,I.lset (its':=its++its2) hH e (by simp) (r.append r2) ?_,rfl,q⟩;rw[b5J];omega
def rPop:V->List V->Hp->VK->Prop:=λx vs H Q=>∃l xs y,x=.ref l/\vs=[]/\H l=some (.lst xs)/\xs[xs.length-1]?=some y/\Q y (upd H l (.lst xs.dropLast))
theorem mt_pop:MtM X "list.pop" rPop:=by
 intro pins s σ H x vs v us Q I rx rv h;obtain⟨l,xs,y,rfl,rfl,hH,hy,q⟩:=h;cases rx;have hus:=rv.zero;subst hus;obtain⟨z,its,n,r,hl,e⟩:=I.lstM hH;obtain⟨u,hu,ru⟩:=r.get hy;have hy':its.toArray[its.toArray.size-1]?=some u:=by
  show its.toArray[its.length-1]?=some u;rw[<-b7F,<-hl];exact hu
 refine c0H F.slot_list_pop ⟨_,e,rfl⟩ F.entry_list_pop (F.args_list_pop_1 _) (MeetsSeq.list_pop_last l its.toArray n u hy' (by rw[b5I];omega)) ⟨e,?_⟩;refine⟨y,_,I.lset (its':=its.dropLast) hH e ?_ r.dropLast ?_,ru,q⟩
 ·show its.toArray.eraseIdxIfInBounds (its.toArray.size-1)=its.dropLast.toArray;rw[b5I,List.eraseIdxIfInBounds_toArray,a7Y]
 ·rw[List.length_dropLast];omega
def rCat:R2:=λx y H Q=>∃l b xs zs,x=.ref l/\y=.ref b/\H l=some (.lst xs)/\H b=some (.lst zs)/\xs.length+zs.length<=sizeLine/\∀p,H p=none->Q (.ref p) (upd H p (.lst (xs++zs)))
theorem op_cat:OpR X (binaryOp .Add) rCat:=by
 intro pins s σ H x y v u Q I rx ry h;obtain⟨l,b,xs,zs,rfl,rfl,hH,hB,hz,q⟩:=h;cases rx;cases ry;obtain⟨z,its,n,r,hl,e⟩:=I.lstM hH;obtain⟨z2,its2,n2,r2,hl2,e2⟩:=I.lstM hB;refine PySem.P.add_list e e2 ?_ (by rw[b5I,b5I];omega);have ea:its.toArray++its2.toArray=(its++its2).toArray:=by simp
 rw[ea];exact⟨.ref _,_,I.lnew (t':=s.toks) (r.append r2) (by rw[b5J];omega),rfl,q _ I.fresh⟩
def rRep:R2:=λx y H Q=>∃l k xs,x=.ref l/\y=.int k/\H l=some (.lst xs)/\-(2 ^ 63)<=k/\k<2 ^ 63/\xs.length*k.toNat<=sizeLine /\
 ∀p,H p=none->Q (.ref p) (upd H p (.lst (List.replicate k.toNat xs).flatten))
theorem b3R {α:Type} (xs:List α) (k:Nat):(List.replicate k xs).flatten.length=k*xs.length:=by
 induction k with
 | zero=>simp
 | succ k ih=>rw[b7p,b8n,b5J,ih,Nat.succ_mul,Nat.add_comm]
theorem b2T:OpR X (binaryOp .Mult) rRep:=by
 intro pins s σ H x y v u Q I rx ry h;obtain⟨l,k,xs,rfl,rfl,hH,h1,h2,hz,q⟩:=h;cases rx;obtain⟨t,rfl⟩:=ry;obtain⟨z,its,n,r,hl,e⟩:=I.lstM hH;have hlen:its.toArray.size*k.toNat<=sizeLine:=by rw[b5I,<-hl];exact hz
 have hcap:¬its.toArray.size*k.toNat>(2 ^ 63-1) / 8:=by
  have:(sizeLine:Nat)<=(2 ^ 63-1) / 8:=by decide
  omega
 have hfit:¬(!Builtin.List.listFitsIndex k)=true:=by
  rw[fitsIndex_both h1 h2];exact b5Y
 have hlong:¬Builtin.List.listTooLong (its.toArray.size*k.toNat)=true:=by
  rw[a6T hlen];exact b5Y
 have hnew:List.foldl (λx1 x2=>x1++x2) #[] (List.replicate (if its.toArray.isEmpty=true then 0 else k.toNat) its.toArray)=(List.replicate k.toNat its).flatten.toArray:=by
  have f0:∀m:Nat,List.foldl (λx1 x2=>x1++x2) #[] (List.replicate m its.toArray)=(List.replicate m its).flatten.toArray:=λm=>by
   have:=a5e its m [];rw[List.nil_append] at this;exact this
  rw[f0];cases its with
  | nil=>simp
  | cons a r'=>rw[if_neg (by simp)]
 refine wpAny_binaryOp_repeat_ref (T:="list") (U:="int") (by decide) ⟨_,e,rfl⟩ (λs'=>typeIs_int s' k t) noFill_list_mul F.fills_int_mul F.slot_int_rmul repeat_list F.slot_int_index.lookup
  (c0H F.slot_int_rmul (typeIs_int s k t) F.entry_int_rmul (F.args_int_rmul_2 _ _) (int___rmul___int_list k t l its.toArray n)
   ⟨e,rfl,⟨_,e,rfl⟩,c0H F.slot_list_mul ⟨_,e,rfl⟩ F.entry_list_mul (F.args_list_mul_2 _ _) (AutoListH.list___mul___list_int_3 l its.toArray n k t hfit hcap hlong) ⟨e,?_⟩⟩)
 rw[hnew];exact⟨.ref _,_,I.lnew (t':=s.toks) (r.rep k.toNat) (by rw[b3R,Nat.mul_comm];exact hz),rfl,q _ I.fresh⟩
end
variable {prog:Program} {w:World} {A:Around} {E:Value->Shared->Prop} {s:Shared}
section
variable {X:Cx}
end
end L2
namespace Att
open PySem PySem.W PySem.Calls PyProof.Rows
theorem a2Y {P:Params} {h:Heap}:∀(ns:List Int) (vs:List Value),WellAll P h vs (ns.map WData.int)->IntsAre vs ns:=by
 intro ns
 induction ns with
 | nil =>
  intro vs w;rw[c1c] at w;cases w;exact .nil
 | cons n ns ih =>
  intro vs w;rw[b6m] at w;cases w with
  | cons a b =>
   cases a;exact .cons _ _ (ih _ b)
theorem a9h {l:OpenLaw} {n:Nat} (hn:l.most=some n) {P:Params} {h:Heap} {args:List WData} {vals:List Value}
  (hpre:l.row.toRowW.claim.pre args=true) (hwl:WellAll P h vals args) :
  ∃a vs ns,vals=[Value.ref a]/\args=[WData.list (ns.map WData.int)]/\h.get? a=some { cls:=.type "list",data:=.seq vs.toArray }/\IntsAre vs ns/\ns.length<=n:=by
 have hsh:WShape.hasAll [] args [.list .int]=true:=(pre_splitW hpre).1;have hc:l.pre.holds [] { args:=args }=true:=(pre_splitW hpre).2;obtain⟨d,r,rfl,h1,h2⟩:=hasAllW_cons hsh;obtain rfl:=hasAllW_nil h2;obtain⟨xs,rfl,h3⟩:=hasW_list h1;obtain⟨ns,rfl⟩:=items_int h3;have hlen:ns.length<=n:=by
  unfold OpenLaw.pre at hc;have h4:(WTm.not (.lt (.lit (.int (n:Int))) (.len (.arg 0)))).holds [] { args:=[.list (ns.map .int)] }=true:=by
   have h4:=(holds_andW hc).1;rw[hn] at h4;exact h4
  have h5:=condW_of h4 (w_not (w_lt w_lit (w_len_list (w_arg rfl))));rw[b5x] at h5;refine Nat.le_of_not_lt λq=>?_;have q':(n:Int)<((ns.length:Nat):Int):=by omega
  first
   | (rw[b6b q'] at h5;exact absurd h5 (by decide))
   | (simp at h5;omega)
 cases hwl with
 | cons w1 w2 =>
  cases w2;cases w1 with
  | list ho hall=>exact⟨_,_,ns,rfl,rfl,ho,a2Y ns _ hall,hlen⟩
theorem a9i (l:OpenLaw) (args:List WData):l.row.toRowW.claim.post args (.bool true) args=true :=
 postW_of (r:=l.row.toRowW) (X:=(true==true))
  (show WShape.has [] (.bool true) .bool=true by first|rfl|decide|simp[WShape.has,WShape.arms,WShape.armsAll])
  (show(WTm.eq .res (.lit (.bool true))).value [] { args:=args,res:=some (.bool true),after:=args }=some (.bool (true==true)) from w_eq_bool (w_res rfl) w_lit) rfl
theorem a5Y {l:OpenLaw} {n:Nat} {q:Program} {loose:List Str} {XP:(Str->Option Value)->Heap->Prop} {YP:World->Heap->Prop} {d:DefRec}
  (hn:l.most=some n) (hdf:d.params.defaults=[])
  (call:∀(w:World) (s₀ s₁:Shared) (mg mb:Str->Option Value) (fa:Addr) (o:Obj) (pm cd doc:Value) (a:Addr) (vs:List Value) (ns:List Int),
   Ground q loose [] XP w s₀ mg mb s₁.heap->YP w s₁.heap ->
   s₁.heap.get? fa=some o->o.data=.func (docDef d.name d.params d.body d.scope pm cd doc)->s₁.heap.CodeRec cd d.name->mg d.name=some (.ref fa) ->
   s₁.heap.get? a=some { cls:=.type "list",data:=.seq vs.toArray }->IntsAre vs ns->ns.length<=n->s₁.gens=#[] ->
   codeAny (model l.prog w) callerA (.call (.ref fa) ⟨[.ref a],[]⟩) (λr s'=>r=.ok (.ret (.bool true))/\OldK s₁.heap s'.heap/\s'.os=s₁.os/\AllBare s'.gens) s₁) :
  WalkO q loose XP YP l.row.toRowW d [] (λf vs=>PySem.call f vs):=by
 intro w s₀ s₁ mg mb G Y fa o pm cd doc dV kV ho hd hcd hD hmg hg args vals as hpre hlay hrd hwl hlo;obtain rfl:dV=.none:=Dflts.none hD hdf;obtain rfl:kV=.none:=Dflts.noKw hD;obtain⟨a,vs,ns,rfl,rfl,hobj,hints,hlen⟩:=a9h hn hpre hwl;refine enter_call (b7y (call w s₀ s₁ mg mb fa o pm cd doc a vs ns G Y ho (fd_plain hd) hcd hmg hobj hints hlen hg) λr s' hq=>?_);obtain⟨rfl,h2,h3,h4⟩:=hq;exact⟨.inl ⟨.bool true,.bool true,[],rfl,λ_=>rfl,.bool true,a9i l _,λ_=>⟨List.Pairwise.nil,λ_ hm=>(nomatch hm)⟩⟩,h2,h3,h4⟩
section
variable {prog:Program} {w:World} {A:Around} {E:Value->Shared->Prop} {s:Shared} {K:Frag}
def ledger (h:Heap) (L d:Addr):List (Addr × Obj):=(List.range h.objs.size).filterMap λa=>if a=L\/a=d then none else (h.get? a).map λo=>(a,o)
end
end Att
namespace L2
open PySem PySem.Spec PyProof.Rows
theorem a5g:∀{vs:List Value} {ns:List Int},IntsAre vs ns->a0w (ns.map V.int) vs
 | _,_,.nil=>.nil
 | _,_,.cons n t h=>.cons ⟨t,rfl⟩ (a5g h)
def Only (H:Hp):Prop:=∀b,H b=none\/∃o xs,H b=some (.frz o (.lst xs))
abbrev KOf {K:PySem.W.Frag} {h:Heap} (_:K.In h):PySem.W.Frag:=K
def inClass (s:Stmt) (j:Nat):Stmt:=match s with
 | .ClassDef _ _ _ body _ _ _ _ _ _ _=>body.getD j (.Pass ⟨0,0,0,0⟩)
 | _=>.Pass ⟨0,0,0,0⟩
def a0N (s:Stmt):Arguments:=match s with
 | .FunctionDef _ a _ _ _ _ _ _ _ _=>a
 | _=>{ posonlyargs:=[],args:=[],vararg:=none,kwonlyargs:=[],kw_defaults:=[],kwarg:=none,defaults:=[] }
def a0H (s:Stmt):List Stmt:=match s with
 | .FunctionDef _ _ b _ _ _ _ _ _ _=>b
 | _=>[]
def a0d (s:Stmt):Scope:=match s with
 | .FunctionDef _ _ _ _ _ _ sc _ _ _=>sc
 | _=>{ kind:=.function,names:=[],isGenerator:=false,isCoroutine:=false }
abbrev CX0:CXT:=λ_ _ _ _ _ _=>False
abbrev E0:XK:=λ_ _ _=>False
theorem a2Z {X:Cx}:a2W CX0 X E0:=λ_ _ _ _ _ _ _ h=>h.elim
structure Fun (K:PySem.W.Frag) (x qual:Str) (st:Stmt) (f:Addr) (fd:FuncData):Prop where
 ex:∃(oc:Value) (od:Option Addr) (kV doc pm:Value) (an:Option Addr) (cdv ct:Value) (osl:Array (Option Value)),
  fd=PySem.W.fnOf x qual (a0N st) (a0H st) (a0d st) .none kV doc pm an cdv ct/\K.lookup f=some ⟨oc,od,.func fd,osl⟩/\PySem.W.codeIn K cdv qual=true
 kp:PySem.W.keepIn K (.ref f)=true
section
variable {P:Program} {w:World} {K:PySem.W.Frag} {mg:Str->Option Value} {base:Heap}
theorem Fun.ok {x qual:Str} {st:Stmt} {f:Addr} {fd:FuncData} {N ps:List Str} {k:Nat} {sp:Sp} (F:Fun K x qual st f fd) (S:a0l N ps (a0d st)) (len:∀vs H Q E,sp vs H Q E->vs.length=ps.length)
  (hbody:∀(cdv:Value) (A:Around) (outer:List Env) (s:Shared) (H:Hp) (vs:List V) (Q:VK) (E:XK),a1z k (A.deeper (envOfC qual (a0d st) s.heap.objs.size f cdv))->sp vs H Q E ->
   ∃t,PSs (a4S CX0 P w K mg base N qual (a0d st) f cdv A outer s H E).nox (a0H st) t/\t { nx:=λ_ H'=>Q .non H',rt:=Q } (start N vs) H):a0Y P w K mg base CX0 (k+1) f fd ps sp:=by
 obtain⟨oc,od,kV,doc,pm,an,cdv,ct,osl,rfl,lk,hcd⟩:=F.ex;refine fn_of lk hcd S len λA outer s H vs Q E hr hsp=>?_;obtain⟨t,h,q⟩:=hbody cdv A outer s H vs Q E hr hsp;exact⟨t,h.nox,q⟩
theorem Fun.binds {x qual:Str} {st:Stmt} {f:Addr} {fd:FuncData} {ps:List Str} (F:Fun K x qual st f fd)
  (h:∀(kV doc pm:Value) (an:Option Addr) (cdv ct:Value) (us:List Value),us.length=ps.length->bindArgs (PySem.W.fnOf x qual (a0N st) (a0H st) (a0d st) .none kV doc pm an cdv ct) ⟨us,[]⟩=pure (ps.zip us)):a1N K fd ps []:=by
 obtain⟨oc,od,kV,doc,pm,an,cdv,ct,osl,rfl,lk,hcd⟩:=F.ex;exact .all (h kV doc pm an cdv ct)
theorem a6U {x qual:Str} {st:Stmt} {f:Addr} {oc:Value} {od an:Option Addr} {osl:Array (Option Value)} {kV doc pm cdv ct:Value} (l:K.lookup f=some ⟨oc,od,.func (PySem.W.fnOf x qual (a0N st) (a0H st) (a0d st) .none kV doc pm an cdv ct),osl⟩)
  (c:PySem.W.codeIn K cdv qual=true) (k:PySem.W.keepIn K (.ref f)=true):Fun K x qual st f (PySem.W.fnOf x qual (a0N st) (a0H st) (a0d st) .none kV doc pm an cdv ct):=⟨⟨oc,od,kV,doc,pm,an,cdv,ct,osl,rfl,l,c⟩,k⟩
end
theorem a0j {n:Nat} (h:n<=1000):n<sizeLine:=b8i h (by decide)
section
variable {X:Cx}
theorem pv (i:Nat) {x:Str} {pos:Pos} (hN:X.N[i]?=some x:=by rfl) (hv:Vis X.env.scope x:=by first|exact Or.inl rfl|exact Or.inr (Or.inl rfl)|exact Or.inr (Or.inr rfl)) (hd:(x==("__debug__":Str))=false:=by decide)
  (hcd:(x==("__classdict__":Str))=false:=by decide):PE X (.Name x pos) (tVar i):=b2M hN hv hd hcd
end
theorem b3S {A B:Prop} (h:B):if false=true then A else B:=by
 rw[if_neg b5Y];exact h
theorem iteT {A B:Prop} (h:A):if true=true then A else B:=by
 rw[if_pos rfl];exact h
theorem a3D {c A B:Prop} [Decidable c] (h1:c->A) (h2:¬c->B):if c then A else B:=by
 by_cases h:c
 ·rw[if_pos h];exact h1 h
 ·rw[if_neg h];exact h2 h
def a0m (H H':Hp):Prop:=∀b o,H b=some o->H' b=some o
theorem a0m.refl (H:Hp):a0m H H:=λ_ _ h=>h
theorem a0m.trans {H H1 H2:Hp} (a:a0m H H1) (b:a0m H1 H2):a0m H H2:=λc o h=>b c o (a c o h)
theorem a0m.free {H H':Hp} (e:a0m H H') {l:Addr} (h:H' l=Option.none):H l=Option.none:=by
 cases q:H l with
 | none=>rfl
 | some o =>
  rw[e l o q] at h;cases h
theorem a0m.seq {K:PySem.W.Frag} {H H':Hp} {a:Addr} {xs:List V} (e:a0m H H') (h:SqL K H a xs):SqL K H' a xs:=by
 rcases h with (h|⟨o,h⟩)|h
 ·exact .inl (.inl (e _ _ h))
 ·exact .inl (.inr ⟨o,e _ _ h⟩)
 ·exact .inr h
section
variable {prog:Program} {w:World} {A:Around} {R:Result->Shared->Prop} {s:Shared}
abbrev a9j (cs:List Expr) (en:Env):Sem Bool :=
 forIn cs true λc r=>if r=true then do let ok <-isTrue c en (eval c en);pure (ForInStep.yield ok) else pure (ForInStep.yield r)
theorem a7Z {elt tg iter:Expr} {cs:List Expr} {scope:Scope} {pos:Pos} {it acc:Value} {en:Env} {EE:Value->Shared->Prop} (hE:EE=notedBy (model prog w) A en λe s'=>R (.error e) s') (J:Nat->Shared->Prop)
  (turn:∀n s,J n s->wpAny (model prog w) A (pyNext it) (λr s1=>match r with
   | none=>R (.ok .next) s1
   | some v=>wpAny (model prog w) A (letOwnedTupleGo tg it v) (λ_ sg=>wpAny (model prog w) A (assign tg en v) (λ_ s2=>wpAny (model prog w) A (a9j cs en) (λok s3 =>
     if ok=true then wpAny (model prog w) A (eval elt en) (λy s4=>wpAny (model prog w) A (call (.builtin "list.append") [acc,y]) (λ_ s5=>∃m,m<n/\J m s5) EE s4) EE s3
     else ∃m,m<n/\J m s3) EE s2) EE sg) EE s1) EE s)
  (n:Nat) (h:J n s):codeAny (model prog w) A (.compLoop (.ListComp elt [⟨tg,iter,cs,0⟩] scope pos) 0 it acc en) R s:=by
 subst hE;refine codeAny_loop rfl J (λn s hJ=>?_) n h;show wpAny _ A (Sem.onRaise (compTurn (.ListComp elt [⟨tg,iter,cs,0⟩] scope pos) 0 it acc en) (λx=>do noteFrame x en;theTreesLotGoes x)) _ _ s;refine wpAny_noted ?_;rw[compTurn_list];refine b5w (c0Q (b5w (thn (turn n s hJ) λr s1 q1=>?_)));cases r with
 | none=>exact b5A q1
 | some v =>
  refine b5w (thn q1 λ_ sg qg=>b5w (thn qg λ_ s2 q2=>b5w (thn q2 λok s3 q3=>?_)));cases ok with
  | false=>exact b5A ⟨rfl,q3⟩
  | true=>exact b5w (b5w (thn q3 λy s4 q4=>b5w (thn q4 λ_ s5 q5=>b5A (b5A ⟨rfl,q5⟩))))
end
def PTs (X:Cx) (cs:List Expr) (t:TT):Prop :=
 ∀(pins:List (Addr × Obj)) (s:Shared) (σ:St) (H:Hp) (Q:Bool->Hp->Prop),Inv X pins σ H s->t σ H Q->wpAny (model X.prog X.w) X.A (a9j cs X.env) (TP X pins σ Q) X.xe s
def a9k:TT:=λ_ H Q=>Q true H
theorem a0I {X:Cx}:PTs X [] a9k:=λ_ _ _ H _ I h=>wpAny_tests_nil ⟨H,I,h⟩
theorem b3T {X:Cx} {c:Expr} {t:TT} (h:PT X c t):PTs X [c] t:=λpins s σ H Q I q=>wpAny_tests_one (h pins s σ H Q I q)
theorem a1Q {en:Env}:∀(names:List (Str × NameKind)) (acc:List (Str × Addr)),(∀y,(y,NameKind.free)∈names->∃c,en.cells.lookup y=some c) ->
  (∀y c,acc.lookup y=some c->en.cells.lookup y=some c) ->
  ∃cl,(forIn (m:=Sem) names acc λp cs=>if (p.2==.free)=true then (do let a <-cellOf en p.1;pure (ForInStep.yield ((p.1,a)::cs))) else pure (ForInStep.yield cs))=pure cl /\
   (∀y c,cl.lookup y=some c->en.cells.lookup y=some c)/\(∀y,((y,NameKind.free)∈names\/∃c,acc.lookup y=some c)->∃c,cl.lookup y=some c)
 | [],acc,_,h2=>⟨acc,rfl,h2,λy h=>h.elim (λz=>by simp at z) id⟩
 | (n,k)::r,acc,h1,h2=>by
  by_cases hk:k=.free
  ·subst hk;obtain⟨c,hc⟩:=h1 n (by simp);obtain⟨cl,e,a,b⟩:=a1Q r ((n,c)::acc) (λy hy=>h1 y (b7h _ hy)) (λy d hd=>by
    rw[b7C] at hd;by_cases hy:y=n
    ·subst hy;simp at hd;subst hd;exact hc
    ·have:(y==n)=false:=by simpa using hy
     rw[this] at hd;exact h2 y d hd)
   refine⟨cl,?_,a,λy hy=>b y ?_⟩
   ·rw[b8a];have e1:cellOf en n=pure c:=by unfold cellOf;rw[hc]
    simp only[c0X,if_true,e1,pure_bind];exact e
   ·rcases hy with hy|⟨d,hd⟩
    ·rcases b5Q.mp hy with z|z
     ·cases z;exact .inr ⟨c,by simp⟩
     ·exact .inl z
    ·by_cases hy:y=n
     ·subst hy;exact .inr ⟨c,by simp⟩
     ·have:(y==n)=false:=by simpa using hy
      exact .inr ⟨d,by rw[b7C,this];exact hd⟩
  ·have hb:(k==NameKind.free)=false:=by simpa using hk
   obtain⟨cl,e,a,b⟩:=a1Q r acc (λy hy=>h1 y (b7h _ hy)) h2;refine⟨cl,?_,a,λy hy=>b y ?_⟩
   ·rw[b8a];simp only[hb,b6j,b7L,pure_bind];exact e
   ·rcases hy with hy|hy
    ·rcases b5Q.mp hy with z|z
     ·cases z;exact absurd rfl hk
     ·exact .inl z
    ·exact .inr hy
theorem a8a {scope:Scope} {en:Env} (h1:∀y,(y,NameKind.free)∈scope.names->∃c,en.cells.lookup y=some c) :
  ∃cl,closureFor scope en=pure cl/\(∀y c,cl.lookup y=some c->en.cells.lookup y=some c)/\(∀y,(y,NameKind.free)∈scope.names->∃c,cl.lookup y=some c):=by
 obtain⟨cl,e,a,b⟩:=a1Q (en:=en) scope.names [] h1 (λy c h=>by simp at h);refine⟨cl,?_,a,λy hy=>b y (.inl hy)⟩;have q:=b7m (λt:Sem (List (Str × Addr))=>t >>= λc=>pure c) e;exact q
def xeC (X:Cx) (en:Env) (C:Addr):Value->Shared->Prop :=
 notedBy (model X.prog X.w) X.A en λe s'=>compPost (model X.prog X.w) X.A X.xe none (λ_ _=>False) Value.none C (.error e) s'
def cxC (X:Cx) (scope:Scope) (cl:List (Str × Addr)) (C:Addr) (s0:Shared) (H0:Hp) (fp:List Addr) (N:List Str):Cx where
 prog:=X.prog
 w:=X.w
 K:=X.K
 mg:=X.mg
 base:=X.base
 A:=X.A
 N:=N
 s₀:=s0
 H₀:=H0
 env:=compEnvC scope cl C X.env
 outer:=X.stack
 stack:=X.stack
 ex:=fp
 fn:=λ_=>false
 calm:=X.calm
 pn:=[]
 xe:=xeC X (compEnvC scope cl C X.env) C
structure a0s (scope:Scope) (en:Env) (N M:List Str):Prop where
 kind:scope.kind=.function
 nocell:∀y∈scope.names,y.2≠.cell
 locs:∀y∈scope.names,y.2=.local->scope.names.lookup y.1=some .local
 free:∀y,(y,NameKind.free)∈scope.names->en.kindOf y=some .cell\/en.kindOf y=some .free
 len:M.length=N.length
 same:∀(j:Nat) (y:Str),M[j]?=some y->Vis (relabel scope en) y->N[j]?=some y/\(y,NameKind.free)∈scope.names/\(relabel scope en).names.lookup y≠some .local
 relab:∀y,((relabel scope en).names.lookup y=some .cell\/(relabel scope en).names.lookup y=some .free)->(y,NameKind.free)∈scope.names
def a8b (k:Nat) (wi:TI) (g:TG) (tc:TT) (te:TE):TE:=λσ H Q=>wi σ H λJ H1=>∀d,H1 d=none->∃W:Nat->Nat->Hp->Prop,(∃m,W 0 m (upd H1 d (.lst [])))/\∀i m H,W i m H ->
 (J.stop i H/\Q (.ref d) H)\/(J.go i H/\∃N:Hp->Prop,(∀H',N H'->∃m',m'<m/\W (i+1) m' H')/\∀x H',J.yld i H x H'->g x (List.replicate k none++σ) H' λσ2 H2 =>
  tc σ2 H2 λb H3=>if b=true then te σ2 H3 λy H4=>∃ys,H4 d=some (.lst ys)/\ys.length<sizeLine/\N (upd H4 d (.lst (ys++[y]))) else N H3)
structure Gone (X:Cx) (pins:List (Addr × Obj)) (H:Hp) (C:Addr):Prop where
 no:H C=none
 ne:C≠X.env.locals
 yg:X.s₀.heap.objs.size<=C
 cl:∀x c,X.env.cells.lookup x=some c->c≠C
 pn:∀p∈X.pn++pins,p.1≠C
theorem Inv.gone {X:Cx} {pins:List (Addr × Obj)} {σ:St} {H:Hp} {s:Shared} {C:Addr} {h':Heap} (I:Inv X pins σ H s) (g:Gone X pins H C) (hs:Heap.SameBut C s.heap h'):Inv X pins σ H { s with heap:=h' } :=
 I.turned (t':=s.toks) (it:=C) (λb o hb e=>hs.extBut b o hb e) g.no g.ne (.inr g.yg) g.cl g.pn
structure Back (X Y:Cx) (pins:List (Addr × Obj)) (σ:St) (fp:List Addr) (C:Addr) (s3:Shared) (H3:Hp):Prop where
 i0:Inv X pins σ H3 s3
 fp:∀b∈fp,(b∈X.ex\/X.s₀.heap.objs.size<=b)/\b≠X.env.locals/\(∀x c,X.env.cells.lookup x=some c->c≠b)/\∀p∈X.pn++pins,p.1≠b
 inv:∀(pins':List (Addr × Obj)) (σ':St) (H':Hp) (s':Shared),Inv Y pins' σ' H' s'->Inv X pins σ H' s'/\Gone X pins H' C
theorem a4i {X:Cx} {elt tg iter:Expr} {cs:List Expr} {scope:Scope} {pos:Pos} {wi:TI} {g:TG} {tc:TT} {te:TE} {xs M:List Str} {use:Option (Value->Sem Unit)} {RR:Value->Shared->Prop} (hc:X.calm=true) (S:a0s scope X.env X.N M) (hi:PI X tg iter wi)
  (hin:∀(cl:List (Str × Addr)) (C:Addr) (s0:Shared) (H0:Hp) (fp:List Addr) (pins:List (Addr × Obj)) (σ:St),Back X (cxC X scope cl C s0 H0 fp (xs++M)) pins σ fp C s0 H0->PG (cxC X scope cl C s0 H0 fp (xs++M)) tg g/\PTs (cxC X scope cl C s0 H0 fp (xs++M)) cs tc/\PE (cxC X scope cl C s0 H0 fp (xs++M)) elt te)
  (hg:∀v σ H Q,g v (List.replicate xs.length none++σ) H Q->g v (List.replicate xs.length none++σ) H λσ2 H2=>(∃l:St,l.length=xs.length/\σ2=l++σ)/\Q σ2 H2)
  (hs:∀x,foldedSetIterable iter X.env x=pure x) (pins:List (Addr × Obj)) (s:Shared) (σ:St) (H:Hp) (Q:VK) (I:Inv X pins σ H s) (h:a8b xs.length wi g tc te σ H Q)
  (fin:∀(d C:Addr) (s6:Shared) (H6:Hp) (m:Str->Option Value),Q (.ref d) H6->Inv X pins σ H6 s6->s6.heap.Ns C m->Gone X pins H6 C->compPost (model X.prog X.w) X.A X.xe use RR (.ref d) C (.ok .next) s6) :
  wpAny (model X.prog X.w) X.A (comprehension (.ListComp elt [⟨tg,iter,cs,0⟩] scope pos) scope X.env (firstIterPos [⟨tg,iter,cs,0⟩] pos) (newList []) false (eval iter X.env) use) RR X.xe s:=by
 obtain⟨cl,hcl,cl1,cl2⟩:=a8a (scope:=scope) (en:=X.env) λy hy=>I.ok.has y (S.free y hy);refine wpAny_comprehension_free (use:=use) rfl hs hcl S.kind S.locs (thn (hi pins s σ H _ I h) λv s1 h1=>thn h1 λitv s2 h2=>?_);obtain⟨it,fp,tn,J,H2,e,I2,T,st2,f2,h3⟩:=h2;subst e;have hf:H2 s2.heap.objs.size=none:=I2.fresh;obtain⟨W,⟨m0,w0⟩,turn⟩:=h3 _ hf;refine b6p (wpAny_newFunctionEnv S.nocell (by intro y hy;simp at hy) (λh4 hns hsb=>?_) S.kind);have I3:Inv X pins σ (upd H2 s2.heap.objs.size (.lst [])) { s2 with heap:=s2.heap.push { cls:=.type "list",data:=.seq ([]:List Value).toArray } }:=I2.lnew (ys:=[]) (its:=[]) (t':=s2.toks) .nil (b6e _);generalize hs3:({ s2 with heap:=s2.heap.push { cls:=.type "list",data:=.seq ([]:List Value).toArray } }:Shared)=s3 at I3;generalize hH3:upd H2 s2.heap.objs.size (.lst [])=H3 at I3 w0;have e3:s2.heap.push { cls:=.type "list",dict:=none,data:=.seq ([]:List Value).toArray }=s3.heap:=by rw[<-hs3]
 dsimp only at hns hsb ⊢;rw[e3] at hns hsb;have old:∀b o,s3.heap.get? b=some o->h4.get? b=some o:=λb o e=>hsb.extBut b o (b5O (b5F e)) (b5y _ e);have keep2:∀b o,s2.heap.get? b=some o->s3.heap.get? b=some o:=λb o e=>by rw[<-e3];exact b5y _ e
 have lt3:∀b∈fp,b<s3.heap.objs.size:=λb hb=>by
  obtain⟨o,e,_⟩:=T.obj _ _ st2 b hb;exact b5F (keep2 b o e)
 have n3:∀b∈fp,H3 b=none:=λb hb=>by
  obtain⟨o,e,_⟩:=T.obj _ _ st2 b hb;rw[<-hH3,a0h (b5O (b5F e))];exact(f2 b hb).1
 have st4:tn 0 h4:=T.keep _ _ _ st2 λb _ o e=>old b o (keep2 b o e)
 let Y:Cx:=cxC X scope cl s3.heap.objs.size s3 H3 fp (xs++M)
 have relab:∀y,((relabel scope X.env).names.lookup y=some .cell\/(relabel scope X.env).names.lookup y=some .free)->∃c,cl.lookup y=some c:=λy hy=>cl2 y (S.relab y hy);have Yok:Y.Ok:=by
  refine⟨I3.ok.mod,S.kind,I3.ok.glob,I3.ok.blt,b5G _,λy z c h1 h2=>I3.ok.inj y z c (cl1 y c h1) (cl1 z c h2),λy hy=>relab y hy,λ_ _ h _=>absurd (show false=true from h) (by decide),I3.ok.hd,I3.ok.frames,.inl rfl,
   λb hb=>⟨b5O (lt3 b hb),λy c e=>(f2 b hb).2.2.2.2.1 y c (cl1 y c e)⟩,I3.bs,b6R I3.ok.bsz I3.sz,λb o e hb=>?_,λb hb z=>?_,I3.stack,I3.stkFree⟩
  ·rcases(f2 b hb).2.2.2.1 with z|z
   ·exact I3.ok.noex b o e z
   ·exact absurd (b5S (b5F e) (b6R I3.ok.bsz z)) (b6A _)
  ·rcases b5Q.mp (I3.stkSub b z) with z|z
   ·exact(f2 b hb).2.1 z
   ·exact(f2 b hb).2.2.1 z
 have cells4:∀y c,cl.lookup y=some c->∀v,s3.heap.IsCell c v->h4.IsCell c v:=λy c _ v ⟨o,ho,hd⟩=>⟨o,old c o ho,hd⟩
 have IY:∀t',Inv Y [] (List.replicate xs.length none++σ) H3 { s3 with heap:=h4,toks:=t' }:=λt'=>by
  refine⟨Yok,rfl,I3.bare,Un.kept old,⟨_,hns,λi y v e1 e2 e3=>?_⟩,λy c e=>?_,I3.hok.fresh (b5G _),λy c e=>I3.freeC y c (cl1 y c e),λp hp=>absurd (show p∈([]:List (Addr × Obj)) from hp) (by simp),I3.hok.kept old,?_⟩
  ·by_cases hi:i<xs.length
   ·rw[b6T (by simpa using hi),b8t] at e2;split at e2<;>cases e2
   ·obtain⟨j,rfl⟩:∃j,i=xs.length+j:=⟨i-xs.length,by omega⟩
    have e1':M[j]?=some y:=by
     have q:(xs++M)[xs.length+j]?=some y:=e1;rw[b6w (Nat.le_add_right _ _)] at q;simpa using q
    have e2':σ[j]?=some (some v):=by
     rw[b6w (by simp)] at e2;simpa using e2
    obtain⟨a1,a2,a3⟩:=S.same j y e1' e3;have vis:Vis X.env.scope y:=by
     rcases S.free y a2 with z|z
     ·exact .inr (.inl z)
     ·exact .inr (.inr z)
    obtain⟨m,_,hl⟩:=I3.loc;obtain⟨u,r,l⟩:=hl j y v a1 e2' vis;refine⟨u,r,?_⟩;have kk:Y.env.kindOf y=some .cell\/Y.env.kindOf y=some .free:=by
     rcases e3 with z|z|z
     ·exact absurd z a3
     ·exact .inl z
     ·exact .inr z
    rcases l with ⟨k1,_⟩|⟨_,c,ec,ic⟩
    ·rcases S.free y a2 with z|z
     ·rw[z] at k1;cases k1
     ·rw[z] at k1;cases k1
    ·obtain⟨c',ec'⟩:=cl2 y a2;have:=cl1 y c' ec';rw[ec] at this;cases this;exact .inr ⟨kk,c,ec',cells4 y c ec' _ ic⟩
  ·obtain⟨v,z⟩:=I3.cell y c (cl1 y c e);exact⟨v,cells4 y c e v z⟩
  ·show(List.replicate xs.length none++σ).length=(xs++M).length;rw[b5J,b5J,b7P,S.len,I3.len]
 have stat:∀{pl:List (Addr × Obj)} {H':Hp},(∀p∈pl,p.1∉fp)->(∀b∈fp,H' b=none)->∀b∈fp,a2F Y pl H' b:=λhp hn b hb =>
  ⟨hn b hb,b5O (lt3 b hb),Yok.exfs b hb,.inl hb,λy c e=>(f2 b hb).2.2.2.2.1 y c (cl1 y c e),λp hp' z=>hp p (by simpa [Y,cxC] using hp') (z▸hb)⟩
 have bk:Back X Y pins σ fp s3.heap.objs.size s3 H3:=by
  refine⟨I3,λb hb=>⟨(f2 b hb).2.2.2.1,(f2 b hb).2.1,(f2 b hb).2.2.2.2.1,(f2 b hb).2.2.2.2.2⟩,λpins' σ' H' s' J=>⟨?_,?_⟩⟩
  ·exact I3.call' (ch:=fp) J.os J.base J.hok J.bare λb hb=>⟨(f2 b hb).2.2.2.1,(f2 b hb).2.1,(f2 b hb).2.2.2.2.1,(f2 b hb).2.2.2.2.2⟩
  ·refine⟨J.free,b6o I3.lt,I3.sz,λy c e z=>?_,λp hp z=>?_⟩
   ·obtain⟨v,q⟩:=I3.cell y c e;have:=q.lt;rw[z] at this;exact b6A _ this
   ·have:=b5F (I3.pin p hp).1;rw[z] at this;exact b6A _ this
 obtain⟨hG,hT,hE⟩:=hin cl s3.heap.objs.size s3 H3 fp pins σ bk;have loop:∀t',codeAny (model X.prog X.w) X.A (.compLoop (.ListComp elt [⟨tg,iter,cs,0⟩] scope pos) 0 (.ref it) (.ref s2.heap.objs.size) Y.env) (compPost (model X.prog X.w) X.A X.xe use RR (.ref s2.heap.objs.size) s3.heap.objs.size) { s3 with heap:=h4,toks:=t' }:=by
  intro t';refine a7Z (EE:=Y.xe) (by cases use<;>rfl) (λn s'=>∃i H',Inv Y [] (List.replicate xs.length none++σ) H' s'/\tn i s'.heap/\(∀b∈fp,H' b=none)/\W i n H') ?_ m0 ⟨0,H3,IY t',st4,n3,w0⟩;rintro n s5 ⟨i,H5,I5,st5,fr5,w5⟩;rcases turn i n H5 w5 with ⟨stop,qn⟩|⟨go,N,hN,step⟩
  ·refine thn (T.done Y rfl rfl rfl hc i [] s5 (List.replicate xs.length none++σ) H5 _ I5 (stat (by simp) fr5) st5 stop) λr s6 ⟨hr,I6⟩=>?_;subst hr;obtain⟨m6,hn6,_⟩:=I6.loc;have I8:Inv X pins σ H5 s6:=I3.call' (ch:=fp) I6.os I6.base I6.hok I6.bare λb hb=>⟨(f2 b hb).2.2.2.1,(f2 b hb).2.1,(f2 b hb).2.2.2.2.1,(f2 b hb).2.2.2.2.2⟩
   have lt8:X.env.locals<s3.heap.objs.size:=I3.lt;refine fin _ _ s6 H5 m6 qn I8 hn6 ⟨I6.free,b6o lt8,I3.sz,λy c e z=>?_,λp hp z=>?_⟩
   ·obtain⟨v,q⟩:=I3.cell y c e;have:=q.lt;rw[z] at this;exact b6A _ this
   ·have:=b5F (I3.pin p hp).1;rw[z] at this;exact b6A _ this
  ·refine thn (T.item Y rfl rfl rfl hc i [] s5 (List.replicate xs.length none++σ) H5 _ I5 (stat (by simp) fr5) st5 go) λr s6 ⟨u,hr,h6⟩=>?_;subst hr;refine thn h6 λ_ s7 ⟨x7,H7,I7,r7,y7,st7,fr7⟩=>?_;have I7':=I7.pinned (stat (by simp) fr7) (T.obj _ _ st7);have again:∀{σ8:St} {H8:Hp} {s8:Shared},(∃l:St,l.length=xs.length/\σ8=l++σ)->Inv Y ([]++a4V fp s7.heap) σ8 H8 s8->N H8->∃m,m<n/\∃i H',Inv Y [] (List.replicate xs.length none++σ) H' s8/\tn i s8.heap/\(∀b∈fp,H' b=none)/\W i m H':=λ{σ8 H8 s8} l8 I8 n8=>by
    obtain⟨m',hm,w8⟩:=hN H8 n8;obtain⟨l,ll,rfl⟩:=l8;have pin8:∀b∈fp,∀o,s7.heap.get? b=some o->s8.heap.get? b=some o/\H8 b=none:=λb hb o e=>by
     have z:=I8.pin (b,o) (b5N _ (b5N _ (a0G hb e)));exact⟨z.1,z.2.1⟩
    refine⟨m',hm,i+1,H8,I8.unpinned.weak (by simp[ll]) (λj v e=>?_),T.keep _ _ _ st7 λb hb o e=>(pin8 b hb o e).1,λb hb=>?_,w8⟩
    ·by_cases hj:j<xs.length
     ·rw[b6T (by simpa using hj),b8t] at e;split at e<;>cases e
     ·rw[b6w (by simpa using hj)] at e;rw[b6w (by omega),ll];simpa using e
    ·obtain⟨o,e,_⟩:=T.obj _ _ st7 b hb;exact(pin8 b hb o e).2
   refine thn (hG _ s7 (List.replicate xs.length none++σ) H7 x7 u _ I7' r7 (hg _ _ _ _ (step x7 H7 y7))) λ_ s8 ⟨σ8,H8,I8,l8,q8⟩=>?_;refine thn (hT _ s8 σ8 H8 _ I8 q8) λok s9 ⟨H9,I9,q9⟩=>?_;cases ok with
   | false=>exact again l8 I9 q9
   | true =>
    refine thn (hE _ s9 σ8 H9 _ I9 q9) λy s10 ⟨y10,H10,I10,r10,ys,hd,hl,n10⟩=>?_;refine thn (a1f _ s10 σ8 H10 (.ref s2.heap.objs.size) [y10] (.ref s2.heap.objs.size) [y] (λ_ H'=>N H') I10 rfl (.cons r10 .nil) ⟨_,ys,y10,rfl,rfl,hd,hl,n10⟩) λ_ s11 ⟨_,H11,I11,_,n11⟩=>?_;exact again l8 I11 n11
 refine codeAny_compStart_list (loop _) (T.self _ 0 _ _ _ st4 (loop _))
theorem b3U {X:Cx} {elt tg iter:Expr} {cs:List Expr} {scope:Scope} {pos:Pos} {wi:TI} {g:TG} {tc:TT} {te:TE} {xs M:List Str} (hc:X.calm=true) (S:a0s scope X.env X.N M) (hi:PI X tg iter wi)
  (hin:∀(cl:List (Str × Addr)) (C:Addr) (s0:Shared) (H0:Hp) (fp:List Addr),PG (cxC X scope cl C s0 H0 fp (xs++M)) tg g/\PTs (cxC X scope cl C s0 H0 fp (xs++M)) cs tc/\PE (cxC X scope cl C s0 H0 fp (xs++M)) elt te)
  (hg:∀v σ H Q,g v (List.replicate xs.length none++σ) H Q->g v (List.replicate xs.length none++σ) H λσ2 H2=>(∃l:St,l.length=xs.length/\σ2=l++σ)/\Q σ2 H2)
  (hs:∀x,foldedSetIterable iter X.env x=pure x:=by intro _;rfl):PE X (.ListComp elt [⟨tg,iter,cs,0⟩] scope pos) (a8b xs.length wi g tc te):=by
 intro pins s σ H Q I h;rw[eval_ListComp];exact a4i (use:=none) hc S hi (λcl C s0 H0 fp _ _ _=>hin cl C s0 H0 fp) hg hs pins s σ H Q I h λd C s6 H6 m q I6 hn gn=>⟨m,hn,λh' hs'=>⟨.ref d,H6,I6.gone gn hs',rfl,q⟩⟩
theorem b3V {X:Cx} {elt tg iter:Expr} {cs:List Expr} {scope:Scope} {pos pos' spos:Pos} {wi:TI} {g:TG} {tc:TT} {te:TE} {xs M:List Str} {i:Nat} {x:Str} (hc:X.calm=true) (S:a0s scope X.env X.N M) (hi:PI X tg iter wi)
  (hin:∀(cl:List (Str × Addr)) (C:Addr) (s0:Shared) (H0:Hp) (fp:List Addr),PG (cxC X scope cl C s0 H0 fp (xs++M)) tg g/\PTs (cxC X scope cl C s0 H0 fp (xs++M)) cs tc/\PE (cxC X scope cl C s0 H0 fp (xs++M)) elt te)
  (hg:∀v σ H Q,g v (List.replicate xs.length none++σ) H Q->g v (List.replicate xs.length none++σ) H λσ2 H2=>(∃l:St,l.length=xs.length/\σ2=l++σ)/\Q σ2 H2)
  (hN:X.N.Nodup) (hix:X.N[i]?=some x) (hx:X.env.scope.names.lookup x=some .local) (hw:swapsWith (.ListComp elt [⟨tg,iter,cs,0⟩] scope pos) (some (.Name x pos')) spos.line X.env=pure true)
  (hs:∀x,foldedSetIterable iter X.env x=pure x:=by intro _;rfl):PS X (.Assign [.Name x pos'] (.ListComp elt [⟨tg,iter,cs,0⟩] scope pos) spos) (b5r (a8b xs.length wi g tc te) (a1J i)):=by
 intro pins s σ H D I h;rw[exec_Assign_Name_used _ _ _ _ hw];refine b5w (c0Q (b5w ?_));show wpAny _ X.A (comprehension (.ListComp elt [⟨tg,iter,cs,0⟩] scope pos) scope X.env _ (newList []) false (eval iter X.env) (some (assign (.Name x pos') X.env)) >>= λ_=>pure ()) _ _ s;refine b5w (thn (a4i (use:=some (assign (.Name x pos') X.env)) (RR:=λ_ s'=>SP X pins D .next s') hc S hi (λcl C s0 H0 fp _ _ _=>hin cl C s0 H0 fp) hg hs pins s σ H _ I h λd C s6 H6 m q I6 hn gn=>?_) λ_ s' hq=>b5A (b5A hq));show wpAny _ X.A (assign (.Name x pos') X.env (.ref d)) _ _ s6;refine wpAny_assign_Name (a4T I6 hN hix (.inl hx) (v:=.ref d) rfl (λs7 I7 ch=>?_) (.inr hx));obtain⟨a,hsb,ha⟩:=ch;have ne:C≠a:=by
  rcases ha with z|z
  ·rw[z];exact gn.ne
  ·exact λz'=>gn.cl x a z z'.symm
 exact⟨m,hn.sameBut hsb ne,λh' hs'=>⟨_,H6,I7.gone gn hs',q⟩⟩
theorem a6V {X:Cx} {elt tg iter:Expr} {cs:List Expr} {scope:Scope} {pos:Pos} {wi:TI} {g:TG} {tc:TT} {te:TE} {xs M:List Str} (hc:X.calm=true) (S:a0s scope X.env X.N M) (hi:PI X tg iter wi)
  (hin:∀(cl:List (Str × Addr)) (C:Addr) (s0:Shared) (H0:Hp) (fp:List Addr) (pins:List (Addr × Obj)) (σ:St),Back X (cxC X scope cl C s0 H0 fp (xs++M)) pins σ fp C s0 H0->PG (cxC X scope cl C s0 H0 fp (xs++M)) tg g/\PTs (cxC X scope cl C s0 H0 fp (xs++M)) cs tc/\PE (cxC X scope cl C s0 H0 fp (xs++M)) elt te)
  (hg:∀v σ H Q,g v (List.replicate xs.length none++σ) H Q->g v (List.replicate xs.length none++σ) H λσ2 H2=>(∃l:St,l.length=xs.length/\σ2=l++σ)/\Q σ2 H2)
  (hs:∀x,foldedSetIterable iter X.env x=pure x:=by intro _;rfl):PE X (.ListComp elt [⟨tg,iter,cs,0⟩] scope pos) (a8b xs.length wi g tc te):=by
 intro pins s σ H Q I h;rw[eval_ListComp];exact a4i (use:=none) hc S hi hin hg hs pins s σ H Q I h λd C s6 H6 m q I6 hn gn=>⟨m,hn,λh' hs'=>⟨.ref d,H6,I6.gone gn hs',rfl,q⟩⟩
def a8E (x:V) (i:Int):Prop:=x=.int i
def b2U {α:Type} (H:Hp) (R:V->α->Prop) (x:V) (ds:List α):Prop:=∃a xs,x=.ref a/\H a=some (.tup xs)/\Paired R xs ds
theorem all_eq {α:Type} [DecidableEq α]:∀(as bs:List α) (e:Nat->Bool),(∀j x y,as[j]?=some x->bs[j]?=some y->e j=decide (x=y)) ->
  ((List.range (min as.length bs.length)).all e&&as.length==bs.length)=decide (as=bs):=by
 intro as bs e h;rw[b8L];simp only[b6W,b8B,b6F,c0F,b6K];constructor
 ·rintro⟨h1,h2⟩;refine b8X λj=>?_;by_cases hj:j<as.length
  ·have e1:as[j]?=some as[j]:=b5z hj;have e2:bs[j]?=some (bs[j]'(by omega)):=b5z (by omega);have q:=h1 j (by omega);rw[h j _ _ e1 e2] at q;rw[e1,e2,b5X q]
  ·rw[b7q (by omega),b7q (by omega)]
 ·rintro rfl;refine⟨λj hj=>?_,rfl⟩;have hj:j<as.length:=by omega
  have e1:as[j]?=some as[j]:=b5z hj;rw[h j _ _ e1 e1];simp
theorem Paired.right_of {α β:Type} {R:α->β->Prop}:∀{xs:List α} {ds:List β},Paired R xs ds->∀(j:Nat) (x:α),xs[j]?=some x->∃d,ds[j]?=some d/\R x d
 | _,_,.nil,j,x,e=>by simp at e
 | _,_,.cons r t,0,x,e=>by simp at e;subst e;exact⟨_,rfl,r⟩
 | _,_,.cons r t,j+1,x,e=>by
  obtain⟨d,e1,e2⟩:=Paired.right_of t j x (by simpa using e);exact⟨d,by simpa using e1,e2⟩
theorem Paired.ints:∀ns:List Int,Paired a8E (ns.map V.int) ns
 | []=>.nil
 | n::ns=>.cons rfl (Paired.ints ns)
theorem Paired.ofInts:∀{xs:List V} {ns:List Int},Paired a8E xs ns->xs=ns.map V.int
 | _,_,.nil=>rfl
 | _,_,.cons r t=>by rw[show _=_ from r,Paired.ofInts t];rfl
theorem a3a {H:Hp} {a:Addr} {ns:List Int} (h:H a=some (.tup (ns.map V.int))):b2U H a8E (.ref a) ns:=⟨a,_,rfl,h,Paired.ints ns⟩
section
variable {α:Type} [DecidableEq α] {P:Program} {w:World} {H:Hp} {s:Shared} {n:Nat} {R:V->α->Prop} {A:Around}
theorem a1t {h:Heap} {a:Addr} {its:List Value} {k:Nat} (e:h.get? a=some { cls:=.type "list",data:=.seq its.toArray k }):h.IsList a its.toArray:=⟨_,e,rfl,_,rfl⟩
end
section
variable {X:Cx} {α:Type} [DecidableEq α]
end
def rSlG:V->Option Int->Option Int->Hp->VK->Prop:=λx lo hi H Q=>∃a xs,x=.ref a/\H a=some (.tup xs)/\∀p H',a0m H H'->H' p=some (.tup (a5b xs lo hi))->Q (.ref p) H'
theorem sixAll {n:Nat} {α:Type} (xs:List α) (lo hi:Option Int) (h1:HT.sIx xs.length 0 lo=0) (h2:HT.sIx xs.length xs.length hi=xs.length):(xs.drop (HT.sIx xs.length 0 lo)).take (HT.sIx xs.length xs.length hi-HT.sIx xs.length 0 lo)=xs:=by
 rw[h1,h2];simp
theorem a0c {H:Hp} {p:Addr} (h:H p=none) (o:HO):a0m H (upd H p o):=λb u q=>by rw[a0h (a0A q h)];exact q
theorem a5Z {prog:Program} {w:World} {A:Around} {E:Value->Shared->Prop} {s:Shared} {t sl:Addr} {items:Array Value} {vl vu:Value} {lo hi:Option Int} {Q:Value->Shared->Prop} (ht:IsTup s.heap t items) (hs:s.heap.IsSliceOf sl vl vu .none) (pl:IsPart vl lo) (pu:IsPart vu hi)
  (h1:HT.sIx items.size 0 lo=0) (h2:HT.sIx items.size items.size hi=items.size) (h:Q (.ref t) s):wpAny (model prog w) A (getItem (.ref t) (.ref sl)) Q E s:=by
 obtain⟨os,hos,hcs,hds⟩:=id hs;have hTs:s.TypeIs (.ref sl) "slice":=⟨os,hos,hcs⟩
 unfold getItem
 try with_reducible refine b6d ?_
 first|refine b5w (b5A ?_)|skip
 refine b5w (wpAny_sequenceKey ht.typeIs (by decide) ?_);refine b5w (b6s (name:=Str.ofString "__getitem__") ht.typeIs b7a
  (b6i b7a ht.typeIs entry_tuple_getitem ?_ (args_tuple_getitem _ _)))
 show wpAny _ _ (Builtin.Tuple.tupleItemsOf (.ref t) >>= _) _ _ s;refine b5w (tupleItemsOf_ ht ?_);refine b5w (b9k hTs ?_);rw[if_pos (by decide)];refine b5w (HT.a1H hs pl pu ?_);rw[h1,h2];show wpAny _ _ (if (((0:Nat):Int)==0&&(1:Int)==1&&(items.size-0)==items.size)=true then _ else _) _ _ s;rw[if_pos (by simp)];unfold Builtin.Tuple.tupleIsExact;refine b5w (b5w (b9k ht.typeIs (b5A ?_)));rw[if_pos (by decide)]
 first
  | exact b5w (b7K (b5w (b5A (b5A ⟨_,rfl,b5A h⟩))))
  | exact b5w (b7K (b5A ⟨_,rfl,b5A h⟩))
  | exact b5w (b5w (b7K (b5A ⟨_,rfl,b5A h⟩)))
theorem a6a {X:Cx}:SlR X rSlG:=by
 intro pins s σ H x v vl vu lo hi sl Q I rx hs pl pu h;obtain⟨a,xs,rfl,hx,q⟩:=h;by_cases hw:HT.sIx xs.length 0 lo=0/\HT.sIx xs.length xs.length hi=xs.length
 ·cases rx;obtain⟨hz,its,r,ht⟩:=I.hok a _ hx;have hlen:its.toArray.size=xs.length:=by rw[b5I];exact r.length.symm
  refine⟨"tuple",_,b7a.lookup,(a4R.is ht).typeIs,?_⟩;refine a5Z (a4R.is ht) hs pl pu (by rw[hlen];exact hw.1) (by rw[hlen];exact hw.2) ⟨.ref a,H,I,rfl,q a H (a0m.refl H) ?_⟩;unfold a5b;rw[sixAll (n:=0) xs lo hi hw.1 hw.2];exact hx
 ·exact b2R pins s σ H (.ref a) v vl vu lo hi sl Q I rx hs pl pu ⟨a,xs,rfl,.inl (.inl hx),hw,λp hp=>q p _ (a0c hp _) a0b⟩
def rCatG:R2:=λx y H Q=>∃a b xs ys,x=.ref a/\y=.ref b/\H a=some (.tup xs)/\H b=some (.tup ys)/\xs.length+ys.length<=sizeLine/\∀p H',a0m H H'->H' p=some (.tup (xs++ys))->Q (.ref p) H'
theorem a3b {X:Cx}:OpR X (binaryOp .Add) rCatG:=by
 intro pins s σ H x y v u Q I rx ry h;obtain⟨a,b,xs,ys,rfl,rfl,ha,hb,hz,q⟩:=h;by_cases hx:xs=[]
 ·subst hx;cases rx;cases ry;obtain⟨_,its,r1,p1⟩:=I.hok a _ ha;obtain⟨_,its2,r2,p2⟩:=I.hok b _ hb;have e0:its=[]:=r1.nil_iff.mpr rfl;subst e0;obtain⟨⟨cls,dd,data,sl⟩,ho,hc,n,hd⟩:=id (a4R.is p1);obtain⟨⟨cls2,dd2,data2,sl2⟩,ho2,hc2,n2,hd2⟩:=id (a4R.is p2);simp only at hc hd hc2 hd2;subst hc hd hc2 hd2;exact concat_meets ⟨_,ho,rfl⟩ ⟨_,ho2,rfl⟩ c0W seq_tuple_add b9w b9r (b9j _ _)
   (tuple_addW0 a b ([]:List Value).toArray its2.toArray n n2 dd dd2 sl sl2 (by simp)) ⟨ho,ho2,⟨.ref b,H,I,rfl,q b H (a0m.refl H) (by simpa using hb)⟩⟩
 ·exact b3O pins s σ H (.ref a) (.ref b) v u Q I rx ry ⟨a,b,xs,ys,rfl,rfl,.inl (.inl ha),.inl (.inl hb),hx,hz,λz=>q a H (a0m.refl H) (by rw[z,b6B];exact ha),λ_ p hp=>q p _ (a0c hp _) a0b⟩
def rAll:List V->Hp->VK->Prop:=λxs H Q=>∃(a:Addr) (bs:List Bool),xs=[.ref a]/\H a=some (.lst (bs.map V.bl))/\Q (.bl (bs.all id)) H
theorem b1t:∀{bs:List Bool} {us:List Value},a0w (bs.map V.bl) us->us=bs.map Value.bool:=by
 intro bs
 induction bs with
 | nil=>intro us r;rw[c1c] at r;cases r;rfl
 | cons b bs ih =>
  intro us r;rw[b6m] at r;cases r with
  | cons r1 r2=>rw[ih r2,show _=Value.bool b from r1];rfl
theorem a9l (bs:List Bool):(List.range bs.length).all (λi=>bs.getD i true)=bs.all id:=by
 rw[b8L];simp only[b8B,b6F,id];constructor
 ·intro h b hb;obtain⟨i,hi,rfl⟩:=b7i.mp hb;have q:=h i hi
  rwa [b5B,b5z hi] at q
 ·intro h i hi;rw[b5B,b5z hi];exact h _ (b7t hi)
theorem b1u {X:Cx} (hc:X.calm=true):a2w X (.builtin "all") rAll:=by
 intro pins s σ H xs us Q I r h;obtain⟨a,bs,rfl,ha,q⟩:=h;obtain⟨u,rfl,ru⟩:=a1Z r;cases ru;obtain⟨hz,its,n,v,e⟩:=I.hok a _ ha;have ei:=b1t v;subst ei;refine call_all_walk (b7v (a1t e) ?_);have hlt:=b5F e;refine⟨s.heap.objs.size,_,_,_,_,_,λi=>bs.getD i true,rfl,c0k (A:=X.A.in1) (by show X.A.handled=none;exact I.ok.hd hc) s.heap.objs.size a (b5O hlt) (bs.map Value.bool).toArray,⟨⟨_,b5D _ rfl,rfl,rfl⟩,a1t (b5y _ e)⟩,?_,λh' tk hk=>?_⟩
 ·intro i v s' Q' E' hv hq;simp only[List.getElem?_toArray,b5L] at hv;cases hb:bs[i]? with
  | none=>rw[hb] at hv;cases hv
  | some b =>
   rw[hb] at hv;cases hv;have hq':Q' (bs.getD i true) s':=hq;rw[b5B,hb] at hq';exact b7E hq'
 ·have e1:(bs.map Value.bool).toArray.size=bs.length:=by simp
  rw[e1,a9l];exact⟨.bl _,H,I.kept (h':=h') (t':=tk) (λb o eo=>hk b o (by simp;exact b5O (b5F eo)) (b5y _ eo)),rfl,q⟩
def rSum:List V->Hp->VK->Prop:=λxs H Q=>∃(a:Addr) (ns:List Int),xs=[.ref a]/\H a=some (.lst (ns.map V.int))/\Q (.int ns.sum) H
theorem a3K:∀{ns:List Int} {us:List Value},a0w (ns.map V.int) us->∀(i:Nat) (v:Value),us[i]?=some v->∃t,v=.int (ns.getD i 0) t:=by
 intro ns
 induction ns with
 | nil=>intro us r i v e;rw[c1c] at r;cases r;simp at e
 | cons n ns ih =>
  intro us r i v e;rw[b6m] at r;cases r with
  | cons r1 r2 =>
   cases i with
   | zero =>
    simp at e;subst e;obtain⟨t,z⟩:=r1;exact⟨t,by rw[z];simp⟩
   | succ i =>
    obtain⟨t,z⟩:=ih r2 i v (by simpa using e);exact⟨t,by rw[z];simp⟩
theorem a4j {X:Cx} (hc:X.calm=true):a2w X (.builtin "sum") rSum:=by
 intro pins s σ H xs us Q I r h;obtain⟨a,ns,rfl,ha,q⟩:=h;obtain⟨u,rfl,ru⟩:=a1Z r;cases ru;obtain⟨hz,its,n,v,e⟩:=I.hok a _ ha;refine call_sum_walkAnyS (b7v (a1t e) ?_);have hlt:=b5F e;refine⟨s.heap.objs.size,_,_,_,_,_,_,λi=>ns.getD i 0,rfl,(c0k (A:=X.A.in1) (by show X.A.handled=none;exact I.ok.hd hc) s.heap.objs.size a (b5O hlt) its.toArray).toS,⟨⟨_,b5D _ rfl,rfl,rfl⟩,a1t (b5y _ e)⟩,?_,?_,λs' t' mv=>?_⟩
 ·intro b hb;have hp:(s.heap.push { cls:=.type "list_iterator",data:=.fields #[.ref a,rawInt 0] }).objs.size=s.heap.objs.size+1:=b6h _ _;rcases b5Q.mp hb with z|z
  ·subst z;exact b5F (b5D _ rfl)
  ·have z':b=a:=by simpa using z
   subst z';exact b5F (b5y _ e)
 ·intro i v' hv;exact a3K v i v' (by simpa using hv)
 ·have e1:its.toArray.size=ns.length:=by
   have:=v.length;rw[b5x] at this;simpa using this.symm
  rw[e1,preSum_getD];have e2:ns.take ns.length=ns:=b6z;rw[e2];have k:∀b o,s.heap.get? b=some o->s'.heap.get? b=some o:=λb o eo=>mv.heap b o (by simp;exact b5O (b5F eo)) (b5y _ eo);obtain⟨h',g',d',tk',os'⟩:=s';have z1:g'=s.gens:=mv.gens;have z2:d'=s.drawn:=mv.drawn;have z3:os'=s.os:=mv.os;subst z1 z2 z3;exact⟨.int _,H,I.kept (h':=h') (t':=tk') k,⟨t',rfl⟩,q⟩
theorem a0z (scope:Scope) (en:Env) (y:Str):(relabel scope en).names.lookup y=(scope.names.lookup y).map λk=>if (k==NameKind.free&&en.scope.kind==.function&&en.kindOf y==some .cell)=true then .cell else k:=by
 show List.lookup y (scope.names.map λ(n,k)=>if (k==NameKind.free&&en.scope.kind==.function&&en.kindOf n==some .cell)=true then (n,NameKind.cell) else (n,k))=_;generalize scope.names=l
 induction l with
 | nil=>rfl
 | cons p r ih =>
  obtain⟨n,k⟩:=p;rw[b6m];by_cases hy:y=n
  ·subst hy;show List.lookup y ((if (k==NameKind.free&&en.scope.kind==.function&&en.kindOf y==some .cell)=true then (y,NameKind.cell) else (y,k))::_)=_;by_cases hc:(k==NameKind.free&&en.scope.kind==.function&&en.kindOf y==some .cell)=true
   ·rw[if_pos hc,b7C,b7C,c0X];show some NameKind.cell=some (if _ then _ else _);rw[if_pos hc]
   ·rw[if_neg hc,b7C,b7C,c0X];show some k=some (if _ then _ else _);rw[if_neg hc]
  ·have hb:(y==n)=false:=by simpa using hy
   show List.lookup y ((if (k==NameKind.free&&en.scope.kind==.function&&en.kindOf n==some .cell)=true then (n,NameKind.cell) else (n,k))::_)=_;by_cases hc:(k==NameKind.free&&en.scope.kind==.function&&en.kindOf n==some .cell)=true
   ·rw[if_pos hc,b7C,b7C,hb];exact ih
   ·rw[if_neg hc,b7C,b7C,hb];exact ih
def a6W (scope:Scope) (p:Str × Str):Bool:=match scope.names.lookup p.1 with
 | none=>true
 | some .free=>p.1==p.2
 | some .local=>false
 | some .cell=>false
 | some _=>true
theorem a0s.of' {scope:Scope} {en:Env} {N M:List Str} (sc:Scope) (N₀:List Str) (hsc:en.scope=sc) (hN:N=N₀) (kind:scope.kind=.function) (nocell:∀y∈scope.names,y.2≠.cell) (locs:∀y∈scope.names,y.2=.local->scope.names.lookup y.1=some .local)
  (free:∀y∈scope.names,y.2=.free->sc.names.lookup y.1=some .cell\/sc.names.lookup y.1=some .free) (len:M.length=N₀.length) (same:((M.zip N₀).all (a6W scope))=true):a0s scope en N M:=by
 subst hsc hN;refine⟨kind,nocell,locs,λy hy=>free _ hy rfl,len,λj y e v=>?_,λy h=>?_⟩
 ·have hj:j<N.length:=by rw[<-len];exact(b5E.mp e).1
  have e2:N[j]?=some N[j]:=b5z hj;have hm:(y,N[j])∈M.zip N:=by
   refine b6J.mpr ⟨j,?_⟩;rw[b8Z];exact⟨e,e2⟩
  have q:=b8B.mp same _ hm;unfold a6W at q;unfold Vis at v;rw[a0z] at v ⊢;cases hl:scope.names.lookup y with
  | none=>rw[hl] at v;simp at v
  | some k =>
   rw[hl] at v q;simp only[Option.map_some] at v ⊢;cases k with
   | free =>
    have z:y=N[j]:=by simpa using q
    refine⟨by rw[e2,<-z],b7e hl,?_⟩;split<;>simp
   | «local»=>simp at q
   | cell=>simp at q
   | _=>simp at v
 ·rw[a0z] at h;cases hl:scope.names.lookup y with
  | none=>rw[hl] at h;simp at h
  | some k =>
   rw[hl] at h;have hm:=b7e hl;simp only[Option.map_some] at h;cases k with
   | free=>exact hm
   | cell=>exact absurd rfl (nocell _ hm)
   | _=>simp at h
theorem a0s.of {scope:Scope} {en:Env} {N M:List Str} (sc:Scope) (N₀:List Str) (hsc:en.scope=sc) (hN:N=N₀) (kind:scope.kind=.function) (nocell:∀y∈scope.names,y.2≠.cell) (locs:∀y∈scope.names,y.2=.local->scope.names.lookup y.1=some .local)
  (free:∀y∈scope.names,y.2=.free->sc.names.lookup y.1=some .cell\/sc.names.lookup y.1=some .free) (len:M.length=N₀.length) (same:((M.zip N₀).all (a6W scope))=true):a0s scope en N M:=a0s.of' sc N₀ hsc hN kind nocell locs free len same
theorem cso {scope:Scope} {en:Env} {N M:List Str} (sc:Scope) (N₀:List Str) (hsc:en.scope=sc:=by rfl) (hN:N=N₀:=by rfl) (kind:scope.kind=.function:=by rfl) (nocell:∀y∈scope.names,y.2≠.cell:=by decide +kernel) (locs:∀y∈scope.names,y.2=.local->scope.names.lookup y.1=some .local:=by decide +kernel) (free:∀y∈scope.names,y.2=.free->sc.names.lookup y.1=some .cell\/sc.names.lookup y.1=some .free:=by decide +kernel) (len:M.length=N₀.length:=by rfl) (same:((M.zip N₀).all (a6W scope))=true:=by decide +kernel):a0s scope en N M:=a0s.of sc N₀ hsc hN kind nocell locs free len same
theorem b2V {v:V} {σ:St} {H:Hp} {Q:St->Hp->Prop} (h:a1J 0 v (List.replicate 1 none++σ) H Q):a1J 0 v (List.replicate 1 none++σ) H λσ2 H2=>(∃l:St,l.length=1/\σ2=l++σ)/\Q σ2 H2 :=
 ⟨⟨[some v],rfl,rfl⟩,h⟩
theorem a3L {lo:Int} {n:Nat} {k:Nat} {g:TG} {tc:TT} {te:TE} {σ:St} {H:Hp} {Q:VK} {d:Addr} (Pv:Nat->Hp->Prop) (h0:Pv 0 (upd H d (.lst [])))
  (hs:∀i H,i<n->Pv i H->g (.int (lo+i)) (List.replicate k none++σ) H λσ2 H2=>tc σ2 H2 λb H3=>if b=true then te σ2 H3 λy H4=>∃ys,H4 d=some (.lst ys)/\ys.length<sizeLine/\Pv (i+1) (upd H4 d (.lst (ys++[y]))) else Pv (i+1) H3)
  (hd:∀H,Pv n H->Q (.ref d) H) :
  ∃W:Nat->Nat->Hp->Prop,(∃m,W 0 m (upd H d (.lst [])))/\∀i m H,W i m H ->
   ((Itr lo n).stop i H/\Q (.ref d) H)\/((Itr lo n).go i H/\∃N:Hp->Prop,(∀H',N H'->∃m',m'<m/\W (i+1) m' H')/\∀x H',(Itr lo n).yld i H x H'->g x (List.replicate k none++σ) H' λσ2 H2 =>
    tc σ2 H2 λb H3=>if b=true then te σ2 H3 λy H4=>∃ys,H4 d=some (.lst ys)/\ys.length<sizeLine/\N (upd H4 d (.lst (ys++[y]))) else N H3):=by
 refine⟨λi m H=>m=n-i/\i<=n/\Pv i H,⟨n,by simp,b6e _,h0⟩,?_⟩;rintro i m H ⟨rfl,hi,p⟩;by_cases hlt:i<n
 ·refine .inr ⟨hlt,Pv (i+1),λH' p'=>⟨n-(i+1),by omega,rfl,hlt,p'⟩,λx H' y=>?_⟩;obtain⟨e,y⟩:=y;subst e y;exact hs i _ hlt p
 ·have e:i=n:=by omega
  subst e;exact .inl ⟨b5G _,hd H p⟩
theorem b1v {K:PySem.W.Frag} {a:Addr} {xs:List V} {k:Nat} {g:TG} {tc:TT} {te:TE} {σ:St} {H:Hp} {Q:VK} {d:Addr} (Pv:Nat->Hp->Prop) (h0:Pv 0 (upd H d (.lst []))) (hl:∀i H,i<=xs.length->Pv i H->SqT K H a xs)
  (hs:∀i x H,xs[i]?=some x->Pv i H->g x (List.replicate k none++σ) H λσ2 H2=>tc σ2 H2 λb H3=>if b=true then te σ2 H3 λy H4=>∃ys,H4 d=some (.lst ys)/\ys.length<sizeLine/\Pv (i+1) (upd H4 d (.lst (ys++[y]))) else Pv (i+1) H3)
  (hd:∀H,Pv xs.length H->Q (.ref d) H) :
  ∃W:Nat->Nat->Hp->Prop,(∃m,W 0 m (upd H d (.lst [])))/\∀i m H,W i m H ->
   ((Itt K a).stop i H/\Q (.ref d) H)\/((Itt K a).go i H/\∃N:Hp->Prop,(∀H',N H'->∃m',m'<m/\W (i+1) m' H')/\∀x H',(Itt K a).yld i H x H'->g x (List.replicate k none++σ) H' λσ2 H2 =>
    tc σ2 H2 λb H3=>if b=true then te σ2 H3 λy H4=>∃ys,H4 d=some (.lst ys)/\ys.length<sizeLine/\N (upd H4 d (.lst (ys++[y]))) else N H3):=by
 refine⟨λi m H=>m=xs.length-i/\i<=xs.length/\Pv i H,⟨xs.length,by simp,b6e _,h0⟩,?_⟩;rintro i m H ⟨rfl,hi,p⟩;have q:=hl i H hi p;by_cases hlt:i<xs.length
 ·refine .inr ⟨⟨xs,xs[i],q,by simp[hlt]⟩,Pv (i+1),λH' p'=>⟨xs.length-(i+1),by omega,rfl,hlt,p'⟩,λx H' y=>?_⟩;obtain⟨e,y⟩:=y;subst e;exact hs i x _ (y xs q) p
 ·have e:i=xs.length:=by omega
  subst e;exact .inl ⟨⟨xs,q,b5G _⟩,hd H p⟩
theorem a3c {K:PySem.W.Frag} {a:Addr} {xs:List V} {k:Nat} {g:TG} {tc:TT} {te:TE} {σ:St} {H:Hp} {Q:VK} {d:Addr} (Pv:Nat->Hp->Prop) (h0:Pv 0 (upd H d (.lst []))) (hl:∀i H,i<=xs.length->Pv i H->SqL K H a xs)
  (hs:∀i x H,xs[i]?=some x->Pv i H->g x (List.replicate k none++σ) H λσ2 H2=>tc σ2 H2 λb H3=>if b=true then te σ2 H3 λy H4=>∃ys,H4 d=some (.lst ys)/\ys.length<sizeLine/\Pv (i+1) (upd H4 d (.lst (ys++[y]))) else Pv (i+1) H3)
  (hd:∀H,Pv xs.length H->Q (.ref d) H) :
  ∃W:Nat->Nat->Hp->Prop,(∃m,W 0 m (upd H d (.lst [])))/\∀i m H,W i m H ->
   ((Itl K a).stop i H/\Q (.ref d) H)\/((Itl K a).go i H/\∃N:Hp->Prop,(∀H',N H'->∃m',m'<m/\W (i+1) m' H')/\∀x H',(Itl K a).yld i H x H'->g x (List.replicate k none++σ) H' λσ2 H2 =>
    tc σ2 H2 λb H3=>if b=true then te σ2 H3 λy H4=>∃ys,H4 d=some (.lst ys)/\ys.length<sizeLine/\N (upd H4 d (.lst (ys++[y]))) else N H3):=by
 refine⟨λi m H=>m=xs.length-i/\i<=xs.length/\Pv i H,⟨xs.length,by simp,b6e _,h0⟩,?_⟩;rintro i m H ⟨rfl,hi,p⟩;have q:=hl i H hi p;by_cases hlt:i<xs.length
 ·refine .inr ⟨⟨xs,xs[i],q,by simp[hlt]⟩,Pv (i+1),λH' p'=>⟨xs.length-(i+1),by omega,rfl,hlt,p'⟩,λx H' y=>?_⟩;obtain⟨e,y⟩:=y;subst e;exact hs i x _ (y xs q) p
 ·have e:i=xs.length:=by omega
  subst e;exact .inl ⟨⟨xs,q,b5G _⟩,hd H p⟩
theorem b_all:bootBuiltins "all"=some (.builtin "all"):=by decide +kernel
theorem b1w:bootBuiltins "sum"=some (.builtin "sum"):=by decide +kernel
theorem b_min:bootBuiltins "min"=some (.builtin "min"):=by decide +kernel
theorem a2y:bootBuiltins "tuple"=some (.type "tuple"):=by decide +kernel
theorem PE.imp {X:Cx} {e:Expr} {t t':TE} (h:PE X e t) (hi:∀σ H Q,t' σ H Q->t σ H Q):PE X e t':=λpins s σ H Q I q=>h pins s σ H Q I (hi σ H Q q)
def a8c (tc:TT) (te:TE) (σ:St) (d:Addr) (x:V) (H:Hp) (Z:Hp->Prop):Prop :=
 tc (some x :: σ) H λb H3=>if b=true then te (some x :: σ) H3 λy H4=>∃ys,H4 d=some (.lst ys)/\ys.length<sizeLine/\Z (upd H4 d (.lst (ys++[y]))) else Z H3
def b3W (ta:TA) (tc:TT) (te:TE):TE:=λσ H Q=>ta σ H λvs H1=>∃j:Int,vs=[.int j]/\-(2 ^ 62)<=j/\j<2 ^ 62/\∀d,H1 d=none ->
 ∃Pv:Nat->Hp->Prop,Pv 0 (upd H1 d (.lst []))/\(∀i H,i<j.toNat->Pv i H->a8c tc te σ d (.int (0+i)) H (Pv (i+1)))/\∀H,Pv j.toNat H->Q (.ref d) H
def b3X (ta:TA) (tc:TT) (te:TE):TE:=λσ H Q=>ta σ H λvs H1=>∃lo hi:Int,vs=[.int lo,.int hi]/\(-(2 ^ 62)<=lo/\lo<2 ^ 62/\-(2 ^ 62)<=hi/\hi<2 ^ 62)/\∀d,H1 d=none ->
 ∃Pv:Nat->Hp->Prop,Pv 0 (upd H1 d (.lst []))/\(∀i H,i<(hi-lo).toNat->Pv i H->a8c tc te σ d (.int (lo+i)) H (Pv (i+1)))/\∀H,Pv (hi-lo).toNat H->Q (.ref d) H
def b2W (K:PySem.W.Frag) (tl:TE) (tc:TT) (te:TE):TE:=λσ H Q=>tl σ H λv H1=>∃a xs,v=.ref a/\SqL K H1 a xs/\∀d,H1 d=none ->
 ∃Pv:Nat->Hp->Prop,Pv 0 (upd H1 d (.lst []))/\(∀i H,i<=xs.length->Pv i H->SqL K H a xs)/\(∀i x H,xs[i]?=some x->Pv i H->a8c tc te σ d x H (Pv (i+1)))/\∀H,Pv xs.length H->Q (.ref d) H
def tCompT (K:PySem.W.Frag) (tl:TE) (tc:TT) (te:TE):TE:=λσ H Q=>tl σ H λv H1=>∃a xs,v=.ref a/\SqT K H1 a xs/\∀d,H1 d=none ->
 ∃Pv:Nat->Hp->Prop,Pv 0 (upd H1 d (.lst []))/\(∀i H,i<=xs.length->Pv i H->SqT K H a xs)/\(∀i x H,xs[i]?=some x->Pv i H->a8c tc te σ d x H (Pv (i+1)))/\∀H,Pv xs.length H->Q (.ref d) H
def a1u (t:TE):Prop:=∀σ H (Q Q':VK),(∀v H1,Q v H1->Q' v H1)->t σ H Q->t σ H Q'
def a5h (t:TA):Prop:=∀σ H (Q Q':List V->Hp->Prop),(∀v H1,Q v H1->Q' v H1)->t σ H Q->t σ H Q'
section
variable {X:Cx} {elt iter:Expr} {tg:Str} {tp:Pos} {cs:List Expr} {scope:Scope} {pos:Pos} {tc:TT} {te:TE} {M:List Str}
abbrev a6b (X:Cx) (scope:Scope) (tg:Str) (M:List Str) (cs:List Expr) (elt:Expr) (tc:TT) (te:TE):Prop :=
 ∀(cl:List (Str × Addr)) (C:Addr) (s0:Shared) (H0:Hp) (fp:List Addr),PTs (cxC X scope cl C s0 H0 fp (tg::M)) cs tc/\PE (cxC X scope cl C s0 H0 fp (tg::M)) elt te
theorem a2K {wi:TI} {t:TE} (hc:X.calm=true) (S:a0s scope X.env X.N M) (nd:(tg::M).Nodup) (hl:scope.names.lookup tg=some .local) (hi:PI X (.Name tg tp) iter wi) (hin:a6b X scope tg M cs elt tc te)
  (ht:∀σ H Q,t σ H Q->a8b 1 wi (a1J 0) tc te σ H Q) (hs:∀x,foldedSetIterable iter X.env x=pure x):PE X (.ListComp elt [⟨.Name tg tp,iter,cs,0⟩] scope pos) t:=by
 have hx:(relabel scope X.env).names.lookup tg=some .local:=by
  rw[a0z,hl];rfl
 exact PE.imp (b3U (xs:=[tg]) (M:=M) hc S hi (λcl C s0 H0 fp=>⟨a2b (i:=0) nd rfl (Or.inl hx) (Or.inr hx),hin cl C s0 H0 fp⟩) (λv σ H Q h=>b2V h) hs) ht
theorem a1k {a:Expr} {ta:TA} {p pos':Pos} (hc:X.calm=true) (S:a0s scope X.env X.N M) (nd:(tg::M).Nodup) (hl:scope.names.lookup tg=some .local) (hg:Gl X "range") (hm:X.mg "range"=none) (ha:PA X [a] ta) (mo:a5h ta)
  (hin:a6b X scope tg M cs elt tc te) (hs:starEach [a] X.env=[(false,eval a X.env)]:=by rfl) (hf:∀x,foldedSetIterable (.Call (.Name "range" p) [a] [] pos') X.env x=pure x:=by intro _;rfl) :
  PE X (.ListComp elt [⟨.Name tg tp,.Call (.Name "range" p) [a] [] pos',cs,0⟩] scope pos) (b3W ta tc te):=by
 refine a2K hc S nd hl (a4U hg hm ha hs) hin (λσ H Q h=>?_) hf;refine mo σ H _ _ (λvs H1 q=>?_) h;obtain⟨j,e,j1,j2,q⟩:=q;refine⟨j,e,j1,j2,λd hd=>?_⟩;obtain⟨Pv,h0,hs,hd⟩:=q d hd;exact a3L (k:=1) (g:=a1J 0) Pv h0 hs hd
theorem a5i {a b:Expr} {ta:TA} {p pos':Pos} (hc:X.calm=true) (S:a0s scope X.env X.N M) (nd:(tg::M).Nodup) (hl:scope.names.lookup tg=some .local) (hg:Gl X "range") (hm:X.mg "range"=none) (ha:PA X [a,b] ta) (mo:a5h ta)
  (hin:a6b X scope tg M cs elt tc te) (hs:starEach [a,b] X.env=[(false,eval a X.env),(false,eval b X.env)]:=by rfl) (hs2:starEach [b] X.env=[(false,eval b X.env)]:=by rfl) (hf:∀x,foldedSetIterable (.Call (.Name "range" p) [a,b] [] pos') X.env x=pure x:=by intro _;rfl) :
  PE X (.ListComp elt [⟨.Name tg tp,.Call (.Name "range" p) [a,b] [] pos',cs,0⟩] scope pos) (b3X ta tc te):=by
 refine a2K hc S nd hl (a1K hg hm ha hs hs2) hin (λσ H Q h=>?_) hf;refine mo σ H _ _ (λvs H1 q=>?_) h;obtain⟨lo,hi,e,j1,q⟩:=q;refine⟨lo,hi,e,j1,λd hd=>?_⟩;obtain⟨Pv,h0,hs,hd⟩:=q d hd;exact a3L (k:=1) (g:=a1J 0) Pv h0 hs hd
theorem a1A {tl:TE} (hc:X.calm=true) (S:a0s scope X.env X.N M) (nd:(tg::M).Nodup) (hl:scope.names.lookup tg=some .local) (hi:PE X iter tl) (mo:a1u tl)
  (hin:a6b X scope tg M cs elt tc te) (hf:∀x,foldedSetIterable iter X.env x=pure x:=by intro _;rfl):PE X (.ListComp elt [⟨.Name tg tp,iter,cs,0⟩] scope pos) (b2W X.K tl tc te):=by
 refine a2K hc S nd hl (a2c hi) hin (λσ H Q h=>?_) hf;refine mo σ H _ _ (λv H1 q=>?_) h;obtain⟨a,xs,e,j1,q⟩:=q;refine⟨a,e,⟨xs,j1⟩,λd hd=>?_⟩;obtain⟨Pv,h0,hl,hs,hd⟩:=q d hd;exact a3c (k:=1) (g:=a1J 0) Pv h0 hl hs hd
theorem a4k {tl:TE} (hc:X.calm=true) (S:a0s scope X.env X.N M) (nd:(tg::M).Nodup) (hl:scope.names.lookup tg=some .local) (hi:PE X iter tl) (mo:a1u tl)
  (hin:a6b X scope tg M cs elt tc te) (hf:∀x,foldedSetIterable iter X.env x=pure x:=by intro _;rfl):PE X (.ListComp elt [⟨.Name tg tp,iter,cs,0⟩] scope pos) (tCompT X.K tl tc te):=by
 refine a2K hc S nd hl (a8N hi) hin (λσ H Q h=>?_) hf;refine mo σ H _ _ (λv H1 q=>?_) h;obtain⟨a,xs,e,j1,q⟩:=q;refine⟨a,e,⟨xs,j1⟩,λd hd=>?_⟩;obtain⟨Pv,h0,hl,hs,hd⟩:=q d hd;exact b1v (k:=1) (g:=a1J 0) Pv h0 hl hs hd
theorem b1x {wi:TI} {t:TE} {i:Nat} {x:Str} {pos1 spos:Pos} (hc:X.calm=true) (S:a0s scope X.env X.N M) (nd:(tg::M).Nodup) (hl:scope.names.lookup tg=some .local) (hi:PI X (.Name tg tp) iter wi) (hin:a6b X scope tg M cs elt tc te)
  (ht:∀σ H Q,t σ H Q->a8b 1 wi (a1J 0) tc te σ H Q) (hN:X.N.Nodup) (hix:X.N[i]?=some x) (hx:X.env.scope.names.lookup x=some .local) (hw:swapsWith (.ListComp elt [⟨.Name tg tp,iter,cs,0⟩] scope pos) (some (.Name x pos1)) spos.line X.env=pure true) (hs:∀x,foldedSetIterable iter X.env x=pure x) :
  PS X (.Assign [.Name x pos1] (.ListComp elt [⟨.Name tg tp,iter,cs,0⟩] scope pos) spos) (b5r t (a1J i)):=by
 have hx':(relabel scope X.env).names.lookup tg=some .local:=by
  rw[a0z,hl];rfl
 intro pins s σ H D I h;exact b3V (xs:=[tg]) (M:=M) hc S hi (λcl C s0 H0 fp=>⟨a2b (i:=0) nd rfl (Or.inl hx') (Or.inr hx'),hin cl C s0 H0 fp⟩) (λv σ H Q h=>b2V h) hN hix hx hw hs pins s σ H D I (ht _ _ _ h)
end
theorem a0y {te:TE} {σ:St} {d:Addr} {x:V} {H:Hp} {Z:Hp->Prop} (h:te (some x :: σ) H λy H4=>∃ys,H4 d=some (.lst ys)/\ys.length<sizeLine/\Z (upd H4 d (.lst (ys++[y])))):a8c a9k te σ d x H Z:=by
 unfold a8c a9k;exact iteT h
theorem a0F {i:Nat}:a1u (tVar i):=λ_ _ _ _ h ⟨v,e,q⟩=>⟨v,e,h _ _ q⟩
theorem mo_c {v:V}:a1u (tC v):=λ_ _ _ _ h q=>h _ _ q
theorem a1v:a5h tNil:=λ_ _ _ _ h q=>h _ _ q
theorem a0U {te:TE} {ta:TA} (h1:a1u te) (h2:a5h ta):a5h (b1p te ta):=λσ H Q Q' h q=>h1 σ H _ _ (λv H1 q1=>h2 σ H1 _ _ (λvs H2 q2=>h _ _ q2) q1) q
theorem a9m {r:R2} {ta tb:TE} (hr:∀x y H (Q Q':VK),(∀v H1,Q v H1->Q' v H1)->r x y H Q->r x y H Q') (h1:a1u ta) (h2:a1u tb):a1u (tOp r ta tb):=λσ H Q Q' h q =>
 h1 σ H _ _ (λv H1 q1=>h2 σ H1 _ _ (λu H2 q2=>hr _ _ _ _ _ h q2) q1) q
theorem a5j {g:Int->Int->V}:∀x y H (Q Q':VK),(∀v H1,Q v H1->Q' v H1)->rI0 g x y H Q->rI0 g x y H Q':=λ_ _ _ _ _ h ⟨i,j,e1,e2,q⟩=>⟨i,j,e1,e2,h _ _ q⟩
theorem b2X {K:PySem.W.Frag} {ta:TA} (h1:a5h ta):a1u (tCB (λxs H Q=>∃p ys,xs=[.ref p]/\(SqL K H p ys\/SqT K H p ys)/\Q (.int (ys.length:Nat)) H) ta):=λσ H Q Q' h q =>
 h1 σ H _ _ (λvs H1 ⟨p,ys,e,s,q1⟩=>⟨p,ys,e,s,h _ _ q1⟩) q
abbrev TW (H:Hp) (a:Addr) (ns:List Int):Prop:=H a=some (.tup (ns.map V.int))
abbrev Wd (H:Hp) (x:V) (w:List Int):Prop:=b2U H a8E x w
abbrev Ws (H:Hp) (xs:List V) (ws:List (List Int)):Prop:=Paired (b2U H a8E) xs ws
theorem Wd.ti {H:Hp} {x:V} {w:List Int} (h:Wd H x w):∃a,x=.ref a/\TW H a w:=by
 obtain⟨a,xs,rfl,e,p⟩:=h;exact⟨a,rfl,by show H a=_;rw[e,Paired.ofInts p]⟩
theorem Wd.of {H:Hp} {a:Addr} {w:List Int} (h:TW H a w):Wd H (.ref a) w:=a3a h
theorem Wd.same {H H':Hp} {x:V} {w:List Int} (sm:a0m H H') (h:Wd H x w):Wd H' x w:=by
 obtain⟨a,xs,rfl,e,p⟩:=h;exact⟨a,xs,rfl,sm _ _ e,p⟩
theorem Ws.same {H H':Hp} {xs:List V} {ws:List (List Int)} (sm:a0m H H') (h:Ws H xs ws):Ws H' xs ws:=Paired.mapP h λ_ _ q=>Wd.same sm q
section
variable {α β:Type} {R:α->β->Prop}
theorem Paired.appendP:∀{xs ys:List α} {ds es:List β},Paired R xs ds->Paired R ys es->Paired R (xs++ys) (ds++es)
 | _,_,_,_,.nil,s=>s
 | _,_,_,_,.cons r t,s=>.cons r (Paired.appendP t s)
theorem Paired.left_of:∀{xs:List α} {ds:List β},Paired R xs ds->∀(j:Nat) (d:β),ds[j]?=some d->∃x,xs[j]?=some x/\R x d
 | _,_,.nil,j,x,e=>by simp at e
 | _,_,.cons r t,0,x,e=>by simp at e;subst e;exact⟨_,rfl,r⟩
 | _,_,.cons r t,j+1,x,e=>by
  obtain⟨d,e1,e2⟩:=Paired.left_of t j x (by simpa using e);exact⟨d,by simpa using e1,e2⟩
end
theorem b2Y {xs:List V} {i:Nat} {x:V} (h:xs[i]?=some x):atI xs (i:Int)=some x:=a4d h
theorem a3d {ns:List Int} {k:Nat} {x:Int} (h:ns[k]?=some x):atI (ns.map V.int) (k:Int)=some (.int x):=a4d (by rw[b5L,h];rfl)
theorem hu4 {A:Around} {k:Nat} (hr:a1z k A):A.units+4<cLine:=by have:=hr.units;omega
theorem small {n:Nat} (h:n<=1000):n<=sizeLine:=b7n (a0j h)
theorem a6X (xs:List V) (n:Nat):a5b xs none (some (n:Int))=xs.take n:=by
 unfold a5b;rw[HT.a5X,HT.a6R];simp[List.take_eq_take_iff]
theorem a4l (xs:List V) (n:Nat):a5b xs (some (n:Int)) none=xs.drop n:=by
 unfold a5b;rw[HT.a5X,HT.a6R];by_cases h:n<=xs.length
 ·rw[Nat.min_eq_left h];exact b7j (by rw[b8A];omega)
 ·rw[Nat.min_eq_right (by omega),b8H (b5G _),b8H (by omega)];simp
theorem a0n {H H1:Hp} {d:Addr} {o:HO} (h:H d=none) (sm:a0m H H1):a0m H (upd H1 d o):=λb u q=>by rw[a0h (a0A q h)];exact sm b u q
structure Fns (P:Program) (w:World) (K:PySem.W.Frag) (mg:Str->Option Value) (base:Heap) (ps:List Str) (name:Str) (sp:Sp) (k:Nat) where
 g:Addr
 gd:FuncData
 ok:a0Y P w K mg base CX0 k g gd ps sp
 b:a1N K gd ps []
 kp:PySem.W.keepIn K (.ref g)=true
 m:mg name=some (.ref g)
theorem pcF {X:Cx} {ps:List Str} {x:Str} {sp:Sp} {k:Nat} {e:Expr} {es:List Expr} {t:TA} {p pos:Pos} (G:Fns X.prog X.w X.K X.mg X.base ps x sp k) (hr:a1z k X.A) (ha:PA X (e::es) t) (hg:Gl X x:=by rfl) (hdb:(x==("__debug__":Str))=false:=by decide) (he:starEach (e::es) X.env=(false,eval e X.env)::starEach es X.env:=by rfl) (hpl:(backTo pos (starEach es X.env)).any (·.1)=false:=by rfl):PE X (.Call (.Name x p) (e::es) [] pos) (tCall sp [] E0 t):=a9b G.ok hr hg G.m G.kp G.b .nil a2Z ha hdb he hpl
def Fns.up {P:Program} {w:World} {K:PySem.W.Frag} {mg:Str->Option Value} {base:Heap} {ps:List Str} {name:Str} {sp:Sp} {j k:Nat} (f:Fns P w K mg base ps name sp j) (h:j<=k):Fns P w K mg base ps name sp k:=⟨f.g,f.gd,f.ok.mono h,f.b,f.kp,f.m⟩
def tMid (t:TS):TS:=λD σ H=>∃Mid:St->Hp->Prop,t { D with nx:=Mid } σ H/\∀σ' H',Mid σ' H'->D.nx σ' H'
theorem a6Y {X:Cx} {st:Stmt} {t:TS} (h:PS X st t):PS X st (tMid t):=by
 intro pins s σ H D I ⟨Mid,h1,h2⟩;refine thn (h pins s σ H _ I h1) λfl s' q=>?_;cases fl with
 | next=>obtain⟨σ',H',I',m⟩:=q;exact⟨σ',H',I',h2 _ _ m⟩
 | brk=>exact q
 | cont=>exact q
 | ret u=>exact q
def eMid (t:TE):TE:=λσ H Q=>∃Mid:V->Hp->Prop,t σ H Mid/\∀v H',Mid v H'->Q v H'
theorem a2l {X:Cx} {e:Expr} {t:TE} (h:PE X e t):PE X e (eMid t):=by
 intro pins s σ H Q I ⟨Mid,h1,h2⟩;exact thn (h pins s σ H _ I h1) λu s' ⟨v,H',I',r,m⟩=>⟨v,H',I',r,h2 _ _ m⟩
theorem a2m {t:TE}:a1u (eMid t):=λσ H Q Q' h ⟨Mid,h1,h2⟩=>⟨Mid,h1,λv H' m=>h _ _ (h2 v H' m)⟩
theorem ixL {X:Cx} (K:PySem.W.Frag) (h:X.K=K:=by rfl):IxR X (rIxL K):=by subst h;exact a0u
theorem ixT {X:Cx} (K:PySem.W.Frag) (h:X.K=K:=by rfl):IxR X (rIxT K):=by subst h;exact a1I
theorem Wd.upd {H:Hp} {l:Addr} {ls ls':List V} {x:V} {w:List Int} (hl:H l=some (.lst ls)) (h:Wd H x w):Wd (upd H l (.lst ls')) x w:=by
 obtain⟨a,xs,rfl,e,p⟩:=h;exact⟨a,xs,rfl,by rw[a0h (a0r e hl (by intro z;cases z))];exact e,p⟩
theorem Ws.upd {H:Hp} {l:Addr} {ls ls' xs:List V} {ws:List (List Int)} (hl:H l=some (.lst ls)) (h:Ws H xs ws):Ws (upd H l (.lst ls')) xs ws:=Paired.mapP h λ_ _ q=>Wd.upd hl q
section
variable {X:Cx} {elt iter:Expr} {tg:Str} {tp:Pos} {cs:List Expr} {scope:Scope} {pos:Pos} {tc:TT} {te:TE} {M:List Str}
end
def ExcAt (h:Heap) (e:Addr) (cls:Value) (od:Option Addr) (hd:Value):Prop:=∃oe vs,h.get? e=some oe/\oe.cls=cls/\oe.dict=od/\oe.data=.fields vs/\vs[1]?=some hd
def TbAt (h:Heap) (T:Addr) (fl:Value):Prop:=∃oT ts,h.get? T=some oT/\oT.data=.fields ts/\ts[3]?=some fl
def Mv (S fs:List Addr) (h h':Heap):Prop:=∀b o,h.get? b=some o->b∉S->(b∉fs->h'.get? b=some o)/\∃sl,h'.get? b=some { o with slots:=sl }
section
variable {S S' fs:List Addr} {h h1 h2:Heap}
end
section
variable {M:Model} {A:Around} {E:Value->Shared->Prop} {s:Shared} {env:Env} {outer:List Env} {base:Heap} {L e T:Addr} {cls hd fl head:Value} {od:Option Addr} {S:List Addr} {Q:Unit->Shared->Prop}
def Loose (h:Heap) (e:Addr) (cls:Value) (od:Option Addr) (S:List Addr):Prop :=
 e∈S/\(∀b∈S,∀o,h.get? b=some o->∃vs,o.data=.fields vs)/\∃hd,ExcAt h e cls od hd/\(hd=.none\/∃T,T∈S/\hd=.ref T/\T≠e/\TbAt h T .none)
end
section
variable {X:Cx} {pins:List (Addr × Obj)} {σ:St} {H H':Hp} {s:Shared} {h':Heap} {b:Addr} {S:List Addr}
end
def CXF (P:Program) (w:World):CXT:=λouter H s E e s'=>∃(ea:Addr) (cls:Value) (od:Option Addr) (S:List Addr) (H':Hp),e=.ref ea/\s'.os=s.os/\AllBare s'.gens /\
 Un (frs outer) [] H H' s.heap s'.heap/\HOk P w H' s'.heap/\Loose s'.heap ea cls od S/\(∀b∈S,s.heap.get? b=none/\H' b=none)/\E cls od H'
section
variable {P:Program} {w:World} {K:PySem.W.Frag} {mg:Str->Option Value} {base:Heap} {N:List Str} {qual:Str} {scope:Scope} {f:Addr} {cd:Value} {A:Around} {outer:List Env} {s₀:Shared} {H₀:Hp} {E:XK}
end
abbrev Cx.hand (X:Cx) (ea:Addr):Cx:={ X with A:=X.A.mark (some (.ref ea)),calm:=false,xe:=λ_ _=>False }
section
variable {X:Cx} {pins pins':List (Addr × Obj)} {σ:St} {H:Hp} {s:Shared} {h':Heap} {ea:Addr} {xe:Value->Shared->Prop}
end
section
variable {K:PySem.W.Frag} {prog:Program} {w:World} {A:Around} {E:Value->Shared->Prop} {s:Shared} {x C:Addr} {ox:Obj} {od:Option Obj} {name:Str} {tk:Tok}
end
section
variable {K:PySem.W.Frag} {C D:Addr}
end
structure Fns' (P:Program) (w:World) (K:PySem.W.Frag) (mg:Str->Option Value) (base:Heap) (ps:List Str) (name:Str) (sp:Sp) (k:Nat) where
 g:Addr
 gd:FuncData
 ok:a0Y P w K mg base (CXF P w) k g gd ps sp
 b:a1N K gd ps []
 kp:PySem.W.keepIn K (.ref g)=true
 m:mg name=some (.ref g)
def Fns'.up {P:Program} {w:World} {K:PySem.W.Frag} {mg:Str->Option Value} {base:Heap} {ps:List Str} {name:Str} {sp:Sp} {j k:Nat} (f:Fns' P w K mg base ps name sp j) (h:j<=k):Fns' P w K mg base ps name sp k:=⟨f.g,f.gd,f.ok.mono h,f.b,f.kp,f.m⟩
theorem a1p {P:Program} {w:World} {H:Hp} {h:Heap} {a:Addr} {xs:List V} (x:a0B P w H h a (.tup xs)):xs.length<=sizeLine/\∃its:List Value,a0w xs its/\PyProof.Rows.IsTup h a its.toArray:=by
 obtain⟨z,its,r,p⟩:=x;exact⟨z,its,r,a4R.is p⟩
theorem a0m.seqT {K:PySem.W.Frag} {H H':Hp} {a:Addr} {xs:List V} (e:a0m H H') (h:SqT K H a xs):SqT K H' a xs:=by
 rcases h with (h|⟨o,h⟩)|h
 ·exact .inl (.inl (e _ _ h))
 ·exact .inl (.inr ⟨o,e _ _ h⟩)
 ·exact .inr h
def SIt:Bool->Heap->Addr->Addr->Nat->Prop
 | true,h,i,l,n=>h.IsTupleIter i l n
 | false,h,i,l,n=>h.IsListIter i l n
def SAt:Bool->Heap->Addr->Array Value->Prop
 | true,h,l,xs=>h.IsTuple l xs
 | false,h,l,xs=>h.IsList l xs
theorem SIt.at {k:Bool} {h h':Heap} {i l:Addr} {n:Nat} (x:SIt k h i l n) (e:∀o,h.get? i=some o->h'.get? i=some o):SIt k h' i l n:=by
 cases k with
 | true=>obtain⟨o,ho,r⟩:=x;exact⟨o,e o ho,r⟩
 | false=>obtain⟨o,ho,r⟩:=x;exact⟨o,e o ho,r⟩
theorem SIt.obj {k:Bool} {h:Heap} {i l:Addr} {n:Nat} (x:SIt k h i l n):∃o,h.get? i=some o/\∀v,o.data≠.cell v:=by
 cases k with
 | true=>obtain⟨o,ho,_,d⟩:=x;exact⟨o,ho,λv z=>by rw[d] at z;cases z⟩
 | false=>obtain⟨o,ho,_,d⟩:=x;exact⟨o,ho,λv z=>by rw[d] at z;cases z⟩
theorem SAt.at {k:Bool} {h h':Heap} {l:Addr} {xs:Array Value} (x:SAt k h l xs) (e:∀o,h.get? l=some o->h'.get? l=some o):SAt k h' l xs:=by
 cases k with
 | true=>obtain⟨o,ho,r⟩:=x;exact⟨o,e o ho,r⟩
 | false=>obtain⟨o,ho,r⟩:=x;exact⟨o,e o ho,r⟩
section
variable {prog:Program} {w:World} {A:Around} {E:Value->Shared->Prop} {s:Shared} {k:Bool} {it l:Addr} {i:Nat} {xs:Array Value} {x:Value} {Q:Value->Shared->Prop}
theorem a6c (hit:SIt k s.heap it l i) (hl:SAt k s.heap l xs) (hx:xs[i]?=some x) (hQ:∀h',SIt k h' it l (i+1)->Heap.SameBut it s.heap h'->Q x { s with heap:=h' }) :
  wpAny (model prog w) A (Builtin.SmallTypes.nextOf (.ref it)) Q E s:=by
 cases k with
 | false=>exact wpAny_nextOf_list_item hit hl hx hQ
 | true =>
  have hit':s.heap.IsTupleIter it l i:=hit;obtain⟨o,ho,hc,hd⟩:=id hit';obtain⟨ol,hol,_,nl,hdl⟩:=hl;unfold Builtin.SmallTypes.nextOf;refine b5w (b6s (name:=Str.ofString "__next__") hit'.typeIs b8e (b6i b8e hit'.typeIs F.entry_tuple_iterator_next ?_ (c0c _)));show wpAny _ _ (field (.ref it) 0 >>= _) _ _ s;refine b5w (b6v ho hd (x:=.ref l) rfl ?_);show wpAny _ _ (if (Value.ref l==Value.none)=true then _ else _) _ _ s;rw[if_neg (show ¬((Value.ref l==Value.none)=true) from b5Y)];show wpAny _ _ (field (.ref it) 1 >>= _) _ _ s;refine b5w (b6v ho hd (x:=.int i 0) rfl (show wpAny _ _ (seqItems? (.ref l) >>= _) _ _ s from b5w (b6G hol hdl ?_)));simp only[b6Z,hx];refine b5w (b9G ho hd (by simp) (b5A ⟨x,rfl,b5A (hQ _ ?_ (b8u ..))⟩));exact⟨_,b7d _ ho (Obj.isFreed_of_fields (b9s hd _)),(Obj.cls_mapFields ..).trans hc,by rw[b9s hd];simp[rawInt]⟩
theorem endS (hh:A.handled=none) (hit:SIt k s.heap it l i) (hl:SAt k s.heap l xs) (hx:xs[i]?=none) (hE:∀h' e,Heap.ExtBut it s.heap h'->(∃o,h'.get? e=some o/\o.cls=.type "StopIteration")->E (.ref e) { s with heap:=h' }) :
  wpAny (model prog w) A (Builtin.SmallTypes.nextOf (.ref it)) Q E s:=by
 cases k with
 | false=>exact wpAny_nextOf_list_end hh hit hl hx hE
 | true =>
  have hit':s.heap.IsTupleIter it l i:=hit;obtain⟨o,ho,hc,hd⟩:=id hit';obtain⟨ol,hol,_,nl,hdl⟩:=hl;unfold Builtin.SmallTypes.nextOf;refine b5w (b6s (name:=Str.ofString "__next__") hit'.typeIs b8e (b6i b8e hit'.typeIs F.entry_tuple_iterator_next ?_ (c0c _)));show wpAny _ _ (field (.ref it) 0 >>= _) _ _ s;refine b5w (b6v ho hd (x:=.ref l) rfl ?_);show wpAny _ _ (if (Value.ref l==Value.none)=true then _ else _) _ _ s;rw[if_neg (show ¬((Value.ref l==Value.none)=true) from b5Y)];show wpAny _ _ (field (.ref it) 1 >>= _) _ _ s;refine b5w (b6v ho hd (x:=.int i 0) rfl (show wpAny _ _ (seqItems? (.ref l) >>= _) _ _ s from b5w (b6G hol hdl ?_)));simp only[b6Z,hx];refine b5w (b7K (b5w (b9G ho hd (by simp) ?_)));show wpAny _ _ (newExc (.type "StopIteration") [] >>= _) _ _ _;refine b5w ?_;simp only[newExc,newTuple];refine b5w (b6p ?_ (by size_fits));refine b5w (m:=firstArgMember _ _) (c0R (a:=Value.none) (by first|rfl|(simp only[firstArgMember];rfl)) ?_);refine b6p ?_ (by size_fits);simp only[raiseNew];refine b5w (wpAny_handled ?_);rw[show A.in1.handled=none from hh];refine b5w (b5A (wpAny_throw ?_));exact hE _ _ (((b8u ..).extBut.push _).push _) ⟨_,b5D _ rfl,rfl⟩
end
structure ZAt (ka kb:Bool) (z TI TO i1 i2 l1 l2:Addr) (n:Nat) (h:Heap):Prop where
 zp:IsZip h z TI TO .none
 ti:IsPair h TI (.ref i1) (.ref i2)
 to_:∃a b,IsPair h TO a b
 a1:SIt ka h i1 l1 n
 a2:SIt kb h i2 l2 n
section
variable {prog:Program} {w:World} {A:Around} {E:Value->Shared->Prop} {s:Shared} {ka kb:Bool} {z TI TO i1 i2 l1 l2:Addr} {n:Nat} {xs ys:Array Value} {x y:Value}
theorem a9n {Q:Value->Shared->Prop} (D:ZipApart z TI TO i1 i2 l1 l2) (Z:ZAt ka kb z TI TO i1 i2 l1 l2 n s.heap) (hl1:SAt ka s.heap l1 xs) (hl2:SAt kb s.heap l2 ys) (hx:xs[n]?=some x) (hy:ys[n]?=some y)
  (hQ:∀h',IsZip h' z TI TO (rawInt s.heap.objs.size)->IsPair h' TO x y->SIt ka h' i1 l1 (n+1)->SIt kb h' i2 l2 (n+1)->IsPair h' s.heap.objs.size x y ->
   (∀c o,c≠z->c≠TO->c≠i1->c≠i2->s.heap.get? c=some o->h'.get? c=some o)->Q (.ref s.heap.objs.size) { s with heap:=h' }) :
  wpAny (model prog w) A (Builtin.«zip.__next__» ⟨[.ref z],[]⟩) (λfin s'=>∃v,fin=.done (.ret v)/\Q v s') E s:=by
 obtain⟨hz,hTI,⟨a,b,hTO⟩,h1,h2⟩:=Z;show wpAny _ _ (field (.ref z) 2 >>= _) _ _ _;refine b5w (b6v hz rfl (x:=.bool false) rfl ?_);show wpAny _ _ (field (.ref z) 3 >>= _) _ _ _;refine b5w (b6v hz rfl (x:=.ref TI) rfl (b5w (b6G hTI rfl ?_)));show wpAny _ _ (Builtin.SmallTypes.ownedTupleIsFree (.ref z) >>= _) _ _ _;refine b5w ?_;unfold Builtin.SmallTypes.ownedTupleIsFree;refine b5w (b6v hz rfl (x:=.none) rfl (b5A ?_));simp only[if_true];refine b5w (b7K (b5w (b6v hz rfl (x:=.ref TO) rfl (b5w (b6C hz (by simp) λg1 z1 b1=>?_)))));have z1':IsZip g1 z TI TO .ellipsis:=z1;have k1:∀c o,c≠z->s.heap.get? c=some o->g1.get? c=some o:=λc o hc e=>b1.extBut _ _ hc e;refine b5w ?_;simp only[List.zipIdx_cons,List.zipIdx_nil,b8a,b9a];refine b5w (b5w (c0S ?_));show wpAny _ _ (Builtin.SmallTypes.nextOf (.ref i1) >>= _) _ _ _;refine b5w (a6c (s:={ s with heap:=g1 }) (h1.at λo e=>k1 _ o D.i1z e) (hl1.at λo e=>k1 _ o D.l1z e) hx λg2 h12 b2=>b5A ?_);have k2:∀c o,c≠z->c≠i1->s.heap.get? c=some o->g2.get? c=some o:=λc o hc hd e=>b2.extBut _ _ hd (k1 c o hc e);have o2:IsPair g2 TO a b:=k2 _ _ D.TOz D.TOi1 hTO;refine b5w (b6G o2 rfl (b5w (b9Z (s:={ s with heap:=g2 }) o2 λg3 o3 b3=>?_)));have o3':IsPair g3 TO x b:=o3;refine b5w (b7U (b5A ?_));refine b5w (b5w (c0S ?_));show wpAny _ _ (Builtin.SmallTypes.nextOf (.ref i2) >>= _) _ _ _;have k3:∀c o,c≠z->c≠i1->c≠TO->s.heap.get? c=some o->g3.get? c=some o:=λc o hc hd he e=>b3.extBut _ _ he (k2 c o hc hd e);refine b5w (a6c (s:={ s with heap:=g3 }) (h2.at λo e=>k3 _ o D.i2z D.i12.symm D.TOi2.symm e) (hl2.at λo e=>k3 _ o D.l2z D.l2i1 D.l2TO e) hy λg4 h24 b4=>b5A ?_);have o4:IsPair g4 TO x b:=b4.extBut _ _ D.TOi2 o3';refine b5w (b6G o4 rfl (b5w (b9Z (s:={ s with heap:=g4 }) o4 λg5 o5 b5=>?_)));have o5':IsPair g5 TO x y:=o5;refine b5w (b7U (b5A (b5A ?_)));refine b5w (b6G o5' rfl (b5w (b8F ?_)));have sz:g5.objs.size=s.heap.objs.size:=by rw[b5.1,b4.1,b3.1,b2.1,b1.1]
 have z5:IsZip g5 z TI TO .ellipsis:=b5.extBut _ _ D.TOz.symm (b4.extBut _ _ D.i2z.symm (b3.extBut _ _ D.TOz.symm (b2.extBut _ _ D.i1z.symm z1')));have k5:∀c o,c≠z->c≠TO->c≠i1->c≠i2->s.heap.get? c=some o->g5.get? c=some o:=λc o c1 c2 c3 c4 e=>b5.extBut _ _ c2 (b4.extBut _ _ c4 (k3 c o c1 c3 c2 e));have h15:SIt ka g5 i1 l1 (n+1):=h12.at λo e=>b5.extBut _ _ D.TOi1.symm (b4.extBut _ _ D.i12 (b3.extBut _ _ D.TOi1.symm e));have h25:SIt kb g5 i2 l2 (n+1):=h24.at λo e=>b5.extBut _ _ D.TOi2.symm e;have zl:z<g5.objs.size:=b5F z5;show wpAny _ _ (Builtin.SmallTypes.ownedTupleHandOut (.ref z) (.ref g5.objs.size) >>= _) _ _ _;refine b5w ?_;unfold Builtin.SmallTypes.ownedTupleHandOut;have z6:IsZip (g5.push { cls:=.type "tuple",data:=.seq #[x,y] }) z TI TO .ellipsis:=b5y _ z5;refine b5w (b6C z6 (by simp) λg7 z7 b7=>?_)
 replace z7:IsZip g7 z TI TO (rawInt g5.objs.size):=z7
 refine b6C z7 (by simp) λg8 z8 b8=>?_
 replace z8:IsZip g8 z TI TO (rawInt g5.objs.size):=z8
 have up:∀c o,c≠z->g5.get? c=some o->g8.get? c=some o:=λc o c1 e=>b8.extBut _ _ c1 (b7.extBut _ _ c1 (b5y _ e));have p8:IsPair g8 g5.objs.size x y:=b8.extBut _ _ (b6o zl) (b7.extBut _ _ (b6o zl) (b5D _ rfl));rw[sz] at z8 p8;refine b5A ⟨_,rfl,?_⟩;show Q (.ref g5.objs.size) _;rw[sz];exact hQ g8 z8 (up _ _ D.TOz o5') (h15.at λo e=>up _ o D.i1z e) (h25.at λo e=>up _ o D.i2z e) p8 λc o c1 c2 c3 c4 e=>up c o c1 (k5 c o c1 c2 c3 c4 e)
theorem b1y {Q:Fin->Shared->Prop} (hh:A.handled=none) (D:ZipApart z TI TO i1 i2 l1 l2) (Z:ZAt ka kb z TI TO i1 i2 l1 l2 n s.heap) (hl1:SAt ka s.heap l1 xs) (hl2:SAt kb s.heap l2 ys) (hend:xs[n]?=none\/ys[n]?=none)
  (hE:∀h' e,(∀c o,c≠z->c≠TO->c≠i1->c≠i2->s.heap.get? c=some o->h'.get? c=some o)->(∃o,h'.get? e=some o/\o.cls=.type "StopIteration")->E (.ref e) { s with heap:=h' }) :
  wpAny (model prog w) A (Builtin.«zip.__next__» ⟨[.ref z],[]⟩) Q E s:=by
 obtain⟨hz,hTI,⟨a,b,hTO⟩,h1,h2⟩:=Z;show wpAny _ _ (field (.ref z) 2 >>= _) _ _ _;refine b5w (b6v hz rfl (x:=.bool false) rfl ?_);show wpAny _ _ (field (.ref z) 3 >>= _) _ _ _;refine b5w (b6v hz rfl (x:=.ref TI) rfl (b5w (b6G hTI rfl ?_)));show wpAny _ _ (Builtin.SmallTypes.ownedTupleIsFree (.ref z) >>= _) _ _ _;refine b5w ?_;unfold Builtin.SmallTypes.ownedTupleIsFree;refine b5w (b6v hz rfl (x:=.none) rfl (b5A ?_));simp only[if_true];refine b5w (b7K (b5w (b6v hz rfl (x:=.ref TO) rfl (b5w (b6C hz (by simp) λg1 z1 b1=>?_)))));have z1':IsZip g1 z TI TO .ellipsis:=z1;have k1:∀c o,c≠z->s.heap.get? c=some o->g1.get? c=some o:=λc o hc e=>b1.extBut _ _ hc e;refine b5w ?_;simp only[List.zipIdx_cons,List.zipIdx_nil,b8a,b9a];refine b5w (b5w (c0S ?_));show wpAny _ _ (Builtin.SmallTypes.nextOf (.ref i1) >>= _) _ _ _;cases hx:xs[n]? with
 | none =>
  refine b5w (endS (s:={ s with heap:=g1 }) hh (h1.at λo e=>k1 _ o D.i1z e) (hl1.at λo e=>k1 _ o D.l1z e) hx λg2 e b2 ⟨oe,he,ce⟩=>?_);have z2:IsZip g2 z TI TO .ellipsis:=b2 _ _ D.i1z.symm z1';have ez:e≠z:=λq=>by subst q;rw[z2] at he;cases he;simp at ce
  exact b6C z2 (by simp) λg3 _ b3=>hE g3 e (λc o c1 _ c3 _ q=>b3.extBut _ _ c1 (b2 _ _ c3 (k1 c o c1 q))) ⟨oe,b3.extBut _ _ ez he,ce⟩
 | some x =>
  have hy:ys[n]?=none:=hend.resolve_left λq=>by rw[hx] at q;cases q
  refine b5w (a6c (s:={ s with heap:=g1 }) (h1.at λo e=>k1 _ o D.i1z e) (hl1.at λo e=>k1 _ o D.l1z e) hx λg2 h12 b2=>b5A ?_);have k2:∀c o,c≠z->c≠i1->s.heap.get? c=some o->g2.get? c=some o:=λc o hc hd e=>b2.extBut _ _ hd (k1 c o hc e);have o2:IsPair g2 TO a b:=k2 _ _ D.TOz D.TOi1 hTO;refine b5w (b6G o2 rfl (b5w (b9Z (s:={ s with heap:=g2 }) o2 λg3 o3 b3=>?_)));refine b5w (b7U (b5A ?_));refine b5w (b5w (c0S ?_));show wpAny _ _ (Builtin.SmallTypes.nextOf (.ref i2) >>= _) _ _ _;have k3:∀c o,c≠z->c≠i1->c≠TO->s.heap.get? c=some o->g3.get? c=some o:=λc o hc hd he e=>b3.extBut _ _ he (k2 c o hc hd e);refine b5w (endS (s:={ s with heap:=g3 }) hh (h2.at λo e=>k3 _ o D.i2z D.i12.symm D.TOi2.symm e) (hl2.at λo e=>k3 _ o D.l2z D.l2i1 D.l2TO e) hy λg4 e b4 ⟨oe,he,ce⟩=>?_);have z4:IsZip g4 z TI TO .ellipsis:=b4 _ _ D.i2z.symm (b3.extBut _ _ D.TOz.symm (b2.extBut _ _ D.i1z.symm z1'));have ez:e≠z:=λq=>by subst q;rw[z4] at he;cases he;simp at ce
  exact b6C z4 (by simp) λg5 _ b5=>hE g5 e (λc o c1 c2 c3 c4 q=>b5.extBut _ _ c1 (b4 _ _ c4 (k3 c o c1 c3 c2 q))) ⟨oe,b5.extBut _ _ ez he,ce⟩
theorem a5k {Q:Option Value->Shared->Prop} (D:ZipApart z TI TO i1 i2 l1 l2) (Z:ZAt ka kb z TI TO i1 i2 l1 l2 n s.heap) (hl1:SAt ka s.heap l1 xs) (hl2:SAt kb s.heap l2 ys) (hx:xs[n]?=some x) (hy:ys[n]?=some y)
  (hQ:∀h',IsZip h' z TI TO (rawInt s.heap.objs.size)->IsPair h' TO x y->SIt ka h' i1 l1 (n+1)->SIt kb h' i2 l2 (n+1)->IsPair h' s.heap.objs.size x y ->
   (∀c o,c≠z->c≠TO->c≠i1->c≠i2->s.heap.get? c=some o->h'.get? c=some o)->Q (some (.ref s.heap.objs.size)) { s with heap:=h' }):wpAny (model prog w) A (pyNext (.ref z)) Q E s:=by
 have hT:s.TypeIs (.ref z) "zip":=⟨_,Z.zp,rfl⟩
 unfold pyNext;exact b5w (b7N (b6s (name:=Str.ofString "__next__") hT b8b (b6i b8b hT b9T
  (a9n D Z hl1 hl2 hx hy λh' a1 a2 a3 a4 a5 a7=>b5A (hQ h' a1 a2 a3 a4 a5 a7)) (b9A _))))
theorem a5l {Q:Option Value->Shared->Prop} (hh:A.handled=none) (D:ZipApart z TI TO i1 i2 l1 l2) (Z:ZAt ka kb z TI TO i1 i2 l1 l2 n s.heap) (hl1:SAt ka s.heap l1 xs) (hl2:SAt kb s.heap l2 ys) (hend:xs[n]?=none\/ys[n]?=none)
  (hQ:∀h',(∀c o,c≠z->c≠TO->c≠i1->c≠i2->s.heap.get? c=some o->h'.get? c=some o)->Q none { s with heap:=h' }):wpAny (model prog w) A (pyNext (.ref z)) Q E s:=by
 have hT:s.TypeIs (.ref z) "zip":=⟨_,Z.zp,rfl⟩
 unfold pyNext;refine b5w (b7N (b6s (name:=Str.ofString "__next__") hT b8b (b6i b8b hT b9T (b1y hh D Z hl1 hl2 hend λh' e hk he=>?_) (b9A _))));obtain⟨o,ho,hc⟩:=he;exact b5w (b7V (T:="StopIteration") (b:=true) ⟨o,ho,hc⟩ b9H (b5A (hQ _ hk)))
end
def SqK (K:PySem.W.Frag):Bool->Hp->Addr->List V->Prop
 | true,H,a,xs=>SqT K H a xs
 | false,H,a,xs=>SqL K H a xs
theorem a8F {X:Cx} {pins:List (Addr × Obj)} {σ:St} {H:Hp} {s:Shared} {k:Bool} {a:Addr} {xs:List V} (I:Inv X pins σ H s) (h:SqK X.K k H a xs):∃us,a0w xs us/\SAt k s.heap a us.toArray:=by
 cases k with
 | true =>
  obtain⟨its,rv,p,hz⟩:=I.tuple h;exact⟨its,rv,p⟩
 | false =>
  obtain⟨its,rv,p,hz⟩:=I.list h;exact⟨its,rv,p.isList⟩
theorem a6Z {X:Cx} {pins:List (Addr × Obj)} {σ:St} {H:Hp} {s:Shared} {k:Bool} {a:Addr} {xs ys:List V} (I:Inv X pins σ H s) (h:SqK X.K k H a xs) (h2:SqK X.K k H a ys):xs=ys:=by
 cases k with
 | true=>exact I.tuple_inj h h2
 | false=>exact I.list_inj h h2
theorem Inv.turnedL {X:Cx} {pins:List (Addr × Obj)} {σ:St} {H:Hp} {s:Shared} {h':Heap} {t':Nat} {L:List Addr} (I:Inv X pins σ H s) (k:∀b o,b∉L->s.heap.get? b=some o->h'.get? b=some o) (hf:∀b∈L,a2F X pins H b):Inv X pins σ H { s with heap:=h',toks:=t' }:=by
 have nit:∀b u,H b=some u->b∉L:=λb u e z=>by rw[(hf b z).1] at e;cases e
 have nl:X.env.locals∉L:=λz=>(hf _ z).2.1 rfl;refine I.step (g':=s.gens) (d':=s.drawn) (ch:=L) (λb hb=>?_) (λb o _ _ hc e _=>k b o hc e) (λb o _ _ hc e _=>⟨o.slots,k b o hc e⟩) (λ_ _ _ _ n=>n)
  (λb o hc e=>⟨o,k b o hc e⟩) (λ_ _ e=>e) (λ_ _ _ e=>e) (λb ps e=>⟨#[],by rw[e];simp⟩) (λm hm=>?_) (λb u e=>?_) I.bare
 ·obtain⟨f0,f1,f2,f3,f4,f5⟩:=hf b hb;exact⟨f3,f1,f4,f5⟩
 ·obtain⟨o,es,ep,ho,r⟩:=hm;exact⟨o,es,ep,k _ o nl ho,r⟩
 ·refine(I.hok b u e).stay (λc v hc q=>k c v ?_ q) (λ_ q=>q) λ_ _ q=>q;rcases hc with z|z
  ·rw[z];exact nit b u e
  ·exact nit c _ z
def Itz (K:PySem.W.Frag) (ka kb:Bool) (a b:Addr):It :=
 ⟨λi H=>∃xs ys x y,SqK K ka H a xs/\SqK K kb H b ys/\xs[i]?=some x/\ys[i]?=some y,
  λi H v H'=>∃p x y,v=.ref p/\H p=none/\(∀xs,SqK K ka H a xs->xs[i]?=some x)/\(∀ys,SqK K kb H b ys->ys[i]?=some y)/\H'=upd H p (.tup [x,y]),
  λi H=>∃xs ys,SqK K ka H a xs/\SqK K kb H b ys/\(xs.length<=i\/ys.length<=i)⟩
theorem ZAt.obj {ka kb:Bool} {z TI TO i1 i2 l1 l2:Addr} {n:Nat} {h:Heap} (Z:ZAt ka kb z TI TO i1 i2 l1 l2 n h):∀b∈[z,TI,TO,i1,i2],∃o,h.get? b=some o/\∀v,o.data≠.cell v:=λb hb=>by
 obtain⟨hz,hTI,⟨x,y,hTO⟩,h1,h2⟩:=Z;simp only[b5Q,b6L,b8K] at hb;rcases hb with rfl|rfl|rfl|rfl|rfl
 ·exact⟨_,hz,λv z=>by cases z⟩
 ·exact⟨_,hTI,λv z=>by cases z⟩
 ·exact⟨_,hTO,λv z=>by cases z⟩
 ·exact h1.obj
 ·exact h2.obj
theorem b1z {P:Program} {w:World} {K:PySem.W.Frag} {elts:List Expr} {x1} {pos:Pos} {ka kb:Bool} {z TI TO i1 i2 a b:Addr} (D:ZipApart z TI TO i1 i2 a b):b5s P w K (.Tuple elts x1 pos) (Itz K ka kb a b) [z,TI,TO,i1,i2] z (λn h=>ZAt ka kb z TI TO i1 i2 a b n h) where
 mem:=by simp
 obj:=λi h st=>st.obj
 keep:=λi h h' ⟨hz,hTI,⟨x,y,hTO⟩,h1,h2⟩ k=>⟨k z (by simp) _ hz,k TI (by simp) _ hTI,⟨x,y,k TO (by simp) _ hTO⟩,h1.at λo e=>k i1 (by simp) o e,h2.at λo e=>k i2 (by simp) o e⟩
 item:=by
  intro X hP hw hK hc i pins s σ H E I hf st hg;subst hP hw hK;obtain⟨xs,ys,x,y,q1,q2,hx,hy⟩:=hg;obtain⟨us,r1,p1⟩:=a8F I q1;obtain⟨vs,r2,p2⟩:=a8F I q2;obtain⟨u,hu,ru⟩:=r1.get hx;obtain⟨v,hv,rv⟩:=r2.get hy;have lt:∀b∈[z,TI,TO,i1,i2],b<s.heap.objs.size:=λb hb=>by
   obtain⟨o,ho,_⟩:=st.obj b hb;exact b5F ho
  refine a5k D st p1 p2 (x:=u) (y:=v) (by simpa using hu) (by simpa using hv) λh' z1 o1 a1 a2 pr kk=>?_;refine⟨_,rfl,wpAny_letOwnedTupleGo_zip (s:={ s with heap:=h' }) z1 λh2 z2 b2=>?_⟩;have hT:H s.heap.objs.size=none:=I.hok.fresh (b5G _);have I1:Inv X pins σ (upd H s.heap.objs.size (.tup [x,y])) { s with heap:=s.heap.push { cls:=.type "tuple",data:=.seq #[u,v] } }:=I.laid (t':=s.toks) (λb u e=>b5y _ e) (b5G _) ⟨by show 2<=sizeLine;decide,[u,v],.cons ru (.cons rv .nil),⟨_,b5D _ rfl,_,rfl⟩⟩;have Tz:s.heap.objs.size≠z:=b6o (lt z (by simp));have fp:∀b∈[z,TI,TO,i1,i2],a2F X pins (upd H s.heap.objs.size (.tup [x,y])) b:=λb hb=>by
   obtain⟨f0,f1,f2,f3,f4,f5⟩:=hf b hb;exact⟨by rw[a0h (b5O (lt b hb))];exact f0,f1,f2,f3,f4,f5⟩
  have I2:=I1.turnedL (h':=h2) (t':=s.toks) (λc o hc e=>by
   simp only[b5Q,b6L,b8K,not_or] at hc;by_cases zc:c=s.heap.objs.size
   ·subst zc;rw[b5D _ rfl] at e;cases e;exact b2.extBut _ _ Tz pr
   ·have e':s.heap.get? c=some o:=by rw[<-e];exact(c0I _ _ _ zc).symm
    exact b2.extBut _ _ hc.1 (kk c o hc.1 hc.2.2.1 hc.2.2.2.1 hc.2.2.2.2 e')) fp
  refine⟨.ref s.heap.objs.size,_,I2,rfl,⟨_,x,y,rfl,hT,λzs hz=>?_,λzs hz=>?_,rfl⟩,⟨z2,b2.extBut _ _ D.TIz (kk _ _ D.TIz D.TITO D.TIi1 D.TIi2 st.ti),⟨u,v,b2.extBut _ _ D.TOz o1⟩,a1.at λo e=>b2.extBut _ _ D.i1z e,a2.at λo e=>b2.extBut _ _ D.i2z e⟩,λb hb=>(fp b hb).1⟩
  ·rw[a6Z I hz q1];exact hx
  ·rw[a6Z I hz q2];exact hy
 done:=by
  intro X hP hw hK hc i pins s σ H E I hf st hg;subst hP hw hK;obtain⟨xs,ys,q1,q2,hl⟩:=hg;obtain⟨us,r1,p1⟩:=a8F I q1;obtain⟨vs,r2,p2⟩:=a8F I q2;have e1:=r1.length;have e2:=r2.length;refine a5l (I.ok.hd hc) D st p1 p2 (hl.elim (λq=>.inl (by simp;omega)) λq=>.inr (by simp;omega)) λh' kk=>⟨rfl,I.turnedL (t':=s.toks) (λc o hc e=>?_) hf⟩
  simp only[b5Q,b6L,b8K,not_or] at hc;exact kk c o hc.1 hc.2.2.1 hc.2.2.2.1 hc.2.2.2.2 e
 self:=λ_ _ _ _ _ st h=>c0Y st.zp h
def itO (k:Bool) (l:Addr):Obj:=match k with
 | true=>{ cls:=.type "tuple_iterator",data:=.fields #[.ref l,.int 0 0] }
 | false=>{ cls:=.type "list_iterator",data:=.fields #[.ref l,.int 0 0] }
theorem a9o {prog:Program} {w:World} {A:Around} {E:Value->Shared->Prop} {s:Shared} {k:Bool} {l:Addr} {xs:Array Value} {Q:Value->Shared->Prop} (h:SAt k s.heap l xs) (hQ:Q (.ref s.heap.objs.size) { s with heap:=s.heap.push (itO k l) }) :
  wpAny (model prog w) A (pyIter (.ref l)) Q E s:=by
 cases k with
 | true=>exact c0u h hQ
 | false=>exact b7v h hQ
theorem a7a {k:Bool} {l:Addr}:(itO k l).isFreed=false:=by cases k<;>rfl
theorem SIt.new {k:Bool} {l i:Addr} {h:Heap} (e:h.get? i=some (itO k l)):SIt k h i l 0:=by
 cases k with
 | true=>exact⟨_,e,rfl,rfl⟩
 | false=>exact⟨_,e,rfl,rfl⟩
def b1A (h:Heap) (ka kb:Bool) (l1 l2:Addr):Heap:=((((h.push (itO ka l1)).push (itO kb l2)).push { cls:=.type "tuple",data:=.seq #[.ref h.objs.size,.ref (h.push (itO ka l1)).objs.size] }).push { cls:=.type "tuple",data:=.seq #[.none,.none] }).push
 { cls:=.type "zip",data:=.fields #[.none,.bool false,.bool false,.ref ((h.push (itO ka l1)).push (itO kb l2)).objs.size,.ref (((h.push (itO ka l1)).push (itO kb l2)).push { cls:=.type "tuple",data:=.seq #[.ref h.objs.size,.ref (h.push (itO ka l1)).objs.size] }).objs.size] }
theorem meetsS (ka kb:Bool) (l1 l2:Addr) (xs ys:Array Value) :
  Meets (Builtin.«zip.__new__» ⟨[.type "zip",.ref l1,.ref l2],[]⟩) (λ_ R s=>SAt ka s.heap l1 xs/\SAt kb s.heap l2 ys/\R (.ok (.ret (.ref (s.heap.objs.size+4)))) { s with heap:=b1A s.heap ka kb l1 l2 }) :=
 .of_wp λprog w A R s h=>by
  obtain⟨hp,g,d,tk,os⟩:=s;obtain⟨hl1,hl2,h⟩:=h;have hsub:=sub_zip;have hL1:SAt ka (Shared.heap ⟨hp,g,d,tk,os⟩) l1 xs:=hl1;have hL2:SAt kb (Shared.heap ⟨hp.push (itO ka l1),g,d,tk,os⟩) l2 ys:=hl2.at λo e=>b5y _ e
  wp_walk using a9o hL1,a9o hL2
  refine⟨_,rfl,?_⟩;have z:((((hp.push (itO ka l1)).push (itO kb l2)).push { cls:=.type "tuple",data:=.seq #[.ref hp.objs.size,.ref (hp.push (itO ka l1)).objs.size] }).push { cls:=.type "tuple",data:=.seq #[.none,.none] }).objs.size=hp.objs.size+4:=by
   rw[b6h,b6h,b6h,b6h]
  rw[<-z] at h;exact h
theorem callS {prog:Program} {w:World} {A:Around} {E:Value->Shared->Prop} {s:Shared} {ka kb:Bool} {l1 l2:Addr} {xs ys:Array Value} {Q:Value->Shared->Prop} (h1:SAt ka s.heap l1 xs) (h2:SAt kb s.heap l2 ys)
  (h:∀h',ZAt ka kb (s.heap.objs.size+4) (s.heap.objs.size+2) (s.heap.objs.size+3) s.heap.objs.size (s.heap.objs.size+1) l1 l2 0 h'->(∀c o,s.heap.get? c=some o->h'.get? c=some o)->Q (.ref (s.heap.objs.size+4)) { s with heap:=h' }) :
  wpAny (model prog w) A (call (.type "zip") [.ref l1,.ref l2]) Q E s:=by
 refine callType_new F.called_zip (by decide) (F.typeCall_zip_2 _ _) (F.newCall_zip_2 _ _) (λobj=>F.args_object_init_3 obj _ _) F.entry_zip_new (meetsS ka kb l1 l2 xs ys) ⟨h1,h2,?_⟩;have kp:∀c o,s.heap.get? c=some o->(b1A s.heap ka kb l1 l2).get? c=some o:=λc o x=>b5y _ (b5y _ (b5y _ (b5y _ (b5y _ x))));have z1:(s.heap.push (itO ka l1)).objs.size=s.heap.objs.size+1:=b6h ..;have z2:((s.heap.push (itO ka l1)).push (itO kb l2)).objs.size=s.heap.objs.size+2:=by rw[b6h,z1]
 have z3:(((s.heap.push (itO ka l1)).push (itO kb l2)).push { cls:=.type "tuple",data:=.seq #[.ref s.heap.objs.size,.ref (s.heap.push (itO ka l1)).objs.size] }).objs.size=s.heap.objs.size+3:=by rw[b6h,z2]
 have z4:((((s.heap.push (itO ka l1)).push (itO kb l2)).push { cls:=.type "tuple",data:=.seq #[.ref s.heap.objs.size,.ref (s.heap.push (itO ka l1)).objs.size] }).push { cls:=.type "tuple",data:=.seq #[.none,.none] }).objs.size=s.heap.objs.size+4:=by rw[b6h,z3]
 have g1:(b1A s.heap ka kb l1 l2).get? s.heap.objs.size=some (itO ka l1):=b5y _ (b5y _ (b5y _ (b5y _ (b5D _ a7a))));have g2:(b1A s.heap ka kb l1 l2).get? (s.heap.objs.size+1)=some (itO kb l2):=by rw[<-z1];exact b5y _ (b5y _ (b5y _ (b5D _ a7a)))
 have g3:(b1A s.heap ka kb l1 l2).get? (s.heap.objs.size+2)=some { cls:=.type "tuple",data:=.seq #[.ref s.heap.objs.size,.ref (s.heap.objs.size+1)] }:=by
  rw[<-z2];have q:(b1A s.heap ka kb l1 l2).get? ((s.heap.push (itO ka l1)).push (itO kb l2)).objs.size=some { cls:=.type "tuple",data:=.seq #[.ref s.heap.objs.size,.ref (s.heap.push (itO ka l1)).objs.size] }:=b5y _ (b5y _ (b5D _ rfl));rw[z1] at q;exact q
 have g4:(b1A s.heap ka kb l1 l2).get? (s.heap.objs.size+3)=some { cls:=.type "tuple",data:=.seq #[.none,.none] }:=by rw[<-z3];exact b5y _ (b5D _ rfl)
 have g5:(b1A s.heap ka kb l1 l2).get? (s.heap.objs.size+4)=some { cls:=.type "zip",data:=.fields #[.none,.bool false,.bool false,.ref (s.heap.objs.size+2),.ref (s.heap.objs.size+3)] }:=by
  rw[<-z4];have q:(b1A s.heap ka kb l1 l2).get? ((((s.heap.push (itO ka l1)).push (itO kb l2)).push { cls:=.type "tuple",data:=.seq #[.ref s.heap.objs.size,.ref (s.heap.push (itO ka l1)).objs.size] }).push { cls:=.type "tuple",data:=.seq #[.none,.none] }).objs.size=some { cls:=.type "zip",data:=.fields #[.none,.bool false,.bool false,.ref ((s.heap.push (itO ka l1)).push (itO kb l2)).objs.size,.ref (((s.heap.push (itO ka l1)).push (itO kb l2)).push { cls:=.type "tuple",data:=.seq #[.ref s.heap.objs.size,.ref (s.heap.push (itO ka l1)).objs.size] }).objs.size] }:=b5D _ rfl;rw[z2,z3] at q;exact q
 show _/\_;exact⟨⟨_,g5,rfl⟩,h _ ⟨g5,g3,⟨_,_,g4⟩,.new g1,.new g2⟩ kp⟩
theorem b_zip:bootBuiltins "zip"=some (.type "zip"):=by decide +kernel
def iZip (K:PySem.W.Frag) (ka kb:Bool) (ta:TA):TI:=λσ H R=>ta σ H λvs H1=>∃a b xs ys,vs=[.ref a,.ref b]/\SqK K ka H1 a xs/\SqK K kb H1 b ys/\R (Itz K ka kb a b) H1
theorem pi_zip {X:Cx} {elts:List Expr} {x1} {tp:Pos} {a b:Expr} {ta:TA} {p pos:Pos} (ka kb:Bool) (hg:Gl X "zip") (hm:X.mg "zip"=none) (ha:PA X [a,b] ta) (hs:starEach [a,b] X.env=[(false,eval a X.env),(false,eval b X.env)]:=by rfl) (hs2:starEach [b] X.env=[(false,eval b X.env)]:=by rfl) :
  PI X (.Tuple elts x1 tp) (.Call (.Name "zip" p) [a,b] [] pos) (iZip X.K ka kb ta):=by
 intro pins s σ H R I h;refine Call_ (a1i I hg hm b_zip (b6Y (thn (ha pos pins s σ H _ I h) λus s1 ⟨vs,H1,I1,r1,q1⟩=>?_) (by rw[hs,hs2]) (by rw[hs2];rfl)));obtain⟨a',b',xs,ys,e,q1,q2,q⟩:=q1;subst e;obtain⟨u,v,rfl,r1,r2⟩:=r1.two;cases r1;cases r2;obtain⟨us,e1,p1⟩:=a8F I1 q1;obtain⟨vs,e2,p2⟩:=a8F I1 q2;have lt:∀{k:Bool} {l:Addr} {zs:Array Value},SAt k s1.heap l zs->l<s1.heap.objs.size:=λ{k l zs} x=>by
  cases k with
  | true=>obtain⟨o,ho,_⟩:=x;exact b5F ho
  | false=>obtain⟨o,ho,_⟩:=x;exact b5F ho
 have t1:=lt p1;have t2:=lt p2;refine callS p1 p2 λh' Z kp=>c0Y (s:={ s1 with heap:=h' }) Z.zp ?_;have D:ZipApart (s1.heap.objs.size+4) (s1.heap.objs.size+2) (s1.heap.objs.size+3) s1.heap.objs.size (s1.heap.objs.size+1) a' b':=by
  have t1':@LT.lt Nat _ a' s1.heap.objs.size:=t1;have t2':@LT.lt Nat _ b' s1.heap.objs.size:=t2;constructor<;>(show ¬(@Eq Nat _ _);omega)
 refine⟨_,[s1.heap.objs.size+4,s1.heap.objs.size+2,s1.heap.objs.size+3,s1.heap.objs.size,s1.heap.objs.size+1],_,_,H1,rfl,I1.kept (t':=s1.toks) kp,b1z D,Z,λc hc=>?_,q⟩;have ge:s1.heap.objs.size<=c:=by
  simp only[b5Q,b6L,b8K] at hc;rcases hc with rfl|rfl|rfl|rfl|rfl<;>omega
 exact I1.fpOk ge (I1.hok.fresh ge)
def a9p (tc:TT) (te:TE) (σ:St) (d:Addr) (x y:V) (H:Hp) (Z:Hp->Prop):Prop :=
 tc (some x::some y :: σ) H λb H3=>if b=true then te (some x::some y :: σ) H3 λv H4=>∃ys,H4 d=some (.lst ys)/\ys.length<sizeLine/\Z (upd H4 d (.lst (ys++[v]))) else Z H3
def tCompZ (K:PySem.W.Frag) (ka kb:Bool) (ta:TA) (tc:TT) (te:TE):TE:=λσ H Q=>ta σ H λvs H1=>∃a b xs ys,vs=[.ref a,.ref b]/\SqK K ka H1 a xs/\SqK K kb H1 b ys/\xs.length=ys.length/\∀d,H1 d=none ->
 ∃Pv:Nat->Hp->Prop,Pv 0 (upd H1 d (.lst []))/\(∀i H,i<=xs.length->Pv i H->SqK K ka H a xs/\SqK K kb H b ys)/\(∀i x y p H,xs[i]?=some x->ys[i]?=some y->Pv i H->H p=none->a9p tc te σ d x y (upd H p (.tup [x,y])) (Pv (i+1)))/\∀H,Pv xs.length H->Q (.ref d) H
def a8d (K:PySem.W.Frag):TG:=gTup K 2 (b3F (a1J 0) (b3F (a1J 1) gNil))
theorem a5m {K:PySem.W.Frag} {v:V} {σ:St} {H:Hp} {Q:St->Hp->Prop} (h:a8d K v (List.replicate 2 none++σ) H Q):a8d K v (List.replicate 2 none++σ) H λσ2 H2=>(∃l:St,l.length=2/\σ2=l++σ)/\Q σ2 H2:=by
 obtain⟨a,xs,e,hq,hl,v1,r1,e1,v2,r2,e2,e3,q⟩:=h;exact⟨a,xs,e,hq,hl,v1,r1,e1,v2,r2,e2,e3,⟨[some v1,some v2],rfl,rfl⟩,q⟩
theorem b1B {K:PySem.W.Frag} {ka kb:Bool} {a b:Addr} {xs ys:List V} {tc:TT} {te:TE} {σ:St} {H:Hp} {Q:VK} {d:Addr} (hlen:xs.length=ys.length) (Pv:Nat->Hp->Prop) (h0:Pv 0 (upd H d (.lst []))) (hl:∀i H,i<=xs.length->Pv i H->SqK K ka H a xs/\SqK K kb H b ys)
  (hs:∀i x y p H,xs[i]?=some x->ys[i]?=some y->Pv i H->H p=none->a9p tc te σ d x y (upd H p (.tup [x,y])) (Pv (i+1)))
  (hd:∀H,Pv xs.length H->Q (.ref d) H) :
  ∃W:Nat->Nat->Hp->Prop,(∃m,W 0 m (upd H d (.lst [])))/\∀i m H,W i m H ->
   ((Itz K ka kb a b).stop i H/\Q (.ref d) H)\/((Itz K ka kb a b).go i H/\∃N:Hp->Prop,(∀H',N H'->∃m',m'<m/\W (i+1) m' H')/\∀x H',(Itz K ka kb a b).yld i H x H'->a8d K x (List.replicate 2 none++σ) H' λσ2 H2 =>
    tc σ2 H2 λb H3=>if b=true then te σ2 H3 λy H4=>∃ys,H4 d=some (.lst ys)/\ys.length<sizeLine/\N (upd H4 d (.lst (ys++[y]))) else N H3):=by
 refine⟨λi m H=>m=xs.length-i/\i<=xs.length/\Pv i H,⟨xs.length,by simp,b6e _,h0⟩,?_⟩;rintro i m H ⟨rfl,hi,p⟩;obtain⟨q1,q2⟩:=hl i H hi p;by_cases hlt:i<xs.length
 ·refine .inr ⟨⟨xs,ys,_,_,q1,q2,b5z hlt,b5z (by omega)⟩,Pv (i+1),λH' n=>⟨xs.length-(i+1),by omega,rfl,by omega,n⟩,?_⟩;rintro v H' ⟨p',x,y,rfl,hn,e1,e2,rfl⟩;exact⟨p',[x,y],rfl,SqT.of a0b,rfl,x,[y],rfl,y,[],rfl,rfl,hs i x y p' H (e1 _ q1) (e2 _ q2) p hn⟩
 ·have e:i=xs.length:=by omega
  subst e;exact .inl ⟨⟨xs,ys,q1,q2,.inl (b5G _)⟩,hd H p⟩
theorem b1C {X:Cx} (K:PySem.W.Frag) (ka kb:Bool) {elt a b:Expr} {t1 t2:Str} {p1 p2 tp p pos pos':Pos} {k:Nat} {cs:List Expr} {scope:Scope} {tc:TT} {te:TE} {ta:TA} {M:List Str} (hc:X.calm=true) (S:a0s scope X.env X.N M) (nd:(t1::t2::M).Nodup) (hl1:scope.names.lookup t1=some .local) (hl2:scope.names.lookup t2=some .local)
  (hg:Gl X "zip") (hm:X.mg "zip"=none) (ha:PA X [a,b] ta) (mo:a5h ta)
  (hin:∀(cl:List (Str × Addr)) (C:Addr) (s0:Shared) (H0:Hp) (fp:List Addr) (pins:List (Addr × Obj)) (σ:St),Back X (cxC X scope cl C s0 H0 fp (t1::t2::M)) pins σ fp C s0 H0->PTs (cxC X scope cl C s0 H0 fp (t1::t2::M)) cs tc/\PE (cxC X scope cl C s0 H0 fp (t1::t2::M)) elt te)
  (hs:starEach [a,b] X.env=[(false,eval a X.env),(false,eval b X.env)]:=by rfl) (hs2:starEach [b] X.env=[(false,eval b X.env)]:=by rfl) (hf:∀x,foldedSetIterable (.Call (.Name "zip" p) [a,b] [] pos') X.env x=pure x:=by intro _;rfl) (hK:X.K=K:=by rfl) :
  PE X (.ListComp elt [⟨.Tuple [.Name t1 p1,.Name t2 p2] k tp,.Call (.Name "zip" p) [a,b] [] pos',cs,0⟩] scope pos) (tCompZ K ka kb ta tc te):=by
 subst hK;have hx1:(relabel scope X.env).names.lookup t1=some .local:=by rw[a0z,hl1];rfl
 have hx2:(relabel scope X.env).names.lookup t2=some .local:=by rw[a0z,hl2];rfl
 refine PE.imp (a6V (xs:=[t1,t2]) (M:=M) (g:=a8d X.K) hc S (pi_zip ka kb hg hm ha hs hs2) (λcl C s0 H0 fp pins σ bk=>⟨b2P hc (a2I (a2b (i:=0) nd rfl (Or.inl hx1) (Or.inr hx1)) (a2I (a2b (i:=1) nd rfl (Or.inl hx2) (Or.inr hx2)) a8J)),hin cl C s0 H0 fp pins σ bk⟩) (λv σ H Q h=>a5m h) hf) (λσ H Q h=>?_);refine mo σ H _ _ (λvs H1 q=>?_) h;obtain⟨a',b',xs,ys,e,q1,q2,hlen,q⟩:=q;refine⟨a',b',xs,ys,e,q1,q2,λd hd=>?_⟩;obtain⟨Pv,h0,hl,hs,hd⟩:=q d hd;exact b1B hlen Pv h0 hl hs hd
section
variable {κ:Type} [DecidableEq κ]
def valV (kvs:List (κ × V)) (k:κ):Option V:=(kvs.find? λkv=>decide (kv.1=k)).map (·.2)
def putK (kvs:List (κ × V)) (k:κ) (v:V):List (κ × V) :=
 if (kvs.any λkv=>decide (kv.1=k))=true then kvs.map (λkv=>if kv.1=k then (kv.1,v) else kv) else kvs++[(k,v)]
def dropK (kvs:List (κ × V)) (k:κ):List (κ × V):=kvs.filter λkv=>decide (kv.1≠k)
theorem a6I.isSome_eq {o:Option V} {u:Option Value} (r:a6I o u):o.isSome=u.isSome:=by
 cases o with
 | none=>cases u with
  | none=>rfl
  | some _=>exact(show False from r).elim
 | some _=>cases u with
  | none=>exact(show False from r).elim
  | some _=>rfl
end
abbrev KT (H:Hp):List (List Key × V)->List (List Key × Addr × Value)->Prop:=Paired λp q=>p.1=q.1/\H q.2.1=some (.tup (p.1.map kV))/\a0Q p.2 q.2.2
section
variable {P:Program} {w:World} {H:Hp} {h:Heap} {a:Addr}
theorem rd_of {u:HO} (ok:HOk P w H h) (e:Rd H a u):a0B P w H h a u:=e.ok ok
theorem dk_rd {kvs:List (Key × V)} (ok:HOk P w H h) (e:Rd H a (.dK kvs)):kvs.length<=sizeLine/\(a==sysModules)=false/\∃vs,KV kvs vs/\h.DictOf (a3Y P w) a vs :=
 show a0B P w H h a (.dK kvs) from rd_of ok e
theorem dk_of {kvs:List (Key × V)} (ok:HOk P w H h) (e:H a=some (.dK kvs)):kvs.length<=sizeLine/\(a==sysModules)=false/\∃vs,KV kvs vs/\h.DictOf (a3Y P w) a vs:=dk_rd ok (.inl e)
end
def DGet (H:Hp) (a:Addr) (y:V) (r:Option V):Prop :=
 (∃kvs k,Rd H a (.dK kvs)/\y=kV k/\r=valV kvs k)\/∃kvs k b,Rd H a (.dT kvs)/\y=.ref b/\H b=some (.tup (k.map kV))/\r=valV kvs k
def DPut (H:Hp) (a:Addr) (y v:V) (H':Hp):Prop :=
 (∃kvs k,H a=some (.dK kvs)/\y=kV k/\kvs.length<sizeLine/\H'=upd H a (.dK (putK kvs k v))) \/
 ∃kvs k b,H a=some (.dT kvs)/\y=.ref b/\H b=some (.tup (k.map kV))/\kvs.length<sizeLine/\H'=upd H a (.dT (putK kvs k v))
section
variable {X:Cx} {pins:List (Addr × Obj)} {σ:St} {H:Hp} {s:Shared} {a:Addr} {y v:V} {u r:Value} {o:Option V} {A:Around} {E:Value->Shared->Prop}
theorem Inv.big (I:Inv X pins σ H s):sysModules<s.heap.objs.size:=by
 have h:mainGlobals<s.heap.objs.size:=(I.mod.glob.keeps I.bk).lt;exact c0v (by decide) h
theorem b3Y {h':Heap} {t':Nat} {ob:HO} (I:Inv X pins σ H s) (mu:Mut (H a)) (hs:Heap.SameBut a s.heap h') (he:∃q,h'.get? a=some q) (new:a0B X.prog X.w (upd H a ob) h' a ob) :
  Inv X pins σ (upd H a ob) { s with heap:=h',toks:=t' } :=
 I.write (x:=a) (e:=a) mu (.inl rfl) (λb q hb z=>(hs.2 b hb).trans z) he new
end
section
variable {X:Cx} {pins:List (Addr × Obj)} {σ:St} {H:Hp} {s:Shared} {a:Addr} {kvs:List (Key × V)} {k:Key} {u:Value} {A:Around} {E:Value->Shared->Prop}
end
def NoSl (i:Expr):Prop:=∀ov iv,subscripted i false ov iv=operate [ov,iv] (getItem ov iv)
theorem b3Z {prog:Program} {w:World} {A:Around} {E:Value->Shared->Prop} {s:Shared} {env:Env} {value slice:Expr} {pos:Pos} {T id:String} {Q:Value->Shared->Prop}
  (hl:typeLookup (.type T) "__getitem__"=pure (some (.builtin id))) (hs:NoSl slice)
  (h:wpAny (model prog w) A (eval value env) (λo s₁=>wpAny (model prog w) A (eval slice env) (λi s₂=>s₂.TypeIs o T/\wpAny (model prog w) A (getItem o i) Q E s₂) E s₁) E s) :
  wpAny (model prog w) A (eval (.Subscript value slice pos) env) Q E s:=by
 refine Subscript_ (b7Y h (λo s₁ h₁=>b7Y h₁ (λi s₂ h₂=>?_) λ_ _ x=>x) λ_ _ x=>x);obtain⟨hT,h₂⟩:=h₂;unfold subscriptTail;refine b5w ?_;rw[getitemInPython_of_ne hT.not_modules];refine b5w (b8o hT hl ?_);have fin:wpAny (model prog w) A (subscripted slice false o i) (λr s₃=>wpAny (model prog w) A (letTemporaryGo value o r >>= λ_=>pure r) Q E s₃) E s₂:=by
  rw[hs o i];exact wpAny_operating (b7Y h₂ (λr s₃ h₃=>b5w (wpAny_letTemporaryGo (b5A h₃))) λ_ _ x=>x)
 first
  | exact b5A (b5w fin)
  | exact b5w (b5A (b5w fin))
  | exact b5w fin
def tDGet (td ty:TE):TE:=λσ H Q=>td σ H λx H1=>ty σ H1 λy H2=>∃a v,x=.ref a/\DGet H2 a y (some v)/\Q v H2
def tDIn (ty td:TE):TE:=λσ H Q=>ty σ H λy H1=>td σ H1 λx H2=>∃a o,x=.ref a/\DGet H2 a y o/\Q (.bl o.isSome) H2
def sDPut (td ty tv:TE):TS:=λD σ H=>tv σ H λv H1=>td σ H1 λx H2=>ty σ H2 λy H3=>∃a H4,x=.ref a/\DPut H3 a y v H4/\D.nx σ H4
def sDAug (td ty tv:TE) (rd:V->V->Hp->VK->Prop):TS:=λD σ H=>td σ H λx H1=>ty σ H1 λy H2=>∃a v,x=.ref a/\DGet H2 a y (some v) /\
 tv σ H2 λy2 H3=>rd v y2 H3 λz H4=>∃H5,DPut H4 a y z H5/\D.nx σ H5
def sDDel (td ty:TE):TS:=λD σ H=>td σ H λx H1=>ty σ H1 λy H2=>∃a kvs k,x=.ref a/\H2 a=some (.dK kvs)/\y=kV k/\(valV kvs k).isSome=true/\D.nx σ (upd H2 a (.dK (dropK kvs k)))
section
variable {X:Cx} {o i e value:Expr} {pos pos' tpos:Pos} {td ty tv:TE}
end
theorem b1D {P:Program} {w:World} {H:Hp} (h:Heap) (hb:sysModules<h.objs.size):a0B P w H (h.push { cls:=.type "dict",data:=.dict #[] }) h.objs.size (.dK []) :=
 ⟨b6e _,b7Z.mpr (Ne.symm (b5O hb)),[],.nil,Heap.DictOf.new h⟩
def tDNewK:TE:=λ_ H Q=>∀p,H p=none->Q (.ref p) (upd H p (.dK []))
section
variable {X:Cx} {pos:Pos}
theorem a7b:PE X (.Dict [] [] pos) tDNewK:=λpins s σ H Q I h =>
 wpAny_Dict_empty ⟨.ref s.heap.objs.size,_,I.laid (a:=s.heap.objs.size) (o:=.dK []) (t':=s.toks) (λ_ _ q=>b5y _ q) (b5G _) (b1D s.heap I.big),rfl,h _ (I.hok.fresh (b5G _))⟩
end
def b2Z:List (TE × TE)->St->Hp->(List (V × V)->Hp->Prop)->Prop
 | [],_,H,Q=>Q [] H
 | (tk,tv)::r,σ,H,Q=>tk σ H λx H1=>tv σ H1 λy H2=>b2Z r σ H2 λps H3=>Q ((x,y)::ps) H3
def mergeK (kvs more:List (Key × V)):List (Key × V):=more.foldl (λacc kv=>putK acc kv.1 kv.2) kvs
def tDisp (trs:List (TE × TE)):TE:=λσ H Q=>∀p,H p=none->b2Z trs σ (upd H p (.dK [])) λps H2=>H2 p=some (.dK [])/\∃kvs:List (Key × V),ps=kvs.map (λkv=>(kV kv.1,kv.2))/\kvs.length<=15/\Q (.ref p) (upd H2 p (.dK (mergeK [] kvs)))
structure M1 (X:Cx) (o:Expr) (m:Str) (apos:Pos) (e:Expr) (cpos:Pos):Prop where
 base:attributeBase o m X.env (eval o X.env)=eval o X.env
 few:((backTo cpos (starEach [e] X.env)).all (λx=>!x.1)&&(backToKw cpos (keywordEach [] X.env)).all (λx=>x.1.isSome)
  && decide (([e]:List Expr).length+([]:List Keyword).length+(if ([]:List Keyword).isEmpty then 0 else 1)<30))=true
 line:(apos.endLine==cpos.line)=true
 trees:backTo cpos (starEach [e] X.env)=[(false,eval e X.env)]
def IsD (H:Hp) (a:Addr):Prop:=(∃kvs,Rd H a (.dK kvs))\/∃kvs,Rd H a (.dT kvs)
section
variable {X:Cx} {pins:List (Addr × Obj)} {σ:St} {H:Hp} {s:Shared} {a:Addr} {y d:V} {u r:Value} {o:Option V} {A:Around} {E:Value->Shared->Prop}
end
def tDPop1 (td ty:TE):TE:=λσ H Q=>td σ H λx H1=>∃a,x=.ref a/\IsD H1 a/\ty σ H1 λy H2=>∃kvs k v,H2 a=some (.dK kvs)/\y=kV k/\valV kvs k=some v/\Q v (upd H2 a (.dK (dropK kvs k)))
section
variable {X:Cx} {o e f:Expr} {apos cpos:Pos} {td ty tx:TE}
end
section
variable {X:Cx} {pins:List (Addr × Obj)} {σ:St} {H:Hp} {s:Shared} {a:Addr} {kvs:List (Key × V)} {A:Around} {E:Value->Shared->Prop}
end
section
variable {X:Cx} {pins:List (Addr × Obj)} {σ:St} {H:Hp} {s:Shared} {a:Addr} {y:V} {u:Value} {A:Around} {E:Value->Shared->Prop}
end
def a2g (h:Heap) (d:Addr) (es:Array DictEntry) (ep:Nat):Prop:=∃o,h.get? d=some o/\o.ExactDict/\o.data=.dict es ep
section
variable {prog:Program} {w:World} {A:Around} {E:Value->Shared->Prop} {s:Shared} {it d:Addr} {i ep:Nat} {es:Array DictEntry}
theorem b4a {e:DictEntry} {Q:Option Value->Shared->Prop} (hit:s.heap.IsKeyIter it d i es.size ep) (hm:a2g s.heap d es ep) (hx:es[i]?=some e)
  (hQ:∀h',h'.IsKeyIter it d (i+1) es.size ep->Heap.SameBut it s.heap h'->Q (some e.key) { s with heap:=h' }):wpAny (model prog w) A (pyNext (.ref it)) Q E s:=by
 obtain⟨o,ho,hc,hd⟩:=id hit;obtain⟨od,hod,hcd,hdd⟩:=hm;have hT:=hit.typeIs;unfold pyNext;refine b5w (b7N (b6s (name:=Str.ofString "__next__") hT b7G (b6i b7G hT b9U ?_ (b9J _))));unfold Builtin.«dict_keyiterator.__next__»
 repeat (first|with_reducible refine b7W hT ?_|with_reducible refine c0A ho hd ?_|with_reducible refine b8p hod hdd ?_|with_reducible refine b8N hod hdd ?_|with_reducible refine b8O hT ?_|wp_step)
 have em:(if (i:Int)<0 then none else es[(i:Int).toNat]?)=some e:=by rw[if_neg (by omega),b6Z,hx]
 rw[em];refine b5w (b5w (b7W hT (b5A ?_)));refine b5w (b8O hT ?_);show wpAny _ _ (setField (.ref it) 1 (rawInt ((i:Int)+1)) >>= _) _ _ s;refine b5w (b9G ho hd (by simp) ?_);have hit':(s.heap.update it (Obj.mapFields (·.setIfInBounds 1 (rawInt ((i:Int)+1))))).IsKeyIter it d (i+1) es.size ep :=
  ⟨_,b7d _ ho (Obj.isFreed_of_fields (b9s hd _)),(Obj.cls_mapFields ..).trans hc,by rw[b9s hd];simp[rawInt]⟩
 refine b5w (b6d (b5w (b8O (s:={ s with heap:=s.heap.update it (Obj.mapFields (·.setIfInBounds 1 (rawInt ((i:Int)+1)))) }) hit'.typeIs ?_)));show wpAny _ _ (pure e.key) _ _ _;exact b5A (b5A ⟨_,rfl,b5A (hQ _ hit' (b8u ..))⟩)
theorem b4b {Q:Option Value->Shared->Prop} (hh:A.handled=none) (hit:s.heap.IsKeyIter it d i es.size ep) (hm:a2g s.heap d es ep) (hx:es[i]?=none) (hQ:∀h',Heap.ExtBut it s.heap h'->Q none { s with heap:=h' }) :
  wpAny (model prog w) A (pyNext (.ref it)) Q E s:=by
 obtain⟨o,ho,hc,hd⟩:=id hit;obtain⟨od,hod,hcd,hdd⟩:=hm;have hT:=hit.typeIs;unfold pyNext;refine b5w (b7N (b6s (name:=Str.ofString "__next__") hT b7G (b6i b7G hT b9U ?_ (b9J _))));unfold Builtin.«dict_keyiterator.__next__»
 repeat (first|with_reducible refine b7W hT ?_|with_reducible refine c0A ho hd ?_|with_reducible refine b8p hod hdd ?_|with_reducible refine b8N hod hdd ?_|with_reducible refine b8O hT ?_|wp_step)
 have em:(if (i:Int)<0 then none else es[(i:Int).toNat]?)=none:=by rw[if_neg (by omega),b6Z,hx]
 rw[em];refine b5w (b5w (b7W hT (b5A ?_)));show wpAny _ _ (setField (.ref it) 0 .none >>= _) _ _ s;refine b5w (b9G ho hd (by simp) ?_);show wpAny _ _ (newExc (.type "StopIteration") [] >>= _) _ _ _;refine b5w ?_;simp only[newExc,newTuple];refine b5w (b6p ?_ (by size_fits));refine b5w (m:=firstArgMember _ _) (c0R (a:=Value.none) (by first|rfl|(simp only[firstArgMember];rfl)) ?_);refine b6p ?_ (by size_fits);simp only[raiseNew];refine b5w (wpAny_handled ?_);rw[show A.in1.handled=none from hh];refine b5w (b5A (wpAny_throw ?_));refine b5w (b7V (T:="StopIteration") (b:=true) ⟨_,b5D _ rfl,rfl⟩ b9H ?_);exact b5A (hQ _ (((b8u ..).extBut.push _).push _))
theorem b4c {Q:Value->Shared->Prop} (hd:(d==sysModules)=false) (hm:a2g s.heap d es ep) (hQ:Q (.ref s.heap.objs.size) { s with heap:=s.heap.push { cls:=.type "dict_keyiterator",data:=.fields #[.ref d,.int 0 0,.int es.size 0,.int ep 0] } }) :
  wpAny (model prog w) A (pyIter (.ref d)) Q E s:=by
 obtain⟨o,ho,hc,hdat⟩:=hm;have hT:s.TypeIs (.ref d) "dict":=⟨o,ho,hc.1⟩
 refine wpAny_pyIter_slot hT F.slot_dict_iter (b6i F.slot_dict_iter hT F.entry_dict_iter ?_ (F.args_dict_iter_1 _));unfold Builtin.«dict.__iter__»;refine b5w ?_;unfold Builtin.Dict.dictSlotNone;refine b5w (b9K hT ?_);show wpAny _ _ (pure (Value.ref d)) _ _ s;refine b5A ?_;show wpAny _ _ (Builtin.Dict.showsAll d >>= _) _ _ s;unfold Builtin.Dict.showsAll;rw[if_neg (by rw[hd];exact b5Y)];refine b5w (b5A (b5w (b8p ho hdat (b5w (b8N ho hdat ?_)))));refine b5w (b6p (b5A ⟨_,rfl,"dict_keyiterator",_,⟨_,b5D _ rfl,rfl⟩,b7G.lookup,?_⟩));simpa [rawInt] using hQ
end
end L2
namespace L2
open PySem PySem.Spec PyProof.Rows PySem.W
def Lf {α:Type} (n:Nat) (P:α->Prop):KasT α->Prop
 | .ret a=>P a
 | .ask i j k=>i<n/\j<n/\∀b,Lf n P (k b)
def Pm (n:Nat) (p:Array Nat):Prop:=p.Perm (List.range n).toArray
variable {prog:Program} {w:World} {A:Around} {E:Value->Shared->Prop} {s:Shared}
def TupI (h:Heap) (v:Value):Prop:=∃(b:Addr) (items:Array Value) (ns:List Int),v=.ref b/\IsTup h b items/\IntsAre items.toList ns
theorem TupI.ty {M:Model} {h:Heap} {v:Value} (t:TupI h v):Looks M h (typeOf v) (.type "tuple"):=by
 obtain⟨b,items,ns,rfl,⟨o,ho,hc,_⟩,_⟩:=t;exact hc▸(Looks.ld ho).andThen .now
theorem a9q {α β:Type} {M:Model} {f:α->Sem β} {g:α->β}:∀(l:List α) {Q:List β->Shared->Prop},(∀v∈l,∀(Q':β->Shared->Prop),Q' (g v) s->wpAny M A (f v) Q' E s)->Q (l.map g) s->wpAny M A (l.mapM f) Q E s
 | [],_,_,h=>by rw[List.mapM_nil];exact b5A h
 | x::l,Q,hf,h=>by
  rw[List.mapM_cons];exact b5w (hf x (.head _) _ (b5w (a9q l (Q:=λbs s'=>wpAny M A (pure (g x::bs)) Q E s') (λv hv=>hf v (.tail _ hv)) (b5A h))))
def fst? (h:Heap):Value->Option Value
 | .ref b=>match h.get? b with
  | some o=>match o.data with
   | .seq xs _=>xs[0]?
   | _=>none
  | none=>none
 | _=>none
section
variable {prog:Program} {w:World} {A:Around} {E:Value->Shared->Prop} {s:Shared} {d:Addr} {es:Array DictEntry} {ep:Nat}
theorem a2g.at {h h':Heap} (x:a2g h d es ep) (e:∀o,h.get? d=some o->h'.get? d=some o):a2g h' d es ep:=by
 obtain⟨o,ho,r⟩:=x;exact⟨o,e o ho,r⟩
theorem a9r (hh:A.handled=none) (I:Addr) (hne:d≠I):Walks prog w A I [I,d] [I] es.size (λi v=>∃e,es[i]?=some e/\v=e.key) (λi h=>h.IsKeyIter I d i es.size ep/\a2g h d es ep) where
 sub:=λb hb=>by simp at hb;simp[hb]
 frame:=λ_ _ _ st hk=>⟨st.1.at λo e=>hk I (by simp) o e,st.2.at λo e=>hk d (by simp) o e⟩
 item:=λi s Q E hi st hQ=>by
  have he:es[i]?=some es[i]:=b7B hi;refine b4a st.1 st.2 he λh' hit' hs'=>?_;exact hQ _ h' s.toks ⟨_,he,rfl⟩ ⟨hit',st.2.at λo e=>(hs'.2 d hne).trans e⟩ λb o hb e=>hs'.extBut b o (λh=>hb (by simp[h])) e
 done:=λs Q E st hQ=>b4b hh st.1 st.2 (by simp) λh' he'=>hQ h' s.toks λb o hb e=>he' b o (λh=>hb (by simp[h])) e
 self:=λ_ _ _ _ st hQ=>wpAny_pyIter_keyiter st.1 hQ
theorem b1E (hd:(d==sysModules)=false):KdlSrc prog w "dict" d d es.size (λi v=>∃e,es[i]?=some e/\v=e.key) (λh=>a2g h d es ep) where
 type:=λs ⟨o,ho,hx,_⟩=>⟨o,ho,hx.1⟩
 there:=λh ⟨o,ho,_⟩=>⟨b5F ho,b5F ho⟩
 keep:=λh h' x k=>x.at λo e=>k d (.inl rfl) o e
 notList:=by decide
 notTuple:=by decide
 hint:=λA E s Q ⟨o,ho,hx,_⟩ h=>kdl_hint_dict ⟨o,ho,hx.1⟩ h
 iter:=λA s hh hok=>by
  have lt:d<s.heap.objs.size:=by obtain⟨o,ho,_⟩:=hok;exact b5F ho
  exact⟨_,_,λE Q hQ=>b4c hd hok hQ,a9r hh _ (b5O lt),⟨_,b5D _ rfl,rfl,rfl⟩,hok.at λo e=>b5y _ e⟩
theorem a5n {Q:List Value->Shared->Prop} (hh:A.handled=none) (hd:(d==sysModules)=false) (hok:a2g s.heap d es ep) (hn:es.size<=sizeLine)
  (h:∀h' tk,(∀b o,s.heap.get? b=some o->h'.get? b=some o)->Q (es.toList.map (·.key)) { s with heap:=h',toks:=tk }):wpAny (model prog w) A (collect (.ref d)) Q E s:=by
 have lt:d<s.heap.objs.size:=by obtain⟨o,ho,_⟩:=hok;exact b5F ho
 have ne:s.heap.objs.size≠d:=b6o lt;unfold collect;refine b5w (c0B (b6q F.entry_proto_collect ?_));rw[b5Z F.plain_proto_collect _];show wpAny _ A.in1 (newList [] >>= λl=>again (.builtin "list.__iadd__" ⟨[l,.ref d],[]⟩)) _ _ s;refine b5w (b6p ?_);refine b5A ⟨b6D b9B _,b6q F.entry_list_iadd ?_⟩;rw[b5Z b9B _];show wpAny _ A.in1 (Builtin.List.listExtendWith (.ref s.heap.objs.size) (.ref d) (.ref s.heap.objs.size)) _ _ _;have hS0:(s.heap.push { cls:=.type "list",data:=.seq #[] }).get? s.heap.objs.size=some { cls:=.type "list",data:=.seq #[] }:=b5D _ rfl;have fin:∀s':Shared,(∃acc c,s'.heap.get? s.heap.objs.size=some { cls:=.type "list",dict:=none,data:=.seq acc c,slots:=#[] }/\acc.toList=es.toList.map (·.key)/\Q (es.toList.map (·.key)) s') ->
   wpAny (model prog w) A (match Value.ref s.heap.objs.size with
    | .ref a=>do
     let o <-load a
     match o.data with
     | .seq xs _=>pure xs.toList
     | _=>unsupported "internal:collect"
    | _=>unsupported "internal:collect") Q E s':=λs' ⟨acc,c,hS,ea,q⟩=>by
  show wpAny _ A (load s.heap.objs.size >>= _) _ _ _;refine b5w (c0i hS (b5A ?_));show Q acc.toList _;rw[ea];exact q
 refine b7Y (kdl_extend (s:={ s with heap:=s.heap.push { cls:=.type "list",data:=.seq #[] } }) (A:=A)
  (R:=λr s'=>r=.ok (.ret (.ref s.heap.objs.size))/\∃acc c,s'.heap.get? s.heap.objs.size=some { cls:=.type "list",dict:=none,data:=.seq acc c,slots:=#[] }/\acc.toList=es.toList.map (·.key)/\Q (es.toList.map (·.key)) s')
  (b1E (es:=es) (ep:=ep) hd) hh (hok.at λo e=>b5y _ e) s.heap.objs.size ne ne (.ref s.heap.objs.size) 0 hS0 (λh' tk acc c kp hS hacc=>⟨rfl,acc,c,hS,?_,?_⟩) hn) (λfn s' hz=>?_) (λe s' hz=>?_)
 ·refine b8X λi=>?_;rw[b7F,b5L,b7F];cases hi:acc[i]? with
  | none =>
   have:acc.size<=i:=Array.getElem?_eq_none_iff.mp hi;rw[Array.getElem?_eq_none (by rw[<-hacc.1];exact this)];rfl
  | some v =>
   obtain⟨e,he,rfl⟩:=hacc.2 i v hi;rw[he];rfl
 ·exact h h' tk λb o e=>kp b o (b5O (b5F e)) (b5y _ e)
 ·rcases fn with f|c'
  ·obtain⟨e,z⟩:=hz;cases e;exact fin s' z
  ·refine⟨hz.1,b7y hz.2 λr s'' z=>?_⟩;obtain⟨e,z⟩:=z;subst e;exact fin s'' z
 ·obtain⟨z,_⟩:=hz;cases z
end
end L2
namespace L2
open PySem PySem.Spec PyProof.Rows
abbrev B30:Int:=1000000000000000000000000000000
theorem e30:(10:Int) ^ (30:Int).toNat=B30:=by decide
def b4d (i j:Int):Prop:=(0<=i/\i<=10000000000*B30)/\(0<=j/\j<=10000000000*B30)
theorem b4d.ok {i j:Int} (h:b4d i j):IntMulOk i j:=by
 have q:∀k:Int,0<=k/\k<=10000000000*B30->PySem.Builtin.Int.intBits k<=140:=λk hk=>intBits_le_iff.mpr (by
  have e:(2:Nat) ^ 140=1393796574908163946345982392040522594123776:=by decide
  rw[e];unfold B30 at hk;omega)
 exact IntMulOk.of_le (q i h.1) (q j h.2) (by decide)
theorem a6d {X:Cx}:OpR X (binaryOp .Mult) (rI b4d λi j=>.int (i*j)):=opI λ_ _ _ _ _ _ _ hc q=>PyProof.Rows.mul_int q hc.ok
theorem a9s {te:TE} {σ:St} {d:Addr} {x y:V} {H:Hp} {Z:Hp->Prop} (h:te (some x::some y :: σ) H λv H4=>∃ys,H4 d=some (.lst ys)/\ys.length<sizeLine/\Z (upd H4 d (.lst (ys++[v])))):a9p a9k te σ d x y H Z:=by
 show(if true=true then (te (some x::some y :: σ) H λv H4=>∃ys,H4 d=some (.lst ys)/\ys.length<sizeLine/\Z (upd H4 d (.lst (ys++[v])))) else Z H);rw[if_pos rfl];exact h
end L2
namespace L2
open PySem
def a2H (u v:List Int):Prop:=¬u<+:v/\¬v<+:u
theorem a2H.symm {u v:List Int} (h:a2H u v):a2H v u:=⟨h.2,h.1⟩
theorem a2H.ext {u v:List Int} (h:a2H u v) (k:Int):a2H (u++[k]) v:=by
 refine⟨λz=>h.1 ((List.prefix_append u [k]).trans z),λz=>?_⟩;rcases List.prefix_concat_iff.mp z with e|e
 ·exact h.1 (e▸List.prefix_append u [k])
 ·exact h.2 e
theorem a2H.sib {u:List Int} {k l:Int} (h:k≠l):a2H (u++[k]) (u++[l]):=by
 refine⟨λz=>?_,λz=>?_⟩
 ·have:=(c0d u).mp z;simp at this;exact h this
 ·have:=(c0d u).mp z;simp at this;exact h this.symm
abbrev PF (ws:List (List Int)):Prop:=ws.Pairwise a2H
variable {b:Int} {lo:Bool} {n:Nat} {ws:List (List Int)}
theorem PF.perm {ws us:List (List Int)} (h:PF ws) (p:us.Perm ws):PF us:=p.pairwise_iff (λ{_ _} h=>h.symm) |>.mpr h
end L2
namespace L2
open PySem PySem.Spec PyProof.Rows PySem.W
def ev {α:Type} (lt:Nat->Nat->Bool):KasT α->α
 | .ret a=>a
 | .ask i j k=>ev lt (k (lt i j))
structure Ord (n:Nat) (lt:Nat->Nat->Bool):Prop where
 tr:∀i j k,lt i j=true->lt j k=true->lt i k=true
 tot:∀i j,i<n->j<n->i≠j->lt i j=false->lt j i=true
def Asc (lt:Nat->Nat->Bool) (p:Array Nat) (m:Nat):Prop:=∀i,i+1<m->lt (p.getD i 0) (p.getD (i+1) 0)=true
variable {n:Nat} {lt:Nat->Nat->Bool} {p:Array Nat} {m:Nat}
theorem Pm.size (h:Pm n p):p.size=n:=by
 have e:=h.size_eq;simpa using e
theorem a9t (p:Array Nat) (i:Nat):p.getD i 0=(p[i]?).getD 0:=by simp[Array.getD];split<;>simp[*]
theorem Pm.inj (h:Pm n p) {i j:Nat} (hi:i<n) (hj:j<n) (ne:i≠j):p.getD i 0≠p.getD j 0:=by
 have sz:=h.size;have nd:p.toList.Nodup:=by
  have q:p.toList.Perm (List.range n):=by
   have:=b6x.mp h;simpa using this
  exact q.nodup_iff.mpr b8C
 have e1:p.getD i 0=p.toList[i]'(by simpa [sz] using hi):=by simp[Array.getD,sz,hi]
 have e2:p.getD j 0=p.toList[j]'(by simpa [sz] using hj):=by simp[Array.getD,sz,hj]
 rw[e1,e2];intro z;exact ne ((b8f nd).mp z)
theorem Asc.all (o:Ord n lt) (h:Asc lt p m):∀j i,i<j->j<m->lt (p.getD i 0) (p.getD j 0)=true
 | 0,i,hi,_=>absurd hi (b6O _)
 | j+1,i,hi,hj=>by
  by_cases e:i=j
  ·subst e;exact h i hj
  ·exact o.tr _ _ _ (Asc.all o h j i (by omega) (by omega)) (h j hj)
variable {prog:Program} {w:World} {A:Around} {E:Value->Shared->Prop} {s:Shared}
def a4m (h:Heap) (v:Value) (ns:List Int):Prop:=∃(b:Addr) (items:Array Value),v=.ref b/\IsTup h b items/\IntsAre items.toList ns
theorem a4m.i {h:Heap} {v:Value} {ns:List Int} (t:a4m h v ns):TupI h v:=by
 obtain⟨b,items,e,ht,hi⟩:=t;exact⟨b,items,ns,e,ht,hi⟩
theorem a4m.keep {h h':Heap} {v:Value} {ns:List Int} {a:Addr} {o:Obj} (t:a4m h v ns) (ho:h.get? a=some o) (hc:o.cls=.type "list") (k:∀b o,b≠a->h.get? b=some o->h'.get? b=some o):a4m h' v ns:=by
 obtain⟨b,items,rfl,⟨ob,hb,hcb,n,hd⟩,hi⟩:=t;have ne:b≠a:=λz=>by rw[z,ho] at hb;cases hb;rw[hc] at hcb;exact absurd (Value.type.inj hcb) (by decide)
 exact⟨b,items,rfl,⟨ob,k b ob ne hb,hcb,n,hd⟩,hi⟩
theorem a7c {fin:Bool} {Q:Bool->Shared->Prop}:∀(xs ys:List Value) (ns ms:List Int) (i:Nat),IntsAre xs ns->IntsAre ys ms->fin=decide (ns.length<ms.length)->Q (HT.a0x ns ms) s->KatLex prog w A true fin Q (xs.zip ys) i s
 | [],ys,ns,ms,i,h1,h2,e,q=>by
  cases h1;have z:HT.a0x [] ms=fin:=by
   subst e;cases ms with
   | nil=>rfl
   | cons m ms=>exact(b6b (by simp)).symm
  rw[z] at q;exact q
 | x::xs,[],ns,ms,i,h1,h2,e,q=>by
  cases h2;cases h1 with
  | cons n t h1 =>
   rename_i nt;have z:HT.a0x (n::nt) []=fin:=by
    subst e;exact(b6N (by simp)).symm
   rw[z] at q;exact q
 | x::xs,y::ys,ns,ms,i,h1,h2,e,q=>by
  cases h1 with
  | cons n t h1 =>
  cases h2 with
  | cons m u h2 =>
  rw[HT.a0L] at q;refine kat_cons (b9S ?_);by_cases z:n=m
  ·subst z;rw[if_pos rfl] at q;have e0:(n==n)=true:=by simp
   rw[e0];exact kat_yes (a7c xs ys _ _ (i+1) h1 h2 (by rw[e];simp) q)
  ·rw[if_neg z] at q;have e0:(n==m)=false:=by simpa using z
   rw[e0];refine kat_no ?_;cases hb:(true&&i==0) with
   | true=>exact oneLt_int q
   | false=>exact kat_one _ _ (PyProof.Rows.lt_int q)
def nokey:Keyed:=(Value.none,Value.none)
def el (xs:Array Keyed) (i:Nat):Keyed:=xs.getD i nokey
structure SO (less:Keyed->Keyed->Bool) (S:Keyed->Prop):Prop where
 asym:∀x y,less x y=true->less y x=false
 tr:∀x y z,less y x=false->less z y=false->less z x=false
theorem b4e {xs:Array Keyed} {i:Nat} (h:i<xs.size):xs[i]?=some (el xs i):=by
 unfold el;rw[b7B h];simp[Array.getD,h]
def Cmp (prog:Program) (w:World) (A:Around) (E:Value->Shared->Prop) (s:Shared) (κ:SortKind) (less:Keyed->Keyed->Bool) (S:Keyed->Prop):Prop :=
 ∀(x y:Keyed) (st:SortSt) (Q:Option Bool->SortSt->Prop),S x->S y->kindOf st=κ->Q (some (less x y)) st->wpS (model prog w) A E s (lt' x y) Q st
variable {κ:SortKind} {less:Keyed->Keyed->Bool} {S:Keyed->Prop}
theorem a7d {arr:Array Keyed} {i:Nat} {st:SortSt} {Q:Keyed->SortSt->Prop} (hi:i<arr.size) (h:Q (el arr i) st):wpS (model prog w) A E s (elem' arr i) Q st:=by
 rw[elem'_eq,b4e hi];exact b7M h
def Bey (less:Keyed->Keyed->Bool) (left:Bool) (key:Keyed) (arr:Array Keyed) (base i:Nat):Bool:=if left then less (el arr (base+i)) key else !less key (el arr (base+i))
abbrev Lt (less:Keyed->Keyed->Bool) (x y:Keyed):Prop:=less y x=false
structure MC (less:Keyed->Keyed->Bool) (S:Keyed->Prop) (a b:Array Keyed):Prop where
 so:SO less S
 sa:∀i j,i<j->j<a.size->Lt less (el a i) (el a j)
 sb:∀i j,i<j->j<b.size->Lt less (el b i) (el b j)
 xa:∀i,i<a.size->S (el a i)
 xb:∀i,i<b.size->S (el b i)
 fst:less (el b 0) (el a 0)=true
 lst:∀j,j<b.size->less (el b j) (el a (a.size-1))=true
 na:1<=a.size
 nb:1<=b.size
variable {less:Keyed->Keyed->Bool} {S:Keyed->Prop} {a b out:Array Keyed} {ia ib:Nat}
structure Keep1 (st st':SortSt):Prop where
 k:kindOf st'=kindOf st
 a:arrOf st'=arrOf st
 p:pendingOf st'=pendingOf st
 f:failedOf st'=failedOf st
section
variable {prog:Program} {w:World} {A:Around} {E:Value->Shared->Prop} {s:Shared} {κ:SortKind}
end
def Srt (less:Keyed->Keyed->Bool) (xs:Array Keyed) (lo hi:Nat):Prop:=∀i j,lo<=i->i<j->j<hi->Lt less (el xs i) (el xs j)
theorem a9u {xs:Array Keyed} {i:Nat} (h:i<xs.size):xs.toList[i]?=some (el xs i):=by
 rw[b7F];exact b4e h
structure Laid (arr arr' m:Array Keyed) (base:Nat):Prop where
 sz:arr'.size=arr.size
 lo:∀j,j<base->el arr' j=el arr j
 mid:∀j,j<m.size->el arr' (base+j)=el m j
 hi:∀j,base+m.size<=j->j<arr.size->el arr' j=el arr j
theorem b3a {m:Array Keyed} {j:Nat} (h:j<m.size):el m j∈m.toList:=b5M (a9u h)
structure SB (κ:SortKind) (a₀:Array Keyed) (st:SortSt):Prop where
 perm:(arrOf st).Perm a₀
 kind:kindOf st=κ
 failed:failedOf st=none
theorem SB.size {κ:SortKind} {a₀:Array Keyed} {st:SortSt} (h:SB κ a₀ st):(arrOf st).size=a₀.size:=h.perm.size_eq
section
variable {prog:Program} {w:World} {A:Around} {E:Value->Shared->Prop} {s:Shared} {κ:SortKind} {less:Keyed->Keyed->Bool} {S:Keyed->Prop} {a₀:Array Keyed}
structure SA (less:Keyed->Keyed->Bool) (S:Keyed->Prop) (a₀:Array Keyed):Prop where
 so:SO less S
 xs:∀x∈a₀.toList,S x
theorem SB.x {st:SortSt} (h:SB κ a₀ st) (sa:SA less S a₀) {i:Nat} (hi:i<a₀.size):S (el (arrOf st) i):=by
 have hm:el (arrOf st) i∈(arrOf st).toList:=b3a (by rw[h.size];exact hi);exact sa.xs _ ((b6x.mp h.perm).mem_iff.mp hm)
end
theorem a2n {xs ys:Array Keyed} {i j:Nat} (h:xs[i]?=ys[j]?):el xs i=el ys j:=by
 have g:∀(zs:Array Keyed) (k:Nat),el zs k=(zs[k]?).getD nokey:=λzs k=>by
  unfold el;simp[Array.getD];split<;>simp[*]
 rw[g,g,h]
theorem a1l {xs:Array Keyed} {i j:Nat} (hj:j<=xs.size) (k:Nat):el (mirror xs i j ((j-i) / 2)) k=if i<=k/\k<j then el xs (i+j-1-k) else el xs k:=by
 have e:=getElem?_mirror_all (i:=i) hj k;by_cases h1:i<=k/\k<j
 ·rw[if_pos h1] at e ⊢;exact a2n e
 ·rw[if_neg h1] at e ⊢;exact a2n e
theorem a9v {xs:Array Keyed} {src d:Nat} (hs:src<xs.size) (hd:d<=src) (k:Nat):el (bubble xs src d) k=if k=src-d then el xs src else if src-d<k/\k<=src then el xs (k-1) else el xs k:=by
 have e:=getElem?_bubble hs d hd k;by_cases h1:k=src-d
 ·rw[if_pos h1] at e ⊢;exact a2n e
 ·rw[if_neg h1] at e ⊢;by_cases h2:src-d<k/\k<=src
  ·rw[if_pos h2] at e ⊢;exact a2n e
  ·rw[if_neg h2] at e ⊢;exact a2n e
theorem SB.setArr {κ:SortKind} {a₀:Array Keyed} {st:SortSt} (h:SB κ a₀ st) {xs:Array Keyed} (hp:xs.Perm (arrOf st)):SB κ a₀ (PyProof.Rows.setArr st xs):=⟨hp.trans h.perm,h.kind,h.failed⟩
section
variable {prog:Program} {w:World} {A:Around} {E:Value->Shared->Prop} {s:Shared} {κ:SortKind} {less:Keyed->Keyed->Bool} {S:Keyed->Prop} {a₀:Array Keyed}
theorem a2z (C:Cmp prog w A E s κ less S) (sa:SA less S a₀) {st:SortSt} {i j:Nat} {Q:Option Bool->SortSt->Prop} (hB:SB κ a₀ st) (hi:i<a₀.size) (hj:j<a₀.size) (h:Q (some (less (el (arrOf st) i) (el (arrOf st) j))) st):wpS (model prog w) A E s (ltAt' i j) Q st:=by
 rw[ltAt'_eq];refine b7c (wpS_get ?_);show wpS _ _ _ _ (do let x <-elem' (arrOf st) i;let y <-elem' (arrOf st) j;lt' x y) Q st;refine b7c (a7d (by rw[hB.size];exact hi) (b7c (a7d (by rw[hB.size];exact hj) ?_)));exact C _ _ _ _ (hB.x sa hi) (hB.x sa hj) hB.kind h
structure a4n (a₀:Array Keyed) (lo:Nat) (st st':SortSt):Prop where
 lo:∀j,j<lo->el (arrOf st') j=el (arrOf st) j
 p:pendingOf st'=pendingOf st
theorem a4n.refl (lo:Nat) (st:SortSt):a4n a₀ lo st st:=⟨λ_ _=>rfl,rfl⟩
def Fal (less:Keyed->Keyed->Bool) (xs:Array Keyed) (lo hi:Nat):Prop:=∀i j,lo<=i->i<j->j<hi->Lt less (el xs j) (el xs i)
def Tie (less:Keyed->Keyed->Bool) (xs:Array Keyed) (a b:Nat):Prop:=∀i j,a<=i->i<b->a<=j->j<b->Lt less (el xs i) (el xs j)
theorem Fal.mir {xs:Array Keyed} {lo hi a b:Nat} (d:Fal less xs lo hi) (t:Tie less xs a b) (ha:lo<=a) (hb:b<=hi) (hs:hi<=xs.size):Fal less (mirror xs a b ((b-a) / 2)) lo hi:=λi j h1 h2 h3=>by
 rw[a1l (by omega),a1l (by omega)];by_cases zi:a<=i/\i<b
 ·rw[if_pos zi];by_cases zj:a<=j/\j<b
  ·rw[if_pos zj];exact t _ _ (by omega) (by omega) (by omega) (by omega)
  ·rw[if_neg zj];exact d _ _ (by omega) (by omega) h3
 ·rw[if_neg zi];by_cases zj:a<=j/\j<b
  ·rw[if_pos zj];exact d _ _ h1 (by omega) (by omega)
  ·rw[if_neg zj];exact d _ _ h1 h2 h3
theorem SB.mir {st:SortSt} {a b:Nat} (h:SB κ a₀ st):SB κ a₀ (PyProof.Rows.setArr st (mirror (arrOf st) a b ((b-a) / 2))):=h.setArr (mirror_perm _ _ _ _)
theorem a4n.mir {st st1:SortSt} {lo a b:Nat} (h:a4n a₀ lo st st1) (hB:SB κ a₀ st1) (ha:lo<=a) (hb:b<=a₀.size):a4n a₀ lo st (PyProof.Rows.setArr st1 (mirror (arrOf st1) a b ((b-a) / 2))):=⟨λj hj=>by
  show el (mirror (arrOf st1) a b ((b-a) / 2)) j=_;rw[a1l (by rw[hB.size];exact hb),if_neg (by omega)];exact h.lo j hj,h.p⟩
theorem a7e (C:Cmp prog w A E s κ less S) (sa:SA less S a₀) {st st1:SortSt} {lo nrem n0:Nat} {Q:Option Nat->SortSt->Prop} (hB:SB κ a₀ st1) (fr:a4n a₀ lo st st1) (h1:1<=n0) (h2:n0+1<=nrem) (hz:lo+nrem<=a₀.size) (ds:Fal less (arrOf st1) lo (lo+n0+1))
  (h:∀m st',SB κ a₀ st'->a4n a₀ lo st st'->1<=m->m<=nrem->Srt less (arrOf st') lo (lo+m)->Q (some m) st'):wpS (model prog w) A E s (do
 rule "list.sort.descending-run"
 let mut n:=n0+1
 let mut neq:=0
 for _ in [n:nrem] do
  let some smaller <-ltAt' (lo+n) (lo+n-1)|return none
  if smaller then
   if neq>0 then reverseSlice' (lo+n-(neq+1)) (lo+n)
   neq:=0
  else
   let some larger <-ltAt' (lo+n-1) (lo+n)|return none
   if larger then break
   neq:=neq+1
  n:=n+1
 if neq>0 then reverseSlice' (lo+n-(neq+1)) (lo+n)
 reverseSlice' lo (lo+n)
 for _ in [n:nrem] do
  let some smaller <-ltAt' (lo+n) (lo+n-1)|return none
  if smaller then break
  n:=n+1
 return some n) Q st1:=by
 have so:=sa.so;refine b7c (wpS_lift (b7K ⟨rfl,?_⟩));dsimp only;refine b7c (wpS_mono (b9l (I:=λx c st'=>SB κ a₀ st'/\a4n a₀ lo st st'/\∃q,c=(none,x,q)/\q+1<=x/\Fal less (arrOf st') lo (lo+x)/\Tie less (arrOf st') (lo+x-(q+1)) (lo+x))
  (Q:=λc st'=>SB κ a₀ st'/\a4n a₀ lo st st'/\∃x q,c=(none,x,q)/\2<=x/\x<=nrem/\q+1<=x/\Fal less (arrOf st') lo (lo+x)/\Tie less (arrOf st') (lo+x-(q+1)) (lo+x)) ?_ ?_ ⟨hB,fr,0,rfl,by omega,ds,λi j q1 q2 q3 q4=>?_⟩) ?_)
 ·rintro x c st' hx1 hx2 ⟨hB',fr',q,rfl,hq,dx,tx⟩;have sz:=hB'.size;dsimp only;refine b7c (a2z C sa hB' (by omega) (by omega) ?_);dsimp only;cases e:less (el (arrOf st') (lo+x)) (el (arrOf st') (lo+x-1)) with
  | true =>
   rw[if_pos rfl];have ext:∀{st2:SortSt},Fal less (arrOf st2) lo (lo+x)->Lt less (el (arrOf st2) (lo+x)) (el (arrOf st2) (lo+x-1))->Fal less (arrOf st2) lo (lo+(x+1)):=λ{st2} d2 l2 i j p1 p2 p3=>by
    by_cases z:j=lo+x
    ·rw[z] at p2 ⊢;by_cases z2:i=lo+x-1
     ·rw[z2];exact l2
     ·exact so.tr _ _ _ l2 (d2 i (lo+x-1) p1 (by omega) (by omega))
    ·exact d2 i j p1 p2 (by omega)
   have one:∀{st2:SortSt},Tie less (arrOf st2) (lo+(x+1)-(0+1)) (lo+(x+1)):=λ{st2} i j q1 q2 q3 q4=>by
    have:i=j:=by omega
    rw[this];cases e9:less (el (arrOf st2) j) (el (arrOf st2) j) with
    | false=>exact e9
    | true=>exact absurd (so.asym _ _ e9) (by rw[e9];decide)
   by_cases gq:q>0
   ·rw[if_pos gq];rw[b9V];refine b7c (c0J (b7M ⟨hB'.mir,fr'.mir hB' (by omega) (by omega),0,rfl,by omega,?_,one⟩));refine ext (dx.mir tx (by omega) (b5G _) (by omega)) ?_;show Lt less (el (mirror (arrOf st') (lo+x-(q+1)) (lo+x) ((lo+x-(lo+x-(q+1))) / 2)) (lo+x)) (el (mirror (arrOf st') (lo+x-(q+1)) (lo+x) ((lo+x-(lo+x-(q+1))) / 2)) (lo+x-1));rw[a1l (by omega),a1l (by omega),if_neg (by omega),if_pos (by omega)];exact so.tr _ _ _ (so.asym _ _ e) (tx _ _ (by omega) (by omega) (by omega) (by omega))
   ·rw[if_neg gq];exact b7M ⟨hB',fr',0,rfl,by omega,ext dx (so.asym _ _ e),one⟩
  | false =>
   rw[if_neg (by decide)];refine b7c (a2z C sa hB' (by omega) (by omega) ?_);dsimp only;cases e2:less (el (arrOf st') (lo+x-1)) (el (arrOf st') (lo+x)) with
   | true =>
    rw[if_pos rfl];exact b7M ⟨hB',fr',x,q,rfl,by omega,by omega,hq,dx,tx⟩
   | false =>
    rw[if_neg (by decide)];refine b7M ⟨hB',fr',q+1,rfl,by omega,λi j p1 p2 p3=>?_,λi j q1 q2 q3 q4=>?_⟩
    ·by_cases z:j=lo+x
     ·rw[z] at p2 ⊢;by_cases z2:i=lo+x-1
      ·rw[z2];exact e2
      ·exact so.tr _ _ _ e2 (dx i (lo+x-1) p1 (by omega) (by omega))
     ·exact dx i j p1 p2 (by omega)
    ·by_cases zi:i=lo+x
     ·by_cases zj:j=lo+x
      ·rw[zi,zj];exact so.tr _ _ _ e2 e
      ·rw[zi];exact so.tr _ _ _ e2 (tx _ _ (by omega) (by omega) (by omega) (by omega))
     ·by_cases zj:j=lo+x
      ·rw[zj];exact so.tr _ (el (arrOf st') (lo+x-1)) _ (tx _ _ (by omega) (by omega) (by omega) (by omega)) e
      ·exact tx _ _ (by omega) (by omega) (by omega) (by omega)
 ·rintro c st' ⟨hB',fr',q,rfl,hq,dx,tx⟩;rw[show max (n0+1) nrem=nrem by omega] at *
  exact⟨hB',fr',nrem,q,rfl,by omega,b5G _,hq,dx,tx⟩
 ·have:i=j:=by omega
  rw[this];cases e9:less (el (arrOf st1) j) (el (arrOf st1) j) with
  | false=>exact e9
  | true=>exact absurd (so.asym _ _ e9) (by rw[e9];decide)
 rintro c st2 ⟨hB2,fr2,n,q,rfl,n1,n2,hq,dx,tx⟩;dsimp only;have fin:∀{st3:SortSt},SB κ a₀ st3->a4n a₀ lo st st3->Fal less (arrOf st3) lo (lo+n)->wpS (model prog w) A E s (do
   reverseSlice' lo (lo+n)
   let mut n:=n
   for _ in [n:nrem] do
    let some smaller <-ltAt' (lo+n) (lo+n-1)|return none
    if smaller then break
    n:=n+1
   return some n) Q st3:=λ{st3} hB3 fr3 d3=>by
  rw[b9V];have sz:=hB3.size;refine b7c (c0J ?_);have hM:=hB3.mir (a:=lo) (b:=lo+n);have fM:=fr3.mir hB3 (a:=lo) (b:=lo+n) (b5G _) (by omega);have sM:Srt less (arrOf (PyProof.Rows.setArr st3 (mirror (arrOf st3) lo (lo+n) ((lo+n-lo) / 2)))) lo (lo+n):=λi j q1 q2 q3=>by
   show Lt less (el (mirror (arrOf st3) lo (lo+n) ((lo+n-lo) / 2)) i) (el (mirror (arrOf st3) lo (lo+n) ((lo+n-lo) / 2)) j);rw[a1l (by omega),a1l (by omega),if_pos (by omega),if_pos (by omega)];exact d3 _ _ (by omega) (by omega) (by omega)
  generalize PyProof.Rows.setArr st3 (mirror (arrOf st3) lo (lo+n) ((lo+n-lo) / 2))=st4 at hM fM sM ⊢;refine b7c (wpS_mono (b9l (I:=λx c st'=>st'=st4/\c=(none,x)/\Srt less (arrOf st4) lo (lo+x))
   (Q:=λc st'=>st'=st4/\∃n1,c=(none,n1)/\n<=n1/\n1<=nrem/\Srt less (arrOf st4) lo (lo+n1)) ?_ ?_ ⟨rfl,rfl,sM⟩) ?_)
  ·rintro x c st' hx1 hx2 ⟨est,rfl,sx⟩;subst est;dsimp only;refine b7c (a2z C sa hM (by omega) (by omega) ?_);dsimp only;cases e:less (el (arrOf st') (lo+x)) (el (arrOf st') (lo+x-1)) with
   | true =>
    rw[if_pos rfl];exact b7M ⟨rfl,x,rfl,by omega,by omega,sx⟩
   | false =>
    rw[if_neg (by decide)];refine b7M ⟨rfl,rfl,λi j q1 q2 q3=>?_⟩;by_cases z:j=lo+x
    ·rw[z] at q2 ⊢;by_cases z2:i=lo+x-1
     ·rw[z2];exact e
     ·exact so.tr _ _ _ (sx i (lo+x-1) q1 (by omega) (by omega)) e
    ·exact sx i j q1 q2 (by omega)
  ·rintro c st' ⟨est,rfl,sx⟩;refine⟨est,max n nrem,rfl,Nat.le_max_left _ _,Nat.max_le.mpr ⟨by omega,b5G _⟩,?_⟩;exact sx
  rintro c st' ⟨est,n',rfl,n3,n4,sn'⟩;have est:=est.symm;subst est;exact b7M (h n' st4 hM fM (by omega) n4 sn')
 by_cases gq:q>0
 ·rw[if_pos gq];rw[b9V];refine b7c (c0J ?_);exact fin hB2.mir (fr2.mir hB2 (by omega) (by omega)) (dx.mir tx (by omega) (b5G _) (by rw[hB2.size];omega))
 ·rw[if_neg gq];exact fin hB2 fr2 dx
theorem a9w (C:Cmp prog w A E s κ less S) (sa:SA less S a₀) {st:SortSt} {lo nrem:Nat} {Q:Option Nat->SortSt->Prop} (hB:SB κ a₀ st) (h1:1<=nrem) (hz:lo+nrem<=a₀.size)
  (h:∀m st',SB κ a₀ st'->a4n a₀ lo st st'->1<=m->m<=nrem->Srt less (arrOf st') lo (lo+m)->Q (some m) st'):wpS (model prog w) A E s (countRun' lo nrem) Q st:=by
 have so:=sa.so;have sz:=hB.size;rw[countRun'_eq];dsimp only;refine b7c (wpS_mono (b9l (I:=λx c st'=>st'=st/\c=(none,x)/\Srt less (arrOf st) lo (lo+x))
  (Q:=λc st'=>st'=st/\∃n1,c=(none,n1)/\1<=n1/\n1<=nrem/\Srt less (arrOf st) lo (lo+n1)/\(n1<nrem->less (el (arrOf st) (lo+n1)) (el (arrOf st) (lo+n1-1))=true)) ?_ ?_ ⟨rfl,rfl,λi j q1 q2 q3=>by omega⟩) ?_)
 ·rintro x c st' hx1 hx2 ⟨est,rfl,sx⟩;subst est;dsimp only;refine b7c (a2z C sa hB (by omega) (by omega) ?_);dsimp only;cases e:less (el (arrOf st') (lo+x)) (el (arrOf st') (lo+x-1)) with
  | true =>
   rw[if_pos rfl];exact b7M ⟨rfl,x,rfl,by omega,by omega,sx,λ_=>e⟩
  | false =>
   rw[if_neg (by decide)];have e2:=e;refine b7M ⟨rfl,rfl,λi j q1 q2 q3=>?_⟩;by_cases z:j=lo+x
   ·rw[z] at q2 ⊢;by_cases z2:i=lo+x-1
    ·rw[z2];exact e2
    ·exact so.tr _ _ _ (sx i (lo+x-1) q1 (by omega) (by omega)) e2
   ·exact sx i j q1 q2 (by omega)
 ·rintro c st' ⟨est,rfl,sx⟩;refine⟨est,max 1 nrem,rfl,Nat.le_max_left _ _,Nat.max_le.mpr ⟨by omega,b5G _⟩,?_,λq=>absurd q (by omega)⟩;exact sx
 rintro c st' ⟨est,n,rfl,n1,n2,sn,brk⟩;have est:=est.symm;subst est;dsimp only;by_cases g1:(n==nrem)=true
 ·rw[if_pos g1];exact b7M (h n st hB (a4n.refl _ _) n1 n2 sn)
 rw[if_neg g1];have g1:¬n=nrem:=by simpa using g1
 have b0:=brk (by omega);by_cases g2:n>1
 ·rw[if_pos g2];refine b7c (a2z C sa hB (by omega) (by omega) ?_);dsimp only;cases e:less (el (arrOf st) lo) (el (arrOf st) (lo+n-1)) with
  | true =>
   rw[if_pos rfl];exact b7M (h n st hB (a4n.refl _ _) n1 n2 sn)
  | false =>
   rw[if_neg (by decide)];have tie:Tie less (arrOf st) lo (lo+n):=λi j q1 q2 q3 q4=>by
    have a1:Lt less (el (arrOf st) i) (el (arrOf st) (lo+n-1)):=by
     by_cases z:i=lo+n-1
     ·rw[z];cases e9:less (el (arrOf st) (lo+n-1)) (el (arrOf st) (lo+n-1)) with
      | false=>exact e9
      | true=>exact absurd (so.asym _ _ e9) (by rw[e9];decide)
     ·exact sn _ _ q1 (by omega) (by omega)
    have a2:Lt less (el (arrOf st) lo) (el (arrOf st) j):=by
     by_cases z:j=lo
     ·rw[z];cases e9:less (el (arrOf st) lo) (el (arrOf st) lo) with
      | false=>exact e9
      | true=>exact absurd (so.asym _ _ e9) (by rw[e9];decide)
     ·exact sn _ _ (b5G _) (by omega) q4
    exact so.tr _ _ _ a1 (so.tr _ (el (arrOf st) lo) _ e a2)
   have d0:Fal less (arrOf st) lo (lo+n+1):=λi j q1 q2 q3=>by
    by_cases z:j=lo+n
    ·rw[z];exact so.tr _ _ _ (so.asym _ _ b0) (tie _ _ (by omega) (by omega) q1 (by omega))
    ·exact tie _ _ (by omega) (by omega) q1 (by omega)
   rw[b9V];refine b7c (c0J ?_);exact a7e C sa hB.mir ((a4n.refl lo st).mir hB (b5G _) (by omega)) n1 (by omega) hz (d0.mir tie (b5G _) (by omega) (by omega)) h
 rw[if_neg g2];have en:n=1:=by omega
 subst en;refine a7e C sa hB (a4n.refl lo st) (b5G _) (by omega) hz (λi j q1 q2 q3=>?_) h;have:i=lo:=by omega
 have:j=lo+1:=by omega
 subst i j;exact so.asym _ _ b0
theorem a8e (C:Cmp prog w A E s κ less S) (sa:SA less S a₀) {st:SortSt} {lo n ok:Nat} {Q:Bool->SortSt->Prop} (hB:SB κ a₀ st) (hok:ok<=n) (hz:lo+n<=a₀.size) (hs:Srt less (arrOf st) lo (lo+ok))
  (h:∀st',SB κ a₀ st'->a4n a₀ lo st st'->Srt less (arrOf st') lo (lo+n)->Q true st'):wpS (model prog w) A E s (binarySort' lo n ok) Q st:=by
 have so:=sa.so;rw[binarySort'_eq];refine b7c (wpS_mono (b9l (I:=λk c st'=>c=(none,())/\SB κ a₀ st'/\a4n a₀ lo st st'/\Srt less (arrOf st') lo (lo+min k n))
  (Q:=λc st'=>c=(none,())/\SB κ a₀ st'/\a4n a₀ lo st st'/\Srt less (arrOf st') lo (lo+n)) ?step ?fin ?init) ?post)
 case post =>
  rintro c st' ⟨rfl,hB',fr,hs'⟩;exact b7M (h st' hB' fr hs')
 case init =>
  refine⟨rfl,hB,a4n.refl _ _,λi j h1 h2 h3=>?_⟩;exact hs i j h1 h2 (by omega)
 case fin =>
  rintro c st' ⟨hc,hB',fr,hs'⟩;refine⟨hc,hB',fr,?_⟩
  rwa [show min (max (max ok 1) n) n=n by omega] at hs'
 case step =>
  rintro k c st' hak hkn ⟨rfl,hB',fr,hs'⟩;rw[show min k n=k by omega] at hs';have hk:lo+k<a₀.size:=by omega
  have sz:=hB'.size;refine b7c (wpS_mono (b9l (I:=λx c st''=>st''=st'/\∃l r,c=(none,l,r)/\l<=r/\r<=k/\r-l<=k-x /\
    (∀i,i<l->Lt less (el (arrOf st') (lo+i)) (el (arrOf st') (lo+k)))/\(∀i,r<=i->i<k->Lt less (el (arrOf st') (lo+k)) (el (arrOf st') (lo+i))))
   (Q:=λc st''=>st''=st'/\∃l r,c=(none,l,r)/\l<=k /\
    (∀i,i<l->Lt less (el (arrOf st') (lo+i)) (el (arrOf st') (lo+k)))/\(∀i,l<=i->i<k->Lt less (el (arrOf st') (lo+k)) (el (arrOf st') (lo+i)))) ?istep ?ifin ?iinit) ?ipost)
  case iinit=>exact⟨rfl,0,k,rfl,by omega,by omega,by omega,λi hi=>by omega,λi h1 h2=>by omega⟩
  case ifin =>
   rintro c st'' ⟨rfl,l,r,rfl,hlr,hrk,hm,hlo,hhi⟩;have:l=r:=by omega
   subst this;exact⟨rfl,l,l,rfl,hrk,hlo,hhi⟩
  case istep =>
   rintro x c st'' _ hxk ⟨rfl,l,r,rfl,hlr,hrk,hm,hlo,hhi⟩;dsimp only;by_cases hge:l >= r
   ·rw[if_pos hge];have:l=r:=by omega
    subst this;exact b7M ⟨rfl,l,l,rfl,hrk,hlo,hhi⟩
   ·rw[if_neg hge];refine b7c (a2z C sa hB' hk (by omega) ?_);dsimp only;cases e:less (el (arrOf st'') (lo+k)) (el (arrOf st'') (lo+(l+r) / 2)) with
    | true =>
     rw[if_pos rfl];refine b7M ⟨rfl,l,(l+r) / 2,rfl,by omega,by omega,by omega,hlo,λi h1 h2=>?_⟩;by_cases z:i=(l+r) / 2
     ·rw[z];exact so.asym _ _ e
     ·exact so.tr _ _ _ (so.asym _ _ e) (hs' _ _ (by omega) (by omega) (by omega))
    | false =>
     rw[if_neg (by decide)];have e2:=e;refine b7M ⟨rfl,(l+r) / 2+1,r,rfl,by omega,by omega,by omega,λi h1=>?_,hhi⟩;by_cases z:i=(l+r) / 2
     ·rw[z];exact e2
     ·exact so.tr _ _ _ (hs' (lo+i) (lo+(l+r) / 2) (by omega) (by omega) (by omega)) e2
  case ipost =>
   rintro c st'' ⟨rfl,l,r,rfl,hlk,hlo,hhi⟩;show wpS _ _ _ _ (do moveDown' (lo+k) (lo+l);pure (ForInStep.yield (none,()))) _ _;rw[moveDown'_eq];have B:∀x,el (bubble (arrOf st'') (lo+k) (lo+k-(lo+l))) x=if x=lo+l then el (arrOf st'') (lo+k) else if lo+l<x/\x<=lo+k then el (arrOf st'') (x-1) else el (arrOf st'') x:=λx=>by
    rw[a9v (by rw[sz];exact hk) (by omega),show lo+k-(lo+k-(lo+l))=lo+l by omega]
   refine b7c (c0J (b7M ⟨rfl,hB'.setArr (bubble_perm _ _ _),⟨λj hj=>?_,fr.p⟩,?_⟩))
   ·show el (bubble (arrOf st'') (lo+k) (lo+k-(lo+l))) j=_;rw[B,if_neg (by omega),if_neg (by omega)];exact fr.lo j hj
   rw[show min (k+1) n=k+1 by omega];intro i j h1 h2 h3;show Lt less (el (bubble (arrOf st'') (lo+k) (lo+k-(lo+l))) i) (el (bubble (arrOf st'') (lo+k) (lo+k-(lo+l))) j);rw[B,B];have hl2:∀x,lo<=x->x<lo+l->Lt less (el (arrOf st'') x) (el (arrOf st'') (lo+k)):=λx q1 q2=>by
    have q:=hlo (x-lo) (by omega);rw[show lo+(x-lo)=x by omega] at q;exact q
   have hh2:∀x,lo+l<=x->x<lo+k->Lt less (el (arrOf st'') (lo+k)) (el (arrOf st'') x):=λx q1 q2=>by
    have q:=hhi (x-lo) (by omega) (by omega);rw[show lo+(x-lo)=x by omega] at q;exact q
   repeat' split
   all_goals first
    | (exfalso;omega)
    | exact hl2 _ (by omega) (by omega)
    | exact hh2 _ (by omega) (by omega)
    | exact hs' _ _ (by omega) (by omega) (by omega)
end
variable {less:Keyed->Keyed->Bool} {arr arr':Array Keyed}
section
variable {prog:Program} {w:World} {A:Around} {E:Value->Shared->Prop} {s:Shared} {κ:SortKind} {S:Keyed->Prop} {a₀:Array Keyed}
theorem a7f (C:Cmp prog w A E s κ less S) (sa':SA less S a₀) {st:SortSt} {Q:Unit->SortSt->Prop} (hB:SB κ a₀ st) (hp:pendingOf st=#[]) (h64:a₀.size<64)
  (h:∀st',SB κ a₀ st'->Srt less (arrOf st') 0 a₀.size->Q () st'):wpS (model prog w) A E s sortRuns' Q st:=by
 rw[sortRuns'_eq];refine b7c (wpS_get ?_);dsimp only;rw[hB.size];have em:minRun' a₀.size a₀.size 0=a₀.size:=by
  cases hn:a₀.size with
  | zero=>rfl
  | succ k =>
   show(if k+1<64 then k+1+0 else _)=_;rw[if_pos (by omega)]
 rw[em];refine b7c (wpS_mono (b9l (I:=λx c st'=>∃lo,c=(none,lo)/\SB κ a₀ st'/\x<=lo/\((lo=0/\pendingOf st'=#[])\/(lo=a₀.size/\(pendingOf st').size<=1/\Srt less (arrOf st') 0 a₀.size)))
  (Q:=λc st'=>c=(none,a₀.size)/\SB κ a₀ st'/\(pendingOf st').size<=1/\Srt less (arrOf st') 0 a₀.size) ?step ?fin ⟨0,rfl,hB,b6e _,.inl ⟨rfl,hp⟩⟩) ?post)
 case fin =>
  rintro c st' ⟨lo,rfl,hB',h2,⟨rfl,hp'⟩|⟨rfl,l1,hS⟩⟩
  ·have:a₀.size=0:=by omega
   rw[this];exact⟨rfl,hB',by rw[hp'];exact b6e _,λi j q1 q2 q3=>by omega⟩
  ·exact⟨rfl,hB',l1,hS⟩
 case step =>
  rintro x c st1 _ hx ⟨lo,rfl,hB1,h2,⟨rfl,hp1⟩|⟨rfl,l1,hS⟩⟩
  rotate_left
  ·dsimp only;rw[if_pos (b5G _)];exact b7M ⟨rfl,hB1,l1,hS⟩
  dsimp only;rw[if_neg (by omega)];refine b7c (a9w C sa' hB1 (by omega) (by omega) λm st2 hB2 fr2 m1 m2 sm=>?_);have p2:pendingOf st2=#[]:=by rw[fr2.p];exact hp1
  dsimp only;by_cases g2:m<a₀.size;rw[if_pos g2];refine b7c (wpS_lift (b7K ⟨rfl,?_⟩));refine b7c (a8e C sa' hB2 (by omega) (by omega) sm λst3 hBc fr3 hSc=>?_);have p3:pendingOf st3=#[]:=by rw[fr3.p];exact p2
  rw[if_neg (by decide)];rw[show min (a₀.size-0) a₀.size=a₀.size by omega] at hSc ⊢
  rotate_left
  rw[if_neg g2];have hBc:=hB2;have p3:=p2;have hSc:=sm;rw[show m=a₀.size by omega] at hSc ⊢
  all_goals
   rw[b9L] at hSc;refine b7c (wpS_get ?_);rw[p3];dsimp only[Array.back?];refine b7c (c0J (b7M ⟨0+a₀.size,rfl,⟨hBc.perm,hBc.kind,hBc.failed⟩,by omega,.inr ⟨b9L _,?_,hSc⟩⟩));show((pendingOf _).push _).size<=1;rw[p3];exact b5G _
 case post =>
  rintro c st1 ⟨rfl,hB1,l1,hS⟩;dsimp only;refine b7c (wpS_mono (b9l (I:=λx c st'=>c=(none,())/\st'=st1) (Q:=λc st'=>c=(none,())/\st'=st1) ?_ (λc st' hh=>hh) ⟨rfl,rfl⟩) ?_)
  ·rintro x c st2 _ hx ⟨rfl,rfl⟩;refine b7c (wpS_get ?_);rw[if_pos l1];exact b7M ⟨rfl,rfl⟩
  ·rintro c st2 ⟨rfl,rfl⟩;exact b7M (h st2 hB1 hS)
end
theorem a2o:∀u:List Int,HT.a0x u u=false
 | []=>rfl
 | x::u=>by rw[HT.a0L,if_pos rfl];exact a2o u
theorem a2L:∀u v w:List Int,HT.a0x u v=true->HT.a0x v w=true->HT.a0x u w=true
 | [],[],w,h,_=>by cases h
 | [],_::_,[],_,h=>by cases h
 | [],_::_,_::_,_,_=>rfl
 | _::_,[],w,h,_=>by cases h
 | _::_,_::_,[],_,h=>by cases h
 | x::u,y::v,z::w,h1,h2=>by
  rw[HT.a0L] at h1 h2 ⊢;by_cases e1:x=y
  ·subst e1;rw[if_pos rfl] at h1;by_cases e2:x=z
   ·subst e2;rw[if_pos rfl] at h2 ⊢;exact a2L u v w h1 h2
   ·rw[if_neg e2] at h2 ⊢;exact h2
  ·rw[if_neg e1] at h1;have l1:=b5X h1;by_cases e2:y=z
   ·subst e2;rw[if_neg e1];exact h1
   ·rw[if_neg e2] at h2;have l2:=b5X h2;rw[if_neg (by omega)];exact b6b (by omega)
theorem a1w:∀u v:List Int,u≠v->HT.a0x u v=false->HT.a0x v u=true
 | [],[],h,_=>absurd rfl h
 | [],_::_,_,h=>by cases h
 | _::_,[],_,_=>rfl
 | x::u,y::v,h,h1=>by
  rw[HT.a0L] at h1 ⊢;by_cases e:x=y
  ·subst e;rw[if_pos rfl] at h1 ⊢;exact a1w u v (λz=>h (by rw[z])) h1
  ·rw[if_neg e] at h1;rw[if_neg (Ne.symm e)];have:=of_decide_eq_false h1;exact b6b (by omega)
abbrev Lx (u v:List Int):Prop:=HT.a0x u v=true
theorem a2G {n:Nat} {lt:Nat->Nat->Bool} {p:Array Nat} {α:Type} {f:Nat->α} {R:α->α->Prop} (o:Ord n lt) (pm:Pm n p) (a:Asc lt p n) (hR:∀i j,lt i j=true->R (f i) (f j)):(p.toList.map f).Pairwise R:=by
 rw[b6k,b7g];intro i j hi hj hij;have sz:=pm.size;simp only[b6a] at hi hj;have z:=a.all o j i hij (by omega);have e1:p.getD i 0=p[i]:=by simp[Array.getD,hi]
 have e2:p.getD j 0=p[j]:=by simp[Array.getD,hj]
 rw[e1,e2] at z;simpa using hR _ _ z
theorem a9x {M:Model} {vs:List Value} {Q:SortKind->Shared->Prop} (h1:1<=vs.length) (t:∀v∈vs,∃n ns,a4m s.heap v (n::ns)) (h:Q (tuples' true) s):wpAny M A (keyKind' vs.toArray) Q E s:=by
 have ft:∀v∈vs,∃n tk,fst? s.heap v=some (.int n tk):=λv hv=>by
  obtain⟨n,ns,b,items,rfl,⟨o,ho,hc,k,hd⟩,hi⟩:=t v hv;have e:fst? s.heap (.ref b)=items[0]?:=by unfold fst?;simp only[ho,hd]
  obtain⟨l⟩:=items;cases hi with
  | cons _ tk _=>exact⟨n,tk,e⟩
 rw[kat_kind_eq,List.mapM_toArray,map_eq_pure_bind];refine b5w (b5w (a9q (g:=fst? s.heap) _ (λv hv Q' hq=>?_) (b5A ?_)))
 ·obtain⟨n,ns,tn⟩:=t v hv;have ty:=tn.i.ty (M:=M);obtain⟨b,items,rfl,⟨o,ho,hc,k,hd⟩,_⟩:=tn;rw[kas_first_eq];refine b5w (ty.here ?_);rw[if_neg (by simp)];refine b5w (c0w ho hd (b5A ?_));have e:fst? s.heap (.ref b)=items[0]?:=by unfold fst?;simp only[ho,hd]
  rw[<-e];exact hq
 ·have na:((List.map (fst? s.heap) vs).toArray.all λx=>x.isSome)=true:=by
   simp only[List.all_toArray,List.all_map,b8B];intro v hv;obtain⟨n,tk,e⟩:=ft v hv;simp[e]
  rw[if_pos na];refine b5w (b7K ?_);rw[oneTypeOnly'_eq];have fm:Array.filterMap id (List.map (fst? s.heap) vs).toArray=(List.filterMap id (List.map (fst? s.heap) vs)).toArray:=by simp
  rw[fm,List.mapM_toArray,map_eq_pure_bind];have int_s:∀v∈List.filterMap id (List.map (fst? s.heap) vs),∃n tk,v=.int n tk:=λv hv=>by
   obtain⟨x,hx,e⟩:=b9o.mp hv;obtain⟨y,hy,rfl⟩:=b5K.mp hx;obtain⟨n,tk,e2⟩:=ft y hy;exact⟨n,tk,by simp only[id] at e;rw[e2] at e;exact(b5U e).symm⟩
  have ne:1<=(List.filterMap id (List.map (fst? s.heap) vs)).length:=by
   cases vs with
   | nil=>simp at h1
   | cons v vr =>
    obtain⟨n,tk,e⟩:=ft v b8I;simp[e]
  refine b5w (b5w (b5w (kas_mapM (r:=Value.type "int") _ (λv hv Q' hq=>?_) (b5A ?_))))
  ·obtain⟨n,tk,rfl⟩:=int_s v hv;exact c0R (a:=Value.type "int") rfl hq
  ·generalize List.filterMap id (List.map (fst? s.heap) vs)=fs at ne;have e0:(List.map (λ_=>Value.type "int") fs).toArray[0]?=some (Value.type "int"):=by
    cases fs with
    | nil=>simp at ne
    | cons f fr=>simp
   have hall:((List.map (λ_=>Value.type "int") fs).toArray.all λx=>x==Value.type "int")=true:=by simp
   rw[e0];simp only[hall,if_true];refine b5A (b5A ?_);exact h
theorem Paired.pick {α β:Type} {R:α->β->Prop} {xs:List α} {ys:List β} (h:Paired R xs ys) (d:α) (e:β):∀is:List Nat,(∀i∈is,i<xs.length)->Paired R (is.map λi=>xs.getD i d) (is.map λi=>ys.getD i e)
 | [],_=>.nil
 | i::is,hi=>by
  have h1:=hi i (.head _);have hx:xs[i]?=some xs[i]:=b5z h1;obtain⟨y,hy,r⟩:=Paired.right_of h i _ hx;have e1:xs.getD i d=xs[i]:=by rw[b5B,hx];rfl
  have e2:ys.getD i e=y:=by rw[b5B,hy];rfl
  refine .cons ?_ (Paired.pick h d e is λj hj=>hi j (.tail _ hj));show R (xs.getD i d) (ys.getD i e);rw[e1,e2];exact r
theorem Pm.mem {n:Nat} {p:Array Nat} (h:Pm n p):∀i∈p.toList,i<n:=λi hi=>by
 have q:p.toList.Perm (List.range n):=by
  have:=b6x.mp h;simpa using this
 simpa using q.mem_iff.mp hi
theorem a3e {α:Type} {n:Nat} {p:Array Nat} {xs:List α} (d:α) (h:Pm n p) (hn:xs.length=n):(p.toList.map λi=>xs.getD i d).Perm xs:=by
 have e:(List.range n).map (λi=>xs.getD i d)=xs:=by
  subst hn;refine b7u (by simp) λi h1 h2=>?_;simp[b5B,b5z h2]
 have q:p.toList.Perm (List.range n):=by
  have:=b6x.mp h;simpa using this
 have q2:=q.map λi=>xs.getD i d;rw[e] at q2;exact q2
theorem a5o {ns:List Int} {us:List Value} (r:a0w (ns.map V.int) us):IntsAre us ns:=by
 induction ns generalizing us with
 | nil=>cases r;exact .nil
 | cons n ns ih =>
  cases r with
  | cons r rr =>
   obtain⟨t,rfl⟩:=r;exact .cons _ _ (ih rr)
end L2
namespace L2
open PySem PySem.Spec PyProof.Rows PySem.W
open Classical in
noncomputable def ixv (vs:List Value) (v:Value):Nat:=if h:∃i,vs[i]?=some v then Classical.choose h else 0
theorem b3b {vs:List Value} (nd:vs.Nodup) {v:Value} {i:Nat} (h:vs[i]?=some v):ixv vs v=i:=by
 have ex:∃i,vs[i]?=some v:=⟨i,h⟩
 unfold ixv;rw[dif_pos ex];have e:=Classical.choose_spec ex;exact(c0K ((b5E.mp e).1) nd).mp (e.trans h.symm)
theorem a9y {vs:List Value} (nd:vs.Nodup) {v:Value} (h:v∈vs):vs[ixv vs v]?=some v:=by
 obtain⟨i,hi⟩:=b7X h;rw[b3b nd hi];exact hi
theorem b4f {vs:List Value} (nd:vs.Nodup):vs.map (ixv vs)=List.range vs.length:=by
 refine b8X λi=>?_;rw[b5L];by_cases hi:i<vs.length
 ·rw[b5z hi,b6U hi];show some (ixv vs vs[i])=some i;rw[b3b nd (b5z hi)]
 ·rw[b7q (by omega),b7q (by simp;omega)];rfl
structure WOrd (n:Nat) (lt:Nat->Nat->Bool):Prop where
 asym:∀i j,i<n->j<n->lt i j=true->lt j i=false
 ntr:∀i j k,i<n->j<n->k<n->lt j i=false->lt k j=false->lt k i=false
def ltA (n:Nat) (lt:Nat->Nat->Bool) (i j:Nat):Bool:=if i<n then (if j<n then lt i j else true) else false
theorem b3c {n:Nat} {lt:Nat->Nat->Bool} {i j:Nat} (hi:i<n) (hj:j<n):ltA n lt i j=lt i j:=by unfold ltA;rw[if_pos hi,if_pos hj]
theorem WOrd.all {n:Nat} {lt:Nat->Nat->Bool} (o:WOrd n lt):(∀i j,ltA n lt i j=true->ltA n lt j i=false)/\∀i j k,ltA n lt j i=false->ltA n lt k j=false->ltA n lt k i=false:=by
 refine⟨λi j h=>?_,λi j k h1 h2=>?_⟩
 ·unfold ltA at h ⊢;by_cases hi:i<n
  ·by_cases hj:j<n
   ·rw[if_pos hi,if_pos hj] at h;rw[if_pos hi,if_pos hj];exact o.asym i j hi hj h
   ·rw[if_neg hj]
  ·rw[if_neg hi] at h;cases h
 ·unfold ltA at h1 h2 ⊢;by_cases hk:k<n
  ·rw[if_pos hk] at h2 ⊢;by_cases hj:j<n
   ·rw[if_pos hj] at h1 h2;by_cases hi:i<n
    ·rw[if_pos hi] at h1 ⊢;exact o.ntr i j k hi hj hk h1 h2
    ·rw[if_neg hi] at h1;cases h1
   ·rw[if_neg hj] at h2;cases h2
  ·rw[if_neg hk]
theorem Ord.weak {n:Nat} {lt:Nat->Nat->Bool} (o:Ord n lt) (irr:∀i,lt i i=false):WOrd n lt where
 asym:=λi j _ _ h=>by
  cases e:lt j i with
  | false=>rfl
  | true=>have z:=o.tr _ _ _ h e;rw[irr] at z;cases z
 ntr:=λi j k hi hj hk h1 h2=>by
  by_cases z1:i=j
  ·rw[z1];exact h2
  ·by_cases z2:j=k
   ·rw[<-z2];exact h1
   ·have a:=o.tr _ _ _ (o.tot j i hj hi (Ne.symm z1) h1) (o.tot k j hk hj (Ne.symm z2) h2);cases e:lt k i with
    | false=>rfl
    | true=>have z:=o.tr _ _ _ a e;rw[irr] at z;cases z
def WAsc (lt:Nat->Nat->Bool) (p:Array Nat) (m:Nat):Prop:=∀i j,i<j->j<m->lt (p.getD j 0) (p.getD i 0)=false
variable {prog:Program} {w:World} {A:Around} {E:Value->Shared->Prop} {s:Shared}
theorem b1F {a:Addr} {vs:List Value} {n:Nat} {P:PySem.Fin->Shared->Prop} {κ:SortKind} {lt:Nat->Nat->Bool} (o:WOrd vs.length lt) (nd:vs.Nodup) (ho:s.heap.get? a=some (seqObj "list" vs.toArray n)) (hz:vs.length<=63)
  (hk:2<=vs.length->∀h1:Heap,(∀b o,b≠a->s.heap.get? b=some o->h1.get? b=some o)->∀Q:SortKind->Shared->Prop,Q κ { s with heap:=h1 }->wpAny (model prog w) A (keyKind' vs.toArray) Q E { s with heap:=h1 })
  (hlt:∀h1:Heap,(∀b o,b≠a->s.heap.get? b=some o->h1.get? b=some o)->∀i j,i<vs.length->j<vs.length->∀(C:Bool->Shared->Prop) (E':Value->Shared->Prop),C (lt i j) { s with heap:=h1 }->wpAny (model prog w) A (keyLt' κ (vs.getD i Value.none) (vs.getD j Value.none)) C E' { s with heap:=h1 })
  (h:∀(h':Heap) (p:Array Nat) (c:Nat),Pm vs.length p->WAsc lt p vs.length->h'.get? a=some (seqObj "list" (p.toList.map λi=>vs.getD i Value.none).toArray c)->(∀b o,b≠a->s.heap.get? b=some o->h'.get? b=some o)->P (.done (.ret .none)) { s with heap:=h' }) :
  wpAny (model prog w) A (Builtin.«list.sort» ⟨[.ref a],[]⟩) P E s:=by
 have ha:a<s.heap.objs.size:=b5F ho;obtain⟨e1,ho1⟩:∃e1,(s.heap.update a (Obj.mapSeq λ_=>(#[]:Array Value))).get? a=some (seqObj "list" #[] e1):=⟨_,b7f ho λ_=>#[]⟩
 rw[list_sort_plain];refine b5w (c0w ho rfl (b5w (b8v ho rfl ?_ (by rw[b5I,b6l];omega) (b6e _))));refine b5w (c0o ho1 rfl (b5w (b8F ?_ (by show vs.length<=_;rw[b6l];omega))));refine b5w (b7J ?_ (b6e _));refine b6d ?_;have k1:∀b o,b≠a->s.heap.get? b=some o->(((s.heap.update a (Obj.mapSeq λ_=>(#[]:Array Value))).push (seqObj "tuple" vs.toArray 0)).push (seqObj "list" #[] 0)).get? b=some o:=λb o hb e =>
  b5y _ (b5y _ ((b5P _ _ _ _ hb).trans e))
 have ho6:(((s.heap.update a (Obj.mapSeq λ_=>(#[]:Array Value))).push (seqObj "tuple" vs.toArray 0)).push (seqObj "list" #[] 0)).get? a=some (seqObj "list" #[] e1):=b5y _ (b5y _ ho1);show wpAny (model prog w) A _ P E { s with heap:=((s.heap.update a (Obj.mapSeq λ_=>(#[]:Array Value))).push (seqObj "tuple" vs.toArray 0)).push (seqObj "list" #[] 0) };generalize (((s.heap.update a (Obj.mapSeq λ_=>(#[]:Array Value))).push (seqObj "tuple" vs.toArray 0)).push (seqObj "list" #[] 0))=h1 at k1 ho6 ⊢;dsimp only;have last:∀(out:List Value),∃c,(h1.update a (Obj.mapSeq λ_=>out.toArray)).get? a=some (seqObj "list" out.toArray c)/\(∀b o,b≠a->s.heap.get? b=some o->(h1.update a (Obj.mapSeq λ_=>out.toArray)).get? b=some o):=λout =>
  ⟨_,b7f ho6 λ_=>out.toArray,λb o hb e=>(b5P _ _ _ _ hb).trans (k1 b o hb e)⟩
 by_cases h2:vs.toArray.size<2
 ·rw[if_pos h2,if_pos h2];refine b5w (b5A ?_);rw[StateT.run_pure];refine b5w (b5A ?_);dsimp only;refine b5w (c0o ho6 rfl ?_);have e2:Array.map (λx=>x.snd) (arrOf (SortSt.mk' general' (vs.toArray.zip vs.toArray) #[] 7 none))=vs.toArray:=by
   show Array.map (λx=>x.snd) (vs.toArray.zip vs.toArray)=vs.toArray;apply c0Z.mp;simp[c1a]
  rw[e2];rw[b5I] at h2;have er:((List.range vs.length).toArray.toList.map λi=>vs.getD i Value.none)=vs:=by
   refine b7u (by simp) λi h1 h2=>?_;simp[b5B,b5z h2]
  obtain⟨c,hc,kk⟩:=last vs;refine b5w (b8v ho6 rfl ?_ (b6e _) (by rw[b5I,b6l];omega));simp only[c0L,b6j,b7L];exact b5A (h _ (List.range vs.length).toArray c (c1d _) (λi j hi hj=>absurd hj (by omega)) (by rw[er];exact hc) kk)
 ·rw[if_neg h2,if_neg h2];rw[b5I] at h2;refine b5w (hk (by omega) h1 k1 _ ?_);have za:(vs.toArray.zip vs.toArray).toList=vs.map λv=>(v,v):=by
   rw[Array.toList_zip]
   induction vs with
   | nil=>rfl
   | cons v r ih=>simp[List.zip]
  have zs:(vs.toArray.zip vs.toArray).size=vs.length:=by simp
  have gv:∀v∈vs,vs.getD (ixv vs v) Value.none=v:=λv hv=>by rw[b5B,a9y nd hv];rfl
  have lv:∀v∈vs,ixv vs v<vs.length:=λv hv=>(b5E.mp (a9y nd hv)).1;have C:Cmp prog w A E { s with heap:=h1 } κ (λx y=>ltA vs.length lt (ixv vs x.2) (ixv vs y.2)) (λx=>x.1=x.2/\x.2∈vs):=by
   intro x y st Q hx hy hκ q;rw[lt'_eq];refine b7c (wpS_get ?_);rw[hκ];have e1:x.1=vs.getD (ixv vs x.2) Value.none:=by rw[gv _ hx.2];exact hx.1
   have e2:y.1=vs.getD (ixv vs y.2) Value.none:=by rw[gv _ hy.2];exact hy.1
   rw[e1,e2];refine b7c (wpS_lift (b7N (hlt h1 k1 _ _ (lv _ hx.2) (lv _ hy.2) _ _ ⟨rfl,?_⟩)));have q:Q (some (ltA vs.length lt (ixv vs x.2) (ixv vs y.2))) st:=q;rw[b3c (lv _ hx.2) (lv _ hy.2)] at q;exact b7M q
  have sa:SA (λx y=>ltA vs.length lt (ixv vs x.2) (ixv vs y.2)) (λx=>x.1=x.2/\x.2∈vs) (vs.toArray.zip vs.toArray):=by
   refine⟨⟨λx y q=>o.all.1 _ _ q,λx y z q1 q2=>o.all.2 _ _ _ q1 q2⟩,λx hx=>?_⟩
   ·rw[za] at hx;obtain⟨v,hv,rfl⟩:=b5K.mp hx;exact⟨rfl,hv⟩
  refine b5w (b7Y (a7f C sa (st:=SortSt.mk' κ (vs.toArray.zip vs.toArray) #[] 7 none) (Q:=λ_ st'=>SB κ (vs.toArray.zip vs.toArray) st'/\Srt (λx y=>ltA vs.length lt (ixv vs x.2) (ixv vs y.2)) (arrOf st') 0 (vs.toArray.zip vs.toArray).size) ⟨c1d _,rfl,rfl⟩ rfl (by simp only[Array.size_zip,b5I];omega) λst' a1 a2=>⟨a1,a2⟩) ?_ λ_ _ e=>e);rintro⟨⟨⟩,st'⟩ s' ⟨rfl,hB,hS⟩;dsimp only;rw[zs] at hS;have pm0:=b6x.mp hB.perm;rw[za] at pm0;have sz:(arrOf st').size=vs.length:=by rw[hB.size,zs]
  have inv:∀x∈(arrOf st').toList,x.2∈vs:=λx hx=>by
   obtain⟨v,hv,rfl⟩:=b5K.mp (pm0.mem_iff.mp hx);exact hv
  have pl:((arrOf st').map λx=>ixv vs x.2).toList=(arrOf st').toList.map λx=>ixv vs x.2:=by simp
  have pm:Pm vs.length ((arrOf st').map λx=>ixv vs x.2):=by
   show Array.Perm _ _;rw[b6x,pl];have q:=pm0.map λx=>ixv vs x.2;rw[b6r] at q;have e:(vs.map ((λx:Keyed=>ixv vs x.2) ∘ λv=>(v,v)))=List.range vs.length:=b4f nd;rw[e] at q;exact q
  have pg:∀i,i<vs.length->((arrOf st').map λx=>ixv vs x.2).getD i 0=ixv vs (el (arrOf st') i).2:=λi hi=>by
   rw[a9t];have:((arrOf st').map λx=>ixv vs x.2)[i]?=some (ixv vs (el (arrOf st') i).2):=by
    rw[Array.getElem?_map,b4e (by rw[sz];exact hi)];rfl
   rw[this];rfl
  have ie:∀i,i<vs.length->ixv vs (el (arrOf st') i).2<vs.length:=λi hi=>lv _ (inv _ (b3a (by rw[sz];exact hi)));have as:WAsc lt ((arrOf st').map λx=>ixv vs x.2) vs.length:=λi j hi hj=>by
   rw[pg i (by omega),pg j hj,<-b3c (n:=vs.length) (lt:=lt) (ie j hj) (ie i (by omega))];exact hS i j (b6e _) hi hj
  have hout:Array.map (λx=>x.snd) (arrOf st')=(((arrOf st').map λx=>ixv vs x.2).toList.map λi=>vs.getD i Value.none).toArray:=by
   apply c0Z.mp;rw[pl,b6r];show(Array.map (λx=>x.snd) (arrOf st')).toList=List.map ((λi=>vs.getD i Value.none) ∘ λx:Keyed=>ixv vs x.snd) (arrOf st').toList;rw[Array.toList_map];exact b6c λx hx=>(gv _ (inv x hx)).symm
  obtain⟨c,hc,kk⟩:=last (((arrOf st').map λx=>ixv vs x.2).toList.map λi=>vs.getD i Value.none);refine b5w (c0o ho6 rfl ?_);rw[hout];refine b5w (b8v ho6 rfl ?_ (b6e _) (by rw[b5I,b5x,pl,b5x,b6a,sz,b6l];omega));rw[hB.failed];simp only[c0L,b6j,b7L];exact b5A (h _ _ c pm as hc kk)
theorem a7g {a:Addr} {vs:List Value} {n:Nat} {P:PySem.Fin->Shared->Prop} {κ:SortKind} {lt:Nat->Nat->Bool} (o:Ord vs.length lt) (irr:∀i,lt i i=false) (nd:vs.Nodup) (ho:s.heap.get? a=some (seqObj "list" vs.toArray n)) (hz:vs.length<=63)
  (hk:2<=vs.length->∀h1:Heap,(∀b o,b≠a->s.heap.get? b=some o->h1.get? b=some o)->∀Q:SortKind->Shared->Prop,Q κ { s with heap:=h1 }->wpAny (model prog w) A (keyKind' vs.toArray) Q E { s with heap:=h1 })
  (hlt:∀h1:Heap,(∀b o,b≠a->s.heap.get? b=some o->h1.get? b=some o)->∀i j,i<vs.length->j<vs.length->∀(C:Bool->Shared->Prop) (E':Value->Shared->Prop),C (lt i j) { s with heap:=h1 }->wpAny (model prog w) A (keyLt' κ (vs.getD i Value.none) (vs.getD j Value.none)) C E' { s with heap:=h1 })
  (h:∀(h':Heap) (p:Array Nat) (c:Nat),Pm vs.length p->Asc lt p vs.length->h'.get? a=some (seqObj "list" (p.toList.map λi=>vs.getD i Value.none).toArray c)->(∀b o,b≠a->s.heap.get? b=some o->h'.get? b=some o)->P (.done (.ret .none)) { s with heap:=h' }) :
  wpAny (model prog w) A (Builtin.«list.sort» ⟨[.ref a],[]⟩) P E s:=by
 refine b1F (o.weak irr) nd ho hz hk hlt λh' p c pm as hc kk=>h h' p c pm (λi hi=>?_) hc kk;have l:∀i,i<vs.length->p.getD i 0<vs.length:=λi hi=>by
  refine pm.mem _ ?_;have sz:=pm.size;rw[a9t,b7B (by omega)];exact Array.getElem_mem_toList (by omega)
 exact o.tot _ _ (l _ hi) (l i (by omega)) (pm.inj hi (by omega) (by omega)) (as i (i+1) (by omega) hi)
end L2
namespace L2
open PySem PySem.Spec PyProof.Rows PySem.W
theorem a7h:∀{l:List Value} {ns ms:List Int},IntsAre l ns->IntsAre l ms->ns=ms
 | _,_,_,.nil,.nil=>rfl
 | _,_,_,.cons _ _ h,.cons _ _ h2=>by rw[a7h h h2]
theorem a4o:∀{l:List Value} {ns:List Int} {j:Nat} {n:Int},IntsAre l ns->ns[j]?=some n->∃t,l[j]?=some (.int n t)
 | _,_,j,n,.nil,h=>by simp at h
 | _,_,0,n,.cons m t _,h=>by simp at h;subst h;exact⟨t,rfl⟩
 | _,_,j+1,n,.cons m t r,h=>by
  obtain⟨t',e⟩:=a4o r (by simpa using h);exact⟨t',by simpa using e⟩
theorem a4m.inj {h:Heap} {v:Value} {ns ms:List Int} (t1:a4m h v ns) (t2:a4m h v ms):ns=ms:=by
 obtain⟨b,items,rfl,⟨o,ho,hc,n,hd⟩,hi⟩:=t1;obtain⟨b2,items2,e,⟨o2,ho2,hc2,n2,hd2⟩,hi2⟩:=t2;cases e;rw[ho] at ho2;cases ho2;rw[hd] at hd2;cases hd2;exact a7h hi hi2
variable {prog:Program} {w:World} {A:Around} {E:Value->Shared->Prop} {s:Shared}
def PrN (h:Heap) (v:Value) (q:Int × List Int):Prop:=∃(b:Addr) (items:Array Value) (t:Tok) (u:Value),v=.ref b/\IsTup h b items/\items.toList=[.int q.1 t,u]/\a4m h u q.2
theorem PrN.inj {h:Heap} {v:Value} {p q:Int × List Int} (t1:PrN h v p) (t2:PrN h v q):p=q:=by
 obtain⟨b,items,t,u,rfl,⟨o,ho,hc,n,hd⟩,hi,hu⟩:=t1;obtain⟨b2,items2,t',u',e,⟨o2,ho2,hc2,n2,hd2⟩,hi2,hu2⟩:=t2;cases e;rw[ho] at ho2;cases ho2;rw[hd] at hd2;cases hd2;rw[hi] at hi2;obtain⟨z1,z2⟩:=b7O hi2;obtain⟨z3,_⟩:=b7O z2;subst z3;exact b9F (Value.int.inj z1).1 (hu.inj hu2)
theorem PrN.keep {h h':Heap} {v:Value} {q:Int × List Int} {a:Addr} {o:Obj} (t:PrN h v q) (ho:h.get? a=some o) (hc:o.cls=.type "list") (k:∀b o,b≠a->h.get? b=some o->h'.get? b=some o):PrN h' v q:=by
 obtain⟨b,items,t,u,rfl,⟨ob,hb,hcb,n,hd⟩,hi,hu⟩:=t;have ne:b≠a:=λz=>by rw[z,ho] at hb;cases hb;rw[hc] at hcb;exact absurd (Value.type.inj hcb) (by decide)
 exact⟨b,items,t,u,rfl,⟨ob,k b ob ne hb,hcb,n,hd⟩,hi,hu.keep ho hc k⟩
theorem PrN.keep2 {h h':Heap} {v:Value} {q:Int × List Int} (t:PrN h v q) (k:∀b o,h.get? b=some o->h'.get? b=some o):PrN h' v q:=by
 obtain⟨b,items,t,u,rfl,⟨ob,hb,hcb,n,hd⟩,hi,b2,it2,rfl,⟨ob2,hb2,hcb2,n2,hd2⟩,hi2⟩:=t;exact⟨b,items,t,_,rfl,⟨ob,k b ob hb,hcb,n,hd⟩,hi,b2,it2,rfl,⟨ob2,k b2 ob2 hb2,hcb2,n2,hd2⟩,hi2⟩
def a3A (p q:Int × List Int):Bool:=if p.1=q.1 then HT.a0x p.2 q.2 else decide (p.1<q.1)
theorem a2M (p:Int × List Int):a3A p p=false:=by unfold a3A;rw[if_pos rfl];exact a2o _
theorem b4g (p q r:Int × List Int) (h1:a3A p q=true) (h2:a3A q r=true):a3A p r=true:=by
 unfold a3A at *
 by_cases a:p.1=q.1
 ·rw[if_pos a] at h1;by_cases b:q.1=r.1
  ·rw[if_pos b] at h2;rw[if_pos (a.trans b)];exact a2L _ _ _ h1 h2
  ·rw[if_neg b] at h2;rw[if_neg (by rw[a];exact b),a];exact h2
 ·rw[if_neg a] at h1;have h1:=b5X h1;by_cases b:q.1=r.1
  ·rw[<-b,if_neg a];exact b6b h1
  ·rw[if_neg b] at h2;have h2:=b5X h2;rw[if_neg (by omega)];exact b6b (by omega)
theorem b1G (p q:Int × List Int) (ne:p≠q) (h:a3A p q=false):a3A q p=true:=by
 unfold a3A at *
 by_cases a:p.1=q.1
 ·rw[if_pos a] at h;rw[if_pos a.symm];exact a1w _ _ (λz=>ne (b9F a z)) h
 ·rw[if_neg a] at h;rw[if_neg (λz=>a z.symm)];have h:=of_decide_eq_false h;exact b6b (by omega)
abbrev LxP (p q:Int × List Int):Prop:=a3A p q=true
def ltKP (ks:List (Int × List Int)) (i j:Nat):Bool:=a3A (ks.getD i (0,[])) (ks.getD j (0,[]))
theorem ordKP {ks:List (Int × List Int)} (nd:ks.Nodup):Ord ks.length (ltKP ks) where
 tr:=λi j k=>b4g _ _ _
 tot:=λi j hi hj ne h=>by
  refine b1G _ _ (λz=>ne ?_) h;rw[b5B,b5B,b5z hi,b5z hj] at z;exact(b8f nd).mp z
theorem a9z {x y:Value} {ns ms:List Int} (hx:a4m s.heap x ns) (hy:a4m s.heap y ms) (hu:A.units+1<cLine):SeqAt.EqAt A s x y (decide (ns=ms)):=by
 have hx0:=hx;have hy0:=hy;obtain⟨a,items,rfl,ht,hi⟩:=hx;obtain⟨b,items2,rfl,ht2,hj⟩:=hy;by_cases z:a=b
 ·subst z;rw[b6b (hx0.inj hy0)];exact SeqAt.EqAt.same _
 ·have l1:=hi.length;have l2:=hj.length;rw[b6a] at l1 l2;refine SeqAt.EqAt.of_refs z ?_;have q:=SeqAt.RcAt.tuples (A:=A) (s:=s) (e:=λj=>match ns[j]?,ms[j]? with|some d,some e=>decide (d=e)|_,_=>true) ht ht2 (by omega) (λj h1 h2=>by
   obtain⟨t1,e1⟩:=a4o hi (b5z (show j<ns.length by omega));obtain⟨t2,e2⟩:=a4o hj (b5z (show j<ms.length by omega));have f1:items[j]=.int ns[j] t1:=by
    have:=(b5E.mp e1).2;simpa using this
   have f2:items2[j]=.int ms[j] t2:=by
    have:=(b5E.mp e2).2;simpa using this
   rw[f1,f2];have g:=SeqAt.EqAt.int_int (A:=A.in1) (s:=s) ns[j] t1 ms[j] t2;rw[Bool.beq_eq_decide_eq] at g;simp only[b5z (show j<ns.length by omega),b5z (show j<ms.length by omega)];exact g)
  have e:((List.range (min items.size items2.size)).all (λj=>match ns[j]?,ms[j]? with|some d,some e=>decide (d=e)|_,_=>true)&&items.size==items2.size)=decide (ns=ms):=by
   rw[l1,l2];exact all_eq ns ms _ λj x y h1 h2=>by simp only[h1,h2]
  rw[e] at q;exact q
theorem a8f {x y:Value} {p q:Int × List Int} {C:Bool->Shared->Prop} (hx:PrN s.heap x p) (hy:PrN s.heap y q) (hu:A.units+1<cLine) (h:C (a3A p q) s):wpAny (model prog w) A (keyLt' (tuples' true) x y) C E s:=by
 obtain⟨b,items,t,u,rfl,⟨o,ho,hc,n,hd⟩,hi,tu⟩:=hx;obtain⟨b2,items2,t2,u2,rfl,⟨o2,ho2,hc2,n2,hd2⟩,hi2,tu2⟩:=hy;refine kat_lt ho hd ho2 hd2 ?_;have z1:items.size=2:=by rw[<-b6a,hi];rfl
 have z2:items2.size=2:=by rw[<-b6a,hi2];rfl
 rw[hi,hi2,z1,z2];show KatLex prog w A true (decide (2<2)) C [(.int p.1 t,.int q.1 t2),(u,u2)] 0 s;unfold a3A at h;refine kat_cons (b9S ?_);by_cases e:p.1=q.1
 ·rw[if_pos e] at h;rw[e,show(q.1==q.1)=true by simp];refine kat_yes (kat_cons (a9z tu tu2 hu _ _ _ _ ?_));by_cases e2:p.2=q.2
  ·rw[b6b e2];refine kat_yes (kat_nil ?_);rw[e2,a2o] at h;exact h
  ·rw[b6N e2];refine kat_no (kat_one _ _ ?_);obtain⟨c,its,rfl,ht,hh⟩:=tu;obtain⟨c2,its2,rfl,ht2,hh2⟩:=tu2;exact HT.a3I ht ht2 hh hh2 (by omega) h
 ·rw[if_neg e] at h;rw[show(p.1==q.1)=false by simpa using e];exact kat_no (oneLt_int h)
theorem a8g {M:Model} {vs:List Value} {Q:SortKind->Shared->Prop} (h1:1<=vs.length) (t:∀v∈vs,∃q,PrN s.heap v q) (h:Q (tuples' true) s):wpAny M A (keyKind' vs.toArray) Q E s:=by
 obtain⟨fs,kt,fi⟩:∃fs,KatTups s.heap vs fs/\fs.length=vs.length/\∀v∈fs,∃n tk,v=Value.int n tk:=by
  clear h1 h
  induction vs with
  | nil=>exact⟨[],trivial,rfl,λv hv=>by cases hv⟩
  | cons v r ih =>
   obtain⟨fs,k1,k2,k3⟩:=ih λv hv=>t v (.tail _ hv);obtain⟨q,b,items,tk,u,rfl,⟨o,ho,hc,n,hd⟩,hi,_⟩:=t v (.head _);refine⟨.int q.1 tk::fs,KatTups.cons ho hc hd ?_ k1,by rw[b5T,b5T,k2],λv hv=>?_⟩
   ·rw[<-b7F,hi];rfl
   ·rcases b5Q.mp hv with rfl|hv
    ·exact⟨_,_,rfl⟩
    ·exact k3 v hv
 refine kat_kind (T:=Value.type "int") kt (by omega) (λv hv=>?_) rfl h;obtain⟨n,tk,rfl⟩:=fi.2 v hv;exact Looks.of_pure rfl
theorem a3M {a:Addr} {vs:List Value} {ks:List (Int × List Int)} {n:Nat} {P:PySem.Fin->Shared->Prop} (ho:s.heap.get? a=some (seqObj "list" vs.toArray n)) (h64:vs.length<=63) (hl:ks.length=vs.length) (t:∀i,i<vs.length->PrN s.heap (vs.getD i Value.none) (ks.getD i (0,[])))
  (nd:ks.Nodup) (hu:A.units+1<cLine)
  (h:∀(h':Heap) (p:Array Nat) (c:Nat),Pm vs.length p->(p.toList.map λi=>ks.getD i (0,[])).Pairwise LxP->h'.get? a=some (seqObj "list" (p.toList.map λi=>vs.getD i Value.none).toArray c)->(∀b o,b≠a->s.heap.get? b=some o->h'.get? b=some o)->P (.done (.ret .none)) { s with heap:=h' }) :
  wpAny (model prog w) A (Builtin.«list.sort» ⟨[.ref a],[]⟩) P E s:=by
 have o:Ord vs.length (ltKP ks):=by rw[<-hl];exact ordKP nd
 have ndv:vs.Nodup:=by
  unfold List.Nodup;rw[b7g];intro i j hi hj hij z;have e1:vs.getD i Value.none=vs[i]:=by rw[b5B,b5z hi];rfl
  have e2:vs.getD j Value.none=vs[j]:=by rw[b5B,b5z hj];rfl
  have t1:=t i hi;have t2:=t j hj;rw[e1,z] at t1;rw[e2] at t2;have k:=t1.inj t2;rw[b5B,b5B,b5z (by omega),b5z (by omega)] at k;have:=(b8f nd).mp k;omega
 have at_:∀v∈vs,∃i,i<vs.length/\v=vs.getD i Value.none:=λv hv=>by
  obtain⟨i,hi⟩:=b6J.mp hv;exact⟨i,(b5E.mp hi).1,by rw[b5B,hi];rfl⟩
 refine a7g (κ:=tuples' true) o (λi=>a2M _) ndv ho (by omega) (λh2 h1 k1 Q q=>?_) (λh1 k1 i j hi hj C E' q=>?_) λh' p c pm as e k=>h h' p c pm (a2G o pm as λi j z=>z) e k
 ·refine a8g (s:={ s with heap:=h1 }) (by omega) (λv hv=>?_) q;obtain⟨i,hi,rfl⟩:=at_ v hv
  exact⟨_,(t i hi).keep ho rfl k1⟩
 ·exact a8f (s:={ s with heap:=h1 }) ((t i hi).keep ho rfl k1) ((t j hj).keep ho rfl k1) hu q
def RPw (H:Hp) (x:V) (q:Int × List Int):Prop:=∃t u,x=.ref t/\H t=some (.tup [.int q.1,u])/\Wd H u q.2
theorem RPw.same {H H':Hp} {x:V} {q:Int × List Int} (sm:a0m H H') (h:RPw H x q):RPw H' x q:=by
 obtain⟨t,u,e,ht,hu⟩:=h;exact⟨t,u,e,sm _ _ ht,hu.same sm⟩
def b4h:List V->Hp->VK->Prop:=λxs H Q=>∃l ys ws,xs=[.ref l]/\H l=some (.lst ys)/\Paired (RPw H) ys ws/\ws.length<=63/\ws.Nodup /\
 ∀p H' out us,a0m H H'->H p=none->H' p=some (.lst out)->Paired (RPw H') out us->us.Perm ws->us.Pairwise LxP->Q (.ref p) H'
theorem a8h {X:Cx} (hc:X.calm=true) (hu:X.A.units+4<cLine):a2w X (.builtin "sorted") b4h:=by
 intro pins s σ H xs us Q I r h;obtain⟨l,ys,ws,rfl,e,hw,h64,nd,q⟩:=h;obtain⟨u,rfl,rx⟩:=a1Z r;cases rx;obtain⟨z,its,n,rv,he⟩:=(show a0B X.prog X.w H s.heap l (.lst ys) from I.hok l _ e)
 have ly:ys.length=ws.length:=hw.length;have li:ys.length=its.length:=rv.length;have tup:∀i,i<its.length->PrN s.heap (its.getD i Value.none) (ws.getD i (0,[])):=λi hi=>by
  have hy:ys[i]?=some (ys[i]'(by omega)):=b5z _;obtain⟨wd,hwd,t,uu,et,ht,hu2⟩:=Paired.right_of hw i _ hy;obtain⟨u,hu',ru⟩:=rv.get hy;rw[et] at ru;cases ru;obtain⟨_,its2,rv2,it⟩:=a1p ((show a0B X.prog X.w H s.heap t (.tup [.int wd.1,uu]) from I.hok _ _ ht));obtain⟨b,eb,hb⟩:=Wd.ti hu2;subst eb;obtain⟨_,its3,rv3,it3⟩:=a1p ((show a0B X.prog X.w H s.heap b (.tup (wd.2.map V.int)) from I.hok _ _ hb));have e1:its.getD i Value.none=.ref t:=by rw[b5B,hu'];rfl
  have e2:ws.getD i (0,[])=wd:=by rw[b5B,hwd];rfl
  obtain⟨u1,u2,rfl,r1,r2⟩:=rv2.two;obtain⟨tk,rfl⟩:=r1;cases r2;rw[e1,e2];exact⟨t,_,tk,.ref b,rfl,it,rfl,b,_,rfl,it3,by simpa using a5o rv3⟩
 refine b8j c0p b9M b9N (args_sorted1 _) ?_;unfold Builtin.«sorted»;refine b5w (m:=checkCount "sorted" 1 1 _) (b5A ?_);refine b5w (collect_list ⟨_,he,rfl,n,rfl⟩ ?_ (by rw[b6l];omega));have k1:∀b o,s.heap.get? b=some o->((s.heap.push (seqObj "list" #[] 0)).update s.heap.objs.size (Obj.mapSeq (·++its.toArray))).get? b=some o:=λb o q=>by
  have lt:b<s.heap.objs.size:=b5F q;rw[b5P _ _ _ _ (b5O lt),c0I _ _ _ (b5O lt)];exact q
 refine b5w (b7J ?_ (by rw[b6l];omega));show wpAny _ _ _ _ _ { s with heap:=((s.heap.push (seqObj "list" #[] 0)).update s.heap.objs.size (Obj.mapSeq (·++its.toArray))).push (seqObj "list" its.toArray 0) };generalize (s.heap.push (seqObj "list" #[] 0)).update s.heap.objs.size (Obj.mapSeq (·++its.toArray))=h1 at k1 ⊢;have hoL:(h1.push (seqObj "list" its.toArray 0)).get? h1.objs.size=some (seqObj "list" its.toArray 0):=b5D _ rfl;have k2:∀b o,s.heap.get? b=some o->(h1.push (seqObj "list" its.toArray 0)).get? b=some o:=λb o e=>b5y _ (k1 b o e);have nL:∀b o,h1.get? b=some o->b≠h1.objs.size:=λb o e=>b5O (b5F e);have I1:Inv X pins σ H { s with heap:=h1,toks:=s.toks }:=I.kept k1;have hLn:H h1.objs.size=none:=I1.hok.fresh (b5G _);refine b5w (b6d (b6i b9b ⟨_,hoL,rfl⟩ b8P (a3M (s:={ s with heap:=h1.push (seqObj "list" its.toArray 0) }) hoL (by omega) (by omega) (λi hi=>?_) nd ?_ λh' p c pm srt hL kp=>⟨_,rfl,?_⟩) (c0C _)))
 ·exact(tup i hi).keep2 k2
 ·show X.A.units+1+1+1<cLine;omega
 ·have kh:∀b o,h1.get? b=some o->h'.get? b=some o:=λb o e=>kp b o (nL b o e) (b5y _ e);have lt:∀i∈p.toList,i<ys.length:=λi hi=>by have:=pm.mem i hi;omega
  have pw:=a3e (xs:=ws) (0,[]) pm (by omega);have I2:Inv X pins σ (upd H h1.objs.size (.lst (p.toList.map λi=>ys.getD i .non))) { s with heap:=h',toks:=s.toks }:=I1.laid (t':=s.toks) kh (b5G _) ⟨by rw[b5x,<-b5x (f:=λi=>ws.getD i (0,[])),pw.length_eq,b6l];omega,_,c,Paired.pick rv .non Value.none p.toList lt,hL⟩;have sm:=a0c hLn (.lst (p.toList.map λi=>ys.getD i .non));exact b5A ⟨_,rfl,.ref h1.objs.size,_,I2,rfl,q _ _ _ (p.toList.map λi=>ws.getD i (0,[])) sm hLn a0b (Paired.pick (Paired.mapP hw λ_ _ q=>RPw.same sm q) .non (0,[]) p.toList lt) pw srt⟩
end L2
namespace L2
open PySem PySem.Spec PyProof.Rows
section
variable {X:Cx} {elt iter:Expr} {tg:Str} {tp:Pos} {cs:List Expr} {scope:Scope} {pos:Pos} {tc:TT} {te:TE} {M:List Str}
theorem b1H {tl:TE} {pos1 spos:Pos} {i:Nat} {x:Str} (hN:X.N.Nodup) (hix:X.N[i]?=some x) (hx:X.env.scope.names.lookup x=some .local) (hc:X.calm=true) (S:a0s scope X.env X.N M) (nd:(tg::M).Nodup) (hl:scope.names.lookup tg=some .local) (hi:PE X iter tl) (mo:a1u tl)
  (hin:a6b X scope tg M cs elt tc te) (hw:swapsWith (.ListComp elt [⟨.Name tg tp,iter,cs,0⟩] scope pos) (some (.Name x pos1)) spos.line X.env=pure true:=by rfl) (hf:∀x,foldedSetIterable iter X.env x=pure x:=by intro _;rfl) :
  PS X (.Assign [.Name x pos1] (.ListComp elt [⟨.Name tg tp,iter,cs,0⟩] scope pos) spos) (b5r (b2W X.K tl tc te) (a1J i)):=by
 refine b1x hc S nd hl (a2c hi) hin (λσ H Q h=>?_) hN hix hx hw hf;refine mo σ H _ _ (λv H1 q=>?_) h;obtain⟨a,xs,e,j1,q⟩:=q;refine⟨a,e,⟨xs,j1⟩,λd hd=>?_⟩;obtain⟨Pv,h0,hl,hs,hd⟩:=q d hd;exact a3c (k:=1) (g:=a1J 0) Pv h0 hl hs hd
end
def turnP (K:PySem.W.Frag) (tc:TT) (te:TE) (σ:St) (d:Addr) (z:V) (H:Hp) (Z:Hp->Prop):Prop:=∃a x y,z=.ref a/\SqT K H a [x,y]/\a9p tc te σ d x y H Z
def tCompP (K:PySem.W.Frag) (tl:TE) (tc:TT) (te:TE):TE:=λσ H Q=>tl σ H λv H1=>∃a xs,v=.ref a/\SqL K H1 a xs/\∀d,H1 d=none ->
 ∃Pv:Nat->Hp->Prop,Pv 0 (upd H1 d (.lst []))/\(∀i H,i<=xs.length->Pv i H->SqL K H a xs)/\(∀i x H,xs[i]?=some x->Pv i H->turnP K tc te σ d x H (Pv (i+1)))/\∀H,Pv xs.length H->Q (.ref d) H
theorem b1I {X:Cx} (K:PySem.W.Frag) {elt iter:Expr} {t1 t2:Str} {p1 p2 tp pos:Pos} {k:Nat} {cs:List Expr} {scope:Scope} {tc:TT} {te tl:TE} {M:List Str} (hc:X.calm=true) (S:a0s scope X.env X.N M) (nd:(t1::t2::M).Nodup) (hl1:scope.names.lookup t1=some .local) (hl2:scope.names.lookup t2=some .local)
  (hi:PE X iter tl) (mo:a1u tl)
  (hin:∀(cl:List (Str × Addr)) (C:Addr) (s0:Shared) (H0:Hp) (fp:List Addr) (pins:List (Addr × Obj)) (σ:St),Back X (cxC X scope cl C s0 H0 fp (t1::t2::M)) pins σ fp C s0 H0->PTs (cxC X scope cl C s0 H0 fp (t1::t2::M)) cs tc/\PE (cxC X scope cl C s0 H0 fp (t1::t2::M)) elt te)
  (hf:∀x,foldedSetIterable iter X.env x=pure x:=by intro _;rfl) (hK:X.K=K:=by rfl) :
  PE X (.ListComp elt [⟨.Tuple [.Name t1 p1,.Name t2 p2] k tp,iter,cs,0⟩] scope pos) (tCompP K tl tc te):=by
 subst hK;have hx1:(relabel scope X.env).names.lookup t1=some .local:=by rw[a0z,hl1];rfl
 have hx2:(relabel scope X.env).names.lookup t2=some .local:=by rw[a0z,hl2];rfl
 refine PE.imp (a6V (xs:=[t1,t2]) (M:=M) (g:=a8d X.K) hc S (a2c hi) (λcl C s0 H0 fp pins σ bk=>⟨b2P hc (a2I (a2b (i:=0) nd rfl (Or.inl hx1) (Or.inr hx1)) (a2I (a2b (i:=1) nd rfl (Or.inl hx2) (Or.inr hx2)) a8J)),hin cl C s0 H0 fp pins σ bk⟩) (λv σ H Q h=>a5m h) hf) (λσ H Q h=>?_);refine mo σ H _ _ (λv H1 q=>?_) h;obtain⟨a,xs,e,j1,q⟩:=q;refine⟨a,e,⟨xs,j1⟩,λd hd=>?_⟩;obtain⟨Pv,h0,hl,hs,hd⟩:=q d hd;refine a3c (k:=2) (g:=a8d X.K) Pv h0 hl (λi x H hx hP=>?_) hd;obtain⟨b,y,z,rfl,hq,h⟩:=hs i x H hx hP;exact⟨b,[y,z],rfl,hq,rfl,y,[z],rfl,z,[],rfl,rfl,h⟩
section
variable {P:Program} {w:World} {A:Around} {H:Hp} {s:Shared} {n:Nat} {α β γ:Type} [DecidableEq α] [DecidableEq β] [DecidableEq γ]
def RTwo {α β:Type} (H:Hp) (R1:V->α->Prop) (R2:V->β->Prop) (x:V) (p:α × β):Prop:=∃a y z,x=.ref a/\H a=some (.tup [y,z])/\R1 y p.1/\R2 z p.2
def RThr {α β γ:Type} (H:Hp) (R1:V->α->Prop) (R2:V->β->Prop) (R3:V->γ->Prop) (x:V) (p:α × β × γ):Prop:=∃a y z t,x=.ref a/\H a=some (.tup [y,z,t])/\R1 y p.1/\R2 z p.2.1/\R3 t p.2.2
variable {R1:V->α->Prop} {R2:V->β->Prop} {R3:V->γ->Prop}
end
def srt (ns:List Int):List Int:=ns.mergeSort λa b=>decide (a<=b)
theorem a0v (ns:List Int):(srt ns).Perm ns:=List.mergeSort_perm ns _
theorem a0V (ns:List Int):(srt ns).Pairwise (·<=·):=by
 have h:=List.pairwise_mergeSort (le:=λa b:Int=>decide (a<=b)) (λa b c h1 h2=>by simp at *;omega) (λa b=>by simp;omega) ns;exact h.imp λh=>by simpa using h
theorem a0P (ns:List Int):(srt ns).length=ns.length:=(a0v ns).length_eq
theorem a5p {a b:List Int} (h:a.Perm b) (h1:a.Pairwise (·<=·)) (h2:b.Pairwise (·<=·)):a=b:=h.eq_of_pairwise (λx y _ _ h3 h4=>by omega) h1 h2
theorem a3f {ns ms:List Int} (h:ms.Perm ns) (h1:ms.Pairwise (·<=·)):ms=srt ns:=a5p (h.trans (a0v ns).symm) h1 (a0V ns)
theorem a1R {ns ms:List Int} (h:ms.Perm ns):srt ms=srt ns:=a3f ((a0v ms).trans h) (a0V ms)
def SqI (H:Hp) (a:Addr) (ns:List Int):Prop:=H a=some (.lst (ns.map V.int))\/H a=some (.tup (ns.map V.int))
def b3d:List V->Hp->VK->Prop:=λxs H Q=>∃(a:Addr) (ns:List Int),xs=[.ref a]/\SqI H a ns/\ns.length<64/\∀p H',a0m H H'->H p=none->H' p=some (.lst ((srt ns).map V.int))->Q (.ref p) H'
theorem a1c {ns:List Int} {us:List Value} (r:a0w (ns.map V.int) us):IntsAre us ns:=by
 induction ns generalizing us with
 | nil=>cases r;exact .nil
 | cons n ns ih =>
  cases r with
  | cons r rr =>
   obtain⟨t,rfl⟩:=r;exact .cons _ _ (ih rr)
theorem a8i {ns:List Int} {us:List Value} (r:IntsAre us ns):a0w (ns.map V.int) us:=by
 induction r with
 | nil=>exact .nil
 | cons n t _ ih=>exact .cons ⟨t,rfl⟩ ih
theorem seq_at {X:Cx} {pins:List (Addr × Obj)} {σ:St} {H:Hp} {s:Shared} (I:Inv X pins σ H s) {a:Addr} {ns:List Int} (h:SqI H a ns):∃(T:String) (o:Obj) (its:List Value) (n:Nat),(T="list"\/T="tuple")/\s.heap.get? a=some o/\o.cls=.type T/\o.data=.seq its.toArray n/\IntsAre its ns:=by
 rcases h with h|h
 ·obtain⟨_,its,n,rv,he⟩:=(show a0B X.prog X.w H s.heap a (.lst (ns.map V.int)) from I.hok a _ h)
  exact⟨"list",_,its,n,.inl rfl,he,rfl,rfl,a1c rv⟩
 ·obtain⟨_,its,rv,⟨o,ho,hcl,n,hd⟩⟩:=a1p ((show a0B X.prog X.w H s.heap a (.tup (ns.map V.int)) from I.hok a _ h));exact⟨"tuple",o,its,n,.inr rfl,ho,hcl,hd,a1c rv⟩
theorem a0W {vs:List Value} {ns:List Int} (h:IntsAre vs ns):vs.length=ns.length:=by
 induction h with
 | nil=>rfl
 | cons n t _ ih=>simp[ih]
theorem a4p {X:Cx}:a2w X (.builtin "sorted") b3d:=by
 intro pins s σ H xs us Q I r h;obtain⟨a,ns,rfl,e,h64,q⟩:=h;obtain⟨u,rfl,rx⟩:=a1Z r;cases rx;obtain⟨T,o,its,n,hT,ho,hcl,hdat,hI⟩:=seq_at I e;have li:=a0W hI;refine b8j c0p b9M b9N (args_sorted1 _) ?_;unfold Builtin.«sorted»;refine b5w (m:=checkCount "sorted" 1 1 _) (b5A ?_);refine b5w (wpAny_collect_seq a hT ho hcl hdat (λh1 k1=>?_) (by rw[b5I,b6l];omega));show wpAny _ _ _ _ _ { s with heap:=h1 };refine b5w (b7J ?_ (by show its.length<=sizeLine;rw[b6l];omega));show wpAny _ _ _ _ _ { s with heap:=h1.push (seqObj "list" its.toArray 0) };have hoL:(h1.push (seqObj "list" its.toArray 0)).get? h1.objs.size=some (seqObj "list" its.toArray 0):=b5D _ rfl;have nL:∀b o,h1.get? b=some o->b≠h1.objs.size:=λb o e=>b5O (b5F e);have I1:Inv X pins σ H { s with heap:=h1,toks:=s.toks }:=I.kept k1;have hLn:H h1.objs.size=none:=I1.hok.fresh (b5G _);refine b5w (b6d (b6i b9b ⟨_,hoL,rfl⟩ b8P (list_sort_tree (s:={ s with heap:=h1.push (seqObj "list" its.toArray 0) }) hoL hI (by omega) λout ns' ho' pm srt'=>⟨_,rfl,?_⟩) (c0C _)));have es:ns'=srt ns:=a3f pm srt';subst es;have lo:out.toList.length=ns.length:=by rw[a0W ho',a0P]
 have hp:∃c,(sortedHeap (h1.push (seqObj "list" its.toArray 0)) h1.objs.size its out).get? h1.objs.size=some { cls:=.type "list",data:=.seq out.toList.toArray c }:=by
  unfold sortedHeap;have z1:=b7f hoL (λ_=>#[]);have z2:=b5y (seqObj "tuple" its.toArray 0) z1;have z3:=b5y (seqObj "list" #[] 0) z2;have z4:=b7f z3 (λ_=>out);exact⟨_,z4⟩
 obtain⟨c,hp⟩:=hp;have kh:∀b o,h1.get? b=some o->(sortedHeap (h1.push (seqObj "list" its.toArray 0)) h1.objs.size its out).get? b=some o:=λb o e=>by
  have ne:=nL b o e;unfold sortedHeap;rw[b5P _ _ _ _ ne];refine b5y _ (b5y _ ?_);rw[b5P _ _ _ _ ne];exact b5y _ e
 have I2:Inv X pins σ (upd H h1.objs.size (.lst ((srt ns).map V.int))) { s with heap:=sortedHeap (h1.push (seqObj "list" its.toArray 0)) h1.objs.size its out,toks:=s.toks }:=I1.laid (t':=s.toks) kh (b5G _) ⟨by rw[b5x,a0P,b6l];omega,_,c,a8i ho',hp⟩;have sm:=a0c hLn (.lst ((srt ns).map V.int));exact b5A ⟨_,rfl,.ref h1.objs.size,_,I2,rfl,q _ _ sm hLn a0b⟩
theorem a7i {ns:List Int} {m:Int} (h:m∈ns) (h1:∀x∈ns,m<=x):(srt ns).headD 0=m:=by
 have p:=a0v ns;have r:=a0V ns;cases e:srt ns with
 | nil =>
  rw[e] at p;have:=p.symm.mem_iff.mp h;cases this
 | cons a t =>
  rw[e] at p r;have ha:m<=a:=h1 a (p.mem_iff.mp (.head _));have hm:m∈a::t:=p.symm.mem_iff.mp h;show a=m;cases hm with
  | head=>rfl
  | tail _ hm =>
   have:=(b6E.mp r).1 m hm;omega
def rMinI:List V->Hp->VK->Prop:=λxs H Q=>∃(a:Addr) (ns:List Int),xs=[.ref a]/\SqI H a ns/\ns≠[]/\Q (.int ((srt ns).headD 0)) H
theorem a4q {its:List Value} {ns:List Int} (hI:IntsAre its ns) (ne:ns≠[]) {v:Value} (h:its.toArray[argBest (λi j=>decide (ns.getD i 0<ns.getD j 0)) (its.toArray.size-1)]?=some v):∃t,v=.int ((srt ns).headD 0) t:=by
 have li:=a0W hI;have hb:=argBest_lt (λi=>ns.getD i 0) (its.toArray.size-1);have ez:its.toArray.size=its.length:=b5I;have n0:0<ns.length:=b6P.mpr ne;have hv:its[argBest (λi j=>decide (ns.getD i 0<ns.getD j 0)) (its.toArray.size-1)]?=some v:=by simpa using h
 obtain⟨t,e⟩:=hI.int_at _ v hv;refine⟨t,?_⟩;rw[e];congr 1;refine(a7i ?_ λx hx=>?_).symm
 ·rw[b5B,b5z (by have:=hb.1;omega)];exact b7t _
 ·obtain⟨j,hj⟩:=b6J.mp hx;have jl:=(b5E.mp hj).1;have:=hb.2 j (by omega);rw[show ns.getD j 0=x by rw[b5B,hj];rfl] at this;exact this
theorem a5q {X:Cx} (hc:X.calm=true):a2w X (.builtin "min") rMinI:=by
 intro pins s σ H xs us Q I r h;obtain⟨a,ns,rfl,e,ne,q⟩:=h;obtain⟨u,rfl,ru⟩:=a1Z r;cases ru;have n0:0<ns.length:=b6P.mpr ne;rcases e with e|e
 ·obtain⟨_,its,n,rv,he⟩:=(show a0B X.prog X.w H s.heap a (.lst (ns.map V.int)) from I.hok a _ e)
  have hI:=a1c rv;have li:=a0W hI;have hlt:=b5F he;refine call_min_walk (b7v (a1t he) ?_);refine⟨s.heap.objs.size,_,_,_,_,_,λi j=>decide (ns.getD i 0<ns.getD j 0),rfl,c0k (A:=X.A.in1) (by show X.A.handled=none;exact I.ok.hd hc) s.heap.objs.size a (b5O hlt) its.toArray,⟨⟨_,b5D _ rfl,rfl,rfl⟩,a1t (b5y _ he)⟩,?_,by rw[b5I];omega,c0e _ (λi v hv=>hI.int_at i v (by simpa using hv)),λv h' tk hv hk=>?_⟩
  ·intro b hb;have hp:(s.heap.push { cls:=.type "list_iterator",data:=.fields #[.ref a,rawInt 0] }).objs.size=s.heap.objs.size+1:=b6h _ _;simp only[b5Q,b6L,b8K] at hb;show b<(s.heap.push _).objs.size;rw[b6h];rcases hb with rfl|rfl
   ·exact b7T _
   ·exact c0M hlt
  ·obtain⟨t,rfl⟩:=a4q hI ne hv;exact⟨.int _,H,I.kept (h':=h') (t':=tk) (λb o eo=>hk b o (by simp;exact b5O (b5F eo)) (b5y _ eo)),⟨t,rfl⟩,q⟩
 ·obtain⟨_,its,rv,ht⟩:=a1p ((show a0B X.prog X.w H s.heap a (.tup (ns.map V.int)) from I.hok a _ e));have hI:=a1c rv;have li:=a0W hI;have hlt:a<s.heap.objs.size:=by obtain⟨o,ho,_⟩:=ht;exact b5F ho
  refine call_min_walk (c0u ht ?_);refine⟨s.heap.objs.size,_,_,_,_,_,λi j=>decide (ns.getD i 0<ns.getD j 0),rfl,Walks.tuple (A:=X.A.in1) (by show X.A.handled=none;exact I.ok.hd hc) s.heap.objs.size a (b5O hlt) its.toArray,⟨⟨_,b5D _ rfl,rfl,rfl⟩,by obtain⟨o,ho,r⟩:=ht;exact⟨o,b5y _ ho,r⟩⟩,?_,by rw[b5I];omega,c0e _ (λi v hv=>hI.int_at i v (by simpa using hv)),λv h' tk hv hk=>?_⟩
  ·intro b hb;simp only[b5Q,b6L,b8K] at hb;show b<(s.heap.push _).objs.size;rw[b6h];rcases hb with rfl|rfl
   ·exact b7T _
   ·exact c0M hlt
  ·obtain⟨t,rfl⟩:=a4q hI ne hv;exact⟨.int _,H,I.kept (h':=h') (t':=tk) (λb o eo=>hk b o (by simp;exact b5O (b5F eo)) (b5y _ eo)),⟨t,rfl⟩,q⟩
theorem a5r:bootBuiltins "min"=some (.builtin "min"):=by decide +kernel
theorem a1g:bootBuiltins "sorted"=some (.builtin "sorted"):=by decide +kernel
theorem mo_srt {ta:TA} (h1:a5h ta):a1u (tCB b3d ta):=λσ H Q Q' h q=>h1 σ H _ _ (λvs H1 ⟨a,ns,e,s,l,q1⟩=>⟨a,ns,e,s,l,λp H' sm hn hp=>h _ _ (q1 p H' sm hn hp)⟩) q
def TK (H H':Hp):Prop:=∀a xs,H a=some (.tup xs)->H' a=some (.tup xs)
theorem TK.of {H H':Hp} (s:a0m H H'):TK H H':=λa xs e=>s _ _ e
theorem TK.upd {H:Hp} {l:Addr} {ys:List V} {o:HO} (h:H l=some (.lst ys)):TK H (L2.upd H l o):=λa xs e=>by
 rw[a0h (λz=>by rw[z,h] at e;cases e)];exact e
theorem TK.trans {H H1 H2:Hp} (h:TK H H1) (h2:TK H1 H2):TK H H2:=λa xs e=>h2 a xs (h a xs e)
theorem b2U.tk {H H':Hp} {x:V} {ns:List Int} (k:TK H H') (h:b2U H a8E x ns):b2U H' a8E x ns:=by
 obtain⟨a,xs,rfl,e,p⟩:=h;exact⟨a,xs,rfl,k _ _ e,p⟩
abbrev a6e (H:Hp):V->Int × List Int->Prop:=RTwo H a8E (b2U H a8E)
abbrev a3E (H:Hp):V->Int × Int × (Int × List Int)->Prop:=RThr H a8E a8E (a6e H)
theorem a6e.tk {H H':Hp} {x:V} {p:Int × List Int} (k:TK H H') (h:a6e H x p):a6e H' x p:=by
 obtain⟨a,y,z,rfl,e,h1,h2⟩:=h;exact⟨a,y,z,rfl,k _ _ e,h1,b2U.tk k h2⟩
theorem a3E.tk {H H':Hp} {x:V} {p:Int × Int × (Int × List Int)} (k:TK H H') (h:a3E H x p):a3E H' x p:=by
 obtain⟨a,y,z,t,rfl,e,h1,h2,h3⟩:=h;exact⟨a,y,z,t,rfl,k _ _ e,h1,h2,a6e.tk k h3⟩
abbrev Mvs (H:Hp) (xs:List V) (ms:List (Int × Int × (Int × List Int))):Prop:=Paired (a3E H) xs ms
theorem Mvs.tk {H H':Hp} {xs:List V} {ms:List (Int × Int × (Int × List Int))} (k:TK H H') (h:Mvs H xs ms):Mvs H' xs ms:=Paired.mapP h λ_ _ q=>a3E.tk k q
section
variable {prog:Program} {w:World} {A:Around} {R:Result->Shared->Prop} {I:Addr} {fp wr:List Addr} {n:Nat} {P:Nat->Value->Prop} {St:Nat->Heap->Prop}
abbrev kwD (d:Value):List (Str × Value):=[(Str.ofString "default",d)]
theorem b4i (W:Walks prog w A.in1 I fp wr n P St) (bt:Nat->Nat->Bool) (C:CmpOf prog w A.in1 .Lt P bt) (S:Addr) (hS:S∉fp) (d:Value) :
  ∀(k j:Nat) (s:Shared) (vb:Value) (c:Nat),n-(j+1)=k->j+1<=n->St (j+1) s.heap->P (argBest bt j) vb->s.heap.get? S=some { cls:=.type "list",data:=.seq #[vb,vb] c } ->
   (∀(v:Value) (h':Heap) (tk:Nat),P (argBest bt (n-1)) v->(∀(b:Addr) (o:Obj),b∉wr->b≠S->s.heap.get? b=some o->h'.get? b=some o)->R (.ok (.ret v)) { s with heap:=h',toks:=tk }) ->
   codeAny (model prog w) A (.builtin "min.loop" ⟨[.ref I,.none,.ref S],kwD d⟩) R s:=by
 intro k
 induction k with
 | zero =>
  intro j s vb c hk hj st pv hs q;have ej:j+1=n:=by omega
  refine b6q b8D ?_;rw[b5Z b6M _];show wpAny _ A.in1 (seqItems? (.ref S) >>= _) _ _ s;refine b5w (b6G hs rfl ?_);refine b5w (b7H ?_);subst ej;refine W.done s _ _ st λh' tk hk'=>?_;have hs':=hk' S _ (λz=>hS (W.sub _ z)) hs;show wpAny _ A.in1 (updateSeq S _ >>= _) _ _ _;refine b5w (b7r hs' rfl ?_);refine b5w (b7U ?_);refine b5A ?_;refine q vb _ tk pv λb o hb hne e=>?_;rw[b5P _ _ _ _ hne];exact hk' b o hb e
 | succ k ih =>
  intro j s vb c hk hj st pv hs q;have hlt:j+1<n:=by omega
  refine b6q b8D ?_;rw[b5Z b6M _];show wpAny _ A.in1 (seqItems? (.ref S) >>= _) _ _ s;refine b5w (b6G hs rfl ?_);refine b5w (b7H ?_);refine W.item (j+1) s _ _ hlt st λv h' tk hv st' hk'=>?_;have hs':=hk' S _ (λz=>hS (W.sub _ z)) hs;show wpAny _ A.in1 (tryCatch (holding [v,v] (richCompare .Lt v vb >>= _)) _ >>= _) _ _ _;refine b5w (b7H (b6d (b5w ?_)));refine C (j+1) (argBest bt j) v vb _ _ _ hv pv ?_;refine b5w (b6d (b7E ?_));refine b5w (b7U (b5A ?_));have eb:argBest bt (j+1)=if bt (j+1) (argBest bt j)=true then j+1 else argBest bt j:=rfl
  cases hb:bt (j+1) (argBest bt j) with
  | true =>
   rw[hb,if_pos rfl] at eb;show wpAny _ A.in1 (updateSeq S _ >>= _) _ _ _;refine b5w (b7r hs' rfl ?_);refine b5w (b7U ?_);refine b5A ⟨b6D b6M _,?_⟩;have hs2:=b7f (c:="list") hs' (λ_=>#[v,v]);refine ih (j+1) _ v _ (by omega) (by omega) ?_ (by rw[eb];exact hv) hs2 λv2 h2 tk2 hv2 hk2=>?_
   ·refine W.frame (j+2) h' _ st' λb hb2 o e=>?_;rw[b5P _ _ _ _ (λz=>hS (by rw[<-z];exact hb2))];exact e
   ·refine q v2 h2 tk2 hv2 λb o hb2 hne e=>hk2 b o hb2 hne ?_;rw[b5P _ _ _ _ hne];exact hk' b o hb2 e
  | false =>
   rw[hb,if_neg (by decide)] at eb;show wpAny _ A.in1 (letGo _ _ >>= _) _ _ _;refine b5w (b7U ?_);refine b5A ⟨b6D b6M _,?_⟩;exact ih (j+1) _ vb c (by omega) (by omega) st' (by rw[eb];exact pv) hs' λv2 h2 tk2 hv2 hk2=>q v2 h2 tk2 hv2 λb o hb2 hne e=>hk2 b o hb2 hne (hk' b o hb2 e)
theorem a3N (W:Walks prog w A.in1 I fp wr n P St) (bt:Nat->Nat->Bool) (C:CmpOf prog w A.in1 .Lt P bt) (S:Addr) (hS:S∉fp) (d:Value) {s:Shared} {c:Nat} (st:St 0 s.heap) (hs:s.heap.get? S=some { cls:=.type "list",data:=.seq #[] c })
  (q0:n=0->∀(h':Heap) (tk:Nat),(∀(b:Addr) (o:Obj),b∉wr->b≠S->s.heap.get? b=some o->h'.get? b=some o)->R (.ok (.ret d)) { s with heap:=h',toks:=tk })
  (q:0<n->∀(v:Value) (h':Heap) (tk:Nat),P (argBest bt (n-1)) v->(∀(b:Addr) (o:Obj),b∉wr->b≠S->s.heap.get? b=some o->h'.get? b=some o)->R (.ok (.ret v)) { s with heap:=h',toks:=tk }) :
  codeAny (model prog w) A (.builtin "min.loop" ⟨[.ref I,.none,.ref S],kwD d⟩) R s:=by
 refine b6q b8D ?_;rw[b5Z b6M _];show wpAny _ A.in1 (seqItems? (.ref S) >>= _) _ _ s;refine b5w (b6G hs rfl ?_);refine b5w (b7H ?_);by_cases n0:n=0
 ·subst n0;refine W.done s _ _ st λh' tk hk'=>?_;show wpAny _ A.in1 (rule _ >>= _) _ _ _;refine b5w (b7K (b5A ?_));exact q0 rfl h' tk λb o hb _ e=>hk' b o hb e
 ·have hlt:0<n:=by omega
  refine W.item 0 s _ _ hlt st λv h' tk hv st' hk'=>?_;have hs':=hk' S _ (λz=>hS (W.sub _ z)) hs;show wpAny _ A.in1 (updateSeq S _ >>= _) _ _ _;refine b5w (b7r hs' rfl ?_);refine b5A ⟨b6D b6M _,?_⟩;have hs2:=b7f (c:="list") hs' (λ_=>#[v,v]);refine b4i W bt C S hS d (n-1) 0 _ v _ rfl hlt ?_ hv hs2 λv2 h2 tk2 hv2 hk2=>?_
  ·refine W.frame 1 h' _ st' λb hb2 o e=>?_;rw[b5P _ _ _ _ (λz=>hS (by rw[<-z];exact hb2))];exact e
  ·refine q hlt v2 h2 tk2 hv2 λb o hb2 hne e=>hk2 b o hb2 hne ?_;rw[b5P _ _ _ _ hne];exact hk' b o hb2 e
end
def rMinD (xs zs:List V) (H:Hp) (Q:VK):Prop:=∃(a:Addr) (ns:List Int),xs=[.ref a]/\zs=[.non]/\H a=some (.lst (ns.map V.int))/\Q (if ns=[] then .non else .int ((srt ns).headD 0)) H
theorem a5s (a d:Value):argsOk "min" { pos:=[a],kw:=kwD d }:=rfl
theorem b1J {X:Cx} (hc:X.calm=true) {pins:List (Addr × Obj)} {s:Shared} {σ:St} {H:Hp} {vs zs:List V} {us ws:List Value} {Q:VK} (I:Inv X pins σ H s) (r:a0w vs us) (rz:a0w zs ws) (h:rMinD vs zs H Q) :
  wpAny (model X.prog X.w) X.A (call (.builtin "min") us (([Str.ofString "default"]:List Str).zip ws)) (EP X pins σ Q) X.xe s:=by
 obtain⟨a,ns,rfl,rfl,e,q⟩:=h;obtain⟨u,rfl,ru⟩:=a1Z r;obtain⟨d,rfl,rd⟩:=a1Z rz;cases ru;cases rd;obtain⟨_,its,n,rv,he⟩:=(show a0B X.prog X.w H s.heap a (.lst (ns.map V.int)) from I.hok a _ e)
 have hI:=a1c rv;have li:=a0W hI;have hlt:=b5F he;show wpAny _ _ (call (.builtin "min") [.ref a] (kwD .none)) _ _ _;refine kmb_tree F.kind_min F.plain_min F.entry_min (a5s _ _) ?_;have eB:Builtin.Builtins.bindParams "min" ["key","default"] 0 { kw:=kwD .none }=pure [none,some .none]:=rfl;show wpAny _ X.A.in1 (Builtin.Builtins.bindParams "min" ["key","default"] 0 { kw:=kwD .none } >>= _) _ _ s;rw[eB];show wpAny _ X.A.in1 (pyIter (.ref a) >>= _) _ _ s;refine b5w (b7v (a1t he) ?_);refine b5w (b7J ?_ (b6e _));refine b5A ⟨b6D b6M _,?_⟩;have sz:(s.heap.push { cls:=.type "list_iterator",data:=.fields #[.ref a,rawInt 0] }).objs.size=s.heap.objs.size+1:=b6h _ _;have hS:(s.heap.push { cls:=.type "list_iterator",data:=.fields #[.ref a,rawInt 0] }).objs.size∉[s.heap.objs.size,a]:=λz=>by
  rw[sz] at z;simp only[b5Q,b6L,b8K] at z;rcases z with z|z
  ·exact absurd z (b6o (b7T _))
  ·rw[<-z] at hlt;exact absurd hlt (Nat.not_lt.mpr (b9z _))
 have up:∀b o,s.heap.get? b=some o->((s.heap.push { cls:=.type "list_iterator",data:=.fields #[.ref a,rawInt 0] }).push { cls:=.type "list",data:=.seq (([]:List Value).toArray) }).get? b=some o:=λb o eo=>b5y _ (b5y _ eo);have ne1:∀b o,s.heap.get? b=some o->b∉[s.heap.objs.size]:=λb o eo z=>by
  rw[b5C.mp z] at eo;exact absurd (b5F eo) (b6A _)
 have ne2:∀b o,s.heap.get? b=some o->b≠(s.heap.push { cls:=.type "list_iterator",data:=.fields #[.ref a,rawInt 0] }).objs.size:=λb o eo z=>by
  rw[sz] at z;rw[z] at eo;exact absurd (b5F eo) (Nat.not_lt.mpr (b9z _))
 refine a3N (A:=X.A) (c:=0) (c0k (A:=X.A.in1) (by show X.A.handled=none;exact I.ok.hd hc) s.heap.objs.size a (b5O hlt) its.toArray) (λi j=>decide (ns.getD i 0<ns.getD j 0)) (c0e _ (λi v hv=>hI.int_at i v (by simpa using hv))) _ hS .none
  ⟨⟨_,b5y _ (b5D _ rfl),rfl,rfl⟩,a1t (up _ _ he)⟩ (b5D _ rfl) (λn0 h' tk hk=>?_) (λn0 v h' tk hv hk=>?_)
 ·have e0:ns=[]:=b6g.mp (by rw[<-li];rw[b5I] at n0;exact n0);rw[if_pos e0] at q;exact⟨.non,H,I.kept (h':=h') (t':=tk) (λb o eo=>hk b o (ne1 b o eo) (ne2 b o eo) (up b o eo)),rfl,q⟩
 ·have e0:ns≠[]:=λz=>by
   rw[z] at li;rw[b5I] at n0;simp at li;rw[li] at n0;simp at n0
  rw[if_neg e0] at q;obtain⟨t,rfl⟩:=a4q hI e0 hv;exact⟨.int _,H,I.kept (h':=h') (t':=tk) (λb o eo=>hk b o (ne1 b o eo) (ne2 b o eo) (up b o eo)),⟨t,rfl⟩,q⟩
def tMinD (t tk:TA):TE:=λσ H Q=>t σ H λvs H1=>tk σ H1 λzs H2=>rMinD vs zs H2 Q
theorem b4j {X:Cx} {e e2:Expr} {p pos kpos:Pos} {t tk:TA} (hc:X.calm=true) (hg:Gl X "min") (hm:X.mg "min"=none) (ha:PA X [e] t) (hk:PK X [⟨some "default",e2,kpos⟩] tk) (h1:backTo pos (starEach [e] X.env)=(false,eval e X.env)::backTo pos (starEach [] X.env):=by rfl)
  (h2:((backTo pos (starEach [e] X.env)).any (·.1))=false:=by rfl) (h3:(backToKw pos (keywordEach [⟨some "default",e2,kpos⟩] X.env)).all (·.1.isSome)=true:=by rfl) (h4:(backToKw pos (keywordEach [⟨some "default",e2,kpos⟩] X.env)).any (·.1.isNone)=false:=by rfl) (h5:(backToKw pos (keywordEach [⟨some "default",e2,kpos⟩] X.env)).filterMap (·.1)=[Str.ofString "default"]:=by rfl) :
  PE X (.Call (.Name "min" p) [e] [⟨some "default",e2,kpos⟩] pos) (tMinD t tk):=by
 intro pins s σ H Q I h;refine b6y (a1i I hg hm a5r ?_);refine c0T (thn (ha pos pins s σ H _ I h) λus s1 ⟨vs,H1,I1,r,q⟩=>?_) h1 h2 h3 h4;refine thn (hk pos pins s1 σ H1 _ I1 q) λws s2 ⟨zs,H2,I2,rz,q2⟩=>?_;rw[h5];exact b1J hc I2 r rz q2
def Itr3 (lo st:Int) (n:Nat):It:=⟨λi _=>i<n,λi H x H'=>H'=H/\x=.int (lo+i*st),λi _=>n<=i⟩
theorem a6f {P:Program} {w:World} {K:PySem.W.Frag} {tg:Expr} (it:Addr) (lo st:Int) (n:Nat):b5s P w K tg (Itr3 lo st n) [it] it (λi h=>IsRangeIter h it (lo+(i:Nat)*st) ((n:Int)-(i:Nat)) st) where
 mem:=by simp
 obj:=λi h st b hb=>by
  have e:b=it:=by simpa using hb
  subst e;exact⟨_,st,λv z=>by
   have z':Data.fields _=Data.cell v:=z;cases z'⟩
 keep:=λi h h' st k=>k it (by simp) _ st
 item:=by
  intro X hP hw hK hc i pins s σ H E I hf st0 hg;subst hP hw hK;obtain⟨f0,f1,f2,f3,f4,f5⟩:=hf it (by simp);have W:=Walks.range (prog:=X.prog) (w:=X.w) (I.ok.hd hc) it lo st n;refine W.item i s _ _ hg st0 λv h' tk hv st' kk=>?_;obtain⟨t,rfl⟩:=hv;have I1:Inv X pins σ H { s with heap:=h',toks:=tk }:=I.turned (λb o hb e=>kk b o (by simpa using hb) e) f0 f1 f3 f4 f5;exact⟨_,rfl,b1l (s:={ s with heap:=h',toks:=tk }) (n:="range_iterator") st' rfl rfl (by decide) ⟨.int (lo+i*st),H,I1,⟨t,rfl⟩,⟨rfl,rfl⟩,st',λb hb=>(hf b hb).1⟩⟩
 done:=by
  intro X hP hw hK hc i pins s σ H E I hf st0 hg;subst hP hw hK;obtain⟨f0,f1,f2,f3,f4,f5⟩:=hf it (by simp);exact wpAny_pyNext_range_end (I.ok.hd hc) st0 (by have:n<=i:=hg;omega) λh' eb=>⟨rfl,I.turned (t':=s.toks) (λb o hb e=>eb b o hb e) f0 f1 f3 f4 f5⟩
 self:=λ_ _ _ _ _ st h=>wpAny_pyIter_rangeiter st h
theorem a3O {lo st:Int} {n:Nat} {g:TG} {tb:TS} {D:b1j} {σ:St} {H:Hp} (Pv:Nat->St->Hp->Prop) (h0:Pv 0 σ H) (hs:∀i σ H,i<n->Pv i σ H->g (.int (lo+i*st)) σ H λσ2 H2=>tb { D with nx:=Pv (i+1),ct:=Pv (i+1),bk:=D.nx } σ2 H2) (hd:∀σ H,Pv n σ H->D.nx σ H) :
  ∃W:Nat->Nat->St->Hp->Prop,(∃m,W 0 m σ H)/\∀i m σ H,W i m σ H ->
   ((Itr3 lo st n).stop i H/\D.nx σ H)\/((Itr3 lo st n).go i H/\∃N:St->Hp->Prop,(∀σ' H',N σ' H'->∃m',m'<m/\W (i+1) m' σ' H')/\∀x H',(Itr3 lo st n).yld i H x H'->g x σ H' λσ2 H2=>tb { D with nx:=N,ct:=N,bk:=D.nx } σ2 H2):=by
 refine⟨λi m σ H=>m=n-i/\i<=n/\Pv i σ H,⟨n,by simp,b6e _,h0⟩,?_⟩;rintro i m σ H ⟨rfl,hi,p⟩;by_cases hlt:i<n
 ·refine .inr ⟨hlt,Pv (i+1),λσ' H' q=>⟨n-(i+1),by omega,rfl,by omega,q⟩,?_⟩;rintro v H' ⟨rfl,rfl⟩;exact hs i σ _ hlt p
 ·have e:i=n:=by omega
  subst e;exact .inl ⟨b5G _,hd σ H p⟩
theorem smallD {a:Int} (h1:-1<=a) (h2:a<1000000):Builtin.Range.small a (-1) (-1)=true/\Builtin.Range.rangeSize a (-1) (-1)=a+1:=by
 have z:Builtin.Range.rangeSize a (-1) (-1)=a+1:=by
  unfold Builtin.Range.rangeSize;rw[if_neg (by decide)];have e1:(a - -1-1) / - -1=a:=by
   rw[show(- -1:Int)=1 from rfl,Int.ediv_one];omega
  split
  ·rw[e1]
  ·omega
 refine⟨?_,z⟩;have f:∀i:Int,-2<=i->i<=1000000->Builtin.Range.rangeFitsLong i=true:=λi h3 h4=>by
  unfold Builtin.Range.rangeFitsLong;rw[b6W,b6K,b6K];omega
 unfold Builtin.Range.small;rw[z,f a (by omega) (by omega),f (-1) (by omega) (by omega),f (a+1) (by omega) (by omega),if_neg (by decide),f (-1+(-1+1)) (by omega) (by omega)];simp
def iRngD (ta:TA):TI:=λσ H R=>ta σ H λvs H1=>∃a:Int,vs=[.int a,.int (-1),.int (-1)]/\(-1<=a/\a<1000000)/\R (Itr3 a (-1) (a+1).toNat) H1
theorem a5t {X:Cx} {tg:Expr} {a b c:Expr} {ta:TA} {p pos:Pos} (hg:Gl X "range") (hm:X.mg "range"=none) (ha:PA X [a,b,c] ta) (hs:starEach [a,b,c] X.env=(false,eval a X.env)::starEach [b,c] X.env:=by rfl) (hs2:(backTo pos (starEach [b,c] X.env)).any (·.1)=false:=by rfl) :
  PI X tg (.Call (.Name "range" p) [a,b,c] [] pos) (iRngD ta):=by
 intro pins s σ H R I h;refine Call_ (a1i I hg hm boot_range (b6Y (thn (ha pos pins s σ H _ I h) λus s1 ⟨vs,H1,I1,r1,q1⟩=>?_) hs hs2));obtain⟨i,e,⟨h1,h2⟩,q⟩:=q1;subst e;cases r1 with
 | cons r rr =>
  cases rr with
  | cons r' rr =>
   cases rr with
   | cons r'' rr =>
    cases rr;obtain⟨t,rfl⟩:=r;obtain⟨t',rfl⟩:=r';obtain⟨t'',rfl⟩:=r'';obtain⟨sm,z0⟩:=smallD h1 h2;refine call_range_3 (by decide) ?_ (.inl (PyProof.noPylong_small (by decide)));refine wpAny_pyIter_range (IsRange.new ..) sm ?_;have I2:Inv X pins σ H1 { s1 with heap:=s1.heap.push { cls:=.type "range",data:=.fields #[.int i t,.int (-1) t',.int (-1) t''] },toks:=s1.toks }:=I1.kept λb o e=>b5y _ e;refine⟨_,[_],_,_,H1,rfl,I2.kept (t':=s1.toks) λb o e=>b5y _ e,a6f _ i (-1) (i+1).toNat,?_,λb hb=>?_,q⟩
    ·have e1:i+((0:Nat):Int)*(-1)=i:=by simp
     have e2:((((i+1).toNat:Nat):Int))-((0:Nat):Int)=Builtin.Range.rangeSize i (-1) (-1):=by rw[z0];omega
     show IsRangeIter _ _ (i+((0:Nat):Int)*(-1)) ((((i+1).toNat:Nat):Int)-((0:Nat):Int)) (-1);rw[e1,e2];exact b5D _ rfl
    ·have e:=b5C.mp hb;subst e;exact I2.fpOk (b5G _) (I2.hok.fresh (b5G _))
theorem a8j {n:Nat} {g:Nat->Int} {acc:Array Value} (h:ItemsOf (λi v=>∃t,v=.int (g i) t) acc n):a0w ((List.range n).map λi=>V.int (g i)) acc.toList:=by
 obtain⟨h1,h2⟩:=h;have key:∀k,k<=n->a0w ((List.range k).map λi=>V.int (g i)) (acc.toList.take k):=by
  intro k
  induction k with
  | zero=>intro _;rw[b9I];exact .nil
  | succ k ih =>
   intro hk;have hk':k<acc.toList.length:=by rw[b6a,h1];omega
   rw[b7b,b5H,b6f,b5z hk'];obtain⟨t,ht⟩:=h2 k (acc.toList[k]) (by rw[<-b7F,b5z hk']);refine(ih (by omega)).append ?_;rw[ht];exact .cons ⟨t,rfl⟩ .nil
 have:=key n (b5G _);rw[b7j (by rw[b6a,h1];exact b5G _)] at this;exact this
abbrev exA (a:Addr) (o:Obj):HO:=.ext λh=>h.get? a=some o
abbrev cdA (c:Addr) (q:Str):HO:=.ext λh=>h.CodeRec (.ref c) q
def unt (as:List Addr) (H:Hp):Hp:=λb=>if b∈as then none else H b
def rtk (as:List Addr) (H H':Hp):Hp:=λb=>if b∈as then H b else H' b
theorem a3g {as:List Addr} {H:Hp} {b:Addr} (h:b∈as):unt as H b=none:=if_pos h
theorem a0p {as:List Addr} {H:Hp} {b:Addr} (h:b∉as):unt as H b=H b:=if_neg h
theorem a9A {as:List Addr} {H H':Hp} {b:Addr} (h:b∈as):rtk as H H' b=H b:=if_pos h
theorem a1m {as:List Addr} {H H':Hp} {b:Addr} (h:b∉as):rtk as H H' b=H' b:=if_neg h
def Exs (H:Hp) (as:List Addr):Prop:=∀a∈as,∃o,H a=some (exA a o)
section
variable {P:Program} {w:World} {H H':Hp} {h h':Heap} {as:List Addr} {fs ex:List Addr}
theorem Exs.out (x:Exs H as) {b:Addr} {u:HO} (e:H b=some u) (hn:∀o,u≠exA b o):b∉as:=λz=>by
 obtain⟨o,e'⟩:=x b z;rw[e] at e';exact hn o (b5U e')
theorem HOk.unt (x:HOk P w H h) (e:Exs H as):HOk P w (L2.unt as H) h:=λa o q=>by
 have ne:a∉as:=λz=>by rw[a3g z] at q;cases q
 rw[a0p ne] at q;exact(x a o q).stay (λb u _ r=>r) (λb r=>by rw[a0p (e.out r λo=>by intro z;cases z)];exact r) λb xs r=>by rw[a0p (e.out r λo=>by intro z;cases z)];exact r
theorem a7j {a:Addr} {o:Obj} (e:h.get? a=some o):a0B P w H h a (exA a o):=⟨e,⟨o,e⟩,λh1 h2 e1 k=>k o e1⟩
theorem cdA_ok {c:Addr} {q:Str} (e:h.CodeRec (.ref c) q):a0B P w H h c (cdA c q):=by
 obtain⟨c2,o,vs,t,e1,g,r⟩:=e;cases e1;refine⟨⟨c,o,vs,t,rfl,g,r⟩,⟨o,g⟩,λh1 h2 x k=>?_⟩;obtain⟨c3,o',vs',t',e2,g',r'⟩:=x;cases e2;exact⟨c,o',vs',t',rfl,k _ g',r'⟩
theorem Un.rtk (u:Un fs ex (L2.unt as H) H' h h') (e:Exs H as):Un fs ex H (L2.rtk as H H') h h':=by
 have no:∀{b:Addr},H b=none->b∉as:=λ{b} n z=>by obtain⟨o,q⟩:=e b z;rw[n] at q;cases q
 refine⟨λb o q n hb hx=>u.keep b o q (by rw[a0p (no n)];exact n) hb hx,λb o q n hb hx=>u.slot b o q (by rw[a0p (no n)];exact n) hb hx,λb o q n hx=>?_,u.there,λb xs q=>?_,λb o u' q=>?_,λb ps q=>?_⟩
 ·rw[a1m (no n)];exact u.free b o q (by rw[a0p (no n)];exact n) hx
 ·have ne:=e.out q λo=>by intro z;cases z
  rw[a1m ne];exact u.tups b xs (by rw[a0p ne];exact q)
 ·have ne:=e.out q λo=>by intro z;cases z
  rw[a1m ne];exact u.frzs b o u' (by rw[a0p ne];exact q)
 ·have ne:=e.out q λo=>by intro z;cases z
  rw[a1m ne];exact u.tbls b ps (by rw[a0p ne];exact q)
theorem HOk.rtk (x:HOk P w H' h') (u:Un fs ex (L2.unt as H) H' h h') (x0:HOk P w H h) (e:Exs H as) (nf:∀a∈as,a∉fs/\a∉ex):HOk P w (L2.rtk as H H') h':=λa o q=>by
 have no:∀{b:Addr},b∈as->H' b=none/\∀o,H b=some (exA b o)->h'.get? b=some o:=λ{b} z=>by
  obtain⟨o1,q1⟩:=e b z;have g1:h.get? b=some o1:=(x0 b _ q1).1;refine⟨u.free b o1 g1 (a3g z) (nf b z).2,λo2 q2=>?_⟩;have g2:h.get? b=some o2:=(x0 b _ q2).1;exact u.keep b o2 g2 (a3g z) (nf b z).1 (nf b z).2
 by_cases z:a∈as
 ·rw[a9A z] at q;obtain⟨o1,q1⟩:=e a z;rw[q1] at q;cases q;exact a7j ((no z).2 o1 q1)
 ·rw[a1m z] at q;have st:∀{b:Addr} {y:HO},H' b=some y->b∉as:=λ{b y} r k=>by rw[(no k).1] at r;cases r
  exact(x a o q).stay (λb u _ r=>r) (λb r=>by rw[a1m (st r)];exact r) λb xs r=>by rw[a1m (st r)];exact r
end
def cxL (P:Program) (w:World) (K:PySem.W.Frag) (mg:Str->Option Value) (base:Heap) (N:List Str) (qual:Str) (scope:Scope) (g:Addr) (cd:Value) (cl:List (Str × Addr)) (A:Around) (outer:List Env) (s:Shared) (H:Hp) (xe:Value->Shared->Prop):Cx where
 prog:=P
 w:=w
 K:=K
 mg:=mg
 base:=base
 A:=A.deeper (PySem.W.envX qual scope s.heap.objs.size g cd cl)
 N:=N
 s₀:=s
 H₀:=H
 env:=PySem.W.envX qual scope s.heap.objs.size g cd cl
 outer:=outer
 stack:=PySem.W.envX qual scope s.heap.objs.size g cd cl::outer
 ex:=[]
 calm:=true
 fn:=λ_=>false
 pn:=[]
 xe:=xe
structure a1W (scope:Scope) (ps:List Str) (cl:List (Str × Addr)):Prop where
 kind:scope.kind=.function
 co:scope.isCoroutine=false
 gen:scope.isGenerator=false
 nd:(ps++cl.map (·.1)).Nodup
 par:∀x∈ps,scope.names.lookup x=some .local
 nocell:∀y∈scope.names,y.2≠.cell
 fr:∀y∈scope.names,y.2=.free->y.1∈cl.map (·.1)
 cap:∀x∈cl.map (·.1),scope.names.lookup x=some .free
theorem a3h:∀{cl:List (Str × Addr)} {i:Nat} {x:Str} {c:Addr},(cl.map (·.1)).Nodup->cl[i]?=some (x,c)->cl.lookup x=some c
 | [],_,_,_,_,h=>by simp at h
 | (y,d)::cl,0,x,c,_,h=>by
  have h:y=x/\d=c:=by simpa using h
  obtain⟨rfl,rfl⟩:=h;simp[List.lookup]
 | (y,d)::cl,i+1,x,c,nd,h=>by
  have h:cl[i]?=some (x,c):=by simpa using h
  have ne:x≠y:=λz=>(b7I.mp nd).1 (by rw[<-z];exact b5K.mpr ⟨_,b5M h,rfl⟩);have e:(x==y)=false:=by simpa using ne
  rw[List.lookup,e];exact a3h (b7I.mp nd).2 h
theorem a1S:∀{cl:List (Str × Addr)} {x:Str} {c:Addr},cl.lookup x=some c->∃i:Nat,cl[i]?=some (x,c)
 | [],_,_,h=>by cases h
 | (y,d)::cl,x,c,h=>by
  rw[List.lookup] at h;cases e:(x==y) with
  | true =>
   rw[e] at h;have:d=c:=by simpa using h
   have xy:x=y:=by simpa using e
   exact⟨0,by rw[xy,this];rfl⟩
  | false =>
   rw[e] at h;obtain⟨i,hi⟩:=a1S h;exact⟨i+1,by simpa using hi⟩
theorem a8k {us:List Value}:∀{ps:List Str},ps.Nodup->∀{i:Nat} {x:Str} {u:Value},ps[i]?=some x->us[i]?=some u->(ps.zip us).reverse.lookup x=some u:=by
 induction us with
 | nil=>intro ps _ i x u _ h;simp at h
 | cons v us ih =>
  intro ps nd i x u h1 h2;cases ps with
  | nil=>simp at h1
  | cons p ps =>
   rw[b8h,List.reverse_cons,List.lookup_append];cases i with
   | zero =>
    have e1:p=x:=by simpa using h1
    have e2:v=u:=by simpa using h2
    subst e1 e2;have:(ps.zip us).reverse.lookup p=none:=by
     cases e:(ps.zip us).reverse.lookup p with
     | none=>rfl
     | some y =>
      have:=b7e e;rw[List.mem_reverse] at this;exact absurd (b9q this).1 (b7I.mp nd).1
    rw[this];simp[List.lookup]
   | succ i =>
    rw[ih (b7I.mp nd).2 (by simpa using h1) (by simpa using h2)];rfl
theorem a2p {P:Program} {w:World} {K:PySem.W.Frag} {mg:Str->Option Value} {base:Heap} {k:Nat} {name qual:Str} {params:Arguments} {body:Expr} {scope:Scope} {cl:List (Str × Addr)} {pm ctv:Value} {c' g:Addr} {ps:List Str} {A:Around} {outer:List Env} {s:Shared} {H:Hp} {us:List Value} {vs cvs:List V} {Q:VK} {E:XK}
  (S:a1W scope ps cl) (hr:a1z (k+1) A) (e0:a5W P w K mg base A outer s H) (ho:H g=some (exA g (PySem.W.kla_obj name qual params body scope cl pm c' ctv))) (hc:H c'=some (cdA c' qual)) (nda:(cl.map (·.2)).Nodup)
  (hcl:∀(i:Nat) (x:Str) (c:Addr),cl[i]?=some (x,c)->∃o u v,H c=some (exA c o)/\o.data=.cell (some u)/\cvs[i]?=some v/\a0Q v u) (lcv:cvs.length=cl.length) (r:a0w vs us) (hl:vs.length=ps.length)
  (hb:bindArgs (PySem.W.kla_fn name qual params body scope cl pm (.ref c') ctv) ⟨us,[]⟩=pure (ps.zip us))
  (hbody:∀xe,a1z k (A.deeper (PySem.W.envX qual scope s.heap.objs.size g (.ref c') cl))->∃t,PE (cxL P w K mg base (ps++cl.map (·.1)) qual scope g (.ref c') cl A outer s (unt (cl.map (·.2)) H) xe) body t/\t ((vs++cvs).map some) (unt (cl.map (·.2)) H) λv H'=>(∀a∈cl.map (·.2),H' a=none)->Q v (rtk (cl.map (·.2)) H H')) :
  codeAny (model P w) A (.call (.ref g) ⟨us,[]⟩) (CR CX0 outer P w H s Q E) s:=by
 have lim:s.heap.NoLimit:=e0.mod.nolimit.keeps λb o e=>(e0.bs b o e).1;have eg:s.heap.get? g=some (PySem.W.kla_obj name qual params body scope cl pm c' ctv):=(e0.hok g _ ho).1;have ec:s.heap.CodeRec (.ref c') qual:=(e0.hok c' _ hc).1;have exs:Exs H (cl.map (·.2)):=λa ha=>by
  obtain⟨⟨x,c⟩,hm,rfl⟩:=b5K.mp ha;obtain⟨i,hi⟩:=b6J.mp hm;obtain⟨o,u,v,e1,_⟩:=hcl i x c hi;exact⟨o,e1⟩
 have ndp:ps.Nodup:=(c0N.mp S.nd).1;have ndc:(cl.map (·.1)).Nodup:=(c0N.mp S.nd).2.1;have lus:us.length=ps.length:=by rw[<-r.length,hl]
 refine PySem.W.kla_callFunE hr.depth eg rfl S.co S.gen rfl ec ?_;rw[hb];refine b5A (wpAny_newFunctionEnv S.nocell (λy hy=>S.par y.1 (b9q hy).1) (λh₁ hns hsb=>?_) S.kind);have hk₁:∀b o,s.heap.get? b=some o->h₁.get? b=some o:=λb o e=>hsb.extBut b o (b5O (b5F e)) (b5y _ e);refine⟨lim.keeps hk₁,?_⟩;show codeAny _ _ (.expr body (PySem.W.envX qual scope s.heap.objs.size g (.ref c') cl)) _ _;refine PySem.W.kla_codeExpr ?_;obtain⟨t,ht,hq⟩:=hbody (λe' s'=>wpAny (model P w) (A.deeper (PySem.W.envX qual scope s.heap.objs.size g (.ref c') cl)) (leaving (PySem.W.envX qual scope s.heap.objs.size g (.ref c') cl) e') (λ_ s''=>CR CX0 outer P w H s Q E (.error e') s'') (λe'' s''=>CR CX0 outer P w H s Q E (.error e'') s'') s') (hr.deeper _);have cellAt:∀x c,cl.lookup x=some c->∃(i:Nat) (o:Obj) (u:Value) (v:V),cl[i]?=some (x,c)/\H c=some (exA c o)/\h₁.get? c=some o/\o.data=.cell (some u)/\cvs[i]?=some v/\a0Q v u:=λx c e=>by
  obtain⟨i,hi⟩:=a1S e;obtain⟨o,u,v,e1,e2,e3,e4⟩:=hcl i x c hi;exact⟨i,o,u,v,hi,e1,hk₁ _ _ (e0.hok c _ e1).1,e2,e3,e4⟩
 have memA:∀x c,cl.lookup x=some c->c∈cl.map (·.2):=λx c e=>by
  obtain⟨i,hi⟩:=a1S e;exact b5K.mpr ⟨_,b5M hi,rfl⟩
 have noA:∀b:Addr,b∉([]:List Addr):=λb z=>by cases z
 have utn:∀{b:Addr},H b=none->unt (cl.map (·.2)) H b=none:=λ{b} n=>by
  by_cases z:b∈cl.map (·.2)
  ·exact a3g z
  ·rw[a0p z];exact n
 have I:Inv (cxL P w K mg base (ps++cl.map (·.1)) qual scope g (.ref c') cl A outer s (unt (cl.map (·.2)) H) (λe' s'=>wpAny (model P w) (A.deeper (PySem.W.envX qual scope s.heap.objs.size g (.ref c') cl)) (leaving (PySem.W.envX qual scope s.heap.objs.size g (.ref c') cl) e') (λ_ s''=>CR CX0 outer P w H s Q E (.error e') s'') (λe'' s''=>CR CX0 outer P w H s Q E (.error e'') s'') s')) [] ((vs++cvs).map some) (unt (cl.map (·.2)) H) { s with heap:=h₁,toks:=s.toks+(ps.zip us).length }:=by
  refine⟨⟨e0.mod,S.kind,rfl,rfl,b5G _,λy z c h1 h2=>?_,λy hy=>?_,λy c z h=>(by cases z),λ_=>hr.hd,Around.frames_deeper e0.frames,.inr ⟨rfl,rfl⟩,λb z=>absurd z (noA b),λb o e=>⟨(e0.bs b o e).1,utn (e0.bs b o e).2⟩,e0.bsz,λb _ _=>noA b,λb z=>absurd z (noA b),e0.funs,λb hb=>utn (e0.frf b hb)⟩,
   rfl,e0.bare,Un.kept hk₁,⟨_,hns,λi y v h1 h2 h3=>?_⟩,λy c h=>?_,utn (e0.hok.fresh (b5G _)),λy c h=>a3g (memA y c h),λp hp=>absurd (show p∈([]:List (Addr × Obj)) from hp) (by simp),(e0.hok.unt exs).kept hk₁,?_⟩
  ·obtain⟨i,hi⟩:=a1S (show cl.lookup y=some c from h1);obtain⟨j,hj⟩:=a1S (show cl.lookup z=some c from h2);have e1:(cl.map (·.2))[i]?=some c:=by rw[b5L,hi];rfl
   have e2:(cl.map (·.2))[j]?=some c:=by rw[b5L,hj];rfl
   have il:=(b5E.mp e1).1;have ij:i=j:=(c0K il nda).mp (e1.trans e2.symm);subst ij;rw[hi] at hj;exact b7m Prod.fst (b5U hj)
  ·have hy:scope.names.lookup y=some .cell\/scope.names.lookup y=some .free:=hy;rcases hy with hy|hy
   ·exact absurd rfl (S.nocell _ (b7e hy))
   ·have hm:=S.fr _ (b7e hy) rfl;obtain⟨⟨x,c⟩,hx,e⟩:=b5K.mp hm;have e:x=y:=e;subst e;obtain⟨i,hi⟩:=b6J.mp hx;exact⟨c,a3h ndc hi⟩
  ·have h1:(ps++cl.map (·.1))[i]?=some y:=h1;rw[b5L] at h2;by_cases hi:i<ps.length
   ·rw[b6T hi] at h1;rw[b6T (by omega)] at h2;cases ev:vs[i]? with
    | none=>rw[ev] at h2;cases h2
    | some v' =>
     rw[ev] at h2;have:v'=v:=by simpa using h2
     subst this;obtain⟨u,hu,rv⟩:=r.get ev;exact⟨u,rv,.inl ⟨S.par y (b5M h1),a8k ndp h1 hu⟩⟩
   ·rw[b6w (by omega),b5L] at h1;rw[b6w (by omega)] at h2;cases ec':cl[i-ps.length]? with
    | none=>rw[ec'] at h1;cases h1
    | some q =>
     obtain⟨x,c⟩:=q;rw[ec'] at h1;have:x=y:=by simpa using h1
     subst this;obtain⟨o,u,v',e1,e2,e3,e4⟩:=hcl _ x c ec';rw[hl,e3] at h2;have:v'=v:=by simpa using h2
     subst this;exact⟨u,e4,.inr ⟨.inr (S.cap x (b5K.mpr ⟨_,b5M ec',rfl⟩)),c,a3h ndc ec',o,hk₁ _ _ (e0.hok c _ e1).1,e2⟩⟩
  ·obtain⟨i,o,u,v,_,_,e3,e4,_⟩:=cellAt y c h;exact⟨_,o,e3,e4⟩
  ·show((vs++cvs).map some).length=(ps++cl.map (·.1)).length;rw[b5x,b5J,b5J,b5x,hl,lcv]
 refine b7Y (ht [] _ _ _ _ I hq) (λu s' hs=>?_) λe s' hs=>hs;obtain⟨v,H',J,rv,q⟩:=hs;have nf:∀a∈cl.map (·.2),a∉frs outer/\a∉([]:List Addr):=λa ha=>⟨λz=>(by
  obtain⟨o,e⟩:=exs a ha;rw[e0.frf a z] at e;cases e),noA a⟩
 have un:Un (frs outer) [] (unt (cl.map (·.2)) H) H' s.heap s'.heap:=J.base;exact⟨v,rtk (cl.map (·.2)) H H',J.os,J.bare,un.rtk exs,HOk.rtk J.hok un e0.hok exs nf,rv,q λa ha=>(by
  obtain⟨o,e⟩:=exs a ha;exact un.free a o (e0.hok a _ e).1 (a3g ha) (noA a))⟩
structure a3F (P:Program) (w:World) (K:PySem.W.Frag) (mg:Str->Option Value) (base:Heap) (k:Nat) (R:Addr->List V->Hp->VK->Prop):Prop where
 at':∀{g:Addr} {vs:List V} {H:Hp} {Q:VK},R g vs H Q->∃oc od fd sl,H g=some (exA g ⟨oc,od,.func fd,sl⟩)
 run:∀(A:Around) (outer:List Env) (s:Shared) (H:Hp) (g:Addr) (us:List Value) (vs:List V) (Q:VK),a1z k A->a5W P w K mg base A outer s H->a0w vs us->R g vs H Q->codeAny (model P w) A (.call (.ref g) ⟨us,[]⟩) (CR CX0 outer P w H s Q E0) s
def tCallV (i:Nat) (R:Addr->List V->Hp->VK->Prop) (t:TA):TE:=λσ H Q=>∃g oc od fd sl,σ[i]?=some (some (.ref g))/\H g=some (exA g ⟨oc,od,.func fd,sl⟩)/\t σ H λvs H1=>R g vs H1 Q
theorem b1K {X:Cx} {i k:Nat} {x:Str} {R:Addr->List V->Hp->VK->Prop} {e:Expr} {es:List Expr} {t:TA} {p pos:Pos} (L:a3F X.prog X.w X.K X.mg X.base k R) (hr:a1z k X.A) (hN:X.N[i]?=some x) (hv:Vis X.env.scope x) (ha:PA X (e::es) t)
  (hd:(x==("__debug__":Str))=false:=by decide) (hcd:(x==("__classdict__":Str))=false:=by decide) (he:starEach (e::es) X.env=(false,eval e X.env)::starEach es X.env:=by rfl) (hpl:(backTo pos (starEach es X.env)).any (·.1)=false:=by rfl) :
  PE X (.Call (.Name x p) (e::es) [] pos) (tCallV i R t):=by
 intro pins s σ H Q I h;obtain⟨g,oc,od,fd,sl,e1,e2,h⟩:=h;refine b6y (thn ((b2M (pos:=p) hN hv hd hcd) pins s σ H (λv H'=>v=.ref g/\H'=H) I ⟨_,e1,rfl,rfl⟩) λu s1 hu=>?_);obtain⟨v,H',I1,rv,rfl,rfl⟩:=hu;obtain rfl:u=Value.ref g:=rv;refine PySem.W.callWith_F ⟨oc,od,fd,sl,(I1.hok g _ e2).1⟩ (thn (ha pos pins s1 σ H' _ I1 h) λus s2 ⟨vs,H1,I2,r,q⟩=>⟨?_,?_⟩) he hpl
 ·obtain⟨oc',od',fd',sl',e3⟩:=L.at' q;exact⟨oc',od',fd',sl',(I2.hok g _ e3).1⟩
 ·refine c0j (b7y (L.run X.A X.stack s2 H1 g us vs Q hr I2.env0 r q) λr s' hq=>?_);cases r with
  | error e=>exact False.elim hq
  | ok fl =>
   cases fl with
   | ret u=>exact I2.after hq
   | next=>exact False.elim hq
   | brk=>exact False.elim hq
   | cont=>exact False.elim hq
abbrev a1B (lpos:Pos) (c':Addr):Array Value:=#[rawInt lpos.line,rawInt lpos.col,.ref c']
def a1C (H:Hp) (T:Addr) (lpos:Pos) (q:Str):Prop:=H T=some (.tbl #[])\/∃c',H T=some (.tbl (a1B lpos c'))/\H c'=some (cdA c' q)
structure LamH (H H2:Hp) (T:Addr) (lpos:Pos) (q:Str) (c' g:Addr) (o:Obj):Prop where
 tb:H2 T=some (.tbl (a1B lpos c'))
 cd:H2 c'=some (cdA c' q)
 ob:H2 g=some (exA g o)
 ot:∀b u,b≠T->H b=some u->H2 b=some u
 ng:H g=none
 sm:∀c2,H T=some (.tbl (a1B lpos c2))->c2=c'
theorem b4k {lpos:Pos} {c c':Addr} (e:a1B lpos c=a1B lpos c'):c=c':=by
 have h2:=b7m (λz:Array Value=>z[2]?) e;have h3:some (Value.ref c)=some (Value.ref c'):=h2;cases h3;rfl
theorem Un.lam {fs:List Addr} {P:Program} {w:World} {H H3:Hp} {h h3:Heap} {T:Addr} {ps more:Array Value} (hok:HOk P w H h) (k:∀b u,b≠T->h.get? b=some u->h3.get? b=some u) (eT:∃u,h3.get? T=some u) (e:H T=some (.tbl ps)) (e3:H3 T=some (.tbl (ps++more))) (ot:∀b,b<h.objs.size->b≠T->H3 b=H b):Un fs [] H H3 h h3:=by
 have nT:∀{b:Addr},H b=none->b≠T:=λ{b} n z=>by rw[z,e] at n;cases n
 refine⟨λb o q n _ _=>k b o (nT n) q,λb o q n _ _=>⟨o.slots,k b o (nT n) q⟩,λb o q n _=>?_,λb o q _=>?_,λb xs q=>?_,λb o u q=>?_,λb qs q=>?_⟩
 ·rw[ot b (b5F q) (nT n)];exact n
 ·by_cases z:b=T
  ·subst z;exact eT
  ·exact⟨o,k b o z q⟩
 ·rw[ot b (hok.lt q) (a0r q e (by intro z;cases z))];exact q
 ·rw[ot b (hok.lt q) (a0r q e (by intro z;cases z))];exact q
 ·by_cases z:b=T
  ·subst z;rw[e] at q;cases q;exact⟨more,e3⟩
  ·exact⟨#[],by rw[ot b (hok.lt q) z,q];simp⟩
theorem HOk.lam {P:Program} {w:World} {H H3:Hp} {h h3:Heap} {T:Addr} {ps:Array Value} (hok:HOk P w H h) (k:∀b u,b≠T->h.get? b=some u->h3.get? b=some u) (e:H T=some (.tbl ps)) (ot:∀b,b<h.objs.size->b≠T->H3 b=H b) (new:∀a o,H3 a=some o->(a=T\/h.objs.size<=a)->a0B P w H3 h3 a o):HOk P w H3 h3:=λa o q=>by
 by_cases z:a=T
 ·exact new a o q (.inl z)
 by_cases y:h.objs.size<=a
 ·exact new a o q (.inr y)
 have q':H a=some o:=by rw[<-ot a (by omega) z];exact q
 refine(hok a o q').stay (λb u hb r=>k b u ?_ r) (λb r=>?_) λb xs r=>?_
 ·rcases hb with rfl|hb
  ·exact z
  ·exact a0r hb e (by intro z;cases z)
 ·rw[ot b (hok.lt r) (a0r r e (by intro z;cases z))];exact r
 ·rw[ot b (hok.lt r) (a0r r e (by intro z;cases z))];exact r
structure a8l (X:Cx) (c T bm:Addr):Prop where
 code:X.env.code=.ref c
 hd:PySem.W.codeHdIn X.K c T=true
 hbm:X.mg "__builtins__"=some (.ref bm)
 bo:∃o,X.base.get? bm=some o/\o.cls=.type "module"/\o.dict=some builtinsNs/\o.data=.plain
 b1:bm≠builtinsNs
 b2:bm≠mainGlobals
 b3:bm≠T
 b4:mainGlobals≠T
def tLam (T:Addr) (lpos:Pos) (q:Str) (mk:Addr->Value->Value->Obj):TE:=λ_ H Q=>a1C H T lpos q/\∀c' pm ctv g H2,LamH H H2 T lpos q c' g (mk c' pm ctv)->Q (.ref g) H2
theorem a5u {X:Cx} {params:Arguments} {body:Expr} {lscope:Scope} {lpos:Pos} {c T bm:Addr} {clos:List (Str × Addr)} (M:a8l X c T bm) (hcl:closureFor lscope X.env=pure clos) (hdef:defaultsOf params X.env=([],[]):=by rfl) :
  PE X (.Lambda params body lscope lpos) (tLam T lpos (X.env.qual++"<lambda>") λc' pm ctv=>PySem.W.kla_obj "<lambda>" (X.env.qual++"<lambda>") params body lscope clos pm c' ctv):=by
 intro pins s σ H Q I h;obtain⟨tab,h⟩:=h;refine PySem.W.kla_eval hdef ?_;have hg:s.heap.Ns mainGlobals X.mg:=I.mod.glob.keeps I.bk;have C:=PySem.W.codeHd_of_K I.kIn M.hd;obtain⟨ob,lo,l1,l2,l3⟩:=M.bo;have hB:s.heap.BuiltinsAt X.mg T:=⟨bm,ob,M.hbm,M.b1,M.b2,M.b3,I.bk _ _ lo,l1,l2,l3⟩
 rcases tab with e|⟨c',e,ec⟩
 ·have hP:s.heap.get? T=some (PySem.W.tabObj #[]):=I.hok T _ e;refine PySem.W.kla_makeFunction hcl I.ok.glob hg M.code C hP trivial rfl M.b4 hB λc' ctv h' tk hx hge hlt hrec htb=>?_;have ltT:T<s.heap.objs.size:=I.hok.lt e;have gs:s.heap.objs.size<=h'.objs.size:=b6R hge (b7n hlt);have cg:c'≠h'.objs.size:=b5O hlt;have cT:c'≠T:=λz=>b6A _ (b5S ltT (z▸hge));have gT:h'.objs.size≠T:=λz=>b6A _ (b5S ltT (z▸gs));generalize eo:PySem.W.kla_obj "<lambda>" (X.env.qual++"<lambda>") params body lscope clos ((X.mg "__name__").getD .none) c' ctv=o;have hfr:o.isFreed=false:=by rw[<-eo];rfl
  let H3:Hp:=upd (upd (upd H T (.tbl (a1B lpos c'))) c' (cdA c' (X.env.qual++"<lambda>"))) h'.objs.size (exA h'.objs.size o)
  have t3:H3 T=some (.tbl (a1B lpos c')):=by
   show upd _ _ _ T=_;rw[a0h (Ne.symm gT),a0h (Ne.symm cT),a0b]
  have c3:H3 c'=some (cdA c' (X.env.qual++"<lambda>")):=by
   show upd _ _ _ c'=_;rw[a0h cg,a0b]
  have g3:H3 h'.objs.size=some (exA h'.objs.size o):=a0b;have ot:∀b,b<s.heap.objs.size->b≠T->H3 b=H b:=λb hb hT=>by
   show upd _ _ _ b=_;rw[a0h (b5O (b5S hb gs)),a0h (b5O (b5S hb hge)),a0h hT]
  have k3:∀b u,b≠T->s.heap.get? b=some u->(h'.push o).get? b=some u:=λb u hb q=>b5y _ (hx b u hb q);have un:Un X.fs [] H H3 s.heap (h'.push o):=Un.lam (more:=a1B lpos c') I.hok k3 ⟨_,b5y _ htb⟩ e (by rw[t3];simp) ot;have hk3:HOk X.prog X.w H3 (h'.push o):=HOk.lam I.hok k3 e ot λa u q hq=>by
   by_cases z1:a=T
   ·subst z1;rw[t3] at q;cases q;have:(h'.push o).get? a=some (PySem.W.tabObj (#[]++#[rawInt lpos.line,rawInt lpos.col,.ref c'])):=b5y _ htb;show(h'.push o).get? a=some _;simpa using this
   by_cases z2:a=c'
   ·subst z2;rw[c3] at q;cases q;exact cdA_ok (hrec.push _)
   by_cases z3:a=h'.objs.size
   ·subst z3;rw[g3] at q;cases q;exact a7j (b5D _ hfr)
   ·exfalso;rcases hq with y|y
    ·exact z1 y
    ·have:H3 a=H a:=by
      show upd _ _ _ a=_;rw[a0h z3,a0h z2,a0h z1]
     rw[this,I.hok.fresh y] at q;cases q
  refine⟨.ref h'.objs.size,H3,I.un (t':=tk) un hk3,rfl,h c' _ ctv h'.objs.size H3 ⟨t3,c3,by rw[g3,<-eo],λb u hb q=>by rw[ot b (I.hok.lt q) hb];exact q,I.hok.fresh gs,λc2 e2=>by
   rw[e] at e2;have h1:=HO.tbl.inj (b5U e2);have h2:=b7m Array.size h1;cases h2⟩⟩
 ·have hP:s.heap.get? T=some (PySem.W.tabObj (a1B lpos c')):=I.hok T _ e;refine PySem.W.kla_makeFunctionHit (cv:=.ref c') hcl I.ok.glob hg M.code C hP (by exact trivial) (by simp[a1B,codeAmong,rawInt]) hB λctv h' tk hk hsz=>?_;generalize eo:({ cls:=.type "function",data:=.func (PySem.W.kla_fn "<lambda>" (X.env.qual++"<lambda>") params body lscope clos ((X.mg "__name__").getD .none) (.ref c') ctv) }:Obj)=o;have hfr:o.isFreed=false:=by rw[<-eo];rfl
  have ltc:c'<s.heap.objs.size:=I.hok.lt ec;have ltT:T<s.heap.objs.size:=I.hok.lt e;refine⟨.ref h'.objs.size,upd H h'.objs.size (exA h'.objs.size o),I.laid (t':=tk) (λb u q=>b5y _ (hk b u q)) hsz (a7j (b5D _ hfr)),rfl,h c' _ ctv h'.objs.size _ ⟨?_,?_,by rw[a0b,<-eo],λb u hb q=>?_,I.hok.fresh hsz,λc2 e2=>?_⟩⟩
  ·rw[a0h (b5O (b5S ltT hsz))];exact e
  ·rw[a0h (b5O (b5S ltc hsz))];exact ec
  ·rw[a0h (b5O (b5S (I.hok.lt q) hsz))];exact q
  ·rw[e] at e2;exact(b4k (HO.tbl.inj (b5U e2))).symm
def trk' (as:List Addr) (os:Addr->Obj) (H:Hp):Hp:=λb=>if b∈as then some (exA b (os b)) else H b
theorem a5v {as:List Addr} {os:Addr->Obj} {H:Hp} {b:Addr} (h:b∈as):trk' as os H b=some (exA b (os b)):=if_pos h
theorem a0O {as:List Addr} {os:Addr->Obj} {H:Hp} {b:Addr} (h:b∉as):trk' as os H b=H b:=if_neg h
section
variable {P:Program} {w:World} {H H3:Hp} {h h':Heap} {as:List Addr} {os:Addr->Obj} {fs ex:List Addr}
theorem HOk.trk (x:HOk P w H h) (n:∀c∈as,H c=none) (g:∀c∈as,h.get? c=some (os c)):HOk P w (trk' as os H) h:=λa o q=>by
 by_cases z:a∈as
 ·rw[a5v z] at q;cases q;exact a7j (g a z)
 ·rw[a0O z] at q;have no:∀{b:Addr} {y:HO},H b=some y->b∉as:=λ{b y} r k=>by rw[n b k] at r;cases r
  exact(x a o q).stay (λb u _ r=>r) (λb r=>by rw[a0O (no r)];exact r) λb xs r=>by rw[a0O (no r)];exact r
theorem Un.untrk (u:Un fs ex (trk' as os H) H3 h h') (n:∀c∈as,H c=none) (g:∀c∈as,h.get? c=some (os c)) (g3:∀c∈as,h'.get? c=some (os c)):Un fs ex H (unt as H3) h h':=by
 have no:∀{b:Addr} {y:HO},H b=some y->b∉as:=λ{b y} r k=>by rw[n b k] at r;cases r
 refine⟨λb o q nb hb hx=>?_,λb o q nb hb hx=>?_,λb o q nb hx=>?_,λb o q hx=>?_,λb xs q=>?_,λb o u' q=>?_,λb ps q=>?_⟩
 ·by_cases z:b∈as
  ·rw[g b z] at q;cases q;exact g3 b z
  ·exact u.keep b o q (by rw[a0O z];exact nb) hb hx
 ·by_cases z:b∈as
  ·rw[g b z] at q;cases q;exact⟨_,g3 b z⟩
  ·exact u.slot b o q (by rw[a0O z];exact nb) hb hx
 ·by_cases z:b∈as
  ·exact a3g z
  ·rw[a0p z];exact u.free b o q (by rw[a0O z];exact nb) hx
 ·by_cases z:b∈as
  ·exact⟨_,g3 b z⟩
  ·exact u.there b o q hx
 ·rw[a0p (no q)];exact u.tups b xs (by rw[a0O (no q)];exact q)
 ·rw[a0p (no q)];exact u.frzs b o u' (by rw[a0O (no q)];exact q)
 ·rw[a0p (no q)];exact u.tbls b ps (by rw[a0O (no q)];exact q)
end
structure a2h (X:Cx) (cl:List (Str × Addr)):Prop where
 at':∀q∈cl,X.env.cells.lookup q.1=some q.2
 fn:∀q∈cl,X.fn q.1=true
 ki:∀q∈cl,X.env.scope.names.lookup q.1=some .cell
def tCallT (X:Cx) (cl:List (Str × Addr)) (sp:Sp) (t:TA):TE:=λσ H Q=>t σ H λvs H1=>∀os:Addr->Obj,(∀(j i:Nat) (n:Str) (c:Addr) (v:V),cl[j]?=some (n,c)->X.N[i]?=some n->σ[i]?=some (some v)->∃u,(os c).data=.cell (some u)/\a0Q v u)->(∀c∈cl.map (·.2),H1 c=none) ->
 sp vs (trk' (cl.map (·.2)) os H1) (λv H3=>(∀c∈cl.map (·.2),H3 c=some (exA c (os c)))/\Q v (unt (cl.map (·.2)) H3)) E0
theorem b1L {X:Cx} {k:Nat} {f:Addr} {fd:FuncData} {ps:List Str} {sp:Sp} {x:Str} {p pos:Pos} {e:Expr} {es:List Expr} {t:TA} {cl:List (Str × Addr)} (F:a0Y X.prog X.w X.K X.mg X.base CX0 k f fd ps sp) (hr:a1z k X.A) (hg:Gl X x) (hm:X.mg x=some (.ref f)) (hk:PySem.W.keepIn X.K (.ref f)=true) (hb:a1N X.K fd ps []) (hc:a2h X cl)
  (ha:PA X (e::es) t) (hdb:(x==("__debug__":Str))=false:=by decide) (he:starEach (e::es) X.env=(false,eval e X.env)::starEach es X.env:=by rfl) (hpl:(backTo pos (starEach es X.env)).any (·.1)=false:=by rfl) :
  PE X (.Call (.Name x p) (e::es) [] pos) (tCallT X cl sp t):=by
 intro pins s σ H Q I h;refine b6y (a3Z I hg hm ?_ hdb);refine b9p (h₀:=X.base) I.ok.mod.kin hk (thn (ha pos pins s σ H _ I h) λus s1 ⟨vs,H1,I1,r,q⟩=>⟨I1.kIn,?_⟩) he hpl;have mem:∀c∈cl.map (·.2),∃n,(n,c)∈cl:=λc hc=>by
  obtain⟨⟨n,c'⟩,h1,rfl⟩:=b5K.mp hc;exact⟨n,h1⟩
 let os:Addr->Obj:=λc=>(s1.heap.get? c).getD ⟨.none,none,.plain,#[]⟩
 have g:∀c∈cl.map (·.2),s1.heap.get? c=some (os c):=λc hc'=>by
  obtain⟨n,hn⟩:=mem c hc';obtain⟨v,o,ho,_⟩:=I1.cell n c (hc.at' _ hn);show _=some ((s1.heap.get? c).getD _);rw[ho];rfl
 have nn:∀c∈cl.map (·.2),H1 c=none:=λc hc'=>by
  obtain⟨n,hn⟩:=mem c hc';exact I1.freeC n c (hc.at' _ hn)
 have above:∀c∈cl.map (·.2),X.s₀.heap.objs.size<=c:=λc hc'=>by
  obtain⟨n,hn⟩:=mem c hc';exact I1.ok.cab n c (hc.fn _ hn) (hc.at' _ hn)
 have hq:=q os (λj i n c v h1 h2 h3=>by
  have hmem:=b5M h1;obtain⟨m,hn,hl⟩:=I1.loc;obtain⟨u,rv,l⟩:=hl i n v h2 h3 (.inr (.inl (hc.ki _ hmem)));refine⟨u,?_,rv⟩;rcases l with ⟨hk',_⟩|⟨_,c0,e0,o,ho,hd⟩
  ·have z:some NameKind.cell=some .local:=(hc.ki _ hmem).symm.trans hk';cases z
  ·have ec:some c0=some c:=e0.symm.trans (hc.at' _ hmem);cases ec;have:os c=o:=by
    show(s1.heap.get? c).getD _=o;rw[ho];rfl
   rw[this];exact hd) nn
 have e0:=I1.env0;have e1:a5W X.prog X.w X.K X.mg X.base X.A X.stack s1 (trk' (cl.map (·.2)) os H1):=⟨e0.frames,e0.mod,λb o hb'=>⟨(e0.bs b o hb').1,by
  rw[a0O λz=>b6A _ (b5S (b5F hb') (b6R I1.ok.bsz (above b z)))];exact(e0.bs b o hb').2⟩,e0.bsz,e0.funs,λb hb'=>by
  rw[a0O λz=>?_]
  ·exact e0.frf b hb'
  ·obtain⟨n,hn⟩:=mem b z;rcases b5Q.mp (I1.stkSub b hb') with y|y
   ·exact I1.cne n b (hc.at' _ hn) y
   ·obtain⟨_,o,ho,_⟩:=I1.ok.funs.mem y;exact b6A _ (b5S (b5F ho) (above b z)),e0.hok.trk nn g,e0.bare⟩
 have hl:(us++([]:List Value)).length=ps.length:=by rw[b6B,<-r.length];exact F.len _ _ _ _ hq
 have hb1:=hb s1 us I1.kIn hl;rw[b6B] at hb1;refine c0j (b7y (F.run X.A X.stack s1 _ ⟨us,[]⟩ us vs _ E0 hr e1 hb1 r hq) λr s' hq'=>?_);cases r with
 | error e=>exact False.elim hq'
 | ok fl =>
  cases fl with
  | ret u =>
   obtain⟨v,H3,os',bare,un,hok3,rv,q3,q4⟩:=hq';have g3:∀c∈cl.map (·.2),s'.heap.get? c=some (os c):=λc hc'=>(hok3 c _ (q3 c hc')).1;exact I1.after ⟨v,unt (cl.map (·.2)) H3,os',bare,un.untrk nn g g3,hok3.unt λa ha=>⟨_,q3 a ha⟩,rv,q4⟩
  | next=>exact False.elim hq'
  | brk=>exact False.elim hq'
  | cont=>exact False.elim hq'
theorem Fun.okC {P:Program} {w:World} {K:PySem.W.Frag} {mg:Str->Option Value} {base:Heap} {x qual:Str} {st:Stmt} {f:Addr} {fd:FuncData} {N ps:List Str} {k:Nat} {sp:Sp} (F:Fun K x qual st f fd) (S:a0l N ps (a0d st)) (len:∀vs H Q E,sp vs H Q E->vs.length=ps.length)
  (hbody:∀(A:Around) (outer:List Env) (s:Shared) (H:Hp) (vs:List V) (Q:VK) (E:XK),a1z k (A.deeper (envOfC qual (a0d st) s.heap.objs.size f fd.code))->sp vs H Q E ->
   ∃t,PSs (a4S CX0 P w K mg base N qual (a0d st) f fd.code A outer s H E).nox (a0H st) t/\t { nx:=λ_ H'=>Q .non H',rt:=Q } (start N vs) H):a0Y P w K mg base CX0 (k+1) f fd ps sp:=by
 obtain⟨oc,od,kV,doc,pm,an,cdv,ct,osl,rfl,lk,hcd⟩:=F.ex;refine fn_of lk hcd S len λA outer s H vs Q E hr hsp=>?_;obtain⟨t,h,q⟩:=hbody A outer s H vs Q E hr hsp;exact⟨t,h.nox,q⟩
structure BMod (mg:Str->Option Value) (base:Heap) (ts:List Addr) (bm:Addr):Prop where
 hbm:mg "__builtins__"=some (.ref bm)
 bo:∃o,base.get? bm=some o/\o.cls=.type "module"/\o.dict=some builtinsNs/\o.data=.plain
 b1:bm≠builtinsNs
 b2:bm≠mainGlobals
 b3:∀T∈ts,bm≠T
 b4:∀T∈ts,mainGlobals≠T
theorem a9B {P:Program} {w:World} {K:PySem.W.Frag} {mg mb:Str->Option Value} {CX:CXT} {k:Nat} {fa a:Addr} {fd:FuncData} {x:Str} {sp:Sp} {s₁:Shared} {vs:List Value} {ns:List Int} {ts:List Addr}
  (KX:K.In s₁.heap) (hns:s₁.heap.Ns mainGlobals mg) (hb:s₁.heap.Ns builtinsNs mb) (hbb:∀x:Str,x≠"__name__"->mb x=bootBuiltins x) (hlim:s₁.heap.NoLimit) (hg:s₁.gens=#[])
  (ha:s₁.heap.get? a=some { cls:=.type "list",data:=.seq vs.toArray }) (hi:IntsAre vs ns) (hl:ns.length<=sizeLine) (hr:a1z k callerA)
  (ht:∀T∈ts,s₁.heap.get? T=some (PySem.W.tabObj #[])/\(∃c,PySem.W.CodeHd s₁.heap c T)/\K.lookup T=none)
  (hbm:∃bm ob,mg "__builtins__"=some (.ref bm)/\bm≠builtinsNs/\s₁.heap.get? bm=some ob/\ob.cls=.type "module"/\ob.dict=some builtinsNs/\ob.data=.plain)
  (F:∀base:Heap,K.In base->base.Ns mainGlobals mg->(∃bm,BMod mg base ts bm)->a0Y P w K mg base CX k fa fd [x] sp) (hbind:∀(s:Shared) (u:Value),BindsTo s fd ⟨[u],[]⟩ [(x,u)])
  (hsp:∀H:Hp,(∀T∈ts,H T=some (.tbl #[]))->SqL K H a (ns.map V.int)->sp [.ref a] H (λv _=>v=.bl true) λ_ _ _=>False)
  (hCX:∀H e s',CX [] H s₁ (λ_ _ _=>False) e s'->False) :
  codeAny (model P w) callerA (.call (.ref fa) ⟨[.ref a],[]⟩) (λr s'=>r=.ok (.ret (.bool true))/\OldK s₁.heap s'.heap/\s'.os=s₁.os/\AllBare s'.gens) s₁:=by
 have rv:=a5g hi;have lenV:=hi.length;have core:∀H:Hp,(∀b,H b=none\/(∃o xs,H b=some (.frz o (.lst xs))/\b=a)\/(H b=some (.tbl #[])/\b∈ts))->(∀T∈ts,H T=some (.tbl #[]))->SqL K H a (ns.map V.int)->HOk P w H s₁.heap->(∀b,H b≠none->K.lookup b=none) ->
   codeAny (model P w) callerA (.call (.ref fa) ⟨[.ref a],[]⟩) (λr s'=>r=.ok (.ret (.bool true))/\OldK s₁.heap s'.heap/\s'.os=s₁.os/\AllBare s'.gens) s₁:=by
  intro H hO hT hS hok hK;have base_of:∀{b:Addr} {o:Obj},s₁.heap.get? b=some o->H b=none->(b1d s₁.heap H).get? b=some o:=λe n=>b1i e n;have noA:∀{b:Addr} {o:Obj} {es:Array DictEntry} {ep:Nat},s₁.heap.get? b=some o->o.data=.dict es ep->H b=none:=λ{b o es ep} e d=>by
   rcases hO b with z|⟨_,_,_,rfl⟩|⟨_,hb'⟩
   ·exact z
   ·rw[ha] at e;cases e;have d':Data.seq vs.toArray _=Data.dict es ep:=d;cases d'
   ·rw[(ht b hb').1] at e;cases e;have d':Data.fields #[]=Data.dict es ep:=d;cases d'
  have nsK:∀{b:Addr} {m:Str->Option Value},s₁.heap.Ns b m->(b1d s₁.heap H).Ns b m:=λ{b m} ⟨o,es,ep,e,d,r⟩=>⟨o,es,ep,base_of e (noA e d),d,r⟩
  have hKb:K.In (b1d s₁.heap H):=λb o e=>base_of (KX b o e) (by
   cases q:H b with
   | none=>rfl
   | some u =>
    rw[hK b (by rw[q];simp)] at e;cases e)
  have hM:Mod K mg (b1d s₁.heap H):=⟨hKb,nsK hns,⟨mb,nsK hb,hbb⟩,let ⟨mc,h1,h2⟩:=hlim;⟨mc,nsK h1,h2⟩⟩
  have e0:a5W P w K mg (b1d s₁.heap H) callerA [] s₁ H:=⟨rfl,hM,λb o e=>b3C e,Nat.le_of_eq (a8H _ _),trivial,λb hb=>absurd (show b∈([]:List Addr) from hb) (by simp),hok,.of_eq hg⟩
  have hBM:∃bm,BMod mg (b1d s₁.heap H) ts bm:=by
   obtain⟨bm,ob,h1,h2,h3,h4,h5,h6⟩:=hbm;have n1:bm≠a:=λz=>by
    rw[z,ha] at h3;cases h3;have h4:Value.type "list"=Value.type "module":=h4;injection h4 with e;exact absurd e (by decide)
   have n2:∀T∈ts,bm≠T:=λT hT' z=>by
    rw[z,(ht T hT').1] at h3;cases h3;cases h6
   have ng:∀{o:Obj},s₁.heap.get? mainGlobals=some o->∃es ep,o.data=.dict es ep:=λ{o} e=>by
    obtain⟨o',es,ep,e',d,_⟩:=hns;rw[e'] at e;cases e;exact⟨es,ep,d⟩
   refine⟨bm,h1,⟨ob,base_of h3 ?_,h4,h5,h6⟩,h2,λz=>?_,n2,λT hT' z=>?_⟩
   ·rcases hO bm with z|⟨_,_,_,z⟩|⟨_,z⟩
    ·exact z
    ·exact absurd z n1
    ·exact absurd rfl (n2 bm z)
   ·rw[z] at h3;obtain⟨es,ep,d⟩:=ng h3;rw[d] at h6;cases h6
   ·have:=(ht T hT').1;rw[<-z] at this;obtain⟨es,ep,d⟩:=ng this;cases d
  refine b7y ((F _ hKb (nsK hns) hBM).run callerA [] s₁ H ⟨[.ref a],[]⟩ [.ref a] [.ref a] _ _ hr e0 (hbind s₁ (.ref a)) (.cons rfl .nil) (hsp H hT hS)) λr s' h=>?_;cases r with
  | error e=>exact(hCX H e s' h).elim
  | ok fl =>
   cases fl with
   | next=>exact False.elim h
   | brk=>exact False.elim h
   | cont=>exact False.elim h
   | ret u =>
    obtain⟨v,H',os,bare,un,hok',r',q⟩:=h;have q':v=.bl true:=q;subst q';obtain rfl:u=Value.bool true:=r';refine⟨rfl,⟨λb o e=>?_,λb o e=>un.there b o e (by simp)⟩,os,bare⟩;rcases hO b with z|⟨ob,xs,z,_⟩|⟨z,hb'⟩
    ·exact .inl (un.keep b o e z (by intro z;exact absurd (show b∈([]:List Addr) from z) (by simp)) (by simp))
    ·have z2:=un.frzs b ob _ z;obtain⟨e1,_⟩:=hok b _ z;obtain⟨e2,_⟩:=hok' b _ z2;rw[e] at e1;cases e1;exact .inl e2
    ·obtain⟨more,z2⟩:=un.tbls b _ z;have e1:s₁.heap.get? b=some (PySem.W.tabObj #[]):=(ht b hb').1;have e2:s'.heap.get? b=some { cls:=.none,data:=.fields (#[]++more) }:=hok' b _ z2;rw[e1] at e;cases e;obtain⟨c,C⟩:=(ht b hb').2.1;exact .inr (.inl ⟨(C.tab e1).isCodeTable,rfl,#[],more,rfl,e2⟩)
 have neA:∀T∈ts,T≠a:=λT hT z=>by
  have e:=(ht T hT).1;rw[z,ha] at e;cases e
 have tOk:∀{H:Hp} {T:Addr},T∈ts->a0B P w H s₁.heap T (.tbl #[]):=λ{H T} hT=>(ht T hT).1;cases hk:K.lookup a with
 | some o =>
  have e:=KX a o hk;rw[ha] at e;cases e;refine core (λb=>if b∈ts then some (.tbl #[]) else none) (λb=>?_) (λT hT=>if_pos hT) (.inr ⟨_,vs.toArray,_,hk,rfl,rfl,rfl,by rw[b5I,lenV];exact hl,by simpa using rv⟩) (λb u z=>?_) λb z=>?_
  ·by_cases y:b∈ts
   ·exact .inr (.inr ⟨if_pos y,y⟩)
   ·exact .inl (if_neg y)
  ·by_cases y:b∈ts
   ·have z':=(if_pos y).symm.trans z;cases z';exact tOk y
   ·have z':=(if_neg y).symm.trans z;cases z'
  ·by_cases y:b∈ts
   ·exact(ht b y).2.2
   ·exact absurd (if_neg y) z
 | none =>
  refine core (λb=>if b∈ts then some (.tbl #[]) else if b=a then some (.frz { cls:=.type "list",data:=.seq vs.toArray } (.lst (ns.map V.int))) else none) (λb=>?_) (λT hT=>if_pos hT) (.inl (.inr ⟨{ cls:=.type "list",data:=.seq vs.toArray },?_⟩)) (λb u z=>?_) λb z=>?_
  ·by_cases y:b∈ts
   ·exact .inr (.inr ⟨if_pos y,y⟩)
   ·by_cases hb':b=a
    ·exact .inr (.inl ⟨_,_,(if_neg y).trans (if_pos hb'),hb'⟩)
    ·exact .inl ((if_neg y).trans (if_neg hb'))
  ·exact(if_neg λy=>neA a y rfl).trans (if_pos rfl)
  ·by_cases y:b∈ts
   ·have z':=(if_pos y).symm.trans z;cases z';exact tOk y
   ·by_cases hb':b=a
    ·have z':=((if_neg y).trans (if_pos hb')).symm.trans z;cases z';subst hb';exact⟨ha,by rw[b5x];exact hl,vs,_,rv,ha⟩
    ·have z':=((if_neg y).trans (if_neg hb')).symm.trans z;cases z'
  ·by_cases y:b∈ts
   ·exact(ht b y).2.2
   ·by_cases hb':b=a
    ·rw[hb'];exact hk
    ·exact absurd ((if_neg y).trans (if_neg hb')) z
theorem b1M {l:PySem.W.OpenLaw} {n k:Nat} {q:Program} {loose:List Str} {XP:(Str->Option Value)->Heap->Prop} {YP:World->Heap->Prop} {d:DefRec} {K:Params->PySem.W.Frag} {CX:World->CXT} {sp:World->Sp} {x:Str} {ts:List Addr}
  (hn:l.most=some n) (hn2:n<=sizeLine) (hdf:d.params.defaults=[]) (hr:a1z k callerA)
  (hY:∀(w:World) (h:Heap),YP w h->(K w.params).In h/\∀T∈ts,h.get? T=some (PySem.W.tabObj #[]))
  (hT:∀(w:World),∀T∈ts,(∃c,PySem.W.codeHdIn (K w.params) c T=true)/\(K w.params).lookup T=none)
  (F:∀(w:World) (mg:Str->Option Value) (fa:Addr) (h:Heap),(K w.params).In h->h.Ns mainGlobals mg->mg d.name=some (.ref fa) ->
   ∃fd:FuncData,(∀(s:Shared) (u:Value),BindsTo s fd ⟨[u],[]⟩ [(x,u)]) /\
    ∀base:Heap,(K w.params).In base->base.Ns mainGlobals mg->(∃bm,BMod mg base ts bm)->a0Y l.prog w (K w.params) mg base (CX w) k fa fd [x] (sp w))
  (hsp:∀(w:World) (H:Hp) (a:Addr) (ns:List Int),ns.length<=n->(∀T∈ts,H T=some (.tbl #[]))->SqL (K w.params) H a (ns.map V.int)->sp w [.ref a] H (λv _=>v=.bl true) λ_ _ _=>False)
  (hCX:∀(w:World) (H:Hp) (s:Shared) (e:Value) (s':Shared),CX w [] H s (λ_ _ _=>False) e s'->False) :
  PySem.W.WalkO q loose XP YP l.row.toRowW d [] (λf vs=>PySem.call f vs):=by
 refine Att.a5Y hn hdf λw s₀ s₁ mg mb fa o pm cd doc a vs ns G Y ho hd hcd hmg hobj hints hlen hg=>?_;obtain⟨KX,KT⟩:=hY w _ Y;obtain⟨fd,hb,hF⟩:=F w mg fa _ KX G.T.g hmg;exact a9B KX G.T.g G.T.b G.T.builtins G.T.nolimit hg hobj hints (b6R hlen hn2) hr (λT hT'=>⟨KT T hT',(let ⟨c,e⟩:=(hT w T hT').1;⟨c,PySem.W.codeHd_of_K KX e⟩),(hT w T hT').2⟩) G.T.bmain hF hb (λH hO hS=>hsp w H a ns hlen hO hS) λH e s'=>hCX w H s₁ e s'
end L2
namespace L2
open PySem PySem.Spec PyProof.Rows PySem.W
def b4l (m:Nat):List Nat:=(List.range 8).filter λi=>m.testBit i
structure SmT (b:Bool) (m:Nat) (t:SetTable):Prop where
 lt:m<256
 place:t.place=(b4l m).toArray
 dum:t.dummies=#[]
 plain:t.plain=true
 led:t.led=!b
 mask:t.mask=7/\(b4l m).length<5\/t.mask=31
structure SmE (m:Nat) (es:Array (Int × Value)):Prop where
 vals:es.toList.map (·.1)=(b4l m).map Int.ofNat
 int:∀e∈es.toList,∃tk,e.2=.int e.1 tk
section
variable {prog:Program} {w:World} {A:Around} {E:Value->Shared->Prop} {s:Shared} {b:Bool}
def SmAt (b:Bool) (m:Nat) (h:Heap) (a:Addr):Prop:=∃o es ep t,h.get? a=some o/\o.ExactSet/\o.data=.set es ep t/\SmT b m t/\SmE m es
end
section
variable {prog:Program} {w:World} {A:Around} {E:Value->Shared->Prop} {s:Shared} {b:Bool} {m ep:Nat} {es:Array (Int × Value)} {t:SetTable} {a it:Addr}
end
def SetO (w:World) (a:Addr) (m:Nat):HO:=.ext λh=>SmAt (w.params.followText "set-order") m h a
end L2
namespace HT
open PySem PySem.Spec PyProof.Rows
section
open PySem.SeqAt
open PySem.AutoSeq1 (wpAny_loadPart')
open PySem.MeetsSeq PySem.MeetsSeq2 PySem.MeetsSeq3
theorem a4r (l b:Addr) (items items2:Array Value) (n n2:Nat) (dd dd2:Option Addr) (sl sl2:Array (Option Value)) (p q:Int × List Int) (t t2:Tok) (u u2:Value) (hi:items.toList=[.int p.1 t,u]) (hj:items2.toList=[.int q.1 t2,u2]) :
  Meets (Builtin.«tuple.__lt__» ⟨[.ref l,.ref b],[]⟩)
   (λA R s=>s.heap.get? l=some { cls:=.type "tuple",dict:=dd,data:=.seq items n,slots:=sl }/\s.heap.get? b=some { cls:=.type "tuple",dict:=dd2,data:=.seq items2 n2,slots:=sl2 }/\L2.a4m s.heap u p.2/\L2.a4m s.heap u2 q.2/\A.units+2<cLine /\
    R (.ok (.ret (.bool (L2.a3A p q)))) s) :=
 .of_wp λprog w A R s h=>by
  obtain⟨hp,g,d,tk,os⟩:=s;obtain⟨hl,hb,tu,tu2,hA,h⟩:=h;have f2:=AutoSeq1.sub_tuple_tuple;have z1:items.size=2:=by rw[<-b6a,hi];rfl
  have z2:items2.size=2:=by rw[<-b6a,hj];rfl
  wp_walk using b8M hl,b8M hb,b8z _ (λrest b s'=>b.1=none/\s'=⟨hp,g,d,tk,os⟩/\(rest=[(.int p.1 t,.int q.1 t2),(u,u2)]\/(rest=[(u,u2)]/\p.1=q.1)\/(rest=[]/\p.1=q.1/\p.2=q.2))) _
  case turn =>
   rintro⟨y,x⟩ rest b s' ⟨hb',rfl,hz|⟨hz,e1⟩|⟨hz,_⟩⟩
   ·injection hz with hyx hrest;injection hyx with hy hx;subst hy hx;obtain⟨e,he,hiff⟩:=a6P A.in1 ⟨hp,g,d,tk,os⟩ p.1 t q.1 t2;refine b5w (he prog w _ _ ?_);cases e with
    | true =>
     wp_walk
     exact⟨rfl,rfl,.inr (.inl ⟨hrest,hiff.mp rfl⟩)⟩
    | false =>
     have ne:¬p.1=q.1:=λz=>absurd (hiff.mpr z) b5Y;have hri:=a6Q A.in1 ⟨hp,g,d,tk,os⟩ p.1 t q.1 t2 prog w;unfold L2.a3A at h;rw[if_neg ne] at h
     wp_walk using hri
     exact⟨_,rfl,by simpa using h⟩
   ·injection hz with hyx hrest;injection hyx with hy hx;subst hy hx;have he:=L2.a9z (A:=A.in1) (s:=⟨hp,g,d,tk,os⟩) tu tu2 (by show A.units+1+1<cLine;omega);refine b5w (he prog w _ _ ?_);by_cases e2:p.2=q.2
    ·rw[b6b e2]
     wp_walk
     exact⟨rfl,rfl,.inr (.inr ⟨hrest,e1,e2⟩)⟩
    ·rw[b6N e2];unfold L2.a3A at h;rw[if_pos e1] at h;have hri:∀(E:Value->Shared->Prop) (Q:Value->Shared->Prop),Q (.bool (HT.a0x p.2 q.2)) ⟨hp,g,d,tk,os⟩->wpAny (model prog w) A.in1 (richCompare .Lt y x) Q E ⟨hp,g,d,tk,os⟩:=λE Q hq=>by
      obtain⟨c,its,rfl,ht,hh⟩:=tu;obtain⟨c2,its2,rfl,ht2,hh2⟩:=tu2;exact HT.a3I ht ht2 hh hh2 (by show A.units+1<cLine;omega) hq
     wp_walk using hri
     exact⟨_,rfl,by simpa using h⟩
   ·cases hz
  case fin =>
   rintro⟨b1,b2⟩ s' ⟨hb',rfl,hz|⟨hz,e1⟩|⟨hz,e1,e2⟩⟩
   ·cases hz
   ·cases hz
   ·simp only at hb';subst hb';have e:p=q:=b9F e1 e2;subst e;rw[L2.a2M] at h
    wp_walk
    refine⟨_,rfl,?_⟩;have:Builtin.Tuple.tupleCompareSizes .Lt items.size items2.size=.bool (false):=by rw[z1,z2];rfl
    rw[this];exact h
  case h =>
   refine⟨rfl,rfl,.inl ?_⟩;rw[hi,hj];rfl
end
end HT
namespace L2
open PySem PySem.Spec PyProof.Rows
variable {prog:Program} {w:World} {A:Around} {E:Value->Shared->Prop} {s:Shared}
theorem b1N {x y:Value} {p q:Int × List Int} {Q:Value->Shared->Prop} (hx:PrN s.heap x p) (hy:PrN s.heap y q) (hu:A.units+4<cLine) (h:Q (.bool (a3A p q)) s):wpAny (model prog w) A (compareOp .Lt x y) Q E s:=by
 obtain⟨l,items,t,u,rfl,hl,hi,tu⟩:=hx;obtain⟨b,items2,t2,u2,rfl,hb,hj,tu2⟩:=hy;obtain⟨⟨cls,dd,data,sl⟩,ho,hc,n,hd⟩:=id hl;obtain⟨⟨cls2,dd2,data2,sl2⟩,ho2,hc2,n2,hd2⟩:=id hb;simp only at hc hd hc2 hd2;subst hc hd hc2 hd2;exact richCompare_meets_room (op:=.Lt) ⟨_,ho,rfl⟩ ⟨_,ho2,rfl⟩ PySem.F.slot_tuple_lt PySem.F.entry_tuple_lt (PySem.F.args_tuple_lt_2 _ _) (HT.a4r l b items items2 n n2 dd dd2 sl sl2 p q t t2 u u2 hi hj)
  ⟨ho,ho2,tu,tu2,(by show A.units+2<cLine;omega),show Value.bool (a3A p q)≠Value.notImplemented/\Q (.bool (a3A p q)) s from⟨(λx=>nomatch x),h⟩⟩ (by omega)
def rNePw:R2:=λx y H Q=>∃p q,RPw H x p/\RPw H y q/\Q (.bl (!decide (p=q))) H
section
variable {X:Cx} {k:Nat} {Rg:Addr->List V->Hp->VK->Prop} {pins:List (Addr × Obj)} {σ:St} {H:Hp} {a g I S:Addr} {xs:List V} {ks:Nat->List Int} {R:Result->Shared->Prop} {Q:VK}
abbrev btK (ks:Nat->List Int):Nat->Nat->Bool:=λi j=>HT.a0x (ks i) (ks j)
abbrev kwK (g:Value):List (Str × Value):=[(Str.ofString "key",g)]
theorem a9C (a d:Value):argsOk "min" { pos:=[a],kw:=kwK d }:=rfl
def rMinK (Rg:Addr->List V->Hp->VK->Prop) (vs zs:List V) (H:Hp) (Q:VK):Prop:=∃(a g:Addr) (xs:List V) (ks:Nat->List Int),vs=[.ref a]/\zs=[.ref g]/\H a=some (.lst xs)/\0<xs.length /\
 (∀i x H1 Q1,xs[i]?=some x->a0m H H1->(∀t H2,a0m H1 H2->H2 t=some (.tup ((ks i).map V.int))->Q1 (.ref t) H2)->Rg g [x] H1 Q1)/\∀x H',xs[argBest (btK ks) (xs.length-1)]?=some x->a0m H H'->Q x H'
end
end L2
namespace L2
open PySem PySem.Spec PyProof.Rows PySem.W
theorem a2A (u v:List Int) (h:HT.a0x u v=true):HT.a0x v u=false:=by
 cases e:HT.a0x v u with
 | false=>rfl
 | true=>have z:=a2L _ _ _ h e;rw[a2o] at z;cases z
theorem a5w (u v w:List Int) (h1:HT.a0x v u=false) (h2:HT.a0x w v=false):HT.a0x w u=false:=by
 by_cases z1:v=u
 ·rw[<-z1];exact h2
 ·by_cases z2:w=v
  ·rw[z2];exact h1
  ·exact a2A _ _ (a2L _ _ _ (a1w _ _ z1 h1) (a1w _ _ z2 h2))
variable {prog:Program} {w:World} {A:Around} {E:Value->Shared->Prop} {s:Shared}
structure a8m (X:Cx) (σ:St) (Rg:Addr->List V->Hp->VK->Prop):Prop where
 run:∀(pins:List (Addr × Obj)) (H:Hp) (s:Shared) (g:Addr) (us:List Value) (vs:List V) (Q:VK),Inv X pins σ H s->a0w vs us->Rg g vs H Q->codeAny (model X.prog X.w) X.A.in1.in1 (.call (.ref g) ⟨us,[]⟩) (CR CX0 X.stack X.prog X.w H s Q E0) s
theorem a8m.of {X:Cx} {σ:St} {k:Nat} {R:Addr->List V->Hp->VK->Prop} (L:a3F X.prog X.w X.K X.mg X.base k R) (hr:a1z (k+2) X.A):a8m X σ R :=
 ⟨λ_ H s g us vs Q I r q=>L.run X.A.in1.in1 X.stack s H g us vs Q hr.in1.in1 I.env0.in1.in1 r q⟩
def RgC (X:Cx) (cl:List (Str × Addr)) (R:Addr->List V->Hp->VK->Prop) (σ:St):Addr->List V->Hp->VK->Prop:=λg vs H1 Q=>∀os:Addr->Obj,(∀(j i:Nat) (n:Str) (c:Addr) (v:V),cl[j]?=some (n,c)->X.N[i]?=some n->σ[i]?=some (some v)->∃u,(os c).data=.cell (some u)/\a0Q v u)->(∀c∈cl.map (·.2),H1 c=none) ->
 R g vs (trk' (cl.map (·.2)) os H1) (λv H3=>(∀c∈cl.map (·.2),H3 c=some (exA c (os c)))/\Q v (unt (cl.map (·.2)) H3))
theorem a8m.cells {X:Cx} {σ:St} {k:Nat} {cl:List (Str × Addr)} {R:Addr->List V->Hp->VK->Prop} (L:a3F X.prog X.w X.K X.mg X.base k R) (hr:a1z (k+2) X.A) (hc:a2h X cl):a8m X σ (RgC X cl R σ):=⟨λpins H1 s1 g us vs Q I1 r q=>by
 have mem:∀c∈cl.map (·.2),∃n,(n,c)∈cl:=λc hc=>by
  obtain⟨⟨n,c'⟩,h1,rfl⟩:=b5K.mp hc;exact⟨n,h1⟩
 let os:Addr->Obj:=λc=>(s1.heap.get? c).getD ⟨.none,none,.plain,#[]⟩
 have gg:∀c∈cl.map (·.2),s1.heap.get? c=some (os c):=λc hc'=>by
  obtain⟨n,hn⟩:=mem c hc';obtain⟨v,o,ho,_⟩:=I1.cell n c (hc.at' _ hn);show _=some ((s1.heap.get? c).getD _);rw[ho];rfl
 have nn:∀c∈cl.map (·.2),H1 c=none:=λc hc'=>by
  obtain⟨n,hn⟩:=mem c hc';exact I1.freeC n c (hc.at' _ hn)
 have above:∀c∈cl.map (·.2),X.s₀.heap.objs.size<=c:=λc hc'=>by
  obtain⟨n,hn⟩:=mem c hc';exact I1.ok.cab n c (hc.fn _ hn) (hc.at' _ hn)
 have hq:=q os (λj i n c v h1 h2 h3=>by
  have hmem:=b5M h1;obtain⟨m,hn,hl⟩:=I1.loc;obtain⟨u,rv,l⟩:=hl i n v h2 h3 (.inr (.inl (hc.ki _ hmem)));refine⟨u,?_,rv⟩;rcases l with ⟨hk',_⟩|⟨_,c0,e0,o,ho,hd⟩
  ·have z:some NameKind.cell=some .local:=(hc.ki _ hmem).symm.trans hk';cases z
  ·have ec:some c0=some c:=e0.symm.trans (hc.at' _ hmem);cases ec;have:os c=o:=by
    show(s1.heap.get? c).getD _=o;rw[ho];rfl
   rw[this];exact hd) nn
 have e0:=I1.env0;have e1:a5W X.prog X.w X.K X.mg X.base X.A X.stack s1 (trk' (cl.map (·.2)) os H1):=⟨e0.frames,e0.mod,λb o hb'=>⟨(e0.bs b o hb').1,by
  rw[a0O λz=>b6A _ (b5S (b5F hb') (b6R I1.ok.bsz (above b z)))];exact(e0.bs b o hb').2⟩,e0.bsz,e0.funs,λb hb'=>by
  rw[a0O λz=>?_]
  ·exact e0.frf b hb'
  ·obtain⟨n,hn⟩:=mem b z;rcases b5Q.mp (I1.stkSub b hb') with y|y
   ·exact I1.cne n b (hc.at' _ hn) y
   ·obtain⟨_,o,ho,_⟩:=I1.ok.funs.mem y;exact b6A _ (b5S (b5F ho) (above b z)),e0.hok.trk nn gg,e0.bare⟩
 refine b7y (L.run X.A.in1.in1 X.stack s1 _ g us vs _ hr.in1.in1 e1.in1.in1 r hq) λr s' hq'=>?_;cases r with
 | error e=>exact False.elim hq'
 | ok fl =>
  cases fl with
  | ret u =>
   obtain⟨v,H3,os',bare,un,hok3,rv,q3,q4⟩:=hq';have g3:∀c∈cl.map (·.2),s'.heap.get? c=some (os c):=λc hc'=>(hok3 c _ (q3 c hc')).1;exact⟨v,unt (cl.map (·.2)) H3,os',bare,un.untrk nn gg g3,hok3.unt λa ha=>⟨_,q3 a ha⟩,rv,q4⟩
  | next=>exact False.elim hq'
  | brk=>exact False.elim hq'
  | cont=>exact False.elim hq'⟩
section
variable {X:Cx} {k:Nat} {Rg:Addr->List V->Hp->VK->Prop} {pins:List (Addr × Obj)} {σ:St} {H:Hp} {a g kS:Addr} {xs:List V} {ks:Nat->List Int} {s:Shared} {P:PySem.Fin->Shared->Prop} {E:Value->Shared->Prop}
theorem a9D {ks:Nat->List Int} {n i:Nat} (h:i<n):((List.range n).map ks).getD i []=ks i:=by
 rw[b5B,b5L,b6U h];rfl
end
theorem Inv.adopt {X:Cx} {pins:List (Addr × Obj)} {σ:St} {H:Hp} {s:Shared} {l:Addr} {o:HO} (I:Inv X pins σ H s) (f:a2F X pins H l) (new:a0B X.prog X.w (upd H l o) s.heap l o):Inv X pins σ (upd H l o) s:=by
 have hok:HOk X.prog X.w (upd H l o) s.heap:=λb u e=>by
  by_cases hb:b=l
  ·subst hb;rw[a0b] at e;cases e;exact new
  ·rw[a0h hb] at e;exact(I.hok b u e).stay (λc v _ q=>q) (λc q=>by rw[a0h (a0A q f.1)];exact q) λc xs q=>by rw[a0h (a0A q f.1)];exact q
 exact I.step (g':=s.gens) (t':=s.toks) (d':=s.drawn) (h':=s.heap) (ch:=[l]) (λb hb=>by rw[b5C.mp hb];exact⟨f.2.2.2.1,f.2.1,f.2.2.2.2.1,f.2.2.2.2.2⟩)
  (λb o _ _ _ e _=>e) (λb o _ _ _ e _=>⟨o.slots,e⟩) (λb u hb e n=>by rw[a0h (λz=>hb (by simp[z]))];exact n) (λb u _ e=>⟨u,e⟩)
  (λb xs e=>by rw[a0h (a0A e f.1)];exact e) (λb u xs e=>by rw[a0h (a0A e f.1)];exact e) (λb ps e=>⟨#[],by rw[a0h (a0A e f.1),e];simp⟩) (λm h=>h) hok I.bare
theorem a4s {R:List Value->Shared->Prop} {r:Addr} {a b c:Int} {t u v:Tok} {n:Nat} (hh:A.handled=none) (hr:IsRange s.heap r a b c t u v) (hsmall:Builtin.Range.small a b c=true)
  (hn:Builtin.Range.rangeSize a b c=n) (hlen:n<=2 ^ 24)
  (h:∀(h':Heap) (tk:Nat) (acc:Array Value),(∀b o,s.heap.get? b=some o->h'.get? b=some o)->ItemsOf (λi v=>∃t,v=.int (a+i*c) t) acc n->R acc.toList { s with heap:=h',toks:=tk }) :
  wpAny (model prog w) A (collect (.ref r)) R E s:=by
 unfold collect;refine b5w (c0B (b6q entry_proto_collect' ?_));rw[b5Z c0q _];show wpAny _ A.in1 (newList [] >>= λl=>again (.builtin "list.__iadd__" ⟨[l,.ref r],[]⟩)) _ _ s;refine b5w (b6p ?_);refine b5A ⟨b6D b8w _,b6q entry_list_iadd' ?_⟩;rw[b5Z b8w _];have hS₁:(s.heap.push { cls:=.type "list",data:=.seq ([]:List Value).toArray }).get? s.heap.objs.size=some { cls:=.type "list",data:=.seq #[] }:=b5D _ rfl;show wpAny _ A.in1 (Builtin.List.listExtendWith (.ref s.heap.objs.size) (.ref r) (.ref s.heap.objs.size)) _ _ _;have key:=wpAny_extend_range (prog:=prog) (w:=w) (A:=A) (s:={ s with heap:=s.heap.push { cls:=.type "list",data:=.seq ([]:List Value).toArray } })
  (R:=λ(q:Result) (s':Shared)=>∃(h':Heap) (tk:Nat) (acc':Array Value) (c':Nat),q=.ok (.ret (.ref s.heap.objs.size))/\s'={ s with heap:=h',toks:=tk } /\
   (∀b o,s.heap.get? b=some o->h'.get? b=some o)/\h'.get? s.heap.objs.size=some { cls:=.type "list",dict:=none,data:=.seq acc' c',slots:=#[] }/\ItemsOf (λi v=>∃t,v=.int (a+i*c) t) acc' n)
  hh (show IsRange _ r a b c t u v from b5y _ hr) hsmall hn hlen s.heap.objs.size (.ref s.heap.objs.size) 0 hS₁
  (λh' tk acc' c' hk hS' hacc=>⟨h',tk,acc',c',rfl,rfl,λb o e=>hk b o (b5O (b5F e)) (b5y _ e),hS',hacc⟩)
 refine b7Y key (λfin s' x=>?_) λe s' x=>?_
 ·cases fin with
  | done f =>
   obtain⟨h',tk,acc',c',e,rfl,hk,hS',hacc⟩:=x;cases e;show wpAny _ A (load s.heap.objs.size >>= _) _ _ _;refine b5w (c0i hS' ?_);exact b5A (h h' tk acc' hk hacc)
  | again c₁ =>
   refine⟨x.1,b7y x.2 λq s₂ y=>?_⟩;obtain⟨h',tk,acc',c',rfl,rfl,hk,hS',hacc⟩:=y;show wpAny _ A (load s.heap.objs.size >>= _) _ _ _;refine b5w (c0i hS' ?_);exact b5A (h h' tk acc' hk hacc)
 ·obtain⟨_,_,_,_,e',_⟩:=x;cases e'
section
variable {X:Cx} {k:Nat} {Rg:Addr->List V->Hp->VK->Prop} {pins:List (Addr × Obj)} {σ:St} {H:Hp} {g:Addr} {ks:Nat->List Int} {s:Shared} {Q:VK}
def b4m (Rg:St->Addr->List V->Hp->VK->Prop) (ta tk:TA):TE:=λσ H Q=>ta σ H λvs H1=>∃n:Nat,vs=[.int (n:Int)]/\n<=63/\tk σ H1 λzs H2=>∃(g:Addr) (ks:Nat->List Int),zs=[.ref g] /\
 (∀(i:Nat) H3 Q1,i<n->a0m H2 H3->(∀t H4,a0m H3 H4->H4 t=some (.tup ((ks i).map V.int))->Q1 (.ref t) H4)->Rg σ g [.int (i:Int)] H3 Q1)/\((List.range n).map ks).Nodup/\(∀i,i<n->ks i≠[]) /\
 ∀(d:Addr) (p:List Nat) H',a0m H2 H'->H' d=some (.lst (p.map λi:Nat=>V.int (i:Int)))->p.Perm (List.range n)->(p.map ks).Pairwise Lx->Q (.ref d) H'
end
end L2
namespace L2
open PySem PySem.Spec PyProof.Rows
abbrev ZnO (h:Heap) (z TI TO a:Addr) (fl:Bool):Prop:=h.get? z=some { cls:=.type "zip",dict:=none,data:=.fields #[rawInt a,.bool fl,.bool false,.ref TI,.ref TO],slots:=#[] }
section
variable {prog:Program} {w:World} {A:Around} {E:Value->Shared->Prop} {s:Shared} {ka kb:Bool} {z TI TO i1 i2 l1 l2 a:Addr} {n:Nat} {xs ys:Array Value} {x y:Value} {fl:Bool} {oa:Obj}
theorem a5x {M:Model} {a:Addr} {Q:Option Obj->Shared->Prop} (h:Q (s.heap.get? a) s):wpAny M A (loadIfAlive a) Q E s:=fun Γ p _=>by
 show Sem.wp M Γ (.loadIfAlive a .pure) _ _ p s;rw[Sem.wp_loadIfAlive];simpa using h
theorem a9E {Q:Value->Shared->Prop} (D:ZipApart z TI TO i1 i2 l1 l2) (hz:ZnO s.heap z TI TO a fl) (hTI:IsPair s.heap TI (.ref i1) (.ref i2)) (ha:s.heap.get? a=some oa) (az:a≠z) (h1:SIt ka s.heap i1 l1 n) (h2:SIt kb s.heap i2 l2 n) (hl1:SAt ka s.heap l1 xs) (hl2:SAt kb s.heap l2 ys) (hx:xs[n]?=some x) (hy:ys[n]?=some y)
  (hQ:∀h',ZnO h' z TI TO a true->SIt ka h' i1 l1 (n+1)->SIt kb h' i2 l2 (n+1)->IsPair h' s.heap.objs.size x y ->
   (∀c o,c≠z->c≠i1->c≠i2->s.heap.get? c=some o->h'.get? c=some o)->Q (.ref s.heap.objs.size) { s with heap:=h' }) :
  wpAny (model prog w) A (Builtin.«zip.__next__» ⟨[.ref z],[]⟩) (λfin s'=>∃v,fin=.done (.ret v)/\Q v s') E s:=by
 show wpAny _ _ (field (.ref z) 2 >>= _) _ _ _;refine b5w (b6v hz rfl (x:=.bool false) rfl ?_);show wpAny _ _ (field (.ref z) 3 >>= _) _ _ _;refine b5w (b6v hz rfl (x:=.ref TI) rfl (b5w (b6G hTI rfl ?_)));show wpAny _ _ (Builtin.SmallTypes.ownedTupleIsFree (.ref z) >>= _) _ _ _;refine b5w ?_;unfold Builtin.SmallTypes.ownedTupleIsFree;refine b5w (b6v hz rfl (x:=rawInt a) rfl ?_);show wpAny _ _ (loadIfAlive ((a:Int)).toNat >>= _) _ _ _;refine b5w (a5x ?_);rw[show((a:Int)).toNat=a by omega];show wpAny _ _ (if (s.heap.get? a).isNone=true then _ else _) _ _ _;rw[ha,if_neg (by simp)];refine b5w (b6v hz rfl (x:=.bool fl) rfl ?_);have fin:∀g1 g2 g3,ZnO g1 z TI TO a true->Heap.SameBut z s.heap g1\/g1=s.heap->Heap.SameBut i1 g1 g2->SIt ka g2 i1 l1 (n+1)->Heap.SameBut i2 g2 g3->SIt kb g3 i2 l2 (n+1) ->
   Q (.ref g3.objs.size) { s with heap:=g3.push { cls:=.type "tuple",data:=.seq #[x,y] } }:=λg1 g2 g3 z1 b1 b2 h12 b3 h23=>by
  have sz1:g1.objs.size=s.heap.objs.size:=by rcases b1 with b|b;exact b.1;rw[b]
  have sz:g3.objs.size=s.heap.objs.size:=by rw[b3.1,b2.1,sz1]
  have k1:∀c o,c≠z->s.heap.get? c=some o->g1.get? c=some o:=λc o hc e=>by rcases b1 with b|b;exact b.extBut _ _ hc e;rw[b];exact e
  rw[sz];refine hQ _ (b5y _ (b3.extBut _ _ D.i2z.symm (b2.extBut _ _ D.i1z.symm z1))) (h12.at λo e=>b5y _ (b3.extBut _ _ D.i12 e)) (h23.at λo e=>b5y _ e) ?_ λc o c1 c2 c3 e=>b5y _ (b3.extBut _ _ c3 (b2.extBut _ _ c2 (k1 c o c1 e)));rw[<-sz];exact b5D _ rfl
 cases fl with
 | true =>
  refine b5A ?_;simp only[b6j,b7L];refine b5w ?_;rw[<-b7z];simp only[b8a,b9a];refine b5w (b5w (b6d ?_));show wpAny _ _ (Builtin.SmallTypes.nextOf (.ref i1) >>= _) _ _ _;refine b5w (a6c h1 hl1 hx λg2 h12 b2=>b5A ?_);refine b5A ?_;refine b5w (b5w (b6d ?_));show wpAny _ _ (Builtin.SmallTypes.nextOf (.ref i2) >>= _) _ _ _;refine b5w (a6c (s:={ s with heap:=g2 }) (h2.at λo e=>b2.extBut _ _ D.i12.symm e) (hl2.at λo e=>b2.extBut _ _ D.l2i1 e) hy λg3 h23 b3=>b5A ?_);refine b5A (b5A ?_);refine b5w (b8F ?_ (by show 2<=sizeLine;decide));exact b5A ⟨_,rfl,fin s.heap g2 g3 hz (.inr rfl) b2 h12 b3 h23⟩
 | false =>
  show wpAny _ _ (setField (.ref z) 1 (.bool true) >>= _) _ _ _;refine b5w (b6C hz (by simp) λg1 z1 b1=>?_)
  replace z1:ZnO g1 z TI TO a true:=z1
  refine b5A ?_;simp only[b6j,b7L];refine b5w ?_;rw[<-b7z];simp only[b8a,b9a];refine b5w (b5w (b6d ?_));show wpAny _ _ (Builtin.SmallTypes.nextOf (.ref i1) >>= _) _ _ _;refine b5w (a6c (s:={ s with heap:=g1 }) (h1.at λo e=>b1.extBut _ _ D.i1z e) (hl1.at λo e=>b1.extBut _ _ D.l1z e) hx λg2 h12 b2=>b5A ?_);refine b5A ?_;refine b5w (b5w (b6d ?_));show wpAny _ _ (Builtin.SmallTypes.nextOf (.ref i2) >>= _) _ _ _;refine b5w (a6c (s:={ s with heap:=g2 }) (h2.at λo e=>b2.extBut _ _ D.i12.symm (b1.extBut _ _ D.i2z e)) (hl2.at λo e=>b2.extBut _ _ D.l2i1 (b1.extBut _ _ D.l2z e)) hy λg3 h23 b3=>b5A ?_);refine b5A (b5A ?_);refine b5w (b8F ?_ (by show 2<=sizeLine;decide));exact b5A ⟨_,rfl,fin g1 g2 g3 z1 (.inl b1) b2 h12 b3 h23⟩
theorem a9F {Q:Option Value->Shared->Prop} (D:ZipApart z TI TO i1 i2 l1 l2) (hz:ZnO s.heap z TI TO a fl) (hTI:IsPair s.heap TI (.ref i1) (.ref i2)) (ha:s.heap.get? a=some oa) (az:a≠z) (h1:SIt ka s.heap i1 l1 n) (h2:SIt kb s.heap i2 l2 n) (hl1:SAt ka s.heap l1 xs) (hl2:SAt kb s.heap l2 ys) (hx:xs[n]?=some x) (hy:ys[n]?=some y)
  (hQ:∀h',ZnO h' z TI TO a true->SIt ka h' i1 l1 (n+1)->SIt kb h' i2 l2 (n+1)->IsPair h' s.heap.objs.size x y ->
   (∀c o,c≠z->c≠i1->c≠i2->s.heap.get? c=some o->h'.get? c=some o)->Q (some (.ref s.heap.objs.size)) { s with heap:=h' }):wpAny (model prog w) A (pyNext (.ref z)) Q E s:=by
 have hT:s.TypeIs (.ref z) "zip":=⟨_,hz,rfl⟩
 unfold pyNext;exact b5w (b7N (b6s (name:=Str.ofString "__next__") hT b8b (b6i b8b hT b9T
  (a9E D hz hTI ha az h1 h2 hl1 hl2 hx hy λh' a1 a2 a3 a4 a5=>b5A (hQ h' a1 a2 a3 a4 a5)) (b9A _))))
theorem a9G {Q:Option Value->Shared->Prop} (hh:A.handled=none) (D:ZipApart z TI TO i1 i2 l1 l2) (hz:ZnO s.heap z TI TO a fl) (hTI:IsPair s.heap TI (.ref i1) (.ref i2)) (ha:s.heap.get? a=some oa) (az:a≠z) (h1:SIt ka s.heap i1 l1 n) (hl1:SAt ka s.heap l1 xs) (hx:xs[n]?=none)
  (hQ:∀h',(∀c o,c≠z->c≠i1->s.heap.get? c=some o->h'.get? c=some o)->Q none { s with heap:=h' }):wpAny (model prog w) A (pyNext (.ref z)) Q E s:=by
 have hT:s.TypeIs (.ref z) "zip":=⟨_,hz,rfl⟩
 unfold pyNext;refine b5w (b7N (b6s (name:=Str.ofString "__next__") hT b8b (b6i b8b hT b9T ?_ (b9A _))));show wpAny _ _ (field (.ref z) 2 >>= _) _ _ _;refine b5w (b6v hz rfl (x:=.bool false) rfl ?_);show wpAny _ _ (field (.ref z) 3 >>= _) _ _ _;refine b5w (b6v hz rfl (x:=.ref TI) rfl (b5w (b6G hTI rfl ?_)));show wpAny _ _ (Builtin.SmallTypes.ownedTupleIsFree (.ref z) >>= _) _ _ _;refine b5w ?_;unfold Builtin.SmallTypes.ownedTupleIsFree;refine b5w (b6v hz rfl (x:=rawInt a) rfl ?_);show wpAny _ _ (loadIfAlive ((a:Int)).toNat >>= _) _ _ _;refine b5w (a5x ?_);rw[show((a:Int)).toNat=a by omega];show wpAny _ _ (if (s.heap.get? a).isNone=true then _ else _) _ _ _;rw[ha,if_neg (by simp)];refine b5w (b6v hz rfl (x:=.bool fl) rfl ?_);cases fl with
 | true =>
  refine b5A ?_;simp only[b6j,b7L];refine b5w ?_;rw[<-b7z];simp only[b8a,b9a];refine b5w (b5w (b6d ?_));show wpAny _ _ (Builtin.SmallTypes.nextOf (.ref i1) >>= _) _ _ _;refine b5w (endS hh h1 hl1 hx λg2 e b2 he=>?_);obtain⟨o,ho,hc⟩:=he;exact b5w (b7V (T:="StopIteration") (b:=true) ⟨o,ho,hc⟩ b9H (b5A (hQ _ λc o c1 c2 q=>b2 _ _ c2 q)))
 | false =>
  show wpAny _ _ (setField (.ref z) 1 (.bool true) >>= _) _ _ _;refine b5w (b6C hz (by simp) λg1 z1 b1=>?_);refine b5A ?_;simp only[b6j,b7L];refine b5w ?_;rw[<-b7z];simp only[b8a,b9a];refine b5w (b5w (b6d ?_));show wpAny _ _ (Builtin.SmallTypes.nextOf (.ref i1) >>= _) _ _ _;refine b5w (endS (s:={ s with heap:=g1 }) hh (h1.at λo e=>b1.extBut _ _ D.i1z e) (hl1.at λo e=>b1.extBut _ _ D.l1z e) hx λg2 e b2 he=>?_);obtain⟨o,ho,hc⟩:=he;exact b5w (b7V (T:="StopIteration") (b:=true) ⟨o,ho,hc⟩ b9H (b5A (hQ _ λc o c1 c2 q=>b2 _ _ c2 (b1.extBut _ _ c1 q))))
end
section
variable {X:Cx} {pins:List (Addr × Obj)} {σ:St} {H:Hp} {ka kb:Bool} {z TI TO i1 i2 l1 l2 S:Addr} {xs ys:List V} {res:Value} {R:Result->Shared->Prop}
def ZnS (h:Heap) (z TI TO i1 i2 S:Addr):Prop:=(IsZip h z TI TO .none/\∃a b,IsPair h TO a b)\/∃a fl oa,ZnO h z TI TO a fl/\h.get? a=some oa/\a≠z/\a≠i1/\a≠i2/\a≠S
def PrsZ (H:Hp) (xs ys zs:List V):Prop:=∀(i:Nat) q,zs[i]?=some q->∃(t:Addr) (x y:V),q=.ref t/\xs[i]?=some x/\ys[i]?=some y/\H t=some (.tup [x,y])
theorem zl_go {A:Around} (hA:A.handled=none) (D:ZipApart z TI TO i1 i2 l1 l2) (hl9:xs.length<=1000) (hlen:xs.length=ys.length) (fp:∀b∈[z,TI,TO,i1,i2,S],∀H',H' b=none->a2F X pins H' b) (nS:S∉[z,TI,TO,i1,i2])
  (hK1:∀{H':Hp},a0m H H'->SqK X.K ka H' l1 xs) (hK2:∀{H':Hp},a0m H H'->SqK X.K kb H' l2 ys)
  (hR:∀s' Hn zs (acc:Array Value) c,Inv X pins σ Hn s'->a0m H Hn->Hn S=none->s'.heap.get? S=some { cls:=.type "list",dict:=none,data:=.seq acc c,slots:=#[] }->a0w zs acc.toList->zs.length=xs.length->PrsZ Hn xs ys zs->R (.ok (.ret res)) s') :
  ∀(m n:Nat) (s:Shared) (Hn:Hp) (zs:List V) (acc:Array Value) (c:Nat),xs.length-n=m->n<=xs.length->Inv X pins σ Hn s->a0m H Hn->ZnS s.heap z TI TO i1 i2 S->IsPair s.heap TI (.ref i1) (.ref i2)->SIt ka s.heap i1 l1 n->SIt kb s.heap i2 l2 n->(∀b∈[z,TI,TO,i1,i2,S],Hn b=none/\b<s.heap.objs.size) ->
   s.heap.get? S=some { cls:=.type "list",dict:=none,data:=.seq acc c,slots:=#[] }->a0w zs acc.toList->zs.length=n->PrsZ Hn xs ys zs ->
   codeAny (model X.prog X.w) A (.builtin "list.extend.loop" ⟨[.ref S,.ref z,res],[]⟩) R s:=by
 have Sz:S≠z:=λe=>nS (by simp[e]);have STI:S≠TI:=λe=>nS (by simp[e]);have STO:S≠TO:=λe=>nS (by simp[e]);have Si1:S≠i1:=λe=>nS (by simp[e]);have Si2:S≠i2:=λe=>nS (by simp[e]);intro m
 induction m with
 | zero =>
  intro n s Hn zs acc c hm hn J sm zn hTI h1 h2 fr hS hv ly pr;have en':n=xs.length:=by omega
  obtain⟨us,r1,p1⟩:=a8F J (hK1 sm);obtain⟨vs,r2,p2⟩:=a8F J (hK2 sm);have e1:=r1.length;refine b6q b9d ?_;rw[b5Z b7s _];show wpAny _ A.in1 (pyNext (.ref z) >>= _) _ _ s;have fin:∀h',(∀c o,c≠z->c≠TO->c≠i1->c≠i2->s.heap.get? c=some o->h'.get? c=some o)->R (.ok (.ret res)) { s with heap:=h' }:=λh' kk=>by
   have J1:Inv X pins σ Hn { s with heap:=h' }:=J.turnedL (t':=s.toks) (L:=[z,TO,i1,i2]) (λb o hb e=>by
    simp only[b5Q,b6L,b8K,not_or] at hb;exact kk b o hb.1 hb.2.1 hb.2.2.1 hb.2.2.2 e) (λb hb=>fp b (by simp at hb ⊢;rcases hb with h|h|h|h<;>simp[h]) Hn (fr b (by simp at hb ⊢;rcases hb with h|h|h|h<;>simp[h])).1)
   exact hR _ Hn zs acc c J1 sm (fr S (by simp)).1 (kk S _ Sz STO Si1 Si2 hS) hv (by omega) pr
  rcases zn with ⟨hz,a,b,hTO⟩|⟨a,fl,oa,hz,ha,az,ai1,ai2,aS⟩
  ·exact b5w (a5l (by show A.handled=none;exact hA) D ⟨hz,hTI,⟨a,b,hTO⟩,h1,h2⟩ p1 p2 (.inl (by simp;omega)) λh' kk=>b5A (fin h' kk))
  ·exact b5w (a9G (by show A.handled=none;exact hA) D hz hTI ha az h1 p1 (by simp;omega) λh' kk=>b5A (fin h' λc o c1 _ c3 _ e=>kk c o c1 c3 e))
 | succ m ih =>
  intro n s Hn zs acc c hm hn J sm zn hTI h1 h2 fr hS hv ly pr;have hlt:n<xs.length:=by omega
  obtain⟨us,r1,p1⟩:=a8F J (hK1 sm);obtain⟨vs,r2,p2⟩:=a8F J (hK2 sm);have hx:xs[n]?=some xs[n]:=b5z hlt;have hy:ys[n]?=some (ys[n]'(by omega)):=b5z _;obtain⟨u,hu,ru⟩:=r1.get hx;obtain⟨v,hv',rv⟩:=r2.get hy;have hT:Hn s.heap.objs.size=none:=J.hok.fresh (b5G _);refine b6q b9d ?_;rw[b5Z b7s _];show wpAny _ A.in1 (pyNext (.ref z) >>= _) _ _ s;have go:∀h',ZnS h' z TI TO i1 i2 S->SIt ka h' i1 l1 (n+1)->SIt kb h' i2 l2 (n+1)->IsPair h' s.heap.objs.size u v->(∀c o,c≠z->c≠TO->c≠i1->c≠i2->s.heap.get? c=some o->h'.get? c=some o) ->
    wpAny (model X.prog X.w) A.in1 (updateSeq S (·.push (.ref s.heap.objs.size)) >>= λ_=>(again (.builtin "list.extend.loop" ⟨[.ref S,.ref z,res],[]⟩):Sem Fin)) (λfin s'=>match fin with | .done f=>R (.ok f) s' | .again c'=>c'.quiet=true/\codeAny (model X.prog X.w) A c' R s') (λe s'=>R (.error e) s') { s with heap:=h' }:=λh' zn' h1' h2' pr' kk=>by
   have hS':h'.get? S=some { cls:=.type "list",dict:=none,data:=.seq acc c,slots:=#[] }:=kk S _ Sz STO Si1 Si2 hS;have I1:Inv X pins σ (upd Hn s.heap.objs.size (.tup [xs[n],ys[n]'(by omega)])) { s with heap:=s.heap.push { cls:=.type "tuple",data:=.seq #[u,v] } }:=J.laid (t':=s.toks) (λb u e=>b5y _ e) (b5G _) ⟨by show 2<=sizeLine;decide,[u,v],.cons ru (.cons rv .nil),⟨_,b5D _ rfl,_,rfl⟩⟩;have zz:∀{b:Addr},b∈[z,TI,TO,i1,i2,S]->upd Hn s.heap.objs.size (.tup [xs[n],ys[n]'(by omega)]) b=none:=λ{b} hb=>by rw[a0h (b5O (fr b hb).2)];exact(fr b hb).1
   have I2:=I1.turnedL (h':=h') (t':=s.toks) (L:=[z,TO,i1,i2]) (λc o hc e=>by
    simp only[b5Q,b6L,b8K,not_or] at hc;by_cases zc:c=s.heap.objs.size
    ·subst zc;rw[b5D _ rfl] at e;cases e;exact pr'
    ·have e':s.heap.get? c=some o:=by rw[<-e];exact(c0I _ _ _ zc).symm
     exact kk c o hc.1 hc.2.1 hc.2.2.1 hc.2.2.2 e') (λb hb=>fp b (by simp at hb ⊢;rcases hb with h|h|h|h<;>simp[h]) _ (zz (by simp at hb ⊢;rcases hb with h|h|h|h<;>simp[h])))
   have s2:=a0c hT (.tup [xs[n],ys[n]'(by omega)]);obtain⟨g0,g1,g2,g3,g4,g5⟩:=fp S (by simp) _ (zz (by simp));have sz:acc.size=n:=by rw[<-b6a,<-hv.length,ly]
   refine b5w (b7r hS' rfl (b5A ⟨b6D b7s _,?_⟩) (by rw[sz];show n<=sizeLine;exact small (by omega)) (by show(acc.push _).size<=sizeLine+1;rw[Array.size_push,sz];have:=small (n:=n) (by omega);omega));have ltp:s.heap.objs.size<h'.objs.size:=b5F pr';refine ih (n+1) _ _ (zs++[.ref s.heap.objs.size]) (acc.push (.ref s.heap.objs.size)) _ (by omega) (by omega) (I2.turned (t':=s.toks) (λb o hb e=>by rw[b5P _ _ _ _ hb];exact e) g0 g1 g3 g4 g5) (sm.trans s2) ?_ ?_ (h1'.at λo e=>by rw[b5P _ _ _ _ Si1.symm];exact e) (h2'.at λo e=>by rw[b5P _ _ _ _ Si2.symm];exact e) (λb hb=>⟨zz hb,?_⟩) (b7d _ hS' rfl) ?_ (by rw[b5J,ly];rfl) ?_
   ·rcases zn' with ⟨hz,a,b,hTO⟩|⟨a,fl,oa,hz,ha,az,ai1,ai2,aS⟩
    ·exact .inl ⟨by rw[IsZip,b5P _ _ _ _ Sz.symm];exact hz,a,b,by rw[IsPair,b5P _ _ _ _ STO.symm];exact hTO⟩
    ·exact .inr ⟨a,fl,oa,by rw[ZnO,b5P _ _ _ _ Sz.symm];exact hz,by rw[b5P _ _ _ _ aS];exact ha,az,ai1,ai2,aS⟩
   ·rw[IsPair,b5P _ _ _ _ STI.symm];exact kk TI _ D.TIz D.TITO D.TIi1 D.TIi2 hTI
   ·rw[b9c];exact c0v (fr b hb).2 ltp
   ·rw[Array.toList_push];exact Paired.appendP hv (.cons rfl .nil)
   ·intro i q hq;rcases Nat.lt_or_ge i zs.length with lt|ge
    ·rw[b6T lt] at hq;obtain⟨t,x,y,e,hxi,hyi,ht⟩:=pr i q hq;exact⟨t,x,y,e,hxi,hyi,s2 _ _ ht⟩
    ·rw[b6w ge] at hq;have hk:i-zs.length=0:=by
      have:=(b5E.mp hq).1;simp at this;omega
     rw[hk] at hq;cases hq;have:i=n:=by omega
     subst this;exact⟨_,_,_,rfl,hx,hy,a0b⟩
  rcases zn with ⟨hz,a,b,hTO⟩|⟨a,fl,oa,hz,ha,az,ai1,ai2,aS⟩
  ·exact b5w (a5k D ⟨hz,hTI,⟨a,b,hTO⟩,h1,h2⟩ p1 p2 (x:=u) (y:=v) (by simpa using hu) (by simpa using hv') λh' z1 t1 a1 a2 pr' kk=>go h' (.inr ⟨_,false,_,z1,pr',b6o (fr z (by simp)).2,b6o (fr i1 (by simp)).2,b6o (fr i2 (by simp)).2,b6o (fr S (by simp)).2⟩) a1 a2 pr' kk)
  ·exact b5w (a9F D hz hTI ha az h1 h2 p1 p2 (x:=u) (y:=v) (by simpa using hu) (by simpa using hv') λh' z1 a1 a2 pr' kk=>go h' (.inr ⟨a,true,oa,z1,kk a oa az ai1 ai2 ha,az,ai1,ai2,aS⟩) a1 a2 pr' λc o c1 _ c3 c4 e=>kk c o c1 c3 c4 e)
end
theorem a9H:typeLookup (.type "zip") "__len__"=pure none:=by rw[c0r,b8Q];kernel_rfl
theorem a8n:typeLookup (.type "zip") "__length_hint__"=pure none:=by rw[c0r,b8Q];kernel_rfl
section
variable {X:Cx} {pins:List (Addr × Obj)} {σ:St} {H:Hp} {ka kb:Bool} {z TI TO i1 i2 l1 l2:Addr} {xs ys:List V} {s:Shared} {E:Value->Shared->Prop}
def CZ (X:Cx) (pins:List (Addr × Obj)) (σ:St) (H:Hp) (S:Addr) (xs ys:List V) (q:Result) (s':Shared):Prop:=∃Hn zs acc c,q=.ok (.ret (.ref S))/\Inv X pins σ Hn s'/\a0m H Hn/\s'.heap.get? S=some { cls:=.type "list",dict:=none,data:=.seq acc c,slots:=#[] }/\a0w zs acc.toList/\zs.length=xs.length/\PrsZ Hn xs ys zs
theorem a6g {A:Around} {R:List Value->Shared->Prop} (hA:A.handled=none) (J:Inv X pins σ H s) (D:ZipApart z TI TO i1 i2 l1 l2) (Z:ZAt ka kb z TI TO i1 i2 l1 l2 0 s.heap) (hl9:xs.length<=1000) (hlen:xs.length=ys.length) (fp:∀b∈[z,TI,TO,i1,i2],∀H',H' b=none->a2F X pins H' b) (fr:∀b∈[z,TI,TO,i1,i2],H b=none)
  (hK1:∀{H':Hp},a0m H H'->SqK X.K ka H' l1 xs) (hK2:∀{H':Hp},a0m H H'->SqK X.K kb H' l2 ys)
  (hR:∀s' Hn zs its,Inv X pins σ Hn s'->a0m H Hn->a0w zs its->zs.length=xs.length->PrsZ Hn xs ys zs->R its s') :
  wpAny (model X.prog X.w) A (collect (.ref z)) R E s:=by
 have ltz:∀b∈[z,TI,TO,i1,i2],b<s.heap.objs.size:=λb hb=>by
  obtain⟨o,ho,_⟩:=Z.obj b hb;exact b5F ho
 unfold collect;refine b5w (c0B (b6q entry_proto_collect' ?_));rw[b5Z c0q _];show wpAny _ A.in1 (newList [] >>= λl=>again (.builtin "list.__iadd__" ⟨[l,.ref z],[]⟩)) _ _ s;refine b5w (b6p ?_);refine b5A ⟨b6D b8w _,b6q entry_list_iadd' ?_⟩;rw[b5Z b8w _];have hS1:(s.heap.push { cls:=.type "list",data:=.seq ([]:List Value).toArray }).get? s.heap.objs.size=some { cls:=.type "list",dict:=none,data:=.seq #[] 0,slots:=#[] }:=b5D _ rfl;show wpAny _ A.in1 (Builtin.List.listExtendWith (.ref s.heap.objs.size) (.ref z) (.ref s.heap.objs.size)) _ _ _;have up:∀b o,s.heap.get? b=some o->(s.heap.push { cls:=.type "list",data:=.seq ([]:List Value).toArray }).get? b=some o:=λb o e=>b5y _ e;have key:wpAny (model X.prog X.w) A.in1 (Builtin.List.listExtendWith (.ref s.heap.objs.size) (.ref z) (.ref s.heap.objs.size))
   (λfin s'=>match fin with | .done f=>CZ X pins σ H s.heap.objs.size xs ys (.ok f) s' | .again c'=>c'.quiet=true/\codeAny (model X.prog X.w) A c' (CZ X pins σ H s.heap.objs.size xs ys) s')
   (λe s'=>False) { s with heap:=s.heap.push { cls:=.type "list",data:=.seq ([]:List Value).toArray } }:=by
  generalize eg:s.heap.push { cls:=.type "list",data:=.seq ([]:List Value).toArray }=g at hS1 up ⊢;have hz2:IsZip g z TI TO .none:=up _ _ Z.zp;have hT:Shared.TypeIs { s with heap:=g } (.ref z) "zip":=⟨_,hz2,rfl⟩
  have nSz:s.heap.objs.size≠z:=b6o (ltz z (by simp));have hsr:Builtin.List.listSameRef (.ref s.heap.objs.size) (.ref z)=false:=by simp[Builtin.List.listSameRef,nSz]
  unfold Builtin.List.listExtendWith;refine b5w (b9k hT ?_);rw[if_neg (by rw[hsr];decide)];refine b5w (c0Y (s:={ s with heap:=g }) hz2 ?_);refine b5w (b6d ?_);unfold Builtin.List.listLengthHint;refine b5w (b8o hT a9H ?_);show wpAny _ _ (specialOf (Value.ref z) (Str.ofString "__length_hint__") >>= _) _ _ _;refine b5w (b8o hT a8n ?_);refine b5A ?_;show wpAny _ _ (rule "list.extend.makes-room" >>= λ_=>Builtin.List.listTouch (.ref s.heap.objs.size) >>= λ_=>(again (.builtin "list.extend.loop" ⟨[.ref s.heap.objs.size,.ref z,.ref s.heap.objs.size],[]⟩):Sem Fin)) _ _ _;refine b5w (b7K (b5w ?_));show wpAny _ _ (updateSeq s.heap.objs.size (·.push .none) >>= λ_=>updateSeq s.heap.objs.size (·.pop)) _ _ _;refine b5w (b7r hS1 rfl ?_);have hS3:=b7d (Obj.mapSeq (λa:Array Value=>a.push .none)) hS1 rfl;refine b7r hS3 rfl (b5A ⟨b6D b7s _,?_⟩);have hS4:=b7d (Obj.mapSeq (λa:Array Value=>a.pop)) hS3 rfl;have up4:∀b o,s.heap.get? b=some o->((g.update s.heap.objs.size (Obj.mapSeq (λa:Array Value=>a.push .none))).update s.heap.objs.size (Obj.mapSeq (λa:Array Value=>a.pop))).get? b=some o:=λb o e=>by
   have hb:b≠s.heap.objs.size:=b5O (b5F e);rw[b5P _ _ _ _ hb,b5P _ _ _ _ hb];exact up b o e
  show codeAny _ _ _ _ { s with heap:=(g.update s.heap.objs.size (Obj.mapSeq (λa:Array Value=>a.push .none))).update s.heap.objs.size (Obj.mapSeq (λa:Array Value=>a.pop)) };have szg:((g.update s.heap.objs.size (Obj.mapSeq (λa:Array Value=>a.push .none))).update s.heap.objs.size (Obj.mapSeq (λa:Array Value=>a.pop))).objs.size=s.heap.objs.size+1:=by rw[b9c,b9c,<-eg];exact b6h _ _
  generalize (g.update s.heap.objs.size (Obj.mapSeq (λa:Array Value=>a.push .none))).update s.heap.objs.size (Obj.mapSeq (λa:Array Value=>a.pop))=g' at hS4 up4 szg ⊢;have J4:Inv X pins σ H { s with heap:=g' }:=J.kept (t':=s.toks) up4;obtain⟨to1,to2,hTO⟩:=Z.to_;refine zl_go (A:=A) (H:=H) (S:=s.heap.objs.size) hA D hl9 hlen (λb hb H' hn=>?_) (λhb=>absurd (ltz _ hb) (b6A _)) (λ{H'} sm=>hK1 sm) (λ{H'} sm=>hK2 sm) (λs' Hn zs acc c Jn sm nS gS hv ly pr=>⟨Hn,zs,acc,c,rfl,Jn,sm,gS,hv,ly,pr⟩) xs.length 0 { s with heap:=g' } H [] _ _ rfl (b6e _) J4 (a0m.refl _) (.inl ⟨up4 _ _ Z.zp,to1,to2,up4 _ _ hTO⟩) (up4 _ _ Z.ti) (Z.a1.at λo e=>up4 _ _ e) (Z.a2.at λo e=>up4 _ _ e) (λb hb=>?_) hS4 .nil rfl (λi y hy=>by simp at hy)
  ·by_cases hbS:b=s.heap.objs.size
   ·rw[hbS];exact J.fpOk (b5G _) (by rw[<-hbS];exact hn)
   ·exact fp b (by simp at hb ⊢;rcases hb with h|h|h|h|h|h<;>first|exact absurd h hbS|simp[h]) H' hn
  ·by_cases hbS:b=s.heap.objs.size
   ·rw[hbS];exact⟨J.hok.fresh (b5G _),by show _<g'.objs.size;rw[szg];exact b7T _⟩
   ·have hb':b∈[z,TI,TO,i1,i2]:=by simp at hb ⊢;rcases hb with h|h|h|h|h|h<;>first|exact absurd h hbS|simp[h]
    exact⟨fr b hb',by show _<g'.objs.size;rw[szg];exact c0M (ltz b hb')⟩
 refine b7Y key (λfin s' x=>?_) λe s' x=>x.elim;cases fin with
 | done f =>
  obtain⟨Hn,zs,acc,c,e,Jn,sm,gS,hv,ly,pr⟩:=x;cases e;show wpAny _ A (load s.heap.objs.size >>= _) _ _ _;refine b5w (c0i gS ?_);exact b5A (hR s' Hn zs acc.toList Jn sm hv ly pr)
 | again c₁ =>
  refine⟨x.1,b7y x.2 λq s₂ y=>?_⟩;obtain⟨Hn,zs,acc,c,rfl,Jn,sm,gS,hv,ly,pr⟩:=y;show wpAny _ A (load s.heap.objs.size >>= _) _ _ _;refine b5w (c0i gS ?_);exact b5A (hR s₂ Hn zs acc.toList Jn sm hv ly pr)
end
theorem a3P {α β:Type} {R:α->β->Prop}:∀{xs:List α} {ys:List β},xs.length=ys.length->(∀(i:Nat) x y,xs[i]?=some x->ys[i]?=some y->R x y)->Paired R xs ys
 | [],[],_,_=>.nil
 | [],_::_,h,_=>by cases h
 | _::_,[],h,_=>by cases h
 | x::xs,y::ys,h,k=>.cons (k 0 x y rfl rfl) (a3P (by simpa using h) λi a b ha hb=>k (i+1) a b (by simpa using ha) (by simpa using hb))
def tSortZ (K:PySem.W.Frag) (ka kb:Bool) (ta:TA):TE:=λσ H Q=>ta σ H λvs H1=>∃(a b:Addr) (ys:List V) (ws:List (Int × List Int)),vs=[.ref a,.ref b]/\(∀{H'},a0m H1 H'->SqK K ka H' a (ws.map λq=>V.int q.1))/\(∀{H'},a0m H1 H'->SqK K kb H' b ys)/\Ws H1 ys (ws.map Prod.snd)/\ws.length<=63/\ws.Nodup /\
 ∀p H' out us,a0m H1 H'->H' p=some (.lst out)->Paired (RPw H') out us->us.Perm ws->us.Pairwise LxP->Q (.ref p) H'
theorem b1O {X:Cx} {a b:Expr} {ta:TA} {p p2 pos pos2:Pos} (ka kb:Bool) (hc:X.calm=true) (hu:X.A.units+4<cLine) (hg:Gl X "sorted") (hm:X.mg "sorted"=none) (hg2:Gl X "zip") (hm2:X.mg "zip"=none) (ha:PA X [a,b] ta)
  (hs:starEach [.Call (.Name "zip" p2) [a,b] [] pos2] X.env=(false,eval (.Call (.Name "zip" p2) [a,b] [] pos2) X.env)::starEach [] X.env:=by rfl) (hs1:starEach [a,b] X.env=[(false,eval a X.env),(false,eval b X.env)]:=by rfl) (hs2:starEach [b] X.env=[(false,eval b X.env)]:=by rfl) :
  PE X (.Call (.Name "sorted" p) [.Call (.Name "zip" p2) [a,b] [] pos2] [] pos) (tSortZ X.K ka kb ta):=by
 intro pins s σ H Q I h;refine b6y (a1i I hg hm a1g ?_ (by decide) (by decide));refine b8q ?_ hs rfl;rw[hs];refine b8J ?_;refine b6y (a1i I hg2 hm2 b_zip ?_ (by decide) (by decide));refine b6Y (thn (ha pos2 pins s σ H _ I h) λus s1 ⟨vs,H1,I1,r1,q1⟩=>?_) (by rw[hs1,hs2]) (by rw[hs2];rfl);obtain⟨a',b',ys,ws,e,hK1,hK2,hw,h9,nd,q⟩:=q1;subst e;obtain⟨u,v,rfl,r1,r2⟩:=r1.two;cases r1;cases r2;obtain⟨us,e1,p1⟩:=a8F I1 (hK1 (a0m.refl _));obtain⟨vs,e2,p2⟩:=a8F I1 (hK2 (a0m.refl _));have lt:∀{k:Bool} {l:Addr} {zs:Array Value},SAt k s1.heap l zs->l<s1.heap.objs.size:=λ{k l zs} x=>by
  cases k with
  | true=>obtain⟨o,ho,_⟩:=x;exact b5F ho
  | false=>obtain⟨o,ho,_⟩:=x;exact b5F ho
 have t1:=lt p1;have t2:=lt p2;refine callS p1 p2 λh' Z kp=>?_;refine b8W ?_;have D:ZipApart (s1.heap.objs.size+4) (s1.heap.objs.size+2) (s1.heap.objs.size+3) s1.heap.objs.size (s1.heap.objs.size+1) a' b':=by
  have t1':@LT.lt Nat _ a' s1.heap.objs.size:=t1;have t2':@LT.lt Nat _ b' s1.heap.objs.size:=t2;constructor<;>(show ¬(@Eq Nat _ _);omega)
 have J:Inv X pins σ H1 { s1 with heap:=h' }:=I1.kept (t':=s1.toks) kp;have ge:∀c∈[s1.heap.objs.size+4,s1.heap.objs.size+2,s1.heap.objs.size+3,s1.heap.objs.size,s1.heap.objs.size+1],s1.heap.objs.size<=c:=λc hc=>by
  simp only[b5Q,b6L,b8K] at hc;rcases hc with rfl|rfl|rfl|rfl|rfl<;>omega
 have ly:ys.length=ws.length:=by rw[hw.length,b5x]
 refine b8j c0p b9M b9N (args_sorted1 _) ?_;unfold Builtin.«sorted»;refine b5w (m:=checkCount "sorted" 1 1 _) (b5A ?_);refine b5w (a6g (H:=H1) (xs:=ws.map λq=>V.int q.1) (ys:=ys) (show X.A.in1.handled=none from I.ok.hd hc) J D Z (by rw[b5x];omega) (by rw[b5x,ly]) (λc hc H' hn=>I1.fpOk (ge c hc) hn) (λc hc=>I1.hok.fresh (ge c hc)) (λ{H'} sm=>hK1 sm) (λ{H'} sm=>hK2 sm) λs2 Hn zs its Jn sm hv lz pr=>?_);rw[b5x] at lz;have li:its.length=ws.length:=by rw[<-hv.length,lz]
 have hp:Paired (RPw Hn) zs ws:=by
  refine a3P (by omega) λi q w hq hwi=>?_;obtain⟨t,x,y,rfl,hx,hy,ht⟩:=pr i q hq;rw[b5L,hwi] at hx;cases hx;obtain⟨w',hw',rw'⟩:=Paired.right_of hw i y hy;rw[b5L,hwi] at hw';cases hw';exact⟨t,y,rfl,ht,Wd.same sm rw'⟩
 have tup:∀i,i<its.length->PrN s2.heap (its.getD i Value.none) (ws.getD i (0,[])):=λi hi=>by
  have hy:zs[i]?=some (zs[i]'(by omega)):=b5z _;obtain⟨wd,hwd,t,uu,et,ht,hu2⟩:=Paired.right_of hp i _ hy;obtain⟨u,hu',ru⟩:=hv.get hy;rw[et] at ru;cases ru;obtain⟨_,its2,rv2,it⟩:=a1p ((show a0B X.prog X.w Hn s2.heap t (.tup [.int wd.1,uu]) from Jn.hok _ _ ht));obtain⟨b,eb,hb⟩:=Wd.ti hu2;subst eb;obtain⟨_,its3,rv3,it3⟩:=a1p ((show a0B X.prog X.w Hn s2.heap b (.tup (wd.2.map V.int)) from Jn.hok _ _ hb));have e1:its.getD i Value.none=.ref t:=by rw[b5B,hu'];rfl
  have e2:ws.getD i (0,[])=wd:=by rw[b5B,hwd];rfl
  obtain⟨u1,u2,rfl,r1,r2⟩:=rv2.two;obtain⟨tk,rfl⟩:=r1;cases r2;rw[e1,e2];exact⟨t,_,tk,.ref b,rfl,it,rfl,b,_,rfl,it3,by simpa using a5o rv3⟩
 refine b5w (b7J ?_ (by rw[b6l];omega));show wpAny _ _ _ _ _ { s2 with heap:=s2.heap.push (seqObj "list" its.toArray 0) };have hoL:(s2.heap.push (seqObj "list" its.toArray 0)).get? s2.heap.objs.size=some (seqObj "list" its.toArray 0):=b5D _ rfl;have k2:∀b o,s2.heap.get? b=some o->(s2.heap.push (seqObj "list" its.toArray 0)).get? b=some o:=λb o e=>b5y _ e;have nL:∀b o,s2.heap.get? b=some o->b≠s2.heap.objs.size:=λb o e=>b5O (b5F e);have hLn:Hn s2.heap.objs.size=none:=Jn.hok.fresh (b5G _);refine b5w (b6d (b6i b9b ⟨_,hoL,rfl⟩ b8P (a3M (s:={ s2 with heap:=s2.heap.push (seqObj "list" its.toArray 0) }) hoL (by omega) (by omega) (λi hi=>?_) nd ?_ λh3 p c pm srt hL kp3=>⟨_,rfl,?_⟩) (c0C _)))
 ·exact(tup i hi).keep2 k2
 ·show X.A.units+1+1+1<cLine;omega
 ·have kh:∀b o,s2.heap.get? b=some o->h3.get? b=some o:=λb o e=>kp3 b o (nL b o e) (b5y _ e);have lt:∀i∈p.toList,i<zs.length:=λi hi=>by have:=pm.mem i hi;omega
  have pw:=a3e (xs:=ws) (0,[]) pm (by omega);have I2:Inv X pins σ (upd Hn s2.heap.objs.size (.lst (p.toList.map λi=>zs.getD i .non))) { s2 with heap:=h3,toks:=s2.toks }:=Jn.laid (t':=s2.toks) kh (b5G _) ⟨by rw[b5x,<-b5x (f:=λi=>ws.getD i (0,[])),pw.length_eq,b6l];omega,_,c,Paired.pick hv .non Value.none p.toList lt,hL⟩;have sm2:=a0c hLn (.lst (p.toList.map λi=>zs.getD i .non));exact b5A ⟨_,rfl,.ref s2.heap.objs.size,_,I2,rfl,q _ _ _ (p.toList.map λi=>ws.getD i (0,[])) (sm.trans sm2) a0b (Paired.pick (Paired.mapP hp λ_ _ q=>RPw.same sm2 q) .non (0,[]) p.toList lt) pw srt⟩
inductive Cell where
 | i (n:Int)
 | t (ks:List Int)
deriving DecidableEq
section
variable {prog:Program} {w:World}
def a1x (prog:Program) (w:World) (h:Heap):Value->Cell->Prop
 | v,.i n=>(intKind prog w).is n v=true
 | v,.t ks=>∃b,v=.ref b/\IsTupleKey (intKind prog w) h ks b
def a1D (prog:Program) (w:World):Cell->Int
 | .i n=>(intKind prog w).hash n
 | .t ks=>tupleKeyHash (intKind prog w) ks
def a3i:Cell->Nat
 | .i _=>1
 | .t ks=>ks.length+1
def a1b (prog:Program) (w:World) (h:Heap) (cs:List Cell) (a:Addr):Prop:=∃o items n,h.get? a=some o/\o.cls=.type "tuple"/\o.data=.seq items n/\Paired (a1x prog w h) items.toList cs
theorem a1x.inj {h:Heap} {v:Value} {x y:Cell} (hx:a1x prog w h v x) (hy:a1x prog w h v y):x=y:=by
 cases x with
 | i n =>
  cases y with
  | i m=>rw[(intKind prog w).inj v n m hx hy]
  | t ks =>
   obtain⟨b,rfl,_⟩:=hy;have:=(intKind prog w).byValue n _ hx;simp[carriedByValue] at this
 | t ks =>
  obtain⟨b,rfl,hb⟩:=hx;cases y with
  | i m =>
   have:=(intKind prog w).byValue m _ hy;simp[carriedByValue] at this
  | t ls =>
   obtain⟨c,e,hc⟩:=hy;cases e;rw[hb.inj hc]
theorem a9I {h:Heap} {vs:List Value} {x y:List Cell} (hx:Paired (a1x prog w h) vs x):Paired (a1x prog w h) vs y->x=y:=by
 induction hx generalizing y with
 | nil=>intro hy;cases hy;rfl
 | cons h1 _ ih =>
  intro hy;cases hy with
  | cons h2 t2=>rw[h1.inj h2,ih t2]
theorem a1b.typeIs {s:Shared} {cs:List Cell} {a:Addr} (x:a1b prog w s.heap cs a):s.TypeIs (.ref a) "tuple":=let ⟨o,_,_,ho,hc,_⟩:=x;⟨o,ho,hc⟩
theorem a1b.inj {h:Heap} {a:Addr} {x y:List Cell} (hx:a1b prog w h x a) (hy:a1b prog w h y a):x=y:=by
 obtain⟨o,items,n,ho,_,hd,hi⟩:=hx;obtain⟨o',items',n',ho',_,hd',hi'⟩:=hy;have e:o=o':=b5U (ho.symm.trans ho');subst e;rw[hd] at hd';injection hd' with h1 _;subst h1;exact a9I hi hi'
theorem a1b.keeps {h h':Heap} {cs:List Cell} {a d:Addr} {o:Obj} {es ep} (x:a1b prog w h cs a) (ho:h.get? d=some o) (hd:o.data=.dict es ep) (hs:Heap.SameBut d h h'):a1b prog w h' cs a:=by
 obtain⟨o',items,n,ho',hc,hd',hi⟩:=x;have hne:a≠d:=λz=>by
  rw[z,ho] at ho';cases ho';rw[hd] at hd';cases hd'
 refine⟨o',items,n,(hs.2 a hne).trans ho',hc,hd',Paired.mapP hi λv c hv=>?_⟩;cases c with
 | i m=>exact hv
 | t ks =>
  obtain⟨b,e,hb⟩:=hv;exact⟨b,e,hb.keeps ho hd hs⟩
def a2N (prog:Program) (w:World) (cs:List Cell):Int:=reduceHash (Builtin.Tuple.tupleHashOf (cs.map (a1D prog w)))
def a2q (cs:List Cell):Nat:=(cs.map a3i).sum+1
variable {A:Around} {E:Value->Shared->Prop} {s:Shared}
theorem a9J {v:Value} {c:Cell} {Q:Int->Shared->Prop} (hu:A.units<cLine) (hv:a1x prog w s.heap v c) (h:Q (a1D prog w c) { s with toks:=s.toks+a3i c }):wpAny (model prog w) A (pyHash v) Q E s:=by
 cases c with
 | i n=>exact(intKind prog w).pyHash hv h
 | t ks =>
  obtain⟨b,rfl,hb⟩:=hv;exact wpAny_pyHash_tuple hu hb h
theorem b4n {u v:Value} {c d:Cell} {Q:Bool->Shared->Prop} (hu:A.units<cLine) (h1:a1x prog w s.heap u c) (h2:a1x prog w s.heap v d) (hk:(∃n m,c=.i n/\d=.i m)\/∃k l,c=.t k/\d=.t l) (h:Q (decide (c=d)) s):wpAny (model prog w) A (eqBool u v) Q E s:=by
 rcases hk with ⟨n,m,rfl,rfl⟩|⟨k,l,rfl,rfl⟩
 ·refine(intKind prog w).eqBool (a:=n) (b:=m) h1 h2 ?_;rw[show decide (n=m)=decide (Cell.i n=Cell.i m) from b9W.mpr ⟨λz=>by rw[z],λz=>by cases z;rfl⟩];exact h
 ·obtain⟨a,rfl,ha⟩:=h1;obtain⟨b,rfl,hb⟩:=h2;refine wpAny_eqBool_tuple hu ha hb ?_;rw[show decide (k=l)=decide (Cell.t k=Cell.t l) from b9W.mpr ⟨λz=>by rw[z],λz=>by cases z;rfl⟩];exact h
theorem a5y {cs:List Cell} {a:Addr} {Q:Int->Shared->Prop} (hu:A.units+1<cLine) (hk:a1b prog w s.heap cs a) (h:Q (a2N prog w cs) { s with toks:=s.toks+a2q cs }) :
  wpAny (model prog w) A (pyHash (.ref a)) Q E s:=by
 have hT:=hk.typeIs;obtain⟨o,items,n,ho,_,hd,hi⟩:=hk;unfold pyHash
 first|unfold pyHashByItsType|skip
 first|refine b5w (wpAny_cRoomFor_or (.inr (show A.units<cLine by omega)) ?_)|skip
 refine b5w (b8o hT b8x.lookup ?_);show wpAny _ _ (if (some (Value.builtin "tuple.__hash__")==some Value.none)=true then _ else _) Q E s;rw[if_neg (by rw[beq_builtin_none];exact b5Y)];refine b5w (b8o hT b8x.lookup ?_);show wpAny _ _ (callSpecialIfBoundUnlessNone? (.ref a) "__hash__" _ >>= _) Q E s;refine b5w (wpAny_callSpecialIfBoundUnlessNone?_slot hT b8x (b6i b8x hT PySem.F.entry_tuple_hash ?_ (PySem.F.args_tuple_hash_1 _)));show wpAny _ _ (Builtin.Tuple.tupleItemsOf (.ref a) >>= _) _ _ s;refine b5w (c0x ho hd ?_);refine b5w ?_;rw[<-b7z];refine b8z _
  (λrest (b:Array Int) s'=>∃done left,cs=done++left/\Paired (a1x prog w s.heap) rest left/\b.toList=done.map (a1D prog w)/\s'={ s with toks:=s.toks+(done.map a3i).sum })
  _ ?_ ?_ _ _ ⟨[],cs,rfl,hi,rfl,rfl⟩
 ·rintro x rest b s' ⟨done,left,rfl,hl,hb,rfl⟩;cases hl with
  | @cons _ k _ ks' h1 hl' =>
   refine b5w (a9J (A:=_) ?_ h1 ?_)
   ·show A.units+1<cLine;exact hu
   first
    | exact b5A ⟨done++[k],ks',by simp,hl',by simp[hb],by simp[c0U]⟩
    | exact b5w (b5A (b5A ⟨done++[k],ks',by simp,hl',by simp[hb],by simp[c0U]⟩))
 ·rintro b s' ⟨done,left,rfl,hl,hb,rfl⟩;cases hl;rw[b6B] at h;show wpAny _ _ (retInt (Builtin.Tuple.tupleHashOf b.toList)) _ _ _;rw[hb];refine wpAny_ret_mkInt ?_;show wpAny _ _ (if (decide (-(2:Int) ^ 63<=Builtin.Tuple.tupleHashOf (done.map (a1D prog w)))&&decide (Builtin.Tuple.tupleHashOf (done.map (a1D prog w))<2 ^ 63))=true then _ else _) Q E _;unfold a2N reduceHash a2q at h;by_cases hr:(decide (-(2:Int) ^ 63<=Builtin.Tuple.tupleHashOf (done.map (a1D prog w)))&&decide (Builtin.Tuple.tupleHashOf (done.map (a1D prog w))<2 ^ 63))=true
  ·rw[if_pos hr];rw[if_pos hr] at h;exact b5A (by simpa [c0U] using h)
  ·rw[if_neg hr];rw[if_neg hr] at h;exact b5w (b7K (b5A (by simpa [c0U] using h)))
def Like (c d:Cell):Prop:=(∃n m,c=.i n/\d=.i m)\/∃k l,c=.t k/\d=.t l
theorem a5z {x y:List Cell} {a b:Addr} {P:Fin->Shared->Prop} (hu:A.units<cLine) (lk:Paired Like x y) (hx:a1b prog w s.heap x a) (hy:a1b prog w s.heap y b) (h:P (.done (.ret (.bool (decide (x=y))))) s) :
  wpAny (model prog w) A (Builtin.«tuple.__eq__» ⟨[.ref a,.ref b],[]⟩) P E s:=by
 have hTb:=hy.typeIs;obtain⟨oa,xs,na,hoa,_,hda,hia⟩:=hx;obtain⟨ob,ys,nb,hob,_,hdb,hib⟩:=hy;show wpAny _ _ (isInstance (.ref b) (.type "tuple") >>= _) _ _ s;refine b5w (b7V hTb b9O ?_);simp only[b9t,b6j,b7L];refine b5w (c0x hoa hda ?_);refine b5w (c0x hob hdb ?_);refine b5w ?_;refine b8z _
  (λrest r s'=>r.1=none/\s'=s/\∃x' y' xs' ys',rest=List.zip xs' ys'/\Paired Like x' y'/\Paired (a1x prog w s.heap) xs' x'/\Paired (a1x prog w s.heap) ys' y'/\decide (x'=y')=decide (x=y)/\(xs'.length==ys'.length)=(xs.size==ys.size))
  _ ?_ ?_ _ _ ⟨rfl,rfl,x,y,xs.toList,ys.toList,rfl,lk,hia,hib,rfl,by simp⟩
 ·rintro⟨u,v⟩ rest r s' ⟨hr,rfl,x',y',xs',ys',hz,lk',hx',hy',hdec,hlen⟩;cases hx' with
  | nil=>simp at hz
  | @cons u' k1 xs'' x'' h1 hx'' =>
   cases hy' with
   | nil=>simp at hz
   | @cons v' k2 ys'' y'' h2 hy'' =>
    simp only[b8h,List.cons.injEq,Prod.mk.injEq] at hz;obtain⟨⟨rfl,rfl⟩,rfl⟩:=hz;cases lk' with
    | cons l1 l2 =>
    refine b5w (b4n (c:=k1) (d:=k2) hu h1 h2 l1 ?_);by_cases hk:k1=k2
    ·subst hk;rw[b6b rfl];simp only[b9t,b6j,b7L];refine b5A ⟨rfl,rfl,x'',y'',xs'',ys'',rfl,l2,hx'',hy'',?_,by simpa using hlen⟩;rw[<-hdec];by_cases hxy:x''=y''
     ·simp[hxy]
     ·simp[hxy]
    ·rw[b6N hk];simp only[Bool.not_false,if_true];have hf:decide (x=y)=false:=by rw[<-hdec];simp[hk]
     rw[hf] at h;exact b5w (b5A (b5A (b5A h)))
 ·rintro⟨r1,r2⟩ s' ⟨hr,rfl,x',y',xs',ys',hz,lk',hx',hy',hdec,hlen⟩;simp only at hr;subst hr;refine b5A ?_;have hfin:(xs.size==ys.size)=decide (x=y):=by
   rw[<-hdec,<-hlen];cases hx' with
   | nil =>
    cases hy' with
    | nil=>simp
    | cons _ _=>simp
   | cons _ _ =>
    cases hy' with
    | nil=>simp
    | cons _ _=>simp at hz
  show P (.done (.ret (.bool (xs.size==ys.size)))) s';rw[hfin];exact h
theorem a2i {x y:List Cell} {a b:Addr} {Q:Bool->Shared->Prop} (hu:A.units+1<cLine) (lk:Paired Like x y) (hx:a1b prog w s.heap x a) (hy:a1b prog w s.heap y b) (h:Q (decide (x=y)) s) :
  wpAny (model prog w) A (eqBool (.ref a) (.ref b)) Q E s:=by
 unfold eqBool
 try with_reducible refine b6d ?_
 show wpAny _ _ (if (Value.ref a==Value.ref b)=true then _ else _) Q E s;by_cases hab:(Value.ref a==Value.ref b)=true
 ·rw[if_pos hab];have e:a=b:=by have:=eq_of_beq hab;injection this
  subst e;have e2:=hx.inj hy;subst e2;exact b5w (b7K (b5A (by simpa using h)))
 ·rw[if_neg hab];exact b5w (wpAny_richCompare_same_room (op:=.Eq) hx.typeIs hy.typeIs b8R
   (b6i b8R hx.typeIs PySem.F.entry_tuple_eq (a5z (by first|exact hu|(show A.units+1<cLine;exact hu)) lk hx hy ⟨_,rfl,(λe=>nomatch e),b7E h⟩) (PySem.F.args_tuple_eq_2 _ _)) (by omega))
theorem a6h {m:Nat} {ks:List Int} {a:Addr} {Q:Bool->Shared->Prop} (hk:IsTupleKey (intKind prog w) s.heap ks a) (h:Q true s):wpAny (model prog w) A (eqIsQuiet (m+1) (.ref a)) Q E s:=by
 have hT:=hk.typeIs;obtain⟨o,items,n,ho,_,hd,hi⟩:=hk;unfold eqIsQuiet;refine b5w (b8o hT b8R.lookup ?_);show wpAny _ _ (isInstance (.ref a) (.type "tuple") >>= _) _ _ s;refine b5w (b7V hT b9O ?_);simp only[b9t,b6j,b7L];refine b5w (b6G ho hd ?_);refine b5w ?_;show wpAny _ _ (forIn items _ _) _ _ s;rw[<-b7z];refine b8z _ (λrest r s'=>r.1=none/\s'=s/\∀v∈rest,carriedByValue v=true) _ ?_ ?_ _ _ ⟨rfl,rfl,hi.byValue⟩
 ·rintro v rest r s' ⟨hr,rfl,hall⟩;rw[eqIsQuiet_byValue _ (hall v b8I)];refine b5w (b5A ?_);simp only[b9t,b6j,b7L];exact b5A ⟨rfl,rfl,λu hu'=>hall u (b7h _ hu')⟩
 ·rintro⟨r1,r2⟩ s' ⟨hr,rfl,_⟩;simp only at hr;subst hr;exact b5A h
theorem a3Q {cs:List Cell} {a:Addr} {Q:Bool->Shared->Prop} (hk:a1b prog w s.heap cs a) (h:Q true s):wpAny (model prog w) A (eqIsQuiet 8 (.ref a)) Q E s:=by
 have hT:=hk.typeIs;obtain⟨o,items,n,ho,_,hd,hi⟩:=hk;unfold eqIsQuiet;refine b5w (b8o hT b8R.lookup ?_);show wpAny _ _ (isInstance (.ref a) (.type "tuple") >>= _) _ _ s;refine b5w (b7V hT b9O ?_);simp only[b9t,b6j,b7L];refine b5w (b6G ho hd ?_);refine b5w ?_;show wpAny _ _ (forIn items _ _) _ _ s;rw[<-b7z];refine b8z _ (λrest r s'=>r.1=none/\s'=s/\∃left,Paired (a1x prog w s.heap) rest left) _ ?_ ?_ _ _ ⟨rfl,rfl,cs,hi⟩
 ·rintro v rest r s' ⟨hr,rfl,left,hall⟩;cases hall with
  | @cons _ c _ left' h1 h2 =>
  refine b5w ?_;have go:wpAny (model prog w) A (eqIsQuiet 7 v) (λb s''=>b=true/\s''=s') E s':=by
   cases c with
   | i n =>
    rw[eqIsQuiet_byValue _ ((intKind prog w).byValue _ _ h1)];exact b5A ⟨rfl,rfl⟩
   | t ks =>
    obtain⟨b,rfl,hb⟩:=h1;exact a6h (m:=6) hb ⟨rfl,rfl⟩
  refine b7Y go ?_ (λ_ _ z=>z);rintro b s'' ⟨rfl,rfl⟩;simp only[b9t,b6j,b7L];exact b5A ⟨rfl,rfl,left',h2⟩
 ·rintro⟨r1,r2⟩ s' ⟨hr,rfl,_⟩;simp only at hr;subst hr;exact b5A h
def a0k (prog:Program) (w:World):HeapKind prog w (Int × List Int) where
 is:=λh k a=>a1b prog w h [.i k.1,.t k.2] a
 hash:=λk=>a2N prog w [.i k.1,.t k.2]
 draws:=λk=>a2q [.i k.1,.t k.2]
 room:=λA=>A.units+1<cLine
 inj:=λ{h a x y} hx hy=>by
  have:=hx.inj hy;injection this with h1 h2;injection h1 with h1;injection h2 with h2 _;injection h2 with h2;exact b9F h1 h2
 keeps:=λx ho hd hs=>x.keeps ho hd hs
 pyHash:=λhu hk h=>a5y hu hk h
 eqBool:=λ{A E s x y a b Q} hu hx hy h=>by
  refine a2i hu (.cons (.inl ⟨_,_,rfl,rfl⟩) (.cons (.inr ⟨_,_,rfl,rfl⟩) .nil)) hx hy ?_;rw[show decide ([Cell.i x.1,.t x.2]=[Cell.i y.1,.t y.2])=decide (x=y) from b9W.mpr ⟨λz=>by
   injection z with h1 h2;injection h1 with h1;injection h2 with h2 _;injection h2 with h2;exact b9F h1 h2,λz=>by rw[z]⟩]
  exact h
 quiet:=λhk h=>a3Q hk h
def b1P (prog:Program) (w:World):HeapKind prog w (List Int × Int) where
 is:=λh k a=>a1b prog w h [.t k.1,.i k.2] a
 hash:=λk=>a2N prog w [.t k.1,.i k.2]
 draws:=λk=>a2q [.t k.1,.i k.2]
 room:=λA=>A.units+1<cLine
 inj:=λ{h a x y} hx hy=>by
  have:=hx.inj hy;injection this with h1 h2;injection h1 with h1;injection h2 with h2 _;injection h2 with h2;exact b9F h1 h2
 keeps:=λx ho hd hs=>x.keeps ho hd hs
 pyHash:=λhu hk h=>a5y hu hk h
 eqBool:=λ{A E s x y a b Q} hu hx hy h=>by
  refine a2i hu (.cons (.inr ⟨_,_,rfl,rfl⟩) (.cons (.inl ⟨_,_,rfl,rfl⟩) .nil)) hx hy ?_;rw[show decide ([Cell.t x.1,.i x.2]=[Cell.t y.1,.i y.2])=decide (x=y) from b9W.mpr ⟨λz=>by
   injection z with h1 h2;injection h1 with h1;injection h2 with h2 _;injection h2 with h2;exact b9F h1 h2,λz=>by rw[z]⟩]
  exact h
 quiet:=λhk h=>a3Q hk h
end
section
variable {P:Program} {w:World} {H:Hp} {h:Heap} {a b d:Addr}
theorem a7k {n:Int} {v:Value} (r:a0Q (.int n) v):(intKind P w).is n v=true:=by
 obtain⟨t,rfl⟩:=(show ∃t,v=Value.int n t from r)
 show Value.isInt n (.int n t)=true;simp[Value.isInt]
theorem a4t:∀{ks:List Int} {vs:List Value},a0w (ks.map V.int) vs->ItemsAre (intKind P w) ks vs
 | [],_,r=>by cases r;exact .nil
 | k::ks,_,r=>by
  cases r with
  | cons h1 h2=>exact .cons (a7k h1) (a4t h2)
theorem b3e {ks:List Int} (ok:HOk P w H h) (e:H a=some (.tup (ks.map V.int))):IsTupleKey (intKind P w) h ks a:=by
 obtain⟨_,its,r,o,h1,h2,n,h3⟩:=a1p (show a0B P w H h a (.tup (ks.map V.int)) from ok a _ e);exact⟨o,its.toArray,n,h1,h2,h3,by simpa using a4t r⟩
def NAt (H:Hp) (k:Int × List Int) (a:Addr):Prop:=∃b,H a=some (.tup [.int k.1,.ref b])/\H b=some (.tup (k.2.map V.int))
def WAt (H:Hp) (k:List Int × Int) (a:Addr):Prop:=∃b,H a=some (.tup [.ref b,.int k.2])/\H b=some (.tup (k.1.map V.int))
theorem NAt.is {k:Int × List Int} (ok:HOk P w H h) (x:NAt H k a):(a0k P w).is h k a:=by
 obtain⟨b,e,eb⟩:=x;obtain⟨_,its,r,o,h1,h2,n,h3⟩:=a1p (show a0B P w H h a (.tup [.int k.1,.ref b]) from ok a _ e);refine⟨o,its.toArray,n,h1,h2,h3,?_⟩;cases r with
 | cons r1 r2 =>
  cases r2 with
  | cons r2 r3 =>
   cases r3;exact .cons (a7k r1) (.cons ⟨b,r2,b3e ok eb⟩ .nil)
theorem WAt.is {k:List Int × Int} (ok:HOk P w H h) (x:WAt H k a):(b1P P w).is h k a:=by
 obtain⟨b,e,eb⟩:=x;obtain⟨_,its,r,o,h1,h2,n,h3⟩:=a1p (show a0B P w H h a (.tup [.ref b,.int k.2]) from ok a _ e);refine⟨o,its.toArray,n,h1,h2,h3,?_⟩;cases r with
 | cons r1 r2 =>
  cases r2 with
  | cons r2 r3 =>
   cases r3;exact .cons ⟨b,r1,b3e ok eb⟩ (.cons (a7k r2) .nil)
end
section
variable {P:Program} {w:World} {KK:Type} [DecidableEq KK] (knd:HeapKind P w KK)
def a7l (kvs:List (KK × Addr × V)) (xs:List (KK × Addr × Value)):Prop:=Paired (λp q=>p.1=q.1/\p.2.1=q.2.1/\a0Q p.2.2 q.2.2) kvs xs
def NDx (d:Addr) (kvs:List (KK × Addr × V)) (h:Heap):Prop:=(d==sysModules)=false/\kvs.length<=sizeLine/\∃xs:List (KK × Addr × Value),a7l kvs xs/\∃o es ep,h.get? d=some o/\o.ExactDict/\o.data=.dict es ep/\es.toList=xs.map (entryOfKey knd)/\(xs.map (·.1)).Nodup
def NDO (d:Addr) (kvs:List (KK × Addr × V)):HO:=.ext (NDx knd d kvs)
variable {knd}
theorem NDx.keep {d:Addr} {kvs:List (KK × Addr × V)} {h1 h2:Heap} (x:NDx knd d kvs h1) (k:∀o,h1.get? d=some o->h2.get? d=some o):NDx knd d kvs h2:=by
 obtain⟨h0,hl,xs,r,o,es,ep,e1,e2⟩:=x;exact⟨h0,hl,xs,r,o,es,ep,k _ e1,e2⟩
theorem NDx.ok {H:Hp} {h:Heap} {d:Addr} {kvs:List (KK × Addr × V)} (x:NDx knd d kvs h):a0B P w H h d (NDO knd d kvs):=⟨x,(let ⟨_,_,_,_,o,_,_,e,_⟩:=x;⟨o,e⟩),λh1 h2 y k=>y.keep k⟩
theorem a4u {H:Hp} {h:Heap} {d:Addr} {kvs:List (KK × Addr × V)} (ok:HOk P w H h) (e:H d=some (NDO knd d kvs)) (ka:∀p∈kvs,knd.is h p.1 p.2.1):(d==sysModules)=false/\kvs.length<=sizeLine/\∃xs,a7l kvs xs/\h.DictOfH knd d xs:=by
 have z0:=(show a0B P w H h d (NDO knd d kvs) from ok d _ e).1;obtain⟨h0,hl,xs,r,o,es,ep,e1,e2,e3,e4,e5⟩:=(show NDx knd d kvs h from z0)
 refine⟨h0,hl,xs,r,o,es,ep,e1,e2,e3,e4,λx hx=>?_,e5⟩;clear e4 e5 e hl z0;unfold a7l at r
 induction r with
 | nil=>cases hx
 | cons h1 _ ih =>
  rcases b5Q.mp hx with z|z
  ·subst z;have:=ka _ (.head _);rw[h1.1,h1.2.1] at this;exact this
  ·exact ih (λp hp=>ka p (.tail _ hp)) z
def nval (kvs:List (KK × Addr × V)) (k:KK):Option V:=(kvs.find? λx=>decide (x.1=k)).map (·.2.2)
theorem a7l.val {kvs:List (KK × Addr × V)} {xs:List (KK × Addr × Value)} (r:a7l kvs xs) (k:KK):a6I (nval kvs k) ((atKey xs k).map (·.2)):=by
 unfold a7l at r
 induction r with
 | nil=>exact True.intro
 | cons h1 _ ih =>
  unfold nval atKey at ih ⊢;rw[List.find?_cons,List.find?_cons,h1.1];split
  ·exact h1.2.2
  ·exact ih
end
section
variable {X:Cx} {KK:Type} [DecidableEq KK] {knd:HeapKind X.prog X.w KK} {pins:List (Addr × Obj)} {σ:St} {H:Hp} {s:Shared} {a d:Addr} {v:V} {r:Value} {A:Around} {E:Value->Shared->Prop} {kvs:List (KK × Addr × V)} {k:KK}
theorem nd_get {Q:Value->Shared->Prop} (hu:knd.room A.in1) (I:Inv X pins σ H s) (e:H d=some (NDO knd d kvs)) (ka:∀p∈kvs,knd.is s.heap p.1 p.2.1) (kk:knd.is s.heap k a) (l:nval kvs k=some v) (h:∀w' s',Inv X pins σ H s'->a0Q v w'->Q w' s'):wpAny (model X.prog X.w) A (getItem (.ref d) (.ref a)) Q E s:=by
 obtain⟨hd,_,xs,rel,dd⟩:=a4u I.hok e ka;obtain⟨w',hw,rw'⟩:=a6I.some_of (v:=v) (o:=(atKey xs k).map (·.2)) (by rw[<-l];exact rel.val k);obtain⟨p,hp,hp2⟩:=b6H.mp hw;refine wpAny_getItem_heap hu kk dd hp ?_;rw[hp2];exact h w' _ (I.tok _) rw'
theorem b1Q {Q:Value->Shared->Prop} (hu:knd.room A.in1) (I:Inv X pins σ H s) (e:H d=some (NDO knd d kvs)) (ka:∀p∈kvs,knd.is s.heap p.1 p.2.1) (kk:knd.is s.heap k a) (h:∀s',Inv X pins σ H s'->Q (.bool (!(nval kvs k).isSome)) s'):wpAny (model X.prog X.w) A (compareOp .NotIn (.ref a) (.ref d)) Q E s:=by
 obtain⟨hd,_,xs,rel,dd⟩:=a4u I.hok e ka;refine wpAny_notIn_heap hu kk hd dd ?_;have q:=(rel.val k).isSome_eq;rw[b9C] at q;rw[<-q];exact h _ (I.tok _)
def nput (kvs:List (KK × Addr × V)) (k:KK) (a:Addr) (v:V):List (KK × Addr × V):=if (nval kvs k).isSome then kvs.map λx=>if x.1=k then (x.1,x.2.1,v) else x else kvs++[(k,a,v)]
theorem a7l.putm {xs:List (KK × Addr × Value)} {u:Value} (rel:a7l kvs xs) (rv:a0Q v u):a7l (kvs.map λx=>if x.1=k then (x.1,x.2.1,v) else x) (xs.map (putAt k u)):=by
 unfold a7l at rel ⊢
 induction rel with
 | nil=>exact .nil
 | @cons x y _ _ h1 _ ih =>
  refine .cons ?_ ih;unfold putAt;dsimp only;by_cases z:x.1=k
  ·rw[if_pos z,if_pos (h1.1.symm.trans z)];exact⟨h1.1,h1.2.1,rv⟩
  ·rw[if_neg z,if_neg (λy=>z (h1.1.trans y))];exact h1
theorem a7l.put {xs:List (KK × Addr × Value)} {u:Value} (rel:a7l kvs xs) (rv:a0Q v u):a7l (nput kvs k a v) (storedH xs k a u):=by
 have q:=(rel.val k).isSome_eq;rw[b9C] at q;unfold nput;cases e:atKey xs k with
 | none =>
  rw[e] at q;rw[storedH_new e,if_neg (by rw[q];decide)];exact Paired.appendP rel (.cons ⟨rfl,rfl,rv⟩ .nil)
 | some p =>
  rw[e] at q;rw[storedH_old e,if_pos (show(nval kvs k).isSome=true from q)];exact rel.putm rv
theorem b1R:(nput kvs k a v).length<=kvs.length+1:=by
 unfold nput;split
 ·rw[b5x];omega
 ·rw[b5J];exact b5G _
theorem nd_put {Q:Unit->Shared->Prop} (hu:knd.room A.in1) (I:Inv X pins σ H s) (e:H d=some (NDO knd d kvs)) (ka:∀p∈kvs,knd.is s.heap p.1 p.2.1) (kk:knd.is s.heap k a) (hl:kvs.length<sizeLine) (rv:a0Q v r) (h:∀s',Inv X pins σ (upd H d (NDO knd d (nput kvs k a v))) s'->Q () s'):wpAny (model X.prog X.w) A (setItem (.ref d) (.ref a) r) Q E s:=by
 obtain⟨hd,_,xs,rel,dd⟩:=a4u I.hok e ka;have hz:xs.length<=sizeLine:=by rw[<-c0b rel];omega
 refine wpAny_setItem_heap (hsz:=hz) hu kk dd λh' dd' hs=>h _ ?_;obtain⟨q,es,ep,hq,h2,h3,h4,_,h5⟩:=dd';have hn:(nput kvs k a v).length<=sizeLine:=by have:=b1R (kvs:=kvs) (k:=k) (a:=a) (v:=v);omega
 exact b3Y I (by rw[e];exact True.intro) hs ⟨q,hq⟩ (NDx.ok ⟨hd,hn,_,rel.put rv,q,es,ep,hq,h2,h3,h4,h5⟩)
theorem nd_new (I:Inv X pins σ H s) (e:H d=some (.dK [])):Inv X pins σ (upd H d (NDO knd d [])) s:=by
 obtain⟨_,hd,vs,rel,dd⟩:=dk_of I.hok e;cases rel;obtain⟨o,es,ep,e1,e2,e3,_,e5,_⟩:=dd;have em:es.toList=[]:=by cases hh:es.toList with
  | nil=>rfl
  | cons x l=>rw[hh] at e5;cases e5
 exact I.write (t':=s.toks) (x:=d) (e:=d) (by rw[e];exact True.intro) (.inl rfl) (λb q hb z=>z) ⟨o,e1⟩ (NDx.ok ⟨hd,b6e _,[],.nil,o,es,ep,e1,e2,e3,em,List.nodup_nil⟩)
end
structure NKd (X:Cx) (KK:Type) [DecidableEq KK] where
 knd:HeapKind X.prog X.w KK
 At:Hp->KK->Addr->Prop
 is:∀{pins:List (Addr × Obj)} {σ:St} {H:Hp} {s:Shared} {k:KK} {a:Addr},Inv X pins σ H s->At H k a->knd.is s.heap k a
 rm:∀{A:Around},A.units+2<cLine->knd.room A.in1
def FAt (K:PySem.W.Frag) (H:Hp) (k:Int × List Int) (a:Addr):Prop:=∃b,SqT K H a [.int k.1,.ref b]/\SqT K H b (k.2.map V.int)
theorem FAt.is {X:Cx} {pins:List (Addr × Obj)} {σ:St} {H:Hp} {s:Shared} {k:Int × List Int} {a:Addr} (I:Inv X pins σ H s) (x:FAt X.K H k a):(a0k X.prog X.w).is s.heap k a:=by
 obtain⟨b,e,eb⟩:=x;obtain⟨its,r,⟨o,h1,h2,n,h3⟩,_⟩:=I.tuple e;obtain⟨its2,r2',⟨o2,g1,g2,n2,g3⟩,_⟩:=I.tuple eb;refine⟨o,its.toArray,n,h1,h2,h3,?_⟩;cases r with
 | cons r1 r2 =>
  cases r2 with
  | cons r2 r3 =>
   cases r3;exact .cons (a7k r1) (.cons ⟨b,r2,o2,its2.toArray,n2,g1,g2,g3,by simpa using a4t r2'⟩ .nil)
def nkN (X:Cx):NKd X (Int × List Int):=⟨a0k X.prog X.w,FAt X.K,λI x=>FAt.is I x,λ{A} h=>(show A.units+1+1<cLine from h)⟩
section
variable {X:Cx} {KK:Type} [DecidableEq KK] (N:NKd X KK)
def NIs (H:Hp) (d:Addr) (kvs:List (KK × Addr × V)):Prop:=(H d=some (NDO N.knd d kvs)\/(H d=some (.dK [])/\kvs=[]))/\∀p∈kvs,N.At H p.1 p.2.1
def sNPut (td ty tv:TE):TS:=λD σ H=>tv σ H λv H1=>td σ H1 λx H2=>ty σ H2 λy H3=>∃d a k kvs,x=.ref d/\y=.ref a/\NIs N H3 d kvs/\N.At H3 k a/\kvs.length<sizeLine/\D.nx σ (upd H3 d (NDO N.knd d (nput kvs k a v)))
def tNGet (td ty:TE):TE:=λσ H Q=>td σ H λx H1=>ty σ H1 λy H2=>∃d a k kvs v,x=.ref d/\y=.ref a/\NIs N H2 d kvs/\N.At H2 k a/\nval kvs k=some v/\Q v H2
def rNNot:R2:=λx y H Q=>∃a d k kvs,x=.ref a/\y=.ref d/\NIs N H d kvs/\N.At H k a/\Q (.bl (!(nval kvs k).isSome)) (upd H d (NDO N.knd d kvs))
variable {N}
theorem b1S {H:Hp} {d:Addr} {o:HO} (h:H d=some o):upd H d o=H:=by
 funext b;unfold upd;split
 ·rename_i e;rw[e,h]
 ·rfl
theorem NIs.cast {pins:List (Addr × Obj)} {σ:St} {H:Hp} {s:Shared} {d:Addr} {kvs:List (KK × Addr × V)} (x:NIs N H d kvs) (I:Inv X pins σ H s):Inv X pins σ (upd H d (NDO N.knd d kvs)) s:=by
 rcases x.1 with e|⟨e,rfl⟩
 ·rw[b1S e];exact I
 ·exact nd_new I e
theorem b4o {o i value:Expr} {pos pos':Pos} {td ty tv:TE} (hu:X.A.units+2<cLine) (ho:PE X o td) (hi:PE X i ty) (hv:PE X value tv) (hs:swapsWith value (some (.Subscript o i pos')) pos.line X.env=pure false) :
  PS X (.Assign [.Subscript o i pos'] value pos) (sNPut N td ty tv):=by
 intro pins s σ H D I h;refine wpAny_Assign_Subscript (thn (hv pins s σ H _ I h) λr s1 ⟨v,H1,I1,rv,q1⟩=>thn (ho pins s1 σ H1 _ I1 q1) λu s2 ⟨x,H2,I2,rx,q2⟩=>thn (hi pins s2 σ H2 _ I2 q2) λiv s3 ⟨y,H3,I3,ry,d,a,k,kvs,ex,ey,ni,ka,hl,q3⟩=>?_) hs;subst ex;subst ey;have eu:u=Value.ref d:=rx;have ei:iv=Value.ref a:=ry;subst eu;subst ei;have I4:=ni.cast I3;refine nd_put (N.rm hu) I4 a0b (λp hp=>N.is I3 (ni.2 p hp)) (N.is I3 ka) hl rv λs4 I5=>⟨σ,_,I5,?_⟩
 rw[b3B];exact q3
theorem b4p (hu:X.A.units+2<cLine):OpR X (compareOp .NotIn) (rNNot N):=by
 intro pins s σ H x y v u Q I rx ry h;obtain⟨a,d,k,kvs,rfl,rfl,ni,ka,q⟩:=h;have ev:v=Value.ref a:=rx;have eu:u=Value.ref d:=ry;subst ev;subst eu;exact b1Q (N.rm hu) (ni.cast I) a0b (λp hp=>N.is I (ni.2 p hp)) (N.is I ka) λs' I'=>⟨.bl _,_,I',rfl,q⟩
theorem b4q {o i:Expr} {pos:Pos} {td ty:TE} (hu:X.A.units+2<cLine) (ho:PE X o td) (hi:PE X i ty) (hs:NoSl i):PE X (.Subscript o i pos) (tNGet N td ty):=by
 intro pins s σ H Q I h;refine b3Z PySem.F.slot_dict_getitem.lookup hs (thn (ho pins s σ H _ I h) λu s1 ⟨x,H1,I1,rx,q1⟩=>thn (hi pins s1 σ H1 _ I1 q1) λiv s2 ⟨y,H2,I2,ry,d,a,k,kvs,v,ex,ey,ni,ka,hv,q2⟩=>?_);subst ex;subst ey;have eu:u=Value.ref d:=rx;have ei:iv=Value.ref a:=ry;subst eu;subst ei;have e:H2 d=some (NDO N.knd d kvs):=by
  rcases ni.1 with e|⟨_,rfl⟩
  ·exact e
  ·cases hv
 have ks:=λp hp=>N.is I2 (ni.2 p hp);obtain⟨_,_,xs,_,dd⟩:=a4u I2.hok e ks;exact⟨dd.typeIs,nd_get (N.rm hu) I2 e ks (N.is I2 ka) hv λw' s3 I3 rw'=>⟨v,H2,I3,rw',q2⟩⟩
end
section
variable {P:Program} {w:World} {KK:Type} [DecidableEq KK]
def NW1 (knd:HeapKind P w KK) (H:Hp) (d:Addr) (kvs:List (KK × Addr × V)):Prop:=H d=some (NDO knd d kvs)\/∃ob,H d=some (.frz ob (NDO knd d kvs))
def NW (knd:HeapKind P w KK) (H:Hp) (d:Addr) (kvs:List (KK × Addr × V)):Prop:=NW1 knd H d kvs\/(H d=some (.dK [])/\kvs=[])
end
section
variable {X:Cx} {KK:Type} [DecidableEq KK] {knd:HeapKind X.prog X.w KK}
end
end L2
namespace L2
open PySem PySem.Spec PyProof.Rows PySem.W
open Classical in
noncomputable def kOf (h:Heap) (v:Value):List Int:=if e:∃k,a4m h v k then Classical.choose e else []
theorem a9K {h:Heap} {v:Value} {k:List Int} (t:a4m h v k):kOf h v=k:=by
 have e:∃k,a4m h v k:=⟨k,t⟩
 unfold kOf;rw[dif_pos e];exact(Classical.choose_spec e).inj t
abbrev PsK:=List (List Int × Value)
def KOrd (b:Bool) (p q:List Int × Value):Prop:=if b=true then HT.a0x p.1 q.1=false else HT.a0x q.1 p.1=false
variable {prog:Program} {w:World} {A:Around} {E:Value->Shared->Prop} {s:Shared}
theorem a8o {a kS:Addr} {vs kv:List Value} {ks:List (List Int)} {e1 e:Nat} {b:Bool} {P:PySem.Fin->Shared->Prop} (ho:s.heap.get? a=some (seqObj "list" #[] e1)) (hS:s.heap.get? kS=some (seqObj "list" kv.toArray e)) (hne:kS≠a) (hz:vs.length<=63) (hl:kv.length=vs.length) (hk:ks.length=vs.length) (t:∀i,i<vs.length->a4m s.heap (kv.getD i Value.none) (ks.getD i [])) (nn:∀k∈ks,k≠[])
  (h:∀(h':Heap) (ps:PsK) (c:Nat),ps.Perm (ks.zip vs)->ps.Pairwise (KOrd b)->h'.get? a=some (seqObj "list" (ps.map Prod.snd).toArray c)->(∀b o,b≠a->b≠kS->s.heap.get? b=some o->h'.get? b=some o)->P (.done (.ret .none)) { s with heap:=h' }) :
  wpAny (model prog w) A (ksk_end a b vs.toArray e1 (.ref kS) kv.toArray) P E s:=by
 obtain⟨e2,hS2⟩:∃e2,(s.heap.update kS (Obj.mapSeq λ_=>(#[]:Array Value))).get? kS=some (seqObj "list" #[] e2):=⟨_,b7f hS λ_=>#[]⟩
 have ho2:(s.heap.update kS (Obj.mapSeq λ_=>(#[]:Array Value))).get? a=some (seqObj "list" #[] e1):=by rw[b5P _ _ _ _ hne.symm];exact ho
 have kp:∀b o,b≠kS->s.heap.get? b=some o->(s.heap.update kS (Obj.mapSeq λ_=>(#[]:Array Value))).get? b=some o:=λb o hb e=>by rw[b5P _ _ _ _ hb];exact e
 have last:∀(out:List Value),∃c,((s.heap.update kS (Obj.mapSeq λ_=>(#[]:Array Value))).update a (Obj.mapSeq λ_=>out.toArray)).get? a=some (seqObj "list" out.toArray c)/\(∀b o,b≠a->b≠kS->s.heap.get? b=some o->((s.heap.update kS (Obj.mapSeq λ_=>(#[]:Array Value))).update a (Obj.mapSeq λ_=>out.toArray)).get? b=some o):=λout =>
  ⟨_,b7f ho2 λ_=>out.toArray,λb o hb hb2 e=>(b5P _ _ _ _ hb).trans (kp b o hb2 e)⟩
 have za:(kv.toArray.zip vs.toArray).toList=kv.zip vs:=by rw[Array.toList_zip]
 have zs:(kv.toArray.zip vs.toArray).size=vs.length:=by simp[hl]
 have kvt:∀v∈kv,∃k,k≠[]/\a4m s.heap v k:=λv hv=>by
  obtain⟨i,hi⟩:=b6J.mp hv;have il:=(b5E.mp hi).1;have z:=t i (by omega);rw[b5B,hi] at z;have hki:ks[i]?=some (ks[i]'(by omega)):=b5z _;have e:ks.getD i []=ks[i]'(by omega):=by rw[b5B,hki];rfl
  rw[e] at z;exact⟨_,nn _ (b7t (by omega:i<ks.length)),z⟩
 have kmap:(kv.zip vs).map (λx=>(kOf s.heap x.1,x.2))=ks.zip vs:=by
  refine b7u (by simp[hl,hk]) λi h1 h2=>?_;have il:i<vs.length:=by simp at h1;omega
  rw[b6n,b9X,b9X];have z:=t i il;rw[b5B,b5z (by omega),b5B,b5z (by omega)] at z;exact b9F (a9K z) rfl
 have hstart:(if b=true then (kv.toArray.zip vs.toArray).reverse else kv.toArray.zip vs.toArray).Perm (kv.toArray.zip vs.toArray):=by
  cases b with
  | false=>exact c1d _
  | true=>exact b6x.mpr (by rw[if_pos rfl,Array.toList_reverse];exact c0O _)
 have step:∀t:Sem PySem.Fin,wpAny (model prog w) A t P E s->wpAny (model prog w) A (if b=true then (do let _ <-rule "list.sort.reverse";t) else t) P E s:=by
  intro t ht;split
  ·exact b5w (b7K ht)
  ·exact ht
 have tail:∀st:SortSt,(arrOf st).Perm (kv.toArray.zip vs.toArray)->failedOf st=none->(arrOf st).toList.Pairwise (λx y=>HT.a0x (kOf s.heap y.1) (kOf s.heap x.1)=false)->wpAny (model prog w) A (ksk_tail a b e1 (.ref kS) st) P E s:=λst pm hf pw=>by
  have pm0:=b6x.mp pm;rw[za] at pm0;have sz:(arrOf st).size=vs.length:=by rw[pm.size_eq,zs]
  have eo:(if b=true then ((arrOf st).map (·.2)).reverse else (arrOf st).map (·.2))=((((if b=true then (arrOf st).toList.reverse else (arrOf st).toList).map λx=>(kOf s.heap x.1,x.2)).map Prod.snd)).toArray:=by
   apply c0Z.mp;cases b with
   | false=>simp[b6r]
   | true=>simp[b6r]
  obtain⟨c,hc,kk⟩:=last (((if b=true then (arrOf st).toList.reverse else (arrOf st).toList).map λx=>(kOf s.heap x.1,x.2)).map Prod.snd);unfold ksk_tail;dsimp only;refine b5w (b8v hS rfl ?_ (by rw[b5I,b6l];omega) (b6e _));refine b5w (b7U ?_);refine b5w (c0o ho2 rfl ?_);rw[eo];refine b5w (b8v ho2 rfl ?_ (b6e _) ?_)
  ·rw[hf];simp only[c0L,b6j,b7L];refine b5A (h _ _ c ?_ ?_ hc kk)
   ·rw[<-kmap];refine List.Perm.map _ (List.Perm.trans ?_ pm0);cases b with
    | false=>exact List.Perm.refl _
    | true=>exact c0O _
   ·rw[b6k];cases b with
    | false=>exact pw
    | true=>exact List.pairwise_reverse.mpr pw
  ·rw[b5I,b5x,b5x,b6l];have:(if b=true then (arrOf st).toList.reverse else (arrOf st).toList).length=vs.length:=by
    cases b with
    | false=>rw[if_neg (by decide),b6a,sz]
    | true=>rw[if_pos rfl,List.length_reverse,b6a,sz]
   omega
 unfold ksk_end;dsimp only;refine step _ ?_;by_cases h2:vs.toArray.size<2
 ·rw[if_pos h2,if_pos h2];refine b5w (b5A ?_);rw[StateT.run_pure];refine b5w (b5A ?_);dsimp only;refine tail (SortSt.mk' general' (if b=true then (kv.toArray.zip vs.toArray).reverse else kv.toArray.zip vs.toArray) #[] 7 none) hstart rfl ?_;rw[b5I] at h2;have:(arrOf (SortSt.mk' general' (if b=true then (kv.toArray.zip vs.toArray).reverse else kv.toArray.zip vs.toArray) #[] 7 none)).toList.length<=1:=by
   show(if b=true then (kv.toArray.zip vs.toArray).reverse else kv.toArray.zip vs.toArray).toList.length<=1;rw[b6a,hstart.size_eq,zs];omega
  match (arrOf (SortSt.mk' general' (if b=true then (kv.toArray.zip vs.toArray).reverse else kv.toArray.zip vs.toArray) #[] 7 none)).toList,this with
  | [],_=>exact .nil
  | [x],_=>exact b6S _ _
  | x::y::r,z=>simp at z
 ·rw[if_neg h2,if_neg h2];rw[b5I] at h2;refine b5w (a9x (s:=s) (by omega) (λv hv=>?_) ?_)
  ·obtain⟨k,hk0,z⟩:=kvt v hv;cases k with
   | nil=>exact absurd rfl hk0
   | cons n ns=>exact⟨n,ns,z⟩
  let S:Keyed->Prop:=λx=>x.1∈kv
  have C:Cmp prog w A E s (tuples' true) (λx y=>HT.a0x (kOf s.heap x.1) (kOf s.heap y.1)) S:=by
   intro x y st Q hx hy hκ q;rw[lt'_eq];refine b7c (wpS_get ?_);rw[hκ];obtain⟨k1,_,z1⟩:=kvt _ hx;obtain⟨k2,_,z2⟩:=kvt _ hy;have q:Q (some (HT.a0x (kOf s.heap x.1) (kOf s.heap y.1))) st:=q;rw[a9K z1,a9K z2] at q;obtain⟨b1,items,e,⟨ob,hb,hc,k,hd⟩,hi1⟩:=z1;obtain⟨b2,items2,e2,⟨ob2,hb2,hc2,k2,hd2⟩,hi2⟩:=z2;rw[e,e2];refine b7c (wpS_lift (b7N (kat_lt hb hd hb2 hd2 (a7c _ _ _ _ 0 hi1 hi2 ?_ ⟨rfl,?_⟩))))
   ·have l1:=hi1.length;have l2:=hi2.length;simp only[b6a] at l1 l2;rw[l1,l2]
   ·exact b7M q
  have sa:SA (λx y=>HT.a0x (kOf s.heap x.1) (kOf s.heap y.1)) S (kv.toArray.zip vs.toArray):=by
   refine⟨⟨λx y q=>a2A _ _ q,λx y z q1 q2=>a5w _ _ _ q1 q2⟩,λx hx=>?_⟩;rw[za] at hx;obtain⟨i,hi⟩:=b6J.mp hx;rw[b8Z] at hi;exact b5M hi.1
  refine b5w (b7Y (a7f C sa (st:=SortSt.mk' (tuples' true) (if b=true then (kv.toArray.zip vs.toArray).reverse else kv.toArray.zip vs.toArray) #[] 7 none) (Q:=λ_ st'=>SB (tuples' true) (kv.toArray.zip vs.toArray) st'/\Srt (λx y=>HT.a0x (kOf s.heap x.1) (kOf s.heap y.1)) (arrOf st') 0 (kv.toArray.zip vs.toArray).size) ⟨hstart,rfl,rfl⟩ rfl (by simp only[Array.size_zip,b5I];omega) λst' a1 a2=>⟨a1,a2⟩) ?_ λ_ _ e=>e);rintro⟨⟨⟩,st'⟩ s' ⟨rfl,hB,hS'⟩;dsimp only;refine tail st' hB.perm hB.failed ?_;rw[b7g];intro i j hi hj hij;rw[b6a] at hi hj;have g:∀{i:Nat} (h:i<(arrOf st').toList.length),(arrOf st').toList[i]=el (arrOf st') i:=λ{i} h=>by
   have e:=a9u (xs:=arrOf st') (i:=i) (by rw[b6a] at h;exact h);rw[b5z h] at e;exact b5U e
  rw[g,g];exact hS' i j (b6e _) hij (by rw[<-hB.size];exact hj)
section
variable {X:Cx} {k:Nat} {Rg:Addr->List V->Hp->VK->Prop} {pins:List (Addr × Obj)} {σ:St} {H:Hp} {a g kS:Addr} {xs:List V} {ks:Nat->List Int} {s:Shared} {P:PySem.Fin->Shared->Prop} {E:Value->Shared->Prop}
theorem a3j {b:Bool} (L:a8m X σ Rg) {vs:List Value} {e1:Nat} (J:Inv X pins σ H s) (ho:s.heap.get? a=some (seqObj "list" #[] e1)) (hS:s.heap.get? kS=some (seqObj "list" #[] 0)) (hne:kS≠a) (fa:∀H',H' a=none->a2F X pins H' a) (fS:∀H',H' kS=none->a2F X pins H' kS) (na:H a=none) (nS:H kS=none) (rv:a0w xs vs) (hz:vs.length<=63)
  (hk:∀i x H1 Q1,xs[i]?=some x->a0m H H1->(∀t H2,a0m H1 H2->H2 t=some (.tup ((ks i).map V.int))->Q1 (.ref t) H2)->Rg g [x] H1 Q1) (nn:∀i,i<vs.length->ks i≠[])
  (h:∀(s':Shared) (H':Hp) (ps:PsK) (c:Nat),Inv X pins σ H' s'->a0m H H'->H' a=none->ps.Perm (((List.range vs.length).map ks).zip vs)->ps.Pairwise (KOrd b)->s'.heap.get? a=some (seqObj "list" (ps.map Prod.snd).toArray c)->P (.done (.ret .none)) s') :
  wpAny (model X.prog X.w) X.A.in1.in1 (ksk_rest a (.ref g) b vs.toArray e1 (.ref kS)) P E s:=by
 have hl:=rv.length;unfold ksk_rest;refine b5w (b7K ?_)
 first
  | rw[List.forIn_toArray]
  | (rw[<-b7z];simp only[List.toList_toArray])
  | rw[<-b7z]
 refine b5w (ksk_fold (λi s'=>∃(Hi:Hp) (ts:List Addr) (e:Nat),Inv X pins σ Hi s'/\a0m H Hi/\Hi a=none/\Hi kS=none/\s'.heap.get? a=some (seqObj "list" #[] e1)/\s'.heap.get? kS=some (seqObj "list" (ts.map Value.ref).toArray e)/\ts.length=i/\∀j t,ts[j]?=some t->Hi t=some (.tup ((ks j).map V.int))) vs 0 s
  ⟨H,[],0,J,a0m.refl _,na,nS,ho,hS,rfl,λj t z=>by simp at z⟩ ?step ?done)
 case step =>
  rintro j u s' hu ⟨Hi,ts,e,Ji,sm,nai,nSi,hoi,hSi,lt,hts⟩;simp only[b9L] at lt ⊢;have hj:j<vs.length:=(b5E.mp hu).1;have hx:xs[j]?=some (xs[j]'(by omega)):=b5z _;obtain⟨u',hu',ru⟩:=rv.get hx;rw[hu] at hu';cases hu';have J2:=Ji.pinned (fp:=[a,kS]) (λb hb=>by
   rcases b5Q.mp hb with rfl|hb
   ·exact fa Hi nai
   ·rw[b5C.mp hb];exact fS Hi nSi) (λb hb=>by
   rcases b5Q.mp hb with rfl|hb
   ·exact⟨_,hoi,λv z=>by cases z⟩
   ·rw[b5C.mp hb];exact⟨_,hSi,λv z=>by cases z⟩)
  refine b5w (b7N (c0j (b7y (L.run _ Hi _ g [u] [xs[j]'(by omega)] (λv H2=>∃t,v=.ref t/\a0m Hi H2/\H2 t=some (.tup ((ks j).map V.int))) J2 (.cons ru .nil) (hk _ _ _ _ hx sm λt H2 s2 h2=>⟨t,rfl,s2,h2⟩)) λr s3 hq=>?_)));cases r with
  | error e=>exact False.elim hq
  | ok fl =>
  cases fl with
  | next=>exact False.elim hq
  | brk=>exact False.elim hq
  | cont=>exact False.elim hq
  | ret uv =>
  obtain⟨v,H2,J3,rv3,t,rfl,s2,h2⟩:=J2.after hq;cases rv3;have pa:=J3.pin (a,_) (b5N _ (b5N _ (a0G (by simp) hoi)));have pS:=J3.pin (kS,_) (b5N _ (b5N _ (a0G (by simp) hSi)));have J4:=J3.unpinned;obtain⟨g0,g1,g2,g3,g4,g5⟩:=fS H2 pS.2.1;obtain⟨c2,hc2⟩:∃c2,(s3.heap.update kS (Obj.mapSeq (·.push (.ref t)))).get? kS=some (seqObj "list" ((ts.map Value.ref).toArray.push (.ref t)) c2):=⟨_,b7f pS.1 (·.push (.ref t))⟩
  try dsimp only
  refine b5w (b8v pS.1 rfl ?_ (by simp[b6l];omega) (by simp[b6l];omega));refine b5A ⟨rfl,H2,ts++[t],c2,J4.turned (t':=s3.toks) (λb o hb e=>by rw[b5P _ _ _ _ hb];exact e) g0 g1 g3 g4 g5,sm.trans s2,pa.2.1,pS.2.1,?_,?_,by simp[lt],λi t' hi=>?_⟩
  ·rw[b5P _ _ _ _ hne.symm];exact pa.1
  ·rw[hc2];congr 2;simp
  ·by_cases z:i<ts.length
   ·rw[b6T z] at hi;exact s2 _ _ (hts i t' hi)
   ·have zi:i=j:=by
     have:=(b5E.mp hi).1;rw[b5J] at this;have:i<ts.length+1:=this;omega
    subst zi;rw[b6w (by omega),lt,b9P] at hi;cases hi;exact h2
 case done =>
  rintro s' ⟨Hi,ts,e,Ji,sm,nai,nSi,hoi,hSi,lt,hts⟩;rw[b9L] at lt
  try dsimp only
  refine b5w (c0w hSi rfl ?_);refine a8o (b:=b) (ks:=(List.range vs.length).map ks) hoi hSi hne hz (by rw[b5x,lt]) (by simp) (λi hi=>?_) (λq hq=>?_) (λh' p c pm pw hh kp=>?_)
  ·have ht:ts[i]?=some (ts[i]'(by omega)):=b5z _;obtain⟨_,i1,v1,t1⟩:=a1p (show a0B X.prog X.w Hi s'.heap (ts[i]'(by omega)) (.tup ((ks i).map V.int)) from Ji.hok _ _ (hts i _ ht));rw[a9D hi,b5B,b5L,ht];exact⟨_,_,rfl,t1,by simpa using a1c v1⟩
  ·obtain⟨i,hi,rfl⟩:=b5K.mp hq;exact nn i (b6F.mp hi)
  ·have Jf:Inv X pins σ Hi { s' with heap:=h' }:=Ji.turnedL (t':=s'.toks) (L:=[a,kS]) (λb o hb e=>kp b o (λz=>hb (by simp[z])) (λz=>hb (by simp[z])) e) (λb hb=>by
    rcases b5Q.mp hb with rfl|hb
    ·exact fa Hi nai
    ·rw[b5C.mp hb];exact fS Hi nSi)
   exact h _ Hi p c Jf sm nai pm pw hh
end
theorem a3k {α β:Type} {f:α->β}:∀{l:List β} {m:List α},l.Perm (m.map f)->∃o:List α,o.Perm m/\l=o.map f
 | [],m,h=>by
  have:=(List.nil_perm.mp h)
  rw[b8y] at this;exact⟨[],by rw[this],rfl⟩
 | x::l,m,h=>by
  obtain⟨a,ha,e⟩:=b5K.mp (h.mem_iff.mp (.head _));obtain⟨s,t,rfl⟩:=b7S ha;have p1:((s++a::t).map f).Perm (x::(s++t).map f):=by
   rw[<-e];exact(b6X (a:=a) (l₁:=s) (l₂:=t)).map f
  obtain⟨o,po,eo⟩:=a3k (List.Perm.cons_inv (h.trans p1));exact⟨a::o,(po.cons a).trans b6X.symm,by rw[b6m,<-eo,e]⟩
abbrev kwKR (g:Value) (b:Bool):List (Str × Value):=[(Str.ofString "key",g),(Str.ofString "reverse",.bool b)]
def NOrd {α:Type} (b:Bool) (kf:α->List Int) (p q:α):Prop:=if b=true then HT.a0x (kf p) (kf q)=false else HT.a0x (kf q) (kf p)=false
section
variable {X:Cx} {Rg:Addr->List V->Hp->VK->Prop} {pins:List (Addr × Obj)} {σ:St} {H:Hp} {g:Addr} {s:Shared} {Q:VK} {KK:Type} [DecidableEq KK] {knd:HeapKind X.prog X.w KK}
theorem a8p {b:Bool} {d:Addr} {kvs:List (KK × Addr × V)} {kf:KK × Addr × V->List Int} (L:a8m X σ Rg) (hc:X.calm=true) (J:Inv X pins σ H s) (hd:H d=some (NDO knd d kvs)) (hn:kvs.length<=63)
  (hk:∀p∈kvs,∀H1 Q1,a0m H H1->(∀t H2,a0m H1 H2->H2 t=some (.tup ((kf p).map V.int))->Q1 (.ref t) H2)->Rg g [.ref p.2.1] H1 Q1) (nn:∀p∈kvs,kf p≠[])
  (q:∀(d2:Addr) (out:List (KK × Addr × V)) H',a0m H H'->H d2=none->H' d2=some (.lst (out.map λp=>V.ref p.2.1))->out.Perm kvs->out.Pairwise (NOrd b kf)->Q (.ref d2) H') :
  wpAny (model X.prog X.w) X.A (call (.builtin "sorted") [.ref d] (kwKR (.ref g) b)) (EP X pins σ Q) X.xe s:=by
 have z0:=(show a0B X.prog X.w H s.heap d (NDO knd d kvs) from J.hok d _ hd).1;obtain⟨hsy,hl,xs,rel,ob,es,ep,ho,hx,hdat,he,hnd⟩:=id (show NDx knd d kvs s.heap from z0);have lx:kvs.length=xs.length:=c0b rel;have sz:es.size=xs.length:=size_of_entries he;have hkk:es.toList.map (·.key)=kvs.map λp=>Value.ref p.2.1:=by
  rw[he,b6r];refine b7u (by simp[lx]) λi h1 h2=>?_;rw[b6n,b6n];have hi:i<kvs.length:=by simpa using h2
  obtain⟨x,hx1,r1,r2,r3⟩:=Paired.right_of rel i _ (b5z hi);rw[b5z (by omega)] at hx1;cases hx1;show Value.ref (xs[i]).2.1=Value.ref (kvs[i]).2.1;rw[r2]
 refine call_function_entry_kw c0p b9M b9N (ksk_s2 _ _ _) ?_;unfold Builtin.«sorted»;refine b5w (m:=checkCount "sorted" 1 1 _) (b5A ?_);refine b5w (a5n (J.ok.hd hc) hsy ⟨ob,ho,hx,hdat⟩ (by rw[sz,<-lx,b6l];omega) λh1 tk1 k1=>?_);rw[hkk];generalize eits:(kvs.map λp=>Value.ref p.2.1)=its;have er:a0w (kvs.map λp=>V.ref p.2.1) its:=by
  rw[<-eits];clear hkk rel hk nn q z0 hd lx hl hn eits
  induction kvs with
  | nil=>exact .nil
  | cons p r ih=>exact .cons rfl ih
 have li:its.length=kvs.length:=by rw[<-eits,b5x]
 have J1:Inv X pins σ H { s with heap:=h1,toks:=tk1 }:=J.kept k1;refine b5w (b7J ?_ (by show its.length<=sizeLine;rw[b6l];omega));show wpAny _ _ _ _ _ { s with heap:=h1.push (seqObj "list" its.toArray 0),toks:=tk1 };have hoL:(h1.push (seqObj "list" its.toArray 0)).get? h1.objs.size=some (seqObj "list" its.toArray 0):=b5D _ rfl;have fl:∀H',H' h1.objs.size=none->a2F X pins H' h1.objs.size:=λH' hn'=>J1.fpOk (b5G _) hn';have nl:H h1.objs.size=none:=J1.hok.fresh (b5G _);have J2:Inv X pins σ H { s with heap:=h1.push (seqObj "list" its.toArray 0),toks:=tk1 }:=J1.kept λb o e=>b5y _ e;refine b5w (b6d (wpAny_call_entry_kw b9b ⟨_,hoL,rfl⟩ b8P ?_ (ksk_l2 _ _ _)));show wpAny (model X.prog X.w) X.A.in1.in1 (Builtin.«list.sort» ⟨[.ref h1.objs.size],[(Str.ofString "key",.ref g),(Str.ofString "reverse",.bool b)]⟩) _ _ _;rw[ksk_t2];unfold ksk_tree;generalize eh2:h1.push (seqObj "list" its.toArray 0)=h2 at hoL J2 ⊢;have sz2:h2.objs.size=h1.objs.size+1:=by rw[<-eh2];exact b6h _ _
 obtain⟨e1,ho1⟩:∃e1,(h2.update h1.objs.size (Obj.mapSeq λ_=>(#[]:Array Value))).get? h1.objs.size=some (seqObj "list" #[] e1):=⟨_,b7f hoL λ_=>#[]⟩
 refine b5w (c0w hoL rfl (b5w (b8v hoL rfl ?_ (by rw[b5I,b6l];omega) (b6e _))));refine b5w (c0o ho1 rfl (b5w (b8F ?_ (by show its.length<=_;rw[b6l];omega))));refine b5w (b7J ?_ (b6e _));refine b6d ?_;obtain⟨g0,g1,g2,g3,g4,g5⟩:=fl H nl;have J3:Inv X pins σ H { s with heap:=h2.update h1.objs.size (Obj.mapSeq λ_=>(#[]:Array Value)),toks:=tk1 }:=J2.turned (t':=tk1) (λb o hb e=>by rw[b5P _ _ _ _ hb];exact e) g0 g1 g3 g4 g5;generalize eh3:h2.update h1.objs.size (Obj.mapSeq λ_=>(#[]:Array Value))=h3 at ho1 J3 ⊢;have sz3:h3.objs.size=h1.objs.size+1:=by rw[<-eh3,b9c,sz2]
 have J4:Inv X pins σ H { s with heap:=(h3.push (seqObj "tuple" its.toArray 0)).push (seqObj "list" #[] 0),toks:=tk1 }:=J3.kept λb o e=>b5y _ (b5y _ e);have szS:(h3.push (seqObj "tuple" its.toArray 0)).objs.size=h1.objs.size+2:=by rw[show(h3.push (seqObj "tuple" its.toArray 0)).objs.size=h3.objs.size+1 from b6h _ _,sz3]
 have fS:∀H',H' (h3.push (seqObj "tuple" its.toArray 0)).objs.size=none->a2F X pins H' (h3.push (seqObj "tuple" its.toArray 0)).objs.size:=λH' hn'=>J1.fpOk (by show h1.objs.size<=_;rw[szS];omega) hn';have kat:∀{i:Nat} (hi:i<kvs.length),(kvs.map kf).getD i []=kf kvs[i]:=λ{i} hi=>by rw[b5B,b5L,b5z hi];rfl
 refine a3j (b:=b) L (ks:=λi=>(kvs.map kf).getD i []) (g:=g) (xs:=kvs.map λp=>V.ref p.2.1) J4 (b5y _ (b5y _ ho1)) (b5D _ rfl) (by rw[szS];exact b6o (Nat.lt_add_of_pos_right (by decide))) fl fS nl (J1.hok.fresh (by show h1.objs.size<=_;rw[szS];omega)) er (by omega) (λi x H1 Q1 hx sm hq=>?_) (λi hi=>?_) (λs' H' ps c J5 sm na pm pw ho=>⟨_,rfl,?_⟩)
 ·have hi:i<kvs.length:=by
   have:=(b5E.mp hx).1;rw[b5x] at this;exact this
  rw[b5L,b5z hi] at hx;cases hx;refine hk _ (b7t hi) H1 Q1 sm λt H2 s2 h2=>hq t H2 s2 ?_;show H2 t=some (.tup (((kvs.map kf).getD i []).map V.int));rw[kat hi];exact h2
 ·show(kvs.map kf).getD i []≠[];rw[kat (by omega)];exact nn _ (b7t _)
 ·have ez:((List.range its.length).map λi=>(kvs.map kf).getD i []).zip its=kvs.map λp=>(kf p,Value.ref p.2.1):=by
   rw[<-eits];refine b7u (by simp) λi h1 h2=>?_;have hi:i<kvs.length:=by simpa using h2
   rw[b9X,b6n,b6n,b6n,b9u,kat hi]
  rw[ez] at pm;obtain⟨out,po,rfl⟩:=a3k pm;rw[b6r] at ho;have hv:a0w (out.map λp=>V.ref p.2.1) (out.map (Prod.snd ∘ λp:KK × Addr × V=>(kf p,Value.ref p.2.1))):=by
   clear pm ho po pw
   induction out with
   | nil=>exact .nil
   | cons p r ih=>exact .cons rfl ih
  have ok:a0B X.prog X.w (upd H' h1.objs.size (.lst (out.map λp=>V.ref p.2.1))) s'.heap h1.objs.size (.lst (out.map λp=>V.ref p.2.1)):=⟨by rw[b5x,po.length_eq,b6l];omega,_,c,hv,ho⟩
  rw[b6k] at pw;exact b5A ⟨_,rfl,.ref h1.objs.size,_,J5.adopt (fl H' na) ok,rfl,q _ out _ (sm.trans (a0c na _)) nl a0b po pw⟩
def b4r (knd:HeapKind X.prog X.w KK) (Rg:St->Addr->List V->Hp->VK->Prop) (td:TE) (tk:TA):TE:=λσ H Q=>td σ H λx H1=>tk σ H1 λzs H2=>∃(d g:Addr) (b:Bool) (kvs:List (KK × Addr × V)) (kf:KK × Addr × V->List Int),x=.ref d/\zs=[.ref g,.bl b]/\H2 d=some (NDO knd d kvs)/\kvs.length<=63 /\
 (∀p∈kvs,∀H3 Q1,a0m H2 H3->(∀t H4,a0m H3 H4->H4 t=some (.tup ((kf p).map V.int))->Q1 (.ref t) H4)->Rg σ g [.ref p.2.1] H3 Q1)/\(∀p∈kvs,kf p≠[]) /\
 ∀(d2:Addr) (out:List (KK × Addr × V)) H',a0m H2 H'->H2 d2=none->H' d2=some (.lst (out.map λp=>V.ref p.2.1))->out.Perm kvs->out.Pairwise (NOrd b kf)->Q (.ref d2) H'
theorem a9L {a e2 e3:Expr} {p pos kpos kpos2:Pos} {td:TE} {tk:TA} {Rg:St->Addr->List V->Hp->VK->Prop} (L:∀σ,a8m X σ (Rg σ)) (hc:X.calm=true) (hg:Gl X "sorted") (hm:X.mg "sorted"=none) (ha:PE X a td) (hk:PK X [⟨some "key",e2,kpos⟩,⟨some "reverse",e3,kpos2⟩] tk)
  (h1:backTo pos (starEach [a] X.env)=(false,eval a X.env)::backTo pos (starEach [] X.env):=by rfl)
  (h2:((backTo pos (starEach [a] X.env)).any (·.1))=false:=by rfl) (h3:(backToKw pos (keywordEach [⟨some "key",e2,kpos⟩,⟨some "reverse",e3,kpos2⟩] X.env)).all (·.1.isSome)=true:=by rfl) (h4:(backToKw pos (keywordEach [⟨some "key",e2,kpos⟩,⟨some "reverse",e3,kpos2⟩] X.env)).any (·.1.isNone)=false:=by rfl) (h5:(backToKw pos (keywordEach [⟨some "key",e2,kpos⟩,⟨some "reverse",e3,kpos2⟩] X.env)).filterMap (·.1)=[Str.ofString "key",Str.ofString "reverse"]:=by rfl) :
  PE X (.Call (.Name "sorted" p) [a] [⟨some "key",e2,kpos⟩,⟨some "reverse",e3,kpos2⟩] pos) (b4r knd Rg td tk):=by
 intro pins s σ H Q I h;refine b6y (a1i I hg hm a1g ?_ (by decide) (by decide));refine c0T ?_ h1 h2 h3 h4;rw[h1];refine b8J ?_;refine thn (ha pins s σ H _ I h) λu s1 ⟨x,H1,I1,rx,q1⟩=>?_;refine b8W ?_;refine thn (hk pos pins s1 σ H1 _ I1 q1) λws s2 ⟨zs,H2,I3,rz,q2⟩=>?_;rw[h5];obtain⟨d,g,b,kvs,kf,rfl,rfl,hd,hn,hkk,nn,q3⟩:=q2;cases rx;cases rz with
 | cons r1 rr =>
  cases rr with
  | cons r2 rr =>
   cases rr;cases r1;have r2:=r2;obtain rfl:=(show _=Value.bool b from r2)
   exact a8p (L σ) hc I3 hd hn hkk nn q3
end
end L2
namespace L2
open PySem PySem.Spec PyProof.Rows PySem.W
abbrev wkO (own:Value) (f:Bool) (d:Addr) (i n ep:Nat) (ok ov:Value):Obj:={ cls:=.type "dict_itemiterator",dict:=none,data:=.fields #[own,.bool f,.ref d,.int i 0,.int n 0,.int ep 0,ok,ov],slots:=#[] }
abbrev p2O (k v:Value):Obj:={ cls:=.type "tuple",data:=.seq #[k,v] }
def ItS (h:Heap) (it d S:Addr) (i n ep:Nat):Prop:=∃own f ok ov,h.get? it=some (wkO own f d i n ep ok ov)/\(own=.none\/∃(a:Addr) (oa:Obj),own=rawInt a/\h.get? a=some oa/\a≠it/\a≠S)
theorem ItS.keep {h h':Heap} {it d S:Addr} {i n ep:Nat} (x:ItS h it d S i n ep) (hk:∀b o,b≠S->h.get? b=some o->h'.get? b=some o) (hI:it≠S):ItS h' it d S i n ep:=by
 obtain⟨own,f,ok,ov,e,r⟩:=x;exact⟨own,f,ok,ov,hk _ _ hI e,r.imp id λ⟨a,oa,e1,e2,e3,e4⟩=>⟨a,oa,e1,hk _ _ e4 e2,e3,e4⟩⟩
section
variable {prog:Program} {w:World} {A:Around} {E:Value->Shared->Prop} {s:Shared} {it d S:Addr} {i n ep:Nat} {es:Array DictEntry}
theorem b1T {k v:Value} {Q:Value->Shared->Prop} (st:ItS s.heap it d S i n ep) (hS:S<s.heap.objs.size)
  (hQ:∀h',ItS h' it d S i n ep->h'.get? s.heap.objs.size=some (p2O k v)->h'.objs.size=s.heap.objs.size+1->(∀b o,b≠it->s.heap.get? b=some o->h'.get? b=some o)->Q (.ref s.heap.objs.size) { s with heap:=h' }) :
  wpAny (model prog w) A (Builtin.Dict_items.pairFromOwner (.ref it) 6 k v) Q E s:=by
 obtain⟨own,f,ok,ov,hit,r⟩:=st;have il:=b5F hit;unfold Builtin.Dict_items.pairFromOwner;refine b5w (b8F ?_);have e2:(s.heap.push (p2O k v)).get? it=some (wkO own f d i n ep ok ov):=b5y _ hit;have t2:(s.heap.push (p2O k v)).get? s.heap.objs.size=some (p2O k v):=b5D _ rfl;have z2:(s.heap.push (p2O k v)).objs.size=s.heap.objs.size+1:=b6h _ _;have k2:∀b o,s.heap.get? b=some o->(s.heap.push (p2O k v)).get? b=some o:=λb o e=>b5y _ e;show wpAny _ _ (Builtin.Dict_items.ownedTupleIsFree (.ref it) >>= _) _ _ { s with heap:=s.heap.push (p2O k v) };generalize s.heap.push (p2O k v)=h2 at e2 t2 z2 k2 ⊢;have nt:s.heap.objs.size≠it:=b6o il;refine b5w ?_;unfold Builtin.Dict_items.ownedTupleIsFree;rcases r with rfl|⟨a,oa,rfl,ha,hai,haS⟩
 ·refine b5w (b6v e2 rfl (x:=.none) rfl (b5A ?_));simp only[if_true];refine b5w (b6v e2 rfl (x:=ok) rfl (b5w (b6v e2 rfl (x:=ov) rfl ?_)));refine b5w (b6C e2 (by simp) λh3 (e3:h3.get? it=some (wkO .none f d i n ep k ov)) (s3:Heap.SameBut it h2 h3)=>?_);refine b5w (b6C e3 (by simp) λh4 (e4:h4.get? it=some (wkO .none f d i n ep k v)) (s4:Heap.SameBut it h3 h4)=>?_);refine b5w (b6C e4 (by simp) λh5 (e5:h5.get? it=some (wkO (rawInt s.heap.objs.size) f d i n ep k v)) (s5:Heap.SameBut it h4 h5)=>?_);refine b5w (b6C e5 (by simp) λh6 (e6:h6.get? it=some (wkO (rawInt s.heap.objs.size) false d i n ep k v)) (s6:Heap.SameBut it h5 h6)=>?_);have up:∀b o,b≠it->h2.get? b=some o->h6.get? b=some o:=λb o nb e=>s6.extBut b o nb (s5.extBut b o nb (s4.extBut b o nb (s3.extBut b o nb e)));exact b5w (b7U (b5A (hQ h6 ⟨_,_,_,_,e6,.inr ⟨_,_,rfl,up _ _ nt t2,nt,b6o hS⟩⟩ (up _ _ nt t2) (by rw[s6.1,s5.1,s4.1,s3.1,z2]) λb o nb e=>up b o nb (k2 b o e))))
 ·refine b5w (b6v e2 rfl (x:=rawInt a) rfl ?_);show wpAny _ _ (loadIfAlive ((a:Int).toNat) >>= _) _ _ _;rw[b6Z];refine b5w (kdx_alive (k2 _ _ ha) ?_);simp only[Option.isNone_some,b6j,b7L];refine b5w (b6v e2 rfl (x:=.bool f) rfl ?_);cases f with
  | true =>
   rw[if_neg (show ¬((Value.bool true !=Value.bool true)=true) by decide)];refine b5A ?_;simp only[b6j,b7L];exact b5A (hQ h2 ⟨_,_,_,_,e2,.inr ⟨a,oa,rfl,k2 _ _ ha,hai,haS⟩⟩ t2 z2 λb o _ e=>k2 b o e)
  | false =>
   rw[if_pos (show(Value.bool false !=Value.bool true)=true by decide)];refine b5w (b6C e2 (by simp) λh3 (e3:h3.get? it=some (wkO (rawInt a) true d i n ep ok ov)) (s3:Heap.SameBut it h2 h3)=>?_);refine b5A ?_;simp only[b6j,b7L];exact b5A (hQ h3 ⟨_,_,_,_,e3,.inr ⟨a,oa,rfl,s3.extBut _ _ hai (k2 _ _ ha),hai,haS⟩⟩ (s3.extBut _ _ nt t2) (by rw[s3.1,z2]) λb o nb e=>s3.extBut b o nb (k2 b o e))
theorem a9M {e:DictEntry} {Q:Option Value->Shared->Prop} (st:ItS s.heap it d S i es.size ep) (hS:S<s.heap.objs.size) (hSi:it≠S) (hm:a2g s.heap d es ep) (hx:es[i]?=some e)
  (hQ:∀h',ItS h' it d S (i+1) es.size ep->h'.get? s.heap.objs.size=some (p2O e.key e.val)->h'.objs.size=s.heap.objs.size+1->(∀b o,b≠it->s.heap.get? b=some o->h'.get? b=some o)->Q (some (.ref s.heap.objs.size)) { s with heap:=h' }) :
  wpAny (model prog w) A (pyNext (.ref it)) Q E s:=by
 obtain⟨own,f,ok,ov,hit,r⟩:=st;obtain⟨od,hod,hcd,hdd⟩:=hm;have T0:s.TypeIs (.ref it) "dict_itemiterator":=⟨_,hit,rfl⟩
 have il:i<es.size:=(Array.getElem?_eq_some_iff.mp hx).1;unfold pyNext;refine b5w (b7N (b6s (name:=Str.ofString "__next__") T0 b7D (b6i b7D T0 b9Q ?_ (b9D _))));refine b5w (b5A (b5w (b5w ?_)))
 first
  | refine b5w (b7Q T0 (b5A ?_))
  | refine b5w (b8k T0 (b5A ?_))
 refine b5w (c0A hit rfl ?_);simp only[show Builtin.Dict_items.ownsTuple "dict_itemiterator"=true by decide,if_true];show wpAny _ _ (if (Value.ref d==Value.none)=true then _ else _) _ _ _;rw[if_neg (show ¬((Value.ref d==Value.none)=true) by intro z;cases z)];refine b5w (b5A (b5w (b8p hod hdd ?_)));rw[if_neg (by simp)];refine b5w (b5A (b5w (b8N hod hdd ?_)));rw[if_neg (by simp)];refine b5A ?_;have ee:es[i]=e:=by rw[b7B il] at hx;exact b5U hx
 simp only[show ¬((i:Int)<0) by omega,b7L,b6Z,hx];refine b5w ?_
 first
  | refine b5w (b7Q T0 (b5A ?_))
  | refine b5w (b8k T0 (b5A ?_))
 refine b5w (b9y T0 ?_);show wpAny _ _ (setField (.ref it) 3 (rawInt ((i:Int)+1)) >>= _) _ _ _;refine b5w (b6C hit (by simp) λh1 e1 (s1:Heap.SameBut it s.heap h1)=>?_);have e1:h1.get? it=some (wkO own f d (i+1) es.size ep ok ov):=by
  have q:((i+1:Nat):Int)=(i:Int)+1:=by omega
  show h1.get? it=some { cls:=.type "dict_itemiterator",dict:=none,data:=.fields #[own,.bool f,.ref d,.int ((i+1:Nat):Int) 0,.int es.size 0,.int ep 0,ok,ov],slots:=#[] };rw[q];simpa [rawInt] using e1
 have T1:Shared.TypeIs { s with heap:=h1 } (.ref it) "dict_itemiterator":=⟨_,e1,rfl⟩
 refine b5w (b6d (b5w (b9y T1 ?_)));refine b5w (b9y T1 ?_);show wpAny _ _ (Builtin.Dict_items.pairFromOwner (.ref it) 6 e.key e.val) _ _ { s with heap:=h1 };have z1:h1.objs.size=s.heap.objs.size:=s1.1;have st1:ItS h1 it d S (i+1) es.size ep:=⟨own,f,ok,ov,e1,r.imp id λ⟨a,oa,q1,q2,q3,q4⟩=>⟨a,oa,q1,s1.extBut _ _ q3 q2,q3,q4⟩⟩
 refine b1T (s:={ s with heap:=h1 }) st1 (by show S<h1.objs.size;rw[z1];exact hS) λh' st' t' z' k'=>?_;have t':h'.get? h1.objs.size=some (p2O e.key e.val):=t';have z':h'.objs.size=h1.objs.size+1:=z';rw[z1] at t' z';show wpAny _ _ _ _ _ _;rw[show(({ s with heap:=h1 }:Shared).heap.objs.size)=s.heap.objs.size from z1];exact b5A ⟨_,rfl,b5A (hQ h' st' t' z' λb o nb q=>k' b o nb (s1.extBut b o nb q))⟩
theorem a9N {Q:Option Value->Shared->Prop} (hh:A.handled=none) (st:ItS s.heap it d S i es.size ep) (hm:a2g s.heap d es ep) (hx:es.size<=i) (hQ:∀h',Heap.ExtBut it s.heap h'->Q none { s with heap:=h' }):wpAny (model prog w) A (pyNext (.ref it)) Q E s:=by
 obtain⟨own,f,ok,ov,hit,r⟩:=st;obtain⟨od,hod,hcd,hdd⟩:=hm;have T0:s.TypeIs (.ref it) "dict_itemiterator":=⟨_,hit,rfl⟩
 unfold pyNext;refine b5w (b7N (b6s (name:=Str.ofString "__next__") T0 b7D (b6i b7D T0 b9Q ?_ (b9D _))));refine b5w (b5A (b5w (b5w ?_)))
 first
  | refine b5w (b7Q T0 (b5A ?_))
  | refine b5w (b8k T0 (b5A ?_))
 refine b5w (c0A hit rfl ?_);simp only[show Builtin.Dict_items.ownsTuple "dict_itemiterator"=true by decide,if_true];show wpAny _ _ (if (Value.ref d==Value.none)=true then _ else _) _ _ _;rw[if_neg (show ¬((Value.ref d==Value.none)=true) by intro z;cases z)];refine b5w (b5A (b5w (b8p hod hdd ?_)));rw[if_neg (by simp)];refine b5w (b5A (b5w (b8N hod hdd ?_)));rw[if_neg (by simp)];refine b5A ?_;simp only[show ¬((i:Int)<0) by omega,b7L,b6Z,Array.getElem?_eq_none hx];refine b5w ?_
 first
  | refine b5w (b7Q T0 (b5A ?_))
  | refine b5w (b8k T0 (b5A ?_))
 show wpAny _ _ (setField (.ref it) 2 .none >>= _) _ _ s;refine b5w (b9G hit rfl (by simp) ?_);show wpAny _ _ (newExc (.type "StopIteration") [] >>= _) _ _ _;refine b5w ?_;simp only[newExc,newTuple];refine b5w (b6p ?_ (by size_fits));refine b5w (m:=firstArgMember _ _) (c0R (a:=Value.none) (by first|rfl|(simp only[firstArgMember];rfl)) ?_);refine b6p ?_ (by size_fits);simp only[raiseNew];refine b5w (wpAny_handled ?_);rw[show A.in1.handled=none from hh];refine b5w (b5A (wpAny_throw ?_));refine b5w (b7V (T:="StopIteration") (b:=true) ⟨_,b5D _ rfl,rfl⟩ b9H ?_);exact b5A (hQ _ (((b8u ..).extBut.push _).push _))
structure a6i (es:Array DictEntry) (lo:Addr) (h:Heap) (as:List Addr):Prop where
 nd:as.Pairwise (· < ·)
 ab:∀a∈as,lo<a
 at_:∀(j:Nat) (a:Addr),as[j]?=some a->∃e,es[j]?=some e/\h.get? a=some (p2O e.key e.val)
theorem a6i.lt {lo:Addr} {h:Heap} {as:List Addr} (g:a6i es lo h as) {a:Addr} (ha:a∈as):a<h.objs.size:=by
 obtain⟨j,hj⟩:=b7X ha;obtain⟨_,_,e⟩:=g.at_ j a hj;exact b5F e
end
section
variable {prog:Program} {w:World} {A:Around} {s:Shared} {R:Result->Shared->Prop} {ep:Nat} {es:Array DictEntry}
theorem a3R {S I d:Addr} (hh:A.handled=none) (hSI:S<I) (hSd:d≠S) (hId:d≠I) (hn:es.size<=sizeLine) (res:Value) {h1:Heap}
  (hR:∀h' tk acc c as,(∀b o,b≠S->b≠I->h1.get? b=some o->h'.get? b=some o)->h'.get? S=some { cls:=.type "list",dict:=none,data:=.seq acc c,slots:=#[] }->as.length=es.size->a6i es I h' as->acc.toList=as.map Value.ref->R (.ok (.ret res)) { s with heap:=h',toks:=tk }) :
  ∀(k i:Nat) (h:Heap) (tk c:Nat) (acc:Array Value) (as:List Addr),es.size-i=k->i<=es.size->ItS h I d S i es.size ep->a2g h d es ep->(∀b o,b≠S->b≠I->h1.get? b=some o->h.get? b=some o) ->
   h.get? S=some { cls:=.type "list",dict:=none,data:=.seq acc c,slots:=#[] }->acc.toList=as.map Value.ref->as.length=i->a6i es I h as ->
   codeAny (model prog w) A (.builtin "list.extend.loop" ⟨[.ref S,.ref I,res],[]⟩) R { s with heap:=h,toks:=tk }
 | 0,i,h,tk,c,acc,as,hk,hi,st,hm,kp,hS,ha,hl,g=>by
  refine b6q b9d ?_;rw[b5Z b7s _];show wpAny _ A.in1 (pyNext (.ref I) >>= _) _ _ _;refine b5w (a9N (s:={ s with heap:=h,toks:=tk }) (A:=A.in1) hh st hm (by omega) λh' ke=>?_);refine b5A (hR h' tk acc c as (λb o n1 n2 e=>ke b o n2 (kp b o n1 n2 e)) (ke S _ (b5O hSI) hS) (by omega) ⟨g.nd,g.ab,λj a hj=>?_⟩ ha);obtain⟨e,q1,q2⟩:=g.at_ j a hj;exact⟨e,q1,ke a _ (b6o (g.ab a (b5M hj))) q2⟩
 | k+1,i,h,tk,c,acc,as,hk,hi,st,hm,kp,hS,ha,hl,g=>by
  have il:i<es.size:=by omega
  have hsz:acc.size=i:=by rw[<-b6a,ha,b5x,hl]
  have Sl:S<h.objs.size:=b5F hS;have Il:I<h.objs.size:=by obtain⟨_,_,_,_,q,_⟩:=st;exact b5F q
  refine b6q b9d ?_;rw[b5Z b7s _];show wpAny _ A.in1 (pyNext (.ref I) >>= _) _ _ _;refine b5w (a9M (s:={ s with heap:=h,toks:=tk }) (S:=S) st Sl (b6o hSI) hm (b7B il) λh' st' ht hz kn=>?_);dsimp only at ht hz kn ⊢;have hS':=kn S _ (b5O hSI) hS;have up:∀b o,b≠S->h'.get? b=some o->(h'.update S (Obj.mapSeq (·.push (Value.ref h.objs.size)))).get? b=some o:=λb o nb e=>(b8c _ _ (Ne.symm nb)).trans e;have hm':a2g (h'.update S (Obj.mapSeq (·.push (Value.ref h.objs.size)))) d es ep:=hm.at λo e=>up d o hSd (kn d o hId e);show wpAny _ A.in1 (updateSeq S (·.push (Value.ref h.objs.size)) >>= _) _ _ _;refine b5w (b7r hS' rfl (b5A ⟨b6D b7s _,a3R hh hSI hSd hId hn res hR k (i+1) _ tk _ (acc.push (Value.ref h.objs.size)) (as++[h.objs.size]) (by omega) il (st'.keep up (b6o hSI)) hm' (λb o n1 n2 e=>up b o n1 (kn b o n2 (kp b o n1 n2 e))) (b7d _ hS' rfl) (by rw[Array.toList_push,ha,b5H];rfl) (by rw[b5J,hl];rfl) ⟨?_,λa hx=>?_,λj a hj=>?_⟩⟩) (by rw[hsz];omega) (by rw[Array.size_push,hsz];omega))
  ·refine b7x.mpr ⟨g.nd,b6S _ _,λa hx b hb=>?_⟩;rw[b5C.mp hb];exact g.lt hx
  ·rcases b5W.mp hx with hx|hx
   ·exact g.ab a hx
   ·rw[b5C.mp hx];exact Il
  ·by_cases z:j<as.length
   ·rw[b6T z] at hj;obtain⟨e,q1,q2⟩:=g.at_ j a hj;have gt:=g.ab a (b5M hj);exact⟨e,q1,up a _ (b6o (c0v hSI gt)) (kn a _ (b6o gt) q2)⟩
   ·have zj:j=i:=by
     have:=(b5E.mp hj).1;rw[b5J] at this;have:j<as.length+1:=this;omega
    rw[b6w (by omega),zj,hl,b9P] at hj;cases hj;exact⟨es[i],by rw[zj];exact b7B il,up _ _ (b6o Sl) ht⟩
end
section
variable {prog:Program} {w:World} {A:Around} {E:Value->Shared->Prop} {s:Shared} {R:Result->Shared->Prop} {ep:Nat} {es:Array DictEntry} {r d:Addr}
theorem a5A (hh:A.handled=none) (hv:s.heap.IsItemsView r d) (hm:a2g s.heap d es ep) (S:Addr) (hSr:S≠r) (hSd:d≠S) (res:Value) (c0:Nat) (hS:s.heap.get? S=some { cls:=.type "list",data:=.seq #[] c0 }) (hn:es.size<=sizeLine)
  (hR:∀h' tk acc c as,(∀b o,b≠S->s.heap.get? b=some o->h'.get? b=some o)->h'.get? S=some { cls:=.type "list",dict:=none,data:=.seq acc c,slots:=#[] }->as.length=es.size->a6i es s.heap.objs.size h' as->acc.toList=as.map Value.ref->R (.ok (.ret res)) { s with heap:=h',toks:=tk }) :
  wpAny (model prog w) A.in1 (Builtin.List.listExtendWith (.ref S) (.ref r) res)
   (λfin s'=>match fin with | .done f=>R (.ok f) s' | .again c'=>c'.quiet=true/\codeAny (model prog w) A c' R s') (λe s'=>R (.error e) s') s:=by
 have Sl:S<s.heap.objs.size:=b5F hS;have dl:d<s.heap.objs.size:=by obtain⟨o,ho,_⟩:=hm;exact b5F ho
 obtain⟨vo,hvo,hvc,hvd⟩:=id hv;have go:∀(h:Heap) (c1 tk:Nat),(∀b o,b≠S->(s.heap.push (wkO .none false d 0 es.size ep .none .none)).get? b=some o->h.get? b=some o)->h.get? S=some { cls:=.type "list",data:=.seq #[] c1 }->codeAny (model prog w) A (.builtin "list.extend.loop" ⟨[.ref S,.ref s.heap.objs.size,res],[]⟩) R { s with heap:=h,toks:=tk }:=λh c1 tk kp hS1=>by
  have hI:=kp s.heap.objs.size _ (b6o Sl) (b5D _ rfl);exact a3R (s:=s) (h1:=s.heap) hh Sl hSd (b5O dl) hn res (λh' tk' acc c as k' hS' hl g ha=>hR h' tk' acc c as (λb o nb e=>k' b o nb (b5O (b5F e)) e) hS' hl g ha)
   es.size 0 h tk c1 #[] [] (Nat.sub_zero _) (b6e _) ⟨_,_,_,_,hI,.inl rfl⟩ (hm.at λo e=>kp d o hSd (b5y _ e)) (λb o nb _ e=>kp b o nb (b5y _ e)) hS1 rfl rfl ⟨.nil,λa ha=>(by cases ha),λj a hj=>(by simp at hj)⟩
 unfold Builtin.List.listExtendWith;refine b5w (b9k (T:="dict_items") hv.typeIs ?_);simp only[show Builtin.List.listSameRef (.ref S) (.ref r)=false by simp[Builtin.List.listSameRef,hSr],show(Value.type "dict_items" == Value.type "list")=false by decide,show(Value.type "dict_items" == Value.type "tuple")=false by decide,Bool.or_false,b6j,b7L];obtain⟨od,hod,hcd,hdd⟩:=id hm;refine b5w (wpAny_pyIter_slot hv.typeIs F.slot_dict_items_iter (b6i F.slot_dict_items_iter hv.typeIs F.entry_dict_items_iter ?_ (F.args_dict_items_iter_1 _)));unfold Builtin.«dict_items.__iter__»;refine b5w (b5A (b5w ?_));unfold Builtin.Dict_items.dictOf;refine b5w (b6v hvo hvd (x:=.ref d) rfl (b5A (b5w ?_)));unfold Builtin.Dict_items.newIterator;refine b5w (b8p hod hdd (b5w (b8N hod hdd ?_)));simp only[show Builtin.Dict_items.ownsTuple "dict_itemiterator"=true by decide,if_true];refine b6p (b5A ⟨_,rfl,"dict_itemiterator",_,⟨_,b5D _ rfl,rfl⟩,b7D.lookup,?_⟩) (by simp only[sizeOk,Builtin.Dict_items.ownedTupleFields,b5I,b5J,b5T,b7o,b6l];omega);show wpAny _ _ _ _ _ { s with heap:=s.heap.push (wkO .none false d 0 es.size ep .none .none) };have hS1:(s.heap.push (wkO .none false d 0 es.size ep .none .none)).get? S=some { cls:=.type "list",data:=.seq #[] c0 }:=b5y _ hS;refine b5w (b6d (kdx_hint ⟨vo,b5y _ hvo,hvc⟩ ?_));refine wpAny_ite_split (λ_=>?_) (λ_=>b5A ⟨b6D b7s _,go _ c0 _ (λb o _ e=>e) hS1⟩);refine b5w (b7K (b5w ?_));show wpAny _ _ (updateSeq S (·.push .none) >>= λ_=>updateSeq S (·.pop)) _ _ _;refine b5w (b7r hS1 rfl ?_);have hS2:=b7d (Obj.mapSeq (·.push Value.none)) hS1 rfl;refine b7r (hz:=by seq_fits) hS2 rfl ?_;have hS3:=b7d (Obj.mapSeq (·.pop)) hS2 rfl;exact b5A ⟨b6D b7s _,go _ _ _ (λb o nb e=>(b8c _ _ (Ne.symm nb)).trans ((b8c _ _ (Ne.symm nb)).trans e)) hS3⟩
theorem a4v {Q:List Value->Shared->Prop} (hh:A.handled=none) (hv:s.heap.IsItemsView r d) (hm:a2g s.heap d es ep) (hn:es.size<=sizeLine)
  (h:∀h' tk as,(∀b o,s.heap.get? b=some o->h'.get? b=some o)->as.length=es.size->a6i es s.heap.objs.size h' as->Q (as.map Value.ref) { s with heap:=h',toks:=tk }):wpAny (model prog w) A (collect (.ref r)) Q E s:=by
 have rl:r<s.heap.objs.size:=by obtain⟨_,ho,_⟩:=hv;exact b5F ho
 have dl:d<s.heap.objs.size:=by obtain⟨o,ho,_⟩:=hm;exact b5F ho
 unfold collect;refine b5w (c0B (b6q F.entry_proto_collect ?_));rw[b5Z F.plain_proto_collect _];show wpAny _ A.in1 (newList [] >>= λl=>again (.builtin "list.__iadd__" ⟨[l,.ref r],[]⟩)) _ _ s;refine b5w (b6p ?_);refine b5A ⟨b6D b9B _,b6q F.entry_list_iadd ?_⟩;rw[b5Z b9B _];show wpAny _ A.in1 (Builtin.List.listExtendWith (.ref s.heap.objs.size) (.ref r) (.ref s.heap.objs.size)) _ _ _;have hS0:(s.heap.push { cls:=.type "list",data:=.seq #[] }).get? s.heap.objs.size=some { cls:=.type "list",data:=.seq #[] }:=b5D _ rfl;have fin:∀s':Shared,(∃acc c as,s'.heap.get? s.heap.objs.size=some { cls:=.type "list",dict:=none,data:=.seq acc c,slots:=#[] }/\acc.toList=List.map Value.ref as/\Q (as.map Value.ref) s') ->
   wpAny (model prog w) A (match Value.ref s.heap.objs.size with
    | .ref a=>do
     let o <-load a
     match o.data with
     | .seq xs _=>pure xs.toList
     | _=>unsupported "internal:collect"
    | _=>unsupported "internal:collect") Q E s':=λs' ⟨acc,c,as,hS,ea,q⟩=>by
  show wpAny _ A (load s.heap.objs.size >>= _) _ _ _;refine b5w (c0i hS (b5A ?_));show Q acc.toList _;rw[ea];exact q
 refine b7Y (a5A (s:={ s with heap:=s.heap.push { cls:=.type "list",data:=.seq #[] } }) (A:=A)
  (R:=λr s'=>r=.ok (.ret (.ref s.heap.objs.size))/\∃acc c as,s'.heap.get? s.heap.objs.size=some { cls:=.type "list",dict:=none,data:=.seq acc c,slots:=#[] }/\acc.toList=List.map Value.ref as/\Q (as.map Value.ref) s')
  hh (let ⟨o,ho,x⟩:=hv;⟨o,b5y _ ho,x⟩) (hm.at λo e=>b5y _ e) s.heap.objs.size (b6o rl) (b5O dl) (.ref s.heap.objs.size) 0 hS0 hn (λh' tk acc c as kp hS hl g ha=>⟨rfl,acc,c,as,hS,ha,?_⟩)) (λfn s' hz=>?_) (λe s' hz=>?_)
 ·refine h h' tk as (λb o e=>kp b o (b5O (b5F e)) (b5y _ e)) hl ⟨g.nd,λa ha=>?_,g.at_⟩;have:=g.ab a ha;have z:(s.heap.push { cls:=.type "list",data:=.seq #[] }).objs.size=s.heap.objs.size+1:=b6h _ _;show s.heap.objs.size<a;exact b8i (b9z _) (show s.heap.objs.size+1<a by rw[<-z];exact this)
 ·rcases fn with f|c'
  ·obtain⟨e,z⟩:=hz;cases e;exact fin s' z
  ·refine⟨hz.1,b7y hz.2 λq s2 y=>?_⟩;obtain⟨rfl,z⟩:=y;exact fin s2 z
 ·obtain⟨e',_⟩:=hz;cases e'
end
def PiN (h:Heap) (v:Value) (q:(Int × List Int) × Int):Prop:=∃(b:Addr) (items:Array Value) (a:Addr) (t:Tok),v=.ref b/\IsTup h b items/\items.toList=[.ref a,.int q.2 t]/\PrN h (.ref a) q.1
theorem PiN.inj {h:Heap} {v:Value} {p q:(Int × List Int) × Int} (t1:PiN h v p) (t2:PiN h v q):p=q:=by
 obtain⟨b,items,a,t,rfl,⟨o,ho,hc,n,hd⟩,hi,hu⟩:=t1;obtain⟨b2,items2,a2,t',e,⟨o2,ho2,hc2,n2,hd2⟩,hi2,hu2⟩:=t2;cases e;rw[ho] at ho2;cases ho2;rw[hd] at hd2;cases hd2;rw[hi] at hi2;obtain⟨h1,h2⟩:=b7O hi2;obtain⟨h2,_⟩:=b7O h2;have ea:a=a2:=Value.ref.inj h1;have e2:p.2=q.2:=(Value.int.inj h2).1;subst ea;exact b9F (hu.inj hu2) e2
theorem PiN.keep {h h':Heap} {v:Value} {q:(Int × List Int) × Int} {a:Addr} {o:Obj} (t:PiN h v q) (ho:h.get? a=some o) (hc:o.cls=.type "list") (k:∀b o,b≠a->h.get? b=some o->h'.get? b=some o):PiN h' v q:=by
 obtain⟨b,items,c,tk,rfl,⟨ob,hb,hcb,n,hd⟩,hi,hu⟩:=t;have ne:b≠a:=λz=>by rw[z,ho] at hb;cases hb;rw[hc] at hcb;exact absurd (Value.type.inj hcb) (by decide)
 exact⟨b,items,c,tk,rfl,⟨ob,k b ob ne hb,hcb,n,hd⟩,hi,hu.keep ho hc k⟩
theorem PiN.keep2 {h h':Heap} {v:Value} {q:(Int × List Int) × Int} (t:PiN h v q) (k:∀b o,h.get? b=some o->h'.get? b=some o):PiN h' v q:=by
 obtain⟨b,items,c,tk,rfl,⟨ob,hb,hcb,n,hd⟩,hi,hu⟩:=t;exact⟨b,items,c,tk,rfl,⟨ob,k b ob hb,hcb,n,hd⟩,hi,hu.keep2 k⟩
theorem a3S {prog:Program} {w:World}:∀{vs:List Value} {ns:List Int},IntsAre vs ns->ItemsAre (intKind prog w) ns vs
 | [],_,h=>by cases h;exact .nil
 | v::vs,_,h=>by
  cases h with
  | cons _ _ h2=>exact .cons (by simp[intKind,Value.isInt]) (a3S h2)
theorem PrN.nest {prog:Program} {w:World} {h:Heap} {a:Addr} {q:Int × List Int} (t:PrN h (.ref a) q):a1b prog w h [.i q.1,.t q.2] a:=by
 obtain⟨b,items,tk,u,e,⟨o,ho,hc,n,hd⟩,hi,b2,it2,rfl,⟨o2,ho2,hc2,n2,hd2⟩,hi2⟩:=t;cases e;refine⟨o,items,n,ho,hc,hd,?_⟩;rw[hi];exact .cons (show(intKind prog w).is q.1 (.int q.1 tk)=true by simp[intKind,Value.isInt]) (.cons ⟨b2,rfl,o2,it2,n2,ho2,hc2,hd2,a3S hi2⟩ .nil)
theorem a9O {prog:Program} {w:World} {h:Heap} {a:Addr} {q:Int × List Int} (t:a1b prog w h [.i q.1,.t q.2] a):PrN h (.ref a) q:=by
 obtain⟨o,items,n,ho,hc,hd,r⟩:=t;generalize hl:items.toList=its at r;cases r with
 | cons r1 r2 =>
  cases r2 with
  | cons r2 r3 =>
   cases r3;rename_i v1 v2;obtain⟨tk,rfl⟩:=c0E (k:=q.1) (v:=v1) r1;obtain⟨b,rfl,o2,it2,n2,ho2,hc2,hd2,hi2⟩:=r2;refine⟨a,items,tk,.ref b,rfl,⟨o,ho,hc,n,hd⟩,hl,b,it2,rfl,⟨o2,ho2,hc2,n2,hd2⟩,?_⟩;have key:∀{ns:List Int} {vs:List Value},ItemsAre (intKind prog w) ns vs->IntsAre vs ns:=λ{ns vs} x=>by
    induction x with
    | nil=>exact .nil
    | cons h1 _ ih =>
     obtain⟨t,rfl⟩:=c0E h1;exact .cons _ _ ih
   exact key hi2
variable {prog:Program} {w:World} {A:Around} {E:Value->Shared->Prop} {s:Shared}
theorem a8q {x y:Value} {p q:(Int × List Int) × Int} {C:Bool->Shared->Prop} (hx:PiN s.heap x p) (hy:PiN s.heap y q) (hu:A.units+4<cLine) (one:p.1=q.1->p=q) (h:C (a3A p.1 q.1) s):wpAny (model prog w) A (keyLt' (tuples' false) x y) C E s:=by
 obtain⟨b,items,a,t,rfl,⟨o,ho,hc,n,hd⟩,hi,pa⟩:=hx;obtain⟨b2,items2,a2,t2,rfl,⟨o2,ho2,hc2,n2,hd2⟩,hi2,pa2⟩:=hy;refine kat_lt ho hd ho2 hd2 ?_;have z1:items.size=2:=by rw[<-b6a,hi];rfl
 have z2:items2.size=2:=by rw[<-b6a,hi2];rfl
 rw[hi,hi2,z1,z2];show KatLex prog w A false (decide (2<2)) C [(.ref a,.ref a2),(.int p.2 t,.int q.2 t2)] 0 s;refine kat_cons (a2i (by omega) (.cons (.inl ⟨_,_,rfl,rfl⟩) (.cons (.inr ⟨_,_,rfl,rfl⟩) .nil)) pa.nest pa2.nest ?_);by_cases e:p.1=q.1
 ·have e2:=one e;rw[show decide ([Cell.i p.1.1,Cell.t p.1.2]=[Cell.i q.1.1,Cell.t q.1.2])=true from b6b (by rw[e])];refine kat_yes (kat_cons (b9S ?_));rw[e2,show(q.2==q.2)=true by simp];refine kat_yes (kat_nil ?_);rw[e,a2M] at h;exact h
 ·rw[show decide ([Cell.i p.1.1,Cell.t p.1.2]=[Cell.i q.1.1,Cell.t q.1.2])=false from b6N (λz=>e (by
   have z1:=(b7O z).1;have z2:=(b7O (b7O z).2).1;exact b9F (Cell.i.inj z1) (Cell.t.inj z2)))]
  exact kat_no (kat_one _ _ (b1N pa pa2 hu h))
theorem a8r {M:Model} {vs:List Value} {Q:SortKind->Shared->Prop} (h1:1<=vs.length) (t:∀v∈vs,∃q,PiN s.heap v q) (h:Q (tuples' false) s):wpAny M A (keyKind' vs.toArray) Q E s:=by
 obtain⟨fs,kt,fl,fi⟩:∃fs,KatTups s.heap vs fs/\fs.length=vs.length/\∀v∈fs,∃(a:Addr) (o:Obj),v=Value.ref a/\s.heap.get? a=some o/\o.cls=.type "tuple":=by
  clear h1 h
  induction vs with
  | nil=>exact⟨[],trivial,rfl,λv hv=>by cases hv⟩
  | cons v r ih =>
   obtain⟨fs,k1,k2,k3⟩:=ih λv hv=>t v (.tail _ hv);obtain⟨q,b,items,a,tk,rfl,⟨o,ho,hc,n,hd⟩,hi,pa⟩:=t v (.head _);refine⟨.ref a::fs,KatTups.cons ho hc hd ?_ k1,by rw[b5T,b5T,k2],λv hv=>?_⟩
   ·rw[<-b7F,hi];rfl
   ·rcases b5Q.mp hv with rfl|hv
    ·obtain⟨b',it',tk',u',e',⟨o',ho',hc',_⟩,_⟩:=pa;cases e';exact⟨_,o',rfl,ho',hc'⟩
    ·exact k3 v hv
 refine kat_kind (T:=Value.type "tuple") kt (by omega) (λv hv=>?_) rfl h;obtain⟨a,o,rfl,ho,hc⟩:=fi v hv;rw[<-hc];exact(Looks.ld ho).andThen .now
theorem a8s {a:Addr} {vs:List Value} {ks:List ((Int × List Int) × Int)} {n:Nat} {P:PySem.Fin->Shared->Prop} (ho:s.heap.get? a=some (seqObj "list" vs.toArray n)) (hz:vs.length<=63) (hl:ks.length=vs.length) (t:∀i,i<vs.length->PiN s.heap (vs.getD i Value.none) (ks.getD i ((0,[]),0)))
  (nd:(ks.map Prod.fst).Nodup) (hu:A.units+4<cLine)
  (h:∀(h':Heap) (p:Array Nat) (c:Nat),Pm vs.length p->(p.toList.map λi=>(ks.getD i ((0,[]),0)).1).Pairwise LxP->h'.get? a=some (seqObj "list" (p.toList.map λi=>vs.getD i Value.none).toArray c)->(∀b o,b≠a->s.heap.get? b=some o->h'.get? b=some o)->P (.done (.ret .none)) { s with heap:=h' }) :
  wpAny (model prog w) A (Builtin.«list.sort» ⟨[.ref a],[]⟩) P E s:=by
 have gk:∀i,(ks.map Prod.fst).getD i (0,[])=(ks.getD i ((0,[]),0)).1:=λi=>by
  rw[b5B,b5L,b5B];cases ks[i]?<;>rfl
 have o:Ord vs.length (ltKP (ks.map Prod.fst)):=by rw[<-hl,<-b5x (f:=Prod.fst)];exact ordKP nd
 have same:∀i j,i<vs.length->j<vs.length->(ks.getD i ((0,[]),0)).1=(ks.getD j ((0,[]),0)).1->i=j:=λi j hi hj z=>by
  rw[<-gk,<-gk,b5B,b5B,b5z (by rw[b5x];omega),b5z (by rw[b5x];omega)] at z;exact(b8f nd).mp z
 have ndv:vs.Nodup:=by
  unfold List.Nodup;rw[b7g];intro i j hi hj hij z;have e1:vs.getD i Value.none=vs[i]:=by rw[b5B,b5z hi];rfl
  have e2:vs.getD j Value.none=vs[j]:=by rw[b5B,b5z hj];rfl
  have t1:=t i hi;have t2:=t j hj;rw[e1,z] at t1;rw[e2] at t2;have:=same i j hi hj (by rw[t1.inj t2]);omega
 have at_:∀v∈vs,∃i,i<vs.length/\v=vs.getD i Value.none:=λv hv=>by
  obtain⟨i,hi⟩:=b6J.mp hv;exact⟨i,(b5E.mp hi).1,by rw[b5B,hi];rfl⟩
 refine a7g (κ:=tuples' false) o (λi=>a2M _) ndv ho hz (λh2 h1 k1 Q q=>?_) (λh1 k1 i j hi hj C E' q=>?_) λh' p c pm as e k=>h h' p c pm ?_ e k
 ·refine a8r (s:={ s with heap:=h1 }) (by omega) (λv hv=>?_) q;obtain⟨i,hi,rfl⟩:=at_ v hv
  exact⟨_,(t i hi).keep ho rfl k1⟩
 ·unfold ltKP at q;rw[gk,gk] at q;exact a8q (s:={ s with heap:=h1 }) ((t i hi).keep ho rfl k1) ((t j hj).keep ho rfl k1) hu (λz=>by rw[same i j hi hj z]) q
 ·have:=a2G (f:=λi=>(ks.map Prod.fst).getD i (0,[])) (R:=LxP) o pm as λi j z=>z;have e:(λi=>(ks.map Prod.fst).getD i (0,[]))=λi=>(ks.getD i ((0,[]),0)).1:=funext gk;rw[e] at this;exact this
abbrev FKy:=Int × List Int
abbrev FKv:=FKy × Addr × V
def iOf:V->Int
 | .int n=>n
 | _=>0
def IPr (H:Hp) (x:V) (p:FKv):Prop:=∃t,x=.ref t/\H t=some (.tup [.ref p.2.1,p.2.2])
theorem IPr.same {H H':Hp} {x:V} {p:FKv} (s:a0m H H') (h:IPr H x p):IPr H' x p:=by
 obtain⟨t,e,g⟩:=h;exact⟨t,e,s _ _ g⟩
theorem a5B {X:Cx} {pins:List (Addr × Obj)} {σ:St} {s:Shared}:∀{as:List Addr} {kvs:List FKv} {H:Hp},Inv X pins σ H s->as.Pairwise (· < ·)->as.length=kvs.length->(∀a∈as,H a=none/\∀H',H' a=none->a2F X pins H' a) ->
  (∀(j:Nat) a p,as[j]?=some a->kvs[j]?=some p->∃v,a0Q p.2.2 v/\s.heap.get? a=some (p2O (.ref p.2.1) v))->∃H',Inv X pins σ H' s/\a0m H H'/\Paired (IPr H') (as.map V.ref) kvs/\∀b,b∉as->H' b=H b
 | [],[],H,I,_,_,_,_=>⟨H,I,a0m.refl _,.nil,λb _=>rfl⟩
 | [],_::_,H,I,_,l,_,_=>by cases l
 | _::_,[],H,I,_,l,_,_=>by cases l
 | a::as,p::kvs,H,I,pw,l,f,g=>by
  obtain⟨pa,pw⟩:=b6E.mp pw;obtain⟨v,rv,ga⟩:=g 0 a p rfl rfl;have na:=(f a (.head _)).1;have I2:Inv X pins σ (upd H a (.tup [.ref p.2.1,p.2.2])) s:=I.adopt ((f a (.head _)).2 H na) ⟨by show 2<=sizeLine;decide,[.ref p.2.1,v],.cons rfl (.cons rv .nil),_,ga,_,rfl⟩;obtain⟨H',I3,s3,pr,oth⟩:=a5B I2 pw (by simpa using l) (λb hb=>⟨by rw[a0h (b6o (pa b hb))];exact(f b (.tail _ hb)).1,(f b (.tail _ hb)).2⟩) (λj b q hj hq=>g (j+1) b q (by simpa using hj) (by simpa using hq));have s0:=a0c na (.tup [.ref p.2.1,p.2.2]);refine⟨H',I3,s0.trans s3,.cons ⟨a,rfl,s3 _ _ a0b⟩ pr,λb hb=>?_⟩;rw[oth b (λz=>hb (.tail _ z)),a0h (λz=>hb (by rw[z];exact .head _))]
theorem a7m:∀as:List Addr,a0w (as.map V.ref) (as.map Value.ref)
 | []=>.nil
 | a::as=>.cons rfl (a7m as)
def tSortI (X:Cx) (td:TE):TE:=λσ H Q=>td σ H λx H1=>∃(d:Addr) (kvs:List FKv),x=.ref d/\H1 d=some (NDO (a0k X.prog X.w) d kvs)/\kvs.length<=63/\(∀p∈kvs,FAt X.K H1 p.1 p.2.1/\∃n,p.2.2=.int n) /\
 ∀(d2:Addr) (out:List V) (us:List FKv) H',a0m H1 H'->H1 d2=none->H' d2=some (.lst out)->us.Perm kvs->(us.map (·.1)).Pairwise LxP->Paired (IPr H') out us->Q (.ref d2) H'
theorem b1U {X:Cx} {o:Expr} {p apos cpos pos:Pos} {td:TE} (hc:X.calm=true) (hu:X.A.units+10<cLine) (hg:Gl X "sorted") (hm:X.mg "sorted"=none) (ho:PE X o td)
  (hbase:attributeBase o "items" X.env (eval o X.env)=eval o X.env:=by rfl) (hline:(apos.endLine==cpos.line)=true:=by rfl)
  (hs:starEach [.Call (.Attribute o "items" apos) [] [] cpos] X.env=(false,eval (.Call (.Attribute o "items" apos) [] [] cpos) X.env)::starEach [] X.env:=by rfl) :
  PE X (.Call (.Name "sorted" p) [.Call (.Attribute o "items" apos) [] [] cpos] [] pos) (tSortI X td):=by
 intro pins s σ H Q I h;refine b6y (a1i I hg hm a1g ?_ (by decide) (by decide));refine b8q ?_ hs rfl;rw[hs];refine b8J ?_;refine wpAny_Call_method0_late hbase hline (thn (ho pins s σ H _ I h) λu s1 ⟨x,H1,I1,rx,d,kvs,ex,hd,hn,hk,q⟩=>?_);subst ex;cases rx;have z0:=(show a0B X.prog X.w H1 s1.heap d (NDO (a0k X.prog X.w) d kvs) from I1.hok d _ hd).1;obtain⟨hsy,hl,xs,rel,ob,es,ep,hob,hx,hdat,he,hnd⟩:=id (show NDx (a0k X.prog X.w) d kvs s1.heap from z0);have lx:kvs.length=xs.length:=c0b rel;have sz:es.size=xs.length:=size_of_entries he;have T0:s1.TypeIs (.ref d) "dict":=⟨ob,hob,hx.1⟩
 have hde:d<s1.heap.objs.size:=b5F hob;refine⟨"dict","dict.items",F.plainAttrs_dict,F.slot_dict_items,F.type_dict_items,T0,?_,b9x rfl (PySem.evalArgs_none ?_)⟩
 ·intro a z;cases z;exact⟨ob,hob,hx.2.1⟩
 refine b6i F.slot_dict_items T0 F.entry_dict_items ?_ (F.args_dict_items_1 _);unfold Builtin.«dict.items»;refine b5w ?_;unfold Builtin.Dict.noArgs;refine b5w (b9K T0 ?_);show wpAny _ _ (pure d) _ _ s1;refine b5A ?_;show wpAny _ _ (Builtin.Dict.showsAll d >>= _) _ _ s1;unfold Builtin.Dict.showsAll;rw[if_neg (by rw[hsy];decide)];refine b5w (b5A (b5w (b6p (b5A ⟨_,rfl,?_⟩))));refine b8W ?_;have hv:(s1.heap.push { cls:=.type "dict_items",data:=.fields #[.ref d] }).IsItemsView s1.heap.objs.size d:=⟨_,b5D _ rfl,rfl,rfl⟩
 have kv:∀b o,s1.heap.get? b=some o->(s1.heap.push { cls:=.type "dict_items",data:=.fields #[.ref d] }).get? b=some o:=λb o e=>b5y _ e;have zv:(s1.heap.push { cls:=.type "dict_items",data:=.fields #[.ref d] }).objs.size=s1.heap.objs.size+1:=b6h _ _;show wpAny _ _ _ _ _ { s1 with heap:=s1.heap.push { cls:=.type "dict_items",data:=.fields #[.ref d] } };generalize s1.heap.push { cls:=.type "dict_items",data:=.fields #[.ref d] }=hV at hv kv zv ⊢;refine b8j c0p b9M b9N (args_sorted1 _) ?_;unfold Builtin.«sorted»;refine b5w (m:=checkCount "sorted" 1 1 _) (b5A ?_);refine b5w (a4v (s:={ s1 with heap:=hV }) (es:=es) (ep:=ep) (show X.A.in1.handled=none from I.ok.hd hc) hv ⟨ob,kv _ _ hob,hx,hdat⟩ (by rw[sz,<-lx,b6l];omega) λh2 tk2 as k2 las g=>?_);have k2:∀b o,hV.get? b=some o->h2.get? b=some o:=k2;have g:a6i es hV.objs.size h2 as:=g;have la:as.length=kvs.length:=by rw[las,sz,lx]
 have k12:∀b o,s1.heap.get? b=some o->h2.get? b=some o:=λb o e=>k2 b o (kv b o e);have ab:∀a∈as,s1.heap.objs.size<=a:=λa ha=>by
  have h9:=g.ab a ha;rw[zv] at h9;exact b7n (Nat.lt_of_succ_lt h9)
 have pairs:∀(j:Nat) a p,as[j]?=some a->kvs[j]?=some p->∃v,a0Q p.2.2 v/\h2.get? a=some (p2O (.ref p.2.1) v):=λj a p hj hp=>by
  obtain⟨e,he1,he2⟩:=g.at_ j a hj;obtain⟨x,hx1,r1,r2,r3⟩:=Paired.right_of rel j p hp;rw[entry_at he j,hx1] at he1;cases he1;exact⟨x.2.2,r3,by rw[r2];exact he2⟩
 have tup:∀i,i<(as.map Value.ref).length->PiN h2 ((as.map Value.ref).getD i Value.none) ((kvs.map λp=>(p.1,iOf p.2.2)).getD i ((0,[]),0)):=λi hi=>by
  rw[b5x] at hi;have ha:as[i]?=some as[i]:=b5z hi;have hp:kvs[i]?=some (kvs[i]'(by omega)):=b5z _;obtain⟨v,rv,gv⟩:=pairs i _ _ ha hp;obtain⟨fa,n,en⟩:=hk _ (b7t (show i<kvs.length by omega));have pr:=(a9O (FAt.is I1 fa)).keep2 k12;generalize kvs[i]'(by omega)=p at hp rv gv fa en pr;rw[en] at rv;obtain⟨tk,rfl⟩:=(show ∃t,v=Value.int n t from rv)
  rw[b5B,b5L,ha,b5B,b5L,hp];show PiN h2 (.ref as[i]) (p.1,iOf p.2.2);rw[en];exact⟨_,_,p.2.1,tk,rfl,⟨_,gv,rfl,_,rfl⟩,rfl,pr⟩
 have ndk:((kvs.map λp=>(p.1,iOf p.2.2)).map Prod.fst).Nodup:=by
  rw[b6r];have:kvs.map (Prod.fst ∘ λp:FKv=>(p.1,iOf p.2.2))=xs.map (·.1):=by
   refine b7u (by simp[lx]) λi h1 h2=>?_;have hi:i<kvs.length:=by simpa using h1
   obtain⟨x,hx1,r1,_,_⟩:=Paired.right_of rel i _ (b5z hi);rw[b5z (by omega)] at hx1;cases hx1;rw[b6n,b6n];exact r1
  rw[this];exact hnd
 refine b5w (b7J ?_ (by show(as.map Value.ref).length<=sizeLine;rw[b5x,b6l];omega));show wpAny _ _ _ _ _ { s1 with heap:=h2.push (seqObj "list" (as.map Value.ref).toArray 0),toks:=tk2 };have hoL:(h2.push (seqObj "list" (as.map Value.ref).toArray 0)).get? h2.objs.size=some (seqObj "list" (as.map Value.ref).toArray 0):=b5D _ rfl;have kL:∀b o,h2.get? b=some o->(h2.push (seqObj "list" (as.map Value.ref).toArray 0)).get? b=some o:=λb o e=>b5y _ e;have nL:∀b o,h2.get? b=some o->b≠h2.objs.size:=λb o e=>b5O (b5F e);refine b5w (b6d (b6i b9b ⟨_,hoL,rfl⟩ b8P (a8s (s:={ s1 with heap:=h2.push (seqObj "list" (as.map Value.ref).toArray 0),toks:=tk2 }) (ks:=kvs.map λp=>(p.1,iOf p.2.2)) hoL (by rw[b5x];omega) (by rw[b5x,b5x,la]) (λi hi=>(tup i hi).keep2 kL) ndk (by show X.A.units+1+1+4<cLine;omega) λh3 p c pm srt hL kp3=>⟨_,rfl,?_⟩) (c0C _)));rw[b5x] at pm;have k23:∀b o,h2.get? b=some o->h3.get? b=some o:=λb o e=>kp3 b o (nL b o e) (b5y _ e);have J3:Inv X pins σ H1 { s1 with heap:=h3,toks:=tk2 }:=I1.kept λb o e=>k23 b o (k12 b o e);have fp:∀a,s1.heap.objs.size<=a->∀H',H' a=none->a2F X pins H' a:=λa ha H' hn'=>I1.fpOk ha hn';obtain⟨H2,J4,s4,pr4,oth⟩:=a5B (as:=as) (kvs:=kvs) J3 g.nd la (λa ha=>⟨I1.hok.fresh (ab a ha),fp a (ab a ha)⟩) (λj a p hj hp=>by
  obtain⟨v,rv,gv⟩:=pairs j a p hj hp;exact⟨v,rv,k23 _ _ gv⟩)
 have Lsz:s1.heap.objs.size<=h2.objs.size:=by
  obtain⟨vo,hvo,_⟩:=hv;exact b7n (b5F (k2 _ _ hvo))
 have Ln:H2 h2.objs.size=none:=by
  rw[oth _ (λz=>absurd (g.lt z) (b6A _))];exact I1.hok.fresh Lsz
 have lt:∀i∈p.toList,i<(as.map V.ref).length:=λi hi=>by rw[b5x];exact pm.mem i hi
 have hv4:=a7m as;have pk:=a3e (xs:=kvs) ((0,[]),0,.non) (p:=p) (by rw[<-la];exact pm) rfl;have lp:p.toList.length=kvs.length:=by rw[<-b5x (f:=λi=>kvs.getD i ((0,[]),0,.non)),pk.length_eq]
 have J5:Inv X pins σ (upd H2 h2.objs.size (.lst (p.toList.map λi=>(as.map V.ref).getD i .non))) { s1 with heap:=h3,toks:=tk2 }:=J4.adopt (fp _ Lsz H2 Ln) ⟨by rw[b5x,lp,b6l];omega,_,c,Paired.pick hv4 .non Value.none p.toList lt,hL⟩;have s5:=a0c Ln (.lst (p.toList.map λi=>(as.map V.ref).getD i .non));refine b5A ⟨_,rfl,.ref h2.objs.size,_,J5,rfl,q _ _ (p.toList.map λi=>kvs.getD i ((0,[]),0,.non)) _ (s4.trans s5) (I1.hok.fresh Lsz) a0b pk ?_ (Paired.pick (Paired.mapP pr4 λ_ _ z=>IPr.same s5 z) .non ((0,[]),0,.non) p.toList lt)⟩;rw[b6r];have e:(p.toList.map λi=>((kvs.map λp=>(p.1,iOf p.2.2)).getD i ((0,[]),0)).1)=p.toList.map ((·.1) ∘ λi=>kvs.getD i ((0,[]),0,.non)):=b6c λi hi=>by
  have il:i<kvs.length:=by rw[<-la];exact pm.mem i hi
  show((kvs.map λp=>(p.1,iOf p.2.2)).getD i ((0,[]),0)).1=(kvs.getD i ((0,[]),0,.non)).1;rw[b5B,b5L,b5B,b5z il];rfl
 rw[e] at srt;exact srt
theorem a6j:mroOf (.type "dict")=pure [.type "dict",.type "object"]:=by rw[mroOf_type];kernel_rfl
theorem b1V:typeLookup (.type "dict") "__new__"=pure (some (.builtin "dict.__new__")):=by rw[c0r,b8Q];kernel_rfl
theorem a8t:TypeCalled "dict" "dict.__new__" "dict.__init__" :=
 ⟨by decide +kernel,by decide +kernel,⟨_,_,a6j⟩,madeBy_type a6j b1V (by decide +kernel),by decide +kernel,by rw[isSubtype_type];kernel_rfl,F.slot_dict_init⟩
theorem a9P (a:Value):checkTypeCall "dict" ⟨[a],[]⟩=pure ():=by kernel_rfl
theorem b1W (a:Value):checkBuiltinCall "dict.__new__" ⟨[.type "dict",a],[]⟩=pure ():=by kernel_rfl
theorem a9Q:entryFor table "dict.__new__"=some Builtin.«dict.__new__»:=entryFor_of_tree (by kernel_rfl)
theorem a5C:plainId "dict.__new__"=true:=by decide +kernel
theorem b4s:isSubtype (.type "dict") (.type "dict")=pure true:=by rw[isSubtype_type];kernel_rfl
theorem b1X:typeLookup (.type "list") "keys"=pure none:=by rw[c0r,b8Q];kernel_rfl
theorem b1Y (a:Value) {Q1:Value->Shared->Prop} (h:Q1 (.ref s.heap.objs.size) { s with heap:=s.heap.push { cls:=.type "dict",data:=.dict #[] } }) :
  codeAny (model prog w) A (.call (.builtin "dict.__new__") ⟨[.type "dict",a],[]⟩) (wants Q1 E) s:=by
 refine codeAny_of_tree ?_;show wpAny _ A.in1 (do checkBuiltinCall "dict.__new__" ⟨[.type "dict",a],[]⟩;again (.builtin "dict.__new__" ⟨[.type "dict",a],[]⟩)) _ _ s;refine b5w (c0R (b1W a) (b5A ⟨b6D a5C _,b6q a9Q ?_⟩));rw[b5Z a5C _];have f1:=b4s;have f2:=a6j;obtain⟨hp,g,d,tk,os⟩:=s
 wp_walk
 exact h
theorem b4t {a:Addr} {xs:Array Value} {k:Nat} {Q:Option Value->Shared->Prop} (hx:s.heap.get? a=some (seqObj "list" xs k)) (hA:A.handled=none) (h:∀h' tk,(∀b o,s.heap.get? b=some o->h'.get? b=some o)->Q none { s with heap:=h',toks:=tk }):wpAny (model prog w) A (getAttr? (.ref a) "keys") Q E s:=by
 obtain⟨hp,g,d,tk,os⟩:=s;have hT:∀tk',(⟨hp,g,d,tk',os⟩:Shared).TypeIs (.ref a) "list":=λ_=>⟨_,hx,rfl⟩
 have f1:=sub_AttributeError;have f3:=b9m.lookup;have f4:=b9m.bind (.ref a);have f5:=am_list_getattr_none;unfold getAttr? getAttrBy? getAttrBy
 repeat (any_goals (first|assumption|exact hT _|((with_reducible show wpAny _ _ (call (Value.builtin "list.__getattribute__") _ _) _ _ _);refine c0H b9m (hT _) am_entry_list_getattribute (F.args_list_getattribute_2 _ _) (meets_getattribute_miss_list a xs k #[] "keys" _ b1X (by decide +kernel) (by size_fits)) ⟨hx,hA,λh' tk' e hx'=>?_⟩)|wp_step))
 obtain⟨t',u',he⟩:=hx'.there;show wpAny _ _ (getattributeRaised _ _ _ _ _ _ _) _ _ _;unfold getattributeRaised
 repeat (any_goals (first|assumption|wp_step))
 exact h h' tk' hx'.keeps
theorem a5D:entryFor table "dict.update.loop"=some Builtin.«dict.update.loop»:=entryFor_of_tree (by kernel_rfl)
theorem a2r:plainId "dict.update.loop"=true:=by decide +kernel
abbrev KvH:=(Int × List Int) × Addr × Value
theorem a8u {xs:List KvH} {k:Int × List Int} {a:Addr} {v:Value} (h:k∉xs.map (·.1)):storedH xs k a v=xs++[(k,a,v)]:=by
 unfold storedH;rw[if_neg];intro z;unfold atKey at z;rw[b9C,List.find?_isSome] at z;obtain⟨x,hx,e⟩:=z;exact h (b5K.mpr ⟨x,hx,by simpa using e⟩)
theorem a7n {R:Result->Shared->Prop} {d I l:Addr} {kvs:List KvH} {ts:List Addr} {St:Nat->Heap->Prop} {h0:Heap} (W:Walks prog w A.in1 I [I,l] [I] kvs.length (λi v=>∃t,ts[i]?=some t/\v=Value.ref t) St) (hu:A.units+4<cLine) (hz:kvs.length<sizeLine) (nd:(kvs.map (·.1)).Nodup) (dI:d≠I) (dl:d≠l)
  (old:∀b o,h0.get? b=some o->b≠d/\b≠I) (lt:ts.length=kvs.length) (prs:∀(j:Nat) t p,ts[j]?=some t->kvs[j]?=some p->(∃n,h0.get? t=some { cls:=.type "tuple",data:=.seq #[.ref p.2.1,p.2.2] n })/\PrN h0 (.ref p.2.1) p.1)
  (hR:∀h' tk,(∀b o,h0.get? b=some o->h'.get? b=some o)->h'.DictOfH (a0k prog w) d kvs->R (.ok (.ret .none)) { s with heap:=h',toks:=tk }) :
  ∀(k i:Nat) (h:Heap) (tk:Nat),kvs.length-i=k->i<=kvs.length->St i h->h.DictOfH (a0k prog w) d (kvs.take i)->(∀b o,h0.get? b=some o->h.get? b=some o) ->
   codeAny (model prog w) A (.builtin "dict.update.loop" ⟨[.ref d,.ref I,rawInt i,.none],[]⟩) R { s with heap:=h,toks:=tk }
 | 0,i,h,tk,hk,hi,st,dd,kp=>by
  have ei:i=kvs.length:=by omega
  have isAt:∀{h':Heap},(∀b o,h0.get? b=some o->h'.get? b=some o)->∀x∈kvs,(a0k prog w).is h' x.1 x.2.1:=λ{h'} kq x hx=>by
   obtain⟨j,hj⟩:=b7X hx;have jl:=(b5E.mp hj).1;exact((prs j _ x (b5z (by omega)) hj).2.keep2 kq).nest
  refine b6q a5D ?_;rw[b5Z a2r _];show wpAny _ A.in1 (pyNext (.ref I) >>= _) _ _ _;refine b5w (W.done { s with heap:=h,toks:=tk } _ _ (by rw[<-ei];exact st) λh' tk' kn=>?_);show wpAny _ A.in1 (Builtin.Dict.addKeywords d [] >>= _) _ _ _;refine b5w (b5A (b5A ?_));refine hR h' tk' (λb o e=>kn b o (λz=>(old b o e).2 (b5C.mp z)) (kp b o e)) ?_;rw[ei,b6z] at dd;obtain⟨o,es,ep,q1,q2,q3,q4,q5,q6⟩:=dd;refine⟨o,es,ep,kn d o (λz=>dI (b5C.mp z)) q1,q2,q3,q4,λx hx=>?_,q6⟩;exact isAt (λb o e=>kn b o (λz=>(old b o e).2 (b5C.mp z)) (kp b o e)) x hx
 | k+1,i,h,tk,hk,hi,st,dd,kp=>by
  have il:i<kvs.length:=by omega
  have isAt:∀{h':Heap},(∀b o,h0.get? b=some o->h'.get? b=some o)->∀x∈kvs,(a0k prog w).is h' x.1 x.2.1:=λ{h'} kq x hx=>by
   obtain⟨j,hj⟩:=b7X hx;have jl:=(b5E.mp hj).1;exact((prs j _ x (b5z (by omega)) hj).2.keep2 kq).nest
  refine b6q a5D ?_;rw[b5Z a2r _];show wpAny _ A.in1 (pyNext (.ref I) >>= _) _ _ _;refine b5w (W.item i { s with heap:=h,toks:=tk } _ _ il st λv h1 tk1 hv st1 kn=>?_);obtain⟨t,ht,rfl⟩:=hv;have hp:kvs[i]?=some kvs[i]:=b5z il;obtain⟨⟨nt,gt⟩,pr⟩:=prs i t _ ht hp;have kp1:∀b o,h0.get? b=some o->h1.get? b=some o:=λb o e=>kn b o (λz=>(old b o e).2 (b5C.mp z)) (kp b o e);have gt1:=kp1 _ _ gt;have dd1:h1.DictOfH (a0k prog w) d (kvs.take i):=by
   obtain⟨o,es,ep,q1,q2,q3,q4,q5,q6⟩:=dd;exact⟨o,es,ep,kn d o (λz=>dI (b5C.mp z)) q1,q2,q3,q4,λx hx=>isAt kp1 x (b6V hx),q6⟩
  have T1:Shared.TypeIs { s with heap:=h1,toks:=tk1 } (.ref t) "tuple":=⟨_,gt1,rfl⟩
  show wpAny _ A.in1 (holding [.ref t] _ >>= _) _ _ { s with heap:=h1,toks:=tk1 };refine b5w (b6d (b5w (b7H ?_)));unfold Builtin.Dict.pairItems;refine b5w (b9k (T:="tuple") T1 ?_);rw[if_pos (by decide)];refine b5w (b6G gt1 rfl (b5A ?_));show wpAny _ A.in1 (holding [.ref kvs[i].2.1,kvs[i].2.2] (dictSet d (.ref kvs[i].2.1) kvs[i].2.2)) _ _ _;refine b6d ?_;have lz:(kvs.take i).length<=sizeLine:=by rw[b5R];omega
  have nk:kvs[i].1∉(kvs.take i).map (·.1):=λz=>by
   obtain⟨x,hx,e⟩:=b5K.mp z;obtain⟨j,hj⟩:=b7X hx;have jl:=(b5E.mp hj).1;rw[b5R] at jl;rw[List.getElem?_take_of_lt (by omega)] at hj;have e1:(kvs.map (·.1))[j]?=(kvs.map (·.1))[i]?:=by rw[b5L,b5L,hj,hp];exact b7m some e
   have:=(c0K (by rw[b5x];omega) nd).mp e1;omega
  refine wpAny_dictSet_heap (s:={ s with heap:=h1,toks:=tk1 }) (k:=kvs[i].1) (hsz:=lz) (show A.in1.units+1<cLine by show A.units+1+1<cLine;omega) (isAt kp1 _ (b7t il)) dd1 λh2 dd2 (s2:Heap.SameBut d h1 h2)=>?_;rw[a8u nk] at dd2;have kp2:∀b o,h0.get? b=some o->h2.get? b=some o:=λb o e=>s2.extBut b o (old b o e).1 (kp1 b o e);refine b5A ⟨b6D a2r _,?_⟩;have ei:(rawInt ((i:Int)+1))=rawInt ((i+1:Nat):Int):=by congr 1
  show codeAny _ _ (.builtin "dict.update.loop" ⟨[.ref d,.ref I,rawInt ((i:Int)+1),.none],[]⟩) _ _;rw[ei];refine a7n W hu hz nd dI dl old lt prs hR k (i+1) h2 _ (by omega) il (W.frame _ h1 h2 st1 λb hb o e=>s2.extBut b o (λz=>?_) e) ?_ kp2
  ·rw[z] at hb;rcases b5Q.mp hb with q|q
   ·exact dI q
   ·exact dl (b5C.mp q)
  ·rw[b6f,hp];exact dd2
def rDictI (X:Cx):List V->Hp->VK->Prop:=λxs H Q=>∃(l:Addr) (out:List V) (us:List FKv),xs=[.ref l]/\H l=some (.lst out)/\Paired (IPr H) out us/\(∀p∈us,FAt X.K H p.1 p.2.1)/\(us.map (·.1)).Nodup/\us.length<=100000/\∀d,H d=none->Q (.ref d) (upd H d (NDO (a0k X.prog X.w) d us))
theorem a3l:∀{out:List V} {us:List FKv} {H:Hp} {its:List Value},Paired (IPr H) out us->a0w out its->∃ts:List Addr,its=ts.map Value.ref/\ts.length=us.length/\∀(j:Nat) t p,ts[j]?=some t->us[j]?=some p->H t=some (.tup [.ref p.2.1,p.2.2])
 | [],_,H,its,pr,rv=>by
  cases pr;cases rv;exact⟨[],rfl,rfl,λj t p hj=>by simp at hj⟩
 | x::out,_,H,its,pr,rv=>by
  cases pr with
  | cons h1 pr =>
   cases rv with
   | cons r1 rv =>
    obtain⟨t,rfl,ht⟩:=h1;cases r1;obtain⟨ts,e,l,g⟩:=a3l pr rv;refine⟨t::ts,by rw[e];rfl,by rw[b5T,b5T,l],λj t' p hj hp=>?_⟩;cases j with
    | zero=>cases hj;cases hp;exact ht
    | succ j=>exact g j t' p (by simpa using hj) (by simpa using hp)
theorem b4u {prog:Program} {w:World} {A:Around} (hh:A.handled=none) (I l:Addr) (ne:l≠I) (ts:List Addr) {n:Nat} (hn:ts.length=n) :
  Walks prog w A I [I,l] [I] n (λi v=>∃t,ts[i]?=some t/\v=Value.ref t) (λi h=>h.IsListIter I l i/\h.IsList l (ts.map Value.ref).toArray):=by
 have W:=c0k (prog:=prog) (w:=w) (A:=A) hh I l ne (ts.map Value.ref).toArray;have sz:(ts.map Value.ref).toArray.size=n:=by rw[b5I,b5x,hn]
 rw[sz] at W;refine⟨W.sub,W.frame,λi s Q E hi st hQ=>W.item i s Q E hi st λv h' tk hv=>hQ v h' tk ?_,W.done,W.self⟩;have hv:(ts.map Value.ref).toArray[i]?=some v:=hv;rw[List.getElem?_toArray,b5L] at hv;obtain⟨t,ht,e⟩:=b6H.mp hv;exact⟨t,ht,e.symm⟩
theorem a8v {X:Cx} (hc:X.calm=true) (hu:X.A.units+10<cLine):a2w X (.type "dict") (rDictI X):=by
 intro pins s σ H xs us0 Q I r h;obtain⟨l,out,us,rfl,hl,pr,hk,nd,hz,q⟩:=h;obtain⟨u,rfl,rx⟩:=a1Z r;cases rx;obtain⟨_,its,n,rv,he⟩:=(show a0B X.prog X.w H s.heap l (.lst out) from I.hok l _ hl)
 obtain⟨ts,rfl,lts,gts⟩:=a3l pr rv;have ll:=b5F he;have raw:∀(j:Nat) t p,ts[j]?=some t->us[j]?=some p->∃v n,a0Q p.2.2 v/\s.heap.get? t=some { cls:=.type "tuple",data:=.seq #[.ref p.2.1,v] n }/\PrN s.heap (.ref p.2.1) p.1:=λj t p hj hp=>by
  have g:=gts j t p hj hp;obtain⟨_,it2,rv2,o2,ho2,n2,rfl⟩:=(show a0B X.prog X.w H s.heap t (.tup [.ref p.2.1,p.2.2]) from I.hok _ _ g)
  obtain⟨v1,v2,rfl,r1,r2⟩:=rv2.two;cases r1;exact⟨v2,n2,r2,ho2,a9O (FAt.is I (hk p (b5M hp)))⟩
 obtain⟨kvs,rel,prs⟩:∃kvs:List KvH,a7l us kvs/\∀(j:Nat) t p,ts[j]?=some t->kvs[j]?=some p->(∃n,s.heap.get? t=some { cls:=.type "tuple",data:=.seq #[.ref p.2.1,p.2.2] n })/\PrN s.heap (.ref p.2.1) p.1:=by
  clear gts rv he nd hz q hk pr hl
  induction us generalizing ts with
  | nil=>exact⟨[],.nil,λj t p _ hp=>by simp at hp⟩
  | cons p0 us ih =>
   cases ts with
   | nil=>cases lts
   | cons t0 ts =>
    obtain⟨v,n,rv,g,pn⟩:=raw 0 t0 p0 rfl rfl;obtain⟨kvs,rel,prs⟩:=ih (ts:=ts) (by simpa using lts) (λj t p hj hp=>raw (j+1) t p (by simpa using hj) (by simpa using hp));refine⟨(p0.1,p0.2.1,v)::kvs,.cons ⟨rfl,rfl,rv⟩ rel,λj t p hj hp=>?_⟩;cases j with
    | zero=>cases hj;cases hp;exact⟨⟨n,g⟩,pn⟩
    | succ j=>exact prs j t p (by simpa using hj) (by simpa using hp)
 have lk:us.length=kvs.length:=c0b rel;have ndk:(kvs.map (·.1)).Nodup:=by
  have:us.map (·.1)=kvs.map (·.1):=by
   refine b7u (by simp[lk]) λi h1 h2=>?_;have hi:i<us.length:=by simpa using h1
   obtain⟨x,hx1,r1,_,_⟩:=Paired.right_of rel i _ (b5z hi);rw[b5z (by omega)] at hx1;cases hx1;rw[b6n,b6n];exact r1
  rw[<-this];exact nd
 refine callType_codes (Q₁:=λobj s1=>obj=.ref s.heap.objs.size/\s1={ s with heap:=s.heap.push { cls:=.type "dict",data:=.dict #[] } }) a8t (a9P _) F.entry_dict_init (b1Y _ ⟨rfl,rfl⟩) λobj s1 h1=>?_;obtain⟨rfl,rfl⟩:=h1;have gd:(s.heap.push { cls:=.type "dict",data:=.dict #[] }).get? s.heap.objs.size=some { cls:=.type "dict",data:=.dict #[] }:=b5D _ rfl;have T0:Shared.TypeIs { s with heap:=s.heap.push { cls:=.type "dict",data:=.dict #[] } } (.ref s.heap.objs.size) "dict":=⟨_,gd,rfl⟩
 have he1:(s.heap.push { cls:=.type "dict",data:=.dict #[] }).get? l=some (seqObj "list" (ts.map Value.ref).toArray n):=b5y _ he;have ko:∀b o,s.heap.get? b=some o->(s.heap.push { cls:=.type "dict",data:=.dict #[] }).get? b=some o:=λb o e=>b5y _ e;refine⟨T0,F.args_dict_init_2 _ _,?_⟩;unfold Builtin.«dict.__init__»;refine b5w ?_;unfold Builtin.Dict.selfAndRest;refine b5w (b9K T0 ?_);show wpAny _ _ (pure (s.heap.objs.size,[Value.ref l])) _ _ _;refine b5A ?_;show wpAny _ _ (Builtin.Dict.updateFrom "dict.__init__" s.heap.objs.size (.ref l) [] .none) _ _ _;unfold Builtin.Dict.updateFrom;generalize hP:s.heap.push { cls:=.type "dict",data:=.dict #[] }=hD at gd T0 he1 ko ⊢;refine b5w (b9k (T:="list") ⟨_,he1,rfl⟩ ?_);rw[if_pos (by decide)];refine b5w (b4t (s:={ s with heap:=hD }) he1 (by show X.A.handled=none;exact I.ok.hd hc) λh2 tk2 k2=>?_);have k2:∀b o,hD.get? b=some o->h2.get? b=some o:=k2;rw[if_pos (by rfl)];refine b5w (b7K (b5w (b7v (a1t (k2 _ _ he1)) ?_)));have hD1:s.heap.objs.size<hD.objs.size:=b5F gd;have hD2:s.heap.objs.size<h2.objs.size:=b5F (k2 _ _ gd);refine b5A ⟨b6D a2r _,?_⟩;have old:∀b o,s.heap.get? b=some o->b≠s.heap.objs.size/\b≠h2.objs.size:=λb o e=>⟨b5O (b5F e),b5O (c0v (b5F e) hD2)⟩
 have kz:∀b o,s.heap.get? b=some o->(h2.push { cls:=.type "list_iterator",data:=.fields #[.ref l,rawInt 0] }).get? b=some o:=λb o e=>b5y _ (k2 b o (ko b o e));refine a7n (s:=s) (A:=X.A.in1) (d:=s.heap.objs.size) (I:=h2.objs.size) (l:=l) (kvs:=kvs) (ts:=ts) (h0:=s.heap) (b4u (by show X.A.handled=none;exact I.ok.hd hc) h2.objs.size l (b5O (c0v ll hD2)) ts (lts.trans lk)) (by show X.A.units+1+4<cLine;omega) (by rw[b6l];omega) ndk (b5O hD2) (b6o ll) old (lts.trans lk) prs (λh' tk' k' dd=>?_)
  kvs.length 0 _ tk2 (Nat.sub_zero _) (b6e _) ⟨⟨_,b5D _ rfl,rfl,rfl⟩,a1t (kz _ _ he)⟩ ⟨_,#[],0,b5y _ (k2 _ _ gd),⟨rfl,rfl,rfl⟩,rfl,by simp,λx hx=>by simp at hx,by simp⟩ kz
 have J:Inv X pins σ H { s with heap:=h',toks:=tk' }:=I.kept k';have nd0:H s.heap.objs.size=none:=I.hok.fresh (b5G _);obtain⟨o,es,ep,q1,q2,q3,q4,q5,q6⟩:=dd;refine⟨rfl,.ref s.heap.objs.size,_,J.adopt (I.fpOk (b5G _) nd0) (NDx.ok ⟨?_,by rw[b6l];omega,kvs,rel,o,es,ep,q1,q2,q3,q4,q6⟩),rfl,q _ nd0⟩;exact b7Z.mpr (Ne.symm (b5O I.big))
def rMinE (xs zs:List V) (H:Hp) (Q:VK):Prop:=∃(a:Addr) (ns:List Int) (z:Int),xs=[.ref a]/\zs=[.int z]/\H a=some (.lst (ns.map V.int))/\Q (.int (if ns=[] then z else (srt ns).headD 0)) H
theorem a9R {X:Cx} (hc:X.calm=true) {pins:List (Addr × Obj)} {s:Shared} {σ:St} {H:Hp} {vs zs:List V} {us ws:List Value} {Q:VK} (I:Inv X pins σ H s) (r:a0w vs us) (rz:a0w zs ws) (h:rMinE vs zs H Q) :
  wpAny (model X.prog X.w) X.A (call (.builtin "min") us (([Str.ofString "default"]:List Str).zip ws)) (EP X pins σ Q) X.xe s:=by
 obtain⟨a,ns,z0,rfl,rfl,e,q⟩:=h;obtain⟨u,rfl,ru⟩:=a1Z r;obtain⟨d,rfl,rd⟩:=a1Z rz;cases ru;obtain⟨tz,rfl⟩:=(show ∃t,d=Value.int z0 t from rd)
 obtain⟨_,its,n,rv,he⟩:=(show a0B X.prog X.w H s.heap a (.lst (ns.map V.int)) from I.hok a _ e)
 have hI:=a1c rv;have li:=a0W hI;have hlt:=b5F he;show wpAny _ _ (call (.builtin "min") [.ref a] (kwD (.int z0 tz))) _ _ _;refine kmb_tree F.kind_min F.plain_min F.entry_min (a5s _ _) ?_;have eB:Builtin.Builtins.bindParams "min" ["key","default"] 0 { kw:=kwD (.int z0 tz) }=pure [none,some (.int z0 tz)]:=rfl;show wpAny _ X.A.in1 (Builtin.Builtins.bindParams "min" ["key","default"] 0 { kw:=kwD (.int z0 tz) } >>= _) _ _ s;rw[eB];show wpAny _ X.A.in1 (pyIter (.ref a) >>= _) _ _ s;refine b5w (b7v (a1t he) ?_);refine b5w (b7J ?_ (b6e _));refine b5A ⟨b6D b6M _,?_⟩;have sz:(s.heap.push { cls:=.type "list_iterator",data:=.fields #[.ref a,rawInt 0] }).objs.size=s.heap.objs.size+1:=b6h _ _;have hS:(s.heap.push { cls:=.type "list_iterator",data:=.fields #[.ref a,rawInt 0] }).objs.size∉[s.heap.objs.size,a]:=λz=>by
  rw[sz] at z;simp only[b5Q,b6L,b8K] at z;rcases z with z|z
  ·exact absurd z (b6o (b7T _))
  ·rw[<-z] at hlt;exact absurd hlt (Nat.not_lt.mpr (b9z _))
 have up:∀b o,s.heap.get? b=some o->((s.heap.push { cls:=.type "list_iterator",data:=.fields #[.ref a,rawInt 0] }).push { cls:=.type "list",data:=.seq (([]:List Value).toArray) }).get? b=some o:=λb o eo=>b5y _ (b5y _ eo);have ne1:∀b o,s.heap.get? b=some o->b∉[s.heap.objs.size]:=λb o eo z=>by
  rw[b5C.mp z] at eo;exact absurd (b5F eo) (b6A _)
 have ne2:∀b o,s.heap.get? b=some o->b≠(s.heap.push { cls:=.type "list_iterator",data:=.fields #[.ref a,rawInt 0] }).objs.size:=λb o eo z=>by
  rw[sz] at z;rw[z] at eo;exact absurd (b5F eo) (Nat.not_lt.mpr (b9z _))
 refine a3N (A:=X.A) (c:=0) (c0k (A:=X.A.in1) (by show X.A.handled=none;exact I.ok.hd hc) s.heap.objs.size a (b5O hlt) its.toArray) (λi j=>decide (ns.getD i 0<ns.getD j 0)) (c0e _ (λi v hv=>hI.int_at i v (by simpa using hv))) _ hS (.int z0 tz)
  ⟨⟨_,b5y _ (b5D _ rfl),rfl,rfl⟩,a1t (up _ _ he)⟩ (b5D _ rfl) (λn0 h' tk hk=>?_) (λn0 v h' tk hv hk=>?_)
 ·have e0:ns=[]:=b6g.mp (by rw[<-li];rw[b5I] at n0;exact n0);rw[if_pos e0] at q;exact⟨.int z0,H,I.kept (h':=h') (t':=tk) (λb o eo=>hk b o (ne1 b o eo) (ne2 b o eo) (up b o eo)),⟨tz,rfl⟩,q⟩
 ·have e0:ns≠[]:=λz=>by
   rw[z] at li;rw[b5I] at n0;simp at li;rw[li] at n0;simp at n0
  rw[if_neg e0] at q;obtain⟨t,rfl⟩:=a4q hI e0 hv;exact⟨.int _,H,I.kept (h':=h') (t':=tk) (λb o eo=>hk b o (ne1 b o eo) (ne2 b o eo) (up b o eo)),⟨t,rfl⟩,q⟩
def tMinE (t tk:TA):TE:=λσ H Q=>t σ H λvs H1=>tk σ H1 λzs H2=>rMinE vs zs H2 Q
theorem b4v {X:Cx} {e e2:Expr} {p pos kpos:Pos} {t tk:TA} (hc:X.calm=true) (hg:Gl X "min") (hm:X.mg "min"=none) (ha:PA X [e] t) (hk:PK X [⟨some "default",e2,kpos⟩] tk) (h1:backTo pos (starEach [e] X.env)=(false,eval e X.env)::backTo pos (starEach [] X.env):=by rfl)
  (h2:((backTo pos (starEach [e] X.env)).any (·.1))=false:=by rfl) (h3:(backToKw pos (keywordEach [⟨some "default",e2,kpos⟩] X.env)).all (·.1.isSome)=true:=by rfl) (h4:(backToKw pos (keywordEach [⟨some "default",e2,kpos⟩] X.env)).any (·.1.isNone)=false:=by rfl) (h5:(backToKw pos (keywordEach [⟨some "default",e2,kpos⟩] X.env)).filterMap (·.1)=[Str.ofString "default"]:=by rfl) :
  PE X (.Call (.Name "min" p) [e] [⟨some "default",e2,kpos⟩] pos) (tMinE t tk):=by
 intro pins s σ H Q I h;refine b6y (a1i I hg hm a5r ?_);refine c0T (thn (ha pos pins s σ H _ I h) λus s1 ⟨vs,H1,I1,r,q⟩=>?_) h1 h2 h3 h4;refine thn (hk pos pins s1 σ H1 _ I1 q) λws s2 ⟨zs,H2,I2,rz,q2⟩=>?_;rw[h5];exact a9R hc I2 r rz q2
section
variable {X:Cx} {pins:List (Addr × Obj)} {σ:St} {H:Hp} {s:Shared}
def RIt (K:PySem.W.Frag) (H:Hp) (x:V) (q:(Int × List Int) × Int):Prop:=∃t a,x=.ref t/\H t=some (.tup [.ref a,.int q.2])/\FAt K H q.1 a
end
theorem a5E {α β:Type} {f:α->β}:∀{l:List β} {xs:List α},l.Perm (xs.map f)->∃ys:List α,ys.Perm xs/\ys.map f=l
 | [],xs,h=>⟨[],by rw[b8y.mp h.nil_eq.symm],rfl⟩
 | b::l,xs,h=>by
  obtain⟨x,hx,rfl⟩:=b5K.mp (h.mem_iff.mp (.head _));obtain⟨A,B,rfl⟩:=b7S hx;have p:l.Perm ((A++B).map f):=by
   refine(h.trans ?_).cons_inv;exact(b6X (a:=x) (l₁:=A) (l₂:=B)).map f
  obtain⟨ys,h1,h2⟩:=a5E p;exact⟨x::ys,(h1.cons x).trans b6X.symm,by rw[b6m,h2]⟩
section
variable {X:Cx} {k:Nat} {Rg:Addr->List V->Hp->VK->Prop} {pins:List (Addr × Obj)} {σ:St} {H:Hp} {a g kS:Addr} {xs:List V} {ks:Nat->List Int} {s:Shared} {P:PySem.Fin->Shared->Prop} {E:Value->Shared->Prop}
theorem a6k (L:a8m X σ Rg) {vs:List Value} {e1:Nat} (J:Inv X pins σ H s) (ho:s.heap.get? a=some (seqObj "list" #[] e1)) (hS:s.heap.get? kS=some (seqObj "list" #[] 0)) (hne:kS≠a) (fa:∀H',H' a=none->a2F X pins H' a) (fS:∀H',H' kS=none->a2F X pins H' kS) (na:H a=none) (nS:H kS=none) (rv:a0w xs vs) (hz:vs.length<=63)
  (hk:∀i x H1 Q1,xs[i]?=some x->a0m H H1->(∀t H2,a0m H1 H2->H2 t=some (.tup ((ks i).map V.int))->Q1 (.ref t) H2)->Rg g [x] H1 Q1) (nd:((List.range vs.length).map ks).Nodup) (nn:∀i,i<vs.length->ks i≠[])
  (h:∀(s':Shared) (H':Hp) (p:Array Nat) (c:Nat),Inv X pins σ H' s'->a0m H H'->H' a=none->Pm vs.length p->(p.toList.map ks).Pairwise Lx->s'.heap.get? a=some (seqObj "list" (p.toList.map λi=>vs.getD i Value.none).toArray c)->P (.done (.ret .none)) s') :
  wpAny (model X.prog X.w) X.A.in1.in1 (ksk_rest a (.ref g) false vs.toArray e1 (.ref kS)) P E s:=by
 refine a3j L J ho hS hne fa fS na nS rv (by omega) hk nn λs' H' ps c J' sm na' pm pw hl=>?_;have e:((List.range vs.length).map ks).zip vs=(List.range vs.length).map λi=>(ks i,vs.getD i Value.none):=by
  refine b7u (by simp) λi h1 h2=>?_;rw[b5x,b5V] at h2;rw[b9X,b6n,b6n,b9u,b5B,b5z h2];rfl
 rw[e] at pm;obtain⟨p,h1,rfl⟩:=a5E pm;have ndp:(p.map ks).Nodup:=(h1.map ks).nodup_iff.mpr nd;refine h s' H' p.toArray c J' sm na' (by unfold Pm;exact b6x.mpr (by simpa using h1)) ?_ (by rw[hl,b6r];rfl);unfold List.Nodup at ndp;rw[b6k] at pw ndp ⊢;exact(pw.and ndp).imp λ{i j} z=>a1w _ _ (Ne.symm z.2) z.1
end
section
variable {X:Cx} {k:Nat} {Rg:Addr->List V->Hp->VK->Prop} {pins:List (Addr × Obj)} {σ:St} {H:Hp} {g:Addr} {ks:Nat->List Int} {s:Shared} {Q:VK}
theorem a6l (L:a8m X σ Rg) (hc:X.calm=true) (J:Inv X pins σ H s) {r:Addr} {n:Nat} {t u v:Tok} (hR:IsRange s.heap r 0 (n:Int) 1 t u v) (hn:n<=63)
  (hk:∀(i:Nat) H1 Q1,i<n->a0m H H1->(∀t H2,a0m H1 H2->H2 t=some (.tup ((ks i).map V.int))->Q1 (.ref t) H2)->Rg g [.int (i:Int)] H1 Q1) (nd:((List.range n).map ks).Nodup) (nn:∀i,i<n->ks i≠[])
  (q:∀(d:Addr) (p:List Nat) H',a0m H H'->H' d=some (.lst (p.map λi:Nat=>V.int (i:Int)))->p.Perm (List.range n)->(p.map ks).Pairwise Lx->Q (.ref d) H') :
  wpAny (model X.prog X.w) X.A (call (.builtin "sorted") [.ref r] (kwK (.ref g))) (EP X pins σ Q) X.xe s:=by
 refine call_function_entry_kw c0p b9M b9N (ksk_s1 _ _) ?_;unfold Builtin.«sorted»;refine b5w (m:=checkCount "sorted" 1 1 _) (b5A ?_);have sm:=small_one (a:=0) (b:=(n:Int)) (by omega) (by omega) (by omega) (by omega);have z0:Builtin.Range.rangeSize 0 (n:Int) 1=(n:Int):=by rw[rangeSize_one];split<;>omega
 refine b5w (a4s (J.ok.hd hc) hR sm z0 (by omega) λh1 tk1 acc k1 hacc=>?_);have er:=a8j (g:=λi=>(0:Int)+(i:Int)*1) hacc;have eg:((List.range n).map λi:Nat=>V.int ((0:Int)+(i:Int)*1))=(List.range n).map λi:Nat=>V.int (i:Int):=b6c λi _=>by rw[b8S,Int.mul_one]
 rw[eg] at er;generalize acc.toList=its at er;have li:its.length=n:=by rw[<-er.length,b5x,b5V]
 have J1:Inv X pins σ H { s with heap:=h1,toks:=tk1 }:=J.kept k1;refine b5w (b7J ?_ (by show its.length<=sizeLine;rw[b6l];omega));show wpAny _ _ _ _ _ { s with heap:=h1.push (seqObj "list" its.toArray 0),toks:=tk1 };have hoL:(h1.push (seqObj "list" its.toArray 0)).get? h1.objs.size=some (seqObj "list" its.toArray 0):=b5D _ rfl;have fl:∀H',H' h1.objs.size=none->a2F X pins H' h1.objs.size:=λH' hn'=>J1.fpOk (b5G _) hn';have nl:H h1.objs.size=none:=J1.hok.fresh (b5G _);have J2:Inv X pins σ H { s with heap:=h1.push (seqObj "list" its.toArray 0),toks:=tk1 }:=J1.kept λb o e=>b5y _ e;refine b5w (b6d (wpAny_call_entry_kw b9b ⟨_,hoL,rfl⟩ b8P ?_ (ksk_l1 _ _)));show wpAny (model X.prog X.w) X.A.in1.in1 (Builtin.«list.sort» ⟨[.ref h1.objs.size],[(Str.ofString "key",.ref g)]⟩) _ _ _;rw[ksk_t1];unfold ksk_tree;generalize eh2:h1.push (seqObj "list" its.toArray 0)=h2 at hoL J2 ⊢;have sz2:h2.objs.size=h1.objs.size+1:=by rw[<-eh2];exact b6h _ _
 obtain⟨e1,ho1⟩:∃e1,(h2.update h1.objs.size (Obj.mapSeq λ_=>(#[]:Array Value))).get? h1.objs.size=some (seqObj "list" #[] e1):=⟨_,b7f hoL λ_=>#[]⟩
 refine b5w (c0w hoL rfl (b5w (b8v hoL rfl ?_ (by rw[b5I,b6l];omega) (b6e _))));refine b5w (c0o ho1 rfl (b5w (b8F ?_ (by show its.length<=_;rw[b6l];omega))));refine b5w (b7J ?_ (b6e _));refine b6d ?_;obtain⟨g0,g1,g2,g3,g4,g5⟩:=fl H nl;have J3:Inv X pins σ H { s with heap:=h2.update h1.objs.size (Obj.mapSeq λ_=>(#[]:Array Value)),toks:=tk1 }:=J2.turned (t':=tk1) (λb o hb e=>by rw[b5P _ _ _ _ hb];exact e) g0 g1 g3 g4 g5;generalize eh3:h2.update h1.objs.size (Obj.mapSeq λ_=>(#[]:Array Value))=h3 at ho1 J3 ⊢;have sz3:h3.objs.size=h1.objs.size+1:=by rw[<-eh3,b9c,sz2]
 have J4:Inv X pins σ H { s with heap:=(h3.push (seqObj "tuple" its.toArray 0)).push (seqObj "list" #[] 0),toks:=tk1 }:=J3.kept λb o e=>b5y _ (b5y _ e);have szS:(h3.push (seqObj "tuple" its.toArray 0)).objs.size=h1.objs.size+2:=by rw[show(h3.push (seqObj "tuple" its.toArray 0)).objs.size=h3.objs.size+1 from b6h _ _,sz3]
 have fS:∀H',H' (h3.push (seqObj "tuple" its.toArray 0)).objs.size=none->a2F X pins H' (h3.push (seqObj "tuple" its.toArray 0)).objs.size:=λH' hn'=>J1.fpOk (by show h1.objs.size<=_;rw[szS];omega) hn';refine a6k L (ks:=ks) (g:=g) (xs:=(List.range n).map λi:Nat=>V.int (i:Int)) J4 (b5y _ (b5y _ ho1)) (b5D _ rfl) (by rw[szS];exact b6o (Nat.lt_add_of_pos_right (by decide))) fl fS nl (J1.hok.fresh (by show h1.objs.size<=_;rw[szS];omega)) er (by omega) (λi x H1 Q1 hx sm hq=>?_) (by rw[li];exact nd) (λi hi=>nn i (by omega)) (λs' H' p c J5 sm na pm pw ho=>⟨_,rfl,?_⟩)
 ·have hi:i<n:=by
   have:=(b5E.mp hx).1;rw[b5x,b5V] at this;exact this
  rw[b5L,b6U hi] at hx;cases hx;exact hk i H1 Q1 hi sm hq
 ·have pl:=b6x.mp pm;rw[li] at pl;have hv:a0w (p.toList.map λi:Nat=>V.int (i:Int)) (p.toList.map λi=>its.getD i Value.none):=by
   have key:∀ps:List Nat,(∀i∈ps,i<n)->a0w (ps.map λi:Nat=>V.int (i:Int)) (ps.map λi=>its.getD i Value.none):=λps=>by
    induction ps with
    | nil=>intro _;exact .nil
    | cons i ps ih =>
     intro hi;refine .cons ?_ (ih λj hj=>hi j (.tail _ hj));have i1:=hi i (.head _);obtain⟨u',hu',ru⟩:=er.get (i:=i) (x:=V.int (i:Int)) (by rw[b5L,b6U i1];rfl);show a0Q (V.int (i:Int)) (its.getD i Value.none);rw[b5B,hu'];exact ru
   exact key _ λi hi=>by simpa using pl.mem_iff.mp hi
  have ok:a0B X.prog X.w (upd H' h1.objs.size (.lst (p.toList.map λi:Nat=>V.int (i:Int)))) s'.heap h1.objs.size (.lst (p.toList.map λi:Nat=>V.int (i:Int))):=⟨by rw[b5x,pl.length_eq,b5V,b6l];omega,_,c,hv,ho⟩
  exact b5A ⟨_,rfl,.ref h1.objs.size,_,J5.adopt (fl H' na) ok,rfl,q _ p.toList _ (sm.trans (a0c na _)) a0b pl pw⟩
theorem a5F {a e2:Expr} {p p2 pos pos2 kpos:Pos} {ta tk:TA} {Rg:St->Addr->List V->Hp->VK->Prop} (L:∀σ,a8m X σ (Rg σ)) (hc:X.calm=true) (hg:Gl X "sorted") (hm:X.mg "sorted"=none) (hg2:Gl X "range") (hm2:X.mg "range"=none) (ha:PA X [a] ta) (hk:PK X [⟨some "key",e2,kpos⟩] tk)
  (h1:backTo pos (starEach [.Call (.Name "range" p2) [a] [] pos2] X.env)=(false,eval (.Call (.Name "range" p2) [a] [] pos2) X.env)::backTo pos (starEach [] X.env):=by rfl) (hs2:starEach [a] X.env=(false,eval a X.env)::starEach [] X.env:=by rfl)
  (h2:((backTo pos (starEach [.Call (.Name "range" p2) [a] [] pos2] X.env)).any (·.1))=false:=by rfl) (h3:(backToKw pos (keywordEach [⟨some "key",e2,kpos⟩] X.env)).all (·.1.isSome)=true:=by rfl) (h4:(backToKw pos (keywordEach [⟨some "key",e2,kpos⟩] X.env)).any (·.1.isNone)=false:=by rfl) (h5:(backToKw pos (keywordEach [⟨some "key",e2,kpos⟩] X.env)).filterMap (·.1)=[Str.ofString "key"]:=by rfl) :
  PE X (.Call (.Name "sorted" p) [.Call (.Name "range" p2) [a] [] pos2] [⟨some "key",e2,kpos⟩] pos) (b4m Rg ta tk):=by
 intro pins s σ H Q I h;refine b6y (a1i I hg hm a1g ?_ (by decide) (by decide));refine c0T ?_ h1 h2 h3 h4;rw[h1];refine b8J ?_;refine b6y (a1i I hg2 hm2 boot_range ?_ (by decide) (by decide));refine b6Y (thn (ha pos2 pins s σ H _ I h) λus s1 ⟨vs,H1,I1,r1,q1⟩=>?_) hs2 rfl;obtain⟨n,e,hn,q⟩:=q1;subst e;cases r1 with
 | cons r rr =>
  cases rr;obtain⟨t,rfl⟩:=r;refine call_range_1 ?_;refine b8W ?_;have I2:Inv X pins σ H1 { s1 with heap:=s1.heap.push { cls:=.type "range",data:=.fields #[.int 0 s1.toks,.int (n:Int) t,.int 1 (s1.toks+1)] },toks:=s1.toks+1+1 }:=I1.kept λb o e=>b5y _ e;have hRg:(s1.heap.push { cls:=.type "range",data:=.fields #[.int 0 s1.toks,.int (n:Int) t,.int 1 (s1.toks+1)] }).get? s1.heap.objs.size=some { cls:=.type "range",data:=.fields #[.int 0 s1.toks,.int (n:Int) t,.int 1 (s1.toks+1)] }:=b5D _ rfl;have J2:=I2.pinned (fp:=[s1.heap.objs.size]) (λb hb=>by rw[b5C.mp hb];exact I1.fpOk (b5G _) (I1.hok.fresh (b5G _))) (λb hb=>by
   rw[b5C.mp hb];exact⟨_,hRg,λv z=>by cases z⟩)
  refine thn (hk pos _ _ σ H1 _ J2 q) λws s2 ⟨zs,H2,I3,rz,q2⟩=>?_;rw[h5];obtain⟨g,ks,rfl,hkk,nd,nn,q3⟩:=q2;obtain⟨u,rfl,ru⟩:=a1Z rz;cases ru;have pr:=(I3.pin (s1.heap.objs.size,_) (b5N _ (b5N _ (a0G (by simp) hRg)))).1;exact a6l (L σ) hc I3.unpinned (show IsRange s2.heap s1.heap.objs.size 0 (n:Int) 1 s1.toks t (s1.toks+1) from pr) hn hkk nd nn q3
end
end L2
namespace K77
open PySem L2
def left (ws:List Int) (k:Nat):Int:=((srt ws).take (ws.length-k)).sum
def heavy (ws:List Int):List Int:=(srt ws).reverse
def due (ws cs:List Int):Int:=(List.zipWith (λw c=>w*c) (heavy ws) cs).sum
theorem a9S (ws:List Int):(heavy ws).length=ws.length:=by unfold heavy;rw[List.length_reverse,a0P]
theorem a5G {k:Nat} (h:k<ws.length):left ws k=(heavy ws).getD k 0+left ws (k+1):=by
 unfold left heavy;have hl:=a0P ws;obtain⟨m,em⟩:∃m,m=ws.length-(k+1):=⟨_,rfl⟩
 rw[<-em,show ws.length-k=m+1 by omega,b6f,b7R,b5B,List.getElem?_reverse (by omega),show(srt ws).length-1-k=m by omega,b5z (by omega)];show _+([_]:List Int).sum=_;simp;omega
theorem b1Z (ws:List Int):left ws ws.length=0:=by unfold left;rw[b9P];rfl
theorem b4w (ws:List Int):due ws []=0:=by unfold due;rw[b8d];rfl
theorem a7o:∀(hs cs:List Int) (c:Int),cs.length<hs.length->(List.zipWith (λw c=>w*c) hs (cs++[c])).sum=(List.zipWith (λw c=>w*c) hs cs).sum+hs.getD cs.length 0*c
 | [],cs,c,h=>by cases h
 | x::hs,[],c,_=>by
  show(x*c::List.zipWith _ hs []).sum=0+x*c;rw[b8d];simp
 | x::hs,y::cs,c,h=>by
  have ih:=a7o hs cs c (by simpa using h);show(x*y::List.zipWith _ hs (cs++[c])).sum=(x*y::List.zipWith _ hs cs).sum+hs.getD cs.length 0*c;rw[b6t,b6t,ih];omega
theorem a7p (h:cs.length<ws.length):due ws (cs++[c])=due ws cs+(heavy ws).getD cs.length 0*c:=a7o _ _ _ (by rw[a9S];exact h)
def Spm (ws:List Int) (spent c:Int) (cs:List Int):Prop:=spent=due ws cs+c*left ws cs.length
theorem Spm.opn (h:Spm ws spent c cs):Spm ws (spent+r*left ws cs.length) (c+r) cs:=by
 unfold Spm at h ⊢;rw[h,c0V];omega
theorem Spm.set (h:Spm ws spent c cs) (hl:cs.length<ws.length):Spm ws (spent+r*left ws (cs.length+1)) (c+r) (cs++[c]):=by
 unfold Spm at h ⊢;rw[a7p hl,b5J,h,a5G hl,c0V,c0s,c1e c ((heavy ws).getD cs.length 0)];show _=_+(c*left ws (cs.length+1)+r*left ws (cs.length+1))
 omega
theorem Spm.fin (h:Spm ws spent c cs) (hl:cs.length+1=ws.length):spent=due ws (cs++[c]):=by
 unfold Spm at h;rw[a7p (by omega),h,a5G (by omega),hl,b1Z,c0s,c1e c ((heavy ws).getD cs.length 0)];omega
theorem a9T (xs:List Int) (c:Int):srt (xs.map (·-c))=(srt xs).map (·-c):=by
 refine(a3f (ns:=xs.map (·-c)) ((a0v xs).map _) ?_).symm;rw[b6k];exact(a0V xs).imp λh=>by omega
def gaps (P:List Int):List Int:=(srt P).map (·-(srt P).headD 0)
theorem a4w {P R:List Int} (pm:P.Perm (c::R)) (le:∀x∈R,c<=x):srt P=c::srt R:=by
 refine(a3f (ns:=P) (ms:=c::srt R) (((a0v R).cons c).trans pm.symm) ?_).symm;rw[b6E];exact⟨λx hx=>le x ((a0v R).mem_iff.mp hx),a0V R⟩
theorem a9U {P R:List Int} (pm:P.Perm (c::R)) (le:∀x∈R,c<=x):(gaps P).tail=(srt R).map (·-c):=by
 unfold gaps;rw[a4w pm le];rfl
theorem a9V {P R Q:List Int} (pm:P.Perm (c::R)) (le:∀x∈R,c<=x):srt ((gaps P).tail++Q)=(srt (R++Q.map (c+·))).map (·-c):=by
 rw[a9U pm le,<-a9T (R++Q.map (c+·)) c];refine a1R ?_;rw[b5H,b6r];refine List.Perm.append ((a0v R).map _) ?_;have:(Q.map ((λx=>x-c) ∘ λx=>c+x))=Q:=by
  conv=>rhs;rw[<-List.map_id Q]
  refine b6c λx _=>?_;show c+x-c=x;omega
 rw[this]
theorem a9W:((srt N).map (·-c)).map (·-((srt N).map (·-c)).headD 0)=gaps N\/N=[]:=by
 cases e:srt N with
 | nil =>
  refine .inr (b6g.mp ?_);have:=a0P N;rw[e] at this;exact this.symm
 | cons x r =>
  refine .inl ?_;unfold gaps;rw[e,b6r];refine b6c λy _=>?_;show y-c-(x-c)=y-x;omega
def top (i:Nat):Stmt:=PySem.Challenge.pw_lettertoll_k77_whole_all_orders.main.body.getD i (.Pass ⟨0,0,0,0⟩)
abbrev a7q:Stmt:=top 7
abbrev a4x:Stmt:=top 8
abbrev a7r:Stmt:=top 10
abbrev a6m:Stmt:=top 13
abbrev a9X:Stmt:=top 14
abbrev b2a:Stmt:=top 15
abbrev b4x:Stmt:=top 16
abbrev a1E:Stmt:=top 17
abbrev a2O:Stmt:=top 18
abbrev sCom:Stmt:=top 20
abbrev sLed:Stmt:=top 21
abbrev a1T:Stmt:=top 22
abbrev a3m:Stmt:=top 23
abbrev b2b:Stmt:=top 24
abbrev sFm:Stmt:=top 25
abbrev sFc:Stmt:=top 26
abbrev b4y:Stmt:=top 40
abbrev a6n:Stmt:=top 41
abbrev a4y:Stmt:=top 42
abbrev a2s:Stmt:=top 43
abbrev a6o:Stmt:=top 44
abbrev b1e:Stmt:=top 45
abbrev a9Y:Stmt:=top 28
abbrev sRowW:Stmt:=top 29
abbrev a2B:Stmt:=top 30
abbrev a3T:Stmt:=top 31
abbrev a5H:Stmt:=top 32
abbrev a2j:Stmt:=top 33
abbrev a9Z:Stmt:=top 34
abbrev b0a:Stmt:=top 35
abbrev sCk:Stmt:=top 37
abbrev sKw:Stmt:=top 38
variable {P:Program} {w:World} {K:PySem.W.Frag} {mg:Str->Option Value} {base:Heap} {f:Addr} {fd:FuncData}
def b0b (K:PySem.W.Frag):Sp:=λvs H Q _=>∃(a:Addr) (ns:List Int) (k:Int),vs=[.ref a,.int k]/\SqL K H a (ns.map V.int)/\0<=k/\∀i,Q (.int i) H
theorem scCell:a0l ["script","k"] ["script","k"] (a0d b4y):=fsk
theorem b4z (F:Fun K "_law_cell_at" "_law_cell_at" b4y f fd) (ml:mg "len"=none):a0Y P w K mg base CX0 1 f fd ["script","k"] (b0b K):=by
 refine F.ok (k:=0) scCell (λvs H Q E h=>?_) (λcdv A outer s H vs Q E hr h=>?_)
 ·obtain⟨a,ns,k,rfl,_⟩:=h;rfl
 obtain⟨a,ns,k,rfl,hS,h0,q⟩:=h;refine⟨_,a0e (a1q (a0D a8U (pv 1) (pln ml (pv 0)) (nomark _)) (a0i (a0q (pxA a0u (pv 0) (pv 1)))) a0K) (a0i (a0q a0g)),?_⟩;refine⟨_,rfl,_,rfl,a,_,rfl,.inl hS,_,_,rfl,rfl,_,rfl,?_⟩;refine a3D (λc=>?_) (λc=>q 0);have c1:k<((ns.map V.int).length:Int):=b5X c;obtain⟨n,rfl⟩:∃n:Nat,k=n:=⟨k.toNat,by omega⟩
 have hn:n<ns.length:=by rw[b5x] at c1;omega
 exact⟨_,rfl,_,rfl,a,_,_,_,rfl,rfl,hS,a3d (b5z hn),q _⟩
def a4z:Sp:=λvs H Q _=>∃c:Int,vs=[.int c]/\∀i,1<=i->i<=B30->Q (.int i) H
theorem a7s:a0l ["cell","rest"] ["cell"] (a0d a6n):=fsk
theorem b0c (F:Fun K "_law_amount" "_law_amount" a6n f fd):a0Y P w K mg base CX0 1 f fd ["cell"] a4z:=by
 refine F.ok (k:=0) a7s (λvs H Q E h=>?_) (λcdv A outer s H vs Q E hr h=>?_)
 ·obtain⟨c,rfl,_⟩:=h;rfl
 obtain⟨c,rfl,q⟩:=h;refine⟨_,a0e (psA (i:=1) a7s (a0o a5U (pv 0) a0g))
  (a0e (a1q (a0D a2d (a0o a1s (pv 0) a0g) a0g (nomark _)) (a0i (a0q (a0o a0C a0g (a0o a1s (pv 1) (a0o a8Q a0g a0g))))) a0K)
  (a0e (a1q (a0D a2d (a0o a1s (pv 0) a0g) a0g (nomark _)) (a0i (a0q (a0o a1M (a0o a8Q a0g a0g) (a0o a1s (pv 1) a0g)))) a0K)
  (a0e (a1q (a0D a2d (a0o a1s (pv 0) a0g) a0g (nomark _)) (a0i (a0q (a0o a0C a0g (a0o a1s (pv 1) a0g)))) a0K)
  (a0i (a0q (a0o a0C a0g (a0o a1s (pv 1) a0g))))))),?_⟩
 refine⟨_,rfl,_,_,rfl,rfl,⟨by decide,by decide⟩,?_⟩;refine⟨_,rfl,_,_,rfl,rfl,(by show(0:Int)<_;decide),rfl,_,rfl,?_⟩;refine a3D (λ_=>⟨_,rfl,_,_,rfl,rfl,⟨by decide,by decide,by decide⟩,_,_,rfl,rfl,(by show(0:Int)<_;decide),_,_,rfl,rfl,q _ (by rw[e30];unfold B30;omega) (by rw[e30];unfold B30;omega)⟩) (λ_=>?_);refine⟨_,rfl,_,_,rfl,rfl,(by show(0:Int)<_;decide),rfl,_,rfl,?_⟩;refine a3D (λ_=>⟨_,_,rfl,rfl,⟨by decide,by decide,by decide⟩,_,rfl,_,_,rfl,rfl,(by show(0:Int)<_;decide),_,_,rfl,rfl,q _ (by rw[e30];unfold B30;omega) (by rw[e30];unfold B30;omega)⟩) (λ_=>?_);refine⟨_,rfl,_,_,rfl,rfl,(by show(0:Int)<_;decide),rfl,_,rfl,?_⟩;refine a3D (λ_=>⟨_,rfl,_,_,rfl,rfl,(by show(0:Int)<_;decide),_,_,rfl,rfl,q _ (by omega) (by unfold B30;omega)⟩) (λ_=>?_);exact⟨_,rfl,_,_,rfl,rfl,(by show(0:Int)<_;decide),_,_,rfl,rfl,q _ (by omega) (by unfold B30;omega)⟩
abbrev Mv:=Int × Int × (Int × List Int)
abbrev Rw:=Int × Int × List Int
def wl (ws:List Int) (st:Int):Int:=((srt ws).take (ws.length-st.toNat)).sum
def fin (ws:List Int) (r:Rw):Mv:=if r.2.2=[] then (r.1,0,(r.2.1,[])) else (r.1,r.2.2.headD 0*wl ws r.2.1,(r.2.1,r.2.2.map (·-r.2.2.headD 0)))
def rw1 (ws:List Int) (st:Int) (gs:List Int):List Rw:=if 1<gs.length\/st=(ws.length:Int)-1 then [(0,st+1,srt gs.tail)] else []
def rw2 (ps ws:List Int) (st:Int) (gs:List Int) (m:Nat):List Rw:=if st+(gs.length:Int)-1+(m:Int)<=(ws.length:Int) then [((m:Int),st,srt (gs.tail++(srt ps).take m))] else []
def rws (ps ws:List Int) (st:Int) (gs:List Int):Nat->List Rw
 | 0=>rw1 ws st gs
 | n+1=>rws ps ws st gs n++rw2 ps ws st gs (n+2)
def mvs (ps ws:List Int) (st:Int) (gs:List Int):List Mv:=(rws ps ws st gs (ps.length-1)).map (fin ws)
theorem a4A (ps ws:List Int) (st:Int) (gs:List Int):∀n,(rws ps ws st gs n).length<=n+1
 | 0=>by unfold rws rw1;split<;>simp
 | n+1=>by
  unfold rws;rw[b5J];have:=a4A ps ws st gs n;unfold rw2;split<;>simp<;>omega
def Bw (ns:List Int):Prop:=∀x∈ns,0<=x/\x<=B30
def Bg (ns:List Int):Prop:=∀x∈ns,0<=x/\x<=1000*B30
theorem b0d (h:Bw ns):0<=ns.sum/\ns.sum<=ns.length*B30:=by
 induction ns with
 | nil=>simp
 | cons a t ih =>
  have h1:=h a (.head _);have h2:=ih λx hx=>h x (.tail _ hx);rw[b6t,b5T];have e:(((t.length+1:Nat):Int))*B30=t.length*B30+B30:=by push_cast;rw[c0V];omega
  rw[e];omega
theorem wl_bd (h:Bw ws) (l:ws.length<=10) (st:Int):0<=wl ws st/\wl ws st<=10*B30:=by
 have b:Bw ((srt ws).take (ws.length-st.toNat)):=λx hx=>h x ((a0v ws).mem_iff.mp (b6V hx));have:=b0d b;unfold wl;have l2:((srt ws).take (ws.length-st.toNat)).length<=10:=by rw[b5R,a0P];omega
 refine⟨this.1,b8r this.2 ?_⟩;have:(((srt ws).take (ws.length-st.toNat)).length:Int)<=10:=by omega
 exact b8s this (by decide)
theorem a2k:srt ns=[]↔ns=[]:=by
 constructor
 ·intro h;have:=a0P ns;rw[h] at this;exact b6g.mp this.symm
 ·intro h;subst h;exact b6g.mp (by rw[a0P];rfl)
theorem b4A (h:Bg ns):0<=(srt ns).headD 0/\(srt ns).headD 0<=1000*B30:=by
 cases e:srt ns with
 | nil=>exact⟨by show(0:Int)<=0;omega,by show(0:Int)<=1000*B30;unfold B30;omega⟩
 | cons a t=>exact h a ((a0v ns).mem_iff.mp (by rw[e];exact .head _))
theorem a5I:PS X st (λ_ _ _=>False):=λ_ _ _ _ _ _ h=>h.elim
def a4B:Sp:=λvs H Q _=>∃(p q:Addr) (ps ws:List Int),vs=[.ref p,.ref q]/\TW H p ps/\TW H q ws/\(ws.length:Int)<=(if ps.length=2 then 7 else 6)/\Q .non H
theorem b2c:a0l ["prices","weights"] ["prices","weights"] (a0d a6m):=fsk
theorem b0e (F:Fun K "refuse_many" "refuse_many" a6m f fd) (ml:mg "len"=none):a0Y P w K mg base CX0 1 f fd ["prices","weights"] a4B:=by
 refine F.ok (k:=0) b2c (λvs H Q E h=>?_) (λcdv A outer s H vs Q E hr h=>?_)
 ·obtain⟨p,q,ps,ws,rfl,_⟩:=h;rfl
 obtain⟨p,q,ps,ws,rfl,hp,hq,hl,qq⟩:=h;refine⟨_,a0i (a1q (a0D b3G (pln ml (pv 1)) (b1k (a0D a2d (pln ml (pv 0)) a0g (nomark _)) a0g a0g) (nomark _)) (a0i a5I) a0K),?_⟩;refine⟨_,rfl,q,_,rfl,.inr (SqT.of hq),_,rfl,p,_,rfl,.inr (SqT.of hp),rfl,_,rfl,?_⟩;rw[b5x,b5x];refine a3D (λz=>?_) (λz=>?_)
 ·have z1:=V.int.inj (b5X z);rw[if_pos (by omega)] at hl;refine⟨_,_,rfl,rfl,_,rfl,?_⟩;rw[b6N (by omega)];exact b3S qq
 ·have z1:ps.length≠2:=λy=>z (b6b (by rw[y];rfl));rw[if_neg z1] at hl;refine⟨_,_,rfl,rfl,_,rfl,?_⟩;rw[b6N (by omega)];exact b3S qq
def b3f:Sp:=λvs H Q _=>∃(q:Addr) (ws:List Int) (st:Int),vs=[.ref q,.int st]/\TW H q ws/\ws.length<=10/\0<=st/\st<=(ws.length:Int)/\∀H',a0m H H'->Q (.int (wl ws st)) H'
theorem scLeft:a0l ["weights","settled"] ["weights","settled"] (a0d b4x):=fsk
theorem b4B (F:Fun K "weight_left" "weight_left" b4x f fd) (ml:mg "len"=none) (mS:mg "sorted"=none) (ms:mg "sum"=none):a0Y P w K mg base CX0 1 f fd ["weights","settled"] b3f:=by
 refine F.ok (k:=0) scLeft (λvs H Q E h=>?_) (λcdv A outer s H vs Q E hr h=>?_)
 ·obtain⟨q,ws,st,rfl,_⟩:=h;rfl
 obtain⟨q,ws,st,rfl,hq,l10,s0,s1,qq⟩:=h;refine⟨_,a0i (a0q (a0S (a4j rfl) (by rfl) ms b1w (a0a (a1o a4g (a0S a4p (by rfl) mS a1g (a0a (pv 0) a0f)) a1O (a1P (a0o a1M (pln ml (pv 0)) (pv 1)))) a0f))),?_⟩;refine⟨_,rfl,q,ws,rfl,.inr hq,by omega,λp1 H1 sm1 hn1 hp1=>?_⟩;refine⟨_,rfl,q,_,rfl,.inr (SqT.of (sm1 _ _ hq)),_,rfl,_,_,rfl,rfl,_,rfl,p1,_,rfl,SqL.of hp1,λp2 hp2=>?_⟩;have sm2:=a0c hp2 (.lst (((srt ws).take (ws.length-st.toNat)).map V.int));have e:a5b ((srt ws).map V.int) none (some (((ws.map V.int).length:Int)-st))=((srt ws).take (ws.length-st.toNat)).map V.int:=by
  rw[b5x,show((ws.length:Int)-st)=((ws.length-st.toNat:Nat):Int) by omega,a6X,c0f]
 dsimp only;rw[e];exact⟨p2,_,rfl,a0b,qq _ (sm1.trans sm2)⟩
abbrev NM:List Str:=["weights","number","settled","gaps","least","counted_anew"]
def b3g:Sp:=λvs H Q _=>∃(q g:Addr) (ws gs:List Int) (nb st:Int),vs=[.ref q,.int nb,.int st,.ref g]/\TW H q ws/\TW H g gs/\ws.length<=10/\gs.length<=30/\0<=st/\st<=(ws.length:Int)/\Bw ws/\Bg gs /\
 ∀(t:Addr) H',a0m H H'->a3E H' (.ref t) (fin ws (nb,st,srt gs))->Q (.ref t) H'
theorem b0f:a0l NM ["weights","number","settled","gaps"] (a0d b2a):=fsk
theorem ndM:(("gap":Str)::NM).Nodup:=by decide +kernel
theorem b4C (F:Fun K "move_to" "move_to" b2a f fd) (GL:Fns P w K mg base ["weights","settled"] "weight_left" b3f 1) (ml:mg "len"=none) (mS:mg "sorted"=none) (mn:mg "min"=none) (mt:mg "tuple"=none):a0Y P w K mg base CX0 2 f fd ["weights","number","settled","gaps"] b3g:=by
 refine F.ok (k:=1) b0f (λvs H Q E h=>?_) (λcdv A outer s H vs Q E hr h=>?_)
 ·obtain⟨q,g,ws,gs,nb,st,rfl,_⟩:=h;rfl
 obtain⟨q,g,ws,gs,nb,st,rfl,hq,hg,l10,l30,s0,s1,bw,bg,qq⟩:=h;refine⟨_,a0e (a1q (a0D a2d (pln ml (pv 3)) a0g (nomark _)) (a0i (a0q (a0Z (a0a (pv 1) (a0a a0g (a0a (a0Z (a0a (pv 2) (a0a (a0Z a0f) a0f))) a0f)))))) a0K)
  (a0e (psA (i:=4) b0f (a0S (a5q rfl) (by rfl) mn a5r (a0a (pv 3) a0f)))
  (a0e (psA (i:=5) b0f (a1j a0T (by rfl) mt a2y (a0a (a1A (M:=NM) rfl (cso (a0d b2a) NM) ndM rfl (a0S a4p (by rfl) mS a1g (a0a (pv 3) a0f)) (mo_srt (a0U a0F a1v))
   (λcl C s0 H0 fp=>⟨a0I,a0o a1M (pv 0) (pv 5)⟩)) a0f)))
  (a0i (a0q (a0Z (a0a (pv 1) (a0a (a0o a6d (pv 4) (pcF GL hr (a0a (pv 0) (a0a (pv 2) a0f)))) (a0a (a0Z (a0a (pv 2) (a0a (pv 5) a0f))) a0f)))))))),?_⟩
 refine⟨_,rfl,g,_,rfl,.inr (SqT.of hg),rfl,_,rfl,?_⟩;rw[b5x];refine a3D (λz=>?_) (λz=>?_)
 ·have z1:gs=[]:=b6g.mp (by have:=V.int.inj (b5X z);omega);subst z1;have ef:fin ws (nb,st,srt [])=(nb,0,(st,[])):=by unfold fin;rw[if_pos (a2k.mpr rfl)]
  rw[ef] at qq;refine⟨_,rfl,_,rfl,(by show 0<=sizeLine;decide),λa1 ha1=>?_⟩;have sA:=a0c ha1 (.tup []);have gA:TW (upd H a1 (.tup [])) a1 []:=a0b;generalize upd H a1 (.tup [])=HA at sA gA ⊢;refine⟨(by show 2<=sizeLine;decide),λa2 ha2=>?_⟩;have sB:=a0c ha2 (.tup [.int st,.ref a1]);have gB:upd HA a2 (.tup [.int st,.ref a1]) a2=some (.tup [.int st,.ref a1]):=a0b;generalize upd HA a2 (.tup [.int st,.ref a1])=HB at sB gB ⊢;refine⟨(by show 3<=sizeLine;decide),λa3 ha3=>?_⟩;have sC:=a0c ha3 (.tup [.int nb,.int 0,.ref a2]);refine qq a3 _ ((sA.trans sB).trans sC) ⟨a3,_,_,_,rfl,a0b,rfl,rfl,a2,_,_,rfl,sC _ _ gB,rfl,a3a (sC _ _ (sB _ _ gA))⟩
 ·have ne:gs≠[]:=λy=>z (by rw[y];rfl);have sn:srt gs≠[]:=λy=>ne (a2k.mp y);have hb:=b4A bg;have wb:=wl_bd bw l10 st;refine⟨_,rfl,g,gs,rfl,.inr hg,ne,?_⟩;have ef:fin ws (nb,st,srt gs)=(nb,(srt gs).headD 0*wl ws st,(st,(srt gs).map (·-(srt gs).headD 0))):=by unfold fin;rw[if_neg sn]
  rw[ef] at qq;have lgs:=a0P gs;generalize hle:(srt gs).headD 0=least at hb qq ⊢;refine⟨_,rfl,g,gs,rfl,.inr hg,by omega,λp1 H1 sm1 hn1 hp1=>?_⟩;refine⟨p1,_,rfl,SqL.of hp1,λd hd=>?_⟩;refine⟨λi H'=>a0m H1 H'/\H' d=some (.lst ((((srt gs).take i).map (·-least)).map V.int)),⟨a0c hd _,a0b⟩,λi H' _ hP=>SqL.of (hP.1 _ _ hp1),λi x H' hx hP=>?_,λH' hP=>?_⟩
  ·obtain⟨s5,hd'⟩:=hP;have il:=(b5E.mp hx).1;rw[b5x] at il;rw[b5L] at hx;obtain⟨z,hz,rfl⟩:=b6H.mp hx;refine a0y ⟨_,rfl,_,rfl,_,_,rfl,rfl,_,hd',?_,a0n hd s5,?_⟩
   ·rw[b5x,b5x,b5R];exact a0j (by omega)
   ·rw[a0b,b6f,hz,b5H,b5H];rfl
  ·obtain⟨s5,hd'⟩:=hP;rw[b5x,b6z] at hd';refine⟨d,_,rfl,.inl ⟨SqL.of hd',λc hc=>?_⟩⟩;have s6:=a0c hc (.tup (((srt gs).map (·-least)).map V.int));have g6:TW (upd H' c (.tup (((srt gs).map (·-least)).map V.int))) c ((srt gs).map (·-least)):=a0b;generalize upd H' c (.tup (((srt gs).map (·-least)).map V.int))=H6 at s6 g6 ⊢;have t6:=(sm1.trans s5).trans s6;refine⟨_,rfl,_,rfl,_,rfl,_,rfl,q,ws,st,rfl,t6 _ _ hq,l10,s0,s1,λH7 s7=>?_⟩;refine⟨_,_,rfl,rfl,⟨⟨hb.1,by unfold B30 at *;omega⟩,⟨wb.1,by unfold B30 at *;omega⟩⟩,?_⟩;refine⟨_,rfl,_,rfl,(by show 2<=sizeLine;decide),λa2 ha2=>?_⟩;have sB:=a0c ha2 (.tup [.int st,.ref c]);have gB:upd H7 a2 (.tup [.int st,.ref c]) a2=some (.tup [.int st,.ref c]):=a0b;generalize upd H7 a2 (.tup [.int st,.ref c])=HB at sB gB ⊢;refine⟨(by show 3<=sizeLine;decide),λa3 ha3=>?_⟩;have sC:=a0c ha3 (.tup [.int nb,.int (least*wl ws st),.ref a2]);exact qq a3 _ (((t6.trans s7).trans sB).trans sC) ⟨a3,_,_,_,rfl,a0b,rfl,rfl,a2,_,_,rfl,sC _ _ gB,rfl,a3a (sC _ _ (sB _ _ (s7 _ _ g6)))⟩
theorem Bg.tail (h:Bg gs):Bg gs.tail:=λx hx=>h x (List.mem_of_mem_tail hx)
theorem Bg.cat (h:Bg gs) (b:Bw ps) (m:Nat):Bg (gs.tail++(srt ps).take m):=λx hx=>by
 rcases b5W.mp hx with z|z
 ·exact h.tail x z
 ·have:=b x ((a0v ps).mem_iff.mp (b6V z));unfold B30 at *
  omega
theorem a4C (gs:List Int):a5b (gs.map V.int) (some 1) none=gs.tail.map V.int:=by
 have:=a4l (gs.map V.int) 1;rw[<-List.map_drop,List.drop_one] at this;exact this
abbrev NMv:List Str:=["prices","weights","frontier","settled","gaps","found","many","opened"]
def Gp (K:PySem.W.Frag) (H:Hp) (g:Addr) (gs:List Int):Prop:=TW H g gs\/(SqT K H g (gs.map V.int)/\gs≠[])
theorem Gp.same (s:a0m H H') (h:Gp K H g gs):Gp K H' g gs:=h.elim (λe=>.inl (s _ _ e)) λe=>.inr ⟨s.seqT e.1,e.2⟩
theorem Gp.sq (h:Gp K H g gs):SqT K H g (gs.map V.int):=h.elim (λe=>SqT.of e) λe=>e.1
def rSl1 (K:PySem.W.Frag):V->Option Int->Option Int->Hp->VK->Prop:=λx lo hi H Q=>∃(a:Addr) (gs:List Int),x=.ref a/\Gp K H a gs/\lo=some 1/\hi=none/\∀p H',a0m H H'->H' p=some (.tup (a5b (gs.map V.int) lo hi))->Q (.ref p) H'
theorem b0g (K:PySem.W.Frag) (hK:X.K=K:=by rfl):SlR X (rSl1 K):=by
 subst hK;intro pins s σ H x v vl vu lo hi sl Q I rx hs pl pu h;obtain⟨a,gs,rfl,hg,rfl,rfl,q⟩:=h;rcases hg with e|⟨e,ne⟩
 ·exact a6a pins s σ H (.ref a) v vl vu (some 1) none sl Q I rx hs pl pu ⟨a,_,rfl,e,q⟩
 ·refine b2R pins s σ H (.ref a) v vl vu (some 1) none sl Q I rx hs pl pu ⟨a,_,rfl,e,λhw=>?_,λp hp=>q p _ (a0c hp _) a0b⟩;have l1:0<gs.length:=b6P.mpr ne;have h1:=hw.1;rw[b5x] at h1;have h2:HT.sIx gs.length 0 (some 1)=min 1 gs.length:=HT.a5X gs.length 0 1;rw[h2] at h1;omega
structure Ask (K:PySem.W.Frag) (H:Hp) (p q fr g:Addr) (ps ws gs:List Int) (st:Int):Prop where
 hp:TW H p ps
 hq:TW H q ws
 hf:SqT K H fr [.int st,.ref g]
 hg:Gp K H g gs
 p2:2<=ps.length
 p6:ps.length<=6
 w7:(ws.length:Int)<=(if ps.length=2 then 7 else 6)
 s0:0<=st
 s1:st<=(ws.length:Int)
 s2:1<gs.length->st<(ws.length:Int)
 g10:gs.length<=10
 bw:Bw ws
 bp:Bw ps
 bg:Bg gs
theorem Ask.w10 {p q fr g:Addr} (a:Ask K H p q fr g ps ws gs st):ws.length<=7:=by
 have:=a.w7;split at this<;>omega
def a4D (K:PySem.W.Frag):Sp:=λvs H Q _=>∃(p q fr g:Addr) (ps ws gs:List Int) (st:Int),vs=[.ref p,.ref q,.ref fr]/\Ask K H p q fr g ps ws gs st /\
 ∀(l:Addr) H' xs,a0m H H'->H l=none->H' l=some (.lst xs)->Mvs H' xs (mvs ps ws st gs)->Q (.ref l) H'
theorem a2C:a0l NMv ["prices","weights","frontier"] (a0d a9X):=fsk
theorem b2d (F:Fun K "moves" "moves" a9X f fd) (GR:Fns P w K mg base ["prices","weights"] "refuse_many" a4B 2) (GM:Fns P w K mg base ["weights","number","settled","gaps"] "move_to" b3g 2) (ml:mg "len"=none) (mr:mg "range"=none) (mS:mg "sorted"=none) (mt:mg "tuple"=none):a0Y P w K mg base CX0 3 f fd ["prices","weights","frontier"] (a4D K):=by
 refine F.ok (k:=2) a2C (λvs H Q E h=>?_) (λcdv A outer s H vs Q E hr h=>?_)
 ·obtain⟨p,q,fr,g,ps,ws,gs,st,rfl,_⟩:=h;rfl
 obtain⟨p,q,fr,g,ps,ws,gs,st,rfl,ak,qq⟩:=h;have w10:=ak.w10;obtain⟨hp,hq,hf,hg,p2,p6,w7,s0,s1,s2,g10,bw,bp,bg⟩:=ak;refine⟨_,a0e (a1h (pcF GR hr (a0a (pv 0) (a0a (pv 1) a0f))))
  (a0e (psA (i:=3) a2C (pxA a1I (pv 2) a0g))
  (a0e (psA (i:=4) a2C (pxA a1I (pv 2) a0g))
  (a0e (psA (i:=5) a2C (a1n a0f))
  (a0e (a6Y (a1q (PW.pt (pw_or (a0D b3G (pln ml (pv 4)) a0g (nomark _)) (b2O (a0D a2d (pv 3) (a0o a1M (pln ml (pv 1)) a0g) (nomark _)))))
   (a0i (a1h (a4h b6I b7k b7l a1f (pv 5) (a0a (pcF GM hr (a0a (pv 1) (a0a a0g (a0a (a0o a0C (pv 3) a0g) (a0a (a1o (b0g K) (pv 4) (a1P a0g) a1O) a0f))))) a0f)))) a0K))
  (a0e (a1r b6Q rfl (a1K (by rfl) mr (a0a a0g (a0a (a0o a0C (pln ml (pv 0)) a0g) a0f))) (pgA (i:=6) a2C)
   (a0i (a1q (a0D op_le (a0o a0C (a0o a1M (a0o a0C (pv 3) (pln ml (pv 4))) a0g) (pv 6)) (pln ml (pv 1)) (nomark _))
    (a0e (psA (i:=7) a2C (a1j a0T (by rfl) mt a2y (a0a (a1o a4g (a0S a4p (by rfl) mS a1g (a0a (pv 0) a0f)) a1O (a1P (pv 6))) a0f)))
    (a0i (a1h (a4h b6I b7k b7l a1f (pv 5) (a0a (pcF GM hr (a0a (pv 1) (a0a (pv 6) (a0a (pv 3) (a0a (a0o a3b (a1o (b0g K) (pv 4) (a1P a0g) a1O) (pv 7)) a0f))))) a0f))))) a0K)))
  (a0i (a0q (pv 5)))))))),?_⟩
 refine⟨_,rfl,_,rfl,p,q,ps,ws,rfl,hp,hq,w7,?_⟩;refine⟨_,rfl,fr,_,_,_,rfl,rfl,hf,(rfl:atI [V.int st,.ref g] 0=_),?_⟩;refine⟨_,rfl,fr,_,_,_,rfl,rfl,hf,(rfl:atI [V.int st,.ref g] 1=_),?_⟩;refine⟨(by show 0<=sizeLine;decide),λlf hlf=>?_⟩;have s3:=a0c hlf (.lst []);have g3:upd H lf (.lst []) lf=some (.lst []):=a0b;generalize upd H lf (.lst [])=H3 at s3 g3 ⊢;refine⟨λσ' H'=>∃xs,σ'=[some (.ref p),some (.ref q),some (.ref fr),some (.int st),some (.ref g),some (.ref lf),none,none]/\a0m H H'/\H' lf=some (.lst xs)/\Mvs H' xs ((rws ps ws st gs 0).map (fin ws)),?_,?_⟩
 ·refine⟨_,rfl,g,_,rfl,.inr (hg.same s3).sq,_,_,rfl,rfl,_,rfl,?_⟩;rw[b5x];refine a3D (λc=>?_) (λc=>?_)
  ·have c1:1<gs.length:=by have:=b5X c;omega
   have ec:rws ps ws st gs 0=[(0,st+1,srt gs.tail)]:=if_pos (.inl c1);rw[ec];refine⟨_,rfl,.inl ⟨rfl,_,SqL.of g3⟩,_,rfl,_,rfl,_,_,rfl,rfl,_,rfl,_,rfl,g,gs,rfl,hg.same s3,rfl,rfl,λp4 H4 s4 hp4=>?_⟩;have hp4':TW H4 p4 gs.tail:=by show H4 p4=_;rw[hp4];exact b7m (λz=>some (HO.tup z)) (a4C gs)
   refine⟨q,p4,ws,gs.tail,0,st+1,rfl,(s3.trans s4) _ _ hq,hp4',by omega,by rw[b8E];omega,by omega,by have:=s2 c1;omega,bw,bg.tail,λt H5 s5 mv=>?_⟩;have hl5:=(s4.trans s5) _ _ g3;exact⟨lf,_,_,rfl,rfl,hl5,a0j (by show 0<=1000;decide),_,rfl,a0n hlf ((s3.trans s4).trans s5),a0b,.cons (a3E.tk (TK.upd hl5) mv) .nil⟩
  ·have c1:¬ 1<gs.length:=λy=>c (b6b (by omega));refine⟨_,rfl,_,rfl,q,_,rfl,.inr (SqT.of (s3 _ _ hq)),_,_,rfl,rfl,rfl,_,rfl,?_⟩;rw[b5x];refine a3D (λc2=>?_) (λc2=>?_)
   ·have c3:st=(ws.length:Int)-1:=V.int.inj (b5X c2);have ec:rws ps ws st gs 0=[(0,st+1,srt gs.tail)]:=if_pos (.inr c3);rw[ec];refine⟨_,rfl,.inl ⟨rfl,_,SqL.of g3⟩,_,rfl,_,rfl,_,_,rfl,rfl,_,rfl,_,rfl,g,gs,rfl,hg.same s3,rfl,rfl,λp4 H4 s4 hp4=>?_⟩;have hp4':TW H4 p4 gs.tail:=by show H4 p4=_;rw[hp4];exact b7m (λz=>some (HO.tup z)) (a4C gs)
    refine⟨q,p4,ws,gs.tail,0,st+1,rfl,(s3.trans s4) _ _ hq,hp4',by omega,by rw[b8E];omega,by omega,by omega,bw,bg.tail,λt H5 s5 mv=>?_⟩;have hl5:=(s4.trans s5) _ _ g3;exact⟨lf,_,_,rfl,rfl,hl5,a0j (by show 0<=1000;decide),_,rfl,a0n hlf ((s3.trans s4).trans s5),a0b,.cons (a3E.tk (TK.upd hl5) mv) .nil⟩
   ·have c3:¬st=(ws.length:Int)-1:=λy=>c2 (b6b (by rw[y]));have ec:rws ps ws st gs 0=[]:=if_neg (λz=>z.elim c1 c3);rw[ec];exact⟨[],rfl,s3,g3,.nil⟩
 rintro σ' H4 ⟨xs0,rfl,t4,hl4,hm4⟩;refine⟨_,rfl,p,_,rfl,.inr (SqT.of (t4 _ _ hp)),_,_,rfl,rfl,_,_,rfl,⟨by decide,by decide,by rw[b5x];omega,by rw[b5x];omega⟩,?_⟩;refine a1L (λi σ H'=>∃(xs:List V) (x6 x7:Option V),σ=[some (.ref p),some (.ref q),some (.ref fr),some (.int st),some (.ref g),some (.ref lf),x6,x7]/\a0m H H'/\H' lf=some (.lst xs)/\Mvs H' xs ((rws ps ws st gs i).map (fin ws)))
  ⟨xs0,_,_,rfl,t4,hl4,hm4⟩ (λi σ H5 hi hP=>?_) (λσ H5 hP=>?_)
 ·obtain⟨xs,x6,x7,rfl,t5,hl5,hm5⟩:=hP;have i5:i<5:=by
   have:(ps.map V.int).length=ps.length:=b5x ..;omega
  have lx:xs.length<=i+1:=by
   have:=hm5.length;rw[this,b5x];exact a4A ps ws st gs i
  have e2:(2:Int)+(i:Int)=((i+2:Nat):Int):=by push_cast;omega
  rw[e2];refine⟨_,rfl,_,rfl,g,_,rfl,.inr (hg.same t5).sq,_,_,rfl,rfl,_,_,rfl,rfl,_,rfl,_,_,rfl,rfl,_,rfl,q,_,rfl,.inr (SqT.of (t5 _ _ hq)),_,_,rfl,rfl,_,rfl,?_⟩;rw[b5x,b5x];have es:rws ps ws st gs (i+1)=rws ps ws st gs i++rw2 ps ws st gs (i+2):=rfl;refine a3D (λc=>?_) (λc=>?_)
  ·have c1:=b5X c;have e3:rw2 ps ws st gs (i+2)=[(((i+2:Nat):Int),st,srt (gs.tail++(srt ps).take (i+2)))]:=if_pos c1;refine⟨_,rfl,p,ps,rfl,.inr (t5 _ _ hp),by omega,λp6 H6 s6 hn6 hp6=>?_⟩;refine⟨_,rfl,_,rfl,p6,_,rfl,SqL.of hp6,λp7 hp7=>?_⟩;rw[show a5b ((srt ps).map V.int) none (some ((i+2:Nat):Int))=((srt ps).take (i+2)).map V.int by rw[a6X,c0f]];have s7:=a0c hp7 (.lst (((srt ps).take (i+2)).map V.int));have g7:upd H6 p7 (.lst (((srt ps).take (i+2)).map V.int)) p7=some (.lst (((srt ps).take (i+2)).map V.int)):=a0b;generalize upd H6 p7 (.lst (((srt ps).take (i+2)).map V.int))=H7 at s7 g7 ⊢;refine⟨p7,_,rfl,.inl ⟨SqL.of g7,λp8 hp8=>?_⟩⟩;have s8:=a0c hp8 (.tup (((srt ps).take (i+2)).map V.int));have g8:TW (upd H7 p8 (.tup (((srt ps).take (i+2)).map V.int))) p8 ((srt ps).take (i+2)):=a0b;generalize upd H7 p8 (.tup (((srt ps).take (i+2)).map V.int))=H8 at s8 g8 ⊢;have s58:=(s6.trans s7).trans s8;have t8:=t5.trans s58;refine⟨_,rfl,.inl ⟨rfl,_,SqL.of (s58 _ _ hl5)⟩,_,rfl,_,rfl,_,rfl,_,rfl,_,rfl,g,gs,rfl,hg.same t8,rfl,rfl,λp9 H9 s9 hp9=>?_⟩;have hp9':TW H9 p9 gs.tail:=by show H9 p9=_;rw[hp9];exact b7m (λz=>some (HO.tup z)) (a4C gs)
   refine⟨_,rfl,p9,p8,_,_,rfl,rfl,hp9',s9 _ _ g8,?_,λpA HA sA hpA=>?_⟩
   ·rw[b5x,b5x,b8E,b5R];exact b7n (a0j (by omega))
   have hpA':TW HA pA (gs.tail++(srt ps).take (i+2)):=by show HA pA=_;rw[hpA,b5H]
   have t8A:=t8.trans (s9.trans sA);refine⟨q,pA,ws,_,((i+2:Nat):Int),st,rfl,t8A _ _ hq,hpA',by omega,by rw[b5J,b8E,b5R];omega,s0,s1,bw,bg.cat bp _,λt HB sB mv=>?_⟩;have s5B:=(s58.trans (s9.trans sA)).trans sB;have hlB:=s5B _ _ hl5;refine⟨lf,_,_,rfl,rfl,hlB,a0j (by omega),_,_,_,rfl,a0n hlf (t5.trans s5B),a0b,?_⟩;rw[es,e3,b5H];exact L2.Paired.appendP (Mvs.tk ((TK.of s5B).trans (TK.upd hlB)) hm5) (.cons (a3E.tk (TK.upd hlB) mv) .nil)
  ·have e3:rw2 ps ws st gs (i+2)=[]:=if_neg λy=>c (b6b y);exact⟨xs,_,_,rfl,t5,hl5,by rw[es,e3,b6B];exact hm5⟩
 ·obtain⟨xs,x6,x7,rfl,t5,hl5,hm5⟩:=hP;have en:((((ps.map V.int).length:Nat):Int)+1-2).toNat=ps.length-1:=by rw[b5x];omega
  rw[en] at hm5;exact⟨_,rfl,qq lf H5 xs t5 hlf hl5 hm5⟩
def Bo (ns:List Int):Prop:=∀x∈ns,1<=x/\x<=B30
theorem Bo.bw (h:Bo ns):Bw ns:=λx hx=>⟨by have:=h x hx;omega,(h x hx).2⟩
theorem Bo.add (h:Bo ns) {i:Int} (h1:1<=i) (h2:i<=B30):Bo (ns++[i]):=λx hx=>by
 rcases b5W.mp hx with z|z
 ·exact h x z
 ·rw[b5C.mp z];exact⟨h1,h2⟩
abbrev NP:List Str:=["script","letters"]
def a7t (K:PySem.W.Frag):Sp:=λvs H Q _=>∃(a:Addr) (ns:List Int),vs=[.ref a]/\SqL K H a (ns.map V.int)/\∀(p:Addr) ps H',a0m H H'->TW H' p ps->2<=ps.length->ps.length<=6->Bo ps->Q (.ref p) H'
theorem a7u:a0l NP ["script"] (a0d a4y):=fsk
theorem ndP:(("k":Str)::NP).Nodup:=by decide +kernel
theorem b0h (F:Fun K "_law_prices" "_law_prices" a4y f fd) (GC:Fns P w K mg base ["script","k"] "_law_cell_at" (b0b K) 1) (GA:Fns P w K mg base ["cell"] "_law_amount" a4z 1) (mr:mg "range"=none) (mt:mg "tuple"=none):a0Y P w K mg base CX0 2 f fd ["script"] (a7t K):=by
 refine F.ok (k:=1) a7u (λvs H Q E h=>?_) (λcdv A outer s H vs Q E hr h=>?_)
 ·obtain⟨a,ns,rfl,_⟩:=h;rfl
 obtain⟨a,ns,rfl,hS,q⟩:=h;refine⟨_,a0e (psA (i:=1) a7u (a0o a0C a0g (a0o a1s (pcF GC hr (a0a (pv 0) (a0a a0g a0f))) a0g)))
  (a0i (a0q (a1j a0T (by rfl) mt a2y (a0a (a1k (M:=NP) rfl (cso (a0d a4y) NP) ndP rfl (by rfl) mr (a0a (pv 1) a0f) (a0U a0F a1v)
   (λcl C s0 H0 fp=>⟨a0I,pcF GA hr (a0a (pcF GC hr (a0a (pv 1) (a0a (a0o a0C a0g (pv 0)) a0f))) a0f)⟩)) a0f)))),?_⟩
 refine⟨_,rfl,a,ns,0,rfl,hS,by decide,λc0=>?_⟩;refine⟨_,_,rfl,rfl,(by show(0:Int)<_;decide),_,_,rfl,rfl,?_⟩;have b2:2<=2+c0 % 5:=by omega
 have b6:2+c0 % 5<=6:=by omega
 dsimp only;generalize 2+c0 % 5=b at b2 b6 ⊢;refine⟨_,rfl,b,rfl,by omega,by omega,λd hd=>?_⟩;refine⟨λi H'=>a0m H H'/\∃ps,H' d=some (.lst (ps.map V.int))/\ps.length=i/\Bo ps,⟨a0c hd _,[],a0b,rfl,λx hx=>by cases hx⟩,λi H' hi hP=>?_,λH' hP=>?_⟩
 ·obtain⟨s1,ps,hd',lp,bo⟩:=hP;refine a0y ⟨_,rfl,_,rfl,_,_,rfl,rfl,a,ns,_,rfl,s1.seq hS,by omega,λc=>⟨c,rfl,λv v1 v2=>⟨_,hd',?_,a0n hd s1,ps++[v],?_,by rw[b5J,lp];rfl,bo.add v1 v2⟩⟩⟩
  ·rw[b5x];exact a0j (by omega)
  ·rw[a0b,b5H];rfl
 ·obtain⟨s1,ps,hd',lp,bo⟩:=hP;refine⟨d,_,rfl,.inl ⟨SqL.of hd',λc hc=>?_⟩⟩;exact q c ps _ (s1.trans (a0c hc _)) a0b (by omega) (by omega) bo
abbrev NW:List Str:=["script","most","cell","things","weights"]
def a5J (K:PySem.W.Frag):Sp:=λvs H Q _=>∃(a:Addr) (ns:List Int) (m:Int),vs=[.ref a,.int m]/\SqL K H a (ns.map V.int)/\1<=m/\m<=7/\∀(p:Addr) ws H',a0m H H'->TW H' p ws->1<=ws.length->(ws.length:Int)<=m->Bo ws->Q (.ref p) H'
theorem a1y:a0l NW ["script","most"] (a0d a2s):=fsk
theorem ndW:(("k":Str)::NW).Nodup:=by decide +kernel
theorem reps (n:Nat) (x:Int):(List.replicate n [V.int x]).flatten=(List.replicate n x).map V.int:=by
 induction n with
 | zero=>rfl
 | succ n ih=>rw[b7p,b8n,ih,b7p];rfl
theorem a8w (F:Fun K "_law_weights" "_law_weights" a2s f fd) (GC:Fns P w K mg base ["script","k"] "_law_cell_at" (b0b K) 1) (GA:Fns P w K mg base ["cell"] "_law_amount" a4z 1) (mr:mg "range"=none) (mt:mg "tuple"=none) (mn:mg "min"=none):a0Y P w K mg base CX0 2 f fd ["script","most"] (a5J K):=by
 refine F.ok (k:=1) a1y (λvs H Q E h=>?_) (λcdv A outer s H vs Q E hr h=>?_)
 ·obtain⟨a,ns,m,rfl,_⟩:=h;rfl
 obtain⟨a,ns,m,rfl,hS,m1,m7,q⟩:=h;refine⟨_,a0e (psA (i:=2) a1y (pcF GC hr (a0a (pv 0) (a0a a0g a0f))))
  (a0e (psA (i:=3) a1y (a0o a0C a0g (a0o a1s (pv 2) (pv 1))))
  (a0e (psA (i:=4) a1y (a1k (M:=NW) rfl (cso (a0d a2s) NW) ndW rfl (by rfl) mr (a0a (pv 3) a0f) (a0U a0F a1v)
   (λcl C s0 H0 fp=>⟨a0I,pcF GA hr (a0a (pcF GC hr (a0a (pv 1) (a0a (a0o a0C a0g (pv 0)) a0f))) a0f)⟩)))
  (a0e (a6Y (a1q (a0D a2d (a0o a1s (a0o a5U (pv 2) (pv 1)) a0g) a0g (nomark _)) (a0i (psA (i:=4) a1y (a0o b2T (a1n (a0a (pxA a0u (pv 4) a0g) a0f)) (pv 3)))) a0K))
  (a0e (a6Y (a1q (a0D a2d (a0o a1s (a0o a5U (pv 2) (pv 1)) a0g) a0g (nomark _)) (a0i (psA (i:=4) a1y (a1k (M:=NW) rfl (cso (a0d a2s) NW) ndW rfl (by rfl) mr (a0a (pv 3) a0f) (a0U a0F a1v)
   (λcl C s0 H0 fp=>⟨a0I,a0S (a8W rfl) (by rfl) mn a5r (a0a (a0o a8Q a0g a0g) (a0a (a0o a0C (pxA (ixL K) (pv 5) a0g) (a0o a1s (pv 0) a0g)) a0f))⟩)))) a0K))
  (a0i (a0q (a1j a0T (by rfl) mt a2y (a0a (pv 4) a0f)))))))),?_⟩
 refine⟨_,rfl,a,ns,1,rfl,hS,by decide,λc0=>?_⟩;refine⟨_,rfl,_,rfl,_,_,rfl,rfl,(by show(0:Int)<_;omega),_,_,rfl,rfl,?_⟩;have t1:1<=1+c0 % m:=by have:=Int.emod_nonneg c0 (show m≠0 by omega);omega
 have t2:1+c0 % m<=m:=by have:=Int.emod_lt_of_pos c0 (show 0<m by omega);omega
 dsimp only;generalize 1+c0 % m=b at t1 t2 ⊢;refine⟨_,rfl,b,rfl,by omega,by omega,λd hd=>?_⟩;refine⟨λi H'=>a0m H H'/\∃ps,H' d=some (.lst (ps.map V.int))/\ps.length=i/\Bo ps,⟨a0c hd _,[],a0b,rfl,λx hx=>by cases hx⟩,λi H' hi hP=>?_,λH1 hP=>?_⟩
 ·obtain⟨s1,ps,hd',lp,bo⟩:=hP;refine a0y ⟨_,rfl,_,rfl,_,_,rfl,rfl,a,ns,_,rfl,s1.seq hS,by omega,λc=>⟨c,rfl,λv v1 v2=>⟨_,hd',?_,a0n hd s1,ps++[v],?_,by rw[b5J,lp];rfl,bo.add v1 v2⟩⟩⟩
  ·rw[b5x];exact a0j (by omega)
  ·rw[a0b,b5H];rfl
 obtain⟨s1,ps,hd',lp,bo⟩:=hP;refine⟨λσ' H'=>∃(d:Addr) (ps:List Int),σ'=[some (.ref a),some (.int m),some (.int c0),some (.int b),some (.ref d)]/\a0m H H'/\H' d=some (.lst (ps.map V.int))/\ps.length=b.toNat/\Bo ps,?_,?_⟩
 ·refine⟨_,rfl,_,rfl,_,_,rfl,rfl,⟨by omega,by omega⟩,_,_,rfl,rfl,(by show(0:Int)<_;decide),rfl,_,rfl,?_⟩;refine a3D (λ_=>?_) (λ_=>⟨d,ps,rfl,s1,hd',lp,bo⟩);have h0:ps[0]?=some (ps[0]'(by omega)):=b5z _;have m0:ps[0]'(by omega)∈ps:=b7t _;generalize ps[0]'(by omega)=x0 at h0 m0;refine⟨_,rfl,d,_,_,_,rfl,rfl,SqL.of hd',a3d (k:=0) h0,(by show 1<=sizeLine;decide),λe1 he1=>?_⟩;have s2:=a0c he1 (.lst [.int x0]);have g2:upd H1 e1 (.lst [.int x0]) e1=some (.lst [.int x0]):=a0b;generalize upd H1 e1 (.lst [.int x0])=H2 at s2 g2 ⊢;refine⟨_,rfl,e1,b,_,rfl,rfl,g2,by omega,by omega,by show 1*_<=_;exact b7n (a0j (by omega)),λe2 he2=>?_⟩;rw[reps];exact⟨e2,List.replicate b.toNat x0,rfl,(s1.trans s2).trans (a0c he2 _),a0b,b7P,λx hx=>by rw[List.eq_of_mem_replicate hx];exact bo _ m0⟩
 rintro σ' H2 ⟨d,ps,rfl,s2,hd2,lp,bo⟩;refine⟨λσ' H'=>∃(d:Addr) (ps:List Int),σ'=[some (.ref a),some (.int m),some (.int c0),some (.int b),some (.ref d)]/\a0m H H'/\H' d=some (.lst (ps.map V.int))/\ps.length=b.toNat/\Bo ps,?_,?_⟩
 ·refine⟨_,rfl,_,rfl,_,_,rfl,rfl,⟨by omega,by omega⟩,_,_,rfl,rfl,(by show(0:Int)<_;decide),rfl,_,rfl,?_⟩;refine a3D (λ_=>?_) (λ_=>⟨d,ps,rfl,s2,hd2,lp,bo⟩);have h0:ps[0]?=some (ps[0]'(by omega)):=b5z _;have m0:ps[0]'(by omega)∈ps:=b7t _;generalize ps[0]'(by omega)=x0 at h0 m0;refine⟨_,rfl,b,rfl,by omega,by omega,λd4 hd4=>?_⟩;refine⟨λi H'=>a0m H2 H'/\∃qs,H' d4=some (.lst (qs.map V.int))/\qs.length=i/\Bo qs,⟨a0c hd4 _,[],a0b,rfl,λx hx=>by cases hx⟩,λi H' hi hP=>?_,λH3 hP=>?_⟩
  ·obtain⟨s4,qs,hd',lq,bq⟩:=hP;have bx:=bo _ m0;have hv:∃v:Int,v=(if x0+(0+(i:Int)) % 2<(10:Int) ^ (30:Int).toNat then x0+(0+(i:Int)) % 2 else (10:Int) ^ (30:Int).toNat)/\1<=v/\v<=B30:=⟨_,rfl,by rw[e30];split<;>(unfold B30 at *;omega),by rw[e30];split<;>(unfold B30 at *;omega)⟩
   obtain⟨v,ev,v1,v2⟩:=hv;refine a0y ⟨_,_,rfl,rfl,⟨by decide,by decide,by decide⟩,_,rfl,d,_,_,_,rfl,rfl,SqL.of (s4 _ _ hd2),a3d (k:=0) h0,_,rfl,_,_,rfl,rfl,(by show(0:Int)<_;decide),_,_,rfl,rfl,_,_,rfl,_,hd',?_,a0n hd4 s4,qs++[v],?_,by rw[b5J,lq];rfl,bq.add v1 v2⟩
   ·rw[b5x];exact a0j (by omega)
   ·rw[a0b,b5H,ev];rfl
  ·obtain⟨s4,qs,hd',lq,bq⟩:=hP;exact⟨d4,qs,rfl,s2.trans s4,hd',lq,bq⟩
 rintro σ' H3 ⟨d,ps,rfl,s3,hd3,lp,bo⟩;refine⟨_,rfl,d,_,rfl,.inl ⟨SqL.of hd3,λc hc=>?_⟩⟩;exact q c ps _ (s3.trans (a0c hc _)) a0b (by omega) (by omega) bo
def b5t (n st kn:Int):Bool:=decide (kn>1)||(decide (kn=1)&&decide (st=n-1))
def b4D (n st kn m:Int):Bool:=decide (kn>0)&&decide (st+kn-1+m<=n)
def lawf (L:Nat) (n st kn:Int):List Int:=(if b5t n st kn=true then [0] else [])++((List.range (L-1)).map λi:Nat=>(2:Int)+(i:Int)).filter (b4D n st kn)
def nx (st r:Int):Int:=st+(if r=0 then 1 else 0)
def leads (L:Nat) (n:Int):List Int->Int->Int->Bool
 | [],_,kn=>decide (kn=0)
 | r::rs,st,kn=>if r∈lawf L n st kn then leads L n rs (nx st r) (kn-1+r) else false
theorem a1X (s:a0m H H') (x:a1C H T lpos q):a1C H' T lpos q:=by
 rcases x with e|⟨c,e,ec⟩
 ·exact .inl (s _ _ e)
 ·exact .inr ⟨c,s _ _ e,s _ _ ec⟩
theorem a3U (x:a1C H T lpos q):∃ps,H T=some (.tbl ps):=by
 rcases x with e|⟨c,e,_⟩
 ·exact⟨_,e⟩
 ·exact⟨_,e⟩
theorem a2P (s:a0m (unt as H) H'):a0m H (rtk as H H'):=λb o e=>by
 by_cases z:b∈as
 ·rw[a9A z];exact e
 ·rw[a1m z];exact s b o (by rw[a0p z];exact e)
theorem a4E (n:∀c∈as,H' c=none) (e:H' b=some o):rtk as H H' b=some o:=by
 rw[a1m (λz=>by rw[n b z] at e;cases e)];exact e
def b0i:Expr:=match a0H a1T with
 | [.Return (some (.Call _ _ [⟨_,e,_⟩] _)) _]=>e
 | _=>.Constant .none 0 ⟨0,0,0,0⟩
def lamP1:Arguments:=match b0i with | .Lambda p _ _ _=>p|_=>a0N a1T
def lamB1:Expr:=match b0i with | .Lambda _ b _ _=>b|e=>e
def b0j:Scope:=match b0i with | .Lambda _ _ s _=>s|_=>a0d a1T
def b4E:Pos:=match b0i with | .Lambda _ _ _ p=>p|_=>⟨0,0,0,0⟩
abbrev b2e:Str:=(("cheap_letters":Str)++".<locals>.")++"<lambda>"
abbrev lamK1 (c:Addr) (c':Addr) (pm ctv:Value):Obj:=PySem.W.kla_obj "<lambda>" b2e lamP1 lamB1 b0j [("prices",c)] pm c' ctv
example:b0i=.Lambda lamP1 lamB1 b0j b4E:=rfl
theorem scLam1 (c:Addr):a1W b0j ["letter"] [("prices",c)]:=⟨rfl,rfl,rfl,(by show(["letter","prices"]:List Str).Nodup;decide +kernel),by decide +kernel,by decide +kernel,(by show ∀y∈b0j.names,y.2=.free->y.1∈(["prices"]:List Str);decide +kernel),(by show ∀x∈(["prices"]:List Str),b0j.names.lookup x=some .free;decide +kernel)⟩
def lamR1:Addr->List V->Hp->VK->Prop:=λg vs H Q=>∃(c c':Addr) (pm ctv:Value) (o:Obj) (u:Value) (p:Addr) (ps:List Int) (i:Nat),H g=some (exA g (lamK1 c c' pm ctv))/\H c'=some (cdA c' b2e)/\H c=some (exA c o)/\o.data=.cell (some u)/\a0Q (.ref p) u/\vs=[.int (i:Int)]/\TW H p ps/\i<ps.length /\
 ∀t H',a0m H H'->H' t=some (.tup [.int (ps.getD i 0),.int (i:Int)])->Q (.ref t) H'
theorem b4F:a3F P w K mg base 1 lamR1 where
 at':=λ⟨c,c',pm,ctv,o,u,p,ps,i,e,_⟩=>⟨_,_,_,_,e⟩
 run:=λA outer s H g us vs Q hr e0 r' h=>by
  obtain⟨c,c',pm,ctv,o,u,p,ps,i,eg,ec',ecc,hd,rv,rfl,hp,hi,q⟩:=h;have lu:us.length=1:=by rw[<-r'.length];rfl
  have pc:p∉[c]:=λz=>by
   rw[b5C.mp z] at hp;exact absurd (b5U (hp.symm.trans ecc)) (by intro z;cases z)
  refine a2p (k:=0) (cvs:=[.ref p]) (scLam1 c) hr e0 eg ec' (by simp) (λj x c0 hj=>?_) rfl r' rfl ?_ λxe hr'=>⟨_,a0Z (a0a (pxA (ixT K) (pv 1) (pv 0)) (a0a (pv 0) a0f)),?_⟩
  ·cases j with
   | zero =>
    have hj:(("prices":Str),c)=(x,c0):=b5U hj;cases hj;exact⟨o,u,.ref p,ecc,hd,rfl,rv⟩
   | succ j=>simp at hj
  ·match us,lu with
   | [u1],_=>rfl
  ·have hp2:TW (unt [c] H) p ps:=(a0p pc).trans hp;have h0:ps[i]?=some (ps.getD i 0):=by rw[b5B,b5z hi];rfl
   refine⟨_,rfl,_,rfl,p,_,_,_,rfl,rfl,SqT.of hp2,a3d h0,_,rfl,(by show 2<=sizeLine;decide),λt2 ht2 hn=>?_⟩;exact q t2 _ (a2P (a0c ht2 _)) (a4E hn a0b)
def b0k:Expr:=match a0H b2b with
 | [.Assign _ (.Call _ _ [⟨_,e,_⟩] _) _,_]=>e
 | _=>.Constant .none 0 ⟨0,0,0,0⟩
def lamP2:Arguments:=match b0k with | .Lambda p _ _ _=>p|_=>a0N b2b
def lamB2:Expr:=match b0k with | .Lambda _ b _ _=>b|e=>e
def b0l:Scope:=match b0k with | .Lambda _ _ s _=>s|_=>a0d b2b
def b4G:Pos:=match b0k with | .Lambda _ _ _ p=>p|_=>⟨0,0,0,0⟩
abbrev b2f:Str:=(("in_own_order":Str)++".<locals>.")++"<lambda>"
abbrev lamK2 (c:Addr) (c':Addr) (pm ctv:Value):Obj:=PySem.W.kla_obj "<lambda>" b2f lamP2 lamB2 b0l [("weights",c)] pm c' ctv
example:b0k=.Lambda lamP2 lamB2 b0l b4G:=rfl
theorem scLam2 (c:Addr):a1W b0l ["thing"] [("weights",c)]:=⟨rfl,rfl,rfl,(by show(["thing","weights"]:List Str).Nodup;decide +kernel),by decide +kernel,by decide +kernel,(by show ∀y∈b0l.names,y.2=.free->y.1∈(["weights"]:List Str);decide +kernel),(by show ∀x∈(["weights"]:List Str),b0l.names.lookup x=some .free;decide +kernel)⟩
def lamR2:Addr->List V->Hp->VK->Prop:=λg vs H Q=>∃(c c':Addr) (pm ctv:Value) (o:Obj) (u:Value) (p:Addr) (ps:List Int) (i:Nat),H g=some (exA g (lamK2 c c' pm ctv))/\H c'=some (cdA c' b2f)/\H c=some (exA c o)/\o.data=.cell (some u)/\a0Q (.ref p) u/\vs=[.int (i:Int)]/\TW H p ps/\i<ps.length /\
 ∀t H',a0m H H'->H' t=some (.tup [.int (-ps.getD i 0),.int (i:Int)])->Q (.ref t) H'
theorem b4H:a3F P w K mg base 1 lamR2 where
 at':=λ⟨c,c',pm,ctv,o,u,p,ps,i,e,_⟩=>⟨_,_,_,_,e⟩
 run:=λA outer s H g us vs Q hr e0 r' h=>by
  obtain⟨c,c',pm,ctv,o,u,p,ps,i,eg,ec',ecc,hd,rv,rfl,hp,hi,q⟩:=h;have lu:us.length=1:=by rw[<-r'.length];rfl
  have pc:p∉[c]:=λz=>by
   rw[b5C.mp z] at hp;exact absurd (b5U (hp.symm.trans ecc)) (by intro z;cases z)
  refine a2p (k:=0) (cvs:=[.ref p]) (scLam2 c) hr e0 eg ec' (by simp) (λj x c0 hj=>?_) rfl r' rfl ?_ λxe hr'=>⟨_,a0Z (a0a (a5T a2S (pxA (ixT K) (pv 1) (pv 0))) (a0a (pv 0) a0f)),?_⟩
  ·cases j with
   | zero =>
    have hj:(("weights":Str),c)=(x,c0):=b5U hj;cases hj;exact⟨o,u,.ref p,ecc,hd,rfl,rv⟩
   | succ j=>simp at hj
  ·match us,lu with
   | [u1],_=>rfl
  ·have hp2:TW (unt [c] H) p ps:=(a0p pc).trans hp;have h0:ps[i]?=some (ps.getD i 0):=by rw[b5B,b5z hi];rfl
   refine⟨_,rfl,_,rfl,p,_,_,_,rfl,rfl,SqT.of hp2,a3d h0,_,rfl,_,rfl,(by show 2<=sizeLine;decide),λt2 ht2 hn=>?_⟩;exact q t2 _ (a2P (a0c ht2 _)) (a4E hn a0b)
def b4I (H H':Hp):Prop:=∀a o,(∀ps,o≠.tbl ps)->H a=some o->H' a=some o
abbrev Tbs:=List (Addr × Pos × Str)
def Tb (S:Tbs) (H:Hp):Prop:=∀t∈S,a1C H t.1 t.2.1 t.2.2
def Dst (S:Tbs):Prop:=∀t∈S,∀u∈S,t.1=u.1->t=u
structure Kp (S:Tbs) (H H':Hp):Prop where
 sm:b4I H H'
 tb:Tb S H'
theorem Kp.of (t:Tb S H) (s:a0m H H'):Kp S H H':=⟨λa o _ e=>s a o e,λu hu=>a1X s (t u hu)⟩
theorem Kp.trans (a:Kp S H H1) (b:Kp S H1 H2):Kp S H H2:=⟨λx o n e=>b.sm x o n (a.sm x o n e),b.tb⟩
theorem Kp.then (a:Kp S H H1) (b:a0m H1 H2):Kp S H H2:=a.trans (.of a.tb b)
theorem Kp.tup (k:Kp S H H') (e:H a=some (.tup xs)):H' a=some (.tup xs):=k.sm _ _ (by intro _ z;cases z) e
theorem Kp.lst (k:Kp S H H') (e:H a=some (.lst xs)):H' a=some (.lst xs):=k.sm _ _ (by intro _ z;cases z) e
theorem b4J (ne:T'≠T) (x:a1C H T lpos q) (L:LamH H H2 T lpos q c' g o) (y:a1C H T' lpos' q'):a1C H2 T' lpos' q':=by
 obtain⟨qs,hT⟩:=a3U x;rcases y with e|⟨c,e,ec⟩
 ·exact .inl (L.ot _ _ ne e)
 ·exact .inr ⟨c,L.ot _ _ ne e,L.ot _ _ (a0r ec hT (by intro z;cases z)) ec⟩
theorem b0m (x:a1C H T lpos q) (L:LamH H H2 T lpos q c' g o):b4I H H2:=λa u n e=>by
 obtain⟨qs,hT⟩:=a3U x;exact L.ot a u (a0r e hT (n qs)) e
theorem Kp.lam (nd:Dst S) (m:(T,lp,q)∈S) (t:Tb S H) (L:LamH H H2 T lp q c' g o):Kp S H H2:=⟨b0m (t _ m) L,λu hu=>by
 by_cases e:u.1=T
 ·rw[nd u hu _ m e];exact .inr ⟨c',L.tb,L.cd⟩
 ·exact b4J e (t _ m) L (t u hu)⟩
structure b1f (K:PySem.W.Frag) (mg:Str->Option Value) (base:Heap) (c0 T bm:Addr):Prop where
 hd:PySem.W.codeHdIn K c0 T=true
 hbm:mg "__builtins__"=some (.ref bm)
 bo:∃o,base.get? bm=some o/\o.cls=.type "module"/\o.dict=some builtinsNs/\o.data=.plain
 b1:bm≠builtinsNs
 b2:bm≠mainGlobals
 b3:bm≠T
 b4:mainGlobals≠T
abbrev NCl:List Str:=["prices"]
def kc (ps:List Int) (i:Nat):List Int:=[ps.getD i 0,(i:Int)]
theorem a7v (n:Nat) (h:∀i j,ks i=ks j->i=j):((List.range n).map ks).Nodup:=by
 rw[List.Nodup,b6k];exact c0P (λ{a b} (ne:a≠b) e=>ne (h a b e)) b8C
theorem kc_inj (ps:List Int) (i j:Nat) (h:kc ps i=kc ps j):i=j:=by
 unfold kc at h;have:=(b7O (b7O h).2).1;omega
def spCl (S:Tbs):Sp:=λvs H Q _=>∃(p:Addr) (ps:List Int),vs=[.ref p]/\TW H p ps/\ps.length<=6/\Tb S H /\
 ∀(d:Addr) (pm:List Nat) H',Kp S H H'->H' d=some (.lst (pm.map λi:Nat=>V.int (i:Int)))->pm.Perm (List.range ps.length)->(pm.map (kc ps)).Pairwise Lx->Q (.ref d) H'
theorem scCl:a0l NCl NCl (a0d a1T):=fsk
theorem b2g (F:Fun K "cheap_letters" "cheap_letters" a1T f fd) (hcd:fd.code=.ref c0) (LC:b1f K mg base c0 T1 bm) (nd:Dst S) (mT:(T1,b4E,b2e)∈S) (ml:mg "len"=none) (mS:mg "sorted"=none) (mr:mg "range"=none):a0Y P w K mg base CX0 4 f fd NCl (spCl S):=by
 refine F.okC (k:=3) scCl (λvs H Q E h=>?_) (λA outer s H vs Q E hr h=>?_)
 ·obtain⟨p,ps,rfl,_⟩:=h;rfl
 obtain⟨p,ps,rfl,hp,l6,tab,q⟩:=h;have LM:a8l (a4S CX0 P w K mg base NCl "cheap_letters" (a0d a1T) f fd.code A outer s H E).nox c0 T1 bm:=⟨hcd,LC.hd,LC.hbm,LC.bo,LC.b1,LC.b2,LC.b3,LC.b4⟩
 have hcl:a2h (a4S CX0 P w K mg base NCl "cheap_letters" (a0d a1T) f fd.code A outer s H E).nox [("prices",s.heap.objs.size+1)]:=⟨λq hq=>by rw[b5C.mp hq];rfl,λq hq=>rfl,λq hq=>by rw[b5C.mp hq];rfl⟩
 refine⟨_,a0i (a0q (a5F (Rg:=RgC _ [("prices",s.heap.objs.size+1)] lamR1) (λσ=>a8m.cells b4F hr hcl) rfl (by rfl) mS (by rfl) mr (a0a (pln ml (pv 0)) a0f) (a2f (a5u LM (clos:=[("prices",s.heap.objs.size+1)]) rfl) a3H))),?_⟩;refine⟨_,rfl,p,_,rfl,.inr (SqT.of hp),ps.length,by rw[b5x],by omega,tab _ mT,λc' pm ctv g H2 LH=>?_⟩;have k2:Kp S H H2:=Kp.lam nd mT tab LH;have hp2:=k2.tup hp;refine⟨g,kc ps,rfl,λi H3 Q1 hi s3 q1=>?_,a7v _ (kc_inj ps),λi _ z=>(by cases z),λd pl H' s' g' perm pw=>q d pl H' (k2.then s') g' perm pw⟩;intro os hos hnn;have hn:H3 (s.heap.objs.size+1)=none:=hnn _ (by simp);obtain⟨u,hu1,hu2⟩:=hos 0 0 "prices" (s.heap.objs.size+1) (.ref p) rfl rfl rfl;have lob:=LH.ob;generalize s.heap.objs.size+1=c at hn hu1 lob ⊢;have st':a0m H3 (trk' [c] os H3):=λb o e=>by
  rw[a0O (λy=>by rw[b5C.mp y,hn] at e;cases e)];exact e
 have ecc:trk' [c] os H3 c=some (exA c (os c)):=a5v (by simp);refine⟨c,c',pm,ctv,os c,u,p,ps,i,st' _ _ (s3 _ _ lob),st' _ _ (s3 _ _ LH.cd),ecc,hu1,hu2,rfl,st' _ _ (s3 _ _ hp2),hi,λt H4 s4 h4=>⟨λb hb=>?_,q1 t _ (λb o e=>?_) ?_⟩⟩
 ·rw[b5C.mp (show b∈[c] from hb)];exact s4 _ _ ecc
 ·have hb:b∉[c]:=λy=>by rw[b5C.mp y,hn] at e;cases e
  show unt [c] H4 b=_;rw[a0p hb];exact s4 _ _ (st' _ _ e)
 ·have hb:t∉[c]:=λy=>by
   rw[b5C.mp y,s4 _ _ ecc] at h4;cases h4
  show unt [c] H4 t=_;rw[a0p hb];exact h4
abbrev NOp:List Str:=["prices","word","many","longer"]
abbrev POp:List Str:=["prices","word","many"]
def Lt (L:Nat) (ns:List Int):Prop:=∀z∈ns,(0:Int)<=z/\z<(L:Int)
def pc (ps:List Int) (u:List Int):Int:=(u.map λx=>ps.getD x.toNat 0).sum
def al (m x:Int):Bool:=decide (0<=x)&&decide (x<m)
def alone (m:Int) (ns:List Int):Bool:=(ns.map (al m)).all id
def b0n:Sp:=λvs H Q _=>∃(x:V) (ns:List Int) (m:Int),vs=[x,.int m]/\Wd H x ns/\ns.length<=1000/\∀H',a0m H H'->Q (.bl (alone m ns)) H'
theorem b4K:a0l ["word","letters"] ["word","letters"] (a0d a7q):=fsk
theorem ndA:(("letter":Str)::["word","letters"]).Nodup:=by decide +kernel
theorem b2h (F:Fun K "has_letters_alone" "has_letters_alone" a7q f fd) (ma:mg "all"=none):a0Y P w K mg base CX0 1 f fd ["word","letters"] b0n:=by
 refine F.ok (k:=0) b4K (λvs H Q E h=>?_) (λcdv A outer s H vs Q E hr h=>?_)
 ·obtain⟨x,ns,m,rfl,_⟩:=h;rfl
 obtain⟨x,ns,m,rfl,hx,hl,q⟩:=h;obtain⟨a,rfl,ha⟩:=hx.ti;refine⟨_,a0i (a0q (a0S (b1u rfl) (by rfl) ma b_all (a0a (a4k (M:=["word","letters"]) rfl (cso (a0d a7q) ["word","letters"]) ndA rfl (pv 0) a0F
  (λcl C s0 H0 fp=>⟨a0I,b1m op_le a8U a0g (pv 0) (pv 2)⟩)) a0f))),?_⟩
 refine⟨_,rfl,a,_,rfl,SqT.of ha,λd hd=>?_⟩;refine⟨λk H'=>a0m H H'/\H' d=some (.lst (((ns.take k).map (al m)).map V.bl)),⟨a0c hd _,a0b⟩,λk H' _ hP=>SqT.of (hP.1 _ _ ha),λk x H' hx hP=>?_,λH' hP=>?_⟩
 ·obtain⟨sm,hd'⟩:=hP;rw[b5L] at hx;cases hz:ns[k]? with
  | none=>rw[hz] at hx;cases hx
  | some z =>
   rw[hz] at hx;cases hx;have hk:=(b5E.mp hz).1;have fin:∀b,b=al m z->∃ys,H' d=some (.lst ys)/\ys.length<sizeLine/\(a0m H (upd H' d (.lst (ys++[.bl b])))/\upd H' d (.lst (ys++[.bl b])) d=some (.lst (((ns.take (k+1)).map (al m)).map V.bl))):=λb eb=>by
    refine⟨_,hd',?_,a0n hd sm,?_⟩
    ·rw[b5x,b5x,b5R];exact a0j (by omega)
    ·rw[a0b,b6f,hz,b5H,b5H,eb];rfl
   refine a0y ⟨_,rfl,_,_,rfl,rfl,_,rfl,?_⟩;refine a3D (λc=>?_) (λc=>?_)
   ·refine⟨_,rfl,_,_,rfl,rfl,?_⟩;exact fin _ (by unfold al;rw[c];rfl)
   ·exact fin _ (by unfold al;rw[Bool.eq_false_iff.mpr c];rfl)
 ·obtain⟨sm,hd'⟩:=hP;rw[b5x,b6z] at hd';exact⟨d,_,rfl,hd',q H' sm⟩
theorem a7w (h:alone m ns=true):∀x∈ns,0<=x/\x<m:=λx hx=>by
 have q:=b8B.mp h (al m x) (b9e hx);unfold al at q;simp only[id,b6W,b6K] at q;exact q
theorem b0o:alone m ns=true↔∀x∈ns,0<=x/\x<m:=by
 refine⟨a7w,λh=>?_⟩;unfold alone;rw[b8B];intro b hb;obtain⟨x,hx,rfl⟩:=b5K.mp hb;obtain⟨h1,h2⟩:=h x hx;unfold al;simp[h1,h2]
def spPp:Sp:=λvs H Q _=>∃(x y:V) (ps ns:List Int),vs=[x,y]/\Wd H x ps/\Wd H y ns/\ns.length<=1000/\Lt ps.length ns/\∀H',a0m H H'->Q (.int (pc ps ns)) H'
theorem scPp:a0l ["prices","word"] ["prices","word"] (a0d a4x):=fsk
theorem ndPp:(("letter":Str)::["prices","word"]).Nodup:=by decide +kernel
theorem b0p (F:Fun K "word_price" "word_price" a4x f fd) (G:Fns P w K mg base ["word","letters"] "has_letters_alone" b0n 1) (ml:mg "len"=none) (ms:mg "sum"=none):a0Y P w K mg base CX0 2 f fd ["prices","word"] spPp:=by
 refine F.ok (k:=1) scPp (λvs H Q E h=>?_) (λcdv A outer s H vs Q E hr h=>?_)
 ·obtain⟨x,y,ps,ns,rfl,_⟩:=h;rfl
 obtain⟨x,y,ps,ns,rfl,hx,hy,hl,lt,q1⟩:=h;obtain⟨p,rfl,hp⟩:=hx.ti;obtain⟨a,rfl,ha⟩:=hy.ti;refine⟨_,a0e (a1q (pt_not (pt_val (pcF G hr (a0a (pv 1) (a0a (pln ml (pv 0)) a0f))))) (a0i a5I) a0K)
  (a0i (a0q (a0S (a4j rfl) (by rfl) ms b1w (a0a (a4k (M:=["prices","word"]) rfl (cso (a0d a4x) ["prices","word"]) ndPp rfl (pv 1) a0F
   (λcl C s0 H0 fp=>⟨a0I,pxA (ixT K) (pv 1) (pv 0)⟩)) a0f)))),?_⟩
 refine⟨_,rfl,_,rfl,p,_,rfl,.inr (SqT.of hp),.ref a,ns,_,rfl,Wd.of ha,hl,λH1 s1=>?_⟩;rw[b5x];refine⟨_,rfl,?_⟩;have c1:alone (ps.length:Int) ns=true:=b0o.mpr lt;rw[c1];refine b3S ?_;have hn:=a7w c1;refine⟨_,rfl,a,_,rfl,SqT.of (s1 _ _ ha),λd hd=>?_⟩;refine⟨λk H'=>a0m H1 H'/\H' d=some (.lst (((ns.take k).map λx=>ps.getD x.toNat 0).map V.int)),⟨a0c hd _,a0b⟩,λk H' _ hP=>SqT.of (hP.1 _ _ (s1 _ _ ha)),λk x H' hx hP=>?_,λH' hP=>?_⟩
 ·obtain⟨sm,hd'⟩:=hP;rw[b5L] at hx;cases hz:ns[k]? with
  | none=>rw[hz] at hx;cases hx
  | some z =>
   rw[hz] at hx;cases hx;have hk:=(b5E.mp hz).1;obtain⟨z0,z1⟩:=hn z (b5M hz);obtain⟨n,rfl⟩:∃n:Nat,z=n:=⟨z.toNat,by omega⟩
   have hn':n<ps.length:=by omega
   refine a0y ⟨_,rfl,_,rfl,p,_,_,_,rfl,rfl,SqT.of (sm _ _ (s1 _ _ hp)),a3d (b5z hn'),_,hd',?_,a0n hd sm,?_⟩
   ·rw[b5x,b5x,b5R];exact a0j (by omega)
   ·rw[a0b,b6f,hz,b5H,b5H];simp[b5B,b5z hn']
 ·obtain⟨sm,hd'⟩:=hP;rw[b5x,b6z] at hd';exact⟨d,_,rfl,hd',q1 H' (s1.trans sm)⟩
def wl1 (u:List Int) (a:Nat):List Int:=u++[(a:Int)]
def spOp (S:Tbs):Sp:=λvs H Q _=>∃(p wd:Addr) (ps u:List Int) (m:Nat),vs=[.ref p,.ref wd,.int (m:Int)]/\TW H p ps/\TW H wd u/\ps.length<=6/\m<=ps.length/\Lt ps.length u/\u.length<=100/\Tb S H /\
 ∀(l:Addr) (pm:List Nat) xs H',Kp S H H'->H' l=some (.lst xs)->Paired (RPw H') xs ((pm.take m).map λa=>(pc ps (wl1 u a),wl1 u a))->pm.Perm (List.range ps.length)->(pm.map (kc ps)).Pairwise Lx->Q (.ref l) H'
theorem scOp:a0l NOp POp (a0d a3m):=fsk
theorem ndOp1:(("letter":Str)::NOp).Nodup:=by decide +kernel
theorem ndOp2:(("one":Str)::NOp).Nodup:=by decide +kernel
theorem RPw.upd {x:V} (hd:H d=some (.lst ls)) (h:RPw H x q):RPw (upd H d (.lst ls')) x q:=by
 obtain⟨t,u,rfl,ht,hu⟩:=h;exact⟨t,u,rfl,by rw[a0h (a0r ht hd (by intro z;cases z))];exact ht,Wd.upd hd hu⟩
theorem b0q (F:Fun K "opened" "opened" a3m f fd) (GC:Fns P w K mg base NCl "cheap_letters" (spCl S) 4) (GP:Fns P w K mg base ["prices","word"] "word_price" spPp 4):a0Y P w K mg base CX0 5 f fd POp (spOp S):=by
 refine F.ok (k:=4) scOp (λvs H Q E h=>?_) (λcdv A outer s H vs Q E hr h=>?_)
 ·obtain⟨p,wd,ps,u,m,rfl,_⟩:=h;rfl
 obtain⟨p,wd,ps,u,m,rfl,hp,hw,l6,ml,lt,l100,tab,q⟩:=h;refine⟨_,a0e (b1H (i:=3) (M:=NOp) scOp.nd rfl rfl rfl (cso (a0d a3m) NOp) ndOp1 rfl (a2l (a1o a4g (pcF GC hr (a0a (pv 0) a0f)) a1O (a1P (pv 2)))) a2m (λcl C s0 H0 fp=>⟨a0I,a0o a3b (pv 2) (a0Z (a0a (pv 0) a0f))⟩))
   (a0i (a0q (a1A (M:=NOp) rfl (cso (a0d a3m) NOp) ndOp2 rfl (pv 3) a0F (λcl C s0 H0 fp=>⟨a0I,a0Z (a0a (pcF GP hr (a0a (pv 1) (a0a (pv 0) a0f))) (a0a (pv 0) a0f))⟩)))),?_⟩
 refine⟨λvv H1=>∃(e:Addr) (pm:List Nat),vv=.ref e/\Kp S H H1/\H1 e=some (.lst ((pm.take m).map λi:Nat=>V.int (i:Int)))/\pm.Perm (List.range ps.length)/\(pm.map (kc ps)).Pairwise Lx,?_,λvv H1 hv=>?_⟩
 ·refine⟨_,rfl,p,ps,rfl,hp,l6,tab,λd pm H' kp g' perm pw=>?_⟩;refine⟨_,rfl,_,rfl,d,_,rfl,SqL.of g',λe he=>⟨e,pm,rfl,kp.then (a0c he _),?_,perm,pw⟩⟩;rw[a0b,a6X,c0f]
 obtain⟨e,pm,rfl,k1,g1,perm,pw⟩:=hv;have lpm:pm.length=ps.length:=by rw[perm.length_eq,b5V]
 have ltk:(pm.take m).length=m:=by rw[b5R];omega
 have ndt:(pm.take m).Nodup:=(perm.nodup_iff.mpr b8C).sublist (c0G _ _);have mem:∀a∈pm.take m,a<ps.length:=λa ha=>b6F.mp (perm.mem_iff.mp (b6V ha));have q:=λl=>q l pm;generalize pm.take m=ls at g1 ltk ndt mem q;have hp1:=k1.tup hp;have hw1:=k1.tup hw;refine⟨e,_,rfl,SqL.of g1,λd hd=>?_⟩;refine⟨λi H'=>a0m H1 H'/\∃ys,H' d=some (.lst ys)/\Ws H' ys ((ls.take i).map (wl1 u)),⟨a0c hd _,[],a0b,.nil⟩,λi H' _ hP=>SqL.of (hP.1 _ _ g1),λi x H' hx hP=>?_,λH5 hP=>?_⟩
 ·obtain⟨s5,ys,g5,w5⟩:=hP;have il:=(b5E.mp hx).1;rw[b5x] at il;rw[b5L] at hx;obtain⟨a,ha,rfl⟩:=b6H.mp hx;refine a0y ⟨_,rfl,_,rfl,(by show 1<=sizeLine;decide),λt ht=>?_⟩;have s6:=a0c ht (.tup [.int (a:Int)]);have g6:L2.upd H' t (.tup [.int (a:Int)]) t=some (.tup [.int (a:Int)]):=a0b;generalize L2.upd H' t (.tup [.int (a:Int)])=H6 at s6 g6 ⊢;refine⟨wd,t,_,_,rfl,rfl,s6 _ _ (s5 _ _ hw1),g6,?_,λp9 H9 s9 hp9=>?_⟩
  ·rw[b5x];exact b7n (a0j (by show u.length+1<=1000;omega))
  have s69:=s6.trans s9;have g9:=s69 _ _ g5;refine⟨ys,g9,a0j (by rw[w5.length,b5x,b5R];omega),a0n hd (s5.trans s69),_,a0b,?_⟩;rw[b6f,ha,b5H];exact Paired.appendP (Ws.upd g9 (w5.same s69)) (.cons (Wd.upd g9 (Wd.of (w:=wl1 u a) (by show H9 p9=_;rw[hp9];unfold wl1;rw[b5H];rfl))) .nil)
 obtain⟨s5,ys,g5,w5⟩:=hP;rw[b5x,b6z] at w5;have k5:=k1.then s5;have ly:ys.length=ls.length:=by rw[w5.length,b5x]
 refine⟨_,rfl,d,ys,rfl,SqL.of g5,λd2 hd2=>?_⟩;refine⟨λi H'=>a0m H5 H'/\∃zs,H' d2=some (.lst zs)/\Paired (RPw H') zs ((ls.take i).map λa=>(pc ps (wl1 u a),wl1 u a)),⟨a0c hd2 _,[],a0b,.nil⟩,λi H' _ hP=>SqL.of (hP.1 _ _ g5),λi x H' hx hP=>?_,λH6 hP=>?_⟩
 ·obtain⟨s6,zs,g6,w6⟩:=hP;have il:=(b5E.mp hx).1;obtain⟨v,hv,wv⟩:=Paired.right_of w5 i x hx;rw[b5L] at hv;obtain⟨a,ha,rfl⟩:=b6H.mp hv;have am:=mem a (b5M ha);have lt2:Lt ps.length (wl1 u a):=λz hz=>by
   rcases b5W.mp hz with hz|hz
   ·exact lt z hz
   ·rw[b5C.mp hz];omega
  refine a0y ⟨_,rfl,_,rfl,.ref p,x,ps,wl1 u a,rfl,Wd.of (s6 _ _ (s5 _ _ hp1)),Wd.same s6 wv,by unfold wl1;rw[b5J];show u.length+1<=1000;omega,lt2,λH7 s7=>?_⟩;refine⟨_,rfl,(by show 2<=sizeLine;decide),λt ht=>?_⟩;have s8:=a0c ht (.tup [.int (pc ps (wl1 u a)),x]);have g8:L2.upd H7 t (.tup [.int (pc ps (wl1 u a)),x]) t=some (.tup [.int (pc ps (wl1 u a)),x]):=a0b;generalize L2.upd H7 t (.tup [.int (pc ps (wl1 u a)),x])=H8 at s8 g8 ⊢;have s68:=s7.trans s8;have g9:=s68 _ _ g6;refine⟨zs,g9,a0j (by rw[w6.length,b5x,b5R];omega),a0n hd2 (s6.trans s68),_,a0b,?_⟩;rw[b6f,ha,b5H];exact Paired.appendP (Paired.mapP w6 λ_ _ z=>RPw.upd g9 (z.same s68)) (.cons (RPw.upd g9 ⟨t,x,rfl,g8,Wd.same (s6.trans s68) wv⟩) .nil)
 obtain⟨s6,zs,g6,w6⟩:=hP;rw[ly,b6z] at w6;exact q d2 zs H6 (k5.then s6) g6 w6 perm pw
abbrev NOw:List Str:=["weights","words","things"]
abbrev POw:List Str:=["weights","words"]
def ko (ws:List Int) (i:Nat):List Int:=[-ws.getD i 0,(i:Int)]
theorem ko_inj (ws:List Int) (i j:Nat) (h:ko ws i=ko ws j):i=j:=by
 unfold ko at h;have:=(b7O (b7O h).2).1;omega
structure Own (ws:List Int) (us:List (List Int)) (pl:List Nat) (cw:List (List Int)):Prop where
 perm:pl.Perm (List.range ws.length)
 pw:(pl.map (ko ws)).Pairwise Lx
 pu:cw.Perm us
 at_:∀(i t:Nat) u,pl[i]?=some t->us[i]?=some u->cw[t]?=some u
theorem b4L (h:LxP p q):p.1<=q.1:=by
 unfold LxP a3A at h;split at h
 ·rename_i e;exact b8T e
 ·exact Int.le_of_lt (b5X h)
def spOwn (S:Tbs):Sp:=λvs H Q _=>∃(p l:Addr) (ws:List Int) (ys:List V) (us:List (List Int)),vs=[.ref p,.ref l]/\TW H p ws/\H l=some (.lst ys)/\Ws H ys us/\us.length=ws.length/\ws.length<=7/\Tb S H /\
 ∀(t:Addr) zs H' (pl:List Nat) (cw:List (List Int)),Kp S H H'->H' t=some (.tup zs)->Ws H' zs cw->Own ws us pl cw->Q (.ref t) H'
theorem scOw:a0l NOw POw (a0d b2b):=fsk
theorem ndOw:(("thing":Str) :: "word" :: NOw).Nodup:=by decide +kernel
theorem a4F {α β:Type}:∀{xs:List α} {ys:List β},xs.length=ys.length->(xs.zip ys).map Prod.fst=xs
 | [],_,_=>rfl
 | x::xs,[],h=>by cases h
 | x::xs,y::ys,h=>by rw[b8h,b6m,a4F (by simpa using h)]
theorem a6p {α β:Type}:∀{xs:List α} {ys:List β},xs.length=ys.length->(xs.zip ys).map Prod.snd=ys
 | [],[],_=>rfl
 | [],_::_,h=>by cases h
 | x::xs,[],h=>by cases h
 | x::xs,y::ys,h=>by rw[b8h,b6m,a6p (by simpa using h)]
theorem b0r {α β:Type} {qs:List (α × β)} (h:(qs.map Prod.fst).Nodup):qs.Nodup:=by
 rw[List.Nodup,b6k] at h;exact h.imp λne e=>ne (by rw[e])
theorem own_of {n:Nat} {us:List (List Int)} {pl:List Nat} {vs:List (Int × List Int)} (lu:us.length=n) (perm:pl.Perm (List.range n)) (p4:vs.Perm ((pl.map λi:Nat=>(i:Int)).zip us)) (w4:vs.Pairwise LxP):(vs.map Prod.snd).Perm us/\∀(i t:Nat) u,pl[i]?=some t->us[i]?=some u->(vs.map Prod.snd)[t]?=some u:=by
 have lp:(pl.map λi:Nat=>(i:Int)).length=us.length:=by rw[b5x,perm.length_eq,b5V,lu]
 refine⟨?_,λi t u h1 h2=>?_⟩
 ·have:=p4.map Prod.snd;rw[a6p lp] at this;exact this
 have ef:vs.map Prod.fst=(List.range n).map λi:Nat=>(i:Int):=by
  refine a5p ?_ ?_ ?_
  ·have:=p4.map Prod.fst;rw[a4F lp] at this;exact this.trans (perm.map _)
  ·rw[b6k];exact w4.imp b4L
  ·rw[b6k];exact List.pairwise_lt_range.imp λh=>by omega
 have hz:((t:Int),u)∈(pl.map λi:Nat=>(i:Int)).zip us:=by
  refine b5M (i:=i) ?_;rw[b8Z];exact⟨by rw[b5L,h1];rfl,h2⟩
 obtain⟨j,hj⟩:=b7X (p4.mem_iff.mpr hz);have e1:(vs.map Prod.fst)[j]?=some (t:Int):=by rw[b5L,hj];rfl
 rw[ef,b5L] at e1;obtain⟨k,hk,e2⟩:=b6H.mp e1;obtain⟨hl,e3⟩:=b5E.mp hk;rw[b9u] at e3;have:t=j:=by omega
 rw[this,b5L,hj];rfl
theorem ok_own {S:Tbs} {T2 c0 bm:Addr} (F:Fun K "in_own_order" "in_own_order" b2b f fd) (hcd:fd.code=.ref c0) (LC:b1f K mg base c0 T2 bm) (nd:Dst S) (mT:(T2,b4G,b2f)∈S) (ml:mg "len"=none) (mS:mg "sorted"=none) (mr:mg "range"=none) (mz:mg "zip"=none) (mt:mg "tuple"=none):a0Y P w K mg base CX0 4 f fd POw (spOwn S):=by
 refine F.okC (k:=3) scOw (λvs H Q E h=>?_) (λA outer s H vs Q E hr h=>?_)
 ·obtain⟨p,l,ws,ys,us,rfl,_⟩:=h;rfl
 obtain⟨p,l,ws,ys,us,rfl,hp,hl,hW,lu,l7,tab,q⟩:=h;have LM:a8l (a4S CX0 P w K mg base NOw "in_own_order" (a0d b2b) f fd.code A outer s H E).nox c0 T2 bm:=⟨hcd,LC.hd,LC.hbm,LC.bo,LC.b1,LC.b2,LC.b3,LC.b4⟩
 have hcl:a2h (a4S CX0 P w K mg base NOw "in_own_order" (a0d b2b) f fd.code A outer s H E).nox [("weights",s.heap.objs.size+1)]:=⟨λq hq=>by rw[b5C.mp hq];rfl,λq hq=>rfl,λq hq=>by rw[b5C.mp hq];rfl⟩
 refine⟨_,a0e (psA (i:=2) scOw (a5F (Rg:=RgC _ [("weights",s.heap.objs.size+1)] lamR2) (λσ=>a8m.cells b4H hr hcl) rfl (by rfl) mS (by rfl) mr (a0a (pln ml (pv 0)) a0f) (a2f (a5u LM (clos:=[("weights",s.heap.objs.size+1)]) rfl) a3H)))
   (a0i (a0q (a1j a0T (by rfl) mt a2y (a0a (b1I K (M:=NOw) rfl (cso (a0d b2b) NOw) ndOw rfl rfl (a2l (b1O false false rfl (hu4 hr) (by rfl) mS (by rfl) mz (a0a (pv 2) (a0a (pv 1) a0f)))) a2m (λcl C s0 H0 fp pins σ bk=>⟨a0I,pv 1⟩)) a0f)))),?_⟩
 refine⟨_,rfl,p,_,rfl,.inr (SqT.of hp),ws.length,by rw[b5x],by omega,tab _ mT,λc' pm ctv g H2 LH=>?_⟩;have k2:Kp S H H2:=Kp.lam nd mT tab LH;have hp2:=k2.tup hp;refine⟨g,ko ws,rfl,λi H3 Q1 hi s3 q1=>?_,a7v _ (ko_inj ws),λi _ z=>(by cases z),λd pl H3 s3 g3 perm pw=>?_⟩
 ·intro os hos hnn;have hn:H3 (s.heap.objs.size+1)=none:=hnn _ (by simp);obtain⟨u,hu1,hu2⟩:=hos 0 0 "weights" (s.heap.objs.size+1) (.ref p) rfl rfl rfl;have lob:=LH.ob;generalize s.heap.objs.size+1=c at hn hu1 lob ⊢;have st':a0m H3 (trk' [c] os H3):=λb o e=>by
   rw[a0O (λy=>by rw[b5C.mp y,hn] at e;cases e)];exact e
  have ecc:trk' [c] os H3 c=some (exA c (os c)):=a5v (by simp);refine⟨c,c',pm,ctv,os c,u,p,ws,i,st' _ _ (s3 _ _ lob),st' _ _ (s3 _ _ LH.cd),ecc,hu1,hu2,rfl,st' _ _ (s3 _ _ hp2),hi,λt H4 s4 h4=>⟨λb hb=>?_,q1 t _ (λb o e=>?_) ?_⟩⟩
  ·rw[b5C.mp (show b∈[c] from hb)];exact s4 _ _ ecc
  ·have hb:b∉[c]:=λy=>by rw[b5C.mp y,hn] at e;cases e
   show unt [c] H4 b=_;rw[a0p hb];exact s4 _ _ (st' _ _ e)
  ·have hb:t∉[c]:=λy=>by
    rw[b5C.mp y,s4 _ _ ecc] at h4;cases h4
   show unt [c] H4 t=_;rw[a0p hb];exact h4
 have k3:=k2.then s3;have hl3:=k3.lst hl;have hW3:Ws H3 ys us:=Paired.mapP hW λx y z=>by
  obtain⟨a,rfl,ha⟩:=Wd.ti z;exact Wd.of (k3.tup ha)
 have lp:(pl.map λi:Nat=>(i:Int)).length=us.length:=by rw[b5x,perm.length_eq,b5V,lu]
 have e1:(((pl.map λi:Nat=>(i:Int)).zip us).map λq=>V.int q.1)=pl.map λi:Nat=>V.int (i:Int):=by
  rw[show(λq:Int × List Int=>V.int q.1)=V.int ∘ Prod.fst from rfl,<-b6r,a4F lp,b6r];rfl
 have nd:((pl.map λi:Nat=>(i:Int)).zip us).Nodup:=b0r (by
  rw[a4F lp,List.Nodup,b6k];exact(perm.nodup_iff.mpr b8C).imp λne e=>ne (by omega))
 refine⟨λvv H4=>∃(e:Addr) (out:List V) (vs:List (Int × List Int)),vv=.ref e/\a0m H3 H4/\H4 e=some (.lst out)/\Paired (RPw H4) out vs/\vs.length<=7/\(vs.map Prod.snd).Perm us/\∀(i t:Nat) u,pl[i]?=some t->us[i]?=some u->(vs.map Prod.snd)[t]?=some u,?_,λvv H4 hv=>?_⟩
 ·refine⟨_,rfl,_,rfl,d,l,ys,(pl.map λi:Nat=>(i:Int)).zip us,rfl,λ{H'} s'=>?_,λ{H'} s'=>SqL.of (s' _ _ hl3),?_,?_,nd,λe H4 out vs s4 g4 w4 perm4 pw4=>⟨e,out,vs,rfl,s4,g4,w4,?_,own_of lu perm perm4 pw4⟩⟩
  ·rw[e1];exact SqL.of (s' _ _ g3)
  ·rw[a6p lp];exact hW3
  ·rw[c1f];omega
  ·rw[perm4.length_eq,c1f];omega
 obtain⟨e,out,vs,rfl,s4,g4,w4,l4,ow⟩:=hv;have lo:out.length<=7:=by rw[w4.length];exact l4
 refine⟨e,out,rfl,SqL.of g4,λd2 hd2=>?_⟩;refine⟨λi H'=>a0m H4 H'/\∃ys,H' d2=some (.lst ys)/\Ws H' ys ((vs.map Prod.snd).take i),⟨a0c hd2 _,[],a0b,.nil⟩,λi H' _ hP=>SqL.of (hP.1 _ _ g4),λi x H' hx hP=>?_,λH5 hP=>?_⟩
 ·obtain⟨s5,ys,g5,w5⟩:=hP;obtain⟨q0,hq0',t0,u,rfl,ht0,hu⟩:=Paired.right_of w4 i x hx;have li:=(b5E.mp hx).1;refine⟨t0,_,_,rfl,SqT.of (s5 _ _ ht0),?_⟩;unfold a9p a9k;refine iteT ⟨_,rfl,ys,g5,a0j (by rw[w5.length,b5R];omega),a0n hd2 s5,_,a0b,?_⟩;rw[b6f,b5L,hq0'];exact Paired.appendP (Ws.upd g5 w5) (.cons (Wd.upd g5 (Wd.same s5 hu)) .nil)
 obtain⟨s5,ys',g5,w5⟩:=hP;rw[w4.length,<-b5x (f:=Prod.snd),b6z] at w5;refine⟨d2,_,rfl,.inl ⟨SqL.of g5,λt ht=>q t _ _ pl _ ((k3.then (s4.trans s5)).then (a0c ht _)) a0b (w5.same (a0c ht _)) ⟨perm,pw,ow.1,ow.2⟩⟩⟩
theorem a6q (ws:List Int) (r:Rw):(fin ws r).1=r.1:=by unfold fin;split<;>rfl
theorem a7x (ws:List Int) (r:Rw):(fin ws r).2.2.1=r.2.1:=by unfold fin;split<;>rfl
theorem a6r (ws:List Int) (r:Rw):(fin ws r).2.2.2.length=r.2.2.length:=by
 unfold fin;split
 ·rename_i h;rw[h]
 ·show(r.2.2.map _).length=_;rw[b5x]
theorem b3h (e:r.2.2=srt xs) (b:Bw xs):Bw (fin ws r).2.2.2:=by
 unfold fin;split
 ·intro x hx;cases hx
 ·intro x hx;have hx:x∈r.2.2.map (·-r.2.2.headD 0):=hx;obtain⟨y,hy,rfl⟩:=b5K.mp hx;have by1:0<=y/\y<=B30:=b y ((a0v xs).mem_iff.mp (by rw[<-e];exact hy));have rise:=a0V xs;rw[<-e] at rise;cases hr:r.2.2 with
  | nil=>rw[hr] at hy;cases hy
  | cons a t =>
   rw[hr] at hy rise;have ba:0<=a:=(b a ((a0v xs).mem_iff.mp (by rw[<-e,hr];exact .head _))).1;have ay:a<=y:=by
    rcases b5Q.mp hy with rfl|hy
    ·exact b8l _
    ·exact(b6E.mp rise).1 y hy
   show 0<=y-a/\y-a<=B30;omega
theorem a3n:∀{n:Nat},r∈rws ps ws st gs n↔r∈rw1 ws st gs\/∃i,i<n/\r∈rw2 ps ws st gs (i+2)
 | 0=>by
  show r∈rw1 ws st gs↔_;exact⟨.inl,λh=>h.elim id λ⟨i,hi,_⟩=>absurd hi (by omega)⟩
 | n+1=>by
  show r∈rws ps ws st gs n++rw2 ps ws st gs (n+2)↔_;rw[b5W,a3n];constructor
  ·rintro((h|⟨i,hi,h⟩)|h)
   ·exact .inl h
   ·exact .inr ⟨i,by omega,h⟩
   ·exact .inr ⟨n,by omega,h⟩
  ·rintro(h|⟨i,hi,h⟩)
   ·exact .inl (.inl h)
   ·by_cases e:i=n
    ·subst e;exact .inr h
    ·exact .inl (.inr ⟨i,by omega,h⟩)
theorem a1d:nb∈lawf L n st kn↔(nb=0/\(1<kn\/(kn=1/\st=n-1)))\/∃i:Nat,i<L-1/\nb=2+(i:Int)/\0<kn/\st+kn-1+nb<=n:=by
 unfold lawf;rw[b5W,b9n,b5K];constructor
 ·rintro(h|⟨⟨i,hi,rfl⟩,h⟩)
  ·split at h
   ·rename_i c;unfold b5t at c;simp only[c0t,b6W,b6K] at c;exact .inl ⟨b5C.mp h,c⟩
   ·cases h
  ·unfold b4D at h;simp only[b6W,b6K] at h;exact .inr ⟨i,b6F.mp hi,rfl,h⟩
 ·rintro(⟨rfl,h⟩|⟨i,hi,rfl,h⟩)
  ·left;have c:b5t n st kn=true:=by
    unfold b5t;simp only[c0t,b6W,b6K];exact h
   rw[if_pos c];exact .head _
  ·right;refine⟨⟨i,b6F.mpr hi,rfl⟩,?_⟩;unfold b4D;simp only[b6W,b6K];exact h
structure Iv (n:Nat) (st kn:Int):Prop where
 s0:0<=st
 k0:0<=kn
 sk:st+kn<=n
 e0:kn=0->st=n
theorem Iv.step (h:Iv n st kn) (hm:nb∈lawf L n st kn):Iv n (nx st nb) (kn-1+nb)/\1<=kn/\0<=nb/\nb<=L:=by
 obtain⟨s0,k0,sk,e0⟩:=h;rcases a1d.mp hm with ⟨rfl,c⟩|⟨i,hi,rfl,c1,c2⟩
 ·have e:nx st 0=st+1:=by unfold nx;rw[if_pos rfl]
  rw[e];exact⟨⟨by omega,by omega,by omega,λz=>by omega⟩,by omega,by omega,by omega⟩
 ·have e:nx st (2+(i:Int))=st:=by unfold nx;rw[if_neg (by omega)];omega
  rw[e];exact⟨⟨by omega,by omega,by omega,λz=>by omega⟩,by omega,by omega,by omega⟩
theorem b4M (l2:2<=ps.length) (h:Iv ws.length st gs.length) (bg:Bw gs) (bp:Bw ps) (hr:r∈rws ps ws st gs (ps.length-1)) :
  r.1∈lawf ps.length ws.length st gs.length/\r.2.1=nx st r.1/\(r.2.2.length:Int)=(gs.length:Int)-1+r.1/\∃xs,r.2.2=srt xs/\Bw xs:=by
 obtain⟨s0,k0,sk,e0⟩:=h;have bt:Bw gs.tail:=λx hx=>bg x (List.mem_of_mem_tail hx);rcases a3n.mp hr with hr|⟨i,hi,hr⟩
 ·unfold rw1 at hr;split at hr
  ·rename_i c;rw[b5C.mp hr];have k1:1<=gs.length:=by omega
   refine⟨a1d.mpr (.inl ⟨rfl,by omega⟩),(by show st+1=nx st 0;unfold nx;rw[if_pos rfl]),?_,gs.tail,rfl,bt⟩;show((srt gs.tail).length:Int)=_;rw[a0P,b8E];show((gs.length-1:Nat):Int)=(gs.length:Int)-1+0;omega
  ·cases hr
 ·unfold rw2 at hr;split at hr
  ·rename_i c;rw[b5C.mp hr];have k1:1<=gs.length:=by
    rcases Nat.eq_zero_or_pos gs.length with z|z
    ·have:=e0 (by omega);omega
    ·exact z
   refine⟨a1d.mpr (.inr ⟨i,hi,by show((i+2:Nat):Int)=_;omega,by omega,c⟩),?_,?_,_,rfl,λx hx=>?_⟩
   ·show st=nx st ((i+2:Nat):Int);unfold nx;rw[if_neg (by omega)];omega
   ·show((srt (gs.tail++(srt ps).take (i+2))).length:Int)=(gs.length:Int)-1+((i+2:Nat):Int)
    rw[a0P,b5J,b8E,b5R,a0P];omega
   ·rcases b5W.mp hx with z|z
    ·exact bt x z
    ·exact bp x ((a0v ps).mem_iff.mp (b6V z))
  ·cases hr
theorem mv_ex (h:Iv ws.length st gs.length) (hm:nb∈lawf ps.length ws.length st gs.length):∃r∈rws ps ws st gs (ps.length-1),r.1=nb:=by
 obtain⟨s0,k0,sk,e0⟩:=h;rcases a1d.mp hm with ⟨rfl,c⟩|⟨i,hi,rfl,c1,c2⟩
 ·refine⟨(0,st+1,srt gs.tail),a3n.mpr (.inl ?_),rfl⟩;unfold rw1;rw[if_pos (by omega)];exact .head _
 ·refine⟨(((i+2:Nat):Int),st,srt (gs.tail++(srt ps).take (i+2))),a3n.mpr (.inr ⟨i,hi,?_⟩),by show((i+2:Nat):Int)=_;omega⟩;unfold rw2;rw[if_pos (by omega)];exact .head _
abbrev NLe:List Str:=["prices","weights","frontier","number","move"]
abbrev PLe:List Str:=["prices","weights","frontier","number"]
def spLed (K:PySem.W.Frag):Sp:=λvs H Q _=>∃(p q fr g:Addr) (ps ws gs:List Int) (st nb:Int),vs=[.ref p,.ref q,.ref fr,.int nb]/\Ask K H p q fr g ps ws gs st /\
 (∃m∈mvs ps ws st gs,m.1=nb) /\
 (∀m∈mvs ps ws st gs,m.1=nb->∀(f2 g2:Addr) H',a0m H H'->H' f2=some (.tup [.int m.2.2.1,.ref g2])->TW H' g2 m.2.2.2->Q (.ref f2) H')
theorem scLe:a0l NLe PLe (a0d sLed):=fsk
theorem ok_led (F:Fun K "led_to" "led_to" sLed f fd) (GM:Fns P w K mg base ["prices","weights","frontier"] "moves" (a4D K) 3):a0Y P w K mg base CX0 4 f fd PLe (spLed K):=by
 refine F.ok (k:=3) scLe (λvs H Q E h=>?_) (λcdv A outer s H vs Q E hr h=>?_)
 ·obtain⟨p,q,fr,g,ps,ws,gs,st,nb,rfl,_⟩:=h;rfl
 obtain⟨p,q,fr,g,ps,ws,gs,st,nb,rfl,ak,⟨m0,hm0,em0⟩,qQ⟩:=h;refine⟨_,a0e (a1r b6Q rfl (a2c (pcF GM hr (a0a (pv 0) (a0a (pv 1) (a0a (pv 2) a0f))))) (pgA (i:=4) scLe)
   (a0i (a1q (a0D a2d (pxA a1I (pv 4) a0g) (pv 3) (nomark _)) (a0i (a0q (pxA a1I (pv 4) a0g))) a0K)))
   (a0i a5I),?_⟩
 refine⟨_,rfl,_,rfl,_,rfl,p,q,fr,g,ps,ws,gs,st,rfl,ak,λl H1 xs s1 hl g1 m1=>?_⟩;refine⟨l,rfl,⟨_,SqL.of g1⟩,?_⟩;refine a2J (xs:=xs) (λi σ H'=>H'=H1/\(∀m∈(mvs ps ws st gs).take i,m.1≠nb)/\∃x4:Option V,σ=[some (.ref p),some (.ref q),some (.ref fr),some (.int nb),x4]) ⟨rfl,λm hm=>(by rw[b9I] at hm;cases hm),_,rfl⟩ (λi σ H' _ hP=>by rw[hP.1];exact SqL.of g1) (λi x σ H2 hx hP=>?_) (λσ H2 hP=>?_)
 ·obtain⟨rfl,hn,x4,rfl⟩:=hP;obtain⟨m,hm,mv⟩:=Paired.right_of m1 i x hx;obtain⟨a,y,z,t,rfl,ea,rfl,rfl,a2,u,v,rfl,e2,rfl,hv⟩:=mv;refine⟨_,rfl,a,_,_,_,rfl,rfl,SqT.of ea,rfl,_,rfl,rfl,_,rfl,?_⟩;refine a3D (λc=>?_) (λc=>?_)
  ·have c1:m.1=nb:=V.int.inj (b5X c);obtain⟨b,rfl,hb⟩:=Wd.ti hv;exact⟨_,rfl,a,_,_,_,rfl,rfl,SqT.of ea,rfl,qQ m (b5M hm) c1 a2 b H2 s1 e2 hb⟩
  ·have c1:m.1≠nb:=λz=>c (b6b (by rw[z]));refine⟨rfl,λm' hm'=>?_,_,rfl⟩;rw[b6f,hm] at hm';rcases b5W.mp hm' with z|z
   ·exact hn m' z
   ·rw[b5C.mp z];exact c1
 ·obtain⟨rfl,hn,x4,rfl⟩:=hP;rw[m1.length,b6z] at hn;exact hn m0 hm0 em0
def mv (ps ws:List Int) (st:Int) (gs:List Int) (nb:Int):Mv:=fin ws (nb,nx st nb,srt (gs.tail++(srt ps).take nb.toNat))
def spR (ps ws:List Int):List Int->Int->List Int->Int
 | [],_,_=>0
 | r::rs,st,gs=>(mv ps ws st gs r).2.1+spR ps ws rs (mv ps ws st gs r).2.2.1 (mv ps ws st gs r).2.2.2
theorem rw_eq (hr:r∈rws ps ws st gs (ps.length-1)):r=(r.1,nx st r.1,srt (gs.tail++(srt ps).take r.1.toNat)):=by
 rcases a3n.mp hr with hr|⟨i,hi,hr⟩
 ·unfold rw1 at hr;split at hr
  ·rw[b5C.mp hr];show _=((0:Int),nx st 0,srt (gs.tail++(srt ps).take (0:Int).toNat))
   rw[show(0:Int).toNat=0 from rfl,b9I,b6B];unfold nx;rw[if_pos rfl]
  ·cases hr
 ·unfold rw2 at hr;split at hr
  ·rw[b5C.mp hr];show _=(((i+2:Nat):Int),nx st ((i+2:Nat):Int),srt (gs.tail++(srt ps).take ((i+2:Nat):Int).toNat))
   rw[show((i+2:Nat):Int).toNat=i+2 from rfl];unfold nx;rw[if_neg (by omega),c0y]
  ·cases hr
theorem b3i (h:m∈mvs ps ws st gs):m=mv ps ws st gs m.1:=by
 obtain⟨r,hr,rfl⟩:=b5K.mp h;rw[a6q];unfold mv;rw[<-rw_eq hr]
theorem mv_eq {ps ws P R:List Int} (pm:P.Perm (c::R)) (le:∀x∈R,c<=x) :
  mv ps ws st (gaps P) nb=(nb,(if R++((srt ps).take nb.toNat).map (c+·)=[] then 0 else ((srt (R++((srt ps).take nb.toNat).map (c+·))).headD 0-c)*wl ws (nx st nb)),(nx st nb,gaps (R++((srt ps).take nb.toNat).map (c+·)))):=by
 unfold mv;rw[a9V pm le];generalize R++((srt ps).take nb.toNat).map (c+·)=N;unfold fin;by_cases e:N=[]
 ·rw[if_pos e,e,a2k.mpr rfl];unfold gaps;rw[a2k.mpr rfl];rfl
 ·have e1:srt N≠[]:=λz=>e (a2k.mp z);rw[if_neg e];cases h:srt N with
  | nil=>exact absurd h e1
  | cons x t =>
   rw[if_neg (by intro z;cases z)];show(nb,(x-c)*_,_,_)=(nb,(x-c)*_,_,_)
   have g:=(a9W (N:=N) (c:=c)).resolve_right e;rw[h] at g;rw[<-g]
structure b1g (ps:List Int) (pm:List Nat):Prop where
 perm:pm.Perm (List.range ps.length)
 pw:(pm.map (kc ps)).Pairwise Lx
theorem lx2 (h:Lx [a,b] [c,d]):a<=c/\(a=c->b<d):=by
 unfold Lx at h;rw[HT.a0L] at h;split at h
 ·rename_i e;rw[HT.a0L] at h;split at h
  ·cases h
  ·exact⟨by omega,λ_=>b5X h⟩
 ·have:=b5X h;exact⟨by omega,λz=>by omega⟩
theorem a3o (ps:List Int):(List.range ps.length).map (λa=>ps.getD a 0)=ps:=by
 refine b7u (by simp) λi h1 h2=>?_;simp[b5B,b5z h2]
theorem b1g.prices (h:b1g ps pm):pm.map (λa=>ps.getD a 0)=srt ps:=by
 refine a3f ?_ ?_
 ·have:=h.perm.map (λa=>ps.getD a 0);rw[a3o] at this;exact this
 ·have:=h.pw;rw[b6k] at this ⊢;exact this.imp λz=>(lx2 z).1
theorem b1g.nd (h:b1g ps pm):pm.Nodup:=h.perm.nodup_iff.mpr b8C
theorem b1g.len (h:b1g ps pm):pm.length=ps.length:=by rw[h.perm.length_eq,b5V]
theorem b1g.lt (h:b1g ps pm) (ha:a∈pm.take m):a<ps.length:=b6F.mp (h.perm.mem_iff.mp (b6V ha))
theorem PF.open {u:List Int} {ws:List (List Int)} {ls:List Nat} (h:PF (u::ws)) (nd:ls.Nodup):PF (ws++ls.map (wl1 u)):=by
 obtain⟨h1,h2⟩:=b6E.mp h;refine b7x.mpr ⟨h2,?_,λa ha b hb=>?_⟩
 ·rw[b6k];exact c0P (λ{a b} (ne:a≠b)=>a2H.sib (by omega)) nd
 ·obtain⟨k,_,rfl⟩:=b5K.mp hb;exact((h1 a ha).ext (k:Int)).symm
theorem PF.nd (h:PF ws):ws.Nodup:=by
 refine c0P (R:=a2H) ?_ h;intro a b ap e;exact ap.1 (by rw[e];exact List.prefix_rfl)
abbrev Kq:=List (Int × List Int)
def opn (ps u:List Int) (ls:List Nat):Kq:=ls.map λa=>(pc ps (wl1 u a),wl1 u a)
structure Rn (ps ws rs rest:List Int) (st:Int) (gs:List Int) (kq:Kq) (us:List (List Int)):Prop where
 pr:∀z∈kq,z.1=pc ps z.2
 gp:gs=gaps (kq.map Prod.fst)
 ln:(us.length:Int)=st
 sp:spR ps ws rs 0 [0]=due ws (us.map (pc ps))+(srt (kq.map Prod.fst)).headD 0*left ws us.length+spR ps ws rest st gs
 up:(us.map (pc ps)).Pairwise (·<=·)
 lo:∀z∈kq,∀u∈us,pc ps u<=z.1
 pf:PF (us++kq.map Prod.snd)
theorem srt1 (x:Int):srt [x]=[x]:=(a3f (List.Perm.refl _) (b6S _ _)).symm
theorem Rn.start (ps ws rs:List Int):Rn ps ws rs rs 0 [0] [(0,[])] [] where
 pr:=λz hz=>by rw[b5C.mp hz];rfl
 gp:=by
  show _=gaps [0];unfold gaps;rw[srt1];rfl
 ln:=rfl
 sp:=by
  show _=due ws []+(srt [0]).headD 0*_+_;rw[srt1,b4w];show _=0+0*_+_;omega
 up:=.nil
 lo:=λz _ u hu=>by cases hu
 pf:=b6S _ _
theorem b3j (ps u:List Int) (a:Nat):pc ps (wl1 u a)=pc ps u+ps.getD a 0:=by
 unfold pc wl1;rw[b5H,b7R];show _+(ps.getD ((a:Nat):Int).toNat 0+0)=_;rw[c0y];rfl
theorem lo_of (h:((c,u)::kt).Pairwise LxP):∀x∈kt.map Prod.fst,c<=x:=λx hx=>by
 obtain⟨z,hz,rfl⟩:=b5K.mp hx;have:=(b6E.mp h).1 z hz;unfold LxP a3A at this;split at this
 ·rename_i e;exact b8T e
 ·exact Int.le_of_lt (b5X this)
theorem Rn.step {ps ws rs rest:List Int} (bp:Bw ps) (h:Rn ps ws rs (nb::rest) st gs kq us) (iv:Iv ws.length st gs.length) (hm:nb∈lawf ps.length ws.length st gs.length) (kl:kq.length=gs.length) (perm:((c,u)::kt).Perm kq) (pw:((c,u)::kt).Pairwise LxP) (ic:b1g ps pm) :
  Rn ps ws rs rest (mv ps ws st gs nb).2.2.1 (mv ps ws st gs nb).2.2.2 (kt++opn ps u (pm.take nb.toNat)) (if nb=0 then us++[u] else us):=by
 have lo1:=lo_of pw;have pfm:(kq.map Prod.fst).Perm (c::kt.map Prod.fst):=(perm.map Prod.fst).symm;have psm:(kq.map Prod.snd).Perm (u::kt.map Prod.snd):=(perm.map Prod.snd).symm;have ec:c=pc ps u:=h.pr (c,u) (perm.mem_iff.mp (.head _));have hN:(kt++opn ps u (pm.take nb.toNat)).map Prod.fst=kt.map Prod.fst++((srt ps).take nb.toNat).map (c+·):=by
  rw[b5H,<-ic.prices,<-c0f,b6r];unfold opn;rw[b6r];refine b7m _ (b6c λa _=>?_);show pc ps (wl1 u a)=c+ps.getD a 0;rw[b3j,ec]
 have hS:(kt++opn ps u (pm.take nb.toNat)).map Prod.snd=kt.map Prod.snd++(pm.take nb.toNat).map (wl1 u):=by
  rw[b5H];unfold opn;rw[b6r];rfl
 have e:=mv_eq (ps:=ps) (ws:=ws) (st:=st) (nb:=nb) pfm lo1;rw[<-h.gp,<-hN] at e;have hd0:(srt (kq.map Prod.fst)).headD 0=c:=by rw[a4w pfm lo1];rfl
 have sp:=h.sp;rw[hd0] at sp;have sp:spR ps ws rs 0 [0]=due ws (us.map (pc ps))+c*left ws us.length+((mv ps ws st gs nb).2.1+spR ps ws rest (mv ps ws st gs nb).2.2.1 (mv ps ws st gs nb).2.2.2):=sp;rw[e] at sp ⊢;dsimp only at sp ⊢;generalize hkq:kt++opn ps u (pm.take nb.toNat)=kq' at *
 have hpr:∀z∈kq',z.1=pc ps z.2:=λz hz=>by
  rw[<-hkq] at hz;rcases b5W.mp hz with hz|hz
  ·exact h.pr z (perm.mem_iff.mp (.tail _ hz))
  ·obtain⟨a,_,rfl⟩:=b5K.mp hz;rfl
 have hcl:∀z∈kq',c<=z.1:=λz hz=>by
  rw[<-hkq] at hz;rcases b5W.mp hz with hz|hz
  ·exact lo1 _ (b9e hz)
  ·obtain⟨a,ha,rfl⟩:=b5K.mp hz;show c<=pc ps (wl1 u a);rw[b3j,<-ec];have la:=ic.lt ha;have:ps.getD a 0∈ps:=by rw[b5B,b5z la];exact b7t la
   have:=(bp _ this).1;omega
 have huc:∀v∈us,pc ps v<=c:=λv hv=>h.lo (c,u) (perm.mem_iff.mp (.head _)) v hv;have ln:=h.ln;have len1:((us.map (pc ps)).length:Int)=st:=by rw[b5x];exact ln
 have w1:∀k:Nat,wl ws (k:Int)=left ws k:=λk=>rfl;rcases a1d.mp hm with ⟨rfl,cc⟩|⟨i,hi,e2,c1,c2⟩
 ·have hk0:kq'=kt:=by
   rw[<-hkq];show kt++opn ps u (pm.take 0)=kt;unfold opn;simp
  have n0:nx st 0=st+1:=by unfold nx;rw[if_pos rfl]
  rw[n0] at sp ⊢;rw[if_pos rfl];have kn1:kt.length+1=gs.length:=by rw[<-kl,<-perm.length_eq];rfl
  have lw:us.length<ws.length:=by have:=iv.sk;omega
  have hsp:Spm ws (due ws (us.map (pc ps))+c*left ws us.length) c (us.map (pc ps)):=by unfold Spm;rw[b5x]
  have elen:((us++[u]).length:Int)=st+1:=by rw[b5J];show((us.length+1:Nat):Int)=_;omega
  have emap:(us++[u]).map (pc ps)=us.map (pc ps)++[c]:=by rw[b5H,ec];rfl
  refine⟨hpr,rfl,elen,?_,?_,?_,?_⟩
  ·rw[sp,emap];have es:st+1=((us.length+1:Nat):Int):=by omega
   have el:(us++[u]).length=us.length+1:=by rw[b5J];rfl
   by_cases z:kq'.map Prod.fst=[]
   ·rw[if_pos z];have z1:kt=[]:=by rw[<-hk0];exact b8y.mp z
    have g1:gs.length=1:=by rw[<-kn1,z1];rfl
    have l1:us.length+1=ws.length:=by omega
    have:=hsp.fin (by rw[b5x];exact l1);rw[this,z,a2k.mpr rfl,el];show _=_+0*_+_;omega
   ·rw[if_neg z];have:=hsp.set (r:=(srt (kq'.map Prod.fst)).headD 0-c) (by rw[b5x];exact lw);unfold Spm at this;rw[b5J,b5x] at this;rw[el,show wl ws (st+1)=left ws (us.length+1) by rw[es];rfl];rw[show c+((srt (kq'.map Prod.fst)).headD 0-c)=(srt (kq'.map Prod.fst)).headD 0 by omega] at this;have this:due ws (us.map (pc ps))+c*left ws us.length+((srt (kq'.map Prod.fst)).headD 0-c)*left ws (us.length+1)=due ws (us.map (pc ps)++[c])+(srt (kq'.map Prod.fst)).headD 0*left ws (us.length+1):=this;rw[<-this];omega
  ·rw[emap];refine b7x.mpr ⟨h.up,b6S _ _,λa ha b hb=>?_⟩;obtain⟨v,hv,rfl⟩:=b5K.mp ha;rw[b5C.mp hb];exact huc v hv
  ·intro z hz v hv;rcases b5W.mp hv with hv|hv
   ·exact b8r (huc v hv) (hcl z hz)
   ·rw[b5C.mp hv,<-ec];exact hcl z hz
  ·rw[hk0,b7w];exact PF.perm h.pf (b8U us psm.symm)
 ·have n0:nx st nb=st:=by unfold nx;rw[if_neg (by omega),c0y]
  rw[n0] at sp ⊢;rw[if_neg (by omega)];have hm2:nb.toNat=i+2:=by omega
  have mL:nb.toNat<=ps.length:=by omega
  have hsp:Spm ws (due ws (us.map (pc ps))+c*left ws us.length) c (us.map (pc ps)):=by unfold Spm;rw[b5x]
  have P1:(us++kq.map Prod.snd).Perm (u::(us++kt.map Prod.snd)):=(b8U us psm).trans b6X;have pf1:PF (u::(us++kt.map Prod.snd)):=PF.perm h.pf P1.symm;have ndt:(pm.take nb.toNat).Nodup:=ic.nd.sublist (c0G _ _);refine⟨hpr,rfl,ln,?_,h.up,λz hz v hv=>b8r (huc v hv) (hcl z hz),?_⟩
  ·have z:kq'.map Prod.fst≠[]:=λz=>by
    have z1:=b8y.mp z;rw[<-hkq] at z1;have:=b7m List.length z1;unfold opn at this;rw[b5J,b5x,b5R,ic.len,b7o] at this;omega
   rw[sp,if_neg z];have:=hsp.opn (r:=(srt (kq'.map Prod.fst)).headD 0-c);unfold Spm at this;rw[b5x,show c+((srt (kq'.map Prod.fst)).headD 0-c)=(srt (kq'.map Prod.fst)).headD 0 by omega] at this;rw[<-this,show wl ws st=left ws us.length by rw[<-ln];rfl];omega
  ·rw[hS,<-b7w];exact PF.open pf1 ndt
theorem b0s {α β:Type} {qs:List (α × β)} (h:(qs.map Prod.snd).Nodup):qs.Nodup:=by
 rw[List.Nodup,b6k] at h;exact h.imp λne e=>ne (by rw[e])
section
variable {S:Tbs} {H H':Hp}
theorem b0t (hd:H d=some (.lst ls)) (x:a1C H T lpos q):a1C (upd H d (.lst ls')) T lpos q:=by
 rcases x with e|⟨c,e,ec⟩
 ·exact .inl (by rw[a0h (a0r e hd (by intro z;cases z))];exact e)
 ·exact .inr ⟨c,by rw[a0h (a0r e hd (by intro z;cases z))];exact e,by rw[a0h (a0r ec hd (by intro z;cases z))];exact ec⟩
theorem Kp.upd (hn:H d=none) (hd:H' d=some (.lst ls)) (k:Kp S H H'):Kp S H (L2.upd H' d (.lst ls')):=⟨λa o n e=>by rw[a0h (a0A e hn)];exact k.sm a o n e,λu hu=>b0t hd (k.tb u hu)⟩
theorem Kp.tk (k:Kp S H H'):TK H H':=λ_ _ e=>k.tup e
theorem wd_tk {x:V} (k:TK H H') (h:Wd H x u):Wd H' x u:=by
 obtain⟨a,rfl,ha⟩:=Wd.ti h;exact Wd.of (k _ _ ha)
theorem b2i (k:TK H H') (h:Ws H xs us):Ws H' xs us:=Paired.mapP h λ_ _ z=>wd_tk k z
theorem rpw_tk {x:V} (k:TK H H') (h:RPw H x q):RPw H' x q:=by
 obtain⟨t,u,rfl,ht,hu⟩:=h;exact⟨t,u,rfl,k _ _ ht,wd_tk k hu⟩
theorem a6s (k:TK H H') (h:Paired (RPw H) xs qs):Paired (RPw H') xs qs:=Paired.mapP h λ_ _ z=>rpw_tk k z
end
structure Fst (K:PySem.W.Frag) (mg:Str->Option Value) (aF bF:Addr):Prop where
 m:mg "FIRST"=some (.ref aF)
 a:∀H,SqT K H aF [.int 0,.ref bF]
 b:∀H,SqT K H bF [.int 0]
abbrev NCo:List Str:=["prices","weights","row","frontier","knots","words","number","word"]
abbrev PCo:List Str:=["prices","weights","row"]
structure Cd (ps ws rs:List Int) (us:List (List Int)):Prop where
 ln:us.length=ws.length
 sp:spR ps ws rs 0 [0]=due ws (us.map (pc ps))
 up:(us.map (pc ps)).Pairwise (·<=·)
 pf:PF us
 lt:∀u∈us,Lt ps.length u/\u.length<=60
def spCom (S:Tbs):Sp:=λvs H Q _=>∃(p q a:Addr) (ps ws rs:List Int),vs=[.ref p,.ref q,.ref a]/\TW H p ps/\TW H q ws/\H a=some (.lst (rs.map V.int))/\rs.length<=60/\2<=ps.length/\ps.length<=6/\1<=ws.length/\(ws.length:Int)<=(if ps.length=2 then 7 else 6)/\Bw ps/\Bw ws/\Tb S H /\
 leads ps.length ws.length rs 0 1=true/\∀(t:Addr) zs us pl cw H',Kp S H H'->H' t=some (.tup zs)->Ws H' zs cw->Own ws us pl cw->Cd ps ws rs us->Q (.ref t) H'
theorem b2j:a0l NCo PCo (a0d sCom):=fsk
theorem b2k (h:r∉lawf L n st kn):leads L n (r::rs) st kn=false:=by
 show(if r∈lawf L n st kn then _ else _)=_;rw[if_neg h]
theorem b0u (h:r∈lawf L n st kn):leads L n (r::rs) st kn=leads L n rs (nx st r) (kn-1+r):=by
 show(if r∈lawf L n st kn then _ else _)=_;rw[if_pos h]
theorem ok_com {S:Tbs} {aF bF:Addr} (F:Fun K "code_of_moves" "code_of_moves" sCom f fd) (FS:Fst K mg aF bF) (GR:Fns P w K mg base ["prices","weights"] "refuse_many" a4B 5) (GL:Fns P w K mg base PLe "led_to" (spLed K) 5) (GO:Fns P w K mg base POp "opened" (spOp S) 5) (GW:Fns P w K mg base POw "in_own_order" (spOwn S) 5) (ml:mg "len"=none) (mS:mg "sorted"=none):a0Y P w K mg base CX0 6 f fd PCo (spCom S):=by
 refine F.ok (k:=5) b2j (λvs H Q E h=>?_) (λcdv A outer s H vs Q E hr h=>?_)
 ·obtain⟨p,q,a,ps,ws,rs,rfl,_⟩:=h;rfl
 obtain⟨p,q,a,ps,ws,rs,rfl,hp,hq,ha,l60,p2,p6,w1,w7,bp,bw,tab,el0,qQ⟩:=h;have w10:ws.length<=7:=by split at w7<;>omega
 refine⟨_,a0e (a1h (pcF GR hr (a0a (pv 0) (a0a (pv 1) a0f))))
   (a0e (psA (i:=3) b2j (a5S (v:=.ref aF) (by rfl) FS.m rfl))
   (a0e (psA (i:=4) b2j (a1n (a0a (a0Z (a0a (a0g) (a0a (a0Z (a0f)) (a0f)))) (a0f))))
   (a0e (psA (i:=5) b2j (a1n a0f))
   (a0e (a1r b6Q rfl (a2c (pv 2)) (pgA (i:=6) b2j)
    (a0e (psA (i:=3) b2j (pcF GL hr (a0a (pv 0) (a0a (pv 1) (a0a (pv 3) (a0a (pv 6) a0f))))))
    (a0e (psA (i:=4) b2j (a0S (a8h rfl (hu4 hr)) (by rfl) mS a1g (a0a (pv 4) a0f)))
    (a0e (psA (i:=7) b2j (pxA a1I (pxA a0u (pv 4) a0g) a0g))
    (a0e (a6Y (a1q (a0D a2d (pv 6) a0g (nomark _)) (a0i (a1h (a4h b6I b7k b7l a1f (pv 5) (a0a (pv 7) a0f)))) a0K))
    (a0i (psA (i:=4) b2j (a0o op_cat (a1o a4g (pv 4) (a1P a0g) a1O) (pcF GO hr (a0a (pv 0) (a0a (pv 7) (a0a (pv 6) a0f)))))))))))
   )
   (a0e (a1q (a0D a8U (pln ml (pv 5)) (pln ml (pv 1)) (nomark _)) (a0i a5I) a0K)
   (a0i (a0q (pcF GW hr (a0a (pv 1) (a0a (pv 5) a0f)))))))))),?_⟩
 refine⟨_,rfl,_,rfl,p,q,ps,ws,rfl,hp,hq,w7,?_⟩;refine⟨(by show 0<=sizeLine;decide),λa1 ha1=>?_⟩;have s1:=a0c ha1 (.tup []);have g1:upd H a1 (.tup []) a1=some (.tup []):=a0b;generalize upd H a1 (.tup [])=H1 at s1 g1 ⊢;refine⟨(by show 2<=sizeLine;decide),λa2 ha2=>?_⟩;have s2:=a0c ha2 (.tup [.int 0,.ref a1]);have g2:upd H1 a2 (.tup [.int 0,.ref a1]) a2=some (.tup [.int 0,.ref a1]):=a0b;generalize upd H1 a2 (.tup [.int 0,.ref a1])=H2 at s2 g2 ⊢;refine⟨(by show 1<=sizeLine;decide),λkA0 ha3=>?_⟩;have s3:=a0c ha3 (.lst [.ref a2]);have g3:upd H2 kA0 (.lst [.ref a2]) kA0=some (.lst [.ref a2]):=a0b;generalize upd H2 kA0 (.lst [.ref a2])=H3 at s3 g3 ⊢;refine⟨(by show 0<=sizeLine;decide),λwA ha4=>?_⟩;have s4:=a0c ha4 (.lst []);have g4:upd H3 wA (.lst []) wA=some (.lst []):=a0b;have s14:=((s1.trans s2).trans s3)
 have hwn:H wA=none:=s14.free ha4;generalize upd H3 wA (.lst [])=H4 at s4 g4 ⊢;have s0:a0m H H4:=s14.trans s4;have k0:Kp S H H4:=.of tab s0;refine⟨_,rfl,a,rfl,⟨_,SqL.of (s0 _ _ ha)⟩,?_⟩;refine a2J (xs:=rs.map V.int) (λi σ H'=>Kp S H H'/\∃(st:Int) (gs:List Int) (kq:List (Int × List Int)) (us:List (List Int)) (fr g kA:Addr) (xs ys:List V) (x6 x7:Option V),
   leads ps.length ws.length (rs.drop i) st gs.length=true/\Iv ws.length st gs.length/\Bw gs/\SqT K H' fr [.int st,.ref g]/\Gp K H' g gs/\H' kA=some (.lst xs)/\Paired (RPw H') xs kq/\kq.length=gs.length/\Rn ps ws rs (rs.drop i) st gs kq us/\(∀z∈kq,Lt ps.length z.2/\z.2.length<=i)/\H' wA=some (.lst ys)/\Ws H' ys us/\(∀v∈us,Lt ps.length v/\v.length<=i) /\
   σ=[some (.ref p),some (.ref q),some (.ref a),some (.ref fr),some (.ref kA),some (.ref wA),x6,x7])
  ⟨k0,0,[0],[(0,[])],[],aF,bF,kA0,[.ref a2],[],_,_,el0,⟨by omega,by show(0:Int)<=1;omega,by show(0:Int)+1<=ws.length;omega,λz=>by cases z⟩,λx hx=>(by rw[b5C.mp hx];unfold B30;omega),FS.a H4,.inr ⟨FS.b H4,by simp⟩,s4 _ _ g3,.cons ⟨a2,.ref a1,rfl,s4 _ _ (s3 _ _ g2),Wd.of (w:=[]) (s4 _ _ (s3 _ _ (s2 _ _ g1)))⟩ .nil,rfl,Rn.start ps ws rs,λz hz=>(by rw[b5C.mp hz];exact⟨λy hy=>(by cases hy),b5G _⟩),g4,.nil,λv hv=>(by cases hv),rfl⟩
  (λi σ H' _ hP=>SqL.of (hP.1.lst ha)) (λi x σ H5 hx hP=>?_) (λσ H5 hP=>?_)
 ·obtain⟨k5,st,gs,kq,us,fr,g,kA,xs,ys,x6,x7,el,iv,bg,hfr,hg,hkA,hkq,lkq,rn,wk,hwA,hus,wu,rfl⟩:=hP;have pf:PF (kq.map Prod.snd):=(b7x.mp rn.pf).2.1;have lus:=rn.ln;have il:=(b5E.mp hx).1;rw[b5x] at il;rw[b5L] at hx;obtain⟨nb,hnb,rfl⟩:=b6H.mp hx;have ed:rs.drop i=nb::rs.drop (i+1):=by
   obtain⟨hi,rfl⟩:=b5E.mp hnb;exact c0D hi
  rw[ed] at el rn;have hin:nb∈lawf ps.length ws.length st gs.length:=Classical.byContradiction λz=>by rw[b2k z] at el;cases el
  have hs1:=iv.sk;have hs0:=iv.s0;have ak:Ask K H5 p q fr g ps ws gs st:=⟨k5.tup hp,k5.tup hq,hfr,hg,p2,p6,w7,iv.s0,by omega,λz=>by omega,by omega,bw,bp,λx hx=>⟨(bg x hx).1,by have:=(bg x hx).2;unfold B30 at *;omega⟩⟩
  refine⟨_,rfl,_,rfl,_,rfl,_,rfl,p,q,fr,g,ps,ws,gs,st,nb,rfl,ak,?_,λm hm em f2 g2' H6 s6 hf6 hg6=>?_⟩
  ·obtain⟨r,hr',er⟩:=mv_ex iv hin;exact⟨fin ws r,b9e hr',by rw[a6q,er]⟩
  have emv:=b3i hm;rw[em] at emv;obtain⟨r,hr',rfl⟩:=b5K.mp hm;rw[a6q] at em;obtain⟨_,e1,e2,xs2,e3,b3⟩:=b4M p2 iv bg bp hr';rw[em] at e1 e2;obtain⟨iv2,kn1,nb0,nbL⟩:=iv.step hin;rw[a7x,e1] at hf6;have k6:=k5.then s6;have lg2:((fin ws r).2.2.2.length:Int)=(gs.length:Int)-1+nb:=by rw[a6r];exact e2
  have bg2:Bw (fin ws r).2.2.2:=b3h e3 b3;have est:(mv ps ws st gs nb).2.2.1=nx st nb:=by rw[<-emv,a7x,e1]
  have egs:(mv ps ws st gs nb).2.2.2=(fin ws r).2.2.2:=by rw[<-emv]
  generalize (fin ws r).2.2.2=gs2 at hg6 lg2 bg2 egs;have hkq6:=a6s (TK.of s6) hkq;refine⟨_,rfl,kA,xs,kq,rfl,s6 _ _ hkA,hkq6,by omega,b0s (PF.nd pf),λkB H7 out kq2 s7 hn7 g7 w7' perm pw=>?_⟩;have lk2:kq2.length=gs.length:=by rw[perm.length_eq,lkq]
  have pf2:PF (kq2.map Prod.snd):=PF.perm pf (perm.map _);have wk2:∀z∈kq2,Lt ps.length z.2/\z.2.length<=i:=λz hz=>wk z (perm.mem_iff.mp hz);cases kq2 with
  | nil=>rw[b7o] at lk2;omega
  | cons cu kt =>
  obtain⟨c,u⟩:=cu;cases w7' with
  | cons h0 hT =>
  rename_i x0 xt;obtain⟨t,v,rfl,ht,hv⟩:=h0;obtain⟨wd,rfl,hwd⟩:=Wd.ti hv;have k7:=k6.then s7;have hwA7:=s7 _ _ (s6 _ _ hwA);have ne1:kB≠wA:=λz=>by rw[z,s6 _ _ hwA] at hn7;cases hn7
  refine⟨_,rfl,kB,_,_,_,rfl,rfl,SqL.of g7,(b2Y (i:=0) rfl:atI (V.ref t::xt) 0=some (V.ref t)),t,_,_,_,rfl,rfl,SqT.of ht,(rfl:atI [V.int c,.ref wd] 1=some (V.ref wd)),?_⟩;refine⟨λσ' H8=>Kp S H H8/\TK H7 H8/\H8 kB=some (.lst (.ref t::xt))/\(∃ys',H8 wA=some (.lst ys')/\Ws H8 ys' (if nb=0 then us++[u] else us))/\σ'=[some (.ref p),some (.ref q),some (.ref a),some (.ref f2),some (.ref kB),some (.ref wA),some (.int nb),some (.ref wd)],?_,?_⟩
  ·refine⟨_,rfl,rfl,_,rfl,?_⟩;refine a3D (λz=>?_) (λz=>?_)
   ·have z1:nb=0:=V.int.inj (b5X z);refine⟨_,rfl,.inl ⟨rfl,_,SqL.of hwA7⟩,_,rfl,wA,_,_,rfl,rfl,hwA7,a0j ?_,k7.upd hwn hwA7,TK.upd hwA7,by rw[a0h ne1];exact g7,⟨_,a0b,?_⟩,rfl⟩
    ·have:=hus.length;omega
    ·rw[if_pos z1];exact Paired.appendP (Ws.upd hwA7 (b2i ((TK.of s6).trans (TK.of s7)) hus)) (.cons (Wd.upd hwA7 (Wd.of hwd)) .nil)
   ·have z1:nb≠0:=λy=>z (b6b (by rw[y]));refine⟨k7,TK.of (a0m.refl _),g7,⟨ys,hwA7,?_⟩,rfl⟩;rw[if_neg z1];exact b2i ((TK.of s6).trans (TK.of s7)) hus
  rintro σ' H8 ⟨k8,t8,g8,⟨ys',hwA8,hus8⟩,rfl⟩;refine⟨_,rfl,_,rfl,kB,_,rfl,SqL.of g8,λe he=>?_⟩;have ec:a5b (V.ref t::xt) (some 1) none=xt:=a4l (V.ref t::xt) 1;rw[ec];have s9:=a0c he (.lst xt);have g9:upd H8 e (.lst xt) e=some (.lst xt):=a0b;generalize upd H8 e (.lst xt)=H9 at s9 g9 ⊢;have k9:=k8.then s9;have t79:TK H7 H9:=t8.trans (TK.of s9);obtain⟨m,rfl⟩:∃m:Nat,nb=m:=⟨nb.toNat,by omega⟩
  have wu0:=wk2 (c,u) (.head _);refine⟨_,rfl,_,rfl,_,rfl,p,wd,ps,u,m,rfl,k9.tup hp,t79 _ _ hwd,p6,by omega,wu0.1,by have:=wu0.2;show u.length<=100;have:u.length<=i:=wu0.2;omega,k9.tb,λl pm zs HA kA' gA wA' pmP pmW=>?_⟩;have ic:b1g ps pm:=⟨pmP,pmW⟩
  have lm:(pm.take m).length=m:=by rw[b5R,ic.len];omega
  have rn2:=rn.step bp iv hin lkq perm pw ic;have tA:TK H7 HA:=t79.trans kA'.tk;have lz:zs.length=m:=by rw[wA'.length,b5x,lm]
  have lt':xt.length=kt.length:=hT.length;refine⟨e,l,_,_,rfl,rfl,kA'.lst g9,gA,?_,λkC hC=>?_⟩
  ·rw[lz,lt'];have:kt.length+1=gs.length:=lk2;exact b7n (a0j (by omega))
  have sC:=a0c hC (.lst (xt++zs));have kC':=(k9.trans kA').then sC;have tC:TK H7 (upd HA kC (.lst (xt++zs))):=tA.trans (TK.of sC);refine⟨kC',nx st (m:Int),gs2,kt++opn ps u (pm.take m),_,f2,g2',kC,xt++zs,ys',_,_,?_,?_,bg2,SqT.of (tC _ _ (s7 _ _ hf6)),.inl (tC _ _ (s7 _ _ hg6)),a0b,?_,?_,?_,λz hz=>?_,sC _ _ (kA'.lst (s9 _ _ hwA8)),b2i (((TK.of s9).trans kA'.tk).trans (TK.of sC)) hus8,λv hv=>?_,rfl⟩
  ·rw[b0u hin] at el;rw[lg2];exact el
  ·rw[lg2];exact iv2
  ·exact Paired.appendP (a6s tC hT) (a6s (TK.of sC) wA')
  ·unfold opn;rw[b5J,b5x,lm];have:kt.length+1=gs.length:=lk2;omega
  ·rw[est,egs] at rn2;exact rn2
  ·rcases b5W.mp hz with z1|z1
   ·have:=wk2 z (.tail _ z1);exact⟨this.1,by omega⟩
   ·obtain⟨b,hb,rfl⟩:=b5K.mp z1;refine⟨λy hy=>?_,?_⟩
    ·rcases b5W.mp (show y∈u++[(b:Int)] from hy) with hy|hy
     ·exact wu0.1 y hy
     ·have:=ic.lt hb;rw[b5C.mp hy];omega
    ·show(u++[(b:Int)]).length<=i+1;rw[b5J];have:u.length<=i:=wu0.2;show u.length+1<=i+1;omega
  ·by_cases z0:(m:Int)=0
   ·rw[if_pos z0] at hv;rcases b5W.mp hv with hv|hv
    ·exact⟨(wu v hv).1,by have:=(wu v hv).2;omega⟩
    ·rw[b5C.mp hv];exact⟨wu0.1,by have:u.length<=i:=wu0.2;omega⟩
   ·rw[if_neg z0] at hv;exact⟨(wu v hv).1,by have:=(wu v hv).2;omega⟩
 ·obtain⟨k5,st,gs,kq,us,fr,g,kA,xs,ys,x6,x7,el,iv,bg,hfr,hg,hkA,hkq,lkq,rn,wk,hwA,hus,wu,rfl⟩:=hP;rw[b5x] at el rn wu;rw[List.drop_length] at el rn;have el:(gs.length:Int)=0:=b5X el;have ly:ys.length=us.length:=hus.length;have lus:=rn.ln;obtain⟨s0',k0',sk,e0⟩:=iv;have est:=e0 el;have g0:gs=[]:=b6g.mp (by omega);have q0:kq=[]:=b6g.mp (by omega);have lw:us.length=ws.length:=by omega
  subst q0;refine⟨_,rfl,wA,_,rfl,.inl (SqL.of hwA),_,rfl,q,_,rfl,.inr (SqT.of (k5.tup hq)),_,_,rfl,rfl,_,rfl,?_⟩;rw[b5x,ly];rw[b6N (by omega)];refine b3S ⟨_,rfl,_,rfl,q,wA,ws,ys,us,rfl,k5.tup hq,hwA,hus,lw,w10,k5.tb,λt zs H6 pl cw k6 g6 w6 ow=>qQ t zs us pl cw H6 (k5.trans k6) g6 w6 ow ⟨lw,?_,rn.up,(b7x.mp rn.pf).1,λu hu=>⟨(wu u hu).1,by have:=(wu u hu).2;omega⟩⟩⟩
  ·rw[rn.sp];show _+(srt []).headD 0*_+0=_;rw[a2k.mpr rfl];show _+0*_+0=_;omega
abbrev Fr:=Int × List Int
def nxt (ps ws:List Int) (k:Fr):List Mv:=mvs ps ws k.1 k.2
structure Wide (ps ws:List Int):Prop where
 p2:2<=ps.length
 p6:ps.length<=6
 w1:1<=ws.length
 w7:(ws.length:Int)<=(if ps.length=2 then 7 else 6)
 bp:Bw ps
 bw:Bw ws
 w4:ws.length<=4
structure a3p (ws:List Int) (k:Fr):Prop where
 iv:Iv ws.length k.1 k.2.length
 bd:Bw k.2
inductive Rch (ps ws:List Int):Fr->Prop
 | one:Rch ps ws (0,[0])
 | step {k:Fr} {m:Mv}:Rch ps ws k->m∈nxt ps ws k->Rch ps ws m.2.2
theorem a1U (W:Wide ps ws) {k:Fr} (h:a3p ws k) (hm:m∈nxt ps ws k) :
  a3p ws m.2.2/\m.1∈lawf ps.length ws.length k.1 k.2.length/\m.2.2.1=nx k.1 m.1/\(m.2.2.2.length:Int)=(k.2.length:Int)-1+m.1:=by
 obtain⟨r,hr,rfl⟩:=b5K.mp hm;obtain⟨h1,h2,h3,xs,h4,h5⟩:=b4M W.p2 h.iv h.bd W.bp hr;have st:=(h.iv.step h1).1;refine⟨⟨?_,b3h h4 h5⟩,by rw[a6q];exact h1,by rw[a7x,a6q];exact h2,by rw[a6r,a6q];exact h3⟩;rw[a7x,a6r,h2,h3];exact st
theorem a2Q (h:1<=ws.length):a3p ws (0,[0]):=⟨⟨by decide,by decide,by show(0:Int)+1<=_;omega,λz=>by exact absurd z (by decide)⟩,λx hx=>by
 rw[b5C.mp hx];exact⟨by decide,by unfold B30;decide⟩⟩
theorem Rch.ok (W:Wide ps ws) {k:Fr} (h:Rch ps ws k):a3p ws k:=by
 induction h with
 | one=>exact a2Q W.w1
 | step _ hm ih=>exact(a1U W ih hm).1
def rk (k:Fr):Int:=2*k.1+(k.2.length:Int)
theorem a2t (W:Wide ps ws) {k:Fr} (h:a3p ws k) (hm:m∈nxt ps ws k):rk k<rk m.2.2/\(k.1<m.2.2.1\/(k.1=m.2.2.1/\k.2.length<m.2.2.2.length)):=by
 obtain⟨_,h1,h2,h3⟩:=a1U W h hm;unfold rk;rcases a1d.mp h1 with ⟨e,c⟩|⟨i,hi,e,c1,c2⟩
 ·rw[e] at h2 h3;have:nx k.1 0=k.1+1:=by unfold nx;rw[if_pos rfl]
  rw[this] at h2;omega
 ·rw[e] at h2 h3;have:nx k.1 (2+(i:Int))=k.1:=by unfold nx;rw[if_neg (by omega)];omega
  rw[this] at h2;omega
theorem a3p.rk {k:Fr} (h:a3p ws k):0<=rk k/\rk k<=2*(ws.length:Int):=by
 obtain⟨⟨a,b,c,d⟩,_⟩:=h;unfold K77.rk;omega
theorem b3k (h:Iv ws.length st gs.length):∀n,(rws ps ws st gs n).map (·.1)=lawf (n+1) ws.length st gs.length
 | 0=>by
  obtain⟨s0,k0,sk,e0⟩:=h;show(rw1 ws st gs).map _=_++[]
  rw[b6B];unfold rw1;by_cases c:1<gs.length\/st=(ws.length:Int)-1
  ·rw[if_pos c,if_pos]
   ·rfl
   ·unfold b5t;simp only[c0t,b6W,b6K];omega
  ·rw[if_neg c,if_neg]
   ·rfl
   ·unfold b5t;simp only[c0t,b6W,b6K];omega
 | n+1=>by
  have ih:=b3k (ps:=ps) h n;obtain⟨s0,k0,sk,e0⟩:=h;show(rws ps ws st gs n++rw2 ps ws st gs (n+2)).map _=_;rw[b5H,ih];unfold lawf;rw[show n+1+1-1=n+1 from rfl,show n+1-1=n from rfl,b7b,b5H,c0z,b7w];congr 2;show(rw2 ps ws st gs (n+2)).map _=List.filter _ [(2:Int)+(n:Int)];unfold rw2;by_cases c:st+(gs.length:Int)-1+((n+2:Nat):Int)<=(ws.length:Int)
  ·have:b4D ws.length st gs.length (2+(n:Int))=true:=by
    unfold b4D;simp only[b6W,b6K];omega
   rw[if_pos c,List.filter_cons_of_pos this];show[((n+2:Nat):Int)]=[2+(n:Int)]
   congr 1;omega
  ·have:¬b4D ws.length st gs.length (2+(n:Int))=true:=by
    unfold b4D;simp only[b6W,b6K];omega
   rw[if_neg c,List.filter_cons_of_neg this];rfl
theorem a7y (W:Wide ps ws) {k:Fr} (h:a3p ws k):(nxt ps ws k).map (·.1)=lawf ps.length ws.length k.1 k.2.length:=by
 have e:=b3k (ps:=ps) h.iv (ps.length-1);rw[show ps.length-1+1=ps.length by have:=W.p2;omega] at e;rw[<-e];show(List.map (fin ws) _).map _=_;rw[b6r];exact b6c λr _=>a6q ws r
def cnt (L n:Nat):Nat->Int->Int->Nat
 | 0,_,_=>1
 | f+1,st,kn=>1+((lawf L n st kn).map λnb=>cnt L n f (nx st nb) (kn-1+nb)).sum
theorem b0v {α:Type} {f g:α->Nat}:∀{l:List α},(∀x∈l,f x<=g x)->(l.map f).sum<=(l.map g).sum
 | [],_=>b5G _
 | x::l,h=>by
  show f x+_<=g x+_;exact Nat.add_le_add (h x (.head _)) (b0v λy hy=>h y (.tail _ hy))
theorem a7z {L n:Nat}:∀{f:Nat} {st kn:Int},cnt L n f st kn<=cnt L n (f+1) st kn
 | 0,st,kn=>by show 1<=1+_;omega
 | f+1,st,kn=>b9f (b0v λnb _=>a7z) 1
theorem b3l {f:Nat}:∀{f':Nat},f<=f'->cnt L n f st kn<=cnt L n f' st kn
 | 0,h=>by rw[Nat.le_zero.mp h];exact b5G _
 | f'+1,h=>by
  rcases Nat.lt_or_ge f' f with c|c
  ·rw[show f=f'+1 by omega];exact b5G _
  ·exact b6R (b3l c) a7z
def pot (ps ws:List Int) (k:Fr):Nat:=cnt ps.length ws.length (2*(ws.length:Int)-rk k).toNat k.1 k.2.length
def pots (ps ws:List Int) (ks:List Fr):Nat:=(ks.map (pot ps ws)).sum
theorem a6t {k:Fr}:1<=pot ps ws k:=by
 unfold pot;cases (2*(ws.length:Int)-rk k).toNat with
 | zero=>exact b5G _
 | succ f=>show 1<=1+_;omega
theorem b2l {ps ws:List Int} (W:Wide ps ws) {k:Fr} (h:a3p ws k):1+pots ps ws ((nxt ps ws k).map (·.2.2))<=pot ps ws k:=by
 cases hn:nxt ps ws k with
 | nil=>exact a6t
 | cons m0 ms0 =>
 rw[<-hn];have m0m:m0∈nxt ps ws k:=by rw[hn];exact .head _
 have up0:=(a2t W h m0m).1;have ok0:=(a1U W h m0m).1.rk;obtain⟨f,hf⟩:∃f,(2*(ws.length:Int)-rk k).toNat=f+1:=⟨(2*(ws.length:Int)-rk k).toNat-1,by omega⟩
 unfold pot;rw[hf];show _<=1+_;refine b9f ?_ 1;rw[<-a7y W h,b6r];unfold pots;rw[b6r];refine b0v λm hm=>?_;obtain⟨o,_,h2,h3⟩:=a1U W h hm;have up:=(a2t W h hm).1;show cnt _ _ _ m.2.2.1 (m.2.2.2.length:Int)<=cnt _ _ f (nx k.1 m.1) ((k.2.length:Int)-1+m.1);rw[h2,h3];refine b3l ?_;show(2*(ws.length:Int)-rk m.2.2).toNat<=f;omega
theorem a3q {k:Fr}:pots ps ws (k::ks)=pot ps ws k+pots ps ws ks:=rfl
theorem a4G:pots ps ws (xs++ys)=pots ps ws xs+pots ps ws ys:=by
 unfold pots;rw[b5H,b7R]
theorem a7A:∀{ks:List Fr},ks.length<=pots ps ws ks
 | []=>b6e _
 | k::ks=>by
  rw[a3q,b5T];have:=a6t (ps:=ps) (ws:=ws) (k:=k);have:=a7A (ps:=ps) (ws:=ws) (ks:=ks);omega
theorem cnt_bd:∀L∈([2,3,4,5,6]:List Nat),∀n∈([1,2,3,4]:List Nat),cnt L n (2*n-1) 0 1<=60:=by decide +kernel
theorem b0w (W:Wide ps ws):pot ps ws (0,[0])<=60:=by
 obtain⟨p2,p6,w1,w7,_,_,w4⟩:=W;unfold pot;have e:(2*(ws.length:Int)-rk (0,[0])).toNat=2*ws.length-1:=by
  have:rk (0,[0])=1:=rfl;rw[this];omega
 rw[e];refine cnt_bd ps.length ?_ ws.length ?_
 ·simp only[b5Q,b6L,b8K];omega
 ·simp only[b5Q,b6L,b8K];omega
def b0x (ns:List Int):Int:=if ns=[] then 0 else (srt ns).headD 0
def flF (ps ws:List Int):Nat->Fr->Int
 | 0,_=>0
 | f+1,k=>b0x ((nxt ps ws k).map λm=>m.2.1+flF ps ws f m.2.2)
theorem b3m (W:Wide ps ws):∀{f f':Nat} {k:Fr},a3p ws k->2*(ws.length:Int)-rk k<f->2*(ws.length:Int)-rk k<f'->flF ps ws f k=flF ps ws f' k
 | 0,_,k,h,h1,_=>by have:=h.rk;omega
 | _,0,k,h,_,h2=>by have:=h.rk;omega
 | f+1,f'+1,k,h,h1,h2=>by
  show b0x _=b0x _;congr 1;refine b6c λm hm=>?_;have up:=(a2t W h hm).1;rw[b3m W (a1U W h hm).1 (f:=f) (f':=f') (by omega) (by omega)]
def flo (ps ws:List Int) (k:Fr):Int:=flF ps ws (2*ws.length+1) k
theorem a5K (W:Wide ps ws) {k:Fr} (h:a3p ws k):flo ps ws k=b0x ((nxt ps ws k).map λm=>m.2.1+flo ps ws m.2.2):=by
 show b0x _=b0x _;congr 1;refine b6c λm hm=>?_;have up:=(a2t W h hm).1;have:=h.rk;unfold flo;rw[b3m W (a1U W h hm).1 (f:=2*ws.length) (f':=2*ws.length+1) (by omega) (by omega)]
theorem b4N (W:Wide ps ws) {k:Fr} (h:a3p ws k) (e:nxt ps ws k=[]):k=((ws.length:Int),[]):=by
 have nb:=a7y W h;rw[e] at nb;have no:∀x,x∉lawf ps.length ws.length k.1 k.2.length:=λx hx=>by rw[<-nb] at hx;cases hx
 obtain⟨⟨s0,k0,sk,e0⟩,_⟩:=h;have z:k.2.length=0:=by
  rcases Nat.eq_zero_or_pos k.2.length with z|z
  ·exact z
  ·exfalso;have p2:=W.p2;by_cases c:1<(k.2.length:Int)\/((k.2.length:Int)=1/\k.1=(ws.length:Int)-1)
   ·exact no 0 (a1d.mpr (.inl ⟨rfl,c⟩))
   ·exact no 2 (a1d.mpr (.inr ⟨0,by omega,rfl,by omega,by omega⟩))
 obtain⟨a,b⟩:=k;have zb:b=[]:=b6g.mp z;have:=e0 (by omega);show(a,b)=_;rw[zb,<-this]
theorem a8x {ps ws:List Int} {S:List Fr} (h1:(0,[0])∈S) (h2:∀k∈S,∀m∈nxt ps ws k,m.2.2∈S) {k:Fr} (h:Rch ps ws k):k∈S:=by
 induction h with
 | one=>exact h1
 | step _ hm ih=>exact h2 _ ih _ hm
end K77
namespace L2
open PySem PySem.Spec PyProof.Rows
structure b4O (X:Cx) (σ:St) (Rg:Addr->List V->Hp->VK->Prop):Prop where
 run:∀(pins:List (Addr × Obj)) (H:Hp) (s:Shared) (g:Addr) (us:List Value) (vs:List V) (Q:VK),Inv X pins σ H s->a0w vs us->Rg g vs H Q->codeAny (model X.prog X.w) X.A.in1 (.call (.ref g) ⟨us,[]⟩) (CR CX0 X.stack X.prog X.w H s Q E0) s
theorem b4O.cells {X:Cx} {σ:St} {k:Nat} {cl:List (Str × Addr)} {R:Addr->List V->Hp->VK->Prop} (L:a3F X.prog X.w X.K X.mg X.base k R) (hr:a1z (k+1) X.A) (hc:a2h X cl):b4O X σ (RgC X cl R σ):=⟨λpins H1 s1 g us vs Q I1 r q=>by
 have mem:∀c∈cl.map (·.2),∃n,(n,c)∈cl:=λc hc=>by
  obtain⟨⟨n,c'⟩,h1,rfl⟩:=b5K.mp hc;exact⟨n,h1⟩
 let os:Addr->Obj:=λc=>(s1.heap.get? c).getD ⟨.none,none,.plain,#[]⟩
 have gg:∀c∈cl.map (·.2),s1.heap.get? c=some (os c):=λc hc'=>by
  obtain⟨n,hn⟩:=mem c hc';obtain⟨v,o,ho,_⟩:=I1.cell n c (hc.at' _ hn);show _=some ((s1.heap.get? c).getD _);rw[ho];rfl
 have nn:∀c∈cl.map (·.2),H1 c=none:=λc hc'=>by
  obtain⟨n,hn⟩:=mem c hc';exact I1.freeC n c (hc.at' _ hn)
 have above:∀c∈cl.map (·.2),X.s₀.heap.objs.size<=c:=λc hc'=>by
  obtain⟨n,hn⟩:=mem c hc';exact I1.ok.cab n c (hc.fn _ hn) (hc.at' _ hn)
 have hq:=q os (λj i n c v h1 h2 h3=>by
  have hmem:=b5M h1;obtain⟨m,hn,hl⟩:=I1.loc;obtain⟨u,rv,l⟩:=hl i n v h2 h3 (.inr (.inl (hc.ki _ hmem)));refine⟨u,?_,rv⟩;rcases l with ⟨hk',_⟩|⟨_,c0,e0,o,ho,hd⟩
  ·have z:some NameKind.cell=some .local:=(hc.ki _ hmem).symm.trans hk';cases z
  ·have ec:some c0=some c:=e0.symm.trans (hc.at' _ hmem);cases ec;have:os c=o:=by
    show(s1.heap.get? c).getD _=o;rw[ho];rfl
   rw[this];exact hd) nn
 have e0:=I1.env0;have e1:a5W X.prog X.w X.K X.mg X.base X.A X.stack s1 (trk' (cl.map (·.2)) os H1):=⟨e0.frames,e0.mod,λb o hb'=>⟨(e0.bs b o hb').1,by
  rw[a0O λz=>b6A _ (b5S (b5F hb') (b6R I1.ok.bsz (above b z)))];exact(e0.bs b o hb').2⟩,e0.bsz,e0.funs,λb hb'=>by
  rw[a0O λz=>?_]
  ·exact e0.frf b hb'
  ·obtain⟨n,hn⟩:=mem b z;rcases b5Q.mp (I1.stkSub b hb') with y|y
   ·exact I1.cne n b (hc.at' _ hn) y
   ·obtain⟨_,o,ho,_⟩:=I1.ok.funs.mem y;exact b6A _ (b5S (b5F ho) (above b z)),e0.hok.trk nn gg,e0.bare⟩
 refine b7y (L.run X.A.in1 X.stack s1 _ g us vs _ hr.in1 e1.in1 r hq) λr s' hq'=>?_;cases r with
 | error e=>exact False.elim hq'
 | ok fl =>
  cases fl with
  | ret u =>
   obtain⟨v,H3,os',bare,un,hok3,rv,q3,q4⟩:=hq';have g3:∀c∈cl.map (·.2),s'.heap.get? c=some (os c):=λc hc'=>(hok3 c _ (q3 c hc')).1;exact⟨v,unt (cl.map (·.2)) H3,os',bare,un.untrk nn gg g3,hok3.unt λa ha=>⟨_,q3 a ha⟩,rv,q4⟩
  | next=>exact False.elim hq'
  | brk=>exact False.elim hq'
  | cont=>exact False.elim hq'⟩
section
variable {X:Cx} {Rg:Addr->List V->Hp->VK->Prop} {pins:List (Addr × Obj)} {σ:St} {H:Hp} {a g I S:Addr} {xs:List V} {ks:Nat->Int} {R:Result->Shared->Prop} {Q:VK}
abbrev btI (ks:Nat->Int):Nat->Nat->Bool:=λi j=>decide (ks i<ks j)
theorem b2m (L:b4O X σ Rg) (hc:X.calm=true) (ha:H a=some (.lst xs)) (fI:∀H',H' I=none->a2F X pins H' I) (fS:∀H',H' S=none->a2F X pins H' S) (hne:I≠S)
  (hk:∀i x H1 Q1,xs[i]?=some x->a0m H H1->(∀H2,a0m H1 H2->Q1 (.int (ks i)) H2)->Rg g [x] H1 Q1)
  (q:∀x H',xs[argBest (btI ks) (xs.length-1)]?=some x->a0m H H'->Q x H') (hR:∀u s',EP X pins σ Q u s'->R (.ok (.ret u)) s') :
  ∀(m j:Nat) (s:Shared) (Hj:Hp) (xb:V) (ub:Value) (tb:Tok) (c:Nat),xs.length-(j+1)=m->j+1<=xs.length->Inv X pins σ Hj s->a0m H Hj->s.heap.IsListIter I a (j+1)->Hj I=none->Hj S=none ->
   s.heap.get? S=some { cls:=.type "list",data:=.seq #[ub,.int (ks (argBest (btI ks) j)) tb] c }->xs[argBest (btI ks) j]?=some xb->a0Q xb ub ->
   codeAny (model X.prog X.w) X.A (.builtin "min.loop" ⟨[.ref I,.ref g,.ref S],[]⟩) R s:=by
 intro m
 induction m with
 | zero =>
  intro j s Hj xb ub tb c hm hj J sm st nI nS hs hx rx;have ej:j+1=xs.length:=by omega
  obtain⟨its,rv,p,hz⟩:=J.list (SqL.of (K:=X.K) (sm _ _ ha));obtain⟨f0,f1,f2,f3,f4,f5⟩:=fI Hj nI;obtain⟨g0,g1,g2,g3,g4,g5⟩:=fS Hj nS;refine b6q b8D ?_;rw[b5Z b6M _];show wpAny _ X.A.in1 (seqItems? (.ref S) >>= _) _ _ s;refine b5w (b6G hs rfl ?_);refine b5w (b7H ?_);have hl:=rv.length;refine wpAny_pyNext_list_end (by show X.A.handled=none;exact J.ok.hd hc) st p.isList (by simp;omega) λh' eb=>?_;have J1:Inv X pins σ Hj { s with heap:=h' }:=J.turned (t':=s.toks) (λb o hb e=>eb b o hb e) f0 f1 f3 f4 f5;have hs':h'.get? S=some _:=eb S _ (λz=>hne z.symm) hs;show wpAny _ X.A.in1 (updateSeq S _ >>= _) _ _ _;refine b5w (b7r hs' rfl ?_);refine b5w (b7U ?_);refine b5A ?_;refine hR _ _ ⟨xb,Hj,J1.turned (t':=s.toks) (λb o hb e=>by rw[b5P _ _ _ _ hb];exact e) g0 g1 g3 g4 g5,rx,q xb Hj (by rw[<-ej];exact hx) sm⟩
 | succ m ih =>
  intro j s Hj xb ub tb c hm hj J sm st nI nS hs hx rx;have hlt:j+1<xs.length:=by omega
  obtain⟨its,rv,p,hz⟩:=J.list (SqL.of (K:=X.K) (sm _ _ ha));obtain⟨f0,f1,f2,f3,f4,f5⟩:=fI Hj nI;have hx1:xs[j+1]?=some xs[j+1]:=b5z hlt;obtain⟨u,hu,ru⟩:=rv.get hx1;refine b6q b8D ?_;rw[b5Z b6M _];show wpAny _ X.A.in1 (seqItems? (.ref S) >>= _) _ _ s;refine b5w (b6G hs rfl ?_);refine b5w (b7H ?_);refine b9v st p.isList (x:=u) (by simpa using hu) λh' st' sb=>?_;have J1:Inv X pins σ Hj { s with heap:=h' }:=J.turned (t':=s.toks) (λb o hb e=>(sb.2 b hb).trans e) f0 f1 f3 f4 f5;have hs':h'.get? S=some _:=(sb.2 S (λz=>hne z.symm)).trans hs;have J2:=J1.pinned (fp:=[I,S]) (λb hb=>by
   rcases b5Q.mp hb with rfl|hb
   ·exact fI Hj nI
   ·rw[b5C.mp hb];exact fS Hj nS) (λb hb=>by
   rcases b5Q.mp hb with rfl|hb
   ·obtain⟨o,e,_,d⟩:=id st';exact⟨o,e,λv z=>by rw[d] at z;cases z⟩
   ·rw[b5C.mp hb];exact⟨_,hs',λv z=>by cases z⟩)
  show wpAny _ X.A.in1 (tryCatch (holding [u] (call (.ref g) [u])) _ >>= _) _ _ _;refine b5w (b7H (b6d ?_));refine c0j (b7y (L.run _ Hj _ g [u] [xs[j+1]] (λv H2=>v=.int (ks (j+1))/\a0m Hj H2) J2 (.cons ru .nil) (hk _ _ _ _ hx1 sm λH2 s2=>⟨rfl,s2⟩)) λr s3 hq=>?_);cases r with
  | error e=>exact False.elim hq
  | ok fl =>
  cases fl with
  | next=>exact False.elim hq
  | brk=>exact False.elim hq
  | cont=>exact False.elim hq
  | ret uv =>
  obtain⟨v,H2,J3,rv3,rfl,s2⟩:=J2.after hq;obtain⟨t,rfl⟩:=rv3;have st3:s3.heap.IsListIter I a (j+1+1):=st'.at λo e=>(J3.pin (I,o) (b5N _ (b5N _ (a0G (by simp) e)))).1;have nI3:H2 I=none:=by
   obtain⟨o,e,_,_⟩:=id st';exact(J3.pin (I,o) (b5N _ (b5N _ (a0G (by simp) e)))).2.1
  have pS:=J3.pin (S,_) (b5N _ (b5N _ (a0G (by simp) hs')));have hs3:=pS.1;have nS3:=pS.2.1;have J4:=J3.unpinned;have sm3:=sm.trans s2;obtain⟨g0,g1,g2,g3,g4,g5⟩:=fS H2 nS3;have eb:argBest (btI ks) (j+1)=if btI ks (j+1) (argBest (btI ks) j)=true then j+1 else argBest (btI ks) j:=rfl
  refine b5w (b7H (b6d (b5w (c0e (prog:=X.prog) (w:=X.w) (A:=X.A.in1) (P:=λi v=>∃t,v=.int (ks i) t) ks (λi v h=>h) (j+1) (argBest (btI ks) j) _ _ _ _ _ ⟨t,rfl⟩ ⟨tb,rfl⟩ ?_))));refine b5w (b6d (b7E ?_));refine b5w (b7U (b5A ?_));cases hb:decide (ks (j+1)<ks (argBest (btI ks) j)) with
  | true =>
   rw[show btI ks (j+1) (argBest (btI ks) j)=true from hb,if_pos rfl] at eb;rw[if_pos hb];refine b5w (b7r hs3 rfl ?_);refine b5w (b7U ?_);refine b5A ⟨b6D b6M _,?_⟩;have hs4:=b7f (c:="list") hs3 (λ_=>#[u,.int (ks (j+1)) t]);exact ih (j+1) _ H2 _ u t _ (by omega) (by omega) (J4.turned (t':=s3.toks) (λb o hb e=>by rw[b5P _ _ _ _ hb];exact e) g0 g1 g3 g4 g5) sm3
    (st3.at λo e=>by rw[b5P _ _ _ _ hne];exact e) nI3 nS3 (by rw[eb];exact hs4) (by rw[eb];exact hx1) ru
  | false =>
   rw[show btI ks (j+1) (argBest (btI ks) j)=false from hb,if_neg (by decide)] at eb;rw[if_neg (λz=>by rw[show decide (ks (j+1)<ks (argBest (btI ks) j))=true from z] at hb;cases hb)];refine b5w (b7U ?_);refine b5A ⟨b6D b6M _,?_⟩;exact ih (j+1) _ H2 xb ub tb _ (by omega) (by omega) J4 sm3 st3 nI3 nS3 (by rw[eb];exact hs3) (by rw[eb];exact hx) rx
theorem a6u (L:b4O X σ Rg) (hc:X.calm=true) (ha:H a=some (.lst xs)) (fI:∀H',H' I=none->a2F X pins H' I) (fS:∀H',H' S=none->a2F X pins H' S) (hne:I≠S)
  (hk:∀i x H1 Q1,xs[i]?=some x->a0m H H1->(∀H2,a0m H1 H2->Q1 (.int (ks i)) H2)->Rg g [x] H1 Q1)
  (q:∀x H',xs[argBest (btI ks) (xs.length-1)]?=some x->a0m H H'->Q x H') (hR:∀u s',EP X pins σ Q u s'->R (.ok (.ret u)) s')
  (s:Shared) (c:Nat) (hl0:0<xs.length) (J:Inv X pins σ H s) (st:s.heap.IsListIter I a 0) (nI:H I=none) (nS:H S=none) (hs:s.heap.get? S=some { cls:=.type "list",data:=.seq #[] c }) :
  codeAny (model X.prog X.w) X.A (.builtin "min.loop" ⟨[.ref I,.ref g,.ref S],[]⟩) R s:=by
 obtain⟨its,rv,p,hz⟩:=J.list (SqL.of (K:=X.K) ha);obtain⟨f0,f1,f2,f3,f4,f5⟩:=fI H nI;have hx1:xs[0]?=some xs[0]:=b5z hl0;obtain⟨u,hu,ru⟩:=rv.get hx1;refine b6q b8D ?_;rw[b5Z b6M _];show wpAny _ X.A.in1 (seqItems? (.ref S) >>= _) _ _ s;refine b5w (b6G hs rfl ?_);refine b5w (b7H ?_);refine b9v st p.isList (x:=u) (by simpa using hu) λh' st' sb=>?_;have J1:Inv X pins σ H { s with heap:=h' }:=J.turned (t':=s.toks) (λb o hb e=>(sb.2 b hb).trans e) f0 f1 f3 f4 f5;have hs':h'.get? S=some _:=(sb.2 S (λz=>hne z.symm)).trans hs;have J2:=J1.pinned (fp:=[I,S]) (λb hb=>by
  rcases b5Q.mp hb with rfl|hb
  ·exact fI H nI
  ·rw[b5C.mp hb];exact fS H nS) (λb hb=>by
  rcases b5Q.mp hb with rfl|hb
  ·obtain⟨o,e,_,d⟩:=id st';exact⟨o,e,λv z=>by rw[d] at z;cases z⟩
  ·rw[b5C.mp hb];exact⟨_,hs',λv z=>by cases z⟩)
 show wpAny _ X.A.in1 (tryCatch (holding [u] (call (.ref g) [u])) _ >>= _) _ _ _;refine b5w (b7H (b6d ?_));refine c0j (b7y (L.run _ H _ g [u] [xs[0]] (λv H2=>v=.int (ks 0)/\a0m H H2) J2 (.cons ru .nil) (hk _ _ _ _ hx1 (a0m.refl _) λH2 s2=>⟨rfl,s2⟩)) λr s3 hq=>?_);cases r with
 | error e=>exact False.elim hq
 | ok fl =>
 cases fl with
 | next=>exact False.elim hq
 | brk=>exact False.elim hq
 | cont=>exact False.elim hq
 | ret uv =>
 obtain⟨v,H2,J3,rv3,rfl,s2⟩:=J2.after hq;obtain⟨t,rfl⟩:=rv3;have st3:s3.heap.IsListIter I a (0+1):=st'.at λo e=>(J3.pin (I,o) (b5N _ (b5N _ (a0G (by simp) e)))).1;have nI3:H2 I=none:=by
  obtain⟨o,e,_,_⟩:=id st';exact(J3.pin (I,o) (b5N _ (b5N _ (a0G (by simp) e)))).2.1
 have pS:=J3.pin (S,_) (b5N _ (b5N _ (a0G (by simp) hs')));have hs3:=pS.1;have nS3:=pS.2.1;obtain⟨g0,g1,g2,g3,g4,g5⟩:=fS H2 nS3;show wpAny _ X.A.in1 (updateSeq S _ >>= _) _ _ _;refine b5w (b7r hs3 rfl ?_);refine b5A ⟨b6D b6M _,?_⟩;have hs4:=b7f (c:="list") hs3 (λ_=>#[u,.int (ks 0) t]);exact b2m L hc ha fI fS hne hk q hR _ 0 _ H2 _ u t _ rfl (by omega) (J3.unpinned.turned (t':=s3.toks) (λb o hb e=>by rw[b5P _ _ _ _ hb];exact e) g0 g1 g3 g4 g5) s2
  (st3.at λo e=>by rw[b5P _ _ _ _ hne];exact e) nI3 nS3 hs4 hx1 ru
def b3n (Rg:Addr->List V->Hp->VK->Prop) (vs zs:List V) (H:Hp) (Q:VK):Prop:=∃(a g:Addr) (xs:List V) (ks:Nat->Int),vs=[.ref a]/\zs=[.ref g]/\H a=some (.lst xs)/\0<xs.length /\
 (∀i x H1 Q1,xs[i]?=some x->a0m H H1->(∀H2,a0m H1 H2->Q1 (.int (ks i)) H2)->Rg g [x] H1 Q1)/\∀x H',xs[argBest (btI ks) (xs.length-1)]?=some x->a0m H H'->Q x H'
theorem b2n (L:b4O X σ Rg) (hc:X.calm=true) {s:Shared} {vs zs:List V} {us ws:List Value} (J:Inv X pins σ H s) (r:a0w vs us) (rz:a0w zs ws) (h:b3n Rg vs zs H Q) :
  wpAny (model X.prog X.w) X.A (call (.builtin "min") us (([Str.ofString "key"]:List Str).zip ws)) (EP X pins σ Q) X.xe s:=by
 obtain⟨a,g,xs,ks,rfl,rfl,e,l0,hk,q⟩:=h;obtain⟨u,rfl,ru⟩:=a1Z r;obtain⟨d,rfl,rd⟩:=a1Z rz;cases ru;cases rd;obtain⟨_,its,n,rv,he⟩:=(show a0B X.prog X.w H s.heap a (.lst xs) from J.hok a _ e)
 have hlt:=b5F he;show wpAny _ _ (call (.builtin "min") [.ref a] (kwK (.ref g))) _ _ _;refine kmb_tree F.kind_min F.plain_min F.entry_min (a9C _ _) ?_;have eB:Builtin.Builtins.bindParams "min" ["key","default"] 0 { kw:=kwK (.ref g) }=pure [some (.ref g),none]:=rfl;show wpAny _ X.A.in1 (Builtin.Builtins.bindParams "min" ["key","default"] 0 { kw:=kwK (.ref g) } >>= _) _ _ s;rw[eB];show wpAny _ X.A.in1 (pyIter (.ref a) >>= _) _ _ s;refine b5w (b7v (a1t he) ?_);refine b5w (b7J ?_ (b6e _));refine b5A ⟨b6D b6M _,?_⟩;have sz:(s.heap.push { cls:=.type "list_iterator",data:=.fields #[.ref a,rawInt 0] }).objs.size=s.heap.objs.size+1:=b6h _ _;have up:∀b o,s.heap.get? b=some o->((s.heap.push { cls:=.type "list_iterator",data:=.fields #[.ref a,rawInt 0] }).push { cls:=.type "list",data:=.seq (([]:List Value).toArray) }).get? b=some o:=λb o eo=>b5y _ (b5y _ eo);have le1:s.heap.objs.size<=(s.heap.push { cls:=.type "list_iterator",data:=.fields #[.ref a,rawInt 0] }).objs.size:=by rw[sz];exact b9z _
 have ne1:s.heap.objs.size≠(s.heap.push { cls:=.type "list_iterator",data:=.fields #[.ref a,rawInt 0] }).objs.size:=by rw[sz];exact b5O (b7T _)
 refine a6u (H:=H) (a:=a) (g:=g) (xs:=xs) (ks:=ks) (Q:=Q) L hc e (λH' hn=>J.fpOk (b5G _) hn) (λH' hn=>J.fpOk le1 hn) ne1 hk q (λu s' hE=>hE) _ 0 l0 (J.kept up)
  ⟨_,b5y _ (b5D _ rfl),rfl,rfl⟩ (J.hok.fresh (b5G _)) (J.hok.fresh le1) (b5D _ rfl)
def tMinKI (Rg:St->Addr->List V->Hp->VK->Prop) (t tk:TA):TE:=λσ H Q=>t σ H λvs H1=>tk σ H1 λzs H2=>b3n (Rg σ) vs zs H2 Q
theorem b2o {Rg:St->Addr->List V->Hp->VK->Prop} {e e2:Expr} {p pos kpos:Pos} {t tk:TA} (L:∀σ,b4O X σ (Rg σ)) (hc:X.calm=true) (hg:Gl X "min") (hm:X.mg "min"=none) (ha:PA X [e] t) (hk:PK X [⟨some "key",e2,kpos⟩] tk) (h1:backTo pos (starEach [e] X.env)=(false,eval e X.env)::backTo pos (starEach [] X.env):=by rfl)
  (h2:((backTo pos (starEach [e] X.env)).any (·.1))=false:=by rfl) (h3:(backToKw pos (keywordEach [⟨some "key",e2,kpos⟩] X.env)).all (·.1.isSome)=true:=by rfl) (h4:(backToKw pos (keywordEach [⟨some "key",e2,kpos⟩] X.env)).any (·.1.isNone)=false:=by rfl) (h5:(backToKw pos (keywordEach [⟨some "key",e2,kpos⟩] X.env)).filterMap (·.1)=[Str.ofString "key"]:=by rfl) :
  PE X (.Call (.Name "min" p) [e] [⟨some "key",e2,kpos⟩] pos) (tMinKI Rg t tk):=by
 intro pins s σ H Q I h;refine b6y (a1i I hg hm a5r ?_);refine c0T (thn (ha pos pins s σ H _ I h) λus s1 ⟨vs,H1,I1,r,q⟩=>?_) h1 h2 h3 h4;refine thn (hk pos pins s1 σ H1 _ I1 q) λws s2 ⟨zs,H2,I2,rz,q2⟩=>?_;rw[h5];exact b2n (L σ) hc I2 r rz q2
end
end L2
namespace K77
open PySem L2
def noMv:Mv:=(0,0,(0,[]))
def kyv (ps ws:List Int) (k:Fr) (i:Nat):Int:=((nxt ps ws k).getD i noMv).2.1+flo ps ws ((nxt ps ws k).getD i noMv).2.2
def bst (ps ws:List Int) (k:Fr):Mv:=(nxt ps ws k).getD (argBest (btI (kyv ps ws k)) ((nxt ps ws k).length-1)) noMv
def a8G (ps ws:List Int):Nat->Fr->List Int
 | 0,_=>[]
 | f+1,k=>if k.1<(ws.length:Int) then (bst ps ws k).1::a8G ps ws f (bst ps ws k).2.2 else []
def frees (ps ws:List Int):List Int:=a8G ps ws (2*ws.length+1) (0,[0])
theorem a6v:∀{f:Nat} {k:Fr},(a8G ps ws f k).length<=f
 | 0,_=>b5G _
 | f+1,k=>by
  show(if _ then _ else _:List Int).length<=_;split
  ·rw[b5T];exact Nat.succ_le_succ a6v
  ·exact b6e _
theorem a7B (W:Wide ps ws) {k:Fr} (h:a3p ws k) (c:k.1<(ws.length:Int)):nxt ps ws k≠[]:=λe=>by
 have:=b4N W h e;rw[this] at c;exact absurd c (Int.lt_irrefl _)
theorem a3V {k:Fr} (h:nxt ps ws k≠[]):(nxt ps ws k)[argBest (btI (kyv ps ws k)) ((nxt ps ws k).length-1)]?=some (bst ps ws k):=by
 have l:=b6P.mpr h;have:=(argBest_lt (kyv ps ws k) ((nxt ps ws k).length-1)).1;unfold bst;rw[b5B,b5z (by unfold btI;omega)];rfl
theorem b4P (W:Wide ps ws) {k:Fr} (ok:a3p ws k) (h:nxt ps ws k≠[]):(bst ps ws k).2.1+flo ps ws (bst ps ws k).2.2=flo ps ws k:=by
 have hm:=b5M (a3V h);rw[a5K W ok];unfold b0x;rw[if_neg (λz=>h (b8y.mp z))];refine(a7i (ns:=(nxt ps ws k).map λm=>m.2.1+flo ps ws m.2.2) (b5K.mpr ⟨bst ps ws k,hm,rfl⟩) λx hx=>?_).symm;obtain⟨m,hm',rfl⟩:=b5K.mp hx;obtain⟨j,hj⟩:=b6J.mp hm';have jl:=(b5E.mp hj).1;have:=(argBest_lt (kyv ps ws k) ((nxt ps ws k).length-1)).2 j (by omega);have e:kyv ps ws k j=m.2.1+flo ps ws m.2.2:=by
  unfold kyv;rw[b5B,hj];rfl
 rw[e] at this;exact this
theorem b3o (W:Wide ps ws):∀{f f':Nat} {k:Fr},a3p ws k->2*(ws.length:Int)-rk k<f->2*(ws.length:Int)-rk k<f'->a8G ps ws f k=a8G ps ws f' k
 | 0,_,k,h,h1,_=>by have:=h.rk;omega
 | _,0,k,h,_,h2=>by have:=h.rk;omega
 | f+1,f'+1,k,h,h1,h2=>by
  show(if _ then _ else _:List Int)=if _ then _ else _
  split
  ·rename_i c;have hm:=b5M (a3V (a7B W h c));have up:=(a2t W h hm).1;rw[b3o W (a1U W h hm).1 (f:=f) (f':=f') (by omega) (by omega)]
  ·rfl
theorem a7C (W:Wide ps ws) {k:Fr} (h:a3p ws k) (c:k.1<(ws.length:Int)):a8G ps ws (2*ws.length+1) k=(bst ps ws k).1::a8G ps ws (2*ws.length+1) (bst ps ws k).2.2:=by
 have hm:=b5M (a3V (a7B W h c));have up:=(a2t W h hm).1;have:=h.rk;show(if _ then _ else _:List Int)=_;rw[if_pos c,b3o W (a1U W h hm).1 (f:=2*ws.length) (f':=2*ws.length+1) (by omega) (by omega)]
theorem b0y {k:Fr} (h:a3p ws k) (c:¬k.1<(ws.length:Int)):k.2.length=0/\a8G ps ws (2*ws.length+1) k=[]:=by
 obtain⟨⟨s0,k0,sk,e0⟩,_⟩:=h;refine⟨by omega,?_⟩;show(if _ then _ else _:List Int)=_;rw[if_neg c]
theorem a8y (h:r∈lawf L n st kn) (h2:leads L n rs (nx st r) (kn-1+r)=true):leads L n (r::rs) st kn=true:=by
 show(if r∈lawf L n st kn then _ else _)=_;rw[if_pos h];exact h2
theorem a7D (W:Wide ps ws):∀(m:Nat) {k:Fr},a3p ws k->2*(ws.length:Int)-rk k<=m->leads ps.length ws.length (a8G ps ws (2*ws.length+1) k) k.1 k.2.length=true/\spR ps ws (a8G ps ws (2*ws.length+1) k) k.1 k.2=flo ps ws k
 | m,k,h,hm=>by
  by_cases c:k.1<(ws.length:Int)
  ·have ne:=a7B W h c;have hb:=b5M (a3V ne);obtain⟨ok,h1,h2,h3⟩:=a1U W h hb;have up:=(a2t W h hb).1;have rb:=ok.rk
   match m with
   | 0=>omega
   | m+1 =>
    obtain⟨i1,i2⟩:=a7D W m ok (by omega);rw[a7C W h c];refine⟨a8y h1 (by rw[<-h2,<-h3];exact i1),?_⟩;show(mv ps ws k.1 k.2 (bst ps ws k).1).2.1+spR ps ws _ (mv ps ws k.1 k.2 (bst ps ws k).1).2.2.1 (mv ps ws k.1 k.2 (bst ps ws k).1).2.2.2=_;rw[<-b3i hb,i2];exact b4P W h ne
  ·obtain⟨z,e⟩:=b0y (ps:=ps) h c;rw[e];refine⟨by show decide _=true;rw[z];rfl,?_⟩;show(0:Int)=_;have:nxt ps ws k=[]:=by
    have nb:=a7y W h;cases hn:nxt ps ws k with
    | nil=>rfl
    | cons a l =>
     rw[hn] at nb;have:a.1∈lawf ps.length ws.length k.1 k.2.length:=by rw[<-nb];exact .head _
     rw[z] at this;rcases a1d.mp this with ⟨_,y⟩|⟨_,_,_,y,_⟩<;>omega
   rw[a5K W h,this];rfl
theorem a2D (W:Wide ps ws):leads ps.length ws.length (frees ps ws) 0 1=true/\spR ps ws (frees ps ws) 0 [0]=flo ps ws (0,[0]) :=
 a7D W (2*ws.length) (a2Q W.w1) (by have:=(a2Q W.w1).rk;omega)
section
variable {KK:Type} [DecidableEq KK]
theorem a2u {k:KK}:(nval kvs k).isSome=true↔k∈kvs.map (·.1):=by
 unfold nval;rw[b9C,List.find?_isSome,b5K];exact⟨λ⟨x,h,e⟩=>⟨x,h,b5X e⟩,λ⟨x,h,e⟩=>⟨x,h,b6b e⟩⟩
end
theorem a8z (h:Paired a8E xs ns):xs=ns.map V.int:=by
 induction h with
 | nil=>rfl
 | cons r _ ih=>rw[b6m,ih];cases r;rfl
theorem a6e.open {x:V} (h:a6e H x p):∃a g,x=.ref a/\H a=some (.tup [.int p.1,.ref g])/\TW H g p.2:=by
 obtain⟨a,y,z,rfl,e,h1,g,xs,rfl,e2,h2⟩:=h;cases h1;rw[a8z h2] at e2;exact⟨a,g,rfl,e,e2⟩
theorem a3E.open {x:V} (h:a3E H x m):∃a f,x=.ref a/\H a=some (.tup [.int m.1,.int m.2.1,f])/\a6e H f m.2.2:=by
 obtain⟨a,y,z,t,rfl,e,h1,h2,h3⟩:=h;cases h1;cases h2;exact⟨a,t,rfl,e,h3⟩
theorem a3r {α β:Type} {R:α->β->Prop}:∀{vs:List α} {es:List β},Paired R vs es->vs≠[]->∃vs0 v es0 e,vs=vs0++[v]/\es=es0++[e]/\Paired R vs0 es0/\R v e
 | [],_,_,h=>absurd rfl h
 | [v],[e],.cons r .nil,_=>⟨[],v,[],e,rfl,rfl,.nil,r⟩
 | v::v2::vs,e::es,.cons r t,_=>by
  obtain⟨a,b,c,d,h1,h2,h3,h4⟩:=a3r t (by simp);exact⟨v::a,b,e::c,d,by rw[h1];rfl,by rw[h2];rfl,.cons r h3,h4⟩
def FrA (aF:Addr) (H:Hp) (k:Fr) (a:Addr):Prop:=NAt H k a\/(k=(0,[0])/\a=aF)
theorem FrA.tk {k:Fr} (t:TK H H') (h:FrA aF H k a):FrA aF H' k a:=h.elim (λ⟨b,h1,h2⟩=>.inl ⟨b,t _ _ h1,t _ _ h2⟩) .inr
theorem FrA.fat {K:PySem.W.Frag} {mg:Str->Option Value} (FS:Fst K mg aF bF) {k:Fr} (h:FrA aF H k a):FAt K H k a:=by
 rcases h with ⟨b,h1,h2⟩|⟨rfl,rfl⟩
 ·exact⟨b,SqT.of h1,SqT.of h2⟩
 ·exact⟨bF,FS.a H,FS.b H⟩
theorem FrA.of {x:V} {k:Fr} (h:a6e H x k):∃a,x=.ref a/\FrA aF H k a:=by
 obtain⟨a,g,e,h1,h2⟩:=a6e.open h;exact⟨a,e,.inl ⟨g,h1,h2⟩⟩
theorem FrA.ask {K:PySem.W.Frag} {mg:Str->Option Value} (FS:Fst K mg aF bF) {k:Fr} (W:Wide ps ws) (ok:a3p ws k) (hp:TW H p ps) (hq:TW H q ws) (h:FrA aF H k a):∃g,Ask K H p q a g ps ws k.2 k.1:=by
 obtain⟨p2,p6,w1,w7,bp,bw⟩:=W;obtain⟨⟨s0,k0,sk,e0⟩,bd⟩:=ok;have w10:ws.length<=7:=by split at w7<;>omega
 have bg:Bg k.2:=λx hx=>⟨(bd x hx).1,by have:=(bd x hx).2;unfold B30 at *;omega⟩
 have key:∃g,SqT K H a [.int k.1,.ref g]/\Gp K H g k.2:=by
  rcases h with ⟨b,h1,h2⟩|⟨rfl,rfl⟩
  ·exact⟨b,SqT.of h1,.inl h2⟩
  ·exact⟨bF,FS.a H,.inr ⟨FS.b H,by simp⟩⟩
 obtain⟨g,h1,h2⟩:=key;exact⟨g,hp,hq,h1,h2,p2,p6,w7,s0,by omega,λ_=>by omega,by omega,bw,bp,bg⟩
structure LK (lw:Addr) (H H':Hp):Prop where
 t:TK H H'
 l:∀a xs,a≠lw->H a=some (.lst xs)->H' a=some (.lst xs)
theorem LK.of (s:a0m H H'):LK lw H H':=⟨TK.of s,λ_ _ _ h=>s _ _ h⟩
theorem LK.updL (h:H lw=some (.lst ys)):LK lw H (L2.upd H lw o):=⟨TK.upd h,λx xs n e=>by rw[a0h n];exact e⟩
theorem LK.updD (h:H d=some u) (n1:∀xs,HO.tup xs≠u) (n2:∀xs,HO.lst xs≠u):LK lw H (L2.upd H d o):=⟨λa xs e=>by rw[a0h (a0r e h (n1 _))];exact e,λx xs _ e=>by rw[a0h (a0r e h (n2 _))];exact e⟩
abbrev FE:=Fr × Addr × V
def Ent (aF lw:Addr) (ps ws:List Int) (H:Hp) (p:FE):Prop:=FrA aF H p.1 p.2.1/\Rch ps ws p.1/\∃l xs,p.2.2=.ref l/\l≠lw/\H l=some (.lst xs)/\Mvs H xs (nxt ps ws p.1)
theorem Ent.lk (k:LK lw H H') (h:Ent aF lw ps ws H p):Ent aF lw ps ws H' p:=by
 obtain⟨h1,h2,l,xs,e,n,hl,hm⟩:=h;exact⟨h1.tk k.t,h2,l,xs,e,n,k.l _ _ n hl,Mvs.tk k.t hm⟩
def DN (P:Program) (w:World) (H:Hp) (d:Addr) (kvs:List FE):Prop:=H d=some (NDO (a0k P w) d kvs)\/(H d=some (.dK [])/\kvs=[])
theorem DN.ob {P:Program} {w:World} (h:DN P w H d kvs):∃o,H d=some o/\(∀xs,HO.tup xs≠o)/\∀xs,HO.lst xs≠o:=by
 rcases h with e|⟨e,_⟩
 ·exact⟨_,e,λxs z=>(by cases z),λxs z=>(by cases z)⟩
 ·exact⟨_,e,λxs z=>(by cases z),λxs z=>(by cases z)⟩
theorem DN.keep {P:Program} {w:World} (k:∀o,H d=some o->H' d=some o) (h:DN P w H d kvs):DN P w H' d kvs:=h.elim (λe=>.inl (k _ e)) λe=>.inr ⟨k _ e.1,e.2⟩
theorem b2p {k:Fr} (h:nval kvs k=some v):∃p∈kvs,p.1=k/\p.2.2=v:=by
 unfold nval at h;obtain⟨p,hp,e⟩:=b6H.mp h;exact⟨p,List.mem_of_find?_eq_some hp,by have:=List.find?_some hp;exact b5X this,e⟩
theorem a4H {k:Fr} (h:k∈kvs.map (·.1)):∃p∈kvs,p.1=k/\nval kvs k=some p.2.2:=by
 obtain⟨v,hv⟩:=Option.isSome_iff_exists.mp (a2u.mpr h);obtain⟨p,h1,h2,h3⟩:=b2p hv;exact⟨p,h1,h2,by rw[h3];exact hv⟩
theorem a7E {k:Fr} (h:k∉kvs.map (·.1)):nput kvs k a v=kvs++[(k,a,v)]:=by
 unfold nput;rw[if_neg λz=>h (a2u.mp z)]
def rNotF (P:Program) (w:World) (K:PySem.W.Frag):R2:=λx y H Q=>∃a d k kvs,x=.ref a/\y=.ref d/\DN P w H d kvs/\(∀p∈kvs,FAt K H p.1 p.2.1)/\FAt K H k a/\∀H',H'=upd H d (NDO (a0k P w) d kvs)->Q (.bl (!(nval kvs k).isSome)) H'
theorem b4Q {P:Program} {w:World} {K:PySem.W.Frag} (hu:X.A.units+2<cLine) (hP:X.prog=P:=by rfl) (hw:X.w=w:=by rfl) (hK:X.K=K:=by rfl):OpR X (compareOp .NotIn) (rNotF P w K):=by
 subst hP;subst hw;subst hK;intro pins s σ H x y v u Q I rx ry h;obtain⟨a,d,k,kvs,e1,e2,h1,h2,h3,q⟩:=h;exact b4p (N:=nkN X) hu pins s σ H x y v u Q I rx ry ⟨a,d,k,kvs,e1,e2,⟨h1,h2⟩,h3,q _ rfl⟩
def sPutF (P:Program) (w:World) (K:PySem.W.Frag) (td ty tv:TE):TS:=λD σ H=>tv σ H λv H1=>td σ H1 λx H2=>ty σ H2 λy H3=>∃d a k kvs,x=.ref d/\y=.ref a/\DN P w H3 d kvs/\(∀p∈kvs,FAt K H3 p.1 p.2.1)/\FAt K H3 k a/\kvs.length<sizeLine/\∀H',H'=upd H3 d (NDO (a0k P w) d (nput kvs k a v))->D.nx σ H'
theorem b0z {P:Program} {w:World} {K:PySem.W.Frag} {o i value:Expr} {td ty tv:TE} (hu:X.A.units+2<cLine) (ho:PE X o td) (hi:PE X i ty) (hv:PE X value tv) (hs:swapsWith value (some (.Subscript o i pos')) pos.line X.env=pure false) (m1:a1u td) (m2:a1u ty) (m3:a1u tv) (hP:X.prog=P:=by rfl) (hw:X.w=w:=by rfl) (hK:X.K=K:=by rfl) :
  PS X (.Assign [.Subscript o i pos'] value pos) (sPutF P w K td ty tv):=by
 subst hP;subst hw;subst hK;intro pins s σ H D I h;refine b4o (N:=nkN X) hu ho hi hv hs pins s σ H D I ?_;refine m3 _ _ _ _ (λv H1 h=>m1 _ _ _ _ (λx H2 h=>m2 _ _ _ _ (λy H3 h=>?_) h) h) h;obtain⟨d,a,k,kvs,e1,e2,h1,h2,h3,h4,q⟩:=h;exact⟨d,a,k,kvs,e1,e2,⟨h1,h2⟩,h3,h4,q _ rfl⟩
def tGetF (P:Program) (w:World) (K:PySem.W.Frag) (td ty:TE):TE:=λσ H Q=>td σ H λx H1=>ty σ H1 λy H2=>∃d a k kvs v,x=.ref d/\y=.ref a/\DN P w H2 d kvs/\(∀p∈kvs,FAt K H2 p.1 p.2.1)/\FAt K H2 k a/\nval kvs k=some v/\Q v H2
theorem a4I {P:Program} {w:World} {K:PySem.W.Frag} {o i:Expr} {td ty:TE} (hu:X.A.units+2<cLine) (ho:PE X o td) (hi:PE X i ty) (hs:NoSl i) (m1:a1u td) (m2:a1u ty) (hP:X.prog=P:=by rfl) (hw:X.w=w:=by rfl) (hK:X.K=K:=by rfl):PE X (.Subscript o i pos) (tGetF P w K td ty):=by
 subst hP;subst hw;subst hK;intro pins s σ H Q I h;refine b4q (N:=nkN X) hu ho hi hs pins s σ H Q I ?_;refine m1 _ _ _ _ (λx H2 h=>m2 _ _ _ _ (λy H3 h=>?_) h) h;obtain⟨d,a,k,kvs,v,e1,e2,h1,h2,h3,h4,q⟩:=h;exact⟨d,a,k,kvs,v,e1,e2,⟨h1,h2⟩,h3,h4,q⟩
variable {P:Program} {w:World} {K:PySem.W.Frag} {mg:Str->Option Value} {base:Heap} {f:Addr} {fd:FuncData}
theorem hu2 {A:Around} {k:Nat} (hr:a1z k A):A.units+2<cLine:=by have:=hu4 hr;omega
theorem a3s (h:n<=2000):n<sizeLine:=b8i h (by decide)
abbrev NRe:List Str:=["prices","weights","reached","waiting","frontier"]
def Wt (aF:Addr) (ps ws:List Int) (H:Hp) (x:V) (k:Fr):Prop:=∃a,x=.ref a/\FrA aF H k a/\Rch ps ws k
theorem Wt.tk {x:V} {k:Fr} (t:TK H H') (h:Wt aF ps ws H x k):Wt aF ps ws H' x k:=by
 obtain⟨a,e,h1,h2⟩:=h;exact⟨a,e,h1.tk t,h2⟩
theorem pwt {α β:Type} {R S:α->β->Prop}:∀{xs:List α} {ys:List β},(∀x y,y∈ys->R x y->S x y)->Paired R xs ys->Paired S xs ys
 | _,_,_,.nil=>.nil
 | _,_,h,.cons r t=>.cons (h _ _ (.head _) r) (pwt (λx y hy=>h x y (.tail _ hy)) t)
structure Rd (P:Program) (w:World) (aF lw:Addr) (ps ws:List Int) (H:Hp) (d:Addr) (kvs:List FE):Prop where
 dd:H d=some (NDO (a0k P w) d kvs)
 en:∀p∈kvs,Ent aF lw ps ws H p
 nd:(kvs.map (·.1)).Nodup
 all:∀k,k∈kvs.map (·.1)↔Rch ps ws k
 le:kvs.length<=60
def spRe (P:Program) (w:World) (aF:Addr):Sp:=λvs H Q _=>∃(p q:Addr) (ps ws:List Int),vs=[.ref p,.ref q]/\TW H p ps/\TW H q ws/\Wide ps ws /\
 ∀(d lw:Addr) kvs H',a0m H H'->H d=none->Rd P w aF lw ps ws H' d kvs->Q (.ref d) H'
theorem scRe:a0l NRe ["prices","weights"] (a0d a2O):=fsk
theorem ndRe:(("move":Str)::NRe).Nodup:=by decide +kernel
theorem a8A {aF bF:Addr} (F:Fun K "moves_reached" "moves_reached" a2O f fd) (FS:Fst K mg aF bF) (GM:Fns P w K mg base ["prices","weights","frontier"] "moves" (a4D K) 3) (ml:mg "len"=none):a0Y P w K mg base CX0 4 f fd ["prices","weights"] (spRe P w aF):=by
 refine F.ok (k:=3) scRe (λvs H Q E h=>?_) (λcdv A outer s H vs Q E hr h=>?_)
 ·obtain⟨p,q,ps,ws,rfl,_⟩:=h;rfl
 obtain⟨p,q,ps,ws,rfl,hp,hq,W,qq⟩:=h;refine⟨_,a0e (psA (i:=2) scRe a7b)
  (a0e (psA (i:=3) scRe (a1n (a0a (a5S (v:=.ref aF) (by rfl) FS.m rfl) a0f)))
  (a0e (a4a b6Q (a0D b3G (pln ml (pv 3)) a0g (nomark _))
   (a0e (psA (i:=4) scRe (pe_bm0 b6I PySem.F.slot_list_pop PySem.F.type_list_pop mt_pop (pv 3)))
   (a0i (a1q (a0D (b4Q (P:=P) (w:=w) (K:=K) (hu2 hr)) (pv 4) (pv 2) rfl)
    (a0e (b0z (P:=P) (w:=w) (K:=K) (hu2 hr) (pv 2) (pv 4) (a2l (pcF GM hr (a0a (pv 0) (a0a (pv 1) (a0a (pv 4) a0f))))) rfl a0F a0F a2m)
    (a0i (a1h (a4h b6I PySem.F.slot_list_extend PySem.F.type_list_extend a5f (pv 3) (a0a (a1A (M:=NRe) rfl (cso (a0d a2O) NRe) ndRe rfl (a2l (a4I (P:=P) (w:=w) (K:=K) (hu2 hr) (pv 2) (pv 4) (λ_ _=>rfl) a0F a0F)) a2m (λcl C s0 H0 fp=>⟨a0I,pxA (ixT K) (pv 0) a0g⟩)) a0f))))) a0K))))
  (a0i (a0q (pv 2))))),?_⟩
 refine λd hd=>?_;have s1:=a0c hd (.dK []);have g1:upd H d (.dK []) d=some (.dK []):=a0b;generalize upd H d (.dK [])=H1 at s1 g1 ⊢;refine⟨(by show 1<=sizeLine;decide),λlw hlw=>?_⟩;have s2:=a0c hlw (.lst [.ref aF]);have g2:upd H1 lw (.lst [.ref aF]) lw=some (.lst [.ref aF]):=a0b;have hlw0:H lw=none:=s1.free hlw;have ndl:d≠lw:=λz=>by rw[<-z,g1] at hlw;cases hlw
 generalize upd H1 lw (.lst [.ref aF])=H2 at s2 g2 ⊢;refine⟨λm σ H'=>a0m H H'/\∃(kvs:List FE) (ys:List V) (ks:List Fr) (x4:Option V),σ=[some (.ref p),some (.ref q),some (.ref d),some (.ref lw),x4]/\DN P w H' d kvs/\(∀e∈kvs,Ent aF lw ps ws H' e)/\(kvs.map (·.1)).Nodup/\H' lw=some (.lst ys)/\Paired (Wt aF ps ws H') ys ks /\
   ((0,[0])∈kvs.map (·.1)\/(0,[0])∈ks)/\(∀k∈kvs.map (·.1),∀m∈nxt ps ws k,m.2.2∈kvs.map (·.1)\/m.2.2∈ks)/\kvs.length+pots ps ws ks<=60/\m=pots ps ws ks,
  ⟨_,s1.trans s2,[],[.ref aF],[(0,[0])],_,rfl,.inr ⟨s2 _ _ g1,rfl⟩,λe he=>(by cases he),.nil,g2,.cons ⟨aF,rfl,.inr ⟨rfl,rfl⟩,.one⟩ .nil,.inr (.head _),λk hk=>(by cases hk),?_,rfl⟩,λm σ H3 hP=>?_⟩
 ·have:=b0w W;rw[a3q];show 0+(_+0)<=60;omega
 obtain⟨s3,kvs,ys,ks,x4,rfl,hdn,hen,hnd,hlw3,hys,hf0,hcl,hle,rfl⟩:=hP;have ly:ys.length=ks.length:=hys.length;refine⟨_,rfl,lw,_,rfl,.inl (SqL.of hlw3),_,_,rfl,rfl,_,rfl,a3D (λc=>?_) (λc=>?_)⟩
 ·have nv:ys≠[]:=λz=>by rw[z] at c;exact absurd (b5X c) (by decide)
  refine⟨_,λσ' H' z=>z,?_⟩;obtain⟨vs0,v,ks0,k,rfl,rfl,pe0,a,rfl,ha,hR⟩:=a3r hys nv;refine⟨_,rfl,.inl ⟨rfl,_,SqL.of hlw3⟩,lw,vs0++[.ref a],.ref a,rfl,rfl,hlw3,by simp,?_⟩;rw[List.dropLast_concat];have lk4:LK lw H3 (upd H3 lw (.lst vs0)):=LK.updL hlw3;have g4:upd H3 lw (.lst vs0) lw=some (.lst vs0):=a0b;have s4:a0m H (upd H3 lw (.lst vs0)):=a0n hlw0 s3;have dn4:DN P w (upd H3 lw (.lst vs0)) d kvs:=hdn.keep λo e=>by rw[a0h ndl];exact e
  generalize upd H3 lw (.lst vs0)=H4 at lk4 g4 s4 dn4 ⊢;have en4:=λe he=>(hen e he).lk lk4;have fr4:=ha.tk lk4.t;have pe4:=Paired.mapP pe0 λ_ _ z=>Wt.tk lk4.t z;have ep:pots ps ws (ks0++[k])=pots ps ws ks0+pot ps ws k:=by rw[a4G,a3q];rfl
  have kpos:=a6t (ps:=ps) (ws:=ws) (k:=k);refine⟨_,rfl,_,rfl,a,d,k,kvs,rfl,rfl,dn4,λe he=>(en4 e he).1.fat FS,fr4.fat FS,λH5 e5=>?_⟩;obtain⟨od,hod,no1,no2⟩:=dn4.ob;have lk5:LK lw H4 (upd H4 d (NDO (a0k P w) d kvs)):=LK.updD hod no1 no2;have s5:a0m H (upd H4 d (NDO (a0k P w) d kvs)):=a0n hd s4;have g5:upd H4 d (NDO (a0k P w) d kvs) lw=some (.lst vs0):=by rw[a0h (Ne.symm ndl)];exact g4
  have d5:upd H4 d (NDO (a0k P w) d kvs) d=some (NDO (a0k P w) d kvs):=a0b;rw[<-e5] at lk5 s5 g5 d5;clear e5;have en5:=λe he=>(en4 e he).lk lk5;have fr5:=fr4.tk lk5.t;have pe5:=Paired.mapP pe4 λ_ _ z=>Wt.tk lk5.t z;have okk:=hR.ok W;refine⟨_,rfl,a3D (λc1=>?_) (λc1=>?_)⟩
  ·have nk:k∉kvs.map (·.1):=λz=>by rw[a2u.mpr z] at c1;cases c1
   obtain⟨g,ak⟩:=fr5.ask FS W okk (s5 _ _ hp) (s5 _ _ hq);refine⟨λv H6=>∃l xs,v=.ref l/\a0m H5 H6/\H5 l=none/\H6 l=some (.lst xs)/\Mvs H6 xs (nxt ps ws k),⟨_,rfl,_,rfl,_,rfl,p,q,a,g,ps,ws,k.2,k.1,rfl,ak,λl H6 xs s6 hn6 hl6 hm6=>⟨l,xs,rfl,s6,hn6,hl6,hm6⟩⟩,λv H6 hv=>?_⟩;obtain⟨l,xs,rfl,s6,hn6,hl6,hm6⟩:=hv;have nl:l≠lw:=λz=>by rw[z,g5] at hn6;cases hn6
   have d6:=s6 _ _ d5;have g6:=s6 _ _ g5;have en6:=λe he=>(en5 e he).lk (LK.of s6);have fr6:=fr5.tk (TK.of s6);have pe6:=Paired.mapP pe5 λ_ _ z=>Wt.tk (TK.of s6) z;have sl:kvs.length<sizeLine:=a3s (by omega);refine⟨_,rfl,_,rfl,d,a,k,kvs,rfl,rfl,.inl d6,λe he=>(en6 e he).1.fat FS,fr6.fat FS,sl,λH7 e7=>?_⟩;rw[a7E nk] at e7;have lk7:LK lw H6 (upd H6 d (NDO (a0k P w) d (kvs++[(k,a,.ref l)]))):=LK.updD d6 (λxs z=>by cases z) (λxs z=>by cases z);have s7:a0m H (upd H6 d (NDO (a0k P w) d (kvs++[(k,a,.ref l)]))):=a0n hd (s5.trans s6);have g7:upd H6 d (NDO (a0k P w) d (kvs++[(k,a,.ref l)])) lw=some (.lst vs0):=by rw[a0h (Ne.symm ndl)];exact g6
   have d7:upd H6 d (NDO (a0k P w) d (kvs++[(k,a,.ref l)])) d=some (NDO (a0k P w) d (kvs++[(k,a,.ref l)])):=a0b;have en7:∀e∈kvs++[(k,a,.ref l)],Ent aF lw ps ws (upd H6 d (NDO (a0k P w) d (kvs++[(k,a,.ref l)]))) e:=λe he=>by
    rcases b5W.mp he with he|he
    ·exact(en6 e he).lk lk7
    ·rw[b5C.mp he];exact Ent.lk lk7 ⟨fr6,hR,l,xs,rfl,nl,hl6,hm6⟩
   have pe7:=Paired.mapP pe6 λ_ _ z=>Wt.tk lk7.t z;rw[<-e7] at lk7 s7 g7 d7 en7 pe7;clear e7;have ke:(kvs++[(k,a,V.ref l)]).map (·.1)=kvs.map (·.1)++[k]:=by rw[b5H];rfl
   have nd7:((kvs++[(k,a,V.ref l)]).map (·.1)).Nodup:=by
    rw[ke];exact c0N.mpr ⟨hnd,b6S _ _,λx hx y hy e=>nk (by rw[<-b5C.mp hy,<-e];exact hx)⟩
   obtain⟨e7,he7,ek,nv7⟩:=a4H (kvs:=kvs++[(k,a,V.ref l)]) (k:=k) (by rw[ke];simp);obtain⟨_,_,l7,xs7,ev,_,hl7,hm7⟩:=en7 e7 he7;rw[ek] at hm7;rw[ev] at nv7;refine⟨_,rfl,.inl ⟨rfl,_,SqL.of g7⟩,λv H'=>v=.ref l7/\H7=H',⟨_,rfl,_,rfl,d,a,k,_,_,rfl,rfl,.inl d7,λe he=>(en7 e he).1.fat FS,(fr6.tk lk7.t).fat FS,nv7,rfl,rfl⟩,λv H' hv=>?_⟩;obtain⟨rfl,rfl⟩:=hv;have lx:xs7.length=(nxt ps ws k).length:=hm7.length;have lxx:(nxt ps ws k).length<=100:=by
    have:=a4A ps ws k.1 k.2 (ps.length-1);have e:(nxt ps ws k).length=(rws ps ws k.1 k.2 (ps.length-1)).length:=b5x ..;have:=W.p6;omega
   refine⟨l7,xs7,rfl,SqL.of hl7,λd2 hd2=>?_⟩;refine⟨λi H'=>a0m H7 H'/\∃zs,H' d2=some (.lst zs)/\Paired (a6e H') zs (((nxt ps ws k).take i).map (·.2.2)),⟨a0c hd2 _,[],a0b,.nil⟩,λi H' _ hP=>SqL.of (hP.1 _ _ hl7),λi x H' hx hP=>?_,λH8 hP=>?_⟩
   ·obtain⟨s8,zs,hz,pz⟩:=hP;obtain⟨m,hm,mx⟩:=Paired.right_of hm7 i x hx;obtain⟨t,fx,rfl,ht,hfx⟩:=a3E.open (a3E.tk (TK.of s8) mx);have lz:zs.length<=100:=by
     have:=pz.length;rw[this,b5x,b5R];omega
    refine a0y ⟨_,rfl,t,_,_,_,rfl,rfl,SqT.of ht,rfl,zs,hz,a0j (by omega),a0n hd2 s8,_,a0b,?_⟩;have tk:((nxt ps ws k).take (i+1)).map (·.2.2)=((nxt ps ws k).take i).map (·.2.2)++[m.2.2]:=by rw[b6f,hm,b5H];rfl
    rw[tk];exact L2.Paired.appendP (Paired.mapP pz λ_ _ z=>a6e.tk (TK.upd hz) z) (.cons (a6e.tk (TK.upd hz) hfx) .nil)
   ·obtain⟨s8,zs,hz,pz⟩:=hP;rw[lx,b6z] at pz;have lz:zs.length<=100:=by
     have:=pz.length;rw[this,b5x];omega
    have g8:=s8 _ _ g7;have st:=b2l W okk;have lp:=a7A (ps:=ps) (ws:=ws) (ks:=ks0);have lv:vs0.length=ks0.length:=pe0.length;rw[ep] at hle;refine⟨lw,d2,vs0,zs,rfl,rfl,g8,hz,b7n (a3s (by omega)),?_⟩;refine⟨_,?_,a0n hlw0 (s7.trans s8),kvs++[(k,a,.ref l)],vs0++zs,ks0++(nxt ps ws k).map (·.2.2),_,rfl,.inl ?_,?_,nd7,a0b,?_,?_,?_,?_,rfl⟩
    ·rw[a4G,ep];omega
    ·rw[a0h ndl];exact s8 _ _ d7
    ·exact λe he=>((en7 e he).lk (LK.of s8)).lk (LK.updL g8)
    ·refine L2.Paired.appendP (Paired.mapP pe7 λ_ _ z=>(z.tk (TK.of s8)).tk (TK.upd g8)) ?_;refine pwt (λx m hm hx=>?_) pz;obtain⟨m',hm',rfl⟩:=b5K.mp hm;obtain⟨b,rfl,hb⟩:=FrA.of (aF:=aF) (a6e.tk (TK.upd (o:=.lst (vs0++zs)) g8) hx);exact⟨b,rfl,hb,.step hR hm'⟩
    ·rcases hf0 with z|z
     ·exact .inl (by rw[ke];exact b6u _ z)
     ·rcases b5W.mp z with z|z
      ·exact .inr (b6u _ z)
      ·exact .inl (by rw[ke,b5C.mp z];simp)
    ·intro k' hk' m' hm';rw[ke] at hk' ⊢;rcases b5W.mp hk' with z|z
     ·rcases hcl k' z m' hm' with y|y
      ·exact .inl (b6u _ y)
      ·rcases b5W.mp y with y|y
       ·exact .inr (b6u _ y)
       ·exact .inl (by rw[b5C.mp y];simp)
     ·rw[b5C.mp z] at hm';exact .inr (b5N _ (b5K.mpr ⟨m',hm',rfl⟩))
    ·rw[a4G,b5J];show kvs.length+1+_<=_;omega
  ·have ik:k∈kvs.map (·.1):=by
    refine a2u.mp ?_;cases hz:(nval kvs k).isSome with
    | true=>rfl
    | false=>rw[hz] at c1;exact absurd rfl c1
   refine⟨_,?_,s5,kvs,vs0,ks0,_,rfl,.inl d5,en5,hnd,g5,pe5,?_,?_,?_,rfl⟩
   ·omega
   ·rcases hf0 with z|z
    ·exact .inl z
    ·rcases b5W.mp z with z|z
     ·exact .inr z
     ·exact .inl (by rw[b5C.mp z];exact ik)
   ·intro k' hk' m' hm';rcases hcl k' hk' m' hm' with y|y
    ·exact .inl y
    ·rcases b5W.mp y with y|y
     ·exact .inr y
     ·exact .inl (by rw[b5C.mp y];exact ik)
   ·omega
 ·have nv:ys=[]:=by
   cases ys with
   | nil=>rfl
   | cons y t=>exact absurd (b6b (by simp only[b5T];omega)) c
  rw[nv] at ly;have zk:ks=[]:=b6g.mp ly.symm;subst zk;have f0:(0,[0])∈kvs.map (·.1):=hf0.elim id λz=>by cases z
  have d3:H3 d=some (NDO (a0k P w) d kvs):=hdn.elim id λ⟨_,z⟩=>by rw[z] at f0;cases f0
  refine⟨_,rfl,qq d lw kvs H3 s3 hd ⟨d3,hen,hnd,λk=>⟨λhk=>?_,λhk=>a8x f0 (λk hk m hm=>(hcl k hk m hm).elim id λz=>by cases z) hk⟩,by omega⟩⟩;obtain⟨e,he,rfl⟩:=b5K.mp hk;exact(hen e he).2.1
def b0A:Expr:=match a0H a1E with
 | [_,_,.For _ (.Call _ _ [⟨_,e,_⟩,_] _) _ _ _,_]=>e
 | _=>.Constant .none 0 ⟨0,0,0,0⟩
def lamP3:Arguments:=match b0A with | .Lambda p _ _ _=>p|_=>a0N a1E
def lamB3:Expr:=match b0A with | .Lambda _ b _ _=>b|e=>e
def b0B:Scope:=match b0A with | .Lambda _ _ s _=>s|_=>a0d a1E
def b4R:Pos:=match b0A with | .Lambda _ _ _ p=>p|_=>⟨0,0,0,0⟩
abbrev b2q:Str:=(("frontier_floors":Str)++".<locals>.")++"<lambda>"
abbrev lamK3 (c':Addr) (pm ctv:Value):Obj:=PySem.W.kla_obj "<lambda>" b2q lamP3 lamB3 b0B [] pm c' ctv
example:b0A=.Lambda lamP3 lamB3 b0B b4R:=rfl
theorem scLam3:a1W b0B ["one"] []:=⟨rfl,rfl,rfl,(by show(["one"]:List Str).Nodup;decide +kernel),by decide +kernel,by decide +kernel,(by show ∀y∈b0B.names,y.2=.free->y.1∈([]:List Str);decide +kernel),(by show ∀x∈([]:List Str),b0B.names.lookup x=some .free;decide +kernel)⟩
def lamR3 (K:PySem.W.Frag):Addr->List V->Hp->VK->Prop:=λg vs H Q=>∃(c':Addr) (pm ctv:Value) (a:Addr) (k:Fr),H g=some (exA g (lamK3 c' pm ctv))/\H c'=some (cdA c' b2q)/\vs=[.ref a]/\FAt K H k a /\
 ∀t H',a0m H H'->H' t=some (.tup [.int k.1,.int (k.2.length:Int)])->Q (.ref t) H'
theorem b0C:unt [] H=H:=funext λb=>a0p (by simp)
theorem b4S (ml:mg "len"=none):a3F P w K mg base 1 (lamR3 K) where
 at':=λ⟨c',pm,ctv,a,k,e,_⟩=>⟨_,_,_,_,e⟩
 run:=λA outer s H g us vs Q hr e0 r' h=>by
  obtain⟨c',pm,ctv,a,k,eg,ec',rfl,hk,q⟩:=h;have lu:us.length=1:=by rw[<-r'.length];rfl
  refine a2p (k:=0) (cvs:=[]) scLam3 hr e0 eg ec' (by simp) (λj x c0 hj=>by simp at hj) rfl r' rfl ?_ λxe hr'=>⟨_,a0Z (a0a (pxA (ixT K) (pv 0) a0g) (a0a (pln ml (pxA (ixT K) (pv 0) a0g)) a0f)),?_⟩
  ·match us,lu with
   | [u1],_=>rfl
  ·obtain⟨b,h1,h2⟩:=hk;have e1:SqT K (unt [] H) a [.int k.1,.ref b]:=by rw[b0C];exact h1
   have e2:SqT K (unt [] H) b (k.2.map V.int):=by rw[b0C];exact h2
   refine⟨_,rfl,a,_,_,_,rfl,rfl,e1,(rfl:atI [V.int k.1,.ref b] 0=_),_,rfl,a,_,_,_,rfl,rfl,e1,(rfl:atI [V.int k.1,.ref b] 1=_),b,_,rfl,.inr e2,(by show 2<=sizeLine;decide),λt2 ht2 hn=>?_⟩;refine q t2 _ (a2P (a0c ht2 _)) (a4E hn ?_);rw[a0b,b5x]
theorem Kp.lk (k:Kp S H H'):LK lw H H':=⟨k.tk,λ_ _ _ e=>k.lst e⟩
abbrev NFl:List Str:=["prices","weights","reached","floors","frontier"]
structure Told (aF:Addr) (ps ws:List Int) (H:Hp) (us:List FE):Prop where
 en:∀p∈us,FrA aF H p.1 p.2.1/\p.2.2=.int (flo ps ws p.1)
 up:(us.map (·.1)).Pairwise LxP
 nd:(us.map (·.1)).Nodup
 all:∀k,k∈us.map (·.1)↔Rch ps ws k
 le:us.length<=60
def spFl (aF:Addr) (S:Tbs):Sp:=λvs H Q _=>∃(p q:Addr) (ps ws:List Int),vs=[.ref p,.ref q]/\TW H p ps/\TW H q ws/\Wide ps ws/\Tb S H /\
 ∀(d:Addr) out us H',Kp S H H'->(∀o,(∀zs,o≠.tbl zs)->H d≠some o)->H' d=some (.lst out)->Paired (IPr H') out us->Told aF ps ws H' us->Q (.ref d) H'
theorem scFl:a0l NFl ["prices","weights"] (a0d a1E):=fsk
theorem ndFl:(("move":Str)::NFl).Nodup:=by decide +kernel
def kf (p:FE):List Int:=[p.1.1,(p.1.2.length:Int)]
theorem lex2 (h:a<c\/(a=c/\b<d)):HT.a0x [a,b] [c,d]=true:=by
 simp only[HT.a0x];rcases h with h|⟨h1,h2⟩
 ·simp[h,Int.ne_of_lt h]
 ·simp[h1,h2,Int.ne_of_lt h2]
def flE (ps ws:List Int) (l:List FE):List FE:=l.map λp=>(p.1,p.2.1,V.int (flo ps ws p.1))
theorem a2R:(flE ps ws l).map (·.1)=l.map (·.1):=by
 unfold flE;rw[b6r];rfl
theorem a3t (h:e∈flE ps ws l):∃p∈l,e=(p.1,p.2.1,V.int (flo ps ws p.1)):=by
 obtain⟨p,hp,rfl⟩:=b5K.mp h;exact⟨p,hp,rfl⟩
def SX (d:Addr) (H H':Hp):Prop:=∀b o,b≠d->H b=some o->H' b=some o
theorem SX.upd (h:SX d H H'):SX d H (L2.upd H' d o):=λb u n e=>by rw[a0h n];exact h b u n e
theorem SX.then (h:SX d H H1) (s:a0m H1 H2):SX d H H2:=λb u n e=>s _ _ (h b u n e)
theorem SX.lk (h:SX d H H') (hd:H d=some u) (n1:∀xs,HO.tup xs≠u) (n2:∀xs,HO.lst xs≠u):LK lw H H':=⟨λa xs e=>h a _ (a0r e hd (n1 _)) e,λa xs _ e=>h a _ (a0r e hd (n2 _)) e⟩
theorem before (W:Wide ps ws) {out:List FE} {i:Nat} (hi:out[i]?=some e) (pw:out.Pairwise (NOrd true kf)) (all:∀k,k∈out.map (·.1)↔Rch ps ws k) (hm:m∈nxt ps ws e.1):m.2.2∈(out.take i).map (·.1):=by
 have he:Rch ps ws e.1:=(all _).mp (b5K.mpr ⟨e,b5M hi,rfl⟩);have up:=(a2t W (he.ok W) hm).2;obtain⟨e2,h2,ek⟩:=b5K.mp ((all _).mpr (he.step hm));obtain⟨j,hj,ej⟩:=b7i.mp h2;obtain⟨hil,ei⟩:=b5E.mp hi;rw[<-ek] at up ⊢;rcases Nat.lt_trichotomy j i with c|c|c
 ·refine b5K.mpr ⟨e2,?_,rfl⟩;rw[<-ej];exact b7i.mpr ⟨j,by rw[b5R];omega,by rw[List.getElem_take]⟩
 ·subst c;rw[<-ej,ei] at up;omega
 ·have:=b7g.mp pw i j hil hj c;rw[ei,ej] at this;unfold NOrd at this;rw[if_pos rfl] at this;have y:HT.a0x (kf e) (kf e2)=true:=lex2 (by rcases up with z|z;(exact .inl z);exact .inr ⟨z.1,by omega⟩);rw[y] at this;cases this
theorem b0D (F:Fun K "frontier_floors" "frontier_floors" a1E f fd) (hcd:fd.code=.ref c0) (LC:b1f K mg base c0 T bm) (nd:Dst S) (mT:(T,b4R,b2q)∈S) (FS:Fst K mg aF bF) (GR:Fns P w K mg base ["prices","weights"] "moves_reached" (spRe P w aF) 4) (ml:mg "len"=none) (mS:mg "sorted"=none) (mn:mg "min"=none):a0Y P w K mg base CX0 5 f fd ["prices","weights"] (spFl aF S):=by
 refine F.okC (k:=4) scFl (λvs H Q E h=>?_) (λA outer s H vs Q E hr h=>?_)
 ·obtain⟨p,q,ps,ws,rfl,_⟩:=h;rfl
 obtain⟨p,q,ps,ws,rfl,hp,hq,W,tab,qq⟩:=h;have LM:a8l (a4S CX0 P w K mg base NFl "frontier_floors" (a0d a1E) f fd.code A outer s H E).nox c0 T bm:=⟨hcd,LC.hd,LC.hbm,LC.bo,LC.b1,LC.b2,LC.b3,LC.b4⟩
 have hu10:(a4S CX0 P w K mg base NFl "frontier_floors" (a0d a1E) f fd.code A outer s H E).nox.A.units+10<cLine:=by
  have:=hr.un;exact b8i (b9f (show 10<=16*4+200 by decide) _) this
 refine⟨_,a0e (psA (i:=2) scFl (pcF GR hr (a0a (pv 0) (a0a (pv 1) a0f))))
  (a0e (psA (i:=3) scFl a7b)
  (a0e (a1r b6Q rfl (a2c (a9L (knd:=a0k P w) (Rg:=λ_=>lamR3 K) (λσ=>a8m.of (b4S ml) (hr.mono (by omega))) rfl (by rfl) mS (pv 2) (a2f (a5u LM (clos:=[]) rfl) (a2f pe_bl a3H)))) (pgA (i:=4) scFl)
   (a0i (b0z (P:=P) (w:=w) (K:=K) (hu2 hr) (pv 3) (pv 4) (a2l (b4v rfl (by rfl) mn (a0a (a1A (M:=NFl) rfl (cso (a0d a1E) NFl) ndFl rfl (a2l (a4I (P:=P) (w:=w) (K:=K) (hu2 hr) (pv 2) (pv 4) (λ_ _=>rfl) a0F a0F)) a2m
     (λcl C s0 H0 fp=>⟨a0I,a0o a0C (pxA (ixT K) (pv 0) a0g) (a4I (P:=P) (w:=w) (K:=K) (hu2 hr) (pv 4) (a2l (pxA (ixT K) (pv 0) a0g)) (λ_ _=>rfl) a0F a2m)⟩)) a0f) (a2f a0g a3H))) rfl a0F a0F a2m)))
  (a0i (a0q (b1U rfl hu10 (by rfl) mS (pv 3)))))),?_⟩
 refine⟨_,rfl,_,rfl,p,q,ps,ws,rfl,hp,hq,W,λdR lw kvs H1 s1 hnR rd=>?_⟩;refine λdF hdF=>?_;have s2:=a0c hdF (.dK []);have g2:upd H1 dF (.dK []) dF=some (.dK []):=a0b;have hdF0:H dF=none:=s1.free hdF;generalize upd H1 dF (.dK [])=H2 at s2 g2 ⊢;have s02:=s1.trans s2;refine⟨_,rfl,a1X s02 (tab _ mT),λc' pm ctv g H3 LH=>?_⟩;have k3:Kp S H2 H3:=Kp.lam nd mT (λu hu=>a1X s02 (tab u hu)) LH;have k03:Kp S H H3:=(Kp.of tab s02).trans k3;have en3:∀e∈kvs,Ent aF lw ps ws H3 e:=λe he=>((rd.en e he).lk (LK.of s2)).lk k3.lk;have dR3:H3 dR=some (NDO (a0k P w) dR kvs):=k3.sm _ _ (by intro _ z;cases z) (s2 _ _ rd.dd);have dF3:H3 dF=some (.dK []):=k3.sm _ _ (by intro _ z;cases z) g2;refine⟨dR,g,true,kvs,kf,rfl,rfl,dR3,by have:=rd.le;omega,λe he H5 Q1 s5 q1=>⟨c',pm,ctv,e.2.1,e.1,s5 _ _ LH.ob,s5 _ _ LH.cd,rfl,((en3 e he).1.tk (TK.of s5)).fat FS,q1⟩,λe he z=>(by cases z),λd2 out H4 s4 hn4 hl4 perm pw=>?_⟩;have en4:∀e∈kvs,Ent aF lw ps ws H4 e:=λe he=>(en3 e he).lk (LK.of s4);have k04:Kp S H H4:=k03.then s4;have dR4:=s4 _ _ dR3;have dF4:=s4 _ _ dF3;have nRF:dR≠dF:=λz=>by rw[z,dF4] at dR4;cases dR4
 have n2F:d2≠dF:=λz=>by rw[z,dF4] at hl4;cases hl4
 have mo:∀e,e∈out↔e∈kvs:=λe=>perm.mem_iff;have pk:(out.map (·.1)).Perm (kvs.map (·.1)):=perm.map _;have ndo:(out.map (·.1)).Nodup:=pk.nodup_iff.mpr rd.nd;have allo:∀k,k∈out.map (·.1)↔Rch ps ws k:=λk=>pk.mem_iff.trans (rd.all k);have lo:out.length=kvs.length:=perm.length_eq;have le:=rd.le;have t1:∀xs,HO.tup xs≠HO.dK []:=λxs z=>by cases z
 have t2:∀xs,HO.lst xs≠HO.dK []:=λxs z=>by cases z
 refine⟨d2,rfl,⟨_,SqL.of hl4⟩,?_⟩;refine a2J (xs:=out.map λp=>V.ref p.2.1) (λi σ H'=>SX dF H4 H'/\DN P w H' dF (flE ps ws (out.take i))/\∃x4:Option V,σ=[some (.ref p),some (.ref q),some (.ref dR),some (.ref dF),x4])
  ⟨λb o _ e=>e,.inr ⟨dF4,rfl⟩,_,rfl⟩ (λi σ H' _ hP=>SqL.of (hP.1 _ _ n2F hl4)) (λi x σ H5 hx hP=>?_) (λσ H5 hP=>?_)
 ·obtain⟨x5,dn5,x4,rfl⟩:=hP;rw[b5L] at hx;obtain⟨e,he,rfl⟩:=b6H.mp hx;have il:=(b5E.mp he).1;have em:e∈kvs:=(mo e).mp (b5M he);have lk5:LK lw H4 H5:=x5.lk dF4 t1 t2;have en5:∀e∈kvs,Ent aF lw ps ws H5 e:=λe he=>(en4 e he).lk lk5;have dR5:=x5 _ _ nRF dR4;obtain⟨fr5,hR,_⟩:=en5 e em;obtain⟨e',he',ek,nv⟩:=a4H (b5K.mpr ⟨e,em,rfl⟩:e.1∈kvs.map (·.1));obtain⟨_,_,l,xs,ev,nl,hl,hm⟩:=en5 e' he';rw[ek] at hm;rw[ev] at nv;have lx:xs.length=(nxt ps ws e.1).length:=hm.length;have lxx:(nxt ps ws e.1).length<=100:=by
   have:=a4A ps ws e.1.1 e.1.2 (ps.length-1);have e:(nxt ps ws e.1).length=(rws ps ws e.1.1 e.1.2 (ps.length-1)).length:=b5x ..;have:=W.p6;omega
  have lF:l≠dF:=by
   obtain⟨o,ho,_,n2⟩:=dn5.ob;exact a0r hl ho (n2 _)
  have fat5:∀e'∈flE ps ws (out.take i),FrA aF H5 e'.1 e'.2.1:=λe' he'=>by
   obtain⟨p',hp',rfl⟩:=a3t he';exact(en5 p' ((mo p').mp (b6V hp'))).1
  refine⟨λv H'=>v=.int (flo ps ws e.1)/\a0m H5 H',?_,λv H6 hv=>?_⟩
  ·refine⟨λv H'=>v=.ref l/\H5=H',⟨_,rfl,_,rfl,dR,e.2.1,e.1,kvs,_,rfl,rfl,.inl dR5,λe' he'=>(en5 e' he').1.fat FS,fr5.fat FS,nv,rfl,rfl⟩,λv H' hv=>?_⟩;obtain⟨rfl,rfl⟩:=hv;refine⟨l,xs,rfl,SqL.of hl,λd3 hd3=>?_⟩;refine⟨λj H'=>a0m H5 H'/\H' d3=some (.lst ((((nxt ps ws e.1).take j).map λm=>m.2.1+flo ps ws m.2.2).map V.int)),⟨a0c hd3 _,a0b⟩,λj H' _ hP=>SqL.of (hP.1 _ _ hl),λj x H' hx hP=>?_,λH' hP=>?_⟩
   ·obtain⟨s6,hz⟩:=hP;obtain⟨m,hmm,mx⟩:=Paired.right_of hm j x hx;obtain⟨t,fx,rfl,ht,hfx⟩:=a3E.open (a3E.tk (TK.of s6) mx);obtain⟨b,rfl,hb⟩:=FrA.of (aF:=aF) hfx;have bf:=before W he pw allo (b5M hmm);obtain⟨e2,he2,ek2,nv2⟩:=a4H (kvs:=flE ps ws (out.take i)) (k:=m.2.2) (by rw[a2R];exact bf);obtain⟨p2,hp2,rfl⟩:=a3t he2;have ek2:p2.1=m.2.2:=ek2;rw[show((p2.1,p2.2.1,V.int (flo ps ws p2.1)):FE).2.2=V.int (flo ps ws p2.1) from rfl,ek2] at nv2;refine a0y ⟨_,rfl,t,_,_,_,rfl,rfl,SqT.of ht,(rfl:atI [V.int m.1,.int m.2.1,.ref b] 1=_),_,rfl,λv H7=>v=.ref b/\H'=H7,⟨_,rfl,t,_,_,_,rfl,rfl,SqT.of ht,(rfl:atI [V.int m.1,.int m.2.1,.ref b] 2=_),rfl,rfl⟩,λv H7 hv=>?_⟩;obtain⟨rfl,rfl⟩:=hv;refine⟨dF,b,m.2.2,flE ps ws (out.take i),_,rfl,rfl,dn5.keep λo z=>s6 _ _ z,λe' he'=>((fat5 e' he').tk (TK.of s6)).fat FS,hb.fat FS,nv2,_,_,rfl,rfl,_,hz,?_,a0n hd3 s6,?_⟩
    ·rw[b5x,b5x,b5R];exact a0j (by omega)
    ·rw[a0b,b6f,hmm,b5H,b5H];rfl
   ·obtain⟨s6,hz⟩:=hP;rw[lx,b6z] at hz;refine⟨d3,_,0,rfl,rfl,hz,?_,s6⟩;rw[a5K W (hR.ok W)];rfl
  ·obtain⟨rfl,s6⟩:=hv;have dn6:DN P w H6 dF (flE ps ws (out.take i)):=dn5.keep λo z=>s6 _ _ z;have fat6:=λe' he'=>((fat5 e' he').tk (TK.of s6))
   have len:(flE ps ws (out.take i)).length<=60:=by unfold flE;rw[b5x,b5R];omega
   have nk:e.1∉(flE ps ws (out.take i)).map (·.1):=λz=>by
    rw[a2R] at z;obtain⟨e2,he2,ek2⟩:=b5K.mp z;obtain⟨j,hj,ej⟩:=b7i.mp he2;rw[b5R] at hj;rw[List.getElem_take] at ej;have ei:out[i]=e:=(b5E.mp he).2;have:=b7g.mp ndo j i (by rw[b5x];omega) (by rw[b5x];omega) (by omega);rw[b6n,b6n,ej,ei] at this;exact this ek2
   refine⟨_,rfl,_,rfl,dF,e.2.1,e.1,flE ps ws (out.take i),rfl,rfl,dn6,λe' he'=>(fat6 e' he').fat FS,(fr5.tk (TK.of s6)).fat FS,a3s (by omega),λH7 e7=>?_⟩;rw[a7E nk] at e7;subst e7;refine⟨(x5.then s6).upd,.inl ?_,_,rfl⟩;rw[a0b,b6f,he];unfold flE;rw[b5H];rfl
 ·obtain⟨x5,dn5,x4,rfl⟩:=hP;rw[b5x,b6z] at dn5;have f0:(0,[0])∈out.map (·.1):=(allo _).mpr .one;have dF5:H5 dF=some (NDO (a0k P w) dF (flE ps ws out)):=dn5.elim id λ⟨_,z⟩=>by
   rw[<-a2R (ps:=ps) (ws:=ws),z] at f0;cases f0
  have lk5:LK lw H4 H5:=x5.lk dF4 t1 t2;have fat5:∀e'∈flE ps ws out,FrA aF H5 e'.1 e'.2.1:=λe' he'=>by
   obtain⟨p',hp',rfl⟩:=a3t he';exact((en4 p' ((mo p').mp hp')).lk lk5).1
  have ll:(flE ps ws out).length<=60:=by unfold flE;rw[b5x];omega
  have k05:Kp S H H5:=by
   refine⟨λa o n z=>x5 _ _ (λy=>by rw[y,hdF0] at z;cases z) (k04.sm _ _ n z),?_⟩;intro u hu;rcases k04.tb u hu with z|⟨c2,z1,z2⟩
   ·exact .inl (x5 _ _ (a0r z dF4 (by intro y;cases y)) z)
   ·exact .inr ⟨c2,x5 _ _ (a0r z1 dF4 (by intro y;cases y)) z1,x5 _ _ (a0r z2 dF4 (by intro y;cases y)) z2⟩
  refine⟨_,rfl,dF,flE ps ws out,rfl,dF5,by omega,λe' he'=>⟨(fat5 e' he').fat FS,?_⟩,λd3 out' us H6 s6 hn6 hl6 perm6 up6 pr6=>?_⟩
  ·obtain⟨p',hp',rfl⟩:=a3t he';exact⟨_,rfl⟩
  ·have pk6:(us.map (·.1)).Perm (out.map (·.1)):=by
    have:=perm6.map (λx:FE=>x.1);rw[a2R] at this;exact this
   have n6:∀o,(∀zs,o≠.tbl zs)->H d3≠some o:=λo n z=>by
    have:=k05.sm _ _ n z;rw[hn6] at this;cases this
   refine qq d3 out' us H6 (k05.then s6) n6 hl6 pr6 ⟨λe' he'=>?_,up6,pk6.nodup_iff.mpr ndo,λk=>pk6.mem_iff.trans (allo k),by rw[perm6.length_eq];exact ll⟩;have he2:=perm6.mem_iff.mp he';refine⟨(fat5 e' he2).tk (TK.of s6),?_⟩;obtain⟨p',hp',rfl⟩:=a3t he2;rfl
def b0E:Expr:=match a0H sFm with
 | [_,_,_,.While _ (.Assign _ (.Call _ _ [⟨_,e,_⟩] _) _::_) _ _,_]=>e
 | _=>.Constant .none 0 ⟨0,0,0,0⟩
def lamP4:Arguments:=match b0E with | .Lambda p _ _ _=>p|_=>a0N sFm
def lamB4:Expr:=match b0E with | .Lambda _ b _ _=>b|e=>e
def b0F:Scope:=match b0E with | .Lambda _ _ s _=>s|_=>a0d sFm
def b4T:Pos:=match b0E with | .Lambda _ _ _ p=>p|_=>⟨0,0,0,0⟩
abbrev b2r:Str:=(("free_moves":Str)++".<locals>.")++"<lambda>"
abbrev lamK4 (c:Addr) (c':Addr) (pm ctv:Value):Obj:=PySem.W.kla_obj "<lambda>" b2r lamP4 lamB4 b0F [("floors",c)] pm c' ctv
example:b0E=.Lambda lamP4 lamB4 b0F b4T:=rfl
theorem scLam4 (c:Addr):a1W b0F ["move"] [("floors",c)]:=⟨rfl,rfl,rfl,(by show(["move","floors"]:List Str).Nodup;decide +kernel),by decide +kernel,by decide +kernel,(by show ∀y∈b0F.names,y.2=.free->y.1∈(["floors"]:List Str);decide +kernel),(by show ∀x∈(["floors"]:List Str),b0F.names.lookup x=some .free;decide +kernel)⟩
def lamR4 (P:Program) (w:World) (K:PySem.W.Frag):Addr->List V->Hp->VK->Prop:=λg vs H Q=>∃(c c':Addr) (pm ctv:Value) (o:Obj) (u:Value) (dF:Addr) (kvs:List FE) (x:V) (m:Mv) (n:Int),H g=some (exA g (lamK4 c c' pm ctv))/\H c'=some (cdA c' b2r)/\H c=some (exA c o)/\o.data=.cell (some u)/\a0Q (.ref dF) u/\vs=[x]/\a3E H x m/\dF≠c/\H dF=some (NDO (a0k P w) dF kvs)/\(∀p∈kvs,FAt K H p.1 p.2.1)/\nval kvs m.2.2=some (.int n) /\
 ∀H',a0m H H'->Q (.int (m.2.1+n)) H'
theorem b0G {K:PySem.W.Frag} (hc:H c=some (exA c o)) (h:SqT K H a xs):SqT K (unt [c] H) a xs:=by
 rcases h with (e|⟨ob,e⟩)|r
 ·exact .inl (.inl ((a0p λz=>by rw[b5C.mp z,hc] at e;cases e).trans e))
 ·exact .inl (.inr ⟨ob,(a0p λz=>by rw[b5C.mp z,hc] at e;cases e).trans e⟩)
 ·exact .inr r
theorem b4U:a3F P w K mg base 1 (lamR4 P w K) where
 at':=λ⟨c,c',pm,ctv,o,u,dF,kvs,x,m,n,e,_⟩=>⟨_,_,_,_,e⟩
 run:=λA outer s H g us vs Q hr e0 r' h=>by
  obtain⟨c,c',pm,ctv,o,u,dF,kvs,x,m,n,eg,ec',ecc,hd,rv,rfl,hm,nc,hF,hk,nv,q⟩:=h;have lu:us.length=1:=by rw[<-r'.length];rfl
  refine a2p (k:=0) (cvs:=[.ref dF]) (scLam4 c) hr e0 eg ec' (by simp) (λj x c0 hj=>?_) rfl r' rfl ?_ λxe hr'=>⟨_,a0o a0C (pxA (ixT K) (pv 0) a0g) (a4I (P:=P) (w:=w) (K:=K) (hu2 hr') (pv 1) (a2l (pxA (ixT K) (pv 0) a0g)) (λ_ _=>rfl) a0F a2m),?_⟩
  ·cases j with
   | zero =>
    have hj:(("floors":Str),c)=(x,c0):=b5U hj;cases hj;exact⟨o,u,.ref dF,ecc,hd,rfl,rv⟩
   | succ j=>simp at hj
  ·match us,lu with
   | [u1],_=>rfl
  ·have tk:TK H (unt [c] H):=λa xs e=>(a0p λz=>by rw[b5C.mp z,ecc] at e;cases e).trans e;obtain⟨t,fx,rfl,ht,hfx⟩:=a3E.open (a3E.tk tk hm);obtain⟨b,g,rfl,hb1,hb2⟩:=a6e.open hfx;refine⟨_,rfl,t,_,_,_,rfl,rfl,SqT.of ht,(rfl:atI [V.int m.1,.int m.2.1,.ref b] 1=_),_,rfl,λv H7=>v=.ref b/\unt [c] H=H7,⟨_,rfl,t,_,_,_,rfl,rfl,SqT.of ht,(rfl:atI [V.int m.1,.int m.2.1,.ref b] 2=_),rfl,rfl⟩,λv H7 hv=>?_⟩;obtain⟨rfl,rfl⟩:=hv;exact⟨dF,b,m.2.2,kvs,_,rfl,rfl,.inl ((a0p λz=>nc (b5C.mp z)).trans hF),λp hp=>by
    obtain⟨b',h1,h2⟩:=hk p hp;exact⟨b',b0G ecc h1,b0G ecc h2⟩,⟨g,SqT.of hb1,SqT.of hb2⟩,nv,_,_,rfl,rfl,λhn=>q _ (a2P (a0m.refl _))⟩
theorem b_dict:bootBuiltins "dict"=some (.type "dict"):=by decide +kernel
def rDictF (P:Program) (w:World) (K:PySem.W.Frag):List V->Hp->VK->Prop:=λxs H Q=>∃(l:Addr) (out:List V) (us:List FE),xs=[.ref l]/\H l=some (.lst out)/\Paired (IPr H) out us/\(∀p∈us,FAt K H p.1 p.2.1)/\(us.map (·.1)).Nodup/\us.length<=100000/\∀d H',H d=none->H'=upd H d (NDO (a0k P w) d us)->Q (.ref d) H'
theorem a8B {P:Program} {w:World} {K:PySem.W.Frag} (hc:X.calm=true) (hu:X.A.units+10<cLine) (hP:X.prog=P:=by rfl) (hw:X.w=w:=by rfl) (hK:X.K=K:=by rfl):a2w X (.type "dict") (rDictF P w K):=by
 subst hP;subst hw;subst hK;intro pins s σ H xs us Q I r h;obtain⟨l,out,us',e,h1,h2,h3,h4,h5,q⟩:=h;exact a8v hc hu pins s σ H xs us Q I r ⟨l,out,us',e,h1,h2,h3,h4,h5,λd hd=>q d _ hd rfl⟩
theorem b4V {us:List FE} (nd:(us.map (·.1)).Nodup) {e:FE} (he:e∈us):nval us e.1=some e.2.2:=by
 obtain⟨p,hp,ek,nv⟩:=a4H (b5K.mpr ⟨e,he,rfl⟩:e.1∈us.map (·.1));have:p=e:=by
  obtain⟨i,hi,e1⟩:=b7i.mp hp;obtain⟨j,hj,e2⟩:=b7i.mp he;have:i=j:=by
   refine(b8f (h₀:=by rw[b5x];exact hi) (h₁:=by rw[b5x];exact hj) nd).mp ?_;rw[b6n,b6n,e1,e2,ek]
  subst this;rw[<-e1,<-e2]
 rw[<-this];rw[this] at nv ⊢;exact nv
abbrev NFm:List Str:=["prices","weights","floors","row","frontier","best"]
def spFm (aF:Addr) (S:Tbs):Sp:=λvs H Q _=>∃(p q:Addr) (ps ws:List Int),vs=[.ref p,.ref q]/\TW H p ps/\TW H q ws/\Wide ps ws/\Tb S H /\
 ∀(l:Addr) H',Kp S H H'->(∀o,(∀zs,o≠.tbl zs)->H l≠some o)->H' l=some (.lst ((frees ps ws).map V.int))->Q (.ref l) H'
theorem b5u:a0l NFm ["prices","weights"] (a0d sFm):=fsk
theorem Kp.updN (hn:∀o,(∀zs,o≠.tbl zs)->H d≠some o) (hd:H' d=some (.lst ls)) (k:Kp S H H'):Kp S H (L2.upd H' d (.lst ls')):=⟨λa o n e=>by rw[a0h (λz=>hn o n (by rw[<-z];exact e))];exact k.sm a o n e,λu hu=>b0t hd (k.tb u hu)⟩
theorem ok_fm {S:Tbs} {aF bF T c0 bm:Addr} (F:Fun K "free_moves" "free_moves" sFm f fd) (hcd:fd.code=.ref c0) (LC:b1f K mg base c0 T bm) (nd:Dst S) (mT:(T,b4T,b2r)∈S) (FS:Fst K mg aF bF) (GF:Fns P w K mg base ["prices","weights"] "frontier_floors" (spFl aF S) 5) (GM:Fns P w K mg base ["prices","weights","frontier"] "moves" (a4D K) 5) (ml:mg "len"=none) (mn:mg "min"=none) (mD:mg "dict"=none):a0Y P w K mg base CX0 6 f fd ["prices","weights"] (spFm aF S):=by
 refine F.okC (k:=5) b5u (λvs H Q E h=>?_) (λA outer s H vs Q E hr h=>?_)
 ·obtain⟨p,q,ps,ws,rfl,_⟩:=h;rfl
 obtain⟨p,q,ps,ws,rfl,hp,hq,W,tab,qq⟩:=h;have LM:a8l (a4S CX0 P w K mg base NFm "free_moves" (a0d sFm) f fd.code A outer s H E).nox c0 T bm:=⟨hcd,LC.hd,LC.hbm,LC.bo,LC.b1,LC.b2,LC.b3,LC.b4⟩
 have hcl:a2h (a4S CX0 P w K mg base NFm "free_moves" (a0d sFm) f fd.code A outer s H E).nox [("floors",s.heap.objs.size+1)]:=⟨λq hq=>by rw[b5C.mp hq];rfl,λq hq=>rfl,λq hq=>by rw[b5C.mp hq];rfl⟩
 have hu10:(a4S CX0 P w K mg base NFm "free_moves" (a0d sFm) f fd.code A outer s H E).nox.A.units+10<cLine:=by
  have:=hr.un;exact b8i (b9f (show 10<=16*5+200 by decide) _) this
 refine⟨_,a0e (psA (i:=2) b5u (a1j (a8B (P:=P) (w:=w) (K:=K) rfl hu10) (by rfl) mD b_dict (a0a (pcF GF hr (a0a (pv 0) (a0a (pv 1) a0f))) a0f)))
  (a0e (psA (i:=3) b5u (a1n a0f))
  (a0e (psA (i:=4) b5u (a5S (v:=.ref aF) (by rfl) FS.m rfl))
  (a0e (a4a b6Q (a0D a8U (pxA (ixT K) (pv 4) a0g) (pln ml (pv 1)) (nomark _))
   (a0e (psA (i:=5) b5u (b2o (Rg:=RgC _ [("floors",s.heap.objs.size+1)] (lamR4 P w K)) (λσ=>b4O.cells b4U (hr.mono (by omega)) hcl) rfl (by rfl) mn (a0a (pcF GM hr (a0a (pv 0) (a0a (pv 1) (a0a (pv 4) a0f)))) a0f) (a2f (a5u LM (clos:=[("floors",s.heap.objs.size+1)]) rfl) a3H)))
   (a0e (a1h (a4h b6I b7k b7l a1f (pv 3) (a0a (pxA (ixT K) (pv 5) a0g) a0f)))
   (a0i (psA (i:=4) b5u (pxA (ixT K) (pv 5) a0g))))))
  (a0i (a0q (pv 3)))))),?_⟩
 refine⟨_,rfl,_,rfl,p,q,ps,ws,rfl,hp,hq,W,tab,λdL out us H1 k1 nL hL pr to=>?_⟩;refine⟨dL,out,us,rfl,hL,pr,λe he=>(to.en e he).1.fat FS,to.nd,by have:=to.le;omega,λdF H2 hdF e2=>?_⟩;have s2:a0m H1 H2:=by rw[e2];exact a0c hdF _
 have g2:H2 dF=some (NDO (a0k P w) dF us):=by rw[e2];exact a0b
 clear e2;have k02:=k1.then s2;refine⟨(by show 0<=sizeLine;exact b6e _),λlr hlr=>?_⟩;have s3:=a0c hlr (.lst []);have g3:upd H2 lr (.lst []) lr=some (.lst []):=a0b;have hlr0:∀o,(∀zs,o≠.tbl zs)->H lr≠some o:=λo n z=>by
  have:=k02.sm _ _ n z;rw[hlr] at this;cases this
 generalize upd H2 lr (.lst [])=H3 at s3 g3 ⊢;have k03:=k02.then s3;have en3:∀e∈us,FrA aF H3 e.1 e.2.1:=λe he=>((to.en e he).1.tk (TK.of s2)).tk (TK.of s3);have g23:=s3 _ _ g2;refine⟨λm σ H'=>Kp S H H'/\∃(k:Fr) (a:Addr) (rs:List Int) (x5:Option V),σ=[some (.ref p),some (.ref q),some (.ref dF),some (.ref lr),some (.ref a),x5]/\FrA aF H' k a/\Rch ps ws k/\H' dF=some (NDO (a0k P w) dF us)/\(∀e∈us,FrA aF H' e.1 e.2.1)/\H' lr=some (.lst (rs.map V.int))/\rs++a8G ps ws (2*ws.length+1) k=frees ps ws/\m=(2*(ws.length:Int)-rk k).toNat,
  ⟨_,k03,(0,[0]),aF,[],_,rfl,.inr ⟨rfl,rfl⟩,.one,g23,en3,g3,rfl,rfl⟩,λm σ H4 hP=>?_⟩
 obtain⟨k4,k,a,rs,x5,rfl,fr4,hR,d4,en4,g4,er,rfl⟩:=hP;have ok:=hR.ok W;obtain⟨b,fa1,fa2⟩:=fr4.fat FS;refine⟨_,rfl,a,_,_,_,rfl,rfl,fa1,(rfl:atI [V.int k.1,.ref b] 0=_),_,rfl,q,_,rfl,.inr (SqT.of (k4.tup hq)),_,_,rfl,rfl,_,rfl,?_⟩;rw[b5x];have ndl:dF≠lr:=λz=>by rw[z,g4] at d4;cases d4
 refine a3D (λc=>?_) (λc=>?_)
 ·have c:k.1<(ws.length:Int):=b5X c;have ne:=a7B W ok c;refine⟨_,λσ' H' z=>z,?_⟩;obtain⟨g,ak⟩:=fr4.ask FS W ok (k4.tup hp) (k4.tup hq);refine⟨_,rfl,_,rfl,_,rfl,p,q,a,g,ps,ws,k.2,k.1,rfl,ak,λlm H5 xs s5 hn5 hl5 hm5=>?_⟩;have hm5:Mvs H5 xs (nxt ps ws k):=hm5;have k5:=k4.then s5;have lx:xs.length=(nxt ps ws k).length:=hm5.length;refine⟨k5.tb _ mT,λc' pm ctv gg H6 LH=>?_⟩;have k56:Kp S H5 H6:=Kp.lam nd mT k5.tb LH;have k6:=k5.trans k56;have d6:H6 dF=some (NDO (a0k P w) dF us):=k56.sm _ _ (by intro _ z;cases z) (s5 _ _ d4);have en6:∀e∈us,FrA aF H6 e.1 e.2.1:=λe he=>((en4 e he).tk (TK.of s5)).tk k56.tk;have hm6:Mvs H6 xs (nxt ps ws k):=Mvs.tk k56.tk hm5;have g6:=k56.lst (s5 _ _ g4);refine⟨lm,gg,xs,kyv ps ws k,rfl,rfl,k56.lst hl5,by rw[lx];exact b6P.mpr ne,λi x H7 Q1 hx s7 q1=>?_,λx H7 hx s7=>?_⟩
  ·obtain⟨m,hmi,mx⟩:=Paired.right_of hm6 i x hx;have hmm:=b5M hmi;intro os hos hnn;have hn:H7 (s.heap.objs.size+1)=none:=hnn _ (by simp);obtain⟨u,hu1,hu2⟩:=hos 0 2 "floors" (s.heap.objs.size+1) (.ref dF) rfl rfl rfl;have lob:=LH.ob;generalize s.heap.objs.size+1=c at hn hu1 lob ⊢;have st':a0m H7 (trk' [c] os H7):=λb o e=>by
    rw[a0O (λy=>by rw[b5C.mp y,hn] at e;cases e)];exact e
   have ecc:trk' [c] os H7 c=some (exA c (os c)):=a5v (by simp);have d7:=s7 _ _ d6;have nc:dF≠c:=λz=>by rw[z,hn] at d7;cases d7
   have s67:=s7.trans st';obtain⟨e1,he1,ek1⟩:=b5K.mp ((to.all m.2.2).mpr (.step hR hmm));have nv:nval us m.2.2=some (.int (flo ps ws m.2.2)):=by
    rw[<-ek1,b4V to.nd he1,(to.en e1 he1).2]
   refine⟨c,c',pm,ctv,os c,u,dF,us,x,m,flo ps ws m.2.2,st' _ _ (s7 _ _ lob),st' _ _ (s7 _ _ LH.cd),ecc,hu1,hu2,rfl,a3E.tk (TK.of s67) mx,nc,st' _ _ d7,λe he=>((en6 e he).tk (TK.of s67)).fat FS,nv,λH8 s8=>⟨λb hb=>?_,?_⟩⟩
   ·rw[b5C.mp (show b∈[c] from hb)];exact s8 _ _ ecc
   ·have ky:kyv ps ws k i=m.2.1+flo ps ws m.2.2:=by
     unfold kyv;rw[b5B,hmi];rfl
    rw[<-ky];refine q1 _ λb o e=>?_;have hb:b∉[c]:=λy=>by rw[b5C.mp y,hn] at e;cases e
    show unt [c] H8 b=_;rw[a0p hb];exact s8 _ _ (st' _ _ e)
  ·obtain⟨m,hmi,mx⟩:=Paired.right_of hm6 _ x hx;rw[lx,a3V ne] at hmi;obtain rfl:bst ps ws k=m:=b5U hmi;have hb:=b5M (a3V ne);have k7:=k6.then s7;obtain⟨t,fx,rfl,ht,hfx⟩:=a3E.open (a3E.tk (TK.of s7) mx);obtain⟨b',rfl,hb'⟩:=FrA.of (aF:=aF) hfx;have g7:=s7 _ _ g6;have d7:=s7 _ _ d6;have en7:∀e∈us,FrA aF H7 e.1 e.2.1:=λe he=>(en6 e he).tk (TK.of s7);have up:=(a2t W ok hb).1;have okb:=(a1U W ok hb).1;have rb:=okb.rk;have er':=er;rw[a7C W ok c] at er';have lrs:(rs.map V.int).length<=100:=by
    have:(rs++a8G ps ws (2*ws.length+1) k).length<=2*ws.length+1:=by rw[er];exact a6v
    rw[b5J] at this;have w7:=W.w7;rw[b5x];split at w7<;>omega
   refine⟨_,rfl,.inl ⟨rfl,_,SqL.of g7⟩,_,rfl,t,_,_,_,rfl,rfl,SqT.of ht,(rfl:atI [V.int (bst ps ws k).1,.int (bst ps ws k).2.1,.ref b'] 0=_),lr,_,_,rfl,rfl,g7,a0j (by omega),?_⟩;have tk8:TK H7 (upd H7 lr (.lst (rs.map V.int++[.int (bst ps ws k).1]))):=TK.upd g7;refine⟨_,rfl,t,_,_,_,rfl,rfl,SqT.of (tk8 _ _ ht),(rfl:atI [V.int (bst ps ws k).1,.int (bst ps ws k).2.1,.ref b'] 2=_),_,?_,k7.updN hlr0 g7,(bst ps ws k).2.2,b',rs++[(bst ps ws k).1],_,rfl,hb'.tk tk8,.step hR hb,by rw[a0h ndl];exact d7,λe he=>(en7 e he).tk tk8,by rw[a0b,b5H];rfl,by rw[b7w];exact er',rfl⟩;omega
 ·obtain⟨z,e⟩:=b0y (ps:=ps) ok (λy=>c (b6b y));rw[e,b6B] at er;rw[er] at g4;exact⟨_,rfl,qq lr H4 k4 hlr0 g4⟩
theorem b4W (hp:∀x∈ps,0<=x/\x<=B30):∀ns:List Int,0<=pc ps ns/\pc ps ns<=(ns.length:Int)*B30
 | []=>⟨by show(0:Int)<=0;decide,by show(0:Int)<=0*B30;decide⟩
 | n::ns=>by
  obtain⟨h1,h2⟩:=b4W hp ns;have e:pc ps (n::ns)=ps.getD n.toNat 0+pc ps ns:=by unfold pc;simp
  have b:0<=ps.getD n.toNat 0/\ps.getD n.toNat 0<=B30:=by
   rw[b5B];cases hz:ps[n.toNat]? with
   | none=>exact⟨by decide,by decide⟩
   | some z=>exact hp z (b5M hz)
  rw[e];have e2:((n::ns).length:Int)*B30=(ns.length:Int)*B30+B30:=by
   rw[b5T]
   push_cast
   rw[c0V];simp
  omega
abbrev NC:List Str:=["prices","weights","code"]
def coZ (ps ws:List Int) (c:List (List Int)):Int:=(List.zipWith (λx ns=>x*pc ps ns) ws c).sum
def b3p:Sp:=λvs H Q _=>∃(p wa:Addr) (ps ws:List Int) (x:V) (c:List (List Int)),vs=[.ref p,.ref wa,x]/\TW H p ps/\TW H wa ws/\(∃(a:Addr) (zs:List V),x=.ref a/\H a=some (.tup zs)/\Ws H zs c)/\c.length=ws.length/\c.length<=100/\(∀u∈c,Lt ps.length u/\u.length<=1000)/\Bw ps/\Bw ws/\∀H',a0m H H'->Q (.int (coZ ps ws c)) H'
theorem ndC:(("weight":Str) :: "word" :: NC).Nodup:=by decide +kernel
theorem zip_at {i:Nat} {x:Int} (h1:ws[i]?=some x) (h2:nss[i]?=some ns):(List.zipWith (λx ns=>x*pc ps ns) ws nss)[i]?=some (x*pc ps ns):=by
 rw[List.getElem?_zipWith,h1,h2]
theorem a2v {xs ys:List Int} (h:xs.Perm ys):xs.sum=ys.sum:=by
 induction h with
 | nil=>rfl
 | cons x _ ih=>rw[b6t,b6t,ih]
 | swap x y l=>rw[b6t,b6t,b6t,b6t];omega
 | trans _ _ ih1 ih2=>exact ih1.trans ih2
theorem b2s {pl:List Nat} (perm:pl.Perm (List.range ws.length)) (pw:(pl.map (ko ws)).Pairwise Lx):heavy ws=pl.map λt=>ws.getD t 0:=by
 unfold heavy;have:(pl.map λt=>ws.getD t 0).reverse=srt ws:=by
  refine a3f ((c0O _).trans ?_) ?_
  ·have:=perm.map λt=>ws.getD t 0;rw[a3o] at this;exact this
  ·rw[List.pairwise_reverse,b6k];rw[b6k] at pw;exact pw.imp λz=>by have:=(lx2 z).1;omega
 rw[<-this,List.reverse_reverse]
theorem b0H {ps ws:List Int} {us cw:List (List Int)} {pl:List Nat} (ow:Own ws us pl cw) (lu:us.length=ws.length):coZ ps ws cw=due ws (us.map (pc ps)):=by
 have lc:cw.length=ws.length:=by rw[ow.pu.length_eq,lu]
 have lp:pl.length=ws.length:=by rw[ow.perm.length_eq,b5V]
 unfold coZ due;have e1:List.zipWith (λx ns=>x*pc ps ns) ws cw=(List.range ws.length).map λt=>ws.getD t 0*pc ps (cw.getD t []):=by
  refine b7u (by rw[b9g,b5x,b5V];omega) λi h1 h2=>?_;rw[b5x,b5V] at h2;rw[List.getElem_zipWith,b6n,b9u,b5B,b5z h2,b5B,b5z (by omega)];rfl
 have e2:List.zipWith (λw c=>w*c) (heavy ws) (us.map (pc ps))=pl.map λt=>ws.getD t 0*pc ps (cw.getD t []):=by
  rw[b2s ow.perm ow.pw];refine b7u (by rw[b9g,b5x,b5x,b5x];omega) λi h1 h2=>?_;rw[b5x] at h2;have hc:=ow.at_ i _ _ (b5z h2) (b5z (show i<us.length by omega));rw[List.getElem_zipWith,b6n,b6n,b6n,b5B (l:=cw),hc];rfl
 rw[e1,e2];exact(a2v (ow.perm.map _)).symm
theorem scPC:a0l NC NC (a0d a7r):=fsk
theorem b2t (F:Fun K "cost" "cost" a7r f fd) (G:Fns P w K mg base ["prices","word"] "word_price" spPp 2) (ml:mg "len"=none) (ms:mg "sum"=none) (mz:mg "zip"=none):a0Y P w K mg base CX0 3 f fd NC b3p:=by
 refine F.ok (k:=2) scPC (λvs H Q E h=>?_) (λcdv A outer s H vs Q E hr h=>?_)
 ·obtain⟨p,wa,ps,ws,x,c,rfl,_⟩:=h;rfl
 obtain⟨p,wa,ps,ws,x,nss,rfl,hp,hw,hc,el,l1,l2,bp,bw,q⟩:=h;obtain⟨c,xs,rfl,hc,hx⟩:=hc;have lx:xs.length=nss.length:=hx.length;refine⟨_,a0e (a1q (a0D op_ne (pln ml (pv 2)) (pln ml (pv 1)) (nomark _)) (a0i a5I) a0K) (a0i (a0q (a0S (a4j rfl) (by rfl) ms b1w (a0a (b1C K true true (M:=NC) rfl (cso (a0d a7r) NC) ndC rfl rfl (by rfl) mz (a0a (pv 1) (a0a (pv 2) a0f)) (a0U a0F (a0U a0F a1v))
   (λcl C s0 H0 fp pins σ bk=>⟨a0I,a0o a6d (pv 0) (pcF G hr (a0a (pv 2) (a0a (pv 1) a0f)))⟩)) a0f)))),?_⟩
 refine⟨_,rfl,c,_,rfl,.inr (SqT.of hc),_,rfl,wa,_,rfl,.inr (SqT.of hw),rfl,_,rfl,?_⟩;rw[b5x,lx,el,b6b rfl];refine b3S ?_;refine⟨_,rfl,_,rfl,wa,c,_,_,rfl,SqT.of hw,SqT.of hc,by rw[b5x];omega,λd hd=>?_⟩;refine⟨λi H'=>a0m H H'/\H' d=some (.lst (((List.zipWith (λx ns=>x*pc ps ns) ws nss).take i).map V.int)),⟨a0c hd _,a0b⟩,
  λi H' _ hP=>⟨SqT.of (hP.1 _ _ hw),SqT.of (hP.1 _ _ hc)⟩,λi x y pp H' hx' hy' hP hpp=>?_,λH' hP=>?_⟩
 ·obtain⟨sm,hd'⟩:=hP;rw[b5L] at hx';cases hz:ws[i]? with
  | none=>rw[hz] at hx';cases hx'
  | some wt =>
  rw[hz] at hx';cases hx';obtain⟨ns,hn,ry⟩:=Paired.right_of hx i y hy';have iw:=(b5E.mp hz).1;have s2:=a0c hpp (.tup [.int wt,y]);obtain⟨lt,l3⟩:=l2 ns (b5M hn);refine a9s ⟨_,rfl,_,rfl,_,rfl,.ref p,y,ps,ns,rfl,Wd.of (s2 _ _ (sm _ _ hp)),Wd.same (sm.trans s2) ry,l3,lt,λH3 s3=>?_⟩;obtain⟨b1,b2⟩:=b4W bp ns;obtain⟨b3,b4⟩:=bw wt (b5M hz);have b5:(ns.length:Int)<=1000:=by omega
  have b6:(ns.length:Int)*B30<=1000*B30:=b8s b5 (by decide);refine⟨_,_,rfl,rfl,⟨⟨b3,by unfold B30 at *;omega⟩,⟨b1,by unfold B30 at *;omega⟩⟩,_,s3 _ _ (s2 _ _ hd'),?_,a0n hd ((sm.trans s2).trans s3),?_⟩
  ·rw[b5x,b5R,b9g];exact a0j (by omega)
  ·rw[a0b,b6f,zip_at hz hn,b5H];rfl
 ·obtain⟨sm,hd'⟩:=hP;rw[b5x] at hd';rw[b7j (by rw[b9g];omega)] at hd';exact⟨d,_,rfl,hd',q H' sm⟩
abbrev NFc:List Str:=["prices","weights","code"]
def spFc (S:Tbs):Sp:=λvs H Q _=>∃(p q:Addr) (ps ws:List Int),vs=[.ref p,.ref q]/\TW H p ps/\TW H q ws/\Wide ps ws/\Tb S H /\
 ∀(t c:Addr) zs us pl cw H',Kp S H H'->H' t=some (.tup [.int (flo ps ws (0,[0])),.ref c])->H' c=some (.tup zs)->Ws H' zs cw->Own ws us pl cw->Cd ps ws (frees ps ws) us->Q (.ref t) H'
theorem scFc:a0l NFc ["prices","weights"] (a0d sFc):=fsk
theorem Wide.w10 (W:Wide ps ws):ws.length<=7:=by
 have:=W.w7;split at this<;>omega
theorem b0I (W:Wide ps ws):(frees ps ws).length<=60:=by
 have:(frees ps ws).length<=2*ws.length+1:=a6v;have:=W.w10;omega
theorem ok_fc (F:Fun K "free_code" "free_code" sFc f fd) (GO:Fns P w K mg base PCo "code_of_moves" (spCom S) 6) (GM:Fns P w K mg base ["prices","weights"] "free_moves" (spFm aF S) 6) (GC:Fns P w K mg base NC "cost" b3p 6):a0Y P w K mg base CX0 7 f fd ["prices","weights"] (spFc S):=by
 refine F.ok (k:=6) scFc (λvs H Q E h=>?_) (λcdv A outer s H vs Q E hr h=>?_)
 ·obtain⟨p,q,ps,ws,rfl,_⟩:=h;rfl
 obtain⟨p,q,ps,ws,rfl,hp,hq,W,tab,qq⟩:=h;have w10:=W.w10;refine⟨_,a0e (psA (i:=2) scFc (pcF GO hr (a0a (pv 0) (a0a (pv 1) (a0a (pcF GM hr (a0a (pv 0) (a0a (pv 1) a0f))) a0f)))))
  (a0i (a0q (a0Z (a0a (pcF GC hr (a0a (pv 0) (a0a (pv 1) (a0a (pv 2) a0f)))) (a0a (pv 2) a0f))))),?_⟩
 refine⟨_,rfl,_,rfl,_,rfl,_,rfl,p,q,ps,ws,rfl,hp,hq,W,tab,λl H1 k1 nl hl=>?_⟩;refine⟨p,q,l,ps,ws,_,rfl,k1.tup hp,k1.tup hq,hl,b0I W,W.p2,W.p6,W.w1,W.w7,W.bp,W.bw,k1.tb,(a2D W).1,λc zs us pl cw H2 k2 hc hz ow cd=>?_⟩;have k02:=k1.trans k2;have lc:cw.length=ws.length:=by rw[ow.pu.length_eq,cd.ln]
 have lt:∀u∈cw,Lt ps.length u/\u.length<=1000:=λu hu=>by
  have:=cd.lt u (ow.pu.mem_iff.mp hu);exact⟨this.1,by omega⟩
 refine⟨_,rfl,_,rfl,_,rfl,p,q,ps,ws,.ref c,cw,rfl,k02.tup hp,k02.tup hq,⟨c,zs,rfl,hc,hz⟩,lc,by omega,lt,W.bp,W.bw,λH3 s3=>?_⟩;refine⟨_,rfl,(by show 2<=sizeLine;decide),λt ht=>?_⟩;have s4:=a0c ht (.tup [.int (coZ ps ws cw),.ref c]);refine qq t c zs us pl cw _ ((k02.then s3).then s4) ?_ (s4 _ _ (s3 _ _ hc)) (b2i (TK.of (s3.trans s4)) hz) ow cd;rw[a0b,b0H ow cd.ln,<-cd.sp,(a2D W).2]
theorem lgt {α:Type} {f:α->Int}:∀{L:List Int} {G:List α} {V:List Int},L.Pairwise (·<=·)->(G.map f++V).Perm L->∃G',G'.Perm G/\Paired (λa g=>a<=f g) (L.take G.length) G'
 | L,[],V,_,_=>⟨[],.refl _,by rw[b7o,b9I];exact .nil⟩
 | [],g::G,V,_,h=>by have:=h.length_eq;simp at this
 | x::L,g::G,V,hL,h=>by
  obtain⟨h1,h2⟩:=b6E.mp hL;by_cases c:x∈(g::G).map f
  ·obtain⟨y,hy,rfl⟩:=b5K.mp c;obtain⟨A,B,e⟩:=b7S hy;have pm:(g::G).Perm (y::(A++B)):=by rw[e];exact b6X
   have p2:((A++B).map f++V).Perm L:=((((pm.map f).append_right V).symm.trans h):((f y::(A++B).map f)++V).Perm _).cons_inv;obtain⟨G',q1,q2⟩:=lgt h2 p2;have le:(g::G).length=(A++B).length+1:=pm.length_eq;refine⟨y::G',(q1.cons y).trans pm.symm,?_⟩;rw[le,b9h];exact .cons (b8l _) q2
  ·have hx:x∈(g::G).map f++V:=h.mem_iff.mpr (.head _);have hV:x∈V:=(b5W.mp hx).elim (λz=>absurd z c) id;obtain⟨A,B,rfl⟩:=b7S hV;have p2:(G.map f++(f g::(A++B))).Perm L:=by
    refine List.Perm.cons_inv (a:=x) (List.Perm.trans ?_ h);have e1:(f g::G.map f++(A++x::B)).Perm (x::(f g::G.map f++(A++B))):=by
     refine(b8U _ (b6X (a:=x) (l₁:=A) (l₂:=B))).trans ?_;exact b6X
    exact(List.Perm.cons x b6X).trans e1.symm
   obtain⟨G',q1,q2⟩:=lgt h2 p2;have xg:x<=f g:=by
    have:f g∈x::L:=h.mem_iff.mp (b6u _ (.head _));rcases b5Q.mp this with z|z
    ·exact b8T z.symm
    ·exact h1 _ z
   refine⟨g::G',q1.cons g,?_⟩;rw[b5T,b9h];exact .cons xg q2
theorem b3q:∀{xs ys:List Int},Paired (λa g=>a<=g) xs ys->xs.sum<=ys.sum
 | _,_,.nil=>b8l _
 | _,_,.cons h t=>by rw[b6t,b6t];exact c1g h (b3q t)
theorem light {ws U V:List Int} {st:Int} (h:(U++V).Perm ws) (e:(U.length:Int)+st=ws.length) (s0:0<=st):wl ws st<=U.sum:=by
 obtain⟨G',q1,q2⟩:=lgt (f:=λx:Int=>x) (G:=U) (V:=V) (a0V ws) (by rw[List.map_id'];exact h.trans (a0v ws).symm);unfold wl;rw[show ws.length-st.toNat=U.length by omega,<-a2v q1];exact b3q q2
abbrev Lf:=Int × List Int
abbrev Tr:=Int × List Lf
def lc (ps:List Int) (g:Int) (q:Lf):Int:=q.1*(g+pc ps q.2)
def tc (ps:List Int) (t:Tr):Int:=(t.2.map (lc ps t.1)).sum
def fc (ps:List Int) (F:List Tr):Int:=(F.map (tc ps)).sum
def lvs (F:List Tr):List Lf:=F.flatMap (·.2)
def mu (l:List Lf):Nat:=(l.map λq=>q.2.length+1).sum
theorem a6w (h:l.Perm m):mu l=mu m:=(h.map _).sum_nat
theorem a7F (t:Tr) (F:List Tr):lvs (t::F)=t.2++lvs F:=rfl
theorem a3u (F G:List Tr):lvs (F++G)=lvs F++lvs G:=b9i
theorem b3r (ps:List Int) (F G:List Tr):fc ps (F++G)=fc ps F+fc ps G:=by unfold fc;rw[b5H,b7R]
theorem a4J {F G:List Tr} (h:F.Perm G):(lvs F).Perm (lvs G):=h.flatMap_right _
structure Fo (ps ws:List Int) (st:Int) (F:List Tr):Prop where
 ne:∀t∈F,t.2≠[]
 pf:∀t∈F,PF (t.2.map (·.2))
 lt:∀q∈lvs F,Lt ps.length q.2
 ln:((lvs F).length:Int)+st=ws.length
 sb:∃V,((lvs F).map (·.1)++V).Perm ws
theorem a7G (ps:List Int) (g d:Int):∀l:List Lf,(l.map (lc ps (g-d))).sum=(l.map (lc ps g)).sum-d*(l.map (·.1)).sum
 | []=>by simp
 | q::l=>by
  have ih:=a7G ps g d l;simp only[b6m,b6t,ih];have:lc ps (g-d) q=lc ps g q-d*q.1:=by
   unfold lc;rw[show g-d+pc ps q.2=(g+pc ps q.2)-d by omega,Int.mul_sub,c1e q.1 d]
  rw[this,c0s];omega
def sh (d:Int) (F:List Tr):List Tr:=F.map λt=>(t.1-d,t.2)
theorem a5L (d:Int):∀F:List Tr,lvs (sh d F)=lvs F
 | []=>rfl
 | t::F=>by show t.2++lvs (sh d F)=_;rw[a5L d F];rfl
theorem sh_fc (ps:List Int) (d:Int):∀F:List Tr,fc ps (sh d F)=fc ps F-d*((lvs F).map (·.1)).sum
 | []=>by show(0:Int)=0-d*0;simp
 | t::F=>by
  have ih:=sh_fc ps d F;show tc ps (t.1-d,t.2)+fc ps (sh d F)=tc ps t+fc ps F-d*((t.2++lvs F).map (·.1)).sum;have e:tc ps (t.1-d,t.2)=tc ps t-d*(t.2.map (·.1)).sum:=a7G ps t.1 d t.2;rw[ih,e,b5H,b7R,c0s];omega
theorem b4X {x:Int} (h:x∈ns):b0x ns<=x:=by
 unfold b0x;rw[if_neg (λz=>by rw[z] at h;cases h)];have hs:=(a0v ns).mem_iff.mpr h;have r:=a0V ns;cases e:srt ns with
 | nil=>rw[e] at hs;cases hs
 | cons a l =>
  rw[e] at hs r;rcases b5Q.mp hs with z|z
  ·exact b8T z.symm
  ·exact(b6E.mp r).1 x z
theorem b0J (W:Wide ps ws) {k:Fr} (h:a3p ws k) (z:k.2.length=0):flo ps ws k=0:=by
 have:nxt ps ws k=[]:=by
  have nb:=a7y W h;cases hn:nxt ps ws k with
  | nil=>rfl
  | cons a l =>
   rw[hn] at nb;have:a.1∈lawf ps.length ws.length k.1 k.2.length:=by rw[<-nb];exact .head _
   rw[z] at this;rcases a1d.mp this with ⟨_,y⟩|⟨_,_,_,y,_⟩<;>omega
 rw[a5K W h,this];rfl
theorem reb (W:Wide ps ws) {k:Fr} (ok:a3p ws k) (hr:r∈rws ps ws k.1 k.2 (ps.length-1)) (eF:r.2.2=srt (F.map (·.1))) (fo:Fo ps ws r.2.1 F)
  (ih:∀(k':Fr) (F':List Tr),lvs F'=lvs F->a3p ws k'->Fo ps ws k'.1 F'->k'.2=srt (F'.map (·.1))->(F'≠[]->∃t∈F',t.1=0)->flo ps ws k'<=fc ps F'):flo ps ws k<=fc ps F:=by
 have hm:fin ws r∈nxt ps ws k:=b5K.mpr ⟨r,hr,rfl⟩;have okm:=(a1U W ok hm).1;have le:flo ps ws k<=(fin ws r).2.1+flo ps ws (fin ws r).2.2:=by
  rw[a5K W ok];exact b4X (b5K.mpr ⟨_,hm,rfl⟩)
 refine b8r le ?_;by_cases e:r.2.2=[]
 ·have eF0:F=[]:=by
   have:=b7m List.length eF;rw[e,a0P,b5x] at this;exact b6g.mp this.symm
  have ef:fin ws r=(r.1,0,(r.2.1,[])):=by unfold fin;rw[if_pos e]
  rw[ef] at okm ⊢;have:=ih (r.2.1,[]) F rfl okm fo (by rw[<-eF,e]) (λz=>absurd eF0 z);show 0+flo ps ws (r.2.1,[])<=fc ps F;omega
 ·have ef:fin ws r=(r.1,r.2.2.headD 0*wl ws r.2.1,(r.2.1,r.2.2.map (·-r.2.2.headD 0))):=by unfold fin;rw[if_neg e]
  obtain⟨h1,h2,h3,xs,h4,h5⟩:=b4M W.p2 ok.iv ok.bd W.bp hr;obtain⟨d,rest,er⟩:∃d rest,r.2.2=d::rest:=by
   cases hz:r.2.2 with
   | nil=>exact absurd hz e
   | cons a l=>exact⟨a,l,rfl⟩
  have hd:d∈srt (F.map (·.1)):=by rw[<-eF,er];exact .head _
  have d0:0<=d:=(h5 d ((a0v xs).mem_iff.mp (by rw[<-h4,er];exact .head _))).1;have hh:r.2.2.headD 0=d:=by rw[er];rfl
  rw[ef,hh] at okm ⊢;have fo':Fo ps ws r.2.1 (sh d F):=⟨λt ht=>by
    obtain⟨t',h',rfl⟩:=b5K.mp ht;exact fo.ne t' h',λt ht=>by
    obtain⟨t',h',rfl⟩:=b5K.mp ht;exact fo.pf t' h',by rw[a5L];exact fo.lt,by rw[a5L];exact fo.ln,by rw[a5L];exact fo.sb⟩
  have e3:r.2.2.map (·-d)=srt ((sh d F).map (·.1)):=by
   rw[eF,<-a9T];congr 1;unfold sh;rw[b6r,b6r];rfl
  have h6:=ih (r.2.1,r.2.2.map (·-d)) (sh d F) (a5L d F) okm fo' e3 (λ_=>by
   obtain⟨t,ht,et⟩:=b5K.mp ((a0v _).mem_iff.mp hd);exact⟨(t.1-d,t.2),b5K.mpr ⟨t,ht,rfl⟩,by show t.1-d=0;omega⟩)
  rw[sh_fc] at h6;obtain⟨V,hV⟩:=fo.sb;have s0:=okm.iv.s0;have lg:wl ws r.2.1<=((lvs F).map (·.1)).sum:=light hV (by rw[b5x];exact fo.ln) s0;have:=b9Y lg d0;show d*wl ws r.2.1+flo ps ws (r.2.1,r.2.2.map (·-d))<=fc ps F;omega
def ins (w d:Int) (u:List Int):List Tr->List Tr
 | []=>[(d,[(w,u)])]
 | t::r=>if t.1=d then (t.1,(w,u)::t.2)::r else t::ins w d u r
def grp:List Lf->List Tr
 | []=>[]
 | (w,d::u)::r=>ins w d u (grp r)
 | (_,[])::r=>grp r
theorem a4K {w d:Int}:∀{G:List Tr} {t:Tr},t∈ins w d u G->(t∈G)\/(t.1=d/\(t.2=[(w,u)]\/∃g,(d,g)∈G/\t.2=(w,u)::g))
 | [],t,h=>by
  rw[b5C.mp h];exact .inr ⟨rfl,.inl rfl⟩
 | s::r,t,h=>by
  unfold ins at h;split at h
  ·rename_i c;rcases b5Q.mp h with z|z
   ·rw[z];exact .inr ⟨c,.inr ⟨s.2,by rw[<-c];exact .head _,rfl⟩⟩
   ·exact .inl (.tail _ z)
  ·rcases b5Q.mp h with z|z
   ·rw[z];exact .inl (.head _)
   ·rcases a4K z with y|⟨y1,y|⟨g,y2,y3⟩⟩
    ·exact .inl (.tail _ y)
    ·exact .inr ⟨y1,.inl y⟩
    ·exact .inr ⟨y1,.inr ⟨g,.tail _ y2,y3⟩⟩
theorem a7H {w d:Int}:∀{G:List Tr} {x:Int},x∈(ins w d u G).map (·.1)↔x∈G.map (·.1)\/x=d
 | [],x=>by simp[ins]
 | s::r,x=>by
  unfold ins;split
  ·rename_i c;simp only[b6m,b5Q];exact⟨.inl,λh=>h.elim id λz=>.inl (by rw[z,c])⟩
  ·simp only[b6m,b5Q,a7H (G:=r)];exact(or_assoc).symm
theorem b3s {w d:Int}:∀{G:List Tr},(G.map (·.1)).Nodup->((ins w d u G).map (·.1)).Nodup
 | [],_=>b6S _ _
 | s::r,h=>by
  obtain⟨h1,h2⟩:=b7I.mp h;unfold ins;split
  ·exact h
  ·rename_i c;refine b7I.mpr ⟨λz=>?_,b3s h2⟩;rcases a7H.mp z with y|y
   ·exact h1 y
   ·exact c y
theorem a6x {w d:Int}:∀{G:List Tr},(lvs (ins w d u G)).Perm ((w,u)::lvs G)
 | []=>.refl _
 | s::r=>by
  unfold ins;split
  ·exact .refl _
  ·exact((a6x (G:=r)).append_left s.2).trans b6X
def gc (ps:List Int) (G:List Tr):Int:=(G.map λt=>tc ps (ps.getD t.1.toNat 0,t.2)).sum
theorem b3t {w d:Int}:∀{G:List Tr},gc ps (ins w d u G)=w*pc ps (d::u)+gc ps G
 | []=>by
  show(w*(ps.getD d.toNat 0+pc ps u)+0)+0=w*pc ps (d::u)+0;have:pc ps (d::u)=ps.getD d.toNat 0+pc ps u:=by unfold pc;simp
  rw[this];omega
 | s::r=>by
  have e:pc ps (d::u)=ps.getD d.toNat 0+pc ps u:=by unfold pc;simp
  unfold ins;split
  ·rename_i c;show(w*(ps.getD s.1.toNat 0+pc ps u)+tc ps (ps.getD s.1.toNat 0,s.2))+gc ps r=_+(tc ps (ps.getD s.1.toNat 0,s.2)+gc ps r)
   rw[e,c];omega
  ·show tc ps (ps.getD s.1.toNat 0,s.2)+gc ps (ins w d u r)=_+(tc ps (ps.getD s.1.toNat 0,s.2)+gc ps r)
   rw[b3t (G:=r)];omega
structure Gg (ps:List Int) (l:List Lf) (G:List Tr):Prop where
 nd:(G.map (·.1)).Nodup
 mem:∀t∈G,∀q∈t.2,(q.1,t.1::q.2)∈l
 ne:∀t∈G,t.2≠[]
 pf:∀t∈G,PF (t.2.map (·.2))
 lv:((lvs G).map (·.1)).Perm (l.map (·.1))
 gc:gc ps G=(l.map (lc ps 0)).sum
 mu:mu (lvs G)+l.length=mu l
theorem b3u (ps:List Int):∀{l:List Lf},(∀q∈l,q.2≠[])->PF (l.map (·.2))->Gg ps l (grp l)
 | [],_,_=>⟨.nil,λ_ h=>(by cases h),λ_ h=>(by cases h),λ_ h=>(by cases h),.refl _,rfl,rfl⟩
 | (w,[])::r,h,_=>absurd rfl (h _ (.head _))
 | (w,d::u)::r,h,hp=>by
  obtain⟨p1,p2⟩:=b6E.mp hp;have ih:=b3u ps (λq hq=>h q (.tail _ hq)) p2;refine⟨b3s ih.nd,λt ht q hq=>?_,λt ht=>?_,λt ht=>?_,?_,?_,?_⟩
  ·rcases a4K ht with y|⟨y1,y|⟨g,y2,y3⟩⟩
   ·exact .tail _ (ih.mem t y q hq)
   ·rw[y] at hq;rw[b5C.mp hq,y1];exact .head _
   ·rw[y3] at hq;rw[y1];rcases b5Q.mp hq with z|z
    ·rw[z];exact .head _
    ·exact .tail _ (ih.mem _ y2 q z)
  ·rcases a4K ht with y|⟨y1,y|⟨g,y2,y3⟩⟩
   ·exact ih.ne t y
   ·rw[y];simp
   ·rw[y3];simp
  ·rcases a4K ht with y|⟨y1,y|⟨g,y2,y3⟩⟩
   ·exact ih.pf t y
   ·rw[y];exact b6S _ _
   ·rw[y3];refine b6E.mpr ⟨λv hv=>?_,ih.pf _ y2⟩;obtain⟨q,hq,rfl⟩:=b5K.mp hv;have:=p1 _ (b5K.mpr ⟨_,ih.mem _ y2 q hq,rfl⟩);exact⟨λz=>this.1 ((List.prefix_cons_inj d).mpr z),λz=>this.2 ((List.prefix_cons_inj d).mpr z)⟩
  ·exact(a6x.map _).trans (ih.lv.cons w)
  ·have e:lc ps 0 (w,d::u)=w*pc ps (d::u):=by
    unfold lc;rw[b8S]
   show K77.gc ps (ins w d u (grp r))=lc ps 0 (w,d::u)+(r.map (lc ps 0)).sum;rw[b3t,ih.gc,e]
  ·have e:K77.mu (lvs (ins w d u (grp r)))=(u.length+1)+K77.mu (lvs (grp r)):=a6w a6x;have e2:K77.mu ((w,d::u)::r)=(u.length+1+1)+K77.mu r:=rfl;have:=ih.mu;show K77.mu (lvs (ins w d u (grp r)))+(r.length+1)=_;rw[e,e2];omega
theorem rws_0 (h:r∈rw1 ws st gs):∀n,r∈rws ps ws st gs n
 | 0=>h
 | n+1=>b6u _ (rws_0 h n)
theorem rws_m (h:r∈rw2 ps ws st gs m) (m2:2<=m):∀{n},m<=n+1->r∈rws ps ws st gs n
 | 0,h1=>by omega
 | n+1,h1=>by
  by_cases e:m=n+2
  ·exact b5N _ (by rw[<-e];exact h)
  ·exact b6u _ (rws_m h m2 (by omega))
theorem lone {l:List Lf} (hp:PF (l.map (·.2))) {q:Lf} (hq:q∈l) (e:q.2=[]):l=[q]:=by
 obtain⟨A,B,rfl⟩:=b7S hq;rw[b5H,b6m] at hp;obtain⟨_,h2,h3⟩:=b7x.mp hp;have a0:A=[]:=by
  cases A with
  | nil=>rfl
  | cons a A=>exact absurd (by rw[e];exact List.nil_prefix) (h3 a.2 (.head _) q.2 (.head _)).2
 have b0:B=[]:=by
  cases B with
  | nil=>rfl
  | cons b B=>exact absurd (by rw[e];exact List.nil_prefix) ((b6E.mp h2).1 b.2 (.head _)).1
 rw[a0,b0];rfl
theorem a6y {G:List Tr} (nd:(G.map (·.1)).Nodup) (h:∀t∈G,0<=t.1/\t.1<(ps.length:Int)):∃V,(G.map (λt=>ps.getD t.1.toNat 0)++V).Perm (srt ps):=by
 have nd2:(G.map λt=>t.1.toNat).Nodup:=by
  unfold List.Nodup at nd ⊢;rw[b6k] at nd ⊢;refine nd.imp_of_mem λ{a b} ha hb ne e=>ne ?_;have:=(h a ha).1;have:=(h b hb).1;omega
 have p1:((List.range ps.length).filter λi=>decide (i∈G.map λt=>t.1.toNat)).Perm (G.map λt=>t.1.toNat):=by
  refine(List.perm_ext_iff_of_nodup (b8C.filter _) nd2).mpr λi=>?_;rw[b9n,b6K,b6F];refine⟨λz=>z.2,λz=>⟨?_,z⟩⟩;obtain⟨t,ht,rfl⟩:=b5K.mp z;have:=h t ht;omega
 have p2:=List.filter_append_perm (λi=>decide (i∈G.map λt=>t.1.toNat)) (List.range ps.length);refine⟨(((List.range ps.length).filter λi=>!decide (i∈G.map λt=>t.1.toNat))).map λa=>ps.getD a 0,?_⟩;have p3:=((p1.symm.append_right _).trans p2).map λa=>ps.getD a 0;rw[a3o,b5H,b6r] at p3;exact p3.trans (a0v ps).symm
def tre (cs:List Int) (G:List Tr):List Tr:=List.zipWith (λc t=>(c,t.2)) cs G
theorem b0K {ps ws:List Int} {f:Tr->Int}:∀{cs:List Int} {G:List Tr},Paired (λa g=>a<=f g) cs G->(∀q∈lvs G,0<=q.1)->(tre cs G).map (·.1)=cs/\lvs (tre cs G)=lvs G/\(∀t∈tre cs G,∃g∈G,t.2=g.2)/\fc ps (tre cs G)<=(G.map λt=>tc ps (f t,t.2)).sum
 | _,_,.nil,_=>⟨rfl,rfl,λt ht=>(by cases ht),b8l _⟩
 | c::cs,g::G,.cons h t,h0=>by
  obtain⟨h1,h2,h3,h4⟩:=b0K (ps:=ps) (ws:=ws) t λq hq=>h0 q (b5N _ hq);refine⟨by show c::(tre cs G).map (·.1)=_;rw[h1],by show g.2++lvs (tre cs G)=g.2++lvs G;rw[h2],λt ht=>?_,?_⟩
  ·rcases b5Q.mp ht with z|z
   ·exact⟨g,.head _,by rw[z]⟩
   ·obtain⟨g',a,b⟩:=h3 t z;exact⟨g',.tail _ a,b⟩
  ·show tc ps (c,g.2)+fc ps (tre cs G)<=tc ps (f g,g.2)+_;refine c1g ?_ h4;have key:∀l:List Lf,(∀q∈l,0<=q.1)->(l.map (lc ps c)).sum<=(l.map (lc ps (f g))).sum:=by
    intro l
    induction l with
    | nil=>intro _;exact b8l _
    | cons q l ih =>
     intro hl;rw[b6m,b6t,b6m,b6t];exact c1g (b9Y (Int.add_le_add_right h _) (hl q (.head _))) (ih λq hq=>hl q (.tail _ hq))
   exact key g.2 λq hq=>h0 q (b6u _ hq)
theorem leaves (h:∀t∈F,t.2≠[]):F.length<=(lvs F).length:=by
 induction F with
 | nil=>exact b5G _
 | cons t F ih =>
  rw[a7F,b5J,b5T];have:=b6P.mpr (h t (.head _));have:=ih λt ht=>h t (.tail _ ht);omega
theorem b0L {ps ws:List Int} (W:Wide ps ws):∀(N:Nat) {k:Fr} {F:List Tr},mu (lvs F)<=N->a3p ws k->Fo ps ws k.1 F->k.2=srt (F.map (·.1))->(F≠[]->∃t∈F,t.1=0)->flo ps ws k<=fc ps F:=by
 intro N
 induction N with
 | zero =>
  intro k F hN ok fo eF _;cases F with
  | nil=>exact b8T (b0J W ok (by rw[eF,a0P];rfl))
  | cons t F =>
   exfalso;rw[a7F] at hN;cases ht:t.2 with
   | nil=>exact fo.ne t (.head _) ht
   | cons q l =>
    rw[ht] at hN;have:mu (q::(l++lvs F))=q.2.length+1+mu (l++lvs F):=rfl;rw[List.cons_append,this] at hN;omega
 | succ N IH =>
  intro k F hN ok fo eF hz;by_cases F0:F=[]
  ·rw[F0];exact b8T (b0J W ok (by rw[eF,F0,a0P];rfl))
  obtain⟨t,htF,t0⟩:=hz F0;obtain⟨A,B,eAB⟩:=b7S htF;obtain⟨R,eR⟩:∃R,R=A++B:=⟨_,rfl⟩
  have pF:F.Perm (t::R):=by rw[eAB,eR];exact b6X
  have pL:(lvs F).Perm (t.2++lvs R):=a4J pF;have cF:fc ps F=tc ps t+fc ps R:=a2v (pF.map _);have mF:mu (lvs F)=mu (t.2++lvs R):=a6w pL;have mApp:∀a b:List Lf,mu (a++b)=mu a+mu b:=λa b=>by unfold mu;rw[b5H,b7R]
  rw[mApp] at mF;have hR:∀s∈R,s∈F:=λs hs=>pF.mem_iff.mpr (.tail _ hs);have gp:∀s∈F,0<=s.1:=λs hs=>(ok.bd s.1 (by rw[eF];exact(a0v _).mem_iff.mpr (b5K.mpr ⟨s,hs,rfl⟩))).1;have pg:(F.map (·.1)).Perm (0::R.map (·.1)):=by
   have:=pF.map (λs:Tr=>s.1);rw[b6m,t0] at this;exact this
  have e1:srt (F.map (·.1))=0::srt (R.map (·.1)):=a4w pg λx hx=>by
   obtain⟨s,hs,rfl⟩:=b5K.mp hx;exact gp s (hR s hs)
  have tl:k.2.tail=srt (R.map (·.1)):=by rw[eF,e1];rfl
  have lk:k.2.length=R.length+1:=by rw[eF,a0P,b5x,pF.length_eq];rfl
  obtain⟨V,hV⟩:=fo.sb;have w0:∀q∈lvs F,0<=q.1:=λq hq=>(W.bw q.1 (hV.mem_iff.mp (b6u _ (b5K.mpr ⟨q,hq,rfl⟩)))).1;have tne:=fo.ne t htF;have tpf:=fo.pf t htF;have ln:=fo.ln;rw[pL.length_eq,b5J] at ln;have foR:∀E:List Tr,((lvs E).map (·.1)).Perm (t.2.map (·.1))->(∀s∈E,s.2≠[])->(∀s∈E,PF (s.2.map (·.2)))->(∀q∈lvs E,Lt ps.length q.2)->Fo ps ws k.1 (R++E):=λE pE n1 n2 n3=>by
   have lE:(lvs E).length=t.2.length:=by have:=pE.length_eq;rwa [b5x,b5x] at this
   refine⟨λs hs=>(b5W.mp hs).elim (λz=>fo.ne s (hR s z)) (n1 s),λs hs=>(b5W.mp hs).elim (λz=>fo.pf s (hR s z)) (n2 s),λq hq=>?_,?_,V,?_⟩
   ·rw[a3u] at hq;exact(b5W.mp hq).elim (λz=>fo.lt q (pL.mem_iff.mpr (b5N _ z))) (n3 q)
   ·rw[a3u,b5J,lE];omega
   ·refine List.Perm.trans (List.Perm.append_right V ?_) hV;rw[a3u,b5H];have:=pL.map (λq:Lf=>q.1);rw[b5H] at this;exact((b8U _ pE).trans b8V).trans this.symm
  by_cases hE:∃q∈t.2,q.2=[]
  ·-- a word ends here: it is settled
   obtain⟨q,hq,eq⟩:=hE;have et:=lone tpf hq eq;have c0:tc ps t=0:=by
    unfold tc;rw[et,t0];show q.1*(0+pc ps q.2)+0=0;rw[eq];show q.1*(0+0)+0=0;simp
   rw[cF,c0,b8S];rw[et] at ln pL mF;have ln:(1:Int)+(lvs R).length+k.1=ws.length:=by simp at ln;omega
   have hr:((0:Int),k.1+1,srt k.2.tail)∈rws ps ws k.1 k.2 (ps.length-1):=rws_0 (by
    unfold rw1;rw[if_pos]
    ·exact .head _
    ·by_cases z:R=[]
     ·rw[z] at ln;have:(lvs []).length=0:=rfl;rw[this] at ln;exact .inr (by omega)
     ·have:=b6P.mpr z;exact .inl (by omega)) _
   refine reb W ok hr (F:=R) ?_ ⟨λs hs=>fo.ne s (hR s hs),λs hs=>fo.pf s (hR s hs),λp hp=>fo.lt p (pL.mem_iff.mpr (b5N _ hp)),by show _+(k.1+1)=_;omega,q.1::V,?_⟩ λk' F' eL ok' fo' e' z'=>IH ?_ ok' fo' e' z'
   ·show srt k.2.tail=_;rw[tl];exact a1R (a0v _)
   ·refine b6X.trans ?_;have:=(pL.map (λq:Lf=>q.1)).append_right V;exact this.symm.trans hV
   ·rw[eL];have:mu [q]=q.2.length+1+0:=rfl;omega
  ·-- the words go on
   have hne:∀q∈t.2,q.2≠[]:=λq hq e=>hE ⟨q,hq,e⟩;have gg:=b3u ps hne tpf;generalize grp t.2=G at gg;have tp:=b6P.mpr tne;have ct:tc ps t=gc ps G:=by rw[gg.gc];unfold tc;rw[t0]
   have gl:(lvs G).length=t.2.length:=by have:=gg.lv.length_eq;rwa [b5x,b5x] at this
   have mG:=gg.mu;have wG:∀q∈lvs G,0<=q.1:=λq hq=>by
    obtain⟨q',h1,h2⟩:=b5K.mp (gg.lv.mem_iff.mp (b5K.mpr ⟨q,hq,rfl⟩));rw[<-h2];exact w0 q' (pL.mem_iff.mpr (b6u _ h1))
   have ltG:∀s∈G,∀q∈s.2,Lt ps.length (s.1::q.2):=λs hs q hq=>fo.lt _ (pL.mem_iff.mpr (b6u _ (gg.mem s hs q hq)));have ltq:∀q∈lvs G,Lt ps.length q.2:=λq hq=>by
    obtain⟨s,hs,hq'⟩:=b8g.mp hq;exact λz hz=>ltG s hs q hq' z (.tail _ hz)
   have rg:∀s∈G,0<=s.1/\s.1<(ps.length:Int):=λs hs=>by
    cases hs2:s.2 with
    | nil=>exact absurd hs2 (gg.ne s hs)
    | cons q l=>exact ltG s hs q (by rw[hs2];exact .head _) s.1 (.head _)
   obtain⟨U,hU⟩:=a6y gg.nd rg;obtain⟨G',pG,prG⟩:=lgt (f:=λs:Tr=>ps.getD s.1.toNat 0) (a0V ps) hU;have lG:G.length<=ps.length:=by have:=hU.length_eq;rw[b5J,b5x,a0P] at this;omega
   have G1:1<=G.length:=by
    cases G with
    | nil=>exact absurd gl.symm (by show ¬t.2.length=0;omega)
    | cons s l=>show 1<=l.length+1;omega
   rw[cF,ct];by_cases one:G.length=1
   ·-- one letter alone: it is left out
    match G,one,gg,ltG,rg,ltq,wG,mG,gl with
    | [s],_,gg,ltG,rg,ltq,wG,mG,gl =>
    have hs:lvs [s]=s.2:=b6B _;have fo1:=foR [(0,s.2)] (by rw[show lvs [((0:Int),s.2)]=s.2 from b6B _,<-hs];exact gg.lv) (λz hz=>by rw[b5C.mp hz];exact gg.ne s (.head _)) (λz hz=>by rw[b5C.mp hz];exact gg.pf s (.head _)) (by rw[show lvs [((0:Int),s.2)]=s.2 from b6B _,<-hs];exact ltq);have h7:=IH (k:=k) (F:=R++[(0,s.2)]) (by
     rw[a3u,mApp,show lvs [((0:Int),s.2)]=s.2 from b6B _];rw[hs] at mG;omega) ok fo1 (by
     rw[eF];refine a1R (pg.trans ?_);rw[b5H];exact(b8V (l₁:=R.map (·.1)) (l₂:=[(0:Int)])).symm) (λ_=>⟨(0,s.2),b5N _ (.head _),rfl⟩)
    rw[b3r] at h7;have cs:fc ps [((0:Int),s.2)]<=gc ps [s]:=by
     have:=(b0K (ps:=ps) (ws:=ws) (f:=λs:Tr=>ps.getD s.1.toNat 0) (cs:=[0]) (G:=[s]) (.cons (by
      show(0:Int)<=ps.getD s.1.toNat 0;rw[b5B];cases hz:ps[s.1.toNat]? with
      | none=>exact b8l _
      | some z=>exact(W.bp z (b5M hz)).1) .nil) wG).2.2.2
     exact this
    omega
   ·obtain⟨h1,h2,h3,h4⟩:=b0K (ps:=ps) (ws:=ws) prG λq hq=>wG q ((a4J pG).mem_iff.mp hq);generalize tre ((srt ps).take G.length) G'=E at h1 h2 h3 h4;have pE:(lvs E).Perm (lvs G):=by rw[h2];exact a4J pG
    have fo1:=foR E ((pE.map _).trans gg.lv) (λs hs=>by
     obtain⟨g,hg,e⟩:=h3 s hs;rw[e];exact gg.ne g (pG.mem_iff.mp hg)) (λs hs=>by
     obtain⟨g,hg,e⟩:=h3 s hs;rw[e];exact gg.pf g (pG.mem_iff.mp hg)) λq hq=>ltq q (pE.mem_iff.mp hq)
    have lE:E.length=G.length:=by
     have:=b7m List.length h1;rw[b5x,b5R,a0P] at this;omega
    have cn:=leaves fo1.ne;rw[b5J,lE] at cn;have ln1:=fo1.ln;have hr:(((G.length:Nat):Int),k.1,srt (k.2.tail++(srt ps).take G.length))∈rws ps ws k.1 k.2 (ps.length-1):=rws_m (by
     unfold rw2;rw[if_pos]
     ·exact .head _
     ·omega) (by omega) (by omega)
    have h8:=reb W ok hr (F:=R++E) (by
     show srt (k.2.tail++_)=_;rw[tl,b5H,h1];exact a1R (List.Perm.append_right _ (a0v _))) fo1 λk' F' eL ok' fo' e' z'=>IH (by
     rw[eL,a3u,mApp,a6w pE];omega) ok' fo' e' z'
    rw[b3r] at h8;have:(G'.map λt=>tc ps (ps.getD t.1.toNat 0,t.2)).sum=gc ps G:=a2v (pG.map _);rw[this] at h4;omega
theorem b4Y (h:vs.Perm ws) (st:Int):wl vs st=wl ws st:=by
 unfold wl;rw[a1R h,h.length_eq]
theorem a7I (h:vs.Perm ws) (st:Int) (gs:List Int):∀n,rws ps vs st gs n=rws ps ws st gs n
 | 0=>by unfold rws rw1;rw[h.length_eq]
 | n+1=>by unfold rws;rw[a7I h st gs n];unfold rw2;rw[h.length_eq]
theorem b2u (h:vs.Perm ws) (k:Fr):nxt ps vs k=nxt ps ws k:=by
 unfold nxt mvs;rw[a7I h];refine b6c λr _=>?_;unfold fin;rw[b4Y h]
theorem a7J (h:vs.Perm ws):∀(f:Nat) (k:Fr),flF ps vs f k=flF ps ws f k
 | 0,_=>rfl
 | f+1,k=>by
  show b0x _=b0x _;rw[b2u h];congr 1;exact b6c λm _=>by rw[a7J h f]
theorem a7K (h:vs.Perm ws) (k:Fr):flo ps vs k=flo ps ws k:=by
 unfold flo;rw[h.length_eq,a7J h]
theorem a6z (W:Wide ps ws) (pf:PF us) (lt:∀u∈us,Lt ps.length u) (ln:us.length=ws.length):flo ps ws (0,[0])<=coZ ps ws us:=by
 have w1:=W.w1;have eL:lvs [((0:Int),ws.zip us)]=ws.zip us:=b6B _;have lz:(ws.zip us).length=ws.length:=by rw[c1f];omega
 have f1:(ws.zip us).map (·.1)=ws:=List.map_fst_zip (by omega);have f2:(ws.zip us).map (·.2)=us:=c1a (by omega);have key:=b0L W _ (k:=(0,[0])) (F:=[(0,ws.zip us)]) (b5G _) (a2Q w1) ⟨λt ht=>by
  rw[b5C.mp ht];intro z;have z:ws.zip us=[]:=z;rw[z] at lz;simp at lz;omega,λt ht=>by
  rw[b5C.mp ht];show PF ((ws.zip us).map (·.2));rw[f2];exact pf,λq hq=>by
  rw[eL] at hq;exact lt q.2 (by rw[<-f2];exact b5K.mpr ⟨q,hq,rfl⟩),by rw[eL,lz];show _+(0:Int)=_;omega,[],by
  rw[eL,f1,b6B]⟩ (srt1 0).symm (λ_=>⟨_,.head _,rfl⟩)
 refine b8r key (b8T ?_);show((ws.zip us).map (lc ps 0)).sum+0=_;rw[c0y];unfold coZ;congr 1;rw[<-List.map_uncurry_zip_eq_zipWith];refine b6c λq _=>?_;show q.1*(0+pc ps q.2)=q.1*pc ps q.2;rw[b8S]
def oin (w:Int) (row:List Int):List (List Int):=(List.range (row.length+1)).map λi=>row.take i++[w]++row.drop i
def ords (ws:List Int):List (List Int):=ws.foldl (λos w=>os.flatMap (oin w)) [[]]
theorem a3v (ws:List Int) (w:Int):ords (ws++[w])=(ords ws).flatMap (oin w):=by
 unfold ords;rw[List.foldl_append];rfl
theorem b2v {w:Int} (h:vs∈oin w row):vs.Perm (row++[w]):=by
 unfold oin at h;obtain⟨i,_,rfl⟩:=b5K.mp h;have e:row.Perm (row.take i++row.drop i):=by rw[List.take_append_drop]
 refine List.Perm.trans ?_ (e.symm.append_right [w]);rw[b7w,b7w];exact(b8V (l₁:=[w]) (l₂:=row.drop i)).append_left _
theorem a1V:∀(n:Nat) {ws vs:List Int},ws.length=n->vs∈ords ws->vs.Perm ws
 | 0,ws,vs,e,h=>by
  rw[b6g.mp e] at h ⊢;rw[b5C.mp h]
 | n+1,ws,vs,e,h=>by
  obtain⟨us,w,rfl⟩:∃us w,ws=us++[w]:=⟨ws.dropLast,ws.getLast (by intro z;rw[z] at e;cases e),(c0g _).symm⟩
  rw[a3v] at h;obtain⟨row,hr,hv⟩:=b8g.mp h;have:=a1V n (by rw[b5J] at e;simpa using e) hr;exact(b2v hv).trans (this.append_right _)
theorem a5M:∀(n:Nat) {ws vs:List Int},ws.length=n->vs.Perm ws->vs∈ords ws
 | 0,ws,vs,e,h=>by
  have e1:=b6g.mp e;subst e1;rw[h.eq_nil];exact .head _
 | n+1,ws,vs,e,h=>by
  obtain⟨us,w,rfl⟩:∃us w,ws=us++[w]:=⟨ws.dropLast,ws.getLast (by intro z;rw[z] at e;cases e),(c0g _).symm⟩
  obtain⟨s,t,rfl⟩:=b7S (h.mem_iff.mpr (b5W.mpr (.inr (.head _))):w∈vs);have p:(s++t).Perm us:=by
   have a:(w::(s++t)).Perm (w::us):=(b6X.symm).trans (h.trans (b8V (l₁:=us) (l₂:=[w])));exact a.cons_inv
  rw[a3v];refine b8g.mpr ⟨_,a5M n (by rw[b5J] at e;simpa using e) p,?_⟩;unfold oin;refine b5K.mpr ⟨s.length,b6F.mpr (by rw[b5J];omega),?_⟩;rw[List.take_left,List.drop_left,b7w];rfl
theorem a6A (w:Int) (row:List Int):(oin w row).length=row.length+1:=by unfold oin;rw[b5x,b5V]
end K77
namespace K77K
open PySem L2
abbrev OI:=Option Int
def lo (xs:List OI):OI:=if xs.filterMap id=[] then none else some ((srt (xs.filterMap id)).headD 0)
def oadd:OI->OI->OI
 | some a,some b=>some (a+b)
 | _,_=>none
theorem a3w {xs:List OI} {k:Int}:k∈xs.filterMap id↔some k∈xs:=by
 rw[b9o];constructor
 ·rintro⟨a,h,e⟩;have e':a=some k:=e;rw[<-e'];exact h
 ·intro h;exact⟨some k,h,rfl⟩
theorem a6B (h:ns≠[]):(srt ns).headD 0∈ns/\∀x∈ns,(srt ns).headD 0<=x:=by
 have p:=a0v ns;have r:=a0V ns;cases e:srt ns with
 | nil =>
  rw[e] at p;exact absurd p.symm.eq_nil h
 | cons a t =>
  rw[e] at p r;refine⟨p.mem_iff.mp (.head _),λx hx=>?_⟩;show a<=x;rcases b5Q.mp (p.symm.mem_iff.mp hx) with z|z
  ·rw[z];exact b8l _
  ·exact(b6E.mp r).1 x z
theorem a1F {xs:List OI} {m:Int}:lo xs=some m↔some m∈xs/\∀k,some k∈xs->m<=k:=by
 unfold lo;split
 ·rename_i h;constructor
  ·intro z;cases z
  ·rintro⟨z,_⟩;have:=a3w.mpr z;rw[h] at this;cases this
 ·rename_i h;obtain⟨h1,h2⟩:=a6B h;constructor
  ·intro z;cases z;exact⟨a3w.mp h1,λk hk=>h2 k (a3w.mpr hk)⟩
  ·rintro⟨z1,z2⟩;have a1:=h2 m (a3w.mpr z1);have a2:=z2 _ (a3w.mp h1);congr 1;omega
theorem a3x {xs:List OI}:lo xs=none↔∀k,some k∉xs:=by
 unfold lo;split
 ·rename_i h;refine⟨λ_ k hk=>?_,λ_=>rfl⟩;have:=a3w.mpr hk;rw[h] at this;cases this
 ·rename_i h;refine⟨λz=>(by cases z),λz=>?_⟩;exact absurd (a3w.mp (a6B h).1) (z _)
theorem lo_eq (h1:∀m,some m∈xs->∃k,k<=m/\some k∈ys) (h2:∀m,some m∈ys->∃k,k<=m/\some k∈xs):lo xs=lo ys:=by
 cases e:lo ys with
 | none =>
  rw[a3x] at e ⊢;intro k hk;obtain⟨k',_,h⟩:=h1 k hk;exact e k' h
 | some m =>
  rw[a1F] at e ⊢;obtain⟨k,hk,hm⟩:=h2 m e.1;obtain⟨k',hk',hm'⟩:=h1 k hm;have:=e.2 k' hm';have ek:k=m:=by omega
  subst ek;refine⟨hm,λx hx=>?_⟩;obtain⟨y,hy,hy'⟩:=h1 x hx;have:=e.2 y hy';omega
theorem a8C {k:Int} (h:some k∈xs):∃m,lo xs=some m/\m<=k:=by
 cases e:lo xs with
 | none=>exact absurd h (a3x.mp e k)
 | some m=>exact⟨m,rfl,(a1F.mp e).2 k h⟩
theorem b0M (xs ys:List OI):lo (xs++ys)=lo [lo xs,lo ys]:=by
 refine lo_eq (λm hm=>?_) (λm hm=>?_)
 ·rcases b5W.mp hm with h|h
  ·obtain⟨k,e,hk⟩:=a8C h;exact⟨k,hk,by rw[e];exact .head _⟩
  ·obtain⟨k,e,hk⟩:=a8C h;exact⟨k,hk,by rw[e];exact .tail _ (.head _)⟩
 ·simp only[b5Q,b6L,b8K] at hm;rcases hm with h|h
  ·exact⟨m,b8l _,b5W.mpr (.inl (a1F.mp h.symm).1)⟩
  ·exact⟨m,b8l _,b5W.mpr (.inr (a1F.mp h.symm).1)⟩
theorem b4Z {α:Type} (xs:List α) (f:α->List OI):lo (xs.flatMap f)=lo (xs.map λx=>lo (f x)):=by
 refine lo_eq (λm hm=>?_) (λm hm=>?_)
 ·obtain⟨x,hx,h⟩:=b8g.mp hm;obtain⟨k,e,hk⟩:=a8C h;exact⟨k,hk,b5K.mpr ⟨x,hx,e⟩⟩
 ·obtain⟨x,hx,h⟩:=b5K.mp hm;exact⟨m,b8l _,b8g.mpr ⟨x,hx,(a1F.mp h).1⟩⟩
theorem b3v:lo []=none:=a3x.mpr λk hk=>by cases hk
section
variable (p:Nat->Int) (W:Nat->Nat->Int) (F:Nat->Nat->OI)
structure Eqs (L:Nat) (h t:Nat->Nat->Nat->OI) (i j:Nat):Prop where
 eh:∀l,l<L->h l i j=oadd (some (p l*W i j)) (F i j)
 et:∀l,l<L->t l i j=lo [lo ((List.range (j-i)).map λb=>oadd (h l i (i+b+1)) (t (l+1) (i+b+1) j)),t (l+1) i j]
variable {p W F} {L n:Nat} {h t:Nat->Nat->Nat->OI}
def bnd (L:Nat) (h t:Nat->Nat->Nat->OI) (i j:Nat):OI:=if j-i=1 then some 0 else lo ((List.range L).map λl=>lo ((List.range (j-1-i)).map λb=>oadd (h l i (i+b+1)) (t (l+1) (i+b+1) j)))
end
def b5a (n:Nat):Stmt->Stmt
 | .ClassDef _ _ _ b ..=>b.getD n (.Pass ⟨0,0,0,0⟩)
 | s=>s
abbrev a9Y:Stmt:=K77.a9Y
abbrev sRow:Stmt:=K77.sRowW
abbrev a2B:Stmt:=K77.a2B
abbrev a3T:Stmt:=K77.a3T
abbrev a5H:Stmt:=K77.a5H
abbrev sPl:Stmt:=K77.a9Z
abbrev sPw:Stmt:=K77.b0a
abbrev sCk:Stmt:=K77.sCk
abbrev sKw:Stmt:=K77.sKw
abbrev a3y:Stmt:=b5a 0 K77.a2j
abbrev sPut:Stmt:=b5a 1 K77.a2j
abbrev sLs:Stmt:=b5a 2 K77.a2j
abbrev a7L:Stmt:=b5a 3 K77.a2j
abbrev b2w:Stmt:=b5a 4 K77.a2j
abbrev a4L:Stmt:=b5a 5 K77.a2j
abbrev b5b:Stmt:=b5a 6 K77.a2j
def oV:OI->V
 | none=>.non
 | some i=>.int i
variable {P:Program} {w:World} {K:PySem.W.Frag} {mg:Str->Option Value} {base:Heap} {f:Addr} {fd:FuncData}
def sums (ws:List Int) (k:Nat):List Int:=(List.range (k+1)).map λi=>(ws.take i).sum
def b3w:Sp:=λvs H Q _=>∃(q:Addr) (ws:List Int),vs=[.ref q]/\TW H q ws/\ws.length<=100/\∀(p:Addr) H',a0m H H'->H p=none->H' p=some (.lst ((sums ws ws.length).map V.int))->Q (.ref p) H'
theorem b0N:a0l ["weights","sums","weight"] ["weights"] (a0d a9Y):=fsk
theorem b0O {ws:List Int} {k:Nat}:sums ws (k+1)=sums ws k++[(ws.take (k+1)).sum]:=by
 unfold sums;rw[b7b (n:=k+1),b5H];rfl
theorem b0P {ws:List Int} {k:Nat}:∃xs,sums ws k=xs++[(ws.take k).sum]:=by
 unfold sums;rw[b7b,b5H];exact⟨_,rfl⟩
theorem b2x {ws:List Int} {k:Nat}:(sums ws k).length=k+1:=by unfold sums;rw[b5x,b5V]
theorem b5c (F:Fun K "weight_sums" "weight_sums" a9Y f fd):a0Y P w K mg base CX0 1 f fd ["weights"] b3w:=by
 refine F.ok (k:=0) b0N (λvs H Q E h=>?_) (λcdv A outer s H vs Q E hr h=>?_)
 ·obtain⟨q,ws,rfl,_⟩:=h;rfl
 obtain⟨q,ws,rfl,hq,l1,qq⟩:=h;refine⟨_,a0e (psA (i:=1) b0N (a1n (a0a a0g a0f)))
  (a0e (a1r b6Q rfl (a8N (pv 0)) (pgA (i:=2) b0N)
   (a0i (a1h (a4h b6I b7k b7l a1f (pv 1) (a0a (a0o a0C (pxA a0u (pv 1) (a5T a2S a0g)) (pv 2)) a0f)))))
  (a0i (a0q (pv 1)))),?_⟩
 refine⟨(by show 1<=sizeLine;decide),λl hl=>?_⟩;have s1:=a0c hl (.lst [.int 0]);have g1:upd H l (.lst [.int 0]) l=some (.lst ((sums ws 0).map V.int)):=a0b;generalize upd H l (.lst [.int 0])=H1 at s1 g1 ⊢;refine⟨_,rfl,q,rfl,⟨_,SqT.of (s1 _ _ hq)⟩,?_⟩;refine a8P (xs:=ws.map V.int) (λi σ H'=>a0m H H'/\H' l=some (.lst ((sums ws i).map V.int))/\∃x2:Option V,σ=[some (.ref q),some (.ref l),x2]) ⟨s1,g1,_,rfl⟩ (λi σ H' _ hP=>SqT.of (hP.1 _ _ hq)) (λi x σ H2 hx hP=>?_) (λσ H2 hP=>?_)
 ·obtain⟨s2,g2,x2,rfl⟩:=hP;have il:=(b5E.mp hx).1;rw[b5x] at il;rw[b5L] at hx;obtain⟨z,hz,rfl⟩:=b6H.mp hx;obtain⟨xs,ex⟩:=b0P (ws:=ws) (k:=i);refine⟨_,rfl,.inl ⟨rfl,_,SqL.of g2⟩,_,rfl,_,rfl,l,_,_,_,rfl,rfl,SqL.of g2,(by rw[ex,b5H];exact a6S _ _),_,rfl,_,_,rfl,rfl,l,_,_,rfl,rfl,g2,a0j (by rw[b5x,b2x];omega),a0n hl s2,?_,_,rfl⟩;rw[a0b,b0O,b5H,b6f,hz];simp
 ·obtain⟨s2,g2,x2,rfl⟩:=hP;rw[b5x] at g2;exact⟨_,rfl,qq l H2 s2 hl g2⟩
def b5d (s i:Nat) (o:OI):List V:=(List.range s).map λj=>oV (if j=i then o else none)
theorem b5e {s i:Nat} {o:OI}:(List.replicate s V.non).set i (oV o)=b5d s i o:=by
 refine b8X λj=>?_;unfold b5d;rw[b5L];by_cases hj:j<s
 ·rw[b6U hj];by_cases e:i=j
  ·subst e;rw[b8G (by rw[b7P];exact hj)];simp
  ·rw[b8Y e,b8t,if_pos hj];show some V.non=some (oV (if j=i then o else none));rw[if_neg (λz=>e z.symm)];rfl
 ·rw[b7q (by rw[c1b,b7P];omega),b7q (by rw[b5V];omega)];rfl
theorem b2y (n:Nat):(List.replicate n [V.non]).flatten=List.replicate n V.non:=by
 induction n with
 | zero=>rfl
 | succ n ih=>rw[b7p,b8n,ih,b7p];rfl
def spRow:Sp:=λvs H Q _=>∃(s i:Nat) (o:OI),vs=[.int (s:Int),.int (i:Int),oV o]/\i<s/\s<=100/\∀(p:Addr) H',a0m H H'->H p=none->H' p=some (.lst (b5d s i o))->Q (.ref p) H'
theorem scRow:a0l ["side","at","number","row"] ["side","at","number"] (a0d sRow):=fsk
theorem a6C {n j:Nat} (h:j<n):ixN n (j:Int)=some j:=by
 unfold ixN;rw[if_pos (by omega),if_pos (by omega)];rfl
theorem ok_row (F:Fun K "row_with" "row_with" sRow f fd):a0Y P w K mg base CX0 1 f fd ["side","at","number"] spRow:=by
 refine F.ok (k:=0) scRow (λvs H Q E h=>?_) (λcdv A outer s H vs Q E hr h=>?_)
 ·obtain⟨s,i,o,rfl,_⟩:=h;rfl
 obtain⟨n,i,o,rfl,hi,hn,qq⟩:=h;refine⟨_,a0e (psA (i:=3) scRow (a0o b2T (a1n (a0a a6L a0f)) (pv 0)))
  (a0e (a8L (pv 2) (a8K (pv 3) (pv 1) a4e))
  (a0i (a0q (pv 3)))),?_⟩
 refine⟨(by show 1<=sizeLine;decide),λl hl=>?_⟩;have s1:=a0c hl (.lst [.non]);have g1:upd H l (.lst [.non]) l=some (.lst [.non]):=a0b;generalize upd H l (.lst [.non])=H1 at s1 g1 ⊢;refine⟨_,rfl,l,(n:Int),_,rfl,rfl,g1,by omega,by omega,by show 1*_<=_;exact b7n (a0j (by omega)),λp hp=>?_⟩;rw[b2y,b6Z];have s2:=a0c hp (.lst (List.replicate n V.non));have g2:upd H1 p (.lst (List.replicate n V.non)) p=some (.lst (List.replicate n V.non)):=a0b;generalize upd H1 p (.lst (List.replicate n V.non))=H2 at s2 g2 ⊢;have hpn:=s1.free hp;refine⟨_,rfl,_,rfl,_,rfl,p,_,_,i,rfl,rfl,g2,(by rw[b7P];exact a6C hi),?_⟩;rw[b5e];exact⟨_,rfl,qq p _ (a0n hpn (s1.trans s2)) hpn a0b⟩
def ext {α:Type} (ca:Nat->α) (i:Nat) (p:α):Nat->α:=λk=>if k=i then p else ca k
theorem a0t {α:Type} {ca:Nat->α} {i k:Nat} {p:α} (h:k=i):ext ca i p k=p:=if_pos h
theorem a0J {α:Type} {ca:Nat->α} {i k:Nat} {p:α} (h:¬k=i):ext ca i p k=ca k:=if_neg h
def a7M:Sp:=λvs H Q _=>∃(s:Nat) (o:OI),vs=[.int (s:Int),oV o]/\s<=100/\∀(b:Addr) (ca:Nat->Addr) H',a0m H H'->H b=none->(∀i,i<s->H (ca i)=none)->(∀i j,i<s->j<s->ca i=ca j->i=j)->(∀i,i<s->ca i≠b) ->
 H' b=some (.lst ((List.range s).map λi=>.ref (ca i)))->(∀i,i<s->H' (ca i)=some (.lst (b5d s i o)))->Q (.ref b) H'
theorem b2z:a0l ["side","diagonal"] ["side","diagonal"] (a0d a2B):=fsk
theorem ndSq:(("at":Str)::["side","diagonal"]).Nodup:=by decide +kernel
theorem b0Q (F:Fun K "square" "square" a2B f fd) (GR:Fns P w K mg base ["side","at","number"] "row_with" spRow 1) (mr:mg "range"=none):a0Y P w K mg base CX0 2 f fd ["side","diagonal"] a7M:=by
 refine F.ok (k:=1) b2z (λvs H Q E h=>?_) (λcdv A outer s H vs Q E hr h=>?_)
 ·obtain⟨s,o,rfl,_⟩:=h;rfl
 obtain⟨n,o,rfl,hn,qq⟩:=h;refine⟨_,a0i (a0q (a1k (M:=["side","diagonal"]) rfl (cso (a0d a2B) ["side","diagonal"]) ndSq rfl (by rfl) mr (a0a (pv 0) a0f) (a0U a0F a1v)
   (λcl C s0 H0 fp=>⟨a0I,pcF GR hr (a0a (pv 1) (a0a (pv 0) (a0a (pv 2) a0f)))⟩))),?_⟩
 refine⟨_,rfl,(n:Int),rfl,by omega,by omega,λd hd=>?_⟩;refine⟨λi H'=>a0m H H'/\∃ca:Nat->Addr,(∀k,k<i->H (ca k)=none)/\(∀j k,j<i->k<i->ca j=ca k->j=k)/\(∀k,k<i->ca k≠d)/\H' d=some (.lst ((List.range i).map λk=>.ref (ca k)))/\∀k,k<i->H' (ca k)=some (.lst (b5d n k o)),⟨a0c hd _,λ_=>d,λk hk=>absurd hk (b6O _),λj k hj=>absurd hj (b6O _),λk hk=>absurd hk (b6O _),a0b,λk hk=>absurd hk (b6O _)⟩,λi H1 hi hP=>?_,λH1 hP=>?_⟩
 ·obtain⟨s1,ca,c1,c2,c3,c4,c5⟩:=hP;have i':i<n:=by omega
  rw[show(0:Int)+(i:Int)=(i:Int) from b8S _];refine a0y ⟨_,rfl,_,rfl,_,rfl,n,i,o,rfl,i',hn,λp H2 s2 hp2 g2=>?_⟩;have pd:p≠d:=λz=>by rw[z,c4] at hp2;cases hp2
  have pk:∀k,k<i->ca k≠p:=λk hk z=>by rw[<-z,c5 k hk] at hp2;cases hp2
  refine⟨_,s2 _ _ c4,?_,a0n hd (s1.trans s2),ext ca i p,λk hk=>?_,λj k hj hk e=>?_,λk hk=>?_,?_,λk hk=>?_⟩
  ·rw[b5x,b5V];exact a0j (by omega)
  ·by_cases z:k=i
   ·rw[a0t z];exact s1.free hp2
   ·rw[a0J z];exact c1 k (by omega)
  ·by_cases z1:j=i<;>by_cases z2:k=i
   ·omega
   ·rw[a0t z1,a0J z2] at e;exact absurd e.symm (pk k (by omega))
   ·rw[a0J z1,a0t z2] at e;exact absurd e (pk j (by omega))
   ·rw[a0J z1,a0J z2] at e;exact c2 j k (by omega) (by omega) e
  ·by_cases z:k=i
   ·rw[a0t z];exact pd
   ·rw[a0J z];exact c3 k (by omega)
  ·rw[a0b,b7b,b5H];refine b7m (λz=>some (HO.lst z)) ?_;congr 1
   ·refine b6c λk hk=>?_;rw[a0J (by have:=b6F.mp hk;omega)]
   ·show[V.ref p]=[V.ref (ext ca i p i)]
    rw[a0t rfl]
  ·by_cases z:k=i
   ·rw[a0t z,a0h pd,z];exact g2
   ·rw[a0J z,a0h (c3 k (by omega))];exact s2 _ _ (c5 k (by omega))
 ·obtain⟨s1,ca,c1,c2,c3,c4,c5⟩:=hP;rw[b6Z] at c1 c2 c3 c4 c5;exact qq d ca H1 s1 hd c1 c2 c3 c4 c5
def a4M:Sp:=λvs H Q _=>∃(a:Addr) (xs:List OI),vs=[.ref a]/\H a=some (.lst (xs.map oV))/\xs.length<=100/\∀H',a0m H H'->Q (oV (lo xs)) H'
theorem b5f:a0l ["numbers"] ["numbers"] (a0d a3T):=fsk
theorem ndLe:(("number":Str)::["numbers"]).Nodup:=by decide +kernel
theorem b2A (F:Fun K "least" "least" a3T f fd) (mn:mg "min"=none):a0Y P w K mg base CX0 1 f fd ["numbers"] a4M:=by
 refine F.ok (k:=0) b5f (λvs H Q E h=>?_) (λcdv A outer s H vs Q E hr h=>?_)
 ·obtain⟨a,xs,rfl,_⟩:=h;rfl
 obtain⟨a,xs,rfl,ha,l1,qq⟩:=h;refine⟨_,a0i (a0q (b4j rfl (by rfl) mn (a0a (a1A (M:=["numbers"]) rfl (cso (a0d a3T) ["numbers"]) ndLe rfl (pv 0) a0F
   (λcl C s0 H0 fp=>⟨b3T (a8I (b3E (pv 0))),pv 0⟩)) a0f) (a2f a6L a3H))),?_⟩
 refine⟨_,rfl,a,_,rfl,SqL.of ha,λd hd=>?_⟩;refine⟨λi H'=>a0m H H'/\H' d=some (.lst (((xs.take i).filterMap id).map V.int)),⟨a0c hd _,a0b⟩,λi H' _ hP=>SqL.of (hP.1 _ _ ha),λi x H' hx hP=>?_,λH' hP=>?_⟩
 ·obtain⟨s5,hd'⟩:=hP;have il:=(b5E.mp hx).1;rw[b5x] at il;rw[b5L] at hx;obtain⟨z,hz,rfl⟩:=b6H.mp hx;have et:(xs.take (i+1)).filterMap id=(xs.take i).filterMap id++[z].filterMap id:=by rw[b6f,hz,List.filterMap_append];rfl
  refine⟨_,rfl,_,rfl,?_⟩;cases z with
  | none=>exact⟨s5,by rw[et];simpa using hd'⟩
  | some v =>
   refine⟨_,rfl,_,hd',?_,a0n hd s5,?_⟩
   ·rw[b5x];have:=List.length_filterMap_le id (xs.take i);rw[b5R] at this;exact a0j (by omega)
   ·rw[a0b,et,b5H];rfl
 ·obtain⟨s5,hd'⟩:=hP;rw[b5x,b6z] at hd';refine⟨d,_,rfl,rfl,hd',?_⟩;have:=qq H' s5;unfold lo at this;split
  ·rename_i h;rw[if_pos h] at this;exact this
  ·rename_i h;rw[if_neg h] at this;exact this
def a4N:Sp:=λvs H Q _=>∃a b:OI,vs=[oV a,oV b]/\Q (oV (oadd a b)) H
theorem b5g:a0l ["one","other"] ["one","other"] (a0d a5H):=fsk
theorem b2B (F:Fun K "added" "added" a5H f fd):a0Y P w K mg base CX0 1 f fd ["one","other"] a4N:=by
 refine F.ok (k:=0) b5g (λvs H Q E h=>?_) (λcdv A outer s H vs Q E hr h=>?_)
 ·obtain⟨a,b,rfl,_⟩:=h;rfl
 obtain⟨a,b,rfl,q⟩:=h;refine⟨_,a0e (a1q (PW.pt (pw_or (a8I (b2N (pv 0))) (b2O (a8I (b2N (pv 1)))))) (a0i (a0q a6L)) a0K) (a0i (a0q (a0o a0C (pv 0) (pv 1)))),?_⟩;refine⟨_,rfl,_,rfl,?_⟩;cases a with
 | none=>exact q
 | some i =>
  refine b3S ?_;refine⟨_,rfl,_,rfl,?_⟩;cases b with
  | none=>exact q
  | some j=>exact b3S ⟨_,rfl,_,rfl,_,_,rfl,rfl,q⟩
structure Tb (H:Hp) (a:Addr) (ba:Nat->Addr) (ca:Nat->Nat->Addr) (L s:Nat) (T:Nat->Nat->Nat->OI):Prop where
 o:H a=some (.lst ((List.range L).map λl=>.ref (ba l)))
 b:∀l,l<L->H (ba l)=some (.lst ((List.range s).map λi=>.ref (ca l i)))
 c:∀l i,l<L->i<s->H (ca l i)=some (.lst ((List.range s).map λj=>oV (T l i j)))
theorem Tb.same {L s:Nat} (h:Tb H a ba ca L s T) (k:a0m H H'):Tb H' a ba ca L s T:=⟨k _ _ h.o,λl hl=>k _ _ (h.b l hl),λl i hl hi=>k _ _ (h.c l i hl hi)⟩
structure Ad where
 su:Addr
 th:Addr
 tt:Addr
 bh:Nat->Addr
 ch:Nat->Nat->Addr
 bt:Nat->Addr
 ct:Nat->Nat->Addr
def Z (X:Ad) (L s:Nat) (a:Addr):Prop:=(∃l i,l<L/\i<s/\a=X.ch l i)\/∃l i,l<L+1/\i<s/\a=X.ct l i
abbrev pf (p:Addr) (n:Int) (X:Ad):List (Str × V):=[("prices",.ref p),("things",.int n),("sums",.ref X.su),("heads",.ref X.th),("tails",.ref X.tt)]
structure PAt (C:Addr) (H:Hp) (r p:Addr) (ps ws:List Int) (X:Ad) (h t:Nat->Nat->Nat->OI):Prop where
 ob:∃dx,H r=some (.ins C dx (pf p (ws.length:Int) X))
 hp:TW H p ps
 su:H X.su=some (.lst ((sums ws ws.length).map V.int))
 hd:Tb H X.th X.bh X.ch ps.length (ws.length+1) h
 tl:Tb H X.tt X.bt X.ct (ps.length+1) (ws.length+1) t
 ih:∀l i l' i',l<ps.length->l'<ps.length->i<ws.length+1->i'<ws.length+1->X.ch l i=X.ch l' i'->l=l'/\i=i'
 it:∀l i l' i',l<ps.length+1->l'<ps.length+1->i<ws.length+1->i'<ws.length+1->X.ct l i=X.ct l' i'->l=l'/\i=i'
 ix:∀l i l' i',l<ps.length->l'<ps.length+1->i<ws.length+1->i'<ws.length+1->X.ch l i≠X.ct l' i'
 ns:¬Z X ps.length (ws.length+1) X.su
theorem PAt.same {h t:Nat->Nat->Nat->OI} (a:PAt C H r p ps ws X h t) (k:a0m H H'):PAt C H' r p ps ws X h t:=by
 obtain⟨dx,ho⟩:=a.ob;exact⟨⟨dx,k _ _ ho⟩,k _ _ a.hp,k _ _ a.su,a.hd.same k,a.tl.same k,a.ih,a.it,a.ix,a.ns⟩
structure PC (K:PySem.W.Frag) (C:Addr):Prop where
 c:Cls K C
 np:a1G K C "prices"
 nn:a1G K C "things"
 ns:a1G K C "sums"
 nh:a1G K C "heads"
 nt:a1G K C "tails"
abbrev pf1 (p:Addr):List (Str × V):=[("prices",.ref p)]
abbrev pf2 (p:Addr) (n:Int):List (Str × V):=[("prices",.ref p),("things",.int n)]
abbrev pf3 (p:Addr) (n:Int) (su:Addr):List (Str × V):=[("prices",.ref p),("things",.int n),("sums",.ref su)]
abbrev pf4 (p:Addr) (n:Int) (su th:Addr):List (Str × V):=[("prices",.ref p),("things",.int n),("sums",.ref su),("heads",.ref th)]
structure b2C (H0 H':Hp) (s:Nat) (o:OI) (i:Nat) (ba:Nat->Addr) (ca:Nat->Nat->Addr) (d:Addr):Prop where
 same:a0m H0 H'
 fb:∀l,l<i->H0 (ba l)=none
 fc:∀l k,l<i->k<s->H0 (ca l k)=none
 inj:∀l k l' k',l<i->l'<i->k<s->k'<s->ca l k=ca l' k'->l=l'/\k=k'
 nb:∀l,l<i->ba l≠d
 nc:∀l k,l<i->k<s->ca l k≠d
 lo_:H' d=some (.lst ((List.range i).map λl=>.ref (ba l)))
 lb:∀l,l<i->H' (ba l)=some (.lst ((List.range s).map λk=>.ref (ca l k)))
 lc:∀l k,l<i->k<s->H' (ca l k)=some (.lst (b5d s k o))
theorem b2C.start {s:Nat} (hd:H0 d=none):b2C H0 (upd H0 d (.lst [])) s o 0 (λ_=>d) (λ_ _=>d) d :=
 ⟨a0c hd _,λl hl=>absurd hl (b6O _),λl k hl=>absurd hl (b6O _),λl k l' k' hl=>absurd hl (b6O _),λl hl=>absurd hl (b6O _),λl k hl=>absurd hl (b6O _),a0b,λl hl=>absurd hl (b6O _),λl k hl=>absurd hl (b6O _)⟩
theorem b2C.step {s:Nat} {i:Nat} (hd:H0 d=none) (g:b2C H0 H1 s o i ba ca d) (k:a0m H1 H2) (fb:H1 b=none) (fc:∀k,k<s->H1 (c' k)=none) (ij:∀j k,j<s->k<s->c' j=c' k->j=k) (hb:H2 b=some (.lst ((List.range s).map λk=>.ref (c' k)))) (hc:∀k,k<s->H2 (c' k)=some (.lst (b5d s k o))) :
  b2C H0 (upd H2 d (.lst (((List.range i).map λl=>V.ref (ba l))++[.ref b]))) s o (i+1) (ext ba i b) (ext ca i c') d:=by
 have bd:b≠d:=λz=>by rw[z,g.lo_] at fb;cases fb
 have cd:∀k,k<s->c' k≠d:=λk hk z=>by
  have:=fc k hk;rw[z,g.lo_] at this;cases this
 have cc:∀l k k',l<i->k<s->k'<s->ca l k≠c' k':=λl k k' hl hk hk' z=>by
  have:=fc k' hk';rw[<-z,g.lc l k hl hk] at this;cases this
 refine⟨a0n hd (g.same.trans k),λl hl=>?_,λl m hl hm=>?_,λl m l' m' hl hl' hm hm' e=>?_,λl hl=>?_,λl m hl hm=>?_,?_,λl hl=>?_,λl m hl hm=>?_⟩
 ·by_cases z:l=i
  ·rw[a0t z];exact g.same.free fb
  ·rw[a0J z];exact g.fb l (by omega)
 ·by_cases z:l=i
  ·rw[a0t z];exact g.same.free (fc m hm)
  ·rw[a0J z];exact g.fc l m (by omega) hm
 ·by_cases z1:l=i<;>by_cases z2:l'=i
  ·rw[a0t z1,a0t z2] at e;exact⟨by omega,ij m m' hm hm' e⟩
  ·rw[a0t z1,a0J z2] at e;exact absurd e.symm (cc l' m' m (by omega) hm' hm)
  ·rw[a0J z1,a0t z2] at e;exact absurd e (cc l m m' (by omega) hm hm')
  ·rw[a0J z1,a0J z2] at e;exact g.inj l m l' m' (by omega) (by omega) hm hm' e
 ·by_cases z:l=i
  ·rw[a0t z];exact bd
  ·rw[a0J z];exact g.nb l (by omega)
 ·by_cases z:l=i
  ·rw[a0t z];exact cd m hm
  ·rw[a0J z];exact g.nc l m (by omega) hm
 ·rw[a0b,b7b,b5H];refine b7m (λz=>some (HO.lst z)) ?_;congr 1
  ·refine b6c λl hl=>?_;rw[a0J (by have:=b6F.mp hl;omega)]
  ·show[V.ref b]=[V.ref (ext ba i b i)]
   rw[a0t rfl]
 ·by_cases z:l=i
  ·rw[a0t z,a0t z,a0h bd];exact hb
  ·rw[a0J z,a0J z,a0h (g.nb l (by omega))];exact k _ _ (g.lb l (by omega))
 ·by_cases z:l=i
  ·rw[a0t z,a0h (cd m hm)];exact hc m hm
  ·rw[a0J z,a0h (g.nc l m (by omega) hm)];exact k _ _ (g.lc l m (by omega) hm)
def a8D (r:Addr) (H H':Hp):Prop:=∀a o,a≠r->H a=some o->H' a=some o
abbrev NI:List Str:=["self","prices","weights","side"]
abbrev h0:Nat->Nat->Nat->OI:=λ_ a b=>if b=a then none else none
abbrev t0:Nat->Nat->Nat->OI:=λ_ a b=>if b=a then some 0 else none
def b0R (C:Addr):Sp:=λvs H Q _=>∃(r dx p q:Addr) (ps ws:List Int),vs=[.ref r,.ref p,.ref q]/\H r=some (.ins C dx [])/\TW H p ps/\TW H q ws/\1<=ps.length/\ps.length<=10/\ws.length<=20 /\
 ∀H' X,a8D r H H'->PAt C H' r p ps ws X h0 t0->(∀a,Z X ps.length (ws.length+1) a->H a=none)->Q .non H'
theorem b0S:a0l NI ["self","prices","weights"] (a0d a3y):=fsk
theorem ndI1:(("price":Str)::NI).Nodup:=by decide +kernel
theorem ndI2:(("letter":Str)::NI).Nodup:=by decide +kernel
theorem b2D (F:Fun K "__init__" "Parted.__init__" a3y f fd) (GS:Fns P w K mg base ["weights"] "weight_sums" b3w 2) (GQ:Fns P w K mg base ["side","diagonal"] "square" a7M 2) (rc:PC K C) (ml:mg "len"=none) (mr:mg "range"=none):a0Y P w K mg base CX0 3 f fd ["self","prices","weights"] (b0R C):=by
 refine F.ok (k:=2) b0S (λvs H Q E h=>?_) (λcdv A outer s H vs Q E hr h=>?_)
 ·obtain⟨r,dx,p,q,ps,ws,rfl,_⟩:=h;rfl
 obtain⟨r,dx,p,q,ps,ws,rfl,hr0,hp,hq,p1,p10,w20,qq⟩:=h;refine⟨_,a0e (a4W (pv 0) (pv 1) rfl)
  (a0e (a4W (pv 0) (pln ml (pv 2)) rfl)
  (a0e (a4W (pv 0) (pcF GS hr (a0a (pv 2) a0f)) rfl)
  (a0e (psA (i:=3) b0S (a0o a0C (a1e (pv 0) rfl) a0g))
  (a0e (a4W (pv 0) (a4k (M:=NI) rfl (cso (a0d a3y) NI) ndI1 rfl (pv 1) a0F
   (λcl C s0 H0 fp=>⟨a0I,pcF GQ hr (a0a (pv 4) (a0a a6L a0f))⟩)) rfl)
  (a0i (a4W (pv 0) (a1k (M:=NI) rfl (cso (a0d a3y) NI) ndI2 rfl (by rfl) mr (a0a (a0o a0C (pln ml (pv 1)) a0g) a0f) (a0U (a9m a5j (b2X (a0U a0F a1v)) mo_c) a1v)
   (λcl C s0 H0 fp=>⟨a0I,pcF GQ hr (a0a (pv 4) (a0a a0g a0f))⟩)) rfl)))))),?_⟩
 have pr:p≠r:=a0r hp hr0 (by intro z;cases z);have qr:q≠r:=a0r hq hr0 (by intro z;cases z);refine⟨_,rfl,_,rfl,r,C,dx,_,rfl,hr0,rc.c,rc.np,(by show 0<1000;decide),?_⟩;rw[show a3z "prices" (V.ref p) []=(pf1 p) from rfl];have g1:upd H r (.ins C dx (pf1 p)) r=some (.ins C dx (pf1 p)):=a0b;have k1:a8D r H (upd H r (.ins C dx (pf1 p))):=λa o ha e=>by rw[a0h ha];exact e
 have f1:∀a,upd H r (.ins C dx (pf1 p)) a=none->H a=none:=λa e=>by
  by_cases z:a=r
  ·subst z;rw[a0b] at e;cases e
  ·rw[a0h z] at e;exact e
 generalize upd H r (.ins C dx (pf1 p))=H1 at g1 k1 f1 ⊢;refine⟨_,rfl,q,_,rfl,.inr (SqT.of (k1 _ _ qr hq)),_,rfl,r,C,dx,_,rfl,g1,rc.c,rc.nn,(by show 1<1000;decide),?_⟩;rw[b5x,show a3z "things" (V.int (ws.length:Int)) (pf1 p)=(pf2 p (ws.length:Int)) from rfl];have g2:upd H1 r (.ins C dx (pf2 p (ws.length:Int))) r=some (.ins C dx (pf2 p (ws.length:Int))):=a0b;have k2:a8D r H (upd H1 r (.ins C dx (pf2 p (ws.length:Int)))):=λa o ha e=>by rw[a0h ha];exact k1 a o ha e
 have f2:∀a,upd H1 r (.ins C dx (pf2 p (ws.length:Int))) a=none->H a=none:=λa e=>by
  by_cases z:a=r
  ·subst z;rw[a0b] at e;cases e
  ·rw[a0h z] at e;exact f1 a e
 generalize upd H1 r (.ins C dx (pf2 p (ws.length:Int)))=H2 at g2 k2 f2 ⊢;refine⟨_,rfl,q,ws,rfl,k2 _ _ qr hq,by omega,λsu H3 s3 hn3 hs3=>?_⟩;have g3:=s3 _ _ g2;refine⟨_,rfl,r,C,dx,_,rfl,g3,rc.c,rc.ns,(by show 2<1000;decide),?_⟩;have sr:su≠r:=a0r hs3 g3 (by intro z;cases z);rw[show a3z "sums" (V.ref su) (pf2 p (ws.length:Int))=(pf3 p (ws.length:Int) su) from rfl];have g4:upd H3 r (.ins C dx (pf3 p (ws.length:Int) su)) r=some (.ins C dx (pf3 p (ws.length:Int) su)):=a0b;have k4:a8D r H (upd H3 r (.ins C dx (pf3 p (ws.length:Int) su))):=λa o ha e=>by rw[a0h ha];exact s3 _ _ (k2 a o ha e)
 have f4:∀a,upd H3 r (.ins C dx (pf3 p (ws.length:Int) su)) a=none->H a=none:=λa e=>by
  by_cases z:a=r
  ·subst z;rw[a0b] at e;cases e
  ·rw[a0h z] at e;exact f2 a (s3.free e)
 have hs4:upd H3 r (.ins C dx (pf3 p (ws.length:Int) su)) su=some (.lst ((sums ws ws.length).map V.int)):=by rw[a0h sr];exact hs3
 generalize upd H3 r (.ins C dx (pf3 p (ws.length:Int) su))=H4 at g4 k4 f4 hs4 ⊢;refine⟨_,rfl,r,C,dx,_,_,rfl,g4,rc.c,rc.nn,rfl,_,_,rfl,rfl,?_⟩;have hp4:TW H4 p ps:=k4 _ _ pr hp;refine⟨_,rfl,p,_,rfl,SqT.of hp4,λth hth=>?_⟩;refine⟨λi H'=>∃ba ca,b2C H4 H' (ws.length+1) none i ba ca th,⟨_,_,b2C.start hth⟩,λi H' _ hP=>(by obtain⟨ba,ca,g⟩:=hP;exact SqT.of (g.same _ _ hp4)),λi x H' hx hP=>?_,λH5 hP=>?_⟩
 ·obtain⟨ba,ca,g⟩:=hP;have il:=(b5E.mp hx).1;rw[b5x] at il;refine a0y ⟨_,rfl,ws.length+1,none,rfl,by omega,λb c' H6 s6 fb fc ij cb hb hc=>⟨_,s6 _ _ g.lo_,?_,_,_,g.step hth s6 fb fc ij hb hc⟩⟩;rw[b5x,b5V];exact a0j (by omega)
 obtain⟨bh,ch,gh⟩:=hP;rw[b5x] at gh;have g5:=gh.same _ _ g4;refine⟨_,rfl,r,C,dx,_,rfl,g5,rc.c,rc.nh,(by show 3<1000;decide),?_⟩;rw[show a3z "heads" (V.ref th) (pf3 p (ws.length:Int) su)=(pf4 p (ws.length:Int) su th) from rfl];have rh1:th≠r:=a0r gh.lo_ g5 (by intro z;cases z);have rh2:∀l,l<ps.length->bh l≠r:=λl hl=>a0r (gh.lb l hl) g5 (by intro z;cases z);have rh3:∀l k,l<ps.length->k<ws.length+1->ch l k≠r:=λl k hl hk=>a0r (gh.lc l k hl hk) g5 (by intro z;cases z);have tb6:Tb (upd H5 r (.ins C dx (pf4 p (ws.length:Int) su th))) th bh ch ps.length (ws.length+1) h0:=⟨by rw[a0h rh1];exact gh.lo_,λl hl=>by rw[a0h (rh2 l hl)];exact gh.lb l hl,λl k hl hk=>by rw[a0h (rh3 l k hl hk)];exact gh.lc l k hl hk⟩
 have g6:upd H5 r (.ins C dx (pf4 p (ws.length:Int) su th)) r=some (.ins C dx (pf4 p (ws.length:Int) su th)):=a0b;have k46:a8D r H4 (upd H5 r (.ins C dx (pf4 p (ws.length:Int) su th))):=λa o ha e=>by rw[a0h ha];exact gh.same _ _ e
 have f6:∀a,upd H5 r (.ins C dx (pf4 p (ws.length:Int) su th)) a=none->H4 a=none:=λa e=>by
  by_cases z:a=r
  ·subst z;rw[a0b] at e;cases e
  ·rw[a0h z] at e;exact gh.same.free e
 generalize upd H5 r (.ins C dx (pf4 p (ws.length:Int) su th))=H6 at tb6 g6 k46 f6 ⊢;have hp6:TW H6 p ps:=k46 _ _ pr hp4;have hs6:=k46 _ _ sr hs4;refine⟨_,rfl,p,_,rfl,.inr (SqT.of hp6),_,_,rfl,rfl,_,rfl,by rw[b5x];omega,by rw[b5x];omega,λtt htt=>?_⟩;have en:((((ps.map V.int).length:Nat):Int)+1).toNat=ps.length+1:=by rw[b5x];omega
 rw[en];refine⟨λi H'=>∃ba ca,b2C H6 H' (ws.length+1) (some 0) i ba ca tt,⟨_,_,b2C.start htt⟩,λi H' hi hP=>?_,λH7 hP=>?_⟩
 ·obtain⟨ba,ca,g⟩:=hP;refine a0y ⟨_,rfl,ws.length+1,some 0,rfl,by omega,λb c' H8 s8 fb fc ij cb hb hc=>⟨_,s8 _ _ g.lo_,?_,_,_,g.step htt s8 fb fc ij hb hc⟩⟩;rw[b5x,b5V];exact a0j (by omega)
 obtain⟨bt,ct,gt⟩:=hP;have g7:=gt.same _ _ g6;refine⟨_,rfl,r,C,dx,_,rfl,g7,rc.c,rc.nt,(by show 4<1000;decide),?_⟩;rw[show a3z "tails" (V.ref tt) (pf4 p (ws.length:Int) su th)=pf p (ws.length:Int) ⟨su,th,tt,bh,ch,bt,ct⟩ from rfl];have rt1:tt≠r:=a0r gt.lo_ g7 (by intro z;cases z);have rt2:∀l,l<ps.length+1->bt l≠r:=λl hl=>a0r (gt.lb l hl) g7 (by intro z;cases z);have rt3:∀l k,l<ps.length+1->k<ws.length+1->ct l k≠r:=λl k hl hk=>a0r (gt.lc l k hl hk) g7 (by intro z;cases z);have k68:a8D r H6 (upd H7 r (.ins C dx (pf p (ws.length:Int) ⟨su,th,tt,bh,ch,bt,ct⟩))):=λa o ha e=>by rw[a0h ha];exact gt.same _ _ e
 refine qq _ ⟨su,th,tt,bh,ch,bt,ct⟩ (λa o ha e=>k68 a o ha (k46 a o ha (k4 a o ha e))) ⟨⟨dx,a0b⟩,k68 _ _ pr hp6,k68 _ _ sr hs6,⟨k68 _ _ rh1 tb6.o,λl hl=>k68 _ _ (rh2 l hl) (tb6.b l hl),λl k hl hk=>k68 _ _ (rh3 l k hl hk) (tb6.c l k hl hk)⟩,⟨by rw[a0h rt1];exact gt.lo_,λl hl=>by rw[a0h (rt2 l hl)];exact gt.lb l hl,λl k hl hk=>by rw[a0h (rt3 l k hl hk)];exact gt.lc l k hl hk⟩,λl i l' i' hl hl' hi hi' e=>gh.inj l i l' i' hl hl' hi hi' e,λl i l' i' hl hl' hi hi' e=>gt.inj l i l' i' hl hl' hi hi' e,λl i l' i' hl hl' hi hi' e=>?_,λz=>?_⟩ λa hz=>?_
 ·have e1:=gt.fc l' i' hl' hi';have e:ch l i=ct l' i':=e;rw[<-e,tb6.c l i hl hi] at e1;cases e1
 ·rcases z with ⟨l,i,hl,hi,e⟩|⟨l,i,hl,hi,e⟩
  ·have e1:=gh.fc l i hl hi;have e:su=ch l i:=e;rw[<-e,hs4] at e1;cases e1
  ·have e1:=gt.fc l i hl hi;have e:su=ct l i:=e;rw[<-e,hs6] at e1;cases e1
 ·rcases hz with ⟨l,i,hl,hi,e⟩|⟨l,i,hl,hi,e⟩
  ·have e:a=ch l i:=e;rw[e];exact f4 _ (gh.fc l i hl hi)
  ·have e:a=ct l i:=e;rw[e];exact f4 _ (f6 _ (gt.fc l i hl hi))
theorem a0R {f:Nat->V} {n k:Nat} (h:k<n):atI ((List.range n).map f) (k:Int)=some (f k):=a4d (by rw[b5L,b6U h];rfl)
theorem b0T {K:PySem.W.Frag} {f:Str} (h:a1u ta):a1u (tFld K ta f):=λσ H Q Q' hq q=>h σ H _ _ (λv H1 ⟨a,C,dx,fs,u,e1,e2,e3,e4,e5,q1⟩=>⟨a,C,dx,fs,u,e1,e2,e3,e4,e5,hq _ _ q1⟩) q
structure Mt (P:Program) (w:World) (K:PySem.W.Frag) (mg:Str->Option Value) (base:Heap) (C:Addr) (name:Str) (ps:List Str) (sp:Sp) (k:Nat) where
 f:Addr
 fd:FuncData
 m:Meth K C name f
 ok:a0Y P w K mg base CX0 k f fd ps sp
 b:a1N K fd ps []
def Mt.up {P:Program} {w:World} {K:PySem.W.Frag} {mg:Str->Option Value} {base:Heap} {C:Addr} {name:Str} {ps:List Str} {sp:Sp} {j k:Nat} (f:Mt P w K mg base C name ps sp j) (h:j<=k):Mt P w K mg base C name ps sp k:=⟨f.f,f.fd,f.m,f.ok.mono h,f.b⟩
def up3 (T:Nat->Nat->Nat->OI) (l i j:Nat) (v:OI):Nat->Nat->Nat->OI:=λl' i' j'=>if l'=l/\i'=i/\j'=j then v else T l' i' j'
theorem b0U {l i j:Nat}:up3 T l i j v l i j=v:=if_pos ⟨rfl,rfl,rfl⟩
theorem a3W {l i j l' i' j':Nat} (h:¬(l'=l/\i'=i/\j'=j)):up3 T l i j v l' i' j'=T l' i' j':=if_neg h
theorem b5h {l i j s:Nat} (hj:j<s):((List.range s).map λk=>oV (T l i k)).set j (oV v)=(List.range s).map λk=>oV (up3 T l i j v l i k):=by
 refine b8X λk=>?_;rw[b5L];by_cases hk:k<s
 ·rw[b6U hk];by_cases e:j=k
  ·subst e;rw[b8G (by rw[b5x,b5V];exact hk)];show some (oV v)=some (oV (up3 T l i j v l i j));rw[b0U]
  ·rw[b8Y e,b5L,b6U hk];show some (oV (T l i k))=some (oV (up3 T l i j v l i k));rw[a3W λz=>e z.2.2.symm]
 ·rw[b7q (by rw[c1b,b5x,b5V];omega),b7q (by rw[b5V];omega)];rfl
theorem a4O {f:Nat->Addr} {g:Nat->OI} {m n:Nat} (hm:0<m) (hn:0<n):(List.range m).map (λl=>V.ref (f l))≠(List.range n).map λj=>oV (g j):=λz=>by
 have h1:((List.range m).map (λl=>V.ref (f l)))[0]?=some (V.ref (f 0)):=by rw[b5L,b6U hm];rfl
 have h2:((List.range n).map λj=>oV (g j))[0]?=some (oV (g 0)):=by rw[b5L,b6U hn];rfl
 rw[z,h2] at h1;cases hg:g 0<;>(rw[hg] at h1;cases h1)
theorem Tb.keep {H:Hp} {a c:Addr} {ba:Nat->Addr} {ca:Nat->Nat->Addr} {L s:Nat} {T:Nat->Nat->Nat->OI} {g:Nat->OI} {n:Nat} {o:HO} (h:Tb H a ba ca L s T) (hL:0<L) (hs:0<s) (hn:0<n) (hc:H c=some (.lst ((List.range n).map λj=>oV (g j)))) (nc:∀l i,l<L->i<s->ca l i≠c):Tb (upd H c o) a ba ca L s T:=by
 refine⟨?_,λl hl=>?_,λl i hl hi=>?_⟩
 ·rw[a0h (a0r h.o hc (λz=>a4O hL hn (HO.lst.inj z)))];exact h.o
 ·rw[a0h (a0r (h.b l hl) hc (λz=>a4O hs hn (HO.lst.inj z)))];exact h.b l hl
 ·rw[a0h (nc l i hl hi)];exact h.c l i hl hi
theorem Tb.put {L s:Nat} {l i j:Nat} (h:Tb H a ba ca L s T) (inj:∀l i l' i',l<L->l'<L->i<s->i'<s->ca l i=ca l' i'->l=l'/\i=i') (hl:l<L) (hi:i<s) (hj:j<s) :
  Tb (upd H (ca l i) (.lst (((List.range s).map λk=>oV (T l i k)).set j (oV v)))) a ba ca L s (up3 T l i j v):=by
 rw[b5h hj];have hc:=h.c l i hl hi;refine⟨?_,λl' hl'=>?_,λl' i' hl' hi'=>?_⟩
 ·rw[a0h (a0r h.o hc (λz=>a4O (m:=L) (n:=s) (by omega) (by omega) (HO.lst.inj z)))];exact h.o
 ·rw[a0h (a0r (h.b l' hl') hc (λz=>a4O (m:=s) (n:=s) (by omega) (by omega) (HO.lst.inj z)))];exact h.b l' hl'
 ·by_cases e:l'=l/\i'=i
  ·obtain⟨rfl,rfl⟩:=e;rw[a0b]
  ·rw[a0h (λz=>e (inj l' i' l i hl' hl hi' hi z)),h.c l' i' hl' hi'];refine b7m (λz=>some (HO.lst z)) (b6c λk _=>?_);rw[a3W λz=>e ⟨z.1,z.2.1⟩]
theorem PAt.puth {C:Addr} {H:Hp} {r p:Addr} {ps ws:List Int} {X:Ad} {h t:Nat->Nat->Nat->OI} {l i j:Nat} {v:OI} (a:PAt C H r p ps ws X h t) (hl:l<ps.length) (hi:i<ws.length+1) (hj:j<ws.length+1) :
  PAt C (upd H (X.ch l i) (.lst (((List.range (ws.length+1)).map λk=>oV (h l i k)).set j (oV v)))) r p ps ws X (up3 h l i j v) t:=by
 obtain⟨dx,ho⟩:=a.ob;have hc:=a.hd.c l i hl hi;refine⟨⟨dx,?_⟩,?_,?_,a.hd.put a.ih hl hi hj,a.tl.keep (by omega) (by omega) (by omega) hc λl' i' hl' hi'=>Ne.symm (a.ix l i l' i' hl hl' hi hi'),a.ih,a.it,a.ix,a.ns⟩
 ·rw[a0h (a0r ho hc (by intro z;cases z))];exact ho
 ·show upd _ _ _ p=_;rw[a0h (a0r a.hp hc (by intro z;cases z))];exact a.hp
 ·rw[a0h (λz=>a.ns (.inl ⟨l,i,hl,hi,z⟩))];exact a.su
theorem PAt.putt {h t:Nat->Nat->Nat->OI} {l i j:Nat} (a:PAt C H r p ps ws X h t) (hL:0<ps.length) (hl:l<ps.length+1) (hi:i<ws.length+1) (hj:j<ws.length+1) :
  PAt C (upd H (X.ct l i) (.lst (((List.range (ws.length+1)).map λk=>oV (t l i k)).set j (oV v)))) r p ps ws X h (up3 t l i j v):=by
 obtain⟨dx,ho⟩:=a.ob;have hc:=a.tl.c l i hl hi;refine⟨⟨dx,?_⟩,?_,?_,a.hd.keep hL (by omega) (by omega) hc λl' i' hl' hi'=>a.ix l' i' l i hl' hl hi' hi,a.tl.put a.it hl hi hj,a.ih,a.it,a.ix,a.ns⟩
 ·rw[a0h (a0r ho hc (by intro z;cases z))];exact ho
 ·show upd _ _ _ p=_;rw[a0h (a0r a.hp hc (by intro z;cases z))];exact a.hp
 ·rw[a0h (λz=>a.ns (.inr ⟨l,i,hl,hi,z⟩))];exact a.su
def KZ (X:Ad) (L s:Nat) (H H':Hp):Prop:=∀a o,¬Z X L s a->H a=some o->H' a=some o
abbrev lsum (h t:Nat->Nat->Nat->OI) (l i j k:Nat):OI:=lo ((List.range (k-i)).map λb=>oadd (h l i (i+b+1)) (t (l+1) (i+b+1) j))
abbrev NLs:List Str:=["self","letter","first","end","last","heads","tails"]
def spLs (C:Addr):Sp:=λvs H Q _=>∃(r p:Addr) (ps ws:List Int) (X:Ad) (h t:Nat->Nat->Nat->OI) (l i j k:Nat),vs=[.ref r,.int (l:Int),.int (i:Int),.int (j:Int),.int (k:Int)]/\PAt C H r p ps ws X h t/\ws.length<=20/\l<ps.length/\i<=k/\k<=ws.length/\j<=ws.length/\∀H',a0m H H'->Q (oV (lsum h t l i j k)) H'
theorem scLs:a0l NLs ["self","letter","first","end","last"] (a0d sLs):=fsk
theorem ndLs:(("cut":Str)::NLs).Nodup:=by decide +kernel
theorem ok_ls (F:Fun K "least_sum" "Parted.least_sum" sLs f fd) (GL:Fns P w K mg base ["numbers"] "least" a4M 1) (GA:Fns P w K mg base ["one","other"] "added" a4N 1) (rc:PC K C) (mr:mg "range"=none):a0Y P w K mg base CX0 2 f fd ["self","letter","first","end","last"] (spLs C):=by
 refine F.ok (k:=1) scLs (λvs H Q E h=>?_) (λcdv A outer s H vs Q E hr h=>?_)
 ·obtain⟨r,p,ps,ws,X,h,t,l,i,j,k,rfl,_⟩:=h;rfl
 obtain⟨r,p,ps,ws,X,h,t,l,i,j,k,rfl,pa,w20,hl,hik,hk,hj,q⟩:=h;refine⟨_,a0e (psA (i:=5) scLs (pxA a0u (pxA a0u (a1e (pv 0) rfl) (pv 1)) (pv 2)))
  (a0e (psA (i:=6) scLs (pxA a0u (a1e (pv 0) rfl) (a0o a0C (pv 1) a0g)))
  (a0i (a0q (pcF GL hr (a0a (a5i (M:=NLs) rfl (cso (a0d sLs) NLs) ndLs rfl (by rfl) mr (a0a (a0o a0C (pv 2) a0g) (a0a (a0o a0C (pv 4) a0g) a0f)) (a0U (a9m a5j a0F mo_c) (a0U (a9m a5j a0F mo_c) a1v))
   (λcl C s0 H0 fp=>⟨a0I,pcF GA hr (a0a (pxA (ixL K) (pv 6) (pv 0)) (a0a (pxA (ixL K) (pxA (ixL K) (pv 7) (pv 0)) (pv 4)) a0f))⟩)) a0f))))),?_⟩
 obtain⟨dx,ho⟩:=pa.ob;have i1:i<ws.length+1:=by omega
 have hT:=pa.hd;have tT:=pa.tl;refine⟨_,rfl,r,C,dx,_,_,rfl,ho,rc.c,rc.nh,rfl,_,rfl,X.th,_,_,_,rfl,rfl,SqL.of hT.o,a0R hl,_,rfl,X.bh l,_,_,_,rfl,rfl,SqL.of (hT.b l hl),a0R i1,?_⟩;refine⟨_,rfl,r,C,dx,_,_,rfl,ho,rc.c,rc.nt,rfl,_,rfl,_,_,rfl,rfl,X.tt,_,_,_,rfl,rfl,SqL.of tT.o,a0R (k:=l+1) (by omega),?_⟩;refine⟨_,rfl,_,_,rfl,rfl,_,rfl,_,_,rfl,rfl,_,_,rfl,⟨by omega,by omega,by omega,by omega⟩,λd hd=>?_⟩;have en:(((k:Int)+1)-((i:Int)+1)).toNat=k-i:=by omega
 dsimp only;rw[en];refine⟨λb H'=>a0m H H'/\H' d=some (.lst (((List.range b).map λb=>oadd (h l i (i+b+1)) (t (l+1) (i+b+1) j)).map oV)),⟨a0c hd _,a0b⟩,λb H' hb hP=>?_,λH' hP=>?_⟩
 ·obtain⟨s5,hd'⟩:=hP;have eb:(i:Int)+1+(b:Int)=((i+b+1:Nat):Int):=by push_cast;omega
  rw[eb];have hb1:i+b+1<ws.length+1:=by omega
  refine a0y ⟨_,rfl,_,rfl,X.ch l i,_,_,_,rfl,rfl,SqL.of (s5 _ _ (hT.c l i hl i1)),a0R hb1,_,rfl,_,rfl,X.bt (l+1),_,_,_,rfl,rfl,SqL.of (s5 _ _ (tT.b (l+1) (by omega))),a0R hb1,_,rfl,X.ct (l+1) (i+b+1),_,_,_,rfl,rfl,SqL.of (s5 _ _ (tT.c (l+1) (i+b+1) (by omega) hb1)),a0R (k:=j) (by omega),_,_,rfl,_,hd',?_,a0n hd s5,?_⟩
  ·rw[b5x,b5x,b5V];exact a0j (by omega)
  ·rw[a0b,b7b,b5H,b5H];rfl
 ·obtain⟨s5,hd'⟩:=hP;exact⟨d,_,rfl,hd',by rw[b5x,b5V];omega,λH6 s6=>q H6 (s5.trans s6)⟩
abbrev NB:List Str:=["self","first","end"]
def a6D (C:Addr):Sp:=λvs H Q _=>∃(r p:Addr) (ps ws:List Int) (X:Ad) (h t:Nat->Nat->Nat->OI) (i j:Nat),vs=[.ref r,.int (i:Int),.int (j:Int)]/\PAt C H r p ps ws X h t/\ws.length<=20/\ps.length<=10/\i<j/\j<=ws.length/\∀H',a0m H H'->Q (oV (bnd ps.length h t i j)) H'
theorem b5i:a0l NB ["self","first","end"] (a0d a7L):=fsk
theorem ndB:(("letter":Str)::NB).Nodup:=by decide +kernel
theorem b2E (F:Fun K "bound" "Parted.bound" a7L f fd) (GL:Fns P w K mg base ["numbers"] "least" a4M 2) (M:Mt P w K mg base C "least_sum" ["self","letter","first","end","last"] (spLs C) 2) (rc:PC K C) (ml:mg "len"=none) (mr:mg "range"=none):a0Y P w K mg base CX0 3 f fd ["self","first","end"] (a6D C):=by
 refine F.ok (k:=2) b5i (λvs H Q E h=>?_) (λcdv A outer s H vs Q E hr h=>?_)
 ·obtain⟨r,p,ps,ws,X,h,t,i,j,rfl,_⟩:=h;rfl
 obtain⟨r,p,ps,ws,X,h,t,i,j,rfl,pa,w20,p10,hij,hj,q⟩:=h;refine⟨_,a0e (a1q (a0D a2d (a0o a1M (pv 2) (pv 1)) a0g (nomark _)) (a0i (a0q a0g)) a0K)
  (a0i (a0q (pcF GL hr (a0a (a1k (M:=NB) rfl (cso (a0d a7L) NB) ndB rfl (by rfl) mr (a0a (pln ml (a1e (pv 0) rfl)) a0f) (a0U (b2X (a0U (b0T a0F) a1v)) a1v)
   (λcl C s0 H0 fp=>⟨a0I,a2e (pv 1) rc.c M.m M.ok hr M.b .nil a2Z (a0a (pv 0) (a0a (pv 2) (a0a (pv 3) (a0a (a0o a1M (pv 3) a0g) a0f))))⟩)) a0f)))),?_⟩
 obtain⟨dx,ho⟩:=pa.ob;refine⟨_,rfl,_,rfl,_,_,rfl,rfl,rfl,_,rfl,?_⟩;refine a3D (λz=>?_) (λz=>?_)
 ·have z1:j-i=1:=by
   have y:V.int ((j:Int)-(i:Int))=V.int 1:=b5X z;have:=V.int.inj y;omega
  have:=q H (a0m.refl _);unfold bnd at this;rw[if_pos z1] at this;exact this
 ·have z1:¬j-i=1:=λy=>z (b6b (by show V.int ((j:Int)-(i:Int))=V.int 1;congr 1;omega));unfold bnd at q;rw[if_neg z1] at q;refine⟨_,rfl,r,C,dx,_,_,rfl,ho,rc.c,rc.np,rfl,p,_,rfl,.inr (SqT.of pa.hp),_,rfl,by rw[b5x];omega,by rw[b5x];omega,λd hd=>?_⟩;rw[b5x,b6Z];refine⟨λl H'=>a0m H H'/\H' d=some (.lst (((List.range l).map λl=>lsum h t l i j (j-1)).map oV)),⟨a0c hd _,a0b⟩,λl H' hl hP=>?_,λH' hP=>?_⟩
  ·obtain⟨s5,hd'⟩:=hP;rw[show(0:Int)+(l:Int)=(l:Int) from b8S _];have ej:(j:Int)-1=((j-1:Nat):Int):=by omega
   refine a0y ⟨_,rfl,r,dx,_,rfl,s5 _ _ ho,rfl,_,rfl,_,rfl,_,rfl,_,rfl,_,_,rfl,rfl,r,p,ps,ws,X,h,t,l,i,j,j-1,(by show V.ref r::([V.int (l:Int),V.int (i:Int),V.int (j:Int),V.int ((j:Int)-1)]++[])=_;rw[ej];rfl),pa.same s5,w20,hl,by omega,by omega,hj,λH6 s6=>⟨_,s6 _ _ hd',?_,a0n hd (s5.trans s6),?_⟩⟩
   ·rw[b5x,b5x,b5V];exact a0j (by omega)
   ·rw[a0b,b7b,b5H,b5H];rfl
  ·obtain⟨s5,hd'⟩:=hP;exact⟨d,_,rfl,hd',by rw[b5x,b5V];omega,λH6 s6=>q H6 (s5.trans s6)⟩
def Wt (ws:List Int) (i j:Nat):Int:=(ws.take j).sum-(ws.take i).sum
abbrev pl (ps:List Int) (l:Nat):Int:=ps.getD l 0
def Bw (ns:List Int):Prop:=∀x∈ns,0<=x/\x<=B30
theorem b0d (h:Bw ns):0<=ns.sum/\ns.sum<=ns.length*B30:=by
 induction ns with
 | nil=>simp
 | cons a t ih =>
  have h1:=h a (.head _);have h2:=ih λx hx=>h x (.tail _ hx);rw[b6t,b5T];have e:(((t.length+1:Nat):Int))*B30=t.length*B30+B30:=by push_cast;rw[c0V];omega
  rw[e];omega
theorem Wt_is {i j:Nat} (h:i<=j):Wt ws i j=((ws.take j).drop i).sum:=by
 have e:ws.take j=ws.take i++(ws.take j).drop i:=by
  have:=(List.take_append_drop i (ws.take j)).symm;rw[List.take_take,Nat.min_eq_left h] at this;exact this
 unfold Wt;have e2:(ws.take j).sum=(ws.take i).sum+((ws.take j).drop i).sum:=by rw[<-b7R,<-e]
 omega
theorem Wt_bd {i j:Nat} (h:i<=j) (b:Bw ws) (l:ws.length<=20):0<=Wt ws i j/\Wt ws i j<=20*B30:=by
 rw[Wt_is h];have b2:Bw ((ws.take j).drop i):=λx hx=>b x (b6V (c0a hx));have:=b0d b2;have l2:((ws.take j).drop i).length<=20:=by rw[b8A,b5R];omega
 refine⟨this.1,b8r this.2 ?_⟩;exact b8s (by omega) (by decide)
theorem a1Y {l i j k:Nat} (eh:∀b,i<b->b<=k->h1 l i b=h2 l i b) (et:∀a,i<a->a<=k->t1 (l+1) a j=t2 (l+1) a j):lsum h1 t1 l i j k=lsum h2 t2 l i j k:=by
 show lo _=lo _;congr 1;refine b6c λb hb=>?_;have:=b6F.mp hb;rw[eh _ (by omega) (by omega),et _ (by omega) (by omega)]
structure Put (ps ws:List Int) (h t h' t':Nat->Nat->Nat->OI) (i j:Nat) (fl:OI) (m:Nat):Prop where
 oh:∀l a b,¬(a=i/\b=j)->h' l a b=h l a b
 ot:∀l a b,¬(a=i/\b=j)->t' l a b=t l a b
 oe:t' ps.length i j=t ps.length i j
 eh:∀l,ps.length-m<=l->l<ps.length->h' l i j=oadd (some (pl ps l*Wt ws i j)) fl
 et:∀l,ps.length-m<=l->l<ps.length->t' l i j=lo [lsum h' t' l i j j,t' (l+1) i j]
theorem Put.step {h t h' t':Nat->Nat->Nat->OI} {i j:Nat} (u:Put ps ws h t h' t' i j fl m) (hm:m<ps.length) (el:l=ps.length-1-m) :
  Put ps ws h t (up3 h' l i j (oadd (some (pl ps l*Wt ws i j)) fl)) (up3 t' l i j (lo [lsum (up3 h' l i j (oadd (some (pl ps l*Wt ws i j)) fl)) t' l i j j,t' (l+1) i j])) i j fl (m+1):=by
 generalize ev:oadd (some (pl ps l*Wt ws i j)) fl=v;have hT:∀l',l'≠l->∀v2 a b,up3 t' l i j v2 l' a b=t' l' a b:=λl' hne v2 a b=>a3W λz=>hne z.1;have hH:∀l',l'≠l->∀a b,up3 h' l i j v l' a b=h' l' a b:=λl' hne a b=>a3W λz=>hne z.1;generalize ev2:lo [lsum (up3 h' l i j v) t' l i j j,t' (l+1) i j]=v2;refine⟨λl' a b z=>?_,λl' a b z=>?_,?_,λl' h1 h2=>?_,λl' h1 h2=>?_⟩
 ·rw[a3W λy=>z ⟨y.2.1,y.2.2⟩];exact u.oh l' a b z
 ·rw[a3W λy=>z ⟨y.2.1,y.2.2⟩];exact u.ot l' a b z
 ·rw[hT _ (by omega)];exact u.oe
 ·by_cases e:l'=l
  ·subst e;rw[b0U];exact ev.symm
  ·rw[hH l' e];exact u.eh l' (by omega) h2
 ·by_cases e:l'=l
  ·subst e;rw[b0U,<-ev2,hT (l'+1) (by omega)];congr 2;exact a1Y (λ_ _ _=>rfl) λa _ _=>(hT (l'+1) (by omega) _ a j).symm
  ·rw[hT l' e,u.et l' (by omega) h2,hT (l'+1) (by omega)];congr 2;exact a1Y (λb _ _=>(hH l' e i b).symm) λa _ _=>(hT (l'+1) (by omega) v2 a j).symm
abbrev NPt:List Str:=["self","first","end","floor","weight","letter","with_letter"]
def spPut (C:Addr):Sp:=λvs H Q _=>∃(r p:Addr) (ps ws:List Int) (X:Ad) (h t:Nat->Nat->Nat->OI) (i j:Nat) (fl:OI),vs=[.ref r,.int (i:Int),.int (j:Int),oV fl]/\PAt C H r p ps ws X h t/\ws.length<=20/\1<=ps.length/\ps.length<=10/\Bw ps/\Bw ws/\i<j/\j<=ws.length /\
 ∀H' h' t',KZ X ps.length (ws.length+1) H H'->PAt C H' r p ps ws X h' t'->Put ps ws h t h' t' i j fl ps.length->Q .non H'
theorem b2F:a0l NPt ["self","first","end","floor"] (a0d sPut):=fsk
theorem b0V {k:Nat} (h:k<=ws.length):atI ((sums ws ws.length).map V.int) (k:Int)=some (.int (ws.take k).sum):=by
 unfold sums;rw[b6r];exact a0R (f:=λi=>V.int (ws.take i).sum) (by omega)
theorem at_pl {ps:List Int} {l:Nat} (h:l<ps.length):atI (ps.map V.int) (l:Int)=some (.int (pl ps l)):=by
 rw[a3d (b5z h)];unfold pl;rw[b5B,b5z h];rfl
theorem pl_bd (b:Bw ps) (l:Nat):0<=pl ps l/\pl ps l<=B30:=by
 unfold pl;rw[b5B];cases e:ps[l]? with
 | none=>exact⟨by show(0:Int)<=0;omega,by show(0:Int)<=B30;decide⟩
 | some x=>exact b x (b5M e)
theorem ok_put {C:Addr} (F:Fun K "put" "Parted.put" sPut f fd) (GL:Fns P w K mg base ["numbers"] "least" a4M 2) (GA:Fns P w K mg base ["one","other"] "added" a4N 2) (M:Mt P w K mg base C "least_sum" ["self","letter","first","end","last"] (spLs C) 2) (rc:PC K C) (ml:mg "len"=none) (mr:mg "range"=none):a0Y P w K mg base CX0 3 f fd ["self","first","end","floor"] (spPut C):=by
 refine F.ok (k:=2) b2F (λvs H Q E h=>?_) (λcdv A outer s H vs Q E hr h=>?_)
 ·obtain⟨r,p,ps,ws,X,h,t,i,j,fl,rfl,_⟩:=h;rfl
 obtain⟨r,p,ps,ws,X,h,t,i,j,fl,rfl,pa,w20,p1,p10,bp,bw,hij,hj,q⟩:=h;refine⟨_,a0e (psA (i:=4) b2F (a0o a1M (pxA a0u (a1e (pv 0) rfl) (pv 2)) (pxA a0u (a1e (pv 0) rfl) (pv 1))))
  (a0i (a1r b6Q rfl (a5t (by rfl) mr (a0a (a0o a1M (pln ml (a1e (pv 0) rfl)) a0g) (a0a (a5T a2S a0g) (a0a (a5T a2S a0g) a0f)))) (pgA (i:=5) b2F)
   (a0e (a8L (pcF GA hr (a0a (a0o a6d (pxA a1I (a1e (pv 0) rfl) (pv 5)) (pv 4)) (a0a (pv 3) a0f))) (a8K (pxA a0u (pxA a0u (a1e (pv 0) rfl) (pv 5)) (pv 1)) (pv 2) a4e))
   (a0e (psA (i:=6) b2F (a2e (pv 0) rc.c M.m M.ok hr M.b .nil a2Z (a0a (pv 5) (a0a (pv 1) (a0a (pv 2) (a0a (pv 2) a0f))))))
   (a0i (a8L (pcF GL hr (a0a (a1n (a0a (pv 6) (a0a (pxA a0u (pxA a0u (pxA a0u (a1e (pv 0) rfl) (a0o a0C (pv 5) a0g)) (pv 1)) (pv 2)) a0f))) a0f)) (a8K (pxA a0u (pxA a0u (a1e (pv 0) rfl) (pv 5)) (pv 1)) (pv 2) a4e))))))),?_⟩
 obtain⟨dx,ho⟩:=pa.ob;refine⟨_,rfl,r,C,dx,_,_,rfl,ho,rc.c,rc.ns,rfl,_,rfl,X.su,_,_,_,rfl,rfl,SqL.of pa.su,b0V hj,_,rfl,r,C,dx,_,_,rfl,ho,rc.c,rc.ns,rfl,_,rfl,X.su,_,_,_,rfl,rfl,SqL.of pa.su,b0V (k:=i) (by omega),_,_,rfl,rfl,?_⟩;have eW:(λ(x y:Int)=>V.int (x-y)) (ws.take j).sum (ws.take i).sum=.int (Wt ws i j):=rfl;dsimp only at eW ⊢;rw[eW];have wb:=Wt_bd (b7n hij) bw w20;refine⟨_,rfl,r,C,dx,_,_,rfl,ho,rc.c,rc.np,rfl,p,_,rfl,.inr (SqT.of pa.hp),_,_,rfl,rfl,_,rfl,_,rfl,_,rfl,⟨by rw[b5x];omega,by rw[b5x];omega⟩,?_⟩;rw[b5x,show((ps.length:Int)-1+1).toNat=ps.length by omega];have i1:i<ws.length+1:=by omega
 have j1:j<ws.length+1:=by omega
 refine a3O (λm σ H'=>KZ X ps.length (ws.length+1) H H'/\(∃h' t',PAt C H' r p ps ws X h' t'/\Put ps ws h t h' t' i j fl m)/\∃x5 x6:Option V,σ=[some (.ref r),some (.int (i:Int)),some (.int (j:Int)),some (oV fl),some (.int (Wt ws i j)),x5,x6])
  ⟨λ_ _ _ e=>e,⟨h,t,pa,λ_ _ _ _=>rfl,λ_ _ _ _=>rfl,rfl,λl a b=>by omega,λl a b=>by omega⟩,_,_,rfl⟩ (λm σ H1 hm hP=>?_) (λσ H1 hP=>?_)
 ·obtain⟨k1,⟨h',t',pa1,u⟩,x5,x6,rfl⟩:=hP;obtain⟨l,el⟩:∃l,l=ps.length-1-m:=⟨_,rfl⟩
  have ev:(ps.length:Int)-1+(m:Int)*(-1)=(l:Int):=by omega
  rw[ev];have hl:l<ps.length:=by omega
  obtain⟨dx1,ho1⟩:=pa1.ob;have pb:=pl_bd bp l;refine⟨_,rfl,r,C,dx1,_,_,rfl,ho1,rc.c,rc.np,rfl,_,rfl,p,_,_,_,rfl,rfl,SqT.of pa1.hp,at_pl hl,_,rfl,_,_,rfl,rfl,⟨⟨pb.1,by unfold B30 at *;omega⟩,⟨wb.1,by unfold B30 at *;omega⟩⟩,_,rfl,some (pl ps l*Wt ws i j),fl,rfl,?_⟩;refine⟨_,rfl,r,C,dx1,_,_,rfl,ho1,rc.c,rc.nh,rfl,_,rfl,X.th,_,_,_,rfl,rfl,SqL.of pa1.hd.o,a0R hl,_,rfl,X.bh l,_,_,_,rfl,rfl,SqL.of (pa1.hd.b l hl),a0R i1,_,rfl,X.ch l i,_,_,j,rfl,rfl,pa1.hd.c l i hl i1,(by rw[b5x,b5V];exact a6C j1),?_⟩;have pa2:=pa1.puth (v:=oadd (some (pl ps l*Wt ws i j)) fl) hl i1 j1;have k2:KZ X ps.length (ws.length+1) H (upd H1 (X.ch l i) (.lst (((List.range (ws.length+1)).map λk=>oV (h' l i k)).set j (oV (oadd (some (pl ps l*Wt ws i j)) fl))))):=λa o hz e=>by
   rw[a0h (λz=>hz (.inl ⟨l,i,hl,i1,z⟩))];exact k1 a o hz e
  generalize upd H1 (X.ch l i) (.lst (((List.range (ws.length+1)).map λk=>oV (h' l i k)).set j (oV (oadd (some (pl ps l*Wt ws i j)) fl))))=H2 at pa2 k2 ⊢;obtain⟨dx2,ho2⟩:=pa2.ob;refine⟨_,rfl,r,dx2,_,rfl,ho2,rfl,_,rfl,_,rfl,_,rfl,_,rfl,r,p,ps,ws,X,_,t',l,i,j,j,rfl,pa2,w20,hl,by omega,hj,hj,λH3 s3=>?_⟩;have pa3:=pa2.same s3;have k3:KZ X ps.length (ws.length+1) H H3:=λa o hz e=>s3 _ _ (k2 a o hz e);obtain⟨dx3,ho3⟩:=pa3.ob;have l1:l+1<ps.length+1:=by omega
  refine⟨_,rfl,_,rfl,r,C,dx3,_,_,rfl,ho3,rc.c,rc.nt,rfl,_,rfl,_,_,rfl,rfl,X.tt,_,_,_,rfl,rfl,SqL.of pa3.tl.o,a0R l1,_,rfl,X.bt (l+1),_,_,_,rfl,rfl,SqL.of (pa3.tl.b _ l1),a0R i1,_,rfl,X.ct (l+1) i,_,_,_,rfl,rfl,SqL.of (pa3.tl.c _ i l1 i1),a0R j1,(by show 2<=sizeLine;decide),λe1 he1=>?_⟩;have s4:=a0c he1 (.lst [oV (lsum (up3 h' l i j (oadd (some (pl ps l*Wt ws i j)) fl)) t' l i j j),oV (t' (l+1) i j)]);have g4:upd H3 e1 (.lst [oV (lsum (up3 h' l i j (oadd (some (pl ps l*Wt ws i j)) fl)) t' l i j j),oV (t' (l+1) i j)]) e1=some (.lst (([lsum (up3 h' l i j (oadd (some (pl ps l*Wt ws i j)) fl)) t' l i j j,t' (l+1) i j]:List OI).map oV)):=a0b;generalize upd H3 e1 (.lst [oV (lsum (up3 h' l i j (oadd (some (pl ps l*Wt ws i j)) fl)) t' l i j j),oV (t' (l+1) i j)])=H4 at s4 g4 ⊢;refine⟨e1,_,rfl,g4,by show 2<=100;decide,λH5 s5=>?_⟩;have pa5:=pa3.same (s4.trans s5);have k5:KZ X ps.length (ws.length+1) H H5:=λa o hz e=>(s4.trans s5) _ _ (k3 a o hz e);obtain⟨dx5,ho5⟩:=pa5.ob;have l2:l<ps.length+1:=by omega
  refine⟨_,rfl,r,C,dx5,_,_,rfl,ho5,rc.c,rc.nt,rfl,_,rfl,X.tt,_,_,_,rfl,rfl,SqL.of pa5.tl.o,a0R l2,_,rfl,X.bt l,_,_,_,rfl,rfl,SqL.of (pa5.tl.b _ l2),a0R i1,_,rfl,X.ct l i,_,_,j,rfl,rfl,pa5.tl.c l i l2 i1,(by rw[b5x,b5V];exact a6C j1),?_⟩;refine⟨λa o hz e=>?_,⟨_,_,pa5.putt p1 l2 i1 j1,u.step hm el⟩,_,_,rfl⟩;rw[a0h (λz=>hz (.inr ⟨l,i,l2,i1,z⟩))];exact k5 a o hz e
 ·obtain⟨k1,⟨h',t',pa1,u⟩,x5,x6,rfl⟩:=hP;exact q H1 h' t' k1 pa1 u
def Dn (f e i j:Nat):Prop:=f<i\/(i=f/\j<e)
theorem a5N {h t h' t':Nat->Nat->Nat->OI} {i j:Nat} (hij:i<j) (eh:∀l b,i<b->b<j->h' l i b=h l i b) (et:∀l a,i<a->a<j->t' l a j=t l a j):bnd L h' t' i j=bnd L h t i j:=by
 unfold bnd;split
 ·rfl
 ·congr 1;refine b6c λl _=>?_;exact a1Y (k:=j-1) (λb h1 h2=>eh l b h1 (by omega)) λa h1 h2=>et (l+1) a h1 (by omega)
def b3x (C:Addr):Sp:=λvs H Q _=>∃(r p:Addr) (ps ws:List Int) (X:Ad) (h t:Nat->Nat->Nat->OI) (i:Nat),vs=[.ref r,.int (i:Int)]/\PAt C H r p ps ws X h t/\ws.length<=20/\ps.length<=10/\i<ws.length /\
 ∀(a:Addr) H',a0m H H'->H a=none->H' a=some (.lst ((List.range (ws.length-i)).map λb=>oV (bnd ps.length h t i (i+b+1))))->Q (.ref a) H'
theorem scBrow:a0l ["self","first"] ["self","first"] (a0d b2w):=fsk
theorem ndBr:(("end":Str)::["self","first"]).Nodup:=by decide +kernel
theorem b5j (F:Fun K "bound_row" "Parted.bound_row" b2w f fd) (M:Mt P w K mg base C "bound" ["self","first","end"] (a6D C) 3) (rc:PC K C) (mr:mg "range"=none):a0Y P w K mg base CX0 4 f fd ["self","first"] (b3x C):=by
 refine F.ok (k:=3) scBrow (λvs H Q E h=>?_) (λcdv A outer s H vs Q E hr h=>?_)
 ·obtain⟨r,p,ps,ws,X,h,t,i,rfl,_⟩:=h;rfl
 obtain⟨r,p,ps,ws,X,h,t,i,rfl,pa,w20,p10,hi,q⟩:=h;refine⟨_,a0i (a0q (a5i (M:=["self","first"]) rfl (cso (a0d b2w) ["self","first"]) ndBr rfl (by rfl) mr (a0a (a0o a0C (pv 1) a0g) (a0a (a0o a0C (a1e (pv 0) rfl) a0g) a0f)) (a0U (a9m a5j a0F mo_c) (a0U (a9m a5j (b0T a0F) mo_c) a1v))
   (λcl C s0 H0 fp=>⟨a0I,a2e (pv 1) rc.c M.m M.ok hr M.b .nil a2Z (a0a (pv 2) (a0a (pv 0) a0f))⟩))),?_⟩
 obtain⟨dx,ho⟩:=pa.ob;refine⟨_,rfl,_,_,rfl,rfl,_,rfl,r,C,dx,_,_,rfl,ho,rc.c,rc.nn,rfl,_,_,rfl,rfl,_,_,rfl,⟨by omega,by omega,by omega,by omega⟩,λd hd=>?_⟩;have en:(((ws.length:Int)+1)-((i:Int)+1)).toNat=ws.length-i:=by omega
 dsimp only;rw[en];refine⟨λb H'=>a0m H H'/\H' d=some (.lst ((List.range b).map λb=>oV (bnd ps.length h t i (i+b+1)))),⟨a0c hd _,a0b⟩,λb H' hb hP=>?_,λH' hP=>?_⟩
 ·obtain⟨s5,hd'⟩:=hP;have eb:(i:Int)+1+(b:Int)=((i+b+1:Nat):Int):=by push_cast;omega
  rw[eb];refine a0y ⟨_,rfl,r,dx,_,rfl,s5 _ _ ho,rfl,_,rfl,_,rfl,r,p,ps,ws,X,h,t,i,i+b+1,rfl,pa.same s5,w20,p10,by omega,by omega,λH6 s6=>⟨_,s6 _ _ hd',?_,a0n hd (s5.trans s6),?_⟩⟩
  ·rw[b5x,b5V];exact a0j (by omega)
  ·rw[a0b,b7b,b5H];rfl
 ·obtain⟨s5,hd'⟩:=hP;exact q d H' s5 hd hd'
def a7N (C:Addr):Sp:=λvs H Q _=>∃(r p:Addr) (ps ws:List Int) (X:Ad) (h t:Nat->Nat->Nat->OI),vs=[.ref r]/\PAt C H r p ps ws X h t/\ws.length<=20/\ps.length<=10 /\
 ∀(d:Addr) (ra:Nat->Addr) H',a0m H H'->H d=none->(∀i,i<ws.length->H (ra i)=none)->(∀i j,i<ws.length->j<ws.length->ra i=ra j->i=j)->(∀i,i<ws.length->ra i≠d) ->
  H' d=some (.lst ((List.range ws.length).map λi=>.ref (ra i)))->(∀i,i<ws.length->H' (ra i)=some (.lst ((List.range (ws.length-i)).map λb=>oV (bnd ps.length h t i (i+b+1)))))->Q (.ref d) H'
theorem b2G:a0l ["self"] ["self"] (a0d a4L):=fsk
theorem ndBs:(("first":Str)::["self"]).Nodup:=by decide +kernel
theorem b0W (F:Fun K "bounds" "Parted.bounds" a4L f fd) (M:Mt P w K mg base C "bound_row" ["self","first"] (b3x C) 4) (rc:PC K C) (mr:mg "range"=none):a0Y P w K mg base CX0 5 f fd ["self"] (a7N C):=by
 refine F.ok (k:=4) b2G (λvs H Q E h=>?_) (λcdv A outer s H vs Q E hr h=>?_)
 ·obtain⟨r,p,ps,ws,X,h,t,rfl,_⟩:=h;rfl
 obtain⟨r,p,ps,ws,X,h,t,rfl,pa,w20,p10,qq⟩:=h;refine⟨_,a0i (a0q (a1k (M:=["self"]) rfl (cso (a0d a4L) ["self"]) ndBs rfl (by rfl) mr (a0a (a1e (pv 0) rfl) a0f) (a0U (b0T a0F) a1v)
   (λcl C s0 H0 fp=>⟨a0I,a2e (pv 1) rc.c M.m M.ok hr M.b .nil a2Z (a0a (pv 0) a0f)⟩))),?_⟩
 obtain⟨dx,ho⟩:=pa.ob;refine⟨_,rfl,r,C,dx,_,_,rfl,ho,rc.c,rc.nn,rfl,_,rfl,by omega,by omega,λd hd=>?_⟩;rw[b6Z];refine⟨λi H'=>a0m H H'/\∃ra:Nat->Addr,(∀k,k<i->H (ra k)=none)/\(∀j k,j<i->k<i->ra j=ra k->j=k)/\(∀k,k<i->ra k≠d)/\H' d=some (.lst ((List.range i).map λk=>.ref (ra k)))/\∀k,k<i->H' (ra k)=some (.lst ((List.range (ws.length-k)).map λb=>oV (bnd ps.length h t k (k+b+1)))),⟨a0c hd _,λ_=>d,λk hk=>absurd hk (b6O _),λj k hj=>absurd hj (b6O _),λk hk=>absurd hk (b6O _),a0b,λk hk=>absurd hk (b6O _)⟩,λi H1 hi hP=>?_,λH1 hP=>?_⟩
 ·obtain⟨s1,ca,c1,c2,c3,c4,c5⟩:=hP;rw[show(0:Int)+(i:Int)=(i:Int) from b8S _];refine a0y ⟨_,rfl,r,dx,_,rfl,s1 _ _ ho,rfl,_,rfl,r,p,ps,ws,X,h,t,i,rfl,pa.same s1,w20,p10,hi,λa H2 s2 hp2 g2=>?_⟩;have pd:a≠d:=λz=>by rw[z,c4] at hp2;cases hp2
  have pk:∀k,k<i->ca k≠a:=λk hk z=>by rw[<-z,c5 k hk] at hp2;cases hp2
  refine⟨_,s2 _ _ c4,?_,a0n hd (s1.trans s2),ext ca i a,λk hk=>?_,λj k hj hk e=>?_,λk hk=>?_,?_,λk hk=>?_⟩
  ·rw[b5x,b5V];exact a0j (by omega)
  ·by_cases z:k=i
   ·rw[a0t z];exact s1.free hp2
   ·rw[a0J z];exact c1 k (by omega)
  ·by_cases z1:j=i<;>by_cases z2:k=i
   ·omega
   ·rw[a0t z1,a0J z2] at e;exact absurd e.symm (pk k (by omega))
   ·rw[a0J z1,a0t z2] at e;exact absurd e (pk j (by omega))
   ·rw[a0J z1,a0J z2] at e;exact c2 j k (by omega) (by omega) e
  ·by_cases z:k=i
   ·rw[a0t z];exact pd
   ·rw[a0J z];exact c3 k (by omega)
  ·rw[a0b,b7b,b5H];refine b7m (λz=>some (HO.lst z)) ?_;congr 1
   ·refine b6c λk hk=>?_;rw[a0J (by have:=b6F.mp hk;omega)]
   ·show[V.ref a]=[V.ref (ext ca i a i)]
    rw[a0t rfl]
  ·by_cases z:k=i
   ·rw[a0t z,a0h pd,z];exact g2
   ·rw[a0J z,a0h (c3 k (by omega))];exact s2 _ _ (c5 k (by omega))
 ·obtain⟨s1,ca,c1,c2,c3,c4,c5⟩:=hP;exact qq d ca H1 s1 hd c1 c2 c3 c4 c5
structure Num (ps ws:List Int):Prop where
 p2:2<=ps.length
 p10:ps.length<=10
 w1:1<=ws.length
 w20:ws.length<=20
 bp:Bw ps
 bw:Bw ws
structure Cl (P:Program) (w:World) (K:PySem.W.Frag) (mg:Str->Option Value) (base:Heap) (C:Addr) where
 rc:PC K C
 g:mg "Parted"=some (.ref C)
 fi:Addr
 di:FuncData
 mkk:Mk K C fi
 oki:a0Y P w K mg base CX0 3 fi di ["self","prices","weights"] (b0R C)
 bi:a1N K di ["self","prices","weights"] []
structure Fin (ps ws:List Int) (h t:Nat->Nat->Nat->OI) (F:Nat->Nat->OI) (pr:Nat->Nat->Prop):Prop where
 dg:∀l i,l<=ps.length->i<=ws.length->t l i i=some 0
 ed:∀i j,i<j->j<=ws.length->t ps.length i j=none
 eq:∀i j,i<j->j<=ws.length->pr i j->Eqs (pl ps) (Wt ws) F ps.length h t i j
theorem Fin.weak {h t:Nat->Nat->Nat->OI} (a:Fin ps ws h t F pr) (h1:∀i j,i<j->j<=ws.length->pr' i j->pr i j):Fin ps ws h t F pr' :=
 ⟨a.dg,a.ed,λi j hij hj hp=>a.eq i j hij hj (h1 i j hij hj hp)⟩
theorem Fin.step {h t h' t':Nat->Nat->Nat->OI} {f e:Nat} (a:Fin ps ws h t F (Dn f e)) (hfe:f<e) (he:e<=ws.length) (u:Put ps ws h t h' t' f e (F f e) ps.length):Fin ps ws h' t' F (Dn f (e+1)):=by
 refine⟨λl i hl hi=>?_,λi j hij hj=>?_,λi j hij hj hp=>?_⟩
 ·rw[u.ot l i i (by omega)];exact a.dg l i hl hi
 ·by_cases z:i=f/\j=e
  ·rw[z.1,z.2,u.oe];exact a.ed f e hfe he
  ·rw[u.ot _ i j z];exact a.ed i j hij hj
 ·by_cases z:i=f/\j=e
  ·obtain⟨rfl,rfl⟩:=z;refine⟨λl hl=>?_,λl hl=>u.et l (by omega) hl⟩;rw[u.eh l (by omega) hl]
  ·have d:Dn f e i j:=by
    rcases hp with y|y
    ·exact .inl y
    ·exact .inr ⟨y.1,by omega⟩
   have E:=a.eq i j hij hj d;have nh:∀b,i<b->b<=j->¬(i=f/\b=e):=λb h1 h2 y=>by
    rcases d with w|w<;>omega
   have nt:∀x,i<x->x<=j->¬(x=f/\j=e):=λx h1 h2 y=>by
    rcases d with w|w<;>omega
   refine⟨λl hl=>?_,λl hl=>?_⟩
   ·rw[u.oh l i j z];exact E.eh l hl
   ·rw[u.ot l i j z,u.ot (l+1) i j z,E.et l hl];congr 2;exact(a1Y (k:=j) (λb h1 h2=>u.oh l i b (nh b h1 h2)) λx h1 h2=>u.ot (l+1) x j (nt x h1 h2)).symm
def up2 (F:Nat->Nat->OI) (i j:Nat) (v:OI):Nat->Nat->OI:=λa b=>if a=i/\b=j then v else F a b
structure Fln (ps ws:List Int) (h t:Nat->Nat->Nat->OI) (F:Nat->Nat->OI) (pr:Nat->Nat->Prop):Prop where
 fin:Fin ps ws h t F pr
 bd:∀i j,i<j->j<=ws.length->pr i j->bnd ps.length h t i j=F i j
theorem Fln.weak {h t:Nat->Nat->Nat->OI} (a:Fln ps ws h t F pr) (h1:∀i j,i<j->j<=ws.length->pr' i j->pr i j):Fln ps ws h t F pr' :=
 ⟨a.fin.weak h1,λi j hij hj hp=>a.bd i j hij hj (h1 i j hij hj hp)⟩
theorem Fln.step {h t h' t':Nat->Nat->Nat->OI} {f e:Nat} (a:Fln ps ws h t F (Dn f e)) (hfe:f<e) (he:e<=ws.length) (u:Put ps ws h t h' t' f e (bnd ps.length h t f e) ps.length):∃F',Fln ps ws h' t' F' (Dn f (e+1)):=by
 have nd:∀{i j},Dn f e i j->¬(i=f/\j=e):=λd z=>by rcases d with w|w<;>omega
 have ef:up2 F f e (bnd ps.length h t f e) f e=bnd ps.length h t f e:=by unfold up2;rw[if_pos ⟨rfl,rfl⟩]
 have a':Fin ps ws h t (up2 F f e (bnd ps.length h t f e)) (Dn f e):=⟨a.fin.dg,a.fin.ed,λi j hij hj hp=>⟨λl hl=>by
  unfold up2;rw[if_neg (nd hp)];exact(a.fin.eq i j hij hj hp).eh l hl,(a.fin.eq i j hij hj hp).et⟩⟩
 refine⟨up2 F f e (bnd ps.length h t f e),a'.step hfe he (by rw[ef];exact u),λi j hij hj hp=>?_⟩;by_cases z:i=f/\j=e
 ·obtain⟨rfl,rfl⟩:=z;rw[ef,a5N hij (λl b h1 h2=>u.oh l i b (by omega)) (λl x h1 h2=>u.ot l x j (by omega))]
 ·have d:Dn f e i j:=by
   rcases hp with y|y
   ·exact .inl y
   ·exact .inr ⟨y.1,by omega⟩
  unfold up2;rw[if_neg z,a5N hij (λl b h1 h2=>u.oh l i b (λy=>by rcases d with w|w<;>omega)) (λl x h1 h2=>u.ot l x j (λy=>by rcases d with w|w<;>omega))];exact a.bd i j hij hj d
abbrev rowO (F:Nat->Nat->OI) (n i:Nat):List OI:=(List.range (n-i)).map λb=>F i (i+b+1)
structure FlO (H:Hp) (d:Addr) (ra:Nat->Addr) (n:Nat) (F:Nat->Nat->OI):Prop where
 o:H d=some (.lst ((List.range n).map λi=>.ref (ra i)))
 r:∀i,i<n->H (ra i)=some (.lst ((rowO F n i).map oV))
abbrev NPl:List Str:=["prices","weights","parted","first","end"]
def spPl (C:Addr):Sp:=λvs H Q _=>∃(p q:Addr) (ps ws:List Int),vs=[.ref p,.ref q]/\TW H p ps/\TW H q ws/\Num ps ws/\∀(r:Addr) X h t F H',a0m H H'->PAt C H' r p ps ws X h t->Fln ps ws h t F (λ_ _=>True)->Q (.ref r) H'
theorem scPl:a0l NPl ["prices","weights"] (a0d sPl):=fsk
theorem ok_pl (F:Fun K "parted_least" "parted_least" sPl f fd) (cl:Cl P w K mg base C) (MP:Mt P w K mg base C "put" ["self","first","end","floor"] (spPut C) 4) (MB:Mt P w K mg base C "bound" ["self","first","end"] (a6D C) 4) (ml:mg "len"=none) (mr:mg "range"=none):a0Y P w K mg base CX0 5 f fd ["prices","weights"] (spPl C):=by
 refine F.ok (k:=4) scPl (λvs H Q E h=>?_) (λcdv A outer s H vs Q E hr h=>?_)
 ·obtain⟨p,q,ps,ws,rfl,_⟩:=h;rfl
 obtain⟨p,q,ps,ws,rfl,hp,hq,nu,qq⟩:=h;obtain⟨p2,p10,w1,w20,bp,bw⟩:=nu;refine⟨_,a0e (psA (i:=2) scPl (b3L cl.mkk cl.oki hr (by rfl) cl.g cl.bi .nil a2Z (a0a (pv 0) (a0a (pv 1) a0f))))
  (a0e (a1r b6Q rfl (a5t (by rfl) mr (a0a (a0o a1M (pln ml (pv 1)) a0g) (a0a (a5T a2S a0g) (a0a (a5T a2S a0g) a0f)))) (pgA (i:=3) scPl)
   (a0i (a1r b6Q rfl (a1K (by rfl) mr (a0a (a0o a0C (pv 3) a0g) (a0a (a0o a0C (pln ml (pv 1)) a0g) a0f))) (pgA (i:=4) scPl)
    (a0i (a1h (a2e (pv 2) cl.rc.c MP.m MP.ok hr MP.b .nil a2Z (a0a (pv 3) (a0a (pv 4) (a0a (a2e (pv 2) cl.rc.c MB.m MB.ok hr MB.b .nil a2Z (a0a (pv 3) (a0a (pv 4) a0f))) a0f)))))))))
  (a0i (a0q (pv 2)))),?_⟩
 refine⟨_,rfl,_,rfl,λr dx rn hdx _=>?_⟩;have sm:a0m H (upd (upd H dx (.own r)) r (.ins C dx [])):=a0n rn (a0c hdx _);refine⟨r,dx,p,q,ps,ws,rfl,a0b,sm _ _ hp,sm _ _ hq,by omega,p10,w20,λH1 X k1 pa1 fz=>⟨rfl,?_⟩⟩;have s1:a0m H H1:=λa o e=>k1 a o (λz=>by rw[z,rn] at e;cases e) (sm a o e);have fz':∀a,Z X ps.length (ws.length+1) a->H a=none:=λa hz=>sm.free (fz a hz);have nz:∀{a o},H a=some o->¬Z X ps.length (ws.length+1) a:=λe hz=>by rw[fz' _ hz] at e;cases e
 have st0:∃F,Fln ps ws h0 t0 F (λi _=>ws.length<=i):=⟨λ_ _=>none,⟨λl i _ _=>if_pos rfl,λi j hij _=>if_neg (by omega),λi j hij hj hp=>absurd hp (by show ¬ws.length<=i;omega)⟩,λi j hij hj hp=>absurd hp (by show ¬ws.length<=i;omega)⟩
 refine⟨_,rfl,q,_,rfl,.inr (SqT.of (s1 _ _ hq)),_,_,rfl,rfl,_,rfl,_,rfl,_,rfl,⟨by rw[b5x];omega,by rw[b5x];omega⟩,?_⟩;rw[b5x,show((ws.length:Int)-1+1).toNat=ws.length by omega];refine a3O (λm σ H'=>a0m H H'/\(∃h t F,PAt C H' r p ps ws X h t/\Fln ps ws h t F (λi _=>ws.length-m<=i))/\∃x3 x4:Option V,σ=[some (.ref p),some (.ref q),some (.ref r),x3,x4])
  ⟨s1,(by obtain⟨F,hF⟩:=st0;exact⟨h0,t0,F,pa1,hF⟩),_,_,rfl⟩ (λm σ H2 hm hP=>?_) (λσ H2 hP=>?_)
 ·obtain⟨s2,⟨h,t,F,pa2,fn2⟩,x3,x4,rfl⟩:=hP;obtain⟨f,ef⟩:∃f,f=ws.length-1-m:=⟨_,rfl⟩
  have ev:(ws.length:Int)-1+(m:Int)*(-1)=(f:Int):=by omega
  rw[ev];have hf:f<ws.length:=by omega
  refine⟨_,rfl,_,_,rfl,rfl,_,rfl,q,_,rfl,.inr (SqT.of (s2 _ _ hq)),_,_,rfl,rfl,_,_,rfl,⟨by omega,by omega,by rw[b5x];omega,by rw[b5x];omega⟩,?_⟩;refine a1L (λk σ H'=>a0m H H'/\(∃h t F,PAt C H' r p ps ws X h t/\Fln ps ws h t F (Dn f (f+1+k)))/\∃x4:Option V,σ=[some (.ref p),some (.ref q),some (.ref r),some (.int (f:Int)),x4])
   ⟨s2,⟨h,t,F,pa2,fn2.weak λi j hij hj d=>by show ws.length-m<=i;rcases d with z|z<;>omega⟩,_,rfl⟩ (λk σ H3 hk hP=>?_) (λσ H3 hP=>?_)
  ·obtain⟨s3,⟨h3,t3,F3,pa3,fn3⟩,x4,rfl⟩:=hP;have hk':f+1+k<=ws.length:=by
    have:(ws.map V.int).length=ws.length:=b5x ..;omega
   have ee:(f:Int)+1+(k:Int)=((f+1+k:Nat):Int):=by push_cast;omega
   rw[ee];obtain⟨dx3,ho3⟩:=pa3.ob;refine⟨_,rfl,r,dx3,_,rfl,ho3,rfl,_,rfl,_,rfl,_,rfl,r,dx3,_,rfl,ho3,rfl,_,rfl,_,rfl,r,p,ps,ws,X,h3,t3,f,f+1+k,rfl,pa3,w20,p10,by omega,hk',λH4 s4=>?_⟩;refine⟨r,p,ps,ws,X,h3,t3,f,f+1+k,_,rfl,pa3.same s4,w20,by omega,p10,bp,bw,by omega,hk',λH5 h5 t5 k5 pa5 u=>?_⟩;obtain⟨F5,fn5⟩:=fn3.step (by omega) hk' u;exact⟨λa o e=>k5 a o (nz e) (s4 _ _ (s3 _ _ e)),⟨h5,t5,F5,pa5,fn5⟩,_,rfl⟩
  ·obtain⟨s3,⟨h3,t3,F3,pa3,fn3⟩,x4,rfl⟩:=hP;have en:(((((ws.map V.int).length:Nat):Int)+1)-((f:Int)+1)).toNat=ws.length-f:=by rw[b5x];omega
   rw[en] at fn3;exact⟨s3,⟨h3,t3,F3,pa3,fn3.weak λi j hij hj d=>by
    have d:ws.length-(m+1)<=i:=d;by_cases z:f<i
    ·exact .inl z
    ·exact .inr ⟨by omega,by omega⟩⟩,_,_,rfl⟩
 ·obtain⟨s2,⟨h,t,F,pa2,fn2⟩,x3,x4,rfl⟩:=hP;exact⟨_,rfl,qq r X h t F H2 s2 pa2 (fn2.weak λi j _ _ _=>by show ws.length-ws.length<=i;omega)⟩
namespace CT
def mi (xs:List Int):OI:=lo (xs.map some)
def ct (xs:List Int):Nat:=match mi xs with
 | none=>0
 | some m=>xs.count m
def sums (k:Int) (as bs:List Int):List Int:=as.flatMap λa=>bs.map λb=>k+a+b
abbrev Code:=List (List Int)
def Bk (L l m:Nat):List (Nat × Nat):=(List.range (L-l)).flatMap λa=>(List.range m).map λb=>(l+a,b)
theorem a2a:q∈Bk L l m↔l<=q.1/\q.1<L/\q.2<m:=by
 unfold Bk;constructor
 ·intro h;obtain⟨a,ha,h⟩:=b8g.mp h;obtain⟨b,hb,rfl⟩:=b5K.mp h;have:=b6F.mp ha;have:=b6F.mp hb;exact⟨by show l<=l+a;omega,by show l+a<L;omega,by assumption⟩
 ·rintro⟨h1,h2,h3⟩;refine b8g.mpr ⟨q.1-l,b6F.mpr (by omega),b5K.mpr ⟨q.2,b6F.mpr h3,?_⟩⟩;rw[show l+(q.1-l)=q.1 by omega]
section
variable (L n:Nat) (h t:Nat->Nat->Nat->OI) (F:Nat->Nat->OI) (p:Nat->Int) (W:Nat->Nat->Int)
def vl (i j:Nat) (q:Nat × Nat):OI:=oadd (h q.1 i (i+q.2+1)) (t (q.1+1) (i+q.2+1) j)
structure Tb:Prop where
 dg:∀l j,l<=L->j<=n->t l j j=some 0
 tt:∀l i j,l<=L->i<j->j<=n->t l i j=lo ((Bk L l (j-i)).map (vl h t i j))
 ff:∀i j,i<j->j<=n->F i j=if j-i=1 then some 0 else lo ((Bk L 0 (j-1-i)).map (vl h t i j))
 hh:∀l i j,l<L->i<j->j<=n->h l i j=oadd (some (p l*W i j)) (F i j)
 tn:∀l i j,l<L->i<j->j<=n->t l i j≠none
 fn:∀i j,i<j->j<=n->F i j≠none
 pw:∀l i j,l<L->i<j->j<=n->0<p l*W i j
variable (cd:Nat->Nat->Nat) (tl:Nat->Nat->Nat->Nat)
variable (Cs:Nat->List Code) (Rs:Nat->Nat->List Code) (co:Nat->Code->Int)
def ahd (l:Nat) (c:Code):Code:=c.map λw=>(l:Int)::w
def bhd (many:Nat) (q:Nat × Nat):List Code:=if q.2+1<many then Rs (many-(q.2+1)) (q.1+1) else [[]]
def rw' (many low most:Nat):List Code:=(Bk L low most).flatMap λq=>(Cs (q.2+1)).flatMap λc=>(bhd Rs many q).map λr=>ahd q.1 c++r
variable {L n h t F p W cd tl Cs Rs co}
theorem a3X {α β:Type} {f g:α->List β}:∀{xs:List α},(∀x∈xs,f x=g x)->xs.flatMap f=xs.flatMap g
 | [],_=>rfl
 | x::xs,h=>by rw[b9E,b9E,h x (.head _),a3X λy hy=>h y (.tail _ hy)]
end
end CT
end K77K
namespace K77K
open PySem L2
abbrev Po (ns:List Int):Prop:=∀x∈ns,(1:Int)<=x
theorem Wt_pos {i j:Nat} (bw:Po ws) (hij:i<j) (hj:j<=ws.length):1<=Wt ws i j:=by
 rw[Wt_is (by omega)];have:∀xs:List Int,xs≠[]->(∀x∈xs,1<=x)->1<=xs.sum:=by
  intro xs
  induction xs with
  | nil=>intro h;exact absurd rfl h
  | cons x xs ih =>
   intro _ h;rw[b6t];have h1:=h x (.head _);by_cases e:xs=[]
   ·rw[e,List.sum_nil];omega
   ·have:=ih e λy hy=>h y (.tail _ hy);omega
 refine this _ (λz=>?_) λx hx=>bw x (b6V (c0a hx));have:=b7m List.length z;rw[b8A,b5R,b7o] at this;omega
theorem pl_pos (bp:Po ps) (hl:l<ps.length):1<=pl ps l:=by
 have:pl ps l=ps[l]'hl:=by
  unfold pl;rw[b5B,b5z hl];rfl
 rw[this];exact bp _ (b7t hl)
theorem b5k (h:l<L):CT.Bk L l m=((List.range m).map λb=>(l,b))++CT.Bk L (l+1) m:=by
 unfold CT.Bk;obtain⟨k,hk⟩:∃k,L-l=k+1:=⟨L-l-1,by omega⟩
 rw[hk,show L-(l+1)=k by omega,List.range_succ_eq_map,b9E,List.flatMap_map];congr 1;refine CT.a3X λa _=>?_;refine b6c λb _=>?_;rw[show l+(a+1)=l+1+a by omega]
theorem b5l (xs ys:List OI):lo (xs++ys)=lo [lo xs,lo ys]:=b0M xs ys
theorem Fln.tt {h t:Nat->Nat->Nat->OI} (a:Fln ps ws h t F (λ_ _=>True)):∀k l i j,l+k=ps.length->i<j->j<=ws.length->t l i j=lo ((CT.Bk ps.length l (j-i)).map (CT.vl h t i j))
 | 0,l,i,j,hl,hij,hj=>by
  have e:l=ps.length:=by omega
  subst e;rw[a.fin.ed i j hij hj];unfold CT.Bk;rw[b9P];exact b3v.symm
 | k+1,l,i,j,hl,hij,hj=>by
  rw[(a.fin.eq i j hij hj trivial).et l (by omega),b5k (by omega),b5H,b5l,a.tt k (l+1) i j (by omega) hij hj,b6r];rfl
theorem Fln.ff {h t:Nat->Nat->Nat->OI} (a:Fln ps ws h t F (λ_ _=>True)) {i j:Nat} (hij:i<j) (hj:j<=ws.length):F i j=if j-i=1 then some 0 else lo ((CT.Bk ps.length 0 (j-1-i)).map (CT.vl h t i j)):=by
 rw[<-a.bd i j hij hj trivial];unfold bnd;split
 ·rfl
 ·unfold CT.Bk;rw[Nat.sub_zero,List.map_flatMap,b4Z];congr 1;refine b6c λl _=>?_;rw[b6r,b9L];rfl
theorem Fln.tn {h t:Nat->Nat->Nat->OI} (a:Fln ps ws h t F (λ_ _=>True)) {l i j:Nat} (hl:l<ps.length) (hij:i<j) (hj:j<=ws.length) (fn:F i j≠none):t l i j≠none:=by
 rw[a.tt (ps.length-l) l i j (by omega) hij hj];intro z;cases f:F i j with
 | none=>exact fn f
 | some x =>
  refine a3x.mp z (pl ps l*Wt ws i j+x+0) (b5K.mpr ⟨(l,j-i-1),CT.a2a.mpr ⟨b5G _,hl,by show j-i-1<j-i;omega⟩,?_⟩);show oadd (h l i (i+(j-i-1)+1)) (t (l+1) (i+(j-i-1)+1) j)=_;rw[show i+(j-i-1)+1=j by omega,(a.fin.eq i j hij hj trivial).eh l hl,a.fin.dg (l+1) j (by omega) hj,f];rfl
theorem Fln.fn {h t:Nat->Nat->Nat->OI} (a:Fln ps ws h t F (λ_ _=>True)) (hL:2<=ps.length):∀d i j,j-i<=d->i<j->j<=ws.length->F i j≠none
 | 0,i,j,hd,hij,hj=>by omega
 | d+1,i,j,hd,hij,hj=>by
  rw[a.ff hij hj];split
  ·intro z;cases z
  intro z;cases e1:F i (i+1) with
  | none=>exact a.fn hL d i (i+1) (by omega) (by omega) (by omega) e1
  | some x =>
  cases e2:t 1 (i+1) j with
  | none=>exact a.tn hL (by omega) hj (a.fn hL d (i+1) j (by omega) (by omega) hj) e2
  | some y =>
   refine a3x.mp z (pl ps 0*Wt ws i (i+1)+x+y) (b5K.mpr ⟨(0,0),CT.a2a.mpr ⟨b5G _,by omega,by show 0<_;omega⟩,?_⟩);show oadd (h 0 i (i+1)) (t 1 (i+1) j)=_;rw[e2,(a.fin.eq i (i+1) (by omega) (by omega) trivial).eh 0 (by omega),e1];rfl
theorem Fln.tb {h t:Nat->Nat->Nat->OI} (a:Fln ps ws h t F (λ_ _=>True)) (hL:2<=ps.length) (bp:Po ps) (bw:Po ws):CT.Tb ps.length ws.length h t F (pl ps) (Wt ws) :=
 have fn:∀i j,i<j->j<=ws.length->F i j≠none:=λi j=>a.fn hL (j-i) i j (b5G _)
 ⟨a.fin.dg,λl i j hl=>a.tt (ps.length-l) l i j (by omega),λi j=>a.ff,λl i j hl hij hj=>(a.fin.eq i j hij hj trivial).eh l hl,λl i j hl hij hj=>a.tn hl hij hj (fn i j hij hj),fn,λl i j hl hij hj=>Int.mul_pos (pl_pos bp hl) (Wt_pos bw hij hj)⟩
variable {P:Program} {w:World} {K:PySem.W.Frag} {mg:Str->Option Value} {base:Heap} {f:Addr} {fd:FuncData}
def Way (H:Hp) (i:Nat) (x:V) (q:Nat × Nat):Prop:=∃a,x=.ref a/\H a=some (.tup [.int (q.1:Int),.int ((i+q.2+1:Nat):Int)])
theorem Way.same {i:Nat} {x:V} (s:a0m H H') (h:Way H i x q):Way H' i x q:=by
 obtain⟨a,rfl,e⟩:=h;exact⟨a,rfl,s _ _ e⟩
theorem Way.upd {i:Nat} {x:V} (hd:H d=some (.lst zs)) (h:Way H i x q):Way (L2.upd H d o) i x q:=by
 obtain⟨a,rfl,e⟩:=h;exact⟨a,rfl,by rw[a0h (a0r e hd (by intro z;cases z))];exact e⟩
abbrev NWy:List Str:=["self","letter","first","end","goal","found","way","cut"]
def wys (L:Nat) (h t:Nat->Nat->Nat->OI) (l i j:Nat):List (Nat × Nat):=(CT.Bk L l (j-i)).filter λq=>decide (CT.vl h t i j q=t l i j)
def b0X (C:Addr):Sp:=λvs H Q _=>∃(r p:Addr) (ps ws:List Int) (X:Ad) (h t:Nat->Nat->Nat->OI) (l i j:Nat),vs=[.ref r,.int (l:Int),.int (i:Int),.int (j:Int)]/\PAt C H r p ps ws X h t/\ws.length<=20/\ps.length<=10/\l<ps.length/\i<j/\j<=ws.length /\
 ∀(d:Addr) xs H',a0m H H'->H' d=some (.lst xs)->Paired (Way H' i) xs (wys ps.length h t l i j)->Q (.ref d) H'
theorem a5O:a0l NWy ["self","letter","first","end"] (a0d b5b):=fsk
theorem scal_O (a b:OI):scal (oV a) (oV b)=true:=by cases a<;>cases b<;>rfl
theorem oV_inj (h:oV a=oV b):a=b:=by
 cases a<;>cases b<;>first|rfl|cases h|skip
 rfl
theorem b5m (F:Fun K "ways" "Parted.ways" b5b f fd) (GA:Fns P w K mg base ["one","other"] "added" a4N 2) (rc:PC K C) (ml:mg "len"=none) (mr:mg "range"=none):a0Y P w K mg base CX0 3 f fd ["self","letter","first","end"] (b0X C):=by
 refine F.ok (k:=2) a5O (λvs H Q E h=>?_) (λcdv A outer s H vs Q E hr h=>?_)
 ·obtain⟨r,p,ps,ws,X,h,t,l,i,j,rfl,_⟩:=h;rfl
 obtain⟨r,p,ps,ws,X,h,t,l,i,j,rfl,pa,w20,p10,hl,hij,hj,q⟩:=h;refine⟨_,a0e (psA (i:=4) a5O (pxA a0u (pxA a0u (pxA a0u (a1e (pv 0) rfl) (pv 1)) (pv 2)) (pv 3)))
  (a0e (psA (i:=5) a5O (a1n a0f))
  (a0e (a1r b6Q rfl (a1K (by rfl) mr (a0a (pv 1) (a0a (pln ml (a1e (pv 0) rfl)) a0f))) (pgA (i:=6) a5O)
   (a0i (a1r b6Q rfl (a1K (by rfl) mr (a0a (a0o a0C (pv 2) a0g) (a0a (a0o a0C (pv 3) a0g) a0f))) (pgA (i:=7) a5O)
    (a0i (a1q (a0D a2d (pcF GA hr (a0a (pxA a0u (pxA a0u (pxA a0u (a1e (pv 0) rfl) (pv 6)) (pv 2)) (pv 7)) (a0a (pxA a0u (pxA a0u (pxA a0u (a1e (pv 0) rfl) (a0o a0C (pv 6) a0g)) (pv 7)) (pv 3)) a0f))) (pv 4) (nomark _))
     (a0i (a1h (a4h b6I b7k b7l a1f (pv 5) (a0a (a0Z (a0a (pv 6) (a0a (pv 7) a0f))) a0f)))) a0K)))))
  (a0i (a0q (pv 5))))),?_⟩
 obtain⟨dx,ho⟩:=pa.ob;have i1:i<ws.length+1:=by omega
 have j1:j<ws.length+1:=by omega
 refine⟨_,rfl,r,C,dx,_,_,rfl,ho,rc.c,rc.nt,rfl,_,rfl,X.tt,_,_,_,rfl,rfl,SqL.of pa.tl.o,a0R (k:=l) (by omega),_,rfl,X.bt l,_,_,_,rfl,rfl,SqL.of (pa.tl.b l (by omega)),a0R i1,_,rfl,X.ct l i,_,_,_,rfl,rfl,SqL.of (pa.tl.c l i (by omega) i1),a0R j1,?_⟩;refine⟨(by show 0<=sizeLine;decide),λd hd=>?_⟩;have s1:=a0c hd (.lst []);have g1:upd H d (.lst []) d=some (.lst []):=a0b;generalize upd H d (.lst [])=H1 at s1 g1 ⊢;refine⟨_,rfl,_,rfl,r,C,dx,_,_,rfl,s1 _ _ ho,rc.c,rc.np,rfl,p,_,rfl,.inr (SqT.of (s1 _ _ pa.hp)),?_⟩;rw[b5x];refine⟨_,_,rfl,⟨by omega,by omega,by omega,by omega⟩,?_⟩;have e0:((ps.length:Int)-(l:Int)).toNat=ps.length-l:=by omega
 rw[e0]
 let pw:Nat × Nat->Bool:=λq=>decide (CT.vl h t i j q=t l i j)
 have fin:∀a,(((List.range a).flatMap λa=>(List.range (j-i)).map λb=>(l+a,b)).filter pw).length<=a*(j-i):=λa=>by
  refine b6R (List.length_filter_le _ _) ?_
  induction a with
  | zero=>simp
  | succ a ih=>rw[b7b,b9i,b5J,Nat.succ_mul];simp;simp at ih;omega
 refine a1L (λa σ H'=>a0m H H'/\(∃xs,H' d=some (.lst xs)/\Paired (Way H' i) xs (((List.range a).flatMap λa=>(List.range (j-i)).map λb=>(l+a,b)).filter pw))/\∃x6 x7:Option V,σ=[some (.ref r),some (.int (l:Int)),some (.int (i:Int)),some (.int (j:Int)),some (oV (t l i j)),some (.ref d),x6,x7])
  ⟨s1,⟨[],g1,.nil⟩,_,_,rfl⟩ (λa σ H2 ha hP=>?_) (λσ H2 hP=>?_)
 ·obtain⟨s2,⟨xs2,g2,w2⟩,x6,x7,rfl⟩:=hP;have ea:(l:Int)+(a:Int)=((l+a:Nat):Int):=by push_cast;rfl
  rw[ea];refine⟨_,rfl,_,_,rfl,rfl,_,rfl,_,_,rfl,rfl,_,_,rfl,⟨by omega,by omega,by omega,by omega⟩,?_⟩;have e1:(((j:Int)+1)-((i:Int)+1)).toNat=j-i:=by omega
  rw[e1];refine a1L (λb σ H'=>a0m H H'/\(∃xs,H' d=some (.lst xs)/\Paired (Way H' i) xs ((((List.range a).flatMap λa=>(List.range (j-i)).map λb=>(l+a,b))++(List.range b).map λb=>(l+a,b)).filter pw))/\∃x7:Option V,σ=[some (.ref r),some (.int (l:Int)),some (.int (i:Int)),some (.int (j:Int)),some (oV (t l i j)),some (.ref d),some (.int ((l+a:Nat):Int)),x7])
   ⟨s2,⟨xs2,g2,by rw[List.range_zero,c1c,b6B];exact w2⟩,_,rfl⟩ (λb σ H3 hb hP=>?_) (λσ H3 hP=>?_)
  ·obtain⟨s3,⟨xs,g3,w3⟩,x7,rfl⟩:=hP;have eb:(i:Int)+1+(b:Int)=((i+b+1:Nat):Int):=by push_cast;omega
   rw[eb];have pa3:=pa.same s3;have hla:l+a<ps.length:=by omega
   have hb1:i+b+1<ws.length+1:=by omega
   have lx:xs.length<=500:=by
    rw[w3.length];have h1:=fin a;have h2:a*(j-i)<=10*20:=Nat.mul_le_mul (by omega) (by omega);rw[c0z,b5J];have h3:=List.length_filter_le pw ((List.range b).map λb=>(l+a,b));rw[b5x,b5V] at h3;omega
   refine⟨_,rfl,r,C,dx,_,_,rfl,s3 _ _ ho,rc.c,rc.nh,rfl,_,rfl,X.th,_,_,_,rfl,rfl,SqL.of pa3.hd.o,a0R hla,_,rfl,X.bh (l+a),_,_,_,rfl,rfl,SqL.of (pa3.hd.b (l+a) hla),a0R i1,_,rfl,X.ch (l+a) i,_,_,_,rfl,rfl,SqL.of (pa3.hd.c (l+a) i hla i1),a0R hb1,?_⟩;refine⟨_,rfl,r,C,dx,_,_,rfl,s3 _ _ ho,rc.c,rc.nt,rfl,_,rfl,_,_,rfl,rfl,X.tt,_,_,_,rfl,rfl,SqL.of pa3.tl.o,a0R (k:=l+a+1) (by omega),_,rfl,X.bt (l+a+1),_,_,_,rfl,rfl,SqL.of (pa3.tl.b (l+a+1) (by omega)),a0R hb1,_,rfl,X.ct (l+a+1) (i+b+1),_,_,_,rfl,rfl,SqL.of (pa3.tl.c (l+a+1) (i+b+1) (by omega) hb1),a0R j1,?_⟩;refine⟨_,_,rfl,_,rfl,scal_O _ _,_,rfl,?_⟩;have ef:(((List.range a).flatMap λa=>(List.range (j-i)).map λb=>(l+a,b))++(List.range (b+1)).map λb=>(l+a,b)).filter pw=(((List.range a).flatMap λa=>(List.range (j-i)).map λb=>(l+a,b))++(List.range b).map λb=>(l+a,b)).filter pw++(if pw (l+a,b)=true then [(l+a,b)] else []):=by
    rw[b7b,b5H,<-b7w,c0z];congr 1;show[(l+a,b)].filter pw=_;rw[List.filter_cons];rfl
   refine a3D (λy=>?_) (λy=>?_)
   ·have y1:pw (l+a,b)=true:=b6b (oV_inj (b5X y));refine⟨_,rfl,.inl ⟨rfl,_,SqL.of g3⟩,_,rfl,_,rfl,(by show 2<=sizeLine;decide),λtt htt=>?_⟩;have s4:=a0c htt (.tup [.int ((l+a:Nat):Int),.int ((i+b+1:Nat):Int)]);have g4:=s4 _ _ g3;have ht4:upd H3 tt (.tup [.int ((l+a:Nat):Int),.int ((i+b+1:Nat):Int)]) tt=some (.tup [.int ((l+a:Nat):Int),.int ((i+b+1:Nat):Int)]):=a0b;generalize upd H3 tt (.tup [.int ((l+a:Nat):Int),.int ((i+b+1:Nat):Int)])=H4 at s4 g4 ht4 ⊢;refine⟨d,_,_,rfl,rfl,g4,a0j (by omega),a0n hd (s3.trans s4),⟨_,a0b,?_⟩,_,rfl⟩;rw[ef,if_pos y1];exact L2.Paired.appendP (Paired.mapP w3 λ_ _ r=>(r.same s4).upd g4) (.cons (Way.upd g4 ⟨tt,rfl,ht4⟩) .nil)
   ·have y1:¬pw (l+a,b)=true:=λz=>y (b6b (b7m oV (b5X z)));exact⟨s3,⟨xs,g3,by rw[ef,if_neg y1,b6B];exact w3⟩,_,rfl⟩
  ·obtain⟨s3,⟨xs,g3,w3⟩,x7,rfl⟩:=hP;refine⟨s3,⟨xs,g3,?_⟩,_,_,rfl⟩;rw[b7b,b9i];simpa using w3
 ·obtain⟨s2,⟨xs2,g2,w2⟩,x6,x7,rfl⟩:=hP;exact⟨_,rfl,q d xs2 H2 s2 g2 w2⟩
namespace CT
section
variable {L n:Nat} {h t:Nat->Nat->Nat->OI} {F:Nat->Nat->OI} {p:Nat->Int} {W:Nat->Nat->Int}
theorem only (T:Tb L n h t F p W) {i w:Nat} (hw:i+w<=n) (h2:2<=w):∀q∈Bk L 0 w,vl h t i (i+w) q=t 0 i (i+w)->q.2<w-1:=by
 intro q hq ev;by_cases z:q.2<w-1
 ·exact z
 exfalso;obtain⟨_,q2,q3⟩:=a2a.mp hq;have e3:i+q.2+1=i+w:=by omega
 have es:vl h t i (i+w) q=oadd (oadd (some (p q.1*W i (i+w))) (F i (i+w))) (some 0):=by
  unfold vl;rw[e3,T.hh q.1 i (i+w) q2 (by omega) hw,T.dg (q.1+1) (i+w) (by omega) hw]
 have et:=T.tt 0 i (i+w) (b6e _) (by omega) hw;rw[show i+w-i=w by omega] at et;have eF:F i (i+w)=lo ((Bk L 0 (w-1)).map (vl h t i (i+w))):=by
  rw[T.ff i (i+w) (by omega) hw,if_neg (by omega),show i+w-1-i=w-1 by omega]
 cases f:F i (i+w) with
 | none=>exact T.fn i (i+w) (by omega) hw f
 | some x =>
  have hx:=(a1F.mp (eF.symm.trans f)).1;obtain⟨r,hr,er⟩:=b5K.mp hx;obtain⟨a,b,c⟩:=a2a.mp hr;obtain⟨m,em,hm⟩:=a8C (b5K.mpr ⟨r,a2a.mpr ⟨a,b,(by omega:r.2<w)⟩,er⟩:some x∈(Bk L 0 w).map (vl h t i (i+w)));rw[<-et] at em;rw[es,f,em] at ev;have ev:some (p q.1*W i (i+w)+x+0)=some m:=ev;have:=b5U ev;have pos:=T.pw q.1 i (i+w) q2 (by omega) hw;omega
end
end CT
theorem a4P {L l i j:Nat} {h t:Nat->Nat->Nat->OI}:q∈wys L h t l i j↔q∈CT.Bk L l (j-i)/\CT.vl h t i j q=t l i j:=by
 unfold wys;rw[b9n,b6K]
section
variable {L n:Nat} {h t:Nat->Nat->Nat->OI} {F:Nat->Nat->OI} {p:Nat->Int} {W:Nat->Nat->Int}
theorem wys_lt (T:CT.Tb L n h t F p W) {l i j:Nat} (hl:l<L) (hij:i<j) (hj:j<=n) (hq:q∈wys L h t l i j):l<=q.1/\q.1<L/\q.2+1<=j-i/\(q.2+1<j-i->q.1+1<L):=by
 obtain⟨h1,h2⟩:=a4P.mp hq;obtain⟨a,b,c⟩:=CT.a2a.mp h1;refine⟨a,b,by omega,λhlt=>?_⟩;by_cases e:q.1+1<L
 ·exact e
 ·exfalso;have eL:q.1+1=L:=by omega
  have en:t (q.1+1) (i+q.2+1) j=none:=by
   rw[T.tt (q.1+1) (i+q.2+1) j (by omega) (by omega) hj,eL];unfold CT.Bk;rw[b9P];exact b3v
  refine T.tn l i j hl hij hj ?_;rw[<-h2];unfold CT.vl;rw[en];cases h q.1 i (i+q.2+1)<;>rfl
theorem wys_ne (T:CT.Tb L n h t F p W) {l i j:Nat} (hl:l<L) (hij:i<j) (hj:j<=n):∃q r,wys L h t l i j=q::r:=by
 cases e:t l i j with
 | none=>exact absurd e (T.tn l i j hl hij hj)
 | some x =>
  have et:=T.tt l i j (by omega) hij hj;have hx:=(a1F.mp (et.symm.trans e)).1;obtain⟨q,hq,ev⟩:=b5K.mp hx;have hm:q∈wys L h t l i j:=a4P.mpr ⟨hq,by rw[ev,e]⟩;cases eq:wys L h t l i j with
  | nil=>rw[eq] at hm;cases hm
  | cons q r=>exact⟨q,r,rfl⟩
end
def a0X (T:Addr) (H H':Hp):Prop:=∀a o,a≠T->H a=some o->H' a=some o
theorem a0X.trans (a:a0X T H H1) (b:a0X T H1 H2):a0X T H H2:=λx o n e=>b x o n (a x o n e)
theorem a0X.of (s:a0m H H'):a0X T H H':=λa o _ e=>s a o e
theorem PAt.sameT {h t:Nat->Nat->Nat->OI} (a:PAt C H r p ps ws X h t) (hT:H T=some (.tbl qs)) (k:a0X T H H'):PAt C H' r p ps ws X h t:=by
 obtain⟨dx,ho⟩:=a.ob;refine⟨⟨dx,k _ _ (a0r ho hT (by intro z;cases z)) ho⟩,k _ _ (a0r a.hp hT (by intro z;cases z)) a.hp,k _ _ (a0r a.su hT (by intro z;cases z)) a.su,⟨k _ _ (a0r a.hd.o hT (by intro z;cases z)) a.hd.o,λl hl=>k _ _ (a0r (a.hd.b l hl) hT (by intro z;cases z)) (a.hd.b l hl),λl i hl hi=>k _ _ (a0r (a.hd.c l i hl hi) hT (by intro z;cases z)) (a.hd.c l i hl hi)⟩,⟨k _ _ (a0r a.tl.o hT (by intro z;cases z)) a.tl.o,λl hl=>k _ _ (a0r (a.tl.b l hl) hT (by intro z;cases z)) (a.tl.b l hl),λl i hl hi=>k _ _ (a0r (a.tl.c l i hl hi) hT (by intro z;cases z)) (a.tl.c l i hl hi)⟩,a.ih,a.it,a.ix,a.ns⟩
def lamE:Expr:=match a0H sKw with
 | [_,.Return (some (.Call _ [_,_,_,e] _ _)) _]=>e
 | _=>.Constant .none 0 ⟨0,0,0,0⟩
def lamP:Arguments:=match lamE with | .Lambda p _ _ _=>p|_=>a0N sKw
def lamB:Expr:=match lamE with | .Lambda _ b _ _=>b|e=>e
def lamS:Scope:=match lamE with | .Lambda _ _ s _=>s|_=>a0d sKw
def a5R:Pos:=match lamE with | .Lambda _ _ _ p=>p|_=>⟨0,0,0,0⟩
abbrev b1h:Str:=(("kept_words":Str)++".<locals>.")++"<lambda>"
abbrev lamK (c:Addr) (c':Addr) (pm ctv:Value):Obj:=PySem.W.kla_obj "<lambda>" b1h lamP lamB lamS [("parted",c)] pm c' ctv
example:lamE=.Lambda lamP lamB lamS a5R:=rfl
theorem scLam (c:Addr):a1W lamS ["start","stop"] [("parted",c)]:=⟨rfl,rfl,rfl,(by show(["start","stop","parted"]:List Str).Nodup;decide +kernel),by decide +kernel,by decide +kernel,(by show ∀y∈lamS.names,y.2=.free->y.1∈(["parted"]:List Str);decide +kernel),(by show ∀x∈(["parted"]:List Str),lamS.names.lookup x=some .free;decide +kernel)⟩
end K77K
namespace K77K
open PySem L2
variable {P:Program} {w:World} {K:PySem.W.Frag} {mg:Str->Option Value} {base:Heap} {f:Addr} {fd:FuncData}
structure Cok (i j:Nat) (c:CT.Code):Prop where
 ln:c.length=j-i
 wd:∀u∈c,u.length<=j-i-1
def b5n (T:Addr) (H H':Hp):Prop:=a1C H' T a5R b1h/\∀c',H T=some (.tbl (a1B a5R c'))->H' T=some (.tbl (a1B a5R c'))
abbrev NKw:List Str:=["parted","first","end"]
abbrev PPw:List Str:=["parted","first","end","words_of"]
abbrev NPw:List Str:=["parted","first","end","words_of","words","letter","start","way"]
def spKw (C T:Addr) (d:Nat):Sp:=λvs H Q _=>∃(r p:Addr) (ps ws:List Int) (X:Ad) (h t:Nat->Nat->Nat->OI) (F:Nat->Nat->OI) (i j:Nat),vs=[.ref r,.int (i:Int),.int (j:Int)]/\PAt C H r p ps ws X h t/\CT.Tb ps.length ws.length h t F (pl ps) (Wt ws)/\2<=ps.length/\ps.length<=10/\ws.length<=20/\i<j/\j<=ws.length/\j-i<=d/\a1C H T a5R b1h /\
 ∀(a:Addr) xs cde H',a0X T H H'->b5n T H H'->H' a=some (.lst xs)->Ws H' xs cde->Cok i j cde->Q (.ref a) H'
def lamR (C T:Addr) (d:Nat):Addr->List V->Hp->VK->Prop:=λg vs H Q=>∃(c c':Addr) (pm ctv:Value) (oc:Obj) (u:Value) (r:Addr),H g=some (exA g (lamK c c' pm ctv))/\H c'=some (cdA c' b1h)/\H c=some (exA c oc)/\oc.data=.cell (some u)/\a0Q (.ref r) u/\vs.length=2 /\
 spKw C T d (.ref r::vs) (unt [c] H) (λv H'=>H' c=none->Q v (rtk [c] H H')) E0
theorem lam_ok {d k:Nat} (OK:a0Y P w K mg base CX0 k f fd NKw (spKw C T d)) (mk:mg "kept_words"=some (.ref f)) (kk:PySem.W.keepIn K (.ref f)=true) (bk:a1N K fd NKw []):a3F P w K mg base (k+1) (lamR C T d) where
 at':=λ⟨c,c',pm,ctv,oc,u,r,e,_⟩=>⟨_,_,_,_,e⟩
 run:=λA outer s H g us vs Q hr e0 r' h=>by
  obtain⟨c,c',pm,ctv,oc,u,r,eg,ec',ec,ed,rv,lv,hsp⟩:=h;have lu:us.length=2:=by rw[<-r'.length];exact lv
  refine a2p (k:=k) (cvs:=[.ref r]) (scLam c) hr e0 eg ec' (by simp) (λi x c0 hi=>?_) rfl r' lv ?_ λxe hr'=>⟨_,a9b OK hr' (by rfl) mk kk bk .nil a2Z (a0a (pv 2) (a0a (pv 0) (a0a (pv 1) a0f))),?_⟩
  ·cases i with
   | zero =>
    have hi:(("parted":Str),c)=(x,c0):=b5U hi;cases hi;exact⟨oc,u,.ref r,ec,ed,rfl,rv⟩
   | succ i=>simp at hi
  ·match us,lu with
   | [u1,u2],_=>rfl
  ·match vs,lv,hsp with
   | [v1,v2],_,hsp =>
    refine⟨_,rfl,_,rfl,_,rfl,?_⟩;obtain⟨r0,p,ps,ws,X,h,t,F,i,j,e,pa,T',p2,p10,w20,hij,hj,hd,tab,q⟩:=hsp;refine⟨r0,p,ps,ws,X,h,t,F,i,j,e,pa,T',p2,p10,w20,hij,hj,hd,tab,λa xs cde H' s' tb' g' w' k' hn=>?_⟩;exact q a xs cde H' s' tb' g' w' k' (hn c (by simp))
theorem a0X.upd (hd:H d=none) (s:a0X T H H'):a0X T H (L2.upd H' d o):=λa u n e=>by
 rw[a0h (λz=>by rw[z,hd] at e;cases e)];exact s a u n e
theorem a0X.rtk (s:a0X T (unt [c] H) H'):a0X T H (L2.rtk [c] H H'):=λa o n e=>by
 by_cases z:a∈[c]
 ·rw[a9A z];exact e
 ·rw[a1m z];exact s a o n (by rw[a0p z];exact e)
theorem b2H (n:H' c=none):a0m H' (L2.rtk [c] H H'):=λa o e=>by
 rw[a1m (λz=>by rw[b5C.mp z,n] at e;cases e)];exact e
theorem PAt.unt {h t:Nat->Nat->Nat->OI} (a:PAt C H r p ps ws X h t) (hc:H c=some (exA c oc)):PAt C (L2.unt [c] H) r p ps ws X h t:=by
 obtain⟨dx,ho⟩:=a.ob;have u:∀{b:Addr} {o:HO},H b=some o->o≠exA c oc->L2.unt [c] H b=some o:=λ{b o} e n=>by
  rw[a0p (λz=>by rw[b5C.mp z,hc] at e;exact n (b5U e).symm)];exact e
 refine⟨⟨dx,u ho (by intro z;cases z)⟩,u a.hp (by intro z;cases z),u a.su (by intro z;cases z),⟨u a.hd.o (by intro z;cases z),λl hl=>u (a.hd.b l hl) (by intro z;cases z),λl i hl hi=>u (a.hd.c l i hl hi) (by intro z;cases z)⟩,⟨u a.tl.o (by intro z;cases z),λl hl=>u (a.tl.b l hl) (by intro z;cases z),λl i hl hi=>u (a.tl.c l i hl hi) (by intro z;cases z)⟩,a.ih,a.it,a.ix,a.ns⟩
structure Clo (H:Hp) (g c c' r:Addr):Prop where
 ex:∃(pm ctv:Value) (oc:Obj) (u:Value),H g=some (exA g (lamK c c' pm ctv))/\H c'=some (cdA c' b1h)/\H c=some (exA c oc)/\oc.data=.cell (some u)/\a0Q (.ref r) u
 ne:c'≠c
theorem Clo.same (a:Clo H g c c' r) (hT:H T=some (.tbl qs)) (s:a0X T H H'):Clo H' g c c' r:=by
 obtain⟨pm,ctv,oc,u,e1,e2,e3,e4,e5⟩:=a.ex;exact⟨⟨pm,ctv,oc,u,s _ _ (a0r e1 hT (by intro z;cases z)) e1,s _ _ (a0r e2 hT (by intro z;cases z)) e2,s _ _ (a0r e3 hT (by intro z;cases z)) e3,e4,e5⟩,a.ne⟩
theorem a1C.unt (x:a1C H T lpos q) (hc:H c=some (exA c oc)) (hn:∀c',H T=some (.tbl (a1B lpos c'))->c'≠c):a1C (L2.unt [c] H) T lpos q:=by
 obtain⟨ps,e0⟩:=K77.a3U x;have nT:T∉[c]:=λz=>(a0r e0 hc (by intro z;cases z)) (b5C.mp z)
 rcases x with e|⟨c',e,ec⟩
 ·exact .inl (by rw[a0p nT];exact e)
 ·exact .inr ⟨c',by rw[a0p nT];exact e,by rw[a0p (λz=>hn c' e (b5C.mp z))];exact ec⟩
def spPw (C T:Addr) (d:Nat):Sp:=λvs H Q _=>∃(r p g c c':Addr) (ps ws:List Int) (X:Ad) (h t:Nat->Nat->Nat->OI) (F:Nat->Nat->OI) (i j:Nat),vs=[.ref r,.int (i:Int),.int (j:Int),.ref g]/\PAt C H r p ps ws X h t/\CT.Tb ps.length ws.length h t F (pl ps) (Wt ws)/\2<=ps.length/\ps.length<=10/\ws.length<=20/\i+2<=j/\j<=ws.length/\j-i<=d+1/\H T=some (.tbl (a1B a5R c'))/\Clo H g c c' r /\
 ∀(a:Addr) xs cde H',a0X T H H'->H' T=some (.tbl (a1B a5R c'))->H' a=some (.lst xs)->Ws H' xs cde->cde.length=j-i->(∀u∈cde,u.length<=j-i-1)->Q (.ref a) H'
theorem b5o:a0l NPw PPw (a0d sPw):=fsk
theorem ndPw:(("word":Str)::NPw).Nodup:=by decide +kernel
theorem ok_pw {d k:Nat} (hk:3<=k) (F:Fun K "parted_words" "parted_words" sPw f fd) (LO:a3F P w K mg base k (lamR C T d)) (MW':Mt P w K mg base C "ways" ["self","letter","first","end"] (b0X C) 3) (rcP:PC K C):a0Y P w K mg base CX0 (k+1) f fd PPw (spPw C T d):=by
 refine F.ok (k:=k) b5o (λvs H Q E h=>?_) (λcdv A outer s H vs Q E hr h=>?_)
 ·obtain⟨r,p,g,c,c',ps,ws,X,h,t,Fl,i,j,rfl,_⟩:=h;rfl
 obtain⟨r,p,g,c,c',ps,ws,X,h,t,Fl,i,j,rfl,pa,T',p2,p10,w20,hij,hj,hd,tab,clo,q⟩:=h;have MW:=MW'.up hk;refine⟨_,a0e (psA (i:=4) b5o (a1n a0f))
  (a0e (psA (i:=5) b5o a0g)
  (a0e (psA (i:=6) b5o (pv 1))
  (a0e (a4a b6Q (a0D a8U (pv 6) (pv 2) (nomark _))
   (a0e (psA (i:=7) b5o (pxA a0u (a2e (pv 0) rcP.c MW.m MW.ok hr MW.b .nil a2Z (a0a (pv 5) (a0a (pv 6) (a0a (pv 2) a0f)))) a0g))
   (a0e (a1h (a4h b6I PySem.F.slot_list_extend PySem.F.type_list_extend a5f (pv 4) (a0a (a1A (M:=NPw) rfl (cso (a0d sPw) NPw) ndPw rfl (a2l (b1K (i:=3) LO hr rfl (Or.inl rfl) (a0a (pv 6) (a0a (pxA a1I (pv 7) a0g) a0f)))) a2m
    (λcl C s0 H0 fp=>⟨a0I,a0o a3b (a0Z (a0a (pxA (ixT K) (pv 8) a0g) a0f)) (pv 0)⟩)) a0f)))
   (a0e (psA (i:=5) b5o (a0o a0C (pxA a1I (pv 7) a0g) a0g))
   (a0i (psA (i:=6) b5o (pxA a1I (pv 7) a0g))))))
  )
  (a0i (a0q (pv 4)))))),?_⟩
 refine⟨(by show 0<=sizeLine;decide),λd1 hd1=>?_⟩;have s1:a0m H (upd H d1 (.lst [])):=a0c hd1 _;have g1:upd H d1 (.lst []) d1=some (.lst []):=a0b;generalize upd H d1 (.lst [])=H1 at s1 g1 ⊢;refine⟨_,rfl,?_⟩;refine⟨λm σ H'=>a0X T H H'/\H' T=some (.tbl (a1B a5R c'))/\∃(l a:Nat) (acc:CT.Code) (xs:List V) (x7:Option V),m=j-a/\i<=a/\a<=j/\(a<j->l<ps.length)/\(a=i->l=0)/\acc.length=a-i/\(∀u∈acc,u.length<=j-i-1)/\H' d1=some (.lst xs)/\Ws H' xs acc/\σ=[some (.ref r),some (.int (i:Int)),some (.int (j:Int)),some (.ref g),some (.ref d1),some (.int (l:Int)),some (.int (a:Int)),x7],
  ⟨_,a0X.of s1,s1 _ _ tab,0,i,[],[],_,rfl,b5G _,by omega,λ_=>by omega,λ_=>rfl,by simp,λu hu=>(by cases hu),g1,.nil,rfl⟩,?_⟩
 rintro m σ H2 ⟨s2,tab2,l,a,acc,xs,x7,rfl,hia,haj,hl,hl0,lac,wac,g2,w2,rfl⟩;refine⟨_,rfl,_,rfl,_,_,rfl,rfl,_,rfl,?_⟩;refine a3D (λz=>?_) (λz=>?_)
 rotate_left
 ·have z1:a=j:=by
   have:¬(a:Int)<(j:Int):=λy=>z (b6b y);omega
  subst z1;exact⟨_,rfl,q d1 xs acc H2 s2 tab2 g2 w2 lac wac⟩
 have z1:a<j:=by
  have:(a:Int)<(j:Int):=b5X z;omega
 have hl':=hl z1;have pa2:=pa.sameT tab s2;have clo2:=clo.same tab s2;obtain⟨dp,hop⟩:=pa2.ob;obtain⟨q0,qr,eqs⟩:=wys_ne T' hl' z1 hj;have hq0:q0∈wys ps.length h t l a j:=by rw[eqs];exact .head _
 obtain⟨b1,b2,b3,b4⟩:=wys_lt T' hl' z1 hj hq0;have cut:a+q0.2+1-a<=d:=by
  by_cases y:a=i
  ·have l0:=hl0 y;subst y l0;have hm:=a4P.mp hq0;have:=CT.only T' (i:=a) (w:=j-a) (by omega) (by omega) q0 hm.1 (by rw[show a+(j-a)=j by omega];exact hm.2);omega
  ·omega
 refine⟨_,λσ' H' n'=>n',?_⟩;refine⟨_,rfl,r,dp,_,rfl,hop,rfl,_,rfl,_,rfl,_,rfl,r,p,ps,ws,X,h,t,l,a,j,rfl,pa2,w20,p10,hl',z1,hj,λd2 ys H3 s3 g3 w3=>?_⟩;rw[eqs] at w3;cases w3 with
 | cons rw0 wr =>
 obtain⟨wt,rfl,hwt⟩:=rw0;refine⟨d2,_,_,_,rfl,rfl,SqL.of g3,(show atI (V.ref wt::_) 0=some (V.ref wt) from b2Y (i:=0) rfl),?_⟩;have g23:=s3 _ _ g2;have tab3:=s3 _ _ tab2;have clo3:=clo2.same tab2 (a0X.of s3);obtain⟨pm,ctv,oc,u,e1,e2,e3,e4,e5⟩:=clo3.ex;have pa3:=pa2.same s3;have s03:a0X T H H3:=s2.trans (a0X.of s3);refine⟨_,rfl,.inl ⟨rfl,_,SqL.of g23⟩,?_⟩;refine⟨λv H'=>∃al ws' cde,v=.ref al/\a0X T H3 H'/\H' T=some (.tbl (a1B a5R c'))/\H' al=some (.lst ws')/\Ws H' ws' cde/\Cok a (a+q0.2+1) cde,?_,λv H4 hv=>?_⟩
 ·refine⟨g,_,_,_,_,rfl,e1,_,rfl,_,rfl,wt,_,_,_,rfl,rfl,SqT.of hwt,rfl,?_⟩;refine⟨c,c',pm,ctv,oc,u,r,e1,e2,e3,e4,e5,rfl,?_⟩;have tu:a1C (unt [c] H3) T a5R b1h:=a1C.unt (.inr ⟨c',tab3,e2⟩) e3 λc2 e=>by
   rw[tab3] at e;have:c'=c2:=by
    have h1:=HO.tbl.inj (b5U e);have h2:=b7m (λz:Array Value=>z[2]?) h1;have h3:some (Value.ref c')=some (Value.ref c2):=h2;cases h3;rfl
   rw[<-this];exact clo3.ne
  refine⟨r,p,ps,ws,X,h,t,Fl,a,a+q0.2+1,rfl,pa3.unt e3,T',p2,p10,w20,by omega,by omega,cut,tu,λal ws' cde H' s' tb' g' w' k' hn=>?_⟩;have sk:=b2H (H:=H3) hn;have nT:T∉[c]:=λz=>(a0r tab3 e3 (by intro z;cases z)) (b5C.mp z)
  exact⟨al,ws',cde,rfl,s'.rtk,sk _ _ (tb'.2 c' (by rw[a0p nT];exact tab3)),sk _ _ g',Ws.same sk w',k'⟩
 obtain⟨al,ws',cde,rfl,s4,tab4,g4,w4,k4⟩:=hv;have neT:∀{b:Addr} {o:HO},H3 b=some o->(∀qs,o≠.tbl qs)->H4 b=some o:=λ{b o} e n=>s4 _ _ (a0r e tab3 (n _)) e;have g24:H4 d1=some (.lst xs):=neT g23 λqs=>by intro z;cases z
 have hwt4:H4 wt=some (.tup [.int (q0.1:Int),.int ((a+q0.2+1:Nat):Int)]):=neT hwt λqs=>by intro z;cases z
 have w24:Ws H4 xs acc:=Paired.mapP (Ws.same s3 w2) λx y hx=>by
  obtain⟨b,zs,rfl,e,pp⟩:=hx;exact⟨b,zs,rfl,neT e (λqs=>by intro z;cases z),pp⟩
 have s04:a0X T H H4:=s03.trans s4;have lw:ws'.length=cde.length:=w4.length;refine⟨al,_,rfl,SqL.of g4,λe3' he3=>?_⟩;refine⟨λkk H'=>a0m H4 H'/\∃zs,H' e3'=some (.lst zs)/\Ws H' zs ((cde.take kk).map λu=>((q0.1:Nat):Int)::u),⟨a0c he3 _,[],a0b,.nil⟩,λkk H' _ hP=>SqL.of (hP.1 _ _ g4),λkk y H' hy hP=>?_,λH5 hP=>?_⟩
 ·obtain⟨s5,zs,g5,w5⟩:=hP;obtain⟨o,ho2,ru⟩:=Paired.right_of w4 kk y hy;obtain⟨ua,rfl,hua⟩:=Wd.ti ru;have kl:=(b5E.mp ho2).1;have lu:=k4.wd o (b5M ho2);refine a0y ⟨_,rfl,wt,_,_,_,rfl,rfl,SqT.of (s5 _ _ hwt4),rfl,(by show 1<=sizeLine;decide),λt1 ht1=>?_⟩;have s6:=a0c ht1 (.tup [.int (q0.1:Int)]);have h6:upd H' t1 (.tup [.int (q0.1:Int)]) t1=some (.tup [.int (q0.1:Int)]):=a0b;generalize upd H' t1 (.tup [.int (q0.1:Int)])=H6 at s6 h6 ⊢;refine⟨_,rfl,t1,ua,_,_,rfl,rfl,h6,s6 _ _ (s5 _ _ hua),small (by rw[b5x,List.length_singleton];omega),λp5 H7 s7 hp5=>?_⟩;refine⟨zs,s7 _ _ (s6 _ _ g5),a0j (by rw[w5.length,b5x,b5R,k4.ln];omega),a0n he3 ((s5.trans s6).trans s7),_,a0b,?_⟩;rw[b6f,ho2,b5H];exact Paired.appendP (Ws.upd (s7 _ _ (s6 _ _ g5)) (Ws.same (s6.trans s7) w5)) (.cons (Wd.upd (s7 _ _ (s6 _ _ g5)) (Wd.of hp5)) .nil)
 obtain⟨s5,zs5,g5,w5⟩:=hP;rw[lw,b6z] at w5;have lz:zs5.length=cde.length:=by rw[w5.length,b5x]
 have lx:xs.length=acc.length:=w2.length;have g25:=s5 _ _ g24;have hwt5:=s5 _ _ hwt4;refine⟨d1,e3',_,_,rfl,rfl,g25,g5,small (by rw[lx,lz,lac,k4.ln];omega),?_⟩;have hwt6:upd H5 d1 (.lst (xs++zs5)) wt=some (.tup [.int (q0.1:Int),.int ((a+q0.2+1:Nat):Int)]):=by rw[a0h (a0r hwt5 g25 (by intro z;cases z))];exact hwt5
 have tab6:upd H5 d1 (.lst (xs++zs5)) T=some (.tbl (a1B a5R c')):=by rw[a0h (a0r (s5 _ _ tab4) g25 (by intro z;cases z))];exact s5 _ _ tab4
 have s06:a0X T H (upd H5 d1 (.lst (xs++zs5))):=(s04.trans (a0X.of s5)).upd hd1;refine⟨_,rfl,wt,_,_,_,rfl,rfl,SqT.of hwt6,rfl,_,_,rfl,rfl,?_⟩;refine⟨_,rfl,wt,_,_,_,rfl,rfl,SqT.of hwt6,rfl,?_⟩;refine⟨_,(by omega:j-(a+q0.2+1)<j-a),s06,tab6,q0.1+1,a+q0.2+1,acc++CT.ahd q0.1 cde,xs++zs5,_,rfl,by omega,by omega,λy=>b4 (by omega),λy=>absurd y (by omega),?_,λu hu=>?_,a0b,?_,rfl⟩
 ·rw[b5J,lac];unfold CT.ahd;rw[b5x,k4.ln];omega
 ·rcases b5W.mp hu with y|y
  ·exact wac u y
  ·unfold CT.ahd at y;obtain⟨v,hv,rfl⟩:=b5K.mp y;have:=k4.wd v hv;rw[b5T];by_cases ya:a=i
   ·have l0:=hl0 ya;subst ya l0;have hm:=a4P.mp hq0;have:=CT.only T' (i:=a) (w:=j-a) (by omega) (by omega) q0 hm.1 (by rw[show a+(j-a)=j by omega];exact hm.2);omega
   ·omega
 ·exact Ws.upd g25 (Paired.appendP (Ws.same s5 w24) w5)
theorem scKw:a0l NKw NKw (a0d sKw):=fsk
theorem ok_kw (FK:Fun K "kept_words" "kept_words" sKw f fd) (hcd:fd.code=.ref c0) (LC:K77.b1f K mg base c0 T bm) (mk:mg "kept_words"=some (.ref f)) (kk:PySem.W.keepIn K (.ref f)=true) (bk:a1N K fd NKw []) (FP:Fun K "parted_words" "parted_words" sPw f2 fd2) (mp:mg "parted_words"=some (.ref f2)) (kp:PySem.W.keepIn K (.ref f2)=true) (bp:a1N K fd2 PPw []) (MW:Mt P w K mg base C "ways" ["self","letter","first","end"] (b0X C) 3) (rcP:PC K C):∀d,a0Y P w K mg base CX0 (3*d+4) f fd NKw (spKw C T d):=by
 intro d
 induction d with
 | zero =>
  refine FK.okC (k:=3) scKw (λvs H Q E h=>?_) (λA outer s H vs Q E hr h=>?_)
  all_goals exfalso
  all_goals (obtain⟨r,p,ps,ws,X,h,t,F,i,j,rfl,_,_,_,_,_,h1,_,h2,_⟩:=h;omega)
 | succ d ih =>
  have LO:=lam_ok ih mk kk bk;have OP:=ok_pw (by omega) FP LO MW rcP;refine FK.okC (k:=3*d+6) scKw (λvs H Q E h=>?_) (λA outer s H vs Q E hr h=>?_)
  ·obtain⟨r,p,ps,ws,X,h,t,F,i,j,rfl,_⟩:=h;rfl
  obtain⟨r,p,ps,ws,X,h,t,F,i,j,rfl,pa,T',p2,p10,w20,hij,hj,hd,tab,q⟩:=h;have hcl:a2h (a4S CX0 P w K mg base NKw "kept_words" (a0d sKw) f fd.code A outer s H E).nox [("parted",s.heap.objs.size+1)]:=⟨λq hq=>by rw[b5C.mp hq];rfl,λq hq=>rfl,λq hq=>by rw[b5C.mp hq];rfl⟩
  have LM:a8l (a4S CX0 P w K mg base NKw "kept_words" (a0d sKw) f fd.code A outer s H E).nox c0 T bm:=⟨hcd,LC.hd,LC.hbm,LC.bo,LC.b1,LC.b2,LC.b3,LC.b4⟩
  refine⟨_,a0e (a1q (a0D a2d (a0o a1M (pv 2) (pv 1)) a0g (nomark _)) (a0i (a0q (a1n (a0a (a0Z a0f) a0f)))) a0K)
   (a0i (a0q (b1L OP hr (by rfl) mp kp bp hcl (a0a (pv 0) (a0a (pv 1) (a0a (pv 2) (a0a (a5u LM (clos:=[("parted",s.heap.objs.size+1)]) rfl) a0f))))))),?_⟩
  refine⟨_,rfl,_,rfl,_,_,rfl,rfl,rfl,_,rfl,?_⟩;refine a3D (λz=>?_) (λz=>?_)
  ·have z1:j=i+1:=by
    have y:V.int ((j:Int)-(i:Int))=V.int 1:=b5X z;have:=V.int.inj y;omega
   subst z1;refine⟨(by show 0<=sizeLine;decide),λt0 ht0=>?_⟩;have s1:=a0c ht0 (.tup []);have h1:upd H t0 (.tup []) t0=some (.tup []):=a0b;generalize upd H t0 (.tup [])=H1 at s1 h1 ⊢;refine⟨(by show 1<=sizeLine;decide),λl1 hl1=>?_⟩;have s2:=a0c hl1 (.lst [.ref t0]);have s12:=s1.trans s2;exact q l1 [.ref t0] [[]] _ (a0X.of s12) ⟨K77.a1X s12 tab,λc' e=>s12 _ _ e⟩ a0b (.cons (Wd.of (w:=[]) (s2 _ _ h1)) .nil) ⟨by simp,λu hu=>by
    have:u=[]:=by simpa using hu
    subst this;simp⟩
  have z1:¬j-i=1:=λy=>z (b6b (by show V.int ((j:Int)-(i:Int))=V.int 1;congr 1;omega));refine⟨_,rfl,_,rfl,_,rfl,tab,λc' pm ctv g H2 L=>?_⟩;intro os hos hnn;have hn:H2 (s.heap.objs.size+1)=none:=hnn _ (by simp);obtain⟨u,hu1,hu2⟩:=hos 0 0 "parted" (s.heap.objs.size+1) (.ref r) rfl rfl rfl;generalize s.heap.objs.size+1=c at hn hu1 L ⊢;have st:a0m H2 (trk' [c] os H2):=λb o e=>by
   rw[a0O (λy=>by rw[b5C.mp y,hn] at e;cases e)];exact e
  have sT:a0X T H H2:=λb o n e=>L.ot b o n e;obtain⟨qs,etb⟩:=K77.a3U tab;have tab2:trk' [c] os H2 T=some (.tbl (a1B a5R c')):=st _ _ L.tb;have ec:trk' [c] os H2 c=some (exA c (os c)):=a5v (by simp);have ecd:=st _ _ L.cd;refine⟨r,p,g,c,c',ps,ws,X,h,t,F,i,j,rfl,(pa.sameT etb sT).same st,T',p2,p10,w20,by omega,hj,by omega,tab2,⟨⟨pm,ctv,os c,u,st _ _ L.ob,ecd,ec,hu1,hu2⟩,λy=>by
   have:=L.cd;rw[y,hn] at this;cases this⟩,λa xs cde H3 s3 tab3 g3 w3 l3 wd3=>?_⟩
  have e3:H3 c=some (exA c (os c)):=s3 _ _ (a0r ec tab2 (by intro y;cases y)) ec;have out:∀{b:Addr} {o:HO},H3 b=some o->b≠c->unt [c] H3 b=some o:=λ{b o} e n=>by
   rw[a0p (λy=>n (b5C.mp y))];exact e
  have nec:∀{b:Addr} {o:HO},H2 b=some o->b≠c:=λ{b o} e y=>by rw[y,hn] at e;cases e
  refine⟨λc2 hc2=>by rw[b5C.mp hc2];exact e3,q a xs cde _ (λb o n e=>?_) ⟨.inr ⟨c',out tab3 (nec L.tb),out (s3 _ _ (a0r ecd tab2 (by intro y;cases y)) ecd) (nec L.cd)⟩,λc2 e=>?_⟩ ?_ ?_ ⟨l3,wd3⟩⟩
  ·have e2:=L.ot b o n e;exact out (s3 _ _ n (st _ _ e2)) (nec e2)
  ·rw[L.sm c2 e];exact out tab3 (nec L.tb)
  ·exact out g3 (a0r g3 e3 (by intro y;cases y))
  ·exact Paired.mapP w3 λx y hx=>by
    obtain⟨b,zs,rfl,e,pp⟩:=hx;exact⟨b,zs,rfl,out e (a0r e e3 (by intro y;cases y)),pp⟩
abbrev NCk:List Str:=["prices","weights","parted","floors","code"]
def spCk (T:Addr):Sp:=λvs H Q _=>∃(p q:Addr) (ps ws:List Int),vs=[.ref p,.ref q]/\TW H p ps/\TW H q ws/\Num ps ws/\Po ps/\Po ws/\a1C H T a5R b1h /\
 ∀(a ca d:Addr) h t F H',a0X T H H'->b5n T H H'->H' a=some (.tup [oV (F 0 ws.length),.ref ca,.ref d])->CT.Tb ps.length ws.length h t F (pl ps) (Wt ws)->Q (.ref a) H'
theorem scCk:a0l NCk ["prices","weights"] (a0d sCk):=fsk
theorem ok_ck {k:Nat} (hk:7<=k) (F:Fun K "cheapest_kept" "cheapest_kept" sCk f fd) (G:Fns P w K mg base ["prices","weights"] "parted_least" (spPl C) 5) (M:Mt P w K mg base C "bounds" ["self"] (a7N C) 5) (GK:Fns P w K mg base NKw "kept_words" (spKw C T 20) k) (rc:PC K C) (ml:mg "len"=none) (mt:mg "tuple"=none):a0Y P w K mg base CX0 (k+1) f fd ["prices","weights"] (spCk T):=by
 refine F.ok (k:=k) scCk (λvs H Q E h=>?_) (λcdv A outer s H vs Q E hr h=>?_)
 ·obtain⟨p,q,ps,ws,rfl,_⟩:=h;rfl
 obtain⟨p,q,ps,ws,rfl,hp,hq,nu,pp,pw,tab,qq⟩:=h;have G:=G.up (show 5<=k by omega);have M:=M.up (show 5<=k by omega);have w1:=nu.w1;refine⟨_,a0e (psA (i:=2) scCk (pcF G hr (a0a (pv 0) (a0a (pv 1) a0f))))
  (a0e (psA (i:=3) scCk (b1q (pv 2) rc.c M.m M.ok hr M.b .nil a2Z))
  (a0e (psA (i:=4) scCk (a1j a0T (by rfl) mt a2y (a0a (pcF GK hr (a0a (pv 2) (a0a a0g (a0a (pln ml (pv 1)) a0f)))) a0f)))
  (a0i (a0q (a0Z (a0a (pxA a0u (pxA a0u (pv 3) a0g) (a5T a2S a0g)) (a0a (pv 4) (a0a (pv 3) a0f)))))))),?_⟩
 refine⟨_,rfl,_,rfl,p,q,ps,ws,rfl,hp,hq,nu,λr X h t Fl H1 s1 pa fn=>?_⟩;have T':=fn.tb nu.p2 pp pw;obtain⟨dx,ho⟩:=pa.ob;refine⟨_,rfl,r,dx,_,rfl,ho,rfl,r,p,ps,ws,X,h,t,rfl,pa,nu.w20,nu.p10,λd ra H2 s2 hd h1 h2 h3 h4 h5=>?_⟩;have fl2:FlO H2 d ra ws.length Fl:=⟨h4,λi hi=>by
  rw[h5 i hi,b6r];refine b7m (λz=>some (HO.lst z)) (b6c λb hb=>?_);have:=b6F.mp hb;show oV (bnd ps.length h t i (i+b+1))=oV (Fl i (i+b+1));rw[fn.bd i (i+b+1) (by omega) (by omega) trivial]⟩
 have s12:=s1.trans s2;have pa2:=pa.same s2;have tab2:=K77.a1X s12 tab;refine⟨_,rfl,_,rfl,q,_,rfl,.inr (SqT.of (s12 _ _ hq)),?_⟩;rw[b5x];refine⟨r,p,ps,ws,X,h,t,Fl,0,ws.length,rfl,pa2,T',nu.p2,nu.p10,nu.w20,by omega,b5G _,by have:=nu.w20;omega,tab2,λal xs cde H3 s3 tb3 g3 w3 k3=>?_⟩;refine⟨al,_,rfl,.inl ⟨SqL.of g3,λca hca=>?_⟩⟩;have s4:=a0c hca (.tup xs);have g4:upd H3 ca (.tup xs) ca=some (.tup xs):=a0b;generalize upd H3 ca (.tup xs)=H4 at s4 g4 ⊢;obtain⟨qs,etb⟩:=K77.a3U tab2;have k34:∀{b:Addr} {zs:List V},H2 b=some (.lst zs)->H4 b=some (.lst zs):=λ{b zs} e=>s4 _ _ (s3 _ _ (a0r e etb (by intro z;cases z)) e);have fl4:FlO H4 d ra ws.length Fl:=⟨k34 fl2.o,λi hi=>k34 (fl2.r i hi)⟩
 have e0:atI ((rowO Fl ws.length 0).map oV) (-1)=some (oV (Fl 0 ws.length)):=by
  have hr0:rowO Fl ws.length 0=(List.range (ws.length-1)).map (λb=>Fl 0 (0+b+1))++[Fl 0 ws.length]:=by
   show(List.range (ws.length-0)).map _=_;rw[show ws.length-0=(ws.length-1)+1 by omega,b7b,b5H];show _++[Fl 0 (0+(ws.length-1)+1)]=_;rw[show 0+(ws.length-1)+1=ws.length by omega]
  rw[hr0,b5H];exact a6S _ _
 refine⟨_,rfl,d,_,_,_,rfl,rfl,SqL.of fl4.o,a0R (k:=0) (by omega),_,rfl,ra 0,_,_,_,rfl,rfl,SqL.of (fl4.r 0 (by omega)),e0,_,rfl,_,rfl,(by show 3<=sizeLine;decide),λa ha=>?_⟩;have s5:=a0c ha (.tup [oV (Fl 0 ws.length),.ref ca,.ref d]);have s45:=s4.trans s5;refine qq a ca d h t Fl _ ?_ ?_ a0b T'
 ·exact((a0X.of s12).trans s3).trans (a0X.of s45)
 ·exact⟨K77.a1X s45 tb3.1,λc' e=>s45 _ _ (tb3.2 c' (s12 _ _ e))⟩
namespace CT
def Af (u v:List Int):Prop:=HT.a0x u v=true/\v.take u.length≠u
def KP (c:Code):Prop:=c.Pairwise Af
def InL (L:Nat) (c:Code):Prop:=∀u∈c,∀x∈u,(0:Int)<=x/\x<(L:Int)
def sz (c:Code):Nat:=(c.map λu=>u.length+1).sum
def Fr (l:Nat) (c:Code):Prop:=∀u∈c,∃x w,u=x::w/\(l:Int)<=x
theorem b0Y {x:Int}:Af (x::u) (x::v)↔Af u v:=by
 unfold Af;rw[HT.a0L,if_pos rfl,b5T,b9h];constructor
 ·rintro⟨a,b⟩;exact⟨a,λz=>b (by rw[z])⟩
 ·rintro⟨a,b⟩;exact⟨a,λz=>by injection z with _ z;exact b z⟩
theorem af_lt {x y:Int} (h:x<y):Af (x::u) (y::v):=by
 unfold Af;rw[HT.a0L,if_neg (by omega),b5T,b9h];exact⟨b6b h,λz=>by injection z with z _;omega⟩
theorem af_le {x y:Int} (h:Af (x::u) (y::v)):x<=y:=by
 have h:=h.1;rw[HT.a0L] at h;split at h
 ·omega
 ·have:=b5X h;omega
theorem b3y:KP (ahd l c)↔KP c:=by
 unfold KP ahd;rw[b6k];constructor
 ·intro h;exact h.imp λz=>b0Y.mp z
 ·intro h;exact h.imp λz=>b0Y.mpr z
theorem sz_app (a b:Code):sz (a++b)=sz a+sz b:=by unfold sz;rw[b5H,b7R]
theorem b3z:∀c:Code,sz (ahd l c)=sz c+c.length
 | []=>rfl
 | u::c=>by
  have:=b3z (l:=l) c;unfold sz ahd at *
  rw[b6m,b6m,b6t,b6m,b6t,this,b5T,b5T];omega
theorem a5P:∀(r:Code) (x:Int),KP r->(∀u∈r,∃y w,u=y::w/\x<=y)->∃c r2:Code,r=c.map (λw=>x::w)++r2/\∀u∈r2,∃y w,u=y::w/\x<y
 | [],x,_,_=>⟨[],[],rfl,λu hu=>by cases hu⟩
 | u::r,x,k,h=>by
  obtain⟨y,w,rfl,hy⟩:=h u (.head _);have kk:=b6E.mp k;by_cases e:x=y
  ·subst e;obtain⟨c,r2,e1,e2⟩:=a5P r x kk.2 λv hv=>h v (.tail _ hv);exact⟨w::c,r2,by rw[e1];rfl,e2⟩
  ·refine⟨[],(y::w)::r,rfl,λv hv=>?_⟩;rcases b5Q.mp hv with rfl|hv
   ·exact⟨y,w,rfl,by omega⟩
   ·obtain⟨z,w',rfl,hz⟩:=h v (.tail _ hv);have:=af_le (kk.1 _ hv);exact⟨z,w',rfl,by omega⟩
theorem split (k:KP r) (i:InL L r) (f:Fr l r) (ne:r≠[]):∃(l1:Nat) (c r2:Code),r=ahd l1 c++r2/\c≠[]/\l<=l1/\l1<L/\KP c/\InL L c/\KP r2/\InL L r2/\Fr (l1+1) r2/\sz c<sz r/\sz r2<sz r:=by
 cases r with
 | nil=>exact absurd rfl ne
 | cons u r =>
  obtain⟨x,w,rfl,hx⟩:=f u (.head _);obtain⟨x0,x1⟩:=i _ (.head _) x (.head _);obtain⟨l1,rfl⟩:∃l1:Nat,x=l1:=⟨x.toNat,by omega⟩
  have kk:=b6E.mp k;obtain⟨c,r2,e1,e2⟩:=a5P r (l1:Int) kk.2 λv hv=>by
   obtain⟨z,w',rfl,hz⟩:=f v (.tail _ hv);exact⟨z,w',rfl,af_le (kk.1 _ hv)⟩
  have e:(((l1:Int)::w)::r:Code)=ahd l1 (w::c)++r2:=by rw[e1];rfl
  rw[e] at k i ⊢;have k':=b7x.mp k;have s:=sz_app (ahd l1 (w::c)) r2;have s2:=b3z (l:=l1) (w::c);refine⟨l1,w::c,r2,rfl,by simp,by omega,by omega,b3y.mp k'.1,λu hu y hy=>i ((l1:Int)::u) (b6u _ (b9e hu)) y (.tail _ hy),k'.2.1,λu hu=>i u (b5N _ hu),λv hv=>?_,?_,?_⟩
  ·obtain⟨y,w',rfl,hy⟩:=e2 v hv;exact⟨y,w',rfl,by omega⟩
  ·rw[s,s2,b5T];omega
  ·rw[s,s2,b5T];omega
theorem fr_of (k:KP c) (i:InL L c) (h:2<=c.length):Fr 0 c:=by
 intro u hu;cases u with
 | cons x w =>
  exact⟨x,w,rfl,by have:=(i _ hu x (.head _)).1;omega⟩
 | nil =>
  exfalso;obtain⟨j,hj,e⟩:=b7i.mp hu;have kk:=b7g.mp k;by_cases z:j=0
  ·subst z;have:=(kk 0 1 hj (by omega) (by omega)).2;rw[e] at this;exact this rfl
  ·have:=(kk 0 j (by omega) hj (by omega)).1;rw[e] at this;cases h0:c[0]'(by omega) with
   | nil=>rw[h0] at this;cases this
   | cons x w=>rw[h0] at this;cases this
open K77 (pc)
def co (ps ws:List Int) (i:Nat) (c:Code):Int:=(List.zipWith (λw u=>w*pc ps u) (ws.drop i) c).sum
theorem b0Z {i:Nat}:co ps ws i []=0:=by unfold co;rw[b8d];rfl
theorem a2E (ws:List Int) (i:Nat):(ws.length<=i/\ws.drop i=[])\/∃w,i<ws.length/\ws.drop i=w::ws.drop (i+1)/\(ws.take (i+1)).sum=(ws.take i).sum+w:=by
 by_cases h:i<ws.length
 ·refine .inr ⟨ws[i],h,c0D h,?_⟩;rw[List.take_succ_eq_append_getElem h,b7R];simp
 ·exact .inl ⟨by omega,b8H (by omega)⟩
theorem co_one {i:Nat}:co ps ws i [[]]=0:=by
 unfold co;rcases a2E ws i with ⟨_,e⟩|⟨w,_,e,_⟩
 ·rw[e];rfl
 ·rw[e];show(w*pc ps []::List.zipWith _ _ []).sum=0;rw[b8d];show w*0+0=0;omega
theorem b1a:∀(c:Code) (i:Nat),co ps ws i (ahd l c++r)=pl ps l*Wt ws i (i+c.length)+co ps ws i c+co ps ws (i+c.length) r
 | [],i=>by
  rw[b0Z];show co ps ws i r=pl ps l*Wt ws i (i+0)+0+co ps ws (i+0) r;unfold Wt;rw[Nat.add_zero,Int.sub_self,Int.mul_zero];omega
 | u::c,i=>by
  have ih:=b1a (ps:=ps) (ws:=ws) (l:=l) (r:=r) c (i+1);rw[show i+1+c.length=i+(u::c).length by rw[b5T];omega] at ih;rcases a2E ws i with ⟨hn,e⟩|⟨w,hn,e,es⟩
  ·have e2:ws.drop (i+(u::c).length)=[]:=b8H (by omega);unfold co;rw[e,e2,b9R,b9R,b9R];unfold Wt;rw[b7j (by omega),b7j (by omega),Int.sub_self,Int.mul_zero];rfl
  ·have e1:co ps ws i (ahd l (u::c)++r)=w*pc ps ((l:Int)::u)+co ps ws (i+1) (ahd l c++r):=by
    unfold co;rw[e];exact b6t
   have e2:co ps ws i (u::c)=w*pc ps u+co ps ws (i+1) c:=by
    unfold co;rw[e];exact b6t
   have e3:pc ps ((l:Int)::u)=pl ps l+pc ps u:=by
    unfold pc;rw[b6m,b6t];rfl
   have e4:Wt ws i (i+(u::c).length)=w+Wt ws (i+1) (i+(u::c).length):=by
    unfold Wt;omega
   rw[e1,e2,e3,e4,ih,c0s,c0s,c1e w (pl ps l)];omega
theorem sz_pos:∀{r:Code},r≠[]->1<=sz r
 | [],h=>absurd rfl h
 | u::r,_=>by unfold sz;rw[b6m,b6t];omega
theorem a4Q:(ahd l c++r).length=c.length+r.length:=by unfold ahd;rw[b5J,b5x]
section
variable {ps ws:List Int} {h t:Nat->Nat->Nat->OI} {F:Nat->Nat->OI}
theorem vl_is (T:Tb ps.length ws.length h t F (pl ps) (Wt ws)) {l1 i j m:Nat} {x y:Int} (hl:l1<ps.length) (hm:1<=m) (hj:i+m<=j) (jn:j<=ws.length) (e1:F i (i+m)=some x) (e2:t (l1+1) (i+m) j=some y):vl h t i j (l1,m-1)=some (pl ps l1*Wt ws i (i+m)+x+y):=by
 show oadd (h l1 i (i+(m-1)+1)) (t (l1+1) (i+(m-1)+1) j)=_;rw[show i+(m-1)+1=i+m by omega,T.hh l1 i (i+m) hl (by omega) (by omega),e1,e2];rfl
theorem low (T:Tb ps.length ws.length h t F (pl ps) (Wt ws)) (n0:∀x∈ws,0<=x) (p0:∀u,0<=K77.pc ps u):∀(d:Nat) (r:Code) (i:Nat),sz r<=d->r≠[]->i+r.length<=ws.length->KP r->InL ps.length r ->
  (∀l,Fr l r->∃x,t l i (i+r.length)=some x/\x<=co ps ws i r)/\∃x,F i (i+r.length)=some x/\x<=co ps ws i r
 | 0,r,i,hd,ne,_,_,_=>by have:=sz_pos ne;omega
 | d+1,r,i,hd,ne,hi,k,il=>by
  have parts:∀l,Fr l r->∃(l1:Nat) (c r2:Code) (x y:Int),r=ahd l1 c++r2/\l<=l1/\l1<ps.length/\1<=c.length/\F i (i+c.length)=some x/\t (l1+1) (i+c.length) (i+r.length)=some y/\pl ps l1*Wt ws i (i+c.length)+x+y<=co ps ws i r/\(r2=[]->x<=co ps ws i r):=λl f=>by
   obtain⟨l1,c,r2,e,cn,h1,h2,kc,ic,k2,i2,f2,s1,s2⟩:=split k il f ne;have ln:r.length=c.length+r2.length:=by rw[e,a4Q]
   have c1:1<=c.length:=b6P.mpr cn;obtain⟨x,ex,hx⟩:=(low T n0 p0 d c i (by omega) cn (by omega) kc ic).2;have ca:co ps ws i r=pl ps l1*Wt ws i (i+c.length)+co ps ws i c+co ps ws (i+c.length) r2:=by rw[e];exact b1a c i
   have pw:=T.pw l1 i (i+c.length) h2 (by omega) (by omega);by_cases z:r2=[]
   ·subst z;rw[b0Z] at ca;rw[b7o] at ln;exact⟨l1,c,[],x,0,e,h1,h2,c1,ex,by rw[show i+r.length=i+c.length by omega];exact T.dg _ _ (by omega) (by omega),by omega,λ_=>by omega⟩
   ·obtain⟨y,ey,hy⟩:=(low T n0 p0 d r2 (i+c.length) (by omega) z (by omega) k2 i2).1 (l1+1) f2;exact⟨l1,c,r2,x,y,e,h1,h2,c1,ex,by rw[show i+r.length=i+c.length+r2.length by omega];exact ey,by omega,λy=>absurd y z⟩
  have r1:1<=r.length:=b6P.mpr ne;refine⟨λl f=>?_,?_⟩
  ·obtain⟨l1,c,r2,x,y,e,h1,h2,c1,ex,ey,hc,_⟩:=parts l f;have ln:r.length=c.length+r2.length:=by rw[e,a4Q]
   rw[T.tt l i (i+r.length) (by omega) (by omega) hi];obtain⟨m,em,hm⟩:=a8C (b5K.mpr ⟨(l1,c.length-1),a2a.mpr ⟨h1,h2,(by show c.length-1<_;omega)⟩,vl_is T h2 c1 (by omega) hi ex ey⟩:_∈(Bk ps.length l (i+r.length-i)).map (vl h t i (i+r.length)));exact⟨m,em,b8r hm hc⟩
  ·rw[T.ff i (i+r.length) (by omega) hi];split
   ·refine⟨0,rfl,?_⟩;obtain⟨u,rfl⟩:=List.length_eq_one_iff.mp (show r.length=1 by omega);rcases a2E ws i with ⟨_,e⟩|⟨w,hn,e,_⟩
    ·unfold co;rw[e];exact b8l _
    ·unfold co;rw[e];show 0<=w*K77.pc ps u+(List.zipWith _ _ []).sum;rw[b8d,List.sum_nil,c0y];exact Int.mul_nonneg (n0 w (c0a (by rw[e];exact .head _))) (p0 u)
   ·obtain⟨l1,c,r2,x,y,e,h1,h2,c1,ex,ey,hc,hz⟩:=parts 0 (fr_of k il (by omega));have ln:r.length=c.length+r2.length:=by rw[e,a4Q]
    by_cases z:r2=[]
    ·have e0:=T.ff i (i+r.length) (by omega) hi;rw[if_neg (by omega)] at e0;rw[<-e0,show i+r.length=i+c.length by rw[ln,z,b7o];omega];exact⟨x,ex,hz z⟩
    ·have:=b6P.mpr z;obtain⟨m,em,hm⟩:=a8C (b5K.mpr ⟨(l1,c.length-1),a2a.mpr ⟨h1,h2,(by show c.length-1<_;omega)⟩,vl_is T h2 c1 (by omega) hi ex ey⟩:_∈(Bk ps.length 0 (i+r.length-1-i)).map (vl h t i (i+r.length)));exact⟨m,em,b8r hm hc⟩
def G (L m:Nat) (c:Code):Prop:=c.length=m/\InL L c/\KP c
theorem att (T:Tb ps.length ws.length h t F (pl ps) (Wt ws)):∀d i j,j-i<=d->i<j->j<=ws.length->(∃c,G ps.length (j-i) c/\F i j=some (co ps ws i c))/\∀l,l<ps.length->∃r,G ps.length (j-i) r/\Fr l r/\t l i j=some (co ps ws i r)
 | 0,i,j,hd,hij,_=>by omega
 | d+1,i,j,hd,hij,hj=>by
  have step:∀l (q:Nat × Nat) x,vl h t i j q=some x->l<=q.1->q.1<ps.length->i+q.2+1<=j->(∃c,G ps.length (q.2+1) c/\F i (i+q.2+1)=some (co ps ws i c))->∃r,G ps.length (j-i) r/\Fr l r/\x=co ps ws i r:=λl q x ev h1 h2 h3 ⟨c,⟨c1,c2,c3⟩,ec⟩=>by
   unfold vl at ev;rw[T.hh q.1 i (i+q.2+1) h2 (by omega) (by omega),ec] at ev;cases e2:t (q.1+1) (i+q.2+1) j with
   | none=>rw[e2] at ev;cases ev
   | some y =>
    rw[e2] at ev;have ev:pl ps q.1*Wt ws i (i+q.2+1)+co ps ws i c+y=x:=b5U ev;have rest:∃r,G ps.length (j-(i+q.2+1)) r/\Fr (q.1+1) r/\y=co ps ws (i+q.2+1) r:=by
     by_cases z:i+q.2+1=j
     ·refine⟨[],⟨by rw[b7o];omega,λu hu=>(by cases hu),.nil⟩,λu hu=>(by cases hu),?_⟩;rw[z,T.dg _ _ (by omega) hj] at e2;rw[b0Z];exact(b5U e2).symm
     ·by_cases z2:q.1+1<ps.length
      ·obtain⟨r,g,f,e⟩:=(att T d (i+q.2+1) j (by omega) (by omega) hj).2 (q.1+1) z2;exact⟨r,g,f,b5U (e2.symm.trans e)⟩
      ·rw[T.tt _ _ _ (by omega) (by omega) hj,show q.1+1=ps.length by omega] at e2;unfold Bk at e2;rw[b9P] at e2;cases e2
    obtain⟨r,⟨r1,r2,r3⟩,f,ey⟩:=rest;refine⟨ahd q.1 c++r,⟨by rw[a4Q,c1,r1];omega,λu hu=>?_,b7x.mpr ⟨b3y.mpr c3,r3,λu hu v hv=>?_⟩⟩,λu hu=>?_,?_⟩
    ·rcases b5W.mp hu with y|y
     ·obtain⟨v,hv,rfl⟩:=b5K.mp y;intro x hx;rcases b5Q.mp hx with z|z
      ·rw[z];exact⟨by omega,by omega⟩
      ·exact c2 v hv x z
     ·exact r2 u y
    ·obtain⟨v',hv',rfl⟩:=b5K.mp hu;obtain⟨x,w,rfl,hx⟩:=f v hv;exact af_lt (by omega)
    ·rcases b5W.mp hu with y|y
     ·obtain⟨v,hv,rfl⟩:=b5K.mp y;exact⟨_,v,rfl,by omega⟩
     ·obtain⟨x,w,rfl,hx⟩:=f u y;exact⟨x,w,rfl,by omega⟩
    ·rw[b1a,c1,show i+(q.2+1)=i+q.2+1 by omega,<-ey];exact ev.symm
  have eF:∃c,G ps.length (j-i) c/\F i j=some (co ps ws i c):=by
   by_cases z:j-i=1
   ·refine⟨[[]],⟨z.symm,λu hu=>?_,b6S _ _⟩,?_⟩
    ·rw[b5C.mp hu];intro x hx;cases hx
    ·rw[T.ff i j hij hj,if_pos z,co_one]
   ·cases e:F i j with
    | none=>exact absurd e (T.fn i j hij hj)
    | some x =>
     have e':=e;rw[T.ff i j hij hj,if_neg z] at e';obtain⟨q,hq,ev⟩:=b5K.mp (a1F.mp e').1;obtain⟨a,b,c⟩:=a2a.mp hq;have:=(att T d i (i+q.2+1) (by omega) (by omega) (by omega)).1;rw[show i+q.2+1-i=q.2+1 by omega] at this;obtain⟨r,g,_,er⟩:=step 0 q x ev (b6e _) b (by omega) this;exact⟨r,g,by rw[er]⟩
  refine⟨eF,λl hl=>?_⟩;cases e:t l i j with
  | none=>exact absurd e (T.tn l i j hl hij hj)
  | some x =>
   have e':=e;rw[T.tt l i j (by omega) hij hj] at e';obtain⟨q,hq,ev⟩:=b5K.mp (a1F.mp e').1;obtain⟨a,b,c⟩:=a2a.mp hq;have:∃c,G ps.length (q.2+1) c/\F i (i+q.2+1)=some (co ps ws i c):=by
    by_cases z:i+q.2+1=j
    ·rw[z,show q.2+1=j-i by omega];exact eF
    ·have:=(att T d i (i+q.2+1) (by omega) (by omega) (by omega)).1;rw[show i+q.2+1-i=q.2+1 by omega] at this;exact this
   obtain⟨r,g,f,er⟩:=step l q x ev a b (by omega) this;exact⟨r,g,f,by rw[er]⟩
end
theorem b3A:∀v s:List Int,HT.a0x (v++s) v=false
 | [],[]=>rfl
 | [],x::s=>rfl
 | x::v,s=>by
  rw[List.cons_append,HT.a0L,if_pos rfl];exact b3A v s
theorem b2I (h:Af u v):a2H u v:=⟨λ⟨s,e⟩=>h.2 (by rw[<-e,List.take_left'];rfl),λ⟨s,e⟩=>by
 have:=h.1;rw[<-e,b3A] at this;cases this⟩
theorem b2J (l:List (Int × List Int)) (pf:PF (l.map (·.2))):∃l':List (Int × List Int),l'.Perm l/\KP (l'.map (·.2)):=by
 have pm:=List.mergeSort_perm l (λa b=>!HT.a0x b.2 a.2);refine⟨_,pm,?_⟩;have s1:=List.pairwise_mergeSort (le:=λa b:Int × List Int=>!HT.a0x b.2 a.2) (trans:=λa b c h1 h2=>by
  simp only[Bool.not_eq_true'] at h1 h2 ⊢;exact a5w _ _ _ h1 h2) (total:=λa b=>by
  cases h:HT.a0x b.2 a.2 with
  | false=>rfl
  | true=>rw[a2A _ _ h];rfl) (l:=l)
 have s2:=b6k.mp (PF.perm pf (pm.map (·.2)));refine b6k.mpr ((s1.and s2).imp λ{a b} h=>?_);have h1:HT.a0x b.2 a.2=false:=by simpa using h.1
 have ne:b.2≠a.2:=λz=>h.2.1 (by rw[z];exact List.prefix_refl _);exact⟨a1w _ _ ne h1,λz=>h.2.1 (by rw[<-z];exact List.take_prefix _ _)⟩
end CT
end K77K
namespace K77
open PySem L2
theorem zipS:∀(l:List (Int × List Int)),coZ ps (l.map (·.1)) (l.map (·.2))=(l.map λq=>q.1*pc ps q.2).sum
 | []=>rfl
 | q::l=>by
  have:=zipS (ps:=ps) l;unfold coZ at this ⊢;rw[b6m,b6m,List.zipWith_cons_cons,b6t,this,b6m,b6t]
def Cst (ps vs:List Int) (m:Int):Prop:=∃h t F,K77K.CT.Tb ps.length vs.length h t F (K77K.pl ps) (K77K.Wt vs)/\F 0 vs.length=some m
theorem b5p (W:Wide ps ws) (pm:vs.Perm ws) (c:Cst ps vs m):flo ps ws (0,[0])<=m:=by
 obtain⟨h,t,F,T,e⟩:=c;have lv:=pm.length_eq;have w1:=W.w1;obtain⟨cd,⟨c1,c2,c3⟩,ec⟩:=(K77K.CT.att T vs.length 0 vs.length (by omega) (by omega) (b5G _)).1;have em:m=coZ ps vs cd:=b5U (e.symm.trans ec);have W':Wide ps vs:=⟨W.p2,W.p6,by omega,by rw[lv];exact W.w7,W.bp,λx hx=>W.bw x (pm.mem_iff.mp hx),by have:=W.w4;omega⟩
 rw[em,<-a7K pm];exact a6z W' (c3.imp K77K.CT.b2I) c2 (by omega)
theorem b5q (W:Wide ps ws) (pf:PF cw) (lt:∀u∈cw,Lt ps.length u) (ln:cw.length=ws.length):∃vs∈ords ws,∀m,Cst ps vs m->m<=coZ ps ws cw:=by
 have w1:=W.w1;have f1:(ws.zip cw).map (·.1)=ws:=List.map_fst_zip (by omega);have f2:(ws.zip cw).map (·.2)=cw:=c1a (by omega);obtain⟨l,pm,kp⟩:=K77K.CT.b2J (ws.zip cw) (by rw[f2];exact pf);have p1:(l.map (·.1)).Perm ws:=by have:=pm.map (·.1);rwa [f1] at this
 have p2:(l.map (·.2)).Perm cw:=by have:=pm.map (·.2);rwa [f2] at this
 refine⟨l.map (·.1),a5M _ rfl p1,λm ⟨h,t,F,T,e⟩=>?_⟩;have ll:(l.map (·.2)).length=(l.map (·.1)).length:=by rw[b5x,b5x]
 have lw:=p1.length_eq;obtain⟨x,ex,hx⟩:=(K77K.CT.low T (λx hx=>(W.bw x (p1.mem_iff.mp hx)).1) (λu=>(b4W W.bp u).1) _ (l.map (·.2)) 0 (b5G _) (λz=>by rw[z] at ll;rw[b7o] at ll;omega) (by omega) kp λu hu=>lt u (p2.mem_iff.mp hu)).2;rw[ll,b9L,e] at ex;rw[b5U ex];refine b8r hx (b8T ?_);show coZ ps (l.map (·.1)) (l.map (·.2))=_;rw[zipS,a2v (pm.map λq=>q.1*pc ps q.2),<-zipS,f1,f2]
theorem a6E {w:Int}:∀(os:List (List Int)),(∀r∈os,r.length<=m)->(os.flatMap (oin w)).length<=(m+1)*os.length
 | [],_=>b6e _
 | r::os,h=>by
  have:=a6E (w:=w) os λx hx=>h x (.tail _ hx);have h1:=h r (.head _);rw[b9E,b5J,a6A,b5T,Nat.mul_succ];omega
theorem a7O (h:v∈ords ws):v.length=ws.length:=(a1V _ rfl h).length_eq
theorem a5Q {ws:List Int} {i:Nat} {x:Int} (h:ws[i]?=some x):ords (ws.take (i+1))=(ords (ws.take i)).flatMap (oin x):=by
 rw[b6f,h];exact a3v _ _
theorem a6F:∀(n:Nat) {ws:List Int},ws.length=n->n<=4->(ords ws).length<=5 ^ n
 | 0,ws,h,_=>by rw[b6g.mp h];decide
 | n+1,ws,h,h4=>by
  have hi:n<ws.length:=by omega
  have e:=a5Q (b5z hi);rw[b7j (by omega)] at e;have l1:(ws.take n).length=n:=by rw[b5R];omega
  have h1:=a6F n l1 (by omega);have h2:=a6E (m:=4) (w:=ws[n]) (ords (ws.take n)) λr hr=>by rw[a7O hr];omega
  rw[e,Nat.pow_succ];omega
theorem oin_at {w:Int} {k:Nat} (h:k<row.length+1):(oin w row).take (k+1)=(oin w row).take k++[row.take k++[w]++row.drop k]:=by
 rw[b6f];unfold oin;rw[b5L,b6U h];rfl
variable {P:Program} {w:World} {K:PySem.W.Frag} {mg:Str->Option Value} {base:Heap} {f:Addr} {fd:FuncData}
abbrev NOr:List Str:=["weights","orders","weight","longer","row","at"]
def spOrd:Sp:=λvs H Q _=>∃(q:Addr) (ws:List Int),vs=[.ref q]/\TW H q ws/\ws.length<=4/\∀(a:Addr) xs H',a0m H H'->H' a=some (.lst xs)->Ws H' xs (ords ws)->Q (.ref a) H'
theorem a6G:a0l NOr ["weights"] (a0d a6o):=fsk
theorem b1b (F:Fun K "_law_orders" "_law_orders" a6o f fd) (ml:mg "len"=none) (mr:mg "range"=none):a0Y P w K mg base CX0 1 f fd ["weights"] spOrd:=by
 refine F.ok (k:=0) a6G (λvs H Q E h=>?_) (λcdv A outer s H vs Q E hr h=>?_)
 ·obtain⟨q,ws,rfl,_⟩:=h;rfl
 obtain⟨q,ws,rfl,hq,w4,qq⟩:=h;refine⟨_,a0e (psA (i:=1) a6G (a1n (a0a (a0Z a0f) a0f)))
  (a0e (a1r b6Q rfl (a8N (pv 0)) (pgA (i:=2) a6G)
   (a0e (psA (i:=3) a6G (a1n a0f))
   (a0e (a1r b6Q rfl (a2c (pv 1)) (pgA (i:=4) a6G)
    (a0i (a1r b6Q rfl (a4U (by rfl) mr (a0a (a0o a0C (pln ml (pv 4)) a0g) a0f)) (pgA (i:=5) a6G)
     (a0i (a1h (a4h b6I b7k b7l a1f (pv 3) (a0a (a0o a3b (a0o a3b (a1o a6a (pv 4) a1O (a1P (pv 5))) (a0Z (a0a (pv 2) a0f))) (a1o a6a (pv 4) (a1P (pv 5)) a1O)) a0f)))))))
   (a0i (psA (i:=1) a6G (pv 3))))))
  (a0i (a0q (pv 1)))),?_⟩
 refine⟨(by show 0<=sizeLine;decide),λt0 ht0=>?_⟩;have s0:=a0c ht0 (.tup []);have g0:upd H t0 (.tup []) t0=some (.tup []):=a0b;generalize upd H t0 (.tup [])=H0 at s0 g0 ⊢;refine⟨(by show 1<=sizeLine;decide),λa0 ha0=>?_⟩;have s1:=a0c ha0 (.lst [.ref t0]);have g1:upd H0 a0 (.lst [.ref t0]) a0=some (.lst [.ref t0]):=a0b;generalize upd H0 a0 (.lst [.ref t0])=H1 at s1 g1 ⊢;have s01:=s0.trans s1;refine⟨_,rfl,q,rfl,⟨_,SqT.of (s01 _ _ hq)⟩,?_⟩;refine a8P (K:=K) (xs:=ws.map V.int) (λi σ H'=>a0m H H'/\∃(a:Addr) (xs:List V) (x2 x3 x4 x5:Option V),H' a=some (.lst xs)/\Ws H' xs (ords (ws.take i))/\σ=[some (.ref q),some (.ref a),x2,x3,x4,x5])
  ⟨s01,a0,_,_,_,_,_,g1,.cons (Wd.of (w:=[]) (s1 _ _ g0)) .nil,rfl⟩ (λi σ H' _ hP=>SqT.of (hP.1 _ _ hq)) (λi x σ H2 hx hP=>?_) (λσ H2 hP=>?_)
 ·obtain⟨s2,a,xs,x2,x3,x4,x5,ga,wa,rfl⟩:=hP;obtain⟨z,hz,rfl⟩:∃z,ws[i]?=some z/\V.int z=x:=by
   rw[b5L] at hx;cases h:ws[i]? with
   | none=>rw[h] at hx;cases hx
   | some z=>rw[h] at hx;exact⟨z,rfl,b5U hx⟩
  have il:i<ws.length:=(b5E.mp hz).1;have lo:∀r∈ords (ws.take i),r.length<=4:=λr hr=>by rw[a7O hr,b5R];omega
  have ln:(ords (ws.take i)).length<=625:=by
   have:=a6F (ws.take i).length rfl (by rw[b5R];omega);refine b6R this (b6R (Nat.pow_le_pow_right (by decide) (show _<=4 by rw[b5R];omega)) (by decide))
  refine⟨(by show 0<=sizeLine;decide),λd hd=>?_⟩;have s3:=a0c hd (.lst []);have g3:upd H2 d (.lst []) d=some (.lst []):=a0b;generalize upd H2 d (.lst [])=H3 at s3 g3 ⊢;refine⟨_,rfl,a,rfl,⟨_,SqL.of (s3 _ _ ga)⟩,?_⟩;refine a2J (K:=K) (xs:=xs) (λj σ H'=>a0m H2 H'/\∃(ys:List V) (x4 x5:Option V),H' d=some (.lst ys)/\Ws H' ys (((ords (ws.take i)).take j).flatMap (oin z))/\σ=[some (.ref q),some (.ref a),some (.int z),some (.ref d),x4,x5])
   ⟨s3,[],_,_,g3,.nil,rfl⟩ (λj σ H' _ hP=>SqL.of (hP.1 _ _ ga)) (λj x σ H4 hx hP=>?_) (λσ H4 hP=>?_)
  ·obtain⟨s4,ys,x4,x5,gd,wd,rfl⟩:=hP;obtain⟨row,hrow,rr⟩:=Paired.right_of wa j x hx;obtain⟨b,rfl,hb⟩:=Wd.ti rr;have hb4:TW H4 b row:=s4 _ _ hb;have rl:row.length<=4:=lo row (b5M hrow);refine⟨_,rfl,b,_,rfl,.inr (SqT.of hb4),_,_,rfl,rfl,?_⟩;rw[b5x];refine⟨_,rfl,by omega,by omega,?_⟩;have e0:((row.length:Int)+1).toNat=row.length+1:=by omega
   rw[e0];refine a1L (λk σ H'=>a0m H2 H'/\∃(ys:List V) (x5:Option V),H' d=some (.lst ys)/\Ws H' ys (((ords (ws.take i)).take j).flatMap (oin z)++(oin z row).take k)/\σ=[some (.ref q),some (.ref a),some (.int z),some (.ref d),some (.ref b),x5])
    ⟨s4,ys,_,gd,by rw[b9I,b6B];exact wd,rfl⟩ (λk σ H5 hk hP=>?_) (λσ H5 hP=>?_)
   ·obtain⟨s5,ys,x5,gd,wd,rfl⟩:=hP;have hb5:TW H5 b row:=s5 _ _ hb;rw[b8S];have lm:(row.map V.int).length=row.length:=b5x ..;have ly:ys.length<=4000:=by
     rw[wd.length,b5J];have h1:=a6E (m:=4) (w:=z) ((ords (ws.take i)).take j) λr hr=>lo r (b6V hr);have h2:((ords (ws.take i)).take j).length<=(ords (ws.take i)).length:=by rw[b5R];omega
     have h3:((oin z row).take k).length<=5:=by rw[b5R,a6A];omega
     omega
    refine⟨_,rfl,.inl ⟨rfl,_,SqL.of gd⟩,_,rfl,_,rfl,_,rfl,b,_,rfl,hb5,λp1 H6 s6 h6=>?_⟩;rw[a6X] at h6;refine⟨_,rfl,(by show 1<=sizeLine;decide),λp2 hp2=>?_⟩;have s7:=a0c hp2 (.tup [.int z]);have h7:upd H6 p2 (.tup [.int z]) p2=some (.tup [.int z]):=a0b;generalize upd H6 p2 (.tup [.int z])=H7 at s7 h7 ⊢;refine⟨p1,p2,_,_,rfl,rfl,s7 _ _ h6,h7,b7n (a0j (by rw[b5R];show _+1<=_;omega)),λp3 H8 s8 h8=>?_⟩;have s58:=(s6.trans s7).trans s8;refine⟨_,rfl,_,rfl,_,rfl,b,_,rfl,s58 _ _ hb5,λp4 H9 s9 h9=>?_⟩;rw[a4l] at h9;refine⟨p3,p4,_,_,rfl,rfl,s9 _ _ h8,h9,b7n (a0j (by rw[b5J,b5R,b8A];show _+1+_<=_;omega)),λp5 H10 s10 h10=>?_⟩;have s5t:=(s58.trans s9).trans s10;have gd10:=s5t _ _ gd;have nd:p5≠d:=λe=>by rw[e,gd10] at h10;cases h10
    refine⟨d,_,_,rfl,rfl,gd10,b8i ly (by decide),a0n hd (s5.trans s5t),_,_,a0b,?_,rfl⟩;rw[oin_at hk,<-b7w];refine L2.Paired.appendP (Paired.mapP wd λ_ _ r=>?_) (.cons ?_ .nil)
    ·exact Wd.upd gd10 (Wd.same s5t r)
    ·refine Wd.upd gd10 (Wd.of ?_);show H10 p5=_;rw[h10,b5H,b5H,c0f,List.map_drop];rfl
   ·obtain⟨s5,ys,x5,gd,wd,rfl⟩:=hP;refine⟨s5,ys,_,_,gd,?_,rfl⟩;rw[b6f,hrow,b9i];rw[b7j (i:=row.length+1) (l:=oin z row) (by rw[a6A];exact b5G _)] at wd;simpa using wd
  ·obtain⟨s4,ys,x4,x5,gd,wd,rfl⟩:=hP;refine⟨_,rfl,s2.trans s4,d,ys,_,_,_,_,gd,?_,rfl⟩;rw[b7j (by rw[wa.length];exact b5G _)] at wd;rw[a5Q hz];exact wd
 ·obtain⟨s2,a,xs,x2,x3,x4,x5,ga,wa,rfl⟩:=hP;rw[b5x,b6z] at wa;exact⟨_,rfl,qq a xs H2 s2 ga wa⟩
end K77
namespace L2
open PySem PySem.Spec PyProof.Rows PyProof
def rSumK (K:PySem.W.Frag):List V->Hp->VK->Prop:=λxs H Q=>∃(a:Addr) (ns:List Int),xs=[.ref a]/\SqL K H a (ns.map V.int)/\Q (.int ns.sum) H
theorem b1c (K:PySem.W.Frag) (hc:X.calm=true) (hK:X.K=K:=by rfl):a2w X (.builtin "sum") (rSumK K):=by
 subst hK;intro pins s σ H xs us Q I r h;obtain⟨a,ns,rfl,ha,q⟩:=h;obtain⟨u,rfl,ru⟩:=a1Z r;cases ru;obtain⟨its,v,⟨o,n,e,oc,od,os⟩,hz⟩:=I.list ha;have up:∀y:Obj,PlainL (s.heap.push y) a its.toArray:=λy=>⟨o,n,b5y _ e,oc,od,os⟩
 refine call_sum_walkAnyS (b7v (PlainL.isList ⟨o,n,e,oc,od,os⟩) ?_);have hlt:=b5F e;refine⟨s.heap.objs.size,_,_,_,_,_,_,λi=>ns.getD i 0,rfl,(c0k (A:=X.A.in1) (by show X.A.handled=none;exact I.ok.hd hc) s.heap.objs.size a (b5O hlt) its.toArray).toS,⟨⟨_,b5D _ rfl,rfl,rfl⟩,(up _).isList⟩,?_,?_,λs' t' mv=>?_⟩
 ·intro b hb;rcases b5Q.mp hb with z|z
  ·subst z;exact b5F (b5D _ rfl)
  ·have z':b=a:=by simpa using z
   subst z';exact b5F (b5y _ e)
 ·intro i v' hv;exact a3K v i v' (by simpa using hv)
 ·have e1:its.toArray.size=ns.length:=by
   have:=v.length;rw[b5x] at this;simpa using this.symm
  rw[e1,preSum_getD,b6z];have k:∀b o,s.heap.get? b=some o->s'.heap.get? b=some o:=λb o eo=>mv.heap b o (by simp;exact b5O (b5F eo)) (b5y _ eo);obtain⟨h',g',d',tk',os'⟩:=s';have z1:g'=s.gens:=mv.gens;have z2:d'=s.drawn:=mv.drawn;have z3:os'=s.os:=mv.os;subst z1 z2 z3;exact⟨.int _,H,I.kept (h':=h') (t':=tk') k,⟨t',rfl⟩,q⟩
end L2
namespace K77
open PySem L2
theorem kp_T (nd:Dst S) (m:(T,K77K.a5R,K77K.b1h)∈S) (t:Tb S H) (s:K77K.a0X T H H') (x:K77K.b5n T H H'):Kp S H H':=by
 obtain⟨qs,hT⟩:=a3U (t _ m);refine⟨λa o n e=>s a o (a0r e hT (n qs)) e,λu hu=>?_⟩;by_cases e:u.1=T
 ·rw[nd u hu _ m e];exact x.1
 ·rcases t u hu with y|⟨c,y,yc⟩
  ·exact .inl (s _ _ e y)
  ·exact .inr ⟨c,s _ _ e y,s _ _ (a0r yc hT (by intro z;cases z)) yc⟩
theorem sqL_u {K:PySem.W.Frag} (k:b4I H H') (h:SqL K H a xs):SqL K H' a xs:=by
 rcases h with (e|⟨o,e⟩)|r
 ·exact .inl (.inl (k _ _ (by intro _ z;cases z) e))
 ·exact .inl (.inr ⟨o,k _ _ (by intro _ z;cases z) e⟩)
 ·exact .inr r
theorem b2K (W:Wide ps ws) (pf:PF cw) (lt:∀u∈cw,Lt ps.length u) (ln:cw.length=ws.length) (e:coZ ps ws cw=flo ps ws (0,[0])) (h:Paired (Cst ps) (ords ws) ms):ms≠[]/\(srt ms).headD 0=flo ps ws (0,[0]):=by
 obtain⟨vs,hv,hm⟩:=b5q W pf lt ln;obtain⟨i,hi⟩:=b6J.mp hv;obtain⟨m,hm1,hm2⟩:=Paired.right_of h i vs hi;have ne:ms≠[]:=λz=>by rw[z] at hm1;simp at hm1
 obtain⟨h1,h2⟩:=K77K.a6B ne;have a1:=h2 m (b5M hm1);have a2:=hm m hm2;obtain⟨j,hj⟩:=b6J.mp h1;obtain⟨us,hu1,hu2⟩:=Paired.left_of h j _ hj;have a3:=b5p W (a1V _ rfl (b5M hu1)) hu2;exact⟨ne,by omega⟩
variable {P:Program} {w:World} {K:PySem.W.Frag} {mg:Str->Option Value} {base:Heap} {f:Addr} {fd:FuncData}
abbrev NLw:List Str:=["script","prices","weights","due","orders","least_v","at"]
def b2L (K:PySem.W.Frag) (S:Tbs):Sp:=λvs H Q _=>∃(a:Addr) (ns:List Int),vs=[.ref a]/\SqL K H a (ns.map V.int)/\ns.length<=63/\Tb S H/\∀H',Q (.bl true) H'
theorem a6H:a0l NLw ["script"] (a0d b1e):=fsk
theorem ndLw:(("row":Str)::NLw).Nodup:=by decide +kernel
theorem ok_law (nd:Dst S) (mT:(T,K77K.a5R,K77K.b1h)∈S) (F:Fun K "law" "law" b1e e ed) (GP:Fns P w K mg base ["script"] "_law_prices" (a7t K) 65) (GW:Fns P w K mg base ["script","most"] "_law_weights" (a5J K) 65) (GF:Fns P w K mg base ["prices","weights"] "free_code" (spFc S) 65) (GO:Fns P w K mg base ["weights"] "_law_orders" spOrd 65) (GK:Fns P w K mg base ["prices","weights"] "cheapest_kept" (K77K.spCk T) 65)
  (ml:mg "len"=none) (ms:mg "sum"=none) (mn:mg "min"=none):a0Y P w K mg base CX0 66 e ed ["script"] (b2L K S):=by
 refine F.ok (k:=65) a6H (λvs H Q E h=>?_) (λcdv A outer s H vs Q E hr h=>?_)
 ·obtain⟨a,ns,rfl,_⟩:=h;rfl
 obtain⟨a,ns,rfl,hS,h63,tab,q⟩:=h;refine⟨_,a0e (psA (i:=1) a6H (pcF GP hr (a0a (pv 0) a0f)))
  (a0e (psA (i:=2) a6H (pcF GW hr (a0a (pv 0) (a0a a0g a0f))))
  (a0e (psA (i:=3) a6H (pxA a1I (pcF GF hr (a0a (pv 1) (a0a (pv 2) a0f))) a0g))
  (a0e (psA (i:=4) a6H (pcF GO hr (a0a (pv 2) a0f)))
  (a0e (psA (i:=5) a6H (a0S (a5q rfl) (by rfl) mn b_min (a0a (a1A (M:=NLw) rfl (cso (a0d b1e) NLw) ndLw rfl (pv 4) a0F (λcl C s0 H0 fp=>⟨a0I,pxA (ixT K) (pcF GK hr (a0a (pv 2) (a0a (pv 0) a0f))) a0g⟩)) a0f)))
  (a0e (psA (i:=6) a6H (a0o a1s (a0S (b1c K rfl) (by rfl) ms b1w (a0a (pv 0) a0f)) (pln ml (pv 4))))
  (a0i (a0q (pe_and (a8V a2d (pv 5) (pv 3) (nomark _)) (pe_one (a8V a2d (pxA a1I (pcF GF hr (a0a (pv 1) (a0a (pxA a0u (pv 4) (pv 6)) a0f))) a0g) (pv 3) (nomark _))))))))))),?_⟩
 refine⟨_,rfl,a,ns,rfl,hS,λp ps H1 s1 hp p2 p6 bp=>?_⟩;refine⟨_,rfl,a,ns,4,rfl,s1.seq hS,by decide,by decide,λr ws H2 s2 hr' w1 wm bw=>?_⟩;have W:Wide ps ws:=⟨p2,p6,w1,by (split<;>omega),bp.bw,bw.bw,by omega⟩
 have hp2:TW H2 p ps:=s2 _ _ hp;have k2:Kp S H H2:=Kp.of tab (s1.trans s2);refine⟨_,rfl,_,rfl,p,r,ps,ws,rfl,hp2,hr',W,k2.tb,λt c zs us pl cw H3 k23 ht hc hz ow cd=>?_⟩;have k3:=k2.trans k23;have hp3:=k23.tup hp2;have hr3:=k23.tup hr';have lc:cw.length=ws.length:=by rw[ow.pu.length_eq,cd.ln]
 have eC:coZ ps ws cw=flo ps ws (0,[0]):=by rw[b0H ow cd.ln,<-cd.sp,(a2D W).2]
 have fin:=λms h=>b2K (ms:=ms) W (PF.perm cd.pf ow.pu) (λu hu=>(cd.lt u (ow.pu.mem_iff.mp hu)).1) lc eC h;refine⟨t,_,_,_,rfl,rfl,SqT.of ht,(rfl:atI [V.int (flo ps ws (0,[0])),.ref c] 0=_),?_⟩;clear ht hc hz ow cd eC;refine⟨_,rfl,r,ws,rfl,hr3,W.w4,λoa xs H4 s4 ho wo=>?_⟩;have hp4:=s4 _ _ hp3;have k4:=k3.then s4;refine⟨_,rfl,oa,xs,rfl,SqL.of ho,λd hd=>?_⟩;have w4:=W.w4;have ol:(ords ws).length<=625:=b6R (a6F ws.length rfl w4) (b6R (Nat.pow_le_pow_right (by decide) w4) (by decide));refine⟨λi H'=>Kp S H4 H'/\∃ms,H' d=some (.lst (ms.map V.int))/\Paired (Cst ps) ((ords ws).take i) ms,⟨Kp.of k4.tb (a0c hd _),[],a0b,.nil⟩,λi H' _ hP=>SqL.of (hP.1.lst ho),λi x H5 hx hP=>?_,λH5 hP=>?_⟩
 ·obtain⟨k5,ms,g5,pm⟩:=hP;obtain⟨vs,hv,rv⟩:=Paired.right_of wo i x hx;obtain⟨b,rfl,hb⟩:=Wd.ti rv;have pv:=a1V _ rfl (b5M hv);have lv:=pv.length_eq;have bv:Bo vs:=λx hx=>bw x (pv.mem_iff.mp hx);have i4:=(b5E.mp hv).1;refine a0y ⟨_,rfl,_,rfl,p,b,ps,vs,rfl,k5.tup hp4,k5.tup hb,⟨p2,by omega,by omega,by omega,λx hx=>bp.bw x hx,λx hx=>bv.bw x hx⟩,λx hx=>(bp x hx).1,λx hx=>(bv x hx).1,k5.tb _ mT,λa2 ca dd h t2 F2 H6 sT tT ho6 T6=>?_⟩;have k6:=kp_T nd mT k5.tb sT tT;obtain⟨m,em⟩:∃m,F2 0 vs.length=some m:=by
   cases z:F2 0 vs.length with
   | none=>exact absurd z (T6.fn 0 vs.length (by omega) (b5G _))
   | some m=>exact⟨m,rfl⟩
  rw[em] at ho6;refine⟨a2,_,_,_,rfl,rfl,SqT.of ho6,(rfl:atI [V.int m,.ref ca,.ref dd] 0=_),?_⟩;have g6:=k6.lst g5;refine⟨_,g6,a0j (by rw[b5x,<-pm.length,b5R];omega),(k5.trans k6).updN (λo _=>by rw[hd];intro z;cases z) g6,ms++[m],by rw[a0b,b5H];rfl,?_⟩;rw[b6f,hv];exact L2.Paired.appendP pm (.cons ⟨h,t2,F2,T6,em⟩ .nil)
 obtain⟨k5,ms,g5,pm⟩:=hP;rw[wo.length,b6z] at pm;obtain⟨ne,em⟩:=fin ms pm;refine⟨d,ms,rfl,.inl g5,ne,?_⟩;rw[em];have k05:=k4.trans k5;have ho5:=k5.lst ho;have ox:0<xs.length:=by rw[wo.length,<-pm.length.symm];exact b6P.mpr ne
 refine⟨_,rfl,a,ns,rfl,sqL_u k05.sm hS,_,rfl,oa,xs,rfl,.inl (SqL.of ho5),_,_,rfl,rfl,(by show(0:Int)<_;omega),?_⟩;have m0:0<=ns.sum % (xs.length:Int):=Int.emod_nonneg _ (by omega);have m1:ns.sum % (xs.length:Int)<xs.length:=Int.emod_lt_of_pos _ (by omega);obtain⟨j,ej⟩:∃j:Nat,ns.sum % (xs.length:Int)=j:=⟨_,(Int.toNat_of_nonneg m0).symm⟩
 rw[ej] at m1;dsimp only;rw[ej];have hj:j<xs.length:=by omega
 obtain⟨vs,hv,rv⟩:=Paired.right_of wo j _ (b5z hj);obtain⟨b,eb,hb⟩:=Wd.ti rv;have pv:=a1V _ rfl (b5M hv);have lv:=pv.length_eq;have W':Wide ps vs:=⟨p2,p6,by omega,by rw[lv];exact W.w7,bp.bw,λx hx=>bw.bw x (pv.mem_iff.mp hx),by omega⟩
 refine⟨_,rfl,_,rfl,rfl,_,rfl,?_⟩;rw[b6b rfl];refine⟨_,rfl,_,rfl,_,rfl,oa,xs,_,_,rfl,rfl,SqL.of ho5,(by rw[<-eb];exact a4d (b5z hj)),p,b,ps,vs,rfl,k5.tup hp4,k5.tup hb,W',k05.tb,λt c zs us pl cw H6 k6 ht hc hz ow cd=>?_⟩;refine⟨t,_,_,_,rfl,rfl,SqT.of ht,(rfl:atI [V.int (flo ps vs (0,[0])),.ref c] 0=_),_,rfl,rfl,?_⟩;rw[a7K pv,b6b rfl];exact q _
theorem al1 {α:Type} {P:List α->Prop} (h:∀a0:α,P [a0]):∀us:List α,us.length=1->P us
 | [a0],_=>h a0
theorem al2 {α:Type} {P:List α->Prop} (h:∀a0 a1:α,P [a0,a1]):∀us:List α,us.length=2->P us
 | [a0,a1],_=>h a0 a1
theorem al3 {α:Type} {P:List α->Prop} (h:∀a0 a1 a2:α,P [a0,a1,a2]):∀us:List α,us.length=3->P us
 | [a0,a1,a2],_=>h a0 a1 a2
theorem al4 {α:Type} {P:List α->Prop} (h:∀a0 a1 a2 a3:α,P [a0,a1,a2,a3]):∀us:List α,us.length=4->P us
 | [a0,a1,a2,a3],_=>h a0 a1 a2 a3
theorem al5 {α:Type} {P:List α->Prop} (h:∀a0 a1 a2 a3 a4:α,P [a0,a1,a2,a3,a4]):∀us:List α,us.length=5->P us
 | [a0,a1,a2,a3,a4],_=>h a0 a1 a2 a3 a4
structure FQ (K:PySem.W.Frag) (mg:Str->Option Value) (x:Str) (st:Stmt) (f:Addr) (fd:FuncData):Prop where
 F:Fun K x x st f fd
 m:mg x=some (.ref f)
 k:PySem.W.keepIn K (.ref f)=true
def fnE (K:PySem.W.Frag) (x:Str) (st:Stmt):Prop:=∃(f:Addr) (oc kV doc pm cd ct:Value) (od an:Option Addr) (sl:Array (Option Value)),PySem.W.nsIn K mainGlobals x=some (some (.ref f))/\K.lookup f=some ⟨oc,od,.func (PySem.W.fnOf x x (a0N st) (a0H st) (a0d st) .none kV doc pm an cd ct),sl⟩/\PySem.W.codeIn K cd x=true/\PySem.W.keepIn K (.ref f)=true
theorem fnE.mk {K:PySem.W.Frag} {x:Str} {f:Addr} {oc kV doc pm cd ct:Value} (h1:PySem.W.nsIn K mainGlobals x=some (some (.ref f))) (h2:K.lookup f=some ⟨oc,od,.func (PySem.W.fnOf x x (a0N st) (a0H st) (a0d st) .none kV doc pm an cd ct),sl⟩) (h3:PySem.W.codeIn K cd x=true) (h4:PySem.W.keepIn K (.ref f)=true):fnE K x st:=⟨f,oc,kV,doc,pm,cd,ct,od,an,sl,h1,h2,h3,h4⟩
theorem fnE.get {K:PySem.W.Frag} {x:Str} {mg:Str->Option Value} (X:K.In h) (G:h.Ns mainGlobals mg) (p:fnE K x st):∃f fd,FQ K mg x st f fd:=by
 obtain⟨f,oc,kV,doc,pm,cd,ct,od,an,sl,h1,h2,h3,h4⟩:=p;exact⟨f,_,a6U h2 h3 h4,c0h X G h1,h4⟩
def a1a {P:Program} {w:World} {K:PySem.W.Frag} {mg:Str->Option Value} {base:Heap} {x:Str} {st:Stmt} {f:Addr} {fd:FuncData} {ps:List Str} {sp:Sp} {k:Nat} (q:FQ K mg x st f fd) (ok:a0Y P w K mg base CX0 k f fd ps sp)
  (h:∀(kV doc pm:Value) (an:Option Addr) (cdv ct:Value) (us:List Value),us.length=ps.length->bindArgs (PySem.W.fnOf x x (a0N st) (a0H st) (a0d st) .none kV doc pm an cdv ct) ⟨us,[]⟩=pure (ps.zip us)):Fns P w K mg base ps x sp k:=⟨f,fd,ok,q.F.binds h,q.k,q.m⟩
def fnC (K:PySem.W.Frag) (x:Str) (st:Stmt) (T:Addr):Prop:=∃(f c:Addr) (oc kV doc pm ct:Value) (od an:Option Addr) (sl:Array (Option Value)),PySem.W.nsIn K mainGlobals x=some (some (.ref f))/\K.lookup f=some ⟨oc,od,.func (PySem.W.fnOf x x (a0N st) (a0H st) (a0d st) .none kV doc pm an (.ref c) ct),sl⟩/\PySem.W.codeIn K (.ref c) x=true/\PySem.W.keepIn K (.ref f)=true/\PySem.W.codeHdIn K c T=true
theorem fnC.mk {K:PySem.W.Frag} {x:Str} {f c T:Addr} {oc kV doc pm ct:Value} (h1:PySem.W.nsIn K mainGlobals x=some (some (.ref f))) (h2:K.lookup f=some ⟨oc,od,.func (PySem.W.fnOf x x (a0N st) (a0H st) (a0d st) .none kV doc pm an (.ref c) ct),sl⟩) (h3:PySem.W.codeIn K (.ref c) x=true) (h4:PySem.W.keepIn K (.ref f)=true) (h5:PySem.W.codeHdIn K c T=true):fnC K x st T:=⟨f,c,oc,kV,doc,pm,ct,od,an,sl,h1,h2,h3,h4,h5⟩
theorem fnC.get {K:PySem.W.Frag} {x:Str} {mg:Str->Option Value} (X:K.In h) (G:h.Ns mainGlobals mg) (p:fnC K x st T):∃f fd c,FQ K mg x st f fd/\fd.code=.ref c/\PySem.W.codeHdIn K c T=true:=by
 obtain⟨f,c,oc,kV,doc,pm,ct,od,an,sl,h1,h2,h3,h4,h5⟩:=p;exact⟨f,_,c,⟨a6U h2 h3 h4,c0h X G h1,h4⟩,rfl,h5⟩
theorem Dst.of (h:(S.map (·.1)).Nodup):Dst S:=λt ht u hu e=>by
 obtain⟨i,hi,rfl⟩:=b7i.mp ht;obtain⟨j,hj,rfl⟩:=b7i.mp hu;have:i=j:=(b8f (h₀:=by simpa using hi) (h₁:=by simpa using hj) h).mp (by simpa using e);subst this;rfl
def mtE (K:PySem.W.Frag) (C:Addr) (n x:Str) (st:Stmt):Prop:=∃(f:Addr) (oc kV doc pm cd ct:Value) (od an:Option Addr) (sl:Array (Option Value)),PySem.W.findIn K (.ref C) x=some (some (.ref f))/\PySem.W.isFn K (.ref f)=true/\K.lookup f=some ⟨oc,od,.func (PySem.W.fnOf x n (a0N st) (a0H st) (a0d st) .none kV doc pm an cd ct),sl⟩/\PySem.W.codeIn K cd n=true/\PySem.W.keepIn K (.ref f)=true
theorem mtE.mk {K:PySem.W.Frag} {n x:Str} {f:Addr} {oc kV doc pm cd ct:Value} (h1:PySem.W.findIn K (.ref C) x=some (some (.ref f))) (h0:PySem.W.isFn K (.ref f)=true) (h2:K.lookup f=some ⟨oc,od,.func (PySem.W.fnOf x n (a0N st) (a0H st) (a0d st) .none kV doc pm an cd ct),sl⟩) (h3:PySem.W.codeIn K cd n=true) (h4:PySem.W.keepIn K (.ref f)=true):mtE K C n x st:=⟨f,oc,kV,doc,pm,cd,ct,od,an,sl,h1,h0,h2,h3,h4⟩
theorem mtE.get {K:PySem.W.Frag} {n x:Str} (p:mtE K C n x st):∃f fd,Fun K x n st f fd/\PySem.W.findIn K (.ref C) x=some (some (.ref f))/\PySem.W.isFn K (.ref f)=true/\PySem.W.keepIn K (.ref f)=true:=by
 obtain⟨f,oc,kV,doc,pm,cd,ct,od,an,sl,h1,h0,h2,h3,h4⟩:=p;exact⟨f,_,a6U h2 h3 h4,h1,h0,h4⟩
def b5v {P:Program} {w:World} {K:PySem.W.Frag} {mg:Str->Option Value} {base:Heap} {C:Addr} {x n:Str} {st:Stmt} {f:Addr} {fd:FuncData} {ps:List Str} {sp:Sp} {k:Nat} (F:Fun K x n st f fd) (m:Meth K C x f) (ok:a0Y P w K mg base CX0 k f fd ps sp)
  (h:∀(kV doc pm:Value) (an:Option Addr) (cdv ct:Value) (us:List Value),us.length=ps.length->bindArgs (PySem.W.fnOf x n (a0N st) (a0H st) (a0d st) .none kV doc pm an cdv ct) ⟨us,[]⟩=pure (ps.zip us)):K77K.Mt P w K mg base C x ps sp k:=⟨f,fd,m,ok,F.binds h⟩
def tbs (T1 T2 T3 T4 T5:Addr):Tbs:=[(T1,b4E,b2e),(T2,b4G,b2f),(T3,b4R,b2q),(T4,b4T,b2r),(T5,K77K.a5R,K77K.b1h)]
theorem all_mk {T1 T2 T3 T4 T5 C:Addr} {ts:List Addr} (hT:∀T∈[T1,T2,T3,T4,T5],T∈ts) (hnd:((tbs T1 T2 T3 T4 T5).map (·.1)).Nodup) {l:PySem.W.OpenLaw} {w:World} {K:PySem.W.Frag} {h:Heap} {mg:Str->Option Value} {fa fl aF bF:Addr} (X:K.In h) (G:h.Ns mainGlobals mg) (hfa:mg "law"=some (.ref fa))
  (gC:PySem.W.nsIn K mainGlobals "Parted"=some (some (.ref C)))
  (p0:fnE K "has_letters_alone" a7q) (p1:fnE K "word_price" a4x) (p2:fnE K "cost" a7r) (p3:fnE K "refuse_many" a6m) (p4:fnE K "moves" a9X) (p5:fnE K "move_to" b2a) (p6:fnE K "weight_left" b4x) (p7:fnE K "moves_reached" a2O) (p8:fnE K "code_of_moves" sCom) (p9:fnE K "led_to" sLed) (p10:fnE K "opened" a3m) (p11:fnE K "free_code" sFc) (p12:fnE K "weight_sums" a9Y) (p13:fnE K "row_with" sRowW) (p14:fnE K "square" a2B) (p15:fnE K "least" a3T) (p16:fnE K "added" a5H) (p17:fnE K "parted_least" a9Z) (p18:fnE K "parted_words" b0a) (p19:fnE K "cheapest_kept" sCk) (p20:fnE K "_law_cell_at" b4y) (p21:fnE K "_law_amount" a6n) (p22:fnE K "_law_prices" a4y) (p23:fnE K "_law_weights" a2s) (p24:fnE K "_law_orders" a6o)
  (t0:fnC K "cheap_letters" a1T T1) (t1:fnC K "in_own_order" b2b T2) (t2:fnC K "frontier_floors" a1E T3) (t3:fnC K "free_moves" sFm T4) (t4:fnC K "kept_words" sKw T5)
  (yI:mtE K C "Parted.__init__" "__init__" K77K.a3y) (yP:mtE K C "Parted.put" "put" K77K.sPut) (yL:mtE K C "Parted.least_sum" "least_sum" K77K.sLs) (yB:mtE K C "Parted.bound" "bound" K77K.a7L) (yR:mtE K C "Parted.bound_row" "bound_row" K77K.b2w) (yS:mtE K C "Parted.bounds" "bounds" K77K.a4L) (yW:mtE K C "Parted.ways" "ways" K77K.b5b)
  (z0:PySem.W.nsIn K mainGlobals "len"=some none) (z1:PySem.W.nsIn K mainGlobals "range"=some none) (z2:PySem.W.nsIn K mainGlobals "tuple"=some none) (z3:PySem.W.nsIn K mainGlobals "sum"=some none) (z4:PySem.W.nsIn K mainGlobals "sorted"=some none) (z5:PySem.W.nsIn K mainGlobals "min"=some none) (z6:PySem.W.nsIn K mainGlobals "zip"=some none) (z7:PySem.W.nsIn K mainGlobals "all"=some none) (z8:PySem.W.nsIn K mainGlobals "dict"=some none)
  (pgC:PySem.W.plainGet K C Str.empty=true) (hdC:PySem.W.hasDictIn K C=true) (poC:PySem.W.plainOver K C=true) (saC:PySem.W.findIn K (.ref C) "__setattr__"=some (some (.builtin "object.__setattr__"))) (mkC:PySem.W.makesIn K C=true) (kcC:PySem.W.keepIn K (.ref C)=true) (na0:PySem.W.findIn K (.ref C) "prices"=some none) (na1:PySem.W.findIn K (.ref C) "things"=some none) (na2:PySem.W.findIn K (.ref C) "sums"=some none) (na3:PySem.W.findIn K (.ref C) "heads"=some none) (na4:PySem.W.findIn K (.ref C) "tails"=some none)
  (gF:PySem.W.nsIn K mainGlobals "FIRST"=some (some (.ref aF))) {dF dG:Option Addr} {tF tG:Tok} {nF nG:Nat} {eF eG:Array (Option Value)} (lF:K.lookup aF=some ⟨.type "tuple",dF,.seq #[.int 0 tF,.ref bF] nF,eF⟩) (lG:K.lookup bF=some ⟨.type "tuple",dG,.seq #[.int 0 tG] nG,eG⟩)
  {oc kV dc pm cd ct:Value} {od an:Option Addr} {sl:Array (Option Value)} (a1:PySem.W.nsIn K mainGlobals "law"=some (some (.ref fl))) (l1:K.lookup fl=some ⟨oc,od,.func (PySem.W.fnOf "law" "law" (a0N b1e) (a0H b1e) (a0d b1e) .none kV dc pm an cd ct),sl⟩) (c1:PySem.W.codeIn K cd "law"=true) (k1:PySem.W.keepIn K (.ref fl)=true) :
  ∃fd:FuncData,(∀(s:Shared) (v:Value),BindsTo s fd ⟨[v],[]⟩ [("script",v)])/\∀base:Heap,K.In base->base.Ns mainGlobals mg->(∃bm,L2.BMod mg base ts bm)->a0Y l.prog w K mg base CX0 66 fa fd ["script"] (b2L K (tbs T1 T2 T3 T4 T5)):=by
 have e:=hfa.symm.trans (c0h X G a1);cases e;have FL0:=a6U (st:=b1e) l1 c1 k1;obtain⟨f0,d0,q0⟩:=p0.get X G;obtain⟨f1,d1,q1⟩:=p1.get X G;obtain⟨f2,d2,q2⟩:=p2.get X G;obtain⟨f3,d3,q3⟩:=p3.get X G;obtain⟨f4,d4,q4⟩:=p4.get X G;obtain⟨f5,d5,q5⟩:=p5.get X G;obtain⟨f6,d6,q6⟩:=p6.get X G;obtain⟨f7,d7,q7⟩:=p7.get X G;obtain⟨f8,d8,q8⟩:=p8.get X G;obtain⟨f9,d9,q9⟩:=p9.get X G;obtain⟨f10,d10,q10⟩:=p10.get X G;obtain⟨f11,d11,q11⟩:=p11.get X G;obtain⟨f12,d12,q12⟩:=p12.get X G;obtain⟨f13,d13,q13⟩:=p13.get X G;obtain⟨f14,d14,q14⟩:=p14.get X G;obtain⟨f15,d15,q15⟩:=p15.get X G;obtain⟨f16,d16,q16⟩:=p16.get X G;obtain⟨f17,d17,q17⟩:=p17.get X G;obtain⟨f18,d18,q18⟩:=p18.get X G;obtain⟨f19,d19,q19⟩:=p19.get X G;obtain⟨f20,d20,q20⟩:=p20.get X G;obtain⟨f21,d21,q21⟩:=p21.get X G;obtain⟨f22,d22,q22⟩:=p22.get X G;obtain⟨f23,d23,q23⟩:=p23.get X G;obtain⟨f24,d24,q24⟩:=p24.get X G;obtain⟨g0,e0,c0,r0,h0,x0⟩:=t0.get X G;obtain⟨g1,e1,c1,r1,h1,x1⟩:=t1.get X G;obtain⟨g2,e2,c2,r2,h2,x2⟩:=t2.get X G;obtain⟨g3,e3,c3,r3,h3,x3⟩:=t3.get X G;obtain⟨g4,e4,c4,r4,h4,x4⟩:=t4.get X G;obtain⟨mI,nI,FI,aI,iI,kI⟩:=yI.get;obtain⟨mP,nP,FP,aP,iP,kP⟩:=yP.get;obtain⟨mL,nL,FL,aL,iL,kL⟩:=yL.get;obtain⟨mB,nB,FB,aB,iB,kB⟩:=yB.get;obtain⟨mR,nR,FR,aR,iR,kR⟩:=yR.get;obtain⟨mS,nS,FSs,aS,iS,kS⟩:=yS.get;obtain⟨mW,nW,FW,aW,iW,kW⟩:=yW.get;have B_len:=b7A X G z0;have B_range:=b7A X G z1;have B_tuple:=b7A X G z2;have B_sum:=b7A X G z3;have B_sorted:=b7A X G z4;have B_min:=b7A X G z5;have B_zip:=b7A X G z6;have B_all:=b7A X G z7;have B_dict:=b7A X G z8;refine⟨PySem.W.fnOf "law" "law" (a0N b1e) (a0H b1e) (a0d b1e) .none kV dc pm an cd ct,λs v=>.of_eq rfl,λbase _ _ hBM=>?_⟩;obtain⟨bm,BM⟩:=hBM;have LC0:b1f K mg base c0 T1 bm:=⟨x0,BM.hbm,BM.bo,BM.b1,BM.b2,BM.b3 _ (hT _ (by simp)),BM.b4 _ (hT _ (by simp))⟩
 have LC1:b1f K mg base c1 T2 bm:=⟨x1,BM.hbm,BM.bo,BM.b1,BM.b2,BM.b3 _ (hT _ (by simp)),BM.b4 _ (hT _ (by simp))⟩
 have LC2:b1f K mg base c2 T3 bm:=⟨x2,BM.hbm,BM.bo,BM.b1,BM.b2,BM.b3 _ (hT _ (by simp)),BM.b4 _ (hT _ (by simp))⟩
 have LC3:b1f K mg base c3 T4 bm:=⟨x3,BM.hbm,BM.bo,BM.b1,BM.b2,BM.b3 _ (hT _ (by simp)),BM.b4 _ (hT _ (by simp))⟩
 have LC4:b1f K mg base c4 T5 bm:=⟨x4,BM.hbm,BM.bo,BM.b1,BM.b2,BM.b3 _ (hT _ (by simp)),BM.b4 _ (hT _ (by simp))⟩
 have nd:Dst (tbs T1 T2 T3 T4 T5):=.of hnd;have FS:Fst K mg aF bF:=⟨c0h X G gF,λH=>.inr ⟨_,_,_,lF,rfl,rfl,(by show 2<=sizeLine;decide),.cons ⟨_,rfl⟩ (.cons rfl .nil)⟩,λH=>.inr ⟨_,_,_,lG,rfl,rfl,(by show 1<=sizeLine;decide),.cons ⟨_,rfl⟩ .nil⟩⟩
 have B_has_letters_alone:=a1a (P:=l.prog) (w:=w) (base:=base) q0 (b2h q0.F B_all) λ_ _ _ _ _ _=>al2 λ_ _=>rfl;have B_word_price:=a1a (P:=l.prog) (w:=w) (base:=base) q1 (b0p q1.F B_has_letters_alone B_len B_sum) λ_ _ _ _ _ _=>al2 λ_ _=>rfl;have B_cost:=a1a (P:=l.prog) (w:=w) (base:=base) q2 ((b2t q2.F B_word_price B_len B_sum B_zip).mono (show _<=6 by decide)) λ_ _ _ _ _ _=>al3 λ_ _ _=>rfl;have B_refuse_many:=a1a (P:=l.prog) (w:=w) (base:=base) q3 (b0e q3.F B_len) λ_ _ _ _ _ _=>al2 λ_ _=>rfl;have B_weight_left:=a1a (P:=l.prog) (w:=w) (base:=base) q6 (b4B q6.F B_len B_sorted B_sum) λ_ _ _ _ _ _=>al2 λ_ _=>rfl;have B_move_to:=a1a (P:=l.prog) (w:=w) (base:=base) q5 (b4C q5.F B_weight_left B_len B_sorted B_min B_tuple) λ_ _ _ _ _ _=>al4 λ_ _ _ _=>rfl;have B_moves:=a1a (P:=l.prog) (w:=w) (base:=base) q4 (b2d q4.F (B_refuse_many.up (show _<=2 by decide)) B_move_to B_len B_range B_sorted B_tuple) λ_ _ _ _ _ _=>al3 λ_ _ _=>rfl;have B_moves_reached:=a1a (P:=l.prog) (w:=w) (base:=base) q7 (a8A q7.F FS B_moves B_len) λ_ _ _ _ _ _=>al2 λ_ _=>rfl;have B_frontier_floors:=a1a (P:=l.prog) (w:=w) (base:=base) r2 (b0D (S:=(tbs T1 T2 T3 T4 T5)) r2.F h2 LC2 nd (by simp[tbs]) FS B_moves_reached B_len B_sorted B_min) λ_ _ _ _ _ _=>al2 λ_ _=>rfl;have B_free_moves:=a1a (P:=l.prog) (w:=w) (base:=base) r3 (ok_fm (S:=(tbs T1 T2 T3 T4 T5)) r3.F h3 LC3 nd (by simp[tbs]) FS B_frontier_floors (B_moves.up (show _<=5 by decide)) B_len B_min B_dict) λ_ _ _ _ _ _=>al2 λ_ _=>rfl;have B_led_to:=a1a (P:=l.prog) (w:=w) (base:=base) q9 ((ok_led q9.F B_moves).mono (show _<=5 by decide)) λ_ _ _ _ _ _=>al4 λ_ _ _ _=>rfl;have B_cheap_letters:=a1a (P:=l.prog) (w:=w) (base:=base) r0 (b2g (S:=(tbs T1 T2 T3 T4 T5)) r0.F h0 LC0 nd (by simp[tbs]) B_len B_sorted B_range) λ_ _ _ _ _ _=>al1 λ_=>rfl;have B_opened:=a1a (P:=l.prog) (w:=w) (base:=base) q10 (b0q q10.F B_cheap_letters (B_word_price.up (show _<=4 by decide))) λ_ _ _ _ _ _=>al3 λ_ _ _=>rfl;have B_in_own_order:=a1a (P:=l.prog) (w:=w) (base:=base) r1 ((ok_own (S:=(tbs T1 T2 T3 T4 T5)) r1.F h1 LC1 nd (by simp[tbs]) B_len B_sorted B_range B_zip B_tuple).mono (show _<=5 by decide)) λ_ _ _ _ _ _=>al2 λ_ _=>rfl;have B_code_of_moves:=a1a (P:=l.prog) (w:=w) (base:=base) q8 (ok_com q8.F FS (B_refuse_many.up (show _<=5 by decide)) B_led_to B_opened B_in_own_order B_len B_sorted) λ_ _ _ _ _ _=>al3 λ_ _ _=>rfl;have B_free_code:=a1a (P:=l.prog) (w:=w) (base:=base) q11 ((ok_fc q11.F B_code_of_moves B_free_moves B_cost).mono (show _<=65 by decide)) λ_ _ _ _ _ _=>al2 λ_ _=>rfl;have B_weight_sums:=a1a (P:=l.prog) (w:=w) (base:=base) q12 ((K77K.b5c q12.F).mono (show _<=2 by decide)) λ_ _ _ _ _ _=>al1 λ_=>rfl;have B_row_with:=a1a (P:=l.prog) (w:=w) (base:=base) q13 (K77K.ok_row q13.F) λ_ _ _ _ _ _=>al3 λ_ _ _=>rfl;have B_square:=a1a (P:=l.prog) (w:=w) (base:=base) q14 (K77K.b0Q q14.F B_row_with B_range) λ_ _ _ _ _ _=>al2 λ_ _=>rfl;have B_least:=a1a (P:=l.prog) (w:=w) (base:=base) q15 (K77K.b2A q15.F B_min) λ_ _ _ _ _ _=>al1 λ_=>rfl;have B_added:=a1a (P:=l.prog) (w:=w) (base:=base) q16 (K77K.b2B q16.F) λ_ _ _ _ _ _=>al2 λ_ _=>rfl;have rc:K77K.PC K C:=⟨⟨pgC,hdC,poC,saC⟩,na0,na1,na2,na3,na4⟩
 have ML:=b5v (P:=l.prog) (w:=w) (mg:=mg) (base:=base) FL ⟨aL,iL,kL⟩ (K77K.ok_ls FL B_least B_added rc B_range) λ_ _ _ _ _ _=>al5 λ_ _ _ _ _=>rfl;have MB:=b5v (P:=l.prog) (w:=w) (mg:=mg) (base:=base) FB ⟨aB,iB,kB⟩ (K77K.b2E FB (B_least.up (show _<=2 by decide)) ML rc B_len B_range) λ_ _ _ _ _ _=>al3 λ_ _ _=>rfl;have MP:=b5v (P:=l.prog) (w:=w) (mg:=mg) (base:=base) FP ⟨aP,iP,kP⟩ ((K77K.ok_put FP (B_least.up (show _<=2 by decide)) (B_added.up (show _<=2 by decide)) ML rc B_len B_range).mono (show _<=4 by decide)) λ_ _ _ _ _ _=>al4 λ_ _ _ _=>rfl;have MR:=b5v (P:=l.prog) (w:=w) (mg:=mg) (base:=base) FR ⟨aR,iR,kR⟩ (K77K.b5j FR MB rc B_range) λ_ _ _ _ _ _=>al2 λ_ _=>rfl;have MS:=b5v (P:=l.prog) (w:=w) (mg:=mg) (base:=base) FSs ⟨aS,iS,kS⟩ (K77K.b0W FSs MR rc B_range) λ_ _ _ _ _ _=>al1 λ_=>rfl;have MW:=b5v (P:=l.prog) (w:=w) (mg:=mg) (base:=base) FW ⟨aW,iW,kW⟩ (K77K.b5m FW (B_added.up (show _<=2 by decide)) rc B_len B_range) λ_ _ _ _ _ _=>al4 λ_ _ _ _=>rfl;have cl:K77K.Cl l.prog w K mg base C:=⟨rc,c0h X G gC,_,_,⟨mkC,aI,iI,kcC⟩,K77K.b2D FI B_weight_sums B_square rc B_len B_range,FI.binds (λ_ _ _ _ _ _=>al3 λ_ _ _=>rfl)⟩
 have B_parted_least:=a1a (P:=l.prog) (w:=w) (base:=base) q17 (K77K.ok_pl q17.F cl MP (MB.up (show _<=4 by decide)) B_len B_range) λ_ _ _ _ _ _=>al2 λ_ _=>rfl;have B_kept_words:=a1a (P:=l.prog) (w:=w) (base:=base) r4 (K77K.ok_kw r4.F h4 LC4 r4.m r4.k (r4.F.binds (λ_ _ _ _ _ _=>al3 λ_ _ _=>rfl)) q18.F q18.m q18.k (q18.F.binds (λ_ _ _ _ _ _=>al4 λ_ _ _ _=>rfl)) MW rc 20) λ_ _ _ _ _ _=>al3 λ_ _ _=>rfl;have B_cheapest_kept:=a1a (P:=l.prog) (w:=w) (base:=base) q19 (K77K.ok_ck (by decide) q19.F B_parted_least MS B_kept_words rc B_len B_tuple) λ_ _ _ _ _ _=>al2 λ_ _=>rfl;have B_law_cell_at:=a1a (P:=l.prog) (w:=w) (base:=base) q20 (b4z q20.F B_len) λ_ _ _ _ _ _=>al2 λ_ _=>rfl;have B_law_amount:=a1a (P:=l.prog) (w:=w) (base:=base) q21 (b0c q21.F) λ_ _ _ _ _ _=>al1 λ_=>rfl;have B_law_prices:=a1a (P:=l.prog) (w:=w) (base:=base) q22 ((b0h q22.F B_law_cell_at B_law_amount B_range B_tuple).mono (show _<=65 by decide)) λ_ _ _ _ _ _=>al1 λ_=>rfl;have B_law_weights:=a1a (P:=l.prog) (w:=w) (base:=base) q23 ((a8w q23.F B_law_cell_at B_law_amount B_range B_tuple B_min).mono (show _<=65 by decide)) λ_ _ _ _ _ _=>al2 λ_ _=>rfl;have B_law_orders:=a1a (P:=l.prog) (w:=w) (base:=base) q24 ((b1b q24.F B_len B_range).mono (show _<=65 by decide)) λ_ _ _ _ _ _=>al1 λ_=>rfl;exact ok_law (S:=(tbs T1 T2 T3 T4 T5)) nd (by simp[tbs]) FL0 B_law_prices B_law_weights B_free_code B_law_orders B_cheapest_kept B_len B_sum B_min
theorem walk {l:PySem.W.OpenLaw} {q:Program} {loose:List Str} {XP:(Str->Option Value)->Heap->Prop} {YP:World->Heap->Prop} {d:DefRec} {K:Params->PySem.W.Frag} {ts:List Addr} {T1 T2 T3 T4 T5:Addr} (hT:∀T∈[T1,T2,T3,T4,T5],T∈ts) (hn:l.most=some 63) (hdf:d.params.defaults=[])
  (hY:∀(w:World) (h:Heap),YP w h->(K w.params).In h/\∀T∈ts,h.get? T=some (PySem.W.tabObj #[]))
  (hC:∀(w:World),∀T∈ts,(∃c,PySem.W.codeHdIn (K w.params) c T=true)/\(K w.params).lookup T=none)
  (F:∀(w:World) (mg:Str->Option Value) (fa:Addr) (h:Heap),(K w.params).In h->h.Ns mainGlobals mg->mg d.name=some (.ref fa) ->
   ∃fd:FuncData,(∀(s:Shared) (u:Value),BindsTo s fd ⟨[u],[]⟩ [("script",u)])/\∀base:Heap,(K w.params).In base->base.Ns mainGlobals mg->(∃bm,L2.BMod mg base ts bm)->a0Y l.prog w (K w.params) mg base CX0 66 fa fd ["script"] (b2L (K w.params) (tbs T1 T2 T3 T4 T5))) :
  PySem.W.WalkO q loose XP YP l.row.toRowW d [] (λf vs=>PySem.call f vs) :=
 L2.b1M (n:=63) (k:=66) (x:="script") (ts:=ts) (CX:=λ_=>CX0) (sp:=λw=>b2L (K w.params) (tbs T1 T2 T3 T4 T5)) hn (by decide) hdf ⟨rfl,by decide,by decide⟩ hY hC F (λ_ _ a ns hl hO hS=>⟨a,ns,rfl,hS,hl,λt ht=>.inl (hO t.1 (hT t.1 (by simp only[tbs,b5Q,b6L,b8K] at ht;rcases ht with rfl|rfl|rfl|rfl|rfl<;>simp))),λ_=>rfl⟩) λ_ _ _ _ _ z=>z
end K77
namespace PySem.W.Fast
def tw11210648451769510971:=0
def tw9378458550135178127:=0
def tw17443363376806518692:=0
def tw12090062091089908966:=0
def tw13649827208549892170:=0
def tw287351983352515436:=0
def tw14286514928739563237:=0
def tw9779522323471461012:=0
def tw1270014483038132800:=0
def tw18086250822853864880:=0
def tw15036956510781804140:=0
def tw5837041967342320863:=0
def tw3043794503960894098:=0
def tw2725021904429927356:=0
def tw13583184114704729070:=0
def tw2233309690559510937:=0
def tw5219802603682361959:=0
def tw7160587430720044703:=0
def tw15859864981116333881:=0
def tw13234207572266610676:=0
def tw16088732684556738381:=0
def tw4721399282411253211:=0
def tw6973908646541672103:=0
def tw16262434036533228954:=0
def tw12814803209039848350:=0
def tw17429024658978724629:=0
def tw2124669938852790145:=0
def tw10005417150119908779:=0
def tw17620728672980958594:=0
def tw14065516002387026581:=0
def tw2340617265034741939:=0
def tw3541694162636926979:=0
def tw1149765321564107900:=0
def tw16514299707699656356:=0
def tw18217356545868559653:=0
def tw16204445992915509827:=0
def tw8821483491911626766:=0
def tw1016074858256494667:=0
def tw9952070701537851140:=0
def tw10496007983714182128:=0
def tw8397535420965781630:=0
def tw3417132317045283083:=0
def tw9815487965605931442:=0
def tw2163847408239792796:=0
def tw15417223487310853181:=0
def tw13246808151526118718:=0
def tw4260570361095275741:=0
def tw13811569574339349523:=0
def tw13496241387760977704:=0
def tw15638822826855639513:=0
def tw1381641268455639770:=0
def tw16218171235417225038:=0
def tw18249649220667415578:=0
def tw14366034837469082036:=0
def tw9478820001138081678:=0
def tw8873950856012193539:=0
def tw3154109085448702840:=0
def tw6073720887660999836:=0
def tw815510149811690073:=0
def tw4307895169752458748:=0
def tw2641649534767372057:=0
def tw2925945754101391278:=0
def tw10834550350499686008:=0
def tw9102554369892903009:=0
def tw8161598600683215487:=0
def tw5427087583661237336:=0
def tw3721312115684942410:=0
def tw8971930767615437274:=0
def tw173045025139767060:=0
def tw16289230652461144713:=0
def tw2272115226383076217:=0
def tw8704359209736994:=0
def tw7930897807471929621:=0
def tw13119940954031809807:=0
def tw10438432056143838928:=0
def tw14960049330170941213:=0
def tw12526921157191899651:=0
def tw195955034806714694:=0
def tw11644075147075763303:=0
def tw14934555759672275348:=0
def tw14592322757643880986:=0
def tw4614332932093501840:=0
def tw16791005101809578216:=0
def tw14749680235283046224:=0
def tw5765554171504467223:=0
def tw12876138107315366965:=0
def tw1389235169441189139:=0
def tw4298530691459009517:=0
def tw12899108193724393319:=0
def tw12443705464474408870:=0
def tw15800141817044145269:=0
def tw8358999692658820359:=0
def tw16567113938679840020:=0
def tw1106019357037200906:=0
def tw960407221430734431:=0
def tw9996159299471690013:=0
def tw6189880349174188639:=0
def tw4965906990468117791:=0
def tw16447244296181515880:=0
def tw5270438732435843539:=0
def tw13800316381249321214:=0
def tw10145735793064818294:=0
def tw14576307094147947936:=0
def tw12776841084284832673:=0
def tw928448598343138165:=0
def tw14188298401274250202:=0
def tw17196680670453622484:=0
def tw6073966565592107828:=0
def tw15318156931899560084:=0
def tw8361845471749215935:=0
def tw16569946436032176794:=0
def tw17194417478978528235:=0
def tw6683594470954815307:=0
def tw17868441022592590846:=0
def tw18208651512306706647:=0
def tw9652899203481507409:=0
def tw9573249573957344759:=0
def tw1880515705257467187:=0
def tw3411552052268922466:=0
def tw15690166415737194788:=0
def tw7732895938443691107:=0
def tw7985330401550638411:=0
def tw18143334863267217428:=0
def tw16476049249633615142:=0
def tw8382667074043572394:=0
def tw8818884928537840857:=0
def tw13292969494414268902:=0
def tw13100642746000080740:=0
def tw5866454136698736139:=0
def tw4298979260236254804:=0
def tw8872180338720011051:=0
def tw4185479121393922546:=0
def tw10306622185447190700:=0
def tw10139128653240494889:=0
def tw8696969081670861948:=0
def tw1209211781166488544:=0
def tw11603220619728929368:=0
def tw11436205029969774119:=0
def tw3862073103546057954:=0
def tw951071350195213147:=0
def tw3484708987404804728:=0
def tw3819090321102013838:=0
def tw12269177087217841736:=0
def tw12880659939180391014:=0
def tw3735129263222008767:=0
def tw12218695601678131963:=0
def tw10675368534999847836:=0
def tw7273396135349944142:=0
def tw4038610891645748986:=0
def tw264174744040324722:=0
def tw3753398189832514468:=0
def tw11319101899766078094:=0
def tw1780362893214538595:=0
def tw6022988332911452302:=0
def tw8019642003260886448:=0
def tw12964654714729528764:=0
def tw5800683196967629690:=0
def tw3412880551785340850:=0
def tw2762094040297460175:=0
def tw17305530117534074466:=0
def tw16228060314775082891:=0
def tw11974544566318497499:=0
def tw10632360693642273742:=0
def tw15329096765849394773:=0
def tw9865666311349994433:=0
def tw9752013438599368799:=0
def tw9751658557088923476:=0
def tw8590717996230666839:=0
def tw8484521763872014909:=0
def tw8104667132498042892:=0
def tw7770849520247391039:=0
def tw5996911546313806840:=0
def tw4036426955693818465:=0
def tw3885778393931590347:=0
def tw18101742566912137954:=0
def tw18020311197369631386:=0
def tw16971792581080894201:=0
def tw16903055058444967929:=0
def tw1663188547529177985:=0
def tw15947722722058192940:=0
def tw15886089077882172674:=0
def tw15628641493959862522:=0
def tw15345602377376328:=0
def tw15197626576310311295:=0
def tw13334795628257444494:=0
def tw12801739786358054571:=0
def tw10951162422109926104:=0
def tw10910455710451873495:=0
def tw15475388988362005991:=0
def tw16377964764404578757:=0
def tw17684823779895752449:=0
def tw16454900573867164177:=0
def tw6410219275018052089:=0
def tw16535864389452202720:=0
def tw15408128878609749663:=0
def tw10948925099288801718:=0
def tw6991825446227665747:=0
def tw14646077919534210696:=0
def tw7104062010208404620:=0
def tw595841964664601446:=0
end PySem.W.Fast
open PySem PySem.W PyProof.Rows
set_option maxRecDepth 100000 in
set_option maxHeartbeats 0 in
theorem PySem.Challenge.cw_lettertoll_k77_whole_all_orders_holds : PySem.Challenge.rw_lettertoll_k77_whole_all_orders.Holds := by
 w_on;o_law;k_head;(case hw=>w_witness2)
 k_fill
 refine K77.walk (T1:=144) (T2:=156) (T3:=120) (T4:=161) (T5:=278) (l:=PySem.Challenge.rw_lettertoll_k77_whole_all_orders) ?hT rfl rfl (fun w h Y=>⟨PySem.W.km_in_of Y,PySem.W.km_tabs_of Y⟩) ?hC ?F
 (case hT=>decide)
 case hC =>
  intro w T hT
  simp only [List.mem_cons,List.not_mem_nil,or_false] at hT
  rcases hT with rfl | rfl | rfl | rfl | rfl
  ·exact ⟨⟨282,by kernel_rfl⟩,by kernel_rfl⟩
  ·exact ⟨⟨122,by kernel_rfl⟩,by kernel_rfl⟩
  ·exact ⟨⟨165,by kernel_rfl⟩,by kernel_rfl⟩
  ·exact ⟨⟨158,by kernel_rfl⟩,by kernel_rfl⟩
  ·exact ⟨⟨148,by kernel_rfl⟩,by kernel_rfl⟩
 case F =>
  intro w mg fa h KX G hmg
  refine' K77.all_mk (T1:=144) (T2:=156) (T3:=120) (T4:=161) (T5:=278) (by decide) (by decide) KX G hmg ?_ (.mk ?_ ?_ ?_ ?_) (.mk ?_ ?_ ?_ ?_) (.mk ?_ ?_ ?_ ?_) (.mk ?_ ?_ ?_ ?_) (.mk ?_ ?_ ?_ ?_) (.mk ?_ ?_ ?_ ?_) (.mk ?_ ?_ ?_ ?_) (.mk ?_ ?_ ?_ ?_) (.mk ?_ ?_ ?_ ?_) (.mk ?_ ?_ ?_ ?_) (.mk ?_ ?_ ?_ ?_) (.mk ?_ ?_ ?_ ?_) (.mk ?_ ?_ ?_ ?_) (.mk ?_ ?_ ?_ ?_) (.mk ?_ ?_ ?_ ?_) (.mk ?_ ?_ ?_ ?_) (.mk ?_ ?_ ?_ ?_) (.mk ?_ ?_ ?_ ?_) (.mk ?_ ?_ ?_ ?_) (.mk ?_ ?_ ?_ ?_) (.mk ?_ ?_ ?_ ?_) (.mk ?_ ?_ ?_ ?_) (.mk ?_ ?_ ?_ ?_) (.mk ?_ ?_ ?_ ?_) (.mk ?_ ?_ ?_ ?_) (.mk ?_ ?_ ?_ ?_ ?_) (.mk ?_ ?_ ?_ ?_ ?_) (.mk ?_ ?_ ?_ ?_ ?_) (.mk ?_ ?_ ?_ ?_ ?_) (.mk ?_ ?_ ?_ ?_ ?_) (.mk ?_ ?_ ?_ ?_ ?_) (.mk ?_ ?_ ?_ ?_ ?_) (.mk ?_ ?_ ?_ ?_ ?_) (.mk ?_ ?_ ?_ ?_ ?_) (.mk ?_ ?_ ?_ ?_ ?_) (.mk ?_ ?_ ?_ ?_ ?_) (.mk ?_ ?_ ?_ ?_ ?_) ?_ ?_ ?_ ?_ ?_ ?_ ?_ ?_ ?_ ?_ ?_ ?_ ?_ ?_ ?_ ?_ ?_ ?_ ?_ ?_ ?_ ?_ ?_ ?_ ?_ ?_ ?_
  any_goals first | k_is | kernel_rfl
